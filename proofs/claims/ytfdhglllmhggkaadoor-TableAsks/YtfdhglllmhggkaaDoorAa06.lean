/-
  What the functions that the statement reaches return: part 6 (BG, BH, BM, BN, BO, BQ, BS).
-/
import Derived.Maps.Own
import Derived.Maps.Views
import Derived.StringKeys
import Derived.Test.YtfdhglllmhggkaaDoorAa05
namespace Go.Proofs.YtfdhglllmhggkaaDoor
set_option maxRecDepth 100000
set_option maxHeartbeats 40000000
set_option maxRecDepth 100000
open Go.RowKit WMath
set_option linter.unusedSimpArgs false
set_option linter.unusedVariables false
def OutAt (w0 wr : World) (v : Value) (l : List Nm) : Prop := wr.ownsRow (w0.heap.size + 1) 38 8 v l.length (ndsC l) ∧ Below w0.heap.size w0 wr ∧ wr.heap[w0.heap.size]? = some (.cells lnsC 62)
theorem OutAt.below {w0 w w' : World} {v : Value} {l : List Nm} (h : OutAt w0 w v l) (hb : Below w.heap.size w w') : OutAt w0 w' v l := by
  obtain ⟨h1, h2, h3⟩ := h
  refine ⟨⟨h1.1, ?_⟩, btr h2 hb, heap_of hb _ _ _ h3⟩
  rcases h1.2 with q | ⟨g, cap, cur, a1, a2, a3, a4⟩
  · exact Or.inl q
  · exact Or.inr ⟨g, cap, cur, a1, a2, heap_of hb _ _ _ a3, a4⟩
theorem OutAt.app {w0 w1 w3 : World} {v v' : Value} {l : List Nm} {p : Nm} {o : Obj} (h : OutAt w0 w1 v l) (ho : w3.ownsRow (w0.heap.size + 1) 38 8 v' (l.length + 1) (ndsC l ++ nmC p)) (hg : (w1.alloc o).grownBy w3 v.ownBlock) : OutAt w0 w3 v' (l ++ [p]) := by
  obtain ⟨h1, h2, h3⟩ := h
  have lt := (Array.getElem?_eq_some_iff.1 h3).1
  refine ⟨?_, (h2.alloc h2.size o).grown hg (by simp only [size_al]; have := h2.size; omega) (fun q hq => by have := (h1.lt q hq).1; omega), ?_⟩
  · rw [ndsC_app, show ndsC [p] = nmC p from by simp [ndsC], List.length_append]
    exact ho
  · rw [hg.block _ (by simp only [size_al]; omega) (fun z => by have := (h1.lt _ z.symm).1; omega)]
    exact heap_of (bal w1 _) _ _ _ h3
theorem OutAt.keep {w1 w3 : World} {v v' : Value} {o : Obj} {g : Nat} {c : Array Value} {T : TypeId} (hr : w1.heap[g]? = some (.cells c T)) (hn : v.ownBlock ≠ some g) (hg : (w1.alloc o).grownBy w3 v.ownBlock) (hb : v'.ownBlock = v.ownBlock ∨ v'.ownBlock = some (w1.alloc o).heap.size) : w3.heap[g]? = some (.cells c T) ∧ v'.ownBlock ≠ some g := by
  have lt := (Array.getElem?_eq_some_iff.1 hr).1
  refine ⟨?_, ?_⟩
  · rw [hg.block g (by simp only [size_al]; omega) (fun z => hn z.symm)]
    exact heap_of (bal w1 _) _ _ _ hr
  · rcases hb with q | q
    · rw [q]; exact hn
    · rw [q]; intro z; simp only [size_al] at z; injection z with z; omega
theorem lnC_fold (l : Ln) : #[Value.int .u8 (l.op : Nat), .string ⟨l.nm.toArray⟩, .int .i64 (l.opc : Nat), .int .i64 l.rs3, .int .i64 l.rm, .int .i64 l.rs2, .int .u8 (l.lay : Nat), .bool l.noq, .bool l.frm, .bool l.knd, .bool l.nof, .bool l.szs] = lnC l := rfl
theorem lnC_fold2 (l : Ln) (a b c d : Bool) (p1 : l.noq = a) (p2 : l.nof = b) (p3 : l.frm = c) (p4 : l.knd = d) : #[Value.int .u8 (l.op : Nat), .string ⟨l.nm.toArray⟩, .int .i64 (l.opc : Nat), .int .i64 l.rs3, .int .i64 l.rm, .int .i64 l.rs2, .int .u8 (l.lay : Nat), .bool a, .bool c, .bool d, .bool b, .bool l.szs] = lnC l := by
  rw [← p1, ← p2, ← p3, ← p4]
  rfl
theorem lnC_new (w : World) (b : Nat) (l : Ln) (hb : b = w.heap.size) : (storeCells ⟨b, 0, none⟩ (lnC l).toList 0).run Tryd.prog (w.alloc (.cells #[.int .u8 0, .string ⟨#[]⟩, .int .i64 0, .int .i64 0, .int .i64 0, .int .i64 0, .int .u8 0, .bool false, .bool false, .bool false, .bool false, .bool false] 62)) = .ok () (w.alloc (.cells (lnC l) 62)) := by
  subst hb
  exact run_storeCells_new (P := Tryd.prog) w 62 #[.int .u8 0, .string ⟨#[]⟩, .int .i64 0, .int .i64 0, .int .i64 0, .int .i64 0, .int .u8 0, .bool false, .bool false, .bool false, .bool false, .bool false] (lnC l) (by kernel_rfl) rfl (by simp [lnC]; exact ⟨rfl, rfl, rfl, rfl, rfl, rfl, rfl, rfl, rfl, rfl, rfl, rfl⟩)
theorem new_cells24 (w : World) (l : Array Value) (T : TypeId) : ∀ j u, l.toList[j]? = some u → (w.alloc (.cells l T)).cell? ((⟨w.heap.size, 0, none⟩ : Addr).add j) = some u := fun j u h => by
  have hadd : (⟨w.heap.size, 0, none⟩ : Addr).add j = ⟨w.heap.size, j, none⟩ := by unfold Addr.add; split <;> simp_all
  rw [hadd]
  exact cell7 (last7 _ _) j u (by simpa using h)
theorem nm_one (r : Rw) (s : List UInt8) : ∀ u ∈ (ndC r ⟨s.toArray⟩).toList, u.oneCell' = true := fun x hx => by
  simp [ndC] at hx
  rcases hx with rfl | rfl | rfl | rfl | rfl | rfl | rfl | rfl <;> rfl
theorem wpl_one24 {ops : Array Oper} {rest : List Oper} {o : Oper} {a : Act} {w : World} {Q : Exit → Act → World → Prop} (hg : o.guard = none) (parts : Array (Nat × Operand)) (ho : o.op = .buildSlice 22 1 parts) (x : Operand) (hp : parts = #[(0, x)]) (r : Rw) (s : ByteArray) (hx : a.eval x = .agg (ndC r s))
    (h : wpList Tryd.prog ops Q rest (a.put o.dst (.slice (some ⟨w.heap.size, 0, none⟩) 1 1)) (w.alloc (.cells (ndC r s) 38))) : wpList Tryd.prog ops Q (o :: rest) a w := by
  obtain ⟨i0, hi, hz0, hz1, hz2⟩ := info_parts (show (Tryd.prog.info? 38).map (fun i => (i.zero, i.size, i.bytes)) = some (some (.agg #[.int .u8 0, .int .u8 0, .int .u8 0, .int .u8 0, .int .u32 0, .int .u32 0, .int .u8 0, .string ⟨#[]⟩]), 8, 32) by kernel_rfl)
  subst hp
  refine wpList_buildSlice hg 22 38 1 _ ho (ndC r s) i0 _ Tryd.underlying22 hi hz0 ?_ ?_ ?_ h
  · rw [hz1]; decide
  · rw [hz1]; decide
  · rw [hz1]
    simp only [List.map_toArray, List.map_cons, List.map_nil, hx]
    kernel_rfl
def Pat (l : Ln) (a b c d : Bool) : Prop := l.noq = a ∧ l.nof = b ∧ l.frm = c ∧ l.knd = d
theorem pats : ∀ k : Fin 31, ∀ l, linesL[k.val]? = some l → Pat l false false false false ∨ Pat l false false true false ∨ Pat l false false false true ∨ Pat l true false false false ∨ Pat l false true false false := by
  intro k l h
  rcases k with ⟨k, hk⟩
  have : k = 0 ∨ k = 1 ∨ k = 2 ∨ k = 3 ∨ k = 4 ∨ k = 5 ∨ k = 6 ∨ k = 7 ∨ k = 8 ∨ k = 9 ∨ k = 10 ∨ k = 11 ∨ k = 12 ∨ k = 13 ∨ k = 14 ∨ k = 15 ∨ k = 16 ∨ k = 17 ∨ k = 18 ∨ k = 19 ∨ k = 20 ∨ k = 21 ∨ k = 22 ∨ k = 23 ∨ k = 24 ∨ k = 25 ∨ k = 26 ∨ k = 27 ∨ k = 28 ∨ k = 29 ∨ k = 30 := by omega
  rcases this with rfl | rfl | rfl | rfl | rfl | rfl | rfl | rfl | rfl | rfl | rfl | rfl | rfl | rfl | rfl | rfl | rfl | rfl | rfl | rfl | rfl | rfl | rfl | rfl | rfl | rfl | rfl | rfl | rfl | rfl | rfl <;> (cases h; first | exact Or.inl ⟨rfl, rfl, rfl, rfl⟩ | exact Or.inr (Or.inl ⟨rfl, rfl, rfl, rfl⟩) | exact Or.inr (Or.inr (Or.inl ⟨rfl, rfl, rfl, rfl⟩)) | exact Or.inr (Or.inr (Or.inr (Or.inl ⟨rfl, rfl, rfl, rfl⟩))) | exact Or.inr (Or.inr (Or.inr (Or.inr ⟨rfl, rfl, rfl, rfl⟩))))
theorem linesL_mem {k : Nat} {l : Ln} (h : linesL[k]? = some l) : l ∈ linesL := List.mem_of_getElem? h
theorem pre_len {k : Nat} (hk : k ≤ 31) : (preL k).length ≤ 136 := preL_len ⟨k, by omega⟩
theorem preF_len (l : Ln) : ∀ f, (preF l f).length ≤ 4 * f
  | 0 => by simp [preF]
  | f + 1 => by rw [preF_next, List.length_append]; have := preF_len l f; have := formL_len l f; omega
theorem preN_len (l : Ln) (f : Nat) : ∀ n, (preN l f n).length ≤ n
  | 0 => by simp [preN]
  | n + 1 => by
    rw [preN_next, List.length_append]
    have := preN_len l f n
    have h : (inL l f n).length ≤ 1 := by unfold inL; (repeat' split) <;> simp
    omega
theorem form_skip {l : Ln} {f : Nat} (h : l.noq = true ∧ f = 3 ∨ l.nof = true ∧ 0 < f) : formL l f = [] := by unfold formL; rw [if_pos h]
theorem form_go {l : Ln} {f : Nat} (h : ¬ (l.noq = true ∧ f = 3 ∨ l.nof = true ∧ 0 < f)) : formL l f = preN l f 4 := by unfold formL preN; rw [if_neg h]
set_option maxRecDepth 100000 in
set_option maxHeartbeats 8000000 in
theorem b24_all (w : World) (KR : Box (∀ (l : Ln) (f g k : Nat), l ∈ linesL → f < 4 → g < 4 → k < 4 → ∀ w, Calls Tryd.prog 27 #[.agg (lnC l), .int .u8 (f : Nat), .int .u8 (g : Nat), .int .u8 (k : Nat)] w fun r w' => r = .returned (.agg (ndC (rwL l f g k) ⟨(nmL l f g k).toArray⟩)) ∧ Below w.heap.size w w')) :
    Calls Tryd.prog 9 #[] w fun r w' => ∃ v, r = .returned v ∧ OutAt w w' v allL := by
  obtain ⟨i0, hi, hz0, hz1, hz2⟩ := info_parts (show (Tryd.prog.info? 38).map (fun i => (i.zero, i.size, i.bytes)) = some (some (.agg #[.int .u8 0, .int .u8 0, .int .u8 0, .int .u8 0, .int .u32 0, .int .u32 0, .int .u8 0, .string ⟨#[]⟩]), 8, 32) by kernel_rfl)
  go_enter Tryd.func9, Tryd.ntmps9
  go_wp2_with fail
  refine (b24_lines _).mono ?_
  rintro r w' ⟨rfl, rfl⟩
  go_wp2
  go_loopw [1, 3] (fun v iv wr => ∃ k : Nat, k ≤ 31 ∧ iv = .int .i64 (k : Int) ∧ OutAt w wr v (preL k)) (fun _ iv _ => 31 - (intOf iv).toNat)
  case atStart => exact ⟨0, Nat.zero_le _, rfl, World.ownsRow_nil _ _ _ _, bal w _, last7 _ _⟩
  case round =>
    obtain ⟨k, hk, rfl, hO⟩ := hrel
    obtain ⟨wo, rfl⟩ : ∃ wo, wo = wr := ⟨_, rfl⟩
    by_cases hlt : k < 31
    case neg =>
      have k31 : k = 31 := by omega
      subst k31
      go_wp2
      go_ret
      exact ⟨_, rfl, by rw [preL_all] at hO; exact hO⟩
    obtain ⟨l, hl⟩ : ∃ l, linesL[k]? = some l := ⟨_, List.getElem?_eq_getElem (by rw [linesL_len]; exact hlt)⟩
    have HM := box (linesL_mem hl)
    have HN := box (preL_next k l hl)
    have HP := box (pre_len hk)
    have hrow := hO.2.2
    have hel := fun j (hj : j < 12) u (hu : (lnC l)[j]? = some u) => cell7 hrow (k * 12 + j) u ((lnsC_at k j l hl hj).trans hu)
    have e0 := hel 0 (by decide) (.int .u8 (l.op : Nat)) rfl
    have e1 := hel 1 (by decide) (.string ⟨l.nm.toArray⟩) rfl
    have e2 := hel 2 (by decide) (.int .i64 (l.opc : Nat)) rfl
    have e3 := hel 3 (by decide) (.int .i64 l.rs3) rfl
    have e4 := hel 4 (by decide) (.int .i64 l.rm) rfl
    have e5 := hel 5 (by decide) (.int .i64 l.rs2) rfl
    have e6 := hel 6 (by decide) (.int .u8 (l.lay : Nat)) rfl
    have e7 := hel 7 (by decide) (.bool l.noq) rfl
    have e8 := hel 8 (by decide) (.bool l.frm) rfl
    have e9 := hel 9 (by decide) (.bool l.knd) rfl
    have e10 := hel 10 (by decide) (.bool l.nof) rfl
    have e11 := hel 11 (by decide) (.bool l.szs) rfl
    simp only [Nat.add_zero] at e0
    clear hel
    have HO := box hO
    have dl : decide ((k : Int) < 31) = true := decide_eq_true (by omega)
    have hw1 : IntKind.i64.wrap ((k : Int) + 1) = ((k + 1 : Nat) : Int) := by rw [IntKind.wrap_i64]; omega
    have hfo := lnC_fold l
    have hlt2 : w.heap.size < wo.heap.size := (Array.getElem?_eq_some_iff.1 hrow).1
    obtain ⟨P, hP⟩ : ∃ P, preL k = P := ⟨_, rfl⟩
    rw [hP] at HO HN HP
    have hO0 := HO.out
    have hpt := pats ⟨k, hlt⟩ l hl
    clear hl hrow hO
    have hnew := lnC_new
    have hOV := hO0.below (bal wo (.cells (lnC l) 62))
    have hRV := last7 wo (.cells (lnC l) 62)
    have hne : ∀ v : Value, OutAt w wo v P → v.ownBlock ≠ some wo.heap.size := fun v h z => by have := (h.1.lt _ z).2; omega
    have HNE := box hne
    clear hne
    have HOV := box hOV
    clear hOV
    rcases hpt with hpt | hpt | hpt | hpt | hpt
    · obtain ⟨p1, p2, p3, p4⟩ := hpt
      have Q1 := box p1
      have Q2 := box p2
      have Q3 := box p3
      have Q4 := box p4
      have HF5 := box (lnC_fold2 l _ _ _ _ p1 p2 p3 p4)
      clear p1 p2 p3 p4
      go_wp2_with fail
      go_wp2
      go_loopw [1, 5] (fun v fv wx => ∃ f : Nat, f ≤ 4 ∧ fv = .int .u8 (f : Int) ∧ OutAt w wx v (P ++ preF l f) ∧ wx.heap[wo.heap.size]? = some (.cells (lnC l) 62) ∧ v.ownBlock ≠ some wo.heap.size) (fun _ fv _ => 4 - (intOf fv).toNat)
      case atStart => exact ⟨0, Nat.zero_le _, rfl, by rw [show preF l 0 = [] from rfl, List.append_nil]; exact HOV.out, hRV, HNE.out _ HO.out⟩
      case round =>
        obtain ⟨f, hf, rfl, hO2, hR2, hn2⟩ := hrel
        by_cases hfl : f < 4
        case neg =>
          have f4 : f = 4 := by omega
          subst f4
          go_wp2
          go_roundw
          case rel => exact ⟨k + 1, by omega, by first | rfl | (simp; done) | (simp; omega), by rw [HN.out]; exact hO2⟩
          case measure => simp [intOf]; omega
        have hf4 := hfl
        have df : decide ((f : Int) < 4) = true := decide_eq_true (by omega)
        have hwf : (f : Int) % 256 = (f : Int) := by omega
        have hwf1 : IntKind.u8.wrap ((f : Int) + 1) = ((f + 1 : Nat) : Int) := by rw [IntKind.wrap_u8]; omega
        obtain ⟨c0, c1, c2, c3, c4, c5, c6, c7, c8, c9, c10, c11⟩ := lnC_cells hR2
        rw [Q1.out] at c7
        rw [Q2.out] at c10
        have HGO : Box (¬ (l.noq = true ∧ f = 3 ∨ l.nof = true ∧ 0 < f)) := box (by rw [Q1.out, Q2.out]; simp)
        go_wp2
        clear c0 c1 c2 c3 c4 c5 c6 c7 c8 c9 c10 c11
        go_loopw [1, 6] (fun v nv wx => ∃ n : Nat, n ≤ 4 ∧ nv = .int .i64 (n : Int) ∧ OutAt w wx v (P ++ preF l f ++ preN l f n) ∧ wx.heap[wo.heap.size]? = some (.cells (lnC l) 62) ∧ v.ownBlock ≠ some wo.heap.size) (fun _ nv _ => 4 - (intOf nv).toNat)
        case atStart => exact ⟨0, Nat.zero_le _, rfl, by rw [show preN l f 0 = [] from rfl, List.append_nil]; exact hO2, hR2, hn2⟩
        case round =>
          clear hO2 hR2 hn2
          obtain ⟨n, hn, rfl, hO3, hR3, hn3⟩ := hrel
          by_cases hnl : n < 4
          case neg =>
            have n4 : n = 4 := by omega
            subst n4
            have dn : decide ((4 : Int) < 4) = false := rfl
            go_wp2
            go_roundw
            case rel => exact ⟨f + 1, by omega, by first | rfl | (simp; done) | (simp; omega), by rw [preF_next, form_go (l := l) (f := f) HGO.out, ← List.append_assoc]; exact hO3, hR3, hn3⟩
            case measure => simp [intOf]; omega
          have dn : decide ((n : Int) < 4) = true := decide_eq_true (by omega)
          have hwn : IntKind.i64.wrap ((n : Int) + 1) = ((n + 1 : Nat) : Int) := by rw [IntKind.wrap_i64]; omega
          have hun : (n : Int) % 256 = (n : Int) := by omega
          obtain ⟨c0, c1, c2, c3, c4, c5, c6, c7, c8, c9, c10, c11⟩ := lnC_cells hR3
          rw [Q1.out] at c7
          rw [Q2.out] at c10
          rw [Q3.out] at c8
          rw [Q4.out] at c9
          have hle : (P ++ preF l f ++ preN l f n).length ≤ 200 := by
            have a1 := HP.out; have a2 := preF_len l f; have a3 := preN_len l f n
            simp only [List.length_append]
            omega
          by_cases n0 : n = 0
          · have dz : decide ((0 : Int) < (n : Int)) = false := decide_eq_false (by omega)
            have hin : inL l f n = [(rwL l f 0 0, nmL l f 0 0)] := by unfold inL; rw [if_neg (by rw [Q3.out]; simp), if_neg (by rw [Q4.out]; simp), if_neg (by rw [Q3.out]; simp; omega)]
            have hf5 := HF5.out
            have K := KR.out l f 0 0 HM.out hf4 (by omega) (by omega)
            obtain ⟨rr, hrr⟩ : ∃ x, rwL l f 0 0 = x := ⟨_, rfl⟩
            obtain ⟨nn, hnn⟩ : ∃ x, nmL l f 0 0 = x := ⟨_, rfl⟩
            rw [hrr, hnn] at K hin
            have HIN := box hin
            clear hin hrr hnn
            go_wp2_with fail
            refine (K _).mono ?_
            rintro r9 w5 ⟨rfl, b5⟩
            have hO5 := hO3.below b5
            have hR5 := heap_of b5 _ _ _ hR3
            clear hO3 hR3 b5 c0 c1 c2 c3 c4 c5 c6 c7 c8 c9 c10 c11
            have hs5 := hO5.2.1.size
            have hs6 : w.heap.size < w5.heap.size := (Array.getElem?_eq_some_iff.1 hO5.2.2).1
            go_wp2_with (first | (refine wpl_one24 rfl _ rfl _ rfl rr ⟨nn.toArray⟩ rfl ?_) | (at_builtin; refine wpList_append_own_at _ rfl _ _ 22 rfl (w.heap.size + 1) 38 i0 (.agg #[.int .u8 0, .int .u8 0, .int .u8 0, .int .u8 0, .int .u32 0, .int .u32 0, .int .u8 0, .string ⟨#[]⟩]) 8 32 Tryd.underlying22 hi hz0 hz1 hz2 rfl (by decide) _ _ _ rfl (hO5.1.alloc _) ⟨w5.heap.size, 0, none⟩ 1 1 ((ndC rr ⟨nn.toArray⟩).toList) rfl rfl (new_cells24 _ (ndC rr ⟨nn.toArray⟩) _) (nm_one rr nn) (by unfold maxLen; omega) (by omega) (by simp only [size_al]; omega) ?_; intro v9 w6 hown9 hgrow9 hnil9 hblk9))
            obtain ⟨hR6, hn6⟩ := OutAt.keep hR5 hn3 hgrow9 hblk9
            have hA := hO5.app (p := (rr, nn)) hown9 hgrow9
            go_roundw
            case rel =>
              exact ⟨n + 1, by omega, by first | rfl | (simp; done) | (simp; omega), by rw [preN_next, HIN.out, ← List.append_assoc]; exact hA, hR6, hn6⟩
            case measure => simp [intOf]; omega
          · have dz : decide ((0 : Int) < (n : Int)) = true := decide_eq_true (by omega)
            have hin : inL l f n = [] := by unfold inL; rw [if_neg (by rw [Q3.out]; simp), if_neg (by rw [Q4.out]; simp), if_pos (Or.inr (by omega))]
            go_wp2
            go_roundw
            case rel => exact ⟨n + 1, by omega, by first | rfl | (simp; done) | (simp; omega), by rw [preN_next, hin, List.append_nil]; exact hO3, hR3, hn3⟩
            case measure => simp [intOf]; omega
    · obtain ⟨p1, p2, p3, p4⟩ := hpt
      have Q1 := box p1
      have Q2 := box p2
      have Q3 := box p3
      have Q4 := box p4
      have HF5 := box (lnC_fold2 l _ _ _ _ p1 p2 p3 p4)
      clear p1 p2 p3 p4
      go_wp2_with fail
      go_wp2
      go_loopw [1, 5] (fun v fv wx => ∃ f : Nat, f ≤ 4 ∧ fv = .int .u8 (f : Int) ∧ OutAt w wx v (P ++ preF l f) ∧ wx.heap[wo.heap.size]? = some (.cells (lnC l) 62) ∧ v.ownBlock ≠ some wo.heap.size) (fun _ fv _ => 4 - (intOf fv).toNat)
      case atStart => exact ⟨0, Nat.zero_le _, rfl, by rw [show preF l 0 = [] from rfl, List.append_nil]; exact HOV.out, hRV, HNE.out _ HO.out⟩
      case round =>
        obtain ⟨f, hf, rfl, hO2, hR2, hn2⟩ := hrel
        by_cases hfl : f < 4
        case neg =>
          have f4 : f = 4 := by omega
          subst f4
          go_wp2
          go_roundw
          case rel => exact ⟨k + 1, by omega, by first | rfl | (simp; done) | (simp; omega), by rw [HN.out]; exact hO2⟩
          case measure => simp [intOf]; omega
        have hf4 := hfl
        have df : decide ((f : Int) < 4) = true := decide_eq_true (by omega)
        have hwf : (f : Int) % 256 = (f : Int) := by omega
        have hwf1 : IntKind.u8.wrap ((f : Int) + 1) = ((f + 1 : Nat) : Int) := by rw [IntKind.wrap_u8]; omega
        obtain ⟨c0, c1, c2, c3, c4, c5, c6, c7, c8, c9, c10, c11⟩ := lnC_cells hR2
        rw [Q1.out] at c7
        rw [Q2.out] at c10
        have HGO : Box (¬ (l.noq = true ∧ f = 3 ∨ l.nof = true ∧ 0 < f)) := box (by rw [Q1.out, Q2.out]; simp)
        go_wp2
        clear c0 c1 c2 c3 c4 c5 c6 c7 c8 c9 c10 c11
        go_loopw [1, 6] (fun v nv wx => ∃ n : Nat, n ≤ 4 ∧ nv = .int .i64 (n : Int) ∧ OutAt w wx v (P ++ preF l f ++ preN l f n) ∧ wx.heap[wo.heap.size]? = some (.cells (lnC l) 62) ∧ v.ownBlock ≠ some wo.heap.size) (fun _ nv _ => 4 - (intOf nv).toNat)
        case atStart => exact ⟨0, Nat.zero_le _, rfl, by rw [show preN l f 0 = [] from rfl, List.append_nil]; exact hO2, hR2, hn2⟩
        case round =>
          clear hO2 hR2 hn2
          obtain ⟨n, hn, rfl, hO3, hR3, hn3⟩ := hrel
          by_cases hnl : n < 4
          case neg =>
            have n4 : n = 4 := by omega
            subst n4
            have dn : decide ((4 : Int) < 4) = false := rfl
            go_wp2
            go_roundw
            case rel => exact ⟨f + 1, by omega, by first | rfl | (simp; done) | (simp; omega), by rw [preF_next, form_go (l := l) (f := f) HGO.out, ← List.append_assoc]; exact hO3, hR3, hn3⟩
            case measure => simp [intOf]; omega
          have dn : decide ((n : Int) < 4) = true := decide_eq_true (by omega)
          have hwn : IntKind.i64.wrap ((n : Int) + 1) = ((n + 1 : Nat) : Int) := by rw [IntKind.wrap_i64]; omega
          have hun : (n : Int) % 256 = (n : Int) := by omega
          obtain ⟨c0, c1, c2, c3, c4, c5, c6, c7, c8, c9, c10, c11⟩ := lnC_cells hR3
          rw [Q1.out] at c7
          rw [Q2.out] at c10
          rw [Q3.out] at c8
          rw [Q4.out] at c9
          have hle : (P ++ preF l f ++ preN l f n).length ≤ 200 := by
            have a1 := HP.out; have a2 := preF_len l f; have a3 := preN_len l f n
            simp only [List.length_append]
            omega
          by_cases n0 : n = f
          · have dz : ((n : Int) == (f : Int)) = true := beq_iff_eq.2 (by omega)
            have hin : inL l f n = [] := by unfold inL; rw [if_neg (fun z => z.2 n0), if_neg (by rw [Q4.out]; simp), if_pos (Or.inl Q3.out)]
            go_wp2
            go_roundw
            case rel => exact ⟨n + 1, by omega, by first | rfl | (simp; done) | (simp; omega), by rw [preN_next, hin, List.append_nil]; exact hO3, hR3, hn3⟩
            case measure => simp [intOf]; omega
          · have dz : ((n : Int) == (f : Int)) = false := beq_eq_false_iff_ne.2 (by omega)
            have hin : inL l f n = [(rwL l f n 0, nmL l f n 0)] := by unfold inL; rw [if_pos ⟨Q3.out, n0⟩]
            have hf5 := HF5.out
            have K := KR.out l f n 0 HM.out hf4 (by omega) (by omega)
            obtain ⟨rr, hrr⟩ : ∃ x, rwL l f n 0 = x := ⟨_, rfl⟩
            obtain ⟨nn, hnn⟩ : ∃ x, nmL l f n 0 = x := ⟨_, rfl⟩
            rw [hrr, hnn] at K hin
            have HIN := box hin
            clear hin hrr hnn
            go_wp2_with fail
            refine (K _).mono ?_
            rintro r9 w5 ⟨rfl, b5⟩
            have hO5 := hO3.below b5
            have hR5 := heap_of b5 _ _ _ hR3
            clear hO3 hR3 b5 c0 c1 c2 c3 c4 c5 c6 c7 c8 c9 c10 c11
            have hs5 := hO5.2.1.size
            have hs6 : w.heap.size < w5.heap.size := (Array.getElem?_eq_some_iff.1 hO5.2.2).1
            go_wp2_with (first | (refine wpl_one24 rfl _ rfl _ rfl rr ⟨nn.toArray⟩ rfl ?_) | (at_builtin; refine wpList_append_own_at _ rfl _ _ 22 rfl (w.heap.size + 1) 38 i0 (.agg #[.int .u8 0, .int .u8 0, .int .u8 0, .int .u8 0, .int .u32 0, .int .u32 0, .int .u8 0, .string ⟨#[]⟩]) 8 32 Tryd.underlying22 hi hz0 hz1 hz2 rfl (by decide) _ _ _ rfl (hO5.1.alloc _) ⟨w5.heap.size, 0, none⟩ 1 1 ((ndC rr ⟨nn.toArray⟩).toList) rfl rfl (new_cells24 _ (ndC rr ⟨nn.toArray⟩) _) (nm_one rr nn) (by unfold maxLen; omega) (by omega) (by simp only [size_al]; omega) ?_; intro v9 w6 hown9 hgrow9 hnil9 hblk9))
            obtain ⟨hR6, hn6⟩ := OutAt.keep hR5 hn3 hgrow9 hblk9
            have hA := hO5.app (p := (rr, nn)) hown9 hgrow9
            go_roundw
            case rel =>
              exact ⟨n + 1, by omega, by first | rfl | (simp; done) | (simp; omega), by rw [preN_next, HIN.out, ← List.append_assoc]; exact hA, hR6, hn6⟩
            case measure => simp [intOf]; omega
    · obtain ⟨p1, p2, p3, p4⟩ := hpt
      have Q1 := box p1
      have Q2 := box p2
      have Q3 := box p3
      have Q4 := box p4
      have HF5 := box (lnC_fold2 l _ _ _ _ p1 p2 p3 p4)
      clear p1 p2 p3 p4
      go_wp2_with fail
      go_wp2
      go_loopw [1, 5] (fun v fv wx => ∃ f : Nat, f ≤ 4 ∧ fv = .int .u8 (f : Int) ∧ OutAt w wx v (P ++ preF l f) ∧ wx.heap[wo.heap.size]? = some (.cells (lnC l) 62) ∧ v.ownBlock ≠ some wo.heap.size) (fun _ fv _ => 4 - (intOf fv).toNat)
      case atStart => exact ⟨0, Nat.zero_le _, rfl, by rw [show preF l 0 = [] from rfl, List.append_nil]; exact HOV.out, hRV, HNE.out _ HO.out⟩
      case round =>
        obtain ⟨f, hf, rfl, hO2, hR2, hn2⟩ := hrel
        by_cases hfl : f < 4
        case neg =>
          have f4 : f = 4 := by omega
          subst f4
          go_wp2
          go_roundw
          case rel => exact ⟨k + 1, by omega, by first | rfl | (simp; done) | (simp; omega), by rw [HN.out]; exact hO2⟩
          case measure => simp [intOf]; omega
        have hf4 := hfl
        have df : decide ((f : Int) < 4) = true := decide_eq_true (by omega)
        have hwf : (f : Int) % 256 = (f : Int) := by omega
        have hwf1 : IntKind.u8.wrap ((f : Int) + 1) = ((f + 1 : Nat) : Int) := by rw [IntKind.wrap_u8]; omega
        obtain ⟨c0, c1, c2, c3, c4, c5, c6, c7, c8, c9, c10, c11⟩ := lnC_cells hR2
        rw [Q1.out] at c7
        rw [Q2.out] at c10
        have HGO : Box (¬ (l.noq = true ∧ f = 3 ∨ l.nof = true ∧ 0 < f)) := box (by rw [Q1.out, Q2.out]; simp)
        go_wp2
        clear c0 c1 c2 c3 c4 c5 c6 c7 c8 c9 c10 c11
        go_loopw [1, 6] (fun v nv wx => ∃ n : Nat, n ≤ 4 ∧ nv = .int .i64 (n : Int) ∧ OutAt w wx v (P ++ preF l f ++ preN l f n) ∧ wx.heap[wo.heap.size]? = some (.cells (lnC l) 62) ∧ v.ownBlock ≠ some wo.heap.size) (fun _ nv _ => 4 - (intOf nv).toNat)
        case atStart => exact ⟨0, Nat.zero_le _, rfl, by rw [show preN l f 0 = [] from rfl, List.append_nil]; exact hO2, hR2, hn2⟩
        case round =>
          clear hO2 hR2 hn2
          obtain ⟨n, hn, rfl, hO3, hR3, hn3⟩ := hrel
          by_cases hnl : n < 4
          case neg =>
            have n4 : n = 4 := by omega
            subst n4
            have dn : decide ((4 : Int) < 4) = false := rfl
            go_wp2
            go_roundw
            case rel => exact ⟨f + 1, by omega, by first | rfl | (simp; done) | (simp; omega), by rw [preF_next, form_go (l := l) (f := f) HGO.out, ← List.append_assoc]; exact hO3, hR3, hn3⟩
            case measure => simp [intOf]; omega
          have dn : decide ((n : Int) < 4) = true := decide_eq_true (by omega)
          have hwn : IntKind.i64.wrap ((n : Int) + 1) = ((n + 1 : Nat) : Int) := by rw [IntKind.wrap_i64]; omega
          have hun : (n : Int) % 256 = (n : Int) := by omega
          obtain ⟨c0, c1, c2, c3, c4, c5, c6, c7, c8, c9, c10, c11⟩ := lnC_cells hR3
          rw [Q1.out] at c7
          rw [Q2.out] at c10
          rw [Q3.out] at c8
          rw [Q4.out] at c9
          have hle : (P ++ preF l f ++ preN l f n).length ≤ 200 := by
            have a1 := HP.out; have a2 := preF_len l f; have a3 := preN_len l f n
            simp only [List.length_append]
            omega
          have hin : inL l f n = [(rwL l f 0 n, nmL l f 0 n)] := by unfold inL; rw [if_neg (by rw [Q3.out]; simp), if_pos Q4.out]
          have hf5 := HF5.out
          have K := KR.out l f 0 n HM.out hf4 (by omega) (by omega)
          obtain ⟨rr, hrr⟩ : ∃ x, rwL l f 0 n = x := ⟨_, rfl⟩
          obtain ⟨nn, hnn⟩ : ∃ x, nmL l f 0 n = x := ⟨_, rfl⟩
          rw [hrr, hnn] at K hin
          have HIN := box hin
          clear hin hrr hnn
          go_wp2_with fail
          refine (K _).mono ?_
          rintro r9 w5 ⟨rfl, b5⟩
          have hO5 := hO3.below b5
          have hR5 := heap_of b5 _ _ _ hR3
          clear hO3 hR3 b5 c0 c1 c2 c3 c4 c5 c6 c7 c8 c9 c10 c11
          have hs5 := hO5.2.1.size
          have hs6 : w.heap.size < w5.heap.size := (Array.getElem?_eq_some_iff.1 hO5.2.2).1
          go_wp2_with (first | (refine wpl_one24 rfl _ rfl _ rfl rr ⟨nn.toArray⟩ rfl ?_) | (at_builtin; refine wpList_append_own_at _ rfl _ _ 22 rfl (w.heap.size + 1) 38 i0 (.agg #[.int .u8 0, .int .u8 0, .int .u8 0, .int .u8 0, .int .u32 0, .int .u32 0, .int .u8 0, .string ⟨#[]⟩]) 8 32 Tryd.underlying22 hi hz0 hz1 hz2 rfl (by decide) _ _ _ rfl (hO5.1.alloc _) ⟨w5.heap.size, 0, none⟩ 1 1 ((ndC rr ⟨nn.toArray⟩).toList) rfl rfl (new_cells24 _ (ndC rr ⟨nn.toArray⟩) _) (nm_one rr nn) (by unfold maxLen; omega) (by omega) (by simp only [size_al]; omega) ?_; intro v9 w6 hown9 hgrow9 hnil9 hblk9))
          obtain ⟨hR6, hn6⟩ := OutAt.keep hR5 hn3 hgrow9 hblk9
          have hA := hO5.app (p := (rr, nn)) hown9 hgrow9
          go_roundw
          case rel =>
            exact ⟨n + 1, by omega, by first | rfl | (simp; done) | (simp; omega), by rw [preN_next, HIN.out, ← List.append_assoc]; exact hA, hR6, hn6⟩
          case measure => simp [intOf]; omega
    · obtain ⟨p1, p2, p3, p4⟩ := hpt
      have Q1 := box p1
      have Q2 := box p2
      have Q3 := box p3
      have Q4 := box p4
      have HF5 := box (lnC_fold2 l _ _ _ _ p1 p2 p3 p4)
      clear p1 p2 p3 p4
      go_wp2_with fail
      go_wp2
      go_loopw [1, 5] (fun v fv wx => ∃ f : Nat, f ≤ 4 ∧ fv = .int .u8 (f : Int) ∧ OutAt w wx v (P ++ preF l f) ∧ wx.heap[wo.heap.size]? = some (.cells (lnC l) 62) ∧ v.ownBlock ≠ some wo.heap.size) (fun _ fv _ => 4 - (intOf fv).toNat)
      case atStart => exact ⟨0, Nat.zero_le _, rfl, by rw [show preF l 0 = [] from rfl, List.append_nil]; exact HOV.out, hRV, HNE.out _ HO.out⟩
      case round =>
        obtain ⟨f, hf, rfl, hO2, hR2, hn2⟩ := hrel
        by_cases hfl : f < 4
        case neg =>
          have f4 : f = 4 := by omega
          subst f4
          go_wp2
          go_roundw
          case rel => exact ⟨k + 1, by omega, by first | rfl | (simp; done) | (simp; omega), by rw [HN.out]; exact hO2⟩
          case measure => simp [intOf]; omega
        have hf4 := hfl
        have df : decide ((f : Int) < 4) = true := decide_eq_true (by omega)
        have hwf : (f : Int) % 256 = (f : Int) := by omega
        have hwf1 : IntKind.u8.wrap ((f : Int) + 1) = ((f + 1 : Nat) : Int) := by rw [IntKind.wrap_u8]; omega
        obtain ⟨c0, c1, c2, c3, c4, c5, c6, c7, c8, c9, c10, c11⟩ := lnC_cells hR2
        rw [Q1.out] at c7
        rw [Q2.out] at c10
        by_cases q3 : f = 3
        · have dq : ((f : Int) == 3) = true := beq_iff_eq.2 (by omega)
          go_wp2
          go_roundw
          case rel => exact ⟨f + 1, by omega, by first | rfl | (simp; done) | (simp; omega), by rw [preF_next, form_skip (Or.inl ⟨Q1.out, q3⟩), List.append_nil]; exact hO2, hR2, hn2⟩
          case measure => simp [intOf]; omega
        · have dq : ((f : Int) == 3) = false := beq_eq_false_iff_ne.2 (by omega)
          have HGO : Box (¬ (l.noq = true ∧ f = 3 ∨ l.nof = true ∧ 0 < f)) := box (by rw [Q2.out]; simp; intro _; exact q3)
          go_wp2
          clear c0 c1 c2 c3 c4 c5 c6 c7 c8 c9 c10 c11
          go_loopw [1, 6] (fun v nv wx => ∃ n : Nat, n ≤ 4 ∧ nv = .int .i64 (n : Int) ∧ OutAt w wx v (P ++ preF l f ++ preN l f n) ∧ wx.heap[wo.heap.size]? = some (.cells (lnC l) 62) ∧ v.ownBlock ≠ some wo.heap.size) (fun _ nv _ => 4 - (intOf nv).toNat)
          case atStart => exact ⟨0, Nat.zero_le _, rfl, by rw [show preN l f 0 = [] from rfl, List.append_nil]; exact hO2, hR2, hn2⟩
          case round =>
            clear hO2 hR2 hn2
            obtain ⟨n, hn, rfl, hO3, hR3, hn3⟩ := hrel
            by_cases hnl : n < 4
            case neg =>
              have n4 : n = 4 := by omega
              subst n4
              have dn : decide ((4 : Int) < 4) = false := rfl
              go_wp2
              go_roundw
              case rel => exact ⟨f + 1, by omega, by first | rfl | (simp; done) | (simp; omega), by rw [preF_next, form_go (l := l) (f := f) HGO.out, ← List.append_assoc]; exact hO3, hR3, hn3⟩
              case measure => simp [intOf]; omega
            have dn : decide ((n : Int) < 4) = true := decide_eq_true (by omega)
            have hwn : IntKind.i64.wrap ((n : Int) + 1) = ((n + 1 : Nat) : Int) := by rw [IntKind.wrap_i64]; omega
            have hun : (n : Int) % 256 = (n : Int) := by omega
            obtain ⟨c0, c1, c2, c3, c4, c5, c6, c7, c8, c9, c10, c11⟩ := lnC_cells hR3
            rw [Q1.out] at c7
            rw [Q2.out] at c10
            rw [Q3.out] at c8
            rw [Q4.out] at c9
            have hle : (P ++ preF l f ++ preN l f n).length ≤ 200 := by
              have a1 := HP.out; have a2 := preF_len l f; have a3 := preN_len l f n
              simp only [List.length_append]
              omega
            by_cases n0 : n = 0
            · have dz : decide ((0 : Int) < (n : Int)) = false := decide_eq_false (by omega)
              have hin : inL l f n = [(rwL l f 0 0, nmL l f 0 0)] := by unfold inL; rw [if_neg (by rw [Q3.out]; simp), if_neg (by rw [Q4.out]; simp), if_neg (by rw [Q3.out]; simp; omega)]
              have hf5 := HF5.out
              have K := KR.out l f 0 0 HM.out hf4 (by omega) (by omega)
              obtain ⟨rr, hrr⟩ : ∃ x, rwL l f 0 0 = x := ⟨_, rfl⟩
              obtain ⟨nn, hnn⟩ : ∃ x, nmL l f 0 0 = x := ⟨_, rfl⟩
              rw [hrr, hnn] at K hin
              have HIN := box hin
              clear hin hrr hnn
              go_wp2_with fail
              refine (K _).mono ?_
              rintro r9 w5 ⟨rfl, b5⟩
              have hO5 := hO3.below b5
              have hR5 := heap_of b5 _ _ _ hR3
              clear hO3 hR3 b5 c0 c1 c2 c3 c4 c5 c6 c7 c8 c9 c10 c11
              have hs5 := hO5.2.1.size
              have hs6 : w.heap.size < w5.heap.size := (Array.getElem?_eq_some_iff.1 hO5.2.2).1
              go_wp2_with (first | (refine wpl_one24 rfl _ rfl _ rfl rr ⟨nn.toArray⟩ rfl ?_) | (at_builtin; refine wpList_append_own_at _ rfl _ _ 22 rfl (w.heap.size + 1) 38 i0 (.agg #[.int .u8 0, .int .u8 0, .int .u8 0, .int .u8 0, .int .u32 0, .int .u32 0, .int .u8 0, .string ⟨#[]⟩]) 8 32 Tryd.underlying22 hi hz0 hz1 hz2 rfl (by decide) _ _ _ rfl (hO5.1.alloc _) ⟨w5.heap.size, 0, none⟩ 1 1 ((ndC rr ⟨nn.toArray⟩).toList) rfl rfl (new_cells24 _ (ndC rr ⟨nn.toArray⟩) _) (nm_one rr nn) (by unfold maxLen; omega) (by omega) (by simp only [size_al]; omega) ?_; intro v9 w6 hown9 hgrow9 hnil9 hblk9))
              obtain ⟨hR6, hn6⟩ := OutAt.keep hR5 hn3 hgrow9 hblk9
              have hA := hO5.app (p := (rr, nn)) hown9 hgrow9
              go_roundw
              case rel =>
                exact ⟨n + 1, by omega, by first | rfl | (simp; done) | (simp; omega), by rw [preN_next, HIN.out, ← List.append_assoc]; exact hA, hR6, hn6⟩
              case measure => simp [intOf]; omega
            · have dz : decide ((0 : Int) < (n : Int)) = true := decide_eq_true (by omega)
              have hin : inL l f n = [] := by unfold inL; rw [if_neg (by rw [Q3.out]; simp), if_neg (by rw [Q4.out]; simp), if_pos (Or.inr (by omega))]
              go_wp2
              go_roundw
              case rel => exact ⟨n + 1, by omega, by first | rfl | (simp; done) | (simp; omega), by rw [preN_next, hin, List.append_nil]; exact hO3, hR3, hn3⟩
              case measure => simp [intOf]; omega
    · obtain ⟨p1, p2, p3, p4⟩ := hpt
      have Q1 := box p1
      have Q2 := box p2
      have Q3 := box p3
      have Q4 := box p4
      have HF5 := box (lnC_fold2 l _ _ _ _ p1 p2 p3 p4)
      clear p1 p2 p3 p4
      go_wp2_with fail
      go_wp2
      go_loopw [1, 5] (fun v fv wx => ∃ f : Nat, f ≤ 4 ∧ fv = .int .u8 (f : Int) ∧ OutAt w wx v (P ++ preF l f) ∧ wx.heap[wo.heap.size]? = some (.cells (lnC l) 62) ∧ v.ownBlock ≠ some wo.heap.size) (fun _ fv _ => 4 - (intOf fv).toNat)
      case atStart => exact ⟨0, Nat.zero_le _, rfl, by rw [show preF l 0 = [] from rfl, List.append_nil]; exact HOV.out, hRV, HNE.out _ HO.out⟩
      case round =>
        obtain ⟨f, hf, rfl, hO2, hR2, hn2⟩ := hrel
        by_cases hfl : f < 4
        case neg =>
          have f4 : f = 4 := by omega
          subst f4
          go_wp2
          go_roundw
          case rel => exact ⟨k + 1, by omega, by first | rfl | (simp; done) | (simp; omega), by rw [HN.out]; exact hO2⟩
          case measure => simp [intOf]; omega
        have hf4 := hfl
        have df : decide ((f : Int) < 4) = true := decide_eq_true (by omega)
        have hwf : (f : Int) % 256 = (f : Int) := by omega
        have hwf1 : IntKind.u8.wrap ((f : Int) + 1) = ((f + 1 : Nat) : Int) := by rw [IntKind.wrap_u8]; omega
        obtain ⟨c0, c1, c2, c3, c4, c5, c6, c7, c8, c9, c10, c11⟩ := lnC_cells hR2
        rw [Q1.out] at c7
        rw [Q2.out] at c10
        by_cases q3 : f = 0
        · have dq : decide ((0 : Int) < (f : Int)) = false := decide_eq_false (by omega)
          have HGO : Box (¬ (l.noq = true ∧ f = 3 ∨ l.nof = true ∧ 0 < f)) := box (by rw [Q1.out, q3]; simp)
          have dq2 : (0 < f) = False := eq_false (by omega)
          clear q3
          go_wp2
          clear dq2
          clear c0 c1 c2 c3 c4 c5 c6 c7 c8 c9 c10 c11
          go_loopw [1, 6] (fun v nv wx => ∃ n : Nat, n ≤ 4 ∧ nv = .int .i64 (n : Int) ∧ OutAt w wx v (P ++ preF l f ++ preN l f n) ∧ wx.heap[wo.heap.size]? = some (.cells (lnC l) 62) ∧ v.ownBlock ≠ some wo.heap.size) (fun _ nv _ => 4 - (intOf nv).toNat)
          case atStart => exact ⟨0, Nat.zero_le _, rfl, by rw [show preN l f 0 = [] from rfl, List.append_nil]; exact hO2, hR2, hn2⟩
          case round =>
            clear hO2 hR2 hn2
            obtain ⟨n, hn, rfl, hO3, hR3, hn3⟩ := hrel
            by_cases hnl : n < 4
            case neg =>
              have n4 : n = 4 := by omega
              subst n4
              have dn : decide ((4 : Int) < 4) = false := rfl
              go_wp2
              go_roundw
              case rel => exact ⟨f + 1, by omega, by first | rfl | (simp; done) | (simp; omega), by rw [preF_next, form_go (l := l) (f := f) HGO.out, ← List.append_assoc]; exact hO3, hR3, hn3⟩
              case measure => simp [intOf]; omega
            have dn : decide ((n : Int) < 4) = true := decide_eq_true (by omega)
            have hwn : IntKind.i64.wrap ((n : Int) + 1) = ((n + 1 : Nat) : Int) := by rw [IntKind.wrap_i64]; omega
            have hun : (n : Int) % 256 = (n : Int) := by omega
            obtain ⟨c0, c1, c2, c3, c4, c5, c6, c7, c8, c9, c10, c11⟩ := lnC_cells hR3
            rw [Q1.out] at c7
            rw [Q2.out] at c10
            rw [Q3.out] at c8
            rw [Q4.out] at c9
            have hle : (P ++ preF l f ++ preN l f n).length ≤ 200 := by
              have a1 := HP.out; have a2 := preF_len l f; have a3 := preN_len l f n
              simp only [List.length_append]
              omega
            by_cases n0 : n = 0
            · have dz : decide ((0 : Int) < (n : Int)) = false := decide_eq_false (by omega)
              have hin : inL l f n = [(rwL l f 0 0, nmL l f 0 0)] := by unfold inL; rw [if_neg (by rw [Q3.out]; simp), if_neg (by rw [Q4.out]; simp), if_neg (by rw [Q3.out]; simp; omega)]
              have hf5 := HF5.out
              have K := KR.out l f 0 0 HM.out hf4 (by omega) (by omega)
              obtain ⟨rr, hrr⟩ : ∃ x, rwL l f 0 0 = x := ⟨_, rfl⟩
              obtain ⟨nn, hnn⟩ : ∃ x, nmL l f 0 0 = x := ⟨_, rfl⟩
              rw [hrr, hnn] at K hin
              have HIN := box hin
              clear hin hrr hnn
              go_wp2_with fail
              refine (K _).mono ?_
              rintro r9 w5 ⟨rfl, b5⟩
              have hO5 := hO3.below b5
              have hR5 := heap_of b5 _ _ _ hR3
              clear hO3 hR3 b5 c0 c1 c2 c3 c4 c5 c6 c7 c8 c9 c10 c11
              have hs5 := hO5.2.1.size
              have hs6 : w.heap.size < w5.heap.size := (Array.getElem?_eq_some_iff.1 hO5.2.2).1
              go_wp2_with (first | (refine wpl_one24 rfl _ rfl _ rfl rr ⟨nn.toArray⟩ rfl ?_) | (at_builtin; refine wpList_append_own_at _ rfl _ _ 22 rfl (w.heap.size + 1) 38 i0 (.agg #[.int .u8 0, .int .u8 0, .int .u8 0, .int .u8 0, .int .u32 0, .int .u32 0, .int .u8 0, .string ⟨#[]⟩]) 8 32 Tryd.underlying22 hi hz0 hz1 hz2 rfl (by decide) _ _ _ rfl (hO5.1.alloc _) ⟨w5.heap.size, 0, none⟩ 1 1 ((ndC rr ⟨nn.toArray⟩).toList) rfl rfl (new_cells24 _ (ndC rr ⟨nn.toArray⟩) _) (nm_one rr nn) (by unfold maxLen; omega) (by omega) (by simp only [size_al]; omega) ?_; intro v9 w6 hown9 hgrow9 hnil9 hblk9))
              obtain ⟨hR6, hn6⟩ := OutAt.keep hR5 hn3 hgrow9 hblk9
              have hA := hO5.app (p := (rr, nn)) hown9 hgrow9
              go_roundw
              case rel =>
                exact ⟨n + 1, by omega, by first | rfl | (simp; done) | (simp; omega), by rw [preN_next, HIN.out, ← List.append_assoc]; exact hA, hR6, hn6⟩
              case measure => simp [intOf]; omega
            · have dz : decide ((0 : Int) < (n : Int)) = true := decide_eq_true (by omega)
              have hin : inL l f n = [] := by unfold inL; rw [if_neg (by rw [Q3.out]; simp), if_neg (by rw [Q4.out]; simp), if_pos (Or.inr (by omega))]
              go_wp2
              go_roundw
              case rel => exact ⟨n + 1, by omega, by first | rfl | (simp; done) | (simp; omega), by rw [preN_next, hin, List.append_nil]; exact hO3, hR3, hn3⟩
              case measure => simp [intOf]; omega
        · have dq : decide ((0 : Int) < (f : Int)) = true := decide_eq_true (by omega)
          go_wp2
          go_roundw
          case rel => exact ⟨f + 1, by omega, by first | rfl | (simp; done) | (simp; omega), by rw [preF_next, form_skip (Or.inr ⟨Q2.out, by omega⟩), List.append_nil]; exact hO2, hR2, hn2⟩
          case measure => simp [intOf]; omega
def mdL (l : Nat) : Bool := decide (l = 3 ∨ l = 4 ∨ l = 6)
def rmB (x : Nat) : Bool := decide (x / 4096 % 8 = 5 ∨ x / 4096 % 8 = 6)
def crB (x : Nat) : Bool := decide (1 ≤ x / 1048576 ∧ x / 1048576 ≤ 3)
theorem fits_parts (r : Rw) (x : Nat) (h : x &&& r.mask = r.mtch &&& r.mask) : fitsL r x = (!(mdL r.lay && rmB x) && (!decide (r.lay = 8 ∨ r.lay = 9) || crB x)) := by
  unfold fitsL mdL rmB crB
  rw [decide_eq_true h, Bool.true_and]
theorem b24_row (l : Ln) (f g k : Nat) (hl : l ∈ linesL) (hf : f < 4) (hg : g < 4) (hk : k < 4) (w : World) : Calls Tryd.prog 27 #[.agg (lnC l), .int .u8 (f : Nat), .int .u8 (g : Nat), .int .u8 (k : Nat)] w fun r w' => r = .returned (.agg (ndC (rwL l f g k) ⟨(nmL l f g k).toArray⟩)) ∧ Below w.heap.size w w' := by
  simp only [linesL, List.mem_cons, List.not_mem_nil, or_false] at hl
  rcases hl with rfl | rfl | rfl | rfl | rfl | rfl | rfl | rfl | rfl | rfl | rfl | rfl | rfl | rfl | rfl | rfl | rfl | rfl | rfl | rfl | rfl | rfl | rfl | rfl | rfl | rfl | rfl | rfl | rfl | rfl | rfl
  · exact b24_l0 f g k hf hg hk w
  · exact b24_l1 f g k hf hg hk w
  · exact b24_l2 f g k hf hg hk w
  · exact b24_l3 f g k hf hg hk w
  · exact b24_l4 f g k hf hg hk w
  · exact b24_l5 f g k hf hg hk w
  · exact b24_l6 f g k hf hg hk w
  · exact b24_l7 f g k hf hg hk w
  · exact b24_l8 f g k hf hg hk w
  · exact b24_l9 f g k hf hg hk w
  · exact b24_l10 f g k hf hg hk w
  · exact b24_l11 f g k hf hg hk w
  · exact b24_l12 f g k hf hg hk w
  · exact b24_l13 f g k hf hg hk w
  · exact b24_l14 f g k hf hg hk w
  · exact b24_l15 f g k hf hg hk w
  · exact b24_l16 f g k hf hg hk w
  · exact b24_l17 f g k hf hg hk w
  · exact b24_l18 f g k hf hg hk w
  · exact b24_l19 f g k hf hg hk w
  · exact b24_l20 f g k hf hg hk w
  · exact b24_l21 f g k hf hg hk w
  · exact b24_l22 f g k hf hg hk w
  · exact b24_l23 f g k hf hg hk w
  · exact b24_l24 f g k hf hg hk w
  · exact b24_l25 f g k hf hg hk w
  · exact b24_l26 f g k hf hg hk w
  · exact b24_l27 f g k hf hg hk w
  · exact b24_l28 f g k hf hg hk w
  · exact b24_l29 f g k hf hg hk w
  · exact b24_l30 f g k hf hg hk w
theorem rAll24 (w : World) : Calls Tryd.prog 9 #[] w fun r w' => ∃ v, r = .returned v ∧ OwnsAll w w' v := by
  refine (b24_all w (box b24_row)).mono ?_
  rintro r w' ⟨v, rfl, h⟩
  obtain ⟨g, cap, h1, h2, h3⟩ := own_nds h.1 (by rw [allL_len]; decide)
  rw [allL_len] at h1
  exact ⟨v, rfl, g, cap, h1, h2, h3, h.2.1⟩
def fdL (x : Nat) : Option Nm := fstL fun p => fitsL p.1 x
def ndO (o : Option Nm) : Nm := o.getD (rwZ, [])
def nmR24 (q : Rw) : Option Nm := fstL fun p => decide (p.1 = q)
def byR24 (s : ByteArray) : Option Nm := fstL fun p => (⟨p.2.toArray⟩ : ByteArray).toList == s.toList
def erO (o : Option Nm) : Int := if o.isSome then 0 else 240
theorem rName24 (q : Rw) (nn : List UInt8) (e : Int) (h : (ndO (nmR24 q)).2 = nn) (h2 : erO (nmR24 q) = e) (w : World) : Calls Tryd.prog 23 #[.agg (rwC q)] w fun r w' => r = .returned (.tuple #[.string ⟨nn.toArray⟩, .int .i64 e]) ∧ Below w.heap.size w w' := by
  refine b24_name q w (box rAll24) nn e (box ?_)
  unfold nmR24 at h h2
  cases z : fstL (fun p => decide (p.1 = q)) with
  | some p => rw [z] at h h2; exact ⟨h, h2.symm⟩
  | none => rw [z] at h h2; exact ⟨h.symm, h2.symm⟩
theorem rByName24 (s : ByteArray) (rr : Rw) (e : Int) (h : (ndO (byR24 s)).1 = rr) (h2 : erO (byR24 s) = e) (w : World) : Calls Tryd.prog 24 #[.string s] w fun r w' => r = .returned (.tuple #[.agg (rwC rr), .int .i64 e]) ∧ Below w.heap.size w w' := by
  refine b24_byname s w (box rAll24) rr e (box ?_)
  unfold byR24 at h h2
  cases z : fstL (fun p => (⟨p.2.toArray⟩ : ByteArray).toList == s.toList) with
  | some p => rw [z] at h h2; exact ⟨h, h2.symm⟩
  | none => rw [z] at h h2; exact ⟨h.symm, h2.symm⟩
def ofR24 (o f g k : Int) : Option Nm := if o < 1 ∨ 31 < o then none else fstL (ofB o f g k)
def erF (o f g k : Int) : Int := if o < 1 ∨ 31 < o then 2 else erO (fstL (ofB o f g k))
theorem rOf24 (o f g k : Int) (rr : Rw) (nn : List UInt8) (e : Int) (h : ndO (ofR24 o f g k) = (rr, nn)) (h2 : erF o f g k = e) (w : World) : Calls Tryd.prog 22 #[.int .u8 o, .int .u8 f, .int .u8 g, .int .u8 k] w fun r w' => r = .returned (.tuple #[.agg (ndC rr ⟨nn.toArray⟩), .int .i64 e]) ∧ Below w.heap.size w w' := by
  unfold ofR24 at h
  unfold erF at h2
  by_cases c : o < 1 ∨ 31 < o
  · rw [if_pos c] at h h2
    cases h
    subst h2
    exact b24_of_no o f g k c w
  · rw [if_neg c] at h h2
    refine b24_of o f g k (decide_eq_false (by omega)) (decide_eq_false (by omega)) w (box rAll24) rr nn e (box ?_)
    cases z : fstL (ofB o f g k) with
    | some p => rw [z] at h h2; exact ⟨h, h2.symm⟩
    | none => rw [z] at h h2; cases h; exact ⟨rfl, rfl, h2.symm⟩
theorem ndC_cells {w : World} {b : Nat} {r : Rw} {s : ByteArray} {T : TypeId} (h : w.heap[b]? = some (.cells (ndC r s) T)) : w.cell? ⟨b, 0, none⟩ = some (.int .u8 (r.op : Nat)) ∧ w.cell? ⟨b, 1, none⟩ = some (.int .u8 (r.form : Nat)) ∧ w.cell? ⟨b, 2, none⟩ = some (.int .u8 (r.frm : Nat)) ∧ w.cell? ⟨b, 3, none⟩ = some (.int .u8 (r.kind : Nat)) ∧ w.cell? ⟨b, 4, none⟩ = some (.int .u32 (r.mask : Nat)) ∧ w.cell? ⟨b, 5, none⟩ = some (.int .u32 (r.mtch : Nat)) ∧ w.cell? ⟨b, 6, none⟩ = some (.int .u8 (r.lay : Nat)) ∧ w.cell? ⟨b, 7, none⟩ = some (.string s) :=
  ⟨cells4 h 0 _ rfl, cells4 h 1 _ rfl, cells4 h 2 _ rfl, cells4 h 3 _ rfl, cells4 h 4 _ rfl, cells4 h 5 _ rfl, cells4 h 6 _ rfl, cells4 h 7 _ rfl⟩
theorem ndC_new (w : World) (b : Nat) (r : Rw) (s : ByteArray) (hb : b = w.heap.size) : (storeCells ⟨b, 0, none⟩ (ndC r s).toList 0).run Tryd.prog (w.alloc (.cells #[.int .u8 0, .int .u8 0, .int .u8 0, .int .u8 0, .int .u32 0, .int .u32 0, .int .u8 0, .string ⟨#[]⟩] 38)) = .ok () (w.alloc (.cells (ndC r s) 38)) := by
  subst hb
  exact run_storeCells_new (P := Tryd.prog) w 38 #[.int .u8 0, .int .u8 0, .int .u8 0, .int .u8 0, .int .u32 0, .int .u32 0, .int .u8 0, .string ⟨#[]⟩] (ndC r s) (by kernel_rfl) rfl (by simp [ndC]; exact ⟨rfl, rfl, rfl, rfl, rfl, rfl, rfl, rfl⟩)
set_option maxRecDepth 100000 in
set_option maxHeartbeats 8000000 in
theorem tb_lives {T : World → Prop} (FB : Box (∀ {w w' : World}, T w → Below w.heap.size w w' → T w')) (ro q : Rw) (hq : q.op = 22 ∧ q.form = 1 ∧ q.kind = 1) (F1 : Box (∀ w, T w → Calls Tryd.prog 15 #[.int .u32 3211475] w fun r w' => r = .returned (.tuple #[.agg (rwC ro), .bool true]) ∧ Below w.heap.size w w')) (F2 : Box (∀ w, T w → Calls Tryd.prog 15 #[.int .u32 3231955] w fun r w' => r = .returned (.tuple #[.agg (rwC rwZ), .bool false]) ∧ Below w.heap.size w w')) (N1 : Box (∀ w, T w → Calls Tryd.prog 12 #[.agg (rwC ro)] w fun r w' => r = .returned (.tuple #[.string ⟨#[102, 97, 100, 100, 46, 115]⟩, .int .i64 0]) ∧ Below w.heap.size w w')) (N2 : Box (∀ w, T w → Calls Tryd.prog 13 #[.string ⟨#[102, 99, 118, 116, 46, 100, 46, 119, 117]⟩] w fun r w' => r = .returned (.tuple #[.agg (rwC q), .int .i64 0]) ∧ Below w.heap.size w w')) (L1 : Box (∀ w, T w → Calls Tryd.prog 11 #[] w fun r w' => r = .returned (.int .i64 136) ∧ Below w.heap.size w w')) (w : World) (hT : T w) : Calls Tryd.prog 14 #[] w fun r w' => r = .returned (.bool true) ∧ Below w.heap.size w w' := by
  have FF := box hT
  clear hT
  obtain ⟨q1, q2, q3⟩ := hq
  have p1 : (((q.op : Nat) : Int) == 22) = true := by rw [q1]; rfl
  have p2 : (((q.form : Nat) : Int) == 1) = true := by rw [q2]; rfl
  have p3 : (((q.kind : Nat) : Int) == 1) = true := by rw [q3]; rfl
  clear q1 q2 q3
  have hrf := rwC_fold
  have hrn := rwC_new
  have B0 : Below w.heap.size w w := (Below.refl _ _)
  go_enter Tryd.func14, Tryd.ntmps14
  go_wp2_with fail
  refine (F1.out _ (FB.out FF.out B0)).mono ?_
  rintro r w1 ⟨rfl, b1⟩
  have B1 : Below w.heap.size w w1 := btr B0 b1
  clear b1 B0 
  have S2 := box B1.size
  have Rr_2 := heap_alloc_last w1 (Obj.cells (rwC ro) 36)
  have B2 := btr B1 (bal w1 (Obj.cells (rwC ro) 36))
  clear B1 
  obtain ⟨cr_2_0, cr_2_1, cr_2_2, cr_2_3, cr_2_4, cr_2_5, cr_2_6⟩ := rwC_cells Rr_2
  go_wp2_with fail
  refine (F2.out _ (FB.out FF.out B2)).mono ?_
  rintro r w3 ⟨rfl, b3⟩
  have B3 : Below w.heap.size w w3 := btr B2 b3
  have Rr_3 := heap_of b3 _ _ _ Rr_2
  clear b3 B2 Rr_2 cr_2_0 cr_2_1 cr_2_2 cr_2_3 cr_2_4 cr_2_5 cr_2_6
  obtain ⟨cr_3_0, cr_3_1, cr_3_2, cr_3_3, cr_3_4, cr_3_5, cr_3_6⟩ := rwC_cells Rr_3
  have S4 := box B3.size
  have Lr_4 : Box (w1.heap.size < w3.heap.size) := box (Array.getElem?_eq_some_iff.1 Rr_3).1
  have Rb_4 := heap_alloc_last w3 (Obj.cells (rwC rwZ) 36)
  have B4 := btr B3 (bal w3 (Obj.cells (rwC rwZ) 36))
  have Rr_4 := heap_of (bal w3 (Obj.cells (rwC rwZ) 36)) _ _ _ Rr_3
  clear B3 Rr_3 cr_3_0 cr_3_1 cr_3_2 cr_3_3 cr_3_4 cr_3_5 cr_3_6
  obtain ⟨cr_4_0, cr_4_1, cr_4_2, cr_4_3, cr_4_4, cr_4_5, cr_4_6⟩ := rwC_cells Rr_4
  obtain ⟨cb_4_0, cb_4_1, cb_4_2, cb_4_3, cb_4_4, cb_4_5, cb_4_6⟩ := rwC_cells Rb_4
  clear Rb_4 cb_4_0 cb_4_1 cb_4_2 cb_4_3 cb_4_4 cb_4_5 cb_4_6
  go_wp2_with fail
  refine (N1.out _ (FB.out FF.out B4)).mono ?_
  rintro r w5 ⟨rfl, b5⟩
  have B5 : Below w.heap.size w w5 := btr B4 b5
  have Rr_5 := heap_of b5 _ _ _ Rr_4
  clear b5 B4 Rr_4 cr_4_0 cr_4_1 cr_4_2 cr_4_3 cr_4_4 cr_4_5 cr_4_6
  obtain ⟨cr_5_0, cr_5_1, cr_5_2, cr_5_3, cr_5_4, cr_5_5, cr_5_6⟩ := rwC_cells Rr_5
  go_wp2_with fail
  refine (N2.out _ (FB.out FF.out B5)).mono ?_
  rintro r w6 ⟨rfl, b6⟩
  have B6 : Below w.heap.size w w6 := btr B5 b6
  have Rr_6 := heap_of b6 _ _ _ Rr_5
  clear b6 B5 Rr_5 cr_5_0 cr_5_1 cr_5_2 cr_5_3 cr_5_4 cr_5_5 cr_5_6
  obtain ⟨cr_6_0, cr_6_1, cr_6_2, cr_6_3, cr_6_4, cr_6_5, cr_6_6⟩ := rwC_cells Rr_6
  have S7 := box B6.size
  have Lr_7 : Box (w1.heap.size < w6.heap.size) := box (Array.getElem?_eq_some_iff.1 Rr_6).1
  have Rq_7 := heap_alloc_last w6 (Obj.cells (rwC q) 36)
  have B7 := btr B6 (bal w6 (Obj.cells (rwC q) 36))
  have Rr_7 := heap_of (bal w6 (Obj.cells (rwC q) 36)) _ _ _ Rr_6
  clear B6 Rr_6 cr_6_0 cr_6_1 cr_6_2 cr_6_3 cr_6_4 cr_6_5 cr_6_6
  obtain ⟨cr_7_0, cr_7_1, cr_7_2, cr_7_3, cr_7_4, cr_7_5, cr_7_6⟩ := rwC_cells Rr_7
  obtain ⟨cq_7_0, cq_7_1, cq_7_2, cq_7_3, cq_7_4, cq_7_5, cq_7_6⟩ := rwC_cells Rq_7
  go_wp2_with fail
  refine (L1.out _ (FB.out FF.out B7)).mono ?_
  rintro r w8 ⟨rfl, b8⟩
  have B8 : Below w.heap.size w w8 := btr B7 b8
  have Rr_8 := heap_of b8 _ _ _ Rr_7
  have Rq_8 := heap_of b8 _ _ _ Rq_7
  clear b8 B7 Rr_7 cr_7_0 cr_7_1 cr_7_2 cr_7_3 cr_7_4 cr_7_5 cr_7_6 Rq_7 cq_7_0 cq_7_1 cq_7_2 cq_7_3 cq_7_4 cq_7_5 cq_7_6
  obtain ⟨cr_8_0, cr_8_1, cr_8_2, cr_8_3, cr_8_4, cr_8_5, cr_8_6⟩ := rwC_cells Rr_8
  obtain ⟨cq_8_0, cq_8_1, cq_8_2, cq_8_3, cq_8_4, cq_8_5, cq_8_6⟩ := rwC_cells Rq_8
  go_wp2
  go_ret
  exact ⟨rfl, B8⟩
theorem pair24 {j k : Nat} {p q : Nm} (hp : allL[j]? = some p) (hq : allL[k]? = some q) (h : j < k) : (p.1.mask &&& q.1.mask) &&& (p.1.mtch ^^^ q.1.mtch) ≠ 0 := by
  have a := List.all_eq_true.1 pairsL (p, j) (List.mem_zipIdx_iff_getElem?.2 hp)
  have b := List.all_eq_true.1 a (q, k) (List.mem_zipIdx_iff_getElem?.2 hq)
  simp only [Bool.or_eq_true, decide_eq_true_eq] at b
  rcases b with b | b
  · omega
  · exact b
theorem fits_mask {r : Rw} {x : Nat} (h : fitsL r x = true) : x &&& r.mask = r.mtch &&& r.mask := by
  unfold fitsL at h
  simp only [Bool.and_eq_true, decide_eq_true_eq] at h
  exact h.1.1
theorem lt24 {x j k : Nat} {p q : Nm} (hp : allL[j]? = some p) (hq : allL[k]? = some q) (h1 : fitsL p.1 x = true) (h2 : fitsL q.1 x = true) : ¬ j < k := by
  intro h
  apply pair24 hp hq h
  have e1 := fits_mask h1
  have e2 := fits_mask h2
  apply Nat.eq_of_testBit_eq
  intro i
  have t1 := congrArg (Nat.testBit · i) e1
  have t2 := congrArg (Nat.testBit · i) e2
  simp only [Nat.testBit_and, Nat.testBit_xor, Nat.zero_testBit] at t1 t2 ⊢
  revert t1 t2
  cases x.testBit i <;> cases p.1.mask.testBit i <;> cases q.1.mask.testBit i <;> cases p.1.mtch.testBit i <;> cases q.1.mtch.testBit i <;> decide
theorem one24 {x j k : Nat} {p q : Nm} (hp : allL[j]? = some p) (hq : allL[k]? = some q) (h1 : fitsL p.1 x = true) (h2 : fitsL q.1 x = true) : j = k := by
  have a := lt24 hp hq h1 h2
  have b := lt24 hq hp h2 h1
  omega
theorem fd_some {x j : Nat} {p : Nm} (hp : allL[j]? = some p) (h : fitsL p.1 x = true) : fdL x = some p :=
  fst_yes (fun i q hi hq => by
    cases c : fitsL q.1 x
    · rfl
    · exact absurd (one24 hq hp c h) (by omega)) hp h
def RwsAt (w : World) (g a : Nat) (l : List Nm) : Prop := ∃ cur, w.heap[g]? = some (.cells cur 36) ∧ ∀ k p, a ≤ k → l[k]? = some p → ∀ j u, j < 7 → (rwC p.1)[j]? = some u → cur[k * 7 + j]? = some u
theorem RwsAt.below {w w' : World} {g a : Nat} {l : List Nm} (h : RwsAt w g a l) (hb : Below w.heap.size w w') : RwsAt w' g a l := by
  obtain ⟨cur, h1, h2⟩ := h
  exact ⟨cur, heap_of hb _ _ _ h1, h2⟩
theorem RwsAt.cells {w : World} {g a : Nat} {l : List Nm} (h : RwsAt w g a l) {k : Nat} {r : Rw} {s : List UInt8} (ha : a ≤ k) (hp : l[k]? = some (r, s)) :
    w.cell? ⟨g, k * 7, none⟩ = some (.int .u8 (r.op : Nat)) ∧ w.cell? ⟨g, k * 7 + 1, none⟩ = some (.int .u8 (r.form : Nat)) ∧ w.cell? ⟨g, k * 7 + 2, none⟩ = some (.int .u8 (r.frm : Nat)) ∧ w.cell? ⟨g, k * 7 + 3, none⟩ = some (.int .u8 (r.kind : Nat)) ∧ w.cell? ⟨g, k * 7 + 4, none⟩ = some (.int .u32 (r.mask : Nat)) ∧ w.cell? ⟨g, k * 7 + 5, none⟩ = some (.int .u32 (r.mtch : Nat)) ∧ w.cell? ⟨g, k * 7 + 6, none⟩ = some (.int .u8 (r.lay : Nat)) := by
  obtain ⟨cur, h1, h2⟩ := h
  have e := fun j (hj : j < 7) u (hu : (rwC r)[j]? = some u) => cell7 h1 (k * 7 + j) u (h2 k (r, s) ha hp j u hj hu)
  exact ⟨e 0 (by decide) _ rfl, e 1 (by decide) _ rfl, e 2 (by decide) _ rfl, e 3 (by decide) _ rfl, e 4 (by decide) _ rfl, e 5 (by decide) _ rfl, e 6 (by decide) _ rfl⟩
def OwnsRws (w w' : World) (v : Value) : Prop := ∃ g cap, v = .slice (some ⟨g, 0, none⟩) 136 cap ∧ w.heap.size ≤ g ∧ RwsAt w' g 0 allL ∧ Below w.heap.size w w'
def FoundTo (x k n : Nat) (o : Rw) : Prop := (n = 0 ∧ o = rwZ ∧ ∀ j p, j < k → allL[j]? = some p → fitsL p.1 x = false) ∨ (n = 1 ∧ ∃ j p, j < k ∧ allL[j]? = some p ∧ fitsL p.1 x = true ∧ o = p.1)
theorem FoundTo.no {x k n : Nat} {o : Rw} (h : FoundTo x k n o) {p : Nm} (hp : allL[k]? = some p) (hf : fitsL p.1 x = false) : FoundTo x (k + 1) n o := by
  rcases h with ⟨a, b, c⟩ | ⟨a, j, q, c, d, e, f⟩
  · refine Or.inl ⟨a, b, fun j q hj hq => ?_⟩
    by_cases z : j < k
    · exact c j q z hq
    · obtain rfl : j = k := by omega
      rw [hp] at hq
      cases hq
      exact hf
  · exact Or.inr ⟨a, j, q, by omega, d, e, f⟩
theorem FoundTo.fin {x n : Nat} {o : Rw} (h : FoundTo x 136 n o) : n ≤ 1 ∧ (fdL x).isSome = decide (n = 1) ∧ (ndO (fdL x)).1 = o := by
  rcases h with ⟨rfl, rfl, c⟩ | ⟨rfl, j, q, c, d, e, rfl⟩
  · have z : fdL x = none := fst_no c
    rw [z]
    exact ⟨by omega, rfl, rfl⟩
  · rw [fd_some d e]
    exact ⟨by omega, rfl, rfl⟩
end Go.Proofs.YtfdhglllmhggkaaDoor
namespace Go.Proofs.YtfdhglllmhggkaaDoor
set_option maxRecDepth 100000
set_option maxHeartbeats 40000000
set_option maxRecDepth 100000
open Go.RowKit WMath
set_option linter.unusedSimpArgs false
set_option linter.unusedVariables false
open Go.Maps
theorem nameL : (allL.zipIdx.all fun p => allL.zipIdx.all fun q => decide (q.2 ≤ p.2) || decide (p.1.2 ≠ q.1.2)) = true := by decide +kernel
theorem name24 {j k : Nat} {p q : Nm} (hp : allL[j]? = some p) (hq : allL[k]? = some q) (h : j < k) : p.2 ≠ q.2 := by
  have a := List.all_eq_true.1 nameL (p, j) (List.mem_zipIdx_iff_getElem?.2 hp)
  have b := List.all_eq_true.1 a (q, k) (List.mem_zipIdx_iff_getElem?.2 hq)
  simp only [Bool.or_eq_true, decide_eq_true_eq] at b
  rcases b with b | b
  · omega
  · exact b
def NmsAt (w : World) (b k : Nat) : Prop := ∃ (n : Nat) (D : DataW Unit), n ≤ k ∧ w.ownsMap Tryd.prog 9 (plainElem Tryd.prog 4) b n D ∧ ∀ j p, k ≤ j → allL[j]? = some p → D.atKey (.string p.2) (.lit (.bool false)) = .lit (.bool false)
theorem bool_inv {P : Program} {e : TypeId} (he : P.underlying e = some .bool) {v : Value} {z : DataW Unit × List MemPlace} (h : plainElem P e v = some z) : ∃ x, v = .bool x ∧ z = (.lit (.bool x), []) := by
  unfold plainElem at h
  rw [he] at h
  cases v <;> simp at h
  exact ⟨_, rfl, h.symm⟩
theorem NmsAt.below {w w' : World} {b k : Nat} (h : NmsAt w b k) (hb : Below w.heap.size w w') : NmsAt w' b k := by
  obtain ⟨n, D, hn, ho, hd⟩ := h
  have lt := ho.lt
  obtain ⟨es, clock, h1, h2, h3, h4⟩ := ho
  exact ⟨n, D, hn, ⟨es, clock, (hb.block b lt).trans h1, h2, h3, h4⟩, hd⟩
theorem NmsAt.same {w w' : World} {b k : Nat} (h : NmsAt w b k) (hb : w'.heap[b]? = w.heap[b]?) : NmsAt w' b k := by
  obtain ⟨n, D, hn, ⟨es, clock, h1, h2, h3, h4⟩, hd⟩ := h
  exact ⟨n, D, hn, ⟨es, clock, hb.trans h1, h2, h3, h4⟩, hd⟩
theorem key24 (s : List UInt8) (hs : s.length ≤ 100) : keyOf Tryd.prog 9 (.string ⟨s.toArray⟩) = some (.string s) := by
  have e : (⟨s.toArray⟩ : ByteArray).size ≤ maxLen := by
    show s.toArray.size ≤ maxLen
    rw [List.size_toArray]
    unfold maxLen
    omega
  exact Go.WideMaps.keyOf_string_mk Tryd.underlying9 e
theorem NmsAt.no {w : World} {b k : Nat} (h : NmsAt w b k) {p : Nm} (hp : allL[k]? = some p) (hs : p.2.length ≤ 100) : (Instr.lookup 58 (.map (some b)) (.string ⟨p.2.toArray⟩) false).run Tryd.prog w = .ok (.bool false) w := by
  obtain ⟨n, D, hn, ho, hd⟩ := h
  obtain ⟨v, ps, h1, h2⟩ := ho.lookup (string_keyed Tryd.underlying9) Tryd.underlying58 (show (zeroValue 4).run Tryd.prog w = .ok (.bool false) w by kernel_rfl) (plainElem_bool Tryd.underlying4 false) (key24 p.2 hs)
  obtain ⟨x, rfl, h3⟩ := bool_inv Tryd.underlying4 h2
  rw [hd k p (Nat.le_refl _) hp] at h3
  cases h3
  exact h1
theorem NmsAt.put {w : World} {b k : Nat} (h : NmsAt w b k) (hk : k < 136) {p : Nm} (hp : allL[k]? = some p) (hs : p.2.length ≤ 100) : ∃ w', (Instr.mapUpdate 58 (.map (some b)) (.string ⟨p.2.toArray⟩) (.bool true)).run Tryd.prog w = .ok () w' ∧ NmsAt w' b (k + 1) ∧ w.grownBy w' (some b) := by
  obtain ⟨n, D, hn, ho, hd⟩ := h
  obtain ⟨w', h1, h2, h3⟩ := ho.update (string_keyed Tryd.underlying9) Tryd.underlying58 (show n < maxLen by unfold maxLen; omega) (key24 p.2 hs) (plainElem_bool Tryd.underlying4 true)
  refine ⟨w', h1, ⟨n + 1, _, by omega, h2, fun j q hj hq => ?_⟩, h3⟩
  rw [atKey_put_other (fun e => name24 hp hq (by omega) (by injection e with e; exact e.symm))]
  exact hd j q (by omega) hq
end Go.Proofs.YtfdhglllmhggkaaDoor
namespace Go.Proofs.YtfdhglllmhggkaaDoor
set_option maxRecDepth 100000
set_option maxHeartbeats 40000000
set_option maxRecDepth 100000
open Go.RowKit WMath
set_option linter.unusedSimpArgs false
set_option linter.unusedVariables false
def RwOk (q : Rw) : Prop := q.op < 256 ∧ q.form < 256 ∧ q.frm < 256 ∧ q.kind < 256 ∧ q.mask < 4294967296 ∧ q.mtch < 4294967296 ∧ q.lay < 256
theorem okL : (allL.all fun p => decide (p.1.op < 256 ∧ p.1.form < 256 ∧ p.1.frm < 256 ∧ p.1.kind < 256 ∧ p.1.mask < 4294967296 ∧ p.1.mtch < 4294967296 ∧ p.1.lay < 256)) = true := by decide +kernel
theorem ok24 {p : Nm} (hp : p ∈ allL) : RwOk p.1 := by
  unfold RwOk
  exact of_decide_eq_true (List.all_eq_true.1 okL p hp)
theorem lv1 : (fdL 3211475).isSome = true ∧ (fdL 3231955).isSome = false ∧ (ndO (fdL 3231955)).1 = rwZ ∧ (ndO (nmR24 (ndO (fdL 3211475)).1)).2 = [102, 97, 100, 100, 46, 115] ∧ erO (nmR24 (ndO (fdL 3211475)).1) = 0 := by decide +kernel
theorem lv2 : erO (byR24 ⟨#[102, 99, 118, 116, 46, 100, 46, 119, 117]⟩) = 0 ∧ (ndO (byR24 ⟨#[102, 99, 118, 116, 46, 100, 46, 119, 117]⟩)).1.op = 22 ∧ (ndO (byR24 ⟨#[102, 99, 118, 116, 46, 100, 46, 119, 117]⟩)).1.form = 1 ∧ (ndO (byR24 ⟨#[102, 99, 118, 116, 46, 100, 46, 119, 117]⟩)).1.kind = 1 := by decide +kernel
theorem lv3 : RwOk (ndO (fdL 3211475)).1 := by unfold RwOk; decide +kernel
theorem lives24 {T : World → Prop} (FB : Box (∀ {w w' : World}, T w → Below w.heap.size w w' → T w')) (CF : ∀ x : Nat, x < 4294967296 → Box (∀ w, T w → Calls Tryd.prog 15 #[.int .u32 (x : Nat)] w fun r w' => r = .returned (.tuple #[.agg (rwC (ndO (fdL x)).1), .bool (fdL x).isSome]) ∧ Below w.heap.size w w')) (CN : ∀ q : Rw, RwOk q → Box (∀ w, T w → Calls Tryd.prog 12 #[.agg (rwC q)] w fun r w' => r = .returned (.tuple #[.string ⟨(ndO (nmR24 q)).2.toArray⟩, .int .i64 (erO (nmR24 q))]) ∧ Below w.heap.size w w')) (CD : ∀ s : ByteArray, s.size ≤ maxLen → Box (∀ w, T w → Calls Tryd.prog 13 #[.string s] w fun r w' => r = .returned (.tuple #[.agg (rwC (ndO (byR24 s)).1), .int .i64 (erO (byR24 s))]) ∧ Below w.heap.size w w')) (CL : Box (∀ w, T w → Calls Tryd.prog 11 #[] w fun r w' => r = .returned (.int .i64 136) ∧ Below w.heap.size w w')) (w : World) (hT : T w) : Calls Tryd.prog 14 #[] w fun r w' => r = .returned (.bool true) ∧ Below w.heap.size w w' := by
  obtain ⟨a1, a2, a3, a4, a5⟩ := lv1
  obtain ⟨b1, b2, b3, b4⟩ := lv2
  have F1 := CF 3211475 (by decide)
  have F2 := CF 3231955 (by decide)
  have N1 := CN _ lv3
  have N2 := CD ⟨#[102, 99, 118, 116, 46, 100, 46, 119, 117]⟩ (by decide)
  rw [a1] at F1
  rw [a2, a3] at F2
  rw [a4, a5] at N1
  rw [b1] at N2
  exact tb_lives FB _ _ ⟨b2, b3, b4⟩ F1 F2 N1 N2 CL w hT
theorem backN : (allL.all fun p => decide ((ndO (byR24 ⟨p.2.toArray⟩)).1 = p.1 ∧ erO (byR24 ⟨p.2.toArray⟩) = 0 ∧ p.2.length ≤ 100)) = true := by decide +kernel
theorem by24 {p : Nm} (hp : p ∈ allL) : (ndO (byR24 ⟨p.2.toArray⟩)).1 = p.1 ∧ erO (byR24 ⟨p.2.toArray⟩) = 0 ∧ p.2.length ≤ 100 := of_decide_eq_true (List.all_eq_true.1 backN p hp)
end Go.Proofs.YtfdhglllmhggkaaDoor
