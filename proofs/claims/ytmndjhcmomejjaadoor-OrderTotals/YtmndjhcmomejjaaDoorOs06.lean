/-
  What the functions that the statement reaches return: part 6 (H5, H6, H9).
-/
import Derived.Laws.MakeOwn
import Derived.ArgAppend
import Derived.Test.YtmndjhcmomejjaaDoorOs05
namespace Go.Proofs.YtmndjhcmomejjaaDoor
set_option maxRecDepth 100000
set_option maxHeartbeats 40000000
set_option maxRecDepth 100000
open Go.RowKit WMath
set_option linter.unusedSimpArgs false
set_option linter.unusedVariables false
theorem bls_size (l : List (Nat × Nat)) : (bls l).size = l.length * 2 := by
  unfold bls
  rw [List.size_toArray]
  induction l with
  | nil => rfl
  | cons a t ih => simp only [List.flatMap_cons, List.length_append, List.length_cons, List.length_nil]; omega
theorem bls_get (l : List (Nat × Nat)) (j : Nat) : (bls l)[j]? = (l[j / 2]?).map (fun p => if j % 2 = 0 then Value.int .u64 (p.1 : Nat) else Value.int .u64 (p.2 : Nat)) := by
  unfold bls
  rw [List.getElem?_toArray]
  induction l generalizing j with
  | nil => simp
  | cons a t ih =>
    match j with
    | 0 => simp
    | 1 => simp
    | j + 2 =>
      have := ih j
      rw [show (j + 2) / 2 = j / 2 + 1 by omega, show (j + 2) % 2 = j % 2 by omega, List.getElem?_cons_succ, ← this]
      simp
theorem bls_set (l : List (Nat × Nat)) (k x y : Nat) (h : k < l.length) : ((bls l).setIfInBounds (k * 2) (.int .u64 (x : Nat))).setIfInBounds (k * 2 + 1) (.int .u64 (y : Nat)) = bls (l.set k (x, y)) := by
  apply Array.ext_getElem?
  intro j
  have sz := bls_size l
  rw [bls_get, Array.getElem?_setIfInBounds, Array.getElem?_setIfInBounds, Array.size_setIfInBounds, bls_get]
  by_cases c1 : k * 2 + 1 = j
  · rw [if_pos c1, if_pos (by omega), show j / 2 = k by omega, List.getElem?_set_self h]
    simp only [Option.map_some]
    rw [if_neg (by omega)]
  rw [if_neg c1]
  by_cases c2 : k * 2 = j
  · rw [if_pos c2, if_pos (by omega), show j / 2 = k by omega, List.getElem?_set_self h]
    simp only [Option.map_some]
    rw [if_pos (by omega)]
  rw [if_neg c2, List.getElem?_set_ne (by omega)]
theorem bls_made (L : Nat) : madeCells #[.int .u64 0, .int .u64 0] (L * 2) = bls (List.replicate L (0, 0)) := by
  apply Array.ext_getElem?
  intro i
  rw [bls_get]
  by_cases h : i < L * 2
  · rw [List.getElem?_replicate, if_pos (by omega)]
    have m := Nat.mod_lt i (show 0 < 2 by decide)
    simp only [madeCells, Option.map_some]
    have e : i % 2 = 0 ∨ i % 2 = 1 := by omega
    rcases e with e | e <;> simp [h, e]
  · rw [Array.getElem?_eq_none (by rw [size_madeCells]; omega), List.getElem?_eq_none (by rw [List.length_replicate]; omega)]
    rfl
theorem bl_make (L : Nat) (h : L ≤ 1000) (w : World) : (Instr.makeSlice 34 (.int .i64 (L : Int)) (.int .i64 (L : Int))).run Tryd.prog w = .ok (.slice (some ⟨w.heap.size, 0, none⟩) L L) (w.alloc (.cells (bls (List.replicate L (0, 0))) 25)) := by
  have info : (Tryd.prog.info? 25).map (fun i => (i.zero, i.size, i.bytes)) = some (some (.agg #[.int .u64 0, .int .u64 0]), 2, 16) := by kernel_rfl
  obtain ⟨i, hi, hzz⟩ := Option.map_eq_some_iff.1 info
  simp only [Prod.mk.injEq] at hzz
  obtain ⟨hz, hs, hb⟩ := hzz
  have r := run_make (P := Tryd.prog) w 34 25 i _ Tryd.underlying34 hi hz .i64 .i64 L L (by omega) (Int.le_refl _) (by rw [hb]; omega) (by omega)
  rw [hs, Int.toNat_natCast] at r
  rw [← bls_made]
  exact r
def insA (tot : Nat × Nat → Nat × Nat → Int) (x : Nat × Nat) (S : List (Nat × Nat)) : Nat → List (Nat × Nat)
  | 0 => x :: S
  | k + 1 => if tot x (S[k]?.getD (0, 0)) < 0 then insA tot x S k else S.take (k + 1) ++ x :: S.drop (k + 1)
def srt (tot : Nat × Nat → Nat × Nat → Int) : List (Nat × Nat) → List (Nat × Nat) → List (Nat × Nat)
  | S, [] => S
  | S, x :: t => srt tot (insA tot x S S.length) t
theorem srt_snoc (tot : Nat × Nat → Nat × Nat → Int) (l : List (Nat × Nat)) (x : Nat × Nat) : ∀ S, srt tot S (l ++ [x]) = insA tot x (srt tot S l) (srt tot S l).length := by
  induction l with
  | nil => intro S; rfl
  | cons a t ih => intro S; exact ih _
theorem srt_take (tot : Nat × Nat → Nat × Nat → Int) (l : List (Nat × Nat)) (k : Nat) (x : Nat × Nat) (h : l[k]? = some x) : srt tot [] (l.take (k + 1)) = insA tot x (srt tot [] (l.take k)) (srt tot [] (l.take k)).length := by
  rw [List.take_add_one, h]
  exact srt_snoc tot _ x []
theorem insA_len (tot : Nat × Nat → Nat × Nat → Int) (x : Nat × Nat) (S : List (Nat × Nat)) : ∀ k, (insA tot x S k).length = S.length + 1 := by
  intro k
  induction k with
  | zero => rfl
  | succ k ih =>
    unfold insA
    split
    · exact ih
    · rw [List.length_append, List.length_cons, List.length_take, List.length_drop]
      omega
theorem srt_len (tot : Nat × Nat → Nat × Nat → Int) (l : List (Nat × Nat)) : ∀ S, (srt tot S l).length = S.length + l.length := by
  induction l with
  | nil => intro S; rfl
  | cons a t ih => intro S; unfold srt; rw [ih, insA_len, List.length_cons]; omega
theorem insA_mem (tot : Nat × Nat → Nat × Nat → Int) (x : Nat × Nat) (S : List (Nat × Nat)) (p : Nat × Nat) : ∀ k, p ∈ insA tot x S k → p = x ∨ p ∈ S := by
  intro k
  induction k with
  | zero => intro h; exact List.mem_cons.1 h
  | succ k ih =>
    unfold insA
    split
    · exact ih
    · intro h
      rcases List.mem_append.1 h with h | h
      · exact Or.inr (List.mem_of_mem_take h)
      · rcases List.mem_cons.1 h with h | h
        · exact Or.inl h
        · exact Or.inr (List.mem_of_mem_drop h)
theorem srt_mem (tot : Nat × Nat → Nat × Nat → Int) (l : List (Nat × Nat)) (p : Nat × Nat) : ∀ S, p ∈ srt tot S l → p ∈ S ∨ p ∈ l := by
  induction l with
  | nil => intro S h; exact Or.inl h
  | cons a t ih =>
    intro S h
    rcases ih _ h with h | h
    · rcases insA_mem tot a S p _ h with rfl | h
      · exact Or.inr (List.mem_cons_self ..)
      · exact Or.inl h
    · exact Or.inr (List.mem_cons_of_mem _ h)
def hole (S Z : List (Nat × Nat)) (st : Nat × Nat) (k : Nat) : List (Nat × Nat) := S.take k ++ st :: (S.drop k ++ Z)
theorem hole_len (S Z : List (Nat × Nat)) (st : Nat × Nat) (k : Nat) (hk : k ≤ S.length) : (hole S Z st k).length = S.length + 1 + Z.length := by
  unfold hole
  rw [List.length_append, List.length_cons, List.length_append, List.length_take, List.length_drop]
  omega
theorem hole_set (S Z : List (Nat × Nat)) (st x : Nat × Nat) (k : Nat) (hk : k ≤ S.length) : (hole S Z st k).set k x = hole S Z x k := by
  unfold hole
  rw [List.set_append_right _ _ (by rw [List.length_take]; omega), List.length_take, Nat.min_eq_left hk, Nat.sub_self]
  rfl
theorem hole_down (S Z : List (Nat × Nat)) (k : Nat) (p : Nat × Nat) (h : S[k]? = some p) : hole S Z p (k + 1) = hole S Z p k := by
  unfold hole
  have hk := (List.getElem?_eq_some_iff.1 h).1
  have e := (List.getElem?_eq_some_iff.1 h).2
  rw [List.take_add_one, h, List.drop_eq_getElem_cons hk, e]
  simp
theorem hole_at (S Z : List (Nat × Nat)) (st : Nat × Nat) (k : Nat) (p : Nat × Nat) (h : S[k]? = some p) : (hole S Z st (k + 1))[k]? = some p := by
  unfold hole
  have hk := (List.getElem?_eq_some_iff.1 h).1
  rw [List.getElem?_append_left (by rw [List.length_take]; omega), List.getElem?_take_of_lt (by omega)]
  exact h
theorem setB2 {w wu : World} {g o : Nat} (Bu : Below w.heap.size w wu) (x y : Value) (hg : w.heap.size ≤ g := by exact Nat.le_refl _) : Below w.heap.size w ((wu.setCell ⟨g, o, none⟩ x).setCell ⟨g, o + 1, none⟩ y) := (Bu.setCell hg x).setCell hg y
theorem hole_self (S Z : List (Nat × Nat)) (st : Nat × Nat) (k : Nat) (hk : k ≤ S.length) : (hole S Z st k)[k]? = some st := by
  unfold hole
  rw [List.getElem?_append_right (by rw [List.length_take]; omega), List.length_take, Nat.min_eq_left hk, Nat.sub_self]
  rfl
theorem place_row {wu : World} {g : Nat} {T : TypeId} (S Z : List (Nat × Nat)) (st x : Nat × Nat) (k : Nat) (hk : k ≤ S.length) (R : wu.heap[g]? = some (.cells (bls (hole S Z st k)) T)) : ((wu.setCell ⟨g, k * 2, none⟩ (.int .u64 (x.1 : Nat))).setCell ⟨g, k * 2 + 1, none⟩ (.int .u64 (x.2 : Nat))).heap[g]? = some (.cells (bls (hole S Z x k)) T) := by
  have r1 := setCell_row (k := k * 2) (v := .int .u64 (x.1 : Nat)) R
  have r2 := setCell_row (k := k * 2 + 1) (v := .int .u64 (x.2 : Nat)) r1
  rw [r2, bls_set _ _ _ _ (by rw [hole_len _ _ _ _ hk]; omega), hole_set _ _ _ _ _ hk]
set_option maxRecDepth 100000 in
set_option maxHeartbeats 8000000 in
theorem rso_list (f : Int) (tot : Nat × Nat → Nat × Nat → Int) (ok : Nat × Nat → Prop) (l : List (Nat × Nat)) (L g z c : Nat) (w : World) (hl : l.length = L) (hL : L ≤ 1000) (hok : Box (∀ p ∈ l, ok p))
    (HC : Box (∀ W, Below w.heap.size w W → ∀ k p, l[k]? = some p → W.cell? ⟨g, z + k * 2, none⟩ = some (.int .u64 (p.1 : Nat)) ∧ W.cell? ⟨g, z + k * 2 + 1, none⟩ = some (.int .u64 (p.2 : Nat))))
    (KT : Box (∀ p q, ok p → ok q → ∀ w, Calls Tryd.prog 23 #[.int .u8 f, .agg #[.int .u64 (p.1 : Nat), .int .u64 (p.2 : Nat)], .agg #[.int .u64 (q.1 : Nat), .int .u64 (q.2 : Nat)]] w fun r w' => r = .returned (.int .i64 (tot p q)) ∧ Below w.heap.size w w')) :
    Calls Tryd.prog 21 #[.int .u8 f, .slice (some ⟨g, z, none⟩) L c] w fun r w' => r = .returned (.slice (some ⟨w.heap.size, 0, none⟩) L L) ∧ w'.heap[w.heap.size]? = some (.cells (bls (srt tot [] l)) 25) ∧ Below w.heap.size w w' := by
  have HL := box hl
  clear hl
  have hmk := bl_make L hL
  go_enter Tryd.func21, Tryd.ntmps21
  go_wp2
  clear hmk
  have Ro := heap_alloc_last w (.cells (bls (List.replicate L (0, 0))) 25)
  have Bo := bal w (.cells (bls (List.replicate L (0, 0))) 25)
  obtain ⟨V, hV⟩ : ∃ V, w.alloc (.cells (bls (List.replicate L (0, 0))) 25) = V := ⟨_, rfl⟩
  rw [hV] at Ro Bo ⊢
  clear hV
  go_loopw [6] (fun iv wr => ∃ (i : Nat), i ≤ L ∧ iv = .int .i64 (i : Int) ∧ Below w.heap.size w wr ∧ wr.heap[w.heap.size]? = some (.cells (bls (srt tot [] (l.take i) ++ List.replicate (L - i) (0, 0))) 25)) (fun iv _ => L - (intOf iv).toNat)
  case atStart => exact ⟨0, by omega, rfl, Bo, Ro⟩
  case round =>
    clear Ro Bo
    obtain ⟨i, hi, rfl, Bi, Ri⟩ := hrel
    by_cases hlt : i < L
    · obtain ⟨x, hx⟩ : ∃ x, l[i]? = some x := ⟨_, List.getElem?_eq_getElem (by rw [HL.out]; exact hlt)⟩
      have dl : decide ((i : Int) < (L : Int)) = true := decide_eq_true (by omega)
      have ox := hok.out x (List.mem_of_getElem? hx)
      obtain ⟨S, hS⟩ : ∃ S, srt tot [] (l.take i) = S := ⟨_, rfl⟩
      have lS : S.length = i := by
        rw [← hS, srt_len, List.length_take, HL.out]
        show 0 + min i L = i
        omega
      have okS : Box (∀ p ∈ S, ok p) := box (fun p hp => by
        rw [← hS] at hp
        rcases srt_mem tot _ p [] hp with h | h
        · exact absurd h List.not_mem_nil
        · exact hok.out p (List.mem_of_mem_take h))
      obtain ⟨Z, hZ⟩ : ∃ Z, List.replicate (L - (i + 1)) ((0, 0) : Nat × Nat) = Z := ⟨_, rfl⟩
      have lZ : Z.length = L - (i + 1) := by rw [← hZ, List.length_replicate]
      have e0 : srt tot [] (l.take i) ++ List.replicate (L - i) (0, 0) = hole S Z (0, 0) i := by
        rw [hS, show L - i = (L - (i + 1)) + 1 by omega, List.replicate_succ, hZ]
        unfold hole
        rw [List.take_of_length_le (by omega), List.drop_of_length_le (by omega)]
        rfl
      rw [e0] at Ri
      have ft := srt_take tot l i x hx
      rw [hS, lS] at ft
      have FT := box ft
      have HX := box hx
      have OX := box ox
      have hb0 : (0 : Int) ≤ (i : Int) := by omega
      have hb1 : (i : Int) < (L : Int) := by omega
      clear ft e0 hS hx ox
      go_wp2
      go_loopw [7] (fun kv wr => ∃ (k : Nat) (st : Nat × Nat), k ≤ i ∧ kv = .int .i64 (k : Int) ∧ Below w.heap.size w wr ∧ wr.heap[w.heap.size]? = some (.cells (bls (hole S Z st k)) 25) ∧ Box (insA tot x S i = insA tot x S k)) (fun kv _ => (intOf kv).toNat)
      case atStart => exact ⟨i, (0, 0), Nat.le_refl _, rfl, Bi, Ri, box rfl⟩
      case round =>
        clear Bi Ri
        obtain ⟨k, st, hk, rfl, Bk, Rk, HA⟩ := hrel
        cases k with
        | zero =>
          obtain ⟨F, hF1, hF2⟩ := below_fun wr
          go_wp2_with fail
          refine wp_region_below F hF2 (by kernel_rfl) (by kernel_rfl) ?_
          repeat first | go_big_quiet_step (first | fail) | quiet_step (first | fail)
          refine wpQuiet_nil ?_
          rintro _ ⟨uW, rfl⟩
          have Bu := btr Bk (hF1 uW)
          have Ru := heap_of (hF1 uW) _ _ _ Rk
          obtain ⟨wu, hwu⟩ : ∃ V, F uW = V := ⟨_, rfl⟩
          rw [hwu] at Bu Ru ⊢
          clear hwu hF1 hF2
          clear F
          obtain ⟨a0, a1⟩ := HC.out wu Bu i x HX.out
          have q0 := fz (k := 0 * 2) Ru
          have q1 := fz (k := 0 * 2 + 1) Ru
          obtain ⟨v0, v1⟩ := bls_at (hole S Z st (0)) (0) st (hole_self S Z st (0) (by omega))
          have u0 := (cell_of_row wu w.heap.size (0 * 2) _ _ _ Ru).trans v0
          have u1 := (cell_of_row wu w.heap.size (0 * 2 + 1) _ _ _ Ru).trans v1
          have pr := place_row S Z st x (0) (by omega) Ru
          have hL1 : (0 : Int) < (L : Int) := by omega
          rw [Nat.zero_mul] at q0 u0 pr
          rw [Nat.zero_mul, Nat.zero_add] at q1 u1
          rw [Nat.zero_add] at pr
          have pb2 := setB2 (g := w.heap.size) (o := 0) Bu (.int .u64 (x.1 : Nat)) (.int .u64 (x.2 : Nat))
          go_wp2
          refine ⟨⟨i + 1, by omega, by go_num, pb2, ?_⟩, by simp [intOf] <;> omega⟩
          rw [pr, FT.out, HA.out, hZ]
          rfl
        | succ j =>
          obtain ⟨p, hp⟩ : ∃ p, S[j]? = some p := ⟨_, List.getElem?_eq_getElem (by rw [lS]; omega)⟩
          have KQ := box (KT.out x p OX.out (okS.out p (List.mem_of_getElem? hp)))
          obtain ⟨t, ht⟩ : ∃ t, tot x p = t := ⟨_, rfl⟩
          rw [ht] at KQ
          have HT := box ht
          have HP := box hp
          clear ht
          have w1 : IntKind.i64.wrap (((j + 1 : Nat) : Int) - 1) = (j : Int) := by rw [wrap_i64_is _ (by omega) (by omega)]; omega
          have g0 : decide ((0 : Int) < ((j + 1 : Nat) : Int)) = true := decide_eq_true (by omega)
          have hj0 : (0 : Int) ≤ (j : Int) := by omega
          have hj1 : (j : Int) < (L : Int) := by omega
          have hk0 : (0 : Int) ≤ ((j + 1 : Nat) : Int) := by omega
          have hk1 : ((j + 1 : Nat) : Int) < (L : Int) := by omega
          obtain ⟨o, ho⟩ : ∃ o, decide (t < 0) = o := ⟨_, rfl⟩
          obtain ⟨F, hF1, hF2⟩ := below_fun wr
          have f0 := fun u => (HC.out (F u) (btr Bk (hF1 u)) i x HX.out).1
          have f1 := fun u => (HC.out (F u) (btr Bk (hF1 u)) i x HX.out).2
          have f2 := fun u => (cell_of_row (F u) w.heap.size (j * 2) _ _ _ (heap_of (hF1 u) _ _ _ Rk)).trans (bls_at (hole S Z st (j + 1)) j p (hole_at S Z st j p HP.out)).1
          have f3 := fun u => (cell_of_row (F u) w.heap.size (j * 2 + 1) _ _ _ (heap_of (hF1 u) _ _ _ Rk)).trans (bls_at (hole S Z st (j + 1)) j p (hole_at S Z st j p HP.out)).2
          go_wp2_with fail
          refine wp_region_below F hF2 (by kernel_rfl) (by kernel_rfl) ?_
          repeat first | go_big_quiet_step (first | (go_at_call 23; exact quietF hF1 hF2 (KQ.out _)) | fail) | quiet_step (first | (go_at_call 23; exact quietF hF1 hF2 (KQ.out _)) | fail)
          refine wpQuiet_nil ?_
          rintro _ ⟨uW, rfl⟩
          have Bu := btr Bk (hF1 uW)
          have Ru := heap_of (hF1 uW) _ _ _ Rk
          obtain ⟨wu, hwu⟩ : ∃ V, F uW = V := ⟨_, rfl⟩
          rw [hwu] at Bu Ru ⊢
          clear hwu hF1 hF2 f0 f1 f2 f3
          clear F
          have ia : insA tot x S (j + 1) = if t < 0 then insA tot x S j else S.take (j + 1) ++ x :: S.drop (j + 1) := by
            show (if tot x (S[j]?.getD (0, 0)) < 0 then insA tot x S j else S.take (j + 1) ++ x :: S.drop (j + 1)) = _
            rw [HP.out]
            show (if tot x p < 0 then _ else _) = _
            rw [HT.out]
          have IA := box ia
          clear ia hp
          cases o
          · have tn := of_decide_eq_false ho
            obtain ⟨a0, a1⟩ := HC.out wu Bu i x HX.out
            have q0 := fz (k := (j + 1) * 2) Ru
            have q1 := fz (k := (j + 1) * 2 + 1) Ru
            obtain ⟨v0, v1⟩ := bls_at (hole S Z st (j + 1)) (j + 1) st (hole_self S Z st (j + 1) (by omega))
            have u0 := (cell_of_row wu w.heap.size ((j + 1) * 2) _ _ _ Ru).trans v0
            have u1 := (cell_of_row wu w.heap.size ((j + 1) * 2 + 1) _ _ _ Ru).trans v1
            have pr := place_row S Z st x (j + 1) (by omega) Ru
            have pb2 := setB2 (g := w.heap.size) (o := (j + 1) * 2) Bu (.int .u64 (x.1 : Nat)) (.int .u64 (x.2 : Nat))
            go_wp2
            refine ⟨⟨i + 1, by omega, by go_num, pb2, ?_⟩, by simp [intOf] <;> omega⟩
            rw [pr, FT.out, HA.out, IA.out, if_neg tn, hZ]
            unfold hole
            simp
          · have tn := of_decide_eq_true ho
            have q0 := fz (k := (j + 1) * 2) Ru
            have q1 := fz (k := (j + 1) * 2 + 1) Ru
            obtain ⟨v0, v1⟩ := bls_at (hole S Z st (j + 1)) (j + 1) st (hole_self S Z st (j + 1) (by omega))
            have u0 := (cell_of_row wu w.heap.size ((j + 1) * 2) _ _ _ Ru).trans v0
            have u1 := (cell_of_row wu w.heap.size ((j + 1) * 2 + 1) _ _ _ Ru).trans v1
            obtain ⟨v2, v3⟩ := bls_at (hole S Z st (j + 1)) j p (hole_at S Z st j p HP.out)
            have u2 := (cell_of_row wu w.heap.size (j * 2) _ _ _ Ru).trans v2
            have u3 := (cell_of_row wu w.heap.size (j * 2 + 1) _ _ _ Ru).trans v3
            have pr := place_row S Z st p (j + 1) (by omega) Ru
            rw [hole_down S Z j p HP.out] at pr
            have pb2 := setB2 (g := w.heap.size) (o := (j + 1) * 2) Bu (.int .u64 (p.1 : Nat)) (.int .u64 (p.2 : Nat))
            go_wp2
            exact ⟨⟨j, p, by omega, rfl, pb2, pr, box (by rw [HA.out, IA.out, if_pos tn])⟩, by simp [intOf] <;> omega⟩
    · obtain rfl : i = L := by omega
      have dl : decide ((i : Int) < (i : Int)) = false := by rw [decide_eq_false_iff_not]; omega
      rw [Nat.sub_self, List.replicate_zero, List.append_nil, List.take_of_length_le (by rw [HL.out]; exact Nat.le_refl _)] at Ri
      go_wp2
      go_ret
      exact ⟨rfl, Ri, Bi⟩
end Go.Proofs.YtmndjhcmomejjaaDoor
namespace Go.Proofs.YtmndjhcmomejjaaDoor
set_option maxRecDepth 100000
set_option maxHeartbeats 40000000
set_option maxRecDepth 100000
open Go.RowKit WMath XMath
set_option linter.unusedSimpArgs false
set_option linter.unusedVariables false
theorem kM_n {f : Int} (hf : Is4 f) {n : Nat} (fit : Fit f n) : n = kM f n + (if kN f n then 2 ^ wV f else 0) := by
  have := k_enc hf fit
  unfold enc7 at this
  unfold kM
  exact this.symm
theorem sgI_zero (x : Int) : sgI x = 0 ↔ x = 0 := by
  unfold sgI
  split
  · constructor <;> intro h <;> omega
  split
  · constructor <;> intro h <;> omega
  · constructor <;> intro h <;> omega
theorem sgI_lt (x : Int) : (sgI x < 0 ↔ x < 0) ∧ (0 < sgI x ↔ 0 < x) := by
  unfold sgI
  split
  · constructor <;> constructor <;> intro h <;> omega
  split
  · constructor <;> constructor <;> intro h <;> omega
  · constructor <;> constructor <;> intro h <;> omega
theorem tk_inj {f : Int} (hf : Is4 f) {a b : Nat} (fa : Fit f a) (fb : Fit f b) (h : tk f a = tk f b) : a = b := by
  have pa := kN_pos0 fa
  have pb := kN_pos0 fb
  have p := Nat.two_pow_pos (wV f)
  unfold tk at h
  cases s1 : kN f a <;> cases s2 : kN f b <;> rw [s1, s2] at h
  · simp only [Bool.false_eq_true, if_false] at h
    omega
  · have := pb.1 s2
    simp only [Bool.false_eq_true, if_false, if_true] at h
    omega
  · have := pa.1 s1
    simp only [Bool.false_eq_true, if_false, if_true] at h
    omega
  · simp only [if_true] at h
    omega
theorem totR_turn (f : Int) (a b : Nat) : totR f a b = -totR f b a := by
  unfold totR
  rw [show tk f a - tk f b = -(tk f b - tk f a) by omega, sgI_neg]
theorem totR_zero {f : Int} (hf : Is4 f) {a b : Nat} (fa : Fit f a) (fb : Fit f b) : totR f a b = 0 ↔ a = b := by
  unfold totR
  rw [sgI_zero]
  constructor
  · intro h
    exact tk_inj hf fa fb (by omega)
  · intro h
    rw [h]
    omega
theorem totR_le (f : Int) (a b : Nat) : totR f a b ≤ 0 ↔ tk f a ≤ tk f b := by
  unfold totR
  have := (sgI_lt (tk f a - tk f b)).2
  omega
theorem totR_trans (f : Int) (a b c : Nat) (h1 : totR f a b ≤ 0) (h2 : totR f b c ≤ 0) : totR f a c ≤ 0 := by
  rw [totR_le] at h1 h2 ⊢
  omega
def rise (tot : Nat × Nat → Nat × Nat → Int) : List (Nat × Nat) → Prop
  | [] => True
  | x :: t => (∀ y ∈ t, tot x y ≤ 0) ∧ rise tot t
theorem rise_one (tot : Nat × Nat → Nat × Nat → Int) (ok : Nat × Nat → Prop) (hz : ∀ x y, ok x → ok y → tot x y ≤ 0 → tot y x ≤ 0 → x = y) : ∀ (s t : List (Nat × Nat)), (∀ x ∈ s, ok x) → rise tot s → rise tot t → s.Perm t → s = t := by
  intro s
  induction s with
  | nil => intro t _ _ _ hp; exact hp.nil_eq
  | cons x s ih =>
    intro t hs rs rt hp
    cases t with
    | nil => exact absurd hp.symm.nil_eq (by simp)
    | cons y t =>
      have xy : x = y := by
        have mx : x ∈ y :: t := hp.subset (List.mem_cons_self ..)
        have my : y ∈ x :: s := hp.symm.subset (List.mem_cons_self ..)
        rcases List.mem_cons.1 mx with e | mx
        · exact e
        rcases List.mem_cons.1 my with e | my
        · exact e.symm
        exact hz x y (hs x (List.mem_cons_self ..)) (hs y (List.mem_cons_of_mem _ my)) (rs.1 y my) (rt.1 x mx)
      subst xy
      rw [ih t (fun z hz => hs z (List.mem_cons_of_mem _ hz)) rs.2 rt.2 (List.Perm.cons_inv hp)]
theorem rise_put (tot : Nat × Nat → Nat × Nat → Int) (x : Nat × Nat) (B : List (Nat × Nat)) (hB : ∀ y ∈ B, tot x y ≤ 0) : ∀ A : List (Nat × Nat), (∀ y ∈ A, tot y x ≤ 0) → rise tot (A ++ B) → rise tot (A ++ x :: B) := by
  intro A
  induction A with
  | nil => intro _ h; exact ⟨hB, h⟩
  | cons a A ih =>
    intro hA h
    refine ⟨fun y hy => ?_, ih (fun y hy => hA y (List.mem_cons_of_mem _ hy)) h.2⟩
    rcases List.mem_append.1 hy with hy | hy
    · exact h.1 y (List.mem_append_left _ hy)
    · rcases List.mem_cons.1 hy with rfl | hy
      · exact hA a (List.mem_cons_self ..)
      · exact h.1 y (List.mem_append_right _ hy)
theorem rise_take (tot : Nat × Nat → Nat × Nat → Int) (p : Nat × Nat) : ∀ (S : List (Nat × Nat)) (k : Nat), rise tot S → S[k]? = some p → ∀ y ∈ S.take (k + 1), y = p ∨ tot y p ≤ 0 := by
  intro S
  induction S with
  | nil => intro k _ h; simp at h
  | cons a S ih =>
    intro k hr h y hy
    cases k with
    | zero =>
      simp at h hy
      exact Or.inl (hy.trans h)
    | succ k =>
      rw [List.take_succ_cons] at hy
      rw [List.getElem?_cons_succ] at h
      rcases List.mem_cons.1 hy with rfl | hy
      · exact Or.inr (hr.1 p (List.mem_of_getElem? h))
      · exact ih k hr.2 h y hy
theorem insA_rise (tot : Nat × Nat → Nat × Nat → Int) (hn : ∀ x y, tot y x = -tot x y) (ht : ∀ x y z, tot x y ≤ 0 → tot y z ≤ 0 → tot x z ≤ 0) (x : Nat × Nat) (S : List (Nat × Nat)) (hS : rise tot S) : ∀ k, k ≤ S.length → (∀ y ∈ S.drop k, tot x y ≤ 0) → rise tot (insA tot x S k) := by
  intro k
  induction k with
  | zero => intro _ h; exact ⟨fun y hy => h y (by simpa using hy), hS⟩
  | succ k ih =>
    intro hk h
    obtain ⟨p, hp⟩ : ∃ p, S[k]? = some p := ⟨_, List.getElem?_eq_getElem (by omega)⟩
    unfold insA
    rw [hp]
    show rise tot (if tot x p < 0 then _ else _)
    have dr : S.drop k = p :: S.drop (k + 1) := by
      rw [List.drop_eq_getElem_cons (by omega)]
      congr 1
      exact (List.getElem?_eq_some_iff.1 hp).2
    split
    · refine ih (by omega) (fun y hy => ?_)
      rw [dr] at hy
      rcases List.mem_cons.1 hy with rfl | hy
      · omega
      · exact h y hy
    · rename_i c
      refine rise_put tot x _ h _ (fun y hy => ?_) (by rw [List.take_append_drop]; exact hS)
      have px : tot p x ≤ 0 := by rw [hn x p]; omega
      rcases rise_take tot p S k hS hp y hy with rfl | q
      · exact px
      · exact ht y p x q px
theorem insA_perm (tot : Nat × Nat → Nat × Nat → Int) (x : Nat × Nat) (S : List (Nat × Nat)) : ∀ k, (insA tot x S k).Perm (x :: S) := by
  intro k
  induction k with
  | zero => exact List.Perm.refl _
  | succ k ih =>
    unfold insA
    split
    · exact ih
    · have := List.perm_middle (a := x) (l₁ := S.take (k + 1)) (l₂ := S.drop (k + 1))
      rw [List.take_append_drop] at this
      exact this
theorem srt_rise (tot : Nat × Nat → Nat × Nat → Int) (hn : ∀ x y, tot y x = -tot x y) (ht : ∀ x y z, tot x y ≤ 0 → tot y z ≤ 0 → tot x z ≤ 0) : ∀ (l S : List (Nat × Nat)), rise tot S → rise tot (srt tot S l) := by
  intro l
  induction l with
  | nil => intro S h; exact h
  | cons a t ih => intro S h; exact ih _ (insA_rise tot hn ht a S h _ (Nat.le_refl _) (fun y hy => by rw [List.drop_of_length_le (Nat.le_refl _)] at hy; exact absurd hy List.not_mem_nil))
theorem srt_perm (tot : Nat × Nat → Nat × Nat → Int) : ∀ (l S : List (Nat × Nat)), (srt tot S l).Perm (S ++ l) := by
  intro l
  induction l with
  | nil => intro S; rw [List.append_nil]; exact List.Perm.refl _
  | cons a t ih =>
    intro S
    refine (ih _).trans (((insA_perm tot a S _).append_right t).trans ?_)
    exact (List.perm_middle (a := a) (l₁ := S) (l₂ := t)).symm
theorem srt_one (tot : Nat × Nat → Nat × Nat → Int) (ok : Nat × Nat → Prop) (hn : ∀ x y, tot y x = -tot x y) (ht : ∀ x y z, tot x y ≤ 0 → tot y z ≤ 0 → tot x z ≤ 0) (hz : ∀ x y, ok x → ok y → tot x y = 0 → x = y) (l s : List (Nat × Nat)) (hl : ∀ x ∈ l, ok x) (hs : rise tot s) (hp : s.Perm l) : s = srt tot [] l :=
  rise_one tot ok (fun x y hx hy h1 h2 => hz x y hx hy (by have := hn x y; omega)) s _ (fun x hx => hl x (hp.subset hx)) hs (srt_rise tot hn ht l [] trivial) (hp.trans (srt_perm tot l []).symm)
end Go.Proofs.YtmndjhcmomejjaaDoor
namespace Go.Proofs.YtmndjhcmomejjaaDoor
set_option maxRecDepth 100000
set_option maxHeartbeats 40000000
set_option maxRecDepth 100000
open Go.RowKit WMath
set_option linter.unusedSimpArgs false
set_option linter.unusedVariables false
theorem bF_len (l : List (Nat × Nat)) : (l.flatMap fun p => [Value.int .u64 (p.1 : Nat), Value.int .u64 (p.2 : Nat)]).length = l.length * 2 := by
  induction l with
  | nil => rfl
  | cons a t ih => simp only [List.flatMap_cons, List.length_append, List.length_cons, List.length_nil]; omega
theorem bF_cell (l : List (Nat × Nat)) (j : Nat) (u : Value) (h : (l.flatMap fun p => [Value.int .u64 (p.1 : Nat), Value.int .u64 (p.2 : Nat)])[j]? = some u) : ∃ p, l[j / 2]? = some p ∧ u = if j % 2 = 0 then .int .u64 (p.1 : Nat) else .int .u64 (p.2 : Nat) := by
  induction l generalizing j with
  | nil => simp at h
  | cons a t ih =>
    match j, h with
    | 0, h => simp at h; exact ⟨a, rfl, h.symm⟩
    | 1, h => simp at h; exact ⟨a, rfl, h.symm⟩
    | j + 2, h =>
      have := ih j (by simpa using h)
      rw [show (j + 2) / 2 = j / 2 + 1 by omega, show (j + 2) % 2 = j % 2 by omega, List.getElem?_cons_succ]
      exact this
def SW (l : List (Nat × Nat)) (L : Nat) (s : Value) (W : World) : Prop :=
  (∃ o c, L = 0 ∧ s = .slice o 0 c) ∨ (∃ g z c, 1 ≤ L ∧ L ≤ c ∧ s = .slice (some ⟨g, z, none⟩) L c ∧ ∀ V, Below W.heap.size W V → ∀ k p, l[k]? = some p → V.cell? ⟨g, z + k * 2, none⟩ = some (.int .u64 (p.1 : Nat)) ∧ V.cell? ⟨g, z + k * 2 + 1, none⟩ = some (.int .u64 (p.2 : Nat)))
theorem grownC {w' : World} {l : List (Nat × Nat)} {L gk : Nat} {cur : Array Value} {T : TypeId} (hl : l.length = L) (rowk : w'.heap[gk]? = some (.cells cur T)) (htk : List.take (L * 2) cur.toList = l.flatMap fun p => [Value.int .u64 (p.1 : Nat), Value.int .u64 (p.2 : Nat)]) : Box (∀ W, Below w'.heap.size w' W → ∀ k p, l[k]? = some p → W.cell? ⟨gk, 0 + k * 2, none⟩ = some (.int .u64 (p.1 : Nat)) ∧ W.cell? ⟨gk, 0 + k * 2 + 1, none⟩ = some (.int .u64 (p.2 : Nat))) := box (fun W bW k p hp => by
  have r2 := heap_of bW _ _ _ rowk
  obtain ⟨a1, a2⟩ := bls_at l k p hp
  unfold bls at a1 a2
  rw [List.getElem?_toArray] at a1 a2
  have kl : k < L := by
    rw [← hl]
    exact (List.getElem?_eq_some_iff.1 hp).1
  have tk : ∀ j v, j < L * 2 → (l.flatMap fun p => [Value.int .u64 (p.1 : Nat), Value.int .u64 (p.2 : Nat)])[j]? = some v → cur[j]? = some v := fun j v hj hv => by
    rw [← htk, List.getElem?_take_of_lt hj] at hv
    rw [← Array.getElem?_toList]
    exact hv
  rw [Nat.zero_add]
  exact ⟨(cell_of_row W gk (k * 2) _ _ _ r2).trans (tk _ _ (by omega) a1), (cell_of_row W gk (k * 2 + 1) _ _ _ r2).trans (tk _ _ (by omega) a2)⟩)
theorem cellO {w W : World} {g o : Nat} {v : Value} (b : Below w.heap.size w W) (h : w.cell? ⟨g, o, none⟩ = some v) : W.cell? ⟨g, o, none⟩ = some v := by
  have l : g < w.heap.size := by
    rcases Nat.lt_or_ge g w.heap.size with c | c
    · exact c
    · unfold World.cell? at h
      rw [Array.getElem?_eq_none c] at h
      simp at h
  unfold World.cell? at h ⊢
  rw [b.block g l]
  exact h
set_option maxRecDepth 100000 in
set_option maxHeartbeats 8000000 in
theorem ots_N (f : Int) (l S : List (Nat × Nat)) (L : Nat) (w : World) (g z c : Nat) (hl : l.length = L) (hS : S.length = L) (p1 : 1 ≤ L) (q1 : L ≤ 60) (hc : L ≤ c)
    (HC : Box (∀ W, Below w.heap.size w W → ∀ k p, l[k]? = some p → W.cell? ⟨g, z + k * 2, none⟩ = some (.int .u64 (p.1 : Nat)) ∧ W.cell? ⟨g, z + k * 2 + 1, none⟩ = some (.int .u64 (p.2 : Nat))))
    (KS : Box (∀ (W : World) (s1 : Value), FAt W → SW l L s1 W → Calls Tryd.prog 20 #[.int .u8 f, s1] W fun r w' => ∃ (gs cs : Nat) (cur : Array Value), r = .returned (.tuple #[.slice (some ⟨gs, 0, none⟩) L cs, .int .i64 0]) ∧ W.heap.size ≤ gs ∧ L ≤ cs ∧ w'.heap[gs]? = some (.cells cur 25) ∧ Box (∀ k p, S[k]? = some p → cur[k * 2]? = some (.int .u64 (p.1 : Nat)) ∧ cur[k * 2 + 1]? = some (.int .u64 (p.2 : Nat))) ∧ Below W.heap.size W w'))
    (KF : Box (∀ W, Below w.heap.size w W → Calls Tryd.prog 12 #[.int .u8 f, .slice (some ⟨g, z, none⟩) L c] W fun r w' => r = .returned (.bool true) ∧ Below W.heap.size W w'))
    (KQ : Box (∀ W, Below w.heap.size w W → Calls Tryd.prog 21 #[.int .u8 f, .slice (some ⟨g, z, none⟩) L c] W fun r w' => r = .returned (.slice (some ⟨W.heap.size, 0, none⟩) L L) ∧ w'.heap[W.heap.size]? = some (.cells (bls S) 25) ∧ Below W.heap.size W w'))
    (KT : Box (∀ k p q, l[k]? = some p → l[k + 1]? = some q → ∃ v : Int, Box (∀ w, FAt w → Calls Tryd.prog 22 #[.int .u8 f, .agg #[.int .u64 (p.1 : Nat), .int .u64 (p.2 : Nat)], .agg #[.int .u64 (q.1 : Nat), .int .u64 (q.2 : Nat)]] w fun r w' => r = .returned (.tuple #[.int .i64 v, .int .i64 0]) ∧ Below w.heap.size w w') ∧ Box (∀ w, Calls Tryd.prog 23 #[.int .u8 f, .agg #[.int .u64 (p.1 : Nat), .int .u64 (p.2 : Nat)], .agg #[.int .u64 (q.1 : Nat), .int .u64 (q.2 : Nat)]] w fun r w' => r = .returned (.int .i64 v) ∧ Below w.heap.size w w')))
    (KA : Box (∀ w, FAt w → Calls Tryd.prog 13 #[] w fun r w' => r = .returned (.bool true) ∧ Below w.heap.size w w')) (hT : FAt w) : Calls Tryd.prog 5 #[.int .u8 f, .slice (some ⟨g, z, none⟩) L c] w fun r w' => r = .returned (.bool true) ∧ Below w.heap.size w w' := by
  have FF := box hT
  have HL := box hl
  have HSL := box hS
  clear hT hl hS
  have d1 : decide ((60 : Int) < (L : Int)) = false := decide_eq_false (by omega)
  have hlen := bF_len l
  rw [HL.out] at hlen
  have hb := fun j u (h : (l.flatMap fun p => [Value.int .u64 (p.1 : Nat), Value.int .u64 (p.2 : Nat)])[j]? = some u) => bF_cell l j u h
  have info : (Tryd.prog.info? 25).map (fun i => (i.zero, i.size, i.bytes)) = some (some (.agg #[.int .u64 0, .int .u64 0]), 2, 16) := by kernel_rfl
  obtain ⟨i0, hi, hz0, hz1, hz2⟩ := info_parts info
  go_enter Tryd.func5, Tryd.ntmps5
  go_wp2_with (at_builtin; refine wpList_append_grows _ rfl (.const (.slice none 0 0)) (.tmp 19) 34 rfl 25 i0 (.agg #[.int .u64 0, .int .u64 0]) 2 16 Tryd.underlying34 hi hz0 hz1 hz2 rfl (by decide) none 0 0 [] rfl (fun _ => ⟨rfl, rfl⟩) rfl (by intro _ _ _ _ h; simp at h) ⟨g, z, none⟩ L c (l.flatMap fun p => [Value.int .u64 (p.1 : Nat), Value.int .u64 (p.2 : Nat)]) rfl hlen ?c1 ?c2 ?full ?b1 ?b2 ?grow)
  case c1 =>
    intro j u hj
    obtain ⟨p, hp, rfl⟩ := hb j u hj
    obtain ⟨q0, q1⟩ := HC.out w (Below.refl _ _) (j / 2) p hp
    rw [show ({ block := g, off := z, spot := none } : Addr).add j = ⟨g, z + j, none⟩ by simp [Addr.add]]
    by_cases c0 : j % 2 = 0
    · rw [if_pos c0, show z + j = z + j / 2 * 2 by omega]
      exact q0
    · rw [if_neg c0, show z + j = z + j / 2 * 2 + 1 by omega]
      exact q1
  case c2 =>
    intro u hu
    obtain ⟨j, hj⟩ := List.mem_iff_getElem?.1 hu
    obtain ⟨p, hp, rfl⟩ := hb j u hj
    split <;> rfl
  case full => omega
  case b1 => unfold maxLen; omega
  case b2 => omega
  case grow =>
    intro v' wg hown hgrow
    obtain ⟨_, ⟨_, hn0⟩ | ⟨gk, ck, cur, rfl, hgk, rowk, hck, _, hsz, htk⟩⟩ := hown
    · omega
    have bg : Below w.heap.size w wg := (Below.refl _ _).grown hgrow (Nat.le_refl _) (fun k h => by cases h)
    have HK := grownC HL.out rowk htk
    clear hgrow hsz htk rowk hgk
    go_wp2_with fail
    refine (KS.out wg _ (fatB FF.out bg) (Or.inr ⟨gk, 0, ck, p1, hck, rfl, fun V bV => HK.out V bV⟩)).mono ?_
    rintro r w1 ⟨gs, cs, cur, rfl, hgs, hcs, Rs_1, HS, b1⟩
    go_wp2_with fail
    refine (KF.out _ (btr bg b1)).mono ?_
    rintro r w2 ⟨rfl, b2⟩
    have Rs_2 := heap_of b2 _ _ _ Rs_1
    go_wp2_with fail
    refine (KQ.out _ (btr bg (btr b1 b2))).mono ?_
    rintro r w3 ⟨rfl, Rt_3, b3⟩
    have Rs_3 := heap_of b3 _ _ _ Rs_2
    have bv := btr b1 (btr b2 b3)
    have lts := (Array.getElem?_eq_some_iff.1 Rs_2).1
    obtain ⟨gt, hgt⟩ : ∃ g, w2.heap.size = g := ⟨_, rfl⟩
    rw [hgt] at Rt_3 lts ⊢
    clear hgt Rs_1 Rs_2 b1 b2 b3 KS KF KQ hlen hb info hi hz0 hz1 hz2
    go_wp2
    have B0 := btr bg bv
    go_loopw [9] (fun iv wr => ∃ k : Nat, k ≤ L ∧ iv = .int .i64 k ∧ Below wg.heap.size wg wr ∧ wr.heap[gs]? = some (.cells cur 25) ∧ wr.heap[gt]? = some (.cells (bls S) 25)) (fun iv _ => L - (intOf iv).toNat)
    case atStart => exact ⟨0, by omega, rfl, bv, Rs_3, Rt_3⟩
    case round =>
      clear Rs_3 Rt_3 bv B0
      obtain ⟨k, hk, rfl, B2, Rs, Rt⟩ := hrel
      by_cases hlt : k < L
      · obtain ⟨p, hp⟩ : ∃ p, l[k]? = some p := ⟨_, List.getElem?_eq_getElem (by rw [HL.out]; exact hlt)⟩
        obtain ⟨q, hq⟩ : ∃ q, S[k]? = some q := ⟨_, List.getElem?_eq_getElem (by rw [HSL.out]; exact hlt)⟩
        obtain ⟨a0, a1⟩ := HK.out _ B2 k p hp
        obtain ⟨c0, c1⟩ := HC.out _ (btr bg B2) k p hp
        rw [Nat.zero_add] at a0 a1
        obtain ⟨s0, s1⟩ := HS.out k q hq
        have e0 := (cell_of_row wr gs (k * 2) _ _ _ Rs).trans s0
        have e1 := (cell_of_row wr gs (k * 2 + 1) _ _ _ Rs).trans s1
        obtain ⟨t0, t1⟩ := bls_cell Rt k q hq
        have dl : decide ((k : Int) < (L : Int)) = true := decide_eq_true (by omega)
        have hb0 : (0 : Int) ≤ (k : Int) := by omega
        have hb1 : (k : Int) < (L : Int) := by omega
        clear hp hq s0 s1
        go_wp2_with fail
        go_quiet (fail)
        obtain ⟨w21, hw, B31, hh⟩ := quiet_world B2 nq
        rw [hw]
        have Rs2 : w21.heap[gs]? = some (.cells cur 25) := by rw [hh]; exact Rs
        have Rt2 : w21.heap[gt]? = some (.cells (bls S) 25) := by rw [hh]; exact Rt
        go_wp2
        go_roundw
        case rel => exact ⟨k + 1, by omega, by go_num, B31, Rs2, Rt2⟩
        case measure => simp [intOf] <;> omega
      · obtain rfl : k = L := by omega
        have dl : decide ((k : Int) < (k : Int)) = false := by rw [decide_eq_false_iff_not]; omega
        go_wp2
        clear dl Rt hk
        go_loopw [10] (fun iv wr => ∃ j : Nat, j ≤ k ∧ iv = .int .i64 j ∧ Below wg.heap.size wg wr ∧ wr.heap[gs]? = some (.cells cur 25)) (fun iv _ => k - (intOf iv).toNat)
        case atStart => exact ⟨0, by omega, rfl, B2, Rs⟩
        case round =>
          clear B2 Rs
          obtain ⟨j, hj, rfl, B3, Rs⟩ := hrel
          by_cases hlt2 : j + 1 < k
          · obtain ⟨p, hp⟩ : ∃ p, l[j]? = some p := ⟨_, List.getElem?_eq_getElem (by rw [HL.out]; omega)⟩
            obtain ⟨q, hq⟩ : ∃ q, l[j + 1]? = some q := ⟨_, List.getElem?_eq_getElem (by rw [HL.out]; exact hlt2)⟩
            obtain ⟨c0, c1⟩ := HC.out _ (btr bg B3) j p hp
            obtain ⟨c2, c3⟩ := HC.out _ (btr bg B3) (j + 1) q hq
            obtain ⟨v, K1, K2⟩ := KT.out j p q hp hq
            have hw1 : IntKind.i64.wrap ((j : Int) + 1) = ((j + 1 : Nat) : Int) := by rw [wrap_i64_is _ (by omega) (by omega)]; rfl
            have dl : decide (((j + 1 : Nat) : Int) < (k : Int)) = true := decide_eq_true (by omega)
            have hb0 : (0 : Int) ≤ (j : Int) := by omega
            have hb1 : (j : Int) < (k : Int) := by omega
            have hb2 : (0 : Int) ≤ ((j + 1 : Nat) : Int) := by omega
            have hb3 : ((j + 1 : Nat) : Int) < (k : Int) := by omega
            have hb4 : (0 : Int) ≤ (j : Int) + 1 := by omega
            have hb5 : (j : Int) + 1 < (k : Int) := by omega
            have hb6 : ((j : Int) + 1).toNat = j + 1 := by omega
            clear hp hq
            have sS : Box (∀ W W1 : World, (Below wg.heap.size wg W ∧ W.heap[gs]? = some (.cells cur 25) ∧ W.cell? ⟨g, z + j * 2, none⟩ = some (.int .u64 (p.1 : Nat)) ∧ W.cell? ⟨g, z + j * 2 + 1, none⟩ = some (.int .u64 (p.2 : Nat)) ∧ W.cell? ⟨g, z + (j + 1) * 2, none⟩ = some (.int .u64 (q.1 : Nat)) ∧ W.cell? ⟨g, z + (j + 1) * 2 + 1, none⟩ = some (.int .u64 (q.2 : Nat))) → Below W.heap.size W W1 → (Below wg.heap.size wg W1 ∧ W1.heap[gs]? = some (.cells cur 25) ∧ W1.cell? ⟨g, z + j * 2, none⟩ = some (.int .u64 (p.1 : Nat)) ∧ W1.cell? ⟨g, z + j * 2 + 1, none⟩ = some (.int .u64 (p.2 : Nat)) ∧ W1.cell? ⟨g, z + (j + 1) * 2, none⟩ = some (.int .u64 (q.1 : Nat)) ∧ W1.cell? ⟨g, z + (j + 1) * 2 + 1, none⟩ = some (.int .u64 (q.2 : Nat)))) := box (fun W W1 h b => ⟨btr h.1 b, heap_of b _ _ _ h.2.1, cellO b h.2.2.1, cellO b h.2.2.2.1, cellO b h.2.2.2.2.1, cellO b h.2.2.2.2.2⟩)
            have s0 : Below wg.heap.size wg wr.drew ∧ wr.drew.heap[gs]? = some (.cells cur 25) ∧ wr.drew.cell? ⟨g, z + j * 2, none⟩ = some (.int .u64 (p.1 : Nat)) ∧ wr.drew.cell? ⟨g, z + j * 2 + 1, none⟩ = some (.int .u64 (p.2 : Nat)) ∧ wr.drew.cell? ⟨g, z + (j + 1) * 2, none⟩ = some (.int .u64 (q.1 : Nat)) ∧ wr.drew.cell? ⟨g, z + (j + 1) * 2 + 1, none⟩ = some (.int .u64 (q.2 : Nat)) := ⟨B3.drew, Rs, c0, c1, c2, c3⟩
            clear B3 Rs c0 c1 c2 c3
            go_wp2_with fail
            go_region_held3 (fun W => Below wg.heap.size wg W ∧ W.heap[gs]? = some (.cells cur 25) ∧ W.cell? ⟨g, z + j * 2, none⟩ = some (.int .u64 (p.1 : Nat)) ∧ W.cell? ⟨g, z + j * 2 + 1, none⟩ = some (.int .u64 (p.2 : Nat)) ∧ W.cell? ⟨g, z + (j + 1) * 2, none⟩ = some (.int .u64 (q.1 : Nat)) ∧ W.cell? ⟨g, z + (j + 1) * 2 + 1, none⟩ = some (.int .u64 (q.2 : Nat))) (first | exact s1 | exact s0)
              (first | (go_at_call 22; refine (K1.out _ (fatB FF.out (btr bg (And.left s0)))).mono ?_; rintro r wq ⟨rfl, bq⟩; have s1 := sS.out _ _ s0 bq; clear bq) | fail)
            clear s0
            have s0 : Below wg.heap.size wg wq.drew ∧ wq.drew.heap[gs]? = some (.cells cur 25) ∧ wq.drew.cell? ⟨g, z + j * 2, none⟩ = some (.int .u64 (p.1 : Nat)) ∧ wq.drew.cell? ⟨g, z + j * 2 + 1, none⟩ = some (.int .u64 (p.2 : Nat)) ∧ wq.drew.cell? ⟨g, z + (j + 1) * 2, none⟩ = some (.int .u64 (q.1 : Nat)) ∧ wq.drew.cell? ⟨g, z + (j + 1) * 2 + 1, none⟩ = some (.int .u64 (q.2 : Nat)) := ⟨s1.1.drew, s1.2⟩
            clear s1
            obtain ⟨wy, hwy⟩ : ∃ V, wq = V := ⟨_, rfl⟩
            rw [hwy] at s0 ⊢
            clear hwy
            go_wp2_with fail
            go_region_held3 (fun W => Below wg.heap.size wg W ∧ W.heap[gs]? = some (.cells cur 25) ∧ W.cell? ⟨g, z + j * 2, none⟩ = some (.int .u64 (p.1 : Nat)) ∧ W.cell? ⟨g, z + j * 2 + 1, none⟩ = some (.int .u64 (p.2 : Nat)) ∧ W.cell? ⟨g, z + (j + 1) * 2, none⟩ = some (.int .u64 (q.1 : Nat)) ∧ W.cell? ⟨g, z + (j + 1) * 2 + 1, none⟩ = some (.int .u64 (q.2 : Nat))) (first | exact s1 | exact s0)
              (first | (go_at_call 23; refine (K2.out _).mono ?_; rintro r wq ⟨rfl, bq⟩; have s1 := sS.out _ _ s0 bq; clear bq) | fail)
            have B4 := s1.1
            have Rs4 := s1.2.1
            clear s0 s1 sS
            go_wp2
            go_roundw
            case rel => exact ⟨j + 1, by omega, by go_num, B4, Rs4⟩
            case measure => simp [intOf] <;> omega
          · have hw1 : IntKind.i64.wrap ((j : Int) + 1) = ((j + 1 : Nat) : Int) := by rw [wrap_i64_is _ (by omega) (by omega)]; rfl
            have dl : decide (((j + 1 : Nat) : Int) < (k : Int)) = false := by rw [decide_eq_false_iff_not]; omega
            go_wp2
            clear dl hw1 hj hlt2
            obtain ⟨qz, hqz⟩ : ∃ q, S[k - 1]? = some q := ⟨_, List.getElem?_eq_getElem (by rw [HSL.out]; omega)⟩
            have hsz : k * 2 ≤ cur.size := by
              have := (Array.getElem?_eq_some_iff.1 (HS.out (k - 1) qz hqz).2).1
              omega
            clear hqz
            go_loopw [13] (fun iv wr => ∃ (n : Nat) (cc : Array Value), n ≤ k ∧ iv = .int .i64 n ∧ Below wg.heap.size wg wr ∧ wr.heap[gs]? = some (.cells cc 25) ∧ cc.size = cur.size) (fun iv _ => k - (intOf iv).toNat)
            case atStart => exact ⟨0, cur, by omega, rfl, B3, Rs, rfl⟩
            case round =>
              clear B3 Rs
              obtain ⟨n, cc, hn, rfl, B5, Rs, hcc⟩ := hrel
              by_cases hlt3 : n < k
              · have dl : decide ((n : Int) < (k : Int)) = true := decide_eq_true (by omega)
                have hb0 : (0 : Int) ≤ (n : Int) := by omega
                have hb1 : (n : Int) < (k : Int) := by omega
                obtain ⟨v0, hv0⟩ : ∃ v, cc[n * 2]? = some v := ⟨_, Array.getElem?_eq_getElem (by omega)⟩
                obtain ⟨v1, hv1⟩ : ∃ v, cc[n * 2 + 1]? = some v := ⟨_, Array.getElem?_eq_getElem (by omega)⟩
                have u0 := (cell_of_row wr gs (n * 2) _ _ _ Rs).trans hv0
                have u1 := (cell_of_row wr gs (n * 2 + 1) _ _ _ Rs).trans hv1
                have q0 := fz (k := n * 2) Rs
                have q1 := fz (k := n * 2 + 1) Rs
                have r1 := setCell_row (k := n * 2) (v := .int .u64 77) Rs
                have r2 := setCell_row (k := n * 2 + 1) (v := .int .u64 77) r1
                have pb : Below wg.heap.size wg ((wr.setCell ⟨gs, n * 2, none⟩ (.int .u64 77)).setCell ⟨gs, n * 2 + 1, none⟩ (.int .u64 77)) := (B5.setCell hgs _).setCell hgs _
                clear hv0 hv1 r1
                go_wp2
                go_roundw
                case rel => exact ⟨n + 1, _, by omega, by go_num, pb, r2, by rw [Array.size_setIfInBounds, Array.size_setIfInBounds]; exact hcc⟩
                case measure => simp [intOf] <;> omega
              · obtain rfl : n = k := by omega
                have dl : decide ((n : Int) < (n : Int)) = false := by rw [decide_eq_false_iff_not]; omega
                go_wp2
                clear dl hn hcc Rs
                go_loopw [14] (fun iv wr => ∃ i : Nat, i ≤ n ∧ iv = .int .i64 i ∧ Below wg.heap.size wg wr) (fun iv _ => n - (intOf iv).toNat)
                case atStart => exact ⟨0, by omega, rfl, B5⟩
                case round =>
                  clear B5
                  obtain ⟨i, hi, rfl, B6⟩ := hrel
                  by_cases hlt4 : i < n
                  · obtain ⟨p, hp⟩ : ∃ p, l[i]? = some p := ⟨_, List.getElem?_eq_getElem (by rw [HL.out]; exact hlt4)⟩
                    obtain ⟨a0, a1⟩ := HK.out _ B6 i p hp
                    obtain ⟨c0, c1⟩ := HC.out _ (btr bg B6) i p hp
                    rw [Nat.zero_add] at a0 a1
                    have dl : decide ((i : Int) < (n : Int)) = true := decide_eq_true (by omega)
                    have hb0 : (0 : Int) ≤ (i : Int) := by omega
                    have hb1 : (i : Int) < (n : Int) := by omega
                    clear hp
                    go_wp2_with fail
                    go_quiet (fail)
                    obtain ⟨w21, hw, B31, hh⟩ := quiet_world B6 nq
                    rw [hw]
                    go_wp2
                    go_roundw
                    case rel => exact ⟨i + 1, by omega, by go_num, B31⟩
                    case measure => simp [intOf] <;> omega
                  · obtain rfl : i = n := by omega
                    have dl : decide ((i : Int) < (i : Int)) = false := by rw [decide_eq_false_iff_not]; omega
                    go_wp2_with fail
                    refine (KA.out _ (fatB FF.out (btr bg B6))).mono ?_
                    rintro r w5 ⟨rfl, b5⟩
                    go_wp2
                    go_ret
                    exact ⟨rfl, btr (btr bg B6) b5⟩
set_option maxRecDepth 100000 in
set_option maxHeartbeats 8000000 in
theorem ots_no (f : Int) (l : List (Nat × Nat)) (L : Nat) (w : World) (g z c : Nat) (hl : l.length = L) (p1 : 1 ≤ L) (q1 : L ≤ 60) (hc : L ≤ c)
    (HC : Box (∀ W, Below w.heap.size w W → ∀ k p, l[k]? = some p → W.cell? ⟨g, z + k * 2, none⟩ = some (.int .u64 (p.1 : Nat)) ∧ W.cell? ⟨g, z + k * 2 + 1, none⟩ = some (.int .u64 (p.2 : Nat))))
    (KS : Box (∀ (W : World) (s1 : Value), FAt W → SW l L s1 W → Calls Tryd.prog 20 #[.int .u8 f, s1] W fun r w' => ∃ (os : Option Addr) (cs : Nat), r = .returned (.tuple #[.slice os 0 cs, .int .i64 2]) ∧ Below W.heap.size W w'))
    (KF : Box (∀ W, Below w.heap.size w W → Calls Tryd.prog 12 #[.int .u8 f, .slice (some ⟨g, z, none⟩) L c] W fun r w' => r = .returned (.bool false) ∧ Below W.heap.size W w'))
    (KA : Box (∀ w, FAt w → Calls Tryd.prog 13 #[] w fun r w' => r = .returned (.bool true) ∧ Below w.heap.size w w')) (hT : FAt w) : Calls Tryd.prog 5 #[.int .u8 f, .slice (some ⟨g, z, none⟩) L c] w fun r w' => r = .returned (.bool true) ∧ Below w.heap.size w w' := by
  have FF := box hT
  have HL := box hl
  clear hT hl
  have d1 : decide ((60 : Int) < (L : Int)) = false := decide_eq_false (by omega)
  have hlen := bF_len l
  rw [HL.out] at hlen
  have hb := fun j u (h : (l.flatMap fun p => [Value.int .u64 (p.1 : Nat), Value.int .u64 (p.2 : Nat)])[j]? = some u) => bF_cell l j u h
  have info : (Tryd.prog.info? 25).map (fun i => (i.zero, i.size, i.bytes)) = some (some (.agg #[.int .u64 0, .int .u64 0]), 2, 16) := by kernel_rfl
  obtain ⟨i0, hi, hz0, hz1, hz2⟩ := info_parts info
  go_enter Tryd.func5, Tryd.ntmps5
  go_wp2_with (at_builtin; refine wpList_append_grows _ rfl (.const (.slice none 0 0)) (.tmp 19) 34 rfl 25 i0 (.agg #[.int .u64 0, .int .u64 0]) 2 16 Tryd.underlying34 hi hz0 hz1 hz2 rfl (by decide) none 0 0 [] rfl (fun _ => ⟨rfl, rfl⟩) rfl (by intro _ _ _ _ h; simp at h) ⟨g, z, none⟩ L c (l.flatMap fun p => [Value.int .u64 (p.1 : Nat), Value.int .u64 (p.2 : Nat)]) rfl hlen ?c1 ?c2 ?full ?b1 ?b2 ?grow)
  case c1 =>
    intro j u hj
    obtain ⟨p, hp, rfl⟩ := hb j u hj
    obtain ⟨q0, q1⟩ := HC.out w (Below.refl _ _) (j / 2) p hp
    rw [show ({ block := g, off := z, spot := none } : Addr).add j = ⟨g, z + j, none⟩ by simp [Addr.add]]
    by_cases c0 : j % 2 = 0
    · rw [if_pos c0, show z + j = z + j / 2 * 2 by omega]
      exact q0
    · rw [if_neg c0, show z + j = z + j / 2 * 2 + 1 by omega]
      exact q1
  case c2 =>
    intro u hu
    obtain ⟨j, hj⟩ := List.mem_iff_getElem?.1 hu
    obtain ⟨p, hp, rfl⟩ := hb j u hj
    split <;> rfl
  case full => omega
  case b1 => unfold maxLen; omega
  case b2 => omega
  case grow =>
    intro v' wg hown hgrow
    obtain ⟨_, ⟨_, hn0⟩ | ⟨gk, ck, cur, rfl, hgk, rowk, hck, _, hsz, htk⟩⟩ := hown
    · omega
    have bg : Below w.heap.size w wg := (Below.refl _ _).grown hgrow (Nat.le_refl _) (fun k h => by cases h)
    have HK := grownC HL.out rowk htk
    clear hgrow hsz htk rowk hgk
    go_wp2_with fail
    refine (KS.out wg _ (fatB FF.out bg) (Or.inr ⟨gk, 0, ck, p1, hck, rfl, fun V bV => HK.out V bV⟩)).mono ?_
    rintro r w1 ⟨os, cs, rfl, b1⟩
    go_wp2_with fail
    refine (KF.out _ (btr bg b1)).mono ?_
    rintro r w2 ⟨rfl, b2⟩
    go_wp2_with fail
    refine (KA.out _ (fatB FF.out (btr bg (btr b1 b2)))).mono ?_
    rintro r w5 ⟨rfl, b5⟩
    go_wp2
    go_ret
    exact ⟨rfl, btr (btr bg (btr b1 b2)) b5⟩
set_option maxRecDepth 100000 in
set_option maxHeartbeats 8000000 in
theorem ots_noZ (f : Int) (l : List (Nat × Nat)) (L : Nat) (hL : L = 0) (w : World)
    (KS : Box (∀ (W : World) (s1 : Value), FAt W → SW l L s1 W → Calls Tryd.prog 20 #[.int .u8 f, s1] W fun r w' => ∃ (os : Option Addr) (cs : Nat), r = .returned (.tuple #[.slice os 0 cs, .int .i64 2]) ∧ Below W.heap.size W w'))
    (KF : Box (∀ W, Below w.heap.size w W → Calls Tryd.prog 12 #[.int .u8 f, .slice none 0 0] W fun r w' => r = .returned (.bool false) ∧ Below W.heap.size W w'))
    (KA : Box (∀ w, FAt w → Calls Tryd.prog 13 #[] w fun r w' => r = .returned (.bool true) ∧ Below w.heap.size w w')) (hT : FAt w) : Calls Tryd.prog 5 #[.int .u8 f, .slice none 0 0] w fun r w' => r = .returned (.bool true) ∧ Below w.heap.size w w' := by
  have FF := box hT
  have HZ := box hL
  clear hT hL
  go_enter Tryd.func5, Tryd.ntmps5
  go_wp2_with fail
  refine (KS.out w _ FF.out (Or.inl ⟨_, _, HZ.out, rfl⟩)).mono ?_
  rintro r w1 ⟨os, cs, rfl, b1⟩
  go_wp2_with fail
  refine (KF.out _ b1).mono ?_
  rintro r w2 ⟨rfl, b2⟩
  go_wp2_with fail
  refine (KA.out _ (fatB FF.out (btr b1 b2))).mono ?_
  rintro r w5 ⟨rfl, b5⟩
  go_wp2
  go_ret
  exact ⟨rfl, btr (btr b1 b2) b5⟩
set_option maxRecDepth 100000 in
set_option maxHeartbeats 8000000 in
theorem ots_Z (f : Int) (l : List (Nat × Nat)) (L : Nat) (hL : L = 0) (w : World)
    (KS : Box (∀ (W : World) (s1 : Value), FAt W → SW l L s1 W → Calls Tryd.prog 20 #[.int .u8 f, s1] W fun r w' => ∃ (os : Option Addr) (cs : Nat), r = .returned (.tuple #[.slice os 0 cs, .int .i64 0]) ∧ Below W.heap.size W w'))
    (KF : Box (∀ W, Below w.heap.size w W → Calls Tryd.prog 12 #[.int .u8 f, .slice none 0 0] W fun r w' => r = .returned (.bool true) ∧ Below W.heap.size W w'))
    (KQ : Box (∀ W, Below w.heap.size w W → Calls Tryd.prog 21 #[.int .u8 f, .slice none 0 0] W fun r w' => ∃ (os : Option Addr) (cs : Nat), r = .returned (.slice os 0 cs) ∧ Below W.heap.size W w'))
    (KA : Box (∀ w, FAt w → Calls Tryd.prog 13 #[] w fun r w' => r = .returned (.bool true) ∧ Below w.heap.size w w')) (hT : FAt w) : Calls Tryd.prog 5 #[.int .u8 f, .slice none 0 0] w fun r w' => r = .returned (.bool true) ∧ Below w.heap.size w w' := by
  have FF := box hT
  have HZ := box hL
  clear hT hL
  go_enter Tryd.func5, Tryd.ntmps5
  go_wp2_with fail
  refine (KS.out w _ FF.out (Or.inl ⟨_, _, HZ.out, rfl⟩)).mono ?_
  rintro r w1 ⟨os, cs, rfl, b1⟩
  go_wp2_with fail
  refine (KF.out _ b1).mono ?_
  rintro r w2 ⟨rfl, b2⟩
  go_wp2_with fail
  refine (KQ.out _ (btr b1 b2)).mono ?_
  rintro r w3 ⟨ot, ct, rfl, b3⟩
  have B0 := btr b1 (btr b2 b3)
  clear b1 b2 b3 KS KF KQ
  go_wp2
  go_loopw [9] (fun iv wr => iv = .int .i64 0 ∧ Below w.heap.size w wr) (fun _ _ => 0)
  case atStart => exact ⟨rfl, B0⟩
  case round =>
    clear B0
    obtain ⟨rfl, B1⟩ := hrel
    go_wp2
    go_loopw [10] (fun iv wr => iv = .int .i64 0 ∧ Below w.heap.size w wr) (fun _ _ => 0)
    case atStart => exact ⟨rfl, B1⟩
    case round =>
      clear B1
      obtain ⟨rfl, B2⟩ := hrel
      go_wp2
      go_loopw [13] (fun iv wr => iv = .int .i64 0 ∧ Below w.heap.size w wr) (fun _ _ => 0)
      case atStart => exact ⟨rfl, B2⟩
      case round =>
        clear B2
        obtain ⟨rfl, B3⟩ := hrel
        go_wp2
        go_loopw [14] (fun iv wr => iv = .int .i64 0 ∧ Below w.heap.size w wr) (fun _ _ => 0)
        case atStart => exact ⟨rfl, B3⟩
        case round =>
          clear B3
          obtain ⟨rfl, B4⟩ := hrel
          go_wp2_with fail
          refine (KA.out _ (fatB FF.out B4)).mono ?_
          rintro r w5 ⟨rfl, b5⟩
          go_wp2
          go_ret
          exact ⟨rfl, btr B4 b5⟩
set_option maxRecDepth 100000 in
set_option maxHeartbeats 8000000 in
theorem ots_noS (f : Int) (l : List (Nat × Nat)) (L : Nat) (hL : L = 0) (o : Addr) (c : Nat) (w : World)
    (KS : Box (∀ (W : World) (s1 : Value), FAt W → SW l L s1 W → Calls Tryd.prog 20 #[.int .u8 f, s1] W fun r w' => ∃ (os : Option Addr) (cs : Nat), r = .returned (.tuple #[.slice os 0 cs, .int .i64 2]) ∧ Below W.heap.size W w'))
    (KF : Box (∀ W, Below w.heap.size w W → Calls Tryd.prog 12 #[.int .u8 f, .slice (some o) 0 c] W fun r w' => r = .returned (.bool false) ∧ Below W.heap.size W w'))
    (KA : Box (∀ w, FAt w → Calls Tryd.prog 13 #[] w fun r w' => r = .returned (.bool true) ∧ Below w.heap.size w w')) (hT : FAt w) : Calls Tryd.prog 5 #[.int .u8 f, .slice (some o) 0 c] w fun r w' => r = .returned (.bool true) ∧ Below w.heap.size w w' := by
  have FF := box hT
  have HZ := box hL
  clear hT hL
  go_enter Tryd.func5, Tryd.ntmps5
  go_wp2_with fail
  refine (KS.out w _ FF.out (Or.inl ⟨_, _, HZ.out, rfl⟩)).mono ?_
  rintro r w1 ⟨os, cs, rfl, b1⟩
  go_wp2_with fail
  refine (KF.out _ b1).mono ?_
  rintro r w2 ⟨rfl, b2⟩
  go_wp2_with fail
  refine (KA.out _ (fatB FF.out (btr b1 b2))).mono ?_
  rintro r w5 ⟨rfl, b5⟩
  go_wp2
  go_ret
  exact ⟨rfl, btr (btr b1 b2) b5⟩
set_option maxRecDepth 100000 in
set_option maxHeartbeats 8000000 in
theorem ots_S (f : Int) (l : List (Nat × Nat)) (L : Nat) (hL : L = 0) (o : Addr) (c : Nat) (w : World)
    (KS : Box (∀ (W : World) (s1 : Value), FAt W → SW l L s1 W → Calls Tryd.prog 20 #[.int .u8 f, s1] W fun r w' => ∃ (os : Option Addr) (cs : Nat), r = .returned (.tuple #[.slice os 0 cs, .int .i64 0]) ∧ Below W.heap.size W w'))
    (KF : Box (∀ W, Below w.heap.size w W → Calls Tryd.prog 12 #[.int .u8 f, .slice (some o) 0 c] W fun r w' => r = .returned (.bool true) ∧ Below W.heap.size W w'))
    (KQ : Box (∀ W, Below w.heap.size w W → Calls Tryd.prog 21 #[.int .u8 f, .slice (some o) 0 c] W fun r w' => ∃ (os : Option Addr) (cs : Nat), r = .returned (.slice os 0 cs) ∧ Below W.heap.size W w'))
    (KA : Box (∀ w, FAt w → Calls Tryd.prog 13 #[] w fun r w' => r = .returned (.bool true) ∧ Below w.heap.size w w')) (hT : FAt w) : Calls Tryd.prog 5 #[.int .u8 f, .slice (some o) 0 c] w fun r w' => r = .returned (.bool true) ∧ Below w.heap.size w w' := by
  have FF := box hT
  have HZ := box hL
  clear hT hL
  go_enter Tryd.func5, Tryd.ntmps5
  go_wp2_with fail
  refine (KS.out w _ FF.out (Or.inl ⟨_, _, HZ.out, rfl⟩)).mono ?_
  rintro r w1 ⟨os, cs, rfl, b1⟩
  go_wp2_with fail
  refine (KF.out _ b1).mono ?_
  rintro r w2 ⟨rfl, b2⟩
  go_wp2_with fail
  refine (KQ.out _ (btr b1 b2)).mono ?_
  rintro r w3 ⟨ot, ct, rfl, b3⟩
  have B0 := btr b1 (btr b2 b3)
  clear b1 b2 b3 KS KF KQ
  go_wp2
  go_loopw [9] (fun iv wr => iv = .int .i64 0 ∧ Below w.heap.size w wr) (fun _ _ => 0)
  case atStart => exact ⟨rfl, B0⟩
  case round =>
    clear B0
    obtain ⟨rfl, B1⟩ := hrel
    go_wp2
    go_loopw [10] (fun iv wr => iv = .int .i64 0 ∧ Below w.heap.size w wr) (fun _ _ => 0)
    case atStart => exact ⟨rfl, B1⟩
    case round =>
      clear B1
      obtain ⟨rfl, B2⟩ := hrel
      go_wp2
      go_loopw [13] (fun iv wr => iv = .int .i64 0 ∧ Below w.heap.size w wr) (fun _ _ => 0)
      case atStart => exact ⟨rfl, B2⟩
      case round =>
        clear B2
        obtain ⟨rfl, B3⟩ := hrel
        go_wp2
        go_loopw [14] (fun iv wr => iv = .int .i64 0 ∧ Below w.heap.size w wr) (fun _ _ => 0)
        case atStart => exact ⟨rfl, B3⟩
        case round =>
          clear B3
          obtain ⟨rfl, B4⟩ := hrel
          go_wp2_with fail
          refine (KA.out _ (fatB FF.out B4)).mono ?_
          rintro r w5 ⟨rfl, b5⟩
          go_wp2
          go_ret
          exact ⟨rfl, btr B4 b5⟩
set_option maxRecDepth 100000 in
set_option maxHeartbeats 8000000 in
theorem ots_long (f : Int) (o : Option Addr) (L c : Nat) (w : World) (h : 60 < L) (KA : Box (∀ w, FAt w → Calls Tryd.prog 13 #[] w fun r w' => r = .returned (.bool true) ∧ Below w.heap.size w w')) (hT : FAt w) : Calls Tryd.prog 5 #[.int .u8 f, .slice o L c] w fun r w' => r = .returned (.bool true) ∧ Below w.heap.size w w' := by
  have FF := box hT
  have d1 : decide ((60 : Int) < (L : Int)) = true := decide_eq_true (by omega)
  clear hT h
  have B0 : Below w.heap.size w w := (Below.refl _ _)
  go_enter Tryd.func5, Tryd.ntmps5
  go_wp2_with fail
  refine (KA.out _ (fatB FF.out B0)).mono ?_
  rintro r w1 ⟨rfl, b1⟩
  have B1 : Below w.heap.size w w1 := btr B0 b1
  clear b1 B0 
  go_wp2
  go_ret
  exact ⟨rfl, B1⟩
end Go.Proofs.YtmndjhcmomejjaaDoor
