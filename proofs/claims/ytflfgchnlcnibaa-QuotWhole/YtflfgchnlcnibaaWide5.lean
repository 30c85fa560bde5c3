/-
  What the functions mulAdd and Mul of package wide return.
-/
import Derived.Test.YtflfgchnlcnibaaWord3
import Derived.Test.YtflfgchnlcnibaaMmath
import Derived.Test.YtflfgchnlcnibaaWide1
import Derived.Test.YtflfgchnlcnibaaQuiet2
import Derived.Deep.RegionLaw
import Derived.Laws.CopyOwn
namespace Go.Proofs.Ytflfgchnlcnibaa
open Go.RowKit WMath

theorem add_is (a b : Nat) (c : Bool) (s : Nat) (o : Bool) (ha : a < 18446744073709551616) (hb : b < 18446744073709551616) (hs : (a + b + c.toNat) % 18446744073709551616 = s) (ho : decide (18446744073709551616 ≤ a + b + c.toNat) = o) (w : World) :
    Calls Try.prog 36 #[.int .u64 a, .int .u64 b, .bool c] w fun e w' => e = .returned (.tuple #[.int .u64 (s : Nat), .bool o]) ∧ w' = w := by
  subst hs; subst ho; exact add_any a b c ha hb w
theorem mul_is (x y h l : Nat) (hx : x < 18446744073709551616) (hy : y < 18446744073709551616) (hh : x * y / 18446744073709551616 = h) (hl : x * y % 18446744073709551616 = l) (w : World) :
    Calls Try.prog 50 #[.int .u64 x, .int .u64 y] w fun e w' => e = .returned (.tuple #[.int .u64 (h : Nat), .int .u64 (l : Nat)]) ∧ w' = w := by
  subst hh; subst hl; exact mul_any x y hx hy w

theorem mulAdd_any (x y u v : Nat) (hx : x < 18446744073709551616) (hy : y < 18446744073709551616) (hu : u < 18446744073709551616) (hv : v < 18446744073709551616) (w : World) :
    Calls Try.prog 35 #[.int .u64 x, .int .u64 y, .int .u64 u, .int .u64 v] w fun e w' => e = .returned (.tuple #[.int .u64 ((x * y + u + v) % 18446744073709551616 : Nat), .int .u64 ((x * y + u + v) / 18446744073709551616 : Nat)]) ∧ w' = w := by
  obtain ⟨H, hH⟩ : ∃ H, x * y / 18446744073709551616 = H := ⟨_, rfl⟩
  obtain ⟨L, hL⟩ : ∃ L, x * y % 18446744073709551616 = L := ⟨_, rfl⟩
  obtain ⟨l1, hl1⟩ : ∃ l1, (L + u + false.toNat) % 18446744073709551616 = l1 := ⟨_, rfl⟩
  obtain ⟨c1, hc1⟩ : ∃ c1, decide (18446744073709551616 ≤ L + u + false.toNat) = c1 := ⟨_, rfl⟩
  obtain ⟨h1, hh1⟩ : ∃ h1, (H + 0 + c1.toNat) % 18446744073709551616 = h1 := ⟨_, rfl⟩
  obtain ⟨d1, hd1⟩ : ∃ d1, decide (18446744073709551616 ≤ H + 0 + c1.toNat) = d1 := ⟨_, rfl⟩
  obtain ⟨l2, hl2⟩ : ∃ l2, (l1 + v + false.toNat) % 18446744073709551616 = l2 := ⟨_, rfl⟩
  obtain ⟨c2, hc2⟩ : ∃ c2, decide (18446744073709551616 ≤ l1 + v + false.toNat) = c2 := ⟨_, rfl⟩
  obtain ⟨h2, hh2⟩ : ∃ h2, (h1 + 0 + c2.toNat) % 18446744073709551616 = h2 := ⟨_, rfl⟩
  obtain ⟨d2, hd2⟩ : ∃ d2, decide (18446744073709551616 ≤ h1 + 0 + c2.toNat) = d2 := ⟨_, rfl⟩
  have bL : L < 18446744073709551616 := by rw [← hL]; exact Nat.mod_lt _ (by decide)
  have bH : H < 18446744073709551616 := by rw [← hH]; exact Nat.lt_of_le_of_lt (Nat.div_le_div_right (Nat.mul_le_mul (Nat.le_of_lt hx) (Nat.le_of_lt_succ (show y < 18446744073709551615 + 1 by omega)))) (by decide)
  have e1 := carry_num L u l1 false c1 bL hu hl1 hc1
  have e2 := carry_num l1 v l2 false c2 e1.2 hv hl2 hc2
  have b1 : h1 < 18446744073709551616 := by rw [← hh1]; exact Nat.mod_lt _ (by decide)
  have fin := mulAdd_num x y u v H L l1 c1.toNat h1 l2 c2.toNat h2 hx hy hu hv hH.symm hL.symm (by simpa using e1.1) (by rw [← hh1]; simp) (by simpa using e2.1) (by rw [← hh2]; simp) e1.2 e2.2
  have F1 := box fin
  have A1 := box hH
  have A2 := box hL
  have A3 := box hl1
  have A4 := box hc1
  have A5 := box hh1
  have A6 := box hd1
  have A7 := box hl2
  have A8 := box hc2
  have A9 := box hh2
  have A10 := box hd2
  have E1 := box e1
  clear fin hH hL hl1 hc1 hh1 hd1 hl2 hc2 hh2 hd2 e1 e2
  go_enter Try.func35, Try.ntmps35
  go_wp2_with fail
  refine (mul_is x y H L hx hy A1.out A2.out _).mono ?_
  rintro e w' ⟨rfl, rfl⟩
  go_wp2_with fail
  refine (add_is L u false l1 c1 bL hu A3.out A4.out _).mono ?_
  rintro e w' ⟨rfl, rfl⟩
  go_wp2_with fail
  refine (add_is H 0 c1 h1 d1 bH (by decide) A5.out A6.out _).mono ?_
  rintro e w' ⟨rfl, rfl⟩
  go_wp2_with fail
  refine (add_is l1 v false l2 c2 E1.out.2 hv A7.out A8.out _).mono ?_
  rintro e w' ⟨rfl, rfl⟩
  go_wp2_with fail
  refine (add_is h1 0 c2 h2 d2 b1 (by decide) A9.out A10.out _).mono ?_
  rintro e w' ⟨rfl, rfl⟩
  go_wp2
  go_ret2
  exact ⟨ret_ii (by rw [F1.out.1]) (by rw [F1.out.2]), rfl⟩

theorem cw12z : #[Value.int .u64 0, .int .u64 0, .int .u64 0, .int .u64 0, .int .u64 0, .int .u64 0, .int .u64 0, .int .u64 0, .int .u64 0, .int .u64 0, .int .u64 0, .int .u64 0] = cw 12 0 := by
  show _ = #[_, _, _, _, _, _, _, _, _, _, _, _]
  simp [wd_zero]

theorem mul_over (n m P x2 : Nat) (hP : P = n * m) (h2 : x2 = P / Q) : (!decide (x2 = 0)) = decide (Q ≤ n * m) := by
  have := Q_pos
  by_cases h : Q ≤ n * m
  · have : 0 < P / Q := Nat.div_pos (by omega) Q_pos
    rw [decide_eq_true h, decide_eq_false (by omega)]; rfl
  · rw [h2, hP, Nat.div_eq_of_lt (by omega), decide_eq_false h]; rfl

theorem cw_take (S L o x : Nat) (hf : o + 6 ≤ S) (hx : ∀ j, j < 6 → wd x j = wd L (o + j)) (j : Nat) (v : Value) (hv : (cw 6 x).toList[j]? = some v) : (cw S L)[o + j]? = some v := by
  have hj : j < 6 := by
    have := (List.getElem?_eq_some_iff.1 hv).1
    simpa [cw_size] using this
  rw [cw_at S L (o + j) (by omega), ← hx j hj, ← cw_at 6 x j hj, ← hv]
  simp

theorem step_copy6 {P : Program} {ops : Array Oper} {o : Oper} {a : Act} {w : World} {K : Act → World → Prop} {Q : Exit → Act → World → Prop} {E : Prop} (hgd : o.guard = none) (d s : Operand) (dT sT : TypeId)
    (ho : o.op = .call { callee := .builtin .copy, args := #[d, s], argTypes := #[dT, sT] }) (elem : TypeId) (hu : P.underlying dT = some (.slice elem)) (hsz : (P.info? elem).map (·.size) = some 1)
    (g gs offs sCap : Nat) (hd : a.eval d = .slice (some ⟨g, 0, none⟩) 6 6) (hs : a.eval s = .slice (some ⟨gs, offs, none⟩) 6 sCap)
    (y L x S : Nat) (t t' : TypeId) (hg : w.heap[g]? = some (.cells (cw 6 y) t)) (hsrc : w.heap[gs]? = some (.cells (cw S L) t')) (fit : offs + 6 ≤ S) (hx : ∀ j, j < 6 → wd x j = wd L (offs + j))
    (h : ∀ w', w' = w.setRow g (cw 6 x) → K (a.put o.dst (goInt 6)) w') :
    if Region.wanted o (yielded ops a.tmps) = true then Oper.wp P o a w K Q else E := by
  have hw : Region.wanted o (yielded ops a.tmps) = true := by simp [Region.wanted, hgd]
  rw [if_pos hw]
  have hlen : (cw 6 x).toList.length = 6 := by simp [cw_size]
  have hadd : ∀ j, (⟨gs, offs, none⟩ : Addr).add j = ⟨gs, offs + j, none⟩ := fun j => by unfold Addr.add; split <;> simp_all
  have hrun := run_copy_row (P := P) w dT sT o.type elem g 0 6 6 ⟨gs, offs, none⟩ 6 sCap (cw 6 y) t (cw 6 x).toList hu hsz hg (by rw [hlen]; rfl)
    (fun j v hv => by rw [hadd, cell_of_row w gs (offs + j) _ _ _ hsrc]; exact cw_take S L offs x fit hx j v hv) (by rw [hlen, cw_size]; decide)
    (fun v hv => (Array.all_eq_true_iff_forall_mem.1 (cw_oneCell 6 x)) v (by simpa using hv))
  rw [hlen] at hrun
  have e0 : (cw 6 y).toList.drop (0 + 6) = [] := List.drop_eq_nil_of_le (by simp [cw_size])
  rw [e0, List.take_zero, List.nil_append, List.append_nil, Array.toArray_toList] at hrun
  unfold Oper.wp
  simp [execOp, ho, resolve, invoke, builtin, hd, hs, hrun, Result.andThen]
  exact h _ rfl

set_option maxRecDepth 100000 in
set_option maxHeartbeats 1000000 in
theorem wmul_any (n m : Nat) (hn : n < Q) (hm : m < Q) (w : World) :
    Calls Try.prog 16 #[W n, W m] w fun e w' => e = .returned (.tuple #[W (n * m % Q), .bool (decide (Q ≤ n * m))]) ∧ Below w.heap.size w w' := by
  unfold W
  have hat := cw_at 6
  have hat12 := cw_at 12
  have hz := cw6z
  have hz12 := cw12z
  have hf := cw6f
  have hx := ix6
  have hs0 := st0
  go_enter Try.func16, Try.ntmps16
  go_wp2
  go_loopw [14] (fun i wr => ∃ (k L : Nat), k ≤ 6 ∧ i = .int .i64 k ∧ wr = (((w.alloc (.cells (cw 6 n) 24)).alloc (.cells (cw 6 m) 24)).alloc (.cells (cw 6 0) 24)).alloc (.cells (cw 12 L) 54) ∧ Box (L = (n % 2 ^ (64 * k)) * m)) (fun i _ => 6 - (intOf i).toNat)
  case atStart => exact ⟨0, 0, by omega, rfl, rfl, box (by simp [Nat.mod_one])⟩
  case round =>
    obtain ⟨k, L0, hk, rfl, rfl, HE⟩ := hrel
    by_cases hlt : k < 6
    · have hL0 : Box (L0 < 2 ^ (64 * (k + 6))) := box (by rw [HE.out]; exact mul_bd n m k hm)
      have hdk : decide ((k : Int) < 6) = true := by simp; omega
      go_wp2
      go_loopw [9, 19] (fun cv i wr => ∃ (j L c : Nat), j ≤ 6 ∧ i = .int .i64 j ∧ cv = .int .u64 c ∧ c < 18446744073709551616 ∧ wr = (((w.alloc (.cells (cw 6 n) 24)).alloc (.cells (cw 6 m) 24)).alloc (.cells (cw 6 0) 24)).alloc (.cells (cw 12 L) 54) ∧ Box (L < 2 ^ (64 * (k + 6))) ∧ Box (L + 2 ^ (64 * (k + j)) * c = (n % 2 ^ (64 * k)) * m + wd n k * 2 ^ (64 * k) * (m % 2 ^ (64 * j)))) (fun _ i _ => 6 - (intOf i).toNat)
      case atStart => exact ⟨0, L0, 0, by omega, rfl, rfl, by decide, rfl, hL0, box (by rw [HE.out]; simp [Nat.mod_one])⟩
      case round =>
        obtain ⟨j, L, c, hj, rfl, rfl, hc, rfl, hL, HI⟩ := hrel
        by_cases hlj : j < 6
        · obtain ⟨p, hp⟩ : ∃ p, p = k + j := ⟨_, rfl⟩
          have hp1 : (k : Int) + (j : Int) = (p : Int) := by omega
          have hp2 : p < 12 := by omega
          have hp3 : p < k + 6 := by omega
          have HP := box hp
          obtain ⟨lo, hlo⟩ : ∃ lo, (wd n k * wd m j + wd L p + c) % 18446744073709551616 = lo := ⟨_, rfl⟩
          obtain ⟨hi, hhi⟩ : ∃ hi, (wd n k * wd m j + wd L p + c) / 18446744073709551616 = hi := ⟨_, rfl⟩
          have hsum : lo + 18446744073709551616 * hi = wd n k * wd m j + wd L p + c := by rw [← hlo, ← hhi]; omega
          have blo : lo < 18446744073709551616 := by rw [← hlo]; exact Nat.mod_lt _ (by decide)
          have bhi : hi < 18446744073709551616 := by rw [← hhi]; exact mul_lt128 _ _ _ _ (wd_lt _ _) (wd_lt _ _) (wd_lt _ _) hc
          have hset := cw_set 12 L p lo hp2 blo
          have ST := box (mul_in_step n m L _ k j p c lo hi hp (by rw [hp]; exact HI.out) rfl hsum)
          have BD := box (setw_lt L p lo (k + 6) hL.out hp3 blo)
          have HLO := box hlo
          have HHI := box hhi
          clear hp hlo hhi hsum
          go_wp2_with fail
          refine ((mulAdd_any (wd n k) (wd m j) (wd L p) c (wd_lt _ _) (wd_lt _ _) (wd_lt _ _) hc _).mono ?_)
          rw [HLO.out, HHI.out]
          rintro e w' ⟨rfl, rfl⟩
          go_wp2
          go_roundw
          case rel => exact ⟨j + 1, setw L p lo, hi, by omega, by go_num, rfl, bhi, rfl, BD, box (by rw [← ST.out, HP.out]; rfl)⟩
          case measure => simp [intOf]; omega
        · have hk6 : k + 6 < 12 := by omega
          have hset := cw_set 12 L (k + 6) c hk6 hc
          go_wp2
          go_roundw
          case rel =>
            have := mul_out n m L k c j (by omega) hm hL.out HI.out
            exact ⟨k + 1, _, by omega, by go_num, rfl, box this⟩
          case measure => simp [intOf]; omega
    · obtain ⟨P, hP⟩ : ∃ P, P = n * m := ⟨_, rfl⟩
      obtain rfl : L0 = P := by rw [HE.out, wlow n k hn (by omega), hP]
      have HP := box hP
      clear hP
      obtain ⟨x1, hx1⟩ : ∃ x, x = L0 % Q := ⟨_, rfl⟩
      obtain ⟨x2, hx2⟩ : ∃ x, x = L0 / Q := ⟨_, rfl⟩
      have q1 : ∀ j, j < 6 → wd x1 j = wd L0 (0 + j) := fun j hj => by
        obtain ⟨S, hS, hQ⟩ := Q_of
        rw [hx1, hQ, wd_mod _ _ _ (by omega), Nat.zero_add]
      have q2 : ∀ j, j < 6 → wd x2 j = wd L0 (6 + j) := fun j hj => by
        obtain ⟨S, hS, hQ⟩ := Q_of
        rw [hx2, hQ, wd_div, hS]
      have l1 : x1 < Q := by rw [hx1]; exact Nat.mod_lt _ Q_pos
      have l2 : x2 < Q := by rw [hx2, HP.out]; exact Nat.div_lt_of_lt_mul (Nat.mul_lt_mul'' hn hm)
      have Q1 := box q1
      have Q2 := box q2
      have HX1 := box hx1
      have HX2 := box hx2
      clear q1 q2 hx1 hx2
      go_wp2
      obtain ⟨W0, hW0⟩ : ∃ W0, W0 = ((((w.alloc (.cells (cw 6 n) 24)).alloc (.cells (cw 6 m) 24)).alloc (.cells (cw 6 0) 24)).alloc (.cells (cw 12 L0) 54)).alloc (.cells (cw 6 0) 24) := ⟨_, rfl⟩
      rw [← hW0]
      have g2 : W0.heap[w.heap.size + 1 + 1]? = some (.cells (cw 6 0) 24) := by
        rw [hW0, heap_below _ _ _ (by simp only [size_al]; omega), heap_below _ _ _ (by simp only [size_al]; omega)]
        have := heap_alloc_last ((w.alloc (.cells (cw 6 n) 24)).alloc (.cells (cw 6 m) 24)) (.cells (cw 6 0) 24)
        simpa only [size_al] using this
      have g3 : W0.heap[w.heap.size + 1 + 1 + 1]? = some (.cells (cw 12 L0) 54) := by
        rw [hW0, heap_below _ _ _ (by simp only [size_al]; omega)]
        have := heap_alloc_last (((w.alloc (.cells (cw 6 n) 24)).alloc (.cells (cw 6 m) 24)).alloc (.cells (cw 6 0) 24)) (.cells (cw 12 L0) 54)
        simpa only [size_al] using this
      have g4 : W0.heap[w.heap.size + 1 + 1 + 1 + 1]? = some (.cells (cw 6 0) 24) := by
        rw [hW0]
        have := heap_alloc_last ((((w.alloc (.cells (cw 6 n) 24)).alloc (.cells (cw 6 m) 24)).alloc (.cells (cw 6 0) 24)).alloc (.cells (cw 12 L0) 54)) (.cells (cw 6 0) 24)
        simpa only [size_al] using this
      have b0 : Below w.heap.size w W0 := by
        rw [hW0]
        exact (((((Below.refl _ _).alloc (Nat.le_refl _) _).alloc (by simp only [size_al]; omega) _).alloc (by simp only [size_al]; omega) _).alloc (by simp only [size_al]; omega) _).alloc (by simp only [size_al]; omega) _
      clear hW0
      go_region_law ((refine step_copy6 rfl (.tmp 45) (.tmp 46) 57 57 rfl 22 Try.underlying57 (by kernel_rfl) (w.heap.size + 1 + 1) (w.heap.size + 1 + 1 + 1) 0 12 (by simp [Act.eval, Act.put]) (by simp [Act.eval, Act.put]) 0 L0 x1 12 24 54 g2 g3 (by omega) Q1.out ?_; intro w1 hw1))
      all_goals
        obtain ⟨w1, hw1⟩ : ∃ w1, w1 = W0.drew.setRow (w.heap.size + 1 + 1) (cw 6 x1) := ⟨_, rfl⟩
        rw [← hw1]
        have b1 : Below w.heap.size w w1 := by rw [hw1]; exact Below.setRow b0.drew (by omega)
        have k2 : w1.heap[w.heap.size + 1 + 1]? = some (.cells (cw 6 x1) 24) := by rw [hw1]; exact setRow_row (w := W0.drew) g2
        have k3 : w1.heap[w.heap.size + 1 + 1 + 1]? = some (.cells (cw 12 L0) 54) := by rw [hw1, setRow_other (by omega)]; exact g3
        have k4 : w1.heap[w.heap.size + 1 + 1 + 1 + 1]? = some (.cells (cw 6 0) 24) := by rw [hw1, setRow_other (by omega)]; exact g4
        clear hw1 g2 g3 g4 b0
        go_wp2
        go_region_law ((refine step_copy6 rfl (.tmp 48) (.tmp 49) 57 57 rfl 22 Try.underlying57 (by kernel_rfl) (w.heap.size + 1 + 1 + 1 + 1) (w.heap.size + 1 + 1 + 1) 6 6 (by simp [Act.eval, Act.put]) (by simp [Act.eval, Act.put]) 0 L0 x2 12 24 54 k4 k3 (by omega) Q2.out ?_; intro w2 hw2))
        all_goals
          obtain ⟨w2, hw2⟩ : ∃ w2, w2 = w1.drew.setRow (w.heap.size + 1 + 1 + 1 + 1) (cw 6 x2) := ⟨_, rfl⟩
          rw [← hw2]
          have b2 : Below w.heap.size w w2 := by rw [hw2]; exact Below.setRow b1.drew (by omega)
          have j2 : w2.heap[w.heap.size + 1 + 1]? = some (.cells (cw 6 x1) 24) := by rw [hw2, setRow_other (by omega)]; exact k2
          have j4 : w2.heap[w.heap.size + 1 + 1 + 1 + 1]? = some (.cells (cw 6 x2) 24) := by rw [hw2]; exact setRow_row (w := w1.drew) k4
          have hsz : w.heap.size ≤ w2.heap.size := b2.size
          clear hw2 k2 k3 k4 b1
          obtain ⟨F, hF1, hF2⟩ := below_fun w2
          have hFx : ∀ u o, o < 6 → (F u).cell? ⟨w.heap.size + 1 + 1, o, none⟩ = some (.int .u64 (wd x1 o : Nat)) := fun u => row_cell (heap_of (hF1 u) _ _ _ j2)
          have hFy : ∀ u o, o < 6 → (F u).cell? ⟨w.heap.size + 1 + 1 + 1 + 1, o, none⟩ = some (.int .u64 (wd x2 o : Nat)) := fun u => row_cell (heap_of (hF1 u) _ _ _ j4)
          have hFs : ∀ u, (storeCells ⟨w.heap.size + 1 + 1, 0, none⟩ (cw 6 x1).toList 0).run Try.prog (F u) = .ok () (F u) := fun u => st_same _ _ _ (heap_of (hF1 u) _ _ _ j2)
          have heq := eq6
          have hg := eqg6
          have hQ0 := Q_pos
          have hcs := cw_size 6
          go_wp2
          refine wp_region_below F hF2 (by kernel_rfl) (by kernel_rfl) ?_
          repeat quiet_step (fail)
          refine wpQuiet_nil ?_
          rintro _ ⟨u, rfl⟩
          go_wp2
          exact bodyPost_ret (v := .tuple #[.agg (cw 6 x1), .bool (!decide (x2 = 0))]) (by simp [results, Try.results16, go_sem, hFx, hf]) rfl ⟨by rw [mul_over n m L0 x2 HP.out HX2.out, HX1.out, HP.out], b2.trans ((hF1 u).mono hsz)⟩
end Go.Proofs.Ytflfgchnlcnibaa
