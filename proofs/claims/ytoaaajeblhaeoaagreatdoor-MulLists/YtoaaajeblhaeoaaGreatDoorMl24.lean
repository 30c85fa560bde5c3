/-
  What the functions that the statement reaches return: part 24 (L1, L2, L3, L4, L5, L6).
-/
import Derived.ArgAppend
import Derived.Test.YtoaaajeblhaeoaaGreatDoorMl23
namespace Go.Proofs.YtoaaajeblhaeoaaGreatDoor
set_option maxRecDepth 100000
set_option maxHeartbeats 40000000
set_option maxRecDepth 100000
open Go.RowKit WMath
set_option linter.unusedSimpArgs false
set_option linter.unusedVariables false
def fT (T : Nat × Nat → Nat × Nat → (Nat × Nat) × Int) : Nat × Nat → Int → List (Nat × Nat) → (Nat × Nat) × Int
  | p, a, [] => (p, a)
  | p, a, q :: t => fT T (T p q).1 (bits .or .u8 a (T p q).2) t
theorem fT_snoc (T : Nat × Nat → Nat × Nat → (Nat × Nat) × Int) (l : List (Nat × Nat)) (q : Nat × Nat) : ∀ (p : Nat × Nat) (a : Int), fT T p a (l ++ [q]) = ((T (fT T p a l).1 q).1, bits .or .u8 (fT T p a l).2 (T (fT T p a l).1 q).2) := by
 induction l with
 | nil => intro p a; rfl
 | cons x t ih => intro p a; exact ih _ _
theorem fT_take (T : Nat × Nat → Nat × Nat → (Nat × Nat) × Int) (l : List (Nat × Nat)) (k : Nat) (q : Nat × Nat) (h : l[k]? = some q) (p : Nat × Nat) (a : Int) : fT T p a (l.take (k + 1)) = ((T (fT T p a (l.take k)).1 q).1, bits .or .u8 (fT T p a (l.take k)).2 (T (fT T p a (l.take k)).1 q).2) := by
 rw [List.take_add_one, h]
 exact fT_snoc T _ q p a
theorem fT_ok (T : Nat × Nat → Nat × Nat → (Nat × Nat) × Int) (ok : Nat × Nat → Prop) (hs : ∀ p q, ok p → ok q → ok (T p q).1) (l : List (Nat × Nat)) : ∀ (p : Nat × Nat) (a : Int), ok p → (∀ q ∈ l, ok q) → ok (fT T p a l).1 := by
 induction l with
 | nil => intro p a h _; exact h
 | cons x t ih => intro p a h hl; exact ih _ _ (hs _ _ h (hl x (List.mem_cons_self ..))) (fun q hq => hl q (List.mem_cons_of_mem _ hq))
theorem rfg_list (f m : Int) (h0 : 0 ≤ f) (l : List (Nat × Nat)) (L g z c : Nat) (w : World) (hl : l.length = L) (hL : L ≤ 1000) (hb : Box (∀ p ∈ l, p.1 < 18446744073709551616 ∧ p.2 < 18446744073709551616)) (HC : Box (∀ W, Below w.heap.size w W → ∀ k p, l[k]? = some p → W.cell? ⟨g, z + k * 2, none⟩ = some (.int .u64 (p.1 : Nat)) ∧ W.cell? ⟨g, z + k * 2 + 1, none⟩ = some (.int .u64 (p.2 : Nat))))
  (KR : Box (∀ w, Calls Tryz.prog 14 #[.int .u8 f] w fun r w' => r = .returned (.bool true) ∧ Below w.heap.size w w')) (KM : Box (∀ w, Calls Tryz.prog 19 #[.int .u8 m] w fun r w' => r = .returned (.bool true) ∧ Below w.heap.size w w'))
  (o : Bool) (ho : l.all (okP f) = o) : Calls Tryz.prog 77 #[.int .u8 f, .int .u8 m, .slice (some ⟨g, z, none⟩) L c] w fun r w' => r = .returned (.bool o) ∧ Below w.heap.size w w' := by
 have HO := box ho
 have HL := box hl
 have HF := box h0
 clear ho hl h0
 go_enter Tryz.func77, Tryz.ntmps77
 go_wp2_with fail
 refine (KR.out _).mono ?_
 rintro r w1 ⟨rfl, b1⟩
 go_wp2_with fail
 refine (KM.out _).mono ?_
 rintro r w2 ⟨rfl, b2⟩
 have BP := btr b1 b2
 clear b1 b2 KR KM
 go_wp2
 go_loopw [7] (fun iv wr => ∃ k : Nat, k ≤ L ∧ iv = .int .i64 k ∧ Below w.heap.size w wr ∧ Box (∀ j p, j < k → l[j]? = some p → okP f p = true)) (fun iv _ => L - (intOf iv).toNat)
 case atStart => exact ⟨0, by omega, rfl, BP, box (fun j s hj => absurd hj (by omega))⟩
 case round =>
  obtain ⟨k, hk, rfl, bw, HA⟩ := hrel
  by_cases hlt : k < L
  ·
   obtain ⟨p, hs⟩ : ∃ p, l[k]? = some p := ⟨_, List.getElem?_eq_getElem (by rw [HL.out]; exact hlt)⟩
   obtain ⟨c1, c2⟩ := HC.out _ bw k p hs
   have dl : decide ((k : Int) < (L : Int)) = true := decide_eq_true (by omega)
   have HS := box hs
   obtain ⟨o1, hm⟩ : ∃ o1, okP f p = o1 := ⟨_, rfl⟩
   have HM := box hm
   have hp := hb.out p (List.mem_of_getElem? hs)
   have KC : Box (∀ w, Calls Tryz.prog 48 #[.int .u8 f, .agg #[.int .u64 (p.1 : Nat), .int .u64 (p.2 : Nat)]] w fun r w' => r = .returned (.bool o1) ∧ Below w.heap.size w w') := box (fun w => rk_fits f p.1 p.2 _ o1 HF.out hp.1 hp.2 rfl hm w)
   clear hs hm hp
   cases o1
   ·
    have e : o = false := by
     rw [← HO.out, Bool.eq_false_iff]
     intro h
     rw [List.all_eq_true] at h
     have := h p (List.mem_of_getElem? HS.out)
     rw [HM.out] at this
     exact absurd this (by decide)
    subst e
    go_wp2_with fail
    refine (KC.out _).mono ?_
    rintro r w2 ⟨rfl, b2⟩
    go_wp2
    go_ret
    exact ⟨rfl, btr bw b2⟩
   ·
    have NA : Box (∀ j p, j < k + 1 → l[j]? = some p → okP f p = true) := box (fun j p2 hj h2 => by
     by_cases e : j = k
     ·
      subst e
      rw [HS.out] at h2
      cases h2
      exact HM.out
     ·
      exact HA.out j p2 (by omega) h2)
    go_wp2_with fail
    refine (KC.out _).mono ?_
    rintro r w2 ⟨rfl, b2⟩
    go_wp2
    go_roundw
    case rel => exact ⟨k + 1, by omega, by go_num, btr bw b2, NA⟩
    case measure => simp [intOf] <;> omega
  ·
   obtain rfl : k = L := by omega
   have e : o = true := by
    rw [← HO.out, List.all_eq_true]
    intro s hs
    obtain ⟨j, hj⟩ := List.mem_iff_getElem?.1 hs
    have := (List.getElem?_eq_some_iff.1 hj).1
    exact HA.out j s (by rw [← HL.out]; exact this) hj
   subst e
   have dl : decide ((k : Int) < (k : Int)) = false := by rw [decide_eq_false_iff_not]; omega
   go_wp2
   go_ret
   exact ⟨rfl, bw⟩
theorem opg_may (f m : Int) (hf : Is4 f) (l : List (Nat × Nat)) (L g z c : Nat) (w : World) (hl : l.length = L) (hL : L ≤ 1000) (hb : Box (∀ p ∈ l, p.1 < 18446744073709551616 ∧ p.2 < 18446744073709551616)) (HC : Box (∀ W, Below w.heap.size w W → ∀ k p, l[k]? = some p → W.cell? ⟨g, z + k * 2, none⟩ = some (.int .u64 (p.1 : Nat)) ∧ W.cell? ⟨g, z + k * 2 + 1, none⟩ = some (.int .u64 (p.2 : Nat)))) (pu pv : Nat) (fl : Int)
  (KP : Box (∀ w, FAt w → Calls Tryz.prog 93 #[.int .u8 f, .int .u8 m, .agg (rg false 0 0 false)] w fun r w' => r = .returned (.tuple #[.agg #[.int .u64 pu, .int .u64 pv], .int .u8 fl, .int .i64 0]) ∧ Below w.heap.size w w'))
  (o : Bool) (ho : l.all (okP f) = o) (hT : FAt w) : Calls Tryz.prog 75 #[.int .u8 f, .int .u8 m, .slice (some ⟨g, z, none⟩) L c] w fun r w' => r = .returned (.bool o) ∧ Below w.heap.size w w' := by
 have FF := box hT
 have HO := box ho
 have HL := box hl
 have HF := box hf
 clear ho hl hT hf
 have hp3 := rgz
 go_enter Tryz.func75, Tryz.ntmps75
 go_wp2_with fail
 refine (KP.out _ FF.out).mono ?_
 rintro r w1 ⟨rfl, b1⟩
 have BP := btr b1 (bal w1 (.cells #[.int .u64 pu, .int .u64 pv] 25))
 obtain ⟨V, hV⟩ : ∃ V, w1.alloc (.cells #[.int .u64 pu, .int .u64 pv] 25) = V := ⟨_, rfl⟩
 go_wp2
 rw [hV] at BP
 clear b1 KP hV
 go_loopw [26] (fun iv wr => ∃ k : Nat, k ≤ L ∧ iv = .int .i64 k ∧ Below w.heap.size w wr ∧ Box (∀ j p, j < k → l[j]? = some p → okP f p = true)) (fun iv _ => L - (intOf iv).toNat)
 case atStart => exact ⟨0, by omega, rfl, BP, box (fun j s hj => absurd hj (by omega))⟩
 case round =>
  obtain ⟨k, hk, rfl, bw, HA⟩ := hrel
  by_cases hlt : k < L
  ·
   obtain ⟨p, hs⟩ : ∃ p, l[k]? = some p := ⟨_, List.getElem?_eq_getElem (by rw [HL.out]; exact hlt)⟩
   obtain ⟨c1, c2⟩ := HC.out _ bw k p hs
   have dl : decide ((k : Int) < (L : Int)) = true := decide_eq_true (by omega)
   have HS := box hs
   obtain ⟨o1, hm⟩ : ∃ o1, okP f p = o1 := ⟨_, rfl⟩
   have HM := box hm
   obtain ⟨cc, ee, hee, KC⟩ := kClass_any f HF.out p (hb.out p (List.mem_of_getElem? hs)) o1 hm
   have FA : Box (FAt (wr.alloc (.cells #[.int .u64 (p.1 : Nat), .int .u64 (p.2 : Nat)] 25))) := box (fatB FF.out (btr bw (bal _ _)))
   have BA := btr bw (bal wr (.cells #[.int .u64 (p.1 : Nat), .int .u64 (p.2 : Nat)] 25))
   clear hs hm
   cases o1
   ·
    have e : o = false := by
     rw [← HO.out, Bool.eq_false_iff]
     intro h
     rw [List.all_eq_true] at h
     have := h p (List.mem_of_getElem? HS.out)
     rw [HM.out] at this
     exact absurd this (by decide)
    subst e
    go_wp2_with fail
    refine (KC.out _ FA.out).mono ?_
    rintro r w2 ⟨rfl, b2⟩
    go_wp2
    go_ret
    exact ⟨rfl, btr BA b2⟩
   ·
    have NA : Box (∀ j p, j < k + 1 → l[j]? = some p → okP f p = true) := box (fun j p2 hj h2 => by
     by_cases e : j = k
     ·
      subst e
      rw [HS.out] at h2
      cases h2
      exact HM.out
     ·
      exact HA.out j p2 (by omega) h2)
    go_wp2_with fail
    refine (KC.out _ FA.out).mono ?_
    rintro r w2 ⟨rfl, b2⟩
    go_wp2
    go_roundw
    case rel => exact ⟨k + 1, by omega, by go_num, btr BA b2, NA⟩
    case measure => simp [intOf] <;> omega
  ·
   obtain rfl : k = L := by omega
   have e : o = true := by
    rw [← HO.out, List.all_eq_true]
    intro s hs
    obtain ⟨j, hj⟩ := List.mem_iff_getElem?.1 hs
    have := (List.getElem?_eq_some_iff.1 hj).1
    exact HA.out j s (by rw [← HL.out]; exact this) hj
   subst e
   have dl : decide ((k : Int) < (k : Int)) = false := by rw [decide_eq_false_iff_not]; omega
   go_wp2
   go_ret
   exact ⟨rfl, bw⟩
theorem pr_list (f m : Int) (T : Nat × Nat → Nat × Nat → (Nat × Nat) × Int) (ok : Nat × Nat → Prop) (hs : Box (∀ p q, ok p → ok q → ok (T p q).1)) (p0 : Nat × Nat) (l : List (Nat × Nat)) (L g z c : Nat) (w : World) (hl : l.length = L) (hL : L ≤ 1000) (h0 : ok p0) (hok : Box (∀ p ∈ l, ok p))
  (HC : Box (∀ W, Below w.heap.size w W → ∀ k p, (p0 :: l)[k]? = some p → W.cell? ⟨g, z + k * 2, none⟩ = some (.int .u64 (p.1 : Nat)) ∧ W.cell? ⟨g, z + k * 2 + 1, none⟩ = some (.int .u64 (p.2 : Nat))))
  (KM : Box (∀ w', Below w.heap.size w w' → Calls Tryz.prog 75 #[.int .u8 f, .int .u8 m, .slice (some ⟨g, z, none⟩) (L + 1) c] w' fun r w2 => r = .returned (.bool true) ∧ Below w'.heap.size w' w2))
  (KT : Box (∀ p q, ok p → ok q → ∀ w, FAt w → Calls Tryz.prog 89 #[.int .u8 f, .int .u8 m, .agg #[.int .u64 (p.1 : Nat), .int .u64 (p.2 : Nat)], .agg #[.int .u64 (q.1 : Nat), .int .u64 (q.2 : Nat)]] w fun r w' => r = .returned (.tuple #[.agg #[.int .u64 ((T p q).1.1 : Nat), .int .u64 ((T p q).1.2 : Nat)], .int .u8 (T p q).2, .int .i64 0]) ∧ Below w.heap.size w w'))
  (hc : L + 1 ≤ c) (rp : Nat × Nat) (ra : Int) (HR : Box (fT T p0 0 l = (rp, ra))) (hT : FAt w) : Calls Tryz.prog 43 #[.int .u8 f, .int .u8 m, .slice (some ⟨g, z, none⟩) (L + 1) c] w fun r w' => r = .returned (.tuple #[.agg #[.int .u64 (rp.1 : Nat), .int .u64 (rp.2 : Nat)], .int .u8 ra, .int .i64 0]) ∧ Below w.heap.size w w' := by
 have FF := box hT
 have HL := box hl
 have H0 := box h0
 clear hl hT h0
 have B00 := bal w (.cells #[.int .u64 0, .int .u64 0] 25)
 obtain ⟨c00, c01⟩ := HC.out _ B00 0 p0 rfl
 obtain ⟨Ah, B0⟩ := opn1 w (Obj.cells #[.int .u64 0, .int .u64 0] 25)
 go_enter Tryz.func43, Tryz.ntmps43
 go_wp2_with fail
 refine (KM.out _ B0).mono ?_
 rintro r w1 ⟨rfl, b1⟩
 obtain ⟨c0, c1⟩ := HC.out _ (btr B0 b1) 0 p0 rfl
 rw [Nat.zero_mul, Nat.add_zero] at c0 c1
 have d1 : (((L : Int) + 1) == 0) = false := by rw [beq_eq_false_iff_ne]; omega
 have d2 : decide ((1 : Int) ≤ (L : Int) + 1) = true := decide_eq_true (by omega)
 by_cases hc1 : c = 1
 ·
  obtain rfl : L = 0 := by omega
  obtain rfl : l = [] := List.length_eq_zero_iff.1 HL.out
  have e : (p0, (0 : Int)) = (rp, ra) := HR.out
  injection e with ec ea
  subst ec ea
  clear HR
  go_wp2
  have Ac := heap_of b1 _ _ _ Ah
  have Ab := heap_alloc_last w1 (.cells #[.int .u64 (p0.1 : Nat), .int .u64 (p0.2 : Nat)] 25)
  have b2 := bal w1 (.cells #[.int .u64 (p0.1 : Nat), .int .u64 (p0.2 : Nat)] 25)
  have Ad := heap_of b2 _ _ _ Ac
  have B2 := btr (btr B0 b1) b2
  have gz := (Array.getElem?_eq_some_iff.1 Ac).1
  obtain ⟨g1, hg1⟩ : ∃ g1, w1.heap.size = g1 := ⟨_, rfl⟩
  obtain ⟨V, hV⟩ : ∃ V, w1.alloc (.cells #[.int .u64 (p0.1 : Nat), .int .u64 (p0.2 : Nat)] 25) = V := ⟨_, rfl⟩
  rw [hV] at Ab Ad B2 ⊢
  rw [hg1] at Ab gz ⊢
  clear hV hg1 Ac b2 b1 B0 Ah c0 c1 c00 c01 B00 KM HC KT
  go_loopw [10, 39] (fun av iv wr => iv = .int .i64 0 ∧ av = .int .u8 0 ∧ wr = V) (fun _ _ _ => 0)
  case atStart => exact ⟨rfl, rfl, rfl⟩
  case round =>
   obtain ⟨rfl, rfl, rfl⟩ := hrel
   obtain ⟨w20, hw⟩ : ∃ w20, w20 = wr := ⟨_, rfl⟩
   subst hw
   have Aa := Ad
   have Ae := Ab
   have B20 := B2
   clear Ad Ab B2
   obtain ⟨Af, Ag⟩ := cells2s Aa
   obtain ⟨Af, Ag⟩ := cells2s Aa
   obtain ⟨Ar, As⟩ := cells2s Ae
   have q0 := fz (k := 0) Aa
   have q1 := fz (k := 1) Aa
   obtain ⟨E0, E1⟩ := set2_cells Aa (.int .u64 (p0.1 : Nat)) (.int .u64 (p0.2 : Nat))
   go_wp2
   exact bodyPost_ret (v := .tuple #[.agg #[.int .u64 (p0.1 : Nat), .int .u64 (p0.2 : Nat)], .int .u8 0, .int .i64 0]) (by simp [results, Tryz.results43, go_sem, E0, E1]) rfl ⟨rfl, set2_below B20 (by first | exact Nat.le_refl _ | omega | (skip; omega)) _ _⟩
 ·
  go_wp2
  have Ac := heap_of b1 _ _ _ Ah
  have Ab := heap_alloc_last w1 (.cells #[.int .u64 (p0.1 : Nat), .int .u64 (p0.2 : Nat)] 25)
  have b2 := bal w1 (.cells #[.int .u64 (p0.1 : Nat), .int .u64 (p0.2 : Nat)] 25)
  have Ad := heap_of b2 _ _ _ Ac
  have B2 := btr (btr B0 b1) b2
  have gz := (Array.getElem?_eq_some_iff.1 Ac).1
  obtain ⟨g1, hg1⟩ : ∃ g1, w1.heap.size = g1 := ⟨_, rfl⟩
  obtain ⟨V, hV⟩ : ∃ V, w1.alloc (.cells #[.int .u64 (p0.1 : Nat), .int .u64 (p0.2 : Nat)] 25) = V := ⟨_, rfl⟩
  rw [hV] at Ab Ad B2 ⊢
  rw [hg1] at Ab gz ⊢
  clear hV hg1 Ac b2 b1 B0 Ah c0 c1 c00 c01 B00 KM
  go_loopw [10, 39] (fun av iv wr => ∃ (k : Nat) (cur : Nat × Nat) (a : Int), k ≤ L ∧ iv = .int .i64 k ∧ av = .int .u8 a ∧ Below w.heap.size w wr ∧ wr.heap[w.heap.size]? = some (.cells #[.int .u64 0, .int .u64 0] 25) ∧ wr.heap[g1]? = some (.cells #[.int .u64 (cur.1 : Nat), .int .u64 (cur.2 : Nat)] 25) ∧ Box (fT T p0 0 (l.take k) = (cur, a))) (fun _ iv _ => L - (intOf iv).toNat)
  case atStart => exact ⟨0, p0, 0, by omega, rfl, rfl, B2, Ad, Ab, box rfl⟩
  case round =>
   obtain ⟨k, cur, a, hk, rfl, rfl, B20, Aa, Ae, HA⟩ := hrel
   obtain ⟨w20, hw⟩ : ∃ w20, w20 = wr := ⟨_, rfl⟩
   subst hw
   clear Ad Ab B2
   have okc : ok cur := by
    have := fT_ok T ok hs.out (l.take k) p0 0 H0.out (fun q hq => hok.out q (List.mem_of_mem_take hq))
    rw [HA.out] at this
    exact this
   have OC := box okc
   clear okc
   by_cases hlt : k < L
   ·
    obtain ⟨q, hq⟩ : ∃ q, l[k]? = some q := ⟨_, List.getElem?_eq_getElem (by rw [HL.out]; exact hlt)⟩
    obtain ⟨e0, e1⟩ := HC.out _ B20 (k + 1) q (by rw [List.getElem?_cons_succ]; exact hq)
    rw [show z + (k + 1) * 2 = z + 2 + k * 2 by omega] at e0 e1
    have dl : decide ((k : Int) < (L : Int)) = true := decide_eq_true (by omega)
    have ft := fT_take T l k q hq p0 0
    rw [HA.out] at ft
    have FTK := box ft
    have KQ := box (KT.out cur q OC.out (hok.out q (List.mem_of_getElem? hq)))
    obtain ⟨n1, n2, nf, hn⟩ : ∃ n1 n2 nf, T cur q = ((n1, n2), nf) := ⟨_, _, _, rfl⟩
    rw [hn] at ft KQ
    have FTK := box ft
    clear ft hq hn KT
    obtain ⟨Af, Ag⟩ := cells2s Aa
    obtain ⟨Af, Ag⟩ := cells2s Aa
    obtain ⟨Ar, As⟩ := cells2s Ae
    have S21 := box B20.size
    have Ai := ltR Aa
    have Aj := ltR Ae
    have At := heap_alloc_last w20 (Obj.cells #[.int .u64 (q.1 : Nat), .int .u64 (q.2 : Nat)] 25)
    have B21 := btr B20 (bal w20 (Obj.cells #[.int .u64 (q.1 : Nat), .int .u64 (q.2 : Nat)] 25))
    obtain ⟨Au, Av⟩ := rws2 (bal w20 (Obj.cells #[.int .u64 (q.1 : Nat), .int .u64 (q.2 : Nat)] 25)) Aa Ae
    clear B20 Aa Af Ag Ae Ar As
    obtain ⟨AB, AC⟩ := cells2s Au
    obtain ⟨AD, AE⟩ := cells2s Av
    obtain ⟨AF, AG⟩ := cells2s At
    go_wp2_with fail
    refine (KQ.out _ (fatB FF.out B21)).mono ?_
    rintro r w22 ⟨rfl, b22⟩
    have B22 := btr B21 b22
    obtain ⟨Ak, Al, Am⟩ := rws3 b22 Au Av At
    clear b22 B21 Au AB AC Av AD AE At AF AG
    obtain ⟨AH, AI⟩ := cells2s Ak
    obtain ⟨AJ, AK⟩ := cells2s Al
    obtain ⟨AL, AM⟩ := cells2s Am
    have S23 := box B22.size
    have An := ltR Ak
    have Ao := ltR Al
    have Ap := ltR Am
    have Aw := heap_alloc_last w22 (Obj.cells #[.int .u64 n1, .int .u64 n2] 25)
    have B23 := btr B22 (bal w22 (Obj.cells #[.int .u64 n1, .int .u64 n2] 25))
    obtain ⟨Ax, Aq, Ay⟩ := rws3 (bal w22 (Obj.cells #[.int .u64 n1, .int .u64 n2] 25)) Ak Al Am
    clear B22 Ak AH AI Al AJ AK Am AL AM
    obtain ⟨AP, AQ⟩ := cells2s Ax
    obtain ⟨AR, AS⟩ := cells2s Aq
    obtain ⟨AT, AU⟩ := cells2s Ay
    obtain ⟨AV, AW⟩ := cells2s Aw
    have q0_24 := fz (k := 0) Aq
    have q1_24 := fz (k := 1) Aq
    have B24 := set2_below B23 (show w.heap.size ≤ g1 by first | exact Nat.le_refl _ | omega | (have := S21.out; have := Ai.out; have := Aj.out; have := S23.out; have := An.out; have := Ao.out; have := Ap.out; omega)) (.int .u64 n1) (.int .u64 n2)
    have Az : (((w22.alloc (Obj.cells #[.int .u64 n1, .int .u64 n2] 25)).setCell ⟨g1, 0, none⟩ (.int .u64 n1)).setCell ⟨g1, 1, none⟩ (.int .u64 n2)).heap[g1]? = some (.cells #[.int .u64 n1, .int .u64 n2] 25) := set2_row Aq _ _
    have HH := box (And.intro S21.out (And.intro Ai.out (And.intro Aj.out (And.intro S23.out (And.intro An.out (And.intro Ao.out Ap.out))))))
    have AA : (((w22.alloc (Obj.cells #[.int .u64 n1, .int .u64 n2] 25)).setCell ⟨g1, 0, none⟩ (.int .u64 n1)).setCell ⟨g1, 1, none⟩ (.int .u64 n2)).heap[w.heap.size]? = some (.cells #[.int .u64 0, .int .u64 0] 25) := (setCell_other (by first | omega | (have := HH.out; omega))).trans ((setCell_other (by first | omega | (have := HH.out; omega))).trans Ax)
    have HH := box (And.intro S21.out (And.intro Ai.out (And.intro Aj.out (And.intro S23.out (And.intro An.out (And.intro Ao.out Ap.out))))))
    have AN : (((w22.alloc (Obj.cells #[.int .u64 n1, .int .u64 n2] 25)).setCell ⟨g1, 0, none⟩ (.int .u64 n1)).setCell ⟨g1, 1, none⟩ (.int .u64 n2)).heap[w20.heap.size]? = some (.cells #[.int .u64 (q.1 : Nat), .int .u64 (q.2 : Nat)] 25) := (setCell_other (by first | omega | (have := HH.out; omega))).trans ((setCell_other (by first | omega | (have := HH.out; omega))).trans Ay)
    have HH := box (And.intro S21.out (And.intro Ai.out (And.intro Aj.out (And.intro S23.out (And.intro An.out (And.intro Ao.out Ap.out))))))
    have AO : (((w22.alloc (Obj.cells #[.int .u64 n1, .int .u64 n2] 25)).setCell ⟨g1, 0, none⟩ (.int .u64 n1)).setCell ⟨g1, 1, none⟩ (.int .u64 n2)).heap[w22.heap.size]? = some (.cells #[.int .u64 n1, .int .u64 n2] 25) := (setCell_other (by first | omega | (have := HH.out; omega))).trans ((setCell_other (by first | omega | (have := HH.out; omega))).trans Aw)
    obtain ⟨AX, AY⟩ := cells2s AA
    obtain ⟨AZ, A0⟩ := cells2s Az
    obtain ⟨A1, A2⟩ := cells2s AN
    obtain ⟨A3, A4⟩ := cells2s AO
    go_wp2
    go_roundw
    case rel => exact ⟨k + 1, (n1, n2), _, by omega, by go_num, rfl, B24, AA, Az, FTK⟩
    case measure => simp [intOf] <;> omega
   ·
    obtain rfl : k = L := by omega
    have e : (cur, a) = (rp, ra) := by rw [← HR.out, ← HA.out, ← HL.out, List.take_length]
    injection e with ec ea
    subst ec ea
    have dl : decide ((k : Int) < (k : Int)) = false := by rw [decide_eq_false_iff_not]; omega
    clear HA HC KT HR
    obtain ⟨Af, Ag⟩ := cells2s Aa
    obtain ⟨Af, Ag⟩ := cells2s Aa
    obtain ⟨Ar, As⟩ := cells2s Ae
    have q0 := fz (k := 0) Aa
    have q1 := fz (k := 1) Aa
    obtain ⟨E0, E1⟩ := set2_cells Aa (.int .u64 (cur.1 : Nat)) (.int .u64 (cur.2 : Nat))
    go_wp2
    exact bodyPost_ret (v := .tuple #[.agg #[.int .u64 (cur.1 : Nat), .int .u64 (cur.2 : Nat)], .int .u8 a, .int .i64 0]) (by simp [results, Tryz.results43, go_sem, E0, E1]) rfl ⟨rfl, set2_below B20 (by first | exact Nat.le_refl _ | omega | (skip; omega)) _ _⟩
theorem gen_abacusref12_Product_12 {X : Act → World → Prop} {R : World → Nat → Prop} {t0 t1 t2 t3 t4 t5 t6 t7 t8 t9 t10 t11 t13 t14 t15 t16 t17 t18 t19 t20 t21 t22 t23 t24 t25 t26 t27 t28 t29 t30 t31 t32 t33 t34 t35 t36 t37 t38 t39 t40 t41 t42 t43 t44 t45 t46 t47 t48 t49 t50 t51 t52 : Value} {d : List Deferred} {W : World} {G : Nat}
  (key : ∀ w5 g, R w5 g → X ⟨#[t0, t1, t2, t3, t4, t5, t6, t7, t8, t9, t10, t11, .pointer (some ⟨g, 0, none⟩), t13, t14, t15, t16, t17, t18, t19, t20, t21, t22, t23, t24, t25, t26, t27, t28, t29, t30, t31, t32, t33, t34, t35, t36, t37, t38, t39, t40, t41, t42, t43, t44, t45, t46, t47, t48, t49, t50, t51, t52], d⟩ w5) (r : R W G) : X ⟨#[t0, t1, t2, t3, t4, t5, t6, t7, t8, t9, t10, t11, .pointer (some ⟨G, 0, none⟩), t13, t14, t15, t16, t17, t18, t19, t20, t21, t22, t23, t24, t25, t26, t27, t28, t29, t30, t31, t32, t33, t34, t35, t36, t37, t38, t39, t40, t41, t42, t43, t44, t45, t46, t47, t48, t49, t50, t51, t52], d⟩ W := key W G r
theorem cell_lt {w : World} {g o : Nat} {v : Value} (h : w.cell? ⟨g, o, none⟩ = some v) : g < w.heap.size := by
 rcases Nat.lt_or_ge g w.heap.size with c | c
 ·
  exact c
 ·
  unfold World.cell? at h
  rw [Array.getElem?_eq_none c] at h
  simp at h
theorem cellB {w W : World} {g o : Nat} {v : Value} (b : Below w.heap.size w W) (h : w.cell? ⟨g, o, none⟩ = some v) : W.cell? ⟨g, o, none⟩ = some v := by
 have l := cell_lt h
 unfold World.cell? at h ⊢
 rw [b.block g l]
 exact h
theorem cellC {W : World} {g o gN j : Nat} {x v : Value} (hne : g ≠ gN) (h : W.cell? ⟨g, o, none⟩ = some v) : (W.setCell ⟨gN, j, none⟩ x).cell? ⟨g, o, none⟩ = some v := by
 unfold World.cell? at h ⊢
 rw [setCell_other (Ne.symm hne)]
 exact h
theorem rpr_list (f m : Int) (T : Nat × Nat → Nat × Nat → (Nat × Nat) × Int) (ok : Nat × Nat → Prop) (hs : Box (∀ p q, ok p → ok q → ok (T p q).1)) (p0 : Nat × Nat) (l : List (Nat × Nat)) (L g z c : Nat) (w : World) (hl : l.length = L) (hL : L ≤ 1000) (h0 : ok p0) (hok : Box (∀ p ∈ l, ok p))
  (HC : Box (∀ W, Below w.heap.size w W → ∀ k p, (p0 :: l)[k]? = some p → W.cell? ⟨g, z + k * 2, none⟩ = some (.int .u64 (p.1 : Nat)) ∧ W.cell? ⟨g, z + k * 2 + 1, none⟩ = some (.int .u64 (p.2 : Nat))))
  (KM : Box (∀ w', Below w.heap.size w w' → Calls Tryz.prog 77 #[.int .u8 f, .int .u8 m, .slice (some ⟨g, z, none⟩) (L + 1) c] w' fun r w2 => r = .returned (.bool true) ∧ Below w'.heap.size w' w2))
  (KT : Box (∀ p q, ok p → ok q → ∀ w, Calls Tryz.prog 41 #[.int .u8 f, .int .u8 m, .agg #[.int .u64 (p.1 : Nat), .int .u64 (p.2 : Nat)], .agg #[.int .u64 (q.1 : Nat), .int .u64 (q.2 : Nat)]] w fun r w' => r = .returned (.tuple #[.agg #[.int .u64 ((T p q).1.1 : Nat), .int .u64 ((T p q).1.2 : Nat)], .int .u8 (T p q).2, .int .i64 0]) ∧ Below w.heap.size w w'))
  (rp : Nat × Nat) (ra : Int) (HR : Box (fT T p0 0 l = (rp, ra))) : Calls Tryz.prog 44 #[.int .u8 f, .int .u8 m, .slice (some ⟨g, z, none⟩) (L + 1) c] w fun r w' => r = .returned (.tuple #[.agg #[.int .u64 (rp.1 : Nat), .int .u64 (rp.2 : Nat)], .int .u8 ra, .int .i64 0]) ∧ Below w.heap.size w w' := by
 have HL := box hl
 have H0 := box h0
 clear hl h0
 obtain ⟨Ai, B0⟩ := opn1 w (Obj.cells #[.int .u64 0, .int .u64 0] 25)
 go_enter Tryz.func44, Tryz.ntmps44
 go_wp2_with fail
 refine (KM.out _ B0).mono ?_
 rintro r w1 ⟨rfl, b1⟩
 obtain ⟨c0, c1⟩ := HC.out _ (btr B0 b1) 0 p0 rfl
 rw [Nat.zero_mul, Nat.add_zero] at c0 c1
 have d1 : (((L : Int) + 1) == 0) = false := by rw [beq_eq_false_iff_ne]; omega
 go_wp2
 have Ag := heap_of b1 _ _ _ Ai
 have Ac := heap_alloc_last w1 (.cells #[.int .u64 (p0.1 : Nat), .int .u64 (p0.2 : Nat)] 25)
 have b2 := bal w1 (.cells #[.int .u64 (p0.1 : Nat), .int .u64 (p0.2 : Nat)] 25)
 have Ah := heap_of b2 _ _ _ Ag
 have B2 := btr (btr B0 b1) b2
 have gz := (Array.getElem?_eq_some_iff.1 Ag).1
 obtain ⟨g1, hg1⟩ : ∃ g1, w1.heap.size = g1 := ⟨_, rfl⟩
 obtain ⟨V, hV⟩ : ∃ V, w1.alloc (.cells #[.int .u64 (p0.1 : Nat), .int .u64 (p0.2 : Nat)] 25) = V := ⟨_, rfl⟩
 rw [hV] at Ac Ah B2 ⊢
 rw [hg1] at Ac gz ⊢
 clear hV hg1 Ag b2 b1 B0 Ai c0 c1 KM
 go_loopw [10, 11] (fun av iv wr => ∃ (k : Nat) (cur : Nat × Nat) (a : Int), k ≤ L ∧ iv = .int .i64 ((k + 1 : Nat) : Int) ∧ av = .int .u8 a ∧ Below w.heap.size w wr ∧ wr.heap[w.heap.size]? = some (.cells #[.int .u64 0, .int .u64 0] 25) ∧ wr.heap[g1]? = some (.cells #[.int .u64 (cur.1 : Nat), .int .u64 (cur.2 : Nat)] 25) ∧ Box (fT T p0 0 (l.take k) = (cur, a))) (fun _ iv _ => L + 1 - (intOf iv).toNat)
 case atStart => exact ⟨0, p0, 0, by omega, rfl, rfl, B2, Ah, Ac, box rfl⟩
 case round =>
  obtain ⟨k, cur, a, hk, rfl, rfl, B20, Aa, Ab, HA⟩ := hrel
  obtain ⟨w20, hw⟩ : ∃ w20, w20 = wr := ⟨_, rfl⟩
  subst hw
  clear Ah Ac B2
  have okc : ok cur := by
   have := fT_ok T ok hs.out (l.take k) p0 0 H0.out (fun q hq => hok.out q (List.mem_of_mem_take hq))
   rw [HA.out] at this
   exact this
  have OC := box okc
  clear okc
  by_cases hlt : k < L
  ·
   obtain ⟨q, hq⟩ : ∃ q, l[k]? = some q := ⟨_, List.getElem?_eq_getElem (by rw [HL.out]; exact hlt)⟩
   obtain ⟨e0, e1⟩ := HC.out _ B20 (k + 1) q (by rw [List.getElem?_cons_succ]; exact hq)
   have dl : decide (((k + 1 : Nat) : Int) < (L : Int) + 1) = true := decide_eq_true (by omega)
   have hb0 : ((0 : Int) ≤ (k : Int) + 1) = True := eq_true (by omega)
   have ft := fT_take T l k q hq p0 0
   rw [HA.out] at ft
   have KQ := box (KT.out cur q OC.out (hok.out q (List.mem_of_getElem? hq)))
   obtain ⟨n1, n2, nf, hn⟩ : ∃ n1 n2 nf, T cur q = ((n1, n2), nf) := ⟨_, _, _, rfl⟩
   rw [hn] at ft KQ
   have FTK := box ft
   clear ft hq hn KT
   obtain ⟨Ad, Ae⟩ := cells2s Aa
   obtain ⟨Ad, Ae⟩ := cells2s Aa
   obtain ⟨Aj, Ak⟩ := cells2s Ab
   have sS : Box (∀ W W1 : World, (Below w.heap.size w W ∧ W.heap[w.heap.size]? = some (.cells #[.int .u64 0, .int .u64 0] 25) ∧ W.heap[g1]? = some (.cells #[.int .u64 (cur.1 : Nat), .int .u64 (cur.2 : Nat)] 25) ∧ W.cell? ⟨w.heap.size, 0, none⟩ = some (.int .u64 0) ∧ W.cell? ⟨w.heap.size, 1, none⟩ = some (.int .u64 0) ∧ W.cell? ⟨g1, 0, none⟩ = some (.int .u64 (cur.1 : Nat)) ∧ W.cell? ⟨g1, 1, none⟩ = some (.int .u64 (cur.2 : Nat)) ∧ W.cell? ⟨g, z + (k + 1) * 2, none⟩ = some (.int .u64 (q.1 : Nat)) ∧ W.cell? ⟨g, z + (k + 1) * 2 + 1, none⟩ = some (.int .u64 (q.2 : Nat))) → Below W.heap.size W W1 → (Below w.heap.size w W1 ∧ W1.heap[w.heap.size]? = some (.cells #[.int .u64 0, .int .u64 0] 25) ∧ W1.heap[g1]? = some (.cells #[.int .u64 (cur.1 : Nat), .int .u64 (cur.2 : Nat)] 25) ∧ W1.cell? ⟨w.heap.size, 0, none⟩ = some (.int .u64 0) ∧ W1.cell? ⟨w.heap.size, 1, none⟩ = some (.int .u64 0) ∧ W1.cell? ⟨g1, 0, none⟩ = some (.int .u64 (cur.1 : Nat)) ∧ W1.cell? ⟨g1, 1, none⟩ = some (.int .u64 (cur.2 : Nat)) ∧ W1.cell? ⟨g, z + (k + 1) * 2, none⟩ = some (.int .u64 (q.1 : Nat)) ∧ W1.cell? ⟨g, z + (k + 1) * 2 + 1, none⟩ = some (.int .u64 (q.2 : Nat)))) := box (fun W W1 h b => ⟨btr h.1 b, heap_of b _ _ _ h.2.1, heap_of b _ _ _ h.2.2.1, cell7 (heap_of b _ _ _ h.2.1) 0 _ rfl, cell7 (heap_of b _ _ _ h.2.1) 1 _ rfl, cell7 (heap_of b _ _ _ h.2.2.1) 0 _ rfl, cell7 (heap_of b _ _ _ h.2.2.1) 1 _ rfl, cellB b h.2.2.2.2.2.2.2.1, cellB b h.2.2.2.2.2.2.2.2⟩)
   have sL : Box (∀ W : World, (Below w.heap.size w W ∧ W.heap[w.heap.size]? = some (.cells #[.int .u64 0, .int .u64 0] 25) ∧ W.heap[g1]? = some (.cells #[.int .u64 (cur.1 : Nat), .int .u64 (cur.2 : Nat)] 25) ∧ W.cell? ⟨w.heap.size, 0, none⟩ = some (.int .u64 0) ∧ W.cell? ⟨w.heap.size, 1, none⟩ = some (.int .u64 0) ∧ W.cell? ⟨g1, 0, none⟩ = some (.int .u64 (cur.1 : Nat)) ∧ W.cell? ⟨g1, 1, none⟩ = some (.int .u64 (cur.2 : Nat)) ∧ W.cell? ⟨g, z + (k + 1) * 2, none⟩ = some (.int .u64 (q.1 : Nat)) ∧ W.cell? ⟨g, z + (k + 1) * 2 + 1, none⟩ = some (.int .u64 (q.2 : Nat))) → (w.heap.size < W.heap.size ∧ g1 < W.heap.size ∧ g < W.heap.size)) := box (fun W h => ⟨(Array.getElem?_eq_some_iff.1 h.2.1).1, (Array.getElem?_eq_some_iff.1 h.2.2.1).1, cell_lt h.2.2.2.2.2.2.2.1⟩)
   have sT : Box (∀ (W : World) (gN : Nat) (xA xB : Value), (Below w.heap.size w W ∧ W.heap[w.heap.size]? = some (.cells #[.int .u64 0, .int .u64 0] 25) ∧ W.heap[g1]? = some (.cells #[.int .u64 (cur.1 : Nat), .int .u64 (cur.2 : Nat)] 25) ∧ W.cell? ⟨w.heap.size, 0, none⟩ = some (.int .u64 0) ∧ W.cell? ⟨w.heap.size, 1, none⟩ = some (.int .u64 0) ∧ W.cell? ⟨g1, 0, none⟩ = some (.int .u64 (cur.1 : Nat)) ∧ W.cell? ⟨g1, 1, none⟩ = some (.int .u64 (cur.2 : Nat)) ∧ W.cell? ⟨g, z + (k + 1) * 2, none⟩ = some (.int .u64 (q.1 : Nat)) ∧ W.cell? ⟨g, z + (k + 1) * 2 + 1, none⟩ = some (.int .u64 (q.2 : Nat))) → (w.heap.size < gN ∧ g1 < gN ∧ g < gN) → (Below w.heap.size w ((W.setCell ⟨gN, 0, none⟩ xA).setCell ⟨gN, 1, none⟩ xB) ∧ ((W.setCell ⟨gN, 0, none⟩ xA).setCell ⟨gN, 1, none⟩ xB).heap[w.heap.size]? = some (.cells #[.int .u64 0, .int .u64 0] 25) ∧ ((W.setCell ⟨gN, 0, none⟩ xA).setCell ⟨gN, 1, none⟩ xB).heap[g1]? = some (.cells #[.int .u64 (cur.1 : Nat), .int .u64 (cur.2 : Nat)] 25) ∧ ((W.setCell ⟨gN, 0, none⟩ xA).setCell ⟨gN, 1, none⟩ xB).cell? ⟨w.heap.size, 0, none⟩ = some (.int .u64 0) ∧ ((W.setCell ⟨gN, 0, none⟩ xA).setCell ⟨gN, 1, none⟩ xB).cell? ⟨w.heap.size, 1, none⟩ = some (.int .u64 0) ∧ ((W.setCell ⟨gN, 0, none⟩ xA).setCell ⟨gN, 1, none⟩ xB).cell? ⟨g1, 0, none⟩ = some (.int .u64 (cur.1 : Nat)) ∧ ((W.setCell ⟨gN, 0, none⟩ xA).setCell ⟨gN, 1, none⟩ xB).cell? ⟨g1, 1, none⟩ = some (.int .u64 (cur.2 : Nat)) ∧ ((W.setCell ⟨gN, 0, none⟩ xA).setCell ⟨gN, 1, none⟩ xB).cell? ⟨g, z + (k + 1) * 2, none⟩ = some (.int .u64 (q.1 : Nat)) ∧ ((W.setCell ⟨gN, 0, none⟩ xA).setCell ⟨gN, 1, none⟩ xB).cell? ⟨g, z + (k + 1) * 2 + 1, none⟩ = some (.int .u64 (q.2 : Nat)))) := box (fun W gN xA xB h l => ⟨set2_below h.1 (show w.heap.size ≤ gN by have := l.1; omega) _ _, (setCell_other (by have := l.1; omega)).trans ((setCell_other (by have := l.1; omega)).trans h.2.1), (setCell_other (by have := l.2.1; omega)).trans ((setCell_other (by have := l.2.1; omega)).trans h.2.2.1), cell7 ((setCell_other (by have := l.1; omega)).trans ((setCell_other (by have := l.1; omega)).trans h.2.1)) 0 _ rfl, cell7 ((setCell_other (by have := l.1; omega)).trans ((setCell_other (by have := l.1; omega)).trans h.2.1)) 1 _ rfl, cell7 ((setCell_other (by have := l.2.1; omega)).trans ((setCell_other (by have := l.2.1; omega)).trans h.2.2.1)) 0 _ rfl, cell7 ((setCell_other (by have := l.2.1; omega)).trans ((setCell_other (by have := l.2.1; omega)).trans h.2.2.1)) 1 _ rfl, (cellC (by have := l.2.2; omega) (cellC (by have := l.2.2; omega) h.2.2.2.2.2.2.2.1)), (cellC (by have := l.2.2; omega) (cellC (by have := l.2.2; omega) h.2.2.2.2.2.2.2.2))⟩)
   have s0 : Below w.heap.size w (w20).drew ∧ (w20).drew.heap[w.heap.size]? = some (.cells #[.int .u64 0, .int .u64 0] 25) ∧ (w20).drew.heap[g1]? = some (.cells #[.int .u64 (cur.1 : Nat), .int .u64 (cur.2 : Nat)] 25) ∧ (w20).drew.cell? ⟨w.heap.size, 0, none⟩ = some (.int .u64 0) ∧ (w20).drew.cell? ⟨w.heap.size, 1, none⟩ = some (.int .u64 0) ∧ (w20).drew.cell? ⟨g1, 0, none⟩ = some (.int .u64 (cur.1 : Nat)) ∧ (w20).drew.cell? ⟨g1, 1, none⟩ = some (.int .u64 (cur.2 : Nat)) ∧ (w20).drew.cell? ⟨g, z + (k + 1) * 2, none⟩ = some (.int .u64 (q.1 : Nat)) ∧ (w20).drew.cell? ⟨g, z + (k + 1) * 2 + 1, none⟩ = some (.int .u64 (q.2 : Nat)) := ⟨B20.drew, Aa, Ab, cell7 (Aa) 0 _ rfl, cell7 (Aa) 1 _ rfl, cell7 (Ab) 0 _ rfl, cell7 (Ab) 1 _ rfl, e0, e1⟩
   clear B20 Aa Ad Ae Ab Aj Ak
   go_wp2_with fail
   apply cut7
   ·
    intro key0
    have key := box key0
    clear key0
    go_region_held3 (fun W => Below w.heap.size w W ∧ W.heap[w.heap.size]? = some (.cells #[.int .u64 0, .int .u64 0] 25) ∧ W.heap[g1]? = some (.cells #[.int .u64 (cur.1 : Nat), .int .u64 (cur.2 : Nat)] 25) ∧ W.cell? ⟨w.heap.size, 0, none⟩ = some (.int .u64 0) ∧ W.cell? ⟨w.heap.size, 1, none⟩ = some (.int .u64 0) ∧ W.cell? ⟨g1, 0, none⟩ = some (.int .u64 (cur.1 : Nat)) ∧ W.cell? ⟨g1, 1, none⟩ = some (.int .u64 (cur.2 : Nat)) ∧ W.cell? ⟨g, z + (k + 1) * 2, none⟩ = some (.int .u64 (q.1 : Nat)) ∧ W.cell? ⟨g, z + (k + 1) * 2 + 1, none⟩ = some (.int .u64 (q.2 : Nat))) (first | exact s1 | exact s0 | exact sS.out _ _ s1 (bal _ _) | exact sS.out _ _ s0 (bal _ _) | exact sT.out _ _ _ _ s1 hl)
     (first | (go_at_call 41; (first | refine (KQ.out _).mono ?_ | refine (KQ.out _).mono ?_); rintro r wq ⟨rfl, bq⟩; (first | (have hg := heap_of bq _ _ _ (heap_alloc_last _ _); have hl := (by first | exact sL.out _ s1 | exact sL.out _ s0)) | have hg := heap_of bq _ _ _ hg | skip); (try simp only [size_dr, size_al] at hg hl); (first | (have Aq := fz (k := 0) hg; have Ar := fz (k := 1) hg; have As := cell7 hg 0 _ rfl; have At := cell7 hg 1 _ rfl) | skip); have s2 := (by first | exact sS.out _ _ s1 bq | exact sS.out _ _ s0 bq | exact sS.out _ _ (sS.out _ _ s1 (bal _ _)) bq | exact sS.out _ _ (sS.out _ _ s0 (bal _ _)) bq); (try clear s1); have s1 := s2; clear s2 bq) | fail)
    all_goals
     refine gen_abacusref12_Product_12 (R := fun W gN => (Below w.heap.size w W ∧ W.heap[w.heap.size]? = some (.cells #[.int .u64 0, .int .u64 0] 25) ∧ W.heap[g1]? = some (.cells #[.int .u64 (cur.1 : Nat), .int .u64 (cur.2 : Nat)] 25) ∧ W.cell? ⟨w.heap.size, 0, none⟩ = some (.int .u64 0) ∧ W.cell? ⟨w.heap.size, 1, none⟩ = some (.int .u64 0) ∧ W.cell? ⟨g1, 0, none⟩ = some (.int .u64 (cur.1 : Nat)) ∧ W.cell? ⟨g1, 1, none⟩ = some (.int .u64 (cur.2 : Nat)) ∧ W.cell? ⟨g, z + (k + 1) * 2, none⟩ = some (.int .u64 (q.1 : Nat)) ∧ W.cell? ⟨g, z + (k + 1) * 2 + 1, none⟩ = some (.int .u64 (q.2 : Nat))) ∧ W.heap[gN]? = some (.cells #[.int .u64 n1, .int .u64 n2] 25) ∧ (w.heap.size < gN ∧ g1 < gN ∧ g < gN)) key.out ?_
     first
      | exact ⟨(sT.out _ _ _ _ s1 hl), set2_row hg _ _, hl⟩
      | exact ⟨sS.out _ _ s1 (bal _ _), heap_alloc_last _ _, sL.out _ s1⟩
      | exact ⟨sS.out _ _ s0 (bal _ _), heap_alloc_last _ _, sL.out _ s0⟩
   rintro w21 g21 ⟨s1, Al, l21⟩
   have B21 := And.left s1
   have Am := s1.2.1
   have Af := s1.2.2.1
   have H21 := box l21
   clear s0 s1 sS sL sT l21
   obtain ⟨Au, Av⟩ := cells2s Am
   obtain ⟨Aw, Ax⟩ := cells2s Af
   obtain ⟨Ay, Az⟩ := cells2s Al
   have q0_22 := fz (k := 0) Af
   have q1_22 := fz (k := 1) Af
   have B22 := set2_below B21 (show w.heap.size ≤ g1 by first | exact Nat.le_refl _ | omega | (have := H21.out; omega)) (.int .u64 n1) (.int .u64 n2)
   have An : ((w21.setCell ⟨g1, 0, none⟩ (.int .u64 n1)).setCell ⟨g1, 1, none⟩ (.int .u64 n2)).heap[g1]? = some (.cells #[.int .u64 n1, .int .u64 n2] 25) := set2_row Af _ _
   have Ao : ((w21.setCell ⟨g1, 0, none⟩ (.int .u64 n1)).setCell ⟨g1, 1, none⟩ (.int .u64 n2)).heap[w.heap.size]? = some (.cells #[.int .u64 0, .int .u64 0] 25) := (setCell_other (by first | omega | (have := H21.out; omega))).trans ((setCell_other (by first | omega | (have := H21.out; omega))).trans Am)
   have Ap : ((w21.setCell ⟨g1, 0, none⟩ (.int .u64 n1)).setCell ⟨g1, 1, none⟩ (.int .u64 n2)).heap[g21]? = some (.cells #[.int .u64 n1, .int .u64 n2] 25) := (setCell_other (by first | omega | (have := H21.out; omega))).trans ((setCell_other (by first | omega | (have := H21.out; omega))).trans Al)
   obtain ⟨AA, AB⟩ := cells2s Ao
   obtain ⟨AC, AD⟩ := cells2s An
   obtain ⟨AE, AF⟩ := cells2s Ap
   go_wp2
   go_roundw
   case rel => exact ⟨k + 1, (n1, n2), _, by omega, by go_num, rfl, B22, Ao, An, FTK⟩
   case measure => simp [intOf] <;> omega
  ·
   obtain rfl : k = L := by omega
   have e : (cur, a) = (rp, ra) := by rw [← HR.out, ← HA.out, ← HL.out, List.take_length]
   injection e with ec ea
   subst ec ea
   have dl : decide (((k + 1 : Nat) : Int) < (k : Int) + 1) = false := by rw [decide_eq_false_iff_not]; omega
   clear HA HC KT HR
   obtain ⟨Ad, Ae⟩ := cells2s Aa
   obtain ⟨Ad, Ae⟩ := cells2s Aa
   obtain ⟨Aj, Ak⟩ := cells2s Ab
   have q0 := fz (k := 0) Aa
   have q1 := fz (k := 1) Aa
   obtain ⟨E0, E1⟩ := set2_cells Aa (.int .u64 (cur.1 : Nat)) (.int .u64 (cur.2 : Nat))
   go_wp2
   exact bodyPost_ret (v := .tuple #[.agg #[.int .u64 (cur.1 : Nat), .int .u64 (cur.2 : Nat)], .int .u8 a, .int .i64 0]) (by simp [results, Tryz.results44, go_sem, E0, E1]) rfl ⟨rfl, set2_below B20 (by first | exact Nat.le_refl _ | omega | (skip; omega)) _ _⟩
theorem blsL_len (l : List (Nat × Nat)) : (l.flatMap fun p => [Value.int .u64 (p.1 : Nat), Value.int .u64 (p.2 : Nat)]).length = l.length * 2 := by
 induction l with
 | nil => rfl
 | cons a t ih => simp only [List.flatMap_cons, List.length_append, List.length_cons, List.length_nil]; omega
theorem blsL_cell (l : List (Nat × Nat)) (j : Nat) (u : Value) (h : (l.flatMap fun p => [Value.int .u64 (p.1 : Nat), Value.int .u64 (p.2 : Nat)])[j]? = some u) : ∃ p, l[j / 2]? = some p ∧ u = if j % 2 = 0 then .int .u64 (p.1 : Nat) else .int .u64 (p.2 : Nat) := by
 induction l generalizing j with
 | nil => simp at h
 | cons a t ih =>
  match j, h with
  | 0, h => simp at h; exact ⟨a, rfl, h.symm⟩
  | 1, h => simp at h; exact ⟨a, rfl, h.symm⟩
  | j + 2, h =>
   have := ih j (by simpa using h)
   rw [show (j + 2) / 2 = j / 2 + 1 by omega, show (j + 2) % 2 = j % 2 by omega, List.getElem?_cons_succ]
   exact this
theorem ml_law (f m : Int) (l : List (Nat × Nat)) (L g z c : Nat) (w : World) (hl : l.length = L) (hL : L ≤ 60) (h1 : 1 ≤ L) (hc : L ≤ c)
  (HC : Box (∀ W, Below w.heap.size w W → ∀ k p, l[k]? = some p → W.cell? ⟨g, z + k * 2, none⟩ = some (.int .u64 (p.1 : Nat)) ∧ W.cell? ⟨g, z + k * 2 + 1, none⟩ = some (.int .u64 (p.2 : Nat))))
  (u v : Nat) (fl e : Int) (he : IntKind.i64.wrap e = e)
  (KP : Box (∀ W gk ck, L ≤ ck → FAt W → (∀ V, Below W.heap.size W V → ∀ k p, l[k]? = some p → V.cell? ⟨gk, 0 + k * 2, none⟩ = some (.int .u64 (p.1 : Nat)) ∧ V.cell? ⟨gk, 0 + k * 2 + 1, none⟩ = some (.int .u64 (p.2 : Nat))) → Calls Tryz.prog 43 #[.int .u8 f, .int .u8 m, .slice (some ⟨gk, 0, none⟩) L ck] W fun r w2 => r = .returned (.tuple #[.agg #[.int .u64 u, .int .u64 v], .int .u8 fl, .int .i64 e]) ∧ Below W.heap.size W w2))
  (KQ : Box (∀ W, Below w.heap.size w W → Calls Tryz.prog 44 #[.int .u8 f, .int .u8 m, .slice (some ⟨g, z, none⟩) L c] W fun r w2 => r = .returned (.tuple #[.agg #[.int .u64 u, .int .u64 v], .int .u8 fl, .int .i64 e]) ∧ Below W.heap.size W w2))
  (KA : Box (∀ w, FAt w → Calls Tryz.prog 42 #[] w fun r w' => r = .returned (.bool true) ∧ Below w.heap.size w w')) (hT : FAt w) : Calls Tryz.prog 9 #[.int .u8 f, .int .u8 m, .slice (some ⟨g, z, none⟩) L c] w fun r w' => r = .returned (.bool true) ∧ Below w.heap.size w w' := by
 have FF := box hT
 have HL := box hl
 clear hl hT
 have d1 : decide ((60 : Int) < (L : Int)) = false := decide_eq_false (by omega)
 have hlen := blsL_len l
 rw [HL.out] at hlen
 have hb := fun j u (h : (l.flatMap fun p => [Value.int .u64 (p.1 : Nat), Value.int .u64 (p.2 : Nat)])[j]? = some u) => blsL_cell l j u h
 have info : (Tryz.prog.info? 25).map (fun i => (i.zero, i.size, i.bytes)) = some (some (.agg #[.int .u64 0, .int .u64 0]), 2, 16) := by kernel_rfl
 obtain ⟨i0, hi, hz0, hz1, hz2⟩ := info_parts info
 go_enter Tryz.func9, Tryz.ntmps9
 go_wp2_with (at_builtin; refine wpList_append_grows _ rfl (.const (.slice none 0 0)) (.tmp 19) 65 rfl 25 i0 (.agg #[.int .u64 0, .int .u64 0]) 2 16 Tryz.underlying65 hi hz0 hz1 hz2 rfl (by decide) none 0 0 [] rfl (fun _ => ⟨rfl, rfl⟩) rfl (by intro _ _ _ _ h; simp at h) ⟨g, z, none⟩ L c (l.flatMap fun p => [Value.int .u64 (p.1 : Nat), Value.int .u64 (p.2 : Nat)]) rfl hlen ?c1 ?c2 ?full ?b1 ?b2 ?grow)
 case c1 =>
  intro j u hj
  obtain ⟨p, hp, rfl⟩ := hb j u hj
  obtain ⟨q0, q1⟩ := HC.out w (Below.refl _ _) (j / 2) p hp
  rw [show ({ block := g, off := z, spot := none } : Addr).add j = ⟨g, z + j, none⟩ by simp [Addr.add]]
  by_cases c0 : j % 2 = 0
  ·
   rw [if_pos c0, show z + j = z + j / 2 * 2 by omega]
   exact q0
  ·
   rw [if_neg c0, show z + j = z + j / 2 * 2 + 1 by omega]
   exact q1
 case c2 =>
  intro u hu
  obtain ⟨j, hj⟩ := List.mem_iff_getElem?.1 hu
  obtain ⟨p, hp, rfl⟩ := hb j u hj
  split <;> rfl
 case full => omega
 case b1 => unfold maxLen; omega
 case b2 => omega
 case grow =>
  intro v' w' hown hgrow
  obtain ⟨_, ⟨_, hn0⟩ | ⟨gk, ck, cur, rfl, hgk, rowk, hck, _, hsz, htk⟩⟩ := hown
  ·
   omega
  have bg : Below w.heap.size w w' := (Below.refl _ _).grown hgrow (Nat.le_refl _) (fun k h => by cases h)
  have HK : Box (∀ W, Below w'.heap.size w' W → ∀ k p, l[k]? = some p → W.cell? ⟨gk, 0 + k * 2, none⟩ = some (.int .u64 (p.1 : Nat)) ∧ W.cell? ⟨gk, 0 + k * 2 + 1, none⟩ = some (.int .u64 (p.2 : Nat))) := box (fun W bW k p hp => by
   have r2 := heap_of bW _ _ _ rowk
   obtain ⟨a1, a2⟩ := bls_at l k p hp
   unfold bls at a1 a2
   rw [List.getElem?_toArray] at a1 a2
   have kl : k < L := by
    rw [← HL.out]
    exact (List.getElem?_eq_some_iff.1 hp).1
   have tk : ∀ j v, j < L * 2 → (l.flatMap fun p => [Value.int .u64 (p.1 : Nat), Value.int .u64 (p.2 : Nat)])[j]? = some v → cur[j]? = some v := fun j v hj hv => by
    rw [← htk, List.getElem?_take_of_lt hj] at hv
    rw [← Array.getElem?_toList]
    exact hv
   rw [Nat.zero_add]
   exact ⟨(cell_of_row W gk (k * 2) _ _ _ r2).trans (tk _ _ (by omega) a1), (cell_of_row W gk (k * 2 + 1) _ _ _ r2).trans (tk _ _ (by omega) a2)⟩)
  go_wp2_with fail
  refine (KP.out w' gk ck hck (fatB FF.out bg) HK.out).mono ?_
  rintro r w1 ⟨rfl, b1⟩
  have b2 := bal w1 (.cells #[.int .u64 u, .int .u64 v] 25)
  have Aa := heap_alloc_last w1 (.cells #[.int .u64 u, .int .u64 v] 25)
  have bx := btr b1 b2
  go_wp2_with fail
  refine (KQ.out _ (btr bg bx)).mono ?_
  rintro r w3 ⟨rfl, b3⟩
  have Ab := heap_of b3 _ _ _ Aa
  have b4 := bal w3 (.cells #[.int .u64 u, .int .u64 v] 25)
  have Ac := heap_alloc_last w3 (.cells #[.int .u64 u, .int .u64 v] 25)
  have Ad := heap_of b4 _ _ _ Ab
  have by4 := btr bx (btr b3 b4)
  have B4 := btr bg by4
  obtain ⟨V, hV⟩ : ∃ V, w3.alloc (.cells #[.int .u64 u, .int .u64 v] 25) = V := ⟨_, rfl⟩
  go_wp2
  rw [hV] at Ad Ac by4 B4
  clear hV Ab Aa b4 b3 b2 b1 bx KP KQ hlen hb info hi hz0 hz1 hz2 hgrow hsz htk rowk
  go_loopw [14] (fun iv wr => ∃ k : Nat, k ≤ L ∧ iv = .int .i64 k ∧ Below V.heap.size V wr) (fun iv _ => L - (intOf iv).toNat)
  case atStart => exact ⟨0, by omega, rfl, Below.refl _ _⟩
  case round =>
   obtain ⟨k, hk, rfl, B20⟩ := hrel
   by_cases hlt : k < L
   ·
    obtain ⟨p, hp⟩ : ∃ p, l[k]? = some p := ⟨_, List.getElem?_eq_getElem (by rw [HL.out]; exact hlt)⟩
    obtain ⟨a0, a1⟩ := HK.out _ (btr by4 B20) k p hp
    obtain ⟨q0, q1⟩ := HC.out _ (btr B4 B20) k p hp
    rw [Nat.zero_add] at a0 a1
    have dl : decide ((k : Int) < (L : Int)) = true := decide_eq_true (by omega)
    have hb0 : (0 : Int) ≤ (k : Int) := by omega
    have hb1 : (k : Int) < (L : Int) := by omega
    clear hp
    go_wp2_with fail
    go_quiet (fail)
    obtain ⟨w21, hw, B21, hh⟩ := quiet_world B20 nq
    rw [hw]
    go_wp2
    go_roundw
    case rel => exact ⟨k + 1, by omega, by go_num, B21⟩
    case measure => simp [intOf] <;> omega
   ·
    obtain rfl : k = L := by omega
    have dl : decide ((k : Int) < (k : Int)) = false := by rw [decide_eq_false_iff_not]; omega
    obtain ⟨x0, x1⟩ := cells2s (heap_of B20 _ _ _ Ad)
    obtain ⟨y0, y1⟩ := cells2s (heap_of B20 _ _ _ Ac)
    go_wp2_with fail
    refine (KA.out _ (fatB FF.out (btr B4 B20))).mono ?_
    rintro r w5 ⟨rfl, b5⟩
    go_wp2
    go_ret
    exact ⟨rfl, btr (btr B4 B20) b5⟩
theorem pr_no (f m : Int) (sl : Value) (w : World) (KM : Box (∀ W, Below w.heap.size w W → FAt W → Calls Tryz.prog 75 #[.int .u8 f, .int .u8 m, sl] W fun r w' => r = .returned (.bool false) ∧ Below W.heap.size W w')) (hT : FAt w) : Calls Tryz.prog 43 #[.int .u8 f, .int .u8 m, sl] w fun r w' => r = .returned (.tuple #[.agg #[.int .u64 0, .int .u64 0], .int .u8 0, .int .i64 2]) ∧ Below w.heap.size w w' := by
 have FF := box hT
 clear hT
 obtain ⟨Ab, B0⟩ := opn1 w (Obj.cells #[.int .u64 0, .int .u64 0] 25)
 go_enter Tryz.func43, Tryz.ntmps43
 go_wp2_with fail
 refine (KM.out _ B0 (fatB FF.out B0)).mono ?_
 rintro r w1 ⟨rfl, b1⟩
 have B1 := btr B0 b1
 have Aa := heap_of b1 _ _ _ Ab
 clear b1 B0 Ab
 obtain ⟨Ac, Ad⟩ := cells2s Aa
 have q0 := fz (k := 0) Aa
 have q1 := fz (k := 1) Aa
 obtain ⟨E0, E1⟩ := set2_cells Aa (.int .u64 0) (.int .u64 0)
 go_wp2
 exact bodyPost_ret (v := .tuple #[.agg #[.int .u64 0, .int .u64 0], .int .u8 0, .int .i64 2]) (by simp [results, Tryz.results43, go_sem, E0, E1]) rfl ⟨rfl, set2_below B1 (by first | exact Nat.le_refl _ | omega | (skip; omega)) _ _⟩
theorem rpr_no (f m : Int) (sl : Value) (w : World) (KM : Box (∀ W, Below w.heap.size w W → Calls Tryz.prog 77 #[.int .u8 f, .int .u8 m, sl] W fun r w' => r = .returned (.bool false) ∧ Below W.heap.size W w')) : Calls Tryz.prog 44 #[.int .u8 f, .int .u8 m, sl] w fun r w' => r = .returned (.tuple #[.agg #[.int .u64 0, .int .u64 0], .int .u8 0, .int .i64 2]) ∧ Below w.heap.size w w' := by
 obtain ⟨Ab, B0⟩ := opn1 w (Obj.cells #[.int .u64 0, .int .u64 0] 25)
 go_enter Tryz.func44, Tryz.ntmps44
 go_wp2_with fail
 refine (KM.out _ B0).mono ?_
 rintro r w1 ⟨rfl, b1⟩
 have B1 := btr B0 b1
 have Aa := heap_of b1 _ _ _ Ab
 clear b1 B0 Ab
 obtain ⟨Ac, Ad⟩ := cells2s Aa
 have q0 := fz (k := 0) Aa
 have q1 := fz (k := 1) Aa
 obtain ⟨E0, E1⟩ := set2_cells Aa (.int .u64 0) (.int .u64 0)
 go_wp2
 exact bodyPost_ret (v := .tuple #[.agg #[.int .u64 0, .int .u64 0], .int .u8 0, .int .i64 2]) (by simp [results, Tryz.results44, go_sem, E0, E1]) rfl ⟨rfl, set2_below B1 (by first | exact Nat.le_refl _ | omega | (skip; omega)) _ _⟩
theorem pr_empty (f m : Int) (u v : Nat) (fl : Int) (w : World) (KM : Box (∀ w, FAt w → Calls Tryz.prog 75 #[.int .u8 f, .int .u8 m, .slice none 0 0] w fun r w' => r = .returned (.bool true) ∧ Below w.heap.size w w'))
  (KO : Box (∀ w, Calls Tryz.prog 94 #[.int .u64 1] w fun r w' => r = .returned (.agg (cw 6 1)) ∧ Below w.heap.size w w')) (KP : Box (∀ w, FAt w → Calls Tryz.prog 93 #[.int .u8 f, .int .u8 m, .agg (rg false 1 0 false)] w fun r w' => r = .returned (.tuple #[.agg #[.int .u64 u, .int .u64 v], .int .u8 fl, .int .i64 0]) ∧ Below w.heap.size w w'))
  (hT : FAt w) : Calls Tryz.prog 43 #[.int .u8 f, .int .u8 m, .slice none 0 0] w fun r w' => r = .returned (.tuple #[.agg #[.int .u64 u, .int .u64 v], .int .u8 fl, .int .i64 0]) ∧ Below w.heap.size w w' := by
 have FF := box hT
 clear hT
 have hat := cw_at 6
 have hz := cw6z
 have hff := cw6f
 have hs0 := st0
 have hcs : ∀ x, ((cw 6 x).size = 6) = True := fun x => eq_true (cw_size 6 x)
 have hp1 := rgf
 have hp3 := rgz
 have hzi := cw_zip
 have hls := rg_sets
 have hp5 : ∀ (c : Bool) (s : Nat) (x : Int) (r : Bool), ((rg c s x r).size = 9) = True := fun _ _ _ _ => eq_true rfl
 obtain ⟨Ad, B0⟩ := opn1 w (Obj.cells #[.int .u64 0, .int .u64 0] 25)
 go_enter Tryz.func43, Tryz.ntmps43
 go_wp2_with fail
 refine (KM.out _ (fatB FF.out B0)).mono ?_
 rintro r w1 ⟨rfl, b1⟩
 have B1 := btr B0 b1
 have Ab := heap_of b1 _ _ _ Ad
 clear b1 B0 Ad
 obtain ⟨Ae, Af⟩ := cells2s Ab
 go_wp2_with fail
 refine (KO.out _).mono ?_
 rintro r w2 ⟨rfl, b2⟩
 have B2 := btr B1 b2
 have Ac := heap_of b2 _ _ _ Ab
 clear b2 B1 Ab Ae Af
 obtain ⟨Ag, Ah⟩ := cells2s Ac
 go_wp2_with fail
 refine (KP.out _ (fatB FF.out B2)).mono ?_
 rintro r w3 ⟨rfl, b3⟩
 have B3 := btr B2 b3
 have Aa := heap_of b3 _ _ _ Ac
 clear b3 B2 Ac Ag Ah
 obtain ⟨Ai, Aj⟩ := cells2s Aa
 have q0 := fz (k := 0) Aa
 have q1 := fz (k := 1) Aa
 obtain ⟨E0, E1⟩ := set2_cells Aa (.int .u64 u) (.int .u64 v)
 go_wp2
 exact bodyPost_ret (v := .tuple #[.agg #[.int .u64 u, .int .u64 v], .int .u8 fl, .int .i64 0]) (by simp [results, Tryz.results43, go_sem, E0, E1]) rfl ⟨rfl, set2_below B3 (by first | exact Nat.le_refl _ | omega | (skip; omega)) _ _⟩
theorem rpr_empty (f m : Int) (u v : Nat) (sl : Option Addr) (c : Nat) (w : World) (KM : Box (∀ w, Calls Tryz.prog 77 #[.int .u8 f, .int .u8 m, .slice sl 0 c] w fun r w' => r = .returned (.bool true) ∧ Below w.heap.size w w'))
  (KO : Box (∀ w, Calls Tryz.prog 95 #[.int .u8 f, .bool false] w fun r w' => r = .returned (.agg #[.int .u64 u, .int .u64 v]) ∧ Below w.heap.size w w')) : Calls Tryz.prog 44 #[.int .u8 f, .int .u8 m, .slice sl 0 c] w fun r w' => r = .returned (.tuple #[.agg #[.int .u64 u, .int .u64 v], .int .u8 0, .int .i64 0]) ∧ Below w.heap.size w w' := by
 obtain ⟨Ac, B0⟩ := opn1 w (Obj.cells #[.int .u64 0, .int .u64 0] 25)
 go_enter Tryz.func44, Tryz.ntmps44
 go_wp2_with fail
 refine (KM.out _).mono ?_
 rintro r w1 ⟨rfl, b1⟩
 have B1 := btr B0 b1
 have Ab := heap_of b1 _ _ _ Ac
 clear b1 B0 Ac
 obtain ⟨Ad, Ae⟩ := cells2s Ab
 go_wp2_with fail
 refine (KO.out _).mono ?_
 rintro r w2 ⟨rfl, b2⟩
 have B2 := btr B1 b2
 have Aa := heap_of b2 _ _ _ Ab
 clear b2 B1 Ab Ad Ae
 obtain ⟨Af, Ag⟩ := cells2s Aa
 have q0 := fz (k := 0) Aa
 have q1 := fz (k := 1) Aa
 obtain ⟨E0, E1⟩ := set2_cells Aa (.int .u64 u) (.int .u64 v)
 go_wp2
 exact bodyPost_ret (v := .tuple #[.agg #[.int .u64 u, .int .u64 v], .int .u8 0, .int .i64 0]) (by simp [results, Tryz.results44, go_sem, E0, E1]) rfl ⟨rfl, set2_below B2 (by first | exact Nat.le_refl _ | omega | (skip; omega)) _ _⟩
theorem mll_long (f m : Int) (a : Addr) (L c : Nat) (w : World) (h : 60 < L) (KA : Box (∀ w, FAt w → Calls Tryz.prog 42 #[] w fun r w' => r = .returned (.bool true) ∧ Below w.heap.size w w')) (hT : FAt w) : Calls Tryz.prog 9 #[.int .u8 f, .int .u8 m, .slice (some a) L c] w fun r w' => r = .returned (.bool true) ∧ Below w.heap.size w w' := by
 have FF := box hT
 have d1 : decide ((60 : Int) < (L : Int)) = true := decide_eq_true (by omega)
 clear hT h
 have B0 : Below w.heap.size w w := (Below.refl _ _)
 go_enter Tryz.func9, Tryz.ntmps9
 go_wp2_with fail
 refine (KA.out _ (fatB FF.out B0)).mono ?_
 rintro r w1 ⟨rfl, b1⟩
 have B1 := btr B0 b1
 clear b1 B0 
 go_wp2
 go_ret
 exact ⟨rfl, B1⟩
theorem mll_nil (f m : Int) (c : Nat) (u v : Nat) (fl e : Int) (he : IntKind.i64.wrap e = e) (w : World) (KP : Box (∀ w, FAt w → Calls Tryz.prog 43 #[.int .u8 f, .int .u8 m, .slice none 0 0] w fun r w' => r = .returned (.tuple #[.agg #[.int .u64 u, .int .u64 v], .int .u8 fl, .int .i64 e]) ∧ Below w.heap.size w w'))
  (KQ : Box (∀ w, Calls Tryz.prog 44 #[.int .u8 f, .int .u8 m, .slice none 0 0] w fun r w' => r = .returned (.tuple #[.agg #[.int .u64 u, .int .u64 v], .int .u8 fl, .int .i64 e]) ∧ Below w.heap.size w w')) (KA : Box (∀ w, FAt w → Calls Tryz.prog 42 #[] w fun r w' => r = .returned (.bool true) ∧ Below w.heap.size w w')) (hT : FAt w) : Calls Tryz.prog 9 #[.int .u8 f, .int .u8 m, .slice none 0 0] w fun r w' => r = .returned (.bool true) ∧ Below w.heap.size w w' := by
 have FF := box hT
 clear hT
 have B0 : Below w.heap.size w w := (Below.refl _ _)
 go_enter Tryz.func9, Tryz.ntmps9
 go_wp2_with fail
 refine (KP.out _ (fatB FF.out B0)).mono ?_
 rintro r w1 ⟨rfl, b1⟩
 have B1 := btr B0 b1
 clear b1 B0 
 have S2 := box B1.size
 have Ab := heap_alloc_last w1 (Obj.cells #[.int .u64 u, .int .u64 v] 25)
 have B2 := btr B1 (bal w1 (Obj.cells #[.int .u64 u, .int .u64 v] 25))
 clear B1 
 obtain ⟨Ae, Af⟩ := cells2s Ab
 go_wp2_with fail
 refine (KQ.out _).mono ?_
 rintro r w3 ⟨rfl, b3⟩
 have B3 := btr B2 b3
 have Aa := heap_of b3 _ _ _ Ab
 clear b3 B2 Ab Ae Af
 obtain ⟨Ag, Ah⟩ := cells2s Aa
 have S4 := box B3.size
 have Ai := ltR Aa
 have Ac := heap_alloc_last w3 (Obj.cells #[.int .u64 u, .int .u64 v] 25)
 have B4 := btr B3 (bal w3 (Obj.cells #[.int .u64 u, .int .u64 v] 25))
 have Ad := heap_of (bal w3 (Obj.cells #[.int .u64 u, .int .u64 v] 25)) _ _ _ Aa
 clear B3 Aa Ag Ah
 obtain ⟨Aj, Ak⟩ := cells2s Ad
 obtain ⟨Al, Am⟩ := cells2s Ac
 obtain ⟨V, hV⟩ : ∃ V, w3.alloc (.cells #[.int .u64 u, .int .u64 v] 25) = V := ⟨_, rfl⟩
 go_wp2
 rw [hV] at Ad Ac B4
 clear hV
 go_loopw [14] (fun iv wr => iv = .int .i64 0 ∧ wr = V) (fun _ _ => 0)
 case atStart => exact ⟨rfl, rfl⟩
 case round =>
  obtain ⟨rfl, rfl⟩ := hrel
  obtain ⟨x0, x1⟩ := cells2s Ad
  obtain ⟨y0, y1⟩ := cells2s Ac
  go_wp2_with fail
  refine (KA.out _ (fatB FF.out B4)).mono ?_
  rintro r w5 ⟨rfl, b5⟩
  go_wp2
  go_ret
  exact ⟨rfl, btr B4 b5⟩
theorem mll_nul (f m : Int) (a : Addr) (c : Nat) (u v : Nat) (fl e : Int) (he : IntKind.i64.wrap e = e) (w : World) (KP : Box (∀ w, FAt w → Calls Tryz.prog 43 #[.int .u8 f, .int .u8 m, .slice none 0 0] w fun r w' => r = .returned (.tuple #[.agg #[.int .u64 u, .int .u64 v], .int .u8 fl, .int .i64 e]) ∧ Below w.heap.size w w'))
  (KQ : Box (∀ w, Calls Tryz.prog 44 #[.int .u8 f, .int .u8 m, .slice (some a) 0 c] w fun r w' => r = .returned (.tuple #[.agg #[.int .u64 u, .int .u64 v], .int .u8 fl, .int .i64 e]) ∧ Below w.heap.size w w')) (KA : Box (∀ w, FAt w → Calls Tryz.prog 42 #[] w fun r w' => r = .returned (.bool true) ∧ Below w.heap.size w w')) (hT : FAt w) : Calls Tryz.prog 9 #[.int .u8 f, .int .u8 m, .slice (some a) 0 c] w fun r w' => r = .returned (.bool true) ∧ Below w.heap.size w w' := by
 have FF := box hT
 clear hT
 have B0 : Below w.heap.size w w := (Below.refl _ _)
 go_enter Tryz.func9, Tryz.ntmps9
 go_wp2_with fail
 refine (KP.out _ (fatB FF.out B0)).mono ?_
 rintro r w1 ⟨rfl, b1⟩
 have B1 := btr B0 b1
 clear b1 B0 
 have S2 := box B1.size
 have Ab := heap_alloc_last w1 (Obj.cells #[.int .u64 u, .int .u64 v] 25)
 have B2 := btr B1 (bal w1 (Obj.cells #[.int .u64 u, .int .u64 v] 25))
 clear B1 
 obtain ⟨Ae, Af⟩ := cells2s Ab
 go_wp2_with fail
 refine (KQ.out _).mono ?_
 rintro r w3 ⟨rfl, b3⟩
 have B3 := btr B2 b3
 have Aa := heap_of b3 _ _ _ Ab
 clear b3 B2 Ab Ae Af
 obtain ⟨Ag, Ah⟩ := cells2s Aa
 have S4 := box B3.size
 have Ai := ltR Aa
 have Ac := heap_alloc_last w3 (Obj.cells #[.int .u64 u, .int .u64 v] 25)
 have B4 := btr B3 (bal w3 (Obj.cells #[.int .u64 u, .int .u64 v] 25))
 have Ad := heap_of (bal w3 (Obj.cells #[.int .u64 u, .int .u64 v] 25)) _ _ _ Aa
 clear B3 Aa Ag Ah
 obtain ⟨Aj, Ak⟩ := cells2s Ad
 obtain ⟨Al, Am⟩ := cells2s Ac
 obtain ⟨V, hV⟩ : ∃ V, w3.alloc (.cells #[.int .u64 u, .int .u64 v] 25) = V := ⟨_, rfl⟩
 go_wp2
 rw [hV] at Ad Ac B4
 clear hV
 go_loopw [14] (fun iv wr => iv = .int .i64 0 ∧ wr = V) (fun _ _ => 0)
 case atStart => exact ⟨rfl, rfl⟩
 case round =>
  obtain ⟨rfl, rfl⟩ := hrel
  obtain ⟨x0, x1⟩ := cells2s Ad
  obtain ⟨y0, y1⟩ := cells2s Ac
  go_wp2_with fail
  refine (KA.out _ (fatB FF.out B4)).mono ?_
  rintro r w5 ⟨rfl, b5⟩
  go_wp2
  go_ret
  exact ⟨rfl, btr B4 b5⟩
theorem may_nil (f m : Int) (pu pv : Nat) (fl : Int) (w : World) (KP : Box (∀ w, FAt w → Calls Tryz.prog 93 #[.int .u8 f, .int .u8 m, .agg (rg false 0 0 false)] w fun r w' => r = .returned (.tuple #[.agg #[.int .u64 pu, .int .u64 pv], .int .u8 fl, .int .i64 0]) ∧ Below w.heap.size w w')) (hT : FAt w) : Calls Tryz.prog 75 #[.int .u8 f, .int .u8 m, .slice none 0 0] w fun r w' => r = .returned (.bool true) ∧ Below w.heap.size w w' := by
 have FF := box hT
 clear hT
 have hp3 := rgz
 go_enter Tryz.func75, Tryz.ntmps75
 go_wp2_with fail
 refine (KP.out _ FF.out).mono ?_
 rintro r w1 ⟨rfl, b1⟩
 have BP := btr b1 (bal w1 (.cells #[.int .u64 pu, .int .u64 pv] 25))
 obtain ⟨V, hV⟩ : ∃ V, w1.alloc (.cells #[.int .u64 pu, .int .u64 pv] 25) = V := ⟨_, rfl⟩
 go_wp2
 rw [hV] at BP
 clear b1 KP hV
 go_loopw [26] (fun iv wr => iv = .int .i64 0 ∧ wr = V) (fun _ _ => 0)
 case atStart => exact ⟨rfl, rfl⟩
 case round =>
  obtain ⟨rfl, rfl⟩ := hrel
  go_wp2
  go_ret
  exact ⟨rfl, BP⟩
theorem fits_nil (f m : Int) (ao : Option Addr) (c : Nat) (w : World) (KR : Box (∀ w, Calls Tryz.prog 14 #[.int .u8 f] w fun r w' => r = .returned (.bool true) ∧ Below w.heap.size w w')) (KM : Box (∀ w, Calls Tryz.prog 19 #[.int .u8 m] w fun r w' => r = .returned (.bool true) ∧ Below w.heap.size w w')) : Calls Tryz.prog 77 #[.int .u8 f, .int .u8 m, .slice ao 0 c] w fun r w' => r = .returned (.bool true) ∧ Below w.heap.size w w' := by
 go_enter Tryz.func77, Tryz.ntmps77
 go_wp2_with fail
 refine (KR.out _).mono ?_
 rintro r w1 ⟨rfl, b1⟩
 go_wp2_with fail
 refine (KM.out _).mono ?_
 rintro r w2 ⟨rfl, b2⟩
 have BP := btr b1 b2
 clear b1 b2 KR KM
 go_wp2
 go_loopw [7] (fun iv wr => iv = .int .i64 0 ∧ wr = w2) (fun _ _ => 0)
 case atStart => exact ⟨rfl, rfl⟩
 case round =>
  obtain ⟨rfl, rfl⟩ := hrel
  go_wp2
  go_ret
  exact ⟨rfl, BP⟩
end Go.Proofs.YtoaaajeblhaeoaaGreatDoor
namespace Go.Proofs.YtoaaajeblhaeoaaGreatDoor
set_option maxRecDepth 100000
set_option maxHeartbeats 40000000
set_option maxRecDepth 100000
open Go.RowKit WMath XMath
set_option linter.unusedSimpArgs false
set_option linter.unusedVariables false
def nP (p : Nat × Nat) : Nat := p.2 + 18446744073709551616 * p.1
def okE (f : Int) (p : Nat × Nat) : Prop := p.1 < 18446744073709551616 ∧ p.2 < 18446744073709551616 ∧ okB f (nP p) = true
def stP (R : Nat → Nat → Nat × Int) (p q : Nat × Nat) : (Nat × Nat) × Int := (bv7 (R (nP p) (nP q)).1, (R (nP p) (nP q)).2)
theorem stP_ok {f : Int} (hf : Is4 f) (R : Nat → Nat → Nat × Int) (hR : ∀ a b, okB f a = true → okB f b = true → okB f (R a b).1 = true) (p q : Nat × Nat) (hp : okE f p) (hq : okE f q) : okE f (stP R p q).1 := by
 have o := hR _ _ hp.2.2 hq.2.2
 obtain ⟨i1, i2, i3⟩ := bv_lt (ok_lt hf o) (rfl : bv7 (R (nP p) (nP q)).1 = ((bv7 (R (nP p) (nP q)).1).1, (bv7 (R (nP p) (nP q)).1).2))
 have e : nP (stP R p q).1 = (R (nP p) (nP q)).1 := i3
 exact ⟨i1, i2, by rw [e]; exact o⟩
theorem mulR_ok {f : Int} (hf : Is4 f) (m : Int) (a b : Nat) : okB f (mulR f m a b).1 = true := by
 have p := Nat.two_pow_pos (pV f)
 have nan : okB f (eNaN f) = true := fit_ok hf (enc_k hf false (e := oV f) (t := 2 ^ (pV f - 1)) (Nat.le_refl _) (by
  have : 2 ≤ pV f := by rcases hf with rfl | rfl | rfl | rfl <;> decide +kernel
  exact Nat.pow_lt_pow_right (by decide) (by omega))).1
 have e0 : ∀ neg e, e ≤ oV f → okB f (enc7 f neg e 0) = true := fun neg e he => fit_ok hf (enc_k hf neg he p).1
 unfold mulR
 split
 ·
  exact nan
 ·
  split
  ·
   exact nan
  ·
   split
   ·
    exact nan
   ·
    split
    ·
     exact e0 _ _ (Nat.le_refl _)
    ·
     split
     ·
      exact e0 _ _ (Nat.zero_le _)
     ·
      rename_i q1 q2 q3 q4 q5
      have la := kC_lt f a
      have lb := kC_lt f b
      have z : kS f a * kS f b ≠ 0 := mul_ne (k_parts a (by omega)).2.2.2 (k_parts b (by omega)).2.2.2
      obtain ⟨ee, t, fl, h1, h2, h2b, h3, h4⟩ := dlv_enc hf (q_ok (f := f) _ z) m (kN f a != kN f b) (kX f a + kX f b + (blen (kS f a * kS f b) : Int) - 1) (qM (pV f + 1) (kS f a * kS f b) false)
      show okB f (dlv f m (kN f a != kN f b) (kX f a + kX f b + (blen (kS f a * kS f b) : Int) - 1) (qW (pV f + 1) (kS f a * kS f b)) (qM (pV f + 1) (kS f a * kS f b) false)).1 = true
      rw [h3]
      exact fit_ok hf (enc_k hf _ h1 h2).1
theorem kmayL (f m : Int) (h0 : 0 ≤ f) (h1 : f ≤ 255) (m0 : 0 ≤ m) (l : List (Nat × Nat)) (L g z c : Nat) (w : World) (hl : l.length = L) (hL : L ≤ 1000) (hb : Box (∀ p ∈ l, p.1 < 18446744073709551616 ∧ p.2 < 18446744073709551616))
  (HC : Box (∀ W, Below w.heap.size w W → ∀ k p, l[k]? = some p → W.cell? ⟨g, z + k * 2, none⟩ = some (.int .u64 (p.1 : Nat)) ∧ W.cell? ⟨g, z + k * 2 + 1, none⟩ = some (.int .u64 (p.2 : Nat)))) (o : Bool) (ho : (decide (f ≤ 3 ∧ m ≤ 4) && l.all (okP f)) = o) (hT : FAt w) :
  Calls Tryz.prog 75 #[.int .u8 f, .int .u8 m, .slice (some ⟨g, z, none⟩) L c] w fun r w' => r = .returned (.bool o) ∧ Below w.heap.size w w' := by
 by_cases cc : f ≤ 3 ∧ m ≤ 4
 ·
  have hf := is4_of h0 cc.1
  obtain ⟨u, v, hv⟩ : ∃ u v, bv7 (eZero f false) = (u, v) := ⟨_, _, rfl⟩
  exact opg_may f m hf l L g z c w hl hL hb HC u v 0 (box (fun w hT => kPack_zero f m hf ⟨m0, cc.2⟩ false 0 (by decide) (by decide) u v hv w hT)) o (by rw [← ho, decide_eq_true cc, Bool.true_and]) hT
 ·
  have e : o = false := by rw [← ho, decide_eq_false cc]; rfl
  subst e
  exact op_may_no f m 0 0 0 2 _ rfl _ (box (fun w hT => kPack_no f m h0 h1 false 0 Q_pos 0 false (fun q => cc ⟨q.1, q.2.1⟩) w hT)) hT
theorem rfitL (f m : Int) (h0 : 0 ≤ f) (l : List (Nat × Nat)) (L g z c : Nat) (w : World) (hl : l.length = L) (hL : L ≤ 1000) (hb : Box (∀ p ∈ l, p.1 < 18446744073709551616 ∧ p.2 < 18446744073709551616))
  (HC : Box (∀ W, Below w.heap.size w W → ∀ k p, l[k]? = some p → W.cell? ⟨g, z + k * 2, none⟩ = some (.int .u64 (p.1 : Nat)) ∧ W.cell? ⟨g, z + k * 2 + 1, none⟩ = some (.int .u64 (p.2 : Nat)))) (o : Bool) (ho : (decide (f ≤ 3 ∧ m ≤ 4) && l.all (okP f)) = o) :
  Calls Tryz.prog 77 #[.int .u8 f, .int .u8 m, .slice (some ⟨g, z, none⟩) L c] w fun r w' => r = .returned (.bool o) ∧ Below w.heap.size w w' := by
 have KR : Box (∀ w, Calls Tryz.prog 14 #[.int .u8 f] w fun r w' => r = .returned (.bool (decide (f ≤ 3))) ∧ Below w.heap.size w w') := box (fun w => bel_same (r_right f _ rfl w))
 have KM : Box (∀ w, Calls Tryz.prog 19 #[.int .u8 m] w fun r w' => r = .returned (.bool (decide (m ≤ 4))) ∧ Below w.heap.size w w') := box (fun w => bel_same (r_mode m _ rfl w))
 by_cases c1 : f ≤ 3
 ·
  rw [decide_eq_true c1] at KR
  by_cases c2 : m ≤ 4
  ·
   rw [decide_eq_true c2] at KM
   exact rfg_list f m h0 l L g z c w hl hL hb HC KR KM o (by rw [← ho, decide_eq_true (show f ≤ 3 ∧ m ≤ 4 from ⟨c1, c2⟩), Bool.true_and])
  ·
   rw [decide_eq_false c2] at KM
   have e : o = false := by rw [← ho, decide_eq_false (fun q => c2 q.2)]; rfl
   subst e
   exact rf_nom f m _ _ KR KM
 ·
  rw [decide_eq_false c1] at KR
  have e : o = false := by rw [← ho, decide_eq_false (fun q => c1 q.1)]; rfl
  subst e
  exact rf_no f m _ _ KR
theorem both_prods (f m : Int) (h0 : 0 ≤ f) (h1 : f ≤ 255) (m0 : 0 ≤ m) (l : List (Nat × Nat)) (L : Nat) (hl : l.length = L) (hL : L ≤ 60) (hn : 1 ≤ L) (hb : Box (∀ p ∈ l, p.1 < 18446744073709551616 ∧ p.2 < 18446744073709551616)) : ∃ (u v : Nat) (fl e : Int), IntKind.i64.wrap e = e ∧
  Box (∀ W gk ck, L ≤ ck → FAt W → (∀ V, Below W.heap.size W V → ∀ k p, l[k]? = some p → V.cell? ⟨gk, 0 + k * 2, none⟩ = some (.int .u64 (p.1 : Nat)) ∧ V.cell? ⟨gk, 0 + k * 2 + 1, none⟩ = some (.int .u64 (p.2 : Nat))) → Calls Tryz.prog 43 #[.int .u8 f, .int .u8 m, .slice (some ⟨gk, 0, none⟩) L ck] W fun r w2 => r = .returned (.tuple #[.agg #[.int .u64 u, .int .u64 v], .int .u8 fl, .int .i64 e]) ∧ Below W.heap.size W w2) ∧
  Box (∀ W g z c, (∀ V, Below W.heap.size W V → ∀ k p, l[k]? = some p → V.cell? ⟨g, z + k * 2, none⟩ = some (.int .u64 (p.1 : Nat)) ∧ V.cell? ⟨g, z + k * 2 + 1, none⟩ = some (.int .u64 (p.2 : Nat))) → Calls Tryz.prog 44 #[.int .u8 f, .int .u8 m, .slice (some ⟨g, z, none⟩) L c] W fun r w2 => r = .returned (.tuple #[.agg #[.int .u64 u, .int .u64 v], .int .u8 fl, .int .i64 e]) ∧ Below W.heap.size W w2) := by
 cases ho : (decide (f ≤ 3 ∧ m ≤ 4) && l.all (okP f))
 ·
  exact ⟨0, 0, 0, 2, by decide, box (fun W gk ck hck hT HK => pr_no f m _ W (box (fun V bV hV => kmayL f m h0 h1 m0 l L gk 0 ck V hl (by omega) hb (box (fun U bU => HK U (btr bV bU))) false ho hV)) hT),
   box (fun W g z c HC => rpr_no f m _ W (box (fun V bV => rfitL f m h0 l L g z c V hl (by omega) hb (box (fun U bU => HC U (btr bV bU))) false ho)))⟩
 ·
  have hh := ho
  rw [Bool.and_eq_true, decide_eq_true_iff, List.all_eq_true] at hh
  obtain ⟨⟨c1, c2⟩, hall⟩ := hh
  have hf := is4_of h0 c1
  have hm : 0 ≤ m ∧ m ≤ 4 := ⟨m0, c2⟩
  have hok : ∀ p ∈ l, okE f p := fun p hp => ⟨(hb.out p hp).1, (hb.out p hp).2, hall p hp⟩
  have hs : Box (∀ p q, okE f p → okE f q → okE f (stP (mulR f m) p q).1) := box (fun p q hp hq => stP_ok hf (mulR f m) (fun a b ha hb => mulR_ok hf m a b) p q hp hq)
  obtain ⟨p0, t, rfl⟩ : ∃ p0 t, l = p0 :: t := by
   cases l with
   | nil => rw [List.length_nil] at hl; omega
   | cons p0 t => exact ⟨p0, t, rfl⟩
  obtain ⟨rp, ra, hr⟩ : ∃ rp ra, fT (stP (mulR f m)) p0 0 t = (rp, ra) := ⟨_, _, rfl⟩
  obtain ⟨N, rfl⟩ : ∃ N, L = N + 1 := ⟨L - 1, by omega⟩
  have ht : t.length = N := by rw [List.length_cons] at hl; omega
  have okt : Box (∀ p ∈ t, okE f p) := box (fun p hp => hok p (List.mem_cons_of_mem _ hp))
  have ok0 := hok p0 (List.mem_cons_self ..)
  refine ⟨rp.1, rp.2, ra, 0, by decide, box (fun W gk ck hck hT HK => ?_), box (fun W g z c HC => ?_)⟩
  ·
   exact pr_list f m (stP (mulR f m)) (okE f) hs p0 t N gk 0 ck W ht (by omega) ok0 okt (box HK) (box (fun V bV => kmayL f m h0 h1 m0 (p0 :: t) (N + 1) gk 0 ck V hl (by omega) hb (box (fun U bU => HK U (btr bV bU))) true ho (fatB hT bV)))
    (box (fun p q hp hq w hT => ktimes_is f m hf hm p.1 p.2 (nP p) q.1 q.2 (nP q) hp.1 hp.2.1 rfl hq.1 hq.2.1 rfl hp.2.2 hq.2.2 _ _ rfl _ _ rfl w hT)) hck rp ra (box hr) hT
  ·
   exact rpr_list f m (stP (mulR f m)) (okE f) hs p0 t N g z c W ht (by omega) ok0 okt (box HC) (box (fun V bV => rfitL f m h0 (p0 :: t) (N + 1) g z c V hl (by omega) hb (box (fun U bU => HC U (btr bV bU))) true ho))
    (box (fun p q hp hq w => rMul_is f m hf hm p.1 p.2 (nP p) q.1 q.2 (nP q) hp.1 hp.2.1 rfl hq.1 hq.2.1 rfl hp.2.2 hq.2.2 _ _ rfl _ _ rfl w)) rp ra (box hr)
end Go.Proofs.YtoaaajeblhaeoaaGreatDoor
