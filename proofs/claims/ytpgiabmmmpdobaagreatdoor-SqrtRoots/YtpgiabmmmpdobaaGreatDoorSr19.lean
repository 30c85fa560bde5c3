/-
  What the functions that the statement reaches return: part 19 (R13, R14).
-/
import Derived.Test.YtpgiabmmmpdobaaGreatDoorSr18
namespace Go.Proofs.YtpgiabmmmpdobaaGreatDoor
set_option maxRecDepth 100000
set_option maxHeartbeats 40000000
set_option maxRecDepth 100000
open Go.RowKit WMath
set_option linter.unusedSimpArgs false
set_option linter.unusedVariables false
theorem gen_round_tiny_7 {X : Act → World → Prop} {R : World → Nat → Prop} {t0 t1 t2 t3 t4 t5 t6 t8 t9 t10 t11 t12 t13 t14 t15 t16 t17 t18 t19 t20 t21 t22 t23 : Value} {d : List Deferred} {W : World} {G : Nat}
  (key : ∀ w5 g, R w5 g → X ⟨#[t0, t1, t2, t3, t4, t5, t6, .pointer (some ⟨g, 0, none⟩), t8, t9, t10, t11, t12, t13, t14, t15, t16, t17, t18, t19, t20, t21, t22, t23], d⟩ w5) (r : R W G) : X ⟨#[t0, t1, t2, t3, t4, t5, t6, .pointer (some ⟨G, 0, none⟩), t8, t9, t10, t11, t12, t13, t14, t15, t16, t17, t18, t19, t20, t21, t22, t23], d⟩ W := key W G r

theorem or_low (s t : Nat) (h : s / 2 * 2 + 1 = t) : wd t 0 = wd s 0 / 2 * 2 + 1 ∧ ∀ k, 0 < k → k < 6 → wd t k = wd s k := by
 have e : t / 2 = s / 2 := by omega
 constructor
 ·
  unfold wd
  rw [Nat.mul_zero, Nat.pow_zero, Nat.div_one, Nat.div_one]
  omega
 ·
  intro k h1 h2
  unfold wd
  obtain ⟨i, hi⟩ : ∃ i, 64 * k = i + 1 := ⟨64 * k - 1, by omega⟩
  rw [hi, Nat.pow_succ, Nat.mul_comm (2 ^ i) 2, ← Nat.div_div_eq_div_mul, ← Nat.div_div_eq_div_mul, e]
theorem ro_jam_no (neg : Bool) (s : Nat) (x : Int) (w : World) : Calls Tryz.prog 48 #[.agg (rg neg s x false)] w fun r w' => r = .returned (.agg (rg neg s x false)) ∧ Below w.heap.size w w' := by
 have hat := cw_at 6
 have hz := cw6z
 have hff := cw6f
 have hs0 := st0
 have hcs : ∀ x, ((cw 6 x).size = 6) = True := fun x => eq_true (cw_size 6 x)
 have hp1 := rgf
 have hp3 := rgz
 have hp5 : ∀ (c : Bool) (s : Nat) (x : Int) (r : Bool), ((rg c s x r).size = 9) = True := fun _ _ _ _ => eq_true rfl
 obtain ⟨Ab, Aa, B0⟩ := opn2 w (Obj.cells (rg neg s x false) 54) (Obj.cells (rg false 0 0 false) 54)
 go_enter Tryz.func48, Tryz.ntmps48
 obtain ⟨Ac, Ad, Ae, Af, Ag, Ah, Ai, Aj, Ak⟩ := rg_cells Ab
 obtain ⟨Al, Am, An, Ao, Ap, Aq, Ar, As, At⟩ := rg_cells Aa
 have hstz := st_r ((w.alloc (Obj.cells (rg neg s x false) 54)).alloc (Obj.cells (rg false 0 0 false) 54)) (w.heap.size + 1) neg s x false false 0 0 false Aa
 have RZ := setRow_row (c' := rg neg s x false) Aa
 obtain ⟨dz0, dz1, dz2, dz3, dz4, dz5, dz6, dz7, dz8⟩ := rg_cells RZ
 have bz := bel_set (c := rg neg s x false) B0 (show w.heap.size ≤ w.heap.size + 1 by first | exact Nat.le_refl _ | omega | (skip; omega))
 go_wp2
 exact bodyPost_ret (v := .agg (rg neg s x false)) (by simp [results, Tryz.results48, go_sem, dz0, dz1, dz2, dz3, dz4, dz5, dz6, dz7, dz8, rgf] <;> rfl) rfl ⟨rfl, bz⟩
theorem ro_jam_yes (neg : Bool) (s t : Nat) (x : Int) (w : World) (hor : bits .or .u64 ((wd s 0 : Nat) : Int) 1 = ((wd t 0 : Nat) : Int)) (ht : Box (∀ k, 0 < k → k < 6 → wd t k = wd s k)) : Calls Tryz.prog 48 #[.agg (rg neg s x true)] w fun r w' => r = .returned (.agg (rg neg t x false)) ∧ Below w.heap.size w w' := by
 have hat := cw_at 6
 have hz := cw6z
 have hff := cw6f
 have hs0 := st0
 have hcs : ∀ x, ((cw 6 x).size = 6) = True := fun x => eq_true (cw_size 6 x)
 have hp1 := rgf
 have hp3 := rgz
 have hp5 : ∀ (c : Bool) (s : Nat) (x : Int) (r : Bool), ((rg c s x r).size = 9) = True := fun _ _ _ _ => eq_true rfl
 obtain ⟨Aa, Ab, B0⟩ := opn2 w (Obj.cells (rg neg s x true) 54) (Obj.cells (rg false 0 0 false) 54)
 go_enter Tryz.func48, Tryz.ntmps48
 obtain ⟨Ac, Ad, Ae, Af, Ag, Ah, Ai, Aj, Ak⟩ := rg_cells Aa
 obtain ⟨Al, Am, An, Ao, Ap, Aq, Ar, As, At⟩ := rg_cells Ab
 have hs1 := rg_set1 neg s t x true ht.out
 have hs8 := rg_set8 neg t x true false
 have fx := fz (k := 1) Aa
 obtain ⟨Px, Pz, PB⟩ := opn2 w (Obj.cells (rg neg t x true) 54) (Obj.cells (rg false 0 0 false) 54)
 obtain ⟨pp0, pp1, pp2, pp3, pp4, pp5, pp6, pp7, pp8⟩ := rg_cells Px
 have pf := fz (k := 8) Px
 obtain ⟨Ux, Uz, UB⟩ := opn2 w (Obj.cells (rg neg t x false) 54) (Obj.cells (rg false 0 0 false) 54)
 obtain ⟨uu0, uu1, uu2, uu3, uu4, uu5, uu6, uu7, uu8⟩ := rg_cells Ux
 have hstz := st_r _ (w.heap.size + 1) neg t x false false 0 0 false Uz
 have RZ := setRow_row (c' := rg neg t x false) Uz
 obtain ⟨dz0, dz1, dz2, dz3, dz4, dz5, dz6, dz7, dz8⟩ := rg_cells RZ
 have bz := bel_set (c := rg neg t x false) UB (show w.heap.size ≤ w.heap.size + 1 by omega)
 clear Px Pz PB
 go_wp2
 exact bodyPost_ret (v := .agg (rg neg t x false)) (by simp [results, Tryz.results48, go_sem, dz0, dz1, dz2, dz3, dz4, dz5, dz6, dz7, dz8, rgf] <;> rfl) rfl ⟨rfl, bz⟩
theorem ro_tiny (f m : Int) (neg : Bool) (s : Nat) (x : Int) (more : Bool) (T st rt I : Int) (K : Nat) (ex o : Bool) (w : World)
  (K1 : Box (∀ w, Calls Tryz.prog 51 #[.agg (rg neg s x more)] w fun r w' => r = .returned (.int .i64 T) ∧ Below w.heap.size w w'))
  (K2 : Box (∀ w, FAt w → Calls Tryz.prog 50 #[.int .u8 f, .int .i64 T] w fun r w' => r = .returned (.int .i64 st) ∧ Below w.heap.size w w'))
  (K3 : Box (∀ w, Calls Tryz.prog 49 #[.int .u8 m, .agg (rg neg s x more), .int .i64 st] w fun r w' => r = .returned (.tuple #[.agg (rg neg K st false), .bool ex]) ∧ Below w.heap.size w w'))
  (K4 : Box (∀ w, Calls Tryz.prog 51 #[.agg (rg neg K st false)] w fun r w' => r = .returned (.int .i64 rt) ∧ Below w.heap.size w w'))
  (K5 : Box (∀ w, FAt w → Calls Tryz.prog 52 #[.int .u8 f] w fun r w' => r = .returned (.int .i64 I) ∧ Below w.heap.size w w'))
  (ho : decide (rt < I) = o) (hT : FAt w) : Calls Tryz.prog 54 #[.int .u8 f, .int .u8 m, .agg (rg neg s x more)] w fun r w' => r = .returned (.bool o) ∧ Below w.heap.size w w' := by
 have FF := box hT
 clear hT
 have hat := cw_at 6
 have hz := cw6z
 have hff := cw6f
 have hs0 := st0
 have hcs : ∀ x, ((cw 6 x).size = 6) = True := fun x => eq_true (cw_size 6 x)
 have hp1 := rgf
 have hp3 := rgz
 have hp4 := st_r0
 have hp5 : ∀ (c : Bool) (s : Nat) (x : Int) (r : Bool), ((rg c s x r).size = 9) = True := fun _ _ _ _ => eq_true rfl
 obtain ⟨Ae, B0⟩ := opn1 w (Obj.cells (rg neg s x more) 54)
 go_enter Tryz.func54, Tryz.ntmps54
 have sS : Box (∀ W W1 : World, (Below w.heap.size w W ∧ W.heap[w.heap.size]? = some (.cells (rg neg s x more) 54)) → Below W.heap.size W W1 → (Below w.heap.size w W1 ∧ W1.heap[w.heap.size]? = some (.cells (rg neg s x more) 54))) := box (fun W W1 h b => ⟨btr h.1 b, heap_of b _ _ _ h.2⟩)
 have sL : Box (∀ W : World, (Below w.heap.size w W ∧ W.heap[w.heap.size]? = some (.cells (rg neg s x more) 54)) → (w.heap.size < W.heap.size)) := box (fun W h => (Array.getElem?_eq_some_iff.1 h.2).1)
 have sT : Box (∀ (W : World) (gN : Nat) (xA : Array Value), (Below w.heap.size w W ∧ W.heap[w.heap.size]? = some (.cells (rg neg s x more) 54)) → (w.heap.size < gN) → (Below w.heap.size w (W.setRow gN xA) ∧ (W.setRow gN xA).heap[w.heap.size]? = some (.cells (rg neg s x more) 54))) := box (fun W gN xA h l => ⟨bel_set h.1 (show w.heap.size ≤ gN by have := l; omega), (setRow_other (by have := l; omega)).trans h.2⟩)
 have sC : Box (∀ W : World, (Below w.heap.size w W ∧ W.heap[w.heap.size]? = some (.cells (rg neg s x more) 54)) → (Below w.heap.size w W ∧ W.heap[w.heap.size]? = some (.cells (rg neg s x more) 54) ∧ W.cell? ⟨w.heap.size, 0, none⟩ = some (.bool neg) ∧ W.cell? ⟨w.heap.size, 1, none⟩ = some (.int .u64 (wd s 0)) ∧ W.cell? ⟨w.heap.size, 2, none⟩ = some (.int .u64 (wd s 1)) ∧ W.cell? ⟨w.heap.size, 3, none⟩ = some (.int .u64 (wd s 2)) ∧ W.cell? ⟨w.heap.size, 4, none⟩ = some (.int .u64 (wd s 3)) ∧ W.cell? ⟨w.heap.size, 5, none⟩ = some (.int .u64 (wd s 4)) ∧ W.cell? ⟨w.heap.size, 6, none⟩ = some (.int .u64 (wd s 5)) ∧ W.cell? ⟨w.heap.size, 7, none⟩ = some (.int .i64 x) ∧ W.cell? ⟨w.heap.size, 8, none⟩ = some (.bool more))) := box (fun W h => ⟨h.1, h.2, cell7 (h.2) 0 _ rfl, cell7 (h.2) 1 _ rfl, cell7 (h.2) 2 _ rfl, cell7 (h.2) 3 _ rfl, cell7 (h.2) 4 _ rfl, cell7 (h.2) 5 _ rfl, cell7 (h.2) 6 _ rfl, cell7 (h.2) 7 _ rfl, cell7 (h.2) 8 _ rfl⟩)
 have s0 : Below w.heap.size w ((w.alloc (Obj.cells (rg neg s x more) 54))).drew ∧ ((w.alloc (Obj.cells (rg neg s x more) 54))).drew.heap[w.heap.size]? = some (.cells (rg neg s x more) 54) := ⟨B0.drew, Ae⟩
 clear B0 Ae
 go_wp2_with fail
 apply cut7
 ·
  intro key0
  have key := box key0
  clear key0
  go_region_held3 (fun W => Below w.heap.size w W ∧ W.heap[w.heap.size]? = some (.cells (rg neg s x more) 54) ∧ W.cell? ⟨w.heap.size, 0, none⟩ = some (.bool neg) ∧ W.cell? ⟨w.heap.size, 1, none⟩ = some (.int .u64 (wd s 0)) ∧ W.cell? ⟨w.heap.size, 2, none⟩ = some (.int .u64 (wd s 1)) ∧ W.cell? ⟨w.heap.size, 3, none⟩ = some (.int .u64 (wd s 2)) ∧ W.cell? ⟨w.heap.size, 4, none⟩ = some (.int .u64 (wd s 3)) ∧ W.cell? ⟨w.heap.size, 5, none⟩ = some (.int .u64 (wd s 4)) ∧ W.cell? ⟨w.heap.size, 6, none⟩ = some (.int .u64 (wd s 5)) ∧ W.cell? ⟨w.heap.size, 7, none⟩ = some (.int .i64 x) ∧ W.cell? ⟨w.heap.size, 8, none⟩ = some (.bool more)) (first | exact sC.out _ s1 | exact sC.out _ s0 | exact sC.out _ (sS.out _ _ s1 (bal _ _)) | exact sC.out _ (sS.out _ _ s0 (bal _ _)) | exact sC.out _ (sT.out _ _ _ s1 hl))
   (((first | (go_at_call 51; (first | refine (K1.out _).mono ?_ | refine (K1.out _).mono ?_)) | (go_at_call 50; (first | refine (K2.out _ (by first | exact fatB FF.out (And.left s1) | exact fat_al (fatB FF.out (And.left s1)) _)).mono ?_ | refine (K2.out _ (by first | exact fatB FF.out (And.left s0) | exact fat_al (fatB FF.out (And.left s0)) _)).mono ?_)) | (go_at_call 49; (first | refine (K3.out _).mono ?_ | refine (K3.out _).mono ?_)) | fail); rintro r wq ⟨rfl, bq⟩; (first | (have hg := heap_of bq _ _ _ (heap_alloc_last _ _); have hl := (by first | exact sL.out _ s1 | exact sL.out _ s0)) | have hg := heap_of bq _ _ _ hg | skip); (try simp only [size_dr, size_al] at hg hl); (first | have hst := st_r _ _ neg K st false false 0 0 false hg | skip); have s2 := (by first | exact sS.out _ _ s1 bq | exact sS.out _ _ s0 bq | exact sS.out _ _ (sS.out _ _ s1 (bal _ _)) bq | exact sS.out _ _ (sS.out _ _ s0 (bal _ _)) bq); (try clear s1); have s1 := s2; clear s2 bq))
  all_goals
   refine gen_round_tiny_7 (R := fun W gN => (Below w.heap.size w W ∧ W.heap[w.heap.size]? = some (.cells (rg neg s x more) 54)) ∧ W.heap[gN]? = some (.cells (rg neg K st false) 54) ∧ (w.heap.size < gN)) key.out ?_
   first
    | exact ⟨(sT.out _ _ _ s1 hl), setRow_row hg, hl⟩
    | exact ⟨sS.out _ _ s1 (bal _ _), heap_alloc_last _ _, sL.out _ s1⟩
    | exact ⟨sS.out _ _ s0 (bal _ _), heap_alloc_last _ _, sL.out _ s0⟩
 rintro w1 g1 ⟨s1, Aa, l1⟩
 have B1 := And.left s1
 have Ab := s1.2
 have H1 := box l1
 clear s0 s1 sS sC sL sT l1
 obtain ⟨Af, Ag, Ah, Ai, Aj, Ak, Al, Am, An⟩ := rg_cells Ab
 obtain ⟨Ao, Ap, Aq, Ar, As, At, Au, Av, Aw⟩ := rg_cells Aa
 go_wp2_with fail
 refine (K4.out _).mono ?_
 rintro r w2 ⟨rfl, b2⟩
 have B2 := btr B1 b2
 obtain ⟨Ac, Ad⟩ := rws2 b2 Ab Aa
 clear b2 B1 Ab Af Ag Ah Ai Aj Ak Al Am An Aa Ao Ap Aq Ar As At Au Av Aw
 obtain ⟨Ax, Ay, Az, AA, AB, AC, AD, AE, AF⟩ := rg_cells Ac
 obtain ⟨AG, AH, AI, AJ, AK, AL, AM, AN, AO⟩ := rg_cells Ad
 go_wp2_with fail
 refine (K5.out _ (fatB FF.out B2)).mono ?_
 rintro r w3 ⟨rfl, b3⟩
 have B3 := btr B2 b3
 obtain ⟨AP, AQ⟩ := rws2 b3 Ac Ad
 clear b3 B2 Ac Ax Ay Az AA AB AC AD AE AF Ad AG AH AI AJ AK AL AM AN AO
 obtain ⟨AR, AS, AT, AU, AV, AW, AX, AY, AZ⟩ := rg_cells AP
 obtain ⟨A0, A1, A2, A3, A4, A5, A6, A7, A8⟩ := rg_cells AQ
 go_wp2
 go_ret
 exact ⟨rfl, B3⟩
theorem ro_over_gr (f m : Int) (neg : Bool) (u v : Nat) (w : World) (KC : Box (∀ w, Calls Tryz.prog 45 #[.int .u8 f, .int .u8 m] w fun r w' => r = .returned (.int .i64 0) ∧ Below w.heap.size w w'))
  (KG : Box (∀ w, FAt w → Calls Tryz.prog 91 #[.int .u8 f, .bool neg] w fun r w' => r = .returned (.agg #[.int .u64 u, .int .u64 v]) ∧ Below w.heap.size w w'))
  (KU : Box (∀ w, Calls Tryz.prog 92 #[.int .u8 m, .bool neg, .bool false, .int .i64 1, .bool false] w fun r w' => r = .returned (.bool false) ∧ Below w.heap.size w w')) (hT : FAt w) : Calls Tryz.prog 44 #[.int .u8 f, .int .u8 m, .bool neg] w fun r w' => r = .returned (.tuple #[.agg #[.int .u64 u, .int .u64 v], .int .u8 5, .int .i64 0]) ∧ Below w.heap.size w w' := by
 have FF := box hT
 clear hT
 obtain ⟨Af, B0⟩ := opn1 w (Obj.cells #[.int .u64 0, .int .u64 0] 26)
 go_enter Tryz.func44, Tryz.ntmps44
 go_wp2_with fail
 refine (KC.out _).mono ?_
 rintro r w1 ⟨rfl, b1⟩
 have B1 := btr B0 b1
 have Ac := heap_of b1 _ _ _ Af
 clear b1 B0 Af
 obtain ⟨Ag, Ah⟩ := cells2s Ac
 go_wp2_with fail
 refine (KG.out _ (fatB FF.out B1)).mono ?_
 rintro r w2 ⟨rfl, b2⟩
 have B2 := btr B1 b2
 have Aa := heap_of b2 _ _ _ Ac
 clear b2 B1 Ac Ag Ah
 obtain ⟨Ai, Aj⟩ := cells2s Aa
 have S3 := box B2.size
 have Ak := ltR Aa
 have Ad := heap_alloc_last w2 (Obj.cells #[.int .u64 u, .int .u64 v] 26)
 have B3 := btr B2 (bal w2 (Obj.cells #[.int .u64 u, .int .u64 v] 26))
 have Ae := heap_of (bal w2 (Obj.cells #[.int .u64 u, .int .u64 v] 26)) _ _ _ Aa
 clear B2 Aa Ai Aj
 obtain ⟨Al, Am⟩ := cells2s Ae
 obtain ⟨An, Ao⟩ := cells2s Ad
 go_wp2_with fail
 refine (KU.out _).mono ?_
 rintro r w4 ⟨rfl, b4⟩
 have B4 := btr B3 b4
 obtain ⟨Ab, Ap⟩ := rws2 b4 Ae Ad
 clear b4 B3 Ae Al Am Ad An Ao
 obtain ⟨Aq, Ar⟩ := cells2s Ab
 obtain ⟨As, At⟩ := cells2s Ap
 have q0 := fz (k := 0) Ab
 have q1 := fz (k := 1) Ab
 obtain ⟨E0, E1⟩ := set2_cells Ab (.int .u64 u) (.int .u64 v)
 go_wp2
 exact bodyPost_ret (v := .tuple #[.agg #[.int .u64 u, .int .u64 v], .int .u8 5, .int .i64 0]) (by simp [results, Tryz.results44, go_sem, E0, E1]) rfl ⟨rfl, set2_below B4 (by first | exact Nat.le_refl _ | omega | (have := S3.out; have := Ak.out; omega)) _ _⟩
theorem ro_over_inf (f m : Int) (neg : Bool) (i j u v : Nat) (w : World) (KC : Box (∀ w, Calls Tryz.prog 45 #[.int .u8 f, .int .u8 m] w fun r w' => r = .returned (.int .i64 0) ∧ Below w.heap.size w w'))
  (KG : Box (∀ w, FAt w → Calls Tryz.prog 91 #[.int .u8 f, .bool neg] w fun r w' => r = .returned (.agg #[.int .u64 i, .int .u64 j]) ∧ Below w.heap.size w w'))
  (KU : Box (∀ w, Calls Tryz.prog 92 #[.int .u8 m, .bool neg, .bool false, .int .i64 1, .bool false] w fun r w' => r = .returned (.bool true) ∧ Below w.heap.size w w'))
  (KI : Box (∀ w, FAt w → Calls Tryz.prog 93 #[.int .u8 f, .bool neg] w fun r w' => r = .returned (.agg #[.int .u64 u, .int .u64 v]) ∧ Below w.heap.size w w')) (hT : FAt w) : Calls Tryz.prog 44 #[.int .u8 f, .int .u8 m, .bool neg] w fun r w' => r = .returned (.tuple #[.agg #[.int .u64 u, .int .u64 v], .int .u8 5, .int .i64 0]) ∧ Below w.heap.size w w' := by
 have FF := box hT
 clear hT
 obtain ⟨Aj, B0⟩ := opn1 w (Obj.cells #[.int .u64 0, .int .u64 0] 26)
 go_enter Tryz.func44, Tryz.ntmps44
 go_wp2_with fail
 refine (KC.out _).mono ?_
 rintro r w1 ⟨rfl, b1⟩
 have B1 := btr B0 b1
 have Ae := heap_of b1 _ _ _ Aj
 clear b1 B0 Aj
 obtain ⟨Al, Am⟩ := cells2s Ae
 go_wp2_with fail
 refine (KG.out _ (fatB FF.out B1)).mono ?_
 rintro r w2 ⟨rfl, b2⟩
 have B2 := btr B1 b2
 have Aa := heap_of b2 _ _ _ Ae
 clear b2 B1 Ae Al Am
 obtain ⟨An, Ao⟩ := cells2s Aa
 have S3 := box B2.size
 have Ab := ltR Aa
 have Af := heap_alloc_last w2 (Obj.cells #[.int .u64 i, .int .u64 j] 26)
 have B3 := btr B2 (bal w2 (Obj.cells #[.int .u64 i, .int .u64 j] 26))
 have Ag := heap_of (bal w2 (Obj.cells #[.int .u64 i, .int .u64 j] 26)) _ _ _ Aa
 clear B2 Aa An Ao
 obtain ⟨Ap, Aq⟩ := cells2s Ag
 obtain ⟨Ar, As⟩ := cells2s Af
 go_wp2_with fail
 refine (KU.out _).mono ?_
 rintro r w4 ⟨rfl, b4⟩
 have B4 := btr B3 b4
 obtain ⟨Ah, Ai⟩ := rws2 b4 Ag Af
 clear b4 B3 Ag Ap Aq Af Ar As
 obtain ⟨At, Au⟩ := cells2s Ah
 obtain ⟨Av, Aw⟩ := cells2s Ai
 go_wp2_with fail
 refine (KI.out _ (fatB FF.out B4)).mono ?_
 rintro r w5 ⟨rfl, b5⟩
 have B5 := btr B4 b5
 obtain ⟨Ak, Ac⟩ := rws2 b5 Ah Ai
 clear b5 B4 Ah At Au Ai Av Aw
 obtain ⟨Ay, Az⟩ := cells2s Ak
 obtain ⟨AA, AB⟩ := cells2s Ac
 have q0_6 := fz (k := 0) Ac
 have q1_6 := fz (k := 1) Ac
 have B6 := set2_below B5 (show w.heap.size ≤ w2.heap.size by first | exact Nat.le_refl _ | omega | (have := S3.out; have := Ab.out; omega)) (.int .u64 u) (.int .u64 v)
 have Ax : ((w5.setCell ⟨w2.heap.size, 0, none⟩ (.int .u64 u)).setCell ⟨w2.heap.size, 1, none⟩ (.int .u64 v)).heap[w2.heap.size]? = some (.cells #[.int .u64 u, .int .u64 v] 26) := set2_row Ac _ _
 have Ad : ((w5.setCell ⟨w2.heap.size, 0, none⟩ (.int .u64 u)).setCell ⟨w2.heap.size, 1, none⟩ (.int .u64 v)).heap[w.heap.size]? = some (.cells #[.int .u64 0, .int .u64 0] 26) := (setCell_other (by first | omega | (have := S3.out; have := Ab.out; omega))).trans ((setCell_other (by first | omega | (have := S3.out; have := Ab.out; omega))).trans Ak)
 obtain ⟨AC, AD⟩ := cells2s Ad
 obtain ⟨AE, AF⟩ := cells2s Ax
 have q0 := fz (k := 0) Ad
 have q1 := fz (k := 1) Ad
 obtain ⟨E0, E1⟩ := set2_cells Ad (.int .u64 u) (.int .u64 v)
 go_wp2
 exact bodyPost_ret (v := .tuple #[.agg #[.int .u64 u, .int .u64 v], .int .u8 5, .int .i64 0]) (by simp [results, Tryz.results44, go_sem, E0, E1]) rfl ⟨rfl, set2_below B6 (by first | exact Nat.le_refl _ | omega | (have := S3.out; have := Ab.out; omega)) _ _⟩
theorem cw_zip (K : Nat) : (cw 6 K).zipIdx = #[(.int .u64 (wd K 0), 0), (.int .u64 (wd K 1), 1), (.int .u64 (wd K 2), 2), (.int .u64 (wd K 3), 3), (.int .u64 (wd K 4), 4), (.int .u64 (wd K 5), 5)] := by kernel_rfl
theorem rg_sets (neg : Bool) (K : Nat) (st : Int) : ((((((((rg false 0 0 false).toList.set 0 (.bool neg)).set 1 (.int .u64 (wd K 0))).set 2 (.int .u64 (wd K 1))).set 3 (.int .u64 (wd K 2))).set 4 (.int .u64 (wd K 3))).set 5 (.int .u64 (wd K 4))).set 6 (.int .u64 (wd K 5))).set 7 (.int .i64 st) = (rg neg K st false).toList := rfl
theorem ro_grid_no (m st : Int) (neg : Bool) (s : Nat) (x : Int) (more : Bool) (R K : Nat) (lo : Bool) (A1 A2 h : Int) (ex od : Bool) (w : World) (hQ : Box (R < Q ∧ K < Q))
  (K1 : Box (∀ w, Calls Tryz.prog 76 #[.agg (cw 6 s), .int .i64 A1] w fun r w' => r = .returned (.tuple #[.agg (cw 6 R), .bool lo]) ∧ Below w.heap.size w w'))
  (K2 : Box (∀ w, Calls Tryz.prog 96 #[.agg (cw 6 R), .int .i64 A2] w fun r w' => r = .returned (.tuple #[.agg (cw 6 K), .int .i64 h, .bool ex]) ∧ Below w.heap.size w w'))
  (K3 : Box (∀ w, Calls Tryz.prog 97 #[.agg (cw 6 K), .int .i64 0] w fun r w' => r = .returned (.bool od) ∧ Below w.heap.size w w'))
  (K4 : Box (∀ w, Calls Tryz.prog 92 #[.int .u8 m, .bool neg, .bool od, .int .i64 h, .bool ex] w fun r w' => r = .returned (.bool false) ∧ Below w.heap.size w w'))
  (h1 : IntKind.i64.wrap (x - st) = A1) (h2 : IntKind.i64.wrap (st - x) = A2) : Calls Tryz.prog 49 #[.int .u8 m, .agg (rg neg s x more), .int .i64 st] w fun r w' => r = .returned (.tuple #[.agg (rg neg K st false), .bool ex]) ∧ Below w.heap.size w w' := by
 have hat := cw_at 6
 have hz := cw6z
 have hff := cw6f
 have hs0 := st0
 have hcs : ∀ x, ((cw 6 x).size = 6) = True := fun x => eq_true (cw_size 6 x)
 have hp1 := rgf
 have hp3 := rgz
 have hp4 := st_r0
 have hzi := cw_zip
 have hls := rg_sets
 have hp5 : ∀ (c : Bool) (s : Nat) (x : Int) (r : Bool), ((rg c s x r).size = 9) = True := fun _ _ _ _ => eq_true rfl
 obtain ⟨Af, Ag, B0⟩ := opn2 w (Obj.cells (rg neg s x more) 54) (Obj.cells (rg false 0 0 false) 54)
 go_enter Tryz.func49, Tryz.ntmps49
 obtain ⟨Ap, Aq, Ar, As, At, Au, Av, Aw, Ax⟩ := rg_cells Af
 obtain ⟨Ay, Az, AA, AB, AC, AD, AE, AF, AG⟩ := rg_cells Ag
 go_wp2_with fail
 refine (K1.out _).mono ?_
 rintro r w1 ⟨rfl, b1⟩
 have B1 := btr B0 b1
 obtain ⟨Aa, Ab⟩ := rws2 b1 Af Ag
 clear b1 B0 Af Ap Aq Ar As At Au Av Aw Ax Ag Ay Az AA AB AC AD AE AF AG
 obtain ⟨AH, AI, AJ, AK, AL, AM, AN, AO, AP⟩ := rg_cells Aa
 obtain ⟨AQ, AR, AS, AT, AU, AV, AW, AX, AY⟩ := rg_cells Ab
 have S2 := box B1.size
 have AZ := ltR Aa
 have A0 := ltR Ab
 have Ah := heap_alloc_last w1 (Obj.cells (cw 6 R) 41)
 have B2 := btr B1 (bal w1 (Obj.cells (cw 6 R) 41))
 obtain ⟨Ai, Aj⟩ := rws2 (bal w1 (Obj.cells (cw 6 R) 41)) Aa Ab
 clear B1 Aa AH AI AJ AK AL AM AN AO AP Ab AQ AR AS AT AU AV AW AX AY
 obtain ⟨A3, A4, A5, A6, A7, A8, A9, Ba, Bb⟩ := rg_cells Ai
 obtain ⟨Bc, Bd, Be, Bf, Bg, Bh, Bi, Bj, Bk⟩ := rg_cells Aj
 have Bl := row_cell Ah
 go_wp2_with fail
 refine (K2.out _).mono ?_
 rintro r w3 ⟨rfl, b3⟩
 have B3 := btr B2 b3
 obtain ⟨Ac, Ad, Ae⟩ := rws3 b3 Ai Aj Ah
 clear b3 B2 Ai A3 A4 A5 A6 A7 A8 A9 Ba Bb Aj Bc Bd Be Bf Bg Bh Bi Bj Bk Ah Bl
 obtain ⟨Bm, Bn, Bo, Bp, Bq, Br, Bs, Bt, Bu⟩ := rg_cells Ac
 obtain ⟨Bv, Bw, Bx, By, Bz, BA, BB, BC, BD⟩ := rg_cells Ad
 have BE := row_cell Ae
 have S4 := box B3.size
 have BF := ltR Ac
 have BG := ltR Ad
 have BH := ltR Ae
 have Ak := heap_alloc_last w3 (Obj.cells (cw 6 K) 41)
 have B4 := btr B3 (bal w3 (Obj.cells (cw 6 K) 41))
 obtain ⟨Al, Am, Ao⟩ := rws3 (bal w3 (Obj.cells (cw 6 K) 41)) Ac Ad Ae
 clear B3 Ac Bm Bn Bo Bp Bq Br Bs Bt Bu Ad Bv Bw Bx By Bz BA BB BC BD Ae BE
 obtain ⟨BI, BJ, BK, BL, BM, BN, BO, BP, BQ⟩ := rg_cells Al
 obtain ⟨BR, BS, BT, BU, BV, BW, BX, BY, BZ⟩ := rg_cells Am
 have B6 := row_cell Ao
 have B7 := row_cell Ak
 clear Ao B6
 have sS : Box (∀ W W1 : World, (Below w.heap.size w W ∧ W.heap[w.heap.size]? = some (.cells (rg neg s x more) 54) ∧ W.heap[w.heap.size + 1]? = some (.cells (rg false 0 0 false) 54) ∧ W.heap[w3.heap.size]? = some (.cells (cw 6 K) 41)) → Below W.heap.size W W1 → (Below w.heap.size w W1 ∧ W1.heap[w.heap.size]? = some (.cells (rg neg s x more) 54) ∧ W1.heap[w.heap.size + 1]? = some (.cells (rg false 0 0 false) 54) ∧ W1.heap[w3.heap.size]? = some (.cells (cw 6 K) 41))) := box (fun W W1 h b => ⟨btr h.1 b, heap_of b _ _ _ h.2.1, heap_of b _ _ _ h.2.2.1, heap_of b _ _ _ h.2.2.2⟩)
 have sC : Box (∀ W : World, (Below w.heap.size w W ∧ W.heap[w.heap.size]? = some (.cells (rg neg s x more) 54) ∧ W.heap[w.heap.size + 1]? = some (.cells (rg false 0 0 false) 54) ∧ W.heap[w3.heap.size]? = some (.cells (cw 6 K) 41)) → (Below w.heap.size w W ∧ W.heap[w.heap.size]? = some (.cells (rg neg s x more) 54) ∧ W.heap[w.heap.size + 1]? = some (.cells (rg false 0 0 false) 54) ∧ W.heap[w3.heap.size]? = some (.cells (cw 6 K) 41) ∧ W.cell? ⟨w.heap.size, 0, none⟩ = some (.bool neg) ∧ W.cell? ⟨w.heap.size, 1, none⟩ = some (.int .u64 (wd s 0)) ∧ W.cell? ⟨w.heap.size, 2, none⟩ = some (.int .u64 (wd s 1)) ∧ W.cell? ⟨w.heap.size, 3, none⟩ = some (.int .u64 (wd s 2)) ∧ W.cell? ⟨w.heap.size, 4, none⟩ = some (.int .u64 (wd s 3)) ∧ W.cell? ⟨w.heap.size, 5, none⟩ = some (.int .u64 (wd s 4)) ∧ W.cell? ⟨w.heap.size, 6, none⟩ = some (.int .u64 (wd s 5)) ∧ W.cell? ⟨w.heap.size, 7, none⟩ = some (.int .i64 x) ∧ W.cell? ⟨w.heap.size, 8, none⟩ = some (.bool more) ∧ W.cell? ⟨w3.heap.size, 0, none⟩ = some (.int .u64 (wd K 0)) ∧ W.cell? ⟨w3.heap.size, 1, none⟩ = some (.int .u64 (wd K 1)) ∧ W.cell? ⟨w3.heap.size, 2, none⟩ = some (.int .u64 (wd K 2)) ∧ W.cell? ⟨w3.heap.size, 3, none⟩ = some (.int .u64 (wd K 3)) ∧ W.cell? ⟨w3.heap.size, 4, none⟩ = some (.int .u64 (wd K 4)) ∧ W.cell? ⟨w3.heap.size, 5, none⟩ = some (.int .u64 (wd K 5)))) := box (fun W h => ⟨h.1, h.2.1, h.2.2.1, h.2.2.2, cell7 (h.2.1) 0 _ rfl, cell7 (h.2.1) 1 _ rfl, cell7 (h.2.1) 2 _ rfl, cell7 (h.2.1) 3 _ rfl, cell7 (h.2.1) 4 _ rfl, cell7 (h.2.1) 5 _ rfl, cell7 (h.2.1) 6 _ rfl, cell7 (h.2.1) 7 _ rfl, cell7 (h.2.1) 8 _ rfl, row_cell (h.2.2.2) 0 (by decide), row_cell (h.2.2.2) 1 (by decide), row_cell (h.2.2.2) 2 (by decide), row_cell (h.2.2.2) 3 (by decide), row_cell (h.2.2.2) 4 (by decide), row_cell (h.2.2.2) 5 (by decide)⟩)
 have s0 : Below w.heap.size w ((w3.alloc (Obj.cells (cw 6 K) 41))).drew ∧ ((w3.alloc (Obj.cells (cw 6 K) 41))).drew.heap[w.heap.size]? = some (.cells (rg neg s x more) 54) ∧ ((w3.alloc (Obj.cells (cw 6 K) 41))).drew.heap[w.heap.size + 1]? = some (.cells (rg false 0 0 false) 54) ∧ ((w3.alloc (Obj.cells (cw 6 K) 41))).drew.heap[w3.heap.size]? = some (.cells (cw 6 K) 41) := ⟨B4.drew, Al, Am, Ak⟩
 go_wp2_with fail
 go_region_held3 (fun W => Below w.heap.size w W ∧ W.heap[w.heap.size]? = some (.cells (rg neg s x more) 54) ∧ W.heap[w.heap.size + 1]? = some (.cells (rg false 0 0 false) 54) ∧ W.heap[w3.heap.size]? = some (.cells (cw 6 K) 41) ∧ W.cell? ⟨w.heap.size, 0, none⟩ = some (.bool neg) ∧ W.cell? ⟨w.heap.size, 1, none⟩ = some (.int .u64 (wd s 0)) ∧ W.cell? ⟨w.heap.size, 2, none⟩ = some (.int .u64 (wd s 1)) ∧ W.cell? ⟨w.heap.size, 3, none⟩ = some (.int .u64 (wd s 2)) ∧ W.cell? ⟨w.heap.size, 4, none⟩ = some (.int .u64 (wd s 3)) ∧ W.cell? ⟨w.heap.size, 5, none⟩ = some (.int .u64 (wd s 4)) ∧ W.cell? ⟨w.heap.size, 6, none⟩ = some (.int .u64 (wd s 5)) ∧ W.cell? ⟨w.heap.size, 7, none⟩ = some (.int .i64 x) ∧ W.cell? ⟨w.heap.size, 8, none⟩ = some (.bool more) ∧ W.cell? ⟨w3.heap.size, 0, none⟩ = some (.int .u64 (wd K 0)) ∧ W.cell? ⟨w3.heap.size, 1, none⟩ = some (.int .u64 (wd K 1)) ∧ W.cell? ⟨w3.heap.size, 2, none⟩ = some (.int .u64 (wd K 2)) ∧ W.cell? ⟨w3.heap.size, 3, none⟩ = some (.int .u64 (wd K 3)) ∧ W.cell? ⟨w3.heap.size, 4, none⟩ = some (.int .u64 (wd K 4)) ∧ W.cell? ⟨w3.heap.size, 5, none⟩ = some (.int .u64 (wd K 5))) (first | exact sC.out _ s1 | exact sC.out _ s0)
  (((first | (go_at_call 97; refine (K3.out _).mono ?_) | (go_at_call 92; refine (K4.out _).mono ?_) | fail); rintro r wq ⟨rfl, bq⟩; (first | have s1 := sS.out _ _ s1 bq | have s1 := sS.out _ _ s0 bq); clear bq))
 have B5 := (And.left s1)
 have B8 := s1.2.1
 have An := s1.2.2.1
 have B9 := s1.2.2.2
 clear s0 s1 sS sC B4 Al BI BJ BK BL BM BN BO BP BQ Am BR BS BT BU BV BW BX BY BZ Ak B7
 obtain ⟨Ca, Cb, Cc, Cd, Ce, Cf, Cg, Ch, Ci⟩ := rg_cells B8
 obtain ⟨Cj, Ck, Cl, Cm, Cn, Co, Cp, Cq, Cr⟩ := rg_cells An
 have Cs := row_cell B9
 have hstz := st_r wq (w.heap.size + 1) neg K st false false 0 0 false An
 have RZ := setRow_row (c' := rg neg K st false) An
 obtain ⟨dz0, dz1, dz2, dz3, dz4, dz5, dz6, dz7, dz8⟩ := rg_cells RZ
 have bz := bel_set (c := rg neg K st false) B5 (show w.heap.size ≤ w.heap.size + 1 by first | exact Nat.le_refl _ | omega | (have := S2.out; have := AZ.out; have := A0.out; have := S4.out; have := BF.out; have := BG.out; have := BH.out; omega))
 go_wp2
 exact bodyPost_ret (v := .tuple #[.agg (rg neg K st false), .bool ex]) (by simp [results, Tryz.results49, go_sem, dz0, dz1, dz2, dz3, dz4, dz5, dz6, dz7, dz8, rgf] <;> rfl) rfl ⟨rfl, bz⟩
theorem ro_grid_up (m st : Int) (neg : Bool) (s : Nat) (x : Int) (more : Bool) (R K K' : Nat) (lo l2 : Bool) (A1 A2 h : Int) (ex od : Bool) (w : World)
  (K1 : Box (∀ w, Calls Tryz.prog 76 #[.agg (cw 6 s), .int .i64 A1] w fun r w' => r = .returned (.tuple #[.agg (cw 6 R), .bool lo]) ∧ Below w.heap.size w w'))
  (K2 : Box (∀ w, Calls Tryz.prog 96 #[.agg (cw 6 R), .int .i64 A2] w fun r w' => r = .returned (.tuple #[.agg (cw 6 K), .int .i64 h, .bool ex]) ∧ Below w.heap.size w w'))
  (K3 : Box (∀ w, Calls Tryz.prog 97 #[.agg (cw 6 K), .int .i64 0] w fun r w' => r = .returned (.bool od) ∧ Below w.heap.size w w'))
  (K4 : Box (∀ w, Calls Tryz.prog 92 #[.int .u8 m, .bool neg, .bool od, .int .i64 h, .bool ex] w fun r w' => r = .returned (.bool true) ∧ Below w.heap.size w w'))
  (K5 : Box (∀ w, Calls Tryz.prog 84 #[.int .u64 1] w fun r w' => r = .returned (.agg (cw 6 1)) ∧ Below w.heap.size w w'))
  (K6 : Box (∀ w, Calls Tryz.prog 98 #[.agg (cw 6 K), .agg (cw 6 1)] w fun r w' => r = .returned (.tuple #[.agg (cw 6 K'), .bool l2]) ∧ Below w.heap.size w w'))
  (h1 : IntKind.i64.wrap (x - st) = A1) (h2 : IntKind.i64.wrap (st - x) = A2) : Calls Tryz.prog 49 #[.int .u8 m, .agg (rg neg s x more), .int .i64 st] w fun r w' => r = .returned (.tuple #[.agg (rg neg K' st false), .bool ex]) ∧ Below w.heap.size w w' := by
 have hat := cw_at 6
 have hz := cw6z
 have hff := cw6f
 have hs0 := st0
 have hcs : ∀ x, ((cw 6 x).size = 6) = True := fun x => eq_true (cw_size 6 x)
 have hp1 := rgf
 have hp3 := rgz
 have hp4 := st_r0
 have hzi := cw_zip
 have hls := rg_sets
 have hp5 : ∀ (c : Bool) (s : Nat) (x : Int) (r : Bool), ((rg c s x r).size = 9) = True := fun _ _ _ _ => eq_true rfl
 obtain ⟨Al, Am, B0⟩ := opn2 w (Obj.cells (rg neg s x more) 54) (Obj.cells (rg false 0 0 false) 54)
 go_enter Tryz.func49, Tryz.ntmps49
 obtain ⟨AA, AB, AC, AD, AE, AF, AG, AH, AI⟩ := rg_cells Al
 obtain ⟨AJ, AK, AL, AM, AN, AO, AP, AQ, AR⟩ := rg_cells Am
 go_wp2_with fail
 refine (K1.out _).mono ?_
 rintro r w1 ⟨rfl, b1⟩
 have B1 := btr B0 b1
 obtain ⟨Aa, Ab⟩ := rws2 b1 Al Am
 clear b1 B0 Al AA AB AC AD AE AF AG AH AI Am AJ AK AL AM AN AO AP AQ AR
 obtain ⟨AS, AT, AU, AV, AW, AX, AY, AZ, A0⟩ := rg_cells Aa
 obtain ⟨A3, A4, A5, A6, A7, A8, A9, Ba, Bb⟩ := rg_cells Ab
 have S2 := box B1.size
 have Ac := ltR Aa
 have Ad := ltR Ab
 have An := heap_alloc_last w1 (Obj.cells (cw 6 R) 41)
 have B2 := btr B1 (bal w1 (Obj.cells (cw 6 R) 41))
 obtain ⟨Ao, Ap⟩ := rws2 (bal w1 (Obj.cells (cw 6 R) 41)) Aa Ab
 clear B1 Aa AS AT AU AV AW AX AY AZ A0 Ab A3 A4 A5 A6 A7 A8 A9 Ba Bb
 obtain ⟨Bc, Bd, Be, Bf, Bg, Bh, Bi, Bj, Bk⟩ := rg_cells Ao
 obtain ⟨Bl, Bm, Bn, Bo, Bp, Bq, Br, Bs, Bt⟩ := rg_cells Ap
 have Bu := row_cell An
 go_wp2_with fail
 refine (K2.out _).mono ?_
 rintro r w3 ⟨rfl, b3⟩
 have B3 := btr B2 b3
 obtain ⟨Ae, Af, Ag⟩ := rws3 b3 Ao Ap An
 clear b3 B2 Ao Bc Bd Be Bf Bg Bh Bi Bj Bk Ap Bl Bm Bn Bo Bp Bq Br Bs Bt An Bu
 obtain ⟨Bv, Bw, Bx, By, Bz, BA, BB, BC, BD⟩ := rg_cells Ae
 obtain ⟨BE, BF, BG, BH, BI, BJ, BK, BL, BM⟩ := rg_cells Af
 have BN := row_cell Ag
 have S4 := box B3.size
 have Ah := ltR Ae
 have Ai := ltR Af
 have Aj := ltR Ag
 have Aq := heap_alloc_last w3 (Obj.cells (cw 6 K) 41)
 have B4 := btr B3 (bal w3 (Obj.cells (cw 6 K) 41))
 obtain ⟨Ar, As, Aw⟩ := rws3 (bal w3 (Obj.cells (cw 6 K) 41)) Ae Af Ag
 clear B3 Ae Bv Bw Bx By Bz BA BB BC BD Af BE BF BG BH BI BJ BK BL BM Ag BN
 obtain ⟨BO, BP, BQ, BR, BS, BT, BU, BV, BW⟩ := rg_cells Ar
 obtain ⟨BX, BY, BZ, B7, B8, B9, Ca, Cb, Cc⟩ := rg_cells As
 have Cd := row_cell Aw
 have Ce := row_cell Aq
 clear Aw Cd
 have sS : Box (∀ W W1 : World, (Below w.heap.size w W ∧ W.heap[w.heap.size]? = some (.cells (rg neg s x more) 54) ∧ W.heap[w.heap.size + 1]? = some (.cells (rg false 0 0 false) 54) ∧ W.heap[w3.heap.size]? = some (.cells (cw 6 K) 41)) → Below W.heap.size W W1 → (Below w.heap.size w W1 ∧ W1.heap[w.heap.size]? = some (.cells (rg neg s x more) 54) ∧ W1.heap[w.heap.size + 1]? = some (.cells (rg false 0 0 false) 54) ∧ W1.heap[w3.heap.size]? = some (.cells (cw 6 K) 41))) := box (fun W W1 h b => ⟨btr h.1 b, heap_of b _ _ _ h.2.1, heap_of b _ _ _ h.2.2.1, heap_of b _ _ _ h.2.2.2⟩)
 have sC : Box (∀ W : World, (Below w.heap.size w W ∧ W.heap[w.heap.size]? = some (.cells (rg neg s x more) 54) ∧ W.heap[w.heap.size + 1]? = some (.cells (rg false 0 0 false) 54) ∧ W.heap[w3.heap.size]? = some (.cells (cw 6 K) 41)) → (Below w.heap.size w W ∧ W.heap[w.heap.size]? = some (.cells (rg neg s x more) 54) ∧ W.heap[w.heap.size + 1]? = some (.cells (rg false 0 0 false) 54) ∧ W.heap[w3.heap.size]? = some (.cells (cw 6 K) 41) ∧ W.cell? ⟨w.heap.size, 0, none⟩ = some (.bool neg) ∧ W.cell? ⟨w.heap.size, 1, none⟩ = some (.int .u64 (wd s 0)) ∧ W.cell? ⟨w.heap.size, 2, none⟩ = some (.int .u64 (wd s 1)) ∧ W.cell? ⟨w.heap.size, 3, none⟩ = some (.int .u64 (wd s 2)) ∧ W.cell? ⟨w.heap.size, 4, none⟩ = some (.int .u64 (wd s 3)) ∧ W.cell? ⟨w.heap.size, 5, none⟩ = some (.int .u64 (wd s 4)) ∧ W.cell? ⟨w.heap.size, 6, none⟩ = some (.int .u64 (wd s 5)) ∧ W.cell? ⟨w.heap.size, 7, none⟩ = some (.int .i64 x) ∧ W.cell? ⟨w.heap.size, 8, none⟩ = some (.bool more) ∧ W.cell? ⟨w3.heap.size, 0, none⟩ = some (.int .u64 (wd K 0)) ∧ W.cell? ⟨w3.heap.size, 1, none⟩ = some (.int .u64 (wd K 1)) ∧ W.cell? ⟨w3.heap.size, 2, none⟩ = some (.int .u64 (wd K 2)) ∧ W.cell? ⟨w3.heap.size, 3, none⟩ = some (.int .u64 (wd K 3)) ∧ W.cell? ⟨w3.heap.size, 4, none⟩ = some (.int .u64 (wd K 4)) ∧ W.cell? ⟨w3.heap.size, 5, none⟩ = some (.int .u64 (wd K 5)))) := box (fun W h => ⟨h.1, h.2.1, h.2.2.1, h.2.2.2, cell7 (h.2.1) 0 _ rfl, cell7 (h.2.1) 1 _ rfl, cell7 (h.2.1) 2 _ rfl, cell7 (h.2.1) 3 _ rfl, cell7 (h.2.1) 4 _ rfl, cell7 (h.2.1) 5 _ rfl, cell7 (h.2.1) 6 _ rfl, cell7 (h.2.1) 7 _ rfl, cell7 (h.2.1) 8 _ rfl, row_cell (h.2.2.2) 0 (by decide), row_cell (h.2.2.2) 1 (by decide), row_cell (h.2.2.2) 2 (by decide), row_cell (h.2.2.2) 3 (by decide), row_cell (h.2.2.2) 4 (by decide), row_cell (h.2.2.2) 5 (by decide)⟩)
 have s0 : Below w.heap.size w ((w3.alloc (Obj.cells (cw 6 K) 41))).drew ∧ ((w3.alloc (Obj.cells (cw 6 K) 41))).drew.heap[w.heap.size]? = some (.cells (rg neg s x more) 54) ∧ ((w3.alloc (Obj.cells (cw 6 K) 41))).drew.heap[w.heap.size + 1]? = some (.cells (rg false 0 0 false) 54) ∧ ((w3.alloc (Obj.cells (cw 6 K) 41))).drew.heap[w3.heap.size]? = some (.cells (cw 6 K) 41) := ⟨B4.drew, Ar, As, Aq⟩
 go_wp2_with fail
 go_region_held3 (fun W => Below w.heap.size w W ∧ W.heap[w.heap.size]? = some (.cells (rg neg s x more) 54) ∧ W.heap[w.heap.size + 1]? = some (.cells (rg false 0 0 false) 54) ∧ W.heap[w3.heap.size]? = some (.cells (cw 6 K) 41) ∧ W.cell? ⟨w.heap.size, 0, none⟩ = some (.bool neg) ∧ W.cell? ⟨w.heap.size, 1, none⟩ = some (.int .u64 (wd s 0)) ∧ W.cell? ⟨w.heap.size, 2, none⟩ = some (.int .u64 (wd s 1)) ∧ W.cell? ⟨w.heap.size, 3, none⟩ = some (.int .u64 (wd s 2)) ∧ W.cell? ⟨w.heap.size, 4, none⟩ = some (.int .u64 (wd s 3)) ∧ W.cell? ⟨w.heap.size, 5, none⟩ = some (.int .u64 (wd s 4)) ∧ W.cell? ⟨w.heap.size, 6, none⟩ = some (.int .u64 (wd s 5)) ∧ W.cell? ⟨w.heap.size, 7, none⟩ = some (.int .i64 x) ∧ W.cell? ⟨w.heap.size, 8, none⟩ = some (.bool more) ∧ W.cell? ⟨w3.heap.size, 0, none⟩ = some (.int .u64 (wd K 0)) ∧ W.cell? ⟨w3.heap.size, 1, none⟩ = some (.int .u64 (wd K 1)) ∧ W.cell? ⟨w3.heap.size, 2, none⟩ = some (.int .u64 (wd K 2)) ∧ W.cell? ⟨w3.heap.size, 3, none⟩ = some (.int .u64 (wd K 3)) ∧ W.cell? ⟨w3.heap.size, 4, none⟩ = some (.int .u64 (wd K 4)) ∧ W.cell? ⟨w3.heap.size, 5, none⟩ = some (.int .u64 (wd K 5))) (first | exact sC.out _ s1 | exact sC.out _ s0)
  (((first | (go_at_call 97; refine (K3.out _).mono ?_) | (go_at_call 92; refine (K4.out _).mono ?_) | fail); rintro r wq ⟨rfl, bq⟩; (first | have s1 := sS.out _ _ s1 bq | have s1 := sS.out _ _ s0 bq); clear bq))
 have B5 := (And.left s1)
 have At := s1.2.1
 have Au := s1.2.2.1
 have Av := s1.2.2.2
 clear s0 s1 sS sC B4 Ar BO BP BQ BR BS BT BU BV BW As BX BY BZ B7 B8 B9 Ca Cb Cc Aq Ce
 obtain ⟨Cf, Cg, Ch, Ci, Cj, Ck, Cl, Cm, Cn⟩ := rg_cells At
 obtain ⟨Co, Cp, Cq, Cr, Cs, Ct, Cu, Cv, Cw⟩ := rg_cells Au
 have Cx := row_cell Av
 have qx : (wq).drew.heap[w.heap.size]? = some (.cells (rg neg s x more) 54) := At
 have qz : (wq).drew.heap[w.heap.size + 1]? = some (.cells (rg false 0 0 false) 54) := Au
 have qk : (wq).drew.heap[w3.heap.size]? = some (.cells (cw 6 K) 41) := Av
 have qB := B5.drew
 have qc := row_cell qk
 go_wp2_with fail
 go_region_with (((first | (go_at_call 84; refine (K5.out _).mono ?_) | (go_at_call 98; refine (K6.out _).mono ?_) | fail); rintro r wq ⟨rfl, bq⟩; have qx := heap_of bq _ _ _ qx; have qz := heap_of bq _ _ _ qz; have qk := heap_of bq _ _ _ qk; have qB := btr qB bq; have qc := row_cell qk; have hst := st_any wq (w3.heap.size) K' K qk; clear bq))
 all_goals
  have Ax : (wq.setRow (w3.heap.size) (cw 6 K')).heap[w3.heap.size]? = some (.cells (cw 6 K') 41) := setRow_row qk
  have B6 : Below w.heap.size w (wq.setRow (w3.heap.size) (cw 6 K')) := bel_set qB (show w.heap.size ≤ w3.heap.size by first | exact Nat.le_refl _ | omega | (have := S2.out; have := Ac.out; have := Ad.out; have := S4.out; have := Ah.out; have := Ai.out; have := Aj.out; omega))
  have Ay : (wq.setRow (w3.heap.size) (cw 6 K')).heap[w.heap.size]? = some (.cells (rg neg s x more) 54) := (setRow_other (by first | omega | (have := S2.out; have := Ac.out; have := Ad.out; have := S4.out; have := Ah.out; have := Ai.out; have := Aj.out; omega))).trans qx
  have Ak : (wq.setRow (w3.heap.size) (cw 6 K')).heap[w.heap.size + 1]? = some (.cells (rg false 0 0 false) 54) := (setRow_other (by first | omega | (have := S2.out; have := Ac.out; have := Ad.out; have := S4.out; have := Ah.out; have := Ai.out; have := Aj.out; omega))).trans qz
  obtain ⟨w6, Az⟩ : ∃ V, (wq.setRow (w3.heap.size) (cw 6 K')) = V := ⟨_, rfl⟩
  rw [Az] at B6 Ay Ak Ax ⊢
  clear Az qB qc hst qx qz qk B5 At Cf Cg Ch Ci Cj Ck Cl Cm Cn Au Co Cp Cq Cr Cs Ct Cu Cv Cw Av Cx
  obtain ⟨Cy, Cz, CA, CB, CC, CD, CE, CF, CG⟩ := rg_cells Ay
  obtain ⟨CH, CI, CJ, CK, CL, CM, CN, CO, CP⟩ := rg_cells Ak
  have CQ := row_cell Ax
  have hstz := st_r w6 (w.heap.size + 1) neg K' st false false 0 0 false Ak
  have RZ := setRow_row (c' := rg neg K' st false) Ak
  obtain ⟨dz0, dz1, dz2, dz3, dz4, dz5, dz6, dz7, dz8⟩ := rg_cells RZ
  have bz := bel_set (c := rg neg K' st false) B6 (show w.heap.size ≤ w.heap.size + 1 by first | exact Nat.le_refl _ | omega | (have := S2.out; have := Ac.out; have := Ad.out; have := S4.out; have := Ah.out; have := Ai.out; have := Aj.out; omega))
  go_wp2
  exact bodyPost_ret (v := .tuple #[.agg (rg neg K' st false), .bool ex]) (by simp [results, Tryz.results49, go_sem, dz0, dz1, dz2, dz3, dz4, dz5, dz6, dz7, dz8, rgf] <;> rfl) rfl ⟨rfl, bz⟩
end Go.Proofs.YtpgiabmmmpdobaaGreatDoor
