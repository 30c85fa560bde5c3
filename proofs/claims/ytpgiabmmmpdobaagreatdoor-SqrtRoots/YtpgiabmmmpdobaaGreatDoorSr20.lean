/-
  What the functions that the statement reaches return: part 20 (R31, R32).
-/
import Derived.Test.YtpgiabmmmpdobaaGreatDoorSr19
namespace Go.Proofs.YtpgiabmmmpdobaaGreatDoor
set_option maxRecDepth 100000
set_option maxHeartbeats 40000000
set_option maxRecDepth 100000
open Go.RowKit WMath
set_option linter.unusedSimpArgs false
set_option linter.unusedVariables false
theorem gen_round_encoding_8 {X : Act → World → Prop} {R : World → Nat → Prop} {t0 t1 t2 t3 t4 t5 t6 t7 t9 t10 t11 t12 t13 t14 t15 t16 t17 t18 t19 t20 t21 t22 t23 t24 t25 t26 t27 t28 t29 t30 t31 t32 t33 t34 t35 t36 t37 t38 t39 t40 t41 t42 t43 t44 t45 t46 : Value} {d : List Deferred} {W : World} {G : Nat}
  (key : ∀ w5 g, R w5 g → X ⟨#[t0, t1, t2, t3, t4, t5, t6, t7, .pointer (some ⟨g, 0, none⟩), t9, t10, t11, t12, t13, t14, t15, t16, t17, t18, t19, t20, t21, t22, t23, t24, t25, t26, t27, t28, t29, t30, t31, t32, t33, t34, t35, t36, t37, t38, t39, t40, t41, t42, t43, t44, t45, t46], d⟩ w5) (r : R W G) : X ⟨#[t0, t1, t2, t3, t4, t5, t6, t7, .pointer (some ⟨G, 0, none⟩), t9, t10, t11, t12, t13, t14, t15, t16, t17, t18, t19, t20, t21, t22, t23, t24, t25, t26, t27, t28, t29, t30, t31, t32, t33, t34, t35, t36, t37, t38, t39, t40, t41, t42, t43, t44, t45, t46], d⟩ W := key W G r

theorem rg_set2 (neg : Bool) (s t : Nat) (x : Int) (more : Bool) (h : ∀ k, k ≠ 1 → k < 6 → wd t k = wd s k) : (rg neg s x more).setIfInBounds 2 (.int .u64 (wd t 1)) = rg neg t x more := by
 have h0 := h 0 (by decide) (by decide)
 have h2 := h 2 (by decide) (by decide)
 have h3 := h 3 (by decide) (by decide)
 have h4 := h 4 (by decide) (by decide)
 have h5 := h 5 (by decide) (by decide)
 unfold rg
 rw [h0, h2, h3, h4, h5]
 rfl
theorem ro_encv (f p q : Int) (s : Nat) (Ah : IntKind.i64.wrap (p - 1) = q) (hq2 : Int.tdiv q 64 = 0) (hq3 : Int.tmod q 64 = (s : Int)) (hq4 : decide (q = -9223372036854775808) = false) (neg : Bool) (K K' S : Nat) (x I st A1 F G : Int) (u v zu zv O : Nat) (ob : Bool) (w : World)
  (KP : Box (∀ w, FAt w → Calls Tryz.prog 85 #[.int .u8 f] w fun r w' => r = .returned (.int .i64 p) ∧ Below w.heap.size w w'))
  (KI : Box (∀ w, FAt w → Calls Tryz.prog 52 #[.int .u8 f] w fun r w' => r = .returned (.int .i64 I) ∧ Below w.heap.size w w'))
  (KS : Box (∀ w, FAt w → Calls Tryz.prog 50 #[.int .u8 f, .int .i64 I] w fun r w' => r = .returned (.int .i64 st) ∧ Below w.heap.size w w'))
  (h1 : IntKind.i64.wrap (x - st) = A1) (h2 : IntKind.u64.wrap A1 = F) (h3 : IntKind.u64.wrap (F * 2 ^ min s 64) = G) (h4 : IntKind.u64.wrap (((wd K 0 : Nat) : Int) + G) = ((wd K' 0 : Nat) : Int))
  (hk : Box (∀ k, 0 < k → k < 6 → wd K' k = wd K k))
  (KZ : Box (∀ w, FAt w → Calls Tryz.prog 47 #[.int .u8 f, .bool neg] w fun r w' => r = .returned (.agg #[.int .u64 zu, .int .u64 zv]) ∧ Below w.heap.size w w'))
  (KB : Box (∀ w, Calls Tryz.prog 40 #[.agg #[.int .u64 zu, .int .u64 zv]] w fun r w' => r = .returned (.agg (cw 6 S)) ∧ Below w.heap.size w w'))
  (KO : Box (∀ w, Calls Tryz.prog 43 #[.agg (cw 6 K'), .agg (cw 6 S)] w fun r w' => r = .returned (.agg (cw 6 O)) ∧ Below w.heap.size w w'))
  (KT : Box (∀ w, Calls Tryz.prog 42 #[.agg (cw 6 O)] w fun r w' => r = .returned (.tuple #[.agg #[.int .u64 u, .int .u64 v], .bool ob]) ∧ Below w.heap.size w w')) (hT : FAt w) : Calls Tryz.prog 55 #[.int .u8 f, .agg (rg neg K x false)] w fun r w' => r = .returned (.agg #[.int .u64 u, .int .u64 v]) ∧ Below w.heap.size w w' := by
 have FF := box hT
 clear hT
 have hat := cw_at 6
 have hz := cw6z
 have hff := cw6f
 have hs0 := st0
 have hcs : ∀ x, ((cw 6 x).size = 6) = True := fun x => eq_true (cw_size 6 x)
 have hp1 := rgf
 have hp5 : ∀ (c : Bool) (s : Nat) (x : Int) (r : Bool), ((rg c s x r).size = 9) = True := fun _ _ _ _ => eq_true rfl
 obtain ⟨An, Ao, B0⟩ := opn2 w (Obj.cells (rg neg K x false) 54) (Obj.cells #[.int .u64 0, .int .u64 0] 26)
 go_enter Tryz.func55, Tryz.ntmps55
 go_wp2_with fail
 refine (KP.out _ (fatB FF.out B0)).mono ?_
 rintro r w1 ⟨rfl, b1⟩
 have B1 := btr B0 b1
 obtain ⟨Aa, Ab⟩ := rws2 b1 An Ao
 clear b1 B0 An Ao
 obtain ⟨At, Au, Av, Aw, Ax, Ay, Az, AA, AB⟩ := rg_cells Aa
 obtain ⟨AC, AD⟩ := cells2s Ab
 have sS : Box (∀ W W1 : World, (Below w.heap.size w W ∧ W.heap[w.heap.size]? = some (.cells (rg neg K x false) 54) ∧ W.heap[w.heap.size + 1]? = some (.cells #[.int .u64 0, .int .u64 0] 26) ∧ W.cell? ⟨w.heap.size, 0, none⟩ = some (.bool neg) ∧ W.cell? ⟨w.heap.size, 1, none⟩ = some (.int .u64 (wd K 0)) ∧ W.cell? ⟨w.heap.size, 2, none⟩ = some (.int .u64 (wd K 1)) ∧ W.cell? ⟨w.heap.size, 3, none⟩ = some (.int .u64 (wd K 2)) ∧ W.cell? ⟨w.heap.size, 4, none⟩ = some (.int .u64 (wd K 3)) ∧ W.cell? ⟨w.heap.size, 5, none⟩ = some (.int .u64 (wd K 4)) ∧ W.cell? ⟨w.heap.size, 6, none⟩ = some (.int .u64 (wd K 5)) ∧ W.cell? ⟨w.heap.size, 7, none⟩ = some (.int .i64 x) ∧ W.cell? ⟨w.heap.size, 8, none⟩ = some (.bool false) ∧ W.cell? ⟨w.heap.size + 1, 0, none⟩ = some (.int .u64 0) ∧ W.cell? ⟨w.heap.size + 1, 1, none⟩ = some (.int .u64 0)) → Below W.heap.size W W1 → (Below w.heap.size w W1 ∧ W1.heap[w.heap.size]? = some (.cells (rg neg K x false) 54) ∧ W1.heap[w.heap.size + 1]? = some (.cells #[.int .u64 0, .int .u64 0] 26) ∧ W1.cell? ⟨w.heap.size, 0, none⟩ = some (.bool neg) ∧ W1.cell? ⟨w.heap.size, 1, none⟩ = some (.int .u64 (wd K 0)) ∧ W1.cell? ⟨w.heap.size, 2, none⟩ = some (.int .u64 (wd K 1)) ∧ W1.cell? ⟨w.heap.size, 3, none⟩ = some (.int .u64 (wd K 2)) ∧ W1.cell? ⟨w.heap.size, 4, none⟩ = some (.int .u64 (wd K 3)) ∧ W1.cell? ⟨w.heap.size, 5, none⟩ = some (.int .u64 (wd K 4)) ∧ W1.cell? ⟨w.heap.size, 6, none⟩ = some (.int .u64 (wd K 5)) ∧ W1.cell? ⟨w.heap.size, 7, none⟩ = some (.int .i64 x) ∧ W1.cell? ⟨w.heap.size, 8, none⟩ = some (.bool false) ∧ W1.cell? ⟨w.heap.size + 1, 0, none⟩ = some (.int .u64 0) ∧ W1.cell? ⟨w.heap.size + 1, 1, none⟩ = some (.int .u64 0))) := box (fun W W1 h b => ⟨btr h.1 b, heap_of b _ _ _ h.2.1, heap_of b _ _ _ h.2.2.1, cell7 (heap_of b _ _ _ h.2.1) 0 _ rfl, cell7 (heap_of b _ _ _ h.2.1) 1 _ rfl, cell7 (heap_of b _ _ _ h.2.1) 2 _ rfl, cell7 (heap_of b _ _ _ h.2.1) 3 _ rfl, cell7 (heap_of b _ _ _ h.2.1) 4 _ rfl, cell7 (heap_of b _ _ _ h.2.1) 5 _ rfl, cell7 (heap_of b _ _ _ h.2.1) 6 _ rfl, cell7 (heap_of b _ _ _ h.2.1) 7 _ rfl, cell7 (heap_of b _ _ _ h.2.1) 8 _ rfl, cell7 (heap_of b _ _ _ h.2.2.1) 0 _ rfl, cell7 (heap_of b _ _ _ h.2.2.1) 1 _ rfl⟩)
 have s0 : Below w.heap.size w (w1).drew ∧ (w1).drew.heap[w.heap.size]? = some (.cells (rg neg K x false) 54) ∧ (w1).drew.heap[w.heap.size + 1]? = some (.cells #[.int .u64 0, .int .u64 0] 26) ∧ (w1).drew.cell? ⟨w.heap.size, 0, none⟩ = some (.bool neg) ∧ (w1).drew.cell? ⟨w.heap.size, 1, none⟩ = some (.int .u64 (wd K 0)) ∧ (w1).drew.cell? ⟨w.heap.size, 2, none⟩ = some (.int .u64 (wd K 1)) ∧ (w1).drew.cell? ⟨w.heap.size, 3, none⟩ = some (.int .u64 (wd K 2)) ∧ (w1).drew.cell? ⟨w.heap.size, 4, none⟩ = some (.int .u64 (wd K 3)) ∧ (w1).drew.cell? ⟨w.heap.size, 5, none⟩ = some (.int .u64 (wd K 4)) ∧ (w1).drew.cell? ⟨w.heap.size, 6, none⟩ = some (.int .u64 (wd K 5)) ∧ (w1).drew.cell? ⟨w.heap.size, 7, none⟩ = some (.int .i64 x) ∧ (w1).drew.cell? ⟨w.heap.size, 8, none⟩ = some (.bool false) ∧ (w1).drew.cell? ⟨w.heap.size + 1, 0, none⟩ = some (.int .u64 0) ∧ (w1).drew.cell? ⟨w.heap.size + 1, 1, none⟩ = some (.int .u64 0) := ⟨B1.drew, Aa, Ab, cell7 (Aa) 0 _ rfl, cell7 (Aa) 1 _ rfl, cell7 (Aa) 2 _ rfl, cell7 (Aa) 3 _ rfl, cell7 (Aa) 4 _ rfl, cell7 (Aa) 5 _ rfl, cell7 (Aa) 6 _ rfl, cell7 (Aa) 7 _ rfl, cell7 (Aa) 8 _ rfl, cell7 (Ab) 0 _ rfl, cell7 (Ab) 1 _ rfl⟩
 go_wp2_with fail
 go_region_held3 (fun W => Below w.heap.size w W ∧ W.heap[w.heap.size]? = some (.cells (rg neg K x false) 54) ∧ W.heap[w.heap.size + 1]? = some (.cells #[.int .u64 0, .int .u64 0] 26) ∧ W.cell? ⟨w.heap.size, 0, none⟩ = some (.bool neg) ∧ W.cell? ⟨w.heap.size, 1, none⟩ = some (.int .u64 (wd K 0)) ∧ W.cell? ⟨w.heap.size, 2, none⟩ = some (.int .u64 (wd K 1)) ∧ W.cell? ⟨w.heap.size, 3, none⟩ = some (.int .u64 (wd K 2)) ∧ W.cell? ⟨w.heap.size, 4, none⟩ = some (.int .u64 (wd K 3)) ∧ W.cell? ⟨w.heap.size, 5, none⟩ = some (.int .u64 (wd K 4)) ∧ W.cell? ⟨w.heap.size, 6, none⟩ = some (.int .u64 (wd K 5)) ∧ W.cell? ⟨w.heap.size, 7, none⟩ = some (.int .i64 x) ∧ W.cell? ⟨w.heap.size, 8, none⟩ = some (.bool false) ∧ W.cell? ⟨w.heap.size + 1, 0, none⟩ = some (.int .u64 0) ∧ W.cell? ⟨w.heap.size + 1, 1, none⟩ = some (.int .u64 0)) (first | exact s1 | exact s0)
  (((first | (go_at_call 52; (first | refine (KI.out _ (fatB FF.out (And.left s1))).mono ?_ | refine (KI.out _ (fatB FF.out (And.left s0))).mono ?_)) | (go_at_call 50; (first | refine (KS.out _ (fatB FF.out (And.left s1))).mono ?_ | refine (KS.out _ (fatB FF.out (And.left s0))).mono ?_)) | fail); rintro r wq ⟨rfl, bq⟩; have s1 := (by first | exact sS.out _ _ s1 bq | exact sS.out _ _ s0 bq); clear bq))
 have B2 := (And.left s1)
 have Ai := s1.2.1
 have Aj := s1.2.2.1
 clear s0 s1 sS B1 Aa At Au Av Aw Ax Ay Az AA AB Ab AC AD
 obtain ⟨AE, AF, AG, AH, AI, AJ, AK, AL, AM⟩ := rg_cells Ai
 obtain ⟨AN, AO⟩ := cells2s Aj
 have sT : Box (∀ (W : World) (xA : Value), (Below w.heap.size w W ∧ W.heap[w.heap.size + 1]? = some (.cells #[.int .u64 0, .int .u64 0] 26)) → (Below w.heap.size w (W.setCell ⟨w.heap.size, 1, none⟩ xA) ∧ (W.setCell ⟨w.heap.size, 1, none⟩ xA).heap[w.heap.size + 1]? = some (.cells #[.int .u64 0, .int .u64 0] 26))) := box (fun W xA h => ⟨Below.setCell h.1 (show w.heap.size ≤ w.heap.size by first | exact Nat.le_refl _ | omega | (skip; omega)) xA, (setCell_other (by first | omega | (skip; omega))).trans h.2⟩)
 have s0 : Below w.heap.size w wq ∧ wq.heap[w.heap.size + 1]? = some (.cells #[.int .u64 0, .int .u64 0] 26) := ⟨B2, Aj⟩
 have rz : wq.heap[w.heap.size]? = some (.cells (rg neg K x false) 54) := Ai
 have hqz := fz (k := 1) rz
 obtain ⟨hz0, hz1, hz2, hz3, hz4, hz5, hz6, hz7, hz8⟩ := rg_cells rz
 go_wp2_with fail
 go_region
 have s2 : Below w.heap.size w (wq.setCell ⟨w.heap.size, 1, none⟩ (.int .u64 ((wd K' 0 : Nat) : Int))) ∧ (wq.setCell ⟨w.heap.size, 1, none⟩ (.int .u64 ((wd K' 0 : Nat) : Int))).heap[w.heap.size + 1]? = some (.cells #[.int .u64 0, .int .u64 0] 26) := sT.out _ _ s0
 have Ac : ((wq.setCell ⟨w.heap.size, 1, none⟩ (.int .u64 ((wd K' 0 : Nat) : Int))).drew).heap[w.heap.size]? = some (.cells (rg neg K' x false) 54) := (by rw [setCell_row rz]; rw [rg_set1 neg K K' x false hk.out] : (wq.setCell ⟨w.heap.size, 1, none⟩ (.int .u64 ((wd K' 0 : Nat) : Int))).heap[w.heap.size]? = some (.cells (rg neg K' x false) 54))
 have B3 : Below w.heap.size w ((wq.setCell ⟨w.heap.size, 1, none⟩ (.int .u64 ((wd K' 0 : Nat) : Int))).drew) := (And.left s2).drew
 have Ad : ((wq.setCell ⟨w.heap.size, 1, none⟩ (.int .u64 ((wd K' 0 : Nat) : Int))).drew).heap[w.heap.size + 1]? = some (.cells #[.int .u64 0, .int .u64 0] 26) := s2.2
 obtain ⟨w3, Ap⟩ : ∃ V, ((wq.setCell ⟨w.heap.size, 1, none⟩ (.int .u64 ((wd K' 0 : Nat) : Int))).drew) = V := ⟨_, rfl⟩
 rw [Ap] at B3 Ac Ad ⊢
 clear Ap sT s0 s2 rz hqz hz0 hz1 hz2 hz3 hz4 hz5 hz6 hz7 hz8 B2 Ai AE AF AG AH AI AJ AK AL AM Aj AN AO
 obtain ⟨AP, AQ, AR, AS, AT, AU, AV, AW, AX⟩ := rg_cells Ac
 obtain ⟨AY, AZ⟩ := cells2s Ad
 go_wp2_with fail
 refine (KZ.out _ (fatB FF.out B3)).mono ?_
 rintro r w4 ⟨rfl, b4⟩
 have B4 := btr B3 b4
 obtain ⟨Ae, Af⟩ := rws2 b4 Ac Ad
 clear b4 B3 Ac AP AQ AR AS AT AU AV AW AX Ad AY AZ
 obtain ⟨A0, A2, A3, A4, A5, A6, A7, A8, A9⟩ := rg_cells Ae
 obtain ⟨Ba, Bb⟩ := cells2s Af
 have S5 := box B4.size
 have Bc := ltR Ae
 have Bd := ltR Af
 have Ak := heap_alloc_last w4 (Obj.cells #[.int .u64 zu, .int .u64 zv] 26)
 have B5 := btr B4 (bal w4 (Obj.cells #[.int .u64 zu, .int .u64 zv] 26))
 obtain ⟨Al, Am⟩ := rws2 (bal w4 (Obj.cells #[.int .u64 zu, .int .u64 zv] 26)) Ae Af
 clear B4 Ae A0 A2 A3 A4 A5 A6 A7 A8 A9 Af Ba Bb
 obtain ⟨Be, Bf, Bg, Bh, Bi, Bj, Bk, Bl, Bm⟩ := rg_cells Al
 obtain ⟨Bn, Bo⟩ := cells2s Am
 obtain ⟨Bp, Bq⟩ := cells2s Ak
 have sS : Box (∀ W W1 : World, (Below w.heap.size w W ∧ W.heap[w.heap.size]? = some (.cells (rg neg K' x false) 54) ∧ W.heap[w.heap.size + 1]? = some (.cells #[.int .u64 0, .int .u64 0] 26) ∧ W.heap[w4.heap.size]? = some (.cells #[.int .u64 zu, .int .u64 zv] 26)) → Below W.heap.size W W1 → (Below w.heap.size w W1 ∧ W1.heap[w.heap.size]? = some (.cells (rg neg K' x false) 54) ∧ W1.heap[w.heap.size + 1]? = some (.cells #[.int .u64 0, .int .u64 0] 26) ∧ W1.heap[w4.heap.size]? = some (.cells #[.int .u64 zu, .int .u64 zv] 26))) := box (fun W W1 h b => ⟨btr h.1 b, heap_of b _ _ _ h.2.1, heap_of b _ _ _ h.2.2.1, heap_of b _ _ _ h.2.2.2⟩)
 have sL : Box (∀ W : World, (Below w.heap.size w W ∧ W.heap[w.heap.size]? = some (.cells (rg neg K' x false) 54) ∧ W.heap[w.heap.size + 1]? = some (.cells #[.int .u64 0, .int .u64 0] 26) ∧ W.heap[w4.heap.size]? = some (.cells #[.int .u64 zu, .int .u64 zv] 26)) → (w.heap.size < W.heap.size ∧ w.heap.size + 1 < W.heap.size ∧ w4.heap.size < W.heap.size)) := box (fun W h => ⟨(Array.getElem?_eq_some_iff.1 h.2.1).1, (Array.getElem?_eq_some_iff.1 h.2.2.1).1, (Array.getElem?_eq_some_iff.1 h.2.2.2).1⟩)
 have sT : Box (∀ (W : World) (gN : Nat) (xA xB : Value), (Below w.heap.size w W ∧ W.heap[w.heap.size]? = some (.cells (rg neg K' x false) 54) ∧ W.heap[w.heap.size + 1]? = some (.cells #[.int .u64 0, .int .u64 0] 26) ∧ W.heap[w4.heap.size]? = some (.cells #[.int .u64 zu, .int .u64 zv] 26)) → (w.heap.size < gN ∧ w.heap.size + 1 < gN ∧ w4.heap.size < gN) → (Below w.heap.size w ((W.setCell ⟨gN, 0, none⟩ xA).setCell ⟨gN, 1, none⟩ xB) ∧ ((W.setCell ⟨gN, 0, none⟩ xA).setCell ⟨gN, 1, none⟩ xB).heap[w.heap.size]? = some (.cells (rg neg K' x false) 54) ∧ ((W.setCell ⟨gN, 0, none⟩ xA).setCell ⟨gN, 1, none⟩ xB).heap[w.heap.size + 1]? = some (.cells #[.int .u64 0, .int .u64 0] 26) ∧ ((W.setCell ⟨gN, 0, none⟩ xA).setCell ⟨gN, 1, none⟩ xB).heap[w4.heap.size]? = some (.cells #[.int .u64 zu, .int .u64 zv] 26))) := box (fun W gN xA xB h l => ⟨set2_below h.1 (show w.heap.size ≤ gN by have := l.1; omega) _ _, (setCell_other (by have := l.1; omega)).trans ((setCell_other (by have := l.1; omega)).trans h.2.1), (setCell_other (by have := l.2.1; omega)).trans ((setCell_other (by have := l.2.1; omega)).trans h.2.2.1), (setCell_other (by have := l.2.2; omega)).trans ((setCell_other (by have := l.2.2; omega)).trans h.2.2.2)⟩)
 have sC : Box (∀ W : World, (Below w.heap.size w W ∧ W.heap[w.heap.size]? = some (.cells (rg neg K' x false) 54) ∧ W.heap[w.heap.size + 1]? = some (.cells #[.int .u64 0, .int .u64 0] 26) ∧ W.heap[w4.heap.size]? = some (.cells #[.int .u64 zu, .int .u64 zv] 26)) → (Below w.heap.size w W ∧ W.heap[w.heap.size]? = some (.cells (rg neg K' x false) 54) ∧ W.heap[w.heap.size + 1]? = some (.cells #[.int .u64 0, .int .u64 0] 26) ∧ W.heap[w4.heap.size]? = some (.cells #[.int .u64 zu, .int .u64 zv] 26) ∧ W.cell? ⟨w.heap.size, 0, none⟩ = some (.bool neg) ∧ W.cell? ⟨w.heap.size, 1, none⟩ = some (.int .u64 ((wd K' 0 : Nat) : Int)) ∧ W.cell? ⟨w.heap.size, 2, none⟩ = some (.int .u64 ((wd K' 1 : Nat) : Int)) ∧ W.cell? ⟨w.heap.size, 3, none⟩ = some (.int .u64 ((wd K' 2 : Nat) : Int)) ∧ W.cell? ⟨w.heap.size, 4, none⟩ = some (.int .u64 ((wd K' 3 : Nat) : Int)) ∧ W.cell? ⟨w.heap.size, 5, none⟩ = some (.int .u64 ((wd K' 4 : Nat) : Int)) ∧ W.cell? ⟨w.heap.size, 6, none⟩ = some (.int .u64 ((wd K' 5 : Nat) : Int)) ∧ W.cell? ⟨w.heap.size, 7, none⟩ = some (.int .i64 x) ∧ W.cell? ⟨w.heap.size, 8, none⟩ = some (.bool false) ∧ W.cell? ⟨w.heap.size + 1, 0, none⟩ = some (.int .u64 0) ∧ W.cell? ⟨w.heap.size + 1, 1, none⟩ = some (.int .u64 0) ∧ W.cell? ⟨w4.heap.size, 0, none⟩ = some (.int .u64 zu) ∧ W.cell? ⟨w4.heap.size, 1, none⟩ = some (.int .u64 zv))) := box (fun W h => ⟨h.1, h.2.1, h.2.2.1, h.2.2.2, cell7 (h.2.1) 0 _ rfl, cell7 (h.2.1) 1 _ rfl, cell7 (h.2.1) 2 _ rfl, cell7 (h.2.1) 3 _ rfl, cell7 (h.2.1) 4 _ rfl, cell7 (h.2.1) 5 _ rfl, cell7 (h.2.1) 6 _ rfl, cell7 (h.2.1) 7 _ rfl, cell7 (h.2.1) 8 _ rfl, cell7 (h.2.2.1) 0 _ rfl, cell7 (h.2.2.1) 1 _ rfl, cell7 (h.2.2.2) 0 _ rfl, cell7 (h.2.2.2) 1 _ rfl⟩)
 have s0 : Below w.heap.size w ((w4.alloc (Obj.cells #[.int .u64 zu, .int .u64 zv] 26))).drew ∧ ((w4.alloc (Obj.cells #[.int .u64 zu, .int .u64 zv] 26))).drew.heap[w.heap.size]? = some (.cells (rg neg K' x false) 54) ∧ ((w4.alloc (Obj.cells #[.int .u64 zu, .int .u64 zv] 26))).drew.heap[w.heap.size + 1]? = some (.cells #[.int .u64 0, .int .u64 0] 26) ∧ ((w4.alloc (Obj.cells #[.int .u64 zu, .int .u64 zv] 26))).drew.heap[w4.heap.size]? = some (.cells #[.int .u64 zu, .int .u64 zv] 26) := ⟨B5.drew, Al, Am, Ak⟩
 clear B5 Al Be Bf Bg Bh Bi Bj Bk Bl Bm Am Bn Bo Ak Bp Bq
 go_wp2_with fail
 apply cut7
 ·
  intro key0
  have key := box key0
  clear key0
  go_region_held3 (fun W => Below w.heap.size w W ∧ W.heap[w.heap.size]? = some (.cells (rg neg K' x false) 54) ∧ W.heap[w.heap.size + 1]? = some (.cells #[.int .u64 0, .int .u64 0] 26) ∧ W.heap[w4.heap.size]? = some (.cells #[.int .u64 zu, .int .u64 zv] 26) ∧ W.cell? ⟨w.heap.size, 0, none⟩ = some (.bool neg) ∧ W.cell? ⟨w.heap.size, 1, none⟩ = some (.int .u64 ((wd K' 0 : Nat) : Int)) ∧ W.cell? ⟨w.heap.size, 2, none⟩ = some (.int .u64 ((wd K' 1 : Nat) : Int)) ∧ W.cell? ⟨w.heap.size, 3, none⟩ = some (.int .u64 ((wd K' 2 : Nat) : Int)) ∧ W.cell? ⟨w.heap.size, 4, none⟩ = some (.int .u64 ((wd K' 3 : Nat) : Int)) ∧ W.cell? ⟨w.heap.size, 5, none⟩ = some (.int .u64 ((wd K' 4 : Nat) : Int)) ∧ W.cell? ⟨w.heap.size, 6, none⟩ = some (.int .u64 ((wd K' 5 : Nat) : Int)) ∧ W.cell? ⟨w.heap.size, 7, none⟩ = some (.int .i64 x) ∧ W.cell? ⟨w.heap.size, 8, none⟩ = some (.bool false) ∧ W.cell? ⟨w.heap.size + 1, 0, none⟩ = some (.int .u64 0) ∧ W.cell? ⟨w.heap.size + 1, 1, none⟩ = some (.int .u64 0) ∧ W.cell? ⟨w4.heap.size, 0, none⟩ = some (.int .u64 zu) ∧ W.cell? ⟨w4.heap.size, 1, none⟩ = some (.int .u64 zv)) (first | exact sC.out _ s1 | exact sC.out _ s0 | exact sC.out _ (sS.out _ _ s1 (bal _ _)) | exact sC.out _ (sS.out _ _ s0 (bal _ _)) | exact sC.out _ (sT.out _ _ _ _ s1 hl))
   (((first | (go_at_call 40; (first | refine (KB.out _).mono ?_ | refine (KB.out _).mono ?_)) | (go_at_call 43; (first | refine (KO.out _).mono ?_ | refine (KO.out _).mono ?_)) | (go_at_call 42; (first | refine (KT.out _).mono ?_ | refine (KT.out _).mono ?_)) | fail); rintro r wq ⟨rfl, bq⟩; (first | (have hg := heap_of bq _ _ _ (heap_alloc_last _ _); have hl := (by first | exact sL.out _ s1 | exact sL.out _ s0)) | have hg := heap_of bq _ _ _ hg | skip); (try simp only [size_dr, size_al] at hg hl); (first | (have Aq := fz (k := 0) hg; have Ah := fz (k := 1) hg; have Ar := cell7 hg 0 _ rfl; have As := cell7 hg 1 _ rfl) | skip); have s2 := (by first | exact sS.out _ _ s1 bq | exact sS.out _ _ s0 bq | exact sS.out _ _ (sS.out _ _ s1 (bal _ _)) bq | exact sS.out _ _ (sS.out _ _ s0 (bal _ _)) bq); (try clear s1); have s1 := s2; clear s2 bq))
  all_goals
   refine gen_round_encoding_8 (R := fun W gN => (Below w.heap.size w W ∧ W.heap[w.heap.size]? = some (.cells (rg neg K' x false) 54) ∧ W.heap[w.heap.size + 1]? = some (.cells #[.int .u64 0, .int .u64 0] 26) ∧ W.heap[w4.heap.size]? = some (.cells #[.int .u64 zu, .int .u64 zv] 26)) ∧ W.heap[gN]? = some (.cells #[.int .u64 u, .int .u64 v] 26) ∧ (w.heap.size < gN ∧ w.heap.size + 1 < gN ∧ w4.heap.size < gN)) key.out ?_
   first
    | exact ⟨(sT.out _ _ _ _ s1 hl), set2_row hg _ _, hl⟩
    | exact ⟨sS.out _ _ s1 (bal _ _), heap_alloc_last _ _, sL.out _ s1⟩
    | exact ⟨sS.out _ _ s0 (bal _ _), heap_alloc_last _ _, sL.out _ s0⟩
 rintro w6 g6 ⟨s1, Br, l6⟩
 have B6 := And.left s1
 have Bs := s1.2.1
 have Ag := s1.2.2.1
 have Bt := s1.2.2.2
 have H6 := box l6
 clear s0 s1 sS sC sL sT l6
 obtain ⟨Bu, Bv, Bw, Bx, By, Bz, BA, BB, BC⟩ := rg_cells Bs
 obtain ⟨BD, BE⟩ := cells2s Ag
 obtain ⟨BF, BG⟩ := cells2s Bt
 obtain ⟨BH, BI⟩ := cells2s Br
 have q0 := fz (k := 0) Ag
 have q1 := fz (k := 1) Ag
 obtain ⟨E0, E1⟩ := set2_cells Ag (.int .u64 u) (.int .u64 v)
 go_wp2
 exact bodyPost_ret (v := .agg #[.int .u64 u, .int .u64 v]) (by simp [results, Tryz.results55, go_sem, E0, E1]) rfl ⟨rfl, set2_below B6 (by first | exact Nat.le_refl _ | omega | (have := S5.out; have := Bc.out; have := Bd.out; have := H6.out; omega)) _ _⟩
theorem ro_enc_3 (neg : Bool) (K K' S : Nat) (x I st A1 F G : Int) (u v zu zv O : Nat) (ob : Bool) (w : World)
  (KP : Box (∀ w, FAt w → Calls Tryz.prog 85 #[.int .u8 3] w fun r w' => r = .returned (.int .i64 113) ∧ Below w.heap.size w w'))
  (KI : Box (∀ w, FAt w → Calls Tryz.prog 52 #[.int .u8 3] w fun r w' => r = .returned (.int .i64 I) ∧ Below w.heap.size w w'))
  (KS : Box (∀ w, FAt w → Calls Tryz.prog 50 #[.int .u8 3, .int .i64 I] w fun r w' => r = .returned (.int .i64 st) ∧ Below w.heap.size w w'))
  (h1 : IntKind.i64.wrap (x - st) = A1) (h2 : IntKind.u64.wrap A1 = F) (h3 : IntKind.u64.wrap (F * 281474976710656) = G) (h4 : IntKind.u64.wrap (((wd K 1 : Nat) : Int) + G) = ((wd K' 1 : Nat) : Int))
  (hk : Box (∀ k, k ≠ 1 → k < 6 → wd K' k = wd K k))
  (KZ : Box (∀ w, FAt w → Calls Tryz.prog 47 #[.int .u8 3, .bool neg] w fun r w' => r = .returned (.agg #[.int .u64 zu, .int .u64 zv]) ∧ Below w.heap.size w w'))
  (KB : Box (∀ w, Calls Tryz.prog 40 #[.agg #[.int .u64 zu, .int .u64 zv]] w fun r w' => r = .returned (.agg (cw 6 S)) ∧ Below w.heap.size w w'))
  (KO : Box (∀ w, Calls Tryz.prog 43 #[.agg (cw 6 K'), .agg (cw 6 S)] w fun r w' => r = .returned (.agg (cw 6 O)) ∧ Below w.heap.size w w'))
  (KT : Box (∀ w, Calls Tryz.prog 42 #[.agg (cw 6 O)] w fun r w' => r = .returned (.tuple #[.agg #[.int .u64 u, .int .u64 v], .bool ob]) ∧ Below w.heap.size w w')) (hT : FAt w) : Calls Tryz.prog 55 #[.int .u8 3, .agg (rg neg K x false)] w fun r w' => r = .returned (.agg #[.int .u64 u, .int .u64 v]) ∧ Below w.heap.size w w' := by
 have FF := box hT
 clear hT
 have hat := cw_at 6
 have hz := cw6z
 have hff := cw6f
 have hs0 := st0
 have hcs : ∀ x, ((cw 6 x).size = 6) = True := fun x => eq_true (cw_size 6 x)
 have hp1 := rgf
 have hp5 : ∀ (c : Bool) (s : Nat) (x : Int) (r : Bool), ((rg c s x r).size = 9) = True := fun _ _ _ _ => eq_true rfl
 obtain ⟨Am, An, B0⟩ := opn2 w (Obj.cells (rg neg K x false) 54) (Obj.cells #[.int .u64 0, .int .u64 0] 26)
 go_enter Tryz.func55, Tryz.ntmps55
 go_wp2_with fail
 refine (KP.out _ (fatB FF.out B0)).mono ?_
 rintro r w1 ⟨rfl, b1⟩
 have B1 := btr B0 b1
 obtain ⟨Aa, Ab⟩ := rws2 b1 Am An
 clear b1 B0 Am An
 obtain ⟨At, Au, Av, Aw, Ax, Ay, Az, AA, AB⟩ := rg_cells Aa
 obtain ⟨AC, AD⟩ := cells2s Ab
 have sS : Box (∀ W W1 : World, (Below w.heap.size w W ∧ W.heap[w.heap.size]? = some (.cells (rg neg K x false) 54) ∧ W.heap[w.heap.size + 1]? = some (.cells #[.int .u64 0, .int .u64 0] 26) ∧ W.cell? ⟨w.heap.size, 0, none⟩ = some (.bool neg) ∧ W.cell? ⟨w.heap.size, 1, none⟩ = some (.int .u64 (wd K 0)) ∧ W.cell? ⟨w.heap.size, 2, none⟩ = some (.int .u64 (wd K 1)) ∧ W.cell? ⟨w.heap.size, 3, none⟩ = some (.int .u64 (wd K 2)) ∧ W.cell? ⟨w.heap.size, 4, none⟩ = some (.int .u64 (wd K 3)) ∧ W.cell? ⟨w.heap.size, 5, none⟩ = some (.int .u64 (wd K 4)) ∧ W.cell? ⟨w.heap.size, 6, none⟩ = some (.int .u64 (wd K 5)) ∧ W.cell? ⟨w.heap.size, 7, none⟩ = some (.int .i64 x) ∧ W.cell? ⟨w.heap.size, 8, none⟩ = some (.bool false) ∧ W.cell? ⟨w.heap.size + 1, 0, none⟩ = some (.int .u64 0) ∧ W.cell? ⟨w.heap.size + 1, 1, none⟩ = some (.int .u64 0)) → Below W.heap.size W W1 → (Below w.heap.size w W1 ∧ W1.heap[w.heap.size]? = some (.cells (rg neg K x false) 54) ∧ W1.heap[w.heap.size + 1]? = some (.cells #[.int .u64 0, .int .u64 0] 26) ∧ W1.cell? ⟨w.heap.size, 0, none⟩ = some (.bool neg) ∧ W1.cell? ⟨w.heap.size, 1, none⟩ = some (.int .u64 (wd K 0)) ∧ W1.cell? ⟨w.heap.size, 2, none⟩ = some (.int .u64 (wd K 1)) ∧ W1.cell? ⟨w.heap.size, 3, none⟩ = some (.int .u64 (wd K 2)) ∧ W1.cell? ⟨w.heap.size, 4, none⟩ = some (.int .u64 (wd K 3)) ∧ W1.cell? ⟨w.heap.size, 5, none⟩ = some (.int .u64 (wd K 4)) ∧ W1.cell? ⟨w.heap.size, 6, none⟩ = some (.int .u64 (wd K 5)) ∧ W1.cell? ⟨w.heap.size, 7, none⟩ = some (.int .i64 x) ∧ W1.cell? ⟨w.heap.size, 8, none⟩ = some (.bool false) ∧ W1.cell? ⟨w.heap.size + 1, 0, none⟩ = some (.int .u64 0) ∧ W1.cell? ⟨w.heap.size + 1, 1, none⟩ = some (.int .u64 0))) := box (fun W W1 h b => ⟨btr h.1 b, heap_of b _ _ _ h.2.1, heap_of b _ _ _ h.2.2.1, cell7 (heap_of b _ _ _ h.2.1) 0 _ rfl, cell7 (heap_of b _ _ _ h.2.1) 1 _ rfl, cell7 (heap_of b _ _ _ h.2.1) 2 _ rfl, cell7 (heap_of b _ _ _ h.2.1) 3 _ rfl, cell7 (heap_of b _ _ _ h.2.1) 4 _ rfl, cell7 (heap_of b _ _ _ h.2.1) 5 _ rfl, cell7 (heap_of b _ _ _ h.2.1) 6 _ rfl, cell7 (heap_of b _ _ _ h.2.1) 7 _ rfl, cell7 (heap_of b _ _ _ h.2.1) 8 _ rfl, cell7 (heap_of b _ _ _ h.2.2.1) 0 _ rfl, cell7 (heap_of b _ _ _ h.2.2.1) 1 _ rfl⟩)
 have s0 : Below w.heap.size w (w1).drew ∧ (w1).drew.heap[w.heap.size]? = some (.cells (rg neg K x false) 54) ∧ (w1).drew.heap[w.heap.size + 1]? = some (.cells #[.int .u64 0, .int .u64 0] 26) ∧ (w1).drew.cell? ⟨w.heap.size, 0, none⟩ = some (.bool neg) ∧ (w1).drew.cell? ⟨w.heap.size, 1, none⟩ = some (.int .u64 (wd K 0)) ∧ (w1).drew.cell? ⟨w.heap.size, 2, none⟩ = some (.int .u64 (wd K 1)) ∧ (w1).drew.cell? ⟨w.heap.size, 3, none⟩ = some (.int .u64 (wd K 2)) ∧ (w1).drew.cell? ⟨w.heap.size, 4, none⟩ = some (.int .u64 (wd K 3)) ∧ (w1).drew.cell? ⟨w.heap.size, 5, none⟩ = some (.int .u64 (wd K 4)) ∧ (w1).drew.cell? ⟨w.heap.size, 6, none⟩ = some (.int .u64 (wd K 5)) ∧ (w1).drew.cell? ⟨w.heap.size, 7, none⟩ = some (.int .i64 x) ∧ (w1).drew.cell? ⟨w.heap.size, 8, none⟩ = some (.bool false) ∧ (w1).drew.cell? ⟨w.heap.size + 1, 0, none⟩ = some (.int .u64 0) ∧ (w1).drew.cell? ⟨w.heap.size + 1, 1, none⟩ = some (.int .u64 0) := ⟨B1.drew, Aa, Ab, cell7 (Aa) 0 _ rfl, cell7 (Aa) 1 _ rfl, cell7 (Aa) 2 _ rfl, cell7 (Aa) 3 _ rfl, cell7 (Aa) 4 _ rfl, cell7 (Aa) 5 _ rfl, cell7 (Aa) 6 _ rfl, cell7 (Aa) 7 _ rfl, cell7 (Aa) 8 _ rfl, cell7 (Ab) 0 _ rfl, cell7 (Ab) 1 _ rfl⟩
 go_wp2_with fail
 go_region_held3 (fun W => Below w.heap.size w W ∧ W.heap[w.heap.size]? = some (.cells (rg neg K x false) 54) ∧ W.heap[w.heap.size + 1]? = some (.cells #[.int .u64 0, .int .u64 0] 26) ∧ W.cell? ⟨w.heap.size, 0, none⟩ = some (.bool neg) ∧ W.cell? ⟨w.heap.size, 1, none⟩ = some (.int .u64 (wd K 0)) ∧ W.cell? ⟨w.heap.size, 2, none⟩ = some (.int .u64 (wd K 1)) ∧ W.cell? ⟨w.heap.size, 3, none⟩ = some (.int .u64 (wd K 2)) ∧ W.cell? ⟨w.heap.size, 4, none⟩ = some (.int .u64 (wd K 3)) ∧ W.cell? ⟨w.heap.size, 5, none⟩ = some (.int .u64 (wd K 4)) ∧ W.cell? ⟨w.heap.size, 6, none⟩ = some (.int .u64 (wd K 5)) ∧ W.cell? ⟨w.heap.size, 7, none⟩ = some (.int .i64 x) ∧ W.cell? ⟨w.heap.size, 8, none⟩ = some (.bool false) ∧ W.cell? ⟨w.heap.size + 1, 0, none⟩ = some (.int .u64 0) ∧ W.cell? ⟨w.heap.size + 1, 1, none⟩ = some (.int .u64 0)) (first | exact s1 | exact s0)
  (((first | (go_at_call 52; (first | refine (KI.out _ (fatB FF.out (And.left s1))).mono ?_ | refine (KI.out _ (fatB FF.out (And.left s0))).mono ?_)) | (go_at_call 50; (first | refine (KS.out _ (fatB FF.out (And.left s1))).mono ?_ | refine (KS.out _ (fatB FF.out (And.left s0))).mono ?_)) | fail); rintro r wq ⟨rfl, bq⟩; have s1 := (by first | exact sS.out _ _ s1 bq | exact sS.out _ _ s0 bq); clear bq))
 have B2 := (And.left s1)
 have Ah := s1.2.1
 have Ai := s1.2.2.1
 clear s0 s1 sS B1 Aa At Au Av Aw Ax Ay Az AA AB Ab AC AD
 obtain ⟨AE, AF, AG, AH, AI, AJ, AK, AL, AM⟩ := rg_cells Ah
 obtain ⟨AN, AO⟩ := cells2s Ai
 have sT : Box (∀ (W : World) (xA : Value), (Below w.heap.size w W ∧ W.heap[w.heap.size + 1]? = some (.cells #[.int .u64 0, .int .u64 0] 26)) → (Below w.heap.size w (W.setCell ⟨w.heap.size, 2, none⟩ xA) ∧ (W.setCell ⟨w.heap.size, 2, none⟩ xA).heap[w.heap.size + 1]? = some (.cells #[.int .u64 0, .int .u64 0] 26))) := box (fun W xA h => ⟨Below.setCell h.1 (show w.heap.size ≤ w.heap.size by first | exact Nat.le_refl _ | omega | (skip; omega)) xA, (setCell_other (by first | omega | (skip; omega))).trans h.2⟩)
 have s0 : Below w.heap.size w wq ∧ wq.heap[w.heap.size + 1]? = some (.cells #[.int .u64 0, .int .u64 0] 26) := ⟨B2, Ai⟩
 have rz : wq.heap[w.heap.size]? = some (.cells (rg neg K x false) 54) := Ah
 have hqz := fz (k := 2) rz
 obtain ⟨hz0, hz1, hz2, hz3, hz4, hz5, hz6, hz7, hz8⟩ := rg_cells rz
 go_wp2_with fail
 go_region
 have s2 : Below w.heap.size w (wq.setCell ⟨w.heap.size, 2, none⟩ (.int .u64 ((wd K' 1 : Nat) : Int))) ∧ (wq.setCell ⟨w.heap.size, 2, none⟩ (.int .u64 ((wd K' 1 : Nat) : Int))).heap[w.heap.size + 1]? = some (.cells #[.int .u64 0, .int .u64 0] 26) := sT.out _ _ s0
 have Ac : ((wq.setCell ⟨w.heap.size, 2, none⟩ (.int .u64 ((wd K' 1 : Nat) : Int))).drew).heap[w.heap.size]? = some (.cells (rg neg K' x false) 54) := (by rw [setCell_row rz]; rw [rg_set2 neg K K' x false hk.out] : (wq.setCell ⟨w.heap.size, 2, none⟩ (.int .u64 ((wd K' 1 : Nat) : Int))).heap[w.heap.size]? = some (.cells (rg neg K' x false) 54))
 have B3 : Below w.heap.size w ((wq.setCell ⟨w.heap.size, 2, none⟩ (.int .u64 ((wd K' 1 : Nat) : Int))).drew) := (And.left s2).drew
 have Ad : ((wq.setCell ⟨w.heap.size, 2, none⟩ (.int .u64 ((wd K' 1 : Nat) : Int))).drew).heap[w.heap.size + 1]? = some (.cells #[.int .u64 0, .int .u64 0] 26) := s2.2
 obtain ⟨w3, Ao⟩ : ∃ V, ((wq.setCell ⟨w.heap.size, 2, none⟩ (.int .u64 ((wd K' 1 : Nat) : Int))).drew) = V := ⟨_, rfl⟩
 rw [Ao] at B3 Ac Ad ⊢
 clear Ao sT s0 s2 rz hqz hz0 hz1 hz2 hz3 hz4 hz5 hz6 hz7 hz8 B2 Ah AE AF AG AH AI AJ AK AL AM Ai AN AO
 obtain ⟨AP, AQ, AR, AS, AT, AU, AV, AW, AX⟩ := rg_cells Ac
 obtain ⟨AY, AZ⟩ := cells2s Ad
 go_wp2_with fail
 refine (KZ.out _ (fatB FF.out B3)).mono ?_
 rintro r w4 ⟨rfl, b4⟩
 have B4 := btr B3 b4
 obtain ⟨Ae, Af⟩ := rws2 b4 Ac Ad
 clear b4 B3 Ac AP AQ AR AS AT AU AV AW AX Ad AY AZ
 obtain ⟨A0, A2, A3, A4, A5, A6, A7, A8, A9⟩ := rg_cells Ae
 obtain ⟨Ba, Bb⟩ := cells2s Af
 have S5 := box B4.size
 have Bc := ltR Ae
 have Bd := ltR Af
 have Aj := heap_alloc_last w4 (Obj.cells #[.int .u64 zu, .int .u64 zv] 26)
 have B5 := btr B4 (bal w4 (Obj.cells #[.int .u64 zu, .int .u64 zv] 26))
 obtain ⟨Ak, Al⟩ := rws2 (bal w4 (Obj.cells #[.int .u64 zu, .int .u64 zv] 26)) Ae Af
 clear B4 Ae A0 A2 A3 A4 A5 A6 A7 A8 A9 Af Ba Bb
 obtain ⟨Be, Bf, Bg, Bh, Bi, Bj, Bk, Bl, Bm⟩ := rg_cells Ak
 obtain ⟨Bn, Bo⟩ := cells2s Al
 obtain ⟨Bp, Bq⟩ := cells2s Aj
 have sS : Box (∀ W W1 : World, (Below w.heap.size w W ∧ W.heap[w.heap.size]? = some (.cells (rg neg K' x false) 54) ∧ W.heap[w.heap.size + 1]? = some (.cells #[.int .u64 0, .int .u64 0] 26) ∧ W.heap[w4.heap.size]? = some (.cells #[.int .u64 zu, .int .u64 zv] 26)) → Below W.heap.size W W1 → (Below w.heap.size w W1 ∧ W1.heap[w.heap.size]? = some (.cells (rg neg K' x false) 54) ∧ W1.heap[w.heap.size + 1]? = some (.cells #[.int .u64 0, .int .u64 0] 26) ∧ W1.heap[w4.heap.size]? = some (.cells #[.int .u64 zu, .int .u64 zv] 26))) := box (fun W W1 h b => ⟨btr h.1 b, heap_of b _ _ _ h.2.1, heap_of b _ _ _ h.2.2.1, heap_of b _ _ _ h.2.2.2⟩)
 have sL : Box (∀ W : World, (Below w.heap.size w W ∧ W.heap[w.heap.size]? = some (.cells (rg neg K' x false) 54) ∧ W.heap[w.heap.size + 1]? = some (.cells #[.int .u64 0, .int .u64 0] 26) ∧ W.heap[w4.heap.size]? = some (.cells #[.int .u64 zu, .int .u64 zv] 26)) → (w.heap.size < W.heap.size ∧ w.heap.size + 1 < W.heap.size ∧ w4.heap.size < W.heap.size)) := box (fun W h => ⟨(Array.getElem?_eq_some_iff.1 h.2.1).1, (Array.getElem?_eq_some_iff.1 h.2.2.1).1, (Array.getElem?_eq_some_iff.1 h.2.2.2).1⟩)
 have sT : Box (∀ (W : World) (gN : Nat) (xA xB : Value), (Below w.heap.size w W ∧ W.heap[w.heap.size]? = some (.cells (rg neg K' x false) 54) ∧ W.heap[w.heap.size + 1]? = some (.cells #[.int .u64 0, .int .u64 0] 26) ∧ W.heap[w4.heap.size]? = some (.cells #[.int .u64 zu, .int .u64 zv] 26)) → (w.heap.size < gN ∧ w.heap.size + 1 < gN ∧ w4.heap.size < gN) → (Below w.heap.size w ((W.setCell ⟨gN, 0, none⟩ xA).setCell ⟨gN, 1, none⟩ xB) ∧ ((W.setCell ⟨gN, 0, none⟩ xA).setCell ⟨gN, 1, none⟩ xB).heap[w.heap.size]? = some (.cells (rg neg K' x false) 54) ∧ ((W.setCell ⟨gN, 0, none⟩ xA).setCell ⟨gN, 1, none⟩ xB).heap[w.heap.size + 1]? = some (.cells #[.int .u64 0, .int .u64 0] 26) ∧ ((W.setCell ⟨gN, 0, none⟩ xA).setCell ⟨gN, 1, none⟩ xB).heap[w4.heap.size]? = some (.cells #[.int .u64 zu, .int .u64 zv] 26))) := box (fun W gN xA xB h l => ⟨set2_below h.1 (show w.heap.size ≤ gN by have := l.1; omega) _ _, (setCell_other (by have := l.1; omega)).trans ((setCell_other (by have := l.1; omega)).trans h.2.1), (setCell_other (by have := l.2.1; omega)).trans ((setCell_other (by have := l.2.1; omega)).trans h.2.2.1), (setCell_other (by have := l.2.2; omega)).trans ((setCell_other (by have := l.2.2; omega)).trans h.2.2.2)⟩)
 have sC : Box (∀ W : World, (Below w.heap.size w W ∧ W.heap[w.heap.size]? = some (.cells (rg neg K' x false) 54) ∧ W.heap[w.heap.size + 1]? = some (.cells #[.int .u64 0, .int .u64 0] 26) ∧ W.heap[w4.heap.size]? = some (.cells #[.int .u64 zu, .int .u64 zv] 26)) → (Below w.heap.size w W ∧ W.heap[w.heap.size]? = some (.cells (rg neg K' x false) 54) ∧ W.heap[w.heap.size + 1]? = some (.cells #[.int .u64 0, .int .u64 0] 26) ∧ W.heap[w4.heap.size]? = some (.cells #[.int .u64 zu, .int .u64 zv] 26) ∧ W.cell? ⟨w.heap.size, 0, none⟩ = some (.bool neg) ∧ W.cell? ⟨w.heap.size, 1, none⟩ = some (.int .u64 ((wd K' 0 : Nat) : Int)) ∧ W.cell? ⟨w.heap.size, 2, none⟩ = some (.int .u64 ((wd K' 1 : Nat) : Int)) ∧ W.cell? ⟨w.heap.size, 3, none⟩ = some (.int .u64 ((wd K' 2 : Nat) : Int)) ∧ W.cell? ⟨w.heap.size, 4, none⟩ = some (.int .u64 ((wd K' 3 : Nat) : Int)) ∧ W.cell? ⟨w.heap.size, 5, none⟩ = some (.int .u64 ((wd K' 4 : Nat) : Int)) ∧ W.cell? ⟨w.heap.size, 6, none⟩ = some (.int .u64 ((wd K' 5 : Nat) : Int)) ∧ W.cell? ⟨w.heap.size, 7, none⟩ = some (.int .i64 x) ∧ W.cell? ⟨w.heap.size, 8, none⟩ = some (.bool false) ∧ W.cell? ⟨w.heap.size + 1, 0, none⟩ = some (.int .u64 0) ∧ W.cell? ⟨w.heap.size + 1, 1, none⟩ = some (.int .u64 0) ∧ W.cell? ⟨w4.heap.size, 0, none⟩ = some (.int .u64 zu) ∧ W.cell? ⟨w4.heap.size, 1, none⟩ = some (.int .u64 zv))) := box (fun W h => ⟨h.1, h.2.1, h.2.2.1, h.2.2.2, cell7 (h.2.1) 0 _ rfl, cell7 (h.2.1) 1 _ rfl, cell7 (h.2.1) 2 _ rfl, cell7 (h.2.1) 3 _ rfl, cell7 (h.2.1) 4 _ rfl, cell7 (h.2.1) 5 _ rfl, cell7 (h.2.1) 6 _ rfl, cell7 (h.2.1) 7 _ rfl, cell7 (h.2.1) 8 _ rfl, cell7 (h.2.2.1) 0 _ rfl, cell7 (h.2.2.1) 1 _ rfl, cell7 (h.2.2.2) 0 _ rfl, cell7 (h.2.2.2) 1 _ rfl⟩)
 have s0 : Below w.heap.size w ((w4.alloc (Obj.cells #[.int .u64 zu, .int .u64 zv] 26))).drew ∧ ((w4.alloc (Obj.cells #[.int .u64 zu, .int .u64 zv] 26))).drew.heap[w.heap.size]? = some (.cells (rg neg K' x false) 54) ∧ ((w4.alloc (Obj.cells #[.int .u64 zu, .int .u64 zv] 26))).drew.heap[w.heap.size + 1]? = some (.cells #[.int .u64 0, .int .u64 0] 26) ∧ ((w4.alloc (Obj.cells #[.int .u64 zu, .int .u64 zv] 26))).drew.heap[w4.heap.size]? = some (.cells #[.int .u64 zu, .int .u64 zv] 26) := ⟨B5.drew, Ak, Al, Aj⟩
 clear B5 Ak Be Bf Bg Bh Bi Bj Bk Bl Bm Al Bn Bo Aj Bp Bq
 go_wp2_with fail
 apply cut7
 ·
  intro key0
  have key := box key0
  clear key0
  go_region_held3 (fun W => Below w.heap.size w W ∧ W.heap[w.heap.size]? = some (.cells (rg neg K' x false) 54) ∧ W.heap[w.heap.size + 1]? = some (.cells #[.int .u64 0, .int .u64 0] 26) ∧ W.heap[w4.heap.size]? = some (.cells #[.int .u64 zu, .int .u64 zv] 26) ∧ W.cell? ⟨w.heap.size, 0, none⟩ = some (.bool neg) ∧ W.cell? ⟨w.heap.size, 1, none⟩ = some (.int .u64 ((wd K' 0 : Nat) : Int)) ∧ W.cell? ⟨w.heap.size, 2, none⟩ = some (.int .u64 ((wd K' 1 : Nat) : Int)) ∧ W.cell? ⟨w.heap.size, 3, none⟩ = some (.int .u64 ((wd K' 2 : Nat) : Int)) ∧ W.cell? ⟨w.heap.size, 4, none⟩ = some (.int .u64 ((wd K' 3 : Nat) : Int)) ∧ W.cell? ⟨w.heap.size, 5, none⟩ = some (.int .u64 ((wd K' 4 : Nat) : Int)) ∧ W.cell? ⟨w.heap.size, 6, none⟩ = some (.int .u64 ((wd K' 5 : Nat) : Int)) ∧ W.cell? ⟨w.heap.size, 7, none⟩ = some (.int .i64 x) ∧ W.cell? ⟨w.heap.size, 8, none⟩ = some (.bool false) ∧ W.cell? ⟨w.heap.size + 1, 0, none⟩ = some (.int .u64 0) ∧ W.cell? ⟨w.heap.size + 1, 1, none⟩ = some (.int .u64 0) ∧ W.cell? ⟨w4.heap.size, 0, none⟩ = some (.int .u64 zu) ∧ W.cell? ⟨w4.heap.size, 1, none⟩ = some (.int .u64 zv)) (first | exact sC.out _ s1 | exact sC.out _ s0 | exact sC.out _ (sS.out _ _ s1 (bal _ _)) | exact sC.out _ (sS.out _ _ s0 (bal _ _)) | exact sC.out _ (sT.out _ _ _ _ s1 hl))
   (((first | (go_at_call 40; (first | refine (KB.out _).mono ?_ | refine (KB.out _).mono ?_)) | (go_at_call 43; (first | refine (KO.out _).mono ?_ | refine (KO.out _).mono ?_)) | (go_at_call 42; (first | refine (KT.out _).mono ?_ | refine (KT.out _).mono ?_)) | fail); rintro r wq ⟨rfl, bq⟩; (first | (have hg := heap_of bq _ _ _ (heap_alloc_last _ _); have hl := (by first | exact sL.out _ s1 | exact sL.out _ s0)) | have hg := heap_of bq _ _ _ hg | skip); (try simp only [size_dr, size_al] at hg hl); (first | (have Ap := fz (k := 0) hg; have Aq := fz (k := 1) hg; have Ar := cell7 hg 0 _ rfl; have As := cell7 hg 1 _ rfl) | skip); have s2 := (by first | exact sS.out _ _ s1 bq | exact sS.out _ _ s0 bq | exact sS.out _ _ (sS.out _ _ s1 (bal _ _)) bq | exact sS.out _ _ (sS.out _ _ s0 (bal _ _)) bq); (try clear s1); have s1 := s2; clear s2 bq))
  all_goals
   refine gen_round_encoding_8 (R := fun W gN => (Below w.heap.size w W ∧ W.heap[w.heap.size]? = some (.cells (rg neg K' x false) 54) ∧ W.heap[w.heap.size + 1]? = some (.cells #[.int .u64 0, .int .u64 0] 26) ∧ W.heap[w4.heap.size]? = some (.cells #[.int .u64 zu, .int .u64 zv] 26)) ∧ W.heap[gN]? = some (.cells #[.int .u64 u, .int .u64 v] 26) ∧ (w.heap.size < gN ∧ w.heap.size + 1 < gN ∧ w4.heap.size < gN)) key.out ?_
   first
    | exact ⟨(sT.out _ _ _ _ s1 hl), set2_row hg _ _, hl⟩
    | exact ⟨sS.out _ _ s1 (bal _ _), heap_alloc_last _ _, sL.out _ s1⟩
    | exact ⟨sS.out _ _ s0 (bal _ _), heap_alloc_last _ _, sL.out _ s0⟩
 rintro w6 g6 ⟨s1, Br, l6⟩
 have B6 := And.left s1
 have Bs := s1.2.1
 have Ag := s1.2.2.1
 have Bt := s1.2.2.2
 have H6 := box l6
 clear s0 s1 sS sC sL sT l6
 obtain ⟨Bu, Bv, Bw, Bx, By, Bz, BA, BB, BC⟩ := rg_cells Bs
 obtain ⟨BD, BE⟩ := cells2s Ag
 obtain ⟨BF, BG⟩ := cells2s Bt
 obtain ⟨BH, BI⟩ := cells2s Br
 have q0 := fz (k := 0) Ag
 have q1 := fz (k := 1) Ag
 obtain ⟨E0, E1⟩ := set2_cells Ag (.int .u64 u) (.int .u64 v)
 go_wp2
 exact bodyPost_ret (v := .agg #[.int .u64 u, .int .u64 v]) (by simp [results, Tryz.results55, go_sem, E0, E1]) rfl ⟨rfl, set2_below B6 (by first | exact Nat.le_refl _ | omega | (have := S5.out; have := Bc.out; have := Bd.out; have := H6.out; omega)) _ _⟩
theorem gen_round_Pack_9 {X : Act → World → Prop} {R : World → Nat → Prop} {t0 t1 t2 t3 t4 t5 t6 t7 t8 t10 t11 t12 t13 t14 t15 t16 t17 t18 t19 t20 t21 t22 t23 t24 t25 t26 t27 t28 t29 t30 t31 t32 t33 t34 t35 t36 t37 t38 t39 t40 t41 t42 t43 t44 t45 t46 t47 t48 t49 t50 t51 t52 t53 t54 t55 t56 t57 t58 t59 t60 t61 t62 t63 t64 t65 t66 t67 t68 t69 t70 t71 t72 : Value} {d : List Deferred} {W : World} {G : Nat}
  (key : ∀ w5 g, R w5 g → X ⟨#[t0, t1, t2, t3, t4, t5, t6, t7, t8, .pointer (some ⟨g, 0, none⟩), t10, t11, t12, t13, t14, t15, t16, t17, t18, t19, t20, t21, t22, t23, t24, t25, t26, t27, t28, t29, t30, t31, t32, t33, t34, t35, t36, t37, t38, t39, t40, t41, t42, t43, t44, t45, t46, t47, t48, t49, t50, t51, t52, t53, t54, t55, t56, t57, t58, t59, t60, t61, t62, t63, t64, t65, t66, t67, t68, t69, t70, t71, t72], d⟩ w5) (r : R W G) : X ⟨#[t0, t1, t2, t3, t4, t5, t6, t7, t8, .pointer (some ⟨G, 0, none⟩), t10, t11, t12, t13, t14, t15, t16, t17, t18, t19, t20, t21, t22, t23, t24, t25, t26, t27, t28, t29, t30, t31, t32, t33, t34, t35, t36, t37, t38, t39, t40, t41, t42, t43, t44, t45, t46, t47, t48, t49, t50, t51, t52, t53, t54, t55, t56, t57, t58, t59, t60, t61, t62, t63, t64, t65, t66, t67, t68, t69, t70, t71, t72], d⟩ W := key W G r

theorem ro_pack (f m : Int) (neg : Bool) (s t : Nat) (x : Int) (more : Bool) (T I st rt E fl : Int) (K : Nat) (ex ov o : Bool) (u v : Nat) (w : World) (hz : (s = 0) = False) (hQ : s < Q)
  (KC : Box (∀ w, Calls Tryz.prog 45 #[.int .u8 f, .int .u8 m] w fun r w' => r = .returned (.int .i64 0) ∧ Below w.heap.size w w'))
  (KM : Box (∀ w, FAt w → Calls Tryz.prog 46 #[.int .u8 f, .agg (rg neg s x more)] w fun r w' => r = .returned (.bool true) ∧ Below w.heap.size w w'))
  (KJ : Box (∀ w, Calls Tryz.prog 48 #[.agg (rg neg s x more)] w fun r w' => r = .returned (.agg (rg neg t x false)) ∧ Below w.heap.size w w'))
  (K1 : Box (∀ w, Calls Tryz.prog 51 #[.agg (rg neg t x false)] w fun r w' => r = .returned (.int .i64 T) ∧ Below w.heap.size w w'))
  (KI : Box (∀ w, FAt w → Calls Tryz.prog 52 #[.int .u8 f] w fun r w' => r = .returned (.int .i64 I) ∧ Below w.heap.size w w'))
  (KS : Box (∀ w, FAt w → Calls Tryz.prog 50 #[.int .u8 f, .int .i64 (max T I)] w fun r w' => r = .returned (.int .i64 st) ∧ Below w.heap.size w w'))
  (KG : Box (∀ w, Calls Tryz.prog 49 #[.int .u8 m, .agg (rg neg t x false), .int .i64 st] w fun r w' => r = .returned (.tuple #[.agg (rg neg K st false), .bool ex]) ∧ Below w.heap.size w w'))
  (KT : Box (∀ w, Calls Tryz.prog 51 #[.agg (rg neg K st false)] w fun r w' => r = .returned (.int .i64 rt) ∧ Below w.heap.size w w'))
  (KE : Box (∀ w, FAt w → Calls Tryz.prog 53 #[.int .u8 f] w fun r w' => r = .returned (.int .i64 E) ∧ Below w.heap.size w w'))
  (KO : Box (ov = true → ∀ w, FAt w → Calls Tryz.prog 44 #[.int .u8 f, .int .u8 m, .bool neg] w fun r w' => r = .returned (.tuple #[.agg #[.int .u64 u, .int .u64 v], .int .u8 5, .int .i64 0]) ∧ Below w.heap.size w w'))
  (KD : Box (ov = false → ∀ w, FAt w → Calls Tryz.prog 55 #[.int .u8 f, .agg (rg neg K st false)] w fun r w' => r = .returned (.agg #[.int .u64 u, .int .u64 v]) ∧ Below w.heap.size w w'))
  (KN : Box (∀ w, FAt w → Calls Tryz.prog 54 #[.int .u8 f, .int .u8 m, .agg (rg neg t x false)] w fun r w' => r = .returned (.bool o) ∧ Below w.heap.size w w'))
  (ho : decide (E < rt) = ov) (hfl : (if ov = true then (5 : Int) else if ex = true then 0 else (if o = true then 3 else 1)) = fl)
  (hT : FAt w) : Calls Tryz.prog 17 #[.int .u8 f, .int .u8 m, .agg (rg neg s x more)] w fun r w' => r = .returned (.tuple #[.agg #[.int .u64 u, .int .u64 v], .int .u8 fl, .int .i64 0]) ∧ Below w.heap.size w w' := by
 have FF := box hT
 have HFL := box hfl
 clear hT hfl
 have hb1 : bits .or .u8 0 1 = 1 := by decide
 have hb2 : bits .or .u8 1 2 = 3 := by decide
 have hat := cw_at 6
 have hz := cw6z
 have hff := cw6f
 have hs0 := st0
 have hcs : ∀ x, ((cw 6 x).size = 6) = True := fun x => eq_true (cw_size 6 x)
 have heq := eq6
 have hQ0 := Q_pos
 have hg := eqg6
 have hp1 := rgf
 have hp3 := rgz
 have hp4 := st_r0
 have hp5 : ∀ (c : Bool) (s : Nat) (x : Int) (r : Bool), ((rg c s x r).size = 9) = True := fun _ _ _ _ => eq_true rfl
 obtain ⟨AX, AY, B0⟩ := opn2 w (Obj.cells (rg neg s x more) 54) (Obj.cells #[.int .u64 0, .int .u64 0] 26)
 go_enter Tryz.func17, Tryz.ntmps17
 obtain ⟨Bd, Be, Bf, Bg, Bh, Bi, Bj, Bk, Bl⟩ := rg_cells AX
 obtain ⟨Bm, Bn⟩ := cells2s AY
 go_wp2_with fail
 refine (KC.out _).mono ?_
 rintro r w1 ⟨rfl, b1⟩
 have B1 := btr B0 b1
 obtain ⟨AZ, A0⟩ := rws2 b1 AX AY
 clear b1 B0 AX Bd Be Bf Bg Bh Bi Bj Bk Bl AY Bm Bn
 obtain ⟨Bo, Bp, Bq, Br, Bs, Bt, Bu, Bv, Bw⟩ := rg_cells AZ
 obtain ⟨Bx, By⟩ := cells2s A0
 go_wp2_with fail
 refine (KM.out _ (fatB FF.out B1)).mono ?_
 rintro r w2 ⟨rfl, b2⟩
 have B2 := btr B1 b2
 obtain ⟨A1, A2⟩ := rws2 b2 AZ A0
 clear b2 B1 AZ Bo Bp Bq Br Bs Bt Bu Bv Bw A0 Bx By
 obtain ⟨Bz, BA, BB, BC, BD, BE, BF, BG, BH⟩ := rg_cells A1
 obtain ⟨BI, BJ⟩ := cells2s A2
 go_wp2_with fail
 refine (KJ.out _).mono ?_
 rintro r w3 ⟨rfl, b3⟩
 have B3 := btr B2 b3
 obtain ⟨A3, Bc⟩ := rws2 b3 A1 A2
 clear b3 B2 A1 Bz BA BB BC BD BE BF BG BH A2 BI BJ
 obtain ⟨C5, C6, C7, C8, C9, Da, Db, Dc, Dd⟩ := rg_cells A3
 obtain ⟨De, Df⟩ := cells2s Bc
 have BK := st_r w3 (w.heap.size) neg t x false neg s x more A3
 have B4 := bel_set (c := (rg neg t x false)) B3 (show w.heap.size ≤ w.heap.size by first | exact Nat.le_refl _ | omega | (skip; omega))
 have AB := setRow_row (c' := (rg neg t x false)) A3
 have AC : (w3.setRow (w.heap.size) (rg neg t x false)).heap[w.heap.size + 1]? = some (.cells #[.int .u64 0, .int .u64 0] 26) := by rw [setRow_other (by first | omega | (skip; omega))]; exact Bc
 obtain ⟨w4, BL⟩ : ∃ V, w3.setRow (w.heap.size) (rg neg t x false) = V := ⟨_, rfl⟩
 rw [BL] at BK B4 AB AC
 obtain ⟨BM, BN, BO, BP, BQ, BR, BS, BT, BU⟩ := rg_cells AB
 obtain ⟨BV, BW⟩ := cells2s AC
 have sS : Box (∀ W W1 : World, (Below w.heap.size w W ∧ W.heap[w.heap.size]? = some (.cells (rg neg t x false) 54) ∧ W.heap[w.heap.size + 1]? = some (.cells #[.int .u64 0, .int .u64 0] 26)) → Below W.heap.size W W1 → (Below w.heap.size w W1 ∧ W1.heap[w.heap.size]? = some (.cells (rg neg t x false) 54) ∧ W1.heap[w.heap.size + 1]? = some (.cells #[.int .u64 0, .int .u64 0] 26))) := box (fun W W1 h b => ⟨btr h.1 b, heap_of b _ _ _ h.2.1, heap_of b _ _ _ h.2.2⟩)
 have sL : Box (∀ W : World, (Below w.heap.size w W ∧ W.heap[w.heap.size]? = some (.cells (rg neg t x false) 54) ∧ W.heap[w.heap.size + 1]? = some (.cells #[.int .u64 0, .int .u64 0] 26)) → (w.heap.size < W.heap.size ∧ w.heap.size + 1 < W.heap.size)) := box (fun W h => ⟨(Array.getElem?_eq_some_iff.1 h.2.1).1, (Array.getElem?_eq_some_iff.1 h.2.2).1⟩)
 have sT : Box (∀ (W : World) (gN : Nat) (xA : Array Value), (Below w.heap.size w W ∧ W.heap[w.heap.size]? = some (.cells (rg neg t x false) 54) ∧ W.heap[w.heap.size + 1]? = some (.cells #[.int .u64 0, .int .u64 0] 26)) → (w.heap.size < gN ∧ w.heap.size + 1 < gN) → (Below w.heap.size w (W.setRow gN xA) ∧ (W.setRow gN xA).heap[w.heap.size]? = some (.cells (rg neg t x false) 54) ∧ (W.setRow gN xA).heap[w.heap.size + 1]? = some (.cells #[.int .u64 0, .int .u64 0] 26))) := box (fun W gN xA h l => ⟨bel_set h.1 (show w.heap.size ≤ gN by have := l.1; omega), (setRow_other (by have := l.1; omega)).trans h.2.1, (setRow_other (by have := l.2; omega)).trans h.2.2⟩)
 have sC : Box (∀ W : World, (Below w.heap.size w W ∧ W.heap[w.heap.size]? = some (.cells (rg neg t x false) 54) ∧ W.heap[w.heap.size + 1]? = some (.cells #[.int .u64 0, .int .u64 0] 26)) → (Below w.heap.size w W ∧ W.heap[w.heap.size]? = some (.cells (rg neg t x false) 54) ∧ W.heap[w.heap.size + 1]? = some (.cells #[.int .u64 0, .int .u64 0] 26) ∧ W.cell? ⟨w.heap.size, 0, none⟩ = some (.bool neg) ∧ W.cell? ⟨w.heap.size, 1, none⟩ = some (.int .u64 (wd t 0)) ∧ W.cell? ⟨w.heap.size, 2, none⟩ = some (.int .u64 (wd t 1)) ∧ W.cell? ⟨w.heap.size, 3, none⟩ = some (.int .u64 (wd t 2)) ∧ W.cell? ⟨w.heap.size, 4, none⟩ = some (.int .u64 (wd t 3)) ∧ W.cell? ⟨w.heap.size, 5, none⟩ = some (.int .u64 (wd t 4)) ∧ W.cell? ⟨w.heap.size, 6, none⟩ = some (.int .u64 (wd t 5)) ∧ W.cell? ⟨w.heap.size, 7, none⟩ = some (.int .i64 x) ∧ W.cell? ⟨w.heap.size, 8, none⟩ = some (.bool false) ∧ W.cell? ⟨w.heap.size + 1, 0, none⟩ = some (.int .u64 0) ∧ W.cell? ⟨w.heap.size + 1, 1, none⟩ = some (.int .u64 0))) := box (fun W h => ⟨h.1, h.2.1, h.2.2, cell7 (h.2.1) 0 _ rfl, cell7 (h.2.1) 1 _ rfl, cell7 (h.2.1) 2 _ rfl, cell7 (h.2.1) 3 _ rfl, cell7 (h.2.1) 4 _ rfl, cell7 (h.2.1) 5 _ rfl, cell7 (h.2.1) 6 _ rfl, cell7 (h.2.1) 7 _ rfl, cell7 (h.2.1) 8 _ rfl, cell7 (h.2.2) 0 _ rfl, cell7 (h.2.2) 1 _ rfl⟩)
 have s0 : Below w.heap.size w (w4).drew ∧ (w4).drew.heap[w.heap.size]? = some (.cells (rg neg t x false) 54) ∧ (w4).drew.heap[w.heap.size + 1]? = some (.cells #[.int .u64 0, .int .u64 0] 26) := ⟨B4.drew, AB, AC⟩
 clear B4 AB BM BN BO BP BQ BR BS BT BU AC BV BW
 go_wp2_with fail
 apply cut7
 ·
  intro key0
  have key := box key0
  clear key0
  go_region_held3 (fun W => Below w.heap.size w W ∧ W.heap[w.heap.size]? = some (.cells (rg neg t x false) 54) ∧ W.heap[w.heap.size + 1]? = some (.cells #[.int .u64 0, .int .u64 0] 26) ∧ W.cell? ⟨w.heap.size, 0, none⟩ = some (.bool neg) ∧ W.cell? ⟨w.heap.size, 1, none⟩ = some (.int .u64 (wd t 0)) ∧ W.cell? ⟨w.heap.size, 2, none⟩ = some (.int .u64 (wd t 1)) ∧ W.cell? ⟨w.heap.size, 3, none⟩ = some (.int .u64 (wd t 2)) ∧ W.cell? ⟨w.heap.size, 4, none⟩ = some (.int .u64 (wd t 3)) ∧ W.cell? ⟨w.heap.size, 5, none⟩ = some (.int .u64 (wd t 4)) ∧ W.cell? ⟨w.heap.size, 6, none⟩ = some (.int .u64 (wd t 5)) ∧ W.cell? ⟨w.heap.size, 7, none⟩ = some (.int .i64 x) ∧ W.cell? ⟨w.heap.size, 8, none⟩ = some (.bool false) ∧ W.cell? ⟨w.heap.size + 1, 0, none⟩ = some (.int .u64 0) ∧ W.cell? ⟨w.heap.size + 1, 1, none⟩ = some (.int .u64 0)) (first | exact sC.out _ s1 | exact sC.out _ s0 | exact sC.out _ (sS.out _ _ s1 (bal _ _)) | exact sC.out _ (sS.out _ _ s0 (bal _ _)) | exact sC.out _ (sT.out _ _ _ s1 hl))
   (((first | (go_at_call 51; (first | refine (K1.out _).mono ?_ | refine (K1.out _).mono ?_)) | (go_at_call 52; (first | refine (KI.out _ (by first | exact fatB FF.out (And.left s1) | exact fat_al (fatB FF.out (And.left s1)) _)).mono ?_ | refine (KI.out _ (by first | exact fatB FF.out (And.left s0) | exact fat_al (fatB FF.out (And.left s0)) _)).mono ?_)) | (go_at_call 50; (first | refine (KS.out _ (by first | exact fatB FF.out (And.left s1) | exact fat_al (fatB FF.out (And.left s1)) _)).mono ?_ | refine (KS.out _ (by first | exact fatB FF.out (And.left s0) | exact fat_al (fatB FF.out (And.left s0)) _)).mono ?_)) | (go_at_call 49; (first | refine (KG.out _).mono ?_ | refine (KG.out _).mono ?_)) | fail); rintro r wq ⟨rfl, bq⟩; (first | (have hg := heap_of bq _ _ _ (heap_alloc_last _ _); have hl := (by first | exact sL.out _ s1 | exact sL.out _ s0)) | have hg := heap_of bq _ _ _ hg | skip); (try simp only [size_dr, size_al] at hg hl); (first | have hst := st_r _ _ neg K st false false 0 0 false hg | skip); have s2 := (by first | exact sS.out _ _ s1 bq | exact sS.out _ _ s0 bq | exact sS.out _ _ (sS.out _ _ s1 (bal _ _)) bq | exact sS.out _ _ (sS.out _ _ s0 (bal _ _)) bq); (try clear s1); have s1 := s2; clear s2 bq))
  all_goals
   refine gen_round_Pack_9 (R := fun W gN => (Below w.heap.size w W ∧ W.heap[w.heap.size]? = some (.cells (rg neg t x false) 54) ∧ W.heap[w.heap.size + 1]? = some (.cells #[.int .u64 0, .int .u64 0] 26)) ∧ W.heap[gN]? = some (.cells (rg neg K st false) 54) ∧ (w.heap.size < gN ∧ w.heap.size + 1 < gN)) key.out ?_
   first
    | exact ⟨(sT.out _ _ _ s1 hl), setRow_row hg, hl⟩
    | exact ⟨sS.out _ _ s1 (bal _ _), heap_alloc_last _ _, sL.out _ s1⟩
    | exact ⟨sS.out _ _ s0 (bal _ _), heap_alloc_last _ _, sL.out _ s0⟩
 rintro w5 g5 ⟨s1, A4, l5⟩
 have B5 := And.left s1
 have A5 := s1.2.1
 have A6 := s1.2.2
 have H5 := box l5
 clear s0 s1 sS sC sL sT l5
 obtain ⟨BX, BY, BZ, Ca, Cb, Cc, Cd, Ce, Cf⟩ := rg_cells A5
 obtain ⟨Cg, Ch⟩ := cells2s A6
 obtain ⟨Ci, Cj, Ck, Cl, Cm, Cn, Co, Cp, Cq⟩ := rg_cells A4
 go_wp2_with fail
 refine (KT.out _).mono ?_
 rintro r w6 ⟨rfl, b6⟩
 have B6 := btr B5 b6
 obtain ⟨A7, A8, A9⟩ := rws3 b6 A5 A6 A4
 clear b6 B5 A5 BX BY BZ Ca Cb Cc Cd Ce Cf A6 Cg Ch A4 Ci Cj Ck Cl Cm Cn Co Cp Cq
 obtain ⟨Cr, Cs, Ct, Cu, Cv, Cw, Cx, Cy, Cz⟩ := rg_cells A7
 obtain ⟨CA, CB⟩ := cells2s A8
 obtain ⟨CC, CD, CE, CF, CG, CH, CI, CJ, CK⟩ := rg_cells A9
 go_wp2_with fail
 refine (KE.out _ (fatB FF.out B6)).mono ?_
 rintro r w7 ⟨rfl, b7⟩
 have B7 := btr B6 b7
 obtain ⟨Ad, Ae, Af⟩ := rws3 b7 A7 A8 A9
 clear b7 B6 A7 Cr Cs Ct Cu Cv Cw Cx Cy Cz A8 CA CB A9 CC CD CE CF CG CH CI CJ CK
 obtain ⟨AD, AE, AF, AG, AH, AI, AJ, AK, AL⟩ := rg_cells Ad
 obtain ⟨AM, AN⟩ := cells2s Ae
 obtain ⟨AO, AP, AQ, AR, AS, AT, AU, AV, AW⟩ := rg_cells Af
 cases ov
 ·
  have K5 := box (KD.out rfl)
  clear KO KD
  cases ex
  ·
   skip
   cases o
   ·
    obtain rfl : (1 : Int) = fl := HFL.out
    go_wp2_with fail
    refine (KN.out _ (fatB FF.out B7)).mono ?_
    rintro r w8 ⟨rfl, b8⟩
    have B8 := btr B7 b8
    obtain ⟨Ab, Aa, Ac⟩ := rws3 b8 Ad Ae Af
    clear b8 B7 Ad AD AE AF AG AH AI AJ AK AL Ae AM AN Af AO AP AQ AR AS AT AU AV AW
    obtain ⟨Ah, Ai, Aj, Ak, Al, Am, An, Ao, Ap⟩ := rg_cells Ab
    obtain ⟨Aq, Ar⟩ := cells2s Aa
    obtain ⟨As, At, Au, Av, Aw, Ax, Ay, Az, AA⟩ := rg_cells Ac
    go_wp2_with fail
    refine (K5.out _ (fatB FF.out B8)).mono ?_
    rintro r w9 ⟨rfl, b9⟩
    have B9 := btr B8 b9
    obtain ⟨Ba, Ag, Bb⟩ := rws3 b9 Ab Aa Ac
    clear b9 B8 Ab Ah Ai Aj Ak Al Am An Ao Ap Aa Aq Ar Ac As At Au Av Aw Ax Ay Az AA
    obtain ⟨CL, CM, CN, CO, CP, CQ, CR, CS, CT⟩ := rg_cells Ba
    obtain ⟨CU, CV⟩ := cells2s Ag
    obtain ⟨CW, CX, CY, CZ, C0, C1, C2, C3, C4⟩ := rg_cells Bb
    have q0 := fz (k := 0) Ag
    have q1 := fz (k := 1) Ag
    obtain ⟨E0, E1⟩ := set2_cells Ag (.int .u64 u) (.int .u64 v)
    go_wp2
    exact bodyPost_ret (v := .tuple #[.agg #[.int .u64 u, .int .u64 v], .int .u8 1, .int .i64 0]) (by simp [results, Tryz.results17, go_sem, E0, E1]) rfl ⟨rfl, set2_below B9 (by first | exact Nat.le_refl _ | omega | (have := H5.out; omega)) _ _⟩
   ·
    obtain rfl : (3 : Int) = fl := HFL.out
    go_wp2_with fail
    refine (KN.out _ (fatB FF.out B7)).mono ?_
    rintro r w8 ⟨rfl, b8⟩
    have B8 := btr B7 b8
    obtain ⟨Ab, Aa, Ac⟩ := rws3 b8 Ad Ae Af
    clear b8 B7 Ad AD AE AF AG AH AI AJ AK AL Ae AM AN Af AO AP AQ AR AS AT AU AV AW
    obtain ⟨Ah, Ai, Aj, Ak, Al, Am, An, Ao, Ap⟩ := rg_cells Ab
    obtain ⟨Aq, Ar⟩ := cells2s Aa
    obtain ⟨As, At, Au, Av, Aw, Ax, Ay, Az, AA⟩ := rg_cells Ac
    go_wp2_with fail
    refine (K5.out _ (fatB FF.out B8)).mono ?_
    rintro r w9 ⟨rfl, b9⟩
    have B9 := btr B8 b9
    obtain ⟨Ba, Ag, Bb⟩ := rws3 b9 Ab Aa Ac
    clear b9 B8 Ab Ah Ai Aj Ak Al Am An Ao Ap Aa Aq Ar Ac As At Au Av Aw Ax Ay Az AA
    obtain ⟨CL, CM, CN, CO, CP, CQ, CR, CS, CT⟩ := rg_cells Ba
    obtain ⟨CU, CV⟩ := cells2s Ag
    obtain ⟨CW, CX, CY, CZ, C0, C1, C2, C3, C4⟩ := rg_cells Bb
    have q0 := fz (k := 0) Ag
    have q1 := fz (k := 1) Ag
    obtain ⟨E0, E1⟩ := set2_cells Ag (.int .u64 u) (.int .u64 v)
    go_wp2
    exact bodyPost_ret (v := .tuple #[.agg #[.int .u64 u, .int .u64 v], .int .u8 3, .int .i64 0]) (by simp [results, Tryz.results17, go_sem, E0, E1]) rfl ⟨rfl, set2_below B9 (by first | exact Nat.le_refl _ | omega | (have := H5.out; omega)) _ _⟩
  ·
   obtain rfl : (0 : Int) = fl := HFL.out
   go_wp2_with fail
   refine (K5.out _ (fatB FF.out B7)).mono ?_
   rintro r w8 ⟨rfl, b8⟩
   have B8 := btr B7 b8
   obtain ⟨Ab, Aa, Ac⟩ := rws3 b8 Ad Ae Af
   clear b8 B7 Ad AD AE AF AG AH AI AJ AK AL Ae AM AN Af AO AP AQ AR AS AT AU AV AW
   obtain ⟨Ah, Ai, Aj, Ak, Al, Am, An, Ao, Ap⟩ := rg_cells Ab
   obtain ⟨Aq, Ar⟩ := cells2s Aa
   obtain ⟨As, At, Au, Av, Aw, Ax, Ay, Az, AA⟩ := rg_cells Ac
   have q0 := fz (k := 0) Aa
   have q1 := fz (k := 1) Aa
   obtain ⟨E0, E1⟩ := set2_cells Aa (.int .u64 u) (.int .u64 v)
   go_wp2
   exact bodyPost_ret (v := .tuple #[.agg #[.int .u64 u, .int .u64 v], .int .u8 0, .int .i64 0]) (by simp [results, Tryz.results17, go_sem, E0, E1]) rfl ⟨rfl, set2_below B8 (by first | exact Nat.le_refl _ | omega | (have := H5.out; omega)) _ _⟩
 ·
  have K5 := box (KO.out rfl)
  clear KO KD
  obtain rfl : (5 : Int) = fl := HFL.out
  go_wp2_with fail
  refine (K5.out _ (fatB FF.out B7)).mono ?_
  rintro r w8 ⟨rfl, b8⟩
  have B8 := btr B7 b8
  obtain ⟨Ab, Aa, Ac⟩ := rws3 b8 Ad Ae Af
  clear b8 B7 Ad AD AE AF AG AH AI AJ AK AL Ae AM AN Af AO AP AQ AR AS AT AU AV AW
  obtain ⟨Ah, Ai, Aj, Ak, Al, Am, An, Ao, Ap⟩ := rg_cells Ab
  obtain ⟨Aq, Ar⟩ := cells2s Aa
  obtain ⟨As, At, Au, Av, Aw, Ax, Ay, Az, AA⟩ := rg_cells Ac
  have q0 := fz (k := 0) Aa
  have q1 := fz (k := 1) Aa
  obtain ⟨E0, E1⟩ := set2_cells Aa (.int .u64 u) (.int .u64 v)
  go_wp2
  exact bodyPost_ret (v := .tuple #[.agg #[.int .u64 u, .int .u64 v], .int .u8 5, .int .i64 0]) (by simp [results, Tryz.results17, go_sem, E0, E1]) rfl ⟨rfl, set2_below B8 (by first | exact Nat.le_refl _ | omega | (have := H5.out; omega)) _ _⟩
theorem ro_pack_zero (f m : Int) (neg : Bool) (x : Int) (more : Bool) (u v : Nat) (w : World)
  (KC : Box (∀ w, Calls Tryz.prog 45 #[.int .u8 f, .int .u8 m] w fun r w' => r = .returned (.int .i64 0) ∧ Below w.heap.size w w'))
  (KM : Box (∀ w, FAt w → Calls Tryz.prog 46 #[.int .u8 f, .agg (rg neg 0 x more)] w fun r w' => r = .returned (.bool true) ∧ Below w.heap.size w w'))
  (KZ : Box (∀ w, FAt w → Calls Tryz.prog 47 #[.int .u8 f, .bool neg] w fun r w' => r = .returned (.agg #[.int .u64 u, .int .u64 v]) ∧ Below w.heap.size w w'))
  (hT : FAt w) : Calls Tryz.prog 17 #[.int .u8 f, .int .u8 m, .agg (rg neg 0 x more)] w fun r w' => r = .returned (.tuple #[.agg #[.int .u64 u, .int .u64 v], .int .u8 0, .int .i64 0]) ∧ Below w.heap.size w w' := by
 have FF := box hT
 clear hT
 have hat := cw_at 6
 have hz := cw6z
 have hff := cw6f
 have hs0 := st0
 have hcs : ∀ x, ((cw 6 x).size = 6) = True := fun x => eq_true (cw_size 6 x)
 have heq := eq6
 have hQ0 := Q_pos
 have hg := eqg6
 have hp1 := rgf
 have hp3 := rgz
 have hp5 : ∀ (c : Bool) (s : Nat) (x : Int) (r : Bool), ((rg c s x r).size = 9) = True := fun _ _ _ _ => eq_true rfl
 obtain ⟨Ab, Ac, B0⟩ := opn2 w (Obj.cells (rg neg 0 x more) 54) (Obj.cells #[.int .u64 0, .int .u64 0] 26)
 go_enter Tryz.func17, Tryz.ntmps17
 obtain ⟨Ah, Ai, Aj, Ak, Al, Am, An, Ao, Ap⟩ := rg_cells Ab
 obtain ⟨Aq, Ar⟩ := cells2s Ac
 go_wp2_with fail
 refine (KC.out _).mono ?_
 rintro r w1 ⟨rfl, b1⟩
 have B1 := btr B0 b1
 obtain ⟨Ad, Ae⟩ := rws2 b1 Ab Ac
 clear b1 B0 Ab Ah Ai Aj Ak Al Am An Ao Ap Ac Aq Ar
 obtain ⟨As, At, Au, Av, Aw, Ax, Ay, Az, AA⟩ := rg_cells Ad
 obtain ⟨AB, AC⟩ := cells2s Ae
 go_wp2_with fail
 refine (KM.out _ (fatB FF.out B1)).mono ?_
 rintro r w2 ⟨rfl, b2⟩
 have B2 := btr B1 b2
 obtain ⟨Af, Ag⟩ := rws2 b2 Ad Ae
 clear b2 B1 Ad As At Au Av Aw Ax Ay Az AA Ae AB AC
 obtain ⟨AD, AE, AF, AG, AH, AI, AJ, AK, AL⟩ := rg_cells Af
 obtain ⟨AM, AN⟩ := cells2s Ag
 go_wp2_with fail
 refine (KZ.out _ (fatB FF.out B2)).mono ?_
 rintro r w3 ⟨rfl, b3⟩
 have B3 := btr B2 b3
 obtain ⟨AO, Aa⟩ := rws2 b3 Af Ag
 clear b3 B2 Af AD AE AF AG AH AI AJ AK AL Ag AM AN
 obtain ⟨AP, AQ, AR, AS, AT, AU, AV, AW, AX⟩ := rg_cells AO
 obtain ⟨AY, AZ⟩ := cells2s Aa
 have q0 := fz (k := 0) Aa
 have q1 := fz (k := 1) Aa
 obtain ⟨E0, E1⟩ := set2_cells Aa (.int .u64 u) (.int .u64 v)
 go_wp2
 exact bodyPost_ret (v := .tuple #[.agg #[.int .u64 u, .int .u64 v], .int .u8 0, .int .i64 0]) (by simp [results, Tryz.results17, go_sem, E0, E1]) rfl ⟨rfl, set2_below B3 (by first | exact Nat.le_refl _ | omega | (skip; omega)) _ _⟩
theorem ro_pack_a (f m : Int) (neg : Bool) (s : Nat) (x : Int) (more : Bool) (c : Int) (hc : (c != 0) = true) (w : World)
  (KC : Box (∀ w, Calls Tryz.prog 45 #[.int .u8 f, .int .u8 m] w fun r w' => r = .returned (.int .i64 c) ∧ Below w.heap.size w w')) : Calls Tryz.prog 17 #[.int .u8 f, .int .u8 m, .agg (rg neg s x more)] w fun r w' => r = .returned (.tuple #[.agg #[.int .u64 0, .int .u64 0], .int .u8 0, .int .i64 2]) ∧ Below w.heap.size w w' := by
 have hat := cw_at 6
 have hz := cw6z
 have hff := cw6f
 have hs0 := st0
 have hcs : ∀ x, ((cw 6 x).size = 6) = True := fun x => eq_true (cw_size 6 x)
 have hp1 := rgf
 have hp5 : ∀ (c : Bool) (s : Nat) (x : Int) (r : Bool), ((rg c s x r).size = 9) = True := fun _ _ _ _ => eq_true rfl
 obtain ⟨Ab, Ac, B0⟩ := opn2 w (Obj.cells (rg neg s x more) 54) (Obj.cells #[.int .u64 0, .int .u64 0] 26)
 go_enter Tryz.func17, Tryz.ntmps17
 obtain ⟨Ad, Ae, Af, Ag, Ah, Ai, Aj, Ak, Al⟩ := rg_cells Ab
 obtain ⟨Am, An⟩ := cells2s Ac
 go_wp2_with fail
 refine (KC.out _).mono ?_
 rintro r w1 ⟨rfl, b1⟩
 have B1 := btr B0 b1
 obtain ⟨Ao, Aa⟩ := rws2 b1 Ab Ac
 clear b1 B0 Ab Ad Ae Af Ag Ah Ai Aj Ak Al Ac Am An
 obtain ⟨Ap, Aq, Ar, As, At, Au, Av, Aw, Ax⟩ := rg_cells Ao
 obtain ⟨Ay, Az⟩ := cells2s Aa
 have q0 := fz (k := 0) Aa
 have q1 := fz (k := 1) Aa
 obtain ⟨E0, E1⟩ := set2_cells Aa (.int .u64 0) (.int .u64 0)
 go_wp2
 exact bodyPost_ret (v := .tuple #[.agg #[.int .u64 0, .int .u64 0], .int .u8 0, .int .i64 2]) (by simp [results, Tryz.results17, go_sem, E0, E1]) rfl ⟨rfl, set2_below B1 (by first | exact Nat.le_refl _ | omega | (skip; omega)) _ _⟩
theorem ro_pack_b (f m : Int) (neg : Bool) (s : Nat) (x : Int) (more : Bool) (w : World)
  (KC : Box (∀ w, Calls Tryz.prog 45 #[.int .u8 f, .int .u8 m] w fun r w' => r = .returned (.int .i64 0) ∧ Below w.heap.size w w'))
  (KM : Box (∀ w, FAt w → Calls Tryz.prog 46 #[.int .u8 f, .agg (rg neg s x more)] w fun r w' => r = .returned (.bool false) ∧ Below w.heap.size w w')) (hT : FAt w) : Calls Tryz.prog 17 #[.int .u8 f, .int .u8 m, .agg (rg neg s x more)] w fun r w' => r = .returned (.tuple #[.agg #[.int .u64 0, .int .u64 0], .int .u8 0, .int .i64 2]) ∧ Below w.heap.size w w' := by
 have FF := box hT
 clear hT
 have hat := cw_at 6
 have hz := cw6z
 have hff := cw6f
 have hs0 := st0
 have hcs : ∀ x, ((cw 6 x).size = 6) = True := fun x => eq_true (cw_size 6 x)
 have hp1 := rgf
 have hp5 : ∀ (c : Bool) (s : Nat) (x : Int) (r : Bool), ((rg c s x r).size = 9) = True := fun _ _ _ _ => eq_true rfl
 obtain ⟨Ab, Ac, B0⟩ := opn2 w (Obj.cells (rg neg s x more) 54) (Obj.cells #[.int .u64 0, .int .u64 0] 26)
 go_enter Tryz.func17, Tryz.ntmps17
 obtain ⟨Af, Ag, Ah, Ai, Aj, Ak, Al, Am, An⟩ := rg_cells Ab
 obtain ⟨Ao, Ap⟩ := cells2s Ac
 go_wp2_with fail
 refine (KC.out _).mono ?_
 rintro r w1 ⟨rfl, b1⟩
 have B1 := btr B0 b1
 obtain ⟨Ad, Ae⟩ := rws2 b1 Ab Ac
 clear b1 B0 Ab Af Ag Ah Ai Aj Ak Al Am An Ac Ao Ap
 obtain ⟨Aq, Ar, As, At, Au, Av, Aw, Ax, Ay⟩ := rg_cells Ad
 obtain ⟨Az, AA⟩ := cells2s Ae
 go_wp2_with fail
 refine (KM.out _ (fatB FF.out B1)).mono ?_
 rintro r w2 ⟨rfl, b2⟩
 have B2 := btr B1 b2
 obtain ⟨AB, Aa⟩ := rws2 b2 Ad Ae
 clear b2 B1 Ad Aq Ar As At Au Av Aw Ax Ay Ae Az AA
 obtain ⟨AC, AD, AE, AF, AG, AH, AI, AJ, AK⟩ := rg_cells AB
 obtain ⟨AL, AM⟩ := cells2s Aa
 have q0 := fz (k := 0) Aa
 have q1 := fz (k := 1) Aa
 obtain ⟨E0, E1⟩ := set2_cells Aa (.int .u64 0) (.int .u64 0)
 go_wp2
 exact bodyPost_ret (v := .tuple #[.agg #[.int .u64 0, .int .u64 0], .int .u8 0, .int .i64 2]) (by simp [results, Tryz.results17, go_sem, E0, E1]) rfl ⟨rfl, set2_below B2 (by first | exact Nat.le_refl _ | omega | (skip; omega)) _ _⟩
end Go.Proofs.YtpgiabmmmpdobaaGreatDoor
