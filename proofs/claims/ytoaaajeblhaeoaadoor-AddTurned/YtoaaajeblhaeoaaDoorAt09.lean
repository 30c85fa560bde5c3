/-
  What the functions that the statement reaches return: part 9 (R31).
-/
import Derived.Test.YtoaaajeblhaeoaaDoorAt08
namespace Go.Proofs.YtoaaajeblhaeoaaDoor
set_option maxRecDepth 100000
set_option maxHeartbeats 40000000
set_option maxRecDepth 100000
open Go.RowKit WMath
set_option linter.unusedSimpArgs false
set_option linter.unusedVariables false
theorem gen_round_encoding_8 {X : Act → World → Prop} {R : World → Nat → Prop} {t0 t1 t2 t3 t4 t5 t6 t7 t9 t10 t11 t12 t13 t14 t15 t16 t17 t18 t19 t20 t21 t22 t23 t24 t25 t26 t27 t28 t29 t30 t31 t32 t33 t34 t35 t36 t37 t38 t39 t40 t41 t42 t43 t44 t45 t46 : Value} {d : List Deferred} {W : World} {G : Nat}
    (key : ∀ w5 g, R w5 g → X ⟨#[t0, t1, t2, t3, t4, t5, t6, t7, .pointer (some ⟨g, 0, none⟩), t9, t10, t11, t12, t13, t14, t15, t16, t17, t18, t19, t20, t21, t22, t23, t24, t25, t26, t27, t28, t29, t30, t31, t32, t33, t34, t35, t36, t37, t38, t39, t40, t41, t42, t43, t44, t45, t46], d⟩ w5) (r : R W G) : X ⟨#[t0, t1, t2, t3, t4, t5, t6, t7, .pointer (some ⟨G, 0, none⟩), t9, t10, t11, t12, t13, t14, t15, t16, t17, t18, t19, t20, t21, t22, t23, t24, t25, t26, t27, t28, t29, t30, t31, t32, t33, t34, t35, t36, t37, t38, t39, t40, t41, t42, t43, t44, t45, t46], d⟩ W := key W G r

theorem rg_set2 (neg : Bool) (s t : Nat) (x : Int) (more : Bool) (h : ∀ k, k ≠ 1 → k < 6 → wd t k = wd s k) : (rg neg s x more).setIfInBounds 2 (.int .u64 (wd t 1)) = rg neg t x more := by
  have h0 := h 0 (by decide) (by decide)
  have h2 := h 2 (by decide) (by decide)
  have h3 := h 3 (by decide) (by decide)
  have h4 := h 4 (by decide) (by decide)
  have h5 := h 5 (by decide) (by decide)
  unfold rg
  rw [h0, h2, h3, h4, h5]
  rfl
theorem ro_enc_0 (neg : Bool) (K K' S : Nat) (x I st A1 F G : Int) (u v zu zv O : Nat) (ob : Bool) (w : World)
    (KP : Box (∀ w, FAt w → Calls Tryd.prog 66 #[.int .u8 0] w fun r w' => r = .returned (.int .i64 24) ∧ Below w.heap.size w w'))
    (KI : Box (∀ w, FAt w → Calls Tryd.prog 52 #[.int .u8 0] w fun r w' => r = .returned (.int .i64 I) ∧ Below w.heap.size w w'))
    (KS : Box (∀ w, FAt w → Calls Tryd.prog 50 #[.int .u8 0, .int .i64 I] w fun r w' => r = .returned (.int .i64 st) ∧ Below w.heap.size w w'))
    (h1 : IntKind.i64.wrap (x - st) = A1) (h2 : IntKind.u64.wrap A1 = F) (h3 : IntKind.u64.wrap (F * 8388608) = G) (h4 : IntKind.u64.wrap (((wd K 0 : Nat) : Int) + G) = ((wd K' 0 : Nat) : Int))
    (hk : Box (∀ k, 0 < k → k < 6 → wd K' k = wd K k))
    (KZ : Box (∀ w, FAt w → Calls Tryd.prog 8 #[.int .u8 0, .bool neg] w fun r w' => r = .returned (.agg #[.int .u64 zu, .int .u64 zv]) ∧ Below w.heap.size w w'))
    (KB : Box (∀ w, Calls Tryd.prog 57 #[.agg #[.int .u64 zu, .int .u64 zv]] w fun r w' => r = .returned (.agg (cw 6 S)) ∧ Below w.heap.size w w'))
    (KO : Box (∀ w, Calls Tryd.prog 61 #[.agg (cw 6 K'), .agg (cw 6 S)] w fun r w' => r = .returned (.agg (cw 6 O)) ∧ Below w.heap.size w w'))
    (KT : Box (∀ w, Calls Tryd.prog 60 #[.agg (cw 6 O)] w fun r w' => r = .returned (.tuple #[.agg #[.int .u64 u, .int .u64 v], .bool ob]) ∧ Below w.heap.size w w')) (hT : FAt w) : Calls Tryd.prog 55 #[.int .u8 0, .agg (rg neg K x false)] w fun r w' => r = .returned (.agg #[.int .u64 u, .int .u64 v]) ∧ Below w.heap.size w w' := by
  have FF := box hT
  clear hT
  have hat := cw_at 6
  have hz := cw6z
  have hff := cw6f
  have hs0 := st0
  have hcs : ∀ x, ((cw 6 x).size = 6) = True := fun x => eq_true (cw_size 6 x)
  have hp1 := rgf
  have hp5 : ∀ (c : Bool) (s : Nat) (x : Int) (r : Bool), ((rg c s x r).size = 9) = True := fun _ _ _ _ => eq_true rfl
  obtain ⟨Am, An, B0⟩ := opn2 w (Obj.cells (rg neg K x false) 49) (Obj.cells #[.int .u64 0, .int .u64 0] 26)
  go_enter Tryd.func55, Tryd.ntmps55
  go_wp2_with fail
  refine (KP.out _ (fatB FF.out B0)).mono ?_
  rintro r w1 ⟨rfl, b1⟩
  have B1 : Below w.heap.size w w1 := btr B0 b1
  have Aa := heap_of b1 _ _ _ Am
  have Ab := heap_of b1 _ _ _ An
  clear b1 B0 Am An
  obtain ⟨At, Au, Av, Aw, Ax, Ay, Az, AA, AB⟩ := rg_cells Aa
  obtain ⟨AC, AD⟩ := cells2s Ab
  have sS : Box (∀ W W1 : World, (Below w.heap.size w W ∧ W.heap[w.heap.size]? = some (.cells (rg neg K x false) 49) ∧ W.heap[w.heap.size + 1]? = some (.cells #[.int .u64 0, .int .u64 0] 26) ∧ W.cell? ⟨w.heap.size, 0, none⟩ = some (.bool neg) ∧ W.cell? ⟨w.heap.size, 1, none⟩ = some (.int .u64 (wd K 0)) ∧ W.cell? ⟨w.heap.size, 2, none⟩ = some (.int .u64 (wd K 1)) ∧ W.cell? ⟨w.heap.size, 3, none⟩ = some (.int .u64 (wd K 2)) ∧ W.cell? ⟨w.heap.size, 4, none⟩ = some (.int .u64 (wd K 3)) ∧ W.cell? ⟨w.heap.size, 5, none⟩ = some (.int .u64 (wd K 4)) ∧ W.cell? ⟨w.heap.size, 6, none⟩ = some (.int .u64 (wd K 5)) ∧ W.cell? ⟨w.heap.size, 7, none⟩ = some (.int .i64 x) ∧ W.cell? ⟨w.heap.size, 8, none⟩ = some (.bool false) ∧ W.cell? ⟨w.heap.size + 1, 0, none⟩ = some (.int .u64 0) ∧ W.cell? ⟨w.heap.size + 1, 1, none⟩ = some (.int .u64 0)) → Below W.heap.size W W1 → (Below w.heap.size w W1 ∧ W1.heap[w.heap.size]? = some (.cells (rg neg K x false) 49) ∧ W1.heap[w.heap.size + 1]? = some (.cells #[.int .u64 0, .int .u64 0] 26) ∧ W1.cell? ⟨w.heap.size, 0, none⟩ = some (.bool neg) ∧ W1.cell? ⟨w.heap.size, 1, none⟩ = some (.int .u64 (wd K 0)) ∧ W1.cell? ⟨w.heap.size, 2, none⟩ = some (.int .u64 (wd K 1)) ∧ W1.cell? ⟨w.heap.size, 3, none⟩ = some (.int .u64 (wd K 2)) ∧ W1.cell? ⟨w.heap.size, 4, none⟩ = some (.int .u64 (wd K 3)) ∧ W1.cell? ⟨w.heap.size, 5, none⟩ = some (.int .u64 (wd K 4)) ∧ W1.cell? ⟨w.heap.size, 6, none⟩ = some (.int .u64 (wd K 5)) ∧ W1.cell? ⟨w.heap.size, 7, none⟩ = some (.int .i64 x) ∧ W1.cell? ⟨w.heap.size, 8, none⟩ = some (.bool false) ∧ W1.cell? ⟨w.heap.size + 1, 0, none⟩ = some (.int .u64 0) ∧ W1.cell? ⟨w.heap.size + 1, 1, none⟩ = some (.int .u64 0))) := box (fun W W1 h b => ⟨btr h.1 b, heap_of b _ _ _ h.2.1, heap_of b _ _ _ h.2.2.1, cell7 (heap_of b _ _ _ h.2.1) 0 _ rfl, cell7 (heap_of b _ _ _ h.2.1) 1 _ rfl, cell7 (heap_of b _ _ _ h.2.1) 2 _ rfl, cell7 (heap_of b _ _ _ h.2.1) 3 _ rfl, cell7 (heap_of b _ _ _ h.2.1) 4 _ rfl, cell7 (heap_of b _ _ _ h.2.1) 5 _ rfl, cell7 (heap_of b _ _ _ h.2.1) 6 _ rfl, cell7 (heap_of b _ _ _ h.2.1) 7 _ rfl, cell7 (heap_of b _ _ _ h.2.1) 8 _ rfl, cell7 (heap_of b _ _ _ h.2.2.1) 0 _ rfl, cell7 (heap_of b _ _ _ h.2.2.1) 1 _ rfl⟩)
  have s0 : Below w.heap.size w (w1).drew ∧ (w1).drew.heap[w.heap.size]? = some (.cells (rg neg K x false) 49) ∧ (w1).drew.heap[w.heap.size + 1]? = some (.cells #[.int .u64 0, .int .u64 0] 26) ∧ (w1).drew.cell? ⟨w.heap.size, 0, none⟩ = some (.bool neg) ∧ (w1).drew.cell? ⟨w.heap.size, 1, none⟩ = some (.int .u64 (wd K 0)) ∧ (w1).drew.cell? ⟨w.heap.size, 2, none⟩ = some (.int .u64 (wd K 1)) ∧ (w1).drew.cell? ⟨w.heap.size, 3, none⟩ = some (.int .u64 (wd K 2)) ∧ (w1).drew.cell? ⟨w.heap.size, 4, none⟩ = some (.int .u64 (wd K 3)) ∧ (w1).drew.cell? ⟨w.heap.size, 5, none⟩ = some (.int .u64 (wd K 4)) ∧ (w1).drew.cell? ⟨w.heap.size, 6, none⟩ = some (.int .u64 (wd K 5)) ∧ (w1).drew.cell? ⟨w.heap.size, 7, none⟩ = some (.int .i64 x) ∧ (w1).drew.cell? ⟨w.heap.size, 8, none⟩ = some (.bool false) ∧ (w1).drew.cell? ⟨w.heap.size + 1, 0, none⟩ = some (.int .u64 0) ∧ (w1).drew.cell? ⟨w.heap.size + 1, 1, none⟩ = some (.int .u64 0) := ⟨B1.drew, Aa, Ab, cell7 (Aa) 0 _ rfl, cell7 (Aa) 1 _ rfl, cell7 (Aa) 2 _ rfl, cell7 (Aa) 3 _ rfl, cell7 (Aa) 4 _ rfl, cell7 (Aa) 5 _ rfl, cell7 (Aa) 6 _ rfl, cell7 (Aa) 7 _ rfl, cell7 (Aa) 8 _ rfl, cell7 (Ab) 0 _ rfl, cell7 (Ab) 1 _ rfl⟩
  go_wp2_with fail
  go_region_held3 (fun W => Below w.heap.size w W ∧ W.heap[w.heap.size]? = some (.cells (rg neg K x false) 49) ∧ W.heap[w.heap.size + 1]? = some (.cells #[.int .u64 0, .int .u64 0] 26) ∧ W.cell? ⟨w.heap.size, 0, none⟩ = some (.bool neg) ∧ W.cell? ⟨w.heap.size, 1, none⟩ = some (.int .u64 (wd K 0)) ∧ W.cell? ⟨w.heap.size, 2, none⟩ = some (.int .u64 (wd K 1)) ∧ W.cell? ⟨w.heap.size, 3, none⟩ = some (.int .u64 (wd K 2)) ∧ W.cell? ⟨w.heap.size, 4, none⟩ = some (.int .u64 (wd K 3)) ∧ W.cell? ⟨w.heap.size, 5, none⟩ = some (.int .u64 (wd K 4)) ∧ W.cell? ⟨w.heap.size, 6, none⟩ = some (.int .u64 (wd K 5)) ∧ W.cell? ⟨w.heap.size, 7, none⟩ = some (.int .i64 x) ∧ W.cell? ⟨w.heap.size, 8, none⟩ = some (.bool false) ∧ W.cell? ⟨w.heap.size + 1, 0, none⟩ = some (.int .u64 0) ∧ W.cell? ⟨w.heap.size + 1, 1, none⟩ = some (.int .u64 0)) (first | exact s1 | exact s0)
    (first | (go_at_call 52; (first | refine (KI.out _ (fatB FF.out (And.left s1))).mono ?_ | refine (KI.out _ (fatB FF.out (And.left s0))).mono ?_); rintro r wq ⟨rfl, bq⟩; have s1 := (by first | exact sS.out _ _ s1 bq | exact sS.out _ _ s0 bq); clear bq) | (go_at_call 50; (first | refine (KS.out _ (fatB FF.out (And.left s1))).mono ?_ | refine (KS.out _ (fatB FF.out (And.left s0))).mono ?_); rintro r wq ⟨rfl, bq⟩; have s1 := (by first | exact sS.out _ _ s1 bq | exact sS.out _ _ s0 bq); clear bq) | fail)
  have B2 := (And.left s1)
  have Ah := s1.2.1
  have Ai := s1.2.2.1
  clear s0 s1 sS B1 Aa At Au Av Aw Ax Ay Az AA AB Ab AC AD
  obtain ⟨AE, AF, AG, AH, AI, AJ, AK, AL, AM⟩ := rg_cells Ah
  obtain ⟨AN, AO⟩ := cells2s Ai
  have sT : Box (∀ (W : World) (xA : Value), (Below w.heap.size w W ∧ W.heap[w.heap.size + 1]? = some (.cells #[.int .u64 0, .int .u64 0] 26)) → (Below w.heap.size w (W.setCell ⟨w.heap.size, 1, none⟩ xA) ∧ (W.setCell ⟨w.heap.size, 1, none⟩ xA).heap[w.heap.size + 1]? = some (.cells #[.int .u64 0, .int .u64 0] 26))) := box (fun W xA h => ⟨Below.setCell h.1 (show w.heap.size ≤ w.heap.size by first | exact Nat.le_refl _ | omega | (skip; omega)) xA, (setCell_other (by first | omega | (skip; omega))).trans h.2⟩)
  have s0 : Below w.heap.size w wq ∧ wq.heap[w.heap.size + 1]? = some (.cells #[.int .u64 0, .int .u64 0] 26) := ⟨B2, Ai⟩
  have rz : wq.heap[w.heap.size]? = some (.cells (rg neg K x false) 49) := Ah
  have hqz := fz (k := 1) rz
  obtain ⟨hz0, hz1, hz2, hz3, hz4, hz5, hz6, hz7, hz8⟩ := rg_cells rz
  go_wp2_with fail
  go_region
  have s2 : Below w.heap.size w (wq.setCell ⟨w.heap.size, 1, none⟩ (.int .u64 ((wd K' 0 : Nat) : Int))) ∧ (wq.setCell ⟨w.heap.size, 1, none⟩ (.int .u64 ((wd K' 0 : Nat) : Int))).heap[w.heap.size + 1]? = some (.cells #[.int .u64 0, .int .u64 0] 26) := sT.out _ _ s0
  have Ac : ((wq.setCell ⟨w.heap.size, 1, none⟩ (.int .u64 ((wd K' 0 : Nat) : Int))).drew).heap[w.heap.size]? = some (.cells (rg neg K' x false) 49) := (by rw [setCell_row rz]; rw [rg_set1 neg K K' x false hk.out] : (wq.setCell ⟨w.heap.size, 1, none⟩ (.int .u64 ((wd K' 0 : Nat) : Int))).heap[w.heap.size]? = some (.cells (rg neg K' x false) 49))
  have B3 : Below w.heap.size w ((wq.setCell ⟨w.heap.size, 1, none⟩ (.int .u64 ((wd K' 0 : Nat) : Int))).drew) := (And.left s2).drew
  have Ad : ((wq.setCell ⟨w.heap.size, 1, none⟩ (.int .u64 ((wd K' 0 : Nat) : Int))).drew).heap[w.heap.size + 1]? = some (.cells #[.int .u64 0, .int .u64 0] 26) := s2.2
  obtain ⟨w3, Ao⟩ : ∃ V, ((wq.setCell ⟨w.heap.size, 1, none⟩ (.int .u64 ((wd K' 0 : Nat) : Int))).drew) = V := ⟨_, rfl⟩
  rw [Ao] at B3 Ac Ad ⊢
  clear Ao sT s0 s2 rz hqz hz0 hz1 hz2 hz3 hz4 hz5 hz6 hz7 hz8 B2 Ah AE AF AG AH AI AJ AK AL AM Ai AN AO
  obtain ⟨AP, AQ, AR, AS, AT, AU, AV, AW, AX⟩ := rg_cells Ac
  obtain ⟨AY, AZ⟩ := cells2s Ad
  go_wp2_with fail
  refine (KZ.out _ (fatB FF.out B3)).mono ?_
  rintro r w4 ⟨rfl, b4⟩
  have B4 : Below w.heap.size w w4 := btr B3 b4
  have Ae := heap_of b4 _ _ _ Ac
  have Af := heap_of b4 _ _ _ Ad
  clear b4 B3 Ac AP AQ AR AS AT AU AV AW AX Ad AY AZ
  obtain ⟨A0, A2, A3, A4, A5, A6, A7, A8, A9⟩ := rg_cells Ae
  obtain ⟨Ba, Bb⟩ := cells2s Af
  have S5 := box B4.size
  have Bc := ltR Ae
  have Bd := ltR Af
  have Aj := heap_alloc_last w4 (Obj.cells #[.int .u64 zu, .int .u64 zv] 26)
  have B5 := btr B4 (bal w4 (Obj.cells #[.int .u64 zu, .int .u64 zv] 26))
  have Ak := heap_of (bal w4 (Obj.cells #[.int .u64 zu, .int .u64 zv] 26)) _ _ _ Ae
  have Al := heap_of (bal w4 (Obj.cells #[.int .u64 zu, .int .u64 zv] 26)) _ _ _ Af
  clear B4 Ae A0 A2 A3 A4 A5 A6 A7 A8 A9 Af Ba Bb
  obtain ⟨Be, Bf, Bg, Bh, Bi, Bj, Bk, Bl, Bm⟩ := rg_cells Ak
  obtain ⟨Bn, Bo⟩ := cells2s Al
  obtain ⟨Bp, Bq⟩ := cells2s Aj
  have sS : Box (∀ W W1 : World, (Below w.heap.size w W ∧ W.heap[w.heap.size]? = some (.cells (rg neg K' x false) 49) ∧ W.heap[w.heap.size + 1]? = some (.cells #[.int .u64 0, .int .u64 0] 26) ∧ W.heap[w4.heap.size]? = some (.cells #[.int .u64 zu, .int .u64 zv] 26)) → Below W.heap.size W W1 → (Below w.heap.size w W1 ∧ W1.heap[w.heap.size]? = some (.cells (rg neg K' x false) 49) ∧ W1.heap[w.heap.size + 1]? = some (.cells #[.int .u64 0, .int .u64 0] 26) ∧ W1.heap[w4.heap.size]? = some (.cells #[.int .u64 zu, .int .u64 zv] 26))) := box (fun W W1 h b => ⟨btr h.1 b, heap_of b _ _ _ h.2.1, heap_of b _ _ _ h.2.2.1, heap_of b _ _ _ h.2.2.2⟩)
  have sL : Box (∀ W : World, (Below w.heap.size w W ∧ W.heap[w.heap.size]? = some (.cells (rg neg K' x false) 49) ∧ W.heap[w.heap.size + 1]? = some (.cells #[.int .u64 0, .int .u64 0] 26) ∧ W.heap[w4.heap.size]? = some (.cells #[.int .u64 zu, .int .u64 zv] 26)) → (w.heap.size < W.heap.size ∧ w.heap.size + 1 < W.heap.size ∧ w4.heap.size < W.heap.size)) := box (fun W h => ⟨(Array.getElem?_eq_some_iff.1 h.2.1).1, (Array.getElem?_eq_some_iff.1 h.2.2.1).1, (Array.getElem?_eq_some_iff.1 h.2.2.2).1⟩)
  have sT : Box (∀ (W : World) (gN : Nat) (xA xB : Value), (Below w.heap.size w W ∧ W.heap[w.heap.size]? = some (.cells (rg neg K' x false) 49) ∧ W.heap[w.heap.size + 1]? = some (.cells #[.int .u64 0, .int .u64 0] 26) ∧ W.heap[w4.heap.size]? = some (.cells #[.int .u64 zu, .int .u64 zv] 26)) → (w.heap.size < gN ∧ w.heap.size + 1 < gN ∧ w4.heap.size < gN) → (Below w.heap.size w ((W.setCell ⟨gN, 0, none⟩ xA).setCell ⟨gN, 1, none⟩ xB) ∧ ((W.setCell ⟨gN, 0, none⟩ xA).setCell ⟨gN, 1, none⟩ xB).heap[w.heap.size]? = some (.cells (rg neg K' x false) 49) ∧ ((W.setCell ⟨gN, 0, none⟩ xA).setCell ⟨gN, 1, none⟩ xB).heap[w.heap.size + 1]? = some (.cells #[.int .u64 0, .int .u64 0] 26) ∧ ((W.setCell ⟨gN, 0, none⟩ xA).setCell ⟨gN, 1, none⟩ xB).heap[w4.heap.size]? = some (.cells #[.int .u64 zu, .int .u64 zv] 26))) := box (fun W gN xA xB h l => ⟨set2_below h.1 (show w.heap.size ≤ gN by have := l.1; omega) _ _, (setCell_other (by have := l.1; omega)).trans ((setCell_other (by have := l.1; omega)).trans h.2.1), (setCell_other (by have := l.2.1; omega)).trans ((setCell_other (by have := l.2.1; omega)).trans h.2.2.1), (setCell_other (by have := l.2.2; omega)).trans ((setCell_other (by have := l.2.2; omega)).trans h.2.2.2)⟩)
  have sC : Box (∀ W : World, (Below w.heap.size w W ∧ W.heap[w.heap.size]? = some (.cells (rg neg K' x false) 49) ∧ W.heap[w.heap.size + 1]? = some (.cells #[.int .u64 0, .int .u64 0] 26) ∧ W.heap[w4.heap.size]? = some (.cells #[.int .u64 zu, .int .u64 zv] 26)) → (Below w.heap.size w W ∧ W.heap[w.heap.size]? = some (.cells (rg neg K' x false) 49) ∧ W.heap[w.heap.size + 1]? = some (.cells #[.int .u64 0, .int .u64 0] 26) ∧ W.heap[w4.heap.size]? = some (.cells #[.int .u64 zu, .int .u64 zv] 26) ∧ W.cell? ⟨w.heap.size, 0, none⟩ = some (.bool neg) ∧ W.cell? ⟨w.heap.size, 1, none⟩ = some (.int .u64 ((wd K' 0 : Nat) : Int)) ∧ W.cell? ⟨w.heap.size, 2, none⟩ = some (.int .u64 ((wd K' 1 : Nat) : Int)) ∧ W.cell? ⟨w.heap.size, 3, none⟩ = some (.int .u64 ((wd K' 2 : Nat) : Int)) ∧ W.cell? ⟨w.heap.size, 4, none⟩ = some (.int .u64 ((wd K' 3 : Nat) : Int)) ∧ W.cell? ⟨w.heap.size, 5, none⟩ = some (.int .u64 ((wd K' 4 : Nat) : Int)) ∧ W.cell? ⟨w.heap.size, 6, none⟩ = some (.int .u64 ((wd K' 5 : Nat) : Int)) ∧ W.cell? ⟨w.heap.size, 7, none⟩ = some (.int .i64 x) ∧ W.cell? ⟨w.heap.size, 8, none⟩ = some (.bool false) ∧ W.cell? ⟨w.heap.size + 1, 0, none⟩ = some (.int .u64 0) ∧ W.cell? ⟨w.heap.size + 1, 1, none⟩ = some (.int .u64 0) ∧ W.cell? ⟨w4.heap.size, 0, none⟩ = some (.int .u64 zu) ∧ W.cell? ⟨w4.heap.size, 1, none⟩ = some (.int .u64 zv))) := box (fun W h => ⟨h.1, h.2.1, h.2.2.1, h.2.2.2, cell7 (h.2.1) 0 _ rfl, cell7 (h.2.1) 1 _ rfl, cell7 (h.2.1) 2 _ rfl, cell7 (h.2.1) 3 _ rfl, cell7 (h.2.1) 4 _ rfl, cell7 (h.2.1) 5 _ rfl, cell7 (h.2.1) 6 _ rfl, cell7 (h.2.1) 7 _ rfl, cell7 (h.2.1) 8 _ rfl, cell7 (h.2.2.1) 0 _ rfl, cell7 (h.2.2.1) 1 _ rfl, cell7 (h.2.2.2) 0 _ rfl, cell7 (h.2.2.2) 1 _ rfl⟩)
  have s0 : Below w.heap.size w ((w4.alloc (Obj.cells #[.int .u64 zu, .int .u64 zv] 26))).drew ∧ ((w4.alloc (Obj.cells #[.int .u64 zu, .int .u64 zv] 26))).drew.heap[w.heap.size]? = some (.cells (rg neg K' x false) 49) ∧ ((w4.alloc (Obj.cells #[.int .u64 zu, .int .u64 zv] 26))).drew.heap[w.heap.size + 1]? = some (.cells #[.int .u64 0, .int .u64 0] 26) ∧ ((w4.alloc (Obj.cells #[.int .u64 zu, .int .u64 zv] 26))).drew.heap[w4.heap.size]? = some (.cells #[.int .u64 zu, .int .u64 zv] 26) := ⟨B5.drew, Ak, Al, Aj⟩
  clear B5 Ak Be Bf Bg Bh Bi Bj Bk Bl Bm Al Bn Bo Aj Bp Bq
  go_wp2_with fail
  apply cut7
  · intro key0
    have key := box key0
    clear key0
    go_region_held3 (fun W => Below w.heap.size w W ∧ W.heap[w.heap.size]? = some (.cells (rg neg K' x false) 49) ∧ W.heap[w.heap.size + 1]? = some (.cells #[.int .u64 0, .int .u64 0] 26) ∧ W.heap[w4.heap.size]? = some (.cells #[.int .u64 zu, .int .u64 zv] 26) ∧ W.cell? ⟨w.heap.size, 0, none⟩ = some (.bool neg) ∧ W.cell? ⟨w.heap.size, 1, none⟩ = some (.int .u64 ((wd K' 0 : Nat) : Int)) ∧ W.cell? ⟨w.heap.size, 2, none⟩ = some (.int .u64 ((wd K' 1 : Nat) : Int)) ∧ W.cell? ⟨w.heap.size, 3, none⟩ = some (.int .u64 ((wd K' 2 : Nat) : Int)) ∧ W.cell? ⟨w.heap.size, 4, none⟩ = some (.int .u64 ((wd K' 3 : Nat) : Int)) ∧ W.cell? ⟨w.heap.size, 5, none⟩ = some (.int .u64 ((wd K' 4 : Nat) : Int)) ∧ W.cell? ⟨w.heap.size, 6, none⟩ = some (.int .u64 ((wd K' 5 : Nat) : Int)) ∧ W.cell? ⟨w.heap.size, 7, none⟩ = some (.int .i64 x) ∧ W.cell? ⟨w.heap.size, 8, none⟩ = some (.bool false) ∧ W.cell? ⟨w.heap.size + 1, 0, none⟩ = some (.int .u64 0) ∧ W.cell? ⟨w.heap.size + 1, 1, none⟩ = some (.int .u64 0) ∧ W.cell? ⟨w4.heap.size, 0, none⟩ = some (.int .u64 zu) ∧ W.cell? ⟨w4.heap.size, 1, none⟩ = some (.int .u64 zv)) (first | exact sC.out _ s1 | exact sC.out _ s0 | exact sC.out _ (sS.out _ _ s1 (bal _ _)) | exact sC.out _ (sS.out _ _ s0 (bal _ _)) | exact sC.out _ (sT.out _ _ _ _ s1 hl))
      (first | (go_at_call 57; (first | refine (KB.out _).mono ?_ | refine (KB.out _).mono ?_); rintro r wq ⟨rfl, bq⟩; (first | (have hg := heap_of bq _ _ _ (heap_alloc_last _ _); have hl := (by first | exact sL.out _ s1 | exact sL.out _ s0)) | have hg := heap_of bq _ _ _ hg | skip); (try simp only [size_dr, size_al] at hg hl); (first | (have Ap := fz (k := 0) hg; have Aq := fz (k := 1) hg; have Ar := cell7 hg 0 _ rfl; have As := cell7 hg 1 _ rfl) | skip); have s2 := (by first | exact sS.out _ _ s1 bq | exact sS.out _ _ s0 bq | exact sS.out _ _ (sS.out _ _ s1 (bal _ _)) bq | exact sS.out _ _ (sS.out _ _ s0 (bal _ _)) bq); (try clear s1); have s1 := s2; clear s2 bq) | (go_at_call 61; (first | refine (KO.out _).mono ?_ | refine (KO.out _).mono ?_); rintro r wq ⟨rfl, bq⟩; (first | (have hg := heap_of bq _ _ _ (heap_alloc_last _ _); have hl := (by first | exact sL.out _ s1 | exact sL.out _ s0)) | have hg := heap_of bq _ _ _ hg | skip); (try simp only [size_dr, size_al] at hg hl); (first | (have Ap := fz (k := 0) hg; have Aq := fz (k := 1) hg; have Ar := cell7 hg 0 _ rfl; have As := cell7 hg 1 _ rfl) | skip); have s2 := (by first | exact sS.out _ _ s1 bq | exact sS.out _ _ s0 bq | exact sS.out _ _ (sS.out _ _ s1 (bal _ _)) bq | exact sS.out _ _ (sS.out _ _ s0 (bal _ _)) bq); (try clear s1); have s1 := s2; clear s2 bq) | (go_at_call 60; (first | refine (KT.out _).mono ?_ | refine (KT.out _).mono ?_); rintro r wq ⟨rfl, bq⟩; (first | (have hg := heap_of bq _ _ _ (heap_alloc_last _ _); have hl := (by first | exact sL.out _ s1 | exact sL.out _ s0)) | have hg := heap_of bq _ _ _ hg | skip); (try simp only [size_dr, size_al] at hg hl); (first | (have Ap := fz (k := 0) hg; have Aq := fz (k := 1) hg; have Ar := cell7 hg 0 _ rfl; have As := cell7 hg 1 _ rfl) | skip); have s2 := (by first | exact sS.out _ _ s1 bq | exact sS.out _ _ s0 bq | exact sS.out _ _ (sS.out _ _ s1 (bal _ _)) bq | exact sS.out _ _ (sS.out _ _ s0 (bal _ _)) bq); (try clear s1); have s1 := s2; clear s2 bq) | fail)
    all_goals
      refine gen_round_encoding_8 (R := fun W gN => (Below w.heap.size w W ∧ W.heap[w.heap.size]? = some (.cells (rg neg K' x false) 49) ∧ W.heap[w.heap.size + 1]? = some (.cells #[.int .u64 0, .int .u64 0] 26) ∧ W.heap[w4.heap.size]? = some (.cells #[.int .u64 zu, .int .u64 zv] 26)) ∧ W.heap[gN]? = some (.cells #[.int .u64 u, .int .u64 v] 26) ∧ (w.heap.size < gN ∧ w.heap.size + 1 < gN ∧ w4.heap.size < gN)) key.out ?_
      first
        | exact ⟨(sT.out _ _ _ _ s1 hl), set2_row hg _ _, hl⟩
        | exact ⟨sS.out _ _ s1 (bal _ _), heap_alloc_last _ _, sL.out _ s1⟩
        | exact ⟨sS.out _ _ s0 (bal _ _), heap_alloc_last _ _, sL.out _ s0⟩
  rintro w6 g6 ⟨s1, Br, l6⟩
  have B6 := And.left s1
  have Bs := s1.2.1
  have Ag := s1.2.2.1
  have Bt := s1.2.2.2
  have H6 := box l6
  clear s0 s1 sS sC sL sT l6
  obtain ⟨Bu, Bv, Bw, Bx, By, Bz, BA, BB, BC⟩ := rg_cells Bs
  obtain ⟨BD, BE⟩ := cells2s Ag
  obtain ⟨BF, BG⟩ := cells2s Bt
  obtain ⟨BH, BI⟩ := cells2s Br
  have q0 := fz (k := 0) Ag
  have q1 := fz (k := 1) Ag
  obtain ⟨E0, E1⟩ := set2_cells Ag (.int .u64 u) (.int .u64 v)
  go_wp2
  exact bodyPost_ret (v := .agg #[.int .u64 u, .int .u64 v]) (by simp [results, Tryd.results55, go_sem, E0, E1]) rfl ⟨rfl, set2_below B6 (by first | exact Nat.le_refl _ | omega | (have := S5.out; have := Bc.out; have := Bd.out; have := H6.out; omega)) _ _⟩
theorem ro_enc_1 (neg : Bool) (K K' S : Nat) (x I st A1 F G : Int) (u v zu zv O : Nat) (ob : Bool) (w : World)
    (KP : Box (∀ w, FAt w → Calls Tryd.prog 66 #[.int .u8 1] w fun r w' => r = .returned (.int .i64 53) ∧ Below w.heap.size w w'))
    (KI : Box (∀ w, FAt w → Calls Tryd.prog 52 #[.int .u8 1] w fun r w' => r = .returned (.int .i64 I) ∧ Below w.heap.size w w'))
    (KS : Box (∀ w, FAt w → Calls Tryd.prog 50 #[.int .u8 1, .int .i64 I] w fun r w' => r = .returned (.int .i64 st) ∧ Below w.heap.size w w'))
    (h1 : IntKind.i64.wrap (x - st) = A1) (h2 : IntKind.u64.wrap A1 = F) (h3 : IntKind.u64.wrap (F * 4503599627370496) = G) (h4 : IntKind.u64.wrap (((wd K 0 : Nat) : Int) + G) = ((wd K' 0 : Nat) : Int))
    (hk : Box (∀ k, 0 < k → k < 6 → wd K' k = wd K k))
    (KZ : Box (∀ w, FAt w → Calls Tryd.prog 8 #[.int .u8 1, .bool neg] w fun r w' => r = .returned (.agg #[.int .u64 zu, .int .u64 zv]) ∧ Below w.heap.size w w'))
    (KB : Box (∀ w, Calls Tryd.prog 57 #[.agg #[.int .u64 zu, .int .u64 zv]] w fun r w' => r = .returned (.agg (cw 6 S)) ∧ Below w.heap.size w w'))
    (KO : Box (∀ w, Calls Tryd.prog 61 #[.agg (cw 6 K'), .agg (cw 6 S)] w fun r w' => r = .returned (.agg (cw 6 O)) ∧ Below w.heap.size w w'))
    (KT : Box (∀ w, Calls Tryd.prog 60 #[.agg (cw 6 O)] w fun r w' => r = .returned (.tuple #[.agg #[.int .u64 u, .int .u64 v], .bool ob]) ∧ Below w.heap.size w w')) (hT : FAt w) : Calls Tryd.prog 55 #[.int .u8 1, .agg (rg neg K x false)] w fun r w' => r = .returned (.agg #[.int .u64 u, .int .u64 v]) ∧ Below w.heap.size w w' := by
  have FF := box hT
  clear hT
  have hat := cw_at 6
  have hz := cw6z
  have hff := cw6f
  have hs0 := st0
  have hcs : ∀ x, ((cw 6 x).size = 6) = True := fun x => eq_true (cw_size 6 x)
  have hp1 := rgf
  have hp5 : ∀ (c : Bool) (s : Nat) (x : Int) (r : Bool), ((rg c s x r).size = 9) = True := fun _ _ _ _ => eq_true rfl
  obtain ⟨Am, An, B0⟩ := opn2 w (Obj.cells (rg neg K x false) 49) (Obj.cells #[.int .u64 0, .int .u64 0] 26)
  go_enter Tryd.func55, Tryd.ntmps55
  go_wp2_with fail
  refine (KP.out _ (fatB FF.out B0)).mono ?_
  rintro r w1 ⟨rfl, b1⟩
  have B1 : Below w.heap.size w w1 := btr B0 b1
  have Aa := heap_of b1 _ _ _ Am
  have Ab := heap_of b1 _ _ _ An
  clear b1 B0 Am An
  obtain ⟨At, Au, Av, Aw, Ax, Ay, Az, AA, AB⟩ := rg_cells Aa
  obtain ⟨AC, AD⟩ := cells2s Ab
  have sS : Box (∀ W W1 : World, (Below w.heap.size w W ∧ W.heap[w.heap.size]? = some (.cells (rg neg K x false) 49) ∧ W.heap[w.heap.size + 1]? = some (.cells #[.int .u64 0, .int .u64 0] 26) ∧ W.cell? ⟨w.heap.size, 0, none⟩ = some (.bool neg) ∧ W.cell? ⟨w.heap.size, 1, none⟩ = some (.int .u64 (wd K 0)) ∧ W.cell? ⟨w.heap.size, 2, none⟩ = some (.int .u64 (wd K 1)) ∧ W.cell? ⟨w.heap.size, 3, none⟩ = some (.int .u64 (wd K 2)) ∧ W.cell? ⟨w.heap.size, 4, none⟩ = some (.int .u64 (wd K 3)) ∧ W.cell? ⟨w.heap.size, 5, none⟩ = some (.int .u64 (wd K 4)) ∧ W.cell? ⟨w.heap.size, 6, none⟩ = some (.int .u64 (wd K 5)) ∧ W.cell? ⟨w.heap.size, 7, none⟩ = some (.int .i64 x) ∧ W.cell? ⟨w.heap.size, 8, none⟩ = some (.bool false) ∧ W.cell? ⟨w.heap.size + 1, 0, none⟩ = some (.int .u64 0) ∧ W.cell? ⟨w.heap.size + 1, 1, none⟩ = some (.int .u64 0)) → Below W.heap.size W W1 → (Below w.heap.size w W1 ∧ W1.heap[w.heap.size]? = some (.cells (rg neg K x false) 49) ∧ W1.heap[w.heap.size + 1]? = some (.cells #[.int .u64 0, .int .u64 0] 26) ∧ W1.cell? ⟨w.heap.size, 0, none⟩ = some (.bool neg) ∧ W1.cell? ⟨w.heap.size, 1, none⟩ = some (.int .u64 (wd K 0)) ∧ W1.cell? ⟨w.heap.size, 2, none⟩ = some (.int .u64 (wd K 1)) ∧ W1.cell? ⟨w.heap.size, 3, none⟩ = some (.int .u64 (wd K 2)) ∧ W1.cell? ⟨w.heap.size, 4, none⟩ = some (.int .u64 (wd K 3)) ∧ W1.cell? ⟨w.heap.size, 5, none⟩ = some (.int .u64 (wd K 4)) ∧ W1.cell? ⟨w.heap.size, 6, none⟩ = some (.int .u64 (wd K 5)) ∧ W1.cell? ⟨w.heap.size, 7, none⟩ = some (.int .i64 x) ∧ W1.cell? ⟨w.heap.size, 8, none⟩ = some (.bool false) ∧ W1.cell? ⟨w.heap.size + 1, 0, none⟩ = some (.int .u64 0) ∧ W1.cell? ⟨w.heap.size + 1, 1, none⟩ = some (.int .u64 0))) := box (fun W W1 h b => ⟨btr h.1 b, heap_of b _ _ _ h.2.1, heap_of b _ _ _ h.2.2.1, cell7 (heap_of b _ _ _ h.2.1) 0 _ rfl, cell7 (heap_of b _ _ _ h.2.1) 1 _ rfl, cell7 (heap_of b _ _ _ h.2.1) 2 _ rfl, cell7 (heap_of b _ _ _ h.2.1) 3 _ rfl, cell7 (heap_of b _ _ _ h.2.1) 4 _ rfl, cell7 (heap_of b _ _ _ h.2.1) 5 _ rfl, cell7 (heap_of b _ _ _ h.2.1) 6 _ rfl, cell7 (heap_of b _ _ _ h.2.1) 7 _ rfl, cell7 (heap_of b _ _ _ h.2.1) 8 _ rfl, cell7 (heap_of b _ _ _ h.2.2.1) 0 _ rfl, cell7 (heap_of b _ _ _ h.2.2.1) 1 _ rfl⟩)
  have s0 : Below w.heap.size w (w1).drew ∧ (w1).drew.heap[w.heap.size]? = some (.cells (rg neg K x false) 49) ∧ (w1).drew.heap[w.heap.size + 1]? = some (.cells #[.int .u64 0, .int .u64 0] 26) ∧ (w1).drew.cell? ⟨w.heap.size, 0, none⟩ = some (.bool neg) ∧ (w1).drew.cell? ⟨w.heap.size, 1, none⟩ = some (.int .u64 (wd K 0)) ∧ (w1).drew.cell? ⟨w.heap.size, 2, none⟩ = some (.int .u64 (wd K 1)) ∧ (w1).drew.cell? ⟨w.heap.size, 3, none⟩ = some (.int .u64 (wd K 2)) ∧ (w1).drew.cell? ⟨w.heap.size, 4, none⟩ = some (.int .u64 (wd K 3)) ∧ (w1).drew.cell? ⟨w.heap.size, 5, none⟩ = some (.int .u64 (wd K 4)) ∧ (w1).drew.cell? ⟨w.heap.size, 6, none⟩ = some (.int .u64 (wd K 5)) ∧ (w1).drew.cell? ⟨w.heap.size, 7, none⟩ = some (.int .i64 x) ∧ (w1).drew.cell? ⟨w.heap.size, 8, none⟩ = some (.bool false) ∧ (w1).drew.cell? ⟨w.heap.size + 1, 0, none⟩ = some (.int .u64 0) ∧ (w1).drew.cell? ⟨w.heap.size + 1, 1, none⟩ = some (.int .u64 0) := ⟨B1.drew, Aa, Ab, cell7 (Aa) 0 _ rfl, cell7 (Aa) 1 _ rfl, cell7 (Aa) 2 _ rfl, cell7 (Aa) 3 _ rfl, cell7 (Aa) 4 _ rfl, cell7 (Aa) 5 _ rfl, cell7 (Aa) 6 _ rfl, cell7 (Aa) 7 _ rfl, cell7 (Aa) 8 _ rfl, cell7 (Ab) 0 _ rfl, cell7 (Ab) 1 _ rfl⟩
  go_wp2_with fail
  go_region_held3 (fun W => Below w.heap.size w W ∧ W.heap[w.heap.size]? = some (.cells (rg neg K x false) 49) ∧ W.heap[w.heap.size + 1]? = some (.cells #[.int .u64 0, .int .u64 0] 26) ∧ W.cell? ⟨w.heap.size, 0, none⟩ = some (.bool neg) ∧ W.cell? ⟨w.heap.size, 1, none⟩ = some (.int .u64 (wd K 0)) ∧ W.cell? ⟨w.heap.size, 2, none⟩ = some (.int .u64 (wd K 1)) ∧ W.cell? ⟨w.heap.size, 3, none⟩ = some (.int .u64 (wd K 2)) ∧ W.cell? ⟨w.heap.size, 4, none⟩ = some (.int .u64 (wd K 3)) ∧ W.cell? ⟨w.heap.size, 5, none⟩ = some (.int .u64 (wd K 4)) ∧ W.cell? ⟨w.heap.size, 6, none⟩ = some (.int .u64 (wd K 5)) ∧ W.cell? ⟨w.heap.size, 7, none⟩ = some (.int .i64 x) ∧ W.cell? ⟨w.heap.size, 8, none⟩ = some (.bool false) ∧ W.cell? ⟨w.heap.size + 1, 0, none⟩ = some (.int .u64 0) ∧ W.cell? ⟨w.heap.size + 1, 1, none⟩ = some (.int .u64 0)) (first | exact s1 | exact s0)
    (first | (go_at_call 52; (first | refine (KI.out _ (fatB FF.out (And.left s1))).mono ?_ | refine (KI.out _ (fatB FF.out (And.left s0))).mono ?_); rintro r wq ⟨rfl, bq⟩; have s1 := (by first | exact sS.out _ _ s1 bq | exact sS.out _ _ s0 bq); clear bq) | (go_at_call 50; (first | refine (KS.out _ (fatB FF.out (And.left s1))).mono ?_ | refine (KS.out _ (fatB FF.out (And.left s0))).mono ?_); rintro r wq ⟨rfl, bq⟩; have s1 := (by first | exact sS.out _ _ s1 bq | exact sS.out _ _ s0 bq); clear bq) | fail)
  have B2 := (And.left s1)
  have Ah := s1.2.1
  have Ai := s1.2.2.1
  clear s0 s1 sS B1 Aa At Au Av Aw Ax Ay Az AA AB Ab AC AD
  obtain ⟨AE, AF, AG, AH, AI, AJ, AK, AL, AM⟩ := rg_cells Ah
  obtain ⟨AN, AO⟩ := cells2s Ai
  have sT : Box (∀ (W : World) (xA : Value), (Below w.heap.size w W ∧ W.heap[w.heap.size + 1]? = some (.cells #[.int .u64 0, .int .u64 0] 26)) → (Below w.heap.size w (W.setCell ⟨w.heap.size, 1, none⟩ xA) ∧ (W.setCell ⟨w.heap.size, 1, none⟩ xA).heap[w.heap.size + 1]? = some (.cells #[.int .u64 0, .int .u64 0] 26))) := box (fun W xA h => ⟨Below.setCell h.1 (show w.heap.size ≤ w.heap.size by first | exact Nat.le_refl _ | omega | (skip; omega)) xA, (setCell_other (by first | omega | (skip; omega))).trans h.2⟩)
  have s0 : Below w.heap.size w wq ∧ wq.heap[w.heap.size + 1]? = some (.cells #[.int .u64 0, .int .u64 0] 26) := ⟨B2, Ai⟩
  have rz : wq.heap[w.heap.size]? = some (.cells (rg neg K x false) 49) := Ah
  have hqz := fz (k := 1) rz
  obtain ⟨hz0, hz1, hz2, hz3, hz4, hz5, hz6, hz7, hz8⟩ := rg_cells rz
  go_wp2_with fail
  go_region
  have s2 : Below w.heap.size w (wq.setCell ⟨w.heap.size, 1, none⟩ (.int .u64 ((wd K' 0 : Nat) : Int))) ∧ (wq.setCell ⟨w.heap.size, 1, none⟩ (.int .u64 ((wd K' 0 : Nat) : Int))).heap[w.heap.size + 1]? = some (.cells #[.int .u64 0, .int .u64 0] 26) := sT.out _ _ s0
  have Ac : ((wq.setCell ⟨w.heap.size, 1, none⟩ (.int .u64 ((wd K' 0 : Nat) : Int))).drew).heap[w.heap.size]? = some (.cells (rg neg K' x false) 49) := (by rw [setCell_row rz]; rw [rg_set1 neg K K' x false hk.out] : (wq.setCell ⟨w.heap.size, 1, none⟩ (.int .u64 ((wd K' 0 : Nat) : Int))).heap[w.heap.size]? = some (.cells (rg neg K' x false) 49))
  have B3 : Below w.heap.size w ((wq.setCell ⟨w.heap.size, 1, none⟩ (.int .u64 ((wd K' 0 : Nat) : Int))).drew) := (And.left s2).drew
  have Ad : ((wq.setCell ⟨w.heap.size, 1, none⟩ (.int .u64 ((wd K' 0 : Nat) : Int))).drew).heap[w.heap.size + 1]? = some (.cells #[.int .u64 0, .int .u64 0] 26) := s2.2
  obtain ⟨w3, Ao⟩ : ∃ V, ((wq.setCell ⟨w.heap.size, 1, none⟩ (.int .u64 ((wd K' 0 : Nat) : Int))).drew) = V := ⟨_, rfl⟩
  rw [Ao] at B3 Ac Ad ⊢
  clear Ao sT s0 s2 rz hqz hz0 hz1 hz2 hz3 hz4 hz5 hz6 hz7 hz8 B2 Ah AE AF AG AH AI AJ AK AL AM Ai AN AO
  obtain ⟨AP, AQ, AR, AS, AT, AU, AV, AW, AX⟩ := rg_cells Ac
  obtain ⟨AY, AZ⟩ := cells2s Ad
  go_wp2_with fail
  refine (KZ.out _ (fatB FF.out B3)).mono ?_
  rintro r w4 ⟨rfl, b4⟩
  have B4 : Below w.heap.size w w4 := btr B3 b4
  have Ae := heap_of b4 _ _ _ Ac
  have Af := heap_of b4 _ _ _ Ad
  clear b4 B3 Ac AP AQ AR AS AT AU AV AW AX Ad AY AZ
  obtain ⟨A0, A2, A3, A4, A5, A6, A7, A8, A9⟩ := rg_cells Ae
  obtain ⟨Ba, Bb⟩ := cells2s Af
  have S5 := box B4.size
  have Bc := ltR Ae
  have Bd := ltR Af
  have Aj := heap_alloc_last w4 (Obj.cells #[.int .u64 zu, .int .u64 zv] 26)
  have B5 := btr B4 (bal w4 (Obj.cells #[.int .u64 zu, .int .u64 zv] 26))
  have Ak := heap_of (bal w4 (Obj.cells #[.int .u64 zu, .int .u64 zv] 26)) _ _ _ Ae
  have Al := heap_of (bal w4 (Obj.cells #[.int .u64 zu, .int .u64 zv] 26)) _ _ _ Af
  clear B4 Ae A0 A2 A3 A4 A5 A6 A7 A8 A9 Af Ba Bb
  obtain ⟨Be, Bf, Bg, Bh, Bi, Bj, Bk, Bl, Bm⟩ := rg_cells Ak
  obtain ⟨Bn, Bo⟩ := cells2s Al
  obtain ⟨Bp, Bq⟩ := cells2s Aj
  have sS : Box (∀ W W1 : World, (Below w.heap.size w W ∧ W.heap[w.heap.size]? = some (.cells (rg neg K' x false) 49) ∧ W.heap[w.heap.size + 1]? = some (.cells #[.int .u64 0, .int .u64 0] 26) ∧ W.heap[w4.heap.size]? = some (.cells #[.int .u64 zu, .int .u64 zv] 26)) → Below W.heap.size W W1 → (Below w.heap.size w W1 ∧ W1.heap[w.heap.size]? = some (.cells (rg neg K' x false) 49) ∧ W1.heap[w.heap.size + 1]? = some (.cells #[.int .u64 0, .int .u64 0] 26) ∧ W1.heap[w4.heap.size]? = some (.cells #[.int .u64 zu, .int .u64 zv] 26))) := box (fun W W1 h b => ⟨btr h.1 b, heap_of b _ _ _ h.2.1, heap_of b _ _ _ h.2.2.1, heap_of b _ _ _ h.2.2.2⟩)
  have sL : Box (∀ W : World, (Below w.heap.size w W ∧ W.heap[w.heap.size]? = some (.cells (rg neg K' x false) 49) ∧ W.heap[w.heap.size + 1]? = some (.cells #[.int .u64 0, .int .u64 0] 26) ∧ W.heap[w4.heap.size]? = some (.cells #[.int .u64 zu, .int .u64 zv] 26)) → (w.heap.size < W.heap.size ∧ w.heap.size + 1 < W.heap.size ∧ w4.heap.size < W.heap.size)) := box (fun W h => ⟨(Array.getElem?_eq_some_iff.1 h.2.1).1, (Array.getElem?_eq_some_iff.1 h.2.2.1).1, (Array.getElem?_eq_some_iff.1 h.2.2.2).1⟩)
  have sT : Box (∀ (W : World) (gN : Nat) (xA xB : Value), (Below w.heap.size w W ∧ W.heap[w.heap.size]? = some (.cells (rg neg K' x false) 49) ∧ W.heap[w.heap.size + 1]? = some (.cells #[.int .u64 0, .int .u64 0] 26) ∧ W.heap[w4.heap.size]? = some (.cells #[.int .u64 zu, .int .u64 zv] 26)) → (w.heap.size < gN ∧ w.heap.size + 1 < gN ∧ w4.heap.size < gN) → (Below w.heap.size w ((W.setCell ⟨gN, 0, none⟩ xA).setCell ⟨gN, 1, none⟩ xB) ∧ ((W.setCell ⟨gN, 0, none⟩ xA).setCell ⟨gN, 1, none⟩ xB).heap[w.heap.size]? = some (.cells (rg neg K' x false) 49) ∧ ((W.setCell ⟨gN, 0, none⟩ xA).setCell ⟨gN, 1, none⟩ xB).heap[w.heap.size + 1]? = some (.cells #[.int .u64 0, .int .u64 0] 26) ∧ ((W.setCell ⟨gN, 0, none⟩ xA).setCell ⟨gN, 1, none⟩ xB).heap[w4.heap.size]? = some (.cells #[.int .u64 zu, .int .u64 zv] 26))) := box (fun W gN xA xB h l => ⟨set2_below h.1 (show w.heap.size ≤ gN by have := l.1; omega) _ _, (setCell_other (by have := l.1; omega)).trans ((setCell_other (by have := l.1; omega)).trans h.2.1), (setCell_other (by have := l.2.1; omega)).trans ((setCell_other (by have := l.2.1; omega)).trans h.2.2.1), (setCell_other (by have := l.2.2; omega)).trans ((setCell_other (by have := l.2.2; omega)).trans h.2.2.2)⟩)
  have sC : Box (∀ W : World, (Below w.heap.size w W ∧ W.heap[w.heap.size]? = some (.cells (rg neg K' x false) 49) ∧ W.heap[w.heap.size + 1]? = some (.cells #[.int .u64 0, .int .u64 0] 26) ∧ W.heap[w4.heap.size]? = some (.cells #[.int .u64 zu, .int .u64 zv] 26)) → (Below w.heap.size w W ∧ W.heap[w.heap.size]? = some (.cells (rg neg K' x false) 49) ∧ W.heap[w.heap.size + 1]? = some (.cells #[.int .u64 0, .int .u64 0] 26) ∧ W.heap[w4.heap.size]? = some (.cells #[.int .u64 zu, .int .u64 zv] 26) ∧ W.cell? ⟨w.heap.size, 0, none⟩ = some (.bool neg) ∧ W.cell? ⟨w.heap.size, 1, none⟩ = some (.int .u64 ((wd K' 0 : Nat) : Int)) ∧ W.cell? ⟨w.heap.size, 2, none⟩ = some (.int .u64 ((wd K' 1 : Nat) : Int)) ∧ W.cell? ⟨w.heap.size, 3, none⟩ = some (.int .u64 ((wd K' 2 : Nat) : Int)) ∧ W.cell? ⟨w.heap.size, 4, none⟩ = some (.int .u64 ((wd K' 3 : Nat) : Int)) ∧ W.cell? ⟨w.heap.size, 5, none⟩ = some (.int .u64 ((wd K' 4 : Nat) : Int)) ∧ W.cell? ⟨w.heap.size, 6, none⟩ = some (.int .u64 ((wd K' 5 : Nat) : Int)) ∧ W.cell? ⟨w.heap.size, 7, none⟩ = some (.int .i64 x) ∧ W.cell? ⟨w.heap.size, 8, none⟩ = some (.bool false) ∧ W.cell? ⟨w.heap.size + 1, 0, none⟩ = some (.int .u64 0) ∧ W.cell? ⟨w.heap.size + 1, 1, none⟩ = some (.int .u64 0) ∧ W.cell? ⟨w4.heap.size, 0, none⟩ = some (.int .u64 zu) ∧ W.cell? ⟨w4.heap.size, 1, none⟩ = some (.int .u64 zv))) := box (fun W h => ⟨h.1, h.2.1, h.2.2.1, h.2.2.2, cell7 (h.2.1) 0 _ rfl, cell7 (h.2.1) 1 _ rfl, cell7 (h.2.1) 2 _ rfl, cell7 (h.2.1) 3 _ rfl, cell7 (h.2.1) 4 _ rfl, cell7 (h.2.1) 5 _ rfl, cell7 (h.2.1) 6 _ rfl, cell7 (h.2.1) 7 _ rfl, cell7 (h.2.1) 8 _ rfl, cell7 (h.2.2.1) 0 _ rfl, cell7 (h.2.2.1) 1 _ rfl, cell7 (h.2.2.2) 0 _ rfl, cell7 (h.2.2.2) 1 _ rfl⟩)
  have s0 : Below w.heap.size w ((w4.alloc (Obj.cells #[.int .u64 zu, .int .u64 zv] 26))).drew ∧ ((w4.alloc (Obj.cells #[.int .u64 zu, .int .u64 zv] 26))).drew.heap[w.heap.size]? = some (.cells (rg neg K' x false) 49) ∧ ((w4.alloc (Obj.cells #[.int .u64 zu, .int .u64 zv] 26))).drew.heap[w.heap.size + 1]? = some (.cells #[.int .u64 0, .int .u64 0] 26) ∧ ((w4.alloc (Obj.cells #[.int .u64 zu, .int .u64 zv] 26))).drew.heap[w4.heap.size]? = some (.cells #[.int .u64 zu, .int .u64 zv] 26) := ⟨B5.drew, Ak, Al, Aj⟩
  clear B5 Ak Be Bf Bg Bh Bi Bj Bk Bl Bm Al Bn Bo Aj Bp Bq
  go_wp2_with fail
  apply cut7
  · intro key0
    have key := box key0
    clear key0
    go_region_held3 (fun W => Below w.heap.size w W ∧ W.heap[w.heap.size]? = some (.cells (rg neg K' x false) 49) ∧ W.heap[w.heap.size + 1]? = some (.cells #[.int .u64 0, .int .u64 0] 26) ∧ W.heap[w4.heap.size]? = some (.cells #[.int .u64 zu, .int .u64 zv] 26) ∧ W.cell? ⟨w.heap.size, 0, none⟩ = some (.bool neg) ∧ W.cell? ⟨w.heap.size, 1, none⟩ = some (.int .u64 ((wd K' 0 : Nat) : Int)) ∧ W.cell? ⟨w.heap.size, 2, none⟩ = some (.int .u64 ((wd K' 1 : Nat) : Int)) ∧ W.cell? ⟨w.heap.size, 3, none⟩ = some (.int .u64 ((wd K' 2 : Nat) : Int)) ∧ W.cell? ⟨w.heap.size, 4, none⟩ = some (.int .u64 ((wd K' 3 : Nat) : Int)) ∧ W.cell? ⟨w.heap.size, 5, none⟩ = some (.int .u64 ((wd K' 4 : Nat) : Int)) ∧ W.cell? ⟨w.heap.size, 6, none⟩ = some (.int .u64 ((wd K' 5 : Nat) : Int)) ∧ W.cell? ⟨w.heap.size, 7, none⟩ = some (.int .i64 x) ∧ W.cell? ⟨w.heap.size, 8, none⟩ = some (.bool false) ∧ W.cell? ⟨w.heap.size + 1, 0, none⟩ = some (.int .u64 0) ∧ W.cell? ⟨w.heap.size + 1, 1, none⟩ = some (.int .u64 0) ∧ W.cell? ⟨w4.heap.size, 0, none⟩ = some (.int .u64 zu) ∧ W.cell? ⟨w4.heap.size, 1, none⟩ = some (.int .u64 zv)) (first | exact sC.out _ s1 | exact sC.out _ s0 | exact sC.out _ (sS.out _ _ s1 (bal _ _)) | exact sC.out _ (sS.out _ _ s0 (bal _ _)) | exact sC.out _ (sT.out _ _ _ _ s1 hl))
      (first | (go_at_call 57; (first | refine (KB.out _).mono ?_ | refine (KB.out _).mono ?_); rintro r wq ⟨rfl, bq⟩; (first | (have hg := heap_of bq _ _ _ (heap_alloc_last _ _); have hl := (by first | exact sL.out _ s1 | exact sL.out _ s0)) | have hg := heap_of bq _ _ _ hg | skip); (try simp only [size_dr, size_al] at hg hl); (first | (have Ap := fz (k := 0) hg; have Aq := fz (k := 1) hg; have Ar := cell7 hg 0 _ rfl; have As := cell7 hg 1 _ rfl) | skip); have s2 := (by first | exact sS.out _ _ s1 bq | exact sS.out _ _ s0 bq | exact sS.out _ _ (sS.out _ _ s1 (bal _ _)) bq | exact sS.out _ _ (sS.out _ _ s0 (bal _ _)) bq); (try clear s1); have s1 := s2; clear s2 bq) | (go_at_call 61; (first | refine (KO.out _).mono ?_ | refine (KO.out _).mono ?_); rintro r wq ⟨rfl, bq⟩; (first | (have hg := heap_of bq _ _ _ (heap_alloc_last _ _); have hl := (by first | exact sL.out _ s1 | exact sL.out _ s0)) | have hg := heap_of bq _ _ _ hg | skip); (try simp only [size_dr, size_al] at hg hl); (first | (have Ap := fz (k := 0) hg; have Aq := fz (k := 1) hg; have Ar := cell7 hg 0 _ rfl; have As := cell7 hg 1 _ rfl) | skip); have s2 := (by first | exact sS.out _ _ s1 bq | exact sS.out _ _ s0 bq | exact sS.out _ _ (sS.out _ _ s1 (bal _ _)) bq | exact sS.out _ _ (sS.out _ _ s0 (bal _ _)) bq); (try clear s1); have s1 := s2; clear s2 bq) | (go_at_call 60; (first | refine (KT.out _).mono ?_ | refine (KT.out _).mono ?_); rintro r wq ⟨rfl, bq⟩; (first | (have hg := heap_of bq _ _ _ (heap_alloc_last _ _); have hl := (by first | exact sL.out _ s1 | exact sL.out _ s0)) | have hg := heap_of bq _ _ _ hg | skip); (try simp only [size_dr, size_al] at hg hl); (first | (have Ap := fz (k := 0) hg; have Aq := fz (k := 1) hg; have Ar := cell7 hg 0 _ rfl; have As := cell7 hg 1 _ rfl) | skip); have s2 := (by first | exact sS.out _ _ s1 bq | exact sS.out _ _ s0 bq | exact sS.out _ _ (sS.out _ _ s1 (bal _ _)) bq | exact sS.out _ _ (sS.out _ _ s0 (bal _ _)) bq); (try clear s1); have s1 := s2; clear s2 bq) | fail)
    all_goals
      refine gen_round_encoding_8 (R := fun W gN => (Below w.heap.size w W ∧ W.heap[w.heap.size]? = some (.cells (rg neg K' x false) 49) ∧ W.heap[w.heap.size + 1]? = some (.cells #[.int .u64 0, .int .u64 0] 26) ∧ W.heap[w4.heap.size]? = some (.cells #[.int .u64 zu, .int .u64 zv] 26)) ∧ W.heap[gN]? = some (.cells #[.int .u64 u, .int .u64 v] 26) ∧ (w.heap.size < gN ∧ w.heap.size + 1 < gN ∧ w4.heap.size < gN)) key.out ?_
      first
        | exact ⟨(sT.out _ _ _ _ s1 hl), set2_row hg _ _, hl⟩
        | exact ⟨sS.out _ _ s1 (bal _ _), heap_alloc_last _ _, sL.out _ s1⟩
        | exact ⟨sS.out _ _ s0 (bal _ _), heap_alloc_last _ _, sL.out _ s0⟩
  rintro w6 g6 ⟨s1, Br, l6⟩
  have B6 := And.left s1
  have Bs := s1.2.1
  have Ag := s1.2.2.1
  have Bt := s1.2.2.2
  have H6 := box l6
  clear s0 s1 sS sC sL sT l6
  obtain ⟨Bu, Bv, Bw, Bx, By, Bz, BA, BB, BC⟩ := rg_cells Bs
  obtain ⟨BD, BE⟩ := cells2s Ag
  obtain ⟨BF, BG⟩ := cells2s Bt
  obtain ⟨BH, BI⟩ := cells2s Br
  have q0 := fz (k := 0) Ag
  have q1 := fz (k := 1) Ag
  obtain ⟨E0, E1⟩ := set2_cells Ag (.int .u64 u) (.int .u64 v)
  go_wp2
  exact bodyPost_ret (v := .agg #[.int .u64 u, .int .u64 v]) (by simp [results, Tryd.results55, go_sem, E0, E1]) rfl ⟨rfl, set2_below B6 (by first | exact Nat.le_refl _ | omega | (have := S5.out; have := Bc.out; have := Bd.out; have := H6.out; omega)) _ _⟩
theorem ro_enc_2 (neg : Bool) (K K' S : Nat) (x I st A1 F G : Int) (u v zu zv O : Nat) (ob : Bool) (w : World)
    (KP : Box (∀ w, FAt w → Calls Tryd.prog 66 #[.int .u8 2] w fun r w' => r = .returned (.int .i64 11) ∧ Below w.heap.size w w'))
    (KI : Box (∀ w, FAt w → Calls Tryd.prog 52 #[.int .u8 2] w fun r w' => r = .returned (.int .i64 I) ∧ Below w.heap.size w w'))
    (KS : Box (∀ w, FAt w → Calls Tryd.prog 50 #[.int .u8 2, .int .i64 I] w fun r w' => r = .returned (.int .i64 st) ∧ Below w.heap.size w w'))
    (h1 : IntKind.i64.wrap (x - st) = A1) (h2 : IntKind.u64.wrap A1 = F) (h3 : IntKind.u64.wrap (F * 1024) = G) (h4 : IntKind.u64.wrap (((wd K 0 : Nat) : Int) + G) = ((wd K' 0 : Nat) : Int))
    (hk : Box (∀ k, 0 < k → k < 6 → wd K' k = wd K k))
    (KZ : Box (∀ w, FAt w → Calls Tryd.prog 8 #[.int .u8 2, .bool neg] w fun r w' => r = .returned (.agg #[.int .u64 zu, .int .u64 zv]) ∧ Below w.heap.size w w'))
    (KB : Box (∀ w, Calls Tryd.prog 57 #[.agg #[.int .u64 zu, .int .u64 zv]] w fun r w' => r = .returned (.agg (cw 6 S)) ∧ Below w.heap.size w w'))
    (KO : Box (∀ w, Calls Tryd.prog 61 #[.agg (cw 6 K'), .agg (cw 6 S)] w fun r w' => r = .returned (.agg (cw 6 O)) ∧ Below w.heap.size w w'))
    (KT : Box (∀ w, Calls Tryd.prog 60 #[.agg (cw 6 O)] w fun r w' => r = .returned (.tuple #[.agg #[.int .u64 u, .int .u64 v], .bool ob]) ∧ Below w.heap.size w w')) (hT : FAt w) : Calls Tryd.prog 55 #[.int .u8 2, .agg (rg neg K x false)] w fun r w' => r = .returned (.agg #[.int .u64 u, .int .u64 v]) ∧ Below w.heap.size w w' := by
  have FF := box hT
  clear hT
  have hat := cw_at 6
  have hz := cw6z
  have hff := cw6f
  have hs0 := st0
  have hcs : ∀ x, ((cw 6 x).size = 6) = True := fun x => eq_true (cw_size 6 x)
  have hp1 := rgf
  have hp5 : ∀ (c : Bool) (s : Nat) (x : Int) (r : Bool), ((rg c s x r).size = 9) = True := fun _ _ _ _ => eq_true rfl
  obtain ⟨Am, An, B0⟩ := opn2 w (Obj.cells (rg neg K x false) 49) (Obj.cells #[.int .u64 0, .int .u64 0] 26)
  go_enter Tryd.func55, Tryd.ntmps55
  go_wp2_with fail
  refine (KP.out _ (fatB FF.out B0)).mono ?_
  rintro r w1 ⟨rfl, b1⟩
  have B1 : Below w.heap.size w w1 := btr B0 b1
  have Aa := heap_of b1 _ _ _ Am
  have Ab := heap_of b1 _ _ _ An
  clear b1 B0 Am An
  obtain ⟨At, Au, Av, Aw, Ax, Ay, Az, AA, AB⟩ := rg_cells Aa
  obtain ⟨AC, AD⟩ := cells2s Ab
  have sS : Box (∀ W W1 : World, (Below w.heap.size w W ∧ W.heap[w.heap.size]? = some (.cells (rg neg K x false) 49) ∧ W.heap[w.heap.size + 1]? = some (.cells #[.int .u64 0, .int .u64 0] 26) ∧ W.cell? ⟨w.heap.size, 0, none⟩ = some (.bool neg) ∧ W.cell? ⟨w.heap.size, 1, none⟩ = some (.int .u64 (wd K 0)) ∧ W.cell? ⟨w.heap.size, 2, none⟩ = some (.int .u64 (wd K 1)) ∧ W.cell? ⟨w.heap.size, 3, none⟩ = some (.int .u64 (wd K 2)) ∧ W.cell? ⟨w.heap.size, 4, none⟩ = some (.int .u64 (wd K 3)) ∧ W.cell? ⟨w.heap.size, 5, none⟩ = some (.int .u64 (wd K 4)) ∧ W.cell? ⟨w.heap.size, 6, none⟩ = some (.int .u64 (wd K 5)) ∧ W.cell? ⟨w.heap.size, 7, none⟩ = some (.int .i64 x) ∧ W.cell? ⟨w.heap.size, 8, none⟩ = some (.bool false) ∧ W.cell? ⟨w.heap.size + 1, 0, none⟩ = some (.int .u64 0) ∧ W.cell? ⟨w.heap.size + 1, 1, none⟩ = some (.int .u64 0)) → Below W.heap.size W W1 → (Below w.heap.size w W1 ∧ W1.heap[w.heap.size]? = some (.cells (rg neg K x false) 49) ∧ W1.heap[w.heap.size + 1]? = some (.cells #[.int .u64 0, .int .u64 0] 26) ∧ W1.cell? ⟨w.heap.size, 0, none⟩ = some (.bool neg) ∧ W1.cell? ⟨w.heap.size, 1, none⟩ = some (.int .u64 (wd K 0)) ∧ W1.cell? ⟨w.heap.size, 2, none⟩ = some (.int .u64 (wd K 1)) ∧ W1.cell? ⟨w.heap.size, 3, none⟩ = some (.int .u64 (wd K 2)) ∧ W1.cell? ⟨w.heap.size, 4, none⟩ = some (.int .u64 (wd K 3)) ∧ W1.cell? ⟨w.heap.size, 5, none⟩ = some (.int .u64 (wd K 4)) ∧ W1.cell? ⟨w.heap.size, 6, none⟩ = some (.int .u64 (wd K 5)) ∧ W1.cell? ⟨w.heap.size, 7, none⟩ = some (.int .i64 x) ∧ W1.cell? ⟨w.heap.size, 8, none⟩ = some (.bool false) ∧ W1.cell? ⟨w.heap.size + 1, 0, none⟩ = some (.int .u64 0) ∧ W1.cell? ⟨w.heap.size + 1, 1, none⟩ = some (.int .u64 0))) := box (fun W W1 h b => ⟨btr h.1 b, heap_of b _ _ _ h.2.1, heap_of b _ _ _ h.2.2.1, cell7 (heap_of b _ _ _ h.2.1) 0 _ rfl, cell7 (heap_of b _ _ _ h.2.1) 1 _ rfl, cell7 (heap_of b _ _ _ h.2.1) 2 _ rfl, cell7 (heap_of b _ _ _ h.2.1) 3 _ rfl, cell7 (heap_of b _ _ _ h.2.1) 4 _ rfl, cell7 (heap_of b _ _ _ h.2.1) 5 _ rfl, cell7 (heap_of b _ _ _ h.2.1) 6 _ rfl, cell7 (heap_of b _ _ _ h.2.1) 7 _ rfl, cell7 (heap_of b _ _ _ h.2.1) 8 _ rfl, cell7 (heap_of b _ _ _ h.2.2.1) 0 _ rfl, cell7 (heap_of b _ _ _ h.2.2.1) 1 _ rfl⟩)
  have s0 : Below w.heap.size w (w1).drew ∧ (w1).drew.heap[w.heap.size]? = some (.cells (rg neg K x false) 49) ∧ (w1).drew.heap[w.heap.size + 1]? = some (.cells #[.int .u64 0, .int .u64 0] 26) ∧ (w1).drew.cell? ⟨w.heap.size, 0, none⟩ = some (.bool neg) ∧ (w1).drew.cell? ⟨w.heap.size, 1, none⟩ = some (.int .u64 (wd K 0)) ∧ (w1).drew.cell? ⟨w.heap.size, 2, none⟩ = some (.int .u64 (wd K 1)) ∧ (w1).drew.cell? ⟨w.heap.size, 3, none⟩ = some (.int .u64 (wd K 2)) ∧ (w1).drew.cell? ⟨w.heap.size, 4, none⟩ = some (.int .u64 (wd K 3)) ∧ (w1).drew.cell? ⟨w.heap.size, 5, none⟩ = some (.int .u64 (wd K 4)) ∧ (w1).drew.cell? ⟨w.heap.size, 6, none⟩ = some (.int .u64 (wd K 5)) ∧ (w1).drew.cell? ⟨w.heap.size, 7, none⟩ = some (.int .i64 x) ∧ (w1).drew.cell? ⟨w.heap.size, 8, none⟩ = some (.bool false) ∧ (w1).drew.cell? ⟨w.heap.size + 1, 0, none⟩ = some (.int .u64 0) ∧ (w1).drew.cell? ⟨w.heap.size + 1, 1, none⟩ = some (.int .u64 0) := ⟨B1.drew, Aa, Ab, cell7 (Aa) 0 _ rfl, cell7 (Aa) 1 _ rfl, cell7 (Aa) 2 _ rfl, cell7 (Aa) 3 _ rfl, cell7 (Aa) 4 _ rfl, cell7 (Aa) 5 _ rfl, cell7 (Aa) 6 _ rfl, cell7 (Aa) 7 _ rfl, cell7 (Aa) 8 _ rfl, cell7 (Ab) 0 _ rfl, cell7 (Ab) 1 _ rfl⟩
  go_wp2_with fail
  go_region_held3 (fun W => Below w.heap.size w W ∧ W.heap[w.heap.size]? = some (.cells (rg neg K x false) 49) ∧ W.heap[w.heap.size + 1]? = some (.cells #[.int .u64 0, .int .u64 0] 26) ∧ W.cell? ⟨w.heap.size, 0, none⟩ = some (.bool neg) ∧ W.cell? ⟨w.heap.size, 1, none⟩ = some (.int .u64 (wd K 0)) ∧ W.cell? ⟨w.heap.size, 2, none⟩ = some (.int .u64 (wd K 1)) ∧ W.cell? ⟨w.heap.size, 3, none⟩ = some (.int .u64 (wd K 2)) ∧ W.cell? ⟨w.heap.size, 4, none⟩ = some (.int .u64 (wd K 3)) ∧ W.cell? ⟨w.heap.size, 5, none⟩ = some (.int .u64 (wd K 4)) ∧ W.cell? ⟨w.heap.size, 6, none⟩ = some (.int .u64 (wd K 5)) ∧ W.cell? ⟨w.heap.size, 7, none⟩ = some (.int .i64 x) ∧ W.cell? ⟨w.heap.size, 8, none⟩ = some (.bool false) ∧ W.cell? ⟨w.heap.size + 1, 0, none⟩ = some (.int .u64 0) ∧ W.cell? ⟨w.heap.size + 1, 1, none⟩ = some (.int .u64 0)) (first | exact s1 | exact s0)
    (first | (go_at_call 52; (first | refine (KI.out _ (fatB FF.out (And.left s1))).mono ?_ | refine (KI.out _ (fatB FF.out (And.left s0))).mono ?_); rintro r wq ⟨rfl, bq⟩; have s1 := (by first | exact sS.out _ _ s1 bq | exact sS.out _ _ s0 bq); clear bq) | (go_at_call 50; (first | refine (KS.out _ (fatB FF.out (And.left s1))).mono ?_ | refine (KS.out _ (fatB FF.out (And.left s0))).mono ?_); rintro r wq ⟨rfl, bq⟩; have s1 := (by first | exact sS.out _ _ s1 bq | exact sS.out _ _ s0 bq); clear bq) | fail)
  have B2 := (And.left s1)
  have Ah := s1.2.1
  have Ai := s1.2.2.1
  clear s0 s1 sS B1 Aa At Au Av Aw Ax Ay Az AA AB Ab AC AD
  obtain ⟨AE, AF, AG, AH, AI, AJ, AK, AL, AM⟩ := rg_cells Ah
  obtain ⟨AN, AO⟩ := cells2s Ai
  have sT : Box (∀ (W : World) (xA : Value), (Below w.heap.size w W ∧ W.heap[w.heap.size + 1]? = some (.cells #[.int .u64 0, .int .u64 0] 26)) → (Below w.heap.size w (W.setCell ⟨w.heap.size, 1, none⟩ xA) ∧ (W.setCell ⟨w.heap.size, 1, none⟩ xA).heap[w.heap.size + 1]? = some (.cells #[.int .u64 0, .int .u64 0] 26))) := box (fun W xA h => ⟨Below.setCell h.1 (show w.heap.size ≤ w.heap.size by first | exact Nat.le_refl _ | omega | (skip; omega)) xA, (setCell_other (by first | omega | (skip; omega))).trans h.2⟩)
  have s0 : Below w.heap.size w wq ∧ wq.heap[w.heap.size + 1]? = some (.cells #[.int .u64 0, .int .u64 0] 26) := ⟨B2, Ai⟩
  have rz : wq.heap[w.heap.size]? = some (.cells (rg neg K x false) 49) := Ah
  have hqz := fz (k := 1) rz
  obtain ⟨hz0, hz1, hz2, hz3, hz4, hz5, hz6, hz7, hz8⟩ := rg_cells rz
  go_wp2_with fail
  go_region
  have s2 : Below w.heap.size w (wq.setCell ⟨w.heap.size, 1, none⟩ (.int .u64 ((wd K' 0 : Nat) : Int))) ∧ (wq.setCell ⟨w.heap.size, 1, none⟩ (.int .u64 ((wd K' 0 : Nat) : Int))).heap[w.heap.size + 1]? = some (.cells #[.int .u64 0, .int .u64 0] 26) := sT.out _ _ s0
  have Ac : ((wq.setCell ⟨w.heap.size, 1, none⟩ (.int .u64 ((wd K' 0 : Nat) : Int))).drew).heap[w.heap.size]? = some (.cells (rg neg K' x false) 49) := (by rw [setCell_row rz]; rw [rg_set1 neg K K' x false hk.out] : (wq.setCell ⟨w.heap.size, 1, none⟩ (.int .u64 ((wd K' 0 : Nat) : Int))).heap[w.heap.size]? = some (.cells (rg neg K' x false) 49))
  have B3 : Below w.heap.size w ((wq.setCell ⟨w.heap.size, 1, none⟩ (.int .u64 ((wd K' 0 : Nat) : Int))).drew) := (And.left s2).drew
  have Ad : ((wq.setCell ⟨w.heap.size, 1, none⟩ (.int .u64 ((wd K' 0 : Nat) : Int))).drew).heap[w.heap.size + 1]? = some (.cells #[.int .u64 0, .int .u64 0] 26) := s2.2
  obtain ⟨w3, Ao⟩ : ∃ V, ((wq.setCell ⟨w.heap.size, 1, none⟩ (.int .u64 ((wd K' 0 : Nat) : Int))).drew) = V := ⟨_, rfl⟩
  rw [Ao] at B3 Ac Ad ⊢
  clear Ao sT s0 s2 rz hqz hz0 hz1 hz2 hz3 hz4 hz5 hz6 hz7 hz8 B2 Ah AE AF AG AH AI AJ AK AL AM Ai AN AO
  obtain ⟨AP, AQ, AR, AS, AT, AU, AV, AW, AX⟩ := rg_cells Ac
  obtain ⟨AY, AZ⟩ := cells2s Ad
  go_wp2_with fail
  refine (KZ.out _ (fatB FF.out B3)).mono ?_
  rintro r w4 ⟨rfl, b4⟩
  have B4 : Below w.heap.size w w4 := btr B3 b4
  have Ae := heap_of b4 _ _ _ Ac
  have Af := heap_of b4 _ _ _ Ad
  clear b4 B3 Ac AP AQ AR AS AT AU AV AW AX Ad AY AZ
  obtain ⟨A0, A2, A3, A4, A5, A6, A7, A8, A9⟩ := rg_cells Ae
  obtain ⟨Ba, Bb⟩ := cells2s Af
  have S5 := box B4.size
  have Bc := ltR Ae
  have Bd := ltR Af
  have Aj := heap_alloc_last w4 (Obj.cells #[.int .u64 zu, .int .u64 zv] 26)
  have B5 := btr B4 (bal w4 (Obj.cells #[.int .u64 zu, .int .u64 zv] 26))
  have Ak := heap_of (bal w4 (Obj.cells #[.int .u64 zu, .int .u64 zv] 26)) _ _ _ Ae
  have Al := heap_of (bal w4 (Obj.cells #[.int .u64 zu, .int .u64 zv] 26)) _ _ _ Af
  clear B4 Ae A0 A2 A3 A4 A5 A6 A7 A8 A9 Af Ba Bb
  obtain ⟨Be, Bf, Bg, Bh, Bi, Bj, Bk, Bl, Bm⟩ := rg_cells Ak
  obtain ⟨Bn, Bo⟩ := cells2s Al
  obtain ⟨Bp, Bq⟩ := cells2s Aj
  have sS : Box (∀ W W1 : World, (Below w.heap.size w W ∧ W.heap[w.heap.size]? = some (.cells (rg neg K' x false) 49) ∧ W.heap[w.heap.size + 1]? = some (.cells #[.int .u64 0, .int .u64 0] 26) ∧ W.heap[w4.heap.size]? = some (.cells #[.int .u64 zu, .int .u64 zv] 26)) → Below W.heap.size W W1 → (Below w.heap.size w W1 ∧ W1.heap[w.heap.size]? = some (.cells (rg neg K' x false) 49) ∧ W1.heap[w.heap.size + 1]? = some (.cells #[.int .u64 0, .int .u64 0] 26) ∧ W1.heap[w4.heap.size]? = some (.cells #[.int .u64 zu, .int .u64 zv] 26))) := box (fun W W1 h b => ⟨btr h.1 b, heap_of b _ _ _ h.2.1, heap_of b _ _ _ h.2.2.1, heap_of b _ _ _ h.2.2.2⟩)
  have sL : Box (∀ W : World, (Below w.heap.size w W ∧ W.heap[w.heap.size]? = some (.cells (rg neg K' x false) 49) ∧ W.heap[w.heap.size + 1]? = some (.cells #[.int .u64 0, .int .u64 0] 26) ∧ W.heap[w4.heap.size]? = some (.cells #[.int .u64 zu, .int .u64 zv] 26)) → (w.heap.size < W.heap.size ∧ w.heap.size + 1 < W.heap.size ∧ w4.heap.size < W.heap.size)) := box (fun W h => ⟨(Array.getElem?_eq_some_iff.1 h.2.1).1, (Array.getElem?_eq_some_iff.1 h.2.2.1).1, (Array.getElem?_eq_some_iff.1 h.2.2.2).1⟩)
  have sT : Box (∀ (W : World) (gN : Nat) (xA xB : Value), (Below w.heap.size w W ∧ W.heap[w.heap.size]? = some (.cells (rg neg K' x false) 49) ∧ W.heap[w.heap.size + 1]? = some (.cells #[.int .u64 0, .int .u64 0] 26) ∧ W.heap[w4.heap.size]? = some (.cells #[.int .u64 zu, .int .u64 zv] 26)) → (w.heap.size < gN ∧ w.heap.size + 1 < gN ∧ w4.heap.size < gN) → (Below w.heap.size w ((W.setCell ⟨gN, 0, none⟩ xA).setCell ⟨gN, 1, none⟩ xB) ∧ ((W.setCell ⟨gN, 0, none⟩ xA).setCell ⟨gN, 1, none⟩ xB).heap[w.heap.size]? = some (.cells (rg neg K' x false) 49) ∧ ((W.setCell ⟨gN, 0, none⟩ xA).setCell ⟨gN, 1, none⟩ xB).heap[w.heap.size + 1]? = some (.cells #[.int .u64 0, .int .u64 0] 26) ∧ ((W.setCell ⟨gN, 0, none⟩ xA).setCell ⟨gN, 1, none⟩ xB).heap[w4.heap.size]? = some (.cells #[.int .u64 zu, .int .u64 zv] 26))) := box (fun W gN xA xB h l => ⟨set2_below h.1 (show w.heap.size ≤ gN by have := l.1; omega) _ _, (setCell_other (by have := l.1; omega)).trans ((setCell_other (by have := l.1; omega)).trans h.2.1), (setCell_other (by have := l.2.1; omega)).trans ((setCell_other (by have := l.2.1; omega)).trans h.2.2.1), (setCell_other (by have := l.2.2; omega)).trans ((setCell_other (by have := l.2.2; omega)).trans h.2.2.2)⟩)
  have sC : Box (∀ W : World, (Below w.heap.size w W ∧ W.heap[w.heap.size]? = some (.cells (rg neg K' x false) 49) ∧ W.heap[w.heap.size + 1]? = some (.cells #[.int .u64 0, .int .u64 0] 26) ∧ W.heap[w4.heap.size]? = some (.cells #[.int .u64 zu, .int .u64 zv] 26)) → (Below w.heap.size w W ∧ W.heap[w.heap.size]? = some (.cells (rg neg K' x false) 49) ∧ W.heap[w.heap.size + 1]? = some (.cells #[.int .u64 0, .int .u64 0] 26) ∧ W.heap[w4.heap.size]? = some (.cells #[.int .u64 zu, .int .u64 zv] 26) ∧ W.cell? ⟨w.heap.size, 0, none⟩ = some (.bool neg) ∧ W.cell? ⟨w.heap.size, 1, none⟩ = some (.int .u64 ((wd K' 0 : Nat) : Int)) ∧ W.cell? ⟨w.heap.size, 2, none⟩ = some (.int .u64 ((wd K' 1 : Nat) : Int)) ∧ W.cell? ⟨w.heap.size, 3, none⟩ = some (.int .u64 ((wd K' 2 : Nat) : Int)) ∧ W.cell? ⟨w.heap.size, 4, none⟩ = some (.int .u64 ((wd K' 3 : Nat) : Int)) ∧ W.cell? ⟨w.heap.size, 5, none⟩ = some (.int .u64 ((wd K' 4 : Nat) : Int)) ∧ W.cell? ⟨w.heap.size, 6, none⟩ = some (.int .u64 ((wd K' 5 : Nat) : Int)) ∧ W.cell? ⟨w.heap.size, 7, none⟩ = some (.int .i64 x) ∧ W.cell? ⟨w.heap.size, 8, none⟩ = some (.bool false) ∧ W.cell? ⟨w.heap.size + 1, 0, none⟩ = some (.int .u64 0) ∧ W.cell? ⟨w.heap.size + 1, 1, none⟩ = some (.int .u64 0) ∧ W.cell? ⟨w4.heap.size, 0, none⟩ = some (.int .u64 zu) ∧ W.cell? ⟨w4.heap.size, 1, none⟩ = some (.int .u64 zv))) := box (fun W h => ⟨h.1, h.2.1, h.2.2.1, h.2.2.2, cell7 (h.2.1) 0 _ rfl, cell7 (h.2.1) 1 _ rfl, cell7 (h.2.1) 2 _ rfl, cell7 (h.2.1) 3 _ rfl, cell7 (h.2.1) 4 _ rfl, cell7 (h.2.1) 5 _ rfl, cell7 (h.2.1) 6 _ rfl, cell7 (h.2.1) 7 _ rfl, cell7 (h.2.1) 8 _ rfl, cell7 (h.2.2.1) 0 _ rfl, cell7 (h.2.2.1) 1 _ rfl, cell7 (h.2.2.2) 0 _ rfl, cell7 (h.2.2.2) 1 _ rfl⟩)
  have s0 : Below w.heap.size w ((w4.alloc (Obj.cells #[.int .u64 zu, .int .u64 zv] 26))).drew ∧ ((w4.alloc (Obj.cells #[.int .u64 zu, .int .u64 zv] 26))).drew.heap[w.heap.size]? = some (.cells (rg neg K' x false) 49) ∧ ((w4.alloc (Obj.cells #[.int .u64 zu, .int .u64 zv] 26))).drew.heap[w.heap.size + 1]? = some (.cells #[.int .u64 0, .int .u64 0] 26) ∧ ((w4.alloc (Obj.cells #[.int .u64 zu, .int .u64 zv] 26))).drew.heap[w4.heap.size]? = some (.cells #[.int .u64 zu, .int .u64 zv] 26) := ⟨B5.drew, Ak, Al, Aj⟩
  clear B5 Ak Be Bf Bg Bh Bi Bj Bk Bl Bm Al Bn Bo Aj Bp Bq
  go_wp2_with fail
  apply cut7
  · intro key0
    have key := box key0
    clear key0
    go_region_held3 (fun W => Below w.heap.size w W ∧ W.heap[w.heap.size]? = some (.cells (rg neg K' x false) 49) ∧ W.heap[w.heap.size + 1]? = some (.cells #[.int .u64 0, .int .u64 0] 26) ∧ W.heap[w4.heap.size]? = some (.cells #[.int .u64 zu, .int .u64 zv] 26) ∧ W.cell? ⟨w.heap.size, 0, none⟩ = some (.bool neg) ∧ W.cell? ⟨w.heap.size, 1, none⟩ = some (.int .u64 ((wd K' 0 : Nat) : Int)) ∧ W.cell? ⟨w.heap.size, 2, none⟩ = some (.int .u64 ((wd K' 1 : Nat) : Int)) ∧ W.cell? ⟨w.heap.size, 3, none⟩ = some (.int .u64 ((wd K' 2 : Nat) : Int)) ∧ W.cell? ⟨w.heap.size, 4, none⟩ = some (.int .u64 ((wd K' 3 : Nat) : Int)) ∧ W.cell? ⟨w.heap.size, 5, none⟩ = some (.int .u64 ((wd K' 4 : Nat) : Int)) ∧ W.cell? ⟨w.heap.size, 6, none⟩ = some (.int .u64 ((wd K' 5 : Nat) : Int)) ∧ W.cell? ⟨w.heap.size, 7, none⟩ = some (.int .i64 x) ∧ W.cell? ⟨w.heap.size, 8, none⟩ = some (.bool false) ∧ W.cell? ⟨w.heap.size + 1, 0, none⟩ = some (.int .u64 0) ∧ W.cell? ⟨w.heap.size + 1, 1, none⟩ = some (.int .u64 0) ∧ W.cell? ⟨w4.heap.size, 0, none⟩ = some (.int .u64 zu) ∧ W.cell? ⟨w4.heap.size, 1, none⟩ = some (.int .u64 zv)) (first | exact sC.out _ s1 | exact sC.out _ s0 | exact sC.out _ (sS.out _ _ s1 (bal _ _)) | exact sC.out _ (sS.out _ _ s0 (bal _ _)) | exact sC.out _ (sT.out _ _ _ _ s1 hl))
      (first | (go_at_call 57; (first | refine (KB.out _).mono ?_ | refine (KB.out _).mono ?_); rintro r wq ⟨rfl, bq⟩; (first | (have hg := heap_of bq _ _ _ (heap_alloc_last _ _); have hl := (by first | exact sL.out _ s1 | exact sL.out _ s0)) | have hg := heap_of bq _ _ _ hg | skip); (try simp only [size_dr, size_al] at hg hl); (first | (have Ap := fz (k := 0) hg; have Aq := fz (k := 1) hg; have Ar := cell7 hg 0 _ rfl; have As := cell7 hg 1 _ rfl) | skip); have s2 := (by first | exact sS.out _ _ s1 bq | exact sS.out _ _ s0 bq | exact sS.out _ _ (sS.out _ _ s1 (bal _ _)) bq | exact sS.out _ _ (sS.out _ _ s0 (bal _ _)) bq); (try clear s1); have s1 := s2; clear s2 bq) | (go_at_call 61; (first | refine (KO.out _).mono ?_ | refine (KO.out _).mono ?_); rintro r wq ⟨rfl, bq⟩; (first | (have hg := heap_of bq _ _ _ (heap_alloc_last _ _); have hl := (by first | exact sL.out _ s1 | exact sL.out _ s0)) | have hg := heap_of bq _ _ _ hg | skip); (try simp only [size_dr, size_al] at hg hl); (first | (have Ap := fz (k := 0) hg; have Aq := fz (k := 1) hg; have Ar := cell7 hg 0 _ rfl; have As := cell7 hg 1 _ rfl) | skip); have s2 := (by first | exact sS.out _ _ s1 bq | exact sS.out _ _ s0 bq | exact sS.out _ _ (sS.out _ _ s1 (bal _ _)) bq | exact sS.out _ _ (sS.out _ _ s0 (bal _ _)) bq); (try clear s1); have s1 := s2; clear s2 bq) | (go_at_call 60; (first | refine (KT.out _).mono ?_ | refine (KT.out _).mono ?_); rintro r wq ⟨rfl, bq⟩; (first | (have hg := heap_of bq _ _ _ (heap_alloc_last _ _); have hl := (by first | exact sL.out _ s1 | exact sL.out _ s0)) | have hg := heap_of bq _ _ _ hg | skip); (try simp only [size_dr, size_al] at hg hl); (first | (have Ap := fz (k := 0) hg; have Aq := fz (k := 1) hg; have Ar := cell7 hg 0 _ rfl; have As := cell7 hg 1 _ rfl) | skip); have s2 := (by first | exact sS.out _ _ s1 bq | exact sS.out _ _ s0 bq | exact sS.out _ _ (sS.out _ _ s1 (bal _ _)) bq | exact sS.out _ _ (sS.out _ _ s0 (bal _ _)) bq); (try clear s1); have s1 := s2; clear s2 bq) | fail)
    all_goals
      refine gen_round_encoding_8 (R := fun W gN => (Below w.heap.size w W ∧ W.heap[w.heap.size]? = some (.cells (rg neg K' x false) 49) ∧ W.heap[w.heap.size + 1]? = some (.cells #[.int .u64 0, .int .u64 0] 26) ∧ W.heap[w4.heap.size]? = some (.cells #[.int .u64 zu, .int .u64 zv] 26)) ∧ W.heap[gN]? = some (.cells #[.int .u64 u, .int .u64 v] 26) ∧ (w.heap.size < gN ∧ w.heap.size + 1 < gN ∧ w4.heap.size < gN)) key.out ?_
      first
        | exact ⟨(sT.out _ _ _ _ s1 hl), set2_row hg _ _, hl⟩
        | exact ⟨sS.out _ _ s1 (bal _ _), heap_alloc_last _ _, sL.out _ s1⟩
        | exact ⟨sS.out _ _ s0 (bal _ _), heap_alloc_last _ _, sL.out _ s0⟩
  rintro w6 g6 ⟨s1, Br, l6⟩
  have B6 := And.left s1
  have Bs := s1.2.1
  have Ag := s1.2.2.1
  have Bt := s1.2.2.2
  have H6 := box l6
  clear s0 s1 sS sC sL sT l6
  obtain ⟨Bu, Bv, Bw, Bx, By, Bz, BA, BB, BC⟩ := rg_cells Bs
  obtain ⟨BD, BE⟩ := cells2s Ag
  obtain ⟨BF, BG⟩ := cells2s Bt
  obtain ⟨BH, BI⟩ := cells2s Br
  have q0 := fz (k := 0) Ag
  have q1 := fz (k := 1) Ag
  obtain ⟨E0, E1⟩ := set2_cells Ag (.int .u64 u) (.int .u64 v)
  go_wp2
  exact bodyPost_ret (v := .agg #[.int .u64 u, .int .u64 v]) (by simp [results, Tryd.results55, go_sem, E0, E1]) rfl ⟨rfl, set2_below B6 (by first | exact Nat.le_refl _ | omega | (have := S5.out; have := Bc.out; have := Bd.out; have := H6.out; omega)) _ _⟩
theorem ro_enc_3 (neg : Bool) (K K' S : Nat) (x I st A1 F G : Int) (u v zu zv O : Nat) (ob : Bool) (w : World)
    (KP : Box (∀ w, FAt w → Calls Tryd.prog 66 #[.int .u8 3] w fun r w' => r = .returned (.int .i64 113) ∧ Below w.heap.size w w'))
    (KI : Box (∀ w, FAt w → Calls Tryd.prog 52 #[.int .u8 3] w fun r w' => r = .returned (.int .i64 I) ∧ Below w.heap.size w w'))
    (KS : Box (∀ w, FAt w → Calls Tryd.prog 50 #[.int .u8 3, .int .i64 I] w fun r w' => r = .returned (.int .i64 st) ∧ Below w.heap.size w w'))
    (h1 : IntKind.i64.wrap (x - st) = A1) (h2 : IntKind.u64.wrap A1 = F) (h3 : IntKind.u64.wrap (F * 281474976710656) = G) (h4 : IntKind.u64.wrap (((wd K 1 : Nat) : Int) + G) = ((wd K' 1 : Nat) : Int))
    (hk : Box (∀ k, k ≠ 1 → k < 6 → wd K' k = wd K k))
    (KZ : Box (∀ w, FAt w → Calls Tryd.prog 8 #[.int .u8 3, .bool neg] w fun r w' => r = .returned (.agg #[.int .u64 zu, .int .u64 zv]) ∧ Below w.heap.size w w'))
    (KB : Box (∀ w, Calls Tryd.prog 57 #[.agg #[.int .u64 zu, .int .u64 zv]] w fun r w' => r = .returned (.agg (cw 6 S)) ∧ Below w.heap.size w w'))
    (KO : Box (∀ w, Calls Tryd.prog 61 #[.agg (cw 6 K'), .agg (cw 6 S)] w fun r w' => r = .returned (.agg (cw 6 O)) ∧ Below w.heap.size w w'))
    (KT : Box (∀ w, Calls Tryd.prog 60 #[.agg (cw 6 O)] w fun r w' => r = .returned (.tuple #[.agg #[.int .u64 u, .int .u64 v], .bool ob]) ∧ Below w.heap.size w w')) (hT : FAt w) : Calls Tryd.prog 55 #[.int .u8 3, .agg (rg neg K x false)] w fun r w' => r = .returned (.agg #[.int .u64 u, .int .u64 v]) ∧ Below w.heap.size w w' := by
  have FF := box hT
  clear hT
  have hat := cw_at 6
  have hz := cw6z
  have hff := cw6f
  have hs0 := st0
  have hcs : ∀ x, ((cw 6 x).size = 6) = True := fun x => eq_true (cw_size 6 x)
  have hp1 := rgf
  have hp5 : ∀ (c : Bool) (s : Nat) (x : Int) (r : Bool), ((rg c s x r).size = 9) = True := fun _ _ _ _ => eq_true rfl
  obtain ⟨Am, An, B0⟩ := opn2 w (Obj.cells (rg neg K x false) 49) (Obj.cells #[.int .u64 0, .int .u64 0] 26)
  go_enter Tryd.func55, Tryd.ntmps55
  go_wp2_with fail
  refine (KP.out _ (fatB FF.out B0)).mono ?_
  rintro r w1 ⟨rfl, b1⟩
  have B1 : Below w.heap.size w w1 := btr B0 b1
  have Aa := heap_of b1 _ _ _ Am
  have Ab := heap_of b1 _ _ _ An
  clear b1 B0 Am An
  obtain ⟨At, Au, Av, Aw, Ax, Ay, Az, AA, AB⟩ := rg_cells Aa
  obtain ⟨AC, AD⟩ := cells2s Ab
  have sS : Box (∀ W W1 : World, (Below w.heap.size w W ∧ W.heap[w.heap.size]? = some (.cells (rg neg K x false) 49) ∧ W.heap[w.heap.size + 1]? = some (.cells #[.int .u64 0, .int .u64 0] 26) ∧ W.cell? ⟨w.heap.size, 0, none⟩ = some (.bool neg) ∧ W.cell? ⟨w.heap.size, 1, none⟩ = some (.int .u64 (wd K 0)) ∧ W.cell? ⟨w.heap.size, 2, none⟩ = some (.int .u64 (wd K 1)) ∧ W.cell? ⟨w.heap.size, 3, none⟩ = some (.int .u64 (wd K 2)) ∧ W.cell? ⟨w.heap.size, 4, none⟩ = some (.int .u64 (wd K 3)) ∧ W.cell? ⟨w.heap.size, 5, none⟩ = some (.int .u64 (wd K 4)) ∧ W.cell? ⟨w.heap.size, 6, none⟩ = some (.int .u64 (wd K 5)) ∧ W.cell? ⟨w.heap.size, 7, none⟩ = some (.int .i64 x) ∧ W.cell? ⟨w.heap.size, 8, none⟩ = some (.bool false) ∧ W.cell? ⟨w.heap.size + 1, 0, none⟩ = some (.int .u64 0) ∧ W.cell? ⟨w.heap.size + 1, 1, none⟩ = some (.int .u64 0)) → Below W.heap.size W W1 → (Below w.heap.size w W1 ∧ W1.heap[w.heap.size]? = some (.cells (rg neg K x false) 49) ∧ W1.heap[w.heap.size + 1]? = some (.cells #[.int .u64 0, .int .u64 0] 26) ∧ W1.cell? ⟨w.heap.size, 0, none⟩ = some (.bool neg) ∧ W1.cell? ⟨w.heap.size, 1, none⟩ = some (.int .u64 (wd K 0)) ∧ W1.cell? ⟨w.heap.size, 2, none⟩ = some (.int .u64 (wd K 1)) ∧ W1.cell? ⟨w.heap.size, 3, none⟩ = some (.int .u64 (wd K 2)) ∧ W1.cell? ⟨w.heap.size, 4, none⟩ = some (.int .u64 (wd K 3)) ∧ W1.cell? ⟨w.heap.size, 5, none⟩ = some (.int .u64 (wd K 4)) ∧ W1.cell? ⟨w.heap.size, 6, none⟩ = some (.int .u64 (wd K 5)) ∧ W1.cell? ⟨w.heap.size, 7, none⟩ = some (.int .i64 x) ∧ W1.cell? ⟨w.heap.size, 8, none⟩ = some (.bool false) ∧ W1.cell? ⟨w.heap.size + 1, 0, none⟩ = some (.int .u64 0) ∧ W1.cell? ⟨w.heap.size + 1, 1, none⟩ = some (.int .u64 0))) := box (fun W W1 h b => ⟨btr h.1 b, heap_of b _ _ _ h.2.1, heap_of b _ _ _ h.2.2.1, cell7 (heap_of b _ _ _ h.2.1) 0 _ rfl, cell7 (heap_of b _ _ _ h.2.1) 1 _ rfl, cell7 (heap_of b _ _ _ h.2.1) 2 _ rfl, cell7 (heap_of b _ _ _ h.2.1) 3 _ rfl, cell7 (heap_of b _ _ _ h.2.1) 4 _ rfl, cell7 (heap_of b _ _ _ h.2.1) 5 _ rfl, cell7 (heap_of b _ _ _ h.2.1) 6 _ rfl, cell7 (heap_of b _ _ _ h.2.1) 7 _ rfl, cell7 (heap_of b _ _ _ h.2.1) 8 _ rfl, cell7 (heap_of b _ _ _ h.2.2.1) 0 _ rfl, cell7 (heap_of b _ _ _ h.2.2.1) 1 _ rfl⟩)
  have s0 : Below w.heap.size w (w1).drew ∧ (w1).drew.heap[w.heap.size]? = some (.cells (rg neg K x false) 49) ∧ (w1).drew.heap[w.heap.size + 1]? = some (.cells #[.int .u64 0, .int .u64 0] 26) ∧ (w1).drew.cell? ⟨w.heap.size, 0, none⟩ = some (.bool neg) ∧ (w1).drew.cell? ⟨w.heap.size, 1, none⟩ = some (.int .u64 (wd K 0)) ∧ (w1).drew.cell? ⟨w.heap.size, 2, none⟩ = some (.int .u64 (wd K 1)) ∧ (w1).drew.cell? ⟨w.heap.size, 3, none⟩ = some (.int .u64 (wd K 2)) ∧ (w1).drew.cell? ⟨w.heap.size, 4, none⟩ = some (.int .u64 (wd K 3)) ∧ (w1).drew.cell? ⟨w.heap.size, 5, none⟩ = some (.int .u64 (wd K 4)) ∧ (w1).drew.cell? ⟨w.heap.size, 6, none⟩ = some (.int .u64 (wd K 5)) ∧ (w1).drew.cell? ⟨w.heap.size, 7, none⟩ = some (.int .i64 x) ∧ (w1).drew.cell? ⟨w.heap.size, 8, none⟩ = some (.bool false) ∧ (w1).drew.cell? ⟨w.heap.size + 1, 0, none⟩ = some (.int .u64 0) ∧ (w1).drew.cell? ⟨w.heap.size + 1, 1, none⟩ = some (.int .u64 0) := ⟨B1.drew, Aa, Ab, cell7 (Aa) 0 _ rfl, cell7 (Aa) 1 _ rfl, cell7 (Aa) 2 _ rfl, cell7 (Aa) 3 _ rfl, cell7 (Aa) 4 _ rfl, cell7 (Aa) 5 _ rfl, cell7 (Aa) 6 _ rfl, cell7 (Aa) 7 _ rfl, cell7 (Aa) 8 _ rfl, cell7 (Ab) 0 _ rfl, cell7 (Ab) 1 _ rfl⟩
  go_wp2_with fail
  go_region_held3 (fun W => Below w.heap.size w W ∧ W.heap[w.heap.size]? = some (.cells (rg neg K x false) 49) ∧ W.heap[w.heap.size + 1]? = some (.cells #[.int .u64 0, .int .u64 0] 26) ∧ W.cell? ⟨w.heap.size, 0, none⟩ = some (.bool neg) ∧ W.cell? ⟨w.heap.size, 1, none⟩ = some (.int .u64 (wd K 0)) ∧ W.cell? ⟨w.heap.size, 2, none⟩ = some (.int .u64 (wd K 1)) ∧ W.cell? ⟨w.heap.size, 3, none⟩ = some (.int .u64 (wd K 2)) ∧ W.cell? ⟨w.heap.size, 4, none⟩ = some (.int .u64 (wd K 3)) ∧ W.cell? ⟨w.heap.size, 5, none⟩ = some (.int .u64 (wd K 4)) ∧ W.cell? ⟨w.heap.size, 6, none⟩ = some (.int .u64 (wd K 5)) ∧ W.cell? ⟨w.heap.size, 7, none⟩ = some (.int .i64 x) ∧ W.cell? ⟨w.heap.size, 8, none⟩ = some (.bool false) ∧ W.cell? ⟨w.heap.size + 1, 0, none⟩ = some (.int .u64 0) ∧ W.cell? ⟨w.heap.size + 1, 1, none⟩ = some (.int .u64 0)) (first | exact s1 | exact s0)
    (first | (go_at_call 52; (first | refine (KI.out _ (fatB FF.out (And.left s1))).mono ?_ | refine (KI.out _ (fatB FF.out (And.left s0))).mono ?_); rintro r wq ⟨rfl, bq⟩; have s1 := (by first | exact sS.out _ _ s1 bq | exact sS.out _ _ s0 bq); clear bq) | (go_at_call 50; (first | refine (KS.out _ (fatB FF.out (And.left s1))).mono ?_ | refine (KS.out _ (fatB FF.out (And.left s0))).mono ?_); rintro r wq ⟨rfl, bq⟩; have s1 := (by first | exact sS.out _ _ s1 bq | exact sS.out _ _ s0 bq); clear bq) | fail)
  have B2 := (And.left s1)
  have Ah := s1.2.1
  have Ai := s1.2.2.1
  clear s0 s1 sS B1 Aa At Au Av Aw Ax Ay Az AA AB Ab AC AD
  obtain ⟨AE, AF, AG, AH, AI, AJ, AK, AL, AM⟩ := rg_cells Ah
  obtain ⟨AN, AO⟩ := cells2s Ai
  have sT : Box (∀ (W : World) (xA : Value), (Below w.heap.size w W ∧ W.heap[w.heap.size + 1]? = some (.cells #[.int .u64 0, .int .u64 0] 26)) → (Below w.heap.size w (W.setCell ⟨w.heap.size, 2, none⟩ xA) ∧ (W.setCell ⟨w.heap.size, 2, none⟩ xA).heap[w.heap.size + 1]? = some (.cells #[.int .u64 0, .int .u64 0] 26))) := box (fun W xA h => ⟨Below.setCell h.1 (show w.heap.size ≤ w.heap.size by first | exact Nat.le_refl _ | omega | (skip; omega)) xA, (setCell_other (by first | omega | (skip; omega))).trans h.2⟩)
  have s0 : Below w.heap.size w wq ∧ wq.heap[w.heap.size + 1]? = some (.cells #[.int .u64 0, .int .u64 0] 26) := ⟨B2, Ai⟩
  have rz : wq.heap[w.heap.size]? = some (.cells (rg neg K x false) 49) := Ah
  have hqz := fz (k := 2) rz
  obtain ⟨hz0, hz1, hz2, hz3, hz4, hz5, hz6, hz7, hz8⟩ := rg_cells rz
  go_wp2_with fail
  go_region
  have s2 : Below w.heap.size w (wq.setCell ⟨w.heap.size, 2, none⟩ (.int .u64 ((wd K' 1 : Nat) : Int))) ∧ (wq.setCell ⟨w.heap.size, 2, none⟩ (.int .u64 ((wd K' 1 : Nat) : Int))).heap[w.heap.size + 1]? = some (.cells #[.int .u64 0, .int .u64 0] 26) := sT.out _ _ s0
  have Ac : ((wq.setCell ⟨w.heap.size, 2, none⟩ (.int .u64 ((wd K' 1 : Nat) : Int))).drew).heap[w.heap.size]? = some (.cells (rg neg K' x false) 49) := (by rw [setCell_row rz]; rw [rg_set2 neg K K' x false hk.out] : (wq.setCell ⟨w.heap.size, 2, none⟩ (.int .u64 ((wd K' 1 : Nat) : Int))).heap[w.heap.size]? = some (.cells (rg neg K' x false) 49))
  have B3 : Below w.heap.size w ((wq.setCell ⟨w.heap.size, 2, none⟩ (.int .u64 ((wd K' 1 : Nat) : Int))).drew) := (And.left s2).drew
  have Ad : ((wq.setCell ⟨w.heap.size, 2, none⟩ (.int .u64 ((wd K' 1 : Nat) : Int))).drew).heap[w.heap.size + 1]? = some (.cells #[.int .u64 0, .int .u64 0] 26) := s2.2
  obtain ⟨w3, Ao⟩ : ∃ V, ((wq.setCell ⟨w.heap.size, 2, none⟩ (.int .u64 ((wd K' 1 : Nat) : Int))).drew) = V := ⟨_, rfl⟩
  rw [Ao] at B3 Ac Ad ⊢
  clear Ao sT s0 s2 rz hqz hz0 hz1 hz2 hz3 hz4 hz5 hz6 hz7 hz8 B2 Ah AE AF AG AH AI AJ AK AL AM Ai AN AO
  obtain ⟨AP, AQ, AR, AS, AT, AU, AV, AW, AX⟩ := rg_cells Ac
  obtain ⟨AY, AZ⟩ := cells2s Ad
  go_wp2_with fail
  refine (KZ.out _ (fatB FF.out B3)).mono ?_
  rintro r w4 ⟨rfl, b4⟩
  have B4 : Below w.heap.size w w4 := btr B3 b4
  have Ae := heap_of b4 _ _ _ Ac
  have Af := heap_of b4 _ _ _ Ad
  clear b4 B3 Ac AP AQ AR AS AT AU AV AW AX Ad AY AZ
  obtain ⟨A0, A2, A3, A4, A5, A6, A7, A8, A9⟩ := rg_cells Ae
  obtain ⟨Ba, Bb⟩ := cells2s Af
  have S5 := box B4.size
  have Bc := ltR Ae
  have Bd := ltR Af
  have Aj := heap_alloc_last w4 (Obj.cells #[.int .u64 zu, .int .u64 zv] 26)
  have B5 := btr B4 (bal w4 (Obj.cells #[.int .u64 zu, .int .u64 zv] 26))
  have Ak := heap_of (bal w4 (Obj.cells #[.int .u64 zu, .int .u64 zv] 26)) _ _ _ Ae
  have Al := heap_of (bal w4 (Obj.cells #[.int .u64 zu, .int .u64 zv] 26)) _ _ _ Af
  clear B4 Ae A0 A2 A3 A4 A5 A6 A7 A8 A9 Af Ba Bb
  obtain ⟨Be, Bf, Bg, Bh, Bi, Bj, Bk, Bl, Bm⟩ := rg_cells Ak
  obtain ⟨Bn, Bo⟩ := cells2s Al
  obtain ⟨Bp, Bq⟩ := cells2s Aj
  have sS : Box (∀ W W1 : World, (Below w.heap.size w W ∧ W.heap[w.heap.size]? = some (.cells (rg neg K' x false) 49) ∧ W.heap[w.heap.size + 1]? = some (.cells #[.int .u64 0, .int .u64 0] 26) ∧ W.heap[w4.heap.size]? = some (.cells #[.int .u64 zu, .int .u64 zv] 26)) → Below W.heap.size W W1 → (Below w.heap.size w W1 ∧ W1.heap[w.heap.size]? = some (.cells (rg neg K' x false) 49) ∧ W1.heap[w.heap.size + 1]? = some (.cells #[.int .u64 0, .int .u64 0] 26) ∧ W1.heap[w4.heap.size]? = some (.cells #[.int .u64 zu, .int .u64 zv] 26))) := box (fun W W1 h b => ⟨btr h.1 b, heap_of b _ _ _ h.2.1, heap_of b _ _ _ h.2.2.1, heap_of b _ _ _ h.2.2.2⟩)
  have sL : Box (∀ W : World, (Below w.heap.size w W ∧ W.heap[w.heap.size]? = some (.cells (rg neg K' x false) 49) ∧ W.heap[w.heap.size + 1]? = some (.cells #[.int .u64 0, .int .u64 0] 26) ∧ W.heap[w4.heap.size]? = some (.cells #[.int .u64 zu, .int .u64 zv] 26)) → (w.heap.size < W.heap.size ∧ w.heap.size + 1 < W.heap.size ∧ w4.heap.size < W.heap.size)) := box (fun W h => ⟨(Array.getElem?_eq_some_iff.1 h.2.1).1, (Array.getElem?_eq_some_iff.1 h.2.2.1).1, (Array.getElem?_eq_some_iff.1 h.2.2.2).1⟩)
  have sT : Box (∀ (W : World) (gN : Nat) (xA xB : Value), (Below w.heap.size w W ∧ W.heap[w.heap.size]? = some (.cells (rg neg K' x false) 49) ∧ W.heap[w.heap.size + 1]? = some (.cells #[.int .u64 0, .int .u64 0] 26) ∧ W.heap[w4.heap.size]? = some (.cells #[.int .u64 zu, .int .u64 zv] 26)) → (w.heap.size < gN ∧ w.heap.size + 1 < gN ∧ w4.heap.size < gN) → (Below w.heap.size w ((W.setCell ⟨gN, 0, none⟩ xA).setCell ⟨gN, 1, none⟩ xB) ∧ ((W.setCell ⟨gN, 0, none⟩ xA).setCell ⟨gN, 1, none⟩ xB).heap[w.heap.size]? = some (.cells (rg neg K' x false) 49) ∧ ((W.setCell ⟨gN, 0, none⟩ xA).setCell ⟨gN, 1, none⟩ xB).heap[w.heap.size + 1]? = some (.cells #[.int .u64 0, .int .u64 0] 26) ∧ ((W.setCell ⟨gN, 0, none⟩ xA).setCell ⟨gN, 1, none⟩ xB).heap[w4.heap.size]? = some (.cells #[.int .u64 zu, .int .u64 zv] 26))) := box (fun W gN xA xB h l => ⟨set2_below h.1 (show w.heap.size ≤ gN by have := l.1; omega) _ _, (setCell_other (by have := l.1; omega)).trans ((setCell_other (by have := l.1; omega)).trans h.2.1), (setCell_other (by have := l.2.1; omega)).trans ((setCell_other (by have := l.2.1; omega)).trans h.2.2.1), (setCell_other (by have := l.2.2; omega)).trans ((setCell_other (by have := l.2.2; omega)).trans h.2.2.2)⟩)
  have sC : Box (∀ W : World, (Below w.heap.size w W ∧ W.heap[w.heap.size]? = some (.cells (rg neg K' x false) 49) ∧ W.heap[w.heap.size + 1]? = some (.cells #[.int .u64 0, .int .u64 0] 26) ∧ W.heap[w4.heap.size]? = some (.cells #[.int .u64 zu, .int .u64 zv] 26)) → (Below w.heap.size w W ∧ W.heap[w.heap.size]? = some (.cells (rg neg K' x false) 49) ∧ W.heap[w.heap.size + 1]? = some (.cells #[.int .u64 0, .int .u64 0] 26) ∧ W.heap[w4.heap.size]? = some (.cells #[.int .u64 zu, .int .u64 zv] 26) ∧ W.cell? ⟨w.heap.size, 0, none⟩ = some (.bool neg) ∧ W.cell? ⟨w.heap.size, 1, none⟩ = some (.int .u64 ((wd K' 0 : Nat) : Int)) ∧ W.cell? ⟨w.heap.size, 2, none⟩ = some (.int .u64 ((wd K' 1 : Nat) : Int)) ∧ W.cell? ⟨w.heap.size, 3, none⟩ = some (.int .u64 ((wd K' 2 : Nat) : Int)) ∧ W.cell? ⟨w.heap.size, 4, none⟩ = some (.int .u64 ((wd K' 3 : Nat) : Int)) ∧ W.cell? ⟨w.heap.size, 5, none⟩ = some (.int .u64 ((wd K' 4 : Nat) : Int)) ∧ W.cell? ⟨w.heap.size, 6, none⟩ = some (.int .u64 ((wd K' 5 : Nat) : Int)) ∧ W.cell? ⟨w.heap.size, 7, none⟩ = some (.int .i64 x) ∧ W.cell? ⟨w.heap.size, 8, none⟩ = some (.bool false) ∧ W.cell? ⟨w.heap.size + 1, 0, none⟩ = some (.int .u64 0) ∧ W.cell? ⟨w.heap.size + 1, 1, none⟩ = some (.int .u64 0) ∧ W.cell? ⟨w4.heap.size, 0, none⟩ = some (.int .u64 zu) ∧ W.cell? ⟨w4.heap.size, 1, none⟩ = some (.int .u64 zv))) := box (fun W h => ⟨h.1, h.2.1, h.2.2.1, h.2.2.2, cell7 (h.2.1) 0 _ rfl, cell7 (h.2.1) 1 _ rfl, cell7 (h.2.1) 2 _ rfl, cell7 (h.2.1) 3 _ rfl, cell7 (h.2.1) 4 _ rfl, cell7 (h.2.1) 5 _ rfl, cell7 (h.2.1) 6 _ rfl, cell7 (h.2.1) 7 _ rfl, cell7 (h.2.1) 8 _ rfl, cell7 (h.2.2.1) 0 _ rfl, cell7 (h.2.2.1) 1 _ rfl, cell7 (h.2.2.2) 0 _ rfl, cell7 (h.2.2.2) 1 _ rfl⟩)
  have s0 : Below w.heap.size w ((w4.alloc (Obj.cells #[.int .u64 zu, .int .u64 zv] 26))).drew ∧ ((w4.alloc (Obj.cells #[.int .u64 zu, .int .u64 zv] 26))).drew.heap[w.heap.size]? = some (.cells (rg neg K' x false) 49) ∧ ((w4.alloc (Obj.cells #[.int .u64 zu, .int .u64 zv] 26))).drew.heap[w.heap.size + 1]? = some (.cells #[.int .u64 0, .int .u64 0] 26) ∧ ((w4.alloc (Obj.cells #[.int .u64 zu, .int .u64 zv] 26))).drew.heap[w4.heap.size]? = some (.cells #[.int .u64 zu, .int .u64 zv] 26) := ⟨B5.drew, Ak, Al, Aj⟩
  clear B5 Ak Be Bf Bg Bh Bi Bj Bk Bl Bm Al Bn Bo Aj Bp Bq
  go_wp2_with fail
  apply cut7
  · intro key0
    have key := box key0
    clear key0
    go_region_held3 (fun W => Below w.heap.size w W ∧ W.heap[w.heap.size]? = some (.cells (rg neg K' x false) 49) ∧ W.heap[w.heap.size + 1]? = some (.cells #[.int .u64 0, .int .u64 0] 26) ∧ W.heap[w4.heap.size]? = some (.cells #[.int .u64 zu, .int .u64 zv] 26) ∧ W.cell? ⟨w.heap.size, 0, none⟩ = some (.bool neg) ∧ W.cell? ⟨w.heap.size, 1, none⟩ = some (.int .u64 ((wd K' 0 : Nat) : Int)) ∧ W.cell? ⟨w.heap.size, 2, none⟩ = some (.int .u64 ((wd K' 1 : Nat) : Int)) ∧ W.cell? ⟨w.heap.size, 3, none⟩ = some (.int .u64 ((wd K' 2 : Nat) : Int)) ∧ W.cell? ⟨w.heap.size, 4, none⟩ = some (.int .u64 ((wd K' 3 : Nat) : Int)) ∧ W.cell? ⟨w.heap.size, 5, none⟩ = some (.int .u64 ((wd K' 4 : Nat) : Int)) ∧ W.cell? ⟨w.heap.size, 6, none⟩ = some (.int .u64 ((wd K' 5 : Nat) : Int)) ∧ W.cell? ⟨w.heap.size, 7, none⟩ = some (.int .i64 x) ∧ W.cell? ⟨w.heap.size, 8, none⟩ = some (.bool false) ∧ W.cell? ⟨w.heap.size + 1, 0, none⟩ = some (.int .u64 0) ∧ W.cell? ⟨w.heap.size + 1, 1, none⟩ = some (.int .u64 0) ∧ W.cell? ⟨w4.heap.size, 0, none⟩ = some (.int .u64 zu) ∧ W.cell? ⟨w4.heap.size, 1, none⟩ = some (.int .u64 zv)) (first | exact sC.out _ s1 | exact sC.out _ s0 | exact sC.out _ (sS.out _ _ s1 (bal _ _)) | exact sC.out _ (sS.out _ _ s0 (bal _ _)) | exact sC.out _ (sT.out _ _ _ _ s1 hl))
      (first | (go_at_call 57; (first | refine (KB.out _).mono ?_ | refine (KB.out _).mono ?_); rintro r wq ⟨rfl, bq⟩; (first | (have hg := heap_of bq _ _ _ (heap_alloc_last _ _); have hl := (by first | exact sL.out _ s1 | exact sL.out _ s0)) | have hg := heap_of bq _ _ _ hg | skip); (try simp only [size_dr, size_al] at hg hl); (first | (have Ap := fz (k := 0) hg; have Aq := fz (k := 1) hg; have Ar := cell7 hg 0 _ rfl; have As := cell7 hg 1 _ rfl) | skip); have s2 := (by first | exact sS.out _ _ s1 bq | exact sS.out _ _ s0 bq | exact sS.out _ _ (sS.out _ _ s1 (bal _ _)) bq | exact sS.out _ _ (sS.out _ _ s0 (bal _ _)) bq); (try clear s1); have s1 := s2; clear s2 bq) | (go_at_call 61; (first | refine (KO.out _).mono ?_ | refine (KO.out _).mono ?_); rintro r wq ⟨rfl, bq⟩; (first | (have hg := heap_of bq _ _ _ (heap_alloc_last _ _); have hl := (by first | exact sL.out _ s1 | exact sL.out _ s0)) | have hg := heap_of bq _ _ _ hg | skip); (try simp only [size_dr, size_al] at hg hl); (first | (have Ap := fz (k := 0) hg; have Aq := fz (k := 1) hg; have Ar := cell7 hg 0 _ rfl; have As := cell7 hg 1 _ rfl) | skip); have s2 := (by first | exact sS.out _ _ s1 bq | exact sS.out _ _ s0 bq | exact sS.out _ _ (sS.out _ _ s1 (bal _ _)) bq | exact sS.out _ _ (sS.out _ _ s0 (bal _ _)) bq); (try clear s1); have s1 := s2; clear s2 bq) | (go_at_call 60; (first | refine (KT.out _).mono ?_ | refine (KT.out _).mono ?_); rintro r wq ⟨rfl, bq⟩; (first | (have hg := heap_of bq _ _ _ (heap_alloc_last _ _); have hl := (by first | exact sL.out _ s1 | exact sL.out _ s0)) | have hg := heap_of bq _ _ _ hg | skip); (try simp only [size_dr, size_al] at hg hl); (first | (have Ap := fz (k := 0) hg; have Aq := fz (k := 1) hg; have Ar := cell7 hg 0 _ rfl; have As := cell7 hg 1 _ rfl) | skip); have s2 := (by first | exact sS.out _ _ s1 bq | exact sS.out _ _ s0 bq | exact sS.out _ _ (sS.out _ _ s1 (bal _ _)) bq | exact sS.out _ _ (sS.out _ _ s0 (bal _ _)) bq); (try clear s1); have s1 := s2; clear s2 bq) | fail)
    all_goals
      refine gen_round_encoding_8 (R := fun W gN => (Below w.heap.size w W ∧ W.heap[w.heap.size]? = some (.cells (rg neg K' x false) 49) ∧ W.heap[w.heap.size + 1]? = some (.cells #[.int .u64 0, .int .u64 0] 26) ∧ W.heap[w4.heap.size]? = some (.cells #[.int .u64 zu, .int .u64 zv] 26)) ∧ W.heap[gN]? = some (.cells #[.int .u64 u, .int .u64 v] 26) ∧ (w.heap.size < gN ∧ w.heap.size + 1 < gN ∧ w4.heap.size < gN)) key.out ?_
      first
        | exact ⟨(sT.out _ _ _ _ s1 hl), set2_row hg _ _, hl⟩
        | exact ⟨sS.out _ _ s1 (bal _ _), heap_alloc_last _ _, sL.out _ s1⟩
        | exact ⟨sS.out _ _ s0 (bal _ _), heap_alloc_last _ _, sL.out _ s0⟩
  rintro w6 g6 ⟨s1, Br, l6⟩
  have B6 := And.left s1
  have Bs := s1.2.1
  have Ag := s1.2.2.1
  have Bt := s1.2.2.2
  have H6 := box l6
  clear s0 s1 sS sC sL sT l6
  obtain ⟨Bu, Bv, Bw, Bx, By, Bz, BA, BB, BC⟩ := rg_cells Bs
  obtain ⟨BD, BE⟩ := cells2s Ag
  obtain ⟨BF, BG⟩ := cells2s Bt
  obtain ⟨BH, BI⟩ := cells2s Br
  have q0 := fz (k := 0) Ag
  have q1 := fz (k := 1) Ag
  obtain ⟨E0, E1⟩ := set2_cells Ag (.int .u64 u) (.int .u64 v)
  go_wp2
  exact bodyPost_ret (v := .agg #[.int .u64 u, .int .u64 v]) (by simp [results, Tryd.results55, go_sem, E0, E1]) rfl ⟨rfl, set2_below B6 (by first | exact Nat.le_refl _ | omega | (have := S5.out; have := Bc.out; have := Bd.out; have := H6.out; omega)) _ _⟩
end Go.Proofs.YtoaaajeblhaeoaaDoor
