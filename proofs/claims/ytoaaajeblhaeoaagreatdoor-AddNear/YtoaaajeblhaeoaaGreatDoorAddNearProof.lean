/-
  AddNear returns true for every format and every mode, whether they are one or not, and all bits, whether they are encodings or not: of two numbers above 0 of which each is at most twice the other one the difference has no flags.
-/
import Derived.Test.YtoaaajeblhaeoaaGreatDoorRows
import Derived.Test.YtoaaajeblhaeoaaGreatDoorTie
import Derived.Test.YtoaaajeblhaeoaaGreatDoorCards
import Derived.WalkKit
import Derived.ProofKit
import Derived.OpenShut
import Derived.LaidMore
import Derived.Stop.Joined
import Derived.Lib.LaidTab
import Derived.SevenTiedAt
import Derived.Test.YtoaaajeblhaeoaaGreatDoorAn15
namespace Go.Proofs.YtoaaajeblhaeoaaGreatDoor.addNear
open WMath
open Go.ChangeShapes Go.WideShapes Go.ChangeAt Go.RowKit
set_option linter.unusedVariables false

theorem own : ownKnob Tryz.prog.godebug = none := by kernel_rfl

set_option maxRecDepth 100000 in
set_option maxHeartbeats 4000000 in
theorem walk (a0 : Int) (a1 : Int) (a2 : Nat × Nat) (a3 : Nat × Nat) (h0 : (Lit.int .u8 a0).wf = true) (h1 : (Lit.int .u8 a1).wf = true) (h2 : a2.1 < 18446744073709551616 ∧ a2.2 < 18446744073709551616) (h3 : a3.1 < 18446744073709551616 ∧ a3.2 < 18446744073709551616) (w : World) (hT : FAt w) :
    Calls Tryz.prog 7 #[.int .u8 a0, .int .u8 a1, bitsV a2, bitsV a3] w fun e w' => e = .returned (.bool true) ∧ Below w.heap.size w w' := by
  have FF := box hT
  clear hT
  have b0 := bounds_u8 h0
  have b1 := bounds_u8 h1
  obtain ⟨x1, y1⟩ := a2
  obtain ⟨x2, y2⟩ := a3
  obtain ⟨hx1, hy1⟩ := h2
  obtain ⟨hx2, hy2⟩ := h3
  simp only at hx1 hy1 hx2 hy2
  show Calls Tryz.prog 7 #[.int .u8 a0, .int .u8 a1, .agg #[.int .u64 (x1 : Nat), .int .u64 (y1 : Nat)], .agg #[.int .u64 (x2 : Nat), .int .u64 (y2 : Nat)]] w fun r w' => r = .returned (.bool true) ∧ Below w.heap.size w w'
  have KA := box r11alive
  obtain ⟨a, ha⟩ : ∃ a, y1 + 18446744073709551616 * x1 = a := ⟨_, rfl⟩
  obtain ⟨b, hb⟩ : ∃ b, y2 + 18446744073709551616 * x2 = b := ⟨_, rfl⟩
  have I1 := box (fun w hT => kl_is a0 b0.1 b0.2 x1 y1 a hx1 hy1 ha _ rfl w hT)
  have I2 := box (fun w hT => kl_is a0 b0.1 b0.2 x2 y2 b hx2 hy2 hb _ rfl w hT)
  cases k1 : kl a0 a
  · rw [k1] at I1
    cases k2 : kl a0 b
    · rw [k2] at I2
      obtain ⟨oa, fa⟩ : okB a0 a = true ∧ ¬ (kC a0 a = 0 ∨ 7 ≤ kC a0 a) := by
        unfold kl at k1
        rw [Bool.or_eq_false_iff] at k1
        exact ⟨by simpa using k1.1, of_decide_eq_false k1.2⟩
      obtain ⟨ob, fb⟩ : okB a0 b = true ∧ ¬ (kC a0 b = 0 ∨ 7 ≤ kC a0 b) := by
        unfold kl at k2
        rw [Bool.or_eq_false_iff] at k2
        exact ⟨by simpa using k2.1, of_decide_eq_false k2.2⟩
      have hf := (okB_yes b0.1 oa).1
      have ta := (okB_yes b0.1 oa).2
      have tb := (okB_yes b0.1 ob).2
      have S1 := box (fun w hT => kSign_yes a0 hf x1 y1 a _ hx1 hy1 ha oa rfl w hT)
      have S2 := box (fun w hT => kSign_yes a0 hf x2 y2 b _ hx2 hy2 hb ob rfl w hT)
      have Z1 := box (fun w => rZero_is a0 hf x1 y1 a _ _ hx1 hy1 ha ta rfl rfl w)
      have Z2 := box (fun w => rZero_is a0 hf x2 y2 b _ _ hx2 hy2 hb tb rfl rfl w)
      have KM := box (fun w => bel_same (s_checkMode a1 w))
      cases n1 : kN a0 a
      · rw [n1] at S1
        cases n2 : kN a0 b
        · rw [n2] at S2
          cases z1 : (decide (kC a0 a = 3) || decide (kC a0 a = 4))
          · rw [z1] at Z1
            cases z2 : (decide (kC a0 b = 3) || decide (kC a0 b = 4))
            · rw [z2] at Z2
              by_cases cm : a1 ≤ 4
              · rw [if_pos cm] at KM
                have ca : kC a0 a = 5 ∨ kC a0 a = 6 := by
                  have := kC_sign (f := a0) a (by omega)
                  rw [n1] at this
                  have := of_decide_eq_false this
                  rw [Bool.or_eq_false_iff] at z1
                  have := of_decide_eq_false z1.2
                  omega
                have cb : kC a0 b = 5 ∨ kC a0 b = 6 := by
                  have := kC_sign (f := a0) b (by omega)
                  rw [n2] at this
                  have := of_decide_eq_false this
                  rw [Bool.or_eq_false_iff] at z2
                  have := of_decide_eq_false z2.2
                  omega
                obtain ⟨t1, t2, tf, m1, m2, mf, s1, s2, sf, u1, u2, uf, p, q, K1, K2, K3, K4, K5, K6, K7⟩ := near_main a0 a1 hf ⟨b1.1, cm⟩ x1 y1 a x2 y2 b hx1 hy1 ha hx2 hy2 hb oa ob ca cb n1 n2
                clear fa fb ta tb hf ca cb cm k1 k2 z1 z2 n1 n2 oa ob
                cases p
                · cases q
                  · obtain ⟨d1, d2, K8⟩ := K7 rfl rfl
                    clear K7
                    clear h0 h1 b0 b1 hx1 hy1 hx2 hy2 ha hb
                    obtain ⟨Ra_0, Rb_0, B0⟩ := opn2 w (Obj.cells #[.int .u64 (x1 : Nat), .int .u64 (y1 : Nat)] 25) (Obj.cells #[.int .u64 (x2 : Nat), .int .u64 (y2 : Nat)] 25)
                    go_enter Tryz.func7, Tryz.ntmps7
                    obtain ⟨ca_0_0, ca_0_1⟩ := cells2s Ra_0
                    obtain ⟨cb_0_0, cb_0_1⟩ := cells2s Rb_0
                    go_wp2_with fail
                    refine (I1.out _ (fatB FF.out B0)).mono ?_
                    rintro r w1 ⟨rfl, b1⟩
                    have B1 : Below w.heap.size w w1 := btr B0 b1
                    have Ra_1 := heap_of b1 _ _ _ Ra_0
                    have Rb_1 := heap_of b1 _ _ _ Rb_0
                    clear b1 B0 Ra_0 ca_0_0 ca_0_1 Rb_0 cb_0_0 cb_0_1
                    obtain ⟨ca_1_0, ca_1_1⟩ := cells2s Ra_1
                    obtain ⟨cb_1_0, cb_1_1⟩ := cells2s Rb_1
                    go_wp2_with fail
                    refine (I2.out _ (fatB FF.out B1)).mono ?_
                    rintro r w2 ⟨rfl, b2⟩
                    have B2 : Below w.heap.size w w2 := btr B1 b2
                    have Ra_2 := heap_of b2 _ _ _ Ra_1
                    have Rb_2 := heap_of b2 _ _ _ Rb_1
                    clear b2 B1 Ra_1 ca_1_0 ca_1_1 Rb_1 cb_1_0 cb_1_1
                    obtain ⟨ca_2_0, ca_2_1⟩ := cells2s Ra_2
                    obtain ⟨cb_2_0, cb_2_1⟩ := cells2s Rb_2
                    go_wp2_with fail
                    refine (S1.out _ (fatB FF.out B2)).mono ?_
                    rintro r w3 ⟨rfl, b3⟩
                    have B3 : Below w.heap.size w w3 := btr B2 b3
                    have Ra_3 := heap_of b3 _ _ _ Ra_2
                    have Rb_3 := heap_of b3 _ _ _ Rb_2
                    clear b3 B2 Ra_2 ca_2_0 ca_2_1 Rb_2 cb_2_0 cb_2_1
                    obtain ⟨ca_3_0, ca_3_1⟩ := cells2s Ra_3
                    obtain ⟨cb_3_0, cb_3_1⟩ := cells2s Rb_3
                    go_wp2_with fail
                    refine (S2.out _ (fatB FF.out B3)).mono ?_
                    rintro r w4 ⟨rfl, b4⟩
                    have B4 : Below w.heap.size w w4 := btr B3 b4
                    have Ra_4 := heap_of b4 _ _ _ Ra_3
                    have Rb_4 := heap_of b4 _ _ _ Rb_3
                    clear b4 B3 Ra_3 ca_3_0 ca_3_1 Rb_3 cb_3_0 cb_3_1
                    obtain ⟨ca_4_0, ca_4_1⟩ := cells2s Ra_4
                    obtain ⟨cb_4_0, cb_4_1⟩ := cells2s Rb_4
                    go_wp2_with fail
                    refine (Z1.out _).mono ?_
                    rintro r w5 ⟨rfl, b5⟩
                    have B5 : Below w.heap.size w w5 := btr B4 b5
                    have Ra_5 := heap_of b5 _ _ _ Ra_4
                    have Rb_5 := heap_of b5 _ _ _ Rb_4
                    clear b5 B4 Ra_4 ca_4_0 ca_4_1 Rb_4 cb_4_0 cb_4_1
                    obtain ⟨ca_5_0, ca_5_1⟩ := cells2s Ra_5
                    obtain ⟨cb_5_0, cb_5_1⟩ := cells2s Rb_5
                    go_wp2_with fail
                    refine (Z2.out _).mono ?_
                    rintro r w6 ⟨rfl, b6⟩
                    have B6 : Below w.heap.size w w6 := btr B5 b6
                    have Ra_6 := heap_of b6 _ _ _ Ra_5
                    have Rb_6 := heap_of b6 _ _ _ Rb_5
                    clear b6 B5 Ra_5 ca_5_0 ca_5_1 Rb_5 cb_5_0 cb_5_1
                    obtain ⟨ca_6_0, ca_6_1⟩ := cells2s Ra_6
                    obtain ⟨cb_6_0, cb_6_1⟩ := cells2s Rb_6
                    go_wp2_with fail
                    refine (KM.out _).mono ?_
                    rintro r w7 ⟨rfl, b7⟩
                    have B7 : Below w.heap.size w w7 := btr B6 b7
                    have Ra_7 := heap_of b7 _ _ _ Ra_6
                    have Rb_7 := heap_of b7 _ _ _ Rb_6
                    clear b7 B6 Ra_6 ca_6_0 ca_6_1 Rb_6 cb_6_0 cb_6_1
                    obtain ⟨ca_7_0, ca_7_1⟩ := cells2s Ra_7
                    obtain ⟨cb_7_0, cb_7_1⟩ := cells2s Rb_7
                    go_wp2_with fail
                    refine (K1.out _ (fatB FF.out B7)).mono ?_
                    rintro r w8 ⟨rfl, b8⟩
                    have B8 : Below w.heap.size w w8 := btr B7 b8
                    have Ra_8 := heap_of b8 _ _ _ Ra_7
                    have Rb_8 := heap_of b8 _ _ _ Rb_7
                    clear b8 B7 Ra_7 ca_7_0 ca_7_1 Rb_7 cb_7_0 cb_7_1
                    obtain ⟨ca_8_0, ca_8_1⟩ := cells2s Ra_8
                    obtain ⟨cb_8_0, cb_8_1⟩ := cells2s Rb_8
                    have S9 := box B8.size
                    have La_9 : Box (w.heap.size < w8.heap.size) := box (Array.getElem?_eq_some_iff.1 Ra_8).1
                    have Lb_9 : Box (w.heap.size + 1 < w8.heap.size) := box (Array.getElem?_eq_some_iff.1 Rb_8).1
                    have Rc_9 := heap_alloc_last w8 (Obj.cells #[.int .u64 (t1 : Nat), .int .u64 (t2 : Nat)] 25)
                    have B9 := btr B8 (bal w8 (Obj.cells #[.int .u64 (t1 : Nat), .int .u64 (t2 : Nat)] 25))
                    have Ra_9 := heap_of (bal w8 (Obj.cells #[.int .u64 (t1 : Nat), .int .u64 (t2 : Nat)] 25)) _ _ _ Ra_8
                    have Rb_9 := heap_of (bal w8 (Obj.cells #[.int .u64 (t1 : Nat), .int .u64 (t2 : Nat)] 25)) _ _ _ Rb_8
                    clear B8 Ra_8 ca_8_0 ca_8_1 Rb_8 cb_8_0 cb_8_1
                    obtain ⟨ca_9_0, ca_9_1⟩ := cells2s Ra_9
                    obtain ⟨cb_9_0, cb_9_1⟩ := cells2s Rb_9
                    obtain ⟨cc_9_0, cc_9_1⟩ := cells2s Rc_9
                    go_wp2_with fail
                    refine (K2.out _ (fatB FF.out B9)).mono ?_
                    rintro r w10 ⟨rfl, b10⟩
                    have B10 : Below w.heap.size w w10 := btr B9 b10
                    have Ra_10 := heap_of b10 _ _ _ Ra_9
                    have Rb_10 := heap_of b10 _ _ _ Rb_9
                    have Rc_10 := heap_of b10 _ _ _ Rc_9
                    clear b10 B9 Ra_9 ca_9_0 ca_9_1 Rb_9 cb_9_0 cb_9_1 Rc_9 cc_9_0 cc_9_1
                    obtain ⟨ca_10_0, ca_10_1⟩ := cells2s Ra_10
                    obtain ⟨cb_10_0, cb_10_1⟩ := cells2s Rb_10
                    obtain ⟨cc_10_0, cc_10_1⟩ := cells2s Rc_10
                    have S11 := box B10.size
                    have La_11 : Box (w.heap.size < w10.heap.size) := box (Array.getElem?_eq_some_iff.1 Ra_10).1
                    have Lb_11 : Box (w.heap.size + 1 < w10.heap.size) := box (Array.getElem?_eq_some_iff.1 Rb_10).1
                    have Lc_11 : Box (w8.heap.size < w10.heap.size) := box (Array.getElem?_eq_some_iff.1 Rc_10).1
                    have Rd_11 := heap_alloc_last w10 (Obj.cells #[.int .u64 (m1 : Nat), .int .u64 (m2 : Nat)] 25)
                    have B11 := btr B10 (bal w10 (Obj.cells #[.int .u64 (m1 : Nat), .int .u64 (m2 : Nat)] 25))
                    have Ra_11 := heap_of (bal w10 (Obj.cells #[.int .u64 (m1 : Nat), .int .u64 (m2 : Nat)] 25)) _ _ _ Ra_10
                    have Rb_11 := heap_of (bal w10 (Obj.cells #[.int .u64 (m1 : Nat), .int .u64 (m2 : Nat)] 25)) _ _ _ Rb_10
                    have Rc_11 := heap_of (bal w10 (Obj.cells #[.int .u64 (m1 : Nat), .int .u64 (m2 : Nat)] 25)) _ _ _ Rc_10
                    clear B10 Ra_10 ca_10_0 ca_10_1 Rb_10 cb_10_0 cb_10_1 Rc_10 cc_10_0 cc_10_1
                    obtain ⟨ca_11_0, ca_11_1⟩ := cells2s Ra_11
                    obtain ⟨cb_11_0, cb_11_1⟩ := cells2s Rb_11
                    obtain ⟨cc_11_0, cc_11_1⟩ := cells2s Rc_11
                    obtain ⟨cd_11_0, cd_11_1⟩ := cells2s Rd_11
                    go_wp2_with fail
                    refine (K3.out _ (fatB FF.out B11)).mono ?_
                    rintro r w12 ⟨rfl, b12⟩
                    have B12 : Below w.heap.size w w12 := btr B11 b12
                    have Ra_12 := heap_of b12 _ _ _ Ra_11
                    have Rb_12 := heap_of b12 _ _ _ Rb_11
                    have Rc_12 := heap_of b12 _ _ _ Rc_11
                    have Rd_12 := heap_of b12 _ _ _ Rd_11
                    clear b12 B11 Ra_11 ca_11_0 ca_11_1 Rb_11 cb_11_0 cb_11_1 Rc_11 cc_11_0 cc_11_1 Rd_11 cd_11_0 cd_11_1
                    obtain ⟨ca_12_0, ca_12_1⟩ := cells2s Ra_12
                    obtain ⟨cb_12_0, cb_12_1⟩ := cells2s Rb_12
                    obtain ⟨cc_12_0, cc_12_1⟩ := cells2s Rc_12
                    obtain ⟨cd_12_0, cd_12_1⟩ := cells2s Rd_12
                    have S13 := box B12.size
                    have La_13 : Box (w.heap.size < w12.heap.size) := box (Array.getElem?_eq_some_iff.1 Ra_12).1
                    have Lb_13 : Box (w.heap.size + 1 < w12.heap.size) := box (Array.getElem?_eq_some_iff.1 Rb_12).1
                    have Lc_13 : Box (w8.heap.size < w12.heap.size) := box (Array.getElem?_eq_some_iff.1 Rc_12).1
                    have Ld_13 : Box (w10.heap.size < w12.heap.size) := box (Array.getElem?_eq_some_iff.1 Rd_12).1
                    have Re_13 := heap_alloc_last w12 (Obj.cells #[.int .u64 (s1 : Nat), .int .u64 (s2 : Nat)] 25)
                    have B13 := btr B12 (bal w12 (Obj.cells #[.int .u64 (s1 : Nat), .int .u64 (s2 : Nat)] 25))
                    have Ra_13 := heap_of (bal w12 (Obj.cells #[.int .u64 (s1 : Nat), .int .u64 (s2 : Nat)] 25)) _ _ _ Ra_12
                    have Rb_13 := heap_of (bal w12 (Obj.cells #[.int .u64 (s1 : Nat), .int .u64 (s2 : Nat)] 25)) _ _ _ Rb_12
                    have Rc_13 := heap_of (bal w12 (Obj.cells #[.int .u64 (s1 : Nat), .int .u64 (s2 : Nat)] 25)) _ _ _ Rc_12
                    have Rd_13 := heap_of (bal w12 (Obj.cells #[.int .u64 (s1 : Nat), .int .u64 (s2 : Nat)] 25)) _ _ _ Rd_12
                    clear B12 Ra_12 ca_12_0 ca_12_1 Rb_12 cb_12_0 cb_12_1 Rc_12 cc_12_0 cc_12_1 Rd_12 cd_12_0 cd_12_1
                    obtain ⟨ca_13_0, ca_13_1⟩ := cells2s Ra_13
                    obtain ⟨cb_13_0, cb_13_1⟩ := cells2s Rb_13
                    obtain ⟨cc_13_0, cc_13_1⟩ := cells2s Rc_13
                    obtain ⟨cd_13_0, cd_13_1⟩ := cells2s Rd_13
                    obtain ⟨ce_13_0, ce_13_1⟩ := cells2s Re_13
                    go_wp2_with fail
                    refine (K4.out _ (fatB FF.out B13)).mono ?_
                    rintro r w14 ⟨rfl, b14⟩
                    have B14 : Below w.heap.size w w14 := btr B13 b14
                    have Ra_14 := heap_of b14 _ _ _ Ra_13
                    have Rb_14 := heap_of b14 _ _ _ Rb_13
                    have Rc_14 := heap_of b14 _ _ _ Rc_13
                    have Rd_14 := heap_of b14 _ _ _ Rd_13
                    have Re_14 := heap_of b14 _ _ _ Re_13
                    clear b14 B13 Ra_13 ca_13_0 ca_13_1 Rb_13 cb_13_0 cb_13_1 Rc_13 cc_13_0 cc_13_1 Rd_13 cd_13_0 cd_13_1 Re_13 ce_13_0 ce_13_1
                    obtain ⟨ca_14_0, ca_14_1⟩ := cells2s Ra_14
                    obtain ⟨cb_14_0, cb_14_1⟩ := cells2s Rb_14
                    obtain ⟨cc_14_0, cc_14_1⟩ := cells2s Rc_14
                    obtain ⟨cd_14_0, cd_14_1⟩ := cells2s Rd_14
                    obtain ⟨ce_14_0, ce_14_1⟩ := cells2s Re_14
                    have S15 := box B14.size
                    have La_15 : Box (w.heap.size < w14.heap.size) := box (Array.getElem?_eq_some_iff.1 Ra_14).1
                    have Lb_15 : Box (w.heap.size + 1 < w14.heap.size) := box (Array.getElem?_eq_some_iff.1 Rb_14).1
                    have Lc_15 : Box (w8.heap.size < w14.heap.size) := box (Array.getElem?_eq_some_iff.1 Rc_14).1
                    have Ld_15 : Box (w10.heap.size < w14.heap.size) := box (Array.getElem?_eq_some_iff.1 Rd_14).1
                    have Le_15 : Box (w12.heap.size < w14.heap.size) := box (Array.getElem?_eq_some_iff.1 Re_14).1
                    have Rg_15 := heap_alloc_last w14 (Obj.cells #[.int .u64 (u1 : Nat), .int .u64 (u2 : Nat)] 25)
                    have B15 := btr B14 (bal w14 (Obj.cells #[.int .u64 (u1 : Nat), .int .u64 (u2 : Nat)] 25))
                    have Ra_15 := heap_of (bal w14 (Obj.cells #[.int .u64 (u1 : Nat), .int .u64 (u2 : Nat)] 25)) _ _ _ Ra_14
                    have Rb_15 := heap_of (bal w14 (Obj.cells #[.int .u64 (u1 : Nat), .int .u64 (u2 : Nat)] 25)) _ _ _ Rb_14
                    have Rc_15 := heap_of (bal w14 (Obj.cells #[.int .u64 (u1 : Nat), .int .u64 (u2 : Nat)] 25)) _ _ _ Rc_14
                    have Rd_15 := heap_of (bal w14 (Obj.cells #[.int .u64 (u1 : Nat), .int .u64 (u2 : Nat)] 25)) _ _ _ Rd_14
                    have Re_15 := heap_of (bal w14 (Obj.cells #[.int .u64 (u1 : Nat), .int .u64 (u2 : Nat)] 25)) _ _ _ Re_14
                    clear B14 Ra_14 ca_14_0 ca_14_1 Rb_14 cb_14_0 cb_14_1 Rc_14 cc_14_0 cc_14_1 Rd_14 cd_14_0 cd_14_1 Re_14 ce_14_0 ce_14_1
                    obtain ⟨ca_15_0, ca_15_1⟩ := cells2s Ra_15
                    obtain ⟨cb_15_0, cb_15_1⟩ := cells2s Rb_15
                    obtain ⟨cc_15_0, cc_15_1⟩ := cells2s Rc_15
                    obtain ⟨cd_15_0, cd_15_1⟩ := cells2s Rd_15
                    obtain ⟨ce_15_0, ce_15_1⟩ := cells2s Re_15
                    obtain ⟨cg_15_0, cg_15_1⟩ := cells2s Rg_15
                    go_wp2_with fail
                    refine (K5.out _ (fatB FF.out B15)).mono ?_
                    rintro r w16 ⟨rfl, b16⟩
                    have B16 : Below w.heap.size w w16 := btr B15 b16
                    have Ra_16 := heap_of b16 _ _ _ Ra_15
                    have Rb_16 := heap_of b16 _ _ _ Rb_15
                    have Rc_16 := heap_of b16 _ _ _ Rc_15
                    have Rd_16 := heap_of b16 _ _ _ Rd_15
                    have Re_16 := heap_of b16 _ _ _ Re_15
                    have Rg_16 := heap_of b16 _ _ _ Rg_15
                    clear b16 B15 Ra_15 ca_15_0 ca_15_1 Rb_15 cb_15_0 cb_15_1 Rc_15 cc_15_0 cc_15_1 Rd_15 cd_15_0 cd_15_1 Re_15 ce_15_0 ce_15_1 Rg_15 cg_15_0 cg_15_1
                    obtain ⟨ca_16_0, ca_16_1⟩ := cells2s Ra_16
                    obtain ⟨cb_16_0, cb_16_1⟩ := cells2s Rb_16
                    obtain ⟨cc_16_0, cc_16_1⟩ := cells2s Rc_16
                    obtain ⟨cd_16_0, cd_16_1⟩ := cells2s Rd_16
                    obtain ⟨ce_16_0, ce_16_1⟩ := cells2s Re_16
                    obtain ⟨cg_16_0, cg_16_1⟩ := cells2s Rg_16
                    go_wp2_with fail
                    refine (K6.out _ (fatB FF.out B16)).mono ?_
                    rintro r w17 ⟨rfl, b17⟩
                    have B17 : Below w.heap.size w w17 := btr B16 b17
                    have Ra_17 := heap_of b17 _ _ _ Ra_16
                    have Rb_17 := heap_of b17 _ _ _ Rb_16
                    have Rc_17 := heap_of b17 _ _ _ Rc_16
                    have Rd_17 := heap_of b17 _ _ _ Rd_16
                    have Re_17 := heap_of b17 _ _ _ Re_16
                    have Rg_17 := heap_of b17 _ _ _ Rg_16
                    clear b17 B16 Ra_16 ca_16_0 ca_16_1 Rb_16 cb_16_0 cb_16_1 Rc_16 cc_16_0 cc_16_1 Rd_16 cd_16_0 cd_16_1 Re_16 ce_16_0 ce_16_1 Rg_16 cg_16_0 cg_16_1
                    obtain ⟨ca_17_0, ca_17_1⟩ := cells2s Ra_17
                    obtain ⟨cb_17_0, cb_17_1⟩ := cells2s Rb_17
                    obtain ⟨cc_17_0, cc_17_1⟩ := cells2s Rc_17
                    obtain ⟨cd_17_0, cd_17_1⟩ := cells2s Rd_17
                    obtain ⟨ce_17_0, ce_17_1⟩ := cells2s Re_17
                    obtain ⟨cg_17_0, cg_17_1⟩ := cells2s Rg_17
                    go_wp2_with fail
                    refine (K8.out _ (fatB FF.out B17)).mono ?_
                    rintro r w18 ⟨rfl, b18⟩
                    have B18 : Below w.heap.size w w18 := btr B17 b18
                    have Ra_18 := heap_of b18 _ _ _ Ra_17
                    have Rb_18 := heap_of b18 _ _ _ Rb_17
                    have Rc_18 := heap_of b18 _ _ _ Rc_17
                    have Rd_18 := heap_of b18 _ _ _ Rd_17
                    have Re_18 := heap_of b18 _ _ _ Re_17
                    have Rg_18 := heap_of b18 _ _ _ Rg_17
                    clear b18 B17 Ra_17 ca_17_0 ca_17_1 Rb_17 cb_17_0 cb_17_1 Rc_17 cc_17_0 cc_17_1 Rd_17 cd_17_0 cd_17_1 Re_17 ce_17_0 ce_17_1 Rg_17 cg_17_0 cg_17_1
                    obtain ⟨ca_18_0, ca_18_1⟩ := cells2s Ra_18
                    obtain ⟨cb_18_0, cb_18_1⟩ := cells2s Rb_18
                    obtain ⟨cc_18_0, cc_18_1⟩ := cells2s Rc_18
                    obtain ⟨cd_18_0, cd_18_1⟩ := cells2s Rd_18
                    obtain ⟨ce_18_0, ce_18_1⟩ := cells2s Re_18
                    obtain ⟨cg_18_0, cg_18_1⟩ := cells2s Rg_18
                    have S19 := box B18.size
                    have La_19 : Box (w.heap.size < w18.heap.size) := box (Array.getElem?_eq_some_iff.1 Ra_18).1
                    have Lb_19 : Box (w.heap.size + 1 < w18.heap.size) := box (Array.getElem?_eq_some_iff.1 Rb_18).1
                    have Lc_19 : Box (w8.heap.size < w18.heap.size) := box (Array.getElem?_eq_some_iff.1 Rc_18).1
                    have Ld_19 : Box (w10.heap.size < w18.heap.size) := box (Array.getElem?_eq_some_iff.1 Rd_18).1
                    have Le_19 : Box (w12.heap.size < w18.heap.size) := box (Array.getElem?_eq_some_iff.1 Re_18).1
                    have Lg_19 : Box (w14.heap.size < w18.heap.size) := box (Array.getElem?_eq_some_iff.1 Rg_18).1
                    have Rh_19 := heap_alloc_last w18 (Obj.cells #[.int .u64 (d1 : Nat), .int .u64 (d2 : Nat)] 25)
                    have B19 := btr B18 (bal w18 (Obj.cells #[.int .u64 (d1 : Nat), .int .u64 (d2 : Nat)] 25))
                    have Ra_19 := heap_of (bal w18 (Obj.cells #[.int .u64 (d1 : Nat), .int .u64 (d2 : Nat)] 25)) _ _ _ Ra_18
                    have Rb_19 := heap_of (bal w18 (Obj.cells #[.int .u64 (d1 : Nat), .int .u64 (d2 : Nat)] 25)) _ _ _ Rb_18
                    have Rc_19 := heap_of (bal w18 (Obj.cells #[.int .u64 (d1 : Nat), .int .u64 (d2 : Nat)] 25)) _ _ _ Rc_18
                    have Rd_19 := heap_of (bal w18 (Obj.cells #[.int .u64 (d1 : Nat), .int .u64 (d2 : Nat)] 25)) _ _ _ Rd_18
                    have Re_19 := heap_of (bal w18 (Obj.cells #[.int .u64 (d1 : Nat), .int .u64 (d2 : Nat)] 25)) _ _ _ Re_18
                    have Rg_19 := heap_of (bal w18 (Obj.cells #[.int .u64 (d1 : Nat), .int .u64 (d2 : Nat)] 25)) _ _ _ Rg_18
                    clear B18 Ra_18 ca_18_0 ca_18_1 Rb_18 cb_18_0 cb_18_1 Rc_18 cc_18_0 cc_18_1 Rd_18 cd_18_0 cd_18_1 Re_18 ce_18_0 ce_18_1 Rg_18 cg_18_0 cg_18_1
                    obtain ⟨ca_19_0, ca_19_1⟩ := cells2s Ra_19
                    obtain ⟨cb_19_0, cb_19_1⟩ := cells2s Rb_19
                    obtain ⟨cc_19_0, cc_19_1⟩ := cells2s Rc_19
                    obtain ⟨cd_19_0, cd_19_1⟩ := cells2s Rd_19
                    obtain ⟨ce_19_0, ce_19_1⟩ := cells2s Re_19
                    obtain ⟨cg_19_0, cg_19_1⟩ := cells2s Rg_19
                    obtain ⟨ch_19_0, ch_19_1⟩ := cells2s Rh_19
                    go_wp2_with fail
                    refine (KA.out _ (fatB FF.out B19)).mono ?_
                    rintro r w20 ⟨rfl, b20⟩
                    have B20 : Below w.heap.size w w20 := btr B19 b20
                    have Ra_20 := heap_of b20 _ _ _ Ra_19
                    have Rb_20 := heap_of b20 _ _ _ Rb_19
                    have Rc_20 := heap_of b20 _ _ _ Rc_19
                    have Rd_20 := heap_of b20 _ _ _ Rd_19
                    have Re_20 := heap_of b20 _ _ _ Re_19
                    have Rg_20 := heap_of b20 _ _ _ Rg_19
                    have Rh_20 := heap_of b20 _ _ _ Rh_19
                    clear b20 B19 Ra_19 ca_19_0 ca_19_1 Rb_19 cb_19_0 cb_19_1 Rc_19 cc_19_0 cc_19_1 Rd_19 cd_19_0 cd_19_1 Re_19 ce_19_0 ce_19_1 Rg_19 cg_19_0 cg_19_1 Rh_19 ch_19_0 ch_19_1
                    obtain ⟨ca_20_0, ca_20_1⟩ := cells2s Ra_20
                    obtain ⟨cb_20_0, cb_20_1⟩ := cells2s Rb_20
                    obtain ⟨cc_20_0, cc_20_1⟩ := cells2s Rc_20
                    obtain ⟨cd_20_0, cd_20_1⟩ := cells2s Rd_20
                    obtain ⟨ce_20_0, ce_20_1⟩ := cells2s Re_20
                    obtain ⟨cg_20_0, cg_20_1⟩ := cells2s Rg_20
                    obtain ⟨ch_20_0, ch_20_1⟩ := cells2s Rh_20
                    go_wp2
                    go_ret
                    exact ⟨rfl, B20⟩
                  · clear K7
                    clear h0 h1 b0 b1 hx1 hy1 hx2 hy2 ha hb
                    obtain ⟨Ra_0, Rb_0, B0⟩ := opn2 w (Obj.cells #[.int .u64 (x1 : Nat), .int .u64 (y1 : Nat)] 25) (Obj.cells #[.int .u64 (x2 : Nat), .int .u64 (y2 : Nat)] 25)
                    go_enter Tryz.func7, Tryz.ntmps7
                    obtain ⟨ca_0_0, ca_0_1⟩ := cells2s Ra_0
                    obtain ⟨cb_0_0, cb_0_1⟩ := cells2s Rb_0
                    go_wp2_with fail
                    refine (I1.out _ (fatB FF.out B0)).mono ?_
                    rintro r w1 ⟨rfl, b1⟩
                    have B1 : Below w.heap.size w w1 := btr B0 b1
                    have Ra_1 := heap_of b1 _ _ _ Ra_0
                    have Rb_1 := heap_of b1 _ _ _ Rb_0
                    clear b1 B0 Ra_0 ca_0_0 ca_0_1 Rb_0 cb_0_0 cb_0_1
                    obtain ⟨ca_1_0, ca_1_1⟩ := cells2s Ra_1
                    obtain ⟨cb_1_0, cb_1_1⟩ := cells2s Rb_1
                    go_wp2_with fail
                    refine (I2.out _ (fatB FF.out B1)).mono ?_
                    rintro r w2 ⟨rfl, b2⟩
                    have B2 : Below w.heap.size w w2 := btr B1 b2
                    have Ra_2 := heap_of b2 _ _ _ Ra_1
                    have Rb_2 := heap_of b2 _ _ _ Rb_1
                    clear b2 B1 Ra_1 ca_1_0 ca_1_1 Rb_1 cb_1_0 cb_1_1
                    obtain ⟨ca_2_0, ca_2_1⟩ := cells2s Ra_2
                    obtain ⟨cb_2_0, cb_2_1⟩ := cells2s Rb_2
                    go_wp2_with fail
                    refine (S1.out _ (fatB FF.out B2)).mono ?_
                    rintro r w3 ⟨rfl, b3⟩
                    have B3 : Below w.heap.size w w3 := btr B2 b3
                    have Ra_3 := heap_of b3 _ _ _ Ra_2
                    have Rb_3 := heap_of b3 _ _ _ Rb_2
                    clear b3 B2 Ra_2 ca_2_0 ca_2_1 Rb_2 cb_2_0 cb_2_1
                    obtain ⟨ca_3_0, ca_3_1⟩ := cells2s Ra_3
                    obtain ⟨cb_3_0, cb_3_1⟩ := cells2s Rb_3
                    go_wp2_with fail
                    refine (S2.out _ (fatB FF.out B3)).mono ?_
                    rintro r w4 ⟨rfl, b4⟩
                    have B4 : Below w.heap.size w w4 := btr B3 b4
                    have Ra_4 := heap_of b4 _ _ _ Ra_3
                    have Rb_4 := heap_of b4 _ _ _ Rb_3
                    clear b4 B3 Ra_3 ca_3_0 ca_3_1 Rb_3 cb_3_0 cb_3_1
                    obtain ⟨ca_4_0, ca_4_1⟩ := cells2s Ra_4
                    obtain ⟨cb_4_0, cb_4_1⟩ := cells2s Rb_4
                    go_wp2_with fail
                    refine (Z1.out _).mono ?_
                    rintro r w5 ⟨rfl, b5⟩
                    have B5 : Below w.heap.size w w5 := btr B4 b5
                    have Ra_5 := heap_of b5 _ _ _ Ra_4
                    have Rb_5 := heap_of b5 _ _ _ Rb_4
                    clear b5 B4 Ra_4 ca_4_0 ca_4_1 Rb_4 cb_4_0 cb_4_1
                    obtain ⟨ca_5_0, ca_5_1⟩ := cells2s Ra_5
                    obtain ⟨cb_5_0, cb_5_1⟩ := cells2s Rb_5
                    go_wp2_with fail
                    refine (Z2.out _).mono ?_
                    rintro r w6 ⟨rfl, b6⟩
                    have B6 : Below w.heap.size w w6 := btr B5 b6
                    have Ra_6 := heap_of b6 _ _ _ Ra_5
                    have Rb_6 := heap_of b6 _ _ _ Rb_5
                    clear b6 B5 Ra_5 ca_5_0 ca_5_1 Rb_5 cb_5_0 cb_5_1
                    obtain ⟨ca_6_0, ca_6_1⟩ := cells2s Ra_6
                    obtain ⟨cb_6_0, cb_6_1⟩ := cells2s Rb_6
                    go_wp2_with fail
                    refine (KM.out _).mono ?_
                    rintro r w7 ⟨rfl, b7⟩
                    have B7 : Below w.heap.size w w7 := btr B6 b7
                    have Ra_7 := heap_of b7 _ _ _ Ra_6
                    have Rb_7 := heap_of b7 _ _ _ Rb_6
                    clear b7 B6 Ra_6 ca_6_0 ca_6_1 Rb_6 cb_6_0 cb_6_1
                    obtain ⟨ca_7_0, ca_7_1⟩ := cells2s Ra_7
                    obtain ⟨cb_7_0, cb_7_1⟩ := cells2s Rb_7
                    go_wp2_with fail
                    refine (K1.out _ (fatB FF.out B7)).mono ?_
                    rintro r w8 ⟨rfl, b8⟩
                    have B8 : Below w.heap.size w w8 := btr B7 b8
                    have Ra_8 := heap_of b8 _ _ _ Ra_7
                    have Rb_8 := heap_of b8 _ _ _ Rb_7
                    clear b8 B7 Ra_7 ca_7_0 ca_7_1 Rb_7 cb_7_0 cb_7_1
                    obtain ⟨ca_8_0, ca_8_1⟩ := cells2s Ra_8
                    obtain ⟨cb_8_0, cb_8_1⟩ := cells2s Rb_8
                    have S9 := box B8.size
                    have La_9 : Box (w.heap.size < w8.heap.size) := box (Array.getElem?_eq_some_iff.1 Ra_8).1
                    have Lb_9 : Box (w.heap.size + 1 < w8.heap.size) := box (Array.getElem?_eq_some_iff.1 Rb_8).1
                    have Rc_9 := heap_alloc_last w8 (Obj.cells #[.int .u64 (t1 : Nat), .int .u64 (t2 : Nat)] 25)
                    have B9 := btr B8 (bal w8 (Obj.cells #[.int .u64 (t1 : Nat), .int .u64 (t2 : Nat)] 25))
                    have Ra_9 := heap_of (bal w8 (Obj.cells #[.int .u64 (t1 : Nat), .int .u64 (t2 : Nat)] 25)) _ _ _ Ra_8
                    have Rb_9 := heap_of (bal w8 (Obj.cells #[.int .u64 (t1 : Nat), .int .u64 (t2 : Nat)] 25)) _ _ _ Rb_8
                    clear B8 Ra_8 ca_8_0 ca_8_1 Rb_8 cb_8_0 cb_8_1
                    obtain ⟨ca_9_0, ca_9_1⟩ := cells2s Ra_9
                    obtain ⟨cb_9_0, cb_9_1⟩ := cells2s Rb_9
                    obtain ⟨cc_9_0, cc_9_1⟩ := cells2s Rc_9
                    go_wp2_with fail
                    refine (K2.out _ (fatB FF.out B9)).mono ?_
                    rintro r w10 ⟨rfl, b10⟩
                    have B10 : Below w.heap.size w w10 := btr B9 b10
                    have Ra_10 := heap_of b10 _ _ _ Ra_9
                    have Rb_10 := heap_of b10 _ _ _ Rb_9
                    have Rc_10 := heap_of b10 _ _ _ Rc_9
                    clear b10 B9 Ra_9 ca_9_0 ca_9_1 Rb_9 cb_9_0 cb_9_1 Rc_9 cc_9_0 cc_9_1
                    obtain ⟨ca_10_0, ca_10_1⟩ := cells2s Ra_10
                    obtain ⟨cb_10_0, cb_10_1⟩ := cells2s Rb_10
                    obtain ⟨cc_10_0, cc_10_1⟩ := cells2s Rc_10
                    have S11 := box B10.size
                    have La_11 : Box (w.heap.size < w10.heap.size) := box (Array.getElem?_eq_some_iff.1 Ra_10).1
                    have Lb_11 : Box (w.heap.size + 1 < w10.heap.size) := box (Array.getElem?_eq_some_iff.1 Rb_10).1
                    have Lc_11 : Box (w8.heap.size < w10.heap.size) := box (Array.getElem?_eq_some_iff.1 Rc_10).1
                    have Rd_11 := heap_alloc_last w10 (Obj.cells #[.int .u64 (m1 : Nat), .int .u64 (m2 : Nat)] 25)
                    have B11 := btr B10 (bal w10 (Obj.cells #[.int .u64 (m1 : Nat), .int .u64 (m2 : Nat)] 25))
                    have Ra_11 := heap_of (bal w10 (Obj.cells #[.int .u64 (m1 : Nat), .int .u64 (m2 : Nat)] 25)) _ _ _ Ra_10
                    have Rb_11 := heap_of (bal w10 (Obj.cells #[.int .u64 (m1 : Nat), .int .u64 (m2 : Nat)] 25)) _ _ _ Rb_10
                    have Rc_11 := heap_of (bal w10 (Obj.cells #[.int .u64 (m1 : Nat), .int .u64 (m2 : Nat)] 25)) _ _ _ Rc_10
                    clear B10 Ra_10 ca_10_0 ca_10_1 Rb_10 cb_10_0 cb_10_1 Rc_10 cc_10_0 cc_10_1
                    obtain ⟨ca_11_0, ca_11_1⟩ := cells2s Ra_11
                    obtain ⟨cb_11_0, cb_11_1⟩ := cells2s Rb_11
                    obtain ⟨cc_11_0, cc_11_1⟩ := cells2s Rc_11
                    obtain ⟨cd_11_0, cd_11_1⟩ := cells2s Rd_11
                    go_wp2_with fail
                    refine (K3.out _ (fatB FF.out B11)).mono ?_
                    rintro r w12 ⟨rfl, b12⟩
                    have B12 : Below w.heap.size w w12 := btr B11 b12
                    have Ra_12 := heap_of b12 _ _ _ Ra_11
                    have Rb_12 := heap_of b12 _ _ _ Rb_11
                    have Rc_12 := heap_of b12 _ _ _ Rc_11
                    have Rd_12 := heap_of b12 _ _ _ Rd_11
                    clear b12 B11 Ra_11 ca_11_0 ca_11_1 Rb_11 cb_11_0 cb_11_1 Rc_11 cc_11_0 cc_11_1 Rd_11 cd_11_0 cd_11_1
                    obtain ⟨ca_12_0, ca_12_1⟩ := cells2s Ra_12
                    obtain ⟨cb_12_0, cb_12_1⟩ := cells2s Rb_12
                    obtain ⟨cc_12_0, cc_12_1⟩ := cells2s Rc_12
                    obtain ⟨cd_12_0, cd_12_1⟩ := cells2s Rd_12
                    have S13 := box B12.size
                    have La_13 : Box (w.heap.size < w12.heap.size) := box (Array.getElem?_eq_some_iff.1 Ra_12).1
                    have Lb_13 : Box (w.heap.size + 1 < w12.heap.size) := box (Array.getElem?_eq_some_iff.1 Rb_12).1
                    have Lc_13 : Box (w8.heap.size < w12.heap.size) := box (Array.getElem?_eq_some_iff.1 Rc_12).1
                    have Ld_13 : Box (w10.heap.size < w12.heap.size) := box (Array.getElem?_eq_some_iff.1 Rd_12).1
                    have Re_13 := heap_alloc_last w12 (Obj.cells #[.int .u64 (s1 : Nat), .int .u64 (s2 : Nat)] 25)
                    have B13 := btr B12 (bal w12 (Obj.cells #[.int .u64 (s1 : Nat), .int .u64 (s2 : Nat)] 25))
                    have Ra_13 := heap_of (bal w12 (Obj.cells #[.int .u64 (s1 : Nat), .int .u64 (s2 : Nat)] 25)) _ _ _ Ra_12
                    have Rb_13 := heap_of (bal w12 (Obj.cells #[.int .u64 (s1 : Nat), .int .u64 (s2 : Nat)] 25)) _ _ _ Rb_12
                    have Rc_13 := heap_of (bal w12 (Obj.cells #[.int .u64 (s1 : Nat), .int .u64 (s2 : Nat)] 25)) _ _ _ Rc_12
                    have Rd_13 := heap_of (bal w12 (Obj.cells #[.int .u64 (s1 : Nat), .int .u64 (s2 : Nat)] 25)) _ _ _ Rd_12
                    clear B12 Ra_12 ca_12_0 ca_12_1 Rb_12 cb_12_0 cb_12_1 Rc_12 cc_12_0 cc_12_1 Rd_12 cd_12_0 cd_12_1
                    obtain ⟨ca_13_0, ca_13_1⟩ := cells2s Ra_13
                    obtain ⟨cb_13_0, cb_13_1⟩ := cells2s Rb_13
                    obtain ⟨cc_13_0, cc_13_1⟩ := cells2s Rc_13
                    obtain ⟨cd_13_0, cd_13_1⟩ := cells2s Rd_13
                    obtain ⟨ce_13_0, ce_13_1⟩ := cells2s Re_13
                    go_wp2_with fail
                    refine (K4.out _ (fatB FF.out B13)).mono ?_
                    rintro r w14 ⟨rfl, b14⟩
                    have B14 : Below w.heap.size w w14 := btr B13 b14
                    have Ra_14 := heap_of b14 _ _ _ Ra_13
                    have Rb_14 := heap_of b14 _ _ _ Rb_13
                    have Rc_14 := heap_of b14 _ _ _ Rc_13
                    have Rd_14 := heap_of b14 _ _ _ Rd_13
                    have Re_14 := heap_of b14 _ _ _ Re_13
                    clear b14 B13 Ra_13 ca_13_0 ca_13_1 Rb_13 cb_13_0 cb_13_1 Rc_13 cc_13_0 cc_13_1 Rd_13 cd_13_0 cd_13_1 Re_13 ce_13_0 ce_13_1
                    obtain ⟨ca_14_0, ca_14_1⟩ := cells2s Ra_14
                    obtain ⟨cb_14_0, cb_14_1⟩ := cells2s Rb_14
                    obtain ⟨cc_14_0, cc_14_1⟩ := cells2s Rc_14
                    obtain ⟨cd_14_0, cd_14_1⟩ := cells2s Rd_14
                    obtain ⟨ce_14_0, ce_14_1⟩ := cells2s Re_14
                    have S15 := box B14.size
                    have La_15 : Box (w.heap.size < w14.heap.size) := box (Array.getElem?_eq_some_iff.1 Ra_14).1
                    have Lb_15 : Box (w.heap.size + 1 < w14.heap.size) := box (Array.getElem?_eq_some_iff.1 Rb_14).1
                    have Lc_15 : Box (w8.heap.size < w14.heap.size) := box (Array.getElem?_eq_some_iff.1 Rc_14).1
                    have Ld_15 : Box (w10.heap.size < w14.heap.size) := box (Array.getElem?_eq_some_iff.1 Rd_14).1
                    have Le_15 : Box (w12.heap.size < w14.heap.size) := box (Array.getElem?_eq_some_iff.1 Re_14).1
                    have Rg_15 := heap_alloc_last w14 (Obj.cells #[.int .u64 (u1 : Nat), .int .u64 (u2 : Nat)] 25)
                    have B15 := btr B14 (bal w14 (Obj.cells #[.int .u64 (u1 : Nat), .int .u64 (u2 : Nat)] 25))
                    have Ra_15 := heap_of (bal w14 (Obj.cells #[.int .u64 (u1 : Nat), .int .u64 (u2 : Nat)] 25)) _ _ _ Ra_14
                    have Rb_15 := heap_of (bal w14 (Obj.cells #[.int .u64 (u1 : Nat), .int .u64 (u2 : Nat)] 25)) _ _ _ Rb_14
                    have Rc_15 := heap_of (bal w14 (Obj.cells #[.int .u64 (u1 : Nat), .int .u64 (u2 : Nat)] 25)) _ _ _ Rc_14
                    have Rd_15 := heap_of (bal w14 (Obj.cells #[.int .u64 (u1 : Nat), .int .u64 (u2 : Nat)] 25)) _ _ _ Rd_14
                    have Re_15 := heap_of (bal w14 (Obj.cells #[.int .u64 (u1 : Nat), .int .u64 (u2 : Nat)] 25)) _ _ _ Re_14
                    clear B14 Ra_14 ca_14_0 ca_14_1 Rb_14 cb_14_0 cb_14_1 Rc_14 cc_14_0 cc_14_1 Rd_14 cd_14_0 cd_14_1 Re_14 ce_14_0 ce_14_1
                    obtain ⟨ca_15_0, ca_15_1⟩ := cells2s Ra_15
                    obtain ⟨cb_15_0, cb_15_1⟩ := cells2s Rb_15
                    obtain ⟨cc_15_0, cc_15_1⟩ := cells2s Rc_15
                    obtain ⟨cd_15_0, cd_15_1⟩ := cells2s Rd_15
                    obtain ⟨ce_15_0, ce_15_1⟩ := cells2s Re_15
                    obtain ⟨cg_15_0, cg_15_1⟩ := cells2s Rg_15
                    go_wp2_with fail
                    refine (K5.out _ (fatB FF.out B15)).mono ?_
                    rintro r w16 ⟨rfl, b16⟩
                    have B16 : Below w.heap.size w w16 := btr B15 b16
                    have Ra_16 := heap_of b16 _ _ _ Ra_15
                    have Rb_16 := heap_of b16 _ _ _ Rb_15
                    have Rc_16 := heap_of b16 _ _ _ Rc_15
                    have Rd_16 := heap_of b16 _ _ _ Rd_15
                    have Re_16 := heap_of b16 _ _ _ Re_15
                    have Rg_16 := heap_of b16 _ _ _ Rg_15
                    clear b16 B15 Ra_15 ca_15_0 ca_15_1 Rb_15 cb_15_0 cb_15_1 Rc_15 cc_15_0 cc_15_1 Rd_15 cd_15_0 cd_15_1 Re_15 ce_15_0 ce_15_1 Rg_15 cg_15_0 cg_15_1
                    obtain ⟨ca_16_0, ca_16_1⟩ := cells2s Ra_16
                    obtain ⟨cb_16_0, cb_16_1⟩ := cells2s Rb_16
                    obtain ⟨cc_16_0, cc_16_1⟩ := cells2s Rc_16
                    obtain ⟨cd_16_0, cd_16_1⟩ := cells2s Rd_16
                    obtain ⟨ce_16_0, ce_16_1⟩ := cells2s Re_16
                    obtain ⟨cg_16_0, cg_16_1⟩ := cells2s Rg_16
                    go_wp2_with fail
                    refine (K6.out _ (fatB FF.out B16)).mono ?_
                    rintro r w17 ⟨rfl, b17⟩
                    have B17 : Below w.heap.size w w17 := btr B16 b17
                    have Ra_17 := heap_of b17 _ _ _ Ra_16
                    have Rb_17 := heap_of b17 _ _ _ Rb_16
                    have Rc_17 := heap_of b17 _ _ _ Rc_16
                    have Rd_17 := heap_of b17 _ _ _ Rd_16
                    have Re_17 := heap_of b17 _ _ _ Re_16
                    have Rg_17 := heap_of b17 _ _ _ Rg_16
                    clear b17 B16 Ra_16 ca_16_0 ca_16_1 Rb_16 cb_16_0 cb_16_1 Rc_16 cc_16_0 cc_16_1 Rd_16 cd_16_0 cd_16_1 Re_16 ce_16_0 ce_16_1 Rg_16 cg_16_0 cg_16_1
                    obtain ⟨ca_17_0, ca_17_1⟩ := cells2s Ra_17
                    obtain ⟨cb_17_0, cb_17_1⟩ := cells2s Rb_17
                    obtain ⟨cc_17_0, cc_17_1⟩ := cells2s Rc_17
                    obtain ⟨cd_17_0, cd_17_1⟩ := cells2s Rd_17
                    obtain ⟨ce_17_0, ce_17_1⟩ := cells2s Re_17
                    obtain ⟨cg_17_0, cg_17_1⟩ := cells2s Rg_17
                    go_wp2_with fail
                    refine (KA.out _ (fatB FF.out B17)).mono ?_
                    rintro r w18 ⟨rfl, b18⟩
                    have B18 : Below w.heap.size w w18 := btr B17 b18
                    have Ra_18 := heap_of b18 _ _ _ Ra_17
                    have Rb_18 := heap_of b18 _ _ _ Rb_17
                    have Rc_18 := heap_of b18 _ _ _ Rc_17
                    have Rd_18 := heap_of b18 _ _ _ Rd_17
                    have Re_18 := heap_of b18 _ _ _ Re_17
                    have Rg_18 := heap_of b18 _ _ _ Rg_17
                    clear b18 B17 Ra_17 ca_17_0 ca_17_1 Rb_17 cb_17_0 cb_17_1 Rc_17 cc_17_0 cc_17_1 Rd_17 cd_17_0 cd_17_1 Re_17 ce_17_0 ce_17_1 Rg_17 cg_17_0 cg_17_1
                    obtain ⟨ca_18_0, ca_18_1⟩ := cells2s Ra_18
                    obtain ⟨cb_18_0, cb_18_1⟩ := cells2s Rb_18
                    obtain ⟨cc_18_0, cc_18_1⟩ := cells2s Rc_18
                    obtain ⟨cd_18_0, cd_18_1⟩ := cells2s Rd_18
                    obtain ⟨ce_18_0, ce_18_1⟩ := cells2s Re_18
                    obtain ⟨cg_18_0, cg_18_1⟩ := cells2s Rg_18
                    go_wp2
                    go_ret
                    exact ⟨rfl, B18⟩
                · clear K7
                  clear h0 h1 b0 b1 hx1 hy1 hx2 hy2 ha hb
                  obtain ⟨Ra_0, Rb_0, B0⟩ := opn2 w (Obj.cells #[.int .u64 (x1 : Nat), .int .u64 (y1 : Nat)] 25) (Obj.cells #[.int .u64 (x2 : Nat), .int .u64 (y2 : Nat)] 25)
                  go_enter Tryz.func7, Tryz.ntmps7
                  obtain ⟨ca_0_0, ca_0_1⟩ := cells2s Ra_0
                  obtain ⟨cb_0_0, cb_0_1⟩ := cells2s Rb_0
                  go_wp2_with fail
                  refine (I1.out _ (fatB FF.out B0)).mono ?_
                  rintro r w1 ⟨rfl, b1⟩
                  have B1 : Below w.heap.size w w1 := btr B0 b1
                  have Ra_1 := heap_of b1 _ _ _ Ra_0
                  have Rb_1 := heap_of b1 _ _ _ Rb_0
                  clear b1 B0 Ra_0 ca_0_0 ca_0_1 Rb_0 cb_0_0 cb_0_1
                  obtain ⟨ca_1_0, ca_1_1⟩ := cells2s Ra_1
                  obtain ⟨cb_1_0, cb_1_1⟩ := cells2s Rb_1
                  go_wp2_with fail
                  refine (I2.out _ (fatB FF.out B1)).mono ?_
                  rintro r w2 ⟨rfl, b2⟩
                  have B2 : Below w.heap.size w w2 := btr B1 b2
                  have Ra_2 := heap_of b2 _ _ _ Ra_1
                  have Rb_2 := heap_of b2 _ _ _ Rb_1
                  clear b2 B1 Ra_1 ca_1_0 ca_1_1 Rb_1 cb_1_0 cb_1_1
                  obtain ⟨ca_2_0, ca_2_1⟩ := cells2s Ra_2
                  obtain ⟨cb_2_0, cb_2_1⟩ := cells2s Rb_2
                  go_wp2_with fail
                  refine (S1.out _ (fatB FF.out B2)).mono ?_
                  rintro r w3 ⟨rfl, b3⟩
                  have B3 : Below w.heap.size w w3 := btr B2 b3
                  have Ra_3 := heap_of b3 _ _ _ Ra_2
                  have Rb_3 := heap_of b3 _ _ _ Rb_2
                  clear b3 B2 Ra_2 ca_2_0 ca_2_1 Rb_2 cb_2_0 cb_2_1
                  obtain ⟨ca_3_0, ca_3_1⟩ := cells2s Ra_3
                  obtain ⟨cb_3_0, cb_3_1⟩ := cells2s Rb_3
                  go_wp2_with fail
                  refine (S2.out _ (fatB FF.out B3)).mono ?_
                  rintro r w4 ⟨rfl, b4⟩
                  have B4 : Below w.heap.size w w4 := btr B3 b4
                  have Ra_4 := heap_of b4 _ _ _ Ra_3
                  have Rb_4 := heap_of b4 _ _ _ Rb_3
                  clear b4 B3 Ra_3 ca_3_0 ca_3_1 Rb_3 cb_3_0 cb_3_1
                  obtain ⟨ca_4_0, ca_4_1⟩ := cells2s Ra_4
                  obtain ⟨cb_4_0, cb_4_1⟩ := cells2s Rb_4
                  go_wp2_with fail
                  refine (Z1.out _).mono ?_
                  rintro r w5 ⟨rfl, b5⟩
                  have B5 : Below w.heap.size w w5 := btr B4 b5
                  have Ra_5 := heap_of b5 _ _ _ Ra_4
                  have Rb_5 := heap_of b5 _ _ _ Rb_4
                  clear b5 B4 Ra_4 ca_4_0 ca_4_1 Rb_4 cb_4_0 cb_4_1
                  obtain ⟨ca_5_0, ca_5_1⟩ := cells2s Ra_5
                  obtain ⟨cb_5_0, cb_5_1⟩ := cells2s Rb_5
                  go_wp2_with fail
                  refine (Z2.out _).mono ?_
                  rintro r w6 ⟨rfl, b6⟩
                  have B6 : Below w.heap.size w w6 := btr B5 b6
                  have Ra_6 := heap_of b6 _ _ _ Ra_5
                  have Rb_6 := heap_of b6 _ _ _ Rb_5
                  clear b6 B5 Ra_5 ca_5_0 ca_5_1 Rb_5 cb_5_0 cb_5_1
                  obtain ⟨ca_6_0, ca_6_1⟩ := cells2s Ra_6
                  obtain ⟨cb_6_0, cb_6_1⟩ := cells2s Rb_6
                  go_wp2_with fail
                  refine (KM.out _).mono ?_
                  rintro r w7 ⟨rfl, b7⟩
                  have B7 : Below w.heap.size w w7 := btr B6 b7
                  have Ra_7 := heap_of b7 _ _ _ Ra_6
                  have Rb_7 := heap_of b7 _ _ _ Rb_6
                  clear b7 B6 Ra_6 ca_6_0 ca_6_1 Rb_6 cb_6_0 cb_6_1
                  obtain ⟨ca_7_0, ca_7_1⟩ := cells2s Ra_7
                  obtain ⟨cb_7_0, cb_7_1⟩ := cells2s Rb_7
                  go_wp2_with fail
                  refine (K1.out _ (fatB FF.out B7)).mono ?_
                  rintro r w8 ⟨rfl, b8⟩
                  have B8 : Below w.heap.size w w8 := btr B7 b8
                  have Ra_8 := heap_of b8 _ _ _ Ra_7
                  have Rb_8 := heap_of b8 _ _ _ Rb_7
                  clear b8 B7 Ra_7 ca_7_0 ca_7_1 Rb_7 cb_7_0 cb_7_1
                  obtain ⟨ca_8_0, ca_8_1⟩ := cells2s Ra_8
                  obtain ⟨cb_8_0, cb_8_1⟩ := cells2s Rb_8
                  have S9 := box B8.size
                  have La_9 : Box (w.heap.size < w8.heap.size) := box (Array.getElem?_eq_some_iff.1 Ra_8).1
                  have Lb_9 : Box (w.heap.size + 1 < w8.heap.size) := box (Array.getElem?_eq_some_iff.1 Rb_8).1
                  have Rc_9 := heap_alloc_last w8 (Obj.cells #[.int .u64 (t1 : Nat), .int .u64 (t2 : Nat)] 25)
                  have B9 := btr B8 (bal w8 (Obj.cells #[.int .u64 (t1 : Nat), .int .u64 (t2 : Nat)] 25))
                  have Ra_9 := heap_of (bal w8 (Obj.cells #[.int .u64 (t1 : Nat), .int .u64 (t2 : Nat)] 25)) _ _ _ Ra_8
                  have Rb_9 := heap_of (bal w8 (Obj.cells #[.int .u64 (t1 : Nat), .int .u64 (t2 : Nat)] 25)) _ _ _ Rb_8
                  clear B8 Ra_8 ca_8_0 ca_8_1 Rb_8 cb_8_0 cb_8_1
                  obtain ⟨ca_9_0, ca_9_1⟩ := cells2s Ra_9
                  obtain ⟨cb_9_0, cb_9_1⟩ := cells2s Rb_9
                  obtain ⟨cc_9_0, cc_9_1⟩ := cells2s Rc_9
                  go_wp2_with fail
                  refine (K2.out _ (fatB FF.out B9)).mono ?_
                  rintro r w10 ⟨rfl, b10⟩
                  have B10 : Below w.heap.size w w10 := btr B9 b10
                  have Ra_10 := heap_of b10 _ _ _ Ra_9
                  have Rb_10 := heap_of b10 _ _ _ Rb_9
                  have Rc_10 := heap_of b10 _ _ _ Rc_9
                  clear b10 B9 Ra_9 ca_9_0 ca_9_1 Rb_9 cb_9_0 cb_9_1 Rc_9 cc_9_0 cc_9_1
                  obtain ⟨ca_10_0, ca_10_1⟩ := cells2s Ra_10
                  obtain ⟨cb_10_0, cb_10_1⟩ := cells2s Rb_10
                  obtain ⟨cc_10_0, cc_10_1⟩ := cells2s Rc_10
                  have S11 := box B10.size
                  have La_11 : Box (w.heap.size < w10.heap.size) := box (Array.getElem?_eq_some_iff.1 Ra_10).1
                  have Lb_11 : Box (w.heap.size + 1 < w10.heap.size) := box (Array.getElem?_eq_some_iff.1 Rb_10).1
                  have Lc_11 : Box (w8.heap.size < w10.heap.size) := box (Array.getElem?_eq_some_iff.1 Rc_10).1
                  have Rd_11 := heap_alloc_last w10 (Obj.cells #[.int .u64 (m1 : Nat), .int .u64 (m2 : Nat)] 25)
                  have B11 := btr B10 (bal w10 (Obj.cells #[.int .u64 (m1 : Nat), .int .u64 (m2 : Nat)] 25))
                  have Ra_11 := heap_of (bal w10 (Obj.cells #[.int .u64 (m1 : Nat), .int .u64 (m2 : Nat)] 25)) _ _ _ Ra_10
                  have Rb_11 := heap_of (bal w10 (Obj.cells #[.int .u64 (m1 : Nat), .int .u64 (m2 : Nat)] 25)) _ _ _ Rb_10
                  have Rc_11 := heap_of (bal w10 (Obj.cells #[.int .u64 (m1 : Nat), .int .u64 (m2 : Nat)] 25)) _ _ _ Rc_10
                  clear B10 Ra_10 ca_10_0 ca_10_1 Rb_10 cb_10_0 cb_10_1 Rc_10 cc_10_0 cc_10_1
                  obtain ⟨ca_11_0, ca_11_1⟩ := cells2s Ra_11
                  obtain ⟨cb_11_0, cb_11_1⟩ := cells2s Rb_11
                  obtain ⟨cc_11_0, cc_11_1⟩ := cells2s Rc_11
                  obtain ⟨cd_11_0, cd_11_1⟩ := cells2s Rd_11
                  go_wp2_with fail
                  refine (K3.out _ (fatB FF.out B11)).mono ?_
                  rintro r w12 ⟨rfl, b12⟩
                  have B12 : Below w.heap.size w w12 := btr B11 b12
                  have Ra_12 := heap_of b12 _ _ _ Ra_11
                  have Rb_12 := heap_of b12 _ _ _ Rb_11
                  have Rc_12 := heap_of b12 _ _ _ Rc_11
                  have Rd_12 := heap_of b12 _ _ _ Rd_11
                  clear b12 B11 Ra_11 ca_11_0 ca_11_1 Rb_11 cb_11_0 cb_11_1 Rc_11 cc_11_0 cc_11_1 Rd_11 cd_11_0 cd_11_1
                  obtain ⟨ca_12_0, ca_12_1⟩ := cells2s Ra_12
                  obtain ⟨cb_12_0, cb_12_1⟩ := cells2s Rb_12
                  obtain ⟨cc_12_0, cc_12_1⟩ := cells2s Rc_12
                  obtain ⟨cd_12_0, cd_12_1⟩ := cells2s Rd_12
                  have S13 := box B12.size
                  have La_13 : Box (w.heap.size < w12.heap.size) := box (Array.getElem?_eq_some_iff.1 Ra_12).1
                  have Lb_13 : Box (w.heap.size + 1 < w12.heap.size) := box (Array.getElem?_eq_some_iff.1 Rb_12).1
                  have Lc_13 : Box (w8.heap.size < w12.heap.size) := box (Array.getElem?_eq_some_iff.1 Rc_12).1
                  have Ld_13 : Box (w10.heap.size < w12.heap.size) := box (Array.getElem?_eq_some_iff.1 Rd_12).1
                  have Re_13 := heap_alloc_last w12 (Obj.cells #[.int .u64 (s1 : Nat), .int .u64 (s2 : Nat)] 25)
                  have B13 := btr B12 (bal w12 (Obj.cells #[.int .u64 (s1 : Nat), .int .u64 (s2 : Nat)] 25))
                  have Ra_13 := heap_of (bal w12 (Obj.cells #[.int .u64 (s1 : Nat), .int .u64 (s2 : Nat)] 25)) _ _ _ Ra_12
                  have Rb_13 := heap_of (bal w12 (Obj.cells #[.int .u64 (s1 : Nat), .int .u64 (s2 : Nat)] 25)) _ _ _ Rb_12
                  have Rc_13 := heap_of (bal w12 (Obj.cells #[.int .u64 (s1 : Nat), .int .u64 (s2 : Nat)] 25)) _ _ _ Rc_12
                  have Rd_13 := heap_of (bal w12 (Obj.cells #[.int .u64 (s1 : Nat), .int .u64 (s2 : Nat)] 25)) _ _ _ Rd_12
                  clear B12 Ra_12 ca_12_0 ca_12_1 Rb_12 cb_12_0 cb_12_1 Rc_12 cc_12_0 cc_12_1 Rd_12 cd_12_0 cd_12_1
                  obtain ⟨ca_13_0, ca_13_1⟩ := cells2s Ra_13
                  obtain ⟨cb_13_0, cb_13_1⟩ := cells2s Rb_13
                  obtain ⟨cc_13_0, cc_13_1⟩ := cells2s Rc_13
                  obtain ⟨cd_13_0, cd_13_1⟩ := cells2s Rd_13
                  obtain ⟨ce_13_0, ce_13_1⟩ := cells2s Re_13
                  go_wp2_with fail
                  refine (K4.out _ (fatB FF.out B13)).mono ?_
                  rintro r w14 ⟨rfl, b14⟩
                  have B14 : Below w.heap.size w w14 := btr B13 b14
                  have Ra_14 := heap_of b14 _ _ _ Ra_13
                  have Rb_14 := heap_of b14 _ _ _ Rb_13
                  have Rc_14 := heap_of b14 _ _ _ Rc_13
                  have Rd_14 := heap_of b14 _ _ _ Rd_13
                  have Re_14 := heap_of b14 _ _ _ Re_13
                  clear b14 B13 Ra_13 ca_13_0 ca_13_1 Rb_13 cb_13_0 cb_13_1 Rc_13 cc_13_0 cc_13_1 Rd_13 cd_13_0 cd_13_1 Re_13 ce_13_0 ce_13_1
                  obtain ⟨ca_14_0, ca_14_1⟩ := cells2s Ra_14
                  obtain ⟨cb_14_0, cb_14_1⟩ := cells2s Rb_14
                  obtain ⟨cc_14_0, cc_14_1⟩ := cells2s Rc_14
                  obtain ⟨cd_14_0, cd_14_1⟩ := cells2s Rd_14
                  obtain ⟨ce_14_0, ce_14_1⟩ := cells2s Re_14
                  have S15 := box B14.size
                  have La_15 : Box (w.heap.size < w14.heap.size) := box (Array.getElem?_eq_some_iff.1 Ra_14).1
                  have Lb_15 : Box (w.heap.size + 1 < w14.heap.size) := box (Array.getElem?_eq_some_iff.1 Rb_14).1
                  have Lc_15 : Box (w8.heap.size < w14.heap.size) := box (Array.getElem?_eq_some_iff.1 Rc_14).1
                  have Ld_15 : Box (w10.heap.size < w14.heap.size) := box (Array.getElem?_eq_some_iff.1 Rd_14).1
                  have Le_15 : Box (w12.heap.size < w14.heap.size) := box (Array.getElem?_eq_some_iff.1 Re_14).1
                  have Rg_15 := heap_alloc_last w14 (Obj.cells #[.int .u64 (u1 : Nat), .int .u64 (u2 : Nat)] 25)
                  have B15 := btr B14 (bal w14 (Obj.cells #[.int .u64 (u1 : Nat), .int .u64 (u2 : Nat)] 25))
                  have Ra_15 := heap_of (bal w14 (Obj.cells #[.int .u64 (u1 : Nat), .int .u64 (u2 : Nat)] 25)) _ _ _ Ra_14
                  have Rb_15 := heap_of (bal w14 (Obj.cells #[.int .u64 (u1 : Nat), .int .u64 (u2 : Nat)] 25)) _ _ _ Rb_14
                  have Rc_15 := heap_of (bal w14 (Obj.cells #[.int .u64 (u1 : Nat), .int .u64 (u2 : Nat)] 25)) _ _ _ Rc_14
                  have Rd_15 := heap_of (bal w14 (Obj.cells #[.int .u64 (u1 : Nat), .int .u64 (u2 : Nat)] 25)) _ _ _ Rd_14
                  have Re_15 := heap_of (bal w14 (Obj.cells #[.int .u64 (u1 : Nat), .int .u64 (u2 : Nat)] 25)) _ _ _ Re_14
                  clear B14 Ra_14 ca_14_0 ca_14_1 Rb_14 cb_14_0 cb_14_1 Rc_14 cc_14_0 cc_14_1 Rd_14 cd_14_0 cd_14_1 Re_14 ce_14_0 ce_14_1
                  obtain ⟨ca_15_0, ca_15_1⟩ := cells2s Ra_15
                  obtain ⟨cb_15_0, cb_15_1⟩ := cells2s Rb_15
                  obtain ⟨cc_15_0, cc_15_1⟩ := cells2s Rc_15
                  obtain ⟨cd_15_0, cd_15_1⟩ := cells2s Rd_15
                  obtain ⟨ce_15_0, ce_15_1⟩ := cells2s Re_15
                  obtain ⟨cg_15_0, cg_15_1⟩ := cells2s Rg_15
                  go_wp2_with fail
                  refine (K5.out _ (fatB FF.out B15)).mono ?_
                  rintro r w16 ⟨rfl, b16⟩
                  have B16 : Below w.heap.size w w16 := btr B15 b16
                  have Ra_16 := heap_of b16 _ _ _ Ra_15
                  have Rb_16 := heap_of b16 _ _ _ Rb_15
                  have Rc_16 := heap_of b16 _ _ _ Rc_15
                  have Rd_16 := heap_of b16 _ _ _ Rd_15
                  have Re_16 := heap_of b16 _ _ _ Re_15
                  have Rg_16 := heap_of b16 _ _ _ Rg_15
                  clear b16 B15 Ra_15 ca_15_0 ca_15_1 Rb_15 cb_15_0 cb_15_1 Rc_15 cc_15_0 cc_15_1 Rd_15 cd_15_0 cd_15_1 Re_15 ce_15_0 ce_15_1 Rg_15 cg_15_0 cg_15_1
                  obtain ⟨ca_16_0, ca_16_1⟩ := cells2s Ra_16
                  obtain ⟨cb_16_0, cb_16_1⟩ := cells2s Rb_16
                  obtain ⟨cc_16_0, cc_16_1⟩ := cells2s Rc_16
                  obtain ⟨cd_16_0, cd_16_1⟩ := cells2s Rd_16
                  obtain ⟨ce_16_0, ce_16_1⟩ := cells2s Re_16
                  obtain ⟨cg_16_0, cg_16_1⟩ := cells2s Rg_16
                  go_wp2_with fail
                  refine (KA.out _ (fatB FF.out B16)).mono ?_
                  rintro r w17 ⟨rfl, b17⟩
                  have B17 : Below w.heap.size w w17 := btr B16 b17
                  have Ra_17 := heap_of b17 _ _ _ Ra_16
                  have Rb_17 := heap_of b17 _ _ _ Rb_16
                  have Rc_17 := heap_of b17 _ _ _ Rc_16
                  have Rd_17 := heap_of b17 _ _ _ Rd_16
                  have Re_17 := heap_of b17 _ _ _ Re_16
                  have Rg_17 := heap_of b17 _ _ _ Rg_16
                  clear b17 B16 Ra_16 ca_16_0 ca_16_1 Rb_16 cb_16_0 cb_16_1 Rc_16 cc_16_0 cc_16_1 Rd_16 cd_16_0 cd_16_1 Re_16 ce_16_0 ce_16_1 Rg_16 cg_16_0 cg_16_1
                  obtain ⟨ca_17_0, ca_17_1⟩ := cells2s Ra_17
                  obtain ⟨cb_17_0, cb_17_1⟩ := cells2s Rb_17
                  obtain ⟨cc_17_0, cc_17_1⟩ := cells2s Rc_17
                  obtain ⟨cd_17_0, cd_17_1⟩ := cells2s Rd_17
                  obtain ⟨ce_17_0, ce_17_1⟩ := cells2s Re_17
                  obtain ⟨cg_17_0, cg_17_1⟩ := cells2s Rg_17
                  go_wp2
                  go_ret
                  exact ⟨rfl, B17⟩
              · rw [if_neg cm] at KM
                clear fa fb ta tb hf cm k1 k2 z1 z2 n1 n2 oa ob
                clear h0 h1 b0 b1 hx1 hy1 hx2 hy2 ha hb
                obtain ⟨Ra_0, Rb_0, B0⟩ := opn2 w (Obj.cells #[.int .u64 (x1 : Nat), .int .u64 (y1 : Nat)] 25) (Obj.cells #[.int .u64 (x2 : Nat), .int .u64 (y2 : Nat)] 25)
                go_enter Tryz.func7, Tryz.ntmps7
                obtain ⟨ca_0_0, ca_0_1⟩ := cells2s Ra_0
                obtain ⟨cb_0_0, cb_0_1⟩ := cells2s Rb_0
                go_wp2_with fail
                refine (I1.out _ (fatB FF.out B0)).mono ?_
                rintro r w1 ⟨rfl, b1⟩
                have B1 : Below w.heap.size w w1 := btr B0 b1
                have Ra_1 := heap_of b1 _ _ _ Ra_0
                have Rb_1 := heap_of b1 _ _ _ Rb_0
                clear b1 B0 Ra_0 ca_0_0 ca_0_1 Rb_0 cb_0_0 cb_0_1
                obtain ⟨ca_1_0, ca_1_1⟩ := cells2s Ra_1
                obtain ⟨cb_1_0, cb_1_1⟩ := cells2s Rb_1
                go_wp2_with fail
                refine (I2.out _ (fatB FF.out B1)).mono ?_
                rintro r w2 ⟨rfl, b2⟩
                have B2 : Below w.heap.size w w2 := btr B1 b2
                have Ra_2 := heap_of b2 _ _ _ Ra_1
                have Rb_2 := heap_of b2 _ _ _ Rb_1
                clear b2 B1 Ra_1 ca_1_0 ca_1_1 Rb_1 cb_1_0 cb_1_1
                obtain ⟨ca_2_0, ca_2_1⟩ := cells2s Ra_2
                obtain ⟨cb_2_0, cb_2_1⟩ := cells2s Rb_2
                go_wp2_with fail
                refine (S1.out _ (fatB FF.out B2)).mono ?_
                rintro r w3 ⟨rfl, b3⟩
                have B3 : Below w.heap.size w w3 := btr B2 b3
                have Ra_3 := heap_of b3 _ _ _ Ra_2
                have Rb_3 := heap_of b3 _ _ _ Rb_2
                clear b3 B2 Ra_2 ca_2_0 ca_2_1 Rb_2 cb_2_0 cb_2_1
                obtain ⟨ca_3_0, ca_3_1⟩ := cells2s Ra_3
                obtain ⟨cb_3_0, cb_3_1⟩ := cells2s Rb_3
                go_wp2_with fail
                refine (S2.out _ (fatB FF.out B3)).mono ?_
                rintro r w4 ⟨rfl, b4⟩
                have B4 : Below w.heap.size w w4 := btr B3 b4
                have Ra_4 := heap_of b4 _ _ _ Ra_3
                have Rb_4 := heap_of b4 _ _ _ Rb_3
                clear b4 B3 Ra_3 ca_3_0 ca_3_1 Rb_3 cb_3_0 cb_3_1
                obtain ⟨ca_4_0, ca_4_1⟩ := cells2s Ra_4
                obtain ⟨cb_4_0, cb_4_1⟩ := cells2s Rb_4
                go_wp2_with fail
                refine (Z1.out _).mono ?_
                rintro r w5 ⟨rfl, b5⟩
                have B5 : Below w.heap.size w w5 := btr B4 b5
                have Ra_5 := heap_of b5 _ _ _ Ra_4
                have Rb_5 := heap_of b5 _ _ _ Rb_4
                clear b5 B4 Ra_4 ca_4_0 ca_4_1 Rb_4 cb_4_0 cb_4_1
                obtain ⟨ca_5_0, ca_5_1⟩ := cells2s Ra_5
                obtain ⟨cb_5_0, cb_5_1⟩ := cells2s Rb_5
                go_wp2_with fail
                refine (Z2.out _).mono ?_
                rintro r w6 ⟨rfl, b6⟩
                have B6 : Below w.heap.size w w6 := btr B5 b6
                have Ra_6 := heap_of b6 _ _ _ Ra_5
                have Rb_6 := heap_of b6 _ _ _ Rb_5
                clear b6 B5 Ra_5 ca_5_0 ca_5_1 Rb_5 cb_5_0 cb_5_1
                obtain ⟨ca_6_0, ca_6_1⟩ := cells2s Ra_6
                obtain ⟨cb_6_0, cb_6_1⟩ := cells2s Rb_6
                go_wp2_with fail
                refine (KM.out _).mono ?_
                rintro r w7 ⟨rfl, b7⟩
                have B7 : Below w.heap.size w w7 := btr B6 b7
                have Ra_7 := heap_of b7 _ _ _ Ra_6
                have Rb_7 := heap_of b7 _ _ _ Rb_6
                clear b7 B6 Ra_6 ca_6_0 ca_6_1 Rb_6 cb_6_0 cb_6_1
                obtain ⟨ca_7_0, ca_7_1⟩ := cells2s Ra_7
                obtain ⟨cb_7_0, cb_7_1⟩ := cells2s Rb_7
                go_wp2_with fail
                refine (KA.out _ (fatB FF.out B7)).mono ?_
                rintro r w8 ⟨rfl, b8⟩
                have B8 : Below w.heap.size w w8 := btr B7 b8
                have Ra_8 := heap_of b8 _ _ _ Ra_7
                have Rb_8 := heap_of b8 _ _ _ Rb_7
                clear b8 B7 Ra_7 ca_7_0 ca_7_1 Rb_7 cb_7_0 cb_7_1
                obtain ⟨ca_8_0, ca_8_1⟩ := cells2s Ra_8
                obtain ⟨cb_8_0, cb_8_1⟩ := cells2s Rb_8
                go_wp2
                go_ret
                exact ⟨rfl, B8⟩
            · rw [z2] at Z2
              clear fa fb ta tb hf k1 k2 z1 z2 n1 n2 oa ob
              clear h0 h1 b0 b1 hx1 hy1 hx2 hy2 ha hb
              obtain ⟨Ra_0, Rb_0, B0⟩ := opn2 w (Obj.cells #[.int .u64 (x1 : Nat), .int .u64 (y1 : Nat)] 25) (Obj.cells #[.int .u64 (x2 : Nat), .int .u64 (y2 : Nat)] 25)
              go_enter Tryz.func7, Tryz.ntmps7
              obtain ⟨ca_0_0, ca_0_1⟩ := cells2s Ra_0
              obtain ⟨cb_0_0, cb_0_1⟩ := cells2s Rb_0
              go_wp2_with fail
              refine (I1.out _ (fatB FF.out B0)).mono ?_
              rintro r w1 ⟨rfl, b1⟩
              have B1 : Below w.heap.size w w1 := btr B0 b1
              have Ra_1 := heap_of b1 _ _ _ Ra_0
              have Rb_1 := heap_of b1 _ _ _ Rb_0
              clear b1 B0 Ra_0 ca_0_0 ca_0_1 Rb_0 cb_0_0 cb_0_1
              obtain ⟨ca_1_0, ca_1_1⟩ := cells2s Ra_1
              obtain ⟨cb_1_0, cb_1_1⟩ := cells2s Rb_1
              go_wp2_with fail
              refine (I2.out _ (fatB FF.out B1)).mono ?_
              rintro r w2 ⟨rfl, b2⟩
              have B2 : Below w.heap.size w w2 := btr B1 b2
              have Ra_2 := heap_of b2 _ _ _ Ra_1
              have Rb_2 := heap_of b2 _ _ _ Rb_1
              clear b2 B1 Ra_1 ca_1_0 ca_1_1 Rb_1 cb_1_0 cb_1_1
              obtain ⟨ca_2_0, ca_2_1⟩ := cells2s Ra_2
              obtain ⟨cb_2_0, cb_2_1⟩ := cells2s Rb_2
              go_wp2_with fail
              refine (S1.out _ (fatB FF.out B2)).mono ?_
              rintro r w3 ⟨rfl, b3⟩
              have B3 : Below w.heap.size w w3 := btr B2 b3
              have Ra_3 := heap_of b3 _ _ _ Ra_2
              have Rb_3 := heap_of b3 _ _ _ Rb_2
              clear b3 B2 Ra_2 ca_2_0 ca_2_1 Rb_2 cb_2_0 cb_2_1
              obtain ⟨ca_3_0, ca_3_1⟩ := cells2s Ra_3
              obtain ⟨cb_3_0, cb_3_1⟩ := cells2s Rb_3
              go_wp2_with fail
              refine (S2.out _ (fatB FF.out B3)).mono ?_
              rintro r w4 ⟨rfl, b4⟩
              have B4 : Below w.heap.size w w4 := btr B3 b4
              have Ra_4 := heap_of b4 _ _ _ Ra_3
              have Rb_4 := heap_of b4 _ _ _ Rb_3
              clear b4 B3 Ra_3 ca_3_0 ca_3_1 Rb_3 cb_3_0 cb_3_1
              obtain ⟨ca_4_0, ca_4_1⟩ := cells2s Ra_4
              obtain ⟨cb_4_0, cb_4_1⟩ := cells2s Rb_4
              go_wp2_with fail
              refine (Z1.out _).mono ?_
              rintro r w5 ⟨rfl, b5⟩
              have B5 : Below w.heap.size w w5 := btr B4 b5
              have Ra_5 := heap_of b5 _ _ _ Ra_4
              have Rb_5 := heap_of b5 _ _ _ Rb_4
              clear b5 B4 Ra_4 ca_4_0 ca_4_1 Rb_4 cb_4_0 cb_4_1
              obtain ⟨ca_5_0, ca_5_1⟩ := cells2s Ra_5
              obtain ⟨cb_5_0, cb_5_1⟩ := cells2s Rb_5
              go_wp2_with fail
              refine (Z2.out _).mono ?_
              rintro r w6 ⟨rfl, b6⟩
              have B6 : Below w.heap.size w w6 := btr B5 b6
              have Ra_6 := heap_of b6 _ _ _ Ra_5
              have Rb_6 := heap_of b6 _ _ _ Rb_5
              clear b6 B5 Ra_5 ca_5_0 ca_5_1 Rb_5 cb_5_0 cb_5_1
              obtain ⟨ca_6_0, ca_6_1⟩ := cells2s Ra_6
              obtain ⟨cb_6_0, cb_6_1⟩ := cells2s Rb_6
              go_wp2_with fail
              refine (KA.out _ (fatB FF.out B6)).mono ?_
              rintro r w7 ⟨rfl, b7⟩
              have B7 : Below w.heap.size w w7 := btr B6 b7
              have Ra_7 := heap_of b7 _ _ _ Ra_6
              have Rb_7 := heap_of b7 _ _ _ Rb_6
              clear b7 B6 Ra_6 ca_6_0 ca_6_1 Rb_6 cb_6_0 cb_6_1
              obtain ⟨ca_7_0, ca_7_1⟩ := cells2s Ra_7
              obtain ⟨cb_7_0, cb_7_1⟩ := cells2s Rb_7
              go_wp2
              go_ret
              exact ⟨rfl, B7⟩
          · rw [z1] at Z1
            clear fa fb ta tb hf k1 k2 z1 n1 n2 oa ob
            clear h0 h1 b0 b1 hx1 hy1 hx2 hy2 ha hb
            obtain ⟨Ra_0, Rb_0, B0⟩ := opn2 w (Obj.cells #[.int .u64 (x1 : Nat), .int .u64 (y1 : Nat)] 25) (Obj.cells #[.int .u64 (x2 : Nat), .int .u64 (y2 : Nat)] 25)
            go_enter Tryz.func7, Tryz.ntmps7
            obtain ⟨ca_0_0, ca_0_1⟩ := cells2s Ra_0
            obtain ⟨cb_0_0, cb_0_1⟩ := cells2s Rb_0
            go_wp2_with fail
            refine (I1.out _ (fatB FF.out B0)).mono ?_
            rintro r w1 ⟨rfl, b1⟩
            have B1 : Below w.heap.size w w1 := btr B0 b1
            have Ra_1 := heap_of b1 _ _ _ Ra_0
            have Rb_1 := heap_of b1 _ _ _ Rb_0
            clear b1 B0 Ra_0 ca_0_0 ca_0_1 Rb_0 cb_0_0 cb_0_1
            obtain ⟨ca_1_0, ca_1_1⟩ := cells2s Ra_1
            obtain ⟨cb_1_0, cb_1_1⟩ := cells2s Rb_1
            go_wp2_with fail
            refine (I2.out _ (fatB FF.out B1)).mono ?_
            rintro r w2 ⟨rfl, b2⟩
            have B2 : Below w.heap.size w w2 := btr B1 b2
            have Ra_2 := heap_of b2 _ _ _ Ra_1
            have Rb_2 := heap_of b2 _ _ _ Rb_1
            clear b2 B1 Ra_1 ca_1_0 ca_1_1 Rb_1 cb_1_0 cb_1_1
            obtain ⟨ca_2_0, ca_2_1⟩ := cells2s Ra_2
            obtain ⟨cb_2_0, cb_2_1⟩ := cells2s Rb_2
            go_wp2_with fail
            refine (S1.out _ (fatB FF.out B2)).mono ?_
            rintro r w3 ⟨rfl, b3⟩
            have B3 : Below w.heap.size w w3 := btr B2 b3
            have Ra_3 := heap_of b3 _ _ _ Ra_2
            have Rb_3 := heap_of b3 _ _ _ Rb_2
            clear b3 B2 Ra_2 ca_2_0 ca_2_1 Rb_2 cb_2_0 cb_2_1
            obtain ⟨ca_3_0, ca_3_1⟩ := cells2s Ra_3
            obtain ⟨cb_3_0, cb_3_1⟩ := cells2s Rb_3
            go_wp2_with fail
            refine (S2.out _ (fatB FF.out B3)).mono ?_
            rintro r w4 ⟨rfl, b4⟩
            have B4 : Below w.heap.size w w4 := btr B3 b4
            have Ra_4 := heap_of b4 _ _ _ Ra_3
            have Rb_4 := heap_of b4 _ _ _ Rb_3
            clear b4 B3 Ra_3 ca_3_0 ca_3_1 Rb_3 cb_3_0 cb_3_1
            obtain ⟨ca_4_0, ca_4_1⟩ := cells2s Ra_4
            obtain ⟨cb_4_0, cb_4_1⟩ := cells2s Rb_4
            go_wp2_with fail
            refine (Z1.out _).mono ?_
            rintro r w5 ⟨rfl, b5⟩
            have B5 : Below w.heap.size w w5 := btr B4 b5
            have Ra_5 := heap_of b5 _ _ _ Ra_4
            have Rb_5 := heap_of b5 _ _ _ Rb_4
            clear b5 B4 Ra_4 ca_4_0 ca_4_1 Rb_4 cb_4_0 cb_4_1
            obtain ⟨ca_5_0, ca_5_1⟩ := cells2s Ra_5
            obtain ⟨cb_5_0, cb_5_1⟩ := cells2s Rb_5
            go_wp2_with fail
            refine (KA.out _ (fatB FF.out B5)).mono ?_
            rintro r w6 ⟨rfl, b6⟩
            have B6 : Below w.heap.size w w6 := btr B5 b6
            have Ra_6 := heap_of b6 _ _ _ Ra_5
            have Rb_6 := heap_of b6 _ _ _ Rb_5
            clear b6 B5 Ra_5 ca_5_0 ca_5_1 Rb_5 cb_5_0 cb_5_1
            obtain ⟨ca_6_0, ca_6_1⟩ := cells2s Ra_6
            obtain ⟨cb_6_0, cb_6_1⟩ := cells2s Rb_6
            go_wp2
            go_ret
            exact ⟨rfl, B6⟩
        · rw [n2] at S2
          clear fa fb ta tb hf k1 k2 n1 n2 oa ob
          clear h0 h1 b0 b1 hx1 hy1 hx2 hy2 ha hb
          obtain ⟨Ra_0, Rb_0, B0⟩ := opn2 w (Obj.cells #[.int .u64 (x1 : Nat), .int .u64 (y1 : Nat)] 25) (Obj.cells #[.int .u64 (x2 : Nat), .int .u64 (y2 : Nat)] 25)
          go_enter Tryz.func7, Tryz.ntmps7
          obtain ⟨ca_0_0, ca_0_1⟩ := cells2s Ra_0
          obtain ⟨cb_0_0, cb_0_1⟩ := cells2s Rb_0
          go_wp2_with fail
          refine (I1.out _ (fatB FF.out B0)).mono ?_
          rintro r w1 ⟨rfl, b1⟩
          have B1 : Below w.heap.size w w1 := btr B0 b1
          have Ra_1 := heap_of b1 _ _ _ Ra_0
          have Rb_1 := heap_of b1 _ _ _ Rb_0
          clear b1 B0 Ra_0 ca_0_0 ca_0_1 Rb_0 cb_0_0 cb_0_1
          obtain ⟨ca_1_0, ca_1_1⟩ := cells2s Ra_1
          obtain ⟨cb_1_0, cb_1_1⟩ := cells2s Rb_1
          go_wp2_with fail
          refine (I2.out _ (fatB FF.out B1)).mono ?_
          rintro r w2 ⟨rfl, b2⟩
          have B2 : Below w.heap.size w w2 := btr B1 b2
          have Ra_2 := heap_of b2 _ _ _ Ra_1
          have Rb_2 := heap_of b2 _ _ _ Rb_1
          clear b2 B1 Ra_1 ca_1_0 ca_1_1 Rb_1 cb_1_0 cb_1_1
          obtain ⟨ca_2_0, ca_2_1⟩ := cells2s Ra_2
          obtain ⟨cb_2_0, cb_2_1⟩ := cells2s Rb_2
          go_wp2_with fail
          refine (S1.out _ (fatB FF.out B2)).mono ?_
          rintro r w3 ⟨rfl, b3⟩
          have B3 : Below w.heap.size w w3 := btr B2 b3
          have Ra_3 := heap_of b3 _ _ _ Ra_2
          have Rb_3 := heap_of b3 _ _ _ Rb_2
          clear b3 B2 Ra_2 ca_2_0 ca_2_1 Rb_2 cb_2_0 cb_2_1
          obtain ⟨ca_3_0, ca_3_1⟩ := cells2s Ra_3
          obtain ⟨cb_3_0, cb_3_1⟩ := cells2s Rb_3
          go_wp2_with fail
          refine (S2.out _ (fatB FF.out B3)).mono ?_
          rintro r w4 ⟨rfl, b4⟩
          have B4 : Below w.heap.size w w4 := btr B3 b4
          have Ra_4 := heap_of b4 _ _ _ Ra_3
          have Rb_4 := heap_of b4 _ _ _ Rb_3
          clear b4 B3 Ra_3 ca_3_0 ca_3_1 Rb_3 cb_3_0 cb_3_1
          obtain ⟨ca_4_0, ca_4_1⟩ := cells2s Ra_4
          obtain ⟨cb_4_0, cb_4_1⟩ := cells2s Rb_4
          go_wp2_with fail
          refine (KA.out _ (fatB FF.out B4)).mono ?_
          rintro r w5 ⟨rfl, b5⟩
          have B5 : Below w.heap.size w w5 := btr B4 b5
          have Ra_5 := heap_of b5 _ _ _ Ra_4
          have Rb_5 := heap_of b5 _ _ _ Rb_4
          clear b5 B4 Ra_4 ca_4_0 ca_4_1 Rb_4 cb_4_0 cb_4_1
          obtain ⟨ca_5_0, ca_5_1⟩ := cells2s Ra_5
          obtain ⟨cb_5_0, cb_5_1⟩ := cells2s Rb_5
          go_wp2
          go_ret
          exact ⟨rfl, B5⟩
      · rw [n1] at S1
        clear fa fb ta tb hf k1 k2 n1 oa ob
        clear h0 h1 b0 b1 hx1 hy1 hx2 hy2 ha hb
        obtain ⟨Ra_0, Rb_0, B0⟩ := opn2 w (Obj.cells #[.int .u64 (x1 : Nat), .int .u64 (y1 : Nat)] 25) (Obj.cells #[.int .u64 (x2 : Nat), .int .u64 (y2 : Nat)] 25)
        go_enter Tryz.func7, Tryz.ntmps7
        obtain ⟨ca_0_0, ca_0_1⟩ := cells2s Ra_0
        obtain ⟨cb_0_0, cb_0_1⟩ := cells2s Rb_0
        go_wp2_with fail
        refine (I1.out _ (fatB FF.out B0)).mono ?_
        rintro r w1 ⟨rfl, b1⟩
        have B1 : Below w.heap.size w w1 := btr B0 b1
        have Ra_1 := heap_of b1 _ _ _ Ra_0
        have Rb_1 := heap_of b1 _ _ _ Rb_0
        clear b1 B0 Ra_0 ca_0_0 ca_0_1 Rb_0 cb_0_0 cb_0_1
        obtain ⟨ca_1_0, ca_1_1⟩ := cells2s Ra_1
        obtain ⟨cb_1_0, cb_1_1⟩ := cells2s Rb_1
        go_wp2_with fail
        refine (I2.out _ (fatB FF.out B1)).mono ?_
        rintro r w2 ⟨rfl, b2⟩
        have B2 : Below w.heap.size w w2 := btr B1 b2
        have Ra_2 := heap_of b2 _ _ _ Ra_1
        have Rb_2 := heap_of b2 _ _ _ Rb_1
        clear b2 B1 Ra_1 ca_1_0 ca_1_1 Rb_1 cb_1_0 cb_1_1
        obtain ⟨ca_2_0, ca_2_1⟩ := cells2s Ra_2
        obtain ⟨cb_2_0, cb_2_1⟩ := cells2s Rb_2
        go_wp2_with fail
        refine (S1.out _ (fatB FF.out B2)).mono ?_
        rintro r w3 ⟨rfl, b3⟩
        have B3 : Below w.heap.size w w3 := btr B2 b3
        have Ra_3 := heap_of b3 _ _ _ Ra_2
        have Rb_3 := heap_of b3 _ _ _ Rb_2
        clear b3 B2 Ra_2 ca_2_0 ca_2_1 Rb_2 cb_2_0 cb_2_1
        obtain ⟨ca_3_0, ca_3_1⟩ := cells2s Ra_3
        obtain ⟨cb_3_0, cb_3_1⟩ := cells2s Rb_3
        go_wp2_with fail
        refine (KA.out _ (fatB FF.out B3)).mono ?_
        rintro r w4 ⟨rfl, b4⟩
        have B4 : Below w.heap.size w w4 := btr B3 b4
        have Ra_4 := heap_of b4 _ _ _ Ra_3
        have Rb_4 := heap_of b4 _ _ _ Rb_3
        clear b4 B3 Ra_3 ca_3_0 ca_3_1 Rb_3 cb_3_0 cb_3_1
        obtain ⟨ca_4_0, ca_4_1⟩ := cells2s Ra_4
        obtain ⟨cb_4_0, cb_4_1⟩ := cells2s Rb_4
        go_wp2
        go_ret
        exact ⟨rfl, B4⟩
    · rw [k2] at I2
      clear k1 k2
      clear h0 h1 b0 b1 hx1 hy1 hx2 hy2 ha hb
      obtain ⟨Ra_0, Rb_0, B0⟩ := opn2 w (Obj.cells #[.int .u64 (x1 : Nat), .int .u64 (y1 : Nat)] 25) (Obj.cells #[.int .u64 (x2 : Nat), .int .u64 (y2 : Nat)] 25)
      go_enter Tryz.func7, Tryz.ntmps7
      obtain ⟨ca_0_0, ca_0_1⟩ := cells2s Ra_0
      obtain ⟨cb_0_0, cb_0_1⟩ := cells2s Rb_0
      go_wp2_with fail
      refine (I1.out _ (fatB FF.out B0)).mono ?_
      rintro r w1 ⟨rfl, b1⟩
      have B1 : Below w.heap.size w w1 := btr B0 b1
      have Ra_1 := heap_of b1 _ _ _ Ra_0
      have Rb_1 := heap_of b1 _ _ _ Rb_0
      clear b1 B0 Ra_0 ca_0_0 ca_0_1 Rb_0 cb_0_0 cb_0_1
      obtain ⟨ca_1_0, ca_1_1⟩ := cells2s Ra_1
      obtain ⟨cb_1_0, cb_1_1⟩ := cells2s Rb_1
      go_wp2_with fail
      refine (I2.out _ (fatB FF.out B1)).mono ?_
      rintro r w2 ⟨rfl, b2⟩
      have B2 : Below w.heap.size w w2 := btr B1 b2
      have Ra_2 := heap_of b2 _ _ _ Ra_1
      have Rb_2 := heap_of b2 _ _ _ Rb_1
      clear b2 B1 Ra_1 ca_1_0 ca_1_1 Rb_1 cb_1_0 cb_1_1
      obtain ⟨ca_2_0, ca_2_1⟩ := cells2s Ra_2
      obtain ⟨cb_2_0, cb_2_1⟩ := cells2s Rb_2
      go_wp2_with fail
      refine (KA.out _ (fatB FF.out B2)).mono ?_
      rintro r w3 ⟨rfl, b3⟩
      have B3 : Below w.heap.size w w3 := btr B2 b3
      have Ra_3 := heap_of b3 _ _ _ Ra_2
      have Rb_3 := heap_of b3 _ _ _ Rb_2
      clear b3 B2 Ra_2 ca_2_0 ca_2_1 Rb_2 cb_2_0 cb_2_1
      obtain ⟨ca_3_0, ca_3_1⟩ := cells2s Ra_3
      obtain ⟨cb_3_0, cb_3_1⟩ := cells2s Rb_3
      go_wp2
      go_ret
      exact ⟨rfl, B3⟩
  · rw [k1] at I1
    clear k1 I2
    clear h0 h1 b0 b1 hx1 hy1 hx2 hy2 ha hb
    obtain ⟨Ra_0, Rb_0, B0⟩ := opn2 w (Obj.cells #[.int .u64 (x1 : Nat), .int .u64 (y1 : Nat)] 25) (Obj.cells #[.int .u64 (x2 : Nat), .int .u64 (y2 : Nat)] 25)
    go_enter Tryz.func7, Tryz.ntmps7
    obtain ⟨ca_0_0, ca_0_1⟩ := cells2s Ra_0
    obtain ⟨cb_0_0, cb_0_1⟩ := cells2s Rb_0
    go_wp2_with fail
    refine (I1.out _ (fatB FF.out B0)).mono ?_
    rintro r w1 ⟨rfl, b1⟩
    have B1 : Below w.heap.size w w1 := btr B0 b1
    have Ra_1 := heap_of b1 _ _ _ Ra_0
    have Rb_1 := heap_of b1 _ _ _ Rb_0
    clear b1 B0 Ra_0 ca_0_0 ca_0_1 Rb_0 cb_0_0 cb_0_1
    obtain ⟨ca_1_0, ca_1_1⟩ := cells2s Ra_1
    obtain ⟨cb_1_0, cb_1_1⟩ := cells2s Rb_1
    go_wp2_with fail
    refine (KA.out _ (fatB FF.out B1)).mono ?_
    rintro r w2 ⟨rfl, b2⟩
    have B2 : Below w.heap.size w w2 := btr B1 b2
    have Ra_2 := heap_of b2 _ _ _ Ra_1
    have Rb_2 := heap_of b2 _ _ _ Rb_1
    clear b2 B1 Ra_1 ca_1_0 ca_1_1 Rb_1 cb_1_0 cb_1_1
    obtain ⟨ca_2_0, ca_2_1⟩ := cells2s Ra_2
    obtain ⟨cb_2_0, cb_2_1⟩ := cells2s Rb_2
    go_wp2
    go_ret
    exact ⟨rfl, B2⟩

set_option maxRecDepth 100000 in
theorem lifted (os : Os) (started : os.Started) (H : Type) (enc : TypeId × Value → H) :
    ReturnsInHanded {} Tryz.checked os 7 .any (fun w args => (Rows.addNearSpec.pre enc Tryz.prog Tryz.f7 [] false w args ∧ laidMetH Tryz.prog laid7 w) ∧ sizedMet enc Tryz.prog Tryz.f7 (OpenSpec.ofChange Rows.addNearSpec) false w args)
      (Rows.addNearSpec.post enc Tryz.prog Tryz.f7 false true false false) := by
  refine returnsInHanded_of_change_and (C := Tryz.checked) (X := fun w _ => laidMetH Tryz.prog laid7 w) (fun _ _ _ hh h => h.of_heap hh) own started (by kernel_rfl) Tryz.func7
    (ChangeSpec.witness_shaped (enc := enc) (C := Tryz.checked) (os := os) (X := fun w _ => laidMetH Tryz.prog laid7 w) false (World.doorLaid Tryz.prog 400 os) #[.int .u8 0, .int .u8 0, .agg #[.int .u64 0, .int .u64 0], .agg #[.int .u64 0, .int .u64 0]] 8 rfl (World.shaped_of_RefB (by kernel_rfl) (by kernel_rfl)) (by kernel_rfl) (by kernel_rfl) (by kernel_rfl) (door_met7 os _)) ?_
  intro W base args ds gs before hval0 hW _ _ hL _
  have hval : ∀ (j : Nat) t v, Tryz.f7.params[j]? = some t → args[j]? = some v → Value.okWide Tryz.prog W .any base t v := hval0
  have hW' := hW
  obtain ⟨p, q, hA0, hV, rfl, hfz, hnd⟩ := hW
  have hA : DataW.TrodAll enc Tryz.prog W 0 (fun _ => true) true Tryz.f7.params.toList args.toList ds p := hA0
  rw [Tryz.params7] at hA hval
  obtain ⟨v0, vs0, d0, ds0, p0, q0, hargs, rfl, rfl, k0, r0⟩ := trodAll_cons hA
  obtain ⟨v1, vs1, d1, ds1, p1, q1, rfl, rfl, rfl, k1, r1⟩ := trodAll_cons r0
  obtain ⟨v2, vs2, d2, ds2, p2, q2, rfl, rfl, rfl, k2, r2⟩ := trodAll_cons r1
  obtain ⟨v3, vs3, d3, ds3, p3, q3, rfl, rfl, rfl, k3, r3⟩ := trodAll_cons r2
  obtain ⟨rfl, rfl, rfl⟩ := trodAll_nil r3
  obtain rfl : args = #[v0, v1, v2, v3] := by cases args; simp_all
  obtain ⟨rfl, rfl⟩ := trodVars_none hV
  obtain ⟨a0, rfl, rfl, rfl, h0⟩ := open_int Tryz.underlying22 (hval 0 22 v0 rfl rfl) k0
  obtain ⟨a1, rfl, rfl, rfl, h1⟩ := open_int Tryz.underlying38 (hval 1 38 v1 rfl rfl) k1
  obtain ⟨a2, h2, rfl, rfl, rfl⟩ := open_bits (hval 2 25 v2 rfl rfl) k2
  obtain ⟨a3, h3, rfl, rfl, rfl⟩ := open_bits (hval 3 25 v3 rfl rfl) k3
  clear hA0 hval0
  simp only [List.append_nil] at hW'
  refine (walk a0 a1 a2 a3 h0 h1 h2 h3 W (of_laid7 hL)).mono fun e W' ⟨he, hg⟩ => ?_
  subst he
  exact ⟨_, rfl, post_plain hW' (fun _ _ _ => trodAll_mk1 (shut_bool Tryz.underlying4 _)) (fun sp => (trodAll_cons_mk (shut_int Tryz.underlying22 h0) (trodAll_cons_mk (shut_int Tryz.underlying38 h1) (trodAll_cons_mk (shut_bits a2 h2) (trodAll_cons_mk (shut_bits a3 h3) trodAll_mk0))))) (fun _ => rfl) hg (ok_one (by kernel_rfl) rfl (okWide_bool_mk Tryz.underlying4 _))⟩

theorem and2 {a b : Bool} (h : a = true) (k : b = true) : (a && b) = true := by rw [h, k]; rfl
set_option maxRecDepth 100000 in
set_option maxHeartbeats 4000000 in
theorem closed : joinedFacts Tryz.prog 7 Tryz.f7 Rows.addNearSpec Rows.addNearRow = true := by
  unfold joinedFacts
  refine (and2 (and2 (and2 (and2 (and2 (and2 (and2 (and2 (and2 (and2 (and2 (and2 (and2 (and2 (and2 (and2 (and2 (and2 (and2 (and2 (and2 (and2 (and2 (and2 (and2 (and2 (and2 (and2 (and2 (and2 (and2 ?_ ?_) ?_) ?_) ?_) ?_) ?_) ?_) ?_) ?_) ?_) ?_) ?_) ?_) ?_) ?_) ?_) ?_) ?_) ?_) ?_) ?_) ?_) ?_) ?_) ?_) ?_) ?_) ?_) ?_) ?_) ?_)
  all_goals as_aux_lemma => kernel_rfl
theorem over : Rows.AddNearSaid :=
  OpenClaim.holds_of_wide 7 Tryz.f7 rfl rfl rfl rfl rfl rfl rfl ⟨rfl, rfl, rfl, rfl, rfl⟩ rfl rfl rfl rfl rfl (by as_aux_lemma => kernel_rfl) Tryz.func7 closed
    (of_decide_eq_true (by kernel_rfl)) (by unfold Func.isWrapper; first | (rw [if_pos (by decide +kernel)]; kernel_rfl) | (rw [if_neg (by decide +kernel)]; exact ⟨rfl, rfl⟩))
    (fun os started H enc _ => lifted os started H enc)

theorem proved : Rows.AddNearCardSaid :=
  Claim7.holds_tied_plain_at .later [] [.data] true (true, "d0a81ac6fe1fc81a32ead08cd62c5b59191d01ba543c4da18876f891ab06cc94") true
    over (fun _ h => by cases h) (by as_aux_lemma => kernel_rfl) (fun _ h => by cases h) addNear_row_tie rfl ⟨rfl, rfl⟩ (by as_aux_lemma => kernel_rfl) rfl
    (fun f fn hf hfn => by
      obtain rfl : f = 7 := Option.some.inj ((show Tryz.prog.funcNamed "abacus/abacuslaw11.AddNear" = some 7 by as_aux_lemma => kernel_rfl).symm.trans hf) |>.symm
      obtain rfl : fn = Tryz.f7 := (Option.some.inj (Tryz.func7.symm.trans hfn)).symm
      exact ⟨by as_aux_lemma => kernel_rfl, fun j t ht => by
        rw [Tryz.params7] at ht
        have h3 : t = 22 ∨ t = 38 ∨ t = 25 := by
          rcases j with _ | _ | _ | _ | j
          · exact (Or.inl (by simpa using ht.symm))
          · exact (Or.inr (Or.inl (by simpa using ht.symm)))
          · exact (Or.inr (Or.inr (by simpa using ht.symm)))
          · exact (Or.inr (Or.inr (by simpa using ht.symm)))
          · simp at ht
        rcases h3 with rfl | rfl | rfl
        · exact (show Tryz.prog.wantsStandIn 22 = false by kernel_rfl)
        · exact (show Tryz.prog.wantsStandIn 38 = false by kernel_rfl)
        · exact (show Tryz.prog.wantsStandIn 25 = false by kernel_rfl)⟩)
    (by as_aux_lemma => kernel_rfl)
#print axioms proved
end Go.Proofs.YtoaaajeblhaeoaaGreatDoor.addNear
