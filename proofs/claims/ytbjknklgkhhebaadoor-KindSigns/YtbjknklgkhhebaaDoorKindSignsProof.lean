/-
  KindSigns returns true for every format, whether it is one or not, and all bits: signs, quiet NaNs and the next number are the document's.
-/
import Derived.Test.YtbjknklgkhhebaaDoorRows
import Derived.Test.YtbjknklgkhhebaaDoorTie
import Derived.Test.YtbjknklgkhhebaaDoorCards
import Derived.WalkKit
import Derived.ProofKit
import Derived.OpenShut
import Derived.LaidMore
import Derived.Stop.Joined
import Derived.Lib.LaidTab
import Derived.SevenTiedAt
import Derived.Test.YtbjknklgkhhebaaDoorFrame6
import Derived.Test.YtbjknklgkhhebaaDoorSL
import Derived.Test.YtbjknklgkhhebaaDoorKE
import Derived.Test.YtbjknklgkhhebaaDoorFrameB
namespace Go.Proofs.YtbjknklgkhhebaaDoor.kindSigns
open WMath
open Go.ChangeShapes Go.WideShapes Go.ChangeAt Go.RowKit
set_option linter.unusedVariables false

theorem own : ownKnob Tryd.prog.godebug = none := by kernel_rfl

set_option maxRecDepth 100000 in
set_option maxHeartbeats 4000000 in
theorem walk (a0 : Int) (a1 : Nat × Nat) (h0 : (Lit.int .u8 a0).wf = true) (h1 : a1.1 < 18446744073709551616 ∧ a1.2 < 18446744073709551616) (w : World) (hT : FAt w) :
    Calls Tryd.prog 4 #[.int .u8 a0, bitsV a1] w fun e w' => e = .returned (.bool true) ∧ Below w.heap.size w w' := by
  have TT := box hT
  clear hT
  have b0 := bounds_u8 h0
  obtain ⟨x, y⟩ := a1
  obtain ⟨hx, hy⟩ := h1
  simp only at hx hy
  show Calls Tryd.prog 4 #[.int .u8 a0, .agg #[.int .u64 (x : Nat), .int .u64 (y : Nat)]] w fun r w' => r = .returned (.bool true) ∧ Below w.heap.size w w'
  obtain ⟨n, hn⟩ : ∃ n, y + 18446744073709551616 * x = n := ⟨_, rfl⟩
  have KA := box kalive
  cases ho : okB a0 n
  · have K1 := box (kSign_no a0 b0.1 b0.2 x y n hx hy hn ho)
    have K2 := box (rSign_no a0 b0.1 x y n hx hy hn ho)
    have K3 := box (kFlip_no a0 b0.1 b0.2 x y n hx hy hn ho)
    have K4 := box (rFlip_no a0 b0.1 x y n hx hy hn ho)
    have K5 := box (kQuiet_no a0 b0.1 b0.2 x y n hx hy hn ho)
    have K6 := box (rQuiet_no a0 b0.1 x y n hx hy hn ho)
    have K7 := box (kNext_no a0 b0.1 b0.2 x y n hx hy hn ho)
    have K8 := box (kfits_law a0 x y n false b0.1 hx hy hn ho)
    clear hx hy hn ho h0
    have Rb_0 : (w.alloc (Obj.cells #[.int .u64 (x : Nat), .int .u64 (y : Nat)] 25)).heap[w.heap.size]? = some (Obj.cells #[.int .u64 (x : Nat), .int .u64 (y : Nat)] 25) := by have := heap_alloc_last w (Obj.cells #[.int .u64 (x : Nat), .int .u64 (y : Nat)] 25); simpa only [size_al] using this
    have B0 : Below w.heap.size w (w.alloc (Obj.cells #[.int .u64 (x : Nat), .int .u64 (y : Nat)] 25)) := ((Below.refl _ _).alloc (by first | omega | (simp only [size_al]; omega)) _)
    go_enter Tryd.func4, Tryd.ntmps4
    go_wp2_with fail
    obtain ⟨F, hF1, hF2⟩ := below_fun (w.alloc (Obj.cells #[.int .u64 (x : Nat), .int .u64 (y : Nat)] 25))
    have fb_0 := fun u => cell7 (heap_of (hF1 u) _ _ _ Rb_0) 0 _ rfl
    have fb_1 := fun u => cell7 (heap_of (hF1 u) _ _ _ Rb_0) 1 _ rfl
    have TF : Box (∀ u, FAt (F u)) := box (fun u => fatB TT.out (btr7 B0 (hF1 u)))
    refine wp_region_below F hF2 (by kernel_rfl) (by kernel_rfl) ?_
    repeat first | go_big_quiet_step (first | (go_at_call 14; exact quietF hF1 hF2 (K1.out _ (TF.out _))) | (go_at_call 15; exact quietF hF1 hF2 (K2.out _)) | (go_at_call 16; exact quietF hF1 hF2 (K3.out _ (TF.out _))) | (go_at_call 17; exact quietF hF1 hF2 (K4.out _)) | (go_at_call 18; exact quietF hF1 hF2 (K5.out _ (TF.out _))) | (go_at_call 19; exact quietF hF1 hF2 (K6.out _)) | fail) | quiet_step (first | (go_at_call 14; exact quietF hF1 hF2 (K1.out _ (TF.out _))) | (go_at_call 15; exact quietF hF1 hF2 (K2.out _)) | (go_at_call 16; exact quietF hF1 hF2 (K3.out _ (TF.out _))) | (go_at_call 17; exact quietF hF1 hF2 (K4.out _)) | (go_at_call 18; exact quietF hF1 hF2 (K5.out _ (TF.out _))) | (go_at_call 19; exact quietF hF1 hF2 (K6.out _)) | fail)
    refine wpQuiet_nil ?_
    rintro _ ⟨uW, rfl⟩
    have B1 := btr7 B0 (hF1 uW)
    have Rb_1 := heap_of (hF1 uW) _ _ _ Rb_0
    obtain ⟨w1, hw⟩ : ∃ V, F uW = V := ⟨_, rfl⟩
    rw [hw] at B1 Rb_1
    try rw [hw]
    clear hw hF1 hF2 B0 fb_0 fb_1 Rb_0
    clear TF
    clear F
    have cb_1_0 := cell7 Rb_1 0 _ rfl
    have cb_1_1 := cell7 Rb_1 1 _ rfl
    go_wp2_with fail
    refine (K7.out _ (fatB TT.out B1)).mono ?_
    rintro r w2 ⟨rfl, b2⟩
    have B2 : Below w.heap.size w w2 := btr7 B1 b2
    have Rb_2 : w2.heap[w.heap.size]? = some (Obj.cells #[.int .u64 (x : Nat), .int .u64 (y : Nat)] 25) := heap_of b2 _ _ _ Rb_1
    clear b2 B1 Rb_1 cb_1_0 cb_1_1
    have cb_2_0 := cell7 Rb_2 0 _ rfl
    have cb_2_1 := cell7 Rb_2 1 _ rfl
    have S3 := box B2.size
    have Lb_3 : Box (w.heap.size < w2.heap.size) := box (Array.getElem?_eq_some_iff.1 Rb_2).1
    have B3 : Below w.heap.size w (w2.alloc (Obj.cells #[.int .u64 0, .int .u64 0] 25)) := btr7 B2 (bal7 _ _)
    have Rb_3 : (w2.alloc (Obj.cells #[.int .u64 0, .int .u64 0] 25)).heap[w.heap.size]? = some (Obj.cells #[.int .u64 (x : Nat), .int .u64 (y : Nat)] 25) := heap_of (bal7 _ _) _ _ _ Rb_2
    have Rn_3 : (w2.alloc (Obj.cells #[.int .u64 0, .int .u64 0] 25)).heap[w2.heap.size]? = some (Obj.cells #[.int .u64 0, .int .u64 0] 25) := heap_alloc_last _ _
    clear B2 Rb_2 cb_2_0 cb_2_1
    have cb_3_0 := cell7 Rb_3 0 _ rfl
    have cb_3_1 := cell7 Rb_3 1 _ rfl
    have cn_3_0 := cell7 Rn_3 0 _ rfl
    have cn_3_1 := cell7 Rn_3 1 _ rfl
    go_wp2_with fail
    refine (K8.out _).mono ?_
    rintro r w4 ⟨rfl, b4⟩
    have B4 : Below w.heap.size w w4 := btr7 B3 b4
    have Rb_4 : w4.heap[w.heap.size]? = some (Obj.cells #[.int .u64 (x : Nat), .int .u64 (y : Nat)] 25) := heap_of b4 _ _ _ Rb_3
    have Rn_4 : w4.heap[w2.heap.size]? = some (Obj.cells #[.int .u64 0, .int .u64 0] 25) := heap_of b4 _ _ _ Rn_3
    clear b4 B3 Rb_3 cb_3_0 cb_3_1 Rn_3 cn_3_0 cn_3_1
    have cb_4_0 := cell7 Rb_4 0 _ rfl
    have cb_4_1 := cell7 Rb_4 1 _ rfl
    have cn_4_0 := cell7 Rn_4 0 _ rfl
    have cn_4_1 := cell7 Rn_4 1 _ rfl
    go_wp2_with fail
    refine (KA.out _ (fatB TT.out B4)).mono ?_
    rintro r w5 ⟨rfl, b5⟩
    have B5 : Below w.heap.size w w5 := btr7 B4 b5
    have Rb_5 : w5.heap[w.heap.size]? = some (Obj.cells #[.int .u64 (x : Nat), .int .u64 (y : Nat)] 25) := heap_of b5 _ _ _ Rb_4
    have Rn_5 : w5.heap[w2.heap.size]? = some (Obj.cells #[.int .u64 0, .int .u64 0] 25) := heap_of b5 _ _ _ Rn_4
    clear b5 B4 Rb_4 cb_4_0 cb_4_1 Rn_4 cn_4_0 cn_4_1
    have cb_5_0 := cell7 Rb_5 0 _ rfl
    have cb_5_1 := cell7 Rb_5 1 _ rfl
    have cn_5_0 := cell7 Rn_5 0 _ rfl
    have cn_5_1 := cell7 Rn_5 1 _ rfl
    go_wp2
    go_ret
    exact ⟨rfl, B5⟩
  · obtain ⟨hf, fit⟩ := okB_yes b0.1 ho
    obtain ⟨u, v, huv⟩ : ∃ u v, bv7 (sgB a0 n true) = (u, v) := ⟨_, _, rfl⟩
    obtain ⟨s, t, hst⟩ : ∃ u v, bv7 (qt a0 n) = (u, v) := ⟨_, _, rfl⟩
    obtain ⟨m, e, hme⟩ : ∃ m e, nx a0 n = (m, e) := ⟨_, _, rfl⟩
    obtain ⟨i, j, hij⟩ : ∃ u v, bv7 m = (u, v) := ⟨_, _, rfl⟩
    obtain ⟨g, hg⟩ : ∃ g, kN a0 n = g := ⟨_, rfl⟩
    have K1 := box (kSign_yes a0 hf x y n g hx hy hn ho hg)
    have K2 := box (rSign_yes a0 hf x y n g hx hy hn ho hg)
    have K3 := box (kFlip_yes a0 hf x y n u v hx hy hn ho huv)
    have K4 := box (rFlip_yes a0 hf x y n u v hx hy hn ho huv)
    have K5 := box (kQuiet_is a0 hf x y n s t hx hy hn ho hst)
    have K6 := box (rQuiet_is a0 hf x y n s t hx hy hn ho hst)
    have K7 := box (kNext_yes a0 hf x y n i j e hx hy hn ho m hme hij)
    have K8 := box (kfits_law a0 x y n true b0.1 hx hy hn ho)
    have K9 := box (rNext_is a0 hf x y n i j m e hx hy hn ho hme hij)
    have we : IntKind.i64.wrap e = e := by
      unfold nx at hme
      rw [IntKind.wrap_i64]
      (repeat' split at hme) <;> (injection hme with _ h2; omega)
    clear hx hy hn ho h0 hf fit huv hst hme hij hg
    cases g
    · have Rb_0 : (w.alloc (Obj.cells #[.int .u64 (x : Nat), .int .u64 (y : Nat)] 25)).heap[w.heap.size]? = some (Obj.cells #[.int .u64 (x : Nat), .int .u64 (y : Nat)] 25) := by have := heap_alloc_last w (Obj.cells #[.int .u64 (x : Nat), .int .u64 (y : Nat)] 25); simpa only [size_al] using this
      have B0 : Below w.heap.size w (w.alloc (Obj.cells #[.int .u64 (x : Nat), .int .u64 (y : Nat)] 25)) := ((Below.refl _ _).alloc (by first | omega | (simp only [size_al]; omega)) _)
      go_enter Tryd.func4, Tryd.ntmps4
      go_wp2_with fail
      obtain ⟨F, hF1, hF2⟩ := below_fun (w.alloc (Obj.cells #[.int .u64 (x : Nat), .int .u64 (y : Nat)] 25))
      have fb_0 := fun u => cell7 (heap_of (hF1 u) _ _ _ Rb_0) 0 _ rfl
      have fb_1 := fun u => cell7 (heap_of (hF1 u) _ _ _ Rb_0) 1 _ rfl
      have TF : Box (∀ u, FAt (F u)) := box (fun u => fatB TT.out (btr7 B0 (hF1 u)))
      refine wp_region_below F hF2 (by kernel_rfl) (by kernel_rfl) ?_
      repeat first | go_big_quiet_step (first | (go_at_call 14; exact quietF hF1 hF2 (K1.out _ (TF.out _))) | (go_at_call 15; exact quietF hF1 hF2 (K2.out _)) | (go_at_call 16; exact quietF hF1 hF2 (K3.out _ (TF.out _))) | (go_at_call 17; exact quietF hF1 hF2 (K4.out _)) | (go_at_call 18; exact quietF hF1 hF2 (K5.out _ (TF.out _))) | (go_at_call 19; exact quietF hF1 hF2 (K6.out _)) | fail) | quiet_step (first | (go_at_call 14; exact quietF hF1 hF2 (K1.out _ (TF.out _))) | (go_at_call 15; exact quietF hF1 hF2 (K2.out _)) | (go_at_call 16; exact quietF hF1 hF2 (K3.out _ (TF.out _))) | (go_at_call 17; exact quietF hF1 hF2 (K4.out _)) | (go_at_call 18; exact quietF hF1 hF2 (K5.out _ (TF.out _))) | (go_at_call 19; exact quietF hF1 hF2 (K6.out _)) | fail)
      refine wpQuiet_nil ?_
      rintro _ ⟨uW, rfl⟩
      have B1 := btr7 B0 (hF1 uW)
      have Rb_1 := heap_of (hF1 uW) _ _ _ Rb_0
      obtain ⟨w1, hw⟩ : ∃ V, F uW = V := ⟨_, rfl⟩
      rw [hw] at B1 Rb_1
      try rw [hw]
      clear hw hF1 hF2 B0 fb_0 fb_1 Rb_0
      clear TF
      clear F
      have cb_1_0 := cell7 Rb_1 0 _ rfl
      have cb_1_1 := cell7 Rb_1 1 _ rfl
      go_wp2_with fail
      refine (K7.out _ (fatB TT.out B1)).mono ?_
      rintro r w2 ⟨rfl, b2⟩
      have B2 : Below w.heap.size w w2 := btr7 B1 b2
      have Rb_2 : w2.heap[w.heap.size]? = some (Obj.cells #[.int .u64 (x : Nat), .int .u64 (y : Nat)] 25) := heap_of b2 _ _ _ Rb_1
      clear b2 B1 Rb_1 cb_1_0 cb_1_1
      have cb_2_0 := cell7 Rb_2 0 _ rfl
      have cb_2_1 := cell7 Rb_2 1 _ rfl
      have S3 := box B2.size
      have Lb_3 : Box (w.heap.size < w2.heap.size) := box (Array.getElem?_eq_some_iff.1 Rb_2).1
      have B3 : Below w.heap.size w (w2.alloc (Obj.cells #[.int .u64 (i : Nat), .int .u64 (j : Nat)] 25)) := btr7 B2 (bal7 _ _)
      have Rb_3 : (w2.alloc (Obj.cells #[.int .u64 (i : Nat), .int .u64 (j : Nat)] 25)).heap[w.heap.size]? = some (Obj.cells #[.int .u64 (x : Nat), .int .u64 (y : Nat)] 25) := heap_of (bal7 _ _) _ _ _ Rb_2
      have Rn_3 : (w2.alloc (Obj.cells #[.int .u64 (i : Nat), .int .u64 (j : Nat)] 25)).heap[w2.heap.size]? = some (Obj.cells #[.int .u64 (i : Nat), .int .u64 (j : Nat)] 25) := heap_alloc_last _ _
      clear B2 Rb_2 cb_2_0 cb_2_1
      have cb_3_0 := cell7 Rb_3 0 _ rfl
      have cb_3_1 := cell7 Rb_3 1 _ rfl
      have cn_3_0 := cell7 Rn_3 0 _ rfl
      have cn_3_1 := cell7 Rn_3 1 _ rfl
      go_wp2_with fail
      refine (K8.out _).mono ?_
      rintro r w4 ⟨rfl, b4⟩
      have B4 : Below w.heap.size w w4 := btr7 B3 b4
      have Rb_4 : w4.heap[w.heap.size]? = some (Obj.cells #[.int .u64 (x : Nat), .int .u64 (y : Nat)] 25) := heap_of b4 _ _ _ Rb_3
      have Rn_4 : w4.heap[w2.heap.size]? = some (Obj.cells #[.int .u64 (i : Nat), .int .u64 (j : Nat)] 25) := heap_of b4 _ _ _ Rn_3
      clear b4 B3 Rb_3 cb_3_0 cb_3_1 Rn_3 cn_3_0 cn_3_1
      have cb_4_0 := cell7 Rb_4 0 _ rfl
      have cb_4_1 := cell7 Rb_4 1 _ rfl
      have cn_4_0 := cell7 Rn_4 0 _ rfl
      have cn_4_1 := cell7 Rn_4 1 _ rfl
      go_wp2_with fail
      refine (K9.out _).mono ?_
      rintro r w5 ⟨rfl, b5⟩
      have B5 : Below w.heap.size w w5 := btr7 B4 b5
      have Rb_5 : w5.heap[w.heap.size]? = some (Obj.cells #[.int .u64 (x : Nat), .int .u64 (y : Nat)] 25) := heap_of b5 _ _ _ Rb_4
      have Rn_5 : w5.heap[w2.heap.size]? = some (Obj.cells #[.int .u64 (i : Nat), .int .u64 (j : Nat)] 25) := heap_of b5 _ _ _ Rn_4
      clear b5 B4 Rb_4 cb_4_0 cb_4_1 Rn_4 cn_4_0 cn_4_1
      have cb_5_0 := cell7 Rb_5 0 _ rfl
      have cb_5_1 := cell7 Rb_5 1 _ rfl
      have cn_5_0 := cell7 Rn_5 0 _ rfl
      have cn_5_1 := cell7 Rn_5 1 _ rfl
      have S6 := box B5.size
      have Lb_6 : Box (w.heap.size < w5.heap.size) := box (Array.getElem?_eq_some_iff.1 Rb_5).1
      have Ln_6 : Box (w2.heap.size < w5.heap.size) := box (Array.getElem?_eq_some_iff.1 Rn_5).1
      have B6 : Below w.heap.size w (w5.alloc (Obj.cells #[.int .u64 (i : Nat), .int .u64 (j : Nat)] 25)) := btr7 B5 (bal7 _ _)
      have Rb_6 : (w5.alloc (Obj.cells #[.int .u64 (i : Nat), .int .u64 (j : Nat)] 25)).heap[w.heap.size]? = some (Obj.cells #[.int .u64 (x : Nat), .int .u64 (y : Nat)] 25) := heap_of (bal7 _ _) _ _ _ Rb_5
      have Rn_6 : (w5.alloc (Obj.cells #[.int .u64 (i : Nat), .int .u64 (j : Nat)] 25)).heap[w2.heap.size]? = some (Obj.cells #[.int .u64 (i : Nat), .int .u64 (j : Nat)] 25) := heap_of (bal7 _ _) _ _ _ Rn_5
      have Rm_6 : (w5.alloc (Obj.cells #[.int .u64 (i : Nat), .int .u64 (j : Nat)] 25)).heap[w5.heap.size]? = some (Obj.cells #[.int .u64 (i : Nat), .int .u64 (j : Nat)] 25) := heap_alloc_last _ _
      clear B5 Rb_5 cb_5_0 cb_5_1 Rn_5 cn_5_0 cn_5_1
      have cb_6_0 := cell7 Rb_6 0 _ rfl
      have cb_6_1 := cell7 Rb_6 1 _ rfl
      have cn_6_0 := cell7 Rn_6 0 _ rfl
      have cn_6_1 := cell7 Rn_6 1 _ rfl
      have cm_6_0 := cell7 Rm_6 0 _ rfl
      have cm_6_1 := cell7 Rm_6 1 _ rfl
      go_wp2_with fail
      refine (KA.out _ (fatB TT.out B6)).mono ?_
      rintro r w7 ⟨rfl, b7⟩
      have B7 : Below w.heap.size w w7 := btr7 B6 b7
      have Rb_7 : w7.heap[w.heap.size]? = some (Obj.cells #[.int .u64 (x : Nat), .int .u64 (y : Nat)] 25) := heap_of b7 _ _ _ Rb_6
      have Rn_7 : w7.heap[w2.heap.size]? = some (Obj.cells #[.int .u64 (i : Nat), .int .u64 (j : Nat)] 25) := heap_of b7 _ _ _ Rn_6
      have Rm_7 : w7.heap[w5.heap.size]? = some (Obj.cells #[.int .u64 (i : Nat), .int .u64 (j : Nat)] 25) := heap_of b7 _ _ _ Rm_6
      clear b7 B6 Rb_6 cb_6_0 cb_6_1 Rn_6 cn_6_0 cn_6_1 Rm_6 cm_6_0 cm_6_1
      have cb_7_0 := cell7 Rb_7 0 _ rfl
      have cb_7_1 := cell7 Rb_7 1 _ rfl
      have cn_7_0 := cell7 Rn_7 0 _ rfl
      have cn_7_1 := cell7 Rn_7 1 _ rfl
      have cm_7_0 := cell7 Rm_7 0 _ rfl
      have cm_7_1 := cell7 Rm_7 1 _ rfl
      go_wp2
      go_ret
      exact ⟨rfl, B7⟩
    · have Rb_0 : (w.alloc (Obj.cells #[.int .u64 (x : Nat), .int .u64 (y : Nat)] 25)).heap[w.heap.size]? = some (Obj.cells #[.int .u64 (x : Nat), .int .u64 (y : Nat)] 25) := by have := heap_alloc_last w (Obj.cells #[.int .u64 (x : Nat), .int .u64 (y : Nat)] 25); simpa only [size_al] using this
      have B0 : Below w.heap.size w (w.alloc (Obj.cells #[.int .u64 (x : Nat), .int .u64 (y : Nat)] 25)) := ((Below.refl _ _).alloc (by first | omega | (simp only [size_al]; omega)) _)
      go_enter Tryd.func4, Tryd.ntmps4
      go_wp2_with fail
      obtain ⟨F, hF1, hF2⟩ := below_fun (w.alloc (Obj.cells #[.int .u64 (x : Nat), .int .u64 (y : Nat)] 25))
      have fb_0 := fun u => cell7 (heap_of (hF1 u) _ _ _ Rb_0) 0 _ rfl
      have fb_1 := fun u => cell7 (heap_of (hF1 u) _ _ _ Rb_0) 1 _ rfl
      have TF : Box (∀ u, FAt (F u)) := box (fun u => fatB TT.out (btr7 B0 (hF1 u)))
      refine wp_region_below F hF2 (by kernel_rfl) (by kernel_rfl) ?_
      repeat first | go_big_quiet_step (first | (go_at_call 14; exact quietF hF1 hF2 (K1.out _ (TF.out _))) | (go_at_call 15; exact quietF hF1 hF2 (K2.out _)) | (go_at_call 16; exact quietF hF1 hF2 (K3.out _ (TF.out _))) | (go_at_call 17; exact quietF hF1 hF2 (K4.out _)) | (go_at_call 18; exact quietF hF1 hF2 (K5.out _ (TF.out _))) | (go_at_call 19; exact quietF hF1 hF2 (K6.out _)) | fail) | quiet_step (first | (go_at_call 14; exact quietF hF1 hF2 (K1.out _ (TF.out _))) | (go_at_call 15; exact quietF hF1 hF2 (K2.out _)) | (go_at_call 16; exact quietF hF1 hF2 (K3.out _ (TF.out _))) | (go_at_call 17; exact quietF hF1 hF2 (K4.out _)) | (go_at_call 18; exact quietF hF1 hF2 (K5.out _ (TF.out _))) | (go_at_call 19; exact quietF hF1 hF2 (K6.out _)) | fail)
      refine wpQuiet_nil ?_
      rintro _ ⟨uW, rfl⟩
      have B1 := btr7 B0 (hF1 uW)
      have Rb_1 := heap_of (hF1 uW) _ _ _ Rb_0
      obtain ⟨w1, hw⟩ : ∃ V, F uW = V := ⟨_, rfl⟩
      rw [hw] at B1 Rb_1
      try rw [hw]
      clear hw hF1 hF2 B0 fb_0 fb_1 Rb_0
      clear TF
      clear F
      have cb_1_0 := cell7 Rb_1 0 _ rfl
      have cb_1_1 := cell7 Rb_1 1 _ rfl
      go_wp2_with fail
      refine (K7.out _ (fatB TT.out B1)).mono ?_
      rintro r w2 ⟨rfl, b2⟩
      have B2 : Below w.heap.size w w2 := btr7 B1 b2
      have Rb_2 : w2.heap[w.heap.size]? = some (Obj.cells #[.int .u64 (x : Nat), .int .u64 (y : Nat)] 25) := heap_of b2 _ _ _ Rb_1
      clear b2 B1 Rb_1 cb_1_0 cb_1_1
      have cb_2_0 := cell7 Rb_2 0 _ rfl
      have cb_2_1 := cell7 Rb_2 1 _ rfl
      have S3 := box B2.size
      have Lb_3 : Box (w.heap.size < w2.heap.size) := box (Array.getElem?_eq_some_iff.1 Rb_2).1
      have B3 : Below w.heap.size w (w2.alloc (Obj.cells #[.int .u64 (i : Nat), .int .u64 (j : Nat)] 25)) := btr7 B2 (bal7 _ _)
      have Rb_3 : (w2.alloc (Obj.cells #[.int .u64 (i : Nat), .int .u64 (j : Nat)] 25)).heap[w.heap.size]? = some (Obj.cells #[.int .u64 (x : Nat), .int .u64 (y : Nat)] 25) := heap_of (bal7 _ _) _ _ _ Rb_2
      have Rn_3 : (w2.alloc (Obj.cells #[.int .u64 (i : Nat), .int .u64 (j : Nat)] 25)).heap[w2.heap.size]? = some (Obj.cells #[.int .u64 (i : Nat), .int .u64 (j : Nat)] 25) := heap_alloc_last _ _
      clear B2 Rb_2 cb_2_0 cb_2_1
      have cb_3_0 := cell7 Rb_3 0 _ rfl
      have cb_3_1 := cell7 Rb_3 1 _ rfl
      have cn_3_0 := cell7 Rn_3 0 _ rfl
      have cn_3_1 := cell7 Rn_3 1 _ rfl
      go_wp2_with fail
      refine (K8.out _).mono ?_
      rintro r w4 ⟨rfl, b4⟩
      have B4 : Below w.heap.size w w4 := btr7 B3 b4
      have Rb_4 : w4.heap[w.heap.size]? = some (Obj.cells #[.int .u64 (x : Nat), .int .u64 (y : Nat)] 25) := heap_of b4 _ _ _ Rb_3
      have Rn_4 : w4.heap[w2.heap.size]? = some (Obj.cells #[.int .u64 (i : Nat), .int .u64 (j : Nat)] 25) := heap_of b4 _ _ _ Rn_3
      clear b4 B3 Rb_3 cb_3_0 cb_3_1 Rn_3 cn_3_0 cn_3_1
      have cb_4_0 := cell7 Rb_4 0 _ rfl
      have cb_4_1 := cell7 Rb_4 1 _ rfl
      have cn_4_0 := cell7 Rn_4 0 _ rfl
      have cn_4_1 := cell7 Rn_4 1 _ rfl
      go_wp2_with fail
      refine (K9.out _).mono ?_
      rintro r w5 ⟨rfl, b5⟩
      have B5 : Below w.heap.size w w5 := btr7 B4 b5
      have Rb_5 : w5.heap[w.heap.size]? = some (Obj.cells #[.int .u64 (x : Nat), .int .u64 (y : Nat)] 25) := heap_of b5 _ _ _ Rb_4
      have Rn_5 : w5.heap[w2.heap.size]? = some (Obj.cells #[.int .u64 (i : Nat), .int .u64 (j : Nat)] 25) := heap_of b5 _ _ _ Rn_4
      clear b5 B4 Rb_4 cb_4_0 cb_4_1 Rn_4 cn_4_0 cn_4_1
      have cb_5_0 := cell7 Rb_5 0 _ rfl
      have cb_5_1 := cell7 Rb_5 1 _ rfl
      have cn_5_0 := cell7 Rn_5 0 _ rfl
      have cn_5_1 := cell7 Rn_5 1 _ rfl
      have S6 := box B5.size
      have Lb_6 : Box (w.heap.size < w5.heap.size) := box (Array.getElem?_eq_some_iff.1 Rb_5).1
      have Ln_6 : Box (w2.heap.size < w5.heap.size) := box (Array.getElem?_eq_some_iff.1 Rn_5).1
      have B6 : Below w.heap.size w (w5.alloc (Obj.cells #[.int .u64 (i : Nat), .int .u64 (j : Nat)] 25)) := btr7 B5 (bal7 _ _)
      have Rb_6 : (w5.alloc (Obj.cells #[.int .u64 (i : Nat), .int .u64 (j : Nat)] 25)).heap[w.heap.size]? = some (Obj.cells #[.int .u64 (x : Nat), .int .u64 (y : Nat)] 25) := heap_of (bal7 _ _) _ _ _ Rb_5
      have Rn_6 : (w5.alloc (Obj.cells #[.int .u64 (i : Nat), .int .u64 (j : Nat)] 25)).heap[w2.heap.size]? = some (Obj.cells #[.int .u64 (i : Nat), .int .u64 (j : Nat)] 25) := heap_of (bal7 _ _) _ _ _ Rn_5
      have Rm_6 : (w5.alloc (Obj.cells #[.int .u64 (i : Nat), .int .u64 (j : Nat)] 25)).heap[w5.heap.size]? = some (Obj.cells #[.int .u64 (i : Nat), .int .u64 (j : Nat)] 25) := heap_alloc_last _ _
      clear B5 Rb_5 cb_5_0 cb_5_1 Rn_5 cn_5_0 cn_5_1
      have cb_6_0 := cell7 Rb_6 0 _ rfl
      have cb_6_1 := cell7 Rb_6 1 _ rfl
      have cn_6_0 := cell7 Rn_6 0 _ rfl
      have cn_6_1 := cell7 Rn_6 1 _ rfl
      have cm_6_0 := cell7 Rm_6 0 _ rfl
      have cm_6_1 := cell7 Rm_6 1 _ rfl
      go_wp2_with fail
      refine (KA.out _ (fatB TT.out B6)).mono ?_
      rintro r w7 ⟨rfl, b7⟩
      have B7 : Below w.heap.size w w7 := btr7 B6 b7
      have Rb_7 : w7.heap[w.heap.size]? = some (Obj.cells #[.int .u64 (x : Nat), .int .u64 (y : Nat)] 25) := heap_of b7 _ _ _ Rb_6
      have Rn_7 : w7.heap[w2.heap.size]? = some (Obj.cells #[.int .u64 (i : Nat), .int .u64 (j : Nat)] 25) := heap_of b7 _ _ _ Rn_6
      have Rm_7 : w7.heap[w5.heap.size]? = some (Obj.cells #[.int .u64 (i : Nat), .int .u64 (j : Nat)] 25) := heap_of b7 _ _ _ Rm_6
      clear b7 B6 Rb_6 cb_6_0 cb_6_1 Rn_6 cn_6_0 cn_6_1 Rm_6 cm_6_0 cm_6_1
      have cb_7_0 := cell7 Rb_7 0 _ rfl
      have cb_7_1 := cell7 Rb_7 1 _ rfl
      have cn_7_0 := cell7 Rn_7 0 _ rfl
      have cn_7_1 := cell7 Rn_7 1 _ rfl
      have cm_7_0 := cell7 Rm_7 0 _ rfl
      have cm_7_1 := cell7 Rm_7 1 _ rfl
      go_wp2
      go_ret
      exact ⟨rfl, B7⟩
set_option maxRecDepth 100000 in
theorem lifted (os : Os) (started : os.Started) (H : Type) (enc : TypeId × Value → H) :
    ReturnsInHanded {} Tryd.checked os 4 .any (fun w args => (Rows.kindSignsSpec.pre enc Tryd.prog Tryd.f4 [] false w args ∧ laidMetH Tryd.prog laid7 w) ∧ sizedMet enc Tryd.prog Tryd.f4 (OpenSpec.ofChange Rows.kindSignsSpec) false w args)
      (Rows.kindSignsSpec.post enc Tryd.prog Tryd.f4 false true false false) := by
  refine returnsInHanded_of_change_and (C := Tryd.checked) (X := fun w _ => laidMetH Tryd.prog laid7 w) (fun _ _ _ hh h => h.of_heap hh) own started (by kernel_rfl) Tryd.func4
    (ChangeSpec.witness_shaped (enc := enc) (C := Tryd.checked) (os := os) (X := fun w _ => laidMetH Tryd.prog laid7 w) false (World.doorLaid Tryd.prog 400 os) #[.int .u8 0, .agg #[.int .u64 0, .int .u64 0]] 8 rfl (World.shaped_of_RefB (by kernel_rfl) (by kernel_rfl)) (by kernel_rfl) (by kernel_rfl) (by kernel_rfl) (door_met7 os _)) ?_
  intro W base args ds gs before hval0 hW _ _ hL _
  have hval : ∀ (j : Nat) t v, Tryd.f4.params[j]? = some t → args[j]? = some v → Value.okWide Tryd.prog W .any base t v := hval0
  have hW' := hW
  obtain ⟨p, q, hA0, hV, rfl, hfz, hnd⟩ := hW
  have hA : DataW.TrodAll enc Tryd.prog W 0 (fun _ => true) true Tryd.f4.params.toList args.toList ds p := hA0
  rw [Tryd.params4] at hA hval
  obtain ⟨v0, vs0, d0, ds0, p0, q0, hargs, rfl, rfl, k0, r0⟩ := trodAll_cons hA
  obtain ⟨v1, vs1, d1, ds1, p1, q1, rfl, rfl, rfl, k1, r1⟩ := trodAll_cons r0
  obtain ⟨rfl, rfl, rfl⟩ := trodAll_nil r1
  obtain rfl : args = #[v0, v1] := by cases args; simp_all
  obtain ⟨rfl, rfl⟩ := trodVars_none hV
  obtain ⟨a0, rfl, rfl, rfl, h0⟩ := open_int Tryd.underlying22 (hval 0 22 v0 rfl rfl) k0
  obtain ⟨a1, h1, rfl, rfl, rfl⟩ := open_bits (hval 1 25 v1 rfl rfl) k1
  clear hA0 hval0
  simp only [List.append_nil] at hW'
  refine (walk a0 a1 h0 h1 W (of_laid7 hL)).mono fun e W' ⟨he, hg⟩ => ?_
  subst he
  exact ⟨_, rfl, post_plain hW' (fun _ _ _ => trodAll_mk1 (shut_bool Tryd.underlying4 _)) (fun sp => (trodAll_cons_mk (shut_int Tryd.underlying22 h0) (trodAll_cons_mk (shut_bits a1 h1) trodAll_mk0))) (fun _ => rfl) hg (ok_one (by kernel_rfl) rfl (okWide_bool_mk Tryd.underlying4 _))⟩

theorem over : Rows.KindSignsSaid :=
  OpenClaim.holds_of_wide 4 Tryd.f4 rfl rfl rfl rfl rfl rfl rfl ⟨rfl, rfl, rfl, rfl, rfl⟩ rfl rfl rfl rfl rfl (by kernel_rfl) Tryd.func4 (by kernel_rfl)
    (of_decide_eq_true (by kernel_rfl)) (by unfold Func.isWrapper; first | (rw [if_pos (by decide +kernel)]; kernel_rfl) | (rw [if_neg (by decide +kernel)]; exact ⟨rfl, rfl⟩))
    (fun os started H enc _ => lifted os started H enc)

theorem proved : Rows.KindSignsCardSaid :=
  Claim7.holds_tied_plain_at .later [] [.data] true (true, "4e6a352ed2de10235c42a902c872049ec0469baeafd43dcfeee6e9257fa62303") false
    over (fun _ h => by cases h) (by kernel_rfl) (fun _ h => by cases h) kindSigns_row_tie rfl ⟨rfl, rfl⟩ (by kernel_rfl) rfl
    (fun f fn hf hfn => by
      obtain rfl : f = 4 := Option.some.inj ((show Tryd.prog.funcNamed "abacus/abacuslaw08.KindSigns" = some 4 by kernel_rfl).symm.trans hf) |>.symm
      obtain rfl : fn = Tryd.f4 := (Option.some.inj (Tryd.func4.symm.trans hfn)).symm
      exact ⟨by kernel_rfl, fun j t ht => by
        rw [Tryd.params4] at ht
        have h3 : t = 22 ∨ t = 25 := by
          rcases j with _ | _ | j
          · exact (Or.inl (by simpa using ht.symm))
          · exact (Or.inr (by simpa using ht.symm))
          · simp at ht
        rcases h3 with rfl | rfl
        · exact (show Tryd.prog.wantsStandIn 22 = false by kernel_rfl)
        · exact (show Tryd.prog.wantsStandIn 25 = false by kernel_rfl)⟩)
    (by kernel_rfl)
#print axioms proved
end Go.Proofs.YtbjknklgkhhebaaDoor.kindSigns
