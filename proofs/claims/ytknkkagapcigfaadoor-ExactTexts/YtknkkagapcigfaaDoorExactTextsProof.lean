/-
  ExactTexts returns true for every exact number, whether it may be or not: its text is the document's.
-/
import Derived.Test.YtknkkagapcigfaaDoorRows
import Derived.Test.YtknkkagapcigfaaDoorTie
import Derived.Test.YtknkkagapcigfaaDoorCards
import Derived.WalkKit
import Derived.ProofKit
import Derived.OpenShut
import Derived.LaidMore
import Derived.Stop.Joined
import Derived.Lib.LaidTab
import Derived.SevenTiedAt
import Derived.Stop.LaidErr
import Derived.Test.YtknkkagapcigfaaDoorFrame6
import Derived.Test.YtknkkagapcigfaaDoorXL
import Derived.Test.YtknkkagapcigfaaDoorFrameX
import Derived.Test.YtknkkagapcigfaaDoorT3
namespace Go.Proofs.YtknkkagapcigfaaDoor.exactTexts
open WMath XMath
open Go.ChangeShapes Go.WideShapes Go.ChangeAt Go.RowKit
set_option linter.unusedVariables false

theorem own : ownKnob Tryd.prog.godebug = none := by kernel_rfl

set_option maxRecDepth 100000 in
set_option maxHeartbeats 4000000 in
theorem walk (b0 : Bool) (s0 t0 : ByteArray) (e0 : Int) (h0 : s0.size ≤ maxLen ∧ t0.size ≤ maxLen ∧ (Lit.int .i64 e0).wf = true) (w : World) (hT : TabAt w ∧ P10 w) :
    Calls Tryd.prog 3 #[.agg #[.bool b0, .string s0, .string t0, .int .i64 e0]] w fun e w' => e = .returned (.bool true) ∧ Below w.heap.size w w' := by
  have TT := box hT.1
  have PP := box hT.2
  clear hT
  obtain ⟨o, ho⟩ : ∃ o, (decide (s0.size ≤ 80) && decide (t0.size ≤ 80)) = o := ⟨_, rfl⟩
  have HO := box ho
  clear ho h0
  cases o
  · have Rx_0 : (w.alloc (Obj.cells #[.bool b0, .string s0, .string t0, .int .i64 e0] 24)).heap[w.heap.size]? = some (Obj.cells #[.bool b0, .string s0, .string t0, .int .i64 e0] 24) := by have := heap_alloc_last w (Obj.cells #[.bool b0, .string s0, .string t0, .int .i64 e0] 24); simpa only [size_al] using this
    have B0 : Below w.heap.size w (w.alloc (Obj.cells #[.bool b0, .string s0, .string t0, .int .i64 e0] 24)) := ((Below.refl _ _).alloc (by first | omega | (simp only [size_al]; omega)) _)
    go_enter Tryd.func3, Tryd.ntmps3
    go_wp2_with fail
    refine (xshort b0 s0 t0 e0 80 80 false rfl HO.out _).mono ?_
    rintro r w1 ⟨rfl, b1⟩
    have B1 : Below w.heap.size w w1 := btr B0 b1
    have Rx_1 : w1.heap[w.heap.size]? = some (Obj.cells #[.bool b0, .string s0, .string t0, .int .i64 e0] 24) := heap_of b1 _ _ _ Rx_0
    clear b1 B0 Rx_0
    have cx_1_0 := cells4 Rx_1 0 _ rfl
    have cx_1_1 := cells4 Rx_1 1 _ rfl
    have cx_1_2 := cells4 Rx_1 2 _ rfl
    have cx_1_3 := cells4 Rx_1 3 _ rfl
    go_wp2_with fail
    refine (xalive _ (tabB TT.out B1)).mono ?_
    rintro r w2 ⟨rfl, b2⟩
    have B2 : Below w.heap.size w w2 := btr B1 b2
    have Rx_2 : w2.heap[w.heap.size]? = some (Obj.cells #[.bool b0, .string s0, .string t0, .int .i64 e0] 24) := heap_of b2 _ _ _ Rx_1
    clear b2 B1 Rx_1 cx_1_0 cx_1_1 cx_1_2 cx_1_3
    have cx_2_0 := cells4 Rx_2 0 _ rfl
    have cx_2_1 := cells4 Rx_2 1 _ rfl
    have cx_2_2 := cells4 Rx_2 2 _ rfl
    have cx_2_3 := cells4 Rx_2 3 _ rfl
    go_wp2
    go_ret
    exact ⟨rfl, B2⟩
  by_cases hm : MayX b0 s0 t0 e0
  · have M1 : Box (IsM true b0 s0 t0 e0) := box ⟨fun _ => hm, fun _ => rfl⟩
    obtain ⟨n, d, hs, ht, hc⟩ := hm
    obtain ⟨a, ha⟩ : ∃ a : ByteArray, (if b0 then ⟨#[45]⟩ else ⟨#[]⟩) = a := ⟨_, rfl⟩
    obtain ⟨p, hp⟩ : ∃ p : ByteArray, (⟨(tx n).toArray⟩ : ByteArray) = p := ⟨_, rfl⟩
    obtain ⟨q, hq⟩ : ∃ p : ByteArray, (⟨(tx d).toArray⟩ : ByteArray) = p := ⟨_, rfl⟩
    obtain ⟨r, hr⟩ : ∃ p : ByteArray, (⟨(Lib.itoa e0).toArray⟩ : ByteArray) = p := ⟨_, rfl⟩
    have la : a.size ≤ 1 := by rw [← ha]; cases b0 <;> decide
    have lp : p.size ≤ 40000 := by rw [← hp]; exact Nat.le_trans (txl n hc.1) (by decide)
    have lq : q.size ≤ 40000 := by rw [← hq]; exact Nat.le_trans (txl d hc.2.1) (by decide)
    have lr : r.size ≤ 40000 := by rw [← hr]; exact itoa_len e0 hc.2.2.1 hc.2.2.2.1
    obtain ⟨v1, v2, v3, v4, v, hv⟩ := cats a p q r la lp lq lr
    have K1 := box (Textx_ok b0 n d e0 s0 t0 a p q r v1 v2 v3 v4 v hs ht hc ha hp hq hr hv)
    have K2 := box (rtext_ok b0 n d e0 s0 t0 a p q r v1 v2 v3 v4 v hs ht hc ha hp hq hr hv)
    clear hs ht hc ha hp hq hr hv la lp lq lr
    have Rx_0 : (w.alloc (Obj.cells #[.bool b0, .string s0, .string t0, .int .i64 e0] 24)).heap[w.heap.size]? = some (Obj.cells #[.bool b0, .string s0, .string t0, .int .i64 e0] 24) := by have := heap_alloc_last w (Obj.cells #[.bool b0, .string s0, .string t0, .int .i64 e0] 24); simpa only [size_al] using this
    have B0 : Below w.heap.size w (w.alloc (Obj.cells #[.bool b0, .string s0, .string t0, .int .i64 e0] 24)) := ((Below.refl _ _).alloc (by first | omega | (simp only [size_al]; omega)) _)
    go_enter Tryd.func3, Tryd.ntmps3
    go_wp2_with fail
    refine (xshort b0 s0 t0 e0 80 80 true rfl HO.out _).mono ?_
    rintro r w1 ⟨rfl, b1⟩
    have B1 : Below w.heap.size w w1 := btr B0 b1
    have Rx_1 : w1.heap[w.heap.size]? = some (Obj.cells #[.bool b0, .string s0, .string t0, .int .i64 e0] 24) := heap_of b1 _ _ _ Rx_0
    clear b1 B0 Rx_0
    have cx_1_0 := cells4 Rx_1 0 _ rfl
    have cx_1_1 := cells4 Rx_1 1 _ rfl
    have cx_1_2 := cells4 Rx_1 2 _ rfl
    have cx_1_3 := cells4 Rx_1 3 _ rfl
    go_wp2_with fail
    refine (K1.out _ (tabB TT.out B1) (p10B PP.out B1)).mono ?_
    rintro r w2 ⟨rfl, b2⟩
    have B2 : Below w.heap.size w w2 := btr B1 b2
    have Rx_2 : w2.heap[w.heap.size]? = some (Obj.cells #[.bool b0, .string s0, .string t0, .int .i64 e0] 24) := heap_of b2 _ _ _ Rx_1
    clear b2 B1 Rx_1 cx_1_0 cx_1_1 cx_1_2 cx_1_3
    have cx_2_0 := cells4 Rx_2 0 _ rfl
    have cx_2_1 := cells4 Rx_2 1 _ rfl
    have cx_2_2 := cells4 Rx_2 2 _ rfl
    have cx_2_3 := cells4 Rx_2 3 _ rfl
    go_wp2_with fail
    refine (xmayM b0 s0 t0 e0 true M1.out _).mono ?_
    rintro r w3 ⟨rfl, b3⟩
    have B3 : Below w.heap.size w w3 := btr B2 b3
    have Rx_3 : w3.heap[w.heap.size]? = some (Obj.cells #[.bool b0, .string s0, .string t0, .int .i64 e0] 24) := heap_of b3 _ _ _ Rx_2
    clear b3 B2 Rx_2 cx_2_0 cx_2_1 cx_2_2 cx_2_3
    have cx_3_0 := cells4 Rx_3 0 _ rfl
    have cx_3_1 := cells4 Rx_3 1 _ rfl
    have cx_3_2 := cells4 Rx_3 2 _ rfl
    have cx_3_3 := cells4 Rx_3 3 _ rfl
    go_wp2_with fail
    refine (K2.out _).mono ?_
    rintro r w4 ⟨rfl, b4⟩
    have B4 : Below w.heap.size w w4 := btr B3 b4
    have Rx_4 : w4.heap[w.heap.size]? = some (Obj.cells #[.bool b0, .string s0, .string t0, .int .i64 e0] 24) := heap_of b4 _ _ _ Rx_3
    clear b4 B3 Rx_3 cx_3_0 cx_3_1 cx_3_2 cx_3_3
    have cx_4_0 := cells4 Rx_4 0 _ rfl
    have cx_4_1 := cells4 Rx_4 1 _ rfl
    have cx_4_2 := cells4 Rx_4 2 _ rfl
    have cx_4_3 := cells4 Rx_4 3 _ rfl
    go_wp2_with fail
    refine (xalive _ (tabB TT.out B4)).mono ?_
    rintro r w5 ⟨rfl, b5⟩
    have B5 : Below w.heap.size w w5 := btr B4 b5
    have Rx_5 : w5.heap[w.heap.size]? = some (Obj.cells #[.bool b0, .string s0, .string t0, .int .i64 e0] 24) := heap_of b5 _ _ _ Rx_4
    clear b5 B4 Rx_4 cx_4_0 cx_4_1 cx_4_2 cx_4_3
    have cx_5_0 := cells4 Rx_5 0 _ rfl
    have cx_5_1 := cells4 Rx_5 1 _ rfl
    have cx_5_2 := cells4 Rx_5 2 _ rfl
    have cx_5_3 := cells4 Rx_5 3 _ rfl
    go_wp2
    go_ret
    exact ⟨rfl, B5⟩
  · have M1 : Box (IsM false b0 s0 t0 e0) := box (may_no hm)
    have K1 := box (Textx_no b0 e0 s0 t0 hm)
    clear hm
    have Rx_0 : (w.alloc (Obj.cells #[.bool b0, .string s0, .string t0, .int .i64 e0] 24)).heap[w.heap.size]? = some (Obj.cells #[.bool b0, .string s0, .string t0, .int .i64 e0] 24) := by have := heap_alloc_last w (Obj.cells #[.bool b0, .string s0, .string t0, .int .i64 e0] 24); simpa only [size_al] using this
    have B0 : Below w.heap.size w (w.alloc (Obj.cells #[.bool b0, .string s0, .string t0, .int .i64 e0] 24)) := ((Below.refl _ _).alloc (by first | omega | (simp only [size_al]; omega)) _)
    go_enter Tryd.func3, Tryd.ntmps3
    go_wp2_with fail
    refine (xshort b0 s0 t0 e0 80 80 true rfl HO.out _).mono ?_
    rintro r w1 ⟨rfl, b1⟩
    have B1 : Below w.heap.size w w1 := btr B0 b1
    have Rx_1 : w1.heap[w.heap.size]? = some (Obj.cells #[.bool b0, .string s0, .string t0, .int .i64 e0] 24) := heap_of b1 _ _ _ Rx_0
    clear b1 B0 Rx_0
    have cx_1_0 := cells4 Rx_1 0 _ rfl
    have cx_1_1 := cells4 Rx_1 1 _ rfl
    have cx_1_2 := cells4 Rx_1 2 _ rfl
    have cx_1_3 := cells4 Rx_1 3 _ rfl
    go_wp2_with fail
    refine (K1.out _ (tabB TT.out B1)).mono ?_
    rintro r w2 ⟨rfl, b2⟩
    have B2 : Below w.heap.size w w2 := btr B1 b2
    have Rx_2 : w2.heap[w.heap.size]? = some (Obj.cells #[.bool b0, .string s0, .string t0, .int .i64 e0] 24) := heap_of b2 _ _ _ Rx_1
    clear b2 B1 Rx_1 cx_1_0 cx_1_1 cx_1_2 cx_1_3
    have cx_2_0 := cells4 Rx_2 0 _ rfl
    have cx_2_1 := cells4 Rx_2 1 _ rfl
    have cx_2_2 := cells4 Rx_2 2 _ rfl
    have cx_2_3 := cells4 Rx_2 3 _ rfl
    go_wp2_with fail
    refine (xmayM b0 s0 t0 e0 false M1.out _).mono ?_
    rintro r w3 ⟨rfl, b3⟩
    have B3 : Below w.heap.size w w3 := btr B2 b3
    have Rx_3 : w3.heap[w.heap.size]? = some (Obj.cells #[.bool b0, .string s0, .string t0, .int .i64 e0] 24) := heap_of b3 _ _ _ Rx_2
    clear b3 B2 Rx_2 cx_2_0 cx_2_1 cx_2_2 cx_2_3
    have cx_3_0 := cells4 Rx_3 0 _ rfl
    have cx_3_1 := cells4 Rx_3 1 _ rfl
    have cx_3_2 := cells4 Rx_3 2 _ rfl
    have cx_3_3 := cells4 Rx_3 3 _ rfl
    go_wp2_with fail
    refine (xalive _ (tabB TT.out B3)).mono ?_
    rintro r w4 ⟨rfl, b4⟩
    have B4 : Below w.heap.size w w4 := btr B3 b4
    have Rx_4 : w4.heap[w.heap.size]? = some (Obj.cells #[.bool b0, .string s0, .string t0, .int .i64 e0] 24) := heap_of b4 _ _ _ Rx_3
    clear b4 B3 Rx_3 cx_3_0 cx_3_1 cx_3_2 cx_3_3
    have cx_4_0 := cells4 Rx_4 0 _ rfl
    have cx_4_1 := cells4 Rx_4 1 _ rfl
    have cx_4_2 := cells4 Rx_4 2 _ rfl
    have cx_4_3 := cells4 Rx_4 3 _ rfl
    go_wp2
    go_ret
    exact ⟨rfl, B4⟩

def tabZ : List Int := [0, 1, 56, 2, 57, 49, 28, 3, 61, 58, 42, 50, 38, 29, 17, 4, 62, 47, 59, 36, 45, 43, 51, 22, 53, 39, 33, 30, 24, 18, 12, 5, 63, 55, 48, 27, 60, 41, 37, 16, 46, 35, 44, 21, 52, 32, 23, 11, 54, 26, 40, 15, 34, 20, 31, 10, 25, 14, 19, 9, 13, 8, 7, 6]
def laid1 : List (String × DataW Unit) := [("math/bits.deBruijn32tab", Rows.laid_math_bits_deBruijn32tab), ("math/bits.deBruijn64tab", Rows.laid_math_bits_deBruijn64tab), ("internal/strconv.uint64pow10", Rows.laid_internal_strconv_uint64pow10)]
theorem gTab : Tryd.prog.globalNamed "math/bits.deBruijn64tab" = some 1 := by kernel_rfl
theorem gType : (Tryd.prog.globals[1]?).map (·.type) = some 93 := by kernel_rfl
theorem gType2 : (Tryd.prog.globals[0]?).map (·.type) = some 87 := by kernel_rfl
theorem cells5 : Tryd.prog.cellsOf 5 = 1 := by kernel_rfl
theorem cellsT : Tryd.prog.cellsOf 93 = 64 := by kernel_rfl
theorem cells6 : Tryd.prog.cellsOf 66 = 1 := by kernel_rfl
theorem cellsP : Tryd.prog.cellsOf 87 = 20 := by kernel_rfl
theorem tab_at : ∀ i : Fin 64, tabZ.getD i.val 0 = ((Lib.deBruijn64tab.getD i.val 0 : Nat) : Int) := by decide +kernel

theorem of_laid {W : World} (h : laidMetH Tryd.prog laid1 W) : TabAt W ∧ P10 W := by
  rw [MakeChecks.laidMetH_plain _ _ _ (by kernel_rfl)] at h
  have ht := laidMet.tail h
  have ht2 := laidMet.tail ht
  constructor
  · have h' : laidMet Tryd.prog (("math/bits.deBruijn64tab", Lib.tabData .u8 tabZ) :: [("internal/strconv.uint64pow10", Rows.laid_internal_strconv_uint64pow10)]) W := ht
    have hT := Lib.tabIs_of_head gTab gType Tryd.underlying93 Tryd.underlying5 cells5 cellsT h'
    intro i hi
    have hc := hT.cell gTab i (show i < tabZ.length from hi)
    rw [tab_at ⟨i, hi⟩] at hc
    exact hc
  · have h' : laidMet Tryd.prog (("internal/strconv.uint64pow10", Lib.tabData .u64 Lib.pow10Tab) :: []) W := ht2
    exact Lib.tabIs_of_head gP10 gType2 Tryd.underlying87 Tryd.underlying66 cells6 cellsP h'

theorem door_met (os : Os) (args : Array Value) : laidMetH Tryd.prog laid1 ((World.doorLaid Tryd.prog 400 os).forCall (fun _ _ => 0) ⟨#[], args, []⟩).memory :=
  laidMetH_of_parts3 (fuel := 8) (laidMet_of_run' 8 (by kernel_rfl) (by kernel_rfl)) (by kernel_rfl) (by kernel_rfl)

set_option maxRecDepth 100000 in
theorem lifted (os : Os) (started : os.Started) (H : Type) (enc : TypeId × Value → H) :
    ReturnsInHanded {} Tryd.checked os 3 .any (fun w args => (Rows.exactTextsSpec.pre enc Tryd.prog Tryd.f3 [] false w args ∧ laidMetH Tryd.prog laid1 w) ∧ sizedMet enc Tryd.prog Tryd.f3 (OpenSpec.ofChange Rows.exactTextsSpec) false w args)
      (Rows.exactTextsSpec.post enc Tryd.prog Tryd.f3 false true false false) := by
  refine returnsInHanded_of_change_and (C := Tryd.checked) (X := fun w _ => laidMetH Tryd.prog laid1 w) (fun _ _ _ hh h => h.of_heap hh) own started (by kernel_rfl) Tryd.func3
    (ChangeSpec.witness_shaped (enc := enc) (C := Tryd.checked) (os := os) (X := fun w _ => laidMetH Tryd.prog laid1 w) false (World.doorLaid Tryd.prog 400 os) #[.agg #[.bool false, .string ⟨#[]⟩, .string ⟨#[]⟩, .int .i64 0]] 8 rfl (World.shaped_of_RefB (by kernel_rfl) (by kernel_rfl)) (by kernel_rfl) (by kernel_rfl) (by kernel_rfl) (door_met os _)) ?_
  intro W base args ds gs before hval0 hW _ _ hL _
  have hval : ∀ (j : Nat) t v, Tryd.f3.params[j]? = some t → args[j]? = some v → Value.okWide Tryd.prog W .any base t v := hval0
  have hW' := hW
  obtain ⟨p, q, hA0, hV, rfl, hfz, hnd⟩ := hW
  have hA : DataW.TrodAll enc Tryd.prog W 0 (fun _ => true) true Tryd.f3.params.toList args.toList ds p := hA0
  rw [Tryd.params3] at hA hval
  obtain ⟨v0, vs0, d0, ds0, p0, q0, hargs, rfl, rfl, k0, r0⟩ := trodAll_cons hA
  obtain ⟨rfl, rfl, rfl⟩ := trodAll_nil r0
  obtain rfl : args = #[v0] := by cases args; simp_all
  obtain ⟨rfl, rfl⟩ := trodVars_none hV
  obtain ⟨b0, s0, t0, e0, rfl, rfl, rfl, h0⟩ := open_exact (hval 0 24 v0 rfl rfl) k0
  clear hA0 hval0
  simp only [List.append_nil] at hW'
  refine (walk b0 s0 t0 e0 h0 W (of_laid hL)).mono fun e W' ⟨he, hg⟩ => ?_
  subst he
  exact ⟨_, rfl, post_plain hW' (fun _ _ _ => trodAll_mk1 (shut_bool Tryd.underlying4 _)) (fun sp => (trodAll_cons_mk (shut_exact h0) trodAll_mk0)) (fun _ => rfl) hg (ok_one (by kernel_rfl) rfl (okWide_bool_mk Tryd.underlying4 _))⟩

theorem over : Rows.ExactTextsSaid :=
  OpenClaim.holds_of_wide 3 Tryd.f3 rfl rfl rfl rfl rfl rfl rfl ⟨rfl, rfl, rfl, rfl, rfl⟩ rfl rfl rfl rfl rfl (by kernel_rfl) Tryd.func3 (by kernel_rfl)
    (of_decide_eq_true (by kernel_rfl)) (by unfold Func.isWrapper; first | (rw [if_pos (by decide +kernel)]; kernel_rfl) | (rw [if_neg (by decide +kernel)]; exact ⟨rfl, rfl⟩))
    (fun os started H enc _ => lifted os started H enc)

theorem proved : Rows.ExactTextsCardSaid :=
  Claim7.holds_tied_plain_at .later [] [.data, .data, .data] true (true, "7c700e7483ccea9dba1d2cceb9ee8ccda84a2c86262965406694f2ec51459d92") false
    over (fun _ h => by cases h) (by kernel_rfl) (fun _ h => by cases h) exactTexts_row_tie rfl ⟨rfl, rfl⟩ (by kernel_rfl) rfl
    (fun f fn hf hfn => by
      obtain rfl : f = 3 := Option.some.inj ((show Tryd.prog.funcNamed "abacus/abacuslaw06.ExactTexts" = some 3 by kernel_rfl).symm.trans hf) |>.symm
      obtain rfl : fn = Tryd.f3 := (Option.some.inj (Tryd.func3.symm.trans hfn)).symm
      exact ⟨by kernel_rfl, fun j t ht => by
        rw [Tryd.params3] at ht
        have h3 : t = 24 := by
          rcases j with _ | j
          · exact (by simpa using ht.symm)
          · simp at ht
        rcases h3 with rfl
        · exact (show Tryd.prog.wantsStandIn 24 = false by kernel_rfl)⟩)
    (by kernel_rfl)
#print axioms proved
end Go.Proofs.YtknkkagapcigfaaDoor.exactTexts
