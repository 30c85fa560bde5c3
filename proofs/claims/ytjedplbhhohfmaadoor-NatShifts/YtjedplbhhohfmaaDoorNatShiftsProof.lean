/-
  NatShifts returns true for every string and every count: the shifts are the document's.
-/
import Derived.Test.YtjedplbhhohfmaaDoorRows
import Derived.Test.YtjedplbhhohfmaaDoorTie
import Derived.Test.YtjedplbhhohfmaaDoorCards
import Derived.WalkKit
import Derived.ProofKit
import Derived.OpenShut
import Derived.LaidMore
import Derived.Stop.Joined
import Derived.Lib.LaidTab
import Derived.SevenTiedAt
import Derived.Test.YtjedplbhhohfmaaDoorFrame6
import Derived.Test.YtjedplbhhohfmaaDoorNalive
import Derived.Test.YtjedplbhhohfmaaDoorDoor2
import Derived.ChangeMaps5
namespace Go.Proofs.YtjedplbhhohfmaaDoor.natShifts
open WMath
open Go.ChangeShapes Go.WideShapes Go.ChangeAt Go.RowKit
open Go.ChangeMaps (open_string shut_string)
set_option linter.unusedVariables false

theorem own : ownKnob Tryd.prog.godebug = none := by kernel_rfl

set_option maxRecDepth 100000 in
set_option maxHeartbeats 4000000 in
theorem walk (a0 : ByteArray) (a1 : Int) (h0 : a0.size ≤ maxLen) (h1 : (Lit.int .i64 a1).wf = true) (w : World) (hT : TabAt w) :
    Calls Tryd.prog 4 #[.string a0, .int .i64 a1] w fun e w' => e = .returned (.bool true) ∧ Below w.heap.size w w' := by
  have TT := box hT
  clear hT
  have hb := bounds_i64 h1
  have m0 : mayB ⟨#[]⟩ = true := by rw [← nbA_zero]; exact mayB_nb 0 (by rw [nl_zero]; omega)
  cases hm0 : mayB a0
  · have WR : Box ((!mayB a0 || !mayB ⟨#[]⟩) = true) := box (by rw [hm0]; rfl)
    have HM := box hm0
    have HM2 : Box (mayB a0 = false ∨ a1 < 0) := box (Or.inl hm0)
    clear hm0 m0
    go_enter Tryd.func4, Tryd.ntmps4
    have B0 : Below w.heap.size w w := (Below.refl _ _)
    go_wp2_with fail
    refine (pn_left_no a1 a0 HM.out _).mono ?_
    rintro e w1 ⟨rfl, hb1⟩
    have C1 : Below w.heap.size w w1 := B0.trans (hb1.mono B0.size)
    have y1 := C1.size
    clear hb1 B0 
    have B1 : Below w.heap.size w w1 := C1
    clear C1 
    clear y1
    go_wp2_with fail
    refine (pn_right_no a1 a0 HM2.out _).mono ?_
    rintro e w2 ⟨rfl, hb2⟩
    have C2 : Below w.heap.size w w2 := B1.trans (hb2.mono B1.size)
    have y2 := C2.size
    clear hb2 B1 
    have B2 : Below w.heap.size w w2 := C2
    clear C2 
    clear y2
    go_wp2_with fail
    refine (nat_wrong a0 ⟨#[]⟩ true WR.out _).mono ?_
    rintro e w3 ⟨rfl, hb3⟩
    have C3 : Below w.heap.size w w3 := B2.trans (hb3.mono B2.size)
    have y3 := C3.size
    clear hb3 B2 
    have B3 : Below w.heap.size w w3 := C3
    clear C3 
    clear y3
    go_wp2_with fail
    refine (nalive _).mono ?_
    rintro e wz ⟨rfl, hbz⟩
    go_wp2
    go_ret
    exact ⟨rfl, B3.trans (hbz.mono B3.size)⟩
  have WR : Box ((!mayB a0 || !mayB ⟨#[]⟩) = false) := box (by rw [hm0, m0]; rfl)
  obtain ⟨x, hx, lx⟩ := mayB_is a0 hm0
  obtain ⟨s, e, hr⟩ : ∃ s e, lf x a1 = (s, e) := ⟨_, _, rfl⟩
  have HX := box hx
  have LX := box lx
  have HR := box hr
  have B1 : Box (-9223372036854775808 ≤ a1) := box (by omega)
  have B2 : Box (a1 ≤ 9223372036854775807) := box (by omega)
  clear hm0 m0 hx lx hr
  by_cases hneg : a1 < 0
  · have HN := box hneg
    have HM2 : Box (mayB a0 = false ∨ a1 < 0) := box (Or.inr hneg)
    clear hneg hb
    go_enter Tryd.func4, Tryd.ntmps4
    have B0 : Below w.heap.size w w := (Below.refl _ _)
    go_wp2_with fail
    refine (pn_left_ok x a1 a0 s e HX.out LX.out B1.out B2.out HR.out _).mono ?_
    rintro e w1 ⟨rfl, hb1⟩
    have C1 : Below w.heap.size w w1 := B0.trans (hb1.mono B0.size)
    have y1 := C1.size
    clear hb1 B0 
    have B1 : Below w.heap.size w w1 := C1
    clear C1 
    clear y1
    go_wp2_with fail
    refine (pn_right_no a1 a0 HM2.out _).mono ?_
    rintro e w2 ⟨rfl, hb2⟩
    have C2 : Below w.heap.size w w2 := B1.trans (hb2.mono B1.size)
    have y2 := C2.size
    clear hb2 B1 
    have B2 : Below w.heap.size w w2 := C2
    clear C2 
    clear y2
    go_wp2_with fail
    refine (nat_wrong a0 ⟨#[]⟩ false WR.out _).mono ?_
    rintro e w3 ⟨rfl, hb3⟩
    have C3 : Below w.heap.size w w3 := B2.trans (hb3.mono B2.size)
    have y3 := C3.size
    clear hb3 B2 
    have B3 : Below w.heap.size w w3 := C3
    clear C3 
    clear y3
    go_wp2_with fail
    refine (nat_Left x a1 a0 s e HX.out LX.out B2.out HR.out _).mono ?_
    rintro e w4 ⟨rfl, hb4⟩
    have C4 : Below w.heap.size w w4 := B3.trans (hb4.mono B3.size)
    have y4 := C4.size
    clear hb4 B3 
    have B4 : Below w.heap.size w w4 := C4
    clear C4 
    clear y4
    go_wp2_with fail
    refine (nat_Right_neg a1 a0 HN.out _).mono ?_
    rintro e w5 ⟨rfl, hb5⟩
    have C5 : Below w.heap.size w w5 := B4.trans (hb5.mono B4.size)
    have y5 := C5.size
    clear hb5 B4 
    have B5 : Below w.heap.size w w5 := C5
    clear C5 
    clear y5
    go_wp2_with fail
    refine (nalive _).mono ?_
    rintro e wz ⟨rfl, hbz⟩
    go_wp2
    go_ret
    exact ⟨rfl, B5.trans (hbz.mono B5.size)⟩
  · obtain ⟨v, hv⟩ : ∃ v, nbA (x / 2 ^ a1.toNat) = v := ⟨_, rfl⟩
    obtain ⟨o, ho⟩ : ∃ o, decide (x % 2 ^ a1.toNat ≠ 0) = o := ⟨_, rfl⟩
    have HV := box hv
    have HO := box ho
    have HP : Box (0 ≤ a1) := box (by omega)
    clear hv ho hneg hb
    go_enter Tryd.func4, Tryd.ntmps4
    have B0 : Below w.heap.size w w := (Below.refl _ _)
    go_wp2_with fail
    refine (pn_left_ok x a1 a0 s e HX.out LX.out B1.out B2.out HR.out _).mono ?_
    rintro e w1 ⟨rfl, hb1⟩
    have C1 : Below w.heap.size w w1 := B0.trans (hb1.mono B0.size)
    have y1 := C1.size
    clear hb1 B0 
    have B1 : Below w.heap.size w w1 := C1
    clear C1 
    clear y1
    go_wp2_with fail
    refine (pn_right_ok x a1 a0 v o HX.out LX.out HP.out B2.out HV.out HO.out _ (tabB TT.out B1)).mono ?_
    rintro e w2 ⟨rfl, hb2⟩
    have C2 : Below w.heap.size w w2 := B1.trans (hb2.mono B1.size)
    have y2 := C2.size
    clear hb2 B1 
    have B2 : Below w.heap.size w w2 := C2
    clear C2 
    clear y2
    go_wp2_with fail
    refine (nat_wrong a0 ⟨#[]⟩ false WR.out _).mono ?_
    rintro e w3 ⟨rfl, hb3⟩
    have C3 : Below w.heap.size w w3 := B2.trans (hb3.mono B2.size)
    have y3 := C3.size
    clear hb3 B2 
    have B3 : Below w.heap.size w w3 := C3
    clear C3 
    clear y3
    go_wp2_with fail
    refine (nat_Left x a1 a0 s e HX.out LX.out B2.out HR.out _).mono ?_
    rintro e w4 ⟨rfl, hb4⟩
    have C4 : Below w.heap.size w w4 := B3.trans (hb4.mono B3.size)
    have y4 := C4.size
    clear hb4 B3 
    have B4 : Below w.heap.size w w4 := C4
    clear C4 
    clear y4
    go_wp2_with fail
    refine (nat_Right x a1 a0 v o HX.out LX.out HP.out B2.out HV.out HO.out _).mono ?_
    rintro e w5 ⟨rfl, hb5⟩
    have C5 : Below w.heap.size w w5 := B4.trans (hb5.mono B4.size)
    have y5 := C5.size
    clear hb5 B4 
    have B5 : Below w.heap.size w w5 := C5
    clear C5 
    clear y5
    go_wp2_with fail
    refine (nalive _).mono ?_
    rintro e wz ⟨rfl, hbz⟩
    go_wp2
    go_ret
    exact ⟨rfl, B5.trans (hbz.mono B5.size)⟩

def tabZ : List Int := [0, 1, 56, 2, 57, 49, 28, 3, 61, 58, 42, 50, 38, 29, 17, 4, 62, 47, 59, 36, 45, 43, 51, 22, 53, 39, 33, 30, 24, 18, 12, 5, 63, 55, 48, 27, 60, 41, 37, 16, 46, 35, 44, 21, 52, 32, 23, 11, 54, 26, 40, 15, 34, 20, 31, 10, 25, 14, 19, 9, 13, 8, 7, 6]
def laid1 : List (String × DataW Unit) := [("math/bits.deBruijn64tab", Rows.laid_math_bits_deBruijn64tab)]
theorem gTab : Tryd.prog.globalNamed "math/bits.deBruijn64tab" = some 0 := by kernel_rfl
theorem gType : (Tryd.prog.globals[0]?).map (·.type) = some 75 := by kernel_rfl
theorem cells5 : Tryd.prog.cellsOf 5 = 1 := by kernel_rfl
theorem cellsT : Tryd.prog.cellsOf 75 = 64 := by kernel_rfl
theorem tab_at : ∀ i : Fin 64, tabZ.getD i.val 0 = ((Lib.deBruijn64tab.getD i.val 0 : Nat) : Int) := by decide +kernel

theorem of_laid {W : World} (h : laidMetH Tryd.prog laid1 W) : TabAt W := by
  rw [MakeChecks.laidMetH_plain _ _ _ (by kernel_rfl)] at h
  have h' : laidMet Tryd.prog (("math/bits.deBruijn64tab", Lib.tabData .u8 tabZ) :: []) W := h
  have hT := Lib.tabIs_of_head gTab gType Tryd.underlying75 Tryd.underlying5 cells5 cellsT h'
  intro i hi
  have hc := hT.cell gTab i (show i < tabZ.length from hi)
  rw [tab_at ⟨i, hi⟩] at hc
  exact hc

theorem door_met (os : Os) (args : Array Value) : laidMetH Tryd.prog laid1 ((World.doorLaid Tryd.prog 400 os).forCall (fun _ _ => 0) ⟨#[], args, []⟩).memory :=
  laidMetH_of_parts3 (fuel := 8) (laidMet_of_run' 8 (by kernel_rfl) (by kernel_rfl)) (by kernel_rfl) (by kernel_rfl)

set_option maxRecDepth 100000 in
theorem lifted (os : Os) (started : os.Started) (H : Type) (enc : TypeId × Value → H) :
    ReturnsInHanded {} Tryd.checked os 4 .any (fun w args => (Rows.natShiftsSpec.pre enc Tryd.prog Tryd.f4 [] false w args ∧ laidMetH Tryd.prog laid1 w) ∧ sizedMet enc Tryd.prog Tryd.f4 (OpenSpec.ofChange Rows.natShiftsSpec) false w args)
      (Rows.natShiftsSpec.post enc Tryd.prog Tryd.f4 false true false false) := by
  refine returnsInHanded_of_change_and (C := Tryd.checked) (X := fun w _ => laidMetH Tryd.prog laid1 w) (fun _ _ _ hh h => h.of_heap hh) own started (by kernel_rfl) Tryd.func4
    (ChangeSpec.witness_shaped (enc := enc) (C := Tryd.checked) (os := os) (X := fun w _ => laidMetH Tryd.prog laid1 w) false (World.doorLaid Tryd.prog 400 os) #[.string ⟨#[]⟩, .int .i64 0] 8 rfl (World.shaped_of_RefB (by kernel_rfl) (by kernel_rfl)) (by kernel_rfl) (by kernel_rfl) (by kernel_rfl) (door_met os _)) ?_
  intro W base args ds gs before hval0 hW _ _ hL _
  have hval : ∀ (j : Nat) t v, Tryd.f4.params[j]? = some t → args[j]? = some v → Value.okWide Tryd.prog W .any base t v := hval0
  have hW' := hW
  obtain ⟨p, q, hA0, hV, rfl, hfz, hnd⟩ := hW
  have hA : DataW.TrodAll enc Tryd.prog W 0 (fun _ => true) true Tryd.f4.params.toList args.toList ds p := hA0
  rw [Tryd.params4] at hA hval
  obtain ⟨v0, vs0, d0, ds0, p0, q0, hargs, rfl, rfl, k0, r0⟩ := trodAll_cons hA
  obtain ⟨v1, vs1, d1, ds1, p1, q1, rfl, rfl, rfl, k1, r1⟩ := trodAll_cons r0
  obtain ⟨rfl, rfl, rfl⟩ := trodAll_nil r1
  obtain rfl : args = #[v0, v1] := by cases args; simp_all
  obtain ⟨rfl, rfl⟩ := trodVars_none hV
  obtain ⟨a0, rfl, rfl, rfl, h0⟩ := open_string Tryd.underlying25 (hval 0 25 v0 rfl rfl) k0
  obtain ⟨a1, rfl, rfl, rfl, h1⟩ := open_int Tryd.underlying3 (hval 1 3 v1 rfl rfl) k1
  clear hA0 hval0
  simp only [List.append_nil] at hW'
  refine (walk a0 a1 h0 h1 W (of_laid hL)).mono fun e W' ⟨he, hg⟩ => ?_
  subst he
  exact ⟨_, rfl, post_plain hW' (fun _ _ _ => trodAll_mk1 (shut_bool Tryd.underlying4 _)) (fun sp => (trodAll_cons_mk (shut_string Tryd.underlying25 h0) (trodAll_cons_mk (shut_int Tryd.underlying3 h1) trodAll_mk0))) (fun _ => rfl) hg (ok_one (by kernel_rfl) rfl (okWide_bool_mk Tryd.underlying4 _))⟩

theorem over : Rows.NatShiftsSaid :=
  OpenClaim.holds_of_wide 4 Tryd.f4 rfl rfl rfl rfl rfl rfl rfl ⟨rfl, rfl, rfl, rfl, rfl⟩ rfl rfl rfl rfl rfl (by kernel_rfl) Tryd.func4 (by kernel_rfl)
    (of_decide_eq_true (by kernel_rfl)) (by unfold Func.isWrapper; first | (rw [if_pos (by decide +kernel)]; kernel_rfl) | (rw [if_neg (by decide +kernel)]; exact ⟨rfl, rfl⟩))
    (fun os started H enc _ => lifted os started H enc)

theorem proved : Rows.NatShiftsCardSaid :=
  Claim7.holds_tied_plain_at .later [] [.data] true (true, "1c40fc8a40beec006741a384c406dfd0696f97ebb4397ce5d67425d787dc191f") false
    over (fun _ h => by cases h) (by kernel_rfl) (fun _ h => by cases h) natShifts_row_tie rfl ⟨rfl, rfl⟩ (by kernel_rfl) rfl
    (fun f fn hf hfn => by
      obtain rfl : f = 4 := Option.some.inj ((show Tryd.prog.funcNamed "abacus/abacuslaw05.NatShifts" = some 4 by kernel_rfl).symm.trans hf) |>.symm
      obtain rfl : fn = Tryd.f4 := (Option.some.inj (Tryd.func4.symm.trans hfn)).symm
      exact ⟨by kernel_rfl, fun j t ht => by
        rw [Tryd.params4] at ht
        have h3 : t = 25 ∨ t = 3 := by
          rcases j with _ | _ | j
          · exact (Or.inl (by simpa using ht.symm))
          · exact (Or.inr (by simpa using ht.symm))
          · simp at ht
        rcases h3 with rfl | rfl
        · exact (show Tryd.prog.wantsStandIn 25 = false by kernel_rfl)
        · exact (show Tryd.prog.wantsStandIn 3 = false by kernel_rfl)⟩)
    (by kernel_rfl)
#print axioms proved
end Go.Proofs.YtjedplbhhohfmaaDoor.natShifts
