/-
  NatRoots returns true for every two strings: roots and greatest common divisors are the document's.
-/
import Derived.Test.YtjedplbhhohfmaaRows
import Derived.WalkKit
import Derived.ProofKit
import Derived.OpenShut
import Derived.Test.YtjedplbhhohfmaaFrame6
import Derived.Test.YtjedplbhhohfmaaNalive
import Derived.Test.YtjedplbhhohfmaaList19
import Derived.Test.YtjedplbhhohfmaaNat8
import Derived.ChangeMaps5
namespace Go.Proofs.Ytjedplbhhohfmaa.natRoots
open WMath
open Go.ChangeShapes Go.WideShapes Go.ChangeAt Go.RowKit
open Go.ChangeMaps (open_string shut_string)
set_option linter.unusedVariables false

theorem own : ownKnob Try.prog.godebug = none := by kernel_rfl

set_option maxRecDepth 100000 in
set_option maxHeartbeats 4000000 in
theorem walk (a0 : ByteArray) (a1 : ByteArray) (h0 : a0.size ≤ maxLen) (h1 : a1.size ≤ maxLen) (w : World) :
    Calls Try.prog 6 #[.string a0, .string a1] w fun e w' => e = .returned (.bool true) ∧ Below w.heap.size w w' := by
  obtain ⟨p, hp⟩ : ∃ p, (decide (a0.size ≤ 120) && decide ((⟨#[]⟩ : ByteArray).size ≤ 120)) = p := ⟨_, rfl⟩
  obtain ⟨u, hu⟩ : ∃ u, (decide (a0.size ≤ 40) && decide (a1.size ≤ 40)) = u := ⟨_, rfl⟩
  have PL := box hp
  have PU := box hu
  clear hp hu
  cases p
  · skip
    go_enter Try.func6, Try.ntmps6
    have B0 : Below w.heap.size w w := (Below.refl _ _)
    go_wp2_with fail
    refine (nat_play a0 ⟨#[]⟩ 120 120 false rfl PL.out _).mono ?_
    rintro e w1 ⟨rfl, hb1⟩
    have C1 : Below w.heap.size w w1 := B0.trans (hb1.mono B0.size)
    have y1 := C1.size
    clear hb1 B0 
    have B1 : Below w.heap.size w w1 := C1
    clear C1 
    clear y1
    go_wp2_with fail
    refine (nalive _).mono ?_
    rintro e wz ⟨rfl, hbz⟩
    go_wp2
    go_ret
    exact ⟨rfl, B1.trans (hbz.mono B1.size)⟩
  cases hm0 : mayB a0
  · have HM := box hm0
    clear hm0
    go_enter Try.func6, Try.ntmps6
    have B0 : Below w.heap.size w w := (Below.refl _ _)
    go_wp2_with fail
    refine (nat_play a0 ⟨#[]⟩ 120 120 true rfl PL.out _).mono ?_
    rintro e w1 ⟨rfl, hb1⟩
    have C1 : Below w.heap.size w w1 := B0.trans (hb1.mono B0.size)
    have y1 := C1.size
    clear hb1 B0 
    have B1 : Below w.heap.size w w1 := C1
    clear C1 
    clear y1
    go_wp2_with fail
    refine (pn_sqrt_no a0 HM.out _).mono ?_
    rintro e w2 ⟨rfl, hb2⟩
    have C2 : Below w.heap.size w w2 := B1.trans (hb2.mono B1.size)
    have y2 := C2.size
    clear hb2 B1 
    have B2 : Below w.heap.size w w2 := C2
    clear C2 
    clear y2
    go_wp2_with fail
    refine (bel (nat_may a0 false HM.out _)).mono ?_
    rintro e w3 ⟨rfl, hb3⟩
    have C3 : Below w.heap.size w w3 := B2.trans (hb3.mono B2.size)
    have y3 := C3.size
    clear hb3 B2 
    have B3 : Below w.heap.size w w3 := C3
    clear C3 
    clear y3
    go_wp2_with fail
    refine (nalive _).mono ?_
    rintro e wz ⟨rfl, hbz⟩
    go_wp2
    go_ret
    exact ⟨rfl, B3.trans (hbz.mono B3.size)⟩
  obtain ⟨x, hx, lx⟩ := mayB_is a0 hm0
  obtain ⟨q, hq⟩ := root_any x
  obtain ⟨r, hr⟩ : ∃ r, x - q * q = r := ⟨_, rfl⟩
  obtain ⟨qv, hqv⟩ : ∃ v, nbA q = v := ⟨_, rfl⟩
  obtain ⟨rv, hrv⟩ : ∃ v, nbA r = v := ⟨_, rfl⟩
  obtain ⟨o, ho⟩ : ∃ o, (!mayB a0 || !mayB a1) = o := ⟨_, rfl⟩
  have HM := box hm0
  have HX := box hx
  have LX := box lx
  have HQ := box hq
  have HR := box hr
  have HQV := box hqv
  have HRV := box hrv
  have WR := box ho
  clear hx lx hq hr hqv hrv ho
  cases u
  · skip
    go_enter Try.func6, Try.ntmps6
    have B0 : Below w.heap.size w w := (Below.refl _ _)
    go_wp2_with fail
    refine (nat_play a0 ⟨#[]⟩ 120 120 true rfl PL.out _).mono ?_
    rintro e w1 ⟨rfl, hb1⟩
    have C1 : Below w.heap.size w w1 := B0.trans (hb1.mono B0.size)
    have y1 := C1.size
    clear hb1 B0 
    have B1 : Below w.heap.size w w1 := C1
    clear C1 
    clear y1
    go_wp2_with fail
    refine (pn_sqrt_ok x q r a0 qv rv HX.out LX.out HQ.out HR.out HQV.out HRV.out _).mono ?_
    rintro e w2 ⟨rfl, hb2⟩
    have C2 : Below w.heap.size w w2 := B1.trans (hb2.mono B1.size)
    have y2 := C2.size
    clear hb2 B1 
    have B2 : Below w.heap.size w w2 := C2
    clear C2 
    clear y2
    go_wp2_with fail
    refine (bel (nat_may a0 true HM.out _)).mono ?_
    rintro e w3 ⟨rfl, hb3⟩
    have C3 : Below w.heap.size w w3 := B2.trans (hb3.mono B2.size)
    have y3 := C3.size
    clear hb3 B2 
    have B3 : Below w.heap.size w w3 := C3
    clear C3 
    clear y3
    go_wp2_with fail
    refine (nat_Sqrt x q r a0 qv rv HX.out LX.out HQ.out HR.out HQV.out HRV.out _).mono ?_
    rintro e w4 ⟨rfl, hb4⟩
    have C4 : Below w.heap.size w w4 := B3.trans (hb4.mono B3.size)
    have y4 := C4.size
    clear hb4 B3 
    have B4 : Below w.heap.size w w4 := C4
    clear C4 
    clear y4
    go_wp2_with fail
    refine (nat_play a0 a1 40 40 false rfl PU.out _).mono ?_
    rintro e w5 ⟨rfl, hb5⟩
    have C5 : Below w.heap.size w w5 := B4.trans (hb5.mono B4.size)
    have y5 := C5.size
    clear hb5 B4 
    have B5 : Below w.heap.size w w5 := C5
    clear C5 
    clear y5
    go_wp2_with fail
    refine (nalive _).mono ?_
    rintro e wz ⟨rfl, hbz⟩
    go_wp2
    go_ret
    exact ⟨rfl, B5.trans (hbz.mono B5.size)⟩
  cases hm1 : mayB a1
  · obtain rfl : o = true := by rw [← WR.out, hm1]; simp
    clear hm0 hm1
    go_enter Try.func6, Try.ntmps6
    have B0 : Below w.heap.size w w := (Below.refl _ _)
    go_wp2_with fail
    refine (nat_play a0 ⟨#[]⟩ 120 120 true rfl PL.out _).mono ?_
    rintro e w1 ⟨rfl, hb1⟩
    have C1 : Below w.heap.size w w1 := B0.trans (hb1.mono B0.size)
    have y1 := C1.size
    clear hb1 B0 
    have B1 : Below w.heap.size w w1 := C1
    clear C1 
    clear y1
    go_wp2_with fail
    refine (pn_sqrt_ok x q r a0 qv rv HX.out LX.out HQ.out HR.out HQV.out HRV.out _).mono ?_
    rintro e w2 ⟨rfl, hb2⟩
    have C2 : Below w.heap.size w w2 := B1.trans (hb2.mono B1.size)
    have y2 := C2.size
    clear hb2 B1 
    have B2 : Below w.heap.size w w2 := C2
    clear C2 
    clear y2
    go_wp2_with fail
    refine (bel (nat_may a0 true HM.out _)).mono ?_
    rintro e w3 ⟨rfl, hb3⟩
    have C3 : Below w.heap.size w w3 := B2.trans (hb3.mono B2.size)
    have y3 := C3.size
    clear hb3 B2 
    have B3 : Below w.heap.size w w3 := C3
    clear C3 
    clear y3
    go_wp2_with fail
    refine (nat_Sqrt x q r a0 qv rv HX.out LX.out HQ.out HR.out HQV.out HRV.out _).mono ?_
    rintro e w4 ⟨rfl, hb4⟩
    have C4 : Below w.heap.size w w4 := B3.trans (hb4.mono B3.size)
    have y4 := C4.size
    clear hb4 B3 
    have B4 : Below w.heap.size w w4 := C4
    clear C4 
    clear y4
    go_wp2_with fail
    refine (nat_play a0 a1 40 40 true rfl PU.out _).mono ?_
    rintro e w5 ⟨rfl, hb5⟩
    have C5 : Below w.heap.size w w5 := B4.trans (hb5.mono B4.size)
    have y5 := C5.size
    clear hb5 B4 
    have B5 : Below w.heap.size w w5 := C5
    clear C5 
    clear y5
    go_wp2_with fail
    refine (nat_wrong a0 a1 true WR.out _).mono ?_
    rintro e w6 ⟨rfl, hb6⟩
    have C6 : Below w.heap.size w w6 := B5.trans (hb6.mono B5.size)
    have y6 := C6.size
    clear hb6 B5 
    have B6 : Below w.heap.size w w6 := C6
    clear C6 
    clear y6
    go_wp2_with fail
    refine (nalive _).mono ?_
    rintro e wz ⟨rfl, hbz⟩
    go_wp2
    go_ret
    exact ⟨rfl, B6.trans (hbz.mono B6.size)⟩
  · obtain rfl : o = false := by rw [← WR.out, hm1, hm0]; rfl
    obtain ⟨y, hy, ly⟩ := mayB_is a1 hm1
    obtain ⟨g, hg⟩ : ∃ g, nbA (Nat.gcd x y) = g := ⟨_, rfl⟩
    have HY := box hy
    have LY := box ly
    have HG := box hg
    clear hm0 hm1 hy ly hg
    go_enter Try.func6, Try.ntmps6
    have B0 : Below w.heap.size w w := (Below.refl _ _)
    go_wp2_with fail
    refine (nat_play a0 ⟨#[]⟩ 120 120 true rfl PL.out _).mono ?_
    rintro e w1 ⟨rfl, hb1⟩
    have C1 : Below w.heap.size w w1 := B0.trans (hb1.mono B0.size)
    have y1 := C1.size
    clear hb1 B0 
    have B1 : Below w.heap.size w w1 := C1
    clear C1 
    clear y1
    go_wp2_with fail
    refine (pn_sqrt_ok x q r a0 qv rv HX.out LX.out HQ.out HR.out HQV.out HRV.out _).mono ?_
    rintro e w2 ⟨rfl, hb2⟩
    have C2 : Below w.heap.size w w2 := B1.trans (hb2.mono B1.size)
    have y2 := C2.size
    clear hb2 B1 
    have B2 : Below w.heap.size w w2 := C2
    clear C2 
    clear y2
    go_wp2_with fail
    refine (bel (nat_may a0 true HM.out _)).mono ?_
    rintro e w3 ⟨rfl, hb3⟩
    have C3 : Below w.heap.size w w3 := B2.trans (hb3.mono B2.size)
    have y3 := C3.size
    clear hb3 B2 
    have B3 : Below w.heap.size w w3 := C3
    clear C3 
    clear y3
    go_wp2_with fail
    refine (nat_Sqrt x q r a0 qv rv HX.out LX.out HQ.out HR.out HQV.out HRV.out _).mono ?_
    rintro e w4 ⟨rfl, hb4⟩
    have C4 : Below w.heap.size w w4 := B3.trans (hb4.mono B3.size)
    have y4 := C4.size
    clear hb4 B3 
    have B4 : Below w.heap.size w w4 := C4
    clear C4 
    clear y4
    go_wp2_with fail
    refine (nat_play a0 a1 40 40 true rfl PU.out _).mono ?_
    rintro e w5 ⟨rfl, hb5⟩
    have C5 : Below w.heap.size w w5 := B4.trans (hb5.mono B4.size)
    have y5 := C5.size
    clear hb5 B4 
    have B5 : Below w.heap.size w w5 := C5
    clear C5 
    clear y5
    go_wp2_with fail
    refine (nat_wrong a0 a1 false WR.out _).mono ?_
    rintro e w6 ⟨rfl, hb6⟩
    have C6 : Below w.heap.size w w6 := B5.trans (hb6.mono B5.size)
    have y6 := C6.size
    clear hb6 B5 
    have B6 : Below w.heap.size w w6 := C6
    clear C6 
    clear y6
    go_wp2_with fail
    refine (pn_gcd_ok x y a0 a1 g HX.out HY.out LX.out LY.out HG.out _).mono ?_
    rintro e w7 ⟨rfl, hb7⟩
    have C7 : Below w.heap.size w w7 := B6.trans (hb7.mono B6.size)
    have y7 := C7.size
    clear hb7 B6 
    have B7 : Below w.heap.size w w7 := C7
    clear C7 
    clear y7
    go_wp2_with fail
    refine (nat_Gcd x y a0 a1 g HX.out HY.out LX.out LY.out HG.out _).mono ?_
    rintro e w8 ⟨rfl, hb8⟩
    have C8 : Below w.heap.size w w8 := B7.trans (hb8.mono B7.size)
    have y8 := C8.size
    clear hb8 B7 
    have B8 : Below w.heap.size w w8 := C8
    clear C8 
    clear y8
    go_wp2_with fail
    refine (nalive _).mono ?_
    rintro e wz ⟨rfl, hbz⟩
    go_wp2
    go_ret
    exact ⟨rfl, B8.trans (hbz.mono B8.size)⟩

set_option maxRecDepth 100000 in
theorem lifted (os : Os) (started : os.Started) (H : Type) (enc : TypeId × Value → H) :
    ReturnsInHanded {} Try.checked os 6 .any (Rows.natRootsSpec.pre6 enc Try.prog Try.f6 Rows.natRootsRow.domain false) (Rows.natRootsSpec.post enc Try.prog Try.f6 false true false false) := by
  refine returnsInHanded_of_change (C := Try.checked) own started (by kernel_rfl) Try.func6
    (ChangeSpec.witness6 (enc := enc) (C := Try.checked) false ⟨#[], #[.string ⟨#[]⟩, .string ⟨#[]⟩], []⟩ 8 (by kernel_rfl) (by kernel_rfl) (by kernel_rfl) (by kernel_rfl)) ?_
  intro W base args ds gs before hval0 hW hcnd _
  have hval : ∀ (j : Nat) t v, Try.f6.params[j]? = some t → args[j]? = some v → Value.okWide Try.prog W .any base t v := hval0
  have hW' := hW
  obtain ⟨p, q, hA0, hV, rfl, hfz, hnd⟩ := hW
  have hA : DataW.TrodAll enc Try.prog W 0 (fun _ => true) true Try.f6.params.toList args.toList ds p := hA0
  rw [Try.params6] at hA hval
  obtain ⟨v0, vs0, d0, ds0, p0, q0, hargs, rfl, rfl, k0, r0⟩ := trodAll_cons hA
  obtain ⟨v1, vs1, d1, ds1, p1, q1, rfl, rfl, rfl, k1, r1⟩ := trodAll_cons r0
  obtain ⟨rfl, rfl, rfl⟩ := trodAll_nil r1
  obtain rfl : args = #[v0, v1] := by cases args; simp_all
  obtain ⟨rfl, rfl⟩ := trodVars_none hV
  obtain ⟨a0, rfl, rfl, rfl, h0⟩ := open_string Try.underlying22 (hval 0 22 v0 rfl rfl) k0
  obtain ⟨a1, rfl, rfl, rfl, h1⟩ := open_string Try.underlying22 (hval 1 22 v1 rfl rfl) k1
  clear hA0 hval0
  simp only [List.append_nil] at hW'
  refine (walk a0 a1 h0 h1 W).mono fun e W' ⟨he, hg⟩ => ?_
  subst he
  exact ⟨_, rfl, post_plain hW' (fun _ _ _ => (trodAll_cons_mk (shut_bool Try.underlying4 _) trodAll_mk0)) (fun sp => (trodAll_cons_mk (shut_string Try.underlying22 h0) (trodAll_cons_mk (shut_string Try.underlying22 h1) trodAll_mk0))) (fun _ => rfl) hg (ok_one (by kernel_rfl) rfl (okWide_bool_mk Try.underlying4 _))⟩

theorem over : Rows.natRootsRow.holds Try.pinned (OpenSpec.ofChange Rows.natRootsSpec) :=
  OpenClaim.holds_of_wide 6 Try.f6 rfl rfl rfl rfl rfl rfl rfl ⟨rfl, rfl, rfl, rfl, rfl⟩ rfl rfl rfl rfl rfl (by kernel_rfl) Try.func6 (by kernel_rfl)
    (of_decide_eq_true (by kernel_rfl)) (by unfold Func.isWrapper; first | (rw [if_pos (by decide +kernel)]; kernel_rfl) | (rw [if_neg (by decide +kernel)]; exact ⟨rfl, rfl⟩))
    (fun os started H enc _ => lifted os started H enc)

theorem proved : Rows.NatRootsSaid :=
  over
#print axioms proved
end Go.Proofs.Ytjedplbhhohfmaa.natRoots
