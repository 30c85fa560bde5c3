/-
  NatWhole returns true for every two strings: quotients and roots, put together again.
-/
import Derived.Test.YtjedplbhhohfmabRows
import Derived.WalkKit
import Derived.ProofKit
import Derived.OpenShut
import Derived.Test.YtjedplbhhohfmabFrame6
import Derived.Test.YtjedplbhhohfmabNalive
import Derived.Test.YtjedplbhhohfmabNat5
import Derived.Test.YtjedplbhhohfmabList15
import Derived.ChangeMaps5
namespace Go.Proofs.Ytjedplbhhohfmab.natWhole
open WMath
open Go.ChangeShapes Go.WideShapes Go.ChangeAt Go.RowKit
open Go.ChangeMaps (open_string shut_string)
set_option linter.unusedVariables false

theorem own : ownKnob Try.prog.godebug = none := by kernel_rfl

set_option maxRecDepth 100000 in
set_option maxHeartbeats 4000000 in
theorem walk (a0 : ByteArray) (a1 : ByteArray) (h0 : a0.size ≤ maxLen) (h1 : a1.size ≤ maxLen) (w : World) :
    Calls Try.prog 5 #[.string a0, .string a1] w fun e w' => e = .returned (.bool true) ∧ Below w.heap.size w w' := by
  obtain ⟨p, hp⟩ : ∃ p, (decide (a0.size ≤ 120) && decide (a1.size ≤ 120)) = p := ⟨_, rfl⟩
  obtain ⟨o, ho⟩ : ∃ o, (!mayB a0 || !mayB a1) = o := ⟨_, rfl⟩
  have PL := box hp
  have WR := box ho
  have e2 := eq_empty a1
  clear hp ho
  cases p
  · skip
    go_enter Try.func5, Try.ntmps5
    have B0 : Below w.heap.size w w := (Below.refl _ _)
    go_wp2_with fail
    refine (nat_play a0 a1 120 120 false rfl PL.out _).mono ?_
    rintro e w1 ⟨rfl, hb1⟩
    have C1 : Below w.heap.size w w1 := B0.trans (hb1.mono B0.size)
    have y1 := C1.size
    clear hb1 B0 
    have B1 : Below w.heap.size w w1 := C1
    clear C1 
    clear y1
    go_wp2_with fail
    refine (nalive _).mono ?_
    rintro e wz ⟨rfl, hbz⟩
    go_wp2
    go_ret
    exact ⟨rfl, B1.trans (hbz.mono B1.size)⟩
  cases o
  rotate_left
  · skip
    go_enter Try.func5, Try.ntmps5
    have B0 : Below w.heap.size w w := (Below.refl _ _)
    go_wp2_with fail
    refine (nat_play a0 a1 120 120 true rfl PL.out _).mono ?_
    rintro e w1 ⟨rfl, hb1⟩
    have C1 : Below w.heap.size w w1 := B0.trans (hb1.mono B0.size)
    have y1 := C1.size
    clear hb1 B0 
    have B1 : Below w.heap.size w w1 := C1
    clear C1 
    clear y1
    go_wp2_with fail
    refine (nat_wrong a0 a1 true WR.out _).mono ?_
    rintro e w2 ⟨rfl, hb2⟩
    have C2 : Below w.heap.size w w2 := B1.trans (hb2.mono B1.size)
    have y2 := C2.size
    clear hb2 B1 
    have B2 : Below w.heap.size w w2 := C2
    clear C2 
    clear y2
    go_wp2_with fail
    refine (nalive _).mono ?_
    rintro e wz ⟨rfl, hbz⟩
    go_wp2
    go_ret
    exact ⟨rfl, B2.trans (hbz.mono B2.size)⟩
  by_cases hb0 : a1.size = 0
  · rw [decide_eq_true hb0] at e2
    clear hb0
    go_enter Try.func5, Try.ntmps5
    have B0 : Below w.heap.size w w := (Below.refl _ _)
    go_wp2_with fail
    refine (nat_play a0 a1 120 120 true rfl PL.out _).mono ?_
    rintro e w1 ⟨rfl, hb1⟩
    have C1 : Below w.heap.size w w1 := B0.trans (hb1.mono B0.size)
    have y1 := C1.size
    clear hb1 B0 
    have B1 : Below w.heap.size w w1 := C1
    clear C1 
    clear y1
    go_wp2_with fail
    refine (nat_wrong a0 a1 false WR.out _).mono ?_
    rintro e w2 ⟨rfl, hb2⟩
    have C2 : Below w.heap.size w w2 := B1.trans (hb2.mono B1.size)
    have y2 := C2.size
    clear hb2 B1 
    have B2 : Below w.heap.size w w2 := C2
    clear C2 
    clear y2
    go_wp2_with fail
    refine (nalive _).mono ?_
    rintro e wz ⟨rfl, hbz⟩
    go_wp2
    go_ret
    exact ⟨rfl, B2.trans (hbz.mono B2.size)⟩
  rw [decide_eq_false hb0] at e2
  have hm : mayB a0 = true ∧ mayB a1 = true := by
    have h1 := WR.out
    rw [Bool.or_eq_false_iff, Bool.not_eq_false', Bool.not_eq_false'] at h1
    exact h1
  have hz : a0.size ≤ 120 ∧ a1.size ≤ 120 := by
    have h1 := PL.out
    rw [Bool.and_eq_true, decide_eq_true_iff, decide_eq_true_iff] at h1
    exact h1
  obtain ⟨x, hx, lx⟩ := mayB_is a0 hm.1
  obtain ⟨y, hy, ly⟩ := mayB_is a1 hm.2
  have y0 : y ≠ 0 := fun e => hb0 (by rw [← hy, nbA_size, e, nl_zero])
  obtain ⟨q, hq⟩ := root_any x
  obtain ⟨r, hr⟩ : ∃ r, x - q * q = r := ⟨_, rfl⟩
  obtain ⟨Qv, hQv⟩ : ∃ v, nbA (x / y) = v := ⟨_, rfl⟩
  obtain ⟨Rv, hRv⟩ : ∃ v, nbA (x % y) = v := ⟨_, rfl⟩
  obtain ⟨Pv, hPv⟩ : ∃ v, nbA (x / y * y) = v := ⟨_, rfl⟩
  obtain ⟨qv, hqv⟩ : ∃ v, nbA q = v := ⟨_, rfl⟩
  obtain ⟨rv, hrv⟩ : ∃ v, nbA r = v := ⟨_, rfl⟩
  obtain ⟨sv, hsv⟩ : ∃ v, nbA (q * q) = v := ⟨_, rfl⟩
  have e1 : x / y * y + x % y = x := by rw [Nat.mul_comm]; exact Nat.div_add_mod x y
  have q1 := hq.1
  have e3 : q * q + r = x := by omega
  have k1 := nl_mono (x / y) x (Nat.div_le_self _ _)
  have k2 := nl_mono (x % y) x (Nat.mod_le _ _)
  have k3 := nl_mono (x / y * y) x (by omega)
  have k4 := nl_mono q x (Nat.le_trans (Nat.le_mul_self q) q1)
  have k5 := nl_mono (q * q) x q1
  have k6 := nl_mono r x (by omega)
  have A1 : Box (lg (x / y * y) = (Pv, 0)) := box (lg_ok _ _ (by omega) hPv)
  have A2 : Box (lg (x / y * y + x % y) = (a0, 0)) := box (by rw [e1]; exact lg_ok _ _ lx hx)
  have A3 : Box (cmpv (x % y) y = -1) := box (by have := Nat.mod_lt x (show 0 < y by omega); unfold cmpv; rw [if_neg (by omega), if_pos this])
  have A4 : Box (lg (q * q) = (sv, 0)) := box (lg_ok _ _ (by omega) hsv)
  have A5 : Box (lg (q * q + r) = (a0, 0)) := box (by rw [e3]; exact lg_ok _ _ lx hx)
  have HX := box hx
  have HY := box hy
  have LX := box lx
  have LY := box ly
  have HY0 := box y0
  have HQ := box hq
  have HR := box hr
  have HQv := box hQv
  have HRv := box hRv
  have HPv := box hPv
  have Hqv := box hqv
  have Hrv := box hrv
  have Hsv := box hsv
  have L1 : Box (nl (x / y) ≤ 16384) := box (by omega)
  have L2 : Box (nl (x % y) ≤ 16384) := box (by omega)
  have L3 : Box (nl (x / y * y) ≤ 16384) := box (by omega)
  have L4 : Box (nl q ≤ 16384) := box (by omega)
  have L5 : Box (nl (q * q) ≤ 16384) := box (by omega)
  have L6 : Box (nl r ≤ 16384) := box (by omega)
  clear hx hy lx ly y0 hq hr hQv hRv hPv hqv hrv hsv e1 q1 e3 k1 k2 k3 k4 k5 k6 hm hz hb0
  go_enter Try.func5, Try.ntmps5
  have B0 : Below w.heap.size w w := (Below.refl _ _)
  go_wp2_with fail
  refine (nat_play a0 a1 120 120 true rfl PL.out _).mono ?_
  rintro e w1 ⟨rfl, hb1⟩
  have C1 : Below w.heap.size w w1 := B0.trans (hb1.mono B0.size)
  have y1 := C1.size
  clear hb1 B0 
  have B1 : Below w.heap.size w w1 := C1
  clear C1 
  clear y1
  go_wp2_with fail
  refine (nat_wrong a0 a1 false WR.out _).mono ?_
  rintro e w2 ⟨rfl, hb2⟩
  have C2 : Below w.heap.size w w2 := B1.trans (hb2.mono B1.size)
  have y2 := C2.size
  clear hb2 B1 
  have B2 : Below w.heap.size w w2 := C2
  clear C2 
  clear y2
  go_wp2_with fail
  refine (pn_div_ok x y a0 a1 Qv Rv HX.out HY.out LX.out LY.out HY0.out HQv.out HRv.out _).mono ?_
  rintro e w3 ⟨rfl, hb3⟩
  have C3 : Below w.heap.size w w3 := B2.trans (hb3.mono B2.size)
  have y3 := C3.size
  clear hb3 B2 
  have B3 : Below w.heap.size w w3 := C3
  clear C3 
  clear y3
  go_wp2_with fail
  refine (pn_mul_ok (x / y) y Qv a1 Pv 0 HQv.out HY.out L1.out LY.out A1.out _).mono ?_
  rintro e w4 ⟨rfl, hb4⟩
  have C4 : Below w.heap.size w w4 := B3.trans (hb4.mono B3.size)
  have y4 := C4.size
  clear hb4 B3 
  have B4 : Below w.heap.size w w4 := C4
  clear C4 
  clear y4
  go_wp2_with fail
  refine (pn_add_ok (x / y * y) (x % y) Pv Rv a0 0 HPv.out HRv.out L3.out L2.out A2.out _).mono ?_
  rintro e w5 ⟨rfl, hb5⟩
  have C5 : Below w.heap.size w w5 := B4.trans (hb5.mono B4.size)
  have y5 := C5.size
  clear hb5 B4 
  have B5 : Below w.heap.size w w5 := C5
  clear C5 
  clear y5
  go_wp2_with fail
  refine (pn_cmp_ok (x % y) y Rv a1 (-1) HRv.out HY.out L2.out LY.out A3.out _).mono ?_
  rintro e w6 ⟨rfl, hb6⟩
  have C6 : Below w.heap.size w w6 := B5.trans (hb6.mono B5.size)
  have y6 := C6.size
  clear hb6 B5 
  have B6 : Below w.heap.size w w6 := C6
  clear C6 
  clear y6
  go_wp2_with fail
  refine (pn_sqrt_ok x q r a0 qv rv HX.out LX.out HQ.out HR.out Hqv.out Hrv.out _).mono ?_
  rintro e w7 ⟨rfl, hb7⟩
  have C7 : Below w.heap.size w w7 := B6.trans (hb7.mono B6.size)
  have y7 := C7.size
  clear hb7 B6 
  have B7 : Below w.heap.size w w7 := C7
  clear C7 
  clear y7
  go_wp2_with fail
  refine (pn_mul_ok q q qv qv sv 0 Hqv.out Hqv.out L4.out L4.out A4.out _).mono ?_
  rintro e w8 ⟨rfl, hb8⟩
  have C8 : Below w.heap.size w w8 := B7.trans (hb8.mono B7.size)
  have y8 := C8.size
  clear hb8 B7 
  have B8 : Below w.heap.size w w8 := C8
  clear C8 
  clear y8
  go_wp2_with fail
  refine (pn_add_ok (q * q) r sv rv a0 0 Hsv.out Hrv.out L5.out L6.out A5.out _).mono ?_
  rintro e w9 ⟨rfl, hb9⟩
  have C9 : Below w.heap.size w w9 := B8.trans (hb9.mono B8.size)
  have y9 := C9.size
  clear hb9 B8 
  have B9 : Below w.heap.size w w9 := C9
  clear C9 
  clear y9
  go_wp2_with fail
  refine (nalive _).mono ?_
  rintro e wz ⟨rfl, hbz⟩
  go_wp2
  go_ret
  exact ⟨rfl, B9.trans (hbz.mono B9.size)⟩

set_option maxRecDepth 100000 in
theorem lifted (os : Os) (started : os.Started) (H : Type) (enc : TypeId × Value → H) :
    ReturnsInHanded {} Try.checked os 5 .any (Rows.natWholeSpec.pre6 enc Try.prog Try.f5 Rows.natWholeRow.domain false) (Rows.natWholeSpec.post enc Try.prog Try.f5 false true false false) := by
  refine returnsInHanded_of_change (C := Try.checked) own started (by kernel_rfl) Try.func5
    (ChangeSpec.witness6 (enc := enc) (C := Try.checked) false ⟨#[], #[.string ⟨#[]⟩, .string ⟨#[]⟩], []⟩ 8 (by kernel_rfl) (by kernel_rfl) (by kernel_rfl) (by kernel_rfl)) ?_
  intro W base args ds gs before hval0 hW hcnd _
  have hval : ∀ (j : Nat) t v, Try.f5.params[j]? = some t → args[j]? = some v → Value.okWide Try.prog W .any base t v := hval0
  have hW' := hW
  obtain ⟨p, q, hA0, hV, rfl, hfz, hnd⟩ := hW
  have hA : DataW.TrodAll enc Try.prog W 0 (fun _ => true) true Try.f5.params.toList args.toList ds p := hA0
  rw [Try.params5] at hA hval
  obtain ⟨v0, vs0, d0, ds0, p0, q0, hargs, rfl, rfl, k0, r0⟩ := trodAll_cons hA
  obtain ⟨v1, vs1, d1, ds1, p1, q1, rfl, rfl, rfl, k1, r1⟩ := trodAll_cons r0
  obtain ⟨rfl, rfl, rfl⟩ := trodAll_nil r1
  obtain rfl : args = #[v0, v1] := by cases args; simp_all
  obtain ⟨rfl, rfl⟩ := trodVars_none hV
  obtain ⟨a0, rfl, rfl, rfl, h0⟩ := open_string Try.underlying22 (hval 0 22 v0 rfl rfl) k0
  obtain ⟨a1, rfl, rfl, rfl, h1⟩ := open_string Try.underlying22 (hval 1 22 v1 rfl rfl) k1
  clear hA0 hval0
  simp only [List.append_nil] at hW'
  refine (walk a0 a1 h0 h1 W).mono fun e W' ⟨he, hg⟩ => ?_
  subst he
  exact ⟨_, rfl, post_plain hW' (fun _ _ _ => (trodAll_cons_mk (shut_bool Try.underlying4 _) trodAll_mk0)) (fun sp => (trodAll_cons_mk (shut_string Try.underlying22 h0) (trodAll_cons_mk (shut_string Try.underlying22 h1) trodAll_mk0))) (fun _ => rfl) hg (ok_one (by kernel_rfl) rfl (okWide_bool_mk Try.underlying4 _))⟩

theorem over : Rows.natWholeRow.holds Try.pinned (OpenSpec.ofChange Rows.natWholeSpec) :=
  OpenClaim.holds_of_wide 5 Try.f5 rfl rfl rfl rfl rfl rfl rfl ⟨rfl, rfl, rfl, rfl, rfl⟩ rfl rfl rfl rfl rfl (by kernel_rfl) Try.func5 (by kernel_rfl)
    (of_decide_eq_true (by kernel_rfl)) (by unfold Func.isWrapper; first | (rw [if_pos (by decide +kernel)]; kernel_rfl) | (rw [if_neg (by decide +kernel)]; exact ⟨rfl, rfl⟩))
    (fun os started H enc _ => lifted os started H enc)

theorem proved : Rows.NatWholeSaid :=
  over
#print axioms proved
end Go.Proofs.Ytjedplbhhohfmab.natWhole
