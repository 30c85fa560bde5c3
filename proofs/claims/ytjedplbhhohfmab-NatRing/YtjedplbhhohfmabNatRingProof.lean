/-
  NatRing returns true for every three strings: a ring's laws, as far as nothing is too long.
-/
import Derived.Test.YtjedplbhhohfmabRows
import Derived.WalkKit
import Derived.ProofKit
import Derived.OpenShut
import Derived.Test.YtjedplbhhohfmabFrame6
import Derived.Test.YtjedplbhhohfmabNalive
import Derived.Test.YtjedplbhhohfmabNat5
import Derived.ChangeMaps5
namespace Go.Proofs.Ytjedplbhhohfmab.natRing
open WMath
open Go.ChangeShapes Go.WideShapes Go.ChangeAt Go.RowKit
open Go.ChangeMaps (open_string shut_string)
set_option linter.unusedVariables false

theorem own : ownKnob Try.prog.godebug = none := by kernel_rfl

set_option maxRecDepth 100000 in
set_option maxHeartbeats 4000000 in
theorem walk (a0 : ByteArray) (a1 : ByteArray) (a2 : ByteArray) (h0 : a0.size ≤ maxLen) (h1 : a1.size ≤ maxLen) (h2 : a2.size ≤ maxLen) (w : World) :
    Calls Try.prog 4 #[.string a0, .string a1, .string a2] w fun e w' => e = .returned (.bool true) ∧ Below w.heap.size w w' := by
  obtain ⟨p, hp⟩ : ∃ p, (decide (a0.size ≤ 60) && decide (a1.size ≤ 60)) = p := ⟨_, rfl⟩
  obtain ⟨p2, hp2⟩ : ∃ p, (decide (a2.size ≤ 60) && decide ((⟨#[]⟩ : ByteArray).size ≤ 60)) = p := ⟨_, rfl⟩
  obtain ⟨o, ho⟩ : ∃ o, (!mayB a0 || !mayB a1) = o := ⟨_, rfl⟩
  obtain ⟨o2, ho2⟩ : ∃ o, (!mayB a2 || !mayB ⟨#[]⟩) = o := ⟨_, rfl⟩
  have PL := box hp
  have PL2 := box hp2
  have WR := box ho
  have WR2 := box ho2
  clear hp hp2 ho ho2
  cases p
  · skip
    go_enter Try.func4, Try.ntmps4
    have B0 : Below w.heap.size w w := (Below.refl _ _)
    go_wp2_with fail
    refine (nat_play a0 a1 60 60 false rfl PL.out _).mono ?_
    rintro e w1 ⟨rfl, hb1⟩
    have C1 : Below w.heap.size w w1 := B0.trans (hb1.mono B0.size)
    have y1 := C1.size
    clear hb1 B0 
    have B1 : Below w.heap.size w w1 := C1
    clear C1 
    clear y1
    go_wp2_with fail
    refine (nalive _).mono ?_
    rintro e wz ⟨rfl, hbz⟩
    go_wp2
    go_ret
    exact ⟨rfl, B1.trans (hbz.mono B1.size)⟩
  cases p2
  · skip
    go_enter Try.func4, Try.ntmps4
    have B0 : Below w.heap.size w w := (Below.refl _ _)
    go_wp2_with fail
    refine (nat_play a0 a1 60 60 true rfl PL.out _).mono ?_
    rintro e w1 ⟨rfl, hb1⟩
    have C1 : Below w.heap.size w w1 := B0.trans (hb1.mono B0.size)
    have y1 := C1.size
    clear hb1 B0 
    have B1 : Below w.heap.size w w1 := C1
    clear C1 
    clear y1
    go_wp2_with fail
    refine (nat_play a2 ⟨#[]⟩ 60 60 false rfl PL2.out _).mono ?_
    rintro e w2 ⟨rfl, hb2⟩
    have C2 : Below w.heap.size w w2 := B1.trans (hb2.mono B1.size)
    have y2 := C2.size
    clear hb2 B1 
    have B2 : Below w.heap.size w w2 := C2
    clear C2 
    clear y2
    go_wp2_with fail
    refine (nalive _).mono ?_
    rintro e wz ⟨rfl, hbz⟩
    go_wp2
    go_ret
    exact ⟨rfl, B2.trans (hbz.mono B2.size)⟩
  cases o
  rotate_left
  · skip
    go_enter Try.func4, Try.ntmps4
    have B0 : Below w.heap.size w w := (Below.refl _ _)
    go_wp2_with fail
    refine (nat_play a0 a1 60 60 true rfl PL.out _).mono ?_
    rintro e w1 ⟨rfl, hb1⟩
    have C1 : Below w.heap.size w w1 := B0.trans (hb1.mono B0.size)
    have y1 := C1.size
    clear hb1 B0 
    have B1 : Below w.heap.size w w1 := C1
    clear C1 
    clear y1
    go_wp2_with fail
    refine (nat_play a2 ⟨#[]⟩ 60 60 true rfl PL2.out _).mono ?_
    rintro e w2 ⟨rfl, hb2⟩
    have C2 : Below w.heap.size w w2 := B1.trans (hb2.mono B1.size)
    have y2 := C2.size
    clear hb2 B1 
    have B2 : Below w.heap.size w w2 := C2
    clear C2 
    clear y2
    go_wp2_with fail
    refine (nat_wrong a0 a1 true WR.out _).mono ?_
    rintro e w3 ⟨rfl, hb3⟩
    have C3 : Below w.heap.size w w3 := B2.trans (hb3.mono B2.size)
    have y3 := C3.size
    clear hb3 B2 
    have B3 : Below w.heap.size w w3 := C3
    clear C3 
    clear y3
    go_wp2_with fail
    refine (nalive _).mono ?_
    rintro e wz ⟨rfl, hbz⟩
    go_wp2
    go_ret
    exact ⟨rfl, B3.trans (hbz.mono B3.size)⟩
  cases o2
  rotate_left
  · skip
    go_enter Try.func4, Try.ntmps4
    have B0 : Below w.heap.size w w := (Below.refl _ _)
    go_wp2_with fail
    refine (nat_play a0 a1 60 60 true rfl PL.out _).mono ?_
    rintro e w1 ⟨rfl, hb1⟩
    have C1 : Below w.heap.size w w1 := B0.trans (hb1.mono B0.size)
    have y1 := C1.size
    clear hb1 B0 
    have B1 : Below w.heap.size w w1 := C1
    clear C1 
    clear y1
    go_wp2_with fail
    refine (nat_play a2 ⟨#[]⟩ 60 60 true rfl PL2.out _).mono ?_
    rintro e w2 ⟨rfl, hb2⟩
    have C2 : Below w.heap.size w w2 := B1.trans (hb2.mono B1.size)
    have y2 := C2.size
    clear hb2 B1 
    have B2 : Below w.heap.size w w2 := C2
    clear C2 
    clear y2
    go_wp2_with fail
    refine (nat_wrong a0 a1 false WR.out _).mono ?_
    rintro e w3 ⟨rfl, hb3⟩
    have C3 : Below w.heap.size w w3 := B2.trans (hb3.mono B2.size)
    have y3 := C3.size
    clear hb3 B2 
    have B3 : Below w.heap.size w w3 := C3
    clear C3 
    clear y3
    go_wp2_with fail
    refine (nat_wrong a2 ⟨#[]⟩ true WR2.out _).mono ?_
    rintro e w4 ⟨rfl, hb4⟩
    have C4 : Below w.heap.size w w4 := B3.trans (hb4.mono B3.size)
    have y4 := C4.size
    clear hb4 B3 
    have B4 : Below w.heap.size w w4 := C4
    clear C4 
    clear y4
    go_wp2_with fail
    refine (nalive _).mono ?_
    rintro e wz ⟨rfl, hbz⟩
    go_wp2
    go_ret
    exact ⟨rfl, B4.trans (hbz.mono B4.size)⟩
  have hm : mayB a0 = true ∧ mayB a1 = true ∧ mayB a2 = true := by
    have h1 := WR.out
    have h2 := WR2.out
    rw [Bool.or_eq_false_iff, Bool.not_eq_false', Bool.not_eq_false'] at h1 h2
    exact ⟨h1.1, h1.2, h2.1⟩
  have hz : a0.size ≤ 60 ∧ a1.size ≤ 60 ∧ a2.size ≤ 60 := by
    have h1 := PL.out
    have h2 := PL2.out
    rw [Bool.and_eq_true, decide_eq_true_iff, decide_eq_true_iff] at h1 h2
    exact ⟨h1.1, h1.2, h2.1⟩
  obtain ⟨x, hx, lx⟩ := mayB_is a0 hm.1
  obtain ⟨y, hy, ly⟩ := mayB_is a1 hm.2.1
  obtain ⟨z, hz2, lz⟩ := mayB_is a2 hm.2.2
  have sx : nl x ≤ 60 := by rw [← nbA_size, hx]; exact hz.1
  have sy : nl y ≤ 60 := by rw [← nbA_size, hy]; exact hz.2.1
  have sz : nl z ≤ 60 := by rw [← nbA_size, hz2]; exact hz.2.2
  obtain ⟨S, hS⟩ : ∃ v, nbA (x + y) = v := ⟨_, rfl⟩
  obtain ⟨T, hT⟩ : ∃ v, nbA ((x + y) * z) = v := ⟨_, rfl⟩
  obtain ⟨X, hX⟩ : ∃ v, nbA (x * z) = v := ⟨_, rfl⟩
  obtain ⟨Y, hY⟩ : ∃ v, nbA (y * z) = v := ⟨_, rfl⟩
  have n1 := nl_add_le x y 60 sx sy
  have n2 := nl_mul_le (x + y) z
  have n3 := nl_mul_le x z
  have n4 := nl_mul_le y z
  have eT : x * z + y * z = (x + y) * z := (Nat.add_mul x y z).symm
  have A1 : Box (lg (x + y) = (S, 0)) := box (lg_ok _ _ (by omega) hS)
  have A2 : Box (lg ((x + y) * z) = (T, 0)) := box (lg_ok _ _ (by omega) hT)
  have A3 : Box (lg (x * z) = (X, 0)) := box (lg_ok _ _ (by omega) hX)
  have A4 : Box (lg (y * z) = (Y, 0)) := box (lg_ok _ _ (by omega) hY)
  have A5 : Box (lg (x * z + y * z) = (T, 0)) := box (by rw [eT]; exact lg_ok _ _ (by omega) hT)
  have A6 : Box (sb (x + y) y = (a0, 0)) := box (by unfold sb; rw [if_neg (by omega), Nat.add_sub_cancel, hx])
  have A7 : Box (lg (z * x) = (X, 0)) := box (by rw [Nat.mul_comm]; exact lg_ok _ _ (by omega) hX)
  have HX := box hx
  have HY := box hy
  have HZ := box hz2
  have HS := box hS
  have HT := box hT
  have HXX := box hX
  have HYY := box hY
  have LX := box lx
  have LY := box ly
  have LZ := box lz
  have L1 : Box (nl (x + y) ≤ 16384) := box (by omega)
  have L2 : Box (nl (x * z) ≤ 16384) := box (by omega)
  have L3 : Box (nl (y * z) ≤ 16384) := box (by omega)
  clear hx hy hz2 lx ly lz hS hT hX hY n1 n2 n3 n4 eT hm hz sx sy sz
  go_enter Try.func4, Try.ntmps4
  have B0 : Below w.heap.size w w := (Below.refl _ _)
  go_wp2_with fail
  refine (nat_play a0 a1 60 60 true rfl PL.out _).mono ?_
  rintro e w1 ⟨rfl, hb1⟩
  have C1 : Below w.heap.size w w1 := B0.trans (hb1.mono B0.size)
  have y1 := C1.size
  clear hb1 B0 
  have B1 : Below w.heap.size w w1 := C1
  clear C1 
  clear y1
  go_wp2_with fail
  refine (nat_play a2 ⟨#[]⟩ 60 60 true rfl PL2.out _).mono ?_
  rintro e w2 ⟨rfl, hb2⟩
  have C2 : Below w.heap.size w w2 := B1.trans (hb2.mono B1.size)
  have y2 := C2.size
  clear hb2 B1 
  have B2 : Below w.heap.size w w2 := C2
  clear C2 
  clear y2
  go_wp2_with fail
  refine (nat_wrong a0 a1 false WR.out _).mono ?_
  rintro e w3 ⟨rfl, hb3⟩
  have C3 : Below w.heap.size w w3 := B2.trans (hb3.mono B2.size)
  have y3 := C3.size
  clear hb3 B2 
  have B3 : Below w.heap.size w w3 := C3
  clear C3 
  clear y3
  go_wp2_with fail
  refine (nat_wrong a2 ⟨#[]⟩ false WR2.out _).mono ?_
  rintro e w4 ⟨rfl, hb4⟩
  have C4 : Below w.heap.size w w4 := B3.trans (hb4.mono B3.size)
  have y4 := C4.size
  clear hb4 B3 
  have B4 : Below w.heap.size w w4 := C4
  clear C4 
  clear y4
  go_wp2_with fail
  refine (pn_add_ok x y a0 a1 S 0 HX.out HY.out LX.out LY.out A1.out _).mono ?_
  rintro e w5 ⟨rfl, hb5⟩
  have C5 : Below w.heap.size w w5 := B4.trans (hb5.mono B4.size)
  have y5 := C5.size
  clear hb5 B4 
  have B5 : Below w.heap.size w w5 := C5
  clear C5 
  clear y5
  go_wp2_with fail
  refine (pn_mul_ok (x + y) z S a2 T 0 HS.out HZ.out L1.out LZ.out A2.out _).mono ?_
  rintro e w6 ⟨rfl, hb6⟩
  have C6 : Below w.heap.size w w6 := B5.trans (hb6.mono B5.size)
  have y6 := C6.size
  clear hb6 B5 
  have B6 : Below w.heap.size w w6 := C6
  clear C6 
  clear y6
  go_wp2_with fail
  refine (pn_mul_ok x z a0 a2 X 0 HX.out HZ.out LX.out LZ.out A3.out _).mono ?_
  rintro e w7 ⟨rfl, hb7⟩
  have C7 : Below w.heap.size w w7 := B6.trans (hb7.mono B6.size)
  have y7 := C7.size
  clear hb7 B6 
  have B7 : Below w.heap.size w w7 := C7
  clear C7 
  clear y7
  go_wp2_with fail
  refine (pn_mul_ok y z a1 a2 Y 0 HY.out HZ.out LY.out LZ.out A4.out _).mono ?_
  rintro e w8 ⟨rfl, hb8⟩
  have C8 : Below w.heap.size w w8 := B7.trans (hb8.mono B7.size)
  have y8 := C8.size
  clear hb8 B7 
  have B8 : Below w.heap.size w w8 := C8
  clear C8 
  clear y8
  go_wp2_with fail
  refine (pn_add_ok (x * z) (y * z) X Y T 0 HXX.out HYY.out L2.out L3.out A5.out _).mono ?_
  rintro e w9 ⟨rfl, hb9⟩
  have C9 : Below w.heap.size w w9 := B8.trans (hb9.mono B8.size)
  have y9 := C9.size
  clear hb9 B8 
  have B9 : Below w.heap.size w w9 := C9
  clear C9 
  clear y9
  go_wp2_with fail
  refine (pn_sub_ok (x + y) y S a1 a0 0 HS.out HY.out L1.out LY.out A6.out _).mono ?_
  rintro e w10 ⟨rfl, hb10⟩
  have C10 : Below w.heap.size w w10 := B9.trans (hb10.mono B9.size)
  have y10 := C10.size
  clear hb10 B9 
  have B10 : Below w.heap.size w w10 := C10
  clear C10 
  clear y10
  go_wp2_with fail
  refine (pn_mul_ok z x a2 a0 X 0 HZ.out HX.out LZ.out LX.out A7.out _).mono ?_
  rintro e w11 ⟨rfl, hb11⟩
  have C11 : Below w.heap.size w w11 := B10.trans (hb11.mono B10.size)
  have y11 := C11.size
  clear hb11 B10 
  have B11 : Below w.heap.size w w11 := C11
  clear C11 
  clear y11
  go_wp2_with fail
  refine (nalive _).mono ?_
  rintro e wz ⟨rfl, hbz⟩
  go_wp2
  go_ret
  exact ⟨rfl, B11.trans (hbz.mono B11.size)⟩

set_option maxRecDepth 100000 in
theorem lifted (os : Os) (started : os.Started) (H : Type) (enc : TypeId × Value → H) :
    ReturnsInHanded {} Try.checked os 4 .any (Rows.natRingSpec.pre6 enc Try.prog Try.f4 Rows.natRingRow.domain false) (Rows.natRingSpec.post enc Try.prog Try.f4 false true false false) := by
  refine returnsInHanded_of_change (C := Try.checked) own started (by kernel_rfl) Try.func4
    (ChangeSpec.witness6 (enc := enc) (C := Try.checked) false ⟨#[], #[.string ⟨#[]⟩, .string ⟨#[]⟩, .string ⟨#[]⟩], []⟩ 8 (by kernel_rfl) (by kernel_rfl) (by kernel_rfl) (by kernel_rfl)) ?_
  intro W base args ds gs before hval0 hW hcnd _
  have hval : ∀ (j : Nat) t v, Try.f4.params[j]? = some t → args[j]? = some v → Value.okWide Try.prog W .any base t v := hval0
  have hW' := hW
  obtain ⟨p, q, hA0, hV, rfl, hfz, hnd⟩ := hW
  have hA : DataW.TrodAll enc Try.prog W 0 (fun _ => true) true Try.f4.params.toList args.toList ds p := hA0
  rw [Try.params4] at hA hval
  obtain ⟨v0, vs0, d0, ds0, p0, q0, hargs, rfl, rfl, k0, r0⟩ := trodAll_cons hA
  obtain ⟨v1, vs1, d1, ds1, p1, q1, rfl, rfl, rfl, k1, r1⟩ := trodAll_cons r0
  obtain ⟨v2, vs2, d2, ds2, p2, q2, rfl, rfl, rfl, k2, r2⟩ := trodAll_cons r1
  obtain ⟨rfl, rfl, rfl⟩ := trodAll_nil r2
  obtain rfl : args = #[v0, v1, v2] := by cases args; simp_all
  obtain ⟨rfl, rfl⟩ := trodVars_none hV
  obtain ⟨a0, rfl, rfl, rfl, h0⟩ := open_string Try.underlying22 (hval 0 22 v0 rfl rfl) k0
  obtain ⟨a1, rfl, rfl, rfl, h1⟩ := open_string Try.underlying22 (hval 1 22 v1 rfl rfl) k1
  obtain ⟨a2, rfl, rfl, rfl, h2⟩ := open_string Try.underlying22 (hval 2 22 v2 rfl rfl) k2
  clear hA0 hval0
  simp only [List.append_nil] at hW'
  refine (walk a0 a1 a2 h0 h1 h2 W).mono fun e W' ⟨he, hg⟩ => ?_
  subst he
  exact ⟨_, rfl, post_plain hW' (fun _ _ _ => (trodAll_cons_mk (shut_bool Try.underlying4 _) trodAll_mk0)) (fun sp => (trodAll_cons_mk (shut_string Try.underlying22 h0) (trodAll_cons_mk (shut_string Try.underlying22 h1) (trodAll_cons_mk (shut_string Try.underlying22 h2) trodAll_mk0)))) (fun _ => rfl) hg (ok_one (by kernel_rfl) rfl (okWide_bool_mk Try.underlying4 _))⟩

theorem over : Rows.natRingRow.holds Try.pinned (OpenSpec.ofChange Rows.natRingSpec) :=
  OpenClaim.holds_of_wide 4 Try.f4 rfl rfl rfl rfl rfl rfl rfl ⟨rfl, rfl, rfl, rfl, rfl⟩ rfl rfl rfl rfl rfl (by kernel_rfl) Try.func4 (by kernel_rfl)
    (of_decide_eq_true (by kernel_rfl)) (by unfold Func.isWrapper; first | (rw [if_pos (by decide +kernel)]; kernel_rfl) | (rw [if_neg (by decide +kernel)]; exact ⟨rfl, rfl⟩))
    (fun os started H enc _ => lifted os started H enc)

theorem proved : Rows.NatRingSaid :=
  over
#print axioms proved
end Go.Proofs.Ytjedplbhhohfmab.natRing
