/-
  NatSums returns true for every two strings: compared, added, subtracted as the document says.
-/
import Derived.Test.YtjedplbhhohfmaaRows
import Derived.WalkKit
import Derived.ProofKit
import Derived.OpenShut
import Derived.Test.YtjedplbhhohfmaaFrame6
import Derived.Test.YtjedplbhhohfmaaNalive
import Derived.ChangeMaps5
namespace Go.Proofs.Ytjedplbhhohfmaa.natSums
open WMath
open Go.ChangeShapes Go.WideShapes Go.ChangeAt Go.RowKit
open Go.ChangeMaps (open_string shut_string)
set_option linter.unusedVariables false

theorem own : ownKnob Try.prog.godebug = none := by kernel_rfl

set_option maxRecDepth 100000 in
set_option maxHeartbeats 4000000 in
theorem walk (a0 : ByteArray) (a1 : ByteArray) (h0 : a0.size ≤ maxLen) (h1 : a1.size ≤ maxLen) (w : World) :
    Calls Try.prog 3 #[.string a0, .string a1] w fun e w' => e = .returned (.bool true) ∧ Below w.heap.size w w' := by
  by_cases hm : mayB a0 = true ∧ mayB a1 = true
  · obtain ⟨hm0, hm1⟩ := hm
    obtain ⟨x, hx, lx⟩ := mayB_is a0 hm0
    obtain ⟨y, hy, ly⟩ := mayB_is a1 hm1
    have WR : Box ((!mayB a0 || !mayB a1) = false) := box (by rw [hm0, hm1]; rfl)
    have HX := box hx
    have HY := box hy
    have LX := box lx
    have LY := box ly
    have LX2 : Box (nl x ≤ 20000) := box (by omega)
    have LY2 : Box (nl y ≤ 20000) := box (by omega)
    clear hx hy lx ly hm0 hm1
    obtain ⟨c, hc⟩ : ∃ c, cmpv x y = c := ⟨_, rfl⟩
    obtain ⟨s, e, hr⟩ : ∃ s e, lg (x + y) = (s, e) := ⟨_, _, rfl⟩
    obtain ⟨d, f, hd⟩ : ∃ d f, sb x y = (d, f) := ⟨_, _, rfl⟩
    have HC := box hc
    have HR := box hr
    have HD := box hd
    clear hc hr hd
    go_enter Try.func3, Try.ntmps3
    have B0 : Below w.heap.size w w := (Below.refl _ _)
    go_wp2_with fail
    refine (pn_cmp_ok x y a0 a1 c HX.out HY.out LX.out LY.out HC.out _).mono ?_
    rintro e w1 ⟨rfl, hb1⟩
    have C1 : Below w.heap.size w w1 := B0.trans (hb1.mono B0.size)
    have y1 := C1.size
    clear hb1 B0 
    have B1 : Below w.heap.size w w1 := C1
    clear C1 
    clear y1
    go_wp2_with fail
    refine (pn_add_ok x y a0 a1 s e HX.out HY.out LX.out LY.out HR.out _).mono ?_
    rintro e w2 ⟨rfl, hb2⟩
    have C2 : Below w.heap.size w w2 := B1.trans (hb2.mono B1.size)
    have y2 := C2.size
    clear hb2 B1 
    have B2 : Below w.heap.size w w2 := C2
    clear C2 
    clear y2
    go_wp2_with fail
    refine (pn_sub_ok x y a0 a1 d f HX.out HY.out LX.out LY.out HD.out _).mono ?_
    rintro e w3 ⟨rfl, hb3⟩
    have C3 : Below w.heap.size w w3 := B2.trans (hb3.mono B2.size)
    have y3 := C3.size
    clear hb3 B2 
    have B3 : Below w.heap.size w w3 := C3
    clear C3 
    clear y3
    go_wp2_with fail
    refine (nat_wrong a0 a1 false WR.out _).mono ?_
    rintro e w4 ⟨rfl, hb4⟩
    have C4 : Below w.heap.size w w4 := B3.trans (hb4.mono B3.size)
    have y4 := C4.size
    clear hb4 B3 
    have B4 : Below w.heap.size w w4 := C4
    clear C4 
    clear y4
    go_wp2_with fail
    refine (nat_Add x y a0 a1 s e HX.out HY.out HR.out LX2.out LY2.out _).mono ?_
    rintro e w5 ⟨rfl, hb5⟩
    have C5 : Below w.heap.size w w5 := B4.trans (hb5.mono B4.size)
    have y5 := C5.size
    clear hb5 B4 
    have B5 : Below w.heap.size w w5 := C5
    clear C5 
    clear y5
    go_wp2_with fail
    refine (nat_Sub x y a0 a1 d f HX.out HY.out HD.out LX2.out _).mono ?_
    rintro e w6 ⟨rfl, hb6⟩
    have C6 : Below w.heap.size w w6 := B5.trans (hb6.mono B5.size)
    have y6 := C6.size
    clear hb6 B5 
    have B6 : Below w.heap.size w w6 := C6
    clear C6 
    clear y6
    go_wp2_with fail
    refine (bel (nat_cmp x y a0 a1 c HX.out HY.out HC.out _)).mono ?_
    rintro e w7 ⟨rfl, hb7⟩
    have C7 : Below w.heap.size w w7 := B6.trans (hb7.mono B6.size)
    have y7 := C7.size
    clear hb7 B6 
    have B7 : Below w.heap.size w w7 := C7
    clear C7 
    clear y7
    go_wp2_with fail
    refine (nalive _).mono ?_
    rintro e wz ⟨rfl, hbz⟩
    go_wp2
    go_ret
    exact ⟨rfl, B7.trans (hbz.mono B7.size)⟩
  · skip
    have hn : mayB a0 = false ∨ mayB a1 = false := by
      cases e0 : mayB a0
      · exact Or.inl rfl
      · cases e1 : mayB a1
        · exact Or.inr rfl
        · exact absurd ⟨e0, e1⟩ hm
    have WR : Box ((!mayB a0 || !mayB a1) = true) := box (by rcases hn with h | h <;> rw [h] <;> simp)
    have HN := box hn
    clear hn hm
    go_enter Try.func3, Try.ntmps3
    have B0 : Below w.heap.size w w := (Below.refl _ _)
    go_wp2_with fail
    refine (pn_cmp_no a0 a1 HN.out _).mono ?_
    rintro e w1 ⟨rfl, hb1⟩
    have C1 : Below w.heap.size w w1 := B0.trans (hb1.mono B0.size)
    have y1 := C1.size
    clear hb1 B0 
    have B1 : Below w.heap.size w w1 := C1
    clear C1 
    clear y1
    go_wp2_with fail
    refine (pn_add_no a0 a1 HN.out _).mono ?_
    rintro e w2 ⟨rfl, hb2⟩
    have C2 : Below w.heap.size w w2 := B1.trans (hb2.mono B1.size)
    have y2 := C2.size
    clear hb2 B1 
    have B2 : Below w.heap.size w w2 := C2
    clear C2 
    clear y2
    go_wp2_with fail
    refine (pn_sub_no a0 a1 HN.out _).mono ?_
    rintro e w3 ⟨rfl, hb3⟩
    have C3 : Below w.heap.size w w3 := B2.trans (hb3.mono B2.size)
    have y3 := C3.size
    clear hb3 B2 
    have B3 : Below w.heap.size w w3 := C3
    clear C3 
    clear y3
    go_wp2_with fail
    refine (nat_wrong a0 a1 true WR.out _).mono ?_
    rintro e w4 ⟨rfl, hb4⟩
    have C4 : Below w.heap.size w w4 := B3.trans (hb4.mono B3.size)
    have y4 := C4.size
    clear hb4 B3 
    have B4 : Below w.heap.size w w4 := C4
    clear C4 
    clear y4
    go_wp2_with fail
    refine (nalive _).mono ?_
    rintro e wz ⟨rfl, hbz⟩
    go_wp2
    go_ret
    exact ⟨rfl, B4.trans (hbz.mono B4.size)⟩

set_option maxRecDepth 100000 in
theorem lifted (os : Os) (started : os.Started) (H : Type) (enc : TypeId × Value → H) :
    ReturnsInHanded {} Try.checked os 3 .any (Rows.natSumsSpec.pre6 enc Try.prog Try.f3 Rows.natSumsRow.domain false) (Rows.natSumsSpec.post enc Try.prog Try.f3 false true false false) := by
  refine returnsInHanded_of_change (C := Try.checked) own started (by kernel_rfl) Try.func3
    (ChangeSpec.witness6 (enc := enc) (C := Try.checked) false ⟨#[], #[.string ⟨#[]⟩, .string ⟨#[]⟩], []⟩ 8 (by kernel_rfl) (by kernel_rfl) (by kernel_rfl) (by kernel_rfl)) ?_
  intro W base args ds gs before hval0 hW hcnd _
  have hval : ∀ (j : Nat) t v, Try.f3.params[j]? = some t → args[j]? = some v → Value.okWide Try.prog W .any base t v := hval0
  have hW' := hW
  obtain ⟨p, q, hA0, hV, rfl, hfz, hnd⟩ := hW
  have hA : DataW.TrodAll enc Try.prog W 0 (fun _ => true) true Try.f3.params.toList args.toList ds p := hA0
  rw [Try.params3] at hA hval
  obtain ⟨v0, vs0, d0, ds0, p0, q0, hargs, rfl, rfl, k0, r0⟩ := trodAll_cons hA
  obtain ⟨v1, vs1, d1, ds1, p1, q1, rfl, rfl, rfl, k1, r1⟩ := trodAll_cons r0
  obtain ⟨rfl, rfl, rfl⟩ := trodAll_nil r1
  obtain rfl : args = #[v0, v1] := by cases args; simp_all
  obtain ⟨rfl, rfl⟩ := trodVars_none hV
  obtain ⟨a0, rfl, rfl, rfl, h0⟩ := open_string Try.underlying22 (hval 0 22 v0 rfl rfl) k0
  obtain ⟨a1, rfl, rfl, rfl, h1⟩ := open_string Try.underlying22 (hval 1 22 v1 rfl rfl) k1
  clear hA0 hval0
  simp only [List.append_nil] at hW'
  refine (walk a0 a1 h0 h1 W).mono fun e W' ⟨he, hg⟩ => ?_
  subst he
  exact ⟨_, rfl, post_plain hW' (fun _ _ _ => (trodAll_cons_mk (shut_bool Try.underlying4 _) trodAll_mk0)) (fun sp => (trodAll_cons_mk (shut_string Try.underlying22 h0) (trodAll_cons_mk (shut_string Try.underlying22 h1) trodAll_mk0))) (fun _ => rfl) hg (ok_one (by kernel_rfl) rfl (okWide_bool_mk Try.underlying4 _))⟩

theorem over : Rows.natSumsRow.holds Try.pinned (OpenSpec.ofChange Rows.natSumsSpec) :=
  OpenClaim.holds_of_wide 3 Try.f3 rfl rfl rfl rfl rfl rfl rfl ⟨rfl, rfl, rfl, rfl, rfl⟩ rfl rfl rfl rfl rfl (by kernel_rfl) Try.func3 (by kernel_rfl)
    (of_decide_eq_true (by kernel_rfl)) (by unfold Func.isWrapper; first | (rw [if_pos (by decide +kernel)]; kernel_rfl) | (rw [if_neg (by decide +kernel)]; exact ⟨rfl, rfl⟩))
    (fun os started H enc _ => lifted os started H enc)

theorem proved : Rows.NatSumsSaid :=
  over
#print axioms proved
end Go.Proofs.Ytjedplbhhohfmaa.natSums
