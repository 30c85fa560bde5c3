/-
  What the functions withoutTwos, shorten, form, Make, ofWord, Whole and Word of package exact return.
-/
import Derived.Test.YtknkkagapcigfaaDoorX3
import Derived.Test.YtknkkagapcigfaaDoorList15
namespace Go.Proofs.YtknkkagapcigfaaDoor
open Go.RowKit WMath XMath

theorem twosx (a : Nat) (s v : ByteArray) (hs : nbA a = s) (ha : nl a ≤ 16384) (hv : nbA (od a) = v) (w : World) (hT : TabAt w) : Calls Tryd.prog 30 #[.string s] w fun r w' => r = .returned (.string v) ∧ Below w.heap.size w w' := by
  obtain ⟨t, ht⟩ : ∃ t, tz a = t := ⟨_, rfl⟩
  have HL := box (tz_low a)
  rw [ht] at HL
  have t2 : t ≤ 131072 := by
    have := tz_blen a
    rw [ht] at this
    unfold nl at ha
    omega
  obtain ⟨o, ho⟩ : ∃ o, decide (a % 2 ^ (t : Int).toNat ≠ 0) = o := ⟨_, rfl⟩
  have HV : Box (nbA (a / 2 ^ (t : Int).toNat) = v) := box (by rw [Int.toNat_natCast, ← ht]; exact hv)
  have HO := box ho
  have HS := box hs
  have HA := box ha
  have TT := box hT
  clear hs ha hv ht ho hT
  have B0 : Below w.heap.size w w := (Below.refl _ _)
  go_enter Tryd.func30, Tryd.ntmps30
  go_wp2_with fail
  refine (pn_low_ok a t s HS.out HA.out HL.out _ (tabB TT.out B0)).mono ?_
  rintro r w1 ⟨rfl, b1⟩
  have B1 : Below w.heap.size w w1 := btr B0 b1
  clear b1 B0 
  go_wp2_with fail
  refine (pn_right_ok a (t : Int) s v o HS.out HA.out (by omega) (by omega) HV.out HO.out _ (tabB TT.out B1)).mono ?_
  rintro r w2 ⟨rfl, b2⟩
  have B2 : Below w.heap.size w w2 := btr B1 b2
  clear b2 B1 
  go_wp2
  go_ret
  exact ⟨rfl, B2⟩

theorem shortenx (a b : Nat) (s t u v : ByteArray) (hs : nbA a = s) (ht : nbA b = t) (ha : nl a ≤ 16384) (hb : nl b ≤ 16384) (a0 : a ≠ 0) (hu : nbA (a / Nat.gcd a b) = u) (hv : nbA (b / Nat.gcd a b) = v) (w : World) :
    Calls Tryd.prog 29 #[.string s, .string t] w fun r w' => r = .returned (.tuple #[.string u, .string v]) ∧ Below w.heap.size w w' := by
  obtain ⟨g, hg⟩ : ∃ g, Nat.gcd a b = g := ⟨_, rfl⟩
  have g0 : g ≠ 0 := by rw [← hg]; exact Nat.pos_iff_ne_zero.1 (Nat.gcd_pos_of_pos_left _ (by omega))
  have lg : nl g ≤ 16384 := Nat.le_trans (nl_mono _ _ (by rw [← hg]; exact Nat.gcd_le_left _ (by omega))) ha
  obtain ⟨x, hx⟩ : ∃ x, nbA g = x := ⟨_, rfl⟩
  obtain ⟨y, hy⟩ : ∃ x, nbA (a % g) = x := ⟨_, rfl⟩
  obtain ⟨z, hz⟩ : ∃ x, nbA (b % g) = x := ⟨_, rfl⟩
  rw [hg] at hu hv
  have HG : Box (nbA (Nat.gcd a b) = x) := box (by rw [hg]; exact hx)
  have HS := box hs
  have HT := box ht
  have HA := box ha
  have HB := box hb
  have HU := box hu
  have HV := box hv
  have HX := box hx
  have HY := box hy
  have HZ := box hz
  have LG := box lg
  clear hs ht ha hb hu hv hx hy hz lg hg a0
  have B0 : Below w.heap.size w w := (Below.refl _ _)
  go_enter Tryd.func29, Tryd.ntmps29
  go_wp2_with fail
  refine (pn_gcd_ok a b s t x HS.out HT.out HA.out HB.out HG.out _).mono ?_
  rintro r w1 ⟨rfl, b1⟩
  have B1 : Below w.heap.size w w1 := btr B0 b1
  clear b1 B0 
  go_wp2_with fail
  refine (pn_div_ok a g s x u y HS.out HX.out HA.out LG.out g0 HU.out HY.out _).mono ?_
  rintro r w2 ⟨rfl, b2⟩
  have B2 : Below w.heap.size w w2 := btr B1 b2
  clear b2 B1 
  go_wp2_with fail
  refine (pn_div_ok b g t x v z HT.out HX.out HB.out LG.out g0 HV.out HZ.out _).mono ?_
  rintro r w3 ⟨rfl, b3⟩
  have B3 : Below w.heap.size w w3 := btr B2 b3
  clear b3 B2 
  go_wp2
  go_ret2
  exact ⟨rfl, B3⟩

theorem mk_cases (neg : Bool) (n d : Nat) (e : Int) (rb : Bool) (rn rd : Nat) (re err : Int) (n0 : n ≠ 0) (hr : XMath.mk neg n d e = (⟨rb, rn, rd, re⟩, err)) :
    ((-1048576 ≤ e + (tz n : Int) - (tz d : Int) ∧ e + (tz n : Int) - (tz d : Int) ≤ 1048576) ∧ rb = neg ∧ rn = od n / Nat.gcd (od n) (od d) ∧ rd = od d / Nat.gcd (od n) (od d) ∧ re = e + (tz n : Int) - (tz d : Int) ∧ err = 0) ∨
    (¬ (-1048576 ≤ e + (tz n : Int) - (tz d : Int) ∧ e + (tz n : Int) - (tz d : Int) ≤ 1048576) ∧ rb = false ∧ rn = 0 ∧ rd = 0 ∧ re = 0 ∧ err = 4) := by
  unfold XMath.mk at hr
  rw [if_neg n0] at hr
  by_cases h : -1048576 ≤ e + (tz n : Int) - (tz d : Int) ∧ e + (tz n : Int) - (tz d : Int) ≤ 1048576
  · rw [if_pos h] at hr
    injection hr with h1 h2
    injection h1 with a b c d
    exact Or.inl ⟨h, a.symm, b.symm, c.symm, d.symm, h2.symm⟩
  · rw [if_neg h] at hr
    injection hr with h1 h2
    unfold XZ at h1
    injection h1 with a b c d
    exact Or.inr ⟨h, a.symm, b.symm, c.symm, d.symm, h2.symm⟩

set_option maxRecDepth 100000 in
set_option maxHeartbeats 4000000 in
theorem formx (neg : Bool) (n d : Nat) (e : Int) (s t : ByteArray) (rb : Bool) (rn rd : Nat) (re err : Int) (u v : ByteArray) (hs : nbA n = s) (ht : nbA d = t) (ln : nl n ≤ 16384) (ld : nl d ≤ 16384) (d0 : d ≠ 0) (he1 : -100000000 ≤ e) (he2 : e ≤ 100000000)
    (hr : XMath.mk neg n d e = (⟨rb, rn, rd, re⟩, err)) (hu : nbA rn = u) (hv : nbA rd = v) (w : World) (hT : TabAt w) :
    Calls Tryd.prog 21 #[.bool neg, .string s, .string t, .int .i64 e] w fun r w' => r = .returned (.tuple #[.agg #[.bool rb, .string u, .string v, .int .i64 re], .int .i64 err]) ∧ Below w.heap.size w w' := by
  by_cases n0 : n = 0
  · subst n0
    rw [mk_null] at hr
    injection hr with h1 h2
    unfold X0 at h1
    injection h1 with a b c d
    subst a b c d h2
    rw [nbA_zero] at hs hu
    rw [nb1] at hv
    subst hs hu hv
    clear ht ln ld
    have Rz_0 : (w.alloc (Obj.cells #[.bool false, .string ⟨#[]⟩, .string ⟨#[]⟩, .int .i64 0] 24)).heap[w.heap.size]? = some (Obj.cells #[.bool false, .string ⟨#[]⟩, .string ⟨#[]⟩, .int .i64 0] 24) := by have := heap_alloc_last w (Obj.cells #[.bool false, .string ⟨#[]⟩, .string ⟨#[]⟩, .int .i64 0] 24); simpa only [size_al] using this
    have B0 : Below w.heap.size w (w.alloc (Obj.cells #[.bool false, .string ⟨#[]⟩, .string ⟨#[]⟩, .int .i64 0] 24)) := ((Below.refl _ _).alloc (by first | omega | (simp only [size_al]; omega)) _)
    go_enter Tryd.func21, Tryd.ntmps21
    go_wp2_with fail
    refine (zerox _).mono ?_
    rintro r w1 ⟨rfl, b1⟩
    have B1 : Below w.heap.size w w1 := btr B0 b1
    have Rz_1 : w1.heap[w.heap.size]? = some (Obj.cells #[.bool false, .string ⟨#[]⟩, .string ⟨#[]⟩, .int .i64 0] 24) := heap_of b1 _ _ _ Rz_0
    clear b1 B0 Rz_0
    have cz_1_0 := cells4 Rz_1 0 _ rfl
    have cz_1_1 := cells4 Rz_1 1 _ rfl
    have cz_1_2 := cells4 Rz_1 2 _ rfl
    have cz_1_3 := cells4 Rz_1 3 _ rfl
    have q0 := fz (k := 0) Rz_1
    have q1 := fz (k := 1) Rz_1
    have q2 := fz (k := 2) Rz_1
    have q3 := fz (k := 3) Rz_1
    obtain ⟨E0, E1, E2, E3⟩ := set4_cells Rz_1 rfl (.bool false) (.string ⟨#[]⟩) (.string ⟨#[1]⟩) (.int .i64 0)
    go_wp2
    exact bodyPost_ret (v := .tuple #[.agg #[.bool false, .string ⟨#[]⟩, .string ⟨#[1]⟩, .int .i64 0], .int .i64 0]) (by simp [results, Tryd.results21, go_sem, E0, E1, E2, E3]) rfl ⟨rfl, set4_below B1 (by first | exact Nat.le_refl _ | omega) _ _ _ _⟩
  · have e0 := eq_nil n s hs n0
    obtain ⟨x, hx⟩ : ∃ x, tz n = x := ⟨_, rfl⟩
    obtain ⟨y, hy⟩ : ∃ x, tz d = x := ⟨_, rfl⟩
    have LX := box (tz_low n)
    have LY := box (tz_low d)
    have x2 : x ≤ 131072 := by have := tz_blen n; rw [hx] at this; unfold nl at ln; omega
    have y2 : y ≤ 131072 := by have := tz_blen d; rw [hy] at this; unfold nl at ld; omega
    have hc := mk_cases neg n d e rb rn rd re err n0 hr
    rw [hx, hy] at hc
    rw [hx] at LX
    rw [hy] at LY
    have HS := box hs
    have HT := box ht
    have LN := box ln
    have LD := box ld
    have TT := box hT
    obtain ⟨E, hE⟩ : ∃ E, e + (x : Int) - (y : Int) = E := ⟨_, rfl⟩
    rw [hE] at hc
    have k1 : IntKind.i64.wrap ((x : Int) - (y : Int)) = (x : Int) - (y : Int) := wrap_i64_is _ (by omega) (by omega)
    have k2 : IntKind.i64.wrap (e + ((x : Int) - (y : Int))) = E := by rw [wrap_i64_is _ (by omega) (by omega)]; omega
    rcases hc with ⟨hc, rfl, rfl, rfl, rfl, rfl⟩ | ⟨hc, rfl, rfl, rfl, rfl, rfl⟩
    · have HG : Box ((decide (-1048576 ≤ re) && decide (re ≤ 1048576)) = true) := box (by rw [decide_eq_true hc.1, decide_eq_true hc.2]; rfl)
      obtain ⟨o1, o2⟩ := od_is n n0
      obtain ⟨o3, o4⟩ := od_is d d0
      obtain ⟨p, hp⟩ : ∃ p, nbA (od n) = p := ⟨_, rfl⟩
      obtain ⟨q, hq⟩ : ∃ p, nbA (od d) = p := ⟨_, rfl⟩
      have HP := box hp
      have HQ := box hq
      have HU := box hu
      have HV := box hv
      have L1 : Box (nl (od n) ≤ 16384) := box (Nat.le_trans (nl_mono _ _ (od_le n)) ln)
      have L2 : Box (nl (od d) ≤ 16384) := box (Nat.le_trans (nl_mono _ _ (od_le d)) ld)
      have Z : Box (od n ≠ 0) := box (by omega)
      clear hs ht ln ld hT hr hx hy hE hc o1 o2 o3 o4 hp hq hu hv n0 d0
      have Rz_0 : (w.alloc (Obj.cells #[.bool false, .string ⟨#[]⟩, .string ⟨#[]⟩, .int .i64 0] 24)).heap[w.heap.size]? = some (Obj.cells #[.bool false, .string ⟨#[]⟩, .string ⟨#[]⟩, .int .i64 0] 24) := by have := heap_alloc_last w (Obj.cells #[.bool false, .string ⟨#[]⟩, .string ⟨#[]⟩, .int .i64 0] 24); simpa only [size_al] using this
      have B0 : Below w.heap.size w (w.alloc (Obj.cells #[.bool false, .string ⟨#[]⟩, .string ⟨#[]⟩, .int .i64 0] 24)) := ((Below.refl _ _).alloc (by first | omega | (simp only [size_al]; omega)) _)
      go_enter Tryd.func21, Tryd.ntmps21
      go_wp2_with fail
      refine (pn_low_ok n x s HS.out LN.out LX.out _ (tabB TT.out B0)).mono ?_
      rintro r w1 ⟨rfl, b1⟩
      have B1 : Below w.heap.size w w1 := btr B0 b1
      have Rz_1 : w1.heap[w.heap.size]? = some (Obj.cells #[.bool false, .string ⟨#[]⟩, .string ⟨#[]⟩, .int .i64 0] 24) := heap_of b1 _ _ _ Rz_0
      clear b1 B0 Rz_0
      have cz_1_0 := cells4 Rz_1 0 _ rfl
      have cz_1_1 := cells4 Rz_1 1 _ rfl
      have cz_1_2 := cells4 Rz_1 2 _ rfl
      have cz_1_3 := cells4 Rz_1 3 _ rfl
      go_wp2_with fail
      refine (pn_low_ok d y t HT.out LD.out LY.out _ (tabB TT.out B1)).mono ?_
      rintro r w2 ⟨rfl, b2⟩
      have B2 : Below w.heap.size w w2 := btr B1 b2
      have Rz_2 : w2.heap[w.heap.size]? = some (Obj.cells #[.bool false, .string ⟨#[]⟩, .string ⟨#[]⟩, .int .i64 0] 24) := heap_of b2 _ _ _ Rz_1
      clear b2 B1 Rz_1 cz_1_0 cz_1_1 cz_1_2 cz_1_3
      have cz_2_0 := cells4 Rz_2 0 _ rfl
      have cz_2_1 := cells4 Rz_2 1 _ rfl
      have cz_2_2 := cells4 Rz_2 2 _ rfl
      have cz_2_3 := cells4 Rz_2 3 _ rfl
      go_wp2_with fail
      refine (withinx re 1048576 true (by decide) (by decide) HG.out _).mono ?_
      rintro r w3 ⟨rfl, b3⟩
      have B3 : Below w.heap.size w w3 := btr B2 b3
      have Rz_3 : w3.heap[w.heap.size]? = some (Obj.cells #[.bool false, .string ⟨#[]⟩, .string ⟨#[]⟩, .int .i64 0] 24) := heap_of b3 _ _ _ Rz_2
      clear b3 B2 Rz_2 cz_2_0 cz_2_1 cz_2_2 cz_2_3
      have cz_3_0 := cells4 Rz_3 0 _ rfl
      have cz_3_1 := cells4 Rz_3 1 _ rfl
      have cz_3_2 := cells4 Rz_3 2 _ rfl
      have cz_3_3 := cells4 Rz_3 3 _ rfl
      go_wp2_with fail
      refine (twosx n s p HS.out LN.out HP.out _ (tabB TT.out B3)).mono ?_
      rintro r w4 ⟨rfl, b4⟩
      have B4 : Below w.heap.size w w4 := btr B3 b4
      have Rz_4 : w4.heap[w.heap.size]? = some (Obj.cells #[.bool false, .string ⟨#[]⟩, .string ⟨#[]⟩, .int .i64 0] 24) := heap_of b4 _ _ _ Rz_3
      clear b4 B3 Rz_3 cz_3_0 cz_3_1 cz_3_2 cz_3_3
      have cz_4_0 := cells4 Rz_4 0 _ rfl
      have cz_4_1 := cells4 Rz_4 1 _ rfl
      have cz_4_2 := cells4 Rz_4 2 _ rfl
      have cz_4_3 := cells4 Rz_4 3 _ rfl
      go_wp2_with fail
      refine (twosx d t q HT.out LD.out HQ.out _ (tabB TT.out B4)).mono ?_
      rintro r w5 ⟨rfl, b5⟩
      have B5 : Below w.heap.size w w5 := btr B4 b5
      have Rz_5 : w5.heap[w.heap.size]? = some (Obj.cells #[.bool false, .string ⟨#[]⟩, .string ⟨#[]⟩, .int .i64 0] 24) := heap_of b5 _ _ _ Rz_4
      clear b5 B4 Rz_4 cz_4_0 cz_4_1 cz_4_2 cz_4_3
      have cz_5_0 := cells4 Rz_5 0 _ rfl
      have cz_5_1 := cells4 Rz_5 1 _ rfl
      have cz_5_2 := cells4 Rz_5 2 _ rfl
      have cz_5_3 := cells4 Rz_5 3 _ rfl
      go_wp2_with fail
      refine (shortenx (od n) (od d) p q u v HP.out HQ.out L1.out L2.out Z.out HU.out HV.out _).mono ?_
      rintro r w6 ⟨rfl, b6⟩
      have B6 : Below w.heap.size w w6 := btr B5 b6
      have Rz_6 : w6.heap[w.heap.size]? = some (Obj.cells #[.bool false, .string ⟨#[]⟩, .string ⟨#[]⟩, .int .i64 0] 24) := heap_of b6 _ _ _ Rz_5
      clear b6 B5 Rz_5 cz_5_0 cz_5_1 cz_5_2 cz_5_3
      have cz_6_0 := cells4 Rz_6 0 _ rfl
      have cz_6_1 := cells4 Rz_6 1 _ rfl
      have cz_6_2 := cells4 Rz_6 2 _ rfl
      have cz_6_3 := cells4 Rz_6 3 _ rfl
      have q0 := fz (k := 0) Rz_6
      have q1 := fz (k := 1) Rz_6
      have q2 := fz (k := 2) Rz_6
      have q3 := fz (k := 3) Rz_6
      obtain ⟨E0, E1, E2, E3⟩ := set4_cells Rz_6 rfl (.bool rb) (.string u) (.string v) (.int .i64 re)
      go_wp2
      exact bodyPost_ret (v := .tuple #[.agg #[.bool rb, .string u, .string v, .int .i64 re], .int .i64 0]) (by simp [results, Tryd.results21, go_sem, E0, E1, E2, E3]) rfl ⟨rfl, set4_below B6 (by first | exact Nat.le_refl _ | omega) _ _ _ _⟩
    · have HG : Box ((decide (-1048576 ≤ E) && decide (E ≤ 1048576)) = false) := box (by
        rw [Bool.eq_false_iff]
        intro h
        exact hc (by simpa using h))
      rw [nbA_zero] at hu hv
      subst hu hv
      clear hs ht ln ld hT hr hx hy hE hc n0 d0
      have Rz_0 : (w.alloc (Obj.cells #[.bool false, .string ⟨#[]⟩, .string ⟨#[]⟩, .int .i64 0] 24)).heap[w.heap.size]? = some (Obj.cells #[.bool false, .string ⟨#[]⟩, .string ⟨#[]⟩, .int .i64 0] 24) := by have := heap_alloc_last w (Obj.cells #[.bool false, .string ⟨#[]⟩, .string ⟨#[]⟩, .int .i64 0] 24); simpa only [size_al] using this
      have B0 : Below w.heap.size w (w.alloc (Obj.cells #[.bool false, .string ⟨#[]⟩, .string ⟨#[]⟩, .int .i64 0] 24)) := ((Below.refl _ _).alloc (by first | omega | (simp only [size_al]; omega)) _)
      go_enter Tryd.func21, Tryd.ntmps21
      go_wp2_with fail
      refine (pn_low_ok n x s HS.out LN.out LX.out _ (tabB TT.out B0)).mono ?_
      rintro r w1 ⟨rfl, b1⟩
      have B1 : Below w.heap.size w w1 := btr B0 b1
      have Rz_1 : w1.heap[w.heap.size]? = some (Obj.cells #[.bool false, .string ⟨#[]⟩, .string ⟨#[]⟩, .int .i64 0] 24) := heap_of b1 _ _ _ Rz_0
      clear b1 B0 Rz_0
      have cz_1_0 := cells4 Rz_1 0 _ rfl
      have cz_1_1 := cells4 Rz_1 1 _ rfl
      have cz_1_2 := cells4 Rz_1 2 _ rfl
      have cz_1_3 := cells4 Rz_1 3 _ rfl
      go_wp2_with fail
      refine (pn_low_ok d y t HT.out LD.out LY.out _ (tabB TT.out B1)).mono ?_
      rintro r w2 ⟨rfl, b2⟩
      have B2 : Below w.heap.size w w2 := btr B1 b2
      have Rz_2 : w2.heap[w.heap.size]? = some (Obj.cells #[.bool false, .string ⟨#[]⟩, .string ⟨#[]⟩, .int .i64 0] 24) := heap_of b2 _ _ _ Rz_1
      clear b2 B1 Rz_1 cz_1_0 cz_1_1 cz_1_2 cz_1_3
      have cz_2_0 := cells4 Rz_2 0 _ rfl
      have cz_2_1 := cells4 Rz_2 1 _ rfl
      have cz_2_2 := cells4 Rz_2 2 _ rfl
      have cz_2_3 := cells4 Rz_2 3 _ rfl
      go_wp2_with fail
      refine (withinx E 1048576 false (by decide) (by decide) HG.out _).mono ?_
      rintro r w3 ⟨rfl, b3⟩
      have B3 : Below w.heap.size w w3 := btr B2 b3
      have Rz_3 : w3.heap[w.heap.size]? = some (Obj.cells #[.bool false, .string ⟨#[]⟩, .string ⟨#[]⟩, .int .i64 0] 24) := heap_of b3 _ _ _ Rz_2
      clear b3 B2 Rz_2 cz_2_0 cz_2_1 cz_2_2 cz_2_3
      have cz_3_0 := cells4 Rz_3 0 _ rfl
      have cz_3_1 := cells4 Rz_3 1 _ rfl
      have cz_3_2 := cells4 Rz_3 2 _ rfl
      have cz_3_3 := cells4 Rz_3 3 _ rfl
      have q0 := fz (k := 0) Rz_3
      have q1 := fz (k := 1) Rz_3
      have q2 := fz (k := 2) Rz_3
      have q3 := fz (k := 3) Rz_3
      obtain ⟨E0, E1, E2, E3⟩ := set4_cells Rz_3 rfl (.bool false) (.string ⟨#[]⟩) (.string ⟨#[]⟩) (.int .i64 0)
      go_wp2
      exact bodyPost_ret (v := .tuple #[.agg #[.bool false, .string ⟨#[]⟩, .string ⟨#[]⟩, .int .i64 0], .int .i64 4]) (by simp [results, Tryd.results21, go_sem, E0, E1, E2, E3]) rfl ⟨rfl, set4_below B3 (by first | exact Nat.le_refl _ | omega) _ _ _ _⟩
end Go.Proofs.YtknkkagapcigfaaDoor
