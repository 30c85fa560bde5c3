/-
  What the functions that the statement reaches return: part 9 (X4, X5, X7, X9, X10).
-/
import Derived.Lib.MinMax
import Derived.Test.YtfmmeifipbpbmaaGreatDoorOb08
namespace Go.Proofs.YtfmmeifipbpbmaaGreatDoor
set_option maxRecDepth 100000
open Go.RowKit WMath XMath

theorem twosx (a : Nat) (s v : ByteArray) (hs : nbA a = s) (ha : nl a ≤ 16384) (hv : nbA (od a) = v) (w : World) (hT : TabAt w) : Calls Tryz.prog 242 #[.string s] w fun r w' => r = .returned (.string v) ∧ Below w.heap.size w w' := by
  obtain ⟨t, ht⟩ : ∃ t, tz a = t := ⟨_, rfl⟩
  have HL := box (tz_low a)
  rw [ht] at HL
  have t2 : t ≤ 131072 := by
    have := tz_blen a
    rw [ht] at this
    unfold nl at ha
    omega
  obtain ⟨o, ho⟩ : ∃ o, decide (a % 2 ^ (t : Int).toNat ≠ 0) = o := ⟨_, rfl⟩
  have HV : Box (nbA (a / 2 ^ (t : Int).toNat) = v) := box (by rw [Int.toNat_natCast, ← ht]; exact hv)
  have HO := box ho
  have HS := box hs
  have HA := box ha
  have TT := box hT
  clear hs ha hv ht ho hT
  have B0 : Below w.heap.size w w := (Below.refl _ _)
  go_enter Tryz.func242, Tryz.ntmps242
  go_wp2_with fail
  refine (pn_low_ok a t s HS.out HA.out HL.out _ (tabB TT.out B0)).mono ?_
  rintro r w1 ⟨rfl, b1⟩
  have B1 : Below w.heap.size w w1 := btr B0 b1
  clear b1 B0 
  go_wp2_with fail
  refine (pn_right_ok a (t : Int) s v o HS.out HA.out (by omega) (by omega) HV.out HO.out _ (tabB TT.out B1)).mono ?_
  rintro r w2 ⟨rfl, b2⟩
  have B2 : Below w.heap.size w w2 := btr B1 b2
  clear b2 B1 
  go_wp2
  go_ret
  exact ⟨rfl, B2⟩

theorem shortenx (a b : Nat) (s t u v : ByteArray) (hs : nbA a = s) (ht : nbA b = t) (ha : nl a ≤ 16384) (hb : nl b ≤ 16384) (a0 : a ≠ 0) (hu : nbA (a / Nat.gcd a b) = u) (hv : nbA (b / Nat.gcd a b) = v) (w : World) :
    Calls Tryz.prog 241 #[.string s, .string t] w fun r w' => r = .returned (.tuple #[.string u, .string v]) ∧ Below w.heap.size w w' := by
  obtain ⟨g, hg⟩ : ∃ g, Nat.gcd a b = g := ⟨_, rfl⟩
  have g0 : g ≠ 0 := by rw [← hg]; exact Nat.pos_iff_ne_zero.1 (Nat.gcd_pos_of_pos_left _ (by omega))
  have lg : nl g ≤ 16384 := Nat.le_trans (nl_mono _ _ (by rw [← hg]; exact Nat.gcd_le_left _ (by omega))) ha
  obtain ⟨x, hx⟩ : ∃ x, nbA g = x := ⟨_, rfl⟩
  obtain ⟨y, hy⟩ : ∃ x, nbA (a % g) = x := ⟨_, rfl⟩
  obtain ⟨z, hz⟩ : ∃ x, nbA (b % g) = x := ⟨_, rfl⟩
  rw [hg] at hu hv
  have HG : Box (nbA (Nat.gcd a b) = x) := box (by rw [hg]; exact hx)
  have HS := box hs
  have HT := box ht
  have HA := box ha
  have HB := box hb
  have HU := box hu
  have HV := box hv
  have HX := box hx
  have HY := box hy
  have HZ := box hz
  have LG := box lg
  clear hs ht ha hb hu hv hx hy hz lg hg a0
  have B0 : Below w.heap.size w w := (Below.refl _ _)
  go_enter Tryz.func241, Tryz.ntmps241
  go_wp2_with fail
  refine (pn_gcd_ok a b s t x HS.out HT.out HA.out HB.out HG.out _).mono ?_
  rintro r w1 ⟨rfl, b1⟩
  have B1 : Below w.heap.size w w1 := btr B0 b1
  clear b1 B0 
  go_wp2_with fail
  refine (pn_div_ok a g s x u y HS.out HX.out HA.out LG.out g0 HU.out HY.out _).mono ?_
  rintro r w2 ⟨rfl, b2⟩
  have B2 : Below w.heap.size w w2 := btr B1 b2
  clear b2 B1 
  go_wp2_with fail
  refine (pn_div_ok b g t x v z HT.out HX.out HB.out LG.out g0 HV.out HZ.out _).mono ?_
  rintro r w3 ⟨rfl, b3⟩
  have B3 : Below w.heap.size w w3 := btr B2 b3
  clear b3 B2 
  go_wp2
  go_ret2
  exact ⟨rfl, B3⟩

theorem mk_cases (neg : Bool) (n d : Nat) (e : Int) (rb : Bool) (rn rd : Nat) (re err : Int) (n0 : n ≠ 0) (hr : XMath.mk neg n d e = (⟨rb, rn, rd, re⟩, err)) :
    ((-1048576 ≤ e + (tz n : Int) - (tz d : Int) ∧ e + (tz n : Int) - (tz d : Int) ≤ 1048576) ∧ rb = neg ∧ rn = od n / Nat.gcd (od n) (od d) ∧ rd = od d / Nat.gcd (od n) (od d) ∧ re = e + (tz n : Int) - (tz d : Int) ∧ err = 0) ∨
    (¬ (-1048576 ≤ e + (tz n : Int) - (tz d : Int) ∧ e + (tz n : Int) - (tz d : Int) ≤ 1048576) ∧ rb = false ∧ rn = 0 ∧ rd = 0 ∧ re = 0 ∧ err = 4) := by
  unfold XMath.mk at hr
  rw [if_neg n0] at hr
  by_cases h : -1048576 ≤ e + (tz n : Int) - (tz d : Int) ∧ e + (tz n : Int) - (tz d : Int) ≤ 1048576
  · rw [if_pos h] at hr
    injection hr with h1 h2
    injection h1 with a b c d
    exact Or.inl ⟨h, a.symm, b.symm, c.symm, d.symm, h2.symm⟩
  · rw [if_neg h] at hr
    injection hr with h1 h2
    unfold XZ at h1
    injection h1 with a b c d
    exact Or.inr ⟨h, a.symm, b.symm, c.symm, d.symm, h2.symm⟩

set_option maxRecDepth 100000 in
set_option maxHeartbeats 4000000 in
theorem formx (neg : Bool) (n d : Nat) (e : Int) (s t : ByteArray) (rb : Bool) (rn rd : Nat) (re err : Int) (u v : ByteArray) (hs : nbA n = s) (ht : nbA d = t) (ln : nl n ≤ 16384) (ld : nl d ≤ 16384) (d0 : d ≠ 0) (he1 : -100000000 ≤ e) (he2 : e ≤ 100000000)
    (hr : XMath.mk neg n d e = (⟨rb, rn, rd, re⟩, err)) (hu : nbA rn = u) (hv : nbA rd = v) (w : World) (hT : TabAt w) :
    Calls Tryz.prog 166 #[.bool neg, .string s, .string t, .int .i64 e] w fun r w' => r = .returned (.tuple #[.agg #[.bool rb, .string u, .string v, .int .i64 re], .int .i64 err]) ∧ Below w.heap.size w w' := by
  by_cases n0 : n = 0
  · subst n0
    rw [mk_null] at hr
    injection hr with h1 h2
    unfold X0 at h1
    injection h1 with a b c d
    subst a b c d h2
    rw [nbA_zero] at hs hu
    rw [nb1] at hv
    subst hs hu hv
    clear ht ln ld
    obtain ⟨Rz_0, B0⟩ := opn1 w (Obj.cells #[.bool false, .string ⟨#[]⟩, .string ⟨#[]⟩, .int .i64 0] 41)
    go_enter Tryz.func166, Tryz.ntmps166
    go_wp2_with fail
    refine (zerox _).mono ?_
    rintro r w1 ⟨rfl, b1⟩
    have B1 : Below w.heap.size w w1 := btr B0 b1
    have Rz_1 := heap_of b1 _ _ _ Rz_0
    clear b1 B0 Rz_0
    obtain ⟨cz_1_0, cz_1_1, cz_1_2, cz_1_3⟩ := cells4s Rz_1
    have q0 := fz (k := 0) Rz_1
    have q1 := fz (k := 1) Rz_1
    have q2 := fz (k := 2) Rz_1
    have q3 := fz (k := 3) Rz_1
    obtain ⟨E0, E1, E2, E3⟩ := set4_cells Rz_1 rfl (.bool false) (.string ⟨#[]⟩) (.string ⟨#[1]⟩) (.int .i64 0)
    go_wp2
    exact bodyPost_ret (v := .tuple #[.agg #[.bool false, .string ⟨#[]⟩, .string ⟨#[1]⟩, .int .i64 0], .int .i64 0]) (by simp [results, Tryz.results166, go_sem, E0, E1, E2, E3]) rfl ⟨rfl, set4_below B1 (by first | exact Nat.le_refl _ | omega) _ _ _ _⟩
  · have e0 := eq_nil n s hs n0
    obtain ⟨x, hx⟩ : ∃ x, tz n = x := ⟨_, rfl⟩
    obtain ⟨y, hy⟩ : ∃ x, tz d = x := ⟨_, rfl⟩
    have LX := box (tz_low n)
    have LY := box (tz_low d)
    have x2 : x ≤ 131072 := by have := tz_blen n; rw [hx] at this; unfold nl at ln; omega
    have y2 : y ≤ 131072 := by have := tz_blen d; rw [hy] at this; unfold nl at ld; omega
    have hc := mk_cases neg n d e rb rn rd re err n0 hr
    rw [hx, hy] at hc
    rw [hx] at LX
    rw [hy] at LY
    have HS := box hs
    have HT := box ht
    have LN := box ln
    have LD := box ld
    have TT := box hT
    obtain ⟨E, hE⟩ : ∃ E, e + (x : Int) - (y : Int) = E := ⟨_, rfl⟩
    rw [hE] at hc
    have k1 : IntKind.i64.wrap ((x : Int) - (y : Int)) = (x : Int) - (y : Int) := wrap_i64_is _ (by omega) (by omega)
    have k2 : IntKind.i64.wrap (e + ((x : Int) - (y : Int))) = E := by rw [wrap_i64_is _ (by omega) (by omega)]; omega
    rcases hc with ⟨hc, rfl, rfl, rfl, rfl, rfl⟩ | ⟨hc, rfl, rfl, rfl, rfl, rfl⟩
    · have HG : Box ((decide (-1048576 ≤ re) && decide (re ≤ 1048576)) = true) := box (by rw [decide_eq_true hc.1, decide_eq_true hc.2]; rfl)
      obtain ⟨o1, o2⟩ := od_is n n0
      obtain ⟨o3, o4⟩ := od_is d d0
      obtain ⟨p, hp⟩ : ∃ p, nbA (od n) = p := ⟨_, rfl⟩
      obtain ⟨q, hq⟩ : ∃ p, nbA (od d) = p := ⟨_, rfl⟩
      have HP := box hp
      have HQ := box hq
      have HU := box hu
      have HV := box hv
      have L1 : Box (nl (od n) ≤ 16384) := box (Nat.le_trans (nl_mono _ _ (od_le n)) ln)
      have L2 : Box (nl (od d) ≤ 16384) := box (Nat.le_trans (nl_mono _ _ (od_le d)) ld)
      have Z : Box (od n ≠ 0) := box (by omega)
      clear hs ht ln ld hT hr hx hy hE hc o1 o2 o3 o4 hp hq hu hv n0 d0
      obtain ⟨Rz_0, B0⟩ := opn1 w (Obj.cells #[.bool false, .string ⟨#[]⟩, .string ⟨#[]⟩, .int .i64 0] 41)
      go_enter Tryz.func166, Tryz.ntmps166
      go_wp2_with fail
      refine (pn_low_ok n x s HS.out LN.out LX.out _ (tabB TT.out B0)).mono ?_
      rintro r w1 ⟨rfl, b1⟩
      have B1 : Below w.heap.size w w1 := btr B0 b1
      have Rz_1 := heap_of b1 _ _ _ Rz_0
      clear b1 B0 Rz_0
      obtain ⟨cz_1_0, cz_1_1, cz_1_2, cz_1_3⟩ := cells4s Rz_1
      go_wp2_with fail
      refine (pn_low_ok d y t HT.out LD.out LY.out _ (tabB TT.out B1)).mono ?_
      rintro r w2 ⟨rfl, b2⟩
      have B2 : Below w.heap.size w w2 := btr B1 b2
      have Rz_2 := heap_of b2 _ _ _ Rz_1
      clear b2 B1 Rz_1 cz_1_0 cz_1_1 cz_1_2 cz_1_3
      obtain ⟨cz_2_0, cz_2_1, cz_2_2, cz_2_3⟩ := cells4s Rz_2
      go_wp2_with fail
      refine (withinx re 1048576 true (by decide) (by decide) HG.out _).mono ?_
      rintro r w3 ⟨rfl, b3⟩
      have B3 : Below w.heap.size w w3 := btr B2 b3
      have Rz_3 := heap_of b3 _ _ _ Rz_2
      clear b3 B2 Rz_2 cz_2_0 cz_2_1 cz_2_2 cz_2_3
      obtain ⟨cz_3_0, cz_3_1, cz_3_2, cz_3_3⟩ := cells4s Rz_3
      go_wp2_with fail
      refine (twosx n s p HS.out LN.out HP.out _ (tabB TT.out B3)).mono ?_
      rintro r w4 ⟨rfl, b4⟩
      have B4 : Below w.heap.size w w4 := btr B3 b4
      have Rz_4 := heap_of b4 _ _ _ Rz_3
      clear b4 B3 Rz_3 cz_3_0 cz_3_1 cz_3_2 cz_3_3
      obtain ⟨cz_4_0, cz_4_1, cz_4_2, cz_4_3⟩ := cells4s Rz_4
      go_wp2_with fail
      refine (twosx d t q HT.out LD.out HQ.out _ (tabB TT.out B4)).mono ?_
      rintro r w5 ⟨rfl, b5⟩
      have B5 : Below w.heap.size w w5 := btr B4 b5
      have Rz_5 := heap_of b5 _ _ _ Rz_4
      clear b5 B4 Rz_4 cz_4_0 cz_4_1 cz_4_2 cz_4_3
      obtain ⟨cz_5_0, cz_5_1, cz_5_2, cz_5_3⟩ := cells4s Rz_5
      go_wp2_with fail
      refine (shortenx (od n) (od d) p q u v HP.out HQ.out L1.out L2.out Z.out HU.out HV.out _).mono ?_
      rintro r w6 ⟨rfl, b6⟩
      have B6 : Below w.heap.size w w6 := btr B5 b6
      have Rz_6 := heap_of b6 _ _ _ Rz_5
      clear b6 B5 Rz_5 cz_5_0 cz_5_1 cz_5_2 cz_5_3
      obtain ⟨cz_6_0, cz_6_1, cz_6_2, cz_6_3⟩ := cells4s Rz_6
      have q0 := fz (k := 0) Rz_6
      have q1 := fz (k := 1) Rz_6
      have q2 := fz (k := 2) Rz_6
      have q3 := fz (k := 3) Rz_6
      obtain ⟨E0, E1, E2, E3⟩ := set4_cells Rz_6 rfl (.bool rb) (.string u) (.string v) (.int .i64 re)
      go_wp2
      exact bodyPost_ret (v := .tuple #[.agg #[.bool rb, .string u, .string v, .int .i64 re], .int .i64 0]) (by simp [results, Tryz.results166, go_sem, E0, E1, E2, E3]) rfl ⟨rfl, set4_below B6 (by first | exact Nat.le_refl _ | omega) _ _ _ _⟩
    · have HG : Box ((decide (-1048576 ≤ E) && decide (E ≤ 1048576)) = false) := box (by
        rw [Bool.eq_false_iff]
        intro h
        exact hc (by simpa using h))
      rw [nbA_zero] at hu hv
      subst hu hv
      clear hs ht ln ld hT hr hx hy hE hc n0 d0
      obtain ⟨Rz_0, B0⟩ := opn1 w (Obj.cells #[.bool false, .string ⟨#[]⟩, .string ⟨#[]⟩, .int .i64 0] 41)
      go_enter Tryz.func166, Tryz.ntmps166
      go_wp2_with fail
      refine (pn_low_ok n x s HS.out LN.out LX.out _ (tabB TT.out B0)).mono ?_
      rintro r w1 ⟨rfl, b1⟩
      have B1 : Below w.heap.size w w1 := btr B0 b1
      have Rz_1 := heap_of b1 _ _ _ Rz_0
      clear b1 B0 Rz_0
      obtain ⟨cz_1_0, cz_1_1, cz_1_2, cz_1_3⟩ := cells4s Rz_1
      go_wp2_with fail
      refine (pn_low_ok d y t HT.out LD.out LY.out _ (tabB TT.out B1)).mono ?_
      rintro r w2 ⟨rfl, b2⟩
      have B2 : Below w.heap.size w w2 := btr B1 b2
      have Rz_2 := heap_of b2 _ _ _ Rz_1
      clear b2 B1 Rz_1 cz_1_0 cz_1_1 cz_1_2 cz_1_3
      obtain ⟨cz_2_0, cz_2_1, cz_2_2, cz_2_3⟩ := cells4s Rz_2
      go_wp2_with fail
      refine (withinx E 1048576 false (by decide) (by decide) HG.out _).mono ?_
      rintro r w3 ⟨rfl, b3⟩
      have B3 : Below w.heap.size w w3 := btr B2 b3
      have Rz_3 := heap_of b3 _ _ _ Rz_2
      clear b3 B2 Rz_2 cz_2_0 cz_2_1 cz_2_2 cz_2_3
      obtain ⟨cz_3_0, cz_3_1, cz_3_2, cz_3_3⟩ := cells4s Rz_3
      have q0 := fz (k := 0) Rz_3
      have q1 := fz (k := 1) Rz_3
      have q2 := fz (k := 2) Rz_3
      have q3 := fz (k := 3) Rz_3
      obtain ⟨E0, E1, E2, E3⟩ := set4_cells Rz_3 rfl (.bool false) (.string ⟨#[]⟩) (.string ⟨#[]⟩) (.int .i64 0)
      go_wp2
      exact bodyPost_ret (v := .tuple #[.agg #[.bool false, .string ⟨#[]⟩, .string ⟨#[]⟩, .int .i64 0], .int .i64 4]) (by simp [results, Tryz.results166, go_sem, E0, E1, E2, E3]) rfl ⟨rfl, set4_below B3 (by first | exact Nat.le_refl _ | omega) _ _ _ _⟩
end Go.Proofs.YtfmmeifipbpbmaaGreatDoor
namespace Go.Proofs.YtfmmeifipbpbmaaGreatDoor
set_option maxRecDepth 100000
open Go.RowKit WMath XMath

theorem may_yes {b : Bool} {n d : Nat} {s t : ByteArray} {e : Int} (hs : nbA n = s) (ht : nbA d = t) (hc : (XN.mk b n d e).can) : IsM true b s t e := ⟨fun _ => ⟨n, d, hs, ht, hc⟩, fun _ => rfl⟩
theorem can_null {b : Bool} {n d : Nat} {e : Int} (hc : (XN.mk b n d e).can) (h0 : n = 0) : b = false ∧ d = 1 ∧ e = 0 := by
  have h := hc.null h0
  unfold X0 at h
  injection h with h1 h2 h3 h4
  exact ⟨h1, h3, h4⟩

/-- A number that may be, and is not 0, is another one than 0, as values. -/
theorem x_cases {b : Bool} {n d : Nat} {e : Int} {s t : ByteArray} (hs : nbA n = s) (ht : nbA d = t) (hc : (XN.mk b n d e).can) : (n = 0 ∧ b = false ∧ s = ⟨#[]⟩ ∧ t = ⟨#[1]⟩ ∧ d = 1 ∧ e = 0) ∨ (n ≠ 0 ∧ (s.toList == []) = false) := by
  by_cases h0 : n = 0
  · obtain ⟨h1, h2, h3⟩ := can_null hc h0
    subst h0 h2
    exact Or.inl ⟨rfl, h1, by rw [← hs, nbA_zero], by rw [← ht, nb1], rfl, h3⟩
  · exact Or.inr ⟨h0, eq_nil n s hs h0⟩

set_option maxRecDepth 100000 in
set_option maxHeartbeats 1000000 in
theorem makex_ok (neg : Bool) (n d : Nat) (e : Int) (s t : ByteArray) (rb : Bool) (rn rd : Nat) (re err : Int) (u v : ByteArray) (hs : nbA n = s) (ht : nbA d = t) (ln : nl n ≤ 16384) (ld : nl d ≤ 16384) (d0 : d ≠ 0) (he1 : -1048576 ≤ e) (he2 : e ≤ 1048576)
    (hr : XMath.mk neg n d e = (⟨rb, rn, rd, re⟩, err)) (hu : nbA rn = u) (hv : nbA rd = v) (w : World) (hT : TabAt w) :
    Calls Tryz.prog 162 #[.bool neg, .string s, .string t, .int .i64 e] w fun r w' => r = .returned (.tuple #[.agg #[.bool rb, .string u, .string v, .int .i64 re], .int .i64 err]) ∧ Below w.heap.size w w' := by
  have e0 := eq_nil d t ht d0
  have H1 : Box (mayB s = true) := box (by rw [← hs]; exact mayB_nb n ln)
  have H2 : Box (mayB t = true) := box (by rw [← ht]; exact mayB_nb d ld)
  have HG : Box ((decide (-1048576 ≤ e) && decide (e ≤ 1048576)) = true) := box (by rw [decide_eq_true he1, decide_eq_true he2]; rfl)
  have HF := box (fun w hT => formx neg n d e s t rb rn rd re err u v hs ht ln ld d0 (by omega) (by omega) hr hu hv w hT)
  have TT := box hT
  clear hs ht ln ld d0 he1 he2 hr hu hv hT
  obtain ⟨Rz_0, B0⟩ := opn1 w (Obj.cells #[.bool false, .string ⟨#[]⟩, .string ⟨#[]⟩, .int .i64 0] 41)
  go_enter Tryz.func162, Tryz.ntmps162
  go_wp2_with fail
  refine (n_check s true H1.out _).mono ?_
  rintro r w' ⟨rfl, rfl⟩
  go_wp2_with fail
  refine (n_check t true H2.out _).mono ?_
  rintro r w' ⟨rfl, rfl⟩
  go_wp2_with fail
  refine (withinx e 1048576 true (by decide) (by decide) HG.out _).mono ?_
  rintro r w1 ⟨rfl, b1⟩
  have B1 : Below w.heap.size w w1 := btr B0 b1
  have Rz_1 := heap_of b1 _ _ _ Rz_0
  clear b1 B0 Rz_0
  obtain ⟨cz_1_0, cz_1_1, cz_1_2, cz_1_3⟩ := cells4s Rz_1
  go_wp2_with fail
  refine (HF.out _ (tabB TT.out B1)).mono ?_
  rintro r w2 ⟨rfl, b2⟩
  have B2 : Below w.heap.size w w2 := btr B1 b2
  have Rz_2 := heap_of b2 _ _ _ Rz_1
  clear b2 B1 Rz_1 cz_1_0 cz_1_1 cz_1_2 cz_1_3
  obtain ⟨cz_2_0, cz_2_1, cz_2_2, cz_2_3⟩ := cells4s Rz_2
  have q0 := fz (k := 0) Rz_2
  have q1 := fz (k := 1) Rz_2
  have q2 := fz (k := 2) Rz_2
  have q3 := fz (k := 3) Rz_2
  obtain ⟨E0, E1, E2, E3⟩ := set4_cells Rz_2 rfl (.bool rb) (.string u) (.string v) (.int .i64 re)
  go_wp2
  exact bodyPost_ret (v := .tuple #[.agg #[.bool rb, .string u, .string v, .int .i64 re], .int .i64 err]) (by simp [results, Tryz.results162, go_sem, E0, E1, E2, E3]) rfl ⟨rfl, set4_below B2 (by first | exact Nat.le_refl _ | omega) _ _ _ _⟩

theorem signx (b : Bool) (n d : Nat) (e : Int) (s t : ByteArray) (c : Int) (hs : nbA n = s) (ht : nbA d = t) (hc : (XN.mk b n d e).can) (hr : sg (XN.mk b n d e) = c) (w : World) : Calls Tryz.prog 67 #[.agg #[.bool b, .string s, .string t, .int .i64 e]] w fun r w' => r = .returned (.int .i64 c) ∧ Below w.heap.size w w' := by
  by_cases h0 : n = 0
  · obtain ⟨rfl, rfl, rfl⟩ := can_null hc h0
    subst h0
    rw [nbA_zero] at hs
    rw [nb1] at ht
    subst hs ht
    have ec : c = 0 := by rw [← hr]; rfl
    subst ec
    clear hr hc
    obtain ⟨Rx_0, B0⟩ := opn1 w (Obj.cells #[.bool false, .string ⟨#[]⟩, .string ⟨#[1]⟩, .int .i64 0] 41)
    go_enter Tryz.func67, Tryz.ntmps67
    go_wp2_with fail
    obtain ⟨F, hF1, hF2⟩ := below_fun (w.alloc (Obj.cells #[.bool false, .string ⟨#[]⟩, .string ⟨#[1]⟩, .int .i64 0] 41))
    have fx_0 := fun u => cells4 (heap_of (hF1 u) _ _ _ Rx_0) 0 _ rfl
    have fx_1 := fun u => cells4 (heap_of (hF1 u) _ _ _ Rx_0) 1 _ rfl
    have fx_2 := fun u => cells4 (heap_of (hF1 u) _ _ _ Rx_0) 2 _ rfl
    have fx_3 := fun u => cells4 (heap_of (hF1 u) _ _ _ Rx_0) 3 _ rfl
    refine wp_region_below F hF2 (by kernel_rfl) (by kernel_rfl) ?_
    repeat first | go_big_quiet_step (first | (go_at_call 146; exact quietF hF1 hF2 (zerox _)) | fail) | quiet_step (first | (go_at_call 146; exact quietF hF1 hF2 (zerox _)) | fail)
    refine wpQuiet_nil ?_
    rintro _ ⟨uW, rfl⟩
    have B1 := btr B0 (hF1 uW)
    have Rx_1 := heap_of (hF1 uW) _ _ _ Rx_0
    obtain ⟨w1, hw⟩ : ∃ V, F uW = V := ⟨_, rfl⟩
    rw [hw] at B1 Rx_1
    try rw [hw]
    clear hw hF1 hF2 B0 fx_0 fx_1 fx_2 fx_3 Rx_0
    clear F
    obtain ⟨cx_1_0, cx_1_1, cx_1_2, cx_1_3⟩ := cells4s Rx_1
    go_wp2
    go_ret
    exact ⟨rfl, B1⟩
  · have e0 := eq_nil n s hs h0
    cases b
    · have ec : c = 1 := by rw [← hr]; unfold sg; rw [if_neg h0]; rfl
      subst ec
      clear hr hc hs ht h0
      obtain ⟨Rx_0, B0⟩ := opn1 w (Obj.cells #[.bool false, .string s, .string t, .int .i64 e] 41)
      go_enter Tryz.func67, Tryz.ntmps67
      go_wp2_with fail
      obtain ⟨F, hF1, hF2⟩ := below_fun (w.alloc (Obj.cells #[.bool false, .string s, .string t, .int .i64 e] 41))
      have fx_0 := fun u => cells4 (heap_of (hF1 u) _ _ _ Rx_0) 0 _ rfl
      have fx_1 := fun u => cells4 (heap_of (hF1 u) _ _ _ Rx_0) 1 _ rfl
      have fx_2 := fun u => cells4 (heap_of (hF1 u) _ _ _ Rx_0) 2 _ rfl
      have fx_3 := fun u => cells4 (heap_of (hF1 u) _ _ _ Rx_0) 3 _ rfl
      refine wp_region_below F hF2 (by kernel_rfl) (by kernel_rfl) ?_
      repeat first | go_big_quiet_step (first | (go_at_call 146; exact quietF hF1 hF2 (zerox _)) | fail) | quiet_step (first | (go_at_call 146; exact quietF hF1 hF2 (zerox _)) | fail)
      refine wpQuiet_nil ?_
      rintro _ ⟨uW, rfl⟩
      have B1 := btr B0 (hF1 uW)
      have Rx_1 := heap_of (hF1 uW) _ _ _ Rx_0
      obtain ⟨w1, hw⟩ : ∃ V, F uW = V := ⟨_, rfl⟩
      rw [hw] at B1 Rx_1
      try rw [hw]
      clear hw hF1 hF2 B0 fx_0 fx_1 fx_2 fx_3 Rx_0
      clear F
      obtain ⟨cx_1_0, cx_1_1, cx_1_2, cx_1_3⟩ := cells4s Rx_1
      go_wp2
      go_ret
      exact ⟨rfl, B1⟩
    · have ec : c = -1 := by rw [← hr]; unfold sg; rw [if_neg h0]; rfl
      subst ec
      clear hr hc hs ht h0
      obtain ⟨Rx_0, B0⟩ := opn1 w (Obj.cells #[.bool true, .string s, .string t, .int .i64 e] 41)
      go_enter Tryz.func67, Tryz.ntmps67
      go_wp2_with fail
      obtain ⟨F, hF1, hF2⟩ := below_fun (w.alloc (Obj.cells #[.bool true, .string s, .string t, .int .i64 e] 41))
      have fx_0 := fun u => cells4 (heap_of (hF1 u) _ _ _ Rx_0) 0 _ rfl
      have fx_1 := fun u => cells4 (heap_of (hF1 u) _ _ _ Rx_0) 1 _ rfl
      have fx_2 := fun u => cells4 (heap_of (hF1 u) _ _ _ Rx_0) 2 _ rfl
      have fx_3 := fun u => cells4 (heap_of (hF1 u) _ _ _ Rx_0) 3 _ rfl
      refine wp_region_below F hF2 (by kernel_rfl) (by kernel_rfl) ?_
      repeat first | go_big_quiet_step (first | (go_at_call 146; exact quietF hF1 hF2 (zerox _)) | fail) | quiet_step (first | (go_at_call 146; exact quietF hF1 hF2 (zerox _)) | fail)
      refine wpQuiet_nil ?_
      rintro _ ⟨uW, rfl⟩
      have B1 := btr B0 (hF1 uW)
      have Rx_1 := heap_of (hF1 uW) _ _ _ Rx_0
      obtain ⟨w1, hw⟩ : ∃ V, F uW = V := ⟨_, rfl⟩
      rw [hw] at B1 Rx_1
      try rw [hw]
      clear hw hF1 hF2 B0 fx_0 fx_1 fx_2 fx_3 Rx_0
      clear F
      obtain ⟨cx_1_0, cx_1_1, cx_1_2, cx_1_3⟩ := cells4s Rx_1
      go_wp2
      go_ret
      exact ⟨rfl, B1⟩
theorem Signx_ok (b : Bool) (n d : Nat) (e : Int) (s t : ByteArray) (c : Int) (hs : nbA n = s) (ht : nbA d = t) (hc : (XN.mk b n d e).can) (hr : sg (XN.mk b n d e) = c) (w : World) (hT : TabAt w) : Calls Tryz.prog 20 #[.agg #[.bool b, .string s, .string t, .int .i64 e]] w fun r w' => r = .returned (.int .i64 c) ∧ Below w.heap.size w w' := by
  have HM := box (may_yes hs ht hc)
  have HF := box (fun w => signx b n d e s t c hs ht hc hr w)
  have TT := box hT
  clear hs ht hc hr hT
  obtain ⟨Rx_0, B0⟩ := opn1 w (Obj.cells #[.bool b, .string s, .string t, .int .i64 e] 41)
  go_enter Tryz.func20, Tryz.ntmps20
  go_wp2_with fail
  refine (xmay1 b s t e true HM.out _ (w.alloc (Obj.cells #[.bool b, .string s, .string t, .int .i64 e] 41)) _ (by simp only [size_al]) (tabB TT.out B0)).mono ?_
  rintro r w1 ⟨rfl, b1⟩
  have B1 : Below w.heap.size w w1 := btr B0 b1
  have Rx_1 := heap_of b1 _ _ _ Rx_0
  clear b1 B0 Rx_0
  obtain ⟨cx_1_0, cx_1_1, cx_1_2, cx_1_3⟩ := cells4s Rx_1
  go_wp2_with fail
  refine (HF.out _).mono ?_
  rintro r w2 ⟨rfl, b2⟩
  have B2 : Below w.heap.size w w2 := btr B1 b2
  have Rx_2 := heap_of b2 _ _ _ Rx_1
  clear b2 B1 Rx_1 cx_1_0 cx_1_1 cx_1_2 cx_1_3
  obtain ⟨cx_2_0, cx_2_1, cx_2_2, cx_2_3⟩ := cells4s Rx_2
  go_wp2
  go_ret
  exact ⟨rfl, B2⟩
end Go.Proofs.YtfmmeifipbpbmaaGreatDoor
namespace Go.Proofs.YtfmmeifipbpbmaaGreatDoor
set_option maxRecDepth 100000
open Go.RowKit WMath XMath

theorem lg_no (n : Nat) (h : ¬ nl n ≤ 16384) : lg n = (⟨#[]⟩, 4) := by unfold lg; rw [if_neg h]
end Go.Proofs.YtfmmeifipbpbmaaGreatDoor
namespace Go.Proofs.YtfmmeifipbpbmaaGreatDoor
set_option maxRecDepth 100000
open Go.RowKit WMath XMath

theorem cmpv_neg (a b : Nat) : cmpv a b < 0 ↔ a < b := by
  unfold cmpv
  split
  · exact ⟨fun h => absurd h (by decide), fun h => by omega⟩
  · split
    · exact ⟨fun _ => by assumption, fun _ => by decide⟩
    · exact ⟨fun h => absurd h (by decide), fun h => by omega⟩
theorem lf_up (a : Nat) (k : Nat) (v : ByteArray) (h : nl (a * 2 ^ k) ≤ 16384) (hv : nbA (a * 2 ^ k) = v) : lf a (k : Int) = (v, 0) := by
  unfold lf
  rw [if_neg (by omega), Int.toNat_natCast]
  exact lg_ok _ v h hv
theorem nl_blen (a b : Nat) (h : blen a = blen b) (hb : nl b ≤ 16384) : nl a ≤ 16384 := by unfold nl at hb ⊢; rw [h]; exact hb
/-- How long both are that top compares. -/
theorem tAB_nl (x : XN) (n0 : x.n ≠ 0) (d0 : x.d ≠ 0) (ln : nl x.n ≤ 16384) (ld : nl x.d ≤ 16384) : nl (tA x) ≤ 16384 ∧ nl (tB x) ≤ 16384 := by
  obtain ⟨h1, _, _⟩ := tA_len x n0 d0
  by_cases h : 0 ≤ lenD x
  · have e : tA x = x.n := by unfold tA; rw [show (max (-lenD x) 0).toNat = 0 by omega, Nat.pow_zero, Nat.mul_one]
    have k : nl (tA x) ≤ 16384 := by rw [e]; exact ln
    exact ⟨k, nl_blen _ _ h1.symm k⟩
  · have e : tB x = x.d := by unfold tB; rw [show (max (lenD x) 0).toNat = 0 by omega, Nat.pow_zero, Nat.mul_one]
    have k : nl (tB x) ≤ 16384 := by rw [e]; exact ld
    exact ⟨nl_blen _ _ h1 k, k⟩

set_option maxRecDepth 100000 in
set_option maxHeartbeats 1000000 in
theorem topx (b : Bool) (n d : Nat) (e : Int) (s t : ByteArray) (T : Int) (hs : nbA n = s) (ht : nbA d = t) (n0 : n ≠ 0) (d0 : d ≠ 0) (ln : nl n ≤ 16384) (ld : nl d ≤ 16384) (he : -1048576 ≤ e ∧ e ≤ 1048576) (hr : topX (XN.mk b n d e) = T) (w : World) :
    Calls Tryz.prog 283 #[.agg #[.bool b, .string s, .string t, .int .i64 e]] w fun r w' => r = .returned (.int .i64 T) ∧ Below w.heap.size w w' := by
  obtain ⟨l1, l2⟩ := tAB_nl (XN.mk b n d e) n0 d0 ln ld
  obtain ⟨x, hx⟩ : ∃ x, blen n = x := ⟨_, rfl⟩
  obtain ⟨y, hy⟩ : ∃ x, blen d = x := ⟨_, rfl⟩
  have x2 : x ≤ 131072 := by unfold nl at ln; omega
  have y2 : y ≤ 131072 := by unfold nl at ld; omega
  obtain ⟨k, hk⟩ : ∃ k, (x : Int) - (y : Int) = k := ⟨_, rfl⟩
  have hlen : lenD (XN.mk b n d e) = k := by unfold lenD; show (blen n : Int) - (blen d : Int) = k; rw [hx, hy, hk]
  obtain ⟨i, hi⟩ : ∃ i, (max (-k) 0).toNat = i := ⟨_, rfl⟩
  obtain ⟨j, hj⟩ : ∃ i, (max k 0).toNat = i := ⟨_, rfl⟩
  have eA : tA (XN.mk b n d e) = n * 2 ^ i := by unfold tA; rw [hlen, hi]
  have eB : tB (XN.mk b n d e) = d * 2 ^ j := by unfold tB; rw [hlen, hj]
  rw [eA] at l1
  rw [eB] at l2
  obtain ⟨p, hp⟩ : ∃ p, nbA (n * 2 ^ i) = p := ⟨_, rfl⟩
  obtain ⟨q, hq⟩ : ∃ p, nbA (d * 2 ^ j) = p := ⟨_, rfl⟩
  have F1 := box (lf_up n i p l1 hp)
  have F2 := box (lf_up d j q l2 hq)
  obtain ⟨c, hc⟩ : ∃ c, cmpv (n * 2 ^ i) (d * 2 ^ j) = c := ⟨_, rfl⟩
  have hlt : decide (c < 0) = decide (n * 2 ^ i < d * 2 ^ j) := by rw [← hc, Bool.eq_iff_iff, decide_eq_true_iff, decide_eq_true_iff]; exact cmpv_neg _ _
  have hT2 : T = (if n * 2 ^ i < d * 2 ^ j then k - 1 else k) + e := by rw [← hr]; unfold topX; rw [eA, eB, hlen]
  have HS := box hs
  have HT := box ht
  have LN := box ln
  have LD := box ld
  have HX := box hx
  have HY := box hy
  have HP := box hp
  have HQ := box hq
  have L1 := box l1
  have L2 := box l2
  have HC := box hc
  have n1 : IntKind.i64.wrap ((x : Int) - (y : Int)) = k := by rw [wrap_i64_is _ (by omega) (by omega), hk]
  have n2 : IntKind.i64.wrap (-k) = -k := wrap_i64_is _ (by omega) (by omega)
  have n3 : max (-k) 0 = (i : Int) := by omega
  have n4 : max k 0 = (j : Int) := by omega
  have n5 : IntKind.i64.wrap (k - 1) = k - 1 := wrap_i64_is _ (by omega) (by omega)
  have n6 : IntKind.i64.wrap (k - 1 + e) = k - 1 + e := wrap_i64_is _ (by omega) (by omega)
  have n7 : IntKind.i64.wrap (k + e) = k + e := wrap_i64_is _ (by omega) (by omega)
  have i2 : i ≤ 131072 := by omega
  have j2 : j ≤ 131072 := by omega
  by_cases hl : n * 2 ^ i < d * 2 ^ j
  · rw [if_pos hl] at hT2
    rw [decide_eq_true hl] at hlt
    subst hT2
    clear hs ht ln ld hx hy hk hlen hi hj eA eB l1 l2 hp hq hc hl hr he n0 d0
    obtain ⟨Rx_0, B0⟩ := opn1 w (Obj.cells #[.bool b, .string s, .string t, .int .i64 e] 41)
    go_enter Tryz.func283, Tryz.ntmps283
    go_wp2_with fail
    obtain ⟨F, hF1, hF2⟩ := below_fun (w.alloc (Obj.cells #[.bool b, .string s, .string t, .int .i64 e] 41))
    have fx_0 := fun u => cells4 (heap_of (hF1 u) _ _ _ Rx_0) 0 _ rfl
    have fx_1 := fun u => cells4 (heap_of (hF1 u) _ _ _ Rx_0) 1 _ rfl
    have fx_2 := fun u => cells4 (heap_of (hF1 u) _ _ _ Rx_0) 2 _ rfl
    have fx_3 := fun u => cells4 (heap_of (hF1 u) _ _ _ Rx_0) 3 _ rfl
    refine wp_region_below F hF2 (by kernel_rfl) (by kernel_rfl) ?_
    repeat first | go_big_quiet_step (first | (go_at_call_of 229 (Value.string s); exact quietF hF1 hF2 (pn_len_ok n x s HS.out LN.out HX.out _)) | (go_at_call_of 229 (Value.string t); exact quietF hF1 hF2 (pn_len_ok d y t HT.out LD.out HY.out _)) | fail) | quiet_step (first | (go_at_call_of 229 (Value.string s); exact quietF hF1 hF2 (pn_len_ok n x s HS.out LN.out HX.out _)) | (go_at_call_of 229 (Value.string t); exact quietF hF1 hF2 (pn_len_ok d y t HT.out LD.out HY.out _)) | fail)
    refine wpQuiet_nil ?_
    rintro _ ⟨uW, rfl⟩
    have B1 := btr B0 (hF1 uW)
    have Rx_1 := heap_of (hF1 uW) _ _ _ Rx_0
    obtain ⟨w1, hw⟩ : ∃ V, F uW = V := ⟨_, rfl⟩
    rw [hw] at B1 Rx_1
    try rw [hw]
    clear hw hF1 hF2 B0 fx_0 fx_1 fx_2 fx_3 Rx_0
    clear F
    obtain ⟨cx_1_0, cx_1_1, cx_1_2, cx_1_3⟩ := cells4s Rx_1
    go_wp2_with fail
    refine (pn_left_ok n (i : Int) s p 0 HS.out LN.out (by omega) (by omega) F1.out _).mono ?_
    rintro r w2 ⟨rfl, b2⟩
    have B2 : Below w.heap.size w w2 := btr B1 b2
    have Rx_2 := heap_of b2 _ _ _ Rx_1
    clear b2 B1 Rx_1 cx_1_0 cx_1_1 cx_1_2 cx_1_3
    obtain ⟨cx_2_0, cx_2_1, cx_2_2, cx_2_3⟩ := cells4s Rx_2
    go_wp2_with fail
    refine (pn_left_ok d (j : Int) t q 0 HT.out LD.out (by omega) (by omega) F2.out _).mono ?_
    rintro r w3 ⟨rfl, b3⟩
    have B3 : Below w.heap.size w w3 := btr B2 b3
    have Rx_3 := heap_of b3 _ _ _ Rx_2
    clear b3 B2 Rx_2 cx_2_0 cx_2_1 cx_2_2 cx_2_3
    obtain ⟨cx_3_0, cx_3_1, cx_3_2, cx_3_3⟩ := cells4s Rx_3
    go_wp2_with fail
    refine (pn_cmp_ok (n * 2 ^ i) (d * 2 ^ j) p q c HP.out HQ.out L1.out L2.out HC.out _).mono ?_
    rintro r w4 ⟨rfl, b4⟩
    have B4 : Below w.heap.size w w4 := btr B3 b4
    have Rx_4 := heap_of b4 _ _ _ Rx_3
    clear b4 B3 Rx_3 cx_3_0 cx_3_1 cx_3_2 cx_3_3
    obtain ⟨cx_4_0, cx_4_1, cx_4_2, cx_4_3⟩ := cells4s Rx_4
    go_wp2
    go_ret
    exact ⟨rfl, B4⟩
  · rw [if_neg hl] at hT2
    rw [decide_eq_false hl] at hlt
    subst hT2
    clear hs ht ln ld hx hy hk hlen hi hj eA eB l1 l2 hp hq hc hl hr he n0 d0
    obtain ⟨Rx_0, B0⟩ := opn1 w (Obj.cells #[.bool b, .string s, .string t, .int .i64 e] 41)
    go_enter Tryz.func283, Tryz.ntmps283
    go_wp2_with fail
    obtain ⟨F, hF1, hF2⟩ := below_fun (w.alloc (Obj.cells #[.bool b, .string s, .string t, .int .i64 e] 41))
    have fx_0 := fun u => cells4 (heap_of (hF1 u) _ _ _ Rx_0) 0 _ rfl
    have fx_1 := fun u => cells4 (heap_of (hF1 u) _ _ _ Rx_0) 1 _ rfl
    have fx_2 := fun u => cells4 (heap_of (hF1 u) _ _ _ Rx_0) 2 _ rfl
    have fx_3 := fun u => cells4 (heap_of (hF1 u) _ _ _ Rx_0) 3 _ rfl
    refine wp_region_below F hF2 (by kernel_rfl) (by kernel_rfl) ?_
    repeat first | go_big_quiet_step (first | (go_at_call_of 229 (Value.string s); exact quietF hF1 hF2 (pn_len_ok n x s HS.out LN.out HX.out _)) | (go_at_call_of 229 (Value.string t); exact quietF hF1 hF2 (pn_len_ok d y t HT.out LD.out HY.out _)) | fail) | quiet_step (first | (go_at_call_of 229 (Value.string s); exact quietF hF1 hF2 (pn_len_ok n x s HS.out LN.out HX.out _)) | (go_at_call_of 229 (Value.string t); exact quietF hF1 hF2 (pn_len_ok d y t HT.out LD.out HY.out _)) | fail)
    refine wpQuiet_nil ?_
    rintro _ ⟨uW, rfl⟩
    have B1 := btr B0 (hF1 uW)
    have Rx_1 := heap_of (hF1 uW) _ _ _ Rx_0
    obtain ⟨w1, hw⟩ : ∃ V, F uW = V := ⟨_, rfl⟩
    rw [hw] at B1 Rx_1
    try rw [hw]
    clear hw hF1 hF2 B0 fx_0 fx_1 fx_2 fx_3 Rx_0
    clear F
    obtain ⟨cx_1_0, cx_1_1, cx_1_2, cx_1_3⟩ := cells4s Rx_1
    go_wp2_with fail
    refine (pn_left_ok n (i : Int) s p 0 HS.out LN.out (by omega) (by omega) F1.out _).mono ?_
    rintro r w2 ⟨rfl, b2⟩
    have B2 : Below w.heap.size w w2 := btr B1 b2
    have Rx_2 := heap_of b2 _ _ _ Rx_1
    clear b2 B1 Rx_1 cx_1_0 cx_1_1 cx_1_2 cx_1_3
    obtain ⟨cx_2_0, cx_2_1, cx_2_2, cx_2_3⟩ := cells4s Rx_2
    go_wp2_with fail
    refine (pn_left_ok d (j : Int) t q 0 HT.out LD.out (by omega) (by omega) F2.out _).mono ?_
    rintro r w3 ⟨rfl, b3⟩
    have B3 : Below w.heap.size w w3 := btr B2 b3
    have Rx_3 := heap_of b3 _ _ _ Rx_2
    clear b3 B2 Rx_2 cx_2_0 cx_2_1 cx_2_2 cx_2_3
    obtain ⟨cx_3_0, cx_3_1, cx_3_2, cx_3_3⟩ := cells4s Rx_3
    go_wp2_with fail
    refine (pn_cmp_ok (n * 2 ^ i) (d * 2 ^ j) p q c HP.out HQ.out L1.out L2.out HC.out _).mono ?_
    rintro r w4 ⟨rfl, b4⟩
    have B4 : Below w.heap.size w w4 := btr B3 b4
    have Rx_4 := heap_of b4 _ _ _ Rx_3
    clear b4 B3 Rx_3 cx_3_0 cx_3_1 cx_3_2 cx_3_3
    obtain ⟨cx_4_0, cx_4_1, cx_4_2, cx_4_3⟩ := cells4s Rx_4
    go_wp2
    go_ret
    exact ⟨rfl, B4⟩

set_option maxRecDepth 100000 in
set_option maxHeartbeats 1000000 in
theorem Topx_ok (b : Bool) (n d : Nat) (e : Int) (s t : ByteArray) (T : Int) (hs : nbA n = s) (ht : nbA d = t) (n0 : n ≠ 0) (hc : (XN.mk b n d e).can) (hr : topX (XN.mk b n d e) = T) (w : World) (hT : TabAt w) :
    Calls Tryz.prog 231 #[.agg #[.bool b, .string s, .string t, .int .i64 e]] w fun r w' => r = .returned (.tuple #[.int .i64 T, .int .i64 0]) ∧ Below w.heap.size w w' := by
  have M1 := box (may_yes hs ht hc)
  have TT := box hT
  have e0 := eq_nil n s hs n0
  have HF := box (fun w => topx b n d e s t T hs ht n0 hc.d0 hc.1 hc.2.1 ⟨hc.2.2.1, hc.2.2.2.1⟩ hr w)
  clear hs ht n0 hc hr hT
  cases b
  · obtain ⟨Rx_0, B0⟩ := opn1 w (Obj.cells #[.bool false, .string s, .string t, .int .i64 e] 41)
    go_enter Tryz.func231, Tryz.ntmps231
    go_wp2_with fail
    apply cut_same
    · intro key
      go_region_with (first | (go_at_call 66; refine (xmay1d _ _ _ _ true M1.out _ (w.alloc (Obj.cells #[.bool false, .string s, .string t, .int .i64 e] 41)) _ (by simp only [size_al]) (tabB TT.out B0)).mono ?_; rintro r w1 ⟨rfl, b1⟩; have B1 : Below w.heap.size w w1 := btr B0 b1; have Rx_1 := heap_of b1 _ _ _ Rx_0; have cx_1_0 := cells4 Rx_1 0 _ rfl; have cx_1_1 := cells4 Rx_1 1 _ rfl; have cx_1_2 := cells4 Rx_1 2 _ rfl; have cx_1_3 := cells4 Rx_1 3 _ rfl) | (go_at_call 146; refine (zerox _).mono ?_; rintro r w2 ⟨rfl, b2⟩; have B2 : Below w.heap.size w w2 := btr B1 b2; have Rx_2 := heap_of b2 _ _ _ Rx_1; have cx_2_0 := cells4 Rx_2 0 _ rfl; have cx_2_1 := cells4 Rx_2 1 _ rfl; have cx_2_2 := cells4 Rx_2 2 _ rfl; have cx_2_3 := cells4 Rx_2 3 _ rfl))
      all_goals
        clear cx_2_0 cx_2_1 cx_2_2 cx_2_3 b2
        clear cx_1_0 cx_1_1 cx_1_2 cx_1_3 Rx_1 b1 B1
        clear w1
        revert w2
        exact key
    intro w2 B2 Rx_2
    clear B0 Rx_0
    obtain ⟨cx_2_0, cx_2_1, cx_2_2, cx_2_3⟩ := cells4s Rx_2
    go_wp2_with fail
    refine (HF.out _).mono ?_
    rintro r w3 ⟨rfl, b3⟩
    have B3 : Below w.heap.size w w3 := btr B2 b3
    have Rx_3 := heap_of b3 _ _ _ Rx_2
    clear b3 B2 Rx_2 cx_2_0 cx_2_1 cx_2_2 cx_2_3
    obtain ⟨cx_3_0, cx_3_1, cx_3_2, cx_3_3⟩ := cells4s Rx_3
    go_wp2
    go_ret2
    exact ⟨rfl, B3⟩
  · obtain ⟨Rx_0, B0⟩ := opn1 w (Obj.cells #[.bool true, .string s, .string t, .int .i64 e] 41)
    go_enter Tryz.func231, Tryz.ntmps231
    go_wp2_with fail
    apply cut_same
    · intro key
      go_region_with (first | (go_at_call 66; refine (xmay1d _ _ _ _ true M1.out _ (w.alloc (Obj.cells #[.bool true, .string s, .string t, .int .i64 e] 41)) _ (by simp only [size_al]) (tabB TT.out B0)).mono ?_; rintro r w1 ⟨rfl, b1⟩; have B1 : Below w.heap.size w w1 := btr B0 b1; have Rx_1 := heap_of b1 _ _ _ Rx_0; have cx_1_0 := cells4 Rx_1 0 _ rfl; have cx_1_1 := cells4 Rx_1 1 _ rfl; have cx_1_2 := cells4 Rx_1 2 _ rfl; have cx_1_3 := cells4 Rx_1 3 _ rfl) | (go_at_call 146; refine (zerox _).mono ?_; rintro r w2 ⟨rfl, b2⟩; have B2 : Below w.heap.size w w2 := btr B1 b2; have Rx_2 := heap_of b2 _ _ _ Rx_1; have cx_2_0 := cells4 Rx_2 0 _ rfl; have cx_2_1 := cells4 Rx_2 1 _ rfl; have cx_2_2 := cells4 Rx_2 2 _ rfl; have cx_2_3 := cells4 Rx_2 3 _ rfl))
      all_goals
        clear cx_2_0 cx_2_1 cx_2_2 cx_2_3 b2
        clear cx_1_0 cx_1_1 cx_1_2 cx_1_3 Rx_1 b1 B1
        clear w1
        revert w2
        exact key
    intro w2 B2 Rx_2
    clear B0 Rx_0
    obtain ⟨cx_2_0, cx_2_1, cx_2_2, cx_2_3⟩ := cells4s Rx_2
    go_wp2_with fail
    refine (HF.out _).mono ?_
    rintro r w3 ⟨rfl, b3⟩
    have B3 : Below w.heap.size w w3 := btr B2 b3
    have Rx_3 := heap_of b3 _ _ _ Rx_2
    clear b3 B2 Rx_2 cx_2_0 cx_2_1 cx_2_2 cx_2_3
    obtain ⟨cx_3_0, cx_3_1, cx_3_2, cx_3_3⟩ := cells4s Rx_3
    go_wp2
    go_ret2
    exact ⟨rfl, B3⟩
set_option maxRecDepth 100000 in
theorem Topx_null (w : World) (hT : TabAt w) : Calls Tryz.prog 231 #[.agg #[.bool false, .string ⟨#[]⟩, .string ⟨#[1]⟩, .int .i64 0]] w fun r w' => r = .returned (.tuple #[.int .i64 0, .int .i64 2]) ∧ Below w.heap.size w w' := by
  have M1 : Box (IsM true false ⟨#[]⟩ ⟨#[1]⟩ 0) := box (may_yes nbA_zero nb1 x0_can)
  have TT := box hT
  clear hT
  obtain ⟨Rx_0, B0⟩ := opn1 w (Obj.cells #[.bool false, .string ⟨#[]⟩, .string ⟨#[1]⟩, .int .i64 0] 41)
  go_enter Tryz.func231, Tryz.ntmps231
  go_wp2_with fail
  apply cut_same
  · intro key
    go_region_with (first | (go_at_call 66; refine (xmay1d _ _ _ _ true M1.out _ (w.alloc (Obj.cells #[.bool false, .string ⟨#[]⟩, .string ⟨#[1]⟩, .int .i64 0] 41)) _ (by simp only [size_al]) (tabB TT.out B0)).mono ?_; rintro r w1 ⟨rfl, b1⟩; have B1 : Below w.heap.size w w1 := btr B0 b1; have Rx_1 := heap_of b1 _ _ _ Rx_0; have cx_1_0 := cells4 Rx_1 0 _ rfl; have cx_1_1 := cells4 Rx_1 1 _ rfl; have cx_1_2 := cells4 Rx_1 2 _ rfl; have cx_1_3 := cells4 Rx_1 3 _ rfl) | (go_at_call 146; refine (zerox _).mono ?_; rintro r w2 ⟨rfl, b2⟩; have B2 : Below w.heap.size w w2 := btr B1 b2; have Rx_2 := heap_of b2 _ _ _ Rx_1; have cx_2_0 := cells4 Rx_2 0 _ rfl; have cx_2_1 := cells4 Rx_2 1 _ rfl; have cx_2_2 := cells4 Rx_2 2 _ rfl; have cx_2_3 := cells4 Rx_2 3 _ rfl))
    all_goals
      clear cx_2_0 cx_2_1 cx_2_2 cx_2_3 b2
      clear cx_1_0 cx_1_1 cx_1_2 cx_1_3 Rx_1 b1 B1
      clear w1
      revert w2
      exact key
  intro w2 B2 Rx_2
  clear B0 Rx_0
  obtain ⟨cx_2_0, cx_2_1, cx_2_2, cx_2_3⟩ := cells4s Rx_2
  go_wp2
  go_ret2
  exact ⟨rfl, B2⟩
end Go.Proofs.YtfmmeifipbpbmaaGreatDoor
namespace Go.Proofs.YtfmmeifipbpbmaaGreatDoor
set_option maxRecDepth 100000
open Go.RowKit WMath XMath

theorem fl_small (x : XN) (e : Int) (hx : x.can) (n0 : x.n ≠ 0) (he : e ≤ x.e) (ht : topX x < e) : x.n * 2 ^ (x.e - e).toNat < x.d := by
  have d0 := hx.d0
  have k : x.mag * (x.d : Rat) = ((x.n * 2 ^ (x.e - e).toNat : Nat) : Rat) * (2 : Rat) ^ e := by
    have e1 : (2 : Rat) ^ x.e = (2 : Rat) ^ ((x.e - e).toNat : Int) * (2 : Rat) ^ e := by rw [← p2add]; congr 1; omega
    unfold XN.mag
    rw [Rat.natCast_mul, ← p2nat, e1]
    have z := cast_ne d0
    grind
  have t2 := (top_good x n0 d0).2
  have t3 := p2mono (topX x + 1) e (by omega)
  have up : x.mag < (2 : Rat) ^ e := by grind
  have m := (Rat.mul_lt_mul_right (cast_pos d0)).2 up
  rw [k, Rat.mul_comm ((2 : Rat) ^ e) (x.d : Rat), Rat.mul_lt_mul_right (p2 e), Rat.natCast_lt_natCast] at m
  exact m
theorem fl_top (x : XN) (e : Int) (hx : x.can) (n0 : x.n ≠ 0) (h1 : ¬ (e < -2097152 ∨ 2097152 < e)) (ht : topX x < e) : flX x e = ((0, false), 0) := by
  unfold flX
  rw [if_neg h1, if_neg n0]
  by_cases he : e ≤ x.e
  · have hs := fl_small x e hx n0 he ht
    rw [if_pos he, if_pos (Nat.le_trans (nl_mono _ _ (Nat.le_of_lt hs)) hx.2.1), Nat.div_eq_of_lt hs, Nat.mod_eq_of_lt hs, decide_eq_false (mul_ne n0 (Nat.pos_iff_ne_zero.1 (Nat.two_pow_pos _)))]
  · rw [if_neg he, if_pos ht]

set_option maxRecDepth 100000 in
theorem floorBelowx (b : Bool) (n d : Nat) (e : Int) (s t : ByteArray) (k : Nat) (v : ByteArray) (hs : nbA n = s) (ht : nbA d = t) (ln : nl n ≤ 16384) (ld : nl d ≤ 16384) (d0 : d ≠ 0) (k2 : k ≤ 100000000) (hv : nbA (n / (d * 2 ^ k)) = v) (w : World) (hT : TabAt w) :
    Calls Tryz.prog 284 #[.agg #[.bool b, .string s, .string t, .int .i64 e], .int .i64 (k : Int)] w fun r w' => r = .returned (.string v) ∧ Below w.heap.size w w' := by
  obtain ⟨p, hp⟩ : ∃ p, nbA (n / 2 ^ (k : Int).toNat) = p := ⟨_, rfl⟩
  obtain ⟨o, ho⟩ : ∃ o, decide (n % 2 ^ (k : Int).toNat ≠ 0) = o := ⟨_, rfl⟩
  rw [Int.toNat_natCast] at hp ho
  have lp : nl (n / 2 ^ k) ≤ 16384 := Nat.le_trans (nl_mono _ _ (Nat.div_le_self _ _)) ln
  obtain ⟨y, hy⟩ : ∃ y, nbA (n / 2 ^ k % d) = y := ⟨_, rfl⟩
  have HV : Box (nbA (n / 2 ^ k / d) = v) := box (by rw [Nat.div_div_eq_div_mul, Nat.mul_comm (2 ^ k) d]; exact hv)
  have HS := box hs
  have HT := box ht
  have LN := box ln
  have LD := box ld
  have HP := box hp
  have HP2 : Box (nbA (n / 2 ^ (k : Int).toNat) = p) := box (by rw [Int.toNat_natCast]; exact hp)
  have HO2 : Box (decide (n % 2 ^ (k : Int).toNat ≠ 0) = o) := box (by rw [Int.toNat_natCast]; exact ho)
  have LP := box lp
  have HY := box hy
  have TT := box hT
  clear hs ht ln ld hp ho lp hy hv hT
  obtain ⟨Rx_0, B0⟩ := opn1 w (Obj.cells #[.bool b, .string s, .string t, .int .i64 e] 41)
  go_enter Tryz.func284, Tryz.ntmps284
  go_wp2_with fail
  refine (pn_right_ok n (k : Int) s p o HS.out LN.out (by omega) (by omega) HP2.out HO2.out _ (tabB TT.out B0)).mono ?_
  rintro r w1 ⟨rfl, b1⟩
  have B1 : Below w.heap.size w w1 := btr B0 b1
  have Rx_1 := heap_of b1 _ _ _ Rx_0
  clear b1 B0 Rx_0
  obtain ⟨cx_1_0, cx_1_1, cx_1_2, cx_1_3⟩ := cells4s Rx_1
  go_wp2_with fail
  refine (pn_div_ok (n / 2 ^ k) d p t v y HP.out HT.out LP.out LD.out d0 HV.out HY.out _).mono ?_
  rintro r w2 ⟨rfl, b2⟩
  have B2 : Below w.heap.size w w2 := btr B1 b2
  have Rx_2 := heap_of b2 _ _ _ Rx_1
  clear b2 B1 Rx_1 cx_1_0 cx_1_1 cx_1_2 cx_1_3
  obtain ⟨cx_2_0, cx_2_1, cx_2_2, cx_2_3⟩ := cells4s Rx_2
  go_wp2
  go_ret
  exact ⟨rfl, B2⟩

set_option maxRecDepth 100000 in
set_option maxHeartbeats 4000000 in
theorem Floorx_ok (b : Bool) (n d : Nat) (e : Int) (s t : ByteArray) (k : Int) (m : Nat) (is : Bool) (err : Int) (v : ByteArray) (hs : nbA n = s) (ht : nbA d = t) (hc : (XN.mk b n d e).can) (k1 : -9223372036854775808 ≤ k) (k2 : k ≤ 9223372036854775807)
    (hr : flX (XN.mk b n d e) k = ((m, is), err)) (hv : nbA m = v) (w : World) (hT : TabAt w) : Calls Tryz.prog 232 #[.agg #[.bool b, .string s, .string t, .int .i64 e], .int .i64 k] w fun r w' => r = .returned (.tuple #[.string v, .bool is, .int .i64 err]) ∧ Below w.heap.size w w' := by
  have M1 := box (may_yes hs ht hc)
  have TT := box hT
  by_cases hk : k < -2097152 ∨ 2097152 < k
  · have HG : Box ((decide (-2097152 ≤ k) && decide (k ≤ 2097152)) = false) := box (by
      rw [Bool.eq_false_iff]
      intro h
      have h2 : -2097152 ≤ k ∧ k ≤ 2097152 := by simpa using h
      omega)
    unfold flX at hr
    rw [if_pos hk] at hr
    cases hr
    rw [nbA_zero] at hv
    subst hv
    clear hs ht hc hT k1 k2 hk
    obtain ⟨Rx_0, B0⟩ := opn1 w (Obj.cells #[.bool b, .string s, .string t, .int .i64 e] 41)
    go_enter Tryz.func232, Tryz.ntmps232
    go_wp2_with fail
    refine (xmay1 _ _ _ _ true M1.out _ (w.alloc (Obj.cells #[.bool b, .string s, .string t, .int .i64 e] 41)) _ (by simp only [size_al]) (tabB TT.out B0)).mono ?_
    rintro r w1 ⟨rfl, b1⟩
    have B1 : Below w.heap.size w w1 := btr B0 b1
    have Rx_1 := heap_of b1 _ _ _ Rx_0
    clear b1 B0 Rx_0
    obtain ⟨cx_1_0, cx_1_1, cx_1_2, cx_1_3⟩ := cells4s Rx_1
    go_wp2_with fail
    refine (withinx k 2097152 false (by decide) (by decide) HG.out _).mono ?_
    rintro r w2 ⟨rfl, b2⟩
    have B2 : Below w.heap.size w w2 := btr B1 b2
    have Rx_2 := heap_of b2 _ _ _ Rx_1
    clear b2 B1 Rx_1 cx_1_0 cx_1_1 cx_1_2 cx_1_3
    obtain ⟨cx_2_0, cx_2_1, cx_2_2, cx_2_3⟩ := cells4s Rx_2
    go_wp2
    go_ret3
    exact ⟨rfl, B2⟩
  have HG : Box ((decide (-2097152 ≤ k) && decide (k ≤ 2097152)) = true) := box (by
    rw [decide_eq_true (show -2097152 ≤ k by omega), decide_eq_true (show k ≤ 2097152 by omega)]; rfl)
  rcases x_cases hs ht hc with ⟨n0, rfl, rfl, rfl, rfl, rfl⟩ | ⟨n0, e0⟩
  · unfold flX at hr
    rw [if_neg hk, if_pos n0] at hr
    cases hr
    rw [nbA_zero] at hv
    subst hv
    clear hs ht hc hT k1 k2 hk n0
    obtain ⟨Rx_0, B0⟩ := opn1 w (Obj.cells #[.bool false, .string ⟨#[]⟩, .string ⟨#[1]⟩, .int .i64 0] 41)
    go_enter Tryz.func232, Tryz.ntmps232
    go_wp2_with fail
    refine (xmay1 _ _ _ _ true M1.out _ (w.alloc (Obj.cells #[.bool false, .string ⟨#[]⟩, .string ⟨#[1]⟩, .int .i64 0] 41)) _ (by simp only [size_al]) (tabB TT.out B0)).mono ?_
    rintro r w1 ⟨rfl, b1⟩
    have B1 : Below w.heap.size w w1 := btr B0 b1
    have Rx_1 := heap_of b1 _ _ _ Rx_0
    clear b1 B0 Rx_0
    obtain ⟨cx_1_0, cx_1_1, cx_1_2, cx_1_3⟩ := cells4s Rx_1
    go_wp2_with fail
    refine (withinx k 2097152 true (by decide) (by decide) HG.out _).mono ?_
    rintro r w2 ⟨rfl, b2⟩
    have B2 : Below w.heap.size w w2 := btr B1 b2
    have Rx_2 := heap_of b2 _ _ _ Rx_1
    clear b2 B1 Rx_1 cx_1_0 cx_1_1 cx_1_2 cx_1_3
    obtain ⟨cx_2_0, cx_2_1, cx_2_2, cx_2_3⟩ := cells4s Rx_2
    go_wp2_with fail
    obtain ⟨F, hF1, hF2⟩ := below_fun w2
    have fx_0 := fun u => cells4 (heap_of (hF1 u) _ _ _ Rx_2) 0 _ rfl
    have fx_1 := fun u => cells4 (heap_of (hF1 u) _ _ _ Rx_2) 1 _ rfl
    have fx_2 := fun u => cells4 (heap_of (hF1 u) _ _ _ Rx_2) 2 _ rfl
    have fx_3 := fun u => cells4 (heap_of (hF1 u) _ _ _ Rx_2) 3 _ rfl
    refine wp_region_below F hF2 (by kernel_rfl) (by kernel_rfl) ?_
    repeat first | go_big_quiet_step (first | (go_at_call 146; exact quietF hF1 hF2 (zerox _)) | fail) | quiet_step (first | (go_at_call 146; exact quietF hF1 hF2 (zerox _)) | fail)
    refine wpQuiet_nil ?_
    rintro _ ⟨uW, rfl⟩
    have B3 := btr B2 (hF1 uW)
    have Rx_3 := heap_of (hF1 uW) _ _ _ Rx_2
    obtain ⟨w3, hw⟩ : ∃ V, F uW = V := ⟨_, rfl⟩
    rw [hw] at B3 Rx_3
    try rw [hw]
    clear hw hF1 hF2 B2 fx_0 fx_1 fx_2 fx_3 Rx_2 cx_2_0 cx_2_1 cx_2_2 cx_2_3
    clear F
    obtain ⟨cx_3_0, cx_3_1, cx_3_2, cx_3_3⟩ := cells4s Rx_3
    go_wp2
    go_ret3
    exact ⟨rfl, B3⟩
  obtain ⟨T, hTop⟩ : ∃ T, topX (XN.mk b n d e) = T := ⟨_, rfl⟩
  have HF := box (fun w => topx b n d e s t T hs ht n0 hc.d0 hc.1 hc.2.1 ⟨hc.2.2.1, hc.2.2.2.1⟩ hTop w)
  have he : -1048576 ≤ e ∧ e ≤ 1048576 := ⟨hc.2.2.1, hc.2.2.2.1⟩
  by_cases ht2 : T < k
  · rw [fl_top _ k hc n0 hk (by rw [hTop]; exact ht2)] at hr
    cases hr
    rw [nbA_zero] at hv
    subst hv
    have d1 : decide (T < k) = true := decide_eq_true ht2
    clear hs ht hc hT k1 k2 hk n0 hTop ht2 he
    cases b
    · obtain ⟨Rx_0, B0⟩ := opn1 w (Obj.cells #[.bool false, .string s, .string t, .int .i64 e] 41)
      go_enter Tryz.func232, Tryz.ntmps232
      go_wp2_with fail
      refine (xmay1 _ _ _ _ true M1.out _ (w.alloc (Obj.cells #[.bool false, .string s, .string t, .int .i64 e] 41)) _ (by simp only [size_al]) (tabB TT.out B0)).mono ?_
      rintro r w1 ⟨rfl, b1⟩
      have B1 : Below w.heap.size w w1 := btr B0 b1
      have Rx_1 := heap_of b1 _ _ _ Rx_0
      clear b1 B0 Rx_0
      obtain ⟨cx_1_0, cx_1_1, cx_1_2, cx_1_3⟩ := cells4s Rx_1
      go_wp2_with fail
      refine (withinx k 2097152 true (by decide) (by decide) HG.out _).mono ?_
      rintro r w2 ⟨rfl, b2⟩
      have B2 : Below w.heap.size w w2 := btr B1 b2
      have Rx_2 := heap_of b2 _ _ _ Rx_1
      clear b2 B1 Rx_1 cx_1_0 cx_1_1 cx_1_2 cx_1_3
      obtain ⟨cx_2_0, cx_2_1, cx_2_2, cx_2_3⟩ := cells4s Rx_2
      go_wp2_with fail
      obtain ⟨F, hF1, hF2⟩ := below_fun w2
      have fx_0 := fun u => cells4 (heap_of (hF1 u) _ _ _ Rx_2) 0 _ rfl
      have fx_1 := fun u => cells4 (heap_of (hF1 u) _ _ _ Rx_2) 1 _ rfl
      have fx_2 := fun u => cells4 (heap_of (hF1 u) _ _ _ Rx_2) 2 _ rfl
      have fx_3 := fun u => cells4 (heap_of (hF1 u) _ _ _ Rx_2) 3 _ rfl
      refine wp_region_below F hF2 (by kernel_rfl) (by kernel_rfl) ?_
      repeat first | go_big_quiet_step (first | (go_at_call 146; exact quietF hF1 hF2 (zerox _)) | fail) | quiet_step (first | (go_at_call 146; exact quietF hF1 hF2 (zerox _)) | fail)
      refine wpQuiet_nil ?_
      rintro _ ⟨uW, rfl⟩
      have B3 := btr B2 (hF1 uW)
      have Rx_3 := heap_of (hF1 uW) _ _ _ Rx_2
      obtain ⟨w3, hw⟩ : ∃ V, F uW = V := ⟨_, rfl⟩
      rw [hw] at B3 Rx_3
      try rw [hw]
      clear hw hF1 hF2 B2 fx_0 fx_1 fx_2 fx_3 Rx_2 cx_2_0 cx_2_1 cx_2_2 cx_2_3
      clear F
      obtain ⟨cx_3_0, cx_3_1, cx_3_2, cx_3_3⟩ := cells4s Rx_3
      go_wp2_with fail
      refine (HF.out _).mono ?_
      rintro r w4 ⟨rfl, b4⟩
      have B4 : Below w.heap.size w w4 := btr B3 b4
      have Rx_4 := heap_of b4 _ _ _ Rx_3
      clear b4 B3 Rx_3 cx_3_0 cx_3_1 cx_3_2 cx_3_3
      obtain ⟨cx_4_0, cx_4_1, cx_4_2, cx_4_3⟩ := cells4s Rx_4
      go_wp2
      go_ret3
      exact ⟨rfl, B4⟩
    · obtain ⟨Rx_0, B0⟩ := opn1 w (Obj.cells #[.bool true, .string s, .string t, .int .i64 e] 41)
      go_enter Tryz.func232, Tryz.ntmps232
      go_wp2_with fail
      refine (xmay1 _ _ _ _ true M1.out _ (w.alloc (Obj.cells #[.bool true, .string s, .string t, .int .i64 e] 41)) _ (by simp only [size_al]) (tabB TT.out B0)).mono ?_
      rintro r w1 ⟨rfl, b1⟩
      have B1 : Below w.heap.size w w1 := btr B0 b1
      have Rx_1 := heap_of b1 _ _ _ Rx_0
      clear b1 B0 Rx_0
      obtain ⟨cx_1_0, cx_1_1, cx_1_2, cx_1_3⟩ := cells4s Rx_1
      go_wp2_with fail
      refine (withinx k 2097152 true (by decide) (by decide) HG.out _).mono ?_
      rintro r w2 ⟨rfl, b2⟩
      have B2 : Below w.heap.size w w2 := btr B1 b2
      have Rx_2 := heap_of b2 _ _ _ Rx_1
      clear b2 B1 Rx_1 cx_1_0 cx_1_1 cx_1_2 cx_1_3
      obtain ⟨cx_2_0, cx_2_1, cx_2_2, cx_2_3⟩ := cells4s Rx_2
      go_wp2_with fail
      obtain ⟨F, hF1, hF2⟩ := below_fun w2
      have fx_0 := fun u => cells4 (heap_of (hF1 u) _ _ _ Rx_2) 0 _ rfl
      have fx_1 := fun u => cells4 (heap_of (hF1 u) _ _ _ Rx_2) 1 _ rfl
      have fx_2 := fun u => cells4 (heap_of (hF1 u) _ _ _ Rx_2) 2 _ rfl
      have fx_3 := fun u => cells4 (heap_of (hF1 u) _ _ _ Rx_2) 3 _ rfl
      refine wp_region_below F hF2 (by kernel_rfl) (by kernel_rfl) ?_
      repeat first | go_big_quiet_step (first | (go_at_call 146; exact quietF hF1 hF2 (zerox _)) | fail) | quiet_step (first | (go_at_call 146; exact quietF hF1 hF2 (zerox _)) | fail)
      refine wpQuiet_nil ?_
      rintro _ ⟨uW, rfl⟩
      have B3 := btr B2 (hF1 uW)
      have Rx_3 := heap_of (hF1 uW) _ _ _ Rx_2
      obtain ⟨w3, hw⟩ : ∃ V, F uW = V := ⟨_, rfl⟩
      rw [hw] at B3 Rx_3
      try rw [hw]
      clear hw hF1 hF2 B2 fx_0 fx_1 fx_2 fx_3 Rx_2 cx_2_0 cx_2_1 cx_2_2 cx_2_3
      clear F
      obtain ⟨cx_3_0, cx_3_1, cx_3_2, cx_3_3⟩ := cells4s Rx_3
      go_wp2_with fail
      refine (HF.out _).mono ?_
      rintro r w4 ⟨rfl, b4⟩
      have B4 : Below w.heap.size w w4 := btr B3 b4
      have Rx_4 := heap_of b4 _ _ _ Rx_3
      clear b4 B3 Rx_3 cx_3_0 cx_3_1 cx_3_2 cx_3_3
      obtain ⟨cx_4_0, cx_4_1, cx_4_2, cx_4_3⟩ := cells4s Rx_4
      go_wp2
      go_ret3
      exact ⟨rfl, B4⟩
  have d1 : decide (T < k) = false := decide_eq_false ht2
  unfold flX at hr
  rw [if_neg hk, if_neg n0] at hr
  by_cases hek : e < k
  · rw [if_neg (by show ¬ k ≤ e; omega), hTop, if_neg ht2] at hr
    cases hr
    obtain ⟨i, hi⟩ : ∃ i, (k - e).toNat = i := ⟨_, rfl⟩
    have n1 : IntKind.i64.wrap (k - e) = (i : Int) := by rw [wrap_i64_is _ (by omega) (by omega)]; omega
    have HB := box (fun w hT => floorBelowx b n d e s t i v hs ht hc.1 hc.2.1 hc.d0 (by omega) (by rw [← hi]; exact hv) w hT)
    have d2 : decide (e < k) = true := decide_eq_true hek
    clear hs ht hc hT k1 k2 hk n0 hTop ht2 he hek hi hv
    cases b
    · obtain ⟨Rx_0, B0⟩ := opn1 w (Obj.cells #[.bool false, .string s, .string t, .int .i64 e] 41)
      go_enter Tryz.func232, Tryz.ntmps232
      go_wp2_with fail
      refine (xmay1 _ _ _ _ true M1.out _ (w.alloc (Obj.cells #[.bool false, .string s, .string t, .int .i64 e] 41)) _ (by simp only [size_al]) (tabB TT.out B0)).mono ?_
      rintro r w1 ⟨rfl, b1⟩
      have B1 : Below w.heap.size w w1 := btr B0 b1
      have Rx_1 := heap_of b1 _ _ _ Rx_0
      clear b1 B0 Rx_0
      obtain ⟨cx_1_0, cx_1_1, cx_1_2, cx_1_3⟩ := cells4s Rx_1
      go_wp2_with fail
      refine (withinx k 2097152 true (by decide) (by decide) HG.out _).mono ?_
      rintro r w2 ⟨rfl, b2⟩
      have B2 : Below w.heap.size w w2 := btr B1 b2
      have Rx_2 := heap_of b2 _ _ _ Rx_1
      clear b2 B1 Rx_1 cx_1_0 cx_1_1 cx_1_2 cx_1_3
      obtain ⟨cx_2_0, cx_2_1, cx_2_2, cx_2_3⟩ := cells4s Rx_2
      go_wp2_with fail
      obtain ⟨F, hF1, hF2⟩ := below_fun w2
      have fx_0 := fun u => cells4 (heap_of (hF1 u) _ _ _ Rx_2) 0 _ rfl
      have fx_1 := fun u => cells4 (heap_of (hF1 u) _ _ _ Rx_2) 1 _ rfl
      have fx_2 := fun u => cells4 (heap_of (hF1 u) _ _ _ Rx_2) 2 _ rfl
      have fx_3 := fun u => cells4 (heap_of (hF1 u) _ _ _ Rx_2) 3 _ rfl
      refine wp_region_below F hF2 (by kernel_rfl) (by kernel_rfl) ?_
      repeat first | go_big_quiet_step (first | (go_at_call 146; exact quietF hF1 hF2 (zerox _)) | fail) | quiet_step (first | (go_at_call 146; exact quietF hF1 hF2 (zerox _)) | fail)
      refine wpQuiet_nil ?_
      rintro _ ⟨uW, rfl⟩
      have B3 := btr B2 (hF1 uW)
      have Rx_3 := heap_of (hF1 uW) _ _ _ Rx_2
      obtain ⟨w3, hw⟩ : ∃ V, F uW = V := ⟨_, rfl⟩
      rw [hw] at B3 Rx_3
      try rw [hw]
      clear hw hF1 hF2 B2 fx_0 fx_1 fx_2 fx_3 Rx_2 cx_2_0 cx_2_1 cx_2_2 cx_2_3
      clear F
      obtain ⟨cx_3_0, cx_3_1, cx_3_2, cx_3_3⟩ := cells4s Rx_3
      go_wp2_with fail
      refine (HF.out _).mono ?_
      rintro r w4 ⟨rfl, b4⟩
      have B4 : Below w.heap.size w w4 := btr B3 b4
      have Rx_4 := heap_of b4 _ _ _ Rx_3
      clear b4 B3 Rx_3 cx_3_0 cx_3_1 cx_3_2 cx_3_3
      obtain ⟨cx_4_0, cx_4_1, cx_4_2, cx_4_3⟩ := cells4s Rx_4
      go_wp2_with fail
      refine (HB.out _ (tabB TT.out B4)).mono ?_
      rintro r w5 ⟨rfl, b5⟩
      have B5 : Below w.heap.size w w5 := btr B4 b5
      have Rx_5 := heap_of b5 _ _ _ Rx_4
      clear b5 B4 Rx_4 cx_4_0 cx_4_1 cx_4_2 cx_4_3
      obtain ⟨cx_5_0, cx_5_1, cx_5_2, cx_5_3⟩ := cells4s Rx_5
      go_wp2
      go_ret3
      exact ⟨rfl, B5⟩
    · obtain ⟨Rx_0, B0⟩ := opn1 w (Obj.cells #[.bool true, .string s, .string t, .int .i64 e] 41)
      go_enter Tryz.func232, Tryz.ntmps232
      go_wp2_with fail
      refine (xmay1 _ _ _ _ true M1.out _ (w.alloc (Obj.cells #[.bool true, .string s, .string t, .int .i64 e] 41)) _ (by simp only [size_al]) (tabB TT.out B0)).mono ?_
      rintro r w1 ⟨rfl, b1⟩
      have B1 : Below w.heap.size w w1 := btr B0 b1
      have Rx_1 := heap_of b1 _ _ _ Rx_0
      clear b1 B0 Rx_0
      obtain ⟨cx_1_0, cx_1_1, cx_1_2, cx_1_3⟩ := cells4s Rx_1
      go_wp2_with fail
      refine (withinx k 2097152 true (by decide) (by decide) HG.out _).mono ?_
      rintro r w2 ⟨rfl, b2⟩
      have B2 : Below w.heap.size w w2 := btr B1 b2
      have Rx_2 := heap_of b2 _ _ _ Rx_1
      clear b2 B1 Rx_1 cx_1_0 cx_1_1 cx_1_2 cx_1_3
      obtain ⟨cx_2_0, cx_2_1, cx_2_2, cx_2_3⟩ := cells4s Rx_2
      go_wp2_with fail
      obtain ⟨F, hF1, hF2⟩ := below_fun w2
      have fx_0 := fun u => cells4 (heap_of (hF1 u) _ _ _ Rx_2) 0 _ rfl
      have fx_1 := fun u => cells4 (heap_of (hF1 u) _ _ _ Rx_2) 1 _ rfl
      have fx_2 := fun u => cells4 (heap_of (hF1 u) _ _ _ Rx_2) 2 _ rfl
      have fx_3 := fun u => cells4 (heap_of (hF1 u) _ _ _ Rx_2) 3 _ rfl
      refine wp_region_below F hF2 (by kernel_rfl) (by kernel_rfl) ?_
      repeat first | go_big_quiet_step (first | (go_at_call 146; exact quietF hF1 hF2 (zerox _)) | fail) | quiet_step (first | (go_at_call 146; exact quietF hF1 hF2 (zerox _)) | fail)
      refine wpQuiet_nil ?_
      rintro _ ⟨uW, rfl⟩
      have B3 := btr B2 (hF1 uW)
      have Rx_3 := heap_of (hF1 uW) _ _ _ Rx_2
      obtain ⟨w3, hw⟩ : ∃ V, F uW = V := ⟨_, rfl⟩
      rw [hw] at B3 Rx_3
      try rw [hw]
      clear hw hF1 hF2 B2 fx_0 fx_1 fx_2 fx_3 Rx_2 cx_2_0 cx_2_1 cx_2_2 cx_2_3
      clear F
      obtain ⟨cx_3_0, cx_3_1, cx_3_2, cx_3_3⟩ := cells4s Rx_3
      go_wp2_with fail
      refine (HF.out _).mono ?_
      rintro r w4 ⟨rfl, b4⟩
      have B4 : Below w.heap.size w w4 := btr B3 b4
      have Rx_4 := heap_of b4 _ _ _ Rx_3
      clear b4 B3 Rx_3 cx_3_0 cx_3_1 cx_3_2 cx_3_3
      obtain ⟨cx_4_0, cx_4_1, cx_4_2, cx_4_3⟩ := cells4s Rx_4
      go_wp2_with fail
      refine (HB.out _ (tabB TT.out B4)).mono ?_
      rintro r w5 ⟨rfl, b5⟩
      have B5 : Below w.heap.size w w5 := btr B4 b5
      have Rx_5 := heap_of b5 _ _ _ Rx_4
      clear b5 B4 Rx_4 cx_4_0 cx_4_1 cx_4_2 cx_4_3
      obtain ⟨cx_5_0, cx_5_1, cx_5_2, cx_5_3⟩ := cells4s Rx_5
      go_wp2
      go_ret3
      exact ⟨rfl, B5⟩
  · rw [if_pos (by show k ≤ e; omega)] at hr
    obtain ⟨i, hi⟩ : ∃ i, (e - k).toNat = i := ⟨_, rfl⟩
    have n1 : IntKind.i64.wrap (e - k) = (i : Int) := by rw [wrap_i64_is _ (by omega) (by omega)]; omega
    have hr2 : (if nl (n * 2 ^ i) ≤ 16384 then ((n * 2 ^ i / d, decide (n * 2 ^ i % d = 0)), (0 : Int)) else ((0, false), 4)) = ((m, is), err) := by rw [← hi]; exact hr
    have d2 : decide (e < k) = false := decide_eq_false hek
    have HS := box hs
    have HT := box ht
    have LN := box hc.1
    have LD := box hc.2.1
    have i2 : i ≤ 100000000 := by omega
    by_cases hl : nl (n * 2 ^ i) ≤ 16384
    · rw [if_pos hl] at hr2
      cases hr2
      obtain ⟨p, hp⟩ : ∃ p, nbA (n * 2 ^ i) = p := ⟨_, rfl⟩
      obtain ⟨y, hy⟩ : ∃ y, nbA (n * 2 ^ i % d) = y := ⟨_, rfl⟩
      have F1 := box (lf_up n i p hl hp)
      have e3 : (y.toList == []) = decide (n * 2 ^ i % d = 0) := by
        rw [eq_empty, ← hy, nbA_size, Bool.eq_iff_iff, decide_eq_true_iff, decide_eq_true_iff]
        exact ⟨nl_eq0 _, fun h => by rw [h]; exact nl_zero⟩
      obtain ⟨o, ho⟩ : ∃ o, decide (n * 2 ^ i % d = 0) = o := ⟨_, rfl⟩
      rw [ho] at e3 ⊢
      have HP := box hp
      have HY := box hy
      have HL := box hl
      have HV := box hv
      have D0 := box hc.d0
      clear hs ht hc hT k1 k2 hk n0 hTop ht2 he hek hi hr hp hy hl ho hv
      cases b
      · obtain ⟨Rx_0, B0⟩ := opn1 w (Obj.cells #[.bool false, .string s, .string t, .int .i64 e] 41)
        go_enter Tryz.func232, Tryz.ntmps232
        go_wp2_with fail
        refine (xmay1 _ _ _ _ true M1.out _ (w.alloc (Obj.cells #[.bool false, .string s, .string t, .int .i64 e] 41)) _ (by simp only [size_al]) (tabB TT.out B0)).mono ?_
        rintro r w1 ⟨rfl, b1⟩
        have B1 : Below w.heap.size w w1 := btr B0 b1
        have Rx_1 := heap_of b1 _ _ _ Rx_0
        clear b1 B0 Rx_0
        obtain ⟨cx_1_0, cx_1_1, cx_1_2, cx_1_3⟩ := cells4s Rx_1
        go_wp2_with fail
        refine (withinx k 2097152 true (by decide) (by decide) HG.out _).mono ?_
        rintro r w2 ⟨rfl, b2⟩
        have B2 : Below w.heap.size w w2 := btr B1 b2
        have Rx_2 := heap_of b2 _ _ _ Rx_1
        clear b2 B1 Rx_1 cx_1_0 cx_1_1 cx_1_2 cx_1_3
        obtain ⟨cx_2_0, cx_2_1, cx_2_2, cx_2_3⟩ := cells4s Rx_2
        go_wp2_with fail
        obtain ⟨F, hF1, hF2⟩ := below_fun w2
        have fx_0 := fun u => cells4 (heap_of (hF1 u) _ _ _ Rx_2) 0 _ rfl
        have fx_1 := fun u => cells4 (heap_of (hF1 u) _ _ _ Rx_2) 1 _ rfl
        have fx_2 := fun u => cells4 (heap_of (hF1 u) _ _ _ Rx_2) 2 _ rfl
        have fx_3 := fun u => cells4 (heap_of (hF1 u) _ _ _ Rx_2) 3 _ rfl
        refine wp_region_below F hF2 (by kernel_rfl) (by kernel_rfl) ?_
        repeat first | go_big_quiet_step (first | (go_at_call 146; exact quietF hF1 hF2 (zerox _)) | fail) | quiet_step (first | (go_at_call 146; exact quietF hF1 hF2 (zerox _)) | fail)
        refine wpQuiet_nil ?_
        rintro _ ⟨uW, rfl⟩
        have B3 := btr B2 (hF1 uW)
        have Rx_3 := heap_of (hF1 uW) _ _ _ Rx_2
        obtain ⟨w3, hw⟩ : ∃ V, F uW = V := ⟨_, rfl⟩
        rw [hw] at B3 Rx_3
        try rw [hw]
        clear hw hF1 hF2 B2 fx_0 fx_1 fx_2 fx_3 Rx_2 cx_2_0 cx_2_1 cx_2_2 cx_2_3
        clear F
        obtain ⟨cx_3_0, cx_3_1, cx_3_2, cx_3_3⟩ := cells4s Rx_3
        go_wp2_with fail
        refine (HF.out _).mono ?_
        rintro r w4 ⟨rfl, b4⟩
        have B4 : Below w.heap.size w w4 := btr B3 b4
        have Rx_4 := heap_of b4 _ _ _ Rx_3
        clear b4 B3 Rx_3 cx_3_0 cx_3_1 cx_3_2 cx_3_3
        obtain ⟨cx_4_0, cx_4_1, cx_4_2, cx_4_3⟩ := cells4s Rx_4
        go_wp2_with fail
        refine (pn_left_ok n (i : Int) s p 0 HS.out LN.out (by omega) (by omega) F1.out _).mono ?_
        rintro r w5 ⟨rfl, b5⟩
        have B5 : Below w.heap.size w w5 := btr B4 b5
        have Rx_5 := heap_of b5 _ _ _ Rx_4
        clear b5 B4 Rx_4 cx_4_0 cx_4_1 cx_4_2 cx_4_3
        obtain ⟨cx_5_0, cx_5_1, cx_5_2, cx_5_3⟩ := cells4s Rx_5
        go_wp2_with fail
        refine (pn_div_ok (n * 2 ^ i) d p t v y HP.out HT.out HL.out LD.out D0.out HV.out HY.out _).mono ?_
        rintro r w6 ⟨rfl, b6⟩
        have B6 : Below w.heap.size w w6 := btr B5 b6
        have Rx_6 := heap_of b6 _ _ _ Rx_5
        clear b6 B5 Rx_5 cx_5_0 cx_5_1 cx_5_2 cx_5_3
        obtain ⟨cx_6_0, cx_6_1, cx_6_2, cx_6_3⟩ := cells4s Rx_6
        go_wp2
        go_ret3
        exact ⟨rfl, B6⟩
      · obtain ⟨Rx_0, B0⟩ := opn1 w (Obj.cells #[.bool true, .string s, .string t, .int .i64 e] 41)
        go_enter Tryz.func232, Tryz.ntmps232
        go_wp2_with fail
        refine (xmay1 _ _ _ _ true M1.out _ (w.alloc (Obj.cells #[.bool true, .string s, .string t, .int .i64 e] 41)) _ (by simp only [size_al]) (tabB TT.out B0)).mono ?_
        rintro r w1 ⟨rfl, b1⟩
        have B1 : Below w.heap.size w w1 := btr B0 b1
        have Rx_1 := heap_of b1 _ _ _ Rx_0
        clear b1 B0 Rx_0
        obtain ⟨cx_1_0, cx_1_1, cx_1_2, cx_1_3⟩ := cells4s Rx_1
        go_wp2_with fail
        refine (withinx k 2097152 true (by decide) (by decide) HG.out _).mono ?_
        rintro r w2 ⟨rfl, b2⟩
        have B2 : Below w.heap.size w w2 := btr B1 b2
        have Rx_2 := heap_of b2 _ _ _ Rx_1
        clear b2 B1 Rx_1 cx_1_0 cx_1_1 cx_1_2 cx_1_3
        obtain ⟨cx_2_0, cx_2_1, cx_2_2, cx_2_3⟩ := cells4s Rx_2
        go_wp2_with fail
        obtain ⟨F, hF1, hF2⟩ := below_fun w2
        have fx_0 := fun u => cells4 (heap_of (hF1 u) _ _ _ Rx_2) 0 _ rfl
        have fx_1 := fun u => cells4 (heap_of (hF1 u) _ _ _ Rx_2) 1 _ rfl
        have fx_2 := fun u => cells4 (heap_of (hF1 u) _ _ _ Rx_2) 2 _ rfl
        have fx_3 := fun u => cells4 (heap_of (hF1 u) _ _ _ Rx_2) 3 _ rfl
        refine wp_region_below F hF2 (by kernel_rfl) (by kernel_rfl) ?_
        repeat first | go_big_quiet_step (first | (go_at_call 146; exact quietF hF1 hF2 (zerox _)) | fail) | quiet_step (first | (go_at_call 146; exact quietF hF1 hF2 (zerox _)) | fail)
        refine wpQuiet_nil ?_
        rintro _ ⟨uW, rfl⟩
        have B3 := btr B2 (hF1 uW)
        have Rx_3 := heap_of (hF1 uW) _ _ _ Rx_2
        obtain ⟨w3, hw⟩ : ∃ V, F uW = V := ⟨_, rfl⟩
        rw [hw] at B3 Rx_3
        try rw [hw]
        clear hw hF1 hF2 B2 fx_0 fx_1 fx_2 fx_3 Rx_2 cx_2_0 cx_2_1 cx_2_2 cx_2_3
        clear F
        obtain ⟨cx_3_0, cx_3_1, cx_3_2, cx_3_3⟩ := cells4s Rx_3
        go_wp2_with fail
        refine (HF.out _).mono ?_
        rintro r w4 ⟨rfl, b4⟩
        have B4 : Below w.heap.size w w4 := btr B3 b4
        have Rx_4 := heap_of b4 _ _ _ Rx_3
        clear b4 B3 Rx_3 cx_3_0 cx_3_1 cx_3_2 cx_3_3
        obtain ⟨cx_4_0, cx_4_1, cx_4_2, cx_4_3⟩ := cells4s Rx_4
        go_wp2_with fail
        refine (pn_left_ok n (i : Int) s p 0 HS.out LN.out (by omega) (by omega) F1.out _).mono ?_
        rintro r w5 ⟨rfl, b5⟩
        have B5 : Below w.heap.size w w5 := btr B4 b5
        have Rx_5 := heap_of b5 _ _ _ Rx_4
        clear b5 B4 Rx_4 cx_4_0 cx_4_1 cx_4_2 cx_4_3
        obtain ⟨cx_5_0, cx_5_1, cx_5_2, cx_5_3⟩ := cells4s Rx_5
        go_wp2_with fail
        refine (pn_div_ok (n * 2 ^ i) d p t v y HP.out HT.out HL.out LD.out D0.out HV.out HY.out _).mono ?_
        rintro r w6 ⟨rfl, b6⟩
        have B6 : Below w.heap.size w w6 := btr B5 b6
        have Rx_6 := heap_of b6 _ _ _ Rx_5
        clear b6 B5 Rx_5 cx_5_0 cx_5_1 cx_5_2 cx_5_3
        obtain ⟨cx_6_0, cx_6_1, cx_6_2, cx_6_3⟩ := cells4s Rx_6
        go_wp2
        go_ret3
        exact ⟨rfl, B6⟩
    · rw [if_neg hl] at hr2
      cases hr2
      rw [nbA_zero] at hv
      subst hv
      have F1 : Box (lf n (i : Int) = (⟨#[]⟩, 4)) := box (by unfold lf; rw [if_neg (by omega), Int.toNat_natCast]; exact lg_no _ hl)
      clear hs ht hc hT k1 k2 hk n0 hTop ht2 he hek hi hr hl
      cases b
      · obtain ⟨Rx_0, B0⟩ := opn1 w (Obj.cells #[.bool false, .string s, .string t, .int .i64 e] 41)
        go_enter Tryz.func232, Tryz.ntmps232
        go_wp2_with fail
        refine (xmay1 _ _ _ _ true M1.out _ (w.alloc (Obj.cells #[.bool false, .string s, .string t, .int .i64 e] 41)) _ (by simp only [size_al]) (tabB TT.out B0)).mono ?_
        rintro r w1 ⟨rfl, b1⟩
        have B1 : Below w.heap.size w w1 := btr B0 b1
        have Rx_1 := heap_of b1 _ _ _ Rx_0
        clear b1 B0 Rx_0
        obtain ⟨cx_1_0, cx_1_1, cx_1_2, cx_1_3⟩ := cells4s Rx_1
        go_wp2_with fail
        refine (withinx k 2097152 true (by decide) (by decide) HG.out _).mono ?_
        rintro r w2 ⟨rfl, b2⟩
        have B2 : Below w.heap.size w w2 := btr B1 b2
        have Rx_2 := heap_of b2 _ _ _ Rx_1
        clear b2 B1 Rx_1 cx_1_0 cx_1_1 cx_1_2 cx_1_3
        obtain ⟨cx_2_0, cx_2_1, cx_2_2, cx_2_3⟩ := cells4s Rx_2
        go_wp2_with fail
        obtain ⟨F, hF1, hF2⟩ := below_fun w2
        have fx_0 := fun u => cells4 (heap_of (hF1 u) _ _ _ Rx_2) 0 _ rfl
        have fx_1 := fun u => cells4 (heap_of (hF1 u) _ _ _ Rx_2) 1 _ rfl
        have fx_2 := fun u => cells4 (heap_of (hF1 u) _ _ _ Rx_2) 2 _ rfl
        have fx_3 := fun u => cells4 (heap_of (hF1 u) _ _ _ Rx_2) 3 _ rfl
        refine wp_region_below F hF2 (by kernel_rfl) (by kernel_rfl) ?_
        repeat first | go_big_quiet_step (first | (go_at_call 146; exact quietF hF1 hF2 (zerox _)) | fail) | quiet_step (first | (go_at_call 146; exact quietF hF1 hF2 (zerox _)) | fail)
        refine wpQuiet_nil ?_
        rintro _ ⟨uW, rfl⟩
        have B3 := btr B2 (hF1 uW)
        have Rx_3 := heap_of (hF1 uW) _ _ _ Rx_2
        obtain ⟨w3, hw⟩ : ∃ V, F uW = V := ⟨_, rfl⟩
        rw [hw] at B3 Rx_3
        try rw [hw]
        clear hw hF1 hF2 B2 fx_0 fx_1 fx_2 fx_3 Rx_2 cx_2_0 cx_2_1 cx_2_2 cx_2_3
        clear F
        obtain ⟨cx_3_0, cx_3_1, cx_3_2, cx_3_3⟩ := cells4s Rx_3
        go_wp2_with fail
        refine (HF.out _).mono ?_
        rintro r w4 ⟨rfl, b4⟩
        have B4 : Below w.heap.size w w4 := btr B3 b4
        have Rx_4 := heap_of b4 _ _ _ Rx_3
        clear b4 B3 Rx_3 cx_3_0 cx_3_1 cx_3_2 cx_3_3
        obtain ⟨cx_4_0, cx_4_1, cx_4_2, cx_4_3⟩ := cells4s Rx_4
        go_wp2_with fail
        refine (pn_left_ok n (i : Int) s _ 4 HS.out LN.out (by omega) (by omega) F1.out _).mono ?_
        rintro r w5 ⟨rfl, b5⟩
        have B5 : Below w.heap.size w w5 := btr B4 b5
        have Rx_5 := heap_of b5 _ _ _ Rx_4
        clear b5 B4 Rx_4 cx_4_0 cx_4_1 cx_4_2 cx_4_3
        obtain ⟨cx_5_0, cx_5_1, cx_5_2, cx_5_3⟩ := cells4s Rx_5
        go_wp2
        go_ret3
        exact ⟨rfl, B5⟩
      · obtain ⟨Rx_0, B0⟩ := opn1 w (Obj.cells #[.bool true, .string s, .string t, .int .i64 e] 41)
        go_enter Tryz.func232, Tryz.ntmps232
        go_wp2_with fail
        refine (xmay1 _ _ _ _ true M1.out _ (w.alloc (Obj.cells #[.bool true, .string s, .string t, .int .i64 e] 41)) _ (by simp only [size_al]) (tabB TT.out B0)).mono ?_
        rintro r w1 ⟨rfl, b1⟩
        have B1 : Below w.heap.size w w1 := btr B0 b1
        have Rx_1 := heap_of b1 _ _ _ Rx_0
        clear b1 B0 Rx_0
        obtain ⟨cx_1_0, cx_1_1, cx_1_2, cx_1_3⟩ := cells4s Rx_1
        go_wp2_with fail
        refine (withinx k 2097152 true (by decide) (by decide) HG.out _).mono ?_
        rintro r w2 ⟨rfl, b2⟩
        have B2 : Below w.heap.size w w2 := btr B1 b2
        have Rx_2 := heap_of b2 _ _ _ Rx_1
        clear b2 B1 Rx_1 cx_1_0 cx_1_1 cx_1_2 cx_1_3
        obtain ⟨cx_2_0, cx_2_1, cx_2_2, cx_2_3⟩ := cells4s Rx_2
        go_wp2_with fail
        obtain ⟨F, hF1, hF2⟩ := below_fun w2
        have fx_0 := fun u => cells4 (heap_of (hF1 u) _ _ _ Rx_2) 0 _ rfl
        have fx_1 := fun u => cells4 (heap_of (hF1 u) _ _ _ Rx_2) 1 _ rfl
        have fx_2 := fun u => cells4 (heap_of (hF1 u) _ _ _ Rx_2) 2 _ rfl
        have fx_3 := fun u => cells4 (heap_of (hF1 u) _ _ _ Rx_2) 3 _ rfl
        refine wp_region_below F hF2 (by kernel_rfl) (by kernel_rfl) ?_
        repeat first | go_big_quiet_step (first | (go_at_call 146; exact quietF hF1 hF2 (zerox _)) | fail) | quiet_step (first | (go_at_call 146; exact quietF hF1 hF2 (zerox _)) | fail)
        refine wpQuiet_nil ?_
        rintro _ ⟨uW, rfl⟩
        have B3 := btr B2 (hF1 uW)
        have Rx_3 := heap_of (hF1 uW) _ _ _ Rx_2
        obtain ⟨w3, hw⟩ : ∃ V, F uW = V := ⟨_, rfl⟩
        rw [hw] at B3 Rx_3
        try rw [hw]
        clear hw hF1 hF2 B2 fx_0 fx_1 fx_2 fx_3 Rx_2 cx_2_0 cx_2_1 cx_2_2 cx_2_3
        clear F
        obtain ⟨cx_3_0, cx_3_1, cx_3_2, cx_3_3⟩ := cells4s Rx_3
        go_wp2_with fail
        refine (HF.out _).mono ?_
        rintro r w4 ⟨rfl, b4⟩
        have B4 : Below w.heap.size w w4 := btr B3 b4
        have Rx_4 := heap_of b4 _ _ _ Rx_3
        clear b4 B3 Rx_3 cx_3_0 cx_3_1 cx_3_2 cx_3_3
        obtain ⟨cx_4_0, cx_4_1, cx_4_2, cx_4_3⟩ := cells4s Rx_4
        go_wp2_with fail
        refine (pn_left_ok n (i : Int) s _ 4 HS.out LN.out (by omega) (by omega) F1.out _).mono ?_
        rintro r w5 ⟨rfl, b5⟩
        have B5 : Below w.heap.size w w5 := btr B4 b5
        have Rx_5 := heap_of b5 _ _ _ Rx_4
        clear b5 B4 Rx_4 cx_4_0 cx_4_1 cx_4_2 cx_4_3
        obtain ⟨cx_5_0, cx_5_1, cx_5_2, cx_5_3⟩ := cells4s Rx_5
        go_wp2
        go_ret3
        exact ⟨rfl, B5⟩
end Go.Proofs.YtfmmeifipbpbmaaGreatDoor
