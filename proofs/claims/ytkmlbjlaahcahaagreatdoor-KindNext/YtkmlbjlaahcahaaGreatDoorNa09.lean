/-
  What the functions that the statement reaches return: part 9 (X11).
-/
import Derived.Test.YtkmlbjlaahcahaaGreatDoorNa08
namespace Go.Proofs.YtkmlbjlaahcahaaGreatDoor
set_option maxRecDepth 100000
open Go.RowKit WMath XMath

/-- What times answers. -/
def tmX (a b k : Nat) : ByteArray × Int := if nl (a * b * 2 ^ k) ≤ 16384 then (nbA (a * b * 2 ^ k), 0) else (⟨#[]⟩, 4)
theorem mul_pow_le (a k : Nat) : a ≤ a * 2 ^ k := Nat.le_mul_of_pos_right _ (Nat.two_pow_pos _)
set_option maxRecDepth 100000 in
theorem timesx (a b k : Nat) (s t v : ByteArray) (er : Int) (hs : nbA a = s) (ht : nbA b = t) (ha : nl a ≤ 16384) (hb : nl b ≤ 16384) (k2 : k ≤ 100000000) (hr : tmX a b k = (v, er)) (w : World) : Calls Tryz.prog 158 #[.string s, .string t, .int .i64 (k : Int)] w fun r w' => r = .returned (.tuple #[.string v, .int .i64 er]) ∧ Below w.heap.size w w' := by
  have HS := box hs
  have HT := box ht
  have HA := box ha
  have HB := box hb
  unfold tmX at hr
  by_cases h1 : nl (a * b) ≤ 16384
  · obtain ⟨x, hx⟩ : ∃ x, nbA (a * b) = x := ⟨_, rfl⟩
    have HX := box (lg_ok (a * b) x h1 hx)
    have F : Box (lf (a * b) (k : Int) = (v, er)) := box (by unfold lf; rw [if_neg (by omega), Int.toNat_natCast]; unfold lg; exact hr)
    have H1 := box h1
    have HX2 := box hx
    clear hs ht ha hb hr h1 hx
    have B0 : Below w.heap.size w w := (Below.refl _ _)
    go_enter Tryz.func158, Tryz.ntmps158
    go_wp2_with fail
    refine (pn_mul_ok a b s t x 0 HS.out HT.out HA.out HB.out HX.out _).mono ?_
    rintro r w1 ⟨rfl, b1⟩
    have B1 : Below w.heap.size w w1 := btr B0 b1
    clear b1 B0 
    go_wp2_with fail
    refine (pn_left_ok (a * b) (k : Int) x v er HX2.out H1.out (by omega) (by omega) F.out _).mono ?_
    rintro r w2 ⟨rfl, b2⟩
    have B2 : Below w.heap.size w w2 := btr B1 b2
    clear b2 B1 
    go_wp2
    go_ret2
    exact ⟨rfl, B2⟩
  · have HX := box (lg_no (a * b) h1)
    have h2 : ¬ nl (a * b * 2 ^ k) ≤ 16384 := fun h => h1 (Nat.le_trans (nl_mono _ _ (mul_pow_le _ _)) h)
    rw [if_neg h2] at hr
    cases hr
    clear hs ht ha hb h1 h2
    have B0 : Below w.heap.size w w := (Below.refl _ _)
    go_enter Tryz.func158, Tryz.ntmps158
    go_wp2_with fail
    refine (pn_mul_ok a b s t _ 4 HS.out HT.out HA.out HB.out HX.out _).mono ?_
    rintro r w1 ⟨rfl, b1⟩
    have B1 : Below w.heap.size w w1 := btr B0 b1
    clear b1 B0 
    go_wp2
    go_ret2
    exact ⟨rfl, B1⟩

set_option maxRecDepth 100000 in
set_option maxHeartbeats 1000000 in
theorem alikex (b : Bool) (n d : Nat) (e : Int) (s t : ByteArray) (c : Bool) (m f : Nat) (g : Int) (p q : ByteArray) (u v : ByteArray) (er : Int)
    (hs : nbA n = s) (ht : nbA d = t) (hp : nbA m = p) (hq : nbA f = q) (ln : nl n ≤ 16384) (ld : nl d ≤ 16384) (lm : nl m ≤ 16384) (lf : nl f ≤ 16384) (he : -1048576 ≤ e ∧ e ≤ 1048576 ∧ -1048576 ≤ g ∧ g ≤ 1048576)
    (hr : (if nl (XMath.sA (XN.mk b n d e) (XN.mk c m f g)) ≤ 16384 ∧ nl (XMath.sA (XN.mk c m f g) (XN.mk b n d e)) ≤ 16384 then (nbA (XMath.sA (XN.mk b n d e) (XN.mk c m f g)), nbA (XMath.sA (XN.mk c m f g) (XN.mk b n d e)), (0 : Int)) else (⟨#[]⟩, ⟨#[]⟩, 4)) = (u, v, er)) (w : World) :
    Calls Tryz.prog 85 #[.agg #[.bool b, .string s, .string t, .int .i64 e], .agg #[.bool c, .string p, .string q, .int .i64 g]] w fun r w' => r = .returned (.tuple #[.string u, .string v, .int .i64 er]) ∧ Below w.heap.size w w' := by
  obtain ⟨L, hL⟩ : ∃ L, min e g = L := ⟨_, rfl⟩
  obtain ⟨i, hi⟩ : ∃ i, (e - L).toNat = i := ⟨_, rfl⟩
  obtain ⟨j, hj⟩ : ∃ i, (g - L).toNat = i := ⟨_, rfl⟩
  have eA : XMath.sA (XN.mk b n d e) (XN.mk c m f g) = n * f * 2 ^ i := by unfold XMath.sA; show n * f * 2 ^ (e - min e g).toNat = _; rw [hL, hi]
  have eB : XMath.sA (XN.mk c m f g) (XN.mk b n d e) = m * d * 2 ^ j := by unfold XMath.sA; show m * d * 2 ^ (g - min g e).toNat = _; rw [Int.min_comm g e, hL, hj]
  rw [eA, eB] at hr
  have n1 : IntKind.i64.wrap (e - L) = (i : Int) := by rw [wrap_i64_is _ (by omega) (by omega)]; omega
  have n2 : IntKind.i64.wrap (g - L) = (j : Int) := by rw [wrap_i64_is _ (by omega) (by omega)]; omega
  have i2 : i ≤ 100000000 := by omega
  have j2 : j ≤ 100000000 := by omega
  by_cases h1 : nl (n * f * 2 ^ i) ≤ 16384
  · obtain ⟨x, hx⟩ : ∃ x, nbA (n * f * 2 ^ i) = x := ⟨_, rfl⟩
    have K1 := box (fun w => timesx n f i s q x 0 hs hq ln lf i2 (by unfold tmX; rw [if_pos h1, hx]) w)
    by_cases h2 : nl (m * d * 2 ^ j) ≤ 16384
    · rw [if_pos ⟨h1, h2⟩] at hr
      obtain ⟨y, hy⟩ : ∃ x, nbA (m * d * 2 ^ j) = x := ⟨_, rfl⟩
      rw [hx, hy] at hr
      cases hr
      have K2 := box (fun w => timesx m d j p t v 0 hp ht lm ld j2 (by unfold tmX; rw [if_pos h2, hy]) w)
      clear hs ht hp hq ln ld lm lf he hi hj eA eB h1 h2 hx hy i2 j2
      obtain ⟨Rx_0, Ry_0, B0⟩ := opn2 w (Obj.cells #[.bool b, .string s, .string t, .int .i64 e] 28) (Obj.cells #[.bool c, .string p, .string q, .int .i64 g] 28)
      go_enter Tryz.func85, Tryz.ntmps85
      go_wp2_with fail
      refine (K1.out _).mono ?_
      rintro r w1 ⟨rfl, b1⟩
      have B1 : Below w.heap.size w w1 := btr B0 b1
      have Rx_1 := heap_of b1 _ _ _ Rx_0
      have Ry_1 := heap_of b1 _ _ _ Ry_0
      clear b1 B0 Rx_0 Ry_0
      obtain ⟨cx_1_0, cx_1_1, cx_1_2, cx_1_3⟩ := cells4s Rx_1
      obtain ⟨cy_1_0, cy_1_1, cy_1_2, cy_1_3⟩ := cells4s Ry_1
      go_wp2_with fail
      refine (K2.out _).mono ?_
      rintro r w2 ⟨rfl, b2⟩
      have B2 : Below w.heap.size w w2 := btr B1 b2
      have Rx_2 := heap_of b2 _ _ _ Rx_1
      have Ry_2 := heap_of b2 _ _ _ Ry_1
      clear b2 B1 Rx_1 cx_1_0 cx_1_1 cx_1_2 cx_1_3 Ry_1 cy_1_0 cy_1_1 cy_1_2 cy_1_3
      obtain ⟨cx_2_0, cx_2_1, cx_2_2, cx_2_3⟩ := cells4s Rx_2
      obtain ⟨cy_2_0, cy_2_1, cy_2_2, cy_2_3⟩ := cells4s Ry_2
      go_wp2
      go_ret3
      exact ⟨rfl, B2⟩
    · rw [if_neg (fun h => h2 h.2)] at hr
      cases hr
      have K2 := box (fun w => timesx m d j p t ⟨#[]⟩ 4 hp ht lm ld j2 (by unfold tmX; rw [if_neg h2]) w)
      clear hs ht hp hq ln ld lm lf he hi hj eA eB h1 h2 hx i2 j2
      obtain ⟨Rx_0, Ry_0, B0⟩ := opn2 w (Obj.cells #[.bool b, .string s, .string t, .int .i64 e] 28) (Obj.cells #[.bool c, .string p, .string q, .int .i64 g] 28)
      go_enter Tryz.func85, Tryz.ntmps85
      go_wp2_with fail
      refine (K1.out _).mono ?_
      rintro r w1 ⟨rfl, b1⟩
      have B1 : Below w.heap.size w w1 := btr B0 b1
      have Rx_1 := heap_of b1 _ _ _ Rx_0
      have Ry_1 := heap_of b1 _ _ _ Ry_0
      clear b1 B0 Rx_0 Ry_0
      obtain ⟨cx_1_0, cx_1_1, cx_1_2, cx_1_3⟩ := cells4s Rx_1
      obtain ⟨cy_1_0, cy_1_1, cy_1_2, cy_1_3⟩ := cells4s Ry_1
      go_wp2_with fail
      refine (K2.out _).mono ?_
      rintro r w2 ⟨rfl, b2⟩
      have B2 : Below w.heap.size w w2 := btr B1 b2
      have Rx_2 := heap_of b2 _ _ _ Rx_1
      have Ry_2 := heap_of b2 _ _ _ Ry_1
      clear b2 B1 Rx_1 cx_1_0 cx_1_1 cx_1_2 cx_1_3 Ry_1 cy_1_0 cy_1_1 cy_1_2 cy_1_3
      obtain ⟨cx_2_0, cx_2_1, cx_2_2, cx_2_3⟩ := cells4s Rx_2
      obtain ⟨cy_2_0, cy_2_1, cy_2_2, cy_2_3⟩ := cells4s Ry_2
      go_wp2
      go_ret3
      exact ⟨rfl, B2⟩
  · rw [if_neg (fun h => h1 h.1)] at hr
    cases hr
    have K1 := box (fun w => timesx n f i s q ⟨#[]⟩ 4 hs hq ln lf i2 (by unfold tmX; rw [if_neg h1]) w)
    clear hs ht hp hq ln ld lm lf he hi hj eA eB h1 i2 j2
    obtain ⟨Rx_0, Ry_0, B0⟩ := opn2 w (Obj.cells #[.bool b, .string s, .string t, .int .i64 e] 28) (Obj.cells #[.bool c, .string p, .string q, .int .i64 g] 28)
    go_enter Tryz.func85, Tryz.ntmps85
    go_wp2_with fail
    refine (K1.out _).mono ?_
    rintro r w1 ⟨rfl, b1⟩
    have B1 : Below w.heap.size w w1 := btr B0 b1
    have Rx_1 := heap_of b1 _ _ _ Rx_0
    have Ry_1 := heap_of b1 _ _ _ Ry_0
    clear b1 B0 Rx_0 Ry_0
    obtain ⟨cx_1_0, cx_1_1, cx_1_2, cx_1_3⟩ := cells4s Rx_1
    obtain ⟨cy_1_0, cy_1_1, cy_1_2, cy_1_3⟩ := cells4s Ry_1
    go_wp2
    go_ret3
    exact ⟨rfl, B1⟩

/-- What signedSum answers. -/
def ssX (b c : Bool) (x y : Nat) : Bool × ByteArray × Int := if b = c then (b, lg (x + y)) else if x < y then (c, nbA (y - x), 0) else (b, nbA (x - y), 0)
set_option maxRecDepth 100000 in
set_option maxHeartbeats 1000000 in
theorem signedSumx (b c : Bool) (x y : Nat) (s t : ByteArray) (o : Bool) (v : ByteArray) (er : Int) (hs : nbA x = s) (ht : nbA y = t) (lx : nl x ≤ 16384) (ly : nl y ≤ 16384) (hr : ssX b c x y = (o, v, er)) (w : World) :
    Calls Tryz.prog 163 #[.bool b, .bool c, .string s, .string t] w fun r w' => r = .returned (.tuple #[.bool o, .string v, .int .i64 er]) ∧ Below w.heap.size w w' := by
  obtain ⟨k, hk⟩ : ∃ k, cmpv x y = k := ⟨_, rfl⟩
  have hlt : decide (k < 0) = decide (x < y) := by rw [← hk, Bool.eq_iff_iff, decide_eq_true_iff, decide_eq_true_iff]; exact cmpv_neg _ _
  have HS := box hs
  have HT := box ht
  have LX := box lx
  have LY := box ly
  have HK := box hk
  unfold ssX at hr
  by_cases hb : b = c
  · subst hb
    rw [if_pos rfl] at hr
    injection hr with h1 h2
    subst h1
    have HR := box h2
    have e0 : (b == b) = true := by cases b <;> rfl
    clear hs ht lx ly hk hlt h2
    have B0 : Below w.heap.size w w := (Below.refl _ _)
    go_enter Tryz.func163, Tryz.ntmps163
    go_wp2_with fail
    refine (pn_cmp_ok x y s t k HS.out HT.out LX.out LY.out HK.out _).mono ?_
    rintro r w1 ⟨rfl, b1⟩
    have B1 : Below w.heap.size w w1 := btr B0 b1
    clear b1 B0 
    go_wp2_with fail
    refine (pn_add_ok x y s t v er HS.out HT.out LX.out LY.out HR.out _).mono ?_
    rintro r w2 ⟨rfl, b2⟩
    have B2 : Below w.heap.size w w2 := btr B1 b2
    clear b2 B1 
    go_wp2
    go_ret3
    exact ⟨rfl, B2⟩
  · rw [if_neg hb] at hr
    have e0 : (b == c) = false := by cases b <;> cases c <;> first | rfl | exact absurd rfl hb
    by_cases hl : x < y
    · rw [if_pos hl] at hr
      rw [decide_eq_true hl] at hlt
      cases hr
      have HR : Box (sb y x = (nbA (y - x), 0)) := box (by unfold sb; rw [if_neg (by omega)])
      obtain ⟨v, hv⟩ : ∃ v, nbA (y - x) = v := ⟨_, rfl⟩
      rw [hv] at HR ⊢
      clear hs ht lx ly hk hl hb hv
      have B0 : Below w.heap.size w w := (Below.refl _ _)
      go_enter Tryz.func163, Tryz.ntmps163
      go_wp2_with fail
      refine (pn_cmp_ok x y s t k HS.out HT.out LX.out LY.out HK.out _).mono ?_
      rintro r w1 ⟨rfl, b1⟩
      have B1 : Below w.heap.size w w1 := btr B0 b1
      clear b1 B0 
      go_wp2_with fail
      refine (pn_sub_ok y x t s v 0 HT.out HS.out LY.out LX.out HR.out _).mono ?_
      rintro r w2 ⟨rfl, b2⟩
      have B2 : Below w.heap.size w w2 := btr B1 b2
      clear b2 B1 
      go_wp2
      go_ret3
      exact ⟨rfl, B2⟩
    · rw [if_neg hl] at hr
      rw [decide_eq_false hl] at hlt
      cases hr
      have HR : Box (sb x y = (nbA (x - y), 0)) := box (by unfold sb; rw [if_neg hl])
      obtain ⟨v, hv⟩ : ∃ v, nbA (x - y) = v := ⟨_, rfl⟩
      rw [hv] at HR ⊢
      clear hs ht lx ly hk hl hb hv
      have B0 : Below w.heap.size w w := (Below.refl _ _)
      go_enter Tryz.func163, Tryz.ntmps163
      go_wp2_with fail
      refine (pn_cmp_ok x y s t k HS.out HT.out LX.out LY.out HK.out _).mono ?_
      rintro r w1 ⟨rfl, b1⟩
      have B1 : Below w.heap.size w w1 := btr B0 b1
      clear b1 B0 
      go_wp2_with fail
      refine (pn_sub_ok x y s t v 0 HS.out HT.out LX.out LY.out HR.out _).mono ?_
      rintro r w2 ⟨rfl, b2⟩
      have B2 : Below w.heap.size w w2 := btr B1 b2
      clear b2 B1 
      go_wp2
      go_ret3
      exact ⟨rfl, B2⟩
end Go.Proofs.YtkmlbjlaahcahaaGreatDoor
