/-
  What the functions that the statement reaches return: part 6 (X9, Y1, Y4, X11, X12, Y5).
-/
import Derived.Lib.MinMax
import Derived.Test.YtoaaajeblhaeoaaGreatDoorAl05
namespace Go.Proofs.YtoaaajeblhaeoaaGreatDoor
set_option maxRecDepth 100000
set_option maxHeartbeats 40000000
open Go.RowKit WMath XMath
theorem cmpv_neg (a b : Nat) : qY a b < 0 ↔ a < b := by
 unfold qY
 split
 ·
  exact ⟨fun h => absurd h (by decide), fun h => by omega⟩
 ·
  split
  ·
   exact ⟨fun _ => by assumption, fun _ => by decide⟩
  ·
   exact ⟨fun h => absurd h (by decide), fun h => by omega⟩
theorem lf_up (a : Nat) (k : Nat) (v : ByteArray) (h : nl (a * 2 ^ k) ≤ 16384) (hv : yI (a * 2 ^ k) = v) : lf a (k : Int) = (v, 0) := by
 unfold lf
 rw [if_neg (by omega), Int.toNat_natCast]
 exact lg_ok _ v h hv
theorem nl_blen (a b : Nat) (h : zT a = zT b) (hb : nl b ≤ 16384) : nl a ≤ 16384 := by unfold nl at hb ⊢; rw [h]; exact hb
theorem tAB_nl (x : XN) (n0 : x.n ≠ 0) (d0 : x.d ≠ 0) (ln : nl x.n ≤ 16384) (ld : nl x.d ≤ 16384) : nl (tA x) ≤ 16384 ∧ nl (tB x) ≤ 16384 := by
 obtain ⟨h1, _, _⟩ := tA_len x n0 d0
 by_cases h : 0 ≤ qU x
 ·
  have e : tA x = x.n := by unfold tA; rw [show (max (-qU x) 0).toNat = 0 by omega, Nat.pow_zero, Nat.mul_one]
  have k : nl (tA x) ≤ 16384 := by rw [e]; exact ln
  exact ⟨k, nl_blen _ _ h1.symm k⟩
 ·
  have e : tB x = x.d := by unfold tB; rw [show (max (qU x) 0).toNat = 0 by omega, Nat.pow_zero, Nat.mul_one]
  have k : nl (tB x) ≤ 16384 := by rw [e]; exact ld
  exact ⟨nl_blen _ _ h1 k, k⟩

theorem rmake_ok (neg : Bool) (n d : Nat) (e : Int) (s t : ByteArray) (rb : Bool) (rn rd : Nat) (re err : Int) (u v : ByteArray) (hs : yI n = s) (ht : yI d = t) (ln : nl n ≤ 16384) (ld : nl d ≤ 16384) (d0 : d ≠ 0) (he1 : -1048576 ≤ e) (he2 : e ≤ 1048576)
  (hr : XMath.mk neg n d e = (⟨rb, rn, rd, re⟩, err)) (hu : yI rn = u) (hv : yI rd = v) (w : World) :
  Calls Tryz.prog 161 #[.bool neg, .string s, .string t, .int .i64 e] w fun r w' => r = .returned (.tuple #[.agg #[.bool rb, .string u, .string v, .int .i64 re], .int .i64 err]) ∧ Below w.heap.size w w' := by
 have e0 := eq_nil d t ht d0
 have H1 : zO (mayB s = true) := zJ (by rw [← hs]; exact mayB_nb n ln)
 have H2 : zO (mayB t = true) := zJ (by rw [← ht]; exact mayB_nb d ld)
 have g1 : decide (e < -1048576) = false := decide_eq_false (by omega)
 have g2 : decide (1048576 < e) = false := decide_eq_false (by omega)
 by_cases n0 : n = 0
 ·
  subst n0
  rw [mk_null] at hr
  injection hr with h1 h2
  unfold X0 at h1
  injection h1 with a b c d
  subst a b c d h2
  rw [yX] at hs hu
  rw [nb1] at hv
  subst hs hu hv
  clear ht ln ld d0
  obtain ⟨Ad, B0⟩ := yL w (Obj.cells #[.bool false, .string ⟨#[]⟩, .string ⟨#[]⟩, .int .i64 0] 41)
  go_enter Tryz.func161, Tryz.ntmps161
  go_wp2_with fail
  refine (yJ _ true H1.out _).mono ?_
  rintro r w' ⟨rfl, rfl⟩
  go_wp2_with fail
  refine (yJ t true H2.out _).mono ?_
  rintro r w' ⟨rfl, rfl⟩
  go_wp2_with fail
  refine (xnull _).mono ?_
  rintro r w1 ⟨rfl, b1⟩
  have B1 := zU B0 b1
  have Ab := zA b1 _ _ _ Ad
  clear b1 B0 Ad
  obtain ⟨Af, Ag, Ah, Ai⟩ := zG Ab
  have q0 := fz (k := 0) Ab
  have q1 := fz (k := 1) Ab
  have q2 := fz (k := 2) Ab
  have q3 := fz (k := 3) Ab
  obtain ⟨E0, E1, E2, E3⟩ := yS Ab rfl (.bool false) (.string ⟨#[]⟩) (.string ⟨#[1]⟩) (.int .i64 0)
  go_wp2
  exact bodyPost_ret (v := .tuple #[.agg #[.bool false, .string ⟨#[]⟩, .string ⟨#[1]⟩, .int .i64 0], .int .i64 0]) (by simp [results, Tryz.results161, go_sem, E0, E1, E2, E3]) rfl ⟨rfl, yM B1 (by first | exact Nat.le_refl _ | omega) _ _ _ _⟩
 ·
  have e1 := eq_nil n s hs n0
  obtain ⟨x, hx⟩ : ∃ x, tz n = x := ⟨_, rfl⟩
  obtain ⟨y, hy⟩ : ∃ x, tz d = x := ⟨_, rfl⟩
  have LX := zJ (tz_low n)
  have LY := zJ (tz_low d)
  have x2 : x ≤ 131072 := by have := tz_blen n; rw [hx] at this; unfold nl at ln; omega
  have y2 : y ≤ 131072 := by have := tz_blen d; rw [hy] at this; unfold nl at ld; omega
  have hc := mk_cases neg n d e rb rn rd re err n0 hr
  rw [hx, hy] at hc
  rw [hx] at LX
  rw [hy] at LY
  have HS := zJ hs
  have HT := zJ ht
  have LN := zJ ln
  have LD := zJ ld
  obtain ⟨E, hE⟩ : ∃ E, e + (x : Int) - (y : Int) = E := ⟨_, rfl⟩
  rw [hE] at hc
  have k1 : IntKind.i64.wrap (e + (x : Int)) = e + (x : Int) := zR _ (by omega) (by omega)
  have k2 : IntKind.i64.wrap (e + (x : Int) - (y : Int)) = E := by rw [zR _ (by omega) (by omega)]; omega
  obtain ⟨o1, o2⟩ := od_is n n0
  obtain ⟨o3, o4⟩ := od_is d d0
  obtain ⟨p, hp⟩ : ∃ p, yI (od n) = p := ⟨_, rfl⟩
  obtain ⟨q, hq⟩ : ∃ p, yI (od d) = p := ⟨_, rfl⟩
  have L1 : zO (nl (od n) ≤ 16384) := zJ (Nat.le_trans (xE _ _ (od_le n)) ln)
  have L2 : zO (nl (od d) ≤ 16384) := zJ (Nat.le_trans (xE _ _ (od_le d)) ld)
  have HP := zJ hp
  have HQ := zJ hq
  have P1 : zO (yI (n / 2 ^ (x : Int).toNat) = p) := zJ (by rw [Int.toNat_natCast, ← hx]; exact hp)
  have Q1 : zO (yI (d / 2 ^ (y : Int).toNat) = q) := zJ (by rw [Int.toNat_natCast, ← hy]; exact hq)
  obtain ⟨b1, hb1⟩ : ∃ o, decide (n % 2 ^ (x : Int).toNat ≠ 0) = o := ⟨_, rfl⟩
  obtain ⟨b2, hb2⟩ : ∃ o, decide (d % 2 ^ (y : Int).toNat ≠ 0) = o := ⟨_, rfl⟩
  have O1 := zJ hb1
  have O2 := zJ hb2
  obtain ⟨gg, hgg⟩ : ∃ g, Nat.gcd (od n) (od d) = g := ⟨_, rfl⟩
  obtain ⟨h, hh⟩ : ∃ h, yI gg = h := ⟨_, rfl⟩
  have HG : zO (yI (Nat.gcd (od n) (od d)) = h) := zJ (by rw [hgg]; exact hh)
  have HH := zJ hh
  have eo := eq_one gg h hh
  have G0 : zO (gg ≠ 0) := zJ (by rw [← hgg]; exact Nat.pos_iff_ne_zero.1 (Nat.gcd_pos_of_pos_left _ (by omega)))
  rw [hgg] at hc
  obtain ⟨un, hun⟩ : ∃ u, yI (od n / gg) = u := ⟨_, rfl⟩
  obtain ⟨ud, hud⟩ : ∃ u, yI (od d / gg) = u := ⟨_, rfl⟩
  obtain ⟨vn, hvn⟩ : ∃ u, yI (od n % gg) = u := ⟨_, rfl⟩
  obtain ⟨vd, hvd⟩ : ∃ u, yI (od d % gg) = u := ⟨_, rfl⟩
  have U1 := zJ hun
  have U2 := zJ hud
  have U3 := zJ hvn
  have U4 := zJ hvd
  by_cases g1' : gg = 1
  ·
   rw [decide_eq_true g1'] at eo
   have en : un = p := by rw [← hun, g1', Nat.div_one, hp]
   have ed : ud = q := by rw [← hud, g1', Nat.div_one, hq]
   rcases hc with ⟨hc, rfl, rfl, rfl, rfl, rfl⟩ | ⟨hc, rfl, rfl, rfl, rfl, rfl⟩
   ·
    rw [hun] at hu
    rw [hud] at hv
    subst hu hv
    subst en ed
    have c1 : decide (re < -1048576) = false := decide_eq_false (by omega)
    have c2 : decide (1048576 < re) = false := decide_eq_false (by omega)
    clear hs ht ln ld hr hx hy hE hc o1 o2 o3 o4 hp hq n0 d0 hb1 hb2 hgg hh hun hud hvn hvd g1' U1 U2 U3 U4
    obtain ⟨Ad, B0⟩ := yL w (Obj.cells #[.bool false, .string ⟨#[]⟩, .string ⟨#[]⟩, .int .i64 0] 41)
    go_enter Tryz.func161, Tryz.ntmps161
    go_wp2_with fail
    refine (yJ s true H1.out _).mono ?_
    rintro r w' ⟨rfl, rfl⟩
    go_wp2_with fail
    refine (yJ t true H2.out _).mono ?_
    rintro r w' ⟨rfl, rfl⟩
    go_wp2_with fail
    refine (x9 n x s HS.out LN.out LX.out _).mono ?_
    rintro r w' ⟨rfl, rfl⟩
    go_wp2_with fail
    refine (x9 d y t HT.out LD.out LY.out _).mono ?_
    rintro r w' ⟨rfl, rfl⟩
    go_wp2_with fail
    refine (xP n (x : Int) s un b1 HS.out LN.out (by omega) (by omega) P1.out O1.out _).mono ?_
    rintro r w1 ⟨rfl, b1⟩
    have B1 := zU B0 b1
    have Ab := zA b1 _ _ _ Ad
    clear b1 B0 Ad
    obtain ⟨Af, Ag, Ah, Ai⟩ := zG Ab
    go_wp2_with fail
    refine (xP d (y : Int) t ud b2 HT.out LD.out (by omega) (by omega) Q1.out O2.out _).mono ?_
    rintro r w2 ⟨rfl, b2⟩
    have B2 := zU B1 b2
    have Ac := zA b2 _ _ _ Ab
    clear b2 B1 Ab Af Ag Ah Ai
    obtain ⟨Aj, Ak, Al, Am⟩ := zG Ac
    go_wp2_with fail
    refine (nat_Gcd (od n) (od d) un ud h HP.out HQ.out L1.out L2.out HG.out _).mono ?_
    rintro r w3 ⟨rfl, b3⟩
    have B3 := zU B2 b3
    have Aa := zA b3 _ _ _ Ac
    clear b3 B2 Ac Aj Ak Al Am
    obtain ⟨Ao, Ap, Aq, Ar⟩ := zG Aa
    have q0 := fz (k := 0) Aa
    have q1 := fz (k := 1) Aa
    have q2 := fz (k := 2) Aa
    have q3 := fz (k := 3) Aa
    obtain ⟨E0, E1, E2, E3⟩ := yS Aa rfl (.bool rb) (.string un) (.string ud) (.int .i64 re)
    go_wp2
    exact bodyPost_ret (v := .tuple #[.agg #[.bool rb, .string un, .string ud, .int .i64 re], .int .i64 0]) (by simp [results, Tryz.results161, go_sem, E0, E1, E2, E3]) rfl ⟨rfl, yM B3 (by first | exact Nat.le_refl _ | omega) _ _ _ _⟩
   ·
    rw [yX] at hu hv
    subst hu hv
    have c0 : E < -1048576 ∨ 1048576 < E := by omega
    have c12 : decide (E < -1048576) = true ∨ (decide (E < -1048576) = false ∧ decide (1048576 < E) = true) := by
     by_cases hh : E < -1048576
     ·
      exact Or.inl (decide_eq_true hh)
     ·
      exact Or.inr ⟨decide_eq_false hh, decide_eq_true (by omega)⟩
    clear hs ht ln ld hr hx hy hE hc o1 o2 o3 o4 hp hq n0 d0 hb1 hb2 hgg hh hun hud hvn hvd g1' U1 U2 U3 U4 en ed c0
    rcases c12 with c1 | ⟨c1, c2⟩
    ·
     obtain ⟨Ad, B0⟩ := yL w (Obj.cells #[.bool false, .string ⟨#[]⟩, .string ⟨#[]⟩, .int .i64 0] 41)
     go_enter Tryz.func161, Tryz.ntmps161
     go_wp2_with fail
     refine (yJ s true H1.out _).mono ?_
     rintro r w' ⟨rfl, rfl⟩
     go_wp2_with fail
     refine (yJ t true H2.out _).mono ?_
     rintro r w' ⟨rfl, rfl⟩
     go_wp2_with fail
     refine (x9 n x s HS.out LN.out LX.out _).mono ?_
     rintro r w' ⟨rfl, rfl⟩
     go_wp2_with fail
     refine (x9 d y t HT.out LD.out LY.out _).mono ?_
     rintro r w' ⟨rfl, rfl⟩
     go_wp2_with fail
     refine (xP n (x : Int) s p b1 HS.out LN.out (by omega) (by omega) P1.out O1.out _).mono ?_
     rintro r w1 ⟨rfl, b1⟩
     have B1 := zU B0 b1
     have Ab := zA b1 _ _ _ Ad
     clear b1 B0 Ad
     obtain ⟨Af, Ag, Ah, Ai⟩ := zG Ab
     go_wp2_with fail
     refine (xP d (y : Int) t q b2 HT.out LD.out (by omega) (by omega) Q1.out O2.out _).mono ?_
     rintro r w2 ⟨rfl, b2⟩
     have B2 := zU B1 b2
     have Ac := zA b2 _ _ _ Ab
     clear b2 B1 Ab Af Ag Ah Ai
     obtain ⟨Aj, Ak, Al, Am⟩ := zG Ac
     go_wp2_with fail
     refine (nat_Gcd (od n) (od d) p q h HP.out HQ.out L1.out L2.out HG.out _).mono ?_
     rintro r w3 ⟨rfl, b3⟩
     have B3 := zU B2 b3
     have Aa := zA b3 _ _ _ Ac
     clear b3 B2 Ac Aj Ak Al Am
     obtain ⟨Ao, Ap, Aq, Ar⟩ := zG Aa
     have q0 := fz (k := 0) Aa
     have q1 := fz (k := 1) Aa
     have q2 := fz (k := 2) Aa
     have q3 := fz (k := 3) Aa
     obtain ⟨E0, E1, E2, E3⟩ := yS Aa rfl (.bool false) (.string ⟨#[]⟩) (.string ⟨#[]⟩) (.int .i64 0)
     go_wp2
     exact bodyPost_ret (v := .tuple #[.agg #[.bool false, .string ⟨#[]⟩, .string ⟨#[]⟩, .int .i64 0], .int .i64 4]) (by simp [results, Tryz.results161, go_sem, E0, E1, E2, E3]) rfl ⟨rfl, yM B3 (by first | exact Nat.le_refl _ | omega) _ _ _ _⟩
    ·
     obtain ⟨Ad, B0⟩ := yL w (Obj.cells #[.bool false, .string ⟨#[]⟩, .string ⟨#[]⟩, .int .i64 0] 41)
     go_enter Tryz.func161, Tryz.ntmps161
     go_wp2_with fail
     refine (yJ s true H1.out _).mono ?_
     rintro r w' ⟨rfl, rfl⟩
     go_wp2_with fail
     refine (yJ t true H2.out _).mono ?_
     rintro r w' ⟨rfl, rfl⟩
     go_wp2_with fail
     refine (x9 n x s HS.out LN.out LX.out _).mono ?_
     rintro r w' ⟨rfl, rfl⟩
     go_wp2_with fail
     refine (x9 d y t HT.out LD.out LY.out _).mono ?_
     rintro r w' ⟨rfl, rfl⟩
     go_wp2_with fail
     refine (xP n (x : Int) s p b1 HS.out LN.out (by omega) (by omega) P1.out O1.out _).mono ?_
     rintro r w1 ⟨rfl, b1⟩
     have B1 := zU B0 b1
     have Ab := zA b1 _ _ _ Ad
     clear b1 B0 Ad
     obtain ⟨Af, Ag, Ah, Ai⟩ := zG Ab
     go_wp2_with fail
     refine (xP d (y : Int) t q b2 HT.out LD.out (by omega) (by omega) Q1.out O2.out _).mono ?_
     rintro r w2 ⟨rfl, b2⟩
     have B2 := zU B1 b2
     have Ac := zA b2 _ _ _ Ab
     clear b2 B1 Ab Af Ag Ah Ai
     obtain ⟨Aj, Ak, Al, Am⟩ := zG Ac
     go_wp2_with fail
     refine (nat_Gcd (od n) (od d) p q h HP.out HQ.out L1.out L2.out HG.out _).mono ?_
     rintro r w3 ⟨rfl, b3⟩
     have B3 := zU B2 b3
     have Aa := zA b3 _ _ _ Ac
     clear b3 B2 Ac Aj Ak Al Am
     obtain ⟨Ao, Ap, Aq, Ar⟩ := zG Aa
     have q0 := fz (k := 0) Aa
     have q1 := fz (k := 1) Aa
     have q2 := fz (k := 2) Aa
     have q3 := fz (k := 3) Aa
     obtain ⟨E0, E1, E2, E3⟩ := yS Aa rfl (.bool false) (.string ⟨#[]⟩) (.string ⟨#[]⟩) (.int .i64 0)
     go_wp2
     exact bodyPost_ret (v := .tuple #[.agg #[.bool false, .string ⟨#[]⟩, .string ⟨#[]⟩, .int .i64 0], .int .i64 4]) (by simp [results, Tryz.results161, go_sem, E0, E1, E2, E3]) rfl ⟨rfl, yM B3 (by first | exact Nat.le_refl _ | omega) _ _ _ _⟩
  ·
   rw [decide_eq_false g1'] at eo
   rcases hc with ⟨hc, rfl, rfl, rfl, rfl, rfl⟩ | ⟨hc, rfl, rfl, rfl, rfl, rfl⟩
   ·
    rw [hun] at hu
    rw [hud] at hv
    subst hu hv
    have c1 : decide (re < -1048576) = false := decide_eq_false (by omega)
    have c2 : decide (1048576 < re) = false := decide_eq_false (by omega)
    clear hs ht ln ld hr hx hy hE hc o1 o2 o3 o4 hp hq n0 d0 hb1 hb2 hgg hh hun hud hvn hvd g1'
    obtain ⟨Ad, B0⟩ := yL w (Obj.cells #[.bool false, .string ⟨#[]⟩, .string ⟨#[]⟩, .int .i64 0] 41)
    go_enter Tryz.func161, Tryz.ntmps161
    go_wp2_with fail
    refine (yJ s true H1.out _).mono ?_
    rintro r w' ⟨rfl, rfl⟩
    go_wp2_with fail
    refine (yJ t true H2.out _).mono ?_
    rintro r w' ⟨rfl, rfl⟩
    go_wp2_with fail
    refine (x9 n x s HS.out LN.out LX.out _).mono ?_
    rintro r w' ⟨rfl, rfl⟩
    go_wp2_with fail
    refine (x9 d y t HT.out LD.out LY.out _).mono ?_
    rintro r w' ⟨rfl, rfl⟩
    go_wp2_with fail
    refine (xP n (x : Int) s p b1 HS.out LN.out (by omega) (by omega) P1.out O1.out _).mono ?_
    rintro r w1 ⟨rfl, b1⟩
    have B1 := zU B0 b1
    have Ab := zA b1 _ _ _ Ad
    clear b1 B0 Ad
    obtain ⟨Af, Ag, Ah, Ai⟩ := zG Ab
    go_wp2_with fail
    refine (xP d (y : Int) t q b2 HT.out LD.out (by omega) (by omega) Q1.out O2.out _).mono ?_
    rintro r w2 ⟨rfl, b2⟩
    have B2 := zU B1 b2
    have Ac := zA b2 _ _ _ Ab
    clear b2 B1 Ab Af Ag Ah Ai
    obtain ⟨Aj, Ak, Al, Am⟩ := zG Ac
    go_wp2_with fail
    refine (nat_Gcd (od n) (od d) p q h HP.out HQ.out L1.out L2.out HG.out _).mono ?_
    rintro r w3 ⟨rfl, b3⟩
    have B3 := zU B2 b3
    have Aa := zA b3 _ _ _ Ac
    clear b3 B2 Ac Aj Ak Al Am
    obtain ⟨Ao, Ap, Aq, Ar⟩ := zG Aa
    go_wp2_with fail
    refine (nat_Div (od n) gg p h un vn HP.out HH.out L1.out G0.out U1.out U3.out _).mono ?_
    rintro r w4 ⟨rfl, b4⟩
    have B4 := zU B3 b4
    have An := zA b4 _ _ _ Aa
    clear b4 B3 Aa Ao Ap Aq Ar
    obtain ⟨As, At, Au, Av⟩ := zG An
    go_wp2_with fail
    refine (nat_Div (od d) gg q h ud vd HQ.out HH.out L2.out G0.out U2.out U4.out _).mono ?_
    rintro r w5 ⟨rfl, b5⟩
    have B5 := zU B4 b5
    have Ae := zA b5 _ _ _ An
    clear b5 B4 An As At Au Av
    obtain ⟨Aw, Ax, Ay, Az⟩ := zG Ae
    have q0 := fz (k := 0) Ae
    have q1 := fz (k := 1) Ae
    have q2 := fz (k := 2) Ae
    have q3 := fz (k := 3) Ae
    obtain ⟨E0, E1, E2, E3⟩ := yS Ae rfl (.bool rb) (.string un) (.string ud) (.int .i64 re)
    go_wp2
    exact bodyPost_ret (v := .tuple #[.agg #[.bool rb, .string un, .string ud, .int .i64 re], .int .i64 0]) (by simp [results, Tryz.results161, go_sem, E0, E1, E2, E3]) rfl ⟨rfl, yM B5 (by first | exact Nat.le_refl _ | omega) _ _ _ _⟩
   ·
    rw [yX] at hu hv
    subst hu hv
    have c0 : E < -1048576 ∨ 1048576 < E := by omega
    have c12 : decide (E < -1048576) = true ∨ (decide (E < -1048576) = false ∧ decide (1048576 < E) = true) := by
     by_cases hh : E < -1048576
     ·
      exact Or.inl (decide_eq_true hh)
     ·
      exact Or.inr ⟨decide_eq_false hh, decide_eq_true (by omega)⟩
    clear hs ht ln ld hr hx hy hE hc o1 o2 o3 o4 hp hq n0 d0 hb1 hb2 hgg hh hun hud hvn hvd g1' c0
    rcases c12 with c1 | ⟨c1, c2⟩
    ·
     obtain ⟨Ad, B0⟩ := yL w (Obj.cells #[.bool false, .string ⟨#[]⟩, .string ⟨#[]⟩, .int .i64 0] 41)
     go_enter Tryz.func161, Tryz.ntmps161
     go_wp2_with fail
     refine (yJ s true H1.out _).mono ?_
     rintro r w' ⟨rfl, rfl⟩
     go_wp2_with fail
     refine (yJ t true H2.out _).mono ?_
     rintro r w' ⟨rfl, rfl⟩
     go_wp2_with fail
     refine (x9 n x s HS.out LN.out LX.out _).mono ?_
     rintro r w' ⟨rfl, rfl⟩
     go_wp2_with fail
     refine (x9 d y t HT.out LD.out LY.out _).mono ?_
     rintro r w' ⟨rfl, rfl⟩
     go_wp2_with fail
     refine (xP n (x : Int) s p b1 HS.out LN.out (by omega) (by omega) P1.out O1.out _).mono ?_
     rintro r w1 ⟨rfl, b1⟩
     have B1 := zU B0 b1
     have Ab := zA b1 _ _ _ Ad
     clear b1 B0 Ad
     obtain ⟨Af, Ag, Ah, Ai⟩ := zG Ab
     go_wp2_with fail
     refine (xP d (y : Int) t q b2 HT.out LD.out (by omega) (by omega) Q1.out O2.out _).mono ?_
     rintro r w2 ⟨rfl, b2⟩
     have B2 := zU B1 b2
     have Ac := zA b2 _ _ _ Ab
     clear b2 B1 Ab Af Ag Ah Ai
     obtain ⟨Aj, Ak, Al, Am⟩ := zG Ac
     go_wp2_with fail
     refine (nat_Gcd (od n) (od d) p q h HP.out HQ.out L1.out L2.out HG.out _).mono ?_
     rintro r w3 ⟨rfl, b3⟩
     have B3 := zU B2 b3
     have Aa := zA b3 _ _ _ Ac
     clear b3 B2 Ac Aj Ak Al Am
     obtain ⟨Ao, Ap, Aq, Ar⟩ := zG Aa
     go_wp2_with fail
     refine (nat_Div (od n) gg p h un vn HP.out HH.out L1.out G0.out U1.out U3.out _).mono ?_
     rintro r w4 ⟨rfl, b4⟩
     have B4 := zU B3 b4
     have An := zA b4 _ _ _ Aa
     clear b4 B3 Aa Ao Ap Aq Ar
     obtain ⟨As, At, Au, Av⟩ := zG An
     go_wp2_with fail
     refine (nat_Div (od d) gg q h ud vd HQ.out HH.out L2.out G0.out U2.out U4.out _).mono ?_
     rintro r w5 ⟨rfl, b5⟩
     have B5 := zU B4 b5
     have Ae := zA b5 _ _ _ An
     clear b5 B4 An As At Au Av
     obtain ⟨Aw, Ax, Ay, Az⟩ := zG Ae
     have q0 := fz (k := 0) Ae
     have q1 := fz (k := 1) Ae
     have q2 := fz (k := 2) Ae
     have q3 := fz (k := 3) Ae
     obtain ⟨E0, E1, E2, E3⟩ := yS Ae rfl (.bool false) (.string ⟨#[]⟩) (.string ⟨#[]⟩) (.int .i64 0)
     go_wp2
     exact bodyPost_ret (v := .tuple #[.agg #[.bool false, .string ⟨#[]⟩, .string ⟨#[]⟩, .int .i64 0], .int .i64 4]) (by simp [results, Tryz.results161, go_sem, E0, E1, E2, E3]) rfl ⟨rfl, yM B5 (by first | exact Nat.le_refl _ | omega) _ _ _ _⟩
    ·
     obtain ⟨Ad, B0⟩ := yL w (Obj.cells #[.bool false, .string ⟨#[]⟩, .string ⟨#[]⟩, .int .i64 0] 41)
     go_enter Tryz.func161, Tryz.ntmps161
     go_wp2_with fail
     refine (yJ s true H1.out _).mono ?_
     rintro r w' ⟨rfl, rfl⟩
     go_wp2_with fail
     refine (yJ t true H2.out _).mono ?_
     rintro r w' ⟨rfl, rfl⟩
     go_wp2_with fail
     refine (x9 n x s HS.out LN.out LX.out _).mono ?_
     rintro r w' ⟨rfl, rfl⟩
     go_wp2_with fail
     refine (x9 d y t HT.out LD.out LY.out _).mono ?_
     rintro r w' ⟨rfl, rfl⟩
     go_wp2_with fail
     refine (xP n (x : Int) s p b1 HS.out LN.out (by omega) (by omega) P1.out O1.out _).mono ?_
     rintro r w1 ⟨rfl, b1⟩
     have B1 := zU B0 b1
     have Ab := zA b1 _ _ _ Ad
     clear b1 B0 Ad
     obtain ⟨Af, Ag, Ah, Ai⟩ := zG Ab
     go_wp2_with fail
     refine (xP d (y : Int) t q b2 HT.out LD.out (by omega) (by omega) Q1.out O2.out _).mono ?_
     rintro r w2 ⟨rfl, b2⟩
     have B2 := zU B1 b2
     have Ac := zA b2 _ _ _ Ab
     clear b2 B1 Ab Af Ag Ah Ai
     obtain ⟨Aj, Ak, Al, Am⟩ := zG Ac
     go_wp2_with fail
     refine (nat_Gcd (od n) (od d) p q h HP.out HQ.out L1.out L2.out HG.out _).mono ?_
     rintro r w3 ⟨rfl, b3⟩
     have B3 := zU B2 b3
     have Aa := zA b3 _ _ _ Ac
     clear b3 B2 Ac Aj Ak Al Am
     obtain ⟨Ao, Ap, Aq, Ar⟩ := zG Aa
     go_wp2_with fail
     refine (nat_Div (od n) gg p h un vn HP.out HH.out L1.out G0.out U1.out U3.out _).mono ?_
     rintro r w4 ⟨rfl, b4⟩
     have B4 := zU B3 b4
     have An := zA b4 _ _ _ Aa
     clear b4 B3 Aa Ao Ap Aq Ar
     obtain ⟨As, At, Au, Av⟩ := zG An
     go_wp2_with fail
     refine (nat_Div (od d) gg q h ud vd HQ.out HH.out L2.out G0.out U2.out U4.out _).mono ?_
     rintro r w5 ⟨rfl, b5⟩
     have B5 := zU B4 b5
     have Ae := zA b5 _ _ _ An
     clear b5 B4 An As At Au Av
     obtain ⟨Aw, Ax, Ay, Az⟩ := zG Ae
     have q0 := fz (k := 0) Ae
     have q1 := fz (k := 1) Ae
     have q2 := fz (k := 2) Ae
     have q3 := fz (k := 3) Ae
     obtain ⟨E0, E1, E2, E3⟩ := yS Ae rfl (.bool false) (.string ⟨#[]⟩) (.string ⟨#[]⟩) (.int .i64 0)
     go_wp2
     exact bodyPost_ret (v := .tuple #[.agg #[.bool false, .string ⟨#[]⟩, .string ⟨#[]⟩, .int .i64 0], .int .i64 4]) (by simp [results, Tryz.results161, go_sem, E0, E1, E2, E3]) rfl ⟨rfl, yM B5 (by first | exact Nat.le_refl _ | omega) _ _ _ _⟩

theorem below_top (x : XN) (k : Int) (i : Nat) (hx : x.can) (hk : x.e + (i : Int) = k) (h : (2 : Rat) ^ k ≤ x.mag) : x.d * 2 ^ i ≤ x.n := by
 have d0 := hx.d0
 have m := Rat.mul_le_mul_of_nonneg_right h (Rat.le_of_lt (cast_pos d0))
 have e1 : x.mag * (x.d : Rat) = (x.n : Rat) * (2 : Rat) ^ x.e := by
  unfold XN.mag
  have z := cast_ne d0
  grind
 have e2 : (2 : Rat) ^ k * (x.d : Rat) = ((x.d * 2 ^ i : Nat) : Rat) * (2 : Rat) ^ x.e := by
  rw [← hk, p2add, Rat.natCast_mul, ← p2nat]
  grind
 rw [e1, e2] at m
 have m2 := Rat.le_of_mul_le_mul_right m (p2 x.e)
 exact Rat.natCast_le_natCast.1 m2
theorem rshifted (a k : Nat) (s v : ByteArray) (hs : yI a = s) (ha : nl a ≤ 16384) (k2 : k ≤ 1000000) (h : nl (a * 2 ^ k) ≤ 16384) (hv : yI (a * 2 ^ k) = v) (w : World) : Calls Tryz.prog 331 #[.string s, .int .i64 (k : Int)] w fun r w' => r = .returned (.string v) ∧ Below w.heap.size w w' := by
 have F1 := zJ (lf_up a k v h hv)
 have HS := zJ hs
 have HA := zJ ha
 clear hs ha h hv
 have B0 : Below w.heap.size w w := (Below.refl _ _)
 go_enter Tryz.func331, Tryz.ntmps331
 go_wp2_with fail
 refine (xG a (k : Int) s v 0 HS.out HA.out (by omega) F1.out _).mono ?_
 rintro r w1 ⟨rfl, b1⟩
 have B1 := zU B0 b1
 clear b1 B0 
 go_wp2
 go_ret
 exact ⟨rfl, B1⟩

theorem rTop_ok (b : Bool) (n d : Nat) (e : Int) (s t : ByteArray) (T : Int) (hs : yI n = s) (ht : yI d = t) (n0 : n ≠ 0) (hc : (XN.mk b n d e).can) (hr : xI (XN.mk b n d e) = T) (w : World) : Calls Tryz.prog 297 #[.agg #[.bool b, .string s, .string t, .int .i64 e]] w fun r w' => r = .returned (.tuple #[.int .i64 T, .int .i64 0]) ∧ Below w.heap.size w w' := by
 have e0 := eq_nil n s hs n0
 have d0 : d ≠ 0 := hc.d0
 have ln : nl n ≤ 16384 := hc.1
 have ld : nl d ≤ 16384 := hc.2.1
 have he : -1048576 ≤ e ∧ e ≤ 1048576 := ⟨hc.2.2.1, hc.2.2.2.1⟩
 obtain ⟨l1, l2⟩ := tAB_nl (XN.mk b n d e) n0 d0 ln ld
 obtain ⟨x, hx⟩ : ∃ x, zT n = x := ⟨_, rfl⟩
 obtain ⟨y, hy⟩ : ∃ x, zT d = x := ⟨_, rfl⟩
 have x2 : x ≤ 131072 := by unfold nl at ln; omega
 have y2 : y ≤ 131072 := by unfold nl at ld; omega
 have HS := zJ hs
 have HT := zJ ht
 have LN := zJ ln
 have LD := zJ ld
 have HX := zJ hx
 have HY := zJ hy
 by_cases hk0 : y ≤ x
 ·
  obtain ⟨k, hk⟩ : ∃ k : Nat, x - y = k := ⟨_, rfl⟩
  have hlen : qU (XN.mk b n d e) = (k : Int) := by unfold qU; show (zT n : Int) - (zT d : Int) = k; rw [hx, hy]; omega
  have eA : tA (XN.mk b n d e) = n := by unfold tA; rw [hlen, show (max (-(k : Int)) 0).toNat = 0 by omega, Nat.pow_zero, Nat.mul_one]
  have eB : tB (XN.mk b n d e) = d * 2 ^ k := by unfold tB; rw [hlen, show (max (k : Int) 0).toNat = k by omega]
  rw [eB] at l2
  obtain ⟨q, hq⟩ : ∃ p, yI (d * 2 ^ k) = p := ⟨_, rfl⟩
  obtain ⟨c, hcm⟩ : ∃ c, qY n (d * 2 ^ k) = c := ⟨_, rfl⟩
  have HF := zJ (fun w => rshifted d k t q ht ld (by omega) l2 hq w)
  have HQ := zJ hq
  have HC := zJ hcm
  have m1 : IntKind.i64.wrap ((x : Int) - (y : Int)) = (k : Int) := by rw [zR _ (by omega) (by omega)]; omega
  have m5 : IntKind.i64.wrap ((k : Int) - 1) = (k : Int) - 1 := zR _ (by omega) (by omega)
  have m6 : IntKind.i64.wrap ((k : Int) - 1 + e) = (k : Int) - 1 + e := zR _ (by omega) (by omega)
  have m7 : IntKind.i64.wrap ((k : Int) + e) = (k : Int) + e := zR _ (by omega) (by omega)
  have g0 : decide ((0 : Int) ≤ (k : Int)) = true := decide_eq_true (by omega)
  have hT2 : T = (if n < d * 2 ^ k then (k : Int) - 1 else (k : Int)) + e := by rw [← hr]; unfold xI; rw [eA, eB, hlen]
  by_cases hl : n < d * 2 ^ k
  ·
   rw [if_pos hl] at hT2
   have g1 : decide ((0 : Int) ≤ c) = false := decide_eq_false (by have := (cmpv_neg n (d * 2 ^ k)).2 hl; omega)
   subst hT2
   clear hs ht hc hr n0 d0 ln ld he l1 l2 hx hy hk0 hk hlen eA eB hq hcm hl
   obtain ⟨Ab, B0⟩ := yL w (Obj.cells #[.bool b, .string s, .string t, .int .i64 e] 41)
   go_enter Tryz.func297, Tryz.ntmps297
   go_wp2_with fail
   go_quiet (fail)
   obtain ⟨w1, hw, B1, hh⟩ := yK B0 nq
   rw [hw]
   have Aa : w1.heap[w.heap.size]? = some (.cells #[.bool b, .string s, .string t, .int .i64 e] 41) := by rw [hh]; exact Ab
   clear hw hh B0 Ab
   obtain ⟨Ac, Ad, Ae, Af⟩ := zG Aa
   go_wp2_with fail
   refine (qF n x s HS.out LN.out HX.out _).mono ?_
   rintro r w' ⟨rfl, rfl⟩
   go_wp2_with fail
   refine (qF d y t HT.out LD.out HY.out _).mono ?_
   rintro r w' ⟨rfl, rfl⟩
   go_wp2_with fail
   refine (HF.out _).mono ?_
   rintro r w2 ⟨rfl, b2⟩
   have B2 := zU B1 b2
   have Ag := zA b2 _ _ _ Aa
   clear b2 B1 Aa Ac Ad Ae Af
   obtain ⟨Ah, Ai, Aj, Ak⟩ := zG Ag
   go_wp2_with fail
   refine (qQ n (d * 2 ^ k) s q c HS.out HQ.out HC.out _).mono ?_
   rintro r w' ⟨rfl, rfl⟩
   go_wp2
   go_ret2
   exact ⟨rfl, B2⟩
  ·
   rw [if_neg hl] at hT2
   have g1 : decide ((0 : Int) ≤ c) = true := decide_eq_true (by have := mt (cmpv_neg n (d * 2 ^ k)).1 hl; omega)
   subst hT2
   clear hs ht hc hr n0 d0 ln ld he l1 l2 hx hy hk0 hk hlen eA eB hq hcm hl
   obtain ⟨Ab, B0⟩ := yL w (Obj.cells #[.bool b, .string s, .string t, .int .i64 e] 41)
   go_enter Tryz.func297, Tryz.ntmps297
   go_wp2_with fail
   go_quiet (fail)
   obtain ⟨w1, hw, B1, hh⟩ := yK B0 nq
   rw [hw]
   have Aa : w1.heap[w.heap.size]? = some (.cells #[.bool b, .string s, .string t, .int .i64 e] 41) := by rw [hh]; exact Ab
   clear hw hh B0 Ab
   obtain ⟨Ac, Ad, Ae, Af⟩ := zG Aa
   go_wp2_with fail
   refine (qF n x s HS.out LN.out HX.out _).mono ?_
   rintro r w' ⟨rfl, rfl⟩
   go_wp2_with fail
   refine (qF d y t HT.out LD.out HY.out _).mono ?_
   rintro r w' ⟨rfl, rfl⟩
   go_wp2_with fail
   refine (HF.out _).mono ?_
   rintro r w2 ⟨rfl, b2⟩
   have B2 := zU B1 b2
   have Ag := zA b2 _ _ _ Aa
   clear b2 B1 Aa Ac Ad Ae Af
   obtain ⟨Ah, Ai, Aj, Ak⟩ := zG Ag
   go_wp2_with fail
   refine (qQ n (d * 2 ^ k) s q c HS.out HQ.out HC.out _).mono ?_
   rintro r w' ⟨rfl, rfl⟩
   go_wp2
   go_ret2
   exact ⟨rfl, B2⟩
 ·
  obtain ⟨k, hk⟩ : ∃ k : Nat, y - x = k := ⟨_, rfl⟩
  have k1 : 1 ≤ k := by omega
  have hlen : qU (XN.mk b n d e) = -(k : Int) := by unfold qU; show (zT n : Int) - (zT d : Int) = -(k : Int); rw [hx, hy]; omega
  have eA : tA (XN.mk b n d e) = n * 2 ^ k := by unfold tA; rw [hlen, show (max (- -(k : Int)) 0).toNat = k by omega]
  have eB : tB (XN.mk b n d e) = d := by unfold tB; rw [hlen, show (max (-(k : Int)) 0).toNat = 0 by omega, Nat.pow_zero, Nat.mul_one]
  rw [eA] at l1
  obtain ⟨q, hq⟩ : ∃ p, yI (n * 2 ^ k) = p := ⟨_, rfl⟩
  obtain ⟨c, hcm⟩ : ∃ c, qY (n * 2 ^ k) d = c := ⟨_, rfl⟩
  have HF := zJ (fun w => rshifted n k s q hs ln (by omega) l1 hq w)
  have HQ := zJ hq
  have HC := zJ hcm
  obtain ⟨K, hK⟩ : ∃ K : Int, -(k : Int) = K := ⟨_, rfl⟩
  have m1 : IntKind.i64.wrap ((x : Int) - (y : Int)) = K := by rw [zR _ (by omega) (by omega)]; omega
  have m2 : IntKind.i64.wrap (-K) = (k : Int) := by rw [zR _ (by omega) (by omega)]; omega
  have m5 : IntKind.i64.wrap (K - 1) = K - 1 := zR _ (by omega) (by omega)
  have m6 : IntKind.i64.wrap (K - 1 + e) = K - 1 + e := zR _ (by omega) (by omega)
  have m7 : IntKind.i64.wrap (K + e) = K + e := zR _ (by omega) (by omega)
  have g0 : decide ((0 : Int) ≤ K) = false := decide_eq_false (by omega)
  have hT2 : T = (if n * 2 ^ k < d then K - 1 else K) + e := by rw [← hr]; unfold xI; rw [eA, eB, hlen, hK]
  by_cases hl : n * 2 ^ k < d
  ·
   rw [if_pos hl] at hT2
   have g1 : decide ((0 : Int) ≤ c) = false := decide_eq_false (by have := (cmpv_neg (n * 2 ^ k) d).2 hl; omega)
   subst hT2
   clear hs ht hc hr n0 d0 ln ld he l1 l2 hx hy hk0 hk hlen eA eB hq hcm hl hK
   obtain ⟨Ab, B0⟩ := yL w (Obj.cells #[.bool b, .string s, .string t, .int .i64 e] 41)
   go_enter Tryz.func297, Tryz.ntmps297
   go_wp2_with fail
   go_quiet (fail)
   obtain ⟨w1, hw, B1, hh⟩ := yK B0 nq
   rw [hw]
   have Aa : w1.heap[w.heap.size]? = some (.cells #[.bool b, .string s, .string t, .int .i64 e] 41) := by rw [hh]; exact Ab
   clear hw hh B0 Ab
   obtain ⟨Ac, Ad, Ae, Af⟩ := zG Aa
   go_wp2_with fail
   refine (qF n x s HS.out LN.out HX.out _).mono ?_
   rintro r w' ⟨rfl, rfl⟩
   go_wp2_with fail
   refine (qF d y t HT.out LD.out HY.out _).mono ?_
   rintro r w' ⟨rfl, rfl⟩
   go_wp2_with fail
   refine (HF.out _).mono ?_
   rintro r w2 ⟨rfl, b2⟩
   have B2 := zU B1 b2
   have Ag := zA b2 _ _ _ Aa
   clear b2 B1 Aa Ac Ad Ae Af
   obtain ⟨Ah, Ai, Aj, Ak⟩ := zG Ag
   go_wp2_with fail
   refine (qQ (n * 2 ^ k) d q t c HQ.out HT.out HC.out _).mono ?_
   rintro r w' ⟨rfl, rfl⟩
   go_wp2
   go_ret2
   exact ⟨rfl, B2⟩
  ·
   rw [if_neg hl] at hT2
   have g1 : decide ((0 : Int) ≤ c) = true := decide_eq_true (by have := mt (cmpv_neg (n * 2 ^ k) d).1 hl; omega)
   subst hT2
   clear hs ht hc hr n0 d0 ln ld he l1 l2 hx hy hk0 hk hlen eA eB hq hcm hl hK
   obtain ⟨Ab, B0⟩ := yL w (Obj.cells #[.bool b, .string s, .string t, .int .i64 e] 41)
   go_enter Tryz.func297, Tryz.ntmps297
   go_wp2_with fail
   go_quiet (fail)
   obtain ⟨w1, hw, B1, hh⟩ := yK B0 nq
   rw [hw]
   have Aa : w1.heap[w.heap.size]? = some (.cells #[.bool b, .string s, .string t, .int .i64 e] 41) := by rw [hh]; exact Ab
   clear hw hh B0 Ab
   obtain ⟨Ac, Ad, Ae, Af⟩ := zG Aa
   go_wp2_with fail
   refine (qF n x s HS.out LN.out HX.out _).mono ?_
   rintro r w' ⟨rfl, rfl⟩
   go_wp2_with fail
   refine (qF d y t HT.out LD.out HY.out _).mono ?_
   rintro r w' ⟨rfl, rfl⟩
   go_wp2_with fail
   refine (HF.out _).mono ?_
   rintro r w2 ⟨rfl, b2⟩
   have B2 := zU B1 b2
   have Ag := zA b2 _ _ _ Aa
   clear b2 B1 Aa Ac Ad Ae Af
   obtain ⟨Ah, Ai, Aj, Ak⟩ := zG Ag
   go_wp2_with fail
   refine (qQ (n * 2 ^ k) d q t c HQ.out HT.out HC.out _).mono ?_
   rintro r w' ⟨rfl, rfl⟩
   go_wp2
   go_ret2
   exact ⟨rfl, B2⟩
theorem rFloor_ok (b : Bool) (n d : Nat) (e : Int) (s t : ByteArray) (k : Int) (m : Nat) (is : Bool) (err : Int) (v : ByteArray) (hs : yI n = s) (ht : yI d = t) (hc : (XN.mk b n d e).can) (k1 : -9223372036854775808 ≤ k) (k2 : k ≤ 9223372036854775807)
  (hr : flX (XN.mk b n d e) k = ((m, is), err)) (hv : yI m = v) (w : World) : Calls Tryz.prog 299 #[.agg #[.bool b, .string s, .string t, .int .i64 e], .int .i64 k] w fun r w' => r = .returned (.tuple #[.string v, .bool is, .int .i64 err]) ∧ Below w.heap.size w w' := by
 unfold flX at hr
 by_cases hk : k < -2097152 ∨ 2097152 < k
 ·
  rw [if_pos hk] at hr
  cases hr
  rw [yX] at hv
  subst hv
  have c12 : decide (k < -2097152) = true ∨ (decide (k < -2097152) = false ∧ decide (2097152 < k) = true) := by
   by_cases hh : k < -2097152
   ·
    exact Or.inl (decide_eq_true hh)
   ·
    exact Or.inr ⟨decide_eq_false hh, decide_eq_true (by omega)⟩
  clear hs ht hc k1 k2 hk
  rcases c12 with c1 | ⟨c1, c2⟩
  ·
   obtain ⟨Ab, B0⟩ := yL w (Obj.cells #[.bool b, .string s, .string t, .int .i64 e] 41)
   go_enter Tryz.func299, Tryz.ntmps299
   go_wp2
   go_ret3
   exact ⟨rfl, B0⟩
  ·
   obtain ⟨Ab, B0⟩ := yL w (Obj.cells #[.bool b, .string s, .string t, .int .i64 e] 41)
   go_enter Tryz.func299, Tryz.ntmps299
   go_wp2
   go_ret3
   exact ⟨rfl, B0⟩
 rw [if_neg hk] at hr
 have c1 : decide (k < -2097152) = false := decide_eq_false (by omega)
 have c2 : decide (2097152 < k) = false := decide_eq_false (by omega)
 rcases x_cases hs ht hc with ⟨n0, rfl, rfl, rfl, rfl, rfl⟩ | ⟨n0, e0⟩
 ·
  rw [if_pos n0] at hr
  cases hr
  rw [yX] at hv
  subst hv
  clear hs ht hc k1 k2 hk n0
  obtain ⟨Ab, B0⟩ := yL w (Obj.cells #[.bool false, .string ⟨#[]⟩, .string ⟨#[1]⟩, .int .i64 0] 41)
  go_enter Tryz.func299, Tryz.ntmps299
  go_wp2
  go_ret3
  exact ⟨rfl, B0⟩
 rw [if_neg n0] at hr
 have he : -1048576 ≤ e ∧ e ≤ 1048576 := ⟨hc.2.2.1, hc.2.2.2.1⟩
 have HS := zJ hs
 have HT := zJ ht
 have LN := zJ hc.1
 have LD := zJ hc.2.1
 have D0 := zJ hc.d0
 by_cases hek : k ≤ e
 ·
  rw [if_pos hek] at hr
  obtain ⟨i, hi⟩ : ∃ i, (e - k).toNat = i := ⟨_, rfl⟩
  have m1 : IntKind.i64.wrap (e - k) = (i : Int) := by rw [zR _ (by omega) (by omega)]; omega
  have hr2 : (if nl (n * 2 ^ i) ≤ 16384 then ((n * 2 ^ i / d, decide (n * 2 ^ i % d = 0)), (0 : Int)) else ((0, false), 4)) = ((m, is), err) := by rw [← hi]; exact hr
  have d2 : decide (k ≤ e) = true := decide_eq_true hek
  have i2 : i ≤ 100000000 := by omega
  by_cases hl : nl (n * 2 ^ i) ≤ 16384
  ·
   rw [if_pos hl] at hr2
   cases hr2
   obtain ⟨p, hp⟩ : ∃ p, yI (n * 2 ^ i) = p := ⟨_, rfl⟩
   obtain ⟨y, hy⟩ : ∃ y, yI (n * 2 ^ i % d) = y := ⟨_, rfl⟩
   have F1 := zJ (lf_up n i p hl hp)
   have e3 : (y.toList == []) = decide (n * 2 ^ i % d = 0) := by
    rw [xX, ← hy, yC, Bool.eq_iff_iff, decide_eq_true_iff, decide_eq_true_iff]
    exact ⟨nl_eq0 _, fun h => by rw [h]; exact qP⟩
   obtain ⟨o, ho⟩ : ∃ o, decide (n * 2 ^ i % d = 0) = o := ⟨_, rfl⟩
   rw [ho] at e3 ⊢
   have HP := zJ hp
   have HY := zJ hy
   have HL := zJ hl
   have HV := zJ hv
   clear hs ht hc k1 k2 hk n0 he hek hi hr hp hy hl ho hv
   obtain ⟨Ab, B0⟩ := yL w (Obj.cells #[.bool b, .string s, .string t, .int .i64 e] 41)
   go_enter Tryz.func299, Tryz.ntmps299
   go_wp2_with fail
   go_quiet (fail)
   obtain ⟨w1, hw, B1, hh⟩ := yK B0 nq
   rw [hw]
   have Aa : w1.heap[w.heap.size]? = some (.cells #[.bool b, .string s, .string t, .int .i64 e] 41) := by rw [hh]; exact Ab
   clear hw hh B0 Ab
   obtain ⟨Ad, Ae, Af, Ag⟩ := zG Aa
   go_wp2_with fail
   refine (xG n (i : Int) s p 0 HS.out LN.out (by omega) F1.out _).mono ?_
   rintro r w2 ⟨rfl, b2⟩
   have B2 := zU B1 b2
   have Ac := zA b2 _ _ _ Aa
   clear b2 B1 Aa Ad Ae Af Ag
   obtain ⟨Ah, Ai, Aj, Ak⟩ := zG Ac
   go_wp2_with fail
   refine (nat_Div (n * 2 ^ i) d p t v y HP.out HT.out HL.out D0.out HV.out HY.out _).mono ?_
   rintro r w3 ⟨rfl, b3⟩
   have B3 := zU B2 b3
   have Al := zA b3 _ _ _ Ac
   clear b3 B2 Ac Ah Ai Aj Ak
   obtain ⟨Am, An, Ao, Ap⟩ := zG Al
   go_wp2
   go_ret3
   exact ⟨rfl, B3⟩
  ·
   rw [if_neg hl] at hr2
   cases hr2
   rw [yX] at hv
   subst hv
   have F1 : zO (lf n (i : Int) = (⟨#[]⟩, 4)) := zJ (by unfold lf; rw [if_neg (by omega), Int.toNat_natCast]; exact lg_no _ hl)
   clear hs ht hc k1 k2 hk n0 he hek hi hr hl
   obtain ⟨Ab, B0⟩ := yL w (Obj.cells #[.bool b, .string s, .string t, .int .i64 e] 41)
   go_enter Tryz.func299, Tryz.ntmps299
   go_wp2_with fail
   go_quiet (fail)
   obtain ⟨w1, hw, B1, hh⟩ := yK B0 nq
   rw [hw]
   have Aa : w1.heap[w.heap.size]? = some (.cells #[.bool b, .string s, .string t, .int .i64 e] 41) := by rw [hh]; exact Ab
   clear hw hh B0 Ab
   obtain ⟨Ad, Ae, Af, Ag⟩ := zG Aa
   go_wp2_with fail
   refine (xG n (i : Int) s _ 4 HS.out LN.out (by omega) F1.out _).mono ?_
   rintro r w2 ⟨rfl, b2⟩
   have B2 := zU B1 b2
   have Ac := zA b2 _ _ _ Aa
   clear b2 B1 Aa Ad Ae Af Ag
   obtain ⟨Ah, Ai, Aj, Ak⟩ := zG Ac
   go_wp2
   go_ret3
   exact ⟨rfl, B2⟩
 ·
  rw [if_neg hek] at hr
  have d2 : decide (k ≤ e) = false := decide_eq_false hek
  obtain ⟨T, hTop⟩ : ∃ T, xI (XN.mk b n d e) = T := ⟨_, rfl⟩
  have HF := zJ (fun w => rTop_ok b n d e s t T hs ht n0 hc hTop w)
  have ht2 := top_good (XN.mk b n d e) n0 hc.d0
  rw [hTop] at hr ht2
  by_cases hlt : T < k
  ·
   rw [if_pos hlt] at hr
   cases hr
   rw [yX] at hv
   subst hv
   have d1 : decide (T < k) = true := decide_eq_true hlt
   clear hs ht hc k1 k2 hk n0 he hek hTop hlt ht2
   obtain ⟨Ab, B0⟩ := yL w (Obj.cells #[.bool b, .string s, .string t, .int .i64 e] 41)
   go_enter Tryz.func299, Tryz.ntmps299
   go_wp2_with fail
   go_quiet (fail)
   obtain ⟨w1, hw, B1, hh⟩ := yK B0 nq
   rw [hw]
   have Aa : w1.heap[w.heap.size]? = some (.cells #[.bool b, .string s, .string t, .int .i64 e] 41) := by rw [hh]; exact Ab
   clear hw hh B0 Ab
   obtain ⟨Ad, Ae, Af, Ag⟩ := zG Aa
   go_wp2_with fail
   refine (HF.out _).mono ?_
   rintro r w2 ⟨rfl, b2⟩
   have B2 := zU B1 b2
   have Ac := zA b2 _ _ _ Aa
   clear b2 B1 Aa Ad Ae Af Ag
   obtain ⟨Ah, Ai, Aj, Ak⟩ := zG Ac
   go_wp2
   go_ret3
   exact ⟨rfl, B2⟩
  ·
   rw [if_neg hlt] at hr
   cases hr
   obtain ⟨i, hi⟩ : ∃ i, (k - e).toNat = i := ⟨_, rfl⟩
   have hv2 : yI (n / (d * 2 ^ i)) = v := by rw [← hi]; exact hv
   have m1 : IntKind.i64.wrap (k - e) = (i : Int) := by rw [zR _ (by omega) (by omega)]; omega
   have i2 : i ≤ 100000000 := by omega
   have hle := below_top (XN.mk b n d e) k i hc (by show e + (i : Int) = k; omega) (by
    have h1 := ht2.1
    exact Rat.le_trans (p2mono k T (by omega)) h1)
   have hle2 : d * 2 ^ i ≤ n := hle
   have L3 : nl (d * 2 ^ i) ≤ 16384 := Nat.le_trans (xE _ _ hle2) hc.1
   obtain ⟨p, hp⟩ : ∃ p, yI (d * 2 ^ i) = p := ⟨_, rfl⟩
   obtain ⟨y, hy⟩ : ∃ y, yI (n % (d * 2 ^ i)) = y := ⟨_, rfl⟩
   have F1 := zJ (lf_up d i p L3 hp)
   have i1 : 1 ≤ i := by omega
   have hz : n % (d * 2 ^ i) ≠ 0 := by
    intro hm
    obtain ⟨z, hz⟩ : ∃ z, i = z + 1 := ⟨i - 1, by omega⟩
    rw [hz, Nat.pow_succ, ← Nat.mul_assoc] at hm
    obtain ⟨q, hq⟩ := Nat.dvd_of_mod_eq_zero hm
    have : n % 2 = 1 := (hc.odd n0).1
    rw [hq, Nat.mul_assoc, Nat.mul_assoc, Nat.mul_left_comm (2 ^ z) 2, Nat.mul_left_comm d 2, Nat.mul_mod_right] at this
    omega
   have e3 := eq_nil _ y hy hz
   have d1 : decide (T < k) = false := decide_eq_false hlt
   have HP := zJ hp
   have HY := zJ hy
   have HV := zJ hv2
   have D3 : zO (d * 2 ^ i ≠ 0) := zJ (mul_ne hc.d0 (Nat.pos_iff_ne_zero.1 (Nat.two_pow_pos _)))
   clear hs ht hc k1 k2 hk n0 he hek hTop hlt ht2 hi hv hv2 hle hle2 L3 hp hy hz
   obtain ⟨Ab, B0⟩ := yL w (Obj.cells #[.bool b, .string s, .string t, .int .i64 e] 41)
   go_enter Tryz.func299, Tryz.ntmps299
   go_wp2_with fail
   go_quiet (fail)
   obtain ⟨w1, hw, B1, hh⟩ := yK B0 nq
   rw [hw]
   have Aa : w1.heap[w.heap.size]? = some (.cells #[.bool b, .string s, .string t, .int .i64 e] 41) := by rw [hh]; exact Ab
   clear hw hh B0 Ab
   obtain ⟨Ad, Ae, Af, Ag⟩ := zG Aa
   go_wp2_with fail
   refine (HF.out _).mono ?_
   rintro r w2 ⟨rfl, b2⟩
   have B2 := zU B1 b2
   have Ac := zA b2 _ _ _ Aa
   clear b2 B1 Aa Ad Ae Af Ag
   obtain ⟨Ah, Ai, Aj, Ak⟩ := zG Ac
   go_wp2_with fail
   refine (xG d (i : Int) t p 0 HT.out LD.out (by omega) F1.out _).mono ?_
   rintro r w3 ⟨rfl, b3⟩
   have B3 := zU B2 b3
   have Al := zA b3 _ _ _ Ac
   clear b3 B2 Ac Ah Ai Aj Ak
   obtain ⟨Am, An, Ao, Ap⟩ := zG Al
   go_wp2_with fail
   refine (nat_Div n (d * 2 ^ i) s p v y HS.out HP.out LN.out D3.out HV.out HY.out _).mono ?_
   rintro r w4 ⟨rfl, b4⟩
   have B4 := zU B3 b4
   have Aq := zA b4 _ _ _ Al
   clear b4 B3 Al Am An Ao Ap
   obtain ⟨Ar, As, At, Au⟩ := zG Aq
   go_wp2
   go_ret3
   exact ⟨rfl, B4⟩
theorem mul_pow_le (a k : Nat) : a ≤ a * 2 ^ k := Nat.le_mul_of_pos_right _ (Nat.two_pow_pos _)
theorem sS_nl (x y : XN) (hx : nl (XMath.sA x y) ≤ 16384) (hy : nl (XMath.sA y x) ≤ 16384) (hb : x.b ≠ y.b) : nl (sS x y) ≤ 16384 := by
 unfold sS
 rw [if_neg hb]
 split
 ·
  exact Nat.le_trans (xE _ _ (Nat.sub_le _ _)) hy
 ·
  exact Nat.le_trans (xE _ _ (Nat.sub_le _ _)) hx

theorem y9 {fn : Func} {t u v x : Tmp} (h : fn.results = #[.tmp t, .tmp u, .tmp v, .tmp x]) (tmps : Array Value) (P : Program) (w : World) :
  (results fn tmps).run P w = .ok (.tuple #[tmps.getD t undef, tmps.getD u undef, tmps.getD v undef, tmps.getD x undef]) w := by
 simp [results, h]
def twX (x y : XN) : (ByteArray × ByteArray) × (Int × Int) := if nl (XMath.sA x y) ≤ 16384 ∧ nl (XMath.sA y x) ≤ 16384 then ((yI (XMath.sA x y), yI (XMath.sA y x)), (min x.e y.e, 0)) else ((⟨#[]⟩, ⟨#[]⟩), (0, 4))
theorem lf_is (a k : Nat) (v : ByteArray) (er : Int) (h : lg (a * 2 ^ k) = (v, er)) : lf a (k : Int) = (v, er) := by
 unfold lf
 rw [if_neg (by omega), Int.toNat_natCast]
 exact h
theorem lg_err (n : Nat) (v : ByteArray) (er : Int) (h : lg n = (v, er)) : (nl n ≤ 16384 ∧ yI n = v ∧ er = 0) ∨ (¬ nl n ≤ 16384 ∧ v = ⟨#[]⟩ ∧ er = 4) := by
 unfold lg at h
 split at h
 ·
  cases h
  exact Or.inl ⟨by assumption, rfl, rfl⟩
 ·
  cases h
  exact Or.inr ⟨by assumption, rfl, rfl⟩

theorem rTwo (b : Bool) (n d : Nat) (e : Int) (s t : ByteArray) (c : Bool) (m f : Nat) (g : Int) (p q : ByteArray) (u v : ByteArray) (L er : Int)
  (hs : yI n = s) (ht : yI d = t) (hp : yI m = p) (hq : yI f = q) (ln : nl n ≤ 16384) (ld : nl d ≤ 16384) (lm : nl m ≤ 16384) (lf : nl f ≤ 16384) (he : -1048576 ≤ e ∧ e ≤ 1048576 ∧ -1048576 ≤ g ∧ g ≤ 1048576)
  (hr : twX (XN.mk b n d e) (XN.mk c m f g) = ((u, v), (L, er))) (w : World) :
  Calls Tryz.prog 163 #[.agg #[.bool b, .string s, .string t, .int .i64 e], .agg #[.bool c, .string p, .string q, .int .i64 g]] w fun r w' => r = .returned (.tuple #[.string u, .string v, .int .i64 L, .int .i64 er]) ∧ Below w.heap.size w w' := by
 obtain ⟨K, hK⟩ : ∃ K, min e g = K := ⟨_, rfl⟩
 obtain ⟨i, hi⟩ : ∃ i, (e - K).toNat = i := ⟨_, rfl⟩
 obtain ⟨j, hj⟩ : ∃ i, (g - K).toNat = i := ⟨_, rfl⟩
 have eA : XMath.sA (XN.mk b n d e) (XN.mk c m f g) = n * f * 2 ^ i := by unfold XMath.sA; show n * f * 2 ^ (e - min e g).toNat = _; rw [hK, hi]
 have eB : XMath.sA (XN.mk c m f g) (XN.mk b n d e) = m * d * 2 ^ j := by unfold XMath.sA; show m * d * 2 ^ (g - min g e).toNat = _; rw [Int.min_comm g e, hK, hj]
 unfold twX at hr
 rw [eA, eB] at hr
 have hr2 : (if nl (n * f * 2 ^ i) ≤ 16384 ∧ nl (m * d * 2 ^ j) ≤ 16384 then ((yI (n * f * 2 ^ i), yI (m * d * 2 ^ j)), (K, (0 : Int))) else ((⟨#[]⟩, ⟨#[]⟩), (0, 4))) = ((u, v), (L, er)) := by rw [← hK]; exact hr
 clear hr eA eB
 have n1 : IntKind.i64.wrap (e - K) = (i : Int) := by rw [zR _ (by omega) (by omega)]; omega
 have n2 : IntKind.i64.wrap (g - K) = (j : Int) := by rw [zR _ (by omega) (by omega)]; omega
 have i2 : i ≤ 100000000 := by omega
 have j2 : j ≤ 100000000 := by omega
 have HS := zJ hs
 have HT := zJ ht
 have HP := zJ hp
 have HQ := zJ hq
 have LN : zO (nl n ≤ 20000) := zJ (by omega)
 have LD : zO (nl d ≤ 20000) := zJ (by omega)
 have LM : zO (nl m ≤ 20000) := zJ (by omega)
 have LF : zO (nl f ≤ 20000) := zJ (by omega)
 have hk : (g = K ∧ decide (g < e) = true ∧ j = 0) ∨ (e = K ∧ decide (g < e) = false ∧ i = 0) := by
  by_cases h : g < e
  ·
   exact Or.inl ⟨by omega, decide_eq_true h, by omega⟩
  ·
   exact Or.inr ⟨by omega, decide_eq_false h, by omega⟩
 obtain ⟨x, ex, hx⟩ : ∃ x ex, lg (n * f) = (x, ex) := ⟨_, _, rfl⟩
 obtain ⟨y, ey, hy⟩ : ∃ x ex, lg (m * d) = (x, ex) := ⟨_, _, rfl⟩
 have HX := zJ hx
 have HY := zJ hy
 rcases lg_err _ _ _ hx with ⟨l1, hx1, rfl⟩ | ⟨l1, rfl, rfl⟩
 ·
  rcases lg_err _ _ _ hy with ⟨l2, hy1, rfl⟩ | ⟨l2, rfl, rfl⟩
  ·
   obtain ⟨x', ex', hx'⟩ : ∃ x ex, lg (n * f * 2 ^ i) = (x, ex) := ⟨_, _, rfl⟩
   obtain ⟨y', ey', hy'⟩ : ∃ x ex, lg (m * d * 2 ^ j) = (x, ex) := ⟨_, _, rfl⟩
   have F1 := zJ (lf_is _ _ _ _ hx')
   have F2 := zJ (lf_is _ _ _ _ hy')
   have H1 := zJ hx1
   have H2 := zJ hy1
   have L1 := zJ l1
   have L2 := zJ l2
   rcases lg_err _ _ _ hx' with ⟨l3, hx3, rfl⟩ | ⟨l3, rfl, rfl⟩
   ·
    rcases lg_err _ _ _ hy' with ⟨l4, hy3, rfl⟩ | ⟨l4, rfl, rfl⟩
    ·
     rw [if_pos ⟨l3, l4⟩, hx3, hy3] at hr2
     cases hr2
     clear hs ht hp hq ln ld lm lf he hK hi hj hx hy l1 l2 l3 l4 hx1 hy1 hx3 hy3 hx' hy'
     rcases hk with ⟨rfl, dk, rfl⟩ | ⟨rfl, dk, rfl⟩
     ·
      skip
      obtain ⟨Ae, Af, B0⟩ := x7 w (Obj.cells #[.bool b, .string s, .string t, .int .i64 e] 41) (Obj.cells #[.bool c, .string p, .string q, .int .i64 g] 41)
      go_enter Tryz.func163, Tryz.ntmps163
      go_wp2_with fail
      refine (yY n f s q x 0 HS.out HQ.out HX.out LN.out LF.out _).mono ?_
      rintro r w1 ⟨rfl, b1⟩
      have B1 := zU B0 b1
      obtain ⟨Aa, Ab⟩ := zY b1 Ae Af
      clear b1 B0 Ae Af
      obtain ⟨Ai, Aj, Ak, Al⟩ := zG Aa
      obtain ⟨Am, An, Ao, Ap⟩ := zG Ab
      go_wp2_with fail
      refine (yY m d p t y 0 HP.out HT.out HY.out LM.out LD.out _).mono ?_
      rintro r w2 ⟨rfl, b2⟩
      have B2 := zU B1 b2
      obtain ⟨Ac, Ad⟩ := zY b2 Aa Ab
      clear b2 B1 Aa Ai Aj Ak Al Ab Am An Ao Ap
      obtain ⟨Aq, Ar, As, At⟩ := zG Ac
      obtain ⟨Au, Av, Aw, Ax⟩ := zG Ad
      go_wp2_with fail
      refine (xG (n * f) (i : Int) x u 0 H1.out L1.out (by omega) F1.out _).mono ?_
      rintro r w3 ⟨rfl, b3⟩
      have B3 := zU B2 b3
      obtain ⟨Ag, Ah⟩ := zY b3 Ac Ad
      clear b3 B2 Ac Aq Ar As At Ad Au Av Aw Ax
      obtain ⟨Ay, Az, AA, AB⟩ := zG Ag
      obtain ⟨AC, AD, AE, AF⟩ := zG Ah
      go_wp2_with fail
      refine (xG (m * d) 0 y v 0 H2.out L2.out (by omega) (show lf (m * d) 0 = _ from F2.out) _).mono ?_
      rintro r w4 ⟨rfl, b4⟩
      have B4 := zU B3 b4
      obtain ⟨AG, AH⟩ := zY b4 Ag Ah
      clear b4 B3 Ag Ay Az AA AB Ah AC AD AE AF
      obtain ⟨AI, AJ, AK, AL⟩ := zG AG
      obtain ⟨AM, AN, AO, AP⟩ := zG AH
      go_wp2
      try simp only [Exit.inBlock, Exit.then]
      refine bodyPost_ret (y9 rfl _ _ _) rfl ?_
      exact ⟨rfl, B4⟩
     ·
      skip
      obtain ⟨Ae, Af, B0⟩ := x7 w (Obj.cells #[.bool b, .string s, .string t, .int .i64 e] 41) (Obj.cells #[.bool c, .string p, .string q, .int .i64 g] 41)
      go_enter Tryz.func163, Tryz.ntmps163
      go_wp2_with fail
      refine (yY n f s q x 0 HS.out HQ.out HX.out LN.out LF.out _).mono ?_
      rintro r w1 ⟨rfl, b1⟩
      have B1 := zU B0 b1
      obtain ⟨Aa, Ab⟩ := zY b1 Ae Af
      clear b1 B0 Ae Af
      obtain ⟨Ai, Aj, Ak, Al⟩ := zG Aa
      obtain ⟨Am, An, Ao, Ap⟩ := zG Ab
      go_wp2_with fail
      refine (yY m d p t y 0 HP.out HT.out HY.out LM.out LD.out _).mono ?_
      rintro r w2 ⟨rfl, b2⟩
      have B2 := zU B1 b2
      obtain ⟨Ac, Ad⟩ := zY b2 Aa Ab
      clear b2 B1 Aa Ai Aj Ak Al Ab Am An Ao Ap
      obtain ⟨Aq, Ar, As, At⟩ := zG Ac
      obtain ⟨Au, Av, Aw, Ax⟩ := zG Ad
      go_wp2_with fail
      refine (xG (n * f) 0 x u 0 H1.out L1.out (by omega) (show lf (n * f) 0 = _ from F1.out) _).mono ?_
      rintro r w3 ⟨rfl, b3⟩
      have B3 := zU B2 b3
      obtain ⟨Ag, Ah⟩ := zY b3 Ac Ad
      clear b3 B2 Ac Aq Ar As At Ad Au Av Aw Ax
      obtain ⟨Ay, Az, AA, AB⟩ := zG Ag
      obtain ⟨AC, AD, AE, AF⟩ := zG Ah
      go_wp2_with fail
      refine (xG (m * d) (j : Int) y v 0 H2.out L2.out (by omega) F2.out _).mono ?_
      rintro r w4 ⟨rfl, b4⟩
      have B4 := zU B3 b4
      obtain ⟨AG, AH⟩ := zY b4 Ag Ah
      clear b4 B3 Ag Ay Az AA AB Ah AC AD AE AF
      obtain ⟨AI, AJ, AK, AL⟩ := zG AG
      obtain ⟨AM, AN, AO, AP⟩ := zG AH
      go_wp2
      try simp only [Exit.inBlock, Exit.then]
      refine bodyPost_ret (y9 rfl _ _ _) rfl ?_
      exact ⟨rfl, B4⟩
    ·
     rw [if_neg (fun h => l4 h.2)] at hr2
     cases hr2
     clear hs ht hp hq ln ld lm lf he hK hi hj hx hy l1 l2 l3 l4 hx1 hy1 hx3 hx' hy'
     rcases hk with ⟨rfl, dk, rfl⟩ | ⟨rfl, dk, rfl⟩
     ·
      skip
      obtain ⟨Ae, Af, B0⟩ := x7 w (Obj.cells #[.bool b, .string s, .string t, .int .i64 e] 41) (Obj.cells #[.bool c, .string p, .string q, .int .i64 g] 41)
      go_enter Tryz.func163, Tryz.ntmps163
      go_wp2_with fail
      refine (yY n f s q x 0 HS.out HQ.out HX.out LN.out LF.out _).mono ?_
      rintro r w1 ⟨rfl, b1⟩
      have B1 := zU B0 b1
      obtain ⟨Aa, Ab⟩ := zY b1 Ae Af
      clear b1 B0 Ae Af
      obtain ⟨Ai, Aj, Ak, Al⟩ := zG Aa
      obtain ⟨Am, An, Ao, Ap⟩ := zG Ab
      go_wp2_with fail
      refine (yY m d p t y 0 HP.out HT.out HY.out LM.out LD.out _).mono ?_
      rintro r w2 ⟨rfl, b2⟩
      have B2 := zU B1 b2
      obtain ⟨Ac, Ad⟩ := zY b2 Aa Ab
      clear b2 B1 Aa Ai Aj Ak Al Ab Am An Ao Ap
      obtain ⟨Aq, Ar, As, At⟩ := zG Ac
      obtain ⟨Au, Av, Aw, Ax⟩ := zG Ad
      go_wp2_with fail
      refine (xG (n * f) (i : Int) x x' 0 H1.out L1.out (by omega) F1.out _).mono ?_
      rintro r w3 ⟨rfl, b3⟩
      have B3 := zU B2 b3
      obtain ⟨Ag, Ah⟩ := zY b3 Ac Ad
      clear b3 B2 Ac Aq Ar As At Ad Au Av Aw Ax
      obtain ⟨Ay, Az, AA, AB⟩ := zG Ag
      obtain ⟨AC, AD, AE, AF⟩ := zG Ah
      go_wp2_with fail
      refine (xG (m * d) 0 y _ 4 H2.out L2.out (by omega) (show lf (m * d) 0 = _ from F2.out) _).mono ?_
      rintro r w4 ⟨rfl, b4⟩
      have B4 := zU B3 b4
      obtain ⟨AG, AH⟩ := zY b4 Ag Ah
      clear b4 B3 Ag Ay Az AA AB Ah AC AD AE AF
      obtain ⟨AI, AJ, AK, AL⟩ := zG AG
      obtain ⟨AM, AN, AO, AP⟩ := zG AH
      go_wp2
      try simp only [Exit.inBlock, Exit.then]
      refine bodyPost_ret (y9 rfl _ _ _) rfl ?_
      exact ⟨rfl, B4⟩
     ·
      skip
      obtain ⟨Ae, Af, B0⟩ := x7 w (Obj.cells #[.bool b, .string s, .string t, .int .i64 e] 41) (Obj.cells #[.bool c, .string p, .string q, .int .i64 g] 41)
      go_enter Tryz.func163, Tryz.ntmps163
      go_wp2_with fail
      refine (yY n f s q x 0 HS.out HQ.out HX.out LN.out LF.out _).mono ?_
      rintro r w1 ⟨rfl, b1⟩
      have B1 := zU B0 b1
      obtain ⟨Aa, Ab⟩ := zY b1 Ae Af
      clear b1 B0 Ae Af
      obtain ⟨Ai, Aj, Ak, Al⟩ := zG Aa
      obtain ⟨Am, An, Ao, Ap⟩ := zG Ab
      go_wp2_with fail
      refine (yY m d p t y 0 HP.out HT.out HY.out LM.out LD.out _).mono ?_
      rintro r w2 ⟨rfl, b2⟩
      have B2 := zU B1 b2
      obtain ⟨Ac, Ad⟩ := zY b2 Aa Ab
      clear b2 B1 Aa Ai Aj Ak Al Ab Am An Ao Ap
      obtain ⟨Aq, Ar, As, At⟩ := zG Ac
      obtain ⟨Au, Av, Aw, Ax⟩ := zG Ad
      go_wp2_with fail
      refine (xG (n * f) 0 x x' 0 H1.out L1.out (by omega) (show lf (n * f) 0 = _ from F1.out) _).mono ?_
      rintro r w3 ⟨rfl, b3⟩
      have B3 := zU B2 b3
      obtain ⟨Ag, Ah⟩ := zY b3 Ac Ad
      clear b3 B2 Ac Aq Ar As At Ad Au Av Aw Ax
      obtain ⟨Ay, Az, AA, AB⟩ := zG Ag
      obtain ⟨AC, AD, AE, AF⟩ := zG Ah
      go_wp2_with fail
      refine (xG (m * d) (j : Int) y _ 4 H2.out L2.out (by omega) F2.out _).mono ?_
      rintro r w4 ⟨rfl, b4⟩
      have B4 := zU B3 b4
      obtain ⟨AG, AH⟩ := zY b4 Ag Ah
      clear b4 B3 Ag Ay Az AA AB Ah AC AD AE AF
      obtain ⟨AI, AJ, AK, AL⟩ := zG AG
      obtain ⟨AM, AN, AO, AP⟩ := zG AH
      go_wp2
      try simp only [Exit.inBlock, Exit.then]
      refine bodyPost_ret (y9 rfl _ _ _) rfl ?_
      exact ⟨rfl, B4⟩
   ·
    rw [if_neg (fun h => l3 h.1)] at hr2
    cases hr2
    clear hs ht hp hq ln ld lm lf he hK hi hj hx hy l1 l2 l3 hx1 hy1 hx' hy'
    rcases hk with ⟨rfl, dk, rfl⟩ | ⟨rfl, dk, rfl⟩
    ·
     skip
     obtain ⟨Ae, Af, B0⟩ := x7 w (Obj.cells #[.bool b, .string s, .string t, .int .i64 e] 41) (Obj.cells #[.bool c, .string p, .string q, .int .i64 g] 41)
     go_enter Tryz.func163, Tryz.ntmps163
     go_wp2_with fail
     refine (yY n f s q x 0 HS.out HQ.out HX.out LN.out LF.out _).mono ?_
     rintro r w1 ⟨rfl, b1⟩
     have B1 := zU B0 b1
     obtain ⟨Aa, Ab⟩ := zY b1 Ae Af
     clear b1 B0 Ae Af
     obtain ⟨Ai, Aj, Ak, Al⟩ := zG Aa
     obtain ⟨Am, An, Ao, Ap⟩ := zG Ab
     go_wp2_with fail
     refine (yY m d p t y 0 HP.out HT.out HY.out LM.out LD.out _).mono ?_
     rintro r w2 ⟨rfl, b2⟩
     have B2 := zU B1 b2
     obtain ⟨Ac, Ad⟩ := zY b2 Aa Ab
     clear b2 B1 Aa Ai Aj Ak Al Ab Am An Ao Ap
     obtain ⟨Aq, Ar, As, At⟩ := zG Ac
     obtain ⟨Au, Av, Aw, Ax⟩ := zG Ad
     go_wp2_with fail
     refine (xG (n * f) (i : Int) x _ 4 H1.out L1.out (by omega) F1.out _).mono ?_
     rintro r w3 ⟨rfl, b3⟩
     have B3 := zU B2 b3
     obtain ⟨Ag, Ah⟩ := zY b3 Ac Ad
     clear b3 B2 Ac Aq Ar As At Ad Au Av Aw Ax
     obtain ⟨Ay, Az, AA, AB⟩ := zG Ag
     obtain ⟨AC, AD, AE, AF⟩ := zG Ah
     go_wp2_with fail
     refine (xG (m * d) 0 y y' ey' H2.out L2.out (by omega) (show lf (m * d) 0 = _ from F2.out) _).mono ?_
     rintro r w4 ⟨rfl, b4⟩
     have B4 := zU B3 b4
     obtain ⟨AG, AH⟩ := zY b4 Ag Ah
     clear b4 B3 Ag Ay Az AA AB Ah AC AD AE AF
     obtain ⟨AI, AJ, AK, AL⟩ := zG AG
     obtain ⟨AM, AN, AO, AP⟩ := zG AH
     go_wp2
     try simp only [Exit.inBlock, Exit.then]
     refine bodyPost_ret (y9 rfl _ _ _) rfl ?_
     exact ⟨rfl, B4⟩
    ·
     skip
     obtain ⟨Ae, Af, B0⟩ := x7 w (Obj.cells #[.bool b, .string s, .string t, .int .i64 e] 41) (Obj.cells #[.bool c, .string p, .string q, .int .i64 g] 41)
     go_enter Tryz.func163, Tryz.ntmps163
     go_wp2_with fail
     refine (yY n f s q x 0 HS.out HQ.out HX.out LN.out LF.out _).mono ?_
     rintro r w1 ⟨rfl, b1⟩
     have B1 := zU B0 b1
     obtain ⟨Aa, Ab⟩ := zY b1 Ae Af
     clear b1 B0 Ae Af
     obtain ⟨Ai, Aj, Ak, Al⟩ := zG Aa
     obtain ⟨Am, An, Ao, Ap⟩ := zG Ab
     go_wp2_with fail
     refine (yY m d p t y 0 HP.out HT.out HY.out LM.out LD.out _).mono ?_
     rintro r w2 ⟨rfl, b2⟩
     have B2 := zU B1 b2
     obtain ⟨Ac, Ad⟩ := zY b2 Aa Ab
     clear b2 B1 Aa Ai Aj Ak Al Ab Am An Ao Ap
     obtain ⟨Aq, Ar, As, At⟩ := zG Ac
     obtain ⟨Au, Av, Aw, Ax⟩ := zG Ad
     go_wp2_with fail
     refine (xG (n * f) 0 x _ 4 H1.out L1.out (by omega) (show lf (n * f) 0 = _ from F1.out) _).mono ?_
     rintro r w3 ⟨rfl, b3⟩
     have B3 := zU B2 b3
     obtain ⟨Ag, Ah⟩ := zY b3 Ac Ad
     clear b3 B2 Ac Aq Ar As At Ad Au Av Aw Ax
     obtain ⟨Ay, Az, AA, AB⟩ := zG Ag
     obtain ⟨AC, AD, AE, AF⟩ := zG Ah
     go_wp2_with fail
     refine (xG (m * d) (j : Int) y y' ey' H2.out L2.out (by omega) F2.out _).mono ?_
     rintro r w4 ⟨rfl, b4⟩
     have B4 := zU B3 b4
     obtain ⟨AG, AH⟩ := zY b4 Ag Ah
     clear b4 B3 Ag Ay Az AA AB Ah AC AD AE AF
     obtain ⟨AI, AJ, AK, AL⟩ := zG AG
     obtain ⟨AM, AN, AO, AP⟩ := zG AH
     go_wp2
     try simp only [Exit.inBlock, Exit.then]
     refine bodyPost_ret (y9 rfl _ _ _) rfl ?_
     exact ⟨rfl, B4⟩
  ·
   rw [if_neg (fun h => l2 (Nat.le_trans (xE _ _ (mul_pow_le _ _)) h.2))] at hr2
   cases hr2
   clear hs ht hp hq ln ld lm lf he hK hi hj hx hy l1 l2 hx1
   rcases hk with ⟨rfl, dk, rfl⟩ | ⟨rfl, dk, rfl⟩
   ·
    skip
    obtain ⟨Ae, Af, B0⟩ := x7 w (Obj.cells #[.bool b, .string s, .string t, .int .i64 e] 41) (Obj.cells #[.bool c, .string p, .string q, .int .i64 g] 41)
    go_enter Tryz.func163, Tryz.ntmps163
    go_wp2_with fail
    refine (yY n f s q x 0 HS.out HQ.out HX.out LN.out LF.out _).mono ?_
    rintro r w1 ⟨rfl, b1⟩
    have B1 := zU B0 b1
    obtain ⟨Aa, Ab⟩ := zY b1 Ae Af
    clear b1 B0 Ae Af
    obtain ⟨Ai, Aj, Ak, Al⟩ := zG Aa
    obtain ⟨Am, An, Ao, Ap⟩ := zG Ab
    go_wp2_with fail
    refine (yY m d p t _ 4 HP.out HT.out HY.out LM.out LD.out _).mono ?_
    rintro r w2 ⟨rfl, b2⟩
    have B2 := zU B1 b2
    obtain ⟨Ac, Ad⟩ := zY b2 Aa Ab
    clear b2 B1 Aa Ai Aj Ak Al Ab Am An Ao Ap
    obtain ⟨Aq, Ar, As, At⟩ := zG Ac
    obtain ⟨Au, Av, Aw, Ax⟩ := zG Ad
    go_wp2
    try simp only [Exit.inBlock, Exit.then]
    refine bodyPost_ret (y9 rfl _ _ _) rfl ?_
    exact ⟨rfl, B2⟩
   ·
    skip
    obtain ⟨Ae, Af, B0⟩ := x7 w (Obj.cells #[.bool b, .string s, .string t, .int .i64 e] 41) (Obj.cells #[.bool c, .string p, .string q, .int .i64 g] 41)
    go_enter Tryz.func163, Tryz.ntmps163
    go_wp2_with fail
    refine (yY n f s q x 0 HS.out HQ.out HX.out LN.out LF.out _).mono ?_
    rintro r w1 ⟨rfl, b1⟩
    have B1 := zU B0 b1
    obtain ⟨Aa, Ab⟩ := zY b1 Ae Af
    clear b1 B0 Ae Af
    obtain ⟨Ai, Aj, Ak, Al⟩ := zG Aa
    obtain ⟨Am, An, Ao, Ap⟩ := zG Ab
    go_wp2_with fail
    refine (yY m d p t _ 4 HP.out HT.out HY.out LM.out LD.out _).mono ?_
    rintro r w2 ⟨rfl, b2⟩
    have B2 := zU B1 b2
    obtain ⟨Ac, Ad⟩ := zY b2 Aa Ab
    clear b2 B1 Aa Ai Aj Ak Al Ab Am An Ao Ap
    obtain ⟨Aq, Ar, As, At⟩ := zG Ac
    obtain ⟨Au, Av, Aw, Ax⟩ := zG Ad
    go_wp2
    try simp only [Exit.inBlock, Exit.then]
    refine bodyPost_ret (y9 rfl _ _ _) rfl ?_
    exact ⟨rfl, B2⟩
 ·
  rw [if_neg (fun h => l1 (Nat.le_trans (xE _ _ (mul_pow_le _ _)) h.1))] at hr2
  cases hr2
  clear hs ht hp hq ln ld lm lf he hK hi hj hx hy l1
  rcases hk with ⟨rfl, dk, rfl⟩ | ⟨rfl, dk, rfl⟩
  ·
   skip
   obtain ⟨Ae, Af, B0⟩ := x7 w (Obj.cells #[.bool b, .string s, .string t, .int .i64 e] 41) (Obj.cells #[.bool c, .string p, .string q, .int .i64 g] 41)
   go_enter Tryz.func163, Tryz.ntmps163
   go_wp2_with fail
   refine (yY n f s q _ 4 HS.out HQ.out HX.out LN.out LF.out _).mono ?_
   rintro r w1 ⟨rfl, b1⟩
   have B1 := zU B0 b1
   obtain ⟨Aa, Ab⟩ := zY b1 Ae Af
   clear b1 B0 Ae Af
   obtain ⟨Ai, Aj, Ak, Al⟩ := zG Aa
   obtain ⟨Am, An, Ao, Ap⟩ := zG Ab
   go_wp2_with fail
   refine (yY m d p t y ey HP.out HT.out HY.out LM.out LD.out _).mono ?_
   rintro r w2 ⟨rfl, b2⟩
   have B2 := zU B1 b2
   obtain ⟨Ac, Ad⟩ := zY b2 Aa Ab
   clear b2 B1 Aa Ai Aj Ak Al Ab Am An Ao Ap
   obtain ⟨Aq, Ar, As, At⟩ := zG Ac
   obtain ⟨Au, Av, Aw, Ax⟩ := zG Ad
   go_wp2
   try simp only [Exit.inBlock, Exit.then]
   refine bodyPost_ret (y9 rfl _ _ _) rfl ?_
   exact ⟨rfl, B2⟩
  ·
   skip
   obtain ⟨Ae, Af, B0⟩ := x7 w (Obj.cells #[.bool b, .string s, .string t, .int .i64 e] 41) (Obj.cells #[.bool c, .string p, .string q, .int .i64 g] 41)
   go_enter Tryz.func163, Tryz.ntmps163
   go_wp2_with fail
   refine (yY n f s q _ 4 HS.out HQ.out HX.out LN.out LF.out _).mono ?_
   rintro r w1 ⟨rfl, b1⟩
   have B1 := zU B0 b1
   obtain ⟨Aa, Ab⟩ := zY b1 Ae Af
   clear b1 B0 Ae Af
   obtain ⟨Ai, Aj, Ak, Al⟩ := zG Aa
   obtain ⟨Am, An, Ao, Ap⟩ := zG Ab
   go_wp2_with fail
   refine (yY m d p t y ey HP.out HT.out HY.out LM.out LD.out _).mono ?_
   rintro r w2 ⟨rfl, b2⟩
   have B2 := zU B1 b2
   obtain ⟨Ac, Ad⟩ := zY b2 Aa Ab
   clear b2 B1 Aa Ai Aj Ak Al Ab Am An Ao Ap
   obtain ⟨Aq, Ar, As, At⟩ := zG Ac
   obtain ⟨Au, Av, Aw, Ax⟩ := zG Ad
   go_wp2
   try simp only [Exit.inBlock, Exit.then]
   refine bodyPost_ret (y9 rfl _ _ _) rfl ?_
   exact ⟨rfl, B2⟩
end Go.Proofs.YtoaaajeblhaeoaaGreatDoor
