/-
  What the functions that the statement reaches return: part 6 (Y1, Y4, S1).
-/
import Derived.Test.YtpdehipeakcaiaaGreatDoorFc05
namespace Go.Proofs.YtpdehipeakcaiaaGreatDoor
set_option maxRecDepth 100000
set_option maxHeartbeats 40000000
set_option maxRecDepth 100000
open Go.RowKit WMath XMath
set_option maxRecDepth 100000 in
set_option maxHeartbeats 1000000 in
theorem rmake_ok (neg : Bool) (n d : Nat) (e : Int) (s t : ByteArray) (rb : Bool) (rn rd : Nat) (re err : Int) (u v : ByteArray) (hs : nbA n = s) (ht : nbA d = t) (ln : nl n ≤ 16384) (ld : nl d ≤ 16384) (d0 : d ≠ 0) (he1 : -1048576 ≤ e) (he2 : e ≤ 1048576)
    (hr : XMath.mk neg n d e = (⟨rb, rn, rd, re⟩, err)) (hu : nbA rn = u) (hv : nbA rd = v) (w : World) :
    Calls Tryz.prog 13 #[.bool neg, .string s, .string t, .int .i64 e] w fun r w' => r = .returned (.tuple #[.agg #[.bool rb, .string u, .string v, .int .i64 re], .int .i64 err]) ∧ Below w.heap.size w w' := by
  have e0 := eq_nil d t ht d0
  have H1 : Box (mayB s = true) := box (by rw [← hs]; exact mayB_nb n ln)
  have H2 : Box (mayB t = true) := box (by rw [← ht]; exact mayB_nb d ld)
  have g1 : decide (e < -1048576) = false := decide_eq_false (by omega)
  have g2 : decide (1048576 < e) = false := decide_eq_false (by omega)
  by_cases n0 : n = 0
  · subst n0
    rw [mk_null] at hr
    injection hr with h1 h2
    unfold X0 at h1
    injection h1 with a b c d
    subst a b c d h2
    rw [nbA_zero] at hs hu
    rw [nb1] at hv
    subst hs hu hv
    clear ht ln ld d0
    obtain ⟨Rz_0, B0⟩ := opn1 w (Obj.cells #[.bool false, .string ⟨#[]⟩, .string ⟨#[]⟩, .int .i64 0] 50)
    go_enter Tryz.func13, Tryz.ntmps13
    go_wp2_with fail
    refine (nat_may _ true H1.out _).mono ?_
    rintro r w' ⟨rfl, rfl⟩
    go_wp2_with fail
    refine (nat_may t true H2.out _).mono ?_
    rintro r w' ⟨rfl, rfl⟩
    go_wp2_with fail
    refine (xnull _).mono ?_
    rintro r w1 ⟨rfl, b1⟩
    have B1 : Below w.heap.size w w1 := btr B0 b1
    have Rz_1 := heap_of b1 _ _ _ Rz_0
    clear b1 B0 Rz_0
    obtain ⟨cz_1_0, cz_1_1, cz_1_2, cz_1_3⟩ := cells4s Rz_1
    have q0 := fz (k := 0) Rz_1
    have q1 := fz (k := 1) Rz_1
    have q2 := fz (k := 2) Rz_1
    have q3 := fz (k := 3) Rz_1
    obtain ⟨E0, E1, E2, E3⟩ := set4_cells Rz_1 rfl (.bool false) (.string ⟨#[]⟩) (.string ⟨#[1]⟩) (.int .i64 0)
    go_wp2
    exact bodyPost_ret (v := .tuple #[.agg #[.bool false, .string ⟨#[]⟩, .string ⟨#[1]⟩, .int .i64 0], .int .i64 0]) (by simp [results, Tryz.results13, go_sem, E0, E1, E2, E3]) rfl ⟨rfl, set4_below B1 (by first | exact Nat.le_refl _ | omega | (skip; omega)) _ _ _ _⟩
  · have e1 := eq_nil n s hs n0
    obtain ⟨x, hx⟩ : ∃ x, tz n = x := ⟨_, rfl⟩
    obtain ⟨y, hy⟩ : ∃ x, tz d = x := ⟨_, rfl⟩
    have LX := box (tz_low n)
    have LY := box (tz_low d)
    have x2 : x ≤ 131072 := by have := tz_blen n; rw [hx] at this; unfold nl at ln; omega
    have y2 : y ≤ 131072 := by have := tz_blen d; rw [hy] at this; unfold nl at ld; omega
    have hc := mk_cases neg n d e rb rn rd re err n0 hr
    rw [hx, hy] at hc
    rw [hx] at LX
    rw [hy] at LY
    have HS := box hs
    have HT := box ht
    have LN := box ln
    have LD := box ld
    obtain ⟨E, hE⟩ : ∃ E, e + (x : Int) - (y : Int) = E := ⟨_, rfl⟩
    rw [hE] at hc
    have k1 : IntKind.i64.wrap (e + (x : Int)) = e + (x : Int) := wrap_i64_is _ (by omega) (by omega)
    have k2 : IntKind.i64.wrap (e + (x : Int) - (y : Int)) = E := by rw [wrap_i64_is _ (by omega) (by omega)]; omega
    obtain ⟨o1, o2⟩ := od_is n n0
    obtain ⟨o3, o4⟩ := od_is d d0
    obtain ⟨p, hp⟩ : ∃ p, nbA (od n) = p := ⟨_, rfl⟩
    obtain ⟨q, hq⟩ : ∃ p, nbA (od d) = p := ⟨_, rfl⟩
    have L1 : Box (nl (od n) ≤ 16384) := box (Nat.le_trans (nl_mono _ _ (od_le n)) ln)
    have L2 : Box (nl (od d) ≤ 16384) := box (Nat.le_trans (nl_mono _ _ (od_le d)) ld)
    have HP := box hp
    have HQ := box hq
    have P1 : Box (nbA (n / 2 ^ (x : Int).toNat) = p) := box (by rw [Int.toNat_natCast, ← hx]; exact hp)
    have Q1 : Box (nbA (d / 2 ^ (y : Int).toNat) = q) := box (by rw [Int.toNat_natCast, ← hy]; exact hq)
    obtain ⟨b1, hb1⟩ : ∃ o, decide (n % 2 ^ (x : Int).toNat ≠ 0) = o := ⟨_, rfl⟩
    obtain ⟨b2, hb2⟩ : ∃ o, decide (d % 2 ^ (y : Int).toNat ≠ 0) = o := ⟨_, rfl⟩
    have O1 := box hb1
    have O2 := box hb2
    obtain ⟨gg, hgg⟩ : ∃ g, Nat.gcd (od n) (od d) = g := ⟨_, rfl⟩
    obtain ⟨h, hh⟩ : ∃ h, nbA gg = h := ⟨_, rfl⟩
    have HG : Box (nbA (Nat.gcd (od n) (od d)) = h) := box (by rw [hgg]; exact hh)
    have HH := box hh
    have eo := eq_one gg h hh
    have G0 : Box (gg ≠ 0) := box (by rw [← hgg]; exact Nat.pos_iff_ne_zero.1 (Nat.gcd_pos_of_pos_left _ (by omega)))
    rw [hgg] at hc
    obtain ⟨un, hun⟩ : ∃ u, nbA (od n / gg) = u := ⟨_, rfl⟩
    obtain ⟨ud, hud⟩ : ∃ u, nbA (od d / gg) = u := ⟨_, rfl⟩
    obtain ⟨vn, hvn⟩ : ∃ u, nbA (od n % gg) = u := ⟨_, rfl⟩
    obtain ⟨vd, hvd⟩ : ∃ u, nbA (od d % gg) = u := ⟨_, rfl⟩
    have U1 := box hun
    have U2 := box hud
    have U3 := box hvn
    have U4 := box hvd
    by_cases g1' : gg = 1
    · rw [decide_eq_true g1'] at eo
      have en : un = p := by rw [← hun, g1', Nat.div_one, hp]
      have ed : ud = q := by rw [← hud, g1', Nat.div_one, hq]
      rcases hc with ⟨hc, rfl, rfl, rfl, rfl, rfl⟩ | ⟨hc, rfl, rfl, rfl, rfl, rfl⟩
      · rw [hun] at hu
        rw [hud] at hv
        subst hu hv
        subst en ed
        have c1 : decide (re < -1048576) = false := decide_eq_false (by omega)
        have c2 : decide (1048576 < re) = false := decide_eq_false (by omega)
        clear hs ht ln ld hr hx hy hE hc o1 o2 o3 o4 hp hq n0 d0 hb1 hb2 hgg hh hun hud hvn hvd g1' U1 U2 U3 U4
        obtain ⟨Rz_0, B0⟩ := opn1 w (Obj.cells #[.bool false, .string ⟨#[]⟩, .string ⟨#[]⟩, .int .i64 0] 50)
        go_enter Tryz.func13, Tryz.ntmps13
        go_wp2_with fail
        refine (nat_may s true H1.out _).mono ?_
        rintro r w' ⟨rfl, rfl⟩
        go_wp2_with fail
        refine (nat_may t true H2.out _).mono ?_
        rintro r w' ⟨rfl, rfl⟩
        go_wp2_with fail
        refine (nat_Low n x s HS.out LN.out LX.out _).mono ?_
        rintro r w' ⟨rfl, rfl⟩
        go_wp2_with fail
        refine (nat_Low d y t HT.out LD.out LY.out _).mono ?_
        rintro r w' ⟨rfl, rfl⟩
        go_wp2_with fail
        refine (nat_Right n (x : Int) s un b1 HS.out LN.out (by omega) (by omega) P1.out O1.out _).mono ?_
        rintro r w1 ⟨rfl, b1⟩
        have B1 : Below w.heap.size w w1 := btr B0 b1
        have Rz_1 := heap_of b1 _ _ _ Rz_0
        clear b1 B0 Rz_0
        obtain ⟨cz_1_0, cz_1_1, cz_1_2, cz_1_3⟩ := cells4s Rz_1
        go_wp2_with fail
        refine (nat_Right d (y : Int) t ud b2 HT.out LD.out (by omega) (by omega) Q1.out O2.out _).mono ?_
        rintro r w2 ⟨rfl, b2⟩
        have B2 : Below w.heap.size w w2 := btr B1 b2
        have Rz_2 := heap_of b2 _ _ _ Rz_1
        clear b2 B1 Rz_1 cz_1_0 cz_1_1 cz_1_2 cz_1_3
        obtain ⟨cz_2_0, cz_2_1, cz_2_2, cz_2_3⟩ := cells4s Rz_2
        go_wp2_with fail
        refine (nat_Gcd (od n) (od d) un ud h HP.out HQ.out L1.out L2.out HG.out _).mono ?_
        rintro r w3 ⟨rfl, b3⟩
        have B3 : Below w.heap.size w w3 := btr B2 b3
        have Rz_3 := heap_of b3 _ _ _ Rz_2
        clear b3 B2 Rz_2 cz_2_0 cz_2_1 cz_2_2 cz_2_3
        obtain ⟨cz_3_0, cz_3_1, cz_3_2, cz_3_3⟩ := cells4s Rz_3
        have q0 := fz (k := 0) Rz_3
        have q1 := fz (k := 1) Rz_3
        have q2 := fz (k := 2) Rz_3
        have q3 := fz (k := 3) Rz_3
        obtain ⟨E0, E1, E2, E3⟩ := set4_cells Rz_3 rfl (.bool rb) (.string un) (.string ud) (.int .i64 re)
        go_wp2
        exact bodyPost_ret (v := .tuple #[.agg #[.bool rb, .string un, .string ud, .int .i64 re], .int .i64 0]) (by simp [results, Tryz.results13, go_sem, E0, E1, E2, E3]) rfl ⟨rfl, set4_below B3 (by first | exact Nat.le_refl _ | omega | (skip; omega)) _ _ _ _⟩
      · rw [nbA_zero] at hu hv
        subst hu hv
        have c0 : E < -1048576 ∨ 1048576 < E := by omega
        have c12 : decide (E < -1048576) = true ∨ (decide (E < -1048576) = false ∧ decide (1048576 < E) = true) := by
          by_cases hh : E < -1048576
          · exact Or.inl (decide_eq_true hh)
          · exact Or.inr ⟨decide_eq_false hh, decide_eq_true (by omega)⟩
        clear hs ht ln ld hr hx hy hE hc o1 o2 o3 o4 hp hq n0 d0 hb1 hb2 hgg hh hun hud hvn hvd g1' U1 U2 U3 U4 en ed c0
        rcases c12 with c1 | ⟨c1, c2⟩
        · obtain ⟨Rz_0, B0⟩ := opn1 w (Obj.cells #[.bool false, .string ⟨#[]⟩, .string ⟨#[]⟩, .int .i64 0] 50)
          go_enter Tryz.func13, Tryz.ntmps13
          go_wp2_with fail
          refine (nat_may s true H1.out _).mono ?_
          rintro r w' ⟨rfl, rfl⟩
          go_wp2_with fail
          refine (nat_may t true H2.out _).mono ?_
          rintro r w' ⟨rfl, rfl⟩
          go_wp2_with fail
          refine (nat_Low n x s HS.out LN.out LX.out _).mono ?_
          rintro r w' ⟨rfl, rfl⟩
          go_wp2_with fail
          refine (nat_Low d y t HT.out LD.out LY.out _).mono ?_
          rintro r w' ⟨rfl, rfl⟩
          go_wp2_with fail
          refine (nat_Right n (x : Int) s p b1 HS.out LN.out (by omega) (by omega) P1.out O1.out _).mono ?_
          rintro r w1 ⟨rfl, b1⟩
          have B1 : Below w.heap.size w w1 := btr B0 b1
          have Rz_1 := heap_of b1 _ _ _ Rz_0
          clear b1 B0 Rz_0
          obtain ⟨cz_1_0, cz_1_1, cz_1_2, cz_1_3⟩ := cells4s Rz_1
          go_wp2_with fail
          refine (nat_Right d (y : Int) t q b2 HT.out LD.out (by omega) (by omega) Q1.out O2.out _).mono ?_
          rintro r w2 ⟨rfl, b2⟩
          have B2 : Below w.heap.size w w2 := btr B1 b2
          have Rz_2 := heap_of b2 _ _ _ Rz_1
          clear b2 B1 Rz_1 cz_1_0 cz_1_1 cz_1_2 cz_1_3
          obtain ⟨cz_2_0, cz_2_1, cz_2_2, cz_2_3⟩ := cells4s Rz_2
          go_wp2_with fail
          refine (nat_Gcd (od n) (od d) p q h HP.out HQ.out L1.out L2.out HG.out _).mono ?_
          rintro r w3 ⟨rfl, b3⟩
          have B3 : Below w.heap.size w w3 := btr B2 b3
          have Rz_3 := heap_of b3 _ _ _ Rz_2
          clear b3 B2 Rz_2 cz_2_0 cz_2_1 cz_2_2 cz_2_3
          obtain ⟨cz_3_0, cz_3_1, cz_3_2, cz_3_3⟩ := cells4s Rz_3
          have q0 := fz (k := 0) Rz_3
          have q1 := fz (k := 1) Rz_3
          have q2 := fz (k := 2) Rz_3
          have q3 := fz (k := 3) Rz_3
          obtain ⟨E0, E1, E2, E3⟩ := set4_cells Rz_3 rfl (.bool false) (.string ⟨#[]⟩) (.string ⟨#[]⟩) (.int .i64 0)
          go_wp2
          exact bodyPost_ret (v := .tuple #[.agg #[.bool false, .string ⟨#[]⟩, .string ⟨#[]⟩, .int .i64 0], .int .i64 4]) (by simp [results, Tryz.results13, go_sem, E0, E1, E2, E3]) rfl ⟨rfl, set4_below B3 (by first | exact Nat.le_refl _ | omega | (skip; omega)) _ _ _ _⟩
        · obtain ⟨Rz_0, B0⟩ := opn1 w (Obj.cells #[.bool false, .string ⟨#[]⟩, .string ⟨#[]⟩, .int .i64 0] 50)
          go_enter Tryz.func13, Tryz.ntmps13
          go_wp2_with fail
          refine (nat_may s true H1.out _).mono ?_
          rintro r w' ⟨rfl, rfl⟩
          go_wp2_with fail
          refine (nat_may t true H2.out _).mono ?_
          rintro r w' ⟨rfl, rfl⟩
          go_wp2_with fail
          refine (nat_Low n x s HS.out LN.out LX.out _).mono ?_
          rintro r w' ⟨rfl, rfl⟩
          go_wp2_with fail
          refine (nat_Low d y t HT.out LD.out LY.out _).mono ?_
          rintro r w' ⟨rfl, rfl⟩
          go_wp2_with fail
          refine (nat_Right n (x : Int) s p b1 HS.out LN.out (by omega) (by omega) P1.out O1.out _).mono ?_
          rintro r w1 ⟨rfl, b1⟩
          have B1 : Below w.heap.size w w1 := btr B0 b1
          have Rz_1 := heap_of b1 _ _ _ Rz_0
          clear b1 B0 Rz_0
          obtain ⟨cz_1_0, cz_1_1, cz_1_2, cz_1_3⟩ := cells4s Rz_1
          go_wp2_with fail
          refine (nat_Right d (y : Int) t q b2 HT.out LD.out (by omega) (by omega) Q1.out O2.out _).mono ?_
          rintro r w2 ⟨rfl, b2⟩
          have B2 : Below w.heap.size w w2 := btr B1 b2
          have Rz_2 := heap_of b2 _ _ _ Rz_1
          clear b2 B1 Rz_1 cz_1_0 cz_1_1 cz_1_2 cz_1_3
          obtain ⟨cz_2_0, cz_2_1, cz_2_2, cz_2_3⟩ := cells4s Rz_2
          go_wp2_with fail
          refine (nat_Gcd (od n) (od d) p q h HP.out HQ.out L1.out L2.out HG.out _).mono ?_
          rintro r w3 ⟨rfl, b3⟩
          have B3 : Below w.heap.size w w3 := btr B2 b3
          have Rz_3 := heap_of b3 _ _ _ Rz_2
          clear b3 B2 Rz_2 cz_2_0 cz_2_1 cz_2_2 cz_2_3
          obtain ⟨cz_3_0, cz_3_1, cz_3_2, cz_3_3⟩ := cells4s Rz_3
          have q0 := fz (k := 0) Rz_3
          have q1 := fz (k := 1) Rz_3
          have q2 := fz (k := 2) Rz_3
          have q3 := fz (k := 3) Rz_3
          obtain ⟨E0, E1, E2, E3⟩ := set4_cells Rz_3 rfl (.bool false) (.string ⟨#[]⟩) (.string ⟨#[]⟩) (.int .i64 0)
          go_wp2
          exact bodyPost_ret (v := .tuple #[.agg #[.bool false, .string ⟨#[]⟩, .string ⟨#[]⟩, .int .i64 0], .int .i64 4]) (by simp [results, Tryz.results13, go_sem, E0, E1, E2, E3]) rfl ⟨rfl, set4_below B3 (by first | exact Nat.le_refl _ | omega | (skip; omega)) _ _ _ _⟩
    · rw [decide_eq_false g1'] at eo
      rcases hc with ⟨hc, rfl, rfl, rfl, rfl, rfl⟩ | ⟨hc, rfl, rfl, rfl, rfl, rfl⟩
      · rw [hun] at hu
        rw [hud] at hv
        subst hu hv
        have c1 : decide (re < -1048576) = false := decide_eq_false (by omega)
        have c2 : decide (1048576 < re) = false := decide_eq_false (by omega)
        clear hs ht ln ld hr hx hy hE hc o1 o2 o3 o4 hp hq n0 d0 hb1 hb2 hgg hh hun hud hvn hvd g1'
        obtain ⟨Rz_0, B0⟩ := opn1 w (Obj.cells #[.bool false, .string ⟨#[]⟩, .string ⟨#[]⟩, .int .i64 0] 50)
        go_enter Tryz.func13, Tryz.ntmps13
        go_wp2_with fail
        refine (nat_may s true H1.out _).mono ?_
        rintro r w' ⟨rfl, rfl⟩
        go_wp2_with fail
        refine (nat_may t true H2.out _).mono ?_
        rintro r w' ⟨rfl, rfl⟩
        go_wp2_with fail
        refine (nat_Low n x s HS.out LN.out LX.out _).mono ?_
        rintro r w' ⟨rfl, rfl⟩
        go_wp2_with fail
        refine (nat_Low d y t HT.out LD.out LY.out _).mono ?_
        rintro r w' ⟨rfl, rfl⟩
        go_wp2_with fail
        refine (nat_Right n (x : Int) s p b1 HS.out LN.out (by omega) (by omega) P1.out O1.out _).mono ?_
        rintro r w1 ⟨rfl, b1⟩
        have B1 : Below w.heap.size w w1 := btr B0 b1
        have Rz_1 := heap_of b1 _ _ _ Rz_0
        clear b1 B0 Rz_0
        obtain ⟨cz_1_0, cz_1_1, cz_1_2, cz_1_3⟩ := cells4s Rz_1
        go_wp2_with fail
        refine (nat_Right d (y : Int) t q b2 HT.out LD.out (by omega) (by omega) Q1.out O2.out _).mono ?_
        rintro r w2 ⟨rfl, b2⟩
        have B2 : Below w.heap.size w w2 := btr B1 b2
        have Rz_2 := heap_of b2 _ _ _ Rz_1
        clear b2 B1 Rz_1 cz_1_0 cz_1_1 cz_1_2 cz_1_3
        obtain ⟨cz_2_0, cz_2_1, cz_2_2, cz_2_3⟩ := cells4s Rz_2
        go_wp2_with fail
        refine (nat_Gcd (od n) (od d) p q h HP.out HQ.out L1.out L2.out HG.out _).mono ?_
        rintro r w3 ⟨rfl, b3⟩
        have B3 : Below w.heap.size w w3 := btr B2 b3
        have Rz_3 := heap_of b3 _ _ _ Rz_2
        clear b3 B2 Rz_2 cz_2_0 cz_2_1 cz_2_2 cz_2_3
        obtain ⟨cz_3_0, cz_3_1, cz_3_2, cz_3_3⟩ := cells4s Rz_3
        go_wp2_with fail
        refine (nat_Div (od n) gg p h un vn HP.out HH.out L1.out G0.out U1.out U3.out _).mono ?_
        rintro r w4 ⟨rfl, b4⟩
        have B4 : Below w.heap.size w w4 := btr B3 b4
        have Rz_4 := heap_of b4 _ _ _ Rz_3
        clear b4 B3 Rz_3 cz_3_0 cz_3_1 cz_3_2 cz_3_3
        obtain ⟨cz_4_0, cz_4_1, cz_4_2, cz_4_3⟩ := cells4s Rz_4
        go_wp2_with fail
        refine (nat_Div (od d) gg q h ud vd HQ.out HH.out L2.out G0.out U2.out U4.out _).mono ?_
        rintro r w5 ⟨rfl, b5⟩
        have B5 : Below w.heap.size w w5 := btr B4 b5
        have Rz_5 := heap_of b5 _ _ _ Rz_4
        clear b5 B4 Rz_4 cz_4_0 cz_4_1 cz_4_2 cz_4_3
        obtain ⟨cz_5_0, cz_5_1, cz_5_2, cz_5_3⟩ := cells4s Rz_5
        have q0 := fz (k := 0) Rz_5
        have q1 := fz (k := 1) Rz_5
        have q2 := fz (k := 2) Rz_5
        have q3 := fz (k := 3) Rz_5
        obtain ⟨E0, E1, E2, E3⟩ := set4_cells Rz_5 rfl (.bool rb) (.string un) (.string ud) (.int .i64 re)
        go_wp2
        exact bodyPost_ret (v := .tuple #[.agg #[.bool rb, .string un, .string ud, .int .i64 re], .int .i64 0]) (by simp [results, Tryz.results13, go_sem, E0, E1, E2, E3]) rfl ⟨rfl, set4_below B5 (by first | exact Nat.le_refl _ | omega | (skip; omega)) _ _ _ _⟩
      · rw [nbA_zero] at hu hv
        subst hu hv
        have c0 : E < -1048576 ∨ 1048576 < E := by omega
        have c12 : decide (E < -1048576) = true ∨ (decide (E < -1048576) = false ∧ decide (1048576 < E) = true) := by
          by_cases hh : E < -1048576
          · exact Or.inl (decide_eq_true hh)
          · exact Or.inr ⟨decide_eq_false hh, decide_eq_true (by omega)⟩
        clear hs ht ln ld hr hx hy hE hc o1 o2 o3 o4 hp hq n0 d0 hb1 hb2 hgg hh hun hud hvn hvd g1' c0
        rcases c12 with c1 | ⟨c1, c2⟩
        · obtain ⟨Rz_0, B0⟩ := opn1 w (Obj.cells #[.bool false, .string ⟨#[]⟩, .string ⟨#[]⟩, .int .i64 0] 50)
          go_enter Tryz.func13, Tryz.ntmps13
          go_wp2_with fail
          refine (nat_may s true H1.out _).mono ?_
          rintro r w' ⟨rfl, rfl⟩
          go_wp2_with fail
          refine (nat_may t true H2.out _).mono ?_
          rintro r w' ⟨rfl, rfl⟩
          go_wp2_with fail
          refine (nat_Low n x s HS.out LN.out LX.out _).mono ?_
          rintro r w' ⟨rfl, rfl⟩
          go_wp2_with fail
          refine (nat_Low d y t HT.out LD.out LY.out _).mono ?_
          rintro r w' ⟨rfl, rfl⟩
          go_wp2_with fail
          refine (nat_Right n (x : Int) s p b1 HS.out LN.out (by omega) (by omega) P1.out O1.out _).mono ?_
          rintro r w1 ⟨rfl, b1⟩
          have B1 : Below w.heap.size w w1 := btr B0 b1
          have Rz_1 := heap_of b1 _ _ _ Rz_0
          clear b1 B0 Rz_0
          obtain ⟨cz_1_0, cz_1_1, cz_1_2, cz_1_3⟩ := cells4s Rz_1
          go_wp2_with fail
          refine (nat_Right d (y : Int) t q b2 HT.out LD.out (by omega) (by omega) Q1.out O2.out _).mono ?_
          rintro r w2 ⟨rfl, b2⟩
          have B2 : Below w.heap.size w w2 := btr B1 b2
          have Rz_2 := heap_of b2 _ _ _ Rz_1
          clear b2 B1 Rz_1 cz_1_0 cz_1_1 cz_1_2 cz_1_3
          obtain ⟨cz_2_0, cz_2_1, cz_2_2, cz_2_3⟩ := cells4s Rz_2
          go_wp2_with fail
          refine (nat_Gcd (od n) (od d) p q h HP.out HQ.out L1.out L2.out HG.out _).mono ?_
          rintro r w3 ⟨rfl, b3⟩
          have B3 : Below w.heap.size w w3 := btr B2 b3
          have Rz_3 := heap_of b3 _ _ _ Rz_2
          clear b3 B2 Rz_2 cz_2_0 cz_2_1 cz_2_2 cz_2_3
          obtain ⟨cz_3_0, cz_3_1, cz_3_2, cz_3_3⟩ := cells4s Rz_3
          go_wp2_with fail
          refine (nat_Div (od n) gg p h un vn HP.out HH.out L1.out G0.out U1.out U3.out _).mono ?_
          rintro r w4 ⟨rfl, b4⟩
          have B4 : Below w.heap.size w w4 := btr B3 b4
          have Rz_4 := heap_of b4 _ _ _ Rz_3
          clear b4 B3 Rz_3 cz_3_0 cz_3_1 cz_3_2 cz_3_3
          obtain ⟨cz_4_0, cz_4_1, cz_4_2, cz_4_3⟩ := cells4s Rz_4
          go_wp2_with fail
          refine (nat_Div (od d) gg q h ud vd HQ.out HH.out L2.out G0.out U2.out U4.out _).mono ?_
          rintro r w5 ⟨rfl, b5⟩
          have B5 : Below w.heap.size w w5 := btr B4 b5
          have Rz_5 := heap_of b5 _ _ _ Rz_4
          clear b5 B4 Rz_4 cz_4_0 cz_4_1 cz_4_2 cz_4_3
          obtain ⟨cz_5_0, cz_5_1, cz_5_2, cz_5_3⟩ := cells4s Rz_5
          have q0 := fz (k := 0) Rz_5
          have q1 := fz (k := 1) Rz_5
          have q2 := fz (k := 2) Rz_5
          have q3 := fz (k := 3) Rz_5
          obtain ⟨E0, E1, E2, E3⟩ := set4_cells Rz_5 rfl (.bool false) (.string ⟨#[]⟩) (.string ⟨#[]⟩) (.int .i64 0)
          go_wp2
          exact bodyPost_ret (v := .tuple #[.agg #[.bool false, .string ⟨#[]⟩, .string ⟨#[]⟩, .int .i64 0], .int .i64 4]) (by simp [results, Tryz.results13, go_sem, E0, E1, E2, E3]) rfl ⟨rfl, set4_below B5 (by first | exact Nat.le_refl _ | omega | (skip; omega)) _ _ _ _⟩
        · obtain ⟨Rz_0, B0⟩ := opn1 w (Obj.cells #[.bool false, .string ⟨#[]⟩, .string ⟨#[]⟩, .int .i64 0] 50)
          go_enter Tryz.func13, Tryz.ntmps13
          go_wp2_with fail
          refine (nat_may s true H1.out _).mono ?_
          rintro r w' ⟨rfl, rfl⟩
          go_wp2_with fail
          refine (nat_may t true H2.out _).mono ?_
          rintro r w' ⟨rfl, rfl⟩
          go_wp2_with fail
          refine (nat_Low n x s HS.out LN.out LX.out _).mono ?_
          rintro r w' ⟨rfl, rfl⟩
          go_wp2_with fail
          refine (nat_Low d y t HT.out LD.out LY.out _).mono ?_
          rintro r w' ⟨rfl, rfl⟩
          go_wp2_with fail
          refine (nat_Right n (x : Int) s p b1 HS.out LN.out (by omega) (by omega) P1.out O1.out _).mono ?_
          rintro r w1 ⟨rfl, b1⟩
          have B1 : Below w.heap.size w w1 := btr B0 b1
          have Rz_1 := heap_of b1 _ _ _ Rz_0
          clear b1 B0 Rz_0
          obtain ⟨cz_1_0, cz_1_1, cz_1_2, cz_1_3⟩ := cells4s Rz_1
          go_wp2_with fail
          refine (nat_Right d (y : Int) t q b2 HT.out LD.out (by omega) (by omega) Q1.out O2.out _).mono ?_
          rintro r w2 ⟨rfl, b2⟩
          have B2 : Below w.heap.size w w2 := btr B1 b2
          have Rz_2 := heap_of b2 _ _ _ Rz_1
          clear b2 B1 Rz_1 cz_1_0 cz_1_1 cz_1_2 cz_1_3
          obtain ⟨cz_2_0, cz_2_1, cz_2_2, cz_2_3⟩ := cells4s Rz_2
          go_wp2_with fail
          refine (nat_Gcd (od n) (od d) p q h HP.out HQ.out L1.out L2.out HG.out _).mono ?_
          rintro r w3 ⟨rfl, b3⟩
          have B3 : Below w.heap.size w w3 := btr B2 b3
          have Rz_3 := heap_of b3 _ _ _ Rz_2
          clear b3 B2 Rz_2 cz_2_0 cz_2_1 cz_2_2 cz_2_3
          obtain ⟨cz_3_0, cz_3_1, cz_3_2, cz_3_3⟩ := cells4s Rz_3
          go_wp2_with fail
          refine (nat_Div (od n) gg p h un vn HP.out HH.out L1.out G0.out U1.out U3.out _).mono ?_
          rintro r w4 ⟨rfl, b4⟩
          have B4 : Below w.heap.size w w4 := btr B3 b4
          have Rz_4 := heap_of b4 _ _ _ Rz_3
          clear b4 B3 Rz_3 cz_3_0 cz_3_1 cz_3_2 cz_3_3
          obtain ⟨cz_4_0, cz_4_1, cz_4_2, cz_4_3⟩ := cells4s Rz_4
          go_wp2_with fail
          refine (nat_Div (od d) gg q h ud vd HQ.out HH.out L2.out G0.out U2.out U4.out _).mono ?_
          rintro r w5 ⟨rfl, b5⟩
          have B5 : Below w.heap.size w w5 := btr B4 b5
          have Rz_5 := heap_of b5 _ _ _ Rz_4
          clear b5 B4 Rz_4 cz_4_0 cz_4_1 cz_4_2 cz_4_3
          obtain ⟨cz_5_0, cz_5_1, cz_5_2, cz_5_3⟩ := cells4s Rz_5
          have q0 := fz (k := 0) Rz_5
          have q1 := fz (k := 1) Rz_5
          have q2 := fz (k := 2) Rz_5
          have q3 := fz (k := 3) Rz_5
          obtain ⟨E0, E1, E2, E3⟩ := set4_cells Rz_5 rfl (.bool false) (.string ⟨#[]⟩) (.string ⟨#[]⟩) (.int .i64 0)
          go_wp2
          exact bodyPost_ret (v := .tuple #[.agg #[.bool false, .string ⟨#[]⟩, .string ⟨#[]⟩, .int .i64 0], .int .i64 4]) (by simp [results, Tryz.results13, go_sem, E0, E1, E2, E3]) rfl ⟨rfl, set4_below B5 (by first | exact Nat.le_refl _ | omega | (skip; omega)) _ _ _ _⟩

end Go.Proofs.YtpdehipeakcaiaaGreatDoor
namespace Go.Proofs.YtpdehipeakcaiaaGreatDoor
set_option maxRecDepth 100000
set_option maxHeartbeats 40000000
set_option maxRecDepth 100000
open Go.RowKit WMath XMath
theorem below_top (x : XN) (k : Int) (i : Nat) (hx : x.can) (hk : x.e + (i : Int) = k) (h : (2 : Rat) ^ k ≤ x.mag) : x.d * 2 ^ i ≤ x.n := by
  have d0 := hx.d0
  have m := Rat.mul_le_mul_of_nonneg_right h (Rat.le_of_lt (cast_pos d0))
  have e1 : x.mag * (x.d : Rat) = (x.n : Rat) * (2 : Rat) ^ x.e := by
    unfold XN.mag
    have z := cast_ne d0
    grind
  have e2 : (2 : Rat) ^ k * (x.d : Rat) = ((x.d * 2 ^ i : Nat) : Rat) * (2 : Rat) ^ x.e := by
    rw [← hk, p2add, Rat.natCast_mul, ← p2nat]
    grind
  rw [e1, e2] at m
  have m2 := Rat.le_of_mul_le_mul_right m (p2 x.e)
  exact Rat.natCast_le_natCast.1 m2
theorem rshifted (a k : Nat) (s v : ByteArray) (hs : nbA a = s) (ha : nl a ≤ 16384) (k2 : k ≤ 1000000) (h : nl (a * 2 ^ k) ≤ 16384) (hv : nbA (a * 2 ^ k) = v) (w : World) : Calls Tryz.prog 125 #[.string s, .int .i64 (k : Int)] w fun r w' => r = .returned (.string v) ∧ Below w.heap.size w w' := by
  have F1 := box (lf_up a k v h hv)
  have HS := box hs
  have HA := box ha
  clear hs ha h hv
  have B0 : Below w.heap.size w w := (Below.refl _ _)
  go_enter Tryz.func125, Tryz.ntmps125
  go_wp2_with fail
  refine (nat_Left a (k : Int) s v 0 HS.out HA.out (by omega) F1.out _).mono ?_
  rintro r w1 ⟨rfl, b1⟩
  have B1 : Below w.heap.size w w1 := btr B0 b1
  clear b1 B0 
  go_wp2
  go_ret
  exact ⟨rfl, B1⟩

set_option maxRecDepth 100000 in
set_option maxHeartbeats 2000000 in
theorem rTop_ok (b : Bool) (n d : Nat) (e : Int) (s t : ByteArray) (T : Int) (hs : nbA n = s) (ht : nbA d = t) (n0 : n ≠ 0) (hc : (XN.mk b n d e).can) (hr : topX (XN.mk b n d e) = T) (w : World) : Calls Tryz.prog 104 #[.agg #[.bool b, .string s, .string t, .int .i64 e]] w fun r w' => r = .returned (.tuple #[.int .i64 T, .int .i64 0]) ∧ Below w.heap.size w w' := by
  have e0 := eq_nil n s hs n0
  have d0 : d ≠ 0 := hc.d0
  have ln : nl n ≤ 16384 := hc.1
  have ld : nl d ≤ 16384 := hc.2.1
  have he : -1048576 ≤ e ∧ e ≤ 1048576 := ⟨hc.2.2.1, hc.2.2.2.1⟩
  obtain ⟨l1, l2⟩ := tAB_nl (XN.mk b n d e) n0 d0 ln ld
  obtain ⟨x, hx⟩ : ∃ x, blen n = x := ⟨_, rfl⟩
  obtain ⟨y, hy⟩ : ∃ x, blen d = x := ⟨_, rfl⟩
  have x2 : x ≤ 131072 := by unfold nl at ln; omega
  have y2 : y ≤ 131072 := by unfold nl at ld; omega
  have HS := box hs
  have HT := box ht
  have LN := box ln
  have LD := box ld
  have HX := box hx
  have HY := box hy
  by_cases hk0 : y ≤ x
  · obtain ⟨k, hk⟩ : ∃ k : Nat, x - y = k := ⟨_, rfl⟩
    have hlen : lenD (XN.mk b n d e) = (k : Int) := by unfold lenD; show (blen n : Int) - (blen d : Int) = k; rw [hx, hy]; omega
    have eA : tA (XN.mk b n d e) = n := by unfold tA; rw [hlen, show (max (-(k : Int)) 0).toNat = 0 by omega, Nat.pow_zero, Nat.mul_one]
    have eB : tB (XN.mk b n d e) = d * 2 ^ k := by unfold tB; rw [hlen, show (max (k : Int) 0).toNat = k by omega]
    rw [eB] at l2
    obtain ⟨q, hq⟩ : ∃ p, nbA (d * 2 ^ k) = p := ⟨_, rfl⟩
    obtain ⟨c, hcm⟩ : ∃ c, cmpv n (d * 2 ^ k) = c := ⟨_, rfl⟩
    have HF := box (fun w => rshifted d k t q ht ld (by omega) l2 hq w)
    have HQ := box hq
    have HC := box hcm
    have m1 : IntKind.i64.wrap ((x : Int) - (y : Int)) = (k : Int) := by rw [wrap_i64_is _ (by omega) (by omega)]; omega
    have m5 : IntKind.i64.wrap ((k : Int) - 1) = (k : Int) - 1 := wrap_i64_is _ (by omega) (by omega)
    have m6 : IntKind.i64.wrap ((k : Int) - 1 + e) = (k : Int) - 1 + e := wrap_i64_is _ (by omega) (by omega)
    have m7 : IntKind.i64.wrap ((k : Int) + e) = (k : Int) + e := wrap_i64_is _ (by omega) (by omega)
    have g0 : decide ((0 : Int) ≤ (k : Int)) = true := decide_eq_true (by omega)
    have hT2 : T = (if n < d * 2 ^ k then (k : Int) - 1 else (k : Int)) + e := by rw [← hr]; unfold topX; rw [eA, eB, hlen]
    by_cases hl : n < d * 2 ^ k
    · rw [if_pos hl] at hT2
      have g1 : decide ((0 : Int) ≤ c) = false := decide_eq_false (by have := (cmpv_neg n (d * 2 ^ k)).2 hl; omega)
      subst hT2
      clear hs ht hc hr n0 d0 ln ld he l1 l2 hx hy hk0 hk hlen eA eB hq hcm hl
      obtain ⟨Rx_0, B0⟩ := opn1 w (Obj.cells #[.bool b, .string s, .string t, .int .i64 e] 50)
      go_enter Tryz.func104, Tryz.ntmps104
      go_wp2_with fail
      go_quiet (fail)
      obtain ⟨w1, hw, B1, hh⟩ := quiet_world B0 nq
      rw [hw]
      have Rx_1 : w1.heap[w.heap.size]? = some (Obj.cells #[.bool b, .string s, .string t, .int .i64 e] 50) := by rw [hh]; exact Rx_0
      clear hw hh B0 Rx_0
      obtain ⟨cx_1_0, cx_1_1, cx_1_2, cx_1_3⟩ := cells4s Rx_1
      go_wp2_with fail
      refine (nat_Len n x s HS.out LN.out HX.out _).mono ?_
      rintro r w' ⟨rfl, rfl⟩
      go_wp2_with fail
      refine (nat_Len d y t HT.out LD.out HY.out _).mono ?_
      rintro r w' ⟨rfl, rfl⟩
      go_wp2_with fail
      refine (HF.out _).mono ?_
      rintro r w2 ⟨rfl, b2⟩
      have B2 : Below w.heap.size w w2 := btr B1 b2
      have Rx_2 := heap_of b2 _ _ _ Rx_1
      clear b2 B1 Rx_1 cx_1_0 cx_1_1 cx_1_2 cx_1_3
      obtain ⟨cx_2_0, cx_2_1, cx_2_2, cx_2_3⟩ := cells4s Rx_2
      go_wp2_with fail
      refine (nat_cmp n (d * 2 ^ k) s q c HS.out HQ.out HC.out _).mono ?_
      rintro r w' ⟨rfl, rfl⟩
      go_wp2
      go_ret2
      exact ⟨rfl, B2⟩
    · rw [if_neg hl] at hT2
      have g1 : decide ((0 : Int) ≤ c) = true := decide_eq_true (by have := mt (cmpv_neg n (d * 2 ^ k)).1 hl; omega)
      subst hT2
      clear hs ht hc hr n0 d0 ln ld he l1 l2 hx hy hk0 hk hlen eA eB hq hcm hl
      obtain ⟨Rx_0, B0⟩ := opn1 w (Obj.cells #[.bool b, .string s, .string t, .int .i64 e] 50)
      go_enter Tryz.func104, Tryz.ntmps104
      go_wp2_with fail
      go_quiet (fail)
      obtain ⟨w1, hw, B1, hh⟩ := quiet_world B0 nq
      rw [hw]
      have Rx_1 : w1.heap[w.heap.size]? = some (Obj.cells #[.bool b, .string s, .string t, .int .i64 e] 50) := by rw [hh]; exact Rx_0
      clear hw hh B0 Rx_0
      obtain ⟨cx_1_0, cx_1_1, cx_1_2, cx_1_3⟩ := cells4s Rx_1
      go_wp2_with fail
      refine (nat_Len n x s HS.out LN.out HX.out _).mono ?_
      rintro r w' ⟨rfl, rfl⟩
      go_wp2_with fail
      refine (nat_Len d y t HT.out LD.out HY.out _).mono ?_
      rintro r w' ⟨rfl, rfl⟩
      go_wp2_with fail
      refine (HF.out _).mono ?_
      rintro r w2 ⟨rfl, b2⟩
      have B2 : Below w.heap.size w w2 := btr B1 b2
      have Rx_2 := heap_of b2 _ _ _ Rx_1
      clear b2 B1 Rx_1 cx_1_0 cx_1_1 cx_1_2 cx_1_3
      obtain ⟨cx_2_0, cx_2_1, cx_2_2, cx_2_3⟩ := cells4s Rx_2
      go_wp2_with fail
      refine (nat_cmp n (d * 2 ^ k) s q c HS.out HQ.out HC.out _).mono ?_
      rintro r w' ⟨rfl, rfl⟩
      go_wp2
      go_ret2
      exact ⟨rfl, B2⟩
  · obtain ⟨k, hk⟩ : ∃ k : Nat, y - x = k := ⟨_, rfl⟩
    have k1 : 1 ≤ k := by omega
    have hlen : lenD (XN.mk b n d e) = -(k : Int) := by unfold lenD; show (blen n : Int) - (blen d : Int) = -(k : Int); rw [hx, hy]; omega
    have eA : tA (XN.mk b n d e) = n * 2 ^ k := by unfold tA; rw [hlen, show (max (- -(k : Int)) 0).toNat = k by omega]
    have eB : tB (XN.mk b n d e) = d := by unfold tB; rw [hlen, show (max (-(k : Int)) 0).toNat = 0 by omega, Nat.pow_zero, Nat.mul_one]
    rw [eA] at l1
    obtain ⟨q, hq⟩ : ∃ p, nbA (n * 2 ^ k) = p := ⟨_, rfl⟩
    obtain ⟨c, hcm⟩ : ∃ c, cmpv (n * 2 ^ k) d = c := ⟨_, rfl⟩
    have HF := box (fun w => rshifted n k s q hs ln (by omega) l1 hq w)
    have HQ := box hq
    have HC := box hcm
    obtain ⟨K, hK⟩ : ∃ K : Int, -(k : Int) = K := ⟨_, rfl⟩
    have m1 : IntKind.i64.wrap ((x : Int) - (y : Int)) = K := by rw [wrap_i64_is _ (by omega) (by omega)]; omega
    have m2 : IntKind.i64.wrap (-K) = (k : Int) := by rw [wrap_i64_is _ (by omega) (by omega)]; omega
    have m5 : IntKind.i64.wrap (K - 1) = K - 1 := wrap_i64_is _ (by omega) (by omega)
    have m6 : IntKind.i64.wrap (K - 1 + e) = K - 1 + e := wrap_i64_is _ (by omega) (by omega)
    have m7 : IntKind.i64.wrap (K + e) = K + e := wrap_i64_is _ (by omega) (by omega)
    have g0 : decide ((0 : Int) ≤ K) = false := decide_eq_false (by omega)
    have hT2 : T = (if n * 2 ^ k < d then K - 1 else K) + e := by rw [← hr]; unfold topX; rw [eA, eB, hlen, hK]
    by_cases hl : n * 2 ^ k < d
    · rw [if_pos hl] at hT2
      have g1 : decide ((0 : Int) ≤ c) = false := decide_eq_false (by have := (cmpv_neg (n * 2 ^ k) d).2 hl; omega)
      subst hT2
      clear hs ht hc hr n0 d0 ln ld he l1 l2 hx hy hk0 hk hlen eA eB hq hcm hl hK
      obtain ⟨Rx_0, B0⟩ := opn1 w (Obj.cells #[.bool b, .string s, .string t, .int .i64 e] 50)
      go_enter Tryz.func104, Tryz.ntmps104
      go_wp2_with fail
      go_quiet (fail)
      obtain ⟨w1, hw, B1, hh⟩ := quiet_world B0 nq
      rw [hw]
      have Rx_1 : w1.heap[w.heap.size]? = some (Obj.cells #[.bool b, .string s, .string t, .int .i64 e] 50) := by rw [hh]; exact Rx_0
      clear hw hh B0 Rx_0
      obtain ⟨cx_1_0, cx_1_1, cx_1_2, cx_1_3⟩ := cells4s Rx_1
      go_wp2_with fail
      refine (nat_Len n x s HS.out LN.out HX.out _).mono ?_
      rintro r w' ⟨rfl, rfl⟩
      go_wp2_with fail
      refine (nat_Len d y t HT.out LD.out HY.out _).mono ?_
      rintro r w' ⟨rfl, rfl⟩
      go_wp2_with fail
      refine (HF.out _).mono ?_
      rintro r w2 ⟨rfl, b2⟩
      have B2 : Below w.heap.size w w2 := btr B1 b2
      have Rx_2 := heap_of b2 _ _ _ Rx_1
      clear b2 B1 Rx_1 cx_1_0 cx_1_1 cx_1_2 cx_1_3
      obtain ⟨cx_2_0, cx_2_1, cx_2_2, cx_2_3⟩ := cells4s Rx_2
      go_wp2_with fail
      refine (nat_cmp (n * 2 ^ k) d q t c HQ.out HT.out HC.out _).mono ?_
      rintro r w' ⟨rfl, rfl⟩
      go_wp2
      go_ret2
      exact ⟨rfl, B2⟩
    · rw [if_neg hl] at hT2
      have g1 : decide ((0 : Int) ≤ c) = true := decide_eq_true (by have := mt (cmpv_neg (n * 2 ^ k) d).1 hl; omega)
      subst hT2
      clear hs ht hc hr n0 d0 ln ld he l1 l2 hx hy hk0 hk hlen eA eB hq hcm hl hK
      obtain ⟨Rx_0, B0⟩ := opn1 w (Obj.cells #[.bool b, .string s, .string t, .int .i64 e] 50)
      go_enter Tryz.func104, Tryz.ntmps104
      go_wp2_with fail
      go_quiet (fail)
      obtain ⟨w1, hw, B1, hh⟩ := quiet_world B0 nq
      rw [hw]
      have Rx_1 : w1.heap[w.heap.size]? = some (Obj.cells #[.bool b, .string s, .string t, .int .i64 e] 50) := by rw [hh]; exact Rx_0
      clear hw hh B0 Rx_0
      obtain ⟨cx_1_0, cx_1_1, cx_1_2, cx_1_3⟩ := cells4s Rx_1
      go_wp2_with fail
      refine (nat_Len n x s HS.out LN.out HX.out _).mono ?_
      rintro r w' ⟨rfl, rfl⟩
      go_wp2_with fail
      refine (nat_Len d y t HT.out LD.out HY.out _).mono ?_
      rintro r w' ⟨rfl, rfl⟩
      go_wp2_with fail
      refine (HF.out _).mono ?_
      rintro r w2 ⟨rfl, b2⟩
      have B2 : Below w.heap.size w w2 := btr B1 b2
      have Rx_2 := heap_of b2 _ _ _ Rx_1
      clear b2 B1 Rx_1 cx_1_0 cx_1_1 cx_1_2 cx_1_3
      obtain ⟨cx_2_0, cx_2_1, cx_2_2, cx_2_3⟩ := cells4s Rx_2
      go_wp2_with fail
      refine (nat_cmp (n * 2 ^ k) d q t c HQ.out HT.out HC.out _).mono ?_
      rintro r w' ⟨rfl, rfl⟩
      go_wp2
      go_ret2
      exact ⟨rfl, B2⟩
set_option maxRecDepth 100000 in
set_option maxHeartbeats 2000000 in
theorem rFloor_ok (b : Bool) (n d : Nat) (e : Int) (s t : ByteArray) (k : Int) (m : Nat) (is : Bool) (err : Int) (v : ByteArray) (hs : nbA n = s) (ht : nbA d = t) (hc : (XN.mk b n d e).can) (k1 : -9223372036854775808 ≤ k) (k2 : k ≤ 9223372036854775807)
    (hr : flX (XN.mk b n d e) k = ((m, is), err)) (hv : nbA m = v) (w : World) : Calls Tryz.prog 107 #[.agg #[.bool b, .string s, .string t, .int .i64 e], .int .i64 k] w fun r w' => r = .returned (.tuple #[.string v, .bool is, .int .i64 err]) ∧ Below w.heap.size w w' := by
  unfold flX at hr
  by_cases hk : k < -2097152 ∨ 2097152 < k
  · rw [if_pos hk] at hr
    cases hr
    rw [nbA_zero] at hv
    subst hv
    have c12 : decide (k < -2097152) = true ∨ (decide (k < -2097152) = false ∧ decide (2097152 < k) = true) := by
      by_cases hh : k < -2097152
      · exact Or.inl (decide_eq_true hh)
      · exact Or.inr ⟨decide_eq_false hh, decide_eq_true (by omega)⟩
    clear hs ht hc k1 k2 hk
    rcases c12 with c1 | ⟨c1, c2⟩
    · obtain ⟨Rx_0, B0⟩ := opn1 w (Obj.cells #[.bool b, .string s, .string t, .int .i64 e] 50)
      go_enter Tryz.func107, Tryz.ntmps107
      go_wp2
      go_ret3
      exact ⟨rfl, B0⟩
    · obtain ⟨Rx_0, B0⟩ := opn1 w (Obj.cells #[.bool b, .string s, .string t, .int .i64 e] 50)
      go_enter Tryz.func107, Tryz.ntmps107
      go_wp2
      go_ret3
      exact ⟨rfl, B0⟩
  rw [if_neg hk] at hr
  have c1 : decide (k < -2097152) = false := decide_eq_false (by omega)
  have c2 : decide (2097152 < k) = false := decide_eq_false (by omega)
  rcases x_cases hs ht hc with ⟨n0, rfl, rfl, rfl, rfl, rfl⟩ | ⟨n0, e0⟩
  · rw [if_pos n0] at hr
    cases hr
    rw [nbA_zero] at hv
    subst hv
    clear hs ht hc k1 k2 hk n0
    obtain ⟨Rx_0, B0⟩ := opn1 w (Obj.cells #[.bool false, .string ⟨#[]⟩, .string ⟨#[1]⟩, .int .i64 0] 50)
    go_enter Tryz.func107, Tryz.ntmps107
    go_wp2
    go_ret3
    exact ⟨rfl, B0⟩
  rw [if_neg n0] at hr
  have he : -1048576 ≤ e ∧ e ≤ 1048576 := ⟨hc.2.2.1, hc.2.2.2.1⟩
  have HS := box hs
  have HT := box ht
  have LN := box hc.1
  have LD := box hc.2.1
  have D0 := box hc.d0
  by_cases hek : k ≤ e
  · rw [if_pos hek] at hr
    obtain ⟨i, hi⟩ : ∃ i, (e - k).toNat = i := ⟨_, rfl⟩
    have m1 : IntKind.i64.wrap (e - k) = (i : Int) := by rw [wrap_i64_is _ (by omega) (by omega)]; omega
    have hr2 : (if nl (n * 2 ^ i) ≤ 16384 then ((n * 2 ^ i / d, decide (n * 2 ^ i % d = 0)), (0 : Int)) else ((0, false), 4)) = ((m, is), err) := by rw [← hi]; exact hr
    have d2 : decide (k ≤ e) = true := decide_eq_true hek
    have i2 : i ≤ 100000000 := by omega
    by_cases hl : nl (n * 2 ^ i) ≤ 16384
    · rw [if_pos hl] at hr2
      cases hr2
      obtain ⟨p, hp⟩ : ∃ p, nbA (n * 2 ^ i) = p := ⟨_, rfl⟩
      obtain ⟨y, hy⟩ : ∃ y, nbA (n * 2 ^ i % d) = y := ⟨_, rfl⟩
      have F1 := box (lf_up n i p hl hp)
      have e3 : (y.toList == []) = decide (n * 2 ^ i % d = 0) := by
        rw [eq_empty, ← hy, nbA_size, Bool.eq_iff_iff, decide_eq_true_iff, decide_eq_true_iff]
        exact ⟨nl_eq0 _, fun h => by rw [h]; exact nl_zero⟩
      obtain ⟨o, ho⟩ : ∃ o, decide (n * 2 ^ i % d = 0) = o := ⟨_, rfl⟩
      rw [ho] at e3 ⊢
      have HP := box hp
      have HY := box hy
      have HL := box hl
      have HV := box hv
      clear hs ht hc k1 k2 hk n0 he hek hi hr hp hy hl ho hv
      obtain ⟨Rx_0, B0⟩ := opn1 w (Obj.cells #[.bool b, .string s, .string t, .int .i64 e] 50)
      go_enter Tryz.func107, Tryz.ntmps107
      go_wp2_with fail
      go_quiet (fail)
      obtain ⟨w1, hw, B1, hh⟩ := quiet_world B0 nq
      rw [hw]
      have Rx_1 : w1.heap[w.heap.size]? = some (Obj.cells #[.bool b, .string s, .string t, .int .i64 e] 50) := by rw [hh]; exact Rx_0
      clear hw hh B0 Rx_0
      obtain ⟨cx_1_0, cx_1_1, cx_1_2, cx_1_3⟩ := cells4s Rx_1
      go_wp2_with fail
      refine (nat_Left n (i : Int) s p 0 HS.out LN.out (by omega) F1.out _).mono ?_
      rintro r w2 ⟨rfl, b2⟩
      have B2 : Below w.heap.size w w2 := btr B1 b2
      have Rx_2 := heap_of b2 _ _ _ Rx_1
      clear b2 B1 Rx_1 cx_1_0 cx_1_1 cx_1_2 cx_1_3
      obtain ⟨cx_2_0, cx_2_1, cx_2_2, cx_2_3⟩ := cells4s Rx_2
      go_wp2_with fail
      refine (nat_Div (n * 2 ^ i) d p t v y HP.out HT.out HL.out D0.out HV.out HY.out _).mono ?_
      rintro r w3 ⟨rfl, b3⟩
      have B3 : Below w.heap.size w w3 := btr B2 b3
      have Rx_3 := heap_of b3 _ _ _ Rx_2
      clear b3 B2 Rx_2 cx_2_0 cx_2_1 cx_2_2 cx_2_3
      obtain ⟨cx_3_0, cx_3_1, cx_3_2, cx_3_3⟩ := cells4s Rx_3
      go_wp2
      go_ret3
      exact ⟨rfl, B3⟩
    · rw [if_neg hl] at hr2
      cases hr2
      rw [nbA_zero] at hv
      subst hv
      have F1 : Box (lf n (i : Int) = (⟨#[]⟩, 4)) := box (by unfold lf; rw [if_neg (by omega), Int.toNat_natCast]; exact lg_no _ hl)
      clear hs ht hc k1 k2 hk n0 he hek hi hr hl
      obtain ⟨Rx_0, B0⟩ := opn1 w (Obj.cells #[.bool b, .string s, .string t, .int .i64 e] 50)
      go_enter Tryz.func107, Tryz.ntmps107
      go_wp2_with fail
      go_quiet (fail)
      obtain ⟨w1, hw, B1, hh⟩ := quiet_world B0 nq
      rw [hw]
      have Rx_1 : w1.heap[w.heap.size]? = some (Obj.cells #[.bool b, .string s, .string t, .int .i64 e] 50) := by rw [hh]; exact Rx_0
      clear hw hh B0 Rx_0
      obtain ⟨cx_1_0, cx_1_1, cx_1_2, cx_1_3⟩ := cells4s Rx_1
      go_wp2_with fail
      refine (nat_Left n (i : Int) s _ 4 HS.out LN.out (by omega) F1.out _).mono ?_
      rintro r w2 ⟨rfl, b2⟩
      have B2 : Below w.heap.size w w2 := btr B1 b2
      have Rx_2 := heap_of b2 _ _ _ Rx_1
      clear b2 B1 Rx_1 cx_1_0 cx_1_1 cx_1_2 cx_1_3
      obtain ⟨cx_2_0, cx_2_1, cx_2_2, cx_2_3⟩ := cells4s Rx_2
      go_wp2
      go_ret3
      exact ⟨rfl, B2⟩
  · rw [if_neg hek] at hr
    have d2 : decide (k ≤ e) = false := decide_eq_false hek
    obtain ⟨T, hTop⟩ : ∃ T, topX (XN.mk b n d e) = T := ⟨_, rfl⟩
    have HF := box (fun w => rTop_ok b n d e s t T hs ht n0 hc hTop w)
    have ht2 := top_good (XN.mk b n d e) n0 hc.d0
    rw [hTop] at hr ht2
    by_cases hlt : T < k
    · rw [if_pos hlt] at hr
      cases hr
      rw [nbA_zero] at hv
      subst hv
      have d1 : decide (T < k) = true := decide_eq_true hlt
      clear hs ht hc k1 k2 hk n0 he hek hTop hlt ht2
      obtain ⟨Rx_0, B0⟩ := opn1 w (Obj.cells #[.bool b, .string s, .string t, .int .i64 e] 50)
      go_enter Tryz.func107, Tryz.ntmps107
      go_wp2_with fail
      go_quiet (fail)
      obtain ⟨w1, hw, B1, hh⟩ := quiet_world B0 nq
      rw [hw]
      have Rx_1 : w1.heap[w.heap.size]? = some (Obj.cells #[.bool b, .string s, .string t, .int .i64 e] 50) := by rw [hh]; exact Rx_0
      clear hw hh B0 Rx_0
      obtain ⟨cx_1_0, cx_1_1, cx_1_2, cx_1_3⟩ := cells4s Rx_1
      go_wp2_with fail
      refine (HF.out _).mono ?_
      rintro r w2 ⟨rfl, b2⟩
      have B2 : Below w.heap.size w w2 := btr B1 b2
      have Rx_2 := heap_of b2 _ _ _ Rx_1
      clear b2 B1 Rx_1 cx_1_0 cx_1_1 cx_1_2 cx_1_3
      obtain ⟨cx_2_0, cx_2_1, cx_2_2, cx_2_3⟩ := cells4s Rx_2
      go_wp2
      go_ret3
      exact ⟨rfl, B2⟩
    · rw [if_neg hlt] at hr
      cases hr
      obtain ⟨i, hi⟩ : ∃ i, (k - e).toNat = i := ⟨_, rfl⟩
      have hv2 : nbA (n / (d * 2 ^ i)) = v := by rw [← hi]; exact hv
      have m1 : IntKind.i64.wrap (k - e) = (i : Int) := by rw [wrap_i64_is _ (by omega) (by omega)]; omega
      have i2 : i ≤ 100000000 := by omega
      have hle := below_top (XN.mk b n d e) k i hc (by show e + (i : Int) = k; omega) (by
        have h1 := ht2.1
        exact Rat.le_trans (p2mono k T (by omega)) h1)
      have hle2 : d * 2 ^ i ≤ n := hle
      have L3 : nl (d * 2 ^ i) ≤ 16384 := Nat.le_trans (nl_mono _ _ hle2) hc.1
      obtain ⟨p, hp⟩ : ∃ p, nbA (d * 2 ^ i) = p := ⟨_, rfl⟩
      obtain ⟨y, hy⟩ : ∃ y, nbA (n % (d * 2 ^ i)) = y := ⟨_, rfl⟩
      have F1 := box (lf_up d i p L3 hp)
      have i1 : 1 ≤ i := by omega
      have hz : n % (d * 2 ^ i) ≠ 0 := by
        intro hm
        obtain ⟨z, hz⟩ : ∃ z, i = z + 1 := ⟨i - 1, by omega⟩
        rw [hz, Nat.pow_succ, ← Nat.mul_assoc] at hm
        obtain ⟨q, hq⟩ := Nat.dvd_of_mod_eq_zero hm
        have : n % 2 = 1 := (hc.odd n0).1
        rw [hq, Nat.mul_assoc, Nat.mul_assoc, Nat.mul_left_comm (2 ^ z) 2, Nat.mul_left_comm d 2, Nat.mul_mod_right] at this
        omega
      have e3 := eq_nil _ y hy hz
      have d1 : decide (T < k) = false := decide_eq_false hlt
      have HP := box hp
      have HY := box hy
      have HV := box hv2
      have D3 : Box (d * 2 ^ i ≠ 0) := box (mul_ne hc.d0 (Nat.pos_iff_ne_zero.1 (Nat.two_pow_pos _)))
      clear hs ht hc k1 k2 hk n0 he hek hTop hlt ht2 hi hv hv2 hle hle2 L3 hp hy hz
      obtain ⟨Rx_0, B0⟩ := opn1 w (Obj.cells #[.bool b, .string s, .string t, .int .i64 e] 50)
      go_enter Tryz.func107, Tryz.ntmps107
      go_wp2_with fail
      go_quiet (fail)
      obtain ⟨w1, hw, B1, hh⟩ := quiet_world B0 nq
      rw [hw]
      have Rx_1 : w1.heap[w.heap.size]? = some (Obj.cells #[.bool b, .string s, .string t, .int .i64 e] 50) := by rw [hh]; exact Rx_0
      clear hw hh B0 Rx_0
      obtain ⟨cx_1_0, cx_1_1, cx_1_2, cx_1_3⟩ := cells4s Rx_1
      go_wp2_with fail
      refine (HF.out _).mono ?_
      rintro r w2 ⟨rfl, b2⟩
      have B2 : Below w.heap.size w w2 := btr B1 b2
      have Rx_2 := heap_of b2 _ _ _ Rx_1
      clear b2 B1 Rx_1 cx_1_0 cx_1_1 cx_1_2 cx_1_3
      obtain ⟨cx_2_0, cx_2_1, cx_2_2, cx_2_3⟩ := cells4s Rx_2
      go_wp2_with fail
      refine (nat_Left d (i : Int) t p 0 HT.out LD.out (by omega) F1.out _).mono ?_
      rintro r w3 ⟨rfl, b3⟩
      have B3 : Below w.heap.size w w3 := btr B2 b3
      have Rx_3 := heap_of b3 _ _ _ Rx_2
      clear b3 B2 Rx_2 cx_2_0 cx_2_1 cx_2_2 cx_2_3
      obtain ⟨cx_3_0, cx_3_1, cx_3_2, cx_3_3⟩ := cells4s Rx_3
      go_wp2_with fail
      refine (nat_Div n (d * 2 ^ i) s p v y HS.out HP.out LN.out D3.out HV.out HY.out _).mono ?_
      rintro r w4 ⟨rfl, b4⟩
      have B4 : Below w.heap.size w w4 := btr B3 b4
      have Rx_4 := heap_of b4 _ _ _ Rx_3
      clear b4 B3 Rx_3 cx_3_0 cx_3_1 cx_3_2 cx_3_3
      obtain ⟨cx_4_0, cx_4_1, cx_4_2, cx_4_3⟩ := cells4s Rx_4
      go_wp2
      go_ret3
      exact ⟨rfl, B4⟩
end Go.Proofs.YtpdehipeakcaiaaGreatDoor
namespace Go.Proofs.YtpdehipeakcaiaaGreatDoor
set_option maxRecDepth 100000
set_option maxHeartbeats 40000000
set_option maxRecDepth 100000
open Go.RowKit WMath
theorem bal7 (w : World) (o : Obj) : Below w.heap.size w (w.alloc o) := (Below.refl _ _).alloc (Nat.le_refl _) _
theorem btr7 {a b c : World} (h : Below a.heap.size a b) (k : Below b.heap.size b c) : Below a.heap.size a c := h.trans (k.mono h.size)

def fcells : Array Value := #[.int .i64 32, .int .i64 24, .int .i64 127, .string ⟨#[115]⟩, .int .i64 64, .int .i64 53, .int .i64 1023, .string ⟨#[100]⟩, .int .i64 16, .int .i64 11, .int .i64 15, .string ⟨#[104]⟩, .int .i64 128, .int .i64 113, .int .i64 16383, .string ⟨#[113]⟩]
def xcells : List (Nat × Nat × Value) := []
def FAt (w : World) : Prop := (∀ i, i < 16 → w.cell? ⟨0, i, none⟩ = fcells[i]?) ∧ ∀ p, p ∈ xcells → w.cell? ⟨p.1, p.2.1, none⟩ = some p.2.2
theorem fc_some (i : Nat) (h : i < 16) : ∃ v, fcells[i]? = some v := ⟨_, Array.getElem?_eq_getElem (show i < fcells.size from h)⟩
theorem fatB {w w' : World} (h : FAt w) (hb : Below w.heap.size w w') : FAt w' := ⟨fun i hi => by
  obtain ⟨v, hv⟩ := fc_some i hi
  rw [hb.cell (p := ⟨0, i, none⟩) (World.block_lt_of_cell? w _ ((h.1 i hi).trans hv))]
  exact h.1 i hi, fun p hp => by
  rw [hb.cell (p := ⟨p.1, p.2.1, none⟩) (World.block_lt_of_cell? w _ (h.2 p hp))]
  exact h.2 p hp⟩
theorem fat_at {w : World} (h : FAt w) (i : Nat) (v : Value) (hi : i < 16) (hv : fcells[i]? = some v) : w.cell? ⟨0, i, none⟩ = some v := (h.1 i hi).trans hv
theorem fat_al {w : World} (h : FAt w) (o : Obj) : FAt (w.alloc o) := fatB h (bal7 w o)
theorem fat_dr {w : World} (h : FAt w) : FAt w.drew := h

def fW (f : Int) : Int := if f = 0 then 32 else if f = 1 then 64 else if f = 2 then 16 else if f = 3 then 128 else 0
def fP (f : Int) : Int := if f = 0 then 24 else if f = 1 then 53 else if f = 2 then 11 else if f = 3 then 113 else 0
def fE (f : Int) : Int := if f = 0 then 127 else if f = 1 then 1023 else if f = 2 then 15 else if f = 3 then 16383 else 0
def fN (f : Int) : ByteArray := if f = 0 then ⟨#[115]⟩ else if f = 1 then ⟨#[100]⟩ else if f = 2 then ⟨#[104]⟩ else if f = 3 then ⟨#[113]⟩ else ⟨#[]⟩
def fR (f : Int) : Array Value := #[.int .i64 (fW f), .int .i64 (fP f), .int .i64 (fE f), .string (fN f)]
def fC (f : Int) : Int := if f = 0 ∨ f = 1 ∨ f = 2 ∨ f = 3 then 0 else 2

theorem f_cases (f : Int) (h0 : 0 ≤ f) : f = 0 ∨ f = 1 ∨ f = 2 ∨ f = 3 ∨ 4 ≤ f := by omega

theorem s_check (f : Int) (h0 : 0 ≤ f) (h1 : f ≤ 255) (w : World) :
    Calls Tryz.prog 50 #[.int .u8 f] w fun e w' => e = .returned (.int .i64 (fC f)) ∧ w' = w := by
  by_cases h : 4 ≤ f
  · have e : fC f = 2 := by unfold fC; rw [if_neg (by omega)]
    rw [e]
    have hd : decide ((4 : Int) ≤ f) = true := by simp [h]
    go_enter Tryz.func50, Tryz.ntmps50
    go_wp2
    go_ret
    exact ⟨rfl, rfl⟩
  · have e : fC f = 0 := by unfold fC; rw [if_pos (by omega)]
    rw [e]
    have hd : decide ((4 : Int) ≤ f) = false := by simp; omega
    go_enter Tryz.func50, Tryz.ntmps50
    go_wp2
    go_ret
    exact ⟨rfl, rfl⟩

theorem s_check_is (f c : Int) (h0 : 0 ≤ f) (h1 : f ≤ 255) (hc : fC f = c) (w : World) :
    Calls Tryz.prog 50 #[.int .u8 f] w fun e w' => e = .returned (.int .i64 c) ∧ w' = w := by
  subst hc; exact s_check f h0 h1 w

theorem s_checkMode (f : Int) (w : World) :
    Calls Tryz.prog 51 #[.int .u8 f] w fun e w' => e = .returned (.int .i64 (if f ≤ 4 then 0 else 2)) ∧ w' = w := by
  by_cases h : 4 < f
  · rw [if_neg (by omega)]
    go_enter Tryz.func51, Tryz.ntmps51
    go_wp2
    go_ret
    exact ⟨rfl, rfl⟩
  · rw [if_pos (by omega)]
    go_enter Tryz.func51, Tryz.ntmps51
    go_wp2
    go_ret
    exact ⟨rfl, rfl⟩

theorem s_of (f : Int) (h0 : 0 ≤ f) (h1 : f ≤ 255) (w : World) (hT : FAt w) :
    Calls Tryz.prog 60 #[.int .u8 f] w fun e w' => e = .returned (.agg #[.int .i64 (fW f), .int .i64 (fP f), .int .i64 (fE f), .string (fN f)]) ∧ w' = w.alloc (.cells (fR f) 104) := by
  have hB := bal7 w (.cells #[.int .i64 0, .int .i64 0, .int .i64 0, .string ⟨#[]⟩] 104)
  have T2 := fatB hT hB
  rcases f_cases f h0 with rfl | rfl | rfl | rfl | h
  · have c0 := fat_at T2 0 (.int .i64 32) (by decide) rfl
    have c1 := fat_at T2 1 (.int .i64 24) (by decide) rfl
    have c2 := fat_at T2 2 (.int .i64 127) (by decide) rfl
    have c3 := fat_at T2 3 (.string ⟨#[115]⟩) (by decide) rfl
    clear T2 hT
    go_enter Tryz.func60, Tryz.ntmps60
    go_wp2_with fail
    refine (s_check_is 0 0 (by omega) (by omega) rfl _).mono ?_
    rintro r w' ⟨rfl, rfl⟩
    go_wp2
    exact bodyPost_ret (v := .agg #[.int .i64 32, .int .i64 24, .int .i64 127, .string ⟨#[115]⟩]) (by simp [results, Tryz.results60, go_sem]) rfl ⟨rfl, rfl⟩
  · have c0 := fat_at T2 4 (.int .i64 64) (by decide) rfl
    have c1 := fat_at T2 5 (.int .i64 53) (by decide) rfl
    have c2 := fat_at T2 6 (.int .i64 1023) (by decide) rfl
    have c3 := fat_at T2 7 (.string ⟨#[100]⟩) (by decide) rfl
    clear T2 hT
    go_enter Tryz.func60, Tryz.ntmps60
    go_wp2_with fail
    refine (s_check_is 1 0 (by omega) (by omega) rfl _).mono ?_
    rintro r w' ⟨rfl, rfl⟩
    go_wp2
    exact bodyPost_ret (v := .agg #[.int .i64 64, .int .i64 53, .int .i64 1023, .string ⟨#[100]⟩]) (by simp [results, Tryz.results60, go_sem]) rfl ⟨rfl, rfl⟩
  · have c0 := fat_at T2 8 (.int .i64 16) (by decide) rfl
    have c1 := fat_at T2 9 (.int .i64 11) (by decide) rfl
    have c2 := fat_at T2 10 (.int .i64 15) (by decide) rfl
    have c3 := fat_at T2 11 (.string ⟨#[104]⟩) (by decide) rfl
    clear T2 hT
    go_enter Tryz.func60, Tryz.ntmps60
    go_wp2_with fail
    refine (s_check_is 2 0 (by omega) (by omega) rfl _).mono ?_
    rintro r w' ⟨rfl, rfl⟩
    go_wp2
    exact bodyPost_ret (v := .agg #[.int .i64 16, .int .i64 11, .int .i64 15, .string ⟨#[104]⟩]) (by simp [results, Tryz.results60, go_sem]) rfl ⟨rfl, rfl⟩
  · have c0 := fat_at T2 12 (.int .i64 128) (by decide) rfl
    have c1 := fat_at T2 13 (.int .i64 113) (by decide) rfl
    have c2 := fat_at T2 14 (.int .i64 16383) (by decide) rfl
    have c3 := fat_at T2 15 (.string ⟨#[113]⟩) (by decide) rfl
    clear T2 hT
    go_enter Tryz.func60, Tryz.ntmps60
    go_wp2_with fail
    refine (s_check_is 3 0 (by omega) (by omega) rfl _).mono ?_
    rintro r w' ⟨rfl, rfl⟩
    go_wp2
    exact bodyPost_ret (v := .agg #[.int .i64 128, .int .i64 113, .int .i64 16383, .string ⟨#[113]⟩]) (by simp [results, Tryz.results60, go_sem]) rfl ⟨rfl, rfl⟩
  · have hd : decide ((4 : Int) ≤ f) = true := by simp [h]
    have e0 : fW f = 0 := by unfold fW; rw [if_neg (by omega), if_neg (by omega), if_neg (by omega), if_neg (by omega)]
    have e1 : fP f = 0 := by unfold fP; rw [if_neg (by omega), if_neg (by omega), if_neg (by omega), if_neg (by omega)]
    have e2 : fE f = 0 := by unfold fE; rw [if_neg (by omega), if_neg (by omega), if_neg (by omega), if_neg (by omega)]
    have e3 : fN f = ⟨#[]⟩ := by unfold fN; rw [if_neg (by omega), if_neg (by omega), if_neg (by omega), if_neg (by omega)]
    have e4 : fC f = 2 := by unfold fC; rw [if_neg (by omega)]
    have e5 : fR f = #[.int .i64 0, .int .i64 0, .int .i64 0, .string ⟨#[]⟩] := by unfold fR; rw [e0, e1, e2, e3]
    rw [e0, e1, e2, e3, e5]
    clear T2 hT e0 e1 e2 e3 e5
    go_enter Tryz.func60, Tryz.ntmps60
    go_wp2_with fail
    refine (s_check_is f 2 (by omega) (by omega) e4 _).mono ?_
    rintro r w' ⟨rfl, rfl⟩
    go_wp2
    exact bodyPost_ret (v := .agg #[.int .i64 0, .int .i64 0, .int .i64 0, .string ⟨#[]⟩]) (by simp [results, Tryz.results60, go_sem]) rfl ⟨rfl, rfl⟩

theorem s_of_is (f w0 p0 m0 : Int) (n0 : ByteArray) (h0 : 0 ≤ f) (h1 : f ≤ 255) (hw : fW f = w0) (hp : fP f = p0) (he : fE f = m0) (hn : fN f = n0) (w : World) (hT : FAt w) :
    Calls Tryz.prog 60 #[.int .u8 f] w fun e w' => e = .returned (.agg #[.int .i64 w0, .int .i64 p0, .int .i64 m0, .string n0]) ∧ w' = w.alloc (.cells (fR f) 104) := by
  subst hw hp he hn
  exact s_of f h0 h1 w hT

theorem fld0 (a b c d : Value) (w : World) : (Instr.field 104 (.agg #[a, b, c, d]) 0).run Tryz.prog w = .ok a w := by kernel_rfl
theorem fld1 (a b c d : Value) (w : World) : (Instr.field 104 (.agg #[a, b, c, d]) 1).run Tryz.prog w = .ok b w := by kernel_rfl
theorem fld2 (a b c d : Value) (w : World) : (Instr.field 104 (.agg #[a, b, c, d]) 2).run Tryz.prog w = .ok c w := by kernel_rfl
theorem s_width (f v : Int) (h0 : 0 ≤ f) (h1 : f ≤ 255) (hv : fW f = v) (w : World) (hT : FAt w) :
    Calls Tryz.prog 89 #[.int .u8 f] w fun e w' => e = .returned (.int .i64 v) ∧ w' = w.alloc (.cells (fR f) 104) := by
  have hl := fld0
  go_enter Tryz.func89, Tryz.ntmps89
  go_wp2_with fail
  refine (s_of_is f v _ _ _ h0 h1 hv rfl rfl rfl _ hT).mono ?_
  rintro r w2 ⟨rfl, rfl⟩
  go_wp2
  go_ret
  exact ⟨rfl, rfl⟩
theorem s_precision (f v : Int) (h0 : 0 ≤ f) (h1 : f ≤ 255) (hv : fP f = v) (w : World) (hT : FAt w) :
    Calls Tryz.prog 53 #[.int .u8 f] w fun e w' => e = .returned (.int .i64 v) ∧ w' = w.alloc (.cells (fR f) 104) := by
  have hl := fld1
  go_enter Tryz.func53, Tryz.ntmps53
  go_wp2_with fail
  refine (s_of_is f _ v _ _ h0 h1 rfl hv rfl rfl _ hT).mono ?_
  rintro r w2 ⟨rfl, rfl⟩
  go_wp2
  go_ret
  exact ⟨rfl, rfl⟩
theorem s_emax (f v : Int) (h0 : 0 ≤ f) (h1 : f ≤ 255) (hv : fE f = v) (w : World) (hT : FAt w) :
    Calls Tryz.prog 28 #[.int .u8 f] w fun e w' => e = .returned (.int .i64 v) ∧ w' = w.alloc (.cells (fR f) 104) := by
  have hl := fld2
  go_enter Tryz.func28, Tryz.ntmps28
  go_wp2_with fail
  refine (s_of_is f _ _ v _ h0 h1 rfl rfl hv rfl _ hT).mono ?_
  rintro r w2 ⟨rfl, rfl⟩
  go_wp2
  go_ret
  exact ⟨rfl, rfl⟩

theorem s_emin (f m v : Int) (h0 : 0 ≤ f) (h1 : f ≤ 255) (hm : fE f = m) (hv : (if fC f = 0 then 1 - m else 0) = v) (w : World) (hT : FAt w) :
    Calls Tryz.prog 27 #[.int .u8 f] w fun e w' => e = .returned (.int .i64 v) ∧ Below w.heap.size w w' := by
  obtain ⟨c, hc⟩ : ∃ c, fC f = c := ⟨_, rfl⟩
  rw [hc] at hv
  have hm2 : 0 ≤ m ∧ m ≤ 16383 := by rw [← hm]; unfold fE; split <;> (try split) <;> (try split) <;> (try split) <;> omega
  by_cases h : c = 0
  · rw [if_pos h] at hv
    subst h hv
    have hw : IntKind.i64.wrap (1 - m) = 1 - m := by rw [IntKind.wrap_i64]; omega
    go_enter Tryz.func27, Tryz.ntmps27
    go_wp2_with fail
    refine (s_check_is f 0 h0 h1 hc _).mono ?_
    rintro r w' ⟨rfl, rfl⟩
    go_wp2_with fail
    refine (s_emax f m h0 h1 hm _ hT).mono ?_
    rintro r w2 ⟨rfl, rfl⟩
    go_wp2
    go_ret
    exact ⟨rfl, bal7 _ _⟩
  · have hd : (c != 0) = true := by simp [h]
    rw [if_neg h] at hv
    subst hv
    go_enter Tryz.func27, Tryz.ntmps27
    go_wp2_with fail
    refine (s_check_is f c h0 h1 hc _).mono ?_
    rintro r w' ⟨rfl, rfl⟩
    go_wp2
    go_ret
    exact ⟨rfl, Below.refl _ _⟩

def rHi (x n : Int) : Int := bits .or .u64 (IntKind.u64.wrap (x * 2 ^ min (IntKind.u64.wrap (n - 64)).toNat 64)) (x / 2 ^ min (IntKind.u64.wrap (64 - n)).toNat 64)
def rLo (x n : Int) : Int := IntKind.u64.wrap (x * 2 ^ min n.toNat 64)

theorem cell7 {w : World} {g : Nat} {T : TypeId} {c : Array Value} (row : w.heap[g]? = some (.cells c T)) (k : Nat) (v : Value) (h : c[k]? = some v) : w.cell? ⟨g, k, none⟩ = some v := by
  simp [World.cell?, row, h]
theorem set2_below {n : Nat} {w wr : World} {b : Nat} (h : Below n w wr) (hb : n ≤ b) (v0 v1 : Value) : Below n w ((wr.setCell ⟨b, 0, none⟩ v0).setCell ⟨b, 1, none⟩ v1) := (h.setCell (by exact hb) _).setCell (by exact hb) _
theorem set2_row {w : World} {b : Nat} {c0 c1 : Value} {T : TypeId} (h : w.heap[b]? = some (.cells #[c0, c1] T)) (v0 v1 : Value) :
    ((w.setCell ⟨b, 0, none⟩ v0).setCell ⟨b, 1, none⟩ v1).heap[b]? = some (.cells #[v0, v1] T) := by
  rw [setCell_row (setCell_row h)]; rfl
theorem set2_cells {w : World} {b : Nat} {c0 c1 : Value} {T : TypeId} (h : w.heap[b]? = some (.cells #[c0, c1] T)) (v0 v1 : Value) :
    ((w.setCell ⟨b, 0, none⟩ v0).setCell ⟨b, 1, none⟩ v1).cell? ⟨b, 0, none⟩ = some v0 ∧ ((w.setCell ⟨b, 0, none⟩ v0).setCell ⟨b, 1, none⟩ v1).cell? ⟨b, 1, none⟩ = some v1 := by
  have r := set2_row h v0 v1
  exact ⟨cell7 r 0 _ rfl, cell7 r 1 _ rfl⟩
theorem last7 (w : World) (o : Obj) : (w.alloc o).heap[w.heap.size]? = some o := heap_alloc_last w o

def b2 (a b : Int) : Array Value := #[.int .u64 a, .int .u64 b]

theorem s_raised (x n H L : Int) (h0 : 0 ≤ n) (h1 : n ≤ 18446744073709551615) (hH : rHi x n = H) (hL : rLo x n = L) (w : World) :
    Calls Tryz.prog 87 #[.int .u64 x, .int .u64 n] w fun e w' => e = .returned (.agg #[.int .u64 H, .int .u64 L]) ∧ w' = w.alloc (.cells #[.int .u64 H, .int .u64 L] 27) := by
  obtain ⟨m, rfl⟩ := Int.eq_ofNat_of_zero_le h0
  subst hH hL
  go_enter Tryz.func87, Tryz.ntmps87
  go_wp2
  exact bodyPost_ret (v := .agg #[.int .u64 (rHi x m), .int .u64 (rLo x m)]) (by simp [results, Tryz.results87, go_sem, rHi, rLo]) rfl ⟨rfl, by simp [rHi, rLo]⟩

theorem s_join (a b c d H L : Int) (hH : bits .or .u64 a c = H) (hL : bits .or .u64 b d = L) (w : World) :
    Calls Tryz.prog 86 #[.agg #[.int .u64 a, .int .u64 b], .agg #[.int .u64 c, .int .u64 d]] w fun e w' => e = .returned (.agg #[.int .u64 H, .int .u64 L]) ∧ w' = ((w.alloc (.cells #[.int .u64 a, .int .u64 b] 27)).alloc (.cells #[.int .u64 c, .int .u64 d] 27)).alloc (.cells #[.int .u64 H, .int .u64 L] 27) := by
  go_enter Tryz.func86, Tryz.ntmps86
  go_wp2
  exact bodyPost_ret (v := .agg #[.int .u64 H, .int .u64 L]) (by simp [results, Tryz.results86, go_sem]) rfl ⟨rfl, rfl⟩

theorem s_ones (n H L : Int) (h0 : 0 ≤ n) (h1 : n ≤ 18446744073709551615) (hH : rHi 1 n = H) (hL : rLo 1 n = L) (K M : Int) (hK : (if L = 0 then IntKind.u64.wrap (H - 1) else H) = K) (hM : IntKind.u64.wrap (L - 1) = M) (w : World) :
    Calls Tryz.prog 101 #[.int .u64 n] w fun e w' => e = .returned (.agg #[.int .u64 K, .int .u64 M]) ∧ Below w.heap.size w w' := by
  by_cases hz : L = 0
  · have hd : (L == 0) = true := by simp [hz]
    rw [if_pos hz] at hK
    subst hz
    rw [show (0 : Int) - 1 = -1 by decide] at hM
    go_enter Tryz.func101, Tryz.ntmps101
    go_wp2_with fail
    refine (s_raised 1 n H _ h0 h1 hH hL _).mono ?_
    rintro r w2 ⟨rfl, rfl⟩
    go_wp2
    exact bodyPost_ret (v := .agg #[.int .u64 K, .int .u64 M]) (by simp [results, Tryz.results101, go_sem]) rfl ⟨rfl, (((Below.refl _ _).alloc (Nat.le_refl _) _).alloc (by simp only [size_al]; omega) _).alloc (by simp only [size_al]; omega) _⟩
  · have hd : (L == 0) = false := by simp [hz]
    rw [if_neg hz] at hK
    subst hK
    go_enter Tryz.func101, Tryz.ntmps101
    go_wp2_with fail
    refine (s_raised 1 n H _ h0 h1 hH hL _).mono ?_
    rintro r w2 ⟨rfl, rfl⟩
    go_wp2
    exact bodyPost_ret (v := .agg #[.int .u64 H, .int .u64 M]) (by simp [results, Tryz.results101, go_sem]) rfl ⟨rfl, (((Below.refl _ _).alloc (Nat.le_refl _) _).alloc (by simp only [size_al]; omega) _).alloc (by simp only [size_al]; omega) _⟩

theorem s_fraction (f p v : Int) (h0 : 0 ≤ f) (h1 : f ≤ 255) (hp : fP f = p) (hv : IntKind.u64.wrap (p - 1) = v) (w : World) (hT : FAt w) :
    Calls Tryz.prog 88 #[.int .u8 f] w fun e w' => e = .returned (.int .u64 v) ∧ w' = w.alloc (.cells (fR f) 104) := by
  have hm2 : 0 ≤ p ∧ p ≤ 113 := by rw [← hp]; unfold fP; split <;> (try split) <;> (try split) <;> (try split) <;> omega
  have hw : IntKind.i64.wrap (p - 1) = p - 1 := by rw [IntKind.wrap_i64]; omega
  go_enter Tryz.func88, Tryz.ntmps88
  go_wp2_with fail
  refine (s_precision f p h0 h1 hp _ hT).mono ?_
  rintro r w2 ⟨rfl, rfl⟩
  go_wp2
  go_ret
  exact ⟨rfl, rfl⟩

theorem s_top (f q p d v : Int) (h0 : 0 ≤ f) (h1 : f ≤ 255) (hq : fW f = q) (hp : fP f = p) (hd : q - p = d) (h2 : 0 ≤ d) (hv : IntKind.u64.wrap (IntKind.u64.wrap (2 ^ min d.toNat 64) - 1) = v) (w : World) (hT : FAt w) :
    Calls Tryz.prog 100 #[.int .u8 f] w fun e w' => e = .returned (.int .u64 v) ∧ Below w.heap.size w w' := by
  have hm1 : 0 ≤ q ∧ q ≤ 128 := by rw [← hq]; unfold fW; split <;> (try split) <;> (try split) <;> (try split) <;> omega
  have hm2 : 0 ≤ p ∧ p ≤ 113 := by rw [← hp]; unfold fP; split <;> (try split) <;> (try split) <;> (try split) <;> omega
  go_enter Tryz.func100, Tryz.ntmps100
  go_wp2_with fail
  refine (s_width f q h0 h1 hq _ hT).mono ?_
  rintro r w2 ⟨rfl, rfl⟩
  go_wp2_with fail
  refine (s_precision f p h0 h1 hp _ (fatB hT (bal7 _ _))).mono ?_
  rintro r w3 ⟨rfl, rfl⟩
  go_wp2
  go_ret
  exact ⟨rfl, btr7 (bal7 _ _) (bal7 _ _)⟩

def pV (f : Int) : Nat := (fP f).toNat - 1
def wV (f : Int) : Nat := (fW f).toNat - 1
def oV (f : Int) : Nat := 2 * (fE f).toNat + 1
def enc7 (f : Int) (neg : Bool) (e t : Nat) : Nat := e * 2 ^ pV f + t + (if neg then 2 ^ wV f else 0)
def bv7 (v : Nat) : Nat × Nat := (v / 18446744073709551616, v % 18446744073709551616)
def eInf (f : Int) (neg : Bool) : Nat := enc7 f neg (oV f) 0
def eZero (f : Int) (neg : Bool) : Nat := enc7 f neg 0 0
def eGreatest (f : Int) (neg : Bool) : Nat := enc7 f neg (oV f - 1) (2 ^ pV f - 1)
def Is4 (f : Int) : Prop := f = 0 ∨ f = 1 ∨ f = 2 ∨ f = 3
theorem is4_ok {f : Int} (h : Is4 f) : 0 ≤ f ∧ f ≤ 255 ∧ fC f = 0 ∧ 0 ≤ fW f - fP f := by
  rcases h with rfl | rfl | rfl | rfl <;> decide +kernel

def R7 (w : World) (I J : Int) (w5 : World) (g : Nat) : Prop := Below w.heap.size w w5 ∧ w5.heap[g]? = some (.cells #[.int .u64 I, .int .u64 J] 27) ∧ w5.heap[w.heap.size + 1]? = some (.cells #[.int .u64 0, .int .u64 0] 27) ∧ w.heap.size + 1 < g
theorem cut7 {G C : Prop} (h : G → C) (k : G) : C := h k
theorem bel_al {w W : World} (h : Below w.heap.size w W) (o : Obj) : Below w.heap.size w (W.alloc o) := btr7 h (bal7 _ _)
theorem bel_dr {w W : World} (h : Below w.heap.size w W) : Below w.heap.size w W.drew := h.drew
theorem row_al {W : World} {b : Nat} {o : Obj} (h : W.heap[b]? = some o) (o' : Obj) : (W.alloc o').heap[b]? = some o := by
  rw [heap_below W b o' (Array.getElem?_eq_some_iff.1 h).1]; exact h
theorem row_dr {W : World} {b : Nat} {o : Obj} (h : W.heap[b]? = some o) : W.drew.heap[b]? = some o := h
theorem row_last {W : World} {b : Nat} {o : Obj} (h : b = W.heap.size) : (W.alloc o).heap[b]? = some o := by subst h; exact heap_alloc_last W o
end Go.Proofs.YtpdehipeakcaiaaGreatDoor
