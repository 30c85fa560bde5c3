/-
  What the functions that the statement reaches return: part 7 (Y1, Y3, Y4, X11, X12).
-/
import Derived.Test.YtapikkbifdldfaaGreatDoorFd06
namespace Go.Proofs.YtapikkbifdldfaaGreatDoor
set_option maxRecDepth 100000
set_option maxHeartbeats 40000000
set_option maxRecDepth 100000
open Go.RowKit WMath XMath
set_option maxRecDepth 100000 in
set_option maxHeartbeats 1000000 in
theorem rmake_ok (neg : Bool) (n d : Nat) (e : Int) (s t : ByteArray) (rb : Bool) (rn rd : Nat) (re err : Int) (u v : ByteArray) (hs : nbA n = s) (ht : nbA d = t) (ln : nl n ≤ 16384) (ld : nl d ≤ 16384) (d0 : d ≠ 0) (he1 : -1048576 ≤ e) (he2 : e ≤ 1048576)
    (hr : XMath.mk neg n d e = (⟨rb, rn, rd, re⟩, err)) (hu : nbA rn = u) (hv : nbA rd = v) (w : World) :
    Calls Tryz.prog 99 #[.bool neg, .string s, .string t, .int .i64 e] w fun r w' => r = .returned (.tuple #[.agg #[.bool rb, .string u, .string v, .int .i64 re], .int .i64 err]) ∧ Below w.heap.size w w' := by
  have e0 := eq_nil d t ht d0
  have H1 : Box (mayB s = true) := box (by rw [← hs]; exact mayB_nb n ln)
  have H2 : Box (mayB t = true) := box (by rw [← ht]; exact mayB_nb d ld)
  have g1 : decide (e < -1048576) = false := decide_eq_false (by omega)
  have g2 : decide (1048576 < e) = false := decide_eq_false (by omega)
  by_cases n0 : n = 0
  · subst n0
    rw [mk_null] at hr
    injection hr with h1 h2
    unfold X0 at h1
    injection h1 with a b c d
    subst a b c d h2
    rw [nbA_zero] at hs hu
    rw [nb1] at hv
    subst hs hu hv
    clear ht ln ld d0
    obtain ⟨Rz_0, B0⟩ := opn1 w (Obj.cells #[.bool false, .string ⟨#[]⟩, .string ⟨#[]⟩, .int .i64 0] 70)
    go_enter Tryz.func99, Tryz.ntmps99
    go_wp2_with fail
    refine (nat_may _ true H1.out _).mono ?_
    rintro r w' ⟨rfl, rfl⟩
    go_wp2_with fail
    refine (nat_may t true H2.out _).mono ?_
    rintro r w' ⟨rfl, rfl⟩
    go_wp2_with fail
    refine (xnull _).mono ?_
    rintro r w1 ⟨rfl, b1⟩
    have B1 : Below w.heap.size w w1 := btr B0 b1
    have Rz_1 := heap_of b1 _ _ _ Rz_0
    clear b1 B0 Rz_0
    obtain ⟨cz_1_0, cz_1_1, cz_1_2, cz_1_3⟩ := cells4s Rz_1
    have q0 := fz (k := 0) Rz_1
    have q1 := fz (k := 1) Rz_1
    have q2 := fz (k := 2) Rz_1
    have q3 := fz (k := 3) Rz_1
    obtain ⟨E0, E1, E2, E3⟩ := set4_cells Rz_1 rfl (.bool false) (.string ⟨#[]⟩) (.string ⟨#[1]⟩) (.int .i64 0)
    go_wp2
    exact bodyPost_ret (v := .tuple #[.agg #[.bool false, .string ⟨#[]⟩, .string ⟨#[1]⟩, .int .i64 0], .int .i64 0]) (by simp [results, Tryz.results99, go_sem, E0, E1, E2, E3]) rfl ⟨rfl, set4_below B1 (by first | exact Nat.le_refl _ | omega | (skip; omega)) _ _ _ _⟩
  · have e1 := eq_nil n s hs n0
    obtain ⟨x, hx⟩ : ∃ x, tz n = x := ⟨_, rfl⟩
    obtain ⟨y, hy⟩ : ∃ x, tz d = x := ⟨_, rfl⟩
    have LX := box (tz_low n)
    have LY := box (tz_low d)
    have x2 : x ≤ 131072 := by have := tz_blen n; rw [hx] at this; unfold nl at ln; omega
    have y2 : y ≤ 131072 := by have := tz_blen d; rw [hy] at this; unfold nl at ld; omega
    have hc := mk_cases neg n d e rb rn rd re err n0 hr
    rw [hx, hy] at hc
    rw [hx] at LX
    rw [hy] at LY
    have HS := box hs
    have HT := box ht
    have LN := box ln
    have LD := box ld
    obtain ⟨E, hE⟩ : ∃ E, e + (x : Int) - (y : Int) = E := ⟨_, rfl⟩
    rw [hE] at hc
    have k1 : IntKind.i64.wrap (e + (x : Int)) = e + (x : Int) := wrap_i64_is _ (by omega) (by omega)
    have k2 : IntKind.i64.wrap (e + (x : Int) - (y : Int)) = E := by rw [wrap_i64_is _ (by omega) (by omega)]; omega
    obtain ⟨o1, o2⟩ := od_is n n0
    obtain ⟨o3, o4⟩ := od_is d d0
    obtain ⟨p, hp⟩ : ∃ p, nbA (od n) = p := ⟨_, rfl⟩
    obtain ⟨q, hq⟩ : ∃ p, nbA (od d) = p := ⟨_, rfl⟩
    have L1 : Box (nl (od n) ≤ 16384) := box (Nat.le_trans (nl_mono _ _ (od_le n)) ln)
    have L2 : Box (nl (od d) ≤ 16384) := box (Nat.le_trans (nl_mono _ _ (od_le d)) ld)
    have HP := box hp
    have HQ := box hq
    have P1 : Box (nbA (n / 2 ^ (x : Int).toNat) = p) := box (by rw [Int.toNat_natCast, ← hx]; exact hp)
    have Q1 : Box (nbA (d / 2 ^ (y : Int).toNat) = q) := box (by rw [Int.toNat_natCast, ← hy]; exact hq)
    obtain ⟨b1, hb1⟩ : ∃ o, decide (n % 2 ^ (x : Int).toNat ≠ 0) = o := ⟨_, rfl⟩
    obtain ⟨b2, hb2⟩ : ∃ o, decide (d % 2 ^ (y : Int).toNat ≠ 0) = o := ⟨_, rfl⟩
    have O1 := box hb1
    have O2 := box hb2
    obtain ⟨gg, hgg⟩ : ∃ g, Nat.gcd (od n) (od d) = g := ⟨_, rfl⟩
    obtain ⟨h, hh⟩ : ∃ h, nbA gg = h := ⟨_, rfl⟩
    have HG : Box (nbA (Nat.gcd (od n) (od d)) = h) := box (by rw [hgg]; exact hh)
    have HH := box hh
    have eo := eq_one gg h hh
    have G0 : Box (gg ≠ 0) := box (by rw [← hgg]; exact Nat.pos_iff_ne_zero.1 (Nat.gcd_pos_of_pos_left _ (by omega)))
    rw [hgg] at hc
    obtain ⟨un, hun⟩ : ∃ u, nbA (od n / gg) = u := ⟨_, rfl⟩
    obtain ⟨ud, hud⟩ : ∃ u, nbA (od d / gg) = u := ⟨_, rfl⟩
    obtain ⟨vn, hvn⟩ : ∃ u, nbA (od n % gg) = u := ⟨_, rfl⟩
    obtain ⟨vd, hvd⟩ : ∃ u, nbA (od d % gg) = u := ⟨_, rfl⟩
    have U1 := box hun
    have U2 := box hud
    have U3 := box hvn
    have U4 := box hvd
    by_cases g1' : gg = 1
    · rw [decide_eq_true g1'] at eo
      have en : un = p := by rw [← hun, g1', Nat.div_one, hp]
      have ed : ud = q := by rw [← hud, g1', Nat.div_one, hq]
      rcases hc with ⟨hc, rfl, rfl, rfl, rfl, rfl⟩ | ⟨hc, rfl, rfl, rfl, rfl, rfl⟩
      · rw [hun] at hu
        rw [hud] at hv
        subst hu hv
        subst en ed
        have c1 : decide (re < -1048576) = false := decide_eq_false (by omega)
        have c2 : decide (1048576 < re) = false := decide_eq_false (by omega)
        clear hs ht ln ld hr hx hy hE hc o1 o2 o3 o4 hp hq n0 d0 hb1 hb2 hgg hh hun hud hvn hvd g1' U1 U2 U3 U4
        obtain ⟨Rz_0, B0⟩ := opn1 w (Obj.cells #[.bool false, .string ⟨#[]⟩, .string ⟨#[]⟩, .int .i64 0] 70)
        go_enter Tryz.func99, Tryz.ntmps99
        go_wp2_with fail
        refine (nat_may s true H1.out _).mono ?_
        rintro r w' ⟨rfl, rfl⟩
        go_wp2_with fail
        refine (nat_may t true H2.out _).mono ?_
        rintro r w' ⟨rfl, rfl⟩
        go_wp2_with fail
        refine (nat_Low n x s HS.out LN.out LX.out _).mono ?_
        rintro r w' ⟨rfl, rfl⟩
        go_wp2_with fail
        refine (nat_Low d y t HT.out LD.out LY.out _).mono ?_
        rintro r w' ⟨rfl, rfl⟩
        go_wp2_with fail
        refine (nat_Right n (x : Int) s un b1 HS.out LN.out (by omega) (by omega) P1.out O1.out _).mono ?_
        rintro r w1 ⟨rfl, b1⟩
        have B1 : Below w.heap.size w w1 := btr B0 b1
        have Rz_1 := heap_of b1 _ _ _ Rz_0
        clear b1 B0 Rz_0
        obtain ⟨cz_1_0, cz_1_1, cz_1_2, cz_1_3⟩ := cells4s Rz_1
        go_wp2_with fail
        refine (nat_Right d (y : Int) t ud b2 HT.out LD.out (by omega) (by omega) Q1.out O2.out _).mono ?_
        rintro r w2 ⟨rfl, b2⟩
        have B2 : Below w.heap.size w w2 := btr B1 b2
        have Rz_2 := heap_of b2 _ _ _ Rz_1
        clear b2 B1 Rz_1 cz_1_0 cz_1_1 cz_1_2 cz_1_3
        obtain ⟨cz_2_0, cz_2_1, cz_2_2, cz_2_3⟩ := cells4s Rz_2
        go_wp2_with fail
        refine (nat_Gcd (od n) (od d) un ud h HP.out HQ.out L1.out L2.out HG.out _).mono ?_
        rintro r w3 ⟨rfl, b3⟩
        have B3 : Below w.heap.size w w3 := btr B2 b3
        have Rz_3 := heap_of b3 _ _ _ Rz_2
        clear b3 B2 Rz_2 cz_2_0 cz_2_1 cz_2_2 cz_2_3
        obtain ⟨cz_3_0, cz_3_1, cz_3_2, cz_3_3⟩ := cells4s Rz_3
        have q0 := fz (k := 0) Rz_3
        have q1 := fz (k := 1) Rz_3
        have q2 := fz (k := 2) Rz_3
        have q3 := fz (k := 3) Rz_3
        obtain ⟨E0, E1, E2, E3⟩ := set4_cells Rz_3 rfl (.bool rb) (.string un) (.string ud) (.int .i64 re)
        go_wp2
        exact bodyPost_ret (v := .tuple #[.agg #[.bool rb, .string un, .string ud, .int .i64 re], .int .i64 0]) (by simp [results, Tryz.results99, go_sem, E0, E1, E2, E3]) rfl ⟨rfl, set4_below B3 (by first | exact Nat.le_refl _ | omega | (skip; omega)) _ _ _ _⟩
      · rw [nbA_zero] at hu hv
        subst hu hv
        have c0 : E < -1048576 ∨ 1048576 < E := by omega
        have c12 : decide (E < -1048576) = true ∨ (decide (E < -1048576) = false ∧ decide (1048576 < E) = true) := by
          by_cases hh : E < -1048576
          · exact Or.inl (decide_eq_true hh)
          · exact Or.inr ⟨decide_eq_false hh, decide_eq_true (by omega)⟩
        clear hs ht ln ld hr hx hy hE hc o1 o2 o3 o4 hp hq n0 d0 hb1 hb2 hgg hh hun hud hvn hvd g1' U1 U2 U3 U4 en ed c0
        rcases c12 with c1 | ⟨c1, c2⟩
        · obtain ⟨Rz_0, B0⟩ := opn1 w (Obj.cells #[.bool false, .string ⟨#[]⟩, .string ⟨#[]⟩, .int .i64 0] 70)
          go_enter Tryz.func99, Tryz.ntmps99
          go_wp2_with fail
          refine (nat_may s true H1.out _).mono ?_
          rintro r w' ⟨rfl, rfl⟩
          go_wp2_with fail
          refine (nat_may t true H2.out _).mono ?_
          rintro r w' ⟨rfl, rfl⟩
          go_wp2_with fail
          refine (nat_Low n x s HS.out LN.out LX.out _).mono ?_
          rintro r w' ⟨rfl, rfl⟩
          go_wp2_with fail
          refine (nat_Low d y t HT.out LD.out LY.out _).mono ?_
          rintro r w' ⟨rfl, rfl⟩
          go_wp2_with fail
          refine (nat_Right n (x : Int) s p b1 HS.out LN.out (by omega) (by omega) P1.out O1.out _).mono ?_
          rintro r w1 ⟨rfl, b1⟩
          have B1 : Below w.heap.size w w1 := btr B0 b1
          have Rz_1 := heap_of b1 _ _ _ Rz_0
          clear b1 B0 Rz_0
          obtain ⟨cz_1_0, cz_1_1, cz_1_2, cz_1_3⟩ := cells4s Rz_1
          go_wp2_with fail
          refine (nat_Right d (y : Int) t q b2 HT.out LD.out (by omega) (by omega) Q1.out O2.out _).mono ?_
          rintro r w2 ⟨rfl, b2⟩
          have B2 : Below w.heap.size w w2 := btr B1 b2
          have Rz_2 := heap_of b2 _ _ _ Rz_1
          clear b2 B1 Rz_1 cz_1_0 cz_1_1 cz_1_2 cz_1_3
          obtain ⟨cz_2_0, cz_2_1, cz_2_2, cz_2_3⟩ := cells4s Rz_2
          go_wp2_with fail
          refine (nat_Gcd (od n) (od d) p q h HP.out HQ.out L1.out L2.out HG.out _).mono ?_
          rintro r w3 ⟨rfl, b3⟩
          have B3 : Below w.heap.size w w3 := btr B2 b3
          have Rz_3 := heap_of b3 _ _ _ Rz_2
          clear b3 B2 Rz_2 cz_2_0 cz_2_1 cz_2_2 cz_2_3
          obtain ⟨cz_3_0, cz_3_1, cz_3_2, cz_3_3⟩ := cells4s Rz_3
          have q0 := fz (k := 0) Rz_3
          have q1 := fz (k := 1) Rz_3
          have q2 := fz (k := 2) Rz_3
          have q3 := fz (k := 3) Rz_3
          obtain ⟨E0, E1, E2, E3⟩ := set4_cells Rz_3 rfl (.bool false) (.string ⟨#[]⟩) (.string ⟨#[]⟩) (.int .i64 0)
          go_wp2
          exact bodyPost_ret (v := .tuple #[.agg #[.bool false, .string ⟨#[]⟩, .string ⟨#[]⟩, .int .i64 0], .int .i64 4]) (by simp [results, Tryz.results99, go_sem, E0, E1, E2, E3]) rfl ⟨rfl, set4_below B3 (by first | exact Nat.le_refl _ | omega | (skip; omega)) _ _ _ _⟩
        · obtain ⟨Rz_0, B0⟩ := opn1 w (Obj.cells #[.bool false, .string ⟨#[]⟩, .string ⟨#[]⟩, .int .i64 0] 70)
          go_enter Tryz.func99, Tryz.ntmps99
          go_wp2_with fail
          refine (nat_may s true H1.out _).mono ?_
          rintro r w' ⟨rfl, rfl⟩
          go_wp2_with fail
          refine (nat_may t true H2.out _).mono ?_
          rintro r w' ⟨rfl, rfl⟩
          go_wp2_with fail
          refine (nat_Low n x s HS.out LN.out LX.out _).mono ?_
          rintro r w' ⟨rfl, rfl⟩
          go_wp2_with fail
          refine (nat_Low d y t HT.out LD.out LY.out _).mono ?_
          rintro r w' ⟨rfl, rfl⟩
          go_wp2_with fail
          refine (nat_Right n (x : Int) s p b1 HS.out LN.out (by omega) (by omega) P1.out O1.out _).mono ?_
          rintro r w1 ⟨rfl, b1⟩
          have B1 : Below w.heap.size w w1 := btr B0 b1
          have Rz_1 := heap_of b1 _ _ _ Rz_0
          clear b1 B0 Rz_0
          obtain ⟨cz_1_0, cz_1_1, cz_1_2, cz_1_3⟩ := cells4s Rz_1
          go_wp2_with fail
          refine (nat_Right d (y : Int) t q b2 HT.out LD.out (by omega) (by omega) Q1.out O2.out _).mono ?_
          rintro r w2 ⟨rfl, b2⟩
          have B2 : Below w.heap.size w w2 := btr B1 b2
          have Rz_2 := heap_of b2 _ _ _ Rz_1
          clear b2 B1 Rz_1 cz_1_0 cz_1_1 cz_1_2 cz_1_3
          obtain ⟨cz_2_0, cz_2_1, cz_2_2, cz_2_3⟩ := cells4s Rz_2
          go_wp2_with fail
          refine (nat_Gcd (od n) (od d) p q h HP.out HQ.out L1.out L2.out HG.out _).mono ?_
          rintro r w3 ⟨rfl, b3⟩
          have B3 : Below w.heap.size w w3 := btr B2 b3
          have Rz_3 := heap_of b3 _ _ _ Rz_2
          clear b3 B2 Rz_2 cz_2_0 cz_2_1 cz_2_2 cz_2_3
          obtain ⟨cz_3_0, cz_3_1, cz_3_2, cz_3_3⟩ := cells4s Rz_3
          have q0 := fz (k := 0) Rz_3
          have q1 := fz (k := 1) Rz_3
          have q2 := fz (k := 2) Rz_3
          have q3 := fz (k := 3) Rz_3
          obtain ⟨E0, E1, E2, E3⟩ := set4_cells Rz_3 rfl (.bool false) (.string ⟨#[]⟩) (.string ⟨#[]⟩) (.int .i64 0)
          go_wp2
          exact bodyPost_ret (v := .tuple #[.agg #[.bool false, .string ⟨#[]⟩, .string ⟨#[]⟩, .int .i64 0], .int .i64 4]) (by simp [results, Tryz.results99, go_sem, E0, E1, E2, E3]) rfl ⟨rfl, set4_below B3 (by first | exact Nat.le_refl _ | omega | (skip; omega)) _ _ _ _⟩
    · rw [decide_eq_false g1'] at eo
      rcases hc with ⟨hc, rfl, rfl, rfl, rfl, rfl⟩ | ⟨hc, rfl, rfl, rfl, rfl, rfl⟩
      · rw [hun] at hu
        rw [hud] at hv
        subst hu hv
        have c1 : decide (re < -1048576) = false := decide_eq_false (by omega)
        have c2 : decide (1048576 < re) = false := decide_eq_false (by omega)
        clear hs ht ln ld hr hx hy hE hc o1 o2 o3 o4 hp hq n0 d0 hb1 hb2 hgg hh hun hud hvn hvd g1'
        obtain ⟨Rz_0, B0⟩ := opn1 w (Obj.cells #[.bool false, .string ⟨#[]⟩, .string ⟨#[]⟩, .int .i64 0] 70)
        go_enter Tryz.func99, Tryz.ntmps99
        go_wp2_with fail
        refine (nat_may s true H1.out _).mono ?_
        rintro r w' ⟨rfl, rfl⟩
        go_wp2_with fail
        refine (nat_may t true H2.out _).mono ?_
        rintro r w' ⟨rfl, rfl⟩
        go_wp2_with fail
        refine (nat_Low n x s HS.out LN.out LX.out _).mono ?_
        rintro r w' ⟨rfl, rfl⟩
        go_wp2_with fail
        refine (nat_Low d y t HT.out LD.out LY.out _).mono ?_
        rintro r w' ⟨rfl, rfl⟩
        go_wp2_with fail
        refine (nat_Right n (x : Int) s p b1 HS.out LN.out (by omega) (by omega) P1.out O1.out _).mono ?_
        rintro r w1 ⟨rfl, b1⟩
        have B1 : Below w.heap.size w w1 := btr B0 b1
        have Rz_1 := heap_of b1 _ _ _ Rz_0
        clear b1 B0 Rz_0
        obtain ⟨cz_1_0, cz_1_1, cz_1_2, cz_1_3⟩ := cells4s Rz_1
        go_wp2_with fail
        refine (nat_Right d (y : Int) t q b2 HT.out LD.out (by omega) (by omega) Q1.out O2.out _).mono ?_
        rintro r w2 ⟨rfl, b2⟩
        have B2 : Below w.heap.size w w2 := btr B1 b2
        have Rz_2 := heap_of b2 _ _ _ Rz_1
        clear b2 B1 Rz_1 cz_1_0 cz_1_1 cz_1_2 cz_1_3
        obtain ⟨cz_2_0, cz_2_1, cz_2_2, cz_2_3⟩ := cells4s Rz_2
        go_wp2_with fail
        refine (nat_Gcd (od n) (od d) p q h HP.out HQ.out L1.out L2.out HG.out _).mono ?_
        rintro r w3 ⟨rfl, b3⟩
        have B3 : Below w.heap.size w w3 := btr B2 b3
        have Rz_3 := heap_of b3 _ _ _ Rz_2
        clear b3 B2 Rz_2 cz_2_0 cz_2_1 cz_2_2 cz_2_3
        obtain ⟨cz_3_0, cz_3_1, cz_3_2, cz_3_3⟩ := cells4s Rz_3
        go_wp2_with fail
        refine (nat_Div (od n) gg p h un vn HP.out HH.out L1.out G0.out U1.out U3.out _).mono ?_
        rintro r w4 ⟨rfl, b4⟩
        have B4 : Below w.heap.size w w4 := btr B3 b4
        have Rz_4 := heap_of b4 _ _ _ Rz_3
        clear b4 B3 Rz_3 cz_3_0 cz_3_1 cz_3_2 cz_3_3
        obtain ⟨cz_4_0, cz_4_1, cz_4_2, cz_4_3⟩ := cells4s Rz_4
        go_wp2_with fail
        refine (nat_Div (od d) gg q h ud vd HQ.out HH.out L2.out G0.out U2.out U4.out _).mono ?_
        rintro r w5 ⟨rfl, b5⟩
        have B5 : Below w.heap.size w w5 := btr B4 b5
        have Rz_5 := heap_of b5 _ _ _ Rz_4
        clear b5 B4 Rz_4 cz_4_0 cz_4_1 cz_4_2 cz_4_3
        obtain ⟨cz_5_0, cz_5_1, cz_5_2, cz_5_3⟩ := cells4s Rz_5
        have q0 := fz (k := 0) Rz_5
        have q1 := fz (k := 1) Rz_5
        have q2 := fz (k := 2) Rz_5
        have q3 := fz (k := 3) Rz_5
        obtain ⟨E0, E1, E2, E3⟩ := set4_cells Rz_5 rfl (.bool rb) (.string un) (.string ud) (.int .i64 re)
        go_wp2
        exact bodyPost_ret (v := .tuple #[.agg #[.bool rb, .string un, .string ud, .int .i64 re], .int .i64 0]) (by simp [results, Tryz.results99, go_sem, E0, E1, E2, E3]) rfl ⟨rfl, set4_below B5 (by first | exact Nat.le_refl _ | omega | (skip; omega)) _ _ _ _⟩
      · rw [nbA_zero] at hu hv
        subst hu hv
        have c0 : E < -1048576 ∨ 1048576 < E := by omega
        have c12 : decide (E < -1048576) = true ∨ (decide (E < -1048576) = false ∧ decide (1048576 < E) = true) := by
          by_cases hh : E < -1048576
          · exact Or.inl (decide_eq_true hh)
          · exact Or.inr ⟨decide_eq_false hh, decide_eq_true (by omega)⟩
        clear hs ht ln ld hr hx hy hE hc o1 o2 o3 o4 hp hq n0 d0 hb1 hb2 hgg hh hun hud hvn hvd g1' c0
        rcases c12 with c1 | ⟨c1, c2⟩
        · obtain ⟨Rz_0, B0⟩ := opn1 w (Obj.cells #[.bool false, .string ⟨#[]⟩, .string ⟨#[]⟩, .int .i64 0] 70)
          go_enter Tryz.func99, Tryz.ntmps99
          go_wp2_with fail
          refine (nat_may s true H1.out _).mono ?_
          rintro r w' ⟨rfl, rfl⟩
          go_wp2_with fail
          refine (nat_may t true H2.out _).mono ?_
          rintro r w' ⟨rfl, rfl⟩
          go_wp2_with fail
          refine (nat_Low n x s HS.out LN.out LX.out _).mono ?_
          rintro r w' ⟨rfl, rfl⟩
          go_wp2_with fail
          refine (nat_Low d y t HT.out LD.out LY.out _).mono ?_
          rintro r w' ⟨rfl, rfl⟩
          go_wp2_with fail
          refine (nat_Right n (x : Int) s p b1 HS.out LN.out (by omega) (by omega) P1.out O1.out _).mono ?_
          rintro r w1 ⟨rfl, b1⟩
          have B1 : Below w.heap.size w w1 := btr B0 b1
          have Rz_1 := heap_of b1 _ _ _ Rz_0
          clear b1 B0 Rz_0
          obtain ⟨cz_1_0, cz_1_1, cz_1_2, cz_1_3⟩ := cells4s Rz_1
          go_wp2_with fail
          refine (nat_Right d (y : Int) t q b2 HT.out LD.out (by omega) (by omega) Q1.out O2.out _).mono ?_
          rintro r w2 ⟨rfl, b2⟩
          have B2 : Below w.heap.size w w2 := btr B1 b2
          have Rz_2 := heap_of b2 _ _ _ Rz_1
          clear b2 B1 Rz_1 cz_1_0 cz_1_1 cz_1_2 cz_1_3
          obtain ⟨cz_2_0, cz_2_1, cz_2_2, cz_2_3⟩ := cells4s Rz_2
          go_wp2_with fail
          refine (nat_Gcd (od n) (od d) p q h HP.out HQ.out L1.out L2.out HG.out _).mono ?_
          rintro r w3 ⟨rfl, b3⟩
          have B3 : Below w.heap.size w w3 := btr B2 b3
          have Rz_3 := heap_of b3 _ _ _ Rz_2
          clear b3 B2 Rz_2 cz_2_0 cz_2_1 cz_2_2 cz_2_3
          obtain ⟨cz_3_0, cz_3_1, cz_3_2, cz_3_3⟩ := cells4s Rz_3
          go_wp2_with fail
          refine (nat_Div (od n) gg p h un vn HP.out HH.out L1.out G0.out U1.out U3.out _).mono ?_
          rintro r w4 ⟨rfl, b4⟩
          have B4 : Below w.heap.size w w4 := btr B3 b4
          have Rz_4 := heap_of b4 _ _ _ Rz_3
          clear b4 B3 Rz_3 cz_3_0 cz_3_1 cz_3_2 cz_3_3
          obtain ⟨cz_4_0, cz_4_1, cz_4_2, cz_4_3⟩ := cells4s Rz_4
          go_wp2_with fail
          refine (nat_Div (od d) gg q h ud vd HQ.out HH.out L2.out G0.out U2.out U4.out _).mono ?_
          rintro r w5 ⟨rfl, b5⟩
          have B5 : Below w.heap.size w w5 := btr B4 b5
          have Rz_5 := heap_of b5 _ _ _ Rz_4
          clear b5 B4 Rz_4 cz_4_0 cz_4_1 cz_4_2 cz_4_3
          obtain ⟨cz_5_0, cz_5_1, cz_5_2, cz_5_3⟩ := cells4s Rz_5
          have q0 := fz (k := 0) Rz_5
          have q1 := fz (k := 1) Rz_5
          have q2 := fz (k := 2) Rz_5
          have q3 := fz (k := 3) Rz_5
          obtain ⟨E0, E1, E2, E3⟩ := set4_cells Rz_5 rfl (.bool false) (.string ⟨#[]⟩) (.string ⟨#[]⟩) (.int .i64 0)
          go_wp2
          exact bodyPost_ret (v := .tuple #[.agg #[.bool false, .string ⟨#[]⟩, .string ⟨#[]⟩, .int .i64 0], .int .i64 4]) (by simp [results, Tryz.results99, go_sem, E0, E1, E2, E3]) rfl ⟨rfl, set4_below B5 (by first | exact Nat.le_refl _ | omega | (skip; omega)) _ _ _ _⟩
        · obtain ⟨Rz_0, B0⟩ := opn1 w (Obj.cells #[.bool false, .string ⟨#[]⟩, .string ⟨#[]⟩, .int .i64 0] 70)
          go_enter Tryz.func99, Tryz.ntmps99
          go_wp2_with fail
          refine (nat_may s true H1.out _).mono ?_
          rintro r w' ⟨rfl, rfl⟩
          go_wp2_with fail
          refine (nat_may t true H2.out _).mono ?_
          rintro r w' ⟨rfl, rfl⟩
          go_wp2_with fail
          refine (nat_Low n x s HS.out LN.out LX.out _).mono ?_
          rintro r w' ⟨rfl, rfl⟩
          go_wp2_with fail
          refine (nat_Low d y t HT.out LD.out LY.out _).mono ?_
          rintro r w' ⟨rfl, rfl⟩
          go_wp2_with fail
          refine (nat_Right n (x : Int) s p b1 HS.out LN.out (by omega) (by omega) P1.out O1.out _).mono ?_
          rintro r w1 ⟨rfl, b1⟩
          have B1 : Below w.heap.size w w1 := btr B0 b1
          have Rz_1 := heap_of b1 _ _ _ Rz_0
          clear b1 B0 Rz_0
          obtain ⟨cz_1_0, cz_1_1, cz_1_2, cz_1_3⟩ := cells4s Rz_1
          go_wp2_with fail
          refine (nat_Right d (y : Int) t q b2 HT.out LD.out (by omega) (by omega) Q1.out O2.out _).mono ?_
          rintro r w2 ⟨rfl, b2⟩
          have B2 : Below w.heap.size w w2 := btr B1 b2
          have Rz_2 := heap_of b2 _ _ _ Rz_1
          clear b2 B1 Rz_1 cz_1_0 cz_1_1 cz_1_2 cz_1_3
          obtain ⟨cz_2_0, cz_2_1, cz_2_2, cz_2_3⟩ := cells4s Rz_2
          go_wp2_with fail
          refine (nat_Gcd (od n) (od d) p q h HP.out HQ.out L1.out L2.out HG.out _).mono ?_
          rintro r w3 ⟨rfl, b3⟩
          have B3 : Below w.heap.size w w3 := btr B2 b3
          have Rz_3 := heap_of b3 _ _ _ Rz_2
          clear b3 B2 Rz_2 cz_2_0 cz_2_1 cz_2_2 cz_2_3
          obtain ⟨cz_3_0, cz_3_1, cz_3_2, cz_3_3⟩ := cells4s Rz_3
          go_wp2_with fail
          refine (nat_Div (od n) gg p h un vn HP.out HH.out L1.out G0.out U1.out U3.out _).mono ?_
          rintro r w4 ⟨rfl, b4⟩
          have B4 : Below w.heap.size w w4 := btr B3 b4
          have Rz_4 := heap_of b4 _ _ _ Rz_3
          clear b4 B3 Rz_3 cz_3_0 cz_3_1 cz_3_2 cz_3_3
          obtain ⟨cz_4_0, cz_4_1, cz_4_2, cz_4_3⟩ := cells4s Rz_4
          go_wp2_with fail
          refine (nat_Div (od d) gg q h ud vd HQ.out HH.out L2.out G0.out U2.out U4.out _).mono ?_
          rintro r w5 ⟨rfl, b5⟩
          have B5 : Below w.heap.size w w5 := btr B4 b5
          have Rz_5 := heap_of b5 _ _ _ Rz_4
          clear b5 B4 Rz_4 cz_4_0 cz_4_1 cz_4_2 cz_4_3
          obtain ⟨cz_5_0, cz_5_1, cz_5_2, cz_5_3⟩ := cells4s Rz_5
          have q0 := fz (k := 0) Rz_5
          have q1 := fz (k := 1) Rz_5
          have q2 := fz (k := 2) Rz_5
          have q3 := fz (k := 3) Rz_5
          obtain ⟨E0, E1, E2, E3⟩ := set4_cells Rz_5 rfl (.bool false) (.string ⟨#[]⟩) (.string ⟨#[]⟩) (.int .i64 0)
          go_wp2
          exact bodyPost_ret (v := .tuple #[.agg #[.bool false, .string ⟨#[]⟩, .string ⟨#[]⟩, .int .i64 0], .int .i64 4]) (by simp [results, Tryz.results99, go_sem, E0, E1, E2, E3]) rfl ⟨rfl, set4_below B5 (by first | exact Nat.le_refl _ | omega | (skip; omega)) _ _ _ _⟩

end Go.Proofs.YtapikkbifdldfaaGreatDoor
namespace Go.Proofs.YtapikkbifdldfaaGreatDoor
set_option maxRecDepth 100000
set_option maxHeartbeats 40000000
set_option maxRecDepth 100000
open Go.RowKit WMath XMath
theorem lg_no' (n : Nat) (h : ¬ nl n ≤ 16384) : lg n = (⟨#[]⟩, 4) := by unfold lg; rw [if_neg h]
theorem mk_out (neg : Bool) (n d : Nat) (e : Int) (hn : n % 2 = 1) (hd : d % 2 = 1) (he : ¬ (-1048576 ≤ e ∧ e ≤ 1048576)) : XMath.mk neg n d e = (XZ, 4) := by
  unfold XMath.mk
  rw [if_neg (by omega), tz_odd n hn, tz_odd d hd, if_neg (by omega)]

set_option maxRecDepth 100000 in
set_option maxHeartbeats 2000000 in
theorem rMul_ok (b : Bool) (n d : Nat) (e : Int) (s t : ByteArray) (c : Bool) (m f : Nat) (g : Int) (p q : ByteArray) (rb : Bool) (rn rd : Nat) (re err : Int) (u v : ByteArray)
    (hs : nbA n = s) (ht : nbA d = t) (hp : nbA m = p) (hq : nbA f = q) (hx : (XN.mk b n d e).can) (hy : (XN.mk c m f g).can) (hr : mulX (XN.mk b n d e) (XN.mk c m f g) = (⟨rb, rn, rd, re⟩, err)) (hu : nbA rn = u) (hv : nbA rd = v) (w : World) :
    Calls Tryz.prog 53 #[.agg #[.bool b, .string s, .string t, .int .i64 e], .agg #[.bool c, .string p, .string q, .int .i64 g]] w fun r w' => r = .returned (.tuple #[.agg #[.bool rb, .string u, .string v, .int .i64 re], .int .i64 err]) ∧ Below w.heap.size w w' := by
  rcases x_cases hs ht hx with ⟨n0, rfl, rfl, rfl, rfl, rfl⟩ | ⟨n0, e0⟩
  · obtain ⟨rfl, rfl, rfl, rfl, rfl⟩ := x0_is (by rw [← hr]; unfold mulX; rw [if_pos (Or.inl n0)])
    rw [nbA_zero] at hu
    rw [nb1] at hv
    subst hu hv
    clear hs ht hp hq hx hy hr n0
    obtain ⟨Rx_0, Ry_0, Rz_0, B0⟩ := opn3 w (Obj.cells #[.bool false, .string ⟨#[]⟩, .string ⟨#[1]⟩, .int .i64 0] 70) (Obj.cells #[.bool c, .string p, .string q, .int .i64 g] 70) (Obj.cells #[.bool false, .string ⟨#[]⟩, .string ⟨#[]⟩, .int .i64 0] 70)
    go_enter Tryz.func53, Tryz.ntmps53
    go_wp2_with fail
    refine (xnull _).mono ?_
    rintro r w1 ⟨rfl, b1⟩
    have B1 : Below w.heap.size w w1 := btr B0 b1
    have Rx_1 := heap_of b1 _ _ _ Rx_0
    have Ry_1 := heap_of b1 _ _ _ Ry_0
    have Rz_1 := heap_of b1 _ _ _ Rz_0
    clear b1 B0 Rx_0 Ry_0 Rz_0
    obtain ⟨cx_1_0, cx_1_1, cx_1_2, cx_1_3⟩ := cells4s Rx_1
    obtain ⟨cy_1_0, cy_1_1, cy_1_2, cy_1_3⟩ := cells4s Ry_1
    obtain ⟨cz_1_0, cz_1_1, cz_1_2, cz_1_3⟩ := cells4s Rz_1
    have q0 := fz (k := 0) Rz_1
    have q1 := fz (k := 1) Rz_1
    have q2 := fz (k := 2) Rz_1
    have q3 := fz (k := 3) Rz_1
    obtain ⟨E0, E1, E2, E3⟩ := set4_cells Rz_1 rfl (.bool false) (.string ⟨#[]⟩) (.string ⟨#[1]⟩) (.int .i64 0)
    go_wp2
    exact bodyPost_ret (v := .tuple #[.agg #[.bool false, .string ⟨#[]⟩, .string ⟨#[1]⟩, .int .i64 0], .int .i64 0]) (by simp [results, Tryz.results53, go_sem, E0, E1, E2, E3]) rfl ⟨rfl, set4_below B1 (by first | exact Nat.le_refl _ | omega | (skip; omega)) _ _ _ _⟩
  · rcases x_cases hp hq hy with ⟨m0, rfl, rfl, rfl, rfl, rfl⟩ | ⟨m0, e1⟩
    · obtain ⟨rfl, rfl, rfl, rfl, rfl⟩ := x0_is (by rw [← hr]; unfold mulX; rw [if_pos (Or.inr m0)])
      rw [nbA_zero] at hu
      rw [nb1] at hv
      subst hu hv
      clear hs ht hp hq hx hy hr n0 m0
      obtain ⟨Rx_0, Ry_0, Rz_0, B0⟩ := opn3 w (Obj.cells #[.bool b, .string s, .string t, .int .i64 e] 70) (Obj.cells #[.bool false, .string ⟨#[]⟩, .string ⟨#[1]⟩, .int .i64 0] 70) (Obj.cells #[.bool false, .string ⟨#[]⟩, .string ⟨#[]⟩, .int .i64 0] 70)
      go_enter Tryz.func53, Tryz.ntmps53
      go_wp2_with fail
      refine (xnull _).mono ?_
      rintro r w1 ⟨rfl, b1⟩
      have B1 : Below w.heap.size w w1 := btr B0 b1
      have Rx_1 := heap_of b1 _ _ _ Rx_0
      have Ry_1 := heap_of b1 _ _ _ Ry_0
      have Rz_1 := heap_of b1 _ _ _ Rz_0
      clear b1 B0 Rx_0 Ry_0 Rz_0
      obtain ⟨cx_1_0, cx_1_1, cx_1_2, cx_1_3⟩ := cells4s Rx_1
      obtain ⟨cy_1_0, cy_1_1, cy_1_2, cy_1_3⟩ := cells4s Ry_1
      obtain ⟨cz_1_0, cz_1_1, cz_1_2, cz_1_3⟩ := cells4s Rz_1
      have q0 := fz (k := 0) Rz_1
      have q1 := fz (k := 1) Rz_1
      have q2 := fz (k := 2) Rz_1
      have q3 := fz (k := 3) Rz_1
      obtain ⟨E0, E1, E2, E3⟩ := set4_cells Rz_1 rfl (.bool false) (.string ⟨#[]⟩) (.string ⟨#[1]⟩) (.int .i64 0)
      go_wp2
      exact bodyPost_ret (v := .tuple #[.agg #[.bool false, .string ⟨#[]⟩, .string ⟨#[1]⟩, .int .i64 0], .int .i64 0]) (by simp [results, Tryz.results53, go_sem, E0, E1, E2, E3]) rfl ⟨rfl, set4_below B1 (by first | exact Nat.le_refl _ | omega | (skip; omega)) _ _ _ _⟩
    · have h3 : -1048576 ≤ e ∧ e ≤ 1048576 := ⟨hx.2.2.1, hx.2.2.2.1⟩
      have g3 : -1048576 ≤ g ∧ g ≤ 1048576 := ⟨hy.2.2.1, hy.2.2.2.1⟩
      obtain ⟨o1, o2, _⟩ := hx.odd n0
      obtain ⟨o3, o4, _⟩ := hy.odd m0
      have HS := box hs
      have HT := box ht
      have HP := box hp
      have HQ := box hq
      have LN : Box (nl n ≤ 20000) := box (by have : nl n ≤ 16384 := hx.1; omega)
      have LD : Box (nl d ≤ 20000) := box (by have : nl d ≤ 16384 := hx.2.1; omega)
      have LM : Box (nl m ≤ 20000) := box (by have : nl m ≤ 16384 := hy.1; omega)
      have LF : Box (nl f ≤ 20000) := box (by have : nl f ≤ 16384 := hy.2.1; omega)
      obtain ⟨E, hE⟩ : ∃ E, e + g = E := ⟨_, rfl⟩
      have n1 : IntKind.i64.wrap (e + g) = E := by rw [wrap_i64_is _ (by omega) (by omega), hE]
      have hr2 : (if nl (n * m) ≤ 16384 ∧ nl (d * f) ≤ 16384 then XMath.mk (b != c) (n * m) (d * f) E else (XZ, 4)) = (⟨rb, rn, rd, re⟩, err) := by
        rw [← hr, ← hE]
        unfold mulX
        rw [if_neg (show ¬ (n = 0 ∨ m = 0) by omega)]
      have oa := mul_odd _ _ o1 o3
      have ob := mul_odd _ _ o2 o4
      clear hr hE hx hy hs ht hp hq
      by_cases h1 : nl (n * m) ≤ 16384
      · obtain ⟨x, hx⟩ : ∃ x, nbA (n * m) = x := ⟨_, rfl⟩
        have HX := box (lg_ok (n * m) x h1 hx)
        by_cases h2 : nl (d * f) ≤ 16384
        · obtain ⟨y, hy⟩ : ∃ x, nbA (d * f) = x := ⟨_, rfl⟩
          have HY := box (lg_ok (d * f) y h2 hy)
          rw [if_pos ⟨h1, h2⟩] at hr2
          by_cases hin : -1048576 ≤ E ∧ E ≤ 1048576
          · have c1 : decide (E < -1048576) = false := decide_eq_false (by omega)
            have c2 : decide (1048576 < E) = false := decide_eq_false (by omega)
            have HF := box (fun w => rmake_ok (b != c) (n * m) (d * f) E x y rb rn rd re err u v hx hy h1 h2 (fun h => by rw [h] at ob; exact absurd ob (by decide)) hin.1 hin.2 hr2 hu hv w)
            clear hx hy h1 h2 hin hr2 hu hv oa ob n0 m0 h3 g3 o1 o2 o3 o4
            obtain ⟨Rx_0, Ry_0, Rz_0, B0⟩ := opn3 w (Obj.cells #[.bool b, .string s, .string t, .int .i64 e] 70) (Obj.cells #[.bool c, .string p, .string q, .int .i64 g] 70) (Obj.cells #[.bool false, .string ⟨#[]⟩, .string ⟨#[]⟩, .int .i64 0] 70)
            go_enter Tryz.func53, Tryz.ntmps53
            go_wp2_with fail
            refine (nat_Mul n m s p x 0 HS.out HP.out HX.out LN.out LM.out _).mono ?_
            rintro r w1 ⟨rfl, b1⟩
            have B1 : Below w.heap.size w w1 := btr B0 b1
            have Rx_1 := heap_of b1 _ _ _ Rx_0
            have Ry_1 := heap_of b1 _ _ _ Ry_0
            have Rz_1 := heap_of b1 _ _ _ Rz_0
            clear b1 B0 Rx_0 Ry_0 Rz_0
            obtain ⟨cx_1_0, cx_1_1, cx_1_2, cx_1_3⟩ := cells4s Rx_1
            obtain ⟨cy_1_0, cy_1_1, cy_1_2, cy_1_3⟩ := cells4s Ry_1
            obtain ⟨cz_1_0, cz_1_1, cz_1_2, cz_1_3⟩ := cells4s Rz_1
            go_wp2_with fail
            refine (nat_Mul d f t q y 0 HT.out HQ.out HY.out LD.out LF.out _).mono ?_
            rintro r w2 ⟨rfl, b2⟩
            have B2 : Below w.heap.size w w2 := btr B1 b2
            have Rx_2 := heap_of b2 _ _ _ Rx_1
            have Ry_2 := heap_of b2 _ _ _ Ry_1
            have Rz_2 := heap_of b2 _ _ _ Rz_1
            clear b2 B1 Rx_1 cx_1_0 cx_1_1 cx_1_2 cx_1_3 Ry_1 cy_1_0 cy_1_1 cy_1_2 cy_1_3 Rz_1 cz_1_0 cz_1_1 cz_1_2 cz_1_3
            obtain ⟨cx_2_0, cx_2_1, cx_2_2, cx_2_3⟩ := cells4s Rx_2
            obtain ⟨cy_2_0, cy_2_1, cy_2_2, cy_2_3⟩ := cells4s Ry_2
            obtain ⟨cz_2_0, cz_2_1, cz_2_2, cz_2_3⟩ := cells4s Rz_2
            go_wp2_with fail
            refine (HF.out _).mono ?_
            rintro r w3 ⟨rfl, b3⟩
            have B3 : Below w.heap.size w w3 := btr B2 b3
            have Rx_3 := heap_of b3 _ _ _ Rx_2
            have Ry_3 := heap_of b3 _ _ _ Ry_2
            have Rz_3 := heap_of b3 _ _ _ Rz_2
            clear b3 B2 Rx_2 cx_2_0 cx_2_1 cx_2_2 cx_2_3 Ry_2 cy_2_0 cy_2_1 cy_2_2 cy_2_3 Rz_2 cz_2_0 cz_2_1 cz_2_2 cz_2_3
            obtain ⟨cx_3_0, cx_3_1, cx_3_2, cx_3_3⟩ := cells4s Rx_3
            obtain ⟨cy_3_0, cy_3_1, cy_3_2, cy_3_3⟩ := cells4s Ry_3
            obtain ⟨cz_3_0, cz_3_1, cz_3_2, cz_3_3⟩ := cells4s Rz_3
            have q0 := fz (k := 0) Rz_3
            have q1 := fz (k := 1) Rz_3
            have q2 := fz (k := 2) Rz_3
            have q3 := fz (k := 3) Rz_3
            obtain ⟨E0, E1, E2, E3⟩ := set4_cells Rz_3 rfl (.bool rb) (.string u) (.string v) (.int .i64 re)
            go_wp2
            exact bodyPost_ret (v := .tuple #[.agg #[.bool rb, .string u, .string v, .int .i64 re], .int .i64 err]) (by simp [results, Tryz.results53, go_sem, E0, E1, E2, E3]) rfl ⟨rfl, set4_below B3 (by first | exact Nat.le_refl _ | omega | (skip; omega)) _ _ _ _⟩
          · rw [mk_out _ _ _ _ oa ob hin] at hr2
            obtain ⟨rfl, rfl, rfl, rfl, rfl⟩ := xz_is hr2
            rw [nbA_zero] at hu hv
            subst hu hv
            have c12 : decide (E < -1048576) = true ∨ (decide (E < -1048576) = false ∧ decide (1048576 < E) = true) := by
              by_cases hh : E < -1048576
              · exact Or.inl (decide_eq_true hh)
              · exact Or.inr ⟨decide_eq_false hh, decide_eq_true (by omega)⟩
            clear hx hy h1 h2 hin hr2 oa ob n0 m0 h3 g3 o1 o2 o3 o4
            rcases c12 with c1 | ⟨c1, c2⟩
            · obtain ⟨Rx_0, Ry_0, Rz_0, B0⟩ := opn3 w (Obj.cells #[.bool b, .string s, .string t, .int .i64 e] 70) (Obj.cells #[.bool c, .string p, .string q, .int .i64 g] 70) (Obj.cells #[.bool false, .string ⟨#[]⟩, .string ⟨#[]⟩, .int .i64 0] 70)
              go_enter Tryz.func53, Tryz.ntmps53
              go_wp2_with fail
              refine (nat_Mul n m s p x 0 HS.out HP.out HX.out LN.out LM.out _).mono ?_
              rintro r w1 ⟨rfl, b1⟩
              have B1 : Below w.heap.size w w1 := btr B0 b1
              have Rx_1 := heap_of b1 _ _ _ Rx_0
              have Ry_1 := heap_of b1 _ _ _ Ry_0
              have Rz_1 := heap_of b1 _ _ _ Rz_0
              clear b1 B0 Rx_0 Ry_0 Rz_0
              obtain ⟨cx_1_0, cx_1_1, cx_1_2, cx_1_3⟩ := cells4s Rx_1
              obtain ⟨cy_1_0, cy_1_1, cy_1_2, cy_1_3⟩ := cells4s Ry_1
              obtain ⟨cz_1_0, cz_1_1, cz_1_2, cz_1_3⟩ := cells4s Rz_1
              go_wp2_with fail
              refine (nat_Mul d f t q y 0 HT.out HQ.out HY.out LD.out LF.out _).mono ?_
              rintro r w2 ⟨rfl, b2⟩
              have B2 : Below w.heap.size w w2 := btr B1 b2
              have Rx_2 := heap_of b2 _ _ _ Rx_1
              have Ry_2 := heap_of b2 _ _ _ Ry_1
              have Rz_2 := heap_of b2 _ _ _ Rz_1
              clear b2 B1 Rx_1 cx_1_0 cx_1_1 cx_1_2 cx_1_3 Ry_1 cy_1_0 cy_1_1 cy_1_2 cy_1_3 Rz_1 cz_1_0 cz_1_1 cz_1_2 cz_1_3
              obtain ⟨cx_2_0, cx_2_1, cx_2_2, cx_2_3⟩ := cells4s Rx_2
              obtain ⟨cy_2_0, cy_2_1, cy_2_2, cy_2_3⟩ := cells4s Ry_2
              obtain ⟨cz_2_0, cz_2_1, cz_2_2, cz_2_3⟩ := cells4s Rz_2
              have q0 := fz (k := 0) Rz_2
              have q1 := fz (k := 1) Rz_2
              have q2 := fz (k := 2) Rz_2
              have q3 := fz (k := 3) Rz_2
              obtain ⟨E0, E1, E2, E3⟩ := set4_cells Rz_2 rfl (.bool false) (.string ⟨#[]⟩) (.string ⟨#[]⟩) (.int .i64 0)
              go_wp2
              exact bodyPost_ret (v := .tuple #[.agg #[.bool false, .string ⟨#[]⟩, .string ⟨#[]⟩, .int .i64 0], .int .i64 4]) (by simp [results, Tryz.results53, go_sem, E0, E1, E2, E3]) rfl ⟨rfl, set4_below B2 (by first | exact Nat.le_refl _ | omega | (skip; omega)) _ _ _ _⟩
            · obtain ⟨Rx_0, Ry_0, Rz_0, B0⟩ := opn3 w (Obj.cells #[.bool b, .string s, .string t, .int .i64 e] 70) (Obj.cells #[.bool c, .string p, .string q, .int .i64 g] 70) (Obj.cells #[.bool false, .string ⟨#[]⟩, .string ⟨#[]⟩, .int .i64 0] 70)
              go_enter Tryz.func53, Tryz.ntmps53
              go_wp2_with fail
              refine (nat_Mul n m s p x 0 HS.out HP.out HX.out LN.out LM.out _).mono ?_
              rintro r w1 ⟨rfl, b1⟩
              have B1 : Below w.heap.size w w1 := btr B0 b1
              have Rx_1 := heap_of b1 _ _ _ Rx_0
              have Ry_1 := heap_of b1 _ _ _ Ry_0
              have Rz_1 := heap_of b1 _ _ _ Rz_0
              clear b1 B0 Rx_0 Ry_0 Rz_0
              obtain ⟨cx_1_0, cx_1_1, cx_1_2, cx_1_3⟩ := cells4s Rx_1
              obtain ⟨cy_1_0, cy_1_1, cy_1_2, cy_1_3⟩ := cells4s Ry_1
              obtain ⟨cz_1_0, cz_1_1, cz_1_2, cz_1_3⟩ := cells4s Rz_1
              go_wp2_with fail
              refine (nat_Mul d f t q y 0 HT.out HQ.out HY.out LD.out LF.out _).mono ?_
              rintro r w2 ⟨rfl, b2⟩
              have B2 : Below w.heap.size w w2 := btr B1 b2
              have Rx_2 := heap_of b2 _ _ _ Rx_1
              have Ry_2 := heap_of b2 _ _ _ Ry_1
              have Rz_2 := heap_of b2 _ _ _ Rz_1
              clear b2 B1 Rx_1 cx_1_0 cx_1_1 cx_1_2 cx_1_3 Ry_1 cy_1_0 cy_1_1 cy_1_2 cy_1_3 Rz_1 cz_1_0 cz_1_1 cz_1_2 cz_1_3
              obtain ⟨cx_2_0, cx_2_1, cx_2_2, cx_2_3⟩ := cells4s Rx_2
              obtain ⟨cy_2_0, cy_2_1, cy_2_2, cy_2_3⟩ := cells4s Ry_2
              obtain ⟨cz_2_0, cz_2_1, cz_2_2, cz_2_3⟩ := cells4s Rz_2
              have q0 := fz (k := 0) Rz_2
              have q1 := fz (k := 1) Rz_2
              have q2 := fz (k := 2) Rz_2
              have q3 := fz (k := 3) Rz_2
              obtain ⟨E0, E1, E2, E3⟩ := set4_cells Rz_2 rfl (.bool false) (.string ⟨#[]⟩) (.string ⟨#[]⟩) (.int .i64 0)
              go_wp2
              exact bodyPost_ret (v := .tuple #[.agg #[.bool false, .string ⟨#[]⟩, .string ⟨#[]⟩, .int .i64 0], .int .i64 4]) (by simp [results, Tryz.results53, go_sem, E0, E1, E2, E3]) rfl ⟨rfl, set4_below B2 (by first | exact Nat.le_refl _ | omega | (skip; omega)) _ _ _ _⟩
        · have HY := box (lg_no' (d * f) h2)
          rw [if_neg (fun h => h2 h.2)] at hr2
          obtain ⟨rfl, rfl, rfl, rfl, rfl⟩ := xz_is hr2
          rw [nbA_zero] at hu hv
          subst hu hv
          clear hx h1 h2 hr2 oa ob n0 m0 h3 g3 o1 o2 o3 o4
          obtain ⟨Rx_0, Ry_0, Rz_0, B0⟩ := opn3 w (Obj.cells #[.bool b, .string s, .string t, .int .i64 e] 70) (Obj.cells #[.bool c, .string p, .string q, .int .i64 g] 70) (Obj.cells #[.bool false, .string ⟨#[]⟩, .string ⟨#[]⟩, .int .i64 0] 70)
          go_enter Tryz.func53, Tryz.ntmps53
          go_wp2_with fail
          refine (nat_Mul n m s p x 0 HS.out HP.out HX.out LN.out LM.out _).mono ?_
          rintro r w1 ⟨rfl, b1⟩
          have B1 : Below w.heap.size w w1 := btr B0 b1
          have Rx_1 := heap_of b1 _ _ _ Rx_0
          have Ry_1 := heap_of b1 _ _ _ Ry_0
          have Rz_1 := heap_of b1 _ _ _ Rz_0
          clear b1 B0 Rx_0 Ry_0 Rz_0
          obtain ⟨cx_1_0, cx_1_1, cx_1_2, cx_1_3⟩ := cells4s Rx_1
          obtain ⟨cy_1_0, cy_1_1, cy_1_2, cy_1_3⟩ := cells4s Ry_1
          obtain ⟨cz_1_0, cz_1_1, cz_1_2, cz_1_3⟩ := cells4s Rz_1
          go_wp2_with fail
          refine (nat_Mul d f t q _ 4 HT.out HQ.out HY.out LD.out LF.out _).mono ?_
          rintro r w2 ⟨rfl, b2⟩
          have B2 : Below w.heap.size w w2 := btr B1 b2
          have Rx_2 := heap_of b2 _ _ _ Rx_1
          have Ry_2 := heap_of b2 _ _ _ Ry_1
          have Rz_2 := heap_of b2 _ _ _ Rz_1
          clear b2 B1 Rx_1 cx_1_0 cx_1_1 cx_1_2 cx_1_3 Ry_1 cy_1_0 cy_1_1 cy_1_2 cy_1_3 Rz_1 cz_1_0 cz_1_1 cz_1_2 cz_1_3
          obtain ⟨cx_2_0, cx_2_1, cx_2_2, cx_2_3⟩ := cells4s Rx_2
          obtain ⟨cy_2_0, cy_2_1, cy_2_2, cy_2_3⟩ := cells4s Ry_2
          obtain ⟨cz_2_0, cz_2_1, cz_2_2, cz_2_3⟩ := cells4s Rz_2
          have q0 := fz (k := 0) Rz_2
          have q1 := fz (k := 1) Rz_2
          have q2 := fz (k := 2) Rz_2
          have q3 := fz (k := 3) Rz_2
          obtain ⟨E0, E1, E2, E3⟩ := set4_cells Rz_2 rfl (.bool false) (.string ⟨#[]⟩) (.string ⟨#[]⟩) (.int .i64 0)
          go_wp2
          exact bodyPost_ret (v := .tuple #[.agg #[.bool false, .string ⟨#[]⟩, .string ⟨#[]⟩, .int .i64 0], .int .i64 4]) (by simp [results, Tryz.results53, go_sem, E0, E1, E2, E3]) rfl ⟨rfl, set4_below B2 (by first | exact Nat.le_refl _ | omega | (skip; omega)) _ _ _ _⟩
      · have HX := box (lg_no' (n * m) h1)
        obtain ⟨y, ff, hy⟩ : ∃ y ff, lg (d * f) = (y, ff) := ⟨_, _, rfl⟩
        have HY := box hy
        rw [if_neg (fun h => h1 h.1)] at hr2
        obtain ⟨rfl, rfl, rfl, rfl, rfl⟩ := xz_is hr2
        rw [nbA_zero] at hu hv
        subst hu hv
        clear hy h1 hr2 oa ob n0 m0 h3 g3 o1 o2 o3 o4
        obtain ⟨Rx_0, Ry_0, Rz_0, B0⟩ := opn3 w (Obj.cells #[.bool b, .string s, .string t, .int .i64 e] 70) (Obj.cells #[.bool c, .string p, .string q, .int .i64 g] 70) (Obj.cells #[.bool false, .string ⟨#[]⟩, .string ⟨#[]⟩, .int .i64 0] 70)
        go_enter Tryz.func53, Tryz.ntmps53
        go_wp2_with fail
        refine (nat_Mul n m s p _ 4 HS.out HP.out HX.out LN.out LM.out _).mono ?_
        rintro r w1 ⟨rfl, b1⟩
        have B1 : Below w.heap.size w w1 := btr B0 b1
        have Rx_1 := heap_of b1 _ _ _ Rx_0
        have Ry_1 := heap_of b1 _ _ _ Ry_0
        have Rz_1 := heap_of b1 _ _ _ Rz_0
        clear b1 B0 Rx_0 Ry_0 Rz_0
        obtain ⟨cx_1_0, cx_1_1, cx_1_2, cx_1_3⟩ := cells4s Rx_1
        obtain ⟨cy_1_0, cy_1_1, cy_1_2, cy_1_3⟩ := cells4s Ry_1
        obtain ⟨cz_1_0, cz_1_1, cz_1_2, cz_1_3⟩ := cells4s Rz_1
        go_wp2_with fail
        refine (nat_Mul d f t q y ff HT.out HQ.out HY.out LD.out LF.out _).mono ?_
        rintro r w2 ⟨rfl, b2⟩
        have B2 : Below w.heap.size w w2 := btr B1 b2
        have Rx_2 := heap_of b2 _ _ _ Rx_1
        have Ry_2 := heap_of b2 _ _ _ Ry_1
        have Rz_2 := heap_of b2 _ _ _ Rz_1
        clear b2 B1 Rx_1 cx_1_0 cx_1_1 cx_1_2 cx_1_3 Ry_1 cy_1_0 cy_1_1 cy_1_2 cy_1_3 Rz_1 cz_1_0 cz_1_1 cz_1_2 cz_1_3
        obtain ⟨cx_2_0, cx_2_1, cx_2_2, cx_2_3⟩ := cells4s Rx_2
        obtain ⟨cy_2_0, cy_2_1, cy_2_2, cy_2_3⟩ := cells4s Ry_2
        obtain ⟨cz_2_0, cz_2_1, cz_2_2, cz_2_3⟩ := cells4s Rz_2
        have q0 := fz (k := 0) Rz_2
        have q1 := fz (k := 1) Rz_2
        have q2 := fz (k := 2) Rz_2
        have q3 := fz (k := 3) Rz_2
        obtain ⟨E0, E1, E2, E3⟩ := set4_cells Rz_2 rfl (.bool false) (.string ⟨#[]⟩) (.string ⟨#[]⟩) (.int .i64 0)
        go_wp2
        exact bodyPost_ret (v := .tuple #[.agg #[.bool false, .string ⟨#[]⟩, .string ⟨#[]⟩, .int .i64 0], .int .i64 4]) (by simp [results, Tryz.results53, go_sem, E0, E1, E2, E3]) rfl ⟨rfl, set4_below B2 (by first | exact Nat.le_refl _ | omega | (skip; omega)) _ _ _ _⟩

theorem below_top (x : XN) (k : Int) (i : Nat) (hx : x.can) (hk : x.e + (i : Int) = k) (h : (2 : Rat) ^ k ≤ x.mag) : x.d * 2 ^ i ≤ x.n := by
  have d0 := hx.d0
  have m := Rat.mul_le_mul_of_nonneg_right h (Rat.le_of_lt (cast_pos d0))
  have e1 : x.mag * (x.d : Rat) = (x.n : Rat) * (2 : Rat) ^ x.e := by
    unfold XN.mag
    have z := cast_ne d0
    grind
  have e2 : (2 : Rat) ^ k * (x.d : Rat) = ((x.d * 2 ^ i : Nat) : Rat) * (2 : Rat) ^ x.e := by
    rw [← hk, p2add, Rat.natCast_mul, ← p2nat]
    grind
  rw [e1, e2] at m
  have m2 := Rat.le_of_mul_le_mul_right m (p2 x.e)
  exact Rat.natCast_le_natCast.1 m2
theorem rshifted (a k : Nat) (s v : ByteArray) (hs : nbA a = s) (ha : nl a ≤ 16384) (k2 : k ≤ 1000000) (h : nl (a * 2 ^ k) ≤ 16384) (hv : nbA (a * 2 ^ k) = v) (w : World) : Calls Tryz.prog 214 #[.string s, .int .i64 (k : Int)] w fun r w' => r = .returned (.string v) ∧ Below w.heap.size w w' := by
  have F1 := box (lf_up a k v h hv)
  have HS := box hs
  have HA := box ha
  clear hs ha h hv
  have B0 : Below w.heap.size w w := (Below.refl _ _)
  go_enter Tryz.func214, Tryz.ntmps214
  go_wp2_with fail
  refine (nat_Left a (k : Int) s v 0 HS.out HA.out (by omega) F1.out _).mono ?_
  rintro r w1 ⟨rfl, b1⟩
  have B1 : Below w.heap.size w w1 := btr B0 b1
  clear b1 B0 
  go_wp2
  go_ret
  exact ⟨rfl, B1⟩

set_option maxRecDepth 100000 in
set_option maxHeartbeats 2000000 in
theorem rTop_ok (b : Bool) (n d : Nat) (e : Int) (s t : ByteArray) (T : Int) (hs : nbA n = s) (ht : nbA d = t) (n0 : n ≠ 0) (hc : (XN.mk b n d e).can) (hr : topX (XN.mk b n d e) = T) (w : World) : Calls Tryz.prog 199 #[.agg #[.bool b, .string s, .string t, .int .i64 e]] w fun r w' => r = .returned (.tuple #[.int .i64 T, .int .i64 0]) ∧ Below w.heap.size w w' := by
  have e0 := eq_nil n s hs n0
  have d0 : d ≠ 0 := hc.d0
  have ln : nl n ≤ 16384 := hc.1
  have ld : nl d ≤ 16384 := hc.2.1
  have he : -1048576 ≤ e ∧ e ≤ 1048576 := ⟨hc.2.2.1, hc.2.2.2.1⟩
  obtain ⟨l1, l2⟩ := tAB_nl (XN.mk b n d e) n0 d0 ln ld
  obtain ⟨x, hx⟩ : ∃ x, blen n = x := ⟨_, rfl⟩
  obtain ⟨y, hy⟩ : ∃ x, blen d = x := ⟨_, rfl⟩
  have x2 : x ≤ 131072 := by unfold nl at ln; omega
  have y2 : y ≤ 131072 := by unfold nl at ld; omega
  have HS := box hs
  have HT := box ht
  have LN := box ln
  have LD := box ld
  have HX := box hx
  have HY := box hy
  by_cases hk0 : y ≤ x
  · obtain ⟨k, hk⟩ : ∃ k : Nat, x - y = k := ⟨_, rfl⟩
    have hlen : lenD (XN.mk b n d e) = (k : Int) := by unfold lenD; show (blen n : Int) - (blen d : Int) = k; rw [hx, hy]; omega
    have eA : tA (XN.mk b n d e) = n := by unfold tA; rw [hlen, show (max (-(k : Int)) 0).toNat = 0 by omega, Nat.pow_zero, Nat.mul_one]
    have eB : tB (XN.mk b n d e) = d * 2 ^ k := by unfold tB; rw [hlen, show (max (k : Int) 0).toNat = k by omega]
    rw [eB] at l2
    obtain ⟨q, hq⟩ : ∃ p, nbA (d * 2 ^ k) = p := ⟨_, rfl⟩
    obtain ⟨c, hcm⟩ : ∃ c, cmpv n (d * 2 ^ k) = c := ⟨_, rfl⟩
    have HF := box (fun w => rshifted d k t q ht ld (by omega) l2 hq w)
    have HQ := box hq
    have HC := box hcm
    have m1 : IntKind.i64.wrap ((x : Int) - (y : Int)) = (k : Int) := by rw [wrap_i64_is _ (by omega) (by omega)]; omega
    have m5 : IntKind.i64.wrap ((k : Int) - 1) = (k : Int) - 1 := wrap_i64_is _ (by omega) (by omega)
    have m6 : IntKind.i64.wrap ((k : Int) - 1 + e) = (k : Int) - 1 + e := wrap_i64_is _ (by omega) (by omega)
    have m7 : IntKind.i64.wrap ((k : Int) + e) = (k : Int) + e := wrap_i64_is _ (by omega) (by omega)
    have g0 : decide ((0 : Int) ≤ (k : Int)) = true := decide_eq_true (by omega)
    have hT2 : T = (if n < d * 2 ^ k then (k : Int) - 1 else (k : Int)) + e := by rw [← hr]; unfold topX; rw [eA, eB, hlen]
    by_cases hl : n < d * 2 ^ k
    · rw [if_pos hl] at hT2
      have g1 : decide ((0 : Int) ≤ c) = false := decide_eq_false (by have := (cmpv_neg n (d * 2 ^ k)).2 hl; omega)
      subst hT2
      clear hs ht hc hr n0 d0 ln ld he l1 l2 hx hy hk0 hk hlen eA eB hq hcm hl
      obtain ⟨Rx_0, B0⟩ := opn1 w (Obj.cells #[.bool b, .string s, .string t, .int .i64 e] 70)
      go_enter Tryz.func199, Tryz.ntmps199
      go_wp2_with fail
      go_quiet (fail)
      obtain ⟨w1, hw, B1, hh⟩ := quiet_world B0 nq
      rw [hw]
      have Rx_1 : w1.heap[w.heap.size]? = some (Obj.cells #[.bool b, .string s, .string t, .int .i64 e] 70) := by rw [hh]; exact Rx_0
      clear hw hh B0 Rx_0
      obtain ⟨cx_1_0, cx_1_1, cx_1_2, cx_1_3⟩ := cells4s Rx_1
      go_wp2_with fail
      refine (nat_Len n x s HS.out LN.out HX.out _).mono ?_
      rintro r w' ⟨rfl, rfl⟩
      go_wp2_with fail
      refine (nat_Len d y t HT.out LD.out HY.out _).mono ?_
      rintro r w' ⟨rfl, rfl⟩
      go_wp2_with fail
      refine (HF.out _).mono ?_
      rintro r w2 ⟨rfl, b2⟩
      have B2 : Below w.heap.size w w2 := btr B1 b2
      have Rx_2 := heap_of b2 _ _ _ Rx_1
      clear b2 B1 Rx_1 cx_1_0 cx_1_1 cx_1_2 cx_1_3
      obtain ⟨cx_2_0, cx_2_1, cx_2_2, cx_2_3⟩ := cells4s Rx_2
      go_wp2_with fail
      refine (nat_cmp n (d * 2 ^ k) s q c HS.out HQ.out HC.out _).mono ?_
      rintro r w' ⟨rfl, rfl⟩
      go_wp2
      go_ret2
      exact ⟨rfl, B2⟩
    · rw [if_neg hl] at hT2
      have g1 : decide ((0 : Int) ≤ c) = true := decide_eq_true (by have := mt (cmpv_neg n (d * 2 ^ k)).1 hl; omega)
      subst hT2
      clear hs ht hc hr n0 d0 ln ld he l1 l2 hx hy hk0 hk hlen eA eB hq hcm hl
      obtain ⟨Rx_0, B0⟩ := opn1 w (Obj.cells #[.bool b, .string s, .string t, .int .i64 e] 70)
      go_enter Tryz.func199, Tryz.ntmps199
      go_wp2_with fail
      go_quiet (fail)
      obtain ⟨w1, hw, B1, hh⟩ := quiet_world B0 nq
      rw [hw]
      have Rx_1 : w1.heap[w.heap.size]? = some (Obj.cells #[.bool b, .string s, .string t, .int .i64 e] 70) := by rw [hh]; exact Rx_0
      clear hw hh B0 Rx_0
      obtain ⟨cx_1_0, cx_1_1, cx_1_2, cx_1_3⟩ := cells4s Rx_1
      go_wp2_with fail
      refine (nat_Len n x s HS.out LN.out HX.out _).mono ?_
      rintro r w' ⟨rfl, rfl⟩
      go_wp2_with fail
      refine (nat_Len d y t HT.out LD.out HY.out _).mono ?_
      rintro r w' ⟨rfl, rfl⟩
      go_wp2_with fail
      refine (HF.out _).mono ?_
      rintro r w2 ⟨rfl, b2⟩
      have B2 : Below w.heap.size w w2 := btr B1 b2
      have Rx_2 := heap_of b2 _ _ _ Rx_1
      clear b2 B1 Rx_1 cx_1_0 cx_1_1 cx_1_2 cx_1_3
      obtain ⟨cx_2_0, cx_2_1, cx_2_2, cx_2_3⟩ := cells4s Rx_2
      go_wp2_with fail
      refine (nat_cmp n (d * 2 ^ k) s q c HS.out HQ.out HC.out _).mono ?_
      rintro r w' ⟨rfl, rfl⟩
      go_wp2
      go_ret2
      exact ⟨rfl, B2⟩
  · obtain ⟨k, hk⟩ : ∃ k : Nat, y - x = k := ⟨_, rfl⟩
    have k1 : 1 ≤ k := by omega
    have hlen : lenD (XN.mk b n d e) = -(k : Int) := by unfold lenD; show (blen n : Int) - (blen d : Int) = -(k : Int); rw [hx, hy]; omega
    have eA : tA (XN.mk b n d e) = n * 2 ^ k := by unfold tA; rw [hlen, show (max (- -(k : Int)) 0).toNat = k by omega]
    have eB : tB (XN.mk b n d e) = d := by unfold tB; rw [hlen, show (max (-(k : Int)) 0).toNat = 0 by omega, Nat.pow_zero, Nat.mul_one]
    rw [eA] at l1
    obtain ⟨q, hq⟩ : ∃ p, nbA (n * 2 ^ k) = p := ⟨_, rfl⟩
    obtain ⟨c, hcm⟩ : ∃ c, cmpv (n * 2 ^ k) d = c := ⟨_, rfl⟩
    have HF := box (fun w => rshifted n k s q hs ln (by omega) l1 hq w)
    have HQ := box hq
    have HC := box hcm
    obtain ⟨K, hK⟩ : ∃ K : Int, -(k : Int) = K := ⟨_, rfl⟩
    have m1 : IntKind.i64.wrap ((x : Int) - (y : Int)) = K := by rw [wrap_i64_is _ (by omega) (by omega)]; omega
    have m2 : IntKind.i64.wrap (-K) = (k : Int) := by rw [wrap_i64_is _ (by omega) (by omega)]; omega
    have m5 : IntKind.i64.wrap (K - 1) = K - 1 := wrap_i64_is _ (by omega) (by omega)
    have m6 : IntKind.i64.wrap (K - 1 + e) = K - 1 + e := wrap_i64_is _ (by omega) (by omega)
    have m7 : IntKind.i64.wrap (K + e) = K + e := wrap_i64_is _ (by omega) (by omega)
    have g0 : decide ((0 : Int) ≤ K) = false := decide_eq_false (by omega)
    have hT2 : T = (if n * 2 ^ k < d then K - 1 else K) + e := by rw [← hr]; unfold topX; rw [eA, eB, hlen, hK]
    by_cases hl : n * 2 ^ k < d
    · rw [if_pos hl] at hT2
      have g1 : decide ((0 : Int) ≤ c) = false := decide_eq_false (by have := (cmpv_neg (n * 2 ^ k) d).2 hl; omega)
      subst hT2
      clear hs ht hc hr n0 d0 ln ld he l1 l2 hx hy hk0 hk hlen eA eB hq hcm hl hK
      obtain ⟨Rx_0, B0⟩ := opn1 w (Obj.cells #[.bool b, .string s, .string t, .int .i64 e] 70)
      go_enter Tryz.func199, Tryz.ntmps199
      go_wp2_with fail
      go_quiet (fail)
      obtain ⟨w1, hw, B1, hh⟩ := quiet_world B0 nq
      rw [hw]
      have Rx_1 : w1.heap[w.heap.size]? = some (Obj.cells #[.bool b, .string s, .string t, .int .i64 e] 70) := by rw [hh]; exact Rx_0
      clear hw hh B0 Rx_0
      obtain ⟨cx_1_0, cx_1_1, cx_1_2, cx_1_3⟩ := cells4s Rx_1
      go_wp2_with fail
      refine (nat_Len n x s HS.out LN.out HX.out _).mono ?_
      rintro r w' ⟨rfl, rfl⟩
      go_wp2_with fail
      refine (nat_Len d y t HT.out LD.out HY.out _).mono ?_
      rintro r w' ⟨rfl, rfl⟩
      go_wp2_with fail
      refine (HF.out _).mono ?_
      rintro r w2 ⟨rfl, b2⟩
      have B2 : Below w.heap.size w w2 := btr B1 b2
      have Rx_2 := heap_of b2 _ _ _ Rx_1
      clear b2 B1 Rx_1 cx_1_0 cx_1_1 cx_1_2 cx_1_3
      obtain ⟨cx_2_0, cx_2_1, cx_2_2, cx_2_3⟩ := cells4s Rx_2
      go_wp2_with fail
      refine (nat_cmp (n * 2 ^ k) d q t c HQ.out HT.out HC.out _).mono ?_
      rintro r w' ⟨rfl, rfl⟩
      go_wp2
      go_ret2
      exact ⟨rfl, B2⟩
    · rw [if_neg hl] at hT2
      have g1 : decide ((0 : Int) ≤ c) = true := decide_eq_true (by have := mt (cmpv_neg (n * 2 ^ k) d).1 hl; omega)
      subst hT2
      clear hs ht hc hr n0 d0 ln ld he l1 l2 hx hy hk0 hk hlen eA eB hq hcm hl hK
      obtain ⟨Rx_0, B0⟩ := opn1 w (Obj.cells #[.bool b, .string s, .string t, .int .i64 e] 70)
      go_enter Tryz.func199, Tryz.ntmps199
      go_wp2_with fail
      go_quiet (fail)
      obtain ⟨w1, hw, B1, hh⟩ := quiet_world B0 nq
      rw [hw]
      have Rx_1 : w1.heap[w.heap.size]? = some (Obj.cells #[.bool b, .string s, .string t, .int .i64 e] 70) := by rw [hh]; exact Rx_0
      clear hw hh B0 Rx_0
      obtain ⟨cx_1_0, cx_1_1, cx_1_2, cx_1_3⟩ := cells4s Rx_1
      go_wp2_with fail
      refine (nat_Len n x s HS.out LN.out HX.out _).mono ?_
      rintro r w' ⟨rfl, rfl⟩
      go_wp2_with fail
      refine (nat_Len d y t HT.out LD.out HY.out _).mono ?_
      rintro r w' ⟨rfl, rfl⟩
      go_wp2_with fail
      refine (HF.out _).mono ?_
      rintro r w2 ⟨rfl, b2⟩
      have B2 : Below w.heap.size w w2 := btr B1 b2
      have Rx_2 := heap_of b2 _ _ _ Rx_1
      clear b2 B1 Rx_1 cx_1_0 cx_1_1 cx_1_2 cx_1_3
      obtain ⟨cx_2_0, cx_2_1, cx_2_2, cx_2_3⟩ := cells4s Rx_2
      go_wp2_with fail
      refine (nat_cmp (n * 2 ^ k) d q t c HQ.out HT.out HC.out _).mono ?_
      rintro r w' ⟨rfl, rfl⟩
      go_wp2
      go_ret2
      exact ⟨rfl, B2⟩
set_option maxRecDepth 100000 in
set_option maxHeartbeats 2000000 in
theorem rFloor_ok (b : Bool) (n d : Nat) (e : Int) (s t : ByteArray) (k : Int) (m : Nat) (is : Bool) (err : Int) (v : ByteArray) (hs : nbA n = s) (ht : nbA d = t) (hc : (XN.mk b n d e).can) (k1 : -9223372036854775808 ≤ k) (k2 : k ≤ 9223372036854775807)
    (hr : flX (XN.mk b n d e) k = ((m, is), err)) (hv : nbA m = v) (w : World) : Calls Tryz.prog 201 #[.agg #[.bool b, .string s, .string t, .int .i64 e], .int .i64 k] w fun r w' => r = .returned (.tuple #[.string v, .bool is, .int .i64 err]) ∧ Below w.heap.size w w' := by
  unfold flX at hr
  by_cases hk : k < -2097152 ∨ 2097152 < k
  · rw [if_pos hk] at hr
    cases hr
    rw [nbA_zero] at hv
    subst hv
    have c12 : decide (k < -2097152) = true ∨ (decide (k < -2097152) = false ∧ decide (2097152 < k) = true) := by
      by_cases hh : k < -2097152
      · exact Or.inl (decide_eq_true hh)
      · exact Or.inr ⟨decide_eq_false hh, decide_eq_true (by omega)⟩
    clear hs ht hc k1 k2 hk
    rcases c12 with c1 | ⟨c1, c2⟩
    · obtain ⟨Rx_0, B0⟩ := opn1 w (Obj.cells #[.bool b, .string s, .string t, .int .i64 e] 70)
      go_enter Tryz.func201, Tryz.ntmps201
      go_wp2
      go_ret3
      exact ⟨rfl, B0⟩
    · obtain ⟨Rx_0, B0⟩ := opn1 w (Obj.cells #[.bool b, .string s, .string t, .int .i64 e] 70)
      go_enter Tryz.func201, Tryz.ntmps201
      go_wp2
      go_ret3
      exact ⟨rfl, B0⟩
  rw [if_neg hk] at hr
  have c1 : decide (k < -2097152) = false := decide_eq_false (by omega)
  have c2 : decide (2097152 < k) = false := decide_eq_false (by omega)
  rcases x_cases hs ht hc with ⟨n0, rfl, rfl, rfl, rfl, rfl⟩ | ⟨n0, e0⟩
  · rw [if_pos n0] at hr
    cases hr
    rw [nbA_zero] at hv
    subst hv
    clear hs ht hc k1 k2 hk n0
    obtain ⟨Rx_0, B0⟩ := opn1 w (Obj.cells #[.bool false, .string ⟨#[]⟩, .string ⟨#[1]⟩, .int .i64 0] 70)
    go_enter Tryz.func201, Tryz.ntmps201
    go_wp2
    go_ret3
    exact ⟨rfl, B0⟩
  rw [if_neg n0] at hr
  have he : -1048576 ≤ e ∧ e ≤ 1048576 := ⟨hc.2.2.1, hc.2.2.2.1⟩
  have HS := box hs
  have HT := box ht
  have LN := box hc.1
  have LD := box hc.2.1
  have D0 := box hc.d0
  by_cases hek : k ≤ e
  · rw [if_pos hek] at hr
    obtain ⟨i, hi⟩ : ∃ i, (e - k).toNat = i := ⟨_, rfl⟩
    have m1 : IntKind.i64.wrap (e - k) = (i : Int) := by rw [wrap_i64_is _ (by omega) (by omega)]; omega
    have hr2 : (if nl (n * 2 ^ i) ≤ 16384 then ((n * 2 ^ i / d, decide (n * 2 ^ i % d = 0)), (0 : Int)) else ((0, false), 4)) = ((m, is), err) := by rw [← hi]; exact hr
    have d2 : decide (k ≤ e) = true := decide_eq_true hek
    have i2 : i ≤ 100000000 := by omega
    by_cases hl : nl (n * 2 ^ i) ≤ 16384
    · rw [if_pos hl] at hr2
      cases hr2
      obtain ⟨p, hp⟩ : ∃ p, nbA (n * 2 ^ i) = p := ⟨_, rfl⟩
      obtain ⟨y, hy⟩ : ∃ y, nbA (n * 2 ^ i % d) = y := ⟨_, rfl⟩
      have F1 := box (lf_up n i p hl hp)
      have e3 : (y.toList == []) = decide (n * 2 ^ i % d = 0) := by
        rw [eq_empty, ← hy, nbA_size, Bool.eq_iff_iff, decide_eq_true_iff, decide_eq_true_iff]
        exact ⟨nl_eq0 _, fun h => by rw [h]; exact nl_zero⟩
      obtain ⟨o, ho⟩ : ∃ o, decide (n * 2 ^ i % d = 0) = o := ⟨_, rfl⟩
      rw [ho] at e3 ⊢
      have HP := box hp
      have HY := box hy
      have HL := box hl
      have HV := box hv
      clear hs ht hc k1 k2 hk n0 he hek hi hr hp hy hl ho hv
      obtain ⟨Rx_0, B0⟩ := opn1 w (Obj.cells #[.bool b, .string s, .string t, .int .i64 e] 70)
      go_enter Tryz.func201, Tryz.ntmps201
      go_wp2_with fail
      go_quiet (fail)
      obtain ⟨w1, hw, B1, hh⟩ := quiet_world B0 nq
      rw [hw]
      have Rx_1 : w1.heap[w.heap.size]? = some (Obj.cells #[.bool b, .string s, .string t, .int .i64 e] 70) := by rw [hh]; exact Rx_0
      clear hw hh B0 Rx_0
      obtain ⟨cx_1_0, cx_1_1, cx_1_2, cx_1_3⟩ := cells4s Rx_1
      go_wp2_with fail
      refine (nat_Left n (i : Int) s p 0 HS.out LN.out (by omega) F1.out _).mono ?_
      rintro r w2 ⟨rfl, b2⟩
      have B2 : Below w.heap.size w w2 := btr B1 b2
      have Rx_2 := heap_of b2 _ _ _ Rx_1
      clear b2 B1 Rx_1 cx_1_0 cx_1_1 cx_1_2 cx_1_3
      obtain ⟨cx_2_0, cx_2_1, cx_2_2, cx_2_3⟩ := cells4s Rx_2
      go_wp2_with fail
      refine (nat_Div (n * 2 ^ i) d p t v y HP.out HT.out HL.out D0.out HV.out HY.out _).mono ?_
      rintro r w3 ⟨rfl, b3⟩
      have B3 : Below w.heap.size w w3 := btr B2 b3
      have Rx_3 := heap_of b3 _ _ _ Rx_2
      clear b3 B2 Rx_2 cx_2_0 cx_2_1 cx_2_2 cx_2_3
      obtain ⟨cx_3_0, cx_3_1, cx_3_2, cx_3_3⟩ := cells4s Rx_3
      go_wp2
      go_ret3
      exact ⟨rfl, B3⟩
    · rw [if_neg hl] at hr2
      cases hr2
      rw [nbA_zero] at hv
      subst hv
      have F1 : Box (lf n (i : Int) = (⟨#[]⟩, 4)) := box (by unfold lf; rw [if_neg (by omega), Int.toNat_natCast]; exact lg_no _ hl)
      clear hs ht hc k1 k2 hk n0 he hek hi hr hl
      obtain ⟨Rx_0, B0⟩ := opn1 w (Obj.cells #[.bool b, .string s, .string t, .int .i64 e] 70)
      go_enter Tryz.func201, Tryz.ntmps201
      go_wp2_with fail
      go_quiet (fail)
      obtain ⟨w1, hw, B1, hh⟩ := quiet_world B0 nq
      rw [hw]
      have Rx_1 : w1.heap[w.heap.size]? = some (Obj.cells #[.bool b, .string s, .string t, .int .i64 e] 70) := by rw [hh]; exact Rx_0
      clear hw hh B0 Rx_0
      obtain ⟨cx_1_0, cx_1_1, cx_1_2, cx_1_3⟩ := cells4s Rx_1
      go_wp2_with fail
      refine (nat_Left n (i : Int) s _ 4 HS.out LN.out (by omega) F1.out _).mono ?_
      rintro r w2 ⟨rfl, b2⟩
      have B2 : Below w.heap.size w w2 := btr B1 b2
      have Rx_2 := heap_of b2 _ _ _ Rx_1
      clear b2 B1 Rx_1 cx_1_0 cx_1_1 cx_1_2 cx_1_3
      obtain ⟨cx_2_0, cx_2_1, cx_2_2, cx_2_3⟩ := cells4s Rx_2
      go_wp2
      go_ret3
      exact ⟨rfl, B2⟩
  · rw [if_neg hek] at hr
    have d2 : decide (k ≤ e) = false := decide_eq_false hek
    obtain ⟨T, hTop⟩ : ∃ T, topX (XN.mk b n d e) = T := ⟨_, rfl⟩
    have HF := box (fun w => rTop_ok b n d e s t T hs ht n0 hc hTop w)
    have ht2 := top_good (XN.mk b n d e) n0 hc.d0
    rw [hTop] at hr ht2
    by_cases hlt : T < k
    · rw [if_pos hlt] at hr
      cases hr
      rw [nbA_zero] at hv
      subst hv
      have d1 : decide (T < k) = true := decide_eq_true hlt
      clear hs ht hc k1 k2 hk n0 he hek hTop hlt ht2
      obtain ⟨Rx_0, B0⟩ := opn1 w (Obj.cells #[.bool b, .string s, .string t, .int .i64 e] 70)
      go_enter Tryz.func201, Tryz.ntmps201
      go_wp2_with fail
      go_quiet (fail)
      obtain ⟨w1, hw, B1, hh⟩ := quiet_world B0 nq
      rw [hw]
      have Rx_1 : w1.heap[w.heap.size]? = some (Obj.cells #[.bool b, .string s, .string t, .int .i64 e] 70) := by rw [hh]; exact Rx_0
      clear hw hh B0 Rx_0
      obtain ⟨cx_1_0, cx_1_1, cx_1_2, cx_1_3⟩ := cells4s Rx_1
      go_wp2_with fail
      refine (HF.out _).mono ?_
      rintro r w2 ⟨rfl, b2⟩
      have B2 : Below w.heap.size w w2 := btr B1 b2
      have Rx_2 := heap_of b2 _ _ _ Rx_1
      clear b2 B1 Rx_1 cx_1_0 cx_1_1 cx_1_2 cx_1_3
      obtain ⟨cx_2_0, cx_2_1, cx_2_2, cx_2_3⟩ := cells4s Rx_2
      go_wp2
      go_ret3
      exact ⟨rfl, B2⟩
    · rw [if_neg hlt] at hr
      cases hr
      obtain ⟨i, hi⟩ : ∃ i, (k - e).toNat = i := ⟨_, rfl⟩
      have hv2 : nbA (n / (d * 2 ^ i)) = v := by rw [← hi]; exact hv
      have m1 : IntKind.i64.wrap (k - e) = (i : Int) := by rw [wrap_i64_is _ (by omega) (by omega)]; omega
      have i2 : i ≤ 100000000 := by omega
      have hle := below_top (XN.mk b n d e) k i hc (by show e + (i : Int) = k; omega) (by
        have h1 := ht2.1
        exact Rat.le_trans (p2mono k T (by omega)) h1)
      have hle2 : d * 2 ^ i ≤ n := hle
      have L3 : nl (d * 2 ^ i) ≤ 16384 := Nat.le_trans (nl_mono _ _ hle2) hc.1
      obtain ⟨p, hp⟩ : ∃ p, nbA (d * 2 ^ i) = p := ⟨_, rfl⟩
      obtain ⟨y, hy⟩ : ∃ y, nbA (n % (d * 2 ^ i)) = y := ⟨_, rfl⟩
      have F1 := box (lf_up d i p L3 hp)
      have i1 : 1 ≤ i := by omega
      have hz : n % (d * 2 ^ i) ≠ 0 := by
        intro hm
        obtain ⟨z, hz⟩ : ∃ z, i = z + 1 := ⟨i - 1, by omega⟩
        rw [hz, Nat.pow_succ, ← Nat.mul_assoc] at hm
        obtain ⟨q, hq⟩ := Nat.dvd_of_mod_eq_zero hm
        have : n % 2 = 1 := (hc.odd n0).1
        rw [hq, Nat.mul_assoc, Nat.mul_assoc, Nat.mul_left_comm (2 ^ z) 2, Nat.mul_left_comm d 2, Nat.mul_mod_right] at this
        omega
      have e3 := eq_nil _ y hy hz
      have d1 : decide (T < k) = false := decide_eq_false hlt
      have HP := box hp
      have HY := box hy
      have HV := box hv2
      have D3 : Box (d * 2 ^ i ≠ 0) := box (mul_ne hc.d0 (Nat.pos_iff_ne_zero.1 (Nat.two_pow_pos _)))
      clear hs ht hc k1 k2 hk n0 he hek hTop hlt ht2 hi hv hv2 hle hle2 L3 hp hy hz
      obtain ⟨Rx_0, B0⟩ := opn1 w (Obj.cells #[.bool b, .string s, .string t, .int .i64 e] 70)
      go_enter Tryz.func201, Tryz.ntmps201
      go_wp2_with fail
      go_quiet (fail)
      obtain ⟨w1, hw, B1, hh⟩ := quiet_world B0 nq
      rw [hw]
      have Rx_1 : w1.heap[w.heap.size]? = some (Obj.cells #[.bool b, .string s, .string t, .int .i64 e] 70) := by rw [hh]; exact Rx_0
      clear hw hh B0 Rx_0
      obtain ⟨cx_1_0, cx_1_1, cx_1_2, cx_1_3⟩ := cells4s Rx_1
      go_wp2_with fail
      refine (HF.out _).mono ?_
      rintro r w2 ⟨rfl, b2⟩
      have B2 : Below w.heap.size w w2 := btr B1 b2
      have Rx_2 := heap_of b2 _ _ _ Rx_1
      clear b2 B1 Rx_1 cx_1_0 cx_1_1 cx_1_2 cx_1_3
      obtain ⟨cx_2_0, cx_2_1, cx_2_2, cx_2_3⟩ := cells4s Rx_2
      go_wp2_with fail
      refine (nat_Left d (i : Int) t p 0 HT.out LD.out (by omega) F1.out _).mono ?_
      rintro r w3 ⟨rfl, b3⟩
      have B3 : Below w.heap.size w w3 := btr B2 b3
      have Rx_3 := heap_of b3 _ _ _ Rx_2
      clear b3 B2 Rx_2 cx_2_0 cx_2_1 cx_2_2 cx_2_3
      obtain ⟨cx_3_0, cx_3_1, cx_3_2, cx_3_3⟩ := cells4s Rx_3
      go_wp2_with fail
      refine (nat_Div n (d * 2 ^ i) s p v y HS.out HP.out LN.out D3.out HV.out HY.out _).mono ?_
      rintro r w4 ⟨rfl, b4⟩
      have B4 : Below w.heap.size w w4 := btr B3 b4
      have Rx_4 := heap_of b4 _ _ _ Rx_3
      clear b4 B3 Rx_3 cx_3_0 cx_3_1 cx_3_2 cx_3_3
      obtain ⟨cx_4_0, cx_4_1, cx_4_2, cx_4_3⟩ := cells4s Rx_4
      go_wp2
      go_ret3
      exact ⟨rfl, B4⟩
theorem mul_pow_le (a k : Nat) : a ≤ a * 2 ^ k := Nat.le_mul_of_pos_right _ (Nat.two_pow_pos _)
theorem sS_nl (x y : XN) (hx : nl (XMath.sA x y) ≤ 16384) (hy : nl (XMath.sA y x) ≤ 16384) (hb : x.b ≠ y.b) : nl (sS x y) ≤ 16384 := by
  unfold sS
  rw [if_neg hb]
  split
  · exact Nat.le_trans (nl_mono _ _ (Nat.sub_le _ _)) hy
  · exact Nat.le_trans (nl_mono _ _ (Nat.sub_le _ _)) hx

end Go.Proofs.YtapikkbifdldfaaGreatDoor
