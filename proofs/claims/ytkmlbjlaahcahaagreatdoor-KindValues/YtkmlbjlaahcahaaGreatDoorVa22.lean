/-
  What the functions that the statement reaches return: part 22 (Y1, Y4, V9).
-/
import Derived.Test.YtkmlbjlaahcahaaGreatDoorVa21
namespace Go.Proofs.YtkmlbjlaahcahaaGreatDoor
set_option maxRecDepth 100000
open Go.RowKit WMath XMath

set_option maxRecDepth 100000 in
set_option maxHeartbeats 1000000 in
theorem rmake_ok (neg : Bool) (n d : Nat) (e : Int) (s t : ByteArray) (rb : Bool) (rn rd : Nat) (re err : Int) (u v : ByteArray) (hs : nbA n = s) (ht : nbA d = t) (ln : nl n ≤ 16384) (ld : nl d ≤ 16384) (d0 : d ≠ 0) (he1 : -1048576 ≤ e) (he2 : e ≤ 1048576)
    (hr : XMath.mk neg n d e = (⟨rb, rn, rd, re⟩, err)) (hu : nbA rn = u) (hv : nbA rd = v) (w : World) :
    Calls Tryz.prog 41 #[.bool neg, .string s, .string t, .int .i64 e] w fun r w' => r = .returned (.tuple #[.agg #[.bool rb, .string u, .string v, .int .i64 re], .int .i64 err]) ∧ Below w.heap.size w w' := by
  have e0 := eq_nil d t ht d0
  have H1 : Box (mayB s = true) := box (by rw [← hs]; exact mayB_nb n ln)
  have H2 : Box (mayB t = true) := box (by rw [← ht]; exact mayB_nb d ld)
  have g1 : decide (e < -1048576) = false := decide_eq_false (by omega)
  have g2 : decide (1048576 < e) = false := decide_eq_false (by omega)
  by_cases n0 : n = 0
  · subst n0
    rw [mk_null] at hr
    injection hr with h1 h2
    unfold X0 at h1
    injection h1 with a b c d
    subst a b c d h2
    rw [nbA_zero] at hs hu
    rw [nb1] at hv
    subst hs hu hv
    clear ht ln ld d0
    obtain ⟨Rz_0, B0⟩ := opn1 w (Obj.cells #[.bool false, .string ⟨#[]⟩, .string ⟨#[]⟩, .int .i64 0] 28)
    go_enter Tryz.func41, Tryz.ntmps41
    go_wp2_with fail
    refine (nat_may _ true H1.out _).mono ?_
    rintro r w' ⟨rfl, rfl⟩
    go_wp2_with fail
    refine (nat_may t true H2.out _).mono ?_
    rintro r w' ⟨rfl, rfl⟩
    go_wp2_with fail
    refine (xnull _).mono ?_
    rintro r w1 ⟨rfl, b1⟩
    have B1 : Below w.heap.size w w1 := btr B0 b1
    have Rz_1 := heap_of b1 _ _ _ Rz_0
    clear b1 B0 Rz_0
    obtain ⟨cz_1_0, cz_1_1, cz_1_2, cz_1_3⟩ := cells4s Rz_1
    have q0 := fz (k := 0) Rz_1
    have q1 := fz (k := 1) Rz_1
    have q2 := fz (k := 2) Rz_1
    have q3 := fz (k := 3) Rz_1
    obtain ⟨E0, E1, E2, E3⟩ := set4_cells Rz_1 rfl (.bool false) (.string ⟨#[]⟩) (.string ⟨#[1]⟩) (.int .i64 0)
    go_wp2
    exact bodyPost_ret (v := .tuple #[.agg #[.bool false, .string ⟨#[]⟩, .string ⟨#[1]⟩, .int .i64 0], .int .i64 0]) (by simp [results, Tryz.results41, go_sem, E0, E1, E2, E3]) rfl ⟨rfl, set4_below B1 (by first | exact Nat.le_refl _ | omega) _ _ _ _⟩
  · have e1 := eq_nil n s hs n0
    obtain ⟨x, hx⟩ : ∃ x, tz n = x := ⟨_, rfl⟩
    obtain ⟨y, hy⟩ : ∃ x, tz d = x := ⟨_, rfl⟩
    have LX := box (tz_low n)
    have LY := box (tz_low d)
    have x2 : x ≤ 131072 := by have := tz_blen n; rw [hx] at this; unfold nl at ln; omega
    have y2 : y ≤ 131072 := by have := tz_blen d; rw [hy] at this; unfold nl at ld; omega
    have hc := mk_cases neg n d e rb rn rd re err n0 hr
    rw [hx, hy] at hc
    rw [hx] at LX
    rw [hy] at LY
    have HS := box hs
    have HT := box ht
    have LN := box ln
    have LD := box ld
    obtain ⟨E, hE⟩ : ∃ E, e + (x : Int) - (y : Int) = E := ⟨_, rfl⟩
    rw [hE] at hc
    have k1 : IntKind.i64.wrap (e + (x : Int)) = e + (x : Int) := wrap_i64_is _ (by omega) (by omega)
    have k2 : IntKind.i64.wrap (e + (x : Int) - (y : Int)) = E := by rw [wrap_i64_is _ (by omega) (by omega)]; omega
    obtain ⟨o1, o2⟩ := od_is n n0
    obtain ⟨o3, o4⟩ := od_is d d0
    obtain ⟨p, hp⟩ : ∃ p, nbA (od n) = p := ⟨_, rfl⟩
    obtain ⟨q, hq⟩ : ∃ p, nbA (od d) = p := ⟨_, rfl⟩
    have L1 : Box (nl (od n) ≤ 16384) := box (Nat.le_trans (nl_mono _ _ (od_le n)) ln)
    have L2 : Box (nl (od d) ≤ 16384) := box (Nat.le_trans (nl_mono _ _ (od_le d)) ld)
    have HP := box hp
    have HQ := box hq
    have P1 : Box (nbA (n / 2 ^ (x : Int).toNat) = p) := box (by rw [Int.toNat_natCast, ← hx]; exact hp)
    have Q1 : Box (nbA (d / 2 ^ (y : Int).toNat) = q) := box (by rw [Int.toNat_natCast, ← hy]; exact hq)
    obtain ⟨b1, hb1⟩ : ∃ o, decide (n % 2 ^ (x : Int).toNat ≠ 0) = o := ⟨_, rfl⟩
    obtain ⟨b2, hb2⟩ : ∃ o, decide (d % 2 ^ (y : Int).toNat ≠ 0) = o := ⟨_, rfl⟩
    have O1 := box hb1
    have O2 := box hb2
    obtain ⟨gg, hgg⟩ : ∃ g, Nat.gcd (od n) (od d) = g := ⟨_, rfl⟩
    obtain ⟨h, hh⟩ : ∃ h, nbA gg = h := ⟨_, rfl⟩
    have HG : Box (nbA (Nat.gcd (od n) (od d)) = h) := box (by rw [hgg]; exact hh)
    have HH := box hh
    have eo := eq_one gg h hh
    have G0 : Box (gg ≠ 0) := box (by rw [← hgg]; exact Nat.pos_iff_ne_zero.1 (Nat.gcd_pos_of_pos_left _ (by omega)))
    rw [hgg] at hc
    obtain ⟨un, hun⟩ : ∃ u, nbA (od n / gg) = u := ⟨_, rfl⟩
    obtain ⟨ud, hud⟩ : ∃ u, nbA (od d / gg) = u := ⟨_, rfl⟩
    obtain ⟨vn, hvn⟩ : ∃ u, nbA (od n % gg) = u := ⟨_, rfl⟩
    obtain ⟨vd, hvd⟩ : ∃ u, nbA (od d % gg) = u := ⟨_, rfl⟩
    have U1 := box hun
    have U2 := box hud
    have U3 := box hvn
    have U4 := box hvd
    by_cases g1' : gg = 1
    · rw [decide_eq_true g1'] at eo
      have en : un = p := by rw [← hun, g1', Nat.div_one, hp]
      have ed : ud = q := by rw [← hud, g1', Nat.div_one, hq]
      rcases hc with ⟨hc, rfl, rfl, rfl, rfl, rfl⟩ | ⟨hc, rfl, rfl, rfl, rfl, rfl⟩
      · rw [hun] at hu
        rw [hud] at hv
        subst hu hv
        subst en ed
        have c1 : decide (re < -1048576) = false := decide_eq_false (by omega)
        have c2 : decide (1048576 < re) = false := decide_eq_false (by omega)
        clear hs ht ln ld hr hx hy hE hc o1 o2 o3 o4 hp hq n0 d0 hb1 hb2 hgg hh hun hud hvn hvd g1' U1 U2 U3 U4
        obtain ⟨Rz_0, B0⟩ := opn1 w (Obj.cells #[.bool false, .string ⟨#[]⟩, .string ⟨#[]⟩, .int .i64 0] 28)
        go_enter Tryz.func41, Tryz.ntmps41
        go_wp2_with fail
        refine (nat_may s true H1.out _).mono ?_
        rintro r w' ⟨rfl, rfl⟩
        go_wp2_with fail
        refine (nat_may t true H2.out _).mono ?_
        rintro r w' ⟨rfl, rfl⟩
        go_wp2_with fail
        refine (nat_Low n x s HS.out LN.out LX.out _).mono ?_
        rintro r w' ⟨rfl, rfl⟩
        go_wp2_with fail
        refine (nat_Low d y t HT.out LD.out LY.out _).mono ?_
        rintro r w' ⟨rfl, rfl⟩
        go_wp2_with fail
        refine (nat_Right n (x : Int) s un b1 HS.out LN.out (by omega) (by omega) P1.out O1.out _).mono ?_
        rintro r w1 ⟨rfl, b1⟩
        have B1 : Below w.heap.size w w1 := btr B0 b1
        have Rz_1 := heap_of b1 _ _ _ Rz_0
        clear b1 B0 Rz_0
        obtain ⟨cz_1_0, cz_1_1, cz_1_2, cz_1_3⟩ := cells4s Rz_1
        go_wp2_with fail
        refine (nat_Right d (y : Int) t ud b2 HT.out LD.out (by omega) (by omega) Q1.out O2.out _).mono ?_
        rintro r w2 ⟨rfl, b2⟩
        have B2 : Below w.heap.size w w2 := btr B1 b2
        have Rz_2 := heap_of b2 _ _ _ Rz_1
        clear b2 B1 Rz_1 cz_1_0 cz_1_1 cz_1_2 cz_1_3
        obtain ⟨cz_2_0, cz_2_1, cz_2_2, cz_2_3⟩ := cells4s Rz_2
        go_wp2_with fail
        refine (nat_Gcd (od n) (od d) un ud h HP.out HQ.out L1.out L2.out HG.out _).mono ?_
        rintro r w3 ⟨rfl, b3⟩
        have B3 : Below w.heap.size w w3 := btr B2 b3
        have Rz_3 := heap_of b3 _ _ _ Rz_2
        clear b3 B2 Rz_2 cz_2_0 cz_2_1 cz_2_2 cz_2_3
        obtain ⟨cz_3_0, cz_3_1, cz_3_2, cz_3_3⟩ := cells4s Rz_3
        have q0 := fz (k := 0) Rz_3
        have q1 := fz (k := 1) Rz_3
        have q2 := fz (k := 2) Rz_3
        have q3 := fz (k := 3) Rz_3
        obtain ⟨E0, E1, E2, E3⟩ := set4_cells Rz_3 rfl (.bool rb) (.string un) (.string ud) (.int .i64 re)
        go_wp2
        exact bodyPost_ret (v := .tuple #[.agg #[.bool rb, .string un, .string ud, .int .i64 re], .int .i64 0]) (by simp [results, Tryz.results41, go_sem, E0, E1, E2, E3]) rfl ⟨rfl, set4_below B3 (by first | exact Nat.le_refl _ | omega) _ _ _ _⟩
      · rw [nbA_zero] at hu hv
        subst hu hv
        have c0 : E < -1048576 ∨ 1048576 < E := by omega
        have c12 : decide (E < -1048576) = true ∨ (decide (E < -1048576) = false ∧ decide (1048576 < E) = true) := by
          by_cases hh : E < -1048576
          · exact Or.inl (decide_eq_true hh)
          · exact Or.inr ⟨decide_eq_false hh, decide_eq_true (by omega)⟩
        clear hs ht ln ld hr hx hy hE hc o1 o2 o3 o4 hp hq n0 d0 hb1 hb2 hgg hh hun hud hvn hvd g1' U1 U2 U3 U4 en ed c0
        rcases c12 with c1 | ⟨c1, c2⟩
        · obtain ⟨Rz_0, B0⟩ := opn1 w (Obj.cells #[.bool false, .string ⟨#[]⟩, .string ⟨#[]⟩, .int .i64 0] 28)
          go_enter Tryz.func41, Tryz.ntmps41
          go_wp2_with fail
          refine (nat_may s true H1.out _).mono ?_
          rintro r w' ⟨rfl, rfl⟩
          go_wp2_with fail
          refine (nat_may t true H2.out _).mono ?_
          rintro r w' ⟨rfl, rfl⟩
          go_wp2_with fail
          refine (nat_Low n x s HS.out LN.out LX.out _).mono ?_
          rintro r w' ⟨rfl, rfl⟩
          go_wp2_with fail
          refine (nat_Low d y t HT.out LD.out LY.out _).mono ?_
          rintro r w' ⟨rfl, rfl⟩
          go_wp2_with fail
          refine (nat_Right n (x : Int) s p b1 HS.out LN.out (by omega) (by omega) P1.out O1.out _).mono ?_
          rintro r w1 ⟨rfl, b1⟩
          have B1 : Below w.heap.size w w1 := btr B0 b1
          have Rz_1 := heap_of b1 _ _ _ Rz_0
          clear b1 B0 Rz_0
          obtain ⟨cz_1_0, cz_1_1, cz_1_2, cz_1_3⟩ := cells4s Rz_1
          go_wp2_with fail
          refine (nat_Right d (y : Int) t q b2 HT.out LD.out (by omega) (by omega) Q1.out O2.out _).mono ?_
          rintro r w2 ⟨rfl, b2⟩
          have B2 : Below w.heap.size w w2 := btr B1 b2
          have Rz_2 := heap_of b2 _ _ _ Rz_1
          clear b2 B1 Rz_1 cz_1_0 cz_1_1 cz_1_2 cz_1_3
          obtain ⟨cz_2_0, cz_2_1, cz_2_2, cz_2_3⟩ := cells4s Rz_2
          go_wp2_with fail
          refine (nat_Gcd (od n) (od d) p q h HP.out HQ.out L1.out L2.out HG.out _).mono ?_
          rintro r w3 ⟨rfl, b3⟩
          have B3 : Below w.heap.size w w3 := btr B2 b3
          have Rz_3 := heap_of b3 _ _ _ Rz_2
          clear b3 B2 Rz_2 cz_2_0 cz_2_1 cz_2_2 cz_2_3
          obtain ⟨cz_3_0, cz_3_1, cz_3_2, cz_3_3⟩ := cells4s Rz_3
          have q0 := fz (k := 0) Rz_3
          have q1 := fz (k := 1) Rz_3
          have q2 := fz (k := 2) Rz_3
          have q3 := fz (k := 3) Rz_3
          obtain ⟨E0, E1, E2, E3⟩ := set4_cells Rz_3 rfl (.bool false) (.string ⟨#[]⟩) (.string ⟨#[]⟩) (.int .i64 0)
          go_wp2
          exact bodyPost_ret (v := .tuple #[.agg #[.bool false, .string ⟨#[]⟩, .string ⟨#[]⟩, .int .i64 0], .int .i64 4]) (by simp [results, Tryz.results41, go_sem, E0, E1, E2, E3]) rfl ⟨rfl, set4_below B3 (by first | exact Nat.le_refl _ | omega) _ _ _ _⟩
        · obtain ⟨Rz_0, B0⟩ := opn1 w (Obj.cells #[.bool false, .string ⟨#[]⟩, .string ⟨#[]⟩, .int .i64 0] 28)
          go_enter Tryz.func41, Tryz.ntmps41
          go_wp2_with fail
          refine (nat_may s true H1.out _).mono ?_
          rintro r w' ⟨rfl, rfl⟩
          go_wp2_with fail
          refine (nat_may t true H2.out _).mono ?_
          rintro r w' ⟨rfl, rfl⟩
          go_wp2_with fail
          refine (nat_Low n x s HS.out LN.out LX.out _).mono ?_
          rintro r w' ⟨rfl, rfl⟩
          go_wp2_with fail
          refine (nat_Low d y t HT.out LD.out LY.out _).mono ?_
          rintro r w' ⟨rfl, rfl⟩
          go_wp2_with fail
          refine (nat_Right n (x : Int) s p b1 HS.out LN.out (by omega) (by omega) P1.out O1.out _).mono ?_
          rintro r w1 ⟨rfl, b1⟩
          have B1 : Below w.heap.size w w1 := btr B0 b1
          have Rz_1 := heap_of b1 _ _ _ Rz_0
          clear b1 B0 Rz_0
          obtain ⟨cz_1_0, cz_1_1, cz_1_2, cz_1_3⟩ := cells4s Rz_1
          go_wp2_with fail
          refine (nat_Right d (y : Int) t q b2 HT.out LD.out (by omega) (by omega) Q1.out O2.out _).mono ?_
          rintro r w2 ⟨rfl, b2⟩
          have B2 : Below w.heap.size w w2 := btr B1 b2
          have Rz_2 := heap_of b2 _ _ _ Rz_1
          clear b2 B1 Rz_1 cz_1_0 cz_1_1 cz_1_2 cz_1_3
          obtain ⟨cz_2_0, cz_2_1, cz_2_2, cz_2_3⟩ := cells4s Rz_2
          go_wp2_with fail
          refine (nat_Gcd (od n) (od d) p q h HP.out HQ.out L1.out L2.out HG.out _).mono ?_
          rintro r w3 ⟨rfl, b3⟩
          have B3 : Below w.heap.size w w3 := btr B2 b3
          have Rz_3 := heap_of b3 _ _ _ Rz_2
          clear b3 B2 Rz_2 cz_2_0 cz_2_1 cz_2_2 cz_2_3
          obtain ⟨cz_3_0, cz_3_1, cz_3_2, cz_3_3⟩ := cells4s Rz_3
          have q0 := fz (k := 0) Rz_3
          have q1 := fz (k := 1) Rz_3
          have q2 := fz (k := 2) Rz_3
          have q3 := fz (k := 3) Rz_3
          obtain ⟨E0, E1, E2, E3⟩ := set4_cells Rz_3 rfl (.bool false) (.string ⟨#[]⟩) (.string ⟨#[]⟩) (.int .i64 0)
          go_wp2
          exact bodyPost_ret (v := .tuple #[.agg #[.bool false, .string ⟨#[]⟩, .string ⟨#[]⟩, .int .i64 0], .int .i64 4]) (by simp [results, Tryz.results41, go_sem, E0, E1, E2, E3]) rfl ⟨rfl, set4_below B3 (by first | exact Nat.le_refl _ | omega) _ _ _ _⟩
    · rw [decide_eq_false g1'] at eo
      rcases hc with ⟨hc, rfl, rfl, rfl, rfl, rfl⟩ | ⟨hc, rfl, rfl, rfl, rfl, rfl⟩
      · rw [hun] at hu
        rw [hud] at hv
        subst hu hv
        have c1 : decide (re < -1048576) = false := decide_eq_false (by omega)
        have c2 : decide (1048576 < re) = false := decide_eq_false (by omega)
        clear hs ht ln ld hr hx hy hE hc o1 o2 o3 o4 hp hq n0 d0 hb1 hb2 hgg hh hun hud hvn hvd g1'
        obtain ⟨Rz_0, B0⟩ := opn1 w (Obj.cells #[.bool false, .string ⟨#[]⟩, .string ⟨#[]⟩, .int .i64 0] 28)
        go_enter Tryz.func41, Tryz.ntmps41
        go_wp2_with fail
        refine (nat_may s true H1.out _).mono ?_
        rintro r w' ⟨rfl, rfl⟩
        go_wp2_with fail
        refine (nat_may t true H2.out _).mono ?_
        rintro r w' ⟨rfl, rfl⟩
        go_wp2_with fail
        refine (nat_Low n x s HS.out LN.out LX.out _).mono ?_
        rintro r w' ⟨rfl, rfl⟩
        go_wp2_with fail
        refine (nat_Low d y t HT.out LD.out LY.out _).mono ?_
        rintro r w' ⟨rfl, rfl⟩
        go_wp2_with fail
        refine (nat_Right n (x : Int) s p b1 HS.out LN.out (by omega) (by omega) P1.out O1.out _).mono ?_
        rintro r w1 ⟨rfl, b1⟩
        have B1 : Below w.heap.size w w1 := btr B0 b1
        have Rz_1 := heap_of b1 _ _ _ Rz_0
        clear b1 B0 Rz_0
        obtain ⟨cz_1_0, cz_1_1, cz_1_2, cz_1_3⟩ := cells4s Rz_1
        go_wp2_with fail
        refine (nat_Right d (y : Int) t q b2 HT.out LD.out (by omega) (by omega) Q1.out O2.out _).mono ?_
        rintro r w2 ⟨rfl, b2⟩
        have B2 : Below w.heap.size w w2 := btr B1 b2
        have Rz_2 := heap_of b2 _ _ _ Rz_1
        clear b2 B1 Rz_1 cz_1_0 cz_1_1 cz_1_2 cz_1_3
        obtain ⟨cz_2_0, cz_2_1, cz_2_2, cz_2_3⟩ := cells4s Rz_2
        go_wp2_with fail
        refine (nat_Gcd (od n) (od d) p q h HP.out HQ.out L1.out L2.out HG.out _).mono ?_
        rintro r w3 ⟨rfl, b3⟩
        have B3 : Below w.heap.size w w3 := btr B2 b3
        have Rz_3 := heap_of b3 _ _ _ Rz_2
        clear b3 B2 Rz_2 cz_2_0 cz_2_1 cz_2_2 cz_2_3
        obtain ⟨cz_3_0, cz_3_1, cz_3_2, cz_3_3⟩ := cells4s Rz_3
        go_wp2_with fail
        refine (nat_Div (od n) gg p h un vn HP.out HH.out L1.out G0.out U1.out U3.out _).mono ?_
        rintro r w4 ⟨rfl, b4⟩
        have B4 : Below w.heap.size w w4 := btr B3 b4
        have Rz_4 := heap_of b4 _ _ _ Rz_3
        clear b4 B3 Rz_3 cz_3_0 cz_3_1 cz_3_2 cz_3_3
        obtain ⟨cz_4_0, cz_4_1, cz_4_2, cz_4_3⟩ := cells4s Rz_4
        go_wp2_with fail
        refine (nat_Div (od d) gg q h ud vd HQ.out HH.out L2.out G0.out U2.out U4.out _).mono ?_
        rintro r w5 ⟨rfl, b5⟩
        have B5 : Below w.heap.size w w5 := btr B4 b5
        have Rz_5 := heap_of b5 _ _ _ Rz_4
        clear b5 B4 Rz_4 cz_4_0 cz_4_1 cz_4_2 cz_4_3
        obtain ⟨cz_5_0, cz_5_1, cz_5_2, cz_5_3⟩ := cells4s Rz_5
        have q0 := fz (k := 0) Rz_5
        have q1 := fz (k := 1) Rz_5
        have q2 := fz (k := 2) Rz_5
        have q3 := fz (k := 3) Rz_5
        obtain ⟨E0, E1, E2, E3⟩ := set4_cells Rz_5 rfl (.bool rb) (.string un) (.string ud) (.int .i64 re)
        go_wp2
        exact bodyPost_ret (v := .tuple #[.agg #[.bool rb, .string un, .string ud, .int .i64 re], .int .i64 0]) (by simp [results, Tryz.results41, go_sem, E0, E1, E2, E3]) rfl ⟨rfl, set4_below B5 (by first | exact Nat.le_refl _ | omega) _ _ _ _⟩
      · rw [nbA_zero] at hu hv
        subst hu hv
        have c0 : E < -1048576 ∨ 1048576 < E := by omega
        have c12 : decide (E < -1048576) = true ∨ (decide (E < -1048576) = false ∧ decide (1048576 < E) = true) := by
          by_cases hh : E < -1048576
          · exact Or.inl (decide_eq_true hh)
          · exact Or.inr ⟨decide_eq_false hh, decide_eq_true (by omega)⟩
        clear hs ht ln ld hr hx hy hE hc o1 o2 o3 o4 hp hq n0 d0 hb1 hb2 hgg hh hun hud hvn hvd g1' c0
        rcases c12 with c1 | ⟨c1, c2⟩
        · obtain ⟨Rz_0, B0⟩ := opn1 w (Obj.cells #[.bool false, .string ⟨#[]⟩, .string ⟨#[]⟩, .int .i64 0] 28)
          go_enter Tryz.func41, Tryz.ntmps41
          go_wp2_with fail
          refine (nat_may s true H1.out _).mono ?_
          rintro r w' ⟨rfl, rfl⟩
          go_wp2_with fail
          refine (nat_may t true H2.out _).mono ?_
          rintro r w' ⟨rfl, rfl⟩
          go_wp2_with fail
          refine (nat_Low n x s HS.out LN.out LX.out _).mono ?_
          rintro r w' ⟨rfl, rfl⟩
          go_wp2_with fail
          refine (nat_Low d y t HT.out LD.out LY.out _).mono ?_
          rintro r w' ⟨rfl, rfl⟩
          go_wp2_with fail
          refine (nat_Right n (x : Int) s p b1 HS.out LN.out (by omega) (by omega) P1.out O1.out _).mono ?_
          rintro r w1 ⟨rfl, b1⟩
          have B1 : Below w.heap.size w w1 := btr B0 b1
          have Rz_1 := heap_of b1 _ _ _ Rz_0
          clear b1 B0 Rz_0
          obtain ⟨cz_1_0, cz_1_1, cz_1_2, cz_1_3⟩ := cells4s Rz_1
          go_wp2_with fail
          refine (nat_Right d (y : Int) t q b2 HT.out LD.out (by omega) (by omega) Q1.out O2.out _).mono ?_
          rintro r w2 ⟨rfl, b2⟩
          have B2 : Below w.heap.size w w2 := btr B1 b2
          have Rz_2 := heap_of b2 _ _ _ Rz_1
          clear b2 B1 Rz_1 cz_1_0 cz_1_1 cz_1_2 cz_1_3
          obtain ⟨cz_2_0, cz_2_1, cz_2_2, cz_2_3⟩ := cells4s Rz_2
          go_wp2_with fail
          refine (nat_Gcd (od n) (od d) p q h HP.out HQ.out L1.out L2.out HG.out _).mono ?_
          rintro r w3 ⟨rfl, b3⟩
          have B3 : Below w.heap.size w w3 := btr B2 b3
          have Rz_3 := heap_of b3 _ _ _ Rz_2
          clear b3 B2 Rz_2 cz_2_0 cz_2_1 cz_2_2 cz_2_3
          obtain ⟨cz_3_0, cz_3_1, cz_3_2, cz_3_3⟩ := cells4s Rz_3
          go_wp2_with fail
          refine (nat_Div (od n) gg p h un vn HP.out HH.out L1.out G0.out U1.out U3.out _).mono ?_
          rintro r w4 ⟨rfl, b4⟩
          have B4 : Below w.heap.size w w4 := btr B3 b4
          have Rz_4 := heap_of b4 _ _ _ Rz_3
          clear b4 B3 Rz_3 cz_3_0 cz_3_1 cz_3_2 cz_3_3
          obtain ⟨cz_4_0, cz_4_1, cz_4_2, cz_4_3⟩ := cells4s Rz_4
          go_wp2_with fail
          refine (nat_Div (od d) gg q h ud vd HQ.out HH.out L2.out G0.out U2.out U4.out _).mono ?_
          rintro r w5 ⟨rfl, b5⟩
          have B5 : Below w.heap.size w w5 := btr B4 b5
          have Rz_5 := heap_of b5 _ _ _ Rz_4
          clear b5 B4 Rz_4 cz_4_0 cz_4_1 cz_4_2 cz_4_3
          obtain ⟨cz_5_0, cz_5_1, cz_5_2, cz_5_3⟩ := cells4s Rz_5
          have q0 := fz (k := 0) Rz_5
          have q1 := fz (k := 1) Rz_5
          have q2 := fz (k := 2) Rz_5
          have q3 := fz (k := 3) Rz_5
          obtain ⟨E0, E1, E2, E3⟩ := set4_cells Rz_5 rfl (.bool false) (.string ⟨#[]⟩) (.string ⟨#[]⟩) (.int .i64 0)
          go_wp2
          exact bodyPost_ret (v := .tuple #[.agg #[.bool false, .string ⟨#[]⟩, .string ⟨#[]⟩, .int .i64 0], .int .i64 4]) (by simp [results, Tryz.results41, go_sem, E0, E1, E2, E3]) rfl ⟨rfl, set4_below B5 (by first | exact Nat.le_refl _ | omega) _ _ _ _⟩
        · obtain ⟨Rz_0, B0⟩ := opn1 w (Obj.cells #[.bool false, .string ⟨#[]⟩, .string ⟨#[]⟩, .int .i64 0] 28)
          go_enter Tryz.func41, Tryz.ntmps41
          go_wp2_with fail
          refine (nat_may s true H1.out _).mono ?_
          rintro r w' ⟨rfl, rfl⟩
          go_wp2_with fail
          refine (nat_may t true H2.out _).mono ?_
          rintro r w' ⟨rfl, rfl⟩
          go_wp2_with fail
          refine (nat_Low n x s HS.out LN.out LX.out _).mono ?_
          rintro r w' ⟨rfl, rfl⟩
          go_wp2_with fail
          refine (nat_Low d y t HT.out LD.out LY.out _).mono ?_
          rintro r w' ⟨rfl, rfl⟩
          go_wp2_with fail
          refine (nat_Right n (x : Int) s p b1 HS.out LN.out (by omega) (by omega) P1.out O1.out _).mono ?_
          rintro r w1 ⟨rfl, b1⟩
          have B1 : Below w.heap.size w w1 := btr B0 b1
          have Rz_1 := heap_of b1 _ _ _ Rz_0
          clear b1 B0 Rz_0
          obtain ⟨cz_1_0, cz_1_1, cz_1_2, cz_1_3⟩ := cells4s Rz_1
          go_wp2_with fail
          refine (nat_Right d (y : Int) t q b2 HT.out LD.out (by omega) (by omega) Q1.out O2.out _).mono ?_
          rintro r w2 ⟨rfl, b2⟩
          have B2 : Below w.heap.size w w2 := btr B1 b2
          have Rz_2 := heap_of b2 _ _ _ Rz_1
          clear b2 B1 Rz_1 cz_1_0 cz_1_1 cz_1_2 cz_1_3
          obtain ⟨cz_2_0, cz_2_1, cz_2_2, cz_2_3⟩ := cells4s Rz_2
          go_wp2_with fail
          refine (nat_Gcd (od n) (od d) p q h HP.out HQ.out L1.out L2.out HG.out _).mono ?_
          rintro r w3 ⟨rfl, b3⟩
          have B3 : Below w.heap.size w w3 := btr B2 b3
          have Rz_3 := heap_of b3 _ _ _ Rz_2
          clear b3 B2 Rz_2 cz_2_0 cz_2_1 cz_2_2 cz_2_3
          obtain ⟨cz_3_0, cz_3_1, cz_3_2, cz_3_3⟩ := cells4s Rz_3
          go_wp2_with fail
          refine (nat_Div (od n) gg p h un vn HP.out HH.out L1.out G0.out U1.out U3.out _).mono ?_
          rintro r w4 ⟨rfl, b4⟩
          have B4 : Below w.heap.size w w4 := btr B3 b4
          have Rz_4 := heap_of b4 _ _ _ Rz_3
          clear b4 B3 Rz_3 cz_3_0 cz_3_1 cz_3_2 cz_3_3
          obtain ⟨cz_4_0, cz_4_1, cz_4_2, cz_4_3⟩ := cells4s Rz_4
          go_wp2_with fail
          refine (nat_Div (od d) gg q h ud vd HQ.out HH.out L2.out G0.out U2.out U4.out _).mono ?_
          rintro r w5 ⟨rfl, b5⟩
          have B5 : Below w.heap.size w w5 := btr B4 b5
          have Rz_5 := heap_of b5 _ _ _ Rz_4
          clear b5 B4 Rz_4 cz_4_0 cz_4_1 cz_4_2 cz_4_3
          obtain ⟨cz_5_0, cz_5_1, cz_5_2, cz_5_3⟩ := cells4s Rz_5
          have q0 := fz (k := 0) Rz_5
          have q1 := fz (k := 1) Rz_5
          have q2 := fz (k := 2) Rz_5
          have q3 := fz (k := 3) Rz_5
          obtain ⟨E0, E1, E2, E3⟩ := set4_cells Rz_5 rfl (.bool false) (.string ⟨#[]⟩) (.string ⟨#[]⟩) (.int .i64 0)
          go_wp2
          exact bodyPost_ret (v := .tuple #[.agg #[.bool false, .string ⟨#[]⟩, .string ⟨#[]⟩, .int .i64 0], .int .i64 4]) (by simp [results, Tryz.results41, go_sem, E0, E1, E2, E3]) rfl ⟨rfl, set4_below B5 (by first | exact Nat.le_refl _ | omega) _ _ _ _⟩

end Go.Proofs.YtkmlbjlaahcahaaGreatDoor
namespace Go.Proofs.YtkmlbjlaahcahaaGreatDoor
set_option maxRecDepth 100000
open Go.RowKit WMath XMath

/-- What stands at or above a power of two is at least the denominator, moved there. -/
theorem below_top (x : XN) (k : Int) (i : Nat) (hx : x.can) (hk : x.e + (i : Int) = k) (h : (2 : Rat) ^ k ≤ x.mag) : x.d * 2 ^ i ≤ x.n := by
  have d0 := hx.d0
  have m := Rat.mul_le_mul_of_nonneg_right h (Rat.le_of_lt (cast_pos d0))
  have e1 : x.mag * (x.d : Rat) = (x.n : Rat) * (2 : Rat) ^ x.e := by
    unfold XN.mag
    have z := cast_ne d0
    grind
  have e2 : (2 : Rat) ^ k * (x.d : Rat) = ((x.d * 2 ^ i : Nat) : Rat) * (2 : Rat) ^ x.e := by
    rw [← hk, p2add, Rat.natCast_mul, ← p2nat]
    grind
  rw [e1, e2] at m
  have m2 := Rat.le_of_mul_le_mul_right m (p2 x.e)
  exact Rat.natCast_le_natCast.1 m2
theorem rshifted (a k : Nat) (s v : ByteArray) (hs : nbA a = s) (ha : nl a ≤ 16384) (k2 : k ≤ 1000000) (h : nl (a * 2 ^ k) ≤ 16384) (hv : nbA (a * 2 ^ k) = v) (w : World) : Calls Tryz.prog 124 #[.string s, .int .i64 (k : Int)] w fun r w' => r = .returned (.string v) ∧ Below w.heap.size w w' := by
  have F1 := box (lf_up a k v h hv)
  have HS := box hs
  have HA := box ha
  clear hs ha h hv
  have B0 : Below w.heap.size w w := (Below.refl _ _)
  go_enter Tryz.func124, Tryz.ntmps124
  go_wp2_with fail
  refine (nat_Left a (k : Int) s v 0 HS.out HA.out (by omega) F1.out _).mono ?_
  rintro r w1 ⟨rfl, b1⟩
  have B1 : Below w.heap.size w w1 := btr B0 b1
  clear b1 B0 
  go_wp2
  go_ret
  exact ⟨rfl, B1⟩

set_option maxRecDepth 100000 in
set_option maxHeartbeats 2000000 in
theorem rTop_ok (b : Bool) (n d : Nat) (e : Int) (s t : ByteArray) (T : Int) (hs : nbA n = s) (ht : nbA d = t) (n0 : n ≠ 0) (hc : (XN.mk b n d e).can) (hr : topX (XN.mk b n d e) = T) (w : World) : Calls Tryz.prog 61 #[.agg #[.bool b, .string s, .string t, .int .i64 e]] w fun r w' => r = .returned (.tuple #[.int .i64 T, .int .i64 0]) ∧ Below w.heap.size w w' := by
  have e0 := eq_nil n s hs n0
  have d0 : d ≠ 0 := hc.d0
  have ln : nl n ≤ 16384 := hc.1
  have ld : nl d ≤ 16384 := hc.2.1
  have he : -1048576 ≤ e ∧ e ≤ 1048576 := ⟨hc.2.2.1, hc.2.2.2.1⟩
  obtain ⟨l1, l2⟩ := tAB_nl (XN.mk b n d e) n0 d0 ln ld
  obtain ⟨x, hx⟩ : ∃ x, blen n = x := ⟨_, rfl⟩
  obtain ⟨y, hy⟩ : ∃ x, blen d = x := ⟨_, rfl⟩
  have x2 : x ≤ 131072 := by unfold nl at ln; omega
  have y2 : y ≤ 131072 := by unfold nl at ld; omega
  have HS := box hs
  have HT := box ht
  have LN := box ln
  have LD := box ld
  have HX := box hx
  have HY := box hy
  by_cases hk0 : y ≤ x
  · obtain ⟨k, hk⟩ : ∃ k : Nat, x - y = k := ⟨_, rfl⟩
    have hlen : lenD (XN.mk b n d e) = (k : Int) := by unfold lenD; show (blen n : Int) - (blen d : Int) = k; rw [hx, hy]; omega
    have eA : tA (XN.mk b n d e) = n := by unfold tA; rw [hlen, show (max (-(k : Int)) 0).toNat = 0 by omega, Nat.pow_zero, Nat.mul_one]
    have eB : tB (XN.mk b n d e) = d * 2 ^ k := by unfold tB; rw [hlen, show (max (k : Int) 0).toNat = k by omega]
    rw [eB] at l2
    obtain ⟨q, hq⟩ : ∃ p, nbA (d * 2 ^ k) = p := ⟨_, rfl⟩
    obtain ⟨c, hcm⟩ : ∃ c, cmpv n (d * 2 ^ k) = c := ⟨_, rfl⟩
    have HF := box (fun w => rshifted d k t q ht ld (by omega) l2 hq w)
    have HQ := box hq
    have HC := box hcm
    have m1 : IntKind.i64.wrap ((x : Int) - (y : Int)) = (k : Int) := by rw [wrap_i64_is _ (by omega) (by omega)]; omega
    have m5 : IntKind.i64.wrap ((k : Int) - 1) = (k : Int) - 1 := wrap_i64_is _ (by omega) (by omega)
    have m6 : IntKind.i64.wrap ((k : Int) - 1 + e) = (k : Int) - 1 + e := wrap_i64_is _ (by omega) (by omega)
    have m7 : IntKind.i64.wrap ((k : Int) + e) = (k : Int) + e := wrap_i64_is _ (by omega) (by omega)
    have g0 : decide ((0 : Int) ≤ (k : Int)) = true := decide_eq_true (by omega)
    have hT2 : T = (if n < d * 2 ^ k then (k : Int) - 1 else (k : Int)) + e := by rw [← hr]; unfold topX; rw [eA, eB, hlen]
    by_cases hl : n < d * 2 ^ k
    · rw [if_pos hl] at hT2
      have g1 : decide ((0 : Int) ≤ c) = false := decide_eq_false (by have := (cmpv_neg n (d * 2 ^ k)).2 hl; omega)
      subst hT2
      clear hs ht hc hr n0 d0 ln ld he l1 l2 hx hy hk0 hk hlen eA eB hq hcm hl
      obtain ⟨Rx_0, B0⟩ := opn1 w (Obj.cells #[.bool b, .string s, .string t, .int .i64 e] 28)
      go_enter Tryz.func61, Tryz.ntmps61
      go_wp2_with fail
      go_quiet (fail)
      obtain ⟨w1, hw, B1, hh⟩ := quiet_world B0 nq
      rw [hw]
      have Rx_1 : w1.heap[w.heap.size]? = some (Obj.cells #[.bool b, .string s, .string t, .int .i64 e] 28) := by rw [hh]; exact Rx_0
      clear hw hh B0 Rx_0
      obtain ⟨cx_1_0, cx_1_1, cx_1_2, cx_1_3⟩ := cells4s Rx_1
      go_wp2_with fail
      refine (nat_Len n x s HS.out LN.out HX.out _).mono ?_
      rintro r w' ⟨rfl, rfl⟩
      go_wp2_with fail
      refine (nat_Len d y t HT.out LD.out HY.out _).mono ?_
      rintro r w' ⟨rfl, rfl⟩
      go_wp2_with fail
      refine (HF.out _).mono ?_
      rintro r w2 ⟨rfl, b2⟩
      have B2 : Below w.heap.size w w2 := btr B1 b2
      have Rx_2 := heap_of b2 _ _ _ Rx_1
      clear b2 B1 Rx_1 cx_1_0 cx_1_1 cx_1_2 cx_1_3
      obtain ⟨cx_2_0, cx_2_1, cx_2_2, cx_2_3⟩ := cells4s Rx_2
      go_wp2_with fail
      refine (nat_cmp n (d * 2 ^ k) s q c HS.out HQ.out HC.out _).mono ?_
      rintro r w' ⟨rfl, rfl⟩
      go_wp2
      go_ret2
      exact ⟨rfl, B2⟩
    · rw [if_neg hl] at hT2
      have g1 : decide ((0 : Int) ≤ c) = true := decide_eq_true (by have := mt (cmpv_neg n (d * 2 ^ k)).1 hl; omega)
      subst hT2
      clear hs ht hc hr n0 d0 ln ld he l1 l2 hx hy hk0 hk hlen eA eB hq hcm hl
      obtain ⟨Rx_0, B0⟩ := opn1 w (Obj.cells #[.bool b, .string s, .string t, .int .i64 e] 28)
      go_enter Tryz.func61, Tryz.ntmps61
      go_wp2_with fail
      go_quiet (fail)
      obtain ⟨w1, hw, B1, hh⟩ := quiet_world B0 nq
      rw [hw]
      have Rx_1 : w1.heap[w.heap.size]? = some (Obj.cells #[.bool b, .string s, .string t, .int .i64 e] 28) := by rw [hh]; exact Rx_0
      clear hw hh B0 Rx_0
      obtain ⟨cx_1_0, cx_1_1, cx_1_2, cx_1_3⟩ := cells4s Rx_1
      go_wp2_with fail
      refine (nat_Len n x s HS.out LN.out HX.out _).mono ?_
      rintro r w' ⟨rfl, rfl⟩
      go_wp2_with fail
      refine (nat_Len d y t HT.out LD.out HY.out _).mono ?_
      rintro r w' ⟨rfl, rfl⟩
      go_wp2_with fail
      refine (HF.out _).mono ?_
      rintro r w2 ⟨rfl, b2⟩
      have B2 : Below w.heap.size w w2 := btr B1 b2
      have Rx_2 := heap_of b2 _ _ _ Rx_1
      clear b2 B1 Rx_1 cx_1_0 cx_1_1 cx_1_2 cx_1_3
      obtain ⟨cx_2_0, cx_2_1, cx_2_2, cx_2_3⟩ := cells4s Rx_2
      go_wp2_with fail
      refine (nat_cmp n (d * 2 ^ k) s q c HS.out HQ.out HC.out _).mono ?_
      rintro r w' ⟨rfl, rfl⟩
      go_wp2
      go_ret2
      exact ⟨rfl, B2⟩
  · obtain ⟨k, hk⟩ : ∃ k : Nat, y - x = k := ⟨_, rfl⟩
    have k1 : 1 ≤ k := by omega
    have hlen : lenD (XN.mk b n d e) = -(k : Int) := by unfold lenD; show (blen n : Int) - (blen d : Int) = -(k : Int); rw [hx, hy]; omega
    have eA : tA (XN.mk b n d e) = n * 2 ^ k := by unfold tA; rw [hlen, show (max (- -(k : Int)) 0).toNat = k by omega]
    have eB : tB (XN.mk b n d e) = d := by unfold tB; rw [hlen, show (max (-(k : Int)) 0).toNat = 0 by omega, Nat.pow_zero, Nat.mul_one]
    rw [eA] at l1
    obtain ⟨q, hq⟩ : ∃ p, nbA (n * 2 ^ k) = p := ⟨_, rfl⟩
    obtain ⟨c, hcm⟩ : ∃ c, cmpv (n * 2 ^ k) d = c := ⟨_, rfl⟩
    have HF := box (fun w => rshifted n k s q hs ln (by omega) l1 hq w)
    have HQ := box hq
    have HC := box hcm
    obtain ⟨K, hK⟩ : ∃ K : Int, -(k : Int) = K := ⟨_, rfl⟩
    have m1 : IntKind.i64.wrap ((x : Int) - (y : Int)) = K := by rw [wrap_i64_is _ (by omega) (by omega)]; omega
    have m2 : IntKind.i64.wrap (-K) = (k : Int) := by rw [wrap_i64_is _ (by omega) (by omega)]; omega
    have m5 : IntKind.i64.wrap (K - 1) = K - 1 := wrap_i64_is _ (by omega) (by omega)
    have m6 : IntKind.i64.wrap (K - 1 + e) = K - 1 + e := wrap_i64_is _ (by omega) (by omega)
    have m7 : IntKind.i64.wrap (K + e) = K + e := wrap_i64_is _ (by omega) (by omega)
    have g0 : decide ((0 : Int) ≤ K) = false := decide_eq_false (by omega)
    have hT2 : T = (if n * 2 ^ k < d then K - 1 else K) + e := by rw [← hr]; unfold topX; rw [eA, eB, hlen, hK]
    by_cases hl : n * 2 ^ k < d
    · rw [if_pos hl] at hT2
      have g1 : decide ((0 : Int) ≤ c) = false := decide_eq_false (by have := (cmpv_neg (n * 2 ^ k) d).2 hl; omega)
      subst hT2
      clear hs ht hc hr n0 d0 ln ld he l1 l2 hx hy hk0 hk hlen eA eB hq hcm hl hK
      obtain ⟨Rx_0, B0⟩ := opn1 w (Obj.cells #[.bool b, .string s, .string t, .int .i64 e] 28)
      go_enter Tryz.func61, Tryz.ntmps61
      go_wp2_with fail
      go_quiet (fail)
      obtain ⟨w1, hw, B1, hh⟩ := quiet_world B0 nq
      rw [hw]
      have Rx_1 : w1.heap[w.heap.size]? = some (Obj.cells #[.bool b, .string s, .string t, .int .i64 e] 28) := by rw [hh]; exact Rx_0
      clear hw hh B0 Rx_0
      obtain ⟨cx_1_0, cx_1_1, cx_1_2, cx_1_3⟩ := cells4s Rx_1
      go_wp2_with fail
      refine (nat_Len n x s HS.out LN.out HX.out _).mono ?_
      rintro r w' ⟨rfl, rfl⟩
      go_wp2_with fail
      refine (nat_Len d y t HT.out LD.out HY.out _).mono ?_
      rintro r w' ⟨rfl, rfl⟩
      go_wp2_with fail
      refine (HF.out _).mono ?_
      rintro r w2 ⟨rfl, b2⟩
      have B2 : Below w.heap.size w w2 := btr B1 b2
      have Rx_2 := heap_of b2 _ _ _ Rx_1
      clear b2 B1 Rx_1 cx_1_0 cx_1_1 cx_1_2 cx_1_3
      obtain ⟨cx_2_0, cx_2_1, cx_2_2, cx_2_3⟩ := cells4s Rx_2
      go_wp2_with fail
      refine (nat_cmp (n * 2 ^ k) d q t c HQ.out HT.out HC.out _).mono ?_
      rintro r w' ⟨rfl, rfl⟩
      go_wp2
      go_ret2
      exact ⟨rfl, B2⟩
    · rw [if_neg hl] at hT2
      have g1 : decide ((0 : Int) ≤ c) = true := decide_eq_true (by have := mt (cmpv_neg (n * 2 ^ k) d).1 hl; omega)
      subst hT2
      clear hs ht hc hr n0 d0 ln ld he l1 l2 hx hy hk0 hk hlen eA eB hq hcm hl hK
      obtain ⟨Rx_0, B0⟩ := opn1 w (Obj.cells #[.bool b, .string s, .string t, .int .i64 e] 28)
      go_enter Tryz.func61, Tryz.ntmps61
      go_wp2_with fail
      go_quiet (fail)
      obtain ⟨w1, hw, B1, hh⟩ := quiet_world B0 nq
      rw [hw]
      have Rx_1 : w1.heap[w.heap.size]? = some (Obj.cells #[.bool b, .string s, .string t, .int .i64 e] 28) := by rw [hh]; exact Rx_0
      clear hw hh B0 Rx_0
      obtain ⟨cx_1_0, cx_1_1, cx_1_2, cx_1_3⟩ := cells4s Rx_1
      go_wp2_with fail
      refine (nat_Len n x s HS.out LN.out HX.out _).mono ?_
      rintro r w' ⟨rfl, rfl⟩
      go_wp2_with fail
      refine (nat_Len d y t HT.out LD.out HY.out _).mono ?_
      rintro r w' ⟨rfl, rfl⟩
      go_wp2_with fail
      refine (HF.out _).mono ?_
      rintro r w2 ⟨rfl, b2⟩
      have B2 : Below w.heap.size w w2 := btr B1 b2
      have Rx_2 := heap_of b2 _ _ _ Rx_1
      clear b2 B1 Rx_1 cx_1_0 cx_1_1 cx_1_2 cx_1_3
      obtain ⟨cx_2_0, cx_2_1, cx_2_2, cx_2_3⟩ := cells4s Rx_2
      go_wp2_with fail
      refine (nat_cmp (n * 2 ^ k) d q t c HQ.out HT.out HC.out _).mono ?_
      rintro r w' ⟨rfl, rfl⟩
      go_wp2
      go_ret2
      exact ⟨rfl, B2⟩
set_option maxRecDepth 100000 in
set_option maxHeartbeats 2000000 in
theorem rFloor_ok (b : Bool) (n d : Nat) (e : Int) (s t : ByteArray) (k : Int) (m : Nat) (is : Bool) (err : Int) (v : ByteArray) (hs : nbA n = s) (ht : nbA d = t) (hc : (XN.mk b n d e).can) (k1 : -9223372036854775808 ≤ k) (k2 : k ≤ 9223372036854775807)
    (hr : flX (XN.mk b n d e) k = ((m, is), err)) (hv : nbA m = v) (w : World) : Calls Tryz.prog 64 #[.agg #[.bool b, .string s, .string t, .int .i64 e], .int .i64 k] w fun r w' => r = .returned (.tuple #[.string v, .bool is, .int .i64 err]) ∧ Below w.heap.size w w' := by
  unfold flX at hr
  by_cases hk : k < -2097152 ∨ 2097152 < k
  · rw [if_pos hk] at hr
    cases hr
    rw [nbA_zero] at hv
    subst hv
    have c12 : decide (k < -2097152) = true ∨ (decide (k < -2097152) = false ∧ decide (2097152 < k) = true) := by
      by_cases hh : k < -2097152
      · exact Or.inl (decide_eq_true hh)
      · exact Or.inr ⟨decide_eq_false hh, decide_eq_true (by omega)⟩
    clear hs ht hc k1 k2 hk
    rcases c12 with c1 | ⟨c1, c2⟩
    · obtain ⟨Rx_0, B0⟩ := opn1 w (Obj.cells #[.bool b, .string s, .string t, .int .i64 e] 28)
      go_enter Tryz.func64, Tryz.ntmps64
      go_wp2
      go_ret3
      exact ⟨rfl, B0⟩
    · obtain ⟨Rx_0, B0⟩ := opn1 w (Obj.cells #[.bool b, .string s, .string t, .int .i64 e] 28)
      go_enter Tryz.func64, Tryz.ntmps64
      go_wp2
      go_ret3
      exact ⟨rfl, B0⟩
  rw [if_neg hk] at hr
  have c1 : decide (k < -2097152) = false := decide_eq_false (by omega)
  have c2 : decide (2097152 < k) = false := decide_eq_false (by omega)
  rcases x_cases hs ht hc with ⟨n0, rfl, rfl, rfl, rfl, rfl⟩ | ⟨n0, e0⟩
  · rw [if_pos n0] at hr
    cases hr
    rw [nbA_zero] at hv
    subst hv
    clear hs ht hc k1 k2 hk n0
    obtain ⟨Rx_0, B0⟩ := opn1 w (Obj.cells #[.bool false, .string ⟨#[]⟩, .string ⟨#[1]⟩, .int .i64 0] 28)
    go_enter Tryz.func64, Tryz.ntmps64
    go_wp2
    go_ret3
    exact ⟨rfl, B0⟩
  rw [if_neg n0] at hr
  have he : -1048576 ≤ e ∧ e ≤ 1048576 := ⟨hc.2.2.1, hc.2.2.2.1⟩
  have HS := box hs
  have HT := box ht
  have LN := box hc.1
  have LD := box hc.2.1
  have D0 := box hc.d0
  by_cases hek : k ≤ e
  · rw [if_pos hek] at hr
    obtain ⟨i, hi⟩ : ∃ i, (e - k).toNat = i := ⟨_, rfl⟩
    have m1 : IntKind.i64.wrap (e - k) = (i : Int) := by rw [wrap_i64_is _ (by omega) (by omega)]; omega
    have hr2 : (if nl (n * 2 ^ i) ≤ 16384 then ((n * 2 ^ i / d, decide (n * 2 ^ i % d = 0)), (0 : Int)) else ((0, false), 4)) = ((m, is), err) := by rw [← hi]; exact hr
    have d2 : decide (k ≤ e) = true := decide_eq_true hek
    have i2 : i ≤ 100000000 := by omega
    by_cases hl : nl (n * 2 ^ i) ≤ 16384
    · rw [if_pos hl] at hr2
      cases hr2
      obtain ⟨p, hp⟩ : ∃ p, nbA (n * 2 ^ i) = p := ⟨_, rfl⟩
      obtain ⟨y, hy⟩ : ∃ y, nbA (n * 2 ^ i % d) = y := ⟨_, rfl⟩
      have F1 := box (lf_up n i p hl hp)
      have e3 : (y.toList == []) = decide (n * 2 ^ i % d = 0) := by
        rw [eq_empty, ← hy, nbA_size, Bool.eq_iff_iff, decide_eq_true_iff, decide_eq_true_iff]
        exact ⟨nl_eq0 _, fun h => by rw [h]; exact nl_zero⟩
      obtain ⟨o, ho⟩ : ∃ o, decide (n * 2 ^ i % d = 0) = o := ⟨_, rfl⟩
      rw [ho] at e3 ⊢
      have HP := box hp
      have HY := box hy
      have HL := box hl
      have HV := box hv
      clear hs ht hc k1 k2 hk n0 he hek hi hr hp hy hl ho hv
      obtain ⟨Rx_0, B0⟩ := opn1 w (Obj.cells #[.bool b, .string s, .string t, .int .i64 e] 28)
      go_enter Tryz.func64, Tryz.ntmps64
      go_wp2_with fail
      go_quiet (fail)
      obtain ⟨w1, hw, B1, hh⟩ := quiet_world B0 nq
      rw [hw]
      have Rx_1 : w1.heap[w.heap.size]? = some (Obj.cells #[.bool b, .string s, .string t, .int .i64 e] 28) := by rw [hh]; exact Rx_0
      clear hw hh B0 Rx_0
      obtain ⟨cx_1_0, cx_1_1, cx_1_2, cx_1_3⟩ := cells4s Rx_1
      go_wp2_with fail
      refine (nat_Left n (i : Int) s p 0 HS.out LN.out (by omega) F1.out _).mono ?_
      rintro r w2 ⟨rfl, b2⟩
      have B2 : Below w.heap.size w w2 := btr B1 b2
      have Rx_2 := heap_of b2 _ _ _ Rx_1
      clear b2 B1 Rx_1 cx_1_0 cx_1_1 cx_1_2 cx_1_3
      obtain ⟨cx_2_0, cx_2_1, cx_2_2, cx_2_3⟩ := cells4s Rx_2
      go_wp2_with fail
      refine (nat_Div (n * 2 ^ i) d p t v y HP.out HT.out HL.out D0.out HV.out HY.out _).mono ?_
      rintro r w3 ⟨rfl, b3⟩
      have B3 : Below w.heap.size w w3 := btr B2 b3
      have Rx_3 := heap_of b3 _ _ _ Rx_2
      clear b3 B2 Rx_2 cx_2_0 cx_2_1 cx_2_2 cx_2_3
      obtain ⟨cx_3_0, cx_3_1, cx_3_2, cx_3_3⟩ := cells4s Rx_3
      go_wp2
      go_ret3
      exact ⟨rfl, B3⟩
    · rw [if_neg hl] at hr2
      cases hr2
      rw [nbA_zero] at hv
      subst hv
      have F1 : Box (lf n (i : Int) = (⟨#[]⟩, 4)) := box (by unfold lf; rw [if_neg (by omega), Int.toNat_natCast]; exact lg_no _ hl)
      clear hs ht hc k1 k2 hk n0 he hek hi hr hl
      obtain ⟨Rx_0, B0⟩ := opn1 w (Obj.cells #[.bool b, .string s, .string t, .int .i64 e] 28)
      go_enter Tryz.func64, Tryz.ntmps64
      go_wp2_with fail
      go_quiet (fail)
      obtain ⟨w1, hw, B1, hh⟩ := quiet_world B0 nq
      rw [hw]
      have Rx_1 : w1.heap[w.heap.size]? = some (Obj.cells #[.bool b, .string s, .string t, .int .i64 e] 28) := by rw [hh]; exact Rx_0
      clear hw hh B0 Rx_0
      obtain ⟨cx_1_0, cx_1_1, cx_1_2, cx_1_3⟩ := cells4s Rx_1
      go_wp2_with fail
      refine (nat_Left n (i : Int) s _ 4 HS.out LN.out (by omega) F1.out _).mono ?_
      rintro r w2 ⟨rfl, b2⟩
      have B2 : Below w.heap.size w w2 := btr B1 b2
      have Rx_2 := heap_of b2 _ _ _ Rx_1
      clear b2 B1 Rx_1 cx_1_0 cx_1_1 cx_1_2 cx_1_3
      obtain ⟨cx_2_0, cx_2_1, cx_2_2, cx_2_3⟩ := cells4s Rx_2
      go_wp2
      go_ret3
      exact ⟨rfl, B2⟩
  · rw [if_neg hek] at hr
    have d2 : decide (k ≤ e) = false := decide_eq_false hek
    obtain ⟨T, hTop⟩ : ∃ T, topX (XN.mk b n d e) = T := ⟨_, rfl⟩
    have HF := box (fun w => rTop_ok b n d e s t T hs ht n0 hc hTop w)
    have ht2 := top_good (XN.mk b n d e) n0 hc.d0
    rw [hTop] at hr ht2
    by_cases hlt : T < k
    · rw [if_pos hlt] at hr
      cases hr
      rw [nbA_zero] at hv
      subst hv
      have d1 : decide (T < k) = true := decide_eq_true hlt
      clear hs ht hc k1 k2 hk n0 he hek hTop hlt ht2
      obtain ⟨Rx_0, B0⟩ := opn1 w (Obj.cells #[.bool b, .string s, .string t, .int .i64 e] 28)
      go_enter Tryz.func64, Tryz.ntmps64
      go_wp2_with fail
      go_quiet (fail)
      obtain ⟨w1, hw, B1, hh⟩ := quiet_world B0 nq
      rw [hw]
      have Rx_1 : w1.heap[w.heap.size]? = some (Obj.cells #[.bool b, .string s, .string t, .int .i64 e] 28) := by rw [hh]; exact Rx_0
      clear hw hh B0 Rx_0
      obtain ⟨cx_1_0, cx_1_1, cx_1_2, cx_1_3⟩ := cells4s Rx_1
      go_wp2_with fail
      refine (HF.out _).mono ?_
      rintro r w2 ⟨rfl, b2⟩
      have B2 : Below w.heap.size w w2 := btr B1 b2
      have Rx_2 := heap_of b2 _ _ _ Rx_1
      clear b2 B1 Rx_1 cx_1_0 cx_1_1 cx_1_2 cx_1_3
      obtain ⟨cx_2_0, cx_2_1, cx_2_2, cx_2_3⟩ := cells4s Rx_2
      go_wp2
      go_ret3
      exact ⟨rfl, B2⟩
    · rw [if_neg hlt] at hr
      cases hr
      obtain ⟨i, hi⟩ : ∃ i, (k - e).toNat = i := ⟨_, rfl⟩
      have hv2 : nbA (n / (d * 2 ^ i)) = v := by rw [← hi]; exact hv
      have m1 : IntKind.i64.wrap (k - e) = (i : Int) := by rw [wrap_i64_is _ (by omega) (by omega)]; omega
      have i2 : i ≤ 100000000 := by omega
      have hle := below_top (XN.mk b n d e) k i hc (by show e + (i : Int) = k; omega) (by
        have h1 := ht2.1
        exact Rat.le_trans (p2mono k T (by omega)) h1)
      have hle2 : d * 2 ^ i ≤ n := hle
      have L3 : nl (d * 2 ^ i) ≤ 16384 := Nat.le_trans (nl_mono _ _ hle2) hc.1
      obtain ⟨p, hp⟩ : ∃ p, nbA (d * 2 ^ i) = p := ⟨_, rfl⟩
      obtain ⟨y, hy⟩ : ∃ y, nbA (n % (d * 2 ^ i)) = y := ⟨_, rfl⟩
      have F1 := box (lf_up d i p L3 hp)
      have i1 : 1 ≤ i := by omega
      have hz : n % (d * 2 ^ i) ≠ 0 := by
        intro hm
        obtain ⟨z, hz⟩ : ∃ z, i = z + 1 := ⟨i - 1, by omega⟩
        rw [hz, Nat.pow_succ, ← Nat.mul_assoc] at hm
        obtain ⟨q, hq⟩ := Nat.dvd_of_mod_eq_zero hm
        have : n % 2 = 1 := (hc.odd n0).1
        rw [hq, Nat.mul_assoc, Nat.mul_assoc, Nat.mul_left_comm (2 ^ z) 2, Nat.mul_left_comm d 2, Nat.mul_mod_right] at this
        omega
      have e3 := eq_nil _ y hy hz
      have d1 : decide (T < k) = false := decide_eq_false hlt
      have HP := box hp
      have HY := box hy
      have HV := box hv2
      have D3 : Box (d * 2 ^ i ≠ 0) := box (mul_ne hc.d0 (Nat.pos_iff_ne_zero.1 (Nat.two_pow_pos _)))
      clear hs ht hc k1 k2 hk n0 he hek hTop hlt ht2 hi hv hv2 hle hle2 L3 hp hy hz
      obtain ⟨Rx_0, B0⟩ := opn1 w (Obj.cells #[.bool b, .string s, .string t, .int .i64 e] 28)
      go_enter Tryz.func64, Tryz.ntmps64
      go_wp2_with fail
      go_quiet (fail)
      obtain ⟨w1, hw, B1, hh⟩ := quiet_world B0 nq
      rw [hw]
      have Rx_1 : w1.heap[w.heap.size]? = some (Obj.cells #[.bool b, .string s, .string t, .int .i64 e] 28) := by rw [hh]; exact Rx_0
      clear hw hh B0 Rx_0
      obtain ⟨cx_1_0, cx_1_1, cx_1_2, cx_1_3⟩ := cells4s Rx_1
      go_wp2_with fail
      refine (HF.out _).mono ?_
      rintro r w2 ⟨rfl, b2⟩
      have B2 : Below w.heap.size w w2 := btr B1 b2
      have Rx_2 := heap_of b2 _ _ _ Rx_1
      clear b2 B1 Rx_1 cx_1_0 cx_1_1 cx_1_2 cx_1_3
      obtain ⟨cx_2_0, cx_2_1, cx_2_2, cx_2_3⟩ := cells4s Rx_2
      go_wp2_with fail
      refine (nat_Left d (i : Int) t p 0 HT.out LD.out (by omega) F1.out _).mono ?_
      rintro r w3 ⟨rfl, b3⟩
      have B3 : Below w.heap.size w w3 := btr B2 b3
      have Rx_3 := heap_of b3 _ _ _ Rx_2
      clear b3 B2 Rx_2 cx_2_0 cx_2_1 cx_2_2 cx_2_3
      obtain ⟨cx_3_0, cx_3_1, cx_3_2, cx_3_3⟩ := cells4s Rx_3
      go_wp2_with fail
      refine (nat_Div n (d * 2 ^ i) s p v y HS.out HP.out LN.out D3.out HV.out HY.out _).mono ?_
      rintro r w4 ⟨rfl, b4⟩
      have B4 : Below w.heap.size w w4 := btr B3 b4
      have Rx_4 := heap_of b4 _ _ _ Rx_3
      clear b4 B3 Rx_3 cx_3_0 cx_3_1 cx_3_2 cx_3_3
      obtain ⟨cx_4_0, cx_4_1, cx_4_2, cx_4_3⟩ := cells4s Rx_4
      go_wp2
      go_ret3
      exact ⟨rfl, B4⟩
end Go.Proofs.YtkmlbjlaahcahaaGreatDoor
namespace Go.Proofs.YtkmlbjlaahcahaaGreatDoor
set_option maxRecDepth 100000
open Go.RowKit WMath XMath
set_option linter.unusedSimpArgs false
set_option linter.unusedVariables false

/-- The value of a finite encoding. -/
def vX (f : Int) (n : Nat) : XN := (mk (kN f n) (kS f n) 1 (kX f n)).1
theorem kS_lim {f : Int} (hf : Is4 f) (n : Nat) : kS f n < 340282366920938463463374607431768211456 ∧ -20000 ≤ kX f n ∧ kX f n ≤ 20000 := by
  obtain ⟨g1, g2, g3, g4, g5, g6, g7⟩ := fm hf
  obtain ⟨l1, l2, l3, l4, l5⟩ := lx_lim hf
  obtain ⟨n1, n2, n3, n4, n5, n6⟩ := nm8 hf
  have tl := kT_lt (f := f) n
  have el := kE_le (f := f) n
  have oe : (oV f : Int) = 2 * fE f + 1 := by unfold oV; omega
  have pn : 2 ^ pV f + kT f n < 340282366920938463463374607431768211456 := by rw [g1, Nat.add_mul] at g7; have := Nat.mul_le_mul_right (2 ^ pV f) g5; omega
  refine ⟨?_, ?_, ?_⟩
  · unfold kS; split <;> (try split) <;> omega
  · unfold kX; split <;> (try split) <;> omega
  · unfold kX; split <;> (try split) <;> omega
theorem k_parts {f : Int} (n : Nat) (h : kC f n = 1 ∨ kC f n = 2 ∨ kC f n = 5 ∨ kC f n = 6) : kE f n < oV f ∧ kS f n = sV f (kE f n) (kT f n) ∧ kX f n = xV f (kE f n) ∧ kS f n ≠ 0 := by
  have el := kE_le (f := f) n
  have p := Nat.two_pow_pos (pV f)
  have h2 := h
  unfold kC at h2
  by_cases c1 : kE f n = oV f
  · rw [if_pos c1] at h2
    exfalso
    (repeat' split at h2) <;> omega
  · rw [if_neg c1] at h2
    unfold kS kX sV xV
    by_cases c2 : kE f n = 0
    · rw [if_neg (by omega)] at h2
      by_cases c3 : kT f n = 0
      · rw [if_neg (by omega)] at h2
        exfalso
        split at h2 <;> omega
      · rw [if_pos c3] at h2
        have hc : kC f n = 2 ∨ kC f n = 5 := by
          unfold kC
          rw [if_neg c1, if_neg (by omega), if_pos c3]
          cases kN f n <;> simp
        rw [if_pos hc, if_pos hc, if_pos c2, if_pos c2]
        exact ⟨by omega, rfl, rfl, c3⟩
    · have hc : kC f n = 1 ∨ kC f n = 6 := by
        unfold kC
        rw [if_neg c1, if_pos c2]
        cases kN f n <;> simp
      have hn : ¬ (kC f n = 2 ∨ kC f n = 5) := by omega
      rw [if_neg hn, if_neg hn, if_pos hc, if_pos hc, if_neg c2, if_neg c2]
      exact ⟨by omega, rfl, rfl, by omega⟩
theorem k_null {f : Int} (n : Nat) (h : kC f n = 3 ∨ kC f n = 4) : kS f n = 0 ∧ kX f n = 0 := by
  unfold kS kX
  rw [if_neg (by omega), if_neg (by omega), if_neg (by omega), if_neg (by omega)]
  exact ⟨rfl, rfl⟩
theorem vX_mk {f : Int} (hf : Is4 f) (n : Nat) (h : 0 < kC f n ∧ kC f n < 7) : mk (kN f n) (kS f n) 1 (kX f n) = (vX f n, 0) := by
  unfold vX
  by_cases c : kC f n = 3 ∨ kC f n = 4
  · rw [(k_null n c).1, mk_null]
  · obtain ⟨a, b, d, e⟩ := k_parts (f := f) n (by omega)
    have := (val_of hf (kN f n) (kE f n) (kT f n) a (kT_lt n) (by rw [← b]; exact e)).1
    rw [b, d, this]
theorem kValue_no (f : Int) (h0 : 0 ≤ f) (h1 : f ≤ 255) (x y n : Nat) (hx : x < 18446744073709551616) (hy : y < 18446744073709551616) (hn : y + 18446744073709551616 * x = n) (ho : okB f n = false) (w : World) (hT : FAt w) : Calls Tryz.prog 8 #[.int .u8 f, .agg #[.int .u64 (x : Nat), .int .u64 (y : Nat)]] w fun r w' => r = .returned (.tuple #[.agg #[.bool false, .string ⟨#[]⟩, .string ⟨#[]⟩, .int .i64 0], .int .i64 2]) ∧ Below w.heap.size w w' :=
  kvalue_no f x y w (box (fun w hT => kUnpack_no f h0 h1 x y n hx hy hn ho w hT)) hT
theorem kValue_inf (f : Int) (hf : Is4 f) (x y n : Nat) (hx : x < 18446744073709551616) (hy : y < 18446744073709551616) (hn : y + 18446744073709551616 * x = n) (ho : okB f n = true) (hc : ¬ (0 < kC f n ∧ kC f n < 7)) (w : World) (hT : FAt w) : Calls Tryz.prog 8 #[.int .u8 f, .agg #[.int .u64 (x : Nat), .int .u64 (y : Nat)]] w fun r w' => r = .returned (.tuple #[.agg #[.bool false, .string ⟨#[]⟩, .string ⟨#[]⟩, .int .i64 0], .int .i64 80]) ∧ Below w.heap.size w w' :=
  kvalue_inf f x y (kC f n) (kS f n) (kF f n) (kX f n) w (box (fun w hT => kUnpack_yes f hf x y n _ _ _ _ hx hy hn ho rfl w hT)) (box (fun w => kfin_is _ false (by simp only [Bool.and_eq_false_iff, decide_eq_false_iff_not]; omega) w)) hT
theorem kValue_yes (f : Int) (hf : Is4 f) (x y n : Nat) (hx : x < 18446744073709551616) (hy : y < 18446744073709551616) (hn : y + 18446744073709551616 * x = n) (ho : okB f n = true) (hc : 0 < kC f n ∧ kC f n < 7) (rb : Bool) (rn rd : Nat) (re : Int) (u v : ByteArray) (hv : vX f n = ⟨rb, rn, rd, re⟩) (hu1 : nbA rn = u) (hu2 : nbA rd = v) (w : World) (hT : FAt w) (hT2 : TabAt w) : Calls Tryz.prog 8 #[.int .u8 f, .agg #[.int .u64 (x : Nat), .int .u64 (y : Nat)]] w fun r w' => r = .returned (.tuple #[.agg #[.bool rb, .string u, .string v, .int .i64 re], .int .i64 0]) ∧ Below w.heap.size w w' := by
  obtain ⟨s1, s2, s3⟩ := kS_lim hf n
  have hm := vX_mk hf n hc
  rw [hv] at hm
  have ls : nl (kS f n) ≤ 16384 := nl_pow _ 128 (by rw [show (2 : Nat) ^ 128 = 340282366920938463463374607431768211456 by decide]; exact s1) (by decide)
  exact kvalue_yes f x y (kC f n) (kS f n) (kF f n) (kX f n) (kN f n) _ rb u v re 0 w (box (fun w hT => kUnpack_yes f hf x y n _ _ _ _ hx hy hn ho rfl w hT)) (box (fun w => kfin_is _ true (by simp only [Bool.and_eq_true, decide_eq_true_eq]; exact hc) w))
    (box (fun w hT => ksign_is f hf x y n _ hx hy hn rfl w hT)) (box (fun w => knatOf_is _ _ (lt_Q7 s1) rfl w)) (box (fun w hT => makex_ok _ _ 1 _ _ _ rb rn rd re 0 u v rfl nb1 ls nl1 (by decide) (by omega) (by omega) hm hu1 hu2 w hT)) hT hT2
theorem rValue_inf (f : Int) (hf : Is4 f) (x y n : Nat) (hx : x < 18446744073709551616) (hy : y < 18446744073709551616) (hn : y + 18446744073709551616 * x = n) (fit : Fit f n) (hc : ¬ (0 < kC f n ∧ kC f n < 7)) (w : World) : Calls Tryz.prog 10 #[.int .u8 f, .agg #[.int .u64 (x : Nat), .int .u64 (y : Nat)]] w fun r w' => r = .returned (.tuple #[.agg #[.bool false, .string ⟨#[]⟩, .string ⟨#[]⟩, .int .i64 0], .int .i64 80]) ∧ Below w.heap.size w w' :=
  rvalue_inf f x y (kC f n) (kS f n) (kF f n) (kX f n) w (box (fun w => rUnpack_is f hf x y n hx hy hn fit w)) (by have := kC_lt f n; omega)
theorem rValue_yes (f : Int) (hf : Is4 f) (x y n : Nat) (hx : x < 18446744073709551616) (hy : y < 18446744073709551616) (hn : y + 18446744073709551616 * x = n) (ho : okB f n = true) (fit : Fit f n) (hc : 0 < kC f n ∧ kC f n < 7) (rb : Bool) (rn rd : Nat) (re : Int) (u v : ByteArray) (hv : vX f n = ⟨rb, rn, rd, re⟩) (hu1 : nbA rn = u) (hu2 : nbA rd = v) (w : World) : Calls Tryz.prog 10 #[.int .u8 f, .agg #[.int .u64 (x : Nat), .int .u64 (y : Nat)]] w fun r w' => r = .returned (.tuple #[.agg #[.bool rb, .string u, .string v, .int .i64 re], .int .i64 0]) ∧ Below w.heap.size w w' := by
  obtain ⟨s1, s2, s3⟩ := kS_lim hf n
  have hm := vX_mk hf n hc
  rw [hv] at hm
  have ls : nl (kS f n) ≤ 16384 := nl_pow _ 128 (by rw [show (2 : Nat) ^ 128 = 340282366920938463463374607431768211456 by decide]; exact s1) (by decide)
  have ne : ∀ k : Nat, (k = 0 ∨ 7 ≤ k) → (((kC f n : Nat) : Int) == (k : Int)) = false := fun k hk => by rw [beq_eq_false_iff_ne]; omega
  exact rvalue_yes f x y (kC f n) (kS f n) (kF f n) (kX f n) (kN f n) _ rb u v re 0 w (box (fun w => rUnpack_is f hf x y n hx hy hn fit w))
    (box (fun w => rSign_yes f hf x y n _ hx hy hn ho rfl w)) (box (fun w => nat_OfWide _ _ (lt_Q7 s1) rfl w)) (box (fun w => rmake_ok _ _ 1 _ _ _ rb rn rd re 0 u v rfl nb1 ls nl1 (by decide) (by omega) (by omega) hm hu1 hu2 w)) (ne 8 (by omega)) (ne 9 (by omega)) (ne 0 (by omega)) (ne 7 (by omega))

theorem top_lim {x : XN} (hx : x.can) : -1200000 ≤ topX x ∧ topX x ≤ 1200000 := by
  obtain ⟨h1, h2, h3, h4, _⟩ := hx
  unfold nl at h1 h2
  unfold topX lenD
  split <;> omega
theorem bel_same {P : Program} {k : FuncId} {a : Array Value} {w : World} {v : Value} (h : Calls P k a w fun r w' => r = .returned v ∧ w' = w) : Calls P k a w fun r w' => r = .returned v ∧ Below w.heap.size w w' :=
  h.mono fun _ _ h => ⟨h.1, by rw [h.2]; exact Below.refl _ _⟩
theorem fC_yes {f : Int} (hf : Is4 f) : fC f = 0 := (is4_ok hf).2.2.1
theorem fC_no {f : Int} (h0 : 0 ≤ f) (hf : ¬ Is4 f) : fC f = 2 := by
  unfold Is4 at hf
  unfold fC
  rw [if_neg (by omega)]
theorem kOf_none (f : Int) (h0 : 0 ≤ f) (h1 : f ≤ 255) (hf : ¬ Is4 f) (b : Bool) (s t : ByteArray) (e : Int) (w : World) (hT : FAt w) (hT2 : TabAt w) : Calls Tryz.prog 12 #[.int .u8 f, .agg #[.bool b, .string s, .string t, .int .i64 e]] w fun r w' => r = .returned (.tuple #[.agg #[.int .u64 0, .int .u64 0], .bool false, .int .i64 2]) ∧ Below w.heap.size w w' :=
  kof_no1 f b s t e w (box (fun w => bel_same (s_check_is f 2 h0 h1 (fC_no h0 hf) w))) hT hT2
theorem kOf_no (f : Int) (hf : Is4 f) (b : Bool) (s t : ByteArray) (e : Int) (hm : ¬ MayX b s t e) (w : World) (hT : FAt w) (hT2 : TabAt w) : Calls Tryz.prog 12 #[.int .u8 f, .agg #[.bool b, .string s, .string t, .int .i64 e]] w fun r w' => r = .returned (.tuple #[.agg #[.int .u64 0, .int .u64 0], .bool false, .int .i64 2]) ∧ Below w.heap.size w w' :=
  kof_no2 f b s t e w (box (fun w => bel_same (s_check_is f 0 (is4_ok hf).1 (is4_ok hf).2.1 (fC_yes hf) w))) (box (fun w hT => xcheckM b s t e false (may_no hm) 2 rfl w hT)) hT hT2
theorem kOf_is (f : Int) (hf : Is4 f) (b : Bool) (n d : Nat) (s t : ByteArray) (e : Int) (hs : nbA n = s) (ht : nbA d = t) (hc : (XN.mk b n d e).can) (M : Nat) (is : Bool) (u v : Nat) (hr : ofX f ⟨b, n, d, e⟩ = (M, is)) (hv : bv7 M = (u, v)) (w : World) (hT : FAt w) (hT2 : TabAt w) : Calls Tryz.prog 12 #[.int .u8 f, .agg #[.bool b, .string s, .string t, .int .i64 e]] w fun r w' => r = .returned (.tuple #[.agg #[.int .u64 (u : Nat), .int .u64 (v : Nat)], .bool is, .int .i64 0]) ∧ Below w.heap.size w w' := by
  have f4 := is4_ok hf
  obtain ⟨n1, n2, n3, n4, n5, n6⟩ := nm8 hf
  have K1 : Box (∀ w, Calls Tryz.prog 45 #[.int .u8 f] w fun r w' => r = .returned (.int .i64 0) ∧ Below w.heap.size w w') := box (fun w => bel_same (s_check_is f 0 f4.1 f4.2.1 (fC_yes hf) w))
  have K2 : Box (∀ w, TabAt w → Calls Tryz.prog 46 #[.agg #[.bool b, .string s, .string t, .int .i64 e]] w fun r w' => r = .returned (.int .i64 0) ∧ Below w.heap.size w w') := box (fun w hT => xcheckM b s t e true (may_yes hs ht hc) 0 rfl w hT)
  by_cases n0 : n = 0
  · unfold ofX at hr
    rw [if_pos n0] at hr
    injection hr with h1 h2
    subst h1 h2
    injection hv with h3 h4
    subst h3 h4
    exact kof_zero f b s t e w K1 K2 (box (fun w hT => Signx_ok b n d e s t 0 hs ht hc (by unfold sg; rw [if_pos n0]) w hT)) (box (fun w hT => sk_zero f false hf 0 0 (by rcases hf with rfl | rfl | rfl | rfl <;> decide +kernel) w hT)) hT hT2
  · obtain ⟨g, hg⟩ : ∃ g, sg (XN.mk b n d e) = g := ⟨_, rfl⟩
    have g0 : (g == 0) = false := by
      rw [← hg, beq_eq_false_iff_ne]
      unfold sg
      rw [if_neg n0]
      cases b
      · show (if false = true then (-1 : Int) else 1) ≠ 0
        decide
      · show (if true = true then (-1 : Int) else 1) ≠ 0
        decide
    obtain ⟨T, hTop⟩ : ∃ T, topX (XN.mk b n d e) = T := ⟨_, rfl⟩
    obtain ⟨t1, t2⟩ := top_lim hc
    rw [hTop] at t1 t2
    have K3 : Box (∀ w, TabAt w → Calls Tryz.prog 47 #[.agg #[.bool b, .string s, .string t, .int .i64 e]] w fun r w' => r = .returned (.int .i64 g) ∧ Below w.heap.size w w') := box (fun w hT => Signx_ok b n d e s t g hs ht hc hg w hT)
    have K4 : Box (∀ w, TabAt w → Calls Tryz.prog 48 #[.agg #[.bool b, .string s, .string t, .int .i64 e]] w fun r w' => r = .returned (.tuple #[.int .i64 T, .int .i64 0]) ∧ Below w.heap.size w w') := box (fun w hT => Topx_ok b n d e s t T hs ht n0 hc hTop w hT)
    have K5 : Box (∀ w, FAt w → Calls Tryz.prog 49 #[.int .u8 f] w fun r w' => r = .returned (.int .i64 (fE f)) ∧ Below w.heap.size w w') := box (fun w hT => kb_emax f _ f4.1 f4.2.1 rfl w hT)
    by_cases hE : fE f < T
    · unfold ofX at hr
      rw [if_neg n0, if_pos (by rw [hTop]; exact hE)] at hr
      injection hr with h1 h2
      subst h1 h2
      injection hv with h3 h4
      subst h3 h4
      exact kof_over f b s t e g T _ w K1 K2 K3 K4 K5 g0 (decide_eq_true hE) hT hT2
    · obtain ⟨A, hA⟩ : ∃ A, ofA f (XN.mk b n d e) = A := ⟨_, rfl⟩
      have hA2 := hA
      unfold ofA at hA2
      rw [hTop] at hA2
      have fp : fP f = (pV f : Int) + 1 := (em_lim hf).2.2.2.2.2.2.2.2.1
      have K6 : Box (∀ w, FAt w → Calls Tryz.prog 50 #[.int .u8 f] w fun r w' => r = .returned (.int .i64 (1 - fE f)) ∧ Below w.heap.size w w') := box (fun w hT => s_emin f _ _ f4.1 f4.2.1 rfl (em_lim hf).2.2.2.2.1 w hT)
      have K7 : Box (∀ w, FAt w → Calls Tryz.prog 51 #[.int .u8 f] w fun r w' => r = .returned (.int .i64 (fP f)) ∧ Below w.heap.size w w') := box (fun w hT => kb_precision f _ f4.1 f4.2.1 rfl w hT)
      obtain ⟨⟨⟨m, o⟩, fe⟩, hfl⟩ : ∃ q, flX (XN.mk b n d e) A = q := ⟨_, rfl⟩
      obtain ⟨z, hz⟩ : ∃ z, nbA m = z := ⟨_, rfl⟩
      have K8 : Box (∀ w, TabAt w → Calls Tryz.prog 52 #[.agg #[.bool b, .string s, .string t, .int .i64 e], .int .i64 A] w fun r w' => r = .returned (.tuple #[.string z, .bool o, .int .i64 fe]) ∧ Below w.heap.size w w') := box (fun w hT => Floorx_ok b n d e s t A m o fe z hs ht hc (by omega) (by omega) hfl hz w hT)
      have a1 : IntKind.i64.wrap (max T (1 - fE f) - fP f) = max T (1 - fE f) - fP f := wrap_i64_is _ (by omega) (by omega)
      have a2 : IntKind.i64.wrap (max T (1 - fE f) - fP f + 1) = A := by rw [wrap_i64_is _ (by omega) (by omega)]; omega
      have dE : decide (fE f < T) = false := decide_eq_false hE
      unfold ofX at hr
      rw [if_neg n0, if_neg (by rw [hTop]; exact hE), hA, hfl] at hr
      simp only [] at hr
      cases o
      · rw [if_neg (by decide)] at hr
        injection hr with h1 h2
        subst h1 h2
        injection hv with h3 h4
        subst h3 h4
        exact kof_frac f b s t e g T _ _ _ _ A fe z w K1 K2 K3 K4 K5 K6 K7 K8 g0 dE a1 a2 hT hT2
      · rw [if_pos rfl] at hr
        injection hr with h1 h2
        subst h2
        have hd : d = 1 ∧ A ≤ e := by
          have h3 : ¬ (d ≠ 1 ∨ e < A) := fun h3 => by
            have := fl_no (XN.mk b n d e) A hc n0 h3
            rw [hfl] at this
            exact Bool.noConfusion (show true = false from this)
          omega
        obtain ⟨rfl, hAe⟩ := hd
        obtain ⟨m', k, tt, q1, q2, q3, q4, q5⟩ := of_yes hf b n e n0 (by rw [hTop]; omega) (by rw [hA]; exact hAe)
        rw [hA] at q1 q5
        have hm : m = m' := by
          have lim : m' < 340282366920938463463374607431768211456 := by
            obtain ⟨g1, g2, g3, g4, g5, g6, g7⟩ := fm hf
            rw [g1, Nat.add_mul] at g7
            have := Nat.mul_le_mul_right (2 ^ pV f) g5
            rcases q5 with ⟨_, q, _⟩ | ⟨_, q, _⟩ <;> omega
          have := fl_yes (XN.mk b n 1 e) A n0 rfl hAe (by omega) (by omega) (by
            show nl (n * 2 ^ (e - A).toNat) ≤ 16384
            rw [← q1]
            exact nl_pow _ 128 (by rw [show (2 : Nat) ^ 128 = 340282366920938463463374607431768211456 by decide]; exact lim) (by decide))
          rw [hfl] at this
          injection this with e1 e2
          injection e1 with e3 e4
          rw [e3, q1]
        have lim : m < 340282366920938463463374607431768211456 := by
          obtain ⟨g1, g2, g3, g4, g5, g6, g7⟩ := fm hf
          rw [g1, Nat.add_mul] at g7
          have := Nat.mul_le_mul_right (2 ^ pV f) g5
          rw [hm]
          rcases q5 with ⟨_, q, _⟩ | ⟨_, q, _⟩ <;> omega
        obtain ⟨i, j, hij⟩ : ∃ i j, bv7 (fb f m A) = (i, j) := ⟨_, _, rfl⟩
        obtain ⟨i1, j1, ij⟩ := bv_lt (by unfold fb; exact Nat.mod_lt _ (by decide)) hij
        exact kof_yes f b s t e g T _ _ _ _ A fe z m i j u v w K1 K2 K3 K4 K5 K6 K7 K8
          (box (fun w => kwideOf_is m z hz (by
            have := nl_le_of m 16 (by rw [show (2 : Nat) ^ (8 * 16) = 340282366920938463463374607431768211456 by decide]; exact lim)
            omega) w))
          (box (fun w hT => kfinite_is f hf m i j A (lt_Q7 lim) (by omega) (by omega) hij w hT))
          (box (fun w hT => ksigned_is f hf i j _ u v b i1 j1 ij (by rw [h1]; exact hv) w hT)) g0 dE a1 a2 hT hT2
theorem rOf_is (f : Int) (hf : Is4 f) (b : Bool) (n d : Nat) (s t : ByteArray) (e : Int) (hs : nbA n = s) (ht : nbA d = t) (hc : (XN.mk b n d e).can) (M : Nat) (is : Bool) (u v : Nat) (hr : ofX f ⟨b, n, d, e⟩ = (M, is)) (hv : bv7 M = (u, v)) (w : World) : Calls Tryz.prog 15 #[.int .u8 f, .agg #[.bool b, .string s, .string t, .int .i64 e]] w fun r w' => r = .returned (.tuple #[.agg #[.int .u64 (u : Nat), .int .u64 (v : Nat)], .bool is]) ∧ Below w.heap.size w w' := by
  have f4 := is4_ok hf
  obtain ⟨n1, n2, n3, n4, n5, n6⟩ := nm8 hf
  have fp : fP f = (pV f : Int) + 1 := (em_lim hf).2.2.2.2.2.2.2.2.1
  by_cases n0 : n = 0
  · unfold ofX at hr
    rw [if_pos n0] at hr
    injection hr with h1 h2
    subst h1 h2
    injection hv with h3 h4
    subst h3 h4
    have : s = ⟨#[]⟩ := by rw [← hs, n0, nbA_zero]
    subst this
    exact rof_zero f b t e w
  · have es := eq_nil n s hs n0
    have et := eq_one d t ht
    obtain ⟨T, hTop⟩ : ∃ T, topX (XN.mk b n d e) = T := ⟨_, rfl⟩
    obtain ⟨t1, t2⟩ := top_lim hc
    rw [hTop] at t1 t2
    have K1 : Box (∀ w, Calls Tryz.prog 60 #[.int .u8 f] w fun r w' => r = .returned (.int .i64 (fP f)) ∧ Below w.heap.size w w') := box (fun w => bel_same (r_precision f _ f4.1 rfl w))
    have K2 : Box (∀ w, Calls Tryz.prog 61 #[.agg #[.bool b, .string s, .string t, .int .i64 e]] w fun r w' => r = .returned (.tuple #[.int .i64 T, .int .i64 0]) ∧ Below w.heap.size w w') := box (fun w => rTop_ok b n d e s t T hs ht n0 hc hTop w)
    have K3 : Box (∀ w, Calls Tryz.prog 62 #[.int .u8 f] w fun r w' => r = .returned (.int .i64 (fE f)) ∧ Below w.heap.size w w') := box (fun w => bel_same (r_emax f _ f4.1 rfl w))
    have K4 : Box (∀ w, Calls Tryz.prog 63 #[.int .u8 f] w fun r w' => r = .returned (.int .i64 (1 - fE f)) ∧ w' = w) := box (fun w => r_emin f _ _ f4.1 rfl (em_lim hf).2.2.2.2.1 w)
    by_cases d1 : d = 1
    case neg =>
      rw [of_no (XN.mk b n d e) hc n0 (Or.inr (Or.inl d1))] at hr
      injection hr with h1 h2
      subst h1 h2
      injection hv with h3 h4
      subst h3 h4
      exact rof_den f b s t e _ T w K1 K2 es (by rw [et]; exact decide_eq_false d1)
    rw [decide_eq_true d1] at et
    by_cases hE : fE f < T
    · rw [of_no (XN.mk b n d e) hc n0 (Or.inl (by rw [hTop]; exact hE))] at hr
      injection hr with h1 h2
      subst h1 h2
      injection hv with h3 h4
      subst h3 h4
      exact rof_over f b s t e _ T _ w K1 K2 K3 es et (decide_eq_true hE)
    have dE : decide (fE f < T) = false := decide_eq_false hE
    obtain ⟨A, hA⟩ : ∃ A, ofA f (XN.mk b n d e) = A := ⟨_, rfl⟩
    have hA2 := hA
    unfold ofA at hA2
    rw [hTop] at hA2
    obtain ⟨A0, hI, hA0⟩ : ∃ A0, ((decide (T < 1 - fE f) = true ∧ A0 = 1 - fE f) ∨ (decide (T < 1 - fE f) = false ∧ A0 = T)) ∧ A0 = max T (1 - fE f) := by
      by_cases hI : T < 1 - fE f
      · exact ⟨1 - fE f, Or.inl ⟨decide_eq_true hI, rfl⟩, by omega⟩
      · exact ⟨T, Or.inr ⟨decide_eq_false hI, rfl⟩, by omega⟩
    have a1 : IntKind.i64.wrap (A0 - fP f) = A0 - fP f := wrap_i64_is _ (by omega) (by omega)
    have a2 : IntKind.i64.wrap (A0 - fP f + 1) = A := by rw [wrap_i64_is _ (by omega) (by omega)]; omega
    by_cases hl : e < A
    · rw [of_no (XN.mk b n d e) hc n0 (Or.inr (Or.inr (by rw [hA]; exact hl)))] at hr
      injection hr with h1 h2
      subst h1 h2
      injection hv with h3 h4
      subst h3 h4
      exact rof_low f b s t e _ T _ _ A0 _ A w K1 K2 K3 K4 es et hI dE a1 a2 (decide_eq_true hl)
    have dl : decide (e < A) = false := decide_eq_false hl
    subst d1
    obtain ⟨m, k, tt, q1, q2, q3, q4, q5⟩ := of_yes hf b n e n0 (by rw [hTop]; omega) (by rw [hA]; omega)
    rw [hA] at q1 q5
    rw [q4] at hr
    injection hr with h1 h2
    subst h2
    have lim : m < 340282366920938463463374607431768211456 := by
      obtain ⟨g1, g2, g3, g4, g5, g6, g7⟩ := fm hf
      rw [g1, Nat.add_mul] at g7
      have := Nat.mul_le_mul_right (2 ^ pV f) g5
      rcases q5 with ⟨_, q, _⟩ | ⟨_, q, _⟩ <;> omega
    have hfl := fl_yes (XN.mk b n 1 e) A n0 rfl (show A ≤ e by omega) (by omega) (by omega) (by
      show nl (n * 2 ^ (e - A).toNat) ≤ 16384
      rw [← q1]
      exact nl_pow _ 128 (by rw [show (2 : Nat) ^ 128 = 340282366920938463463374607431768211456 by decide]; exact lim) (by decide))
    have hfl2 : flX (XN.mk b n 1 e) A = ((m, true), 0) := by rw [hfl, q1]
    obtain ⟨z, hz⟩ : ∃ z, nbA m = z := ⟨_, rfl⟩
    have K5 : Box (∀ w, Calls Tryz.prog 64 #[.agg #[.bool b, .string s, .string t, .int .i64 e], .int .i64 A] w fun r w' => r = .returned (.tuple #[.string z, .bool true, .int .i64 0]) ∧ Below w.heap.size w w') := box (fun w => rFloor_ok b n 1 e s t A m true 0 z hs ht hc (by omega) (by omega) hfl2 hz w)
    have K6 : Box (∀ w, Calls Tryz.prog 65 #[.string z] w fun r w' => r = .returned (.tuple #[.agg (cw 6 m), .bool true]) ∧ Below w.heap.size w w') := box (fun w => nat_ToWide m z hz (by
      have := nl_le_of m 16 (by rw [show (2 : Nat) ^ (8 * 16) = 340282366920938463463374607431768211456 by decide]; exact lim)
      omega) w)
    have K7 : Box (∀ w, Calls Tryz.prog 66 #[.agg (cw 6 m)] w fun r w' => r = .returned (.int .i64 ((blen m : Nat) : Int)) ∧ Below w.heap.size w w') := box (fun w => rwlen_any m (lt_Q7 lim) w)
    have bl := blen_iff m (pV f)
    rcases q5 with ⟨k0, mt, hAl⟩ | ⟨k1, mt, hAl⟩
    · have dL : decide (((blen m : Nat) : Int) < fP f) = true := decide_eq_true (by have := bl.2 (by omega); omega)
      have KB : Box (∀ w, Calls Tryz.prog 67 #[.int .u8 f, .bool b, .int .i64 0, .agg (cw 6 m)] w fun r w' => r = .returned (.agg #[.int .u64 (u : Nat), .int .u64 (v : Nat)]) ∧ Below w.heap.size w w') := box (fun w => rk_enc f b 0 m _ u v hf (by omega) (by omega) (by rw [← k0, mt]) (by rw [h1]; exact hv) w)
      exact rof_sub f b s t e _ T _ _ A0 _ A 0 true z m _ u v w K1 K2 K3 K4 K5 K6 K7 KB es et hI dE a1 a2 dl dL
    · have dL : decide (((blen m : Nat) : Int) < fP f) = false := decide_eq_false (by
        intro h
        have := bl.1 (by omega)
        omega)
      have KK : Box (∀ w, Calls Tryz.prog 69 #[.int .i64 (pV f : Nat)] w fun r w' => r = .returned (.agg (cw 6 (2 ^ pV f - 1))) ∧ Below w.heap.size w w') := box (fun w => rwmask_is _ _ (by rw [cnt_k8 (by omega)]) w)
      have KA : Box (∀ w, Calls Tryz.prog 68 #[.agg (cw 6 m), .agg (cw 6 (2 ^ pV f - 1))] w fun r w' => r = .returned (.agg (cw 6 tt)) ∧ Below w.heap.size w w') := box (fun w => rwand_is m _ _ (lt_Q7 lim) (by rw [Nat.and_two_pow_sub_one_eq_mod, mt, Nat.add_mod_left, Nat.mod_eq_of_lt q3]) w)
      have KB : Box (∀ w, Calls Tryz.prog 67 #[.int .u8 f, .bool b, .int .i64 (k : Nat), .agg (cw 6 tt)] w fun r w' => r = .returned (.agg #[.int .u64 (u : Nat), .int .u64 (v : Nat)]) ∧ Below w.heap.size w w') := box (fun w => rk_enc f b k tt _ u v hf q3 (by omega) rfl (by rw [h1]; exact hv) w)
      have p1 : IntKind.i64.wrap (fP f - 1) = ((pV f : Nat) : Int) := by rw [wrap_i64_is _ (by omega) (by omega)]; omega
      have p2 : IntKind.i64.wrap (A - (1 - fE f)) = A - (1 - fE f) := wrap_i64_is _ (by omega) (by omega)
      have p3 : IntKind.i64.wrap (A - (1 - fE f) + fP f) = ((k : Nat) : Int) := by rw [wrap_i64_is _ (by omega) (by omega)]; omega
      exact rof_norm f b s t e _ T _ _ A0 _ A 0 true z m _ u v _ _ _ tt k w K1 K2 K3 K4 K5 K6 K7 KK KA KB es et hI dE a1 a2 dl dL p1 p2 p3
end Go.Proofs.YtkmlbjlaahcahaaGreatDoor
