/-
  What the functions Make, Word, Whole, Sign, Neg and Abs of the document's answer for layer 6 return.
-/
import Derived.Test.YtknkkagapcigfaaGreatDoorX5
namespace Go.Proofs.YtknkkagapcigfaaGreatDoor
open Go.RowKit WMath XMath

set_option maxRecDepth 100000 in
set_option maxHeartbeats 1000000 in
theorem rmake_ok (neg : Bool) (n d : Nat) (e : Int) (s t : ByteArray) (rb : Bool) (rn rd : Nat) (re err : Int) (u v : ByteArray) (hs : nbA n = s) (ht : nbA d = t) (ln : nl n ≤ 16384) (ld : nl d ≤ 16384) (d0 : d ≠ 0) (he1 : -1048576 ≤ e) (he2 : e ≤ 1048576)
    (hr : XMath.mk neg n d e = (⟨rb, rn, rd, re⟩, err)) (hu : nbA rn = u) (hv : nbA rd = v) (w : World) :
    Calls Tryz.prog 28 #[.bool neg, .string s, .string t, .int .i64 e] w fun r w' => r = .returned (.tuple #[.agg #[.bool rb, .string u, .string v, .int .i64 re], .int .i64 err]) ∧ Below w.heap.size w w' := by
  have e0 := eq_nil d t ht d0
  have H1 : Box (mayB s = true) := box (by rw [← hs]; exact mayB_nb n ln)
  have H2 : Box (mayB t = true) := box (by rw [← ht]; exact mayB_nb d ld)
  have g1 : decide (e < -1048576) = false := decide_eq_false (by omega)
  have g2 : decide (1048576 < e) = false := decide_eq_false (by omega)
  by_cases n0 : n = 0
  · subst n0
    rw [mk_null] at hr
    injection hr with h1 h2
    unfold X0 at h1
    injection h1 with a b c d
    subst a b c d h2
    rw [nbA_zero] at hs hu
    rw [nb1] at hv
    subst hs hu hv
    clear ht ln ld d0
    have Rz_0 : (w.alloc (Obj.cells #[.bool false, .string ⟨#[]⟩, .string ⟨#[]⟩, .int .i64 0] 24)).heap[w.heap.size]? = some (Obj.cells #[.bool false, .string ⟨#[]⟩, .string ⟨#[]⟩, .int .i64 0] 24) := by have := heap_alloc_last w (Obj.cells #[.bool false, .string ⟨#[]⟩, .string ⟨#[]⟩, .int .i64 0] 24); simpa only [size_al] using this
    have B0 : Below w.heap.size w (w.alloc (Obj.cells #[.bool false, .string ⟨#[]⟩, .string ⟨#[]⟩, .int .i64 0] 24)) := ((Below.refl _ _).alloc (by first | omega | (simp only [size_al]; omega)) _)
    go_enter Tryz.func28, Tryz.ntmps28
    go_wp2_with fail
    refine (nat_may _ true H1.out _).mono ?_
    rintro r w' ⟨rfl, rfl⟩
    go_wp2_with fail
    refine (nat_may t true H2.out _).mono ?_
    rintro r w' ⟨rfl, rfl⟩
    go_wp2_with fail
    refine (xnull _).mono ?_
    rintro r w1 ⟨rfl, b1⟩
    have B1 : Below w.heap.size w w1 := btr B0 b1
    have Rz_1 : w1.heap[w.heap.size]? = some (Obj.cells #[.bool false, .string ⟨#[]⟩, .string ⟨#[]⟩, .int .i64 0] 24) := heap_of b1 _ _ _ Rz_0
    clear b1 B0 Rz_0
    have cz_1_0 := cells4 Rz_1 0 _ rfl
    have cz_1_1 := cells4 Rz_1 1 _ rfl
    have cz_1_2 := cells4 Rz_1 2 _ rfl
    have cz_1_3 := cells4 Rz_1 3 _ rfl
    have q0 := fz (k := 0) Rz_1
    have q1 := fz (k := 1) Rz_1
    have q2 := fz (k := 2) Rz_1
    have q3 := fz (k := 3) Rz_1
    obtain ⟨E0, E1, E2, E3⟩ := set4_cells Rz_1 rfl (.bool false) (.string ⟨#[]⟩) (.string ⟨#[1]⟩) (.int .i64 0)
    go_wp2
    exact bodyPost_ret (v := .tuple #[.agg #[.bool false, .string ⟨#[]⟩, .string ⟨#[1]⟩, .int .i64 0], .int .i64 0]) (by simp [results, Tryz.results28, go_sem, E0, E1, E2, E3]) rfl ⟨rfl, set4_below B1 (by first | exact Nat.le_refl _ | omega) _ _ _ _⟩
  · have e1 := eq_nil n s hs n0
    obtain ⟨x, hx⟩ : ∃ x, tz n = x := ⟨_, rfl⟩
    obtain ⟨y, hy⟩ : ∃ x, tz d = x := ⟨_, rfl⟩
    have LX := box (tz_low n)
    have LY := box (tz_low d)
    have x2 : x ≤ 131072 := by have := tz_blen n; rw [hx] at this; unfold nl at ln; omega
    have y2 : y ≤ 131072 := by have := tz_blen d; rw [hy] at this; unfold nl at ld; omega
    have hc := mk_cases neg n d e rb rn rd re err n0 hr
    rw [hx, hy] at hc
    rw [hx] at LX
    rw [hy] at LY
    have HS := box hs
    have HT := box ht
    have LN := box ln
    have LD := box ld
    obtain ⟨E, hE⟩ : ∃ E, e + (x : Int) - (y : Int) = E := ⟨_, rfl⟩
    rw [hE] at hc
    have k1 : IntKind.i64.wrap (e + (x : Int)) = e + (x : Int) := wrap_i64_is _ (by omega) (by omega)
    have k2 : IntKind.i64.wrap (e + (x : Int) - (y : Int)) = E := by rw [wrap_i64_is _ (by omega) (by omega)]; omega
    obtain ⟨o1, o2⟩ := od_is n n0
    obtain ⟨o3, o4⟩ := od_is d d0
    obtain ⟨p, hp⟩ : ∃ p, nbA (od n) = p := ⟨_, rfl⟩
    obtain ⟨q, hq⟩ : ∃ p, nbA (od d) = p := ⟨_, rfl⟩
    have L1 : Box (nl (od n) ≤ 16384) := box (Nat.le_trans (nl_mono _ _ (od_le n)) ln)
    have L2 : Box (nl (od d) ≤ 16384) := box (Nat.le_trans (nl_mono _ _ (od_le d)) ld)
    have HP := box hp
    have HQ := box hq
    have P1 : Box (nbA (n / 2 ^ (x : Int).toNat) = p) := box (by rw [Int.toNat_natCast, ← hx]; exact hp)
    have Q1 : Box (nbA (d / 2 ^ (y : Int).toNat) = q) := box (by rw [Int.toNat_natCast, ← hy]; exact hq)
    obtain ⟨b1, hb1⟩ : ∃ o, decide (n % 2 ^ (x : Int).toNat ≠ 0) = o := ⟨_, rfl⟩
    obtain ⟨b2, hb2⟩ : ∃ o, decide (d % 2 ^ (y : Int).toNat ≠ 0) = o := ⟨_, rfl⟩
    have O1 := box hb1
    have O2 := box hb2
    obtain ⟨gg, hgg⟩ : ∃ g, Nat.gcd (od n) (od d) = g := ⟨_, rfl⟩
    obtain ⟨h, hh⟩ : ∃ h, nbA gg = h := ⟨_, rfl⟩
    have HG : Box (nbA (Nat.gcd (od n) (od d)) = h) := box (by rw [hgg]; exact hh)
    have HH := box hh
    have eo := eq_one gg h hh
    have G0 : Box (gg ≠ 0) := box (by rw [← hgg]; exact Nat.pos_iff_ne_zero.1 (Nat.gcd_pos_of_pos_left _ (by omega)))
    rw [hgg] at hc
    obtain ⟨un, hun⟩ : ∃ u, nbA (od n / gg) = u := ⟨_, rfl⟩
    obtain ⟨ud, hud⟩ : ∃ u, nbA (od d / gg) = u := ⟨_, rfl⟩
    obtain ⟨vn, hvn⟩ : ∃ u, nbA (od n % gg) = u := ⟨_, rfl⟩
    obtain ⟨vd, hvd⟩ : ∃ u, nbA (od d % gg) = u := ⟨_, rfl⟩
    have U1 := box hun
    have U2 := box hud
    have U3 := box hvn
    have U4 := box hvd
    by_cases g1' : gg = 1
    · rw [decide_eq_true g1'] at eo
      have en : un = p := by rw [← hun, g1', Nat.div_one, hp]
      have ed : ud = q := by rw [← hud, g1', Nat.div_one, hq]
      rcases hc with ⟨hc, rfl, rfl, rfl, rfl, rfl⟩ | ⟨hc, rfl, rfl, rfl, rfl, rfl⟩
      · rw [hun] at hu
        rw [hud] at hv
        subst hu hv
        subst en ed
        have c1 : decide (re < -1048576) = false := decide_eq_false (by omega)
        have c2 : decide (1048576 < re) = false := decide_eq_false (by omega)
        clear hs ht ln ld hr hx hy hE hc o1 o2 o3 o4 hp hq n0 d0 hb1 hb2 hgg hh hun hud hvn hvd g1' U1 U2 U3 U4
        have Rz_0 : (w.alloc (Obj.cells #[.bool false, .string ⟨#[]⟩, .string ⟨#[]⟩, .int .i64 0] 24)).heap[w.heap.size]? = some (Obj.cells #[.bool false, .string ⟨#[]⟩, .string ⟨#[]⟩, .int .i64 0] 24) := by have := heap_alloc_last w (Obj.cells #[.bool false, .string ⟨#[]⟩, .string ⟨#[]⟩, .int .i64 0] 24); simpa only [size_al] using this
        have B0 : Below w.heap.size w (w.alloc (Obj.cells #[.bool false, .string ⟨#[]⟩, .string ⟨#[]⟩, .int .i64 0] 24)) := ((Below.refl _ _).alloc (by first | omega | (simp only [size_al]; omega)) _)
        go_enter Tryz.func28, Tryz.ntmps28
        go_wp2_with fail
        refine (nat_may s true H1.out _).mono ?_
        rintro r w' ⟨rfl, rfl⟩
        go_wp2_with fail
        refine (nat_may t true H2.out _).mono ?_
        rintro r w' ⟨rfl, rfl⟩
        go_wp2_with fail
        refine (nat_Low n x s HS.out LN.out LX.out _).mono ?_
        rintro r w' ⟨rfl, rfl⟩
        go_wp2_with fail
        refine (nat_Low d y t HT.out LD.out LY.out _).mono ?_
        rintro r w' ⟨rfl, rfl⟩
        go_wp2_with fail
        refine (nat_Right n (x : Int) s un b1 HS.out LN.out (by omega) (by omega) P1.out O1.out _).mono ?_
        rintro r w1 ⟨rfl, b1⟩
        have B1 : Below w.heap.size w w1 := btr B0 b1
        have Rz_1 : w1.heap[w.heap.size]? = some (Obj.cells #[.bool false, .string ⟨#[]⟩, .string ⟨#[]⟩, .int .i64 0] 24) := heap_of b1 _ _ _ Rz_0
        clear b1 B0 Rz_0
        have cz_1_0 := cells4 Rz_1 0 _ rfl
        have cz_1_1 := cells4 Rz_1 1 _ rfl
        have cz_1_2 := cells4 Rz_1 2 _ rfl
        have cz_1_3 := cells4 Rz_1 3 _ rfl
        go_wp2_with fail
        refine (nat_Right d (y : Int) t ud b2 HT.out LD.out (by omega) (by omega) Q1.out O2.out _).mono ?_
        rintro r w2 ⟨rfl, b2⟩
        have B2 : Below w.heap.size w w2 := btr B1 b2
        have Rz_2 : w2.heap[w.heap.size]? = some (Obj.cells #[.bool false, .string ⟨#[]⟩, .string ⟨#[]⟩, .int .i64 0] 24) := heap_of b2 _ _ _ Rz_1
        clear b2 B1 Rz_1 cz_1_0 cz_1_1 cz_1_2 cz_1_3
        have cz_2_0 := cells4 Rz_2 0 _ rfl
        have cz_2_1 := cells4 Rz_2 1 _ rfl
        have cz_2_2 := cells4 Rz_2 2 _ rfl
        have cz_2_3 := cells4 Rz_2 3 _ rfl
        go_wp2_with fail
        refine (nat_Gcd (od n) (od d) un ud h HP.out HQ.out L1.out L2.out HG.out _).mono ?_
        rintro r w3 ⟨rfl, b3⟩
        have B3 : Below w.heap.size w w3 := btr B2 b3
        have Rz_3 : w3.heap[w.heap.size]? = some (Obj.cells #[.bool false, .string ⟨#[]⟩, .string ⟨#[]⟩, .int .i64 0] 24) := heap_of b3 _ _ _ Rz_2
        clear b3 B2 Rz_2 cz_2_0 cz_2_1 cz_2_2 cz_2_3
        have cz_3_0 := cells4 Rz_3 0 _ rfl
        have cz_3_1 := cells4 Rz_3 1 _ rfl
        have cz_3_2 := cells4 Rz_3 2 _ rfl
        have cz_3_3 := cells4 Rz_3 3 _ rfl
        have q0 := fz (k := 0) Rz_3
        have q1 := fz (k := 1) Rz_3
        have q2 := fz (k := 2) Rz_3
        have q3 := fz (k := 3) Rz_3
        obtain ⟨E0, E1, E2, E3⟩ := set4_cells Rz_3 rfl (.bool rb) (.string un) (.string ud) (.int .i64 re)
        go_wp2
        exact bodyPost_ret (v := .tuple #[.agg #[.bool rb, .string un, .string ud, .int .i64 re], .int .i64 0]) (by simp [results, Tryz.results28, go_sem, E0, E1, E2, E3]) rfl ⟨rfl, set4_below B3 (by first | exact Nat.le_refl _ | omega) _ _ _ _⟩
      · rw [nbA_zero] at hu hv
        subst hu hv
        have c0 : E < -1048576 ∨ 1048576 < E := by omega
        have c12 : decide (E < -1048576) = true ∨ (decide (E < -1048576) = false ∧ decide (1048576 < E) = true) := by
          by_cases hh : E < -1048576
          · exact Or.inl (decide_eq_true hh)
          · exact Or.inr ⟨decide_eq_false hh, decide_eq_true (by omega)⟩
        clear hs ht ln ld hr hx hy hE hc o1 o2 o3 o4 hp hq n0 d0 hb1 hb2 hgg hh hun hud hvn hvd g1' U1 U2 U3 U4 en ed c0
        rcases c12 with c1 | ⟨c1, c2⟩
        · have Rz_0 : (w.alloc (Obj.cells #[.bool false, .string ⟨#[]⟩, .string ⟨#[]⟩, .int .i64 0] 24)).heap[w.heap.size]? = some (Obj.cells #[.bool false, .string ⟨#[]⟩, .string ⟨#[]⟩, .int .i64 0] 24) := by have := heap_alloc_last w (Obj.cells #[.bool false, .string ⟨#[]⟩, .string ⟨#[]⟩, .int .i64 0] 24); simpa only [size_al] using this
          have B0 : Below w.heap.size w (w.alloc (Obj.cells #[.bool false, .string ⟨#[]⟩, .string ⟨#[]⟩, .int .i64 0] 24)) := ((Below.refl _ _).alloc (by first | omega | (simp only [size_al]; omega)) _)
          go_enter Tryz.func28, Tryz.ntmps28
          go_wp2_with fail
          refine (nat_may s true H1.out _).mono ?_
          rintro r w' ⟨rfl, rfl⟩
          go_wp2_with fail
          refine (nat_may t true H2.out _).mono ?_
          rintro r w' ⟨rfl, rfl⟩
          go_wp2_with fail
          refine (nat_Low n x s HS.out LN.out LX.out _).mono ?_
          rintro r w' ⟨rfl, rfl⟩
          go_wp2_with fail
          refine (nat_Low d y t HT.out LD.out LY.out _).mono ?_
          rintro r w' ⟨rfl, rfl⟩
          go_wp2_with fail
          refine (nat_Right n (x : Int) s p b1 HS.out LN.out (by omega) (by omega) P1.out O1.out _).mono ?_
          rintro r w1 ⟨rfl, b1⟩
          have B1 : Below w.heap.size w w1 := btr B0 b1
          have Rz_1 : w1.heap[w.heap.size]? = some (Obj.cells #[.bool false, .string ⟨#[]⟩, .string ⟨#[]⟩, .int .i64 0] 24) := heap_of b1 _ _ _ Rz_0
          clear b1 B0 Rz_0
          have cz_1_0 := cells4 Rz_1 0 _ rfl
          have cz_1_1 := cells4 Rz_1 1 _ rfl
          have cz_1_2 := cells4 Rz_1 2 _ rfl
          have cz_1_3 := cells4 Rz_1 3 _ rfl
          go_wp2_with fail
          refine (nat_Right d (y : Int) t q b2 HT.out LD.out (by omega) (by omega) Q1.out O2.out _).mono ?_
          rintro r w2 ⟨rfl, b2⟩
          have B2 : Below w.heap.size w w2 := btr B1 b2
          have Rz_2 : w2.heap[w.heap.size]? = some (Obj.cells #[.bool false, .string ⟨#[]⟩, .string ⟨#[]⟩, .int .i64 0] 24) := heap_of b2 _ _ _ Rz_1
          clear b2 B1 Rz_1 cz_1_0 cz_1_1 cz_1_2 cz_1_3
          have cz_2_0 := cells4 Rz_2 0 _ rfl
          have cz_2_1 := cells4 Rz_2 1 _ rfl
          have cz_2_2 := cells4 Rz_2 2 _ rfl
          have cz_2_3 := cells4 Rz_2 3 _ rfl
          go_wp2_with fail
          refine (nat_Gcd (od n) (od d) p q h HP.out HQ.out L1.out L2.out HG.out _).mono ?_
          rintro r w3 ⟨rfl, b3⟩
          have B3 : Below w.heap.size w w3 := btr B2 b3
          have Rz_3 : w3.heap[w.heap.size]? = some (Obj.cells #[.bool false, .string ⟨#[]⟩, .string ⟨#[]⟩, .int .i64 0] 24) := heap_of b3 _ _ _ Rz_2
          clear b3 B2 Rz_2 cz_2_0 cz_2_1 cz_2_2 cz_2_3
          have cz_3_0 := cells4 Rz_3 0 _ rfl
          have cz_3_1 := cells4 Rz_3 1 _ rfl
          have cz_3_2 := cells4 Rz_3 2 _ rfl
          have cz_3_3 := cells4 Rz_3 3 _ rfl
          have q0 := fz (k := 0) Rz_3
          have q1 := fz (k := 1) Rz_3
          have q2 := fz (k := 2) Rz_3
          have q3 := fz (k := 3) Rz_3
          obtain ⟨E0, E1, E2, E3⟩ := set4_cells Rz_3 rfl (.bool false) (.string ⟨#[]⟩) (.string ⟨#[]⟩) (.int .i64 0)
          go_wp2
          exact bodyPost_ret (v := .tuple #[.agg #[.bool false, .string ⟨#[]⟩, .string ⟨#[]⟩, .int .i64 0], .int .i64 4]) (by simp [results, Tryz.results28, go_sem, E0, E1, E2, E3]) rfl ⟨rfl, set4_below B3 (by first | exact Nat.le_refl _ | omega) _ _ _ _⟩
        · have Rz_0 : (w.alloc (Obj.cells #[.bool false, .string ⟨#[]⟩, .string ⟨#[]⟩, .int .i64 0] 24)).heap[w.heap.size]? = some (Obj.cells #[.bool false, .string ⟨#[]⟩, .string ⟨#[]⟩, .int .i64 0] 24) := by have := heap_alloc_last w (Obj.cells #[.bool false, .string ⟨#[]⟩, .string ⟨#[]⟩, .int .i64 0] 24); simpa only [size_al] using this
          have B0 : Below w.heap.size w (w.alloc (Obj.cells #[.bool false, .string ⟨#[]⟩, .string ⟨#[]⟩, .int .i64 0] 24)) := ((Below.refl _ _).alloc (by first | omega | (simp only [size_al]; omega)) _)
          go_enter Tryz.func28, Tryz.ntmps28
          go_wp2_with fail
          refine (nat_may s true H1.out _).mono ?_
          rintro r w' ⟨rfl, rfl⟩
          go_wp2_with fail
          refine (nat_may t true H2.out _).mono ?_
          rintro r w' ⟨rfl, rfl⟩
          go_wp2_with fail
          refine (nat_Low n x s HS.out LN.out LX.out _).mono ?_
          rintro r w' ⟨rfl, rfl⟩
          go_wp2_with fail
          refine (nat_Low d y t HT.out LD.out LY.out _).mono ?_
          rintro r w' ⟨rfl, rfl⟩
          go_wp2_with fail
          refine (nat_Right n (x : Int) s p b1 HS.out LN.out (by omega) (by omega) P1.out O1.out _).mono ?_
          rintro r w1 ⟨rfl, b1⟩
          have B1 : Below w.heap.size w w1 := btr B0 b1
          have Rz_1 : w1.heap[w.heap.size]? = some (Obj.cells #[.bool false, .string ⟨#[]⟩, .string ⟨#[]⟩, .int .i64 0] 24) := heap_of b1 _ _ _ Rz_0
          clear b1 B0 Rz_0
          have cz_1_0 := cells4 Rz_1 0 _ rfl
          have cz_1_1 := cells4 Rz_1 1 _ rfl
          have cz_1_2 := cells4 Rz_1 2 _ rfl
          have cz_1_3 := cells4 Rz_1 3 _ rfl
          go_wp2_with fail
          refine (nat_Right d (y : Int) t q b2 HT.out LD.out (by omega) (by omega) Q1.out O2.out _).mono ?_
          rintro r w2 ⟨rfl, b2⟩
          have B2 : Below w.heap.size w w2 := btr B1 b2
          have Rz_2 : w2.heap[w.heap.size]? = some (Obj.cells #[.bool false, .string ⟨#[]⟩, .string ⟨#[]⟩, .int .i64 0] 24) := heap_of b2 _ _ _ Rz_1
          clear b2 B1 Rz_1 cz_1_0 cz_1_1 cz_1_2 cz_1_3
          have cz_2_0 := cells4 Rz_2 0 _ rfl
          have cz_2_1 := cells4 Rz_2 1 _ rfl
          have cz_2_2 := cells4 Rz_2 2 _ rfl
          have cz_2_3 := cells4 Rz_2 3 _ rfl
          go_wp2_with fail
          refine (nat_Gcd (od n) (od d) p q h HP.out HQ.out L1.out L2.out HG.out _).mono ?_
          rintro r w3 ⟨rfl, b3⟩
          have B3 : Below w.heap.size w w3 := btr B2 b3
          have Rz_3 : w3.heap[w.heap.size]? = some (Obj.cells #[.bool false, .string ⟨#[]⟩, .string ⟨#[]⟩, .int .i64 0] 24) := heap_of b3 _ _ _ Rz_2
          clear b3 B2 Rz_2 cz_2_0 cz_2_1 cz_2_2 cz_2_3
          have cz_3_0 := cells4 Rz_3 0 _ rfl
          have cz_3_1 := cells4 Rz_3 1 _ rfl
          have cz_3_2 := cells4 Rz_3 2 _ rfl
          have cz_3_3 := cells4 Rz_3 3 _ rfl
          have q0 := fz (k := 0) Rz_3
          have q1 := fz (k := 1) Rz_3
          have q2 := fz (k := 2) Rz_3
          have q3 := fz (k := 3) Rz_3
          obtain ⟨E0, E1, E2, E3⟩ := set4_cells Rz_3 rfl (.bool false) (.string ⟨#[]⟩) (.string ⟨#[]⟩) (.int .i64 0)
          go_wp2
          exact bodyPost_ret (v := .tuple #[.agg #[.bool false, .string ⟨#[]⟩, .string ⟨#[]⟩, .int .i64 0], .int .i64 4]) (by simp [results, Tryz.results28, go_sem, E0, E1, E2, E3]) rfl ⟨rfl, set4_below B3 (by first | exact Nat.le_refl _ | omega) _ _ _ _⟩
    · rw [decide_eq_false g1'] at eo
      rcases hc with ⟨hc, rfl, rfl, rfl, rfl, rfl⟩ | ⟨hc, rfl, rfl, rfl, rfl, rfl⟩
      · rw [hun] at hu
        rw [hud] at hv
        subst hu hv
        have c1 : decide (re < -1048576) = false := decide_eq_false (by omega)
        have c2 : decide (1048576 < re) = false := decide_eq_false (by omega)
        clear hs ht ln ld hr hx hy hE hc o1 o2 o3 o4 hp hq n0 d0 hb1 hb2 hgg hh hun hud hvn hvd g1'
        have Rz_0 : (w.alloc (Obj.cells #[.bool false, .string ⟨#[]⟩, .string ⟨#[]⟩, .int .i64 0] 24)).heap[w.heap.size]? = some (Obj.cells #[.bool false, .string ⟨#[]⟩, .string ⟨#[]⟩, .int .i64 0] 24) := by have := heap_alloc_last w (Obj.cells #[.bool false, .string ⟨#[]⟩, .string ⟨#[]⟩, .int .i64 0] 24); simpa only [size_al] using this
        have B0 : Below w.heap.size w (w.alloc (Obj.cells #[.bool false, .string ⟨#[]⟩, .string ⟨#[]⟩, .int .i64 0] 24)) := ((Below.refl _ _).alloc (by first | omega | (simp only [size_al]; omega)) _)
        go_enter Tryz.func28, Tryz.ntmps28
        go_wp2_with fail
        refine (nat_may s true H1.out _).mono ?_
        rintro r w' ⟨rfl, rfl⟩
        go_wp2_with fail
        refine (nat_may t true H2.out _).mono ?_
        rintro r w' ⟨rfl, rfl⟩
        go_wp2_with fail
        refine (nat_Low n x s HS.out LN.out LX.out _).mono ?_
        rintro r w' ⟨rfl, rfl⟩
        go_wp2_with fail
        refine (nat_Low d y t HT.out LD.out LY.out _).mono ?_
        rintro r w' ⟨rfl, rfl⟩
        go_wp2_with fail
        refine (nat_Right n (x : Int) s p b1 HS.out LN.out (by omega) (by omega) P1.out O1.out _).mono ?_
        rintro r w1 ⟨rfl, b1⟩
        have B1 : Below w.heap.size w w1 := btr B0 b1
        have Rz_1 : w1.heap[w.heap.size]? = some (Obj.cells #[.bool false, .string ⟨#[]⟩, .string ⟨#[]⟩, .int .i64 0] 24) := heap_of b1 _ _ _ Rz_0
        clear b1 B0 Rz_0
        have cz_1_0 := cells4 Rz_1 0 _ rfl
        have cz_1_1 := cells4 Rz_1 1 _ rfl
        have cz_1_2 := cells4 Rz_1 2 _ rfl
        have cz_1_3 := cells4 Rz_1 3 _ rfl
        go_wp2_with fail
        refine (nat_Right d (y : Int) t q b2 HT.out LD.out (by omega) (by omega) Q1.out O2.out _).mono ?_
        rintro r w2 ⟨rfl, b2⟩
        have B2 : Below w.heap.size w w2 := btr B1 b2
        have Rz_2 : w2.heap[w.heap.size]? = some (Obj.cells #[.bool false, .string ⟨#[]⟩, .string ⟨#[]⟩, .int .i64 0] 24) := heap_of b2 _ _ _ Rz_1
        clear b2 B1 Rz_1 cz_1_0 cz_1_1 cz_1_2 cz_1_3
        have cz_2_0 := cells4 Rz_2 0 _ rfl
        have cz_2_1 := cells4 Rz_2 1 _ rfl
        have cz_2_2 := cells4 Rz_2 2 _ rfl
        have cz_2_3 := cells4 Rz_2 3 _ rfl
        go_wp2_with fail
        refine (nat_Gcd (od n) (od d) p q h HP.out HQ.out L1.out L2.out HG.out _).mono ?_
        rintro r w3 ⟨rfl, b3⟩
        have B3 : Below w.heap.size w w3 := btr B2 b3
        have Rz_3 : w3.heap[w.heap.size]? = some (Obj.cells #[.bool false, .string ⟨#[]⟩, .string ⟨#[]⟩, .int .i64 0] 24) := heap_of b3 _ _ _ Rz_2
        clear b3 B2 Rz_2 cz_2_0 cz_2_1 cz_2_2 cz_2_3
        have cz_3_0 := cells4 Rz_3 0 _ rfl
        have cz_3_1 := cells4 Rz_3 1 _ rfl
        have cz_3_2 := cells4 Rz_3 2 _ rfl
        have cz_3_3 := cells4 Rz_3 3 _ rfl
        go_wp2_with fail
        refine (nat_Div (od n) gg p h un vn HP.out HH.out L1.out G0.out U1.out U3.out _).mono ?_
        rintro r w4 ⟨rfl, b4⟩
        have B4 : Below w.heap.size w w4 := btr B3 b4
        have Rz_4 : w4.heap[w.heap.size]? = some (Obj.cells #[.bool false, .string ⟨#[]⟩, .string ⟨#[]⟩, .int .i64 0] 24) := heap_of b4 _ _ _ Rz_3
        clear b4 B3 Rz_3 cz_3_0 cz_3_1 cz_3_2 cz_3_3
        have cz_4_0 := cells4 Rz_4 0 _ rfl
        have cz_4_1 := cells4 Rz_4 1 _ rfl
        have cz_4_2 := cells4 Rz_4 2 _ rfl
        have cz_4_3 := cells4 Rz_4 3 _ rfl
        go_wp2_with fail
        refine (nat_Div (od d) gg q h ud vd HQ.out HH.out L2.out G0.out U2.out U4.out _).mono ?_
        rintro r w5 ⟨rfl, b5⟩
        have B5 : Below w.heap.size w w5 := btr B4 b5
        have Rz_5 : w5.heap[w.heap.size]? = some (Obj.cells #[.bool false, .string ⟨#[]⟩, .string ⟨#[]⟩, .int .i64 0] 24) := heap_of b5 _ _ _ Rz_4
        clear b5 B4 Rz_4 cz_4_0 cz_4_1 cz_4_2 cz_4_3
        have cz_5_0 := cells4 Rz_5 0 _ rfl
        have cz_5_1 := cells4 Rz_5 1 _ rfl
        have cz_5_2 := cells4 Rz_5 2 _ rfl
        have cz_5_3 := cells4 Rz_5 3 _ rfl
        have q0 := fz (k := 0) Rz_5
        have q1 := fz (k := 1) Rz_5
        have q2 := fz (k := 2) Rz_5
        have q3 := fz (k := 3) Rz_5
        obtain ⟨E0, E1, E2, E3⟩ := set4_cells Rz_5 rfl (.bool rb) (.string un) (.string ud) (.int .i64 re)
        go_wp2
        exact bodyPost_ret (v := .tuple #[.agg #[.bool rb, .string un, .string ud, .int .i64 re], .int .i64 0]) (by simp [results, Tryz.results28, go_sem, E0, E1, E2, E3]) rfl ⟨rfl, set4_below B5 (by first | exact Nat.le_refl _ | omega) _ _ _ _⟩
      · rw [nbA_zero] at hu hv
        subst hu hv
        have c0 : E < -1048576 ∨ 1048576 < E := by omega
        have c12 : decide (E < -1048576) = true ∨ (decide (E < -1048576) = false ∧ decide (1048576 < E) = true) := by
          by_cases hh : E < -1048576
          · exact Or.inl (decide_eq_true hh)
          · exact Or.inr ⟨decide_eq_false hh, decide_eq_true (by omega)⟩
        clear hs ht ln ld hr hx hy hE hc o1 o2 o3 o4 hp hq n0 d0 hb1 hb2 hgg hh hun hud hvn hvd g1' c0
        rcases c12 with c1 | ⟨c1, c2⟩
        · have Rz_0 : (w.alloc (Obj.cells #[.bool false, .string ⟨#[]⟩, .string ⟨#[]⟩, .int .i64 0] 24)).heap[w.heap.size]? = some (Obj.cells #[.bool false, .string ⟨#[]⟩, .string ⟨#[]⟩, .int .i64 0] 24) := by have := heap_alloc_last w (Obj.cells #[.bool false, .string ⟨#[]⟩, .string ⟨#[]⟩, .int .i64 0] 24); simpa only [size_al] using this
          have B0 : Below w.heap.size w (w.alloc (Obj.cells #[.bool false, .string ⟨#[]⟩, .string ⟨#[]⟩, .int .i64 0] 24)) := ((Below.refl _ _).alloc (by first | omega | (simp only [size_al]; omega)) _)
          go_enter Tryz.func28, Tryz.ntmps28
          go_wp2_with fail
          refine (nat_may s true H1.out _).mono ?_
          rintro r w' ⟨rfl, rfl⟩
          go_wp2_with fail
          refine (nat_may t true H2.out _).mono ?_
          rintro r w' ⟨rfl, rfl⟩
          go_wp2_with fail
          refine (nat_Low n x s HS.out LN.out LX.out _).mono ?_
          rintro r w' ⟨rfl, rfl⟩
          go_wp2_with fail
          refine (nat_Low d y t HT.out LD.out LY.out _).mono ?_
          rintro r w' ⟨rfl, rfl⟩
          go_wp2_with fail
          refine (nat_Right n (x : Int) s p b1 HS.out LN.out (by omega) (by omega) P1.out O1.out _).mono ?_
          rintro r w1 ⟨rfl, b1⟩
          have B1 : Below w.heap.size w w1 := btr B0 b1
          have Rz_1 : w1.heap[w.heap.size]? = some (Obj.cells #[.bool false, .string ⟨#[]⟩, .string ⟨#[]⟩, .int .i64 0] 24) := heap_of b1 _ _ _ Rz_0
          clear b1 B0 Rz_0
          have cz_1_0 := cells4 Rz_1 0 _ rfl
          have cz_1_1 := cells4 Rz_1 1 _ rfl
          have cz_1_2 := cells4 Rz_1 2 _ rfl
          have cz_1_3 := cells4 Rz_1 3 _ rfl
          go_wp2_with fail
          refine (nat_Right d (y : Int) t q b2 HT.out LD.out (by omega) (by omega) Q1.out O2.out _).mono ?_
          rintro r w2 ⟨rfl, b2⟩
          have B2 : Below w.heap.size w w2 := btr B1 b2
          have Rz_2 : w2.heap[w.heap.size]? = some (Obj.cells #[.bool false, .string ⟨#[]⟩, .string ⟨#[]⟩, .int .i64 0] 24) := heap_of b2 _ _ _ Rz_1
          clear b2 B1 Rz_1 cz_1_0 cz_1_1 cz_1_2 cz_1_3
          have cz_2_0 := cells4 Rz_2 0 _ rfl
          have cz_2_1 := cells4 Rz_2 1 _ rfl
          have cz_2_2 := cells4 Rz_2 2 _ rfl
          have cz_2_3 := cells4 Rz_2 3 _ rfl
          go_wp2_with fail
          refine (nat_Gcd (od n) (od d) p q h HP.out HQ.out L1.out L2.out HG.out _).mono ?_
          rintro r w3 ⟨rfl, b3⟩
          have B3 : Below w.heap.size w w3 := btr B2 b3
          have Rz_3 : w3.heap[w.heap.size]? = some (Obj.cells #[.bool false, .string ⟨#[]⟩, .string ⟨#[]⟩, .int .i64 0] 24) := heap_of b3 _ _ _ Rz_2
          clear b3 B2 Rz_2 cz_2_0 cz_2_1 cz_2_2 cz_2_3
          have cz_3_0 := cells4 Rz_3 0 _ rfl
          have cz_3_1 := cells4 Rz_3 1 _ rfl
          have cz_3_2 := cells4 Rz_3 2 _ rfl
          have cz_3_3 := cells4 Rz_3 3 _ rfl
          go_wp2_with fail
          refine (nat_Div (od n) gg p h un vn HP.out HH.out L1.out G0.out U1.out U3.out _).mono ?_
          rintro r w4 ⟨rfl, b4⟩
          have B4 : Below w.heap.size w w4 := btr B3 b4
          have Rz_4 : w4.heap[w.heap.size]? = some (Obj.cells #[.bool false, .string ⟨#[]⟩, .string ⟨#[]⟩, .int .i64 0] 24) := heap_of b4 _ _ _ Rz_3
          clear b4 B3 Rz_3 cz_3_0 cz_3_1 cz_3_2 cz_3_3
          have cz_4_0 := cells4 Rz_4 0 _ rfl
          have cz_4_1 := cells4 Rz_4 1 _ rfl
          have cz_4_2 := cells4 Rz_4 2 _ rfl
          have cz_4_3 := cells4 Rz_4 3 _ rfl
          go_wp2_with fail
          refine (nat_Div (od d) gg q h ud vd HQ.out HH.out L2.out G0.out U2.out U4.out _).mono ?_
          rintro r w5 ⟨rfl, b5⟩
          have B5 : Below w.heap.size w w5 := btr B4 b5
          have Rz_5 : w5.heap[w.heap.size]? = some (Obj.cells #[.bool false, .string ⟨#[]⟩, .string ⟨#[]⟩, .int .i64 0] 24) := heap_of b5 _ _ _ Rz_4
          clear b5 B4 Rz_4 cz_4_0 cz_4_1 cz_4_2 cz_4_3
          have cz_5_0 := cells4 Rz_5 0 _ rfl
          have cz_5_1 := cells4 Rz_5 1 _ rfl
          have cz_5_2 := cells4 Rz_5 2 _ rfl
          have cz_5_3 := cells4 Rz_5 3 _ rfl
          have q0 := fz (k := 0) Rz_5
          have q1 := fz (k := 1) Rz_5
          have q2 := fz (k := 2) Rz_5
          have q3 := fz (k := 3) Rz_5
          obtain ⟨E0, E1, E2, E3⟩ := set4_cells Rz_5 rfl (.bool false) (.string ⟨#[]⟩) (.string ⟨#[]⟩) (.int .i64 0)
          go_wp2
          exact bodyPost_ret (v := .tuple #[.agg #[.bool false, .string ⟨#[]⟩, .string ⟨#[]⟩, .int .i64 0], .int .i64 4]) (by simp [results, Tryz.results28, go_sem, E0, E1, E2, E3]) rfl ⟨rfl, set4_below B5 (by first | exact Nat.le_refl _ | omega) _ _ _ _⟩
        · have Rz_0 : (w.alloc (Obj.cells #[.bool false, .string ⟨#[]⟩, .string ⟨#[]⟩, .int .i64 0] 24)).heap[w.heap.size]? = some (Obj.cells #[.bool false, .string ⟨#[]⟩, .string ⟨#[]⟩, .int .i64 0] 24) := by have := heap_alloc_last w (Obj.cells #[.bool false, .string ⟨#[]⟩, .string ⟨#[]⟩, .int .i64 0] 24); simpa only [size_al] using this
          have B0 : Below w.heap.size w (w.alloc (Obj.cells #[.bool false, .string ⟨#[]⟩, .string ⟨#[]⟩, .int .i64 0] 24)) := ((Below.refl _ _).alloc (by first | omega | (simp only [size_al]; omega)) _)
          go_enter Tryz.func28, Tryz.ntmps28
          go_wp2_with fail
          refine (nat_may s true H1.out _).mono ?_
          rintro r w' ⟨rfl, rfl⟩
          go_wp2_with fail
          refine (nat_may t true H2.out _).mono ?_
          rintro r w' ⟨rfl, rfl⟩
          go_wp2_with fail
          refine (nat_Low n x s HS.out LN.out LX.out _).mono ?_
          rintro r w' ⟨rfl, rfl⟩
          go_wp2_with fail
          refine (nat_Low d y t HT.out LD.out LY.out _).mono ?_
          rintro r w' ⟨rfl, rfl⟩
          go_wp2_with fail
          refine (nat_Right n (x : Int) s p b1 HS.out LN.out (by omega) (by omega) P1.out O1.out _).mono ?_
          rintro r w1 ⟨rfl, b1⟩
          have B1 : Below w.heap.size w w1 := btr B0 b1
          have Rz_1 : w1.heap[w.heap.size]? = some (Obj.cells #[.bool false, .string ⟨#[]⟩, .string ⟨#[]⟩, .int .i64 0] 24) := heap_of b1 _ _ _ Rz_0
          clear b1 B0 Rz_0
          have cz_1_0 := cells4 Rz_1 0 _ rfl
          have cz_1_1 := cells4 Rz_1 1 _ rfl
          have cz_1_2 := cells4 Rz_1 2 _ rfl
          have cz_1_3 := cells4 Rz_1 3 _ rfl
          go_wp2_with fail
          refine (nat_Right d (y : Int) t q b2 HT.out LD.out (by omega) (by omega) Q1.out O2.out _).mono ?_
          rintro r w2 ⟨rfl, b2⟩
          have B2 : Below w.heap.size w w2 := btr B1 b2
          have Rz_2 : w2.heap[w.heap.size]? = some (Obj.cells #[.bool false, .string ⟨#[]⟩, .string ⟨#[]⟩, .int .i64 0] 24) := heap_of b2 _ _ _ Rz_1
          clear b2 B1 Rz_1 cz_1_0 cz_1_1 cz_1_2 cz_1_3
          have cz_2_0 := cells4 Rz_2 0 _ rfl
          have cz_2_1 := cells4 Rz_2 1 _ rfl
          have cz_2_2 := cells4 Rz_2 2 _ rfl
          have cz_2_3 := cells4 Rz_2 3 _ rfl
          go_wp2_with fail
          refine (nat_Gcd (od n) (od d) p q h HP.out HQ.out L1.out L2.out HG.out _).mono ?_
          rintro r w3 ⟨rfl, b3⟩
          have B3 : Below w.heap.size w w3 := btr B2 b3
          have Rz_3 : w3.heap[w.heap.size]? = some (Obj.cells #[.bool false, .string ⟨#[]⟩, .string ⟨#[]⟩, .int .i64 0] 24) := heap_of b3 _ _ _ Rz_2
          clear b3 B2 Rz_2 cz_2_0 cz_2_1 cz_2_2 cz_2_3
          have cz_3_0 := cells4 Rz_3 0 _ rfl
          have cz_3_1 := cells4 Rz_3 1 _ rfl
          have cz_3_2 := cells4 Rz_3 2 _ rfl
          have cz_3_3 := cells4 Rz_3 3 _ rfl
          go_wp2_with fail
          refine (nat_Div (od n) gg p h un vn HP.out HH.out L1.out G0.out U1.out U3.out _).mono ?_
          rintro r w4 ⟨rfl, b4⟩
          have B4 : Below w.heap.size w w4 := btr B3 b4
          have Rz_4 : w4.heap[w.heap.size]? = some (Obj.cells #[.bool false, .string ⟨#[]⟩, .string ⟨#[]⟩, .int .i64 0] 24) := heap_of b4 _ _ _ Rz_3
          clear b4 B3 Rz_3 cz_3_0 cz_3_1 cz_3_2 cz_3_3
          have cz_4_0 := cells4 Rz_4 0 _ rfl
          have cz_4_1 := cells4 Rz_4 1 _ rfl
          have cz_4_2 := cells4 Rz_4 2 _ rfl
          have cz_4_3 := cells4 Rz_4 3 _ rfl
          go_wp2_with fail
          refine (nat_Div (od d) gg q h ud vd HQ.out HH.out L2.out G0.out U2.out U4.out _).mono ?_
          rintro r w5 ⟨rfl, b5⟩
          have B5 : Below w.heap.size w w5 := btr B4 b5
          have Rz_5 : w5.heap[w.heap.size]? = some (Obj.cells #[.bool false, .string ⟨#[]⟩, .string ⟨#[]⟩, .int .i64 0] 24) := heap_of b5 _ _ _ Rz_4
          clear b5 B4 Rz_4 cz_4_0 cz_4_1 cz_4_2 cz_4_3
          have cz_5_0 := cells4 Rz_5 0 _ rfl
          have cz_5_1 := cells4 Rz_5 1 _ rfl
          have cz_5_2 := cells4 Rz_5 2 _ rfl
          have cz_5_3 := cells4 Rz_5 3 _ rfl
          have q0 := fz (k := 0) Rz_5
          have q1 := fz (k := 1) Rz_5
          have q2 := fz (k := 2) Rz_5
          have q3 := fz (k := 3) Rz_5
          obtain ⟨E0, E1, E2, E3⟩ := set4_cells Rz_5 rfl (.bool false) (.string ⟨#[]⟩) (.string ⟨#[]⟩) (.int .i64 0)
          go_wp2
          exact bodyPost_ret (v := .tuple #[.agg #[.bool false, .string ⟨#[]⟩, .string ⟨#[]⟩, .int .i64 0], .int .i64 4]) (by simp [results, Tryz.results28, go_sem, E0, E1, E2, E3]) rfl ⟨rfl, set4_below B5 (by first | exact Nat.le_refl _ | omega) _ _ _ _⟩

set_option maxRecDepth 100000 in
set_option maxHeartbeats 1000000 in
theorem rmake_no (neg : Bool) (s t : ByteArray) (e : Int) (h : mayB s = false ∨ mayB t = false ∨ t.size = 0 ∨ e < -1048576 ∨ 1048576 < e) (w : World) :
    Calls Tryz.prog 28 #[.bool neg, .string s, .string t, .int .i64 e] w fun r w' => r = .returned (.tuple #[.agg #[.bool false, .string ⟨#[]⟩, .string ⟨#[]⟩, .int .i64 0], .int .i64 2]) ∧ Below w.heap.size w w' := by
  have e0 := eq_empty t
  cases hm1 : mayB s
  · have H1 := box hm1
    clear hm1 h e0
    have Rz_0 : (w.alloc (Obj.cells #[.bool false, .string ⟨#[]⟩, .string ⟨#[]⟩, .int .i64 0] 24)).heap[w.heap.size]? = some (Obj.cells #[.bool false, .string ⟨#[]⟩, .string ⟨#[]⟩, .int .i64 0] 24) := by have := heap_alloc_last w (Obj.cells #[.bool false, .string ⟨#[]⟩, .string ⟨#[]⟩, .int .i64 0] 24); simpa only [size_al] using this
    have B0 : Below w.heap.size w (w.alloc (Obj.cells #[.bool false, .string ⟨#[]⟩, .string ⟨#[]⟩, .int .i64 0] 24)) := ((Below.refl _ _).alloc (by first | omega | (simp only [size_al]; omega)) _)
    go_enter Tryz.func28, Tryz.ntmps28
    go_wp2_with fail
    refine (nat_may s false H1.out _).mono ?_
    rintro r w' ⟨rfl, rfl⟩
    clear B0 Rz_0
    go_wp2
    exact bodyPost_ret (v := .tuple #[.agg #[.bool false, .string ⟨#[]⟩, .string ⟨#[]⟩, .int .i64 0], .int .i64 2]) (by simp [results, Tryz.results28, go_sem]) rfl ⟨rfl, ((Below.refl _ _).alloc (by first | omega | (simp only [size_al]; omega)) _)⟩
  cases hm2 : mayB t
  · have H1 := box hm1
    have H2 := box hm2
    clear hm1 hm2 h e0
    have Rz_0 : (w.alloc (Obj.cells #[.bool false, .string ⟨#[]⟩, .string ⟨#[]⟩, .int .i64 0] 24)).heap[w.heap.size]? = some (Obj.cells #[.bool false, .string ⟨#[]⟩, .string ⟨#[]⟩, .int .i64 0] 24) := by have := heap_alloc_last w (Obj.cells #[.bool false, .string ⟨#[]⟩, .string ⟨#[]⟩, .int .i64 0] 24); simpa only [size_al] using this
    have B0 : Below w.heap.size w (w.alloc (Obj.cells #[.bool false, .string ⟨#[]⟩, .string ⟨#[]⟩, .int .i64 0] 24)) := ((Below.refl _ _).alloc (by first | omega | (simp only [size_al]; omega)) _)
    go_enter Tryz.func28, Tryz.ntmps28
    go_wp2_with fail
    refine (nat_may s true H1.out _).mono ?_
    rintro r w' ⟨rfl, rfl⟩
    go_wp2_with fail
    refine (nat_may t false H2.out _).mono ?_
    rintro r w' ⟨rfl, rfl⟩
    clear B0 Rz_0
    go_wp2
    exact bodyPost_ret (v := .tuple #[.agg #[.bool false, .string ⟨#[]⟩, .string ⟨#[]⟩, .int .i64 0], .int .i64 2]) (by simp [results, Tryz.results28, go_sem]) rfl ⟨rfl, ((Below.refl _ _).alloc (by first | omega | (simp only [size_al]; omega)) _)⟩
  have H1 := box hm1
  have H2 := box hm2
  by_cases hz : t.size = 0
  · rw [decide_eq_true hz] at e0
    clear hm1 hm2 h hz
    have Rz_0 : (w.alloc (Obj.cells #[.bool false, .string ⟨#[]⟩, .string ⟨#[]⟩, .int .i64 0] 24)).heap[w.heap.size]? = some (Obj.cells #[.bool false, .string ⟨#[]⟩, .string ⟨#[]⟩, .int .i64 0] 24) := by have := heap_alloc_last w (Obj.cells #[.bool false, .string ⟨#[]⟩, .string ⟨#[]⟩, .int .i64 0] 24); simpa only [size_al] using this
    have B0 : Below w.heap.size w (w.alloc (Obj.cells #[.bool false, .string ⟨#[]⟩, .string ⟨#[]⟩, .int .i64 0] 24)) := ((Below.refl _ _).alloc (by first | omega | (simp only [size_al]; omega)) _)
    go_enter Tryz.func28, Tryz.ntmps28
    go_wp2_with fail
    refine (nat_may s true H1.out _).mono ?_
    rintro r w' ⟨rfl, rfl⟩
    go_wp2_with fail
    refine (nat_may t true H2.out _).mono ?_
    rintro r w' ⟨rfl, rfl⟩
    clear B0 Rz_0
    go_wp2
    exact bodyPost_ret (v := .tuple #[.agg #[.bool false, .string ⟨#[]⟩, .string ⟨#[]⟩, .int .i64 0], .int .i64 2]) (by simp [results, Tryz.results28, go_sem]) rfl ⟨rfl, ((Below.refl _ _).alloc (by first | omega | (simp only [size_al]; omega)) _)⟩
  · rw [decide_eq_false hz] at e0
    have h2 : e < -1048576 ∨ 1048576 < e := by
      rcases h with h | h | h | h | h
      · rw [hm1] at h; exact absurd h (by decide)
      · rw [hm2] at h; exact absurd h (by decide)
      · exact absurd h hz
      · exact Or.inl h
      · exact Or.inr h
    have c12 : decide (e < -1048576) = true ∨ (decide (e < -1048576) = false ∧ decide (1048576 < e) = true) := by
      by_cases hh : e < -1048576
      · exact Or.inl (decide_eq_true hh)
      · exact Or.inr ⟨decide_eq_false hh, decide_eq_true (by omega)⟩
    clear hm1 hm2 h hz h2
    rcases c12 with c1 | ⟨c1, c2⟩
    · have Rz_0 : (w.alloc (Obj.cells #[.bool false, .string ⟨#[]⟩, .string ⟨#[]⟩, .int .i64 0] 24)).heap[w.heap.size]? = some (Obj.cells #[.bool false, .string ⟨#[]⟩, .string ⟨#[]⟩, .int .i64 0] 24) := by have := heap_alloc_last w (Obj.cells #[.bool false, .string ⟨#[]⟩, .string ⟨#[]⟩, .int .i64 0] 24); simpa only [size_al] using this
      have B0 : Below w.heap.size w (w.alloc (Obj.cells #[.bool false, .string ⟨#[]⟩, .string ⟨#[]⟩, .int .i64 0] 24)) := ((Below.refl _ _).alloc (by first | omega | (simp only [size_al]; omega)) _)
      go_enter Tryz.func28, Tryz.ntmps28
      go_wp2_with fail
      refine (nat_may s true H1.out _).mono ?_
      rintro r w' ⟨rfl, rfl⟩
      go_wp2_with fail
      refine (nat_may t true H2.out _).mono ?_
      rintro r w' ⟨rfl, rfl⟩
      clear B0 Rz_0
      go_wp2
      exact bodyPost_ret (v := .tuple #[.agg #[.bool false, .string ⟨#[]⟩, .string ⟨#[]⟩, .int .i64 0], .int .i64 2]) (by simp [results, Tryz.results28, go_sem]) rfl ⟨rfl, ((Below.refl _ _).alloc (by first | omega | (simp only [size_al]; omega)) _)⟩
    · have Rz_0 : (w.alloc (Obj.cells #[.bool false, .string ⟨#[]⟩, .string ⟨#[]⟩, .int .i64 0] 24)).heap[w.heap.size]? = some (Obj.cells #[.bool false, .string ⟨#[]⟩, .string ⟨#[]⟩, .int .i64 0] 24) := by have := heap_alloc_last w (Obj.cells #[.bool false, .string ⟨#[]⟩, .string ⟨#[]⟩, .int .i64 0] 24); simpa only [size_al] using this
      have B0 : Below w.heap.size w (w.alloc (Obj.cells #[.bool false, .string ⟨#[]⟩, .string ⟨#[]⟩, .int .i64 0] 24)) := ((Below.refl _ _).alloc (by first | omega | (simp only [size_al]; omega)) _)
      go_enter Tryz.func28, Tryz.ntmps28
      go_wp2_with fail
      refine (nat_may s true H1.out _).mono ?_
      rintro r w' ⟨rfl, rfl⟩
      go_wp2_with fail
      refine (nat_may t true H2.out _).mono ?_
      rintro r w' ⟨rfl, rfl⟩
      clear B0 Rz_0
      go_wp2
      exact bodyPost_ret (v := .tuple #[.agg #[.bool false, .string ⟨#[]⟩, .string ⟨#[]⟩, .int .i64 0], .int .i64 2]) (by simp [results, Tryz.results28, go_sem]) rfl ⟨rfl, ((Below.refl _ _).alloc (by first | omega | (simp only [size_al]; omega)) _)⟩
end Go.Proofs.YtknkkagapcigfaaGreatDoor
