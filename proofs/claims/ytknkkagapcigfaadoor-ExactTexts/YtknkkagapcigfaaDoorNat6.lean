/-
  What the functions Left and Right of the document's answer for layer 5 return.
-/
import Derived.Test.YtknkkagapcigfaaDoorNat4
import Derived.Test.YtknkkagapcigfaaDoorNat5
namespace Go.Proofs.YtknkkagapcigfaaDoor
open Go.RowKit WMath

/-- What is moved to the left, or that it is too long, or that the count is below 0. -/
def lf (a : Nat) (n : Int) : ByteArray × Int := if n < 0 then (⟨#[]⟩, 2) else lg (a * 2 ^ n.toNat)

theorem blen_pow (a n : Nat) (h : a ≠ 0) : blen (a * 2 ^ n) = blen a + n := by
  have h1 := blen_le a h
  have h2 := blen_lt a
  have h3 := blen_pos a h
  have h4 := Nat.mul_le_mul_right (2 ^ n) h1
  have h5 := Nat.mul_lt_mul_of_pos_right h2 (Nat.two_pow_pos n)
  rw [← Nat.pow_add] at h4 h5
  have := blen_of (a * 2 ^ n) (blen a - 1 + n) h4 (by rw [show blen a - 1 + n + 1 = blen a + n by omega]; exact h5)
  omega

theorem left_byte (a i n q r p x z X : Nat) (hq : q = n / 8) (hr : r = n % 8) (hp : p = i + q) (hx : d8 a i * 2 ^ r = x) (hz : x % 256 = z) (hX : X = (a % 2 ^ (8 * i)) * 2 ^ n) :
    X ||| z * 2 ^ (8 * p) = X + z * 2 ^ (8 * p) ∧ X ||| z * 2 ^ (8 * p) < 2 ^ (8 * (p + 1)) ∧ X + z * 2 ^ (8 * p) + 2 ^ (8 * (p + 1)) * (x / 256) = (a % 2 ^ (8 * (i + 1))) * 2 ^ n := by
  have r8 : r < 8 := by omega
  have e0 : 8 * p + r = 8 * i + n := by omega
  have hXl : X < 2 ^ (8 * p + r) := by
    rw [hX, e0, Nat.pow_add]
    exact Nat.mul_lt_mul_of_pos_right (Nat.mod_lt _ (Nat.two_pow_pos _)) (Nat.two_pow_pos n)
  have ez : z = (d8 a i % 2 ^ (8 - r)) * 2 ^ r := by
    rw [← hz, ← hx, ← Nat.mul_mod_mul_right, ← Nat.pow_add, show 8 - r + r = 8 by omega]
  have e1 : z * 2 ^ (8 * p) = (d8 a i % 2 ^ (8 - r)) * 2 ^ (8 * p + r) := by rw [ez, Nat.mul_assoc, ← Nat.pow_add, Nat.add_comm r]
  have e2 : X ||| z * 2 ^ (8 * p) = X + z * 2 ^ (8 * p) := by rw [e1]; exact (or_disj _ _ _ hXl).symm
  have e3 : 2 ^ (8 * p) * x = 2 ^ (8 * i) * d8 a i * 2 ^ n := by
    rw [← hx, Nat.mul_left_comm, ← Nat.pow_add, e0, Nat.pow_add, ← Nat.mul_assoc, Nat.mul_comm (d8 a i)]
  refine ⟨e2, ?_, ?_⟩
  · refine Nat.or_lt_two_pow (Nat.lt_of_lt_of_le hXl (Nat.pow_le_pow_right (by decide) (by omega))) ?_
    rw [pow8, Nat.mul_comm]
    exact Nat.mul_lt_mul_of_pos_left (by omega) (Nat.two_pow_pos _)
  · have := carry_step X (2 ^ (8 * p)) x
    rw [hz, ← pow8, Nat.mul_comm (2 ^ (8 * p)) z] at this
    rw [this, e3, hX, mod_d8, Nat.add_mul]

theorem lf_neg (a : Nat) (n : Int) (h : n < 0) : lf a n = (⟨#[]⟩, 2) := by unfold lf; rw [if_pos h]
theorem lf_long (a : Nat) (n : Int) (h : 0 ≤ n) (h0 : a ≠ 0) (hl : 131072 < (blen a : Int) + n) : lf a n = (⟨#[]⟩, 4) := by
  unfold lf lg
  have e : blen (a * 2 ^ n.toNat) = blen a + n.toNat := blen_pow a _ h0
  rw [if_neg (by omega), if_neg]
  unfold nl
  omega
theorem lf_in (a n : Nat) (h0 : a ≠ 0) (hl : blen a + n ≤ 131072) : lf a (n : Int) = (nbA (a * 2 ^ n), 0) := by
  unfold lf lg
  rw [if_neg (by omega), Int.toNat_natCast, if_pos]
  have e : blen (a * 2 ^ n) = blen a + n := blen_pow a _ h0
  unfold nl
  omega
theorem lf_zero (n : Int) (h : 0 ≤ n) : lf 0 n = (⟨#[]⟩, 0) := by
  unfold lf lg
  rw [if_neg (by omega), Nat.zero_mul, nl_zero, if_pos (by omega), nbA_zero]

theorem lost_low (a n t : Nat) (h : LowB a t) : (a % 2 ^ n ≠ 0) ↔ t < n := by
  constructor
  · intro h1
    rcases Nat.lt_or_ge t n with h2 | h2
    · exact h2
    · exfalso
      apply h1
      obtain ⟨d, hd⟩ := Nat.dvd_of_mod_eq_zero h.1
      apply Nat.mod_eq_zero_of_dvd
      refine Nat.dvd_trans (Nat.pow_dvd_pow 2 h2) ?_
      exact ⟨d, hd⟩
  · intro h1 h2
    have h3 := Nat.testBit_mod_two_pow a n t
    rw [h2, h.2, decide_eq_true h1, Nat.zero_testBit] at h3
    cases h3

theorem right_byte (a i n q r p x y t z : Nat) (hq : q = n / 8) (hr : r = n % 8) (hp : p = i + q) (hx : d8 a p = x) (hy : d8 a (p + 1) = y) (ht : x + 256 * y = t) (hz : t / 2 ^ r % 256 = z) : d8 (a / 2 ^ n) i = z := by
  have e1 : t = a / 2 ^ (8 * p) % 2 ^ 16 := by
    rw [← ht, ← hx, ← hy]
    unfold d8
    rw [pow8, ← Nat.div_div_eq_div_mul]
    omega
  have e2 : a / 2 ^ n / 2 ^ (8 * i) = a / 2 ^ (8 * p) / 2 ^ r := by
    rw [Nat.div_div_eq_div_mul, ← Nat.pow_add, Nat.div_div_eq_div_mul, ← Nat.pow_add]
    congr 2
    omega
  unfold d8
  rw [e2, ← hz, e1]
  generalize a / 2 ^ (8 * p) = A
  rw [two8]
  have e3 : A % 2 ^ 16 = A % 2 ^ (r + (16 - r)) := by congr 2; omega
  rw [e3, Nat.pow_add, Nat.mod_mul_right_div_self, Nat.mod_mod_of_dvd]
  exact Nat.pow_dvd_pow 2 (by omega)

set_option maxHeartbeats 2000000 in
set_option maxRecDepth 100000 in
theorem nat_Right (a : Nat) (n : Int) (s v : ByteArray) (o : Bool) (hs : nbA a = s) (ha : nl a ≤ 16384) (h0 : 0 ≤ n) (hn : n ≤ 9223372036854775807) (hv : nbA (a / 2 ^ n.toNat) = v) (ho : decide (a % 2 ^ n.toNat ≠ 0) = o) (w : World) :
    Calls Tryd.prog 37 #[.string s, .int .i64 n] w fun r w' => r = .returned (.tuple #[.string v, .bool o, .int .i64 0]) ∧ Below w.heap.size w w' := by
  obtain ⟨n, rfl⟩ : ∃ m : Nat, n = (m : Int) := ⟨n.toNat, by omega⟩
  rw [Int.toNat_natCast] at hv ho
  have c0 : decide ((n : Int) < 0) = false := by rw [decide_eq_false_iff_not]; omega
  obtain ⟨L, hL⟩ : ∃ L, nl a = L := ⟨_, rfl⟩
  have hz : s.size = L := by rw [← hs, nbA_size, hL]
  have d2 := eq_empty s
  by_cases ha0 : a = 0
  · subst ha0
    rw [Nat.zero_div, nbA_zero] at hv
    rw [Nat.zero_mod] at ho
    subst hv ho
    rw [decide_eq_true (by rw [hz, ← hL, nl_zero])] at d2
    clear hs hz hL
    go_enter Tryd.func37, Tryd.ntmps37
    go_wp2
    exact bodyPost_ret (v := .tuple #[.string ⟨#[]⟩, .bool false, .int .i64 0]) (by simp [results, Tryd.results37, go_sem]) rfl ⟨rfl, Below.refl _ _⟩
  · have hp := nl_pos a ha0
    have la := nl_lt a
    rw [hL] at hp la ha
    rw [decide_eq_false (by omega)] at d2
    obtain ⟨t, ht⟩ := lowB_any a ha0
    have hlo := lost_low a n t ht
    have hLN : LowN a t := Or.inr ⟨ha0, ht⟩
    have e1 : decide (t < n) = o := by rw [← ho]; exact decide_eq_decide.2 hlo.symm
    have HS := box hs
    have HA : Box (nl a ≤ 16384) := box (by omega)
    have HN := box hLN
    have NA : Box (nl a ≤ 100000) := box (by omega)
    have n0 : IntKind.i64.wrap (8 * (L : Int)) = 8 * (L : Int) := wrap_i64_is _ (by omega) (by omega)
    have LA := box la
    by_cases hb : 8 * L ≤ n
    · have c1 : decide (8 * (L : Int) ≤ (n : Int)) = true := by rw [decide_eq_true_iff]; omega
      have ev : v = ⟨#[]⟩ := by
        rw [← hv, Nat.div_eq_of_lt (Nat.lt_of_lt_of_le la (Nat.pow_le_pow_right (by decide) hb)), nbA_zero]
      subst ev
      clear hs hL hv ho ht hlo hLN hb la ha0
      go_enter Tryd.func37, Tryd.ntmps37
      go_wp2_with fail
      refine (nat_Low a t s HS.out HA.out HN.out _).mono ?_
      rintro e w' ⟨rfl, rfl⟩
      go_wp2
      exact bodyPost_ret (v := .tuple #[.string ⟨#[]⟩, .bool o, .int .i64 0]) (by simp [results, Tryd.results37, go_sem]) rfl ⟨rfl, Below.refl _ _⟩
    · have c1 : decide (8 * (L : Int) ≤ (n : Int)) = false := by rw [decide_eq_false_iff_not]; omega
      obtain ⟨q, hq⟩ : ∃ q, q = n / 8 := ⟨_, rfl⟩
      obtain ⟨r, hr⟩ : ∃ r, r = n % 8 := ⟨_, rfl⟩
      obtain ⟨m, hm⟩ : ∃ m, L - q = m := ⟨_, rfl⟩
      obtain ⟨b, hb2⟩ : ∃ b, a / 2 ^ n = b := ⟨_, rfl⟩
      have q1 : (n : Int) / 8 = (q : Int) := by omega
      have r1 : (n : Int) % 8 = (r : Int) := by omega
      have r8 : r < 8 := by omega
      have m1 : (L : Int) - (q : Int) = (m : Int) := by omega
      have bm : b < 2 ^ (8 * m) := by
        rw [← hb2, Nat.div_lt_iff_lt_mul (Nat.two_pow_pos _), ← Nat.pow_add]
        exact Nat.lt_of_lt_of_le la (Nat.pow_le_pow_right (by decide) (by omega))
      have HB := box hb2
      have BM := box bm
      have HQ := box hq
      have HR := box hr
      rw [hb2] at hv
      have HV := box hv
      have hmk := c8_make m (by omega)
      have m2 : m ≤ 16384 := by omega
      have q2 : q ≤ 16384 := by omega
      have qm : q + m = L := by omega
      have L2 : L ≤ 16384 := by omega
      clear hs hL hv ho ht hlo hLN hb la ha0 hq hr hm hb2 bm
      go_enter Tryd.func37, Tryd.ntmps37
      go_wp2_with fail
      refine (nat_Low a t s HS.out HA.out HN.out _).mono ?_
      rintro e w' ⟨rfl, hw'⟩
      subst hw'
      go_wp2
      clear hmk c0 c1 d2 e1
      go_loopw [10] (fun iv wr => ∃ i : Nat, i ≤ m ∧ iv = .int .i64 i ∧ wr.heap[w'.heap.size]? = some (.cells (c8 m (b % 2 ^ (8 * i))) 5) ∧ Below w'.heap.size w' wr) (fun iv _ => m - (intOf iv).toNat)
      case atStart => exact ⟨0, by omega, rfl, by rw [Nat.mul_zero, Nat.pow_zero, Nat.mod_one]; exact heap_alloc_last _ _, (Below.refl _ _).alloc (Nat.le_refl _) _⟩
      case round =>
        obtain ⟨i, hi, rfl, r0, hbw⟩ := hrel
        by_cases hlt : i < m
        · obtain ⟨p, hp2⟩ : ∃ p, p = i + q := ⟨_, rfl⟩
          obtain ⟨p1, hp1⟩ : ∃ p1, p1 = p + 1 := ⟨_, rfl⟩
          obtain ⟨x, hx⟩ : ∃ x, d8 a p = x := ⟨_, rfl⟩
          obtain ⟨y, hy⟩ : ∃ y, d8 a p1 = y := ⟨_, rfl⟩
          have x256 : x < 256 := by rw [← hx]; exact d8_lt _ _
          have y256 : y < 256 := by rw [← hy]; exact d8_lt _ _
          obtain ⟨u, hu⟩ : ∃ u, x + 256 * y = u := ⟨_, rfl⟩
          obtain ⟨z, hz2⟩ : ∃ z, u / 2 ^ r % 256 = z := ⟨_, rfl⟩
          have z256 : z < 256 := by rw [← hz2]; exact Nat.mod_lt _ (by decide)
          have e1 := right_byte a i n q r p x y u z HQ.out HR.out hp2 hx (by rw [← hp1]; exact hy) hu hz2
          rw [HB.out] at e1
          have pi : (i : Int) + (q : Int) = (p : Int) := by omega
          have pi1 : (p : Int) + 1 = (p1 : Int) := by omega
          obtain ⟨Y, hY⟩ : ∃ Y, 256 * y = Y := ⟨_, rfl⟩
          have n3 : (y : Int) * 256 = (Y : Int) := by omega
          have n4 : IntKind.i64.wrap (Y : Int) = (Y : Int) := wrap_i64_is _ (by omega) (by omega)
          have n5 : bits .or .i64 (x : Int) (Y : Int) = (u : Int) := by
            show IntKind.i64.wrap ((BitVec.ofInt 64 (x : Int) ||| BitVec.ofInt 64 (Y : Int)).toNat : Int) = _
            have h1 : (BitVec.ofInt 64 (x : Int)).toNat = x := by simp; omega
            have h2 : (BitVec.ofInt 64 (Y : Int)).toNat = Y := by simp; omega
            have h3 : x ||| Y = x + Y := by
              have := or_disj x y 8 (by rw [← two8]; exact x256)
              rw [← two8, Nat.mul_comm y, hY] at this
              exact this.symm
            rw [BitVec.toNat_or, h1, h2, h3, show x + Y = u by omega, wrap_i64_is _ (by omega) (by omega)]
          have n6 : IntKind.u8.wrap ((u : Int) / 2 ^ r) = (z : Int) := by
            rw [div_cast]
            exact wrap_u8_is _ z hz2
          have k1 := c8_cell r0 hlt
          have k2 := fz (k := i) r0
          have RS : Box ((wr.setCell ⟨w'.heap.size, i, none⟩ (.int .u8 (z : Int))).heap[w'.heap.size]? = some (.cells (c8 m (b % 2 ^ (8 * (i + 1)))) 5)) := box (by rw [setCell_row r0, c8_push m _ i z _ hlt (Nat.mod_lt _ (Nat.two_pow_pos _)) z256 rfl, mod_d8, e1])
          have HX := box hx
          have HY := box hy
          have dl : decide (i < m) = true := decide_eq_true hlt
          clear hp2 hp1 hx hy hu hz2 e1 hY
          go_wp2_with fail
          refine (nat_at a p x s HS.out HX.out NA.out _).mono ?_
          rintro e w2 ⟨rfl, rfl⟩
          go_wp2_with fail
          refine (nat_at a p1 y s HS.out HY.out NA.out _).mono ?_
          rintro e w2 ⟨rfl, rfl⟩
          go_wp2
          go_roundw
          case rel => exact ⟨i + 1, by omega, by go_num, RS.out, hbw.setCell (Nat.le_refl _) _⟩
          case measure => simp [intOf] <;> omega
        · obtain rfl : i = m := by omega
          have dl : decide (i < i) = false := by rw [decide_eq_false_iff_not]; omega
          rw [Nat.mod_eq_of_lt BM.out] at r0
          go_wp2_with fail
          refine (nat_fit i b w'.heap.size i v (by omega) BM.out HV.out _ r0).mono ?_
          rintro e w2 ⟨rfl, hb2⟩
          go_wp2
          exact bodyPost_ret (v := .tuple #[.string v, .bool o, .int .i64 0]) (by simp [results, Tryd.results37, go_sem]) rfl ⟨rfl, hbw.trans (hb2.mono hbw.size)⟩

theorem nat_Right_neg (n : Int) (s : ByteArray) (h0 : n < 0) (w : World) :
    Calls Tryd.prog 37 #[.string s, .int .i64 n] w fun r w' => r = .returned (.tuple #[.string ⟨#[]⟩, .bool false, .int .i64 2]) ∧ Below w.heap.size w w' := by
  have c0 : decide (n < 0) = true := decide_eq_true h0
  clear h0
  go_enter Tryd.func37, Tryd.ntmps37
  go_wp2
  exact bodyPost_ret (v := .tuple #[.string ⟨#[]⟩, .bool false, .int .i64 2]) (by simp [results, Tryd.results37, go_sem]) rfl ⟨rfl, Below.refl _ _⟩
end Go.Proofs.YtknkkagapcigfaaDoor
