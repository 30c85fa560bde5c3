/-
  What the functions that the statement reaches return: part 6 (Dmath, List12, List13, List14, List15, Gmath, List16, List17).
-/
import Derived.Test.YtbmhfcppaajgbaaGreatDoorRf05
namespace Go.Proofs.YtbmhfcppaajgbaaGreatDoor.WMath
set_option maxRecDepth 100000

/-- The guess at a digit, out of the highest words. -/
def gs (hi lo top : Nat) : Nat := if hi < top then (hi * 18446744073709551616 + lo) / top else 18446744073709551615
theorem gs_lt (hi lo top : Nat) (hl : lo < 18446744073709551616) : gs hi lo top < 18446744073709551616 := by
  unfold gs
  split
  · rename_i h
    apply Nat.div_lt_of_lt_mul
    have : (hi + 1) * 18446744073709551616 ≤ top * 18446744073709551616 := Nat.mul_le_mul_right _ h
    omega
  · omega
theorem div_top (V m : Nat) (hV : V < 2 ^ (64 * (m + 1))) : V / 2 ^ (64 * m) = wd V m := by
  unfold wd
  rw [Nat.mod_eq_of_lt]
  apply Nat.div_lt_of_lt_mul
  rw [← pow64]
  exact hV
theorem div_top2 (V m : Nat) (hV : V < 2 ^ (64 * (m + 2))) : V / 2 ^ (64 * m) = wd V (m + 1) * 18446744073709551616 + wd V m := by
  have h1 := div_top V (m + 1) hV
  rw [pow64, ← Nat.div_div_eq_div_mul] at h1
  have h2 : wd V m = V / 2 ^ (64 * m) % 18446744073709551616 := rfl
  omega
theorem gs_ge (V b m hi lo top : Nat) (hV : V < 2 ^ (64 * (m + 2))) (hb : b < 2 ^ (64 * (m + 1))) (hlt : V < 18446744073709551616 * b) (h1 : wd V (m + 1) = hi) (h2 : wd V m = lo) (h3 : wd b m = top) : V / b ≤ gs hi lo top := by
  unfold gs
  split
  · rename_i h
    have e1 := div_top2 V m hV
    have e2 := div_top b m hb
    rw [h1, h2] at e1
    rw [h3] at e2
    rw [← e1]
    have htop : 0 < top := by omega
    rw [Nat.le_div_iff_mul_le htop, Nat.le_div_iff_mul_le (Nat.two_pow_pos _)]
    have h4 : top * 2 ^ (64 * m) ≤ b := by rw [← e2]; exact Nat.div_mul_le_self _ _
    have h5 : V / b * (top * 2 ^ (64 * m)) ≤ V / b * b := Nat.mul_le_mul_left _ h4
    have h6 : V / b * b ≤ V := Nat.div_mul_le_self _ _
    rw [Nat.mul_assoc]
    omega
  · have hb0 : 0 < b := by
      by_cases e : b = 0
      · rw [e] at hlt; omega
      · omega
    have : V / b < 18446744073709551616 := Nat.div_lt_of_lt_mul (by rw [Nat.mul_comm]; exact hlt)
    omega

/-- What a digit's rounds keep: t times b were taken. -/
def DigSt (V b P t S : Nat) (u : Bool) : Prop := V / b ≤ t ∧ S + t * b = V + P * u.toNat ∧ S < P
theorem digSt_end {V b P t S : Nat} (h : DigSt V b P t S false) (hb : 0 < b) : t = V / b ∧ S = V % b := by
  obtain ⟨h1, h2, _⟩ := h
  rw [Bool.toNat_false, Nat.mul_zero, Nat.add_zero] at h2
  have h3 : t ≤ V / b := (Nat.le_div_iff_mul_le hb).2 (by omega)
  have e : t = V / b := by omega
  refine ⟨e, ?_⟩
  have := Nat.div_add_mod V b
  rw [← e, Nat.mul_comm] at this
  omega
theorem digSt_start (V b P t S : Nat) (u : Bool) (h1 : V / b ≤ t) (h2 : S + b * t = V + P * u.toNat) (h3 : S < P) : DigSt V b P t S u := ⟨h1, by rw [Nat.mul_comm t b]; exact h2, h3⟩
theorem digSt_next {V b P t S : Nat} (h : DigSt V b P t S true) (hb : 0 < b) (hbP : b < P) : 0 < t ∧ DigSt V b P (t - 1) ((S + b * 1) % P) (!decide (P ≤ S + b * 1)) := by
  obtain ⟨h1, h2, h3⟩ := h
  rw [Bool.toNat_true, Nat.mul_one] at h2
  have ht : V < t * b := by omega
  have h4 : V / b < t := (Nat.div_lt_iff_lt_mul hb).2 ht
  have t0 : 0 < t := Nat.pos_of_ne_zero (fun e => by rw [e, Nat.zero_mul] at ht; omega)
  have h6 : V / b ≤ t - 1 := Nat.le_sub_one_of_lt h4
  clear h1 h4
  have h5 : (t - 1) * b + b = t * b := by
    have : t - 1 + 1 = t := by omega
    rw [← Nat.succ_mul, Nat.succ_eq_add_one, this]
  refine ⟨t0, h6, ?_, Nat.mod_lt _ (by omega)⟩
  rw [Nat.mul_one]
  by_cases e : P ≤ S + b
  · rw [decide_eq_true e, Nat.mod_eq_sub_mod e, Nat.mod_eq_of_lt (by omega)]
    simp only [Bool.not_true, Bool.toNat_false]
    omega
  · rw [decide_eq_false e, Nat.mod_eq_of_lt (by omega)]
    simp only [Bool.not_false, Bool.toNat_true]
    omega

/-- What long division keeps: what is left below b times a power, and the digits so far. -/
def LdSt (A b i X q : Nat) : Prop := X < b * 2 ^ (64 * i) ∧ X + b * q = A ∧ q % 2 ^ (64 * i) = 0
theorem ldSt_next {A b i X q M V : Nat} (h : LdSt A b (i + 1) X q) (hb : b < 2 ^ (64 * M)) (hb0 : 0 < b) (hV : vw X i (M + 1) = V) :
    V < 18446744073709551616 * b ∧ V / b < 18446744073709551616 ∧ LdSt A b i (putw X i (M + 1) (V % b)) (q + 2 ^ (64 * i) * (V / b)) := by
  obtain ⟨h1, h2, h3⟩ := h
  have hX : X < 2 ^ (64 * (i + (M + 1))) := by
    have e : b * 2 ^ (64 * (i + 1)) ≤ 2 ^ (64 * M) * 2 ^ (64 * (i + 1)) := Nat.mul_le_mul_right _ (Nat.le_of_lt hb)
    rw [← Nat.pow_add, show 64 * M + 64 * (i + 1) = 64 * (i + (M + 1)) by omega] at e
    omega
  have eV : V = X / 2 ^ (64 * i) := by rw [← hV]; exact vw_top X i (M + 1) hX
  have hVb : V < 18446744073709551616 * b := by
    rw [eV]
    apply Nat.div_lt_of_lt_mul
    rw [pow64] at h1
    rw [← Nat.mul_assoc, Nat.mul_comm _ b]
    exact h1
  have hq : V / b < 18446744073709551616 := Nat.div_lt_of_lt_mul (by rw [Nat.mul_comm]; exact hVb)
  refine ⟨hVb, hq, ?_⟩
  rw [putw_top X i (M + 1) _ hX]
  have d1 := Nat.div_add_mod X (2 ^ (64 * i))
  have d2 := Nat.div_add_mod V b
  have d3 := Nat.mod_lt X (Nat.two_pow_pos (64 * i))
  have d4 := Nat.mod_lt V hb0
  rw [← eV] at d1
  have d5 : 2 ^ (64 * i) * V = 2 ^ (64 * i) * (b * (V / b)) + 2 ^ (64 * i) * (V % b) := by rw [← Nat.mul_add, d2]
  have d6 : 2 ^ (64 * i) * (b * (V / b)) = b * (2 ^ (64 * i) * (V / b)) := by rw [Nat.mul_left_comm]
  have d7 : 2 ^ (64 * i) * (V % b + 1) ≤ 2 ^ (64 * i) * b := Nat.mul_le_mul_left _ d4
  rw [Nat.mul_add, Nat.mul_one] at d7
  refine ⟨by rw [Nat.mul_comm b]; omega, by rw [Nat.mul_add]; omega, ?_⟩
  rw [Nat.add_mul_mod_self_left]
  rw [pow64] at h3
  have h4 := Nat.mod_mod_of_dvd q (Nat.dvd_mul_right (2 ^ (64 * i)) 18446744073709551616)
  rw [h3, Nat.zero_mod] at h4
  exact h4.symm
theorem ldSt_end {A b X q : Nat} (h : LdSt A b 0 X q) (hb : 0 < b) : q = A / b ∧ X = A % b := by
  obtain ⟨h1, h2, _⟩ := h
  rw [Nat.mul_zero, Nat.pow_zero, Nat.mul_one] at h1
  have e : q = A / b := by
    apply Nat.le_antisymm
    · rw [Nat.le_div_iff_mul_le hb, Nat.mul_comm]; omega
    · have : A / b < q + 1 := by
        rw [Nat.div_lt_iff_lt_mul hb, Nat.add_mul, Nat.mul_comm q b]
        omega
      omega
  refine ⟨e, ?_⟩
  have := Nat.div_add_mod A b
  rw [← e] at this
  omega
/-- The start: as many digits as the lengths leave. -/
theorem ldSt_start (a b n L M K : Nat) (ha : a < 2 ^ (64 * L)) (hb : 2 ^ (64 * M - 1) ≤ b * 2 ^ n) (hb2 : 2 ^ (64 * (M - 1)) ≤ b) (hM : 0 < M) (hn : n < 64) (hK : K = L + 1 - M) : LdSt (a * 2 ^ n) (b * 2 ^ n) K (a * 2 ^ n) 0 := by
  refine ⟨?_, by omega, Nat.zero_mod _⟩
  by_cases h : M ≤ L
  · have h1 : a * 2 ^ n < 2 ^ (64 * L) * 2 ^ n := Nat.mul_lt_mul_of_pos_right ha (Nat.two_pow_pos _)
    have h2 : 2 ^ (64 * M - 1) * 2 ^ (64 * K) ≤ b * 2 ^ n * 2 ^ (64 * K) := Nat.mul_le_mul_right _ hb
    rw [← Nat.pow_add] at h1 h2
    have h3 : 2 ^ (64 * L + n) ≤ 2 ^ (64 * M - 1 + 64 * K) := Nat.pow_le_pow_right (by decide) (by omega)
    omega
  · have hK0 : K = 0 := by omega
    rw [hK0, Nat.mul_zero, Nat.pow_zero, Nat.mul_one]
    apply Nat.mul_lt_mul_of_pos_right _ (Nat.two_pow_pos _)
    have h3 : 2 ^ (64 * L) ≤ 2 ^ (64 * (M - 1)) := pow64_le _ _ (by omega)
    omega
end Go.Proofs.YtbmhfcppaajgbaaGreatDoor.WMath
namespace Go.Proofs.YtbmhfcppaajgbaaGreatDoor
set_option maxRecDepth 100000
open Go.RowKit WMath

theorem div_is (hi lo d q r : Nat) (hh : hi < d) (hl : lo < 18446744073709551616) (hd : d < 18446744073709551616) (hq : (hi * 18446744073709551616 + lo) / d = q) (hr : (hi * 18446744073709551616 + lo) % d = r) (w : World) :
    Calls Tryz.prog 335 #[.int .u64 hi, .int .u64 lo, .int .u64 d] w fun e w' => e = .returned (.tuple #[.int .u64 (q : Nat), .int .u64 (r : Nat), .int .i64 0]) ∧ w' = w := by
  subst hq hr; exact div_any hi lo d hh hl hd w
theorem l_guess (hi lo d q : Nat) (hl : lo < 18446744073709551616) (hd : d < 18446744073709551616) (hq : gs hi lo d = q) (w : World) :
    Calls Tryz.prog 331 #[.int .u64 hi, .int .u64 lo, .int .u64 d] w fun e w' => e = .returned (.int .u64 (q : Nat)) ∧ w' = w := by
  unfold gs at hq
  by_cases h : hi < d
  · rw [if_pos h] at hq
    have H := box (div_is hi lo d q _ h hl hd hq rfl)
    clear hq h
    go_enter Tryz.func331, Tryz.ntmps331
    go_wp2_with fail
    refine (H.out _).mono ?_
    rintro e w' ⟨rfl, rfl⟩
    go_wp2
    go_ret
    exact ⟨rfl, rfl⟩
  · rw [if_neg h] at hq
    subst hq
    have H := box (div_no hi lo d (by omega))
    clear h
    go_enter Tryz.func331, Tryz.ntmps331
    go_wp2_with fail
    refine (H.out _).mono ?_
    rintro e w' ⟨rfl, rfl⟩
    go_wp2
    go_ret
    exact ⟨rfl, rfl⟩

set_option maxRecDepth 100000 in
set_option maxHeartbeats 1000000 in
theorem l_digit (w : World) (g o m c N X : Nat) (T : TypeId) (row : w.heap[g]? = some (.cells (cw N X) T)) (hN : o + (m + 2) ≤ N) (q : Option Addr) (d b B : Nat) (hb : SL B w q (m + 1) d b) (hB : B ≤ g) (hm : m ≤ 50000) (V : Nat) (hV : vw X o (m + 2) = V) (hVb : V < 18446744073709551616 * b) (hb0 : 0 < b) (t : Nat) (ht : V / b = t) :
    Calls Tryz.prog 323 #[.slice (some ⟨g, o, none⟩) (m + 2) c, .slice q (m + 1) d] w fun r w' => r = .returned (.int .u64 (t : Nat)) ∧ w'.heap[g]? = some (.cells (cw N (putw X o (m + 2) (V % b))) T) ∧ Only g w w' := by
  obtain ⟨qb, qo, rfl, _⟩ := hb.ptr (by omega)
  obtain ⟨hi, hhi⟩ : ∃ x, wd V (m + 1) = x := ⟨_, rfl⟩
  obtain ⟨lo, hlo⟩ : ∃ x, wd V m = x := ⟨_, rfl⟩
  obtain ⟨top, htop⟩ : ∃ x, wd b m = x := ⟨_, rfl⟩
  obtain ⟨G, hG⟩ : ∃ G, gs hi lo top = G := ⟨_, rfl⟩
  have lo64 : lo < 18446744073709551616 := by rw [← hlo]; exact wd_lt _ _
  have top64 : top < 18446744073709551616 := by rw [← htop]; exact wd_lt _ _
  have VL : V < 2 ^ (64 * (m + 2)) := by rw [← hV]; exact vw_lt _ _ _
  have hge := gs_ge V b m hi lo top VL hb.1 hVb hhi hlo htop
  have G64 : G < 18446744073709551616 := by rw [← hG]; exact gs_lt hi lo top lo64
  rw [hG] at hge
  have c1 : w.cell? ⟨g, o + (m + 1), none⟩ = some (.int .u64 (hi : Nat)) := by
    rw [cell_of_row w g _ _ _ _ row, cw_at _ _ _ (by omega), ← hhi, ← hV, wd_vw _ _ _ _ (by omega)]
  have c2 : w.cell? ⟨g, o + m, none⟩ = some (.int .u64 (lo : Nat)) := by
    rw [cell_of_row w g _ _ _ _ row, cw_at _ _ _ (by omega), ← hlo, ← hV, wd_vw _ _ _ _ (by omega)]
  have c3 := hb.cell m top (by omega) htop
  have n1 : IntKind.i64.wrap ((m : Int) + 1) = (m : Int) + 1 := wrap_i64_is _ (by omega) (by omega)
  have n2 : IntKind.i64.wrap ((m : Int) + 1 - 1) = (m : Int) := by rw [wrap_i64_is _ (by omega) (by omega)]; omega
  have n3 : IntKind.i64.wrap (m : Int) = (m : Int) := wrap_i64_is _ (by omega) (by omega)
  have GS := box (l_guess hi lo top G lo64 top64 hG)
  have HV := box hV
  have HVB := box hVb
  have HT := box ht
  have HGE := box hge
  have HVL := box VL
  clear hhi hlo htop hG hV hVb ht hge VL
  go_enter Tryz.func323, Tryz.ntmps323
  go_wp2
  go_quiet ((go_at_call 331; exact (GS.out _).mono (fun _ _ h => ⟨h.1, _, h.2⟩)))
  go_wp2_with fail
  obtain ⟨P, hP⟩ : ∃ P, 2 ^ (64 * (m + 2)) = P := ⟨_, rfl⟩
  have bP : b < P := by rw [← hP]; exact Nat.lt_of_lt_of_le hb.1 (pow64_le _ _ (by omega))
  have bGP : b * G < P := by
    rw [← hP, show m + 2 = m + 1 + 1 by omega, pow64]
    exact Nat.mul_lt_mul_of_lt_of_le hb.1 (Nat.le_of_lt G64) (by decide)
  obtain ⟨u0, hu0⟩ : ∃ u, decide (V < b * G) = u := ⟨_, rfl⟩
  have hVP : V < P := by rw [← hP]; exact HVL.out
  obtain ⟨S0, hS0, hS0P⟩ : ∃ S, S + b * G = V + P * u0.toNat ∧ S < P := by
    by_cases e : V < b * G
    · rw [decide_eq_true e] at hu0
      subst hu0
      exact ⟨V + P - b * G, by rw [Bool.toNat_true]; omega, by omega⟩
    · rw [decide_eq_false e] at hu0
      subst hu0
      exact ⟨V - b * G, by rw [Bool.toNat_false]; omega, by omega⟩
  have sb : SL B (w.drewN nq) (some ⟨qb, qo, none⟩) (m + 1) d b := hb.below (below_drewN (Below.refl w.heap.size w) nq) (by have := (Array.getElem?_eq_some_iff.1 row).1; omega)
  have o0 : Only g w (w.drewN nq) := Only.ofBelow (below_drewN (Below.refl w.heap.size w) nq) (Nat.le_refl _)
  refine (l_takeFrom (w.drewN nq) g o (m + 2) c N X T row hN _ (m + 1) d b B sb hB G G64 (by omega) (by omega) (by rw [hP]; exact bGP) V S0 u0 HV.out hu0 (by rw [hP]; exact hS0)).mono ?_
  rintro e w1 ⟨rfl, r1, o1⟩
  have D0 : Box (DigSt V b P G S0 u0) := box (digSt_start V b P G S0 u0 HGE.out hS0 hS0P)
  have O1 := o0.trans o1
  clear hu0 hS0 c1 c2 c3 o0 o1 sb bGP hS0P n1 n2 n3
  go_wp2
  go_loopw [6, 7] (fun tv uv wr => ∃ (t S : Nat) (u : Bool), t < 18446744073709551616 ∧ tv = .int .u64 t ∧ uv = .bool u ∧ wr.heap[g]? = some (.cells (cw N (putw X o (m + 2) S)) T) ∧ Only g w wr ∧ Box (DigSt V b P t S u)) (fun tv _ _ => (intOf tv).toNat)
  case atStart => exact ⟨G, S0, u0, G64, rfl, rfl, r1, O1, D0⟩
  case round =>
    clear r1 O1 D0
    obtain ⟨y, S, u, y64, rfl, rfl, r2, o2, HD⟩ := hrel
    cases u
    · obtain ⟨e1, e2⟩ := digSt_end HD.out hb0
      rw [HT.out] at e1
      subst e1
      rw [e2] at r2
      clear e2 HD
      go_wp2
      go_ret
      exact ⟨rfl, r2, o2⟩
    · obtain ⟨h0, hn⟩ := digSt_next HD.out hb0 bP
      have SP : S < 2 ^ (64 * (m + 2)) := by rw [hP]; exact HD.out.2.2
      obtain ⟨z, rfl⟩ : ∃ z, y = z + 1 := ⟨y - 1, by omega⟩
      rw [Nat.add_sub_cancel] at hn
      have s2 := hb.only o2 hB
      have A1 : Box (b * 1 < 2 ^ (64 * (m + 2))) := box (by rw [hP]; omega)
      have A2 := box (vw_putw X o (m + 2) S SP)
      obtain ⟨S2, hS2⟩ : ∃ S2, (S + b * 1) % P = S2 := ⟨_, rfl⟩
      obtain ⟨ov, hov⟩ : ∃ ov, decide (P ≤ S + b * 1) = ov := ⟨_, rfl⟩
      rw [hS2, hov] at hn
      have A3 : Box ((S + b * 1) % 2 ^ (64 * (m + 2)) = S2) := box (by rw [hP]; exact hS2)
      have A4 : Box (decide (2 ^ (64 * (m + 2)) ≤ S + b * 1) = ov) := box (by rw [hP]; exact hov)
      have A5 := box (putw_putw X o (m + 2) S S2 SP)
      have HN := box hn
      have nz : IntKind.u64.wrap (z : Int) = (z : Int) := by rw [IntKind.wrap_u64]; omega
      have nz2 : ((z + 1 : Nat) : Int) - 1 = (z : Int) := by omega
      clear hS2 hov hn HD SP h0
      go_wp2_with fail
      refine (l_addTo wr g o (m + 2) c N (putw X o (m + 2) S) T r2 hN _ (m + 1) d b B s2 hB 1 (by decide) (by omega) (by omega) A1.out S S2 ov A2.out A3.out A4.out).mono ?_
      rintro e w3 ⟨rfl, r3, o3⟩
      rw [A5.out] at r3
      have o4 := o2.trans o3
      go_wp2
      go_roundw
      case rel => exact ⟨z, S2, !ov, by omega, by first | rfl | go_num, rfl, r3, o4, HN⟩
      case measure => simp [intOf]
end Go.Proofs.YtbmhfcppaajgbaaGreatDoor
namespace Go.Proofs.YtbmhfcppaajgbaaGreatDoor
set_option maxRecDepth 100000
open Go.RowKit WMath

theorem blen_sh (b n : Nat) (hb : b ≠ 0) : blen (b * 2 ^ n) = blen b + n := by
  have h1 := blen_le b hb
  have h2 := blen_lt b
  have h3 := blen_pos b hb
  have e : blen b + n = blen b - 1 + n + 1 := by omega
  rw [e]
  apply blen_of
  · rw [Nat.pow_add]; exact Nat.mul_le_mul_right _ h1
  · rw [show blen b - 1 + n + 1 = blen b + n by omega, Nat.pow_add]
    exact Nat.mul_lt_mul_of_pos_right h2 (Nat.two_pow_pos _)
theorem dv_norm (b M n : Nat) (hb : b ≠ 0) (hM : wl b = M) (hn : n = 64 * M - blen b) : 0 < M ∧ n < 64 ∧ blen b + n = 64 * M ∧ wl (b * 2 ^ n) = M ∧ 2 ^ (64 * M - 1) ≤ b * 2 ^ n ∧ b * 2 ^ n < 2 ^ (64 * M) := by
  have h0 := wl_pos b hb
  rw [hM] at h0
  have h1 := blen_pos b hb
  have e : blen b + n = 64 * M ∧ n < 64 := by rw [← hM] at hn ⊢; unfold wl at *; omega
  have hs := blen_sh b n hb
  rw [e.1] at hs
  have hne : b * 2 ^ n ≠ 0 := Nat.mul_ne_zero hb (Nat.ne_of_gt (Nat.two_pow_pos _))
  refine ⟨h0, e.2, e.1, by unfold wl; rw [hs]; omega, ?_, ?_⟩
  · have := blen_le _ hne
    rw [hs] at this
    exact this
  · have := blen_lt (b * 2 ^ n)
    rw [hs] at this
    exact this
theorem q_set (q i t : Nat) (h : q % 2 ^ (64 * (i + 1)) = 0) : setw q i t = q + 2 ^ (64 * i) * t := by
  have h1 := mod_wd q i
  rw [h] at h1
  have h2 : 2 ^ (64 * i) * wd q i = 0 := by omega
  have := setw_add q i t
  omega

set_option maxRecDepth 100000 in
set_option maxHeartbeats 2000000 in
theorem l_divide (w : World) (p q : Option Addr) (L c a M d b B K1 K2 : Nat) (ha : SL B w p L c a) (hb : SL B w q M d b) (hB : B ≤ w.heap.size) (hL : L ≤ 40000) (hM : M ≤ 40000) (lb : wl b = M) (hb0 : b ≠ 0) (hK1 : wl (a / b) = K1) (hK2 : wl (a % b) = K2) :
    Calls Tryz.prog 307 #[.slice p L c, .slice q M d] w fun r w' => ∃ u e v f, r = .returned (.tuple #[.slice u K1 e, .slice v K2 f]) ∧ SL w'.heap.size w' u K1 e (a / b) ∧ SL w'.heap.size w' v K2 f (a % b) ∧ Below w.heap.size w w' := by
  obtain ⟨l, hl⟩ : ∃ l, blen b = l := ⟨_, rfl⟩
  obtain ⟨n, hn⟩ : ∃ n, 64 * M - l = n := ⟨_, rfl⟩
  obtain ⟨hM0, n64, hln, hby, hlow, hhigh⟩ := dv_norm b M n hb0 lb (by rw [hl, hn])
  rw [hl] at hln
  have hb2 : 2 ^ (64 * (M - 1)) ≤ b := by rw [← lb]; exact wl_le b hb0
  obtain ⟨N, hN⟩ : ∃ N, L + 1 - M = N := ⟨_, rfl⟩
  have LD := box (ldSt_start a b n L M N ha.1 hlow hb2 hM0 n64 hN.symm)
  have hraise := raise_lt a L n 0 ha.1 (by omega)
  obtain ⟨m, rfl⟩ : ∃ m, M = m + 1 := ⟨M - 1, by omega⟩
  have n1 : IntKind.i64.wrap (((m : Int) + 1) * 64) = ((m : Int) + 1) * 64 := wrap_i64_is _ (by omega) (by omega)
  have n2 : IntKind.i64.wrap (((m : Int) + 1) * 64 - (l : Int)) = (n : Int) := by rw [wrap_i64_is _ (by omega) (by omega)]; omega
  have hl2 : l ≤ 3000000 := by omega
  have n2' : ((m : Int) + 1) * 64 - (l : Int) = (n : Int) := by omega
  have n2'' : IntKind.i64.wrap (n : Int) = (n : Int) := wrap_i64_is _ (by omega) (by omega)
  have n3 : IntKind.i64.wrap ((L : Int) - ((m : Int) + 1)) = (L : Int) - ((m : Int) + 1) := wrap_i64_is _ (by omega) (by omega)
  have n4 : IntKind.i64.wrap ((L : Int) - ((m : Int) + 1) + 1) = (L : Int) - ((m : Int) + 1) + 1 := wrap_i64_is _ (by omega) (by omega)
  have HLB := box lb
  have HL := box hl
  have HBY := box hby
  have HRA := box hraise
  have HHI := box hhigh
  have HB0 := box hb0
  have HN := box hN
  have HK1 := box hK1
  have HK2 := box hK2
  have Hn := box hn
  have Hln := box hln
  clear lb hl hby hraise hhigh hb0 hlow hb2 hK1 hK2 hn hN hln
  go_enter Tryz.func307, Tryz.ntmps307
  go_wp2_with fail
  refine (l_bitLen w q (m + 1) d b l B hb (by omega) HLB.out HL.out).mono ?_
  rintro e w1 ⟨rfl, rfl⟩
  go_wp2_with fail
  refine (l_up w1 q (m + 1) d b n (m + 1) B hb hB (by omega) (by omega) HBY.out).mono ?_
  rintro e w2 ⟨y, yd, rfl, s2, b2⟩
  go_wp2_with fail
  refine (l_raise w2 p L c a n 0 B (ha.below b2 hB) (by have := b2.size; omega) (by omega) (by omega) (by omega)).mono ?_
  rintro e w3 ⟨g, rfl, hg, r3, b3⟩
  have hcase : ((L : Int) - ((m : Int) + 1) + 1 = (N : Int) ∧ ((N : Int) < 0) = False) ∨ (((L : Int) - ((m : Int) + 1) + 1 < 0) = True ∧ (0 : Int) = (N : Int)) := by
    have := HN.out
    by_cases hqL : m ≤ L
    · left; exact ⟨by omega, eq_false (by omega)⟩
    · right; exact ⟨eq_true (by omega), by omega⟩
  have N2 : N ≤ 40001 := by have := HN.out; omega
  obtain ⟨h, hh⟩ : ∃ h, w3.heap.size = h := ⟨_, rfl⟩
  have gh : g < h := by rw [← hh]; exact (Array.getElem?_eq_some_iff.1 r3).1
  have q4 : (w3.alloc (.cells (cw N 0) 23)).heap[h]? = some (.cells (cw N 0) 23) := by rw [← hh]; exact heap_alloc_last _ _
  have b4 : Below h w3 (w3.alloc (.cells (cw N 0) 23)) := by rw [← hh]; exact (Below.refl _ _).alloc (Nat.le_refl _) _
  have r4 : (w3.alloc (.cells (cw N 0) 23)).heap[g]? = some (.cells (cw (L + 1) (a * 2 ^ n)) 23) := by rw [b4.block g gh]; exact r3
  have s3 : SL w2.heap.size w3 y (m + 1) yd (b * 2 ^ n) := s2.below b3 (Nat.le_refl _)
  have h2 : w2.heap.size ≤ h := by rw [← hh]; exact b3.size
  have s4 : SL w2.heap.size (w3.alloc (.cells (cw N 0) 23)) y (m + 1) yd (b * 2 ^ n) := s3.below b4 h2
  have c4 : Below w1.heap.size w1 (w3.alloc (.cells (cw N 0) 23)) := btr (btr b2 b3) (bal _ _)
  have z4 : (w3.alloc (.cells (cw N 0) 23)).heap.size = h + 1 := by rw [size_al, hh]
  have h1 : w1.heap.size ≤ w2.heap.size := b2.size
  have Q4 := box q4
  have R4 := box r4
  have S4 := box s4
  have C4 := box c4
  have Z4 := box z4
  clear q4 b4 r4 s3 s4 c4 z4 s2 b2 b3 r3
  rcases hcase with ⟨e1, e2⟩ | ⟨e1, e2⟩
  all_goals
    first
      | (have hmk := cw_make N (N : Int) rfl (by omega)
         have n6 : IntKind.i64.wrap (N : Int) = (N : Int) := wrap_i64_is _ (by omega) (by omega)
         have e3 : ((N : Int) < 0) = False := e2)
      | (have hmk := cw_make N (0 : Int) e2 (by omega)
         clear e2)
    have n7 : IntKind.i64.wrap ((N : Int) - 1) = (N : Int) - 1 := wrap_i64_is _ (by omega) (by omega)
    go_wp2
    clear hmk
    go_loopw [9] (fun iv wr => ∃ (i X q : Nat), i ≤ N ∧ iv = .int .i64 ((i : Int) - 1) ∧ wr.heap[g]? = some (.cells (cw (L + 1) X) 23) ∧ wr.heap[h]? = some (.cells (cw N q) 23) ∧ SL w2.heap.size wr y (m + 1) yd (b * 2 ^ n) ∧ Below w1.heap.size w1 wr ∧ Box (LdSt (a * 2 ^ n) (b * 2 ^ n) i X q ∧ X < 2 ^ (64 * (L + 1)) ∧ q < 2 ^ (64 * N))) (fun iv _ => (intOf iv + 1).toNat)
    case atStart => exact ⟨N, a * 2 ^ n, 0, Nat.le_refl _, rfl, R4.out, Q4.out, S4.out, C4.out, box ⟨LD.out, HRA.out, Nat.two_pow_pos _⟩⟩
    case round =>
      obtain ⟨i, X, q', hi, rfl, r5, q5, s5, c5, HE⟩ := hrel
      by_cases h0 : i = 0
      · subst h0
        obtain ⟨E1, E2, E3⟩ := HE.out
        have bb0 : 0 < b * 2 ^ n := Nat.mul_pos (Nat.pos_of_ne_zero HB0.out) (Nat.two_pow_pos _)
        obtain ⟨f1, f2⟩ := ldSt_end E1 bb0
        rw [Nat.mul_div_mul_right _ _ (Nat.two_pow_pos _)] at f1
        rw [Nat.mul_mod_mul_right] at f2
        subst f1
        have sq : SL wr.heap.size wr (some ⟨h, 0, none⟩) N N (a / b) := SL.row q5 _ (Array.getElem?_eq_some_iff.1 q5).1 E3 (Nat.le_refl _)
        have sx : SL wr.heap.size wr (some ⟨g, 0, none⟩) (L + 1) (L + 1) X := SL.row r5 _ (Array.getElem?_eq_some_iff.1 r5).1 E2 (Nat.le_refl _)
        have ex : X / 2 ^ n = a % b := by rw [f2, Nat.mul_div_cancel _ (Nat.two_pow_pos _)]
        have EX := box ex
        clear E1 E2 E3 f2 ex bb0
        go_wp2_with fail
        refine (l_trim wr _ N N (a / b) K1 _ sq (by omega) HK1.out).mono ?_
        rintro e w7 ⟨u, d7, rfl, s7, rfl⟩
        go_wp2_with fail
        refine (l_down w7 _ (L + 1) (L + 1) X n K2 _ sx (Nat.le_refl _) (by omega) (by omega) (by rw [EX.out]; exact HK2.out)).mono ?_
        rintro e w8 ⟨v, d8, rfl, s8, b8⟩
        rw [EX.out] at s8
        go_wp2
        go_ret2
        exact ⟨u, d7, v, d8, rfl, (s7.below b8 (Nat.le_refl _)).mono b8.size, s8, btr c5 b8⟩
      · obtain ⟨j, rfl⟩ : ∃ j, i = j + 1 := ⟨i - 1, by omega⟩
        obtain ⟨E1, E2, E3⟩ := HE.out
        obtain ⟨V, hV⟩ : ∃ V, vw X j (m + 2) = V := ⟨_, rfl⟩
        have bb0 : 0 < b * 2 ^ n := Nat.mul_pos (Nat.pos_of_ne_zero HB0.out) (Nat.two_pow_pos _)
        obtain ⟨v1, v2, v3⟩ := ldSt_next E1 HHI.out bb0 hV
        obtain ⟨t, ht⟩ : ∃ t, V / (b * 2 ^ n) = t := ⟨_, rfl⟩
        rw [ht] at v2 v3
        have hjN : j < N := by omega
        have hfit : j + (m + 2) ≤ L + 1 := by have := HN.out; omega
        have x3 : putw X j (m + 2) (V % (b * 2 ^ n)) < 2 ^ (64 * (L + 1)) := putw_lt X j (m + 2) _ (L + 1) E2 (Nat.lt_of_lt_of_le (Nat.mod_lt _ bb0) (Nat.le_of_lt (Nat.lt_of_lt_of_le HHI.out (pow64_le _ _ (by omega))))) hfit
        have es := q_set q' j t E1.2.2
        have q3 : setw q' j t < 2 ^ (64 * N) := setw_lt q' j t N E3 hjN v2
        rw [es] at q3
        have NE : Box (LdSt (a * 2 ^ n) (b * 2 ^ n) j (putw X j (m + 2) (V % (b * 2 ^ n))) (q' + 2 ^ (64 * j) * t) ∧ putw X j (m + 2) (V % (b * 2 ^ n)) < 2 ^ (64 * (L + 1)) ∧ q' + 2 ^ (64 * j) * t < 2 ^ (64 * N)) := box ⟨v3, x3, q3⟩
        have ES := box es
        have BB := box bb0
        have HV := box hV
        have V1 := box v1
        have HT := box ht
        have T64 := box v2
        have ej : (((j + 1 : Nat) : Int) - 1) = (j : Int) := by omega
        rw [ej]
        have hji : (j : Int) < (N : Int) := by omega
        have n8 : IntKind.i64.wrap ((j : Int) - 1) = (j : Int) - 1 := wrap_i64_is _ (by omega) (by omega)
        have k1 : IntKind.i64.wrap ((j : Int) + ((m : Int) + 1)) = (j : Int) + ((m : Int) + 1) := wrap_i64_is _ (by omega) (by omega)
        have k2 : IntKind.i64.wrap ((j : Int) + ((m : Int) + 1) + 1) = (j : Int) + ((m : Int) + 1) + 1 := wrap_i64_is _ (by omega) (by omega)
        clear E1 E2 E3 hV v1 v2 v3 ht x3 es q3 bb0 ej
        go_wp2_with fail
        rw [show j + (m + 1) + 1 - j = m + 2 by omega]
        refine (l_digit wr g j m (L + 1 - j) (L + 1) X 23 r5 hfit y yd (b * 2 ^ n) w2.heap.size s5 hg (by omega) V HV.out V1.out BB.out t HT.out).mono ?_
        rintro e w6 ⟨rfl, r6, o6⟩
        have q6 := o6.row (show h ≠ g by omega) q5
        have s6 := s5.only o6 hg
        have c6 : Below w1.heap.size w1 w6 := o6.toBelow c5 (by omega) c5.size
        have c7 : w6.cell? ⟨h, j, none⟩ = some (.int .u64 (wd q' j : Nat)) := by rw [cell_of_row w6 h j _ _ _ q6, cw_at N q' j hjN]
        have f7 := fz (k := j) q6
        have RS : Box ((w6.setCell ⟨h, j, none⟩ (.int .u64 (t : Int))).heap[h]? = some (.cells (cw N (q' + 2 ^ (64 * j) * t)) 23)) := box (by rw [setCell_row q6, cw_set N q' j t hjN T64.out, ES.out])
        have RG : Box ((w6.setCell ⟨h, j, none⟩ (.int .u64 (t : Int))).heap[g]? = some (.cells (cw (L + 1) (putw X j (m + 2) (V % (b * 2 ^ n)))) 23)) := box (by rw [setCell_other (show h ≠ g by omega)]; exact r6)
        have SS : Box (SL w2.heap.size (w6.setCell ⟨h, j, none⟩ (.int .u64 (t : Int))) y (m + 1) yd (b * 2 ^ n)) := box (s6.only ((Only.refl h w6).setCell _) h2)
        have CS : Box (Below w1.heap.size w1 (w6.setCell ⟨h, j, none⟩ (.int .u64 (t : Int)))) := box (c6.setCell (by show w1.heap.size ≤ h; omega) _)
        clear r5 q5 s5 c5 r6 o6 q6 s6 c6
        go_wp2
        go_roundw
        case rel => exact ⟨j, _, _, by omega, by first | rfl | go_num, RG.out, RS.out, SS.out, CS.out, NE⟩
        case measure => simp [intOf]
end Go.Proofs.YtbmhfcppaajgbaaGreatDoor
namespace Go.Proofs.YtbmhfcppaajgbaaGreatDoor
set_option maxRecDepth 100000
open Go.RowKit WMath

/-- The number that a slice holds, as a function of the world. -/
theorem num_fun : ∃ F : World → Value → Nat, ∀ (B : Nat) (w : World) (p : Option Addr) (L c n : Nat), SL B w p L c n → F w (.slice p L c) = n := by
  classical
  refine ⟨fun w v => if h : ∃ n B p L c, v = .slice p L c ∧ SL B w p L c n then Classical.choose h else 0, fun B w p L c n hn => ?_⟩
  have hex : ∃ n B p' L' c', Value.slice p L c = .slice p' L' c' ∧ SL B w p' L' c' n := ⟨n, B, p, L, c, rfl, hn⟩
  simp only [hex, dif_pos]
  obtain ⟨B', p', L', c', e, h'⟩ := Classical.choose_spec hex
  injection e with e1 e2 e3
  subst e1 e2 e3
  refine wd_ext h'.1 hn.1 (fun k hk => ?_)
  obtain ⟨b, o, rfl, _⟩ := hn.ptr (by omega)
  have h1 := h'.cell k _ hk rfl
  have h2 := hn.cell k _ hk rfl
  rw [h1] at h2
  simp only [Option.some.injEq, Value.int.injEq, true_and] at h2
  omega

end Go.Proofs.YtbmhfcppaajgbaaGreatDoor
namespace Go.Proofs.YtbmhfcppaajgbaaGreatDoor
set_option maxRecDepth 100000
open Go.RowKit WMath

set_option maxRecDepth 100000 in
theorem pn_div_ok (a b : Nat) (s t qv rv : ByteArray) (hs : nbA a = s) (ht : nbA b = t) (ha : nl a ≤ 16384) (hb : nl b ≤ 16384) (hb0 : b ≠ 0) (hq : nbA (a / b) = qv) (hr : nbA (a % b) = rv) (w : World) :
    Calls Tryz.prog 278 #[.string s, .string t] w fun r w' => r = .returned (.tuple #[.string qv, .string rv, .int .i64 0]) ∧ Below w.heap.size w w' := by
  have HO := box (ok2 hs ht ha hb)
  have HS := box hs
  have HT := box ht
  have HA := box ha
  have HB := box hb
  have HB0 := box hb0
  have HQ := box hq
  have HR := box hr
  have d2 := eq_empty t
  rw [decide_eq_false (by rw [← ht, nbA_size]; have := nl_pos b hb0; omega)] at d2
  obtain ⟨K, hK⟩ : ∃ K, wl a = K := ⟨_, rfl⟩
  obtain ⟨M, hM⟩ : ∃ M, wl b = M := ⟨_, rfl⟩
  obtain ⟨K1, hK1⟩ : ∃ N, wl (a / b) = N := ⟨_, rfl⟩
  obtain ⟨K2, hK2⟩ : ∃ N, wl (a % b) = N := ⟨_, rfl⟩
  have hK2' : K ≤ 2048 := by rw [← hK]; exact wl_of_nl a ha
  have hM2 : M ≤ 2048 := by rw [← hM]; exact wl_of_nl b hb
  have k1 : K1 ≤ 2048 := by rw [← hK1]; exact Nat.le_trans (wl_mono _ a (Nat.div_le_self _ _)) (by omega)
  have k2 : K2 ≤ 2048 := by rw [← hK2]; exact Nat.le_trans (wl_mono _ a (Nat.mod_le _ _)) (by omega)
  have HK := box hK
  have HM := box hM
  have HK1 := box hK1
  have HK2 := box hK2
  have b0 := bal w (.cells #[.string s, .string t] 39)
  clear hs ht ha hb hb0 hq hr hK hM hK1 hK2
  go_enter Tryz.func278, Tryz.ntmps278
  go_wp2_with fail
  refine (n_may2 s t true HO.out _ w).mono ?_
  rintro r w0 ⟨rfl, rfl⟩
  go_wp2_with fail
  refine (l_wordsOf a K s HS.out (by have := HA.out; omega) HK.out _).mono ?_
  rintro r w1 ⟨p, c, rfl, s1, b1⟩
  go_wp2_with fail
  refine (l_wordsOf b M t HT.out (by have := HB.out; omega) HM.out _).mono ?_
  rintro r w2 ⟨q, d, rfl, s2, b2⟩
  go_wp2_with fail
  refine (l_divide w2 p q K c a M d b w2.heap.size K1 K2 ((s1.below b2 (Nat.le_refl _)).mono b2.size) s2 (Nat.le_refl _) (by omega) (by omega) HM.out HB0.out HK1.out HK2.out).mono ?_
  rintro r w3 ⟨u, e, v, f, rfl, s3, t3, b3⟩
  go_wp2_with fail
  refine (l_natOf w3 u K1 e (a / b) _ qv s3 (Nat.le_refl _) (by omega) HQ.out).mono ?_
  rintro r w4 ⟨rfl, b4⟩
  go_wp2_with fail
  refine (l_natOf w4 v K2 f (a % b) _ rv (t3.below b4 (Nat.le_refl _)) b4.size (by omega) HR.out).mono ?_
  rintro r w5 ⟨rfl, b5⟩
  go_wp2
  go_ret3
  exact ⟨rfl, btr b0 (btr b1 (btr b2 (btr b3 (btr b4 b5))))⟩
end Go.Proofs.YtbmhfcppaajgbaaGreatDoor
namespace Go.Proofs.YtbmhfcppaajgbaaGreatDoor.WMath
set_option maxRecDepth 100000

/-- What the lower bits move is at most the greater count, times less than their power. -/
theorem near_num (K a b x y a0 b0 A B r N s : Int) (hs : s = 1 ∨ s = -1) (ha : a = K * x + a0) (hb : b = K * y + b0) (a1 : 0 ≤ a0) (a2 : a0 ≤ K - 1) (b1 : 0 ≤ b0) (b2 : b0 ≤ K - 1) (hA : 0 ≤ A) (hAB : A ≤ B)
    (hr : r = s * (x * A - y * B)) (hN : N = s * (a * A - b * B)) : K * r ≤ N + (K - 1) * B ∧ N ≤ K * r + (K - 1) * B := by
  have p1 : 0 ≤ a0 * A := Int.mul_nonneg a1 hA
  have p2 : a0 * A ≤ (K - 1) * B := Int.mul_le_mul a2 hAB hA (by omega)
  have p3 : 0 ≤ b0 * B := Int.mul_nonneg b1 (by omega)
  have p4 : b0 * B ≤ (K - 1) * B := Int.mul_le_mul_of_nonneg_right b2 (by omega)
  have e1 : a * A = K * (x * A) + a0 * A := by rw [ha, Int.add_mul, Int.mul_assoc]
  have e2 : b * B = K * (y * B) + b0 * B := by rw [hb, Int.add_mul, Int.mul_assoc]
  have e3 : K * (x * A - y * B) = K * (x * A) - K * (y * B) := Int.mul_sub _ _ _
  generalize (K - 1) * B = Z at *
  generalize a0 * A = u at *
  generalize b0 * B = v at *
  rcases hs with rfl | rfl
  · rw [Int.one_mul] at hr hN
    rw [hr, hN, e1, e2, e3]
    omega
  · rw [Int.neg_mul, Int.one_mul] at hr hN
    rw [hr, hN, e1, e2, Int.mul_neg, e3]
    omega

/-- What the turns keep: the last two rests of the highest bits and of the whole numbers, and how often both numbers are in them. -/
def TurnSt (a b x y r1 A1 B1 r2 A2 B2 F S : Nat) (s : Int) : Prop :=
  (s = 1 ∨ s = -1) ∧ ((F : Int) = s * ((a : Int) * A1 - b * B1)) ∧ ((S : Int) = s * ((b : Int) * B2 - a * A2)) ∧ ((r1 : Int) = s * ((x : Int) * A1 - y * B1)) ∧ ((r2 : Int) = s * ((y : Int) * B2 - x * A2)) ∧
  r1 * B2 + r2 * B1 = x ∧ r1 * A2 + r2 * A1 = y ∧ A2 ≤ B2 ∧ 1 ≤ B2 ∧ A1 + A2 ≤ B1 + B2 ∧ 1 ≤ A1 + A2 ∧ r2 ≤ r1 ∧ Nat.gcd F S = Nat.gcd a b ∧ S ≤ F ∧ (A2 = 0 ∨ (0 < S ∧ S < F ∧ F ≤ b)) ∧ (A2 = 0 → F = a ∧ S = b)
theorem turnSt_start (a b x y : Nat) (hab : b ≤ a) (hxy : y ≤ x) : TurnSt a b x y x 1 0 y 0 1 a b 1 :=
  ⟨Or.inl rfl, by simp, by simp, by simp, by simp, by simp, by simp, by decide, by decide, by decide, by decide, hxy, rfl, hab, Or.inl rfl, fun _ => ⟨rfl, rfl⟩⟩
theorem turnSt_count {a b x y r1 A1 B1 r2 A2 B2 F S t n : Nat} {s : Int} (h : TurnSt a b x y r1 A1 B1 r2 A2 B2 F S s) (h2 : r2 ≠ 0) (ht : r1 / r2 = t) (hn : r1 - t * r2 = n) :
    1 ≤ t ∧ r1 = t * r2 + n ∧ n < r2 ∧ r2 * (B1 + t * B2) + n * B2 = x ∧ r2 * (A1 + t * A2) + n * A2 = y ∧ A1 + t * A2 ≤ B1 + t * B2 ∧ B2 ≤ B1 + t * B2 ∧ 1 ≤ A1 + t * A2 := by
  obtain ⟨_, _, _, _, _, hx, hy, hAB, hB, hs, hA1, hr, _⟩ := h
  have t1 : 1 ≤ t := by rw [← ht]; exact (Nat.le_div_iff_mul_le (by omega)).2 (by omega)
  have d := Nat.div_add_mod r1 r2
  rw [ht, Nat.mul_comm] at d
  have m := Nat.mod_lt r1 (show r2 > 0 by omega)
  have en : n = r1 % r2 := by omega
  have e : r1 = t * r2 + n := by omega
  have x1 : r2 * (B1 + t * B2) + n * B2 = x := by
    rw [← hx, e, Nat.add_mul, Nat.mul_add, Nat.mul_left_comm r2 t B2, Nat.mul_assoc t r2 B2]
    omega
  have x2 : r2 * (A1 + t * A2) + n * A2 = y := by
    rw [← hy, e, Nat.add_mul, Nat.mul_add, Nat.mul_left_comm r2 t A2, Nat.mul_assoc t r2 A2]
    omega
  have lt : n < r2 := by omega
  clear en m d hn ht
  obtain ⟨k, rfl⟩ : ∃ k, t = k + 1 := ⟨t - 1, by omega⟩
  have q1 : k * A2 ≤ k * B2 := Nat.mul_le_mul_left _ hAB
  refine ⟨t1, e, lt, x1, x2, ?_, ?_, ?_⟩
  · rw [Nat.add_mul, Nat.add_mul]; omega
  · rw [Nat.add_mul]; omega
  · rw [Nat.add_mul]; omega
theorem turnSt_next {a b x y r1 A1 B1 r2 A2 B2 F S t n K a0 b0 : Nat} {s : Int} (h : TurnSt a b x y r1 A1 B1 r2 A2 B2 F S s) (h2 : r2 ≠ 0) (ht : r1 / r2 = t) (hn : r1 - t * r2 = n) (ha : a = K * x + a0) (hb : b = K * y + b0) (a1 : a0 < K) (b1 : b0 < K)
    (s1 : B1 + t * B2 ≤ n) (s2 : B2 + (B1 + t * B2) ≤ r2 - n) : ∃ N, TurnSt a b x y r2 A2 B2 n (A1 + t * A2) (B1 + t * B2) S N (-s) ∧ N < S ∧ 0 < N := by
  obtain ⟨c1, c2, c3, c4, c5, c6, c7, c8⟩ := turnSt_count h h2 ht hn
  obtain ⟨hs, hF, hS, hr1, hr2, hx, hy, hAB, hB, hsum, hA1, hr, hg, hSF, hmv, h00⟩ := h
  have eN : (F : Int) - t * S = -s * ((b : Int) * ((B1 + t * B2 : Nat) : Int) - a * ((A1 + t * A2 : Nat) : Int)) := by
    have e1 : (b : Int) * ((B1 + t * B2 : Nat) : Int) = b * B1 + t * (b * B2) := by
      rw [Int.natCast_add, Int.natCast_mul, Int.mul_add, Int.mul_left_comm]
    have e2 : (a : Int) * ((A1 + t * A2 : Nat) : Int) = a * A1 + t * (a * A2) := by
      rw [Int.natCast_add, Int.natCast_mul, Int.mul_add, Int.mul_left_comm]
    rw [hF, hS, e1, e2]
    rcases hs with rfl | rfl
    · rw [Int.one_mul, Int.one_mul, Int.mul_sub, Int.neg_mul, Int.one_mul]
      omega
    · rw [Int.neg_mul, Int.one_mul, Int.neg_mul, Int.one_mul, Int.mul_neg, Int.mul_sub, Int.neg_neg, Int.one_mul]
      omega
  have er : (n : Int) = -s * ((y : Int) * ((B1 + t * B2 : Nat) : Int) - x * ((A1 + t * A2 : Nat) : Int)) := by
    have e1 : (y : Int) * ((B1 + t * B2 : Nat) : Int) = y * B1 + t * (y * B2) := by
      rw [Int.natCast_add, Int.natCast_mul, Int.mul_add, Int.mul_left_comm]
    have e2 : (x : Int) * ((A1 + t * A2 : Nat) : Int) = x * A1 + t * (x * A2) := by
      rw [Int.natCast_add, Int.natCast_mul, Int.mul_add, Int.mul_left_comm]
    have e3 : (n : Int) = r1 - t * r2 := by
      have : (r1 : Int) = ((t * r2 + n : Nat) : Int) := by rw [← c2]
      rw [Int.natCast_add, Int.natCast_mul] at this
      omega
    rw [e3, hr1, hr2, e1, e2]
    rcases hs with rfl | rfl
    · rw [Int.one_mul, Int.one_mul, Int.mul_sub, Int.neg_mul, Int.one_mul]
      omega
    · rw [Int.neg_mul, Int.one_mul, Int.neg_mul, Int.one_mul, Int.mul_neg, Int.mul_sub, Int.neg_neg, Int.one_mul]
      omega
  obtain ⟨An, hAn⟩ : ∃ An, A1 + t * A2 = An := ⟨_, rfl⟩
  obtain ⟨Bn, hBn⟩ : ∃ Bn, B1 + t * B2 = Bn := ⟨_, rfl⟩
  rw [hAn, hBn] at eN er
  rw [hBn] at s1 s2 c4 c6 c7
  rw [hAn] at c5 c6 c8
  have hs' : -s = 1 ∨ -s = -1 := by rcases hs with rfl | rfl <;> simp
  have neg : ∀ u v : Int, s * (u - v) = -s * (v - u) := by
    intro u v
    rw [Int.neg_mul, ← Int.mul_neg, Int.neg_sub]
  have n1 := near_num (K : Int) a b x y a0 b0 An Bn n ((F : Int) - t * S) s hs (by rw [ha]; simp) (by rw [hb]; simp) (by omega) (by omega) (by omega) (by omega) (by omega) (by omega)
    (by rw [er, neg]) (by rw [eN, neg])
  have n2 := near_num (K : Int) a b x y a0 b0 A2 B2 r2 S (-s) hs' (by rw [ha]; simp) (by rw [hb]; simp) (by omega) (by omega) (by omega) (by omega) (by omega) (by omega)
    (by rw [hr2, neg]) (by rw [hS, neg])
  have k0 : (0 : Int) < K := by omega
  have m1 : (K : Int) * Bn ≤ K * n := Int.mul_le_mul_of_nonneg_left (by omega) (by omega)
  have m2 : (K : Int) * (B2 + Bn) ≤ K * (r2 - n) := Int.mul_le_mul_of_nonneg_left (by omega) (by omega)
  have m3 : ((K : Int) - 1) * Bn = K * Bn - Bn := by rw [Int.sub_mul, Int.one_mul]
  have m4 : ((K : Int) - 1) * B2 = K * B2 - B2 := by rw [Int.sub_mul, Int.one_mul]
  rw [Int.mul_add, Int.mul_sub] at m2
  have N0 : (0 : Int) < (F : Int) - t * S := by omega
  have NS : (F : Int) - t * S < S := by omega
  have eT : ((t * S : Nat) : Int) = (t : Int) * S := Int.natCast_mul _ _
  have hle : t * S ≤ F := by omega
  obtain ⟨N, hN⟩ : ∃ N, F = t * S + N := ⟨F - t * S, by omega⟩
  have eNN : (N : Int) = (F : Int) - t * S := by omega
  have hgN : Nat.gcd S N = Nat.gcd a b := by
    rw [← hg, hN, Nat.gcd_mul_right_add_left, Nat.gcd_comm S N]
  refine ⟨N, ?_, by omega, by omega⟩
  refine ⟨hs', ?_, ?_, ?_, ?_, by rw [hBn]; exact c4, by rw [hAn]; exact c5, by rw [hAn, hBn]; exact c6, by omega, by omega, by omega, by omega, hgN, by omega, Or.inr ⟨by omega, by omega, ?_⟩, fun h => ?_⟩
  · rw [hS, neg]
  · rw [eNN, eN, hAn, hBn]
  · rw [hr2, neg]
  · rw [hAn, hBn]; exact er
  · rcases hmv with h | ⟨_, h3, h4⟩
    · have := (h00 h).2; omega
    · omega
  · omega
end Go.Proofs.YtbmhfcppaajgbaaGreatDoor.WMath
namespace Go.Proofs.YtbmhfcppaajgbaaGreatDoor
set_option maxRecDepth 100000
open Go.RowKit WMath

theorem l_wordDivisor (a b g : Nat) (ha : a < 18446744073709551616) (hb : b < 18446744073709551616) (hg : Nat.gcd a b = g) (w : World) :
    Calls Tryz.prog 322 #[.int .u64 (a : Nat), .int .u64 (b : Nat)] w fun r w' => r = .returned (.int .u64 (g : Nat)) ∧ Below w.heap.size w w' := by
  have HG := box hg
  clear hg
  go_enter Tryz.func322, Tryz.ntmps322
  go_wp2
  go_loopw [0, 1] (fun av bv wr => ∃ (x y : Nat), av = .int .u64 x ∧ bv = .int .u64 y ∧ x < 18446744073709551616 ∧ y < 18446744073709551616 ∧ Below w.heap.size w wr ∧ Box (Nat.gcd x y = g)) (fun _ bv _ => (intOf bv).toNat)
  case atStart => exact ⟨a, b, rfl, rfl, ha, hb, Below.refl _ _, HG⟩
  case round =>
    obtain ⟨x, y, rfl, rfl, hx, hy, hbw, HE⟩ := hrel
    by_cases h0 : y = 0
    · subst h0
      have e := HE.out
      rw [Nat.gcd_zero_right] at e
      subst e
      go_wp2
      go_ret
      exact ⟨rfl, hbw⟩
    · have d1 : ((y : Int) != 0) = true := by simp; omega
      have d2 : ¬ (y : Int) = 0 := by omega
      obtain ⟨z, hz⟩ : ∃ z, x % y = z := ⟨_, rfl⟩
      have hzy : z < y := by rw [← hz]; exact Nat.mod_lt _ (by omega)
      have n1 : (x : Int).tmod (y : Int) = (z : Int) := by rw [← hz]; rfl
      have n2 : (x : Int) % (y : Int) = (z : Int) := by rw [← hz]; rfl
      have n3 : IntKind.u64.wrap (z : Int) = (z : Int) := by rw [IntKind.wrap_u64]; omega
      have NE : Box (Nat.gcd y z = g) := box (by rw [← HE.out, ← hz, Nat.gcd_comm x y, Nat.gcd_rec y x, Nat.gcd_comm])
      clear hz HE
      go_wp2
      go_region
      all_goals go_wp2
      all_goals exact ⟨⟨y, z, rfl, rfl, hy, by omega, hbw.drew, NE⟩, by simp [intOf]; omega⟩

/-- A turn as a struct of three words. -/
def tn (r A B : Nat) : Value := .agg #[.int .u64 (r : Nat), .int .u64 (A : Nat), .int .u64 (B : Nat)]

theorem l_sure (r1 A1 B1 n A B : Nat) (o : Bool) (h1 : r1 < 18446744073709551616) (hn : n < r1) (hB : B < 18446744073709551616) (hw : B ≤ n → B1 + B < 18446744073709551616) (ho : (decide (B ≤ n) && decide (B1 + B ≤ r1 - n)) = o) (w : World) :
    Calls Tryz.prog 334 #[tn r1 A1 B1, tn n A B] w fun r w' => r = .returned (.bool o) ∧ Below w.heap.size w w' := by
  unfold tn
  by_cases h : B ≤ n
  · have d1 : decide (B ≤ n) = true := decide_eq_true h
    have hw2 := hw h
    rw [d1, Bool.true_and] at ho
    obtain ⟨z, hz⟩ : ∃ z, r1 - n = z := ⟨_, rfl⟩
    rw [hz] at ho
    have n1 : (r1 : Int) - (n : Int) = (z : Int) := by omega
    have n2 : IntKind.u64.wrap (z : Int) = (z : Int) := by rw [IntKind.wrap_u64]; omega
    have n3 : IntKind.u64.wrap ((B1 : Int) + (B : Int)) = (B1 : Int) + (B : Int) := by rw [IntKind.wrap_u64]; omega
    have ho2 : decide ((B1 : Int) + (B : Int) ≤ (z : Int)) = o := by rw [← ho, decide_eq_decide]; omega
    clear hz ho hw
    go_enter Tryz.func334, Tryz.ntmps334
    go_wp2
    go_ret
    exact ⟨rfl, btr (bal _ _) (bal _ _)⟩
  · have d1 : decide (B ≤ n) = false := decide_eq_false h
    rw [d1, Bool.false_and] at ho
    subst ho
    clear hw
    go_enter Tryz.func334, Tryz.ntmps334
    go_wp2
    go_ret
    exact ⟨rfl, btr (bal _ _) (bal _ _)⟩

theorem drew_heap (W : World) : W.drew.heap = W.heap := rfl
theorem drew_cellN (W : World) (b o : Nat) : ((W.drew.cell? ⟨b, o, none⟩).elim 0 fun v => (intOf v).toNat) = ((W.cell? ⟨b, o, none⟩).elim 0 fun v => (intOf v).toNat) := rfl
/-- A cell as a number. -/
def cellN (w : World) (b o : Nat) : Nat := ((w.cell? ⟨b, o, none⟩).elim 0 fun v => (intOf v).toNat)
/-- The cells of a turn. -/
def tc (r A B : Nat) : Array Value := #[.int .u64 (r : Nat), .int .u64 (A : Nat), .int .u64 (B : Nat)]
theorem tc_cell {w : World} {b r A B : Nat} {T : TypeId} (h : w.heap[b]? = some (.cells (tc r A B) T)) : w.cell? ⟨b, 0, none⟩ = some (.int .u64 (r : Nat)) ∧ w.cell? ⟨b, 1, none⟩ = some (.int .u64 (A : Nat)) ∧ w.cell? ⟨b, 2, none⟩ = some (.int .u64 (B : Nat)) :=
  ⟨by rw [cell_of_row w b 0 _ _ _ h]; rfl, by rw [cell_of_row w b 1 _ _ _ h]; rfl, by rw [cell_of_row w b 2 _ _ _ h]; rfl⟩
theorem cellN_is {w : World} {b r A B : Nat} {T : TypeId} (h : w.heap[b]? = some (.cells (tc r A B) T)) : cellN w b 0 = r := by
  unfold cellN
  rw [(tc_cell h).1]
  simp [intOf]

/-- The three cells of a turn, written one by one. -/
def set3 (w : World) (b r A B : Nat) : World := ((w.setCell ⟨b, 0, none⟩ (.int .u64 (r : Nat))).setCell ⟨b, 1, none⟩ (.int .u64 (A : Nat))).setCell ⟨b, 2, none⟩ (.int .u64 (B : Nat))
theorem set3_row {w : World} {b r A B : Nat} (r' A' B' : Nat) {T : TypeId} (h : w.heap[b]? = some (.cells (tc r A B) T)) : (set3 w b r' A' B').heap[b]? = some (.cells (tc r' A' B') T) := by
  unfold set3
  rw [setCell_row (setCell_row (setCell_row h))]
  rfl
theorem set3_other {w : World} {b b' r A B : Nat} (h : b ≠ b') : (set3 w b r A B).heap[b']? = w.heap[b']? := by
  unfold set3
  rw [setCell_other h, setCell_other h, setCell_other h]
theorem set3_below {w wr : World} {b r A B n : Nat} (h : Below n w wr) (hb : n ≤ b) : Below n w (set3 wr b r A B) := ((h.setCell hb _).setCell hb _).setCell hb _

set_option maxRecDepth 100000 in
set_option maxHeartbeats 600000 in
theorem l_turns (a b x y K a0 b0 : Nat) (hx : x < 18446744073709551616) (hxy : y ≤ x) (ha : a = K * x + a0) (hb : b = K * y + b0) (a1 : a0 < K) (b1 : b0 < K) (hab : b ≤ a) (w : World) :
    Calls Tryz.prog 328 #[.int .u64 (x : Nat), .int .u64 (y : Nat)] w fun r w' => ∃ (r1 A1 B1 r2 A2 B2 F S : Nat) (sw : Bool), r = .returned (.tuple #[tn r1 A1 B1, tn r2 A2 B2, .bool sw]) ∧ A1 < 18446744073709551616 ∧ B1 < 18446744073709551616 ∧ A2 < 18446744073709551616 ∧ B2 < 18446744073709551616 ∧ TurnSt a b x y r1 A1 B1 r2 A2 B2 F S (if sw then -1 else 1) ∧ Below w.heap.size w w' := by
  have T0 := box (turnSt_start a b x y hab hxy)
  have HA := box ha
  have HB := box hb
  have y64 : y < 18446744073709551616 := by omega
  clear ha hb hab
  go_enter Tryz.func328, Tryz.ntmps328
  go_wp2
  obtain ⟨g, hg⟩ : ∃ g, w.heap.size = g := ⟨_, rfl⟩
  have r0 : ((w.alloc (.cells (tc x 1 0) 326)).alloc (.cells (tc y 0 1) 326)).heap[g]? = some (.cells (tc x 1 0) 326) := by
    rw [heap_below _ _ _ (by rw [size_al]; omega), ← hg]; exact heap_alloc_last _ _
  have q0 : ((w.alloc (.cells (tc x 1 0) 326)).alloc (.cells (tc y 0 1) 326)).heap[g + 1]? = some (.cells (tc y 0 1) 326) := by
    have e : g + 1 = (w.alloc (.cells (tc x 1 0) 326)).heap.size := by rw [size_al, hg]
    rw [e]; exact heap_alloc_last _ _
  have b0 : Below w.heap.size w ((w.alloc (.cells (tc x 1 0) 326)).alloc (.cells (tc y 0 1) 326)) := btr (bal _ _) (bal _ _)
  rw [hg]
  go_loopw [6] (fun sv wr => ∃ (r1 A1 B1 r2 A2 B2 F S : Nat) (sw : Bool), sv = .bool sw ∧ r1 < 18446744073709551616 ∧ A1 < 18446744073709551616 ∧ B1 < 18446744073709551616 ∧ r2 < 18446744073709551616 ∧ A2 < 18446744073709551616 ∧ B2 < 18446744073709551616 ∧ wr.heap[g]? = some (.cells (tc r1 A1 B1) 326) ∧ wr.heap[g + 1]? = some (.cells (tc r2 A2 B2) 326) ∧ Below w.heap.size w wr ∧ Box (TurnSt a b x y r1 A1 B1 r2 A2 B2 F S (if sw then -1 else 1))) (fun _ wr => cellN wr (g + 1) 0)
  case atStart => exact ⟨x, 1, 0, y, 0, 1, a, b, false, rfl, hx, by decide, by decide, y64, by decide, by decide, r0, q0, b0, T0⟩
  case round =>
    clear r0 q0 b0 T0
    obtain ⟨r1, A1, B1, r2, A2, B2, F, S, sw, rfl, i1, i2, i3, i4, i5, i6, r5, q5, hbw, HT⟩ := hrel
    obtain ⟨e1, e2, e3⟩ := tc_cell r5
    obtain ⟨e4, e5, e6⟩ := tc_cell q5
    by_cases h0 : r2 = 0
    · have d0 : ((r2 : Int) != 0) = false := by simp; omega
      clear h0
      have f1 := fz (k := 0) r5
      have f2 := fz (k := 1) r5
      have f3 := fz (k := 2) r5
      have f4 := fz (k := 0) q5
      have f5 := fz (k := 1) q5
      have f6 := fz (k := 2) q5
      have R9 : (set3 (set3 wr g r1 A1 B1) (g + 1) r2 A2 B2).heap[g]? = some (.cells (tc r1 A1 B1) 326) := by rw [set3_other (by omega)]; exact set3_row r1 A1 B1 r5
      have Q9 : (set3 (set3 wr g r1 A1 B1) (g + 1) r2 A2 B2).heap[g + 1]? = some (.cells (tc r2 A2 B2) 326) := set3_row r2 A2 B2 (by rw [set3_other (by omega)]; exact q5)
      have B9 : Below w.heap.size w (set3 (set3 wr g r1 A1 B1) (g + 1) r2 A2 B2) := set3_below (set3_below hbw (by omega)) (by omega)
      have T9 := box (tc_cell R9)
      have U9 := box (tc_cell Q9)
      have V9 := box B9
      clear R9 Q9 B9
      go_wp2
      go_region
      go_wp2
      obtain ⟨k1, k2, k3⟩ := T9.out
      obtain ⟨k4, k5, k6⟩ := U9.out
      unfold set3 at k1 k2 k3 k4 k5 k6
      refine bodyPost_ret (v := .tuple #[tn r1 A1 B1, tn r2 A2 B2, .bool sw]) (by simp [results, Tryz.results328, go_sem, k1, k2, k3, k4, k5, k6, tn]) rfl ?_
      exact ⟨r1, A1, B1, r2, A2, B2, F, S, sw, rfl, i2, i3, i5, i6, HT.out, V9.out.drew⟩
    · obtain ⟨t, ht⟩ : ∃ t, r1 / r2 = t := ⟨_, rfl⟩
      obtain ⟨n, hn⟩ : ∃ n, r1 - t * r2 = n := ⟨_, rfl⟩
      obtain ⟨c1, c2, c3, c4, c5, c6, c7, c8⟩ := turnSt_count HT.out h0 ht hn
      obtain ⟨An, hAn⟩ : ∃ An, A1 + t * A2 = An := ⟨_, rfl⟩
      obtain ⟨Bn, hBn⟩ : ∃ Bn, B1 + t * B2 = Bn := ⟨_, rfl⟩
      have hN := fun s1 s2 => turnSt_next HT.out h0 ht hn HA.out HB.out a1 b1 s1 s2
      rw [hAn, hBn] at hN
      have HN := box hN
      clear hN
      rw [hAn] at c5 c6 c8
      rw [hBn] at c4 c6 c7
      obtain ⟨z1, hz1⟩ : ∃ z1, t * r2 = z1 := ⟨_, rfl⟩
      obtain ⟨z2, hz2⟩ : ∃ z2, t * A2 = z2 := ⟨_, rfl⟩
      obtain ⟨z3, hz3⟩ : ∃ z3, t * B2 = z3 := ⟨_, rfl⟩
      rw [hz2] at hAn
      rw [hz3] at hBn
      rw [hz1] at hn c2
      have l1 : An ≤ y := by
        have : An ≤ r2 * An := Nat.le_mul_of_pos_left An (by omega)
        omega
      have l2 : r2 * Bn ≤ x := by omega
      have l3 : Bn ≤ x := Nat.le_trans (Nat.le_mul_of_pos_left Bn (by omega)) l2
      have t64 : t ≤ r1 := by rw [← ht]; exact Nat.div_le_self _ _
      have m1 : (r1 : Int) / (r2 : Int) = (t : Int) := by rw [← ht]; rfl
      have m2 : (r1 : Int).tdiv (r2 : Int) = (t : Int) := by rw [← ht]; rfl
      have m3 : IntKind.u64.wrap (t : Int) = (t : Int) := by rw [IntKind.wrap_u64]; omega
      have m4 : (t : Int) * (r2 : Int) = (z1 : Int) := by rw [← hz1]; rfl
      have m5 : (t : Int) * (A2 : Int) = (z2 : Int) := by rw [← hz2]; rfl
      have m6 : (t : Int) * (B2 : Int) = (z3 : Int) := by rw [← hz3]; rfl
      have m7 : IntKind.u64.wrap (z1 : Int) = (z1 : Int) := by rw [IntKind.wrap_u64]; omega
      have m8 : IntKind.u64.wrap (z2 : Int) = (z2 : Int) := by rw [IntKind.wrap_u64]; omega
      have m9 : IntKind.u64.wrap (z3 : Int) = (z3 : Int) := by rw [IntKind.wrap_u64]; omega
      have p1 : (r1 : Int) - (z1 : Int) = (n : Int) := by omega
      have p2 : (A1 : Int) + (z2 : Int) = (An : Int) := by omega
      have p3 : (B1 : Int) + (z3 : Int) = (Bn : Int) := by omega
      have p4 : IntKind.u64.wrap (n : Int) = (n : Int) := by rw [IntKind.wrap_u64]; omega
      have p5 : IntKind.u64.wrap (An : Int) = (An : Int) := by rw [IntKind.wrap_u64]; omega
      have p6 : IntKind.u64.wrap (Bn : Int) = (Bn : Int) := by rw [IntKind.wrap_u64]; omega
      have d0 : ((r2 : Int) != 0) = true := by simp; omega
      have d1 : ¬ (r2 : Int) = 0 := by omega
      obtain ⟨o, ho⟩ : ∃ o, (decide (Bn ≤ n) && decide (B2 + Bn ≤ r2 - n)) = o := ⟨_, rfl⟩
      have hw : Bn ≤ n → B2 + Bn < 18446744073709551616 := by
        intro h
        have h2 : 2 * Bn ≤ r2 * Bn := Nat.mul_le_mul_right _ (by omega)
        omega
      have SU := box (l_sure r2 A2 B2 n An Bn o i4 c3 (by omega) hw ho)
      have HOO := box ho
      have HZ2 := box hAn
      have HZ3 := box hBn
      obtain ⟨h, hh⟩ : ∃ h, wr.heap.size = h := ⟨_, rfl⟩
      have gh : g + 1 < h := by rw [← hh]; exact (Array.getElem?_eq_some_iff.1 q5).1
      have r6 : (wr.alloc (.cells (tc n An Bn) 326)).heap[g]? = some (.cells (tc r1 A1 B1) 326) := by rw [heap_below _ _ _ (by omega)]; exact r5
      have q6 : (wr.alloc (.cells (tc n An Bn) 326)).heap[g + 1]? = some (.cells (tc r2 A2 B2) 326) := by rw [heap_below _ _ _ (by omega)]; exact q5
      have x6 : (wr.alloc (.cells (tc n An Bn) 326)).heap[h]? = some (.cells (tc n An Bn) 326) := by rw [← hh]; exact heap_alloc_last _ _
      have b6 : Below w.heap.size w (wr.alloc (.cells (tc n An Bn) 326)) := hbw.alloc hbw.size _
      have R6 := box r6
      have Q6 := box q6
      have X6 := box x6
      have B6 := box b6
      have CN := box (cellN_is q5)
      have DA : (decide (1 ≤ An)) = true := decide_eq_true c8
      clear ht hn hz1 hz2 hz3 hAn hBn c1 c2 c4 c5 c6 c7 hw ho r6 q6 x6 b6 l2 DA
      go_wp2_with fail
      refine (SU.out _).mono ?_
      rintro e w3 ⟨rfl, b3⟩
      have r7 := heap_of b3 _ _ _ R6.out
      have q7 := heap_of b3 _ _ _ Q6.out
      have x7 := heap_of b3 _ _ _ X6.out
      have b7 : Below w.heap.size w w3 := B6.out.trans (b3.mono B6.out.size)
      clear e1 e2 e3 e4 e5 e6 r5 q5 hbw b3
      obtain ⟨e1, e2, e3⟩ := tc_cell r7
      obtain ⟨e4, e5, e6⟩ := tc_cell q7
      obtain ⟨e7, e8, e9⟩ := tc_cell x7
      cases o
      · skip
        have f1 := fz (k := 0) r7
        have f2 := fz (k := 1) r7
        have f3 := fz (k := 2) r7
        have f4 := fz (k := 0) q7
        have f5 := fz (k := 1) q7
        have f6 := fz (k := 2) q7
        have R9 : (set3 (set3 w3 g r1 A1 B1) (g + 1) r2 A2 B2).heap[g]? = some (.cells (tc r1 A1 B1) 326) := by rw [set3_other (by omega)]; exact set3_row r1 A1 B1 r7
        have Q9 : (set3 (set3 w3 g r1 A1 B1) (g + 1) r2 A2 B2).heap[g + 1]? = some (.cells (tc r2 A2 B2) 326) := set3_row r2 A2 B2 (by rw [set3_other (by omega)]; exact q7)
        have B9 : Below w.heap.size w (set3 (set3 w3 g r1 A1 B1) (g + 1) r2 A2 B2) := set3_below (set3_below b7 (by omega)) (by omega)
        have T9 := box (tc_cell R9)
        have U9 := box (tc_cell Q9)
        have V9 := box B9
        clear R9 Q9 B9
        go_wp2
        go_region
        go_wp2
        obtain ⟨k1, k2, k3⟩ := T9.out
        obtain ⟨k4, k5, k6⟩ := U9.out
        unfold set3 at k1 k2 k3 k4 k5 k6
        refine bodyPost_ret (v := .tuple #[tn r1 A1 B1, tn r2 A2 B2, .bool sw]) (by simp [results, Tryz.results328, go_sem, k1, k2, k3, k4, k5, k6, tn]) rfl ?_
        exact ⟨r1, A1, B1, r2, A2, B2, F, S, sw, rfl, i2, i3, i5, i6, HT.out, V9.out.drew⟩
      · have hoo := HOO.out
        rw [Bool.and_eq_true, decide_eq_true_iff, decide_eq_true_iff] at hoo
        obtain ⟨N, TN, _, _⟩ := HN.out hoo.1 hoo.2
        have es : -(if sw then (-1 : Int) else 1) = if !sw then (-1 : Int) else 1 := by cases sw <;> rfl
        rw [es] at TN
        have f1 := fz (k := 0) r7
        have f2 := fz (k := 1) r7
        have f3 := fz (k := 2) r7
        have f4 := fz (k := 0) q7
        have f5 := fz (k := 1) q7
        have f6 := fz (k := 2) q7
        have R9 : (set3 (set3 w3 g r2 A2 B2) (g + 1) n An Bn).heap[g]? = some (.cells (tc r2 A2 B2) 326) := by rw [set3_other (by omega)]; exact set3_row r2 A2 B2 r7
        have Q9 : (set3 (set3 w3 g r2 A2 B2) (g + 1) n An Bn).heap[g + 1]? = some (.cells (tc n An Bn) 326) := set3_row n An Bn (by rw [set3_other (by omega)]; exact q7)
        have B9 : Below w.heap.size w (set3 (set3 w3 g r2 A2 B2) (g + 1) n An Bn) := set3_below (set3_below b7 (by omega)) (by omega)
        have CM := box (cellN_is Q9)
        unfold set3 at R9 Q9 B9 CM
        have T9 := box R9
        have U9 := box Q9
        have V9 := box B9
        have TT := box TN
        have N3 := box c3
        have A64 : An < 18446744073709551616 := by omega
        have B64 : Bn < 18446744073709551616 := by omega
        have n64 : n < 18446744073709551616 := by omega
        clear R9 Q9 B9 TN es hoo
        go_wp2
        go_region
        go_wp2
        refine ⟨⟨r2, A2, B2, n, An, Bn, S, N, !sw, ?_, i4, i5, i6, n64, A64, B64, ?_, ?_, ?_, TT⟩, ?_⟩
        · rfl
        · rw [drew_heap]; exact T9.out
        · rw [drew_heap]; exact U9.out
        · exact V9.out.drew
        rw [CN.out]
        refine Nat.lt_of_le_of_lt (Nat.le_of_eq ?_) N3.out
        unfold cellN
        rw [drew_cellN]
        exact CM.out
end Go.Proofs.YtbmhfcppaajgbaaGreatDoor
namespace Go.Proofs.YtbmhfcppaajgbaaGreatDoor
set_option maxRecDepth 100000
open Go.RowKit WMath

theorem hib (v m n : Nat) (hv : v < 2 ^ (64 * (m + 2) - n)) (hn : n < 64) : (wd v (m + 1) * 2 ^ n % 18446744073709551616) ||| (wd v m / 2 ^ (64 - n)) = v / 2 ^ (64 * (m + 1) - n) := by
  have hlt : v / 2 ^ (64 * (m + 1) - n) < 18446744073709551616 := by
    apply Nat.div_lt_of_lt_mul
    rw [two64, ← Nat.pow_add, show 64 * (m + 1) - n + 64 = 64 * (m + 2) - n by omega]
    exact hv
  have e0 : wd (v / 2 ^ (64 * (m + 1) - n)) 0 = v / 2 ^ (64 * (m + 1) - n) := by
    unfold wd
    rw [Nat.mul_zero, Nat.pow_zero, Nat.div_one, Nat.mod_eq_of_lt hlt]
  rw [← e0]
  by_cases h0 : n = 0
  · subst h0
    rw [down_wd v (64 * (m + 1) - 0) (m + 1) 0 0 (by omega) (by decide), Nat.pow_zero, Nat.mul_one, Nat.div_one, Nat.zero_add, Nat.mod_eq_of_lt (wd_lt _ _)]
    rw [show 64 - 0 = 64 from rfl, ← two64, Nat.mul_mod_left, Nat.div_eq_of_lt (wd_lt _ _)]
  · rw [down_wd v (64 * (m + 1) - n) m (64 - n) 0 (by omega) (by omega), Nat.zero_add, show 64 - (64 - n) = n by omega, Nat.or_comm]

set_option maxRecDepth 100000 in
set_option maxHeartbeats 1000000 in
theorem l_highest (w : World) (p q : Option Addr) (m c a M d b B B2 x y n : Nat) (ha : SL B w p (m + 2) c a) (hb : SL B2 w q M d b) (hB : B ≤ w.heap.size) (hB2 : B2 ≤ w.heap.size) (hL : m + 2 ≤ 40000) (hM : M ≤ 40000) (la : wl a = m + 2) (hab : b ≤ a) (hn : 64 * (m + 2) - blen a = n) (hx : a / 2 ^ (64 * (m + 1) - n) = x) (hy : b / 2 ^ (64 * (m + 1) - n) = y) :
    Calls Tryz.prog 329 #[.slice p (m + 2) c, .slice q M d] w fun r w' => r = .returned (.tuple #[.int .u64 (x : Nat), .int .u64 (y : Nat)]) ∧ Below w.heap.size w w' := by
  obtain ⟨bp, op, rfl, _⟩ := ha.ptr (by omega)
  obtain ⟨l, hl⟩ : ∃ l, blen a = l := ⟨_, rfl⟩
  have hl2 : l ≤ 64 * (m + 2) ∧ n < 64 := by
    rw [hl] at hn
    have : wl a = (l + 63) / 64 := by rw [← hl]; rfl
    omega
  have e1 : 64 * (m + 2) - n = l := by rw [hl] at hn; omega
  have alt : a < 2 ^ (64 * (m + 2) - n) := by rw [e1, ← hl]; exact blen_lt a
  have hxa := hib a m n alt hl2.2
  have hyb := hib b m n (Nat.lt_of_le_of_lt hab alt) hl2.2
  obtain ⟨k, hk⟩ : ∃ k, 64 - n = k := ⟨_, rfl⟩
  rw [hx, hk] at hxa
  rw [hy, hk] at hyb
  obtain ⟨u1, hu1⟩ : ∃ u, wd a (m + 1) = u := ⟨_, rfl⟩
  obtain ⟨u2, hu2⟩ : ∃ u, wd a m = u := ⟨_, rfl⟩
  obtain ⟨v1, hv1⟩ : ∃ u, wd b (m + 1) = u := ⟨_, rfl⟩
  obtain ⟨v2, hv2⟩ : ∃ u, wd b m = u := ⟨_, rfl⟩
  rw [hu1, hu2] at hxa
  rw [hv1, hv2] at hyb
  obtain ⟨x1, hx1⟩ : ∃ u, u1 * 2 ^ n % 18446744073709551616 = u := ⟨_, rfl⟩
  obtain ⟨x2, hx2⟩ : ∃ u, u2 / 2 ^ k = u := ⟨_, rfl⟩
  obtain ⟨y1, hy1⟩ : ∃ u, v1 * 2 ^ n % 18446744073709551616 = u := ⟨_, rfl⟩
  obtain ⟨y2, hy2⟩ : ∃ u, v2 / 2 ^ k = u := ⟨_, rfl⟩
  have x164 : x1 < 18446744073709551616 := by rw [← hx1]; exact Nat.mod_lt _ (by decide)
  have y164 : y1 < 18446744073709551616 := by rw [← hy1]; exact Nat.mod_lt _ (by decide)
  have x264 : x2 < 18446744073709551616 := by rw [← hx2, ← hu2]; exact Nat.lt_of_le_of_lt (Nat.div_le_self _ _) (wd_lt _ _)
  have y264 : y2 < 18446744073709551616 := by rw [← hy2, ← hv2]; exact Nat.lt_of_le_of_lt (Nat.div_le_self _ _) (wd_lt _ _)
  have bx : bits .or .u64 (x1 : Nat) (x2 : Nat) = (x : Int) := by rw [← hxa, hx1, hx2]; exact bits_or_u64_nat _ _ x164 x264
  have bY : bits .or .u64 (y1 : Nat) (y2 : Nat) = (y : Int) := by rw [← hyb, hy1, hy2]; exact bits_or_u64_nat _ _ y164 y264
  have c1 := ha.cell (m + 1) u1 (by omega) hu1
  have c2 := ha.cell m u2 (by omega) hu2
  obtain ⟨m', hm'⟩ : ∃ m', m + 1 = m' := ⟨_, rfl⟩
  have A1 := box (l_left u1 n x1 (by omega) hx1)
  have A2 := box (l_right u2 k x2 (by omega) hx2)
  have A3 := box (l_left v1 n y1 (by omega) hy1)
  have A4 := box (l_right v2 k y2 (by omega) hy2)
  have T1 := box hv1
  have T2 := box hv2
  have HL := box hl
  have LA := box la
  have n1 : ((m + 2 : Nat) : Int) - 1 = (m : Int) + 1 := by omega
  have n1' : (m : Int) + 2 - 1 = (m : Int) + 1 := by omega
  have n2 : IntKind.i64.wrap ((m : Int) + 1) = (m : Int) + 1 := wrap_i64_is _ (by omega) (by omega)
  have n3 : IntKind.i64.wrap (((m : Int) + 2) * 64) = ((m : Int) + 2) * 64 := wrap_i64_is _ (by omega) (by omega)
  have n4 : ((m : Int) + 2) * 64 - (l : Int) = (n : Int) := by rw [hl] at hn; omega
  have n5 : IntKind.i64.wrap (n : Int) = (n : Int) := wrap_i64_is _ (by omega) (by omega)
  have n6 : (64 : Int) - (n : Int) = (k : Int) := by omega
  have n7 : IntKind.i64.wrap (k : Int) = (k : Int) := wrap_i64_is _ (by omega) (by omega)
  have n8 : (m : Int) + 1 - 1 = (m : Int) := by omega
  have n9 : IntKind.i64.wrap (m : Int) = (m : Int) := wrap_i64_is _ (by omega) (by omega)
  clear hxa hyb hu1 hu2 hv1 hv2 hx1 hx2 hy1 hy2 hk hl hn la hx hy hl2 e1 alt hm'
  go_enter Tryz.func329, Tryz.ntmps329
  go_wp2_with fail
  refine (l_bitLen w _ (m + 2) c a l B ha (by omega) LA.out HL.out).mono ?_
  rintro e w1 ⟨rfl, rfl⟩
  go_wp2
  go_quiet (first
    | (go_at_call 264; exact (A1.out _).mono (fun _ _ h => ⟨h.1, _, h.2⟩))
    | (go_at_call 265; exact (A2.out _).mono (fun _ _ h => ⟨h.1, _, h.2⟩)))
  go_wp2_with fail
  have bq : Below w1.heap.size w1 (w1.drewN nq) := below_drewN (Below.refl w1.heap.size w1) nq
  have sb := hb.below bq hB2
  have at1 := l_at (w1.drewN nq) q M d b (m + 1) v1 sb T1.out (by omega)
  rw [show ((m + 1 : Nat) : Int) = (m : Int) + 1 from rfl] at at1
  refine at1.mono ?_
  rintro e w' ⟨rfl, rfl⟩
  go_wp2_with fail
  refine (A3.out _).mono ?_
  rintro e w' ⟨rfl, rfl⟩
  go_wp2_with fail
  refine (l_at (w1.drewN nq) q M d b m v2 sb T2.out (by omega)).mono ?_
  rintro e w' ⟨rfl, rfl⟩
  go_wp2_with fail
  refine (A4.out _).mono ?_
  rintro e w' ⟨rfl, rfl⟩
  go_wp2
  go_ret2
  exact ⟨rfl, bq⟩

/-- What the balance keeps, word by word. -/
def BalSt (a t b u i cx cy S : Nat) (o : Bool) : Prop := S < 2 ^ (64 * i) ∧ S + (b % 2 ^ (64 * i)) * u + 2 ^ (64 * i) * cx = (a % 2 ^ (64 * i)) * t + 2 ^ (64 * i) * (cy + o.toNat)
theorem balSt0 (a t b u : Nat) : BalSt a t b u 0 0 0 0 false := ⟨by decide, by simp [Nat.mod_one]⟩
theorem balSt_next {a t b u i cx cy S : Nat} {o : Bool} (h : BalSt a t b u i cx cy S o) (x y xl yl dx dy s : Nat) (p : Bool) (hx : wd a i = x) (hy : wd b i = y) (h1 : xl + 18446744073709551616 * dx = x * t + cx) (h2 : yl + 18446744073709551616 * dy = y * u + cy) (hs : s < 18446744073709551616) (h3 : s + yl + o.toNat = xl + 18446744073709551616 * p.toNat) :
    BalSt a t b u (i + 1) dx dy (S + 2 ^ (64 * i) * s) p := by
  refine ⟨push_lt S i s h.1 hs, ?_⟩
  have e := h.2
  rw [mod_wd, mod_wd, hx, hy, pow64, Nat.add_mul, Nat.add_mul, Nat.mul_assoc (2 ^ (64 * i)) x t, Nat.mul_assoc (2 ^ (64 * i)) y u]
  generalize 2 ^ (64 * i) = P at *
  generalize a % P * t = A at *
  generalize b % P * u = C at *
  generalize x * t = xt at *
  generalize y * u = yu at *
  have h4 : s + yu + 18446744073709551616 * dx + (cy + o.toNat) = cx + xt + 18446744073709551616 * (dy + p.toNat) := by omega
  have h5 := congrArg (fun z => P * z) h4
  simp only [Nat.mul_add] at h5 e ⊢
  rw [← Nat.mul_assoc P 18446744073709551616 dx, ← Nat.mul_assoc P 18446744073709551616 dy, ← Nat.mul_assoc P 18446744073709551616 p.toNat] at h5
  omega
theorem balSt_end {a t b u N cx cy S V : Nat} {o : Bool} (h : BalSt a t b u N cx cy S o) (ha : a < 2 ^ (64 * N)) (hb : b < 2 ^ (64 * N)) (hV : V + b * u = a * t) (hVN : V < 2 ^ (64 * N)) : S = V := by
  have e := h.2
  have h1 := h.1
  rw [Nat.mod_eq_of_lt ha, Nat.mod_eq_of_lt hb, ← hV] at e
  generalize 2 ^ (64 * N) = P at *
  have e2 : S + P * cx = V + P * (cy + o.toNat) := by omega
  have e3 := congrArg (fun z => z % P) e2
  simp only [Nat.add_mul_mod_self_left, Nat.mod_eq_of_lt h1, Nat.mod_eq_of_lt hVN] at e3
  exact e3

set_option maxRecDepth 100000 in
set_option maxHeartbeats 2000000 in
theorem l_balance (w : World) (p q : Option Addr) (L c a t M d b u B V K : Nat) (ha : SL B w p L c a) (hb : SL B w q M d b) (hB : B ≤ w.heap.size) (hL : L ≤ 40000) (hM : M ≤ 40000) (ht : t < 18446744073709551616) (hu : u < 18446744073709551616) (hV : V + b * u = a * t) (hVN : V < 2 ^ (64 * max L M)) (hK : wl V = K) :
    Calls Tryz.prog 330 #[.slice p L c, .int .u64 (t : Nat), .slice q M d, .int .u64 (u : Nat)] w fun r w' => ∃ y e, r = .returned (.slice y K e) ∧ SL w'.heap.size w' y K e V ∧ Below w.heap.size w w' := by
  obtain ⟨N, hN⟩ : ∃ N, max L M = N := ⟨_, rfl⟩
  have hcase : (L < M ∧ M = N) ∨ ((L < M) = False ∧ L = N) := by
    by_cases h : L < M
    · left; exact ⟨h, by omega⟩
    · right; exact ⟨eq_false h, by omega⟩
  rw [hN] at hVN
  have aN : a < 2 ^ (64 * N) := Nat.lt_of_lt_of_le ha.1 (pow64_le _ _ (by omega))
  have bN : b < 2 ^ (64 * N) := Nat.lt_of_lt_of_le hb.1 (pow64_le _ _ (by omega))
  have N2 : N ≤ 40000 := by omega
  have AN := box aN
  have BN := box bN
  have HV := box hV
  have HVN := box hVN
  have HK := box hK
  obtain ⟨g, hg⟩ : ∃ g, w.heap.size = g := ⟨_, rfl⟩
  have hB2 := hB
  rw [hg] at hB2
  have r0 : (w.alloc (.cells (cw N 0) 23)).heap[g]? = some (.cells (cw N 0) 23) := by rw [← hg]; exact heap_alloc_last _ _
  have b0 : Below g w (w.alloc (.cells (cw N 0) 23)) := by rw [← hg]; exact (Below.refl _ _).alloc (Nat.le_refl _) _
  have R0 := box r0
  have B0 := box b0
  clear hN aN bN hV hVN hK r0 b0
  rcases hcase with ⟨h1, hn⟩ | ⟨h1, hn⟩
  all_goals
    first
      | (have hmk := cw_make N (M : Int) (by omega) (by omega))
      | (have hmk := cw_make N (L : Int) (by omega) (by omega))
    clear hn
    go_enter Tryz.func330, Tryz.ntmps330
    go_wp2
    clear hmk h1
    go_loopw [12, 13, 14, 24] (fun xv yv ov iv wr => ∃ (i cx cy S : Nat) (o : Bool), i ≤ N ∧ cx < 18446744073709551616 ∧ cy < 18446744073709551616 ∧ xv = .int .u64 cx ∧ yv = .int .u64 cy ∧ ov = .bool o ∧ iv = .int .i64 i ∧ wr.heap[g]? = some (.cells (cw N S) 23) ∧ Below g w wr ∧ Box (BalSt a t b u i cx cy S o)) (fun _ _ _ iv _ => N - (intOf iv).toNat)
    case atStart => exact ⟨0, 0, 0, 0, false, by omega, by decide, by decide, rfl, rfl, rfl, rfl, R0.out, B0.out, box (balSt0 a t b u)⟩
    case round =>
      obtain ⟨i, cx, cy, S, o, hi, hcx, hcy, rfl, rfl, rfl, rfl, r1, hbw, HE⟩ := hrel
      have sa := ha.below hbw hB2
      have sb := hb.below hbw hB2
      by_cases hlt : i < N
      · obtain ⟨x, hx⟩ : ∃ x, wd a i = x := ⟨_, rfl⟩
        obtain ⟨y, hy⟩ : ∃ y, wd b i = y := ⟨_, rfl⟩
        obtain ⟨xl, hxl⟩ : ∃ v, (x * t + cx) % 18446744073709551616 = v := ⟨_, rfl⟩
        obtain ⟨dx, hdx⟩ : ∃ v, (x * t + cx) / 18446744073709551616 = v := ⟨_, rfl⟩
        obtain ⟨yl, hyl⟩ : ∃ v, (y * u + cy) % 18446744073709551616 = v := ⟨_, rfl⟩
        obtain ⟨dy, hdy⟩ : ∃ v, (y * u + cy) / 18446744073709551616 = v := ⟨_, rfl⟩
        obtain ⟨s, hs⟩ : ∃ s, (xl + 18446744073709551616 - yl - o.toNat) % 18446744073709551616 = s := ⟨_, rfl⟩
        obtain ⟨o2, ho2⟩ : ∃ o2, decide (xl < yl + o.toNat) = o2 := ⟨_, rfl⟩
        have x64 : x < 18446744073709551616 := by rw [← hx]; exact wd_lt _ _
        have y64 : y < 18446744073709551616 := by rw [← hy]; exact wd_lt _ _
        have xl64 : xl < 18446744073709551616 := by rw [← hxl]; exact Nat.mod_lt _ (by decide)
        have yl64 : yl < 18446744073709551616 := by rw [← hyl]; exact Nat.mod_lt _ (by decide)
        have s64 : s < 18446744073709551616 := by rw [← hs]; exact Nat.mod_lt _ (by decide)
        have dx64 : dx < 18446744073709551616 := by
          have := mul_lt128 x t cx 0 x64 ht hcx (by decide)
          rwa [Nat.add_zero, hdx] at this
        have dy64 : dy < 18446744073709551616 := by
          have := mul_lt128 y u cy 0 y64 hu hcy (by decide)
          rwa [Nat.add_zero, hdy] at this
        have bn := borrow_num xl yl s o o2 xl64 yl64 hs ho2
        have NB : Box (BalSt a t b u (i + 1) dx dy (S + 2 ^ (64 * i) * s) o2) := box (balSt_next HE.out x y xl yl dx dy s o2 hx hy (by omega) (by omega) s64 bn)
        have c1 : wr.cell? ⟨g, i, none⟩ = some (.int .u64 (wd S i : Nat)) := by rw [cell_of_row wr g i _ _ _ r1, cw_at N S i hlt]
        have f1 := fz (k := i) r1
        have RS : Box ((wr.setCell ⟨g, i, none⟩ (.int .u64 (s : Int))).heap[g]? = some (.cells (cw N (S + 2 ^ (64 * i) * s)) 23)) := box (by rw [setCell_row r1, cw_push N S i s _ hlt HE.out.1 s64 rfl])
        have BS : Box (Below g w (wr.setCell ⟨g, i, none⟩ (.int .u64 (s : Int)))) := box (hbw.setCell (Nat.le_refl _) _)
        have M1 := box (l_mulAdd x t cx xl dx x64 ht hcx hxl hdx)
        have M2 := box (l_mulAdd y u cy yl dy y64 hu hcy hyl hdy)
        have M3 := box (sub_is xl yl o s o2 xl64 yl64 hs ho2)
        have HX := box hx
        have HY := box hy
        have dl : decide (i < N) = true := decide_eq_true hlt
        clear hx hy hxl hdx hyl hdy hs ho2 bn HE
        go_wp2_with fail
        refine (l_at wr p L c a i x sa HX.out (by omega)).mono ?_
        rintro e w' ⟨rfl, rfl⟩
        go_wp2_with fail
        refine (M1.out _).mono ?_
        rintro e w' ⟨rfl, rfl⟩
        go_wp2_with fail
        refine (l_at _ q M d b i y sb HY.out (by omega)).mono ?_
        rintro e w' ⟨rfl, rfl⟩
        go_wp2_with fail
        refine (M2.out _).mono ?_
        rintro e w' ⟨rfl, rfl⟩
        go_wp2_with fail
        refine (M3.out _).mono ?_
        rintro e w' ⟨rfl, rfl⟩
        go_wp2
        go_roundw
        case rel => exact ⟨i + 1, dx, dy, _, o2, by omega, dx64, dy64, rfl, rfl, rfl, by go_num, RS.out, BS.out, NB⟩
        case measure => simp [intOf] <;> omega
      · obtain rfl : i = N := by omega
        have e := balSt_end HE.out AN.out BN.out HV.out HVN.out
        subst e
        have dl : decide (i < i) = false := by rw [decide_eq_false_iff_not]; omega
        have s1 : SL wr.heap.size wr (some ⟨g, 0, none⟩) i i S := SL.row r1 _ (Array.getElem?_eq_some_iff.1 r1).1 HVN.out (Nat.le_refl _)
        go_wp2_with fail
        refine (l_trim wr _ _ _ _ K _ s1 (by omega) HK.out).mono ?_
        rintro e w2 ⟨v, f, rfl, s2, rfl⟩
        go_wp2
        go_ret
        exact ⟨v, f, rfl, s2, by rw [hg]; exact hbw⟩
end Go.Proofs.YtbmhfcppaajgbaaGreatDoor
