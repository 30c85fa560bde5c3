/-
  What the functions mulAdd, addTo and takeFrom of package nat return.
-/
import Derived.Test.YtknkkagapcigfaaDoorList0
import Derived.Test.YtknkkagapcigfaaDoorGx
namespace Go.Proofs.YtknkkagapcigfaaDoor
open Go.RowKit WMath

theorem sub_is (a b : Nat) (c : Bool) (s : Nat) (o : Bool) (ha : a < 18446744073709551616) (hb : b < 18446744073709551616) (hs : (a + 18446744073709551616 - b - c.toNat) % 18446744073709551616 = s) (ho : decide (a < b + c.toNat) = o) (w : World) :
    Calls Tryd.prog 93 #[.int .u64 a, .int .u64 b, .bool c] w fun e w' => e = .returned (.tuple #[.int .u64 (s : Nat), .bool o]) ∧ w' = w := by
  subst hs; subst ho; exact sub_any a b c ha hb w

theorem l_mulAdd (x y u lo hi : Nat) (hx : x < 18446744073709551616) (hy : y < 18446744073709551616) (hu : u < 18446744073709551616) (hlo : (x * y + u) % 18446744073709551616 = lo) (hhi : (x * y + u) / 18446744073709551616 = hi) (w : World) :
    Calls Tryd.prog 92 #[.int .u64 x, .int .u64 y, .int .u64 u] w fun e w' => e = .returned (.tuple #[.int .u64 (lo : Nat), .int .u64 (hi : Nat)]) ∧ w' = w := by
  obtain ⟨H, hH⟩ : ∃ H, x * y / 18446744073709551616 = H := ⟨_, rfl⟩
  obtain ⟨L, hL⟩ : ∃ L, x * y % 18446744073709551616 = L := ⟨_, rfl⟩
  obtain ⟨c1, hc1⟩ : ∃ c1, decide (18446744073709551616 ≤ L + u + false.toNat) = c1 := ⟨_, rfl⟩
  have bL : L < 18446744073709551616 := by rw [← hL]; exact Nat.mod_lt _ (by decide)
  have hb := mul_lt128 x y u 0 hx hy hu (by decide)
  rw [Nat.add_zero, hhi] at hb
  have hl1 : (L + u + false.toNat) % 18446744073709551616 = lo := by rw [← hlo, ← hL]; simp
  have hcase : (c1 = true ∧ H + 1 = hi) ∨ (c1 = false ∧ H = hi) := by
    simp only [Bool.toNat_false, Nat.add_zero] at hc1
    by_cases e : 18446744073709551616 ≤ L + u
    · left; exact ⟨by rw [← hc1]; exact decide_eq_true e, by omega⟩
    · right; exact ⟨by rw [← hc1]; exact decide_eq_false e, by omega⟩
  have A1 := box hH
  have A2 := box hL
  have A3 := box hl1
  have A4 := box hc1
  clear hH hL hl1 hc1 hlo hhi
  rcases hcase with ⟨rfl, rfl⟩ | ⟨rfl, rfl⟩
  all_goals
    go_enter Tryd.func92, Tryd.ntmps92
    go_wp2_with fail
    refine (mul_is x y H L hx hy A1.out A2.out _).mono ?_
    rintro e w' ⟨rfl, rfl⟩
    go_wp2_with fail
    refine (add_is L u false lo _ bL hu A3.out A4.out _).mono ?_
    rintro e w' ⟨rfl, rfl⟩
    go_wp2
    go_ret2
    exact ⟨ret_ii rfl (by first | rfl | go_num), rfl⟩

set_option maxHeartbeats 1000000 in
theorem l_addTo (w : World) (g o L c N X : Nat) (T : TypeId) (row : w.heap[g]? = some (.cells (cw N X) T)) (hN : o + L ≤ N) (q : Option Addr) (M d m B : Nat) (hb : SL B w q M d m) (hB : B ≤ g) (t : Nat) (ht : t < 18446744073709551616) (hL : L ≤ 100000) (hM : M ≤ L) (hmt : m * t < 2 ^ (64 * L)) (V S : Nat) (ov : Bool) (hV : vw X o L = V) (hS : (V + m * t) % 2 ^ (64 * L) = S) (ho : decide (2 ^ (64 * L) ≤ V + m * t) = ov) :
    Calls Tryd.prog 88 #[.slice (some ⟨g, o, none⟩) L c, .slice q M d, .int .u64 (t : Nat)] w fun r w' => r = .returned (.bool ov) ∧ w'.heap[g]? = some (.cells (cw N (putw X o L S)) T) ∧ Only g w w' := by
  have HMT := box hmt
  have HV := box hV
  have HS := box hS
  have HO := box ho
  clear hmt hV hS ho
  go_enter Tryd.func88, Tryd.ntmps88
  go_wp2
  go_loopw [6, 8, 12] (fun ovv cv iv wr => ∃ (i k S : Nat) (u : Bool), i ≤ L ∧ k < 18446744073709551616 ∧ iv = .int .i64 i ∧ cv = .int .u64 k ∧ ovv = .bool u ∧ wr.heap[g]? = some (.cells (cw N (putw X o i S)) T) ∧ Only g w wr ∧ Box (AddSt V m t i k S u)) (fun _ _ iv _ => L - (intOf iv).toNat)
  case atStart => exact ⟨0, 0, 0, false, by omega, by decide, rfl, rfl, rfl, by rw [putw_zero]; exact row, Only.refl _ _, box (addSt0 V m t)⟩
  case round =>
    obtain ⟨i, k, S', u, hi, hk, rfl, rfl, rfl, r1, ho1, HA⟩ := hrel
    by_cases hlt : i < L
    · obtain ⟨x, hx⟩ : ∃ x, wd m i = x := ⟨_, rfl⟩
      obtain ⟨v, hv⟩ : ∃ v, wd X (o + i) = v := ⟨_, rfl⟩
      obtain ⟨lo, hlo⟩ : ∃ lo, (x * t + k) % 18446744073709551616 = lo := ⟨_, rfl⟩
      obtain ⟨hi2, hhi⟩ : ∃ hi2, (x * t + k) / 18446744073709551616 = hi2 := ⟨_, rfl⟩
      obtain ⟨s, hs⟩ : ∃ s, (v + lo + u.toNat) % 18446744073709551616 = s := ⟨_, rfl⟩
      obtain ⟨u2, hu2⟩ : ∃ u2, decide (18446744073709551616 ≤ v + lo + u.toNat) = u2 := ⟨_, rfl⟩
      have x64 : x < 18446744073709551616 := by rw [← hx]; exact wd_lt _ _
      have v64 : v < 18446744073709551616 := by rw [← hv]; exact wd_lt _ _
      have lo64 : lo < 18446744073709551616 := by rw [← hlo]; exact Nat.mod_lt _ (by decide)
      have s64 : s < 18446744073709551616 := by rw [← hs]; exact Nat.mod_lt _ (by decide)
      have hi64 : hi2 < 18446744073709551616 := by
        have := mul_lt128 x t k 0 x64 ht hk (by decide)
        rwa [Nat.add_zero, hhi] at this
      have cn := carry_num v lo s u u2 v64 lo64 hs hu2
      have hvV : wd V i = v := by rw [← HV.out, wd_vw X o L i hlt, hv]
      have NA : Box (AddSt V m t (i + 1) hi2 (S' + 2 ^ (64 * i) * s) u2) := box (addSt_next HA.out x v lo hi2 s u2 hx hvV lo64 (by omega) s64 cn.1)
      have c1 : wr.cell? ⟨g, o + i, none⟩ = some (.int .u64 (v : Nat)) := by
        rw [cell_of_row wr g (o + i) _ _ _ r1, cw_at _ _ _ (by omega), wd_putw_next X o i S' HA.out.1, hv]
      have f0 := fz (k := o + i) r1
      have RS : Box ((wr.setCell ⟨g, o + i, none⟩ (.int .u64 (s : Int))).heap[g]? = some (.cells (cw N (putw X o (i + 1) (S' + 2 ^ (64 * i) * s))) T)) := box (by rw [setCell_row r1, cw_set N _ (o + i) s (by omega) s64, putw_step X o i S' s HA.out.1])
      have dl : decide (i < L) = true := decide_eq_true hlt
      have SB := hb.only ho1 hB
      have HX := box hx
      have HLO := box hlo
      have HHI := box hhi
      have HSS := box hs
      have HU := box hu2
      clear hx hv hlo hhi hs hu2 cn hvV
      go_wp2_with fail
      refine (l_at _ q M d m i x SB HX.out (by omega)).mono ?_
      rintro e w' ⟨rfl, rfl⟩
      go_wp2_with fail
      refine (l_mulAdd x t k lo hi2 x64 ht hk HLO.out HHI.out _).mono ?_
      rintro e w' ⟨rfl, rfl⟩
      go_wp2_with fail
      refine (add_is v lo u s u2 v64 lo64 HSS.out HU.out _).mono ?_
      rintro e w' ⟨rfl, rfl⟩
      go_wp2
      go_roundw
      case rel => exact ⟨i + 1, hi2, _, u2, by omega, hi64, by go_num, rfl, rfl, RS.out, ho1.setCell _, NA⟩
      case measure => simp [intOf] <;> omega
    · obtain rfl : i = L := by omega
      have VL : V < 2 ^ (64 * i) := by rw [← HV.out]; exact vw_lt _ _ _
      have ML : m < 2 ^ (64 * i) := Nat.lt_of_lt_of_le hb.1 (pow64_le _ _ hM)
      obtain ⟨e1, e2⟩ := addSt_end HA.out VL ML HMT.out
      rw [HS.out] at e1
      rw [HO.out] at e2
      subst e1 e2
      have dl : decide (i < i) = false := by rw [decide_eq_false_iff_not]; omega
      clear VL ML
      go_wp2
      go_ret
      exact ⟨rfl, r1, ho1⟩
theorem borrow_num (v lo s : Nat) (u p : Bool) (hv : v < 18446744073709551616) (hl : lo < 18446744073709551616) (hs : (v + 18446744073709551616 - lo - u.toNat) % 18446744073709551616 = s) (hp : decide (v < lo + u.toNat) = p) : s + lo + u.toNat = v + 18446744073709551616 * p.toNat := by
  have hu : u.toNat ≤ 1 := by cases u <;> decide
  by_cases e : v < lo + u.toNat
  · rw [decide_eq_true e] at hp
    subst hp
    rw [Bool.toNat_true]
    omega
  · rw [decide_eq_false e] at hp
    subst hp
    rw [Bool.toNat_false]
    omega

set_option maxHeartbeats 1000000 in
theorem l_takeFrom (w : World) (g o L c N X : Nat) (T : TypeId) (row : w.heap[g]? = some (.cells (cw N X) T)) (hN : o + L ≤ N) (q : Option Addr) (M d m B : Nat) (hb : SL B w q M d m) (hB : B ≤ g) (t : Nat) (ht : t < 18446744073709551616) (hL : L ≤ 100000) (hM : M ≤ L) (hmt : m * t < 2 ^ (64 * L)) (V S : Nat) (ov : Bool) (hV : vw X o L = V) (ho : decide (V < m * t) = ov) (hS : S + m * t = V + 2 ^ (64 * L) * ov.toNat) :
    Calls Tryd.prog 87 #[.slice (some ⟨g, o, none⟩) L c, .slice q M d, .int .u64 (t : Nat)] w fun r w' => r = .returned (.bool ov) ∧ w'.heap[g]? = some (.cells (cw N (putw X o L S)) T) ∧ Only g w w' := by
  have HMT := box hmt
  have HV := box hV
  have HS := box hS
  have HO := box ho
  clear hmt hV hS ho
  go_enter Tryd.func87, Tryd.ntmps87
  go_wp2
  go_loopw [6, 8, 12] (fun ovv cv iv wr => ∃ (i k S : Nat) (u : Bool), i ≤ L ∧ k < 18446744073709551616 ∧ iv = .int .i64 i ∧ cv = .int .u64 k ∧ ovv = .bool u ∧ wr.heap[g]? = some (.cells (cw N (putw X o i S)) T) ∧ Only g w wr ∧ Box (SubSt V m t i k S u)) (fun _ _ iv _ => L - (intOf iv).toNat)
  case atStart => exact ⟨0, 0, 0, false, by omega, by decide, rfl, rfl, rfl, by rw [putw_zero]; exact row, Only.refl _ _, box (subSt0 V m t)⟩
  case round =>
    obtain ⟨i, k, S', u, hi, hk, rfl, rfl, rfl, r1, ho1, HA⟩ := hrel
    by_cases hlt : i < L
    · obtain ⟨x, hx⟩ : ∃ x, wd m i = x := ⟨_, rfl⟩
      obtain ⟨v, hv⟩ : ∃ v, wd X (o + i) = v := ⟨_, rfl⟩
      obtain ⟨lo, hlo⟩ : ∃ lo, (x * t + k) % 18446744073709551616 = lo := ⟨_, rfl⟩
      obtain ⟨hi2, hhi⟩ : ∃ hi2, (x * t + k) / 18446744073709551616 = hi2 := ⟨_, rfl⟩
      obtain ⟨s, hs⟩ : ∃ s, (v + 18446744073709551616 - lo - u.toNat) % 18446744073709551616 = s := ⟨_, rfl⟩
      obtain ⟨u2, hu2⟩ : ∃ u2, decide (v < lo + u.toNat) = u2 := ⟨_, rfl⟩
      have x64 : x < 18446744073709551616 := by rw [← hx]; exact wd_lt _ _
      have v64 : v < 18446744073709551616 := by rw [← hv]; exact wd_lt _ _
      have lo64 : lo < 18446744073709551616 := by rw [← hlo]; exact Nat.mod_lt _ (by decide)
      have s64 : s < 18446744073709551616 := by rw [← hs]; exact Nat.mod_lt _ (by decide)
      have hi64 : hi2 < 18446744073709551616 := by
        have := mul_lt128 x t k 0 x64 ht hk (by decide)
        rwa [Nat.add_zero, hhi] at this
      have cn := borrow_num v lo s u u2 v64 lo64 hs hu2
      have hvV : wd V i = v := by rw [← HV.out, wd_vw X o L i hlt, hv]
      have NA : Box (SubSt V m t (i + 1) hi2 (S' + 2 ^ (64 * i) * s) u2) := box (subSt_next HA.out x v lo hi2 s u2 hx hvV lo64 (by omega) s64 cn)
      have c1 : wr.cell? ⟨g, o + i, none⟩ = some (.int .u64 (v : Nat)) := by
        rw [cell_of_row wr g (o + i) _ _ _ r1, cw_at _ _ _ (by omega), wd_putw_next X o i S' HA.out.1, hv]
      have f0 := fz (k := o + i) r1
      have RS : Box ((wr.setCell ⟨g, o + i, none⟩ (.int .u64 (s : Int))).heap[g]? = some (.cells (cw N (putw X o (i + 1) (S' + 2 ^ (64 * i) * s))) T)) := box (by rw [setCell_row r1, cw_set N _ (o + i) s (by omega) s64, putw_step X o i S' s HA.out.1])
      have dl : decide (i < L) = true := decide_eq_true hlt
      have SB := hb.only ho1 hB
      have HX := box hx
      have HLO := box hlo
      have HHI := box hhi
      have HSS := box hs
      have HU := box hu2
      clear hx hv hlo hhi hs hu2 cn hvV
      go_wp2_with fail
      refine (l_at _ q M d m i x SB HX.out (by omega)).mono ?_
      rintro e w' ⟨rfl, rfl⟩
      go_wp2_with fail
      refine (l_mulAdd x t k lo hi2 x64 ht hk HLO.out HHI.out _).mono ?_
      rintro e w' ⟨rfl, rfl⟩
      go_wp2_with fail
      refine (sub_is v lo u s u2 v64 lo64 HSS.out HU.out _).mono ?_
      rintro e w' ⟨rfl, rfl⟩
      go_wp2
      go_roundw
      case rel => exact ⟨i + 1, hi2, _, u2, by omega, hi64, by go_num, rfl, rfl, RS.out, ho1.setCell _, NA⟩
      case measure => simp [intOf] <;> omega
    · obtain rfl : i = L := by omega
      have VL : V < 2 ^ (64 * i) := by rw [← HV.out]; exact vw_lt _ _ _
      have ML : m < 2 ^ (64 * i) := Nat.lt_of_lt_of_le hb.1 (pow64_le _ _ hM)
      obtain ⟨e1, e2⟩ := subSt_end HA.out VL ML HMT.out
      rw [HO.out] at e2
      subst e2
      have e3 := HS.out
      have e1 : S' = S := by omega
      subst e1
      have dl : decide (i < i) = false := by rw [decide_eq_false_iff_not]; omega
      clear VL ML
      go_wp2
      go_ret
      exact ⟨rfl, r1, ho1⟩
end Go.Proofs.YtknkkagapcigfaaDoor
