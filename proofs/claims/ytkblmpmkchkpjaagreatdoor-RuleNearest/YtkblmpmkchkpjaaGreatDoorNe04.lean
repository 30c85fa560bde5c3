/-
  What the functions that the statement reaches return: part 4 (List1, List2, List3, List4, List5, List6, List7).
-/
import Derived.Test.YtkblmpmkchkpjaaGreatDoorNe03
namespace Go.Proofs.YtkblmpmkchkpjaaGreatDoor
set_option maxRecDepth 100000
set_option maxHeartbeats 40000000
open Go.RowKit WMath
theorem sub_is (a b : Nat) (c : Bool) (s : Nat) (o : Bool) (ha : a < 18446744073709551616) (hb : b < 18446744073709551616) (hs : (a + 18446744073709551616 - b - c.toNat) % 18446744073709551616 = s) (ho : decide (a < b + c.toNat) = o) (w : World) :
  Calls Tryz.prog 324 #[.int .u64 a, .int .u64 b, .bool c] w fun e w' => e = .returned (.tuple #[.int .u64 s, .bool o]) ∧ w' = w := by
 subst hs; subst ho; exact sub_any a b c ha hb w

theorem l_mulAdd (x y u lo hi : Nat) (hx : x < 18446744073709551616) (hy : y < 18446744073709551616) (hu : u < 18446744073709551616) (hlo : (x * y + u) % 18446744073709551616 = lo) (hhi : (x * y + u) / 18446744073709551616 = hi) (w : World) :
  Calls Tryz.prog 301 #[.int .u64 x, .int .u64 y, .int .u64 u] w fun e w' => e = .returned (.tuple #[.int .u64 lo, .int .u64 hi]) ∧ w' = w := by
 obtain ⟨H, hH⟩ : ∃ H, x * y / 18446744073709551616 = H := ⟨_, rfl⟩
 obtain ⟨L, hL⟩ : ∃ L, x * y % 18446744073709551616 = L := ⟨_, rfl⟩
 obtain ⟨c1, Aa⟩ : ∃ c1, decide (18446744073709551616 ≤ L + u + false.toNat) = c1 := ⟨_, rfl⟩
 have bL : L < 18446744073709551616 := by rw [← hL]; exact Nat.mod_lt _ (by decide)
 have hb := mul_lt128 x y u 0 hx hy hu (by decide)
 rw [Nat.add_zero, hhi] at hb
 have hl1 : (L + u + false.toNat) % 18446744073709551616 = lo := by rw [← hlo, ← hL]; simp
 have hcase : (c1 = true ∧ H + 1 = hi) ∨ (c1 = false ∧ H = hi) := by
  simp only [Bool.toNat_false, Nat.add_zero] at Aa
  by_cases e : 18446744073709551616 ≤ L + u
  ·
   left; exact ⟨by rw [← Aa]; exact decide_eq_true e, by omega⟩
  ·
   right; exact ⟨by rw [← Aa]; exact decide_eq_false e, by omega⟩
 have A1 := zH hH
 have A2 := zH hL
 have A3 := zH hl1
 have A4 := zH Aa
 clear hH hL hl1 Aa hlo hhi
 rcases hcase with ⟨rfl, rfl⟩ | ⟨rfl, rfl⟩
 all_goals
  go_enter Tryz.func301, Tryz.ntmps301
  go_wp2_with fail
  refine (mul_is x y H L hx hy A1.out A2.out _).mono ?_
  rintro e w' ⟨rfl, rfl⟩
  go_wp2_with fail
  refine (add_is L u false lo _ bL hu A3.out A4.out _).mono ?_
  rintro e w' ⟨rfl, rfl⟩
  go_wp2
  go_ret2
  exact ⟨ret_ii rfl (by first | rfl | go_num), rfl⟩

theorem l_addTo (w : World) (g o L c N X : Nat) (T : TypeId) (row : w.heap[g]? = some (.cells (cw N X) T)) (hN : o + L ≤ N) (q : Option Addr) (M d m B : Nat) (hb : SL B w q M d m) (hB : B ≤ g) (t : Nat) (ht : t < 18446744073709551616) (hL : L ≤ 100000) (hM : M ≤ L) (hmt : m * t < 2 ^ (64 * L)) (V S : Nat) (ov : Bool) (hV : vw X o L = V) (hS : (V + m * t) % 2 ^ (64 * L) = S) (ho : decide (2 ^ (64 * L) ≤ V + m * t) = ov) :
  Calls Tryz.prog 260 #[.slice (some ⟨g, o, none⟩) L c, .slice q M d, .int .u64 t] w fun r w' => r = .returned (.bool ov) ∧ w'.heap[g]? = some (.cells (cw N (xR X o L S)) T) ∧ qP g w w' := by
 have HMT := zH hmt
 have HV := zH hV
 have HS := zH hS
 have HO := zH ho
 clear hmt hV hS ho
 go_enter Tryz.func260, Tryz.ntmps260
 go_wp2
 go_loopw [6, 8, 12] (fun ovv cv iv wr => ∃ (i k S : Nat) (u : Bool), i ≤ L ∧ k < 18446744073709551616 ∧ iv = .int .i64 i ∧ cv = .int .u64 k ∧ ovv = .bool u ∧ wr.heap[g]? = some (.cells (cw N (xR X o i S)) T) ∧ qP g w wr ∧ zS (AddSt V m t i k S u)) (fun _ _ iv _ => L - (intOf iv).toNat)
 case atStart => exact ⟨0, 0, 0, false, by omega, by decide, rfl, rfl, rfl, by rw [putw_zero]; exact row, qP.refl _ _, zH (addSt0 V m t)⟩
 case round =>
  obtain ⟨i, k, S', u, hi, hk, rfl, rfl, rfl, r1, ho1, HA⟩ := hrel
  by_cases hlt : i < L
  ·
   obtain ⟨x, hx⟩ : ∃ x, wd m i = x := ⟨_, rfl⟩
   obtain ⟨v, hv⟩ : ∃ v, wd X (o + i) = v := ⟨_, rfl⟩
   obtain ⟨lo, hlo⟩ : ∃ lo, (x * t + k) % 18446744073709551616 = lo := ⟨_, rfl⟩
   obtain ⟨hi2, hhi⟩ : ∃ hi2, (x * t + k) / 18446744073709551616 = hi2 := ⟨_, rfl⟩
   obtain ⟨s, hs⟩ : ∃ s, (v + lo + u.toNat) % 18446744073709551616 = s := ⟨_, rfl⟩
   obtain ⟨u2, hu2⟩ : ∃ u2, decide (18446744073709551616 ≤ v + lo + u.toNat) = u2 := ⟨_, rfl⟩
   have x64 : x < 18446744073709551616 := by rw [← hx]; exact yU _ _
   have v64 : v < 18446744073709551616 := by rw [← hv]; exact yU _ _
   have lo64 : lo < 18446744073709551616 := by rw [← hlo]; exact Nat.mod_lt _ (by decide)
   have s64 : s < 18446744073709551616 := by rw [← hs]; exact Nat.mod_lt _ (by decide)
   have hi64 : hi2 < 18446744073709551616 := by
    have := mul_lt128 x t k 0 x64 ht hk (by decide)
    rwa [Nat.add_zero, hhi] at this
   have cn := carry_num v lo s u u2 v64 lo64 hs hu2
   have hvV : wd V i = v := by rw [← HV.out, wd_vw X o L i hlt, hv]
   have NA : zS (AddSt V m t (i + 1) hi2 (S' + 2 ^ (64 * i) * s) u2) := zH (addSt_next HA.out x v lo hi2 s u2 hx hvV lo64 (by omega) s64 cn.1)
   have c1 : wr.cell? ⟨g, o + i, none⟩ = some (.int .u64 v) := by
    rw [cell_of_row wr g (o + i) _ _ _ r1, yS _ _ _ (by omega), wd_putw_next X o i S' HA.out.1, hv]
   have f0 := fz (k := o + i) r1
   have RS : zS ((wr.setCell ⟨g, o + i, none⟩ (.int .u64 (s : Int))).heap[g]? = some (.cells (cw N (xR X o (i + 1) (S' + 2 ^ (64 * i) * s))) T)) := zH (by rw [z6 r1, cw_set N _ (o + i) s (by omega) s64, putw_step X o i S' s HA.out.1])
   have dl : decide (i < L) = true := decide_eq_true hlt
   have SB := hb.only ho1 hB
   have HX := zH hx
   have HLO := zH hlo
   have HHI := zH hhi
   have HSS := zH hs
   have HU := zH hu2
   clear hx hv hlo hhi hs hu2 cn hvV
   go_wp2_with fail
   refine (l_at _ q M d m i x SB HX.out (by omega)).mono ?_
   rintro e w' ⟨rfl, rfl⟩
   go_wp2_with fail
   refine (l_mulAdd x t k lo hi2 x64 ht hk HLO.out HHI.out _).mono ?_
   rintro e w' ⟨rfl, rfl⟩
   go_wp2_with fail
   refine (add_is v lo u s u2 v64 lo64 HSS.out HU.out _).mono ?_
   rintro e w' ⟨rfl, rfl⟩
   go_wp2
   go_roundw
   case rel => exact ⟨i + 1, hi2, _, u2, by omega, hi64, by go_num, rfl, rfl, RS.out, ho1.setCell _, NA⟩
   case measure => simp [intOf] <;> omega
  ·
   obtain rfl : i = L := by omega
   have VL : V < 2 ^ (64 * i) := by rw [← HV.out]; exact vw_lt _ _ _
   have ML : m < 2 ^ (64 * i) := Nat.lt_of_lt_of_le hb.1 (yV _ _ hM)
   obtain ⟨e1, e2⟩ := addSt_end HA.out VL ML HMT.out
   rw [HS.out] at e1
   rw [HO.out] at e2
   subst e1 e2
   have dl : decide (i < i) = false := by rw [decide_eq_false_iff_not]; omega
   clear VL ML
   go_wp2
   go_ret
   exact ⟨rfl, r1, ho1⟩
theorem borrow_num (v lo s : Nat) (u p : Bool) (hv : v < 18446744073709551616) (hl : lo < 18446744073709551616) (hs : (v + 18446744073709551616 - lo - u.toNat) % 18446744073709551616 = s) (hp : decide (v < lo + u.toNat) = p) : s + lo + u.toNat = v + 18446744073709551616 * p.toNat := by
 have hu : u.toNat ≤ 1 := by cases u <;> decide
 by_cases e : v < lo + u.toNat
 ·
  rw [decide_eq_true e] at hp
  subst hp
  rw [Bool.toNat_true]
  omega
 ·
  rw [decide_eq_false e] at hp
  subst hp
  rw [Bool.toNat_false]
  omega

theorem l_takeFrom (w : World) (g o L c N X : Nat) (T : TypeId) (row : w.heap[g]? = some (.cells (cw N X) T)) (hN : o + L ≤ N) (q : Option Addr) (M d m B : Nat) (hb : SL B w q M d m) (hB : B ≤ g) (t : Nat) (ht : t < 18446744073709551616) (hL : L ≤ 100000) (hM : M ≤ L) (hmt : m * t < 2 ^ (64 * L)) (V S : Nat) (ov : Bool) (hV : vw X o L = V) (ho : decide (V < m * t) = ov) (hS : S + m * t = V + 2 ^ (64 * L) * ov.toNat) :
  Calls Tryz.prog 302 #[.slice (some ⟨g, o, none⟩) L c, .slice q M d, .int .u64 t] w fun r w' => r = .returned (.bool ov) ∧ w'.heap[g]? = some (.cells (cw N (xR X o L S)) T) ∧ qP g w w' := by
 have HMT := zH hmt
 have HV := zH hV
 have HS := zH hS
 have HO := zH ho
 clear hmt hV hS ho
 go_enter Tryz.func302, Tryz.ntmps302
 go_wp2
 go_loopw [6, 8, 12] (fun ovv cv iv wr => ∃ (i k S : Nat) (u : Bool), i ≤ L ∧ k < 18446744073709551616 ∧ iv = .int .i64 i ∧ cv = .int .u64 k ∧ ovv = .bool u ∧ wr.heap[g]? = some (.cells (cw N (xR X o i S)) T) ∧ qP g w wr ∧ zS (SubSt V m t i k S u)) (fun _ _ iv _ => L - (intOf iv).toNat)
 case atStart => exact ⟨0, 0, 0, false, by omega, by decide, rfl, rfl, rfl, by rw [putw_zero]; exact row, qP.refl _ _, zH (subSt0 V m t)⟩
 case round =>
  obtain ⟨i, k, S', u, hi, hk, rfl, rfl, rfl, r1, ho1, HA⟩ := hrel
  by_cases hlt : i < L
  ·
   obtain ⟨x, hx⟩ : ∃ x, wd m i = x := ⟨_, rfl⟩
   obtain ⟨v, hv⟩ : ∃ v, wd X (o + i) = v := ⟨_, rfl⟩
   obtain ⟨lo, hlo⟩ : ∃ lo, (x * t + k) % 18446744073709551616 = lo := ⟨_, rfl⟩
   obtain ⟨hi2, hhi⟩ : ∃ hi2, (x * t + k) / 18446744073709551616 = hi2 := ⟨_, rfl⟩
   obtain ⟨s, hs⟩ : ∃ s, (v + 18446744073709551616 - lo - u.toNat) % 18446744073709551616 = s := ⟨_, rfl⟩
   obtain ⟨u2, hu2⟩ : ∃ u2, decide (v < lo + u.toNat) = u2 := ⟨_, rfl⟩
   have x64 : x < 18446744073709551616 := by rw [← hx]; exact yU _ _
   have v64 : v < 18446744073709551616 := by rw [← hv]; exact yU _ _
   have lo64 : lo < 18446744073709551616 := by rw [← hlo]; exact Nat.mod_lt _ (by decide)
   have s64 : s < 18446744073709551616 := by rw [← hs]; exact Nat.mod_lt _ (by decide)
   have hi64 : hi2 < 18446744073709551616 := by
    have := mul_lt128 x t k 0 x64 ht hk (by decide)
    rwa [Nat.add_zero, hhi] at this
   have cn := borrow_num v lo s u u2 v64 lo64 hs hu2
   have hvV : wd V i = v := by rw [← HV.out, wd_vw X o L i hlt, hv]
   have NA : zS (SubSt V m t (i + 1) hi2 (S' + 2 ^ (64 * i) * s) u2) := zH (subSt_next HA.out x v lo hi2 s u2 hx hvV lo64 (by omega) s64 cn)
   have c1 : wr.cell? ⟨g, o + i, none⟩ = some (.int .u64 v) := by
    rw [cell_of_row wr g (o + i) _ _ _ r1, yS _ _ _ (by omega), wd_putw_next X o i S' HA.out.1, hv]
   have f0 := fz (k := o + i) r1
   have RS : zS ((wr.setCell ⟨g, o + i, none⟩ (.int .u64 (s : Int))).heap[g]? = some (.cells (cw N (xR X o (i + 1) (S' + 2 ^ (64 * i) * s))) T)) := zH (by rw [z6 r1, cw_set N _ (o + i) s (by omega) s64, putw_step X o i S' s HA.out.1])
   have dl : decide (i < L) = true := decide_eq_true hlt
   have SB := hb.only ho1 hB
   have HX := zH hx
   have HLO := zH hlo
   have HHI := zH hhi
   have HSS := zH hs
   have HU := zH hu2
   clear hx hv hlo hhi hs hu2 cn hvV
   go_wp2_with fail
   refine (l_at _ q M d m i x SB HX.out (by omega)).mono ?_
   rintro e w' ⟨rfl, rfl⟩
   go_wp2_with fail
   refine (l_mulAdd x t k lo hi2 x64 ht hk HLO.out HHI.out _).mono ?_
   rintro e w' ⟨rfl, rfl⟩
   go_wp2_with fail
   refine (sub_is v lo u s u2 v64 lo64 HSS.out HU.out _).mono ?_
   rintro e w' ⟨rfl, rfl⟩
   go_wp2
   go_roundw
   case rel => exact ⟨i + 1, hi2, _, u2, by omega, hi64, by go_num, rfl, rfl, RS.out, ho1.setCell _, NA⟩
   case measure => simp [intOf] <;> omega
  ·
   obtain rfl : i = L := by omega
   have VL : V < 2 ^ (64 * i) := by rw [← HV.out]; exact vw_lt _ _ _
   have ML : m < 2 ^ (64 * i) := Nat.lt_of_lt_of_le hb.1 (yV _ _ hM)
   obtain ⟨e1, e2⟩ := subSt_end HA.out VL ML HMT.out
   rw [HO.out] at e2
   subst e2
   have e3 := HS.out
   have e1 : S' = S := by omega
   subst e1
   have dl : decide (i < i) = false := by rw [decide_eq_false_iff_not]; omega
   clear VL ML
   go_wp2
   go_ret
   exact ⟨rfl, r1, ho1⟩
theorem SL.cell {B : Nat} {w : World} {b o L c n : Nat} (h : SL B w (some ⟨b, o, none⟩) L c n) (k x : Nat) (hk : k < L) (hx : wd n k = x) : w.cell? ⟨b, o + k, none⟩ = some (.int .u64 x) := by
 obtain ⟨b', o', e, _, hc⟩ := h.2.2 (by omega)
 simp only [Option.some.injEq, Addr.mk.injEq] at e
 obtain ⟨rfl, rfl, _⟩ := e
 rw [hc k hk, hx]
theorem SL.ptr {B : Nat} {w : World} {p : Option Addr} {L c n : Nat} (h : SL B w p L c n) (hL : 0 < L) : ∃ b o, p = some ⟨b, o, none⟩ ∧ b < B := by
 obtain ⟨b, o, e, hb, _⟩ := h.2.2 hL
 exact ⟨b, o, e, hb⟩
theorem SL.cut {B : Nat} {w : World} {p : Option Addr} {L c n : Nat} (h : SL B w p (L + 1) c n) (hz : wd n L = 0) : SL B w p L c n :=
 ⟨trim_step n L h.1 hz, by have := h.2.1; omega, fun hL => by
  obtain ⟨b, o, e, hb, hc⟩ := h.2.2 (by omega)
  exact ⟨b, o, e, hb, fun k hk => hc k (by omega)⟩⟩
theorem SL.row {w : World} {b N X c : Nat} {T : TypeId} (r : w.heap[b]? = some (.cells (cw N X) T)) (B : Nat) (hB : b < B) (hX : X < 2 ^ (64 * N)) (hc : N ≤ c) : SL B w (some ⟨b, 0, none⟩) N c X :=
 ⟨hX, hc, fun _ => ⟨b, 0, rfl, hB, fun k hk => by rw [Nat.zero_add, cell_of_row w b k _ _ _ r, yS N X k hk]⟩⟩

def lenOf : Value → Nat | .slice _ k _ => k | _ => 0

theorem l_trim (w : World) (p : Option Addr) (L c n M B : Nat) (h : SL B w p L c n) (hL : L ≤ 100000) (hM : wl n = M) :
  Calls Tryz.prog 261 #[.slice p L c] w fun r w' => ∃ q d, r = .returned (.slice q M d) ∧ SL B w q M d n ∧ w' = w := by
 have HM := zH hM
 clear hM
 go_enter Tryz.func261, Tryz.ntmps261
 go_wp2
 go_loopw [0] (fun lv wr => ∃ k, lv = .slice p k c ∧ k ≤ L ∧ SL B w p k c n ∧ wr = w) (fun lv _ => lenOf lv)
 case atStart => exact ⟨L, rfl, Nat.le_refl _, h, rfl⟩
 case round =>
  obtain ⟨k, rfl, hk, hs, rfl⟩ := hrel
  by_cases h0 : k = 0
  ·
   subst h0
   have e : n = 0 := by have := hs.1; rw [Nat.mul_zero, Nat.pow_zero] at this; omega
   subst e
   have e2 := HM.out
   rw [wl_zero] at e2
   subst e2
   clear h
   go_wp2
   go_ret
   exact ⟨p, c, rfl, hs, rfl⟩
  ·
   obtain ⟨b, o, rfl, hb⟩ := hs.ptr (by omega)
   obtain ⟨K, rfl⟩ : ∃ K, k = K + 1 := ⟨k - 1, by omega⟩
   obtain ⟨x, hx⟩ : ∃ x, wd n K = x := ⟨_, rfl⟩
   have x64 : x < 18446744073709551616 := by rw [← hx]; exact yU _ _
   have c1 := hs.cell K x (by omega) hx
   have hc := hs.2.1
   have n1 : IntKind.i64.wrap (((K + 1 : Nat) : Int) - 1) = (K : Int) := by rw [zK _ (by omega) (by omega)]; omega
   have n2 : IntKind.i64.wrap ((K : Int) + 1 - 1) = (K : Int) := by rw [zK _ (by omega) (by omega)]; omega
   by_cases hx0 : x = 0
   ·
    subst hx0
    have S2 := zH (hs.cut hx)
    clear hx hs h
    go_wp2
    go_roundw
    case rel => exact ⟨K, rfl, by omega, S2.out, by first | rfl | trivial⟩
    case measure => simp [lenOf]
   ·
    have e : wl n = K + 1 := wl_is n (K + 1) hs.1 (Or.inr (by rw [Nat.add_sub_cancel, hx]; exact hx0))
    rw [HM.out] at e
    subst e
    have S2 := zH hs
    have d1 : decide (x = 0) = false := decide_eq_false hx0
    clear hx hs h
    go_wp2
    go_ret
    exact ⟨_, c, rfl, S2.out, rfl⟩

theorem l_bitLen (w : World) (p : Option Addr) (L c n l B : Nat) (h : SL B w p L c n) (hL : L ≤ 100000) (hM : wl n = L) (hl : z7 n = l) :
  Calls Tryz.prog 259 #[.slice p L c] w fun r w' => r = .returned (.int .i64 (l : Nat)) ∧ w' = w := by
 by_cases h0 : L = 0
 ·
  subst h0
  have e : n = 0 := wl_eq0 n hM
  subst e
  rw [blen_zero] at hl
  subst hl
  clear hM h
  go_enter Tryz.func259, Tryz.ntmps259
  go_wp2
  go_ret
  exact ⟨rfl, rfl⟩
 ·
  obtain ⟨b, o, rfl, hb⟩ := h.ptr (by omega)
  obtain ⟨K, rfl⟩ : ∃ K, L = K + 1 := ⟨L - 1, by omega⟩
  obtain ⟨x, hx⟩ : ∃ x, wd n K = x := ⟨_, rfl⟩
  obtain ⟨y, hy⟩ : ∃ y, Lib.bitLen x = y := ⟨_, rfl⟩
  have x64 : x < 18446744073709551616 := by rw [← hx]; exact yU _ _
  have c1 := h.cell K x (by omega) hx
  have hn : n ≠ 0 := fun e => by rw [e, wl_zero] at hM; omega
  have e := blen_wl n hn
  rw [hM, Nat.add_sub_cancel, hx, hl, ← qV x x64, hy] at e
  have hy64 : y ≤ 64 := by rw [← hy, qV x x64]; exact xL x 64 (by rw [← xK]; exact x64)
  have d1 : decide (K + 1 = 0) = false := decide_eq_false (by omega)
  have n1 : ((K + 1 : Nat) : Int) - 1 = (K : Int) := by omega
  have n2 : IntKind.i64.wrap ((K : Int) * 64) = (K : Int) * 64 := zK _ (by omega) (by omega)
  have n3 : IntKind.i64.wrap ((K : Int) * 64 + (y : Int)) = (l : Int) := by rw [zK _ (by omega) (by omega)]; omega
  have n4 : IntKind.i64.wrap (K : Int) = (K : Int) := zK _ (by omega) (by omega)
  have HY := zH hy
  clear hM hl hx hy h e hn
  go_enter Tryz.func259, Tryz.ntmps259
  go_wp2_with fail
  refine (len_any x x64 _).mono ?_
  rintro e w' ⟨rfl, rfl⟩
  rw [HY.out]
  go_wp2
  go_ret
  exact ⟨rfl, rfl⟩
theorem cw_made (L : Nat) : madeCells #[.int .u64 0] L = cw L 0 := by
 apply Array.ext_getElem?
 intro i
 by_cases h : i < L
 ·
  rw [yS L 0 i h, wd_zero]
  simp [madeCells, h, Nat.mod_one]
 ·
  rw [Array.getElem?_eq_none (by rw [size_madeCells]; omega), Array.getElem?_eq_none (by rw [yT]; omega)]
theorem qA (L : Nat) (k : Int) (hk : k = (L : Int)) (h : L ≤ 1000000) (w : World) : (Instr.makeSlice 238 (.int .i64 k) (.int .i64 k)).run Tryz.prog w = .ok (.slice (some ⟨w.heap.size, 0, none⟩) L L) (w.alloc (.cells (cw L 0) 23)) := by
 subst hk
 rw [← cw_made]
 exact run_make_row' (P := Tryz.prog) 238 23 (.int .u64 0) 8 Tryz.underlying238 (by kernel_rfl) rfl .i64 .i64 L (by omega) (by omega) w

theorem copy_row {w : World} {g N X : Nat} {T : TypeId} (r : w.heap[g]? = some (.cells (cw N X) T)) (p : Option Addr) (L c a B : Nat) (h : SL B w p L c a) (hL : L ≤ N) (hX : X = 0) (ts : TypeId) (ty : TypeId) :
  (Builtin.copy_ #[238, ts] ty #[.slice (some ⟨g, 0, none⟩) N N, .slice p L c]).run Tryz.prog w = .ok (goInt L) (w.setRow g (cw N a)) := by
 subst hX
 have hsz : (Tryz.prog.info? 23).map (·.size) = some 1 := by kernel_rfl
 by_cases h0 : L = 0
 ·
  subst h0
  have e : a = 0 := by have := h.1; rw [Nat.mul_zero, Nat.pow_zero] at this; omega
  subst e
  rw [setRow_self w g _ _ _ r]
  cases hq : Tryz.prog.info? 23 with
  | none => rw [hq] at hsz; simp at hsz
  | some i =>
   rcases p with _ | p
   ·
    simp [Builtin.copy_, run_underlying Tryz.underlying238, Builtin.lenOf, Builtin.firstCells, sizeOf, typeInfo, hq, storeCells]
   ·
    simp [Builtin.copy_, run_underlying Tryz.underlying238, Builtin.lenOf, Builtin.firstCells, sizeOf, typeInfo, hq, storeCells, loadCells, loadCellsFrom]
 ·
  obtain ⟨b, o, rfl, hb⟩ := h.ptr (by omega)
  have hlen : (cw L a).toList.length = L := by simp [yT]
  have hadd : ∀ j, (⟨b, o, none⟩ : Addr).add j = ⟨b, o + j, none⟩ := fun j => by unfold Addr.add; split <;> simp_all
  have hrun := run_copy_row (P := Tryz.prog) w 238 ts ty 23 g 0 N N ⟨b, o, none⟩ L c (cw N 0) T (cw L a).toList Tryz.underlying238 hsz r (by rw [hlen]; exact (Nat.min_eq_left hL).symm)
   (fun j v hv => by
    have hj : j < L := by
     have := (List.getElem?_eq_some_iff.1 hv).1
     rwa [hlen] at this
    rw [hadd, h.cell j _ hj rfl, ← hv, Array.getElem?_toList, yS L a j hj]) (by rw [hlen, yT]; omega)
   (fun v hv => (Array.all_eq_true_iff_forall_mem.1 (cw_oneCell L a)) v (by simpa using hv))
  have e : ((cw N 0).toList.take 0 ++ (cw L a).toList ++ (cw N 0).toList.drop (0 + L)).toArray = cw N a := by
   apply Array.ext_getElem?
   intro k
   by_cases hk : k < N
   ·
    rw [yS N a k hk]
    simp only [List.take_zero, List.nil_append, Nat.zero_add, List.getElem?_toArray]
    rw [List.getElem?_append, hlen]
    by_cases hk2 : k < L
    ·
     rw [if_pos hk2, Array.getElem?_toList, yS L a k hk2]
    ·
     rw [if_neg hk2, List.getElem?_drop, Array.getElem?_toList, show L + (k - L) = k by omega, yS N 0 k hk, wd_zero, wd_high h.1 (by omega)]
   ·
    rw [Array.getElem?_eq_none (by simp [yT]; omega), Array.getElem?_eq_none (by rw [yT]; omega)]
  rw [hlen, e] at hrun
  exact hrun

theorem putw_whole (X N S : Nat) (hX : X < 2 ^ (64 * N)) : xR X 0 N S = S := by
 rw [putw_top X 0 N S (by rw [Nat.zero_add]; exact hX), Nat.mul_zero, Nat.pow_zero, Nat.mod_one]
 omega

theorem l_sum (w : World) (p q : Option Addr) (L c a M d b B K : Nat) (ha : SL B w p L c a) (hb : SL B w q M d b) (hB : B ≤ w.heap.size) (hL : L ≤ 50000) (hM : M ≤ 50000) (hK : wl (a + b) = K) :
  Calls Tryz.prog 254 #[.slice p L c, .slice q M d] w fun r w' => ∃ u e, r = .returned (.slice u K e) ∧ SL w'.heap.size w' u K e (a + b) ∧ Below w.heap.size w w' := by
 obtain ⟨n, hn⟩ : ∃ n, max L M = n := ⟨_, rfl⟩
 obtain ⟨N, hN⟩ : ∃ N, n + 1 = N := ⟨_, rfl⟩
 have hmk := qA N ((n : Int) + 1) (by omega) (by omega)
 have hcase : (L < M ∧ M = n) ∨ ((L < M) = False ∧ L = n) := by
  by_cases h : L < M
  ·
   left; exact ⟨h, by omega⟩
  ·
   right; exact ⟨eq_false h, by omega⟩
 have r0 : (w.alloc (.cells (cw N 0) 23)).heap[w.heap.size]? = some (.cells (cw N 0) 23) := heap_alloc_last _ _
 have b0 : Below w.heap.size w (w.alloc (.cells (cw N 0) 23)) := (Below.refl _ _).alloc (Nat.le_refl _) _
 have hcp := copy_row r0 p L c a B (ha.below b0 hB) (by omega) rfl 238 3
 obtain ⟨W1, hW1⟩ : ∃ W1, (w.alloc (.cells (cw N 0) 23)).setRow w.heap.size (cw N a) = W1 := ⟨_, rfl⟩
 rw [hW1] at hcp
 have r1 : W1.heap[w.heap.size]? = some (.cells (cw N a) 23) := by rw [← hW1]; exact yL r0
 have b1 : Below w.heap.size w W1 := by rw [← hW1]; exact Below.setRow b0 (Nat.le_refl _)
 have sb := hb.below b1 hB
 have aN : a < 2 ^ (64 * n) := Nat.lt_of_lt_of_le ha.1 (yV _ _ (by omega))
 have bN : b < 2 ^ (64 * n) := Nat.lt_of_lt_of_le hb.1 (yV _ _ (by omega))
 have aN2 : a < 2 ^ (64 * N) := Nat.lt_of_lt_of_le aN (yV _ _ (by omega))
 have abN : a + b < 2 ^ (64 * N) := by rw [← hN, pow64]; omega
 have A1 : zS (b * 1 < 2 ^ (64 * N)) := zH (by omega)
 have A2 := zH (vw_all a N aN2)
 have A3 : zS ((a + b * 1) % 2 ^ (64 * N) = a + b) := zH (by rw [Nat.mul_one, Nat.mod_eq_of_lt abN])
 have A4 := zH (putw_whole a N (a + b) aN2)
 have A5 := zH abN
 have HK := zH hK
 have hM2 : M ≤ N := by omega
 have hN2 : N ≤ 100000 := by omega
 clear hn r0 b0 hW1 aN bN aN2 abN ha hb hK
 rcases hcase with ⟨h1, hn⟩ | ⟨h1, hn⟩
 all_goals
  subst hn
  go_enter Tryz.func254, Tryz.ntmps254
  go_wp2_with fail
  refine (l_addTo W1 w.heap.size 0 N N N a 23 r1 (by omega) q M d b B sb hB 1 (by decide) hN2 hM2 A1.out a (a + b) _ A2.out A3.out rfl).mono ?_
  rintro e w2 ⟨rfl, r2, ho2⟩
  rw [A4.out] at r2
  have b2 : Below w.heap.size w w2 := ho2.toBelow b1 (Nat.le_refl _) b1.size
  have s2 : SL w2.heap.size w2 (some ⟨w.heap.size, 0, none⟩) N N (a + b) := SL.row r2 _ (Array.getElem?_eq_some_iff.1 r2).1 A5.out (Nat.le_refl _)
  clear hcp
  go_wp2_with fail
  refine (l_trim w2 _ N N (a + b) K _ s2 hN2 HK.out).mono ?_
  rintro e w3 ⟨u, v, rfl, s3, rfl⟩
  go_wp2
  go_ret
  exact ⟨u, v, rfl, s3, b2⟩
theorem l_diff_ok (w : World) (p q : Option Addr) (L c a M d b B K : Nat) (ha : SL B w p L c a) (hb : SL B w q M d b) (hB : B ≤ w.heap.size) (hL : L ≤ 50000) (hM : M ≤ 50000) (hba : b ≤ a) (hK : wl (a - b) = K) :
  Calls Tryz.prog 262 #[.slice p L c, .slice q M d] w fun r w' => ∃ u e, r = .returned (.tuple #[.slice u K e, .bool false]) ∧ SL w'.heap.size w' u K e (a - b) ∧ Below w.heap.size w w' := by
 obtain ⟨N, hN⟩ : ∃ N, max L M = N := ⟨_, rfl⟩
 have hcase : (L < M ∧ M = N) ∨ ((L < M) = False ∧ L = N) := by
  by_cases h : L < M
  ·
   left; exact ⟨h, by omega⟩
  ·
   right; exact ⟨eq_false h, by omega⟩
 have r0 : (w.alloc (.cells (cw N 0) 23)).heap[w.heap.size]? = some (.cells (cw N 0) 23) := heap_alloc_last _ _
 have b0 : Below w.heap.size w (w.alloc (.cells (cw N 0) 23)) := (Below.refl _ _).alloc (Nat.le_refl _) _
 have hcp := copy_row r0 p L c a B (ha.below b0 hB) (by omega) rfl 238 3
 obtain ⟨W1, hW1⟩ : ∃ W1, (w.alloc (.cells (cw N 0) 23)).setRow w.heap.size (cw N a) = W1 := ⟨_, rfl⟩
 rw [hW1] at hcp
 have r1 : W1.heap[w.heap.size]? = some (.cells (cw N a) 23) := by rw [← hW1]; exact yL r0
 have b1 : Below w.heap.size w W1 := by rw [← hW1]; exact Below.setRow b0 (Nat.le_refl _)
 have sb := hb.below b1 hB
 have aN : a < 2 ^ (64 * N) := Nat.lt_of_lt_of_le ha.1 (yV _ _ (by omega))
 have bN : b < 2 ^ (64 * N) := Nat.lt_of_lt_of_le hb.1 (yV _ _ (by omega))
 have aN2 := aN
 have abN : a - b < 2 ^ (64 * N) := by omega
 have bN2 : b < 2 ^ (64 * N) := by omega
 have A1 : zS (b * 1 < 2 ^ (64 * N)) := zH (by omega)
 have A2 := zH (vw_all a N aN2)
 have A3 : zS (decide (a < b * 1) = false) := zH (decide_eq_false (by omega))
 have A6 : zS (a - b + b * 1 = a + 2 ^ (64 * N) * false.toNat) := zH (by rw [Bool.toNat_false]; omega)
 have A4 := zH (putw_whole a N (a - b) aN2)
 have A5 := zH abN
 have HK := zH hK
 have hM2 : M ≤ N := by omega
 have hN2 : N ≤ 100000 := by omega
 clear hN r0 b0 hW1 aN bN aN2 abN bN2 ha hb hK
 rcases hcase with ⟨h1, hn⟩ | ⟨h1, hn⟩
 ·
  have hmk := qA N (M : Int) (by omega) (by omega)
  clear hn
  go_enter Tryz.func262, Tryz.ntmps262
  go_wp2_with fail
  refine (l_takeFrom W1 w.heap.size 0 N N N a 23 r1 (by omega) q M d b B sb hB 1 (by decide) hN2 hM2 A1.out a (a - b) false A2.out A3.out A6.out).mono ?_
  rintro e w2 ⟨rfl, r2, ho2⟩
  rw [A4.out] at r2
  have b2 : Below w.heap.size w w2 := ho2.toBelow b1 (Nat.le_refl _) b1.size
  have s2 : SL w2.heap.size w2 (some ⟨w.heap.size, 0, none⟩) N N (a - b) := SL.row r2 _ (Array.getElem?_eq_some_iff.1 r2).1 A5.out (Nat.le_refl _)
  clear hcp
  go_wp2_with fail
  refine (l_trim w2 _ N N (a - b) K _ s2 hN2 HK.out).mono ?_
  rintro e w3 ⟨u, v, rfl, s3, rfl⟩
  go_wp2
  go_ret2
  exact ⟨u, v, rfl, s3, b2⟩
 ·
  have hmk := qA N (L : Int) (by omega) (by omega)
  clear hn
  go_enter Tryz.func262, Tryz.ntmps262
  go_wp2_with fail
  refine (l_takeFrom W1 w.heap.size 0 N N N a 23 r1 (by omega) q M d b B sb hB 1 (by decide) hN2 hM2 A1.out a (a - b) false A2.out A3.out A6.out).mono ?_
  rintro e w2 ⟨rfl, r2, ho2⟩
  rw [A4.out] at r2
  have b2 : Below w.heap.size w w2 := ho2.toBelow b1 (Nat.le_refl _) b1.size
  have s2 : SL w2.heap.size w2 (some ⟨w.heap.size, 0, none⟩) N N (a - b) := SL.row r2 _ (Array.getElem?_eq_some_iff.1 r2).1 A5.out (Nat.le_refl _)
  clear hcp
  go_wp2_with fail
  refine (l_trim w2 _ N N (a - b) K _ s2 hN2 HK.out).mono ?_
  rintro e w3 ⟨u, v, rfl, s3, rfl⟩
  go_wp2
  go_ret2
  exact ⟨u, v, rfl, s3, b2⟩

theorem l_diff_no (w : World) (p q : Option Addr) (L c a M d b B : Nat) (ha : SL B w p L c a) (hb : SL B w q M d b) (hB : B ≤ w.heap.size) (hL : L ≤ 50000) (hM : M ≤ 50000) (hba : a < b) :
  Calls Tryz.prog 262 #[.slice p L c, .slice q M d] w fun r w' => r = .returned (.tuple #[.slice none 0 0, .bool true]) ∧ Below w.heap.size w w' := by
 obtain ⟨N, hN⟩ : ∃ N, max L M = N := ⟨_, rfl⟩
 have hcase : (L < M ∧ M = N) ∨ ((L < M) = False ∧ L = N) := by
  by_cases h : L < M
  ·
   left; exact ⟨h, by omega⟩
  ·
   right; exact ⟨eq_false h, by omega⟩
 have r0 : (w.alloc (.cells (cw N 0) 23)).heap[w.heap.size]? = some (.cells (cw N 0) 23) := heap_alloc_last _ _
 have b0 : Below w.heap.size w (w.alloc (.cells (cw N 0) 23)) := (Below.refl _ _).alloc (Nat.le_refl _) _
 have hcp := copy_row r0 p L c a B (ha.below b0 hB) (by omega) rfl 238 3
 obtain ⟨W1, hW1⟩ : ∃ W1, (w.alloc (.cells (cw N 0) 23)).setRow w.heap.size (cw N a) = W1 := ⟨_, rfl⟩
 rw [hW1] at hcp
 have r1 : W1.heap[w.heap.size]? = some (.cells (cw N a) 23) := by rw [← hW1]; exact yL r0
 have b1 : Below w.heap.size w W1 := by rw [← hW1]; exact Below.setRow b0 (Nat.le_refl _)
 have sb := hb.below b1 hB
 have aN : a < 2 ^ (64 * N) := Nat.lt_of_lt_of_le ha.1 (yV _ _ (by omega))
 have bN : b < 2 ^ (64 * N) := Nat.lt_of_lt_of_le hb.1 (yV _ _ (by omega))
 have aN2 := aN
 have bN2 : b < 2 ^ (64 * N) := by omega
 have A1 : zS (b * 1 < 2 ^ (64 * N)) := zH (by omega)
 have A2 := zH (vw_all a N aN2)
 have A3 : zS (decide (a < b * 1) = true) := zH (decide_eq_true (by omega))
 have A6 : zS (a + 2 ^ (64 * N) - b + b * 1 = a + 2 ^ (64 * N) * true.toNat) := zH (by rw [Bool.toNat_true]; omega)
 have hM2 : M ≤ N := by omega
 have hN2 : N ≤ 100000 := by omega
 clear hN r0 b0 hW1 aN bN aN2 bN2 ha hb
 rcases hcase with ⟨h1, hn⟩ | ⟨h1, hn⟩
 ·
  have hmk := qA N (M : Int) (by omega) (by omega)
  clear hn
  go_enter Tryz.func262, Tryz.ntmps262
  go_wp2_with fail
  refine (l_takeFrom W1 w.heap.size 0 N N N a 23 r1 (by omega) q M d b B sb hB 1 (by decide) hN2 hM2 A1.out a (a + 2 ^ (64 * N) - b) true A2.out A3.out A6.out).mono ?_
  rintro e w2 ⟨rfl, r2, ho2⟩
  have b2 : Below w.heap.size w w2 := ho2.toBelow b1 (Nat.le_refl _) b1.size
  clear hcp
  go_wp2
  go_ret2
  exact ⟨rfl, b2⟩
 ·
  have hmk := qA N (L : Int) (by omega) (by omega)
  clear hn
  go_enter Tryz.func262, Tryz.ntmps262
  go_wp2_with fail
  refine (l_takeFrom W1 w.heap.size 0 N N N a 23 r1 (by omega) q M d b B sb hB 1 (by decide) hN2 hM2 A1.out a (a + 2 ^ (64 * N) - b) true A2.out A3.out A6.out).mono ?_
  rintro e w2 ⟨rfl, r2, ho2⟩
  have b2 : Below w.heap.size w w2 := ho2.toBelow b1 (Nat.le_refl _) b1.size
  clear hcp
  go_wp2
  go_ret2
  exact ⟨rfl, b2⟩
def cmpi (x y : Int) : Int := if x < y then -1 else if y < x then 1 else 0
theorem cmpi_nat (a b : Nat) : cmpi a b = xY a b := by
 unfold cmpi xY
 by_cases h : a = b
 ·
  subst h; simp
 ·
  by_cases h2 : a < b
  ·
   rw [if_pos (by omega), if_neg h, if_pos h2]
  ·
   rw [if_neg (by omega), if_pos (by omega), if_neg h, if_neg h2]
theorem cmpi_case (x y : Int) (c : Int) (hc : cmpi x y = c) : (decide (x < y) = true ∧ c = -1) ∨ (decide (x < y) = false ∧ decide (y < x) = true ∧ c = 1) ∨ (decide (x < y) = false ∧ decide (y < x) = false ∧ c = 0) := by
 unfold cmpi at hc
 by_cases h : x < y
 ·
  rw [if_pos h] at hc; exact Or.inl ⟨decide_eq_true h, hc.symm⟩
 ·
  rw [if_neg h] at hc
  by_cases h2 : y < x
  ·
   rw [if_pos h2] at hc; exact Or.inr (Or.inl ⟨decide_eq_false h, decide_eq_true h2, hc.symm⟩)
  ·
   rw [if_neg h2] at hc; exact Or.inr (Or.inr ⟨decide_eq_false h, decide_eq_false h2, hc.symm⟩)

theorem nan_int (x : Int) (w : World) : Calls Tryz.prog 219 #[.int .i64 x] w fun r w' => r = .returned (.bool false) ∧ w' = w := by
 go_enter Tryz.func219, Tryz.ntmps219
 go_wp2
 go_ret
 exact ⟨rfl, rfl⟩
theorem cmp_int (x y : Int) (c : Int) (hc : cmpi x y = c) (w : World) : Calls Tryz.prog 137 #[.int .i64 x, .int .i64 y] w fun r w' => r = .returned (.int .i64 c) ∧ w' = w := by
 have hcase := cmpi_case x y c hc
 clear hc
 rcases hcase with ⟨h1, rfl⟩ | ⟨h1, h2, rfl⟩ | ⟨h1, h2, rfl⟩
 all_goals
  go_enter Tryz.func137, Tryz.ntmps137
  go_wp2_with fail
  refine (nan_int x _).mono ?_
  rintro e w' ⟨rfl, rfl⟩
  go_wp2_with fail
  refine (nan_int y _).mono ?_
  rintro e w' ⟨rfl, rfl⟩
  go_wp2
  go_ret
  exact ⟨rfl, rfl⟩
theorem nan_word (x : Int) (w : World) : Calls Tryz.prog 332 #[.int .u64 x] w fun r w' => r = .returned (.bool false) ∧ w' = w := by
 go_enter Tryz.func332, Tryz.ntmps332
 go_wp2
 go_ret
 exact ⟨rfl, rfl⟩
theorem cmp_word (x y : Int) (c : Int) (hc : cmpi x y = c) (w : World) : Calls Tryz.prog 326 #[.int .u64 x, .int .u64 y] w fun r w' => r = .returned (.int .i64 c) ∧ w' = w := by
 have hcase := cmpi_case x y c hc
 clear hc
 rcases hcase with ⟨h1, rfl⟩ | ⟨h1, h2, rfl⟩ | ⟨h1, h2, rfl⟩
 all_goals
  go_enter Tryz.func326, Tryz.ntmps326
  go_wp2_with fail
  refine (nan_word x _).mono ?_
  rintro e w' ⟨rfl, rfl⟩
  go_wp2_with fail
  refine (nan_word y _).mono ?_
  rintro e w' ⟨rfl, rfl⟩
  go_wp2
  go_ret
  exact ⟨rfl, rfl⟩

theorem div_wd (a i : Nat) : a / 2 ^ (64 * i) = 18446744073709551616 * (a / 2 ^ (64 * (i + 1))) + wd a i := by
 unfold wd
 rw [pow64, ← Nat.div_div_eq_div_mul]
 omega
theorem hi_lt (a b i : Nat) (h : a / 2 ^ (64 * (i + 1)) = b / 2 ^ (64 * (i + 1))) (hw : wd a i < wd b i) : a < b := by
 have h1 := div_wd a i
 have h2 := div_wd b i
 by_cases e : a < b
 ·
  exact e
 ·
  have := Nat.div_le_div_right (c := 2 ^ (64 * i)) (show b ≤ a by omega)
  omega
theorem cmpv_lt (a b : Nat) (h : a < b) : xY a b = -1 := by unfold xY; rw [if_neg (by omega), if_pos h]
theorem cmpv_gt (a b : Nat) (h : b < a) : xY a b = 1 := by unfold xY; rw [if_neg (by omega), if_neg (by omega)]
theorem cmpv_hi (a b i : Nat) (h : a / 2 ^ (64 * (i + 1)) = b / 2 ^ (64 * (i + 1))) (hw : wd a i ≠ wd b i) : xY (wd a i) (wd b i) = xY a b := by
 by_cases e : wd a i < wd b i
 ·
  rw [cmpv_lt _ _ e, cmpv_lt a b (hi_lt a b i h e)]
 ·
  rw [cmpv_gt _ _ (show wd b i < wd a i by omega), cmpv_gt a b (hi_lt b a i h.symm (by omega))]

theorem l_compare (w : World) (p q : Option Addr) (L c a M d b B B2 : Nat) (k : Int) (ha : SL B w p L c a) (hb : SL B2 w q M d b) (hL : L ≤ 50000) (hM : M ≤ 50000) (la : wl a = L) (lb : wl b = M) (hB : B ≤ w.heap.size) (hB2 : B2 ≤ w.heap.size) (hk : xY a b = k) :
  Calls Tryz.prog 319 #[.slice p L c, .slice q M d] w fun r w' => r = .returned (.int .i64 k) ∧ Below w.heap.size w w' := by
 by_cases h : L = M
 ·
  subst h
  have K := zH hk
  have AL := zH ha.1
  have BL := zH hb.1
  have dn : ((L : Int) != (L : Int)) = false := by simp
  clear hk la lb hM
  have n0 : IntKind.i64.wrap ((L : Int) - 1) = (L : Int) - 1 := zK _ (by omega) (by omega)
  go_enter Tryz.func319, Tryz.ntmps319
  go_wp2
  go_loopw [5] (fun iv wr => ∃ i : Nat, i ≤ L ∧ iv = .int .i64 ((i : Int) - 1) ∧ Below w.heap.size w wr ∧ zS (a / 2 ^ (64 * i) = b / 2 ^ (64 * i))) (fun iv _ => (intOf iv + 1).toNat)
  case atStart => exact ⟨L, Nat.le_refl _, rfl, Below.refl _ _, zH (by rw [Nat.div_eq_of_lt AL.out, Nat.div_eq_of_lt BL.out])⟩
  case round =>
   obtain ⟨i, hi, rfl, hbw, HE⟩ := hrel
   by_cases h0 : i = 0
   ·
    subst h0
    have e : a = b := by simpa using HE.out
    subst e
    have e2 : k = 0 := by rw [← K.out]; unfold xY; rw [if_pos rfl]
    subst e2
    go_wp2
    go_ret
    exact ⟨rfl, hbw⟩
   ·
    obtain ⟨j, rfl⟩ : ∃ j, i = j + 1 := ⟨i - 1, by omega⟩
    obtain ⟨ba, oa, rfl, _⟩ := ha.ptr (by omega)
    obtain ⟨bb, ob, rfl, _⟩ := hb.ptr (by omega)
    obtain ⟨x, hx⟩ : ∃ x, wd a j = x := ⟨_, rfl⟩
    obtain ⟨y, hy⟩ : ∃ y, wd b j = y := ⟨_, rfl⟩
    have c1 := (ha.below hbw hB).cell j x (by omega) hx
    have c2 := (hb.below hbw hB2).cell j y (by omega) hy
    have ej : (((j + 1 : Nat) : Int) - 1) = (j : Int) := by omega
    rw [ej]
    have hjL : j < L := by omega
    have hji : (j : Int) < (L : Int) := by omega
    have n1 : IntKind.i64.wrap ((j : Int) - 1) = (j : Int) - 1 := zK _ (by omega) (by omega)
    have SA := zH ha
    have SB := zH hb
    by_cases hxy : x = y
    ·
     have NE : zS (a / 2 ^ (64 * j) = b / 2 ^ (64 * j)) := zH (by rw [div_wd, div_wd b, HE.out, hx, hy, hxy])
     subst hxy
     clear hx hy ha hb HE ej
     go_wp2
     go_quiet (fail)
     go_wp2
     go_roundw
     case rel => exact ⟨j, by omega, by first | rfl | go_num, below_drewN hbw _, NE⟩
     case measure => simp [intOf]
    ·
     have E : zS (cmpi x y = k) := zH (by rw [cmpi_nat, ← K.out, ← hx, ← hy]; exact cmpv_hi a b j HE.out (by rw [hx, hy]; exact hxy))
     have dn2 : ((x : Int) != (y : Int)) = true := by simp; omega
     have hxy2 : ¬ (x : Int) = (y : Int) := by omega
     clear hx hy ha hb HE ej
     go_wp2
     go_quiet (fail)
     go_wp2
     go_quiet ((go_at_call 326; exact (cmp_word _ _ k E.out _).mono (fun _ _ h => ⟨h.1, _, h.2⟩)))
     go_wp2
     go_ret
     exact ⟨rfl, below_drewN (below_drewN hbw _) _⟩
 ·
  have hne : ((L : Int) != (M : Int)) = true := by simp; omega
  have e : cmpi (L : Int) (M : Int) = k := by
   rw [cmpi_nat, ← hk]
   by_cases h2 : L < M
   ·
    rw [cmpv_lt _ _ h2, cmpv_lt a b (wl_lt_of a b (by omega))]
   ·
    rw [cmpv_gt _ _ (show M < L by omega), cmpv_gt a b (wl_lt_of b a (by omega))]
  have E := zH e
  clear e hk la lb ha hb
  go_enter Tryz.func319, Tryz.ntmps319
  go_wp2_with fail
  refine (cmp_int _ _ k E.out _).mono ?_
  rintro e w' ⟨rfl, rfl⟩
  go_wp2
  go_ret
  exact ⟨rfl, Below.refl _ _⟩
theorem prod_step (a b i M X x V : Nat) (hb : b < 2 ^ (64 * M)) (hX : X = (a % 2 ^ (64 * i)) * b) (hx : wd a i = x) (hV : vw X i (M + 1) = V) :
  X < 2 ^ (64 * (i + (M + 1))) ∧ (V + b * x) < 2 ^ (64 * (M + 1)) ∧ b * x < 2 ^ (64 * (M + 1)) ∧ xR X i (M + 1) (V + b * x) = (a % 2 ^ (64 * (i + 1))) * b := by
 have ha := Nat.mod_lt a (Nat.two_pow_pos (64 * i))
 have hx64 : x < 18446744073709551616 := by rw [← hx]; exact yU _ _
 have hbx : b * x ≤ 2 ^ (64 * M) * 18446744073709551615 := Nat.mul_le_mul (Nat.le_of_lt hb) (by omega)
 have h1 : X < 2 ^ (64 * (i + M)) := by
  rw [hX, pow_oL]
  by_cases e : b = 0
  ·
   rw [e, Nat.mul_zero]; exact Nat.mul_pos (Nat.two_pow_pos _) (Nat.two_pow_pos _)
  ·
   exact Nat.mul_lt_mul_of_lt_of_le ha (Nat.le_of_lt hb) (Nat.two_pow_pos _)
 have h2 : X < 2 ^ (64 * (i + (M + 1))) := Nat.lt_of_lt_of_le h1 (yV _ _ (by omega))
 have h3 : V = X / 2 ^ (64 * i) := by rw [← hV]; exact vw_top X i (M + 1) h2
 have h4 : V < 2 ^ (64 * M) := by rw [h3]; exact Nat.div_lt_of_lt_mul (by rw [← pow_oL]; exact h1)
 refine ⟨h2, by rw [pow64]; omega, by rw [pow64]; have := Nat.two_pow_pos (64 * M); omega, ?_⟩
 rw [putw_top X i (M + 1) _ h2, qZ, hx, Nat.add_mul, ← hX, h3, Nat.mul_add]
 have := Nat.div_add_mod X (2 ^ (64 * i))
 rw [Nat.mul_comm b x, Nat.mul_assoc]
 omega

theorem l_product (w : World) (p q : Option Addr) (L c a M d b B K : Nat) (ha : SL B w p L c a) (hb : SL B w q M d b) (hB : B ≤ w.heap.size) (hL : L ≤ 40000) (hM : M ≤ 40000) (hK : wl (a * b) = K) :
  Calls Tryz.prog 212 #[.slice p L c, .slice q M d] w fun r w' => ∃ u e, r = .returned (.slice u K e) ∧ SL w'.heap.size w' u K e (a * b) ∧ Below w.heap.size w w' := by
 obtain ⟨N, hN⟩ : ∃ N, L + M = N := ⟨_, rfl⟩
 have hmk := qA N ((L : Int) + (M : Int)) (by omega) (by omega)
 have r0 : (w.alloc (.cells (cw N 0) 23)).heap[w.heap.size]? = some (.cells (cw N 0) 23) := heap_alloc_last _ _
 have b0 : Below w.heap.size w (w.alloc (.cells (cw N 0) 23)) := (Below.refl _ _).alloc (Nat.le_refl _) _
 have HK := zH hK
 have AL := zH ha.1
 have BL := zH hb.1
 have hN2 : N ≤ 80000 := by omega
 have n1 : IntKind.i64.wrap ((L : Int) + (M : Int)) = (L : Int) + (M : Int) := zK _ (by omega) (by omega)
 clear hK
 go_enter Tryz.func212, Tryz.ntmps212
 go_wp2
 clear hmk n1
 obtain ⟨g, hg⟩ : ∃ g, w.heap.size = g := ⟨_, rfl⟩
 rw [hg] at r0 b0 hB ⊢
 go_loopw [16] (fun iv wr => ∃ (i X : Nat), i ≤ L ∧ iv = .int .i64 i ∧ wr.heap[g]? = some (.cells (cw N X) 23) ∧ Below g w wr ∧ zS (X = (a % 2 ^ (64 * i)) * b)) (fun iv _ => L - (intOf iv).toNat)
 case atStart => exact ⟨0, 0, by omega, rfl, r0, b0, zH (by simp [Nat.mod_one])⟩
 case round =>
  clear r0 b0
  obtain ⟨i, X, hi, rfl, r1, hbw, HX⟩ := hrel
  by_cases hlt : i < L
  ·
   obtain ⟨bp, op, rfl, _⟩ := ha.ptr (by omega)
   obtain ⟨x, hx⟩ : ∃ x, wd a i = x := ⟨_, rfl⟩
   obtain ⟨V, hV⟩ : ∃ V, vw X i (M + 1) = V := ⟨_, rfl⟩
   have x64 : x < 18446744073709551616 := by rw [← hx]; exact yU _ _
   have c1 := (ha.below hbw (by omega)).cell i x hlt hx
   have sb := hb.below hbw (by omega)
   obtain ⟨p1, p2, p3, p4⟩ := prod_step a b i M X x V BL.out HX.out hx hV
   have A1 := zH hV
   have A2 : zS ((V + b * x) % 2 ^ (64 * (M + 1)) = V + b * x) := zH (Nat.mod_eq_of_lt p2)
   have A3 := zH p3
   have A4 := zH p4
   have dl : decide (i < L) = true := decide_eq_true hlt
   have hbs : g ≤ wr.heap.size := by have := hbw.size; omega
   have hfit : i + (M + 1) ≤ N := by omega
   clear hx hV p1 p2 p3 p4 HX
   go_wp2_with fail
   rw [show i + M + 1 - i = M + 1 by omega]
   refine (l_addTo wr g i (M + 1) (N - i) N X 23 r1 hfit q M d b B sb hB x x64 (by omega) (by omega) A3.out V (V + b * x) _ A1.out A2.out rfl).mono ?_
   rintro e w2 ⟨rfl, r2, ho2⟩
   rw [A4.out] at r2
   have b2 : Below g w w2 := ho2.toBelow hbw (Nat.le_refl _) hbs
   go_wp2
   go_roundw
   case rel => exact ⟨i + 1, _, by omega, by go_num, r2, b2, zH rfl⟩
   case measure => simp [intOf] <;> omega
  ·
   obtain rfl : i = L := by omega
   have e := HX.out
   rw [Nat.mod_eq_of_lt AL.out] at e
   subst e
   have s2 : SL wr.heap.size wr (some ⟨g, 0, none⟩) N N (a * b) := SL.row r1 _ (Array.getElem?_eq_some_iff.1 r1).1 (by
    rw [← hN, pow_oL]
    by_cases e : b = 0
    ·
     rw [e, Nat.mul_zero]; exact Nat.mul_pos (Nat.two_pow_pos _) (Nat.two_pow_pos _)
    ·
     exact Nat.mul_lt_mul_of_lt_of_le AL.out (Nat.le_of_lt BL.out) (Nat.two_pow_pos _)) (Nat.le_refl _)
   have dl : decide (i < i) = false := by rw [decide_eq_false_iff_not]; omega
   go_wp2_with fail
   refine (l_trim wr _ N N (a * b) K _ s2 (by omega) HK.out).mono ?_
   rintro e w3 ⟨u, v, rfl, s3, rfl⟩
   go_wp2
   go_ret
   exact ⟨u, v, rfl, s3, by rw [hg]; exact hbw⟩
theorem cnt_is (k : Nat) (h : k ≤ 64) : cnt (k : Int) = k := by unfold cnt; omega
theorem l_left (x k v : Nat) (hk : k ≤ 64) (hv : x * 2 ^ k % 18446744073709551616 = v) (w : World) :
  Calls Tryz.prog 244 #[.int .u64 x, .int .i64 (k : Nat)] w fun e w' => e = .returned (.int .u64 v) ∧ w' = w := by
 have := left_any x (k : Int) w
 rwa [cnt_is k hk, hv] at this
theorem l_right (x k v : Nat) (hk : k ≤ 64) (hv : x / 2 ^ k = v) (w : World) :
  Calls Tryz.prog 245 #[.int .u64 x, .int .i64 (k : Nat)] w fun e w' => e = .returned (.int .u64 v) ∧ w' = w := by
 have := right_any x (k : Int) w
 rwa [cnt_is k hk, hv] at this
theorem idx_runN (s : ByteArray) (k : Nat) (i : Int) (d : Nat) (hi : i = (k : Int)) (hk : k < s.size) (hd : (s[k]'hk).toNat = d) (w : World) :
  (Instr.index 39 (.string s) (.int .i64 i)).run Tryz.prog w = .ok (.int .u8 d) w := by
 subst hi hd
 rw [run_index_string (P := Tryz.prog) w 39 s _ _ Tryz.underlying39, dif_pos ⟨by omega, by omega⟩]
 simp

def hiB (n p : Nat) : Nat := n / 2 ^ (8 * p) * 2 ^ (8 * p)
theorem hiB_step (n p x : Nat) (hx : d8 n p = x) : hiB n p = hiB n (p + 1) ||| x * 2 ^ (8 * (p % 8)) * 2 ^ (64 * (p / 8)) := by
 have e : n / 2 ^ (8 * p) = 256 * (n / 2 ^ (8 * (p + 1))) + x := by
  rw [← hx, pow8, ← Nat.div_div_eq_div_mul]
  unfold d8
  omega
 have x256 : x < 256 := by rw [← hx]; exact qD _ _
 unfold hiB
 rw [e, Nat.mul_assoc x, ← Nat.pow_add, show 8 * (p % 8) + 64 * (p / 8) = 8 * p by omega, Nat.or_comm, ← or_disj _ _ _ (show x * 2 ^ (8 * p) < 2 ^ (8 * (p + 1)) by
  rw [pow8, Nat.mul_comm]; exact Nat.mul_lt_mul_of_pos_left x256 (Nat.two_pow_pos _)), Nat.add_mul, pow8, Nat.mul_comm (2 ^ (8 * p)) 256, ← Nat.mul_assoc, Nat.mul_comm 256]
 omega
theorem hiB_zero (n : Nat) : hiB n 0 = n := by unfold hiB; simp
theorem hiB_top (n L : Nat) (h : n < 2 ^ (8 * L)) : hiB n L = 0 := by unfold hiB; rw [Nat.div_eq_of_lt h, Nat.zero_mul]
theorem byte_sh (x r : Nat) (hx : x < 256) (hr : r < 8) : x * 2 ^ (8 * r) < 18446744073709551616 := by
 have h1 : x * 2 ^ (8 * r) < 256 * 2 ^ (8 * r) := Nat.mul_lt_mul_of_pos_right hx (Nat.two_pow_pos _)
 have h2 : 256 * 2 ^ (8 * r) = 2 ^ (8 * (r + 1)) := by rw [pow8, Nat.mul_comm]
 have h3 : 2 ^ (8 * (r + 1)) ≤ 2 ^ 64 := Nat.pow_le_pow_right (by decide) (by omega)
 rw [← xK] at h3
 omega

theorem y9 (n K : Nat) (s : ByteArray) (hs : yG n = s) (hn : nl n ≤ 100000) (hK : wl n = K) (w : World) :
  Calls Tryz.prog 213 #[.string s] w fun r w' => ∃ u e, r = .returned (.slice u K e) ∧ SL w'.heap.size w' u K e n ∧ Below w.heap.size w w' := by
 obtain ⟨L, hL⟩ : ∃ L, nl n = L := ⟨_, rfl⟩
 have hz : s.size = L := by rw [← hs, yE, hL]
 have hKL : K = (L + 7) / 8 := by rw [← hK, wl_nl, hL]
 rw [hL] at hn
 have n1 : IntKind.i64.wrap ((L : Int) + 8) = (L : Int) + 8 := zK _ (by omega) (by omega)
 have n2 : IntKind.i64.wrap ((L : Int) + 8 - 1) = (L : Int) + 8 - 1 := zK _ (by omega) (by omega)
 have hmk := qA K (((L : Int) + 8 - 1) / 8) (by omega) (by omega)
 have HS := zH hs
 have HL := zH hL
 have HK := zH hK
 have HKL := zH hKL
 clear hs hL hK hKL
 go_enter Tryz.func213, Tryz.ntmps213
 go_wp2
 clear hmk n1 n2
 obtain ⟨g, hg⟩ : ∃ g, w.heap.size = g := ⟨_, rfl⟩
 have r0 : (w.alloc (.cells (cw K 0) 23)).heap[g]? = some (.cells (cw K 0) 23) := by rw [← hg]; exact heap_alloc_last _ _
 have b0 : Below g w (w.alloc (.cells (cw K 0) 23)) := by rw [← hg]; exact (Below.refl _ _).alloc (Nat.le_refl _) _
 rw [hg]
 go_loopw [14] (fun iv wr => ∃ (i X : Nat), i ≤ L ∧ iv = .int .i64 i ∧ wr.heap[g]? = some (.cells (cw K X) 23) ∧ Below g w wr ∧ zS (X = hiB n (L - i))) (fun iv _ => L - (intOf iv).toNat)
 case atStart => exact ⟨0, 0, by omega, rfl, r0, b0, zH (by rw [Nat.sub_zero, hiB_top n L (by rw [← HL.out]; exact nl_lt n)])⟩
 case round =>
  clear r0 b0
  obtain ⟨i, X, hi, rfl, r1, hbw, HX⟩ := hrel
  by_cases hlt : i < L
  ·
   obtain ⟨pl, hpl⟩ : ∃ pl, L - 1 - i = pl := ⟨_, rfl⟩
   obtain ⟨x, hx⟩ : ∃ x, d8 n pl = x := ⟨_, rfl⟩
   obtain ⟨q, hq⟩ : ∃ q, pl / 8 = q := ⟨_, rfl⟩
   obtain ⟨r, hr⟩ : ∃ r, pl % 8 = r := ⟨_, rfl⟩
   have x256 : x < 256 := by rw [← hx]; exact qD n pl
   have hxi : ∃ h : i < s.size, (s[i]'h).toNat = x := by
    have h1 : i < s.size := by omega
    refine ⟨h1, ?_⟩
    have e := HS.out
    subst e
    rw [xT, HL.out, hpl, hx]
   obtain ⟨hi2, hxx⟩ := hxi
   have hxr := idx_runN s i (i : Int) x rfl hi2 hxx
   have n1 : IntKind.i64.wrap ((L : Int) - 1) = (L : Int) - 1 := zK _ (by omega) (by omega)
   have n2 : IntKind.i64.wrap ((L : Int) - 1 - (i : Int)) = (pl : Int) := by rw [zK _ (by omega) (by omega)]; omega
   have n2' : (L : Int) - 1 - (i : Int) = (pl : Int) := by omega
   have q1 : (pl : Int) / 8 = (q : Int) := by omega
   have tm : (pl : Int).tmod 8 = (r : Int) := by rw [Int.tmod_eq_emod_of_nonneg (by omega)]; omega
   have tm2 : (pl : Int) % 8 = (r : Int) := by omega
   have w1 : IntKind.i64.wrap (q : Int) = (q : Int) := zK _ (by omega) (by omega)
   obtain ⟨k, hk⟩ : ∃ k, 8 * r = k := ⟨_, rfl⟩
   have w2 : IntKind.i64.wrap (k : Int) = (k : Int) := zK _ (by omega) (by omega)
   have w3 : (r : Int) * 8 = (k : Int) := by omega
   have n4 : IntKind.u64.wrap (x : Int) = (x : Int) := by rw [IntKind.wrap_u64]; omega
   obtain ⟨y, hy⟩ : ∃ y, x * 2 ^ k = y := ⟨_, rfl⟩
   have y64 : y < 18446744073709551616 := by rw [← hy, ← hk]; exact byte_sh x r x256 (by omega)
   have hle := l_left x k y (by omega) (by rw [hy, Nat.mod_eq_of_lt y64])
   have e1 := hiB_step n pl x hx
   rw [hq, hr, hk, hy, show pl + 1 = L - i by omega, ← HX.out] at e1
   obtain ⟨Y, hY⟩ : ∃ Y, hiB n pl = Y := ⟨_, rfl⟩
   rw [hY] at e1
   have qK : q < K := by rw [HKL.out]; omega
   have qKi : (q : Int) < (K : Int) := by omega
   have x3 := bor X q y y64
   have x4 := cw_or K X q y Y qK y64 e1
   have c1 : wr.cell? ⟨g, q, none⟩ = some (.int .u64 (wd X q : Nat)) := by rw [cell_of_row wr g q _ _ _ r1, yS K X q qK]
   have f0 := fz (k := q) r1
   have R2 : zS ((wr.setCell ⟨g, q, none⟩ (.int .u64 ((wd X q ||| y : Nat) : Int))).heap[g]? = some (.cells (cw K Y) 23)) := zH (by rw [z6 r1, x4])
   have B2 : zS (Below g w (wr.setCell ⟨g, q, none⟩ (.int .u64 ((wd X q ||| y : Nat) : Int)))) := zH (hbw.setCell (Nat.le_refl _) _)
   have NX : zS (Y = hiB n (L - (i + 1))) := zH (by rw [← hY, ← hpl, show L - (i + 1) = L - 1 - i by omega])
   have dl : decide (i < L) = true := decide_eq_true hlt
   have LE := zH hle
   clear hpl hx hq hr hk hy hY e1 x4 HX hxx hle
   go_wp2
   go_region_with (go_at_call 244; refine (LE.out _).mono ?_; rintro e w' ⟨rfl, rfl⟩)
   all_goals go_wp2
   all_goals go_roundw
   all_goals first | (show (_ : Nat) < _; simp [intOf]; omega) | exact ⟨i + 1, Y, by omega, by go_num, R2.out, below_drewN B2.out _, NX⟩
  ·
   obtain rfl : i = L := by omega
   have e := HX.out
   rw [Nat.sub_self, hiB_zero] at e
   subst e
   have s2 : SL wr.heap.size wr (some ⟨g, 0, none⟩) K K X := SL.row r1 _ (Array.getElem?_eq_some_iff.1 r1).1 (by rw [← HK.out]; exact wl_lt X) (Nat.le_refl _)
   have dl : decide (i < i) = false := by rw [decide_eq_false_iff_not]; omega
   go_wp2
   go_ret
   exact ⟨_, _, rfl, s2, by rw [hg]; exact hbw⟩
theorem ld8_wd (n p : Nat) : wd n (p / 8) / 2 ^ (8 * (p % 8)) % 256 = d8 n p := by
 apply Nat.eq_of_testBit_eq
 intro j
 rw [two8, Nat.testBit_mod_two_pow, Nat.testBit_div_two_pow, wd_bit, d8_bit]
 by_cases h : j < 8
 ·
  rw [decide_eq_true h, Bool.true_and, decide_eq_true (show j + 8 * (p % 8) < 64 by omega), Bool.true_and, Bool.true_and]
  congr 1; omega
 ·
  rw [decide_eq_false h, Bool.false_and, Bool.false_and]
theorem c8_strN {w : World} {b c L X : Nat} (v : ByteArray) (h : w.heap[b]? = some (.cells (c8 L X) 5)) (hk : v.size = L) (hv : ∀ (j : Nat) (h1 : j < v.size), (v[j]'h1).toNat = d8 X j) :
  (convert 202 39 (.slice (some ⟨b, 0, none⟩) L c)).run Tryz.prog w = .ok (.string v) w := by
 rw [run_convert_bytes_string w 202 39 5 _ _ _ Tryz.underlying202 Tryz.underlying5 Tryz.underlying39]
 have hz : v.data.toList.length = L := by rw [Array.length_toList]; exact hk
 have hl := run_loadCells_list (P := Tryz.prog) w ⟨b, 0, none⟩ (v.data.toList.map fun x => Value.int .u8 (x.toNat : Int)) (fun j u hu => by
  have hadd : (⟨b, 0, none⟩ : Addr).add j = ⟨b, j, none⟩ := by unfold Addr.add; split <;> simp_all
  have hj : j < v.data.toList.length := by
   have := (List.getElem?_eq_some_iff.1 hu).1
   rwa [List.length_map] at this
  have hj2 : j < v.size := by rw [hk]; omega
  rw [hadd, jB h (by omega), ← hv j hj2, ← hu, List.getElem?_map, List.getElem?_eq_getElem hj]
  rfl)
 rw [List.length_map, hz] at hl
 rw [run_bytesToString (P := Tryz.prog) w ⟨b, 0, none⟩ L c (v.data.toList.map fun x => (x.toNat : Int)) (by rw [hl]; simp), show ByteArray.empty = ⟨#[]⟩ from rfl, fold_bytes]
 simp

theorem l_natOf (w : World) (p : Option Addr) (L c n B : Nat) (v : ByteArray) (h : SL B w p L c n) (hB : B ≤ w.heap.size) (hL : L ≤ 100000) (hv : yG n = v) :
  Calls Tryz.prog 252 #[.slice p L c] w fun r w' => r = .returned (.string v) ∧ Below w.heap.size w w' := by
 obtain ⟨M, hM⟩ : ∃ M, wl n = M := ⟨_, rfl⟩
 obtain ⟨l, hl⟩ : ∃ l, z7 n = l := ⟨_, rfl⟩
 obtain ⟨m, hm⟩ : ∃ m, nl n = m := ⟨_, rfl⟩
 have hml : m = (l + 7) / 8 := by rw [← hm, ← hl]; rfl
 have hMl : M = (l + 63) / 64 := by rw [← hM, ← hl]; rfl
 have hML : M ≤ L := by rw [← hM]; exact wl_le_of n L h.1
 have n1 : IntKind.i64.wrap ((l : Int) + 8) = (l : Int) + 8 := zK _ (by omega) (by omega)
 have n2 : IntKind.i64.wrap ((l : Int) + 8 - 1) = (l : Int) + 8 - 1 := zK _ (by omega) (by omega)
 have hmk := c8_makeI m (((l : Int) + 8 - 1) / 8) (by omega) (by omega)
 have hvz : v.size = m := by rw [← hv, yE, hm]
 have l64 : l ≤ 6400000 := by omega
 have m64 : m ≤ 800000 := by omega
 have HM := zH hM
 have HL := zH hl
 have HMM := zH hm
 have HML := zH hml
 have HMW := zH hMl
 have HV := zH hv
 clear hM hl hm hv hml hMl
 go_enter Tryz.func252, Tryz.ntmps252
 go_wp2_with fail
 refine (l_trim w p L c n M B h hL HM.out).mono ?_
 rintro e w1 ⟨u, d, rfl, s1, rfl⟩
 go_wp2_with fail
 refine (l_bitLen w1 u M d n l B s1 (by omega) HM.out HL.out).mono ?_
 rintro e w2 ⟨rfl, rfl⟩
 go_wp2
 clear hmk n1 n2 l64
 obtain ⟨g, hg⟩ : ∃ g, w2.heap.size = g := ⟨_, rfl⟩
 have r0 : (w2.alloc (.cells (c8 m 0) 5)).heap[g]? = some (.cells (c8 m 0) 5) := by rw [← hg]; exact heap_alloc_last _ _
 have b0 : Below g w2 (w2.alloc (.cells (c8 m 0) 5)) := by rw [← hg]; exact (Below.refl _ _).alloc (Nat.le_refl _) _
 rw [hg]
 go_loopw [15] (fun iv wr => ∃ (i Y : Nat), i ≤ m ∧ iv = .int .i64 i ∧ wr.heap[g]? = some (.cells (c8 m Y) 5) ∧ Below g w2 wr ∧ zS (∀ j, j < i → d8 Y j = d8 n (m - 1 - j))) (fun iv _ => m - (intOf iv).toNat)
 case atStart => exact ⟨0, 0, by omega, rfl, r0, b0, zH (fun j hj => absurd hj (by omega))⟩
 case round =>
  clear r0 b0
  obtain ⟨i, Y, hi, rfl, r1, hbw, HX⟩ := hrel
  by_cases hlt : i < m
  ·
   obtain ⟨pl, hpl⟩ : ∃ pl, m - 1 - i = pl := ⟨_, rfl⟩
   obtain ⟨x, hx⟩ : ∃ x, d8 n pl = x := ⟨_, rfl⟩
   obtain ⟨q, hq⟩ : ∃ q, pl / 8 = q := ⟨_, rfl⟩
   obtain ⟨r, hr⟩ : ∃ r, pl % 8 = r := ⟨_, rfl⟩
   have hqM : q < M := by rw [HMW.out]; have := HML.out; omega
   obtain ⟨bp, op, rfl, _⟩ := h.ptr (by omega)
   have x256 : x < 256 := by rw [← hx]; exact qD n pl
   have n1 : IntKind.i64.wrap ((m : Int) - 1) = (m : Int) - 1 := zK _ (by omega) (by omega)
   have n2 : IntKind.i64.wrap ((m : Int) - 1 - (i : Int)) = (pl : Int) := by rw [zK _ (by omega) (by omega)]; omega
   have n2' : (m : Int) - 1 - (i : Int) = (pl : Int) := by omega
   have q1 : (pl : Int) / 8 = (q : Int) := by omega
   have tm : (pl : Int).tmod 8 = (r : Int) := by rw [Int.tmod_eq_emod_of_nonneg (by omega)]; omega
   have tm2 : (pl : Int) % 8 = (r : Int) := by omega
   have w1 : IntKind.i64.wrap (q : Int) = (q : Int) := zK _ (by omega) (by omega)
   obtain ⟨k, hk⟩ : ∃ k, 8 * r = k := ⟨_, rfl⟩
   have w2' : IntKind.i64.wrap (k : Int) = (k : Int) := zK _ (by omega) (by omega)
   have w3 : (r : Int) * 8 = (k : Int) := by omega
   obtain ⟨z, hz⟩ : ∃ z, wd n q = z := ⟨_, rfl⟩
   obtain ⟨y, hy⟩ : ∃ y, z / 2 ^ k = y := ⟨_, rfl⟩
   have LE := zH (l_right z k y (by omega) hy)
   have hyx : y % 256 = x := by rw [← hy, ← hz, ← hq, ← hk, ← hr, ld8_wd, hx]
   have n4 := qS y x hyx
   have qL : q < L := by omega
   have qLi : (q : Int) < (L : Int) := by omega
   have imi : (i : Int) < (m : Int) := by omega
   have c0 := (h.below hbw (by omega)).cell q z qL hz
   have c1 := jB r1 hlt
   have f0 := fz (k := i) r1
   have R2 : zS ((wr.setCell ⟨g, i, none⟩ (.int .u8 (x : Int))).heap[g]? = some (.cells (c8 m (set8 Y i x)) 5)) := zH (by rw [z6 r1, c8_seti m Y i x _ hlt x256 rfl])
   have B2 : zS (Below g w2 (wr.setCell ⟨g, i, none⟩ (.int .u8 (x : Int)))) := zH (hbw.setCell (Nat.le_refl _) _)
   have NX : zS (∀ j, j < i + 1 → d8 (set8 Y i x) j = d8 n (m - 1 - j)) := zH (fun j hj => by
    rw [d8_set8 _ _ _ _ x256]
    by_cases e : j = i
    ·
     rw [if_pos e, e, hpl, hx]
    ·
     rw [if_neg e]; exact HX.out j (by omega))
   have dl : decide (i < m) = true := decide_eq_true hlt
   clear hpl hx hq hr hk hy hz HX h hyx
   go_wp2_with fail
   refine (LE.out _).mono ?_
   rintro e w' ⟨rfl, rfl⟩
   go_wp2
   go_roundw
   case rel => exact ⟨i + 1, _, by omega, by go_num, R2.out, B2.out, NX⟩
   case measure => simp [intOf] <;> omega
  ·
   obtain rfl : i = m := by omega
   have hst := c8_strN (c := i) v r1 hvz (fun j hj => by
    rw [HX.out j (by omega)]
    have e := HV.out
    subst e
    rw [xT, HMM.out])
   have dl : decide (i < i) = false := by rw [decide_eq_false_iff_not]; omega
   go_wp2
   go_ret
   exact ⟨rfl, by rw [hg]; exact hbw⟩
theorem yN (s : ByteArray) (o : Bool) (ho : qB s = o) (w : World) :
  Calls Tryz.prog 195 #[.string s] w fun r w' => r = .returned (.int .i64 (if o then 0 else 2)) ∧ w' = w := by
 by_cases h1 : s.size ≤ 16384
 ·
  have d1 : decide ((16384 : Int) < (s.size : Int)) = false := by rw [decide_eq_false_iff_not]; omega
  have d1' : decide (16384 < s.size) = false := by rw [decide_eq_false_iff_not]; omega
  by_cases h2 : s.size = 0
  ·
   have e : o = true := by rw [← ho]; unfold qB; rw [decide_eq_true h1, decide_eq_true h2]; rfl
   subst e
   have d2 : decide (0 < s.size) = false := decide_eq_false (by omega)
   clear h1 h2 ho
   go_enter Tryz.func195, Tryz.ntmps195
   go_wp2
   go_ret
   exact ⟨rfl, rfl⟩
  ·
   have hp : 0 < s.size := by omega
   have d2 : decide (0 < s.size) = true := decide_eq_true hp
   obtain ⟨x, hx⟩ : ∃ x, (s[0]'hp).toNat = x := ⟨_, rfl⟩
   have e : decide (x ≠ 0) = o := by
    rw [← ho]; unfold qB
    rw [decide_eq_true h1, decide_eq_false h2, Bool.true_and, Bool.false_or]
    rw [Bool.eq_iff_iff, decide_eq_true_iff, decide_eq_true_iff]
    exact ⟨fun h => ⟨hp, by rw [hx]; exact h⟩, fun ⟨a, b⟩ => by rw [hx] at b; exact b⟩
   have hi := idx_runN s 0 0 x rfl hp hx
   clear h1 h2 ho hx
   by_cases h0 : x = 0
   ·
    subst h0
    have e2 : o = false := by rw [← e]; rfl
    subst e2
    clear e
    go_enter Tryz.func195, Tryz.ntmps195
    go_wp2
    go_ret
    exact ⟨rfl, rfl⟩
   ·
    have e2 : o = true := by rw [← e]; exact decide_eq_true h0
    subst e2
    have h3 : decide (x = 0) = false := decide_eq_false h0
    clear e
    go_enter Tryz.func195, Tryz.ntmps195
    go_wp2
    go_ret
    exact ⟨rfl, rfl⟩
 ·
  have d1 : decide ((16384 : Int) < (s.size : Int)) = true := by rw [decide_eq_true_iff]; omega
  have d1' : decide (16384 < s.size) = true := by rw [decide_eq_true_iff]; omega
  have e : o = false := by rw [← ho]; unfold qB; rw [decide_eq_false h1]; rfl
  subst e
  clear h1 ho
  go_enter Tryz.func195, Tryz.ntmps195
  go_wp2
  go_ret
  exact ⟨rfl, rfl⟩

theorem str_cell {w : World} {g : Nat} {T : TypeId} {ss : List ByteArray} (row : w.heap[g]? = some (.cells (ss.map Value.string).toArray T)) (k : Nat) (s : ByteArray) (h : ss[k]? = some s) : w.cell? ⟨g, k, none⟩ = some (.string s) := by
 rw [cell_of_row w g k _ _ _ row]
 simp [h]

theorem n_mayBe (ss : List ByteArray) (L g : Nat) (T : TypeId) (w : World) (hl : ss.length = L) (hL : L ≤ 1000) (row : w.heap[g]? = some (.cells (ss.map Value.string).toArray T)) (o : Bool) (ho : ss.all qB = o) :
  Calls Tryz.prog 136 #[.slice (some ⟨g, 0, none⟩) L L] w fun r w' => r = .returned (.bool o) ∧ w' = w := by
 have HO := zH ho
 have HL := zH hl
 clear ho hl
 go_enter Tryz.func136, Tryz.ntmps136
 go_wp2
 go_loopw [7] (fun iv wr => ∃ k : Nat, k ≤ L ∧ iv = .int .i64 k ∧ wr = w ∧ zS (∀ j s, j < k → ss[j]? = some s → qB s = true)) (fun iv _ => L - (intOf iv).toNat)
 case atStart => exact ⟨0, by omega, rfl, rfl, zH (fun j s hj => absurd hj (by omega))⟩
 case round =>
  obtain ⟨k, hk, rfl, rfl, HA⟩ := hrel
  by_cases hlt : k < L
  ·
   obtain ⟨s, hs⟩ : ∃ s, ss[k]? = some s := ⟨_, List.getElem?_eq_getElem (by rw [HL.out]; exact hlt)⟩
   have c1 := str_cell row k s hs
   have dl : decide (k < L) = true := decide_eq_true hlt
   have HS := zH hs
   obtain ⟨m, hm⟩ : ∃ m, qB s = m := ⟨_, rfl⟩
   have HM := zH hm
   clear hs hm
   cases m
   ·
    have e : o = false := by
     rw [← HO.out, Bool.eq_false_iff]
     intro h
     rw [List.all_eq_true] at h
     have := h s (List.mem_of_getElem? HS.out)
     rw [HM.out] at this
     exact absurd this (by decide)
    subst e
    go_wp2_with fail
    refine (yN s false HM.out _).mono ?_
    rintro e w' ⟨rfl, rfl⟩
    go_wp2
    go_ret
    exact ⟨rfl, rfl⟩
   ·
    have NA : zS (∀ j s, j < k + 1 → ss[j]? = some s → qB s = true) := zH (fun j s2 hj h2 => by
     by_cases e : j = k
     ·
      subst e
      rw [HS.out] at h2
      cases h2
      exact HM.out
     ·
      exact HA.out j s2 (by omega) h2)
    go_wp2_with fail
    refine (yN s true HM.out _).mono ?_
    rintro e w' ⟨rfl, rfl⟩
    go_wp2
    go_roundw
    case rel => exact ⟨k + 1, by omega, by go_num, by first | rfl | trivial, NA⟩
    case measure => simp [intOf] <;> omega
  ·
   obtain rfl : k = L := by omega
   have e : o = true := by
    rw [← HO.out, List.all_eq_true]
    intro s hs
    obtain ⟨j, hj⟩ := List.mem_iff_getElem?.1 hs
    have := (List.getElem?_eq_some_iff.1 hj).1
    exact HA.out j s (by rw [← HL.out]; exact this) hj
   subst e
   have dl : decide (k < k) = false := by rw [decide_eq_false_iff_not]; omega
   go_wp2
   go_ret
   exact ⟨rfl, rfl⟩
theorem n_may1 (s : ByteArray) (o : Bool) (ho : qB s = o) (T : TypeId) (w : World) :
  Calls Tryz.prog 136 #[.slice (some ⟨w.heap.size, 0, none⟩) 1 1] (w.alloc (.cells #[.string s] T)) fun r w' => r = .returned (.bool o) ∧ w' = w.alloc (.cells #[.string s] T) :=
 n_mayBe [s] 1 w.heap.size T _ rfl (by decide) (heap_alloc_last _ _) o (by rw [← ho]; simp)
theorem n_may2 (s t : ByteArray) (o : Bool) (ho : (qB s && qB t) = o) (T : TypeId) (w : World) :
  Calls Tryz.prog 136 #[.slice (some ⟨w.heap.size, 0, none⟩) 2 2] (w.alloc (.cells #[.string s, .string t] T)) fun r w' => r = .returned (.bool o) ∧ w' = w.alloc (.cells #[.string s, .string t] T) :=
 n_mayBe [s, t] 2 w.heap.size T _ rfl (by decide) (heap_alloc_last _ _) o (by rw [← ho]; simp)
theorem ok2 {a b : Nat} {s t : ByteArray} (hs : yG a = s) (ht : yG b = t) (ha : nl a ≤ 16384) (hb : nl b ≤ 16384) : (qB s && qB t) = true := by
 subst hs ht; rw [qR a ha, qR b hb]; rfl
theorem yK (w : World) (o : Obj) : Below w.heap.size w (w.alloc o) := (Below.refl _ _).alloc (Nat.le_refl _) _
theorem zO {a b c : World} (h : Below a.heap.size a b) (k : Below b.heap.size b c) : Below a.heap.size a c := h.trans (k.mono h.size)

theorem l_answer (w : World) (p : Option Addr) (L c n B : Nat) (v : ByteArray) (e : Int) (h : SL B w p L c n) (hB : B ≤ w.heap.size) (hL : L ≤ 100000) (hn : wl n = L) (hr : lg n = (v, e)) :
  Calls Tryz.prog 211 #[.slice p L c] w fun r w' => r = .returned (.tuple #[.string v, .int .i64 e]) ∧ Below w.heap.size w w' := by
 obtain ⟨l, hl⟩ : ∃ l, z7 n = l := ⟨_, rfl⟩
 unfold lg at hr
 have HL := zH hl
 have HN := zH hn
 have hll : l ≤ 64 * L := by rw [← hl, ← hn]; unfold wl; omega
 by_cases h1 : nl n ≤ 16384
 ·
  rw [if_pos h1] at hr
  cases hr
  have d1 : decide (131072 < l) = false := decide_eq_false (by rw [← hl]; unfold nl at h1; omega)
  have d2 : decide ((131072 : Int) < (l : Int)) = false := decide_eq_false (by rw [← hl]; unfold nl at h1; omega)
  clear hl hn h1
  go_enter Tryz.func211, Tryz.ntmps211
  go_wp2_with fail
  refine (l_bitLen w p L c n l B h hL HN.out HL.out).mono ?_
  rintro e w1 ⟨rfl, rfl⟩
  go_wp2_with fail
  refine (l_natOf w1 p L c n B _ h hB hL rfl).mono ?_
  rintro e w2 ⟨rfl, hb2⟩
  go_wp2
  go_ret2
  exact ⟨rfl, hb2⟩
 ·
  rw [if_neg h1] at hr
  cases hr
  have d1 : decide (131072 < l) = true := decide_eq_true (by rw [← hl]; unfold nl at h1; omega)
  have d2 : decide ((131072 : Int) < (l : Int)) = true := decide_eq_true (by rw [← hl]; unfold nl at h1; omega)
  clear hl hn h1
  go_enter Tryz.func211, Tryz.ntmps211
  go_wp2_with fail
  refine (l_bitLen w p L c n l B h hL HN.out HL.out).mono ?_
  rintro e w1 ⟨rfl, rfl⟩
  go_wp2
  go_ret2
  exact ⟨rfl, Below.refl _ _⟩
theorem xU (n : Nat) (h : nl n ≤ 16384) : wl n ≤ 2048 := by rw [wl_nl]; omega

theorem pn_add_ok (a b : Nat) (s t v : ByteArray) (e : Int) (hs : yG a = s) (ht : yG b = t) (ha : nl a ≤ 16384) (hb : nl b ≤ 16384) (hr : lg (a + b) = (v, e)) (w : World) :
  Calls Tryz.prog 201 #[.string s, .string t] w fun r w' => r = .returned (.tuple #[.string v, .int .i64 e]) ∧ Below w.heap.size w w' := by
 have HO := zH (ok2 hs ht ha hb)
 have HS := zH hs
 have HT := zH ht
 have HR := zH hr
 have HA := zH ha
 have HB := zH hb
 obtain ⟨K, hK⟩ : ∃ K, wl a = K := ⟨_, rfl⟩
 obtain ⟨M, hM⟩ : ∃ M, wl b = M := ⟨_, rfl⟩
 obtain ⟨N, hN⟩ : ∃ N, wl (a + b) = N := ⟨_, rfl⟩
 have hK2 : K ≤ 2048 := by rw [← hK]; exact xU a ha
 have hM2 : M ≤ 2048 := by rw [← hM]; exact xU b hb
 have hN2 : N ≤ 2049 := by rw [← hN]; exact wl_add_le a b 2048 (by omega) (by omega)
 have HK := zH hK
 have HM := zH hM
 have HN := zH hN
 clear hs ht ha hb hr hK hM hN
 go_enter Tryz.func201, Tryz.ntmps201
 go_wp2_with fail
 refine (n_may2 s t true HO.out _ w).mono ?_
 rintro r w0 ⟨rfl, rfl⟩
 have b0 := yK w (.cells #[.string s, .string t] 39)
 go_wp2_with fail
 refine (y9 a K s HS.out (by have := HA.out; omega) HK.out _).mono ?_
 rintro r w1 ⟨p, c, rfl, s1, b1⟩
 go_wp2_with fail
 refine (y9 b M t HT.out (by have := HB.out; omega) HM.out _).mono ?_
 rintro r w2 ⟨q, d, rfl, s2, b2⟩
 go_wp2_with fail
 refine (l_sum w2 p q K c a M d b w2.heap.size N ((s1.below b2 (Nat.le_refl _)).mono b2.size) s2 (Nat.le_refl _) (by omega) (by omega) HN.out).mono ?_
 rintro r w3 ⟨u, f, rfl, s3, b3⟩
 go_wp2_with fail
 refine (l_answer w3 u N f (a + b) _ v e s3 (Nat.le_refl _) (by omega) HN.out HR.out).mono ?_
 rintro r w4 ⟨rfl, b4⟩
 go_wp2
 go_ret2
 exact ⟨rfl, zO b0 (zO b1 (zO b2 (zO b3 b4)))⟩
theorem pn_sub_ok (a b : Nat) (s t v : ByteArray) (e : Int) (hs : yG a = s) (ht : yG b = t) (ha : nl a ≤ 16384) (hb : nl b ≤ 16384) (hr : sb a b = (v, e)) (w : World) :
  Calls Tryz.prog 214 #[.string s, .string t] w fun r w' => r = .returned (.tuple #[.string v, .int .i64 e]) ∧ Below w.heap.size w w' := by
 have HO := zH (ok2 hs ht ha hb)
 have HS := zH hs
 have HT := zH ht
 have HA := zH ha
 have HB := zH hb
 obtain ⟨K, hK⟩ : ∃ K, wl a = K := ⟨_, rfl⟩
 obtain ⟨M, hM⟩ : ∃ M, wl b = M := ⟨_, rfl⟩
 obtain ⟨N, hN⟩ : ∃ N, wl (a - b) = N := ⟨_, rfl⟩
 have hK2 : K ≤ 2048 := by rw [← hK]; exact xU a ha
 have hM2 : M ≤ 2048 := by rw [← hM]; exact xU b hb
 have hN2 : N ≤ 2049 := by rw [← hN]; have := wl_mono (a - b) a (by omega); omega
 have HK := zH hK
 have HM := zH hM
 have HN := zH hN
 clear hs ht ha hb hK hM hN
 unfold sb at hr
 by_cases hlt : a < b
 ·
  rw [if_pos hlt] at hr
  cases hr
  have HLE := zH hlt
  clear hlt
  go_enter Tryz.func214, Tryz.ntmps214
  go_wp2_with fail
  refine (n_may2 s t true HO.out _ w).mono ?_
  rintro r w0 ⟨rfl, rfl⟩
  have b0 := yK w (.cells #[.string s, .string t] 39)
  go_wp2_with fail
  refine (y9 a K s HS.out (by have := HA.out; omega) HK.out _).mono ?_
  rintro r w1 ⟨p, c, rfl, s1, b1⟩
  go_wp2_with fail
  refine (y9 b M t HT.out (by have := HB.out; omega) HM.out _).mono ?_
  rintro r w2 ⟨q, d, rfl, s2, b2⟩
  go_wp2_with fail
  refine (l_diff_no w2 p q K c a M d b w2.heap.size ((s1.below b2 (Nat.le_refl _)).mono b2.size) s2 (Nat.le_refl _) (by omega) (by omega) HLE.out).mono ?_
  rintro r w3 ⟨rfl, b3⟩
  go_wp2
  go_ret2
  exact ⟨rfl, zO b0 (zO b1 (zO b2 b3))⟩
 ·
  rw [if_neg hlt] at hr
  obtain ⟨hv, he⟩ := Prod.mk.inj hr
  subst he
  have HV := zH hv
  have HLE : zS (b ≤ a) := zH (by omega)
  clear hlt hr hv
  go_enter Tryz.func214, Tryz.ntmps214
  go_wp2_with fail
  refine (n_may2 s t true HO.out _ w).mono ?_
  rintro r w0 ⟨rfl, rfl⟩
  have b0 := yK w (.cells #[.string s, .string t] 39)
  go_wp2_with fail
  refine (y9 a K s HS.out (by have := HA.out; omega) HK.out _).mono ?_
  rintro r w1 ⟨p, c, rfl, s1, b1⟩
  go_wp2_with fail
  refine (y9 b M t HT.out (by have := HB.out; omega) HM.out _).mono ?_
  rintro r w2 ⟨q, d, rfl, s2, b2⟩
  go_wp2_with fail
  refine (l_diff_ok w2 p q K c a M d b w2.heap.size N ((s1.below b2 (Nat.le_refl _)).mono b2.size) s2 (Nat.le_refl _) (by omega) (by omega) HLE.out HN.out).mono ?_
  rintro r w3 ⟨u, f, rfl, s3, b3⟩
  go_wp2_with fail
  refine (l_natOf w3 u N f (a - b) _ v s3 (Nat.le_refl _) (by omega) HV.out).mono ?_
  rintro r w4 ⟨rfl, b4⟩
  go_wp2
  go_ret2
  exact ⟨rfl, zO b0 (zO b1 (zO b2 (zO b3 b4)))⟩
end Go.Proofs.YtkblmpmkchkpjaaGreatDoor
