/-
  What the functions that the statement reaches return: part 5 (Nat8, List0, List1, List2, List3, List4, List5, List6, List7).
-/
import Derived.Test.YtfmmeifipbpbmaaGreatDoorOb04
namespace Go.Proofs.YtfmmeifipbpbmaaGreatDoor
set_option maxRecDepth 100000
open Go.RowKit WMath

/-- What a value says, if it is a string. -/
def strV (v : Value) : Nat := match v with | .string s => bvl s.data.toList | _ => 0
theorem strV_nb (n : Nat) (s : ByteArray) (h : nbA n = s) : strV (.string s) = n := by
  subst h
  exact bvl_nbL n

set_option maxHeartbeats 4000000 in
theorem nat_Gcd (a b : Nat) (s t v : ByteArray) (hs : nbA a = s) (ht : nbA b = t) (ha : nl a ≤ 16384) (hb : nl b ≤ 16384) (hv : nbA (Nat.gcd a b) = v) (w : World) :
    Calls Tryz.prog 65 #[.string s, .string t] w fun e w' => e = .returned (.string v) ∧ Below w.heap.size w w' := by
  have HS := box hs
  have HT := box ht
  have HV := box hv
  have HA := box ha
  have HB := box hb
  clear hs ht hv ha hb
  go_enter Tryz.func65, Tryz.ntmps65
  go_wp2
  go_loopw [0, 1] (fun av bv wr => ∃ (x y : Nat) (X Y : ByteArray), av = .string X ∧ bv = .string Y ∧ Below w.heap.size w wr ∧ Box (nbA x = X) ∧ Box (nbA y = Y) ∧ Box (nl x ≤ 16384) ∧ Box (nl y ≤ 16384) ∧ Box (Nat.gcd x y = Nat.gcd a b)) (fun _ bv _ => strV bv)
  case atStart => exact ⟨a, b, s, t, rfl, rfl, Below.refl _ _, HS, HT, HA, HB, box rfl⟩
  case round =>
    obtain ⟨x, y, X, Y, rfl, rfl, hbw, HX, HY, LX, LY, HG⟩ := hrel
    have e2 := eq_empty Y
    have hz : Y.size = nl y := by rw [← HY.out, nbA_size]
    by_cases hy : y = 0
    · rw [decide_eq_true (by rw [hz, hy, nl_zero])] at e2
      have eX : X = v := by
        have h := HG.out
        rw [hy, Nat.gcd_zero_right] at h
        rw [← HX.out, ← HV.out, h]
      subst eX
      clear hz hy
      go_wp2
      go_ret
      exact ⟨rfl, hbw⟩
    · have hp := nl_pos y hy
      rw [decide_eq_false (by omega)] at e2
      obtain ⟨q, hq⟩ : ∃ q, nbA (x / y) = q := ⟨_, rfl⟩
      obtain ⟨r, hr⟩ : ∃ r, x % y = r := ⟨_, rfl⟩
      obtain ⟨R, hR⟩ : ∃ R, nbA (x % y) = R := ⟨_, rfl⟩
      have rl : r < y := by rw [← hr]; exact Nat.mod_lt _ (by omega)
      have HQ := box hq
      have HR := box hR
      have HR2 : Box (nbA r = R) := box (by rw [← hr]; exact hR)
      have HY0 := box hy
      have LR : Box (nl r ≤ 16384) := box (by have := nl_mono r y (by omega); have := LY.out; omega)
      have NG : Box (Nat.gcd y r = Nat.gcd a b) := box (by rw [← HG.out, ← hr, Nat.gcd_comm y, ← Nat.gcd_rec, Nat.gcd_comm])
      have M1 := box (strV_nb y Y HY.out)
      have M2 := box (strV_nb r R HR2.out)
      clear hz hy hq hr hR hp
      go_wp2_with fail
      refine (nat_Div x y X Y q R HX.out HY.out LX.out HY0.out HQ.out HR.out _).mono ?_
      rintro e w1 ⟨rfl, hb1⟩
      go_wp2
      go_roundw
      case rel => exact ⟨y, r, Y, R, rfl, rfl, hbw.trans (hb1.mono hbw.size), HY, HR2, LY, LR, NG⟩
      case measure => rw [M1.out, M2.out]; exact rl
end Go.Proofs.YtfmmeifipbpbmaaGreatDoor
namespace Go.Proofs.YtfmmeifipbpbmaaGreatDoor
set_option maxRecDepth 100000
open Go.RowKit WMath

/-- A slice of words that holds a number: L words from the place p on, in a block below B. -/
def SL (B : Nat) (w : World) (p : Option Addr) (L c n : Nat) : Prop := n < 2 ^ (64 * L) ∧ L ≤ c ∧ (0 < L → ∃ b o, p = some ⟨b, o, none⟩ ∧ b < B ∧ ∀ k, k < L → w.cell? ⟨b, o + k, none⟩ = some (.int .u64 (wd n k : Nat)))
theorem SL.mono {B B' : Nat} {w : World} {p : Option Addr} {L c n : Nat} (h : SL B w p L c n) (hB : B ≤ B') : SL B' w p L c n :=
  ⟨h.1, h.2.1, fun hL => by
    obtain ⟨b, o, hp, hlt, hc⟩ := h.2.2 hL
    exact ⟨b, o, hp, Nat.lt_of_lt_of_le hlt hB, hc⟩⟩
theorem SL.below {w w' : World} {p : Option Addr} {L c n B B' : Nat} (h : SL B w p L c n) (hb : Below B' w w') (hB : B ≤ B') : SL B w' p L c n := by
  refine ⟨h.1, h.2.1, fun hL => ?_⟩
  obtain ⟨b, o, hp, hlt, hc⟩ := h.2.2 hL
  refine ⟨b, o, hp, hlt, fun k hk => ?_⟩
  rw [hb.cell (p := ⟨b, o + k, none⟩) (show b < B' by omega)]
  exact hc k hk
theorem cell_size {w : World} {b o : Nat} {v : Value} (h : w.cell? ⟨b, o, none⟩ = some v) : b < w.heap.size := by
  by_cases e : b < w.heap.size
  · exact e
  · exfalso
    have : w.heap[b]? = none := Array.getElem?_eq_none (by omega)
    simp [World.cell?, this] at h
/-- Nothing but the block g is another. -/
def Only (g : Nat) (w w' : World) : Prop := w'.os = w.os ∧ w'.tape = w.tape ∧ w'.output = w.output ∧ w.heap.size ≤ w'.heap.size ∧ ∀ k, k < w.heap.size → k ≠ g → w'.heap[k]? = w.heap[k]?
theorem Only.refl (g : Nat) (w : World) : Only g w w := ⟨rfl, rfl, rfl, Nat.le_refl _, fun _ _ _ => rfl⟩
theorem Only.trans {g : Nat} {a b c : World} (h : Only g a b) (k : Only g b c) : Only g a c :=
  ⟨k.1.trans h.1, k.2.1.trans h.2.1, k.2.2.1.trans h.2.2.1, Nat.le_trans h.2.2.2.1 k.2.2.2.1, fun i hi hg => (k.2.2.2.2 i (Nat.lt_of_lt_of_le hi h.2.2.2.1) hg).trans (h.2.2.2.2 i hi hg)⟩
theorem Only.size {g : Nat} {a b : World} (h : Only g a b) : a.heap.size ≤ b.heap.size := h.2.2.2.1
theorem Only.ofBelow {g B : Nat} {a b : World} (h : Below B a b) (hB : a.heap.size ≤ B) : Only g a b := ⟨h.os, h.tape, h.output, h.size, fun k hk _ => h.block k (by omega)⟩
theorem Only.setCell {g o : Nat} {a w : World} (h : Only g a w) (u : Value) : Only g a (w.setCell ⟨g, o, none⟩ u) :=
  h.trans ⟨rfl, rfl, rfl, by simp [World.setCell], fun k _ hg => Below.heap_setCell _ _ _ _ hg⟩
theorem Only.drew {g : Nat} {a w : World} (h : Only g a w) : Only g a w.drew := h.trans ⟨rfl, rfl, rfl, Nat.le_refl _, fun _ _ _ => rfl⟩
theorem Only.toBelow {g B : Nat} {a w w' : World} (h : Below B a w) (k : Only g w w') (hB : B ≤ g) (hs : B ≤ w.heap.size) : Below B a w' :=
  h.trans ⟨k.1, k.2.1, k.2.2.1, k.2.2.2.1, fun i hi => k.2.2.2.2 i (by omega) (by omega)⟩
theorem Only.row {g b : Nat} {w w' : World} {c : Array Value} {t : TypeId} (k : Only g w w') (hb : b ≠ g) (h : w.heap[b]? = some (.cells c t)) : w'.heap[b]? = some (.cells c t) := by
  rw [k.2.2.2.2 b (Array.getElem?_eq_some_iff.1 h).1 hb, h]
theorem SL.only {B g : Nat} {w w' : World} {p : Option Addr} {L c n : Nat} (h : SL B w p L c n) (k : Only g w w') (hB : B ≤ g) : SL B w' p L c n := by
  refine ⟨h.1, h.2.1, fun hL => ?_⟩
  obtain ⟨b, o, hp, hlt, hc⟩ := h.2.2 hL
  refine ⟨b, o, hp, hlt, fun i hi => ?_⟩
  have h1 := hc i hi
  rw [World.cell?_of_block (w := w) (k.2.2.2.2 b (cell_size h1) (by omega))]
  exact h1

theorem l_at (w : World) (p : Option Addr) (L c n i x : Nat) {B : Nat} (h : SL B w p L c n) (hx : wd n i = x) (hL : L ≤ 100000) :
    Calls Tryz.prog 318 #[.slice p L c, .int .i64 (i : Nat)] w fun r w' => r = .returned (.int .u64 (x : Nat)) ∧ w' = w := by
  by_cases hi : L ≤ i
  · have e : x = 0 := by rw [← hx]; exact wd_high h.1 hi
    subst e
    have d1 : decide (L ≤ i) = true := decide_eq_true hi
    clear hx h
    go_enter Tryz.func318, Tryz.ntmps318
    go_wp2
    go_ret
    exact ⟨rfl, rfl⟩
  · obtain ⟨b, o, rfl, hlt, hc⟩ := h.2.2 (by omega)
    have c1 := hc i (by omega)
    have d1 : decide (L ≤ i) = false := decide_eq_false hi
    rw [hx] at c1
    clear hx h hc
    go_enter Tryz.func318, Tryz.ntmps318
    go_wp2
    go_ret
    exact ⟨rfl, rfl⟩
end Go.Proofs.YtfmmeifipbpbmaaGreatDoor
namespace Go.Proofs.YtfmmeifipbpbmaaGreatDoor
set_option maxRecDepth 100000
open Go.RowKit WMath

theorem sub_is (a b : Nat) (c : Bool) (s : Nat) (o : Bool) (ha : a < 18446744073709551616) (hb : b < 18446744073709551616) (hs : (a + 18446744073709551616 - b - c.toNat) % 18446744073709551616 = s) (ho : decide (a < b + c.toNat) = o) (w : World) :
    Calls Tryz.prog 302 #[.int .u64 a, .int .u64 b, .bool c] w fun e w' => e = .returned (.tuple #[.int .u64 (s : Nat), .bool o]) ∧ w' = w := by
  subst hs; subst ho; exact sub_any a b c ha hb w

theorem l_mulAdd (x y u lo hi : Nat) (hx : x < 18446744073709551616) (hy : y < 18446744073709551616) (hu : u < 18446744073709551616) (hlo : (x * y + u) % 18446744073709551616 = lo) (hhi : (x * y + u) / 18446744073709551616 = hi) (w : World) :
    Calls Tryz.prog 320 #[.int .u64 x, .int .u64 y, .int .u64 u] w fun e w' => e = .returned (.tuple #[.int .u64 (lo : Nat), .int .u64 (hi : Nat)]) ∧ w' = w := by
  obtain ⟨H, hH⟩ : ∃ H, x * y / 18446744073709551616 = H := ⟨_, rfl⟩
  obtain ⟨L, hL⟩ : ∃ L, x * y % 18446744073709551616 = L := ⟨_, rfl⟩
  obtain ⟨c1, hc1⟩ : ∃ c1, decide (18446744073709551616 ≤ L + u + false.toNat) = c1 := ⟨_, rfl⟩
  have bL : L < 18446744073709551616 := by rw [← hL]; exact Nat.mod_lt _ (by decide)
  have hb := mul_lt128 x y u 0 hx hy hu (by decide)
  rw [Nat.add_zero, hhi] at hb
  have hl1 : (L + u + false.toNat) % 18446744073709551616 = lo := by rw [← hlo, ← hL]; simp
  have hcase : (c1 = true ∧ H + 1 = hi) ∨ (c1 = false ∧ H = hi) := by
    simp only [Bool.toNat_false, Nat.add_zero] at hc1
    by_cases e : 18446744073709551616 ≤ L + u
    · left; exact ⟨by rw [← hc1]; exact decide_eq_true e, by omega⟩
    · right; exact ⟨by rw [← hc1]; exact decide_eq_false e, by omega⟩
  have A1 := box hH
  have A2 := box hL
  have A3 := box hl1
  have A4 := box hc1
  clear hH hL hl1 hc1 hlo hhi
  rcases hcase with ⟨rfl, rfl⟩ | ⟨rfl, rfl⟩
  all_goals
    go_enter Tryz.func320, Tryz.ntmps320
    go_wp2_with fail
    refine (mul_is x y H L hx hy A1.out A2.out _).mono ?_
    rintro e w' ⟨rfl, rfl⟩
    go_wp2_with fail
    refine (add_is L u false lo _ bL hu A3.out A4.out _).mono ?_
    rintro e w' ⟨rfl, rfl⟩
    go_wp2
    go_ret2
    exact ⟨ret_ii rfl (by first | rfl | go_num), rfl⟩

set_option maxHeartbeats 1000000 in
theorem l_addTo (w : World) (g o L c N X : Nat) (T : TypeId) (row : w.heap[g]? = some (.cells (cw N X) T)) (hN : o + L ≤ N) (q : Option Addr) (M d m B : Nat) (hb : SL B w q M d m) (hB : B ≤ g) (t : Nat) (ht : t < 18446744073709551616) (hL : L ≤ 100000) (hM : M ≤ L) (hmt : m * t < 2 ^ (64 * L)) (V S : Nat) (ov : Bool) (hV : vw X o L = V) (hS : (V + m * t) % 2 ^ (64 * L) = S) (ho : decide (2 ^ (64 * L) ≤ V + m * t) = ov) :
    Calls Tryz.prog 287 #[.slice (some ⟨g, o, none⟩) L c, .slice q M d, .int .u64 (t : Nat)] w fun r w' => r = .returned (.bool ov) ∧ w'.heap[g]? = some (.cells (cw N (putw X o L S)) T) ∧ Only g w w' := by
  have HMT := box hmt
  have HV := box hV
  have HS := box hS
  have HO := box ho
  clear hmt hV hS ho
  go_enter Tryz.func287, Tryz.ntmps287
  go_wp2
  go_loopw [6, 8, 12] (fun ovv cv iv wr => ∃ (i k S : Nat) (u : Bool), i ≤ L ∧ k < 18446744073709551616 ∧ iv = .int .i64 i ∧ cv = .int .u64 k ∧ ovv = .bool u ∧ wr.heap[g]? = some (.cells (cw N (putw X o i S)) T) ∧ Only g w wr ∧ Box (AddSt V m t i k S u)) (fun _ _ iv _ => L - (intOf iv).toNat)
  case atStart => exact ⟨0, 0, 0, false, by omega, by decide, rfl, rfl, rfl, by rw [putw_zero]; exact row, Only.refl _ _, box (addSt0 V m t)⟩
  case round =>
    obtain ⟨i, k, S', u, hi, hk, rfl, rfl, rfl, r1, ho1, HA⟩ := hrel
    by_cases hlt : i < L
    · obtain ⟨x, hx⟩ : ∃ x, wd m i = x := ⟨_, rfl⟩
      obtain ⟨v, hv⟩ : ∃ v, wd X (o + i) = v := ⟨_, rfl⟩
      obtain ⟨lo, hlo⟩ : ∃ lo, (x * t + k) % 18446744073709551616 = lo := ⟨_, rfl⟩
      obtain ⟨hi2, hhi⟩ : ∃ hi2, (x * t + k) / 18446744073709551616 = hi2 := ⟨_, rfl⟩
      obtain ⟨s, hs⟩ : ∃ s, (v + lo + u.toNat) % 18446744073709551616 = s := ⟨_, rfl⟩
      obtain ⟨u2, hu2⟩ : ∃ u2, decide (18446744073709551616 ≤ v + lo + u.toNat) = u2 := ⟨_, rfl⟩
      have x64 : x < 18446744073709551616 := by rw [← hx]; exact wd_lt _ _
      have v64 : v < 18446744073709551616 := by rw [← hv]; exact wd_lt _ _
      have lo64 : lo < 18446744073709551616 := by rw [← hlo]; exact Nat.mod_lt _ (by decide)
      have s64 : s < 18446744073709551616 := by rw [← hs]; exact Nat.mod_lt _ (by decide)
      have hi64 : hi2 < 18446744073709551616 := by
        have := mul_lt128 x t k 0 x64 ht hk (by decide)
        rwa [Nat.add_zero, hhi] at this
      have cn := carry_num v lo s u u2 v64 lo64 hs hu2
      have hvV : wd V i = v := by rw [← HV.out, wd_vw X o L i hlt, hv]
      have NA : Box (AddSt V m t (i + 1) hi2 (S' + 2 ^ (64 * i) * s) u2) := box (addSt_next HA.out x v lo hi2 s u2 hx hvV lo64 (by omega) s64 cn.1)
      have c1 : wr.cell? ⟨g, o + i, none⟩ = some (.int .u64 (v : Nat)) := by
        rw [cell_of_row wr g (o + i) _ _ _ r1, cw_at _ _ _ (by omega), wd_putw_next X o i S' HA.out.1, hv]
      have f0 := fz (k := o + i) r1
      have RS : Box ((wr.setCell ⟨g, o + i, none⟩ (.int .u64 (s : Int))).heap[g]? = some (.cells (cw N (putw X o (i + 1) (S' + 2 ^ (64 * i) * s))) T)) := box (by rw [setCell_row r1, cw_set N _ (o + i) s (by omega) s64, putw_step X o i S' s HA.out.1])
      have dl : decide (i < L) = true := decide_eq_true hlt
      have SB := hb.only ho1 hB
      have HX := box hx
      have HLO := box hlo
      have HHI := box hhi
      have HSS := box hs
      have HU := box hu2
      clear hx hv hlo hhi hs hu2 cn hvV
      go_wp2_with fail
      refine (l_at _ q M d m i x SB HX.out (by omega)).mono ?_
      rintro e w' ⟨rfl, rfl⟩
      go_wp2_with fail
      refine (l_mulAdd x t k lo hi2 x64 ht hk HLO.out HHI.out _).mono ?_
      rintro e w' ⟨rfl, rfl⟩
      go_wp2_with fail
      refine (add_is v lo u s u2 v64 lo64 HSS.out HU.out _).mono ?_
      rintro e w' ⟨rfl, rfl⟩
      go_wp2
      go_roundw
      case rel => exact ⟨i + 1, hi2, _, u2, by omega, hi64, by go_num, rfl, rfl, RS.out, ho1.setCell _, NA⟩
      case measure => simp [intOf] <;> omega
    · obtain rfl : i = L := by omega
      have VL : V < 2 ^ (64 * i) := by rw [← HV.out]; exact vw_lt _ _ _
      have ML : m < 2 ^ (64 * i) := Nat.lt_of_lt_of_le hb.1 (pow64_le _ _ hM)
      obtain ⟨e1, e2⟩ := addSt_end HA.out VL ML HMT.out
      rw [HS.out] at e1
      rw [HO.out] at e2
      subst e1 e2
      have dl : decide (i < i) = false := by rw [decide_eq_false_iff_not]; omega
      clear VL ML
      go_wp2
      go_ret
      exact ⟨rfl, r1, ho1⟩
theorem borrow_num (v lo s : Nat) (u p : Bool) (hv : v < 18446744073709551616) (hl : lo < 18446744073709551616) (hs : (v + 18446744073709551616 - lo - u.toNat) % 18446744073709551616 = s) (hp : decide (v < lo + u.toNat) = p) : s + lo + u.toNat = v + 18446744073709551616 * p.toNat := by
  have hu : u.toNat ≤ 1 := by cases u <;> decide
  by_cases e : v < lo + u.toNat
  · rw [decide_eq_true e] at hp
    subst hp
    rw [Bool.toNat_true]
    omega
  · rw [decide_eq_false e] at hp
    subst hp
    rw [Bool.toNat_false]
    omega

set_option maxHeartbeats 1000000 in
theorem l_takeFrom (w : World) (g o L c N X : Nat) (T : TypeId) (row : w.heap[g]? = some (.cells (cw N X) T)) (hN : o + L ≤ N) (q : Option Addr) (M d m B : Nat) (hb : SL B w q M d m) (hB : B ≤ g) (t : Nat) (ht : t < 18446744073709551616) (hL : L ≤ 100000) (hM : M ≤ L) (hmt : m * t < 2 ^ (64 * L)) (V S : Nat) (ov : Bool) (hV : vw X o L = V) (ho : decide (V < m * t) = ov) (hS : S + m * t = V + 2 ^ (64 * L) * ov.toNat) :
    Calls Tryz.prog 321 #[.slice (some ⟨g, o, none⟩) L c, .slice q M d, .int .u64 (t : Nat)] w fun r w' => r = .returned (.bool ov) ∧ w'.heap[g]? = some (.cells (cw N (putw X o L S)) T) ∧ Only g w w' := by
  have HMT := box hmt
  have HV := box hV
  have HS := box hS
  have HO := box ho
  clear hmt hV hS ho
  go_enter Tryz.func321, Tryz.ntmps321
  go_wp2
  go_loopw [6, 8, 12] (fun ovv cv iv wr => ∃ (i k S : Nat) (u : Bool), i ≤ L ∧ k < 18446744073709551616 ∧ iv = .int .i64 i ∧ cv = .int .u64 k ∧ ovv = .bool u ∧ wr.heap[g]? = some (.cells (cw N (putw X o i S)) T) ∧ Only g w wr ∧ Box (SubSt V m t i k S u)) (fun _ _ iv _ => L - (intOf iv).toNat)
  case atStart => exact ⟨0, 0, 0, false, by omega, by decide, rfl, rfl, rfl, by rw [putw_zero]; exact row, Only.refl _ _, box (subSt0 V m t)⟩
  case round =>
    obtain ⟨i, k, S', u, hi, hk, rfl, rfl, rfl, r1, ho1, HA⟩ := hrel
    by_cases hlt : i < L
    · obtain ⟨x, hx⟩ : ∃ x, wd m i = x := ⟨_, rfl⟩
      obtain ⟨v, hv⟩ : ∃ v, wd X (o + i) = v := ⟨_, rfl⟩
      obtain ⟨lo, hlo⟩ : ∃ lo, (x * t + k) % 18446744073709551616 = lo := ⟨_, rfl⟩
      obtain ⟨hi2, hhi⟩ : ∃ hi2, (x * t + k) / 18446744073709551616 = hi2 := ⟨_, rfl⟩
      obtain ⟨s, hs⟩ : ∃ s, (v + 18446744073709551616 - lo - u.toNat) % 18446744073709551616 = s := ⟨_, rfl⟩
      obtain ⟨u2, hu2⟩ : ∃ u2, decide (v < lo + u.toNat) = u2 := ⟨_, rfl⟩
      have x64 : x < 18446744073709551616 := by rw [← hx]; exact wd_lt _ _
      have v64 : v < 18446744073709551616 := by rw [← hv]; exact wd_lt _ _
      have lo64 : lo < 18446744073709551616 := by rw [← hlo]; exact Nat.mod_lt _ (by decide)
      have s64 : s < 18446744073709551616 := by rw [← hs]; exact Nat.mod_lt _ (by decide)
      have hi64 : hi2 < 18446744073709551616 := by
        have := mul_lt128 x t k 0 x64 ht hk (by decide)
        rwa [Nat.add_zero, hhi] at this
      have cn := borrow_num v lo s u u2 v64 lo64 hs hu2
      have hvV : wd V i = v := by rw [← HV.out, wd_vw X o L i hlt, hv]
      have NA : Box (SubSt V m t (i + 1) hi2 (S' + 2 ^ (64 * i) * s) u2) := box (subSt_next HA.out x v lo hi2 s u2 hx hvV lo64 (by omega) s64 cn)
      have c1 : wr.cell? ⟨g, o + i, none⟩ = some (.int .u64 (v : Nat)) := by
        rw [cell_of_row wr g (o + i) _ _ _ r1, cw_at _ _ _ (by omega), wd_putw_next X o i S' HA.out.1, hv]
      have f0 := fz (k := o + i) r1
      have RS : Box ((wr.setCell ⟨g, o + i, none⟩ (.int .u64 (s : Int))).heap[g]? = some (.cells (cw N (putw X o (i + 1) (S' + 2 ^ (64 * i) * s))) T)) := box (by rw [setCell_row r1, cw_set N _ (o + i) s (by omega) s64, putw_step X o i S' s HA.out.1])
      have dl : decide (i < L) = true := decide_eq_true hlt
      have SB := hb.only ho1 hB
      have HX := box hx
      have HLO := box hlo
      have HHI := box hhi
      have HSS := box hs
      have HU := box hu2
      clear hx hv hlo hhi hs hu2 cn hvV
      go_wp2_with fail
      refine (l_at _ q M d m i x SB HX.out (by omega)).mono ?_
      rintro e w' ⟨rfl, rfl⟩
      go_wp2_with fail
      refine (l_mulAdd x t k lo hi2 x64 ht hk HLO.out HHI.out _).mono ?_
      rintro e w' ⟨rfl, rfl⟩
      go_wp2_with fail
      refine (sub_is v lo u s u2 v64 lo64 HSS.out HU.out _).mono ?_
      rintro e w' ⟨rfl, rfl⟩
      go_wp2
      go_roundw
      case rel => exact ⟨i + 1, hi2, _, u2, by omega, hi64, by go_num, rfl, rfl, RS.out, ho1.setCell _, NA⟩
      case measure => simp [intOf] <;> omega
    · obtain rfl : i = L := by omega
      have VL : V < 2 ^ (64 * i) := by rw [← HV.out]; exact vw_lt _ _ _
      have ML : m < 2 ^ (64 * i) := Nat.lt_of_lt_of_le hb.1 (pow64_le _ _ hM)
      obtain ⟨e1, e2⟩ := subSt_end HA.out VL ML HMT.out
      rw [HO.out] at e2
      subst e2
      have e3 := HS.out
      have e1 : S' = S := by omega
      subst e1
      have dl : decide (i < i) = false := by rw [decide_eq_false_iff_not]; omega
      clear VL ML
      go_wp2
      go_ret
      exact ⟨rfl, r1, ho1⟩
end Go.Proofs.YtfmmeifipbpbmaaGreatDoor
namespace Go.Proofs.YtfmmeifipbpbmaaGreatDoor
set_option maxRecDepth 100000
open Go.RowKit WMath

theorem SL.cell {B : Nat} {w : World} {b o L c n : Nat} (h : SL B w (some ⟨b, o, none⟩) L c n) (k x : Nat) (hk : k < L) (hx : wd n k = x) : w.cell? ⟨b, o + k, none⟩ = some (.int .u64 (x : Nat)) := by
  obtain ⟨b', o', e, _, hc⟩ := h.2.2 (by omega)
  simp only [Option.some.injEq, Addr.mk.injEq] at e
  obtain ⟨rfl, rfl, _⟩ := e
  rw [hc k hk, hx]
theorem SL.ptr {B : Nat} {w : World} {p : Option Addr} {L c n : Nat} (h : SL B w p L c n) (hL : 0 < L) : ∃ b o, p = some ⟨b, o, none⟩ ∧ b < B := by
  obtain ⟨b, o, e, hb, _⟩ := h.2.2 hL
  exact ⟨b, o, e, hb⟩
/-- The list without its highest word, which is 0. -/
theorem SL.cut {B : Nat} {w : World} {p : Option Addr} {L c n : Nat} (h : SL B w p (L + 1) c n) (hz : wd n L = 0) : SL B w p L c n :=
  ⟨trim_step n L h.1 hz, by have := h.2.1; omega, fun hL => by
    obtain ⟨b, o, e, hb, hc⟩ := h.2.2 (by omega)
    exact ⟨b, o, e, hb, fun k hk => hc k (by omega)⟩⟩
theorem SL.row {w : World} {b N X c : Nat} {T : TypeId} (r : w.heap[b]? = some (.cells (cw N X) T)) (B : Nat) (hB : b < B) (hX : X < 2 ^ (64 * N)) (hc : N ≤ c) : SL B w (some ⟨b, 0, none⟩) N c X :=
  ⟨hX, hc, fun _ => ⟨b, 0, rfl, hB, fun k hk => by rw [Nat.zero_add, cell_of_row w b k _ _ _ r, cw_at N X k hk]⟩⟩

/-- How long a slice is. -/
def lenOf : Value → Nat | .slice _ k _ => k | _ => 0

set_option maxHeartbeats 1000000 in
theorem l_trim (w : World) (p : Option Addr) (L c n M B : Nat) (h : SL B w p L c n) (hL : L ≤ 100000) (hM : wl n = M) :
    Calls Tryz.prog 288 #[.slice p L c] w fun r w' => ∃ q d, r = .returned (.slice q M d) ∧ SL B w q M d n ∧ w' = w := by
  have HM := box hM
  clear hM
  go_enter Tryz.func288, Tryz.ntmps288
  go_wp2
  go_loopw [0] (fun lv wr => ∃ k, lv = .slice p k c ∧ k ≤ L ∧ SL B w p k c n ∧ wr = w) (fun lv _ => lenOf lv)
  case atStart => exact ⟨L, rfl, Nat.le_refl _, h, rfl⟩
  case round =>
    obtain ⟨k, rfl, hk, hs, rfl⟩ := hrel
    by_cases h0 : k = 0
    · subst h0
      have e : n = 0 := by have := hs.1; rw [Nat.mul_zero, Nat.pow_zero] at this; omega
      subst e
      have e2 := HM.out
      rw [wl_zero] at e2
      subst e2
      clear h
      go_wp2
      go_ret
      exact ⟨p, c, rfl, hs, rfl⟩
    · obtain ⟨b, o, rfl, hb⟩ := hs.ptr (by omega)
      obtain ⟨K, rfl⟩ : ∃ K, k = K + 1 := ⟨k - 1, by omega⟩
      obtain ⟨x, hx⟩ : ∃ x, wd n K = x := ⟨_, rfl⟩
      have x64 : x < 18446744073709551616 := by rw [← hx]; exact wd_lt _ _
      have c1 := hs.cell K x (by omega) hx
      have hc := hs.2.1
      have n1 : IntKind.i64.wrap (((K + 1 : Nat) : Int) - 1) = (K : Int) := by rw [wrap_i64_is _ (by omega) (by omega)]; omega
      have n2 : IntKind.i64.wrap ((K : Int) + 1 - 1) = (K : Int) := by rw [wrap_i64_is _ (by omega) (by omega)]; omega
      by_cases hx0 : x = 0
      · subst hx0
        have S2 := box (hs.cut hx)
        clear hx hs h
        go_wp2
        go_roundw
        case rel => exact ⟨K, rfl, by omega, S2.out, by first | rfl | trivial⟩
        case measure => simp [lenOf]
      · have e : wl n = K + 1 := wl_is n (K + 1) hs.1 (Or.inr (by rw [Nat.add_sub_cancel, hx]; exact hx0))
        rw [HM.out] at e
        subst e
        have S2 := box hs
        have d1 : decide (x = 0) = false := decide_eq_false hx0
        clear hx hs h
        go_wp2
        go_ret
        exact ⟨_, c, rfl, S2.out, rfl⟩

theorem l_bitLen (w : World) (p : Option Addr) (L c n l B : Nat) (h : SL B w p L c n) (hL : L ≤ 100000) (hM : wl n = L) (hl : blen n = l) :
    Calls Tryz.prog 286 #[.slice p L c] w fun r w' => r = .returned (.int .i64 (l : Nat)) ∧ w' = w := by
  by_cases h0 : L = 0
  · subst h0
    have e : n = 0 := wl_eq0 n hM
    subst e
    rw [blen_zero] at hl
    subst hl
    clear hM h
    go_enter Tryz.func286, Tryz.ntmps286
    go_wp2
    go_ret
    exact ⟨rfl, rfl⟩
  · obtain ⟨b, o, rfl, hb⟩ := h.ptr (by omega)
    obtain ⟨K, rfl⟩ : ∃ K, L = K + 1 := ⟨L - 1, by omega⟩
    obtain ⟨x, hx⟩ : ∃ x, wd n K = x := ⟨_, rfl⟩
    obtain ⟨y, hy⟩ : ∃ y, Lib.bitLen x = y := ⟨_, rfl⟩
    have x64 : x < 18446744073709551616 := by rw [← hx]; exact wd_lt _ _
    have c1 := h.cell K x (by omega) hx
    have hn : n ≠ 0 := fun e => by rw [e, wl_zero] at hM; omega
    have e := blen_wl n hn
    rw [hM, Nat.add_sub_cancel, hx, hl, ← bitLen_blen x x64, hy] at e
    have hy64 : y ≤ 64 := by rw [← hy, bitLen_blen x x64]; exact blen_le_of x 64 (by rw [← two64]; exact x64)
    have d1 : decide (K + 1 = 0) = false := decide_eq_false (by omega)
    have n1 : ((K + 1 : Nat) : Int) - 1 = (K : Int) := by omega
    have n2 : IntKind.i64.wrap ((K : Int) * 64) = (K : Int) * 64 := wrap_i64_is _ (by omega) (by omega)
    have n3 : IntKind.i64.wrap ((K : Int) * 64 + (y : Int)) = (l : Int) := by rw [wrap_i64_is _ (by omega) (by omega)]; omega
    have n4 : IntKind.i64.wrap (K : Int) = (K : Int) := wrap_i64_is _ (by omega) (by omega)
    have HY := box hy
    clear hM hl hx hy h e hn
    go_enter Tryz.func286, Tryz.ntmps286
    go_wp2_with fail
    refine (len_any x x64 _).mono ?_
    rintro e w' ⟨rfl, rfl⟩
    rw [HY.out]
    go_wp2
    go_ret
    exact ⟨rfl, rfl⟩
end Go.Proofs.YtfmmeifipbpbmaaGreatDoor
namespace Go.Proofs.YtfmmeifipbpbmaaGreatDoor
set_option maxRecDepth 100000
open Go.RowKit WMath

theorem cw_made (L : Nat) : madeCells #[.int .u64 0] L = cw L 0 := by
  apply Array.ext_getElem?
  intro i
  by_cases h : i < L
  · rw [cw_at L 0 i h, wd_zero]
    simp [madeCells, h, Nat.mod_one]
  · rw [Array.getElem?_eq_none (by rw [size_madeCells]; omega), Array.getElem?_eq_none (by rw [cw_size]; omega)]
theorem cw_make (L : Nat) (k : Int) (hk : k = (L : Int)) (h : L ≤ 1000000) (w : World) : (Instr.makeSlice 248 (.int .i64 k) (.int .i64 k)).run Tryz.prog w = .ok (.slice (some ⟨w.heap.size, 0, none⟩) L L) (w.alloc (.cells (cw L 0) 23)) := by
  subst hk
  rw [← cw_made]
  exact run_make_row' (P := Tryz.prog) 248 23 (.int .u64 0) 8 Tryz.underlying248 (by kernel_rfl) rfl .i64 .i64 L (by omega) (by omega) w

/-- A copy of a list into a new row that is at least as long. -/
theorem copy_row {w : World} {g N X : Nat} {T : TypeId} (r : w.heap[g]? = some (.cells (cw N X) T)) (p : Option Addr) (L c a B : Nat) (h : SL B w p L c a) (hL : L ≤ N) (hX : X = 0) (ts : TypeId) (ty : TypeId) :
    (Builtin.copy_ #[248, ts] ty #[.slice (some ⟨g, 0, none⟩) N N, .slice p L c]).run Tryz.prog w = .ok (goInt L) (w.setRow g (cw N a)) := by
  subst hX
  have hsz : (Tryz.prog.info? 23).map (·.size) = some 1 := by kernel_rfl
  by_cases h0 : L = 0
  · subst h0
    have e : a = 0 := by have := h.1; rw [Nat.mul_zero, Nat.pow_zero] at this; omega
    subst e
    rw [setRow_self w g _ _ _ r]
    cases hq : Tryz.prog.info? 23 with
    | none => rw [hq] at hsz; simp at hsz
    | some i =>
      rcases p with _ | p
      · simp [Builtin.copy_, run_underlying Tryz.underlying248, Builtin.lenOf, Builtin.firstCells, sizeOf, typeInfo, hq, storeCells]
      · simp [Builtin.copy_, run_underlying Tryz.underlying248, Builtin.lenOf, Builtin.firstCells, sizeOf, typeInfo, hq, storeCells, loadCells, loadCellsFrom]
  · obtain ⟨b, o, rfl, hb⟩ := h.ptr (by omega)
    have hlen : (cw L a).toList.length = L := by simp [cw_size]
    have hadd : ∀ j, (⟨b, o, none⟩ : Addr).add j = ⟨b, o + j, none⟩ := fun j => by unfold Addr.add; split <;> simp_all
    have hrun := run_copy_row (P := Tryz.prog) w 248 ts ty 23 g 0 N N ⟨b, o, none⟩ L c (cw N 0) T (cw L a).toList Tryz.underlying248 hsz r (by rw [hlen]; exact (Nat.min_eq_left hL).symm)
      (fun j v hv => by
        have hj : j < L := by
          have := (List.getElem?_eq_some_iff.1 hv).1
          rwa [hlen] at this
        rw [hadd, h.cell j _ hj rfl, ← hv, Array.getElem?_toList, cw_at L a j hj]) (by rw [hlen, cw_size]; omega)
      (fun v hv => (Array.all_eq_true_iff_forall_mem.1 (cw_oneCell L a)) v (by simpa using hv))
    have e : ((cw N 0).toList.take 0 ++ (cw L a).toList ++ (cw N 0).toList.drop (0 + L)).toArray = cw N a := by
      apply Array.ext_getElem?
      intro k
      by_cases hk : k < N
      · rw [cw_at N a k hk]
        simp only [List.take_zero, List.nil_append, Nat.zero_add, List.getElem?_toArray]
        rw [List.getElem?_append, hlen]
        by_cases hk2 : k < L
        · rw [if_pos hk2, Array.getElem?_toList, cw_at L a k hk2]
        · rw [if_neg hk2, List.getElem?_drop, Array.getElem?_toList, show L + (k - L) = k by omega, cw_at N 0 k hk, wd_zero, wd_high h.1 (by omega)]
      · rw [Array.getElem?_eq_none (by simp [cw_size]; omega), Array.getElem?_eq_none (by rw [cw_size]; omega)]
    rw [hlen, e] at hrun
    exact hrun

theorem putw_whole (X N S : Nat) (hX : X < 2 ^ (64 * N)) : putw X 0 N S = S := by
  rw [putw_top X 0 N S (by rw [Nat.zero_add]; exact hX), Nat.mul_zero, Nat.pow_zero, Nat.mod_one]
  omega

set_option maxRecDepth 100000 in
set_option maxHeartbeats 1000000 in
theorem l_sum (w : World) (p q : Option Addr) (L c a M d b B K : Nat) (ha : SL B w p L c a) (hb : SL B w q M d b) (hB : B ≤ w.heap.size) (hL : L ≤ 50000) (hM : M ≤ 50000) (hK : wl (a + b) = K) :
    Calls Tryz.prog 281 #[.slice p L c, .slice q M d] w fun r w' => ∃ u e, r = .returned (.slice u K e) ∧ SL w'.heap.size w' u K e (a + b) ∧ Below w.heap.size w w' := by
  obtain ⟨n, hn⟩ : ∃ n, max L M = n := ⟨_, rfl⟩
  obtain ⟨N, hN⟩ : ∃ N, n + 1 = N := ⟨_, rfl⟩
  have hmk := cw_make N ((n : Int) + 1) (by omega) (by omega)
  have hcase : (L < M ∧ M = n) ∨ ((L < M) = False ∧ L = n) := by
    by_cases h : L < M
    · left; exact ⟨h, by omega⟩
    · right; exact ⟨eq_false h, by omega⟩
  have r0 : (w.alloc (.cells (cw N 0) 23)).heap[w.heap.size]? = some (.cells (cw N 0) 23) := heap_alloc_last _ _
  have b0 : Below w.heap.size w (w.alloc (.cells (cw N 0) 23)) := (Below.refl _ _).alloc (Nat.le_refl _) _
  have hcp := copy_row r0 p L c a B (ha.below b0 hB) (by omega) rfl 248 3
  obtain ⟨W1, hW1⟩ : ∃ W1, (w.alloc (.cells (cw N 0) 23)).setRow w.heap.size (cw N a) = W1 := ⟨_, rfl⟩
  rw [hW1] at hcp
  have r1 : W1.heap[w.heap.size]? = some (.cells (cw N a) 23) := by rw [← hW1]; exact setRow_row r0
  have b1 : Below w.heap.size w W1 := by rw [← hW1]; exact Below.setRow b0 (Nat.le_refl _)
  have sb := hb.below b1 hB
  have aN : a < 2 ^ (64 * n) := Nat.lt_of_lt_of_le ha.1 (pow64_le _ _ (by omega))
  have bN : b < 2 ^ (64 * n) := Nat.lt_of_lt_of_le hb.1 (pow64_le _ _ (by omega))
  have aN2 : a < 2 ^ (64 * N) := Nat.lt_of_lt_of_le aN (pow64_le _ _ (by omega))
  have abN : a + b < 2 ^ (64 * N) := by rw [← hN, pow64]; omega
  have A1 : Box (b * 1 < 2 ^ (64 * N)) := box (by omega)
  have A2 := box (vw_all a N aN2)
  have A3 : Box ((a + b * 1) % 2 ^ (64 * N) = a + b) := box (by rw [Nat.mul_one, Nat.mod_eq_of_lt abN])
  have A4 := box (putw_whole a N (a + b) aN2)
  have A5 := box abN
  have HK := box hK
  have hM2 : M ≤ N := by omega
  have hN2 : N ≤ 100000 := by omega
  clear hn r0 b0 hW1 aN bN aN2 abN ha hb hK
  rcases hcase with ⟨h1, hn⟩ | ⟨h1, hn⟩
  all_goals
    subst hn
    go_enter Tryz.func281, Tryz.ntmps281
    go_wp2_with fail
    refine (l_addTo W1 w.heap.size 0 N N N a 23 r1 (by omega) q M d b B sb hB 1 (by decide) hN2 hM2 A1.out a (a + b) _ A2.out A3.out rfl).mono ?_
    rintro e w2 ⟨rfl, r2, ho2⟩
    rw [A4.out] at r2
    have b2 : Below w.heap.size w w2 := ho2.toBelow b1 (Nat.le_refl _) b1.size
    have s2 : SL w2.heap.size w2 (some ⟨w.heap.size, 0, none⟩) N N (a + b) := SL.row r2 _ (Array.getElem?_eq_some_iff.1 r2).1 A5.out (Nat.le_refl _)
    clear hcp
    go_wp2_with fail
    refine (l_trim w2 _ N N (a + b) K _ s2 hN2 HK.out).mono ?_
    rintro e w3 ⟨u, v, rfl, s3, rfl⟩
    go_wp2
    go_ret
    exact ⟨u, v, rfl, s3, b2⟩
end Go.Proofs.YtfmmeifipbpbmaaGreatDoor
namespace Go.Proofs.YtfmmeifipbpbmaaGreatDoor
set_option maxRecDepth 100000
open Go.RowKit WMath

/-- Which of two numbers is the greater one. -/
def cmpi (x y : Int) : Int := if x < y then -1 else if y < x then 1 else 0
theorem cmpi_nat (a b : Nat) : cmpi a b = cmpv a b := by
  unfold cmpi cmpv
  by_cases h : a = b
  · subst h; simp
  · by_cases h2 : a < b
    · rw [if_pos (by omega), if_neg h, if_pos h2]
    · rw [if_neg (by omega), if_pos (by omega), if_neg h, if_neg h2]
theorem cmpi_case (x y : Int) (c : Int) (hc : cmpi x y = c) : (decide (x < y) = true ∧ c = -1) ∨ (decide (x < y) = false ∧ decide (y < x) = true ∧ c = 1) ∨ (decide (x < y) = false ∧ decide (y < x) = false ∧ c = 0) := by
  unfold cmpi at hc
  by_cases h : x < y
  · rw [if_pos h] at hc; exact Or.inl ⟨decide_eq_true h, hc.symm⟩
  · rw [if_neg h] at hc
    by_cases h2 : y < x
    · rw [if_pos h2] at hc; exact Or.inr (Or.inl ⟨decide_eq_false h, decide_eq_true h2, hc.symm⟩)
    · rw [if_neg h2] at hc; exact Or.inr (Or.inr ⟨decide_eq_false h, decide_eq_false h2, hc.symm⟩)

theorem nan_int (x : Int) (w : World) : Calls Tryz.prog 244 #[.int .i64 x] w fun r w' => r = .returned (.bool false) ∧ w' = w := by
  go_enter Tryz.func244, Tryz.ntmps244
  go_wp2
  go_ret
  exact ⟨rfl, rfl⟩
theorem cmp_int (x y : Int) (c : Int) (hc : cmpi x y = c) (w : World) : Calls Tryz.prog 169 #[.int .i64 x, .int .i64 y] w fun r w' => r = .returned (.int .i64 c) ∧ w' = w := by
  have hcase := cmpi_case x y c hc
  clear hc
  rcases hcase with ⟨h1, rfl⟩ | ⟨h1, h2, rfl⟩ | ⟨h1, h2, rfl⟩
  all_goals
    go_enter Tryz.func169, Tryz.ntmps169
    go_wp2_with fail
    refine (nan_int x _).mono ?_
    rintro e w' ⟨rfl, rfl⟩
    go_wp2_with fail
    refine (nan_int y _).mono ?_
    rintro e w' ⟨rfl, rfl⟩
    go_wp2
    go_ret
    exact ⟨rfl, rfl⟩
theorem nan_word (x : Int) (w : World) : Calls Tryz.prog 344 #[.int .u64 x] w fun r w' => r = .returned (.bool false) ∧ w' = w := by
  go_enter Tryz.func344, Tryz.ntmps344
  go_wp2
  go_ret
  exact ⟨rfl, rfl⟩
theorem cmp_word (x y : Int) (c : Int) (hc : cmpi x y = c) (w : World) : Calls Tryz.prog 338 #[.int .u64 x, .int .u64 y] w fun r w' => r = .returned (.int .i64 c) ∧ w' = w := by
  have hcase := cmpi_case x y c hc
  clear hc
  rcases hcase with ⟨h1, rfl⟩ | ⟨h1, h2, rfl⟩ | ⟨h1, h2, rfl⟩
  all_goals
    go_enter Tryz.func338, Tryz.ntmps338
    go_wp2_with fail
    refine (nan_word x _).mono ?_
    rintro e w' ⟨rfl, rfl⟩
    go_wp2_with fail
    refine (nan_word y _).mono ?_
    rintro e w' ⟨rfl, rfl⟩
    go_wp2
    go_ret
    exact ⟨rfl, rfl⟩

theorem div_wd (a i : Nat) : a / 2 ^ (64 * i) = 18446744073709551616 * (a / 2 ^ (64 * (i + 1))) + wd a i := by
  unfold wd
  rw [pow64, ← Nat.div_div_eq_div_mul]
  omega
theorem hi_lt (a b i : Nat) (h : a / 2 ^ (64 * (i + 1)) = b / 2 ^ (64 * (i + 1))) (hw : wd a i < wd b i) : a < b := by
  have h1 := div_wd a i
  have h2 := div_wd b i
  by_cases e : a < b
  · exact e
  · have := Nat.div_le_div_right (c := 2 ^ (64 * i)) (show b ≤ a by omega)
    omega
theorem cmpv_lt (a b : Nat) (h : a < b) : cmpv a b = -1 := by unfold cmpv; rw [if_neg (by omega), if_pos h]
theorem cmpv_gt (a b : Nat) (h : b < a) : cmpv a b = 1 := by unfold cmpv; rw [if_neg (by omega), if_neg (by omega)]
theorem cmpv_hi (a b i : Nat) (h : a / 2 ^ (64 * (i + 1)) = b / 2 ^ (64 * (i + 1))) (hw : wd a i ≠ wd b i) : cmpv (wd a i) (wd b i) = cmpv a b := by
  by_cases e : wd a i < wd b i
  · rw [cmpv_lt _ _ e, cmpv_lt a b (hi_lt a b i h e)]
  · rw [cmpv_gt _ _ (show wd b i < wd a i by omega), cmpv_gt a b (hi_lt b a i h.symm (by omega))]

set_option maxRecDepth 100000 in
set_option maxHeartbeats 1000000 in
theorem l_compare (w : World) (p q : Option Addr) (L c a M d b B B2 : Nat) (k : Int) (ha : SL B w p L c a) (hb : SL B2 w q M d b) (hL : L ≤ 50000) (hM : M ≤ 50000) (la : wl a = L) (lb : wl b = M) (hB : B ≤ w.heap.size) (hB2 : B2 ≤ w.heap.size) (hk : cmpv a b = k) :
    Calls Tryz.prog 332 #[.slice p L c, .slice q M d] w fun r w' => r = .returned (.int .i64 k) ∧ Below w.heap.size w w' := by
  by_cases h : L = M
  · subst h
    have K := box hk
    have AL := box ha.1
    have BL := box hb.1
    have dn : ((L : Int) != (L : Int)) = false := by simp
    clear hk la lb hM
    have n0 : IntKind.i64.wrap ((L : Int) - 1) = (L : Int) - 1 := wrap_i64_is _ (by omega) (by omega)
    go_enter Tryz.func332, Tryz.ntmps332
    go_wp2
    go_loopw [5] (fun iv wr => ∃ i : Nat, i ≤ L ∧ iv = .int .i64 ((i : Int) - 1) ∧ Below w.heap.size w wr ∧ Box (a / 2 ^ (64 * i) = b / 2 ^ (64 * i))) (fun iv _ => (intOf iv + 1).toNat)
    case atStart => exact ⟨L, Nat.le_refl _, rfl, Below.refl _ _, box (by rw [Nat.div_eq_of_lt AL.out, Nat.div_eq_of_lt BL.out])⟩
    case round =>
      obtain ⟨i, hi, rfl, hbw, HE⟩ := hrel
      by_cases h0 : i = 0
      · subst h0
        have e : a = b := by simpa using HE.out
        subst e
        have e2 : k = 0 := by rw [← K.out]; unfold cmpv; rw [if_pos rfl]
        subst e2
        go_wp2
        go_ret
        exact ⟨rfl, hbw⟩
      · obtain ⟨j, rfl⟩ : ∃ j, i = j + 1 := ⟨i - 1, by omega⟩
        obtain ⟨ba, oa, rfl, _⟩ := ha.ptr (by omega)
        obtain ⟨bb, ob, rfl, _⟩ := hb.ptr (by omega)
        obtain ⟨x, hx⟩ : ∃ x, wd a j = x := ⟨_, rfl⟩
        obtain ⟨y, hy⟩ : ∃ y, wd b j = y := ⟨_, rfl⟩
        have c1 := (ha.below hbw hB).cell j x (by omega) hx
        have c2 := (hb.below hbw hB2).cell j y (by omega) hy
        have ej : (((j + 1 : Nat) : Int) - 1) = (j : Int) := by omega
        rw [ej]
        have hjL : j < L := by omega
        have hji : (j : Int) < (L : Int) := by omega
        have n1 : IntKind.i64.wrap ((j : Int) - 1) = (j : Int) - 1 := wrap_i64_is _ (by omega) (by omega)
        have SA := box ha
        have SB := box hb
        by_cases hxy : x = y
        · have NE : Box (a / 2 ^ (64 * j) = b / 2 ^ (64 * j)) := box (by rw [div_wd, div_wd b, HE.out, hx, hy, hxy])
          subst hxy
          clear hx hy ha hb HE ej
          go_wp2
          go_quiet (fail)
          go_wp2
          go_roundw
          case rel => exact ⟨j, by omega, by first | rfl | go_num, below_drewN hbw _, NE⟩
          case measure => simp [intOf]
        · have E : Box (cmpi x y = k) := box (by rw [cmpi_nat, ← K.out, ← hx, ← hy]; exact cmpv_hi a b j HE.out (by rw [hx, hy]; exact hxy))
          have dn2 : ((x : Int) != (y : Int)) = true := by simp; omega
          have hxy2 : ¬ (x : Int) = (y : Int) := by omega
          clear hx hy ha hb HE ej
          go_wp2
          go_quiet (fail)
          go_wp2
          go_quiet ((go_at_call 338; exact (cmp_word _ _ k E.out _).mono (fun _ _ h => ⟨h.1, _, h.2⟩)))
          go_wp2
          go_ret
          exact ⟨rfl, below_drewN (below_drewN hbw _) _⟩
  · have hne : ((L : Int) != (M : Int)) = true := by simp; omega
    have e : cmpi (L : Int) (M : Int) = k := by
      rw [cmpi_nat, ← hk]
      by_cases h2 : L < M
      · rw [cmpv_lt _ _ h2, cmpv_lt a b (wl_lt_of a b (by omega))]
      · rw [cmpv_gt _ _ (show M < L by omega), cmpv_gt a b (wl_lt_of b a (by omega))]
    have E := box e
    clear e hk la lb ha hb
    go_enter Tryz.func332, Tryz.ntmps332
    go_wp2_with fail
    refine (cmp_int _ _ k E.out _).mono ?_
    rintro e w' ⟨rfl, rfl⟩
    go_wp2
    go_ret
    exact ⟨rfl, Below.refl _ _⟩
end Go.Proofs.YtfmmeifipbpbmaaGreatDoor
namespace Go.Proofs.YtfmmeifipbpbmaaGreatDoor
set_option maxRecDepth 100000
open Go.RowKit WMath

theorem cnt_is (k : Nat) (h : k ≤ 64) : cnt (k : Int) = k := by unfold cnt; omega
theorem l_left (x k v : Nat) (hk : k ≤ 64) (hv : x * 2 ^ k % 18446744073709551616 = v) (w : World) :
    Calls Tryz.prog 271 #[.int .u64 x, .int .i64 (k : Nat)] w fun e w' => e = .returned (.int .u64 (v : Nat)) ∧ w' = w := by
  have := left_any x (k : Int) w
  rwa [cnt_is k hk, hv] at this
theorem l_right (x k v : Nat) (hk : k ≤ 64) (hv : x / 2 ^ k = v) (w : World) :
    Calls Tryz.prog 272 #[.int .u64 x, .int .i64 (k : Nat)] w fun e w' => e = .returned (.int .u64 (v : Nat)) ∧ w' = w := by
  have := right_any x (k : Int) w
  rwa [cnt_is k hk, hv] at this
theorem idx_runN (s : ByteArray) (k : Nat) (i : Int) (d : Nat) (hi : i = (k : Int)) (hk : k < s.size) (hd : (s[k]'hk).toNat = d) (w : World) :
    (Instr.index 39 (.string s) (.int .i64 i)).run Tryz.prog w = .ok (.int .u8 (d : Nat)) w := by
  subst hi hd
  rw [run_index_string (P := Tryz.prog) w 39 s _ _ Tryz.underlying39, dif_pos ⟨by omega, by omega⟩]
  simp

/-- The bytes of n from the place p on, at their places. -/
def hiB (n p : Nat) : Nat := n / 2 ^ (8 * p) * 2 ^ (8 * p)
theorem hiB_step (n p x : Nat) (hx : d8 n p = x) : hiB n p = hiB n (p + 1) ||| x * 2 ^ (8 * (p % 8)) * 2 ^ (64 * (p / 8)) := by
  have e : n / 2 ^ (8 * p) = 256 * (n / 2 ^ (8 * (p + 1))) + x := by
    rw [← hx, pow8, ← Nat.div_div_eq_div_mul]
    unfold d8
    omega
  have x256 : x < 256 := by rw [← hx]; exact d8_lt _ _
  unfold hiB
  rw [e, Nat.mul_assoc x, ← Nat.pow_add, show 8 * (p % 8) + 64 * (p / 8) = 8 * p by omega, Nat.or_comm, ← or_disj _ _ _ (show x * 2 ^ (8 * p) < 2 ^ (8 * (p + 1)) by
    rw [pow8, Nat.mul_comm]; exact Nat.mul_lt_mul_of_pos_left x256 (Nat.two_pow_pos _)), Nat.add_mul, pow8, Nat.mul_comm (2 ^ (8 * p)) 256, ← Nat.mul_assoc, Nat.mul_comm 256]
  omega
theorem hiB_zero (n : Nat) : hiB n 0 = n := by unfold hiB; simp
theorem hiB_top (n L : Nat) (h : n < 2 ^ (8 * L)) : hiB n L = 0 := by unfold hiB; rw [Nat.div_eq_of_lt h, Nat.zero_mul]
theorem byte_sh (x r : Nat) (hx : x < 256) (hr : r < 8) : x * 2 ^ (8 * r) < 18446744073709551616 := by
  have h1 : x * 2 ^ (8 * r) < 256 * 2 ^ (8 * r) := Nat.mul_lt_mul_of_pos_right hx (Nat.two_pow_pos _)
  have h2 : 256 * 2 ^ (8 * r) = 2 ^ (8 * (r + 1)) := by rw [pow8, Nat.mul_comm]
  have h3 : 2 ^ (8 * (r + 1)) ≤ 2 ^ 64 := Nat.pow_le_pow_right (by decide) (by omega)
  rw [← two64] at h3
  omega

set_option maxRecDepth 100000 in
set_option maxHeartbeats 1000000 in
theorem l_wordsOf (n K : Nat) (s : ByteArray) (hs : nbA n = s) (hn : nl n ≤ 100000) (hK : wl n = K) (w : World) :
    Calls Tryz.prog 238 #[.string s] w fun r w' => ∃ u e, r = .returned (.slice u K e) ∧ SL w'.heap.size w' u K e n ∧ Below w.heap.size w w' := by
  obtain ⟨L, hL⟩ : ∃ L, nl n = L := ⟨_, rfl⟩
  have hz : s.size = L := by rw [← hs, nbA_size, hL]
  have hKL : K = (L + 7) / 8 := by rw [← hK, wl_nl, hL]
  rw [hL] at hn
  have n1 : IntKind.i64.wrap ((L : Int) + 8) = (L : Int) + 8 := wrap_i64_is _ (by omega) (by omega)
  have n2 : IntKind.i64.wrap ((L : Int) + 8 - 1) = (L : Int) + 8 - 1 := wrap_i64_is _ (by omega) (by omega)
  have hmk := cw_make K (((L : Int) + 8 - 1) / 8) (by omega) (by omega)
  have HS := box hs
  have HL := box hL
  have HK := box hK
  have HKL := box hKL
  clear hs hL hK hKL
  go_enter Tryz.func238, Tryz.ntmps238
  go_wp2
  clear hmk n1 n2
  obtain ⟨g, hg⟩ : ∃ g, w.heap.size = g := ⟨_, rfl⟩
  have r0 : (w.alloc (.cells (cw K 0) 23)).heap[g]? = some (.cells (cw K 0) 23) := by rw [← hg]; exact heap_alloc_last _ _
  have b0 : Below g w (w.alloc (.cells (cw K 0) 23)) := by rw [← hg]; exact (Below.refl _ _).alloc (Nat.le_refl _) _
  rw [hg]
  go_loopw [14] (fun iv wr => ∃ (i X : Nat), i ≤ L ∧ iv = .int .i64 i ∧ wr.heap[g]? = some (.cells (cw K X) 23) ∧ Below g w wr ∧ Box (X = hiB n (L - i))) (fun iv _ => L - (intOf iv).toNat)
  case atStart => exact ⟨0, 0, by omega, rfl, r0, b0, box (by rw [Nat.sub_zero, hiB_top n L (by rw [← HL.out]; exact nl_lt n)])⟩
  case round =>
    clear r0 b0
    obtain ⟨i, X, hi, rfl, r1, hbw, HX⟩ := hrel
    by_cases hlt : i < L
    · obtain ⟨pl, hpl⟩ : ∃ pl, L - 1 - i = pl := ⟨_, rfl⟩
      obtain ⟨x, hx⟩ : ∃ x, d8 n pl = x := ⟨_, rfl⟩
      obtain ⟨q, hq⟩ : ∃ q, pl / 8 = q := ⟨_, rfl⟩
      obtain ⟨r, hr⟩ : ∃ r, pl % 8 = r := ⟨_, rfl⟩
      have x256 : x < 256 := by rw [← hx]; exact d8_lt n pl
      have hxi : ∃ h : i < s.size, (s[i]'h).toNat = x := by
        have h1 : i < s.size := by omega
        refine ⟨h1, ?_⟩
        have e := HS.out
        subst e
        rw [nbA_get, HL.out, hpl, hx]
      obtain ⟨hi2, hxx⟩ := hxi
      have hxr := idx_runN s i (i : Int) x rfl hi2 hxx
      have n1 : IntKind.i64.wrap ((L : Int) - 1) = (L : Int) - 1 := wrap_i64_is _ (by omega) (by omega)
      have n2 : IntKind.i64.wrap ((L : Int) - 1 - (i : Int)) = (pl : Int) := by rw [wrap_i64_is _ (by omega) (by omega)]; omega
      have n2' : (L : Int) - 1 - (i : Int) = (pl : Int) := by omega
      have q1 : (pl : Int) / 8 = (q : Int) := by omega
      have tm : (pl : Int).tmod 8 = (r : Int) := by rw [Int.tmod_eq_emod_of_nonneg (by omega)]; omega
      have tm2 : (pl : Int) % 8 = (r : Int) := by omega
      have w1 : IntKind.i64.wrap (q : Int) = (q : Int) := wrap_i64_is _ (by omega) (by omega)
      obtain ⟨k, hk⟩ : ∃ k, 8 * r = k := ⟨_, rfl⟩
      have w2 : IntKind.i64.wrap (k : Int) = (k : Int) := wrap_i64_is _ (by omega) (by omega)
      have w3 : (r : Int) * 8 = (k : Int) := by omega
      have n4 : IntKind.u64.wrap (x : Int) = (x : Int) := by rw [IntKind.wrap_u64]; omega
      obtain ⟨y, hy⟩ : ∃ y, x * 2 ^ k = y := ⟨_, rfl⟩
      have y64 : y < 18446744073709551616 := by rw [← hy, ← hk]; exact byte_sh x r x256 (by omega)
      have hle := l_left x k y (by omega) (by rw [hy, Nat.mod_eq_of_lt y64])
      have e1 := hiB_step n pl x hx
      rw [hq, hr, hk, hy, show pl + 1 = L - i by omega, ← HX.out] at e1
      obtain ⟨Y, hY⟩ : ∃ Y, hiB n pl = Y := ⟨_, rfl⟩
      rw [hY] at e1
      have qK : q < K := by rw [HKL.out]; omega
      have qKi : (q : Int) < (K : Int) := by omega
      have x3 := bor X q y y64
      have x4 := cw_or K X q y Y qK y64 e1
      have c1 : wr.cell? ⟨g, q, none⟩ = some (.int .u64 (wd X q : Nat)) := by rw [cell_of_row wr g q _ _ _ r1, cw_at K X q qK]
      have f0 := fz (k := q) r1
      have R2 : Box ((wr.setCell ⟨g, q, none⟩ (.int .u64 ((wd X q ||| y : Nat) : Int))).heap[g]? = some (.cells (cw K Y) 23)) := box (by rw [setCell_row r1, x4])
      have B2 : Box (Below g w (wr.setCell ⟨g, q, none⟩ (.int .u64 ((wd X q ||| y : Nat) : Int)))) := box (hbw.setCell (Nat.le_refl _) _)
      have NX : Box (Y = hiB n (L - (i + 1))) := box (by rw [← hY, ← hpl, show L - (i + 1) = L - 1 - i by omega])
      have dl : decide (i < L) = true := decide_eq_true hlt
      have LE := box hle
      clear hpl hx hq hr hk hy hY e1 x4 HX hxx hle
      go_wp2
      go_region_with (go_at_call 271; refine (LE.out _).mono ?_; rintro e w' ⟨rfl, rfl⟩)
      all_goals go_wp2
      all_goals go_roundw
      all_goals first | (show (_ : Nat) < _; simp [intOf]; omega) | exact ⟨i + 1, Y, by omega, by go_num, R2.out, below_drewN B2.out _, NX⟩
    · obtain rfl : i = L := by omega
      have e := HX.out
      rw [Nat.sub_self, hiB_zero] at e
      subst e
      have s2 : SL wr.heap.size wr (some ⟨g, 0, none⟩) K K X := SL.row r1 _ (Array.getElem?_eq_some_iff.1 r1).1 (by rw [← HK.out]; exact wl_lt X) (Nat.le_refl _)
      have dl : decide (i < i) = false := by rw [decide_eq_false_iff_not]; omega
      go_wp2
      go_ret
      exact ⟨_, _, rfl, s2, by rw [hg]; exact hbw⟩
theorem ld8_wd (n p : Nat) : wd n (p / 8) / 2 ^ (8 * (p % 8)) % 256 = d8 n p := by
  apply Nat.eq_of_testBit_eq
  intro j
  rw [two8, Nat.testBit_mod_two_pow, Nat.testBit_div_two_pow, wd_bit, d8_bit]
  by_cases h : j < 8
  · rw [decide_eq_true h, Bool.true_and, decide_eq_true (show j + 8 * (p % 8) < 64 by omega), Bool.true_and, Bool.true_and]
    congr 1; omega
  · rw [decide_eq_false h, Bool.false_and, Bool.false_and]
/-- A row of bytes as a number's string. -/
theorem c8_strN {w : World} {b c L X : Nat} (v : ByteArray) (h : w.heap[b]? = some (.cells (c8 L X) 5)) (hk : v.size = L) (hv : ∀ (j : Nat) (h1 : j < v.size), (v[j]'h1).toNat = d8 X j) :
    (convert 128 39 (.slice (some ⟨b, 0, none⟩) L c)).run Tryz.prog w = .ok (.string v) w := by
  rw [run_convert_bytes_string w 128 39 5 _ _ _ Tryz.underlying128 Tryz.underlying5 Tryz.underlying39]
  have hz : v.data.toList.length = L := by rw [Array.length_toList]; exact hk
  have hl := run_loadCells_list (P := Tryz.prog) w ⟨b, 0, none⟩ (v.data.toList.map fun x => Value.int .u8 (x.toNat : Int)) (fun j u hu => by
    have hadd : (⟨b, 0, none⟩ : Addr).add j = ⟨b, j, none⟩ := by unfold Addr.add; split <;> simp_all
    have hj : j < v.data.toList.length := by
      have := (List.getElem?_eq_some_iff.1 hu).1
      rwa [List.length_map] at this
    have hj2 : j < v.size := by rw [hk]; omega
    rw [hadd, c8_cell h (by omega), ← hv j hj2, ← hu, List.getElem?_map, List.getElem?_eq_getElem hj]
    rfl)
  rw [List.length_map, hz] at hl
  rw [run_bytesToString (P := Tryz.prog) w ⟨b, 0, none⟩ L c (v.data.toList.map fun x => (x.toNat : Int)) (by rw [hl]; simp), show ByteArray.empty = ⟨#[]⟩ from rfl, fold_bytes]
  simp

set_option maxRecDepth 100000 in
set_option maxHeartbeats 1000000 in
theorem l_natOf (w : World) (p : Option Addr) (L c n B : Nat) (v : ByteArray) (h : SL B w p L c n) (hB : B ≤ w.heap.size) (hL : L ≤ 100000) (hv : nbA n = v) :
    Calls Tryz.prog 279 #[.slice p L c] w fun r w' => r = .returned (.string v) ∧ Below w.heap.size w w' := by
  obtain ⟨M, hM⟩ : ∃ M, wl n = M := ⟨_, rfl⟩
  obtain ⟨l, hl⟩ : ∃ l, blen n = l := ⟨_, rfl⟩
  obtain ⟨m, hm⟩ : ∃ m, nl n = m := ⟨_, rfl⟩
  have hml : m = (l + 7) / 8 := by rw [← hm, ← hl]; rfl
  have hMl : M = (l + 63) / 64 := by rw [← hM, ← hl]; rfl
  have hML : M ≤ L := by rw [← hM]; exact wl_le_of n L h.1
  have n1 : IntKind.i64.wrap ((l : Int) + 8) = (l : Int) + 8 := wrap_i64_is _ (by omega) (by omega)
  have n2 : IntKind.i64.wrap ((l : Int) + 8 - 1) = (l : Int) + 8 - 1 := wrap_i64_is _ (by omega) (by omega)
  have hmk := c8_makeI m (((l : Int) + 8 - 1) / 8) (by omega) (by omega)
  have hvz : v.size = m := by rw [← hv, nbA_size, hm]
  have l64 : l ≤ 6400000 := by omega
  have m64 : m ≤ 800000 := by omega
  have HM := box hM
  have HL := box hl
  have HMM := box hm
  have HML := box hml
  have HMW := box hMl
  have HV := box hv
  clear hM hl hm hv hml hMl
  go_enter Tryz.func279, Tryz.ntmps279
  go_wp2_with fail
  refine (l_trim w p L c n M B h hL HM.out).mono ?_
  rintro e w1 ⟨u, d, rfl, s1, rfl⟩
  go_wp2_with fail
  refine (l_bitLen w1 u M d n l B s1 (by omega) HM.out HL.out).mono ?_
  rintro e w2 ⟨rfl, rfl⟩
  go_wp2
  clear hmk n1 n2 l64
  obtain ⟨g, hg⟩ : ∃ g, w2.heap.size = g := ⟨_, rfl⟩
  have r0 : (w2.alloc (.cells (c8 m 0) 5)).heap[g]? = some (.cells (c8 m 0) 5) := by rw [← hg]; exact heap_alloc_last _ _
  have b0 : Below g w2 (w2.alloc (.cells (c8 m 0) 5)) := by rw [← hg]; exact (Below.refl _ _).alloc (Nat.le_refl _) _
  rw [hg]
  go_loopw [15] (fun iv wr => ∃ (i Y : Nat), i ≤ m ∧ iv = .int .i64 i ∧ wr.heap[g]? = some (.cells (c8 m Y) 5) ∧ Below g w2 wr ∧ Box (∀ j, j < i → d8 Y j = d8 n (m - 1 - j))) (fun iv _ => m - (intOf iv).toNat)
  case atStart => exact ⟨0, 0, by omega, rfl, r0, b0, box (fun j hj => absurd hj (by omega))⟩
  case round =>
    clear r0 b0
    obtain ⟨i, Y, hi, rfl, r1, hbw, HX⟩ := hrel
    by_cases hlt : i < m
    · obtain ⟨pl, hpl⟩ : ∃ pl, m - 1 - i = pl := ⟨_, rfl⟩
      obtain ⟨x, hx⟩ : ∃ x, d8 n pl = x := ⟨_, rfl⟩
      obtain ⟨q, hq⟩ : ∃ q, pl / 8 = q := ⟨_, rfl⟩
      obtain ⟨r, hr⟩ : ∃ r, pl % 8 = r := ⟨_, rfl⟩
      have hqM : q < M := by rw [HMW.out]; have := HML.out; omega
      obtain ⟨bp, op, rfl, _⟩ := h.ptr (by omega)
      have x256 : x < 256 := by rw [← hx]; exact d8_lt n pl
      have n1 : IntKind.i64.wrap ((m : Int) - 1) = (m : Int) - 1 := wrap_i64_is _ (by omega) (by omega)
      have n2 : IntKind.i64.wrap ((m : Int) - 1 - (i : Int)) = (pl : Int) := by rw [wrap_i64_is _ (by omega) (by omega)]; omega
      have n2' : (m : Int) - 1 - (i : Int) = (pl : Int) := by omega
      have q1 : (pl : Int) / 8 = (q : Int) := by omega
      have tm : (pl : Int).tmod 8 = (r : Int) := by rw [Int.tmod_eq_emod_of_nonneg (by omega)]; omega
      have tm2 : (pl : Int) % 8 = (r : Int) := by omega
      have w1 : IntKind.i64.wrap (q : Int) = (q : Int) := wrap_i64_is _ (by omega) (by omega)
      obtain ⟨k, hk⟩ : ∃ k, 8 * r = k := ⟨_, rfl⟩
      have w2' : IntKind.i64.wrap (k : Int) = (k : Int) := wrap_i64_is _ (by omega) (by omega)
      have w3 : (r : Int) * 8 = (k : Int) := by omega
      obtain ⟨z, hz⟩ : ∃ z, wd n q = z := ⟨_, rfl⟩
      obtain ⟨y, hy⟩ : ∃ y, z / 2 ^ k = y := ⟨_, rfl⟩
      have LE := box (l_right z k y (by omega) hy)
      have hyx : y % 256 = x := by rw [← hy, ← hz, ← hq, ← hk, ← hr, ld8_wd, hx]
      have n4 := wrap_u8_is y x hyx
      have qL : q < L := by omega
      have qLi : (q : Int) < (L : Int) := by omega
      have imi : (i : Int) < (m : Int) := by omega
      have c0 := (h.below hbw (by omega)).cell q z qL hz
      have c1 := c8_cell r1 hlt
      have f0 := fz (k := i) r1
      have R2 : Box ((wr.setCell ⟨g, i, none⟩ (.int .u8 (x : Int))).heap[g]? = some (.cells (c8 m (set8 Y i x)) 5)) := box (by rw [setCell_row r1, c8_seti m Y i x _ hlt x256 rfl])
      have B2 : Box (Below g w2 (wr.setCell ⟨g, i, none⟩ (.int .u8 (x : Int)))) := box (hbw.setCell (Nat.le_refl _) _)
      have NX : Box (∀ j, j < i + 1 → d8 (set8 Y i x) j = d8 n (m - 1 - j)) := box (fun j hj => by
        rw [d8_set8 _ _ _ _ x256]
        by_cases e : j = i
        · rw [if_pos e, e, hpl, hx]
        · rw [if_neg e]; exact HX.out j (by omega))
      have dl : decide (i < m) = true := decide_eq_true hlt
      clear hpl hx hq hr hk hy hz HX h hyx
      go_wp2_with fail
      refine (LE.out _).mono ?_
      rintro e w' ⟨rfl, rfl⟩
      go_wp2
      go_roundw
      case rel => exact ⟨i + 1, _, by omega, by go_num, R2.out, B2.out, NX⟩
      case measure => simp [intOf] <;> omega
    · obtain rfl : i = m := by omega
      have hst := c8_strN (c := i) v r1 hvz (fun j hj => by
        rw [HX.out j (by omega)]
        have e := HV.out
        subst e
        rw [nbA_get, HMM.out])
      have dl : decide (i < i) = false := by rw [decide_eq_false_iff_not]; omega
      go_wp2
      go_ret
      exact ⟨rfl, by rw [hg]; exact hbw⟩
end Go.Proofs.YtfmmeifipbpbmaaGreatDoor
namespace Go.Proofs.YtfmmeifipbpbmaaGreatDoor
set_option maxRecDepth 100000
open Go.RowKit WMath

theorem n_check (s : ByteArray) (o : Bool) (ho : mayB s = o) (w : World) :
    Calls Tryz.prog 222 #[.string s] w fun r w' => r = .returned (.int .i64 (if o then 0 else 2)) ∧ w' = w := by
  by_cases h1 : s.size ≤ 16384
  · have d1 : decide ((16384 : Int) < (s.size : Int)) = false := by rw [decide_eq_false_iff_not]; omega
    have d1' : decide (16384 < s.size) = false := by rw [decide_eq_false_iff_not]; omega
    by_cases h2 : s.size = 0
    · have e : o = true := by rw [← ho]; unfold mayB; rw [decide_eq_true h1, decide_eq_true h2]; rfl
      subst e
      have d2 : decide (0 < s.size) = false := decide_eq_false (by omega)
      clear h1 h2 ho
      go_enter Tryz.func222, Tryz.ntmps222
      go_wp2
      go_ret
      exact ⟨rfl, rfl⟩
    · have hp : 0 < s.size := by omega
      have d2 : decide (0 < s.size) = true := decide_eq_true hp
      obtain ⟨x, hx⟩ : ∃ x, (s[0]'hp).toNat = x := ⟨_, rfl⟩
      have e : decide (x ≠ 0) = o := by
        rw [← ho]; unfold mayB
        rw [decide_eq_true h1, decide_eq_false h2, Bool.true_and, Bool.false_or]
        rw [Bool.eq_iff_iff, decide_eq_true_iff, decide_eq_true_iff]
        exact ⟨fun h => ⟨hp, by rw [hx]; exact h⟩, fun ⟨a, b⟩ => by rw [hx] at b; exact b⟩
      have hi := idx_runN s 0 0 x rfl hp hx
      clear h1 h2 ho hx
      by_cases h0 : x = 0
      · subst h0
        have e2 : o = false := by rw [← e]; rfl
        subst e2
        clear e
        go_enter Tryz.func222, Tryz.ntmps222
        go_wp2
        go_ret
        exact ⟨rfl, rfl⟩
      · have e2 : o = true := by rw [← e]; exact decide_eq_true h0
        subst e2
        have h3 : decide (x = 0) = false := decide_eq_false h0
        clear e
        go_enter Tryz.func222, Tryz.ntmps222
        go_wp2
        go_ret
        exact ⟨rfl, rfl⟩
  · have d1 : decide ((16384 : Int) < (s.size : Int)) = true := by rw [decide_eq_true_iff]; omega
    have d1' : decide (16384 < s.size) = true := by rw [decide_eq_true_iff]; omega
    have e : o = false := by rw [← ho]; unfold mayB; rw [decide_eq_false h1]; rfl
    subst e
    clear h1 ho
    go_enter Tryz.func222, Tryz.ntmps222
    go_wp2
    go_ret
    exact ⟨rfl, rfl⟩

theorem str_cell {w : World} {g : Nat} {T : TypeId} {ss : List ByteArray} (row : w.heap[g]? = some (.cells (ss.map Value.string).toArray T)) (k : Nat) (s : ByteArray) (h : ss[k]? = some s) : w.cell? ⟨g, k, none⟩ = some (.string s) := by
  rw [cell_of_row w g k _ _ _ row]
  simp [h]

theorem n_mayBe (ss : List ByteArray) (L g : Nat) (T : TypeId) (w : World) (hl : ss.length = L) (hL : L ≤ 1000) (row : w.heap[g]? = some (.cells (ss.map Value.string).toArray T)) (o : Bool) (ho : ss.all mayB = o) :
    Calls Tryz.prog 168 #[.slice (some ⟨g, 0, none⟩) L L] w fun r w' => r = .returned (.bool o) ∧ w' = w := by
  have HO := box ho
  have HL := box hl
  clear ho hl
  go_enter Tryz.func168, Tryz.ntmps168
  go_wp2
  go_loopw [7] (fun iv wr => ∃ k : Nat, k ≤ L ∧ iv = .int .i64 k ∧ wr = w ∧ Box (∀ j s, j < k → ss[j]? = some s → mayB s = true)) (fun iv _ => L - (intOf iv).toNat)
  case atStart => exact ⟨0, by omega, rfl, rfl, box (fun j s hj => absurd hj (by omega))⟩
  case round =>
    obtain ⟨k, hk, rfl, rfl, HA⟩ := hrel
    by_cases hlt : k < L
    · obtain ⟨s, hs⟩ : ∃ s, ss[k]? = some s := ⟨_, List.getElem?_eq_getElem (by rw [HL.out]; exact hlt)⟩
      have c1 := str_cell row k s hs
      have dl : decide (k < L) = true := decide_eq_true hlt
      have HS := box hs
      obtain ⟨m, hm⟩ : ∃ m, mayB s = m := ⟨_, rfl⟩
      have HM := box hm
      clear hs hm
      cases m
      · have e : o = false := by
          rw [← HO.out, Bool.eq_false_iff]
          intro h
          rw [List.all_eq_true] at h
          have := h s (List.mem_of_getElem? HS.out)
          rw [HM.out] at this
          exact absurd this (by decide)
        subst e
        go_wp2_with fail
        refine (n_check s false HM.out _).mono ?_
        rintro e w' ⟨rfl, rfl⟩
        go_wp2
        go_ret
        exact ⟨rfl, rfl⟩
      · have NA : Box (∀ j s, j < k + 1 → ss[j]? = some s → mayB s = true) := box (fun j s2 hj h2 => by
          by_cases e : j = k
          · subst e
            rw [HS.out] at h2
            cases h2
            exact HM.out
          · exact HA.out j s2 (by omega) h2)
        go_wp2_with fail
        refine (n_check s true HM.out _).mono ?_
        rintro e w' ⟨rfl, rfl⟩
        go_wp2
        go_roundw
        case rel => exact ⟨k + 1, by omega, by go_num, by first | rfl | trivial, NA⟩
        case measure => simp [intOf] <;> omega
    · obtain rfl : k = L := by omega
      have e : o = true := by
        rw [← HO.out, List.all_eq_true]
        intro s hs
        obtain ⟨j, hj⟩ := List.mem_iff_getElem?.1 hs
        have := (List.getElem?_eq_some_iff.1 hj).1
        exact HA.out j s (by rw [← HL.out]; exact this) hj
      subst e
      have dl : decide (k < k) = false := by rw [decide_eq_false_iff_not]; omega
      go_wp2
      go_ret
      exact ⟨rfl, rfl⟩
theorem n_may1 (s : ByteArray) (o : Bool) (ho : mayB s = o) (T : TypeId) (w : World) :
    Calls Tryz.prog 168 #[.slice (some ⟨w.heap.size, 0, none⟩) 1 1] (w.alloc (.cells #[.string s] T)) fun r w' => r = .returned (.bool o) ∧ w' = w.alloc (.cells #[.string s] T) :=
  n_mayBe [s] 1 w.heap.size T _ rfl (by decide) (heap_alloc_last _ _) o (by rw [← ho]; simp)
theorem n_may2 (s t : ByteArray) (o : Bool) (ho : (mayB s && mayB t) = o) (T : TypeId) (w : World) :
    Calls Tryz.prog 168 #[.slice (some ⟨w.heap.size, 0, none⟩) 2 2] (w.alloc (.cells #[.string s, .string t] T)) fun r w' => r = .returned (.bool o) ∧ w' = w.alloc (.cells #[.string s, .string t] T) :=
  n_mayBe [s, t] 2 w.heap.size T _ rfl (by decide) (heap_alloc_last _ _) o (by rw [← ho]; simp)
theorem ok2 {a b : Nat} {s t : ByteArray} (hs : nbA a = s) (ht : nbA b = t) (ha : nl a ≤ 16384) (hb : nl b ≤ 16384) : (mayB s && mayB t) = true := by
  subst hs ht; rw [mayB_nb a ha, mayB_nb b hb]; rfl
theorem bal (w : World) (o : Obj) : Below w.heap.size w (w.alloc o) := (Below.refl _ _).alloc (Nat.le_refl _) _
theorem btr {a b c : World} (h : Below a.heap.size a b) (k : Below b.heap.size b c) : Below a.heap.size a c := h.trans (k.mono h.size)

theorem l_answer (w : World) (p : Option Addr) (L c n B : Nat) (v : ByteArray) (e : Int) (h : SL B w p L c n) (hB : B ≤ w.heap.size) (hL : L ≤ 100000) (hn : wl n = L) (hr : lg n = (v, e)) :
    Calls Tryz.prog 236 #[.slice p L c] w fun r w' => r = .returned (.tuple #[.string v, .int .i64 e]) ∧ Below w.heap.size w w' := by
  obtain ⟨l, hl⟩ : ∃ l, blen n = l := ⟨_, rfl⟩
  unfold lg at hr
  have HL := box hl
  have HN := box hn
  have hll : l ≤ 64 * L := by rw [← hl, ← hn]; unfold wl; omega
  by_cases h1 : nl n ≤ 16384
  · rw [if_pos h1] at hr
    cases hr
    have d1 : decide (131072 < l) = false := decide_eq_false (by rw [← hl]; unfold nl at h1; omega)
    have d2 : decide ((131072 : Int) < (l : Int)) = false := decide_eq_false (by rw [← hl]; unfold nl at h1; omega)
    clear hl hn h1
    go_enter Tryz.func236, Tryz.ntmps236
    go_wp2_with fail
    refine (l_bitLen w p L c n l B h hL HN.out HL.out).mono ?_
    rintro e w1 ⟨rfl, rfl⟩
    go_wp2_with fail
    refine (l_natOf w1 p L c n B _ h hB hL rfl).mono ?_
    rintro e w2 ⟨rfl, hb2⟩
    go_wp2
    go_ret2
    exact ⟨rfl, hb2⟩
  · rw [if_neg h1] at hr
    cases hr
    have d1 : decide (131072 < l) = true := decide_eq_true (by rw [← hl]; unfold nl at h1; omega)
    have d2 : decide ((131072 : Int) < (l : Int)) = true := decide_eq_true (by rw [← hl]; unfold nl at h1; omega)
    clear hl hn h1
    go_enter Tryz.func236, Tryz.ntmps236
    go_wp2_with fail
    refine (l_bitLen w p L c n l B h hL HN.out HL.out).mono ?_
    rintro e w1 ⟨rfl, rfl⟩
    go_wp2
    go_ret2
    exact ⟨rfl, Below.refl _ _⟩
end Go.Proofs.YtfmmeifipbpbmaaGreatDoor
namespace Go.Proofs.YtfmmeifipbpbmaaGreatDoor
set_option maxRecDepth 100000
open Go.RowKit WMath

theorem wl_of_nl (n : Nat) (h : nl n ≤ 16384) : wl n ≤ 2048 := by rw [wl_nl]; omega

set_option maxRecDepth 100000 in
theorem pn_add_ok (a b : Nat) (s t v : ByteArray) (e : Int) (hs : nbA a = s) (ht : nbA b = t) (ha : nl a ≤ 16384) (hb : nl b ≤ 16384) (hr : lg (a + b) = (v, e)) (w : World) :
    Calls Tryz.prog 228 #[.string s, .string t] w fun r w' => r = .returned (.tuple #[.string v, .int .i64 e]) ∧ Below w.heap.size w w' := by
  have HO := box (ok2 hs ht ha hb)
  have HS := box hs
  have HT := box ht
  have HR := box hr
  have HA := box ha
  have HB := box hb
  obtain ⟨K, hK⟩ : ∃ K, wl a = K := ⟨_, rfl⟩
  obtain ⟨M, hM⟩ : ∃ M, wl b = M := ⟨_, rfl⟩
  obtain ⟨N, hN⟩ : ∃ N, wl (a + b) = N := ⟨_, rfl⟩
  have hK2 : K ≤ 2048 := by rw [← hK]; exact wl_of_nl a ha
  have hM2 : M ≤ 2048 := by rw [← hM]; exact wl_of_nl b hb
  have hN2 : N ≤ 2049 := by rw [← hN]; exact wl_add_le a b 2048 (by omega) (by omega)
  have HK := box hK
  have HM := box hM
  have HN := box hN
  clear hs ht ha hb hr hK hM hN
  go_enter Tryz.func228, Tryz.ntmps228
  go_wp2_with fail
  refine (n_may2 s t true HO.out _ w).mono ?_
  rintro r w0 ⟨rfl, rfl⟩
  have b0 := bal w (.cells #[.string s, .string t] 39)
  go_wp2_with fail
  refine (l_wordsOf a K s HS.out (by have := HA.out; omega) HK.out _).mono ?_
  rintro r w1 ⟨p, c, rfl, s1, b1⟩
  go_wp2_with fail
  refine (l_wordsOf b M t HT.out (by have := HB.out; omega) HM.out _).mono ?_
  rintro r w2 ⟨q, d, rfl, s2, b2⟩
  go_wp2_with fail
  refine (l_sum w2 p q K c a M d b w2.heap.size N ((s1.below b2 (Nat.le_refl _)).mono b2.size) s2 (Nat.le_refl _) (by omega) (by omega) HN.out).mono ?_
  rintro r w3 ⟨u, f, rfl, s3, b3⟩
  go_wp2_with fail
  refine (l_answer w3 u N f (a + b) _ v e s3 (Nat.le_refl _) (by omega) HN.out HR.out).mono ?_
  rintro r w4 ⟨rfl, b4⟩
  go_wp2
  go_ret2
  exact ⟨rfl, btr b0 (btr b1 (btr b2 (btr b3 b4)))⟩
end Go.Proofs.YtfmmeifipbpbmaaGreatDoor
