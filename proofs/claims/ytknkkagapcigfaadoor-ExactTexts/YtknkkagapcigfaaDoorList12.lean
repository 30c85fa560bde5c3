/-
  What the functions guess and digit of package nat return.
-/
import Derived.Test.YtknkkagapcigfaaDoorList11
import Derived.Test.YtknkkagapcigfaaDoorDmath
import Derived.Test.YtknkkagapcigfaaDoorGx
namespace Go.Proofs.YtknkkagapcigfaaDoor
open Go.RowKit WMath

theorem div_is (hi lo d q r : Nat) (hh : hi < d) (hl : lo < 18446744073709551616) (hd : d < 18446744073709551616) (hq : (hi * 18446744073709551616 + lo) / d = q) (hr : (hi * 18446744073709551616 + lo) % d = r) (w : World) :
    Calls Tryd.prog 94 #[.int .u64 hi, .int .u64 lo, .int .u64 d] w fun e w' => e = .returned (.tuple #[.int .u64 (q : Nat), .int .u64 (r : Nat), .int .i64 0]) ∧ w' = w := by
  subst hq hr; exact div_any hi lo d hh hl hd w
theorem l_guess (hi lo d q : Nat) (hl : lo < 18446744073709551616) (hd : d < 18446744073709551616) (hq : gs hi lo d = q) (w : World) :
    Calls Tryd.prog 86 #[.int .u64 hi, .int .u64 lo, .int .u64 d] w fun e w' => e = .returned (.int .u64 (q : Nat)) ∧ w' = w := by
  unfold gs at hq
  by_cases h : hi < d
  · rw [if_pos h] at hq
    have H := box (div_is hi lo d q _ h hl hd hq rfl)
    clear hq h
    go_enter Tryd.func86, Tryd.ntmps86
    go_wp2_with fail
    refine (H.out _).mono ?_
    rintro e w' ⟨rfl, rfl⟩
    go_wp2
    go_ret
    exact ⟨rfl, rfl⟩
  · rw [if_neg h] at hq
    subst hq
    have H := box (div_no hi lo d (by omega))
    clear h
    go_enter Tryd.func86, Tryd.ntmps86
    go_wp2_with fail
    refine (H.out _).mono ?_
    rintro e w' ⟨rfl, rfl⟩
    go_wp2
    go_ret
    exact ⟨rfl, rfl⟩

set_option maxRecDepth 100000 in
set_option maxHeartbeats 1000000 in
theorem l_digit (w : World) (g o m c N X : Nat) (T : TypeId) (row : w.heap[g]? = some (.cells (cw N X) T)) (hN : o + (m + 2) ≤ N) (q : Option Addr) (d b B : Nat) (hb : SL B w q (m + 1) d b) (hB : B ≤ g) (hm : m ≤ 50000) (V : Nat) (hV : vw X o (m + 2) = V) (hVb : V < 18446744073709551616 * b) (hb0 : 0 < b) (t : Nat) (ht : V / b = t) :
    Calls Tryd.prog 77 #[.slice (some ⟨g, o, none⟩) (m + 2) c, .slice q (m + 1) d] w fun r w' => r = .returned (.int .u64 (t : Nat)) ∧ w'.heap[g]? = some (.cells (cw N (putw X o (m + 2) (V % b))) T) ∧ Only g w w' := by
  obtain ⟨qb, qo, rfl, _⟩ := hb.ptr (by omega)
  obtain ⟨hi, hhi⟩ : ∃ x, wd V (m + 1) = x := ⟨_, rfl⟩
  obtain ⟨lo, hlo⟩ : ∃ x, wd V m = x := ⟨_, rfl⟩
  obtain ⟨top, htop⟩ : ∃ x, wd b m = x := ⟨_, rfl⟩
  obtain ⟨G, hG⟩ : ∃ G, gs hi lo top = G := ⟨_, rfl⟩
  have lo64 : lo < 18446744073709551616 := by rw [← hlo]; exact wd_lt _ _
  have top64 : top < 18446744073709551616 := by rw [← htop]; exact wd_lt _ _
  have VL : V < 2 ^ (64 * (m + 2)) := by rw [← hV]; exact vw_lt _ _ _
  have hge := gs_ge V b m hi lo top VL hb.1 hVb hhi hlo htop
  have G64 : G < 18446744073709551616 := by rw [← hG]; exact gs_lt hi lo top lo64
  rw [hG] at hge
  have c1 : w.cell? ⟨g, o + (m + 1), none⟩ = some (.int .u64 (hi : Nat)) := by
    rw [cell_of_row w g _ _ _ _ row, cw_at _ _ _ (by omega), ← hhi, ← hV, wd_vw _ _ _ _ (by omega)]
  have c2 : w.cell? ⟨g, o + m, none⟩ = some (.int .u64 (lo : Nat)) := by
    rw [cell_of_row w g _ _ _ _ row, cw_at _ _ _ (by omega), ← hlo, ← hV, wd_vw _ _ _ _ (by omega)]
  have c3 := hb.cell m top (by omega) htop
  have n1 : IntKind.i64.wrap ((m : Int) + 1) = (m : Int) + 1 := wrap_i64_is _ (by omega) (by omega)
  have n2 : IntKind.i64.wrap ((m : Int) + 1 - 1) = (m : Int) := by rw [wrap_i64_is _ (by omega) (by omega)]; omega
  have n3 : IntKind.i64.wrap (m : Int) = (m : Int) := wrap_i64_is _ (by omega) (by omega)
  have GS := box (l_guess hi lo top G lo64 top64 hG)
  have HV := box hV
  have HVB := box hVb
  have HT := box ht
  have HGE := box hge
  have HVL := box VL
  clear hhi hlo htop hG hV hVb ht hge VL
  go_enter Tryd.func77, Tryd.ntmps77
  go_wp2
  go_quiet ((go_at_call 86; exact (GS.out _).mono (fun _ _ h => ⟨h.1, _, h.2⟩)))
  go_wp2_with fail
  obtain ⟨P, hP⟩ : ∃ P, 2 ^ (64 * (m + 2)) = P := ⟨_, rfl⟩
  have bP : b < P := by rw [← hP]; exact Nat.lt_of_lt_of_le hb.1 (pow64_le _ _ (by omega))
  have bGP : b * G < P := by
    rw [← hP, show m + 2 = m + 1 + 1 by omega, pow64]
    exact Nat.mul_lt_mul_of_lt_of_le hb.1 (Nat.le_of_lt G64) (by decide)
  obtain ⟨u0, hu0⟩ : ∃ u, decide (V < b * G) = u := ⟨_, rfl⟩
  have hVP : V < P := by rw [← hP]; exact HVL.out
  obtain ⟨S0, hS0, hS0P⟩ : ∃ S, S + b * G = V + P * u0.toNat ∧ S < P := by
    by_cases e : V < b * G
    · rw [decide_eq_true e] at hu0
      subst hu0
      exact ⟨V + P - b * G, by rw [Bool.toNat_true]; omega, by omega⟩
    · rw [decide_eq_false e] at hu0
      subst hu0
      exact ⟨V - b * G, by rw [Bool.toNat_false]; omega, by omega⟩
  have sb : SL B (w.drewN nq) (some ⟨qb, qo, none⟩) (m + 1) d b := hb.below (below_drewN (Below.refl w.heap.size w) nq) (by have := (Array.getElem?_eq_some_iff.1 row).1; omega)
  have o0 : Only g w (w.drewN nq) := Only.ofBelow (below_drewN (Below.refl w.heap.size w) nq) (Nat.le_refl _)
  refine (l_takeFrom (w.drewN nq) g o (m + 2) c N X T row hN _ (m + 1) d b B sb hB G G64 (by omega) (by omega) (by rw [hP]; exact bGP) V S0 u0 HV.out hu0 (by rw [hP]; exact hS0)).mono ?_
  rintro e w1 ⟨rfl, r1, o1⟩
  have D0 : Box (DigSt V b P G S0 u0) := box (digSt_start V b P G S0 u0 HGE.out hS0 hS0P)
  have O1 := o0.trans o1
  clear hu0 hS0 c1 c2 c3 o0 o1 sb bGP hS0P n1 n2 n3
  go_wp2
  go_loopw [6, 7] (fun tv uv wr => ∃ (t S : Nat) (u : Bool), t < 18446744073709551616 ∧ tv = .int .u64 t ∧ uv = .bool u ∧ wr.heap[g]? = some (.cells (cw N (putw X o (m + 2) S)) T) ∧ Only g w wr ∧ Box (DigSt V b P t S u)) (fun tv _ _ => (intOf tv).toNat)
  case atStart => exact ⟨G, S0, u0, G64, rfl, rfl, r1, O1, D0⟩
  case round =>
    clear r1 O1 D0
    obtain ⟨y, S, u, y64, rfl, rfl, r2, o2, HD⟩ := hrel
    cases u
    · obtain ⟨e1, e2⟩ := digSt_end HD.out hb0
      rw [HT.out] at e1
      subst e1
      rw [e2] at r2
      clear e2 HD
      go_wp2
      go_ret
      exact ⟨rfl, r2, o2⟩
    · obtain ⟨h0, hn⟩ := digSt_next HD.out hb0 bP
      have SP : S < 2 ^ (64 * (m + 2)) := by rw [hP]; exact HD.out.2.2
      obtain ⟨z, rfl⟩ : ∃ z, y = z + 1 := ⟨y - 1, by omega⟩
      rw [Nat.add_sub_cancel] at hn
      have s2 := hb.only o2 hB
      have A1 : Box (b * 1 < 2 ^ (64 * (m + 2))) := box (by rw [hP]; omega)
      have A2 := box (vw_putw X o (m + 2) S SP)
      obtain ⟨S2, hS2⟩ : ∃ S2, (S + b * 1) % P = S2 := ⟨_, rfl⟩
      obtain ⟨ov, hov⟩ : ∃ ov, decide (P ≤ S + b * 1) = ov := ⟨_, rfl⟩
      rw [hS2, hov] at hn
      have A3 : Box ((S + b * 1) % 2 ^ (64 * (m + 2)) = S2) := box (by rw [hP]; exact hS2)
      have A4 : Box (decide (2 ^ (64 * (m + 2)) ≤ S + b * 1) = ov) := box (by rw [hP]; exact hov)
      have A5 := box (putw_putw X o (m + 2) S S2 SP)
      have HN := box hn
      have nz : IntKind.u64.wrap (z : Int) = (z : Int) := by rw [IntKind.wrap_u64]; omega
      have nz2 : ((z + 1 : Nat) : Int) - 1 = (z : Int) := by omega
      clear hS2 hov hn HD SP h0
      go_wp2_with fail
      refine (l_addTo wr g o (m + 2) c N (putw X o (m + 2) S) T r2 hN _ (m + 1) d b B s2 hB 1 (by decide) (by omega) (by omega) A1.out S S2 ov A2.out A3.out A4.out).mono ?_
      rintro e w3 ⟨rfl, r3, o3⟩
      rw [A5.out] at r3
      have o4 := o2.trans o3
      go_wp2
      go_roundw
      case rel => exact ⟨z, S2, !ov, by omega, by first | rfl | go_num, rfl, r3, o4, HN⟩
      case measure => simp [intOf]
end Go.Proofs.YtknkkagapcigfaaDoor
