/-
  What the functions that the statement reaches return: part 6 (BP, BQ, BS, JP, JM, BU, DA).
-/
import Derived.Maps.Own
import Derived.Maps.Views
import Derived.StringKeys
import Derived.RangeFuncNested
import Derived.RangeFuncBound
import Derived.RangeFuncCalls
import Derived.RangeFuncLeaves
import Derived.RangeFuncFrom
import Derived.Shelf.Abstract
import Derived.Shelf.RegionOpen
import Derived.WalkKit
import Derived.OwnWalkIn
import Derived.TacticsInMore
import Derived.LoopNIn
import Derived.LoopIn
import Derived.LoopN
import Derived.Sort.QuietIn
import Derived.Deep.RegionHeld3
import Derived.ChangeMaps5
import Derived.OpenShut
import Derived.Carry
import Derived.Deep.RegionLaw
import Derived.Deep.AppendLies
import Derived.Test.YtfdhglllmhggkaaDoorRa05
namespace Go.Proofs.YtfdhglllmhggkaaDoor
set_option maxRecDepth 100000
set_option maxHeartbeats 40000000
set_option maxRecDepth 100000
open Go.RowKit WMath
set_option linter.unusedSimpArgs false
set_option linter.unusedVariables false
theorem below_sets {W w : World} {n b : Nat} (hb : n ≤ b) : ∀ (vs : List Value) (o : Nat) (w : World), Below n W w → Below n W (w.setCells b o vs)
  | [], _, _, h => h
  | v :: r, o, w, h => below_sets (w := w) hb r (o + 1) _ (h.setCell hb v)
theorem sets_other {b g : Nat} (hb : b ≠ g) : ∀ (vs : List Value) (o : Nat) (w : World), (w.setCells b o vs).heap[g]? = w.heap[g]?
  | [], _, _ => rfl
  | v :: r, o, w => (sets_other hb r (o + 1) _).trans (setCell_other hb)
theorem RwsAt.set {w : World} {g a o : Nat} {l : List Nm} {v : Value} (h : RwsAt w g a l) (ho : o < a * 7) : RwsAt (w.setCell ⟨g, o, none⟩ v) g a l := by
  obtain ⟨cur, h1, h2⟩ := h
  refine ⟨_, setCell_row h1, fun k p hk hp j u hj hu => ?_⟩
  rw [Array.getElem?_setIfInBounds_ne (by omega)]
  exact h2 k p hk hp j u hj hu
theorem RwsAt.sets {g a : Nat} {l : List Nm} : ∀ (vs : List Value) (o : Nat) (w : World), RwsAt w g a l → o + vs.length ≤ a * 7 → RwsAt (w.setCells g o vs) g a l
  | [], _, _, h, _ => h
  | v :: r, o, w, h, ho => RwsAt.sets r (o + 1) _ (h.set (by simp only [List.length_cons] at ho; omega)) (by simp only [List.length_cons] at ho; omega)
theorem RwsAt.up {w : World} {g a : Nat} {l : List Nm} (h : RwsAt w g a l) : RwsAt w g (a + 1) l := by
  obtain ⟨cur, h1, h2⟩ := h
  exact ⟨cur, h1, fun k p hk hp => h2 k p (by omega) hp⟩
theorem rwC_mid {w : World} {g a k : Nat} {l : List Nm} {r0 : Rw} {s0 : List UInt8} (r : Rw) (h : RwsAt w g a l) (ha : a ≤ k) (hp : l[k]? = some (r0, s0)) : (storeCells ⟨g, k * 7, none⟩ (rwC r).toList 0).run Tryd.prog w = .ok () (w.setCells g (k * 7) (rwC r).toList) := by
  obtain ⟨cur, h1, h2⟩ := h
  refine run_storeCells_cells g (k * 7) (rwC r).toList 0 w (fun j hj => ?_) (fun j hj => ?_) ?_
  · have hj7 : j < 7 := hj
    have e : ∃ u, (rwC r0)[j]? = some u := ⟨_, Array.getElem?_eq_getElem hj7⟩
    obtain ⟨u, hu⟩ := e
    have := cell7 h1 (k * 7 + j) u (h2 k (r0, s0) ha hp j u hj7 hu)
    rw [show k * 7 + 0 + j = k * 7 + j from rfl, this]
    rfl
  · exact fz (k := k * 7 + j) h1
  · intro v hv
    simp only [rwC, List.mem_cons, List.not_mem_nil, or_false] at hv
    rcases hv with rfl | rfl | rfl | rfl | rfl | rfl | rfl <;> rfl
set_option maxRecDepth 100000 in
set_option maxHeartbeats 8000000 in
theorem tb_rows {T : World → Prop} (FB : Box (∀ {w w' : World}, T w → Below w.heap.size w w' → T w')) (A1 : Box (∀ w, Calls Tryd.prog 9 #[] w fun r w' => ∃ v, r = .returned v ∧ OwnsAll w w' v)) (R1 : Box (∀ w, T w → Calls Tryd.prog 10 #[] w fun r w' => ∃ v, r = .returned v ∧ OwnsRws w w' v)) (L1 : Box (∀ w, T w → Calls Tryd.prog 11 #[] w fun r w' => r = .returned (.int .i64 136) ∧ Below w.heap.size w w')) (N1 : Box (∀ p ∈ allL, ∀ w, T w → Calls Tryd.prog 12 #[.agg (rwC p.1)] w fun r w' => r = .returned (.tuple #[.string ⟨p.2.toArray⟩, .int .i64 0]) ∧ Below w.heap.size w w')) (N2 : Box (∀ p ∈ allL, ∀ w, T w → Calls Tryd.prog 13 #[.string ⟨p.2.toArray⟩] w fun r w' => r = .returned (.tuple #[.agg (rwC p.1), .int .i64 0]) ∧ Below w.heap.size w w')) (KL : Box (∀ w, T w → Calls Tryd.prog 14 #[] w fun r w' => r = .returned (.bool true) ∧ Below w.heap.size w w')) (w : World) (hT : T w) : Calls Tryd.prog 3 #[] w fun r w' => r = .returned (.bool true) ∧ Below w.heap.size w w' := by
  have FF := box hT
  clear hT
  have B0 := Below.refl w.heap.size w
  go_enter Tryd.func3, Tryd.ntmps3
  go_wp2_with fail
  refine (A1.out _).mono ?_
  rintro r w1 ⟨v, rfl, g, cap, rfl, hg, hN, hb⟩
  have B1 := btr B0 hb
  clear B0 hb
  go_wp2
  go_loopw [2] (fun tv wr => ∃ t : Nat, t ≤ 2 ∧ tv = .int .i64 (t : Int) ∧ Below w.heap.size w wr ∧ NdsAt wr g allL) (fun tv _ => 2 - (intOf tv).toNat)
  case atStart => exact ⟨0, Nat.zero_le _, rfl, B1, hN⟩
  case round =>
    clear B1 hN
    obtain ⟨t, ht, rfl, hB, hN⟩ := hrel
    by_cases hlt : t < 2
    · have dl : decide ((t : Int) < 2) = true := decide_eq_true (by omega)
      have hwt : IntKind.i64.wrap ((t : Int) + 1) = ((t + 1 : Nat) : Int) := by rw [IntKind.wrap_i64]; omega
      go_wp2_with fail
      refine (R1.out _ (FB.out FF.out hB)).mono ?_
      rintro r2 w2 ⟨v2, rfl, g2, cap2, rfl, hg2, hR, hb2⟩
      have B2 := btr hB hb2
      have N2' := hN.below hb2
      have gg : Box (g ≠ g2) := by
        obtain ⟨cur, h1, _⟩ := hN
        exact box (fun e => by have := (Array.getElem?_eq_some_iff.1 h1).1; omega)
      have G2 : Box (w.heap.size ≤ g2) := box (Nat.le_trans hB.size hg2)
      clear hB hN hb2 hg2
      go_wp2_with fail
      refine (L1.out _ (FB.out FF.out B2)).mono ?_
      rintro r3 w3 ⟨rfl, b3⟩
      have B3 := btr B2 b3
      have N3 := N2'.below b3
      have R3 := hR.below b3
      clear B2 N2' hR b3
      go_wp2
      go_loopw [4] (fun iv wx => ∃ k : Nat, k ≤ 136 ∧ iv = .int .i64 (k : Int) ∧ Below w.heap.size w wx ∧ NdsAt wx g allL ∧ RwsAt wx g2 k allL) (fun iv _ => 136 - (intOf iv).toNat)
      case atStart => exact ⟨0, Nat.zero_le _, rfl, B3, N3, R3⟩
      case round =>
        clear B3 N3 R3
        obtain ⟨k, hk, rfl, hB, hN, hR⟩ := hrel
        by_cases hlk : k < 136
        · have dk : decide ((k : Int) < 136) = true := decide_eq_true (by omega)
          have hwk : IntKind.i64.wrap ((k : Int) + 1) = ((k + 1 : Nat) : Int) := by rw [IntKind.wrap_i64]; omega
          obtain ⟨⟨r0, s0⟩, hp⟩ : ∃ p, allL[k]? = some p := ⟨_, List.getElem?_eq_getElem (by rw [allL_len]; exact hlk)⟩
          have KN := box (N1.out (r0, s0) (List.mem_of_getElem? hp))
          have KM := box (N2.out (r0, s0) (List.mem_of_getElem? hp))
          have HP := box hp
          clear hp
          simp only at KN KM
          obtain ⟨sb, hsb⟩ : ∃ sb : ByteArray, (⟨s0.toArray⟩ : ByteArray) = sb := ⟨_, rfl⟩
          obtain ⟨c0, c1, c2, c3, c4, c5, c6, c7⟩ := hN.cells HP.out
          rw [hsb] at KN KM c7
          have HS := box hsb
          clear hsb
          have hrf := rwC_fold r0
          go_wp2_with fail
          refine (KN.out _ (FB.out FF.out hB)).mono ?_
          rintro r4 w4 ⟨rfl, b4⟩
          have B4 := btr hB b4
          have N4 := hN.below b4
          have R4 := hR.below b4
          clear hB hN hR b4 c0 c1 c2 c3 c4 c5 c6 c7
          obtain ⟨c0, c1, c2, c3, c4, c5, c6, c7⟩ := N4.cells HP.out
          rw [HS.out] at c7
          go_wp2_with fail
          refine (KM.out _ (FB.out FF.out B4)).mono ?_
          rintro r5 w5 ⟨rfl, b5⟩
          have hrn := rwC_new
          have b6 := bal w5 (.cells (rwC r0) 36)
          have B6 := btr (btr B4 b5) b6
          have N6 := (N4.below b5).below b6
          have R6 := (R4.below b5).below b6
          have hrow := heap_alloc_last w5 (.cells (rwC r0) 36)
          clear B4 N4 R4 b5 b6 c0 c1 c2 c3 c4 c5 c6 c7
          obtain ⟨c0, c1, c2, c3, c4, c5, c6, c7⟩ := N6.cells HP.out
          rw [HS.out] at c7
          obtain ⟨d0, d1, d2, d3, d4, d5, d6⟩ := R6.cells (Nat.le_refl _) HP.out
          obtain ⟨e0, e1, e2, e3, e4, e5, e6⟩ := rwC_cells hrow
          have heq := eqr
          have hee : rwE r0 r0 = true := by rw [rwE_is]; exact decide_eq_true rfl
          have hss : (sb.toList == sb.toList) = true := by simp
          go_wp2_with fail
          go_quiet (fail)
          obtain ⟨w7, hw7, B7, hh⟩ := quiet_world B6 nq
          rw [hw7]
          have N7 : NdsAt w7 g allL := by
            obtain ⟨cur, h1, h2⟩ := N6
            exact ⟨cur, by rw [hh]; exact h1, h2⟩
          have RW7 : RwsAt w7 g2 k allL := by
            obtain ⟨cur, h1, h2⟩ := R6
            exact ⟨cur, by rw [hh]; exact h1, h2⟩
          clear hw7 hh N6 R6 B6 hrow hrn heq hee c0 c1 c2 c3 c4 c5 c6 c7 d0 d1 d2 d3 d4 d5 d6 e0 e1 e2 e3 e4 e5 e6
          have hst := rwC_mid rwZ RW7 (Nat.le_refl _) HP.out
          have hz0 : #[Value.int .u8 0, .int .u8 0, .int .u8 0, .int .u8 0, .int .u32 0, .int .u32 0, .int .u8 0] = rwC rwZ := rfl
          have bz := below_sets (w := w) G2.out (rwC rwZ).toList (k * 7) _ B7
          have nz : NdsAt (w7.setCells g2 (k * 7) (rwC rwZ).toList) g allL := by
            obtain ⟨cur, h1, h2⟩ := N7
            exact ⟨cur, (sets_other (fun e => gg.out e.symm) (rwC rwZ).toList (k * 7) _).trans h1, h2⟩
          have rz := RwsAt.sets (rwC rwZ).toList (k * 7) _ RW7.up (show k * 7 + 7 ≤ (k + 1) * 7 by omega)
          obtain ⟨wz, hwz⟩ : ∃ V, w7.setCells g2 (k * 7) (rwC rwZ).toList = V := ⟨_, rfl⟩
          rw [hwz] at hst bz nz rz
          clear hwz
          go_wp2
          go_roundw
          case rel => exact ⟨k + 1, by omega, by first | rfl | simp, bz, nz, rz⟩
          case measure => simp [intOf]; omega
        · have k136 : k = 136 := by omega
          subst k136
          have dk : decide ((136 : Int) < 136) = false := rfl
          go_wp2
          go_roundw
          case rel => exact ⟨t + 1, by omega, by first | rfl | simp, hB, hN⟩
          case measure => simp [intOf]; omega
    · have t2 : t = 2 := by omega
      subst t2
      have dl : decide ((2 : Int) < 2) = false := rfl
      go_wp2_with fail
      refine (KL.out _ (FB.out FF.out hB)).mono ?_
      rintro r8 w4 ⟨rfl, b4⟩
      have B4 := btr hB b4
      go_wp2
      go_ret
      exact ⟨rfl, B4⟩
end Go.Proofs.YtfdhglllmhggkaaDoor
namespace Go.Proofs.YtfdhglllmhggkaaDoor
set_option maxRecDepth 100000
set_option maxHeartbeats 40000000
set_option maxRecDepth 100000
open Go.RowKit WMath
set_option linter.unusedSimpArgs false
set_option linter.unusedVariables false
open Go.Maps
theorem nameL : (allL.zipIdx.all fun p => allL.zipIdx.all fun q => decide (q.2 ≤ p.2) || decide (p.1.2 ≠ q.1.2)) = true := by decide +kernel
theorem name24 {j k : Nat} {p q : Nm} (hp : allL[j]? = some p) (hq : allL[k]? = some q) (h : j < k) : p.2 ≠ q.2 := by
  have a := List.all_eq_true.1 nameL (p, j) (List.mem_zipIdx_iff_getElem?.2 hp)
  have b := List.all_eq_true.1 a (q, k) (List.mem_zipIdx_iff_getElem?.2 hq)
  simp only [Bool.or_eq_true, decide_eq_true_eq] at b
  rcases b with b | b
  · omega
  · exact b
def NmsAt (w : World) (b k : Nat) : Prop := ∃ (n : Nat) (D : DataW Unit), n ≤ k ∧ w.ownsMap Tryd.prog 9 (plainElem Tryd.prog 4) b n D ∧ ∀ j p, k ≤ j → allL[j]? = some p → D.atKey (.string p.2) (.lit (.bool false)) = .lit (.bool false)
theorem bool_inv {P : Program} {e : TypeId} (he : P.underlying e = some .bool) {v : Value} {z : DataW Unit × List MemPlace} (h : plainElem P e v = some z) : ∃ x, v = .bool x ∧ z = (.lit (.bool x), []) := by
  unfold plainElem at h
  rw [he] at h
  cases v <;> simp at h
  exact ⟨_, rfl, h.symm⟩
theorem NmsAt.below {w w' : World} {b k : Nat} (h : NmsAt w b k) (hb : Below w.heap.size w w') : NmsAt w' b k := by
  obtain ⟨n, D, hn, ho, hd⟩ := h
  have lt := ho.lt
  obtain ⟨es, clock, h1, h2, h3, h4⟩ := ho
  exact ⟨n, D, hn, ⟨es, clock, (hb.block b lt).trans h1, h2, h3, h4⟩, hd⟩
theorem NmsAt.same {w w' : World} {b k : Nat} (h : NmsAt w b k) (hb : w'.heap[b]? = w.heap[b]?) : NmsAt w' b k := by
  obtain ⟨n, D, hn, ⟨es, clock, h1, h2, h3, h4⟩, hd⟩ := h
  exact ⟨n, D, hn, ⟨es, clock, hb.trans h1, h2, h3, h4⟩, hd⟩
theorem key24 (s : List UInt8) (hs : s.length ≤ 100) : keyOf Tryd.prog 9 (.string ⟨s.toArray⟩) = some (.string s) := by
  have e : (⟨s.toArray⟩ : ByteArray).size ≤ maxLen := by
    show s.toArray.size ≤ maxLen
    rw [List.size_toArray]
    unfold maxLen
    omega
  exact Go.WideMaps.keyOf_string_mk Tryd.underlying9 e
theorem NmsAt.no {w : World} {b k : Nat} (h : NmsAt w b k) {p : Nm} (hp : allL[k]? = some p) (hs : p.2.length ≤ 100) : (Instr.lookup 58 (.map (some b)) (.string ⟨p.2.toArray⟩) false).run Tryd.prog w = .ok (.bool false) w := by
  obtain ⟨n, D, hn, ho, hd⟩ := h
  obtain ⟨v, ps, h1, h2⟩ := ho.lookup (string_keyed Tryd.underlying9) Tryd.underlying58 (show (zeroValue 4).run Tryd.prog w = .ok (.bool false) w by kernel_rfl) (plainElem_bool Tryd.underlying4 false) (key24 p.2 hs)
  obtain ⟨x, rfl, h3⟩ := bool_inv Tryd.underlying4 h2
  rw [hd k p (Nat.le_refl _) hp] at h3
  cases h3
  exact h1
theorem NmsAt.put {w : World} {b k : Nat} (h : NmsAt w b k) (hk : k < 136) {p : Nm} (hp : allL[k]? = some p) (hs : p.2.length ≤ 100) : ∃ w', (Instr.mapUpdate 58 (.map (some b)) (.string ⟨p.2.toArray⟩) (.bool true)).run Tryd.prog w = .ok () w' ∧ NmsAt w' b (k + 1) ∧ w.grownBy w' (some b) := by
  obtain ⟨n, D, hn, ho, hd⟩ := h
  obtain ⟨w', h1, h2, h3⟩ := ho.update (string_keyed Tryd.underlying9) Tryd.underlying58 (show n < maxLen by unfold maxLen; omega) (key24 p.2 hs) (plainElem_bool Tryd.underlying4 true)
  refine ⟨w', h1, ⟨n + 1, _, by omega, h2, fun j q hj hq => ?_⟩, h3⟩
  rw [atKey_put_other (fun e => name24 hp hq (by omega) (by injection e with e; exact e.symm))]
  exact hd j q (by omega) hq
end Go.Proofs.YtfdhglllmhggkaaDoor
namespace Go.Proofs.YtfdhglllmhggkaaDoor
set_option maxRecDepth 100000
set_option maxHeartbeats 40000000
set_option maxRecDepth 100000
open Go.RowKit WMath
set_option linter.unusedSimpArgs false
set_option linter.unusedVariables false
def RwOk (q : Rw) : Prop := q.op < 256 ∧ q.form < 256 ∧ q.frm < 256 ∧ q.kind < 256 ∧ q.mask < 4294967296 ∧ q.mtch < 4294967296 ∧ q.lay < 256
theorem okL : (allL.all fun p => decide (p.1.op < 256 ∧ p.1.form < 256 ∧ p.1.frm < 256 ∧ p.1.kind < 256 ∧ p.1.mask < 4294967296 ∧ p.1.mtch < 4294967296 ∧ p.1.lay < 256)) = true := by decide +kernel
theorem ok24 {p : Nm} (hp : p ∈ allL) : RwOk p.1 := by
  unfold RwOk
  exact of_decide_eq_true (List.all_eq_true.1 okL p hp)
theorem lv1 : (fdL 3211475).isSome = true ∧ (fdL 3231955).isSome = false ∧ (ndO (fdL 3231955)).1 = rwZ ∧ (ndO (nmR24 (ndO (fdL 3211475)).1)).2 = [102, 97, 100, 100, 46, 115] ∧ erO (nmR24 (ndO (fdL 3211475)).1) = 0 := by decide +kernel
theorem lv2 : erO (byR24 ⟨#[102, 99, 118, 116, 46, 100, 46, 119, 117]⟩) = 0 ∧ (ndO (byR24 ⟨#[102, 99, 118, 116, 46, 100, 46, 119, 117]⟩)).1.op = 22 ∧ (ndO (byR24 ⟨#[102, 99, 118, 116, 46, 100, 46, 119, 117]⟩)).1.form = 1 ∧ (ndO (byR24 ⟨#[102, 99, 118, 116, 46, 100, 46, 119, 117]⟩)).1.kind = 1 := by decide +kernel
theorem lv3 : RwOk (ndO (fdL 3211475)).1 := by unfold RwOk; decide +kernel
theorem lives24 {T : World → Prop} (FB : Box (∀ {w w' : World}, T w → Below w.heap.size w w' → T w')) (CF : ∀ x : Nat, x < 4294967296 → Box (∀ w, T w → Calls Tryd.prog 15 #[.int .u32 (x : Nat)] w fun r w' => r = .returned (.tuple #[.agg (rwC (ndO (fdL x)).1), .bool (fdL x).isSome]) ∧ Below w.heap.size w w')) (CN : ∀ q : Rw, RwOk q → Box (∀ w, T w → Calls Tryd.prog 12 #[.agg (rwC q)] w fun r w' => r = .returned (.tuple #[.string ⟨(ndO (nmR24 q)).2.toArray⟩, .int .i64 (erO (nmR24 q))]) ∧ Below w.heap.size w w')) (CD : ∀ s : ByteArray, s.size ≤ maxLen → Box (∀ w, T w → Calls Tryd.prog 13 #[.string s] w fun r w' => r = .returned (.tuple #[.agg (rwC (ndO (byR24 s)).1), .int .i64 (erO (byR24 s))]) ∧ Below w.heap.size w w')) (CL : Box (∀ w, T w → Calls Tryd.prog 11 #[] w fun r w' => r = .returned (.int .i64 136) ∧ Below w.heap.size w w')) (w : World) (hT : T w) : Calls Tryd.prog 14 #[] w fun r w' => r = .returned (.bool true) ∧ Below w.heap.size w w' := by
  obtain ⟨a1, a2, a3, a4, a5⟩ := lv1
  obtain ⟨b1, b2, b3, b4⟩ := lv2
  have F1 := CF 3211475 (by decide)
  have F2 := CF 3231955 (by decide)
  have N1 := CN _ lv3
  have N2 := CD ⟨#[102, 99, 118, 116, 46, 100, 46, 119, 117]⟩ (by decide)
  rw [a1] at F1
  rw [a2, a3] at F2
  rw [a4, a5] at N1
  rw [b1] at N2
  exact tb_lives FB _ _ ⟨b2, b3, b4⟩ F1 F2 N1 N2 CL w hT
theorem backL : (allL.all fun p => decide ((ndO (nmR24 p.1)).2 = p.2 ∧ erO (nmR24 p.1) = 0)) = true := by decide +kernel
theorem backN : (allL.all fun p => decide ((ndO (byR24 ⟨p.2.toArray⟩)).1 = p.1 ∧ erO (byR24 ⟨p.2.toArray⟩) = 0 ∧ p.2.length ≤ 100)) = true := by decide +kernel
theorem nm24 {p : Nm} (hp : p ∈ allL) : (ndO (nmR24 p.1)).2 = p.2 ∧ erO (nmR24 p.1) = 0 := of_decide_eq_true (List.all_eq_true.1 backL p hp)
theorem by24 {p : Nm} (hp : p ∈ allL) : (ndO (byR24 ⟨p.2.toArray⟩)).1 = p.1 ∧ erO (byR24 ⟨p.2.toArray⟩) = 0 ∧ p.2.length ≤ 100 := of_decide_eq_true (List.all_eq_true.1 backN p hp)
theorem rows24 {T : World → Prop} (FB : Box (∀ {w w' : World}, T w → Below w.heap.size w w' → T w')) (CN : ∀ q : Rw, RwOk q → Box (∀ w, T w → Calls Tryd.prog 12 #[.agg (rwC q)] w fun r w' => r = .returned (.tuple #[.string ⟨(ndO (nmR24 q)).2.toArray⟩, .int .i64 (erO (nmR24 q))]) ∧ Below w.heap.size w w')) (CD : ∀ s : ByteArray, s.size ≤ maxLen → Box (∀ w, T w → Calls Tryd.prog 13 #[.string s] w fun r w' => r = .returned (.tuple #[.agg (rwC (ndO (byR24 s)).1), .int .i64 (erO (byR24 s))]) ∧ Below w.heap.size w w')) (CL : Box (∀ w, T w → Calls Tryd.prog 11 #[] w fun r w' => r = .returned (.int .i64 136) ∧ Below w.heap.size w w')) (CR : Box (∀ w, T w → Calls Tryd.prog 10 #[] w fun r w' => ∃ v, r = .returned v ∧ OwnsRws w w' v)) (KL : Box (∀ w, T w → Calls Tryd.prog 14 #[] w fun r w' => r = .returned (.bool true) ∧ Below w.heap.size w w')) (w : World) (hT : T w) : Calls Tryd.prog 3 #[] w fun r w' => r = .returned (.bool true) ∧ Below w.heap.size w w' := by
  refine tb_rows FB (box (fun w => rAll24 w)) CR CL (box (fun p hp w hT => ?_)) (box (fun p hp w hT => ?_)) KL w hT
  · have h := (CN p.1 (ok24 hp)).out w hT
    rw [(nm24 hp).1, (nm24 hp).2] at h
    exact h
  · have h := (CD ⟨p.2.toArray⟩ (by show p.2.toArray.size ≤ maxLen; rw [List.size_toArray]; have := (by24 hp).2.2; unfold maxLen; omega)).out w hT
    rw [(by24 hp).1, (by24 hp).2.1] at h
    exact h
end Go.Proofs.YtfdhglllmhggkaaDoor
namespace Go.Proofs.YtfdhglllmhggkaaDoor
set_option maxRecDepth 100000
set_option maxHeartbeats 40000000
set_option maxRecDepth 100000
open Go.RowKit Go.Shelf WMath
set_option linter.unusedVariables false
set_option linter.unusedSimpArgs false
attribute [local go_sem] Oper.semAt_some

theorem row_grq {W W' : World} {row : Option Nat} {B g : Nat} {o : Obj} (h : W.heap[g]? = some o) (hg : W.grownBy W' row) (hr : ∀ r, row = some r → B ≤ r) (hb : g < B) : W'.heap[g]? = some o := by
  rw [hg.block g (Array.getElem?_eq_some_iff.1 h).1 (fun e => by have := hr g e.symm; omega)]
  exact h
end Go.Proofs.YtfdhglllmhggkaaDoor
namespace Go.Proofs.YtfdhglllmhggkaaDoor
set_option maxRecDepth 100000
set_option maxHeartbeats 40000000
set_option maxRecDepth 100000
open Go.RowKit WMath
set_option linter.unusedVariables false
structure TopK (B : Nat) (W W' : World) : Prop where
  size : W.heap.size ≤ W'.heap.size
  same : ∀ k, B ≤ k → k < W.heap.size → W'.heap[k]? = W.heap[k]?
theorem TopK.refl (B : Nat) (W : World) : TopK B W W := ⟨Nat.le_refl _, fun _ _ _ => rfl⟩
theorem TopK.trans {B : Nat} {X Y Z : World} (h : TopK B X Y) (k : TopK B Y Z) : TopK B X Z :=
  ⟨Nat.le_trans h.size k.size, fun i a b => (k.same i a (Nat.lt_of_lt_of_le b h.size)).trans (h.same i a b)⟩
theorem TopK.mono {B C : Nat} {X Y : World} (h : TopK B X Y) (c : B ≤ C) : TopK C X Y := ⟨h.size, fun i a b => h.same i (Nat.le_trans c a) b⟩
theorem TopK.grown {B : Nat} {W W' : World} {row : Option Nat} (hg : W.grownBy W' row) (hr : ∀ r, row = some r → r < B) : TopK B W W' :=
  ⟨hg.size, fun k a b => hg.block k b (fun e => by have := hr k e.symm; omega)⟩
theorem TopK.setCell {B : Nat} (W : World) (b i : Nat) (v : Value) (h : b < B) : TopK B W (W.setCell ⟨b, i, none⟩ v) := by
  refine ⟨?_, fun k a c => setCell_other (by omega)⟩
  exact ((Below.refl 0 W).setCell (p := ⟨b, i, none⟩) (Nat.zero_le _) v).size
theorem TopK.alloc {B : Nat} (W : World) (o : Obj) : TopK B W (W.alloc o) :=
  ⟨((Below.refl 0 W).alloc (Nat.zero_le _) o).size, fun k a b => Below.heap_alloc W o k b⟩
theorem TopK.putObj {B : Nat} (W : World) (l : Nat) (o : Obj) (h : l < B) : TopK B W (W.putObj l o) := .grown (grownBy_putObj' W l o) (fun r e => by cases e; exact h)
theorem TopK.below {B : Nat} {W W' : World} (h : Below W.heap.size W W') : TopK B W W' := ⟨h.size, fun k a b => h.block k b⟩
theorem TopK.row {B : Nat} {W W' : World} (h : TopK B W W') {k : Nat} {o : Obj} (a : B ≤ k) (hk : W.heap[k]? = some o) : W'.heap[k]? = some o := (h.same k a (Array.getElem?_eq_some_iff.1 hk).1).trans hk
end Go.Proofs.YtfdhglllmhggkaaDoor
namespace Go.Proofs.YtfdhglllmhggkaaDoor
set_option maxRecDepth 100000
set_option maxHeartbeats 40000000
set_option maxRecDepth 100000
open Go.RowKit Go.Shelf WMath
set_option linter.unusedVariables false
set_option linter.unusedSimpArgs false
attribute [local go_sem] Oper.semAt_some

def rwsC (l : List Rw) : List Value := l.flatMap fun r => (rwC r).toList
theorem rwsC_app (l m : List Rw) : rwsC (l ++ m) = rwsC l ++ rwsC m := by simp [rwsC]
theorem rwsC_at (m : List Rw) (k j : Nat) (p : Rw) (h : m[k]? = some p) (hj : j < 7) : (rwsC m)[k * 7 + j]? = (rwC p).toList[j]? := flat_at (fun r => (rwC r).toList) 7 (fun _ => rfl) m k j p h hj
theorem own_setq {w : World} {base : Nat} {e : TypeId} {size n : Nat} {v : Value} {xs : List Value} {g : Nat} {u : Value} (h : w.ownsRow base e size v n xs) (hg : g < base) : (w.setCell ⟨g, 0, none⟩ u).ownsRow base e size v n xs := by
  refine ⟨h.1, ?_⟩
  rcases h.2 with q | ⟨b, cap, cur, h1, h2, h3, h4⟩
  · exact Or.inl q
  · exact Or.inr ⟨b, cap, cur, h1, h2, by rw [setCell_other (by omega)]; exact h3, h4⟩
theorem rw_oneq (r : Rw) : ∀ u ∈ (rwC r).toList, u.oneCell' = true := fun x hx => by
  simp [rwC] at hx
  rcases hx with rfl | rfl | rfl | rfl | rfl | rfl | rfl <;> rfl
end Go.Proofs.YtfdhglllmhggkaaDoor
namespace Go.Proofs.YtfdhglllmhggkaaDoor
set_option maxRecDepth 100000
set_option maxHeartbeats 40000000
set_option maxRecDepth 100000
set_option linter.unusedVariables false
structure Pl where
  nm : List UInt8
  opc : Nat
  rs3 : Nat
  rm : Nat
  lay : Nat
deriving DecidableEq
def plL : List Pl := [
  ⟨[], 0, 0, 0, 0⟩,
  ⟨[102, 108, 77], 7, 0, 0, 1⟩,
  ⟨[102, 115, 77], 39, 0, 0, 2⟩,
  ⟨[102, 109, 97, 100, 100, 46, 70], 67, 0, 0, 3⟩,
  ⟨[102, 109, 115, 117, 98, 46, 70], 71, 0, 0, 3⟩,
  ⟨[102, 110, 109, 115, 117, 98, 46, 70], 75, 0, 0, 3⟩,
  ⟨[102, 110, 109, 97, 100, 100, 46, 70], 79, 0, 0, 3⟩,
  ⟨[102, 97, 100, 100, 46, 70], 83, 0, 0, 4⟩,
  ⟨[102, 115, 117, 98, 46, 70], 83, 1, 0, 4⟩,
  ⟨[102, 109, 117, 108, 46, 70], 83, 2, 0, 4⟩,
  ⟨[102, 100, 105, 118, 46, 70], 83, 3, 0, 4⟩,
  ⟨[102, 115, 113, 114, 116, 46, 70], 83, 11, 0, 6⟩,
  ⟨[102, 115, 103, 110, 106, 46, 70], 83, 4, 0, 5⟩,
  ⟨[102, 115, 103, 110, 106, 110, 46, 70], 83, 4, 1, 5⟩,
  ⟨[102, 115, 103, 110, 106, 120, 46, 70], 83, 4, 2, 5⟩,
  ⟨[102, 109, 105, 110, 46, 70], 83, 5, 0, 5⟩,
  ⟨[102, 109, 97, 120, 46, 70], 83, 5, 1, 5⟩,
  ⟨[102, 99, 118, 116, 46, 70, 46, 71], 83, 8, 0, 6⟩,
  ⟨[102, 101, 113, 46, 70], 83, 20, 2, 5⟩,
  ⟨[102, 108, 116, 46, 70], 83, 20, 1, 5⟩,
  ⟨[102, 108, 101, 46, 70], 83, 20, 0, 5⟩,
  ⟨[102, 99, 118, 116, 46, 75, 46, 70], 83, 24, 0, 6⟩,
  ⟨[102, 99, 118, 116, 46, 70, 46, 75], 83, 26, 0, 6⟩,
  ⟨[102, 109, 118, 46, 120, 46, 77], 83, 28, 0, 7⟩,
  ⟨[102, 99, 108, 97, 115, 115, 46, 70], 83, 28, 1, 7⟩,
  ⟨[102, 109, 118, 46, 77, 46, 120], 83, 30, 0, 7⟩,
  ⟨[99, 115, 114, 114, 119], 115, 0, 1, 8⟩,
  ⟨[99, 115, 114, 114, 115], 115, 0, 2, 8⟩,
  ⟨[99, 115, 114, 114, 99], 115, 0, 3, 8⟩,
  ⟨[99, 115, 114, 114, 119, 105], 115, 0, 5, 9⟩,
  ⟨[99, 115, 114, 114, 115, 105], 115, 0, 6, 9⟩,
  ⟨[99, 115, 114, 114, 99, 105], 115, 0, 7, 9⟩]
def plZ : Pl := ⟨[], 0, 0, 0, 0⟩
def plN (o : Nat) : Pl := plL[o]?.getD plZ
def fxL : List Nat := [0, 28799, 28799, 100663423, 4261412991, 4261441663, 4293918847, 4293947519, 28799, 28799]
def fxN (l : Nat) : Nat := fxL[l]?.getD 0
def wdL : List Nat := [2, 3, 1, 4]
def wdN (f : Nat) : Nat := wdL[f]?.getD 0
structure Fd where
  opc : Nat
  rm : Nat
  rs2 : Nat
  form : Nat
  rs3 : Nat
deriving DecidableEq
def cutF (w : Nat) : Fd := ⟨w % 128, w / 4096 % 8, w / 1048576 % 32, w / 33554432 % 4, w / 134217728 % 32⟩
def wordF (f : Fd) : Nat := (((f.opc ||| f.rm * 4096) ||| f.rs2 * 1048576) ||| f.form * 33554432) ||| f.rs3 * 134217728
def cnQ (o : Nat) : Nat × Nat × Nat :=
  if (plN o).lay = 0 then (0, 0, 0) else if (plN o).lay = 8 ∨ (plN o).lay = 9 then (1, 1, 1) else if o = 23 ∨ o = 25 then (3, 1, 1) else if o = 17 then (4, 4, 1) else if o = 21 ∨ o = 22 then (4, 1, 4) else (4, 1, 1)
def rmP (o f : Nat) : Nat := if (plN o).lay = 1 ∨ (plN o).lay = 2 then wdN f else (plN o).rm
def fdP (o f g k : Nat) : Fd := ⟨(plN o).opc, rmP o f, g ||| k, f, (plN o).rs3⟩
def rwP24 (o f g k : Nat) : Rw := ⟨o, f, g, k, fxN (plN o).lay, wordF (fdP o f g k) &&& fxN (plN o).lay, (plN o).lay⟩
def inP24 (o f g k : Nat) : List Rw := if o = 17 ∧ g = f then [] else [rwP24 o f g k]
def kP24 (o f g k : Nat) : List Rw := (List.range k).flatMap (inP24 o f g)
def gP24 (o f g : Nat) : List Rw := (List.range g).flatMap fun g => kP24 o f g (cnQ o).2.2
def fP24 (o f : Nat) : List Rw := (List.range f).flatMap fun f => gP24 o f (cnQ o).2.1
def rwsO (o : Nat) : List Rw := fP24 o (cnQ o).1
theorem rwsO_all : (List.range 32).flatMap rwsO = allL.map (·.1) := by decide +kernel
theorem rwsO_out {o : Nat} (h : 32 ≤ o) : rwsO o = [] := by
  have e : plN o = plZ := by unfold plN; rw [List.getElem?_eq_none (by show 32 ≤ o; exact h)]; rfl
  simp [rwsO, cnQ, e, plZ, fP24]
theorem fP24_next (o f : Nat) : fP24 o (f + 1) = fP24 o f ++ gP24 o f (cnQ o).2.1 := by simp [fP24, List.range_succ]
theorem gP_next (o f g : Nat) : gP24 o f (g + 1) = gP24 o f g ++ kP24 o f g (cnQ o).2.2 := by simp [gP24, List.range_succ]
theorem kP_next (o f g k : Nat) : kP24 o f g (k + 1) = kP24 o f g k ++ inP24 o f g k := by simp [kP24, List.range_succ]
theorem rws_op : ((List.range 32).all fun o => (rwsO o).all fun r => decide (r.op = o ∧ r.form < 4 ∧ r.frm < 4 ∧ r.kind < 4)) = true := by decide +kernel
theorem cnQ_le : ((List.range 32).all fun o => decide ((cnQ o).1 ≤ 4 ∧ (cnQ o).2.1 ≤ 4 ∧ (cnQ o).2.2 ≤ 4)) = true := by decide +kernel
end Go.Proofs.YtfdhglllmhggkaaDoor
