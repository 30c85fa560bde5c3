/-
  What the functions that the statement reaches return: part 6 (BH, BM, BN, BO, BQ, BS, JP, JM, BU, DA).
-/
import Derived.Maps.Own
import Derived.Maps.Views
import Derived.StringKeys
import Derived.RangeFuncNested
import Derived.RangeFuncBound
import Derived.RangeFuncCalls
import Derived.RangeFuncLeaves
import Derived.RangeFuncFrom
import Derived.Shelf.Abstract
import Derived.Shelf.RegionOpen
import Derived.WalkKit
import Derived.OwnWalkIn
import Derived.TacticsInMore
import Derived.LoopNIn
import Derived.LoopIn
import Derived.LoopN
import Derived.Sort.QuietIn
import Derived.Deep.RegionHeld3
import Derived.ChangeMaps5
import Derived.OpenShut
import Derived.Carry
import Derived.Deep.RegionLaw
import Derived.Deep.AppendLies
import Derived.Test.YtfdhglllmhggkaaDoorFa05
namespace Go.Proofs.YtfdhglllmhggkaaDoor
set_option maxRecDepth 100000
set_option maxHeartbeats 40000000
set_option maxRecDepth 100000
open Go.RowKit WMath
set_option linter.unusedSimpArgs false
set_option linter.unusedVariables false
def mdL (l : Nat) : Bool := decide (l = 3 ∨ l = 4 ∨ l = 6)
theorem b24_moded (l : Nat) (o : Bool) (ho : mdL l = o) (w : World) : Calls Tryd.prog 20 #[.int .u8 (l : Nat)] w fun r w' => r = .returned (.bool o) ∧ Below w.heap.size w w' := by
  subst ho
  unfold mdL
  by_cases a : l = 3
  · subst a
    have B0 : Below w.heap.size w w := (Below.refl _ _)
    go_enter Tryd.func20, Tryd.ntmps20
    go_wp2
    go_ret
    exact ⟨rfl, B0⟩
  · have a1 : ((l : Int) == 3) = false := by rw [beq_eq_false_iff_ne]; omega
    by_cases b : l = 4
    · subst b
      have B0 : Below w.heap.size w w := (Below.refl _ _)
      go_enter Tryd.func20, Tryd.ntmps20
      go_wp2
      go_ret
      exact ⟨rfl, B0⟩
    · have b1 : ((l : Int) == 4) = false := by rw [beq_eq_false_iff_ne]; omega
      by_cases c : l = 6
      · subst c
        have B0 : Below w.heap.size w w := (Below.refl _ _)
        go_enter Tryd.func20, Tryd.ntmps20
        go_wp2
        go_ret
        exact ⟨rfl, B0⟩
      · have c1 : ((l : Int) == 6) = false := by rw [beq_eq_false_iff_ne]; omega
        rw [decide_eq_false (by omega)]
        have B0 : Below w.heap.size w w := (Below.refl _ _)
        go_enter Tryd.func20, Tryd.ntmps20
        go_wp2
        go_ret
        exact ⟨rfl, B0⟩
theorem and_bits (m w t : Nat) (hm : m < 4294967296) : (∀ k, k < 32 → m.testBit k = true → w.testBit k = t.testBit k) ↔ w &&& m = t &&& m := by
  constructor
  · intro h
    refine Nat.eq_of_testBit_eq fun k => ?_
    rw [Nat.testBit_and, Nat.testBit_and]
    cases q : m.testBit k
    · rw [Bool.and_false, Bool.and_false]
    · by_cases c : k < 32
      · rw [h k c q]
      · have : m.testBit k = false := Nat.testBit_lt_two_pow (Nat.lt_of_lt_of_le hm (by rw [show (4294967296 : Nat) = 2 ^ 32 from rfl]; exact Nat.pow_le_pow_right (by decide) (by omega)))
        rw [this] at q
        exact Bool.noConfusion q
  · intro h k _ q
    have := congrArg (fun x => x.testBit k) h
    simp only [Nat.testBit_and, q, Bool.and_true] at this
    exact this
theorem and32 (a b : Nat) (ha : a < 4294967296) (hb : b < 4294967296) : bits .and .u32 (a : Int) (b : Int) = ((a &&& b : Nat) : Int) := by
  have hx : a &&& b ≤ a := Nat.and_le_left
  have h1 : (BitVec.ofInt 32 (a : Int)).toNat = a := by
    rw [BitVec.ofInt_natCast, BitVec.toNat_ofNat]; exact Nat.mod_eq_of_lt (by omega)
  have h2 : (BitVec.ofInt 32 (b : Int)).toNat = b := by
    rw [BitVec.ofInt_natCast, BitVec.toNat_ofNat]; exact Nat.mod_eq_of_lt (by omega)
  show IntKind.u32.wrap ((BitVec.ofInt 32 (a : Int) &&& BitVec.ofInt 32 (b : Int)).toNat : Int) = _
  rw [BitVec.toNat_and, h1, h2, show ∀ y : Int, IntKind.u32.wrap y = y % 4294967296 from fun _ => rfl]
  omega
theorem tb_mod (x k : Nat) : x / 2 ^ k % 2 = (x.testBit k).toNat := by
  rw [Nat.testBit_eq_decide_div_mod_eq]
  have := Nat.mod_two_eq_zero_or_one (x / 2 ^ k)
  rcases this with q | q <;> rw [q] <;> rfl
theorem bit32 (x k : Nat) (hx : x < 4294967296) : bits .and .u32 ((x : Int) / 2 ^ k) 1 = ((x / 2 ^ k % 2 : Nat) : Int) := by
  have h1 : x / 2 ^ k < 4294967296 := Nat.lt_of_le_of_lt (Nat.div_le_self _ _) hx
  have := and32 (x / 2 ^ k) 1 h1 (by omega)
  rw [Nat.and_one_is_mod] at this
  rw [← this]
  congr 1
def rmB (x : Nat) : Bool := decide (x / 4096 % 8 = 5 ∨ x / 4096 % 8 = 6)
def crB (x : Nat) : Bool := decide (1 ≤ x / 1048576 ∧ x / 1048576 ≤ 3)
theorem fits_parts (r : Rw) (x : Nat) (h : x &&& r.mask = r.mtch &&& r.mask) : fitsL r x = (!(mdL r.lay && rmB x) && (!decide (r.lay = 8 ∨ r.lay = 9) || crB x)) := by
  unfold fitsL mdL rmB crB
  rw [decide_eq_true h, Bool.true_and]
set_option maxRecDepth 100000 in
set_option maxHeartbeats 8000000 in
theorem b24_fits (r : Rw) (x : Nat) (hm : r.mask < 4294967296) (ht : r.mtch < 4294967296) (hx : x < 4294967296) (o : Bool) (ho : fitsL r x = o) (w : World) : Calls Tryd.prog 18 #[.agg (rwC r), .int .u32 (x : Nat)] w fun r w' => r = .returned (.bool o) ∧ Below w.heap.size w w' := by
  have HM := box hm
  have HT := box ht
  have HX := box hx
  have HO := box ho
  clear hm ht hx ho
  obtain ⟨Rr_0, B0⟩ := opn1 w (Obj.cells (rwC r) 36)
  go_enter Tryd.func18, Tryd.ntmps18
  obtain ⟨cr_0_0, cr_0_1, cr_0_2, cr_0_3, cr_0_4, cr_0_5, cr_0_6⟩ := rwC_cells Rr_0
  go_wp2
  go_loopw [5] (fun kv wr => ∃ k : Nat, k ≤ 32 ∧ kv = .int .i64 (k : Int) ∧ Below w.heap.size w wr ∧ wr.heap[w.heap.size]? = some (.cells (rwC r) 36) ∧ Box (∀ j, j < k → r.mask.testBit j = true → x.testBit j = r.mtch.testBit j)) (fun kv _ => 32 - (intOf kv).toNat)
  case atStart => exact ⟨0, Nat.zero_le _, rfl, B0, Rr_0, box (fun j hj => absurd hj (by omega))⟩
  case round =>
    clear B0 Rr_0 cr_0_0 cr_0_1 cr_0_2 cr_0_3 cr_0_4 cr_0_5 cr_0_6
    obtain ⟨k, hk, rfl, hB, hR, HA⟩ := hrel
    obtain ⟨d0, d1, d2, d3, d4, d5, d6⟩ := rwC_cells hR
    by_cases hlt : k < 32
    · have dl : decide ((k : Int) < 32) = true := decide_eq_true (by omega)
      have dk : decide ((k : Int) < 0) = false := decide_eq_false (by omega)
      have hw1 : IntKind.i64.wrap ((k : Int) + 1) = ((k + 1 : Nat) : Int) := by rw [IntKind.wrap_i64]; omega
      obtain ⟨a, ha⟩ : ∃ a, r.mask.testBit k = a := ⟨_, rfl⟩
      obtain ⟨b, hb⟩ : ∃ a, x.testBit k = a := ⟨_, rfl⟩
      obtain ⟨c, hc⟩ : ∃ a, r.mtch.testBit k = a := ⟨_, rfl⟩
      have h1 := bit32 r.mask k HM.out
      have h2 := bit32 x k HX.out
      have h3 := bit32 r.mtch k HT.out
      rw [tb_mod, ha] at h1
      rw [tb_mod, hb] at h2
      rw [tb_mod, hc] at h3
      have HK := box (show a = true → b = c → ∀ j, j < k + 1 → r.mask.testBit j = true → x.testBit j = r.mtch.testBit j from fun e1 e2 j hj q => by
        by_cases z : j < k
        · exact HA.out j z q
        · have : j = k := by omega
          subst this
          rw [hb, hc, e2])
      have HF := box (show a = true → b ≠ c → fitsL r x = false from fun e1 e2 => by
        unfold fitsL
        rw [decide_eq_false (fun z => e2 (by rw [← hb, ← hc]; exact (and_bits _ _ _ HM.out).2 z k hlt (ha.trans e1))), Bool.false_and, Bool.false_and])
      have HN := box (show a = false → ∀ j, j < k + 1 → r.mask.testBit j = true → x.testBit j = r.mtch.testBit j from fun e1 j hj q => by
        by_cases z : j < k
        · exact HA.out j z q
        · have : j = k := by omega
          subst this
          rw [ha, e1] at q
          exact Bool.noConfusion q)
      clear ha hb hc
      cases a
      · have HNX := box (HN.out rfl)
        cases b <;> cases c
        all_goals
          simp only [Bool.toNat_true, Bool.toNat_false] at h1 h2 h3
          go_wp2_with fail
          go_quiet (fail)
          obtain ⟨w1, hw, B1, hh⟩ := quiet_world hB nq
          rw [hw]
          have R1 : w1.heap[w.heap.size]? = some (.cells (rwC r) 36) := by rw [hh]; exact hR
          clear hw hh hB hR d0 d1 d2 d3 d4 d5 d6
          go_wp2
          go_roundw
          case rel => exact ⟨k + 1, by omega, by first | rfl | simp, B1, R1, HNX⟩
          case measure => simp [intOf]; omega
      · by_cases q : b = c
        · have HNX := box (HK.out rfl q)
          subst q
          cases b
          all_goals
            simp only [Bool.toNat_true, Bool.toNat_false] at h1 h2 h3
            go_wp2_with fail
            go_quiet (fail)
            obtain ⟨w1, hw, B1, hh⟩ := quiet_world hB nq
            rw [hw]
            have R1 : w1.heap[w.heap.size]? = some (.cells (rwC r) 36) := by rw [hh]; exact hR
            clear hw hh hB hR d0 d1 d2 d3 d4 d5 d6
            go_wp2
            go_roundw
            case rel => exact ⟨k + 1, by omega, by first | rfl | simp, B1, R1, HNX⟩
            case measure => simp [intOf]; omega
        · have HFX := HF.out rfl q
          cases b <;> cases c
          · exact absurd rfl q
          · simp only [Bool.toNat_true, Bool.toNat_false] at h1 h2 h3
            go_wp2_with fail
            go_quiet (fail)
            obtain ⟨w1, hw, B1, hh⟩ := quiet_world hB nq
            rw [hw]
            have R1 : w1.heap[w.heap.size]? = some (.cells (rwC r) 36) := by rw [hh]; exact hR
            clear hw hh hB hR d0 d1 d2 d3 d4 d5 d6
            go_wp2
            go_ret
            have eo : o = false := by rw [← HO.out]; exact HFX
            subst eo
            exact ⟨rfl, B1⟩
          · simp only [Bool.toNat_true, Bool.toNat_false] at h1 h2 h3
            go_wp2_with fail
            go_quiet (fail)
            obtain ⟨w1, hw, B1, hh⟩ := quiet_world hB nq
            rw [hw]
            have R1 : w1.heap[w.heap.size]? = some (.cells (rwC r) 36) := by rw [hh]; exact hR
            clear hw hh hB hR d0 d1 d2 d3 d4 d5 d6
            go_wp2
            go_ret
            have eo : o = false := by rw [← HO.out]; exact HFX
            subst eo
            exact ⟨rfl, B1⟩
          · exact absurd rfl q
    · have k32 : k = 32 := by omega
      subst k32
      have dl : decide ((32 : Int) < 32) = false := rfl
      have HE := box ((HO.out).symm.trans (fits_parts r x ((and_bits r.mask x r.mtch HM.out).1 HA.out)))
      clear hlt hk HA
      obtain ⟨m, hm⟩ : ∃ m, mdL r.lay = m := ⟨_, rfl⟩
      have KM := box (fun w => b24_moded r.lay m hm w)
      obtain ⟨rm, hrm⟩ : ∃ n, x / 4096 % 8 = n := ⟨_, rfl⟩
      obtain ⟨cs, hcs⟩ : ∃ n, x / 1048576 = n := ⟨_, rfl⟩
      have hd : (x : Int) / 4096 % 8 = (rm : Int) := by omega
      have hc2 : (x : Int) / 1048576 = (cs : Int) := by omega
      obtain ⟨b5, h5⟩ : ∃ b, ((rm : Int) == 5) = b := ⟨_, rfl⟩
      obtain ⟨b6, h6⟩ : ∃ b, ((rm : Int) == 6) = b := ⟨_, rfl⟩
      obtain ⟨b8, h8⟩ : ∃ b, ((r.lay : Int) == 8) = b := ⟨_, rfl⟩
      obtain ⟨b9, h9⟩ : ∃ b, ((r.lay : Int) == 9) = b := ⟨_, rfl⟩
      obtain ⟨u1, g1⟩ : ∃ b, decide ((1 : Int) ≤ (cs : Int)) = b := ⟨_, rfl⟩
      obtain ⟨u3, g3⟩ : ∃ b, decide ((cs : Int) ≤ 3) = b := ⟨_, rfl⟩
      have e1 : rmB x = (b5 || b6) := by
        unfold rmB
        rw [hrm, ← h5, ← h6, Bool.decide_or]
        congr 1 <;> rw [Bool.eq_iff_iff, decide_eq_true_iff, beq_iff_eq] <;> omega
      have e2 : decide (r.lay = 8 ∨ r.lay = 9) = (b8 || b9) := by
        rw [← h8, ← h9, Bool.decide_or]
        congr 1 <;> rw [Bool.eq_iff_iff, decide_eq_true_iff, beq_iff_eq] <;> omega
      have e3 : crB x = (u1 && u3) := by
        unfold crB
        rw [hcs, ← g1, ← g3, Bool.decide_and]
        congr 1 <;> exact decide_eq_decide.2 (by omega)
      have NB : Box (¬ (b8 = true ∧ b9 = true)) := box (by rw [← h8, ← h9, beq_iff_eq, beq_iff_eq]; omega)
      have H8 := box h8
      have H9 := box h9
      have G1 := box g1
      have G3 := box g3
      have HE2 : o = (!(m && (b5 || b6)) && (!(b8 || b9) || (u1 && u3))) := by rw [HE.out, hm, e1, e2, e3]
      have HE := box HE2
      clear HE2 e1 e2 e3 hm hrm hcs
      go_wp2_with fail
      refine (KM.out _).mono ?_
      rintro r9 w1 ⟨rfl, b1⟩
      have B1 := btr hB b1
      have R1 := heap_of b1 _ _ _ hR
      clear hB hR d0 d1 d2 d3 d4 d5 d6 b1
      obtain ⟨d0, d1, d2, d3, d4, d5, d6⟩ := rwC_cells R1
      cases m
      case false =>
        cases b8 <;> cases b9 <;> cases u1 <;> cases u3
        all_goals first | exact absurd ⟨rfl, rfl⟩ NB.out | skip
        all_goals
          have eo := HE.out
          simp only [Bool.false_and, Bool.and_false, Bool.true_and, Bool.and_true, Bool.or_false, Bool.or_true, Bool.false_or, Bool.true_or, Bool.not_true, Bool.not_false] at eo
          clear HE
          subst eo
          go_wp2
          all_goals
            go_ret
            first | exact ⟨rfl, B1⟩ | (exfalso; have q1 := G1.out; have q3 := G3.out; have q8 := H8.out; have q9 := H9.out; simp only [beq_iff_eq, beq_eq_false_iff_ne, decide_eq_true_iff, decide_eq_false_iff_not] at q1 q3 q8 q9; omega)
      case true =>
        cases b5
        case true =>
          have eo := HE.out
          simp only [Bool.true_or, Bool.true_and, Bool.not_true, Bool.false_and] at eo
          clear HE
          subst eo
          go_wp2
          go_ret
          exact ⟨rfl, B1⟩
        case false =>
          cases b6
          case true =>
            have eo := HE.out
            simp only [Bool.or_true, Bool.true_and, Bool.not_true, Bool.false_and] at eo
            clear HE
            subst eo
            go_wp2
            go_ret
            exact ⟨rfl, B1⟩
          case false =>
            cases b8 <;> cases b9 <;> cases u1 <;> cases u3
            all_goals first | exact absurd ⟨rfl, rfl⟩ NB.out | skip
            all_goals
              have eo := HE.out
              simp only [Bool.false_and, Bool.and_false, Bool.true_and, Bool.and_true, Bool.or_false, Bool.or_true, Bool.false_or, Bool.true_or, Bool.not_true, Bool.not_false] at eo
              clear HE
              subst eo
              go_wp2
              all_goals
                go_ret
                first | exact ⟨rfl, B1⟩ | (exfalso; have q1 := G1.out; have q3 := G3.out; have q8 := H8.out; have q9 := H9.out; simp only [beq_iff_eq, beq_eq_false_iff_ne, decide_eq_true_iff, decide_eq_false_iff_not] at q1 q3 q8 q9; omega)
theorem b24_row (l : Ln) (f g k : Nat) (hl : l ∈ linesL) (hf : f < 4) (hg : g < 4) (hk : k < 4) (w : World) : Calls Tryd.prog 27 #[.agg (lnC l), .int .u8 (f : Nat), .int .u8 (g : Nat), .int .u8 (k : Nat)] w fun r w' => r = .returned (.agg (ndC (rwL l f g k) ⟨(nmL l f g k).toArray⟩)) ∧ Below w.heap.size w w' := by
  simp only [linesL, List.mem_cons, List.not_mem_nil, or_false] at hl
  rcases hl with rfl | rfl | rfl | rfl | rfl | rfl | rfl | rfl | rfl | rfl | rfl | rfl | rfl | rfl | rfl | rfl | rfl | rfl | rfl | rfl | rfl | rfl | rfl | rfl | rfl | rfl | rfl | rfl | rfl | rfl | rfl
  · exact b24_l0 f g k hf hg hk w
  · exact b24_l1 f g k hf hg hk w
  · exact b24_l2 f g k hf hg hk w
  · exact b24_l3 f g k hf hg hk w
  · exact b24_l4 f g k hf hg hk w
  · exact b24_l5 f g k hf hg hk w
  · exact b24_l6 f g k hf hg hk w
  · exact b24_l7 f g k hf hg hk w
  · exact b24_l8 f g k hf hg hk w
  · exact b24_l9 f g k hf hg hk w
  · exact b24_l10 f g k hf hg hk w
  · exact b24_l11 f g k hf hg hk w
  · exact b24_l12 f g k hf hg hk w
  · exact b24_l13 f g k hf hg hk w
  · exact b24_l14 f g k hf hg hk w
  · exact b24_l15 f g k hf hg hk w
  · exact b24_l16 f g k hf hg hk w
  · exact b24_l17 f g k hf hg hk w
  · exact b24_l18 f g k hf hg hk w
  · exact b24_l19 f g k hf hg hk w
  · exact b24_l20 f g k hf hg hk w
  · exact b24_l21 f g k hf hg hk w
  · exact b24_l22 f g k hf hg hk w
  · exact b24_l23 f g k hf hg hk w
  · exact b24_l24 f g k hf hg hk w
  · exact b24_l25 f g k hf hg hk w
  · exact b24_l26 f g k hf hg hk w
  · exact b24_l27 f g k hf hg hk w
  · exact b24_l28 f g k hf hg hk w
  · exact b24_l29 f g k hf hg hk w
  · exact b24_l30 f g k hf hg hk w
theorem rAll24 (w : World) : Calls Tryd.prog 9 #[] w fun r w' => ∃ v, r = .returned v ∧ OwnsAll w w' v := by
  refine (b24_all w (box b24_row)).mono ?_
  rintro r w' ⟨v, rfl, h⟩
  obtain ⟨g, cap, h1, h2, h3⟩ := own_nds h.1 (by rw [allL_len]; decide)
  rw [allL_len] at h1
  exact ⟨v, rfl, g, cap, h1, h2, h3, h.2.1⟩
theorem fit24 (p : Nm) (hp : p ∈ allL) : p.1.mask < 4294967296 ∧ p.1.mtch < 4294967296 := by
  have := List.all_eq_true.1 maskL p hp
  simp only [decide_eq_true_iff] at this
  exact this.2
def fdL (x : Nat) : Option Nm := fstL fun p => fitsL p.1 x
def ndO (o : Option Nm) : Nm := o.getD (rwZ, [])
theorem rFind24 (x : Nat) (hx : x < 4294967296) (rr : Rw) (nn : List UInt8) (ok : Bool) (h : ndO (fdL x) = (rr, nn)) (h2 : (fdL x).isSome = ok) (w : World) : Calls Tryd.prog 16 #[.int .u32 (x : Nat)] w fun r w' => r = .returned (.tuple #[.agg (ndC rr ⟨nn.toArray⟩), .bool ok]) ∧ Below w.heap.size w w' := by
  refine b24_find x w (box rAll24) (box fun p hp w => b24_fits p.1 x (fit24 p hp).1 (fit24 p hp).2 hx _ rfl w) rr nn ok (box ?_)
  unfold fdL at h h2
  cases q : fstL (fun p => fitsL p.1 x) with
  | some p => rw [q] at h h2; exact ⟨h, h2.symm⟩
  | none => rw [q] at h h2; cases h; exact ⟨rfl, rfl, h2.symm⟩
def nmR24 (q : Rw) : Option Nm := fstL fun p => decide (p.1 = q)
def byR24 (s : ByteArray) : Option Nm := fstL fun p => (⟨p.2.toArray⟩ : ByteArray).toList == s.toList
def erO (o : Option Nm) : Int := if o.isSome then 0 else 240
def ofR24 (o f g k : Int) : Option Nm := if o < 1 ∨ 31 < o then none else fstL (ofB o f g k)
def erF (o f g k : Int) : Int := if o < 1 ∨ 31 < o then 2 else erO (fstL (ofB o f g k))
theorem ndC_cells {w : World} {b : Nat} {r : Rw} {s : ByteArray} {T : TypeId} (h : w.heap[b]? = some (.cells (ndC r s) T)) : w.cell? ⟨b, 0, none⟩ = some (.int .u8 (r.op : Nat)) ∧ w.cell? ⟨b, 1, none⟩ = some (.int .u8 (r.form : Nat)) ∧ w.cell? ⟨b, 2, none⟩ = some (.int .u8 (r.frm : Nat)) ∧ w.cell? ⟨b, 3, none⟩ = some (.int .u8 (r.kind : Nat)) ∧ w.cell? ⟨b, 4, none⟩ = some (.int .u32 (r.mask : Nat)) ∧ w.cell? ⟨b, 5, none⟩ = some (.int .u32 (r.mtch : Nat)) ∧ w.cell? ⟨b, 6, none⟩ = some (.int .u8 (r.lay : Nat)) ∧ w.cell? ⟨b, 7, none⟩ = some (.string s) :=
  ⟨cells4 h 0 _ rfl, cells4 h 1 _ rfl, cells4 h 2 _ rfl, cells4 h 3 _ rfl, cells4 h 4 _ rfl, cells4 h 5 _ rfl, cells4 h 6 _ rfl, cells4 h 7 _ rfl⟩
theorem ndC_new (w : World) (b : Nat) (r : Rw) (s : ByteArray) (hb : b = w.heap.size) : (storeCells ⟨b, 0, none⟩ (ndC r s).toList 0).run Tryd.prog (w.alloc (.cells #[.int .u8 0, .int .u8 0, .int .u8 0, .int .u8 0, .int .u32 0, .int .u32 0, .int .u8 0, .string ⟨#[]⟩] 38)) = .ok () (w.alloc (.cells (ndC r s) 38)) := by
  subst hb
  exact run_storeCells_new (P := Tryd.prog) w 38 #[.int .u8 0, .int .u8 0, .int .u8 0, .int .u8 0, .int .u32 0, .int .u32 0, .int .u8 0, .string ⟨#[]⟩] (ndC r s) (by kernel_rfl) rfl (by simp [ndC]; exact ⟨rfl, rfl, rfl, rfl, rfl, rfl, rfl, rfl⟩)
set_option maxRecDepth 100000 in
set_option maxHeartbeats 8000000 in
theorem tb_lives {T : World → Prop} (FB : Box (∀ {w w' : World}, T w → Below w.heap.size w w' → T w')) (ro q : Rw) (hq : q.op = 22 ∧ q.form = 1 ∧ q.kind = 1) (F1 : Box (∀ w, T w → Calls Tryd.prog 15 #[.int .u32 3211475] w fun r w' => r = .returned (.tuple #[.agg (rwC ro), .bool true]) ∧ Below w.heap.size w w')) (F2 : Box (∀ w, T w → Calls Tryd.prog 15 #[.int .u32 3231955] w fun r w' => r = .returned (.tuple #[.agg (rwC rwZ), .bool false]) ∧ Below w.heap.size w w')) (N1 : Box (∀ w, T w → Calls Tryd.prog 12 #[.agg (rwC ro)] w fun r w' => r = .returned (.tuple #[.string ⟨#[102, 97, 100, 100, 46, 115]⟩, .int .i64 0]) ∧ Below w.heap.size w w')) (N2 : Box (∀ w, T w → Calls Tryd.prog 13 #[.string ⟨#[102, 99, 118, 116, 46, 100, 46, 119, 117]⟩] w fun r w' => r = .returned (.tuple #[.agg (rwC q), .int .i64 0]) ∧ Below w.heap.size w w')) (L1 : Box (∀ w, T w → Calls Tryd.prog 11 #[] w fun r w' => r = .returned (.int .i64 136) ∧ Below w.heap.size w w')) (w : World) (hT : T w) : Calls Tryd.prog 14 #[] w fun r w' => r = .returned (.bool true) ∧ Below w.heap.size w w' := by
  have FF := box hT
  clear hT
  obtain ⟨q1, q2, q3⟩ := hq
  have p1 : (((q.op : Nat) : Int) == 22) = true := by rw [q1]; rfl
  have p2 : (((q.form : Nat) : Int) == 1) = true := by rw [q2]; rfl
  have p3 : (((q.kind : Nat) : Int) == 1) = true := by rw [q3]; rfl
  clear q1 q2 q3
  have hrf := rwC_fold
  have hrn := rwC_new
  have B0 : Below w.heap.size w w := (Below.refl _ _)
  go_enter Tryd.func14, Tryd.ntmps14
  go_wp2_with fail
  refine (F1.out _ (FB.out FF.out B0)).mono ?_
  rintro r w1 ⟨rfl, b1⟩
  have B1 : Below w.heap.size w w1 := btr B0 b1
  clear b1 B0 
  have S2 := box B1.size
  have Rr_2 := heap_alloc_last w1 (Obj.cells (rwC ro) 36)
  have B2 := btr B1 (bal w1 (Obj.cells (rwC ro) 36))
  clear B1 
  obtain ⟨cr_2_0, cr_2_1, cr_2_2, cr_2_3, cr_2_4, cr_2_5, cr_2_6⟩ := rwC_cells Rr_2
  go_wp2_with fail
  refine (F2.out _ (FB.out FF.out B2)).mono ?_
  rintro r w3 ⟨rfl, b3⟩
  have B3 : Below w.heap.size w w3 := btr B2 b3
  have Rr_3 := heap_of b3 _ _ _ Rr_2
  clear b3 B2 Rr_2 cr_2_0 cr_2_1 cr_2_2 cr_2_3 cr_2_4 cr_2_5 cr_2_6
  obtain ⟨cr_3_0, cr_3_1, cr_3_2, cr_3_3, cr_3_4, cr_3_5, cr_3_6⟩ := rwC_cells Rr_3
  have S4 := box B3.size
  have Lr_4 : Box (w1.heap.size < w3.heap.size) := box (Array.getElem?_eq_some_iff.1 Rr_3).1
  have Rb_4 := heap_alloc_last w3 (Obj.cells (rwC rwZ) 36)
  have B4 := btr B3 (bal w3 (Obj.cells (rwC rwZ) 36))
  have Rr_4 := heap_of (bal w3 (Obj.cells (rwC rwZ) 36)) _ _ _ Rr_3
  clear B3 Rr_3 cr_3_0 cr_3_1 cr_3_2 cr_3_3 cr_3_4 cr_3_5 cr_3_6
  obtain ⟨cr_4_0, cr_4_1, cr_4_2, cr_4_3, cr_4_4, cr_4_5, cr_4_6⟩ := rwC_cells Rr_4
  obtain ⟨cb_4_0, cb_4_1, cb_4_2, cb_4_3, cb_4_4, cb_4_5, cb_4_6⟩ := rwC_cells Rb_4
  clear Rb_4 cb_4_0 cb_4_1 cb_4_2 cb_4_3 cb_4_4 cb_4_5 cb_4_6
  go_wp2_with fail
  refine (N1.out _ (FB.out FF.out B4)).mono ?_
  rintro r w5 ⟨rfl, b5⟩
  have B5 : Below w.heap.size w w5 := btr B4 b5
  have Rr_5 := heap_of b5 _ _ _ Rr_4
  clear b5 B4 Rr_4 cr_4_0 cr_4_1 cr_4_2 cr_4_3 cr_4_4 cr_4_5 cr_4_6
  obtain ⟨cr_5_0, cr_5_1, cr_5_2, cr_5_3, cr_5_4, cr_5_5, cr_5_6⟩ := rwC_cells Rr_5
  go_wp2_with fail
  refine (N2.out _ (FB.out FF.out B5)).mono ?_
  rintro r w6 ⟨rfl, b6⟩
  have B6 : Below w.heap.size w w6 := btr B5 b6
  have Rr_6 := heap_of b6 _ _ _ Rr_5
  clear b6 B5 Rr_5 cr_5_0 cr_5_1 cr_5_2 cr_5_3 cr_5_4 cr_5_5 cr_5_6
  obtain ⟨cr_6_0, cr_6_1, cr_6_2, cr_6_3, cr_6_4, cr_6_5, cr_6_6⟩ := rwC_cells Rr_6
  have S7 := box B6.size
  have Lr_7 : Box (w1.heap.size < w6.heap.size) := box (Array.getElem?_eq_some_iff.1 Rr_6).1
  have Rq_7 := heap_alloc_last w6 (Obj.cells (rwC q) 36)
  have B7 := btr B6 (bal w6 (Obj.cells (rwC q) 36))
  have Rr_7 := heap_of (bal w6 (Obj.cells (rwC q) 36)) _ _ _ Rr_6
  clear B6 Rr_6 cr_6_0 cr_6_1 cr_6_2 cr_6_3 cr_6_4 cr_6_5 cr_6_6
  obtain ⟨cr_7_0, cr_7_1, cr_7_2, cr_7_3, cr_7_4, cr_7_5, cr_7_6⟩ := rwC_cells Rr_7
  obtain ⟨cq_7_0, cq_7_1, cq_7_2, cq_7_3, cq_7_4, cq_7_5, cq_7_6⟩ := rwC_cells Rq_7
  go_wp2_with fail
  refine (L1.out _ (FB.out FF.out B7)).mono ?_
  rintro r w8 ⟨rfl, b8⟩
  have B8 : Below w.heap.size w w8 := btr B7 b8
  have Rr_8 := heap_of b8 _ _ _ Rr_7
  have Rq_8 := heap_of b8 _ _ _ Rq_7
  clear b8 B7 Rr_7 cr_7_0 cr_7_1 cr_7_2 cr_7_3 cr_7_4 cr_7_5 cr_7_6 Rq_7 cq_7_0 cq_7_1 cq_7_2 cq_7_3 cq_7_4 cq_7_5 cq_7_6
  obtain ⟨cr_8_0, cr_8_1, cr_8_2, cr_8_3, cr_8_4, cr_8_5, cr_8_6⟩ := rwC_cells Rr_8
  obtain ⟨cq_8_0, cq_8_1, cq_8_2, cq_8_3, cq_8_4, cq_8_5, cq_8_6⟩ := rwC_cells Rq_8
  go_wp2
  go_ret
  exact ⟨rfl, B8⟩
set_option maxRecDepth 100000 in
set_option maxHeartbeats 8000000 in
theorem tb_finds {T : World → Prop} (FB : Box (∀ {w w' : World}, T w → Below w.heap.size w w' → T w')) (x : Nat) (ro t : Rw) (s : ByteArray) (ok : Bool) (ht : ro = t) (F1 : Box (∀ w, T w → Calls Tryd.prog 15 #[.int .u32 (x : Nat)] w fun r w' => r = .returned (.tuple #[.agg (rwC ro), .bool ok]) ∧ Below w.heap.size w w')) (R1 : Box (∀ w, Calls Tryd.prog 16 #[.int .u32 (x : Nat)] w fun r w' => r = .returned (.tuple #[.agg (ndC t s), .bool ok]) ∧ Below w.heap.size w w')) (KL : Box (∀ w, T w → Calls Tryd.prog 14 #[] w fun r w' => r = .returned (.bool true) ∧ Below w.heap.size w w')) (w : World) (hT : T w) : Calls Tryd.prog 4 #[.int .u32 (x : Nat)] w fun r w' => r = .returned (.bool true) ∧ Below w.heap.size w w' := by
  have FF := box hT
  clear hT
  subst ht
  have heq := eqr
  have hee : rwE ro ro = true := by rw [rwE_is]; exact decide_eq_true rfl
  have hrf := rwC_fold
  have hrn := rwC_new
  have hnn := ndC_new
  have B0 : Below w.heap.size w w := (Below.refl _ _)
  go_enter Tryd.func4, Tryd.ntmps4
  go_wp2_with fail
  refine (F1.out _ (FB.out FF.out B0)).mono ?_
  rintro r w1 ⟨rfl, b1⟩
  have B1 : Below w.heap.size w w1 := btr B0 b1
  clear b1 B0 
  have S2 := box B1.size
  have Rr_2 := heap_alloc_last w1 (Obj.cells (rwC ro) 36)
  have B2 := btr B1 (bal w1 (Obj.cells (rwC ro) 36))
  clear B1 
  obtain ⟨cr_2_0, cr_2_1, cr_2_2, cr_2_3, cr_2_4, cr_2_5, cr_2_6⟩ := rwC_cells Rr_2
  go_wp2_with fail
  refine (R1.out _).mono ?_
  rintro r w3 ⟨rfl, b3⟩
  have B3 : Below w.heap.size w w3 := btr B2 b3
  have Rr_3 := heap_of b3 _ _ _ Rr_2
  clear b3 B2 Rr_2 cr_2_0 cr_2_1 cr_2_2 cr_2_3 cr_2_4 cr_2_5 cr_2_6
  obtain ⟨cr_3_0, cr_3_1, cr_3_2, cr_3_3, cr_3_4, cr_3_5, cr_3_6⟩ := rwC_cells Rr_3
  have S4 := box B3.size
  have Lr_4 : Box (w1.heap.size < w3.heap.size) := box (Array.getElem?_eq_some_iff.1 Rr_3).1
  have Rt_4 := heap_alloc_last w3 (Obj.cells (ndC ro s) 38)
  have B4 := btr B3 (bal w3 (Obj.cells (ndC ro s) 38))
  have Rr_4 := heap_of (bal w3 (Obj.cells (ndC ro s) 38)) _ _ _ Rr_3
  clear B3 Rr_3 cr_3_0 cr_3_1 cr_3_2 cr_3_3 cr_3_4 cr_3_5 cr_3_6
  obtain ⟨cr_4_0, cr_4_1, cr_4_2, cr_4_3, cr_4_4, cr_4_5, cr_4_6⟩ := rwC_cells Rr_4
  obtain ⟨ct_4_0, ct_4_1, ct_4_2, ct_4_3, ct_4_4, ct_4_5, ct_4_6, ct_4_7⟩ := ndC_cells Rt_4
  go_wp2_with fail
  refine (KL.out _ (FB.out FF.out B4)).mono ?_
  rintro r w5 ⟨rfl, b5⟩
  have B5 : Below w.heap.size w w5 := btr B4 b5
  have Rr_5 := heap_of b5 _ _ _ Rr_4
  have Rt_5 := heap_of b5 _ _ _ Rt_4
  clear b5 B4 Rr_4 cr_4_0 cr_4_1 cr_4_2 cr_4_3 cr_4_4 cr_4_5 cr_4_6 Rt_4 ct_4_0 ct_4_1 ct_4_2 ct_4_3 ct_4_4 ct_4_5 ct_4_6 ct_4_7
  obtain ⟨cr_5_0, cr_5_1, cr_5_2, cr_5_3, cr_5_4, cr_5_5, cr_5_6⟩ := rwC_cells Rr_5
  obtain ⟨ct_5_0, ct_5_1, ct_5_2, ct_5_3, ct_5_4, ct_5_5, ct_5_6, ct_5_7⟩ := ndC_cells Rt_5
  go_wp2
  go_ret
  exact ⟨rfl, B5⟩
theorem pair24 {j k : Nat} {p q : Nm} (hp : allL[j]? = some p) (hq : allL[k]? = some q) (h : j < k) : (p.1.mask &&& q.1.mask) &&& (p.1.mtch ^^^ q.1.mtch) ≠ 0 := by
  have a := List.all_eq_true.1 pairsL (p, j) (List.mem_zipIdx_iff_getElem?.2 hp)
  have b := List.all_eq_true.1 a (q, k) (List.mem_zipIdx_iff_getElem?.2 hq)
  simp only [Bool.or_eq_true, decide_eq_true_eq] at b
  rcases b with b | b
  · omega
  · exact b
theorem fits_mask {r : Rw} {x : Nat} (h : fitsL r x = true) : x &&& r.mask = r.mtch &&& r.mask := by
  unfold fitsL at h
  simp only [Bool.and_eq_true, decide_eq_true_eq] at h
  exact h.1.1
theorem lt24 {x j k : Nat} {p q : Nm} (hp : allL[j]? = some p) (hq : allL[k]? = some q) (h1 : fitsL p.1 x = true) (h2 : fitsL q.1 x = true) : ¬ j < k := by
  intro h
  apply pair24 hp hq h
  have e1 := fits_mask h1
  have e2 := fits_mask h2
  apply Nat.eq_of_testBit_eq
  intro i
  have t1 := congrArg (Nat.testBit · i) e1
  have t2 := congrArg (Nat.testBit · i) e2
  simp only [Nat.testBit_and, Nat.testBit_xor, Nat.zero_testBit] at t1 t2 ⊢
  revert t1 t2
  cases x.testBit i <;> cases p.1.mask.testBit i <;> cases q.1.mask.testBit i <;> cases p.1.mtch.testBit i <;> cases q.1.mtch.testBit i <;> decide
theorem one24 {x j k : Nat} {p q : Nm} (hp : allL[j]? = some p) (hq : allL[k]? = some q) (h1 : fitsL p.1 x = true) (h2 : fitsL q.1 x = true) : j = k := by
  have a := lt24 hp hq h1 h2
  have b := lt24 hq hp h2 h1
  omega
theorem fd_some {x j : Nat} {p : Nm} (hp : allL[j]? = some p) (h : fitsL p.1 x = true) : fdL x = some p :=
  fst_yes (fun i q hi hq => by
    cases c : fitsL q.1 x
    · rfl
    · exact absurd (one24 hq hp c h) (by omega)) hp h
def RwsAt (w : World) (g a : Nat) (l : List Nm) : Prop := ∃ cur, w.heap[g]? = some (.cells cur 36) ∧ ∀ k p, a ≤ k → l[k]? = some p → ∀ j u, j < 7 → (rwC p.1)[j]? = some u → cur[k * 7 + j]? = some u
theorem RwsAt.below {w w' : World} {g a : Nat} {l : List Nm} (h : RwsAt w g a l) (hb : Below w.heap.size w w') : RwsAt w' g a l := by
  obtain ⟨cur, h1, h2⟩ := h
  exact ⟨cur, heap_of hb _ _ _ h1, h2⟩
theorem RwsAt.cells {w : World} {g a : Nat} {l : List Nm} (h : RwsAt w g a l) {k : Nat} {r : Rw} {s : List UInt8} (ha : a ≤ k) (hp : l[k]? = some (r, s)) :
    w.cell? ⟨g, k * 7, none⟩ = some (.int .u8 (r.op : Nat)) ∧ w.cell? ⟨g, k * 7 + 1, none⟩ = some (.int .u8 (r.form : Nat)) ∧ w.cell? ⟨g, k * 7 + 2, none⟩ = some (.int .u8 (r.frm : Nat)) ∧ w.cell? ⟨g, k * 7 + 3, none⟩ = some (.int .u8 (r.kind : Nat)) ∧ w.cell? ⟨g, k * 7 + 4, none⟩ = some (.int .u32 (r.mask : Nat)) ∧ w.cell? ⟨g, k * 7 + 5, none⟩ = some (.int .u32 (r.mtch : Nat)) ∧ w.cell? ⟨g, k * 7 + 6, none⟩ = some (.int .u8 (r.lay : Nat)) := by
  obtain ⟨cur, h1, h2⟩ := h
  have e := fun j (hj : j < 7) u (hu : (rwC r)[j]? = some u) => cell7 h1 (k * 7 + j) u (h2 k (r, s) ha hp j u hj hu)
  exact ⟨e 0 (by decide) _ rfl, e 1 (by decide) _ rfl, e 2 (by decide) _ rfl, e 3 (by decide) _ rfl, e 4 (by decide) _ rfl, e 5 (by decide) _ rfl, e 6 (by decide) _ rfl⟩
def OwnsRws (w w' : World) (v : Value) : Prop := ∃ g cap, v = .slice (some ⟨g, 0, none⟩) 136 cap ∧ w.heap.size ≤ g ∧ RwsAt w' g 0 allL ∧ Below w.heap.size w w'
def FoundTo (x k n : Nat) (o : Rw) : Prop := (n = 0 ∧ o = rwZ ∧ ∀ j p, j < k → allL[j]? = some p → fitsL p.1 x = false) ∨ (n = 1 ∧ ∃ j p, j < k ∧ allL[j]? = some p ∧ fitsL p.1 x = true ∧ o = p.1)
theorem FoundTo.no {x k n : Nat} {o : Rw} (h : FoundTo x k n o) {p : Nm} (hp : allL[k]? = some p) (hf : fitsL p.1 x = false) : FoundTo x (k + 1) n o := by
  rcases h with ⟨a, b, c⟩ | ⟨a, j, q, c, d, e, f⟩
  · refine Or.inl ⟨a, b, fun j q hj hq => ?_⟩
    by_cases z : j < k
    · exact c j q z hq
    · obtain rfl : j = k := by omega
      rw [hp] at hq
      cases hq
      exact hf
  · exact Or.inr ⟨a, j, q, by omega, d, e, f⟩
theorem FoundTo.fin {x n : Nat} {o : Rw} (h : FoundTo x 136 n o) : n ≤ 1 ∧ (fdL x).isSome = decide (n = 1) ∧ (ndO (fdL x)).1 = o := by
  rcases h with ⟨rfl, rfl, c⟩ | ⟨rfl, j, q, c, d, e, rfl⟩
  · have z : fdL x = none := fst_no c
    rw [z]
    exact ⟨by omega, rfl, rfl⟩
  · rw [fd_some d e]
    exact ⟨by omega, rfl, rfl⟩
end Go.Proofs.YtfdhglllmhggkaaDoor
namespace Go.Proofs.YtfdhglllmhggkaaDoor
set_option maxRecDepth 100000
set_option maxHeartbeats 40000000
set_option maxRecDepth 100000
open Go.RowKit WMath
set_option linter.unusedSimpArgs false
set_option linter.unusedVariables false
open Go.Maps
theorem nameL : (allL.zipIdx.all fun p => allL.zipIdx.all fun q => decide (q.2 ≤ p.2) || decide (p.1.2 ≠ q.1.2)) = true := by decide +kernel
theorem name24 {j k : Nat} {p q : Nm} (hp : allL[j]? = some p) (hq : allL[k]? = some q) (h : j < k) : p.2 ≠ q.2 := by
  have a := List.all_eq_true.1 nameL (p, j) (List.mem_zipIdx_iff_getElem?.2 hp)
  have b := List.all_eq_true.1 a (q, k) (List.mem_zipIdx_iff_getElem?.2 hq)
  simp only [Bool.or_eq_true, decide_eq_true_eq] at b
  rcases b with b | b
  · omega
  · exact b
def NmsAt (w : World) (b k : Nat) : Prop := ∃ (n : Nat) (D : DataW Unit), n ≤ k ∧ w.ownsMap Tryd.prog 9 (plainElem Tryd.prog 4) b n D ∧ ∀ j p, k ≤ j → allL[j]? = some p → D.atKey (.string p.2) (.lit (.bool false)) = .lit (.bool false)
theorem bool_inv {P : Program} {e : TypeId} (he : P.underlying e = some .bool) {v : Value} {z : DataW Unit × List MemPlace} (h : plainElem P e v = some z) : ∃ x, v = .bool x ∧ z = (.lit (.bool x), []) := by
  unfold plainElem at h
  rw [he] at h
  cases v <;> simp at h
  exact ⟨_, rfl, h.symm⟩
theorem NmsAt.below {w w' : World} {b k : Nat} (h : NmsAt w b k) (hb : Below w.heap.size w w') : NmsAt w' b k := by
  obtain ⟨n, D, hn, ho, hd⟩ := h
  have lt := ho.lt
  obtain ⟨es, clock, h1, h2, h3, h4⟩ := ho
  exact ⟨n, D, hn, ⟨es, clock, (hb.block b lt).trans h1, h2, h3, h4⟩, hd⟩
theorem NmsAt.same {w w' : World} {b k : Nat} (h : NmsAt w b k) (hb : w'.heap[b]? = w.heap[b]?) : NmsAt w' b k := by
  obtain ⟨n, D, hn, ⟨es, clock, h1, h2, h3, h4⟩, hd⟩ := h
  exact ⟨n, D, hn, ⟨es, clock, hb.trans h1, h2, h3, h4⟩, hd⟩
theorem key24 (s : List UInt8) (hs : s.length ≤ 100) : keyOf Tryd.prog 9 (.string ⟨s.toArray⟩) = some (.string s) := by
  have e : (⟨s.toArray⟩ : ByteArray).size ≤ maxLen := by
    show s.toArray.size ≤ maxLen
    rw [List.size_toArray]
    unfold maxLen
    omega
  exact Go.WideMaps.keyOf_string_mk Tryd.underlying9 e
theorem NmsAt.no {w : World} {b k : Nat} (h : NmsAt w b k) {p : Nm} (hp : allL[k]? = some p) (hs : p.2.length ≤ 100) : (Instr.lookup 58 (.map (some b)) (.string ⟨p.2.toArray⟩) false).run Tryd.prog w = .ok (.bool false) w := by
  obtain ⟨n, D, hn, ho, hd⟩ := h
  obtain ⟨v, ps, h1, h2⟩ := ho.lookup (string_keyed Tryd.underlying9) Tryd.underlying58 (show (zeroValue 4).run Tryd.prog w = .ok (.bool false) w by kernel_rfl) (plainElem_bool Tryd.underlying4 false) (key24 p.2 hs)
  obtain ⟨x, rfl, h3⟩ := bool_inv Tryd.underlying4 h2
  rw [hd k p (Nat.le_refl _) hp] at h3
  cases h3
  exact h1
theorem NmsAt.put {w : World} {b k : Nat} (h : NmsAt w b k) (hk : k < 136) {p : Nm} (hp : allL[k]? = some p) (hs : p.2.length ≤ 100) : ∃ w', (Instr.mapUpdate 58 (.map (some b)) (.string ⟨p.2.toArray⟩) (.bool true)).run Tryd.prog w = .ok () w' ∧ NmsAt w' b (k + 1) ∧ w.grownBy w' (some b) := by
  obtain ⟨n, D, hn, ho, hd⟩ := h
  obtain ⟨w', h1, h2, h3⟩ := ho.update (string_keyed Tryd.underlying9) Tryd.underlying58 (show n < maxLen by unfold maxLen; omega) (key24 p.2 hs) (plainElem_bool Tryd.underlying4 true)
  refine ⟨w', h1, ⟨n + 1, _, by omega, h2, fun j q hj hq => ?_⟩, h3⟩
  rw [atKey_put_other (fun e => name24 hp hq (by omega) (by injection e with e; exact e.symm))]
  exact hd j q (by omega) hq
end Go.Proofs.YtfdhglllmhggkaaDoor
namespace Go.Proofs.YtfdhglllmhggkaaDoor
set_option maxRecDepth 100000
set_option maxHeartbeats 40000000
set_option maxRecDepth 100000
open Go.RowKit WMath
set_option linter.unusedSimpArgs false
set_option linter.unusedVariables false
def RwOk (q : Rw) : Prop := q.op < 256 ∧ q.form < 256 ∧ q.frm < 256 ∧ q.kind < 256 ∧ q.mask < 4294967296 ∧ q.mtch < 4294967296 ∧ q.lay < 256
theorem okL : (allL.all fun p => decide (p.1.op < 256 ∧ p.1.form < 256 ∧ p.1.frm < 256 ∧ p.1.kind < 256 ∧ p.1.mask < 4294967296 ∧ p.1.mtch < 4294967296 ∧ p.1.lay < 256)) = true := by decide +kernel
theorem ok24 {p : Nm} (hp : p ∈ allL) : RwOk p.1 := by
  unfold RwOk
  exact of_decide_eq_true (List.all_eq_true.1 okL p hp)
theorem lv1 : (fdL 3211475).isSome = true ∧ (fdL 3231955).isSome = false ∧ (ndO (fdL 3231955)).1 = rwZ ∧ (ndO (nmR24 (ndO (fdL 3211475)).1)).2 = [102, 97, 100, 100, 46, 115] ∧ erO (nmR24 (ndO (fdL 3211475)).1) = 0 := by decide +kernel
theorem lv2 : erO (byR24 ⟨#[102, 99, 118, 116, 46, 100, 46, 119, 117]⟩) = 0 ∧ (ndO (byR24 ⟨#[102, 99, 118, 116, 46, 100, 46, 119, 117]⟩)).1.op = 22 ∧ (ndO (byR24 ⟨#[102, 99, 118, 116, 46, 100, 46, 119, 117]⟩)).1.form = 1 ∧ (ndO (byR24 ⟨#[102, 99, 118, 116, 46, 100, 46, 119, 117]⟩)).1.kind = 1 := by decide +kernel
theorem lv3 : RwOk (ndO (fdL 3211475)).1 := by unfold RwOk; decide +kernel
theorem lives24 {T : World → Prop} (FB : Box (∀ {w w' : World}, T w → Below w.heap.size w w' → T w')) (CF : ∀ x : Nat, x < 4294967296 → Box (∀ w, T w → Calls Tryd.prog 15 #[.int .u32 (x : Nat)] w fun r w' => r = .returned (.tuple #[.agg (rwC (ndO (fdL x)).1), .bool (fdL x).isSome]) ∧ Below w.heap.size w w')) (CN : ∀ q : Rw, RwOk q → Box (∀ w, T w → Calls Tryd.prog 12 #[.agg (rwC q)] w fun r w' => r = .returned (.tuple #[.string ⟨(ndO (nmR24 q)).2.toArray⟩, .int .i64 (erO (nmR24 q))]) ∧ Below w.heap.size w w')) (CD : ∀ s : ByteArray, s.size ≤ maxLen → Box (∀ w, T w → Calls Tryd.prog 13 #[.string s] w fun r w' => r = .returned (.tuple #[.agg (rwC (ndO (byR24 s)).1), .int .i64 (erO (byR24 s))]) ∧ Below w.heap.size w w')) (CL : Box (∀ w, T w → Calls Tryd.prog 11 #[] w fun r w' => r = .returned (.int .i64 136) ∧ Below w.heap.size w w')) (w : World) (hT : T w) : Calls Tryd.prog 14 #[] w fun r w' => r = .returned (.bool true) ∧ Below w.heap.size w w' := by
  obtain ⟨a1, a2, a3, a4, a5⟩ := lv1
  obtain ⟨b1, b2, b3, b4⟩ := lv2
  have F1 := CF 3211475 (by decide)
  have F2 := CF 3231955 (by decide)
  have N1 := CN _ lv3
  have N2 := CD ⟨#[102, 99, 118, 116, 46, 100, 46, 119, 117]⟩ (by decide)
  rw [a1] at F1
  rw [a2, a3] at F2
  rw [a4, a5] at N1
  rw [b1] at N2
  exact tb_lives FB _ _ ⟨b2, b3, b4⟩ F1 F2 N1 N2 CL w hT
theorem finds24 {T : World → Prop} (FB : Box (∀ {w w' : World}, T w → Below w.heap.size w w' → T w')) (CF : ∀ x : Nat, x < 4294967296 → Box (∀ w, T w → Calls Tryd.prog 15 #[.int .u32 (x : Nat)] w fun r w' => r = .returned (.tuple #[.agg (rwC (ndO (fdL x)).1), .bool (fdL x).isSome]) ∧ Below w.heap.size w w')) (KL : Box (∀ w, T w → Calls Tryd.prog 14 #[] w fun r w' => r = .returned (.bool true) ∧ Below w.heap.size w w')) (x : Nat) (hx : x < 4294967296) (w : World) (hT : T w) : Calls Tryd.prog 4 #[.int .u32 (x : Nat)] w fun r w' => r = .returned (.bool true) ∧ Below w.heap.size w w' :=
  tb_finds FB x _ _ _ _ rfl (CF x hx) (box (fun w => rFind24 x hx _ _ _ rfl rfl w)) KL w hT
theorem backN : (allL.all fun p => decide ((ndO (byR24 ⟨p.2.toArray⟩)).1 = p.1 ∧ erO (byR24 ⟨p.2.toArray⟩) = 0 ∧ p.2.length ≤ 100)) = true := by decide +kernel
theorem by24 {p : Nm} (hp : p ∈ allL) : (ndO (byR24 ⟨p.2.toArray⟩)).1 = p.1 ∧ erO (byR24 ⟨p.2.toArray⟩) = 0 ∧ p.2.length ≤ 100 := of_decide_eq_true (List.all_eq_true.1 backN p hp)
end Go.Proofs.YtfdhglllmhggkaaDoor
namespace Go.Proofs.YtfdhglllmhggkaaDoor
set_option maxRecDepth 100000
set_option maxHeartbeats 40000000
set_option maxRecDepth 100000
open Go.RowKit Go.Shelf WMath
set_option linter.unusedVariables false
set_option linter.unusedSimpArgs false
attribute [local go_sem] Oper.semAt_some

theorem row_grq {W W' : World} {row : Option Nat} {B g : Nat} {o : Obj} (h : W.heap[g]? = some o) (hg : W.grownBy W' row) (hr : ∀ r, row = some r → B ≤ r) (hb : g < B) : W'.heap[g]? = some o := by
  rw [hg.block g (Array.getElem?_eq_some_iff.1 h).1 (fun e => by have := hr g e.symm; omega)]
  exact h
end Go.Proofs.YtfdhglllmhggkaaDoor
namespace Go.Proofs.YtfdhglllmhggkaaDoor
set_option maxRecDepth 100000
set_option maxHeartbeats 40000000
set_option maxRecDepth 100000
open Go.RowKit WMath
set_option linter.unusedVariables false
structure TopK (B : Nat) (W W' : World) : Prop where
  size : W.heap.size ≤ W'.heap.size
  same : ∀ k, B ≤ k → k < W.heap.size → W'.heap[k]? = W.heap[k]?
theorem TopK.refl (B : Nat) (W : World) : TopK B W W := ⟨Nat.le_refl _, fun _ _ _ => rfl⟩
theorem TopK.trans {B : Nat} {X Y Z : World} (h : TopK B X Y) (k : TopK B Y Z) : TopK B X Z :=
  ⟨Nat.le_trans h.size k.size, fun i a b => (k.same i a (Nat.lt_of_lt_of_le b h.size)).trans (h.same i a b)⟩
theorem TopK.mono {B C : Nat} {X Y : World} (h : TopK B X Y) (c : B ≤ C) : TopK C X Y := ⟨h.size, fun i a b => h.same i (Nat.le_trans c a) b⟩
theorem TopK.grown {B : Nat} {W W' : World} {row : Option Nat} (hg : W.grownBy W' row) (hr : ∀ r, row = some r → r < B) : TopK B W W' :=
  ⟨hg.size, fun k a b => hg.block k b (fun e => by have := hr k e.symm; omega)⟩
theorem TopK.setCell {B : Nat} (W : World) (b i : Nat) (v : Value) (h : b < B) : TopK B W (W.setCell ⟨b, i, none⟩ v) := by
  refine ⟨?_, fun k a c => setCell_other (by omega)⟩
  exact ((Below.refl 0 W).setCell (p := ⟨b, i, none⟩) (Nat.zero_le _) v).size
theorem TopK.alloc {B : Nat} (W : World) (o : Obj) : TopK B W (W.alloc o) :=
  ⟨((Below.refl 0 W).alloc (Nat.zero_le _) o).size, fun k a b => Below.heap_alloc W o k b⟩
theorem TopK.putObj {B : Nat} (W : World) (l : Nat) (o : Obj) (h : l < B) : TopK B W (W.putObj l o) := .grown (grownBy_putObj' W l o) (fun r e => by cases e; exact h)
theorem TopK.below {B : Nat} {W W' : World} (h : Below W.heap.size W W') : TopK B W W' := ⟨h.size, fun k a b => h.block k b⟩
theorem TopK.row {B : Nat} {W W' : World} (h : TopK B W W') {k : Nat} {o : Obj} (a : B ≤ k) (hk : W.heap[k]? = some o) : W'.heap[k]? = some o := (h.same k a (Array.getElem?_eq_some_iff.1 hk).1).trans hk
end Go.Proofs.YtfdhglllmhggkaaDoor
namespace Go.Proofs.YtfdhglllmhggkaaDoor
set_option maxRecDepth 100000
set_option maxHeartbeats 40000000
set_option maxRecDepth 100000
open Go.RowKit Go.Shelf WMath
set_option linter.unusedVariables false
set_option linter.unusedSimpArgs false
attribute [local go_sem] Oper.semAt_some

def rwsC (l : List Rw) : List Value := l.flatMap fun r => (rwC r).toList
theorem rwsC_app (l m : List Rw) : rwsC (l ++ m) = rwsC l ++ rwsC m := by simp [rwsC]
theorem rwsC_at (m : List Rw) (k j : Nat) (p : Rw) (h : m[k]? = some p) (hj : j < 7) : (rwsC m)[k * 7 + j]? = (rwC p).toList[j]? := flat_at (fun r => (rwC r).toList) 7 (fun _ => rfl) m k j p h hj
theorem own_setq {w : World} {base : Nat} {e : TypeId} {size n : Nat} {v : Value} {xs : List Value} {g : Nat} {u : Value} (h : w.ownsRow base e size v n xs) (hg : g < base) : (w.setCell ⟨g, 0, none⟩ u).ownsRow base e size v n xs := by
  refine ⟨h.1, ?_⟩
  rcases h.2 with q | ⟨b, cap, cur, h1, h2, h3, h4⟩
  · exact Or.inl q
  · exact Or.inr ⟨b, cap, cur, h1, h2, by rw [setCell_other (by omega)]; exact h3, h4⟩
theorem rw_oneq (r : Rw) : ∀ u ∈ (rwC r).toList, u.oneCell' = true := fun x hx => by
  simp [rwC] at hx
  rcases hx with rfl | rfl | rfl | rfl | rfl | rfl | rfl <;> rfl
end Go.Proofs.YtfdhglllmhggkaaDoor
namespace Go.Proofs.YtfdhglllmhggkaaDoor
set_option maxRecDepth 100000
set_option maxHeartbeats 40000000
set_option maxRecDepth 100000
set_option linter.unusedVariables false
structure Pl where
  nm : List UInt8
  opc : Nat
  rs3 : Nat
  rm : Nat
  lay : Nat
deriving DecidableEq
def plL : List Pl := [
  ⟨[], 0, 0, 0, 0⟩,
  ⟨[102, 108, 77], 7, 0, 0, 1⟩,
  ⟨[102, 115, 77], 39, 0, 0, 2⟩,
  ⟨[102, 109, 97, 100, 100, 46, 70], 67, 0, 0, 3⟩,
  ⟨[102, 109, 115, 117, 98, 46, 70], 71, 0, 0, 3⟩,
  ⟨[102, 110, 109, 115, 117, 98, 46, 70], 75, 0, 0, 3⟩,
  ⟨[102, 110, 109, 97, 100, 100, 46, 70], 79, 0, 0, 3⟩,
  ⟨[102, 97, 100, 100, 46, 70], 83, 0, 0, 4⟩,
  ⟨[102, 115, 117, 98, 46, 70], 83, 1, 0, 4⟩,
  ⟨[102, 109, 117, 108, 46, 70], 83, 2, 0, 4⟩,
  ⟨[102, 100, 105, 118, 46, 70], 83, 3, 0, 4⟩,
  ⟨[102, 115, 113, 114, 116, 46, 70], 83, 11, 0, 6⟩,
  ⟨[102, 115, 103, 110, 106, 46, 70], 83, 4, 0, 5⟩,
  ⟨[102, 115, 103, 110, 106, 110, 46, 70], 83, 4, 1, 5⟩,
  ⟨[102, 115, 103, 110, 106, 120, 46, 70], 83, 4, 2, 5⟩,
  ⟨[102, 109, 105, 110, 46, 70], 83, 5, 0, 5⟩,
  ⟨[102, 109, 97, 120, 46, 70], 83, 5, 1, 5⟩,
  ⟨[102, 99, 118, 116, 46, 70, 46, 71], 83, 8, 0, 6⟩,
  ⟨[102, 101, 113, 46, 70], 83, 20, 2, 5⟩,
  ⟨[102, 108, 116, 46, 70], 83, 20, 1, 5⟩,
  ⟨[102, 108, 101, 46, 70], 83, 20, 0, 5⟩,
  ⟨[102, 99, 118, 116, 46, 75, 46, 70], 83, 24, 0, 6⟩,
  ⟨[102, 99, 118, 116, 46, 70, 46, 75], 83, 26, 0, 6⟩,
  ⟨[102, 109, 118, 46, 120, 46, 77], 83, 28, 0, 7⟩,
  ⟨[102, 99, 108, 97, 115, 115, 46, 70], 83, 28, 1, 7⟩,
  ⟨[102, 109, 118, 46, 77, 46, 120], 83, 30, 0, 7⟩,
  ⟨[99, 115, 114, 114, 119], 115, 0, 1, 8⟩,
  ⟨[99, 115, 114, 114, 115], 115, 0, 2, 8⟩,
  ⟨[99, 115, 114, 114, 99], 115, 0, 3, 8⟩,
  ⟨[99, 115, 114, 114, 119, 105], 115, 0, 5, 9⟩,
  ⟨[99, 115, 114, 114, 115, 105], 115, 0, 6, 9⟩,
  ⟨[99, 115, 114, 114, 99, 105], 115, 0, 7, 9⟩]
def plZ : Pl := ⟨[], 0, 0, 0, 0⟩
def plN (o : Nat) : Pl := plL[o]?.getD plZ
def fxL : List Nat := [0, 28799, 28799, 100663423, 4261412991, 4261441663, 4293918847, 4293947519, 28799, 28799]
def fxN (l : Nat) : Nat := fxL[l]?.getD 0
def wdL : List Nat := [2, 3, 1, 4]
def wdN (f : Nat) : Nat := wdL[f]?.getD 0
structure Fd where
  opc : Nat
  rm : Nat
  rs2 : Nat
  form : Nat
  rs3 : Nat
deriving DecidableEq
def cutF (w : Nat) : Fd := ⟨w % 128, w / 4096 % 8, w / 1048576 % 32, w / 33554432 % 4, w / 134217728 % 32⟩
def wordF (f : Fd) : Nat := (((f.opc ||| f.rm * 4096) ||| f.rs2 * 1048576) ||| f.form * 33554432) ||| f.rs3 * 134217728
def cnQ (o : Nat) : Nat × Nat × Nat :=
  if (plN o).lay = 0 then (0, 0, 0) else if (plN o).lay = 8 ∨ (plN o).lay = 9 then (1, 1, 1) else if o = 23 ∨ o = 25 then (3, 1, 1) else if o = 17 then (4, 4, 1) else if o = 21 ∨ o = 22 then (4, 1, 4) else (4, 1, 1)
def rmP (o f : Nat) : Nat := if (plN o).lay = 1 ∨ (plN o).lay = 2 then wdN f else (plN o).rm
def fdP (o f g k : Nat) : Fd := ⟨(plN o).opc, rmP o f, g ||| k, f, (plN o).rs3⟩
def rwP24 (o f g k : Nat) : Rw := ⟨o, f, g, k, fxN (plN o).lay, wordF (fdP o f g k) &&& fxN (plN o).lay, (plN o).lay⟩
def inP24 (o f g k : Nat) : List Rw := if o = 17 ∧ g = f then [] else [rwP24 o f g k]
def kP24 (o f g k : Nat) : List Rw := (List.range k).flatMap (inP24 o f g)
def gP24 (o f g : Nat) : List Rw := (List.range g).flatMap fun g => kP24 o f g (cnQ o).2.2
def fP24 (o f : Nat) : List Rw := (List.range f).flatMap fun f => gP24 o f (cnQ o).2.1
def rwsO (o : Nat) : List Rw := fP24 o (cnQ o).1
theorem rwsO_all : (List.range 32).flatMap rwsO = allL.map (·.1) := by decide +kernel
theorem rwsO_out {o : Nat} (h : 32 ≤ o) : rwsO o = [] := by
  have e : plN o = plZ := by unfold plN; rw [List.getElem?_eq_none (by show 32 ≤ o; exact h)]; rfl
  simp [rwsO, cnQ, e, plZ, fP24]
theorem fP24_next (o f : Nat) : fP24 o (f + 1) = fP24 o f ++ gP24 o f (cnQ o).2.1 := by simp [fP24, List.range_succ]
theorem gP_next (o f g : Nat) : gP24 o f (g + 1) = gP24 o f g ++ kP24 o f g (cnQ o).2.2 := by simp [gP24, List.range_succ]
theorem kP_next (o f g k : Nat) : kP24 o f g (k + 1) = kP24 o f g k ++ inP24 o f g k := by simp [kP24, List.range_succ]
theorem rws_op : ((List.range 32).all fun o => (rwsO o).all fun r => decide (r.op = o ∧ r.form < 4 ∧ r.frm < 4 ∧ r.kind < 4)) = true := by decide +kernel
theorem cnQ_le : ((List.range 32).all fun o => decide ((cnQ o).1 ≤ 4 ∧ (cnQ o).2.1 ≤ 4 ∧ (cnQ o).2.2 ≤ 4)) = true := by decide +kernel
end Go.Proofs.YtfdhglllmhggkaaDoor
