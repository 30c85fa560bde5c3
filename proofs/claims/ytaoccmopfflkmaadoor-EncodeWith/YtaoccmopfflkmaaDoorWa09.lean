/-
  What the functions that the statement reaches return: part 9 (BH, BM, BN, BO, BP, BQ, BS, JP, JM, DA).
-/
import Derived.Maps.Own
import Derived.Maps.Views
import Derived.StringKeys
import Derived.RangeFuncNested
import Derived.RangeFuncBound
import Derived.RangeFuncCalls
import Derived.RangeFuncLeaves
import Derived.RangeFuncFrom
import Derived.Shelf.Abstract
import Derived.Shelf.RegionOpen
import Derived.WalkKit
import Derived.OwnWalkIn
import Derived.TacticsInMore
import Derived.LoopNIn
import Derived.LoopIn
import Derived.LoopN
import Derived.Sort.QuietIn
import Derived.Deep.RegionHeld3
import Derived.ChangeMaps5
import Derived.OpenShut
import Derived.Carry
import Derived.Deep.RegionLaw
import Derived.Deep.AppendLies
import Derived.Test.YtaoccmopfflkmaaDoorWa08
namespace Go.Proofs.YtaoccmopfflkmaaDoor
set_option maxRecDepth 100000
set_option maxHeartbeats 40000000
set_option maxRecDepth 100000
open Go.RowKit WMath
set_option linter.unusedSimpArgs false
set_option linter.unusedVariables false
def mdL (l : Nat) : Bool := decide (l = 3 ∨ l = 4 ∨ l = 6)
theorem b24_moded (l : Nat) (o : Bool) (ho : mdL l = o) (w : World) : Calls Tryd.prog 43 #[.int .u8 (l : Nat)] w fun r w' => r = .returned (.bool o) ∧ Below w.heap.size w w' := by
  subst ho
  unfold mdL
  by_cases a : l = 3
  · subst a
    have B0 : Below w.heap.size w w := (Below.refl _ _)
    go_enter Tryd.func43, Tryd.ntmps43
    go_wp2
    go_ret
    exact ⟨rfl, B0⟩
  · have a1 : ((l : Int) == 3) = false := by rw [beq_eq_false_iff_ne]; omega
    by_cases b : l = 4
    · subst b
      have B0 : Below w.heap.size w w := (Below.refl _ _)
      go_enter Tryd.func43, Tryd.ntmps43
      go_wp2
      go_ret
      exact ⟨rfl, B0⟩
    · have b1 : ((l : Int) == 4) = false := by rw [beq_eq_false_iff_ne]; omega
      by_cases c : l = 6
      · subst c
        have B0 : Below w.heap.size w w := (Below.refl _ _)
        go_enter Tryd.func43, Tryd.ntmps43
        go_wp2
        go_ret
        exact ⟨rfl, B0⟩
      · have c1 : ((l : Int) == 6) = false := by rw [beq_eq_false_iff_ne]; omega
        rw [decide_eq_false (by omega)]
        have B0 : Below w.heap.size w w := (Below.refl _ _)
        go_enter Tryd.func43, Tryd.ntmps43
        go_wp2
        go_ret
        exact ⟨rfl, B0⟩
theorem and_bits (m w t : Nat) (hm : m < 4294967296) : (∀ k, k < 32 → m.testBit k = true → w.testBit k = t.testBit k) ↔ w &&& m = t &&& m := by
  constructor
  · intro h
    refine Nat.eq_of_testBit_eq fun k => ?_
    rw [Nat.testBit_and, Nat.testBit_and]
    cases q : m.testBit k
    · rw [Bool.and_false, Bool.and_false]
    · by_cases c : k < 32
      · rw [h k c q]
      · have : m.testBit k = false := Nat.testBit_lt_two_pow (Nat.lt_of_lt_of_le hm (by rw [show (4294967296 : Nat) = 2 ^ 32 from rfl]; exact Nat.pow_le_pow_right (by decide) (by omega)))
        rw [this] at q
        exact Bool.noConfusion q
  · intro h k _ q
    have := congrArg (fun x => x.testBit k) h
    simp only [Nat.testBit_and, q, Bool.and_true] at this
    exact this
theorem and32 (a b : Nat) (ha : a < 4294967296) (hb : b < 4294967296) : bits .and .u32 (a : Int) (b : Int) = ((a &&& b : Nat) : Int) := by
  have hx : a &&& b ≤ a := Nat.and_le_left
  have h1 : (BitVec.ofInt 32 (a : Int)).toNat = a := by
    rw [BitVec.ofInt_natCast, BitVec.toNat_ofNat]; exact Nat.mod_eq_of_lt (by omega)
  have h2 : (BitVec.ofInt 32 (b : Int)).toNat = b := by
    rw [BitVec.ofInt_natCast, BitVec.toNat_ofNat]; exact Nat.mod_eq_of_lt (by omega)
  show IntKind.u32.wrap ((BitVec.ofInt 32 (a : Int) &&& BitVec.ofInt 32 (b : Int)).toNat : Int) = _
  rw [BitVec.toNat_and, h1, h2, show ∀ y : Int, IntKind.u32.wrap y = y % 4294967296 from fun _ => rfl]
  omega
theorem tb_mod (x k : Nat) : x / 2 ^ k % 2 = (x.testBit k).toNat := by
  rw [Nat.testBit_eq_decide_div_mod_eq]
  have := Nat.mod_two_eq_zero_or_one (x / 2 ^ k)
  rcases this with q | q <;> rw [q] <;> rfl
theorem bit32 (x k : Nat) (hx : x < 4294967296) : bits .and .u32 ((x : Int) / 2 ^ k) 1 = ((x / 2 ^ k % 2 : Nat) : Int) := by
  have h1 : x / 2 ^ k < 4294967296 := Nat.lt_of_le_of_lt (Nat.div_le_self _ _) hx
  have := and32 (x / 2 ^ k) 1 h1 (by omega)
  rw [Nat.and_one_is_mod] at this
  rw [← this]
  congr 1
def rmB (x : Nat) : Bool := decide (x / 4096 % 8 = 5 ∨ x / 4096 % 8 = 6)
def crB (x : Nat) : Bool := decide (1 ≤ x / 1048576 ∧ x / 1048576 ≤ 3)
theorem fits_parts (r : Rw) (x : Nat) (h : x &&& r.mask = r.mtch &&& r.mask) : fitsL r x = (!(mdL r.lay && rmB x) && (!decide (r.lay = 8 ∨ r.lay = 9) || crB x)) := by
  unfold fitsL mdL rmB crB
  rw [decide_eq_true h, Bool.true_and]
set_option maxRecDepth 100000 in
set_option maxHeartbeats 8000000 in
theorem b24_fits (r : Rw) (x : Nat) (hm : r.mask < 4294967296) (ht : r.mtch < 4294967296) (hx : x < 4294967296) (o : Bool) (ho : fitsL r x = o) (w : World) : Calls Tryd.prog 30 #[.agg (rwC r), .int .u32 (x : Nat)] w fun r w' => r = .returned (.bool o) ∧ Below w.heap.size w w' := by
  have HM := box hm
  have HT := box ht
  have HX := box hx
  have HO := box ho
  clear hm ht hx ho
  obtain ⟨Rr_0, B0⟩ := opn1 w (Obj.cells (rwC r) 45)
  go_enter Tryd.func30, Tryd.ntmps30
  obtain ⟨cr_0_0, cr_0_1, cr_0_2, cr_0_3, cr_0_4, cr_0_5, cr_0_6⟩ := rwC_cells Rr_0
  go_wp2
  go_loopw [5] (fun kv wr => ∃ k : Nat, k ≤ 32 ∧ kv = .int .i64 (k : Int) ∧ Below w.heap.size w wr ∧ wr.heap[w.heap.size]? = some (.cells (rwC r) 45) ∧ Box (∀ j, j < k → r.mask.testBit j = true → x.testBit j = r.mtch.testBit j)) (fun kv _ => 32 - (intOf kv).toNat)
  case atStart => exact ⟨0, Nat.zero_le _, rfl, B0, Rr_0, box (fun j hj => absurd hj (by omega))⟩
  case round =>
    clear B0 Rr_0 cr_0_0 cr_0_1 cr_0_2 cr_0_3 cr_0_4 cr_0_5 cr_0_6
    obtain ⟨k, hk, rfl, hB, hR, HA⟩ := hrel
    obtain ⟨d0, d1, d2, d3, d4, d5, d6⟩ := rwC_cells hR
    by_cases hlt : k < 32
    · have dl : decide ((k : Int) < 32) = true := decide_eq_true (by omega)
      have dk : decide ((k : Int) < 0) = false := decide_eq_false (by omega)
      have hw1 : IntKind.i64.wrap ((k : Int) + 1) = ((k + 1 : Nat) : Int) := by rw [IntKind.wrap_i64]; omega
      obtain ⟨a, ha⟩ : ∃ a, r.mask.testBit k = a := ⟨_, rfl⟩
      obtain ⟨b, hb⟩ : ∃ a, x.testBit k = a := ⟨_, rfl⟩
      obtain ⟨c, hc⟩ : ∃ a, r.mtch.testBit k = a := ⟨_, rfl⟩
      have h1 := bit32 r.mask k HM.out
      have h2 := bit32 x k HX.out
      have h3 := bit32 r.mtch k HT.out
      rw [tb_mod, ha] at h1
      rw [tb_mod, hb] at h2
      rw [tb_mod, hc] at h3
      have HK := box (show a = true → b = c → ∀ j, j < k + 1 → r.mask.testBit j = true → x.testBit j = r.mtch.testBit j from fun e1 e2 j hj q => by
        by_cases z : j < k
        · exact HA.out j z q
        · have : j = k := by omega
          subst this
          rw [hb, hc, e2])
      have HF := box (show a = true → b ≠ c → fitsL r x = false from fun e1 e2 => by
        unfold fitsL
        rw [decide_eq_false (fun z => e2 (by rw [← hb, ← hc]; exact (and_bits _ _ _ HM.out).2 z k hlt (ha.trans e1))), Bool.false_and, Bool.false_and])
      have HN := box (show a = false → ∀ j, j < k + 1 → r.mask.testBit j = true → x.testBit j = r.mtch.testBit j from fun e1 j hj q => by
        by_cases z : j < k
        · exact HA.out j z q
        · have : j = k := by omega
          subst this
          rw [ha, e1] at q
          exact Bool.noConfusion q)
      clear ha hb hc
      cases a
      · have HNX := box (HN.out rfl)
        cases b <;> cases c
        all_goals
          simp only [Bool.toNat_true, Bool.toNat_false] at h1 h2 h3
          go_wp2_with fail
          go_quiet (fail)
          obtain ⟨w1, hw, B1, hh⟩ := quiet_world hB nq
          rw [hw]
          have R1 : w1.heap[w.heap.size]? = some (.cells (rwC r) 45) := by rw [hh]; exact hR
          clear hw hh hB hR d0 d1 d2 d3 d4 d5 d6
          go_wp2
          go_roundw
          case rel => exact ⟨k + 1, by omega, by first | rfl | simp, B1, R1, HNX⟩
          case measure => simp [intOf]; omega
      · by_cases q : b = c
        · have HNX := box (HK.out rfl q)
          subst q
          cases b
          all_goals
            simp only [Bool.toNat_true, Bool.toNat_false] at h1 h2 h3
            go_wp2_with fail
            go_quiet (fail)
            obtain ⟨w1, hw, B1, hh⟩ := quiet_world hB nq
            rw [hw]
            have R1 : w1.heap[w.heap.size]? = some (.cells (rwC r) 45) := by rw [hh]; exact hR
            clear hw hh hB hR d0 d1 d2 d3 d4 d5 d6
            go_wp2
            go_roundw
            case rel => exact ⟨k + 1, by omega, by first | rfl | simp, B1, R1, HNX⟩
            case measure => simp [intOf]; omega
        · have HFX := HF.out rfl q
          cases b <;> cases c
          · exact absurd rfl q
          · simp only [Bool.toNat_true, Bool.toNat_false] at h1 h2 h3
            go_wp2_with fail
            go_quiet (fail)
            obtain ⟨w1, hw, B1, hh⟩ := quiet_world hB nq
            rw [hw]
            have R1 : w1.heap[w.heap.size]? = some (.cells (rwC r) 45) := by rw [hh]; exact hR
            clear hw hh hB hR d0 d1 d2 d3 d4 d5 d6
            go_wp2
            go_ret
            have eo : o = false := by rw [← HO.out]; exact HFX
            subst eo
            exact ⟨rfl, B1⟩
          · simp only [Bool.toNat_true, Bool.toNat_false] at h1 h2 h3
            go_wp2_with fail
            go_quiet (fail)
            obtain ⟨w1, hw, B1, hh⟩ := quiet_world hB nq
            rw [hw]
            have R1 : w1.heap[w.heap.size]? = some (.cells (rwC r) 45) := by rw [hh]; exact hR
            clear hw hh hB hR d0 d1 d2 d3 d4 d5 d6
            go_wp2
            go_ret
            have eo : o = false := by rw [← HO.out]; exact HFX
            subst eo
            exact ⟨rfl, B1⟩
          · exact absurd rfl q
    · have k32 : k = 32 := by omega
      subst k32
      have dl : decide ((32 : Int) < 32) = false := rfl
      have HE := box ((HO.out).symm.trans (fits_parts r x ((and_bits r.mask x r.mtch HM.out).1 HA.out)))
      clear hlt hk HA
      obtain ⟨m, hm⟩ : ∃ m, mdL r.lay = m := ⟨_, rfl⟩
      have KM := box (fun w => b24_moded r.lay m hm w)
      obtain ⟨rm, hrm⟩ : ∃ n, x / 4096 % 8 = n := ⟨_, rfl⟩
      obtain ⟨cs, hcs⟩ : ∃ n, x / 1048576 = n := ⟨_, rfl⟩
      have hd : (x : Int) / 4096 % 8 = (rm : Int) := by omega
      have hc2 : (x : Int) / 1048576 = (cs : Int) := by omega
      obtain ⟨b5, h5⟩ : ∃ b, ((rm : Int) == 5) = b := ⟨_, rfl⟩
      obtain ⟨b6, h6⟩ : ∃ b, ((rm : Int) == 6) = b := ⟨_, rfl⟩
      obtain ⟨b8, h8⟩ : ∃ b, ((r.lay : Int) == 8) = b := ⟨_, rfl⟩
      obtain ⟨b9, h9⟩ : ∃ b, ((r.lay : Int) == 9) = b := ⟨_, rfl⟩
      obtain ⟨u1, g1⟩ : ∃ b, decide ((1 : Int) ≤ (cs : Int)) = b := ⟨_, rfl⟩
      obtain ⟨u3, g3⟩ : ∃ b, decide ((cs : Int) ≤ 3) = b := ⟨_, rfl⟩
      have e1 : rmB x = (b5 || b6) := by
        unfold rmB
        rw [hrm, ← h5, ← h6, Bool.decide_or]
        congr 1 <;> rw [Bool.eq_iff_iff, decide_eq_true_iff, beq_iff_eq] <;> omega
      have e2 : decide (r.lay = 8 ∨ r.lay = 9) = (b8 || b9) := by
        rw [← h8, ← h9, Bool.decide_or]
        congr 1 <;> rw [Bool.eq_iff_iff, decide_eq_true_iff, beq_iff_eq] <;> omega
      have e3 : crB x = (u1 && u3) := by
        unfold crB
        rw [hcs, ← g1, ← g3, Bool.decide_and]
        congr 1 <;> exact decide_eq_decide.2 (by omega)
      have NB : Box (¬ (b8 = true ∧ b9 = true)) := box (by rw [← h8, ← h9, beq_iff_eq, beq_iff_eq]; omega)
      have H8 := box h8
      have H9 := box h9
      have G1 := box g1
      have G3 := box g3
      have HE2 : o = (!(m && (b5 || b6)) && (!(b8 || b9) || (u1 && u3))) := by rw [HE.out, hm, e1, e2, e3]
      have HE := box HE2
      clear HE2 e1 e2 e3 hm hrm hcs
      go_wp2_with fail
      refine (KM.out _).mono ?_
      rintro r9 w1 ⟨rfl, b1⟩
      have B1 := btr hB b1
      have R1 := heap_of b1 _ _ _ hR
      clear hB hR d0 d1 d2 d3 d4 d5 d6 b1
      obtain ⟨d0, d1, d2, d3, d4, d5, d6⟩ := rwC_cells R1
      cases m
      case false =>
        cases b8 <;> cases b9 <;> cases u1 <;> cases u3
        all_goals first | exact absurd ⟨rfl, rfl⟩ NB.out | skip
        all_goals
          have eo := HE.out
          simp only [Bool.false_and, Bool.and_false, Bool.true_and, Bool.and_true, Bool.or_false, Bool.or_true, Bool.false_or, Bool.true_or, Bool.not_true, Bool.not_false] at eo
          clear HE
          subst eo
          go_wp2
          all_goals
            go_ret
            first | exact ⟨rfl, B1⟩ | (exfalso; have q1 := G1.out; have q3 := G3.out; have q8 := H8.out; have q9 := H9.out; simp only [beq_iff_eq, beq_eq_false_iff_ne, decide_eq_true_iff, decide_eq_false_iff_not] at q1 q3 q8 q9; omega)
      case true =>
        cases b5
        case true =>
          have eo := HE.out
          simp only [Bool.true_or, Bool.true_and, Bool.not_true, Bool.false_and] at eo
          clear HE
          subst eo
          go_wp2
          go_ret
          exact ⟨rfl, B1⟩
        case false =>
          cases b6
          case true =>
            have eo := HE.out
            simp only [Bool.or_true, Bool.true_and, Bool.not_true, Bool.false_and] at eo
            clear HE
            subst eo
            go_wp2
            go_ret
            exact ⟨rfl, B1⟩
          case false =>
            cases b8 <;> cases b9 <;> cases u1 <;> cases u3
            all_goals first | exact absurd ⟨rfl, rfl⟩ NB.out | skip
            all_goals
              have eo := HE.out
              simp only [Bool.false_and, Bool.and_false, Bool.true_and, Bool.and_true, Bool.or_false, Bool.or_true, Bool.false_or, Bool.true_or, Bool.not_true, Bool.not_false] at eo
              clear HE
              subst eo
              go_wp2
              all_goals
                go_ret
                first | exact ⟨rfl, B1⟩ | (exfalso; have q1 := G1.out; have q3 := G3.out; have q8 := H8.out; have q9 := H9.out; simp only [beq_iff_eq, beq_eq_false_iff_ne, decide_eq_true_iff, decide_eq_false_iff_not] at q1 q3 q8 q9; omega)
theorem b24_row (l : Ln) (f g k : Nat) (hl : l ∈ linesL) (hf : f < 4) (hg : g < 4) (hk : k < 4) (w : World) : Calls Tryd.prog 32 #[.agg (lnC l), .int .u8 (f : Nat), .int .u8 (g : Nat), .int .u8 (k : Nat)] w fun r w' => r = .returned (.agg (ndC (rwL l f g k) ⟨(nmL l f g k).toArray⟩)) ∧ Below w.heap.size w w' := by
  simp only [linesL, List.mem_cons, List.not_mem_nil, or_false] at hl
  rcases hl with rfl | rfl | rfl | rfl | rfl | rfl | rfl | rfl | rfl | rfl | rfl | rfl | rfl | rfl | rfl | rfl | rfl | rfl | rfl | rfl | rfl | rfl | rfl | rfl | rfl | rfl | rfl | rfl | rfl | rfl | rfl
  · exact b24_l0 f g k hf hg hk w
  · exact b24_l1 f g k hf hg hk w
  · exact b24_l2 f g k hf hg hk w
  · exact b24_l3 f g k hf hg hk w
  · exact b24_l4 f g k hf hg hk w
  · exact b24_l5 f g k hf hg hk w
  · exact b24_l6 f g k hf hg hk w
  · exact b24_l7 f g k hf hg hk w
  · exact b24_l8 f g k hf hg hk w
  · exact b24_l9 f g k hf hg hk w
  · exact b24_l10 f g k hf hg hk w
  · exact b24_l11 f g k hf hg hk w
  · exact b24_l12 f g k hf hg hk w
  · exact b24_l13 f g k hf hg hk w
  · exact b24_l14 f g k hf hg hk w
  · exact b24_l15 f g k hf hg hk w
  · exact b24_l16 f g k hf hg hk w
  · exact b24_l17 f g k hf hg hk w
  · exact b24_l18 f g k hf hg hk w
  · exact b24_l19 f g k hf hg hk w
  · exact b24_l20 f g k hf hg hk w
  · exact b24_l21 f g k hf hg hk w
  · exact b24_l22 f g k hf hg hk w
  · exact b24_l23 f g k hf hg hk w
  · exact b24_l24 f g k hf hg hk w
  · exact b24_l25 f g k hf hg hk w
  · exact b24_l26 f g k hf hg hk w
  · exact b24_l27 f g k hf hg hk w
  · exact b24_l28 f g k hf hg hk w
  · exact b24_l29 f g k hf hg hk w
  · exact b24_l30 f g k hf hg hk w
theorem rAll24 (w : World) : Calls Tryd.prog 18 #[] w fun r w' => ∃ v, r = .returned v ∧ OwnsAll w w' v := by
  refine (b24_all w (box b24_row)).mono ?_
  rintro r w' ⟨v, rfl, h⟩
  obtain ⟨g, cap, h1, h2, h3⟩ := own_nds h.1 (by rw [allL_len]; decide)
  rw [allL_len] at h1
  exact ⟨v, rfl, g, cap, h1, h2, h3, h.2.1⟩
theorem fit24 (p : Nm) (hp : p ∈ allL) : p.1.mask < 4294967296 ∧ p.1.mtch < 4294967296 := by
  have := List.all_eq_true.1 maskL p hp
  simp only [decide_eq_true_iff] at this
  exact this.2
def fdL (x : Nat) : Option Nm := fstL fun p => fitsL p.1 x
def ndO (o : Option Nm) : Nm := o.getD (rwZ, [])
theorem rFind24 (x : Nat) (hx : x < 4294967296) (rr : Rw) (nn : List UInt8) (ok : Bool) (h : ndO (fdL x) = (rr, nn)) (h2 : (fdL x).isSome = ok) (w : World) : Calls Tryd.prog 17 #[.int .u32 (x : Nat)] w fun r w' => r = .returned (.tuple #[.agg (ndC rr ⟨nn.toArray⟩), .bool ok]) ∧ Below w.heap.size w w' := by
  refine b24_find x w (box rAll24) (box fun p hp w => b24_fits p.1 x (fit24 p hp).1 (fit24 p hp).2 hx _ rfl w) rr nn ok (box ?_)
  unfold fdL at h h2
  cases q : fstL (fun p => fitsL p.1 x) with
  | some p => rw [q] at h h2; exact ⟨h, h2.symm⟩
  | none => rw [q] at h h2; cases h; exact ⟨rfl, rfl, h2.symm⟩
def erO (o : Option Nm) : Int := if o.isSome then 0 else 240
def ofR24 (o f g k : Int) : Option Nm := if o < 1 ∨ 31 < o then none else fstL (ofB o f g k)
def erF (o f g k : Int) : Int := if o < 1 ∨ 31 < o then 2 else erO (fstL (ofB o f g k))
theorem rOf24 (o f g k : Int) (rr : Rw) (nn : List UInt8) (e : Int) (h : ndO (ofR24 o f g k) = (rr, nn)) (h2 : erF o f g k = e) (w : World) : Calls Tryd.prog 26 #[.int .u8 o, .int .u8 f, .int .u8 g, .int .u8 k] w fun r w' => r = .returned (.tuple #[.agg (ndC rr ⟨nn.toArray⟩), .int .i64 e]) ∧ Below w.heap.size w w' := by
  unfold ofR24 at h
  unfold erF at h2
  by_cases c : o < 1 ∨ 31 < o
  · rw [if_pos c] at h h2
    cases h
    subst h2
    exact b24_of_no o f g k c w
  · rw [if_neg c] at h h2
    refine b24_of o f g k (decide_eq_false (by omega)) (decide_eq_false (by omega)) w (box rAll24) rr nn e (box ?_)
    cases z : fstL (ofB o f g k) with
    | some p => rw [z] at h h2; exact ⟨h, h2.symm⟩
    | none => rw [z] at h h2; cases h; exact ⟨rfl, rfl, h2.symm⟩
theorem ndC_cells {w : World} {b : Nat} {r : Rw} {s : ByteArray} {T : TypeId} (h : w.heap[b]? = some (.cells (ndC r s) T)) : w.cell? ⟨b, 0, none⟩ = some (.int .u8 (r.op : Nat)) ∧ w.cell? ⟨b, 1, none⟩ = some (.int .u8 (r.form : Nat)) ∧ w.cell? ⟨b, 2, none⟩ = some (.int .u8 (r.frm : Nat)) ∧ w.cell? ⟨b, 3, none⟩ = some (.int .u8 (r.kind : Nat)) ∧ w.cell? ⟨b, 4, none⟩ = some (.int .u32 (r.mask : Nat)) ∧ w.cell? ⟨b, 5, none⟩ = some (.int .u32 (r.mtch : Nat)) ∧ w.cell? ⟨b, 6, none⟩ = some (.int .u8 (r.lay : Nat)) ∧ w.cell? ⟨b, 7, none⟩ = some (.string s) :=
  ⟨cells4 h 0 _ rfl, cells4 h 1 _ rfl, cells4 h 2 _ rfl, cells4 h 3 _ rfl, cells4 h 4 _ rfl, cells4 h 5 _ rfl, cells4 h 6 _ rfl, cells4 h 7 _ rfl⟩
theorem ndC_new (w : World) (b : Nat) (r : Rw) (s : ByteArray) (hb : b = w.heap.size) : (storeCells ⟨b, 0, none⟩ (ndC r s).toList 0).run Tryd.prog (w.alloc (.cells #[.int .u8 0, .int .u8 0, .int .u8 0, .int .u8 0, .int .u32 0, .int .u32 0, .int .u8 0, .string ⟨#[]⟩] 47)) = .ok () (w.alloc (.cells (ndC r s) 47)) := by
  subst hb
  exact run_storeCells_new (P := Tryd.prog) w 47 #[.int .u8 0, .int .u8 0, .int .u8 0, .int .u8 0, .int .u32 0, .int .u32 0, .int .u8 0, .string ⟨#[]⟩] (ndC r s) (by kernel_rfl) rfl (by simp [ndC]; exact ⟨rfl, rfl, rfl, rfl, rfl, rfl, rfl, rfl⟩)
theorem pair24 {j k : Nat} {p q : Nm} (hp : allL[j]? = some p) (hq : allL[k]? = some q) (h : j < k) : (p.1.mask &&& q.1.mask) &&& (p.1.mtch ^^^ q.1.mtch) ≠ 0 := by
  have a := List.all_eq_true.1 pairsL (p, j) (List.mem_zipIdx_iff_getElem?.2 hp)
  have b := List.all_eq_true.1 a (q, k) (List.mem_zipIdx_iff_getElem?.2 hq)
  simp only [Bool.or_eq_true, decide_eq_true_eq] at b
  rcases b with b | b
  · omega
  · exact b
theorem fits_mask {r : Rw} {x : Nat} (h : fitsL r x = true) : x &&& r.mask = r.mtch &&& r.mask := by
  unfold fitsL at h
  simp only [Bool.and_eq_true, decide_eq_true_eq] at h
  exact h.1.1
theorem lt24 {x j k : Nat} {p q : Nm} (hp : allL[j]? = some p) (hq : allL[k]? = some q) (h1 : fitsL p.1 x = true) (h2 : fitsL q.1 x = true) : ¬ j < k := by
  intro h
  apply pair24 hp hq h
  have e1 := fits_mask h1
  have e2 := fits_mask h2
  apply Nat.eq_of_testBit_eq
  intro i
  have t1 := congrArg (Nat.testBit · i) e1
  have t2 := congrArg (Nat.testBit · i) e2
  simp only [Nat.testBit_and, Nat.testBit_xor, Nat.zero_testBit] at t1 t2 ⊢
  revert t1 t2
  cases x.testBit i <;> cases p.1.mask.testBit i <;> cases q.1.mask.testBit i <;> cases p.1.mtch.testBit i <;> cases q.1.mtch.testBit i <;> decide
theorem one24 {x j k : Nat} {p q : Nm} (hp : allL[j]? = some p) (hq : allL[k]? = some q) (h1 : fitsL p.1 x = true) (h2 : fitsL q.1 x = true) : j = k := by
  have a := lt24 hp hq h1 h2
  have b := lt24 hq hp h2 h1
  omega
theorem fd_some {x j : Nat} {p : Nm} (hp : allL[j]? = some p) (h : fitsL p.1 x = true) : fdL x = some p :=
  fst_yes (fun i q hi hq => by
    cases c : fitsL q.1 x
    · rfl
    · exact absurd (one24 hq hp c h) (by omega)) hp h
def RwsAt (w : World) (g a : Nat) (l : List Nm) : Prop := ∃ cur, w.heap[g]? = some (.cells cur 45) ∧ ∀ k p, a ≤ k → l[k]? = some p → ∀ j u, j < 7 → (rwC p.1)[j]? = some u → cur[k * 7 + j]? = some u
theorem RwsAt.below {w w' : World} {g a : Nat} {l : List Nm} (h : RwsAt w g a l) (hb : Below w.heap.size w w') : RwsAt w' g a l := by
  obtain ⟨cur, h1, h2⟩ := h
  exact ⟨cur, heap_of hb _ _ _ h1, h2⟩
theorem RwsAt.cells {w : World} {g a : Nat} {l : List Nm} (h : RwsAt w g a l) {k : Nat} {r : Rw} {s : List UInt8} (ha : a ≤ k) (hp : l[k]? = some (r, s)) :
    w.cell? ⟨g, k * 7, none⟩ = some (.int .u8 (r.op : Nat)) ∧ w.cell? ⟨g, k * 7 + 1, none⟩ = some (.int .u8 (r.form : Nat)) ∧ w.cell? ⟨g, k * 7 + 2, none⟩ = some (.int .u8 (r.frm : Nat)) ∧ w.cell? ⟨g, k * 7 + 3, none⟩ = some (.int .u8 (r.kind : Nat)) ∧ w.cell? ⟨g, k * 7 + 4, none⟩ = some (.int .u32 (r.mask : Nat)) ∧ w.cell? ⟨g, k * 7 + 5, none⟩ = some (.int .u32 (r.mtch : Nat)) ∧ w.cell? ⟨g, k * 7 + 6, none⟩ = some (.int .u8 (r.lay : Nat)) := by
  obtain ⟨cur, h1, h2⟩ := h
  have e := fun j (hj : j < 7) u (hu : (rwC r)[j]? = some u) => cell7 h1 (k * 7 + j) u (h2 k (r, s) ha hp j u hj hu)
  exact ⟨e 0 (by decide) _ rfl, e 1 (by decide) _ rfl, e 2 (by decide) _ rfl, e 3 (by decide) _ rfl, e 4 (by decide) _ rfl, e 5 (by decide) _ rfl, e 6 (by decide) _ rfl⟩
def OwnsRws (w w' : World) (v : Value) : Prop := ∃ g cap, v = .slice (some ⟨g, 0, none⟩) 136 cap ∧ w.heap.size ≤ g ∧ RwsAt w' g 0 allL ∧ Below w.heap.size w w'
def FoundTo (x k n : Nat) (o : Rw) : Prop := (n = 0 ∧ o = rwZ ∧ ∀ j p, j < k → allL[j]? = some p → fitsL p.1 x = false) ∨ (n = 1 ∧ ∃ j p, j < k ∧ allL[j]? = some p ∧ fitsL p.1 x = true ∧ o = p.1)
theorem FoundTo.no {x k n : Nat} {o : Rw} (h : FoundTo x k n o) {p : Nm} (hp : allL[k]? = some p) (hf : fitsL p.1 x = false) : FoundTo x (k + 1) n o := by
  rcases h with ⟨a, b, c⟩ | ⟨a, j, q, c, d, e, f⟩
  · refine Or.inl ⟨a, b, fun j q hj hq => ?_⟩
    by_cases z : j < k
    · exact c j q z hq
    · obtain rfl : j = k := by omega
      rw [hp] at hq
      cases hq
      exact hf
  · exact Or.inr ⟨a, j, q, by omega, d, e, f⟩
theorem FoundTo.yes {x k n : Nat} {o : Rw} (h : FoundTo x k n o) {p : Nm} (hp : allL[k]? = some p) (hf : fitsL p.1 x = true) : n = 0 ∧ FoundTo x (k + 1) (n + 1) p.1 := by
  rcases h with ⟨a, b, c⟩ | ⟨a, j, q, c, d, e, f⟩
  · exact ⟨a, Or.inr ⟨by omega, k, p, by omega, hp, hf, rfl⟩⟩
  · exact absurd (one24 d hp e hf) (by omega)
theorem FoundTo.fin {x n : Nat} {o : Rw} (h : FoundTo x 136 n o) : n ≤ 1 ∧ (fdL x).isSome = decide (n = 1) ∧ (ndO (fdL x)).1 = o := by
  rcases h with ⟨rfl, rfl, c⟩ | ⟨rfl, j, q, c, d, e, rfl⟩
  · have z : fdL x = none := fst_no c
    rw [z]
    exact ⟨by omega, rfl, rfl⟩
  · rw [fd_some d e]
    exact ⟨by omega, rfl, rfl⟩
theorem RwsAt.set {w : World} {g a o : Nat} {l : List Nm} {v : Value} (h : RwsAt w g a l) (ho : o < a * 7) : RwsAt (w.setCell ⟨g, o, none⟩ v) g a l := by
  obtain ⟨cur, h1, h2⟩ := h
  refine ⟨_, setCell_row h1, fun k p hk hp j u hj hu => ?_⟩
  rw [Array.getElem?_setIfInBounds_ne (by omega)]
  exact h2 k p hk hp j u hj hu
end Go.Proofs.YtaoccmopfflkmaaDoor
namespace Go.Proofs.YtaoccmopfflkmaaDoor
set_option maxRecDepth 100000
set_option maxHeartbeats 40000000
set_option maxRecDepth 100000
open Go.RowKit WMath
set_option linter.unusedSimpArgs false
set_option linter.unusedVariables false
open Go.Maps
def NmsAt (w : World) (b k : Nat) : Prop := ∃ (n : Nat) (D : DataW Unit), n ≤ k ∧ w.ownsMap Tryd.prog 9 (plainElem Tryd.prog 4) b n D ∧ ∀ j p, k ≤ j → allL[j]? = some p → D.atKey (.string p.2) (.lit (.bool false)) = .lit (.bool false)
theorem NmsAt.below {w w' : World} {b k : Nat} (h : NmsAt w b k) (hb : Below w.heap.size w w') : NmsAt w' b k := by
  obtain ⟨n, D, hn, ho, hd⟩ := h
  have lt := ho.lt
  obtain ⟨es, clock, h1, h2, h3, h4⟩ := ho
  exact ⟨n, D, hn, ⟨es, clock, (hb.block b lt).trans h1, h2, h3, h4⟩, hd⟩
theorem NmsAt.same {w w' : World} {b k : Nat} (h : NmsAt w b k) (hb : w'.heap[b]? = w.heap[b]?) : NmsAt w' b k := by
  obtain ⟨n, D, hn, ⟨es, clock, h1, h2, h3, h4⟩, hd⟩ := h
  exact ⟨n, D, hn, ⟨es, clock, hb.trans h1, h2, h3, h4⟩, hd⟩
end Go.Proofs.YtaoccmopfflkmaaDoor
namespace Go.Proofs.YtaoccmopfflkmaaDoor
set_option maxRecDepth 100000
set_option maxHeartbeats 40000000
set_option maxRecDepth 100000
open Go.RowKit WMath
set_option linter.unusedSimpArgs false
set_option linter.unusedVariables false
def RwOk (q : Rw) : Prop := q.op < 256 ∧ q.form < 256 ∧ q.frm < 256 ∧ q.kind < 256 ∧ q.mask < 4294967296 ∧ q.mtch < 4294967296 ∧ q.lay < 256
theorem okL : (allL.all fun p => decide (p.1.op < 256 ∧ p.1.form < 256 ∧ p.1.frm < 256 ∧ p.1.kind < 256 ∧ p.1.mask < 4294967296 ∧ p.1.mtch < 4294967296 ∧ p.1.lay < 256)) = true := by decide +kernel
theorem ok24 {p : Nm} (hp : p ∈ allL) : RwOk p.1 := by
  unfold RwOk
  exact of_decide_eq_true (List.all_eq_true.1 okL p hp)
end Go.Proofs.YtaoccmopfflkmaaDoor
namespace Go.Proofs.YtaoccmopfflkmaaDoor
set_option maxRecDepth 100000
set_option maxHeartbeats 40000000
set_option maxRecDepth 100000
open Go.RowKit Go.Shelf WMath
set_option linter.unusedVariables false
set_option linter.unusedSimpArgs false
attribute [local go_sem] Oper.semAt_some

theorem row_grq {W W' : World} {row : Option Nat} {B g : Nat} {o : Obj} (h : W.heap[g]? = some o) (hg : W.grownBy W' row) (hr : ∀ r, row = some r → B ≤ r) (hb : g < B) : W'.heap[g]? = some o := by
  rw [hg.block g (Array.getElem?_eq_some_iff.1 h).1 (fun e => by have := hr g e.symm; omega)]
  exact h
end Go.Proofs.YtaoccmopfflkmaaDoor
namespace Go.Proofs.YtaoccmopfflkmaaDoor
set_option maxRecDepth 100000
set_option maxHeartbeats 40000000
set_option maxRecDepth 100000
open Go.RowKit WMath
set_option linter.unusedVariables false
structure TopK (B : Nat) (W W' : World) : Prop where
  size : W.heap.size ≤ W'.heap.size
  same : ∀ k, B ≤ k → k < W.heap.size → W'.heap[k]? = W.heap[k]?
theorem TopK.refl (B : Nat) (W : World) : TopK B W W := ⟨Nat.le_refl _, fun _ _ _ => rfl⟩
theorem TopK.trans {B : Nat} {X Y Z : World} (h : TopK B X Y) (k : TopK B Y Z) : TopK B X Z :=
  ⟨Nat.le_trans h.size k.size, fun i a b => (k.same i a (Nat.lt_of_lt_of_le b h.size)).trans (h.same i a b)⟩
theorem TopK.mono {B C : Nat} {X Y : World} (h : TopK B X Y) (c : B ≤ C) : TopK C X Y := ⟨h.size, fun i a b => h.same i (Nat.le_trans c a) b⟩
theorem TopK.grown {B : Nat} {W W' : World} {row : Option Nat} (hg : W.grownBy W' row) (hr : ∀ r, row = some r → r < B) : TopK B W W' :=
  ⟨hg.size, fun k a b => hg.block k b (fun e => by have := hr k e.symm; omega)⟩
theorem TopK.setCell {B : Nat} (W : World) (b i : Nat) (v : Value) (h : b < B) : TopK B W (W.setCell ⟨b, i, none⟩ v) := by
  refine ⟨?_, fun k a c => setCell_other (by omega)⟩
  exact ((Below.refl 0 W).setCell (p := ⟨b, i, none⟩) (Nat.zero_le _) v).size
theorem TopK.alloc {B : Nat} (W : World) (o : Obj) : TopK B W (W.alloc o) :=
  ⟨((Below.refl 0 W).alloc (Nat.zero_le _) o).size, fun k a b => Below.heap_alloc W o k b⟩
theorem TopK.putObj {B : Nat} (W : World) (l : Nat) (o : Obj) (h : l < B) : TopK B W (W.putObj l o) := .grown (grownBy_putObj' W l o) (fun r e => by cases e; exact h)
theorem TopK.below {B : Nat} {W W' : World} (h : Below W.heap.size W W') : TopK B W W' := ⟨h.size, fun k a b => h.block k b⟩
theorem TopK.row {B : Nat} {W W' : World} (h : TopK B W W') {k : Nat} {o : Obj} (a : B ≤ k) (hk : W.heap[k]? = some o) : W'.heap[k]? = some o := (h.same k a (Array.getElem?_eq_some_iff.1 hk).1).trans hk
end Go.Proofs.YtaoccmopfflkmaaDoor
namespace Go.Proofs.YtaoccmopfflkmaaDoor
set_option maxRecDepth 100000
set_option maxHeartbeats 40000000
set_option maxRecDepth 100000
set_option linter.unusedVariables false
structure Pl where
  nm : List UInt8
  opc : Nat
  rs3 : Nat
  rm : Nat
  lay : Nat
deriving DecidableEq
def plL : List Pl := [
  ⟨[], 0, 0, 0, 0⟩,
  ⟨[102, 108, 77], 7, 0, 0, 1⟩,
  ⟨[102, 115, 77], 39, 0, 0, 2⟩,
  ⟨[102, 109, 97, 100, 100, 46, 70], 67, 0, 0, 3⟩,
  ⟨[102, 109, 115, 117, 98, 46, 70], 71, 0, 0, 3⟩,
  ⟨[102, 110, 109, 115, 117, 98, 46, 70], 75, 0, 0, 3⟩,
  ⟨[102, 110, 109, 97, 100, 100, 46, 70], 79, 0, 0, 3⟩,
  ⟨[102, 97, 100, 100, 46, 70], 83, 0, 0, 4⟩,
  ⟨[102, 115, 117, 98, 46, 70], 83, 1, 0, 4⟩,
  ⟨[102, 109, 117, 108, 46, 70], 83, 2, 0, 4⟩,
  ⟨[102, 100, 105, 118, 46, 70], 83, 3, 0, 4⟩,
  ⟨[102, 115, 113, 114, 116, 46, 70], 83, 11, 0, 6⟩,
  ⟨[102, 115, 103, 110, 106, 46, 70], 83, 4, 0, 5⟩,
  ⟨[102, 115, 103, 110, 106, 110, 46, 70], 83, 4, 1, 5⟩,
  ⟨[102, 115, 103, 110, 106, 120, 46, 70], 83, 4, 2, 5⟩,
  ⟨[102, 109, 105, 110, 46, 70], 83, 5, 0, 5⟩,
  ⟨[102, 109, 97, 120, 46, 70], 83, 5, 1, 5⟩,
  ⟨[102, 99, 118, 116, 46, 70, 46, 71], 83, 8, 0, 6⟩,
  ⟨[102, 101, 113, 46, 70], 83, 20, 2, 5⟩,
  ⟨[102, 108, 116, 46, 70], 83, 20, 1, 5⟩,
  ⟨[102, 108, 101, 46, 70], 83, 20, 0, 5⟩,
  ⟨[102, 99, 118, 116, 46, 75, 46, 70], 83, 24, 0, 6⟩,
  ⟨[102, 99, 118, 116, 46, 70, 46, 75], 83, 26, 0, 6⟩,
  ⟨[102, 109, 118, 46, 120, 46, 77], 83, 28, 0, 7⟩,
  ⟨[102, 99, 108, 97, 115, 115, 46, 70], 83, 28, 1, 7⟩,
  ⟨[102, 109, 118, 46, 77, 46, 120], 83, 30, 0, 7⟩,
  ⟨[99, 115, 114, 114, 119], 115, 0, 1, 8⟩,
  ⟨[99, 115, 114, 114, 115], 115, 0, 2, 8⟩,
  ⟨[99, 115, 114, 114, 99], 115, 0, 3, 8⟩,
  ⟨[99, 115, 114, 114, 119, 105], 115, 0, 5, 9⟩,
  ⟨[99, 115, 114, 114, 115, 105], 115, 0, 6, 9⟩,
  ⟨[99, 115, 114, 114, 99, 105], 115, 0, 7, 9⟩]
def plZ : Pl := ⟨[], 0, 0, 0, 0⟩
def plN (o : Nat) : Pl := plL[o]?.getD plZ
def fxL : List Nat := [0, 28799, 28799, 100663423, 4261412991, 4261441663, 4293918847, 4293947519, 28799, 28799]
def fxN (l : Nat) : Nat := fxL[l]?.getD 0
def wdL : List Nat := [2, 3, 1, 4]
def wdN (f : Nat) : Nat := wdL[f]?.getD 0
structure Fd where
  opc : Nat
  rm : Nat
  rs2 : Nat
  form : Nat
  rs3 : Nat
deriving DecidableEq
def cutF (w : Nat) : Fd := ⟨w % 128, w / 4096 % 8, w / 1048576 % 32, w / 33554432 % 4, w / 134217728 % 32⟩
def wordF (f : Fd) : Nat := (((f.opc ||| f.rm * 4096) ||| f.rs2 * 1048576) ||| f.form * 33554432) ||| f.rs3 * 134217728
def cnQ (o : Nat) : Nat × Nat × Nat :=
  if (plN o).lay = 0 then (0, 0, 0) else if (plN o).lay = 8 ∨ (plN o).lay = 9 then (1, 1, 1) else if o = 23 ∨ o = 25 then (3, 1, 1) else if o = 17 then (4, 4, 1) else if o = 21 ∨ o = 22 then (4, 1, 4) else (4, 1, 1)
def rmP (o f : Nat) : Nat := if (plN o).lay = 1 ∨ (plN o).lay = 2 then wdN f else (plN o).rm
def fdP (o f g k : Nat) : Fd := ⟨(plN o).opc, rmP o f, g ||| k, f, (plN o).rs3⟩
def rwP24 (o f g k : Nat) : Rw := ⟨o, f, g, k, fxN (plN o).lay, wordF (fdP o f g k) &&& fxN (plN o).lay, (plN o).lay⟩
def inP24 (o f g k : Nat) : List Rw := if o = 17 ∧ g = f then [] else [rwP24 o f g k]
def kP24 (o f g k : Nat) : List Rw := (List.range k).flatMap (inP24 o f g)
def gP24 (o f g : Nat) : List Rw := (List.range g).flatMap fun g => kP24 o f g (cnQ o).2.2
def fP24 (o f : Nat) : List Rw := (List.range f).flatMap fun f => gP24 o f (cnQ o).2.1
def rwsO (o : Nat) : List Rw := fP24 o (cnQ o).1
theorem rwsO_all : (List.range 32).flatMap rwsO = allL.map (·.1) := by decide +kernel
theorem rwsO_out {o : Nat} (h : 32 ≤ o) : rwsO o = [] := by
  have e : plN o = plZ := by unfold plN; rw [List.getElem?_eq_none (by show 32 ≤ o; exact h)]; rfl
  simp [rwsO, cnQ, e, plZ, fP24]
theorem fP24_next (o f : Nat) : fP24 o (f + 1) = fP24 o f ++ gP24 o f (cnQ o).2.1 := by simp [fP24, List.range_succ]
theorem gP_next (o f g : Nat) : gP24 o f (g + 1) = gP24 o f g ++ kP24 o f g (cnQ o).2.2 := by simp [gP24, List.range_succ]
theorem kP_next (o f g k : Nat) : kP24 o f g (k + 1) = kP24 o f g k ++ inP24 o f g k := by simp [kP24, List.range_succ]
theorem cnQ_le : ((List.range 32).all fun o => decide ((cnQ o).1 ≤ 4 ∧ (cnQ o).2.1 ≤ 4 ∧ (cnQ o).2.2 ≤ 4)) = true := by decide +kernel
end Go.Proofs.YtaoccmopfflkmaaDoor
