/-
  What the functions that the statement reaches return: part 3 (IN, IO, SL21).
-/
import Derived.Test.YtinagedilgihjaaDoorRows
import Derived.OpenShut
import Derived.LaidMore
import Derived.Lib.LaidTab
import Derived.Stop.Joined
import Derived.Stop.LaidErr
import Derived.Test.YtinagedilgihjaaDoorCa02
namespace Go.Proofs.YtinagedilgihjaaDoor
set_option maxRecDepth 100000
set_option maxHeartbeats 40000000
set_option maxRecDepth 100000
open Go.RowKit WMath
set_option linter.unusedSimpArgs false
set_option linter.unusedVariables false
theorem and31 : ∀ F, F < 256 → bits .and .u8 ((F : Nat) : Int) 31 = ((F % 32 : Nat) : Int) := by decide +kernel
theorem and7 : ∀ q, q < 8 → bits .and .u8 ((q : Nat) : Int) 7 = ((q : Nat) : Int) := by decide +kernel
theorem and255 : ∀ F, F < 256 → bits .and .u8 ((F : Nat) : Int) 255 = ((F : Nat) : Int) := by decide +kernel
theorem not31 : ∀ F, F < 256 → bits .andNot .u8 ((F : Nat) : Int) 31 = ((F / 32 * 32 : Nat) : Int) := by decide +kernel
theorem not224 : ∀ F, F < 256 → bits .andNot .u8 ((F : Nat) : Int) 224 = ((F % 32 : Nat) : Int) := by decide +kernel
theorem not255 : ∀ F, F < 256 → bits .andNot .u8 ((F : Nat) : Int) 255 = 0 := by decide +kernel
theorem and0 (F : Nat) : bits .and .u8 ((F : Nat) : Int) 0 = 0 := by
  have e : bits .and .u8 ((F : Nat) : Int) 0 = IntKind.u8.wrap (((BitVec.ofInt 8 ((F : Nat) : Int) &&& 0#8).toNat : Nat) : Int) := rfl
  rw [e, BitVec.and_zero]
  rfl
theorem or_low (a b : Nat) (hb : b < 32) : a * 32 ||| b = a * 32 + b := by
  have := Nat.two_pow_add_eq_or_of_lt (i := 5) hb a
  rw [Nat.mul_comm a 32]
  exact this.symm
theorem or_u64n (a b : Nat) (ha : a < 18446744073709551616) (hb : b < 18446744073709551616) : bits .or .u64 (a : Int) (b : Int) = ((a ||| b : Nat) : Int) := by
  have hx : a ||| b < 2 ^ 64 := Nat.or_lt_two_pow ha hb
  have h1 : (BitVec.ofInt 64 (a : Int)).toNat = a := by
    rw [BitVec.ofInt_natCast, BitVec.toNat_ofNat]; exact Nat.mod_eq_of_lt ha
  have h2 : (BitVec.ofInt 64 (b : Int)).toNat = b := by
    rw [BitVec.ofInt_natCast, BitVec.toNat_ofNat]; exact Nat.mod_eq_of_lt hb
  show IntKind.u64.wrap ((BitVec.ofInt 64 (a : Int) ||| BitVec.ofInt 64 (b : Int)).toNat : Int) = _
  rw [BitVec.toNat_or, h1, h2, show ∀ y : Int, IntKind.u64.wrap y = y % 18446744073709551616 from fun _ => rfl]
  omega
theorem not_u64n (a b : Nat) (ha : a < 18446744073709551616) (hb : b < 18446744073709551616) : bits .andNot .u64 (a : Int) (b : Int) = ((a ^^^ (a &&& b) : Nat) : Int) := by
  have hx : a ^^^ (a &&& b) < 2 ^ 64 := Nat.xor_lt_two_pow ha (Nat.and_lt_two_pow _ hb)
  show IntKind.u64.wrap ((BitVec.ofInt 64 (a : Int) &&& ~~~ BitVec.ofInt 64 (b : Int)).toNat : Int) = _
  rw [BitVec.ofInt_natCast, BitVec.ofInt_natCast]
  have e : (BitVec.ofNat 64 a &&& ~~~ BitVec.ofNat 64 b).toNat = a ^^^ (a &&& b) := by
    have e2 : BitVec.ofNat 64 a &&& ~~~ BitVec.ofNat 64 b = BitVec.ofNat 64 (a ^^^ (a &&& b)) := by
      apply BitVec.eq_of_getLsbD_eq
      intro i hi
      simp only [BitVec.getLsbD_and, BitVec.getLsbD_not, BitVec.getLsbD_ofNat, hi, Nat.testBit_xor, Nat.testBit_and, decide_true, Bool.true_and]
      cases a.testBit i <;> cases b.testBit i <;> rfl
    rw [e2, BitVec.toNat_ofNat]
    exact Nat.mod_eq_of_lt hx
  rw [e, show ∀ y : Int, IntKind.u64.wrap y = y % 18446744073709551616 from fun _ => rfl]
  omega
theorem wr64 (a : Nat) (h : a < 18446744073709551616) : IntKind.u64.wrap ((a : Nat) : Int) = ((a : Nat) : Int) := by
  rw [show ∀ y : Int, IntKind.u64.wrap y = y % 18446744073709551616 from fun _ => rfl]
  omega
theorem knum_no (n : Int) (h : ¬ (1 ≤ n ∧ n ≤ 3)) (w : World) : Calls Tryd.prog 30 #[.int .i64 n] w fun r w' => r = .returned (.tuple #[.agg #[.string ⟨#[]⟩, .int .u64 0, .int .u8 0], .int .i64 210]) ∧ Below w.heap.size w w' := by
  by_cases c : n < 1
  · exact pc_num_lo n (decide_eq_true c) w
  · exact pc_num_hi n (decide_eq_false c) (decide_eq_true (by omega)) w
theorem kRd_is (n : Int) (F : Nat) (hF : F < 256) (w : World) (hT : FAt w) : Calls Tryd.prog 8 #[.int .i64 n, .int .u8 (F : Nat)] w fun r w' => r = .returned (.tuple #[.int .u64 ((rdR n F).1 : Nat), .int .i64 (rdR n F).2]) ∧ Below w.heap.size w w' := by
  unfold rdR
  by_cases c : 1 ≤ n ∧ n ≤ 3
  · rw [if_pos c]
    rcases n_three c with rfl | rfl | rfl
    · exact pc_read1 F _ (and31 F hF) (wr64 _ (by omega)) (box (fun w hT => pc_num1 w hT)) w hT
    · exact pc_read2 F _ (and7 (F / 32) (by omega)) (wr64 _ (by omega)) (box (fun w hT => pc_num2 w hT)) w hT
    · exact pc_read3 F _ (and255 F hF) (wr64 _ (by omega)) (box (fun w hT => pc_num3 w hT)) w hT
  · rw [if_neg c]
    exact pc_read_no n F (and0 F) (box (fun w => knum_no n c w)) w
theorem kWr_is (n : Int) (F : Nat) (hF : F < 256) (x : Nat) (hx : x < 18446744073709551616) (w : World) (hT : FAt w) : Calls Tryd.prog 10 #[.int .i64 n, .int .u8 (F : Nat), .int .u64 (x : Nat)] w fun r w' => r = .returned (.tuple #[.int .u8 ((wrR n F x).1 : Nat), .int .i64 (wrR n F x).2]) ∧ Below w.heap.size w w' := by
  unfold wrR
  by_cases c : 1 ≤ n ∧ n ≤ 3
  · rw [if_pos c]
    rcases n_three c with rfl | rfl | rfl
    · refine pc_write1 F x _ _ 0 (not31 F hF) ?_ (box (fun w hT => pc_num1 w hT)) w hT
      have q := bits_or_u8 (F / 32 * 32) (x % 32) (by omega) (by omega)
      rw [or_low _ _ (by omega)] at q
      exact q
    · refine pc_write2 F x _ _ 0 (not224 F hF) ?_ (box (fun w hT => pc_num2 w hT)) w hT
      have q := bits_or_u8 (F % 32) (x % 8 * 32) (by omega) (by omega)
      rw [Nat.or_comm, or_low _ _ (by omega)] at q
      exact q
    · refine pc_write3 F x _ _ ((x % 256 : Nat) : Int) (not255 F hF) (and255 (x % 256) (by omega)) (by omega) ?_ (box (fun w hT => pc_num3 w hT)) w hT
      have q := bits_or_u8 0 (x % 256) (by omega) (by omega)
      rw [Nat.zero_or] at q
      exact q
  · rw [if_neg c]
    exact pc_write_no n F x (box (fun w => knum_no n c w)) w
theorem kCh_is (ho : Int) (h : ho = 0 ∨ ho = 1 ∨ ho = 2) (old x : Nat) (h1 : old < 18446744073709551616) (h2 : x < 18446744073709551616) (w : World) : Calls Tryd.prog 33 #[.int .u8 ho, .int .u64 (old : Nat), .int .u64 (x : Nat)] w fun r w' => r = .returned (.int .u64 (acV ho old x : Nat)) ∧ Below w.heap.size w w' := by
  rcases h with rfl | rfl | rfl
  · exact pc_ch0 _ _ w
  · exact pc_ch1 _ _ _ (or_u64n old x h1 h2) w
  · exact pc_ch2 _ _ _ (not_u64n old x h1 h2) w
theorem kAc_is (ho n : Int) (F x : Nat) (si : Bool) (h0 : 0 ≤ ho) (hF : F < 256) (hx : x < 18446744073709551616) (w : World) (hT : FAt w) : Calls Tryd.prog 12 #[.int .u8 ho, .int .i64 n, .int .u8 (F : Nat), .int .u64 (x : Nat), .bool si] w fun r w' => r = .returned (.tuple #[.int .u64 ((acR ho n F x si).1.1 : Nat), .int .u8 ((acR ho n F x si).1.2 : Nat), .bool (acR ho n F x si).2.1, .int .i64 (acR ho n F x si).2.2]) ∧ Below w.heap.size w w' := by
  have R := box (fun w hT => kRd_is n F hF w hT)
  unfold acR
  by_cases ch : 2 < ho
  · rw [if_pos ch]
    exact pc_act_e ho n F x si (decide_eq_true ch) w
  rw [if_neg ch]
  have hh := decide_eq_false ch
  by_cases c : 1 ≤ n ∧ n ≤ 3
  · rw [if_neg (fun q => q c)]
    have e : rdR n F = (rdW n F, 0) := by unfold rdR; rw [if_pos c]
    rw [e] at R
    have old := Nat.lt_trans (rdW_lt c hF) (show 256 < 18446744073709551616 by decide)
    have vl := acV_lt (ho := ho) old hx
    have W := box (fun w hT => kWr_is n F hF (acV ho (rdW n F) x) vl w hT)
    have e2 : wrR n F (acV ho (rdW n F) x) = (wrW n F (acV ho (rdW n F) x), 0) := by unfold wrR; rw [if_pos c]
    rw [e2] at W
    have h3 : ho = 0 ∨ ho = 1 ∨ ho = 2 := by omega
    have C := box (fun w => kCh_is ho h3 (rdW n F) x old hx w)
    rcases h3 with rfl | rfl | rfl
    · rw [if_neg (fun q => q.1 rfl)]
      cases si
      · exact pc_act_0f n F x _ _ _ R C W w hT
      · exact pc_act_0t n F x _ _ _ R C W w hT
    · cases si
      · rw [if_neg (fun q => absurd q.2 (by decide))]
        exact pc_act_1 n F x _ _ _ R C W w hT
      · rw [if_pos ⟨by decide, rfl⟩]
        exact pc_act_s 1 n F x _ hh rfl R w hT
    · cases si
      · rw [if_neg (fun q => absurd q.2 (by decide))]
        exact pc_act_2 n F x _ _ _ R C W w hT
      · rw [if_pos ⟨by decide, rfl⟩]
        exact pc_act_s 2 n F x _ hh rfl R w hT
  · rw [if_pos c]
    have e : rdR n F = (0, 210) := by unfold rdR; rw [if_neg c]
    rw [e] at R
    exact pc_act_n ho n F x _ si hh R w hT
theorem kPt_is (F : Nat) (hF : F < 256) (w : World) : Calls Tryd.prog 21 #[.int .u8 (F : Nat)] w fun r w' => r = .returned (.tuple #[.int .u8 ((F / 32 : Nat) : Int), .int .u8 ((F % 32 : Nat) : Int)]) ∧ Below w.heap.size w w' := pc_parts F _ _ rfl (and31 F hF) w
theorem kMd_is (F rm : Nat) (hF : F < 256) (w : World) : Calls Tryd.prog 15 #[.int .u8 (F : Nat), .int .u8 (rm : Nat)] w fun r w' => r = .returned (.tuple #[.int .u8 ((mdR F rm).1 : Nat), .int .i64 (mdR F rm).2]) ∧ Below w.heap.size w w' := by
  unfold mdR
  by_cases c : 7 < rm
  · rw [if_pos c]
    exact pc_mode_e _ _ (decide_eq_true (by omega)) w
  rw [if_neg c]
  have h := decide_eq_false (show ¬ (7 : Int) < ((rm : Nat) : Int) by omega)
  by_cases c7 : rm = 7
  · subst c7
    rw [if_pos rfl]
    by_cases d : 4 < F / 32
    · rw [if_pos d]
      exact pc_mode_dn _ _ _ (box (fun w => kPt_is F hF w)) (decide_eq_true (by omega)) w
    · rw [if_neg d]
      exact pc_mode_dy _ _ _ (box (fun w => kPt_is F hF w)) (decide_eq_false (by omega)) w
  · rw [if_neg c7]
    have h7 : (((rm : Nat) : Int) == 7) = false := beq_eq_false_iff_ne.2 (by omega)
    by_cases d : 4 < rm
    · rw [if_pos d]
      exact pc_mode_n _ _ h h7 (decide_eq_true (by omega)) w
    · rw [if_neg d]
      exact pc_mode_y _ _ h h7 (decide_eq_false (by omega)) w
theorem t_join (xs : List ByteArray) (hn : xs.length ≤ 140737488355328) (hlen : (Lib.join (xs.map (·.data.toList)) [43]).length ≤ 140737488355328) (W : World) (b : Nat) (v : Value) (n : Nat) (h : W.ownsRow b 9 1 v n (xs.map Value.string)) : Calls Tryd.prog 38 #[v, .string ⟨#[43]⟩] W fun r w' => r = .returned (.string ⟨(Lib.join (xs.map (·.data.toList)) [43]).toArray⟩) ∧ Below W.heap.size W w' := by
  have hl := h.1
  rw [List.length_map, Nat.mul_one] at hl
  rcases h.2 with ⟨rfl, h0⟩ | ⟨g, cap, cur, rfl, _, h3, h4, _, h6, h7⟩
  · subst h0
    obtain rfl : xs = [] := List.length_eq_zero_iff.1 hl
    exact (Any.strings_Join_none Tryd.laysJoin Tryd.joinExtra none 0 ⟨#[43]⟩ W).mono fun e w' q => ⟨q.1, q.2 ▸ Below.refl _ _⟩
  · subst hl
    refine Any.strings_Join Tryd.laysJoin Tryd.joinExtra g 0 cap xs ⟨#[43]⟩ W ?_ (Array.getElem?_eq_some_iff.1 h3).1 hn h4 hlen
    intro j x hx
    have := h.cells (g := g) rfl j (.string x) (by rw [List.getElem?_map, hx]; rfl)
    rw [show (⟨g, 0, none⟩ : Addr).add j = ⟨g, 0 + j, none⟩ from by unfold Addr.add; split <;> simp_all] at this
    exact this
theorem txJ_is : ∀ g, g < 32 → g ≠ 0 → (txJ g = (txD g).data.toList ∧ (wlK g 5).length ≤ 5 ∧ (txJ g).length ≤ 14) := by decide +kernel
theorem kJn_is (g : Nat) (hg : g < 32) (w : World) (hT : FAt w) : Calls Tryd.prog 35 #[.int .u8 (g : Nat)] w fun r w' => r = .returned (.string (txt g)) ∧ Below w.heap.size w w' := by
  by_cases h0 : g = 0
  · subst h0
    rw [show txt 0 = ⟨#[45]⟩ from by rw [txt_D]; decide +kernel]
    exact pc_joined0 w
  obtain ⟨a, b, c⟩ := txJ_is g hg h0
  refine pc_joined g hg (beq_eq_false_iff_ne.2 (by omega)) _ w (box (fun W b v n h => ?_)) hT
  have := t_join (wlK g 5) (by omega) (by show (txJ g).length ≤ _; omega) W _ v n h
  have e : (⟨(Lib.join ((wlK g 5).map (·.data.toList)) [43]).toArray⟩ : ByteArray) = txt g := by
    show (⟨(txJ g).toArray⟩ : ByteArray) = txt g
    rw [a, txt_D]
  rw [e] at this
  exact this
theorem kTx_is (g : Nat) (w : World) (hT : FAt w) : Calls Tryd.prog 26 #[.int .u8 (g : Nat)] w fun r w' => r = .returned (.tuple #[.string (txR g).1, .int .i64 (txR g).2]) ∧ Below w.heap.size w w' := by
  unfold txR
  by_cases c : 31 < g
  · rw [if_pos c]; exact pc_text_e _ (decide_eq_true (by omega)) w
  · rw [if_neg c]
    exact pc_text _ _ (decide_eq_false (by omega)) (box (fun w hT => kJn_is g (by omega) w hT)) w hT
theorem csrLives (w : World) (hT : FAt w) : Calls Tryd.prog 14 #[] w fun r w' => r = .returned (.bool true) ∧ Below w.heap.size w w' :=
  lives_all (box (fun {w w'} h hb => fatB h hb)) (fun n F _ _ hF => box (fun w hT => kRd_is n F hF w hT)) (fun n F x _ _ hF hx => box (fun w hT => kWr_is n F hF x hx w hT)) (fun F rm hF _ => box (fun w hT => kMd_is F rm hF w)) (fun g _ => box (fun w hT => kTx_is g w hT)) w hT
theorem csrActs_fin (ho n : Int) (h0 : 0 ≤ ho) (h1 : ho ≤ 255) (n1 : -9223372036854775808 ≤ n) (n2 : n ≤ 9223372036854775807) (F : Nat) (hF : F < 256) (X : Nat) (hX : X < 18446744073709551616) (si : Bool) (rm g : Nat) (hr : rm < 256) (hg : g < 256) (w : World) (hT : FAt w) : Calls Tryd.prog 3 #[.agg #[.int .u8 ho, .int .i64 n, .int .u8 (F : Nat), .int .u64 (X : Nat), .bool si, .int .u8 (rm : Nat), .int .u8 (g : Nat)]] w fun r w' => r = .returned (.bool true) ∧ Below w.heap.size w w' :=
  acts_all (box (fun {w w'} h hb => fatB h hb)) ho n h0 h1 n1 n2 F hF X hX si rm g hr hg (fun n F _ _ hF => box (fun w hT => kRd_is n F hF w hT)) (fun n F x _ _ hF hx => box (fun w hT => kWr_is n F hF x hx w hT)) (fun ho n F x si h0 _ _ _ hF hx => box (fun w hT => kAc_is ho n F x si h0 hF hx w hT)) (box (fun w hT => csrLives w hT)) w hT
end Go.Proofs.YtinagedilgihjaaDoor
namespace Go.Proofs.YtinagedilgihjaaDoor
set_option maxRecDepth 100000
set_option maxHeartbeats 40000000
set_option maxRecDepth 100000
open WMath
open Go.ChangeShapes Go.WideShapes Go.ChangeAt Go.RowKit
theorem trod_row3 {H : Type} {enc : TypeId × Value → H} {P : Program} {w : World} {base : Nat} {spare : Nat → Bool} {held : Bool} {t : TypeId} {f0 f1 f2 : Field} {fuel : Nat} {cs : List Value} {x : DataW H × List MemPlace} (ht : P.underlying t = some (.struct #[f0, f1, f2])) (h : DataW.trod enc P w base spare held fuel t cs = some x) :
    ∃ y0 y1 y2 n, x = (.agg [y0.1, y1.1, y2.1], y0.2 ++ (y1.2 ++ y2.2)) ∧ DataW.trod enc P w base spare held n f0.type ((cs.drop f0.offset).take (P.cellsOf f0.type)) = some y0 ∧
      DataW.trod enc P w base spare held n f1.type ((cs.drop f1.offset).take (P.cellsOf f1.type)) = some y1 ∧ DataW.trod enc P w base spare held n f2.type ((cs.drop f2.offset).take (P.cellsOf f2.type)) = some y2 := by
  obtain ⟨xs, n, _, rfl, hl, hlen, hf⟩ := DataW.trod_struct ht h
  match xs, hlen with
  | [y0, y1, y2], _ => exact ⟨y0, y1, y2, n, by simp, by simpa using hf 0 f0 rfl, by simpa using hf 1 f1 rfl, by simpa using hf 2 f2 rfl⟩
theorem list3x {α : Type} (l : List α) (h : l.length = 3) : ∃ a b c, l = [a, b, c] := by
  match l, h with
  | [a, b, c], _ => exact ⟨a, b, c, rfl⟩
theorem list1x {α : Type} (l : List α) (h : l.length = 1) : ∃ a, l = [a] := by
  match l, h with
  | [a], _ => exact ⟨a, rfl⟩
theorem reg_read {w : World} {fuel : Nat} {enc : TypeId × Value → Unit} {base : Nat} {spare : Nat → Bool} {held : Bool} {l : List Value} {a b : Int} {s : List UInt8} {p : List MemPlace}
    (h : DataW.trod enc Tryd.prog w base spare held fuel 54 l = some (.agg [.lit (.string s), .lit (.int .u64 a), .lit (.int .u8 b)], p)) (hl : l.length = 3) :
    l = [.string ⟨⟨s⟩⟩, .int .u64 a, .int .u8 b] := by
  have h5 : Tryd.prog.cellsOf 5 = 1 := by kernel_rfl
  have h9 : Tryd.prog.cellsOf 9 = 1 := by kernel_rfl
  have hu : Tryd.prog.cellsOf 52 = 1 := by kernel_rfl
  obtain ⟨c0, c1, c2, rfl⟩ := list3x l hl
  obtain ⟨y0, y1, y2, n, hx, g0, g1, g2⟩ := trod_row3 Tryd.underlying54 h
  simp only [h5, h9, hu] at g0 g1 g2
  obtain ⟨x0, e0, k0, w0⟩ := DataW.trod_string Tryd.underlying9 g0
  obtain ⟨x1, e1, k1, w1⟩ := DataW.trod_int Tryd.underlying52 g1
  obtain ⟨x2, e2, k2, w2⟩ := DataW.trod_int Tryd.underlying5 g2
  simp at e0 e1 e2
  subst e0 e1 e2
  rw [k0, k1, k2] at hx
  simp at hx
  obtain ⟨⟨rfl, rfl, rfl⟩, _⟩ := hx
  rfl
theorem wd_read {w : World} {fuel : Nat} {enc : TypeId × Value → Unit} {base : Nat} {spare : Nat → Bool} {held : Bool} {l : List Value} {s : List UInt8} {p : List MemPlace}
    (h : DataW.trod enc Tryd.prog w base spare held fuel 9 l = some (.lit (.string s), p)) (hl : l.length = 1) : l = [.string ⟨⟨s⟩⟩] := by
  obtain ⟨c0, rfl⟩ := list1x l hl
  obtain ⟨x0, e0, k0, w0⟩ := DataW.trod_string Tryd.underlying9 h
  simp at e0
  subst e0
  simp at k0
  obtain ⟨k1, _⟩ := k0
  rw [k1]
def laid7 : List (String × DataW Unit) := [("abacus/csr.registers", Rows.laid_abacus_csr_registers), ("abacus/csr.words", Rows.laid_abacus_csr_words)]
theorem gTab7 : Tryd.prog.globalNamed "abacus/csr.registers" = some 0 := by kernel_rfl
theorem gType7 : (Tryd.prog.globals[0]?).map (·.type) = some 63 := by kernel_rfl
theorem gTabW : Tryd.prog.globalNamed "abacus/csr.words" = some 1 := by kernel_rfl
theorem gTypeW : (Tryd.prog.globals[1]?).map (·.type) = some 65 := by kernel_rfl
theorem of_regs {W : World} {rest : List (String × DataW Unit)} (h : laidMet Tryd.prog (("abacus/csr.registers", Rows.laid_abacus_csr_registers) :: rest) W) : ∀ i, i < 9 → W.cell? ⟨0, i, none⟩ = fcells[i]? := by
  have hce : Tryd.prog.cellsOf 54 = 3 := by kernel_rfl
  have hct : Tryd.prog.cellsOf 63 = 9 := by kernel_rfl
  obtain ⟨ps, ⟨g', t', cs, fuel, p, q, hg', ht', hvar, hd, _, _⟩, _⟩ := h
  obtain rfl := Option.some.inj (gTab7.symm.trans hg')
  obtain rfl := Option.some.inj (gType7.symm.trans ht')
  obtain ⟨xs, m, rfl, hx, hl, hxl, hel⟩ := DataW.trod_array Tryd.underlying63 hd
  rw [hce] at hel
  rw [hct] at hl
  have hl2 : cs.size = 9 := by simpa using hl
  match xs, hxl with
  | [y0, y1, y2], _ =>
    have hx1 := congrArg Prod.fst hx
    simp [Rows.laid_abacus_csr_registers] at hx1
    obtain ⟨h0, h1, h2⟩ := hx1
    have q0 := hel 0 (by decide)
    have q1 := hel 1 (by decide)
    have q2 := hel 2 (by decide)
    simp only [List.getElem?_cons_zero, List.getElem?_cons_succ] at q0 q1 q2
    have z0 := reg_read (p := y0.2) (by rw [q0, h0]) (by simp; omega)
    have z1 := reg_read (p := y1.2) (by rw [q1, h1]) (by simp; omega)
    have z2 := reg_read (p := y2.2) (by rw [q2, h2]) (by simp; omega)
    have hcs : ∀ i, i < 9 → cs.toList[i]? = fcells[i]? := by
      intro i hi
      have e0 : cs.toList[i]? = (cs.toList.drop (i / 3 * 3))[i % 3]? := by rw [List.getElem?_drop]; congr 1; omega
      have e1 : (cs.toList.drop (i / 3 * 3))[i % 3]? = ((cs.toList.drop (i / 3 * 3)).take 3)[i % 3]? := by rw [List.getElem?_take, if_pos (by omega)]
      rw [e0, e1]
      have : i / 3 = 0 ∨ i / 3 = 1 ∨ i / 3 = 2 := by omega
      have hj : i % 3 = 0 ∨ i % 3 = 1 ∨ i % 3 = 2 := by omega
      have hi2 : i = i / 3 * 3 + i % 3 := by omega
      rcases this with e | e | e <;> rw [e] at hi2 ⊢ <;> rcases hj with k | k | k <;> rw [k] at hi2 ⊢ <;> subst hi2 <;> first | (rw [z0]; rfl) | (rw [z1]; rfl) | (rw [z2]; rfl)
    intro i hi
    rw [World.var?_cell gTab7 hvar i, ← hcs i hi]
    simp
theorem of_wds {W : World} {rest : List (String × DataW Unit)} (h : laidMet Tryd.prog (("abacus/csr.words", Rows.laid_abacus_csr_words) :: rest) W) : ∀ i, i < 5 → W.cell? ⟨1, i, none⟩ = wcells[i]? := by
  have hce : Tryd.prog.cellsOf 9 = 1 := by kernel_rfl
  have hct : Tryd.prog.cellsOf 65 = 5 := by kernel_rfl
  obtain ⟨ps, ⟨g', t', cs, fuel, p, q, hg', ht', hvar, hd, _, _⟩, _⟩ := h
  obtain rfl := Option.some.inj (gTabW.symm.trans hg')
  obtain rfl := Option.some.inj (gTypeW.symm.trans ht')
  obtain ⟨xs, m, rfl, hx, hl, hxl, hel⟩ := DataW.trod_array Tryd.underlying65 hd
  rw [hce] at hel
  rw [hct] at hl
  have hl2 : cs.size = 5 := by simpa using hl
  match xs, hxl with
  | [y0, y1, y2, y3, y4], _ =>
    have hx1 := congrArg Prod.fst hx
    simp [Rows.laid_abacus_csr_words] at hx1
    obtain ⟨h0, h1, h2, h3, h4⟩ := hx1
    have q0 := hel 0 (by decide)
    have q1 := hel 1 (by decide)
    have q2 := hel 2 (by decide)
    have q3 := hel 3 (by decide)
    have q4 := hel 4 (by decide)
    simp only [List.getElem?_cons_zero, List.getElem?_cons_succ] at q0 q1 q2 q3 q4
    have z0 := wd_read (p := y0.2) (by rw [q0, h0]) (by simp; omega)
    have z1 := wd_read (p := y1.2) (by rw [q1, h1]) (by simp; omega)
    have z2 := wd_read (p := y2.2) (by rw [q2, h2]) (by simp; omega)
    have z3 := wd_read (p := y3.2) (by rw [q3, h3]) (by simp; omega)
    have z4 := wd_read (p := y4.2) (by rw [q4, h4]) (by simp; omega)
    have hcs : ∀ i, i < 5 → cs.toList[i]? = wcells[i]? := by
      intro i hi
      have e0 : cs.toList[i]? = (cs.toList.drop (i * 1))[0]? := by rw [List.getElem?_drop]; congr 1; omega
      have e1 : (cs.toList.drop (i * 1))[0]? = ((cs.toList.drop (i * 1)).take 1)[0]? := by rw [List.getElem?_take, if_pos (by omega)]
      rw [e0, e1]
      have : i = 0 ∨ i = 1 ∨ i = 2 ∨ i = 3 ∨ i = 4 := by omega
      rcases this with rfl | rfl | rfl | rfl | rfl <;> first | (rw [z0]; rfl) | (rw [z1]; rfl) | (rw [z2]; rfl) | (rw [z3]; rfl) | (rw [z4]; rfl)
    intro i hi
    rw [World.var?_cell gTabW hvar i, ← hcs i hi]
    simp
theorem of_laid7 {W : World} (h : laidMetH Tryd.prog laid7 W) : FAt W := by
  rw [MakeChecks.laidMetH_plain _ _ _ (by kernel_rfl)] at h
  exact ⟨of_regs h, of_wds (laidMet.tail h)⟩
theorem door_met7 (os : Os) (args : Array Value) : laidMetH Tryd.prog laid7 ((World.doorLaid Tryd.prog 400 os).forCall (fun _ _ => 0) ⟨#[], args, []⟩).memory :=
  laidMetH_of_parts3 (fuel := 8) (laidMet_of_run' 8 (by kernel_rfl) (by kernel_rfl)) (by kernel_rfl) (by kernel_rfl)
end Go.Proofs.YtinagedilgihjaaDoor
