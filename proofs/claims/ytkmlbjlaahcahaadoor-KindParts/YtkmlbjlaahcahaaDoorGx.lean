/-
  What the functions of the layers below return, and rows of words in memory.
-/
import Derived.Test.YtkmlbjlaahcahaaDoorRows
import Derived.Test.YtkmlbjlaahcahaaDoorMx
import Derived.WalkKit
import Derived.ProofKit
import Derived.WalkLawsBesides
import Derived.Deep.WholeRow
import Derived.Below
import Derived.ScopeJumps
import Derived.Lib.BitFns
import Derived.Deep.QuietTactic
import Derived.BigQuiet
import Derived.ChangeKeysEq
import Derived.Deep.OwnRows
import Derived.Laws.BytesString
import Derived.Deep.RegionLaw
import Derived.Laws.CopyOwn
namespace Go.Proofs.YtkmlbjlaahcahaaDoor
open Go.RowKit WMath

theorem hide {p : Prop} (h : p) : Hid p := h
theorem ret1 {v v' : Value} (h : v = v') : Ending.returned v = .returned v' := by rw [h]
theorem int_eq {k : IntKind} {a b : Int} (h : a = b) : Value.int k a = .int k b := by rw [h]
theorem bool_eq {a b : Bool} (h : a = b) : Value.bool a = .bool b := by rw [h]
theorem ret_bool {a b : Bool} (h : a = b) : Ending.returned (.bool a) = .returned (.bool b) := by rw [h]
theorem ret_int {k : IntKind} {a b : Int} (h : a = b) : Ending.returned (.int k a) = .returned (.int k b) := by rw [h]
theorem ret_ib {k : IntKind} {a a' : Int} {b b' : Bool} (h : a = a') (h2 : b = b') : Ending.returned (.tuple #[.int k a, .bool b]) = .returned (.tuple #[.int k a', .bool b']) := by rw [h, h2]
theorem ret_ii {k l : IntKind} {a a' b b' : Int} (h : a = a') (h2 : b = b') : Ending.returned (.tuple #[.int k a, .int l b]) = .returned (.tuple #[.int k a', .int l b']) := by rw [h, h2]
theorem ret_iii {k l m : IntKind} {a a' b b' c c' : Int} (h : a = a') (h2 : b = b') (h3 : c = c') : Ending.returned (.tuple #[.int k a, .int l b, .int m c]) = .returned (.tuple #[.int k a', .int l b', .int m c']) := by rw [h, h2, h3]

theorem dec_eq {p q : Prop} [Decidable p] [Decidable q] (h : p ↔ q) : decide p = decide q := by simp [h]
theorem dec_or {p q : Prop} [Decidable p] [Decidable q] {x : Int} (h : p ∨ x = 0 ↔ q) : (decide p || x == 0) = decide q := by
  rw [Bool.eq_iff_iff]; simp [← h]
theorem dec_tt {q : Prop} [Decidable q] (h : q) : true = decide q := by simp [h]

theorem pow_cast (k : Nat) : (2 : Int) ^ k = ((2 ^ k : Nat) : Int) := by simp
theorem div_cast (x k : Nat) : (x : Int) / 2 ^ k = ((x / 2 ^ k : Nat) : Int) := by simp

theorem wrap_nat (n : Nat) (h : n < 18446744073709551616) : IntKind.u64.wrap (n : Int) = (n : Int) := by rw [IntKind.wrap_u64]; omega
theorem or_pow_i (S k : Nat) (hk : k < 64) (hS : S < 2 ^ k) : bits .or .u64 (S : Int) (IntKind.u64.wrap (2 ^ k)) = ((S + 2 ^ k : Nat) : Int) := by
  have h1 := pow_lt_64 k hk
  rw [pow_cast, wrap_nat _ h1, bits_or_u64_nat S _ (by omega) h1, or_pow S k hS]

theorem or_bit_i (S t : Nat) (hS : S % 2 = 0) (ht : t < 2) (h : S < 18446744073709551616) : bits .or .u64 (S : Int) (t : Int) = ((S + t : Nat) : Int) := by
  rw [bits_or_u64_nat S t h (by omega), or_bit S t hS ht]

theorem bit_any (x k : Nat) (hx : x < 18446744073709551616) (hk : k < 64) (w : World) :
    Calls Tryd.prog 52 #[.int .u64 x, .int .i64 k] w fun e w' => e = .returned (.bool (x.testBit k)) ∧ w' = w := by
  have h1 : x / 2 ^ k < 18446744073709551616 := Nat.lt_of_le_of_lt (Nat.div_le_self _ _) hx
  have H1 : Hid (bits .and .u64 ((x : Int) / 2 ^ k) 1 = ((x / 2 ^ k &&& 1 : Nat) : Int)) := by
    have := bits_and_u64_nat (x / 2 ^ k) 1 h1 (by omega)
    rw [← div_cast] at this
    exact this
  go_enter Tryd.func52, Tryd.ntmps52
  go_wp2
  go_ret
  refine ⟨ret_bool ?_, rfl⟩
  rw [H1.out, ← bit_and, Bool.eq_iff_iff]
  simp only [beq_iff_eq]
  omega

theorem radd_any (a b : Nat) (c : Bool) (ha : a < 18446744073709551616) (hb : b < 18446744073709551616) (w : World) :
    Calls Tryd.prog 54 #[.int .u64 a, .int .u64 b, .bool c] w fun e w' => e = .returned (.tuple #[.int .u64 ((a + b + c.toNat) % 18446744073709551616 : Nat), .bool (decide (18446744073709551616 ≤ a + b + c.toNat))]) ∧ w' = w := by
  go_enter Tryd.func54, Tryd.ntmps54
  go_wp2
  go_loop [8, 9, 2] (fun s i cc => ∃ (k S : Nat) (C : Bool), k ≤ 64 ∧ i = .int .i64 k ∧ s = .int .u64 S ∧ cc = .bool C ∧ S < 2 ^ k ∧ S + 2 ^ k * C.toNat = a % 2 ^ k + b % 2 ^ k + c.toNat) (fun _ i _ => 64 - (intOf i).toNat)
  case atStart => exact ⟨0, 0, c, by omega, rfl, rfl, rfl, by decide, by simp [Nat.mod_one]⟩
  case round =>
    obtain ⟨k, S, C, hk, rfl, rfl, rfl, hS, hE⟩ := hrel
    have HE : Hid (S + 2 ^ k * C.toNat = a % 2 ^ k + b % 2 ^ k + c.toNat) := hE
    clear hE
    by_cases hlt : k < 64
    · have st := add_step a b S k c.toNat C hS HE.out
      cases hx : a.testBit k <;> cases hy : b.testBit k <;> cases C
      all_goals
        go_wp2_with (go_at_call 52; refine (bit_any _ _ ?_ ?_ _).mono ?_; assumption; assumption; rintro e w' ⟨rfl, rfl⟩)
        go_round
        case rel =>
          rw [hx, hy] at st
          first
            | exact ⟨k + 1, S, _, by omega, by go_num, rfl, rfl, st.1, st.2⟩
            | exact ⟨k + 1, S + 2 ^ k, _, by omega, by go_num, int_eq (or_pow_i S k hlt hS), rfl, st.1, st.2⟩
        case measure => simp [intOf]; omega
    · go_wp2
      go_ret2
      obtain rfl : k = 64 := by omega
      have hE := HE.out
      rw [← two64, Nat.mod_eq_of_lt ha, Nat.mod_eq_of_lt hb] at hE
      rw [← two64] at hS
      have he := add_end a b S C c hS hE
      exact ⟨ret_ib (by have := he.1; omega) he.2, rfl⟩
end Go.Proofs.YtkmlbjlaahcahaaDoor
namespace Go.Proofs.YtkmlbjlaahcahaaDoor
open Go.RowKit WMath

theorem setRow_below (w : World) (b : Nat) (c : Array Value) (o : Obj) (h : b < w.heap.size) : (w.alloc o).setRow b c = (w.setRow b c).alloc o := by
  simp only [World.setRow, World.alloc]
  congr 1
  apply Array.ext_getElem?
  intro i
  rw [Array.getElem?_modify, Array.getElem?_push, Array.getElem?_push, Array.size_modify, Array.getElem?_modify]
  by_cases e : i = w.heap.size
  · subst e
    rw [if_pos rfl, if_pos rfl, if_neg (by omega)]
  · rw [if_neg e, if_neg e]

theorem heap_below (w : World) (b : Nat) (o : Obj) (h : b < w.heap.size) : (w.alloc o).heap[b]? = w.heap[b]? := Below.heap_alloc w o b h
theorem size_al (w : World) (o : Obj) : (w.alloc o).heap.size = w.heap.size + 1 := by
  show (w.heap.push o).size = _
  simp

theorem info6 : (Tryd.prog.info? 28).map (·.size) = some 6 := by kernel_rfl

theorem st_any (w : World) (b x y : Nat) (h : w.heap[b]? = some (.cells (cw 6 y) 28)) :
    (storeCells ⟨b, 0, none⟩ (cw 6 x).toList 0).run Tryd.prog w = .ok () (w.setRow b (cw 6 x)) := by
  have := run_storeCells_from (P := Tryd.prog) b 28 (cw 6 x).toList 0 (cw 6 y) w h (by simp [cw_size]) (fun v hv => (Array.all_eq_true_iff_forall_mem.1 (cw_oneCell 6 x)) v (by simpa using hv))
  simpa using this

theorem ix6 (n k : Nat) (w : World) (h : k < 6) : (Instr.index 28 (.agg (cw 6 n)) (.int .i64 k)).run Tryd.prog w = .ok (.int .u64 (wd n k : Nat)) w := by
  have h2 : (0 : Int) ≤ k ∧ (k : Int) < (6 : Nat) := by omega
  simp [Instr.index, run_underlying Tryd.underlying28, asIntOf, h2, go_sem]
  rw [if_pos h, cw_at 6 n k h]
  rfl

theorem st0 (w : World) (b x y : Nat) (hb : b = w.heap.size) :
    (storeCells ⟨b, 0, none⟩ (cw 6 x).toList 0).run Tryd.prog (w.alloc (.cells (cw 6 y) 28)) = .ok () (w.alloc (.cells (cw 6 x) 28)) := by
  subst hb
  rw [st_any _ _ x y (heap_alloc_last w _), World.setRow_alloc_new]
theorem st1 (w : World) (b x y : Nat) (o : Obj) (hb : b = w.heap.size) :
    (storeCells ⟨b, 0, none⟩ (cw 6 x).toList 0).run Tryd.prog ((w.alloc (.cells (cw 6 y) 28)).alloc o) = .ok () ((w.alloc (.cells (cw 6 x) 28)).alloc o) := by
  subst hb
  have h0 : w.heap.size < (w.alloc (.cells (cw 6 y) 28)).heap.size := by rw [size_al]; omega
  rw [st_any _ _ x y (by rw [heap_below _ _ _ h0]; exact heap_alloc_last w _), setRow_below _ _ _ _ h0, World.setRow_alloc_new]
theorem st2 (w : World) (b x y : Nat) (o o2 : Obj) (hb : b = w.heap.size) :
    (storeCells ⟨b, 0, none⟩ (cw 6 x).toList 0).run Tryd.prog (((w.alloc (.cells (cw 6 y) 28)).alloc o).alloc o2) = .ok () (((w.alloc (.cells (cw 6 x) 28)).alloc o).alloc o2) := by
  subst hb
  have h0 : w.heap.size < (w.alloc (.cells (cw 6 y) 28)).heap.size := by rw [size_al]; omega
  have h1 : w.heap.size < ((w.alloc (.cells (cw 6 y) 28)).alloc o).heap.size := by rw [size_al]; omega
  rw [st_any _ _ x y (by rw [heap_below _ _ _ h1, heap_below _ _ _ h0]; exact heap_alloc_last w _), setRow_below _ _ _ _ h1, setRow_below _ _ _ _ h0, World.setRow_alloc_new]
theorem sc0d (w : World) (b t d : Nat) (c : Array Value) (T : TypeId) (v : Value) (hb : b = w.heap.size) :
    ((w.alloc (.cells c T)).drewN d).setCell ⟨b, t, none⟩ v = (w.alloc (.cells (c.setIfInBounds t v) T)).drewN d := by
  rw [← World.setCell_alloc_at (w := w) c T b t v hb]
  rfl
theorem st_drew (w w2 : World) (b x d : Nat) (h : (storeCells ⟨b, 0, none⟩ (cw 6 x).toList 0).run Tryd.prog w = .ok () w2) (y : Nat) (hy : w.heap[b]? = some (.cells (cw 6 y) 28)) :
    (storeCells ⟨b, 0, none⟩ (cw 6 x).toList 0).run Tryd.prog (w.drewN d) = .ok () (w2.drewN d) := by
  rw [st_any w b x y hy] at h
  rw [st_any (w.drewN d) b x y hy]
  injection h with _ h
  rw [← h]
  rfl
theorem st0d (w : World) (b x y d : Nat) (hb : b = w.heap.size) :
    (storeCells ⟨b, 0, none⟩ (cw 6 x).toList 0).run Tryd.prog ((w.alloc (.cells (cw 6 y) 28)).drewN d) = .ok () ((w.alloc (.cells (cw 6 x) 28)).drewN d) :=
  st_drew _ _ b x d (st0 w b x y hb) y (by rw [hb]; exact heap_alloc_last w _)
theorem st1d (w : World) (b x y d : Nat) (o : Obj) (hb : b = w.heap.size) :
    (storeCells ⟨b, 0, none⟩ (cw 6 x).toList 0).run Tryd.prog (((w.alloc (.cells (cw 6 y) 28)).alloc o).drewN d) = .ok () (((w.alloc (.cells (cw 6 x) 28)).alloc o).drewN d) := by
  refine st_drew _ _ b x d (st1 w b x y o hb) y ?_
  have h0 : b < (w.alloc (.cells (cw 6 y) 28)).heap.size := by rw [size_al]; omega
  rw [heap_below _ _ _ h0, hb]
  exact heap_alloc_last w _
end Go.Proofs.YtkmlbjlaahcahaaDoor
namespace Go.Proofs.YtkmlbjlaahcahaaDoor
open Go.RowKit WMath

theorem al_eq {w : World} {c c' : Array Value} {t : TypeId} (h : c = c') : w.alloc (.cells c t) = w.alloc (.cells c' t) := by rw [h]

theorem wof_any (n : Nat) (hn : n < 18446744073709551616) (w : World) :
    Calls Tryd.prog 46 #[.int .u64 n] w fun e w' => e = .returned (W n) ∧ Below w.heap.size w w' := by
  unfold W
  have hat := cw_at 6
  have hz := cw6z
  have hf := cw6f
  have hs0 := st0
  have h1 : (cw 6 0).setIfInBounds 0 (.int .u64 n) = cw 6 n := by
    rw [cw_set 6 0 0 n (by omega) hn, setw_low 0 0 n (by decide)]; simp
  have h2 : (cw 6 0).toList.set 0 (.int .u64 n) = (cw 6 n).toList := by rw [← h1]; simp
  go_enter Tryd.func46, Tryd.ntmps46
  go_wp2
  exact bodyPost_ret (v := .agg (cw 6 n)) (by simp [results, Tryd.results46, go_sem, hat, hf]) rfl ⟨rfl, (Below.refl _ _).alloc (Nat.le_refl _) _⟩

theorem not_num64 (x : Nat) (hx : x < 18446744073709551616) : bits BinOp.xor IntKind.u64 (if IntKind.u64.signed = true then -1 else IntKind.u64.max) (x : Int) = ((18446744073709551615 - x : Nat) : Int) := by
  have e : (if IntKind.u64.signed = true then -1 else IntKind.u64.max) = ((18446744073709551615 : Nat) : Int) := by decide
  rw [e, bits_xor_u64_nat _ _ (by omega) hx]
  congr 1
  apply Nat.eq_of_testBit_eq
  intro j
  rw [Nat.testBit_xor, show 18446744073709551615 - x = 2 ^ 64 - (x + 1) by rw [← two64]; omega, Nat.testBit_two_pow_sub_succ (by rw [← two64]; exact hx)]
  rw [show 18446744073709551615 = 2 ^ 64 - 1 by decide, Nat.testBit_two_pow_sub_one]
  by_cases hj : j < 64
  · rw [decide_eq_true hj]; simp
  · rw [decide_eq_false hj, lt_bit (n := x) (q := 64) (by rw [← two64]; exact hx) (by omega)]; simp

end Go.Proofs.YtkmlbjlaahcahaaDoor
namespace Go.Proofs.YtkmlbjlaahcahaaDoor
open Go.RowKit WMath

/-- A count as it counts. -/
def cnt (n : Int) : Nat := min n.toNat 64
/-- A count of bits that has a highest one. -/
def ext (n : Int) : Nat := max (cnt n) 1
theorem cnt_le (n : Int) : cnt n ≤ 64 := by unfold cnt; omega
theorem ext_le (n : Int) : ext n ≤ 64 := by unfold ext cnt; omega
theorem ext_pos (n : Int) : 1 ≤ ext n := by unfold ext cnt; omega
theorem cnt_ext (n : Int) : cnt (ext n : Int) = ext n := by unfold ext cnt; omega
theorem cnt_ext1 (n : Int) : cnt ((ext n : Int) - 1) = ext n - 1 := by unfold ext cnt; omega

theorem cnt_small (k : Nat) (h : k < 64) : cnt (k : Int) = k := by unfold cnt; omega
theorem and63 (n : Int) : ∃ k : Nat, k < 64 ∧ bits .and .i64 n 63 = (k : Int) := by
  refine ⟨(n % 64).toNat, by omega, ?_⟩
  show IntKind.i64.wrap ((BitVec.ofInt 64 n &&& BitVec.ofInt 64 63).toNat : Int) = _
  have h1 : (BitVec.ofInt 64 63).toNat = 2 ^ 6 - 1 := by decide
  rw [BitVec.toNat_and, h1, Nat.and_two_pow_sub_one_eq_mod, BitVec.toNat_ofInt]
  simp only [IntKind.wrap, IntKind.bits, IntKind.signed]
  simp
  omega

theorem count_any (n : Int) (w : World) :
    Calls Tryd.prog 77 #[.int .i64 n] w fun e w' => e = .returned (.int .u64 (cnt n : Nat)) ∧ w' = w := by
  go_enter Tryd.func77, Tryd.ntmps77
  go_wp2
  all_goals go_ret
  all_goals rename_i h1
  all_goals exact ⟨ret_int (by unfold cnt; split at h1 <;> omega), rfl⟩

theorem left_any (x : Nat) (n : Int) (w : World) :
    Calls Tryd.prog 75 #[.int .u64 x, .int .i64 n] w fun e w' => e = .returned (.int .u64 (x * 2 ^ cnt n % 18446744073709551616 : Nat)) ∧ w' = w := by
  have hc := cnt_le n
  go_enter Tryd.func75, Tryd.ntmps75
  go_wp2_with (go_at_call 77; refine (count_any _ _).mono ?_; rintro e w' ⟨rfl, rfl⟩)
  go_ret
  exact ⟨ret_int (by rw [IntKind.wrap_u64]; simp), rfl⟩

theorem right_any (x : Nat) (n : Int) (w : World) :
    Calls Tryd.prog 76 #[.int .u64 x, .int .i64 n] w fun e w' => e = .returned (.int .u64 (x / 2 ^ cnt n : Nat)) ∧ w' = w := by
  have hc := cnt_le n
  go_enter Tryd.func76, Tryd.ntmps76
  go_wp2_with (go_at_call 77; refine (count_any _ _).mono ?_; rintro e w' ⟨rfl, rfl⟩)
  go_ret
  exact ⟨ret_int (by simp), rfl⟩

theorem left1_any (n : Int) (w : World) :
    Calls Tryd.prog 75 #[.int .u64 1, .int .i64 n] w fun e w' => e = .returned (.int .u64 (2 ^ cnt n % 18446744073709551616 : Nat)) ∧ w' = w := by
  have h := left_any 1 n w
  rw [Nat.one_mul] at h
  exact h
theorem mask_wrap (c : Nat) (h : c ≤ 64) : IntKind.u64.wrap (((2 ^ c % 18446744073709551616 : Nat) : Int) - 1) = ((2 ^ c - 1 : Nat) : Int) := by
  rw [IntKind.wrap_u64]
  have hp := Nat.two_pow_pos c
  rcases (by omega : c = 64 ∨ c < 64) with rfl | h2
  · rw [← two64]; omega
  · have := pow_lt_64 c h2
    omega

theorem and_mask (x c : Nat) (hx : x < 18446744073709551616) (h : c ≤ 64) : bits .and .u64 (x : Int) ((2 ^ c - 1 : Nat) : Int) = ((x % 2 ^ c : Nat) : Int) := by
  rw [bits_and_u64_nat _ _ hx (mask_lt c h), Nat.and_two_pow_sub_one_eq_mod]

theorem sign_num (x c d e : Nat) (hc : c = e) (hd : d = e - 1) (hx : x < 18446744073709551616) (h1 : 1 ≤ e) (h2 : e ≤ 64) :
    IntKind.u64.wrap (bits .xor .u64 (bits .and .u64 (x : Int) ((2 ^ c - 1 : Nat) : Int)) ((2 ^ d % 18446744073709551616 : Nat) : Int) - ((2 ^ d % 18446744073709551616 : Nat) : Int)) = ((sx x e : Nat) : Int) := by
  subst hc hd
  have hp := pow_lt_64 (c - 1) (by omega)
  have hq := pow_le_64 c h2
  have hl : x % 2 ^ c < 2 ^ c := Nat.mod_lt _ (Nat.two_pow_pos c)
  have hs := sx_lt x c h2
  rw [and_mask _ _ hx h2, Nat.mod_eq_of_lt hp, bits_xor_u64_nat _ _ (by omega) hp, IntKind.wrap_u64]
  rcases sx_xor x c h1 h2 with h | h <;> omega

theorem not_num (x c e : Nat) (hc : c = e) (hx : x < 18446744073709551616) (h2 : e ≤ 64) :
    bits .or .u64 (bits .and .u64 (x : Int) ((2 ^ c - 1 : Nat) : Int)) (bits .xor .u64 18446744073709551615 ((2 ^ c - 1 : Nat) : Int)) = ((x % 2 ^ e + (18446744073709551616 - 2 ^ e) : Nat) : Int) := by
  subst hc
  have hq := pow_le_64 c h2
  have hp := Nat.two_pow_pos c
  have hl : x % 2 ^ c < 2 ^ c := Nat.mod_lt _ hp
  have hm : (18446744073709551615 ^^^ (2 ^ c - 1) : Nat) = 18446744073709551616 - 2 ^ c := by
    have e1 : 18446744073709551616 - 2 ^ c = 2 ^ c * (2 ^ (64 - c) - 1) := by
      rw [Nat.mul_sub, ← Nat.pow_add, Nat.mul_one, Nat.add_sub_cancel' h2, ← two64]
    have e2 := Nat.two_pow_add_eq_or_of_lt (i := c) (b := 2 ^ c - 1) (by omega) (2 ^ (64 - c) - 1)
    have e3 : (18446744073709551615 : Nat) = 2 ^ 64 - 1 := by rw [← two64]
    apply Nat.eq_of_testBit_eq
    intro i
    rw [Nat.testBit_xor, e3, Nat.testBit_two_pow_sub_one, Nat.testBit_two_pow_sub_one, e1, Nat.testBit_two_pow_mul, Nat.testBit_two_pow_sub_one, Bool.eq_iff_iff]
    simp
    omega
  have hx' := bits_xor_u64_nat 18446744073709551615 (2 ^ c - 1) (by omega) (mask_lt c h2)
  rw [hm] at hx'
  have hx2 : bits .xor .u64 18446744073709551615 ((2 ^ c - 1 : Nat) : Int) = ((18446744073709551616 - 2 ^ c : Nat) : Int) := hx'
  rw [hx2, and_mask _ _ hx h2, bits_or_u64_nat _ _ (by omega) (by omega), sx_or _ _ h2]

theorem sx_tt (x e : Nat) (h : x.testBit (e - 1) = true) : sx x e = x % 2 ^ e + (18446744073709551616 - 2 ^ e) := by unfold sx; rw [if_pos h]
theorem sx_ff (x e : Nat) (h : x.testBit (e - 1) = false) : sx x e = x % 2 ^ e := by unfold sx; rw [h]; rfl
theorem and_num (x c e : Nat) (hc : c = e) (hx : x < 18446744073709551616) (h2 : e ≤ 64) : bits .and .u64 (x : Int) ((2 ^ c - 1 : Nat) : Int) = ((x % 2 ^ e : Nat) : Int) := by
  subst hc; exact and_mask _ _ hx h2

end Go.Proofs.YtkmlbjlaahcahaaDoor
namespace Go.Proofs.YtkmlbjlaahcahaaDoor
open Go.RowKit WMath

/-- What holds at each jump back of Div. -/
def DivJ (hi lo d : Nat) (w : World) (a' : Act) (w' : World) : Prop :=
  w' = w ∧ ∃ (j q r L : Nat) (J : Int) (u10 u11 u12 u13 u14 u15 u16 u17 u18 u19 u20 u21 u22 u23 u24 u25 u26 u27 u28 u29 u30 u31 u32 u33 u34 u35 u36 u37 u38 u39 u40 u41 u42 : Value), a' = { tmps := #[.int .u64 hi, .int .u64 L, .int .u64 d, undef, undef, undef, .int .u64 q, .int .u64 r, .int .i64 0, .int .i64 J, u10, u11, u12, u13, u14, u15, u16, u17, u18, u19, u20, u21, u22, u23, u24, u25, u26, u27, u28, u29, u30, u31, u32, u33, u34, u35, u36, u37, u38, u39, u40, u41, u42, undef, undef], defers := [] } ∧ J = j ∧ 1 ≤ j ∧ j < 64 ∧ L = lo * 2 ^ j % 18446744073709551616 ∧ DivSt hi lo d j q r
def DivM (a' : Act) : Nat := (64 - intOf (a'.tmps.getD 9 undef)).toNat

/-- What one pass reckons: the divisor does not go into what is left; it goes, and twice what is left is a word; it goes, and twice what is left is none. -/
theorem div_pass (hi lo d j q r L : Nat) (hd : d < 18446744073709551616) (hj : j < 64) (HL : L = lo * 2 ^ j % 18446744073709551616) (HS : DivSt hi lo d j q r) :
    r < d ∧ L < 18446744073709551616 ∧ q * 2 + 1 < 18446744073709551616 ∧
    ((∃ R Q L' : Nat, r * 2 < 18446744073709551616 ∧ R < d ∧ ((r : Int) / 9223372036854775808 == 1) = false ∧ bits .or .u64 ((r : Int) * 2) ((L : Int) / 9223372036854775808) = (R : Int) ∧ (q : Int) * 2 = (Q : Int) ∧
        IntKind.u64.wrap ((L : Int) * 2) = (L' : Int) ∧ Hid (L' = lo * 2 ^ (j + 1) % 18446744073709551616) ∧ Hid (DivSt hi lo d (j + 1) Q R)) ∨
     (∃ R Q Q1 Rd L' : Nat, r * 2 < 18446744073709551616 ∧ d ≤ R ∧ ((r : Int) / 9223372036854775808 == 1) = false ∧ bits .or .u64 ((r : Int) * 2) ((L : Int) / 9223372036854775808) = (R : Int) ∧ (q : Int) * 2 = (Q : Int) ∧
        bits .or .u64 (Q : Int) 1 = (Q1 : Int) ∧ IntKind.u64.wrap ((R : Int) - (d : Int)) = (Rd : Int) ∧ IntKind.u64.wrap ((L : Int) * 2) = (L' : Int) ∧ Hid (L' = lo * 2 ^ (j + 1) % 18446744073709551616) ∧ Hid (DivSt hi lo d (j + 1) Q1 Rd)) ∨
     (∃ R Q Q1 Rd L' : Nat, 18446744073709551616 ≤ r * 2 ∧ ((r : Int) / 9223372036854775808 == 1) = true ∧ bits .or .u64 (IntKind.u64.wrap ((r : Int) * 2)) ((L : Int) / 9223372036854775808) = (R : Int) ∧ (q : Int) * 2 = (Q : Int) ∧
        bits .or .u64 (Q : Int) 1 = (Q1 : Int) ∧ IntKind.u64.wrap ((R : Int) - (d : Int)) = (Rd : Int) ∧ IntKind.u64.wrap ((L : Int) * 2) = (L' : Int) ∧ Hid (L' = lo * 2 ^ (j + 1) % 18446744073709551616) ∧ Hid (DivSt hi lo d (j + 1) Q1 Rd))) := by
  have hr := HS.2.1
  have hq := HS.2.2
  have hp := pow_lt_64 j hj
  have hq2 : q < 9223372036854775808 := by
    have : 2 ^ j ≤ 2 ^ 63 := Nat.pow_le_pow_right (by decide) (by omega)
    omega
  have hLl : L < 18446744073709551616 := by omega
  have ht : L / 9223372036854775808 = (lo.testBit (63 - j)).toNat := by rw [HL]; exact top_bit lo j hj
  have ds := div_step hi lo d j q r _ hj ht HS
  have ht2 : L / 9223372036854775808 < 2 := by omega
  have hL' := mul_mod_step lo j L HL
  have eL : IntKind.u64.wrap ((L : Int) * 2) = ((L * 2 % 18446744073709551616 : Nat) : Int) := by rw [IntKind.wrap_u64]; omega
  have eQ : (q : Int) * 2 = ((q * 2 : Nat) : Int) := by omega
  have eQ1 : bits .or .u64 ((q * 2 : Nat) : Int) 1 = ((q * 2 + 1 : Nat) : Int) := or_bit_i (q * 2) 1 (by omega) (by omega) (by omega)
  clear HS HL ht
  refine ⟨hr, hLl, by omega, ?_⟩
  by_cases hM : r * 2 < 18446744073709551616
  · have hout : ((r : Int) / 9223372036854775808 == 1) = false := by
      rw [beq_eq_false_iff_ne]; omega
    have eo : bits .or .u64 ((r : Int) * 2) ((L : Int) / 9223372036854775808) = ((2 * r + L / 9223372036854775808 : Nat) : Int) := by
      have h := or_bit_i (r * 2) (L / 9223372036854775808) (by omega) ht2 (by omega)
      rw [Nat.mul_comm 2 r, ← h]
      congr 1
    by_cases hA : 2 * r + L / 9223372036854775808 < d
    · exact Or.inl ⟨_, _, _, hM, hA, hout, eo, eQ, eL, hL', ds.1 hA⟩
    · exact Or.inr (Or.inl ⟨_, _, _, 2 * r + L / 9223372036854775808 - d, _, hM, by omega, hout, eo, eQ, eQ1, by rw [IntKind.wrap_u64]; omega, eL, hL', ds.2 (by omega)⟩)
  · have hout : ((r : Int) / 9223372036854775808 == 1) = true := by
      rw [beq_iff_eq]; omega
    have h := or_bit_i (r * 2 - 18446744073709551616) (L / 9223372036854775808) (by omega) ht2 (by omega)
    have e1 : IntKind.u64.wrap ((r : Int) * 2) = ((r * 2 - 18446744073709551616 : Nat) : Int) := by rw [IntKind.wrap_u64]; omega
    have e3 : (L : Int) / 9223372036854775808 = ((L / 9223372036854775808 : Nat) : Int) := by omega
    rw [← e1, ← e3] at h
    exact Or.inr (Or.inr ⟨_, _, _, 2 * r + L / 9223372036854775808 - d, _, by omega, hout, h, eQ, eQ1, by rw [IntKind.wrap_u64]; omega, eL, hL', ds.2 (by omega)⟩)

end Go.Proofs.YtkmlbjlaahcahaaDoor
namespace Go.Proofs.YtkmlbjlaahcahaaDoor
open Go.RowKit WMath

theorem fold_len : (⟨(((List.append (List.append [0, 1, 2, 2, 3, 3, 3, 3, 4, 4, 4, 4, 4, 4, 4, 4, 5, 5, 5, 5, 5, 5, 5, 5, 5, 5, 5, 5, 5, 5, 5, 5, 6, 6, 6, 6, 6, 6, 6, 6, 6, 6, 6, 6, 6, 6, 6, 6, 6, 6, 6, 6, 6, 6, 6, 6, 6, 6, 6, 6, 6, 6, 6, 6] [7, 7, 7, 7, 7, 7, 7, 7, 7, 7, 7, 7, 7, 7, 7, 7, 7, 7, 7, 7, 7, 7, 7, 7, 7, 7, 7, 7, 7, 7, 7, 7, 7, 7, 7, 7, 7, 7, 7, 7, 7, 7, 7, 7, 7, 7, 7, 7, 7, 7, 7, 7, 7, 7, 7, 7, 7, 7, 7, 7, 7, 7, 7, 7]) (List.append [8, 8, 8, 8, 8, 8, 8, 8, 8, 8, 8, 8, 8, 8, 8, 8, 8, 8, 8, 8, 8, 8, 8, 8, 8, 8, 8, 8, 8, 8, 8, 8, 8, 8, 8, 8, 8, 8, 8, 8, 8, 8, 8, 8, 8, 8, 8, 8, 8, 8, 8, 8, 8, 8, 8, 8, 8, 8, 8, 8, 8, 8, 8, 8] [8, 8, 8, 8, 8, 8, 8, 8, 8, 8, 8, 8, 8, 8, 8, 8, 8, 8, 8, 8, 8, 8, 8, 8, 8, 8, 8, 8, 8, 8, 8, 8, 8, 8, 8, 8, 8, 8, 8, 8, 8, 8, 8, 8, 8, 8, 8, 8, 8, 8, 8, 8, 8, 8, 8, 8, 8, 8, 8, 8, 8, 8, 8, 8])) : List UInt8).toArray)⟩ : ByteArray) = Lib.len8tab := by decide +kernel

theorem len_fact {P : Program} (w : World) (t : TypeId) (i : Int) (h : P.underlying t = some .string) (h0 : 0 ≤ i) (h1 : i ≤ 255) :
    (Instr.index t (.string Lib.len8tab) (.int .u8 i)).run P w = .ok (.int .u8 (Lib.bitLen i.toNat : Nat)) w := by
  rw [Lib.run_index_len8tab w t .u8 i h h0 h1, Lib.len8_of i h0 h1]

end Go.Proofs.YtkmlbjlaahcahaaDoor
namespace Go.Proofs.YtkmlbjlaahcahaaDoor
open Go.RowKit WMath

/-- All worlds that have grown out of W, as the values of one function. -/
theorem below_fun (W : World) : ∃ F : World → World, (∀ u, Below W.heap.size W (F u)) ∧ (∀ u, Below W.heap.size W u → F u = u) := by
  classical
  refine ⟨fun u => if Below W.heap.size W u then u else W, fun u => ?_, fun u h => if_pos h⟩
  by_cases h : Below W.heap.size W u
  · simp only [h, if_true]
  · simp only [h, if_false]; exact Below.refl _ _

theorem wp_region_below {P : Program} {id : Nat} {Q : Exit → Act → World → Prop} {a : Act} {W : World} {l : List Oper} (F : World → World) (hF : ∀ u, Below W.heap.size W u → F u = u)
    (hm : P.follows .mixedOrders = true) (hB : Region.lexB .any l.toArray = true)
    (h : wpQuiet P l.toArray (fun w' => ∃ u, w' = F u) (fun a' => ∀ w', (∃ u, w' = F u) → Q .normal a' w') l a) : (Code.region id l.toArray true).wp P Q a W :=
  wp_region_quiet (C := fun w' => ∃ u, w' = F u) hm hB ⟨W.drew, (hF _ ((Below.refl _ _).drew)).symm⟩ (by simpa using h)

theorem quietF {P : Program} {f : Nat} {args : Array Value} {v : Value} {W : World} {F : World → World} (h1 : ∀ u, Below W.heap.size W (F u)) (h2 : ∀ u, Below W.heap.size W u → F u = u) {u : World}
    (h : Calls P f args (F u) fun e w' => e = .returned v ∧ Below (F u).heap.size (F u) w') : Calls P f args (F u) fun e w'' => e = .returned v ∧ ∃ u', w'' = F u' :=
  h.mono fun _ w' ⟨he, hm⟩ => ⟨he, w', (h2 _ ((h1 u).trans (hm.mono (h1 u).size))).symm⟩
theorem quietF0 {P : Program} {f : Nat} {args : Array Value} {v : Value} {F : World → World} {u : World}
    (h : Calls P f args (F u) fun e w' => e = .returned v ∧ w' = F u) : Calls P f args (F u) fun e w'' => e = .returned v ∧ ∃ u', w'' = F u' :=
  h.mono fun _ _ ⟨he, hm⟩ => ⟨he, u, hm⟩

theorem bcell {W w1 : World} (hb : Below W.heap.size W w1) : (∀ b o, b < W.heap.size → w1.cell? ⟨b, o, none⟩ = W.cell? ⟨b, o, none⟩) ∧ (∀ b o, b < W.heap.size → w1.frozen? ⟨b, o, none⟩ = W.frozen? ⟨b, o, none⟩) :=
  ⟨fun b o h => hb.cell (p := ⟨b, o, none⟩) h, fun b o h => hb.frozen (p := ⟨b, o, none⟩) h⟩

theorem heap_of {W w1 : World} (hb : Below W.heap.size W w1) (b : Nat) (c : Array Value) (t : TypeId) (h : W.heap[b]? = some (.cells c t)) : w1.heap[b]? = some (.cells c t) := by
  rw [hb.block b (Array.getElem?_eq_some_iff.1 h).1, h]

theorem row_cell {w : World} {b n : Nat} (h : w.heap[b]? = some (.cells (cw 6 n) 28)) (o : Nat) (ho : o < 6) : w.cell? ⟨b, o, none⟩ = some (.int .u64 (wd n o : Nat)) := by
  rw [cell_of_row w b o _ _ _ h, cw_at 6 n o ho]
theorem setRow_row {w : World} {b : Nat} {c c' : Array Value} {t : TypeId} (h : w.heap[b]? = some (.cells c t)) : (w.setRow b c').heap[b]? = some (.cells c' t) := by
  simp [World.setRow, Array.getElem?_modify, h]
theorem setRow_other {w : World} {b b' : Nat} {c' : Array Value} (h : b ≠ b') : (w.setRow b c').heap[b']? = w.heap[b']? := by
  simp [World.setRow, Array.getElem?_modify, h]
theorem setRow_size {w : World} {b : Nat} {c' : Array Value} : (w.setRow b c').heap.size = w.heap.size := by
  simp [World.setRow]
theorem Below.setRow {B : Nat} {w w1 : World} {b : Nat} {c : Array Value} (h : Below B w w1) (hb : B ≤ b) : Below B w (w1.setRow b c) :=
  ⟨h.os, h.tape, h.output, by rw [setRow_size]; exact h.size, fun k hk => by rw [setRow_other (by omega)]; exact h.block k hk⟩

theorem st_same (w : World) (b x : Nat) (h : w.heap[b]? = some (.cells (cw 6 x) 28)) :
    (storeCells ⟨b, 0, none⟩ (cw 6 x).toList 0).run Tryd.prog w = .ok () w := by
  rw [st_any w b x x h, setRow_self w b _ _ _ h]

theorem eqItems6 (d x y : Nat) (w : World) : ∀ is : List Nat, (∀ i ∈ is, i < 6) → (Op.eqItems (d + 1) 23 1 (cw 6 x) (cw 6 y) is).run Tryd.prog w = .ok (is.all fun i => wd x i == wd y i) w
  | [], _ => rfl
  | i :: is, h => by
    have hi := h i (by simp)
    have ih := eqItems6 d x y w is (fun j hj => h j (by simp [hj]))
    have p1 : ∀ z : Nat, (part 23 (cw 6 z) (i * 1)).run Tryd.prog w = .ok (.int .u64 (wd z i : Nat)) w := fun z => by
      simp [part, cw_at 6 z i hi, go_sem]
    have e : ((wd x i : Int) == (wd y i : Int)) = (wd x i == wd y i) := by rw [Bool.eq_iff_iff]; simp only [beq_iff_eq]; omega
    simp only [Op.eqItems, Sem.run_bind, p1, Result.andThen_ok, run_equalIn_int _ d 23 .u64 .u64 _ _ Tryd.underlying23, e]
    cases he : wd x i == wd y i
    · simp [he]
    · simp [he, ih]

theorem eq6 (x y : Nat) (hx : x < Q) (hy : y < Q) (w : World) : (Op.equalIn 10000 28 (.agg (cw 6 x)) (.agg (cw 6 y))).run Tryd.prog w = .ok (decide (x = y)) w := by
  obtain ⟨i, hi⟩ : ∃ i, Tryd.prog.info? 23 = some i := by
    have : (Tryd.prog.info? 23).isSome = true := by kernel_rfl
    exact Option.isSome_iff_exists.1 this
  have hc : Tryd.prog.cellsOf 23 = 1 := by kernel_rfl
  rw [run_equalIn_array w 9999 (cw 6 x) (cw 6 y) Tryd.underlying28 hi, hc, eqItems6 9998 x y w (List.range 6) (fun i h => by simpa using h)]
  congr 1
  rw [Bool.eq_iff_iff, List.all_eq_true, decide_eq_true_iff]
  constructor
  · intro h
    obtain ⟨L, hL, hQ⟩ := Q_of
    rw [hQ] at hx hy
    exact wd_ext hx hy (fun k hk => by simpa using h k (by rw [hL] at hk; simpa using hk))
  · rintro rfl i _
    simp
theorem eqg6 : Tryd.prog.eqGuardType Tryd.prog.depth 28 = false := by kernel_rfl
end Go.Proofs.YtkmlbjlaahcahaaDoor
namespace Go.Proofs.YtkmlbjlaahcahaaDoor
open Go.RowKit WMath

end Go.Proofs.YtkmlbjlaahcahaaDoor
namespace Go.Proofs.YtkmlbjlaahcahaaDoor
open Go.RowKit WMath

/-- Bytes, as cells. -/
def cb (l : List UInt8) : Array Value := (l.map fun b => Value.int .u8 (b.toNat : Int)).toArray

theorem cb_at (l : List UInt8) (k : Nat) (b : UInt8) (h : l[k]? = some b) : (cb l)[k]? = some (.int .u8 (b.toNat : Int)) := by simp [cb, h]
theorem cb_size (l : List UInt8) : (cb l).size = l.length := by simp [cb]
theorem cb_set (l : List UInt8) (k : Nat) (b : UInt8) : (cb l).setIfInBounds k (.int .u8 (b.toNat : Int)) = cb (l.set k b) := by
  simp [cb, List.map_set]
theorem cb_made (L : Nat) : madeCells #[.int .u8 0] L = cb (List.replicate L 0) := by
  apply Array.ext_getElem?
  intro i
  by_cases h : i < L
  · rw [cb_at _ i 0 (by simp [h])]
    simp [madeCells, h, Nat.mod_one]
  · rw [Array.getElem?_eq_none (by rw [size_madeCells]; omega), Array.getElem?_eq_none (by rw [cb_size]; simp; omega)]

/-- The first k letters written, noughts behind. -/
def wt (L n k : Nat) : List UInt8 := (hxs L n).take k ++ List.replicate (L - k) 0
theorem wt_zero (L n : Nat) : wt L n 0 = List.replicate L 0 := by simp [wt]
theorem wt_full (L n : Nat) : wt L n L = hxs L n := by simp [wt, List.take_of_length_le (Nat.le_of_eq (hxs_len L n))]
theorem wt_len (L n k : Nat) (h : k ≤ L) : (wt L n k).length = L := by simp [wt, hxs_len]; omega
theorem wt_step (L n k : Nat) (h : k < L) : (wt L n k).set k (dg (n / 16 ^ (L - 1 - k) % 16)) = wt L n (k + 1) := by
  apply List.ext_getElem?
  intro i
  rw [List.getElem?_set, wt_len L n k (by omega)]
  have a : ∀ k, k ≤ L → (wt L n k)[i]? = if i < k then (hxs L n)[i]? else if i < L then some 0 else none := by
    intro k hk
    unfold wt
    rw [List.getElem?_append, List.length_take, hxs_len, Nat.min_eq_left hk]
    split
    · rename_i h1; rw [List.getElem?_take, if_pos h1]
    · rename_i h1; rw [List.getElem?_replicate]
      by_cases h2 : i < L
      · rw [if_pos h2, if_pos (by omega)]
      · rw [if_neg h2, if_neg (by omega)]
  rw [a k (by omega), a (k + 1) (by omega)]
  by_cases e : k = i
  · subst e
    rw [if_pos rfl, if_pos h, if_pos (by omega), hxs_at L n k h]
  · rw [if_neg e]
    by_cases e2 : i < k
    · rw [if_pos e2, if_pos (by omega)]
    · rw [if_neg e2, if_neg (show ¬ i < k + 1 by omega)]

theorem fz {w : World} {b k : Nat} {c : Array Value} {t : TypeId} (h : w.heap[b]? = some (.cells c t)) : w.frozen? ⟨b, k, none⟩ = false := by simp [World.frozen?, h]
theorem setCell_row {w : World} {b k : Nat} {c : Array Value} {t : TypeId} {v : Value} (h : w.heap[b]? = some (.cells c t)) : (w.setCell ⟨b, k, none⟩ v).heap[b]? = some (.cells (c.setIfInBounds k v) t) := by
  simp [World.setCell, Array.getElem?_modify, h]
theorem setCell_other {w : World} {b b' k : Nat} {v : Value} (h : b ≠ b') : (w.setCell ⟨b, k, none⟩ v).heap[b']? = w.heap[b']? := by
  simp [World.setCell, Array.getElem?_modify, h]
theorem cb_cell {w : World} {b k : Nat} {l : List UInt8} {t : TypeId} {x : UInt8} (h : w.heap[b]? = some (.cells (cb l) t)) (hk : l[k]? = some x) : w.cell? ⟨b, k, none⟩ = some (.int .u8 (x.toNat : Int)) := by
  rw [cell_of_row w b k _ _ _ h, cb_at l k x hk]
theorem fold_bytes : ∀ (l : List UInt8) (a : Array UInt8), ((l.map fun b => (b.toNat : Int)).foldl (fun r n => r.push (UInt8.ofNat n.toNat)) (⟨a⟩ : ByteArray)) = ⟨a ++ l.toArray⟩
  | [], a => by simp
  | x :: l, a => by
    have := fold_bytes l (a.push x)
    simp only [List.map_cons, List.foldl_cons, Int.toNat_natCast, UInt8.ofNat_toNat]
    rw [show (ByteArray.mk a).push x = ⟨a.push x⟩ from rfl, this]
    simp
theorem dig_fact (w : World) (d : Nat) (h : d < 16) :
    (Instr.index 9 (.string ⟨#[48, 49, 50, 51, 52, 53, 54, 55, 56, 57, 97, 98, 99, 100, 101, 102]⟩) (.int .u64 (d : Nat))).run Tryd.prog w = .ok (.int .u8 ((dg d).toNat : Int)) w := by
  have hd : d = 0 ∨ d = 1 ∨ d = 2 ∨ d = 3 ∨ d = 4 ∨ d = 5 ∨ d = 6 ∨ d = 7 ∨ d = 8 ∨ d = 9 ∨ d = 10 ∨ d = 11 ∨ d = 12 ∨ d = 13 ∨ d = 14 ∨ d = 15 := by omega
  rcases hd with rfl | rfl | rfl | rfl | rfl | rfl | rfl | rfl | rfl | rfl | rfl | rfl | rfl | rfl | rfl | rfl <;> (rw [run_index_string (P := Tryd.prog) w 9 _ _ _ Tryd.underlying9]; rfl)

end Go.Proofs.YtkmlbjlaahcahaaDoor
namespace Go.Proofs.YtkmlbjlaahcahaaDoor
open Go.RowKit WMath

theorem cw12z : #[Value.int .u64 0, .int .u64 0, .int .u64 0, .int .u64 0, .int .u64 0, .int .u64 0, .int .u64 0, .int .u64 0, .int .u64 0, .int .u64 0, .int .u64 0, .int .u64 0] = cw 12 0 := by
  show _ = #[_, _, _, _, _, _, _, _, _, _, _, _]
  simp [wd_zero]

theorem mul_over (n m P x2 : Nat) (hP : P = n * m) (h2 : x2 = P / Q) : (!decide (x2 = 0)) = decide (Q ≤ n * m) := by
  have := Q_pos
  by_cases h : Q ≤ n * m
  · have : 0 < P / Q := Nat.div_pos (by omega) Q_pos
    rw [decide_eq_true h, decide_eq_false (by omega)]; rfl
  · rw [h2, hP, Nat.div_eq_of_lt (by omega), decide_eq_false h]; rfl

theorem cw_take (S L o x : Nat) (hf : o + 6 ≤ S) (hx : ∀ j, j < 6 → wd x j = wd L (o + j)) (j : Nat) (v : Value) (hv : (cw 6 x).toList[j]? = some v) : (cw S L)[o + j]? = some v := by
  have hj : j < 6 := by
    have := (List.getElem?_eq_some_iff.1 hv).1
    simpa [cw_size] using this
  rw [cw_at S L (o + j) (by omega), ← hx j hj, ← cw_at 6 x j hj, ← hv]
  simp

theorem step_copy6 {P : Program} {ops : Array Oper} {o : Oper} {a : Act} {w : World} {K : Act → World → Prop} {Q : Exit → Act → World → Prop} {E : Prop} (hgd : o.guard = none) (d s : Operand) (dT sT : TypeId)
    (ho : o.op = .call { callee := .builtin .copy, args := #[d, s], argTypes := #[dT, sT] }) (elem : TypeId) (hu : P.underlying dT = some (.slice elem)) (hsz : (P.info? elem).map (·.size) = some 1)
    (g gs offs sCap : Nat) (hd : a.eval d = .slice (some ⟨g, 0, none⟩) 6 6) (hs : a.eval s = .slice (some ⟨gs, offs, none⟩) 6 sCap)
    (y L x S : Nat) (t t' : TypeId) (hg : w.heap[g]? = some (.cells (cw 6 y) t)) (hsrc : w.heap[gs]? = some (.cells (cw S L) t')) (fit : offs + 6 ≤ S) (hx : ∀ j, j < 6 → wd x j = wd L (offs + j))
    (h : ∀ w', w' = w.setRow g (cw 6 x) → K (a.put o.dst (goInt 6)) w') :
    if Region.wanted o (yielded ops a.tmps) = true then Oper.wp P o a w K Q else E := by
  have hw : Region.wanted o (yielded ops a.tmps) = true := by simp [Region.wanted, hgd]
  rw [if_pos hw]
  have hlen : (cw 6 x).toList.length = 6 := by simp [cw_size]
  have hadd : ∀ j, (⟨gs, offs, none⟩ : Addr).add j = ⟨gs, offs + j, none⟩ := fun j => by unfold Addr.add; split <;> simp_all
  have hrun := run_copy_row (P := P) w dT sT o.type elem g 0 6 6 ⟨gs, offs, none⟩ 6 sCap (cw 6 y) t (cw 6 x).toList hu hsz hg (by rw [hlen]; rfl)
    (fun j v hv => by rw [hadd, cell_of_row w gs (offs + j) _ _ _ hsrc]; exact cw_take S L offs x fit hx j v hv) (by rw [hlen, cw_size]; decide)
    (fun v hv => (Array.all_eq_true_iff_forall_mem.1 (cw_oneCell 6 x)) v (by simpa using hv))
  rw [hlen] at hrun
  have e0 : (cw 6 y).toList.drop (0 + 6) = [] := List.drop_eq_nil_of_le (by simp [cw_size])
  rw [e0, List.take_zero, List.nil_append, List.append_nil, Array.toArray_toList] at hrun
  unfold Oper.wp
  simp [execOp, ho, resolve, invoke, builtin, hd, hs, hrun, Result.andThen]
  exact h _ rfl

end Go.Proofs.YtkmlbjlaahcahaaDoor
