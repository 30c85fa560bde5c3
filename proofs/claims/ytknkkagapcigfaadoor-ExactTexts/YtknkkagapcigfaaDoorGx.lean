/-
  What the functions of the layers below return, and rows of words in memory.
-/
import Derived.Test.YtknkkagapcigfaaDoorRows
import Derived.Test.YtknkkagapcigfaaDoorMx
import Derived.WalkKit
import Derived.ProofKit
import Derived.WalkLawsBesides
import Derived.Deep.WholeRow
import Derived.Below
import Derived.Deep.RegionWith
import Derived.Deep.QuietTactic
import Derived.BigQuiet
import Derived.ChangeKeysEq
import Derived.ScopeJumps
import Derived.Lib.BitFns
import Derived.Deep.RegionLaw
import Derived.Laws.CopyOwn
import Derived.Deep.OwnRows
import Derived.Laws.BytesString
import Derived.Laws.Cover1
namespace Go.Proofs.YtknkkagapcigfaaDoor
open Go.RowKit WMath

theorem hide {p : Prop} (h : p) : Hid p := h
theorem ret1 {v v' : Value} (h : v = v') : Ending.returned v = .returned v' := by rw [h]
theorem int_eq {k : IntKind} {a b : Int} (h : a = b) : Value.int k a = .int k b := by rw [h]
theorem bool_eq {a b : Bool} (h : a = b) : Value.bool a = .bool b := by rw [h]
theorem ret_bool {a b : Bool} (h : a = b) : Ending.returned (.bool a) = .returned (.bool b) := by rw [h]
theorem ret_int {k : IntKind} {a b : Int} (h : a = b) : Ending.returned (.int k a) = .returned (.int k b) := by rw [h]
theorem ret_ib {k : IntKind} {a a' : Int} {b b' : Bool} (h : a = a') (h2 : b = b') : Ending.returned (.tuple #[.int k a, .bool b]) = .returned (.tuple #[.int k a', .bool b']) := by rw [h, h2]
theorem ret_ii {k l : IntKind} {a a' b b' : Int} (h : a = a') (h2 : b = b') : Ending.returned (.tuple #[.int k a, .int l b]) = .returned (.tuple #[.int k a', .int l b']) := by rw [h, h2]
theorem ret_iii {k l m : IntKind} {a a' b b' c c' : Int} (h : a = a') (h2 : b = b') (h3 : c = c') : Ending.returned (.tuple #[.int k a, .int l b, .int m c]) = .returned (.tuple #[.int k a', .int l b', .int m c']) := by rw [h, h2, h3]

theorem dec_eq {p q : Prop} [Decidable p] [Decidable q] (h : p ↔ q) : decide p = decide q := by simp [h]
theorem dec_or {p q : Prop} [Decidable p] [Decidable q] {x : Int} (h : p ∨ x = 0 ↔ q) : (decide p || x == 0) = decide q := by
  rw [Bool.eq_iff_iff]; simp [← h]
theorem dec_tt {q : Prop} [Decidable q] (h : q) : true = decide q := by simp [h]

theorem pow_cast (k : Nat) : (2 : Int) ^ k = ((2 ^ k : Nat) : Int) := by simp
theorem div_cast (x k : Nat) : (x : Int) / 2 ^ k = ((x / 2 ^ k : Nat) : Int) := by simp

theorem wrap_nat (n : Nat) (h : n < 18446744073709551616) : IntKind.u64.wrap (n : Int) = (n : Int) := by rw [IntKind.wrap_u64]; omega
theorem or_pow_i (S k : Nat) (hk : k < 64) (hS : S < 2 ^ k) : bits .or .u64 (S : Int) (IntKind.u64.wrap (2 ^ k)) = ((S + 2 ^ k : Nat) : Int) := by
  have h1 := pow_lt_64 k hk
  rw [pow_cast, wrap_nat _ h1, bits_or_u64_nat S _ (by omega) h1, or_pow S k hS]

theorem or_bit_i (S t : Nat) (hS : S % 2 = 0) (ht : t < 2) (h : S < 18446744073709551616) : bits .or .u64 (S : Int) (t : Int) = ((S + t : Nat) : Int) := by
  rw [bits_or_u64_nat S t h (by omega), or_bit S t hS ht]

theorem bit_any (x k : Nat) (hx : x < 18446744073709551616) (hk : k < 64) (w : World) :
    Calls Tryd.prog 65 #[.int .u64 x, .int .i64 k] w fun e w' => e = .returned (.bool (x.testBit k)) ∧ w' = w := by
  have h1 : x / 2 ^ k < 18446744073709551616 := Nat.lt_of_le_of_lt (Nat.div_le_self _ _) hx
  have H1 : Hid (bits .and .u64 ((x : Int) / 2 ^ k) 1 = ((x / 2 ^ k &&& 1 : Nat) : Int)) := by
    have := bits_and_u64_nat (x / 2 ^ k) 1 h1 (by omega)
    rw [← div_cast] at this
    exact this
  go_enter Tryd.func65, Tryd.ntmps65
  go_wp2
  go_ret
  refine ⟨ret_bool ?_, rfl⟩
  rw [H1.out, ← bit_and, Bool.eq_iff_iff]
  simp only [beq_iff_eq]
  omega

theorem add_any (a b : Nat) (c : Bool) (ha : a < 18446744073709551616) (hb : b < 18446744073709551616) (w : World) :
    Calls Tryd.prog 95 #[.int .u64 a, .int .u64 b, .bool c] w fun e w' => e = .returned (.tuple #[.int .u64 ((a + b + c.toNat) % 18446744073709551616 : Nat), .bool (decide (18446744073709551616 ≤ a + b + c.toNat))]) ∧ w' = w := by
  cases c
  · go_enter Tryd.func95, Tryd.ntmps95
    go_wp2
    go_ret2
    refine ⟨ret_ib ?_ (dec_eq ?_), rfl⟩ <;> rw [IntKind.wrap_u64, Bool.toNat_false] <;> omega
  · go_enter Tryd.func95, Tryd.ntmps95
    go_wp2
    all_goals go_ret2
    · refine ⟨ret_ib ?_ (dec_or ?_), rfl⟩ <;> rw [IntKind.wrap_u64, IntKind.wrap_u64, Bool.toNat_true] <;> omega
    · rename_i h
      rw [IntKind.wrap_u64] at h
      refine ⟨ret_ib ?_ (dec_tt ?_), rfl⟩
      · rw [IntKind.wrap_u64, IntKind.wrap_u64]; omega
      · omega

theorem sub_any (a b : Nat) (c : Bool) (ha : a < 18446744073709551616) (hb : b < 18446744073709551616) (w : World) :
    Calls Tryd.prog 93 #[.int .u64 a, .int .u64 b, .bool c] w fun e w' => e = .returned (.tuple #[.int .u64 ((a + 18446744073709551616 - b - c.toNat) % 18446744073709551616 : Nat), .bool (decide (a < b + c.toNat))]) ∧ w' = w := by
  cases c
  · go_enter Tryd.func93, Tryd.ntmps93
    go_wp2
    go_ret2
    refine ⟨ret_ib ?_ (dec_eq ?_), rfl⟩ <;> rw [IntKind.wrap_u64, Bool.toNat_false] <;> omega
  · go_enter Tryd.func93, Tryd.ntmps93
    go_wp2
    all_goals go_ret2
    · refine ⟨ret_ib ?_ (dec_or ?_), rfl⟩
      · rw [IntKind.wrap_u64, IntKind.wrap_u64, Bool.toNat_true]; omega
      · rw [IntKind.wrap_u64, Bool.toNat_true]; omega
    · rename_i h
      rw [IntKind.wrap_u64] at h
      refine ⟨ret_ib ?_ (dec_tt ?_), rfl⟩
      · rw [IntKind.wrap_u64, IntKind.wrap_u64]; omega
      · omega

end Go.Proofs.YtknkkagapcigfaaDoor
namespace Go.Proofs.YtknkkagapcigfaaDoor
open Go.RowKit WMath

theorem setRow_below (w : World) (b : Nat) (c : Array Value) (o : Obj) (h : b < w.heap.size) : (w.alloc o).setRow b c = (w.setRow b c).alloc o := by
  simp only [World.setRow, World.alloc]
  congr 1
  apply Array.ext_getElem?
  intro i
  rw [Array.getElem?_modify, Array.getElem?_push, Array.getElem?_push, Array.size_modify, Array.getElem?_modify]
  by_cases e : i = w.heap.size
  · subst e
    rw [if_pos rfl, if_pos rfl, if_neg (by omega)]
  · rw [if_neg e, if_neg e]

theorem heap_below (w : World) (b : Nat) (o : Obj) (h : b < w.heap.size) : (w.alloc o).heap[b]? = w.heap[b]? := Below.heap_alloc w o b h
theorem size_al (w : World) (o : Obj) : (w.alloc o).heap.size = w.heap.size + 1 := by
  show (w.heap.push o).size = _
  simp

theorem sc0d (w : World) (b t d : Nat) (c : Array Value) (T : TypeId) (v : Value) (hb : b = w.heap.size) :
    ((w.alloc (.cells c T)).drewN d).setCell ⟨b, t, none⟩ v = (w.alloc (.cells (c.setIfInBounds t v) T)).drewN d := by
  rw [← World.setCell_alloc_at (w := w) c T b t v hb]
  rfl
end Go.Proofs.YtknkkagapcigfaaDoor
namespace Go.Proofs.YtknkkagapcigfaaDoor
open Go.RowKit WMath

theorem al_eq {w : World} {c c' : Array Value} {t : TypeId} (h : c = c') : w.alloc (.cells c t) = w.alloc (.cells c' t) := by rw [h]

theorem not_num64 (x : Nat) (hx : x < 18446744073709551616) : bits BinOp.xor IntKind.u64 (if IntKind.u64.signed = true then -1 else IntKind.u64.max) (x : Int) = ((18446744073709551615 - x : Nat) : Int) := by
  have e : (if IntKind.u64.signed = true then -1 else IntKind.u64.max) = ((18446744073709551615 : Nat) : Int) := by decide
  rw [e, bits_xor_u64_nat _ _ (by omega) hx]
  congr 1
  apply Nat.eq_of_testBit_eq
  intro j
  rw [Nat.testBit_xor, show 18446744073709551615 - x = 2 ^ 64 - (x + 1) by rw [← two64]; omega, Nat.testBit_two_pow_sub_succ (by rw [← two64]; exact hx)]
  rw [show 18446744073709551615 = 2 ^ 64 - 1 by decide, Nat.testBit_two_pow_sub_one]
  by_cases hj : j < 64
  · rw [decide_eq_true hj]; simp
  · rw [decide_eq_false hj, lt_bit (n := x) (q := 64) (by rw [← two64]; exact hx) (by omega)]; simp

end Go.Proofs.YtknkkagapcigfaaDoor
namespace Go.Proofs.YtknkkagapcigfaaDoor
open Go.RowKit WMath

def cnt6 (n : Int) : Nat := min n.toNat 384
end Go.Proofs.YtknkkagapcigfaaDoor
namespace Go.Proofs.YtknkkagapcigfaaDoor
open Go.RowKit WMath

/-- A count as it counts. -/
def cnt (n : Int) : Nat := min n.toNat 64
/-- A count of bits that has a highest one. -/
def ext (n : Int) : Nat := max (cnt n) 1
theorem cnt_le (n : Int) : cnt n ≤ 64 := by unfold cnt; omega
theorem ext_le (n : Int) : ext n ≤ 64 := by unfold ext cnt; omega
theorem ext_pos (n : Int) : 1 ≤ ext n := by unfold ext cnt; omega
theorem cnt_ext (n : Int) : cnt (ext n : Int) = ext n := by unfold ext cnt; omega
theorem cnt_ext1 (n : Int) : cnt ((ext n : Int) - 1) = ext n - 1 := by unfold ext cnt; omega

theorem cnt_small (k : Nat) (h : k < 64) : cnt (k : Int) = k := by unfold cnt; omega
theorem and63 (n : Int) : ∃ k : Nat, k < 64 ∧ bits .and .i64 n 63 = (k : Int) := by
  refine ⟨(n % 64).toNat, by omega, ?_⟩
  show IntKind.i64.wrap ((BitVec.ofInt 64 n &&& BitVec.ofInt 64 63).toNat : Int) = _
  have h1 : (BitVec.ofInt 64 63).toNat = 2 ^ 6 - 1 := by decide
  rw [BitVec.toNat_and, h1, Nat.and_two_pow_sub_one_eq_mod, BitVec.toNat_ofInt]
  simp only [IntKind.wrap, IntKind.bits, IntKind.signed]
  simp
  omega

theorem count_any (n : Int) (w : World) :
    Calls Tryd.prog 80 #[.int .i64 n] w fun e w' => e = .returned (.int .u64 (cnt n : Nat)) ∧ w' = w := by
  go_enter Tryd.func80, Tryd.ntmps80
  go_wp2
  all_goals go_ret
  all_goals rename_i h1
  all_goals exact ⟨ret_int (by unfold cnt; split at h1 <;> omega), rfl⟩

theorem left_any (x : Nat) (n : Int) (w : World) :
    Calls Tryd.prog 74 #[.int .u64 x, .int .i64 n] w fun e w' => e = .returned (.int .u64 (x * 2 ^ cnt n % 18446744073709551616 : Nat)) ∧ w' = w := by
  have hc := cnt_le n
  go_enter Tryd.func74, Tryd.ntmps74
  go_wp2_with (go_at_call 80; refine (count_any _ _).mono ?_; rintro e w' ⟨rfl, rfl⟩)
  go_ret
  exact ⟨ret_int (by rw [IntKind.wrap_u64]; simp), rfl⟩

theorem right_any (x : Nat) (n : Int) (w : World) :
    Calls Tryd.prog 69 #[.int .u64 x, .int .i64 n] w fun e w' => e = .returned (.int .u64 (x / 2 ^ cnt n : Nat)) ∧ w' = w := by
  have hc := cnt_le n
  go_enter Tryd.func69, Tryd.ntmps69
  go_wp2_with (go_at_call 80; refine (count_any _ _).mono ?_; rintro e w' ⟨rfl, rfl⟩)
  go_ret
  exact ⟨ret_int (by simp), rfl⟩

theorem left1_any (n : Int) (w : World) :
    Calls Tryd.prog 74 #[.int .u64 1, .int .i64 n] w fun e w' => e = .returned (.int .u64 (2 ^ cnt n % 18446744073709551616 : Nat)) ∧ w' = w := by
  have h := left_any 1 n w
  rw [Nat.one_mul] at h
  exact h
theorem mask_wrap (c : Nat) (h : c ≤ 64) : IntKind.u64.wrap (((2 ^ c % 18446744073709551616 : Nat) : Int) - 1) = ((2 ^ c - 1 : Nat) : Int) := by
  rw [IntKind.wrap_u64]
  have hp := Nat.two_pow_pos c
  rcases (by omega : c = 64 ∨ c < 64) with rfl | h2
  · rw [← two64]; omega
  · have := pow_lt_64 c h2
    omega

theorem and_mask (x c : Nat) (hx : x < 18446744073709551616) (h : c ≤ 64) : bits .and .u64 (x : Int) ((2 ^ c - 1 : Nat) : Int) = ((x % 2 ^ c : Nat) : Int) := by
  rw [bits_and_u64_nat _ _ hx (mask_lt c h), Nat.and_two_pow_sub_one_eq_mod]

theorem sign_num (x c d e : Nat) (hc : c = e) (hd : d = e - 1) (hx : x < 18446744073709551616) (h1 : 1 ≤ e) (h2 : e ≤ 64) :
    IntKind.u64.wrap (bits .xor .u64 (bits .and .u64 (x : Int) ((2 ^ c - 1 : Nat) : Int)) ((2 ^ d % 18446744073709551616 : Nat) : Int) - ((2 ^ d % 18446744073709551616 : Nat) : Int)) = ((sx x e : Nat) : Int) := by
  subst hc hd
  have hp := pow_lt_64 (c - 1) (by omega)
  have hq := pow_le_64 c h2
  have hl : x % 2 ^ c < 2 ^ c := Nat.mod_lt _ (Nat.two_pow_pos c)
  have hs := sx_lt x c h2
  rw [and_mask _ _ hx h2, Nat.mod_eq_of_lt hp, bits_xor_u64_nat _ _ (by omega) hp, IntKind.wrap_u64]
  rcases sx_xor x c h1 h2 with h | h <;> omega

theorem not_num (x c e : Nat) (hc : c = e) (hx : x < 18446744073709551616) (h2 : e ≤ 64) :
    bits .or .u64 (bits .and .u64 (x : Int) ((2 ^ c - 1 : Nat) : Int)) (bits .xor .u64 18446744073709551615 ((2 ^ c - 1 : Nat) : Int)) = ((x % 2 ^ e + (18446744073709551616 - 2 ^ e) : Nat) : Int) := by
  subst hc
  have hq := pow_le_64 c h2
  have hp := Nat.two_pow_pos c
  have hl : x % 2 ^ c < 2 ^ c := Nat.mod_lt _ hp
  have hm : (18446744073709551615 ^^^ (2 ^ c - 1) : Nat) = 18446744073709551616 - 2 ^ c := by
    have e1 : 18446744073709551616 - 2 ^ c = 2 ^ c * (2 ^ (64 - c) - 1) := by
      rw [Nat.mul_sub, ← Nat.pow_add, Nat.mul_one, Nat.add_sub_cancel' h2, ← two64]
    have e2 := Nat.two_pow_add_eq_or_of_lt (i := c) (b := 2 ^ c - 1) (by omega) (2 ^ (64 - c) - 1)
    have e3 : (18446744073709551615 : Nat) = 2 ^ 64 - 1 := by rw [← two64]
    apply Nat.eq_of_testBit_eq
    intro i
    rw [Nat.testBit_xor, e3, Nat.testBit_two_pow_sub_one, Nat.testBit_two_pow_sub_one, e1, Nat.testBit_two_pow_mul, Nat.testBit_two_pow_sub_one, Bool.eq_iff_iff]
    simp
    omega
  have hx' := bits_xor_u64_nat 18446744073709551615 (2 ^ c - 1) (by omega) (mask_lt c h2)
  rw [hm] at hx'
  have hx2 : bits .xor .u64 18446744073709551615 ((2 ^ c - 1 : Nat) : Int) = ((18446744073709551616 - 2 ^ c : Nat) : Int) := hx'
  rw [hx2, and_mask _ _ hx h2, bits_or_u64_nat _ _ (by omega) (by omega), sx_or _ _ h2]

theorem sx_tt (x e : Nat) (h : x.testBit (e - 1) = true) : sx x e = x % 2 ^ e + (18446744073709551616 - 2 ^ e) := by unfold sx; rw [if_pos h]
theorem sx_ff (x e : Nat) (h : x.testBit (e - 1) = false) : sx x e = x % 2 ^ e := by unfold sx; rw [h]; rfl
theorem and_num (x c e : Nat) (hc : c = e) (hx : x < 18446744073709551616) (h2 : e ≤ 64) : bits .and .u64 (x : Int) ((2 ^ c - 1 : Nat) : Int) = ((x % 2 ^ e : Nat) : Int) := by
  subst hc; exact and_mask _ _ hx h2

end Go.Proofs.YtknkkagapcigfaaDoor
namespace Go.Proofs.YtknkkagapcigfaaDoor
open Go.RowKit WMath

theorem left_is (x : Nat) (n : Int) (v : Nat) (h : x * 2 ^ cnt n % 18446744073709551616 = v) (w : World) :
    Calls Tryd.prog 74 #[.int .u64 x, .int .i64 n] w fun e w' => e = .returned (.int .u64 (v : Nat)) ∧ w' = w := by
  subst h; exact left_any x n w
theorem right_is (x : Nat) (n : Int) (v : Nat) (h : x / 2 ^ cnt n = v) (w : World) :
    Calls Tryd.prog 69 #[.int .u64 x, .int .i64 n] w fun e w' => e = .returned (.int .u64 (v : Nat)) ∧ w' = w := by
  subst h; exact right_any x n w

end Go.Proofs.YtknkkagapcigfaaDoor
namespace Go.Proofs.YtknkkagapcigfaaDoor
open Go.RowKit WMath

/-- All worlds that have grown out of W, as the values of one function. -/
theorem below_fun (W : World) : ∃ F : World → World, (∀ u, Below W.heap.size W (F u)) ∧ (∀ u, Below W.heap.size W u → F u = u) := by
  classical
  refine ⟨fun u => if Below W.heap.size W u then u else W, fun u => ?_, fun u h => if_pos h⟩
  by_cases h : Below W.heap.size W u
  · simp only [h, if_true]
  · simp only [h, if_false]; exact Below.refl _ _

theorem wp_region_below {P : Program} {id : Nat} {Q : Exit → Act → World → Prop} {a : Act} {W : World} {l : List Oper} (F : World → World) (hF : ∀ u, Below W.heap.size W u → F u = u)
    (hm : P.follows .mixedOrders = true) (hB : Region.lexB .any l.toArray = true)
    (h : wpQuiet P l.toArray (fun w' => ∃ u, w' = F u) (fun a' => ∀ w', (∃ u, w' = F u) → Q .normal a' w') l a) : (Code.region id l.toArray true).wp P Q a W :=
  wp_region_quiet (C := fun w' => ∃ u, w' = F u) hm hB ⟨W.drew, (hF _ ((Below.refl _ _).drew)).symm⟩ (by simpa using h)

theorem quietF {P : Program} {f : Nat} {args : Array Value} {v : Value} {W : World} {F : World → World} (h1 : ∀ u, Below W.heap.size W (F u)) (h2 : ∀ u, Below W.heap.size W u → F u = u) {u : World}
    (h : Calls P f args (F u) fun e w' => e = .returned v ∧ Below (F u).heap.size (F u) w') : Calls P f args (F u) fun e w'' => e = .returned v ∧ ∃ u', w'' = F u' :=
  h.mono fun _ w' ⟨he, hm⟩ => ⟨he, w', (h2 _ ((h1 u).trans (hm.mono (h1 u).size))).symm⟩
theorem quietF0 {P : Program} {f : Nat} {args : Array Value} {v : Value} {F : World → World} {u : World}
    (h : Calls P f args (F u) fun e w' => e = .returned v ∧ w' = F u) : Calls P f args (F u) fun e w'' => e = .returned v ∧ ∃ u', w'' = F u' :=
  h.mono fun _ _ ⟨he, hm⟩ => ⟨he, u, hm⟩

theorem bcell {W w1 : World} (hb : Below W.heap.size W w1) : (∀ b o, b < W.heap.size → w1.cell? ⟨b, o, none⟩ = W.cell? ⟨b, o, none⟩) ∧ (∀ b o, b < W.heap.size → w1.frozen? ⟨b, o, none⟩ = W.frozen? ⟨b, o, none⟩) :=
  ⟨fun b o h => hb.cell (p := ⟨b, o, none⟩) h, fun b o h => hb.frozen (p := ⟨b, o, none⟩) h⟩

theorem heap_of {W w1 : World} (hb : Below W.heap.size W w1) (b : Nat) (c : Array Value) (t : TypeId) (h : W.heap[b]? = some (.cells c t)) : w1.heap[b]? = some (.cells c t) := by
  rw [hb.block b (Array.getElem?_eq_some_iff.1 h).1, h]

theorem setRow_row {w : World} {b : Nat} {c c' : Array Value} {t : TypeId} (h : w.heap[b]? = some (.cells c t)) : (w.setRow b c').heap[b]? = some (.cells c' t) := by
  simp [World.setRow, Array.getElem?_modify, h]
theorem setRow_other {w : World} {b b' : Nat} {c' : Array Value} (h : b ≠ b') : (w.setRow b c').heap[b']? = w.heap[b']? := by
  simp [World.setRow, Array.getElem?_modify, h]
theorem setRow_size {w : World} {b : Nat} {c' : Array Value} : (w.setRow b c').heap.size = w.heap.size := by
  simp [World.setRow]
theorem Below.setRow {B : Nat} {w w1 : World} {b : Nat} {c : Array Value} (h : Below B w w1) (hb : B ≤ b) : Below B w (w1.setRow b c) :=
  ⟨h.os, h.tape, h.output, by rw [setRow_size]; exact h.size, fun k hk => by rw [setRow_other (by omega)]; exact h.block k hk⟩

end Go.Proofs.YtknkkagapcigfaaDoor
namespace Go.Proofs.YtknkkagapcigfaaDoor
open Go.RowKit WMath

theorem left_lost (n c x : Nat) (hx : x = n * 2 ^ c % Q) : (!decide (x / 2 ^ c = n)) = decide (Q ≤ n * 2 ^ c) := by
  by_cases h : n * 2 ^ c < Q
  · rw [hx, Nat.mod_eq_of_lt h, Nat.mul_div_cancel _ (Nat.two_pow_pos c), decide_eq_false (show ¬ Q ≤ n * 2 ^ c by omega)]
    simp
  · have h1 : x < Q := by rw [hx]; exact Nat.mod_lt _ Q_pos
    have h2 : x / 2 ^ c ≠ n := by
      intro e
      have := Nat.div_mul_le_self x (2 ^ c)
      rw [e] at this
      omega
    rw [decide_eq_true (show Q ≤ n * 2 ^ c by omega), decide_eq_false h2]
    rfl
theorem right_lost (n c : Nat) (hn : n < Q) : (!decide (n / 2 ^ c * 2 ^ c % Q = n)) = decide (n % 2 ^ c ≠ 0) := by
  have h1 := Nat.div_add_mod' n (2 ^ c)
  rw [Nat.mod_eq_of_lt (by omega)]
  by_cases h : n % 2 ^ c = 0
  · rw [decide_eq_true (show n / 2 ^ c * 2 ^ c = n by omega), decide_eq_false (by omega)]; rfl
  · rw [decide_eq_false (show ¬ n / 2 ^ c * 2 ^ c = n by omega), decide_eq_true h]; rfl

end Go.Proofs.YtknkkagapcigfaaDoor
namespace Go.Proofs.YtknkkagapcigfaaDoor
open Go.RowKit WMath

set_option maxHeartbeats 1000000 in
theorem mul64_any (x y : Nat) (hx : x < 18446744073709551616) (hy : y < 18446744073709551616) (w : World) :
    Calls Tryd.prog 97 #[.int .u64 x, .int .u64 y] w fun e w' => e = .returned (.tuple #[.int .u64 ((x * y / 18446744073709551616 : Nat) : Int), .int .u64 ((x * y % 18446744073709551616 : Nat) : Int)]) ∧ w' = w := by
  go_enter Tryd.func97, Tryd.ntmps97
  go_wp2
  go_ret2
  refine ⟨ret_ii ?_ ?_, rfl⟩
  · simp only [IntKind.wrap_u64]
    rw [and_low32 (x : Int) (by omega) (by omega), and_low32 (y : Int) (by omega) (by omega), and_low32 (_ % 18446744073709551616) (Int.emod_nonneg _ (by decide)) (Int.emod_lt_of_pos _ (by decide)), mul64_arith x y (by omega) (by omega) (by omega) (by omega)]
    simp
  · rw [IntKind.wrap_u64]
    simp

theorem mul_any (x y : Nat) (hx : x < 18446744073709551616) (hy : y < 18446744073709551616) (w : World) :
    Calls Tryd.prog 96 #[.int .u64 x, .int .u64 y] w fun e w' => e = .returned (.tuple #[.int .u64 ((x * y / 18446744073709551616 : Nat) : Int), .int .u64 ((x * y % 18446744073709551616 : Nat) : Int)]) ∧ w' = w := by
  go_enter Tryd.func96, Tryd.ntmps96
  go_wp2_with (go_at_call 97; refine (mul64_any _ _ hx hy _).mono ?_; rintro e w' ⟨rfl, rfl⟩)
  go_ret2
  exact ⟨rfl, rfl⟩

/-- What holds at each jump back of Div. -/
def DivJ (hi lo d : Nat) (w : World) (a' : Act) (w' : World) : Prop :=
  w' = w ∧ ∃ (j q r L : Nat) (J : Int) (u10 u11 u12 u13 u14 u15 u16 u17 u18 u19 u20 u21 u22 u23 u24 u25 u26 u27 u28 u29 u30 u31 u32 u33 u34 u35 u36 u37 u38 u39 u40 u41 u42 : Value), a' = { tmps := #[.int .u64 hi, .int .u64 L, .int .u64 d, undef, undef, undef, .int .u64 q, .int .u64 r, .int .i64 0, .int .i64 J, u10, u11, u12, u13, u14, u15, u16, u17, u18, u19, u20, u21, u22, u23, u24, u25, u26, u27, u28, u29, u30, u31, u32, u33, u34, u35, u36, u37, u38, u39, u40, u41, u42, undef, undef], defers := [] } ∧ J = j ∧ 1 ≤ j ∧ j < 64 ∧ L = lo * 2 ^ j % 18446744073709551616 ∧ DivSt hi lo d j q r
def DivM (a' : Act) : Nat := (64 - intOf (a'.tmps.getD 9 undef)).toNat

/-- What one pass reckons: the divisor does not go into what is left; it goes, and twice what is left is a word; it goes, and twice what is left is none. -/
theorem div_pass (hi lo d j q r L : Nat) (hd : d < 18446744073709551616) (hj : j < 64) (HL : L = lo * 2 ^ j % 18446744073709551616) (HS : DivSt hi lo d j q r) :
    r < d ∧ L < 18446744073709551616 ∧ q * 2 + 1 < 18446744073709551616 ∧
    ((∃ R Q L' : Nat, r * 2 < 18446744073709551616 ∧ R < d ∧ ((r : Int) / 9223372036854775808 == 1) = false ∧ bits .or .u64 ((r : Int) * 2) ((L : Int) / 9223372036854775808) = (R : Int) ∧ (q : Int) * 2 = (Q : Int) ∧
        IntKind.u64.wrap ((L : Int) * 2) = (L' : Int) ∧ Hid (L' = lo * 2 ^ (j + 1) % 18446744073709551616) ∧ Hid (DivSt hi lo d (j + 1) Q R)) ∨
     (∃ R Q Q1 Rd L' : Nat, r * 2 < 18446744073709551616 ∧ d ≤ R ∧ ((r : Int) / 9223372036854775808 == 1) = false ∧ bits .or .u64 ((r : Int) * 2) ((L : Int) / 9223372036854775808) = (R : Int) ∧ (q : Int) * 2 = (Q : Int) ∧
        bits .or .u64 (Q : Int) 1 = (Q1 : Int) ∧ IntKind.u64.wrap ((R : Int) - (d : Int)) = (Rd : Int) ∧ IntKind.u64.wrap ((L : Int) * 2) = (L' : Int) ∧ Hid (L' = lo * 2 ^ (j + 1) % 18446744073709551616) ∧ Hid (DivSt hi lo d (j + 1) Q1 Rd)) ∨
     (∃ R Q Q1 Rd L' : Nat, 18446744073709551616 ≤ r * 2 ∧ ((r : Int) / 9223372036854775808 == 1) = true ∧ bits .or .u64 (IntKind.u64.wrap ((r : Int) * 2)) ((L : Int) / 9223372036854775808) = (R : Int) ∧ (q : Int) * 2 = (Q : Int) ∧
        bits .or .u64 (Q : Int) 1 = (Q1 : Int) ∧ IntKind.u64.wrap ((R : Int) - (d : Int)) = (Rd : Int) ∧ IntKind.u64.wrap ((L : Int) * 2) = (L' : Int) ∧ Hid (L' = lo * 2 ^ (j + 1) % 18446744073709551616) ∧ Hid (DivSt hi lo d (j + 1) Q1 Rd))) := by
  have hr := HS.2.1
  have hq := HS.2.2
  have hp := pow_lt_64 j hj
  have hq2 : q < 9223372036854775808 := by
    have : 2 ^ j ≤ 2 ^ 63 := Nat.pow_le_pow_right (by decide) (by omega)
    omega
  have hLl : L < 18446744073709551616 := by omega
  have ht : L / 9223372036854775808 = (lo.testBit (63 - j)).toNat := by rw [HL]; exact top_bit lo j hj
  have ds := div_step hi lo d j q r _ hj ht HS
  have ht2 : L / 9223372036854775808 < 2 := by omega
  have hL' := mul_mod_step lo j L HL
  have eL : IntKind.u64.wrap ((L : Int) * 2) = ((L * 2 % 18446744073709551616 : Nat) : Int) := by rw [IntKind.wrap_u64]; omega
  have eQ : (q : Int) * 2 = ((q * 2 : Nat) : Int) := by omega
  have eQ1 : bits .or .u64 ((q * 2 : Nat) : Int) 1 = ((q * 2 + 1 : Nat) : Int) := or_bit_i (q * 2) 1 (by omega) (by omega) (by omega)
  clear HS HL ht
  refine ⟨hr, hLl, by omega, ?_⟩
  by_cases hM : r * 2 < 18446744073709551616
  · have hout : ((r : Int) / 9223372036854775808 == 1) = false := by
      rw [beq_eq_false_iff_ne]; omega
    have eo : bits .or .u64 ((r : Int) * 2) ((L : Int) / 9223372036854775808) = ((2 * r + L / 9223372036854775808 : Nat) : Int) := by
      have h := or_bit_i (r * 2) (L / 9223372036854775808) (by omega) ht2 (by omega)
      rw [Nat.mul_comm 2 r, ← h]
      congr 1
    by_cases hA : 2 * r + L / 9223372036854775808 < d
    · exact Or.inl ⟨_, _, _, hM, hA, hout, eo, eQ, eL, hL', ds.1 hA⟩
    · exact Or.inr (Or.inl ⟨_, _, _, 2 * r + L / 9223372036854775808 - d, _, hM, by omega, hout, eo, eQ, eQ1, by rw [IntKind.wrap_u64]; omega, eL, hL', ds.2 (by omega)⟩)
  · have hout : ((r : Int) / 9223372036854775808 == 1) = true := by
      rw [beq_iff_eq]; omega
    have h := or_bit_i (r * 2 - 18446744073709551616) (L / 9223372036854775808) (by omega) ht2 (by omega)
    have e1 : IntKind.u64.wrap ((r : Int) * 2) = ((r * 2 - 18446744073709551616 : Nat) : Int) := by rw [IntKind.wrap_u64]; omega
    have e3 : (L : Int) / 9223372036854775808 = ((L / 9223372036854775808 : Nat) : Int) := by omega
    rw [← e1, ← e3] at h
    exact Or.inr (Or.inr ⟨_, _, _, 2 * r + L / 9223372036854775808 - d, _, by omega, hout, h, eQ, eQ1, by rw [IntKind.wrap_u64]; omega, eL, hL', ds.2 (by omega)⟩)

set_option maxHeartbeats 2000000 in
theorem div_any (hi lo d : Nat) (hh : hi < d) (hl : lo < 18446744073709551616) (hd : d < 18446744073709551616) (w : World) :
    Calls Tryd.prog 94 #[.int .u64 hi, .int .u64 lo, .int .u64 d] w fun e w' => e = .returned (.tuple #[.int .u64 (((hi * 18446744073709551616 + lo) / d : Nat) : Int), .int .u64 (((hi * 18446744073709551616 + lo) % d : Nat) : Int), .int .i64 0]) ∧ w' = w := by
  have e01 : bits .or .u64 0 1 = 1 := by decide
  go_enter Tryd.func94, Tryd.ntmps94
  go_wp2
  refine wp_scope_jumps 0 (DivJ hi lo d w) (fun a' _ => DivM a') rfl ?_ ?_
  · obtain ⟨hr, hL, hq, hc⟩ := div_pass hi lo d 0 0 hi lo hd (by omega) (by rw [Nat.pow_zero, Nat.mul_one, Nat.mod_eq_of_lt hl]) (div_start hi lo d hl hh)
    rcases hc with ⟨R, Q, L', hr2, hR2, hout, eo, eQ, eL, HL', HS'⟩ | ⟨R, Q, Q1, Rd, L', hr2, hR2, hout, eo, eQ, eq1, eRd, eL, HL', HS'⟩ | ⟨R, Q, Q1, Rd, L', hr2, hout, eo, eQ, eq1, eRd, eL, HL', HS'⟩
    · obtain rfl : Q = 0 := by omega
      clear eQ
      go_wp2
      go_step3
      go_wp2
      go_step3
      exact ⟨rfl, ⟨rfl, 1, 0, R, L', _, _, _, _, _, _, _, _, _, _, _, _, _, _, _, _, _, _, _, _, _, _, _, _, _, _, _, _, _, _, _, _, _, _, rfl, by omega, by omega, by omega, HL'.out, HS'.out⟩⟩
    · obtain rfl : Q = 0 := by omega
      obtain rfl : Q1 = 1 := by have : ((Q1 : Nat) : Int) = 1 := by rw [← eq1]; decide
                                omega
      clear eQ eq1
      go_wp2
      go_step3
      go_wp2
      go_step3
      exact ⟨rfl, ⟨rfl, 1, 1, Rd, L', _, _, _, _, _, _, _, _, _, _, _, _, _, _, _, _, _, _, _, _, _, _, _, _, _, _, _, _, _, _, _, _, _, _, rfl, by omega, by omega, by omega, HL'.out, HS'.out⟩⟩
    · obtain rfl : Q = 0 := by omega
      obtain rfl : Q1 = 1 := by have : ((Q1 : Nat) : Int) = 1 := by rw [← eq1]; decide
                                omega
      clear eQ eq1
      go_wp2
      go_step3
      go_wp2
      go_step3
      exact ⟨rfl, ⟨rfl, 1, 1, Rd, L', _, _, _, _, _, _, _, _, _, _, _, _, _, _, _, _, _, _, _, _, _, _, _, _, _, _, _, _, _, _, _, _, _, _, rfl, by omega, by omega, by omega, HL'.out, HS'.out⟩⟩
  · rintro a' w' ⟨rfl, j, q, r, L, J, u10, u11, u12, u13, u14, u15, u16, u17, u18, u19, u20, u21, u22, u23, u24, u25, u26, u27, u28, u29, u30, u31, u32, u33, u34, u35, u36, u37, u38, u39, u40, u41, u42, rfl, rfl, hj1, hj2, HL, HS⟩
    obtain ⟨hr, hL, hq, hc⟩ := div_pass hi lo d j q r L hd hj2 HL HS
    clear HL HS e01
    by_cases hlast : j = 63
    · subst hlast
      rcases hc with ⟨R, Q, L', hr2, hR2, hout, eo, eQ, eL, HL', HS'⟩ | ⟨R, Q, Q1, Rd, L', hr2, hR2, hout, eo, eQ, eq1, eRd, eL, HL', HS'⟩ | ⟨R, Q, Q1, Rd, L', hr2, hout, eo, eQ, eq1, eRd, eL, HL', HS'⟩
      · go_wp2
        simp only [Exit.jump]
        go_ret3
        obtain ⟨e1, e2⟩ := div_end hi lo d _ _ HS'.out
        exact ⟨ret_iii (by first | (rw [← e1]) | omega) (by first | (rw [← e2]) | omega) rfl, rfl⟩
      · go_wp2
        simp only [Exit.jump]
        go_ret3
        obtain ⟨e1, e2⟩ := div_end hi lo d _ _ HS'.out
        exact ⟨ret_iii (by first | (rw [← e1]) | omega) (by first | (rw [← e2]) | omega) rfl, rfl⟩
      · go_wp2
        simp only [Exit.jump]
        go_ret3
        obtain ⟨e1, e2⟩ := div_end hi lo d _ _ HS'.out
        exact ⟨ret_iii (by first | (rw [← e1]) | omega) (by first | (rw [← e2]) | omega) rfl, rfl⟩
    · rcases hc with ⟨R, Q, L', hr2, hR2, hout, eo, eQ, eL, HL', HS'⟩ | ⟨R, Q, Q1, Rd, L', hr2, hR2, hout, eo, eQ, eq1, eRd, eL, HL', HS'⟩ | ⟨R, Q, Q1, Rd, L', hr2, hout, eo, eQ, eq1, eRd, eL, HL', HS'⟩
      · go_wp2
        go_step3
        exact ⟨rfl, ⟨rfl, j + 1, Q, R, L', _, _, _, _, _, _, _, _, _, _, _, _, _, _, _, _, _, _, _, _, _, _, _, _, _, _, _, _, _, _, _, _, _, _, rfl, by omega, by omega, by omega, HL'.out, HS'.out⟩, by simp [DivM, intOf]; omega⟩
      · go_wp2
        go_step3
        exact ⟨rfl, ⟨rfl, j + 1, Q1, Rd, L', _, _, _, _, _, _, _, _, _, _, _, _, _, _, _, _, _, _, _, _, _, _, _, _, _, _, _, _, _, _, _, _, _, _, rfl, by omega, by omega, by omega, HL'.out, HS'.out⟩, by simp [DivM, intOf]; omega⟩
      · go_wp2
        go_step3
        exact ⟨rfl, ⟨rfl, j + 1, Q1, Rd, L', _, _, _, _, _, _, _, _, _, _, _, _, _, _, _, _, _, _, _, _, _, _, _, _, _, _, _, _, _, _, _, _, _, _, rfl, by omega, by omega, by omega, HL'.out, HS'.out⟩, by simp [DivM, intOf]; omega⟩

end Go.Proofs.YtknkkagapcigfaaDoor
namespace Go.Proofs.YtknkkagapcigfaaDoor
open Go.RowKit WMath

theorem fold_len : (⟨(((List.append (List.append [0, 1, 2, 2, 3, 3, 3, 3, 4, 4, 4, 4, 4, 4, 4, 4, 5, 5, 5, 5, 5, 5, 5, 5, 5, 5, 5, 5, 5, 5, 5, 5, 6, 6, 6, 6, 6, 6, 6, 6, 6, 6, 6, 6, 6, 6, 6, 6, 6, 6, 6, 6, 6, 6, 6, 6, 6, 6, 6, 6, 6, 6, 6, 6] [7, 7, 7, 7, 7, 7, 7, 7, 7, 7, 7, 7, 7, 7, 7, 7, 7, 7, 7, 7, 7, 7, 7, 7, 7, 7, 7, 7, 7, 7, 7, 7, 7, 7, 7, 7, 7, 7, 7, 7, 7, 7, 7, 7, 7, 7, 7, 7, 7, 7, 7, 7, 7, 7, 7, 7, 7, 7, 7, 7, 7, 7, 7, 7]) (List.append [8, 8, 8, 8, 8, 8, 8, 8, 8, 8, 8, 8, 8, 8, 8, 8, 8, 8, 8, 8, 8, 8, 8, 8, 8, 8, 8, 8, 8, 8, 8, 8, 8, 8, 8, 8, 8, 8, 8, 8, 8, 8, 8, 8, 8, 8, 8, 8, 8, 8, 8, 8, 8, 8, 8, 8, 8, 8, 8, 8, 8, 8, 8, 8] [8, 8, 8, 8, 8, 8, 8, 8, 8, 8, 8, 8, 8, 8, 8, 8, 8, 8, 8, 8, 8, 8, 8, 8, 8, 8, 8, 8, 8, 8, 8, 8, 8, 8, 8, 8, 8, 8, 8, 8, 8, 8, 8, 8, 8, 8, 8, 8, 8, 8, 8, 8, 8, 8, 8, 8, 8, 8, 8, 8, 8, 8, 8, 8])) : List UInt8).toArray)⟩ : ByteArray) = Lib.len8tab := by decide +kernel

theorem len_fact {P : Program} (w : World) (t : TypeId) (i : Int) (h : P.underlying t = some .string) (h0 : 0 ≤ i) (h1 : i ≤ 255) :
    (Instr.index t (.string Lib.len8tab) (.int .u8 i)).run P w = .ok (.int .u8 (Lib.bitLen i.toNat : Nat)) w := by
  rw [Lib.run_index_len8tab w t .u8 i h h0 h1, Lib.len8_of i h0 h1]

set_option maxHeartbeats 4000000 in
set_option maxRecDepth 100000 in
theorem len64_int (x : Int) (h0 : 0 ≤ x) (h1 : x ≤ 18446744073709551615) (w : World) :
    Calls Tryd.prog 61 #[.int .u64 x] w fun e w' => e = .returned (.int .i64 (Lib.bitLen x.toNat : Nat)) ∧ w' = w := by
  go_enter Tryd.func61, Tryd.ntmps61
  rw [fold_len]
  by_cases c1 : 4294967296 ≤ x
  · by_cases c2 : 65536 ≤ x / 4294967296
    · by_cases c3 : 256 ≤ x / 4294967296 / 65536
      · have hx : ∀ w, (Instr.index 9 (.string Lib.len8tab) (.int .u8 (x / 4294967296 / 65536 / 256))).run Tryd.prog w = .ok (.int .u8 (Lib.bitLen (x / 4294967296 / 65536 / 256).toNat : Nat)) w := fun w => len_fact w 9 (x / 4294967296 / 65536 / 256) Tryd.underlying9 (by omega) (by omega)
        have l := Lib.bitLen_le8' (x / 4294967296 / 65536 / 256) (by omega) (by omega)
        have s := hide (Lib.bitLen_shift56 x.toNat (by omega) (by omega))
        have e := hide (show (x / 4294967296 / 65536 / 256).toNat = x.toNat / 72057594037927936 by omega)
        go_wp2
        go_ret
        exact ⟨ret_int (by have := s.out; have := e.out; rw [s.out, e.out]; omega), rfl⟩
      · have hx : ∀ w, (Instr.index 9 (.string Lib.len8tab) (.int .u8 (x / 4294967296 / 65536))).run Tryd.prog w = .ok (.int .u8 (Lib.bitLen (x / 4294967296 / 65536).toNat : Nat)) w := fun w => len_fact w 9 (x / 4294967296 / 65536) Tryd.underlying9 (by omega) (by omega)
        have l := Lib.bitLen_le8' (x / 4294967296 / 65536) (by omega) (by omega)
        have s := hide (Lib.bitLen_shift48 x.toNat (by omega) (by omega))
        have e := hide (show (x / 4294967296 / 65536).toNat = x.toNat / 281474976710656 by omega)
        go_wp2
        go_ret
        exact ⟨ret_int (by have := s.out; have := e.out; rw [s.out, e.out]; omega), rfl⟩
    · by_cases c3 : 256 ≤ x / 4294967296
      · have hx : ∀ w, (Instr.index 9 (.string Lib.len8tab) (.int .u8 (x / 4294967296 / 256))).run Tryd.prog w = .ok (.int .u8 (Lib.bitLen (x / 4294967296 / 256).toNat : Nat)) w := fun w => len_fact w 9 (x / 4294967296 / 256) Tryd.underlying9 (by omega) (by omega)
        have l := Lib.bitLen_le8' (x / 4294967296 / 256) (by omega) (by omega)
        have s := hide (Lib.bitLen_shift40 x.toNat (by omega) (by omega))
        have e := hide (show (x / 4294967296 / 256).toNat = x.toNat / 1099511627776 by omega)
        go_wp2
        go_ret
        exact ⟨ret_int (by have := s.out; have := e.out; rw [s.out, e.out]; omega), rfl⟩
      · have hx : ∀ w, (Instr.index 9 (.string Lib.len8tab) (.int .u8 (x / 4294967296))).run Tryd.prog w = .ok (.int .u8 (Lib.bitLen (x / 4294967296).toNat : Nat)) w := fun w => len_fact w 9 (x / 4294967296) Tryd.underlying9 (by omega) (by omega)
        have l := Lib.bitLen_le8' (x / 4294967296) (by omega) (by omega)
        have s := hide (Lib.bitLen_shift32 x.toNat (by omega) (by omega))
        have e := hide (show (x / 4294967296).toNat = x.toNat / 4294967296 by omega)
        go_wp2
        go_ret
        exact ⟨ret_int (by have := s.out; have := e.out; rw [s.out, e.out]; omega), rfl⟩
  · by_cases c2 : 65536 ≤ x
    · by_cases c3 : 256 ≤ x / 65536
      · have hx : ∀ w, (Instr.index 9 (.string Lib.len8tab) (.int .u8 (x / 65536 / 256))).run Tryd.prog w = .ok (.int .u8 (Lib.bitLen (x / 65536 / 256).toNat : Nat)) w := fun w => len_fact w 9 (x / 65536 / 256) Tryd.underlying9 (by omega) (by omega)
        have l := Lib.bitLen_le8' (x / 65536 / 256) (by omega) (by omega)
        have s := hide (Lib.bitLen_shift24 x.toNat (by omega) (by omega))
        have e := hide (show (x / 65536 / 256).toNat = x.toNat / 16777216 by omega)
        go_wp2
        go_ret
        exact ⟨ret_int (by have := s.out; have := e.out; rw [s.out, e.out]; omega), rfl⟩
      · have hx : ∀ w, (Instr.index 9 (.string Lib.len8tab) (.int .u8 (x / 65536))).run Tryd.prog w = .ok (.int .u8 (Lib.bitLen (x / 65536).toNat : Nat)) w := fun w => len_fact w 9 (x / 65536) Tryd.underlying9 (by omega) (by omega)
        have l := Lib.bitLen_le8' (x / 65536) (by omega) (by omega)
        have s := hide (Lib.bitLen_shift16 x.toNat (by omega) (by omega))
        have e := hide (show (x / 65536).toNat = x.toNat / 65536 by omega)
        go_wp2
        go_ret
        exact ⟨ret_int (by have := s.out; have := e.out; rw [s.out, e.out]; omega), rfl⟩
    · by_cases c3 : 256 ≤ x
      · have hx : ∀ w, (Instr.index 9 (.string Lib.len8tab) (.int .u8 (x / 256))).run Tryd.prog w = .ok (.int .u8 (Lib.bitLen (x / 256).toNat : Nat)) w := fun w => len_fact w 9 (x / 256) Tryd.underlying9 (by omega) (by omega)
        have l := Lib.bitLen_le8' (x / 256) (by omega) (by omega)
        have s := hide (Lib.bitLen_shift8 x.toNat (by omega) (by omega))
        have e := hide (show (x / 256).toNat = x.toNat / 256 by omega)
        go_wp2
        go_ret
        exact ⟨ret_int (by have := s.out; have := e.out; rw [s.out, e.out]; omega), rfl⟩
      · have hx : ∀ w, (Instr.index 9 (.string Lib.len8tab) (.int .u8 (x))).run Tryd.prog w = .ok (.int .u8 (Lib.bitLen (x).toNat : Nat)) w := fun w => len_fact w 9 (x) Tryd.underlying9 (by omega) (by omega)
        have l := Lib.bitLen_le8' (x) (by omega) (by omega)
        go_wp2
        go_ret
        exact ⟨ret_int (by omega), rfl⟩

theorem len64_any (x : Nat) (hx : x < 18446744073709551616) (w : World) :
    Calls Tryd.prog 61 #[.int .u64 x] w fun e w' => e = .returned (.int .i64 (Lib.bitLen x : Nat)) ∧ w' = w := by
  have h := len64_int (x : Int) (by omega) (by omega) w
  rw [Int.toNat_natCast] at h
  exact h

theorem len_any (x : Nat) (hx : x < 18446744073709551616) (w : World) :
    Calls Tryd.prog 79 #[.int .u64 x] w fun e w' => e = .returned (.int .i64 (Lib.bitLen x : Nat)) ∧ w' = w := by
  go_enter Tryd.func79, Tryd.ntmps79
  go_wp2_with (go_at_call 61; refine (len64_any _ hx _).mono ?_; rintro e w' ⟨rfl, rfl⟩)
  go_ret
  exact ⟨rfl, rfl⟩

theorem al_add (w : World) : Calls Tryd.prog 95 #[.int .u64 18446744073709551615, .int .u64 0, .bool true] w fun e w' => e = .returned (.tuple #[.int .u64 0, .bool true]) ∧ w' = w :=
  (add_any 18446744073709551615 0 true (by omega) (by omega) w).mono (fun e w' h => ⟨by rw [h.1]; exact ret_ib (by decide) (by decide), h.2⟩)
theorem al_mul (w : World) : Calls Tryd.prog 96 #[.int .u64 9223372036854775808, .int .u64 4] w fun e w' => e = .returned (.tuple #[.int .u64 2, .int .u64 0]) ∧ w' = w :=
  (mul_any 9223372036854775808 4 (by omega) (by omega) w).mono (fun e w' h => ⟨by rw [h.1]; exact ret_ii (by decide) (by decide), h.2⟩)
theorem al_len (w : World) : Calls Tryd.prog 79 #[.int .u64 8] w fun e w' => e = .returned (.int .i64 4) ∧ w' = w :=
  (len_any 8 (by omega) w).mono (fun e w' h => ⟨by rw [h.1]; exact ret_int (by decide +kernel), h.2⟩)
end Go.Proofs.YtknkkagapcigfaaDoor
namespace Go.Proofs.YtknkkagapcigfaaDoor
open Go.RowKit WMath

theorem len_is (x l : Nat) (hx : x < 18446744073709551616) (hl : blen x = l) (w : World) :
    Calls Tryd.prog 79 #[.int .u64 x] w fun e w' => e = .returned (.int .i64 (l : Nat)) ∧ w' = w := by
  subst hl; rw [← bitLen_blen x hx]; exact len_any x hx w

end Go.Proofs.YtknkkagapcigfaaDoor
namespace Go.Proofs.YtknkkagapcigfaaDoor
open Go.RowKit WMath

theorem add_is (a b : Nat) (c : Bool) (s : Nat) (o : Bool) (ha : a < 18446744073709551616) (hb : b < 18446744073709551616) (hs : (a + b + c.toNat) % 18446744073709551616 = s) (ho : decide (18446744073709551616 ≤ a + b + c.toNat) = o) (w : World) :
    Calls Tryd.prog 95 #[.int .u64 a, .int .u64 b, .bool c] w fun e w' => e = .returned (.tuple #[.int .u64 (s : Nat), .bool o]) ∧ w' = w := by
  subst hs; subst ho; exact add_any a b c ha hb w
theorem mul_is (x y h l : Nat) (hx : x < 18446744073709551616) (hy : y < 18446744073709551616) (hh : x * y / 18446744073709551616 = h) (hl : x * y % 18446744073709551616 = l) (w : World) :
    Calls Tryd.prog 96 #[.int .u64 x, .int .u64 y] w fun e w' => e = .returned (.tuple #[.int .u64 (h : Nat), .int .u64 (l : Nat)]) ∧ w' = w := by
  subst hh; subst hl; exact mul_any x y hx hy w

theorem cw12z : #[Value.int .u64 0, .int .u64 0, .int .u64 0, .int .u64 0, .int .u64 0, .int .u64 0, .int .u64 0, .int .u64 0, .int .u64 0, .int .u64 0, .int .u64 0, .int .u64 0] = cw 12 0 := by
  show _ = #[_, _, _, _, _, _, _, _, _, _, _, _]
  simp [wd_zero]

theorem mul_over (n m P x2 : Nat) (hP : P = n * m) (h2 : x2 = P / Q) : (!decide (x2 = 0)) = decide (Q ≤ n * m) := by
  have := Q_pos
  by_cases h : Q ≤ n * m
  · have : 0 < P / Q := Nat.div_pos (by omega) Q_pos
    rw [decide_eq_true h, decide_eq_false (by omega)]; rfl
  · rw [h2, hP, Nat.div_eq_of_lt (by omega), decide_eq_false h]; rfl

theorem cw_take (S L o x : Nat) (hf : o + 6 ≤ S) (hx : ∀ j, j < 6 → wd x j = wd L (o + j)) (j : Nat) (v : Value) (hv : (cw 6 x).toList[j]? = some v) : (cw S L)[o + j]? = some v := by
  have hj : j < 6 := by
    have := (List.getElem?_eq_some_iff.1 hv).1
    simpa [cw_size] using this
  rw [cw_at S L (o + j) (by omega), ← hx j hj, ← cw_at 6 x j hj, ← hv]
  simp

theorem step_copy6 {P : Program} {ops : Array Oper} {o : Oper} {a : Act} {w : World} {K : Act → World → Prop} {Q : Exit → Act → World → Prop} {E : Prop} (hgd : o.guard = none) (d s : Operand) (dT sT : TypeId)
    (ho : o.op = .call { callee := .builtin .copy, args := #[d, s], argTypes := #[dT, sT] }) (elem : TypeId) (hu : P.underlying dT = some (.slice elem)) (hsz : (P.info? elem).map (·.size) = some 1)
    (g gs offs sCap : Nat) (hd : a.eval d = .slice (some ⟨g, 0, none⟩) 6 6) (hs : a.eval s = .slice (some ⟨gs, offs, none⟩) 6 sCap)
    (y L x S : Nat) (t t' : TypeId) (hg : w.heap[g]? = some (.cells (cw 6 y) t)) (hsrc : w.heap[gs]? = some (.cells (cw S L) t')) (fit : offs + 6 ≤ S) (hx : ∀ j, j < 6 → wd x j = wd L (offs + j))
    (h : ∀ w', w' = w.setRow g (cw 6 x) → K (a.put o.dst (goInt 6)) w') :
    if Region.wanted o (yielded ops a.tmps) = true then Oper.wp P o a w K Q else E := by
  have hw : Region.wanted o (yielded ops a.tmps) = true := by simp [Region.wanted, hgd]
  rw [if_pos hw]
  have hlen : (cw 6 x).toList.length = 6 := by simp [cw_size]
  have hadd : ∀ j, (⟨gs, offs, none⟩ : Addr).add j = ⟨gs, offs + j, none⟩ := fun j => by unfold Addr.add; split <;> simp_all
  have hrun := run_copy_row (P := P) w dT sT o.type elem g 0 6 6 ⟨gs, offs, none⟩ 6 sCap (cw 6 y) t (cw 6 x).toList hu hsz hg (by rw [hlen]; rfl)
    (fun j v hv => by rw [hadd, cell_of_row w gs (offs + j) _ _ _ hsrc]; exact cw_take S L offs x fit hx j v hv) (by rw [hlen, cw_size]; decide)
    (fun v hv => (Array.all_eq_true_iff_forall_mem.1 (cw_oneCell 6 x)) v (by simpa using hv))
  rw [hlen] at hrun
  have e0 : (cw 6 y).toList.drop (0 + 6) = [] := List.drop_eq_nil_of_le (by simp [cw_size])
  rw [e0, List.take_zero, List.nil_append, List.append_nil, Array.toArray_toList] at hrun
  unfold Oper.wp
  simp [execOp, ho, resolve, invoke, builtin, hd, hs, hrun, Result.andThen]
  exact h _ rfl

end Go.Proofs.YtknkkagapcigfaaDoor
namespace Go.Proofs.YtknkkagapcigfaaDoor
open Go.RowKit WMath

/-- Bytes, as cells. -/
def cb (l : List UInt8) : Array Value := (l.map fun b => Value.int .u8 (b.toNat : Int)).toArray

theorem cb_at (l : List UInt8) (k : Nat) (b : UInt8) (h : l[k]? = some b) : (cb l)[k]? = some (.int .u8 (b.toNat : Int)) := by simp [cb, h]
theorem cb_size (l : List UInt8) : (cb l).size = l.length := by simp [cb]
theorem cb_set (l : List UInt8) (k : Nat) (b : UInt8) : (cb l).setIfInBounds k (.int .u8 (b.toNat : Int)) = cb (l.set k b) := by
  simp [cb, List.map_set]
theorem cb_made (L : Nat) : madeCells #[.int .u8 0] L = cb (List.replicate L 0) := by
  apply Array.ext_getElem?
  intro i
  by_cases h : i < L
  · rw [cb_at _ i 0 (by simp [h])]
    simp [madeCells, h, Nat.mod_one]
  · rw [Array.getElem?_eq_none (by rw [size_madeCells]; omega), Array.getElem?_eq_none (by rw [cb_size]; simp; omega)]

/-- The first k letters written, noughts behind. -/
def wt (L n k : Nat) : List UInt8 := (hxs L n).take k ++ List.replicate (L - k) 0
theorem wt_zero (L n : Nat) : wt L n 0 = List.replicate L 0 := by simp [wt]
theorem wt_full (L n : Nat) : wt L n L = hxs L n := by simp [wt, List.take_of_length_le (Nat.le_of_eq (hxs_len L n))]
theorem wt_len (L n k : Nat) (h : k ≤ L) : (wt L n k).length = L := by simp [wt, hxs_len]; omega
theorem wt_step (L n k : Nat) (h : k < L) : (wt L n k).set k (dg (n / 16 ^ (L - 1 - k) % 16)) = wt L n (k + 1) := by
  apply List.ext_getElem?
  intro i
  rw [List.getElem?_set, wt_len L n k (by omega)]
  have a : ∀ k, k ≤ L → (wt L n k)[i]? = if i < k then (hxs L n)[i]? else if i < L then some 0 else none := by
    intro k hk
    unfold wt
    rw [List.getElem?_append, List.length_take, hxs_len, Nat.min_eq_left hk]
    split
    · rename_i h1; rw [List.getElem?_take, if_pos h1]
    · rename_i h1; rw [List.getElem?_replicate]
      by_cases h2 : i < L
      · rw [if_pos h2, if_pos (by omega)]
      · rw [if_neg h2, if_neg (by omega)]
  rw [a k (by omega), a (k + 1) (by omega)]
  by_cases e : k = i
  · subst e
    rw [if_pos rfl, if_pos h, if_pos (by omega), hxs_at L n k h]
  · rw [if_neg e]
    by_cases e2 : i < k
    · rw [if_pos e2, if_pos (by omega)]
    · rw [if_neg e2, if_neg (show ¬ i < k + 1 by omega)]

theorem fz {w : World} {b k : Nat} {c : Array Value} {t : TypeId} (h : w.heap[b]? = some (.cells c t)) : w.frozen? ⟨b, k, none⟩ = false := by simp [World.frozen?, h]
theorem setCell_row {w : World} {b k : Nat} {c : Array Value} {t : TypeId} {v : Value} (h : w.heap[b]? = some (.cells c t)) : (w.setCell ⟨b, k, none⟩ v).heap[b]? = some (.cells (c.setIfInBounds k v) t) := by
  simp [World.setCell, Array.getElem?_modify, h]
theorem setCell_other {w : World} {b b' k : Nat} {v : Value} (h : b ≠ b') : (w.setCell ⟨b, k, none⟩ v).heap[b']? = w.heap[b']? := by
  simp [World.setCell, Array.getElem?_modify, h]
theorem cb_cell {w : World} {b k : Nat} {l : List UInt8} {t : TypeId} {x : UInt8} (h : w.heap[b]? = some (.cells (cb l) t)) (hk : l[k]? = some x) : w.cell? ⟨b, k, none⟩ = some (.int .u8 (x.toNat : Int)) := by
  rw [cell_of_row w b k _ _ _ h, cb_at l k x hk]
theorem fold_bytes : ∀ (l : List UInt8) (a : Array UInt8), ((l.map fun b => (b.toNat : Int)).foldl (fun r n => r.push (UInt8.ofNat n.toNat)) (⟨a⟩ : ByteArray)) = ⟨a ++ l.toArray⟩
  | [], a => by simp
  | x :: l, a => by
    have := fold_bytes l (a.push x)
    simp only [List.map_cons, List.foldl_cons, Int.toNat_natCast, UInt8.ofNat_toNat]
    rw [show (ByteArray.mk a).push x = ⟨a.push x⟩ from rfl, this]
    simp
theorem str_of {w : World} {b c : Nat} {l : List UInt8} {t : TypeId} (h : w.heap[b]? = some (.cells (cb l) t)) :
    (convert 46 9 (.slice (some ⟨b, 0, none⟩) l.length c)).run Tryd.prog w = .ok (.string ⟨l.toArray⟩) w := by
  rw [run_convert_bytes_string w 46 9 5 _ _ _ Tryd.underlying46 Tryd.underlying5 Tryd.underlying9]
  have hl := run_loadCells_list (P := Tryd.prog) w ⟨b, 0, none⟩ (l.map fun x => Value.int .u8 (x.toNat : Int)) (fun j v hv => by
    have hadd : (⟨b, 0, none⟩ : Addr).add j = ⟨b, j, none⟩ := by unfold Addr.add; split <;> simp_all
    rw [hadd, cell_of_row w b j _ _ _ h]
    simpa [cb] using hv)
  rw [List.length_map] at hl
  rw [run_bytesToString (P := Tryd.prog) w ⟨b, 0, none⟩ l.length c (l.map fun x => (x.toNat : Int)) (by rw [hl]; simp), show ByteArray.empty = ⟨#[]⟩ from rfl, fold_bytes]
  simp

theorem dig_fact (w : World) (d : Nat) (h : d < 16) :
    (Instr.index 9 (.string ⟨#[48, 49, 50, 51, 52, 53, 54, 55, 56, 57, 97, 98, 99, 100, 101, 102]⟩) (.int .u64 (d : Nat))).run Tryd.prog w = .ok (.int .u8 ((dg d).toNat : Int)) w := by
  have hd : d = 0 ∨ d = 1 ∨ d = 2 ∨ d = 3 ∨ d = 4 ∨ d = 5 ∨ d = 6 ∨ d = 7 ∨ d = 8 ∨ d = 9 ∨ d = 10 ∨ d = 11 ∨ d = 12 ∨ d = 13 ∨ d = 14 ∨ d = 15 := by omega
  rcases hd with rfl | rfl | rfl | rfl | rfl | rfl | rfl | rfl | rfl | rfl | rfl | rfl | rfl | rfl | rfl | rfl <;> (rw [run_index_string (P := Tryd.prog) w 9 _ _ _ Tryd.underlying9]; rfl)

end Go.Proofs.YtknkkagapcigfaaDoor
namespace Go.Proofs.YtknkkagapcigfaaDoor
open Go.RowKit WMath

theorem Q_big : 1000000 < Q := by
  obtain ⟨L, hL, hQ⟩ := Q_of
  rw [hQ]
  have : 2 ^ 20 ≤ 2 ^ (64 * L) := Nat.pow_le_pow_right (by decide) (by omega)
  have e : (2 : Nat) ^ 20 = 1048576 := by decide
  omega
theorem tx255 : tx 255 = [102, 102] := by
  rw [tx_big 255 (by decide), tx_small (255 / 16) (by decide)]
  decide
end Go.Proofs.YtknkkagapcigfaaDoor
namespace Go.Proofs.YtknkkagapcigfaaDoor
open Go.RowKit WMath

/-- 128 bits, as a value: the upper word and the lower one. -/
def bitsV (b : Nat × Nat) : Value := .agg #[.int .u64 (b.1 : Nat), .int .u64 (b.2 : Nat)]

theorem set0 (x : Nat) (hx : x < 18446744073709551616) : (cw 6 0).setIfInBounds 0 (.int .u64 (x : Nat)) = cw 6 x := by
  rw [cw_set 6 0 0 x (by omega) hx, setw_low 0 0 x (by decide)]; simp
theorem set1 (x y : Nat) (hx : x < 18446744073709551616) (hy : y < 18446744073709551616) : (cw 6 x).setIfInBounds 1 (.int .u64 (y : Nat)) = cw 6 (x + 18446744073709551616 * y) := by
  rw [cw_set 6 x 1 y (by omega) hy, setw_low x 1 y (by rw [show 2 ^ (64 * 1) = 18446744073709551616 by decide]; exact hx)]
theorem bits_ltQ (x y : Nat) (hx : x < 18446744073709551616) (hy : y < 18446744073709551616) : x + 18446744073709551616 * y < Q := by
  obtain ⟨L, hL, hQ⟩ := Q_of
  rw [hQ]
  have h := push_lt x 1 y (by rw [show 2 ^ (64 * 1) = 18446744073709551616 by decide]; exact hx) hy
  have h2 : 2 ^ (64 * (1 + 1)) ≤ 2 ^ (64 * L) := Nat.pow_le_pow_right (by decide) (by omega)
  rw [show 2 ^ (64 * 1) = 18446744073709551616 by decide] at h
  omega

def cmpv (n m : Nat) : Int := if n = m then 0 else if n < m then -1 else 1

theorem cmp_step (n m j : Nat) (h : n / 2 ^ (64 * (j + 1)) = m / 2 ^ (64 * (j + 1))) :
    (wd n j < wd m j → n < m) ∧ (wd n j = wd m j → n / 2 ^ (64 * j) = m / 2 ^ (64 * j)) := by
  have e : ∀ x, x / 2 ^ (64 * j) = wd x j + 18446744073709551616 * (x / 2 ^ (64 * (j + 1))) := fun x => by
    unfold wd
    rw [pow64, ← Nat.div_div_eq_div_mul]
    omega
  refine ⟨fun h1 => ?_, fun h1 => by rw [e n, e m, h, h1]⟩
  have h2 : n / 2 ^ (64 * j) < m / 2 ^ (64 * j) := by rw [e n, e m, h]; omega
  apply Nat.lt_of_not_le
  intro h3
  have := Nat.div_le_div_right (c := 2 ^ (64 * j)) h3
  omega

theorem hi_zero (n k : Nat) : ∀ d, (∀ j, k ≤ j → j < k + d → wd n j = 0) → n % 2 ^ (64 * (k + d)) = n % 2 ^ (64 * k)
  | 0, _ => rfl
  | d + 1, h => by
    rw [← Nat.add_assoc, mod_wd, h (k + d) (by omega) (by omega), Nat.mul_zero, Nat.add_zero]
    exact hi_zero n k d (fun j h1 h2 => h j h1 (by omega))
theorem two_words (n : Nat) (hn : n < Q) : (wd n 0 + 18446744073709551616 * wd n 1 = n) ↔ (wd n 2 = 0 ∧ wd n 3 = 0 ∧ wd n 4 = 0 ∧ wd n 5 = 0) := by
  have hp : (2 : Nat) ^ (64 * 1) = 18446744073709551616 := by decide
  have h0 : ∀ a b j, a < 18446744073709551616 → b < 18446744073709551616 → 2 ≤ j → wd (a + 18446744073709551616 * b) j = 0 := fun a b j ha hb hj => by
    have := push_lt a 1 b (by rw [hp]; exact ha) hb
    rw [hp] at this
    exact wd_high this hj
  constructor
  · intro h
    rw [← h]
    exact ⟨h0 _ _ 2 (wd_lt _ _) (wd_lt _ _) (by omega), h0 _ _ 3 (wd_lt _ _) (wd_lt _ _) (by omega), h0 _ _ 4 (wd_lt _ _) (wd_lt _ _) (by omega), h0 _ _ 5 (wd_lt _ _) (wd_lt _ _) (by omega)⟩
  · rintro ⟨h2, h3, h4, h5⟩
    obtain ⟨K, hK⟩ : ∃ K : Nat, K = 1 := ⟨1, rfl⟩
    have e1 : wd n 0 + 18446744073709551616 * wd n 1 = n % 2 ^ (64 * (K + 1)) := by
      rw [mod_wd, hK, hp, show n % 18446744073709551616 = wd n 0 by unfold wd; simp]
    have c := hi_zero n (K + 1) 4 (fun j g1 g2 => by
      have : j = 2 ∨ j = 3 ∨ j = 4 ∨ j = 5 := by omega
      rcases this with rfl | rfl | rfl | rfl <;> assumption)
    rw [wlow n (K + 1 + 4) hn (by omega)] at c
    rw [e1, ← c]

theorem nz_false {x : Nat} (h : x = 0) : (((x : Nat) : Int) != 0) = false := by subst h; rfl
theorem nz_true {x : Nat} (h : ¬ x = 0) : (((x : Nat) : Int) != 0) = true := by simp; omega

end Go.Proofs.YtknkkagapcigfaaDoor
namespace Go.Proofs.YtknkkagapcigfaaDoor
open Go.RowKit WMath

end Go.Proofs.YtknkkagapcigfaaDoor
namespace Go.Proofs.YtknkkagapcigfaaDoor
open Go.RowKit WMath

theorem wrap_i64_is (n : Int) (h1 : -9223372036854775808 ≤ n) (h2 : n ≤ 9223372036854775807) : IntKind.i64.wrap n = n := by
  simp [IntKind.wrap, IntKind.bits, IntKind.signed]; omega

theorem less_is (r s : Nat) (hr : r < Q) (h : s ≤ r) : (r + Q - s) % Q = r - s := by
  rw [show r + Q - s = (r - s) + Q by omega, Nat.add_mod_right, Nat.mod_eq_of_lt (by omega)]

end Go.Proofs.YtknkkagapcigfaaDoor
namespace Go.Proofs.YtknkkagapcigfaaDoor
open Go.RowKit WMath

theorem c8_made (L : Nat) : madeCells #[.int .u8 0] L = c8 L 0 := by
  apply Array.ext_getElem?
  intro i
  by_cases h : i < L
  · rw [c8_at L 0 i h, d8_zero]
    simp [madeCells, h, Nat.mod_one]
  · rw [Array.getElem?_eq_none (by rw [size_madeCells]; omega), Array.getElem?_eq_none (by rw [c8_size]; omega)]
theorem c8_cell {w : World} {b k L n : Nat} {t : TypeId} (h : w.heap[b]? = some (.cells (c8 L n) t)) (hk : k < L) : w.cell? ⟨b, k, none⟩ = some (.int .u8 (d8 n k : Nat)) := by
  rw [cell_of_row w b k _ _ _ h, c8_at L n k hk]
theorem c8_make (L : Nat) (h : L ≤ 1000000) (w : World) : (Instr.makeSlice 46 (.int .i64 (L : Int)) (.int .i64 (L : Int))).run Tryd.prog w = .ok (.slice (some ⟨w.heap.size, 0, none⟩) L L) (w.alloc (.cells (c8 L 0) 5)) := by
  rw [← c8_made]
  exact run_make_row' (P := Tryd.prog) 46 5 (.int .u8 0) 1 Tryd.underlying46 (by kernel_rfl) rfl .i64 .i64 L (by omega) (by omega) w
theorem c8_makeI (L : Nat) (k : Int) (hk : k = (L : Int)) (h : L ≤ 1000000) (w : World) : (Instr.makeSlice 46 (.int .i64 k) (.int .i64 k)).run Tryd.prog w = .ok (.slice (some ⟨w.heap.size, 0, none⟩) L L) (w.alloc (.cells (c8 L 0) 5)) := by
  subst hk; exact c8_make L h w
/-- A row of bytes as a string. -/
theorem c8_str {w : World} {b c L X : Nat} {t : TypeId} (v : ByteArray) (h : w.heap[b]? = some (.cells (c8 L X) t)) (hL : v.size = L) (hv : ∀ (k : Nat) (h1 : k < v.size), (v[k]'h1).toNat = d8 X k) :
    (convert 46 9 (.slice (some ⟨b, 0, none⟩) L c)).run Tryd.prog w = .ok (.string v) w := by
  have e : c8 L X = cb v.data.toList := by
    apply Array.ext_getElem?
    intro i
    by_cases hi : i < L
    · have hi2 : i < v.size := by rw [hL]; exact hi
      have hi3 : i < v.data.toList.length := by rw [Array.length_toList]; exact hi2
      rw [c8_at L X i hi, cb_at _ i (v[i]'hi2) (by rw [List.getElem?_eq_getElem hi3]; rfl), hv i hi2]
    · rw [Array.getElem?_eq_none (by rw [c8_size]; omega), Array.getElem?_eq_none (by rw [cb_size, Array.length_toList]; show v.size ≤ i; omega)]
  rw [e] at h
  have := str_of (c := c) h
  rw [Array.length_toList, show v.data.size = L from hL] at this
  simpa using this

theorem idx_run (s : ByteArray) (k : Nat) (i : Int) (d : Nat) (hi : i = (k : Int)) (hk : k < s.size) (hd : (s[k]'hk).toNat = d) (w : World) :
    (Instr.index 9 (.string s) (.int .i64 i)).run Tryd.prog w = .ok (.int .u8 (d : Nat)) w := by
  subst hi hd
  rw [run_index_string (P := Tryd.prog) w 9 s _ _ Tryd.underlying9, dif_pos ⟨by omega, by omega⟩]
  simp

theorem nat_at (n i d : Nat) (s : ByteArray) (hs : nbA n = s) (hd : d8 n i = d) (hn : nl n ≤ 100000) (w : World) :
    Calls Tryd.prog 53 #[.string s, .int .i64 (i : Nat)] w fun e w' => e = .returned (.int .i64 (d : Nat)) ∧ w' = w := by
  obtain ⟨L, hL⟩ : ∃ L, nl n = L := ⟨_, rfl⟩
  have hz : s.size = L := by rw [← hs, nbA_size, hL]
  rw [hL] at hn
  by_cases h : L ≤ i
  · have e : d = 0 := by rw [← hd]; exact d8_nl n i (by omega)
    subst e
    have h1 : decide (L ≤ i) = true := by rw [decide_eq_true_iff]; omega
    clear hs hd hL h
    go_enter Tryd.func53, Tryd.ntmps53
    go_wp2
    go_ret
    exact ⟨rfl, rfl⟩
  · have h1 : decide (L ≤ i) = false := by rw [decide_eq_false_iff_not]; omega
    have hk : L - 1 - i < s.size := by omega
    have hg : (s[L - 1 - i]'hk).toNat = d := by
      subst hs
      rw [nbA_get, hL, show L - 1 - (L - 1 - i) = i by omega, hd]
    have hx := idx_run s (L - 1 - i) ((L : Int) - 1 - (i : Int)) d (by omega) hk hg
    have n1 : IntKind.i64.wrap ((L : Int) - 1) = (L : Int) - 1 := wrap_i64_is _ (by omega) (by omega)
    have n2 : IntKind.i64.wrap ((L : Int) - 1 - (i : Int)) = (L : Int) - 1 - (i : Int) := wrap_i64_is _ (by omega) (by omega)
    have d256 : d < 256 := by rw [← hd]; exact d8_lt n i
    clear hs hd hL h hg hk
    go_enter Tryd.func53, Tryd.ntmps53
    go_wp2
    go_ret
    exact ⟨rfl, rfl⟩
end Go.Proofs.YtknkkagapcigfaaDoor
namespace Go.Proofs.YtknkkagapcigfaaDoor
open Go.RowKit WMath

theorem fit_low (X m : Nat) (h : X < 2 ^ (8 * (m + 1))) (hd : d8 X m = 0) : X < 2 ^ (8 * m) := by
  have := mod_d8 X m
  rw [Nat.mod_eq_of_lt h, hd, Nat.mul_zero, Nat.add_zero] at this
  rw [this]
  exact Nat.mod_lt _ (Nat.two_pow_pos _)

set_option maxHeartbeats 1000000 in
theorem nat_fit (L X b c : Nat) (v : ByteArray) (hL : L ≤ 100000) (hX : X < 2 ^ (8 * L)) (hv : nbA X = v) (w : World) (row : w.heap[b]? = some (.cells (c8 L X) 5)) :
    Calls Tryd.prog 41 #[.slice (some ⟨b, 0, none⟩) L c] w fun e w' => e = .returned (.string v) ∧ Below w.heap.size w w' := by
  have hb : b < w.heap.size := (Array.getElem?_eq_some_iff.1 row).1
  have HV := box hv
  have HX := box hX
  clear hv hX
  go_enter Tryd.func41, Tryd.ntmps41
  go_wp2
  go_loop [3] (fun iv => ∃ k : Nat, k ≤ L ∧ iv = .int .i64 k ∧ Box (X < 2 ^ (8 * k))) (fun iv => (intOf iv).toNat)
  case atStart => exact ⟨L, by omega, rfl, HX⟩
  case round =>
    obtain ⟨m, hm, rfl, HM⟩ := hrel
    have hmk := c8_make m (by omega)
    by_cases hst : m ≠ 0 ∧ d8 X (m - 1) = 0
    · obtain ⟨k, rfl⟩ : ∃ k, m = k + 1 := ⟨m - 1, by omega⟩
      have hd : d8 X k = 0 := hst.2
      have c0 := c8_cell row (show k < L by omega)
      rw [hd] at c0
      have NX := box (fit_low X k HM.out hd)
      clear hst hmk
      go_wp2
      go_round
      case rel => exact ⟨k, by omega, by go_num, NX⟩
      case measure => simp [intOf] <;> omega
    · have hnl : nl X = m := nl_is X m HM.out (by omega)
      have HN := box hnl
      have hcase : decide (0 < m) = false ∨ (decide (0 < m) = true ∧ 0 < m ∧ ((d8 X (m - 1) : Int) == 0) = false) := by
        by_cases e : m = 0
        · left; rw [decide_eq_false_iff_not]; omega
        · right
          refine ⟨by rw [decide_eq_true_iff]; omega, by omega, ?_⟩
          simp only [beq_eq_false_iff_ne]
          omega
      clear hst hnl
      rcases hcase with h0 | ⟨h0, h1, hd⟩
      all_goals
        try (have c0 := c8_cell row (show m - 1 < L by omega))
        go_wp2
        clear hmk h0
        try (clear hd c0)
        go_loopw [5] (fun iv wr => ∃ (i Y : Nat), i ≤ m ∧ iv = .int .i64 i ∧ wr.heap[w.heap.size]? = some (.cells (c8 m Y) 5) ∧ Below w.heap.size w wr ∧ Box (∀ j, j < m → m - 1 - i < j + 1 → (i = 0 → False) → (m - 1 - j < i) → d8 Y j = d8 X (m - 1 - j))) (fun iv _ => m - (intOf iv).toNat)
        case atStart => exact ⟨0, 0, by omega, rfl, heap_alloc_last _ _, (Below.refl _ _).alloc (Nat.le_refl _) _, box (fun j _ _ h => absurd rfl h)⟩
        case round =>
          obtain ⟨i, Y, hi, rfl, r0, hbw, HY⟩ := hrel
          by_cases hlt : i < m
          · have rb : wr.heap[b]? = some (.cells (c8 L X) 5) := by rw [hbw.block b hb]; exact row
            have c1 := c8_cell rb (show i < L by omega)
            have c2 := c8_cell r0 (show m - 1 - i < m by omega)
            have f0 := fz (k := m - 1 - i) r0
            have hx := d8_lt X i
            have RS : Box ((wr.setCell ⟨w.heap.size, m - 1 - i, none⟩ (.int .u8 ((d8 X i : Nat) : Int))).heap[w.heap.size]? = some (.cells (c8 m (set8 Y (m - 1 - i) (d8 X i))) 5)) := box (by rw [setCell_row r0, c8_seti m Y (m - 1 - i) _ _ (by omega) hx rfl])
            have NY : Box (∀ j, j < m → m - 1 - (i + 1) < j + 1 → (i + 1 = 0 → False) → (m - 1 - j < i + 1) → d8 (set8 Y (m - 1 - i) (d8 X i)) j = d8 X (m - 1 - j)) := box (fun j hj _ _ hji => by
              rw [d8_set8 _ _ _ _ hx]
              by_cases e : j = m - 1 - i
              · rw [if_pos e, e, show m - 1 - (m - 1 - i) = i by omega]
              · rw [if_neg e]
                exact HY.out j hj (by omega) (by omega) (by omega))
            have t1 : ((m : Int) - 1 - (i : Int)).toNat = m - 1 - i := by omega
            go_wp2
            go_roundw
            case rel => exact ⟨i + 1, _, by omega, by go_num, RS.out, hbw.setCell (Nat.le_refl _) _, NY⟩
            case measure => simp [intOf] <;> omega
          · obtain rfl : i = m := by omega
            have hsv := c8_str (c := i) v r0 (by rw [← HV.out, nbA_size]; exact HN.out) (fun k hk => by
              have hz : v.size = i := by rw [← HV.out, nbA_size]; exact HN.out
              have e := HY.out k (by omega) (by omega) (by omega) (by omega)
              rw [e]
              have hV := HV.out
              subst hV
              rw [nbA_get, HN.out])
            go_wp2
            go_ret
            exact ⟨rfl, hbw⟩

/-- Whether a string is that of a number of at most 16384 bytes. -/
def mayB (s : ByteArray) : Bool := decide (s.size ≤ 16384) && (decide (s.size = 0) || decide (∃ h : 0 < s.size, (s[0]'h).toNat ≠ 0))

theorem toList_len (s : ByteArray) : s.toList.length = s.size := by rw [ByteArray.toList_eq, Array.length_toList]; rfl
theorem eq_empty (s : ByteArray) : (s.toList == []) = decide (s.size = 0) := by
  rw [← toList_len]
  cases s.toList with
  | nil => rfl
  | cons x l => simp

theorem nat_may (s : ByteArray) (o : Bool) (ho : mayB s = o) (w : World) :
    Calls Tryd.prog 13 #[.string s] w fun e w' => e = .returned (.bool o) ∧ w' = w := by
  have d2 := eq_empty s
  by_cases h1 : s.size ≤ 16384
  · have d1 : decide ((s.size : Int) ≤ 16384) = true := by rw [decide_eq_true_iff]; omega
    by_cases h2 : s.size = 0
    · have e : o = true := by rw [← ho]; unfold mayB; rw [decide_eq_true h1, decide_eq_true h2]; rfl
      subst e
      rw [decide_eq_true h2] at d2
      clear h1 h2 ho
      go_enter Tryd.func13, Tryd.ntmps13
      go_wp2
      go_ret
      exact ⟨rfl, rfl⟩
    · rw [decide_eq_false h2] at d2
      have hp : 0 < s.size := by omega
      obtain ⟨x, hx⟩ : ∃ x, (s[0]'hp).toNat = x := ⟨_, rfl⟩
      have e : ((x : Int) != 0) = o := by
        rw [← ho]; unfold mayB
        rw [decide_eq_true h1, decide_eq_false h2, Bool.true_and, Bool.false_or]
        by_cases h0 : x = 0
        · rw [decide_eq_false (fun ⟨a, b⟩ => b (hx.trans h0)), h0]; rfl
        · rw [decide_eq_true ⟨hp, fun c => h0 (hx.symm.trans c)⟩]
          simp; omega
      have hi := idx_run s 0 0 x rfl hp hx
      clear h1 h2 ho hx
      go_enter Tryd.func13, Tryd.ntmps13
      go_wp2
      go_ret
      exact ⟨rfl, rfl⟩
  · have d1 : decide ((s.size : Int) ≤ 16384) = false := by rw [decide_eq_false_iff_not]; omega
    have e : o = false := by rw [← ho]; unfold mayB; rw [decide_eq_false h1]; rfl
    subst e
    clear h1 ho d2
    go_enter Tryd.func13, Tryd.ntmps13
    go_wp2
    go_ret
    exact ⟨rfl, rfl⟩

theorem mayB_nb (n : Nat) (h : nl n ≤ 16384) : mayB (nbA n) = true := by
  have hz := nbA_size n
  unfold mayB
  rw [show decide ((nbA n).size ≤ 16384) = true from decide_eq_true (by omega), Bool.true_and]
  by_cases h0 : (nbA n).size = 0
  · rw [decide_eq_true h0]; rfl
  · rw [decide_eq_false h0, Bool.false_or, decide_eq_true]
    exact ⟨by omega, nbA_first n _⟩
theorem mayB_is (s : ByteArray) (h : mayB s = true) : ∃ n, nbA n = s ∧ nl n ≤ 16384 := by
  unfold mayB at h
  rw [Bool.and_eq_true, Bool.or_eq_true, decide_eq_true_iff, decide_eq_true_iff, decide_eq_true_iff] at h
  obtain ⟨h1, h2⟩ := h
  obtain ⟨n, hn⟩ := nbA_of s (h2.imp id (fun ⟨a, b⟩ => ⟨a, fun c => b (by rw [c]; rfl)⟩))
  exact ⟨n, hn, by rw [← nbA_size, hn]; exact h1⟩

theorem bless_pre : ∀ (x y : List UInt8), x.length = y.length → (Op.bytesLess x y = decide (bvl x < bvl y))
  | [], [], _ => by rfl
  | [], _ :: _, h => by simp at h
  | _ :: _, [], h => by simp at h
  | a :: x, b :: y, h => by
    have hl : x.length = y.length := by simpa using h
    have ih := bless_pre x y hl
    have e : ∀ (c : UInt8) (z : List UInt8), bvl (c :: z) = c.toNat * 2 ^ (8 * z.length) + bvl z := by
      intro c z
      refine rev_ind (P := fun z => bvl (c :: z) = c.toNat * 2 ^ (8 * z.length) + bvl z) ?_ (fun l d ih => ?_) z
      · show 256 * 0 + c.toNat = c.toNat * 2 ^ (8 * 0) + 0
        simp
      · rw [← List.cons_append, bvl_snoc, ih, bvl_snoc, List.length_append, List.length_singleton, pow8, Nat.mul_add, ← Nat.mul_assoc (c.toNat)]
        omega
    have hx := bvl_lt x
    have hy := bvl_lt y
    rw [Op.bytesLess, ih, e a x, e b y, hl]
    rw [hl] at hx
    rcases Nat.lt_trichotomy a.toNat b.toNat with h1 | h1 | h1
    · have h2 : a < b := UInt8.lt_iff_toNat_lt.2 h1
      have h3 : (a.toNat + 1) * 2 ^ (8 * y.length) ≤ b.toNat * 2 ^ (8 * y.length) := Nat.mul_le_mul_right _ h1
      rw [Nat.add_mul, Nat.one_mul] at h3
      rw [decide_eq_true h2, Bool.true_or, decide_eq_true (by omega)]
    · have h2 : a = b := UInt8.toNat_inj.1 h1
      subst h2
      have h3 : ¬ a < a := fun h => Nat.lt_irrefl _ (UInt8.lt_iff_toNat_lt.1 h)
      rw [decide_eq_false h3, Bool.false_or, beq_self_eq_true, Bool.true_and]
      rw [Bool.eq_iff_iff, decide_eq_true_iff, decide_eq_true_iff]
      omega
    · have h2 : ¬ a < b := fun h => by have := UInt8.lt_iff_toNat_lt.1 h; omega
      have h3 : (b.toNat + 1) * 2 ^ (8 * y.length) ≤ a.toNat * 2 ^ (8 * y.length) := Nat.mul_le_mul_right _ h1
      rw [Nat.add_mul, Nat.one_mul] at h3
      have h4 : (a == b) = false := by simp only [beq_eq_false_iff_ne]; intro c; rw [c] at h1; omega
      rw [decide_eq_false h2, Bool.false_or, h4, Bool.false_and, decide_eq_false (by omega)]
theorem bvl_nbL (n : Nat) : bvl (nbL n) = n := by
  have h1 := bvl_lt (nbL n)
  rw [nbL_len] at h1
  refine d8_ext h1 (nl_lt n) (fun k hk => ?_)
  have h2 := bvl_d8 (nbL n) (nl n - 1 - k) (by rw [nbL_len]; omega)
  have hk2 : (nbL n).length - 1 - (nl n - 1 - k) = k := by rw [nbL_len]; omega
  rw [hk2] at h2
  rw [h2]
  have h3 := nbA_get n (nl n - 1 - k) (by rw [nbA_size]; omega)
  rw [show nl n - 1 - (nl n - 1 - k) = k by omega] at h3
  exact h3
theorem toList_nb (n : Nat) : (nbA n).toList = nbL n := by rw [ByteArray.toList_eq]; rfl
theorem bless_nb (a b : Nat) (h : nl a = nl b) : Op.bytesLess (nbA a).toList (nbA b).toList = decide (a < b) := by
  rw [toList_nb, toList_nb, bless_pre _ _ (by rw [nbL_len, nbL_len, h]), bvl_nbL, bvl_nbL]
theorem beq_nb (a b : Nat) : ((nbA a).toList == (nbA b).toList) = decide (a = b) := by
  rw [toList_nb, toList_nb, Bool.eq_iff_iff, beq_iff_eq, decide_eq_true_iff]
  constructor
  · intro h
    rw [← bvl_nbL a, h, bvl_nbL]
  · intro h; rw [h]

theorem nat_cmp (a b : Nat) (s t : ByteArray) (c : Int) (hs : nbA a = s) (ht : nbA b = t) (hc : cmpv a b = c) (w : World) :
    Calls Tryd.prog 35 #[.string s, .string t] w fun e w' => e = .returned (.int .i64 c) ∧ w' = w := by
  obtain ⟨L, hL⟩ : ∃ L, nl a = L := ⟨_, rfl⟩
  obtain ⟨M, hM⟩ : ∃ M, nl b = M := ⟨_, rfl⟩
  have hz : s.size = L := by rw [← hs, nbA_size, hL]
  have hy : t.size = M := by rw [← ht, nbA_size, hM]
  by_cases h : L = M
  · subst h
    have e1 := bless_nb a b (by rw [hL, hM])
    have e2 := beq_nb a b
    rw [hs, ht] at e1 e2
    have n1 : ((L : Int) != (L : Int)) = false := by simp
    unfold cmpv at hc
    by_cases h1 : a = b
    · rw [if_pos h1] at hc
      subst hc
      rw [decide_eq_false (by omega)] at e1
      rw [decide_eq_true h1] at e2
      clear hs ht hL hM h1
      go_enter Tryd.func35, Tryd.ntmps35
      go_wp2
      go_ret
      exact ⟨rfl, rfl⟩
    · rw [if_neg h1] at hc
      rw [decide_eq_false h1] at e2
      by_cases h2 : a < b
      · rw [if_pos h2] at hc
        subst hc
        rw [decide_eq_true h2] at e1
        clear hs ht hL hM h1 h2
        go_enter Tryd.func35, Tryd.ntmps35
        go_wp2
        go_ret
        exact ⟨rfl, rfl⟩
      · rw [if_neg h2] at hc
        subst hc
        rw [decide_eq_false h2] at e1
        clear hs ht hL hM h1 h2
        go_enter Tryd.func35, Tryd.ntmps35
        go_wp2
        go_ret
        exact ⟨rfl, rfl⟩
  · have n1 : ((L : Int) != (M : Int)) = true := by simp; omega
    have n2 : ¬ a = b := fun e => h (by rw [← hL, ← hM, e])
    unfold cmpv at hc
    rw [if_neg n2] at hc
    by_cases h2 : L < M
    · have h3 : a < b := by
        rcases Nat.lt_or_ge a b with h3 | h3
        · exact h3
        · have := nl_mono b a h3; omega
      rw [if_pos h3] at hc
      subst hc
      have n3 : decide (L < M) = true := decide_eq_true h2
      clear hs ht hL hM h n2 h2 h3
      go_enter Tryd.func35, Tryd.ntmps35
      go_wp2
      go_ret
      exact ⟨rfl, rfl⟩
    · have h3 : ¬ a < b := fun e => by have := nl_mono a b (Nat.le_of_lt e); omega
      rw [if_neg h3] at hc
      subst hc
      have n3 : decide (L < M) = false := decide_eq_false h2
      clear hs ht hL hM h n2 h2 h3
      go_enter Tryd.func35, Tryd.ntmps35
      go_wp2
      go_ret
      exact ⟨rfl, rfl⟩
end Go.Proofs.YtknkkagapcigfaaDoor
namespace Go.Proofs.YtknkkagapcigfaaDoor
open Go.RowKit WMath

theorem carry_step (S P t : Nat) : S + P * (t % 256) + P * 256 * (t / 256) = S + P * t := by
  have h := Nat.div_add_mod t 256
  have : P * t = P * (256 * (t / 256) + t % 256) := by rw [h]
  rw [this, Nat.mul_add, Nat.mul_assoc]
  omega

theorem nadd_step (a b S i c t : Nat) (hE : S + 2 ^ (8 * i) * c = a % 2 ^ (8 * i) + b % 2 ^ (8 * i)) (ht : c + d8 a i + d8 b i = t) :
    S + 2 ^ (8 * i) * (t % 256) + 2 ^ (8 * (i + 1)) * (t / 256) = a % 2 ^ (8 * (i + 1)) + b % 2 ^ (8 * (i + 1)) := by
  rw [pow8, carry_step, ← pow8, mod_d8, mod_d8, ← ht, Nat.mul_add, Nat.mul_add]
  omega
theorem nadd_end (a b S i c : Nat) (ha : a < 2 ^ (8 * i)) (hb : b < 2 ^ (8 * i)) (hab : a + b < 2 ^ (8 * i)) (hE : S + 2 ^ (8 * i) * c = a % 2 ^ (8 * i) + b % 2 ^ (8 * i)) : S = a + b := by
  rw [Nat.mod_eq_of_lt ha, Nat.mod_eq_of_lt hb] at hE
  by_cases h : c = 0
  · rw [h] at hE; omega
  · have : 2 ^ (8 * i) * 1 ≤ 2 ^ (8 * i) * c := Nat.mul_le_mul_left _ (by omega)
    omega
theorem pow8_le (i j : Nat) (h : i ≤ j) : 2 ^ (8 * i) ≤ 2 ^ (8 * j) := Nat.pow_le_pow_right (by decide) (by omega)
theorem wrap_u8_is (t x : Nat) (h : t % 256 = x) : IntKind.u8.wrap (t : Int) = (x : Int) := by
  rw [← h, IntKind.wrap_u8]; omega

theorem nsub_step (a b S i c x y z g : Nat) (hE : S + b % 2 ^ (8 * i) = a % 2 ^ (8 * i) + 2 ^ (8 * i) * c) (hx : d8 a i = x) (hy : d8 b i = y) (hz : z + y + c = x + 256 * g) :
    S + 2 ^ (8 * i) * z + b % 2 ^ (8 * (i + 1)) = a % 2 ^ (8 * (i + 1)) + 2 ^ (8 * (i + 1)) * g := by
  rw [mod_d8, mod_d8, hx, hy, pow8, Nat.mul_assoc]
  have e := congrArg (fun t => 2 ^ (8 * i) * t) hz
  simp only [Nat.mul_add] at e
  omega
theorem nsub_end (a b S i c : Nat) (hba : b ≤ a) (ha : a < 2 ^ (8 * i)) (hS : S < 2 ^ (8 * i)) (hE : S + b % 2 ^ (8 * i) = a % 2 ^ (8 * i) + 2 ^ (8 * i) * c) : S = a - b := by
  rw [Nat.mod_eq_of_lt ha, Nat.mod_eq_of_lt (show b < 2 ^ (8 * i) by omega)] at hE
  by_cases h : c = 0
  · rw [h] at hE; omega
  · have : 2 ^ (8 * i) * 1 ≤ 2 ^ (8 * i) * c := Nat.mul_le_mul_left _ (by omega)
    omega

set_option maxHeartbeats 1000000 in
theorem nat_sub (a b : Nat) (s t v : ByteArray) (hs : nbA a = s) (ht : nbA b = t) (hv : nbA (a - b) = v) (hba : b ≤ a) (ha : nl a ≤ 20000) (w : World) :
    Calls Tryd.prog 40 #[.string s, .string t] w fun e w' => e = .returned (.string v) ∧ Below w.heap.size w w' := by
  obtain ⟨L, hL⟩ : ∃ L, nl a = L := ⟨_, rfl⟩
  have hz : s.size = L := by rw [← hs, nbA_size, hL]
  have la := nl_lt a
  have hb := nl_mono b a hba
  rw [hL] at la ha hb
  have LA := box la
  have HBA := box hba
  have HS := box hs
  have HT := box ht
  have HV := box hv
  have NA : Box (nl a ≤ 100000) := box (by omega)
  have NB : Box (nl b ≤ 100000) := box (by omega)
  have hmk := c8_make L (by omega)
  clear hs ht hv hL la hba hb
  go_enter Tryd.func40, Tryd.ntmps40
  go_wp2
  clear hmk
  go_loopw [6, 7] (fun cv iv wr => ∃ (i c S : Nat), i ≤ L ∧ c < 2 ∧ cv = .int .i64 c ∧ iv = .int .i64 i ∧ wr.heap[w.heap.size]? = some (.cells (c8 L S) 5) ∧ Below w.heap.size w wr ∧ Box (S < 2 ^ (8 * i) ∧ S + b % 2 ^ (8 * i) = a % 2 ^ (8 * i) + 2 ^ (8 * i) * c)) (fun _ iv _ => L - (intOf iv).toNat)
  case atStart => exact ⟨0, 0, 0, by omega, by omega, rfl, rfl, heap_alloc_last _ _, (Below.refl _ _).alloc (Nat.le_refl _) _, box ⟨by decide, by simp [Nat.mod_one]⟩⟩
  case round =>
    obtain ⟨i, c, S, hi, hc, rfl, rfl, r0, hbw, HE⟩ := hrel
    by_cases hlt : i < L
    · obtain ⟨x, hx⟩ : ∃ x, d8 a i = x := ⟨_, rfl⟩
      obtain ⟨y, hy2⟩ : ∃ y, d8 b i = y := ⟨_, rfl⟩
      have x256 : x < 256 := by rw [← hx]; exact d8_lt a i
      have y256 : y < 256 := by rw [← hy2]; exact d8_lt b i
      obtain ⟨q, hq⟩ : ∃ q : Int, (x : Int) - (y : Int) - (c : Int) = q := ⟨_, rfl⟩
      obtain ⟨g, hg⟩ : ∃ g, (if x < y + c then 1 else 0) = g := ⟨_, rfl⟩
      obtain ⟨z, hz2⟩ : ∃ z, x + 256 * g - y - c = z := ⟨_, rfl⟩
      have hzz : z + y + c = x + 256 * g ∧ z < 256 ∧ g < 2 := by split at hg <;> omega
      have NE := nsub_step a b S i c x y z g HE.out.2 hx hy2 hzz.1
      have NX : Box (S + 2 ^ (8 * i) * z < 2 ^ (8 * (i + 1)) ∧ S + 2 ^ (8 * i) * z + b % 2 ^ (8 * (i + 1)) = a % 2 ^ (8 * (i + 1)) + 2 ^ (8 * (i + 1)) * g) := box ⟨push8_lt S i z HE.out.1 hzz.2.1, NE⟩
      have n1 : IntKind.i64.wrap ((x : Int) - (y : Int)) = (x : Int) - (y : Int) := wrap_i64_is _ (by omega) (by omega)
      have n3 : IntKind.i64.wrap ((x : Int) - (y : Int) - (c : Int)) = q := by rw [wrap_i64_is _ (by omega) (by omega)]; omega
      have n4 : IntKind.u8.wrap q = (z : Int) := by rw [IntKind.wrap_u8]; omega
      have c1 := c8_cell r0 hlt
      have f0 := fz (k := i) r0
      have z256 := hzz.2.1
      have RS : Box ((wr.setCell ⟨w.heap.size, i, none⟩ (.int .u8 (z : Int))).heap[w.heap.size]? = some (.cells (c8 L (S + 2 ^ (8 * i) * z)) 5)) := box (by rw [setCell_row r0, c8_push L S i z _ hlt HE.out.1 z256 rfl])
      have HX := box hx
      have HY := box hy2
      have dl : decide (i < L) = true := decide_eq_true hlt
      have hcase : (decide (q < 0) = true ∧ g = 1) ∨ (decide (q < 0) = false ∧ g = 0) := by
        rw [decide_eq_true_iff, decide_eq_false_iff_not]
        split at hg <;> omega
      clear hx hy2 hq hz2 hg NE hzz
      rcases hcase with ⟨dq, rfl⟩ | ⟨dq, rfl⟩
      all_goals
        go_wp2_with fail
        refine (nat_at a i x s HS.out HX.out NA.out _).mono ?_
        rintro e w' ⟨rfl, rfl⟩
        go_wp2_with fail
        refine (nat_at b i y t HT.out HY.out NB.out _).mono ?_
        rintro e w' ⟨rfl, rfl⟩
        go_wp2
        go_roundw
        case rel => exact ⟨i + 1, _, _, by omega, (by first | exact (by decide : 1 < 2) | exact (by decide : 0 < 2)), by first | rfl | go_num, by go_num, RS.out, hbw.setCell (Nat.le_refl _) _, NX⟩
        case measure => simp [intOf] <;> omega
    · obtain rfl : i = L := by omega
      have e := nsub_end a b S i c HBA.out LA.out HE.out.1 HE.out.2
      subst e
      have FX := box HE.out.1
      clear HE
      have dl : decide (i < i) = false := by rw [decide_eq_false_iff_not]; omega
      go_wp2_with fail
      refine (nat_fit i (a - b) w.heap.size i v (by omega) FX.out HV.out _ r0).mono ?_
      rintro e w' ⟨rfl, hb2⟩
      go_wp2
      go_ret
      exact ⟨rfl, hbw.trans (hb2.mono hbw.size)⟩

theorem ndbl_step (a o S i c t : Nat) (hE : S + 2 ^ (8 * i) * c = 2 * (a % 2 ^ (8 * i)) + o) (ht : c + 2 * d8 a i = t) :
    S + 2 ^ (8 * i) * (t % 256) + 2 ^ (8 * (i + 1)) * (t / 256) = 2 * (a % 2 ^ (8 * (i + 1))) + o := by
  rw [pow8, carry_step, ← pow8, mod_d8, ← ht, Nat.mul_add, Nat.mul_add 2, Nat.mul_left_comm]
  omega

set_option maxHeartbeats 1000000 in
theorem nat_double (a o : Nat) (s v : ByteArray) (hs : nbA a = s) (ho : o < 2) (hv : nbA (2 * a + o) = v) (ha : nl a ≤ 20000) (w : World) :
    Calls Tryd.prog 38 #[.string s, .int .i64 (o : Nat)] w fun e w' => e = .returned (.string v) ∧ Below w.heap.size w w' := by
  obtain ⟨L, hL⟩ : ∃ L, nl a = L := ⟨_, rfl⟩
  obtain ⟨N, hN⟩ : ∃ N, L + 1 = N := ⟨_, rfl⟩
  have hz : s.size = L := by rw [← hs, nbA_size, hL]
  have la := nl_lt a
  rw [hL] at la ha
  have LA : Box (a < 2 ^ (8 * N)) := box (Nat.lt_of_lt_of_le la (pow8_le _ _ (by omega)))
  have LAB : Box (2 * a + o < 2 ^ (8 * N)) := box (by rw [← hN, pow8]; omega)
  have HS := box hs
  have HV := box hv
  have NA : Box (nl a ≤ 100000) := box (by omega)
  have hmk := c8_makeI N ((L : Int) + 1) (by omega) (by omega)
  clear hs hv hL la
  go_enter Tryd.func38, Tryd.ntmps38
  go_wp2
  clear hmk
  go_loopw [6, 7] (fun cv iv wr => ∃ (i c S : Nat), i ≤ N ∧ c < 2 ∧ cv = .int .i64 c ∧ iv = .int .i64 i ∧ wr.heap[w.heap.size]? = some (.cells (c8 N S) 5) ∧ Below w.heap.size w wr ∧ Box (S < 2 ^ (8 * i) ∧ S + 2 ^ (8 * i) * c = 2 * (a % 2 ^ (8 * i)) + o)) (fun _ iv _ => N - (intOf iv).toNat)
  case atStart => exact ⟨0, o, 0, by omega, ho, rfl, rfl, heap_alloc_last _ _, (Below.refl _ _).alloc (Nat.le_refl _) _, box ⟨by decide, by simp [Nat.mod_one]⟩⟩
  case round =>
    obtain ⟨i, c, S, hi, hc, rfl, rfl, r0, hbw, HE⟩ := hrel
    by_cases hlt : i < N
    · obtain ⟨x, hx⟩ : ∃ x, d8 a i = x := ⟨_, rfl⟩
      have x256 : x < 256 := by rw [← hx]; exact d8_lt a i
      obtain ⟨q, hq⟩ : ∃ q, c + 2 * x = q := ⟨_, rfl⟩
      obtain ⟨z, hz2⟩ : ∃ z, q % 256 = z := ⟨_, rfl⟩
      obtain ⟨g, hg⟩ : ∃ g, q / 256 = g := ⟨_, rfl⟩
      have NE := ndbl_step a o S i c q HE.out.2 (by rw [hx]; exact hq)
      rw [hz2, hg] at NE
      have z256 : z < 256 := by omega
      have NX : Box (S + 2 ^ (8 * i) * z < 2 ^ (8 * (i + 1)) ∧ S + 2 ^ (8 * i) * z + 2 ^ (8 * (i + 1)) * g = 2 * (a % 2 ^ (8 * (i + 1))) + o) := box ⟨push8_lt S i z HE.out.1 z256, NE⟩
      have g2 : g < 2 := by omega
      have n1 : IntKind.i64.wrap (2 * (x : Int)) = 2 * (x : Int) := wrap_i64_is _ (by omega) (by omega)
      have n3 : IntKind.i64.wrap ((c : Int) + 2 * (x : Int)) = (q : Int) := by rw [wrap_i64_is _ (by omega) (by omega)]; omega
      have n4 := wrap_u8_is q z hz2
      have n5 : (q : Int) / 256 = (g : Int) := by omega
      have c1 := c8_cell r0 hlt
      have f0 := fz (k := i) r0
      have RS : Box ((wr.setCell ⟨w.heap.size, i, none⟩ (.int .u8 (z : Int))).heap[w.heap.size]? = some (.cells (c8 N (S + 2 ^ (8 * i) * z)) 5)) := box (by rw [setCell_row r0, c8_push N S i z _ hlt HE.out.1 z256 rfl])
      have HX := box hx
      have dl : decide (i ≤ L) = true := by rw [decide_eq_true_iff]; omega
      clear hx hq hz2 hg NE
      go_wp2_with fail
      refine (nat_at a i x s HS.out HX.out NA.out _).mono ?_
      rintro e w' ⟨rfl, rfl⟩
      go_wp2
      go_roundw
      case rel => exact ⟨i + 1, g, _, by omega, g2, by first | rfl | go_num, by go_num, RS.out, hbw.setCell (Nat.le_refl _) _, NX⟩
      case measure => simp [intOf] <;> omega
    · obtain rfl : i = N := by omega
      have e : S = 2 * a + o := by
        have h := HE.out.2
        rw [Nat.mod_eq_of_lt LA.out] at h
        have h2 := LAB.out
        by_cases hc0 : c = 0
        · rw [hc0] at h; omega
        · have : 2 ^ (8 * i) * 1 ≤ 2 ^ (8 * i) * c := Nat.mul_le_mul_left _ (by omega)
          omega
      subst e
      have FX := box HE.out.1
      clear HE
      have dl : decide (i ≤ L) = false := by rw [decide_eq_false_iff_not]; omega
      go_wp2_with fail
      refine (nat_fit i (2 * a + o) w.heap.size i v (by omega) FX.out HV.out _ r0).mono ?_
      rintro e w' ⟨rfl, hb2⟩
      go_wp2
      go_ret
      exact ⟨rfl, hbw.trans (hb2.mono hbw.size)⟩

theorem nat_bit (a i : Nat) (s : ByteArray) (o : Nat) (hs : nbA a = s) (ho : (a.testBit i).toNat = o) (ha : nl a ≤ 100000) (hi : i ≤ 10000000) (w : World) :
    Calls Tryd.prog 39 #[.string s, .int .i64 (i : Nat)] w fun e w' => e = .returned (.int .i64 (o : Nat)) ∧ w' = w := by
  obtain ⟨q, hq⟩ : ∃ q, q = i / 8 := ⟨_, rfl⟩
  obtain ⟨r, hr⟩ : ∃ r, r = i % 8 := ⟨_, rfl⟩
  have q1 : (i : Int) / 8 = (q : Int) := by omega
  have r1 : (i : Int) % 8 = (r : Int) := by omega
  have r8 : r < 8 := by omega
  obtain ⟨x, hx⟩ : ∃ x, d8 a q = x := ⟨_, rfl⟩
  have x256 : x < 256 := by rw [← hx]; exact d8_lt a q
  have e : x / 2 ^ r % 2 = o := by rw [← ho, ← hx, hq, hr, bit_of_d8, testBit_toNat]
  have hb : bits .and .i64 ((x : Int) / 2 ^ r) 1 = (o : Int) := by
    obtain ⟨y, hy⟩ : ∃ y, x / 2 ^ r = y := ⟨_, rfl⟩
    have e2 : (x : Int) / 2 ^ r = (y : Int) := by rw [← hy]; exact div_cast x r
    have y256 : y < 256 := by rw [← hy]; exact Nat.lt_of_le_of_lt (Nat.div_le_self _ _) x256
    rw [e2]
    show IntKind.i64.wrap ((BitVec.ofInt 64 (y : Int) &&& BitVec.ofInt 64 1).toNat : Int) = _
    have h1 : (BitVec.ofInt 64 1).toNat = 2 ^ 1 - 1 := by decide
    have h2 : (BitVec.ofInt 64 (y : Int)).toNat = y := by simp; omega
    rw [BitVec.toNat_and, h1, Nat.and_two_pow_sub_one_eq_mod, h2, wrap_i64_is _ (by omega) (by omega), ← e, hy]
  have HX := box hx
  clear hq hr hx e ho
  go_enter Tryd.func39, Tryd.ntmps39
  go_wp2_with fail
  refine (nat_at a q x s hs HX.out ha _).mono ?_
  rintro e w' ⟨rfl, rfl⟩
  go_wp2
  go_ret
  exact ⟨rfl, rfl⟩
end Go.Proofs.YtknkkagapcigfaaDoor
namespace Go.Proofs.YtknkkagapcigfaaDoor
open Go.RowKit WMath

theorem bitLen_top (x k : Nat) (h1 : 2 ^ k ≤ x) (h2 : x < 2 ^ (k + 1)) (hk : k < 64) : Lib.bitLen x = k + 1 := by
  have hx : x < 18446744073709551616 := by
    have := pow_le_64 (k + 1) (by omega)
    omega
  rcases Nat.eq_zero_or_pos k with rfl | hp
  · have : x = 1 := by simp at h1 h2; omega
    subst this; decide
  · rw [Lib.bitLen_shift k x h1 hx, show x / 2 ^ k = 1 by
      apply Nat.div_eq_of_lt_le
      · omega
      · rw [Nat.pow_succ] at h2; omega]
    have : Lib.bitLen 1 = 1 := by decide
    omega
theorem bitLen_step (x k : Nat) (hk : k < 64) : Lib.bitLen (x % 2 ^ (k + 1)) = if x.testBit k then k + 1 else Lib.bitLen (x % 2 ^ k) := by
  rw [mod_succ]
  have hl : x % 2 ^ k < 2 ^ k := Nat.mod_lt _ (Nat.two_pow_pos k)
  cases x.testBit k
  · simp
  · rw [if_pos rfl, Bool.toNat_true, Nat.mul_one]
    exact bitLen_top _ k (by omega) (by rw [Nat.pow_succ]; omega) hk

theorem rlen_any (x : Nat) (hx : x < 18446744073709551616) (w : World) :
    Calls Tryd.prog 51 #[.int .u64 x] w fun e w' => e = .returned (.int .i64 (Lib.bitLen x : Nat)) ∧ w' = w := by
  have h0 : Hid (0 = Lib.bitLen (x % 2 ^ 0)) := by show 0 = _; rw [Nat.pow_zero, Nat.mod_one]; decide
  go_enter Tryd.func51, Tryd.ntmps51
  go_wp2
  go_loop [3, 4] (fun n i => ∃ k N : Nat, k ≤ 64 ∧ i = .int .i64 k ∧ n = .int .i64 N ∧ Hid (N = Lib.bitLen (x % 2 ^ k))) (fun _ i => 64 - (intOf i).toNat)
  case atStart => exact ⟨0, 0, by omega, rfl, rfl, h0⟩
  case round =>
    obtain ⟨k, N, hk, rfl, rfl, HN⟩ := hrel
    by_cases hlt : k < 64
    · have st := hide (bitLen_step x k hlt)
      cases hb : x.testBit k
      · have H1 : Hid (N = Lib.bitLen (x % 2 ^ (k + 1))) := by show N = _; rw [st.out, hb, HN.out]; rfl
        go_wp2_with (go_at_call 65; refine (bit_any _ _ ?_ ?_ _).mono ?_; assumption; assumption; rintro e w' ⟨rfl, rfl⟩)
        go_round
        case rel => exact ⟨k + 1, N, by omega, by go_num, rfl, H1⟩
        case measure => simp [intOf]; omega
      · have H1 : Hid (k + 1 = Lib.bitLen (x % 2 ^ (k + 1))) := by show k + 1 = _; rw [st.out, hb]; rfl
        go_wp2_with (go_at_call 65; refine (bit_any _ _ ?_ ?_ _).mono ?_; assumption; assumption; rintro e w' ⟨rfl, rfl⟩)
        go_round
        case rel => exact ⟨k + 1, k + 1, by omega, by go_num, by go_num, H1⟩
        case measure => simp [intOf]; omega
    · go_wp2
      go_ret
      obtain rfl : k = 64 := by omega
      exact ⟨ret_int (by rw [HN.out, ← two64, Nat.mod_eq_of_lt hx]), rfl⟩
end Go.Proofs.YtknkkagapcigfaaDoor
namespace Go.Proofs.YtknkkagapcigfaaDoor
open Go.RowKit WMath

theorem rlen_is (x l : Nat) (hx : x < 18446744073709551616) (hl : blen x = l) (w : World) :
    Calls Tryd.prog 51 #[.int .u64 x] w fun e w' => e = .returned (.int .i64 (l : Nat)) ∧ w' = w := by
  subst hl; rw [← bitLen_blen x hx]; exact rlen_any x hx w

theorem nzf {x : Nat} (h : x = 0) : (((x : Nat) : Int) != 0) = false := by subst h; rfl
theorem nzt {x : Nat} (h : ¬ x = 0) : (((x : Nat) : Int) != 0) = true := by simp; omega

end Go.Proofs.YtknkkagapcigfaaDoor
namespace Go.Proofs.YtknkkagapcigfaaDoor
open Go.RowKit WMath

/-- A result, or that it is too long. -/
def lg (x : Nat) : ByteArray × Int := if nl x ≤ 16384 then (nbA x, 0) else (⟨#[]⟩, 4)
/-- A difference, or that there is none. -/
def sb (a b : Nat) : ByteArray × Int := if a < b then (⟨#[]⟩, 2) else (nbA (a - b), 0)

end Go.Proofs.YtknkkagapcigfaaDoor
namespace Go.Proofs.YtknkkagapcigfaaDoor
open Go.RowKit WMath

/-- t is the place of the lowest bit of x that is 1. -/
def LowIs (x t : Nat) : Prop := t < 64 ∧ x % 2 ^ t = 0 ∧ x.testBit t = true
theorem low_one (x s t : Nat) (h : LowIs x s) (g : LowIs x t) : s = t := by
  have hlt : ∀ a b, LowIs x a → LowIs x b → ¬ a < b := by
    intro a b ha hb hab
    have h1 := Nat.testBit_mod_two_pow x b a
    rw [hb.2.1, ha.2.2] at h1
    simp [hab] at h1
  have h1 := hlt s t h g
  have h2 := hlt t s g h
  omega
theorem rlow_zero (w : World) :
    Calls Tryd.prog 66 #[.int .u64 0] w fun e w' => e = .returned (.int .i64 64) ∧ w' = w := by
  go_enter Tryd.func66, Tryd.ntmps66
  go_wp2
  go_loop [3] (fun i => ∃ k : Nat, k ≤ 64 ∧ i = .int .i64 k) (fun i => 64 - (intOf i).toNat)
  case atStart => exact ⟨0, by omega, rfl⟩
  case round =>
    obtain ⟨k, hk, rfl⟩ := hrel
    by_cases hlt : k < 64
    · have hb : Nat.testBit 0 k = false := Nat.zero_testBit k
      have hbit : ∀ w : World, Calls Tryd.prog 65 #[.int .u64 0, .int .i64 k] w fun e w' => e = .returned (.bool false) ∧ w' = w := by
        intro w
        have h := bit_any 0 k (by omega) hlt w
        rw [hb] at h
        exact h
      go_wp2_with (go_at_call 65; refine (hbit _).mono ?_; rintro e w' ⟨rfl, rfl⟩)
      go_round
      case rel => exact ⟨k + 1, by omega, by go_num⟩
      case measure => simp [intOf]; omega
    · go_wp2
      go_ret
      exact ⟨rfl, rfl⟩
theorem rlow_any (x t : Nat) (hx : x < 18446744073709551616) (ht : LowIs x t) (w : World) :
    Calls Tryd.prog 66 #[.int .u64 x] w fun e w' => e = .returned (.int .i64 t) ∧ w' = w := by
  have ht0 := ht.1
  have hT := hide ht
  clear ht
  go_enter Tryd.func66, Tryd.ntmps66
  go_wp2
  go_loop [3] (fun i => ∃ k : Nat, k ≤ t ∧ i = .int .i64 k) (fun i => 64 - (intOf i).toNat)
  case atStart => exact ⟨0, by omega, rfl⟩
  case round =>
    obtain ⟨k, hk, rfl⟩ := hrel
    have hlt : k < 64 := by omega
    by_cases he : k < t
    · have hb : x.testBit k = false := by
        have h1 := Nat.testBit_mod_two_pow x t k
        rw [hT.out.2.1] at h1
        simpa [he] using h1.symm
      go_wp2_with (go_at_call 65; refine (bit_any _ _ ?_ ?_ _).mono ?_; assumption; assumption; rintro e w' ⟨rfl, rfl⟩)
      go_round
      case rel => exact ⟨k + 1, by omega, by go_num⟩
      case measure => simp [intOf]; omega
    · obtain rfl : k = t := by omega
      have hb : x.testBit k = true := hT.out.2.2
      go_wp2_with (go_at_call 65; refine (bit_any _ _ ?_ ?_ _).mono ?_; assumption; assumption; rintro e w' ⟨rfl, rfl⟩)
      go_ret
      exact ⟨rfl, rfl⟩
end Go.Proofs.YtknkkagapcigfaaDoor
namespace Go.Proofs.YtknkkagapcigfaaDoor
open Go.RowKit WMath

theorem add_facts (n m S k : Nat) (C : Bool) (hS : S < 2 ^ (64 * k)) (hE : S + 2 ^ (64 * k) * C.toNat = n % 2 ^ (64 * k) + m % 2 ^ (64 * k)) :
    ∃ (x : Nat) (o : Bool), x < 18446744073709551616 ∧ Box ((wd n k + wd m k + C.toNat) % 18446744073709551616 = x) ∧ Box (decide (18446744073709551616 ≤ wd n k + wd m k + C.toNat) = o) ∧ Box (S + 2 ^ (64 * k) * x < 2 ^ (64 * (k + 1))) ∧ Box (S + 2 ^ (64 * k) * x + 2 ^ (64 * (k + 1)) * o.toNat = n % 2 ^ (64 * (k + 1)) + m % 2 ^ (64 * (k + 1))) :=
  ⟨_, _, Nat.mod_lt _ (by decide), box rfl, box rfl, box (push_lt S k _ hS (Nat.mod_lt _ (by decide))), box (wadd_step n m S k _ C hE rfl)⟩
theorem sub_facts (n m S k : Nat) (C : Bool) (hS : S < 2 ^ (64 * k)) (hE : S + m % 2 ^ (64 * k) = n % 2 ^ (64 * k) + 2 ^ (64 * k) * C.toNat) :
    ∃ (x : Nat) (o : Bool), x < 18446744073709551616 ∧ Box ((wd n k + 18446744073709551616 - wd m k - C.toNat) % 18446744073709551616 = x) ∧ Box (decide (wd n k < wd m k + C.toNat) = o) ∧ Box (S + 2 ^ (64 * k) * x < 2 ^ (64 * (k + 1))) ∧ Box (S + 2 ^ (64 * k) * x + m % 2 ^ (64 * (k + 1)) = n % 2 ^ (64 * (k + 1)) + 2 ^ (64 * (k + 1)) * o.toNat) :=
  ⟨_, _, Nat.mod_lt _ (by decide), box rfl, box rfl, box (push_lt S k _ hS (Nat.mod_lt _ (by decide))), box (wsub_step n m S k _ C hE rfl)⟩

end Go.Proofs.YtknkkagapcigfaaDoor
namespace Go.Proofs.YtknkkagapcigfaaDoor
open Go.RowKit WMath

end Go.Proofs.YtknkkagapcigfaaDoor
namespace Go.Proofs.YtknkkagapcigfaaDoor
open Go.RowKit WMath

theorem qor_one (s : Nat) (h : s % 2 = 0) : s ||| 1 * 2 ^ (64 * 0) = s + 1 := by
  rw [Nat.mul_zero, Nat.pow_zero, Nat.mul_one]
  exact qor_add s 1 1 ⟨s / 2, by omega⟩ (by decide)
/-- One bit as a word at its place. -/
theorem one_bit (j q r : Nat) (hq : q = j / 64) (hr : r = j % 64) : 2 ^ r * 2 ^ (64 * q) = 2 ^ j := by
  rw [← Nat.pow_add]; congr 1; omega

end Go.Proofs.YtknkkagapcigfaaDoor
namespace Go.Proofs.YtknkkagapcigfaaDoor
open Go.RowKit WMath

/-- A function that leaves the world alone leaves what lay there. -/
theorem bel {P : Program} {f : Nat} {args : Array Value} {e : Ending} {w : World} (h : Calls P f args w fun r w' => r = e ∧ w' = w) : Calls P f args w fun r w' => r = e ∧ Below w.heap.size w w' :=
  h.mono fun _ _ ⟨h1, h2⟩ => ⟨h1, by rw [h2]; exact Below.refl _ _⟩

end Go.Proofs.YtknkkagapcigfaaDoor
namespace Go.Proofs.YtknkkagapcigfaaDoor.WMath

/-- How many of the lowest k bits are 1. -/
def popN (x : Nat) : Nat → Nat
  | 0 => 0
  | k + 1 => popN x k + (x.testBit k).toNat
def mask8 (c : Nat) : Nat → Nat
  | 0 => 0
  | n + 1 => c + 256 * mask8 c n
def popB : Nat → Nat → Nat
  | 0, _ => 0
  | n + 1, x => popN (x % 256) 8 + 256 * popB n (x / 256)
def sumB : Nat → Nat → Nat
  | 0, _ => 0
  | n + 1, x => popN (x % 256) 8 + sumB n (x / 256)
def fA (n x : Nat) : Nat := ((x / 2) &&& mask8 85 n) + (x &&& mask8 85 n)
def fB (n x : Nat) : Nat := ((x / 4) &&& mask8 51 n) + (x &&& mask8 51 n)
def fC (n x : Nat) : Nat := (x / 16 + x) &&& mask8 15 n
def sA (b : Nat) : Nat := ((b / 2) &&& 85) + (b &&& 85)
def sB (b : Nat) : Nat := ((b / 4) &&& 51) + (b &&& 51)

theorem and_split (a b : Nat) : a &&& b = (a % 256 &&& b % 256) + 256 * ((a / 256) &&& (b / 256)) := by
  have h1 := Nat.and_mod_two_pow (a := a) (b := b) (n := 8)
  have h2 := Nat.and_div_two_pow (a := a) (b := b) (n := 8)
  have e : (2 : Nat) ^ 8 = 256 := by decide
  rw [e] at h1 h2
  rw [← h1, ← h2]
  omega
theorem and_mask8 (a c n : Nat) (hc : c < 256) : a &&& mask8 c (n + 1) = (a % 256 &&& c) + 256 * ((a / 256) &&& mask8 c n) := by
  rw [and_split, mask8, show (c + 256 * mask8 c n) % 256 = c by omega, show (c + 256 * mask8 c n) / 256 = mask8 c n by omega]

theorem t1 : ∀ b : Fin 256, ∀ c : Fin 2, ((b.val / 2 + 128 * c.val) &&& 85) = (b.val / 2 &&& 85) := by decide +kernel
theorem t2 : ∀ b : Fin 256, ∀ c : Fin 4, ((b.val / 4 + 64 * c.val) &&& 51) = (b.val / 4 &&& 51) := by decide +kernel
theorem sA_lt : ∀ b : Fin 256, sA b.val < 256 := by decide +kernel
theorem sB_lt : ∀ b : Fin 256, sB b.val ≤ 102 ∧ sB b.val % 16 ≤ 6 := by decide +kernel
theorem s_pop : ∀ b : Fin 256, (sB (sA b.val) + sB (sA b.val) / 16) % 16 = popN b.val 8 := by decide +kernel
theorem pop_le8 : ∀ b : Fin 256, popN b.val 8 ≤ 8 := by decide +kernel

theorem fA_rec (n x : Nat) : fA (n + 1) x = sA (x % 256) + 256 * fA n (x / 256) := by
  have h := t1 ⟨x % 256, by omega⟩ ⟨x / 256 % 2, by omega⟩
  simp only at h
  unfold fA sA
  rw [and_mask8 _ 85 n (by decide), and_mask8 _ 85 n (by decide), show x / 2 % 256 = x % 256 / 2 + 128 * (x / 256 % 2) by omega, h, show x / 2 / 256 = x / 256 / 2 by omega]
  omega
theorem fB_rec (n x : Nat) : fB (n + 1) x = sB (x % 256) + 256 * fB n (x / 256) := by
  have h := t2 ⟨x % 256, by omega⟩ ⟨x / 256 % 4, by omega⟩
  simp only at h
  unfold fB sB
  rw [and_mask8 _ 51 n (by decide), and_mask8 _ 51 n (by decide), show x / 4 % 256 = x % 256 / 4 + 64 * (x / 256 % 4) by omega, h, show x / 4 / 256 = x / 256 / 4 by omega]
  omega
theorem fB_low (n x : Nat) : fB n x % 16 ≤ 6 := by
  cases n with
  | zero => simp [fB, mask8]
  | succ n =>
    have h := (sB_lt ⟨x % 256, by omega⟩).2
    simp only at h
    rw [fB_rec]
    omega
theorem fC_rec (n v : Nat) (h : v % 256 + v / 16 % 256 < 256) : fC (n + 1) v = (v % 256 + v / 16 % 256) % 16 + 256 * fC n (v / 256) := by
  unfold fC
  have e : (v % 256 + v / 16 % 256) % 256 &&& 15 = (v % 256 + v / 16 % 256) % 16 := by
    rw [Nat.mod_eq_of_lt h]; exact Nat.and_two_pow_sub_one_eq_mod _ 4
  rw [and_mask8 _ 15 n (by decide), show (v / 16 + v) % 256 = (v % 256 + v / 16 % 256) % 256 by omega, e, show (v / 16 + v) / 256 = v / 256 / 16 + v / 256 by omega]

theorem fABC (n : Nat) : ∀ x, fC n (fB n (fA n x)) = popB n x := by
  induction n with
  | zero => intro x; simp [fC, mask8, popB]
  | succ n ih =>
    intro x
    have h1 := sA_lt ⟨x % 256, by omega⟩
    have h2 := sB_lt ⟨sA (x % 256), h1⟩
    have h3 := s_pop ⟨x % 256, by omega⟩
    simp only at h1 h2 h3
    have hu : fA (n + 1) x % 256 = sA (x % 256) := by rw [fA_rec]; omega
    have hu2 : fA (n + 1) x / 256 = fA n (x / 256) := by rw [fA_rec]; omega
    have hv : fB (n + 1) (fA (n + 1) x) = sB (sA (x % 256)) + 256 * fB n (fA n (x / 256)) := by rw [fB_rec, hu, hu2]
    have hz := fB_low n (fA n (x / 256))
    rw [hv, popB, ← ih]
    generalize fB n (fA n (x / 256)) = z at *
    generalize sB (sA (x % 256)) = s at *
    have e1 : (s + 256 * z) % 256 = s := by omega
    have e20 : (s + 256 * z) / 16 = s / 16 + 16 * z := by omega
    have e2 : (s + 256 * z) / 16 % 256 = s / 16 + 16 * (z % 16) := by rw [e20]; omega
    have e3 : (s + 256 * z) / 256 = z := by omega
    rw [fC_rec _ _ (by rw [e1, e2]; omega), e1, e2, e3, ← h3]
    omega

theorem popN_mod (x : Nat) : popN x 8 = popN (x % 256) 8 := by
  have h : ∀ k, k ≤ 8 → popN x k = popN (x % 256) k := by
    intro k
    induction k with
    | zero => intro _; rfl
    | succ k ih =>
      intro hk
      rw [popN, popN, ih (by omega), show (256 : Nat) = 2 ^ 8 by decide, Nat.testBit_mod_two_pow]
      simp [show k < 8 by omega]
  exact h 8 (Nat.le_refl _)
theorem popN_add (x k : Nat) : popN x (8 + k) = popN (x % 256) 8 + popN (x / 256) k := by
  induction k with
  | zero => rw [Nat.add_zero, popN_mod]; rfl
  | succ k ih =>
    rw [← Nat.add_assoc, popN, ih, popN, Nat.add_assoc]
    congr 3
    rw [show (256 : Nat) = 2 ^ 8 by decide, Nat.testBit_div_two_pow, Nat.add_comm]
theorem popN_sum : ∀ n x, popN x (8 * n) = sumB n x
  | 0, _ => rfl
  | n + 1, x => by rw [Nat.mul_succ, Nat.add_comm, popN_add, popN_sum n, sumB]

/-- The end of the library's sum. -/
theorem pop_end (x : Nat) : ∃ z1 z2 z3 : Nat, z1 = popB 8 x + popB 8 x / 256 ∧ z2 = z1 + z1 / 65536 ∧ z3 = z2 + z2 / 4294967296 ∧ popB 8 x < 1000000000000000000 ∧ z3 < 4000000000000000000 ∧ z3 % 128 = popN x 64 := by
  refine ⟨_, _, _, rfl, rfl, rfl, ?_⟩
  rw [show 64 = 8 * 8 by decide, popN_sum]
  simp only [popB, sumB]
  have b0 := pop_le8 ⟨x % 256, by omega⟩
  have b1 := pop_le8 ⟨x / 256 % 256, by omega⟩
  have b2 := pop_le8 ⟨x / 256 / 256 % 256, by omega⟩
  have b3 := pop_le8 ⟨x / 256 / 256 / 256 % 256, by omega⟩
  have b4 := pop_le8 ⟨x / 256 / 256 / 256 / 256 % 256, by omega⟩
  have b5 := pop_le8 ⟨x / 256 / 256 / 256 / 256 / 256 % 256, by omega⟩
  have b6 := pop_le8 ⟨x / 256 / 256 / 256 / 256 / 256 / 256 % 256, by omega⟩
  have b7 := pop_le8 ⟨x / 256 / 256 / 256 / 256 / 256 / 256 / 256 % 256, by omega⟩
  simp only at b0 b1 b2 b3 b4 b5 b6 b7
  generalize popN (x % 256) 8 = p0 at *
  generalize popN (x / 256 % 256) 8 = p1 at *
  generalize popN (x / 256 / 256 % 256) 8 = p2 at *
  generalize popN (x / 256 / 256 / 256 % 256) 8 = p3 at *
  generalize popN (x / 256 / 256 / 256 / 256 % 256) 8 = p4 at *
  generalize popN (x / 256 / 256 / 256 / 256 / 256 % 256) 8 = p5 at *
  generalize popN (x / 256 / 256 / 256 / 256 / 256 / 256 % 256) 8 = p6 at *
  generalize popN (x / 256 / 256 / 256 / 256 / 256 / 256 / 256 % 256) 8 = p7 at *
  have e1 : p0 + 256 * (p1 + 256 * (p2 + 256 * (p3 + 256 * (p4 + 256 * (p5 + 256 * (p6 + 256 * (p7 + 256 * 0))))))) + (p0 + 256 * (p1 + 256 * (p2 + 256 * (p3 + 256 * (p4 + 256 * (p5 + 256 * (p6 + 256 * (p7 + 256 * 0)))))))) / 256
      = (p0 + p1) + 256 * (p1 + p2) + 65536 * (p2 + p3) + 16777216 * (p3 + p4) + 4294967296 * (p4 + p5) + 1099511627776 * (p5 + p6) + 281474976710656 * (p6 + p7) + 72057594037927936 * p7 := by omega
  rw [e1]
  have e2 : ((p0 + p1) + 256 * (p1 + p2) + 65536 * (p2 + p3) + 16777216 * (p3 + p4) + 4294967296 * (p4 + p5) + 1099511627776 * (p5 + p6) + 281474976710656 * (p6 + p7) + 72057594037927936 * p7) / 65536
      = (p2 + p3) + 256 * (p3 + p4) + 65536 * (p4 + p5) + 16777216 * (p5 + p6) + 4294967296 * (p6 + p7) + 1099511627776 * p7 := by omega
  rw [e2]
  have e3 : ((p0 + p1) + 256 * (p1 + p2) + 65536 * (p2 + p3) + 16777216 * (p3 + p4) + 4294967296 * (p4 + p5) + 1099511627776 * (p5 + p6) + 281474976710656 * (p6 + p7) + 72057594037927936 * p7
      + ((p2 + p3) + 256 * (p3 + p4) + 65536 * (p4 + p5) + 16777216 * (p5 + p6) + 4294967296 * (p6 + p7) + 1099511627776 * p7)) / 4294967296
      = (p4 + p5 + p6 + p7) + 256 * (p5 + p6 + p7) + 65536 * (p6 + p7) + 16777216 * p7 := by omega
  rw [e3]
  clear e1 e2 e3
  refine ⟨by omega, by omega, by omega⟩
end Go.Proofs.YtknkkagapcigfaaDoor.WMath
namespace Go.Proofs.YtknkkagapcigfaaDoor
open Go.RowKit WMath

/-- After j pairs of bits: the root so far is r, what is left s. -/
def SqSt (x j r s : Nat) : Prop := x / 2 ^ (64 - 2 * j) = r * r + s ∧ s ≤ 2 * r ∧ r < 2 ^ j

theorem sq_step (x j r s t : Nat) (hj : j < 32) (ht : t = x / 2 ^ (62 - 2 * j) % 4) (S : SqSt x j r s) :
    (4 * s + t < 4 * r + 1 → SqSt x (j + 1) (r * 2) (4 * s + t)) ∧ (4 * r + 1 ≤ 4 * s + t → SqSt x (j + 1) (r * 2 + 1) (4 * s + t - (4 * r + 1))) := by
  obtain ⟨h, hs, hr⟩ := S
  have e1 : 64 - 2 * (j + 1) = 62 - 2 * j := by omega
  have e2 : 2 ^ (64 - 2 * j) = 2 ^ (62 - 2 * j) * 4 := by
    rw [show 64 - 2 * j = (62 - 2 * j) + 2 by omega, Nat.pow_add]
  rw [e2, ← Nat.div_div_eq_div_mul] at h
  unfold SqSt
  rw [e1, Nat.pow_succ]
  have e3 : r * 2 * (r * 2) = 4 * (r * r) := by rw [Nat.mul_mul_mul_comm]; omega
  have e4 : (r * 2 + 1) * (r * 2 + 1) = 4 * (r * r) + 4 * r + 1 := by rw [Nat.add_mul, Nat.mul_add, e3]; omega
  rw [e3, e4]
  generalize r * r = R at *
  generalize x / 2 ^ (62 - 2 * j) = X at *
  generalize 2 ^ j = P at *
  refine ⟨fun _ => ⟨by omega, by omega, by omega⟩, fun _ => ⟨by omega, by omega, by omega⟩⟩

theorem sq_start (x : Nat) (hx : x < 18446744073709551616) : SqSt x 0 0 0 := by
  refine ⟨?_, by omega, by decide⟩
  rw [Nat.mul_zero, Nat.sub_zero, ← two64, Nat.div_eq_of_lt hx]

theorem sq_end (x r s : Nat) (S : SqSt x 32 r s) : x = r * r + s ∧ s ≤ 2 * r ∧ r < 4294967296 := by
  obtain ⟨h, hs, hr⟩ := S
  rw [show 64 - 2 * 32 = 0 by omega, Nat.pow_zero, Nat.div_one] at h
  exact ⟨h, hs, hr⟩

theorem top_two (x j : Nat) (hj : j < 32) : x * 2 ^ (2 * j) % 18446744073709551616 / 4611686018427387904 = x / 2 ^ (62 - 2 * j) % 4 := by
  have e1 : (18446744073709551616 : Nat) = 2 ^ (2 * j) * (2 ^ (62 - 2 * j) * 4) := by
    rw [show (4 : Nat) = 2 ^ 2 by decide, ← Nat.pow_add, ← Nat.pow_add, two64]; congr 1; omega
  have e2 : (4611686018427387904 : Nat) = 2 ^ (2 * j) * 2 ^ (62 - 2 * j) := by
    rw [← Nat.pow_add, show 2 * j + (62 - 2 * j) = 62 by omega]
  rw [e1, e2, Nat.mul_comm x, Nat.mul_mod_mul_left, Nat.mul_div_mul_left _ _ (Nat.two_pow_pos _), Nat.mod_mul_right_div_self]

theorem mul4_step (x j X : Nat) (h : X = x * 2 ^ (2 * j) % 18446744073709551616) : X * 4 % 18446744073709551616 = x * 2 ^ (2 * (j + 1)) % 18446744073709551616 := by
  rw [h, show 2 * (j + 1) = 2 * j + 2 by omega, Nat.pow_add, ← Nat.mul_assoc]
  exact Nat.mod_mul_mod _ _ _

theorem or_two (s t : Nat) (h : s % 4 = 0) (ht : t < 4) : s ||| t = s + t := by
  have := Nat.two_pow_add_eq_or_of_lt (i := 2) (b := t) ht (s / 4)
  have e : 2 ^ 2 * (s / 4) = s := by omega
  rw [e] at this
  exact this.symm
theorem or_two_i (S t : Nat) (hS : S % 4 = 0) (ht : t < 4) (h : S < 18446744073709551616) : bits .or .u64 (S : Int) (t : Int) = ((S + t : Nat) : Int) := by
  rw [bits_or_u64_nat S t h (by omega), or_two S t hS ht]

/-- What one round reckons. -/
theorem sq_round (x j r s X : Nat) (hj : j < 32) (HX : X = x * 2 ^ (2 * j) % 18446744073709551616) (HS : SqSt x j r s) :
    s * 4 + 3 < 18446744073709551616 ∧ r * 4 + 1 < 18446744073709551616 ∧ X < 18446744073709551616 ∧
    ∃ R T Q Q1 X' : Nat, R < 18446744073709551616 ∧ bits .or .u64 ((s : Int) * 4) ((X : Int) / 4611686018427387904) = (R : Int) ∧ bits .or .u64 ((r : Int) * 4) 1 = (T : Int) ∧ (r : Int) * 2 = (Q : Int) ∧ bits .or .u64 (Q : Int) 1 = (Q1 : Int) ∧
      IntKind.u64.wrap ((X : Int) * 4) = (X' : Int) ∧ Hid (X' = x * 2 ^ (2 * (j + 1)) % 18446744073709551616) ∧ Q < 9223372036854775808 ∧
      Hid (R < T → SqSt x (j + 1) Q R) ∧ Hid (∀ D : Nat, (D : Int) = R - T → SqSt x (j + 1) Q1 D) := by
  have hs := HS.2.1
  have hr := HS.2.2
  have hp : 2 ^ j ≤ 2 ^ 32 := Nat.pow_le_pow_right (by decide) (by omega)
  have hr2 : r < 4294967296 := by omega
  have hXl : X < 18446744073709551616 := by omega
  have ht : X / 4611686018427387904 = x / 2 ^ (62 - 2 * j) % 4 := by rw [HX]; exact top_two x j hj
  have st := sq_step x j r s _ hj ht HS
  have hX' := mul4_step x j X HX
  have o1 := or_two_i (s * 4) (X / 4611686018427387904) (by omega) (by omega) (by omega)
  have o2 := or_two_i (r * 4) 1 (by omega) (by omega) (by omega)
  have o3 := or_bit_i (r * 2) 1 (by omega) (by omega) (by omega)
  have eX : IntKind.u64.wrap ((X : Int) * 4) = ((X * 4 % 18446744073709551616 : Nat) : Int) := by rw [IntKind.wrap_u64]; omega
  clear HX HS ht
  refine ⟨by omega, by omega, hXl, s * 4 + X / 4611686018427387904, r * 4 + 1, r * 2, r * 2 + 1, _, by omega, ?_, o2, by omega, o3, eX, hX', by omega, ?_, ?_⟩
  · rw [← o1]; congr 1
  · intro h
    have := st.1 (by omega)
    rw [Nat.mul_comm 4 s] at this
    exact this
  · intro D hD
    have := st.2 (by omega)
    rw [show 4 * s + X / 4611686018427387904 - (4 * r + 1) = D by omega] at this
    exact this

theorem root_one (x r s p t : Nat) (h1 : x = r * r + s) (h2 : s ≤ 2 * r) (h3 : x = p * p + t) (h4 : t ≤ 2 * p) : r = p ∧ s = t := by
  have hle : ∀ a b u v : Nat, a * a + u = b * b + v → u ≤ 2 * a → b ≤ a := by
    intro a b u v h hu
    apply Nat.le_of_not_lt
    intro hab
    have := Nat.mul_le_mul hab hab
    rw [Nat.succ_eq_add_one, Nat.add_mul, Nat.mul_add] at this
    omega
  have e : r = p := Nat.le_antisymm (hle p r t s (by omega) h4) (hle r p s t (by omega) h2)
  subst e
  exact ⟨rfl, by omega⟩
end Go.Proofs.YtknkkagapcigfaaDoor
namespace Go.Proofs.YtknkkagapcigfaaDoor
open Go.RowKit WMath

theorem div_lt (hi lo d : Nat) (hl : lo < 18446744073709551616) (hh : hi < d) : (hi * 18446744073709551616 + lo) / d < 18446744073709551616 := by
  rw [Nat.div_lt_iff_lt_mul (by omega), Nat.mul_comm 18446744073709551616 d]
  have : (hi + 1) * 18446744073709551616 ≤ d * 18446744073709551616 := Nat.mul_le_mul_right _ hh
  omega

theorem div_no (hi lo d : Nat) (hh : d ≤ hi) (w : World) :
    Calls Tryd.prog 94 #[.int .u64 hi, .int .u64 lo, .int .u64 d] w fun e w' => e = .returned (.tuple #[.int .u64 0, .int .u64 0, .int .i64 2]) ∧ w' = w := by
  go_enter Tryd.func94, Tryd.ntmps94
  go_wp2
  refine wp_scope_jumps 0 (fun _ _ => False) (fun _ _ => 0) rfl ?_ (fun _ _ h => h.elim)
  go_wp2
  simp only [Exit.jump]
  go_ret3
  exact ⟨rfl, rfl⟩

/-- What one round of the document's Div reckons. -/
theorem rdiv_round (hi lo d j q r : Nat) (hd : d < 18446744073709551616) (hj : j < 64) (HS : DivSt hi lo d j q r) :
    r < d ∧ q * 2 + 1 < 18446744073709551616 ∧
    ((r * 2 + (lo.testBit (63 - j)).toNat < 18446744073709551616 ∧ r * 2 < 18446744073709551616 ∧ ((r : Int) / 9223372036854775808 == 1) = false ∧ r * 2 + (lo.testBit (63 - j)).toNat < d ∧ Hid (DivSt hi lo d (j + 1) (q * 2) (r * 2 + (lo.testBit (63 - j)).toNat))) ∨
     (∃ Rd : Nat, r * 2 + (lo.testBit (63 - j)).toNat < 18446744073709551616 ∧ r * 2 < 18446744073709551616 ∧ ((r : Int) / 9223372036854775808 == 1) = false ∧ d ≤ r * 2 + (lo.testBit (63 - j)).toNat ∧ Hid (Rd = r * 2 + (lo.testBit (63 - j)).toNat - d) ∧ Hid (DivSt hi lo d (j + 1) (q * 2 + 1) Rd)) ∨
     (∃ Rd : Nat, 18446744073709551616 ≤ r * 2 ∧ ((r : Int) / 9223372036854775808 == 1) = true ∧ Hid (Rd + d = r * 2 + (lo.testBit (63 - j)).toNat) ∧ Hid (DivSt hi lo d (j + 1) (q * 2 + 1) Rd))) := by
  have hr := HS.2.1
  have hq := HS.2.2
  have hq2 : q < 9223372036854775808 := by
    have : 2 ^ j ≤ 2 ^ 63 := Nat.pow_le_pow_right (by decide) (by omega)
    omega
  have ds := div_step hi lo d j q r _ hj rfl HS
  have hb : (lo.testBit (63 - j)).toNat ≤ 1 := by cases lo.testBit (63 - j) <;> decide
  rw [Nat.mul_comm 2 r] at ds
  clear HS
  generalize (lo.testBit (63 - j)).toNat = t at *
  refine ⟨hr, by omega, ?_⟩
  by_cases hM : r * 2 < 18446744073709551616
  · have hout : ((r : Int) / 9223372036854775808 == 1) = false := by
      rw [beq_eq_false_iff_ne]; omega
    by_cases hA : r * 2 + t < d
    · exact Or.inl ⟨by omega, hM, hout, hA, ds.1 hA⟩
    · exact Or.inr (Or.inl ⟨_, by omega, hM, hout, by omega, hide rfl, ds.2 (by omega)⟩)
  · have hout : ((r : Int) / 9223372036854775808 == 1) = true := by
      rw [beq_iff_eq]; omega
    exact Or.inr (Or.inr ⟨r * 2 + t - d, by omega, hout, by show _ = _; omega, ds.2 (by omega)⟩)

end Go.Proofs.YtknkkagapcigfaaDoor
