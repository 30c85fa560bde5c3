/-
  Package shape: the encodings that have names.
-/
import Derived.Test.YtkmlbjlaahcahaaDoorS2
namespace Go.Proofs.YtkmlbjlaahcahaaDoor
open Go.RowKit WMath

def pkHi (f : Int) (neg : Bool) (x a : Int) : Int := if neg then bits .or .u64 (bits .or .u64 (rHi x (IntKind.u64.wrap (fP f - 1))) a) (rHi 1 (fW f - 1)) else bits .or .u64 (rHi x (IntKind.u64.wrap (fP f - 1))) a
def pkLo (f : Int) (neg : Bool) (x b : Int) : Int := if neg then bits .or .u64 (bits .or .u64 (rLo x (IntKind.u64.wrap (fP f - 1))) b) (rLo 1 (fW f - 1)) else bits .or .u64 (rLo x (IntKind.u64.wrap (fP f - 1))) b

theorem s_pack_is (f x a b I J : Int) (neg : Bool) (hf : Is4 f) (hI : pkHi f neg x a = I) (hJ : pkLo f neg x b = J) (w : World) (hT : FAt w) :
    Calls Tryd.prog 63 #[.int .u8 f, .bool neg, .int .u64 x, .agg #[.int .u64 a, .int .u64 b]] w fun e w' => e = .returned (.agg #[.int .u64 I, .int .u64 J]) ∧ Below w.heap.size w w' := by
  subst hI hJ
  have k : 0 ≤ IntKind.u64.wrap (fP f - 1) ∧ IntKind.u64.wrap (fP f - 1) ≤ 18446744073709551615 ∧ 0 ≤ fW f - 1 ∧ fW f - 1 ≤ 127 ∧ fC f = 0 ∧ 0 ≤ f ∧ f ≤ 255 := by
    rcases hf with rfl | rfl | rfl | rfl <;> decide +kernel
  have h := s_pack_any f x a b _ _ _ _ _ _ _ _ _ _ _ _ neg k.2.2.2.2.2.1 k.2.2.2.2.2.2 k.2.2.2.2.1 rfl rfl k.1 k.2.1 rfl rfl rfl rfl rfl rfl k.2.2.1 k.2.2.2.1 rfl rfl rfl rfl w hT
  refine h.mono ?_
  rintro r w' ⟨rfl, b⟩
  refine ⟨?_, b⟩
  cases neg <;> rfl

theorem top7 {f : Int} (h : Is4 f) : IntKind.u64.wrap (IntKind.u64.wrap (2 ^ min (fW f - fP f).toNat 64) - 1) = (oV f : Int) := by
  rcases h with rfl | rfl | rfl | rfl <;> decide +kernel

theorem s_top_is (f : Int) (hf : Is4 f) (w : World) (hT : FAt w) :
    Calls Tryd.prog 64 #[.int .u8 f] w fun e w' => e = .returned (.int .u64 (oV f : Nat)) ∧ Below w.heap.size w w' :=
  s_top f _ _ _ _ (is4_ok hf).1 (is4_ok hf).2.1 rfl rfl rfl (is4_ok hf).2.2.2 (top7 hf) w hT

theorem pk_Inf {f : Int} (h : Is4 f) (neg : Bool) : pkHi f neg ((oV f : Nat)) (0) = ((bv7 (eInf f neg)).1 : Nat) ∧ pkLo f neg ((oV f : Nat)) (0) = ((bv7 (eInf f neg)).2 : Nat) := by
  rcases h with rfl | rfl | rfl | rfl <;> cases neg <;> decide +kernel
theorem pk_Zero {f : Int} (h : Is4 f) (neg : Bool) : pkHi f neg (0) (0) = ((bv7 (eZero f neg)).1 : Nat) ∧ pkLo f neg (0) (0) = ((bv7 (eZero f neg)).2 : Nat) := by
  rcases h with rfl | rfl | rfl | rfl <;> cases neg <;> decide +kernel
theorem pk_LeastNormal {f : Int} (h : Is4 f) (neg : Bool) : pkHi f neg (1) (0) = ((bv7 (eLeastNormal f neg)).1 : Nat) ∧ pkLo f neg (1) (0) = ((bv7 (eLeastNormal f neg)).2 : Nat) := by
  rcases h with rfl | rfl | rfl | rfl <;> cases neg <;> decide +kernel
theorem pk_Least {f : Int} (h : Is4 f) (neg : Bool) : pkHi f neg (0) (0) = ((bv7 (eLeast f neg)).1 : Nat) ∧ pkLo f neg (0) (1) = ((bv7 (eLeast f neg)).2 : Nat) := by
  rcases h with rfl | rfl | rfl | rfl <;> cases neg <;> decide +kernel
theorem pk_One {f : Int} (h : Is4 f) (neg : Bool) : pkHi f neg (fE f) (0) = ((bv7 (eOne f neg)).1 : Nat) ∧ pkLo f neg (fE f) (0) = ((bv7 (eOne f neg)).2 : Nat) := by
  rcases h with rfl | rfl | rfl | rfl <;> cases neg <;> decide +kernel
theorem pk_NaN {f : Int} (h : Is4 f) : pkHi f false ((oV f : Nat)) (rHi 1 (fP f - 2)) = ((bv7 (eNaN f)).1 : Nat) ∧ pkLo f false ((oV f : Nat)) (rLo 1 (fP f - 2)) = ((bv7 (eNaN f)).2 : Nat) := by
  rcases h with rfl | rfl | rfl | rfl <;> decide +kernel
theorem pk_Greatest {f : Int} (h : Is4 f) (neg : Bool) : pkHi f neg (((oV f : Nat) : Int) - 1) ((if rLo 1 (fP f - 1) = 0 then IntKind.u64.wrap (rHi 1 (fP f - 1) - 1) else rHi 1 (fP f - 1))) = ((bv7 (eGreatest f neg)).1 : Nat) ∧ pkLo f neg (((oV f : Nat) : Int) - 1) (IntKind.u64.wrap (rLo 1 (fP f - 1) - 1)) = ((bv7 (eGreatest f neg)).2 : Nat) := by
  rcases h with rfl | rfl | rfl | rfl <;> cases neg <;> decide +kernel

set_option maxHeartbeats 1000000 in
theorem s_inf (f : Int) (neg : Bool) (hf : Is4 f) (v : Nat) (hv : eInf f neg = v) (w : World) (hT : FAt w) :
    Calls Tryd.prog 39 #[.int .u8 f, .bool neg] w fun e w' => e = .returned (bitsV (bv7 v)) ∧ Below w.heap.size w w' := by
  subst hv
  have TT := box hT
  have P := box (pk_Inf hf neg)
  obtain ⟨x, y, hxy⟩ : ∃ x y, bv7 (eInf f neg) = (x, y) := ⟨_, _, rfl⟩
  rw [hxy] at P ⊢
  have e0 : bitsV (x, y) = .agg #[.int .u64 (x : Nat), .int .u64 (y : Nat)] := rfl
  rw [e0]
  have f4 := is4_ok hf
  clear hxy hT e0
  have R0 : (w.alloc (.cells #[.int .u64 0, .int .u64 0] 25)).heap[w.heap.size]? = some (.cells #[.int .u64 0, .int .u64 0] 25) := last7 _ _
  have B0 := bal7 w (.cells #[.int .u64 0, .int .u64 0] 25)
  go_enter Tryd.func39, Tryd.ntmps39
  go_wp2_with fail
  refine (s_top_is f hf _ (fatB TT.out B0)).mono ?_
  rintro r w1 ⟨rfl, b1⟩
  have B1 := btr7 B0 b1
  have R1 := heap_of b1 _ _ _ R0
  clear B0 R0 b1
  go_wp2_with fail
  refine (s_pack_is f _ 0 0 _ _ neg hf P.out.1 P.out.2 _ (fatB TT.out B1)).mono ?_
  rintro r w2 ⟨rfl, b2⟩
  have B2 := btr7 B1 b2
  have R2 := heap_of b2 _ _ _ R1
  clear B1 R1 b2
  have q0 := fz (k := 0) R2
  have q1 := fz (k := 1) R2
  have d0 := cell7 R2 0 _ rfl
  have d1 := cell7 R2 1 _ rfl
  obtain ⟨E0, E1⟩ := set2_cells R2 (.int .u64 x) (.int .u64 y)
  go_wp2
  exact bodyPost_ret (v := .agg #[.int .u64 x, .int .u64 y]) (by simp [results, Tryd.results39, go_sem, E0, E1]) rfl ⟨rfl, set2_below B2 (by omega) _ _⟩

set_option maxHeartbeats 1000000 in
theorem s_zero (f : Int) (neg : Bool) (hf : Is4 f) (v : Nat) (hv : eZero f neg = v) (w : World) (hT : FAt w) :
    Calls Tryd.prog 55 #[.int .u8 f, .bool neg] w fun e w' => e = .returned (bitsV (bv7 v)) ∧ Below w.heap.size w w' := by
  subst hv
  have TT := box hT
  have P := box (pk_Zero hf neg)
  obtain ⟨x, y, hxy⟩ : ∃ x y, bv7 (eZero f neg) = (x, y) := ⟨_, _, rfl⟩
  rw [hxy] at P ⊢
  have e0 : bitsV (x, y) = .agg #[.int .u64 (x : Nat), .int .u64 (y : Nat)] := rfl
  rw [e0]
  have f4 := is4_ok hf
  clear hxy hT e0
  have R0 : (w.alloc (.cells #[.int .u64 0, .int .u64 0] 25)).heap[w.heap.size]? = some (.cells #[.int .u64 0, .int .u64 0] 25) := last7 _ _
  have B0 := bal7 w (.cells #[.int .u64 0, .int .u64 0] 25)
  go_enter Tryd.func55, Tryd.ntmps55
  go_wp2_with fail
  refine (s_pack_is f 0 0 0 _ _ neg hf P.out.1 P.out.2 _ (fatB TT.out B0)).mono ?_
  rintro r w1 ⟨rfl, b1⟩
  have B1 := btr7 B0 b1
  have R1 := heap_of b1 _ _ _ R0
  clear B0 R0 b1
  have q0 := fz (k := 0) R1
  have q1 := fz (k := 1) R1
  have d0 := cell7 R1 0 _ rfl
  have d1 := cell7 R1 1 _ rfl
  obtain ⟨E0, E1⟩ := set2_cells R1 (.int .u64 x) (.int .u64 y)
  go_wp2
  exact bodyPost_ret (v := .agg #[.int .u64 x, .int .u64 y]) (by simp [results, Tryd.results55, go_sem, E0, E1]) rfl ⟨rfl, set2_below B1 (by omega) _ _⟩

end Go.Proofs.YtkmlbjlaahcahaaDoor
