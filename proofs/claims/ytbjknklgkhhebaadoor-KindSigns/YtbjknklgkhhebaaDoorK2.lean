/-
  Package kind: what its functions over two words return.
-/
import Derived.Test.YtbjknklgkhhebaaDoorK1
namespace Go.Proofs.YtbjknklgkhhebaaDoor
open Go.RowKit WMath

theorem k_from (x y pl : Nat) (v : Int) (hv : bits .or .u64 ((y : Int) / 2 ^ min pl 64) ((x : Int) / 2 ^ min (IntKind.u64.wrap ((pl : Int) - 64)).toNat 64) = v) (w : World) :
    Calls Tryd.prog 81 #[.agg #[.int .u64 (x : Nat), .int .u64 (y : Nat)], .int .u64 (pl : Nat)] w fun e w' => e = .returned (.int .u64 v) ∧ Below w.heap.size w w' := by
  subst hv
  go_enter Tryd.func81, Tryd.ntmps81
  go_wp2
  go_ret
  exact ⟨rfl, bal7 _ _⟩

theorem k_placed (x pl : Nat) (H L : Int) (hH : IntKind.u64.wrap ((x : Int) * 2 ^ min (IntKind.u64.wrap ((pl : Int) - 64)).toNat 64) = H) (hL : IntKind.u64.wrap ((x : Int) * 2 ^ min pl 64) = L) (w : World) :
    Calls Tryd.prog 46 #[.int .u64 (x : Nat), .int .u64 (pl : Nat)] w fun e w' => e = .returned (.agg #[.int .u64 H, .int .u64 L]) ∧ Below w.heap.size w w' := by
  subst hH hL
  go_enter Tryd.func46, Tryd.ntmps46
  go_wp2
  exact bodyPost_ret (v := .agg #[.int .u64 _, .int .u64 _]) (by simp [results, Tryd.results46, go_sem]; exact ⟨rfl, rfl⟩) rfl ⟨by simp, bal7 _ _⟩

theorem k_plus (a b c d H L K : Int) (hH : IntKind.u64.wrap (a + c) = H) (hL : IntKind.u64.wrap (b + d) = L) (hK : (if L < b then IntKind.u64.wrap (H + 1) else H) = K) (w : World) :
    Calls Tryd.prog 45 #[.agg #[.int .u64 a, .int .u64 b], .agg #[.int .u64 c, .int .u64 d]] w fun e w' => e = .returned (.agg #[.int .u64 K, .int .u64 L]) ∧ Below w.heap.size w w' := by
  by_cases h : L < b
  · rw [if_pos h] at hK
    have hd : decide (L < b) = true := decide_eq_true h
    go_enter Tryd.func45, Tryd.ntmps45
    go_wp2
    exact bodyPost_ret (v := .agg #[.int .u64 K, .int .u64 L]) (by simp [results, Tryd.results45, go_sem]) rfl ⟨rfl, btr7 (bal7 _ _) (btr7 (bal7 _ _) (btr7 (bal7 _ _) (bal7 _ _)))⟩
  · rw [if_neg h] at hK
    subst hK
    have hd : decide (L < b) = false := decide_eq_false h
    go_enter Tryd.func45, Tryd.ntmps45
    go_wp2
    exact bodyPost_ret (v := .agg #[.int .u64 H, .int .u64 L]) (by simp [results, Tryd.results45, go_sem]) rfl ⟨rfl, btr7 (bal7 _ _) (btr7 (bal7 _ _) (btr7 (bal7 _ _) (bal7 _ _)))⟩
theorem kb_width (f v : Int) (h0 : 0 ≤ f) (h1 : f ≤ 255) (hv : fW f = v) (w : World) (hT : FAt w) :
    Calls Tryd.prog 55 #[.int .u8 f] w fun e w' => e = .returned (.int .i64 v) ∧ Below w.heap.size w w' :=
  (s_width f v h0 h1 hv w hT).mono fun _ _ h => ⟨h.1, by rw [h.2]; exact bal7 _ _⟩
theorem kb_precision (f v : Int) (h0 : 0 ≤ f) (h1 : f ≤ 255) (hv : fP f = v) (w : World) (hT : FAt w) :
    Calls Tryd.prog 64 #[.int .u8 f] w fun e w' => e = .returned (.int .i64 v) ∧ Below w.heap.size w w' :=
  (s_precision f v h0 h1 hv w hT).mono fun _ _ h => ⟨h.1, by rw [h.2]; exact bal7 _ _⟩
theorem kb_emax (f v : Int) (h0 : 0 ≤ f) (h1 : f ≤ 255) (hv : fE f = v) (w : World) (hT : FAt w) :
    Calls Tryd.prog 91 #[.int .u8 f] w fun e w' => e = .returned (.int .i64 v) ∧ Below w.heap.size w w' :=
  (s_emax f v h0 h1 hv w hT).mono fun _ _ h => ⟨h.1, by rw [h.2]; exact bal7 _ _⟩
end Go.Proofs.YtbjknklgkhhebaaDoor
