/-
  Package kind: what its functions over two words return.
-/
import Derived.Test.YtkmlbjlaahcahaaDoorK1
namespace Go.Proofs.YtkmlbjlaahcahaaDoor
open Go.RowKit WMath

theorem cell7s {w : World} {g : Nat} {T : TypeId} {a b c d : Value} (R : w.heap[g]? = some (.cells #[a, b, c, d] T)) : w.cell? ⟨g, 0, none⟩ = some a ∧ w.cell? ⟨g, 1, none⟩ = some b ∧ w.cell? ⟨g, 2, none⟩ = some c ∧ w.cell? ⟨g, 3, none⟩ = some d := ⟨cell7 R 0 _ rfl, cell7 R 1 _ rfl, cell7 R 2 _ rfl, cell7 R 3 _ rfl⟩
theorem cell7t {w : World} {g : Nat} {T : TypeId} {a b : Value} (R : w.heap[g]? = some (.cells #[a, b] T)) : w.cell? ⟨g, 0, none⟩ = some a ∧ w.cell? ⟨g, 1, none⟩ = some b := ⟨cell7 R 0 _ rfl, cell7 R 1 _ rfl⟩
theorem kopn1 (w : World) (o : Obj) : (w.alloc o).heap[w.heap.size]? = some o ∧ Below w.heap.size w (w.alloc o) := ⟨heap_alloc_last _ _, (Below.refl _ _).alloc (Nat.le_refl _) _⟩
theorem kopn2 (w : World) (o1 o2 : Obj) : ((w.alloc o1).alloc o2).heap[w.heap.size]? = some o1 ∧ ((w.alloc o1).alloc o2).heap[w.heap.size + 1]? = some o2 ∧ Below w.heap.size w ((w.alloc o1).alloc o2) := by
  obtain ⟨r0, b⟩ := kopn1 w o1
  have z : (w.alloc o1).heap.size = w.heap.size + 1 := by simp only [size_al]
  exact ⟨by rw [heap_below _ _ _ (by omega)]; exact r0, by rw [← z]; exact heap_alloc_last _ _, b.alloc (by omega) _⟩
theorem kopn3 (w : World) (o1 o2 o3 : Obj) : (((w.alloc o1).alloc o2).alloc o3).heap[w.heap.size]? = some o1 ∧ (((w.alloc o1).alloc o2).alloc o3).heap[w.heap.size + 1]? = some o2 ∧ (((w.alloc o1).alloc o2).alloc o3).heap[w.heap.size + 1 + 1]? = some o3 ∧ Below w.heap.size w (((w.alloc o1).alloc o2).alloc o3) := by
  obtain ⟨r0, r1, b⟩ := kopn2 w o1 o2
  have z : ((w.alloc o1).alloc o2).heap.size = w.heap.size + 1 + 1 := by simp only [size_al]
  exact ⟨by rw [heap_below _ _ _ (by omega)]; exact r0, by rw [heap_below _ _ _ (by omega)]; exact r1, by rw [← z]; exact heap_alloc_last _ _, b.alloc (by omega) _⟩
theorem kopn4 (w : World) (o1 o2 o3 o4 : Obj) : ((((w.alloc o1).alloc o2).alloc o3).alloc o4).heap[w.heap.size]? = some o1 ∧ ((((w.alloc o1).alloc o2).alloc o3).alloc o4).heap[w.heap.size + 1]? = some o2 ∧ ((((w.alloc o1).alloc o2).alloc o3).alloc o4).heap[w.heap.size + 1 + 1]? = some o3 ∧ ((((w.alloc o1).alloc o2).alloc o3).alloc o4).heap[w.heap.size + 1 + 1 + 1]? = some o4 ∧ Below w.heap.size w ((((w.alloc o1).alloc o2).alloc o3).alloc o4) := by
  obtain ⟨r0, r1, r2, b⟩ := kopn3 w o1 o2 o3
  have z : (((w.alloc o1).alloc o2).alloc o3).heap.size = w.heap.size + 1 + 1 + 1 := by simp only [size_al]
  exact ⟨by rw [heap_below _ _ _ (by omega)]; exact r0, by rw [heap_below _ _ _ (by omega)]; exact r1, by rw [heap_below _ _ _ (by omega)]; exact r2, by rw [← z]; exact heap_alloc_last _ _, b.alloc (by omega) _⟩

theorem k_from (x y pl : Nat) (v : Int) (hv : bits .or .u64 ((y : Int) / 2 ^ min pl 64) ((x : Int) / 2 ^ min (IntKind.u64.wrap ((pl : Int) - 64)).toNat 64) = v) (w : World) :
    Calls Tryd.prog 62 #[.agg #[.int .u64 (x : Nat), .int .u64 (y : Nat)], .int .u64 (pl : Nat)] w fun e w' => e = .returned (.int .u64 v) ∧ Below w.heap.size w w' := by
  subst hv
  go_enter Tryd.func62, Tryd.ntmps62
  go_wp2
  go_ret
  exact ⟨rfl, bal7 _ _⟩

theorem k_placed (x pl : Nat) (H L : Int) (hH : IntKind.u64.wrap ((x : Int) * 2 ^ min (IntKind.u64.wrap ((pl : Int) - 64)).toNat 64) = H) (hL : IntKind.u64.wrap ((x : Int) * 2 ^ min pl 64) = L) (w : World) :
    Calls Tryd.prog 71 #[.int .u64 (x : Nat), .int .u64 (pl : Nat)] w fun e w' => e = .returned (.agg #[.int .u64 H, .int .u64 L]) ∧ Below w.heap.size w w' := by
  subst hH hL
  go_enter Tryd.func71, Tryd.ntmps71
  go_wp2
  exact bodyPost_ret (v := .agg #[.int .u64 _, .int .u64 _]) (by simp [results, Tryd.results71, go_sem]; exact ⟨rfl, rfl⟩) rfl ⟨by simp, bal7 _ _⟩

theorem k_plus (a b c d H L K : Int) (hH : IntKind.u64.wrap (a + c) = H) (hL : IntKind.u64.wrap (b + d) = L) (hK : (if L < b then IntKind.u64.wrap (H + 1) else H) = K) (w : World) :
    Calls Tryd.prog 70 #[.agg #[.int .u64 a, .int .u64 b], .agg #[.int .u64 c, .int .u64 d]] w fun e w' => e = .returned (.agg #[.int .u64 K, .int .u64 L]) ∧ Below w.heap.size w w' := by
  by_cases h : L < b
  · rw [if_pos h] at hK
    have hd : decide (L < b) = true := decide_eq_true h
    go_enter Tryd.func70, Tryd.ntmps70
    go_wp2
    exact bodyPost_ret (v := .agg #[.int .u64 K, .int .u64 L]) (by simp [results, Tryd.results70, go_sem]) rfl ⟨rfl, btr7 (bal7 _ _) (btr7 (bal7 _ _) (btr7 (bal7 _ _) (bal7 _ _)))⟩
  · rw [if_neg h] at hK
    subst hK
    have hd : decide (L < b) = false := decide_eq_false h
    go_enter Tryd.func70, Tryd.ntmps70
    go_wp2
    exact bodyPost_ret (v := .agg #[.int .u64 H, .int .u64 L]) (by simp [results, Tryd.results70, go_sem]) rfl ⟨rfl, btr7 (bal7 _ _) (btr7 (bal7 _ _) (btr7 (bal7 _ _) (bal7 _ _)))⟩
theorem kb_width (f v : Int) (h0 : 0 ≤ f) (h1 : f ≤ 255) (hv : fW f = v) (w : World) (hT : FAt w) :
    Calls Tryd.prog 36 #[.int .u8 f] w fun e w' => e = .returned (.int .i64 v) ∧ Below w.heap.size w w' :=
  (s_width f v h0 h1 hv w hT).mono fun _ _ h => ⟨h.1, by rw [h.2]; exact bal7 _ _⟩
theorem kb_precision (f v : Int) (h0 : 0 ≤ f) (h1 : f ≤ 255) (hv : fP f = v) (w : World) (hT : FAt w) :
    Calls Tryd.prog 47 #[.int .u8 f] w fun e w' => e = .returned (.int .i64 v) ∧ Below w.heap.size w w' :=
  (s_precision f v h0 h1 hv w hT).mono fun _ _ h => ⟨h.1, by rw [h.2]; exact bal7 _ _⟩
theorem kb_emax (f v : Int) (h0 : 0 ≤ f) (h1 : f ≤ 255) (hv : fE f = v) (w : World) (hT : FAt w) :
    Calls Tryd.prog 74 #[.int .u8 f] w fun e w' => e = .returned (.int .i64 v) ∧ Below w.heap.size w w' :=
  (s_emax f v h0 h1 hv w hT).mono fun _ _ h => ⟨h.1, by rw [h.2]; exact bal7 _ _⟩
end Go.Proofs.YtkmlbjlaahcahaaDoor
