/-
  What the functions that the statement reaches return: part 2 (IK, IL, IM, ShelfJ, ShelfC, IN, IO, SL21).
-/
import Derived.Laws.AppendOwn
import Derived.OwnWalk
import Derived.Maps.AppendAt
import Derived.Lib.Join
import Derived.Lib.IndexMore
import Derived.Shelf.Strings.OnBuilder
import Derived.Ground.NamesProg
import Derived.Test.YtinagedilgihjaaDoorProg
import Derived.Shelf.Strings.Search3
import Derived.Test.YtinagedilgihjaaDoorRows
import Derived.OpenShut
import Derived.LaidMore
import Derived.Lib.LaidTab
import Derived.Stop.Joined
import Derived.Stop.LaidErr
import Derived.Test.YtinagedilgihjaaDoorCt01
namespace Go.Proofs.YtinagedilgihjaaDoor
set_option maxRecDepth 100000
set_option maxHeartbeats 40000000
set_option maxRecDepth 100000
open Go.RowKit WMath
set_option linter.unusedSimpArgs false
set_option linter.unusedVariables false
theorem ixr0 (w : World) : (Instr.index 63 (.agg #[.string ⟨#[102, 102, 108, 97, 103, 115]⟩, .int .u64 0, .int .u8 31, .string ⟨#[102, 114, 109]⟩, .int .u64 5, .int .u8 7, .string ⟨#[102, 99, 115, 114]⟩, .int .u64 0, .int .u8 255]) (.int .i64 0)).run Tryd.prog w = .ok (.agg #[.string ⟨#[102, 102, 108, 97, 103, 115]⟩, .int .u64 0, .int .u8 31]) w := by kernel_rfl
theorem ixr1 (w : World) : (Instr.index 63 (.agg #[.string ⟨#[102, 102, 108, 97, 103, 115]⟩, .int .u64 0, .int .u8 31, .string ⟨#[102, 114, 109]⟩, .int .u64 5, .int .u8 7, .string ⟨#[102, 99, 115, 114]⟩, .int .u64 0, .int .u8 255]) (.int .i64 1)).run Tryd.prog w = .ok (.agg #[.string ⟨#[102, 114, 109]⟩, .int .u64 5, .int .u8 7]) w := by kernel_rfl
theorem ixr2 (w : World) : (Instr.index 63 (.agg #[.string ⟨#[102, 102, 108, 97, 103, 115]⟩, .int .u64 0, .int .u8 31, .string ⟨#[102, 114, 109]⟩, .int .u64 5, .int .u8 7, .string ⟨#[102, 99, 115, 114]⟩, .int .u64 0, .int .u8 255]) (.int .i64 2)).run Tryd.prog w = .ok (.agg #[.string ⟨#[102, 99, 115, 114]⟩, .int .u64 0, .int .u8 255]) w := by kernel_rfl
theorem ixw0 (w : World) : (Instr.index 65 (.agg #[.string ⟨#[110, 118]⟩, .string ⟨#[100, 122]⟩, .string ⟨#[111, 102]⟩, .string ⟨#[117, 102]⟩, .string ⟨#[110, 120]⟩]) (.int .i64 0)).run Tryd.prog w = .ok (.string ⟨#[110, 118]⟩) w := by kernel_rfl
theorem ixw1 (w : World) : (Instr.index 65 (.agg #[.string ⟨#[110, 118]⟩, .string ⟨#[100, 122]⟩, .string ⟨#[111, 102]⟩, .string ⟨#[117, 102]⟩, .string ⟨#[110, 120]⟩]) (.int .i64 1)).run Tryd.prog w = .ok (.string ⟨#[100, 122]⟩) w := by kernel_rfl
theorem ixw2 (w : World) : (Instr.index 65 (.agg #[.string ⟨#[110, 118]⟩, .string ⟨#[100, 122]⟩, .string ⟨#[111, 102]⟩, .string ⟨#[117, 102]⟩, .string ⟨#[110, 120]⟩]) (.int .i64 2)).run Tryd.prog w = .ok (.string ⟨#[111, 102]⟩) w := by kernel_rfl
theorem ixw3 (w : World) : (Instr.index 65 (.agg #[.string ⟨#[110, 118]⟩, .string ⟨#[100, 122]⟩, .string ⟨#[111, 102]⟩, .string ⟨#[117, 102]⟩, .string ⟨#[110, 120]⟩]) (.int .i64 3)).run Tryd.prog w = .ok (.string ⟨#[117, 102]⟩) w := by kernel_rfl
theorem ixw4 (w : World) : (Instr.index 65 (.agg #[.string ⟨#[110, 118]⟩, .string ⟨#[100, 122]⟩, .string ⟨#[111, 102]⟩, .string ⟨#[117, 102]⟩, .string ⟨#[110, 120]⟩]) (.int .i64 4)).run Tryd.prog w = .ok (.string ⟨#[110, 120]⟩) w := by kernel_rfl
set_option maxRecDepth 100000 in
set_option maxHeartbeats 8000000 in
theorem pc_named1 (s : ByteArray) (h1 : ([102, 102, 108, 97, 103, 115] == s.toList) = true) (w : World) (hT : FAt w) : Calls Tryd.prog 24 #[.string s] w fun r w' => r = .returned (.tuple #[.int .i64 1, .int .i64 0]) ∧ Below w.heap.size w w' := by
  have c0 := fat_at hT 0 (.string ⟨#[102, 102, 108, 97, 103, 115]⟩) (by decide) rfl
  have d0 := fat_at hT 1 (.int .u64 0) (by decide) rfl
  have e0 := fat_at hT 2 (.int .u8 31) (by decide) rfl
  have c1 := fat_at hT 3 (.string ⟨#[102, 114, 109]⟩) (by decide) rfl
  have d1 := fat_at hT 4 (.int .u64 5) (by decide) rfl
  have e1 := fat_at hT 5 (.int .u8 7) (by decide) rfl
  have c2 := fat_at hT 6 (.string ⟨#[102, 99, 115, 114]⟩) (by decide) rfl
  have d2 := fat_at hT 7 (.int .u64 0) (by decide) rfl
  have e2 := fat_at hT 8 (.int .u8 255) (by decide) rfl
  clear hT
  go_enter Tryd.func24, Tryd.ntmps24
  go_wp2
  go_loopw [7] (fun iv wr => ∃ k : Int, 0 ≤ k ∧ k ≤ 0 ∧ iv = .int .i64 k ∧ Below w.heap.size w wr) (fun iv _ => 4 - (intOf iv).toNat)
  case atStart => exact ⟨0, by omega, by omega, rfl, Below.refl _ _⟩
  case round =>
    obtain ⟨k, hk0, hk, rfl, hB⟩ := hrel
    have hA := fun o => hB.alloc (Nat.le_of_lt_succ (Nat.lt_succ_of_le hB.size)) o
    clear c0 d0 e0 c1 d1 e1 c2 d2 e2
    rcases (by omega : k = 0) with rfl
    · have hix := ixr0
      go_wp2
      go_ret2
      exact ⟨rfl, hA _⟩
set_option maxRecDepth 100000 in
set_option maxHeartbeats 8000000 in
theorem pc_named2 (s : ByteArray) (h1 : ([102, 102, 108, 97, 103, 115] == s.toList) = false) (h2 : ([102, 114, 109] == s.toList) = true) (w : World) (hT : FAt w) : Calls Tryd.prog 24 #[.string s] w fun r w' => r = .returned (.tuple #[.int .i64 2, .int .i64 0]) ∧ Below w.heap.size w w' := by
  have c0 := fat_at hT 0 (.string ⟨#[102, 102, 108, 97, 103, 115]⟩) (by decide) rfl
  have d0 := fat_at hT 1 (.int .u64 0) (by decide) rfl
  have e0 := fat_at hT 2 (.int .u8 31) (by decide) rfl
  have c1 := fat_at hT 3 (.string ⟨#[102, 114, 109]⟩) (by decide) rfl
  have d1 := fat_at hT 4 (.int .u64 5) (by decide) rfl
  have e1 := fat_at hT 5 (.int .u8 7) (by decide) rfl
  have c2 := fat_at hT 6 (.string ⟨#[102, 99, 115, 114]⟩) (by decide) rfl
  have d2 := fat_at hT 7 (.int .u64 0) (by decide) rfl
  have e2 := fat_at hT 8 (.int .u8 255) (by decide) rfl
  clear hT
  go_enter Tryd.func24, Tryd.ntmps24
  go_wp2
  go_loopw [7] (fun iv wr => ∃ k : Int, 0 ≤ k ∧ k ≤ 1 ∧ iv = .int .i64 k ∧ Below w.heap.size w wr) (fun iv _ => 4 - (intOf iv).toNat)
  case atStart => exact ⟨0, by omega, by omega, rfl, Below.refl _ _⟩
  case round =>
    obtain ⟨k, hk0, hk, rfl, hB⟩ := hrel
    have hA := fun o => hB.alloc (Nat.le_of_lt_succ (Nat.lt_succ_of_le hB.size)) o
    clear c0 d0 e0 c1 d1 e1 c2 d2 e2
    rcases (by omega : k = 0 ∨ k = 1) with rfl | rfl
    · have hix := ixr0
      go_wp2
      go_round
      case rel => exact ⟨1, by omega, by omega, rfl, hA _⟩
      case measure => simp [intOf]
    · have hix := ixr1
      go_wp2
      go_ret2
      exact ⟨rfl, hA _⟩
set_option maxRecDepth 100000 in
set_option maxHeartbeats 8000000 in
theorem pc_named3 (s : ByteArray) (h1 : ([102, 102, 108, 97, 103, 115] == s.toList) = false) (h2 : ([102, 114, 109] == s.toList) = false) (h3 : ([102, 99, 115, 114] == s.toList) = true) (w : World) (hT : FAt w) : Calls Tryd.prog 24 #[.string s] w fun r w' => r = .returned (.tuple #[.int .i64 3, .int .i64 0]) ∧ Below w.heap.size w w' := by
  have c0 := fat_at hT 0 (.string ⟨#[102, 102, 108, 97, 103, 115]⟩) (by decide) rfl
  have d0 := fat_at hT 1 (.int .u64 0) (by decide) rfl
  have e0 := fat_at hT 2 (.int .u8 31) (by decide) rfl
  have c1 := fat_at hT 3 (.string ⟨#[102, 114, 109]⟩) (by decide) rfl
  have d1 := fat_at hT 4 (.int .u64 5) (by decide) rfl
  have e1 := fat_at hT 5 (.int .u8 7) (by decide) rfl
  have c2 := fat_at hT 6 (.string ⟨#[102, 99, 115, 114]⟩) (by decide) rfl
  have d2 := fat_at hT 7 (.int .u64 0) (by decide) rfl
  have e2 := fat_at hT 8 (.int .u8 255) (by decide) rfl
  clear hT
  go_enter Tryd.func24, Tryd.ntmps24
  go_wp2
  go_loopw [7] (fun iv wr => ∃ k : Int, 0 ≤ k ∧ k ≤ 2 ∧ iv = .int .i64 k ∧ Below w.heap.size w wr) (fun iv _ => 4 - (intOf iv).toNat)
  case atStart => exact ⟨0, by omega, by omega, rfl, Below.refl _ _⟩
  case round =>
    obtain ⟨k, hk0, hk, rfl, hB⟩ := hrel
    have hA := fun o => hB.alloc (Nat.le_of_lt_succ (Nat.lt_succ_of_le hB.size)) o
    clear c0 d0 e0 c1 d1 e1 c2 d2 e2
    rcases (by omega : k = 0 ∨ k = 1 ∨ k = 2) with rfl | rfl | rfl
    · have hix := ixr0
      go_wp2
      go_round
      case rel => exact ⟨1, by omega, by omega, rfl, hA _⟩
      case measure => simp [intOf]
    · have hix := ixr1
      go_wp2
      go_round
      case rel => exact ⟨2, by omega, by omega, rfl, hA _⟩
      case measure => simp [intOf]
    · have hix := ixr2
      go_wp2
      go_ret2
      exact ⟨rfl, hA _⟩
set_option maxRecDepth 100000 in
set_option maxHeartbeats 8000000 in
theorem pc_named4 (s : ByteArray) (h1 : ([102, 102, 108, 97, 103, 115] == s.toList) = false) (h2 : ([102, 114, 109] == s.toList) = false) (h3 : ([102, 99, 115, 114] == s.toList) = false) (w : World) (hT : FAt w) : Calls Tryd.prog 24 #[.string s] w fun r w' => r = .returned (.tuple #[.int .i64 0, .int .i64 210]) ∧ Below w.heap.size w w' := by
  have c0 := fat_at hT 0 (.string ⟨#[102, 102, 108, 97, 103, 115]⟩) (by decide) rfl
  have d0 := fat_at hT 1 (.int .u64 0) (by decide) rfl
  have e0 := fat_at hT 2 (.int .u8 31) (by decide) rfl
  have c1 := fat_at hT 3 (.string ⟨#[102, 114, 109]⟩) (by decide) rfl
  have d1 := fat_at hT 4 (.int .u64 5) (by decide) rfl
  have e1 := fat_at hT 5 (.int .u8 7) (by decide) rfl
  have c2 := fat_at hT 6 (.string ⟨#[102, 99, 115, 114]⟩) (by decide) rfl
  have d2 := fat_at hT 7 (.int .u64 0) (by decide) rfl
  have e2 := fat_at hT 8 (.int .u8 255) (by decide) rfl
  clear hT
  go_enter Tryd.func24, Tryd.ntmps24
  go_wp2
  go_loopw [7] (fun iv wr => ∃ k : Int, 0 ≤ k ∧ k ≤ 3 ∧ iv = .int .i64 k ∧ Below w.heap.size w wr) (fun iv _ => 4 - (intOf iv).toNat)
  case atStart => exact ⟨0, by omega, by omega, rfl, Below.refl _ _⟩
  case round =>
    obtain ⟨k, hk0, hk, rfl, hB⟩ := hrel
    have hA := fun o => hB.alloc (Nat.le_of_lt_succ (Nat.lt_succ_of_le hB.size)) o
    clear c0 d0 e0 c1 d1 e1 c2 d2 e2
    rcases (by omega : k = 0 ∨ k = 1 ∨ k = 2 ∨ k = 3) with rfl | rfl | rfl | rfl
    · have hix := ixr0
      go_wp2
      go_round
      case rel => exact ⟨1, by omega, by omega, rfl, hA _⟩
      case measure => simp [intOf]
    · have hix := ixr1
      go_wp2
      go_round
      case rel => exact ⟨2, by omega, by omega, rfl, hA _⟩
      case measure => simp [intOf]
    · have hix := ixr2
      go_wp2
      go_round
      case rel => exact ⟨3, by omega, by omega, rfl, hA _⟩
      case measure => simp [intOf]
    · go_wp2
      go_ret2
      exact ⟨rfl, hB⟩
def wdA (k : Nat) : ByteArray := if k = 0 then ⟨#[110, 118]⟩ else if k = 1 then ⟨#[100, 122]⟩ else if k = 2 then ⟨#[111, 102]⟩ else if k = 3 then ⟨#[117, 102]⟩ else ⟨#[110, 120]⟩
def wlK (g : Nat) : Nat → List ByteArray
  | 0 => []
  | k + 1 => wlK g k ++ (if g.testBit (4 - k) = true then [wdA k] else [])
theorem wlK_len (g : Nat) : ∀ k, (wlK g k).length ≤ k
  | 0 => Nat.le_refl _
  | k + 1 => by
    have := wlK_len g k
    simp only [wlK, List.length_append]
    split <;> simp <;> omega
theorem own_mo {w w' : World} {base : Nat} {e : TypeId} {size : Nat} {v : Value} {n : Nat} {xs : List Value} (h : w.ownsRow base e size v n xs) (hb : Below w.heap.size w w') : w'.ownsRow base e size v n xs := by
  refine ⟨h.1, ?_⟩
  rcases h.2 with q | ⟨g, cap, cur, h1, h2, h3, h4⟩
  · exact Or.inl q
  · exact Or.inr ⟨g, cap, cur, h1, h2, heap_of hb _ _ _ h3, h4⟩
theorem fl_bit : ∀ g, g < 32 → ∀ k, k < 5 → (bits .and .u8 ((g : Nat) : Int) ((16 : Int) / 2 ^ k) != 0) = g.testBit (4 - k) := by decide +kernel
def txJ (g : Nat) : List UInt8 := Lib.join ((wlK g 5).map (·.data.toList)) [43]
set_option maxRecDepth 100000 in
set_option maxHeartbeats 8000000 in
theorem pc_joined0 (w : World) : Calls Tryd.prog 35 #[.int .u8 0] w fun r w' => r = .returned (.string ⟨#[45]⟩) ∧ Below w.heap.size w w' := by
  have B0 : Below w.heap.size w w := (Below.refl _ _)
  go_enter Tryd.func35, Tryd.ntmps35
  go_wp2
  go_ret
  exact ⟨rfl, B0⟩
set_option maxRecDepth 100000 in
set_option maxHeartbeats 8000000 in
theorem pc_joined (g : Nat) (hg : g < 32) (h0 : (((g : Nat) : Int) == 0) = false) (t : ByteArray) (w : World) (KJ : Box (∀ (W : World) (b : Nat) (v : Value) (n : Nat), W.ownsRow b 9 1 v n ((wlK g 5).map Value.string) → Calls Tryd.prog 38 #[v, .string ⟨#[43]⟩] W fun r w' => r = .returned (.string t) ∧ Below W.heap.size W w')) (hT : FAt w) : Calls Tryd.prog 35 #[.int .u8 (g : Nat)] w fun r w' => r = .returned (.string t) ∧ Below w.heap.size w w' := by
  obtain ⟨i0, hi, hz0, hz1, hz2⟩ := info_parts (show (Tryd.prog.info? 9).map (fun i => (i.zero, i.size, i.bytes)) = some (some (.string ⟨#[]⟩), 1, 16) by kernel_rfl)
  have c0 := fat_wd hT 0 (.string ⟨#[110, 118]⟩) (by decide) rfl
  have c1 := fat_wd hT 1 (.string ⟨#[100, 122]⟩) (by decide) rfl
  have c2 := fat_wd hT 2 (.string ⟨#[111, 102]⟩) (by decide) rfl
  have c3 := fat_wd hT 3 (.string ⟨#[117, 102]⟩) (by decide) rfl
  have c4 := fat_wd hT 4 (.string ⟨#[110, 120]⟩) (by decide) rfl
  have KF0 := box (fun w => pc_flag 0 16 rfl w)
  have KF1 := box (fun w => pc_flag 1 8 rfl w)
  have KF2 := box (fun w => pc_flag 2 4 rfl w)
  have KF3 := box (fun w => pc_flag 3 2 rfl w)
  have KF4 := box (fun w => pc_flag 4 1 rfl w)
  clear hT
  go_enter Tryd.func35, Tryd.ntmps35
  go_wp2
  go_loopw [3, 9] (fun v i wr => ∃ (k : Nat) (j : Int) (ao : Option Addr) (cv : Nat), k ≤ 5 ∧ j = (k : Int) ∧ i = .int .i64 j ∧ v = .slice ao (wlK g k).length cv ∧ wr.ownsRow w.heap.size 9 1 v (wlK g k).length ((wlK g k).map Value.string) ∧ Below w.heap.size w wr) (fun _ i _ => 5 - (intOf i).toNat)
  case atStart => exact ⟨0, 0, none, 0, Nat.zero_le _, rfl, rfl, rfl, World.ownsRow_nil _ _ _ _, Below.refl _ _⟩
  case round =>
    obtain ⟨k, j, ao, cv, hk, hj, rfl, rfl, hown, hB⟩ := hrel
    clear c0 c1 c2 c3 c4
    rcases (show k = 0 ∨ k = 1 ∨ k = 2 ∨ k = 3 ∨ k = 4 ∨ k = 5 from by omega) with rfl | rfl | rfl | rfl | rfl | rfl
    · obtain rfl : j = 0 := hj
      have hix := ixw0
      have hpl := wlK_len g 0
      have hpk : wlK g 1 = wlK g 0 ++ (if g.testBit 4 = true then [⟨#[110, 118]⟩] else []) := rfl
      have hm := fl_bit g hg 0 (by decide)
      rw [show (16 : Int) / 2 ^ 0 = 16 from rfl, show 4 - 0 = 4 from rfl] at hm
      obtain ⟨m, em⟩ : ∃ m, bits .and .u8 ((g : Nat) : Int) 16 = m := ⟨_, rfl⟩
      rw [em] at hm
      cases q : g.testBit 4
      · rw [q] at hm hpk
        rw [if_neg (by decide), List.append_nil] at hpk
        go_wp2_with fail
        refine (KF0.out _).mono ?_
        rintro r w1 ⟨rfl, b1⟩
        have hB1 := btr hB b1
        have ho1 := own_mo hown b1
        go_wp2
        go_roundw
        case rel => exact ⟨1, 1, ao, cv, by omega, rfl, by first | rfl | simp, by rw [hpk], by rw [hpk]; exact ho1, hB1⟩
        case measure => simp [intOf]
      · rw [q] at hm hpk
        rw [if_pos rfl] at hpk
        go_wp2_with fail
        refine (KF0.out _).mono ?_
        rintro r w1 ⟨rfl, b1⟩
        have hB1 := btr hB b1
        have ho1 := own_mo hown b1
        have hs1 := hB1.size
        go_wp2_with (first
          | (at_builtin; refine wpList_append_own _ rfl _ _ 61 rfl w.heap.size 9 i0 (.string ⟨#[]⟩) 1 16 Tryd.underlying61 hi hz0 hz1 hz2 rfl (by decide) _ _ _ rfl (ho1.alloc _) ⟨w1.heap.size, 0, none⟩ 1 1 [.string ⟨#[110, 118]⟩] rfl rfl (cell_one_new _ _ _) (fun x hx => by simp at hx; subst hx; rfl) (by unfold maxLen; omega) (by omega) (by simp only [size_al]; omega) ?_; intro v' w3 hown' hgrow3 hnil3))
        go_roundw
        case rel =>
          obtain ⟨g3, cap3, hv3⟩ : ∃ g3 cap3, v' = .slice (some ⟨g3, 0, none⟩) ((wlK g 0).length + 1) cap3 := by
            rcases hown'.2 with ⟨_, h⟩ | ⟨g3, cap3, _, h, _⟩
            · omega
            · exact ⟨g3, cap3, h⟩
          exact ⟨1, 1, some ⟨g3, 0, none⟩, cap3, by omega, rfl, by first | rfl | simp, by rw [hv3, hpk]; simp, by rw [hpk, List.map_append, List.length_append]; exact hown', (hB1.alloc hs1 _).grown hgrow3 (by simp only [size_al]; omega) (fun q hq => by have := (ho1.lt q hq).1; omega)⟩
        case measure => simp [intOf]
    · obtain rfl : j = 1 := hj
      have hix := ixw1
      have hpl := wlK_len g 1
      have hpk : wlK g 2 = wlK g 1 ++ (if g.testBit 3 = true then [⟨#[100, 122]⟩] else []) := rfl
      have hm := fl_bit g hg 1 (by decide)
      rw [show (16 : Int) / 2 ^ 1 = 8 from rfl, show 4 - 1 = 3 from rfl] at hm
      obtain ⟨m, em⟩ : ∃ m, bits .and .u8 ((g : Nat) : Int) 8 = m := ⟨_, rfl⟩
      rw [em] at hm
      cases q : g.testBit 3
      · rw [q] at hm hpk
        rw [if_neg (by decide), List.append_nil] at hpk
        go_wp2_with fail
        refine (KF1.out _).mono ?_
        rintro r w1 ⟨rfl, b1⟩
        have hB1 := btr hB b1
        have ho1 := own_mo hown b1
        go_wp2
        go_roundw
        case rel => exact ⟨2, 2, ao, cv, by omega, rfl, by first | rfl | simp, by rw [hpk], by rw [hpk]; exact ho1, hB1⟩
        case measure => simp [intOf]
      · rw [q] at hm hpk
        rw [if_pos rfl] at hpk
        go_wp2_with fail
        refine (KF1.out _).mono ?_
        rintro r w1 ⟨rfl, b1⟩
        have hB1 := btr hB b1
        have ho1 := own_mo hown b1
        have hs1 := hB1.size
        go_wp2_with (first
          | (at_builtin; refine wpList_append_own _ rfl _ _ 61 rfl w.heap.size 9 i0 (.string ⟨#[]⟩) 1 16 Tryd.underlying61 hi hz0 hz1 hz2 rfl (by decide) _ _ _ rfl (ho1.alloc _) ⟨w1.heap.size, 0, none⟩ 1 1 [.string ⟨#[100, 122]⟩] rfl rfl (cell_one_new _ _ _) (fun x hx => by simp at hx; subst hx; rfl) (by unfold maxLen; omega) (by omega) (by simp only [size_al]; omega) ?_; intro v' w3 hown' hgrow3 hnil3))
        go_roundw
        case rel =>
          obtain ⟨g3, cap3, hv3⟩ : ∃ g3 cap3, v' = .slice (some ⟨g3, 0, none⟩) ((wlK g 1).length + 1) cap3 := by
            rcases hown'.2 with ⟨_, h⟩ | ⟨g3, cap3, _, h, _⟩
            · omega
            · exact ⟨g3, cap3, h⟩
          exact ⟨2, 2, some ⟨g3, 0, none⟩, cap3, by omega, rfl, by first | rfl | simp, by rw [hv3, hpk]; simp, by rw [hpk, List.map_append, List.length_append]; exact hown', (hB1.alloc hs1 _).grown hgrow3 (by simp only [size_al]; omega) (fun q hq => by have := (ho1.lt q hq).1; omega)⟩
        case measure => simp [intOf]
    · obtain rfl : j = 2 := hj
      have hix := ixw2
      have hpl := wlK_len g 2
      have hpk : wlK g 3 = wlK g 2 ++ (if g.testBit 2 = true then [⟨#[111, 102]⟩] else []) := rfl
      have hm := fl_bit g hg 2 (by decide)
      rw [show (16 : Int) / 2 ^ 2 = 4 from rfl, show 4 - 2 = 2 from rfl] at hm
      obtain ⟨m, em⟩ : ∃ m, bits .and .u8 ((g : Nat) : Int) 4 = m := ⟨_, rfl⟩
      rw [em] at hm
      cases q : g.testBit 2
      · rw [q] at hm hpk
        rw [if_neg (by decide), List.append_nil] at hpk
        go_wp2_with fail
        refine (KF2.out _).mono ?_
        rintro r w1 ⟨rfl, b1⟩
        have hB1 := btr hB b1
        have ho1 := own_mo hown b1
        go_wp2
        go_roundw
        case rel => exact ⟨3, 3, ao, cv, by omega, rfl, by first | rfl | simp, by rw [hpk], by rw [hpk]; exact ho1, hB1⟩
        case measure => simp [intOf]
      · rw [q] at hm hpk
        rw [if_pos rfl] at hpk
        go_wp2_with fail
        refine (KF2.out _).mono ?_
        rintro r w1 ⟨rfl, b1⟩
        have hB1 := btr hB b1
        have ho1 := own_mo hown b1
        have hs1 := hB1.size
        go_wp2_with (first
          | (at_builtin; refine wpList_append_own _ rfl _ _ 61 rfl w.heap.size 9 i0 (.string ⟨#[]⟩) 1 16 Tryd.underlying61 hi hz0 hz1 hz2 rfl (by decide) _ _ _ rfl (ho1.alloc _) ⟨w1.heap.size, 0, none⟩ 1 1 [.string ⟨#[111, 102]⟩] rfl rfl (cell_one_new _ _ _) (fun x hx => by simp at hx; subst hx; rfl) (by unfold maxLen; omega) (by omega) (by simp only [size_al]; omega) ?_; intro v' w3 hown' hgrow3 hnil3))
        go_roundw
        case rel =>
          obtain ⟨g3, cap3, hv3⟩ : ∃ g3 cap3, v' = .slice (some ⟨g3, 0, none⟩) ((wlK g 2).length + 1) cap3 := by
            rcases hown'.2 with ⟨_, h⟩ | ⟨g3, cap3, _, h, _⟩
            · omega
            · exact ⟨g3, cap3, h⟩
          exact ⟨3, 3, some ⟨g3, 0, none⟩, cap3, by omega, rfl, by first | rfl | simp, by rw [hv3, hpk]; simp, by rw [hpk, List.map_append, List.length_append]; exact hown', (hB1.alloc hs1 _).grown hgrow3 (by simp only [size_al]; omega) (fun q hq => by have := (ho1.lt q hq).1; omega)⟩
        case measure => simp [intOf]
    · obtain rfl : j = 3 := hj
      have hix := ixw3
      have hpl := wlK_len g 3
      have hpk : wlK g 4 = wlK g 3 ++ (if g.testBit 1 = true then [⟨#[117, 102]⟩] else []) := rfl
      have hm := fl_bit g hg 3 (by decide)
      rw [show (16 : Int) / 2 ^ 3 = 2 from rfl, show 4 - 3 = 1 from rfl] at hm
      obtain ⟨m, em⟩ : ∃ m, bits .and .u8 ((g : Nat) : Int) 2 = m := ⟨_, rfl⟩
      rw [em] at hm
      cases q : g.testBit 1
      · rw [q] at hm hpk
        rw [if_neg (by decide), List.append_nil] at hpk
        go_wp2_with fail
        refine (KF3.out _).mono ?_
        rintro r w1 ⟨rfl, b1⟩
        have hB1 := btr hB b1
        have ho1 := own_mo hown b1
        go_wp2
        go_roundw
        case rel => exact ⟨4, 4, ao, cv, by omega, rfl, by first | rfl | simp, by rw [hpk], by rw [hpk]; exact ho1, hB1⟩
        case measure => simp [intOf]
      · rw [q] at hm hpk
        rw [if_pos rfl] at hpk
        go_wp2_with fail
        refine (KF3.out _).mono ?_
        rintro r w1 ⟨rfl, b1⟩
        have hB1 := btr hB b1
        have ho1 := own_mo hown b1
        have hs1 := hB1.size
        go_wp2_with (first
          | (at_builtin; refine wpList_append_own _ rfl _ _ 61 rfl w.heap.size 9 i0 (.string ⟨#[]⟩) 1 16 Tryd.underlying61 hi hz0 hz1 hz2 rfl (by decide) _ _ _ rfl (ho1.alloc _) ⟨w1.heap.size, 0, none⟩ 1 1 [.string ⟨#[117, 102]⟩] rfl rfl (cell_one_new _ _ _) (fun x hx => by simp at hx; subst hx; rfl) (by unfold maxLen; omega) (by omega) (by simp only [size_al]; omega) ?_; intro v' w3 hown' hgrow3 hnil3))
        go_roundw
        case rel =>
          obtain ⟨g3, cap3, hv3⟩ : ∃ g3 cap3, v' = .slice (some ⟨g3, 0, none⟩) ((wlK g 3).length + 1) cap3 := by
            rcases hown'.2 with ⟨_, h⟩ | ⟨g3, cap3, _, h, _⟩
            · omega
            · exact ⟨g3, cap3, h⟩
          exact ⟨4, 4, some ⟨g3, 0, none⟩, cap3, by omega, rfl, by first | rfl | simp, by rw [hv3, hpk]; simp, by rw [hpk, List.map_append, List.length_append]; exact hown', (hB1.alloc hs1 _).grown hgrow3 (by simp only [size_al]; omega) (fun q hq => by have := (ho1.lt q hq).1; omega)⟩
        case measure => simp [intOf]
    · obtain rfl : j = 4 := hj
      have hix := ixw4
      have hpl := wlK_len g 4
      have hpk : wlK g 5 = wlK g 4 ++ (if g.testBit 0 = true then [⟨#[110, 120]⟩] else []) := rfl
      have hm := fl_bit g hg 4 (by decide)
      rw [show (16 : Int) / 2 ^ 4 = 1 from rfl, show 4 - 4 = 0 from rfl] at hm
      obtain ⟨m, em⟩ : ∃ m, bits .and .u8 ((g : Nat) : Int) 1 = m := ⟨_, rfl⟩
      rw [em] at hm
      cases q : g.testBit 0
      · rw [q] at hm hpk
        rw [if_neg (by decide), List.append_nil] at hpk
        go_wp2_with fail
        refine (KF4.out _).mono ?_
        rintro r w1 ⟨rfl, b1⟩
        have hB1 := btr hB b1
        have ho1 := own_mo hown b1
        go_wp2
        go_roundw
        case rel => exact ⟨5, 5, ao, cv, by omega, rfl, by first | rfl | simp, by rw [hpk], by rw [hpk]; exact ho1, hB1⟩
        case measure => simp [intOf]
      · rw [q] at hm hpk
        rw [if_pos rfl] at hpk
        go_wp2_with fail
        refine (KF4.out _).mono ?_
        rintro r w1 ⟨rfl, b1⟩
        have hB1 := btr hB b1
        have ho1 := own_mo hown b1
        have hs1 := hB1.size
        go_wp2_with (first
          | (at_builtin; refine wpList_append_own _ rfl _ _ 61 rfl w.heap.size 9 i0 (.string ⟨#[]⟩) 1 16 Tryd.underlying61 hi hz0 hz1 hz2 rfl (by decide) _ _ _ rfl (ho1.alloc _) ⟨w1.heap.size, 0, none⟩ 1 1 [.string ⟨#[110, 120]⟩] rfl rfl (cell_one_new _ _ _) (fun x hx => by simp at hx; subst hx; rfl) (by unfold maxLen; omega) (by omega) (by simp only [size_al]; omega) ?_; intro v' w3 hown' hgrow3 hnil3))
        go_roundw
        case rel =>
          obtain ⟨g3, cap3, hv3⟩ : ∃ g3 cap3, v' = .slice (some ⟨g3, 0, none⟩) ((wlK g 4).length + 1) cap3 := by
            rcases hown'.2 with ⟨_, h⟩ | ⟨g3, cap3, _, h, _⟩
            · omega
            · exact ⟨g3, cap3, h⟩
          exact ⟨5, 5, some ⟨g3, 0, none⟩, cap3, by omega, rfl, by first | rfl | simp, by rw [hv3, hpk]; simp, by rw [hpk, List.map_append, List.length_append]; exact hown', (hB1.alloc hs1 _).grown hgrow3 (by simp only [size_al]; omega) (fun q hq => by have := (ho1.lt q hq).1; omega)⟩
        case measure => simp [intOf]
    · obtain rfl : j = 5 := hj
      go_wp2_with fail
      refine (KJ.out _ _ _ _ hown).mono ?_
      rintro r w1 ⟨rfl, b1⟩
      go_wp2
      go_ret
      exact ⟨rfl, btr hB b1⟩
end Go.Proofs.YtinagedilgihjaaDoor
namespace Go.Proofs.YtinagedilgihjaaDoor
set_option maxRecDepth 100000
set_option maxHeartbeats 40000000
set_option maxRecDepth 100000
open Go.RowKit WMath
set_option linter.unusedSimpArgs false
set_option linter.unusedVariables false
set_option maxRecDepth 100000 in
set_option maxHeartbeats 8000000 in
theorem pc_text_e (g : Int) (h : decide (31 < g) = true) (w : World) : Calls Tryd.prog 26 #[.int .u8 g] w fun r w' => r = .returned (.tuple #[.string ⟨#[]⟩, .int .i64 2]) ∧ Below w.heap.size w w' := by
  have B0 : Below w.heap.size w w := (Below.refl _ _)
  go_enter Tryd.func26, Tryd.ntmps26
  go_wp2
  go_ret2
  exact ⟨rfl, B0⟩
theorem pc_text (g : Int) (t : ByteArray) (h : decide (31 < g) = false) (KJ : Box (∀ w, FAt w → Calls Tryd.prog 35 #[.int .u8 g] w fun r w' => r = .returned (.string t) ∧ Below w.heap.size w w')) (w : World) (hT : FAt w) : Calls Tryd.prog 26 #[.int .u8 g] w fun r w' => r = .returned (.tuple #[.string t, .int .i64 0]) ∧ Below w.heap.size w w' := by
  have FF := box hT
  clear hT
  have B0 : Below w.heap.size w w := (Below.refl _ _)
  go_enter Tryd.func26, Tryd.ntmps26
  go_wp2_with fail
  refine (KJ.out _ (fatB FF.out B0)).mono ?_
  rintro r w1 ⟨rfl, b1⟩
  have B1 : Below w.heap.size w w1 := btr B0 b1
  clear b1 B0 
  go_wp2
  go_ret2
  exact ⟨rfl, B1⟩
def rgK (s : List UInt8) : Nat → Nat
  | 0 => 0
  | k + 1 => if Lib.contains s (wdA k).data.toList = true then rgK s k ||| 2 ^ (4 - k) else rgK s k
theorem rgK_lt (s : List UInt8) : ∀ k, k ≤ 5 → rgK s k < 32
  | 0, _ => Nat.zero_lt_succ _
  | k + 1, h => by
    have a := rgK_lt s k (by omega)
    have b : 2 ^ (4 - k) < 2 ^ 5 := Nat.pow_lt_pow_right (by decide) (by omega)
    simp only [rgK]
    split
    · exact Nat.or_lt_two_pow (n := 5) a b
    · exact a
set_option maxRecDepth 100000 in
set_option maxHeartbeats 8000000 in
theorem pc_rdt_y (s t : ByteArray) (ht : (t.toList == s.toList) = true) (T : World → Prop) (FB : Box (∀ {w w' : World}, T w → Below w.heap.size w w' → T w')) (w : World) (KC : Box (∀ (k : Nat) w, T w → Calls Tryd.prog 36 #[.string s, .string (wdA k)] w fun r w' => r = .returned (.bool (Lib.contains s.data.toList (wdA k).data.toList)) ∧ Below w.heap.size w w')) (KJ : Box (∀ w, T w → Calls Tryd.prog 35 #[.int .u8 (rgK s.data.toList 5 : Nat)] w fun r w' => r = .returned (.string t) ∧ Below w.heap.size w w')) (hF : FAt w) (hT : T w) : Calls Tryd.prog 28 #[.string s] w fun r w' => r = .returned (.tuple #[.int .u8 (rgK s.data.toList 5 : Nat), .int .i64 0]) ∧ Below w.heap.size w w' := by
  have FF := box hT
  have c0 := fat_wd hF 0 (.string ⟨#[110, 118]⟩) (by decide) rfl
  have c1 := fat_wd hF 1 (.string ⟨#[100, 122]⟩) (by decide) rfl
  have c2 := fat_wd hF 2 (.string ⟨#[111, 102]⟩) (by decide) rfl
  have c3 := fat_wd hF 3 (.string ⟨#[117, 102]⟩) (by decide) rfl
  have c4 := fat_wd hF 4 (.string ⟨#[110, 120]⟩) (by decide) rfl
  have KF0 := box (fun w => pc_flag 0 16 rfl w)
  have KC0 := box (KC.out 0)
  rw [show wdA 0 = ⟨#[110, 118]⟩ from rfl] at KC0
  have KF1 := box (fun w => pc_flag 1 8 rfl w)
  have KC1 := box (KC.out 1)
  rw [show wdA 1 = ⟨#[100, 122]⟩ from rfl] at KC1
  have KF2 := box (fun w => pc_flag 2 4 rfl w)
  have KC2 := box (KC.out 2)
  rw [show wdA 2 = ⟨#[111, 102]⟩ from rfl] at KC2
  have KF3 := box (fun w => pc_flag 3 2 rfl w)
  have KC3 := box (KC.out 3)
  rw [show wdA 3 = ⟨#[117, 102]⟩ from rfl] at KC3
  have KF4 := box (fun w => pc_flag 4 1 rfl w)
  have KC4 := box (KC.out 4)
  rw [show wdA 4 = ⟨#[110, 120]⟩ from rfl] at KC4
  clear hF hT KC
  go_enter Tryd.func28, Tryd.ntmps28
  go_wp2
  go_loopw [4, 8] (fun v i wr => ∃ (k : Nat) (j : Int), k ≤ 5 ∧ j = (k : Int) ∧ i = .int .i64 j ∧ v = .int .u8 (rgK s.data.toList k : Nat) ∧ Below w.heap.size w wr) (fun _ i _ => 5 - (intOf i).toNat)
  case atStart => exact ⟨0, 0, Nat.zero_le _, rfl, rfl, rfl, Below.refl _ _⟩
  case round =>
    obtain ⟨k, j, hk, hj, rfl, rfl, hB⟩ := hrel
    clear c0 c1 c2 c3 c4
    rcases (show k = 0 ∨ k = 1 ∨ k = 2 ∨ k = 3 ∨ k = 4 ∨ k = 5 from by omega) with rfl | rfl | rfl | rfl | rfl | rfl
    · obtain rfl : j = 0 := hj
      have hix := ixw0
      have hlt := rgK_lt s.data.toList 0 (by decide)
      have hpk : rgK s.data.toList 1 = if Lib.contains s.data.toList (⟨#[110, 118]⟩ : ByteArray).data.toList = true then rgK s.data.toList 0 ||| 16 else rgK s.data.toList 0 := rfl
      have hor := bits_or_u8 (rgK s.data.toList 0) 16 (by omega) (by decide)
      obtain ⟨G, eG⟩ : ∃ G, rgK s.data.toList 0 = G := ⟨_, rfl⟩
      rw [eG] at hor hpk hlt ⊢
      have hor2 : bits .or .u8 ((G : Nat) : Int) 16 = ((G ||| 16 : Nat) : Int) := hor
      clear hor
      obtain ⟨q, eq⟩ : ∃ q, Lib.contains s.data.toList (⟨#[110, 118]⟩ : ByteArray).data.toList = q := ⟨_, rfl⟩
      rw [eq] at KC0 hpk
      cases q
      · rw [if_neg (by decide)] at hpk
        go_wp2_with fail
        refine (KC0.out _ (FB.out FF.out hB)).mono ?_
        rintro r w1 ⟨rfl, b1⟩
        have hB1 := btr hB b1
        go_wp2
        go_roundw
        case rel => exact ⟨1, 1, by omega, rfl, by first | rfl | simp, by rw [hpk], hB1⟩
        case measure => simp [intOf]
      · rw [if_pos rfl] at hpk
        go_wp2_with fail
        refine (KC0.out _ (FB.out FF.out hB)).mono ?_
        rintro r w1 ⟨rfl, b1⟩
        have hB1 := btr hB b1
        go_wp2_with fail
        refine (KF0.out _).mono ?_
        rintro r w2 ⟨rfl, b2⟩
        have hB2 := btr hB1 b2
        go_wp2
        go_roundw
        case rel => exact ⟨1, 1, by omega, rfl, by first | rfl | simp, by rw [hpk], hB2⟩
        case measure => simp [intOf]
    · obtain rfl : j = 1 := hj
      have hix := ixw1
      have hlt := rgK_lt s.data.toList 1 (by decide)
      have hpk : rgK s.data.toList 2 = if Lib.contains s.data.toList (⟨#[100, 122]⟩ : ByteArray).data.toList = true then rgK s.data.toList 1 ||| 8 else rgK s.data.toList 1 := rfl
      have hor := bits_or_u8 (rgK s.data.toList 1) 8 (by omega) (by decide)
      obtain ⟨G, eG⟩ : ∃ G, rgK s.data.toList 1 = G := ⟨_, rfl⟩
      rw [eG] at hor hpk hlt ⊢
      have hor2 : bits .or .u8 ((G : Nat) : Int) 8 = ((G ||| 8 : Nat) : Int) := hor
      clear hor
      obtain ⟨q, eq⟩ : ∃ q, Lib.contains s.data.toList (⟨#[100, 122]⟩ : ByteArray).data.toList = q := ⟨_, rfl⟩
      rw [eq] at KC1 hpk
      cases q
      · rw [if_neg (by decide)] at hpk
        go_wp2_with fail
        refine (KC1.out _ (FB.out FF.out hB)).mono ?_
        rintro r w1 ⟨rfl, b1⟩
        have hB1 := btr hB b1
        go_wp2
        go_roundw
        case rel => exact ⟨2, 2, by omega, rfl, by first | rfl | simp, by rw [hpk], hB1⟩
        case measure => simp [intOf]
      · rw [if_pos rfl] at hpk
        go_wp2_with fail
        refine (KC1.out _ (FB.out FF.out hB)).mono ?_
        rintro r w1 ⟨rfl, b1⟩
        have hB1 := btr hB b1
        go_wp2_with fail
        refine (KF1.out _).mono ?_
        rintro r w2 ⟨rfl, b2⟩
        have hB2 := btr hB1 b2
        go_wp2
        go_roundw
        case rel => exact ⟨2, 2, by omega, rfl, by first | rfl | simp, by rw [hpk], hB2⟩
        case measure => simp [intOf]
    · obtain rfl : j = 2 := hj
      have hix := ixw2
      have hlt := rgK_lt s.data.toList 2 (by decide)
      have hpk : rgK s.data.toList 3 = if Lib.contains s.data.toList (⟨#[111, 102]⟩ : ByteArray).data.toList = true then rgK s.data.toList 2 ||| 4 else rgK s.data.toList 2 := rfl
      have hor := bits_or_u8 (rgK s.data.toList 2) 4 (by omega) (by decide)
      obtain ⟨G, eG⟩ : ∃ G, rgK s.data.toList 2 = G := ⟨_, rfl⟩
      rw [eG] at hor hpk hlt ⊢
      have hor2 : bits .or .u8 ((G : Nat) : Int) 4 = ((G ||| 4 : Nat) : Int) := hor
      clear hor
      obtain ⟨q, eq⟩ : ∃ q, Lib.contains s.data.toList (⟨#[111, 102]⟩ : ByteArray).data.toList = q := ⟨_, rfl⟩
      rw [eq] at KC2 hpk
      cases q
      · rw [if_neg (by decide)] at hpk
        go_wp2_with fail
        refine (KC2.out _ (FB.out FF.out hB)).mono ?_
        rintro r w1 ⟨rfl, b1⟩
        have hB1 := btr hB b1
        go_wp2
        go_roundw
        case rel => exact ⟨3, 3, by omega, rfl, by first | rfl | simp, by rw [hpk], hB1⟩
        case measure => simp [intOf]
      · rw [if_pos rfl] at hpk
        go_wp2_with fail
        refine (KC2.out _ (FB.out FF.out hB)).mono ?_
        rintro r w1 ⟨rfl, b1⟩
        have hB1 := btr hB b1
        go_wp2_with fail
        refine (KF2.out _).mono ?_
        rintro r w2 ⟨rfl, b2⟩
        have hB2 := btr hB1 b2
        go_wp2
        go_roundw
        case rel => exact ⟨3, 3, by omega, rfl, by first | rfl | simp, by rw [hpk], hB2⟩
        case measure => simp [intOf]
    · obtain rfl : j = 3 := hj
      have hix := ixw3
      have hlt := rgK_lt s.data.toList 3 (by decide)
      have hpk : rgK s.data.toList 4 = if Lib.contains s.data.toList (⟨#[117, 102]⟩ : ByteArray).data.toList = true then rgK s.data.toList 3 ||| 2 else rgK s.data.toList 3 := rfl
      have hor := bits_or_u8 (rgK s.data.toList 3) 2 (by omega) (by decide)
      obtain ⟨G, eG⟩ : ∃ G, rgK s.data.toList 3 = G := ⟨_, rfl⟩
      rw [eG] at hor hpk hlt ⊢
      have hor2 : bits .or .u8 ((G : Nat) : Int) 2 = ((G ||| 2 : Nat) : Int) := hor
      clear hor
      obtain ⟨q, eq⟩ : ∃ q, Lib.contains s.data.toList (⟨#[117, 102]⟩ : ByteArray).data.toList = q := ⟨_, rfl⟩
      rw [eq] at KC3 hpk
      cases q
      · rw [if_neg (by decide)] at hpk
        go_wp2_with fail
        refine (KC3.out _ (FB.out FF.out hB)).mono ?_
        rintro r w1 ⟨rfl, b1⟩
        have hB1 := btr hB b1
        go_wp2
        go_roundw
        case rel => exact ⟨4, 4, by omega, rfl, by first | rfl | simp, by rw [hpk], hB1⟩
        case measure => simp [intOf]
      · rw [if_pos rfl] at hpk
        go_wp2_with fail
        refine (KC3.out _ (FB.out FF.out hB)).mono ?_
        rintro r w1 ⟨rfl, b1⟩
        have hB1 := btr hB b1
        go_wp2_with fail
        refine (KF3.out _).mono ?_
        rintro r w2 ⟨rfl, b2⟩
        have hB2 := btr hB1 b2
        go_wp2
        go_roundw
        case rel => exact ⟨4, 4, by omega, rfl, by first | rfl | simp, by rw [hpk], hB2⟩
        case measure => simp [intOf]
    · obtain rfl : j = 4 := hj
      have hix := ixw4
      have hlt := rgK_lt s.data.toList 4 (by decide)
      have hpk : rgK s.data.toList 5 = if Lib.contains s.data.toList (⟨#[110, 120]⟩ : ByteArray).data.toList = true then rgK s.data.toList 4 ||| 1 else rgK s.data.toList 4 := rfl
      have hor := bits_or_u8 (rgK s.data.toList 4) 1 (by omega) (by decide)
      obtain ⟨G, eG⟩ : ∃ G, rgK s.data.toList 4 = G := ⟨_, rfl⟩
      rw [eG] at hor hpk hlt ⊢
      have hor2 : bits .or .u8 ((G : Nat) : Int) 1 = ((G ||| 1 : Nat) : Int) := hor
      clear hor
      obtain ⟨q, eq⟩ : ∃ q, Lib.contains s.data.toList (⟨#[110, 120]⟩ : ByteArray).data.toList = q := ⟨_, rfl⟩
      rw [eq] at KC4 hpk
      cases q
      · rw [if_neg (by decide)] at hpk
        go_wp2_with fail
        refine (KC4.out _ (FB.out FF.out hB)).mono ?_
        rintro r w1 ⟨rfl, b1⟩
        have hB1 := btr hB b1
        go_wp2
        go_roundw
        case rel => exact ⟨5, 5, by omega, rfl, by first | rfl | simp, by rw [hpk], hB1⟩
        case measure => simp [intOf]
      · rw [if_pos rfl] at hpk
        go_wp2_with fail
        refine (KC4.out _ (FB.out FF.out hB)).mono ?_
        rintro r w1 ⟨rfl, b1⟩
        have hB1 := btr hB b1
        go_wp2_with fail
        refine (KF4.out _).mono ?_
        rintro r w2 ⟨rfl, b2⟩
        have hB2 := btr hB1 b2
        go_wp2
        go_roundw
        case rel => exact ⟨5, 5, by omega, rfl, by first | rfl | simp, by rw [hpk], hB2⟩
        case measure => simp [intOf]
    · obtain rfl : j = 5 := hj
      go_wp2_with fail
      refine (KJ.out _ (FB.out FF.out hB)).mono ?_
      rintro r w1 ⟨rfl, b1⟩
      go_wp2
      go_ret2
      exact ⟨rfl, btr hB b1⟩
set_option maxRecDepth 100000 in
set_option maxHeartbeats 8000000 in
theorem pc_rdt_n (s t : ByteArray) (ht : (t.toList == s.toList) = false) (T : World → Prop) (FB : Box (∀ {w w' : World}, T w → Below w.heap.size w w' → T w')) (w : World) (KC : Box (∀ (k : Nat) w, T w → Calls Tryd.prog 36 #[.string s, .string (wdA k)] w fun r w' => r = .returned (.bool (Lib.contains s.data.toList (wdA k).data.toList)) ∧ Below w.heap.size w w')) (KJ : Box (∀ w, T w → Calls Tryd.prog 35 #[.int .u8 (rgK s.data.toList 5 : Nat)] w fun r w' => r = .returned (.string t) ∧ Below w.heap.size w w')) (hF : FAt w) (hT : T w) : Calls Tryd.prog 28 #[.string s] w fun r w' => r = .returned (.tuple #[.int .u8 0, .int .i64 212]) ∧ Below w.heap.size w w' := by
  have FF := box hT
  have c0 := fat_wd hF 0 (.string ⟨#[110, 118]⟩) (by decide) rfl
  have c1 := fat_wd hF 1 (.string ⟨#[100, 122]⟩) (by decide) rfl
  have c2 := fat_wd hF 2 (.string ⟨#[111, 102]⟩) (by decide) rfl
  have c3 := fat_wd hF 3 (.string ⟨#[117, 102]⟩) (by decide) rfl
  have c4 := fat_wd hF 4 (.string ⟨#[110, 120]⟩) (by decide) rfl
  have KF0 := box (fun w => pc_flag 0 16 rfl w)
  have KC0 := box (KC.out 0)
  rw [show wdA 0 = ⟨#[110, 118]⟩ from rfl] at KC0
  have KF1 := box (fun w => pc_flag 1 8 rfl w)
  have KC1 := box (KC.out 1)
  rw [show wdA 1 = ⟨#[100, 122]⟩ from rfl] at KC1
  have KF2 := box (fun w => pc_flag 2 4 rfl w)
  have KC2 := box (KC.out 2)
  rw [show wdA 2 = ⟨#[111, 102]⟩ from rfl] at KC2
  have KF3 := box (fun w => pc_flag 3 2 rfl w)
  have KC3 := box (KC.out 3)
  rw [show wdA 3 = ⟨#[117, 102]⟩ from rfl] at KC3
  have KF4 := box (fun w => pc_flag 4 1 rfl w)
  have KC4 := box (KC.out 4)
  rw [show wdA 4 = ⟨#[110, 120]⟩ from rfl] at KC4
  clear hF hT KC
  go_enter Tryd.func28, Tryd.ntmps28
  go_wp2
  go_loopw [4, 8] (fun v i wr => ∃ (k : Nat) (j : Int), k ≤ 5 ∧ j = (k : Int) ∧ i = .int .i64 j ∧ v = .int .u8 (rgK s.data.toList k : Nat) ∧ Below w.heap.size w wr) (fun _ i _ => 5 - (intOf i).toNat)
  case atStart => exact ⟨0, 0, Nat.zero_le _, rfl, rfl, rfl, Below.refl _ _⟩
  case round =>
    obtain ⟨k, j, hk, hj, rfl, rfl, hB⟩ := hrel
    clear c0 c1 c2 c3 c4
    rcases (show k = 0 ∨ k = 1 ∨ k = 2 ∨ k = 3 ∨ k = 4 ∨ k = 5 from by omega) with rfl | rfl | rfl | rfl | rfl | rfl
    · obtain rfl : j = 0 := hj
      have hix := ixw0
      have hlt := rgK_lt s.data.toList 0 (by decide)
      have hpk : rgK s.data.toList 1 = if Lib.contains s.data.toList (⟨#[110, 118]⟩ : ByteArray).data.toList = true then rgK s.data.toList 0 ||| 16 else rgK s.data.toList 0 := rfl
      have hor := bits_or_u8 (rgK s.data.toList 0) 16 (by omega) (by decide)
      obtain ⟨G, eG⟩ : ∃ G, rgK s.data.toList 0 = G := ⟨_, rfl⟩
      rw [eG] at hor hpk hlt ⊢
      have hor2 : bits .or .u8 ((G : Nat) : Int) 16 = ((G ||| 16 : Nat) : Int) := hor
      clear hor
      obtain ⟨q, eq⟩ : ∃ q, Lib.contains s.data.toList (⟨#[110, 118]⟩ : ByteArray).data.toList = q := ⟨_, rfl⟩
      rw [eq] at KC0 hpk
      cases q
      · rw [if_neg (by decide)] at hpk
        go_wp2_with fail
        refine (KC0.out _ (FB.out FF.out hB)).mono ?_
        rintro r w1 ⟨rfl, b1⟩
        have hB1 := btr hB b1
        go_wp2
        go_roundw
        case rel => exact ⟨1, 1, by omega, rfl, by first | rfl | simp, by rw [hpk], hB1⟩
        case measure => simp [intOf]
      · rw [if_pos rfl] at hpk
        go_wp2_with fail
        refine (KC0.out _ (FB.out FF.out hB)).mono ?_
        rintro r w1 ⟨rfl, b1⟩
        have hB1 := btr hB b1
        go_wp2_with fail
        refine (KF0.out _).mono ?_
        rintro r w2 ⟨rfl, b2⟩
        have hB2 := btr hB1 b2
        go_wp2
        go_roundw
        case rel => exact ⟨1, 1, by omega, rfl, by first | rfl | simp, by rw [hpk], hB2⟩
        case measure => simp [intOf]
    · obtain rfl : j = 1 := hj
      have hix := ixw1
      have hlt := rgK_lt s.data.toList 1 (by decide)
      have hpk : rgK s.data.toList 2 = if Lib.contains s.data.toList (⟨#[100, 122]⟩ : ByteArray).data.toList = true then rgK s.data.toList 1 ||| 8 else rgK s.data.toList 1 := rfl
      have hor := bits_or_u8 (rgK s.data.toList 1) 8 (by omega) (by decide)
      obtain ⟨G, eG⟩ : ∃ G, rgK s.data.toList 1 = G := ⟨_, rfl⟩
      rw [eG] at hor hpk hlt ⊢
      have hor2 : bits .or .u8 ((G : Nat) : Int) 8 = ((G ||| 8 : Nat) : Int) := hor
      clear hor
      obtain ⟨q, eq⟩ : ∃ q, Lib.contains s.data.toList (⟨#[100, 122]⟩ : ByteArray).data.toList = q := ⟨_, rfl⟩
      rw [eq] at KC1 hpk
      cases q
      · rw [if_neg (by decide)] at hpk
        go_wp2_with fail
        refine (KC1.out _ (FB.out FF.out hB)).mono ?_
        rintro r w1 ⟨rfl, b1⟩
        have hB1 := btr hB b1
        go_wp2
        go_roundw
        case rel => exact ⟨2, 2, by omega, rfl, by first | rfl | simp, by rw [hpk], hB1⟩
        case measure => simp [intOf]
      · rw [if_pos rfl] at hpk
        go_wp2_with fail
        refine (KC1.out _ (FB.out FF.out hB)).mono ?_
        rintro r w1 ⟨rfl, b1⟩
        have hB1 := btr hB b1
        go_wp2_with fail
        refine (KF1.out _).mono ?_
        rintro r w2 ⟨rfl, b2⟩
        have hB2 := btr hB1 b2
        go_wp2
        go_roundw
        case rel => exact ⟨2, 2, by omega, rfl, by first | rfl | simp, by rw [hpk], hB2⟩
        case measure => simp [intOf]
    · obtain rfl : j = 2 := hj
      have hix := ixw2
      have hlt := rgK_lt s.data.toList 2 (by decide)
      have hpk : rgK s.data.toList 3 = if Lib.contains s.data.toList (⟨#[111, 102]⟩ : ByteArray).data.toList = true then rgK s.data.toList 2 ||| 4 else rgK s.data.toList 2 := rfl
      have hor := bits_or_u8 (rgK s.data.toList 2) 4 (by omega) (by decide)
      obtain ⟨G, eG⟩ : ∃ G, rgK s.data.toList 2 = G := ⟨_, rfl⟩
      rw [eG] at hor hpk hlt ⊢
      have hor2 : bits .or .u8 ((G : Nat) : Int) 4 = ((G ||| 4 : Nat) : Int) := hor
      clear hor
      obtain ⟨q, eq⟩ : ∃ q, Lib.contains s.data.toList (⟨#[111, 102]⟩ : ByteArray).data.toList = q := ⟨_, rfl⟩
      rw [eq] at KC2 hpk
      cases q
      · rw [if_neg (by decide)] at hpk
        go_wp2_with fail
        refine (KC2.out _ (FB.out FF.out hB)).mono ?_
        rintro r w1 ⟨rfl, b1⟩
        have hB1 := btr hB b1
        go_wp2
        go_roundw
        case rel => exact ⟨3, 3, by omega, rfl, by first | rfl | simp, by rw [hpk], hB1⟩
        case measure => simp [intOf]
      · rw [if_pos rfl] at hpk
        go_wp2_with fail
        refine (KC2.out _ (FB.out FF.out hB)).mono ?_
        rintro r w1 ⟨rfl, b1⟩
        have hB1 := btr hB b1
        go_wp2_with fail
        refine (KF2.out _).mono ?_
        rintro r w2 ⟨rfl, b2⟩
        have hB2 := btr hB1 b2
        go_wp2
        go_roundw
        case rel => exact ⟨3, 3, by omega, rfl, by first | rfl | simp, by rw [hpk], hB2⟩
        case measure => simp [intOf]
    · obtain rfl : j = 3 := hj
      have hix := ixw3
      have hlt := rgK_lt s.data.toList 3 (by decide)
      have hpk : rgK s.data.toList 4 = if Lib.contains s.data.toList (⟨#[117, 102]⟩ : ByteArray).data.toList = true then rgK s.data.toList 3 ||| 2 else rgK s.data.toList 3 := rfl
      have hor := bits_or_u8 (rgK s.data.toList 3) 2 (by omega) (by decide)
      obtain ⟨G, eG⟩ : ∃ G, rgK s.data.toList 3 = G := ⟨_, rfl⟩
      rw [eG] at hor hpk hlt ⊢
      have hor2 : bits .or .u8 ((G : Nat) : Int) 2 = ((G ||| 2 : Nat) : Int) := hor
      clear hor
      obtain ⟨q, eq⟩ : ∃ q, Lib.contains s.data.toList (⟨#[117, 102]⟩ : ByteArray).data.toList = q := ⟨_, rfl⟩
      rw [eq] at KC3 hpk
      cases q
      · rw [if_neg (by decide)] at hpk
        go_wp2_with fail
        refine (KC3.out _ (FB.out FF.out hB)).mono ?_
        rintro r w1 ⟨rfl, b1⟩
        have hB1 := btr hB b1
        go_wp2
        go_roundw
        case rel => exact ⟨4, 4, by omega, rfl, by first | rfl | simp, by rw [hpk], hB1⟩
        case measure => simp [intOf]
      · rw [if_pos rfl] at hpk
        go_wp2_with fail
        refine (KC3.out _ (FB.out FF.out hB)).mono ?_
        rintro r w1 ⟨rfl, b1⟩
        have hB1 := btr hB b1
        go_wp2_with fail
        refine (KF3.out _).mono ?_
        rintro r w2 ⟨rfl, b2⟩
        have hB2 := btr hB1 b2
        go_wp2
        go_roundw
        case rel => exact ⟨4, 4, by omega, rfl, by first | rfl | simp, by rw [hpk], hB2⟩
        case measure => simp [intOf]
    · obtain rfl : j = 4 := hj
      have hix := ixw4
      have hlt := rgK_lt s.data.toList 4 (by decide)
      have hpk : rgK s.data.toList 5 = if Lib.contains s.data.toList (⟨#[110, 120]⟩ : ByteArray).data.toList = true then rgK s.data.toList 4 ||| 1 else rgK s.data.toList 4 := rfl
      have hor := bits_or_u8 (rgK s.data.toList 4) 1 (by omega) (by decide)
      obtain ⟨G, eG⟩ : ∃ G, rgK s.data.toList 4 = G := ⟨_, rfl⟩
      rw [eG] at hor hpk hlt ⊢
      have hor2 : bits .or .u8 ((G : Nat) : Int) 1 = ((G ||| 1 : Nat) : Int) := hor
      clear hor
      obtain ⟨q, eq⟩ : ∃ q, Lib.contains s.data.toList (⟨#[110, 120]⟩ : ByteArray).data.toList = q := ⟨_, rfl⟩
      rw [eq] at KC4 hpk
      cases q
      · rw [if_neg (by decide)] at hpk
        go_wp2_with fail
        refine (KC4.out _ (FB.out FF.out hB)).mono ?_
        rintro r w1 ⟨rfl, b1⟩
        have hB1 := btr hB b1
        go_wp2
        go_roundw
        case rel => exact ⟨5, 5, by omega, rfl, by first | rfl | simp, by rw [hpk], hB1⟩
        case measure => simp [intOf]
      · rw [if_pos rfl] at hpk
        go_wp2_with fail
        refine (KC4.out _ (FB.out FF.out hB)).mono ?_
        rintro r w1 ⟨rfl, b1⟩
        have hB1 := btr hB b1
        go_wp2_with fail
        refine (KF4.out _).mono ?_
        rintro r w2 ⟨rfl, b2⟩
        have hB2 := btr hB1 b2
        go_wp2
        go_roundw
        case rel => exact ⟨5, 5, by omega, rfl, by first | rfl | simp, by rw [hpk], hB2⟩
        case measure => simp [intOf]
    · obtain rfl : j = 5 := hj
      go_wp2_with fail
      refine (KJ.out _ (FB.out FF.out hB)).mono ?_
      rintro r w1 ⟨rfl, b1⟩
      go_wp2
      go_ret2
      exact ⟨rfl, btr hB b1⟩
end Go.Proofs.YtinagedilgihjaaDoor
namespace Go.Proofs
open Go.Shelf
def Tryd.laysJoin_ren : Go.Shelf.Ren := ⟨fun | 156 => 38 | 165 => 40 | 166 => 41 | 169 => 42 | 240 => 44 | 241 => 45 | 276 => 50 | 277 => 51 | n => n, fun | 31 => 61 | 9 => 9 | 3 => 3 | 4 => 4 | 0 => 0 | 20 => 20 | 72 => 73 | 76 => 77 | 70 => 70 | 37 => 71 | 75 => 76 | 127 => 80 | 164 => 83 | 5 => 5 | 80 => 79 | n => n, fun | n => n⟩
theorem Tryd.laysJoin : Go.Proofs.Lays.n156 Tryd.prog Tryd.laysJoin_ren := {
  mixed := by kernel_rfl
  f156 := Tryd.func38.trans (congrArg some (by kernel_rfl))
  f165 := Tryd.func40.trans (congrArg some (by kernel_rfl))
  f166 := Tryd.func41.trans (congrArg some (by kernel_rfl))
  f169 := Tryd.func42.trans (congrArg some (by kernel_rfl))
  f240 := Tryd.func44.trans (congrArg some (by kernel_rfl))
  f241 := Tryd.func45.trans (congrArg some (by kernel_rfl))
  f276 := Tryd.func50.trans (congrArg some (by kernel_rfl))
  f277 := Tryd.func51.trans (congrArg some (by kernel_rfl))
  t0 := Tryd.underlying0
  a0 := Tryd.isAgg0
  z0 := Tryd.sizeOf0
  v0 := Tryd.zeroValue0
  t3 := Tryd.underlying3
  a3 := Tryd.isAgg3
  z3 := Tryd.sizeOf3
  v3 := Tryd.zeroValue3
  t4 := Tryd.underlying4
  a4 := Tryd.isAgg4
  z4 := Tryd.sizeOf4
  v4 := Tryd.zeroValue4
  t9 := Tryd.underlying9
  a9 := Tryd.isAgg9
  z9 := Tryd.sizeOf9
  v9 := Tryd.zeroValue9
  t20 := Tryd.underlying20
  a20 := Tryd.isAgg20
  z20 := Tryd.sizeOf20
  v20 := Tryd.zeroValue20
  t31 := Tryd.underlying61
  a31 := Tryd.isAgg61
  z31 := Tryd.sizeOf61
  v31 := Tryd.zeroValue61
  t37 := Tryd.underlying71
  a37 := Tryd.isAgg71
  z37 := Tryd.sizeOf71
  v37 := Tryd.zeroValue71
  t70 := Tryd.underlying70
  a70 := Tryd.isAgg70
  z70 := Tryd.sizeOf70
  v70 := Tryd.zeroValue70
  t72 := Tryd.underlying73
  a72 := Tryd.isAgg73
  z72 := Tryd.sizeOf73
  v72 := Tryd.zeroValue73
  t75 := Tryd.underlying76
  a75 := Tryd.isAgg76
  z75 := Tryd.sizeOf76
  v75 := Tryd.zeroValue76
  t76 := Tryd.underlying77
  a76 := Tryd.isAgg77
  z76 := Tryd.sizeOf77
  v76 := Tryd.zeroValue77
  t127 := Tryd.underlying80
  a127 := Tryd.isAgg80
  z127 := Tryd.sizeOf80
  v127 := Tryd.zeroValue80
  t164 := Tryd.underlying83
  a164 := Tryd.isAgg83
  z164 := Tryd.sizeOf83
  v164 := Tryd.zeroValue83 }
theorem Tryd.joinExtra : Builder.Extra Tryd.prog Tryd.laysJoin_ren := {
  sizeBuilder := by kernel_rfl
  liesBuilder := by kernel_rfl
  t5 := Tryd.underlying5
  a5 := Tryd.isAgg5
  z5 := Tryd.sizeOf5
  v5 := Tryd.zeroValue5
  infoByte := by kernel_rfl
  cellsByte := by kernel_rfl
  sizeByte := by kernel_rfl
  neB5 := by decide }
end Go.Proofs
namespace Go.Proofs
open Go.Shelf
def Tryd.laysContains_ren : Go.Shelf.Ren := ⟨fun | 144 => 36 | 143 => 39 | 219 => 43 | 217 => 46 | 225 => 47 | 224 => 48 | 267 => 49 | 266 => 52 | 314 => 53 | n => n, fun | 9 => 9 | 4 => 4 | 3 => 3 | 5 => 5 | 46 => 52 | 146 => 87 | 51 => 86 | n => n, fun | 1 => 2 | n => n⟩
theorem Tryd.laysContains : Go.Proofs.Lays.n144 Tryd.prog Tryd.laysContains_ren := {
  mixed := by kernel_rfl
  f143 := Tryd.func39.trans (congrArg some (by kernel_rfl))
  f144 := Tryd.func36.trans (congrArg some (by kernel_rfl))
  f217 := Tryd.func46.trans (congrArg some (by kernel_rfl))
  f219 := Tryd.func43.trans (congrArg some (by kernel_rfl))
  f224 := Tryd.func48.trans (congrArg some (by kernel_rfl))
  f225 := Tryd.func47.trans (congrArg some (by kernel_rfl))
  f266 := Tryd.func52.trans (congrArg some (by kernel_rfl))
  f267 := Tryd.func49.trans (congrArg some (by kernel_rfl))
  f314 := Tryd.func53.trans (congrArg some (by kernel_rfl))
  t3 := Tryd.underlying3
  a3 := Tryd.isAgg3
  z3 := Tryd.sizeOf3
  v3 := Tryd.zeroValue3
  t4 := Tryd.underlying4
  a4 := Tryd.isAgg4
  z4 := Tryd.sizeOf4
  v4 := Tryd.zeroValue4
  t5 := Tryd.underlying5
  a5 := Tryd.isAgg5
  z5 := Tryd.sizeOf5
  v5 := Tryd.zeroValue5
  t9 := Tryd.underlying9
  a9 := Tryd.isAgg9
  z9 := Tryd.sizeOf9
  v9 := Tryd.zeroValue9
  t46 := Tryd.underlying52
  a46 := Tryd.isAgg52
  z46 := Tryd.sizeOf52
  v46 := Tryd.zeroValue52
  t51 := Tryd.underlying86
  a51 := Tryd.isAgg86
  z51 := Tryd.sizeOf86
  v51 := Tryd.zeroValue86
  t146 := Tryd.underlying87
  a146 := Tryd.isAgg87
  z146 := Tryd.sizeOf87
  v146 := Tryd.zeroValue87
  g1 := by kernel_rfl }
end Go.Proofs
namespace Go.Proofs.YtinagedilgihjaaDoor
set_option maxRecDepth 100000
set_option maxHeartbeats 40000000
set_option maxRecDepth 100000
open Go.RowKit WMath
set_option linter.unusedSimpArgs false
set_option linter.unusedVariables false
theorem and31 : ∀ F, F < 256 → bits .and .u8 ((F : Nat) : Int) 31 = ((F % 32 : Nat) : Int) := by decide +kernel
theorem and7 : ∀ q, q < 8 → bits .and .u8 ((q : Nat) : Int) 7 = ((q : Nat) : Int) := by decide +kernel
theorem and255 : ∀ F, F < 256 → bits .and .u8 ((F : Nat) : Int) 255 = ((F : Nat) : Int) := by decide +kernel
theorem not31 : ∀ F, F < 256 → bits .andNot .u8 ((F : Nat) : Int) 31 = ((F / 32 * 32 : Nat) : Int) := by decide +kernel
theorem not224 : ∀ F, F < 256 → bits .andNot .u8 ((F : Nat) : Int) 224 = ((F % 32 : Nat) : Int) := by decide +kernel
theorem not255 : ∀ F, F < 256 → bits .andNot .u8 ((F : Nat) : Int) 255 = 0 := by decide +kernel
theorem and0 (F : Nat) : bits .and .u8 ((F : Nat) : Int) 0 = 0 := by
  have e : bits .and .u8 ((F : Nat) : Int) 0 = IntKind.u8.wrap (((BitVec.ofInt 8 ((F : Nat) : Int) &&& 0#8).toNat : Nat) : Int) := rfl
  rw [e, BitVec.and_zero]
  rfl
theorem or_low (a b : Nat) (hb : b < 32) : a * 32 ||| b = a * 32 + b := by
  have := Nat.two_pow_add_eq_or_of_lt (i := 5) hb a
  rw [Nat.mul_comm a 32]
  exact this.symm
theorem wr64 (a : Nat) (h : a < 18446744073709551616) : IntKind.u64.wrap ((a : Nat) : Int) = ((a : Nat) : Int) := by
  rw [show ∀ y : Int, IntKind.u64.wrap y = y % 18446744073709551616 from fun _ => rfl]
  omega
theorem knum_no (n : Int) (h : ¬ (1 ≤ n ∧ n ≤ 3)) (w : World) : Calls Tryd.prog 30 #[.int .i64 n] w fun r w' => r = .returned (.tuple #[.agg #[.string ⟨#[]⟩, .int .u64 0, .int .u8 0], .int .i64 210]) ∧ Below w.heap.size w w' := by
  by_cases c : n < 1
  · exact pc_num_lo n (decide_eq_true c) w
  · exact pc_num_hi n (decide_eq_false c) (decide_eq_true (by omega)) w
theorem kRd_is (n : Int) (F : Nat) (hF : F < 256) (w : World) (hT : FAt w) : Calls Tryd.prog 8 #[.int .i64 n, .int .u8 (F : Nat)] w fun r w' => r = .returned (.tuple #[.int .u64 ((rdR n F).1 : Nat), .int .i64 (rdR n F).2]) ∧ Below w.heap.size w w' := by
  unfold rdR
  by_cases c : 1 ≤ n ∧ n ≤ 3
  · rw [if_pos c]
    rcases n_three c with rfl | rfl | rfl
    · exact pc_read1 F _ (and31 F hF) (wr64 _ (by omega)) (box (fun w hT => pc_num1 w hT)) w hT
    · exact pc_read2 F _ (and7 (F / 32) (by omega)) (wr64 _ (by omega)) (box (fun w hT => pc_num2 w hT)) w hT
    · exact pc_read3 F _ (and255 F hF) (wr64 _ (by omega)) (box (fun w hT => pc_num3 w hT)) w hT
  · rw [if_neg c]
    exact pc_read_no n F (and0 F) (box (fun w => knum_no n c w)) w
theorem kWr_is (n : Int) (F : Nat) (hF : F < 256) (x : Nat) (hx : x < 18446744073709551616) (w : World) (hT : FAt w) : Calls Tryd.prog 10 #[.int .i64 n, .int .u8 (F : Nat), .int .u64 (x : Nat)] w fun r w' => r = .returned (.tuple #[.int .u8 ((wrR n F x).1 : Nat), .int .i64 (wrR n F x).2]) ∧ Below w.heap.size w w' := by
  unfold wrR
  by_cases c : 1 ≤ n ∧ n ≤ 3
  · rw [if_pos c]
    rcases n_three c with rfl | rfl | rfl
    · refine pc_write1 F x _ _ 0 (not31 F hF) ?_ (box (fun w hT => pc_num1 w hT)) w hT
      have q := bits_or_u8 (F / 32 * 32) (x % 32) (by omega) (by omega)
      rw [or_low _ _ (by omega)] at q
      exact q
    · refine pc_write2 F x _ _ 0 (not224 F hF) ?_ (box (fun w hT => pc_num2 w hT)) w hT
      have q := bits_or_u8 (F % 32) (x % 8 * 32) (by omega) (by omega)
      rw [Nat.or_comm, or_low _ _ (by omega)] at q
      exact q
    · refine pc_write3 F x _ _ ((x % 256 : Nat) : Int) (not255 F hF) (and255 (x % 256) (by omega)) (by omega) ?_ (box (fun w hT => pc_num3 w hT)) w hT
      have q := bits_or_u8 0 (x % 256) (by omega) (by omega)
      rw [Nat.zero_or] at q
      exact q
  · rw [if_neg c]
    exact pc_write_no n F x (box (fun w => knum_no n c w)) w
theorem kPt_is (F : Nat) (hF : F < 256) (w : World) : Calls Tryd.prog 21 #[.int .u8 (F : Nat)] w fun r w' => r = .returned (.tuple #[.int .u8 ((F / 32 : Nat) : Int), .int .u8 ((F % 32 : Nat) : Int)]) ∧ Below w.heap.size w w' := pc_parts F _ _ rfl (and31 F hF) w
theorem kMd_is (F rm : Nat) (hF : F < 256) (w : World) : Calls Tryd.prog 15 #[.int .u8 (F : Nat), .int .u8 (rm : Nat)] w fun r w' => r = .returned (.tuple #[.int .u8 ((mdR F rm).1 : Nat), .int .i64 (mdR F rm).2]) ∧ Below w.heap.size w w' := by
  unfold mdR
  by_cases c : 7 < rm
  · rw [if_pos c]
    exact pc_mode_e _ _ (decide_eq_true (by omega)) w
  rw [if_neg c]
  have h := decide_eq_false (show ¬ (7 : Int) < ((rm : Nat) : Int) by omega)
  by_cases c7 : rm = 7
  · subst c7
    rw [if_pos rfl]
    by_cases d : 4 < F / 32
    · rw [if_pos d]
      exact pc_mode_dn _ _ _ (box (fun w => kPt_is F hF w)) (decide_eq_true (by omega)) w
    · rw [if_neg d]
      exact pc_mode_dy _ _ _ (box (fun w => kPt_is F hF w)) (decide_eq_false (by omega)) w
  · rw [if_neg c7]
    have h7 : (((rm : Nat) : Int) == 7) = false := beq_eq_false_iff_ne.2 (by omega)
    by_cases d : 4 < rm
    · rw [if_pos d]
      exact pc_mode_n _ _ h h7 (decide_eq_true (by omega)) w
    · rw [if_neg d]
      exact pc_mode_y _ _ h h7 (decide_eq_false (by omega)) w
theorem kNm_is (n : Int) (w : World) (hT : FAt w) : Calls Tryd.prog 22 #[.int .i64 n] w fun r w' => r = .returned (.tuple #[.string (nmR n).1, .int .i64 (nmR n).2]) ∧ Below w.heap.size w w' := by
  unfold nmR
  by_cases c : 1 ≤ n ∧ n ≤ 3
  · rw [if_pos c]
    rcases n_three c with rfl | rfl | rfl
    · exact pc_name 1 _ _ _ _ (box (fun w hT => pc_num1 w hT)) w hT
    · exact pc_name 2 _ _ _ _ (box (fun w hT => pc_num2 w hT)) w hT
    · exact pc_name 3 _ _ _ _ (box (fun w hT => pc_num3 w hT)) w hT
  · rw [if_neg c]
    exact pc_name n _ _ _ _ (box (fun w _ => knum_no n c w)) w hT
theorem kNd_is (s : ByteArray) (w : World) (hT : FAt w) : Calls Tryd.prog 24 #[.string s] w fun r w' => r = .returned (.tuple #[.int .i64 (ndR s).1, .int .i64 (ndR s).2]) ∧ Below w.heap.size w w' := by
  unfold ndR
  by_cases c1 : ([102, 102, 108, 97, 103, 115] == s.toList) = true
  · rw [if_pos c1]; exact pc_named1 s c1 w hT
  rw [if_neg c1]
  by_cases c2 : ([102, 114, 109] == s.toList) = true
  · rw [if_pos c2]; exact pc_named2 s (Bool.eq_false_iff.2 c1) c2 w hT
  rw [if_neg c2]
  by_cases c3 : ([102, 99, 115, 114] == s.toList) = true
  · rw [if_pos c3]; exact pc_named3 s (Bool.eq_false_iff.2 c1) (Bool.eq_false_iff.2 c2) c3 w hT
  rw [if_neg c3]
  exact pc_named4 s (Bool.eq_false_iff.2 c1) (Bool.eq_false_iff.2 c2) (Bool.eq_false_iff.2 c3) w hT
theorem t_join (xs : List ByteArray) (hn : xs.length ≤ 140737488355328) (hlen : (Lib.join (xs.map (·.data.toList)) [43]).length ≤ 140737488355328) (W : World) (b : Nat) (v : Value) (n : Nat) (h : W.ownsRow b 9 1 v n (xs.map Value.string)) : Calls Tryd.prog 38 #[v, .string ⟨#[43]⟩] W fun r w' => r = .returned (.string ⟨(Lib.join (xs.map (·.data.toList)) [43]).toArray⟩) ∧ Below W.heap.size W w' := by
  have hl := h.1
  rw [List.length_map, Nat.mul_one] at hl
  rcases h.2 with ⟨rfl, h0⟩ | ⟨g, cap, cur, rfl, _, h3, h4, _, h6, h7⟩
  · subst h0
    obtain rfl : xs = [] := List.length_eq_zero_iff.1 hl
    exact (Any.strings_Join_none Tryd.laysJoin Tryd.joinExtra none 0 ⟨#[43]⟩ W).mono fun e w' q => ⟨q.1, q.2 ▸ Below.refl _ _⟩
  · subst hl
    refine Any.strings_Join Tryd.laysJoin Tryd.joinExtra g 0 cap xs ⟨#[43]⟩ W ?_ (Array.getElem?_eq_some_iff.1 h3).1 hn h4 hlen
    intro j x hx
    have := h.cells (g := g) rfl j (.string x) (by rw [List.getElem?_map, hx]; rfl)
    rw [show (⟨g, 0, none⟩ : Addr).add j = ⟨g, 0 + j, none⟩ from by unfold Addr.add; split <;> simp_all] at this
    exact this
theorem txJ_is : ∀ g, g < 32 → g ≠ 0 → (txJ g = (txD g).data.toList ∧ (wlK g 5).length ≤ 5 ∧ (txJ g).length ≤ 14) := by decide +kernel
theorem kJn_is (g : Nat) (hg : g < 32) (w : World) (hT : FAt w) : Calls Tryd.prog 35 #[.int .u8 (g : Nat)] w fun r w' => r = .returned (.string (txt g)) ∧ Below w.heap.size w w' := by
  by_cases h0 : g = 0
  · subst h0
    rw [show txt 0 = ⟨#[45]⟩ from by rw [txt_D]; decide +kernel]
    exact pc_joined0 w
  obtain ⟨a, b, c⟩ := txJ_is g hg h0
  refine pc_joined g hg (beq_eq_false_iff_ne.2 (by omega)) _ w (box (fun W b v n h => ?_)) hT
  have := t_join (wlK g 5) (by omega) (by show (txJ g).length ≤ _; omega) W _ v n h
  have e : (⟨(Lib.join ((wlK g 5).map (·.data.toList)) [43]).toArray⟩ : ByteArray) = txt g := by
    show (⟨(txJ g).toArray⟩ : ByteArray) = txt g
    rw [a, txt_D]
  rw [e] at this
  exact this
theorem kTx_is (g : Nat) (w : World) (hT : FAt w) : Calls Tryd.prog 26 #[.int .u8 (g : Nat)] w fun r w' => r = .returned (.tuple #[.string (txR g).1, .int .i64 (txR g).2]) ∧ Below w.heap.size w w' := by
  unfold txR
  by_cases c : 31 < g
  · rw [if_pos c]; exact pc_text_e _ (decide_eq_true (by omega)) w
  · rw [if_neg c]
    exact pc_text _ _ (decide_eq_false (by omega)) (box (fun w hT => kJn_is g (by omega) w hT)) w hT
theorem csrLives (w : World) (hT : FAt w) : Calls Tryd.prog 14 #[] w fun r w' => r = .returned (.bool true) ∧ Below w.heap.size w w' :=
  lives_all (box (fun {w w'} h hb => fatB h hb)) (fun n F _ _ hF => box (fun w hT => kRd_is n F hF w hT)) (fun n F x _ _ hF hx => box (fun w hT => kWr_is n F hF x hx w hT)) (fun F rm hF _ => box (fun w hT => kMd_is F rm hF w)) (fun g _ => box (fun w hT => kTx_is g w hT)) w hT
end Go.Proofs.YtinagedilgihjaaDoor
namespace Go.Proofs.YtinagedilgihjaaDoor
set_option maxRecDepth 100000
set_option maxHeartbeats 40000000
set_option maxRecDepth 100000
open WMath
open Go.ChangeShapes Go.WideShapes Go.ChangeAt Go.RowKit
theorem trod_row3 {H : Type} {enc : TypeId × Value → H} {P : Program} {w : World} {base : Nat} {spare : Nat → Bool} {held : Bool} {t : TypeId} {f0 f1 f2 : Field} {fuel : Nat} {cs : List Value} {x : DataW H × List MemPlace} (ht : P.underlying t = some (.struct #[f0, f1, f2])) (h : DataW.trod enc P w base spare held fuel t cs = some x) :
    ∃ y0 y1 y2 n, x = (.agg [y0.1, y1.1, y2.1], y0.2 ++ (y1.2 ++ y2.2)) ∧ DataW.trod enc P w base spare held n f0.type ((cs.drop f0.offset).take (P.cellsOf f0.type)) = some y0 ∧
      DataW.trod enc P w base spare held n f1.type ((cs.drop f1.offset).take (P.cellsOf f1.type)) = some y1 ∧ DataW.trod enc P w base spare held n f2.type ((cs.drop f2.offset).take (P.cellsOf f2.type)) = some y2 := by
  obtain ⟨xs, n, _, rfl, hl, hlen, hf⟩ := DataW.trod_struct ht h
  match xs, hlen with
  | [y0, y1, y2], _ => exact ⟨y0, y1, y2, n, by simp, by simpa using hf 0 f0 rfl, by simpa using hf 1 f1 rfl, by simpa using hf 2 f2 rfl⟩
theorem list3x {α : Type} (l : List α) (h : l.length = 3) : ∃ a b c, l = [a, b, c] := by
  match l, h with
  | [a, b, c], _ => exact ⟨a, b, c, rfl⟩
theorem list1x {α : Type} (l : List α) (h : l.length = 1) : ∃ a, l = [a] := by
  match l, h with
  | [a], _ => exact ⟨a, rfl⟩
theorem reg_read {w : World} {fuel : Nat} {enc : TypeId × Value → Unit} {base : Nat} {spare : Nat → Bool} {held : Bool} {l : List Value} {a b : Int} {s : List UInt8} {p : List MemPlace}
    (h : DataW.trod enc Tryd.prog w base spare held fuel 54 l = some (.agg [.lit (.string s), .lit (.int .u64 a), .lit (.int .u8 b)], p)) (hl : l.length = 3) :
    l = [.string ⟨⟨s⟩⟩, .int .u64 a, .int .u8 b] := by
  have h5 : Tryd.prog.cellsOf 5 = 1 := by kernel_rfl
  have h9 : Tryd.prog.cellsOf 9 = 1 := by kernel_rfl
  have hu : Tryd.prog.cellsOf 52 = 1 := by kernel_rfl
  obtain ⟨c0, c1, c2, rfl⟩ := list3x l hl
  obtain ⟨y0, y1, y2, n, hx, g0, g1, g2⟩ := trod_row3 Tryd.underlying54 h
  simp only [h5, h9, hu] at g0 g1 g2
  obtain ⟨x0, e0, k0, w0⟩ := DataW.trod_string Tryd.underlying9 g0
  obtain ⟨x1, e1, k1, w1⟩ := DataW.trod_int Tryd.underlying52 g1
  obtain ⟨x2, e2, k2, w2⟩ := DataW.trod_int Tryd.underlying5 g2
  simp at e0 e1 e2
  subst e0 e1 e2
  rw [k0, k1, k2] at hx
  simp at hx
  obtain ⟨⟨rfl, rfl, rfl⟩, _⟩ := hx
  rfl
theorem wd_read {w : World} {fuel : Nat} {enc : TypeId × Value → Unit} {base : Nat} {spare : Nat → Bool} {held : Bool} {l : List Value} {s : List UInt8} {p : List MemPlace}
    (h : DataW.trod enc Tryd.prog w base spare held fuel 9 l = some (.lit (.string s), p)) (hl : l.length = 1) : l = [.string ⟨⟨s⟩⟩] := by
  obtain ⟨c0, rfl⟩ := list1x l hl
  obtain ⟨x0, e0, k0, w0⟩ := DataW.trod_string Tryd.underlying9 h
  simp at e0
  subst e0
  simp at k0
  obtain ⟨k1, _⟩ := k0
  rw [k1]
def laid7 : List (String × DataW Unit) := [("abacus/csr.registers", Rows.laid_abacus_csr_registers), ("abacus/csr.words", Rows.laid_abacus_csr_words)]
theorem gTab7 : Tryd.prog.globalNamed "abacus/csr.registers" = some 0 := by kernel_rfl
theorem gType7 : (Tryd.prog.globals[0]?).map (·.type) = some 63 := by kernel_rfl
theorem gTabW : Tryd.prog.globalNamed "abacus/csr.words" = some 1 := by kernel_rfl
theorem gTypeW : (Tryd.prog.globals[1]?).map (·.type) = some 65 := by kernel_rfl
theorem of_regs {W : World} {rest : List (String × DataW Unit)} (h : laidMet Tryd.prog (("abacus/csr.registers", Rows.laid_abacus_csr_registers) :: rest) W) : ∀ i, i < 9 → W.cell? ⟨0, i, none⟩ = fcells[i]? := by
  have hce : Tryd.prog.cellsOf 54 = 3 := by kernel_rfl
  have hct : Tryd.prog.cellsOf 63 = 9 := by kernel_rfl
  obtain ⟨ps, ⟨g', t', cs, fuel, p, q, hg', ht', hvar, hd, _, _⟩, _⟩ := h
  obtain rfl := Option.some.inj (gTab7.symm.trans hg')
  obtain rfl := Option.some.inj (gType7.symm.trans ht')
  obtain ⟨xs, m, rfl, hx, hl, hxl, hel⟩ := DataW.trod_array Tryd.underlying63 hd
  rw [hce] at hel
  rw [hct] at hl
  have hl2 : cs.size = 9 := by simpa using hl
  match xs, hxl with
  | [y0, y1, y2], _ =>
    have hx1 := congrArg Prod.fst hx
    simp [Rows.laid_abacus_csr_registers] at hx1
    obtain ⟨h0, h1, h2⟩ := hx1
    have q0 := hel 0 (by decide)
    have q1 := hel 1 (by decide)
    have q2 := hel 2 (by decide)
    simp only [List.getElem?_cons_zero, List.getElem?_cons_succ] at q0 q1 q2
    have z0 := reg_read (p := y0.2) (by rw [q0, h0]) (by simp; omega)
    have z1 := reg_read (p := y1.2) (by rw [q1, h1]) (by simp; omega)
    have z2 := reg_read (p := y2.2) (by rw [q2, h2]) (by simp; omega)
    have hcs : ∀ i, i < 9 → cs.toList[i]? = fcells[i]? := by
      intro i hi
      have e0 : cs.toList[i]? = (cs.toList.drop (i / 3 * 3))[i % 3]? := by rw [List.getElem?_drop]; congr 1; omega
      have e1 : (cs.toList.drop (i / 3 * 3))[i % 3]? = ((cs.toList.drop (i / 3 * 3)).take 3)[i % 3]? := by rw [List.getElem?_take, if_pos (by omega)]
      rw [e0, e1]
      have : i / 3 = 0 ∨ i / 3 = 1 ∨ i / 3 = 2 := by omega
      have hj : i % 3 = 0 ∨ i % 3 = 1 ∨ i % 3 = 2 := by omega
      have hi2 : i = i / 3 * 3 + i % 3 := by omega
      rcases this with e | e | e <;> rw [e] at hi2 ⊢ <;> rcases hj with k | k | k <;> rw [k] at hi2 ⊢ <;> subst hi2 <;> first | (rw [z0]; rfl) | (rw [z1]; rfl) | (rw [z2]; rfl)
    intro i hi
    rw [World.var?_cell gTab7 hvar i, ← hcs i hi]
    simp
theorem of_wds {W : World} {rest : List (String × DataW Unit)} (h : laidMet Tryd.prog (("abacus/csr.words", Rows.laid_abacus_csr_words) :: rest) W) : ∀ i, i < 5 → W.cell? ⟨1, i, none⟩ = wcells[i]? := by
  have hce : Tryd.prog.cellsOf 9 = 1 := by kernel_rfl
  have hct : Tryd.prog.cellsOf 65 = 5 := by kernel_rfl
  obtain ⟨ps, ⟨g', t', cs, fuel, p, q, hg', ht', hvar, hd, _, _⟩, _⟩ := h
  obtain rfl := Option.some.inj (gTabW.symm.trans hg')
  obtain rfl := Option.some.inj (gTypeW.symm.trans ht')
  obtain ⟨xs, m, rfl, hx, hl, hxl, hel⟩ := DataW.trod_array Tryd.underlying65 hd
  rw [hce] at hel
  rw [hct] at hl
  have hl2 : cs.size = 5 := by simpa using hl
  match xs, hxl with
  | [y0, y1, y2, y3, y4], _ =>
    have hx1 := congrArg Prod.fst hx
    simp [Rows.laid_abacus_csr_words] at hx1
    obtain ⟨h0, h1, h2, h3, h4⟩ := hx1
    have q0 := hel 0 (by decide)
    have q1 := hel 1 (by decide)
    have q2 := hel 2 (by decide)
    have q3 := hel 3 (by decide)
    have q4 := hel 4 (by decide)
    simp only [List.getElem?_cons_zero, List.getElem?_cons_succ] at q0 q1 q2 q3 q4
    have z0 := wd_read (p := y0.2) (by rw [q0, h0]) (by simp; omega)
    have z1 := wd_read (p := y1.2) (by rw [q1, h1]) (by simp; omega)
    have z2 := wd_read (p := y2.2) (by rw [q2, h2]) (by simp; omega)
    have z3 := wd_read (p := y3.2) (by rw [q3, h3]) (by simp; omega)
    have z4 := wd_read (p := y4.2) (by rw [q4, h4]) (by simp; omega)
    have hcs : ∀ i, i < 5 → cs.toList[i]? = wcells[i]? := by
      intro i hi
      have e0 : cs.toList[i]? = (cs.toList.drop (i * 1))[0]? := by rw [List.getElem?_drop]; congr 1; omega
      have e1 : (cs.toList.drop (i * 1))[0]? = ((cs.toList.drop (i * 1)).take 1)[0]? := by rw [List.getElem?_take, if_pos (by omega)]
      rw [e0, e1]
      have : i = 0 ∨ i = 1 ∨ i = 2 ∨ i = 3 ∨ i = 4 := by omega
      rcases this with rfl | rfl | rfl | rfl | rfl <;> first | (rw [z0]; rfl) | (rw [z1]; rfl) | (rw [z2]; rfl) | (rw [z3]; rfl) | (rw [z4]; rfl)
    intro i hi
    rw [World.var?_cell gTabW hvar i, ← hcs i hi]
    simp
theorem of_laid7 {W : World} (h : laidMetH Tryd.prog laid7 W) : FAt W := by
  rw [MakeChecks.laidMetH_plain _ _ _ (by kernel_rfl)] at h
  exact ⟨of_regs h, of_wds (laidMet.tail h)⟩
theorem door_met7 (os : Os) (args : Array Value) : laidMetH Tryd.prog laid7 ((World.doorLaid Tryd.prog 400 os).forCall (fun _ _ => 0) ⟨#[], args, []⟩).memory :=
  laidMetH_of_parts3 (fuel := 8) (laidMet_of_run' 8 (by kernel_rfl) (by kernel_rfl)) (by kernel_rfl) (by kernel_rfl)
end Go.Proofs.YtinagedilgihjaaDoor
