/-
  What the functions that the statement reaches return: part 3 (S1, S2, S3, S4, S6, K1, K3, K5, K6, KA, KB, KF, KU, V1, V2, V9, R1, R30, RA).
-/
import Derived.Lib.MinMax
import Derived.Deep.RegionHeld3
import Derived.Laws.CopyRow
import Derived.Test.YtfmmeifipbpbmaaDoorOd02
namespace Go.Proofs.YtfmmeifipbpbmaaDoor
set_option maxRecDepth 100000
open Go.RowKit WMath

theorem bal7 (w : World) (o : Obj) : Below w.heap.size w (w.alloc o) := (Below.refl _ _).alloc (Nat.le_refl _) _
theorem btr7 {a b c : World} (h : Below a.heap.size a b) (k : Below b.heap.size b c) : Below a.heap.size a c := h.trans (k.mono h.size)

/-- The table of the formats, as it lies in its variable. -/
def fcells : Array Value := #[.int .i64 32, .int .i64 24, .int .i64 127, .string ⟨#[115]⟩, .int .i64 64, .int .i64 53, .int .i64 1023, .string ⟨#[100]⟩, .int .i64 16, .int .i64 11, .int .i64 15, .string ⟨#[104]⟩, .int .i64 128, .int .i64 113, .int .i64 16383, .string ⟨#[113]⟩]
def FAt (w : World) : Prop := ∀ i, i < 16 → w.cell? ⟨0, i, none⟩ = fcells[i]?
theorem fc_some (i : Nat) (h : i < 16) : ∃ v, fcells[i]? = some v := ⟨_, Array.getElem?_eq_getElem (show i < fcells.size from h)⟩
theorem fatB {w w' : World} (h : FAt w) (hb : Below w.heap.size w w') : FAt w' := fun i hi => by
  obtain ⟨v, hv⟩ := fc_some i hi
  rw [hb.cell (p := ⟨0, i, none⟩) (World.block_lt_of_cell? w _ ((h i hi).trans hv))]
  exact h i hi
theorem fat_at {w : World} (h : FAt w) (i : Nat) (v : Value) (hi : i < 16) (hv : fcells[i]? = some v) : w.cell? ⟨0, i, none⟩ = some v := (h i hi).trans hv

theorem fat_al {w : World} (h : FAt w) (o : Obj) : FAt (w.alloc o) := fatB h (bal7 w o)
theorem fat_dr {w : World} (h : FAt w) : FAt w.drew := h

def fW (f : Int) : Int := if f = 0 then 32 else if f = 1 then 64 else if f = 2 then 16 else if f = 3 then 128 else 0
def fP (f : Int) : Int := if f = 0 then 24 else if f = 1 then 53 else if f = 2 then 11 else if f = 3 then 113 else 0
def fE (f : Int) : Int := if f = 0 then 127 else if f = 1 then 1023 else if f = 2 then 15 else if f = 3 then 16383 else 0
def fN (f : Int) : ByteArray := if f = 0 then ⟨#[115]⟩ else if f = 1 then ⟨#[100]⟩ else if f = 2 then ⟨#[104]⟩ else if f = 3 then ⟨#[113]⟩ else ⟨#[]⟩
def fR (f : Int) : Array Value := #[.int .i64 (fW f), .int .i64 (fP f), .int .i64 (fE f), .string (fN f)]
def fC (f : Int) : Int := if f = 0 ∨ f = 1 ∨ f = 2 ∨ f = 3 then 0 else 2

theorem f_cases (f : Int) (h0 : 0 ≤ f) : f = 0 ∨ f = 1 ∨ f = 2 ∨ f = 3 ∨ 4 ≤ f := by omega

theorem s_check (f : Int) (h0 : 0 ≤ f) (h1 : f ≤ 255) (w : World) :
    Calls Tryd.prog 41 #[.int .u8 f] w fun e w' => e = .returned (.int .i64 (fC f)) ∧ w' = w := by
  by_cases h : 4 ≤ f
  · have e : fC f = 2 := by unfold fC; rw [if_neg (by omega)]
    rw [e]
    have hd : decide ((4 : Int) ≤ f) = true := by simp [h]
    go_enter Tryd.func41, Tryd.ntmps41
    go_wp2
    go_ret
    exact ⟨rfl, rfl⟩
  · have e : fC f = 0 := by unfold fC; rw [if_pos (by omega)]
    rw [e]
    have hd : decide ((4 : Int) ≤ f) = false := by simp; omega
    go_enter Tryd.func41, Tryd.ntmps41
    go_wp2
    go_ret
    exact ⟨rfl, rfl⟩

theorem s_check_is (f c : Int) (h0 : 0 ≤ f) (h1 : f ≤ 255) (hc : fC f = c) (w : World) :
    Calls Tryd.prog 41 #[.int .u8 f] w fun e w' => e = .returned (.int .i64 c) ∧ w' = w := by
  subst hc; exact s_check f h0 h1 w

theorem s_checkMode (f : Int) (w : World) :
    Calls Tryd.prog 42 #[.int .u8 f] w fun e w' => e = .returned (.int .i64 (if f ≤ 4 then 0 else 2)) ∧ w' = w := by
  by_cases h : 4 < f
  · rw [if_neg (by omega)]
    go_enter Tryd.func42, Tryd.ntmps42
    go_wp2
    go_ret
    exact ⟨rfl, rfl⟩
  · rw [if_pos (by omega)]
    go_enter Tryd.func42, Tryd.ntmps42
    go_wp2
    go_ret
    exact ⟨rfl, rfl⟩

theorem s_of (f : Int) (h0 : 0 ≤ f) (h1 : f ≤ 255) (w : World) (hT : FAt w) :
    Calls Tryd.prog 56 #[.int .u8 f] w fun e w' => e = .returned (.agg #[.int .i64 (fW f), .int .i64 (fP f), .int .i64 (fE f), .string (fN f)]) ∧ w' = w.alloc (.cells (fR f) 81) := by
  have hB := bal7 w (.cells #[.int .i64 0, .int .i64 0, .int .i64 0, .string ⟨#[]⟩] 81)
  have T2 := fatB hT hB
  rcases f_cases f h0 with rfl | rfl | rfl | rfl | h
  · have c0 := fat_at T2 0 (.int .i64 32) (by decide) rfl
    have c1 := fat_at T2 1 (.int .i64 24) (by decide) rfl
    have c2 := fat_at T2 2 (.int .i64 127) (by decide) rfl
    have c3 := fat_at T2 3 (.string ⟨#[115]⟩) (by decide) rfl
    clear T2 hT
    go_enter Tryd.func56, Tryd.ntmps56
    go_wp2_with fail
    refine (s_check_is 0 0 (by omega) (by omega) rfl _).mono ?_
    rintro r w' ⟨rfl, rfl⟩
    go_wp2
    exact bodyPost_ret (v := .agg #[.int .i64 32, .int .i64 24, .int .i64 127, .string ⟨#[115]⟩]) (by simp [results, Tryd.results56, go_sem]) rfl ⟨rfl, rfl⟩
  · have c0 := fat_at T2 4 (.int .i64 64) (by decide) rfl
    have c1 := fat_at T2 5 (.int .i64 53) (by decide) rfl
    have c2 := fat_at T2 6 (.int .i64 1023) (by decide) rfl
    have c3 := fat_at T2 7 (.string ⟨#[100]⟩) (by decide) rfl
    clear T2 hT
    go_enter Tryd.func56, Tryd.ntmps56
    go_wp2_with fail
    refine (s_check_is 1 0 (by omega) (by omega) rfl _).mono ?_
    rintro r w' ⟨rfl, rfl⟩
    go_wp2
    exact bodyPost_ret (v := .agg #[.int .i64 64, .int .i64 53, .int .i64 1023, .string ⟨#[100]⟩]) (by simp [results, Tryd.results56, go_sem]) rfl ⟨rfl, rfl⟩
  · have c0 := fat_at T2 8 (.int .i64 16) (by decide) rfl
    have c1 := fat_at T2 9 (.int .i64 11) (by decide) rfl
    have c2 := fat_at T2 10 (.int .i64 15) (by decide) rfl
    have c3 := fat_at T2 11 (.string ⟨#[104]⟩) (by decide) rfl
    clear T2 hT
    go_enter Tryd.func56, Tryd.ntmps56
    go_wp2_with fail
    refine (s_check_is 2 0 (by omega) (by omega) rfl _).mono ?_
    rintro r w' ⟨rfl, rfl⟩
    go_wp2
    exact bodyPost_ret (v := .agg #[.int .i64 16, .int .i64 11, .int .i64 15, .string ⟨#[104]⟩]) (by simp [results, Tryd.results56, go_sem]) rfl ⟨rfl, rfl⟩
  · have c0 := fat_at T2 12 (.int .i64 128) (by decide) rfl
    have c1 := fat_at T2 13 (.int .i64 113) (by decide) rfl
    have c2 := fat_at T2 14 (.int .i64 16383) (by decide) rfl
    have c3 := fat_at T2 15 (.string ⟨#[113]⟩) (by decide) rfl
    clear T2 hT
    go_enter Tryd.func56, Tryd.ntmps56
    go_wp2_with fail
    refine (s_check_is 3 0 (by omega) (by omega) rfl _).mono ?_
    rintro r w' ⟨rfl, rfl⟩
    go_wp2
    exact bodyPost_ret (v := .agg #[.int .i64 128, .int .i64 113, .int .i64 16383, .string ⟨#[113]⟩]) (by simp [results, Tryd.results56, go_sem]) rfl ⟨rfl, rfl⟩
  · have hd : decide ((4 : Int) ≤ f) = true := by simp [h]
    have e0 : fW f = 0 := by unfold fW; rw [if_neg (by omega), if_neg (by omega), if_neg (by omega), if_neg (by omega)]
    have e1 : fP f = 0 := by unfold fP; rw [if_neg (by omega), if_neg (by omega), if_neg (by omega), if_neg (by omega)]
    have e2 : fE f = 0 := by unfold fE; rw [if_neg (by omega), if_neg (by omega), if_neg (by omega), if_neg (by omega)]
    have e3 : fN f = ⟨#[]⟩ := by unfold fN; rw [if_neg (by omega), if_neg (by omega), if_neg (by omega), if_neg (by omega)]
    have e4 : fC f = 2 := by unfold fC; rw [if_neg (by omega)]
    have e5 : fR f = #[.int .i64 0, .int .i64 0, .int .i64 0, .string ⟨#[]⟩] := by unfold fR; rw [e0, e1, e2, e3]
    rw [e0, e1, e2, e3, e5]
    clear T2 hT e0 e1 e2 e3 e5
    go_enter Tryd.func56, Tryd.ntmps56
    go_wp2_with fail
    refine (s_check_is f 2 (by omega) (by omega) e4 _).mono ?_
    rintro r w' ⟨rfl, rfl⟩
    go_wp2
    exact bodyPost_ret (v := .agg #[.int .i64 0, .int .i64 0, .int .i64 0, .string ⟨#[]⟩]) (by simp [results, Tryd.results56, go_sem]) rfl ⟨rfl, rfl⟩

theorem s_of_is (f w0 p0 m0 : Int) (n0 : ByteArray) (h0 : 0 ≤ f) (h1 : f ≤ 255) (hw : fW f = w0) (hp : fP f = p0) (he : fE f = m0) (hn : fN f = n0) (w : World) (hT : FAt w) :
    Calls Tryd.prog 56 #[.int .u8 f] w fun e w' => e = .returned (.agg #[.int .i64 w0, .int .i64 p0, .int .i64 m0, .string n0]) ∧ w' = w.alloc (.cells (fR f) 81) := by
  subst hw hp he hn
  exact s_of f h0 h1 w hT

theorem fld0 (a b c d : Value) (w : World) : (Instr.field 81 (.agg #[a, b, c, d]) 0).run Tryd.prog w = .ok a w := by kernel_rfl
theorem fld1 (a b c d : Value) (w : World) : (Instr.field 81 (.agg #[a, b, c, d]) 1).run Tryd.prog w = .ok b w := by kernel_rfl
theorem fld2 (a b c d : Value) (w : World) : (Instr.field 81 (.agg #[a, b, c, d]) 2).run Tryd.prog w = .ok c w := by kernel_rfl
theorem s_width (f v : Int) (h0 : 0 ≤ f) (h1 : f ≤ 255) (hv : fW f = v) (w : World) (hT : FAt w) :
    Calls Tryd.prog 69 #[.int .u8 f] w fun e w' => e = .returned (.int .i64 v) ∧ w' = w.alloc (.cells (fR f) 81) := by
  have hl := fld0
  go_enter Tryd.func69, Tryd.ntmps69
  go_wp2_with fail
  refine (s_of_is f v _ _ _ h0 h1 hv rfl rfl rfl _ hT).mono ?_
  rintro r w2 ⟨rfl, rfl⟩
  go_wp2
  go_ret
  exact ⟨rfl, rfl⟩
theorem s_precision (f v : Int) (h0 : 0 ≤ f) (h1 : f ≤ 255) (hv : fP f = v) (w : World) (hT : FAt w) :
    Calls Tryd.prog 50 #[.int .u8 f] w fun e w' => e = .returned (.int .i64 v) ∧ w' = w.alloc (.cells (fR f) 81) := by
  have hl := fld1
  go_enter Tryd.func50, Tryd.ntmps50
  go_wp2_with fail
  refine (s_of_is f _ v _ _ h0 h1 rfl hv rfl rfl _ hT).mono ?_
  rintro r w2 ⟨rfl, rfl⟩
  go_wp2
  go_ret
  exact ⟨rfl, rfl⟩
theorem s_emax (f v : Int) (h0 : 0 ≤ f) (h1 : f ≤ 255) (hv : fE f = v) (w : World) (hT : FAt w) :
    Calls Tryd.prog 32 #[.int .u8 f] w fun e w' => e = .returned (.int .i64 v) ∧ w' = w.alloc (.cells (fR f) 81) := by
  have hl := fld2
  go_enter Tryd.func32, Tryd.ntmps32
  go_wp2_with fail
  refine (s_of_is f _ _ v _ h0 h1 rfl rfl hv rfl _ hT).mono ?_
  rintro r w2 ⟨rfl, rfl⟩
  go_wp2
  go_ret
  exact ⟨rfl, rfl⟩

theorem s_emin (f m v : Int) (h0 : 0 ≤ f) (h1 : f ≤ 255) (hm : fE f = m) (hv : (if fC f = 0 then 1 - m else 0) = v) (w : World) (hT : FAt w) :
    Calls Tryd.prog 31 #[.int .u8 f] w fun e w' => e = .returned (.int .i64 v) ∧ Below w.heap.size w w' := by
  obtain ⟨c, hc⟩ : ∃ c, fC f = c := ⟨_, rfl⟩
  rw [hc] at hv
  have hm2 : 0 ≤ m ∧ m ≤ 16383 := by rw [← hm]; unfold fE; split <;> (try split) <;> (try split) <;> (try split) <;> omega
  by_cases h : c = 0
  · rw [if_pos h] at hv
    subst h hv
    have hw : IntKind.i64.wrap (1 - m) = 1 - m := by rw [IntKind.wrap_i64]; omega
    go_enter Tryd.func31, Tryd.ntmps31
    go_wp2_with fail
    refine (s_check_is f 0 h0 h1 hc _).mono ?_
    rintro r w' ⟨rfl, rfl⟩
    go_wp2_with fail
    refine (s_emax f m h0 h1 hm _ hT).mono ?_
    rintro r w2 ⟨rfl, rfl⟩
    go_wp2
    go_ret
    exact ⟨rfl, bal7 _ _⟩
  · have hd : (c != 0) = true := by simp [h]
    rw [if_neg h] at hv
    subst hv
    go_enter Tryd.func31, Tryd.ntmps31
    go_wp2_with fail
    refine (s_check_is f c h0 h1 hc _).mono ?_
    rintro r w' ⟨rfl, rfl⟩
    go_wp2
    go_ret
    exact ⟨rfl, Below.refl _ _⟩

def rHi (x n : Int) : Int := bits .or .u64 (IntKind.u64.wrap (x * 2 ^ min (IntKind.u64.wrap (n - 64)).toNat 64)) (x / 2 ^ min (IntKind.u64.wrap (64 - n)).toNat 64)
def rLo (x n : Int) : Int := IntKind.u64.wrap (x * 2 ^ min n.toNat 64)

theorem cell7 {w : World} {g : Nat} {T : TypeId} {c : Array Value} (row : w.heap[g]? = some (.cells c T)) (k : Nat) (v : Value) (h : c[k]? = some v) : w.cell? ⟨g, k, none⟩ = some v := by
  simp [World.cell?, row, h]
theorem set2_below {n : Nat} {w wr : World} {b : Nat} (h : Below n w wr) (hb : n ≤ b) (v0 v1 : Value) : Below n w ((wr.setCell ⟨b, 0, none⟩ v0).setCell ⟨b, 1, none⟩ v1) := (h.setCell (by exact hb) _).setCell (by exact hb) _
theorem set2_row {w : World} {b : Nat} {c0 c1 : Value} {T : TypeId} (h : w.heap[b]? = some (.cells #[c0, c1] T)) (v0 v1 : Value) :
    ((w.setCell ⟨b, 0, none⟩ v0).setCell ⟨b, 1, none⟩ v1).heap[b]? = some (.cells #[v0, v1] T) := by
  rw [setCell_row (setCell_row h)]; rfl
theorem set2_cells {w : World} {b : Nat} {c0 c1 : Value} {T : TypeId} (h : w.heap[b]? = some (.cells #[c0, c1] T)) (v0 v1 : Value) :
    ((w.setCell ⟨b, 0, none⟩ v0).setCell ⟨b, 1, none⟩ v1).cell? ⟨b, 0, none⟩ = some v0 ∧ ((w.setCell ⟨b, 0, none⟩ v0).setCell ⟨b, 1, none⟩ v1).cell? ⟨b, 1, none⟩ = some v1 := by
  have r := set2_row h v0 v1
  exact ⟨cell7 r 0 _ rfl, cell7 r 1 _ rfl⟩
theorem last7 (w : World) (o : Obj) : (w.alloc o).heap[w.heap.size]? = some o := heap_alloc_last w o

def b2 (a b : Int) : Array Value := #[.int .u64 a, .int .u64 b]

theorem s_raised (x n H L : Int) (h0 : 0 ≤ n) (h1 : n ≤ 18446744073709551615) (hH : rHi x n = H) (hL : rLo x n = L) (w : World) :
    Calls Tryd.prog 68 #[.int .u64 x, .int .u64 n] w fun e w' => e = .returned (.agg #[.int .u64 H, .int .u64 L]) ∧ w' = w.alloc (.cells #[.int .u64 H, .int .u64 L] 26) := by
  obtain ⟨m, rfl⟩ := Int.eq_ofNat_of_zero_le h0
  subst hH hL
  go_enter Tryd.func68, Tryd.ntmps68
  go_wp2
  exact bodyPost_ret (v := .agg #[.int .u64 (rHi x m), .int .u64 (rLo x m)]) (by simp [results, Tryd.results68, go_sem, rHi, rLo]) rfl ⟨rfl, by simp [rHi, rLo]⟩

theorem s_join (a b c d H L : Int) (hH : bits .or .u64 a c = H) (hL : bits .or .u64 b d = L) (w : World) :
    Calls Tryd.prog 67 #[.agg #[.int .u64 a, .int .u64 b], .agg #[.int .u64 c, .int .u64 d]] w fun e w' => e = .returned (.agg #[.int .u64 H, .int .u64 L]) ∧ w' = ((w.alloc (.cells #[.int .u64 a, .int .u64 b] 26)).alloc (.cells #[.int .u64 c, .int .u64 d] 26)).alloc (.cells #[.int .u64 H, .int .u64 L] 26) := by
  go_enter Tryd.func67, Tryd.ntmps67
  go_wp2
  exact bodyPost_ret (v := .agg #[.int .u64 H, .int .u64 L]) (by simp [results, Tryd.results67, go_sem]) rfl ⟨rfl, rfl⟩

theorem s_ones (n H L : Int) (h0 : 0 ≤ n) (h1 : n ≤ 18446744073709551615) (hH : rHi 1 n = H) (hL : rLo 1 n = L) (K M : Int) (hK : (if L = 0 then IntKind.u64.wrap (H - 1) else H) = K) (hM : IntKind.u64.wrap (L - 1) = M) (w : World) :
    Calls Tryd.prog 44 #[.int .u64 n] w fun e w' => e = .returned (.agg #[.int .u64 K, .int .u64 M]) ∧ Below w.heap.size w w' := by
  by_cases hz : L = 0
  · have hd : (L == 0) = true := by simp [hz]
    rw [if_pos hz] at hK
    subst hz
    rw [show (0 : Int) - 1 = -1 by decide] at hM
    go_enter Tryd.func44, Tryd.ntmps44
    go_wp2_with fail
    refine (s_raised 1 n H _ h0 h1 hH hL _).mono ?_
    rintro r w2 ⟨rfl, rfl⟩
    go_wp2
    exact bodyPost_ret (v := .agg #[.int .u64 K, .int .u64 M]) (by simp [results, Tryd.results44, go_sem]) rfl ⟨rfl, (((Below.refl _ _).alloc (Nat.le_refl _) _).alloc (by simp only [size_al]; omega) _).alloc (by simp only [size_al]; omega) _⟩
  · have hd : (L == 0) = false := by simp [hz]
    rw [if_neg hz] at hK
    subst hK
    go_enter Tryd.func44, Tryd.ntmps44
    go_wp2_with fail
    refine (s_raised 1 n H _ h0 h1 hH hL _).mono ?_
    rintro r w2 ⟨rfl, rfl⟩
    go_wp2
    exact bodyPost_ret (v := .agg #[.int .u64 H, .int .u64 M]) (by simp [results, Tryd.results44, go_sem]) rfl ⟨rfl, (((Below.refl _ _).alloc (Nat.le_refl _) _).alloc (by simp only [size_al]; omega) _).alloc (by simp only [size_al]; omega) _⟩

theorem s_fraction (f p v : Int) (h0 : 0 ≤ f) (h1 : f ≤ 255) (hp : fP f = p) (hv : IntKind.u64.wrap (p - 1) = v) (w : World) (hT : FAt w) :
    Calls Tryd.prog 45 #[.int .u8 f] w fun e w' => e = .returned (.int .u64 v) ∧ w' = w.alloc (.cells (fR f) 81) := by
  have hm2 : 0 ≤ p ∧ p ≤ 113 := by rw [← hp]; unfold fP; split <;> (try split) <;> (try split) <;> (try split) <;> omega
  have hw : IntKind.i64.wrap (p - 1) = p - 1 := by rw [IntKind.wrap_i64]; omega
  go_enter Tryd.func45, Tryd.ntmps45
  go_wp2_with fail
  refine (s_precision f p h0 h1 hp _ hT).mono ?_
  rintro r w2 ⟨rfl, rfl⟩
  go_wp2
  go_ret
  exact ⟨rfl, rfl⟩

theorem s_top (f q p d v : Int) (h0 : 0 ≤ f) (h1 : f ≤ 255) (hq : fW f = q) (hp : fP f = p) (hd : q - p = d) (h2 : 0 ≤ d) (hv : IntKind.u64.wrap (IntKind.u64.wrap (2 ^ min d.toNat 64) - 1) = v) (w : World) (hT : FAt w) :
    Calls Tryd.prog 43 #[.int .u8 f] w fun e w' => e = .returned (.int .u64 v) ∧ Below w.heap.size w w' := by
  have hm1 : 0 ≤ q ∧ q ≤ 128 := by rw [← hq]; unfold fW; split <;> (try split) <;> (try split) <;> (try split) <;> omega
  have hm2 : 0 ≤ p ∧ p ≤ 113 := by rw [← hp]; unfold fP; split <;> (try split) <;> (try split) <;> (try split) <;> omega
  go_enter Tryd.func43, Tryd.ntmps43
  go_wp2_with fail
  refine (s_width f q h0 h1 hq _ hT).mono ?_
  rintro r w2 ⟨rfl, rfl⟩
  go_wp2_with fail
  refine (s_precision f p h0 h1 hp _ (fatB hT (bal7 _ _))).mono ?_
  rintro r w3 ⟨rfl, rfl⟩
  go_wp2
  go_ret
  exact ⟨rfl, btr7 (bal7 _ _) (bal7 _ _)⟩

def pV (f : Int) : Nat := (fP f).toNat - 1
def wV (f : Int) : Nat := (fW f).toNat - 1
def oV (f : Int) : Nat := 2 * (fE f).toNat + 1
/-- An encoding: the sign, the exponent field, the fraction. -/
def enc7 (f : Int) (neg : Bool) (e t : Nat) : Nat := e * 2 ^ pV f + t + (if neg then 2 ^ wV f else 0)
def bv7 (v : Nat) : Nat × Nat := (v / 18446744073709551616, v % 18446744073709551616)
def eInf (f : Int) (neg : Bool) : Nat := enc7 f neg (oV f) 0
def eZero (f : Int) (neg : Bool) : Nat := enc7 f neg 0 0
def eGreatest (f : Int) (neg : Bool) : Nat := enc7 f neg (oV f - 1) (2 ^ pV f - 1)
def Is4 (f : Int) : Prop := f = 0 ∨ f = 1 ∨ f = 2 ∨ f = 3
theorem is4_ok {f : Int} (h : Is4 f) : 0 ≤ f ∧ f ≤ 255 ∧ fC f = 0 ∧ 0 ≤ fW f - fP f := by
  rcases h with rfl | rfl | rfl | rfl <;> decide +kernel

def R7 (w : World) (I J : Int) (w5 : World) (g : Nat) : Prop := Below w.heap.size w w5 ∧ w5.heap[g]? = some (.cells #[.int .u64 I, .int .u64 J] 26) ∧ w5.heap[w.heap.size + 1]? = some (.cells #[.int .u64 0, .int .u64 0] 26) ∧ w.heap.size + 1 < g
theorem cut7 {G C : Prop} (h : G → C) (k : G) : C := h k
theorem bel_al {w W : World} (h : Below w.heap.size w W) (o : Obj) : Below w.heap.size w (W.alloc o) := btr7 h (bal7 _ _)
theorem bel_dr {w W : World} (h : Below w.heap.size w W) : Below w.heap.size w W.drew := h.drew
theorem row_al {W : World} {b : Nat} {o : Obj} (h : W.heap[b]? = some o) (o' : Obj) : (W.alloc o').heap[b]? = some o := by
  rw [heap_below W b o' (Array.getElem?_eq_some_iff.1 h).1]; exact h
theorem row_dr {W : World} {b : Nat} {o : Obj} (h : W.heap[b]? = some o) : W.drew.heap[b]? = some o := h
theorem row_last {W : World} {b : Nat} {o : Obj} (h : b = W.heap.size) : (W.alloc o).heap[b]? = some o := by subst h; exact heap_alloc_last W o
end Go.Proofs.YtfmmeifipbpbmaaDoor
namespace Go.Proofs.YtfmmeifipbpbmaaDoor
set_option maxRecDepth 100000
open Go.RowKit WMath

theorem gen7 {X : Act → World → Prop} {t0 t1 t2 t3 t4 t5 t6 t7 t8 t10 t11 t12 t13 t14 t15 t16 t17 t18 t19 t20 t21 t22 t23 t24 t25 t26 t27 t28 : Value} {d : List Deferred} {w W : World} {I J : Int} {G : Nat}
    (key : ∀ w5 g, R7 w I J w5 g → X ⟨#[t0, t1, t2, t3, t4, t5, t6, t7, t8, .pointer (some ⟨g, 0, none⟩), t10, t11, t12, t13, t14, t15, t16, t17, t18, t19, t20, t21, t22, t23, t24, t25, t26, t27, t28], d⟩ w5) (r : R7 w I J W G) :
    X ⟨#[t0, t1, t2, t3, t4, t5, t6, t7, t8, .pointer (some ⟨G, 0, none⟩), t10, t11, t12, t13, t14, t15, t16, t17, t18, t19, t20, t21, t22, t23, t24, t25, t26, t27, t28], d⟩ W := key W G r

set_option maxHeartbeats 40000000 in
theorem s_pack_any (f x a b p n H L I J q m M N I' J' : Int) (neg : Bool) (h0 : 0 ≤ f) (h1 : f ≤ 255) (hc : fC f = 0) (hp : fP f = p) (hn : IntKind.u64.wrap (p - 1) = n) (n0 : 0 ≤ n) (n1 : n ≤ 18446744073709551615)
    (hH : rHi x n = H) (hL : rLo x n = L) (hI : bits .or .u64 H a = I) (hJ : bits .or .u64 L b = J) (hq : fW f = q) (hm : q - 1 = m) (m0 : 0 ≤ m) (m1 : m ≤ 127) (hM : rHi 1 m = M) (hN : rLo 1 m = N) (hI' : bits .or .u64 I M = I') (hJ' : bits .or .u64 J N = J') (w : World) (hT : FAt w) :
    Calls Tryd.prog 38 #[.int .u8 f, .bool neg, .int .u64 x, .agg #[.int .u64 a, .int .u64 b]] w fun e w' => e = .returned (.agg #[.int .u64 (if neg then I' else I), .int .u64 (if neg then J' else J)]) ∧ Below w.heap.size w w' := by
  have k1 : Box (∀ w : World, FAt w → Calls Tryd.prog 45 #[.int .u8 f] w fun e w' => e = .returned (.int .u64 n) ∧ w' = w.alloc (.cells (fR f) 81)) := box (fun w hw => s_fraction f p n h0 h1 hp hn w hw)
  have k2 := box (s_raised x n H L n0 n1 hH hL)
  have k3 := box (s_join H L a b I J hI hJ)
  have k0 := box (s_check_is f 0 h0 h1 hc)
  have k4 : Box (∀ w : World, FAt w → Calls Tryd.prog 69 #[.int .u8 f] w fun e w' => e = .returned (.int .i64 q) ∧ w' = w.alloc (.cells (fR f) 81)) := box (fun w hw => s_width f q h0 h1 hq w hw)
  have k5 := box (s_raised 1 m M N m0 (by omega) hM hN)
  have k6 := box (s_join I J M N I' J' hI' hJ')
  have T0 := box hT
  have TT := box (fatB hT (btr7 (bal7 w (.cells #[.int .u64 a, .int .u64 b] 26)) (bal7 _ (.cells #[.int .u64 0, .int .u64 0] 26))))
  have e1 : IntKind.i64.wrap (q - 1) = m := by rw [hm, IntKind.wrap_i64]; omega
  have e2 : IntKind.u64.wrap m = m := by rw [IntKind.wrap_u64]; omega
  have e3 : IntKind.i64.wrap m = m := by rw [IntKind.wrap_i64]; omega
  clear hT hp hn hH hL hI hJ hc h0 h1 n0 n1 hq hM hN hI' hJ' m0 m1 hm
  go_enter Tryd.func38, Tryd.ntmps38
  go_wp2_with fail
  refine (k0.out _).mono ?_
  rintro r w' ⟨rfl, rfl⟩
  go_wp2_with fail
  apply cut7
  · intro key
    go_region_with (first
      | (go_at_call 45; refine (k1.out _ (by repeat (first | exact TT.out | refine fat_al ?_ _ | refine fat_dr ?_))).mono ?_; rintro r w2 ⟨rfl, rfl⟩)
      | (go_at_call 68; refine (k2.out _).mono ?_; rintro r w2 ⟨rfl, rfl⟩)
      | (go_at_call 67; refine (k3.out _).mono ?_; rintro r w2 ⟨rfl, rfl⟩))
    all_goals
      refine gen7 (w := w) (I := I) (J := J) key ⟨?_, ?_, ?_, ?_⟩
      · repeat (first | exact Below.refl _ _ | refine bel_dr ?_ | refine bel_al ?_ _)
      · repeat (first | refine row_dr ?_ | (refine row_last ?_; simp only [size_al]; done) | refine row_al ?_ _)
      · repeat (first | refine row_dr ?_ | (refine row_last ?_; simp only [size_al]; done) | refine row_al ?_ _)
      · omega
  rintro w5 g ⟨B5, R5, S5, hg⟩
  have F5 := box (fatB T0.out B5)
  have c50 := cell7 R5 0 _ rfl
  have c51 := cell7 R5 1 _ rfl
  cases neg
  · have q0 := fz (k := 0) S5
    have q1 := fz (k := 1) S5
    have d0 := cell7 S5 0 _ rfl
    have d1 := cell7 S5 1 _ rfl
    obtain ⟨E0, E1⟩ := set2_cells S5 (.int .u64 I) (.int .u64 J)
    go_wp2
    exact bodyPost_ret (v := .agg #[.int .u64 I, .int .u64 J]) (by simp [results, Tryd.results38, go_sem, E0, E1]) rfl ⟨rfl, set2_below B5 (by omega) _ _⟩
  · have r1 := row_al R5 (.cells (fR f) 81)
    have r2 := row_al r1 (.cells #[.int .u64 M, .int .u64 N] 26)
    have r5 := row_al (row_al (row_al r2 (.cells #[.int .u64 I, .int .u64 J] 26)) (.cells #[.int .u64 M, .int .u64 N] 26)) (.cells #[.int .u64 I', .int .u64 J'] 26)
    have s5 := row_al (row_al (row_al (row_al (row_al S5 (.cells (fR f) 81)) (.cells #[.int .u64 M, .int .u64 N] 26)) (.cells #[.int .u64 I, .int .u64 J] 26)) (.cells #[.int .u64 M, .int .u64 N] 26)) (.cells #[.int .u64 I', .int .u64 J'] 26)
    have Q5 : Box (R7 w I' J' _ g) := box ⟨set2_below (bel_al (bel_al (bel_al (bel_al (bel_al B5 _) _) _) _) _) (by omega) (.int .u64 I') (.int .u64 J'), set2_row r5 _ _, by rw [setCell_other (by omega), setCell_other (by omega)]; exact s5, hg⟩
    have c10 := cell7 r1 0 _ rfl
    have c11 := cell7 r1 1 _ rfl
    have c20 := cell7 r2 0 _ rfl
    have c21 := cell7 r2 1 _ rfl
    have q0 := fz (k := 0) r5
    have q1 := fz (k := 1) r5
    have e50 := cell7 r5 0 _ rfl
    have e51 := cell7 r5 1 _ rfl
    clear r1 r2 r5 s5
    go_wp2_with fail
    apply cut7
    · intro key
      go_region_with (first
        | (go_at_call 69; refine (k4.out _ (by repeat (first | exact F5.out | refine fat_al ?_ _ | refine fat_dr ?_))).mono ?_; rintro r w2 ⟨rfl, rfl⟩)
        | (go_at_call 68; refine (k5.out _).mono ?_; rintro r w2 ⟨rfl, rfl⟩)
        | (go_at_call 67; refine (k6.out _).mono ?_; rintro r w2 ⟨rfl, rfl⟩))
      all_goals
        refine gen7 (w := w) (I := I') (J := J') key ?_
        exact ⟨bel_dr Q5.out.1, row_dr Q5.out.2.1, row_dr Q5.out.2.2.1, hg⟩
    clear R5 S5 F5 c50 c51 c10 c11 c20 c21 q0 q1 e50 e51 B5
    rintro w6 g6 ⟨B6, R6, S6, hg6⟩
    have c60 := cell7 R6 0 _ rfl
    have c61 := cell7 R6 1 _ rfl
    have q0 := fz (k := 0) S6
    have q1 := fz (k := 1) S6
    have d0 := cell7 S6 0 _ rfl
    have d1 := cell7 S6 1 _ rfl
    obtain ⟨E0, E1⟩ := set2_cells S6 (.int .u64 I') (.int .u64 J')
    go_wp2
    exact bodyPost_ret (v := .agg #[.int .u64 I', .int .u64 J']) (by simp [results, Tryd.results38, go_sem, E0, E1]) rfl ⟨rfl, set2_below B6 (by omega) _ _⟩
end Go.Proofs.YtfmmeifipbpbmaaDoor
namespace Go.Proofs.YtfmmeifipbpbmaaDoor
set_option maxRecDepth 100000
open Go.RowKit WMath

def pkHi (f : Int) (neg : Bool) (x a : Int) : Int := if neg then bits .or .u64 (bits .or .u64 (rHi x (IntKind.u64.wrap (fP f - 1))) a) (rHi 1 (fW f - 1)) else bits .or .u64 (rHi x (IntKind.u64.wrap (fP f - 1))) a
def pkLo (f : Int) (neg : Bool) (x b : Int) : Int := if neg then bits .or .u64 (bits .or .u64 (rLo x (IntKind.u64.wrap (fP f - 1))) b) (rLo 1 (fW f - 1)) else bits .or .u64 (rLo x (IntKind.u64.wrap (fP f - 1))) b

theorem s_pack_is (f x a b I J : Int) (neg : Bool) (hf : Is4 f) (hI : pkHi f neg x a = I) (hJ : pkLo f neg x b = J) (w : World) (hT : FAt w) :
    Calls Tryd.prog 38 #[.int .u8 f, .bool neg, .int .u64 x, .agg #[.int .u64 a, .int .u64 b]] w fun e w' => e = .returned (.agg #[.int .u64 I, .int .u64 J]) ∧ Below w.heap.size w w' := by
  subst hI hJ
  have k : 0 ≤ IntKind.u64.wrap (fP f - 1) ∧ IntKind.u64.wrap (fP f - 1) ≤ 18446744073709551615 ∧ 0 ≤ fW f - 1 ∧ fW f - 1 ≤ 127 ∧ fC f = 0 ∧ 0 ≤ f ∧ f ≤ 255 := by
    rcases hf with rfl | rfl | rfl | rfl <;> decide +kernel
  have h := s_pack_any f x a b _ _ _ _ _ _ _ _ _ _ _ _ neg k.2.2.2.2.2.1 k.2.2.2.2.2.2 k.2.2.2.2.1 rfl rfl k.1 k.2.1 rfl rfl rfl rfl rfl rfl k.2.2.1 k.2.2.2.1 rfl rfl rfl rfl w hT
  refine h.mono ?_
  rintro r w' ⟨rfl, b⟩
  refine ⟨?_, b⟩
  cases neg <;> rfl

theorem top7 {f : Int} (h : Is4 f) : IntKind.u64.wrap (IntKind.u64.wrap (2 ^ min (fW f - fP f).toNat 64) - 1) = (oV f : Int) := by
  rcases h with rfl | rfl | rfl | rfl <;> decide +kernel

theorem s_top_is (f : Int) (hf : Is4 f) (w : World) (hT : FAt w) :
    Calls Tryd.prog 43 #[.int .u8 f] w fun e w' => e = .returned (.int .u64 (oV f : Nat)) ∧ Below w.heap.size w w' :=
  s_top f _ _ _ _ (is4_ok hf).1 (is4_ok hf).2.1 rfl rfl rfl (is4_ok hf).2.2.2 (top7 hf) w hT

theorem pk_Inf {f : Int} (h : Is4 f) (neg : Bool) : pkHi f neg ((oV f : Nat)) (0) = ((bv7 (eInf f neg)).1 : Nat) ∧ pkLo f neg ((oV f : Nat)) (0) = ((bv7 (eInf f neg)).2 : Nat) := by
  rcases h with rfl | rfl | rfl | rfl <;> cases neg <;> decide +kernel
theorem pk_Zero {f : Int} (h : Is4 f) (neg : Bool) : pkHi f neg (0) (0) = ((bv7 (eZero f neg)).1 : Nat) ∧ pkLo f neg (0) (0) = ((bv7 (eZero f neg)).2 : Nat) := by
  rcases h with rfl | rfl | rfl | rfl <;> cases neg <;> decide +kernel
theorem pk_Greatest {f : Int} (h : Is4 f) (neg : Bool) : pkHi f neg (((oV f : Nat) : Int) - 1) ((if rLo 1 (fP f - 1) = 0 then IntKind.u64.wrap (rHi 1 (fP f - 1) - 1) else rHi 1 (fP f - 1))) = ((bv7 (eGreatest f neg)).1 : Nat) ∧ pkLo f neg (((oV f : Nat) : Int) - 1) (IntKind.u64.wrap (rLo 1 (fP f - 1) - 1)) = ((bv7 (eGreatest f neg)).2 : Nat) := by
  rcases h with rfl | rfl | rfl | rfl <;> cases neg <;> decide +kernel

set_option maxHeartbeats 1000000 in
theorem s_inf (f : Int) (neg : Bool) (hf : Is4 f) (v : Nat) (hv : eInf f neg = v) (w : World) (hT : FAt w) :
    Calls Tryd.prog 20 #[.int .u8 f, .bool neg] w fun e w' => e = .returned (bitsV (bv7 v)) ∧ Below w.heap.size w w' := by
  subst hv
  have TT := box hT
  have P := box (pk_Inf hf neg)
  obtain ⟨x, y, hxy⟩ : ∃ x y, bv7 (eInf f neg) = (x, y) := ⟨_, _, rfl⟩
  rw [hxy] at P ⊢
  have e0 : bitsV (x, y) = .agg #[.int .u64 (x : Nat), .int .u64 (y : Nat)] := rfl
  rw [e0]
  have f4 := is4_ok hf
  clear hxy hT e0
  have R0 : (w.alloc (.cells #[.int .u64 0, .int .u64 0] 26)).heap[w.heap.size]? = some (.cells #[.int .u64 0, .int .u64 0] 26) := last7 _ _
  have B0 := bal7 w (.cells #[.int .u64 0, .int .u64 0] 26)
  go_enter Tryd.func20, Tryd.ntmps20
  go_wp2_with fail
  refine (s_top_is f hf _ (fatB TT.out B0)).mono ?_
  rintro r w1 ⟨rfl, b1⟩
  have B1 := btr7 B0 b1
  have R1 := heap_of b1 _ _ _ R0
  clear B0 R0 b1
  go_wp2_with fail
  refine (s_pack_is f _ 0 0 _ _ neg hf P.out.1 P.out.2 _ (fatB TT.out B1)).mono ?_
  rintro r w2 ⟨rfl, b2⟩
  have B2 := btr7 B1 b2
  have R2 := heap_of b2 _ _ _ R1
  clear B1 R1 b2
  have q0 := fz (k := 0) R2
  have q1 := fz (k := 1) R2
  have d0 := cell7 R2 0 _ rfl
  have d1 := cell7 R2 1 _ rfl
  obtain ⟨E0, E1⟩ := set2_cells R2 (.int .u64 x) (.int .u64 y)
  go_wp2
  exact bodyPost_ret (v := .agg #[.int .u64 x, .int .u64 y]) (by simp [results, Tryd.results20, go_sem, E0, E1]) rfl ⟨rfl, set2_below B2 (by omega) _ _⟩

set_option maxHeartbeats 1000000 in
theorem s_zero (f : Int) (neg : Bool) (hf : Is4 f) (v : Nat) (hv : eZero f neg = v) (w : World) (hT : FAt w) :
    Calls Tryd.prog 16 #[.int .u8 f, .bool neg] w fun e w' => e = .returned (bitsV (bv7 v)) ∧ Below w.heap.size w w' := by
  subst hv
  have TT := box hT
  have P := box (pk_Zero hf neg)
  obtain ⟨x, y, hxy⟩ : ∃ x y, bv7 (eZero f neg) = (x, y) := ⟨_, _, rfl⟩
  rw [hxy] at P ⊢
  have e0 : bitsV (x, y) = .agg #[.int .u64 (x : Nat), .int .u64 (y : Nat)] := rfl
  rw [e0]
  have f4 := is4_ok hf
  clear hxy hT e0
  have R0 : (w.alloc (.cells #[.int .u64 0, .int .u64 0] 26)).heap[w.heap.size]? = some (.cells #[.int .u64 0, .int .u64 0] 26) := last7 _ _
  have B0 := bal7 w (.cells #[.int .u64 0, .int .u64 0] 26)
  go_enter Tryd.func16, Tryd.ntmps16
  go_wp2_with fail
  refine (s_pack_is f 0 0 0 _ _ neg hf P.out.1 P.out.2 _ (fatB TT.out B0)).mono ?_
  rintro r w1 ⟨rfl, b1⟩
  have B1 := btr7 B0 b1
  have R1 := heap_of b1 _ _ _ R0
  clear B0 R0 b1
  have q0 := fz (k := 0) R1
  have q1 := fz (k := 1) R1
  have d0 := cell7 R1 0 _ rfl
  have d1 := cell7 R1 1 _ rfl
  obtain ⟨E0, E1⟩ := set2_cells R1 (.int .u64 x) (.int .u64 y)
  go_wp2
  exact bodyPost_ret (v := .agg #[.int .u64 x, .int .u64 y]) (by simp [results, Tryd.results16, go_sem, E0, E1]) rfl ⟨rfl, set2_below B1 (by omega) _ _⟩

set_option maxHeartbeats 1000000 in
theorem s_greatest (f : Int) (neg : Bool) (hf : Is4 f) (v : Nat) (hv : eGreatest f neg = v) (w : World) (hT : FAt w) :
    Calls Tryd.prog 19 #[.int .u8 f, .bool neg] w fun e w' => e = .returned (bitsV (bv7 v)) ∧ Below w.heap.size w w' := by
  subst hv
  have TT := box hT
  have P := box (pk_Greatest hf neg)
  obtain ⟨x, y, hxy⟩ : ∃ x y, bv7 (eGreatest f neg) = (x, y) := ⟨_, _, rfl⟩
  rw [hxy] at P ⊢
  have e0 : bitsV (x, y) = .agg #[.int .u64 (x : Nat), .int .u64 (y : Nat)] := rfl
  rw [e0]
  have f4 := is4_ok hf
  clear hxy hT e0
  obtain ⟨p, hp⟩ : ∃ p : Int, fP f = p := ⟨_, rfl⟩
  obtain ⟨n, hn⟩ : ∃ n : Int, fP f - 1 = n := ⟨_, rfl⟩
  obtain ⟨H, hH⟩ : ∃ n : Int, rHi 1 (fP f - 1) = n := ⟨_, rfl⟩
  obtain ⟨L, hL⟩ : ∃ n : Int, rLo 1 (fP f - 1) = n := ⟨_, rfl⟩
  obtain ⟨K, hK⟩ : ∃ n : Int, (if L = 0 then IntKind.u64.wrap (H - 1) else H) = n := ⟨_, rfl⟩
  obtain ⟨M, hM⟩ : ∃ n : Int, IntKind.u64.wrap (L - 1) = n := ⟨_, rfl⟩
  obtain ⟨E, hE⟩ : ∃ n : Int, ((oV f : Nat) : Int) - 1 = n := ⟨_, rfl⟩
  have n0 : 0 ≤ n := by rw [← hn]; rcases hf with rfl | rfl | rfl | rfl <;> decide +kernel
  have n1 : n ≤ 18446744073709551615 := by rw [← hn]; rcases hf with rfl | rfl | rfl | rfl <;> decide +kernel
  have HN : Box (IntKind.u64.wrap (p - 1) = n) := box (by rw [← hn, ← hp]; rcases hf with rfl | rfl | rfl | rfl <;> decide +kernel)
  have w1 : IntKind.u64.wrap (((oV f : Nat) : Int) - 1) = E := by rw [← hE]; rcases hf with rfl | rfl | rfl | rfl <;> decide +kernel
  rw [hL, hH, hK, hM, hE] at P
  have HP := box hp
  have HH : Box (rHi 1 n = H) := box (by rw [← hn]; exact hH)
  have HL : Box (rLo 1 n = L) := box (by rw [← hn]; exact hL)
  have HK := box hK
  have HM := box hM
  clear hp hn hH hL hK hM hE
  have R0 : (w.alloc (.cells #[.int .u64 0, .int .u64 0] 26)).heap[w.heap.size]? = some (.cells #[.int .u64 0, .int .u64 0] 26) := last7 _ _
  have B0 := bal7 w (.cells #[.int .u64 0, .int .u64 0] 26)
  go_enter Tryd.func19, Tryd.ntmps19
  go_wp2_with fail
  refine (s_top_is f hf _ (fatB TT.out B0)).mono ?_
  rintro r w1 ⟨rfl, b1⟩
  have B1 := btr7 B0 b1
  have R1 := heap_of b1 _ _ _ R0
  clear B0 R0 b1
  go_wp2_with fail
  refine (s_fraction f p n f4.1 f4.2.1 HP.out HN.out _ (fatB TT.out B1)).mono ?_
  rintro r w' ⟨rfl, rfl⟩
  have B2 := bel_al B1 (.cells (fR f) 81)
  have R2 := row_al R1 (.cells (fR f) 81)
  clear B1 R1
  go_wp2_with fail
  refine (s_ones n H L n0 n1 HH.out HL.out K M HK.out HM.out _).mono ?_
  rintro r w3 ⟨rfl, b3⟩
  have B3 := btr7 B2 b3
  have R3 := heap_of b3 _ _ _ R2
  clear B2 R2 b3
  go_wp2_with fail
  refine (s_pack_is f E K M _ _ neg hf P.out.1 P.out.2 _ (fatB TT.out B3)).mono ?_
  rintro r w4 ⟨rfl, b4⟩
  have B4 := btr7 B3 b4
  have R4 := heap_of b4 _ _ _ R3
  clear B3 R3 b4
  have q0 := fz (k := 0) R4
  have q1 := fz (k := 1) R4
  have d0 := cell7 R4 0 _ rfl
  have d1 := cell7 R4 1 _ rfl
  obtain ⟨E0, E1⟩ := set2_cells R4 (.int .u64 x) (.int .u64 y)
  go_wp2
  exact bodyPost_ret (v := .agg #[.int .u64 x, .int .u64 y]) (by simp [results, Tryd.results19, go_sem, E0, E1]) rfl ⟨rfl, set2_below B4 (by omega) _ _⟩

end Go.Proofs.YtfmmeifipbpbmaaDoor
namespace Go.Proofs.YtfmmeifipbpbmaaDoor
set_option maxRecDepth 100000
open Go.RowKit WMath

theorem fP_lim {f m : Int} (h : fP f = m) : 0 ≤ m ∧ m ≤ 113 := by rw [← h]; unfold fP; split <;> (try split) <;> (try split) <;> (try split) <;> omega
theorem lt_Q7 {v : Nat} (h : v < 340282366920938463463374607431768211456) : v < Q := by
  have := bits_ltQ (v % 18446744073709551616) (v / 18446744073709551616) (Nat.mod_lt _ (by decide)) (by omega)
  omega
theorem wd01 {v : Nat} (h : v < 340282366920938463463374607431768211456) : wd v 0 = v % 18446744073709551616 ∧ wd v 1 = v / 18446744073709551616 := by
  constructor
  · unfold wd; rw [Nat.mul_zero, Nat.pow_zero, Nat.div_one]
  · unfold wd; rw [show 2 ^ (64 * 1) = 18446744073709551616 by decide, Nat.mod_eq_of_lt (by omega)]

theorem bel_set {w W : World} {b : Nat} {c : Array Value} (h : Below w.heap.size w W) (hb : w.heap.size ≤ b) : Below w.heap.size w (W.setRow b c) := Below.setRow h hb

end Go.Proofs.YtfmmeifipbpbmaaDoor
namespace Go.Proofs.YtfmmeifipbpbmaaDoor
set_option maxRecDepth 100000
open Go.RowKit WMath
set_option linter.unusedVariables false

theorem is4_of {f : Int} (h0 : 0 ≤ f) (h : f ≤ 3) : Is4 f := by unfold Is4; omega


theorem blen_iff (n W : Nat) : blen n ≤ W ↔ n < 2 ^ W := by
  constructor
  · intro h
    exact Nat.lt_of_lt_of_le (blen_lt n) (Nat.pow_le_pow_right (by decide) h)
  · exact blen_le_of n W

end Go.Proofs.YtfmmeifipbpbmaaDoor
namespace Go.Proofs.YtfmmeifipbpbmaaDoor
set_option maxRecDepth 100000
open Go.RowKit WMath

/-- The sign bit, the exponent field and the fraction of a number of bits. -/
def kN (f : Int) (n : Nat) : Bool := decide (n / 2 ^ wV f % 2 = 1)
def kE (f : Int) (n : Nat) : Nat := n / 2 ^ pV f % (oV f + 1)
def kT (f : Int) (n : Nat) : Nat := n % 2 ^ pV f
def kC (f : Int) (n : Nat) : Nat :=
  if kE f n = oV f then (if kT f n = 0 then (if kN f n then 0 else 7) else if 2 ^ (pV f - 1) ≤ kT f n then 9 else 8)
  else if kE f n ≠ 0 then (if kN f n then 1 else 6)
  else if kT f n ≠ 0 then (if kN f n then 2 else 5) else (if kN f n then 3 else 4)
def lx (f : Int) : Int := 1 - fE f - pV f
/-- What the numbers of a format are to each other. -/
theorem fm {f : Int} (h : Is4 f) : 2 ^ wV f = (oV f + 1) * 2 ^ pV f ∧ 2 ≤ pV f ∧ 2 ^ pV f = 2 * 2 ^ (pV f - 1) ∧ 2 ^ (pV f - 1) ≥ 2 ∧ 3 ≤ oV f ∧ oV f < 32768 ∧ 2 * 2 ^ wV f ≤ 340282366920938463463374607431768211456 := by
  rcases h with rfl | rfl | rfl | rfl <;> decide +kernel
/-- What Pack puts together: the program's way. -/
def toB (s : Nat) : Nat := if s < 340282366920938463463374607431768211456 then s else 0
end Go.Proofs.YtfmmeifipbpbmaaDoor
namespace Go.Proofs.YtfmmeifipbpbmaaDoor
set_option maxRecDepth 100000
open Go.RowKit WMath
set_option linter.unusedSimpArgs false
set_option linter.unusedVariables false

theorem pow64 (k : Nat) : ((2 : Int) ^ k) = ((2 ^ k : Nat) : Int) := by norm_cast
end Go.Proofs.YtfmmeifipbpbmaaDoor
namespace Go.Proofs.YtfmmeifipbpbmaaDoor
set_option maxRecDepth 100000
open Go.RowKit WMath
set_option linter.unusedSimpArgs false
set_option linter.unusedVariables false

theorem sk_zero (f : Int) (neg : Bool) (hf : Is4 f) (u v : Nat) (hv : bv7 (eZero f neg) = (u, v)) (w : World) (hT : FAt w) : Calls Tryd.prog 16 #[.int .u8 f, .bool neg] w fun r w' => r = .returned (.agg #[.int .u64 (u : Nat), .int .u64 (v : Nat)]) ∧ Below w.heap.size w w' := by
  have := s_zero f neg hf _ rfl w hT
  rw [hv] at this
  exact this
theorem sk_inf (f : Int) (neg : Bool) (hf : Is4 f) (u v : Nat) (hv : bv7 (eInf f neg) = (u, v)) (w : World) (hT : FAt w) : Calls Tryd.prog 20 #[.int .u8 f, .bool neg] w fun r w' => r = .returned (.agg #[.int .u64 (u : Nat), .int .u64 (v : Nat)]) ∧ Below w.heap.size w w' := by
  have := s_inf f neg hf _ rfl w hT
  rw [hv] at this
  exact this
end Go.Proofs.YtfmmeifipbpbmaaDoor
namespace Go.Proofs.YtfmmeifipbpbmaaDoor
set_option maxRecDepth 100000
open Go.RowKit WMath
set_option linter.unusedSimpArgs false
set_option linter.unusedVariables false

theorem size_dr (W : World) : W.drew.heap.size = W.heap.size := rfl
end Go.Proofs.YtfmmeifipbpbmaaDoor
namespace Go.Proofs.YtfmmeifipbpbmaaDoor
set_option maxRecDepth 100000
open Go.RowKit WMath
set_option linter.unusedSimpArgs false
set_option linter.unusedVariables false

/-- What a NaN is, made quiet. -/
def qt (f : Int) (n : Nat) : Nat := if kC f n = 8 then n + 2 ^ (pV f - 1) else n
end Go.Proofs.YtfmmeifipbpbmaaDoor
namespace Go.Proofs.YtfmmeifipbpbmaaDoor
set_option maxRecDepth 100000
open Go.RowKit WMath
set_option linter.unusedSimpArgs false
set_option linter.unusedVariables false

theorem cw_one (n : Nat) : ∀ v ∈ (cw 6 n).toList, v.oneCell' = true := fun v hv => (Array.all_eq_true_iff_forall_mem.1 (cw_oneCell 6 n)) v (by simpa using hv)
end Go.Proofs.YtfmmeifipbpbmaaDoor
namespace Go.Proofs.YtfmmeifipbpbmaaDoor
set_option maxRecDepth 100000
open Go.RowKit WMath
set_option linter.unusedSimpArgs false
set_option linter.unusedVariables false

theorem lt_128 {s : Nat} (hs : s < Q) : (wd s 0 + 18446744073709551616 * wd s 1 = s) ↔ s < 340282366920938463463374607431768211456 := by
  constructor
  · intro h
    have := wd_lt s 0
    have := wd_lt s 1
    omega
  · intro h
    rw [(wd01 h).1, (wd01 h).2]; omega
theorem ktobits_one (s u v : Nat) (hs : s < Q) (huv : bv7 (toB s) = (u, v)) : ∃ o, ∀ w, Calls Tryd.prog 57 #[.agg (cw 6 s)] w fun r w' => r = .returned (.tuple #[.agg #[.int .u64 (u : Nat), .int .u64 (v : Nat)], .bool o]) ∧ Below w.heap.size w w' := by
  unfold toB bv7 at huv
  by_cases h : s < 340282366920938463463374607431768211456
  · rw [if_pos h] at huv
    injection huv with h1 h2
    refine ⟨true, fun w => ?_⟩
    have k := wtobits_yes s hs ((lt_128 hs).2 h) w
    rw [(wd01 h).1, (wd01 h).2, h1, h2] at k
    exact k
  · rw [if_neg h] at huv
    injection huv with h1 h2
    refine ⟨false, fun w => ?_⟩
    have k := wtobits_no s hs (fun e => h ((lt_128 hs).1 e)) w
    rw [← h1, ← h2]
    exact k
end Go.Proofs.YtfmmeifipbpbmaaDoor
namespace Go.Proofs.YtfmmeifipbpbmaaDoor
set_option maxRecDepth 100000
open Go.RowKit WMath
set_option linter.unusedSimpArgs false
set_option linter.unusedVariables false

theorem em_lim {f : Int} (hf : Is4 f) : IntKind.i64.wrap (1 - fE f - fP f) = 1 - fE f - fP f ∧ IntKind.i64.wrap (1 - fE f - fP f + 1) = lx f ∧ IntKind.i64.wrap (fE f - fP f) = fE f - fP f ∧ IntKind.i64.wrap (fE f - fP f + 1) = fE f - (pV f : Int) ∧ (if fC f = 0 then 1 - fE f else 0) = 1 - fE f ∧ 2 * fE f + 1 = (oV f : Int) ∧ 0 ≤ fE f ∧ fE f ≤ 16383 ∧ fP f = (pV f : Int) + 1 ∧ lx f = 1 - fE f - fP f + 1 ∧ pV f < 128 ∧ -16494 ≤ lx f ∧ lx f ≤ 0 := by
  rcases hf with rfl | rfl | rfl | rfl <;> decide +kernel
end Go.Proofs.YtfmmeifipbpbmaaDoor
namespace Go.Proofs.YtfmmeifipbpbmaaDoor
set_option maxRecDepth 100000
open Go.RowKit WMath XMath
set_option linter.unusedSimpArgs false
set_option linter.unusedVariables false

theorem blen_low (n : Nat) (h : n ≠ 0) : 1 ≤ blen n ∧ 2 ^ (blen n - 1) ≤ n ∧ n < 2 ^ blen n := by
  have h1 := blen_iff n (blen n - 1)
  have h2 := (blen_iff n (blen n)).1 (Nat.le_refl _)
  have h3 := blen_iff n 0
  have h4 : 1 ≤ blen n := by
    rcases Nat.eq_zero_or_pos (blen n) with e | e
    · have := h3.1 (by omega)
      rw [Nat.pow_zero] at this
      omega
    · exact e
  exact ⟨h4, by omega, h2⟩
theorem nm8 {f : Int} (hf : Is4 f) : fE f - (pV f : Int) - lx f + 1 = ((oV f - 1 : Nat) : Int) ∧ 1 ≤ oV f ∧ lx f = 1 - fE f - (pV f : Int) ∧ pV f < 128 ∧ fE f ≤ 16383 ∧ 0 ≤ fE f := by
  rcases hf with rfl | rfl | rfl | rfl <;> decide +kernel
end Go.Proofs.YtfmmeifipbpbmaaDoor
namespace Go.Proofs.YtfmmeifipbpbmaaDoor
set_option maxRecDepth 100000
open Go.RowKit WMath XMath
set_option linter.unusedSimpArgs false
set_option linter.unusedVariables false

theorem blen_is (n k : Nat) (h1 : 2 ^ k ≤ n) (h2 : n < 2 ^ (k + 1)) : blen n = k + 1 := by
  have a := (blen_iff n (k + 1)).2 h2
  have b := blen_iff n k
  omega
theorem blen_shift (n k : Nat) (h : n ≠ 0) : blen (n * 2 ^ k) = blen n + k := by
  obtain ⟨l1, l2, l3⟩ := blen_low n h
  have := blen_is (n * 2 ^ k) (blen n - 1 + k) (by rw [Nat.pow_add]; exact Nat.mul_le_mul_right _ l2) (by
    rw [show blen n - 1 + k + 1 = blen n + k by omega, Nat.pow_add]
    exact Nat.mul_lt_mul_of_pos_right l3 (Nat.two_pow_pos _))
  omega
theorem mk_whole (neg : Bool) (s : Nat) (x : Int) (s0 : s ≠ 0) (h1 : -1048576 ≤ x) (h2 : x + (tz s : Int) ≤ 1048576) : mk neg s 1 x = (⟨neg, od s, 1, x + (tz s : Int)⟩, 0) := by
  have o1 : od 1 = 1 := od_odd 1 rfl
  have t1 : tz 1 = 0 := tz_odd 1 rfl
  unfold mk
  rw [if_neg s0, o1, t1, Nat.gcd_one_right, Nat.div_one, Nat.div_one]
  rw [if_pos (by omega)]
  congr 2
  omega
/-- The significand and the exponent of a finite encoding that is not 0. -/
def sV (f : Int) (e t : Nat) : Nat := if e = 0 then t else 2 ^ pV f + t
def xV (f : Int) (e : Nat) : Int := if e = 0 then lx f else lx f + (e : Int) - 1
end Go.Proofs.YtfmmeifipbpbmaaDoor
namespace Go.Proofs.YtfmmeifipbpbmaaDoor
set_option maxRecDepth 100000
open Go.RowKit WMath XMath
set_option linter.unusedSimpArgs false
set_option linter.unusedVariables false

theorem bel_same {P : Program} {k : FuncId} {a : Array Value} {w : World} {v : Value} (h : Calls P k a w fun r w' => r = .returned v ∧ w' = w) : Calls P k a w fun r w' => r = .returned v ∧ Below w.heap.size w w' :=
  h.mono fun _ _ h => ⟨h.1, by rw [h.2]; exact Below.refl _ _⟩
theorem fC_yes {f : Int} (hf : Is4 f) : fC f = 0 := (is4_ok hf).2.2.1
theorem fC_no {f : Int} (h0 : 0 ≤ f) (hf : ¬ Is4 f) : fC f = 2 := by
  unfold Is4 at hf
  unfold fC
  rw [if_neg (by omega)]
end Go.Proofs.YtfmmeifipbpbmaaDoor
namespace Go.Proofs.YtfmmeifipbpbmaaDoor
set_option maxRecDepth 100000
open Go.RowKit WMath XMath
set_option linter.unusedSimpArgs false
set_option linter.unusedVariables false

/-- Is the neighbour of the greater magnitude taken? By the mode, the sign, whether the lesser one is odd, whether half a step at least is left, whether anything is left beside that. -/
def gO (m : Int) (neg odd half more : Bool) : Bool :=
  if m = 0 then half && (more || odd) else if m = 4 then half else if m = 2 then (half || more) && neg else if m = 3 then (half || more) && !neg else false
def rS (W k : Nat) : Nat := W / 2 ^ k / 2
def rH (W k : Nat) : Bool := decide (W / 2 ^ k % 2 = 1)
def rM (W k : Nat) (more : Bool) : Bool := decide (W % 2 ^ k ≠ 0) || more
def rO (W k : Nat) : Bool := decide (rS W k % 2 = 1)
def rG (m : Int) (neg : Bool) (W k : Nat) (more : Bool) : Nat := if gO m neg (rO W k) (rH W k) (rM W k more) = true then rS W k + 1 else rS W k
def stE (f T : Int) : Int := max T (1 - fE f)
def eS (f : Int) (neg : Bool) (j S : Nat) : Nat := j * 2 ^ pV f + S + (if neg then 2 ^ wV f else 0)
def ovB (f m : Int) (neg : Bool) : Nat := if gO m neg false true true = true then eInf f neg else eGreatest f neg
def tnB (f m : Int) (neg : Bool) (T : Int) (W : Nat) (more : Bool) : Bool := decide (T - fP f + (blen (rG m neg W 0 more) : Int) < 1 - fE f)
def dK (f T : Int) : Nat := (stE f T - T).toNat
def dJ (f T : Int) : Nat := (stE f T - (1 - fE f)).toNat
/-- What is delivered, and the flags: T the place of the highest bit, W the whole part at the place T - p (p + 1 bits), more whether anything is left. -/
def dlv (f m : Int) (neg : Bool) (T : Int) (W : Nat) (more : Bool) : Nat × Int :=
  if fE f < stE f T - fP f + (blen (rG m neg W (dK f T) more) : Int) then (ovB f m neg, 5)
  else (eS f neg (dJ f T) (rG m neg W (dK f T) more), if (rH W (dK f T) || rM W (dK f T) more) = true then (if tnB f m neg T W more = true then 3 else 1) else 0)

theorem fp8 {f : Int} (hf : Is4 f) : fP f = (pV f : Int) + 1 := by rcases hf with rfl | rfl | rfl | rfl <;> decide
theorem od_two (s : Nat) (h : s ≠ 0) : od (2 * s) = od s ∧ tz (2 * s) = tz s + 1 := by
  have t : tz (2 * s) = tz s + 1 := by rw [tz_even (2 * s) (by omega) (by omega), Nat.mul_div_cancel_left s (by decide)]
  refine ⟨?_, t⟩
  unfold od
  rw [t, Nat.pow_succ, Nat.mul_comm (2 ^ tz s) 2, Nat.mul_div_mul_left _ _ (by decide)]
theorem mk_two (neg : Bool) (s : Nat) (x : Int) (s0 : s ≠ 0) (h1 : -1048576 ≤ x) (h2 : x + 1 + (tz s : Int) ≤ 1048576) : mk neg (2 * s) 1 x = mk neg s 1 (x + 1) := by
  obtain ⟨a, b⟩ := od_two s s0
  rw [mk_whole neg (2 * s) x (by omega) h1 (by rw [b]; omega), mk_whole neg s (x + 1) s0 (by omega) h2, a, b]
  congr 2
  omega
/-- A multiple of a step, as a significand and an exponent of the format. -/
theorem rep {f : Int} (hf : Is4 f) (j S : Nat) (s0 : S ≠ 0) (hS : S ≤ 2 * 2 ^ pV f) (hj : j = 0 ∨ 2 ^ pV f ≤ S) (ht : lx f + (j : Int) - 1 + (blen S : Int) ≤ fE f) :
    ∃ e t, e < oV f ∧ t < 2 ^ pV f ∧ sV f e t ≠ 0 ∧ (∀ neg, enc7 f neg e t = eS f neg j S) ∧ (∀ neg, mk neg S 1 (lx f + (j : Int)) = mk neg (sV f e t) 1 (xV f e)) := by
  obtain ⟨n1, n2, n3, n4, n5, n6⟩ := nm8 hf
  have p := Nat.two_pow_pos (pV f)
  have oe : (oV f : Int) = 2 * fE f + 1 := by unfold oV; omega
  by_cases c1 : S < 2 ^ pV f
  · obtain rfl : j = 0 := by omega
    refine ⟨0, S, by omega, c1, ?_, ?_, ?_⟩
    · unfold sV; rw [if_pos rfl]; exact s0
    · intro neg; unfold enc7 eS; rfl
    · intro neg; unfold sV xV; rw [if_pos rfl, if_pos rfl]; congr 1; omega
  by_cases c2 : S < 2 * 2 ^ pV f
  · have bl : blen S = pV f + 1 := blen_is S (pV f) (by omega) (by rw [Nat.pow_succ]; omega)
    refine ⟨j + 1, S - 2 ^ pV f, by omega, by omega, ?_, ?_, ?_⟩
    · unfold sV; rw [if_neg (by omega)]; omega
    · intro neg; unfold enc7 eS; rw [Nat.add_mul, Nat.one_mul]; omega
    · intro neg
      unfold sV xV
      rw [if_neg (by omega), if_neg (by omega), show 2 ^ pV f + (S - 2 ^ pV f) = S by omega]
      congr 1
      omega
  · obtain rfl : S = 2 * 2 ^ pV f := by omega
    have bl : blen (2 * 2 ^ pV f) = pV f + 1 + 1 := blen_is _ (pV f + 1) (by rw [Nat.pow_succ]; omega) (by rw [Nat.pow_succ, Nat.pow_succ]; omega)
    have tl := tz_blen (2 ^ pV f)
    have bl1 : blen (2 ^ pV f) = pV f + 1 := blen_is _ (pV f) (Nat.le_refl _) (by rw [Nat.pow_succ]; omega)
    refine ⟨j + 2, 0, by omega, p, ?_, ?_, ?_⟩
    · unfold sV; rw [if_neg (by omega)]; omega
    · intro neg; unfold enc7 eS; rw [Nat.add_mul]; omega
    · intro neg
      unfold sV xV
      rw [if_neg (by omega), if_neg (by omega), Nat.add_zero, mk_two neg (2 ^ pV f) _ (by omega) (by omega) (by omega)]
      congr 1
      omega
/-- The bits that count: one more than the precision. -/
def Wok (f : Int) (W : Nat) : Prop := 2 * 2 ^ pV f ≤ W ∧ W < 4 * 2 ^ pV f
theorem rG_two (m : Int) (neg : Bool) (W k : Nat) (more : Bool) : rG m neg W k more = rS W k ∨ rG m neg W k more = rS W k + 1 := by
  unfold rG; split <;> simp
theorem rS_lim {f : Int} {W : Nat} (h : Wok f W) (k : Nat) : rS W k < 2 * 2 ^ pV f ∧ (k = 0 → 2 ^ pV f ≤ rS W k) ∧ (0 < k → rS W k < 2 ^ pV f) := by
  obtain ⟨h1, h2⟩ := h
  unfold rS
  have d0 : W / 2 ^ k ≤ W := Nat.div_le_self _ _
  refine ⟨by omega, ?_, ?_⟩
  · intro e
    subst e
    rw [Nat.pow_zero, Nat.div_one]
    omega
  · intro hk
    obtain ⟨i, rfl⟩ : ∃ i, k = i + 1 := ⟨k - 1, by omega⟩
    rw [Nat.pow_succ, Nat.mul_comm (2 ^ i) 2, ← Nat.div_div_eq_div_mul]
    have d1 : W / 2 / 2 ^ i ≤ W / 2 := Nat.div_le_self _ _
    omega
theorem rG_lim {f : Int} {W : Nat} (h : Wok f W) (m : Int) (neg : Bool) (k : Nat) (more : Bool) : rG m neg W k more ≤ 2 * 2 ^ pV f ∧ (k = 0 → 2 ^ pV f ≤ rG m neg W k more) ∧ (0 < k → rG m neg W k more ≤ 2 ^ pV f) := by
  obtain ⟨a, b, c⟩ := rS_lim h k
  rcases rG_two m neg W k more with e | e <;> rw [e] <;> refine ⟨by omega, fun q => ?_, fun q => ?_⟩ <;> first | (have := b q; omega) | (have := c q; omega)
theorem st_lx {f : Int} (hf : Is4 f) (T : Int) : stE f T - fP f + 1 = lx f + (dJ f T : Int) := by
  have := fp8 hf
  have e := (nm8 hf).2.2.1
  unfold dJ stE
  omega
theorem jk {f : Int} (T : Int) : (dJ f T = 0 ∧ T + (dK f T : Int) = 1 - fE f) ∨ (dK f T = 0 ∧ T = 1 - fE f + (dJ f T : Int)) := by
  unfold dJ dK stE
  omega
/-- What the document finds of what is left: 1 above half a step, 0 just half, -1 below. -/
def hfV (half more : Bool) : Int := if half then (if more then 1 else 0) else -1
end Go.Proofs.YtfmmeifipbpbmaaDoor
namespace Go.Proofs.YtfmmeifipbpbmaaDoor
set_option maxRecDepth 100000
open Go.RowKit WMath XMath
set_option linter.unusedSimpArgs false
set_option linter.unusedVariables false

/-- The bits of a whole number that count, one more than the precision P, and whether anything is left. -/
def qW (P n : Nat) : Nat := if P + 1 ≤ blen n then n / 2 ^ (blen n - (P + 1)) else n * 2 ^ (P + 1 - blen n)
def qM (P n : Nat) (more : Bool) : Bool := if P + 1 ≤ blen n then decide (n % 2 ^ (blen n - (P + 1)) ≠ 0) || more else more
theorem blen_more (s n q : Nat) (s0 : s ≠ 0) (hq : q < 2 ^ n) : blen (s * 2 ^ n + q) = blen s + n := by
  have h := blen_push q n s hq s0
  rw [Nat.add_comm q, Nat.mul_comm (2 ^ n) s] at h
  omega
theorem div_more (s n q : Nat) (hq : q < 2 ^ n) : (s * 2 ^ n + q) / 2 ^ n = s := by
  rw [Nat.add_comm, Nat.add_mul_div_right _ _ (Nat.two_pow_pos n), Nat.div_eq_of_lt hq, Nat.zero_add]
theorem mod_more (s n q : Nat) (hq : q < 2 ^ n) : (s * 2 ^ n + q) % 2 ^ n = q := by
  rw [Nat.add_comm, Nat.add_mul_mod_self_right, Nat.mod_eq_of_lt hq]
theorem qdec_or {a b c : Prop} [Decidable a] [Decidable b] [Decidable c] (h : a ↔ (b ∨ c)) : decide a = (decide b || decide c) := by
  rw [Bool.eq_iff_iff, Bool.or_eq_true, decide_eq_true_iff, decide_eq_true_iff, decide_eq_true_iff]
  exact h
/-- A number that is made longer: what is put below it counts as something that is left. -/
theorem q_more (P s n q : Nat) (s0 : s ≠ 0) (hq : q < 2 ^ n) (h : q ≠ 0 → P + 1 ≤ blen s) : qW P (s * 2 ^ n + q) = qW P s ∧ qM P (s * 2 ^ n + q) false = qM P s (decide (q ≠ 0)) := by
  have hb := blen_more s n q s0 hq
  unfold qW qM
  rw [hb]
  by_cases c : P + 1 ≤ blen s
  · rw [if_pos c, if_pos c, if_pos (by omega), if_pos (by omega), show blen s + n - (P + 1) = n + (blen s - (P + 1)) by omega]
    constructor
    · rw [Nat.pow_add, ← Nat.div_div_eq_div_mul, div_more s n q hq]
    · rw [Bool.or_false, Bool.or_comm]
      refine qdec_or ?_
      have := mod_pow_zero (s * 2 ^ n + q) n (blen s - (P + 1))
      rw [mod_more s n q hq, div_more s n q hq] at this
      rw [Ne, this]
      omega
  · have q0 : q = 0 := by omega
    subst q0
    have z0 : decide ((0 : Nat) ≠ 0) = false := rfl
    rw [if_neg c, if_neg c, z0]
    simp only [Nat.add_zero]
    by_cases c2 : P + 1 ≤ blen s + n
    · rw [if_pos c2, if_pos c2]
      have e : s * 2 ^ n = s * 2 ^ (P + 1 - blen s) * 2 ^ (blen s + n - (P + 1)) := by
        rw [Nat.mul_assoc, ← Nat.pow_add]
        congr 2
        omega
      rw [e]
      refine ⟨Nat.mul_div_cancel _ (Nat.two_pow_pos _), ?_⟩
      rw [Bool.or_false, decide_eq_false_iff_not]
      exact fun q => q (Nat.mul_mod_left _ _)
    · rw [if_neg c2, if_neg c2, Nat.mul_assoc, ← Nat.pow_add]
      exact ⟨by congr 2; omega, rfl⟩
theorem q_longer (P s n : Nat) (s0 : s ≠ 0) : qW P (s * 2 ^ n) = qW P s ∧ qM P (s * 2 ^ n) false = qM P s false := by
  have := q_more P s n 0 s0 (Nat.two_pow_pos n) (fun h => absurd rfl h)
  have z0 : decide ((0 : Nat) ≠ 0) = false := rfl
  rw [Nat.add_zero, z0] at this
  exact this
theorem qM_true (P s : Nat) (more : Bool) : qM P s more = (qM P s false || more) := by
  unfold qM
  split <;> simp
/-- A number whose lowest bit is set because there is more. -/
theorem q_jam (P s : Nat) (h : P + 2 ≤ blen s) : blen (s / 2 * 2 + 1) = blen s ∧ qW P (s / 2 * 2 + 1) = qW P s ∧ qM P (s / 2 * 2 + 1) false = true ∧ qM P s true = true := by
  have s0 : s ≠ 0 := by intro e; subst e; rw [blen_zero] at h; omega
  obtain ⟨l1, l2, l3⟩ := blen_low s s0
  have t0 : s / 2 ≠ 0 := by
    have : 2 ^ 1 ≤ 2 ^ (blen s - 1) := Nat.pow_le_pow_right (by decide) (by omega)
    omega
  have d : s = s / 2 * 2 ^ 1 + s % 2 := by omega
  have b1 := blen_more (s / 2) 1 (s % 2) t0 (by omega)
  have b2 := blen_more (s / 2) 1 1 t0 (by decide)
  rw [← d] at b1
  have q1 := q_more P (s / 2) 1 (s % 2) t0 (by omega) (fun _ => by omega)
  have q2 := q_more P (s / 2) 1 1 t0 (by decide) (fun _ => by omega)
  rw [← d] at q1
  rw [Nat.pow_one] at b2 q2
  refine ⟨by omega, by rw [q1.1, q2.1], ?_, ?_⟩
  · rw [q2.2, qM_true]; simp
  · rw [qM_true]; simp
theorem q_ok {f : Int} (s : Nat) (s0 : s ≠ 0) : Wok f (qW (pV f + 1) s) := by
  obtain ⟨l1, l2, l3⟩ := blen_low s s0
  have e1 : 2 * 2 ^ pV f = 2 ^ (pV f + 1) := by rw [Nat.pow_succ, Nat.mul_comm]
  have e2 : 4 * 2 ^ pV f = 2 ^ (pV f + 1 + 1) := by rw [Nat.pow_succ, Nat.pow_succ]; omega
  unfold Wok qW
  rw [e1, e2]
  by_cases c : pV f + 1 + 1 ≤ blen s
  · rw [if_pos c]
    have p := Nat.two_pow_pos (blen s - (pV f + 1 + 1))
    constructor
    · rw [Nat.le_div_iff_mul_le p, ← Nat.pow_add, show pV f + 1 + (blen s - (pV f + 1 + 1)) = blen s - 1 by omega]
      exact l2
    · rw [Nat.div_lt_iff_lt_mul p, ← Nat.pow_add, show pV f + 1 + 1 + (blen s - (pV f + 1 + 1)) = blen s by omega]
      exact l3
  · rw [if_neg c]
    have p := Nat.two_pow_pos (pV f + 1 + 1 - blen s)
    constructor
    · have := Nat.mul_le_mul_right (2 ^ (pV f + 1 + 1 - blen s)) l2
      rw [← Nat.pow_add, show blen s - 1 + (pV f + 1 + 1 - blen s) = pV f + 1 by omega] at this
      exact this
    · have := (Nat.mul_lt_mul_right p).2 l3
      rw [← Nat.pow_add, show blen s + (pV f + 1 + 1 - blen s) = pV f + 1 + 1 by omega] at this
      exact this
/-- What is cut off a number: the whole part, the bit below it, what is left. -/
theorem cutN (s L : Nat) (hs : s < Q) : s / 2 ^ min (L + 1) 384 = s / 2 ^ L / 2 ∧ decide (s % 2 ^ min (L + 1) 384 = 0) = !(decide (s / 2 ^ L % 2 = 1) || decide (s % 2 ^ L ≠ 0)) ∧ halfv s (min (L + 1) 385) = hfV (decide (s / 2 ^ L % 2 = 1)) (decide (s % 2 ^ L ≠ 0)) := by
  obtain ⟨Z, hZ, eQ⟩ := Qq384
  have hQ : s < 2 ^ Z := by rw [← eQ]; exact hs
  rw [← hZ]
  have full : s % 2 ^ (L + 1) = 0 ↔ (s % 2 ^ L = 0 ∧ s / 2 ^ L % 2 = 0) := by
    have := mod_pow_zero s L 1
    rw [Nat.pow_one] at this
    exact this
  have b1 : decide (s % 2 ^ (L + 1) = 0) = !(decide (s / 2 ^ L % 2 = 1) || decide (s % 2 ^ L ≠ 0)) := by
    rw [Bool.eq_iff_iff, decide_eq_true_iff, full, Bool.not_eq_true', Bool.or_eq_false_iff, decide_eq_false_iff_not, decide_eq_false_iff_not]
    omega
  by_cases c : L < Z
  · rw [Nat.min_eq_left (by omega : L + 1 ≤ Z), Nat.min_eq_left (by omega : L + 1 ≤ 385)]
    refine ⟨by rw [Nat.pow_succ, Nat.div_div_eq_div_mul], b1, ?_⟩
    rw [halfv_bit s L (by omega), Nat.testBit_eq_decide_div_mod_eq]
    unfold hfV
    by_cases z : s % 2 ^ L = 0
    · rw [if_pos z, decide_eq_false (show ¬ (s % 2 ^ L ≠ 0) by omega)]
      rfl
    · rw [if_neg z, decide_eq_true (show s % 2 ^ L ≠ 0 by omega)]
      rfl
  · have lt : s < 2 ^ L := Nat.lt_of_lt_of_le hQ (Nat.pow_le_pow_right (by decide) (by omega))
    have lt2 : s < 2 ^ (L + 1) := Nat.lt_of_lt_of_le hQ (Nat.pow_le_pow_right (by decide) (by omega))
    rw [Nat.min_eq_right (by omega : Z ≤ L + 1), Nat.min_eq_right (by omega : 385 ≤ L + 1)]
    refine ⟨by rw [Nat.div_eq_of_lt hQ, Nat.div_eq_of_lt lt], ?_, ?_⟩
    · rw [← b1, Nat.mod_eq_of_lt hQ, Nat.mod_eq_of_lt lt2]
    · unfold halfv
      rw [if_pos (Or.inr (by decide)), Nat.div_eq_of_lt lt]
      rfl
/-- What package round cuts: by the bits that count. -/
theorem cut_is (P s : Nat) (x st : Int) (k : Nat) (s0 : s ≠ 0) (hs : s < Q) (hP : P ≤ 200) (hst : st = x + (blen s : Int) - (P : Int) + (k : Int)) :
    s * 2 ^ cnt6 (x - st) < Q ∧ s * 2 ^ cnt6 (x - st) / 2 ^ cnt6 (st - x) = rS (qW P s) k ∧ decide (s * 2 ^ cnt6 (x - st) % 2 ^ cnt6 (st - x) = 0) = !(rH (qW P s) k || rM (qW P s) k (qM P s false)) ∧
    ((rH (qW P s) k || rM (qW P s) k (qM P s false)) = true → halfv (s * 2 ^ cnt6 (x - st)) (cnt5 (st - x)) = hfV (rH (qW P s) k) (rM (qW P s) k (qM P s false))) := by
  obtain ⟨l1, l2, l3⟩ := blen_low s s0
  obtain ⟨Z, hZ, eQ⟩ := Qq384
  have bQ : blen s ≤ Z := blen_le_of s Z (by rw [← eQ]; exact hs)
  have deep : ∀ L : Nat, st - x = ((L + 1 : Nat) : Int) → qW P s / 2 ^ k = s / 2 ^ L → rM (qW P s) k (qM P s false) = decide (s % 2 ^ L ≠ 0) → s * 2 ^ cnt6 (x - st) < Q ∧ s * 2 ^ cnt6 (x - st) / 2 ^ cnt6 (st - x) = rS (qW P s) k ∧ decide (s * 2 ^ cnt6 (x - st) % 2 ^ cnt6 (st - x) = 0) = !(rH (qW P s) k || rM (qW P s) k (qM P s false)) ∧
    ((rH (qW P s) k || rM (qW P s) k (qM P s false)) = true → halfv (s * 2 ^ cnt6 (x - st)) (cnt5 (st - x)) = hfV (rH (qW P s) k) (rM (qW P s) k (qM P s false))) := by
    intro L hL hq hm
    have e0 : cnt6 (x - st) = 0 := by unfold cnt6; omega
    have e1 : cnt6 (st - x) = min (L + 1) 384 := by unfold cnt6; omega
    have e2 : cnt5 (st - x) = min (L + 1) 385 := by unfold cnt5; omega
    obtain ⟨c1, c2, c3⟩ := cutN s L hs
    rw [e0, e1, e2, Nat.pow_zero, Nat.mul_one, hm]
    unfold rS rH
    rw [hq]
    exact ⟨hs, c1, c2, fun _ => c3⟩
  by_cases c : P + 1 ≤ blen s
  · refine deep (blen s - (P + 1) + k) (by omega) ?_ ?_
    · unfold qW
      rw [if_pos c, Nat.div_div_eq_div_mul, ← Nat.pow_add]
    · unfold rM qM qW
      rw [if_pos c, if_pos c, Bool.or_false]
      refine (qdec_or ?_).symm
      have := mod_pow_zero s (blen s - (P + 1)) k
      rw [Ne, this]
      omega
  · have W : qW P s = s * 2 ^ (P + 1 - blen s) := by unfold qW; rw [if_neg c]
    have M : qM P s false = false := by unfold qM; rw [if_neg c]
    by_cases c2 : P + 1 - blen s ≤ k
    · have e : s * 2 ^ (P + 1 - blen s) / 2 ^ k = s / 2 ^ (k - (P + 1 - blen s)) := by
        obtain ⟨i, rfl⟩ : ∃ i, k = P + 1 - blen s + i := ⟨k - (P + 1 - blen s), by omega⟩
        rw [Nat.pow_add, ← Nat.div_div_eq_div_mul, Nat.mul_div_cancel _ (Nat.two_pow_pos _), Nat.add_sub_cancel_left]
      refine deep (k - (P + 1 - blen s)) (by omega) (by rw [W, e]) ?_
      unfold rM
      rw [W, M, Bool.or_false]
      have := mod_pow_zero (s * 2 ^ (P + 1 - blen s)) (P + 1 - blen s) (k - (P + 1 - blen s))
      rw [show P + 1 - blen s + (k - (P + 1 - blen s)) = k by omega, Nat.mul_mod_left, Nat.mul_div_cancel _ (Nat.two_pow_pos _)] at this
      rw [decide_eq_decide, Ne, this]
      omega
    · obtain ⟨i, hi⟩ : ∃ i, P + 1 - blen s = i + 1 + k := ⟨P + 1 - blen s - 1 - k, by omega⟩
      have e0 : cnt6 (x - st) = i := by unfold cnt6; omega
      have e1 : cnt6 (st - x) = 0 := by unfold cnt6; omega
      have w1 : s * 2 ^ (P + 1 - blen s) / 2 ^ k = s * 2 ^ i * 2 := by
        rw [hi, Nat.pow_add, ← Nat.mul_assoc, Nat.mul_div_cancel _ (Nat.two_pow_pos _), Nat.pow_succ, Nat.mul_assoc]
      have hH : rH (s * 2 ^ (P + 1 - blen s)) k = false := by
        unfold rH
        rw [w1]
        exact decide_eq_false (by omega)
      have hM : rM (s * 2 ^ (P + 1 - blen s)) k false = false := by
        unfold rM
        rw [hi, Nat.pow_add, ← Nat.mul_assoc, Nat.mul_mod_left]
        rfl
      rw [W, M, e0, e1, hH, hM, Nat.pow_zero, Nat.div_one, Nat.mod_one]
      refine ⟨?_, ?_, rfl, fun q => Bool.noConfusion q⟩
      · have := (Nat.mul_lt_mul_right (Nat.two_pow_pos i)).2 l3
        rw [← Nat.pow_add] at this
        rw [eQ]
        exact Nat.lt_of_lt_of_le this (Nat.pow_le_pow_right (show 0 < 2 by decide) (by omega))
      · unfold rS
        rw [w1]
        omega
end Go.Proofs.YtfmmeifipbpbmaaDoor
namespace Go.Proofs.YtfmmeifipbpbmaaDoor
set_option maxRecDepth 100000
open Go.RowKit WMath XMath
set_option linter.unusedSimpArgs false
set_option linter.unusedVariables false

theorem k_emin (f : Int) (hf : Is4 f) (w : World) (hT : FAt w) : Calls Tryd.prog 31 #[.int .u8 f] w fun r w' => r = .returned (.int .i64 (1 - fE f)) ∧ Below w.heap.size w w' :=
  s_emin f _ _ (is4_ok hf).1 (is4_ok hf).2.1 rfl (em_lim hf).2.2.2.2.1 w hT
theorem eS_lt {f : Int} (hf : Is4 f) (j S : Nat) (hS : S ≤ 2 * 2 ^ pV f) (hj : j = 0 ∨ 2 ^ pV f ≤ S) (ht : lx f + (j : Int) - 1 + (blen S : Int) ≤ fE f) : j * 2 ^ pV f + S < 2 ^ wV f := by
  obtain ⟨g1, g2, g3, g4, g5, g6, g7⟩ := fm hf
  have p := Nat.two_pow_pos (pV f)
  by_cases s0 : S = 0
  · obtain rfl : j = 0 := by omega
    subst s0
    rw [Nat.zero_mul]
    exact Nat.two_pow_pos _
  obtain ⟨e, t, he, htt, nz, h1, h2⟩ := rep hf j S s0 hS hj ht
  have := h1 false
  unfold enc7 eS at this
  rw [if_neg (by decide), Nat.add_zero, Nat.add_zero] at this
  rw [← this, g1]
  have := Nat.mul_le_mul_right (2 ^ pV f) (show e + 1 ≤ oV f + 1 by omega)
  rw [Nat.add_mul, Nat.one_mul] at this
  omega
end Go.Proofs.YtfmmeifipbpbmaaDoor
