/-
  What the functions that the statement reaches return: part 3 (S1, S2, S3, S4, S5, S6, K1, K2, K3, K4).
-/
import Derived.Lib.MinMax
import Derived.Test.YtlpelcfaakfmiaaDoorTw02
namespace Go.Proofs.YtlpelcfaakfmiaaDoor
set_option maxRecDepth 100000
set_option maxHeartbeats 40000000
set_option maxRecDepth 100000
open Go.RowKit WMath
theorem bal7 (w : World) (o : Obj) : Below w.heap.size w (w.alloc o) := (Below.refl _ _).alloc (Nat.le_refl _) _
theorem btr7 {a b c : World} (h : Below a.heap.size a b) (k : Below b.heap.size b c) : Below a.heap.size a c := h.trans (k.mono h.size)

def fcells : Array Value := #[.int .i64 32, .int .i64 24, .int .i64 127, .string ⟨#[115]⟩, .int .i64 64, .int .i64 53, .int .i64 1023, .string ⟨#[100]⟩, .int .i64 16, .int .i64 11, .int .i64 15, .string ⟨#[104]⟩, .int .i64 128, .int .i64 113, .int .i64 16383, .string ⟨#[113]⟩]
def xcells : List (Nat × Nat × Value) := [(0, 0, .int .u64 2147483648), (0, 1, .int .u64 0), (0, 2, .int .u64 0), (0, 3, .int .u64 0), (0, 4, .int .u64 0), (0, 5, .int .u64 0), (0, 6, .int .u64 0), (0, 7, .int .u64 0), (0, 8, .int .u64 0), (0, 9, .int .u64 0), (0, 10, .int .u64 0), (0, 11, .int .u64 0), (0, 12, .int .u64 9223372036854775808), (0, 13, .int .u64 0), (0, 14, .int .u64 0), (0, 15, .int .u64 0), (0, 16, .int .u64 0), (0, 17, .int .u64 0), (0, 18, .int .u64 0), (0, 19, .int .u64 0), (0, 20, .int .u64 0), (0, 21, .int .u64 0), (0, 22, .int .u64 0), (0, 23, .int .u64 0), (1, 0, .int .u64 2147483647), (1, 1, .int .u64 0), (1, 2, .int .u64 0), (1, 3, .int .u64 0), (1, 4, .int .u64 0), (1, 5, .int .u64 0), (1, 6, .int .u64 4294967295), (1, 7, .int .u64 0), (1, 8, .int .u64 0), (1, 9, .int .u64 0), (1, 10, .int .u64 0), (1, 11, .int .u64 0), (1, 12, .int .u64 9223372036854775807), (1, 13, .int .u64 0), (1, 14, .int .u64 0), (1, 15, .int .u64 0), (1, 16, .int .u64 0), (1, 17, .int .u64 0), (1, 18, .int .u64 18446744073709551615), (1, 19, .int .u64 0), (1, 20, .int .u64 0), (1, 21, .int .u64 0), (1, 22, .int .u64 0), (1, 23, .int .u64 0)]
def FAt (w : World) : Prop := (∀ i, i < 16 → w.cell? ⟨2, i, none⟩ = fcells[i]?) ∧ ∀ p, p ∈ xcells → w.cell? ⟨p.1, p.2.1, none⟩ = some p.2.2
theorem fc_some (i : Nat) (h : i < 16) : ∃ v, fcells[i]? = some v := ⟨_, Array.getElem?_eq_getElem (show i < fcells.size from h)⟩
theorem fatB {w w' : World} (h : FAt w) (hb : Below w.heap.size w w') : FAt w' := ⟨fun i hi => by
  obtain ⟨v, hv⟩ := fc_some i hi
  rw [hb.cell (p := ⟨2, i, none⟩) (World.block_lt_of_cell? w _ ((h.1 i hi).trans hv))]
  exact h.1 i hi, fun p hp => by
  rw [hb.cell (p := ⟨p.1, p.2.1, none⟩) (World.block_lt_of_cell? w _ (h.2 p hp))]
  exact h.2 p hp⟩
theorem fat_at {w : World} (h : FAt w) (i : Nat) (v : Value) (hi : i < 16) (hv : fcells[i]? = some v) : w.cell? ⟨2, i, none⟩ = some v := (h.1 i hi).trans hv
theorem fat_x {w : World} (h : FAt w) (k b i : Nat) (v : Value) (hv : xcells[k]? = some (b, i, v)) : w.cell? ⟨b, i, none⟩ = some v := h.2 _ (List.mem_of_getElem? hv)

theorem fat_al {w : World} (h : FAt w) (o : Obj) : FAt (w.alloc o) := fatB h (bal7 w o)
theorem fat_dr {w : World} (h : FAt w) : FAt w.drew := h

def fW (f : Int) : Int := if f = 0 then 32 else if f = 1 then 64 else if f = 2 then 16 else if f = 3 then 128 else 0
def fP (f : Int) : Int := if f = 0 then 24 else if f = 1 then 53 else if f = 2 then 11 else if f = 3 then 113 else 0
def fE (f : Int) : Int := if f = 0 then 127 else if f = 1 then 1023 else if f = 2 then 15 else if f = 3 then 16383 else 0
def fN (f : Int) : ByteArray := if f = 0 then ⟨#[115]⟩ else if f = 1 then ⟨#[100]⟩ else if f = 2 then ⟨#[104]⟩ else if f = 3 then ⟨#[113]⟩ else ⟨#[]⟩
def fR (f : Int) : Array Value := #[.int .i64 (fW f), .int .i64 (fP f), .int .i64 (fE f), .string (fN f)]
def fC (f : Int) : Int := if f = 0 ∨ f = 1 ∨ f = 2 ∨ f = 3 then 0 else 2

theorem f_cases (f : Int) (h0 : 0 ≤ f) : f = 0 ∨ f = 1 ∨ f = 2 ∨ f = 3 ∨ 4 ≤ f := by omega

theorem s_check (f : Int) (h0 : 0 ≤ f) (h1 : f ≤ 255) (w : World) :
    Calls Tryd.prog 56 #[.int .u8 f] w fun e w' => e = .returned (.int .i64 (fC f)) ∧ w' = w := by
  by_cases h : 4 ≤ f
  · have e : fC f = 2 := by unfold fC; rw [if_neg (by omega)]
    rw [e]
    have hd : decide ((4 : Int) ≤ f) = true := by simp [h]
    go_enter Tryd.func56, Tryd.ntmps56
    go_wp2
    go_ret
    exact ⟨rfl, rfl⟩
  · have e : fC f = 0 := by unfold fC; rw [if_pos (by omega)]
    rw [e]
    have hd : decide ((4 : Int) ≤ f) = false := by simp; omega
    go_enter Tryd.func56, Tryd.ntmps56
    go_wp2
    go_ret
    exact ⟨rfl, rfl⟩

theorem s_check_is (f c : Int) (h0 : 0 ≤ f) (h1 : f ≤ 255) (hc : fC f = c) (w : World) :
    Calls Tryd.prog 56 #[.int .u8 f] w fun e w' => e = .returned (.int .i64 c) ∧ w' = w := by
  subst hc; exact s_check f h0 h1 w

theorem s_checkMode (f : Int) (w : World) :
    Calls Tryd.prog 5 #[.int .u8 f] w fun e w' => e = .returned (.int .i64 (if f ≤ 4 then 0 else 2)) ∧ w' = w := by
  by_cases h : 4 < f
  · rw [if_neg (by omega)]
    go_enter Tryd.func5, Tryd.ntmps5
    go_wp2
    go_ret
    exact ⟨rfl, rfl⟩
  · rw [if_pos (by omega)]
    go_enter Tryd.func5, Tryd.ntmps5
    go_wp2
    go_ret
    exact ⟨rfl, rfl⟩

theorem s_of (f : Int) (h0 : 0 ≤ f) (h1 : f ≤ 255) (w : World) (hT : FAt w) :
    Calls Tryd.prog 74 #[.int .u8 f] w fun e w' => e = .returned (.agg #[.int .i64 (fW f), .int .i64 (fP f), .int .i64 (fE f), .string (fN f)]) ∧ w' = w.alloc (.cells (fR f) 105) := by
  have hB := bal7 w (.cells #[.int .i64 0, .int .i64 0, .int .i64 0, .string ⟨#[]⟩] 105)
  have T2 := fatB hT hB
  rcases f_cases f h0 with rfl | rfl | rfl | rfl | h
  · have c0 := fat_at T2 0 (.int .i64 32) (by decide) rfl
    have c1 := fat_at T2 1 (.int .i64 24) (by decide) rfl
    have c2 := fat_at T2 2 (.int .i64 127) (by decide) rfl
    have c3 := fat_at T2 3 (.string ⟨#[115]⟩) (by decide) rfl
    clear T2 hT
    go_enter Tryd.func74, Tryd.ntmps74
    go_wp2_with fail
    refine (s_check_is 0 0 (by omega) (by omega) rfl _).mono ?_
    rintro r w' ⟨rfl, rfl⟩
    go_wp2
    exact bodyPost_ret (v := .agg #[.int .i64 32, .int .i64 24, .int .i64 127, .string ⟨#[115]⟩]) (by simp [results, Tryd.results74, go_sem]) rfl ⟨rfl, rfl⟩
  · have c0 := fat_at T2 4 (.int .i64 64) (by decide) rfl
    have c1 := fat_at T2 5 (.int .i64 53) (by decide) rfl
    have c2 := fat_at T2 6 (.int .i64 1023) (by decide) rfl
    have c3 := fat_at T2 7 (.string ⟨#[100]⟩) (by decide) rfl
    clear T2 hT
    go_enter Tryd.func74, Tryd.ntmps74
    go_wp2_with fail
    refine (s_check_is 1 0 (by omega) (by omega) rfl _).mono ?_
    rintro r w' ⟨rfl, rfl⟩
    go_wp2
    exact bodyPost_ret (v := .agg #[.int .i64 64, .int .i64 53, .int .i64 1023, .string ⟨#[100]⟩]) (by simp [results, Tryd.results74, go_sem]) rfl ⟨rfl, rfl⟩
  · have c0 := fat_at T2 8 (.int .i64 16) (by decide) rfl
    have c1 := fat_at T2 9 (.int .i64 11) (by decide) rfl
    have c2 := fat_at T2 10 (.int .i64 15) (by decide) rfl
    have c3 := fat_at T2 11 (.string ⟨#[104]⟩) (by decide) rfl
    clear T2 hT
    go_enter Tryd.func74, Tryd.ntmps74
    go_wp2_with fail
    refine (s_check_is 2 0 (by omega) (by omega) rfl _).mono ?_
    rintro r w' ⟨rfl, rfl⟩
    go_wp2
    exact bodyPost_ret (v := .agg #[.int .i64 16, .int .i64 11, .int .i64 15, .string ⟨#[104]⟩]) (by simp [results, Tryd.results74, go_sem]) rfl ⟨rfl, rfl⟩
  · have c0 := fat_at T2 12 (.int .i64 128) (by decide) rfl
    have c1 := fat_at T2 13 (.int .i64 113) (by decide) rfl
    have c2 := fat_at T2 14 (.int .i64 16383) (by decide) rfl
    have c3 := fat_at T2 15 (.string ⟨#[113]⟩) (by decide) rfl
    clear T2 hT
    go_enter Tryd.func74, Tryd.ntmps74
    go_wp2_with fail
    refine (s_check_is 3 0 (by omega) (by omega) rfl _).mono ?_
    rintro r w' ⟨rfl, rfl⟩
    go_wp2
    exact bodyPost_ret (v := .agg #[.int .i64 128, .int .i64 113, .int .i64 16383, .string ⟨#[113]⟩]) (by simp [results, Tryd.results74, go_sem]) rfl ⟨rfl, rfl⟩
  · have hd : decide ((4 : Int) ≤ f) = true := by simp [h]
    have e0 : fW f = 0 := by unfold fW; rw [if_neg (by omega), if_neg (by omega), if_neg (by omega), if_neg (by omega)]
    have e1 : fP f = 0 := by unfold fP; rw [if_neg (by omega), if_neg (by omega), if_neg (by omega), if_neg (by omega)]
    have e2 : fE f = 0 := by unfold fE; rw [if_neg (by omega), if_neg (by omega), if_neg (by omega), if_neg (by omega)]
    have e3 : fN f = ⟨#[]⟩ := by unfold fN; rw [if_neg (by omega), if_neg (by omega), if_neg (by omega), if_neg (by omega)]
    have e4 : fC f = 2 := by unfold fC; rw [if_neg (by omega)]
    have e5 : fR f = #[.int .i64 0, .int .i64 0, .int .i64 0, .string ⟨#[]⟩] := by unfold fR; rw [e0, e1, e2, e3]
    rw [e0, e1, e2, e3, e5]
    clear T2 hT e0 e1 e2 e3 e5
    go_enter Tryd.func74, Tryd.ntmps74
    go_wp2_with fail
    refine (s_check_is f 2 (by omega) (by omega) e4 _).mono ?_
    rintro r w' ⟨rfl, rfl⟩
    go_wp2
    exact bodyPost_ret (v := .agg #[.int .i64 0, .int .i64 0, .int .i64 0, .string ⟨#[]⟩]) (by simp [results, Tryd.results74, go_sem]) rfl ⟨rfl, rfl⟩

theorem s_of_is (f w0 p0 m0 : Int) (n0 : ByteArray) (h0 : 0 ≤ f) (h1 : f ≤ 255) (hw : fW f = w0) (hp : fP f = p0) (he : fE f = m0) (hn : fN f = n0) (w : World) (hT : FAt w) :
    Calls Tryd.prog 74 #[.int .u8 f] w fun e w' => e = .returned (.agg #[.int .i64 w0, .int .i64 p0, .int .i64 m0, .string n0]) ∧ w' = w.alloc (.cells (fR f) 105) := by
  subst hw hp he hn
  exact s_of f h0 h1 w hT

theorem fld0 (a b c d : Value) (w : World) : (Instr.field 105 (.agg #[a, b, c, d]) 0).run Tryd.prog w = .ok a w := by kernel_rfl
theorem fld1 (a b c d : Value) (w : World) : (Instr.field 105 (.agg #[a, b, c, d]) 1).run Tryd.prog w = .ok b w := by kernel_rfl
theorem fld2 (a b c d : Value) (w : World) : (Instr.field 105 (.agg #[a, b, c, d]) 2).run Tryd.prog w = .ok c w := by kernel_rfl
theorem s_width (f v : Int) (h0 : 0 ≤ f) (h1 : f ≤ 255) (hv : fW f = v) (w : World) (hT : FAt w) :
    Calls Tryd.prog 55 #[.int .u8 f] w fun e w' => e = .returned (.int .i64 v) ∧ w' = w.alloc (.cells (fR f) 105) := by
  have hl := fld0
  go_enter Tryd.func55, Tryd.ntmps55
  go_wp2_with fail
  refine (s_of_is f v _ _ _ h0 h1 hv rfl rfl rfl _ hT).mono ?_
  rintro r w2 ⟨rfl, rfl⟩
  go_wp2
  go_ret
  exact ⟨rfl, rfl⟩
theorem s_precision (f v : Int) (h0 : 0 ≤ f) (h1 : f ≤ 255) (hv : fP f = v) (w : World) (hT : FAt w) :
    Calls Tryd.prog 60 #[.int .u8 f] w fun e w' => e = .returned (.int .i64 v) ∧ w' = w.alloc (.cells (fR f) 105) := by
  have hl := fld1
  go_enter Tryd.func60, Tryd.ntmps60
  go_wp2_with fail
  refine (s_of_is f _ v _ _ h0 h1 rfl hv rfl rfl _ hT).mono ?_
  rintro r w2 ⟨rfl, rfl⟩
  go_wp2
  go_ret
  exact ⟨rfl, rfl⟩
theorem s_emax (f v : Int) (h0 : 0 ≤ f) (h1 : f ≤ 255) (hv : fE f = v) (w : World) (hT : FAt w) :
    Calls Tryd.prog 50 #[.int .u8 f] w fun e w' => e = .returned (.int .i64 v) ∧ w' = w.alloc (.cells (fR f) 105) := by
  have hl := fld2
  go_enter Tryd.func50, Tryd.ntmps50
  go_wp2_with fail
  refine (s_of_is f _ _ v _ h0 h1 rfl rfl hv rfl _ hT).mono ?_
  rintro r w2 ⟨rfl, rfl⟩
  go_wp2
  go_ret
  exact ⟨rfl, rfl⟩

theorem s_emin (f m v : Int) (h0 : 0 ≤ f) (h1 : f ≤ 255) (hm : fE f = m) (hv : (if fC f = 0 then 1 - m else 0) = v) (w : World) (hT : FAt w) :
    Calls Tryd.prog 49 #[.int .u8 f] w fun e w' => e = .returned (.int .i64 v) ∧ Below w.heap.size w w' := by
  obtain ⟨c, hc⟩ : ∃ c, fC f = c := ⟨_, rfl⟩
  rw [hc] at hv
  have hm2 : 0 ≤ m ∧ m ≤ 16383 := by rw [← hm]; unfold fE; split <;> (try split) <;> (try split) <;> (try split) <;> omega
  by_cases h : c = 0
  · rw [if_pos h] at hv
    subst h hv
    have hw : IntKind.i64.wrap (1 - m) = 1 - m := by rw [IntKind.wrap_i64]; omega
    go_enter Tryd.func49, Tryd.ntmps49
    go_wp2_with fail
    refine (s_check_is f 0 h0 h1 hc _).mono ?_
    rintro r w' ⟨rfl, rfl⟩
    go_wp2_with fail
    refine (s_emax f m h0 h1 hm _ hT).mono ?_
    rintro r w2 ⟨rfl, rfl⟩
    go_wp2
    go_ret
    exact ⟨rfl, bal7 _ _⟩
  · have hd : (c != 0) = true := by simp [h]
    rw [if_neg h] at hv
    subst hv
    go_enter Tryd.func49, Tryd.ntmps49
    go_wp2_with fail
    refine (s_check_is f c h0 h1 hc _).mono ?_
    rintro r w' ⟨rfl, rfl⟩
    go_wp2
    go_ret
    exact ⟨rfl, Below.refl _ _⟩

def rHi (x n : Int) : Int := bits .or .u64 (IntKind.u64.wrap (x * 2 ^ min (IntKind.u64.wrap (n - 64)).toNat 64)) (x / 2 ^ min (IntKind.u64.wrap (64 - n)).toNat 64)
def rLo (x n : Int) : Int := IntKind.u64.wrap (x * 2 ^ min n.toNat 64)

theorem cell7 {w : World} {g : Nat} {T : TypeId} {c : Array Value} (row : w.heap[g]? = some (.cells c T)) (k : Nat) (v : Value) (h : c[k]? = some v) : w.cell? ⟨g, k, none⟩ = some v := by
  simp [World.cell?, row, h]
theorem set2_below {n : Nat} {w wr : World} {b : Nat} (h : Below n w wr) (hb : n ≤ b) (v0 v1 : Value) : Below n w ((wr.setCell ⟨b, 0, none⟩ v0).setCell ⟨b, 1, none⟩ v1) := (h.setCell (by exact hb) _).setCell (by exact hb) _
theorem set2_row {w : World} {b : Nat} {c0 c1 : Value} {T : TypeId} (h : w.heap[b]? = some (.cells #[c0, c1] T)) (v0 v1 : Value) :
    ((w.setCell ⟨b, 0, none⟩ v0).setCell ⟨b, 1, none⟩ v1).heap[b]? = some (.cells #[v0, v1] T) := by
  rw [setCell_row (setCell_row h)]; rfl
theorem set2_cells {w : World} {b : Nat} {c0 c1 : Value} {T : TypeId} (h : w.heap[b]? = some (.cells #[c0, c1] T)) (v0 v1 : Value) :
    ((w.setCell ⟨b, 0, none⟩ v0).setCell ⟨b, 1, none⟩ v1).cell? ⟨b, 0, none⟩ = some v0 ∧ ((w.setCell ⟨b, 0, none⟩ v0).setCell ⟨b, 1, none⟩ v1).cell? ⟨b, 1, none⟩ = some v1 := by
  have r := set2_row h v0 v1
  exact ⟨cell7 r 0 _ rfl, cell7 r 1 _ rfl⟩
theorem last7 (w : World) (o : Obj) : (w.alloc o).heap[w.heap.size]? = some o := heap_alloc_last w o

def b2 (a b : Int) : Array Value := #[.int .u64 a, .int .u64 b]

theorem s_raised (x n H L : Int) (h0 : 0 ≤ n) (h1 : n ≤ 18446744073709551615) (hH : rHi x n = H) (hL : rLo x n = L) (w : World) :
    Calls Tryd.prog 77 #[.int .u64 x, .int .u64 n] w fun e w' => e = .returned (.agg #[.int .u64 H, .int .u64 L]) ∧ w' = w.alloc (.cells #[.int .u64 H, .int .u64 L] 26) := by
  obtain ⟨m, rfl⟩ := Int.eq_ofNat_of_zero_le h0
  subst hH hL
  go_enter Tryd.func77, Tryd.ntmps77
  go_wp2
  exact bodyPost_ret (v := .agg #[.int .u64 (rHi x m), .int .u64 (rLo x m)]) (by simp [results, Tryd.results77, go_sem, rHi, rLo]) rfl ⟨rfl, by simp [rHi, rLo]⟩

theorem s_join (a b c d H L : Int) (hH : bits .or .u64 a c = H) (hL : bits .or .u64 b d = L) (w : World) :
    Calls Tryd.prog 83 #[.agg #[.int .u64 a, .int .u64 b], .agg #[.int .u64 c, .int .u64 d]] w fun e w' => e = .returned (.agg #[.int .u64 H, .int .u64 L]) ∧ w' = ((w.alloc (.cells #[.int .u64 a, .int .u64 b] 26)).alloc (.cells #[.int .u64 c, .int .u64 d] 26)).alloc (.cells #[.int .u64 H, .int .u64 L] 26) := by
  go_enter Tryd.func83, Tryd.ntmps83
  go_wp2
  exact bodyPost_ret (v := .agg #[.int .u64 H, .int .u64 L]) (by simp [results, Tryd.results83, go_sem]) rfl ⟨rfl, rfl⟩

theorem s_ones (n H L : Int) (h0 : 0 ≤ n) (h1 : n ≤ 18446744073709551615) (hH : rHi 1 n = H) (hL : rLo 1 n = L) (K M : Int) (hK : (if L = 0 then IntKind.u64.wrap (H - 1) else H) = K) (hM : IntKind.u64.wrap (L - 1) = M) (w : World) :
    Calls Tryd.prog 54 #[.int .u64 n] w fun e w' => e = .returned (.agg #[.int .u64 K, .int .u64 M]) ∧ Below w.heap.size w w' := by
  by_cases hz : L = 0
  · have hd : (L == 0) = true := by simp [hz]
    rw [if_pos hz] at hK
    subst hz
    rw [show (0 : Int) - 1 = -1 by decide] at hM
    go_enter Tryd.func54, Tryd.ntmps54
    go_wp2_with fail
    refine (s_raised 1 n H _ h0 h1 hH hL _).mono ?_
    rintro r w2 ⟨rfl, rfl⟩
    go_wp2
    exact bodyPost_ret (v := .agg #[.int .u64 K, .int .u64 M]) (by simp [results, Tryd.results54, go_sem]) rfl ⟨rfl, (((Below.refl _ _).alloc (Nat.le_refl _) _).alloc (by simp only [size_al]; omega) _).alloc (by simp only [size_al]; omega) _⟩
  · have hd : (L == 0) = false := by simp [hz]
    rw [if_neg hz] at hK
    subst hK
    go_enter Tryd.func54, Tryd.ntmps54
    go_wp2_with fail
    refine (s_raised 1 n H _ h0 h1 hH hL _).mono ?_
    rintro r w2 ⟨rfl, rfl⟩
    go_wp2
    exact bodyPost_ret (v := .agg #[.int .u64 H, .int .u64 M]) (by simp [results, Tryd.results54, go_sem]) rfl ⟨rfl, (((Below.refl _ _).alloc (Nat.le_refl _) _).alloc (by simp only [size_al]; omega) _).alloc (by simp only [size_al]; omega) _⟩

theorem s_fraction (f p v : Int) (h0 : 0 ≤ f) (h1 : f ≤ 255) (hp : fP f = p) (hv : IntKind.u64.wrap (p - 1) = v) (w : World) (hT : FAt w) :
    Calls Tryd.prog 84 #[.int .u8 f] w fun e w' => e = .returned (.int .u64 v) ∧ w' = w.alloc (.cells (fR f) 105) := by
  have hm2 : 0 ≤ p ∧ p ≤ 113 := by rw [← hp]; unfold fP; split <;> (try split) <;> (try split) <;> (try split) <;> omega
  have hw : IntKind.i64.wrap (p - 1) = p - 1 := by rw [IntKind.wrap_i64]; omega
  go_enter Tryd.func84, Tryd.ntmps84
  go_wp2_with fail
  refine (s_precision f p h0 h1 hp _ hT).mono ?_
  rintro r w2 ⟨rfl, rfl⟩
  go_wp2
  go_ret
  exact ⟨rfl, rfl⟩

theorem s_top (f q p d v : Int) (h0 : 0 ≤ f) (h1 : f ≤ 255) (hq : fW f = q) (hp : fP f = p) (hd : q - p = d) (h2 : 0 ≤ d) (hv : IntKind.u64.wrap (IntKind.u64.wrap (2 ^ min d.toNat 64) - 1) = v) (w : World) (hT : FAt w) :
    Calls Tryd.prog 81 #[.int .u8 f] w fun e w' => e = .returned (.int .u64 v) ∧ Below w.heap.size w w' := by
  have hm1 : 0 ≤ q ∧ q ≤ 128 := by rw [← hq]; unfold fW; split <;> (try split) <;> (try split) <;> (try split) <;> omega
  have hm2 : 0 ≤ p ∧ p ≤ 113 := by rw [← hp]; unfold fP; split <;> (try split) <;> (try split) <;> (try split) <;> omega
  go_enter Tryd.func81, Tryd.ntmps81
  go_wp2_with fail
  refine (s_width f q h0 h1 hq _ hT).mono ?_
  rintro r w2 ⟨rfl, rfl⟩
  go_wp2_with fail
  refine (s_precision f p h0 h1 hp _ (fatB hT (bal7 _ _))).mono ?_
  rintro r w3 ⟨rfl, rfl⟩
  go_wp2
  go_ret
  exact ⟨rfl, btr7 (bal7 _ _) (bal7 _ _)⟩

def pV (f : Int) : Nat := (fP f).toNat - 1
def wV (f : Int) : Nat := (fW f).toNat - 1
def oV (f : Int) : Nat := 2 * (fE f).toNat + 1
def enc7 (f : Int) (neg : Bool) (e t : Nat) : Nat := e * 2 ^ pV f + t + (if neg then 2 ^ wV f else 0)
def bv7 (v : Nat) : Nat × Nat := (v / 18446744073709551616, v % 18446744073709551616)
def eInf (f : Int) (neg : Bool) : Nat := enc7 f neg (oV f) 0
def eZero (f : Int) (neg : Bool) : Nat := enc7 f neg 0 0
def Is4 (f : Int) : Prop := f = 0 ∨ f = 1 ∨ f = 2 ∨ f = 3
theorem is4_ok {f : Int} (h : Is4 f) : 0 ≤ f ∧ f ≤ 255 ∧ fC f = 0 ∧ 0 ≤ fW f - fP f := by
  rcases h with rfl | rfl | rfl | rfl <;> decide +kernel

def R7 (w : World) (I J : Int) (w5 : World) (g : Nat) : Prop := Below w.heap.size w w5 ∧ w5.heap[g]? = some (.cells #[.int .u64 I, .int .u64 J] 26) ∧ w5.heap[w.heap.size + 1]? = some (.cells #[.int .u64 0, .int .u64 0] 26) ∧ w.heap.size + 1 < g
theorem cut7 {G C : Prop} (h : G → C) (k : G) : C := h k
theorem bel_al {w W : World} (h : Below w.heap.size w W) (o : Obj) : Below w.heap.size w (W.alloc o) := btr7 h (bal7 _ _)
theorem bel_dr {w W : World} (h : Below w.heap.size w W) : Below w.heap.size w W.drew := h.drew
theorem row_al {W : World} {b : Nat} {o : Obj} (h : W.heap[b]? = some o) (o' : Obj) : (W.alloc o').heap[b]? = some o := by
  rw [heap_below W b o' (Array.getElem?_eq_some_iff.1 h).1]; exact h
theorem row_dr {W : World} {b : Nat} {o : Obj} (h : W.heap[b]? = some o) : W.drew.heap[b]? = some o := h
theorem row_last {W : World} {b : Nat} {o : Obj} (h : b = W.heap.size) : (W.alloc o).heap[b]? = some o := by subst h; exact heap_alloc_last W o
theorem gen7 {X : Act → World → Prop} {t0 t1 t2 t3 t4 t5 t6 t7 t8 t10 t11 t12 t13 t14 t15 t16 t17 t18 t19 t20 t21 t22 t23 t24 t25 t26 t27 t28 : Value} {d : List Deferred} {w W : World} {I J : Int} {G : Nat}
    (key : ∀ w5 g, R7 w I J w5 g → X ⟨#[t0, t1, t2, t3, t4, t5, t6, t7, t8, .pointer (some ⟨g, 0, none⟩), t10, t11, t12, t13, t14, t15, t16, t17, t18, t19, t20, t21, t22, t23, t24, t25, t26, t27, t28], d⟩ w5) (r : R7 w I J W G) :
    X ⟨#[t0, t1, t2, t3, t4, t5, t6, t7, t8, .pointer (some ⟨G, 0, none⟩), t10, t11, t12, t13, t14, t15, t16, t17, t18, t19, t20, t21, t22, t23, t24, t25, t26, t27, t28], d⟩ W := key W G r

set_option maxHeartbeats 40000000 in
theorem s_pack_any (f x a b p n H L I J q m M N I' J' : Int) (neg : Bool) (h0 : 0 ≤ f) (h1 : f ≤ 255) (hc : fC f = 0) (hp : fP f = p) (hn : IntKind.u64.wrap (p - 1) = n) (n0 : 0 ≤ n) (n1 : n ≤ 18446744073709551615)
    (hH : rHi x n = H) (hL : rLo x n = L) (hI : bits .or .u64 H a = I) (hJ : bits .or .u64 L b = J) (hq : fW f = q) (hm : q - 1 = m) (m0 : 0 ≤ m) (m1 : m ≤ 127) (hM : rHi 1 m = M) (hN : rLo 1 m = N) (hI' : bits .or .u64 I M = I') (hJ' : bits .or .u64 J N = J') (w : World) (hT : FAt w) :
    Calls Tryd.prog 73 #[.int .u8 f, .bool neg, .int .u64 x, .agg #[.int .u64 a, .int .u64 b]] w fun e w' => e = .returned (.agg #[.int .u64 (if neg then I' else I), .int .u64 (if neg then J' else J)]) ∧ Below w.heap.size w w' := by
  have k1 : Box (∀ w : World, FAt w → Calls Tryd.prog 84 #[.int .u8 f] w fun e w' => e = .returned (.int .u64 n) ∧ w' = w.alloc (.cells (fR f) 105)) := box (fun w hw => s_fraction f p n h0 h1 hp hn w hw)
  have k2 := box (s_raised x n H L n0 n1 hH hL)
  have k3 := box (s_join H L a b I J hI hJ)
  have k0 := box (s_check_is f 0 h0 h1 hc)
  have k4 : Box (∀ w : World, FAt w → Calls Tryd.prog 55 #[.int .u8 f] w fun e w' => e = .returned (.int .i64 q) ∧ w' = w.alloc (.cells (fR f) 105)) := box (fun w hw => s_width f q h0 h1 hq w hw)
  have k5 := box (s_raised 1 m M N m0 (by omega) hM hN)
  have k6 := box (s_join I J M N I' J' hI' hJ')
  have T0 := box hT
  have TT := box (fatB hT (btr7 (bal7 w (.cells #[.int .u64 a, .int .u64 b] 26)) (bal7 _ (.cells #[.int .u64 0, .int .u64 0] 26))))
  have e1 : IntKind.i64.wrap (q - 1) = m := by rw [hm, IntKind.wrap_i64]; omega
  have e2 : IntKind.u64.wrap m = m := by rw [IntKind.wrap_u64]; omega
  have e3 : IntKind.i64.wrap m = m := by rw [IntKind.wrap_i64]; omega
  clear hT hp hn hH hL hI hJ hc h0 h1 n0 n1 hq hM hN hI' hJ' m0 m1 hm
  go_enter Tryd.func73, Tryd.ntmps73
  go_wp2_with fail
  refine (k0.out _).mono ?_
  rintro r w' ⟨rfl, rfl⟩
  go_wp2_with fail
  apply cut7
  · intro key
    go_region_with (first
      | (go_at_call 84; refine (k1.out _ (by repeat (first | exact TT.out | refine fat_al ?_ _ | refine fat_dr ?_))).mono ?_; rintro r w2 ⟨rfl, rfl⟩)
      | (go_at_call 77; refine (k2.out _).mono ?_; rintro r w2 ⟨rfl, rfl⟩)
      | (go_at_call 83; refine (k3.out _).mono ?_; rintro r w2 ⟨rfl, rfl⟩))
    all_goals
      refine gen7 (w := w) (I := I) (J := J) key ⟨?_, ?_, ?_, ?_⟩
      · repeat (first | exact Below.refl _ _ | refine bel_dr ?_ | refine bel_al ?_ _)
      · repeat (first | refine row_dr ?_ | (refine row_last ?_; simp only [size_al]; done) | refine row_al ?_ _)
      · repeat (first | refine row_dr ?_ | (refine row_last ?_; simp only [size_al]; done) | refine row_al ?_ _)
      · omega
  rintro w5 g ⟨B5, R5, S5, hg⟩
  have F5 := box (fatB T0.out B5)
  have c50 := cell7 R5 0 _ rfl
  have c51 := cell7 R5 1 _ rfl
  cases neg
  · have q0 := fz (k := 0) S5
    have q1 := fz (k := 1) S5
    have d0 := cell7 S5 0 _ rfl
    have d1 := cell7 S5 1 _ rfl
    obtain ⟨E0, E1⟩ := set2_cells S5 (.int .u64 I) (.int .u64 J)
    go_wp2
    exact bodyPost_ret (v := .agg #[.int .u64 I, .int .u64 J]) (by simp [results, Tryd.results73, go_sem, E0, E1]) rfl ⟨rfl, set2_below B5 (by omega) _ _⟩
  · have r1 := row_al R5 (.cells (fR f) 105)
    have r2 := row_al r1 (.cells #[.int .u64 M, .int .u64 N] 26)
    have r5 := row_al (row_al (row_al r2 (.cells #[.int .u64 I, .int .u64 J] 26)) (.cells #[.int .u64 M, .int .u64 N] 26)) (.cells #[.int .u64 I', .int .u64 J'] 26)
    have s5 := row_al (row_al (row_al (row_al (row_al S5 (.cells (fR f) 105)) (.cells #[.int .u64 M, .int .u64 N] 26)) (.cells #[.int .u64 I, .int .u64 J] 26)) (.cells #[.int .u64 M, .int .u64 N] 26)) (.cells #[.int .u64 I', .int .u64 J'] 26)
    have Q5 : Box (R7 w I' J' _ g) := box ⟨set2_below (bel_al (bel_al (bel_al (bel_al (bel_al B5 _) _) _) _) _) (by omega) (.int .u64 I') (.int .u64 J'), set2_row r5 _ _, by rw [setCell_other (by omega), setCell_other (by omega)]; exact s5, hg⟩
    have c10 := cell7 r1 0 _ rfl
    have c11 := cell7 r1 1 _ rfl
    have c20 := cell7 r2 0 _ rfl
    have c21 := cell7 r2 1 _ rfl
    have q0 := fz (k := 0) r5
    have q1 := fz (k := 1) r5
    have e50 := cell7 r5 0 _ rfl
    have e51 := cell7 r5 1 _ rfl
    clear r1 r2 r5 s5
    go_wp2_with fail
    apply cut7
    · intro key
      go_region_with (first
        | (go_at_call 55; refine (k4.out _ (by repeat (first | exact F5.out | refine fat_al ?_ _ | refine fat_dr ?_))).mono ?_; rintro r w2 ⟨rfl, rfl⟩)
        | (go_at_call 77; refine (k5.out _).mono ?_; rintro r w2 ⟨rfl, rfl⟩)
        | (go_at_call 83; refine (k6.out _).mono ?_; rintro r w2 ⟨rfl, rfl⟩))
      all_goals
        refine gen7 (w := w) (I := I') (J := J') key ?_
        exact ⟨bel_dr Q5.out.1, row_dr Q5.out.2.1, row_dr Q5.out.2.2.1, hg⟩
    clear R5 S5 F5 c50 c51 c10 c11 c20 c21 q0 q1 e50 e51 B5
    rintro w6 g6 ⟨B6, R6, S6, hg6⟩
    have c60 := cell7 R6 0 _ rfl
    have c61 := cell7 R6 1 _ rfl
    have q0 := fz (k := 0) S6
    have q1 := fz (k := 1) S6
    have d0 := cell7 S6 0 _ rfl
    have d1 := cell7 S6 1 _ rfl
    obtain ⟨E0, E1⟩ := set2_cells S6 (.int .u64 I') (.int .u64 J')
    go_wp2
    exact bodyPost_ret (v := .agg #[.int .u64 I', .int .u64 J']) (by simp [results, Tryd.results73, go_sem, E0, E1]) rfl ⟨rfl, set2_below B6 (by omega) _ _⟩
def pkHi (f : Int) (neg : Bool) (x a : Int) : Int := if neg then bits .or .u64 (bits .or .u64 (rHi x (IntKind.u64.wrap (fP f - 1))) a) (rHi 1 (fW f - 1)) else bits .or .u64 (rHi x (IntKind.u64.wrap (fP f - 1))) a
def pkLo (f : Int) (neg : Bool) (x b : Int) : Int := if neg then bits .or .u64 (bits .or .u64 (rLo x (IntKind.u64.wrap (fP f - 1))) b) (rLo 1 (fW f - 1)) else bits .or .u64 (rLo x (IntKind.u64.wrap (fP f - 1))) b

theorem s_pack_is (f x a b I J : Int) (neg : Bool) (hf : Is4 f) (hI : pkHi f neg x a = I) (hJ : pkLo f neg x b = J) (w : World) (hT : FAt w) :
    Calls Tryd.prog 73 #[.int .u8 f, .bool neg, .int .u64 x, .agg #[.int .u64 a, .int .u64 b]] w fun e w' => e = .returned (.agg #[.int .u64 I, .int .u64 J]) ∧ Below w.heap.size w w' := by
  subst hI hJ
  have k : 0 ≤ IntKind.u64.wrap (fP f - 1) ∧ IntKind.u64.wrap (fP f - 1) ≤ 18446744073709551615 ∧ 0 ≤ fW f - 1 ∧ fW f - 1 ≤ 127 ∧ fC f = 0 ∧ 0 ≤ f ∧ f ≤ 255 := by
    rcases hf with rfl | rfl | rfl | rfl <;> decide +kernel
  have h := s_pack_any f x a b _ _ _ _ _ _ _ _ _ _ _ _ neg k.2.2.2.2.2.1 k.2.2.2.2.2.2 k.2.2.2.2.1 rfl rfl k.1 k.2.1 rfl rfl rfl rfl rfl rfl k.2.2.1 k.2.2.2.1 rfl rfl rfl rfl w hT
  refine h.mono ?_
  rintro r w' ⟨rfl, b⟩
  refine ⟨?_, b⟩
  cases neg <;> rfl

theorem top7 {f : Int} (h : Is4 f) : IntKind.u64.wrap (IntKind.u64.wrap (2 ^ min (fW f - fP f).toNat 64) - 1) = (oV f : Int) := by
  rcases h with rfl | rfl | rfl | rfl <;> decide +kernel

theorem s_top_is (f : Int) (hf : Is4 f) (w : World) (hT : FAt w) :
    Calls Tryd.prog 81 #[.int .u8 f] w fun e w' => e = .returned (.int .u64 (oV f : Nat)) ∧ Below w.heap.size w w' :=
  s_top f _ _ _ _ (is4_ok hf).1 (is4_ok hf).2.1 rfl rfl rfl (is4_ok hf).2.2.2 (top7 hf) w hT

theorem pk_Inf {f : Int} (h : Is4 f) (neg : Bool) : pkHi f neg ((oV f : Nat)) (0) = ((bv7 (eInf f neg)).1 : Nat) ∧ pkLo f neg ((oV f : Nat)) (0) = ((bv7 (eInf f neg)).2 : Nat) := by
  rcases h with rfl | rfl | rfl | rfl <;> cases neg <;> decide +kernel
theorem pk_Zero {f : Int} (h : Is4 f) (neg : Bool) : pkHi f neg (0) (0) = ((bv7 (eZero f neg)).1 : Nat) ∧ pkLo f neg (0) (0) = ((bv7 (eZero f neg)).2 : Nat) := by
  rcases h with rfl | rfl | rfl | rfl <;> cases neg <;> decide +kernel
set_option maxHeartbeats 1000000 in
theorem s_inf (f : Int) (neg : Bool) (hf : Is4 f) (v : Nat) (hv : eInf f neg = v) (w : World) (hT : FAt w) :
    Calls Tryd.prog 70 #[.int .u8 f, .bool neg] w fun e w' => e = .returned (bitsV (bv7 v)) ∧ Below w.heap.size w w' := by
  subst hv
  have TT := box hT
  have P := box (pk_Inf hf neg)
  obtain ⟨x, y, hxy⟩ : ∃ x y, bv7 (eInf f neg) = (x, y) := ⟨_, _, rfl⟩
  rw [hxy] at P ⊢
  have e0 : bitsV (x, y) = .agg #[.int .u64 (x : Nat), .int .u64 (y : Nat)] := rfl
  rw [e0]
  have f4 := is4_ok hf
  clear hxy hT e0
  have R0 : (w.alloc (.cells #[.int .u64 0, .int .u64 0] 26)).heap[w.heap.size]? = some (.cells #[.int .u64 0, .int .u64 0] 26) := last7 _ _
  have B0 := bal7 w (.cells #[.int .u64 0, .int .u64 0] 26)
  go_enter Tryd.func70, Tryd.ntmps70
  go_wp2_with fail
  refine (s_top_is f hf _ (fatB TT.out B0)).mono ?_
  rintro r w1 ⟨rfl, b1⟩
  have B1 := btr7 B0 b1
  have R1 := heap_of b1 _ _ _ R0
  clear B0 R0 b1
  go_wp2_with fail
  refine (s_pack_is f _ 0 0 _ _ neg hf P.out.1 P.out.2 _ (fatB TT.out B1)).mono ?_
  rintro r w2 ⟨rfl, b2⟩
  have B2 := btr7 B1 b2
  have R2 := heap_of b2 _ _ _ R1
  clear B1 R1 b2
  have q0 := fz (k := 0) R2
  have q1 := fz (k := 1) R2
  have d0 := cell7 R2 0 _ rfl
  have d1 := cell7 R2 1 _ rfl
  obtain ⟨E0, E1⟩ := set2_cells R2 (.int .u64 x) (.int .u64 y)
  go_wp2
  exact bodyPost_ret (v := .agg #[.int .u64 x, .int .u64 y]) (by simp [results, Tryd.results70, go_sem, E0, E1]) rfl ⟨rfl, set2_below B2 (by omega) _ _⟩

set_option maxHeartbeats 1000000 in
theorem s_zero (f : Int) (neg : Bool) (hf : Is4 f) (v : Nat) (hv : eZero f neg = v) (w : World) (hT : FAt w) :
    Calls Tryd.prog 44 #[.int .u8 f, .bool neg] w fun e w' => e = .returned (bitsV (bv7 v)) ∧ Below w.heap.size w w' := by
  subst hv
  have TT := box hT
  have P := box (pk_Zero hf neg)
  obtain ⟨x, y, hxy⟩ : ∃ x y, bv7 (eZero f neg) = (x, y) := ⟨_, _, rfl⟩
  rw [hxy] at P ⊢
  have e0 : bitsV (x, y) = .agg #[.int .u64 (x : Nat), .int .u64 (y : Nat)] := rfl
  rw [e0]
  have f4 := is4_ok hf
  clear hxy hT e0
  have R0 : (w.alloc (.cells #[.int .u64 0, .int .u64 0] 26)).heap[w.heap.size]? = some (.cells #[.int .u64 0, .int .u64 0] 26) := last7 _ _
  have B0 := bal7 w (.cells #[.int .u64 0, .int .u64 0] 26)
  go_enter Tryd.func44, Tryd.ntmps44
  go_wp2_with fail
  refine (s_pack_is f 0 0 0 _ _ neg hf P.out.1 P.out.2 _ (fatB TT.out B0)).mono ?_
  rintro r w1 ⟨rfl, b1⟩
  have B1 := btr7 B0 b1
  have R1 := heap_of b1 _ _ _ R0
  clear B0 R0 b1
  have q0 := fz (k := 0) R1
  have q1 := fz (k := 1) R1
  have d0 := cell7 R1 0 _ rfl
  have d1 := cell7 R1 1 _ rfl
  obtain ⟨E0, E1⟩ := set2_cells R1 (.int .u64 x) (.int .u64 y)
  go_wp2
  exact bodyPost_ret (v := .agg #[.int .u64 x, .int .u64 y]) (by simp [results, Tryd.results44, go_sem, E0, E1]) rfl ⟨rfl, set2_below B1 (by omega) _ _⟩

theorem fW_lim {f m : Int} (h : fW f = m) : 0 ≤ m ∧ m ≤ 128 := by rw [← h]; unfold fW; split <;> (try split) <;> (try split) <;> (try split) <;> omega

theorem lt_Q7 {v : Nat} (h : v < 340282366920938463463374607431768211456) : v < Q := by
  have := bits_ltQ (v % 18446744073709551616) (v / 18446744073709551616) (Nat.mod_lt _ (by decide)) (by omega)
  omega
theorem bel_set {w W : World} {b : Nat} {c : Array Value} (h : Below w.heap.size w W) (hb : w.heap.size ≤ b) : Below w.heap.size w (W.setRow b c) := Below.setRow h hb

end Go.Proofs.YtlpelcfaakfmiaaDoor
namespace Go.Proofs.YtlpelcfaakfmiaaDoor
set_option maxRecDepth 100000
set_option maxHeartbeats 40000000
set_option maxRecDepth 100000
open Go.RowKit WMath
set_option linter.unusedVariables false
theorem andnot7 (x c m : Nat) (hx : x < 18446744073709551616) (hc : c ≤ 64) (hm : 2 ^ c - 1 = m) : (bits .andNot .u64 (x : Int) (m : Int) == 0) = decide (x < 2 ^ c) := by
  have e : bits .andNot .u64 (x : Int) (m : Int) = (((BitVec.ofNat 64 x &&& ~~~ BitVec.ofNat 64 m).toNat : Nat) : Int) := by
    show IntKind.u64.wrap ((BitVec.ofInt 64 (x : Int) &&& ~~~ BitVec.ofInt 64 (m : Int)).toNat : Int) = _
    rw [BitVec.ofInt_natCast, BitVec.ofInt_natCast, IntKind.wrap_u64]
    have := (BitVec.ofNat 64 x &&& ~~~ BitVec.ofNat 64 m).isLt
    generalize (BitVec.ofNat 64 x &&& ~~~ BitVec.ofNat 64 m).toNat = t at *
    omega
  rw [e]
  by_cases h : x < 2 ^ c
  · rw [decide_eq_true h]
    have z : BitVec.ofNat 64 x &&& ~~~ BitVec.ofNat 64 m = 0#64 := by
      apply BitVec.eq_of_getLsbD_eq
      intro i hi
      simp only [BitVec.getLsbD_and, BitVec.getLsbD_not, BitVec.getLsbD_ofNat, hi, decide_true, Bool.true_and]
      rw [← hm, Nat.testBit_two_pow_sub_one]
      by_cases hic : i < c
      · simp [hic]
      · rw [Nat.testBit_lt_two_pow (Nat.lt_of_lt_of_le h (Nat.pow_le_pow_right (by decide) (by omega)))]
        simp
    rw [z]
    rfl
  · rw [decide_eq_false h]
    simp only [beq_eq_false_iff_ne, ne_eq]
    intro z
    apply h
    apply Nat.lt_pow_two_of_testBit
    intro i hi
    by_cases h6 : i < 64
    · have z2 : (BitVec.ofNat 64 x &&& ~~~ BitVec.ofNat 64 m).getLsbD i = false := by
        have : BitVec.ofNat 64 x &&& ~~~ BitVec.ofNat 64 m = 0#64 := BitVec.eq_of_toNat_eq (by simpa using (by omega : (BitVec.ofNat 64 x &&& ~~~ BitVec.ofNat 64 m).toNat = 0))
        rw [this]; simp
      simp only [BitVec.getLsbD_and, BitVec.getLsbD_not, BitVec.getLsbD_ofNat, h6, decide_true, Bool.true_and] at z2
      rw [← hm, Nat.testBit_two_pow_sub_one] at z2
      have : decide (i < c) = false := by simp; omega
      rw [this] at z2
      simpa using z2
    · exact Nat.testBit_lt_two_pow (Nat.lt_of_lt_of_le hx (by rw [show 18446744073709551616 = 2 ^ 64 by decide]; exact Nat.pow_le_pow_right (by decide) (by omega)))

def oHi (f : Int) : Int := if rLo 1 (fW f) = 0 then IntKind.u64.wrap (rHi 1 (fW f) - 1) else rHi 1 (fW f)
def oLo (f : Int) : Int := IntKind.u64.wrap (rLo 1 (fW f) - 1)

theorem s_fits_no (f : Int) (b : Nat × Nat) (h0 : 0 ≤ f) (h1 : f ≤ 255) (hc : fC f = 2) (w : World) (hT : FAt w) :
    Calls Tryd.prog 27 #[.int .u8 f, bitsV b] w fun e w' => e = .returned (.bool false) ∧ Below w.heap.size w w' := by
  have hq : fW f = 0 := by
    unfold fC at hc
    unfold fW
    split at hc
    · simp at hc
    · rename_i h; rw [if_neg (fun e => h (Or.inl e)), if_neg (fun e => h (Or.inr (Or.inl e))), if_neg (fun e => h (Or.inr (Or.inr (Or.inl e)))), if_neg (fun e => h (Or.inr (Or.inr (Or.inr e))))]
  have TT := box hT
  unfold bitsV
  have B0 := bal7 w (.cells #[.int .u64 b.1, .int .u64 b.2] 26)
  go_enter Tryd.func27, Tryd.ntmps27
  go_wp2_with fail
  refine (s_width f 0 h0 h1 hq _ (fatB TT.out B0)).mono ?_
  rintro r w' ⟨rfl, rfl⟩
  have B1 := bel_al B0 (.cells (fR f) 105)
  clear B0
  go_wp2_with fail
  refine (s_ones 0 0 1 (by decide) (by decide) rfl rfl 0 0 rfl rfl _).mono ?_
  rintro r w2 ⟨rfl, b2⟩
  have B2 := bel_al (btr7 B1 b2) (.cells #[.int .u64 0, .int .u64 0] 26)
  clear B1 b2
  go_wp2_with fail
  refine (s_check_is f 2 h0 h1 hc _).mono ?_
  rintro r w' ⟨rfl, rfl⟩
  go_wp2
  go_ret
  exact ⟨rfl, B2⟩

set_option maxHeartbeats 1000000 in
theorem s_fits (f : Int) (b : Nat × Nat) (o : Bool) (hf : Is4 f) (hb1 : b.1 < 18446744073709551616) (hb2 : b.2 < 18446744073709551616) (p q : Bool) (hp : (bits .andNot .u64 (b.1 : Int) (oHi f) == 0) = p) (hq : (bits .andNot .u64 (b.2 : Int) (oLo f) == 0) = q) (ho : (p && q) = o) (w : World) (hT : FAt w) :
    Calls Tryd.prog 27 #[.int .u8 f, bitsV b] w fun e w' => e = .returned (.bool o) ∧ Below w.heap.size w w' := by
  have TT := box hT
  have f4 := is4_ok hf
  unfold bitsV
  obtain ⟨b1, b2⟩ := b
  simp only at hb1 hb2 hp hq
  obtain ⟨W, hW⟩ : ∃ W : Int, fW f = W := ⟨_, rfl⟩
  obtain ⟨K, hK⟩ : ∃ W : Int, oHi f = W := ⟨_, rfl⟩
  obtain ⟨M, hM⟩ : ∃ W : Int, oLo f = W := ⟨_, rfl⟩
  rw [hK] at hp
  rw [hM] at hq
  have w0 : IntKind.u64.wrap W = W := by rw [← hW]; rcases hf with rfl | rfl | rfl | rfl <;> decide +kernel
  have wl := fW_lim hW
  have KO : Box (∀ w : World, Calls Tryd.prog 54 #[.int .u64 W] w fun e w' => e = .returned (.agg #[.int .u64 K, .int .u64 M]) ∧ Below w.heap.size w w') := box (fun w => s_ones W _ _ (by omega) (by omega) rfl rfl K M (by rw [← hK, ← hW]; rfl) (by rw [← hM, ← hW]; rfl) w)
  have R0 : (w.alloc (.cells #[.int .u64 b1, .int .u64 b2] 26)).heap[w.heap.size]? = some (.cells #[.int .u64 b1, .int .u64 b2] 26) := last7 _ _
  have B0 := bal7 w (.cells #[.int .u64 b1, .int .u64 b2] 26)
  have HW := box hW
  clear hT hW hK hM hb1 hb2 hf wl
  go_enter Tryd.func27, Tryd.ntmps27
  go_wp2_with fail
  refine (s_width f W f4.1 f4.2.1 HW.out _ (fatB TT.out B0)).mono ?_
  rintro r w' ⟨rfl, rfl⟩
  have B1 := bel_al B0 (.cells (fR f) 105)
  have R1 := row_al R0 (.cells (fR f) 105)
  clear B0 R0
  go_wp2_with fail
  refine (KO.out _).mono ?_
  rintro r w2 ⟨rfl, b2'⟩
  have R2 := row_al (heap_of b2' _ _ _ R1) (.cells #[.int .u64 K, .int .u64 M] 26)
  have B2 := bel_al (btr7 B1 b2') (.cells #[.int .u64 K, .int .u64 M] 26)
  have c0 := cell7 R2 0 _ rfl
  have c1 := cell7 R2 1 _ rfl
  clear B1 b2' R1
  go_wp2_with fail
  refine (s_check_is f 0 f4.1 f4.2.1 f4.2.2.1 _).mono ?_
  rintro r w' ⟨rfl, rfl⟩
  cases p <;> cases q <;> subst ho
  · go_wp2
    go_ret
    exact ⟨rfl, B2⟩
  · go_wp2
    go_ret
    exact ⟨rfl, B2⟩
  · go_wp2
    go_ret
    exact ⟨rfl, B2⟩
  · go_wp2
    go_ret
    exact ⟨rfl, B2⟩
theorem no7 {f : Int} (h : 3 < f) : fC f = 2 ∧ fW f = 0 ∧ fP f = 0 ∧ fE f = 0 := by
  refine ⟨?_, ?_, ?_, ?_⟩
  · unfold fC; rw [if_neg (by omega)]
  · unfold fW; rw [if_neg (by omega), if_neg (by omega), if_neg (by omega), if_neg (by omega)]
  · unfold fP; rw [if_neg (by omega), if_neg (by omega), if_neg (by omega), if_neg (by omega)]
  · unfold fE; rw [if_neg (by omega), if_neg (by omega), if_neg (by omega), if_neg (by omega)]
theorem is4_of {f : Int} (h0 : 0 ≤ f) (h : f ≤ 3) : Is4 f := by unfold Is4; omega


theorem blen_iff (n W : Nat) : blen n ≤ W ↔ n < 2 ^ W := by
  constructor
  · intro h
    exact Nat.lt_of_lt_of_le (blen_lt n) (Nat.pow_le_pow_right (by decide) h)
  · exact blen_le_of n W

theorem fit7 (f : Int) (hf : Is4 f) (b1 b2 : Nat) (hb1 : b1 < 18446744073709551616) (hb2 : b2 < 18446744073709551616) :
    ((bits .andNot .u64 (b1 : Int) (oHi f) == 0) && (bits .andNot .u64 (b2 : Int) (oLo f) == 0)) = decide (((blen (b2 + 18446744073709551616 * b1) : Nat) : Int) ≤ fW f) := by
  have key : ∀ (c d W : Nat) (K M : Nat), c ≤ 64 → d ≤ 64 → 2 ^ c - 1 = K → 2 ^ d - 1 = M → oHi f = (K : Int) → oLo f = (M : Int) → fW f = (W : Int) →
      ((b1 < 2 ^ c ∧ b2 < 2 ^ d) ↔ b2 + 18446744073709551616 * b1 < 2 ^ W) → ((bits .andNot .u64 (b1 : Int) (oHi f) == 0) && (bits .andNot .u64 (b2 : Int) (oLo f) == 0)) = decide (((blen (b2 + 18446744073709551616 * b1) : Nat) : Int) ≤ fW f) := by
    intro c d W K M hc hd hK hM e1 e2 e3 h
    rw [e1, e2, e3, andnot7 b1 c K hb1 hc hK, andnot7 b2 d M hb2 hd hM]
    have h2 : (((blen (b2 + 18446744073709551616 * b1) : Nat) : Int) ≤ (W : Int)) ↔ (b1 < 2 ^ c ∧ b2 < 2 ^ d) := by
      rw [h, ← blen_iff]; omega
    rw [← Bool.decide_and]
    exact decide_eq_decide.2 h2.symm
  rcases hf with rfl | rfl | rfl | rfl
  · exact key 0 32 32 0 4294967295 (by decide) (by decide) (by decide) (by decide) (by decide +kernel) (by decide +kernel) (by decide +kernel) (by simp only [Nat.reducePow]; omega)
  · exact key 0 64 64 0 18446744073709551615 (by decide) (by decide) (by decide) (by decide) (by decide +kernel) (by decide +kernel) (by decide +kernel) (by simp only [Nat.reducePow]; omega)
  · exact key 0 16 16 0 65535 (by decide) (by decide) (by decide) (by decide) (by decide +kernel) (by decide +kernel) (by decide +kernel) (by simp only [Nat.reducePow]; omega)
  · exact key 64 64 128 18446744073709551615 18446744073709551615 (by decide) (by decide) (by decide) (by decide) (by decide +kernel) (by decide +kernel) (by decide +kernel) (by simp only [Nat.reducePow]; omega)

def fitsB (f : Int) (b : Nat × Nat) : Bool := decide (f ≤ 3) && decide (((blen (b.2 + 18446744073709551616 * b.1) : Nat) : Int) ≤ fW f)
theorem s_fits_is (f : Int) (b : Nat × Nat) (o : Bool) (h0 : 0 ≤ f) (h1 : f ≤ 255) (hb1 : b.1 < 18446744073709551616) (hb2 : b.2 < 18446744073709551616) (ho : fitsB f b = o) (w : World) (hT : FAt w) :
    Calls Tryd.prog 27 #[.int .u8 f, bitsV b] w fun e w' => e = .returned (.bool o) ∧ Below w.heap.size w w' := by
  by_cases h : f ≤ 3
  · refine s_fits f b o (is4_of h0 h) hb1 hb2 _ _ rfl rfl ?_ w hT
    rw [fit7 f (is4_of h0 h) b.1 b.2 hb1 hb2, ← ho]
    unfold fitsB
    rw [decide_eq_true h, Bool.true_and]
  · have e : o = false := by rw [← ho]; unfold fitsB; rw [decide_eq_false h, Bool.false_and]
    subst e
    exact s_fits_no f b h0 h1 (no7 (by omega)).1 w hT
end Go.Proofs.YtlpelcfaakfmiaaDoor
namespace Go.Proofs.YtlpelcfaakfmiaaDoor
set_option maxRecDepth 100000
set_option maxHeartbeats 40000000
set_option maxRecDepth 100000
open Go.RowKit WMath
def kN (f : Int) (n : Nat) : Bool := decide (n / 2 ^ wV f % 2 = 1)
def kE (f : Int) (n : Nat) : Nat := n / 2 ^ pV f % (oV f + 1)
def kT (f : Int) (n : Nat) : Nat := n % 2 ^ pV f
def kC (f : Int) (n : Nat) : Nat :=
  if kE f n = oV f then (if kT f n = 0 then (if kN f n then 0 else 7) else if 2 ^ (pV f - 1) ≤ kT f n then 9 else 8)
  else if kE f n ≠ 0 then (if kN f n then 1 else 6)
  else if kT f n ≠ 0 then (if kN f n then 2 else 5) else (if kN f n then 3 else 4)
def lx (f : Int) : Int := 1 - fE f - pV f
def kS (f : Int) (n : Nat) : Nat := if kC f n = 2 ∨ kC f n = 5 then kT f n else if kC f n = 1 ∨ kC f n = 6 then 2 ^ pV f + kT f n else 0
def kX (f : Int) (n : Nat) : Int := if kC f n = 2 ∨ kC f n = 5 then lx f else if kC f n = 1 ∨ kC f n = 6 then lx f + (kE f n : Int) - 1 else 0
def kF (f : Int) (n : Nat) : Nat := if kC f n = 8 ∨ kC f n = 9 then kT f n else 0
def Fit (f : Int) (n : Nat) : Prop := n < 2 * 2 ^ wV f
theorem fm {f : Int} (h : Is4 f) : 2 ^ wV f = (oV f + 1) * 2 ^ pV f ∧ 2 ≤ pV f ∧ 2 ^ pV f = 2 * 2 ^ (pV f - 1) ∧ 2 ^ (pV f - 1) ≥ 2 ∧ 3 ≤ oV f ∧ oV f < 32768 ∧ 2 * 2 ^ wV f ≤ 340282366920938463463374607431768211456 := by
  rcases h with rfl | rfl | rfl | rfl <;> decide +kernel
theorem kT_lt {f : Int} (n : Nat) : kT f n < 2 ^ pV f := Nat.mod_lt _ (Nat.two_pow_pos _)
theorem kE_le {f : Int} (n : Nat) : kE f n ≤ oV f := Nat.le_of_lt_succ (Nat.mod_lt _ (Nat.succ_pos _))
theorem kC_lt (f : Int) (n : Nat) : kC f n < 10 := by unfold kC; repeat' split <;> first | decide | skip
theorem enc_k {f : Int} (h : Is4 f) (neg : Bool) {e t : Nat} (he : e ≤ oV f) (ht : t < 2 ^ pV f) : Fit f (enc7 f neg e t) ∧ kN f (enc7 f neg e t) = neg ∧ kE f (enc7 f neg e t) = e ∧ kT f (enc7 f neg e t) = t := by
  unfold Fit enc7 kN kE kT
  rcases h with rfl | rfl | rfl | rfl
  all_goals
    simp only [show pV 0 = 23 by decide, show wV 0 = 31 by decide, show oV 0 = 255 by decide, show pV 1 = 52 by decide, show wV 1 = 63 by decide, show oV 1 = 2047 by decide, show pV 2 = 10 by decide, show wV 2 = 15 by decide, show oV 2 = 31 by decide, show pV 3 = 112 by decide, show wV 3 = 127 by decide, show oV 3 = 32767 by decide] at he ht ⊢
    simp only [Nat.reducePow, Nat.reduceAdd] at ht ⊢
    cases neg
    · simp only [Bool.false_eq_true, if_false, decide_eq_false_iff_not]
      omega
    · simp only [if_true, decide_eq_true_eq]
      omega
def kp (f : Int) (n : Nat) : Nat × Nat × Int × Nat := (kC f n, kS f n, kX f n, kF f n)
theorem xor_two (a b : Nat) : (a ^^^ b) % 2 = (a + b) % 2 := by
  have := @Nat.xor_mod_two_eq_one a b
  omega
theorem xor_bit : ∀ (k a : Nat), a ^^^ 2 ^ k = if a / 2 ^ k % 2 = 1 then a - 2 ^ k else a + 2 ^ k
  | 0, a => by
    have h1 : (a ^^^ 1) / 2 = a / 2 := by rw [Nat.xor_div_two]; simp
    have h2 : (a ^^^ 1) % 2 = (a + 1) % 2 := by rw [xor_two]
    rw [Nat.pow_zero, Nat.div_one]
    split <;> omega
  | k + 1, a => by
    have ih := xor_bit k (a / 2)
    have h1 : (a ^^^ 2 ^ (k + 1)) / 2 = a / 2 ^^^ 2 ^ k := by rw [Nat.xor_div_two, Nat.pow_succ, Nat.mul_div_cancel _ (by decide)]
    have h2 : (a ^^^ 2 ^ (k + 1)) % 2 = a % 2 := by rw [xor_two, Nat.pow_succ]; omega
    have h3 : a / 2 / 2 ^ k = a / 2 ^ (k + 1) := by rw [Nat.div_div_eq_div_mul, Nat.pow_succ, Nat.mul_comm]
    rw [ih, h3] at h1
    have h4 : a / 2 ^ (k + 1) % 2 = 1 → 2 ^ k ≤ a / 2 := fun h => by
      rw [← h3] at h
      by_cases c : 2 ^ k ≤ a / 2
      · exact c
      · rw [Nat.div_eq_of_lt (by omega)] at h; exact absurd h (by decide)
    rw [Nat.pow_succ] at h1 h2 h4 ⊢
    split at h1
    · rename_i c
      have := h4 c
      rw [if_pos c]; omega
    · rename_i c
      rw [if_neg c]; omega
def sgB (f : Int) (n : Nat) (neg : Bool) : Nat := if neg then n ^^^ 2 ^ wV f else n
theorem sgB_low {f : Int} {n : Nat} (hn : n < 2 ^ wV f) (neg : Bool) : sgB f n neg = n + (if neg then 2 ^ wV f else 0) := by
  unfold sgB
  cases neg
  · rfl
  · rw [if_pos rfl, xor_bit, Nat.div_eq_of_lt hn, if_neg (by decide), if_pos rfl]
def toB (s : Nat) : Nat := if s < 340282366920938463463374607431768211456 then s else 0
def plN (f : Int) (u : Nat) : Nat := u * 2 ^ pV f % (if f = 3 then 340282366920938463463374607431768211456 else 18446744073709551616)
def u64w (x : Int) : Nat := (x % 18446744073709551616).toNat
def fb (f : Int) (s : Nat) (x : Int) : Nat := (plN f (u64w (x - lx f)) + toB s) % 340282366920938463463374607431768211456
theorem fb_is {f : Int} (h : Is4 f) (k s : Nat) (hk : k ≤ oV f) (hs : k * 2 ^ pV f + s < 2 ^ wV f) : fb f s (lx f + k) = k * 2 ^ pV f + s := by
  obtain ⟨f1, f2, f3, f4, f5, f6, f7⟩ := fm h
  have e1 : u64w (lx f + k - lx f) = k := by
    unfold u64w
    rw [show lx f + (k : Int) - lx f = k by omega]
    omega
  have e2 : toB s = s := by unfold toB; rw [if_pos (by omega)]
  have e3 : plN f k = k * 2 ^ pV f := by
    unfold plN
    refine Nat.mod_eq_of_lt ?_
    have h2 : k * 2 ^ pV f < 2 ^ wV f := by omega
    have h3 : 2 ^ wV f ≤ (if f = 3 then 340282366920938463463374607431768211456 else 18446744073709551616) := by
      rcases h with rfl | rfl | rfl | rfl <;> decide +kernel
    omega
  unfold fb
  rw [e1, e2, e3, Nat.mod_eq_of_lt (by omega)]
theorem cell7t {w : World} {g : Nat} {T : TypeId} {a b : Value} (R : w.heap[g]? = some (.cells #[a, b] T)) : w.cell? ⟨g, 0, none⟩ = some a ∧ w.cell? ⟨g, 1, none⟩ = some b := ⟨cell7 R 0 _ rfl, cell7 R 1 _ rfl⟩
theorem kopn1 (w : World) (o : Obj) : (w.alloc o).heap[w.heap.size]? = some o ∧ Below w.heap.size w (w.alloc o) := ⟨heap_alloc_last _ _, (Below.refl _ _).alloc (Nat.le_refl _) _⟩
theorem kopn2 (w : World) (o1 o2 : Obj) : ((w.alloc o1).alloc o2).heap[w.heap.size]? = some o1 ∧ ((w.alloc o1).alloc o2).heap[w.heap.size + 1]? = some o2 ∧ Below w.heap.size w ((w.alloc o1).alloc o2) := by
  obtain ⟨r0, b⟩ := kopn1 w o1
  have z : (w.alloc o1).heap.size = w.heap.size + 1 := by simp only [size_al]
  exact ⟨by rw [heap_below _ _ _ (by omega)]; exact r0, by rw [← z]; exact heap_alloc_last _ _, b.alloc (by omega) _⟩
theorem k_from (x y pl : Nat) (v : Int) (hv : bits .or .u64 ((y : Int) / 2 ^ min pl 64) ((x : Int) / 2 ^ min (IntKind.u64.wrap ((pl : Int) - 64)).toNat 64) = v) (w : World) :
    Calls Tryd.prog 78 #[.agg #[.int .u64 (x : Nat), .int .u64 (y : Nat)], .int .u64 (pl : Nat)] w fun e w' => e = .returned (.int .u64 v) ∧ Below w.heap.size w w' := by
  subst hv
  go_enter Tryd.func78, Tryd.ntmps78
  go_wp2
  go_ret
  exact ⟨rfl, bal7 _ _⟩

theorem kb_width (f v : Int) (h0 : 0 ≤ f) (h1 : f ≤ 255) (hv : fW f = v) (w : World) (hT : FAt w) :
    Calls Tryd.prog 55 #[.int .u8 f] w fun e w' => e = .returned (.int .i64 v) ∧ Below w.heap.size w w' :=
  (s_width f v h0 h1 hv w hT).mono fun _ _ h => ⟨h.1, by rw [h.2]; exact bal7 _ _⟩
theorem kb_precision (f v : Int) (h0 : 0 ≤ f) (h1 : f ≤ 255) (hv : fP f = v) (w : World) (hT : FAt w) :
    Calls Tryd.prog 60 #[.int .u8 f] w fun e w' => e = .returned (.int .i64 v) ∧ Below w.heap.size w w' :=
  (s_precision f v h0 h1 hv w hT).mono fun _ _ h => ⟨h.1, by rw [h.2]; exact bal7 _ _⟩
end Go.Proofs.YtlpelcfaakfmiaaDoor
namespace Go.Proofs.YtlpelcfaakfmiaaDoor
set_option maxRecDepth 100000
set_option maxHeartbeats 40000000
set_option maxRecDepth 100000
open Go.RowKit WMath
set_option linter.unusedSimpArgs false
set_option linter.unusedVariables false
def frm (n pl : Nat) : Nat := if pl < 64 then n % 18446744073709551616 / 2 ^ pl else n / 2 ^ pl
theorem or0 (a : Nat) (h : a < 18446744073709551616) : bits .or .u64 (a : Int) 0 = (a : Int) := by
  have := bits_or_u64_nat a 0 h (by decide)
  simpa using this
theorem or1 (a : Nat) (h : a < 18446744073709551616) : bits .or .u64 0 (a : Int) = (a : Int) := by
  have := bits_or_u64_nat 0 a (by decide) h
  simpa using this
theorem pow64 (k : Nat) : ((2 : Int) ^ k) = ((2 ^ k : Nat) : Int) := by norm_cast
theorem from_is (x y n pl : Nat) (hx : x < 18446744073709551616) (hy : y < 18446744073709551616) (hn : y + 18446744073709551616 * x = n) (hp : pl < 128) :
    bits .or .u64 ((y : Int) / 2 ^ min pl 64) ((x : Int) / 2 ^ min (IntKind.u64.wrap ((pl : Int) - 64)).toNat 64) = (frm n pl : Int) := by
  unfold frm
  rw [IntKind.wrap_u64]
  by_cases h : pl < 64
  · have e1 : min (((pl : Int) - 64) % 18446744073709551616).toNat 64 = 64 := by omega
    have e2 : min pl 64 = pl := by omega
    have e3 : ((x : Int) / 2 ^ 64) = 0 := by
      rw [show ((2 : Int) ^ 64) = 18446744073709551616 by decide]; omega
    have e4 : n % 18446744073709551616 = y := by omega
    rw [e1, e2, e3, if_pos h, e4, pow64, ← Int.natCast_ediv]
    exact or0 _ (Nat.lt_of_le_of_lt (Nat.div_le_self _ _) hy)
  · have e1 : min (((pl : Int) - 64) % 18446744073709551616).toNat 64 = pl - 64 := by omega
    have e2 : min pl 64 = 64 := by omega
    have e3 : ((y : Int) / 2 ^ 64) = 0 := by
      rw [show ((2 : Int) ^ 64) = 18446744073709551616 by decide]; omega
    have e4 : n / 2 ^ pl = x / 2 ^ (pl - 64) := by
      rw [show (2 : Nat) ^ pl = 18446744073709551616 * 2 ^ (pl - 64) by rw [show (18446744073709551616 : Nat) = 2 ^ 64 by decide, ← Nat.pow_add]; congr 1; omega, ← Nat.div_div_eq_div_mul]
      congr 1; omega
    rw [e1, e2, e3, if_neg h, e4, pow64, ← Int.natCast_ediv]
    exact or1 _ (Nat.lt_of_le_of_lt (Nat.div_le_self _ _) hx)
theorem kfrom_is (x y n pl v : Nat) (hx : x < 18446744073709551616) (hy : y < 18446744073709551616) (hn : y + 18446744073709551616 * x = n) (hp : pl < 128) (hv : frm n pl = v) (w : World) : Calls Tryd.prog 78 #[.agg #[.int .u64 (x : Nat), .int .u64 (y : Nat)], .int .u64 (pl : Nat)] w fun r w' => r = .returned (.int .u64 (v : Nat)) ∧ Below w.heap.size w w' := by
  subst hv
  exact k_from x y pl _ (from_is x y n pl hx hy hn hp) w

theorem and_one (a : Nat) (h : a < 18446744073709551616) : bits .and .u64 (a : Int) 1 = ((a % 2 : Nat) : Int) := and_mask a 1 h (by decide)
theorem frm_lt (n pl : Nat) (hn : n < 340282366920938463463374607431768211456) : frm n pl < 18446744073709551616 := by
  unfold frm
  split
  · exact Nat.lt_of_le_of_lt (Nat.div_le_self _ _) (Nat.mod_lt _ (by decide))
  · rename_i h
    have : (2 : Nat) ^ 64 ≤ 2 ^ pl := Nat.pow_le_pow_right (by decide) (by omega)
    rw [Nat.div_lt_iff_lt_mul (Nat.two_pow_pos _)]
    rw [show (2 : Nat) ^ 64 = 18446744073709551616 by decide] at this
    have h2 := Nat.mul_le_mul_left 18446744073709551616 this
    omega
theorem kbit_is (x y n pl : Nat) (o : Bool) (hx : x < 18446744073709551616) (hy : y < 18446744073709551616) (hn : y + 18446744073709551616 * x = n) (hp : pl < 128) (ho : decide (frm n pl % 2 = 1) = o) (w : World) : Calls Tryd.prog 65 #[.agg #[.int .u64 (x : Nat), .int .u64 (y : Nat)], .int .u64 (pl : Nat)] w fun r w' => r = .returned (.bool o) ∧ Below w.heap.size w w' := by
  obtain ⟨v, hv⟩ : ∃ v, frm n pl = v := ⟨_, rfl⟩
  rw [hv] at ho
  have KF := box (kfrom_is x y n pl v hx hy hn hp hv)
  have vl := frm_lt n pl (by omega)
  rw [hv] at vl
  have ha := and_one v vl
  have hd : (((v % 2 : Nat) : Int) == 1) = o := by rw [← ho]; by_cases h : v % 2 = 1 <;> simp [h] <;> omega
  obtain ⟨u, hu⟩ : ∃ u, v % 2 = u := ⟨_, rfl⟩
  rw [hu] at ha hd
  clear ho hv hn hx hy hp hu vl
  obtain ⟨Rb_0, B0⟩ := kopn1 w (Obj.cells #[.int .u64 (x : Nat), .int .u64 (y : Nat)] 26)
  go_enter Tryd.func65, Tryd.ntmps65
  go_wp2_with fail
  refine (KF.out _).mono ?_
  rintro r w1 ⟨rfl, b1⟩
  have B1 : Below w.heap.size w w1 := btr7 B0 b1
  have Rb_1 := heap_of b1 _ _ _ Rb_0
  clear b1 B0 Rb_0
  obtain ⟨cb_1_0, cb_1_1⟩ := cell7t Rb_1
  go_wp2
  go_ret
  exact ⟨rfl, B1⟩

theorem pV_lim {f : Int} (h : Is4 f) : fP f - 1 = (pV f : Int) ∧ IntKind.i64.wrap (fP f - 1) = (pV f : Int) ∧ IntKind.u64.wrap ((pV f : Nat) : Int) = (pV f : Int) ∧ pV f < 128 ∧ wV f < 128 ∧ fW f - 1 = (wV f : Int) ∧ IntKind.i64.wrap (fW f - 1) = (wV f : Int) ∧ IntKind.u64.wrap ((wV f : Nat) : Int) = (wV f : Int) := by
  rcases h with rfl | rfl | rfl | rfl <;> decide +kernel

theorem kfw (f : Int) (hf : Is4 f) (p : Nat) (hp : pV f = p) (w : World) (hT : FAt w) : Calls Tryd.prog 71 #[.int .u8 f] w fun r w' => r = .returned (.int .u64 (p : Nat)) ∧ Below w.heap.size w w' := by
  subst hp
  have f4 := is4_ok hf
  obtain ⟨_, a2, a3, _⟩ := pV_lim hf
  obtain ⟨P, hP⟩ : ∃ P, fP f = P := ⟨_, rfl⟩
  rw [hP] at a2
  obtain ⟨p, hp⟩ : ∃ p, pV f = p := ⟨_, rfl⟩
  rw [hp] at a2 a3 ⊢
  have TT := box hT
  have HP := box hP
  clear hT hf hp hP
  have B0 : Below w.heap.size w w := (Below.refl _ _)
  go_enter Tryd.func71, Tryd.ntmps71
  go_wp2_with fail
  refine ((kb_precision f P f4.1 f4.2.1 HP.out _ (fatB TT.out B0))).mono ?_
  rintro r w1 ⟨rfl, b1⟩
  have B1 : Below w.heap.size w w1 := btr7 B0 b1
  clear b1 B0 
  go_wp2
  go_ret
  exact ⟨rfl, B1⟩

theorem field_of {f : Int} (h : Is4 f) (n : Nat) : frm n (pV f) % (oV f + 1) = kE f n := by
  unfold frm kE
  rcases h with rfl | rfl | rfl | rfl
  all_goals
    simp only [show pV 0 = 23 by decide, show wV 0 = 31 by decide, show oV 0 = 255 by decide, show pV 1 = 52 by decide, show wV 1 = 63 by decide, show oV 1 = 2047 by decide, show pV 2 = 10 by decide, show wV 2 = 15 by decide, show oV 2 = 31 by decide, show pV 3 = 112 by decide, show wV 3 = 127 by decide, show oV 3 = 32767 by decide]
    simp only [Nat.reducePow, Nat.reduceAdd, Nat.reduceLT, if_true, if_false]
    try omega
theorem sign_of {f : Int} (h : Is4 f) (n : Nat) : decide (frm n (wV f) % 2 = 1) = kN f n := by
  unfold frm kN
  rcases h with rfl | rfl | rfl | rfl
  all_goals
    simp only [show wV 0 = 31 by decide, show wV 1 = 63 by decide, show wV 2 = 15 by decide, show wV 3 = 127 by decide]
    simp only [Nat.reducePow, Nat.reduceAdd, Nat.reduceLT, if_true, if_false, decide_eq_decide]
    try omega
theorem quiet_of {f : Int} (h : Is4 f) (t : Nat) (ht : t < 2 ^ pV f) : decide (frm t (pV f - 1) % 2 = 1) = decide (2 ^ (pV f - 1) ≤ t) := by
  unfold frm
  rcases h with rfl | rfl | rfl | rfl
  all_goals
    simp only [show pV 0 = 23 by decide, show pV 1 = 52 by decide, show pV 2 = 10 by decide, show pV 3 = 112 by decide] at ht ⊢
    simp only [Nat.reducePow, Nat.reduceAdd, Nat.reduceSub, Nat.reduceLT, if_true, if_false, decide_eq_decide] at ht ⊢
    omega
theorem top_mask {f : Int} (h : Is4 f) : IntKind.i64.wrap (fW f - fP f) = fW f - fP f ∧ 0 ≤ fW f - fP f ∧ IntKind.u64.wrap (IntKind.u64.wrap (2 ^ min (fW f - fP f).toNat 64) - 1) = (oV f : Int) ∧ oV f = 2 ^ (fW f - fP f).toNat - 1 ∧ (fW f - fP f).toNat ≤ 64 := by
  rcases h with rfl | rfl | rfl | rfl <;> decide +kernel
set_option maxHeartbeats 1000000 in
theorem kfield_is (f : Int) (hf : Is4 f) (x y n e : Nat) (hx : x < 18446744073709551616) (hy : y < 18446744073709551616) (hn : y + 18446744073709551616 * x = n) (he : kE f n = e) (w : World) (hT : FAt w) : Calls Tryd.prog 62 #[.int .u8 f, .agg #[.int .u64 (x : Nat), .int .u64 (y : Nat)]] w fun r w' => r = .returned (.int .u64 (e : Nat)) ∧ Below w.heap.size w w' := by
  have f4 := is4_ok hf
  obtain ⟨_, _, _, a4, _⟩ := pV_lim hf
  obtain ⟨t1, t2, t3, t4, t5⟩ := top_mask hf
  obtain ⟨v, hv⟩ : ∃ v, frm n (pV f) = v := ⟨_, rfl⟩
  have KF := box (kfrom_is x y n (pV f) v hx hy hn a4 hv)
  have vl := frm_lt n (pV f) (by omega)
  rw [hv] at vl
  have ha : bits .and .u64 (v : Int) (oV f : Int) = (e : Int) := by
    have := and_mask v (fW f - fP f).toNat vl t5
    rw [← t4] at this
    rw [this, ← he, ← field_of hf, hv, t4]
    have := Nat.two_pow_pos (fW f - fP f).toNat
    rw [Nat.sub_add_cancel this]
  obtain ⟨q, hq⟩ : ∃ q, fW f = q := ⟨_, rfl⟩
  obtain ⟨p, hp⟩ : ∃ q, fP f = q := ⟨_, rfl⟩
  obtain ⟨k, hk⟩ : ∃ q, pV f = q := ⟨_, rfl⟩
  obtain ⟨o, ho⟩ : ∃ q, oV f = q := ⟨_, rfl⟩
  rw [hq, hp] at t1 t2 t3
  rw [ho] at t3 ha
  rw [hk] at KF
  obtain ⟨d, hd⟩ : ∃ d, q - p = d := ⟨_, rfl⟩
  rw [hd] at t2 t3
  have t1' : IntKind.i64.wrap (q - p) = d := t1.trans hd
  obtain ⟨m, rfl⟩ := Int.eq_ofNat_of_zero_le t2
  rw [Int.toNat_natCast] at t3
  have TT := box hT
  have HQ := box hq
  have HP := box hp
  have HK := box hk
  have HF := box hf
  clear hT hf hq hp hk ho hv hn hx hy he vl t1 t2 t4 t5 a4 hd
  obtain ⟨Rb_0, B0⟩ := kopn1 w (Obj.cells #[.int .u64 (x : Nat), .int .u64 (y : Nat)] 26)
  go_enter Tryd.func62, Tryd.ntmps62
  go_wp2_with fail
  refine (kb_width f q f4.1 f4.2.1 HQ.out _ (fatB TT.out B0)).mono ?_
  rintro r w1 ⟨rfl, b1⟩
  have B1 : Below w.heap.size w w1 := btr7 B0 b1
  have Rb_1 := heap_of b1 _ _ _ Rb_0
  clear b1 B0 Rb_0
  obtain ⟨cb_1_0, cb_1_1⟩ := cell7t Rb_1
  go_wp2_with fail
  refine (kb_precision f p f4.1 f4.2.1 HP.out _ (fatB TT.out B1)).mono ?_
  rintro r w2 ⟨rfl, b2⟩
  have B2 : Below w.heap.size w w2 := btr7 B1 b2
  have Rb_2 := heap_of b2 _ _ _ Rb_1
  clear b2 B1 Rb_1 cb_1_0 cb_1_1
  obtain ⟨cb_2_0, cb_2_1⟩ := cell7t Rb_2
  go_wp2_with fail
  obtain ⟨F, hF1, hF2⟩ := below_fun w2
  have fb_0 := fun u => cell7 (heap_of (hF1 u) _ _ _ Rb_2) 0 _ rfl
  have fb_1 := fun u => cell7 (heap_of (hF1 u) _ _ _ Rb_2) 1 _ rfl
  have TF : Box (∀ u, FAt (F u)) := box (fun u => fatB TT.out (btr7 B2 (hF1 u)))
  refine wp_region_below F hF2 (by kernel_rfl) (by kernel_rfl) ?_
  repeat first | go_big_quiet_step (first | (go_at_call 71; exact quietF hF1 hF2 (kfw f HF.out k HK.out _ (TF.out _))) | (go_at_call 78; exact quietF hF1 hF2 (KF.out _)) | fail) | quiet_step (first | (go_at_call 71; exact quietF hF1 hF2 (kfw f HF.out k HK.out _ (TF.out _))) | (go_at_call 78; exact quietF hF1 hF2 (KF.out _)) | fail)
  refine wpQuiet_nil ?_
  rintro _ ⟨uW, rfl⟩
  have B3 := btr7 B2 (hF1 uW)
  have Rb_3 := heap_of (hF1 uW) _ _ _ Rb_2
  obtain ⟨w3, hw⟩ : ∃ V, F uW = V := ⟨_, rfl⟩
  rw [hw] at B3 Rb_3
  try rw [hw]
  clear hw hF1 hF2 B2 fb_0 fb_1 Rb_2 cb_2_0 cb_2_1
  clear TF
  clear F
  obtain ⟨cb_3_0, cb_3_1⟩ := cell7t Rb_3
  go_wp2
  go_ret
  exact ⟨rfl, B3⟩
theorem and_zero (a : Nat) (h : a < 18446744073709551616) : bits .and .u64 (a : Int) 0 = 0 := by
  have := and_mask a 0 h (by decide)
  simpa [Nat.mod_one] using this
theorem and_at (a k : Nat) (m : Int) (v : Nat) (h : a < 18446744073709551616) (hk : k ≤ 64) (hm : ((2 ^ k - 1 : Nat) : Int) = m) (hv : a % 2 ^ k = v) : bits .and .u64 (a : Int) m = (v : Int) := by
  subst hm hv
  exact and_mask a k h hk
set_option maxHeartbeats 1000000 in
theorem kfraction_is (f : Int) (hf : Is4 f) (x y n u v : Nat) (hx : x < 18446744073709551616) (hy : y < 18446744073709551616) (hn : y + 18446744073709551616 * x = n) (hv : bv7 (kT f n) = (u, v)) (w : World) (hT : FAt w) : Calls Tryd.prog 58 #[.int .u8 f, .agg #[.int .u64 (x : Nat), .int .u64 (y : Nat)]] w fun r w' => r = .returned (.agg #[.int .u64 (u : Nat), .int .u64 (v : Nat)]) ∧ Below w.heap.size w w' := by
  unfold bv7 kT at hv
  injection hv with h1 h2
  have TT := box hT
  rcases hf with rfl | rfl | rfl | rfl
  · rw [show pV 0 = 23 by decide] at h1 h2
    have hm : max (23 : Int) 64 = 64 := by decide
    have a1 := and_zero x hx
    have a2 := and_at y 23 8388607 v hy (by decide) (by decide) (by rw [← h2, ← hn]; simp only [Nat.reducePow]; omega)
    have u0 : u = 0 := by rw [← h1]; simp only [Nat.reducePow]; omega
    subst u0
    clear hT h1 h2 hn hx hy
    obtain ⟨Rb_0, Rz_0, B0⟩ := kopn2 w (Obj.cells #[.int .u64 (x : Nat), .int .u64 (y : Nat)] 26) (Obj.cells #[.int .u64 0, .int .u64 0] 26)
    go_enter Tryd.func58, Tryd.ntmps58
    go_wp2_with fail
    refine (kfw 0 (Or.inl rfl) 23 (by decide) _ (fatB TT.out B0)).mono ?_
    rintro r w1 ⟨rfl, b1⟩
    have B1 : Below w.heap.size w w1 := btr7 B0 b1
    have Rb_1 := heap_of b1 _ _ _ Rb_0
    have Rz_1 := heap_of b1 _ _ _ Rz_0
    clear b1 B0 Rb_0 Rz_0
    obtain ⟨cb_1_0, cb_1_1⟩ := cell7t Rb_1
    obtain ⟨cz_1_0, cz_1_1⟩ := cell7t Rz_1
    have q0 := fz (k := 0) Rz_1
    have q1 := fz (k := 1) Rz_1
    obtain ⟨E0, E1⟩ := set2_cells Rz_1 (.int .u64 0) (.int .u64 (v : Nat))
    go_wp2
    exact bodyPost_ret (v := .agg #[.int .u64 0, .int .u64 (v : Nat)]) (by simp [results, Tryd.results58, go_sem, E0, E1]) rfl ⟨rfl, set2_below B1 (by first | exact Nat.le_refl _ | omega | (skip; omega)) _ _⟩
  · rw [show pV 1 = 52 by decide] at h1 h2
    have hm : max (52 : Int) 64 = 64 := by decide
    have a1 := and_zero x hx
    have a2 := and_at y 52 4503599627370495 v hy (by decide) (by decide) (by rw [← h2, ← hn]; simp only [Nat.reducePow]; omega)
    have u0 : u = 0 := by rw [← h1]; simp only [Nat.reducePow]; omega
    subst u0
    clear hT h1 h2 hn hx hy
    obtain ⟨Rb_0, Rz_0, B0⟩ := kopn2 w (Obj.cells #[.int .u64 (x : Nat), .int .u64 (y : Nat)] 26) (Obj.cells #[.int .u64 0, .int .u64 0] 26)
    go_enter Tryd.func58, Tryd.ntmps58
    go_wp2_with fail
    refine (kfw 1 (Or.inr (Or.inl rfl)) 52 (by decide) _ (fatB TT.out B0)).mono ?_
    rintro r w1 ⟨rfl, b1⟩
    have B1 : Below w.heap.size w w1 := btr7 B0 b1
    have Rb_1 := heap_of b1 _ _ _ Rb_0
    have Rz_1 := heap_of b1 _ _ _ Rz_0
    clear b1 B0 Rb_0 Rz_0
    obtain ⟨cb_1_0, cb_1_1⟩ := cell7t Rb_1
    obtain ⟨cz_1_0, cz_1_1⟩ := cell7t Rz_1
    have q0 := fz (k := 0) Rz_1
    have q1 := fz (k := 1) Rz_1
    obtain ⟨E0, E1⟩ := set2_cells Rz_1 (.int .u64 0) (.int .u64 (v : Nat))
    go_wp2
    exact bodyPost_ret (v := .agg #[.int .u64 0, .int .u64 (v : Nat)]) (by simp [results, Tryd.results58, go_sem, E0, E1]) rfl ⟨rfl, set2_below B1 (by first | exact Nat.le_refl _ | omega | (skip; omega)) _ _⟩
  · rw [show pV 2 = 10 by decide] at h1 h2
    have hm : max (10 : Int) 64 = 64 := by decide
    have a1 := and_zero x hx
    have a2 := and_at y 10 1023 v hy (by decide) (by decide) (by rw [← h2, ← hn]; simp only [Nat.reducePow]; omega)
    have u0 : u = 0 := by rw [← h1]; simp only [Nat.reducePow]; omega
    subst u0
    clear hT h1 h2 hn hx hy
    obtain ⟨Rb_0, Rz_0, B0⟩ := kopn2 w (Obj.cells #[.int .u64 (x : Nat), .int .u64 (y : Nat)] 26) (Obj.cells #[.int .u64 0, .int .u64 0] 26)
    go_enter Tryd.func58, Tryd.ntmps58
    go_wp2_with fail
    refine (kfw 2 (Or.inr (Or.inr (Or.inl rfl))) 10 (by decide) _ (fatB TT.out B0)).mono ?_
    rintro r w1 ⟨rfl, b1⟩
    have B1 : Below w.heap.size w w1 := btr7 B0 b1
    have Rb_1 := heap_of b1 _ _ _ Rb_0
    have Rz_1 := heap_of b1 _ _ _ Rz_0
    clear b1 B0 Rb_0 Rz_0
    obtain ⟨cb_1_0, cb_1_1⟩ := cell7t Rb_1
    obtain ⟨cz_1_0, cz_1_1⟩ := cell7t Rz_1
    have q0 := fz (k := 0) Rz_1
    have q1 := fz (k := 1) Rz_1
    obtain ⟨E0, E1⟩ := set2_cells Rz_1 (.int .u64 0) (.int .u64 (v : Nat))
    go_wp2
    exact bodyPost_ret (v := .agg #[.int .u64 0, .int .u64 (v : Nat)]) (by simp [results, Tryd.results58, go_sem, E0, E1]) rfl ⟨rfl, set2_below B1 (by first | exact Nat.le_refl _ | omega | (skip; omega)) _ _⟩
  · rw [show pV 3 = 112 by decide] at h1 h2
    have hm : max (112 : Int) 64 = 112 := by decide
    have hm2 : IntKind.u64.wrap (IntKind.u64.wrap 18446744073709551616 - 1) = 18446744073709551615 := by decide
    have a1 := and_at x 48 281474976710655 u hx (by decide) (by decide) (by rw [← h1, ← hn]; simp only [Nat.reducePow]; omega)
    have a2 := and_at y 64 18446744073709551615 v hy (by decide) (by decide) (by rw [← h2, ← hn]; simp only [Nat.reducePow]; omega)
    clear hT h1 h2 hn hx hy
    obtain ⟨Rb_0, Rz_0, B0⟩ := kopn2 w (Obj.cells #[.int .u64 (x : Nat), .int .u64 (y : Nat)] 26) (Obj.cells #[.int .u64 0, .int .u64 0] 26)
    go_enter Tryd.func58, Tryd.ntmps58
    go_wp2_with fail
    refine (kfw 3 (Or.inr (Or.inr (Or.inr rfl))) 112 (by decide) _ (fatB TT.out B0)).mono ?_
    rintro r w1 ⟨rfl, b1⟩
    have B1 : Below w.heap.size w w1 := btr7 B0 b1
    have Rb_1 := heap_of b1 _ _ _ Rb_0
    have Rz_1 := heap_of b1 _ _ _ Rz_0
    clear b1 B0 Rb_0 Rz_0
    obtain ⟨cb_1_0, cb_1_1⟩ := cell7t Rb_1
    obtain ⟨cz_1_0, cz_1_1⟩ := cell7t Rz_1
    have q0 := fz (k := 0) Rz_1
    have q1 := fz (k := 1) Rz_1
    obtain ⟨E0, E1⟩ := set2_cells Rz_1 (.int .u64 (u : Nat)) (.int .u64 (v : Nat))
    go_wp2
    exact bodyPost_ret (v := .agg #[.int .u64 (u : Nat), .int .u64 (v : Nat)]) (by simp [results, Tryd.results58, go_sem, E0, E1]) rfl ⟨rfl, set2_below B1 (by first | exact Nat.le_refl _ | omega | (skip; omega)) _ _⟩

theorem ksign_is (f : Int) (hf : Is4 f) (x y n : Nat) (o : Bool) (hx : x < 18446744073709551616) (hy : y < 18446744073709551616) (hn : y + 18446744073709551616 * x = n) (ho : kN f n = o) (w : World) (hT : FAt w) : Calls Tryd.prog 32 #[.int .u8 f, .agg #[.int .u64 (x : Nat), .int .u64 (y : Nat)]] w fun r w' => r = .returned (.bool o) ∧ Below w.heap.size w w' := by
  have f4 := is4_ok hf
  obtain ⟨_, _, _, _, a5, a6, a7, a8⟩ := pV_lim hf
  have KB := box (kbit_is x y n (wV f) o hx hy hn a5 (by rw [sign_of hf, ho]))
  obtain ⟨q, hq⟩ : ∃ q, fW f = q := ⟨_, rfl⟩
  obtain ⟨k, hk⟩ : ∃ q, wV f = q := ⟨_, rfl⟩
  rw [hq, hk] at a7
  rw [hk] at KB a8
  have TT := box hT
  have HQ := box hq
  clear hT hf hq hk hn hx hy ho a5 a6
  obtain ⟨Rb_0, B0⟩ := kopn1 w (Obj.cells #[.int .u64 (x : Nat), .int .u64 (y : Nat)] 26)
  go_enter Tryd.func32, Tryd.ntmps32
  go_wp2_with fail
  obtain ⟨F, hF1, hF2⟩ := below_fun (w.alloc (Obj.cells #[.int .u64 (x : Nat), .int .u64 (y : Nat)] 26))
  have fb_0 := fun u => cell7 (heap_of (hF1 u) _ _ _ Rb_0) 0 _ rfl
  have fb_1 := fun u => cell7 (heap_of (hF1 u) _ _ _ Rb_0) 1 _ rfl
  have TF : Box (∀ u, FAt (F u)) := box (fun u => fatB TT.out (btr7 B0 (hF1 u)))
  refine wp_region_below F hF2 (by kernel_rfl) (by kernel_rfl) ?_
  repeat first | go_big_quiet_step (first | (go_at_call 55; exact quietF hF1 hF2 (kb_width f q f4.1 f4.2.1 HQ.out _ (TF.out _))) | (go_at_call 65; exact quietF hF1 hF2 (KB.out _)) | fail) | quiet_step (first | (go_at_call 55; exact quietF hF1 hF2 (kb_width f q f4.1 f4.2.1 HQ.out _ (TF.out _))) | (go_at_call 65; exact quietF hF1 hF2 (KB.out _)) | fail)
  refine wpQuiet_nil ?_
  rintro _ ⟨uW, rfl⟩
  have B1 := btr7 B0 (hF1 uW)
  have Rb_1 := heap_of (hF1 uW) _ _ _ Rb_0
  obtain ⟨w1, hw⟩ : ∃ V, F uW = V := ⟨_, rfl⟩
  rw [hw] at B1 Rb_1
  try rw [hw]
  clear hw hF1 hF2 B0 fb_0 fb_1 Rb_0
  clear TF
  clear F
  obtain ⟨cb_1_0, cb_1_1⟩ := cell7t Rb_1
  go_wp2
  go_ret
  exact ⟨rfl, B1⟩

theorem lx_lim {f : Int} (h : Is4 f) : IntKind.i64.wrap (1 - fE f - fP f) = 1 - fE f - fP f ∧ IntKind.i64.wrap (1 - fE f - fP f + 1) = lx f ∧ lx f ≤ 0 ∧ -16494 ≤ lx f ∧ lx f = 1 - fE f - fP f + 1 := by
  rcases h with rfl | rfl | rfl | rfl <;> decide +kernel
theorem kleast_is (f : Int) (hf : Is4 f) (v : Int) (hv : lx f = v) (w : World) (hT : FAt w) : Calls Tryd.prog 59 #[.int .u8 f] w fun r w' => r = .returned (.int .i64 v) ∧ Below w.heap.size w w' := by
  have f4 := is4_ok hf
  obtain ⟨a1, a2, _⟩ := lx_lim hf
  rw [hv] at a2
  obtain ⟨p, hp⟩ : ∃ q, fP f = q := ⟨_, rfl⟩
  obtain ⟨m, hm⟩ : ∃ q, 1 - fE f = q := ⟨_, rfl⟩
  rw [hm, hp] at a1 a2
  have TT := box hT
  have HP := box hp
  have HM := box hm
  clear hT hf hv hp hm
  have B0 : Below w.heap.size w w := (Below.refl _ _)
  go_enter Tryd.func59, Tryd.ntmps59
  go_wp2_with fail
  refine (s_emin f _ m f4.1 f4.2.1 rfl (by rw [if_pos f4.2.2.1]; exact HM.out) _ (fatB TT.out B0)).mono ?_
  rintro r w1 ⟨rfl, b1⟩
  have B1 : Below w.heap.size w w1 := btr7 B0 b1
  clear b1 B0 
  go_wp2_with fail
  refine (kb_precision f p f4.1 f4.2.1 HP.out _ (fatB TT.out B1)).mono ?_
  rintro r w2 ⟨rfl, b2⟩
  have B2 : Below w.heap.size w w2 := btr7 B1 b2
  clear b2 B1 
  go_wp2
  go_ret
  exact ⟨rfl, B2⟩
end Go.Proofs.YtlpelcfaakfmiaaDoor
