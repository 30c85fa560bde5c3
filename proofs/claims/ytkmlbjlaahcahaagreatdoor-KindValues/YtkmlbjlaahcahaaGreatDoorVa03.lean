/-
  What the functions that the statement reaches return: part 3 (Wide12, S1, SL, Pop, Rlow, Bits1, VL, K1, S2, S3, Wide3, Wide4, Quot1, Quot2).
-/
import Derived.RegionTactic
import Derived.Test.YtkmlbjlaahcahaaGreatDoorRows
import Derived.OpenShut
import Derived.LaidMore
import Derived.Lib.LaidTab
import Derived.Stop.Joined
import Derived.Lib.BitFns
import Derived.Lib.TrailingZeros
import Derived.Stop.LaidErr
import Derived.Deep.RegionWith
import Derived.Test.YtkmlbjlaahcahaaGreatDoorVa02
namespace Go.Proofs.YtkmlbjlaahcahaaGreatDoor
set_option maxRecDepth 100000
open Go.RowKit WMath

set_option maxHeartbeats 1000000 in
theorem rwand_is (n m v : Nat) (hn : n < Q) (hv : n &&& m = v) (w : World) :
    Calls Tryz.prog 68 #[.agg (cw 6 n), .agg (cw 6 m)] w fun e w' => e = .returned (.agg (cw 6 v)) ∧ Below w.heap.size w w' := by
  have HV := box hv
  clear hv
  have hat := cw_at 6
  have hz := cw6z
  have hf := cw6f
  go_enter Tryz.func68, Tryz.ntmps68
  go_wp2
  go_loopw [5] (fun i wr => ∃ (k X : Nat), k ≤ 6 ∧ i = .int .i64 k ∧ wr.heap[w.heap.size]? = some (.cells (cw 6 X) 53) ∧ wr.heap[w.heap.size + 1]? = some (.cells (cw 6 m) 53) ∧ wr.heap[w.heap.size + 1 + 1]? = some (.cells (cw 6 0) 53) ∧ Below w.heap.size w wr ∧ Box (Part X n k fun j => wd n j &&& wd m j)) (fun i _ => 6 - (intOf i).toNat)
  case atStart =>
    refine ⟨0, n, by omega, rfl, ?_, ?_, ?_, ?_, box (part_start n _ hn)⟩
    · rw [heap_below _ _ _ (by simp only [size_al]; omega), heap_below _ _ _ (by simp only [size_al]; omega)]
      exact heap_alloc_last _ _
    · rw [heap_below _ _ _ (by simp only [size_al]; omega)]
      have := heap_alloc_last (w.alloc (.cells (cw 6 n) 53)) (.cells (cw 6 m) 53)
      simpa only [size_al] using this
    · have := heap_alloc_last ((w.alloc (.cells (cw 6 n) 53)).alloc (.cells (cw 6 m) 53)) (.cells (cw 6 0) 53)
      simpa only [size_al] using this
    · exact (((Below.refl _ _).alloc (Nat.le_refl _) _).alloc (by simp only [size_al]; omega) _).alloc (by simp only [size_al]; omega) _
  case round =>
    obtain ⟨k, X, hk, rfl, r0, r1, r2, hbw, HE⟩ := hrel
    by_cases hlt : k < 6
    · have hki : (k : Int) < 6 := by omega
      have hw := part_wd HE.out hlt
      have ho := bits_and_u64_nat (wd n k) (wd m k) (wd_lt _ _) (wd_lt _ _)
      have hb : wd n k &&& wd m k < 18446744073709551616 := Nat.lt_of_le_of_lt Nat.and_le_left (wd_lt n k)
      have c0 := row_cell r0 k hlt
      rw [hw] at c0
      have c1 := row_cell r1 k hlt
      have f0 := fz (k := k) r0
      have PS := box (part_step HE.out hlt _ hb rfl)
      have RS : Box ((wr.setCell ⟨w.heap.size, k, none⟩ (.int .u64 ((wd n k &&& wd m k : Nat) : Int))).heap[w.heap.size]? = some (.cells (cw 6 (setw X k (wd n k &&& wd m k))) 53)) := box (by rw [setCell_row r0, cw_seti 6 X k _ _ hlt hb rfl])
      clear hw
      go_wp2
      go_region
      all_goals go_wp2
      all_goals go_roundw
      all_goals first | (show (_ : Nat) < _; simp [intOf]; omega) | exact ⟨k + 1, _, by omega, by go_num, RS.out, (setCell_other (w := wr) (by omega)).trans r1, (setCell_other (w := wr) (by omega)).trans r2, (hbw.setCell (by show w.heap.size ≤ w.heap.size; omega) _).drew, PS⟩
    · have e := part_end HE.out (by omega) (n &&& m) (and_ltQ n m hn) (fun j hj => wd_and n m j)
      rw [HV.out] at e
      subst e
      have c0 := row_cell r0
      have hst := st_any wr _ X 0 r2
      have z2 : (wr.setRow (w.heap.size + 1 + 1) (cw 6 X)).heap[w.heap.size + 1 + 1]? = some (.cells (cw 6 X) 53) := setRow_row r2
      have c3 := row_cell z2
      go_wp2
      exact bodyPost_ret (v := .agg (cw 6 X)) (by simp [results, Tryz.results68, go_sem, c3, hf]) rfl ⟨rfl, Below.setRow hbw (by omega)⟩
set_option maxRecDepth 100000 in
set_option maxHeartbeats 1000000 in
theorem rwmask_is (s : Int) (v : Nat) (hv : 2 ^ cnt6 s - 1 = v) (w : World) :
    Calls Tryz.prog 69 #[.int .i64 s] w fun e w' => e = .returned (.agg (cw 6 v)) ∧ Below w.heap.size w w' := by
  obtain ⟨c, hc⟩ : ∃ c, c = cnt6 s := ⟨_, rfl⟩
  have hc6 : c ≤ 384 := by rw [hc]; unfold cnt6; omega
  rw [← hc] at hv
  have HV := box hv
  have HC := box hc
  clear hv hc
  have hat := cw_at 6
  have hz := cw6z
  have hf := cw6f
  have hs1 := st1
  go_enter Tryz.func69, Tryz.ntmps69
  go_wp2_with fail
  refine (rwcount_any _ _).mono ?_
  rw [← HC.out]
  rintro e w' ⟨rfl, rfl⟩
  go_wp2
  go_loopw [4] (fun iv wr => ∃ (i X : Nat), i ≤ c ∧ iv = .int .i64 i ∧ wr = (w.alloc (.cells (cw 6 0) 53)).alloc (.cells (cw 6 X) 53) ∧ Box (X = 2 ^ i - 1)) (fun iv _ => c - (intOf iv).toNat)
  case atStart => exact ⟨0, 0, by omega, rfl, rfl, box rfl⟩
  case round =>
    obtain ⟨i, X, hi, rfl, rfl, HE⟩ := hrel
    by_cases hlt : i < c
    · obtain ⟨q, hq⟩ : ∃ q, q = i / 64 := ⟨_, rfl⟩
      obtain ⟨r, hr⟩ : ∃ r, r = i % 64 := ⟨_, rfl⟩
      have t2 : (i : Int) / 64 = (q : Int) := by omega
      have t3 : (i : Int) % 64 = (r : Int) := by omega
      have t4 : q < 6 := by omega
      have t5 : r < 64 := by omega
      obtain ⟨x, hx⟩ : ∃ x, x = 2 ^ r := ⟨_, rfl⟩
      have x1 : x < 18446744073709551616 := by rw [hx]; exact v_word r t5
      have x2 : IntKind.u64.wrap ((2 : Int) ^ r) = (x : Int) := by rw [pow_cast, wrap_nat _ (v_word r t5), hx]
      have x3 := bor X q x x1
      obtain ⟨X2, hX2⟩ : ∃ X2, X2 = X ||| x * 2 ^ (64 * q) := ⟨_, rfl⟩
      have x4 := cw_or 6 X q x X2 t4 x1 hX2
      have EX : Box (X2 = 2 ^ (i + 1) - 1) := box (by rw [hX2, hx, HE.out]; exact mask_or i q r (by omega))
      clear hX2 hx hq hr
      go_wp2
      go_roundw
      case rel => exact ⟨i + 1, X2, by omega, by go_num, rfl, EX⟩
      case measure => simp [intOf] <;> omega
    · have e := HE.out
      rw [show i = c by omega, HV.out] at e
      subst e
      go_wp2
      exact bodyPost_ret (v := .agg (cw 6 X)) (by simp [results, Tryz.results69, go_sem, hat, hf]) rfl ⟨rfl, ((Below.refl _ _).alloc (Nat.le_refl _) _).alloc (by simp <;> omega) _⟩
end Go.Proofs.YtkmlbjlaahcahaaGreatDoor
namespace Go.Proofs.YtkmlbjlaahcahaaGreatDoor
set_option maxRecDepth 100000
open Go.RowKit WMath

theorem bal7 (w : World) (o : Obj) : Below w.heap.size w (w.alloc o) := (Below.refl _ _).alloc (Nat.le_refl _) _
theorem btr7 {a b c : World} (h : Below a.heap.size a b) (k : Below b.heap.size b c) : Below a.heap.size a c := h.trans (k.mono h.size)

/-- The table of the formats, as it lies in its variable. -/
def fcells : Array Value := #[.int .i64 32, .int .i64 24, .int .i64 127, .string ⟨#[115]⟩, .int .i64 64, .int .i64 53, .int .i64 1023, .string ⟨#[100]⟩, .int .i64 16, .int .i64 11, .int .i64 15, .string ⟨#[104]⟩, .int .i64 128, .int .i64 113, .int .i64 16383, .string ⟨#[113]⟩]
def FAt (w : World) : Prop := ∀ i, i < 16 → w.cell? ⟨0, i, none⟩ = fcells[i]?
theorem fc_some (i : Nat) (h : i < 16) : ∃ v, fcells[i]? = some v := ⟨_, Array.getElem?_eq_getElem (show i < fcells.size from h)⟩
theorem fatB {w w' : World} (h : FAt w) (hb : Below w.heap.size w w') : FAt w' := fun i hi => by
  obtain ⟨v, hv⟩ := fc_some i hi
  rw [hb.cell (p := ⟨0, i, none⟩) (World.block_lt_of_cell? w _ ((h i hi).trans hv))]
  exact h i hi
theorem fat_at {w : World} (h : FAt w) (i : Nat) (v : Value) (hi : i < 16) (hv : fcells[i]? = some v) : w.cell? ⟨0, i, none⟩ = some v := (h i hi).trans hv

theorem fat_al {w : World} (h : FAt w) (o : Obj) : FAt (w.alloc o) := fatB h (bal7 w o)
theorem fat_dr {w : World} (h : FAt w) : FAt w.drew := h

def fW (f : Int) : Int := if f = 0 then 32 else if f = 1 then 64 else if f = 2 then 16 else if f = 3 then 128 else 0
def fP (f : Int) : Int := if f = 0 then 24 else if f = 1 then 53 else if f = 2 then 11 else if f = 3 then 113 else 0
def fE (f : Int) : Int := if f = 0 then 127 else if f = 1 then 1023 else if f = 2 then 15 else if f = 3 then 16383 else 0
def fN (f : Int) : ByteArray := if f = 0 then ⟨#[115]⟩ else if f = 1 then ⟨#[100]⟩ else if f = 2 then ⟨#[104]⟩ else if f = 3 then ⟨#[113]⟩ else ⟨#[]⟩
def fR (f : Int) : Array Value := #[.int .i64 (fW f), .int .i64 (fP f), .int .i64 (fE f), .string (fN f)]
def fC (f : Int) : Int := if f = 0 ∨ f = 1 ∨ f = 2 ∨ f = 3 then 0 else 2

theorem f_cases (f : Int) (h0 : 0 ≤ f) : f = 0 ∨ f = 1 ∨ f = 2 ∨ f = 3 ∨ 4 ≤ f := by omega

theorem s_check (f : Int) (h0 : 0 ≤ f) (h1 : f ≤ 255) (w : World) :
    Calls Tryz.prog 45 #[.int .u8 f] w fun e w' => e = .returned (.int .i64 (fC f)) ∧ w' = w := by
  by_cases h : 4 ≤ f
  · have e : fC f = 2 := by unfold fC; rw [if_neg (by omega)]
    rw [e]
    have hd : decide ((4 : Int) ≤ f) = true := by simp [h]
    go_enter Tryz.func45, Tryz.ntmps45
    go_wp2
    go_ret
    exact ⟨rfl, rfl⟩
  · have e : fC f = 0 := by unfold fC; rw [if_pos (by omega)]
    rw [e]
    have hd : decide ((4 : Int) ≤ f) = false := by simp; omega
    go_enter Tryz.func45, Tryz.ntmps45
    go_wp2
    go_ret
    exact ⟨rfl, rfl⟩

theorem s_check_is (f c : Int) (h0 : 0 ≤ f) (h1 : f ≤ 255) (hc : fC f = c) (w : World) :
    Calls Tryz.prog 45 #[.int .u8 f] w fun e w' => e = .returned (.int .i64 c) ∧ w' = w := by
  subst hc; exact s_check f h0 h1 w

theorem s_of (f : Int) (h0 : 0 ≤ f) (h1 : f ≤ 255) (w : World) (hT : FAt w) :
    Calls Tryz.prog 115 #[.int .u8 f] w fun e w' => e = .returned (.agg #[.int .i64 (fW f), .int .i64 (fP f), .int .i64 (fE f), .string (fN f)]) ∧ w' = w.alloc (.cells (fR f) 147) := by
  have hB := bal7 w (.cells #[.int .i64 0, .int .i64 0, .int .i64 0, .string ⟨#[]⟩] 147)
  have T2 := fatB hT hB
  rcases f_cases f h0 with rfl | rfl | rfl | rfl | h
  · have c0 := fat_at T2 0 (.int .i64 32) (by decide) rfl
    have c1 := fat_at T2 1 (.int .i64 24) (by decide) rfl
    have c2 := fat_at T2 2 (.int .i64 127) (by decide) rfl
    have c3 := fat_at T2 3 (.string ⟨#[115]⟩) (by decide) rfl
    clear T2 hT
    go_enter Tryz.func115, Tryz.ntmps115
    go_wp2_with fail
    refine (s_check_is 0 0 (by omega) (by omega) rfl _).mono ?_
    rintro r w' ⟨rfl, rfl⟩
    go_wp2
    exact bodyPost_ret (v := .agg #[.int .i64 32, .int .i64 24, .int .i64 127, .string ⟨#[115]⟩]) (by simp [results, Tryz.results115, go_sem]) rfl ⟨rfl, rfl⟩
  · have c0 := fat_at T2 4 (.int .i64 64) (by decide) rfl
    have c1 := fat_at T2 5 (.int .i64 53) (by decide) rfl
    have c2 := fat_at T2 6 (.int .i64 1023) (by decide) rfl
    have c3 := fat_at T2 7 (.string ⟨#[100]⟩) (by decide) rfl
    clear T2 hT
    go_enter Tryz.func115, Tryz.ntmps115
    go_wp2_with fail
    refine (s_check_is 1 0 (by omega) (by omega) rfl _).mono ?_
    rintro r w' ⟨rfl, rfl⟩
    go_wp2
    exact bodyPost_ret (v := .agg #[.int .i64 64, .int .i64 53, .int .i64 1023, .string ⟨#[100]⟩]) (by simp [results, Tryz.results115, go_sem]) rfl ⟨rfl, rfl⟩
  · have c0 := fat_at T2 8 (.int .i64 16) (by decide) rfl
    have c1 := fat_at T2 9 (.int .i64 11) (by decide) rfl
    have c2 := fat_at T2 10 (.int .i64 15) (by decide) rfl
    have c3 := fat_at T2 11 (.string ⟨#[104]⟩) (by decide) rfl
    clear T2 hT
    go_enter Tryz.func115, Tryz.ntmps115
    go_wp2_with fail
    refine (s_check_is 2 0 (by omega) (by omega) rfl _).mono ?_
    rintro r w' ⟨rfl, rfl⟩
    go_wp2
    exact bodyPost_ret (v := .agg #[.int .i64 16, .int .i64 11, .int .i64 15, .string ⟨#[104]⟩]) (by simp [results, Tryz.results115, go_sem]) rfl ⟨rfl, rfl⟩
  · have c0 := fat_at T2 12 (.int .i64 128) (by decide) rfl
    have c1 := fat_at T2 13 (.int .i64 113) (by decide) rfl
    have c2 := fat_at T2 14 (.int .i64 16383) (by decide) rfl
    have c3 := fat_at T2 15 (.string ⟨#[113]⟩) (by decide) rfl
    clear T2 hT
    go_enter Tryz.func115, Tryz.ntmps115
    go_wp2_with fail
    refine (s_check_is 3 0 (by omega) (by omega) rfl _).mono ?_
    rintro r w' ⟨rfl, rfl⟩
    go_wp2
    exact bodyPost_ret (v := .agg #[.int .i64 128, .int .i64 113, .int .i64 16383, .string ⟨#[113]⟩]) (by simp [results, Tryz.results115, go_sem]) rfl ⟨rfl, rfl⟩
  · have hd : decide ((4 : Int) ≤ f) = true := by simp [h]
    have e0 : fW f = 0 := by unfold fW; rw [if_neg (by omega), if_neg (by omega), if_neg (by omega), if_neg (by omega)]
    have e1 : fP f = 0 := by unfold fP; rw [if_neg (by omega), if_neg (by omega), if_neg (by omega), if_neg (by omega)]
    have e2 : fE f = 0 := by unfold fE; rw [if_neg (by omega), if_neg (by omega), if_neg (by omega), if_neg (by omega)]
    have e3 : fN f = ⟨#[]⟩ := by unfold fN; rw [if_neg (by omega), if_neg (by omega), if_neg (by omega), if_neg (by omega)]
    have e4 : fC f = 2 := by unfold fC; rw [if_neg (by omega)]
    have e5 : fR f = #[.int .i64 0, .int .i64 0, .int .i64 0, .string ⟨#[]⟩] := by unfold fR; rw [e0, e1, e2, e3]
    rw [e0, e1, e2, e3, e5]
    clear T2 hT e0 e1 e2 e3 e5
    go_enter Tryz.func115, Tryz.ntmps115
    go_wp2_with fail
    refine (s_check_is f 2 (by omega) (by omega) e4 _).mono ?_
    rintro r w' ⟨rfl, rfl⟩
    go_wp2
    exact bodyPost_ret (v := .agg #[.int .i64 0, .int .i64 0, .int .i64 0, .string ⟨#[]⟩]) (by simp [results, Tryz.results115, go_sem]) rfl ⟨rfl, rfl⟩

theorem s_of_is (f w0 p0 m0 : Int) (n0 : ByteArray) (h0 : 0 ≤ f) (h1 : f ≤ 255) (hw : fW f = w0) (hp : fP f = p0) (he : fE f = m0) (hn : fN f = n0) (w : World) (hT : FAt w) :
    Calls Tryz.prog 115 #[.int .u8 f] w fun e w' => e = .returned (.agg #[.int .i64 w0, .int .i64 p0, .int .i64 m0, .string n0]) ∧ w' = w.alloc (.cells (fR f) 147) := by
  subst hw hp he hn
  exact s_of f h0 h1 w hT

theorem fld0 (a b c d : Value) (w : World) : (Instr.field 147 (.agg #[a, b, c, d]) 0).run Tryz.prog w = .ok a w := by kernel_rfl
theorem fld1 (a b c d : Value) (w : World) : (Instr.field 147 (.agg #[a, b, c, d]) 1).run Tryz.prog w = .ok b w := by kernel_rfl
theorem fld2 (a b c d : Value) (w : World) : (Instr.field 147 (.agg #[a, b, c, d]) 2).run Tryz.prog w = .ok c w := by kernel_rfl
theorem s_width (f v : Int) (h0 : 0 ≤ f) (h1 : f ≤ 255) (hv : fW f = v) (w : World) (hT : FAt w) :
    Calls Tryz.prog 98 #[.int .u8 f] w fun e w' => e = .returned (.int .i64 v) ∧ w' = w.alloc (.cells (fR f) 147) := by
  have hl := fld0
  go_enter Tryz.func98, Tryz.ntmps98
  go_wp2_with fail
  refine (s_of_is f v _ _ _ h0 h1 hv rfl rfl rfl _ hT).mono ?_
  rintro r w2 ⟨rfl, rfl⟩
  go_wp2
  go_ret
  exact ⟨rfl, rfl⟩
theorem s_precision (f v : Int) (h0 : 0 ≤ f) (h1 : f ≤ 255) (hv : fP f = v) (w : World) (hT : FAt w) :
    Calls Tryz.prog 51 #[.int .u8 f] w fun e w' => e = .returned (.int .i64 v) ∧ w' = w.alloc (.cells (fR f) 147) := by
  have hl := fld1
  go_enter Tryz.func51, Tryz.ntmps51
  go_wp2_with fail
  refine (s_of_is f _ v _ _ h0 h1 rfl hv rfl rfl _ hT).mono ?_
  rintro r w2 ⟨rfl, rfl⟩
  go_wp2
  go_ret
  exact ⟨rfl, rfl⟩
theorem s_emax (f v : Int) (h0 : 0 ≤ f) (h1 : f ≤ 255) (hv : fE f = v) (w : World) (hT : FAt w) :
    Calls Tryz.prog 49 #[.int .u8 f] w fun e w' => e = .returned (.int .i64 v) ∧ w' = w.alloc (.cells (fR f) 147) := by
  have hl := fld2
  go_enter Tryz.func49, Tryz.ntmps49
  go_wp2_with fail
  refine (s_of_is f _ _ v _ h0 h1 rfl rfl hv rfl _ hT).mono ?_
  rintro r w2 ⟨rfl, rfl⟩
  go_wp2
  go_ret
  exact ⟨rfl, rfl⟩

theorem s_emin (f m v : Int) (h0 : 0 ≤ f) (h1 : f ≤ 255) (hm : fE f = m) (hv : (if fC f = 0 then 1 - m else 0) = v) (w : World) (hT : FAt w) :
    Calls Tryz.prog 50 #[.int .u8 f] w fun e w' => e = .returned (.int .i64 v) ∧ Below w.heap.size w w' := by
  obtain ⟨c, hc⟩ : ∃ c, fC f = c := ⟨_, rfl⟩
  rw [hc] at hv
  have hm2 : 0 ≤ m ∧ m ≤ 16383 := by rw [← hm]; unfold fE; split <;> (try split) <;> (try split) <;> (try split) <;> omega
  by_cases h : c = 0
  · rw [if_pos h] at hv
    subst h hv
    have hw : IntKind.i64.wrap (1 - m) = 1 - m := by rw [IntKind.wrap_i64]; omega
    go_enter Tryz.func50, Tryz.ntmps50
    go_wp2_with fail
    refine (s_check_is f 0 h0 h1 hc _).mono ?_
    rintro r w' ⟨rfl, rfl⟩
    go_wp2_with fail
    refine (s_emax f m h0 h1 hm _ hT).mono ?_
    rintro r w2 ⟨rfl, rfl⟩
    go_wp2
    go_ret
    exact ⟨rfl, bal7 _ _⟩
  · have hd : (c != 0) = true := by simp [h]
    rw [if_neg h] at hv
    subst hv
    go_enter Tryz.func50, Tryz.ntmps50
    go_wp2_with fail
    refine (s_check_is f c h0 h1 hc _).mono ?_
    rintro r w' ⟨rfl, rfl⟩
    go_wp2
    go_ret
    exact ⟨rfl, Below.refl _ _⟩

def rHi (x n : Int) : Int := bits .or .u64 (IntKind.u64.wrap (x * 2 ^ min (IntKind.u64.wrap (n - 64)).toNat 64)) (x / 2 ^ min (IntKind.u64.wrap (64 - n)).toNat 64)
def rLo (x n : Int) : Int := IntKind.u64.wrap (x * 2 ^ min n.toNat 64)

theorem cell7 {w : World} {g : Nat} {T : TypeId} {c : Array Value} (row : w.heap[g]? = some (.cells c T)) (k : Nat) (v : Value) (h : c[k]? = some v) : w.cell? ⟨g, k, none⟩ = some v := by
  simp [World.cell?, row, h]
theorem set2_below {n : Nat} {w wr : World} {b : Nat} (h : Below n w wr) (hb : n ≤ b) (v0 v1 : Value) : Below n w ((wr.setCell ⟨b, 0, none⟩ v0).setCell ⟨b, 1, none⟩ v1) := (h.setCell (by exact hb) _).setCell (by exact hb) _
theorem set2_row {w : World} {b : Nat} {c0 c1 : Value} {T : TypeId} (h : w.heap[b]? = some (.cells #[c0, c1] T)) (v0 v1 : Value) :
    ((w.setCell ⟨b, 0, none⟩ v0).setCell ⟨b, 1, none⟩ v1).heap[b]? = some (.cells #[v0, v1] T) := by
  rw [setCell_row (setCell_row h)]; rfl
theorem set2_cells {w : World} {b : Nat} {c0 c1 : Value} {T : TypeId} (h : w.heap[b]? = some (.cells #[c0, c1] T)) (v0 v1 : Value) :
    ((w.setCell ⟨b, 0, none⟩ v0).setCell ⟨b, 1, none⟩ v1).cell? ⟨b, 0, none⟩ = some v0 ∧ ((w.setCell ⟨b, 0, none⟩ v0).setCell ⟨b, 1, none⟩ v1).cell? ⟨b, 1, none⟩ = some v1 := by
  have r := set2_row h v0 v1
  exact ⟨cell7 r 0 _ rfl, cell7 r 1 _ rfl⟩
theorem last7 (w : World) (o : Obj) : (w.alloc o).heap[w.heap.size]? = some o := heap_alloc_last w o

def b2 (a b : Int) : Array Value := #[.int .u64 a, .int .u64 b]

theorem s_raised (x n H L : Int) (h0 : 0 ≤ n) (h1 : n ≤ 18446744073709551615) (hH : rHi x n = H) (hL : rLo x n = L) (w : World) :
    Calls Tryz.prog 156 #[.int .u64 x, .int .u64 n] w fun e w' => e = .returned (.agg #[.int .u64 H, .int .u64 L]) ∧ w' = w.alloc (.cells #[.int .u64 H, .int .u64 L] 25) := by
  obtain ⟨m, rfl⟩ := Int.eq_ofNat_of_zero_le h0
  subst hH hL
  go_enter Tryz.func156, Tryz.ntmps156
  go_wp2
  exact bodyPost_ret (v := .agg #[.int .u64 (rHi x m), .int .u64 (rLo x m)]) (by simp [results, Tryz.results156, go_sem, rHi, rLo]) rfl ⟨rfl, by simp [rHi, rLo]⟩

theorem s_join (a b c d H L : Int) (hH : bits .or .u64 a c = H) (hL : bits .or .u64 b d = L) (w : World) :
    Calls Tryz.prog 155 #[.agg #[.int .u64 a, .int .u64 b], .agg #[.int .u64 c, .int .u64 d]] w fun e w' => e = .returned (.agg #[.int .u64 H, .int .u64 L]) ∧ w' = ((w.alloc (.cells #[.int .u64 a, .int .u64 b] 25)).alloc (.cells #[.int .u64 c, .int .u64 d] 25)).alloc (.cells #[.int .u64 H, .int .u64 L] 25) := by
  go_enter Tryz.func155, Tryz.ntmps155
  go_wp2
  exact bodyPost_ret (v := .agg #[.int .u64 H, .int .u64 L]) (by simp [results, Tryz.results155, go_sem]) rfl ⟨rfl, rfl⟩

theorem s_ones (n H L : Int) (h0 : 0 ≤ n) (h1 : n ≤ 18446744073709551615) (hH : rHi 1 n = H) (hL : rLo 1 n = L) (K M : Int) (hK : (if L = 0 then IntKind.u64.wrap (H - 1) else H) = K) (hM : IntKind.u64.wrap (L - 1) = M) (w : World) :
    Calls Tryz.prog 148 #[.int .u64 n] w fun e w' => e = .returned (.agg #[.int .u64 K, .int .u64 M]) ∧ Below w.heap.size w w' := by
  by_cases hz : L = 0
  · have hd : (L == 0) = true := by simp [hz]
    rw [if_pos hz] at hK
    subst hz
    rw [show (0 : Int) - 1 = -1 by decide] at hM
    go_enter Tryz.func148, Tryz.ntmps148
    go_wp2_with fail
    refine (s_raised 1 n H _ h0 h1 hH hL _).mono ?_
    rintro r w2 ⟨rfl, rfl⟩
    go_wp2
    exact bodyPost_ret (v := .agg #[.int .u64 K, .int .u64 M]) (by simp [results, Tryz.results148, go_sem]) rfl ⟨rfl, (((Below.refl _ _).alloc (Nat.le_refl _) _).alloc (by simp only [size_al]; omega) _).alloc (by simp only [size_al]; omega) _⟩
  · have hd : (L == 0) = false := by simp [hz]
    rw [if_neg hz] at hK
    subst hK
    go_enter Tryz.func148, Tryz.ntmps148
    go_wp2_with fail
    refine (s_raised 1 n H _ h0 h1 hH hL _).mono ?_
    rintro r w2 ⟨rfl, rfl⟩
    go_wp2
    exact bodyPost_ret (v := .agg #[.int .u64 H, .int .u64 M]) (by simp [results, Tryz.results148, go_sem]) rfl ⟨rfl, (((Below.refl _ _).alloc (Nat.le_refl _) _).alloc (by simp only [size_al]; omega) _).alloc (by simp only [size_al]; omega) _⟩

theorem s_fraction (f p v : Int) (h0 : 0 ≤ f) (h1 : f ≤ 255) (hp : fP f = p) (hv : IntKind.u64.wrap (p - 1) = v) (w : World) (hT : FAt w) :
    Calls Tryz.prog 157 #[.int .u8 f] w fun e w' => e = .returned (.int .u64 v) ∧ w' = w.alloc (.cells (fR f) 147) := by
  have hm2 : 0 ≤ p ∧ p ≤ 113 := by rw [← hp]; unfold fP; split <;> (try split) <;> (try split) <;> (try split) <;> omega
  have hw : IntKind.i64.wrap (p - 1) = p - 1 := by rw [IntKind.wrap_i64]; omega
  go_enter Tryz.func157, Tryz.ntmps157
  go_wp2_with fail
  refine (s_precision f p h0 h1 hp _ hT).mono ?_
  rintro r w2 ⟨rfl, rfl⟩
  go_wp2
  go_ret
  exact ⟨rfl, rfl⟩

theorem s_top (f q p d v : Int) (h0 : 0 ≤ f) (h1 : f ≤ 255) (hq : fW f = q) (hp : fP f = p) (hd : q - p = d) (h2 : 0 ≤ d) (hv : IntKind.u64.wrap (IntKind.u64.wrap (2 ^ min d.toNat 64) - 1) = v) (w : World) (hT : FAt w) :
    Calls Tryz.prog 82 #[.int .u8 f] w fun e w' => e = .returned (.int .u64 v) ∧ Below w.heap.size w w' := by
  have hm1 : 0 ≤ q ∧ q ≤ 128 := by rw [← hq]; unfold fW; split <;> (try split) <;> (try split) <;> (try split) <;> omega
  have hm2 : 0 ≤ p ∧ p ≤ 113 := by rw [← hp]; unfold fP; split <;> (try split) <;> (try split) <;> (try split) <;> omega
  go_enter Tryz.func82, Tryz.ntmps82
  go_wp2_with fail
  refine (s_width f q h0 h1 hq _ hT).mono ?_
  rintro r w2 ⟨rfl, rfl⟩
  go_wp2_with fail
  refine (s_precision f p h0 h1 hp _ (fatB hT (bal7 _ _))).mono ?_
  rintro r w3 ⟨rfl, rfl⟩
  go_wp2
  go_ret
  exact ⟨rfl, btr7 (bal7 _ _) (bal7 _ _)⟩

def pV (f : Int) : Nat := (fP f).toNat - 1
def wV (f : Int) : Nat := (fW f).toNat - 1
def oV (f : Int) : Nat := 2 * (fE f).toNat + 1
/-- An encoding: the sign, the exponent field, the fraction. -/
def enc7 (f : Int) (neg : Bool) (e t : Nat) : Nat := e * 2 ^ pV f + t + (if neg then 2 ^ wV f else 0)
def bv7 (v : Nat) : Nat × Nat := (v / 18446744073709551616, v % 18446744073709551616)
def eInf (f : Int) (neg : Bool) : Nat := enc7 f neg (oV f) 0
def eZero (f : Int) (neg : Bool) : Nat := enc7 f neg 0 0
def Is4 (f : Int) : Prop := f = 0 ∨ f = 1 ∨ f = 2 ∨ f = 3
theorem is4_ok {f : Int} (h : Is4 f) : 0 ≤ f ∧ f ≤ 255 ∧ fC f = 0 ∧ 0 ≤ fW f - fP f := by
  rcases h with rfl | rfl | rfl | rfl <;> decide +kernel

def R7 (w : World) (I J : Int) (w5 : World) (g : Nat) : Prop := Below w.heap.size w w5 ∧ w5.heap[g]? = some (.cells #[.int .u64 I, .int .u64 J] 25) ∧ w5.heap[w.heap.size + 1]? = some (.cells #[.int .u64 0, .int .u64 0] 25) ∧ w.heap.size + 1 < g
theorem cut7 {G C : Prop} (h : G → C) (k : G) : C := h k
theorem bel_al {w W : World} (h : Below w.heap.size w W) (o : Obj) : Below w.heap.size w (W.alloc o) := btr7 h (bal7 _ _)
theorem bel_dr {w W : World} (h : Below w.heap.size w W) : Below w.heap.size w W.drew := h.drew
theorem row_al {W : World} {b : Nat} {o : Obj} (h : W.heap[b]? = some o) (o' : Obj) : (W.alloc o').heap[b]? = some o := by
  rw [heap_below W b o' (Array.getElem?_eq_some_iff.1 h).1]; exact h
theorem row_dr {W : World} {b : Nat} {o : Obj} (h : W.heap[b]? = some o) : W.drew.heap[b]? = some o := h
theorem row_last {W : World} {b : Nat} {o : Obj} (h : b = W.heap.size) : (W.alloc o).heap[b]? = some o := by subst h; exact heap_alloc_last W o
end Go.Proofs.YtkmlbjlaahcahaaGreatDoor
namespace Go.Proofs.YtkmlbjlaahcahaaGreatDoor
set_option maxRecDepth 100000
open WMath
open Go.ChangeShapes Go.WideShapes Go.ChangeAt Go.RowKit

theorem trod_row4 {H : Type} {enc : TypeId × Value → H} {P : Program} {w : World} {base : Nat} {spare : Nat → Bool} {held : Bool} {t : TypeId} {f0 f1 f2 f3 : Field} {fuel : Nat} {cs : List Value} {x : DataW H × List MemPlace} (ht : P.underlying t = some (.struct #[f0, f1, f2, f3])) (h : DataW.trod enc P w base spare held fuel t cs = some x) :
    ∃ y0 y1 y2 y3 n, x = (.agg [y0.1, y1.1, y2.1, y3.1], y0.2 ++ (y1.2 ++ (y2.2 ++ y3.2))) ∧ DataW.trod enc P w base spare held n f0.type ((cs.drop f0.offset).take (P.cellsOf f0.type)) = some y0 ∧
      DataW.trod enc P w base spare held n f1.type ((cs.drop f1.offset).take (P.cellsOf f1.type)) = some y1 ∧ DataW.trod enc P w base spare held n f2.type ((cs.drop f2.offset).take (P.cellsOf f2.type)) = some y2 ∧
      DataW.trod enc P w base spare held n f3.type ((cs.drop f3.offset).take (P.cellsOf f3.type)) = some y3 := by
  obtain ⟨xs, n, _, rfl, hl, hlen, hf⟩ := DataW.trod_struct ht h
  match xs, hlen with
  | [y0, y1, y2, y3], _ => exact ⟨y0, y1, y2, y3, n, by simp, by simpa using hf 0 f0 rfl, by simpa using hf 1 f1 rfl, by simpa using hf 2 f2 rfl, by simpa using hf 3 f3 rfl⟩


theorem list4' {α : Type} (l : List α) (h : l.length = 4) : ∃ a b c d, l = [a, b, c, d] := by
  match l, h with
  | [a, b, c, d], _ => exact ⟨a, b, c, d, rfl⟩

theorem row_read {w : World} {fuel : Nat} {enc : TypeId × Value → Unit} {base : Nat} {spare : Nat → Bool} {held : Bool} {l : List Value} {a b c : Int} {s : List UInt8} {p : List MemPlace}
    (h : DataW.trod enc Tryz.prog w base spare held fuel 147 l = some (.agg [.lit (.int .i64 a), .lit (.int .i64 b), .lit (.int .i64 c), .lit (.string s)], p)) (hl : l.length = 4) :
    l = [.int .i64 a, .int .i64 b, .int .i64 c, .string ⟨⟨s⟩⟩] := by
  have h3 : Tryz.prog.cellsOf 3 = 1 := by kernel_rfl
  have h9 : Tryz.prog.cellsOf 9 = 1 := by kernel_rfl
  obtain ⟨c0, c1, c2, c3, rfl⟩ := list4' l hl
  obtain ⟨y0, y1, y2, y3, n, hx, g0, g1, g2, g3⟩ := trod_row4 Tryz.underlying147 h
  simp only [h3, h9] at g0 g1 g2 g3
  obtain ⟨x0, e0, k0, w0⟩ := DataW.trod_int Tryz.underlying3 g0
  obtain ⟨x1, e1, k1, w1⟩ := DataW.trod_int Tryz.underlying3 g1
  obtain ⟨x2, e2, k2, w2⟩ := DataW.trod_int Tryz.underlying3 g2
  obtain ⟨x3, e3, k3, w3⟩ := DataW.trod_string Tryz.underlying9 g3
  simp at e0 e1 e2 e3
  subst e0 e1 e2 e3
  rw [k0, k1, k2, k3] at hx
  simp at hx
  obtain ⟨⟨rfl, rfl, rfl, rfl⟩, _⟩ := hx
  rfl

def laid7 : List (String × DataW Unit) := [("abacus/shape.formats", Rows.laid_abacus_shape_formats)]
theorem gTab7 : Tryz.prog.globalNamed "abacus/shape.formats" = some 0 := by kernel_rfl
theorem gType7 : (Tryz.prog.globals[0]?).map (·.type) = some 219 := by kernel_rfl

theorem of_laid7 {W : World} (h : laidMetH Tryz.prog laid7 W) : FAt W := by
  have hce : Tryz.prog.cellsOf 147 = 4 := by kernel_rfl
  have hct : Tryz.prog.cellsOf 219 = 16 := by kernel_rfl
  rw [MakeChecks.laidMetH_plain _ _ _ (by kernel_rfl)] at h
  obtain ⟨ps, ⟨g', t', cs, fuel, p, q, hg', ht', hvar, hd, _, _⟩, _⟩ := h
  obtain rfl := Option.some.inj (gTab7.symm.trans hg')
  obtain rfl := Option.some.inj (gType7.symm.trans ht')
  obtain ⟨xs, m, rfl, hx, hl, hxl, hel⟩ := DataW.trod_array Tryz.underlying219 hd
  rw [hce] at hel
  rw [hct] at hl
  have hl2 : cs.size = 16 := by simpa using hl
  match xs, hxl with
  | [y0, y1, y2, y3], _ =>
    have hx1 := congrArg Prod.fst hx
    simp [Rows.laid_abacus_shape_formats] at hx1
    obtain ⟨h0, h1, h2, h3⟩ := hx1
    have q0 := hel 0 (by decide)
    have q1 := hel 1 (by decide)
    have q2 := hel 2 (by decide)
    have q3 := hel 3 (by decide)
    simp only [List.getElem?_cons_zero, List.getElem?_cons_succ] at q0 q1 q2 q3
    have z0 := row_read (p := y0.2) (by rw [q0, h0]) (by simp; omega)
    have z1 := row_read (p := y1.2) (by rw [q1, h1]) (by simp; omega)
    have z2 := row_read (p := y2.2) (by rw [q2, h2]) (by simp; omega)
    have z3 := row_read (p := y3.2) (by rw [q3, h3]) (by simp; omega)
    have hcs : ∀ i, i < 16 → cs.toList[i]? = fcells[i]? := by
      intro i hi
      have e0 : cs.toList[i]? = (cs.toList.drop (i / 4 * 4))[i % 4]? := by rw [List.getElem?_drop]; congr 1; omega
      have e1 : (cs.toList.drop (i / 4 * 4))[i % 4]? = ((cs.toList.drop (i / 4 * 4)).take 4)[i % 4]? := by rw [List.getElem?_take, if_pos (by omega)]
      rw [e0, e1]
      have : i / 4 = 0 ∨ i / 4 = 1 ∨ i / 4 = 2 ∨ i / 4 = 3 := by omega
      have hj : i % 4 = 0 ∨ i % 4 = 1 ∨ i % 4 = 2 ∨ i % 4 = 3 := by omega
      have hi2 : i = i / 4 * 4 + i % 4 := by omega
      rcases this with e | e | e | e <;> rw [e] at hi2 ⊢ <;> rcases hj with k | k | k | k <;> rw [k] at hi2 ⊢ <;> subst hi2 <;> first | (rw [z0]; rfl) | (rw [z1]; rfl) | (rw [z2]; rfl) | (rw [z3]; rfl)
    intro i hi
    rw [World.var?_cell gTab7 hvar i, ← hcs i hi]
    simp

end Go.Proofs.YtkmlbjlaahcahaaGreatDoor
namespace Go.Proofs.YtkmlbjlaahcahaaGreatDoor.WMath
set_option maxRecDepth 100000

def mask8 (c : Nat) : Nat → Nat
  | 0 => 0
  | n + 1 => c + 256 * mask8 c n
def fC (n x : Nat) : Nat := (x / 16 + x) &&& mask8 15 n
def sA (b : Nat) : Nat := ((b / 2) &&& 85) + (b &&& 85)
theorem t1 : ∀ b : Fin 256, ∀ c : Fin 2, ((b.val / 2 + 128 * c.val) &&& 85) = (b.val / 2 &&& 85) := by decide +kernel
theorem t2 : ∀ b : Fin 256, ∀ c : Fin 4, ((b.val / 4 + 64 * c.val) &&& 51) = (b.val / 4 &&& 51) := by decide +kernel
end Go.Proofs.YtkmlbjlaahcahaaGreatDoor.WMath
namespace Go.Proofs.YtkmlbjlaahcahaaGreatDoor
set_option maxRecDepth 100000
open Go.RowKit WMath

/-- t is the place of the lowest bit of x that is 1. -/
def LowIs (x t : Nat) : Prop := t < 64 ∧ x % 2 ^ t = 0 ∧ x.testBit t = true
theorem low_one (x s t : Nat) (h : LowIs x s) (g : LowIs x t) : s = t := by
  have hlt : ∀ a b, LowIs x a → LowIs x b → ¬ a < b := by
    intro a b ha hb hab
    have h1 := Nat.testBit_mod_two_pow x b a
    rw [hb.2.1, ha.2.2] at h1
    simp [hab] at h1
  have h1 := hlt s t h g
  have h2 := hlt t s g h
  omega
theorem rlow_any (x t : Nat) (hx : x < 18446744073709551616) (ht : LowIs x t) (w : World) :
    Calls Tryz.prog 188 #[.int .u64 x] w fun e w' => e = .returned (.int .i64 t) ∧ w' = w := by
  have ht0 := ht.1
  have hT := hide ht
  clear ht
  go_enter Tryz.func188, Tryz.ntmps188
  go_wp2
  go_loop [3] (fun i => ∃ k : Nat, k ≤ t ∧ i = .int .i64 k) (fun i => 64 - (intOf i).toNat)
  case atStart => exact ⟨0, by omega, rfl⟩
  case round =>
    obtain ⟨k, hk, rfl⟩ := hrel
    have hlt : k < 64 := by omega
    by_cases he : k < t
    · have hb : x.testBit k = false := by
        have h1 := Nat.testBit_mod_two_pow x t k
        rw [hT.out.2.1] at h1
        simpa [he] using h1.symm
      go_wp2_with (go_at_call 199; refine (bit_any _ _ ?_ ?_ _).mono ?_; assumption; assumption; rintro e w' ⟨rfl, rfl⟩)
      go_round
      case rel => exact ⟨k + 1, by omega, by go_num⟩
      case measure => simp [intOf]; omega
    · obtain rfl : k = t := by omega
      have hb : x.testBit k = true := hT.out.2.2
      go_wp2_with (go_at_call 199; refine (bit_any _ _ ?_ ?_ _).mono ?_; assumption; assumption; rintro e w' ⟨rfl, rfl⟩)
      go_ret
      exact ⟨rfl, rfl⟩
end Go.Proofs.YtkmlbjlaahcahaaGreatDoor
namespace Go.Proofs.YtkmlbjlaahcahaaGreatDoor
set_option maxRecDepth 100000
open Go.RowKit WMath

theorem ctz_low (x : Nat) (h0 : x ≠ 0) (hx : x < 18446744073709551616) : LowIs x (Lib.ctz 64 x) := by
  have h1 : Lib.ctz 64 x = Lib.ctzFrom 64 x := by unfold Lib.ctz; rw [if_neg h0]
  obtain ⟨m, hm, hlt⟩ := Lib.ctzFrom_spec 64 x (by omega) (by rw [← two64]; exact hx)
  rw [h1]
  generalize Lib.ctzFrom 64 x = t at *
  refine ⟨hlt, ?_, ?_⟩
  · rw [hm, Nat.mul_mod_right]
  · rw [Nat.testBit_eq_decide_div_mod_eq, hm, Nat.mul_div_cancel_left _ (Nat.two_pow_pos t)]
    simp

/-- The table of the library, as it lies in its variable. -/
def TabAt (w : World) : Prop := ∀ i, i < 64 → w.cell? ⟨4, i, none⟩ = some (.int .u8 ((Lib.deBruijn64tab.getD i 0 : Nat) : Int))

theorem db_i (P I : Nat) (hI : I = P * 285870213051353865 % 18446744073709551616 / 288230376151711744) : IntKind.u64.wrap ((P : Int) * 285870213051353865) / 288230376151711744 = (I : Int) := by
  rw [IntKind.wrap_u64, hI]; simp
theorem tz_any (x t : Nat) (hx : x < 18446744073709551616) (ht : LowIs x t) (w : World) (hT : TabAt w) :
    Calls Tryz.prog 249 #[.int .u64 x] w fun e w' => e = .returned (.int .i64 t) ∧ w' = w := by
  have h0 : x ≠ 0 := by
    intro h; subst h
    have := ht.2.2
    rw [Nat.zero_testBit] at this
    cases this
  obtain ⟨hl, _⟩ := Lib.lowest_bit 64 x h0 (by rw [← two64]; exact hx)
  obtain ⟨d1, d2⟩ := Lib.deBruijn64_at t ht.1
  have hc : Lib.ctz 64 x = t := low_one x _ _ (ctz_low x h0 hx) ht
  rw [hc, ← two64] at hl
  have hp := pow_lt_64 t ht.1
  obtain ⟨P, hP⟩ : ∃ P, P = 2 ^ t := ⟨_, rfl⟩
  rw [← hP] at hl d1 d2 hp
  have e1 : bits .and .u64 (x : Int) (IntKind.u64.wrap (-(x : Int))) = (P : Int) := by
    have e : IntKind.u64.wrap (-(x : Int)) = ((18446744073709551616 - x : Nat) : Int) := by rw [IntKind.wrap_u64]; omega
    rw [e, bits_and_u64_nat _ _ hx (by omega), hl]
  obtain ⟨I, hI⟩ : ∃ I, I = P * 285870213051353865 % 18446744073709551616 / 288230376151711744 := ⟨_, rfl⟩
  rw [← hI] at d1 d2
  have e2 : IntKind.u64.wrap ((P : Int) * 285870213051353865) / 288230376151711744 = (I : Int) := db_i P I hI
  have hcell := hT I d1
  rw [d2] at hcell
  have hx0 : ((x : Int) == 0) = false := by rw [beq_eq_false_iff_ne]; omega
  have ht1 := ht.1
  clear hl d2 hc hp hP hI h0 ht hT
  go_enter Tryz.func249, Tryz.ntmps249
  go_wp2
  go_ret
  exact ⟨rfl, rfl⟩
theorem low_any (x t : Nat) (hx : x < 18446744073709551616) (ht : LowIs x t) (w : World) (hT : TabAt w) :
    Calls Tryz.prog 224 #[.int .u64 x] w fun e w' => e = .returned (.int .i64 t) ∧ w' = w := by
  have h := hide (tz_any x t hx ht w hT)
  clear ht hT
  go_enter Tryz.func224, Tryz.ntmps224
  go_wp2_with (go_at_call 249; refine h.out.mono ?_; rintro e w' ⟨rfl, rfl⟩)
  go_ret
  exact ⟨rfl, rfl⟩

end Go.Proofs.YtkmlbjlaahcahaaGreatDoor
namespace Go.Proofs.YtkmlbjlaahcahaaGreatDoor
set_option maxRecDepth 100000
open WMath
open Go.ChangeShapes Go.WideShapes Go.ChangeAt Go.RowKit

def tabZ8 : List Int := [0, 1, 56, 2, 57, 49, 28, 3, 61, 58, 42, 50, 38, 29, 17, 4, 62, 47, 59, 36, 45, 43, 51, 22, 53, 39, 33, 30, 24, 18, 12, 5, 63, 55, 48, 27, 60, 41, 37, 16, 46, 35, 44, 21, 52, 32, 23, 11, 54, 26, 40, 15, 34, 20, 31, 10, 25, 14, 19, 9, 13, 8, 7, 6]
def laid8 : List (String × DataW Unit) := [("math/bits.deBruijn64tab", Rows.laid_math_bits_deBruijn64tab), ("abacus/shape.formats", Rows.laid_abacus_shape_formats)]
theorem gTab8 : Tryz.prog.globalNamed "math/bits.deBruijn64tab" = some 4 := by kernel_rfl
theorem gType8 : (Tryz.prog.globals[4]?).map (·.type) = some 277 := by kernel_rfl
theorem cells58 : Tryz.prog.cellsOf 5 = 1 := by kernel_rfl
theorem cellsT8 : Tryz.prog.cellsOf 277 = 64 := by kernel_rfl
theorem tab_at8 : ∀ i : Fin 64, tabZ8.getD i.val 0 = ((Lib.deBruijn64tab.getD i.val 0 : Nat) : Int) := by decide +kernel

theorem of_laid8 {W : World} (h : laidMetH Tryz.prog laid8 W) : TabAt W ∧ FAt W := by
  rw [MakeChecks.laidMetH_plain _ _ _ (by kernel_rfl)] at h
  have ht := laidMet.tail h
  constructor
  · have h' : laidMet Tryz.prog (("math/bits.deBruijn64tab", Lib.tabData .u8 tabZ8) :: [("abacus/shape.formats", Rows.laid_abacus_shape_formats)]) W := h
    have hT := Lib.tabIs_of_head gTab8 gType8 Tryz.underlying277 Tryz.underlying5 cells58 cellsT8 h'
    intro i hi
    have hc := hT.cell gTab8 i (show i < tabZ8.length from hi)
    rw [tab_at8 ⟨i, hi⟩] at hc
    exact hc
  · refine of_laid7 ?_
    rw [MakeChecks.laidMetH_plain _ _ _ (by kernel_rfl)]
    exact ht

theorem door_met8 (os : Os) (args : Array Value) : laidMetH Tryz.prog laid8 ((World.doorLaid Tryz.prog 400 os).forCall (fun _ _ => 0) ⟨#[], args, []⟩).memory :=
  laidMetH_of_parts3 (fuel := 8) (laidMet_of_run' 8 (by kernel_rfl) (by kernel_rfl)) (by kernel_rfl) (by kernel_rfl)
end Go.Proofs.YtkmlbjlaahcahaaGreatDoor
namespace Go.Proofs.YtkmlbjlaahcahaaGreatDoor
set_option maxRecDepth 100000
open Go.RowKit WMath

/-- The sign bit, the exponent field and the fraction of a number of bits. -/
def kN (f : Int) (n : Nat) : Bool := decide (n / 2 ^ wV f % 2 = 1)
def kE (f : Int) (n : Nat) : Nat := n / 2 ^ pV f % (oV f + 1)
def kT (f : Int) (n : Nat) : Nat := n % 2 ^ pV f
def kC (f : Int) (n : Nat) : Nat :=
  if kE f n = oV f then (if kT f n = 0 then (if kN f n then 0 else 7) else if 2 ^ (pV f - 1) ≤ kT f n then 9 else 8)
  else if kE f n ≠ 0 then (if kN f n then 1 else 6)
  else if kT f n ≠ 0 then (if kN f n then 2 else 5) else (if kN f n then 3 else 4)
def lx (f : Int) : Int := 1 - fE f - pV f
def kS (f : Int) (n : Nat) : Nat := if kC f n = 2 ∨ kC f n = 5 then kT f n else if kC f n = 1 ∨ kC f n = 6 then 2 ^ pV f + kT f n else 0
def kX (f : Int) (n : Nat) : Int := if kC f n = 2 ∨ kC f n = 5 then lx f else if kC f n = 1 ∨ kC f n = 6 then lx f + (kE f n : Int) - 1 else 0
def kF (f : Int) (n : Nat) : Nat := if kC f n = 8 ∨ kC f n = 9 then kT f n else 0
def Fit (f : Int) (n : Nat) : Prop := n < 2 * 2 ^ wV f
/-- What the numbers of a format are to each other. -/
theorem fm {f : Int} (h : Is4 f) : 2 ^ wV f = (oV f + 1) * 2 ^ pV f ∧ 2 ≤ pV f ∧ 2 ^ pV f = 2 * 2 ^ (pV f - 1) ∧ 2 ^ (pV f - 1) ≥ 2 ∧ 3 ≤ oV f ∧ oV f < 32768 ∧ 2 * 2 ^ wV f ≤ 340282366920938463463374607431768211456 := by
  rcases h with rfl | rfl | rfl | rfl <;> decide +kernel
theorem kT_lt {f : Int} (n : Nat) : kT f n < 2 ^ pV f := Nat.mod_lt _ (Nat.two_pow_pos _)
theorem kE_le {f : Int} (n : Nat) : kE f n ≤ oV f := Nat.le_of_lt_succ (Nat.mod_lt _ (Nat.succ_pos _))
theorem kC_lt (f : Int) (n : Nat) : kC f n < 10 := by unfold kC; repeat' split <;> first | decide | skip
theorem enc_k {f : Int} (h : Is4 f) (neg : Bool) {e t : Nat} (he : e ≤ oV f) (ht : t < 2 ^ pV f) : Fit f (enc7 f neg e t) ∧ kN f (enc7 f neg e t) = neg ∧ kE f (enc7 f neg e t) = e ∧ kT f (enc7 f neg e t) = t := by
  unfold Fit enc7 kN kE kT
  rcases h with rfl | rfl | rfl | rfl
  all_goals
    simp only [show pV 0 = 23 by decide, show wV 0 = 31 by decide, show oV 0 = 255 by decide, show pV 1 = 52 by decide, show wV 1 = 63 by decide, show oV 1 = 2047 by decide, show pV 2 = 10 by decide, show wV 2 = 15 by decide, show oV 2 = 31 by decide, show pV 3 = 112 by decide, show wV 3 = 127 by decide, show oV 3 = 32767 by decide] at he ht ⊢
    simp only [Nat.reducePow, Nat.reduceAdd] at ht ⊢
    cases neg
    · simp only [Bool.false_eq_true, if_false, decide_eq_false_iff_not]
      omega
    · simp only [if_true, decide_eq_true_eq]
      omega
def kp (f : Int) (n : Nat) : Nat × Nat × Int × Nat := (kC f n, kS f n, kX f n, kF f n)
theorem xor_two (a b : Nat) : (a ^^^ b) % 2 = (a + b) % 2 := by
  have := @Nat.xor_mod_two_eq_one a b
  omega
/-- One bit turned. -/
theorem xor_bit : ∀ (k a : Nat), a ^^^ 2 ^ k = if a / 2 ^ k % 2 = 1 then a - 2 ^ k else a + 2 ^ k
  | 0, a => by
    have h1 : (a ^^^ 1) / 2 = a / 2 := by rw [Nat.xor_div_two]; simp
    have h2 : (a ^^^ 1) % 2 = (a + 1) % 2 := by rw [xor_two]
    rw [Nat.pow_zero, Nat.div_one]
    split <;> omega
  | k + 1, a => by
    have ih := xor_bit k (a / 2)
    have h1 : (a ^^^ 2 ^ (k + 1)) / 2 = a / 2 ^^^ 2 ^ k := by rw [Nat.xor_div_two, Nat.pow_succ, Nat.mul_div_cancel _ (by decide)]
    have h2 : (a ^^^ 2 ^ (k + 1)) % 2 = a % 2 := by rw [xor_two, Nat.pow_succ]; omega
    have h3 : a / 2 / 2 ^ k = a / 2 ^ (k + 1) := by rw [Nat.div_div_eq_div_mul, Nat.pow_succ, Nat.mul_comm]
    rw [ih, h3] at h1
    have h4 : a / 2 ^ (k + 1) % 2 = 1 → 2 ^ k ≤ a / 2 := fun h => by
      rw [← h3] at h
      by_cases c : 2 ^ k ≤ a / 2
      · exact c
      · rw [Nat.div_eq_of_lt (by omega)] at h; exact absurd h (by decide)
    rw [Nat.pow_succ] at h1 h2 h4 ⊢
    split at h1
    · rename_i c
      have := h4 c
      rw [if_pos c]; omega
    · rename_i c
      rw [if_neg c]; omega
/-- The sign bit turned. -/
def sgB (f : Int) (n : Nat) (neg : Bool) : Nat := if neg then n ^^^ 2 ^ wV f else n
theorem sgB_low {f : Int} {n : Nat} (hn : n < 2 ^ wV f) (neg : Bool) : sgB f n neg = n + (if neg then 2 ^ wV f else 0) := by
  unfold sgB
  cases neg
  · rfl
  · rw [if_pos rfl, xor_bit, Nat.div_eq_of_lt hn, if_neg (by decide), if_pos rfl]
/-- What Pack puts together: the program's way. -/
def toB (s : Nat) : Nat := if s < 340282366920938463463374607431768211456 then s else 0
def plN (f : Int) (u : Nat) : Nat := u * 2 ^ pV f % (if f = 3 then 340282366920938463463374607431768211456 else 18446744073709551616)
def u64w (x : Int) : Nat := (x % 18446744073709551616).toNat
def fb (f : Int) (s : Nat) (x : Int) : Nat := (plN f (u64w (x - lx f)) + toB s) % 340282366920938463463374607431768211456
def eb (f : Int) (r : Nat) : Nat := (eInf f false + toB r) % 340282366920938463463374607431768211456
theorem fb_is {f : Int} (h : Is4 f) (k s : Nat) (hk : k ≤ oV f) (hs : k * 2 ^ pV f + s < 2 ^ wV f) : fb f s (lx f + k) = k * 2 ^ pV f + s := by
  obtain ⟨f1, f2, f3, f4, f5, f6, f7⟩ := fm h
  have e1 : u64w (lx f + k - lx f) = k := by
    unfold u64w
    rw [show lx f + (k : Int) - lx f = k by omega]
    omega
  have e2 : toB s = s := by unfold toB; rw [if_pos (by omega)]
  have e3 : plN f k = k * 2 ^ pV f := by
    unfold plN
    refine Nat.mod_eq_of_lt ?_
    have h2 : k * 2 ^ pV f < 2 ^ wV f := by omega
    have h3 : 2 ^ wV f ≤ (if f = 3 then 340282366920938463463374607431768211456 else 18446744073709551616) := by
      rcases h with rfl | rfl | rfl | rfl <;> decide +kernel
    omega
  unfold fb
  rw [e1, e2, e3, Nat.mod_eq_of_lt (by omega)]
end Go.Proofs.YtkmlbjlaahcahaaGreatDoor
namespace Go.Proofs.YtkmlbjlaahcahaaGreatDoor
set_option maxRecDepth 100000
open Go.RowKit WMath

theorem gen7 {X : Act → World → Prop} {t0 t1 t2 t3 t4 t5 t6 t7 t8 t10 t11 t12 t13 t14 t15 t16 t17 t18 t19 t20 t21 t22 t23 t24 t25 t26 t27 t28 : Value} {d : List Deferred} {w W : World} {I J : Int} {G : Nat}
    (key : ∀ w5 g, R7 w I J w5 g → X ⟨#[t0, t1, t2, t3, t4, t5, t6, t7, t8, .pointer (some ⟨g, 0, none⟩), t10, t11, t12, t13, t14, t15, t16, t17, t18, t19, t20, t21, t22, t23, t24, t25, t26, t27, t28], d⟩ w5) (r : R7 w I J W G) :
    X ⟨#[t0, t1, t2, t3, t4, t5, t6, t7, t8, .pointer (some ⟨G, 0, none⟩), t10, t11, t12, t13, t14, t15, t16, t17, t18, t19, t20, t21, t22, t23, t24, t25, t26, t27, t28], d⟩ W := key W G r

set_option maxHeartbeats 40000000 in
theorem s_pack_any (f x a b p n H L I J q m M N I' J' : Int) (neg : Bool) (h0 : 0 ≤ f) (h1 : f ≤ 255) (hc : fC f = 0) (hp : fP f = p) (hn : IntKind.u64.wrap (p - 1) = n) (n0 : 0 ≤ n) (n1 : n ≤ 18446744073709551615)
    (hH : rHi x n = H) (hL : rLo x n = L) (hI : bits .or .u64 H a = I) (hJ : bits .or .u64 L b = J) (hq : fW f = q) (hm : q - 1 = m) (m0 : 0 ≤ m) (m1 : m ≤ 127) (hM : rHi 1 m = M) (hN : rLo 1 m = N) (hI' : bits .or .u64 I M = I') (hJ' : bits .or .u64 J N = J') (w : World) (hT : FAt w) :
    Calls Tryz.prog 81 #[.int .u8 f, .bool neg, .int .u64 x, .agg #[.int .u64 a, .int .u64 b]] w fun e w' => e = .returned (.agg #[.int .u64 (if neg then I' else I), .int .u64 (if neg then J' else J)]) ∧ Below w.heap.size w w' := by
  have k1 : Box (∀ w : World, FAt w → Calls Tryz.prog 157 #[.int .u8 f] w fun e w' => e = .returned (.int .u64 n) ∧ w' = w.alloc (.cells (fR f) 147)) := box (fun w hw => s_fraction f p n h0 h1 hp hn w hw)
  have k2 := box (s_raised x n H L n0 n1 hH hL)
  have k3 := box (s_join H L a b I J hI hJ)
  have k0 := box (s_check_is f 0 h0 h1 hc)
  have k4 : Box (∀ w : World, FAt w → Calls Tryz.prog 98 #[.int .u8 f] w fun e w' => e = .returned (.int .i64 q) ∧ w' = w.alloc (.cells (fR f) 147)) := box (fun w hw => s_width f q h0 h1 hq w hw)
  have k5 := box (s_raised 1 m M N m0 (by omega) hM hN)
  have k6 := box (s_join I J M N I' J' hI' hJ')
  have T0 := box hT
  have TT := box (fatB hT (btr7 (bal7 w (.cells #[.int .u64 a, .int .u64 b] 25)) (bal7 _ (.cells #[.int .u64 0, .int .u64 0] 25))))
  have e1 : IntKind.i64.wrap (q - 1) = m := by rw [hm, IntKind.wrap_i64]; omega
  have e2 : IntKind.u64.wrap m = m := by rw [IntKind.wrap_u64]; omega
  have e3 : IntKind.i64.wrap m = m := by rw [IntKind.wrap_i64]; omega
  clear hT hp hn hH hL hI hJ hc h0 h1 n0 n1 hq hM hN hI' hJ' m0 m1 hm
  go_enter Tryz.func81, Tryz.ntmps81
  go_wp2_with fail
  refine (k0.out _).mono ?_
  rintro r w' ⟨rfl, rfl⟩
  go_wp2_with fail
  apply cut7
  · intro key
    go_region_with (first
      | (go_at_call 157; refine (k1.out _ (by repeat (first | exact TT.out | refine fat_al ?_ _ | refine fat_dr ?_))).mono ?_; rintro r w2 ⟨rfl, rfl⟩)
      | (go_at_call 156; refine (k2.out _).mono ?_; rintro r w2 ⟨rfl, rfl⟩)
      | (go_at_call 155; refine (k3.out _).mono ?_; rintro r w2 ⟨rfl, rfl⟩))
    all_goals
      refine gen7 (w := w) (I := I) (J := J) key ⟨?_, ?_, ?_, ?_⟩
      · repeat (first | exact Below.refl _ _ | refine bel_dr ?_ | refine bel_al ?_ _)
      · repeat (first | refine row_dr ?_ | (refine row_last ?_; simp only [size_al]; done) | refine row_al ?_ _)
      · repeat (first | refine row_dr ?_ | (refine row_last ?_; simp only [size_al]; done) | refine row_al ?_ _)
      · omega
  rintro w5 g ⟨B5, R5, S5, hg⟩
  have F5 := box (fatB T0.out B5)
  have c50 := cell7 R5 0 _ rfl
  have c51 := cell7 R5 1 _ rfl
  cases neg
  · have q0 := fz (k := 0) S5
    have q1 := fz (k := 1) S5
    have d0 := cell7 S5 0 _ rfl
    have d1 := cell7 S5 1 _ rfl
    obtain ⟨E0, E1⟩ := set2_cells S5 (.int .u64 I) (.int .u64 J)
    go_wp2
    exact bodyPost_ret (v := .agg #[.int .u64 I, .int .u64 J]) (by simp [results, Tryz.results81, go_sem, E0, E1]) rfl ⟨rfl, set2_below B5 (by omega) _ _⟩
  · have r1 := row_al R5 (.cells (fR f) 147)
    have r2 := row_al r1 (.cells #[.int .u64 M, .int .u64 N] 25)
    have r5 := row_al (row_al (row_al r2 (.cells #[.int .u64 I, .int .u64 J] 25)) (.cells #[.int .u64 M, .int .u64 N] 25)) (.cells #[.int .u64 I', .int .u64 J'] 25)
    have s5 := row_al (row_al (row_al (row_al (row_al S5 (.cells (fR f) 147)) (.cells #[.int .u64 M, .int .u64 N] 25)) (.cells #[.int .u64 I, .int .u64 J] 25)) (.cells #[.int .u64 M, .int .u64 N] 25)) (.cells #[.int .u64 I', .int .u64 J'] 25)
    have Q5 : Box (R7 w I' J' _ g) := box ⟨set2_below (bel_al (bel_al (bel_al (bel_al (bel_al B5 _) _) _) _) _) (by omega) (.int .u64 I') (.int .u64 J'), set2_row r5 _ _, by rw [setCell_other (by omega), setCell_other (by omega)]; exact s5, hg⟩
    have c10 := cell7 r1 0 _ rfl
    have c11 := cell7 r1 1 _ rfl
    have c20 := cell7 r2 0 _ rfl
    have c21 := cell7 r2 1 _ rfl
    have q0 := fz (k := 0) r5
    have q1 := fz (k := 1) r5
    have e50 := cell7 r5 0 _ rfl
    have e51 := cell7 r5 1 _ rfl
    clear r1 r2 r5 s5
    go_wp2_with fail
    apply cut7
    · intro key
      go_region_with (first
        | (go_at_call 98; refine (k4.out _ (by repeat (first | exact F5.out | refine fat_al ?_ _ | refine fat_dr ?_))).mono ?_; rintro r w2 ⟨rfl, rfl⟩)
        | (go_at_call 156; refine (k5.out _).mono ?_; rintro r w2 ⟨rfl, rfl⟩)
        | (go_at_call 155; refine (k6.out _).mono ?_; rintro r w2 ⟨rfl, rfl⟩))
      all_goals
        refine gen7 (w := w) (I := I') (J := J') key ?_
        exact ⟨bel_dr Q5.out.1, row_dr Q5.out.2.1, row_dr Q5.out.2.2.1, hg⟩
    clear R5 S5 F5 c50 c51 c10 c11 c20 c21 q0 q1 e50 e51 B5
    rintro w6 g6 ⟨B6, R6, S6, hg6⟩
    have c60 := cell7 R6 0 _ rfl
    have c61 := cell7 R6 1 _ rfl
    have q0 := fz (k := 0) S6
    have q1 := fz (k := 1) S6
    have d0 := cell7 S6 0 _ rfl
    have d1 := cell7 S6 1 _ rfl
    obtain ⟨E0, E1⟩ := set2_cells S6 (.int .u64 I') (.int .u64 J')
    go_wp2
    exact bodyPost_ret (v := .agg #[.int .u64 I', .int .u64 J']) (by simp [results, Tryz.results81, go_sem, E0, E1]) rfl ⟨rfl, set2_below B6 (by omega) _ _⟩
end Go.Proofs.YtkmlbjlaahcahaaGreatDoor
namespace Go.Proofs.YtkmlbjlaahcahaaGreatDoor
set_option maxRecDepth 100000
open Go.RowKit WMath

def pkHi (f : Int) (neg : Bool) (x a : Int) : Int := if neg then bits .or .u64 (bits .or .u64 (rHi x (IntKind.u64.wrap (fP f - 1))) a) (rHi 1 (fW f - 1)) else bits .or .u64 (rHi x (IntKind.u64.wrap (fP f - 1))) a
def pkLo (f : Int) (neg : Bool) (x b : Int) : Int := if neg then bits .or .u64 (bits .or .u64 (rLo x (IntKind.u64.wrap (fP f - 1))) b) (rLo 1 (fW f - 1)) else bits .or .u64 (rLo x (IntKind.u64.wrap (fP f - 1))) b

theorem s_pack_is (f x a b I J : Int) (neg : Bool) (hf : Is4 f) (hI : pkHi f neg x a = I) (hJ : pkLo f neg x b = J) (w : World) (hT : FAt w) :
    Calls Tryz.prog 81 #[.int .u8 f, .bool neg, .int .u64 x, .agg #[.int .u64 a, .int .u64 b]] w fun e w' => e = .returned (.agg #[.int .u64 I, .int .u64 J]) ∧ Below w.heap.size w w' := by
  subst hI hJ
  have k : 0 ≤ IntKind.u64.wrap (fP f - 1) ∧ IntKind.u64.wrap (fP f - 1) ≤ 18446744073709551615 ∧ 0 ≤ fW f - 1 ∧ fW f - 1 ≤ 127 ∧ fC f = 0 ∧ 0 ≤ f ∧ f ≤ 255 := by
    rcases hf with rfl | rfl | rfl | rfl <;> decide +kernel
  have h := s_pack_any f x a b _ _ _ _ _ _ _ _ _ _ _ _ neg k.2.2.2.2.2.1 k.2.2.2.2.2.2 k.2.2.2.2.1 rfl rfl k.1 k.2.1 rfl rfl rfl rfl rfl rfl k.2.2.1 k.2.2.2.1 rfl rfl rfl rfl w hT
  refine h.mono ?_
  rintro r w' ⟨rfl, b⟩
  refine ⟨?_, b⟩
  cases neg <;> rfl

theorem top7 {f : Int} (h : Is4 f) : IntKind.u64.wrap (IntKind.u64.wrap (2 ^ min (fW f - fP f).toNat 64) - 1) = (oV f : Int) := by
  rcases h with rfl | rfl | rfl | rfl <;> decide +kernel

theorem s_top_is (f : Int) (hf : Is4 f) (w : World) (hT : FAt w) :
    Calls Tryz.prog 82 #[.int .u8 f] w fun e w' => e = .returned (.int .u64 (oV f : Nat)) ∧ Below w.heap.size w w' :=
  s_top f _ _ _ _ (is4_ok hf).1 (is4_ok hf).2.1 rfl rfl rfl (is4_ok hf).2.2.2 (top7 hf) w hT

theorem pk_Inf {f : Int} (h : Is4 f) (neg : Bool) : pkHi f neg ((oV f : Nat)) (0) = ((bv7 (eInf f neg)).1 : Nat) ∧ pkLo f neg ((oV f : Nat)) (0) = ((bv7 (eInf f neg)).2 : Nat) := by
  rcases h with rfl | rfl | rfl | rfl <;> cases neg <;> decide +kernel
theorem pk_Zero {f : Int} (h : Is4 f) (neg : Bool) : pkHi f neg (0) (0) = ((bv7 (eZero f neg)).1 : Nat) ∧ pkLo f neg (0) (0) = ((bv7 (eZero f neg)).2 : Nat) := by
  rcases h with rfl | rfl | rfl | rfl <;> cases neg <;> decide +kernel
set_option maxHeartbeats 1000000 in
theorem s_inf (f : Int) (neg : Bool) (hf : Is4 f) (v : Nat) (hv : eInf f neg = v) (w : World) (hT : FAt w) :
    Calls Tryz.prog 25 #[.int .u8 f, .bool neg] w fun e w' => e = .returned (bitsV (bv7 v)) ∧ Below w.heap.size w w' := by
  subst hv
  have TT := box hT
  have P := box (pk_Inf hf neg)
  obtain ⟨x, y, hxy⟩ : ∃ x y, bv7 (eInf f neg) = (x, y) := ⟨_, _, rfl⟩
  rw [hxy] at P ⊢
  have e0 : bitsV (x, y) = .agg #[.int .u64 (x : Nat), .int .u64 (y : Nat)] := rfl
  rw [e0]
  have f4 := is4_ok hf
  clear hxy hT e0
  have R0 : (w.alloc (.cells #[.int .u64 0, .int .u64 0] 25)).heap[w.heap.size]? = some (.cells #[.int .u64 0, .int .u64 0] 25) := last7 _ _
  have B0 := bal7 w (.cells #[.int .u64 0, .int .u64 0] 25)
  go_enter Tryz.func25, Tryz.ntmps25
  go_wp2_with fail
  refine (s_top_is f hf _ (fatB TT.out B0)).mono ?_
  rintro r w1 ⟨rfl, b1⟩
  have B1 := btr7 B0 b1
  have R1 := heap_of b1 _ _ _ R0
  clear B0 R0 b1
  go_wp2_with fail
  refine (s_pack_is f _ 0 0 _ _ neg hf P.out.1 P.out.2 _ (fatB TT.out B1)).mono ?_
  rintro r w2 ⟨rfl, b2⟩
  have B2 := btr7 B1 b2
  have R2 := heap_of b2 _ _ _ R1
  clear B1 R1 b2
  have q0 := fz (k := 0) R2
  have q1 := fz (k := 1) R2
  have d0 := cell7 R2 0 _ rfl
  have d1 := cell7 R2 1 _ rfl
  obtain ⟨E0, E1⟩ := set2_cells R2 (.int .u64 x) (.int .u64 y)
  go_wp2
  exact bodyPost_ret (v := .agg #[.int .u64 x, .int .u64 y]) (by simp [results, Tryz.results25, go_sem, E0, E1]) rfl ⟨rfl, set2_below B2 (by omega) _ _⟩

set_option maxHeartbeats 1000000 in
theorem s_zero (f : Int) (neg : Bool) (hf : Is4 f) (v : Nat) (hv : eZero f neg = v) (w : World) (hT : FAt w) :
    Calls Tryz.prog 28 #[.int .u8 f, .bool neg] w fun e w' => e = .returned (bitsV (bv7 v)) ∧ Below w.heap.size w w' := by
  subst hv
  have TT := box hT
  have P := box (pk_Zero hf neg)
  obtain ⟨x, y, hxy⟩ : ∃ x y, bv7 (eZero f neg) = (x, y) := ⟨_, _, rfl⟩
  rw [hxy] at P ⊢
  have e0 : bitsV (x, y) = .agg #[.int .u64 (x : Nat), .int .u64 (y : Nat)] := rfl
  rw [e0]
  have f4 := is4_ok hf
  clear hxy hT e0
  have R0 : (w.alloc (.cells #[.int .u64 0, .int .u64 0] 25)).heap[w.heap.size]? = some (.cells #[.int .u64 0, .int .u64 0] 25) := last7 _ _
  have B0 := bal7 w (.cells #[.int .u64 0, .int .u64 0] 25)
  go_enter Tryz.func28, Tryz.ntmps28
  go_wp2_with fail
  refine (s_pack_is f 0 0 0 _ _ neg hf P.out.1 P.out.2 _ (fatB TT.out B0)).mono ?_
  rintro r w1 ⟨rfl, b1⟩
  have B1 := btr7 B0 b1
  have R1 := heap_of b1 _ _ _ R0
  clear B0 R0 b1
  have q0 := fz (k := 0) R1
  have q1 := fz (k := 1) R1
  have d0 := cell7 R1 0 _ rfl
  have d1 := cell7 R1 1 _ rfl
  obtain ⟨E0, E1⟩ := set2_cells R1 (.int .u64 x) (.int .u64 y)
  go_wp2
  exact bodyPost_ret (v := .agg #[.int .u64 x, .int .u64 y]) (by simp [results, Tryz.results28, go_sem, E0, E1]) rfl ⟨rfl, set2_below B1 (by omega) _ _⟩

end Go.Proofs.YtkmlbjlaahcahaaGreatDoor
namespace Go.Proofs.YtkmlbjlaahcahaaGreatDoor
set_option maxRecDepth 100000
open Go.RowKit WMath

theorem left_is (x : Nat) (n : Int) (v : Nat) (h : x * 2 ^ cnt n % 18446744073709551616 = v) (w : World) :
    Calls Tryz.prog 232 #[.int .u64 x, .int .i64 n] w fun e w' => e = .returned (.int .u64 (v : Nat)) ∧ w' = w := by
  subst h; exact left_any x n w
theorem right_is (x : Nat) (n : Int) (v : Nat) (h : x / 2 ^ cnt n = v) (w : World) :
    Calls Tryz.prog 230 #[.int .u64 x, .int .i64 n] w fun e w' => e = .returned (.int .u64 (v : Nat)) ∧ w' = w := by
  subst h; exact right_any x n w

set_option maxHeartbeats 1000000 in
theorem wup_any (n s : Nat) (hn : n < Q) (hs : s ≤ 384) (w : World) :
    Calls Tryz.prog 205 #[W n, .int .i64 s] w fun e w' => e = .returned (W (n * 2 ^ s % Q)) ∧ Below w.heap.size w w' := by
  unfold W
  have hat := cw_at 6
  have hz := cw6z
  have hf := cw6f
  have hx := ix6
  have hs0 := st0d
  have hsc := sc0d
  obtain ⟨q, hq⟩ : ∃ q, q = s / 64 := ⟨_, rfl⟩
  obtain ⟨r, hr⟩ : ∃ r, r = s % 64 := ⟨_, rfl⟩
  have hq1 : (s : Int) / 64 = (q : Int) := by omega
  have HR : Box ((s : Int) % 64 = (r : Int)) := box (by omega)
  have hr2 : r < 64 := by omega
  have hq2 : q ≤ 6 := by omega
  have HS : Box (s = 64 * q + r) := box (by omega)
  have hwr : IntKind.i64.wrap (64 - (s : Int) % 64) = 64 - (s : Int) % 64 := by rw [IntKind.wrap_i64]; omega
  clear hq hr
  go_enter Tryz.func205, Tryz.ntmps205
  go_wp2
  go_loopw [16] (fun i wr => ∃ (k X : Nat), k ≤ 6 ∧ i = .int .i64 k ∧ (∃ d, wr = ((w.alloc (.cells (cw 6 n) 53)).alloc (.cells (cw 6 X) 53)).drewN d) ∧ Box (X = (n % 2 ^ (64 * k)) * 2 ^ s % Q)) (fun i _ => 6 - (intOf i).toNat)
  case atStart => exact ⟨0, 0, by omega, rfl, ⟨0, rfl⟩, box (by simp [Nat.mod_one])⟩
  case round =>
    obtain ⟨k, X, hk, rfl, ⟨d, rfl⟩, HE⟩ := hrel
    by_cases hlt : k < 6
    · obtain ⟨t, ht⟩ : ∃ t, t = k + q := ⟨_, rfl⟩
      have ht1 : (k : Int) + (q : Int) = (t : Int) := by omega
      obtain ⟨lo, hlo⟩ : ∃ lo, wd n k * 2 ^ r % 18446744073709551616 = lo := ⟨_, rfl⟩
      obtain ⟨hi, hhi⟩ : ∃ hi, wd n k / 2 ^ (64 - r) = hi := ⟨_, rfl⟩
      have hlo2 : lo < 18446744073709551616 := by rw [← hlo]; exact Nat.mod_lt _ (by decide)
      have hhi2 : hi < 18446744073709551616 := by rw [← hhi]; exact Nat.lt_of_le_of_lt (Nat.div_le_self _ _) (wd_lt n k)
      have ST := box (up_step n k s q r t X lo hi HS.out hr2 ht HE.out hlo hhi)
      have HLO := box hlo
      have HHI := box hhi
      have HT := box ht
      clear hlo hhi ht
      have hc1 : cnt ((s : Int) % 64) = r := by rw [HR.out]; exact cnt_small r hr2
      have hc2 : cnt (64 - (s : Int) % 64) = 64 - r := by rw [HR.out]; unfold cnt; omega
      by_cases h1 : t < 6
      · obtain ⟨X1, hX1⟩ : ∃ X1, X1 = X ||| lo * 2 ^ (64 * t) := ⟨_, rfl⟩
        have hb1 := bor X t lo hlo2
        have hw1 := cw_or 6 X t lo X1 h1 hlo2 hX1
        have HX1 := box hX1
        clear hX1
        have e1 : lo * 2 ^ (64 * t) % Q = lo * 2 ^ (64 * t) := Nat.mod_eq_of_lt (sh_small lo t hlo2 h1)
        have E1 := box e1
        clear e1
        by_cases h2 : t + 1 < 6
        · obtain ⟨X2, hX2⟩ : ∃ X2, X2 = X1 ||| hi * 2 ^ (64 * (t + 1)) := ⟨_, rfl⟩
          have hb2 := bor X1 (t + 1) hi hhi2
          have hw2 := cw_or 6 X1 (t + 1) hi X2 h2 hhi2 hX2
          have HX2 := box hX2
          clear hX2
          have E2 := box (Nat.mod_eq_of_lt (sh_small hi (t + 1) hhi2 h2))
          go_wp2
          go_region_with (go_at_call 232; refine (left_is _ _ lo (by rw [hc1]; exact HLO.out) _).mono ?_; rintro e w' ⟨rfl, rfl⟩)
          all_goals go_wp2
          all_goals go_region_with (go_at_call 230; refine (right_is _ _ hi (by rw [hc2]; exact HHI.out) _).mono ?_; rintro e w' ⟨rfl, rfl⟩)
          all_goals go_wp2
          all_goals go_roundw
          all_goals first | (show (_ : Nat) < _; simp [intOf]; omega) | exact ⟨k + 1, X2, by omega, by go_num, ⟨_, rfl⟩, box (by rw [ST.out, E1.out, E2.out, HX2.out, HX1.out, Nat.or_assoc])⟩
        · have E2 := box (sh_big hi (t + 1) (by omega))
          go_wp2
          go_region_with (go_at_call 232; refine (left_is _ _ lo (by rw [hc1]; exact HLO.out) _).mono ?_; rintro e w' ⟨rfl, rfl⟩)
          all_goals go_wp2
          all_goals go_roundw
          all_goals first | (show (_ : Nat) < _; simp [intOf]; omega) | exact ⟨k + 1, X1, by omega, by go_num, ⟨_, rfl⟩, box (by rw [ST.out, E1.out, E2.out, HX1.out, Nat.or_zero])⟩
      · have E1 := box (sh_big lo t (by omega))
        have E2 := box (sh_big hi (t + 1) (by omega))
        have h3 : ¬ t + 1 < 6 := by omega
        go_wp2
        go_roundw
        case rel => exact ⟨k + 1, X, by omega, by go_num, ⟨_, rfl⟩, box (by rw [ST.out, E1.out, E2.out, Nat.or_zero, Nat.or_zero])⟩
        case measure => simp [intOf]; omega
    · go_wp2
      have e := HE.out
      rw [wlow n k hn (by omega)] at e
      subst e
      exact bodyPost_ret (v := .agg (cw 6 (n * 2 ^ s % Q))) (by simp [results, Tryz.results205, go_sem, hat, hf]) rfl ⟨rfl, below_drewN (((Below.refl _ _).alloc (Nat.le_refl _) _).alloc (by simp <;> omega) _) _⟩

set_option maxHeartbeats 1000000 in
theorem wdown_any (n s : Nat) (hn : n < Q) (hs : s ≤ 384) (w : World) :
    Calls Tryz.prog 210 #[W n, .int .i64 s] w fun e w' => e = .returned (W (n / 2 ^ s)) ∧ Below w.heap.size w w' := by
  unfold W
  have hat := cw_at 6
  have hz := cw6z
  have hf := cw6f
  have hx := ix6
  have hs0 := st0d
  have hsc := sc0d
  obtain ⟨q, hq⟩ : ∃ q, q = s / 64 := ⟨_, rfl⟩
  obtain ⟨r, hr⟩ : ∃ r, r = s % 64 := ⟨_, rfl⟩
  have hq1 : (s : Int) / 64 = (q : Int) := by omega
  have HR : Box ((s : Int) % 64 = (r : Int)) := box (by omega)
  have hr2 : r < 64 := by omega
  have hq2 : q ≤ 6 := by omega
  have HS : Box (s = 64 * q + r) := box (by omega)
  have hwr : IntKind.i64.wrap (64 - (s : Int) % 64) = 64 - (s : Int) % 64 := by rw [IntKind.wrap_i64]; omega
  clear hq hr
  go_enter Tryz.func210, Tryz.ntmps210
  go_wp2
  go_loopw [16] (fun i wr => ∃ (k X : Nat), k ≤ 6 ∧ i = .int .i64 k ∧ (∃ d, wr = ((w.alloc (.cells (cw 6 n) 53)).alloc (.cells (cw 6 X) 53)).drewN d) ∧ Box (X = (n % 2 ^ (64 * k)) / 2 ^ s)) (fun i _ => 6 - (intOf i).toNat)
  case atStart => exact ⟨0, 0, by omega, rfl, ⟨0, rfl⟩, box (by simp [Nat.mod_one])⟩
  case round =>
    obtain ⟨k, X, hk, rfl, ⟨d, rfl⟩, HE⟩ := hrel
    by_cases hlt : k < 6
    · obtain ⟨lo, hlo⟩ : ∃ lo, wd n k * 2 ^ (64 - r) % 18446744073709551616 = lo := ⟨_, rfl⟩
      obtain ⟨hi, hhi⟩ : ∃ hi, wd n k / 2 ^ r = hi := ⟨_, rfl⟩
      have hlo2 : lo < 18446744073709551616 := by rw [← hlo]; exact Nat.mod_lt _ (by decide)
      have hhi2 : hi < 18446744073709551616 := by rw [← hhi]; exact Nat.lt_of_le_of_lt (Nat.div_le_self _ _) (wd_lt n k)
      have ST := box (down_step n k s q r X lo hi HS.out hr2 HE.out hlo hhi)
      have HLO := box hlo
      have HHI := box hhi
      clear hlo hhi
      have hc1 : cnt ((s : Int) % 64) = r := by rw [HR.out]; exact cnt_small r hr2
      have hc2 : cnt (64 - (s : Int) % 64) = 64 - r := by rw [HR.out]; unfold cnt; omega
      by_cases h1 : q ≤ k
      · obtain ⟨t, ht⟩ : ∃ t, t = k - q := ⟨_, rfl⟩
        have ht1 : (k : Int) - (q : Int) = (t : Int) := by omega
        have ht6 : t < 6 := by omega
        have HT := box ht
        obtain ⟨X1, hX1⟩ : ∃ X1, X1 = X ||| hi * 2 ^ (64 * t) := ⟨_, rfl⟩
        have hb1 := bor X t hi hhi2
        have hw1 := cw_or 6 X t hi X1 ht6 hhi2 hX1
        have HX1 := box hX1
        clear hX1
        by_cases h2 : 1 ≤ t
        · obtain ⟨u, hu⟩ : ∃ u, u = t - 1 := ⟨_, rfl⟩
          have hu1 : (t : Int) - 1 = (u : Int) := by omega
          have hu6 : u < 6 := by omega
          have hu3 : (0 : Int) ≤ (u : Int) := by omega
          have E : Box (X ||| (hi * 2 ^ (64 * (k - q)) ||| lo * 2 ^ (64 * (k - q - 1))) = X1 ||| lo * 2 ^ (64 * u)) := box (by rw [HX1.out, show k - q - 1 = u by omega, show k - q = t by omega, Nat.or_assoc])
          have hqk : q < k := by omega
          clear ht hu
          obtain ⟨X2, hX2⟩ : ∃ X2, X2 = X1 ||| lo * 2 ^ (64 * u) := ⟨_, rfl⟩
          have hb2 := bor X1 u lo hlo2
          have hw2 := cw_or 6 X1 u lo X2 hu6 hlo2 hX2
          have HX2 := box hX2
          clear hX2
          go_wp2
          go_region_with (go_at_call 230; refine (right_is _ _ hi (by rw [hc1]; exact HHI.out) _).mono ?_; rintro e w' ⟨rfl, rfl⟩)
          all_goals go_wp2
          all_goals go_region_with (go_at_call 232; refine (left_is _ _ lo (by rw [hc2]; exact HLO.out) _).mono ?_; rintro e w' ⟨rfl, rfl⟩)
          all_goals go_wp2
          all_goals go_roundw
          all_goals first | (show (_ : Nat) < _; simp [intOf]; omega) | exact ⟨k + 1, X2, by omega, by go_num, ⟨_, rfl⟩, box (by rw [ST.out, if_pos hqk, E.out, HX2.out])⟩
        · obtain rfl : q = k := by omega
          obtain rfl : t = 0 := by omega
          have E : Box (X1 = X ||| hi) := box (by rw [HX1.out]; simp)
          clear ht
          go_wp2
          go_region_with (go_at_call 230; refine (right_is _ _ hi (by rw [hc1]; exact HHI.out) _).mono ?_; rintro e w' ⟨rfl, rfl⟩)
          all_goals go_wp2
          all_goals go_roundw
          all_goals first | (show (_ : Nat) < _; simp [intOf]; omega) | exact ⟨q + 1, X1, by omega, by go_num, ⟨_, rfl⟩, box (by rw [ST.out, E.out]; simp)⟩
      · have h4 : ¬ (0 : Int) ≤ (k : Int) - (q : Int) := by omega
        have h5 : ¬ (0 : Int) ≤ (k : Int) - (q : Int) - 1 := by omega
        go_wp2
        go_roundw
        case rel => exact ⟨k + 1, X, by omega, by go_num, ⟨_, rfl⟩, box (by rw [ST.out, if_neg (by omega), if_neg (by omega)])⟩
        case measure => simp [intOf]; omega
    · go_wp2
      have e := HE.out
      rw [wlow n k hn (by omega)] at e
      subst e
      exact bodyPost_ret (v := .agg (cw 6 (n / 2 ^ s))) (by simp [results, Tryz.results210, go_sem, hat, hf]) rfl ⟨rfl, below_drewN (((Below.refl _ _).alloc (Nat.le_refl _) _).alloc (by simp <;> omega) _) _⟩
end Go.Proofs.YtkmlbjlaahcahaaGreatDoor
namespace Go.Proofs.YtkmlbjlaahcahaaGreatDoor
set_option maxRecDepth 100000
open Go.RowKit WMath

theorem left_lost (n c x : Nat) (hx : x = n * 2 ^ c % Q) : (!decide (x / 2 ^ c = n)) = decide (Q ≤ n * 2 ^ c) := by
  by_cases h : n * 2 ^ c < Q
  · rw [hx, Nat.mod_eq_of_lt h, Nat.mul_div_cancel _ (Nat.two_pow_pos c), decide_eq_false (show ¬ Q ≤ n * 2 ^ c by omega)]
    simp
  · have h1 : x < Q := by rw [hx]; exact Nat.mod_lt _ Q_pos
    have h2 : x / 2 ^ c ≠ n := by
      intro e
      have := Nat.div_mul_le_self x (2 ^ c)
      rw [e] at this
      omega
    rw [decide_eq_true (show Q ≤ n * 2 ^ c by omega), decide_eq_false h2]
    rfl
theorem wleft_any (n : Nat) (s : Int) (hn : n < Q) (w : World) :
    Calls Tryz.prog 151 #[W n, .int .i64 s] w fun e w' => e = .returned (.tuple #[W (n * 2 ^ cnt6 s % Q), .bool (decide (Q ≤ n * 2 ^ cnt6 s))]) ∧ Below w.heap.size w w' := by
  have hs6 : cnt6 s ≤ 384 := by unfold cnt6; omega
  obtain ⟨x, hx⟩ : ∃ x, x = n * 2 ^ cnt6 s % Q := ⟨_, rfl⟩
  have hxQ : x < Q := by rw [hx]; exact Nat.mod_lt _ Q_pos
  unfold W
  have hat := cw_at 6
  have hz := cw6z
  have hf := cw6f
  have hW : ∀ x, W x = .agg (cw 6 x) := fun _ => rfl
  have heq := eq6
  have hg := eqg6
  have hdQ : x / 2 ^ cnt6 s < Q := Nat.lt_of_le_of_lt (Nat.div_le_self _ _) hxQ
  rw [← hx]
  have HX := box hx
  clear hx
  go_enter Tryz.func151, Tryz.ntmps151
  go_wp2_with (first | (go_at_call 209; refine (wcount_any _ _).mono ?_; rintro e w' ⟨rfl, rfl⟩))
  refine (wup_any n (cnt6 s) hn hs6 _).mono ?_
  rintro e w1 ⟨rfl, hb1⟩
  rw [← HX.out]
  unfold W
  have hr0 : w1.heap[w.heap.size]? = some (.cells (cw 6 n) 53) := heap_of hb1 _ _ _ (by rw [heap_below _ _ _ (by simp)]; exact heap_alloc_last w _)
  have hr1 : w1.heap[w.heap.size + 1]? = some (.cells (cw 6 0) 53) := heap_of hb1 _ _ _ (by rw [← size_al]; exact heap_alloc_last _ _)
  obtain ⟨w2, hw2⟩ : ∃ w2, w2 = w1.setRow (w.heap.size + 1) (cw 6 x) := ⟨_, rfl⟩
  have hst : (storeCells ⟨w.heap.size + 1, 0, none⟩ (cw 6 x).toList 0).run Tryz.prog w1 = .ok () w2 := by rw [hw2]; exact st_any w1 _ x 0 hr1
  have hq0 : w2.heap[w.heap.size]? = some (.cells (cw 6 n) 53) := by rw [hw2, setRow_other (by omega)]; exact hr0
  have hq1 : w2.heap[w.heap.size + 1]? = some (.cells (cw 6 x) 53) := by rw [hw2]; exact setRow_row hr1
  have hbw : Below w.heap.size w w2 := by
    rw [hw2]
    exact Below.setRow ((((Below.refl _ _).alloc (Nat.le_refl _) _).alloc (by simp) _).trans (hb1.mono (by simp <;> omega))) (by omega)
  have hs2 : w.heap.size + 1 < w2.heap.size := (Array.getElem?_eq_some_iff.1 hq1).1
  clear hb1 hr0 hr1 hw2
  obtain ⟨F, hF1, hF2⟩ := below_fun w2
  have hFn : ∀ u o, o < 6 → (F u).cell? ⟨w.heap.size, o, none⟩ = some (.int .u64 (wd n o : Nat)) := fun u => row_cell (heap_of (hF1 u) _ _ _ hq0)
  have hFx : ∀ u o, o < 6 → (F u).cell? ⟨w.heap.size + 1, o, none⟩ = some (.int .u64 (wd x o : Nat)) := fun u => row_cell (heap_of (hF1 u) _ _ _ hq1)
  have hFs : ∀ u, (storeCells ⟨w.heap.size + 1, 0, none⟩ (cw 6 x).toList 0).run Tryz.prog (F u) = .ok () (F u) := fun u => st_same _ _ _ (heap_of (hF1 u) _ _ _ hq1)
  go_wp2
  refine wp_region_below F hF2 (by kernel_rfl) (by kernel_rfl) ?_
  repeat quiet_step ((go_at_call 210; exact quietF hF1 hF2 (wdown_any x (cnt6 s) hxQ hs6 _)))
  refine wpQuiet_nil ?_
  rintro _ ⟨u, rfl⟩
  go_wp2
  exact bodyPost_ret (v := .tuple #[.agg (cw 6 x), .bool (!decide (x / 2 ^ cnt6 s = n))]) (by simp [results, Tryz.results151, go_sem, hFx, hf]) rfl ⟨by rw [left_lost n _ x HX.out], hbw.trans ((hF1 u).mono (by omega))⟩
theorem wleft_is (n v : Nat) (s : Int) (o : Bool) (hn : n < Q) (hv : n * 2 ^ cnt6 s % Q = v) (ho : decide (Q ≤ n * 2 ^ cnt6 s) = o) (w : World) :
    Calls Tryz.prog 151 #[.agg (cw 6 n), .int .i64 s] w fun e w' => e = .returned (.tuple #[.agg (cw 6 v), .bool o]) ∧ Below w.heap.size w w' := by
  subst hv; subst ho; exact wleft_any n s hn w
end Go.Proofs.YtkmlbjlaahcahaaGreatDoor
namespace Go.Proofs.YtkmlbjlaahcahaaGreatDoor
set_option maxRecDepth 100000
open Go.RowKit WMath

theorem wor_is (n m v : Nat) (hn : n < Q) (hm : m < Q) (hv : n ||| m = v) (w : World) :
    Calls Tryz.prog 153 #[.agg (cw 6 n), .agg (cw 6 m)] w fun e w' => e = .returned (.agg (cw 6 v)) ∧ Below w.heap.size w w' := by
  subst hv; exact wor_any n m hn hm w
theorem wlen_is (n l : Nat) (hn : n < Q) (hl : blen n = l) (w : World) :
    Calls Tryz.prog 99 #[.agg (cw 6 n)] w fun e w' => e = .returned (.int .i64 (l : Nat)) ∧ Below w.heap.size w w' := by
  subst hl; exact wlen_any n hn w

end Go.Proofs.YtkmlbjlaahcahaaGreatDoor
namespace Go.Proofs.YtkmlbjlaahcahaaGreatDoor
set_option maxRecDepth 100000
open Go.RowKit WMath

/-- The first boxes that a call has made, in their order; whatever was there before is as it was. -/
def RowsL (w wr : World) (l : List Nat) : Prop := (∀ i x, l[i]? = some x → wr.heap[w.heap.size + i]? = some (.cells (cw 6 x) 53)) ∧ Below w.heap.size w wr
theorem rowsL_nil (w : World) : RowsL w w [] := ⟨fun i x h => by simp at h, Below.refl _ _⟩
theorem rowsL_new {w wr : World} {l : List Nat} (h : RowsL w wr l) (hs : wr.heap.size = w.heap.size + l.length) (x : Nat) : RowsL w (wr.alloc (.cells (cw 6 x) 53)) (l ++ [x]) := by
  refine ⟨fun i y hy => ?_, h.2.alloc (by omega) _⟩
  rw [List.getElem?_append] at hy
  split at hy
  · rw [heap_below _ _ _ (by omega)]; exact h.1 i y hy
  · have e : i = l.length := by
      have := (List.getElem?_eq_some_iff.1 hy).1
      simp at this; omega
    subst e
    simp at hy
    subst hy
    rw [← hs]
    exact heap_alloc_last _ _
theorem rowsL_drew {w wr : World} {l : List Nat} (h : RowsL w wr l) (d : Nat) : RowsL w (wr.drewN d) l := ⟨h.1, below_drewN h.2 d⟩
theorem rowsL_set {w wr : World} {l l2 : List Nat} (h : RowsL w wr l) (i x b : Nat) (hi : i < l.length) (hb : b = w.heap.size + i) (hl : l2 = l.set i x) : RowsL w (wr.setRow b (cw 6 x)) l2 := by
  subst hb
  subst hl
  refine ⟨fun j y hy => ?_, Below.setRow h.2 (by omega)⟩
  by_cases e : i = j
  · subst e
    rw [List.getElem?_set_self hi] at hy
    cases hy
    exact setRow_row (h.1 i _ (List.getElem?_eq_getElem hi))
  · rw [List.getElem?_set_ne e] at hy
    rw [setRow_other (by omega)]
    exact h.1 j y hy

theorem rows0 {w wr : World} {x : Nat} {l : List Nat} (h : RowsL w wr (x :: l)) : wr.heap[w.heap.size]? = some (.cells (cw 6 x) 53) := h.1 0 _ rfl
theorem rows1 {w wr : World} {x y : Nat} {l : List Nat} (h : RowsL w wr (x :: y :: l)) : wr.heap[w.heap.size + 1]? = some (.cells (cw 6 y) 53) := h.1 1 _ rfl
theorem wrap_i64_is (n : Int) (h1 : -9223372036854775808 ≤ n) (h2 : n ≤ 9223372036854775807) : IntKind.i64.wrap n = n := by
  simp [IntKind.wrap, IntKind.bits, IntKind.signed]; omega

end Go.Proofs.YtkmlbjlaahcahaaGreatDoor
