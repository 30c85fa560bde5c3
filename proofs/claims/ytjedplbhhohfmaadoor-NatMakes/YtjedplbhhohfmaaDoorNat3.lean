/-
  What the functions Add, Sub, Of, OfWide, Len of the document's answer for layer 5 return.
-/
import Derived.Test.YtjedplbhhohfmaaDoorNat2
import Derived.Test.YtjedplbhhohfmaaDoorRlen
namespace Go.Proofs.YtjedplbhhohfmaaDoor
open Go.RowKit WMath

/-- A result, or that it is too long. -/
def lg (x : Nat) : ByteArray × Int := if nl x ≤ 16384 then (nbA x, 0) else (⟨#[]⟩, 4)
/-- A difference, or that there is none. -/
def sb (a b : Nat) : ByteArray × Int := if a < b then (⟨#[]⟩, 2) else (nbA (a - b), 0)

set_option maxHeartbeats 1000000 in
theorem nat_Of (x : Nat) (v : ByteArray) (hx : x < 18446744073709551616) (hv : nbA x = v) (w : World) :
    Calls Tryd.prog 10 #[.int .u64 (x : Nat)] w fun r w' => r = .returned (.string v) ∧ Below w.heap.size w w' := by
  have hmk := c8_makeI 8 8 rfl (by decide)
  have HV := box hv
  have HX : Box (x < 2 ^ (8 * 8)) := box hx
  clear hv
  go_enter Tryd.func10, Tryd.ntmps10
  go_wp2
  clear hmk
  go_loopw [4] (fun iv wr => ∃ i : Nat, i ≤ 8 ∧ iv = .int .i64 i ∧ wr.heap[w.heap.size]? = some (.cells (c8 8 (x % 2 ^ (8 * i))) 5) ∧ Below w.heap.size w wr) (fun iv _ => 8 - (intOf iv).toNat)
  case atStart => exact ⟨0, by omega, rfl, by rw [Nat.mul_zero, Nat.pow_zero, Nat.mod_one]; exact heap_alloc_last _ _, (Below.refl _ _).alloc (Nat.le_refl _) _⟩
  case round =>
    obtain ⟨i, hi, rfl, r0, hbw⟩ := hrel
    by_cases hlt : i < 8
    · obtain ⟨r, hr⟩ : ∃ r, 8 * i = r := ⟨_, rfl⟩
      obtain ⟨z, hz⟩ : ∃ z, d8 x i = z := ⟨_, rfl⟩
      have z256 : z < 256 := by rw [← hz]; exact d8_lt x i
      have e1 : IntKind.i64.wrap (8 * (i : Int)) = (r : Int) := by rw [wrap_i64_is _ (by omega) (by omega)]; omega
      have n4 : IntKind.u8.wrap ((x : Int) / 2 ^ r) = (z : Int) := by
        rw [div_cast]
        exact wrap_u8_is _ z (by rw [← hr]; exact hz)
      have c1 := c8_cell r0 hlt
      have f0 := fz (k := i) r0
      have RS : Box ((wr.setCell ⟨w.heap.size, i, none⟩ (.int .u8 (z : Int))).heap[w.heap.size]? = some (.cells (c8 8 (x % 2 ^ (8 * (i + 1)))) 5)) := box (by rw [setCell_row r0, c8_push 8 _ i z _ hlt (Nat.mod_lt _ (Nat.two_pow_pos _)) z256 rfl, mod_d8, hz])
      have r64 : r < 64 := by omega
      clear hr hz
      go_wp2
      go_roundw
      case rel => exact ⟨i + 1, by omega, by go_num, RS.out, hbw.setCell (Nat.le_refl _) _⟩
      case measure => simp [intOf] <;> omega
    · obtain rfl : i = 8 := by omega
      rw [Nat.mod_eq_of_lt HX.out] at r0
      go_wp2_with fail
      refine (nat_fit 8 x w.heap.size 8 v (by decide) HX.out HV.out _ r0).mono ?_
      rintro e w' ⟨rfl, hb2⟩
      go_wp2
      go_ret
      exact ⟨rfl, hbw.trans (hb2.mono hbw.size)⟩
end Go.Proofs.YtjedplbhhohfmaaDoor
