/-
  What the function Read of package wide returns.
-/
import Derived.Test.YtjedplbhhohfmabWide3
import Derived.Test.YtjedplbhhohfmabWide7
import Derived.Test.YtjedplbhhohfmabWide8
import Derived.Test.YtjedplbhhohfmabMx
namespace Go.Proofs.Ytjedplbhhohfmab
open Go.RowKit WMath

def digs : ByteArray := ⟨#[48, 49, 50, 51, 52, 53, 54, 55, 56, 57, 97, 98, 99, 100, 101, 102]⟩
def dvi (c : UInt8) : Int := match dv c with | some d => (d : Int) | none => -1
theorem first_dvi (c : UInt8) : firstIdx digs c = dvi c := by
  have key : ∀ c : Fin 256, firstIdx digs (UInt8.ofNat c.val) = dvi (UInt8.ofNat c.val) := by decide +kernel
  have := key ⟨c.toNat, c.toNat_lt⟩
  simpa using this

theorem idx2_any (c : UInt8) (w : World) :
    Calls Try.prog 38 #[.string digs, .int .u8 (c.toNat : Int)] w fun e w' => e = .returned (.int .i64 (dvi c)) ∧ w' = w := by
  have hx := run_indexByte_string (P := Try.prog) digs (c.toNat : Int)
  have hc : (c.toNat : Int).toNat.toUInt8 = c := by simp
  rw [hc, first_dvi] at hx
  go_enter Try.func38, Try.ntmps38
  go_wp2
  rw [run_callFunc_extern Try.func54 (by kernel_rfl) (by kernel_rfl) (by kernel_rfl) (e := Extern.BytealgIndexByte.indexByte) (by kernel_rfl), hx]
  simp only [Result.andThen]
  rw [Oper.upon_value]
  go_wp2
  go_ret
  exact ⟨rfl, rfl⟩
theorem idx_any (c : UInt8) (w : World) :
    Calls Try.prog 21 #[.string digs, .int .u8 (c.toNat : Int)] w fun e w' => e = .returned (.int .i64 (dvi c)) ∧ w' = w := by
  go_enter Try.func21, Try.ntmps21
  go_wp2_with (go_at_call 38; refine (idx2_any c _).mono ?_; rintro e w' ⟨rfl, rfl⟩)
  go_ret
  exact ⟨rfl, rfl⟩
theorem idx_is (c : UInt8) (i : Int) (h : dvi c = i) (w : World) :
    Calls Try.prog 21 #[.string ⟨#[48, 49, 50, 51, 52, 53, 54, 55, 56, 57, 97, 98, 99, 100, 101, 102]⟩, .int .u8 (c.toNat : Int)] w fun e w' => e = .returned (.int .i64 i) ∧ w' = w := by
  subst h; exact idx_any c w

/-- What is read out of a text: the number, and the error. -/
def rd (l : List UInt8) : Nat × Int := if l.length ≤ 96 then (match vals l with | some v => if tx v = l then (v, 0) else (0, 20) | none => (0, 20)) else (0, 20)

theorem rd_long (l : List UInt8) (h : ¬ l.length ≤ 96) : rd l = (0, 20) := by unfold rd; rw [if_neg h]
theorem rd_none (l : List UInt8) (h : vals l = none) : rd l = (0, 20) := by unfold rd; rw [h]; simp
theorem rd_other (l : List UInt8) (v : Nat) (h : vals l = some v) (h2 : tx v ≠ l) : rd l = (0, 20) := by unfold rd; rw [h]; simp [h2]
theorem rd_good (l : List UInt8) (v : Nat) (hl : l.length ≤ 96) (h : vals l = some v) (h2 : tx v = l) : rd l = (v, 0) := by unfold rd; rw [if_pos hl, h]; simp [h2]

end Go.Proofs.Ytjedplbhhohfmab
