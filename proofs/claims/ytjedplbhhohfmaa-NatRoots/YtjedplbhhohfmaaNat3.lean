/-
  What the functions Add, Sub, Of, OfWide, Len of the document's answer for layer 5 return.
-/
import Derived.Test.YtjedplbhhohfmaaNat2
import Derived.Test.YtjedplbhhohfmaaGx
namespace Go.Proofs.Ytjedplbhhohfmaa
open Go.RowKit WMath

/-- A result, or that it is too long. -/
def lg (x : Nat) : ByteArray × Int := if nl x ≤ 16384 then (nbA x, 0) else (⟨#[]⟩, 4)
/-- A difference, or that there is none. -/
def sb (a b : Nat) : ByteArray × Int := if a < b then (⟨#[]⟩, 2) else (nbA (a - b), 0)

theorem nat_long (x : Nat) (s v : ByteArray) (e : Int) (hs : nbA x = s) (hr : lg x = (v, e)) (w : World) :
    Calls Try.prog 34 #[.string s] w fun r w' => r = .returned (.tuple #[.string v, .int .i64 e]) ∧ w' = w := by
  have hz : s.size = nl x := by rw [← hs, nbA_size]
  unfold lg at hr
  by_cases h : nl x ≤ 16384
  · rw [if_pos h] at hr
    injection hr with h1 h2
    subst h2
    rw [← h1, hs]
    exact nat_long_ok s (by omega) w
  · rw [if_neg h] at hr
    injection hr with h1 h2
    subst h2 h1
    exact nat_long_no s (by omega) w

theorem nat_Add (a b : Nat) (s t v : ByteArray) (e : Int) (hs : nbA a = s) (ht : nbA b = t) (hr : lg (a + b) = (v, e)) (ha : nl a ≤ 20000) (hb : nl b ≤ 20000) (w : World) :
    Calls Try.prog 12 #[.string s, .string t] w fun r w' => r = .returned (.tuple #[.string v, .int .i64 e]) ∧ Below w.heap.size w w' := by
  obtain ⟨u, hu⟩ : ∃ u, nbA (a + b) = u := ⟨_, rfl⟩
  have HU := box hu
  have HR := box hr
  clear hu hr
  go_enter Try.func12, Try.ntmps12
  go_wp2_with fail
  refine (nat_add a b s t u hs ht HU.out ha hb _).mono ?_
  rintro r w1 ⟨rfl, hb1⟩
  go_wp2_with fail
  refine (nat_long (a + b) u v e HU.out HR.out _).mono ?_
  rintro r w' ⟨rfl, rfl⟩
  go_wp2
  go_ret2
  exact ⟨rfl, hb1⟩

theorem nat_Sub (a b : Nat) (s t v : ByteArray) (e : Int) (hs : nbA a = s) (ht : nbA b = t) (hr : sb a b = (v, e)) (ha : nl a ≤ 20000) (w : World) :
    Calls Try.prog 13 #[.string s, .string t] w fun r w' => r = .returned (.tuple #[.string v, .int .i64 e]) ∧ Below w.heap.size w w' := by
  obtain ⟨c, hc⟩ : ∃ c, cmpv a b = c := ⟨_, rfl⟩
  unfold sb at hr
  have HC := box hc
  by_cases h : a < b
  · rw [if_pos h] at hr
    injection hr with h1 h2
    subst h1 h2
    have d : decide (c < 0) = true := by rw [← hc]; unfold cmpv; rw [if_neg (by omega), if_pos h]; rfl
    clear hc h
    go_enter Try.func13, Try.ntmps13
    go_wp2_with fail
    refine (nat_cmp a b s t c hs ht HC.out _).mono ?_
    rintro r w' ⟨rfl, rfl⟩
    go_wp2
    go_ret2
    exact ⟨rfl, Below.refl _ _⟩
  · rw [if_neg h] at hr
    injection hr with h1 h2
    subst h2
    have d : decide (c < 0) = false := by
      rw [← hc]; unfold cmpv
      by_cases e : a = b
      · rw [if_pos e]; rfl
      · rw [if_neg e, if_neg h]; rfl
    have HD := box h1
    have HBA : Box (b ≤ a) := box (by omega)
    clear hc h h1
    go_enter Try.func13, Try.ntmps13
    go_wp2_with fail
    refine (nat_cmp a b s t c hs ht HC.out _).mono ?_
    rintro r w' ⟨rfl, rfl⟩
    go_wp2_with fail
    refine (nat_sub a b s t v hs ht HD.out HBA.out ha _).mono ?_
    rintro r w1 ⟨rfl, hb1⟩
    go_wp2
    go_ret2
    exact ⟨rfl, hb1⟩

set_option maxHeartbeats 1000000 in
theorem nat_Of (x : Nat) (v : ByteArray) (hx : x < 18446744073709551616) (hv : nbA x = v) (w : World) :
    Calls Try.prog 47 #[.int .u64 (x : Nat)] w fun r w' => r = .returned (.string v) ∧ Below w.heap.size w w' := by
  have hmk := c8_makeI 8 8 rfl (by decide)
  have HV := box hv
  have HX : Box (x < 2 ^ (8 * 8)) := box hx
  clear hv
  go_enter Try.func47, Try.ntmps47
  go_wp2
  clear hmk
  go_loopw [4] (fun iv wr => ∃ i : Nat, i ≤ 8 ∧ iv = .int .i64 i ∧ wr.heap[w.heap.size]? = some (.cells (c8 8 (x % 2 ^ (8 * i))) 5) ∧ Below w.heap.size w wr) (fun iv _ => 8 - (intOf iv).toNat)
  case atStart => exact ⟨0, by omega, rfl, by rw [Nat.mul_zero, Nat.pow_zero, Nat.mod_one]; exact heap_alloc_last _ _, (Below.refl _ _).alloc (Nat.le_refl _) _⟩
  case round =>
    obtain ⟨i, hi, rfl, r0, hbw⟩ := hrel
    by_cases hlt : i < 8
    · obtain ⟨r, hr⟩ : ∃ r, 8 * i = r := ⟨_, rfl⟩
      obtain ⟨z, hz⟩ : ∃ z, d8 x i = z := ⟨_, rfl⟩
      have z256 : z < 256 := by rw [← hz]; exact d8_lt x i
      have e1 : IntKind.i64.wrap (8 * (i : Int)) = (r : Int) := by rw [wrap_i64_is _ (by omega) (by omega)]; omega
      have n4 : IntKind.u8.wrap ((x : Int) / 2 ^ r) = (z : Int) := by
        rw [div_cast]
        exact wrap_u8_is _ z (by rw [← hr]; exact hz)
      have c1 := c8_cell r0 hlt
      have f0 := fz (k := i) r0
      have RS : Box ((wr.setCell ⟨w.heap.size, i, none⟩ (.int .u8 (z : Int))).heap[w.heap.size]? = some (.cells (c8 8 (x % 2 ^ (8 * (i + 1)))) 5)) := box (by rw [setCell_row r0, c8_push 8 _ i z _ hlt (Nat.mod_lt _ (Nat.two_pow_pos _)) z256 rfl, mod_d8, hz])
      have r64 : r < 64 := by omega
      clear hr hz
      go_wp2
      go_roundw
      case rel => exact ⟨i + 1, by omega, by go_num, RS.out, hbw.setCell (Nat.le_refl _) _⟩
      case measure => simp [intOf] <;> omega
    · obtain rfl : i = 8 := by omega
      rw [Nat.mod_eq_of_lt HX.out] at r0
      go_wp2_with fail
      refine (nat_fit 8 x w.heap.size 8 v (by decide) HX.out HV.out _ r0).mono ?_
      rintro e w' ⟨rfl, hb2⟩
      go_wp2
      go_ret
      exact ⟨rfl, hbw.trans (hb2.mono hbw.size)⟩
end Go.Proofs.Ytjedplbhhohfmaa
