/-
  The document's decimal digits of an int.
-/
import Derived.Test.YtknkkagapcigfaaDoorXL
import Derived.Lib.ItoaNum
import Derived.Lib.ItoaMem
namespace Go.Proofs.YtknkkagapcigfaaDoor
open Go.RowKit WMath XMath

def digs (n : Nat) : ByteArray := ⟨(Lib.decDigits n).toArray⟩
theorem digs_small (n : Nat) (h : n < 10) : Lib.decDigits n = [UInt8.ofNat (48 + n)] := by rw [Lib.decDigits, dif_pos h]
theorem digs_big (n : Nat) (h : ¬ n < 10) : Lib.decDigits n = Lib.decDigits (n / 10) ++ [UInt8.ofNat (48 + n % 10)] := by rw [Lib.decDigits, dif_neg h]

theorem nd_le : ∀ (k u : Nat), 1 ≤ k → u < 10 ^ k → Lib.nDigits u ≤ k := by
  intro k
  induction k with
  | zero => intro u h; omega
  | succ k ih =>
    intro u _ hu
    rw [Lib.nDigits]
    by_cases h : u < 10
    · rw [dif_pos h]; omega
    · rw [dif_neg h]
      by_cases hk : k = 0
      · subst hk; omega
      · have := ih (u / 10) (by omega) (by rw [Nat.pow_succ] at hu; omega)
        omega
def dig10 (r : Nat) : ByteArray := ⟨#[UInt8.ofNat (48 + r)]⟩
theorem ext10 (r : Nat) (h : r < 10) : (⟨#[48, 49, 50, 51, 52, 53, 54, 55, 56, 57]⟩ : ByteArray).extract r (r + 1) = dig10 r := by
  have h10 : r = 0 ∨ r = 1 ∨ r = 2 ∨ r = 3 ∨ r = 4 ∨ r = 5 ∨ r = 6 ∨ r = 7 ∨ r = 8 ∨ r = 9 := by omega
  rcases h10 with rfl | rfl | rfl | rfl | rfl | rfl | rfl | rfl | rfl | rfl <;> rfl
theorem slice10 (r : Nat) (h : r < 10) (w : World) : (Instr.slice 9 (.string ⟨#[48, 49, 50, 51, 52, 53, 54, 55, 56, 57]⟩) (some (.int .i64 (r : Int))) (some (.int .i64 ((r : Int) + 1))) none).run Tryd.prog w = .ok (.string (dig10 r)) w := by
  have := run_slice_string (P := Tryd.prog) w 9 ⟨#[48, 49, 50, 51, 52, 53, 54, 55, 56, 57]⟩ .i64 .i64 (r : Int) ((r : Int) + 1) Tryd.underlying9 (by omega) (by omega) (by show (r : Int) + 1 ≤ 10; omega)
  rw [this]
  have e : ((r : Int) + 1).toNat = r + 1 := by omega
  rw [e, Int.toNat_natCast, ext10 r h]
theorem dig_cons (r : Nat) (t : List UInt8) : dig10 r ++ (⟨t.toArray⟩ : ByteArray) = ⟨(UInt8.ofNat (48 + r) :: t).toArray⟩ := by
  unfold dig10
  apply ByteArray.ext
  simp
set_option maxHeartbeats 1000000 in
set_option maxRecDepth 100000 in
theorem t_number (n : Nat) (hn : n ≤ 9223372036854775807) (w : World) :
    Calls Tryd.prog 18 #[.int .i64 (n : Nat)] w fun r w' => r = .returned (.string (digs n)) ∧ Below w.heap.size w w' := by
  have d0 : decide ((n : Int) < 0) = false := by simp
  go_enter Tryd.func18, Tryd.ntmps18
  go_wp2
  go_loopw [0, 3] (fun nv sv wr => ∃ (m : Nat) (t : List UInt8), m ≤ n ∧ nv = .int .i64 (m : Nat) ∧ sv = .string ⟨t.toArray⟩ ∧ wr = w ∧ Box (Lib.decDigits n = Lib.decDigits m ++ t)) (fun nv _ _ => (intOf nv).toNat)
  case atStart => exact ⟨n, [], by omega, rfl, rfl, rfl, box (by simp)⟩
  case round =>
    obtain ⟨m, t, hm, rfl, rfl, rfl, HE⟩ := hrel
    by_cases h9 : 9 < m
    · obtain ⟨q, hq⟩ : ∃ q, m / 10 = q := ⟨_, rfl⟩
      obtain ⟨r, hr⟩ : ∃ r, m % 10 = r := ⟨_, rfl⟩
      have t1 : (m : Int).tmod 10 = (r : Int) := by rw [← hr]; rfl
      have t2 : (m : Int).tdiv 10 = (q : Int) := by rw [← hq]; rfl
      have t3 : r < 10 := by omega
      have d9 : decide ((9 : Int) < (m : Int)) = true := by simp; omega
      have hsl := slice10 r t3
      have hdc := dig_cons r t
      have hlen : t.length ≤ 20 := by
        have := congrArg List.length HE.out
        rw [List.length_append, Lib.decDigits_length] at this
        have := nd_le 20 n (by decide) (by omega)
        omega
      have hcat : ¬ 9223372036854775807 < (dig10 r).size + t.length := by
        have : (dig10 r).size = 1 := rfl
        omega
      go_wp2
      go_roundw
      case rel =>
        refine ⟨q, UInt8.ofNat (48 + r) :: t, by omega, rfl, ?_, trivial, box ?_⟩
        · simp
        · rw [HE.out, digs_big m (by omega), hq, hr, List.append_assoc]; rfl
      case measure => simp [intOf]; omega
    · have d9 : decide ((9 : Int) < (m : Int)) = false := by simp; omega
      have hsl := slice10 m (by omega)
      have hdc := dig_cons m t
      have hlen : t.length ≤ 20 := by
        have := congrArg List.length HE.out
        rw [List.length_append, Lib.decDigits_length] at this
        have := nd_le 20 n (by decide) (by omega)
        omega
      have hcat : ¬ 9223372036854775807 < (dig10 m).size + t.length := by
        have : (dig10 m).size = 1 := rfl
        omega
      have hw : IntKind.i64.wrap ((m : Int) + 1) = (m : Int) + 1 := by rw [IntKind.wrap_i64]; omega
      go_wp2
      go_ret
      refine ⟨?_, Below.refl _ _⟩
      unfold digs
      rw [HE.out, digs_small m (by omega)]
      simp

/-- The document's number, of every int that is not too far from nought. -/
theorem t_number_any (e : Int) (v : ByteArray) (h0 : -1000000000 ≤ e) (h1 : e ≤ 1000000000) (hv : (⟨(Lib.itoa e).toArray⟩ : ByteArray) = v) (w : World) :
    Calls Tryd.prog 18 #[.int .i64 e] w fun r w' => r = .returned (.string v) ∧ Below w.heap.size w w' := by
  by_cases h : 0 ≤ e
  · obtain ⟨n, rfl⟩ := Int.eq_ofNat_of_zero_le h
    have hh := t_number n (by omega) w
    unfold digs at hh
    rw [Lib.itoa_nonneg] at hv
    rw [hv] at hh
    exact hh
  · obtain ⟨n, rfl⟩ : ∃ n : Nat, e = -(n : Int) := ⟨e.natAbs, by omega⟩
    rw [Lib.itoa_neg n (by omega)] at hv
    have d0 : decide (-(n : Int) < 0) = true := by simp; omega
    have hw : IntKind.i64.wrap (n : Int) = (n : Int) := by rw [IntKind.wrap_i64]; omega
    have hd : (⟨#[45]⟩ : ByteArray) ++ digs n = v := by
      rw [← hv]; unfold digs; apply ByteArray.ext; simp
    have hlen : (digs n).size ≤ 20 := by
      have := nd_le 20 n (by decide) (by omega)
      have e : (digs n).size = (Lib.decDigits n).length := rfl
      rw [e, Lib.decDigits_length]; exact this
    have hcat : ¬ 9223372036854775807 < 1 + (digs n).size := by omega
    have KN := box (t_number n (by omega))
    obtain ⟨d, hdn⟩ : ∃ d, digs n = d := ⟨_, rfl⟩
    rw [hdn] at hd hlen hcat KN
    clear hv hdn
    go_enter Tryd.func18, Tryd.ntmps18
    go_wp2_with fail
    refine (KN.out _).mono ?_
    rintro r w2 ⟨rfl, b2⟩
    go_wp2
    go_ret
    exact ⟨rfl, b2⟩
end Go.Proofs.YtknkkagapcigfaaDoor
