/-
  The program's functions that make and turn exact numbers, and the document's, return the same.
-/
import Derived.Test.YthiongcednmjiaaDoorX6
import Derived.Test.YthiongcednmjiaaDoorY2
namespace Go.Proofs.YthiongcednmjiaaDoor
open Go.RowKit WMath XMath

theorem make_both (neg : Bool) (s t : ByteArray) (e : Int) : ∃ (rb : Bool) (u v : ByteArray) (re err : Int),
    (∀ w, TabAt w → Calls Tryd.prog 12 #[.bool neg, .string s, .string t, .int .i64 e] w fun r w' => r = .returned (.tuple #[.agg #[.bool rb, .string u, .string v, .int .i64 re], .int .i64 err]) ∧ Below w.heap.size w w') ∧ (∀ w : World, Calls Tryd.prog 13 #[.bool neg, .string s, .string t, .int .i64 e] w fun r w' => r = .returned (.tuple #[.agg #[.bool rb, .string u, .string v, .int .i64 re], .int .i64 err]) ∧ Below w.heap.size w w') := by
  by_cases h : mayB s = false ∨ mayB t = false ∨ t.size = 0 ∨ e < -1048576 ∨ 1048576 < e
  · exact ⟨_, _, _, _, _, fun w _ => makex_no neg s t e h w, fun w => rmake_no neg s t e h w⟩
  · have h1 : mayB s = true := by cases k : mayB s; exact absurd (Or.inl k) h; rfl
    have h2 : mayB t = true := by cases k : mayB t; exact absurd (Or.inr (Or.inl k)) h; rfl
    have h3 : t.size ≠ 0 := fun k => h (Or.inr (Or.inr (Or.inl k)))
    have h4 : ¬ (e < -1048576 ∨ 1048576 < e) := fun k => h (Or.inr (Or.inr (Or.inr k)))
    obtain ⟨n, hs, ln⟩ := mayB_is s h1
    obtain ⟨d, ht, ld⟩ := mayB_is t h2
    have d0 : d ≠ 0 := fun k => h3 (by rw [← ht, nbA_size, k, nl_zero])
    obtain ⟨⟨⟨rb, rn, rd, re⟩, err⟩, hr⟩ : ∃ q, XMath.mk neg n d e = q := ⟨_, rfl⟩
    exact ⟨rb, nbA rn, nbA rd, re, err, fun w hT => makex_ok neg n d e s t rb rn rd re err _ _ hs ht ln ld d0 (by omega) (by omega) hr rfl rfl w hT, fun w => rmake_ok neg n d e s t rb rn rd re err _ _ hs ht ln ld d0 (by omega) (by omega) hr rfl rfl w⟩
theorem mk_small (neg : Bool) (k : Nat) (h : k < 18446744073709551616) : ∃ rb rn rd re, XMath.mk neg k 1 0 = (⟨rb, rn, rd, re⟩, 0) := by
  obtain ⟨h1, _⟩ := mk_ok neg k 1 0 64 0 64 (by omega) (by decide) rfl (by decide) (by decide) rfl (by decide)
  obtain ⟨⟨⟨rb, rn, rd, re⟩, err⟩, hr⟩ : ∃ q, XMath.mk neg k 1 0 = q := ⟨_, rfl⟩
  rw [hr] at h1
  have h2 : err = 0 := h1
  subst h2
  exact ⟨rb, rn, rd, re, hr⟩
theorem word_both (x : Nat) (hx : x < 18446744073709551616) : ∃ (rb : Bool) (u v : ByteArray) (re : Int),
    (∀ w, TabAt w → Calls Tryd.prog 16 #[.int .u64 (x : Nat)] w fun r w' => r = .returned (.agg #[.bool rb, .string u, .string v, .int .i64 re]) ∧ Below w.heap.size w w') ∧ (∀ w : World, Calls Tryd.prog 17 #[.int .u64 (x : Nat)] w fun r w' => r = .returned (.agg #[.bool rb, .string u, .string v, .int .i64 re]) ∧ Below w.heap.size w w') := by
  obtain ⟨rb, rn, rd, re, hr⟩ := mk_small false x hx
  exact ⟨rb, _, _, re, fun w hT => Wordx x rb rn rd re _ _ hx hr rfl rfl w hT, fun w => rword x rb rn rd re _ _ hx hr rfl rfl w⟩
theorem whole_both (x : Int) (h1 : -9223372036854775808 ≤ x) (h2 : x ≤ 9223372036854775807) : ∃ (rb : Bool) (u v : ByteArray) (re : Int),
    (∀ w, TabAt w → Calls Tryd.prog 14 #[.int .i64 x] w fun r w' => r = .returned (.agg #[.bool rb, .string u, .string v, .int .i64 re]) ∧ Below w.heap.size w w') ∧ (∀ w : World, Calls Tryd.prog 15 #[.int .i64 x] w fun r w' => r = .returned (.agg #[.bool rb, .string u, .string v, .int .i64 re]) ∧ Below w.heap.size w w') := by
  obtain ⟨rb, rn, rd, re, hr⟩ := mk_small (decide (x < 0)) x.natAbs (by omega)
  exact ⟨rb, _, _, re, fun w hT => Wholex x rb rn rd re _ _ h1 h2 hr rfl rfl w hT, fun w => rwhole x rb rn rd re _ _ h1 h2 hr rfl rfl w⟩
theorem sign_both (b : Bool) (s t : ByteArray) (e : Int) : ∃ c : Int, (∀ w, TabAt w → Calls Tryd.prog 18 #[.agg #[.bool b, .string s, .string t, .int .i64 e]] w fun r w' => r = .returned (.int .i64 c) ∧ Below w.heap.size w w') ∧ (∀ w : World, Calls Tryd.prog 19 #[.agg #[.bool b, .string s, .string t, .int .i64 e]] w fun r w' => r = .returned (.int .i64 c) ∧ Below w.heap.size w w') := by
  by_cases h : MayX b s t e
  · obtain ⟨n, d, hs, ht, hc⟩ := h
    exact ⟨_, fun w hT => Signx_ok b n d e s t _ hs ht hc rfl w hT, fun w => rSign_ok b n d e s t _ hs ht hc rfl w⟩
  · exact ⟨0, fun w hT => Signx_no b e s t h w hT, fun w => rSign_no b e s t h w⟩
theorem neg_both (b : Bool) (s t : ByteArray) (e : Int) : ∃ (rb : Bool) (u v : ByteArray) (re : Int), (∀ w, TabAt w → Calls Tryd.prog 20 #[.agg #[.bool b, .string s, .string t, .int .i64 e]] w fun r w' => r = .returned (.agg #[.bool rb, .string u, .string v, .int .i64 re]) ∧ Below w.heap.size w w') ∧ (∀ w : World, Calls Tryd.prog 21 #[.agg #[.bool b, .string s, .string t, .int .i64 e]] w fun r w' => r = .returned (.agg #[.bool rb, .string u, .string v, .int .i64 re]) ∧ Below w.heap.size w w') := by
  by_cases h : MayX b s t e
  · obtain ⟨n, d, hs, ht, hc⟩ := h
    exact ⟨_, s, t, e, fun w hT => Negx_ok b n d e s t _ hs ht hc rfl w hT, fun w => rNeg_ok b n d e s t _ hs ht hc rfl w⟩
  · exact ⟨_, _, _, _, fun w hT => Negx_no b e s t h w hT, fun w => rNeg_no b e s t h w⟩
theorem abs_both (b : Bool) (s t : ByteArray) (e : Int) : ∃ (rb : Bool) (u v : ByteArray) (re : Int), (∀ w, TabAt w → Calls Tryd.prog 22 #[.agg #[.bool b, .string s, .string t, .int .i64 e]] w fun r w' => r = .returned (.agg #[.bool rb, .string u, .string v, .int .i64 re]) ∧ Below w.heap.size w w') ∧ (∀ w : World, Calls Tryd.prog 23 #[.agg #[.bool b, .string s, .string t, .int .i64 e]] w fun r w' => r = .returned (.agg #[.bool rb, .string u, .string v, .int .i64 re]) ∧ Below w.heap.size w w') := by
  by_cases h : MayX b s t e
  · obtain ⟨n, d, hs, ht, hc⟩ := h
    exact ⟨_, s, t, e, fun w hT => Absx_ok b n d e s t hs ht hc w hT, fun w => rAbs_ok b n d e s t hs ht hc w⟩
  · exact ⟨_, _, _, _, fun w hT => Absx_no b e s t h w hT, fun w => rAbs_no b e s t h w⟩
end Go.Proofs.YthiongcednmjiaaDoor
