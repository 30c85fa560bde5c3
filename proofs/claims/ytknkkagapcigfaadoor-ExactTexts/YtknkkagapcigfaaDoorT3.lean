/-
  The texts of exact numbers, of the program and of the document.
-/
import Derived.Test.YtknkkagapcigfaaDoorT2
import Derived.Test.YtknkkagapcigfaaDoorX5
import Derived.Test.YtknkkagapcigfaaDoorNat9
namespace Go.Proofs.YtknkkagapcigfaaDoor
open Go.RowKit WMath XMath
set_option linter.unusedVariables false

theorem txl (n : Nat) (h : nl n ≤ 16384) : (tx n).length ≤ 32769 := by
  unfold tx
  rw [hxs_len]
  unfold nl at h
  unfold nd
  omega

/-- The pieces of a text, one behind the other. -/
structure Cats (a p q r v1 v2 v3 v4 v : ByteArray) : Prop where
  e1 : a ++ p = v1
  e2 : v1 ++ ⟨#[47]⟩ = v2
  e3 : v2 ++ q = v3
  e4 : v3 ++ ⟨#[112]⟩ = v4
  e5 : v4 ++ r = v
  s1 : ¬ 9223372036854775807 < a.size + p.size
  s2 : ¬ 9223372036854775807 < v1.size + 1
  s3 : ¬ 9223372036854775807 < v2.size + q.size
  s4 : ¬ 9223372036854775807 < v3.size + 1
  s5 : ¬ 9223372036854775807 < v4.size + r.size
theorem cats (a p q r : ByteArray) (ha : a.size ≤ 1) (hp : p.size ≤ 40000) (hq : q.size ≤ 40000) (hr : r.size ≤ 40000) : ∃ v1 v2 v3 v4 v, Cats a p q r v1 v2 v3 v4 v := by
  refine ⟨_, _, _, _, _, rfl, rfl, rfl, rfl, rfl, ?_, ?_, ?_, ?_, ?_⟩
  all_goals try simp only [ByteArray.size_append, show (⟨#[47]⟩ : ByteArray).size = 1 from rfl, show (⟨#[112]⟩ : ByteArray).size = 1 from rfl]
  all_goals omega

theorem itoa_len (e : Int) (h0 : -1048576 ≤ e) (h1 : e ≤ 1048576) : (⟨(Lib.itoa e).toArray⟩ : ByteArray).size ≤ 40000 := by
  have h : (⟨(Lib.itoa e).toArray⟩ : ByteArray).size = (Lib.itoa e).length := rfl
  rw [h]
  by_cases hn : 0 ≤ e
  · obtain ⟨n, rfl⟩ := Int.eq_ofNat_of_zero_le hn
    rw [Lib.itoa_nonneg, Lib.decDigits_length]
    have := nd_le 20 n (by decide) (by omega)
    omega
  · obtain ⟨n, rfl⟩ : ∃ n : Nat, e = -(n : Int) := ⟨e.natAbs, by omega⟩
    rw [Lib.itoa_neg n (by omega), List.length_cons, Lib.decDigits_length]
    have := nd_le 20 n (by decide) (by omega)
    omega

set_option maxHeartbeats 1000000 in
theorem Textx_no (b : Bool) (e : Int) (s t : ByteArray) (h : ¬ MayX b s t e) (w : World) (hT : TabAt w) : Calls Tryd.prog 6 #[.agg #[.bool b, .string s, .string t, .int .i64 e]] w fun r w' => r = .returned (.tuple #[.string ⟨#[]⟩, .int .i64 2]) ∧ Below w.heap.size w w' := by
  have M1 := box (may_no h)
  have TT := box hT
  clear h hT
  have Rx_0 : (w.alloc (Obj.cells #[.bool b, .string s, .string t, .int .i64 e] 24)).heap[w.heap.size]? = some (Obj.cells #[.bool b, .string s, .string t, .int .i64 e] 24) := by have := heap_alloc_last w (Obj.cells #[.bool b, .string s, .string t, .int .i64 e] 24); simpa only [size_al] using this
  have B0 : Below w.heap.size w (w.alloc (Obj.cells #[.bool b, .string s, .string t, .int .i64 e] 24)) := ((Below.refl _ _).alloc (by first | omega | (simp only [size_al]; omega)) _)
  go_enter Tryd.func6, Tryd.ntmps6
  go_wp2_with fail
  refine (xmay1 _ _ _ _ false M1.out _ (w.alloc (Obj.cells #[.bool b, .string s, .string t, .int .i64 e] 24)) _ (by simp only [size_al]) (tabB TT.out B0)).mono ?_
  rintro r w1 ⟨rfl, b1⟩
  have B1 : Below w.heap.size w w1 := btr B0 b1
  have Rx_1 : w1.heap[w.heap.size]? = some (Obj.cells #[.bool b, .string s, .string t, .int .i64 e] 24) := heap_of b1 _ _ _ Rx_0
  clear b1 B0 Rx_0
  have cx_1_0 := cells4 Rx_1 0 _ rfl
  have cx_1_1 := cells4 Rx_1 1 _ rfl
  have cx_1_2 := cells4 Rx_1 2 _ rfl
  have cx_1_3 := cells4 Rx_1 3 _ rfl
  go_wp2
  go_ret2
  exact ⟨rfl, B1⟩

set_option maxHeartbeats 1000000 in
theorem Textx_ok (b : Bool) (n d : Nat) (e : Int) (s t a p q r v1 v2 v3 v4 v : ByteArray) (hs : nbA n = s) (ht : nbA d = t) (hc : (XN.mk b n d e).can) (ha : (if b then ⟨#[45]⟩ else ⟨#[]⟩) = a)
    (hp : (⟨(tx n).toArray⟩ : ByteArray) = p) (hq : (⟨(tx d).toArray⟩ : ByteArray) = q) (hr : (⟨(Lib.itoa e).toArray⟩ : ByteArray) = r) (hv : Cats a p q r v1 v2 v3 v4 v) (w : World) (hT : TabAt w) (hP : P10 w) :
    Calls Tryd.prog 6 #[.agg #[.bool b, .string s, .string t, .int .i64 e]] w fun r w' => r = .returned (.tuple #[.string v, .int .i64 0]) ∧ Below w.heap.size w w' := by
  have M1 := box (may_yes hs ht hc)
  have TT := box hT
  have PP := box hP
  have he : -1048576 ≤ e ∧ e ≤ 1048576 := ⟨hc.2.2.1, hc.2.2.2.1⟩
  have K1 := box (pn_text_ok n s p hs hc.1 hp)
  have K2 := box (pn_text_ok d t q ht hc.2.1 hq)
  have K3 := box (fun w hw => t_itoa e r (by omega) (by omega) hr w hw)
  obtain ⟨e1, e2, e3, e4, e5, s1, s2, s3, s4, s5⟩ := hv
  clear hs ht hc hT hP hp hq hr he
  cases b
  · have ha : (⟨#[]⟩ : ByteArray) = a := ha
    subst ha
    have e1' : p = v1 := by rw [← e1]; apply ByteArray.ext; simp
    subst e1'
    have s1' : ¬ 9223372036854775807 < p.size := by
      have : (⟨#[]⟩ : ByteArray).size = 0 := rfl
      omega
    have Rx_0 : (w.alloc (Obj.cells #[.bool false, .string s, .string t, .int .i64 e] 24)).heap[w.heap.size]? = some (Obj.cells #[.bool false, .string s, .string t, .int .i64 e] 24) := by have := heap_alloc_last w (Obj.cells #[.bool false, .string s, .string t, .int .i64 e] 24); simpa only [size_al] using this
    have B0 : Below w.heap.size w (w.alloc (Obj.cells #[.bool false, .string s, .string t, .int .i64 e] 24)) := ((Below.refl _ _).alloc (by first | omega | (simp only [size_al]; omega)) _)
    go_enter Tryd.func6, Tryd.ntmps6
    go_wp2_with fail
    refine (xmay1 _ _ _ _ true M1.out _ (w.alloc (Obj.cells #[.bool false, .string s, .string t, .int .i64 e] 24)) _ (by simp only [size_al]) (tabB TT.out B0)).mono ?_
    rintro r w1 ⟨rfl, b1⟩
    have B1 : Below w.heap.size w w1 := btr B0 b1
    have Rx_1 : w1.heap[w.heap.size]? = some (Obj.cells #[.bool false, .string s, .string t, .int .i64 e] 24) := heap_of b1 _ _ _ Rx_0
    clear b1 B0 Rx_0
    have cx_1_0 := cells4 Rx_1 0 _ rfl
    have cx_1_1 := cells4 Rx_1 1 _ rfl
    have cx_1_2 := cells4 Rx_1 2 _ rfl
    have cx_1_3 := cells4 Rx_1 3 _ rfl
    go_wp2_with fail
    refine (K1.out _).mono ?_
    rintro r w2 ⟨rfl, b2⟩
    have B2 : Below w.heap.size w w2 := btr B1 b2
    have Rx_2 : w2.heap[w.heap.size]? = some (Obj.cells #[.bool false, .string s, .string t, .int .i64 e] 24) := heap_of b2 _ _ _ Rx_1
    clear b2 B1 Rx_1 cx_1_0 cx_1_1 cx_1_2 cx_1_3
    have cx_2_0 := cells4 Rx_2 0 _ rfl
    have cx_2_1 := cells4 Rx_2 1 _ rfl
    have cx_2_2 := cells4 Rx_2 2 _ rfl
    have cx_2_3 := cells4 Rx_2 3 _ rfl
    go_wp2_with fail
    refine (K2.out _).mono ?_
    rintro r w3 ⟨rfl, b3⟩
    have B3 : Below w.heap.size w w3 := btr B2 b3
    have Rx_3 : w3.heap[w.heap.size]? = some (Obj.cells #[.bool false, .string s, .string t, .int .i64 e] 24) := heap_of b3 _ _ _ Rx_2
    clear b3 B2 Rx_2 cx_2_0 cx_2_1 cx_2_2 cx_2_3
    have cx_3_0 := cells4 Rx_3 0 _ rfl
    have cx_3_1 := cells4 Rx_3 1 _ rfl
    have cx_3_2 := cells4 Rx_3 2 _ rfl
    have cx_3_3 := cells4 Rx_3 3 _ rfl
    go_wp2_with fail
    refine (K3.out _ (p10B PP.out B3)).mono ?_
    rintro r w4 ⟨rfl, b4⟩
    have B4 : Below w.heap.size w w4 := btr B3 b4
    have Rx_4 : w4.heap[w.heap.size]? = some (Obj.cells #[.bool false, .string s, .string t, .int .i64 e] 24) := heap_of b4 _ _ _ Rx_3
    clear b4 B3 Rx_3 cx_3_0 cx_3_1 cx_3_2 cx_3_3
    have cx_4_0 := cells4 Rx_4 0 _ rfl
    have cx_4_1 := cells4 Rx_4 1 _ rfl
    have cx_4_2 := cells4 Rx_4 2 _ rfl
    have cx_4_3 := cells4 Rx_4 3 _ rfl
    go_wp2
    go_ret2
    exact ⟨rfl, B4⟩
  · have ha : (⟨#[45]⟩ : ByteArray) = a := ha
    subst ha
    have s1' : ¬ 9223372036854775807 < 1 + p.size := s1
    have Rx_0 : (w.alloc (Obj.cells #[.bool true, .string s, .string t, .int .i64 e] 24)).heap[w.heap.size]? = some (Obj.cells #[.bool true, .string s, .string t, .int .i64 e] 24) := by have := heap_alloc_last w (Obj.cells #[.bool true, .string s, .string t, .int .i64 e] 24); simpa only [size_al] using this
    have B0 : Below w.heap.size w (w.alloc (Obj.cells #[.bool true, .string s, .string t, .int .i64 e] 24)) := ((Below.refl _ _).alloc (by first | omega | (simp only [size_al]; omega)) _)
    go_enter Tryd.func6, Tryd.ntmps6
    go_wp2_with fail
    refine (xmay1 _ _ _ _ true M1.out _ (w.alloc (Obj.cells #[.bool true, .string s, .string t, .int .i64 e] 24)) _ (by simp only [size_al]) (tabB TT.out B0)).mono ?_
    rintro r w1 ⟨rfl, b1⟩
    have B1 : Below w.heap.size w w1 := btr B0 b1
    have Rx_1 : w1.heap[w.heap.size]? = some (Obj.cells #[.bool true, .string s, .string t, .int .i64 e] 24) := heap_of b1 _ _ _ Rx_0
    clear b1 B0 Rx_0
    have cx_1_0 := cells4 Rx_1 0 _ rfl
    have cx_1_1 := cells4 Rx_1 1 _ rfl
    have cx_1_2 := cells4 Rx_1 2 _ rfl
    have cx_1_3 := cells4 Rx_1 3 _ rfl
    go_wp2_with fail
    refine (K1.out _).mono ?_
    rintro r w2 ⟨rfl, b2⟩
    have B2 : Below w.heap.size w w2 := btr B1 b2
    have Rx_2 : w2.heap[w.heap.size]? = some (Obj.cells #[.bool true, .string s, .string t, .int .i64 e] 24) := heap_of b2 _ _ _ Rx_1
    clear b2 B1 Rx_1 cx_1_0 cx_1_1 cx_1_2 cx_1_3
    have cx_2_0 := cells4 Rx_2 0 _ rfl
    have cx_2_1 := cells4 Rx_2 1 _ rfl
    have cx_2_2 := cells4 Rx_2 2 _ rfl
    have cx_2_3 := cells4 Rx_2 3 _ rfl
    go_wp2_with fail
    refine (K2.out _).mono ?_
    rintro r w3 ⟨rfl, b3⟩
    have B3 : Below w.heap.size w w3 := btr B2 b3
    have Rx_3 : w3.heap[w.heap.size]? = some (Obj.cells #[.bool true, .string s, .string t, .int .i64 e] 24) := heap_of b3 _ _ _ Rx_2
    clear b3 B2 Rx_2 cx_2_0 cx_2_1 cx_2_2 cx_2_3
    have cx_3_0 := cells4 Rx_3 0 _ rfl
    have cx_3_1 := cells4 Rx_3 1 _ rfl
    have cx_3_2 := cells4 Rx_3 2 _ rfl
    have cx_3_3 := cells4 Rx_3 3 _ rfl
    go_wp2_with fail
    refine (K3.out _ (p10B PP.out B3)).mono ?_
    rintro r w4 ⟨rfl, b4⟩
    have B4 : Below w.heap.size w w4 := btr B3 b4
    have Rx_4 : w4.heap[w.heap.size]? = some (Obj.cells #[.bool true, .string s, .string t, .int .i64 e] 24) := heap_of b4 _ _ _ Rx_3
    clear b4 B3 Rx_3 cx_3_0 cx_3_1 cx_3_2 cx_3_3
    have cx_4_0 := cells4 Rx_4 0 _ rfl
    have cx_4_1 := cells4 Rx_4 1 _ rfl
    have cx_4_2 := cells4 Rx_4 2 _ rfl
    have cx_4_3 := cells4 Rx_4 3 _ rfl
    go_wp2
    go_ret2
    exact ⟨rfl, B4⟩

set_option maxHeartbeats 1000000 in
theorem rtext_ok (b : Bool) (n d : Nat) (e : Int) (s t a p q r v1 v2 v3 v4 v : ByteArray) (hs : nbA n = s) (ht : nbA d = t) (hc : (XN.mk b n d e).can) (ha : (if b then ⟨#[45]⟩ else ⟨#[]⟩) = a)
    (hp : (⟨(tx n).toArray⟩ : ByteArray) = p) (hq : (⟨(tx d).toArray⟩ : ByteArray) = q) (hr : (⟨(Lib.itoa e).toArray⟩ : ByteArray) = r) (hv : Cats a p q r v1 v2 v3 v4 v) (w : World) :
    Calls Tryd.prog 8 #[.agg #[.bool b, .string s, .string t, .int .i64 e]] w fun r w' => r = .returned (.string v) ∧ Below w.heap.size w w' := by
  have he : -1048576 ≤ e ∧ e ≤ 1048576 := ⟨hc.2.2.1, hc.2.2.2.1⟩
  have K1 := box (nat_Text n s p hs hc.1 hp)
  have K2 := box (nat_Text d t q ht hc.2.1 hq)
  have K3 := box (t_number_any e r (by omega) (by omega) hr)
  obtain ⟨e1, e2, e3, e4, e5, s1, s2, s3, s4, s5⟩ := hv
  clear hs ht hc hp hq hr he
  cases b
  · have ha : (⟨#[]⟩ : ByteArray) = a := ha
    subst ha
    have e1' : p = v1 := by rw [← e1]; apply ByteArray.ext; simp
    subst e1'
    have s1' : ¬ 9223372036854775807 < p.size := by
      have : (⟨#[]⟩ : ByteArray).size = 0 := rfl
      omega
    have Rx_0 : (w.alloc (Obj.cells #[.bool false, .string s, .string t, .int .i64 e] 24)).heap[w.heap.size]? = some (Obj.cells #[.bool false, .string s, .string t, .int .i64 e] 24) := by have := heap_alloc_last w (Obj.cells #[.bool false, .string s, .string t, .int .i64 e] 24); simpa only [size_al] using this
    have B0 : Below w.heap.size w (w.alloc (Obj.cells #[.bool false, .string s, .string t, .int .i64 e] 24)) := ((Below.refl _ _).alloc (by first | omega | (simp only [size_al]; omega)) _)
    go_enter Tryd.func8, Tryd.ntmps8
    go_wp2_with fail
    obtain ⟨F, hF1, hF2⟩ := below_fun (w.alloc (Obj.cells #[.bool false, .string s, .string t, .int .i64 e] 24))
    have fx_0 := fun u => cells4 (heap_of (hF1 u) _ _ _ Rx_0) 0 _ rfl
    have fx_1 := fun u => cells4 (heap_of (hF1 u) _ _ _ Rx_0) 1 _ rfl
    have fx_2 := fun u => cells4 (heap_of (hF1 u) _ _ _ Rx_0) 2 _ rfl
    have fx_3 := fun u => cells4 (heap_of (hF1 u) _ _ _ Rx_0) 3 _ rfl
    refine wp_region_below F hF2 (by kernel_rfl) (by kernel_rfl) ?_
    repeat first | go_big_quiet_step (first | (go_at_call_of 17 (Value.string s); exact quietF hF1 hF2 (K1.out _)) | (go_at_call_of 17 (Value.string t); exact quietF hF1 hF2 (K2.out _)) | (go_at_call 18; exact quietF hF1 hF2 (K3.out _)) | fail) | quiet_step (first | (go_at_call_of 17 (Value.string s); exact quietF hF1 hF2 (K1.out _)) | (go_at_call_of 17 (Value.string t); exact quietF hF1 hF2 (K2.out _)) | (go_at_call 18; exact quietF hF1 hF2 (K3.out _)) | fail)
    refine wpQuiet_nil ?_
    rintro _ ⟨uW, rfl⟩
    have B1 := btr B0 (hF1 uW)
    have Rx_1 := heap_of (hF1 uW) _ _ _ Rx_0
    obtain ⟨w1, hw⟩ : ∃ V, F uW = V := ⟨_, rfl⟩
    rw [hw] at B1 Rx_1
    try rw [hw]
    clear hw hF1 hF2 B0 fx_0 fx_1 fx_2 fx_3 Rx_0
    clear F
    have cx_1_0 := cells4 Rx_1 0 _ rfl
    have cx_1_1 := cells4 Rx_1 1 _ rfl
    have cx_1_2 := cells4 Rx_1 2 _ rfl
    have cx_1_3 := cells4 Rx_1 3 _ rfl
    go_wp2
    go_ret
    exact ⟨rfl, B1⟩
  · have ha : (⟨#[45]⟩ : ByteArray) = a := ha
    subst ha
    have s1' : ¬ 9223372036854775807 < 1 + p.size := s1
    have Rx_0 : (w.alloc (Obj.cells #[.bool true, .string s, .string t, .int .i64 e] 24)).heap[w.heap.size]? = some (Obj.cells #[.bool true, .string s, .string t, .int .i64 e] 24) := by have := heap_alloc_last w (Obj.cells #[.bool true, .string s, .string t, .int .i64 e] 24); simpa only [size_al] using this
    have B0 : Below w.heap.size w (w.alloc (Obj.cells #[.bool true, .string s, .string t, .int .i64 e] 24)) := ((Below.refl _ _).alloc (by first | omega | (simp only [size_al]; omega)) _)
    go_enter Tryd.func8, Tryd.ntmps8
    go_wp2_with fail
    obtain ⟨F, hF1, hF2⟩ := below_fun (w.alloc (Obj.cells #[.bool true, .string s, .string t, .int .i64 e] 24))
    have fx_0 := fun u => cells4 (heap_of (hF1 u) _ _ _ Rx_0) 0 _ rfl
    have fx_1 := fun u => cells4 (heap_of (hF1 u) _ _ _ Rx_0) 1 _ rfl
    have fx_2 := fun u => cells4 (heap_of (hF1 u) _ _ _ Rx_0) 2 _ rfl
    have fx_3 := fun u => cells4 (heap_of (hF1 u) _ _ _ Rx_0) 3 _ rfl
    refine wp_region_below F hF2 (by kernel_rfl) (by kernel_rfl) ?_
    repeat first | go_big_quiet_step (first | (go_at_call_of 17 (Value.string s); exact quietF hF1 hF2 (K1.out _)) | (go_at_call_of 17 (Value.string t); exact quietF hF1 hF2 (K2.out _)) | (go_at_call 18; exact quietF hF1 hF2 (K3.out _)) | fail) | quiet_step (first | (go_at_call_of 17 (Value.string s); exact quietF hF1 hF2 (K1.out _)) | (go_at_call_of 17 (Value.string t); exact quietF hF1 hF2 (K2.out _)) | (go_at_call 18; exact quietF hF1 hF2 (K3.out _)) | fail)
    refine wpQuiet_nil ?_
    rintro _ ⟨uW, rfl⟩
    have B1 := btr B0 (hF1 uW)
    have Rx_1 := heap_of (hF1 uW) _ _ _ Rx_0
    obtain ⟨w1, hw⟩ : ∃ V, F uW = V := ⟨_, rfl⟩
    rw [hw] at B1 Rx_1
    try rw [hw]
    clear hw hF1 hF2 B0 fx_0 fx_1 fx_2 fx_3 Rx_0
    clear F
    have cx_1_0 := cells4 Rx_1 0 _ rfl
    have cx_1_1 := cells4 Rx_1 1 _ rfl
    have cx_1_2 := cells4 Rx_1 2 _ rfl
    have cx_1_3 := cells4 Rx_1 3 _ rfl
    go_wp2
    go_ret
    exact ⟨rfl, B1⟩
end Go.Proofs.YtknkkagapcigfaaDoor
