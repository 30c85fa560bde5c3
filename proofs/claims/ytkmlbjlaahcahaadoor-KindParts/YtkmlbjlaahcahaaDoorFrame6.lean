/-
  A number of 384 bits as an argument: what it reads as, and that it reads so in every world. The end of a call whose arguments have no memory.
-/
import Derived.Test.YtkmlbjlaahcahaaDoorRows
import Derived.Test.YtkmlbjlaahcahaaDoorMx
import Derived.WalkKit
import Derived.ProofKit
import Derived.OpenShut
import Derived.Laws.IdiomArrays
import Derived.Below
import Derived.Carry
namespace Go.Proofs.YtkmlbjlaahcahaaDoor
open WMath
open Go.ChangeShapes Go.WideShapes Go.ChangeAt Go.RowKit

theorem list6 {α : Type} (l : List α) (h : (⟨l⟩ : Array α).size = 6) : ∃ a b c d e f, l = [a, b, c, d, e, f] := by
  match l, h with
  | [a, b, c, d, e, f], _ => exact ⟨a, b, c, d, e, f, rfl⟩

theorem trod6 {H : Type} {enc : TypeId × Value → H} {w : World} {base : Nat} {spare : Nat → Bool} {held : Bool} {fuel : Nat} {c0 c1 c2 c3 c4 c5 : Value} {x : DataW H × List MemPlace}
    (h : DataW.trod enc Tryd.prog w base spare held fuel 28 [c0, c1, c2, c3, c4, c5] = some x) :
    ∃ (y : Nat → DataW H × List MemPlace) (n : Nat), x = (.agg [(y 0).1, (y 1).1, (y 2).1, (y 3).1, (y 4).1, (y 5).1], (y 0).2 ++ ((y 1).2 ++ ((y 2).2 ++ ((y 3).2 ++ ((y 4).2 ++ (y 5).2))))) ∧ DataW.trod enc Tryd.prog w base spare held n 23 [c0] = some (y 0) ∧ DataW.trod enc Tryd.prog w base spare held n 23 [c1] = some (y 1) ∧ DataW.trod enc Tryd.prog w base spare held n 23 [c2] = some (y 2) ∧ DataW.trod enc Tryd.prog w base spare held n 23 [c3] = some (y 3) ∧ DataW.trod enc Tryd.prog w base spare held n 23 [c4] = some (y 4) ∧ DataW.trod enc Tryd.prog w base spare held n 23 [c5] = some (y 5) := by
  have hce : Tryd.prog.cellsOf 23 = 1 := by kernel_rfl
  cases fuel with
  | zero => simp [DataW.trod] at h
  | succ n =>
    unfold DataW.trod at h
    rw [Tryd.underlying28] at h
    simp [show List.range 6 = [0, 1, 2, 3, 4, 5] from rfl, hce] at h
    replace h := h.2
    have part : ∀ c, DataW.trod enc Tryd.prog w base spare held n 23 [c] = none ∨ ∃ y, DataW.trod enc Tryd.prog w base spare held n 23 [c] = some y := fun c => by
      cases DataW.trod enc Tryd.prog w base spare held n 23 [c]
      · exact .inl rfl
      · exact .inr ⟨_, rfl⟩
    rcases part c0 with e | ⟨y0, e0⟩
    · simp [e] at h
    rcases part c1 with e | ⟨y1, e1⟩
    · simp [e0, e] at h
    rcases part c2 with e | ⟨y2, e2⟩
    · simp [e0, e1, e] at h
    rcases part c3 with e | ⟨y3, e3⟩
    · simp [e0, e1, e2, e] at h
    rcases part c4 with e | ⟨y4, e4⟩
    · simp [e0, e1, e2, e3, e] at h
    rcases part c5 with e | ⟨y5, e5⟩
    · simp [e0, e1, e2, e3, e4, e] at h
    simp [e0, e1, e2, e3, e4, e5] at h
    exact ⟨fun i => [y0, y1, y2, y3, y4, y5].getD i y0, n, h.symm, e0, e1, e2, e3, e4, e5⟩

def dW (H : Type) (n : Nat) : DataW H := .agg [.lit (.int .u64 (wd n 0 : Nat)), .lit (.int .u64 (wd n 1 : Nat)), .lit (.int .u64 (wd n 2 : Nat)), .lit (.int .u64 (wd n 3 : Nat)), .lit (.int .u64 (wd n 4 : Nat)), .lit (.int .u64 (wd n 5 : Nat))]

theorem nat_u64 {x : Int} (h : (Lit.int .u64 x).wf = true) : ∃ n : Nat, n < 18446744073709551616 ∧ x = (n : Int) := by
  have hb := bounds_u64 h
  obtain ⟨n, rfl⟩ := Int.eq_ofNat_of_zero_le hb.1
  exact ⟨n, by omega, rfl⟩
theorem u64_nat (n : Nat) (h : n < 18446744073709551616) : (Lit.int .u64 (n : Int)).wf = true := by
  first
    | exact WalkArith.wf_u64 (by omega)
    | exact WalkArith.wf_u64 (by omega) (by omega)

theorem open_w6 {H : Type} {enc : TypeId × Value → H} {w : World} {base b : Nat} {spare : Nat → Bool} {held : Bool} {v : Value} {d : DataW H} {p : List MemPlace}
    (hok : Value.okWide Tryd.prog w .any base 28 v) (h : DataW.Trod enc Tryd.prog w b spare held 28 v d p) : ∃ n, n < Q ∧ v = .agg (cw 6 n) ∧ d = dW H n ∧ p = [] := by
  have hc : Tryd.prog.cellsOf 28 = 6 := by kernel_rfl
  obtain ⟨cs, rfl, hsz, _⟩ : ∃ cs, v = .agg cs ∧ cs.size = Tryd.prog.cellsOf 28 ∧ Row.okWide Tryd.prog w .any base 28 cs := by
    simpa [Value.okWide, Tryd.underlying28] using hok
  rw [hc] at hsz
  obtain ⟨l⟩ := cs
  obtain ⟨c0, c1, c2, c3, c4, c5, rfl⟩ := list6 l hsz
  obtain ⟨fuel, hf⟩ := h
  obtain ⟨y, m, hx, h0, h1, h2, h3, h4, h5⟩ := trod6 hf
  obtain ⟨x0, e0, g0, w0⟩ := DataW.trod_int Tryd.underlying23 h0
  obtain ⟨x1, e1, g1, w1⟩ := DataW.trod_int Tryd.underlying23 h1
  obtain ⟨x2, e2, g2, w2⟩ := DataW.trod_int Tryd.underlying23 h2
  obtain ⟨x3, e3, g3, w3⟩ := DataW.trod_int Tryd.underlying23 h3
  obtain ⟨x4, e4, g4, w4⟩ := DataW.trod_int Tryd.underlying23 h4
  obtain ⟨x5, e5, g5, w5⟩ := DataW.trod_int Tryd.underlying23 h5
  simp at e0 e1 e2 e3 e4 e5
  subst e0 e1 e2 e3 e4 e5
  obtain ⟨a0, b0, rfl⟩ := nat_u64 w0
  obtain ⟨a1, b1, rfl⟩ := nat_u64 w1
  obtain ⟨a2, b2, rfl⟩ := nat_u64 w2
  obtain ⟨a3, b3, rfl⟩ := nat_u64 w3
  obtain ⟨a4, b4, rfl⟩ := nat_u64 w4
  obtain ⟨a5, b5, rfl⟩ := nat_u64 w5
  obtain ⟨n, hn, he⟩ := w6 a0 a1 a2 a3 a4 a5 b0 b1 b2 b3 b4 b5
  refine ⟨n, hn, by rw [he], ?_, ?_⟩
  · rw [cw6] at he
    simp only [Array.mk.injEq, List.cons.injEq, Value.int.injEq, true_and, and_true] at he
    obtain ⟨i0, i1, i2, i3, i4, i5⟩ := he
    simp only [Prod.mk.injEq] at hx
    rw [hx.1, g0, g1, g2, g3, g4, g5]
    unfold dW
    rw [i0, i1, i2, i3, i4, i5]
  · simp only [Prod.mk.injEq] at hx
    rw [hx.2, g0, g1, g2, g3, g4, g5]
    rfl

theorem shut_w6 {H : Type} {enc : TypeId × Value → H} {w : World} {b : Nat} {spare : Nat → Bool} {held : Bool} (n : Nat) : DataW.Trod enc Tryd.prog w b spare held 28 (.agg (cw 6 n)) (dW H n) [] := by
  have hc : Tryd.prog.cellsOf 28 = 6 := by kernel_rfl
  have hce : Tryd.prog.cellsOf 23 = 1 := by kernel_rfl
  have k : ∀ i, (Lit.int .u64 ((wd n i : Nat) : Int)).wf = true := fun i => u64_nat _ (wd_lt n i)
  refine ⟨2, ?_⟩
  rw [cw6]
  simp [DataW.trod, Value.cells, Tryd.underlying28, Tryd.underlying23, hc, hce, k, show List.range 6 = [0, 1, 2, 3, 4, 5] from rfl, dW]

/-- A call whose arguments and results have no memory of their own: what it leaves of the world is enough. -/
theorem post_plain {H : Type} {enc : TypeId × Value → H} {P : Program} {f : Func} {s : ChangeSpec} {apart fresh handsOn again : Bool} {W W' : World} {args : Array Value} {v : Value} {ds gs : List (DataW H)}
    (hW : DataW.Whole enc P f.params.toList s.vars apart W args.toList ds gs [])
    (hres : ∀ (b : Nat) (sp : Nat → Bool) (hd : Bool), DataW.TrodAll enc P W' b sp hd f.resultTypes.toList (v.resultList f.resultTypes.size) (s.fn H (ds ++ gs)).results [])
    (hargs : ∀ sp : Nat → Bool, DataW.TrodAll enc P W' 0 sp true f.params.toList args.toList (s.fn H (ds ++ gs)).args [])
    (hvars : ∀ sp : Nat → Bool, DataW.TrodVars enc P W' sp s.vars (s.fn H (ds ++ gs)).vars [])
    (hk : Below W.heap.size W W')
    (hok : ∀ (j : Nat) (t : TypeId) (r : Value), f.resultTypes[j]? = some t → (v.resultList f.resultTypes.size)[j]? = some r → Value.okWide P W' .any 0 t r) :
    s.post enc P f apart fresh handsOn again W args v W' := by
  refine ⟨ds, gs, [], [], [], [], hW, hres _ _ _, hargs _, hvars _, hk.frame _, fun _ => ⟨hok, _, _, [], ⟨[], [], trodAll_append (hargs _) (hres _ _ _), hvars _, rfl, ?_, ?_⟩, ?_⟩⟩
  · intro _ _ hp
    cases hp
  · intro _
    exact List.Pairwise.nil
  · intro _ hp
    cases hp
end Go.Proofs.YtkmlbjlaahcahaaDoor
