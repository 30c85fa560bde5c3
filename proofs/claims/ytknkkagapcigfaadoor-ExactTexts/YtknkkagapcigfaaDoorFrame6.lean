/-
  A number of 384 bits as an argument: what it reads as, and that it reads so in every world. The end of a call whose arguments have no memory.
-/
import Derived.Test.YtknkkagapcigfaaDoorRows
import Derived.Test.YtknkkagapcigfaaDoorMx
import Derived.WalkKit
import Derived.ProofKit
import Derived.OpenShut
import Derived.Laws.IdiomArrays
import Derived.Below
import Derived.Carry
namespace Go.Proofs.YtknkkagapcigfaaDoor
open WMath
open Go.ChangeShapes Go.WideShapes Go.ChangeAt Go.RowKit

theorem list6 {α : Type} (l : List α) (h : (⟨l⟩ : Array α).size = 6) : ∃ a b c d e f, l = [a, b, c, d, e, f] := by
  match l, h with
  | [a, b, c, d, e, f], _ => exact ⟨a, b, c, d, e, f, rfl⟩

def dW (H : Type) (n : Nat) : DataW H := .agg [.lit (.int .u64 (wd n 0 : Nat)), .lit (.int .u64 (wd n 1 : Nat)), .lit (.int .u64 (wd n 2 : Nat)), .lit (.int .u64 (wd n 3 : Nat)), .lit (.int .u64 (wd n 4 : Nat)), .lit (.int .u64 (wd n 5 : Nat))]

theorem nat_u64 {x : Int} (h : (Lit.int .u64 x).wf = true) : ∃ n : Nat, n < 18446744073709551616 ∧ x = (n : Int) := by
  have hb := bounds_u64 h
  obtain ⟨n, rfl⟩ := Int.eq_ofNat_of_zero_le hb.1
  exact ⟨n, by omega, rfl⟩
theorem u64_nat (n : Nat) (h : n < 18446744073709551616) : (Lit.int .u64 (n : Int)).wf = true := by
  first
    | exact WalkArith.wf_u64 (by omega)
    | exact WalkArith.wf_u64 (by omega) (by omega)

/-- A call whose arguments and results have no memory of their own: what it leaves of the world is enough. -/
theorem post_plain {H : Type} {enc : TypeId × Value → H} {P : Program} {f : Func} {s : ChangeSpec} {apart fresh handsOn again : Bool} {W W' : World} {args : Array Value} {v : Value} {ds gs : List (DataW H)}
    (hW : DataW.Whole enc P f.params.toList s.vars apart W args.toList ds gs [])
    (hres : ∀ (b : Nat) (sp : Nat → Bool) (hd : Bool), DataW.TrodAll enc P W' b sp hd f.resultTypes.toList (v.resultList f.resultTypes.size) (s.fn H (ds ++ gs)).results [])
    (hargs : ∀ sp : Nat → Bool, DataW.TrodAll enc P W' 0 sp true f.params.toList args.toList (s.fn H (ds ++ gs)).args [])
    (hvars : ∀ sp : Nat → Bool, DataW.TrodVars enc P W' sp s.vars (s.fn H (ds ++ gs)).vars [])
    (hk : Below W.heap.size W W')
    (hok : ∀ (j : Nat) (t : TypeId) (r : Value), f.resultTypes[j]? = some t → (v.resultList f.resultTypes.size)[j]? = some r → Value.okWide P W' .any 0 t r) :
    s.post enc P f apart fresh handsOn again W args v W' := by
  refine ⟨ds, gs, [], [], [], [], hW, hres _ _ _, hargs _, hvars _, hk.frame _, fun _ => ⟨hok, _, _, [], ⟨[], [], trodAll_append (hargs _) (hres _ _ _), hvars _, rfl, ?_, ?_⟩, ?_⟩⟩
  · intro _ _ hp
    cases hp
  · intro _
    exact List.Pairwise.nil
  · intro _ hp
    cases hp
end Go.Proofs.YtknkkagapcigfaaDoor
