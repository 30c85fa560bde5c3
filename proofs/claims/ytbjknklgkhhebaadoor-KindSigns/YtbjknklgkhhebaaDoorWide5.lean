/-
  What the functions mulAdd and Mul of package wide return.
-/
import Derived.Test.YtbjknklgkhhebaaDoorWord3
import Derived.Test.YtbjknklgkhhebaaDoorMx
import Derived.Test.YtbjknklgkhhebaaDoorWide1
import Derived.Test.YtbjknklgkhhebaaDoorQuiet2
import Derived.Deep.RegionLaw
import Derived.Laws.CopyOwn
namespace Go.Proofs.YtbjknklgkhhebaaDoor
open Go.RowKit WMath

theorem cw12z : #[Value.int .u64 0, .int .u64 0, .int .u64 0, .int .u64 0, .int .u64 0, .int .u64 0, .int .u64 0, .int .u64 0, .int .u64 0, .int .u64 0, .int .u64 0, .int .u64 0] = cw 12 0 := by
  show _ = #[_, _, _, _, _, _, _, _, _, _, _, _]
  simp [wd_zero]

theorem mul_over (n m P x2 : Nat) (hP : P = n * m) (h2 : x2 = P / Q) : (!decide (x2 = 0)) = decide (Q ≤ n * m) := by
  have := Q_pos
  by_cases h : Q ≤ n * m
  · have : 0 < P / Q := Nat.div_pos (by omega) Q_pos
    rw [decide_eq_true h, decide_eq_false (by omega)]; rfl
  · rw [h2, hP, Nat.div_eq_of_lt (by omega), decide_eq_false h]; rfl

theorem cw_take (S L o x : Nat) (hf : o + 6 ≤ S) (hx : ∀ j, j < 6 → wd x j = wd L (o + j)) (j : Nat) (v : Value) (hv : (cw 6 x).toList[j]? = some v) : (cw S L)[o + j]? = some v := by
  have hj : j < 6 := by
    have := (List.getElem?_eq_some_iff.1 hv).1
    simpa [cw_size] using this
  rw [cw_at S L (o + j) (by omega), ← hx j hj, ← cw_at 6 x j hj, ← hv]
  simp

theorem step_copy6 {P : Program} {ops : Array Oper} {o : Oper} {a : Act} {w : World} {K : Act → World → Prop} {Q : Exit → Act → World → Prop} {E : Prop} (hgd : o.guard = none) (d s : Operand) (dT sT : TypeId)
    (ho : o.op = .call { callee := .builtin .copy, args := #[d, s], argTypes := #[dT, sT] }) (elem : TypeId) (hu : P.underlying dT = some (.slice elem)) (hsz : (P.info? elem).map (·.size) = some 1)
    (g gs offs sCap : Nat) (hd : a.eval d = .slice (some ⟨g, 0, none⟩) 6 6) (hs : a.eval s = .slice (some ⟨gs, offs, none⟩) 6 sCap)
    (y L x S : Nat) (t t' : TypeId) (hg : w.heap[g]? = some (.cells (cw 6 y) t)) (hsrc : w.heap[gs]? = some (.cells (cw S L) t')) (fit : offs + 6 ≤ S) (hx : ∀ j, j < 6 → wd x j = wd L (offs + j))
    (h : ∀ w', w' = w.setRow g (cw 6 x) → K (a.put o.dst (goInt 6)) w') :
    if Region.wanted o (yielded ops a.tmps) = true then Oper.wp P o a w K Q else E := by
  have hw : Region.wanted o (yielded ops a.tmps) = true := by simp [Region.wanted, hgd]
  rw [if_pos hw]
  have hlen : (cw 6 x).toList.length = 6 := by simp [cw_size]
  have hadd : ∀ j, (⟨gs, offs, none⟩ : Addr).add j = ⟨gs, offs + j, none⟩ := fun j => by unfold Addr.add; split <;> simp_all
  have hrun := run_copy_row (P := P) w dT sT o.type elem g 0 6 6 ⟨gs, offs, none⟩ 6 sCap (cw 6 y) t (cw 6 x).toList hu hsz hg (by rw [hlen]; rfl)
    (fun j v hv => by rw [hadd, cell_of_row w gs (offs + j) _ _ _ hsrc]; exact cw_take S L offs x fit hx j v hv) (by rw [hlen, cw_size]; decide)
    (fun v hv => (Array.all_eq_true_iff_forall_mem.1 (cw_oneCell 6 x)) v (by simpa using hv))
  rw [hlen] at hrun
  have e0 : (cw 6 y).toList.drop (0 + 6) = [] := List.drop_eq_nil_of_le (by simp [cw_size])
  rw [e0, List.take_zero, List.nil_append, List.append_nil, Array.toArray_toList] at hrun
  unfold Oper.wp
  simp [execOp, ho, resolve, invoke, builtin, hd, hs, hrun, Result.andThen]
  exact h _ rfl

end Go.Proofs.YtbjknklgkhhebaaDoor
