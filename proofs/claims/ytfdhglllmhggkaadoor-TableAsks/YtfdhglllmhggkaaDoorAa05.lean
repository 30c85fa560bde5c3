/-
  What the functions that the statement reaches return: part 5 (BF, BI, BJ, BK, BL).
-/
import Derived.Laws.AppendOwn
import Derived.OwnWalk
import Derived.Maps.AppendAt
import Derived.Test.YtfdhglllmhggkaaDoorAa04
namespace Go.Proofs.YtfdhglllmhggkaaDoor
set_option maxRecDepth 100000
set_option maxHeartbeats 40000000
set_option maxRecDepth 100000
open Go.RowKit WMath
set_option linter.unusedSimpArgs false
set_option linter.unusedVariables false
abbrev Nm := Rw × List UInt8
def nmC (p : Nm) : List Value := (ndC p.1 ⟨p.2.toArray⟩).toList
def ndsC (l : List Nm) : List Value := l.flatMap nmC
theorem nmC_len (p : Nm) : (nmC p).length = 8 := rfl
theorem ndsC_app (l m : List Nm) : ndsC (l ++ m) = ndsC l ++ ndsC m := by simp [ndsC]
def preL (k : Nat) : List Nm := (linesL.take k).flatMap lineL
def preF (l : Ln) (f : Nat) : List Nm := (List.range f).flatMap (formL l)
def preN (l : Ln) (f n : Nat) : List Nm := (List.range n).flatMap (inL l f)
theorem preL_all : preL 31 = allL := by unfold preL allL; rw [List.take_of_length_le (by decide)]
theorem preL_next (k : Nat) (l : Ln) (h : linesL[k]? = some l) : preL (k + 1) = preL k ++ preF l 4 := by
  unfold preL preF
  rw [List.take_add_one, h]
  simp [lineL]
theorem preF_next (l : Ln) (f : Nat) : preF l (f + 1) = preF l f ++ formL l f := by unfold preF; simp [List.range_succ]
theorem preN_next (l : Ln) (f n : Nat) : preN l f (n + 1) = preN l f n ++ inL l f n := by unfold preN; simp [List.range_succ]
theorem preL_len : ∀ k : Fin 32, (preL k.val).length ≤ 136 := by decide +kernel
theorem formL_len (l : Ln) (f : Nat) : (formL l f).length ≤ 4 := by
  have h : ∀ n, (inL l f n).length ≤ 1 := fun n => by unfold inL; (repeat' split) <;> simp
  unfold formL
  split
  · simp
  · have a := h 0; have b := h 1; have c := h 2; have d := h 3
    simp only [show List.range 4 = [0, 1, 2, 3] from rfl, List.flatMap_cons, List.flatMap_nil, List.length_append, List.length_nil]
    omega
theorem flat_at {α β : Type} (f : α → List β) (n : Nat) (hf : ∀ a, (f a).length = n) : ∀ (l : List α) (k j : Nat) (a : α), l[k]? = some a → j < n → (l.flatMap f)[k * n + j]? = (f a)[j]?
  | [], k, j, a, h, _ => by simp at h
  | b :: t, 0, j, a, h, hj => by
    have e : b = a := by simpa using h
    subst e
    rw [List.flatMap_cons, Nat.zero_mul, Nat.zero_add, List.getElem?_append_left (by rw [hf]; exact hj)]
  | b :: t, k + 1, j, a, h, hj => by
    have h2 : t[k]? = some a := by simpa using h
    rw [List.flatMap_cons, List.getElem?_append_right (by rw [hf, Nat.add_mul]; omega), hf, show (k + 1) * n + j - n = k * n + j by rw [Nat.add_mul]; omega]
    exact flat_at f n hf t k j a h2 hj
theorem lnsC_at (k j : Nat) (l : Ln) (h : linesL[k]? = some l) (hj : j < 12) : lnsC[k * 12 + j]? = (lnC l)[j]? := by
  unfold lnsC
  rw [List.getElem?_toArray, flat_at (fun l => (lnC l).toList) 12 (fun _ => rfl) linesL k j l h hj, Array.getElem?_toList]
theorem ndsC_at (m : List Nm) (k j : Nat) (p : Nm) (h : m[k]? = some p) (hj : j < 8) : (ndsC m)[k * 8 + j]? = (nmC p)[j]? := flat_at nmC 8 nmC_len m k j p h hj
def NdsAt (w : World) (g : Nat) (l : List Nm) : Prop := ∃ cur, w.heap[g]? = some (.cells cur 38) ∧ ∀ k p, l[k]? = some p → ∀ j u, j < 8 → (nmC p)[j]? = some u → cur[k * 8 + j]? = some u
theorem NdsAt.below {w w' : World} {g : Nat} {l : List Nm} (h : NdsAt w g l) (hb : Below w.heap.size w w') : NdsAt w' g l := by
  obtain ⟨cur, h1, h2⟩ := h
  exact ⟨cur, heap_of hb _ _ _ h1, h2⟩
theorem own_nds {w : World} {base : Nat} {v : Value} {l : List Nm} (h : w.ownsRow base 38 8 v l.length (ndsC l)) (hl : 0 < l.length) : ∃ g cap, v = .slice (some ⟨g, 0, none⟩) l.length cap ∧ base ≤ g ∧ NdsAt w g l := by
  rcases h.2 with ⟨_, q⟩ | ⟨g, cap, cur, h1, h2, h3, h4, h5, h6, h7⟩
  · omega
  · refine ⟨g, cap, h1, h2, cur, h3, fun k p hp j u hj hu => ?_⟩
    have hk : k < l.length := (List.getElem?_eq_some_iff.1 hp).1
    have hlt : k * 8 + j < l.length * 8 := by omega
    have a := ndsC_at l k j p hp hj
    rw [hu, ← h7, List.getElem?_take_of_lt hlt] at a
    simpa using a
theorem NdsAt.cells {w : World} {g : Nat} {l : List Nm} (h : NdsAt w g l) {k : Nat} {r : Rw} {s : List UInt8} (hp : l[k]? = some (r, s)) :
    w.cell? ⟨g, k * 8, none⟩ = some (.int .u8 (r.op : Nat)) ∧ w.cell? ⟨g, k * 8 + 1, none⟩ = some (.int .u8 (r.form : Nat)) ∧ w.cell? ⟨g, k * 8 + 2, none⟩ = some (.int .u8 (r.frm : Nat)) ∧ w.cell? ⟨g, k * 8 + 3, none⟩ = some (.int .u8 (r.kind : Nat)) ∧ w.cell? ⟨g, k * 8 + 4, none⟩ = some (.int .u32 (r.mask : Nat)) ∧ w.cell? ⟨g, k * 8 + 5, none⟩ = some (.int .u32 (r.mtch : Nat)) ∧ w.cell? ⟨g, k * 8 + 6, none⟩ = some (.int .u8 (r.lay : Nat)) ∧ w.cell? ⟨g, k * 8 + 7, none⟩ = some (.string ⟨s.toArray⟩) := by
  obtain ⟨cur, h1, h2⟩ := h
  have e := fun j (hj : j < 8) u (hu : (nmC (r, s))[j]? = some u) => cell7 h1 (k * 8 + j) u (h2 k (r, s) hp j u hj hu)
  exact ⟨e 0 (by decide) _ rfl, e 1 (by decide) _ rfl, e 2 (by decide) _ rfl, e 3 (by decide) _ rfl, e 4 (by decide) _ rfl, e 5 (by decide) _ rfl, e 6 (by decide) _ rfl, e 7 (by decide) _ rfl⟩
theorem res_nd2 {fn : Func} {z t : Tmp} (h : fn.results = #[.cell z 38, .tmp t]) {tmps : Array Value} {w : World} {b : Nat} {r : Rw} {s : ByteArray} {T : TypeId} (hz : tmps.getD z undef = .pointer (some ⟨b, 0, none⟩)) (hr : w.heap[b]? = some (.cells (ndC r s) T)) : (results fn tmps).run Tryd.prog w = .ok (.tuple #[.agg (ndC r s), tmps.getD t undef]) w := by
  have q := nd_lv hr
  have hz2 : tmps[z]?.getD undef = .pointer (some ⟨b, 0, none⟩) := by rw [← Array.getD_eq_getD_getElem?]; exact hz
  simp [results, h, hz2, asAddr, q, Result.andThen]
def rwZ : Rw := ⟨0, 0, 0, 0, 0, 0, 0⟩
def OwnsAll (w w' : World) (v : Value) : Prop := ∃ g cap, v = .slice (some ⟨g, 0, none⟩) 136 cap ∧ w.heap.size < g ∧ NdsAt w' g allL ∧ Below w.heap.size w w'
def fstL (f : Nm → Bool) : Option Nm := allL.find? f
theorem fst_yes {f : Nm → Bool} {k : Nat} {p : Nm} (h : ∀ j q, j < k → allL[j]? = some q → f q = false) (hp : allL[k]? = some p) (hf : f p = true) : fstL f = some p := by
  unfold fstL
  rw [List.find?_eq_some_iff_getElem]
  obtain ⟨hk, e⟩ := List.getElem?_eq_some_iff.1 hp
  exact ⟨hf, k, hk, e, fun j hj => by rw [h j _ hj (List.getElem?_eq_getElem (by omega))]; rfl⟩
theorem fst_no {f : Nm → Bool} (h : ∀ j q, j < 136 → allL[j]? = some q → f q = false) : fstL f = none := by
  unfold fstL
  rw [List.find?_eq_none]
  intro p hp
  obtain ⟨j, hj, e⟩ := List.getElem_of_mem hp
  rw [h j p (by rw [allL_len] at hj; exact hj) (by rw [List.getElem?_eq_getElem hj, e])]
  decide
def rwE (r q : Rw) : Bool := (((r.op : Nat) : Int) == ((q.op : Nat) : Int)) && (((r.form : Nat) : Int) == ((q.form : Nat) : Int)) && (((r.frm : Nat) : Int) == ((q.frm : Nat) : Int)) && (((r.kind : Nat) : Int) == ((q.kind : Nat) : Int)) && (((r.mask : Nat) : Int) == ((q.mask : Nat) : Int)) && (((r.mtch : Nat) : Int) == ((q.mtch : Nat) : Int)) && (((r.lay : Nat) : Int) == ((q.lay : Nat) : Int))
theorem rwE_is (r q : Rw) : rwE r q = decide (r = q) := by
  unfold rwE
  rw [Bool.eq_iff_iff, decide_eq_true_iff]
  simp only [Bool.and_eq_true, beq_iff_eq]
  constructor
  · intro h
    cases r; cases q
    simp only at h
    simp only [Rw.mk.injEq]
    omega
  · rintro rfl
    simp
set_option maxRecDepth 100000 in
theorem eqr (r q : Rw) (w : World) : (Op.equalIn 10000 36 (.agg (rwC r)) (.agg (rwC q))).run Tryd.prog w = .ok (rwE r q) w := by
  have q0 : ∀ (r : Rw), (part 30 (rwC r) 0).run Tryd.prog w = .ok (.int .u8 (r.op : Nat)) w := fun r => by kernel_rfl
  have i0 : (Op.equalIn 9999 30 (.int .u8 (r.op : Nat)) (.int .u8 (q.op : Nat))).run Tryd.prog w = .ok (((r.op : Nat) : Int) == ((q.op : Nat) : Int)) w := run_equalIn_int w 9998 30 .u8 .u8 _ _ Tryd.underlying30
  have n0 : ("Op" = "_") = False := by simp
  have q1 : ∀ (r : Rw), (part 31 (rwC r) 1).run Tryd.prog w = .ok (.int .u8 (r.form : Nat)) w := fun r => by kernel_rfl
  have i1 : (Op.equalIn 9999 31 (.int .u8 (r.form : Nat)) (.int .u8 (q.form : Nat))).run Tryd.prog w = .ok (((r.form : Nat) : Int) == ((q.form : Nat) : Int)) w := run_equalIn_int w 9998 31 .u8 .u8 _ _ Tryd.underlying31
  have n1 : ("Form" = "_") = False := by simp
  have q2 : ∀ (r : Rw), (part 31 (rwC r) 2).run Tryd.prog w = .ok (.int .u8 (r.frm : Nat)) w := fun r => by kernel_rfl
  have i2 : (Op.equalIn 9999 31 (.int .u8 (r.frm : Nat)) (.int .u8 (q.frm : Nat))).run Tryd.prog w = .ok (((r.frm : Nat) : Int) == ((q.frm : Nat) : Int)) w := run_equalIn_int w 9998 31 .u8 .u8 _ _ Tryd.underlying31
  have n2 : ("From" = "_") = False := by simp
  have q3 : ∀ (r : Rw), (part 32 (rwC r) 3).run Tryd.prog w = .ok (.int .u8 (r.kind : Nat)) w := fun r => by kernel_rfl
  have i3 : (Op.equalIn 9999 32 (.int .u8 (r.kind : Nat)) (.int .u8 (q.kind : Nat))).run Tryd.prog w = .ok (((r.kind : Nat) : Int) == ((q.kind : Nat) : Int)) w := run_equalIn_int w 9998 32 .u8 .u8 _ _ Tryd.underlying32
  have n3 : ("Kind" = "_") = False := by simp
  have q4 : ∀ (r : Rw), (part 33 (rwC r) 4).run Tryd.prog w = .ok (.int .u32 (r.mask : Nat)) w := fun r => by kernel_rfl
  have i4 : (Op.equalIn 9999 33 (.int .u32 (r.mask : Nat)) (.int .u32 (q.mask : Nat))).run Tryd.prog w = .ok (((r.mask : Nat) : Int) == ((q.mask : Nat) : Int)) w := run_equalIn_int w 9998 33 .u32 .u32 _ _ Tryd.underlying33
  have n4 : ("Mask" = "_") = False := by simp
  have q5 : ∀ (r : Rw), (part 33 (rwC r) 5).run Tryd.prog w = .ok (.int .u32 (r.mtch : Nat)) w := fun r => by kernel_rfl
  have i5 : (Op.equalIn 9999 33 (.int .u32 (r.mtch : Nat)) (.int .u32 (q.mtch : Nat))).run Tryd.prog w = .ok (((r.mtch : Nat) : Int) == ((q.mtch : Nat) : Int)) w := run_equalIn_int w 9998 33 .u32 .u32 _ _ Tryd.underlying33
  have n5 : ("Match" = "_") = False := by simp
  have q6 : ∀ (r : Rw), (part 34 (rwC r) 6).run Tryd.prog w = .ok (.int .u8 (r.lay : Nat)) w := fun r => by kernel_rfl
  have i6 : (Op.equalIn 9999 34 (.int .u8 (r.lay : Nat)) (.int .u8 (q.lay : Nat))).run Tryd.prog w = .ok (((r.lay : Nat) : Int) == ((q.lay : Nat) : Int)) w := run_equalIn_int w 9998 34 .u8 .u8 _ _ Tryd.underlying34
  have n6 : ("Layout" = "_") = False := by simp
  have st : Tryd.prog.stoodInHeld 36 = false := by kernel_rfl
  rw [show (10000 : Nat) = 9999 + 1 from rfl]
  unfold Op.equalIn
  simp only [Sem.run_bind, run_underlying Tryd.underlying36, Result.andThen_ok]
  rw [show (Sem.run Tryd.prog program w) = .ok Tryd.prog w from rfl]
  simp only [Result.andThen_ok, st, Bool.false_eq_true, if_false]
  have fo : ∀ (l : List Field) (b : Field → (Option Bool × Unit) → Sem (ForInStep (Option Bool × Unit))), (forIn l.toArray (none, ()) b : Sem (Option Bool × Unit)) = forIn l (none, ()) b := fun l b => by simp
  simp only [fo, List.forIn_cons, List.forIn_nil, ne_eq, n0, n1, n2, n3, n4, n5, n6, not_false_eq_true, if_true]
  unfold rwE
  obtain ⟨b0, h0⟩ : ∃ x, (((r.op : Nat) : Int) == ((q.op : Nat) : Int)) = x := ⟨_, rfl⟩
  rw [h0] at i0
  obtain ⟨b1, h1⟩ : ∃ x, (((r.form : Nat) : Int) == ((q.form : Nat) : Int)) = x := ⟨_, rfl⟩
  rw [h1] at i1
  obtain ⟨b2, h2⟩ : ∃ x, (((r.frm : Nat) : Int) == ((q.frm : Nat) : Int)) = x := ⟨_, rfl⟩
  rw [h2] at i2
  obtain ⟨b3, h3⟩ : ∃ x, (((r.kind : Nat) : Int) == ((q.kind : Nat) : Int)) = x := ⟨_, rfl⟩
  rw [h3] at i3
  obtain ⟨b4, h4⟩ : ∃ x, (((r.mask : Nat) : Int) == ((q.mask : Nat) : Int)) = x := ⟨_, rfl⟩
  rw [h4] at i4
  obtain ⟨b5, h5⟩ : ∃ x, (((r.mtch : Nat) : Int) == ((q.mtch : Nat) : Int)) = x := ⟨_, rfl⟩
  rw [h5] at i5
  obtain ⟨b6, h6⟩ : ∃ x, (((r.lay : Nat) : Int) == ((q.lay : Nat) : Int)) = x := ⟨_, rfl⟩
  rw [h6] at i6
  rw [h0, h1, h2, h3, h4, h5, h6]
  cases b0
  · simp only [Sem.run_bind, Sem.run_pure, Result.andThen_ok, Bool.not_false, Bool.not_true, Bool.false_eq_true, if_false, if_true, Bool.false_and, Bool.true_and, q0, i0]
  cases b1
  · simp only [Sem.run_bind, Sem.run_pure, Result.andThen_ok, Bool.not_false, Bool.not_true, Bool.false_eq_true, if_false, if_true, Bool.false_and, Bool.true_and, q0, i0, q1, i1]
  cases b2
  · simp only [Sem.run_bind, Sem.run_pure, Result.andThen_ok, Bool.not_false, Bool.not_true, Bool.false_eq_true, if_false, if_true, Bool.false_and, Bool.true_and, q0, i0, q1, i1, q2, i2]
  cases b3
  · simp only [Sem.run_bind, Sem.run_pure, Result.andThen_ok, Bool.not_false, Bool.not_true, Bool.false_eq_true, if_false, if_true, Bool.false_and, Bool.true_and, q0, i0, q1, i1, q2, i2, q3, i3]
  cases b4
  · simp only [Sem.run_bind, Sem.run_pure, Result.andThen_ok, Bool.not_false, Bool.not_true, Bool.false_eq_true, if_false, if_true, Bool.false_and, Bool.true_and, q0, i0, q1, i1, q2, i2, q3, i3, q4, i4]
  cases b5
  · simp only [Sem.run_bind, Sem.run_pure, Result.andThen_ok, Bool.not_false, Bool.not_true, Bool.false_eq_true, if_false, if_true, Bool.false_and, Bool.true_and, q0, i0, q1, i1, q2, i2, q3, i3, q4, i4, q5, i5]
  cases b6
  · simp only [Sem.run_bind, Sem.run_pure, Result.andThen_ok, Bool.not_false, Bool.not_true, Bool.false_eq_true, if_false, if_true, Bool.false_and, Bool.true_and, q0, i0, q1, i1, q2, i2, q3, i3, q4, i4, q5, i5, q6, i6]
  simp only [Sem.run_bind, Sem.run_pure, Result.andThen_ok, Bool.not_false, Bool.not_true, Bool.false_eq_true, if_false, if_true, Bool.false_and, Bool.true_and, q0, i0, q1, i1, q2, i2, q3, i3, q4, i4, q5, i5, q6, i6]
set_option maxRecDepth 100000 in
set_option maxHeartbeats 8000000 in
theorem b24_name (q : Rw) (w : World) (KA : Box (∀ w, Calls Tryd.prog 9 #[] w fun r w' => ∃ v, r = .returned v ∧ OwnsAll w w' v)) (nn : List UInt8) (e : Int) (HR : Box (match fstL (fun p => decide (p.1 = q)) with | some p => p.2 = nn ∧ e = 0 | none => nn = [] ∧ e = 240)) : Calls Tryd.prog 23 #[.agg (rwC q)] w fun r w' => r = .returned (.tuple #[.string ⟨nn.toArray⟩, .int .i64 e]) ∧ Below w.heap.size w w' := by
  obtain ⟨Rr_0, B0⟩ := opn1 w (Obj.cells (rwC q) 36)
  go_enter Tryd.func23, Tryd.ntmps23
  go_wp2_with fail
  refine (KA.out _).mono ?_
  rintro r w1 ⟨v, rfl, g, cap, rfl, hg, hN, hb⟩
  have B1 := btr B0 hb
  have R1 := heap_of hb _ _ _ Rr_0
  clear B0 Rr_0 hb
  simp only [size_al] at hg
  go_wp2
  go_loopw [5] (fun iv wr => ∃ k : Nat, k ≤ 136 ∧ iv = .int .i64 (k : Int) ∧ Below w.heap.size w wr ∧ wr.heap[w.heap.size]? = some (.cells (rwC q) 36) ∧ NdsAt wr g allL ∧ Box (∀ j p, j < k → allL[j]? = some p → decide (p.1 = q) = false)) (fun iv _ => 136 - (intOf iv).toNat)
  case atStart => exact ⟨0, Nat.zero_le _, rfl, B1, R1, hN, box (fun j _ hj => absurd hj (by omega))⟩
  case round =>
    clear B1 R1 hN
    obtain ⟨k, hk, rfl, hB, hR, hN, HA⟩ := hrel
    by_cases hlt : k < 136
    · have dl : decide ((k : Int) < 136) = true := decide_eq_true (by omega)
      have hw1 : IntKind.i64.wrap ((k : Int) + 1) = ((k + 1 : Nat) : Int) := by rw [IntKind.wrap_i64]; omega
      obtain ⟨⟨r0, s0⟩, hp⟩ : ∃ p, allL[k]? = some p := ⟨_, List.getElem?_eq_getElem (by rw [allL_len]; exact hlt)⟩
      have heq := fun w => eqr r0 q w
      obtain ⟨b, hbb⟩ : ∃ b, decide (r0 = q) = b := ⟨_, rfl⟩
      simp only [rwE_is, hbb] at heq
      have HP := box hp
      have HB := box hbb
      clear hbb
      obtain ⟨c0, c1, c2, c3, c4, c5, c6, c7⟩ := hN.cells hp
      obtain ⟨d0, d1, d2, d3, d4, d5, d6⟩ := rwC_cells hR
      clear hp
      have hrf := rwC_fold r0
      have hrg := rwC_fold q
      go_wp2_with fail
      go_quiet (fail)
      obtain ⟨w2, hw, B2, hh⟩ := quiet_world hB nq
      rw [hw]
      have R2 : w2.heap[w.heap.size]? = some (.cells (rwC q) 36) := by rw [hh]; exact hR
      have N2 : NdsAt w2 g allL := by obtain ⟨cur, h1, h2⟩ := hN; exact ⟨cur, by rw [hh]; exact h1, h2⟩
      clear hw hh hB hR hN c0 c1 c2 c3 c4 c5 c6 c7 d0 d1 d2 d3 d4 d5 d6 hrf hrg heq
      cases b
      · go_wp2
        go_roundw
        case rel => exact ⟨k + 1, by omega, by first | rfl | simp, B2, R2, N2, box (fun j p hj q => by
          by_cases z : j < k
          · exact HA.out j p z q
          · have e : j = k := by omega
            subst e
            rw [HP.out] at q
            cases q
            exact HB.out)⟩
        case measure => simp [intOf]; omega
      · obtain ⟨c0, c1, c2, c3, c4, c5, c6, c7⟩ := N2.cells HP.out
        have e9 := HR.out
        rw [fst_yes HA.out HP.out HB.out] at e9
        obtain ⟨e8, rfl⟩ := e9
        have e8 : s0 = nn := e8
        subst e8
        go_wp2
        exact bodyPost_ret (v := .tuple #[.string ⟨s0.toArray⟩, .int .i64 0]) (by simp [results, Tryd.results23, go_sem]) rfl ⟨rfl, B2⟩
    · have k136 : k = 136 := by omega
      subst k136
      have dl : decide ((136 : Int) < 136) = false := rfl
      have e9 := HR.out
      rw [fst_no HA.out] at e9
      obtain ⟨rfl, rfl⟩ := e9
      go_wp2
      exact bodyPost_ret (v := .tuple #[.string ⟨#[]⟩, .int .i64 240]) (by simp [results, Tryd.results23, go_sem]) rfl ⟨rfl, hB⟩
theorem rwC_store7 {w : World} {b : Nat} {r : Rw} {c : Array Value} {T : TypeId} (h : w.heap[b]? = some (.cells c T)) (hc : c.size = 7) : (storeCells ⟨b, 0, none⟩ (rwC r).toList 0).run Tryd.prog w = .ok () (w.setRow b (rwC r)) := by
  have := run_storeCells_from (P := Tryd.prog) b T (rwC r).toList 0 c w h (by simp [rwC, hc]) (fun v hv => by
    simp [rwC] at hv
    rcases hv with rfl | rfl | rfl | rfl | rfl | rfl | rfl <;> rfl)
  have e : List.drop 7 c.toList = [] := List.drop_eq_nil_of_le (by rw [Array.length_toList, hc]; exact Nat.le_refl _)
  simpa [rwC, e] using this
theorem rw_lv {w : World} {b : Nat} {r : Rw} {T : TypeId} (h : w.heap[b]? = some (.cells (rwC r) T)) : (loadVar 36 ⟨b, 0, none⟩).run Tryd.prog w = .ok (.agg (rwC r)) w := by
  have ha : (isAgg 36).run Tryd.prog w = .ok true w := by kernel_rfl
  have hs : (sizeOf 36).run Tryd.prog w = .ok 7 w := by kernel_rfl
  have q := run_loadCells_list (P := Tryd.prog) w ⟨b, 0, none⟩ (rwC r).toList (fun j v hv => by
    have hadd : (⟨b, 0, none⟩ : Addr).add j = ⟨b, j, none⟩ := by unfold Addr.add; split <;> simp_all
    rw [hadd]
    exact cell7 h j v (by simpa using hv))
  rw [Array.length_toList, show (rwC r).size = 7 from rfl] at q
  simp only [Sem.run_bind, Sem.run_pure, Result.andThen, loadVar, ha, hs, if_true, q]
theorem res_rw2 {fn : Func} {z t : Tmp} (h : fn.results = #[.cell z 36, .tmp t]) {tmps : Array Value} {w : World} {b : Nat} {r : Rw} {T : TypeId} (hz : tmps.getD z undef = .pointer (some ⟨b, 0, none⟩)) (hr : w.heap[b]? = some (.cells (rwC r) T)) : (results fn tmps).run Tryd.prog w = .ok (.tuple #[.agg (rwC r), tmps.getD t undef]) w := by
  have q := rw_lv hr
  have hz2 : tmps[z]?.getD undef = .pointer (some ⟨b, 0, none⟩) := by rw [← Array.getD_eq_getD_getElem?]; exact hz
  simp [results, h, hz2, asAddr, q, Result.andThen]
set_option maxRecDepth 100000 in
set_option maxHeartbeats 8000000 in
theorem b24_byname (s : ByteArray) (w : World) (KA : Box (∀ w, Calls Tryd.prog 9 #[] w fun r w' => ∃ v, r = .returned v ∧ OwnsAll w w' v)) (rr : Rw) (e : Int) (HR : Box (match fstL (fun p => (⟨p.2.toArray⟩ : ByteArray).toList == s.toList) with | some p => p.1 = rr ∧ e = 0 | none => rr = rwZ ∧ e = 240)) : Calls Tryd.prog 24 #[.string s] w fun r w' => r = .returned (.tuple #[.agg (rwC rr), .int .i64 e]) ∧ Below w.heap.size w w' := by
  obtain ⟨Rz_0, B0⟩ := opn1 w (Obj.cells #[.int .u8 0, .int .u8 0, .int .u8 0, .int .u8 0, .int .u32 0, .int .u32 0, .int .u8 0] 36)
  go_enter Tryd.func24, Tryd.ntmps24
  go_wp2_with fail
  refine (KA.out _).mono ?_
  rintro r w1 ⟨v, rfl, g, cap, rfl, hg, hN, hb⟩
  have B1 := btr B0 hb
  have R1 := heap_of hb _ _ _ Rz_0
  clear B0 Rz_0 hb
  simp only [size_al] at hg
  go_wp2
  go_loopw [5] (fun iv wr => ∃ k : Nat, k ≤ 136 ∧ iv = .int .i64 (k : Int) ∧ Below w.heap.size w wr ∧ wr.heap[w.heap.size]? = some (.cells #[.int .u8 0, .int .u8 0, .int .u8 0, .int .u8 0, .int .u32 0, .int .u32 0, .int .u8 0] 36) ∧ NdsAt wr g allL ∧ Box (∀ j p, j < k → allL[j]? = some p → ((⟨p.2.toArray⟩ : ByteArray).toList == s.toList) = false)) (fun iv _ => 136 - (intOf iv).toNat)
  case atStart => exact ⟨0, Nat.zero_le _, rfl, B1, R1, hN, box (fun j _ hj => absurd hj (by omega))⟩
  case round =>
    clear B1 R1 hN
    obtain ⟨k, hk, rfl, hB, hR, hN, HA⟩ := hrel
    by_cases hlt : k < 136
    · have dl : decide ((k : Int) < 136) = true := decide_eq_true (by omega)
      have hw1 : IntKind.i64.wrap ((k : Int) + 1) = ((k + 1 : Nat) : Int) := by rw [IntKind.wrap_i64]; omega
      obtain ⟨⟨r0, s0⟩, hp⟩ : ∃ p, allL[k]? = some p := ⟨_, List.getElem?_eq_getElem (by rw [allL_len]; exact hlt)⟩
      obtain ⟨t0, ht0⟩ : ∃ t, (⟨s0.toArray⟩ : ByteArray) = t := ⟨_, rfl⟩
      obtain ⟨b, hbb⟩ : ∃ b, (t0.toList == s.toList) = b := ⟨_, rfl⟩
      have HP := box hp
      have HB : Box (((⟨s0.toArray⟩ : ByteArray).toList == s.toList) = b) := box (by rw [ht0]; exact hbb)
      obtain ⟨c0, c1, c2, c3, c4, c5, c6, c7⟩ := hN.cells hp
      rw [ht0] at c7
      clear hp ht0
      have hR0 := hR
      have HN := box hN
      clear hN
      cases b
      · clear hR
        have HR2 := box hR0
        go_wp2
        go_roundw
        case rel => exact ⟨k + 1, by omega, by first | rfl | simp, hB, HR2.out, HN.out, box (fun j p hj q => by
          by_cases z : j < k
          · exact HA.out j p z q
          · have e : j = k := by omega
            subst e
            rw [HP.out] at q
            cases q
            exact HB.out)⟩
        case measure => simp [intOf]; omega
      · have R2 := hR
        have B2 := hB
        clear hR
        have e9 := HR.out
        rw [fst_yes HA.out HP.out HB.out] at e9
        obtain ⟨e8, rfl⟩ := e9
        have e8 : r0 = rr := e8
        subst e8
        have hnf := rwC_fold r0
        have hst := rwC_store7 (r := r0) R2 rfl
        have rz := setRow_row (c' := rwC r0) R2
        have bz : Below w.heap.size w (wr.setRow w.heap.size (rwC r0)) := Below.setRow B2 (Nat.le_refl _)
        obtain ⟨wz, hwz⟩ : ∃ V, wr.setRow w.heap.size (rwC r0) = V := ⟨_, rfl⟩
        rw [hwz] at hst rz bz
        clear hwz
        go_wp2
        exact bodyPost_ret (v := .tuple #[.agg (rwC r0), .int .i64 0]) (res_rw2 Tryd.results24 rfl rz) rfl ⟨rfl, bz⟩
    · have k136 : k = 136 := by omega
      subst k136
      have dl : decide ((136 : Int) < 136) = false := rfl
      have e9 := HR.out
      rw [fst_no HA.out] at e9
      obtain ⟨rfl, rfl⟩ := e9
      have hnf : #[Value.int .u8 0, .int .u8 0, .int .u8 0, .int .u8 0, .int .u32 0, .int .u32 0, .int .u8 0] = rwC rwZ := rfl
      have hst := rwC_store7 (r := rwZ) hR rfl
      have rz := setRow_row (c' := rwC rwZ) hR
      have bz : Below w.heap.size w (wr.setRow w.heap.size (rwC rwZ)) := Below.setRow hB (Nat.le_refl _)
      obtain ⟨wz, hwz⟩ : ∃ V, wr.setRow w.heap.size (rwC rwZ) = V := ⟨_, rfl⟩
      rw [hwz] at hst rz bz
      clear hwz
      go_wp2
      exact bodyPost_ret (v := .tuple #[.agg (rwC rwZ), .int .i64 240]) (res_rw2 Tryd.results24 rfl rz) rfl ⟨rfl, bz⟩
def ofB (o f g k : Int) (p : Nm) : Bool := ((p.1.op : Int) == o) && ((p.1.form : Int) == f) && ((p.1.frm : Int) == g) && ((p.1.kind : Int) == k)
set_option maxRecDepth 100000 in
set_option maxHeartbeats 8000000 in
theorem b24_of (o f fr kd : Int) (h1 : decide (o < 1) = false) (h2 : decide (31 < o) = false) (w : World) (KA : Box (∀ w, Calls Tryd.prog 9 #[] w fun r w' => ∃ v, r = .returned v ∧ OwnsAll w w' v)) (rr : Rw) (nn : List UInt8) (e : Int) (HR : Box (match fstL (ofB o f fr kd) with | some p => p = (rr, nn) ∧ e = 0 | none => rr = rwZ ∧ nn = [] ∧ e = 240)) : Calls Tryd.prog 22 #[.int .u8 o, .int .u8 f, .int .u8 fr, .int .u8 kd] w fun r w' => r = .returned (.tuple #[.agg (ndC rr ⟨nn.toArray⟩), .int .i64 e]) ∧ Below w.heap.size w w' := by
  obtain ⟨Rz_0, B0⟩ := opn1 w (Obj.cells #[.int .u8 0, .int .u8 0, .int .u8 0, .int .u8 0, .int .u32 0, .int .u32 0, .int .u8 0, .string ⟨#[]⟩] 38)
  go_enter Tryd.func22, Tryd.ntmps22
  go_wp2_with fail
  refine (KA.out _).mono ?_
  rintro r w1 ⟨v, rfl, g, cap, rfl, hg, hN, hb⟩
  have B1 := btr B0 hb
  have R1 := heap_of hb _ _ _ Rz_0
  clear B0 Rz_0 hb h1 h2
  simp only [size_al] at hg
  go_wp2
  go_loopw [11] (fun iv wr => ∃ k : Nat, k ≤ 136 ∧ iv = .int .i64 (k : Int) ∧ Below w.heap.size w wr ∧ wr.heap[w.heap.size]? = some (.cells #[.int .u8 0, .int .u8 0, .int .u8 0, .int .u8 0, .int .u32 0, .int .u32 0, .int .u8 0, .string ⟨#[]⟩] 38) ∧ NdsAt wr g allL ∧ Box (∀ j p, j < k → allL[j]? = some p → ofB o f fr kd p = false)) (fun iv _ => 136 - (intOf iv).toNat)
  case atStart => exact ⟨0, Nat.zero_le _, rfl, B1, R1, hN, box (fun j _ hj => absurd hj (by omega))⟩
  case round =>
    clear B1 R1 hN
    obtain ⟨k, hk, rfl, hB, hR, hN, HA⟩ := hrel
    by_cases hlt : k < 136
    · have dl : decide ((k : Int) < 136) = true := decide_eq_true (by omega)
      have hw1 : IntKind.i64.wrap ((k : Int) + 1) = ((k + 1 : Nat) : Int) := by rw [IntKind.wrap_i64]; omega
      obtain ⟨⟨r0, s0⟩, hp⟩ : ∃ p, allL[k]? = some p := ⟨_, List.getElem?_eq_getElem (by rw [allL_len]; exact hlt)⟩
      have HP := box hp
      obtain ⟨c0, c1, c2, c3, c4, c5, c6, c7⟩ := hN.cells hp
      clear hp
      have hrf := rwC_fold r0
      have hsn := rwC_new
      have a0 : ∀ h, (rwC r0)[0]'h = .int .u8 (r0.op : Nat) := fun _ => rfl
      have a1 : ∀ h, (rwC r0)[1]'h = .int .u8 (r0.form : Nat) := fun _ => rfl
      have a2 : ∀ h, (rwC r0)[2]'h = .int .u8 (r0.frm : Nat) := fun _ => rfl
      have a3 : ∀ h, (rwC r0)[3]'h = .int .u8 (r0.kind : Nat) := fun _ => rfl
      have hb9 := bal wr (.cells (rwC r0) 36)
      have B2 := btr hB hb9
      have R2 := heap_of hb9 _ _ _ hR
      have N2 := hN.below hb9
      have HN := box N2
      have HR2 := box R2
      have HB2 := box B2
      obtain ⟨b1, g1⟩ : ∃ b, (((r0.op : Nat) : Int) == o) = b := ⟨_, rfl⟩
      obtain ⟨b2, g2⟩ : ∃ b, (((r0.form : Nat) : Int) == f) = b := ⟨_, rfl⟩
      obtain ⟨b3, g3⟩ : ∃ b, (((r0.frm : Nat) : Int) == fr) = b := ⟨_, rfl⟩
      obtain ⟨b4, g4⟩ : ∃ b, (((r0.kind : Nat) : Int) == kd) = b := ⟨_, rfl⟩
      have HB : Box (ofB o f fr kd (r0, s0) = (b1 && b2 && b3 && b4)) := box (by unfold ofB; rw [g1, g2, g3, g4])
      by_cases hall : (b1 && b2 && b3 && b4) = true
      · rw [hall] at HB
        have e9 := HR.out
        rw [fst_yes HA.out HP.out HB.out] at e9
        obtain ⟨e8, rfl⟩ := e9
        cases e8
        simp only [Bool.and_eq_true] at hall
        obtain ⟨⟨⟨rfl, rfl⟩, rfl⟩, rfl⟩ := hall
        obtain ⟨d0, d1, d2, d3, d4, d5, d6, d7⟩ := HN.out.cells HP.out
        have hnf := ndC_fold rr ⟨nn.toArray⟩
        have hst := ndC_store (r := rr) (s := ⟨nn.toArray⟩) HR2.out rfl
        have rz := setRow_row (c' := ndC rr ⟨nn.toArray⟩) HR2.out
        have bz : Below w.heap.size w ((wr.alloc (.cells (rwC rr) 36)).setRow w.heap.size (ndC rr ⟨nn.toArray⟩)) := Below.setRow HB2.out (Nat.le_refl _)
        obtain ⟨wz, hwz⟩ : ∃ V, (wr.alloc (.cells (rwC rr) 36)).setRow w.heap.size (ndC rr ⟨nn.toArray⟩) = V := ⟨_, rfl⟩
        rw [hwz] at hst rz bz
        clear hwz hB hR hN B2 R2 N2 hb9
        go_wp2
        exact bodyPost_ret (v := .tuple #[.agg (ndC rr ⟨nn.toArray⟩), .int .i64 0]) (res_nd2 Tryd.results22 rfl rz) rfl ⟨rfl, bz⟩
      · rw [Bool.not_eq_true] at hall
        rw [hall] at HB
        have HX : Box (∀ j p, j < k + 1 → allL[j]? = some p → ofB o f fr kd p = false) := box (fun j p hj q => by
          by_cases z : j < k
          · exact HA.out j p z q
          · have e : j = k := by omega
            subst e
            rw [HP.out] at q
            cases q
            exact HB.out)
        clear hB hR hN B2 R2 N2 hb9
        have hcs : b1 = false ∨ b1 = true ∧ b2 = false ∨ b1 = true ∧ b2 = true ∧ b3 = false ∨ b1 = true ∧ b2 = true ∧ b3 = true ∧ b4 = false := by
          revert hall; cases b1 <;> cases b2 <;> cases b3 <;> cases b4 <;> simp
        clear hall
        rcases hcs with rfl | ⟨rfl, rfl⟩ | ⟨rfl, rfl, rfl⟩ | ⟨rfl, rfl, rfl, rfl⟩
        all_goals
          go_wp2
          go_roundw
          case rel => exact ⟨k + 1, by omega, by first | rfl | simp, HB2.out, HR2.out, HN.out, HX⟩
          case measure => simp [intOf]; omega
    · have k136 : k = 136 := by omega
      subst k136
      have dl : decide ((136 : Int) < 136) = false := rfl
      have e9 := HR.out
      rw [fst_no HA.out] at e9
      obtain ⟨rfl, rfl, rfl⟩ := e9
      have hnf : #[Value.int .u8 0, .int .u8 0, .int .u8 0, .int .u8 0, .int .u32 0, .int .u32 0, .int .u8 0, .string ⟨#[]⟩] = ndC rwZ ⟨#[]⟩ := rfl
      have hst := ndC_store (r := rwZ) (s := ⟨#[]⟩) hR rfl
      have rz := setRow_row (c' := ndC rwZ ⟨#[]⟩) hR
      have bz : Below w.heap.size w (wr.setRow w.heap.size (ndC rwZ ⟨#[]⟩)) := Below.setRow hB (Nat.le_refl _)
      obtain ⟨wz, hwz⟩ : ∃ V, wr.setRow w.heap.size (ndC rwZ ⟨#[]⟩) = V := ⟨_, rfl⟩
      rw [hwz] at hst rz bz
      clear hwz
      go_wp2
      exact bodyPost_ret (v := .tuple #[.agg (ndC rwZ ⟨#[]⟩), .int .i64 240]) (res_nd2 Tryd.results22 rfl rz) rfl ⟨rfl, bz⟩
set_option maxRecDepth 100000 in
set_option maxHeartbeats 8000000 in
theorem b24_of_no (o f fr kd : Int) (h : o < 1 ∨ 31 < o) (w : World) : Calls Tryd.prog 22 #[.int .u8 o, .int .u8 f, .int .u8 fr, .int .u8 kd] w fun r w' => r = .returned (.tuple #[.agg (ndC rwZ ⟨#[]⟩), .int .i64 2]) ∧ Below w.heap.size w w' := by
  rcases (show decide (o < 1) = true ∨ decide (o < 1) = false ∧ decide (31 < o) = true from by simp only [decide_eq_true_iff, decide_eq_false_iff_not]; omega) with h1 | ⟨h1, h2⟩
  all_goals
    clear h
    obtain ⟨Rz_0, B0⟩ := opn1 w (Obj.cells #[.int .u8 0, .int .u8 0, .int .u8 0, .int .u8 0, .int .u32 0, .int .u32 0, .int .u8 0, .string ⟨#[]⟩] 38)
    go_enter Tryd.func22, Tryd.ntmps22
    clear B0 Rz_0
    go_wp2
    exact bodyPost_ret (v := .tuple #[.agg #[.int .u8 0, .int .u8 0, .int .u8 0, .int .u8 0, .int .u32 0, .int .u32 0, .int .u8 0, .string ⟨#[]⟩], .int .i64 2]) (by simp [results, Tryd.results22, go_sem]) rfl ⟨rfl, (Below.refl _ _).alloc (by first | omega | (simp only [size_al]; omega)) _⟩
end Go.Proofs.YtfdhglllmhggkaaDoor
