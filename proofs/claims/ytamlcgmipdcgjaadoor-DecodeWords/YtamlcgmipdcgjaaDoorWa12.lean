/-
  What the functions that the statement reaches return: part 12 (YG, YH, YM).
-/
import Derived.Test.YtamlcgmipdcgjaaDoorWa11
namespace Go.Proofs.YtamlcgmipdcgjaaDoor
set_option maxRecDepth 100000
set_option maxHeartbeats 40000000
set_option maxRecDepth 100000
open Go.RowKit WMath
set_option linter.unusedSimpArgs false
set_option linter.unusedVariables false
def inCE (r q : In) : Bool := (((r.op : Nat) : Int) == ((q.op : Nat) : Int)) && (((r.form : Nat) : Int) == ((q.form : Nat) : Int)) && (((r.frm : Nat) : Int) == ((q.frm : Nat) : Int)) && (((r.kind : Nat) : Int) == ((q.kind : Nat) : Int)) && (((r.rd : Nat) : Int) == ((q.rd : Nat) : Int)) && (((r.rs1 : Nat) : Int) == ((q.rs1 : Nat) : Int)) && (((r.rs2 : Nat) : Int) == ((q.rs2 : Nat) : Int)) && (((r.rs3 : Nat) : Int) == ((q.rs3 : Nat) : Int)) && (((r.rm : Nat) : Int) == ((q.rm : Nat) : Int)) && (r.imm == q.imm) && (((r.csr : Nat) : Int) == ((q.csr : Nat) : Int))
theorem inCE_is (r q : In) : inCE r q = decide (r = q) := by
  unfold inCE
  rw [Bool.eq_iff_iff, decide_eq_true_iff]
  simp only [Bool.and_eq_true, beq_iff_eq]
  constructor
  · intro h
    cases r; cases q
    simp only at h
    simp only [In.mk.injEq]
    omega
  · rintro rfl
    simp
set_option maxRecDepth 100000 in
theorem eqin (r q : In) (w : World) : (Op.equalIn 10000 28 (.agg (inC r)) (.agg (inC q))).run Tryd.prog w = .ok (inCE r q) w := by
  have q0 : ∀ (r : In), (part 23 (inC r) 0).run Tryd.prog w = .ok (.int .u8 ((r.op : Nat) : Int)) w := fun r => by kernel_rfl
  have i0 : (Op.equalIn 9999 23 (.int .u8 ((r.op : Nat) : Int)) (.int .u8 ((q.op : Nat) : Int))).run Tryd.prog w = .ok (((r.op : Nat) : Int) == ((q.op : Nat) : Int)) w := run_equalIn_int w 9998 23 .u8 .u8 _ _ Tryd.underlying23
  have n0 : ("Op" = "_") = False := by simp
  have q1 : ∀ (r : In), (part 24 (inC r) 1).run Tryd.prog w = .ok (.int .u8 ((r.form : Nat) : Int)) w := fun r => by kernel_rfl
  have i1 : (Op.equalIn 9999 24 (.int .u8 ((r.form : Nat) : Int)) (.int .u8 ((q.form : Nat) : Int))).run Tryd.prog w = .ok (((r.form : Nat) : Int) == ((q.form : Nat) : Int)) w := run_equalIn_int w 9998 24 .u8 .u8 _ _ Tryd.underlying24
  have n1 : ("Form" = "_") = False := by simp
  have q2 : ∀ (r : In), (part 24 (inC r) 2).run Tryd.prog w = .ok (.int .u8 ((r.frm : Nat) : Int)) w := fun r => by kernel_rfl
  have i2 : (Op.equalIn 9999 24 (.int .u8 ((r.frm : Nat) : Int)) (.int .u8 ((q.frm : Nat) : Int))).run Tryd.prog w = .ok (((r.frm : Nat) : Int) == ((q.frm : Nat) : Int)) w := run_equalIn_int w 9998 24 .u8 .u8 _ _ Tryd.underlying24
  have n2 : ("From" = "_") = False := by simp
  have q3 : ∀ (r : In), (part 25 (inC r) 3).run Tryd.prog w = .ok (.int .u8 ((r.kind : Nat) : Int)) w := fun r => by kernel_rfl
  have i3 : (Op.equalIn 9999 25 (.int .u8 ((r.kind : Nat) : Int)) (.int .u8 ((q.kind : Nat) : Int))).run Tryd.prog w = .ok (((r.kind : Nat) : Int) == ((q.kind : Nat) : Int)) w := run_equalIn_int w 9998 25 .u8 .u8 _ _ Tryd.underlying25
  have n3 : ("Kind" = "_") = False := by simp
  have q4 : ∀ (r : In), (part 5 (inC r) 4).run Tryd.prog w = .ok (.int .u8 ((r.rd : Nat) : Int)) w := fun r => by kernel_rfl
  have i4 : (Op.equalIn 9999 5 (.int .u8 ((r.rd : Nat) : Int)) (.int .u8 ((q.rd : Nat) : Int))).run Tryd.prog w = .ok (((r.rd : Nat) : Int) == ((q.rd : Nat) : Int)) w := run_equalIn_int w 9998 5 .u8 .u8 _ _ Tryd.underlying5
  have n4 : ("Rd" = "_") = False := by simp
  have q5 : ∀ (r : In), (part 5 (inC r) 5).run Tryd.prog w = .ok (.int .u8 ((r.rs1 : Nat) : Int)) w := fun r => by kernel_rfl
  have i5 : (Op.equalIn 9999 5 (.int .u8 ((r.rs1 : Nat) : Int)) (.int .u8 ((q.rs1 : Nat) : Int))).run Tryd.prog w = .ok (((r.rs1 : Nat) : Int) == ((q.rs1 : Nat) : Int)) w := run_equalIn_int w 9998 5 .u8 .u8 _ _ Tryd.underlying5
  have n5 : ("Rs1" = "_") = False := by simp
  have q6 : ∀ (r : In), (part 5 (inC r) 6).run Tryd.prog w = .ok (.int .u8 ((r.rs2 : Nat) : Int)) w := fun r => by kernel_rfl
  have i6 : (Op.equalIn 9999 5 (.int .u8 ((r.rs2 : Nat) : Int)) (.int .u8 ((q.rs2 : Nat) : Int))).run Tryd.prog w = .ok (((r.rs2 : Nat) : Int) == ((q.rs2 : Nat) : Int)) w := run_equalIn_int w 9998 5 .u8 .u8 _ _ Tryd.underlying5
  have n6 : ("Rs2" = "_") = False := by simp
  have q7 : ∀ (r : In), (part 5 (inC r) 7).run Tryd.prog w = .ok (.int .u8 ((r.rs3 : Nat) : Int)) w := fun r => by kernel_rfl
  have i7 : (Op.equalIn 9999 5 (.int .u8 ((r.rs3 : Nat) : Int)) (.int .u8 ((q.rs3 : Nat) : Int))).run Tryd.prog w = .ok (((r.rs3 : Nat) : Int) == ((q.rs3 : Nat) : Int)) w := run_equalIn_int w 9998 5 .u8 .u8 _ _ Tryd.underlying5
  have n7 : ("Rs3" = "_") = False := by simp
  have q8 : ∀ (r : In), (part 5 (inC r) 8).run Tryd.prog w = .ok (.int .u8 ((r.rm : Nat) : Int)) w := fun r => by kernel_rfl
  have i8 : (Op.equalIn 9999 5 (.int .u8 ((r.rm : Nat) : Int)) (.int .u8 ((q.rm : Nat) : Int))).run Tryd.prog w = .ok (((r.rm : Nat) : Int) == ((q.rm : Nat) : Int)) w := run_equalIn_int w 9998 5 .u8 .u8 _ _ Tryd.underlying5
  have n8 : ("Rm" = "_") = False := by simp
  have q9 : ∀ (r : In), (part 26 (inC r) 9).run Tryd.prog w = .ok (.int .i16 r.imm) w := fun r => by kernel_rfl
  have i9 : (Op.equalIn 9999 26 (.int .i16 r.imm) (.int .i16 q.imm)).run Tryd.prog w = .ok (r.imm == q.imm) w := run_equalIn_int w 9998 26 .i16 .i16 _ _ Tryd.underlying26
  have n9 : ("Imm" = "_") = False := by simp
  have q10 : ∀ (r : In), (part 5 (inC r) 10).run Tryd.prog w = .ok (.int .u8 ((r.csr : Nat) : Int)) w := fun r => by kernel_rfl
  have i10 : (Op.equalIn 9999 5 (.int .u8 ((r.csr : Nat) : Int)) (.int .u8 ((q.csr : Nat) : Int))).run Tryd.prog w = .ok (((r.csr : Nat) : Int) == ((q.csr : Nat) : Int)) w := run_equalIn_int w 9998 5 .u8 .u8 _ _ Tryd.underlying5
  have n10 : ("Csr" = "_") = False := by simp
  have st : Tryd.prog.stoodInHeld 28 = false := by kernel_rfl
  rw [show (10000 : Nat) = 9999 + 1 from rfl]
  unfold Op.equalIn
  simp only [Sem.run_bind, run_underlying Tryd.underlying28, Result.andThen_ok]
  rw [show (Sem.run Tryd.prog program w) = .ok Tryd.prog w from rfl]
  simp only [Result.andThen_ok, st, Bool.false_eq_true, if_false]
  have fo : ∀ (l : List Field) (b : Field → (Option Bool × Unit) → Sem (ForInStep (Option Bool × Unit))), (forIn l.toArray (none, ()) b : Sem (Option Bool × Unit)) = forIn l (none, ()) b := fun l b => by simp
  simp only [fo, List.forIn_cons, List.forIn_nil, ne_eq, n0, n1, n2, n3, n4, n5, n6, n7, n8, n9, n10, not_false_eq_true, if_true]
  unfold inCE
  obtain ⟨b0, h0⟩ : ∃ x, (((r.op : Nat) : Int) == ((q.op : Nat) : Int)) = x := ⟨_, rfl⟩
  rw [h0] at i0
  obtain ⟨b1, h1⟩ : ∃ x, (((r.form : Nat) : Int) == ((q.form : Nat) : Int)) = x := ⟨_, rfl⟩
  rw [h1] at i1
  obtain ⟨b2, h2⟩ : ∃ x, (((r.frm : Nat) : Int) == ((q.frm : Nat) : Int)) = x := ⟨_, rfl⟩
  rw [h2] at i2
  obtain ⟨b3, h3⟩ : ∃ x, (((r.kind : Nat) : Int) == ((q.kind : Nat) : Int)) = x := ⟨_, rfl⟩
  rw [h3] at i3
  obtain ⟨b4, h4⟩ : ∃ x, (((r.rd : Nat) : Int) == ((q.rd : Nat) : Int)) = x := ⟨_, rfl⟩
  rw [h4] at i4
  obtain ⟨b5, h5⟩ : ∃ x, (((r.rs1 : Nat) : Int) == ((q.rs1 : Nat) : Int)) = x := ⟨_, rfl⟩
  rw [h5] at i5
  obtain ⟨b6, h6⟩ : ∃ x, (((r.rs2 : Nat) : Int) == ((q.rs2 : Nat) : Int)) = x := ⟨_, rfl⟩
  rw [h6] at i6
  obtain ⟨b7, h7⟩ : ∃ x, (((r.rs3 : Nat) : Int) == ((q.rs3 : Nat) : Int)) = x := ⟨_, rfl⟩
  rw [h7] at i7
  obtain ⟨b8, h8⟩ : ∃ x, (((r.rm : Nat) : Int) == ((q.rm : Nat) : Int)) = x := ⟨_, rfl⟩
  rw [h8] at i8
  obtain ⟨b9, h9⟩ : ∃ x, (r.imm == q.imm) = x := ⟨_, rfl⟩
  rw [h9] at i9
  obtain ⟨b10, h10⟩ : ∃ x, (((r.csr : Nat) : Int) == ((q.csr : Nat) : Int)) = x := ⟨_, rfl⟩
  rw [h10] at i10
  rw [h0, h1, h2, h3, h4, h5, h6, h7, h8, h9, h10]
  cases b0
  · simp only [Sem.run_bind, Sem.run_pure, Result.andThen_ok, Bool.not_false, Bool.not_true, Bool.false_eq_true, if_false, if_true, Bool.false_and, Bool.true_and, q0, i0]
  cases b1
  · simp only [Sem.run_bind, Sem.run_pure, Result.andThen_ok, Bool.not_false, Bool.not_true, Bool.false_eq_true, if_false, if_true, Bool.false_and, Bool.true_and, q0, i0, q1, i1]
  cases b2
  · simp only [Sem.run_bind, Sem.run_pure, Result.andThen_ok, Bool.not_false, Bool.not_true, Bool.false_eq_true, if_false, if_true, Bool.false_and, Bool.true_and, q0, i0, q1, i1, q2, i2]
  cases b3
  · simp only [Sem.run_bind, Sem.run_pure, Result.andThen_ok, Bool.not_false, Bool.not_true, Bool.false_eq_true, if_false, if_true, Bool.false_and, Bool.true_and, q0, i0, q1, i1, q2, i2, q3, i3]
  cases b4
  · simp only [Sem.run_bind, Sem.run_pure, Result.andThen_ok, Bool.not_false, Bool.not_true, Bool.false_eq_true, if_false, if_true, Bool.false_and, Bool.true_and, q0, i0, q1, i1, q2, i2, q3, i3, q4, i4]
  cases b5
  · simp only [Sem.run_bind, Sem.run_pure, Result.andThen_ok, Bool.not_false, Bool.not_true, Bool.false_eq_true, if_false, if_true, Bool.false_and, Bool.true_and, q0, i0, q1, i1, q2, i2, q3, i3, q4, i4, q5, i5]
  cases b6
  · simp only [Sem.run_bind, Sem.run_pure, Result.andThen_ok, Bool.not_false, Bool.not_true, Bool.false_eq_true, if_false, if_true, Bool.false_and, Bool.true_and, q0, i0, q1, i1, q2, i2, q3, i3, q4, i4, q5, i5, q6, i6]
  cases b7
  · simp only [Sem.run_bind, Sem.run_pure, Result.andThen_ok, Bool.not_false, Bool.not_true, Bool.false_eq_true, if_false, if_true, Bool.false_and, Bool.true_and, q0, i0, q1, i1, q2, i2, q3, i3, q4, i4, q5, i5, q6, i6, q7, i7]
  cases b8
  · simp only [Sem.run_bind, Sem.run_pure, Result.andThen_ok, Bool.not_false, Bool.not_true, Bool.false_eq_true, if_false, if_true, Bool.false_and, Bool.true_and, q0, i0, q1, i1, q2, i2, q3, i3, q4, i4, q5, i5, q6, i6, q7, i7, q8, i8]
  cases b9
  · simp only [Sem.run_bind, Sem.run_pure, Result.andThen_ok, Bool.not_false, Bool.not_true, Bool.false_eq_true, if_false, if_true, Bool.false_and, Bool.true_and, q0, i0, q1, i1, q2, i2, q3, i3, q4, i4, q5, i5, q6, i6, q7, i7, q8, i8, q9, i9]
  cases b10
  · simp only [Sem.run_bind, Sem.run_pure, Result.andThen_ok, Bool.not_false, Bool.not_true, Bool.false_eq_true, if_false, if_true, Bool.false_and, Bool.true_and, q0, i0, q1, i1, q2, i2, q3, i3, q4, i4, q5, i5, q6, i6, q7, i7, q8, i8, q9, i9, q10, i10]
  simp only [Sem.run_bind, Sem.run_pure, Result.andThen_ok, Bool.not_false, Bool.not_true, Bool.false_eq_true, if_false, if_true, Bool.false_and, Bool.true_and, q0, i0, q1, i1, q2, i2, q3, i3, q4, i4, q5, i5, q6, i6, q7, i7, q8, i8, q9, i9, q10, i10]
def usCE (r q : Us) : Bool := (((r.rx : Nat) : Int) == ((q.rx : Nat) : Int)) && (((r.rf : Nat) : Int) == ((q.rf : Nat) : Int)) && (((r.wx : Nat) : Int) == ((q.wx : Nat) : Int)) && (((r.wf : Nat) : Int) == ((q.wf : Nat) : Int))
theorem usCE_is (r q : Us) : usCE r q = decide (r = q) := by
  unfold usCE
  rw [Bool.eq_iff_iff, decide_eq_true_iff]
  simp only [Bool.and_eq_true, beq_iff_eq]
  constructor
  · intro h
    cases r; cases q
    simp only at h
    simp only [Us.mk.injEq]
    omega
  · rintro rfl
    simp
set_option maxRecDepth 100000 in
theorem equs (r q : Us) (w : World) : (Op.equalIn 10000 33 (.agg (usC r)) (.agg (usC q))).run Tryd.prog w = .ok (usCE r q) w := by
  have q0 : ∀ (r : Us), (part 22 (usC r) 0).run Tryd.prog w = .ok (.int .u32 ((r.rx : Nat) : Int)) w := fun r => by kernel_rfl
  have i0 : (Op.equalIn 9999 22 (.int .u32 ((r.rx : Nat) : Int)) (.int .u32 ((q.rx : Nat) : Int))).run Tryd.prog w = .ok (((r.rx : Nat) : Int) == ((q.rx : Nat) : Int)) w := run_equalIn_int w 9998 22 .u32 .u32 _ _ Tryd.underlying22
  have n0 : ("ReadX" = "_") = False := by simp
  have q1 : ∀ (r : Us), (part 22 (usC r) 1).run Tryd.prog w = .ok (.int .u32 ((r.rf : Nat) : Int)) w := fun r => by kernel_rfl
  have i1 : (Op.equalIn 9999 22 (.int .u32 ((r.rf : Nat) : Int)) (.int .u32 ((q.rf : Nat) : Int))).run Tryd.prog w = .ok (((r.rf : Nat) : Int) == ((q.rf : Nat) : Int)) w := run_equalIn_int w 9998 22 .u32 .u32 _ _ Tryd.underlying22
  have n1 : ("ReadF" = "_") = False := by simp
  have q2 : ∀ (r : Us), (part 22 (usC r) 2).run Tryd.prog w = .ok (.int .u32 ((r.wx : Nat) : Int)) w := fun r => by kernel_rfl
  have i2 : (Op.equalIn 9999 22 (.int .u32 ((r.wx : Nat) : Int)) (.int .u32 ((q.wx : Nat) : Int))).run Tryd.prog w = .ok (((r.wx : Nat) : Int) == ((q.wx : Nat) : Int)) w := run_equalIn_int w 9998 22 .u32 .u32 _ _ Tryd.underlying22
  have n2 : ("WriteX" = "_") = False := by simp
  have q3 : ∀ (r : Us), (part 22 (usC r) 3).run Tryd.prog w = .ok (.int .u32 ((r.wf : Nat) : Int)) w := fun r => by kernel_rfl
  have i3 : (Op.equalIn 9999 22 (.int .u32 ((r.wf : Nat) : Int)) (.int .u32 ((q.wf : Nat) : Int))).run Tryd.prog w = .ok (((r.wf : Nat) : Int) == ((q.wf : Nat) : Int)) w := run_equalIn_int w 9998 22 .u32 .u32 _ _ Tryd.underlying22
  have n3 : ("WriteF" = "_") = False := by simp
  have st : Tryd.prog.stoodInHeld 33 = false := by kernel_rfl
  rw [show (10000 : Nat) = 9999 + 1 from rfl]
  unfold Op.equalIn
  simp only [Sem.run_bind, run_underlying Tryd.underlying33, Result.andThen_ok]
  rw [show (Sem.run Tryd.prog program w) = .ok Tryd.prog w from rfl]
  simp only [Result.andThen_ok, st, Bool.false_eq_true, if_false]
  have fo : ∀ (l : List Field) (b : Field → (Option Bool × Unit) → Sem (ForInStep (Option Bool × Unit))), (forIn l.toArray (none, ()) b : Sem (Option Bool × Unit)) = forIn l (none, ()) b := fun l b => by simp
  simp only [fo, List.forIn_cons, List.forIn_nil, ne_eq, n0, n1, n2, n3, not_false_eq_true, if_true]
  unfold usCE
  obtain ⟨b0, h0⟩ : ∃ x, (((r.rx : Nat) : Int) == ((q.rx : Nat) : Int)) = x := ⟨_, rfl⟩
  rw [h0] at i0
  obtain ⟨b1, h1⟩ : ∃ x, (((r.rf : Nat) : Int) == ((q.rf : Nat) : Int)) = x := ⟨_, rfl⟩
  rw [h1] at i1
  obtain ⟨b2, h2⟩ : ∃ x, (((r.wx : Nat) : Int) == ((q.wx : Nat) : Int)) = x := ⟨_, rfl⟩
  rw [h2] at i2
  obtain ⟨b3, h3⟩ : ∃ x, (((r.wf : Nat) : Int) == ((q.wf : Nat) : Int)) = x := ⟨_, rfl⟩
  rw [h3] at i3
  rw [h0, h1, h2, h3]
  cases b0
  · simp only [Sem.run_bind, Sem.run_pure, Result.andThen_ok, Bool.not_false, Bool.not_true, Bool.false_eq_true, if_false, if_true, Bool.false_and, Bool.true_and, q0, i0]
  cases b1
  · simp only [Sem.run_bind, Sem.run_pure, Result.andThen_ok, Bool.not_false, Bool.not_true, Bool.false_eq_true, if_false, if_true, Bool.false_and, Bool.true_and, q0, i0, q1, i1]
  cases b2
  · simp only [Sem.run_bind, Sem.run_pure, Result.andThen_ok, Bool.not_false, Bool.not_true, Bool.false_eq_true, if_false, if_true, Bool.false_and, Bool.true_and, q0, i0, q1, i1, q2, i2]
  cases b3
  · simp only [Sem.run_bind, Sem.run_pure, Result.andThen_ok, Bool.not_false, Bool.not_true, Bool.false_eq_true, if_false, if_true, Bool.false_and, Bool.true_and, q0, i0, q1, i1, q2, i2, q3, i3]
  simp only [Sem.run_bind, Sem.run_pure, Result.andThen_ok, Bool.not_false, Bool.not_true, Bool.false_eq_true, if_false, if_true, Bool.false_and, Bool.true_and, q0, i0, q1, i1, q2, i2, q3, i3]
end Go.Proofs.YtamlcgmipdcgjaaDoor
namespace Go.Proofs.YtamlcgmipdcgjaaDoor
set_option maxRecDepth 100000
set_option maxHeartbeats 40000000
set_option maxRecDepth 100000
open Go.RowKit WMath
set_option linter.unusedSimpArgs false
set_option linter.unusedVariables false
set_option maxRecDepth 100000 in
set_option maxHeartbeats 8000000 in
theorem dc_lives {T : World → Prop} (FB : Box (∀ {w w' : World}, T w → Below w.heap.size w w' → T w')) (K1 : Box (∀ w, T w → Calls Tryd.prog 9 #[.int .u32 3211475] w fun r w' => r = .returned (.tuple #[.agg (inC (⟨7, 0, 0, 0, 1, 2, 3, 0, 0, 0, 0⟩ : In)), .int .i64 0]) ∧ Below w.heap.size w w')) (K2 : Box (∀ w, T w → Calls Tryd.prog 9 #[.int .u32 4262538791] w fun r w' => r = .returned (.tuple #[.agg (inC (⟨2, 0, 0, 0, 0, 2, 1, 0, 0, (-4), 0⟩ : In)), .int .i64 0]) ∧ Below w.heap.size w w'))  (cc : In) (K3 : Box (∀ w, T w → Calls Tryd.prog 9 #[.int .u32 0] w fun r w' => r = .returned (.tuple #[.agg (inC cc), .int .i64 250]) ∧ Below w.heap.size w w')) (K4 : Box (∀ w, T w → Calls Tryd.prog 11 #[.int .u32 2216179] w fun r w' => r = .returned (.tuple #[.agg (usC (⟨0, 0, 2, 0⟩ : Us)), .int .i64 0]) ∧ Below w.heap.size w w')) (w : World) (hT : T w) : Calls Tryd.prog 13 #[] w fun r w' => r = .returned (.bool true) ∧ Below w.heap.size w w' := by
  have FF := box hT
  clear hT
  have hin := inC_new
  have hun := usC_new
  have he := eqin
  have hu := equs
  have f1 : #[Value.int .u8 7, .int .u8 0, .int .u8 0, .int .u8 0, .int .u8 1, .int .u8 2, .int .u8 3, .int .u8 0, .int .u8 0, .int .i16 0, .int .u8 0] = inC (⟨7, 0, 0, 0, 1, 2, 3, 0, 0, 0, 0⟩ : In) := rfl
  have f2 : #[Value.int .u8 2, .int .u8 0, .int .u8 0, .int .u8 0, .int .u8 0, .int .u8 2, .int .u8 1, .int .u8 0, .int .u8 0, .int .i16 (-4), .int .u8 0] = inC (⟨2, 0, 0, 0, 0, 2, 1, 0, 0, (-4), 0⟩ : In) := rfl
  have f3 : #[Value.int .u32 0, .int .u32 0, .int .u32 2, .int .u32 0] = usC ⟨0, 0, 2, 0⟩ := rfl
  have e1 : inCE (⟨7, 0, 0, 0, 1, 2, 3, 0, 0, 0, 0⟩ : In) (⟨7, 0, 0, 0, 1, 2, 3, 0, 0, 0, 0⟩ : In) = true := by decide
  have e2 : inCE (⟨2, 0, 0, 0, 0, 2, 1, 0, 0, (-4), 0⟩ : In) (⟨2, 0, 0, 0, 0, 2, 1, 0, 0, (-4), 0⟩ : In) = true := by decide
  have e3 : usCE (⟨0, 0, 2, 0⟩ : Us) ⟨0, 0, 2, 0⟩ = true := by decide
  have B0 : Below w.heap.size w w := (Below.refl _ _)
  go_enter Tryd.func13, Tryd.ntmps13
  go_wp2_with fail
  refine (K1.out _ (FB.out FF.out B0)).mono ?_
  rintro r w1 ⟨rfl, b1⟩
  have B1 : Below w.heap.size w w1 := btr B0 b1
  clear b1 B0 
  have S2 := box B1.size
  have Ra_2 := heap_alloc_last w1 (Obj.cells (inC (⟨7, 0, 0, 0, 1, 2, 3, 0, 0, 0, 0⟩ : In)) 28)
  have B2 := btr B1 (bal w1 (Obj.cells (inC (⟨7, 0, 0, 0, 1, 2, 3, 0, 0, 0, 0⟩ : In)) 28))
  clear B1 
  obtain ⟨ca_2_0, ca_2_1, ca_2_2, ca_2_3, ca_2_4, ca_2_5, ca_2_6, ca_2_7, ca_2_8, ca_2_9, ca_2_10⟩ := inC_cells Ra_2
  go_wp2_with fail
  refine (K2.out _ (FB.out FF.out B2)).mono ?_
  rintro r w3 ⟨rfl, b3⟩
  have B3 : Below w.heap.size w w3 := btr B2 b3
  have Ra_3 := heap_of b3 _ _ _ Ra_2
  clear b3 B2 Ra_2 ca_2_0 ca_2_1 ca_2_2 ca_2_3 ca_2_4 ca_2_5 ca_2_6 ca_2_7 ca_2_8 ca_2_9 ca_2_10
  obtain ⟨ca_3_0, ca_3_1, ca_3_2, ca_3_3, ca_3_4, ca_3_5, ca_3_6, ca_3_7, ca_3_8, ca_3_9, ca_3_10⟩ := inC_cells Ra_3
  have S4 := box B3.size
  have La_4 : Box (w1.heap.size < w3.heap.size) := box (Array.getElem?_eq_some_iff.1 Ra_3).1
  have Rb_4 := heap_alloc_last w3 (Obj.cells (inC (⟨2, 0, 0, 0, 0, 2, 1, 0, 0, (-4), 0⟩ : In)) 28)
  have B4 := btr B3 (bal w3 (Obj.cells (inC (⟨2, 0, 0, 0, 0, 2, 1, 0, 0, (-4), 0⟩ : In)) 28))
  have Ra_4 := heap_of (bal w3 (Obj.cells (inC (⟨2, 0, 0, 0, 0, 2, 1, 0, 0, (-4), 0⟩ : In)) 28)) _ _ _ Ra_3
  clear B3 Ra_3 ca_3_0 ca_3_1 ca_3_2 ca_3_3 ca_3_4 ca_3_5 ca_3_6 ca_3_7 ca_3_8 ca_3_9 ca_3_10
  obtain ⟨ca_4_0, ca_4_1, ca_4_2, ca_4_3, ca_4_4, ca_4_5, ca_4_6, ca_4_7, ca_4_8, ca_4_9, ca_4_10⟩ := inC_cells Ra_4
  obtain ⟨cb_4_0, cb_4_1, cb_4_2, cb_4_3, cb_4_4, cb_4_5, cb_4_6, cb_4_7, cb_4_8, cb_4_9, cb_4_10⟩ := inC_cells Rb_4
  go_wp2_with fail
  refine (K3.out _ (FB.out FF.out B4)).mono ?_
  rintro r w5 ⟨rfl, b5⟩
  have B5 : Below w.heap.size w w5 := btr B4 b5
  have Ra_5 := heap_of b5 _ _ _ Ra_4
  have Rb_5 := heap_of b5 _ _ _ Rb_4
  clear b5 B4 Ra_4 ca_4_0 ca_4_1 ca_4_2 ca_4_3 ca_4_4 ca_4_5 ca_4_6 ca_4_7 ca_4_8 ca_4_9 ca_4_10 Rb_4 cb_4_0 cb_4_1 cb_4_2 cb_4_3 cb_4_4 cb_4_5 cb_4_6 cb_4_7 cb_4_8 cb_4_9 cb_4_10
  obtain ⟨ca_5_0, ca_5_1, ca_5_2, ca_5_3, ca_5_4, ca_5_5, ca_5_6, ca_5_7, ca_5_8, ca_5_9, ca_5_10⟩ := inC_cells Ra_5
  obtain ⟨cb_5_0, cb_5_1, cb_5_2, cb_5_3, cb_5_4, cb_5_5, cb_5_6, cb_5_7, cb_5_8, cb_5_9, cb_5_10⟩ := inC_cells Rb_5
  have S6 := box B5.size
  have La_6 : Box (w1.heap.size < w5.heap.size) := box (Array.getElem?_eq_some_iff.1 Ra_5).1
  have Lb_6 : Box (w3.heap.size < w5.heap.size) := box (Array.getElem?_eq_some_iff.1 Rb_5).1
  have Rc_6 := heap_alloc_last w5 (Obj.cells (inC cc) 28)
  have B6 := btr B5 (bal w5 (Obj.cells (inC cc) 28))
  have Ra_6 := heap_of (bal w5 (Obj.cells (inC cc) 28)) _ _ _ Ra_5
  have Rb_6 := heap_of (bal w5 (Obj.cells (inC cc) 28)) _ _ _ Rb_5
  clear B5 Ra_5 ca_5_0 ca_5_1 ca_5_2 ca_5_3 ca_5_4 ca_5_5 ca_5_6 ca_5_7 ca_5_8 ca_5_9 ca_5_10 Rb_5 cb_5_0 cb_5_1 cb_5_2 cb_5_3 cb_5_4 cb_5_5 cb_5_6 cb_5_7 cb_5_8 cb_5_9 cb_5_10
  obtain ⟨ca_6_0, ca_6_1, ca_6_2, ca_6_3, ca_6_4, ca_6_5, ca_6_6, ca_6_7, ca_6_8, ca_6_9, ca_6_10⟩ := inC_cells Ra_6
  obtain ⟨cb_6_0, cb_6_1, cb_6_2, cb_6_3, cb_6_4, cb_6_5, cb_6_6, cb_6_7, cb_6_8, cb_6_9, cb_6_10⟩ := inC_cells Rb_6
  obtain ⟨cc_6_0, cc_6_1, cc_6_2, cc_6_3, cc_6_4, cc_6_5, cc_6_6, cc_6_7, cc_6_8, cc_6_9, cc_6_10⟩ := inC_cells Rc_6
  clear Rc_6 cc_6_0 cc_6_1 cc_6_2 cc_6_3 cc_6_4 cc_6_5 cc_6_6 cc_6_7 cc_6_8 cc_6_9 cc_6_10
  go_wp2_with fail
  refine (K4.out _ (FB.out FF.out B6)).mono ?_
  rintro r w7 ⟨rfl, b7⟩
  have B7 : Below w.heap.size w w7 := btr B6 b7
  have Ra_7 := heap_of b7 _ _ _ Ra_6
  have Rb_7 := heap_of b7 _ _ _ Rb_6
  clear b7 B6 Ra_6 ca_6_0 ca_6_1 ca_6_2 ca_6_3 ca_6_4 ca_6_5 ca_6_6 ca_6_7 ca_6_8 ca_6_9 ca_6_10 Rb_6 cb_6_0 cb_6_1 cb_6_2 cb_6_3 cb_6_4 cb_6_5 cb_6_6 cb_6_7 cb_6_8 cb_6_9 cb_6_10
  obtain ⟨ca_7_0, ca_7_1, ca_7_2, ca_7_3, ca_7_4, ca_7_5, ca_7_6, ca_7_7, ca_7_8, ca_7_9, ca_7_10⟩ := inC_cells Ra_7
  obtain ⟨cb_7_0, cb_7_1, cb_7_2, cb_7_3, cb_7_4, cb_7_5, cb_7_6, cb_7_7, cb_7_8, cb_7_9, cb_7_10⟩ := inC_cells Rb_7
  have S8 := box B7.size
  have La_8 : Box (w1.heap.size < w7.heap.size) := box (Array.getElem?_eq_some_iff.1 Ra_7).1
  have Lb_8 : Box (w3.heap.size < w7.heap.size) := box (Array.getElem?_eq_some_iff.1 Rb_7).1
  have Ru_8 := heap_alloc_last w7 (Obj.cells (usC (⟨0, 0, 2, 0⟩ : Us)) 33)
  have B8 := btr B7 (bal w7 (Obj.cells (usC (⟨0, 0, 2, 0⟩ : Us)) 33))
  have Ra_8 := heap_of (bal w7 (Obj.cells (usC (⟨0, 0, 2, 0⟩ : Us)) 33)) _ _ _ Ra_7
  have Rb_8 := heap_of (bal w7 (Obj.cells (usC (⟨0, 0, 2, 0⟩ : Us)) 33)) _ _ _ Rb_7
  clear B7 Ra_7 ca_7_0 ca_7_1 ca_7_2 ca_7_3 ca_7_4 ca_7_5 ca_7_6 ca_7_7 ca_7_8 ca_7_9 ca_7_10 Rb_7 cb_7_0 cb_7_1 cb_7_2 cb_7_3 cb_7_4 cb_7_5 cb_7_6 cb_7_7 cb_7_8 cb_7_9 cb_7_10
  obtain ⟨ca_8_0, ca_8_1, ca_8_2, ca_8_3, ca_8_4, ca_8_5, ca_8_6, ca_8_7, ca_8_8, ca_8_9, ca_8_10⟩ := inC_cells Ra_8
  obtain ⟨cb_8_0, cb_8_1, cb_8_2, cb_8_3, cb_8_4, cb_8_5, cb_8_6, cb_8_7, cb_8_8, cb_8_9, cb_8_10⟩ := inC_cells Rb_8
  obtain ⟨cu_8_0, cu_8_1, cu_8_2, cu_8_3⟩ := usC_cells Ru_8
  go_wp2
  go_ret
  exact ⟨rfl, B8⟩
set_option maxRecDepth 100000 in
set_option maxHeartbeats 8000000 in
theorem dc_words_y {T : World → Prop} (FB : Box (∀ {w w' : World}, T w → Below w.heap.size w w' → T w')) (x : Nat) (i : In) (u : Us) (K1 : Box (∀ w, T w → Calls Tryd.prog 9 #[.int .u32 (x : Nat)] w fun r w' => r = .returned (.tuple #[.agg (inC i), .int .i64 0]) ∧ Below w.heap.size w w')) (R1 : Box (∀ w, Calls Tryd.prog 10 #[.int .u32 (x : Nat)] w fun r w' => r = .returned (.tuple #[.agg (inC i), .int .i64 0]) ∧ Below w.heap.size w w')) (K2 : Box (∀ w, T w → Calls Tryd.prog 11 #[.int .u32 (x : Nat)] w fun r w' => r = .returned (.tuple #[.agg (usC u), .int .i64 0]) ∧ Below w.heap.size w w')) (K3 : Box (∀ w, T w → Calls Tryd.prog 12 #[.int .u32 (x : Nat)] w fun r w' => r = .returned (.bool true) ∧ Below w.heap.size w w')) (KL : Box (∀ w, T w → Calls Tryd.prog 13 #[] w fun r w' => r = .returned (.bool true) ∧ Below w.heap.size w w')) (R2 : Box (∀ w, Calls Tryd.prog 14 #[.agg (inC i)] w fun r w' => r = .returned (.agg (usC u)) ∧ Below w.heap.size w w')) (w : World) (hT : T w) : Calls Tryd.prog 3 #[.int .u32 (x : Nat)] w fun r w' => r = .returned (.bool true) ∧ Below w.heap.size w w' := by
  have FF := box hT
  clear hT
  have hin := inC_new
  have hun := usC_new
  have he := eqin
  have hu := equs
  have hif := inC_fold
  have huf := usC_fold
  have hii : inCE i i = true := by rw [inCE_is]; exact decide_eq_true rfl
  have huu : usCE u u = true := by rw [usCE_is]; exact decide_eq_true rfl
  have hun2 : ∀ (w : World) (b : Nat) (x : Us), b = w.heap.size → (storeCells ⟨b, 0, none⟩ (usC x).toList 0).run Tryd.prog (w.alloc (.cells (usC ⟨0, 0, 0, 0⟩) 33)) = .ok () (w.alloc (.cells (usC x) 33)) := usC_new
  have hf0 : #[Value.int .u32 0, .int .u32 0, .int .u32 0, .int .u32 0] = usC ⟨0, 0, 0, 0⟩ := rfl
  have B0 : Below w.heap.size w w := (Below.refl _ _)
  go_enter Tryd.func3, Tryd.ntmps3
  go_wp2_with fail
  refine (K1.out _ (FB.out FF.out B0)).mono ?_
  rintro r w1 ⟨rfl, b1⟩
  have B1 : Below w.heap.size w w1 := btr B0 b1
  clear b1 B0 
  have S2 := box B1.size
  have Ra_2 := heap_alloc_last w1 (Obj.cells (inC i) 28)
  have B2 := btr B1 (bal w1 (Obj.cells (inC i) 28))
  clear B1 
  obtain ⟨ca_2_0, ca_2_1, ca_2_2, ca_2_3, ca_2_4, ca_2_5, ca_2_6, ca_2_7, ca_2_8, ca_2_9, ca_2_10⟩ := inC_cells Ra_2
  go_wp2_with fail
  refine (R1.out _).mono ?_
  rintro r w3 ⟨rfl, b3⟩
  have B3 : Below w.heap.size w w3 := btr B2 b3
  have Ra_3 := heap_of b3 _ _ _ Ra_2
  clear b3 B2 Ra_2 ca_2_0 ca_2_1 ca_2_2 ca_2_3 ca_2_4 ca_2_5 ca_2_6 ca_2_7 ca_2_8 ca_2_9 ca_2_10
  obtain ⟨ca_3_0, ca_3_1, ca_3_2, ca_3_3, ca_3_4, ca_3_5, ca_3_6, ca_3_7, ca_3_8, ca_3_9, ca_3_10⟩ := inC_cells Ra_3
  have S4 := box B3.size
  have La_4 : Box (w1.heap.size < w3.heap.size) := box (Array.getElem?_eq_some_iff.1 Ra_3).1
  have Rb_4 := heap_alloc_last w3 (Obj.cells (inC i) 28)
  have B4 := btr B3 (bal w3 (Obj.cells (inC i) 28))
  have Ra_4 := heap_of (bal w3 (Obj.cells (inC i) 28)) _ _ _ Ra_3
  clear B3 Ra_3 ca_3_0 ca_3_1 ca_3_2 ca_3_3 ca_3_4 ca_3_5 ca_3_6 ca_3_7 ca_3_8 ca_3_9 ca_3_10
  obtain ⟨ca_4_0, ca_4_1, ca_4_2, ca_4_3, ca_4_4, ca_4_5, ca_4_6, ca_4_7, ca_4_8, ca_4_9, ca_4_10⟩ := inC_cells Ra_4
  obtain ⟨cb_4_0, cb_4_1, cb_4_2, cb_4_3, cb_4_4, cb_4_5, cb_4_6, cb_4_7, cb_4_8, cb_4_9, cb_4_10⟩ := inC_cells Rb_4
  go_wp2_with fail
  refine (K2.out _ (FB.out FF.out B4)).mono ?_
  rintro r w5 ⟨rfl, b5⟩
  have B5 : Below w.heap.size w w5 := btr B4 b5
  have Ra_5 := heap_of b5 _ _ _ Ra_4
  have Rb_5 := heap_of b5 _ _ _ Rb_4
  clear b5 B4 Ra_4 ca_4_0 ca_4_1 ca_4_2 ca_4_3 ca_4_4 ca_4_5 ca_4_6 ca_4_7 ca_4_8 ca_4_9 ca_4_10 Rb_4 cb_4_0 cb_4_1 cb_4_2 cb_4_3 cb_4_4 cb_4_5 cb_4_6 cb_4_7 cb_4_8 cb_4_9 cb_4_10
  obtain ⟨ca_5_0, ca_5_1, ca_5_2, ca_5_3, ca_5_4, ca_5_5, ca_5_6, ca_5_7, ca_5_8, ca_5_9, ca_5_10⟩ := inC_cells Ra_5
  obtain ⟨cb_5_0, cb_5_1, cb_5_2, cb_5_3, cb_5_4, cb_5_5, cb_5_6, cb_5_7, cb_5_8, cb_5_9, cb_5_10⟩ := inC_cells Rb_5
  have S6 := box B5.size
  have La_6 : Box (w1.heap.size < w5.heap.size) := box (Array.getElem?_eq_some_iff.1 Ra_5).1
  have Lb_6 : Box (w3.heap.size < w5.heap.size) := box (Array.getElem?_eq_some_iff.1 Rb_5).1
  have Ru_6 := heap_alloc_last w5 (Obj.cells (usC u) 33)
  have B6 := btr B5 (bal w5 (Obj.cells (usC u) 33))
  have Ra_6 := heap_of (bal w5 (Obj.cells (usC u) 33)) _ _ _ Ra_5
  have Rb_6 := heap_of (bal w5 (Obj.cells (usC u) 33)) _ _ _ Rb_5
  clear B5 Ra_5 ca_5_0 ca_5_1 ca_5_2 ca_5_3 ca_5_4 ca_5_5 ca_5_6 ca_5_7 ca_5_8 ca_5_9 ca_5_10 Rb_5 cb_5_0 cb_5_1 cb_5_2 cb_5_3 cb_5_4 cb_5_5 cb_5_6 cb_5_7 cb_5_8 cb_5_9 cb_5_10
  obtain ⟨ca_6_0, ca_6_1, ca_6_2, ca_6_3, ca_6_4, ca_6_5, ca_6_6, ca_6_7, ca_6_8, ca_6_9, ca_6_10⟩ := inC_cells Ra_6
  obtain ⟨cb_6_0, cb_6_1, cb_6_2, cb_6_3, cb_6_4, cb_6_5, cb_6_6, cb_6_7, cb_6_8, cb_6_9, cb_6_10⟩ := inC_cells Rb_6
  obtain ⟨cu_6_0, cu_6_1, cu_6_2, cu_6_3⟩ := usC_cells Ru_6
  go_wp2_with fail
  refine (K3.out _ (FB.out FF.out B6)).mono ?_
  rintro r w7 ⟨rfl, b7⟩
  have B7 : Below w.heap.size w w7 := btr B6 b7
  have Ra_7 := heap_of b7 _ _ _ Ra_6
  have Rb_7 := heap_of b7 _ _ _ Rb_6
  have Ru_7 := heap_of b7 _ _ _ Ru_6
  clear b7 B6 Ra_6 ca_6_0 ca_6_1 ca_6_2 ca_6_3 ca_6_4 ca_6_5 ca_6_6 ca_6_7 ca_6_8 ca_6_9 ca_6_10 Rb_6 cb_6_0 cb_6_1 cb_6_2 cb_6_3 cb_6_4 cb_6_5 cb_6_6 cb_6_7 cb_6_8 cb_6_9 cb_6_10 Ru_6 cu_6_0 cu_6_1 cu_6_2 cu_6_3
  obtain ⟨ca_7_0, ca_7_1, ca_7_2, ca_7_3, ca_7_4, ca_7_5, ca_7_6, ca_7_7, ca_7_8, ca_7_9, ca_7_10⟩ := inC_cells Ra_7
  obtain ⟨cb_7_0, cb_7_1, cb_7_2, cb_7_3, cb_7_4, cb_7_5, cb_7_6, cb_7_7, cb_7_8, cb_7_9, cb_7_10⟩ := inC_cells Rb_7
  obtain ⟨cu_7_0, cu_7_1, cu_7_2, cu_7_3⟩ := usC_cells Ru_7
  go_wp2_with fail
  obtain ⟨F, hF1, hF2⟩ := below_fun w7
  have fa_0 := fun u => (inC_cells (heap_of (hF1 u) _ _ _ Ra_7)).1
  have fa_1 := fun u => (inC_cells (heap_of (hF1 u) _ _ _ Ra_7)).2.1
  have fa_2 := fun u => (inC_cells (heap_of (hF1 u) _ _ _ Ra_7)).2.2.1
  have fa_3 := fun u => (inC_cells (heap_of (hF1 u) _ _ _ Ra_7)).2.2.2.1
  have fa_4 := fun u => (inC_cells (heap_of (hF1 u) _ _ _ Ra_7)).2.2.2.2.1
  have fa_5 := fun u => (inC_cells (heap_of (hF1 u) _ _ _ Ra_7)).2.2.2.2.2.1
  have fa_6 := fun u => (inC_cells (heap_of (hF1 u) _ _ _ Ra_7)).2.2.2.2.2.2.1
  have fa_7 := fun u => (inC_cells (heap_of (hF1 u) _ _ _ Ra_7)).2.2.2.2.2.2.2.1
  have fa_8 := fun u => (inC_cells (heap_of (hF1 u) _ _ _ Ra_7)).2.2.2.2.2.2.2.2.1
  have fa_9 := fun u => (inC_cells (heap_of (hF1 u) _ _ _ Ra_7)).2.2.2.2.2.2.2.2.2.1
  have fa_10 := fun u => (inC_cells (heap_of (hF1 u) _ _ _ Ra_7)).2.2.2.2.2.2.2.2.2.2
  have fb_0 := fun u => (inC_cells (heap_of (hF1 u) _ _ _ Rb_7)).1
  have fb_1 := fun u => (inC_cells (heap_of (hF1 u) _ _ _ Rb_7)).2.1
  have fb_2 := fun u => (inC_cells (heap_of (hF1 u) _ _ _ Rb_7)).2.2.1
  have fb_3 := fun u => (inC_cells (heap_of (hF1 u) _ _ _ Rb_7)).2.2.2.1
  have fb_4 := fun u => (inC_cells (heap_of (hF1 u) _ _ _ Rb_7)).2.2.2.2.1
  have fb_5 := fun u => (inC_cells (heap_of (hF1 u) _ _ _ Rb_7)).2.2.2.2.2.1
  have fb_6 := fun u => (inC_cells (heap_of (hF1 u) _ _ _ Rb_7)).2.2.2.2.2.2.1
  have fb_7 := fun u => (inC_cells (heap_of (hF1 u) _ _ _ Rb_7)).2.2.2.2.2.2.2.1
  have fb_8 := fun u => (inC_cells (heap_of (hF1 u) _ _ _ Rb_7)).2.2.2.2.2.2.2.2.1
  have fb_9 := fun u => (inC_cells (heap_of (hF1 u) _ _ _ Rb_7)).2.2.2.2.2.2.2.2.2.1
  have fb_10 := fun u => (inC_cells (heap_of (hF1 u) _ _ _ Rb_7)).2.2.2.2.2.2.2.2.2.2
  have fu_0 := fun u => (usC_cells (heap_of (hF1 u) _ _ _ Ru_7)).1
  have fu_1 := fun u => (usC_cells (heap_of (hF1 u) _ _ _ Ru_7)).2.1
  have fu_2 := fun u => (usC_cells (heap_of (hF1 u) _ _ _ Ru_7)).2.2.1
  have fu_3 := fun u => (usC_cells (heap_of (hF1 u) _ _ _ Ru_7)).2.2.2
  have FG : Box (∀ u, T (F u)) := box (fun u => FB.out FF.out (btr B7 (hF1 u)))
  refine wp_region_below F hF2 (by kernel_rfl) (by kernel_rfl) ?_
  repeat first | go_big_quiet_step (first | (go_at_call 14; exact quietF hF1 hF2 (R2.out _)) | (go_at_call 13; exact quietF hF1 hF2 (KL.out _ (FG.out _))) | fail) | quiet_step (first | (go_at_call 14; exact quietF hF1 hF2 (R2.out _)) | (go_at_call 13; exact quietF hF1 hF2 (KL.out _ (FG.out _))) | fail)
  refine wpQuiet_nil ?_
  rintro _ ⟨uW, rfl⟩
  have B8 := btr B7 (hF1 uW)
  have Ra_8 := heap_of (hF1 uW) _ _ _ Ra_7
  have Rb_8 := heap_of (hF1 uW) _ _ _ Rb_7
  have Ru_8 := heap_of (hF1 uW) _ _ _ Ru_7
  obtain ⟨w8, hw⟩ : ∃ V, F uW = V := ⟨_, rfl⟩
  rw [hw] at B8 Ra_8 Rb_8 Ru_8
  try rw [hw]
  clear hw hF1 hF2 B7 fa_0 fa_1 fa_2 fa_3 fa_4 fa_5 fa_6 fa_7 fa_8 fa_9 fa_10 fb_0 fb_1 fb_2 fb_3 fb_4 fb_5 fb_6 fb_7 fb_8 fb_9 fb_10 fu_0 fu_1 fu_2 fu_3 Ra_7 ca_7_0 ca_7_1 ca_7_2 ca_7_3 ca_7_4 ca_7_5 ca_7_6 ca_7_7 ca_7_8 ca_7_9 ca_7_10 Rb_7 cb_7_0 cb_7_1 cb_7_2 cb_7_3 cb_7_4 cb_7_5 cb_7_6 cb_7_7 cb_7_8 cb_7_9 cb_7_10 Ru_7 cu_7_0 cu_7_1 cu_7_2 cu_7_3
  clear FG
  clear F
  obtain ⟨ca_8_0, ca_8_1, ca_8_2, ca_8_3, ca_8_4, ca_8_5, ca_8_6, ca_8_7, ca_8_8, ca_8_9, ca_8_10⟩ := inC_cells Ra_8
  obtain ⟨cb_8_0, cb_8_1, cb_8_2, cb_8_3, cb_8_4, cb_8_5, cb_8_6, cb_8_7, cb_8_8, cb_8_9, cb_8_10⟩ := inC_cells Rb_8
  obtain ⟨cu_8_0, cu_8_1, cu_8_2, cu_8_3⟩ := usC_cells Ru_8
  go_wp2
  go_ret
  exact ⟨rfl, B8⟩
set_option maxRecDepth 100000 in
set_option maxHeartbeats 8000000 in
theorem dc_words_n {T : World → Prop} (FB : Box (∀ {w w' : World}, T w → Below w.heap.size w w' → T w')) (x : Nat) (i : In) (u : Us) (hz : usCE u ⟨0, 0, 0, 0⟩ = true) (K1 : Box (∀ w, T w → Calls Tryd.prog 9 #[.int .u32 (x : Nat)] w fun r w' => r = .returned (.tuple #[.agg (inC i), .int .i64 250]) ∧ Below w.heap.size w w')) (R1 : Box (∀ w, Calls Tryd.prog 10 #[.int .u32 (x : Nat)] w fun r w' => r = .returned (.tuple #[.agg (inC i), .int .i64 250]) ∧ Below w.heap.size w w')) (K2 : Box (∀ w, T w → Calls Tryd.prog 11 #[.int .u32 (x : Nat)] w fun r w' => r = .returned (.tuple #[.agg (usC u), .int .i64 250]) ∧ Below w.heap.size w w')) (K3 : Box (∀ w, T w → Calls Tryd.prog 12 #[.int .u32 (x : Nat)] w fun r w' => r = .returned (.bool false) ∧ Below w.heap.size w w')) (KL : Box (∀ w, T w → Calls Tryd.prog 13 #[] w fun r w' => r = .returned (.bool true) ∧ Below w.heap.size w w')) (w : World) (hT : T w) : Calls Tryd.prog 3 #[.int .u32 (x : Nat)] w fun r w' => r = .returned (.bool true) ∧ Below w.heap.size w w' := by
  have FF := box hT
  clear hT
  have hin := inC_new
  have hun := usC_new
  have he := eqin
  have hu := equs
  have hif := inC_fold
  have huf := usC_fold
  have hii : inCE i i = true := by rw [inCE_is]; exact decide_eq_true rfl
  have huu : usCE u u = true := by rw [usCE_is]; exact decide_eq_true rfl
  have hun2 : ∀ (w : World) (b : Nat) (x : Us), b = w.heap.size → (storeCells ⟨b, 0, none⟩ (usC x).toList 0).run Tryd.prog (w.alloc (.cells (usC ⟨0, 0, 0, 0⟩) 33)) = .ok () (w.alloc (.cells (usC x) 33)) := usC_new
  have hf0 : #[Value.int .u32 0, .int .u32 0, .int .u32 0, .int .u32 0] = usC ⟨0, 0, 0, 0⟩ := rfl
  have B0 : Below w.heap.size w w := (Below.refl _ _)
  go_enter Tryd.func3, Tryd.ntmps3
  go_wp2_with fail
  refine (K1.out _ (FB.out FF.out B0)).mono ?_
  rintro r w1 ⟨rfl, b1⟩
  have B1 : Below w.heap.size w w1 := btr B0 b1
  clear b1 B0 
  have S2 := box B1.size
  have Ra_2 := heap_alloc_last w1 (Obj.cells (inC i) 28)
  have B2 := btr B1 (bal w1 (Obj.cells (inC i) 28))
  clear B1 
  obtain ⟨ca_2_0, ca_2_1, ca_2_2, ca_2_3, ca_2_4, ca_2_5, ca_2_6, ca_2_7, ca_2_8, ca_2_9, ca_2_10⟩ := inC_cells Ra_2
  go_wp2_with fail
  refine (R1.out _).mono ?_
  rintro r w3 ⟨rfl, b3⟩
  have B3 : Below w.heap.size w w3 := btr B2 b3
  have Ra_3 := heap_of b3 _ _ _ Ra_2
  clear b3 B2 Ra_2 ca_2_0 ca_2_1 ca_2_2 ca_2_3 ca_2_4 ca_2_5 ca_2_6 ca_2_7 ca_2_8 ca_2_9 ca_2_10
  obtain ⟨ca_3_0, ca_3_1, ca_3_2, ca_3_3, ca_3_4, ca_3_5, ca_3_6, ca_3_7, ca_3_8, ca_3_9, ca_3_10⟩ := inC_cells Ra_3
  have S4 := box B3.size
  have La_4 : Box (w1.heap.size < w3.heap.size) := box (Array.getElem?_eq_some_iff.1 Ra_3).1
  have Rb_4 := heap_alloc_last w3 (Obj.cells (inC i) 28)
  have B4 := btr B3 (bal w3 (Obj.cells (inC i) 28))
  have Ra_4 := heap_of (bal w3 (Obj.cells (inC i) 28)) _ _ _ Ra_3
  clear B3 Ra_3 ca_3_0 ca_3_1 ca_3_2 ca_3_3 ca_3_4 ca_3_5 ca_3_6 ca_3_7 ca_3_8 ca_3_9 ca_3_10
  obtain ⟨ca_4_0, ca_4_1, ca_4_2, ca_4_3, ca_4_4, ca_4_5, ca_4_6, ca_4_7, ca_4_8, ca_4_9, ca_4_10⟩ := inC_cells Ra_4
  obtain ⟨cb_4_0, cb_4_1, cb_4_2, cb_4_3, cb_4_4, cb_4_5, cb_4_6, cb_4_7, cb_4_8, cb_4_9, cb_4_10⟩ := inC_cells Rb_4
  go_wp2_with fail
  refine (K2.out _ (FB.out FF.out B4)).mono ?_
  rintro r w5 ⟨rfl, b5⟩
  have B5 : Below w.heap.size w w5 := btr B4 b5
  have Ra_5 := heap_of b5 _ _ _ Ra_4
  have Rb_5 := heap_of b5 _ _ _ Rb_4
  clear b5 B4 Ra_4 ca_4_0 ca_4_1 ca_4_2 ca_4_3 ca_4_4 ca_4_5 ca_4_6 ca_4_7 ca_4_8 ca_4_9 ca_4_10 Rb_4 cb_4_0 cb_4_1 cb_4_2 cb_4_3 cb_4_4 cb_4_5 cb_4_6 cb_4_7 cb_4_8 cb_4_9 cb_4_10
  obtain ⟨ca_5_0, ca_5_1, ca_5_2, ca_5_3, ca_5_4, ca_5_5, ca_5_6, ca_5_7, ca_5_8, ca_5_9, ca_5_10⟩ := inC_cells Ra_5
  obtain ⟨cb_5_0, cb_5_1, cb_5_2, cb_5_3, cb_5_4, cb_5_5, cb_5_6, cb_5_7, cb_5_8, cb_5_9, cb_5_10⟩ := inC_cells Rb_5
  have S6 := box B5.size
  have La_6 : Box (w1.heap.size < w5.heap.size) := box (Array.getElem?_eq_some_iff.1 Ra_5).1
  have Lb_6 : Box (w3.heap.size < w5.heap.size) := box (Array.getElem?_eq_some_iff.1 Rb_5).1
  have Ru_6 := heap_alloc_last w5 (Obj.cells (usC u) 33)
  have B6 := btr B5 (bal w5 (Obj.cells (usC u) 33))
  have Ra_6 := heap_of (bal w5 (Obj.cells (usC u) 33)) _ _ _ Ra_5
  have Rb_6 := heap_of (bal w5 (Obj.cells (usC u) 33)) _ _ _ Rb_5
  clear B5 Ra_5 ca_5_0 ca_5_1 ca_5_2 ca_5_3 ca_5_4 ca_5_5 ca_5_6 ca_5_7 ca_5_8 ca_5_9 ca_5_10 Rb_5 cb_5_0 cb_5_1 cb_5_2 cb_5_3 cb_5_4 cb_5_5 cb_5_6 cb_5_7 cb_5_8 cb_5_9 cb_5_10
  obtain ⟨ca_6_0, ca_6_1, ca_6_2, ca_6_3, ca_6_4, ca_6_5, ca_6_6, ca_6_7, ca_6_8, ca_6_9, ca_6_10⟩ := inC_cells Ra_6
  obtain ⟨cb_6_0, cb_6_1, cb_6_2, cb_6_3, cb_6_4, cb_6_5, cb_6_6, cb_6_7, cb_6_8, cb_6_9, cb_6_10⟩ := inC_cells Rb_6
  obtain ⟨cu_6_0, cu_6_1, cu_6_2, cu_6_3⟩ := usC_cells Ru_6
  go_wp2_with fail
  refine (K3.out _ (FB.out FF.out B6)).mono ?_
  rintro r w7 ⟨rfl, b7⟩
  have B7 : Below w.heap.size w w7 := btr B6 b7
  have Ra_7 := heap_of b7 _ _ _ Ra_6
  have Rb_7 := heap_of b7 _ _ _ Rb_6
  have Ru_7 := heap_of b7 _ _ _ Ru_6
  clear b7 B6 Ra_6 ca_6_0 ca_6_1 ca_6_2 ca_6_3 ca_6_4 ca_6_5 ca_6_6 ca_6_7 ca_6_8 ca_6_9 ca_6_10 Rb_6 cb_6_0 cb_6_1 cb_6_2 cb_6_3 cb_6_4 cb_6_5 cb_6_6 cb_6_7 cb_6_8 cb_6_9 cb_6_10 Ru_6 cu_6_0 cu_6_1 cu_6_2 cu_6_3
  obtain ⟨ca_7_0, ca_7_1, ca_7_2, ca_7_3, ca_7_4, ca_7_5, ca_7_6, ca_7_7, ca_7_8, ca_7_9, ca_7_10⟩ := inC_cells Ra_7
  obtain ⟨cb_7_0, cb_7_1, cb_7_2, cb_7_3, cb_7_4, cb_7_5, cb_7_6, cb_7_7, cb_7_8, cb_7_9, cb_7_10⟩ := inC_cells Rb_7
  obtain ⟨cu_7_0, cu_7_1, cu_7_2, cu_7_3⟩ := usC_cells Ru_7
  go_wp2_with fail
  refine (KL.out _ (FB.out FF.out B7)).mono ?_
  rintro r w8 ⟨rfl, b8⟩
  have B8 : Below w.heap.size w w8 := btr B7 b8
  have Ra_8 := heap_of b8 _ _ _ Ra_7
  have Rb_8 := heap_of b8 _ _ _ Rb_7
  have Ru_8 := heap_of b8 _ _ _ Ru_7
  clear b8 B7 Ra_7 ca_7_0 ca_7_1 ca_7_2 ca_7_3 ca_7_4 ca_7_5 ca_7_6 ca_7_7 ca_7_8 ca_7_9 ca_7_10 Rb_7 cb_7_0 cb_7_1 cb_7_2 cb_7_3 cb_7_4 cb_7_5 cb_7_6 cb_7_7 cb_7_8 cb_7_9 cb_7_10 Ru_7 cu_7_0 cu_7_1 cu_7_2 cu_7_3
  obtain ⟨ca_8_0, ca_8_1, ca_8_2, ca_8_3, ca_8_4, ca_8_5, ca_8_6, ca_8_7, ca_8_8, ca_8_9, ca_8_10⟩ := inC_cells Ra_8
  obtain ⟨cb_8_0, cb_8_1, cb_8_2, cb_8_3, cb_8_4, cb_8_5, cb_8_6, cb_8_7, cb_8_8, cb_8_9, cb_8_10⟩ := inC_cells Rb_8
  obtain ⟨cu_8_0, cu_8_1, cu_8_2, cu_8_3⟩ := usC_cells Ru_8
  go_wp2
  go_ret
  exact ⟨rfl, B8⟩
end Go.Proofs.YtamlcgmipdcgjaaDoor
namespace Go.Proofs.YtamlcgmipdcgjaaDoor
set_option maxRecDepth 100000
set_option maxHeartbeats 40000000
set_option maxRecDepth 100000
open Go.RowKit WMath
set_option linter.unusedSimpArgs false
set_option linter.unusedVariables false
def usZ : Us := ⟨0, 0, 0, 0⟩
def usR (x : Nat) : Us := match fdL x with | some p => usI (dcI p.1 x) | none => usZ
theorem dcR_some {x : Nat} {p : Nm} (h : fdL x = some p) : dcR x = (dcI p.1 x, 0) := by unfold dcR; rw [h]
theorem dcR_none {x : Nat} (h : fdL x = none) : dcR x = (inZ, 250) := by unfold dcR; rw [h]
theorem usR_some {x : Nat} {p : Nm} (h : fdL x = some p) : usR x = usI (dcI p.1 x) := by unfold usR; rw [h]
theorem usR_none {x : Nat} (h : fdL x = none) : usR x = usZ := by unfold usR; rw [h]
theorem lv25a : dcR 3211475 = (⟨7, 0, 0, 0, 1, 2, 3, 0, 0, 0, 0⟩, 0) := by decide +kernel
theorem lv25b : dcR 4262538791 = (⟨2, 0, 0, 0, 0, 2, 1, 0, 0, (-4), 0⟩, 0) := by decide +kernel
theorem lv25c : dcR 0 = (inZ, 250) := by decide +kernel
theorem lv25d : (usR 2216179).rx = 0 ∧ (usR 2216179).rf = 0 ∧ (usR 2216179).wx = 2 ∧ (usR 2216179).wf = 0 ∧ (dcR 2216179).2 = 0 := by decide +kernel
theorem us_ext {a b : Us} (h1 : a.rx = b.rx) (h2 : a.rf = b.rf) (h3 : a.wx = b.wx) (h4 : a.wf = b.wf) : a = b := by
  cases a; cases b; simp_all
theorem lives25 {T : World → Prop} (FB : Box (∀ {w w' : World}, T w → Below w.heap.size w w' → T w')) (CD : ∀ x : Nat, x < 4294967296 → Box (∀ w, T w → Calls Tryd.prog 9 #[.int .u32 (x : Nat)] w fun r w' => r = .returned (.tuple #[.agg (inC (dcR x).1), .int .i64 (dcR x).2]) ∧ Below w.heap.size w w')) (CU : ∀ x : Nat, x < 4294967296 → Box (∀ w, T w → Calls Tryd.prog 11 #[.int .u32 (x : Nat)] w fun r w' => r = .returned (.tuple #[.agg (usC (usR x)), .int .i64 (dcR x).2]) ∧ Below w.heap.size w w')) (w : World) (hT : T w) : Calls Tryd.prog 13 #[] w fun r w' => r = .returned (.bool true) ∧ Below w.heap.size w w' := by
  have F1 := CD 3211475 (by decide)
  have F2 := CD 4262538791 (by decide)
  have F3 := CD 0 (by decide)
  have F4 := CU 2216179 (by decide)
  obtain ⟨d1, d2, d3, d4, d5⟩ := lv25d
  have du : usR 2216179 = ⟨0, 0, 2, 0⟩ := us_ext d1 d2 d3 d4
  rw [lv25a] at F1
  rw [lv25b] at F2
  rw [lv25c] at F3
  rw [du, d5] at F4
  exact dc_lives FB F1 F2 inZ F3 F4 w hT
theorem sg_bnd {a : Nat} (h : a < 4096) : -2048 ≤ sg12 a ∧ sg12 a ≤ 2047 := by
  unfold sg12
  split <;> omega
theorem in_bnd {x : Nat} (hx : x < 4294967296) {p : Nm} (h : fdL x = some p) : ∃ i, dcI p.1 x = i ∧ 1 ≤ i.op ∧ i.op ≤ 31 ∧ i.form < 4 ∧ i.frm < 4 ∧ i.kind < 4 ∧ i.rd < 32 ∧ i.rs1 < 32 ∧ i.rs2 < 32 ∧ i.rs3 < 32 ∧ i.rm < 8 ∧ i.rm ≠ 5 ∧ i.rm ≠ 6 ∧ -2048 ≤ i.imm ∧ i.imm ≤ 2047 ∧ i.csr ≤ 3 := by
  obtain ⟨hm, hf⟩ := fd_mem h
  obtain ⟨l1, l9, o1, o31, f4, g4, k4⟩ := lay24 hm
  refine ⟨_, rfl, o1, o31, f4, g4, k4, ?_⟩
  unfold fitsL at hf
  simp only [Bool.and_eq_true, Bool.not_eq_true', Bool.or_eq_true, decide_eq_true_eq, Bool.and_eq_false_iff, decide_eq_false_iff_not] at hf
  obtain ⟨⟨_, hr⟩, hc⟩ := hf
  have a1 : fld x 7 5 < 32 := fld_lt x 7 5
  have a2 : fld x 15 5 < 32 := fld_lt x 15 5
  have a3 : fld x 20 5 < 32 := fld_lt x 20 5
  have a4 : fld x 27 5 < 32 := fld_lt x 27 5
  have a5 : fld x 12 3 = x / 4096 % 8 := rfl
  have a6 : fld x 20 12 = x / 1048576 % 4096 := rfl
  have a7 : fld x 25 7 < 128 := fld_lt x 25 7
  have a8 : fld x 20 12 < 4096 := fld_lt x 20 12
  have s1 := sg_bnd a8
  have s2 : -2048 ≤ sg12 (32 * fld x 25 7 + fld x 7 5) ∧ sg12 (32 * fld x 25 7 + fld x 7 5) ≤ 2047 := sg_bnd (by omega)
  unfold dcI
  dsimp only
  refine ⟨?_, a2, ?_, ?_, ?_, ?_, ?_, ?_, ?_, ?_⟩
  · split <;> omega
  · split <;> omega
  · split <;> omega
  · split <;> omega
  · split <;> omega
  · split <;> omega
  · split
    · exact s1.1
    · split
      · exact s2.1
      · decide
  · split
    · exact s1.2
    · split
      · exact s2.2
      · decide
  · split <;> omega
theorem words25 {T : World → Prop} (FB : Box (∀ {w w' : World}, T w → Below w.heap.size w w' → T w')) (CD : ∀ x : Nat, x < 4294967296 → Box (∀ w, T w → Calls Tryd.prog 9 #[.int .u32 (x : Nat)] w fun r w' => r = .returned (.tuple #[.agg (inC (dcR x).1), .int .i64 (dcR x).2]) ∧ Below w.heap.size w w')) (CU : ∀ x : Nat, x < 4294967296 → Box (∀ w, T w → Calls Tryd.prog 11 #[.int .u32 (x : Nat)] w fun r w' => r = .returned (.tuple #[.agg (usC (usR x)), .int .i64 (dcR x).2]) ∧ Below w.heap.size w w')) (CG : ∀ x : Nat, x < 4294967296 → Box (∀ w, T w → Calls Tryd.prog 12 #[.int .u32 (x : Nat)] w fun r w' => r = .returned (.bool (fdL x).isSome) ∧ Below w.heap.size w w')) (KL : Box (∀ w, T w → Calls Tryd.prog 13 #[] w fun r w' => r = .returned (.bool true) ∧ Below w.heap.size w w')) (x : Nat) (hx : x < 4294967296) (w : World) (hT : T w) : Calls Tryd.prog 3 #[.int .u32 (x : Nat)] w fun r w' => r = .returned (.bool true) ∧ Below w.heap.size w w' := by
  have F1 := CD x hx
  have F2 := CU x hx
  have F3 := CG x hx
  cases h : fdL x with
  | none =>
    rw [dcR_none h] at F1
    rw [usR_none h, dcR_none h] at F2
    rw [h] at F3
    exact dc_words_n FB x inZ usZ (by decide) F1 (box (fun w => rDc25 x hx _ _ (dcR_none h) w)) F2 F3 KL w hT
  | some p =>
    obtain ⟨i, hi, o1, o31, _, _, _, a1, a2, a3, a4, _⟩ := in_bnd hx h
    rw [dcR_some h] at F1
    rw [usR_some h, dcR_some h] at F2
    rw [h] at F3
    rw [hi] at F1 F2
    exact dc_words_y FB x i (usI i) F1 (box (fun w => rDc25 x hx _ _ (by rw [dcR_some h, hi]) w)) F2 F3 KL (box (fun w => rUs25 i o1 o31 a1 a2 a3 a4 w)) w hT
end Go.Proofs.YtamlcgmipdcgjaaDoor
