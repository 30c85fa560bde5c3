/-
  What the functions that the statement reaches return: part 10 (YD, YE, YF, YG, YH, YM, YP, YQ).
-/
import Derived.Laws.AppendOwn
import Derived.Test.YtamlcgmipdcgjaaDoorLa09
namespace Go.Proofs.YtamlcgmipdcgjaaDoor
set_option maxRecDepth 100000
set_option maxHeartbeats 40000000
set_option maxRecDepth 100000
open Go.RowKit WMath
set_option linter.unusedSimpArgs false
set_option linter.unusedVariables false
theorem layL : allL.all (fun p => decide (1 ≤ p.1.lay ∧ p.1.lay ≤ 9 ∧ 1 ≤ p.1.op ∧ p.1.op ≤ 31 ∧ p.1.form < 4 ∧ p.1.frm < 4 ∧ p.1.kind < 4)) = true := by decide +kernel
theorem lay24 {p : Nm} (hp : p ∈ allL) : 1 ≤ p.1.lay ∧ p.1.lay ≤ 9 ∧ 1 ≤ p.1.op ∧ p.1.op ≤ 31 ∧ p.1.form < 4 ∧ p.1.frm < 4 ∧ p.1.kind < 4 := by
  have := List.all_eq_true.1 layL p hp
  simpa only [decide_eq_true_iff] using this
theorem fd_mem {x : Nat} {p : Nm} (h : fdL x = some p) : p ∈ allL ∧ fitsL p.1 x = true := by
  unfold fdL fstL at h
  exact ⟨List.mem_of_find?_eq_some h, by simpa using List.find?_some h⟩
theorem m256 (a n : Nat) (h : a < n) (hn : n ≤ 256) : ((a : Nat) : Int) % 256 = (a : Nat) := by omega
theorem rDc25 (x : Nat) (hx : x < 4294967296) (i : In) (e : Int) (h : dcR x = (i, e)) (w : World) : Calls Tryd.prog 10 #[.int .u32 (x : Nat)] w fun r w' => r = .returned (.tuple #[.agg (inC i), .int .i64 e]) ∧ Below w.heap.size w w' := by
  unfold dcR at h
  cases q : fdL x with
  | none =>
    rw [q] at h
    cases h
    exact b25_dec_no x rwZ ⟨#[]⟩ w (box (fun w => rFind24 x hx rwZ [] false (by rw [q]; rfl) (by rw [q]; rfl) w))
  | some p =>
    rw [q] at h
    cases h
    obtain ⟨pm, _⟩ := fd_mem q
    obtain ⟨l1, l9, _⟩ := lay24 pm
    obtain ⟨ro, nn⟩ := p
    simp only at l1 l9
    have KF := box (fun w => rFind24 x hx ro nn true (by rw [q]; rfl) (by rw [q]; rfl) w)
    have fb : ∀ lo n, lo + n ≤ 32 → Box (∀ w, Calls Tryd.prog 25 #[.int .u32 (x : Nat), .int .i64 (lo : Nat), .int .i64 (n : Nat)] w fun r w' => r = .returned (.int .i64 (fld x lo n : Nat)) ∧ Below w.heap.size w w') := fun lo n h => box (fun w => b25_field x lo n hx h w)
    have F7 := fb 7 5 (by decide)
    have F12 := fb 12 3 (by decide)
    have F15 := fb 15 5 (by decide)
    have F20 := fb 20 5 (by decide)
    have F27 := fb 27 5 (by decide)
    have FI := fb 20 12 (by decide)
    have FH := fb 25 7 (by decide)
    have a7 := fld_lt x 7 5
    have a12 := fld_lt x 12 3
    have a15 := fld_lt x 15 5
    have a20 := fld_lt x 20 5
    have a27 := fld_lt x 27 5
    have aI := fld_lt x 20 12
    have aH := fld_lt x 25 7
    have m0 := m256 _ 32 a7 (by decide)
    have m1 := m256 _ 8 a12 (by decide)
    have m2 := m256 _ 32 a15 (by decide)
    have m3 := m256 _ 32 a20 (by decide)
    have m4 := m256 _ 32 a27 (by decide)
    unfold dcI
    have tt : ∀ j : Nat, ro.lay = j → (((ro.lay : Nat) : Int) == ((j : Nat) : Int)) = true := fun j h => beq_iff_eq.2 (by omega)
    have ff : ∀ j : Nat, ro.lay ≠ j → (((ro.lay : Nat) : Int) == ((j : Nat) : Int)) = false := fun j h => beq_eq_false_iff_ne.2 (by omega)
    have nn2 : ro.lay ≠ 2 → (((ro.lay : Nat) : Int) != 2) = true := fun h => bne_iff_ne.2 (by omega)
    rcases (by omega : ro.lay = 1 ∨ ro.lay = 2 ∨ ro.lay = 3 ∨ ro.lay = 4 ∨ ro.lay = 5 ∨ ro.lay = 6 ∨ ro.lay = 7 ∨ ro.lay = 8 ∨ ro.lay = 9) with c | c | c | c | c | c | c | c | c
    · simp only [c, reduceCtorEq, if_true, if_false, Nat.reduceEqDiff, or_true, true_or, or_false, false_or]
      exact b25_dec_1 x ro _ (fld x 7 5) (fld x 12 3) (fld x 15 5) (fld x 20 5) (fld x 27 5) _ _ (tt 1 c) (nn2 (by omega)) m0 m1 m2 m3 m4 w KF F7 F12 F15 F20 F27 FI (box (fun w => b25_signed _ aI w))
    · simp only [c, reduceCtorEq, if_true, if_false, Nat.reduceEqDiff, or_true, true_or, or_false, false_or]
      exact b25_dec_2 x ro _ (fld x 7 5) (fld x 12 3) (fld x 15 5) (fld x 20 5) (fld x 27 5) _ (32 * fld x 25 7 + fld x 7 5) _ (ff 1 (by omega)) (tt 2 c) (by rw [c]; rfl) m0 m1 m2 m3 m4 w KF F7 F12 F15 F20 F27 FH (box (fun w => b25_signed _ (by omega) w)) (by rw [IntKind.wrap_i64]; omega) (by rw [IntKind.wrap_i64]; omega)
    · simp only [c, reduceCtorEq, if_true, if_false, Nat.reduceEqDiff, or_true, true_or, or_false, false_or]
      exact b25_dec_3 x ro _ (fld x 7 5) (fld x 12 3) (fld x 15 5) (fld x 20 5) (fld x 27 5) (ff 1 (by omega)) (ff 2 (by omega)) (tt 3 c) (nn2 (by omega)) m0 m1 m2 m3 m4 w KF F7 F12 F15 F20 F27
    · simp only [c, reduceCtorEq, if_true, if_false, Nat.reduceEqDiff, or_true, true_or, or_false, false_or]
      exact b25_dec_4 x ro _ (fld x 7 5) (fld x 12 3) (fld x 15 5) (fld x 20 5) (fld x 27 5) (ff 1 (by omega)) (ff 2 (by omega)) (ff 3 (by omega)) (tt 4 c) (nn2 (by omega)) m0 m1 m2 m3 m4 w KF F7 F12 F15 F20 F27
    · simp only [c, reduceCtorEq, if_true, if_false, Nat.reduceEqDiff, or_true, true_or, or_false, false_or]
      exact b25_dec_5 x ro _ (fld x 7 5) (fld x 12 3) (fld x 15 5) (fld x 20 5) (fld x 27 5) (ff 1 (by omega)) (ff 2 (by omega)) (ff 3 (by omega)) (ff 4 (by omega)) (tt 5 c) (nn2 (by omega)) m0 m1 m2 m3 m4 w KF F7 F12 F15 F20 F27
    · simp only [c, reduceCtorEq, if_true, if_false, Nat.reduceEqDiff, or_true, true_or, or_false, false_or]
      exact b25_dec_6 x ro _ (fld x 7 5) (fld x 12 3) (fld x 15 5) (fld x 20 5) (fld x 27 5) (ff 1 (by omega)) (ff 2 (by omega)) (ff 3 (by omega)) (ff 4 (by omega)) (ff 5 (by omega)) (tt 6 c) (nn2 (by omega)) m0 m1 m2 m3 m4 w KF F7 F12 F15 F20 F27
    · simp only [c, reduceCtorEq, if_true, if_false, Nat.reduceEqDiff, or_true, true_or, or_false, false_or]
      exact b25_dec_7 x ro _ (fld x 7 5) (fld x 12 3) (fld x 15 5) (fld x 20 5) (fld x 27 5) (ff 1 (by omega)) (ff 2 (by omega)) (ff 3 (by omega)) (ff 4 (by omega)) (ff 5 (by omega)) (ff 6 (by omega)) (ff 8 (by omega)) (ff 9 (by omega)) (nn2 (by omega)) m0 m1 m2 m3 m4 w KF F7 F12 F15 F20 F27
    · simp only [c, reduceCtorEq, if_true, if_false, Nat.reduceEqDiff, or_true, true_or, or_false, false_or]
      exact b25_dec_8 x ro _ (fld x 7 5) (fld x 12 3) (fld x 15 5) (fld x 20 5) (fld x 27 5) _ (fld x 20 12 % 256) (ff 1 (by omega)) (ff 2 (by omega)) (ff 3 (by omega)) (ff 4 (by omega)) (ff 5 (by omega)) (ff 6 (by omega)) (tt 8 c) (nn2 (by omega)) m0 m1 m2 m3 m4 w KF F7 F12 F15 F20 F27 FI (by omega)
    · simp only [c, reduceCtorEq, if_true, if_false, Nat.reduceEqDiff, or_true, true_or, or_false, false_or]
      exact b25_dec_9 x ro _ (fld x 7 5) (fld x 12 3) (fld x 15 5) (fld x 20 5) (fld x 27 5) _ (fld x 20 12 % 256) (ff 1 (by omega)) (ff 2 (by omega)) (ff 3 (by omega)) (ff 4 (by omega)) (ff 5 (by omega)) (ff 6 (by omega)) (ff 8 (by omega)) (tt 9 c) (nn2 (by omega)) m0 m1 m2 m3 m4 w KF F7 F12 F15 F20 F27 FI (by omega)
structure Us where
  rx : Nat
  rf : Nat
  wx : Nat
  wf : Nat
deriving DecidableEq
def usC (x : Us) : Array Value := #[.int .u32 (x.rx : Nat), .int .u32 (x.rf : Nat), .int .u32 (x.wx : Nat), .int .u32 (x.wf : Nat)]
theorem usC_cells {w : World} {b : Nat} {x : Us} {T : TypeId} (h : w.heap[b]? = some (.cells (usC x) T)) : w.cell? ⟨b, 0, none⟩ = some (.int .u32 (x.rx : Nat)) ∧ w.cell? ⟨b, 1, none⟩ = some (.int .u32 (x.rf : Nat)) ∧ w.cell? ⟨b, 2, none⟩ = some (.int .u32 (x.wx : Nat)) ∧ w.cell? ⟨b, 3, none⟩ = some (.int .u32 (x.wf : Nat)) :=
  ⟨cell7 h 0 _ rfl, cell7 h 1 _ rfl, cell7 h 2 _ rfl, cell7 h 3 _ rfl⟩
theorem usC_fold (x : Us) : #[Value.int .u32 (x.rx : Nat), .int .u32 (x.rf : Nat), .int .u32 (x.wx : Nat), .int .u32 (x.wf : Nat)] = usC x := rfl
theorem usC_store {w : World} {b : Nat} {x : Us} {c : Array Value} {T : TypeId} (h : w.heap[b]? = some (.cells c T)) (hc : c.size = 4) : (storeCells ⟨b, 0, none⟩ (usC x).toList 0).run Tryd.prog w = .ok () (w.setRow b (usC x)) := by
  have := run_storeCells_from (P := Tryd.prog) b T (usC x).toList 0 c w h (by simp [usC, hc]) (fun v hv => by
    simp [usC] at hv
    rcases hv with rfl | rfl | rfl | rfl <;> rfl)
  have e : List.drop 4 c.toList = [] := List.drop_eq_nil_of_le (by rw [Array.length_toList, hc]; exact Nat.le_refl _)
  simpa [usC, e] using this
theorem usC_lv {w : World} {b : Nat} {x : Us} {T : TypeId} (h : w.heap[b]? = some (.cells (usC x) T)) : (loadVar 33 ⟨b, 0, none⟩).run Tryd.prog w = .ok (.agg (usC x)) w := by
  have ha : (isAgg 33).run Tryd.prog w = .ok true w := by kernel_rfl
  have hs : (sizeOf 33).run Tryd.prog w = .ok 4 w := by kernel_rfl
  have q := run_loadCells_list (P := Tryd.prog) w ⟨b, 0, none⟩ (usC x).toList (fun j v hv => by
    have hadd : (⟨b, 0, none⟩ : Addr).add j = ⟨b, j, none⟩ := by unfold Addr.add; split <;> simp_all
    rw [hadd]
    exact cell7 h j v (by simpa using hv))
  rw [Array.length_toList, show (usC x).size = 4 from rfl] at q
  simp only [Sem.run_bind, Sem.run_pure, Result.andThen, loadVar, ha, hs, if_true, q]
theorem res_usC {fn : Func} {z : Tmp} (h : fn.results = #[.cell z 33]) {tmps : Array Value} {w : World} {b : Nat} {x : Us} {T : TypeId} (hz : tmps.getD z undef = .pointer (some ⟨b, 0, none⟩)) (hr : w.heap[b]? = some (.cells (usC x) T)) : (results fn tmps).run Tryd.prog w = .ok (.agg (usC x)) w := by
  have q := usC_lv hr
  have hz2 : tmps[z]?.getD undef = .pointer (some ⟨b, 0, none⟩) := by rw [← Array.getD_eq_getD_getElem?]; exact hz
  simp [results, h, hz2, asAddr, q, Result.andThen]
theorem usC_new (w : World) (b : Nat) (x : Us) (hb : b = w.heap.size) : (storeCells ⟨b, 0, none⟩ (usC x).toList 0).run Tryd.prog (w.alloc (.cells #[.int .u32 0, .int .u32 0, .int .u32 0, .int .u32 0] 33)) = .ok () (w.alloc (.cells (usC x) 33)) := by
  subst hb
  exact run_storeCells_new (P := Tryd.prog) w 33 #[.int .u32 0, .int .u32 0, .int .u32 0, .int .u32 0] (usC x) (by kernel_rfl) rfl (by simp [usC]; exact ⟨rfl, rfl, rfl, rfl⟩)
def usI (i : In) : Us := if i.op = 1 ∨ i.op = 22 ∨ i.op = 25 then ⟨2 ^ i.rs1, 0, 0, 2 ^ i.rd⟩ else if i.op = 2 then ⟨2 ^ i.rs1, 2 ^ i.rs2, 0, 0⟩ else if i.op = 3 ∨ i.op = 4 ∨ i.op = 5 ∨ i.op = 6 then ⟨0, 2 ^ i.rs1 ||| 2 ^ i.rs2 ||| 2 ^ i.rs3, 0, 2 ^ i.rd⟩ else if i.op = 11 ∨ i.op = 17 then ⟨0, 2 ^ i.rs1, 0, 2 ^ i.rd⟩ else if i.op = 18 ∨ i.op = 19 ∨ i.op = 20 then ⟨0, 2 ^ i.rs1 ||| 2 ^ i.rs2, 2 ^ i.rd, 0⟩ else if i.op = 21 ∨ i.op = 23 ∨ i.op = 24 then ⟨0, 2 ^ i.rs1, 2 ^ i.rd, 0⟩ else if i.op = 26 ∨ i.op = 27 ∨ i.op = 28 then ⟨2 ^ i.rs1, 0, 2 ^ i.rd, 0⟩ else if i.op = 29 ∨ i.op = 30 ∨ i.op = 31 then ⟨0, 0, 2 ^ i.rd, 0⟩ else ⟨0, 2 ^ i.rs1 ||| 2 ^ i.rs2, 0, 2 ^ i.rd⟩
theorem or32u (a b : Nat) (ha : a < 4294967296) (hb : b < 4294967296) : bits .or .u32 (a : Int) (b : Int) = ((a ||| b : Nat) : Int) := by
  have hx : a ||| b < 4294967296 := Nat.or_lt_two_pow (n := 32) ha hb
  have h1 : (BitVec.ofInt 32 (a : Int)).toNat = a := by
    rw [BitVec.ofInt_natCast, BitVec.toNat_ofNat]; exact Nat.mod_eq_of_lt ha
  have h2 : (BitVec.ofInt 32 (b : Int)).toNat = b := by
    rw [BitVec.ofInt_natCast, BitVec.toNat_ofNat]; exact Nat.mod_eq_of_lt hb
  show IntKind.u32.wrap ((BitVec.ofInt 32 (a : Int) ||| BitVec.ofInt 32 (b : Int)).toNat : Int) = _
  rw [BitVec.toNat_or, h1, h2, show ∀ y : Int, IntKind.u32.wrap y = y % 4294967296 from fun _ => rfl]
  omega
theorem two32 (r : Nat) (h : r < 32) : (2 : Int) ^ min r 32 % 4294967296 = ((2 ^ r : Nat) : Int) ∧ 2 ^ r < 4294967296 := by
  have l : 2 ^ r < 2 ^ 32 := Nat.pow_lt_pow_right (by decide) h
  have e : (2 : Int) ^ r = ((2 ^ r : Nat) : Int) := by rw [Int.natCast_pow]; rfl
  rw [show min r 32 = r by omega, e]
  obtain ⟨y, hy⟩ : ∃ y, 2 ^ r = y := ⟨_, rfl⟩
  rw [hy] at l ⊢
  have l2 : y < 4294967296 := l
  exact ⟨by omega, l2⟩
def inCE (r q : In) : Bool := (((r.op : Nat) : Int) == ((q.op : Nat) : Int)) && (((r.form : Nat) : Int) == ((q.form : Nat) : Int)) && (((r.frm : Nat) : Int) == ((q.frm : Nat) : Int)) && (((r.kind : Nat) : Int) == ((q.kind : Nat) : Int)) && (((r.rd : Nat) : Int) == ((q.rd : Nat) : Int)) && (((r.rs1 : Nat) : Int) == ((q.rs1 : Nat) : Int)) && (((r.rs2 : Nat) : Int) == ((q.rs2 : Nat) : Int)) && (((r.rs3 : Nat) : Int) == ((q.rs3 : Nat) : Int)) && (((r.rm : Nat) : Int) == ((q.rm : Nat) : Int)) && (r.imm == q.imm) && (((r.csr : Nat) : Int) == ((q.csr : Nat) : Int))
theorem inCE_is (r q : In) : inCE r q = decide (r = q) := by
  unfold inCE
  rw [Bool.eq_iff_iff, decide_eq_true_iff]
  simp only [Bool.and_eq_true, beq_iff_eq]
  constructor
  · intro h
    cases r; cases q
    simp only at h
    simp only [In.mk.injEq]
    omega
  · rintro rfl
    simp
set_option maxRecDepth 100000 in
theorem eqin (r q : In) (w : World) : (Op.equalIn 10000 28 (.agg (inC r)) (.agg (inC q))).run Tryd.prog w = .ok (inCE r q) w := by
  have q0 : ∀ (r : In), (part 23 (inC r) 0).run Tryd.prog w = .ok (.int .u8 ((r.op : Nat) : Int)) w := fun r => by kernel_rfl
  have i0 : (Op.equalIn 9999 23 (.int .u8 ((r.op : Nat) : Int)) (.int .u8 ((q.op : Nat) : Int))).run Tryd.prog w = .ok (((r.op : Nat) : Int) == ((q.op : Nat) : Int)) w := run_equalIn_int w 9998 23 .u8 .u8 _ _ Tryd.underlying23
  have n0 : ("Op" = "_") = False := by simp
  have q1 : ∀ (r : In), (part 24 (inC r) 1).run Tryd.prog w = .ok (.int .u8 ((r.form : Nat) : Int)) w := fun r => by kernel_rfl
  have i1 : (Op.equalIn 9999 24 (.int .u8 ((r.form : Nat) : Int)) (.int .u8 ((q.form : Nat) : Int))).run Tryd.prog w = .ok (((r.form : Nat) : Int) == ((q.form : Nat) : Int)) w := run_equalIn_int w 9998 24 .u8 .u8 _ _ Tryd.underlying24
  have n1 : ("Form" = "_") = False := by simp
  have q2 : ∀ (r : In), (part 24 (inC r) 2).run Tryd.prog w = .ok (.int .u8 ((r.frm : Nat) : Int)) w := fun r => by kernel_rfl
  have i2 : (Op.equalIn 9999 24 (.int .u8 ((r.frm : Nat) : Int)) (.int .u8 ((q.frm : Nat) : Int))).run Tryd.prog w = .ok (((r.frm : Nat) : Int) == ((q.frm : Nat) : Int)) w := run_equalIn_int w 9998 24 .u8 .u8 _ _ Tryd.underlying24
  have n2 : ("From" = "_") = False := by simp
  have q3 : ∀ (r : In), (part 25 (inC r) 3).run Tryd.prog w = .ok (.int .u8 ((r.kind : Nat) : Int)) w := fun r => by kernel_rfl
  have i3 : (Op.equalIn 9999 25 (.int .u8 ((r.kind : Nat) : Int)) (.int .u8 ((q.kind : Nat) : Int))).run Tryd.prog w = .ok (((r.kind : Nat) : Int) == ((q.kind : Nat) : Int)) w := run_equalIn_int w 9998 25 .u8 .u8 _ _ Tryd.underlying25
  have n3 : ("Kind" = "_") = False := by simp
  have q4 : ∀ (r : In), (part 5 (inC r) 4).run Tryd.prog w = .ok (.int .u8 ((r.rd : Nat) : Int)) w := fun r => by kernel_rfl
  have i4 : (Op.equalIn 9999 5 (.int .u8 ((r.rd : Nat) : Int)) (.int .u8 ((q.rd : Nat) : Int))).run Tryd.prog w = .ok (((r.rd : Nat) : Int) == ((q.rd : Nat) : Int)) w := run_equalIn_int w 9998 5 .u8 .u8 _ _ Tryd.underlying5
  have n4 : ("Rd" = "_") = False := by simp
  have q5 : ∀ (r : In), (part 5 (inC r) 5).run Tryd.prog w = .ok (.int .u8 ((r.rs1 : Nat) : Int)) w := fun r => by kernel_rfl
  have i5 : (Op.equalIn 9999 5 (.int .u8 ((r.rs1 : Nat) : Int)) (.int .u8 ((q.rs1 : Nat) : Int))).run Tryd.prog w = .ok (((r.rs1 : Nat) : Int) == ((q.rs1 : Nat) : Int)) w := run_equalIn_int w 9998 5 .u8 .u8 _ _ Tryd.underlying5
  have n5 : ("Rs1" = "_") = False := by simp
  have q6 : ∀ (r : In), (part 5 (inC r) 6).run Tryd.prog w = .ok (.int .u8 ((r.rs2 : Nat) : Int)) w := fun r => by kernel_rfl
  have i6 : (Op.equalIn 9999 5 (.int .u8 ((r.rs2 : Nat) : Int)) (.int .u8 ((q.rs2 : Nat) : Int))).run Tryd.prog w = .ok (((r.rs2 : Nat) : Int) == ((q.rs2 : Nat) : Int)) w := run_equalIn_int w 9998 5 .u8 .u8 _ _ Tryd.underlying5
  have n6 : ("Rs2" = "_") = False := by simp
  have q7 : ∀ (r : In), (part 5 (inC r) 7).run Tryd.prog w = .ok (.int .u8 ((r.rs3 : Nat) : Int)) w := fun r => by kernel_rfl
  have i7 : (Op.equalIn 9999 5 (.int .u8 ((r.rs3 : Nat) : Int)) (.int .u8 ((q.rs3 : Nat) : Int))).run Tryd.prog w = .ok (((r.rs3 : Nat) : Int) == ((q.rs3 : Nat) : Int)) w := run_equalIn_int w 9998 5 .u8 .u8 _ _ Tryd.underlying5
  have n7 : ("Rs3" = "_") = False := by simp
  have q8 : ∀ (r : In), (part 5 (inC r) 8).run Tryd.prog w = .ok (.int .u8 ((r.rm : Nat) : Int)) w := fun r => by kernel_rfl
  have i8 : (Op.equalIn 9999 5 (.int .u8 ((r.rm : Nat) : Int)) (.int .u8 ((q.rm : Nat) : Int))).run Tryd.prog w = .ok (((r.rm : Nat) : Int) == ((q.rm : Nat) : Int)) w := run_equalIn_int w 9998 5 .u8 .u8 _ _ Tryd.underlying5
  have n8 : ("Rm" = "_") = False := by simp
  have q9 : ∀ (r : In), (part 26 (inC r) 9).run Tryd.prog w = .ok (.int .i16 r.imm) w := fun r => by kernel_rfl
  have i9 : (Op.equalIn 9999 26 (.int .i16 r.imm) (.int .i16 q.imm)).run Tryd.prog w = .ok (r.imm == q.imm) w := run_equalIn_int w 9998 26 .i16 .i16 _ _ Tryd.underlying26
  have n9 : ("Imm" = "_") = False := by simp
  have q10 : ∀ (r : In), (part 5 (inC r) 10).run Tryd.prog w = .ok (.int .u8 ((r.csr : Nat) : Int)) w := fun r => by kernel_rfl
  have i10 : (Op.equalIn 9999 5 (.int .u8 ((r.csr : Nat) : Int)) (.int .u8 ((q.csr : Nat) : Int))).run Tryd.prog w = .ok (((r.csr : Nat) : Int) == ((q.csr : Nat) : Int)) w := run_equalIn_int w 9998 5 .u8 .u8 _ _ Tryd.underlying5
  have n10 : ("Csr" = "_") = False := by simp
  have st : Tryd.prog.stoodInHeld 28 = false := by kernel_rfl
  rw [show (10000 : Nat) = 9999 + 1 from rfl]
  unfold Op.equalIn
  simp only [Sem.run_bind, run_underlying Tryd.underlying28, Result.andThen_ok]
  rw [show (Sem.run Tryd.prog program w) = .ok Tryd.prog w from rfl]
  simp only [Result.andThen_ok, st, Bool.false_eq_true, if_false]
  have fo : ∀ (l : List Field) (b : Field → (Option Bool × Unit) → Sem (ForInStep (Option Bool × Unit))), (forIn l.toArray (none, ()) b : Sem (Option Bool × Unit)) = forIn l (none, ()) b := fun l b => by simp
  simp only [fo, List.forIn_cons, List.forIn_nil, ne_eq, n0, n1, n2, n3, n4, n5, n6, n7, n8, n9, n10, not_false_eq_true, if_true]
  unfold inCE
  obtain ⟨b0, h0⟩ : ∃ x, (((r.op : Nat) : Int) == ((q.op : Nat) : Int)) = x := ⟨_, rfl⟩
  rw [h0] at i0
  obtain ⟨b1, h1⟩ : ∃ x, (((r.form : Nat) : Int) == ((q.form : Nat) : Int)) = x := ⟨_, rfl⟩
  rw [h1] at i1
  obtain ⟨b2, h2⟩ : ∃ x, (((r.frm : Nat) : Int) == ((q.frm : Nat) : Int)) = x := ⟨_, rfl⟩
  rw [h2] at i2
  obtain ⟨b3, h3⟩ : ∃ x, (((r.kind : Nat) : Int) == ((q.kind : Nat) : Int)) = x := ⟨_, rfl⟩
  rw [h3] at i3
  obtain ⟨b4, h4⟩ : ∃ x, (((r.rd : Nat) : Int) == ((q.rd : Nat) : Int)) = x := ⟨_, rfl⟩
  rw [h4] at i4
  obtain ⟨b5, h5⟩ : ∃ x, (((r.rs1 : Nat) : Int) == ((q.rs1 : Nat) : Int)) = x := ⟨_, rfl⟩
  rw [h5] at i5
  obtain ⟨b6, h6⟩ : ∃ x, (((r.rs2 : Nat) : Int) == ((q.rs2 : Nat) : Int)) = x := ⟨_, rfl⟩
  rw [h6] at i6
  obtain ⟨b7, h7⟩ : ∃ x, (((r.rs3 : Nat) : Int) == ((q.rs3 : Nat) : Int)) = x := ⟨_, rfl⟩
  rw [h7] at i7
  obtain ⟨b8, h8⟩ : ∃ x, (((r.rm : Nat) : Int) == ((q.rm : Nat) : Int)) = x := ⟨_, rfl⟩
  rw [h8] at i8
  obtain ⟨b9, h9⟩ : ∃ x, (r.imm == q.imm) = x := ⟨_, rfl⟩
  rw [h9] at i9
  obtain ⟨b10, h10⟩ : ∃ x, (((r.csr : Nat) : Int) == ((q.csr : Nat) : Int)) = x := ⟨_, rfl⟩
  rw [h10] at i10
  rw [h0, h1, h2, h3, h4, h5, h6, h7, h8, h9, h10]
  cases b0
  · simp only [Sem.run_bind, Sem.run_pure, Result.andThen_ok, Bool.not_false, Bool.not_true, Bool.false_eq_true, if_false, if_true, Bool.false_and, Bool.true_and, q0, i0]
  cases b1
  · simp only [Sem.run_bind, Sem.run_pure, Result.andThen_ok, Bool.not_false, Bool.not_true, Bool.false_eq_true, if_false, if_true, Bool.false_and, Bool.true_and, q0, i0, q1, i1]
  cases b2
  · simp only [Sem.run_bind, Sem.run_pure, Result.andThen_ok, Bool.not_false, Bool.not_true, Bool.false_eq_true, if_false, if_true, Bool.false_and, Bool.true_and, q0, i0, q1, i1, q2, i2]
  cases b3
  · simp only [Sem.run_bind, Sem.run_pure, Result.andThen_ok, Bool.not_false, Bool.not_true, Bool.false_eq_true, if_false, if_true, Bool.false_and, Bool.true_and, q0, i0, q1, i1, q2, i2, q3, i3]
  cases b4
  · simp only [Sem.run_bind, Sem.run_pure, Result.andThen_ok, Bool.not_false, Bool.not_true, Bool.false_eq_true, if_false, if_true, Bool.false_and, Bool.true_and, q0, i0, q1, i1, q2, i2, q3, i3, q4, i4]
  cases b5
  · simp only [Sem.run_bind, Sem.run_pure, Result.andThen_ok, Bool.not_false, Bool.not_true, Bool.false_eq_true, if_false, if_true, Bool.false_and, Bool.true_and, q0, i0, q1, i1, q2, i2, q3, i3, q4, i4, q5, i5]
  cases b6
  · simp only [Sem.run_bind, Sem.run_pure, Result.andThen_ok, Bool.not_false, Bool.not_true, Bool.false_eq_true, if_false, if_true, Bool.false_and, Bool.true_and, q0, i0, q1, i1, q2, i2, q3, i3, q4, i4, q5, i5, q6, i6]
  cases b7
  · simp only [Sem.run_bind, Sem.run_pure, Result.andThen_ok, Bool.not_false, Bool.not_true, Bool.false_eq_true, if_false, if_true, Bool.false_and, Bool.true_and, q0, i0, q1, i1, q2, i2, q3, i3, q4, i4, q5, i5, q6, i6, q7, i7]
  cases b8
  · simp only [Sem.run_bind, Sem.run_pure, Result.andThen_ok, Bool.not_false, Bool.not_true, Bool.false_eq_true, if_false, if_true, Bool.false_and, Bool.true_and, q0, i0, q1, i1, q2, i2, q3, i3, q4, i4, q5, i5, q6, i6, q7, i7, q8, i8]
  cases b9
  · simp only [Sem.run_bind, Sem.run_pure, Result.andThen_ok, Bool.not_false, Bool.not_true, Bool.false_eq_true, if_false, if_true, Bool.false_and, Bool.true_and, q0, i0, q1, i1, q2, i2, q3, i3, q4, i4, q5, i5, q6, i6, q7, i7, q8, i8, q9, i9]
  cases b10
  · simp only [Sem.run_bind, Sem.run_pure, Result.andThen_ok, Bool.not_false, Bool.not_true, Bool.false_eq_true, if_false, if_true, Bool.false_and, Bool.true_and, q0, i0, q1, i1, q2, i2, q3, i3, q4, i4, q5, i5, q6, i6, q7, i7, q8, i8, q9, i9, q10, i10]
  simp only [Sem.run_bind, Sem.run_pure, Result.andThen_ok, Bool.not_false, Bool.not_true, Bool.false_eq_true, if_false, if_true, Bool.false_and, Bool.true_and, q0, i0, q1, i1, q2, i2, q3, i3, q4, i4, q5, i5, q6, i6, q7, i7, q8, i8, q9, i9, q10, i10]
def usCE (r q : Us) : Bool := (((r.rx : Nat) : Int) == ((q.rx : Nat) : Int)) && (((r.rf : Nat) : Int) == ((q.rf : Nat) : Int)) && (((r.wx : Nat) : Int) == ((q.wx : Nat) : Int)) && (((r.wf : Nat) : Int) == ((q.wf : Nat) : Int))
set_option maxRecDepth 100000 in
theorem equs (r q : Us) (w : World) : (Op.equalIn 10000 33 (.agg (usC r)) (.agg (usC q))).run Tryd.prog w = .ok (usCE r q) w := by
  have q0 : ∀ (r : Us), (part 22 (usC r) 0).run Tryd.prog w = .ok (.int .u32 ((r.rx : Nat) : Int)) w := fun r => by kernel_rfl
  have i0 : (Op.equalIn 9999 22 (.int .u32 ((r.rx : Nat) : Int)) (.int .u32 ((q.rx : Nat) : Int))).run Tryd.prog w = .ok (((r.rx : Nat) : Int) == ((q.rx : Nat) : Int)) w := run_equalIn_int w 9998 22 .u32 .u32 _ _ Tryd.underlying22
  have n0 : ("ReadX" = "_") = False := by simp
  have q1 : ∀ (r : Us), (part 22 (usC r) 1).run Tryd.prog w = .ok (.int .u32 ((r.rf : Nat) : Int)) w := fun r => by kernel_rfl
  have i1 : (Op.equalIn 9999 22 (.int .u32 ((r.rf : Nat) : Int)) (.int .u32 ((q.rf : Nat) : Int))).run Tryd.prog w = .ok (((r.rf : Nat) : Int) == ((q.rf : Nat) : Int)) w := run_equalIn_int w 9998 22 .u32 .u32 _ _ Tryd.underlying22
  have n1 : ("ReadF" = "_") = False := by simp
  have q2 : ∀ (r : Us), (part 22 (usC r) 2).run Tryd.prog w = .ok (.int .u32 ((r.wx : Nat) : Int)) w := fun r => by kernel_rfl
  have i2 : (Op.equalIn 9999 22 (.int .u32 ((r.wx : Nat) : Int)) (.int .u32 ((q.wx : Nat) : Int))).run Tryd.prog w = .ok (((r.wx : Nat) : Int) == ((q.wx : Nat) : Int)) w := run_equalIn_int w 9998 22 .u32 .u32 _ _ Tryd.underlying22
  have n2 : ("WriteX" = "_") = False := by simp
  have q3 : ∀ (r : Us), (part 22 (usC r) 3).run Tryd.prog w = .ok (.int .u32 ((r.wf : Nat) : Int)) w := fun r => by kernel_rfl
  have i3 : (Op.equalIn 9999 22 (.int .u32 ((r.wf : Nat) : Int)) (.int .u32 ((q.wf : Nat) : Int))).run Tryd.prog w = .ok (((r.wf : Nat) : Int) == ((q.wf : Nat) : Int)) w := run_equalIn_int w 9998 22 .u32 .u32 _ _ Tryd.underlying22
  have n3 : ("WriteF" = "_") = False := by simp
  have st : Tryd.prog.stoodInHeld 33 = false := by kernel_rfl
  rw [show (10000 : Nat) = 9999 + 1 from rfl]
  unfold Op.equalIn
  simp only [Sem.run_bind, run_underlying Tryd.underlying33, Result.andThen_ok]
  rw [show (Sem.run Tryd.prog program w) = .ok Tryd.prog w from rfl]
  simp only [Result.andThen_ok, st, Bool.false_eq_true, if_false]
  have fo : ∀ (l : List Field) (b : Field → (Option Bool × Unit) → Sem (ForInStep (Option Bool × Unit))), (forIn l.toArray (none, ()) b : Sem (Option Bool × Unit)) = forIn l (none, ()) b := fun l b => by simp
  simp only [fo, List.forIn_cons, List.forIn_nil, ne_eq, n0, n1, n2, n3, not_false_eq_true, if_true]
  unfold usCE
  obtain ⟨b0, h0⟩ : ∃ x, (((r.rx : Nat) : Int) == ((q.rx : Nat) : Int)) = x := ⟨_, rfl⟩
  rw [h0] at i0
  obtain ⟨b1, h1⟩ : ∃ x, (((r.rf : Nat) : Int) == ((q.rf : Nat) : Int)) = x := ⟨_, rfl⟩
  rw [h1] at i1
  obtain ⟨b2, h2⟩ : ∃ x, (((r.wx : Nat) : Int) == ((q.wx : Nat) : Int)) = x := ⟨_, rfl⟩
  rw [h2] at i2
  obtain ⟨b3, h3⟩ : ∃ x, (((r.wf : Nat) : Int) == ((q.wf : Nat) : Int)) = x := ⟨_, rfl⟩
  rw [h3] at i3
  rw [h0, h1, h2, h3]
  cases b0
  · simp only [Sem.run_bind, Sem.run_pure, Result.andThen_ok, Bool.not_false, Bool.not_true, Bool.false_eq_true, if_false, if_true, Bool.false_and, Bool.true_and, q0, i0]
  cases b1
  · simp only [Sem.run_bind, Sem.run_pure, Result.andThen_ok, Bool.not_false, Bool.not_true, Bool.false_eq_true, if_false, if_true, Bool.false_and, Bool.true_and, q0, i0, q1, i1]
  cases b2
  · simp only [Sem.run_bind, Sem.run_pure, Result.andThen_ok, Bool.not_false, Bool.not_true, Bool.false_eq_true, if_false, if_true, Bool.false_and, Bool.true_and, q0, i0, q1, i1, q2, i2]
  cases b3
  · simp only [Sem.run_bind, Sem.run_pure, Result.andThen_ok, Bool.not_false, Bool.not_true, Bool.false_eq_true, if_false, if_true, Bool.false_and, Bool.true_and, q0, i0, q1, i1, q2, i2, q3, i3]
  simp only [Sem.run_bind, Sem.run_pure, Result.andThen_ok, Bool.not_false, Bool.not_true, Bool.false_eq_true, if_false, if_true, Bool.false_and, Bool.true_and, q0, i0, q1, i1, q2, i2, q3, i3]
end Go.Proofs.YtamlcgmipdcgjaaDoor
namespace Go.Proofs.YtamlcgmipdcgjaaDoor
set_option maxRecDepth 100000
set_option maxHeartbeats 40000000
set_option maxRecDepth 100000
open Go.RowKit WMath
set_option linter.unusedSimpArgs false
set_option linter.unusedVariables false
set_option maxRecDepth 100000 in
set_option maxHeartbeats 8000000 in
theorem dc_lives {T : World → Prop} (FB : Box (∀ {w w' : World}, T w → Below w.heap.size w w' → T w')) (K1 : Box (∀ w, T w → Calls Tryd.prog 9 #[.int .u32 3211475] w fun r w' => r = .returned (.tuple #[.agg (inC (⟨7, 0, 0, 0, 1, 2, 3, 0, 0, 0, 0⟩ : In)), .int .i64 0]) ∧ Below w.heap.size w w')) (K2 : Box (∀ w, T w → Calls Tryd.prog 9 #[.int .u32 4262538791] w fun r w' => r = .returned (.tuple #[.agg (inC (⟨2, 0, 0, 0, 0, 2, 1, 0, 0, (-4), 0⟩ : In)), .int .i64 0]) ∧ Below w.heap.size w w'))  (cc : In) (K3 : Box (∀ w, T w → Calls Tryd.prog 9 #[.int .u32 0] w fun r w' => r = .returned (.tuple #[.agg (inC cc), .int .i64 250]) ∧ Below w.heap.size w w')) (K4 : Box (∀ w, T w → Calls Tryd.prog 11 #[.int .u32 2216179] w fun r w' => r = .returned (.tuple #[.agg (usC (⟨0, 0, 2, 0⟩ : Us)), .int .i64 0]) ∧ Below w.heap.size w w')) (w : World) (hT : T w) : Calls Tryd.prog 13 #[] w fun r w' => r = .returned (.bool true) ∧ Below w.heap.size w w' := by
  have FF := box hT
  clear hT
  have hin := inC_new
  have hun := usC_new
  have he := eqin
  have hu := equs
  have f1 : #[Value.int .u8 7, .int .u8 0, .int .u8 0, .int .u8 0, .int .u8 1, .int .u8 2, .int .u8 3, .int .u8 0, .int .u8 0, .int .i16 0, .int .u8 0] = inC (⟨7, 0, 0, 0, 1, 2, 3, 0, 0, 0, 0⟩ : In) := rfl
  have f2 : #[Value.int .u8 2, .int .u8 0, .int .u8 0, .int .u8 0, .int .u8 0, .int .u8 2, .int .u8 1, .int .u8 0, .int .u8 0, .int .i16 (-4), .int .u8 0] = inC (⟨2, 0, 0, 0, 0, 2, 1, 0, 0, (-4), 0⟩ : In) := rfl
  have f3 : #[Value.int .u32 0, .int .u32 0, .int .u32 2, .int .u32 0] = usC ⟨0, 0, 2, 0⟩ := rfl
  have e1 : inCE (⟨7, 0, 0, 0, 1, 2, 3, 0, 0, 0, 0⟩ : In) (⟨7, 0, 0, 0, 1, 2, 3, 0, 0, 0, 0⟩ : In) = true := by decide
  have e2 : inCE (⟨2, 0, 0, 0, 0, 2, 1, 0, 0, (-4), 0⟩ : In) (⟨2, 0, 0, 0, 0, 2, 1, 0, 0, (-4), 0⟩ : In) = true := by decide
  have e3 : usCE (⟨0, 0, 2, 0⟩ : Us) ⟨0, 0, 2, 0⟩ = true := by decide
  have B0 : Below w.heap.size w w := (Below.refl _ _)
  go_enter Tryd.func13, Tryd.ntmps13
  go_wp2_with fail
  refine (K1.out _ (FB.out FF.out B0)).mono ?_
  rintro r w1 ⟨rfl, b1⟩
  have B1 : Below w.heap.size w w1 := btr B0 b1
  clear b1 B0 
  have S2 := box B1.size
  have Ra_2 := heap_alloc_last w1 (Obj.cells (inC (⟨7, 0, 0, 0, 1, 2, 3, 0, 0, 0, 0⟩ : In)) 28)
  have B2 := btr B1 (bal w1 (Obj.cells (inC (⟨7, 0, 0, 0, 1, 2, 3, 0, 0, 0, 0⟩ : In)) 28))
  clear B1 
  obtain ⟨ca_2_0, ca_2_1, ca_2_2, ca_2_3, ca_2_4, ca_2_5, ca_2_6, ca_2_7, ca_2_8, ca_2_9, ca_2_10⟩ := inC_cells Ra_2
  go_wp2_with fail
  refine (K2.out _ (FB.out FF.out B2)).mono ?_
  rintro r w3 ⟨rfl, b3⟩
  have B3 : Below w.heap.size w w3 := btr B2 b3
  have Ra_3 := heap_of b3 _ _ _ Ra_2
  clear b3 B2 Ra_2 ca_2_0 ca_2_1 ca_2_2 ca_2_3 ca_2_4 ca_2_5 ca_2_6 ca_2_7 ca_2_8 ca_2_9 ca_2_10
  obtain ⟨ca_3_0, ca_3_1, ca_3_2, ca_3_3, ca_3_4, ca_3_5, ca_3_6, ca_3_7, ca_3_8, ca_3_9, ca_3_10⟩ := inC_cells Ra_3
  have S4 := box B3.size
  have La_4 : Box (w1.heap.size < w3.heap.size) := box (Array.getElem?_eq_some_iff.1 Ra_3).1
  have Rb_4 := heap_alloc_last w3 (Obj.cells (inC (⟨2, 0, 0, 0, 0, 2, 1, 0, 0, (-4), 0⟩ : In)) 28)
  have B4 := btr B3 (bal w3 (Obj.cells (inC (⟨2, 0, 0, 0, 0, 2, 1, 0, 0, (-4), 0⟩ : In)) 28))
  have Ra_4 := heap_of (bal w3 (Obj.cells (inC (⟨2, 0, 0, 0, 0, 2, 1, 0, 0, (-4), 0⟩ : In)) 28)) _ _ _ Ra_3
  clear B3 Ra_3 ca_3_0 ca_3_1 ca_3_2 ca_3_3 ca_3_4 ca_3_5 ca_3_6 ca_3_7 ca_3_8 ca_3_9 ca_3_10
  obtain ⟨ca_4_0, ca_4_1, ca_4_2, ca_4_3, ca_4_4, ca_4_5, ca_4_6, ca_4_7, ca_4_8, ca_4_9, ca_4_10⟩ := inC_cells Ra_4
  obtain ⟨cb_4_0, cb_4_1, cb_4_2, cb_4_3, cb_4_4, cb_4_5, cb_4_6, cb_4_7, cb_4_8, cb_4_9, cb_4_10⟩ := inC_cells Rb_4
  go_wp2_with fail
  refine (K3.out _ (FB.out FF.out B4)).mono ?_
  rintro r w5 ⟨rfl, b5⟩
  have B5 : Below w.heap.size w w5 := btr B4 b5
  have Ra_5 := heap_of b5 _ _ _ Ra_4
  have Rb_5 := heap_of b5 _ _ _ Rb_4
  clear b5 B4 Ra_4 ca_4_0 ca_4_1 ca_4_2 ca_4_3 ca_4_4 ca_4_5 ca_4_6 ca_4_7 ca_4_8 ca_4_9 ca_4_10 Rb_4 cb_4_0 cb_4_1 cb_4_2 cb_4_3 cb_4_4 cb_4_5 cb_4_6 cb_4_7 cb_4_8 cb_4_9 cb_4_10
  obtain ⟨ca_5_0, ca_5_1, ca_5_2, ca_5_3, ca_5_4, ca_5_5, ca_5_6, ca_5_7, ca_5_8, ca_5_9, ca_5_10⟩ := inC_cells Ra_5
  obtain ⟨cb_5_0, cb_5_1, cb_5_2, cb_5_3, cb_5_4, cb_5_5, cb_5_6, cb_5_7, cb_5_8, cb_5_9, cb_5_10⟩ := inC_cells Rb_5
  have S6 := box B5.size
  have La_6 : Box (w1.heap.size < w5.heap.size) := box (Array.getElem?_eq_some_iff.1 Ra_5).1
  have Lb_6 : Box (w3.heap.size < w5.heap.size) := box (Array.getElem?_eq_some_iff.1 Rb_5).1
  have Rc_6 := heap_alloc_last w5 (Obj.cells (inC cc) 28)
  have B6 := btr B5 (bal w5 (Obj.cells (inC cc) 28))
  have Ra_6 := heap_of (bal w5 (Obj.cells (inC cc) 28)) _ _ _ Ra_5
  have Rb_6 := heap_of (bal w5 (Obj.cells (inC cc) 28)) _ _ _ Rb_5
  clear B5 Ra_5 ca_5_0 ca_5_1 ca_5_2 ca_5_3 ca_5_4 ca_5_5 ca_5_6 ca_5_7 ca_5_8 ca_5_9 ca_5_10 Rb_5 cb_5_0 cb_5_1 cb_5_2 cb_5_3 cb_5_4 cb_5_5 cb_5_6 cb_5_7 cb_5_8 cb_5_9 cb_5_10
  obtain ⟨ca_6_0, ca_6_1, ca_6_2, ca_6_3, ca_6_4, ca_6_5, ca_6_6, ca_6_7, ca_6_8, ca_6_9, ca_6_10⟩ := inC_cells Ra_6
  obtain ⟨cb_6_0, cb_6_1, cb_6_2, cb_6_3, cb_6_4, cb_6_5, cb_6_6, cb_6_7, cb_6_8, cb_6_9, cb_6_10⟩ := inC_cells Rb_6
  obtain ⟨cc_6_0, cc_6_1, cc_6_2, cc_6_3, cc_6_4, cc_6_5, cc_6_6, cc_6_7, cc_6_8, cc_6_9, cc_6_10⟩ := inC_cells Rc_6
  clear Rc_6 cc_6_0 cc_6_1 cc_6_2 cc_6_3 cc_6_4 cc_6_5 cc_6_6 cc_6_7 cc_6_8 cc_6_9 cc_6_10
  go_wp2_with fail
  refine (K4.out _ (FB.out FF.out B6)).mono ?_
  rintro r w7 ⟨rfl, b7⟩
  have B7 : Below w.heap.size w w7 := btr B6 b7
  have Ra_7 := heap_of b7 _ _ _ Ra_6
  have Rb_7 := heap_of b7 _ _ _ Rb_6
  clear b7 B6 Ra_6 ca_6_0 ca_6_1 ca_6_2 ca_6_3 ca_6_4 ca_6_5 ca_6_6 ca_6_7 ca_6_8 ca_6_9 ca_6_10 Rb_6 cb_6_0 cb_6_1 cb_6_2 cb_6_3 cb_6_4 cb_6_5 cb_6_6 cb_6_7 cb_6_8 cb_6_9 cb_6_10
  obtain ⟨ca_7_0, ca_7_1, ca_7_2, ca_7_3, ca_7_4, ca_7_5, ca_7_6, ca_7_7, ca_7_8, ca_7_9, ca_7_10⟩ := inC_cells Ra_7
  obtain ⟨cb_7_0, cb_7_1, cb_7_2, cb_7_3, cb_7_4, cb_7_5, cb_7_6, cb_7_7, cb_7_8, cb_7_9, cb_7_10⟩ := inC_cells Rb_7
  have S8 := box B7.size
  have La_8 : Box (w1.heap.size < w7.heap.size) := box (Array.getElem?_eq_some_iff.1 Ra_7).1
  have Lb_8 : Box (w3.heap.size < w7.heap.size) := box (Array.getElem?_eq_some_iff.1 Rb_7).1
  have Ru_8 := heap_alloc_last w7 (Obj.cells (usC (⟨0, 0, 2, 0⟩ : Us)) 33)
  have B8 := btr B7 (bal w7 (Obj.cells (usC (⟨0, 0, 2, 0⟩ : Us)) 33))
  have Ra_8 := heap_of (bal w7 (Obj.cells (usC (⟨0, 0, 2, 0⟩ : Us)) 33)) _ _ _ Ra_7
  have Rb_8 := heap_of (bal w7 (Obj.cells (usC (⟨0, 0, 2, 0⟩ : Us)) 33)) _ _ _ Rb_7
  clear B7 Ra_7 ca_7_0 ca_7_1 ca_7_2 ca_7_3 ca_7_4 ca_7_5 ca_7_6 ca_7_7 ca_7_8 ca_7_9 ca_7_10 Rb_7 cb_7_0 cb_7_1 cb_7_2 cb_7_3 cb_7_4 cb_7_5 cb_7_6 cb_7_7 cb_7_8 cb_7_9 cb_7_10
  obtain ⟨ca_8_0, ca_8_1, ca_8_2, ca_8_3, ca_8_4, ca_8_5, ca_8_6, ca_8_7, ca_8_8, ca_8_9, ca_8_10⟩ := inC_cells Ra_8
  obtain ⟨cb_8_0, cb_8_1, cb_8_2, cb_8_3, cb_8_4, cb_8_5, cb_8_6, cb_8_7, cb_8_8, cb_8_9, cb_8_10⟩ := inC_cells Rb_8
  obtain ⟨cu_8_0, cu_8_1, cu_8_2, cu_8_3⟩ := usC_cells Ru_8
  go_wp2
  go_ret
  exact ⟨rfl, B8⟩
end Go.Proofs.YtamlcgmipdcgjaaDoor
namespace Go.Proofs.YtamlcgmipdcgjaaDoor
set_option maxRecDepth 100000
set_option maxHeartbeats 40000000
set_option maxRecDepth 100000
open Go.RowKit WMath
set_option linter.unusedSimpArgs false
set_option linter.unusedVariables false
def usZ : Us := ⟨0, 0, 0, 0⟩
def usR (x : Nat) : Us := match fdL x with | some p => usI (dcI p.1 x) | none => usZ
theorem dcR_some {x : Nat} {p : Nm} (h : fdL x = some p) : dcR x = (dcI p.1 x, 0) := by unfold dcR; rw [h]
theorem dcR_none {x : Nat} (h : fdL x = none) : dcR x = (inZ, 250) := by unfold dcR; rw [h]
theorem usR_some {x : Nat} {p : Nm} (h : fdL x = some p) : usR x = usI (dcI p.1 x) := by unfold usR; rw [h]
theorem usR_none {x : Nat} (h : fdL x = none) : usR x = usZ := by unfold usR; rw [h]
theorem lv25a : dcR 3211475 = (⟨7, 0, 0, 0, 1, 2, 3, 0, 0, 0, 0⟩, 0) := by decide +kernel
theorem lv25b : dcR 4262538791 = (⟨2, 0, 0, 0, 0, 2, 1, 0, 0, (-4), 0⟩, 0) := by decide +kernel
theorem lv25c : dcR 0 = (inZ, 250) := by decide +kernel
theorem lv25d : (usR 2216179).rx = 0 ∧ (usR 2216179).rf = 0 ∧ (usR 2216179).wx = 2 ∧ (usR 2216179).wf = 0 ∧ (dcR 2216179).2 = 0 := by decide +kernel
theorem us_ext {a b : Us} (h1 : a.rx = b.rx) (h2 : a.rf = b.rf) (h3 : a.wx = b.wx) (h4 : a.wf = b.wf) : a = b := by
  cases a; cases b; simp_all
theorem lives25 {T : World → Prop} (FB : Box (∀ {w w' : World}, T w → Below w.heap.size w w' → T w')) (CD : ∀ x : Nat, x < 4294967296 → Box (∀ w, T w → Calls Tryd.prog 9 #[.int .u32 (x : Nat)] w fun r w' => r = .returned (.tuple #[.agg (inC (dcR x).1), .int .i64 (dcR x).2]) ∧ Below w.heap.size w w')) (CU : ∀ x : Nat, x < 4294967296 → Box (∀ w, T w → Calls Tryd.prog 11 #[.int .u32 (x : Nat)] w fun r w' => r = .returned (.tuple #[.agg (usC (usR x)), .int .i64 (dcR x).2]) ∧ Below w.heap.size w w')) (w : World) (hT : T w) : Calls Tryd.prog 13 #[] w fun r w' => r = .returned (.bool true) ∧ Below w.heap.size w w' := by
  have F1 := CD 3211475 (by decide)
  have F2 := CD 4262538791 (by decide)
  have F3 := CD 0 (by decide)
  have F4 := CU 2216179 (by decide)
  obtain ⟨d1, d2, d3, d4, d5⟩ := lv25d
  have du : usR 2216179 = ⟨0, 0, 2, 0⟩ := us_ext d1 d2 d3 d4
  rw [lv25a] at F1
  rw [lv25b] at F2
  rw [lv25c] at F3
  rw [du, d5] at F4
  exact dc_lives FB F1 F2 inZ F3 F4 w hT
theorem sg_bnd {a : Nat} (h : a < 4096) : -2048 ≤ sg12 a ∧ sg12 a ≤ 2047 := by
  unfold sg12
  split <;> omega
theorem in_bnd {x : Nat} (hx : x < 4294967296) {p : Nm} (h : fdL x = some p) : ∃ i, dcI p.1 x = i ∧ 1 ≤ i.op ∧ i.op ≤ 31 ∧ i.form < 4 ∧ i.frm < 4 ∧ i.kind < 4 ∧ i.rd < 32 ∧ i.rs1 < 32 ∧ i.rs2 < 32 ∧ i.rs3 < 32 ∧ i.rm < 8 ∧ i.rm ≠ 5 ∧ i.rm ≠ 6 ∧ -2048 ≤ i.imm ∧ i.imm ≤ 2047 ∧ i.csr ≤ 3 := by
  obtain ⟨hm, hf⟩ := fd_mem h
  obtain ⟨l1, l9, o1, o31, f4, g4, k4⟩ := lay24 hm
  refine ⟨_, rfl, o1, o31, f4, g4, k4, ?_⟩
  unfold fitsL at hf
  simp only [Bool.and_eq_true, Bool.not_eq_true', Bool.or_eq_true, decide_eq_true_eq, Bool.and_eq_false_iff, decide_eq_false_iff_not] at hf
  obtain ⟨⟨_, hr⟩, hc⟩ := hf
  have a1 : fld x 7 5 < 32 := fld_lt x 7 5
  have a2 : fld x 15 5 < 32 := fld_lt x 15 5
  have a3 : fld x 20 5 < 32 := fld_lt x 20 5
  have a4 : fld x 27 5 < 32 := fld_lt x 27 5
  have a5 : fld x 12 3 = x / 4096 % 8 := rfl
  have a6 : fld x 20 12 = x / 1048576 % 4096 := rfl
  have a7 : fld x 25 7 < 128 := fld_lt x 25 7
  have a8 : fld x 20 12 < 4096 := fld_lt x 20 12
  have s1 := sg_bnd a8
  have s2 : -2048 ≤ sg12 (32 * fld x 25 7 + fld x 7 5) ∧ sg12 (32 * fld x 25 7 + fld x 7 5) ≤ 2047 := sg_bnd (by omega)
  unfold dcI
  dsimp only
  refine ⟨?_, a2, ?_, ?_, ?_, ?_, ?_, ?_, ?_, ?_⟩
  · split <;> omega
  · split <;> omega
  · split <;> omega
  · split <;> omega
  · split <;> omega
  · split <;> omega
  · split
    · exact s1.1
    · split
      · exact s2.1
      · decide
  · split
    · exact s1.2
    · split
      · exact s2.2
      · decide
  · split <;> omega
def SU (l : List Nat) (L : Nat) (s : Value) (W : World) : Prop := ∃ g z c, L ≤ c ∧ s = .slice (some ⟨g, z, none⟩) L c ∧ ∀ V, Below W.heap.size W V → ∀ (k x : Nat), l[k]? = some x → V.cell? ⟨g, z + k, none⟩ = some (.int .u32 (x : Nat))
def uls (l : List Nat) : List Value := l.map fun (x : Nat) => Value.int .u32 (x : Nat)
theorem own_words {wb : World} {b L : Nat} {l : List Nat} {v : Value} (hl : l.length = L) (h : wb.ownsRow b 22 1 v (L + 1) (uls l ++ [.int .u32 77])) : ∃ gi ci, v = .slice (some ⟨gi, 0, none⟩) (L + 1) ci ∧ b ≤ gi ∧ L + 1 ≤ ci ∧ Box (∀ W, Below wb.heap.size wb W → (∀ (k x : Nat), l[k]? = some x → W.cell? ⟨gi, 0 + k, none⟩ = some (.int .u32 (x : Nat))) ∧ W.cell? ⟨gi, L, none⟩ = some (.int .u32 77)) := by
  obtain ⟨_, ⟨_, h0⟩ | ⟨gi, ci, cur, rfl, hb, row, hc, _, hsz, ht⟩⟩ := h
  · omega
  refine ⟨gi, ci, rfl, hb, hc, box (fun W bW => ?_)⟩
  have r2 := heap_of bW _ _ _ row
  have tk : ∀ j v, j < L + 1 → (uls l ++ [Value.int .u32 77])[j]? = some v → cur[j]? = some v := fun j v hj hv => by
    rw [← ht, List.getElem?_take_of_lt (by omega)] at hv
    rw [← Array.getElem?_toList]
    exact hv
  have len : (uls l).length = L := by unfold uls; rw [List.length_map, hl]
  refine ⟨fun k x hx => ?_, ?_⟩
  · have kl : k < L := by rw [← hl]; exact (List.getElem?_eq_some_iff.1 hx).1
    rw [Nat.zero_add]
    refine (cell_of_row W gi k _ _ _ r2).trans (tk k _ (by omega) ?_)
    rw [List.getElem?_append_left (by omega)]
    unfold uls
    rw [List.getElem?_map, hx]
    rfl
  · refine (cell_of_row W gi L _ _ _ r2).trans (tk L _ (by omega) ?_)
    rw [List.getElem?_append_right (by omega), len, Nat.sub_self]
    rfl
set_option maxRecDepth 100000 in
set_option maxHeartbeats 8000000 in
theorem dl_y {T : World → Prop} (FB : Box (∀ {w w' : World}, T w → Below w.heap.size w w' → T w')) (l : List Nat) (L : Nat) (w : World) (g z c : Nat) (hl : l.length = L) (q1 : L ≤ 2000) (hc : L ≤ c)
    (HC : Box (∀ W, Below w.heap.size w W → ∀ (k x : Nat), l[k]? = some x → W.cell? ⟨g, z + k, none⟩ = some (.int .u32 (x : Nat))))
    (RD : Box (∀ (k x : Nat), l[k]? = some x → ∀ w, Calls Tryd.prog 10 #[.int .u32 (x : Nat)] w fun r w' => r = .returned (.tuple #[.agg (inC (dcR x).1), .int .i64 (dcR x).2]) ∧ Below w.heap.size w w'))
    (HD : Box (∀ (k x : Nat), l[k]? = some x → (dcR x).2 = 0))
    (KA : Box (∀ (W : World) (s1 : Value), T W → SU l L s1 W → Calls Tryd.prog 15 #[s1] W fun r w' => ∃ (gs cs : Nat) (cur : Array Value), r = .returned (.tuple #[.slice (some ⟨gs, 0, none⟩) L cs, .int .i64 (L : Nat), .int .i64 0]) ∧ L ≤ cs ∧ w'.heap[gs]? = some (.cells cur 28) ∧ Box (∀ (k x : Nat), l[k]? = some x → ∀ j u, (inC (dcR x).1)[j]? = some u → cur[k * 11 + j]? = some u) ∧ Below W.heap.size W w'))
    (KL : Box (∀ w, T w → Calls Tryd.prog 13 #[] w fun r w' => r = .returned (.bool true) ∧ Below w.heap.size w w')) (hT : T w) : Calls Tryd.prog 4 #[.slice (some ⟨g, z, none⟩) L c] w fun r w' => r = .returned (.bool true) ∧ Below w.heap.size w w' := by
  have FF := box hT
  have HL := box hl
  clear hT hl
  have hin := inC_new
  have he := eqin
  have hfo := inC_fold
  have d1 : decide ((2000 : Int) < (L : Int)) = false := decide_eq_false (by omega)
  have hlen : (uls l).length = L * 1 := by unfold uls; rw [List.length_map, HL.out, Nat.mul_one]
  have info : (Tryd.prog.info? 22).map (fun i => (i.zero, i.size, i.bytes)) = some (some (.int .u32 0), 1, 4) := by kernel_rfl
  obtain ⟨i0, hi, hz0, hz1, hz2⟩ := info_parts info
  go_enter Tryd.func4, Tryd.ntmps4
  go_wp2_with (at_builtin; refine wpList_append_own _ rfl (.const (.slice none 0 0)) _ 39 rfl w.heap.size 22 i0 (.int .u32 0) 1 4 Tryd.underlying39 hi hz0 hz1 hz2 rfl (by decide) (.slice none 0 0) 0 [] rfl (World.ownsRow_nil _ _ _ _) ⟨g, z, none⟩ L c (uls l) rfl hlen ?c1 ?c2 ?b1 ?b2 (Nat.le_refl _) ?grow)
  case c1 =>
    intro j u hj
    unfold uls at hj
    rw [List.getElem?_map] at hj
    obtain ⟨x, hx, rfl⟩ := Option.map_eq_some_iff.1 hj
    rw [show ({ block := g, off := z, spot := none } : Addr).add j = ⟨g, z + j, none⟩ by simp [Addr.add]]
    exact HC.out w (Below.refl _ _) j x hx
  case c2 =>
    intro u hu
    unfold uls at hu
    obtain ⟨x, _, rfl⟩ := List.mem_map.1 hu
    rfl
  case b1 => unfold maxLen; omega
  case b2 => omega
  case grow =>
    intro v1 wa hown1 hgrow1 hnil1
    have ba : Below w.heap.size w wa := (Below.refl _ _).grown hgrow1 (Nat.le_refl _) (fun k h => by cases h)
    clear hgrow1 hnil1
    go_wp2_with (at_builtin; refine wpList_append_own _ rfl _ _ 39 rfl w.heap.size 22 i0 (.int .u32 0) 1 4 Tryd.underlying39 hi hz0 hz1 hz2 rfl (by decide) v1 L (uls l) rfl (hown1.alloc _) ⟨wa.heap.size, 0, none⟩ 1 1 [.int .u32 77] rfl rfl (cell_one_new _ _ _) (fun x hx => by simp at hx; subst hx; rfl) (by unfold maxLen; omega) (by omega) (by have := ba.size; simp only [size_al]; omega) ?grow2)
    case grow2 =>
    intro v2 wb hown2 hgrow2 hnil2
    have bb : Below w.heap.size w wb := (ba.alloc ba.size _).grown hgrow2 (by have := ba.size; simp only [size_al]; omega) (fun q hq => (hown1.lt q hq).1)
    obtain ⟨gi, ci, rfl, hgi, hci, HK⟩ := own_words HL.out hown2
    clear hown1 hown2 hgrow2 hnil2 ba info hi hz0 hz1 hz2 hlen
    have hs0 : (0 : Int) ≤ (L : Int) := by omega
    have hs1 : (L : Int) ≤ (ci : Int) := by omega
    have hs2 : ((L : Int)).toNat = L := by omega
    go_wp2_with fail
    clear hs0 hs1 hs2
    have SS : SU l L (.slice (some ⟨gi, 0, none⟩) L ci) wb := ⟨gi, 0, ci, by omega, rfl, fun V bV k x hx => (HK.out V bV).1 k x hx⟩
    refine (KA.out wb _ (FB.out FF.out bb) SS).mono ?_
    rintro r w1 ⟨gs, cs, cur, rfl, hcs, Rs, HS, b1⟩
    go_wp2
    go_loopw [7] (fun iv wr => ∃ k : Nat, k ≤ L ∧ iv = .int .i64 k ∧ Below wb.heap.size wb wr ∧ wr.heap[gs]? = some (.cells cur 28)) (fun iv _ => L - (intOf iv).toNat)
    case atStart => exact ⟨0, by omega, rfl, b1, Rs⟩
    case round =>
      clear b1 Rs
      obtain ⟨k, hk, rfl, B2, Rs⟩ := hrel
      by_cases hlt : k < L
      · obtain ⟨x, hx⟩ : ∃ x, l[k]? = some x := ⟨_, List.getElem?_eq_getElem (by rw [HL.out]; exact hlt)⟩
        have c0 := HC.out _ (btr bb B2) k x hx
        have K1 := RD.out k x hx wr
        have hd := HD.out k x hx
        have hcell := HS.out k x hx
        have HKk := fun W (bW : Below wb.heap.size wb W) => (HK.out W bW).1 k x hx
        obtain ⟨i, hxi⟩ : ∃ i, (dcR x).1 = i := ⟨_, rfl⟩
        rw [hxi] at K1 hcell
        rw [hd] at K1
        have e0 : inCE i i = true := by rw [inCE_is]; exact decide_eq_true rfl
        have dl : decide ((k : Int) < (L : Int)) = true := decide_eq_true (by omega)
        have hb0 : (0 : Int) ≤ (k : Int) := by omega
        have hb1 : (k : Int) < (L : Int) := by omega
        have hb2 : (k : Int) < ((L + 1 : Nat) : Int) := by omega
        have hb3 : (k : Int) < (L : Int) + 1 := by omega
        go_wp2_with fail
        refine K1.mono ?_
        rintro r w3 ⟨rfl, b3⟩
        have c1 := HC.out _ (btr bb (btr B2 b3)) k x hx
        have B3 := btr B2 b3
        have Rs3 := heap_of b3 _ _ _ Rs
        have B4 := btr B3 (bal w3 (.cells (inC i) 28))
        have Rs4 := heap_of (bal w3 (.cells (inC i) 28)) _ _ _ Rs3
        have c2 := HC.out _ (btr bb B4) k x hx
        have a2 := HKk _ B4
        rw [Nat.zero_add] at a2
        have hr := (cell_of_row _ gs (k * 11) _ _ _ Rs4).trans (hcell 0 (.int .u8 (i.op : Nat)) rfl)
        have h1 := (cell_of_row _ gs (k * 11 + 1) _ _ _ Rs4).trans (hcell 1 (.int .u8 (i.form : Nat)) rfl)
        have h2 := (cell_of_row _ gs (k * 11 + 2) _ _ _ Rs4).trans (hcell 2 (.int .u8 (i.frm : Nat)) rfl)
        have h3 := (cell_of_row _ gs (k * 11 + 3) _ _ _ Rs4).trans (hcell 3 (.int .u8 (i.kind : Nat)) rfl)
        have h4 := (cell_of_row _ gs (k * 11 + 4) _ _ _ Rs4).trans (hcell 4 (.int .u8 (i.rd : Nat)) rfl)
        have h5 := (cell_of_row _ gs (k * 11 + 5) _ _ _ Rs4).trans (hcell 5 (.int .u8 (i.rs1 : Nat)) rfl)
        have h6 := (cell_of_row _ gs (k * 11 + 6) _ _ _ Rs4).trans (hcell 6 (.int .u8 (i.rs2 : Nat)) rfl)
        have h7 := (cell_of_row _ gs (k * 11 + 7) _ _ _ Rs4).trans (hcell 7 (.int .u8 (i.rs3 : Nat)) rfl)
        have h8 := (cell_of_row _ gs (k * 11 + 8) _ _ _ Rs4).trans (hcell 8 (.int .u8 (i.rm : Nat)) rfl)
        have h9 := (cell_of_row _ gs (k * 11 + 9) _ _ _ Rs4).trans (hcell 9 (.int .i16 i.imm) rfl)
        have h10 := (cell_of_row _ gs (k * 11 + 10) _ _ _ Rs4).trans (hcell 10 (.int .u8 (i.csr : Nat)) rfl)
        obtain ⟨d0, d1, d2, d3, d4, d5, d6, d7, d8, d9, d10⟩ := inC_cells (heap_alloc_new w3 (.cells (inC i) 28))
        clear HKk hcell c0 K1 hx
        go_wp2_with fail
        go_quiet (fail)
        obtain ⟨w21, hw, B31, hh⟩ := quiet_world B4 nq
        rw [hw]
        have Rs2 : w21.heap[gs]? = some (.cells cur 28) := by rw [hh]; exact Rs4
        go_wp2
        go_roundw
        case rel => exact ⟨k + 1, by omega, by go_num, B31, Rs2⟩
        case measure => simp [intOf] <;> omega
      · obtain rfl : k = L := by omega
        have dl : decide ((k : Int) < (k : Int)) = false := by rw [decide_eq_false_iff_not]; omega
        have a2 := (HK.out _ B2).2
        have hb1 : (k : Int) < ((k + 1 : Nat) : Int) := by omega
        have hb2 : (k : Int) < (k : Int) + 1 := by omega
        have hb0 : (0 : Int) ≤ (k : Int) := by omega
        go_wp2_with fail
        refine (KL.out _ (FB.out FF.out (btr bb B2))).mono ?_
        rintro r w5 ⟨rfl, b5⟩
        go_wp2
        go_ret
        exact ⟨rfl, btr (btr bb B2) b5⟩
set_option maxRecDepth 100000 in
set_option maxHeartbeats 8000000 in
theorem dl_n {T : World → Prop} (FB : Box (∀ {w w' : World}, T w → Below w.heap.size w w' → T w')) (l : List Nat) (L : Nat) (w : World) (g z c : Nat) (hl : l.length = L) (q1 : L ≤ 2000) (hc : L ≤ c)
    (HC : Box (∀ W, Below w.heap.size w W → ∀ (k x : Nat), l[k]? = some x → W.cell? ⟨g, z + k, none⟩ = some (.int .u32 (x : Nat))))
    (RD : Box (∀ (k x : Nat), l[k]? = some x → ∀ w, Calls Tryd.prog 10 #[.int .u32 (x : Nat)] w fun r w' => r = .returned (.tuple #[.agg (inC (dcR x).1), .int .i64 (dcR x).2]) ∧ Below w.heap.size w w'))
    (m : Nat) (hm : m < L) (HD : Box (∀ (k x : Nat), l[k]? = some x → k < m → (dcR x).2 = 0)) (HB : Box (∀ (x : Nat), l[m]? = some x → (dcR x).2 = 250))
    (KA : Box (∀ (W : World) (s1 : Value), T W → SU l L s1 W → Calls Tryd.prog 15 #[s1] W fun r w' => (∃ (os : Option Addr) (cs : Nat), r = .returned (.tuple #[.slice os 0 cs, .int .i64 (m : Nat), .int .i64 250])) ∧ Below W.heap.size W w'))
    (KL : Box (∀ w, T w → Calls Tryd.prog 13 #[] w fun r w' => r = .returned (.bool true) ∧ Below w.heap.size w w')) (hT : T w) : Calls Tryd.prog 4 #[.slice (some ⟨g, z, none⟩) L c] w fun r w' => r = .returned (.bool true) ∧ Below w.heap.size w w' := by
  have FF := box hT
  have HL := box hl
  clear hT hl
  have hin := inC_new
  have he := eqin
  have hfo := inC_fold
  have d1 : decide ((2000 : Int) < (L : Int)) = false := decide_eq_false (by omega)
  have hlen : (uls l).length = L * 1 := by unfold uls; rw [List.length_map, HL.out, Nat.mul_one]
  have info : (Tryd.prog.info? 22).map (fun i => (i.zero, i.size, i.bytes)) = some (some (.int .u32 0), 1, 4) := by kernel_rfl
  obtain ⟨i0, hi, hz0, hz1, hz2⟩ := info_parts info
  go_enter Tryd.func4, Tryd.ntmps4
  go_wp2_with (at_builtin; refine wpList_append_own _ rfl (.const (.slice none 0 0)) _ 39 rfl w.heap.size 22 i0 (.int .u32 0) 1 4 Tryd.underlying39 hi hz0 hz1 hz2 rfl (by decide) (.slice none 0 0) 0 [] rfl (World.ownsRow_nil _ _ _ _) ⟨g, z, none⟩ L c (uls l) rfl hlen ?c1 ?c2 ?b1 ?b2 (Nat.le_refl _) ?grow)
  case c1 =>
    intro j u hj
    unfold uls at hj
    rw [List.getElem?_map] at hj
    obtain ⟨x, hx, rfl⟩ := Option.map_eq_some_iff.1 hj
    rw [show ({ block := g, off := z, spot := none } : Addr).add j = ⟨g, z + j, none⟩ by simp [Addr.add]]
    exact HC.out w (Below.refl _ _) j x hx
  case c2 =>
    intro u hu
    unfold uls at hu
    obtain ⟨x, _, rfl⟩ := List.mem_map.1 hu
    rfl
  case b1 => unfold maxLen; omega
  case b2 => omega
  case grow =>
    intro v1 wa hown1 hgrow1 hnil1
    have ba : Below w.heap.size w wa := (Below.refl _ _).grown hgrow1 (Nat.le_refl _) (fun k h => by cases h)
    clear hgrow1 hnil1
    go_wp2_with (at_builtin; refine wpList_append_own _ rfl _ _ 39 rfl w.heap.size 22 i0 (.int .u32 0) 1 4 Tryd.underlying39 hi hz0 hz1 hz2 rfl (by decide) v1 L (uls l) rfl (hown1.alloc _) ⟨wa.heap.size, 0, none⟩ 1 1 [.int .u32 77] rfl rfl (cell_one_new _ _ _) (fun x hx => by simp at hx; subst hx; rfl) (by unfold maxLen; omega) (by omega) (by have := ba.size; simp only [size_al]; omega) ?grow2)
    case grow2 =>
    intro v2 wb hown2 hgrow2 hnil2
    have bb : Below w.heap.size w wb := (ba.alloc ba.size _).grown hgrow2 (by have := ba.size; simp only [size_al]; omega) (fun q hq => (hown1.lt q hq).1)
    obtain ⟨gi, ci, rfl, hgi, hci, HK⟩ := own_words HL.out hown2
    clear hown1 hown2 hgrow2 hnil2 ba info hi hz0 hz1 hz2 hlen
    have hs0 : (0 : Int) ≤ (L : Int) := by omega
    have hs1 : (L : Int) ≤ (ci : Int) := by omega
    have hs2 : ((L : Int)).toNat = L := by omega
    go_wp2_with fail
    clear hs0 hs1 hs2
    have SS : SU l L (.slice (some ⟨gi, 0, none⟩) L ci) wb := ⟨gi, 0, ci, by omega, rfl, fun V bV k x hx => (HK.out V bV).1 k x hx⟩
    refine (KA.out wb _ (FB.out FF.out bb) SS).mono ?_
    rintro r w1 ⟨⟨os, cs, rfl⟩, b1⟩
    go_wp2_with fail
    go_loopw [7] (fun iv wr => ∃ k : Nat, k ≤ m ∧ iv = .int .i64 k ∧ Below wb.heap.size wb wr) (fun iv _ => L - (intOf iv).toNat)
    case atStart => exact ⟨0, by omega, rfl, b1⟩
    case round =>
      clear b1
      obtain ⟨k, hk, rfl, B2⟩ := hrel
      obtain ⟨x, hx⟩ : ∃ x, l[k]? = some x := ⟨_, List.getElem?_eq_getElem (by rw [HL.out]; omega)⟩
      have c0 := HC.out _ (btr bb B2) k x hx
      have K1 := RD.out k x hx wr
      have HKk := fun W (bW : Below wb.heap.size wb W) => (HK.out W bW).1 k x hx
      obtain ⟨i, hxi⟩ : ∃ i, (dcR x).1 = i := ⟨_, rfl⟩
      rw [hxi] at K1
      have dl : decide ((k : Int) < (L : Int)) = true := decide_eq_true (by omega)
      have hb0 : (0 : Int) ≤ (k : Int) := by omega
      have hb1 : (k : Int) < (L : Int) := by omega
      have hb2 : (k : Int) < ((L + 1 : Nat) : Int) := by omega
      have hb3 : (k : Int) < (L : Int) + 1 := by omega
      by_cases hlt : k < m
      · rw [HD.out k x hx hlt] at K1
        have dn : decide ((k : Int) < (0 : Int)) = false := decide_eq_false (by omega)
        have dn2 : ((k : Int) < (0 : Int)) = False := by simp
        go_wp2_with fail
        refine K1.mono ?_
        rintro r w3 ⟨rfl, b3⟩
        have B3 := btr B2 b3
        have B4 := btr B3 (bal w3 (.cells (inC i) 28))
        have c2 := HC.out _ (btr bb B4) k x hx
        have a2 := HKk _ B4
        rw [Nat.zero_add] at a2
        clear HKk c0 K1 hx
        go_wp2_with fail
        go_quiet (fail)
        obtain ⟨w21, hw, B31, hh⟩ := quiet_world B4 nq
        rw [hw]
        go_wp2
        go_roundw
        case rel => exact ⟨k + 1, by omega, by go_num, B31⟩
        case measure => simp [intOf] <;> omega
      · obtain rfl : k = m := by omega
        rw [HB.out x hx] at K1
        go_wp2_with fail
        refine K1.mono ?_
        rintro r w3 ⟨rfl, b3⟩
        have B3 := btr B2 b3
        have B4 := btr B3 (bal w3 (.cells (inC i) 28))
        clear HKk c0 K1 hx
        go_wp2_with fail
        refine (KL.out _ (FB.out FF.out (btr bb B4))).mono ?_
        rintro r w5 ⟨rfl, b5⟩
        go_wp2
        go_ret
        exact ⟨rfl, btr (btr bb B4) b5⟩
set_option maxRecDepth 100000 in
set_option maxHeartbeats 8000000 in
theorem dl_z {T : World → Prop} (FB : Box (∀ {w w' : World}, T w → Below w.heap.size w w' → T w')) (l : List Nat) (L : Nat) (w : World) (ad : Addr) (c : Nat) (hl : l.length = L) (q1 : L ≤ 2000) (hc : L ≤ c)
    (RD : Box (∀ (k x : Nat), l[k]? = some x → ∀ w, Calls Tryd.prog 10 #[.int .u32 (x : Nat)] w fun r w' => r = .returned (.tuple #[.agg (inC (dcR x).1), .int .i64 (dcR x).2]) ∧ Below w.heap.size w w'))
    (h0 : L = 0)
    (KA : Box (∀ (W : World) (s1 : Value), T W → SU l L s1 W → Calls Tryd.prog 15 #[s1] W fun r w' => (∃ (os : Option Addr) (cs : Nat), r = .returned (.tuple #[.slice os 0 cs, .int .i64 0, .int .i64 0])) ∧ Below W.heap.size W w'))
    (KL : Box (∀ w, T w → Calls Tryd.prog 13 #[] w fun r w' => r = .returned (.bool true) ∧ Below w.heap.size w w')) (hT : T w) : Calls Tryd.prog 4 #[.slice (some ad) L c] w fun r w' => r = .returned (.bool true) ∧ Below w.heap.size w w' := by
  have H0 := box h0
  clear h0
  have FF := box hT
  have HL := box hl
  clear hT hl
  have hin := inC_new
  have he := eqin
  have hfo := inC_fold
  have d1 : decide ((2000 : Int) < (L : Int)) = false := decide_eq_false (by omega)
  have hlen : (uls l).length = L * 1 := by unfold uls; rw [List.length_map, HL.out, Nat.mul_one]
  have info : (Tryd.prog.info? 22).map (fun i => (i.zero, i.size, i.bytes)) = some (some (.int .u32 0), 1, 4) := by kernel_rfl
  obtain ⟨i0, hi, hz0, hz1, hz2⟩ := info_parts info
  go_enter Tryd.func4, Tryd.ntmps4
  go_wp2_with (at_builtin; refine wpList_append_own _ rfl (.const (.slice none 0 0)) _ 39 rfl w.heap.size 22 i0 (.int .u32 0) 1 4 Tryd.underlying39 hi hz0 hz1 hz2 rfl (by decide) (.slice none 0 0) 0 [] rfl (World.ownsRow_nil _ _ _ _) ad L c (uls l) rfl hlen ?c1 ?c2 ?b1 ?b2 (Nat.le_refl _) ?grow)
  case c1 =>
    intro j u hj
    have e : l = [] := List.eq_nil_of_length_eq_zero (by have := HL.out; have := H0.out; omega)
    subst e
    simp [uls] at hj
  case c2 =>
    intro u hu
    unfold uls at hu
    obtain ⟨x, _, rfl⟩ := List.mem_map.1 hu
    rfl
  case b1 => unfold maxLen; omega
  case b2 => omega
  case grow =>
    intro v1 wa hown1 hgrow1 hnil1
    have ba : Below w.heap.size w wa := (Below.refl _ _).grown hgrow1 (Nat.le_refl _) (fun k h => by cases h)
    clear hgrow1 hnil1
    go_wp2_with (at_builtin; refine wpList_append_own _ rfl _ _ 39 rfl w.heap.size 22 i0 (.int .u32 0) 1 4 Tryd.underlying39 hi hz0 hz1 hz2 rfl (by decide) v1 L (uls l) rfl (hown1.alloc _) ⟨wa.heap.size, 0, none⟩ 1 1 [.int .u32 77] rfl rfl (cell_one_new _ _ _) (fun x hx => by simp at hx; subst hx; rfl) (by unfold maxLen; omega) (by omega) (by have := ba.size; simp only [size_al]; omega) ?grow2)
    case grow2 =>
    intro v2 wb hown2 hgrow2 hnil2
    have bb : Below w.heap.size w wb := (ba.alloc ba.size _).grown hgrow2 (by have := ba.size; simp only [size_al]; omega) (fun q hq => (hown1.lt q hq).1)
    obtain ⟨gi, ci, rfl, hgi, hci, HK⟩ := own_words HL.out hown2
    clear hown1 hown2 hgrow2 hnil2 ba info hi hz0 hz1 hz2 hlen
    have hs0 : (0 : Int) ≤ (L : Int) := by omega
    have hs1 : (L : Int) ≤ (ci : Int) := by omega
    have hs2 : ((L : Int)).toNat = L := by omega
    go_wp2_with fail
    clear hs0 hs1 hs2
    have SS : SU l L (.slice (some ⟨gi, 0, none⟩) L ci) wb := ⟨gi, 0, ci, by omega, rfl, fun V bV k x hx => (HK.out V bV).1 k x hx⟩
    refine (KA.out wb _ (FB.out FF.out bb) SS).mono ?_
    rintro r w1 ⟨⟨os, cs, rfl⟩, b1⟩
    go_wp2
    go_loopw [7] (fun iv wr => iv = .int .i64 0 ∧ Below wb.heap.size wb wr) (fun _ _ => 0)
    case atStart => exact ⟨rfl, b1⟩
    case round =>
      clear b1
      obtain ⟨rfl, B2⟩ := hrel
      have a2 := (HK.out _ B2).2
      have h0 := H0.out
      have dl : decide ((0 : Int) < (L : Int)) = false := decide_eq_false (by omega)
      have e1 : ((0 : Int) == (L : Int)) = true := by rw [beq_iff_eq]; omega
      have e2 : ((0 : Int) = (L : Int)) = True := by simp; omega
      have dl2 : decide (0 < L) = false := decide_eq_false (by omega)
      have dl3 : (0 < L) = False := by simp; omega
      have hb1 : (L : Int) < ((L + 1 : Nat) : Int) := by omega
      have hb2 : (L : Int) < (L : Int) + 1 := by omega
      have hb0 : (0 : Int) ≤ (L : Int) := by omega
      clear h0
      go_wp2_with fail
      refine (KL.out _ (FB.out FF.out (btr bb B2))).mono ?_
      rintro r w5 ⟨rfl, b5⟩
      go_wp2
      go_ret
      exact ⟨rfl, btr (btr bb B2) b5⟩
set_option maxRecDepth 100000 in
set_option maxHeartbeats 8000000 in
theorem dl_big {T : World → Prop} (FB : Box (∀ {w w' : World}, T w → Below w.heap.size w w' → T w')) (L : Nat) (o : Option Addr) (c : Nat) (q1 : 2000 < L) (KL : Box (∀ w, T w → Calls Tryd.prog 13 #[] w fun r w' => r = .returned (.bool true) ∧ Below w.heap.size w w')) (w : World) (hT : T w) : Calls Tryd.prog 4 #[.slice o L c] w fun r w' => r = .returned (.bool true) ∧ Below w.heap.size w w' := by
  have d1 : decide ((2000 : Int) < (L : Int)) = true := decide_eq_true (by omega)
  go_enter Tryd.func4, Tryd.ntmps4
  go_wp2_with fail
  refine (KL.out _ hT).mono ?_
  rintro r w5 ⟨rfl, b5⟩
  go_wp2
  go_ret
  exact ⟨rfl, b5⟩
set_option maxRecDepth 100000 in
set_option maxHeartbeats 8000000 in
theorem dl_0 {T : World → Prop} (FB : Box (∀ {w w' : World}, T w → Below w.heap.size w w' → T w')) (KA : Box (∀ (W : World) (s1 : Value), T W → SU [] 0 s1 W → Calls Tryd.prog 15 #[s1] W fun r w' => (∃ (os : Option Addr) (cs : Nat), r = .returned (.tuple #[.slice os 0 cs, .int .i64 0, .int .i64 0])) ∧ Below W.heap.size W w')) (KL : Box (∀ w, T w → Calls Tryd.prog 13 #[] w fun r w' => r = .returned (.bool true) ∧ Below w.heap.size w w')) (w : World) (hT : T w) : Calls Tryd.prog 4 #[.slice none 0 0] w fun r w' => r = .returned (.bool true) ∧ Below w.heap.size w w' := by
  have FF := box hT
  clear hT
  have info : (Tryd.prog.info? 22).map (fun i => (i.zero, i.size, i.bytes)) = some (some (.int .u32 0), 1, 4) := by kernel_rfl
  obtain ⟨i0, hi, hz0, hz1, hz2⟩ := info_parts info
  go_enter Tryd.func4, Tryd.ntmps4
  go_wp2_with (at_builtin; refine wpList_append_own _ rfl _ _ 39 rfl w.heap.size 22 i0 (.int .u32 0) 1 4 Tryd.underlying39 hi hz0 hz1 hz2 rfl (by decide) (.slice none 0 0) 0 [] rfl (World.ownsRow_nil _ _ _ _) ⟨w.heap.size, 0, none⟩ 1 1 [.int .u32 77] rfl rfl (cell_one_new _ _ _) (fun x hx => by simp at hx; subst hx; rfl) (by unfold maxLen; omega) (by omega) (by simp only [size_al]; omega) ?grow2)
  case grow2 =>
    intro v2 wb hown2 hgrow2 hnil2
    have bb : Below w.heap.size w wb := (bal w _).grown hgrow2 (by simp only [size_al]; omega) (fun q hq => by cases hq)
    obtain ⟨gi, ci, rfl, hgi, hci, HK⟩ := own_words (l := []) (L := 0) rfl hown2
    have SS : SU [] 0 (.slice (some ⟨gi, 0, none⟩) 0 ci) wb := ⟨gi, 0, ci, by omega, rfl, fun V bV k x hx => by simp at hx⟩
    have hs1 : (0 : Int) ≤ (ci : Int) := by omega
    clear hgrow2 hnil2 hown2 info hi hz0 hz1 hz2
    go_wp2_with fail
    refine (KA.out wb _ (FB.out FF.out bb) SS).mono ?_
    rintro r w1 ⟨⟨os, cs, rfl⟩, b1⟩
    go_wp2
    go_loopw [7] (fun iv wr => iv = .int .i64 0 ∧ Below wb.heap.size wb wr) (fun _ _ => 0)
    case atStart => exact ⟨rfl, b1⟩
    case round =>
      obtain ⟨rfl, B2⟩ := hrel
      have a2 := (HK.out _ B2).2
      go_wp2_with fail
      refine (KL.out _ (FB.out FF.out (btr bb B2))).mono ?_
      rintro r w5 ⟨rfl, b5⟩
      go_wp2
      go_ret
      exact ⟨rfl, btr (btr bb B2) b5⟩
def fbL : List Nat → Nat
  | [] => 0
  | x :: t => if (dcR x).2 = 0 then fbL t + 1 else 0
theorem fbL_le : ∀ l, fbL l ≤ l.length
  | [] => Nat.le_refl _
  | x :: t => by
    have := fbL_le t
    unfold fbL
    rw [List.length_cons]
    split <;> omega
theorem fbL_lo : ∀ (l : List Nat) (k x : Nat), l[k]? = some x → k < fbL l → (dcR x).2 = 0
  | [], k, x, h, _ => by simp at h
  | y :: t, k, x, h, hk => by
    unfold fbL at hk
    split at hk
    · match k, h with
      | 0, h => simp at h; rw [← h]; assumption
      | k + 1, h => exact fbL_lo t k x (by simpa using h) (by omega)
    · omega
theorem dcR_two (x : Nat) : (dcR x).2 = 0 ∨ (dcR x).2 = 250 := by
  cases h : fdL x with
  | none => exact .inr (by rw [dcR_none h])
  | some p => exact .inl (by rw [dcR_some h])
theorem fbL_at : ∀ (l : List Nat) (x : Nat), l[fbL l]? = some x → (dcR x).2 = 250
  | [], x, h => by simp at h
  | y :: t, x, h => by
    unfold fbL at h
    split at h
    · exact fbL_at t x (by simpa using h)
    · simp at h
      rw [← h]
      exact (dcR_two y).resolve_left (by assumption)
def AllAns (l : List Nat) (r : Ending) (w' : World) : Prop :=
  if fbL l = l.length then
    (l = [] ∧ ∃ (os : Option Addr) (cs : Nat), r = .returned (.tuple #[.slice os 0 cs, .int .i64 0, .int .i64 0])) ∨
    (∃ (gs cs : Nat) (cur : Array Value), r = .returned (.tuple #[.slice (some ⟨gs, 0, none⟩) l.length cs, .int .i64 (l.length : Nat), .int .i64 0]) ∧ l.length ≤ cs ∧ w'.heap[gs]? = some (.cells cur 28) ∧ Box (∀ (k x : Nat), l[k]? = some x → ∀ j u, (inC (dcR x).1)[j]? = some u → cur[k * 11 + j]? = some u))
  else ∃ (os : Option Addr) (cs : Nat), r = .returned (.tuple #[.slice os 0 cs, .int .i64 (fbL l : Nat), .int .i64 250])
theorem lists25_s {T : World → Prop} (FB : Box (∀ {w w' : World}, T w → Below w.heap.size w w' → T w')) (CA : ∀ l : List Nat, l.length ≤ 2000 → (∀ x ∈ l, x < 4294967296) → Box (∀ (W : World) (s1 : Value), T W → SU l l.length s1 W → Calls Tryd.prog 15 #[s1] W fun r w' => AllAns l r w' ∧ Below W.heap.size W w')) (KL : Box (∀ w, T w → Calls Tryd.prog 13 #[] w fun r w' => r = .returned (.bool true) ∧ Below w.heap.size w w')) (l : List Nat) (hx : ∀ x ∈ l, x < 4294967296) (w : World) (g z c : Nat) (hc : l.length ≤ c) (HC : Box (∀ W, Below w.heap.size w W → ∀ (k x : Nat), l[k]? = some x → W.cell? ⟨g, z + k, none⟩ = some (.int .u32 (x : Nat)))) (hT : T w) : Calls Tryd.prog 4 #[.slice (some ⟨g, z, none⟩) l.length c] w fun r w' => r = .returned (.bool true) ∧ Below w.heap.size w w' := by
  by_cases q : l.length ≤ 2000
  · have F := CA l q hx
    have RD : Box (∀ (k x : Nat), l[k]? = some x → ∀ w, Calls Tryd.prog 10 #[.int .u32 (x : Nat)] w fun r w' => r = .returned (.tuple #[.agg (inC (dcR x).1), .int .i64 (dcR x).2]) ∧ Below w.heap.size w w') := box (fun k x h w => rDc25 x (hx x (List.mem_of_getElem? h)) _ _ rfl w)
    by_cases e : fbL l = l.length
    · by_cases z0 : l.length = 0
      · have en : l = [] := List.eq_nil_of_length_eq_zero z0
        refine dl_z FB l l.length w ⟨g, z, none⟩ c rfl q hc RD z0 (box (fun W s1 hW hS => (F.out W s1 hW hS).mono ?_)) KL hT
        rintro r w1 ⟨h, b⟩
        unfold AllAns at h
        rw [if_pos e] at h
        rcases h with ⟨_, h⟩ | ⟨gs, cs, cur, h, _⟩
        · exact ⟨h, b⟩
        · rw [z0] at h
          exact ⟨⟨_, _, h⟩, b⟩
      · refine dl_y FB l l.length w g z c rfl q hc HC RD (box (fun k x h => fbL_lo l k x h (by rw [e]; exact (List.getElem?_eq_some_iff.1 h).1))) (box (fun W s1 hW hS => (F.out W s1 hW hS).mono ?_)) KL hT
        rintro r w1 ⟨h, b⟩
        unfold AllAns at h
        rw [if_pos e] at h
        rcases h with ⟨h, _⟩ | ⟨gs, cs, cur, h1, h2, h3, h4⟩
        · rw [h] at z0
          exact absurd rfl z0
        · exact ⟨gs, cs, cur, h1, h2, h3, h4, b⟩
    · have le := fbL_le l
      refine dl_n FB l l.length w g z c rfl q hc HC RD (fbL l) (by omega) (box (fun k x h hk => fbL_lo l k x h hk)) (box (fun x h => fbL_at l x h)) (box (fun W s1 hW hS => (F.out W s1 hW hS).mono ?_)) KL hT
      rintro r w1 ⟨h, b⟩
      unfold AllAns at h
      rw [if_neg e] at h
      exact ⟨h, b⟩
  · exact dl_big FB _ _ _ (by omega) KL w hT
theorem lists25_e {T : World → Prop} (FB : Box (∀ {w w' : World}, T w → Below w.heap.size w w' → T w')) (CA : ∀ l : List Nat, l.length ≤ 2000 → (∀ x ∈ l, x < 4294967296) → Box (∀ (W : World) (s1 : Value), T W → SU l l.length s1 W → Calls Tryd.prog 15 #[s1] W fun r w' => AllAns l r w' ∧ Below W.heap.size W w')) (KL : Box (∀ w, T w → Calls Tryd.prog 13 #[] w fun r w' => r = .returned (.bool true) ∧ Below w.heap.size w w')) (w : World) (ad : Addr) (c : Nat) (hT : T w) : Calls Tryd.prog 4 #[.slice (some ad) 0 c] w fun r w' => r = .returned (.bool true) ∧ Below w.heap.size w w' := by
  refine dl_z FB [] 0 w ad c rfl (by decide) (Nat.zero_le _) (box (fun k x h => by simp at h)) rfl (box (fun W s1 hW hS => ((CA [] (by decide) (by simp)).out W s1 hW hS).mono ?_)) KL hT
  rintro r w1 ⟨h, b⟩
  unfold AllAns at h
  rw [if_pos (show fbL [] = ([] : List Nat).length from rfl)] at h
  rcases h with ⟨_, h⟩ | ⟨gs, cs, cur, h, _⟩
  · exact ⟨h, b⟩
  · exact ⟨⟨_, _, h⟩, b⟩
theorem lists25_0 {T : World → Prop} (FB : Box (∀ {w w' : World}, T w → Below w.heap.size w w' → T w')) (CA : ∀ l : List Nat, l.length ≤ 2000 → (∀ x ∈ l, x < 4294967296) → Box (∀ (W : World) (s1 : Value), T W → SU l l.length s1 W → Calls Tryd.prog 15 #[s1] W fun r w' => AllAns l r w' ∧ Below W.heap.size W w')) (KL : Box (∀ w, T w → Calls Tryd.prog 13 #[] w fun r w' => r = .returned (.bool true) ∧ Below w.heap.size w w')) (w : World) (hT : T w) : Calls Tryd.prog 4 #[.slice none 0 0] w fun r w' => r = .returned (.bool true) ∧ Below w.heap.size w w' := by
  refine dl_0 FB (box (fun W s1 hW hS => ((CA [] (by decide) (by simp)).out W s1 hW hS).mono ?_)) KL w hT
  rintro r w1 ⟨h, b⟩
  unfold AllAns at h
  rw [if_pos (show fbL [] = ([] : List Nat).length from rfl)] at h
  rcases h with ⟨_, h⟩ | ⟨gs, cs, cur, h, _⟩
  · exact ⟨h, b⟩
  · exact ⟨⟨_, _, h⟩, b⟩
end Go.Proofs.YtamlcgmipdcgjaaDoor
