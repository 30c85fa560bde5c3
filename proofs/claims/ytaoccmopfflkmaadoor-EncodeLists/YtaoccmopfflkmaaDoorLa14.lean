/-
  What the functions that the statement reaches return: part 14 (WE, WF, WG).
-/
import Derived.Laws.AppendOwn
import Derived.Test.YtaoccmopfflkmaaDoorLa13
namespace Go.Proofs.YtaoccmopfflkmaaDoor
set_option maxRecDepth 100000
set_option maxHeartbeats 40000000
set_option maxRecDepth 100000
open Go.RowKit WMath
set_option linter.unusedSimpArgs false
set_option linter.unusedVariables false
theorem rOf26 (x : In) : (∀ p, ofR24 x.op x.form x.frm x.kind = some p → Box (∀ w, Calls Tryd.prog 26 #[.int .u8 (x.op : Nat), .int .u8 (x.form : Nat), .int .u8 (x.frm : Nat), .int .u8 (x.kind : Nat)] w fun r w' => r = .returned (.tuple #[.agg (ndC p.1 ⟨p.2.toArray⟩), .int .i64 0]) ∧ Below w.heap.size w w')) ∧
    (ofR24 x.op x.form x.frm x.kind = none → ∃ rr nn, ∃ e : Int, (e != 0) = true ∧ Box (∀ w, Calls Tryd.prog 26 #[.int .u8 (x.op : Nat), .int .u8 (x.form : Nat), .int .u8 (x.frm : Nat), .int .u8 (x.kind : Nat)] w fun r w' => r = .returned (.tuple #[.agg (ndC rr nn), .int .i64 e]) ∧ Below w.heap.size w w')) := by
  refine ⟨fun p h => box (fun w => rOf24 x.op x.form x.frm x.kind p.1 p.2 0 (by rw [h]; rfl) (ofR_some h).2 w), fun h => ?_⟩
  rcases ofR_none h with e | e
  · exact ⟨_, _, 2, rfl, box (fun w => rOf24 x.op x.form x.frm x.kind _ _ 2 rfl e w)⟩
  · exact ⟨_, _, 240, rfl, box (fun w => rOf24 x.op x.form x.frm x.kind _ _ 240 rfl e w)⟩
theorem rMay26 (x : In) (w : World) : Calls Tryd.prog 12 #[.agg (inC x)] w fun r w' => r = .returned (.bool (mayI x)) ∧ Below w.heap.size w w' := by
  obtain ⟨h1, h2⟩ := rOf26 x
  unfold mayI
  cases h : ofR24 x.op x.form x.frm x.kind with
  | none =>
    obtain ⟨rr, nn, e, he, RO⟩ := h2 h
    exact b26_may_no x rr nn e he RO w
  | some p => exact b26_may x p.1 _ _ (h1 p h) (box (fun w => rFl25 p.1.lay w)) w
theorem w64i (y : Int) (h : -9223372036854775808 ≤ y ∧ y < 9223372036854775808) : wrap64 y = y := by
  unfold wrap64
  omega
theorem w64n (n : Nat) (h : n < 9223372036854775808) : wrap64 ((n : Nat) : Int) = ((n : Nat) : Int) := w64i _ (by omega)
theorem immF (iv : Nat) (h : iv < 4096) : (((iv : Nat) : Int).tdiv 32 = ((iv / 32 : Nat) : Int)) ∧ (((iv : Nat) : Int).tmod 32 = ((iv % 32 : Nat) : Int)) ∧ (IntKind.i64.wrap (((iv : Nat) : Int).tdiv 32) = ((iv / 32 : Nat) : Int)) ∧ (IntKind.i64.wrap (((iv : Nat) : Int).tmod 32) = ((iv % 32 : Nat) : Int)) ∧ (((iv : Nat) : Int) / 32 = ((iv / 32 : Nat) : Int)) ∧ (((iv : Nat) : Int) % 32 = ((iv % 32 : Nat) : Int)) ∧
    (wrap64 (((iv : Nat) : Int).tdiv 32) = ((iv / 32 : Nat) : Int)) ∧ (wrap64 (((iv : Nat) : Int).tmod 32) = ((iv % 32 : Nat) : Int)) ∧ (wrap64 ((iv / 32 : Nat) : Int) = ((iv / 32 : Nat) : Int)) ∧ (wrap64 ((iv % 32 : Nat) : Int) = ((iv % 32 : Nat) : Int)) ∧ (wrap64 ((iv : Nat) : Int) = ((iv : Nat) : Int)) ∧ (IntKind.i64.wrap ((iv : Nat) : Int) = ((iv : Nat) : Int)) ∧ (wrap64 ((iv : Nat) : Int) = ((iv : Nat) : Int)) ∧ decide (((iv : Nat) : Int) < 0) = false := by
  have v1 : IntKind.i64.wrap ((iv / 32 : Nat) : Int) = ((iv / 32 : Nat) : Int) := by rw [IntKind.wrap_i64]; omega
  have v2 : IntKind.i64.wrap ((iv % 32 : Nat) : Int) = ((iv % 32 : Nat) : Int) := by rw [IntKind.wrap_i64]; omega
  have v3 : IntKind.i64.wrap ((iv : Nat) : Int) = ((iv : Nat) : Int) := by rw [IntKind.wrap_i64]; omega
  have w1 := w64n (iv / 32) (Nat.lt_of_le_of_lt (Nat.div_le_self _ _) (Nat.lt_trans h (by decide)))
  have w2 := w64n (iv % 32) (Nat.lt_of_le_of_lt (Nat.mod_le _ _) (Nat.lt_trans h (by decide)))
  have w3 := w64n iv (Nat.lt_trans h (by decide))
  exact ⟨rfl, rfl, v1, v2, rfl, rfl, w1, w2, w1, w2, w3, v3, w3, decide_eq_false (Int.not_lt.2 (Int.natCast_nonneg iv))⟩
theorem addm (a b : Nat) (h : a + b < 4294967296) : ((a : Int) + (b : Int)) % 4294967296 = ((a + b : Nat) : Int) := by omega
theorem pt5 (l v : Nat) (h : v ≤ 31) : ptW l 5 v = v * 2 ^ l := by unfold ptW; rw [Nat.mod_eq_of_lt (by omega)]
theorem pt3 (l v : Nat) (h : v ≤ 7) : ptW l 3 v = v * 2 ^ l := by unfold ptW; rw [Nat.mod_eq_of_lt (by omega)]
theorem pt7 (l v : Nat) (h : v < 128) : ptW l 7 v = v * 2 ^ l := by unfold ptW; rw [Nat.mod_eq_of_lt (by omega)]
theorem pt12 (l v : Nat) (h : v < 4096) : ptW l 12 v = v * 2 ^ l := by unfold ptW; rw [Nat.mod_eq_of_lt (by omega)]
set_option maxRecDepth 100000 in
set_option maxHeartbeats 8000000 in
theorem r_enc1 (x : In) (p : Nm) (hp : ofR24 x.op x.form x.frm x.kind = some p) (hl : p.1.lay = 1) (hb : bndI x = true) (hf : fitI (hsL p.1.lay) x = true) (hlt : encW p.1 x < 4294967296) (RM : Box (∀ w, Calls Tryd.prog 12 #[.agg (inC x)] w fun r w' => r = .returned (.bool true) ∧ Below w.heap.size w w')) (w : World) : Calls Tryd.prog 10 #[.agg (inC x)] w fun r w' => r = .returned (.tuple #[.int .u32 (encW p.1 x : Nat), .int .i64 0]) ∧ Below w.heap.size w w' := by
  have RO := (rOf26 x).1 p hp
  have RF := box (fun w => rFl25 p.1.lay w)
  have hh : hsL p.1.lay = ⟨true, false, false, false, true, false⟩ := by rw [hl]; rfl
  rw [hh] at RF hf
  unfold bndI at hb
  obtain ⟨a1, a2, a3, a4, a5, a6, a7, a8, a9, a10⟩ := of_decide_eq_true hb
  have hw : IntKind.i64.wrap x.imm = x.imm := by rw [IntKind.wrap_i64]; omega
  have hw2 : wrap64 x.imm = x.imm := w64i _ (by omega)
  have q1 : (((p.1.lay : Nat) : Int) == 1) = true := by rw [hl]; rfl
  have q2 : (((p.1.lay : Nat) : Int) == 2) = false := by rw [hl]; rfl
  have hI : imN x.imm < 4096 := imN_lt a8 a9
  have hE : encW p.1 x = p.1.mtch + ptW 15 5 x.rs1 + ptW 7 5 x.rd + ptW 20 12 (imN x.imm) := by
    unfold encW fsW
    rw [hl]
    simp only [pt5 15 x.rs1 a2, pt5 7 x.rd a1, pt12 20 (imN x.imm) hI]
    simp
    omega
  have hlt2 := hlt
  rw [hE] at hlt2
  rw [hE]
  obtain ⟨iv, hiv⟩ : ∃ iv, imN x.imm = iv := ⟨_, rfl⟩
  rw [hiv] at hI hlt2 ⊢
  have g0 : x.rs1 < 9223372036854775808 := by omega
  have g1 : x.rd < 9223372036854775808 := by omega
  have g2 : iv < 9223372036854775808 := by omega
  have f0 := w64n x.rs1 (by omega)
  have f1 := w64n x.rd (by omega)
  have e0 := addm (p.1.mtch) (ptW 15 5 x.rs1) (by omega)
  have e1 := addm (p.1.mtch + ptW 15 5 x.rs1) (ptW 7 5 x.rd) (by omega)
  have e2 := addm (p.1.mtch + ptW 15 5 x.rs1 + ptW 7 5 x.rd) (ptW 20 12 iv) (by omega)
  by_cases g : x.imm < 0
  · have hx : x.imm + 4096 = (iv : Nat) := by unfold imN at hiv; rw [if_pos g] at hiv; omega
    have hn := decide_eq_true g
    obtain ⟨t1, t2, t3, t4, t5, t6, t7, t8, t9, t10, t11, t12, t13, t14⟩ := immF iv hI
    rw [← hx] at t12 t13
    rw [hx] at t12 t13
    have hv : IntKind.i64.wrap (x.imm + 4096) = (iv : Nat) := by rw [hx]; exact t12
    have hv2 : wrap64 (x.imm + 4096) = (iv : Nat) := by rw [hx]; exact t13
    exact b26_enc_1n x p.1 _ hw hw2 f0 f1 iv (iv / 32) (iv % 32) hn hv hv2 t3 t4 t1 t2 t7 t8 t9 t10 t11 t5 t6 q1 q2 RM RO RF _ (box (fun w => b25_put 15 5 x.rs1 g0 (by decide) w)) _ (box (fun w => b25_put 7 5 x.rd g1 (by decide) w)) _ (box (fun w => b25_put 20 12 iv g2 (by decide) w)) _ e0 _ e1 _ e2 w
  · have hx : x.imm = (iv : Nat) := by unfold imN at hiv; rw [if_neg g] at hiv; omega
    have hn := decide_eq_false g
    obtain ⟨t1, t2, t3, t4, t5, t6, t7, t8, t9, t10, t11, t12, t13, t14⟩ := immF iv hI
    exact b26_enc_1p x p.1 _ hw hw2 f0 f1 iv (iv / 32) (iv % 32) hn (box hx) t14 t3 t4 t1 t2 t7 t8 t9 t10 t11 t5 t6 q1 q2 RM RO RF _ (box (fun w => b25_put 15 5 x.rs1 g0 (by decide) w)) _ (box (fun w => b25_put 7 5 x.rd g1 (by decide) w)) _ (box (fun w => b25_put 20 12 iv g2 (by decide) w)) _ e0 _ e1 _ e2 w
set_option maxRecDepth 100000 in
set_option maxHeartbeats 8000000 in
theorem r_enc2 (x : In) (p : Nm) (hp : ofR24 x.op x.form x.frm x.kind = some p) (hl : p.1.lay = 2) (hb : bndI x = true) (hf : fitI (hsL p.1.lay) x = true) (hlt : encW p.1 x < 4294967296) (RM : Box (∀ w, Calls Tryd.prog 12 #[.agg (inC x)] w fun r w' => r = .returned (.bool true) ∧ Below w.heap.size w w')) (w : World) : Calls Tryd.prog 10 #[.agg (inC x)] w fun r w' => r = .returned (.tuple #[.int .u32 (encW p.1 x : Nat), .int .i64 0]) ∧ Below w.heap.size w w' := by
  have RO := (rOf26 x).1 p hp
  have RF := box (fun w => rFl25 p.1.lay w)
  have hh : hsL p.1.lay = ⟨false, true, false, false, true, false⟩ := by rw [hl]; rfl
  rw [hh] at RF hf
  unfold bndI at hb
  obtain ⟨a1, a2, a3, a4, a5, a6, a7, a8, a9, a10⟩ := of_decide_eq_true hb
  have hw : IntKind.i64.wrap x.imm = x.imm := by rw [IntKind.wrap_i64]; omega
  have hw2 : wrap64 x.imm = x.imm := w64i _ (by omega)
  have q1 : (((p.1.lay : Nat) : Int) == 1) = false := by rw [hl]; rfl
  have q2 : (((p.1.lay : Nat) : Int) == 2) = true := by rw [hl]; rfl
  have hI : imN x.imm < 4096 := imN_lt a8 a9
  have hE : encW p.1 x = p.1.mtch + ptW 15 5 x.rs1 + ptW 20 5 x.rs2 + ptW 25 7 (imN x.imm / 32) + ptW 7 5 (imN x.imm % 32) := by
    unfold encW fsW
    rw [hl]
    simp only [pt5 15 x.rs1 a2, pt5 20 x.rs2 a3, pt7 25 (imN x.imm / 32) (by omega), pt5 7 (imN x.imm % 32) (by omega)]
    simp
    omega
  have hlt2 := hlt
  rw [hE] at hlt2
  rw [hE]
  obtain ⟨iv, hiv⟩ : ∃ iv, imN x.imm = iv := ⟨_, rfl⟩
  rw [hiv] at hI hlt2 ⊢
  have g0 : x.rs1 < 9223372036854775808 := by omega
  have g1 : x.rs2 < 9223372036854775808 := by omega
  have g2 : (iv / 32) < 9223372036854775808 := by omega
  have g3 : (iv % 32) < 9223372036854775808 := by omega
  have f0 := w64n x.rs1 (by omega)
  have f1 := w64n x.rs2 (by omega)
  have e0 := addm (p.1.mtch) (ptW 15 5 x.rs1) (by omega)
  have e1 := addm (p.1.mtch + ptW 15 5 x.rs1) (ptW 20 5 x.rs2) (by omega)
  have e2 := addm (p.1.mtch + ptW 15 5 x.rs1 + ptW 20 5 x.rs2) (ptW 25 7 (iv / 32)) (by omega)
  have e3 := addm (p.1.mtch + ptW 15 5 x.rs1 + ptW 20 5 x.rs2 + ptW 25 7 (iv / 32)) (ptW 7 5 (iv % 32)) (by omega)
  by_cases g : x.imm < 0
  · have hx : x.imm + 4096 = (iv : Nat) := by unfold imN at hiv; rw [if_pos g] at hiv; omega
    have hn := decide_eq_true g
    obtain ⟨t1, t2, t3, t4, t5, t6, t7, t8, t9, t10, t11, t12, t13, t14⟩ := immF iv hI
    rw [← hx] at t12 t13
    rw [hx] at t12 t13
    have hv : IntKind.i64.wrap (x.imm + 4096) = (iv : Nat) := by rw [hx]; exact t12
    have hv2 : wrap64 (x.imm + 4096) = (iv : Nat) := by rw [hx]; exact t13
    exact b26_enc_2n x p.1 _ hw hw2 f0 f1 iv (iv / 32) (iv % 32) hn hv hv2 t3 t4 t1 t2 t7 t8 t9 t10 t11 t5 t6 q1 q2 RM RO RF _ (box (fun w => b25_put 15 5 x.rs1 g0 (by decide) w)) _ (box (fun w => b25_put 20 5 x.rs2 g1 (by decide) w)) _ (box (fun w => b25_put 25 7 (iv / 32) g2 (by decide) w)) _ (box (fun w => b25_put 7 5 (iv % 32) g3 (by decide) w)) _ e0 _ e1 _ e2 _ e3 w
  · have hx : x.imm = (iv : Nat) := by unfold imN at hiv; rw [if_neg g] at hiv; omega
    have hn := decide_eq_false g
    obtain ⟨t1, t2, t3, t4, t5, t6, t7, t8, t9, t10, t11, t12, t13, t14⟩ := immF iv hI
    exact b26_enc_2p x p.1 _ hw hw2 f0 f1 iv (iv / 32) (iv % 32) hn (box hx) t14 t3 t4 t1 t2 t7 t8 t9 t10 t11 t5 t6 q1 q2 RM RO RF _ (box (fun w => b25_put 15 5 x.rs1 g0 (by decide) w)) _ (box (fun w => b25_put 20 5 x.rs2 g1 (by decide) w)) _ (box (fun w => b25_put 25 7 (iv / 32) g2 (by decide) w)) _ (box (fun w => b25_put 7 5 (iv % 32) g3 (by decide) w)) _ e0 _ e1 _ e2 _ e3 w
set_option maxRecDepth 100000 in
set_option maxHeartbeats 8000000 in
theorem r_enc3 (x : In) (p : Nm) (hp : ofR24 x.op x.form x.frm x.kind = some p) (hl : p.1.lay = 3) (hb : bndI x = true) (hf : fitI (hsL p.1.lay) x = true) (hlt : encW p.1 x < 4294967296) (RM : Box (∀ w, Calls Tryd.prog 12 #[.agg (inC x)] w fun r w' => r = .returned (.bool true) ∧ Below w.heap.size w w')) (w : World) : Calls Tryd.prog 10 #[.agg (inC x)] w fun r w' => r = .returned (.tuple #[.int .u32 (encW p.1 x : Nat), .int .i64 0]) ∧ Below w.heap.size w w' := by
  have RO := (rOf26 x).1 p hp
  have RF := box (fun w => rFl25 p.1.lay w)
  have hh : hsL p.1.lay = ⟨true, true, true, true, false, false⟩ := by rw [hl]; rfl
  rw [hh] at RF hf
  unfold bndI at hb
  obtain ⟨a1, a2, a3, a4, a5, a6, a7, a8, a9, a10⟩ := of_decide_eq_true hb
  have hw : IntKind.i64.wrap x.imm = x.imm := by rw [IntKind.wrap_i64]; omega
  have hw2 : wrap64 x.imm = x.imm := w64i _ (by omega)
  have q1 : (((p.1.lay : Nat) : Int) == 1) = false := by rw [hl]; rfl
  have q2 : (((p.1.lay : Nat) : Int) == 2) = false := by rw [hl]; rfl
  have hz : x.imm = 0 := by simp [fitI] at hf; omega
  have hn : decide (x.imm < 0) = false := decide_eq_false (by omega)
  have hE : encW p.1 x = p.1.mtch + ptW 15 5 x.rs1 + ptW 7 5 x.rd + ptW 20 5 x.rs2 + ptW 27 5 x.rs3 + ptW 12 3 x.rm := by
    unfold encW fsW
    rw [hl]
    simp only [pt5 15 x.rs1 a2, pt5 7 x.rd a1, pt5 20 x.rs2 a3, pt5 27 x.rs3 a4, pt3 12 x.rm a5]
    simp
    omega
  have hlt2 := hlt
  rw [hE] at hlt2
  rw [hE]
  exact b26_enc_3 x p.1 _ hw hw2 (w64n x.rs1 (by omega)) (w64n x.rd (by omega)) (w64n x.rs2 (by omega)) (w64n x.rs3 (by omega)) (w64n x.rm (by omega)) hn q1 q2 RM RO RF _ (box (fun w => b25_put 15 5 x.rs1 (by omega) (by decide) w)) _ (box (fun w => b25_put 7 5 x.rd (by omega) (by decide) w)) _ (box (fun w => b25_put 20 5 x.rs2 (by omega) (by decide) w)) _ (box (fun w => b25_put 27 5 x.rs3 (by omega) (by decide) w)) _ (box (fun w => b25_put 12 3 x.rm (by omega) (by decide) w)) _ (addm _ _ (by omega)) _ (addm _ _ (by omega)) _ (addm _ _ (by omega)) _ (addm _ _ (by omega)) _ (addm _ _ (by omega)) w
set_option maxRecDepth 100000 in
set_option maxHeartbeats 8000000 in
theorem r_enc4 (x : In) (p : Nm) (hp : ofR24 x.op x.form x.frm x.kind = some p) (hl : p.1.lay = 4) (hb : bndI x = true) (hf : fitI (hsL p.1.lay) x = true) (hlt : encW p.1 x < 4294967296) (RM : Box (∀ w, Calls Tryd.prog 12 #[.agg (inC x)] w fun r w' => r = .returned (.bool true) ∧ Below w.heap.size w w')) (w : World) : Calls Tryd.prog 10 #[.agg (inC x)] w fun r w' => r = .returned (.tuple #[.int .u32 (encW p.1 x : Nat), .int .i64 0]) ∧ Below w.heap.size w w' := by
  have RO := (rOf26 x).1 p hp
  have RF := box (fun w => rFl25 p.1.lay w)
  have hh : hsL p.1.lay = ⟨true, true, false, true, false, false⟩ := by rw [hl]; rfl
  rw [hh] at RF hf
  unfold bndI at hb
  obtain ⟨a1, a2, a3, a4, a5, a6, a7, a8, a9, a10⟩ := of_decide_eq_true hb
  have hw : IntKind.i64.wrap x.imm = x.imm := by rw [IntKind.wrap_i64]; omega
  have hw2 : wrap64 x.imm = x.imm := w64i _ (by omega)
  have q1 : (((p.1.lay : Nat) : Int) == 1) = false := by rw [hl]; rfl
  have q2 : (((p.1.lay : Nat) : Int) == 2) = false := by rw [hl]; rfl
  have hz : x.imm = 0 := by simp [fitI] at hf; omega
  have hn : decide (x.imm < 0) = false := decide_eq_false (by omega)
  have hE : encW p.1 x = p.1.mtch + ptW 15 5 x.rs1 + ptW 7 5 x.rd + ptW 20 5 x.rs2 + ptW 12 3 x.rm := by
    unfold encW fsW
    rw [hl]
    simp only [pt5 15 x.rs1 a2, pt5 7 x.rd a1, pt5 20 x.rs2 a3, pt3 12 x.rm a5]
    simp
    omega
  have hlt2 := hlt
  rw [hE] at hlt2
  rw [hE]
  exact b26_enc_4 x p.1 _ hw hw2 (w64n x.rs1 (by omega)) (w64n x.rd (by omega)) (w64n x.rs2 (by omega)) (w64n x.rm (by omega)) hn q1 q2 RM RO RF _ (box (fun w => b25_put 15 5 x.rs1 (by omega) (by decide) w)) _ (box (fun w => b25_put 7 5 x.rd (by omega) (by decide) w)) _ (box (fun w => b25_put 20 5 x.rs2 (by omega) (by decide) w)) _ (box (fun w => b25_put 12 3 x.rm (by omega) (by decide) w)) _ (addm _ _ (by omega)) _ (addm _ _ (by omega)) _ (addm _ _ (by omega)) _ (addm _ _ (by omega)) w
set_option maxRecDepth 100000 in
set_option maxHeartbeats 8000000 in
theorem r_enc5 (x : In) (p : Nm) (hp : ofR24 x.op x.form x.frm x.kind = some p) (hl : p.1.lay = 5) (hb : bndI x = true) (hf : fitI (hsL p.1.lay) x = true) (hlt : encW p.1 x < 4294967296) (RM : Box (∀ w, Calls Tryd.prog 12 #[.agg (inC x)] w fun r w' => r = .returned (.bool true) ∧ Below w.heap.size w w')) (w : World) : Calls Tryd.prog 10 #[.agg (inC x)] w fun r w' => r = .returned (.tuple #[.int .u32 (encW p.1 x : Nat), .int .i64 0]) ∧ Below w.heap.size w w' := by
  have RO := (rOf26 x).1 p hp
  have RF := box (fun w => rFl25 p.1.lay w)
  have hh : hsL p.1.lay = ⟨true, true, false, false, false, false⟩ := by rw [hl]; rfl
  rw [hh] at RF hf
  unfold bndI at hb
  obtain ⟨a1, a2, a3, a4, a5, a6, a7, a8, a9, a10⟩ := of_decide_eq_true hb
  have hw : IntKind.i64.wrap x.imm = x.imm := by rw [IntKind.wrap_i64]; omega
  have hw2 : wrap64 x.imm = x.imm := w64i _ (by omega)
  have q1 : (((p.1.lay : Nat) : Int) == 1) = false := by rw [hl]; rfl
  have q2 : (((p.1.lay : Nat) : Int) == 2) = false := by rw [hl]; rfl
  have hz : x.imm = 0 := by simp [fitI] at hf; omega
  have hn : decide (x.imm < 0) = false := decide_eq_false (by omega)
  have hE : encW p.1 x = p.1.mtch + ptW 15 5 x.rs1 + ptW 7 5 x.rd + ptW 20 5 x.rs2 := by
    unfold encW fsW
    rw [hl]
    simp only [pt5 15 x.rs1 a2, pt5 7 x.rd a1, pt5 20 x.rs2 a3]
    simp
    omega
  have hlt2 := hlt
  rw [hE] at hlt2
  rw [hE]
  exact b26_enc_5 x p.1 _ hw hw2 (w64n x.rs1 (by omega)) (w64n x.rd (by omega)) (w64n x.rs2 (by omega)) hn q1 q2 RM RO RF _ (box (fun w => b25_put 15 5 x.rs1 (by omega) (by decide) w)) _ (box (fun w => b25_put 7 5 x.rd (by omega) (by decide) w)) _ (box (fun w => b25_put 20 5 x.rs2 (by omega) (by decide) w)) _ (addm _ _ (by omega)) _ (addm _ _ (by omega)) _ (addm _ _ (by omega)) w
set_option maxRecDepth 100000 in
set_option maxHeartbeats 8000000 in
theorem r_enc6 (x : In) (p : Nm) (hp : ofR24 x.op x.form x.frm x.kind = some p) (hl : p.1.lay = 6) (hb : bndI x = true) (hf : fitI (hsL p.1.lay) x = true) (hlt : encW p.1 x < 4294967296) (RM : Box (∀ w, Calls Tryd.prog 12 #[.agg (inC x)] w fun r w' => r = .returned (.bool true) ∧ Below w.heap.size w w')) (w : World) : Calls Tryd.prog 10 #[.agg (inC x)] w fun r w' => r = .returned (.tuple #[.int .u32 (encW p.1 x : Nat), .int .i64 0]) ∧ Below w.heap.size w w' := by
  have RO := (rOf26 x).1 p hp
  have RF := box (fun w => rFl25 p.1.lay w)
  have hh : hsL p.1.lay = ⟨true, false, false, true, false, false⟩ := by rw [hl]; rfl
  rw [hh] at RF hf
  unfold bndI at hb
  obtain ⟨a1, a2, a3, a4, a5, a6, a7, a8, a9, a10⟩ := of_decide_eq_true hb
  have hw : IntKind.i64.wrap x.imm = x.imm := by rw [IntKind.wrap_i64]; omega
  have hw2 : wrap64 x.imm = x.imm := w64i _ (by omega)
  have q1 : (((p.1.lay : Nat) : Int) == 1) = false := by rw [hl]; rfl
  have q2 : (((p.1.lay : Nat) : Int) == 2) = false := by rw [hl]; rfl
  have hz : x.imm = 0 := by simp [fitI] at hf; omega
  have hn : decide (x.imm < 0) = false := decide_eq_false (by omega)
  have hE : encW p.1 x = p.1.mtch + ptW 15 5 x.rs1 + ptW 7 5 x.rd + ptW 12 3 x.rm := by
    unfold encW fsW
    rw [hl]
    simp only [pt5 15 x.rs1 a2, pt5 7 x.rd a1, pt3 12 x.rm a5]
    simp
    omega
  have hlt2 := hlt
  rw [hE] at hlt2
  rw [hE]
  exact b26_enc_6 x p.1 _ hw hw2 (w64n x.rs1 (by omega)) (w64n x.rd (by omega)) (w64n x.rm (by omega)) hn q1 q2 RM RO RF _ (box (fun w => b25_put 15 5 x.rs1 (by omega) (by decide) w)) _ (box (fun w => b25_put 7 5 x.rd (by omega) (by decide) w)) _ (box (fun w => b25_put 12 3 x.rm (by omega) (by decide) w)) _ (addm _ _ (by omega)) _ (addm _ _ (by omega)) _ (addm _ _ (by omega)) w
set_option maxRecDepth 100000 in
set_option maxHeartbeats 8000000 in
theorem r_enc7 (x : In) (p : Nm) (hp : ofR24 x.op x.form x.frm x.kind = some p) (hl : p.1.lay = 7) (hb : bndI x = true) (hf : fitI (hsL p.1.lay) x = true) (hlt : encW p.1 x < 4294967296) (RM : Box (∀ w, Calls Tryd.prog 12 #[.agg (inC x)] w fun r w' => r = .returned (.bool true) ∧ Below w.heap.size w w')) (w : World) : Calls Tryd.prog 10 #[.agg (inC x)] w fun r w' => r = .returned (.tuple #[.int .u32 (encW p.1 x : Nat), .int .i64 0]) ∧ Below w.heap.size w w' := by
  have RO := (rOf26 x).1 p hp
  have RF := box (fun w => rFl25 p.1.lay w)
  have hh : hsL p.1.lay = ⟨true, false, false, false, false, false⟩ := by rw [hl]; rfl
  rw [hh] at RF hf
  unfold bndI at hb
  obtain ⟨a1, a2, a3, a4, a5, a6, a7, a8, a9, a10⟩ := of_decide_eq_true hb
  have hw : IntKind.i64.wrap x.imm = x.imm := by rw [IntKind.wrap_i64]; omega
  have hw2 : wrap64 x.imm = x.imm := w64i _ (by omega)
  have q1 : (((p.1.lay : Nat) : Int) == 1) = false := by rw [hl]; rfl
  have q2 : (((p.1.lay : Nat) : Int) == 2) = false := by rw [hl]; rfl
  have hz : x.imm = 0 := by simp [fitI] at hf; omega
  have hn : decide (x.imm < 0) = false := decide_eq_false (by omega)
  have hE : encW p.1 x = p.1.mtch + ptW 15 5 x.rs1 + ptW 7 5 x.rd := by
    unfold encW fsW
    rw [hl]
    simp only [pt5 15 x.rs1 a2, pt5 7 x.rd a1]
    simp
    omega
  have hlt2 := hlt
  rw [hE] at hlt2
  rw [hE]
  exact b26_enc_7 x p.1 _ hw hw2 (w64n x.rs1 (by omega)) (w64n x.rd (by omega)) hn q1 q2 RM RO RF _ (box (fun w => b25_put 15 5 x.rs1 (by omega) (by decide) w)) _ (box (fun w => b25_put 7 5 x.rd (by omega) (by decide) w)) _ (addm _ _ (by omega)) _ (addm _ _ (by omega)) w
set_option maxRecDepth 100000 in
set_option maxHeartbeats 8000000 in
theorem r_enc8 (x : In) (p : Nm) (hp : ofR24 x.op x.form x.frm x.kind = some p) (hl : p.1.lay = 8) (hb : bndI x = true) (hf : fitI (hsL p.1.lay) x = true) (hlt : encW p.1 x < 4294967296) (RM : Box (∀ w, Calls Tryd.prog 12 #[.agg (inC x)] w fun r w' => r = .returned (.bool true) ∧ Below w.heap.size w w')) (w : World) : Calls Tryd.prog 10 #[.agg (inC x)] w fun r w' => r = .returned (.tuple #[.int .u32 (encW p.1 x : Nat), .int .i64 0]) ∧ Below w.heap.size w w' := by
  have RO := (rOf26 x).1 p hp
  have RF := box (fun w => rFl25 p.1.lay w)
  have hh : hsL p.1.lay = ⟨true, false, false, false, false, true⟩ := by rw [hl]; rfl
  rw [hh] at RF hf
  unfold bndI at hb
  obtain ⟨a1, a2, a3, a4, a5, a6, a7, a8, a9, a10⟩ := of_decide_eq_true hb
  have hw : IntKind.i64.wrap x.imm = x.imm := by rw [IntKind.wrap_i64]; omega
  have hw2 : wrap64 x.imm = x.imm := w64i _ (by omega)
  have q1 : (((p.1.lay : Nat) : Int) == 1) = false := by rw [hl]; rfl
  have q2 : (((p.1.lay : Nat) : Int) == 2) = false := by rw [hl]; rfl
  have hz : x.imm = 0 := by simp [fitI] at hf; omega
  have hn : decide (x.imm < 0) = false := decide_eq_false (by omega)
  have hE : encW p.1 x = p.1.mtch + ptW 15 5 x.rs1 + ptW 7 5 x.rd + ptW 20 12 x.csr := by
    unfold encW fsW
    rw [hl]
    simp only [pt5 15 x.rs1 a2, pt5 7 x.rd a1, pt12 20 x.csr (by omega)]
    simp
    omega
  have hlt2 := hlt
  rw [hE] at hlt2
  rw [hE]
  exact b26_enc_8 x p.1 _ hw hw2 (w64n x.rs1 (by omega)) (w64n x.rd (by omega)) (w64n x.csr (by omega)) hn q1 q2 RM RO RF _ (box (fun w => b25_put 15 5 x.rs1 (by omega) (by decide) w)) _ (box (fun w => b25_put 7 5 x.rd (by omega) (by decide) w)) _ (box (fun w => b25_put 20 12 x.csr (by omega) (by decide) w)) _ (addm _ _ (by omega)) _ (addm _ _ (by omega)) _ (addm _ _ (by omega)) w
set_option maxRecDepth 100000 in
set_option maxHeartbeats 8000000 in
theorem r_enc9 (x : In) (p : Nm) (hp : ofR24 x.op x.form x.frm x.kind = some p) (hl : p.1.lay = 9) (hb : bndI x = true) (hf : fitI (hsL p.1.lay) x = true) (hlt : encW p.1 x < 4294967296) (RM : Box (∀ w, Calls Tryd.prog 12 #[.agg (inC x)] w fun r w' => r = .returned (.bool true) ∧ Below w.heap.size w w')) (w : World) : Calls Tryd.prog 10 #[.agg (inC x)] w fun r w' => r = .returned (.tuple #[.int .u32 (encW p.1 x : Nat), .int .i64 0]) ∧ Below w.heap.size w w' := by
  have RO := (rOf26 x).1 p hp
  have RF := box (fun w => rFl25 p.1.lay w)
  have hh : hsL p.1.lay = ⟨true, false, false, false, false, true⟩ := by rw [hl]; rfl
  rw [hh] at RF hf
  unfold bndI at hb
  obtain ⟨a1, a2, a3, a4, a5, a6, a7, a8, a9, a10⟩ := of_decide_eq_true hb
  have hw : IntKind.i64.wrap x.imm = x.imm := by rw [IntKind.wrap_i64]; omega
  have hw2 : wrap64 x.imm = x.imm := w64i _ (by omega)
  have q1 : (((p.1.lay : Nat) : Int) == 1) = false := by rw [hl]; rfl
  have q2 : (((p.1.lay : Nat) : Int) == 2) = false := by rw [hl]; rfl
  have hz : x.imm = 0 := by simp [fitI] at hf; omega
  have hn : decide (x.imm < 0) = false := decide_eq_false (by omega)
  have hE : encW p.1 x = p.1.mtch + ptW 15 5 x.rs1 + ptW 7 5 x.rd + ptW 20 12 x.csr := by
    unfold encW fsW
    rw [hl]
    simp only [pt5 15 x.rs1 a2, pt5 7 x.rd a1, pt12 20 x.csr (by omega)]
    simp
    omega
  have hlt2 := hlt
  rw [hE] at hlt2
  rw [hE]
  exact b26_enc_8 x p.1 _ hw hw2 (w64n x.rs1 (by omega)) (w64n x.rd (by omega)) (w64n x.csr (by omega)) hn q1 q2 RM RO RF _ (box (fun w => b25_put 15 5 x.rs1 (by omega) (by decide) w)) _ (box (fun w => b25_put 7 5 x.rd (by omega) (by decide) w)) _ (box (fun w => b25_put 20 12 x.csr (by omega) (by decide) w)) _ (addm _ _ (by omega)) _ (addm _ _ (by omega)) _ (addm _ _ (by omega)) w
theorem rEn26 (x : In) (w : World) : Calls Tryd.prog 10 #[.agg (inC x)] w fun r w' => r = .returned (.tuple #[.int .u32 ((enR x).1 : Nat), .int .i64 (enR x).2]) ∧ Below w.heap.size w w' := by
  have RM := box (fun w => rMay26 x w)
  cases hm : mayI x with
  | false =>
    rw [hm] at RM
    have e : enR x = (0, 260) := by unfold enR; rw [hm]; rfl
    rw [e]
    exact b26_enc_no x RM w
  | true =>
    rw [hm] at RM
    obtain ⟨p, hp, hmem, hlt, hfd, hdc⟩ := enc_dec hm
    have e : enR x = (encW p.1 x, 0) := by unfold enR; rw [hm, hp]; rfl
    rw [e]
    have hh := hm
    unfold mayI at hh
    rw [hp] at hh
    simp only [Bool.and_eq_true] at hh
    obtain ⟨hb, hf⟩ := hh
    obtain ⟨l1, l9, _⟩ := lay24 hmem
    rcases (by omega : p.1.lay = 1 ∨ p.1.lay = 2 ∨ p.1.lay = 3 ∨ p.1.lay = 4 ∨ p.1.lay = 5 ∨ p.1.lay = 6 ∨ p.1.lay = 7 ∨ p.1.lay = 8 ∨ p.1.lay = 9) with hl | hl | hl | hl | hl | hl | hl | hl | hl
    · exact r_enc1 x p hp hl hb hf hlt RM w
    · exact r_enc2 x p hp hl hb hf hlt RM w
    · exact r_enc3 x p hp hl hb hf hlt RM w
    · exact r_enc4 x p hp hl hb hf hlt RM w
    · exact r_enc5 x p hp hl hb hf hlt RM w
    · exact r_enc6 x p hp hl hb hf hlt RM w
    · exact r_enc7 x p hp hl hb hf hlt RM w
    · exact r_enc8 x p hp hl hb hf hlt RM w
    · exact r_enc9 x p hp hl hb hf hlt RM w
end Go.Proofs.YtaoccmopfflkmaaDoor
namespace Go.Proofs.YtaoccmopfflkmaaDoor
set_option maxRecDepth 100000
set_option maxHeartbeats 40000000
set_option maxRecDepth 100000
open Go.RowKit WMath
set_option linter.unusedSimpArgs false
set_option linter.unusedVariables false
set_option maxRecDepth 100000 in
set_option maxHeartbeats 8000000 in
theorem en_lives {T : World → Prop} (FB : Box (∀ {w w' : World}, T w → Below w.heap.size w w' → T w')) (K1 : Box (∀ w, T w → Calls Tryd.prog 9 #[.agg #[.int .u8 7, .int .u8 0, .int .u8 0, .int .u8 0, .int .u8 1, .int .u8 2, .int .u8 3, .int .u8 0, .int .u8 0, .int .i16 0, .int .u8 0]] w fun r w' => r = .returned (.tuple #[.int .u32 3211475, .int .i64 0]) ∧ Below w.heap.size w w')) (K2 : Box (∀ w, T w → Calls Tryd.prog 9 #[.agg #[.int .u8 2, .int .u8 0, .int .u8 0, .int .u8 0, .int .u8 0, .int .u8 2, .int .u8 1, .int .u8 0, .int .u8 0, .int .i16 (-4), .int .u8 0]] w fun r w' => r = .returned (.tuple #[.int .u32 4262538791, .int .i64 0]) ∧ Below w.heap.size w w')) (v3 : Nat) (K3 : Box (∀ w, T w → Calls Tryd.prog 9 #[.agg #[.int .u8 7, .int .u8 0, .int .u8 0, .int .u8 0, .int .u8 0, .int .u8 0, .int .u8 0, .int .u8 0, .int .u8 5, .int .i16 0, .int .u8 0]] w fun r w' => r = .returned (.tuple #[.int .u32 (v3 : Nat), .int .i64 260]) ∧ Below w.heap.size w w')) (K4 : Box (∀ w, T w → Calls Tryd.prog 11 #[.agg #[.int .u8 23, .int .u8 3, .int .u8 0, .int .u8 0, .int .u8 0, .int .u8 0, .int .u8 0, .int .u8 0, .int .u8 0, .int .i16 0, .int .u8 0]] w fun r w' => r = .returned (.bool false) ∧ Below w.heap.size w w')) (w : World) (hT : T w) : Calls Tryd.prog 13 #[] w fun r w' => r = .returned (.bool true) ∧ Below w.heap.size w w' := by
  have FF := box hT
  clear hT
  have B0 : Below w.heap.size w w := (Below.refl _ _)
  go_enter Tryd.func13, Tryd.ntmps13
  go_wp2_with fail
  refine (K1.out _ (FB.out FF.out B0)).mono ?_
  rintro r w1 ⟨rfl, b1⟩
  have B1 : Below w.heap.size w w1 := btr B0 b1
  clear b1 B0 
  go_wp2_with fail
  refine (K2.out _ (FB.out FF.out B1)).mono ?_
  rintro r w2 ⟨rfl, b2⟩
  have B2 : Below w.heap.size w w2 := btr B1 b2
  clear b2 B1 
  go_wp2_with fail
  refine (K3.out _ (FB.out FF.out B2)).mono ?_
  rintro r w3 ⟨rfl, b3⟩
  have B3 : Below w.heap.size w w3 := btr B2 b3
  clear b3 B2 
  go_wp2_with fail
  refine (K4.out _ (FB.out FF.out B3)).mono ?_
  rintro r w4 ⟨rfl, b4⟩
  have B4 : Below w.heap.size w w4 := btr B3 b4
  clear b4 B3 
  go_wp2
  go_ret
  exact ⟨rfl, B4⟩
end Go.Proofs.YtaoccmopfflkmaaDoor
namespace Go.Proofs.YtaoccmopfflkmaaDoor
set_option maxRecDepth 100000
set_option maxHeartbeats 40000000
set_option maxRecDepth 100000
open Go.RowKit WMath
set_option linter.unusedSimpArgs false
set_option linter.unusedVariables false
def CAt (W : World) (g o : Nat) (x : In) : Prop := W.cell? ⟨g, o, none⟩ = some (.int .u8 (x.op : Nat)) ∧ W.cell? ⟨g, o + 1, none⟩ = some (.int .u8 (x.form : Nat)) ∧ W.cell? ⟨g, o + 2, none⟩ = some (.int .u8 (x.frm : Nat)) ∧ W.cell? ⟨g, o + 3, none⟩ = some (.int .u8 (x.kind : Nat)) ∧ W.cell? ⟨g, o + 4, none⟩ = some (.int .u8 (x.rd : Nat)) ∧ W.cell? ⟨g, o + 5, none⟩ = some (.int .u8 (x.rs1 : Nat)) ∧ W.cell? ⟨g, o + 6, none⟩ = some (.int .u8 (x.rs2 : Nat)) ∧ W.cell? ⟨g, o + 7, none⟩ = some (.int .u8 (x.rs3 : Nat)) ∧ W.cell? ⟨g, o + 8, none⟩ = some (.int .u8 (x.rm : Nat)) ∧ W.cell? ⟨g, o + 9, none⟩ = some (.int .i16 x.imm) ∧ W.cell? ⟨g, o + 10, none⟩ = some (.int .u8 (x.csr : Nat))
theorem cat_of {W : World} {g o : Nat} {x : In} (h : ∀ j u, (inC x)[j]? = some u → W.cell? ⟨g, o + j, none⟩ = some u) : CAt W g o x := ⟨h 0 _ rfl, h 1 _ rfl, h 2 _ rfl, h 3 _ rfl, h 4 _ rfl, h 5 _ rfl, h 6 _ rfl, h 7 _ rfl, h 8 _ rfl, h 9 _ rfl, h 10 _ rfl⟩
theorem CAt.below {W V : World} {g o : Nat} {x : In} (h : CAt W g o x) (b : Below W.heap.size W V) : CAt V g o x := by
  obtain ⟨h0, h1, h2, h3, h4, h5, h6, h7, h8, h9, h10⟩ := h
  exact ⟨cellB b h0, cellB b h1, cellB b h2, cellB b h3, cellB b h4, cellB b h5, cellB b h6, cellB b h7, cellB b h8, cellB b h9, cellB b h10⟩
def SI (l : List In) (L : Nat) (s : Value) (W : World) : Prop := ∃ g z c, L ≤ c ∧ s = .slice (some ⟨g, z, none⟩) L c ∧ ∀ V, Below W.heap.size W V → ∀ (k : Nat) (x : In), l[k]? = some x → CAt V g (z + k * 11) x
def insI (l : List In) : List Value := l.flatMap fun x => (inC x).toList
theorem insI_len (l : List In) : (insI l).length = l.length * 11 := by
  induction l with
  | nil => rfl
  | cons a t ih => simp only [insI, List.flatMap_cons, List.length_append, List.length_cons] at *; rw [ih]; simp [inC]; omega
theorem insI_at (l : List In) (k j : Nat) (x : In) (h : l[k]? = some x) (hj : j < 11) : (insI l)[k * 11 + j]? = (inC x)[j]? := by
  unfold insI
  rw [flat_at (fun x => (inC x).toList) 11 (fun _ => rfl) l k j x h hj, Array.getElem?_toList]
theorem insI_get (l : List In) (j : Nat) (u : Value) (h : (insI l)[j]? = some u) : ∃ x, l[j / 11]? = some x ∧ (inC x)[j % 11]? = some u := by
  have hl := insI_len l
  have hj := (List.getElem?_eq_some_iff.1 h).1
  obtain ⟨x, hx⟩ : ∃ x, l[j / 11]? = some x := ⟨_, List.getElem?_eq_getElem (by omega)⟩
  have q := insI_at l (j / 11) (j % 11) x hx (Nat.mod_lt _ (by decide))
  rw [show j / 11 * 11 + j % 11 = j by omega, h] at q
  exact ⟨x, hx, q.symm⟩
theorem insI_one (l : List In) : ∀ u ∈ insI l, u.oneCell' = true := fun u hu => by
  obtain ⟨x, _, h⟩ := List.mem_flatMap.1 hu
  exact in_one x u h
theorem cat_get {W : World} {g o : Nat} {x : In} (h : CAt W g o x) (j : Nat) (u : Value) (hj : (inC x)[j]? = some u) : W.cell? ⟨g, o + j, none⟩ = some u := by
  obtain ⟨h0, h1, h2, h3, h4, h5, h6, h7, h8, h9, h10⟩ := h
  have hl : j < 11 := (Array.getElem?_eq_some_iff.1 hj).1
  rcases (by omega : j = 0 ∨ j = 1 ∨ j = 2 ∨ j = 3 ∨ j = 4 ∨ j = 5 ∨ j = 6 ∨ j = 7 ∨ j = 8 ∨ j = 9 ∨ j = 10) with rfl | rfl | rfl | rfl | rfl | rfl | rfl | rfl | rfl | rfl | rfl <;> (cases hj; assumption)
theorem own_insts {wb : World} {b L : Nat} {l : List In} {y : In} {v : Value} (hl : l.length = L) (h : wb.ownsRow b 27 11 v (L + 1) (insI l ++ (inC y).toList)) : ∃ gi ci, v = .slice (some ⟨gi, 0, none⟩) (L + 1) ci ∧ b ≤ gi ∧ L + 1 ≤ ci ∧ Box (∀ W, Below wb.heap.size wb W → (∀ (k : Nat) (x : In), l[k]? = some x → CAt W gi (0 + k * 11) x) ∧ CAt W gi (L * 11) y) := by
  obtain ⟨_, ⟨_, h0⟩ | ⟨gi, ci, cur, rfl, hb, row, hc, _, hsz, ht⟩⟩ := h
  · omega
  refine ⟨gi, ci, rfl, hb, hc, box (fun W bW => ?_)⟩
  have r2 := heap_of bW _ _ _ row
  have len := insI_len l
  have tk : ∀ j v, j < (L + 1) * 11 → (insI l ++ (inC y).toList)[j]? = some v → cur[j]? = some v := fun j v hj hv => by
    rw [← ht, List.getElem?_take_of_lt (by omega)] at hv
    rw [← Array.getElem?_toList]
    exact hv
  refine ⟨fun k x hx => cat_of (fun j u hu => ?_), cat_of (fun j u hu => ?_)⟩
  · have kl : k < L := by rw [← hl]; exact (List.getElem?_eq_some_iff.1 hx).1
    have hj : j < 11 := (Array.getElem?_eq_some_iff.1 hu).1
    rw [Nat.zero_add]
    refine (cell_of_row W gi (k * 11 + j) _ _ _ r2).trans (tk _ _ (by omega) ?_)
    rw [List.getElem?_append_left (by omega), insI_at l k j x hx hj, hu]
  · have hj : j < 11 := (Array.getElem?_eq_some_iff.1 hu).1
    refine (cell_of_row W gi (L * 11 + j) _ _ _ r2).trans (tk _ _ (by omega) ?_)
    rw [List.getElem?_append_right (by omega), show L * 11 + j - (insI l).length = j by omega, Array.getElem?_toList, hu]
set_option maxRecDepth 100000 in
set_option maxHeartbeats 8000000 in
theorem el_y {T : World → Prop} (FB : Box (∀ {w w' : World}, T w → Below w.heap.size w w' → T w')) (l : List In) (L : Nat) (w : World) (g z c : Nat) (hl : l.length = L) (q1 : L ≤ 2000) (hc : L ≤ c)
    (HC : Box (∀ W, Below w.heap.size w W → ∀ (k : Nat) (x : In), l[k]? = some x → CAt W g (z + k * 11) x))
    (RD : Box (∀ (k : Nat) (x : In), l[k]? = some x → ∀ w, Calls Tryd.prog 10 #[.agg (inC x)] w fun r w' => r = .returned (.tuple #[.int .u32 ((enR x).1 : Nat), .int .i64 (enR x).2]) ∧ Below w.heap.size w w'))
    (HD : Box (∀ (k : Nat) (x : In), l[k]? = some x → (enR x).2 = 0 ∧ (enR x).1 < 4294967296))
    (KA : Box (∀ (W : World) (s1 : Value), T W → SI l L s1 W → Calls Tryd.prog 14 #[s1] W fun r w' => ∃ (gs cs : Nat) (cur : Array Value), r = .returned (.tuple #[.slice (some ⟨gs, 0, none⟩) L cs, .int .i64 (L : Nat), .int .i64 0]) ∧ L ≤ cs ∧ w'.heap[gs]? = some (.cells cur 28) ∧ Box (∀ (k : Nat) (x : In), l[k]? = some x → cur[k]? = some (.int .u32 ((enR x).1 : Nat))) ∧ Below W.heap.size W w'))
    (KB : Box (∀ (W : World) (s1 : Value), T W → SI l L s1 W → Calls Tryd.prog 15 #[s1] W fun r w' => ∃ (gs cs : Nat) (cur : Array Value), r = .returned (.tuple #[.slice (some ⟨gs, 0, none⟩) (L * 4) cs, .int .i64 (L : Nat), .int .i64 0]) ∧ L * 4 ≤ cs ∧ w'.heap[gs]? = some (.cells cur 5) ∧ Box (∀ (k : Nat) (x : In), l[k]? = some x → ∀ j, j < 4 → cur[k * 4 + j]? = some (.int .u8 ((enR x).1 / 256 ^ j % 256 : Nat))) ∧ Below W.heap.size W w'))
    (KL : Box (∀ w, T w → Calls Tryd.prog 13 #[] w fun r w' => r = .returned (.bool true) ∧ Below w.heap.size w w')) (hT : T w) : Calls Tryd.prog 4 #[.slice (some ⟨g, z, none⟩) L c] w fun r w' => r = .returned (.bool true) ∧ Below w.heap.size w w' := by
  have FF := box hT
  have HL := box hl
  clear hT hl
  have hin := inC_new
  have he := eqin
  have hfo := inC_fold
  have d1 : decide ((2000 : Int) < (L : Int)) = false := decide_eq_false (by omega)
  have hlen : (insI l).length = L * 11 := by rw [insI_len, HL.out]
  have info : (Tryd.prog.info? 27).map (fun i => (i.zero, i.size, i.bytes)) = some (some (.agg #[.int .u8 0, .int .u8 0, .int .u8 0, .int .u8 0, .int .u8 0, .int .u8 0, .int .u8 0, .int .u8 0, .int .u8 0, .int .i16 0, .int .u8 0]), 11, 14) := by kernel_rfl
  obtain ⟨i0, hi, hz0, hz1, hz2⟩ := info_parts info
  go_enter Tryd.func4, Tryd.ntmps4
  go_wp2_with (at_builtin; refine wpList_append_own _ rfl (.const (.slice none 0 0)) _ 34 rfl w.heap.size 27 i0 (.agg #[.int .u8 0, .int .u8 0, .int .u8 0, .int .u8 0, .int .u8 0, .int .u8 0, .int .u8 0, .int .u8 0, .int .u8 0, .int .i16 0, .int .u8 0]) 11 14 Tryd.underlying34 hi hz0 hz1 hz2 rfl (by decide) (.slice none 0 0) 0 [] rfl (World.ownsRow_nil _ _ _ _) ⟨g, z, none⟩ L c (insI l) rfl hlen ?c1 (insI_one l) ?b1 ?b2 (Nat.le_refl _) ?grow)
  case c1 =>
    intro j u hj
    obtain ⟨x, hx, hu⟩ := insI_get l j u hj
    rw [show ({ block := g, off := z, spot := none } : Addr).add j = ⟨g, z + j, none⟩ by simp [Addr.add], show z + j = z + j / 11 * 11 + j % 11 by omega]
    exact cat_get (HC.out w (Below.refl _ _) _ x hx) _ _ hu
  case b1 => unfold maxLen; omega
  case b2 => omega
  case grow =>
    intro v1 wa hown1 hgrow1 hnil1
    have ba : Below w.heap.size w wa := (Below.refl _ _).grown hgrow1 (Nat.le_refl _) (fun k h => by cases h)
    clear hgrow1 hnil1
    have h77 : #[Value.int .u8 77, .int .u8 0, .int .u8 0, .int .u8 0, .int .u8 0, .int .u8 0, .int .u8 0, .int .u8 0, .int .u8 0, .int .i16 0, .int .u8 0] = inC ⟨77, 0, 0, 0, 0, 0, 0, 0, 0, 0, 0⟩ := rfl
    go_wp2_with (first | (refine wpl_one25 rfl _ rfl _ rfl ⟨77, 0, 0, 0, 0, 0, 0, 0, 0, 0, 0⟩ rfl ?_) | (at_builtin; refine wpList_append_own _ rfl _ _ 34 rfl w.heap.size 27 i0 (.agg #[.int .u8 0, .int .u8 0, .int .u8 0, .int .u8 0, .int .u8 0, .int .u8 0, .int .u8 0, .int .u8 0, .int .u8 0, .int .i16 0, .int .u8 0]) 11 14 Tryd.underlying34 hi hz0 hz1 hz2 rfl (by decide) v1 L (insI l) rfl (hown1.alloc _) ⟨wa.heap.size, 0, none⟩ 1 1 ((inC ⟨77, 0, 0, 0, 0, 0, 0, 0, 0, 0, 0⟩).toList) rfl rfl (new_cells24 _ (inC ⟨77, 0, 0, 0, 0, 0, 0, 0, 0, 0, 0⟩) _) (in_one _) (by unfold maxLen; omega) (by omega) (by have := ba.size; simp only [size_al]; omega) ?grow2))
    case grow2 =>
    intro v2 wb hown2 hgrow2 hnil2
    have bb : Below w.heap.size w wb := (ba.alloc ba.size _).grown hgrow2 (by have := ba.size; simp only [size_al]; omega) (fun q hq => (hown1.lt q hq).1)
    obtain ⟨gi, ci, rfl, hgi, hci, HK⟩ := own_insts HL.out hown2
    clear hown1 hown2 hgrow2 hnil2 ba info hi hz0 hz1 hz2 hlen h77
    have hs0 : (0 : Int) ≤ (L : Int) := by omega
    have hs1 : (L : Int) ≤ (ci : Int) := by omega
    have hs2 : ((L : Int)).toNat = L := by omega
    have SS : ∀ W, Below wb.heap.size wb W → SI l L (.slice (some ⟨gi, 0, none⟩) L ci) W := fun W bW => ⟨gi, 0, ci, by omega, rfl, fun V bV k x hx => (HK.out V (btr bW bV)).1 k x hx⟩
    go_wp2_with fail
    refine (KA.out wb _ (FB.out FF.out bb) (SS _ (Below.refl _ _))).mono ?_
    rintro r w1 ⟨ga, ca, cua, rfl, hca, Ra, HA, b1⟩
    go_wp2_with fail
    refine (KB.out w1 _ (FB.out FF.out (btr bb b1)) (SS _ b1)).mono ?_
    rintro r w2 ⟨gb, cb, cub, rfl, hcb, Rb, HB, b2⟩
    have B2 := btr b1 b2
    have Ra2 := heap_of b2 _ _ _ Ra
    clear Ra b1 b2 hs0 hs1 hs2
    go_wp2
    go_loopw [10] (fun iv wr => ∃ k : Nat, k ≤ L ∧ iv = .int .i64 k ∧ Below wb.heap.size wb wr ∧ wr.heap[ga]? = some (.cells cua 28) ∧ wr.heap[gb]? = some (.cells cub 5)) (fun iv _ => L - (intOf iv).toNat)
    case atStart => exact ⟨0, by omega, rfl, B2, Ra2, Rb⟩
    case round =>
      clear B2 Ra2 Rb
      obtain ⟨k, hk, rfl, B3, Ra, Rb⟩ := hrel
      by_cases hlt : k < L
      · obtain ⟨x, hx⟩ : ∃ x, l[k]? = some x := ⟨_, List.getElem?_eq_getElem (by rw [HL.out]; exact hlt)⟩
        obtain ⟨c0, c1, c2, c3, c4, c5, c6, c7, c8, c9, c10⟩ := HC.out _ (btr bb B3) k x hx
        have K1 := RD.out k x hx wr
        obtain ⟨hd, hlt32⟩ := HD.out k x hx
        have hca1 := HA.out k x hx
        have hcb1 := HB.out k x hx
        have HKk := fun W (bW : Below wb.heap.size wb W) => (HK.out W bW).1 k x hx
        have HCk := fun W (bW : Below wb.heap.size wb W) => HC.out W (btr bb bW) k x hx
        obtain ⟨V, hV⟩ : ∃ V, (enR x).1 = V := ⟨_, rfl⟩
        rw [hV] at K1 hca1 hcb1 hlt32
        rw [hd] at K1
        have e0 : inCE x x = true := by rw [inCE_is]; exact decide_eq_true rfl
        have dl : decide ((k : Int) < (L : Int)) = true := decide_eq_true (by omega)
        have hb0 : (0 : Int) ≤ (k : Int) := by omega
        have hb1 : (k : Int) < (L : Int) := by omega
        have hb2 : (k : Int) < ((L + 1 : Nat) : Int) := by omega
        have hb3 : (k : Int) < (L : Int) + 1 := by omega
        go_wp2_with fail
        refine K1.mono ?_
        rintro r w3 ⟨rfl, b3⟩
        have B4 := btr B3 b3
        have Ra4 := heap_of b3 _ _ _ Ra
        have Rb4 := heap_of b3 _ _ _ Rb
        clear c0 c1 c2 c3 c4 c5 c6 c7 c8 c9 c10 K1 B3 Ra Rb b3
        obtain ⟨c0, c1, c2, c3, c4, c5, c6, c7, c8, c9, c10⟩ := HCk _ B4
        obtain ⟨m0, m1, m2, m3, m4, m5, m6, m7, m8, m9, m10⟩ := HKk _ B4
        have a0 := (cell_of_row _ ga k _ _ _ Ra4).trans hca1
        simp only [Nat.zero_add] at m0 m1 m2 m3 m4 m5 m6 m7 m8 m9 m10
        clear HKk HCk hx
        go_wp2_with fail
        go_quiet (fail)
        obtain ⟨w4, hw, B5, hh⟩ := quiet_world B4 nq
        rw [hw]
        have Ra5 : w4.heap[ga]? = some (.cells cua 28) := by rw [hh]; exact Ra4
        have Rb5 : w4.heap[gb]? = some (.cells cub 5) := by rw [hh]; exact Rb4
        clear hw hh B4 Ra4 Rb4 a0 c0 c1 c2 c3 c4 c5 c6 c7 c8 c9 c10 m0 m1 m2 m3 m4 m5 m6 m7 m8 m9 m10
        go_wp2_with fail
        obtain ⟨n, hn⟩ : ∃ n : Nat, k * 4 = n := ⟨_, rfl⟩
        have HN := box hn
        have m1 : (4 : Int) * (k : Int) = (n : Int) := by omega
        have m2 : IntKind.i64.wrap (4 * (k : Int)) = (n : Int) := by rw [IntKind.wrap_i64]; omega
        have v0 : w4.cell? ⟨gb, n, none⟩ = some (.int .u8 ((V / 256 ^ 0 % 256 : Nat) : Int)) := (cell_of_row _ gb (n) _ _ _ Rb5).trans (by rw [← hn]; exact hcb1 0 (by decide))
        have v1 : w4.cell? ⟨gb, n + 1, none⟩ = some (.int .u8 ((V / 256 ^ 1 % 256 : Nat) : Int)) := (cell_of_row _ gb (n + 1) _ _ _ Rb5).trans (by rw [← hn]; exact hcb1 1 (by decide))
        have v2 : w4.cell? ⟨gb, n + 2, none⟩ = some (.int .u8 ((V / 256 ^ 2 % 256 : Nat) : Int)) := (cell_of_row _ gb (n + 2) _ _ _ Rb5).trans (by rw [← hn]; exact hcb1 2 (by decide))
        have v3 : w4.cell? ⟨gb, n + 3, none⟩ = some (.int .u8 ((V / 256 ^ 3 % 256 : Nat) : Int)) := (cell_of_row _ gb (n + 3) _ _ _ Rb5).trans (by rw [← hn]; exact hcb1 3 (by decide))
        refine wp_loop_rounds 5 ?_
        rw [rounds_succ]
        go_wp2_with fail
        go_quiet (fail)
        obtain ⟨w5, hw, B6, hh⟩ := quiet_world B5 nq
        rw [hw]
        have Ra6 : w5.heap[ga]? = some (.cells cua 28) := by rw [hh]; exact Ra5
        have Rb6 : w5.heap[gb]? = some (.cells cub 5) := by rw [hh]; exact Rb5
        have y1 : w5.cell? ⟨gb, n + 1, none⟩ = some (.int .u8 ((V / 256 ^ 1 % 256 : Nat) : Int)) := (cell_of_row _ gb (n + 1) _ _ _ Rb6).trans (by rw [← HN.out]; exact hcb1 1 (by decide))
        have y2 : w5.cell? ⟨gb, n + 2, none⟩ = some (.int .u8 ((V / 256 ^ 2 % 256 : Nat) : Int)) := (cell_of_row _ gb (n + 2) _ _ _ Rb6).trans (by rw [← HN.out]; exact hcb1 2 (by decide))
        have y3 : w5.cell? ⟨gb, n + 3, none⟩ = some (.int .u8 ((V / 256 ^ 3 % 256 : Nat) : Int)) := (cell_of_row _ gb (n + 3) _ _ _ Rb6).trans (by rw [← HN.out]; exact hcb1 3 (by decide))
        clear hw hh B5 Ra5 Rb5 v0 v1 v2 v3
        have v1 := y1
        clear y1
        have v2 := y2
        clear y2
        have v3 := y3
        clear y3
        go_wp2_with fail
        rw [rounds_succ]
        go_wp2_with fail
        go_quiet (fail)
        obtain ⟨w6, hw, B7, hh⟩ := quiet_world B6 nq
        rw [hw]
        have Ra7 : w6.heap[ga]? = some (.cells cua 28) := by rw [hh]; exact Ra6
        have Rb7 : w6.heap[gb]? = some (.cells cub 5) := by rw [hh]; exact Rb6
        have y2 : w6.cell? ⟨gb, n + 2, none⟩ = some (.int .u8 ((V / 256 ^ 2 % 256 : Nat) : Int)) := (cell_of_row _ gb (n + 2) _ _ _ Rb7).trans (by rw [← HN.out]; exact hcb1 2 (by decide))
        have y3 : w6.cell? ⟨gb, n + 3, none⟩ = some (.int .u8 ((V / 256 ^ 3 % 256 : Nat) : Int)) := (cell_of_row _ gb (n + 3) _ _ _ Rb7).trans (by rw [← HN.out]; exact hcb1 3 (by decide))
        clear hw hh B6 Ra6 Rb6 v1 v2 v3
        have v2 := y2
        clear y2
        have v3 := y3
        clear y3
        go_wp2_with fail
        rw [rounds_succ]
        go_wp2_with fail
        go_quiet (fail)
        obtain ⟨w7, hw, B8, hh⟩ := quiet_world B7 nq
        rw [hw]
        have Ra8 : w7.heap[ga]? = some (.cells cua 28) := by rw [hh]; exact Ra7
        have Rb8 : w7.heap[gb]? = some (.cells cub 5) := by rw [hh]; exact Rb7
        have y3 : w7.cell? ⟨gb, n + 3, none⟩ = some (.int .u8 ((V / 256 ^ 3 % 256 : Nat) : Int)) := (cell_of_row _ gb (n + 3) _ _ _ Rb8).trans (by rw [← HN.out]; exact hcb1 3 (by decide))
        clear hw hh B7 Ra7 Rb7 v2 v3
        have v3 := y3
        clear y3
        go_wp2_with fail
        rw [rounds_succ]
        go_wp2_with fail
        go_quiet (fail)
        obtain ⟨w8, hw, B9, hh⟩ := quiet_world B8 nq
        rw [hw]
        have Ra9 : w8.heap[ga]? = some (.cells cua 28) := by rw [hh]; exact Ra8
        have Rb9 : w8.heap[gb]? = some (.cells cub 5) := by rw [hh]; exact Rb8
        clear hw hh B8 Ra8 Rb8 v3
        go_wp2_with fail
        rw [rounds_succ]
        go_wp2
        go_roundw
        case rel => exact ⟨k + 1, by omega, by first | rfl | (congr 1; done) | go_num, B9, Ra9, Rb9⟩
        case measure => simp [intOf] <;> omega
      · obtain rfl : k = L := by omega
        have dl : decide ((k : Int) < (k : Int)) = false := by rw [decide_eq_false_iff_not]; omega
        have a0 : wr.cell? ⟨gi, k * 11, none⟩ = some (.int .u8 77) := (HK.out _ B3).2.1
        have m1 : (4 : Int) * (k : Int) = ((k * 4 : Nat) : Int) := by omega
        have m2 : IntKind.i64.wrap (4 * (k : Int)) = ((k * 4 : Nat) : Int) := by rw [IntKind.wrap_i64]; omega
        have hb1 : (k : Int) < ((k + 1 : Nat) : Int) := by omega
        have hb2 : (k : Int) < (k : Int) + 1 := by omega
        have hb0 : (0 : Int) ≤ (k : Int) := by omega
        go_wp2_with fail
        refine (KL.out _ (FB.out FF.out (btr bb B3))).mono ?_
        rintro r w5 ⟨rfl, b5⟩
        go_wp2
        go_ret
        exact ⟨rfl, btr (btr bb B3) b5⟩
set_option maxRecDepth 100000 in
set_option maxHeartbeats 8000000 in
theorem el_n {T : World → Prop} (FB : Box (∀ {w w' : World}, T w → Below w.heap.size w w' → T w')) (l : List In) (L : Nat) (w : World) (g z c : Nat) (hl : l.length = L) (q1 : L ≤ 2000) (hc : L ≤ c)
    (HC : Box (∀ W, Below w.heap.size w W → ∀ (k : Nat) (x : In), l[k]? = some x → CAt W g (z + k * 11) x))
    (RD : Box (∀ (k : Nat) (x : In), l[k]? = some x → ∀ w, Calls Tryd.prog 10 #[.agg (inC x)] w fun r w' => r = .returned (.tuple #[.int .u32 ((enR x).1 : Nat), .int .i64 (enR x).2]) ∧ Below w.heap.size w w'))
    (m : Nat) (hm : m < L) (HD : Box (∀ (k : Nat) (x : In), l[k]? = some x → k < m → (enR x).2 = 0)) (HB : Box (∀ (x : In), l[m]? = some x → (enR x).2 = 260))
    (KA : Box (∀ (W : World) (s1 : Value), T W → SI l L s1 W → Calls Tryd.prog 14 #[s1] W fun r w' => (∃ (os : Option Addr) (cs : Nat), r = .returned (.tuple #[.slice os 0 cs, .int .i64 (m : Nat), .int .i64 260])) ∧ Below W.heap.size W w'))
    (KB : Box (∀ (W : World) (s1 : Value), T W → SI l L s1 W → Calls Tryd.prog 15 #[s1] W fun r w' => (∃ (os : Option Addr) (cs : Nat), r = .returned (.tuple #[.slice os 0 cs, .int .i64 (m : Nat), .int .i64 260])) ∧ Below W.heap.size W w'))
    (KL : Box (∀ w, T w → Calls Tryd.prog 13 #[] w fun r w' => r = .returned (.bool true) ∧ Below w.heap.size w w')) (hT : T w) : Calls Tryd.prog 4 #[.slice (some ⟨g, z, none⟩) L c] w fun r w' => r = .returned (.bool true) ∧ Below w.heap.size w w' := by
  have FF := box hT
  have HL := box hl
  clear hT hl
  have hin := inC_new
  have he := eqin
  have hfo := inC_fold
  have d1 : decide ((2000 : Int) < (L : Int)) = false := decide_eq_false (by omega)
  have hlen : (insI l).length = L * 11 := by rw [insI_len, HL.out]
  have info : (Tryd.prog.info? 27).map (fun i => (i.zero, i.size, i.bytes)) = some (some (.agg #[.int .u8 0, .int .u8 0, .int .u8 0, .int .u8 0, .int .u8 0, .int .u8 0, .int .u8 0, .int .u8 0, .int .u8 0, .int .i16 0, .int .u8 0]), 11, 14) := by kernel_rfl
  obtain ⟨i0, hi, hz0, hz1, hz2⟩ := info_parts info
  go_enter Tryd.func4, Tryd.ntmps4
  go_wp2_with (at_builtin; refine wpList_append_own _ rfl (.const (.slice none 0 0)) _ 34 rfl w.heap.size 27 i0 (.agg #[.int .u8 0, .int .u8 0, .int .u8 0, .int .u8 0, .int .u8 0, .int .u8 0, .int .u8 0, .int .u8 0, .int .u8 0, .int .i16 0, .int .u8 0]) 11 14 Tryd.underlying34 hi hz0 hz1 hz2 rfl (by decide) (.slice none 0 0) 0 [] rfl (World.ownsRow_nil _ _ _ _) ⟨g, z, none⟩ L c (insI l) rfl hlen ?c1 (insI_one l) ?b1 ?b2 (Nat.le_refl _) ?grow)
  case c1 =>
    intro j u hj
    obtain ⟨x, hx, hu⟩ := insI_get l j u hj
    rw [show ({ block := g, off := z, spot := none } : Addr).add j = ⟨g, z + j, none⟩ by simp [Addr.add], show z + j = z + j / 11 * 11 + j % 11 by omega]
    exact cat_get (HC.out w (Below.refl _ _) _ x hx) _ _ hu
  case b1 => unfold maxLen; omega
  case b2 => omega
  case grow =>
    intro v1 wa hown1 hgrow1 hnil1
    have ba : Below w.heap.size w wa := (Below.refl _ _).grown hgrow1 (Nat.le_refl _) (fun k h => by cases h)
    clear hgrow1 hnil1
    have h77 : #[Value.int .u8 77, .int .u8 0, .int .u8 0, .int .u8 0, .int .u8 0, .int .u8 0, .int .u8 0, .int .u8 0, .int .u8 0, .int .i16 0, .int .u8 0] = inC ⟨77, 0, 0, 0, 0, 0, 0, 0, 0, 0, 0⟩ := rfl
    go_wp2_with (first | (refine wpl_one25 rfl _ rfl _ rfl ⟨77, 0, 0, 0, 0, 0, 0, 0, 0, 0, 0⟩ rfl ?_) | (at_builtin; refine wpList_append_own _ rfl _ _ 34 rfl w.heap.size 27 i0 (.agg #[.int .u8 0, .int .u8 0, .int .u8 0, .int .u8 0, .int .u8 0, .int .u8 0, .int .u8 0, .int .u8 0, .int .u8 0, .int .i16 0, .int .u8 0]) 11 14 Tryd.underlying34 hi hz0 hz1 hz2 rfl (by decide) v1 L (insI l) rfl (hown1.alloc _) ⟨wa.heap.size, 0, none⟩ 1 1 ((inC ⟨77, 0, 0, 0, 0, 0, 0, 0, 0, 0, 0⟩).toList) rfl rfl (new_cells24 _ (inC ⟨77, 0, 0, 0, 0, 0, 0, 0, 0, 0, 0⟩) _) (in_one _) (by unfold maxLen; omega) (by omega) (by have := ba.size; simp only [size_al]; omega) ?grow2))
    case grow2 =>
    intro v2 wb hown2 hgrow2 hnil2
    have bb : Below w.heap.size w wb := (ba.alloc ba.size _).grown hgrow2 (by have := ba.size; simp only [size_al]; omega) (fun q hq => (hown1.lt q hq).1)
    obtain ⟨gi, ci, rfl, hgi, hci, HK⟩ := own_insts HL.out hown2
    clear hown1 hown2 hgrow2 hnil2 ba info hi hz0 hz1 hz2 hlen h77
    have hs0 : (0 : Int) ≤ (L : Int) := by omega
    have hs1 : (L : Int) ≤ (ci : Int) := by omega
    have hs2 : ((L : Int)).toNat = L := by omega
    have SS : ∀ W, Below wb.heap.size wb W → SI l L (.slice (some ⟨gi, 0, none⟩) L ci) W := fun W bW => ⟨gi, 0, ci, by omega, rfl, fun V bV k x hx => (HK.out V (btr bW bV)).1 k x hx⟩
    go_wp2_with fail
    refine (KA.out wb _ (FB.out FF.out bb) (SS _ (Below.refl _ _))).mono ?_
    rintro r w1 ⟨⟨oa, ca, rfl⟩, b1⟩
    go_wp2_with fail
    refine (KB.out w1 _ (FB.out FF.out (btr bb b1)) (SS _ b1)).mono ?_
    rintro r w2 ⟨⟨ob, cb, rfl⟩, b2⟩
    have B2 := btr b1 b2
    clear b1 b2 hs0 hs1 hs2
    go_wp2
    go_loopw [10] (fun iv wr => ∃ k : Nat, k ≤ m ∧ iv = .int .i64 k ∧ Below wb.heap.size wb wr) (fun iv _ => L - (intOf iv).toNat)
    case atStart => exact ⟨0, by omega, rfl, B2⟩
    case round =>
      clear B2
      obtain ⟨k, hk, rfl, B3⟩ := hrel
      obtain ⟨x, hx⟩ : ∃ x, l[k]? = some x := ⟨_, List.getElem?_eq_getElem (by rw [HL.out]; omega)⟩
      obtain ⟨c0, c1, c2, c3, c4, c5, c6, c7, c8, c9, c10⟩ := HC.out _ (btr bb B3) k x hx
      have K1 := RD.out k x hx wr
      have HKk := fun W (bW : Below wb.heap.size wb W) => (HK.out W bW).1 k x hx
      have HCk := fun W (bW : Below wb.heap.size wb W) => HC.out W (btr bb bW) k x hx
      obtain ⟨V, hV⟩ : ∃ V, (enR x).1 = V := ⟨_, rfl⟩
      rw [hV] at K1
      have e0 : inCE x x = true := by rw [inCE_is]; exact decide_eq_true rfl
      have dl : decide ((k : Int) < (L : Int)) = true := decide_eq_true (by omega)
      have hb0 : (0 : Int) ≤ (k : Int) := by omega
      have hb1 : (k : Int) < (L : Int) := by omega
      have hb2 : (k : Int) < ((L + 1 : Nat) : Int) := by omega
      have hb3 : (k : Int) < (L : Int) + 1 := by omega
      by_cases hlt : k < m
      · rw [HD.out k x hx hlt] at K1
        have dn : decide ((k : Int) < (0 : Int)) = false := decide_eq_false (by omega)
        have dn2 : ((k : Int) < (0 : Int)) = False := by simp
        go_wp2_with fail
        refine K1.mono ?_
        rintro r w3 ⟨rfl, b3⟩
        have B4 := btr B3 b3
        clear c0 c1 c2 c3 c4 c5 c6 c7 c8 c9 c10 K1 B3 b3
        obtain ⟨c0, c1, c2, c3, c4, c5, c6, c7, c8, c9, c10⟩ := HCk _ B4
        obtain ⟨m0, m1, m2, m3, m4, m5, m6, m7, m8, m9, m10⟩ := HKk _ B4
        simp only [Nat.zero_add] at m0 m1 m2 m3 m4 m5 m6 m7 m8 m9 m10
        clear HKk HCk hx
        go_wp2_with fail
        go_quiet (fail)
        obtain ⟨w4, hw, B5, hh⟩ := quiet_world B4 nq
        rw [hw]
        clear hw hh B4 c0 c1 c2 c3 c4 c5 c6 c7 c8 c9 c10 m0 m1 m2 m3 m4 m5 m6 m7 m8 m9 m10
        go_wp2_with fail
        obtain ⟨n, hn⟩ : ∃ n : Nat, k * 4 = n := ⟨_, rfl⟩
        have m1 : (4 : Int) * (k : Int) = (n : Int) := by omega
        have m2 : IntKind.i64.wrap (4 * (k : Int)) = (n : Int) := by rw [IntKind.wrap_i64]; omega
        have dm : decide ((n : Int) < (0 : Int)) = false := decide_eq_false (by omega)
        have dm2 : ((n : Int) < (0 : Int)) = False := by simp
        refine wp_loop_rounds 1 ?_
        rw [rounds_succ]
        go_wp2
        go_roundw
        case rel => exact ⟨k + 1, by omega, by first | rfl | (congr 1; done) | go_num, B5⟩
        case measure => simp [intOf] <;> omega
      · obtain rfl : k = m := by omega
        rw [HB.out x hx] at K1
        go_wp2_with fail
        refine K1.mono ?_
        rintro r w3 ⟨rfl, b3⟩
        have B4 := btr B3 b3
        clear HKk HCk c0 c1 c2 c3 c4 c5 c6 c7 c8 c9 c10 K1 hx B3 b3
        go_wp2_with fail
        refine (KL.out _ (FB.out FF.out (btr bb B4))).mono ?_
        rintro r w5 ⟨rfl, b5⟩
        go_wp2
        go_ret
        exact ⟨rfl, btr (btr bb B4) b5⟩
set_option maxRecDepth 100000 in
set_option maxHeartbeats 8000000 in
theorem el_z {T : World → Prop} (FB : Box (∀ {w w' : World}, T w → Below w.heap.size w w' → T w')) (l : List In) (L : Nat) (w : World) (ad : Addr) (c : Nat) (hl : l.length = L) (q1 : L ≤ 2000) (hc : L ≤ c) (h0 : L = 0)
    (KA : Box (∀ (W : World) (s1 : Value), T W → SI l L s1 W → Calls Tryd.prog 14 #[s1] W fun r w' => (∃ (os : Option Addr) (cs : Nat), r = .returned (.tuple #[.slice os 0 cs, .int .i64 (0), .int .i64 0])) ∧ Below W.heap.size W w'))
    (KB : Box (∀ (W : World) (s1 : Value), T W → SI l L s1 W → Calls Tryd.prog 15 #[s1] W fun r w' => (∃ (os : Option Addr) (cs : Nat), r = .returned (.tuple #[.slice os 0 cs, .int .i64 (0), .int .i64 0])) ∧ Below W.heap.size W w'))
    (KL : Box (∀ w, T w → Calls Tryd.prog 13 #[] w fun r w' => r = .returned (.bool true) ∧ Below w.heap.size w w')) (hT : T w) : Calls Tryd.prog 4 #[.slice (some ad) L c] w fun r w' => r = .returned (.bool true) ∧ Below w.heap.size w w' := by
  have H0 := box h0
  clear h0
  have FF := box hT
  have HL := box hl
  clear hT hl
  have hin := inC_new
  have he := eqin
  have hfo := inC_fold
  have d1 : decide ((2000 : Int) < (L : Int)) = false := decide_eq_false (by omega)
  have hlen : (insI l).length = L * 11 := by rw [insI_len, HL.out]
  have info : (Tryd.prog.info? 27).map (fun i => (i.zero, i.size, i.bytes)) = some (some (.agg #[.int .u8 0, .int .u8 0, .int .u8 0, .int .u8 0, .int .u8 0, .int .u8 0, .int .u8 0, .int .u8 0, .int .u8 0, .int .i16 0, .int .u8 0]), 11, 14) := by kernel_rfl
  obtain ⟨i0, hi, hz0, hz1, hz2⟩ := info_parts info
  go_enter Tryd.func4, Tryd.ntmps4
  go_wp2_with (at_builtin; refine wpList_append_own _ rfl (.const (.slice none 0 0)) _ 34 rfl w.heap.size 27 i0 (.agg #[.int .u8 0, .int .u8 0, .int .u8 0, .int .u8 0, .int .u8 0, .int .u8 0, .int .u8 0, .int .u8 0, .int .u8 0, .int .i16 0, .int .u8 0]) 11 14 Tryd.underlying34 hi hz0 hz1 hz2 rfl (by decide) (.slice none 0 0) 0 [] rfl (World.ownsRow_nil _ _ _ _) ad L c (insI l) rfl hlen ?c1 (insI_one l) ?b1 ?b2 (Nat.le_refl _) ?grow)
  case c1 =>
    intro j u hj
    have e : l = [] := List.eq_nil_of_length_eq_zero (by have := HL.out; have := H0.out; omega)
    subst e
    simp [insI] at hj
  case b1 => unfold maxLen; omega
  case b2 => omega
  case grow =>
    intro v1 wa hown1 hgrow1 hnil1
    have ba : Below w.heap.size w wa := (Below.refl _ _).grown hgrow1 (Nat.le_refl _) (fun k h => by cases h)
    clear hgrow1 hnil1
    have h77 : #[Value.int .u8 77, .int .u8 0, .int .u8 0, .int .u8 0, .int .u8 0, .int .u8 0, .int .u8 0, .int .u8 0, .int .u8 0, .int .i16 0, .int .u8 0] = inC ⟨77, 0, 0, 0, 0, 0, 0, 0, 0, 0, 0⟩ := rfl
    go_wp2_with (first | (refine wpl_one25 rfl _ rfl _ rfl ⟨77, 0, 0, 0, 0, 0, 0, 0, 0, 0, 0⟩ rfl ?_) | (at_builtin; refine wpList_append_own _ rfl _ _ 34 rfl w.heap.size 27 i0 (.agg #[.int .u8 0, .int .u8 0, .int .u8 0, .int .u8 0, .int .u8 0, .int .u8 0, .int .u8 0, .int .u8 0, .int .u8 0, .int .i16 0, .int .u8 0]) 11 14 Tryd.underlying34 hi hz0 hz1 hz2 rfl (by decide) v1 L (insI l) rfl (hown1.alloc _) ⟨wa.heap.size, 0, none⟩ 1 1 ((inC ⟨77, 0, 0, 0, 0, 0, 0, 0, 0, 0, 0⟩).toList) rfl rfl (new_cells24 _ (inC ⟨77, 0, 0, 0, 0, 0, 0, 0, 0, 0, 0⟩) _) (in_one _) (by unfold maxLen; omega) (by omega) (by have := ba.size; simp only [size_al]; omega) ?grow2))
    case grow2 =>
    intro v2 wb hown2 hgrow2 hnil2
    have bb : Below w.heap.size w wb := (ba.alloc ba.size _).grown hgrow2 (by have := ba.size; simp only [size_al]; omega) (fun q hq => (hown1.lt q hq).1)
    obtain ⟨gi, ci, rfl, hgi, hci, HK⟩ := own_insts HL.out hown2
    clear hown1 hown2 hgrow2 hnil2 ba info hi hz0 hz1 hz2 hlen h77
    have hs0 : (0 : Int) ≤ (L : Int) := by omega
    have hs1 : (L : Int) ≤ (ci : Int) := by omega
    have hs2 : ((L : Int)).toNat = L := by omega
    have SS : ∀ W, Below wb.heap.size wb W → SI l L (.slice (some ⟨gi, 0, none⟩) L ci) W := fun W bW => ⟨gi, 0, ci, by omega, rfl, fun V bV k x hx => (HK.out V (btr bW bV)).1 k x hx⟩
    go_wp2_with fail
    refine (KA.out wb _ (FB.out FF.out bb) (SS _ (Below.refl _ _))).mono ?_
    rintro r w1 ⟨⟨oa, ca, rfl⟩, b1⟩
    go_wp2_with fail
    refine (KB.out w1 _ (FB.out FF.out (btr bb b1)) (SS _ b1)).mono ?_
    rintro r w2 ⟨⟨ob, cb, rfl⟩, b2⟩
    have B2 := btr b1 b2
    clear b1 b2 hs0 hs1 hs2
    go_wp2
    go_loopw [10] (fun iv wr => iv = .int .i64 0 ∧ Below wb.heap.size wb wr) (fun _ _ => 0)
    case atStart => exact ⟨rfl, B2⟩
    case round =>
      clear B2
      obtain ⟨rfl, B3⟩ := hrel
      have h0 := H0.out
      have a0 : wr.cell? ⟨gi, L * 11, none⟩ = some (.int .u8 77) := (HK.out _ B3).2.1
      have dl : decide ((0 : Int) < (L : Int)) = false := decide_eq_false (by omega)
      have e1 : ((0 : Int) == (L : Int)) = true := by rw [beq_iff_eq]; omega
      have e2 : ((0 : Int) = (L : Int)) = True := by simp; omega
      have dl2 : decide (0 < L) = false := decide_eq_false (by omega)
      have dl3 : (0 < L) = False := by simp; omega
      have hb1 : (L : Int) < ((L + 1 : Nat) : Int) := by omega
      have hb2 : (L : Int) < (L : Int) + 1 := by omega
      have hb0 : (0 : Int) ≤ (L : Int) := by omega
      have m2 : IntKind.i64.wrap (4 * (L : Int)) = 0 := by rw [IntKind.wrap_i64]; omega
      have m1 : (4 : Int) * (L : Int) = 0 := by omega
      clear h0
      go_wp2_with fail
      refine (KL.out _ (FB.out FF.out (btr bb B3))).mono ?_
      rintro r w5 ⟨rfl, b5⟩
      go_wp2
      go_ret
      exact ⟨rfl, btr (btr bb B3) b5⟩
set_option maxRecDepth 100000 in
set_option maxHeartbeats 8000000 in
theorem el_0 {T : World → Prop} (FB : Box (∀ {w w' : World}, T w → Below w.heap.size w w' → T w')) (KA : Box (∀ (W : World) (s1 : Value), T W → SI [] 0 s1 W → Calls Tryd.prog 14 #[s1] W fun r w' => (∃ (os : Option Addr) (cs : Nat), r = .returned (.tuple #[.slice os 0 cs, .int .i64 (0), .int .i64 0])) ∧ Below W.heap.size W w'))
    (KB : Box (∀ (W : World) (s1 : Value), T W → SI [] 0 s1 W → Calls Tryd.prog 15 #[s1] W fun r w' => (∃ (os : Option Addr) (cs : Nat), r = .returned (.tuple #[.slice os 0 cs, .int .i64 (0), .int .i64 0])) ∧ Below W.heap.size W w'))
    (KL : Box (∀ w, T w → Calls Tryd.prog 13 #[] w fun r w' => r = .returned (.bool true) ∧ Below w.heap.size w w')) (w : World) (hT : T w) : Calls Tryd.prog 4 #[.slice none 0 0] w fun r w' => r = .returned (.bool true) ∧ Below w.heap.size w w' := by
  have FF := box hT
  clear hT
  have hin := inC_new
  have info : (Tryd.prog.info? 27).map (fun i => (i.zero, i.size, i.bytes)) = some (some (.agg #[.int .u8 0, .int .u8 0, .int .u8 0, .int .u8 0, .int .u8 0, .int .u8 0, .int .u8 0, .int .u8 0, .int .u8 0, .int .i16 0, .int .u8 0]), 11, 14) := by kernel_rfl
  obtain ⟨i0, hi, hz0, hz1, hz2⟩ := info_parts info
  have h77 : #[Value.int .u8 77, .int .u8 0, .int .u8 0, .int .u8 0, .int .u8 0, .int .u8 0, .int .u8 0, .int .u8 0, .int .u8 0, .int .i16 0, .int .u8 0] = inC ⟨77, 0, 0, 0, 0, 0, 0, 0, 0, 0, 0⟩ := rfl
  go_enter Tryd.func4, Tryd.ntmps4
  go_wp2_with (first | (refine wpl_one25 rfl _ rfl _ rfl ⟨77, 0, 0, 0, 0, 0, 0, 0, 0, 0, 0⟩ rfl ?_) | (at_builtin; refine wpList_append_own _ rfl _ _ 34 rfl w.heap.size 27 i0 (.agg #[.int .u8 0, .int .u8 0, .int .u8 0, .int .u8 0, .int .u8 0, .int .u8 0, .int .u8 0, .int .u8 0, .int .u8 0, .int .i16 0, .int .u8 0]) 11 14 Tryd.underlying34 hi hz0 hz1 hz2 rfl (by decide) (.slice none 0 0) 0 [] rfl (World.ownsRow_nil _ _ _ _) ⟨w.heap.size, 0, none⟩ 1 1 ((inC ⟨77, 0, 0, 0, 0, 0, 0, 0, 0, 0, 0⟩).toList) rfl rfl (new_cells24 _ (inC ⟨77, 0, 0, 0, 0, 0, 0, 0, 0, 0, 0⟩) _) (in_one _) (by unfold maxLen; omega) (by omega) (by simp only [size_al]; omega) ?grow2))
  case grow2 =>
    intro v2 wb hown2 hgrow2 hnil2
    have bb : Below w.heap.size w wb := (bal w _).grown hgrow2 (by simp only [size_al]; omega) (fun q hq => by cases hq)
    obtain ⟨gi, ci, rfl, hgi, hci, HK⟩ := own_insts (l := []) (L := 0) rfl hown2
    have SS : ∀ W, Below wb.heap.size wb W → SI [] 0 (.slice (some ⟨gi, 0, none⟩) 0 ci) W := fun W bW => ⟨gi, 0, ci, by omega, rfl, fun V bV k x hx => by simp at hx⟩
    have hs1 : (0 : Int) ≤ (ci : Int) := by omega
    clear hgrow2 hnil2 hown2 info hi hz0 hz1 hz2 h77
    go_wp2_with fail
    refine (KA.out wb _ (FB.out FF.out bb) (SS _ (Below.refl _ _))).mono ?_
    rintro r w1 ⟨⟨oa, ca, rfl⟩, b1⟩
    go_wp2_with fail
    refine (KB.out w1 _ (FB.out FF.out (btr bb b1)) (SS _ b1)).mono ?_
    rintro r w2 ⟨⟨ob, cb, rfl⟩, b2⟩
    have B2 := btr b1 b2
    clear b1 b2
    go_wp2
    go_loopw [10] (fun iv wr => iv = .int .i64 0 ∧ Below wb.heap.size wb wr) (fun _ _ => 0)
    case atStart => exact ⟨rfl, B2⟩
    case round =>
      clear B2
      obtain ⟨rfl, B3⟩ := hrel
      have a0 : wr.cell? ⟨gi, 0 * 11, none⟩ = some (.int .u8 77) := (HK.out _ B3).2.1
      rw [Nat.zero_mul] at a0
      go_wp2_with fail
      refine (KL.out _ (FB.out FF.out (btr bb B3))).mono ?_
      rintro r w5 ⟨rfl, b5⟩
      go_wp2
      go_ret
      exact ⟨rfl, btr (btr bb B3) b5⟩
set_option maxRecDepth 100000 in
set_option maxHeartbeats 8000000 in
theorem el_big {T : World → Prop} (FB : Box (∀ {w w' : World}, T w → Below w.heap.size w w' → T w')) (L : Nat) (o : Option Addr) (c : Nat) (q1 : 2000 < L) (KL : Box (∀ w, T w → Calls Tryd.prog 13 #[] w fun r w' => r = .returned (.bool true) ∧ Below w.heap.size w w')) (w : World) (hT : T w) : Calls Tryd.prog 4 #[.slice o L c] w fun r w' => r = .returned (.bool true) ∧ Below w.heap.size w w' := by
  have FF := box hT
  clear hT
  have d1 : decide ((2000 : Int) < (L : Int)) = true := decide_eq_true (by omega)
  have B0 : Below w.heap.size w w := (Below.refl _ _)
  go_enter Tryd.func4, Tryd.ntmps4
  go_wp2_with fail
  refine (KL.out _ (FB.out FF.out B0)).mono ?_
  rintro r w1 ⟨rfl, b1⟩
  have B1 : Below w.heap.size w w1 := btr B0 b1
  clear b1 B0 
  go_wp2
  go_ret
  exact ⟨rfl, B1⟩
end Go.Proofs.YtaoccmopfflkmaaDoor
