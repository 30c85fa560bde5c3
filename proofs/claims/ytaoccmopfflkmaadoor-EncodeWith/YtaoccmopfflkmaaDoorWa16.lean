/-
  What the functions that the statement reaches return: part 16 (WE, WF, WG, WI).
-/
import Derived.Laws.AppendOwn
import Derived.Deep.RegionLaw
import Derived.Deep.AppendLies
import Derived.Test.YtaoccmopfflkmaaDoorWa15
namespace Go.Proofs.YtaoccmopfflkmaaDoor
set_option maxRecDepth 100000
set_option maxHeartbeats 40000000
set_option maxRecDepth 100000
open Go.RowKit WMath
set_option linter.unusedSimpArgs false
set_option linter.unusedVariables false
theorem rOf26 (x : In) : (∀ p, ofR24 x.op x.form x.frm x.kind = some p → Box (∀ w, Calls Tryd.prog 26 #[.int .u8 (x.op : Nat), .int .u8 (x.form : Nat), .int .u8 (x.frm : Nat), .int .u8 (x.kind : Nat)] w fun r w' => r = .returned (.tuple #[.agg (ndC p.1 ⟨p.2.toArray⟩), .int .i64 0]) ∧ Below w.heap.size w w')) ∧
    (ofR24 x.op x.form x.frm x.kind = none → ∃ rr nn, ∃ e : Int, (e != 0) = true ∧ Box (∀ w, Calls Tryd.prog 26 #[.int .u8 (x.op : Nat), .int .u8 (x.form : Nat), .int .u8 (x.frm : Nat), .int .u8 (x.kind : Nat)] w fun r w' => r = .returned (.tuple #[.agg (ndC rr nn), .int .i64 e]) ∧ Below w.heap.size w w')) := by
  refine ⟨fun p h => box (fun w => rOf24 x.op x.form x.frm x.kind p.1 p.2 0 (by rw [h]; rfl) (ofR_some h).2 w), fun h => ?_⟩
  rcases ofR_none h with e | e
  · exact ⟨_, _, 2, rfl, box (fun w => rOf24 x.op x.form x.frm x.kind _ _ 2 rfl e w)⟩
  · exact ⟨_, _, 240, rfl, box (fun w => rOf24 x.op x.form x.frm x.kind _ _ 240 rfl e w)⟩
theorem rMay26 (x : In) (w : World) : Calls Tryd.prog 12 #[.agg (inC x)] w fun r w' => r = .returned (.bool (mayI x)) ∧ Below w.heap.size w w' := by
  obtain ⟨h1, h2⟩ := rOf26 x
  unfold mayI
  cases h : ofR24 x.op x.form x.frm x.kind with
  | none =>
    obtain ⟨rr, nn, e, he, RO⟩ := h2 h
    exact b26_may_no x rr nn e he RO w
  | some p => exact b26_may x p.1 _ _ (h1 p h) (box (fun w => rFl25 p.1.lay w)) w
theorem w64i (y : Int) (h : -9223372036854775808 ≤ y ∧ y < 9223372036854775808) : wrap64 y = y := by
  unfold wrap64
  omega
theorem w64n (n : Nat) (h : n < 9223372036854775808) : wrap64 ((n : Nat) : Int) = ((n : Nat) : Int) := w64i _ (by omega)
theorem immF (iv : Nat) (h : iv < 4096) : (((iv : Nat) : Int).tdiv 32 = ((iv / 32 : Nat) : Int)) ∧ (((iv : Nat) : Int).tmod 32 = ((iv % 32 : Nat) : Int)) ∧ (IntKind.i64.wrap (((iv : Nat) : Int).tdiv 32) = ((iv / 32 : Nat) : Int)) ∧ (IntKind.i64.wrap (((iv : Nat) : Int).tmod 32) = ((iv % 32 : Nat) : Int)) ∧ (((iv : Nat) : Int) / 32 = ((iv / 32 : Nat) : Int)) ∧ (((iv : Nat) : Int) % 32 = ((iv % 32 : Nat) : Int)) ∧
    (wrap64 (((iv : Nat) : Int).tdiv 32) = ((iv / 32 : Nat) : Int)) ∧ (wrap64 (((iv : Nat) : Int).tmod 32) = ((iv % 32 : Nat) : Int)) ∧ (wrap64 ((iv / 32 : Nat) : Int) = ((iv / 32 : Nat) : Int)) ∧ (wrap64 ((iv % 32 : Nat) : Int) = ((iv % 32 : Nat) : Int)) ∧ (wrap64 ((iv : Nat) : Int) = ((iv : Nat) : Int)) ∧ (IntKind.i64.wrap ((iv : Nat) : Int) = ((iv : Nat) : Int)) ∧ (wrap64 ((iv : Nat) : Int) = ((iv : Nat) : Int)) ∧ decide (((iv : Nat) : Int) < 0) = false := by
  have v1 : IntKind.i64.wrap ((iv / 32 : Nat) : Int) = ((iv / 32 : Nat) : Int) := by rw [IntKind.wrap_i64]; omega
  have v2 : IntKind.i64.wrap ((iv % 32 : Nat) : Int) = ((iv % 32 : Nat) : Int) := by rw [IntKind.wrap_i64]; omega
  have v3 : IntKind.i64.wrap ((iv : Nat) : Int) = ((iv : Nat) : Int) := by rw [IntKind.wrap_i64]; omega
  have w1 := w64n (iv / 32) (Nat.lt_of_le_of_lt (Nat.div_le_self _ _) (Nat.lt_trans h (by decide)))
  have w2 := w64n (iv % 32) (Nat.lt_of_le_of_lt (Nat.mod_le _ _) (Nat.lt_trans h (by decide)))
  have w3 := w64n iv (Nat.lt_trans h (by decide))
  exact ⟨rfl, rfl, v1, v2, rfl, rfl, w1, w2, w1, w2, w3, v3, w3, decide_eq_false (Int.not_lt.2 (Int.natCast_nonneg iv))⟩
theorem addm (a b : Nat) (h : a + b < 4294967296) : ((a : Int) + (b : Int)) % 4294967296 = ((a + b : Nat) : Int) := by omega
theorem pt5 (l v : Nat) (h : v ≤ 31) : ptW l 5 v = v * 2 ^ l := by unfold ptW; rw [Nat.mod_eq_of_lt (by omega)]
theorem pt3 (l v : Nat) (h : v ≤ 7) : ptW l 3 v = v * 2 ^ l := by unfold ptW; rw [Nat.mod_eq_of_lt (by omega)]
theorem pt7 (l v : Nat) (h : v < 128) : ptW l 7 v = v * 2 ^ l := by unfold ptW; rw [Nat.mod_eq_of_lt (by omega)]
theorem pt12 (l v : Nat) (h : v < 4096) : ptW l 12 v = v * 2 ^ l := by unfold ptW; rw [Nat.mod_eq_of_lt (by omega)]
set_option maxRecDepth 100000 in
set_option maxHeartbeats 8000000 in
theorem r_enc1 (x : In) (p : Nm) (hp : ofR24 x.op x.form x.frm x.kind = some p) (hl : p.1.lay = 1) (hb : bndI x = true) (hf : fitI (hsL p.1.lay) x = true) (hlt : encW p.1 x < 4294967296) (RM : Box (∀ w, Calls Tryd.prog 12 #[.agg (inC x)] w fun r w' => r = .returned (.bool true) ∧ Below w.heap.size w w')) (w : World) : Calls Tryd.prog 10 #[.agg (inC x)] w fun r w' => r = .returned (.tuple #[.int .u32 (encW p.1 x : Nat), .int .i64 0]) ∧ Below w.heap.size w w' := by
  have RO := (rOf26 x).1 p hp
  have RF := box (fun w => rFl25 p.1.lay w)
  have hh : hsL p.1.lay = ⟨true, false, false, false, true, false⟩ := by rw [hl]; rfl
  rw [hh] at RF hf
  unfold bndI at hb
  obtain ⟨a1, a2, a3, a4, a5, a6, a7, a8, a9, a10⟩ := of_decide_eq_true hb
  have hw : IntKind.i64.wrap x.imm = x.imm := by rw [IntKind.wrap_i64]; omega
  have hw2 : wrap64 x.imm = x.imm := w64i _ (by omega)
  have q1 : (((p.1.lay : Nat) : Int) == 1) = true := by rw [hl]; rfl
  have q2 : (((p.1.lay : Nat) : Int) == 2) = false := by rw [hl]; rfl
  have hI : imN x.imm < 4096 := imN_lt a8 a9
  have hE : encW p.1 x = p.1.mtch + ptW 15 5 x.rs1 + ptW 7 5 x.rd + ptW 20 12 (imN x.imm) := by
    unfold encW fsW
    rw [hl]
    simp only [pt5 15 x.rs1 a2, pt5 7 x.rd a1, pt12 20 (imN x.imm) hI]
    simp
    omega
  have hlt2 := hlt
  rw [hE] at hlt2
  rw [hE]
  obtain ⟨iv, hiv⟩ : ∃ iv, imN x.imm = iv := ⟨_, rfl⟩
  rw [hiv] at hI hlt2 ⊢
  have g0 : x.rs1 < 9223372036854775808 := by omega
  have g1 : x.rd < 9223372036854775808 := by omega
  have g2 : iv < 9223372036854775808 := by omega
  have f0 := w64n x.rs1 (by omega)
  have f1 := w64n x.rd (by omega)
  have e0 := addm (p.1.mtch) (ptW 15 5 x.rs1) (by omega)
  have e1 := addm (p.1.mtch + ptW 15 5 x.rs1) (ptW 7 5 x.rd) (by omega)
  have e2 := addm (p.1.mtch + ptW 15 5 x.rs1 + ptW 7 5 x.rd) (ptW 20 12 iv) (by omega)
  by_cases g : x.imm < 0
  · have hx : x.imm + 4096 = (iv : Nat) := by unfold imN at hiv; rw [if_pos g] at hiv; omega
    have hn := decide_eq_true g
    obtain ⟨t1, t2, t3, t4, t5, t6, t7, t8, t9, t10, t11, t12, t13, t14⟩ := immF iv hI
    rw [← hx] at t12 t13
    rw [hx] at t12 t13
    have hv : IntKind.i64.wrap (x.imm + 4096) = (iv : Nat) := by rw [hx]; exact t12
    have hv2 : wrap64 (x.imm + 4096) = (iv : Nat) := by rw [hx]; exact t13
    exact b26_enc_1n x p.1 _ hw hw2 f0 f1 iv (iv / 32) (iv % 32) hn hv hv2 t3 t4 t1 t2 t7 t8 t9 t10 t11 t5 t6 q1 q2 RM RO RF _ (box (fun w => b25_put 15 5 x.rs1 g0 (by decide) w)) _ (box (fun w => b25_put 7 5 x.rd g1 (by decide) w)) _ (box (fun w => b25_put 20 12 iv g2 (by decide) w)) _ e0 _ e1 _ e2 w
  · have hx : x.imm = (iv : Nat) := by unfold imN at hiv; rw [if_neg g] at hiv; omega
    have hn := decide_eq_false g
    obtain ⟨t1, t2, t3, t4, t5, t6, t7, t8, t9, t10, t11, t12, t13, t14⟩ := immF iv hI
    exact b26_enc_1p x p.1 _ hw hw2 f0 f1 iv (iv / 32) (iv % 32) hn (box hx) t14 t3 t4 t1 t2 t7 t8 t9 t10 t11 t5 t6 q1 q2 RM RO RF _ (box (fun w => b25_put 15 5 x.rs1 g0 (by decide) w)) _ (box (fun w => b25_put 7 5 x.rd g1 (by decide) w)) _ (box (fun w => b25_put 20 12 iv g2 (by decide) w)) _ e0 _ e1 _ e2 w
set_option maxRecDepth 100000 in
set_option maxHeartbeats 8000000 in
theorem r_enc2 (x : In) (p : Nm) (hp : ofR24 x.op x.form x.frm x.kind = some p) (hl : p.1.lay = 2) (hb : bndI x = true) (hf : fitI (hsL p.1.lay) x = true) (hlt : encW p.1 x < 4294967296) (RM : Box (∀ w, Calls Tryd.prog 12 #[.agg (inC x)] w fun r w' => r = .returned (.bool true) ∧ Below w.heap.size w w')) (w : World) : Calls Tryd.prog 10 #[.agg (inC x)] w fun r w' => r = .returned (.tuple #[.int .u32 (encW p.1 x : Nat), .int .i64 0]) ∧ Below w.heap.size w w' := by
  have RO := (rOf26 x).1 p hp
  have RF := box (fun w => rFl25 p.1.lay w)
  have hh : hsL p.1.lay = ⟨false, true, false, false, true, false⟩ := by rw [hl]; rfl
  rw [hh] at RF hf
  unfold bndI at hb
  obtain ⟨a1, a2, a3, a4, a5, a6, a7, a8, a9, a10⟩ := of_decide_eq_true hb
  have hw : IntKind.i64.wrap x.imm = x.imm := by rw [IntKind.wrap_i64]; omega
  have hw2 : wrap64 x.imm = x.imm := w64i _ (by omega)
  have q1 : (((p.1.lay : Nat) : Int) == 1) = false := by rw [hl]; rfl
  have q2 : (((p.1.lay : Nat) : Int) == 2) = true := by rw [hl]; rfl
  have hI : imN x.imm < 4096 := imN_lt a8 a9
  have hE : encW p.1 x = p.1.mtch + ptW 15 5 x.rs1 + ptW 20 5 x.rs2 + ptW 25 7 (imN x.imm / 32) + ptW 7 5 (imN x.imm % 32) := by
    unfold encW fsW
    rw [hl]
    simp only [pt5 15 x.rs1 a2, pt5 20 x.rs2 a3, pt7 25 (imN x.imm / 32) (by omega), pt5 7 (imN x.imm % 32) (by omega)]
    simp
    omega
  have hlt2 := hlt
  rw [hE] at hlt2
  rw [hE]
  obtain ⟨iv, hiv⟩ : ∃ iv, imN x.imm = iv := ⟨_, rfl⟩
  rw [hiv] at hI hlt2 ⊢
  have g0 : x.rs1 < 9223372036854775808 := by omega
  have g1 : x.rs2 < 9223372036854775808 := by omega
  have g2 : (iv / 32) < 9223372036854775808 := by omega
  have g3 : (iv % 32) < 9223372036854775808 := by omega
  have f0 := w64n x.rs1 (by omega)
  have f1 := w64n x.rs2 (by omega)
  have e0 := addm (p.1.mtch) (ptW 15 5 x.rs1) (by omega)
  have e1 := addm (p.1.mtch + ptW 15 5 x.rs1) (ptW 20 5 x.rs2) (by omega)
  have e2 := addm (p.1.mtch + ptW 15 5 x.rs1 + ptW 20 5 x.rs2) (ptW 25 7 (iv / 32)) (by omega)
  have e3 := addm (p.1.mtch + ptW 15 5 x.rs1 + ptW 20 5 x.rs2 + ptW 25 7 (iv / 32)) (ptW 7 5 (iv % 32)) (by omega)
  by_cases g : x.imm < 0
  · have hx : x.imm + 4096 = (iv : Nat) := by unfold imN at hiv; rw [if_pos g] at hiv; omega
    have hn := decide_eq_true g
    obtain ⟨t1, t2, t3, t4, t5, t6, t7, t8, t9, t10, t11, t12, t13, t14⟩ := immF iv hI
    rw [← hx] at t12 t13
    rw [hx] at t12 t13
    have hv : IntKind.i64.wrap (x.imm + 4096) = (iv : Nat) := by rw [hx]; exact t12
    have hv2 : wrap64 (x.imm + 4096) = (iv : Nat) := by rw [hx]; exact t13
    exact b26_enc_2n x p.1 _ hw hw2 f0 f1 iv (iv / 32) (iv % 32) hn hv hv2 t3 t4 t1 t2 t7 t8 t9 t10 t11 t5 t6 q1 q2 RM RO RF _ (box (fun w => b25_put 15 5 x.rs1 g0 (by decide) w)) _ (box (fun w => b25_put 20 5 x.rs2 g1 (by decide) w)) _ (box (fun w => b25_put 25 7 (iv / 32) g2 (by decide) w)) _ (box (fun w => b25_put 7 5 (iv % 32) g3 (by decide) w)) _ e0 _ e1 _ e2 _ e3 w
  · have hx : x.imm = (iv : Nat) := by unfold imN at hiv; rw [if_neg g] at hiv; omega
    have hn := decide_eq_false g
    obtain ⟨t1, t2, t3, t4, t5, t6, t7, t8, t9, t10, t11, t12, t13, t14⟩ := immF iv hI
    exact b26_enc_2p x p.1 _ hw hw2 f0 f1 iv (iv / 32) (iv % 32) hn (box hx) t14 t3 t4 t1 t2 t7 t8 t9 t10 t11 t5 t6 q1 q2 RM RO RF _ (box (fun w => b25_put 15 5 x.rs1 g0 (by decide) w)) _ (box (fun w => b25_put 20 5 x.rs2 g1 (by decide) w)) _ (box (fun w => b25_put 25 7 (iv / 32) g2 (by decide) w)) _ (box (fun w => b25_put 7 5 (iv % 32) g3 (by decide) w)) _ e0 _ e1 _ e2 _ e3 w
set_option maxRecDepth 100000 in
set_option maxHeartbeats 8000000 in
theorem r_enc3 (x : In) (p : Nm) (hp : ofR24 x.op x.form x.frm x.kind = some p) (hl : p.1.lay = 3) (hb : bndI x = true) (hf : fitI (hsL p.1.lay) x = true) (hlt : encW p.1 x < 4294967296) (RM : Box (∀ w, Calls Tryd.prog 12 #[.agg (inC x)] w fun r w' => r = .returned (.bool true) ∧ Below w.heap.size w w')) (w : World) : Calls Tryd.prog 10 #[.agg (inC x)] w fun r w' => r = .returned (.tuple #[.int .u32 (encW p.1 x : Nat), .int .i64 0]) ∧ Below w.heap.size w w' := by
  have RO := (rOf26 x).1 p hp
  have RF := box (fun w => rFl25 p.1.lay w)
  have hh : hsL p.1.lay = ⟨true, true, true, true, false, false⟩ := by rw [hl]; rfl
  rw [hh] at RF hf
  unfold bndI at hb
  obtain ⟨a1, a2, a3, a4, a5, a6, a7, a8, a9, a10⟩ := of_decide_eq_true hb
  have hw : IntKind.i64.wrap x.imm = x.imm := by rw [IntKind.wrap_i64]; omega
  have hw2 : wrap64 x.imm = x.imm := w64i _ (by omega)
  have q1 : (((p.1.lay : Nat) : Int) == 1) = false := by rw [hl]; rfl
  have q2 : (((p.1.lay : Nat) : Int) == 2) = false := by rw [hl]; rfl
  have hz : x.imm = 0 := by simp [fitI] at hf; omega
  have hn : decide (x.imm < 0) = false := decide_eq_false (by omega)
  have hE : encW p.1 x = p.1.mtch + ptW 15 5 x.rs1 + ptW 7 5 x.rd + ptW 20 5 x.rs2 + ptW 27 5 x.rs3 + ptW 12 3 x.rm := by
    unfold encW fsW
    rw [hl]
    simp only [pt5 15 x.rs1 a2, pt5 7 x.rd a1, pt5 20 x.rs2 a3, pt5 27 x.rs3 a4, pt3 12 x.rm a5]
    simp
    omega
  have hlt2 := hlt
  rw [hE] at hlt2
  rw [hE]
  exact b26_enc_3 x p.1 _ hw hw2 (w64n x.rs1 (by omega)) (w64n x.rd (by omega)) (w64n x.rs2 (by omega)) (w64n x.rs3 (by omega)) (w64n x.rm (by omega)) hn q1 q2 RM RO RF _ (box (fun w => b25_put 15 5 x.rs1 (by omega) (by decide) w)) _ (box (fun w => b25_put 7 5 x.rd (by omega) (by decide) w)) _ (box (fun w => b25_put 20 5 x.rs2 (by omega) (by decide) w)) _ (box (fun w => b25_put 27 5 x.rs3 (by omega) (by decide) w)) _ (box (fun w => b25_put 12 3 x.rm (by omega) (by decide) w)) _ (addm _ _ (by omega)) _ (addm _ _ (by omega)) _ (addm _ _ (by omega)) _ (addm _ _ (by omega)) _ (addm _ _ (by omega)) w
set_option maxRecDepth 100000 in
set_option maxHeartbeats 8000000 in
theorem r_enc4 (x : In) (p : Nm) (hp : ofR24 x.op x.form x.frm x.kind = some p) (hl : p.1.lay = 4) (hb : bndI x = true) (hf : fitI (hsL p.1.lay) x = true) (hlt : encW p.1 x < 4294967296) (RM : Box (∀ w, Calls Tryd.prog 12 #[.agg (inC x)] w fun r w' => r = .returned (.bool true) ∧ Below w.heap.size w w')) (w : World) : Calls Tryd.prog 10 #[.agg (inC x)] w fun r w' => r = .returned (.tuple #[.int .u32 (encW p.1 x : Nat), .int .i64 0]) ∧ Below w.heap.size w w' := by
  have RO := (rOf26 x).1 p hp
  have RF := box (fun w => rFl25 p.1.lay w)
  have hh : hsL p.1.lay = ⟨true, true, false, true, false, false⟩ := by rw [hl]; rfl
  rw [hh] at RF hf
  unfold bndI at hb
  obtain ⟨a1, a2, a3, a4, a5, a6, a7, a8, a9, a10⟩ := of_decide_eq_true hb
  have hw : IntKind.i64.wrap x.imm = x.imm := by rw [IntKind.wrap_i64]; omega
  have hw2 : wrap64 x.imm = x.imm := w64i _ (by omega)
  have q1 : (((p.1.lay : Nat) : Int) == 1) = false := by rw [hl]; rfl
  have q2 : (((p.1.lay : Nat) : Int) == 2) = false := by rw [hl]; rfl
  have hz : x.imm = 0 := by simp [fitI] at hf; omega
  have hn : decide (x.imm < 0) = false := decide_eq_false (by omega)
  have hE : encW p.1 x = p.1.mtch + ptW 15 5 x.rs1 + ptW 7 5 x.rd + ptW 20 5 x.rs2 + ptW 12 3 x.rm := by
    unfold encW fsW
    rw [hl]
    simp only [pt5 15 x.rs1 a2, pt5 7 x.rd a1, pt5 20 x.rs2 a3, pt3 12 x.rm a5]
    simp
    omega
  have hlt2 := hlt
  rw [hE] at hlt2
  rw [hE]
  exact b26_enc_4 x p.1 _ hw hw2 (w64n x.rs1 (by omega)) (w64n x.rd (by omega)) (w64n x.rs2 (by omega)) (w64n x.rm (by omega)) hn q1 q2 RM RO RF _ (box (fun w => b25_put 15 5 x.rs1 (by omega) (by decide) w)) _ (box (fun w => b25_put 7 5 x.rd (by omega) (by decide) w)) _ (box (fun w => b25_put 20 5 x.rs2 (by omega) (by decide) w)) _ (box (fun w => b25_put 12 3 x.rm (by omega) (by decide) w)) _ (addm _ _ (by omega)) _ (addm _ _ (by omega)) _ (addm _ _ (by omega)) _ (addm _ _ (by omega)) w
set_option maxRecDepth 100000 in
set_option maxHeartbeats 8000000 in
theorem r_enc5 (x : In) (p : Nm) (hp : ofR24 x.op x.form x.frm x.kind = some p) (hl : p.1.lay = 5) (hb : bndI x = true) (hf : fitI (hsL p.1.lay) x = true) (hlt : encW p.1 x < 4294967296) (RM : Box (∀ w, Calls Tryd.prog 12 #[.agg (inC x)] w fun r w' => r = .returned (.bool true) ∧ Below w.heap.size w w')) (w : World) : Calls Tryd.prog 10 #[.agg (inC x)] w fun r w' => r = .returned (.tuple #[.int .u32 (encW p.1 x : Nat), .int .i64 0]) ∧ Below w.heap.size w w' := by
  have RO := (rOf26 x).1 p hp
  have RF := box (fun w => rFl25 p.1.lay w)
  have hh : hsL p.1.lay = ⟨true, true, false, false, false, false⟩ := by rw [hl]; rfl
  rw [hh] at RF hf
  unfold bndI at hb
  obtain ⟨a1, a2, a3, a4, a5, a6, a7, a8, a9, a10⟩ := of_decide_eq_true hb
  have hw : IntKind.i64.wrap x.imm = x.imm := by rw [IntKind.wrap_i64]; omega
  have hw2 : wrap64 x.imm = x.imm := w64i _ (by omega)
  have q1 : (((p.1.lay : Nat) : Int) == 1) = false := by rw [hl]; rfl
  have q2 : (((p.1.lay : Nat) : Int) == 2) = false := by rw [hl]; rfl
  have hz : x.imm = 0 := by simp [fitI] at hf; omega
  have hn : decide (x.imm < 0) = false := decide_eq_false (by omega)
  have hE : encW p.1 x = p.1.mtch + ptW 15 5 x.rs1 + ptW 7 5 x.rd + ptW 20 5 x.rs2 := by
    unfold encW fsW
    rw [hl]
    simp only [pt5 15 x.rs1 a2, pt5 7 x.rd a1, pt5 20 x.rs2 a3]
    simp
    omega
  have hlt2 := hlt
  rw [hE] at hlt2
  rw [hE]
  exact b26_enc_5 x p.1 _ hw hw2 (w64n x.rs1 (by omega)) (w64n x.rd (by omega)) (w64n x.rs2 (by omega)) hn q1 q2 RM RO RF _ (box (fun w => b25_put 15 5 x.rs1 (by omega) (by decide) w)) _ (box (fun w => b25_put 7 5 x.rd (by omega) (by decide) w)) _ (box (fun w => b25_put 20 5 x.rs2 (by omega) (by decide) w)) _ (addm _ _ (by omega)) _ (addm _ _ (by omega)) _ (addm _ _ (by omega)) w
set_option maxRecDepth 100000 in
set_option maxHeartbeats 8000000 in
theorem r_enc6 (x : In) (p : Nm) (hp : ofR24 x.op x.form x.frm x.kind = some p) (hl : p.1.lay = 6) (hb : bndI x = true) (hf : fitI (hsL p.1.lay) x = true) (hlt : encW p.1 x < 4294967296) (RM : Box (∀ w, Calls Tryd.prog 12 #[.agg (inC x)] w fun r w' => r = .returned (.bool true) ∧ Below w.heap.size w w')) (w : World) : Calls Tryd.prog 10 #[.agg (inC x)] w fun r w' => r = .returned (.tuple #[.int .u32 (encW p.1 x : Nat), .int .i64 0]) ∧ Below w.heap.size w w' := by
  have RO := (rOf26 x).1 p hp
  have RF := box (fun w => rFl25 p.1.lay w)
  have hh : hsL p.1.lay = ⟨true, false, false, true, false, false⟩ := by rw [hl]; rfl
  rw [hh] at RF hf
  unfold bndI at hb
  obtain ⟨a1, a2, a3, a4, a5, a6, a7, a8, a9, a10⟩ := of_decide_eq_true hb
  have hw : IntKind.i64.wrap x.imm = x.imm := by rw [IntKind.wrap_i64]; omega
  have hw2 : wrap64 x.imm = x.imm := w64i _ (by omega)
  have q1 : (((p.1.lay : Nat) : Int) == 1) = false := by rw [hl]; rfl
  have q2 : (((p.1.lay : Nat) : Int) == 2) = false := by rw [hl]; rfl
  have hz : x.imm = 0 := by simp [fitI] at hf; omega
  have hn : decide (x.imm < 0) = false := decide_eq_false (by omega)
  have hE : encW p.1 x = p.1.mtch + ptW 15 5 x.rs1 + ptW 7 5 x.rd + ptW 12 3 x.rm := by
    unfold encW fsW
    rw [hl]
    simp only [pt5 15 x.rs1 a2, pt5 7 x.rd a1, pt3 12 x.rm a5]
    simp
    omega
  have hlt2 := hlt
  rw [hE] at hlt2
  rw [hE]
  exact b26_enc_6 x p.1 _ hw hw2 (w64n x.rs1 (by omega)) (w64n x.rd (by omega)) (w64n x.rm (by omega)) hn q1 q2 RM RO RF _ (box (fun w => b25_put 15 5 x.rs1 (by omega) (by decide) w)) _ (box (fun w => b25_put 7 5 x.rd (by omega) (by decide) w)) _ (box (fun w => b25_put 12 3 x.rm (by omega) (by decide) w)) _ (addm _ _ (by omega)) _ (addm _ _ (by omega)) _ (addm _ _ (by omega)) w
set_option maxRecDepth 100000 in
set_option maxHeartbeats 8000000 in
theorem r_enc7 (x : In) (p : Nm) (hp : ofR24 x.op x.form x.frm x.kind = some p) (hl : p.1.lay = 7) (hb : bndI x = true) (hf : fitI (hsL p.1.lay) x = true) (hlt : encW p.1 x < 4294967296) (RM : Box (∀ w, Calls Tryd.prog 12 #[.agg (inC x)] w fun r w' => r = .returned (.bool true) ∧ Below w.heap.size w w')) (w : World) : Calls Tryd.prog 10 #[.agg (inC x)] w fun r w' => r = .returned (.tuple #[.int .u32 (encW p.1 x : Nat), .int .i64 0]) ∧ Below w.heap.size w w' := by
  have RO := (rOf26 x).1 p hp
  have RF := box (fun w => rFl25 p.1.lay w)
  have hh : hsL p.1.lay = ⟨true, false, false, false, false, false⟩ := by rw [hl]; rfl
  rw [hh] at RF hf
  unfold bndI at hb
  obtain ⟨a1, a2, a3, a4, a5, a6, a7, a8, a9, a10⟩ := of_decide_eq_true hb
  have hw : IntKind.i64.wrap x.imm = x.imm := by rw [IntKind.wrap_i64]; omega
  have hw2 : wrap64 x.imm = x.imm := w64i _ (by omega)
  have q1 : (((p.1.lay : Nat) : Int) == 1) = false := by rw [hl]; rfl
  have q2 : (((p.1.lay : Nat) : Int) == 2) = false := by rw [hl]; rfl
  have hz : x.imm = 0 := by simp [fitI] at hf; omega
  have hn : decide (x.imm < 0) = false := decide_eq_false (by omega)
  have hE : encW p.1 x = p.1.mtch + ptW 15 5 x.rs1 + ptW 7 5 x.rd := by
    unfold encW fsW
    rw [hl]
    simp only [pt5 15 x.rs1 a2, pt5 7 x.rd a1]
    simp
    omega
  have hlt2 := hlt
  rw [hE] at hlt2
  rw [hE]
  exact b26_enc_7 x p.1 _ hw hw2 (w64n x.rs1 (by omega)) (w64n x.rd (by omega)) hn q1 q2 RM RO RF _ (box (fun w => b25_put 15 5 x.rs1 (by omega) (by decide) w)) _ (box (fun w => b25_put 7 5 x.rd (by omega) (by decide) w)) _ (addm _ _ (by omega)) _ (addm _ _ (by omega)) w
set_option maxRecDepth 100000 in
set_option maxHeartbeats 8000000 in
theorem r_enc8 (x : In) (p : Nm) (hp : ofR24 x.op x.form x.frm x.kind = some p) (hl : p.1.lay = 8) (hb : bndI x = true) (hf : fitI (hsL p.1.lay) x = true) (hlt : encW p.1 x < 4294967296) (RM : Box (∀ w, Calls Tryd.prog 12 #[.agg (inC x)] w fun r w' => r = .returned (.bool true) ∧ Below w.heap.size w w')) (w : World) : Calls Tryd.prog 10 #[.agg (inC x)] w fun r w' => r = .returned (.tuple #[.int .u32 (encW p.1 x : Nat), .int .i64 0]) ∧ Below w.heap.size w w' := by
  have RO := (rOf26 x).1 p hp
  have RF := box (fun w => rFl25 p.1.lay w)
  have hh : hsL p.1.lay = ⟨true, false, false, false, false, true⟩ := by rw [hl]; rfl
  rw [hh] at RF hf
  unfold bndI at hb
  obtain ⟨a1, a2, a3, a4, a5, a6, a7, a8, a9, a10⟩ := of_decide_eq_true hb
  have hw : IntKind.i64.wrap x.imm = x.imm := by rw [IntKind.wrap_i64]; omega
  have hw2 : wrap64 x.imm = x.imm := w64i _ (by omega)
  have q1 : (((p.1.lay : Nat) : Int) == 1) = false := by rw [hl]; rfl
  have q2 : (((p.1.lay : Nat) : Int) == 2) = false := by rw [hl]; rfl
  have hz : x.imm = 0 := by simp [fitI] at hf; omega
  have hn : decide (x.imm < 0) = false := decide_eq_false (by omega)
  have hE : encW p.1 x = p.1.mtch + ptW 15 5 x.rs1 + ptW 7 5 x.rd + ptW 20 12 x.csr := by
    unfold encW fsW
    rw [hl]
    simp only [pt5 15 x.rs1 a2, pt5 7 x.rd a1, pt12 20 x.csr (by omega)]
    simp
    omega
  have hlt2 := hlt
  rw [hE] at hlt2
  rw [hE]
  exact b26_enc_8 x p.1 _ hw hw2 (w64n x.rs1 (by omega)) (w64n x.rd (by omega)) (w64n x.csr (by omega)) hn q1 q2 RM RO RF _ (box (fun w => b25_put 15 5 x.rs1 (by omega) (by decide) w)) _ (box (fun w => b25_put 7 5 x.rd (by omega) (by decide) w)) _ (box (fun w => b25_put 20 12 x.csr (by omega) (by decide) w)) _ (addm _ _ (by omega)) _ (addm _ _ (by omega)) _ (addm _ _ (by omega)) w
set_option maxRecDepth 100000 in
set_option maxHeartbeats 8000000 in
theorem r_enc9 (x : In) (p : Nm) (hp : ofR24 x.op x.form x.frm x.kind = some p) (hl : p.1.lay = 9) (hb : bndI x = true) (hf : fitI (hsL p.1.lay) x = true) (hlt : encW p.1 x < 4294967296) (RM : Box (∀ w, Calls Tryd.prog 12 #[.agg (inC x)] w fun r w' => r = .returned (.bool true) ∧ Below w.heap.size w w')) (w : World) : Calls Tryd.prog 10 #[.agg (inC x)] w fun r w' => r = .returned (.tuple #[.int .u32 (encW p.1 x : Nat), .int .i64 0]) ∧ Below w.heap.size w w' := by
  have RO := (rOf26 x).1 p hp
  have RF := box (fun w => rFl25 p.1.lay w)
  have hh : hsL p.1.lay = ⟨true, false, false, false, false, true⟩ := by rw [hl]; rfl
  rw [hh] at RF hf
  unfold bndI at hb
  obtain ⟨a1, a2, a3, a4, a5, a6, a7, a8, a9, a10⟩ := of_decide_eq_true hb
  have hw : IntKind.i64.wrap x.imm = x.imm := by rw [IntKind.wrap_i64]; omega
  have hw2 : wrap64 x.imm = x.imm := w64i _ (by omega)
  have q1 : (((p.1.lay : Nat) : Int) == 1) = false := by rw [hl]; rfl
  have q2 : (((p.1.lay : Nat) : Int) == 2) = false := by rw [hl]; rfl
  have hz : x.imm = 0 := by simp [fitI] at hf; omega
  have hn : decide (x.imm < 0) = false := decide_eq_false (by omega)
  have hE : encW p.1 x = p.1.mtch + ptW 15 5 x.rs1 + ptW 7 5 x.rd + ptW 20 12 x.csr := by
    unfold encW fsW
    rw [hl]
    simp only [pt5 15 x.rs1 a2, pt5 7 x.rd a1, pt12 20 x.csr (by omega)]
    simp
    omega
  have hlt2 := hlt
  rw [hE] at hlt2
  rw [hE]
  exact b26_enc_8 x p.1 _ hw hw2 (w64n x.rs1 (by omega)) (w64n x.rd (by omega)) (w64n x.csr (by omega)) hn q1 q2 RM RO RF _ (box (fun w => b25_put 15 5 x.rs1 (by omega) (by decide) w)) _ (box (fun w => b25_put 7 5 x.rd (by omega) (by decide) w)) _ (box (fun w => b25_put 20 12 x.csr (by omega) (by decide) w)) _ (addm _ _ (by omega)) _ (addm _ _ (by omega)) _ (addm _ _ (by omega)) w
theorem rEn26 (x : In) (w : World) : Calls Tryd.prog 10 #[.agg (inC x)] w fun r w' => r = .returned (.tuple #[.int .u32 ((enR x).1 : Nat), .int .i64 (enR x).2]) ∧ Below w.heap.size w w' := by
  have RM := box (fun w => rMay26 x w)
  cases hm : mayI x with
  | false =>
    rw [hm] at RM
    have e : enR x = (0, 260) := by unfold enR; rw [hm]; rfl
    rw [e]
    exact b26_enc_no x RM w
  | true =>
    rw [hm] at RM
    obtain ⟨p, hp, hmem, hlt, hfd, hdc⟩ := enc_dec hm
    have e : enR x = (encW p.1 x, 0) := by unfold enR; rw [hm, hp]; rfl
    rw [e]
    have hh := hm
    unfold mayI at hh
    rw [hp] at hh
    simp only [Bool.and_eq_true] at hh
    obtain ⟨hb, hf⟩ := hh
    obtain ⟨l1, l9, _⟩ := lay24 hmem
    rcases (by omega : p.1.lay = 1 ∨ p.1.lay = 2 ∨ p.1.lay = 3 ∨ p.1.lay = 4 ∨ p.1.lay = 5 ∨ p.1.lay = 6 ∨ p.1.lay = 7 ∨ p.1.lay = 8 ∨ p.1.lay = 9) with hl | hl | hl | hl | hl | hl | hl | hl | hl
    · exact r_enc1 x p hp hl hb hf hlt RM w
    · exact r_enc2 x p hp hl hb hf hlt RM w
    · exact r_enc3 x p hp hl hb hf hlt RM w
    · exact r_enc4 x p hp hl hb hf hlt RM w
    · exact r_enc5 x p hp hl hb hf hlt RM w
    · exact r_enc6 x p hp hl hb hf hlt RM w
    · exact r_enc7 x p hp hl hb hf hlt RM w
    · exact r_enc8 x p hp hl hb hf hlt RM w
    · exact r_enc9 x p hp hl hb hf hlt RM w
end Go.Proofs.YtaoccmopfflkmaaDoor
namespace Go.Proofs.YtaoccmopfflkmaaDoor
set_option maxRecDepth 100000
set_option maxHeartbeats 40000000
set_option maxRecDepth 100000
open Go.RowKit WMath
set_option linter.unusedSimpArgs false
set_option linter.unusedVariables false
set_option maxRecDepth 100000 in
set_option maxHeartbeats 8000000 in
theorem en_lives {T : World → Prop} (FB : Box (∀ {w w' : World}, T w → Below w.heap.size w w' → T w')) (K1 : Box (∀ w, T w → Calls Tryd.prog 9 #[.agg #[.int .u8 7, .int .u8 0, .int .u8 0, .int .u8 0, .int .u8 1, .int .u8 2, .int .u8 3, .int .u8 0, .int .u8 0, .int .i16 0, .int .u8 0]] w fun r w' => r = .returned (.tuple #[.int .u32 3211475, .int .i64 0]) ∧ Below w.heap.size w w')) (K2 : Box (∀ w, T w → Calls Tryd.prog 9 #[.agg #[.int .u8 2, .int .u8 0, .int .u8 0, .int .u8 0, .int .u8 0, .int .u8 2, .int .u8 1, .int .u8 0, .int .u8 0, .int .i16 (-4), .int .u8 0]] w fun r w' => r = .returned (.tuple #[.int .u32 4262538791, .int .i64 0]) ∧ Below w.heap.size w w')) (v3 : Nat) (K3 : Box (∀ w, T w → Calls Tryd.prog 9 #[.agg #[.int .u8 7, .int .u8 0, .int .u8 0, .int .u8 0, .int .u8 0, .int .u8 0, .int .u8 0, .int .u8 0, .int .u8 5, .int .i16 0, .int .u8 0]] w fun r w' => r = .returned (.tuple #[.int .u32 (v3 : Nat), .int .i64 260]) ∧ Below w.heap.size w w')) (K4 : Box (∀ w, T w → Calls Tryd.prog 11 #[.agg #[.int .u8 23, .int .u8 3, .int .u8 0, .int .u8 0, .int .u8 0, .int .u8 0, .int .u8 0, .int .u8 0, .int .u8 0, .int .i16 0, .int .u8 0]] w fun r w' => r = .returned (.bool false) ∧ Below w.heap.size w w')) (w : World) (hT : T w) : Calls Tryd.prog 13 #[] w fun r w' => r = .returned (.bool true) ∧ Below w.heap.size w w' := by
  have FF := box hT
  clear hT
  have B0 : Below w.heap.size w w := (Below.refl _ _)
  go_enter Tryd.func13, Tryd.ntmps13
  go_wp2_with fail
  refine (K1.out _ (FB.out FF.out B0)).mono ?_
  rintro r w1 ⟨rfl, b1⟩
  have B1 : Below w.heap.size w w1 := btr B0 b1
  clear b1 B0 
  go_wp2_with fail
  refine (K2.out _ (FB.out FF.out B1)).mono ?_
  rintro r w2 ⟨rfl, b2⟩
  have B2 : Below w.heap.size w w2 := btr B1 b2
  clear b2 B1 
  go_wp2_with fail
  refine (K3.out _ (FB.out FF.out B2)).mono ?_
  rintro r w3 ⟨rfl, b3⟩
  have B3 : Below w.heap.size w w3 := btr B2 b3
  clear b3 B2 
  go_wp2_with fail
  refine (K4.out _ (FB.out FF.out B3)).mono ?_
  rintro r w4 ⟨rfl, b4⟩
  have B4 : Below w.heap.size w w4 := btr B3 b4
  clear b4 B3 
  go_wp2
  go_ret
  exact ⟨rfl, B4⟩
set_option maxRecDepth 100000 in
set_option maxHeartbeats 8000000 in
theorem en_with_nf {T : World → Prop} (FB : Box (∀ {w w' : World}, T w → Below w.heap.size w w' → T w')) (W : Nat) (x : In) (rr : Rw) (sr : ByteArray)  (K1 : Box (∀ w, T w → Calls Tryd.prog 16 #[.int .u32 (W : Nat), .agg (inC x)] w fun r w' => r = .returned (.tuple #[.int .u32 0, .int .i64 250]) ∧ Below w.heap.size w w')) (RF : Box (∀ w, Calls Tryd.prog 17 #[.int .u32 (W : Nat)] w fun r w' => r = .returned (.tuple #[.agg (ndC rr sr), .bool false]) ∧ Below w.heap.size w w')) (KL : Box (∀ w, T w → Calls Tryd.prog 13 #[] w fun r w' => r = .returned (.bool true) ∧ Below w.heap.size w w')) (w : World) (hT : T w) : Calls Tryd.prog 5 #[.int .u32 (W : Nat), .agg (inC x)] w fun r w' => r = .returned (.bool true) ∧ Below w.heap.size w w' := by
  have FF := box hT
  clear hT
  have hin := inC_new
  have he := eqin
  have hif := inC_fold
  have heq := eqr
  have hrf := rwC_fold
  have hrn := rwC_new
  have hnr := nd_row
  have hr0 := rw_at0
  have hr1 := rw_at1
  have hr2 := rw_at2
  have hr3 := rw_at3
  have hr4 := rw_at4
  have hr5 := rw_at5
  have hr6 := rw_at6
  have hnn := ndC_new
  obtain ⟨Rx_0, B0⟩ := opn1 w (Obj.cells (inC x) 27)
  go_enter Tryd.func5, Tryd.ntmps5
  obtain ⟨cx_0_0, cx_0_1, cx_0_2, cx_0_3, cx_0_4, cx_0_5, cx_0_6, cx_0_7, cx_0_8, cx_0_9, cx_0_10⟩ := inC_cells Rx_0
  go_wp2_with fail
  refine (K1.out _ (FB.out FF.out B0)).mono ?_
  rintro r w1 ⟨rfl, b1⟩
  have B1 : Below w.heap.size w w1 := btr B0 b1
  have Rx_1 := heap_of b1 _ _ _ Rx_0
  clear b1 B0 Rx_0 cx_0_0 cx_0_1 cx_0_2 cx_0_3 cx_0_4 cx_0_5 cx_0_6 cx_0_7 cx_0_8 cx_0_9 cx_0_10
  obtain ⟨cx_1_0, cx_1_1, cx_1_2, cx_1_3, cx_1_4, cx_1_5, cx_1_6, cx_1_7, cx_1_8, cx_1_9, cx_1_10⟩ := inC_cells Rx_1
  go_wp2_with fail
  refine (RF.out _).mono ?_
  rintro r w2 ⟨rfl, b2⟩
  have B2 : Below w.heap.size w w2 := btr B1 b2
  have Rx_2 := heap_of b2 _ _ _ Rx_1
  clear b2 B1 Rx_1 cx_1_0 cx_1_1 cx_1_2 cx_1_3 cx_1_4 cx_1_5 cx_1_6 cx_1_7 cx_1_8 cx_1_9 cx_1_10
  obtain ⟨cx_2_0, cx_2_1, cx_2_2, cx_2_3, cx_2_4, cx_2_5, cx_2_6, cx_2_7, cx_2_8, cx_2_9, cx_2_10⟩ := inC_cells Rx_2
  have S3 := box B2.size
  have Lx_3 : Box (w.heap.size < w2.heap.size) := box (Array.getElem?_eq_some_iff.1 Rx_2).1
  have Rt_3 := heap_alloc_last w2 (Obj.cells (ndC rr sr) 47)
  have B3 := btr B2 (bal w2 (Obj.cells (ndC rr sr) 47))
  have Rx_3 := heap_of (bal w2 (Obj.cells (ndC rr sr) 47)) _ _ _ Rx_2
  clear B2 Rx_2 cx_2_0 cx_2_1 cx_2_2 cx_2_3 cx_2_4 cx_2_5 cx_2_6 cx_2_7 cx_2_8 cx_2_9 cx_2_10
  obtain ⟨cx_3_0, cx_3_1, cx_3_2, cx_3_3, cx_3_4, cx_3_5, cx_3_6, cx_3_7, cx_3_8, cx_3_9, cx_3_10⟩ := inC_cells Rx_3
  obtain ⟨ct_3_0, ct_3_1, ct_3_2, ct_3_3, ct_3_4, ct_3_5, ct_3_6, ct_3_7⟩ := ndC_cells Rt_3
  go_wp2_with fail
  refine (KL.out _ (FB.out FF.out B3)).mono ?_
  rintro r w4 ⟨rfl, b4⟩
  have B4 : Below w.heap.size w w4 := btr B3 b4
  have Rx_4 := heap_of b4 _ _ _ Rx_3
  have Rt_4 := heap_of b4 _ _ _ Rt_3
  clear b4 B3 Rx_3 cx_3_0 cx_3_1 cx_3_2 cx_3_3 cx_3_4 cx_3_5 cx_3_6 cx_3_7 cx_3_8 cx_3_9 cx_3_10 Rt_3 ct_3_0 ct_3_1 ct_3_2 ct_3_3 ct_3_4 ct_3_5 ct_3_6 ct_3_7
  obtain ⟨cx_4_0, cx_4_1, cx_4_2, cx_4_3, cx_4_4, cx_4_5, cx_4_6, cx_4_7, cx_4_8, cx_4_9, cx_4_10⟩ := inC_cells Rx_4
  obtain ⟨ct_4_0, ct_4_1, ct_4_2, ct_4_3, ct_4_4, ct_4_5, ct_4_6, ct_4_7⟩ := ndC_cells Rt_4
  go_wp2
  go_ret
  exact ⟨rfl, B4⟩
set_option maxRecDepth 100000 in
set_option maxHeartbeats 8000000 in
theorem en_with_ne {T : World → Prop} (FB : Box (∀ {w w' : World}, T w → Below w.heap.size w w' → T w')) (W : Nat) (x : In) (rr : Rw) (sr : ByteArray) (v : Nat) (e : Int) (hne : (e != 0) = true) (K1 : Box (∀ w, T w → Calls Tryd.prog 16 #[.int .u32 (W : Nat), .agg (inC x)] w fun r w' => r = .returned (.tuple #[.int .u32 0, .int .i64 260]) ∧ Below w.heap.size w w')) (RF : Box (∀ w, Calls Tryd.prog 17 #[.int .u32 (W : Nat)] w fun r w' => r = .returned (.tuple #[.agg (ndC rr sr), .bool true]) ∧ Below w.heap.size w w')) (R1 : Box (∀ w, Calls Tryd.prog 10 #[.agg (inC x)] w fun r w' => r = .returned (.tuple #[.int .u32 (v : Nat), .int .i64 e]) ∧ Below w.heap.size w w')) (KL : Box (∀ w, T w → Calls Tryd.prog 13 #[] w fun r w' => r = .returned (.bool true) ∧ Below w.heap.size w w')) (w : World) (hT : T w) : Calls Tryd.prog 5 #[.int .u32 (W : Nat), .agg (inC x)] w fun r w' => r = .returned (.bool true) ∧ Below w.heap.size w w' := by
  have FF := box hT
  clear hT
  have hin := inC_new
  have he := eqin
  have hif := inC_fold
  have heq := eqr
  have hrf := rwC_fold
  have hrn := rwC_new
  have hnr := nd_row
  have hr0 := rw_at0
  have hr1 := rw_at1
  have hr2 := rw_at2
  have hr3 := rw_at3
  have hr4 := rw_at4
  have hr5 := rw_at5
  have hr6 := rw_at6
  have hnn := ndC_new
  obtain ⟨Rx_0, B0⟩ := opn1 w (Obj.cells (inC x) 27)
  go_enter Tryd.func5, Tryd.ntmps5
  obtain ⟨cx_0_0, cx_0_1, cx_0_2, cx_0_3, cx_0_4, cx_0_5, cx_0_6, cx_0_7, cx_0_8, cx_0_9, cx_0_10⟩ := inC_cells Rx_0
  go_wp2_with fail
  refine (K1.out _ (FB.out FF.out B0)).mono ?_
  rintro r w1 ⟨rfl, b1⟩
  have B1 : Below w.heap.size w w1 := btr B0 b1
  have Rx_1 := heap_of b1 _ _ _ Rx_0
  clear b1 B0 Rx_0 cx_0_0 cx_0_1 cx_0_2 cx_0_3 cx_0_4 cx_0_5 cx_0_6 cx_0_7 cx_0_8 cx_0_9 cx_0_10
  obtain ⟨cx_1_0, cx_1_1, cx_1_2, cx_1_3, cx_1_4, cx_1_5, cx_1_6, cx_1_7, cx_1_8, cx_1_9, cx_1_10⟩ := inC_cells Rx_1
  go_wp2_with fail
  refine (RF.out _).mono ?_
  rintro r w2 ⟨rfl, b2⟩
  have B2 : Below w.heap.size w w2 := btr B1 b2
  have Rx_2 := heap_of b2 _ _ _ Rx_1
  clear b2 B1 Rx_1 cx_1_0 cx_1_1 cx_1_2 cx_1_3 cx_1_4 cx_1_5 cx_1_6 cx_1_7 cx_1_8 cx_1_9 cx_1_10
  obtain ⟨cx_2_0, cx_2_1, cx_2_2, cx_2_3, cx_2_4, cx_2_5, cx_2_6, cx_2_7, cx_2_8, cx_2_9, cx_2_10⟩ := inC_cells Rx_2
  have S3 := box B2.size
  have Lx_3 : Box (w.heap.size < w2.heap.size) := box (Array.getElem?_eq_some_iff.1 Rx_2).1
  have Rt_3 := heap_alloc_last w2 (Obj.cells (ndC rr sr) 47)
  have B3 := btr B2 (bal w2 (Obj.cells (ndC rr sr) 47))
  have Rx_3 := heap_of (bal w2 (Obj.cells (ndC rr sr) 47)) _ _ _ Rx_2
  clear B2 Rx_2 cx_2_0 cx_2_1 cx_2_2 cx_2_3 cx_2_4 cx_2_5 cx_2_6 cx_2_7 cx_2_8 cx_2_9 cx_2_10
  obtain ⟨cx_3_0, cx_3_1, cx_3_2, cx_3_3, cx_3_4, cx_3_5, cx_3_6, cx_3_7, cx_3_8, cx_3_9, cx_3_10⟩ := inC_cells Rx_3
  obtain ⟨ct_3_0, ct_3_1, ct_3_2, ct_3_3, ct_3_4, ct_3_5, ct_3_6, ct_3_7⟩ := ndC_cells Rt_3
  have S4 := box B3.size
  have Lx_4 : Box (w.heap.size < (w2.alloc (Obj.cells (ndC rr sr) 47)).heap.size) := box (Array.getElem?_eq_some_iff.1 Rx_3).1
  have Lt_4 : Box (w2.heap.size < (w2.alloc (Obj.cells (ndC rr sr) 47)).heap.size) := box (Array.getElem?_eq_some_iff.1 Rt_3).1
  have Z4 := box (size_al w2 (Obj.cells (ndC rr sr) 47))
  have Rr_4 : ((w2.alloc (Obj.cells (ndC rr sr) 47)).alloc (Obj.cells (rwC rr) 45)).heap[w2.heap.size + 1]? = some (Obj.cells (rwC rr) 45) := by have := heap_alloc_last (w2.alloc (Obj.cells (ndC rr sr) 47)) (Obj.cells (rwC rr) 45); simpa only [size_al] using this
  have B4 := btr B3 (bal (w2.alloc (Obj.cells (ndC rr sr) 47)) (Obj.cells (rwC rr) 45))
  have Rx_4 := heap_of (bal (w2.alloc (Obj.cells (ndC rr sr) 47)) (Obj.cells (rwC rr) 45)) _ _ _ Rx_3
  have Rt_4 := heap_of (bal (w2.alloc (Obj.cells (ndC rr sr) 47)) (Obj.cells (rwC rr) 45)) _ _ _ Rt_3
  clear B3 Rx_3 cx_3_0 cx_3_1 cx_3_2 cx_3_3 cx_3_4 cx_3_5 cx_3_6 cx_3_7 cx_3_8 cx_3_9 cx_3_10 Rt_3 ct_3_0 ct_3_1 ct_3_2 ct_3_3 ct_3_4 ct_3_5 ct_3_6 ct_3_7
  obtain ⟨cx_4_0, cx_4_1, cx_4_2, cx_4_3, cx_4_4, cx_4_5, cx_4_6, cx_4_7, cx_4_8, cx_4_9, cx_4_10⟩ := inC_cells Rx_4
  obtain ⟨ct_4_0, ct_4_1, ct_4_2, ct_4_3, ct_4_4, ct_4_5, ct_4_6, ct_4_7⟩ := ndC_cells Rt_4
  obtain ⟨cr_4_0, cr_4_1, cr_4_2, cr_4_3, cr_4_4, cr_4_5, cr_4_6⟩ := rwC_cells Rr_4
  go_wp2_with fail
  refine (R1.out _).mono ?_
  rintro r w5 ⟨rfl, b5⟩
  have B5 : Below w.heap.size w w5 := btr B4 b5
  have Rx_5 := heap_of b5 _ _ _ Rx_4
  have Rt_5 := heap_of b5 _ _ _ Rt_4
  have Rr_5 := heap_of b5 _ _ _ Rr_4
  clear b5 B4 Rx_4 cx_4_0 cx_4_1 cx_4_2 cx_4_3 cx_4_4 cx_4_5 cx_4_6 cx_4_7 cx_4_8 cx_4_9 cx_4_10 Rt_4 ct_4_0 ct_4_1 ct_4_2 ct_4_3 ct_4_4 ct_4_5 ct_4_6 ct_4_7 Rr_4 cr_4_0 cr_4_1 cr_4_2 cr_4_3 cr_4_4 cr_4_5 cr_4_6
  obtain ⟨cx_5_0, cx_5_1, cx_5_2, cx_5_3, cx_5_4, cx_5_5, cx_5_6, cx_5_7, cx_5_8, cx_5_9, cx_5_10⟩ := inC_cells Rx_5
  obtain ⟨ct_5_0, ct_5_1, ct_5_2, ct_5_3, ct_5_4, ct_5_5, ct_5_6, ct_5_7⟩ := ndC_cells Rt_5
  obtain ⟨cr_5_0, cr_5_1, cr_5_2, cr_5_3, cr_5_4, cr_5_5, cr_5_6⟩ := rwC_cells Rr_5
  go_wp2_with fail
  refine (KL.out _ (FB.out FF.out B5)).mono ?_
  rintro r w6 ⟨rfl, b6⟩
  have B6 : Below w.heap.size w w6 := btr B5 b6
  have Rx_6 := heap_of b6 _ _ _ Rx_5
  have Rt_6 := heap_of b6 _ _ _ Rt_5
  have Rr_6 := heap_of b6 _ _ _ Rr_5
  clear b6 B5 Rx_5 cx_5_0 cx_5_1 cx_5_2 cx_5_3 cx_5_4 cx_5_5 cx_5_6 cx_5_7 cx_5_8 cx_5_9 cx_5_10 Rt_5 ct_5_0 ct_5_1 ct_5_2 ct_5_3 ct_5_4 ct_5_5 ct_5_6 ct_5_7 Rr_5 cr_5_0 cr_5_1 cr_5_2 cr_5_3 cr_5_4 cr_5_5 cr_5_6
  obtain ⟨cx_6_0, cx_6_1, cx_6_2, cx_6_3, cx_6_4, cx_6_5, cx_6_6, cx_6_7, cx_6_8, cx_6_9, cx_6_10⟩ := inC_cells Rx_6
  obtain ⟨ct_6_0, ct_6_1, ct_6_2, ct_6_3, ct_6_4, ct_6_5, ct_6_6, ct_6_7⟩ := ndC_cells Rt_6
  obtain ⟨cr_6_0, cr_6_1, cr_6_2, cr_6_3, cr_6_4, cr_6_5, cr_6_6⟩ := rwC_cells Rr_6
  go_wp2
  go_ret
  exact ⟨rfl, B6⟩
theorem bneN (a b : Nat) (h : a ≠ b) : (((a : Nat) : Int) != ((b : Nat) : Int)) = true := by simp; omega
theorem bneE (a b : Nat) (h : a = b) : (((a : Nat) : Int) != ((b : Nat) : Int)) = false := by simp; omega
set_option maxRecDepth 100000 in
set_option maxHeartbeats 8000000 in
theorem en_with_no {T : World → Prop} (FB : Box (∀ {w w' : World}, T w → Below w.heap.size w w' → T w')) (W : Nat) (x : In) (rr : Rw) (sr : ByteArray) (v : Nat) (hd : (x.op ≠ rr.op) ∨ (x.op = rr.op ∧ x.form ≠ rr.form) ∨ (x.op = rr.op ∧ x.form = rr.form ∧ x.frm ≠ rr.frm) ∨ (x.op = rr.op ∧ x.form = rr.form ∧ x.frm = rr.frm ∧ x.kind ≠ rr.kind)) (K1 : Box (∀ w, T w → Calls Tryd.prog 16 #[.int .u32 (W : Nat), .agg (inC x)] w fun r w' => r = .returned (.tuple #[.int .u32 0, .int .i64 260]) ∧ Below w.heap.size w w')) (RF : Box (∀ w, Calls Tryd.prog 17 #[.int .u32 (W : Nat)] w fun r w' => r = .returned (.tuple #[.agg (ndC rr sr), .bool true]) ∧ Below w.heap.size w w')) (R1 : Box (∀ w, Calls Tryd.prog 10 #[.agg (inC x)] w fun r w' => r = .returned (.tuple #[.int .u32 (v : Nat), .int .i64 0]) ∧ Below w.heap.size w w')) (KL : Box (∀ w, T w → Calls Tryd.prog 13 #[] w fun r w' => r = .returned (.bool true) ∧ Below w.heap.size w w')) (w : World) (hT : T w) : Calls Tryd.prog 5 #[.int .u32 (W : Nat), .agg (inC x)] w fun r w' => r = .returned (.bool true) ∧ Below w.heap.size w w' := by
  have FF := box hT
  clear hT
  have hin := inC_new
  have he := eqin
  have hif := inC_fold
  have heq := eqr
  have hrf := rwC_fold
  have hrn := rwC_new
  have hnr := nd_row
  have hr0 := rw_at0
  have hr1 := rw_at1
  have hr2 := rw_at2
  have hr3 := rw_at3
  have hr4 := rw_at4
  have hr5 := rw_at5
  have hr6 := rw_at6
  have hnn := ndC_new
  have b1 : ((((x.op : Nat) : Int) != ((rr.op : Nat) : Int)) = true) ∨ ((((x.op : Nat) : Int) != ((rr.op : Nat) : Int)) = false ∧ (((x.form : Nat) : Int) != ((rr.form : Nat) : Int)) = true) ∨ ((((x.op : Nat) : Int) != ((rr.op : Nat) : Int)) = false ∧ (((x.form : Nat) : Int) != ((rr.form : Nat) : Int)) = false ∧ (((x.frm : Nat) : Int) != ((rr.frm : Nat) : Int)) = true) ∨ ((((x.op : Nat) : Int) != ((rr.op : Nat) : Int)) = false ∧ (((x.form : Nat) : Int) != ((rr.form : Nat) : Int)) = false ∧ (((x.frm : Nat) : Int) != ((rr.frm : Nat) : Int)) = false ∧ (((x.kind : Nat) : Int) != ((rr.kind : Nat) : Int)) = true) := by
    rcases hd with h | ⟨h1, h⟩ | ⟨h1, h2, h⟩ | ⟨h1, h2, h3, h⟩
    · exact .inl (bneN _ _ h)
    · exact .inr (.inl ⟨bneE _ _ h1, bneN _ _ h⟩)
    · exact .inr (.inr (.inl ⟨bneE _ _ h1, bneE _ _ h2, bneN _ _ h⟩))
    · exact .inr (.inr (.inr ⟨bneE _ _ h1, bneE _ _ h2, bneE _ _ h3, bneN _ _ h⟩))
  clear hd
  rcases b1 with q1 | ⟨q1, q2⟩ | ⟨q1, q2, q3⟩ | ⟨q1, q2, q3, q4⟩
  all_goals
    obtain ⟨Rx_0, B0⟩ := opn1 w (Obj.cells (inC x) 27)
    go_enter Tryd.func5, Tryd.ntmps5
    obtain ⟨cx_0_0, cx_0_1, cx_0_2, cx_0_3, cx_0_4, cx_0_5, cx_0_6, cx_0_7, cx_0_8, cx_0_9, cx_0_10⟩ := inC_cells Rx_0
    go_wp2_with fail
    refine (K1.out _ (FB.out FF.out B0)).mono ?_
    rintro r w1 ⟨rfl, b1⟩
    have B1 : Below w.heap.size w w1 := btr B0 b1
    have Rx_1 := heap_of b1 _ _ _ Rx_0
    clear b1 B0 Rx_0 cx_0_0 cx_0_1 cx_0_2 cx_0_3 cx_0_4 cx_0_5 cx_0_6 cx_0_7 cx_0_8 cx_0_9 cx_0_10
    obtain ⟨cx_1_0, cx_1_1, cx_1_2, cx_1_3, cx_1_4, cx_1_5, cx_1_6, cx_1_7, cx_1_8, cx_1_9, cx_1_10⟩ := inC_cells Rx_1
    go_wp2_with fail
    refine (RF.out _).mono ?_
    rintro r w2 ⟨rfl, b2⟩
    have B2 : Below w.heap.size w w2 := btr B1 b2
    have Rx_2 := heap_of b2 _ _ _ Rx_1
    clear b2 B1 Rx_1 cx_1_0 cx_1_1 cx_1_2 cx_1_3 cx_1_4 cx_1_5 cx_1_6 cx_1_7 cx_1_8 cx_1_9 cx_1_10
    obtain ⟨cx_2_0, cx_2_1, cx_2_2, cx_2_3, cx_2_4, cx_2_5, cx_2_6, cx_2_7, cx_2_8, cx_2_9, cx_2_10⟩ := inC_cells Rx_2
    have S3 := box B2.size
    have Lx_3 : Box (w.heap.size < w2.heap.size) := box (Array.getElem?_eq_some_iff.1 Rx_2).1
    have Rt_3 := heap_alloc_last w2 (Obj.cells (ndC rr sr) 47)
    have B3 := btr B2 (bal w2 (Obj.cells (ndC rr sr) 47))
    have Rx_3 := heap_of (bal w2 (Obj.cells (ndC rr sr) 47)) _ _ _ Rx_2
    clear B2 Rx_2 cx_2_0 cx_2_1 cx_2_2 cx_2_3 cx_2_4 cx_2_5 cx_2_6 cx_2_7 cx_2_8 cx_2_9 cx_2_10
    obtain ⟨cx_3_0, cx_3_1, cx_3_2, cx_3_3, cx_3_4, cx_3_5, cx_3_6, cx_3_7, cx_3_8, cx_3_9, cx_3_10⟩ := inC_cells Rx_3
    obtain ⟨ct_3_0, ct_3_1, ct_3_2, ct_3_3, ct_3_4, ct_3_5, ct_3_6, ct_3_7⟩ := ndC_cells Rt_3
    have S4 := box B3.size
    have Lx_4 : Box (w.heap.size < (w2.alloc (Obj.cells (ndC rr sr) 47)).heap.size) := box (Array.getElem?_eq_some_iff.1 Rx_3).1
    have Lt_4 : Box (w2.heap.size < (w2.alloc (Obj.cells (ndC rr sr) 47)).heap.size) := box (Array.getElem?_eq_some_iff.1 Rt_3).1
    have Z4 := box (size_al w2 (Obj.cells (ndC rr sr) 47))
    have Rr_4 : ((w2.alloc (Obj.cells (ndC rr sr) 47)).alloc (Obj.cells (rwC rr) 45)).heap[w2.heap.size + 1]? = some (Obj.cells (rwC rr) 45) := by have := heap_alloc_last (w2.alloc (Obj.cells (ndC rr sr) 47)) (Obj.cells (rwC rr) 45); simpa only [size_al] using this
    have B4 := btr B3 (bal (w2.alloc (Obj.cells (ndC rr sr) 47)) (Obj.cells (rwC rr) 45))
    have Rx_4 := heap_of (bal (w2.alloc (Obj.cells (ndC rr sr) 47)) (Obj.cells (rwC rr) 45)) _ _ _ Rx_3
    have Rt_4 := heap_of (bal (w2.alloc (Obj.cells (ndC rr sr) 47)) (Obj.cells (rwC rr) 45)) _ _ _ Rt_3
    clear B3 Rx_3 cx_3_0 cx_3_1 cx_3_2 cx_3_3 cx_3_4 cx_3_5 cx_3_6 cx_3_7 cx_3_8 cx_3_9 cx_3_10 Rt_3 ct_3_0 ct_3_1 ct_3_2 ct_3_3 ct_3_4 ct_3_5 ct_3_6 ct_3_7
    obtain ⟨cx_4_0, cx_4_1, cx_4_2, cx_4_3, cx_4_4, cx_4_5, cx_4_6, cx_4_7, cx_4_8, cx_4_9, cx_4_10⟩ := inC_cells Rx_4
    obtain ⟨ct_4_0, ct_4_1, ct_4_2, ct_4_3, ct_4_4, ct_4_5, ct_4_6, ct_4_7⟩ := ndC_cells Rt_4
    obtain ⟨cr_4_0, cr_4_1, cr_4_2, cr_4_3, cr_4_4, cr_4_5, cr_4_6⟩ := rwC_cells Rr_4
    go_wp2_with fail
    refine (R1.out _).mono ?_
    rintro r w5 ⟨rfl, b5⟩
    have B5 : Below w.heap.size w w5 := btr B4 b5
    have Rx_5 := heap_of b5 _ _ _ Rx_4
    have Rt_5 := heap_of b5 _ _ _ Rt_4
    have Rr_5 := heap_of b5 _ _ _ Rr_4
    clear b5 B4 Rx_4 cx_4_0 cx_4_1 cx_4_2 cx_4_3 cx_4_4 cx_4_5 cx_4_6 cx_4_7 cx_4_8 cx_4_9 cx_4_10 Rt_4 ct_4_0 ct_4_1 ct_4_2 ct_4_3 ct_4_4 ct_4_5 ct_4_6 ct_4_7 Rr_4 cr_4_0 cr_4_1 cr_4_2 cr_4_3 cr_4_4 cr_4_5 cr_4_6
    obtain ⟨cx_5_0, cx_5_1, cx_5_2, cx_5_3, cx_5_4, cx_5_5, cx_5_6, cx_5_7, cx_5_8, cx_5_9, cx_5_10⟩ := inC_cells Rx_5
    obtain ⟨ct_5_0, ct_5_1, ct_5_2, ct_5_3, ct_5_4, ct_5_5, ct_5_6, ct_5_7⟩ := ndC_cells Rt_5
    obtain ⟨cr_5_0, cr_5_1, cr_5_2, cr_5_3, cr_5_4, cr_5_5, cr_5_6⟩ := rwC_cells Rr_5
    go_wp2_with fail
    refine (KL.out _ (FB.out FF.out B5)).mono ?_
    rintro r w6 ⟨rfl, b6⟩
    have B6 : Below w.heap.size w w6 := btr B5 b6
    have Rx_6 := heap_of b6 _ _ _ Rx_5
    have Rt_6 := heap_of b6 _ _ _ Rt_5
    have Rr_6 := heap_of b6 _ _ _ Rr_5
    clear b6 B5 Rx_5 cx_5_0 cx_5_1 cx_5_2 cx_5_3 cx_5_4 cx_5_5 cx_5_6 cx_5_7 cx_5_8 cx_5_9 cx_5_10 Rt_5 ct_5_0 ct_5_1 ct_5_2 ct_5_3 ct_5_4 ct_5_5 ct_5_6 ct_5_7 Rr_5 cr_5_0 cr_5_1 cr_5_2 cr_5_3 cr_5_4 cr_5_5 cr_5_6
    obtain ⟨cx_6_0, cx_6_1, cx_6_2, cx_6_3, cx_6_4, cx_6_5, cx_6_6, cx_6_7, cx_6_8, cx_6_9, cx_6_10⟩ := inC_cells Rx_6
    obtain ⟨ct_6_0, ct_6_1, ct_6_2, ct_6_3, ct_6_4, ct_6_5, ct_6_6, ct_6_7⟩ := ndC_cells Rt_6
    obtain ⟨cr_6_0, cr_6_1, cr_6_2, cr_6_3, cr_6_4, cr_6_5, cr_6_6⟩ := rwC_cells Rr_6
    go_wp2
    go_ret
    exact ⟨rfl, B6⟩
set_option maxRecDepth 100000 in
set_option maxHeartbeats 8000000 in
theorem en_with_y {T : World → Prop} (FB : Box (∀ {w w' : World}, T w → Below w.heap.size w w' → T w')) (W : Nat) (x : In) (rr : Rw) (sr : ByteArray) (v : Nat) (q1 : (((x.op : Nat) : Int) != ((rr.op : Nat) : Int)) = false) (q2 : (((x.form : Nat) : Int) != ((rr.form : Nat) : Int)) = false) (q3 : (((x.frm : Nat) : Int) != ((rr.frm : Nat) : Int)) = false) (q4 : (((x.kind : Nat) : Int) != ((rr.kind : Nat) : Int)) = false) (K1 : Box (∀ w, T w → Calls Tryd.prog 16 #[.int .u32 (W : Nat), .agg (inC x)] w fun r w' => r = .returned (.tuple #[.int .u32 (v : Nat), .int .i64 0]) ∧ Below w.heap.size w w')) (RF : Box (∀ w, Calls Tryd.prog 17 #[.int .u32 (W : Nat)] w fun r w' => r = .returned (.tuple #[.agg (ndC rr sr), .bool true]) ∧ Below w.heap.size w w')) (R1 : Box (∀ w, Calls Tryd.prog 10 #[.agg (inC x)] w fun r w' => r = .returned (.tuple #[.int .u32 (v : Nat), .int .i64 0]) ∧ Below w.heap.size w w')) (KL : Box (∀ w, T w → Calls Tryd.prog 13 #[] w fun r w' => r = .returned (.bool true) ∧ Below w.heap.size w w')) (w : World) (hT : T w) : Calls Tryd.prog 5 #[.int .u32 (W : Nat), .agg (inC x)] w fun r w' => r = .returned (.bool true) ∧ Below w.heap.size w w' := by
  have FF := box hT
  clear hT
  have hin := inC_new
  have he := eqin
  have hif := inC_fold
  have heq := eqr
  have hrf := rwC_fold
  have hrn := rwC_new
  have hnr := nd_row
  have hr0 := rw_at0
  have hr1 := rw_at1
  have hr2 := rw_at2
  have hr3 := rw_at3
  have hr4 := rw_at4
  have hr5 := rw_at5
  have hr6 := rw_at6
  have hnn := ndC_new
  obtain ⟨Rx_0, B0⟩ := opn1 w (Obj.cells (inC x) 27)
  go_enter Tryd.func5, Tryd.ntmps5
  obtain ⟨cx_0_0, cx_0_1, cx_0_2, cx_0_3, cx_0_4, cx_0_5, cx_0_6, cx_0_7, cx_0_8, cx_0_9, cx_0_10⟩ := inC_cells Rx_0
  go_wp2_with fail
  refine (K1.out _ (FB.out FF.out B0)).mono ?_
  rintro r w1 ⟨rfl, b1⟩
  have B1 : Below w.heap.size w w1 := btr B0 b1
  have Rx_1 := heap_of b1 _ _ _ Rx_0
  clear b1 B0 Rx_0 cx_0_0 cx_0_1 cx_0_2 cx_0_3 cx_0_4 cx_0_5 cx_0_6 cx_0_7 cx_0_8 cx_0_9 cx_0_10
  obtain ⟨cx_1_0, cx_1_1, cx_1_2, cx_1_3, cx_1_4, cx_1_5, cx_1_6, cx_1_7, cx_1_8, cx_1_9, cx_1_10⟩ := inC_cells Rx_1
  go_wp2_with fail
  refine (RF.out _).mono ?_
  rintro r w2 ⟨rfl, b2⟩
  have B2 : Below w.heap.size w w2 := btr B1 b2
  have Rx_2 := heap_of b2 _ _ _ Rx_1
  clear b2 B1 Rx_1 cx_1_0 cx_1_1 cx_1_2 cx_1_3 cx_1_4 cx_1_5 cx_1_6 cx_1_7 cx_1_8 cx_1_9 cx_1_10
  obtain ⟨cx_2_0, cx_2_1, cx_2_2, cx_2_3, cx_2_4, cx_2_5, cx_2_6, cx_2_7, cx_2_8, cx_2_9, cx_2_10⟩ := inC_cells Rx_2
  have S3 := box B2.size
  have Lx_3 : Box (w.heap.size < w2.heap.size) := box (Array.getElem?_eq_some_iff.1 Rx_2).1
  have Rt_3 := heap_alloc_last w2 (Obj.cells (ndC rr sr) 47)
  have B3 := btr B2 (bal w2 (Obj.cells (ndC rr sr) 47))
  have Rx_3 := heap_of (bal w2 (Obj.cells (ndC rr sr) 47)) _ _ _ Rx_2
  clear B2 Rx_2 cx_2_0 cx_2_1 cx_2_2 cx_2_3 cx_2_4 cx_2_5 cx_2_6 cx_2_7 cx_2_8 cx_2_9 cx_2_10
  obtain ⟨cx_3_0, cx_3_1, cx_3_2, cx_3_3, cx_3_4, cx_3_5, cx_3_6, cx_3_7, cx_3_8, cx_3_9, cx_3_10⟩ := inC_cells Rx_3
  obtain ⟨ct_3_0, ct_3_1, ct_3_2, ct_3_3, ct_3_4, ct_3_5, ct_3_6, ct_3_7⟩ := ndC_cells Rt_3
  have S4 := box B3.size
  have Lx_4 : Box (w.heap.size < (w2.alloc (Obj.cells (ndC rr sr) 47)).heap.size) := box (Array.getElem?_eq_some_iff.1 Rx_3).1
  have Lt_4 : Box (w2.heap.size < (w2.alloc (Obj.cells (ndC rr sr) 47)).heap.size) := box (Array.getElem?_eq_some_iff.1 Rt_3).1
  have Z4 := box (size_al w2 (Obj.cells (ndC rr sr) 47))
  have Rr_4 : ((w2.alloc (Obj.cells (ndC rr sr) 47)).alloc (Obj.cells (rwC rr) 45)).heap[w2.heap.size + 1]? = some (Obj.cells (rwC rr) 45) := by have := heap_alloc_last (w2.alloc (Obj.cells (ndC rr sr) 47)) (Obj.cells (rwC rr) 45); simpa only [size_al] using this
  have B4 := btr B3 (bal (w2.alloc (Obj.cells (ndC rr sr) 47)) (Obj.cells (rwC rr) 45))
  have Rx_4 := heap_of (bal (w2.alloc (Obj.cells (ndC rr sr) 47)) (Obj.cells (rwC rr) 45)) _ _ _ Rx_3
  have Rt_4 := heap_of (bal (w2.alloc (Obj.cells (ndC rr sr) 47)) (Obj.cells (rwC rr) 45)) _ _ _ Rt_3
  clear B3 Rx_3 cx_3_0 cx_3_1 cx_3_2 cx_3_3 cx_3_4 cx_3_5 cx_3_6 cx_3_7 cx_3_8 cx_3_9 cx_3_10 Rt_3 ct_3_0 ct_3_1 ct_3_2 ct_3_3 ct_3_4 ct_3_5 ct_3_6 ct_3_7
  obtain ⟨cx_4_0, cx_4_1, cx_4_2, cx_4_3, cx_4_4, cx_4_5, cx_4_6, cx_4_7, cx_4_8, cx_4_9, cx_4_10⟩ := inC_cells Rx_4
  obtain ⟨ct_4_0, ct_4_1, ct_4_2, ct_4_3, ct_4_4, ct_4_5, ct_4_6, ct_4_7⟩ := ndC_cells Rt_4
  obtain ⟨cr_4_0, cr_4_1, cr_4_2, cr_4_3, cr_4_4, cr_4_5, cr_4_6⟩ := rwC_cells Rr_4
  go_wp2_with fail
  refine (R1.out _).mono ?_
  rintro r w5 ⟨rfl, b5⟩
  have B5 : Below w.heap.size w w5 := btr B4 b5
  have Rx_5 := heap_of b5 _ _ _ Rx_4
  have Rt_5 := heap_of b5 _ _ _ Rt_4
  have Rr_5 := heap_of b5 _ _ _ Rr_4
  clear b5 B4 Rx_4 cx_4_0 cx_4_1 cx_4_2 cx_4_3 cx_4_4 cx_4_5 cx_4_6 cx_4_7 cx_4_8 cx_4_9 cx_4_10 Rt_4 ct_4_0 ct_4_1 ct_4_2 ct_4_3 ct_4_4 ct_4_5 ct_4_6 ct_4_7 Rr_4 cr_4_0 cr_4_1 cr_4_2 cr_4_3 cr_4_4 cr_4_5 cr_4_6
  obtain ⟨cx_5_0, cx_5_1, cx_5_2, cx_5_3, cx_5_4, cx_5_5, cx_5_6, cx_5_7, cx_5_8, cx_5_9, cx_5_10⟩ := inC_cells Rx_5
  obtain ⟨ct_5_0, ct_5_1, ct_5_2, ct_5_3, ct_5_4, ct_5_5, ct_5_6, ct_5_7⟩ := ndC_cells Rt_5
  obtain ⟨cr_5_0, cr_5_1, cr_5_2, cr_5_3, cr_5_4, cr_5_5, cr_5_6⟩ := rwC_cells Rr_5
  go_wp2_with fail
  refine (KL.out _ (FB.out FF.out B5)).mono ?_
  rintro r w6 ⟨rfl, b6⟩
  have B6 : Below w.heap.size w w6 := btr B5 b6
  have Rx_6 := heap_of b6 _ _ _ Rx_5
  have Rt_6 := heap_of b6 _ _ _ Rt_5
  have Rr_6 := heap_of b6 _ _ _ Rr_5
  clear b6 B5 Rx_5 cx_5_0 cx_5_1 cx_5_2 cx_5_3 cx_5_4 cx_5_5 cx_5_6 cx_5_7 cx_5_8 cx_5_9 cx_5_10 Rt_5 ct_5_0 ct_5_1 ct_5_2 ct_5_3 ct_5_4 ct_5_5 ct_5_6 ct_5_7 Rr_5 cr_5_0 cr_5_1 cr_5_2 cr_5_3 cr_5_4 cr_5_5 cr_5_6
  obtain ⟨cx_6_0, cx_6_1, cx_6_2, cx_6_3, cx_6_4, cx_6_5, cx_6_6, cx_6_7, cx_6_8, cx_6_9, cx_6_10⟩ := inC_cells Rx_6
  obtain ⟨ct_6_0, ct_6_1, ct_6_2, ct_6_3, ct_6_4, ct_6_5, ct_6_6, ct_6_7⟩ := ndC_cells Rt_6
  obtain ⟨cr_6_0, cr_6_1, cr_6_2, cr_6_3, cr_6_4, cr_6_5, cr_6_6⟩ := rwC_cells Rr_6
  go_wp2
  go_ret
  exact ⟨rfl, B6⟩
end Go.Proofs.YtaoccmopfflkmaaDoor
namespace Go.Proofs.YtaoccmopfflkmaaDoor
set_option maxRecDepth 100000
set_option maxHeartbeats 40000000
set_option maxRecDepth 100000
open Go.RowKit WMath
set_option linter.unusedSimpArgs false
set_option linter.unusedVariables false
def CAt (W : World) (g o : Nat) (x : In) : Prop := W.cell? ⟨g, o, none⟩ = some (.int .u8 (x.op : Nat)) ∧ W.cell? ⟨g, o + 1, none⟩ = some (.int .u8 (x.form : Nat)) ∧ W.cell? ⟨g, o + 2, none⟩ = some (.int .u8 (x.frm : Nat)) ∧ W.cell? ⟨g, o + 3, none⟩ = some (.int .u8 (x.kind : Nat)) ∧ W.cell? ⟨g, o + 4, none⟩ = some (.int .u8 (x.rd : Nat)) ∧ W.cell? ⟨g, o + 5, none⟩ = some (.int .u8 (x.rs1 : Nat)) ∧ W.cell? ⟨g, o + 6, none⟩ = some (.int .u8 (x.rs2 : Nat)) ∧ W.cell? ⟨g, o + 7, none⟩ = some (.int .u8 (x.rs3 : Nat)) ∧ W.cell? ⟨g, o + 8, none⟩ = some (.int .u8 (x.rm : Nat)) ∧ W.cell? ⟨g, o + 9, none⟩ = some (.int .i16 x.imm) ∧ W.cell? ⟨g, o + 10, none⟩ = some (.int .u8 (x.csr : Nat))
theorem CAt.below {W V : World} {g o : Nat} {x : In} (h : CAt W g o x) (b : Below W.heap.size W V) : CAt V g o x := by
  obtain ⟨h0, h1, h2, h3, h4, h5, h6, h7, h8, h9, h10⟩ := h
  exact ⟨cellB b h0, cellB b h1, cellB b h2, cellB b h3, cellB b h4, cellB b h5, cellB b h6, cellB b h7, cellB b h8, cellB b h9, cellB b h10⟩
end Go.Proofs.YtaoccmopfflkmaaDoor
namespace Go.Proofs.YtaoccmopfflkmaaDoor
set_option maxRecDepth 100000
set_option maxHeartbeats 40000000
set_option maxRecDepth 100000
open Go.RowKit Go.Shelf WMath
set_option linter.unusedSimpArgs false
set_option linter.unusedVariables false
theorem enR_yes {x : In} (h : mayI x = true) : ∃ p, ofR24 x.op x.form x.frm x.kind = some p ∧ p ∈ allL ∧ enR x = (encW p.1 x, 0) ∧ encW p.1 x < 4294967296 ∧ fdL (encW p.1 x) = some p ∧ dcI p.1 (encW p.1 x) = x := by
  obtain ⟨p, hp, hm, hlt, hf, hd⟩ := enc_dec h
  exact ⟨p, hp, hm, by unfold enR; rw [h, hp]; rfl, hlt, hf, hd⟩
theorem enR_no {x : In} (h : mayI x = false) : enR x = (0, 260) := by unfold enR; rw [h]; rfl
theorem enR_may {x : In} : (enR x).2 = 0 ↔ mayI x = true := by
  cases h : mayI x with
  | false => rw [enR_no h]; simp
  | true => obtain ⟨p, _, _, e, _⟩ := enR_yes h; rw [e]; simp
def wiR (W : Nat) (x : In) : Nat × Int := match fdL W with
  | none => (0, 250)
  | some p => if (enR x).2 = 0 ∧ x.op = p.1.op ∧ x.form = p.1.form ∧ x.frm = p.1.frm ∧ x.kind = p.1.kind then ((enR x).1, 0) else (0, 260)
theorem l26a : enR ⟨7, 0, 0, 0, 1, 2, 3, 0, 0, 0, 0⟩ = (3211475, 0) := by decide +kernel
theorem l26b : enR ⟨2, 0, 0, 0, 0, 2, 1, 0, 0, -4, 0⟩ = (4262538791, 0) := by decide +kernel
theorem l26c : (enR ⟨7, 0, 0, 0, 0, 0, 0, 0, 5, 0, 0⟩).2 = 260 := by decide +kernel
theorem l26d : mayI ⟨23, 3, 0, 0, 0, 0, 0, 0, 0, 0, 0⟩ = false := by decide +kernel
theorem lives26 {T : World → Prop} (FB : Box (∀ {w w' : World}, T w → Below w.heap.size w w' → T w')) (CE : ∀ x : In, InOk x → Box (∀ w, T w → Calls Tryd.prog 9 #[.agg (inC x)] w fun r w' => r = .returned (.tuple #[.int .u32 ((enR x).1 : Nat), .int .i64 (enR x).2]) ∧ Below w.heap.size w w')) (CM : ∀ x : In, InOk x → Box (∀ w, T w → Calls Tryd.prog 11 #[.agg (inC x)] w fun r w' => r = .returned (.bool (mayI x)) ∧ Below w.heap.size w w')) (w : World) (hT : T w) : Calls Tryd.prog 13 #[] w fun r w' => r = .returned (.bool true) ∧ Below w.heap.size w w' := by
  have F1 := CE ⟨7, 0, 0, 0, 1, 2, 3, 0, 0, 0, 0⟩ (by unfold InOk; decide)
  have F2 := CE ⟨2, 0, 0, 0, 0, 2, 1, 0, 0, -4, 0⟩ (by unfold InOk; decide)
  have F3 := CE ⟨7, 0, 0, 0, 0, 0, 0, 0, 5, 0, 0⟩ (by unfold InOk; decide)
  have F4 := CM ⟨23, 3, 0, 0, 0, 0, 0, 0, 0, 0, 0⟩ (by unfold InOk; decide)
  rw [l26a] at F1
  rw [l26b] at F2
  rw [l26c] at F3
  rw [l26d] at F4
  exact en_lives FB F1 F2 _ F3 F4 w hT
theorem with26 {T : World → Prop} (FB : Box (∀ {w w' : World}, T w → Below w.heap.size w w' → T w')) (CW : ∀ (W : Nat) (x : In), W < 4294967296 → InOk x → Box (∀ w, T w → Calls Tryd.prog 16 #[.int .u32 (W : Nat), .agg (inC x)] w fun r w' => r = .returned (.tuple #[.int .u32 ((wiR W x).1 : Nat), .int .i64 (wiR W x).2]) ∧ Below w.heap.size w w')) (KL : Box (∀ w, T w → Calls Tryd.prog 13 #[] w fun r w' => r = .returned (.bool true) ∧ Below w.heap.size w w')) (W : Nat) (x : In) (hW : W < 4294967296) (hi : InOk x) (w : World) (hT : T w) : Calls Tryd.prog 5 #[.int .u32 (W : Nat), .agg (inC x)] w fun r w' => r = .returned (.bool true) ∧ Below w.heap.size w w' := by
  have F := CW W x hW hi
  have R := box (fun w => rEn26 x w)
  unfold wiR at F
  cases h : fdL W with
  | none =>
    rw [h] at F
    exact en_with_nf FB W x _ _ F (box (fun w => rFind24 W hW _ _ false rfl (by rw [h]; rfl) w)) KL w hT
  | some p =>
    have RF := box (fun w => rFind24 W hW p.1 p.2 true (by rw [h]; rfl) (by rw [h]; rfl) w)
    rw [h] at F
    simp only at F
    by_cases e : (enR x).2 = 0
    · rw [e] at R
      by_cases d : x.op = p.1.op ∧ x.form = p.1.form ∧ x.frm = p.1.frm ∧ x.kind = p.1.kind
      · rw [if_pos ⟨e, d⟩] at F
        exact en_with_y FB W x _ _ _ (bneE _ _ d.1) (bneE _ _ d.2.1) (bneE _ _ d.2.2.1) (bneE _ _ d.2.2.2) F RF R KL w hT
      · rw [if_neg (fun z => d z.2)] at F
        exact en_with_no FB W x _ _ _ (by omega) F RF R KL w hT
    · rw [if_neg (fun z => e z.1)] at F
      exact en_with_ne FB W x _ _ _ _ (by simpa using e) F RF R KL w hT
end Go.Proofs.YtaoccmopfflkmaaDoor
