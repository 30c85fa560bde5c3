/-
  What the functions that the statement reaches return: part 14 (WE, WF, WG, WI, ZH).
-/
import Derived.Laws.AppendOwn
import Derived.Deep.RegionLaw
import Derived.Deep.AppendLies
import Derived.Test.YtaoccmopfflkmaaDoorIa13
namespace Go.Proofs.YtaoccmopfflkmaaDoor
set_option maxRecDepth 100000
set_option maxHeartbeats 40000000
set_option maxRecDepth 100000
open Go.RowKit WMath
set_option linter.unusedSimpArgs false
set_option linter.unusedVariables false
theorem rOf26 (x : In) : (∀ p, ofR24 x.op x.form x.frm x.kind = some p → Box (∀ w, Calls Tryd.prog 26 #[.int .u8 (x.op : Nat), .int .u8 (x.form : Nat), .int .u8 (x.frm : Nat), .int .u8 (x.kind : Nat)] w fun r w' => r = .returned (.tuple #[.agg (ndC p.1 ⟨p.2.toArray⟩), .int .i64 0]) ∧ Below w.heap.size w w')) ∧
    (ofR24 x.op x.form x.frm x.kind = none → ∃ rr nn, ∃ e : Int, (e != 0) = true ∧ Box (∀ w, Calls Tryd.prog 26 #[.int .u8 (x.op : Nat), .int .u8 (x.form : Nat), .int .u8 (x.frm : Nat), .int .u8 (x.kind : Nat)] w fun r w' => r = .returned (.tuple #[.agg (ndC rr nn), .int .i64 e]) ∧ Below w.heap.size w w')) := by
  refine ⟨fun p h => box (fun w => rOf24 x.op x.form x.frm x.kind p.1 p.2 0 (by rw [h]; rfl) (ofR_some h).2 w), fun h => ?_⟩
  rcases ofR_none h with e | e
  · exact ⟨_, _, 2, rfl, box (fun w => rOf24 x.op x.form x.frm x.kind _ _ 2 rfl e w)⟩
  · exact ⟨_, _, 240, rfl, box (fun w => rOf24 x.op x.form x.frm x.kind _ _ 240 rfl e w)⟩
theorem rMay26 (x : In) (w : World) : Calls Tryd.prog 12 #[.agg (inC x)] w fun r w' => r = .returned (.bool (mayI x)) ∧ Below w.heap.size w w' := by
  obtain ⟨h1, h2⟩ := rOf26 x
  unfold mayI
  cases h : ofR24 x.op x.form x.frm x.kind with
  | none =>
    obtain ⟨rr, nn, e, he, RO⟩ := h2 h
    exact b26_may_no x rr nn e he RO w
  | some p => exact b26_may x p.1 _ _ (h1 p h) (box (fun w => rFl25 p.1.lay w)) w
theorem w64i (y : Int) (h : -9223372036854775808 ≤ y ∧ y < 9223372036854775808) : wrap64 y = y := by
  unfold wrap64
  omega
theorem w64n (n : Nat) (h : n < 9223372036854775808) : wrap64 ((n : Nat) : Int) = ((n : Nat) : Int) := w64i _ (by omega)
theorem immF (iv : Nat) (h : iv < 4096) : (((iv : Nat) : Int).tdiv 32 = ((iv / 32 : Nat) : Int)) ∧ (((iv : Nat) : Int).tmod 32 = ((iv % 32 : Nat) : Int)) ∧ (IntKind.i64.wrap (((iv : Nat) : Int).tdiv 32) = ((iv / 32 : Nat) : Int)) ∧ (IntKind.i64.wrap (((iv : Nat) : Int).tmod 32) = ((iv % 32 : Nat) : Int)) ∧ (((iv : Nat) : Int) / 32 = ((iv / 32 : Nat) : Int)) ∧ (((iv : Nat) : Int) % 32 = ((iv % 32 : Nat) : Int)) ∧
    (wrap64 (((iv : Nat) : Int).tdiv 32) = ((iv / 32 : Nat) : Int)) ∧ (wrap64 (((iv : Nat) : Int).tmod 32) = ((iv % 32 : Nat) : Int)) ∧ (wrap64 ((iv / 32 : Nat) : Int) = ((iv / 32 : Nat) : Int)) ∧ (wrap64 ((iv % 32 : Nat) : Int) = ((iv % 32 : Nat) : Int)) ∧ (wrap64 ((iv : Nat) : Int) = ((iv : Nat) : Int)) ∧ (IntKind.i64.wrap ((iv : Nat) : Int) = ((iv : Nat) : Int)) ∧ (wrap64 ((iv : Nat) : Int) = ((iv : Nat) : Int)) ∧ decide (((iv : Nat) : Int) < 0) = false := by
  have v1 : IntKind.i64.wrap ((iv / 32 : Nat) : Int) = ((iv / 32 : Nat) : Int) := by rw [IntKind.wrap_i64]; omega
  have v2 : IntKind.i64.wrap ((iv % 32 : Nat) : Int) = ((iv % 32 : Nat) : Int) := by rw [IntKind.wrap_i64]; omega
  have v3 : IntKind.i64.wrap ((iv : Nat) : Int) = ((iv : Nat) : Int) := by rw [IntKind.wrap_i64]; omega
  have w1 := w64n (iv / 32) (Nat.lt_of_le_of_lt (Nat.div_le_self _ _) (Nat.lt_trans h (by decide)))
  have w2 := w64n (iv % 32) (Nat.lt_of_le_of_lt (Nat.mod_le _ _) (Nat.lt_trans h (by decide)))
  have w3 := w64n iv (Nat.lt_trans h (by decide))
  exact ⟨rfl, rfl, v1, v2, rfl, rfl, w1, w2, w1, w2, w3, v3, w3, decide_eq_false (Int.not_lt.2 (Int.natCast_nonneg iv))⟩
theorem addm (a b : Nat) (h : a + b < 4294967296) : ((a : Int) + (b : Int)) % 4294967296 = ((a + b : Nat) : Int) := by omega
theorem pt5 (l v : Nat) (h : v ≤ 31) : ptW l 5 v = v * 2 ^ l := by unfold ptW; rw [Nat.mod_eq_of_lt (by omega)]
theorem pt3 (l v : Nat) (h : v ≤ 7) : ptW l 3 v = v * 2 ^ l := by unfold ptW; rw [Nat.mod_eq_of_lt (by omega)]
theorem pt7 (l v : Nat) (h : v < 128) : ptW l 7 v = v * 2 ^ l := by unfold ptW; rw [Nat.mod_eq_of_lt (by omega)]
theorem pt12 (l v : Nat) (h : v < 4096) : ptW l 12 v = v * 2 ^ l := by unfold ptW; rw [Nat.mod_eq_of_lt (by omega)]
set_option maxRecDepth 100000 in
set_option maxHeartbeats 8000000 in
theorem r_enc1 (x : In) (p : Nm) (hp : ofR24 x.op x.form x.frm x.kind = some p) (hl : p.1.lay = 1) (hb : bndI x = true) (hf : fitI (hsL p.1.lay) x = true) (hlt : encW p.1 x < 4294967296) (RM : Box (∀ w, Calls Tryd.prog 12 #[.agg (inC x)] w fun r w' => r = .returned (.bool true) ∧ Below w.heap.size w w')) (w : World) : Calls Tryd.prog 10 #[.agg (inC x)] w fun r w' => r = .returned (.tuple #[.int .u32 (encW p.1 x : Nat), .int .i64 0]) ∧ Below w.heap.size w w' := by
  have RO := (rOf26 x).1 p hp
  have RF := box (fun w => rFl25 p.1.lay w)
  have hh : hsL p.1.lay = ⟨true, false, false, false, true, false⟩ := by rw [hl]; rfl
  rw [hh] at RF hf
  unfold bndI at hb
  obtain ⟨a1, a2, a3, a4, a5, a6, a7, a8, a9, a10⟩ := of_decide_eq_true hb
  have hw : IntKind.i64.wrap x.imm = x.imm := by rw [IntKind.wrap_i64]; omega
  have hw2 : wrap64 x.imm = x.imm := w64i _ (by omega)
  have q1 : (((p.1.lay : Nat) : Int) == 1) = true := by rw [hl]; rfl
  have q2 : (((p.1.lay : Nat) : Int) == 2) = false := by rw [hl]; rfl
  have hI : imN x.imm < 4096 := imN_lt a8 a9
  have hE : encW p.1 x = p.1.mtch + ptW 15 5 x.rs1 + ptW 7 5 x.rd + ptW 20 12 (imN x.imm) := by
    unfold encW fsW
    rw [hl]
    simp only [pt5 15 x.rs1 a2, pt5 7 x.rd a1, pt12 20 (imN x.imm) hI]
    simp
    omega
  have hlt2 := hlt
  rw [hE] at hlt2
  rw [hE]
  obtain ⟨iv, hiv⟩ : ∃ iv, imN x.imm = iv := ⟨_, rfl⟩
  rw [hiv] at hI hlt2 ⊢
  have g0 : x.rs1 < 9223372036854775808 := by omega
  have g1 : x.rd < 9223372036854775808 := by omega
  have g2 : iv < 9223372036854775808 := by omega
  have f0 := w64n x.rs1 (by omega)
  have f1 := w64n x.rd (by omega)
  have e0 := addm (p.1.mtch) (ptW 15 5 x.rs1) (by omega)
  have e1 := addm (p.1.mtch + ptW 15 5 x.rs1) (ptW 7 5 x.rd) (by omega)
  have e2 := addm (p.1.mtch + ptW 15 5 x.rs1 + ptW 7 5 x.rd) (ptW 20 12 iv) (by omega)
  by_cases g : x.imm < 0
  · have hx : x.imm + 4096 = (iv : Nat) := by unfold imN at hiv; rw [if_pos g] at hiv; omega
    have hn := decide_eq_true g
    obtain ⟨t1, t2, t3, t4, t5, t6, t7, t8, t9, t10, t11, t12, t13, t14⟩ := immF iv hI
    rw [← hx] at t12 t13
    rw [hx] at t12 t13
    have hv : IntKind.i64.wrap (x.imm + 4096) = (iv : Nat) := by rw [hx]; exact t12
    have hv2 : wrap64 (x.imm + 4096) = (iv : Nat) := by rw [hx]; exact t13
    exact b26_enc_1n x p.1 _ hw hw2 f0 f1 iv (iv / 32) (iv % 32) hn hv hv2 t3 t4 t1 t2 t7 t8 t9 t10 t11 t5 t6 q1 q2 RM RO RF _ (box (fun w => b25_put 15 5 x.rs1 g0 (by decide) w)) _ (box (fun w => b25_put 7 5 x.rd g1 (by decide) w)) _ (box (fun w => b25_put 20 12 iv g2 (by decide) w)) _ e0 _ e1 _ e2 w
  · have hx : x.imm = (iv : Nat) := by unfold imN at hiv; rw [if_neg g] at hiv; omega
    have hn := decide_eq_false g
    obtain ⟨t1, t2, t3, t4, t5, t6, t7, t8, t9, t10, t11, t12, t13, t14⟩ := immF iv hI
    exact b26_enc_1p x p.1 _ hw hw2 f0 f1 iv (iv / 32) (iv % 32) hn (box hx) t14 t3 t4 t1 t2 t7 t8 t9 t10 t11 t5 t6 q1 q2 RM RO RF _ (box (fun w => b25_put 15 5 x.rs1 g0 (by decide) w)) _ (box (fun w => b25_put 7 5 x.rd g1 (by decide) w)) _ (box (fun w => b25_put 20 12 iv g2 (by decide) w)) _ e0 _ e1 _ e2 w
set_option maxRecDepth 100000 in
set_option maxHeartbeats 8000000 in
theorem r_enc2 (x : In) (p : Nm) (hp : ofR24 x.op x.form x.frm x.kind = some p) (hl : p.1.lay = 2) (hb : bndI x = true) (hf : fitI (hsL p.1.lay) x = true) (hlt : encW p.1 x < 4294967296) (RM : Box (∀ w, Calls Tryd.prog 12 #[.agg (inC x)] w fun r w' => r = .returned (.bool true) ∧ Below w.heap.size w w')) (w : World) : Calls Tryd.prog 10 #[.agg (inC x)] w fun r w' => r = .returned (.tuple #[.int .u32 (encW p.1 x : Nat), .int .i64 0]) ∧ Below w.heap.size w w' := by
  have RO := (rOf26 x).1 p hp
  have RF := box (fun w => rFl25 p.1.lay w)
  have hh : hsL p.1.lay = ⟨false, true, false, false, true, false⟩ := by rw [hl]; rfl
  rw [hh] at RF hf
  unfold bndI at hb
  obtain ⟨a1, a2, a3, a4, a5, a6, a7, a8, a9, a10⟩ := of_decide_eq_true hb
  have hw : IntKind.i64.wrap x.imm = x.imm := by rw [IntKind.wrap_i64]; omega
  have hw2 : wrap64 x.imm = x.imm := w64i _ (by omega)
  have q1 : (((p.1.lay : Nat) : Int) == 1) = false := by rw [hl]; rfl
  have q2 : (((p.1.lay : Nat) : Int) == 2) = true := by rw [hl]; rfl
  have hI : imN x.imm < 4096 := imN_lt a8 a9
  have hE : encW p.1 x = p.1.mtch + ptW 15 5 x.rs1 + ptW 20 5 x.rs2 + ptW 25 7 (imN x.imm / 32) + ptW 7 5 (imN x.imm % 32) := by
    unfold encW fsW
    rw [hl]
    simp only [pt5 15 x.rs1 a2, pt5 20 x.rs2 a3, pt7 25 (imN x.imm / 32) (by omega), pt5 7 (imN x.imm % 32) (by omega)]
    simp
    omega
  have hlt2 := hlt
  rw [hE] at hlt2
  rw [hE]
  obtain ⟨iv, hiv⟩ : ∃ iv, imN x.imm = iv := ⟨_, rfl⟩
  rw [hiv] at hI hlt2 ⊢
  have g0 : x.rs1 < 9223372036854775808 := by omega
  have g1 : x.rs2 < 9223372036854775808 := by omega
  have g2 : (iv / 32) < 9223372036854775808 := by omega
  have g3 : (iv % 32) < 9223372036854775808 := by omega
  have f0 := w64n x.rs1 (by omega)
  have f1 := w64n x.rs2 (by omega)
  have e0 := addm (p.1.mtch) (ptW 15 5 x.rs1) (by omega)
  have e1 := addm (p.1.mtch + ptW 15 5 x.rs1) (ptW 20 5 x.rs2) (by omega)
  have e2 := addm (p.1.mtch + ptW 15 5 x.rs1 + ptW 20 5 x.rs2) (ptW 25 7 (iv / 32)) (by omega)
  have e3 := addm (p.1.mtch + ptW 15 5 x.rs1 + ptW 20 5 x.rs2 + ptW 25 7 (iv / 32)) (ptW 7 5 (iv % 32)) (by omega)
  by_cases g : x.imm < 0
  · have hx : x.imm + 4096 = (iv : Nat) := by unfold imN at hiv; rw [if_pos g] at hiv; omega
    have hn := decide_eq_true g
    obtain ⟨t1, t2, t3, t4, t5, t6, t7, t8, t9, t10, t11, t12, t13, t14⟩ := immF iv hI
    rw [← hx] at t12 t13
    rw [hx] at t12 t13
    have hv : IntKind.i64.wrap (x.imm + 4096) = (iv : Nat) := by rw [hx]; exact t12
    have hv2 : wrap64 (x.imm + 4096) = (iv : Nat) := by rw [hx]; exact t13
    exact b26_enc_2n x p.1 _ hw hw2 f0 f1 iv (iv / 32) (iv % 32) hn hv hv2 t3 t4 t1 t2 t7 t8 t9 t10 t11 t5 t6 q1 q2 RM RO RF _ (box (fun w => b25_put 15 5 x.rs1 g0 (by decide) w)) _ (box (fun w => b25_put 20 5 x.rs2 g1 (by decide) w)) _ (box (fun w => b25_put 25 7 (iv / 32) g2 (by decide) w)) _ (box (fun w => b25_put 7 5 (iv % 32) g3 (by decide) w)) _ e0 _ e1 _ e2 _ e3 w
  · have hx : x.imm = (iv : Nat) := by unfold imN at hiv; rw [if_neg g] at hiv; omega
    have hn := decide_eq_false g
    obtain ⟨t1, t2, t3, t4, t5, t6, t7, t8, t9, t10, t11, t12, t13, t14⟩ := immF iv hI
    exact b26_enc_2p x p.1 _ hw hw2 f0 f1 iv (iv / 32) (iv % 32) hn (box hx) t14 t3 t4 t1 t2 t7 t8 t9 t10 t11 t5 t6 q1 q2 RM RO RF _ (box (fun w => b25_put 15 5 x.rs1 g0 (by decide) w)) _ (box (fun w => b25_put 20 5 x.rs2 g1 (by decide) w)) _ (box (fun w => b25_put 25 7 (iv / 32) g2 (by decide) w)) _ (box (fun w => b25_put 7 5 (iv % 32) g3 (by decide) w)) _ e0 _ e1 _ e2 _ e3 w
set_option maxRecDepth 100000 in
set_option maxHeartbeats 8000000 in
theorem r_enc3 (x : In) (p : Nm) (hp : ofR24 x.op x.form x.frm x.kind = some p) (hl : p.1.lay = 3) (hb : bndI x = true) (hf : fitI (hsL p.1.lay) x = true) (hlt : encW p.1 x < 4294967296) (RM : Box (∀ w, Calls Tryd.prog 12 #[.agg (inC x)] w fun r w' => r = .returned (.bool true) ∧ Below w.heap.size w w')) (w : World) : Calls Tryd.prog 10 #[.agg (inC x)] w fun r w' => r = .returned (.tuple #[.int .u32 (encW p.1 x : Nat), .int .i64 0]) ∧ Below w.heap.size w w' := by
  have RO := (rOf26 x).1 p hp
  have RF := box (fun w => rFl25 p.1.lay w)
  have hh : hsL p.1.lay = ⟨true, true, true, true, false, false⟩ := by rw [hl]; rfl
  rw [hh] at RF hf
  unfold bndI at hb
  obtain ⟨a1, a2, a3, a4, a5, a6, a7, a8, a9, a10⟩ := of_decide_eq_true hb
  have hw : IntKind.i64.wrap x.imm = x.imm := by rw [IntKind.wrap_i64]; omega
  have hw2 : wrap64 x.imm = x.imm := w64i _ (by omega)
  have q1 : (((p.1.lay : Nat) : Int) == 1) = false := by rw [hl]; rfl
  have q2 : (((p.1.lay : Nat) : Int) == 2) = false := by rw [hl]; rfl
  have hz : x.imm = 0 := by simp [fitI] at hf; omega
  have hn : decide (x.imm < 0) = false := decide_eq_false (by omega)
  have hE : encW p.1 x = p.1.mtch + ptW 15 5 x.rs1 + ptW 7 5 x.rd + ptW 20 5 x.rs2 + ptW 27 5 x.rs3 + ptW 12 3 x.rm := by
    unfold encW fsW
    rw [hl]
    simp only [pt5 15 x.rs1 a2, pt5 7 x.rd a1, pt5 20 x.rs2 a3, pt5 27 x.rs3 a4, pt3 12 x.rm a5]
    simp
    omega
  have hlt2 := hlt
  rw [hE] at hlt2
  rw [hE]
  exact b26_enc_3 x p.1 _ hw hw2 (w64n x.rs1 (by omega)) (w64n x.rd (by omega)) (w64n x.rs2 (by omega)) (w64n x.rs3 (by omega)) (w64n x.rm (by omega)) hn q1 q2 RM RO RF _ (box (fun w => b25_put 15 5 x.rs1 (by omega) (by decide) w)) _ (box (fun w => b25_put 7 5 x.rd (by omega) (by decide) w)) _ (box (fun w => b25_put 20 5 x.rs2 (by omega) (by decide) w)) _ (box (fun w => b25_put 27 5 x.rs3 (by omega) (by decide) w)) _ (box (fun w => b25_put 12 3 x.rm (by omega) (by decide) w)) _ (addm _ _ (by omega)) _ (addm _ _ (by omega)) _ (addm _ _ (by omega)) _ (addm _ _ (by omega)) _ (addm _ _ (by omega)) w
set_option maxRecDepth 100000 in
set_option maxHeartbeats 8000000 in
theorem r_enc4 (x : In) (p : Nm) (hp : ofR24 x.op x.form x.frm x.kind = some p) (hl : p.1.lay = 4) (hb : bndI x = true) (hf : fitI (hsL p.1.lay) x = true) (hlt : encW p.1 x < 4294967296) (RM : Box (∀ w, Calls Tryd.prog 12 #[.agg (inC x)] w fun r w' => r = .returned (.bool true) ∧ Below w.heap.size w w')) (w : World) : Calls Tryd.prog 10 #[.agg (inC x)] w fun r w' => r = .returned (.tuple #[.int .u32 (encW p.1 x : Nat), .int .i64 0]) ∧ Below w.heap.size w w' := by
  have RO := (rOf26 x).1 p hp
  have RF := box (fun w => rFl25 p.1.lay w)
  have hh : hsL p.1.lay = ⟨true, true, false, true, false, false⟩ := by rw [hl]; rfl
  rw [hh] at RF hf
  unfold bndI at hb
  obtain ⟨a1, a2, a3, a4, a5, a6, a7, a8, a9, a10⟩ := of_decide_eq_true hb
  have hw : IntKind.i64.wrap x.imm = x.imm := by rw [IntKind.wrap_i64]; omega
  have hw2 : wrap64 x.imm = x.imm := w64i _ (by omega)
  have q1 : (((p.1.lay : Nat) : Int) == 1) = false := by rw [hl]; rfl
  have q2 : (((p.1.lay : Nat) : Int) == 2) = false := by rw [hl]; rfl
  have hz : x.imm = 0 := by simp [fitI] at hf; omega
  have hn : decide (x.imm < 0) = false := decide_eq_false (by omega)
  have hE : encW p.1 x = p.1.mtch + ptW 15 5 x.rs1 + ptW 7 5 x.rd + ptW 20 5 x.rs2 + ptW 12 3 x.rm := by
    unfold encW fsW
    rw [hl]
    simp only [pt5 15 x.rs1 a2, pt5 7 x.rd a1, pt5 20 x.rs2 a3, pt3 12 x.rm a5]
    simp
    omega
  have hlt2 := hlt
  rw [hE] at hlt2
  rw [hE]
  exact b26_enc_4 x p.1 _ hw hw2 (w64n x.rs1 (by omega)) (w64n x.rd (by omega)) (w64n x.rs2 (by omega)) (w64n x.rm (by omega)) hn q1 q2 RM RO RF _ (box (fun w => b25_put 15 5 x.rs1 (by omega) (by decide) w)) _ (box (fun w => b25_put 7 5 x.rd (by omega) (by decide) w)) _ (box (fun w => b25_put 20 5 x.rs2 (by omega) (by decide) w)) _ (box (fun w => b25_put 12 3 x.rm (by omega) (by decide) w)) _ (addm _ _ (by omega)) _ (addm _ _ (by omega)) _ (addm _ _ (by omega)) _ (addm _ _ (by omega)) w
set_option maxRecDepth 100000 in
set_option maxHeartbeats 8000000 in
theorem r_enc5 (x : In) (p : Nm) (hp : ofR24 x.op x.form x.frm x.kind = some p) (hl : p.1.lay = 5) (hb : bndI x = true) (hf : fitI (hsL p.1.lay) x = true) (hlt : encW p.1 x < 4294967296) (RM : Box (∀ w, Calls Tryd.prog 12 #[.agg (inC x)] w fun r w' => r = .returned (.bool true) ∧ Below w.heap.size w w')) (w : World) : Calls Tryd.prog 10 #[.agg (inC x)] w fun r w' => r = .returned (.tuple #[.int .u32 (encW p.1 x : Nat), .int .i64 0]) ∧ Below w.heap.size w w' := by
  have RO := (rOf26 x).1 p hp
  have RF := box (fun w => rFl25 p.1.lay w)
  have hh : hsL p.1.lay = ⟨true, true, false, false, false, false⟩ := by rw [hl]; rfl
  rw [hh] at RF hf
  unfold bndI at hb
  obtain ⟨a1, a2, a3, a4, a5, a6, a7, a8, a9, a10⟩ := of_decide_eq_true hb
  have hw : IntKind.i64.wrap x.imm = x.imm := by rw [IntKind.wrap_i64]; omega
  have hw2 : wrap64 x.imm = x.imm := w64i _ (by omega)
  have q1 : (((p.1.lay : Nat) : Int) == 1) = false := by rw [hl]; rfl
  have q2 : (((p.1.lay : Nat) : Int) == 2) = false := by rw [hl]; rfl
  have hz : x.imm = 0 := by simp [fitI] at hf; omega
  have hn : decide (x.imm < 0) = false := decide_eq_false (by omega)
  have hE : encW p.1 x = p.1.mtch + ptW 15 5 x.rs1 + ptW 7 5 x.rd + ptW 20 5 x.rs2 := by
    unfold encW fsW
    rw [hl]
    simp only [pt5 15 x.rs1 a2, pt5 7 x.rd a1, pt5 20 x.rs2 a3]
    simp
    omega
  have hlt2 := hlt
  rw [hE] at hlt2
  rw [hE]
  exact b26_enc_5 x p.1 _ hw hw2 (w64n x.rs1 (by omega)) (w64n x.rd (by omega)) (w64n x.rs2 (by omega)) hn q1 q2 RM RO RF _ (box (fun w => b25_put 15 5 x.rs1 (by omega) (by decide) w)) _ (box (fun w => b25_put 7 5 x.rd (by omega) (by decide) w)) _ (box (fun w => b25_put 20 5 x.rs2 (by omega) (by decide) w)) _ (addm _ _ (by omega)) _ (addm _ _ (by omega)) _ (addm _ _ (by omega)) w
set_option maxRecDepth 100000 in
set_option maxHeartbeats 8000000 in
theorem r_enc6 (x : In) (p : Nm) (hp : ofR24 x.op x.form x.frm x.kind = some p) (hl : p.1.lay = 6) (hb : bndI x = true) (hf : fitI (hsL p.1.lay) x = true) (hlt : encW p.1 x < 4294967296) (RM : Box (∀ w, Calls Tryd.prog 12 #[.agg (inC x)] w fun r w' => r = .returned (.bool true) ∧ Below w.heap.size w w')) (w : World) : Calls Tryd.prog 10 #[.agg (inC x)] w fun r w' => r = .returned (.tuple #[.int .u32 (encW p.1 x : Nat), .int .i64 0]) ∧ Below w.heap.size w w' := by
  have RO := (rOf26 x).1 p hp
  have RF := box (fun w => rFl25 p.1.lay w)
  have hh : hsL p.1.lay = ⟨true, false, false, true, false, false⟩ := by rw [hl]; rfl
  rw [hh] at RF hf
  unfold bndI at hb
  obtain ⟨a1, a2, a3, a4, a5, a6, a7, a8, a9, a10⟩ := of_decide_eq_true hb
  have hw : IntKind.i64.wrap x.imm = x.imm := by rw [IntKind.wrap_i64]; omega
  have hw2 : wrap64 x.imm = x.imm := w64i _ (by omega)
  have q1 : (((p.1.lay : Nat) : Int) == 1) = false := by rw [hl]; rfl
  have q2 : (((p.1.lay : Nat) : Int) == 2) = false := by rw [hl]; rfl
  have hz : x.imm = 0 := by simp [fitI] at hf; omega
  have hn : decide (x.imm < 0) = false := decide_eq_false (by omega)
  have hE : encW p.1 x = p.1.mtch + ptW 15 5 x.rs1 + ptW 7 5 x.rd + ptW 12 3 x.rm := by
    unfold encW fsW
    rw [hl]
    simp only [pt5 15 x.rs1 a2, pt5 7 x.rd a1, pt3 12 x.rm a5]
    simp
    omega
  have hlt2 := hlt
  rw [hE] at hlt2
  rw [hE]
  exact b26_enc_6 x p.1 _ hw hw2 (w64n x.rs1 (by omega)) (w64n x.rd (by omega)) (w64n x.rm (by omega)) hn q1 q2 RM RO RF _ (box (fun w => b25_put 15 5 x.rs1 (by omega) (by decide) w)) _ (box (fun w => b25_put 7 5 x.rd (by omega) (by decide) w)) _ (box (fun w => b25_put 12 3 x.rm (by omega) (by decide) w)) _ (addm _ _ (by omega)) _ (addm _ _ (by omega)) _ (addm _ _ (by omega)) w
set_option maxRecDepth 100000 in
set_option maxHeartbeats 8000000 in
theorem r_enc7 (x : In) (p : Nm) (hp : ofR24 x.op x.form x.frm x.kind = some p) (hl : p.1.lay = 7) (hb : bndI x = true) (hf : fitI (hsL p.1.lay) x = true) (hlt : encW p.1 x < 4294967296) (RM : Box (∀ w, Calls Tryd.prog 12 #[.agg (inC x)] w fun r w' => r = .returned (.bool true) ∧ Below w.heap.size w w')) (w : World) : Calls Tryd.prog 10 #[.agg (inC x)] w fun r w' => r = .returned (.tuple #[.int .u32 (encW p.1 x : Nat), .int .i64 0]) ∧ Below w.heap.size w w' := by
  have RO := (rOf26 x).1 p hp
  have RF := box (fun w => rFl25 p.1.lay w)
  have hh : hsL p.1.lay = ⟨true, false, false, false, false, false⟩ := by rw [hl]; rfl
  rw [hh] at RF hf
  unfold bndI at hb
  obtain ⟨a1, a2, a3, a4, a5, a6, a7, a8, a9, a10⟩ := of_decide_eq_true hb
  have hw : IntKind.i64.wrap x.imm = x.imm := by rw [IntKind.wrap_i64]; omega
  have hw2 : wrap64 x.imm = x.imm := w64i _ (by omega)
  have q1 : (((p.1.lay : Nat) : Int) == 1) = false := by rw [hl]; rfl
  have q2 : (((p.1.lay : Nat) : Int) == 2) = false := by rw [hl]; rfl
  have hz : x.imm = 0 := by simp [fitI] at hf; omega
  have hn : decide (x.imm < 0) = false := decide_eq_false (by omega)
  have hE : encW p.1 x = p.1.mtch + ptW 15 5 x.rs1 + ptW 7 5 x.rd := by
    unfold encW fsW
    rw [hl]
    simp only [pt5 15 x.rs1 a2, pt5 7 x.rd a1]
    simp
    omega
  have hlt2 := hlt
  rw [hE] at hlt2
  rw [hE]
  exact b26_enc_7 x p.1 _ hw hw2 (w64n x.rs1 (by omega)) (w64n x.rd (by omega)) hn q1 q2 RM RO RF _ (box (fun w => b25_put 15 5 x.rs1 (by omega) (by decide) w)) _ (box (fun w => b25_put 7 5 x.rd (by omega) (by decide) w)) _ (addm _ _ (by omega)) _ (addm _ _ (by omega)) w
set_option maxRecDepth 100000 in
set_option maxHeartbeats 8000000 in
theorem r_enc8 (x : In) (p : Nm) (hp : ofR24 x.op x.form x.frm x.kind = some p) (hl : p.1.lay = 8) (hb : bndI x = true) (hf : fitI (hsL p.1.lay) x = true) (hlt : encW p.1 x < 4294967296) (RM : Box (∀ w, Calls Tryd.prog 12 #[.agg (inC x)] w fun r w' => r = .returned (.bool true) ∧ Below w.heap.size w w')) (w : World) : Calls Tryd.prog 10 #[.agg (inC x)] w fun r w' => r = .returned (.tuple #[.int .u32 (encW p.1 x : Nat), .int .i64 0]) ∧ Below w.heap.size w w' := by
  have RO := (rOf26 x).1 p hp
  have RF := box (fun w => rFl25 p.1.lay w)
  have hh : hsL p.1.lay = ⟨true, false, false, false, false, true⟩ := by rw [hl]; rfl
  rw [hh] at RF hf
  unfold bndI at hb
  obtain ⟨a1, a2, a3, a4, a5, a6, a7, a8, a9, a10⟩ := of_decide_eq_true hb
  have hw : IntKind.i64.wrap x.imm = x.imm := by rw [IntKind.wrap_i64]; omega
  have hw2 : wrap64 x.imm = x.imm := w64i _ (by omega)
  have q1 : (((p.1.lay : Nat) : Int) == 1) = false := by rw [hl]; rfl
  have q2 : (((p.1.lay : Nat) : Int) == 2) = false := by rw [hl]; rfl
  have hz : x.imm = 0 := by simp [fitI] at hf; omega
  have hn : decide (x.imm < 0) = false := decide_eq_false (by omega)
  have hE : encW p.1 x = p.1.mtch + ptW 15 5 x.rs1 + ptW 7 5 x.rd + ptW 20 12 x.csr := by
    unfold encW fsW
    rw [hl]
    simp only [pt5 15 x.rs1 a2, pt5 7 x.rd a1, pt12 20 x.csr (by omega)]
    simp
    omega
  have hlt2 := hlt
  rw [hE] at hlt2
  rw [hE]
  exact b26_enc_8 x p.1 _ hw hw2 (w64n x.rs1 (by omega)) (w64n x.rd (by omega)) (w64n x.csr (by omega)) hn q1 q2 RM RO RF _ (box (fun w => b25_put 15 5 x.rs1 (by omega) (by decide) w)) _ (box (fun w => b25_put 7 5 x.rd (by omega) (by decide) w)) _ (box (fun w => b25_put 20 12 x.csr (by omega) (by decide) w)) _ (addm _ _ (by omega)) _ (addm _ _ (by omega)) _ (addm _ _ (by omega)) w
set_option maxRecDepth 100000 in
set_option maxHeartbeats 8000000 in
theorem r_enc9 (x : In) (p : Nm) (hp : ofR24 x.op x.form x.frm x.kind = some p) (hl : p.1.lay = 9) (hb : bndI x = true) (hf : fitI (hsL p.1.lay) x = true) (hlt : encW p.1 x < 4294967296) (RM : Box (∀ w, Calls Tryd.prog 12 #[.agg (inC x)] w fun r w' => r = .returned (.bool true) ∧ Below w.heap.size w w')) (w : World) : Calls Tryd.prog 10 #[.agg (inC x)] w fun r w' => r = .returned (.tuple #[.int .u32 (encW p.1 x : Nat), .int .i64 0]) ∧ Below w.heap.size w w' := by
  have RO := (rOf26 x).1 p hp
  have RF := box (fun w => rFl25 p.1.lay w)
  have hh : hsL p.1.lay = ⟨true, false, false, false, false, true⟩ := by rw [hl]; rfl
  rw [hh] at RF hf
  unfold bndI at hb
  obtain ⟨a1, a2, a3, a4, a5, a6, a7, a8, a9, a10⟩ := of_decide_eq_true hb
  have hw : IntKind.i64.wrap x.imm = x.imm := by rw [IntKind.wrap_i64]; omega
  have hw2 : wrap64 x.imm = x.imm := w64i _ (by omega)
  have q1 : (((p.1.lay : Nat) : Int) == 1) = false := by rw [hl]; rfl
  have q2 : (((p.1.lay : Nat) : Int) == 2) = false := by rw [hl]; rfl
  have hz : x.imm = 0 := by simp [fitI] at hf; omega
  have hn : decide (x.imm < 0) = false := decide_eq_false (by omega)
  have hE : encW p.1 x = p.1.mtch + ptW 15 5 x.rs1 + ptW 7 5 x.rd + ptW 20 12 x.csr := by
    unfold encW fsW
    rw [hl]
    simp only [pt5 15 x.rs1 a2, pt5 7 x.rd a1, pt12 20 x.csr (by omega)]
    simp
    omega
  have hlt2 := hlt
  rw [hE] at hlt2
  rw [hE]
  exact b26_enc_8 x p.1 _ hw hw2 (w64n x.rs1 (by omega)) (w64n x.rd (by omega)) (w64n x.csr (by omega)) hn q1 q2 RM RO RF _ (box (fun w => b25_put 15 5 x.rs1 (by omega) (by decide) w)) _ (box (fun w => b25_put 7 5 x.rd (by omega) (by decide) w)) _ (box (fun w => b25_put 20 12 x.csr (by omega) (by decide) w)) _ (addm _ _ (by omega)) _ (addm _ _ (by omega)) _ (addm _ _ (by omega)) w
theorem rEn26 (x : In) (w : World) : Calls Tryd.prog 10 #[.agg (inC x)] w fun r w' => r = .returned (.tuple #[.int .u32 ((enR x).1 : Nat), .int .i64 (enR x).2]) ∧ Below w.heap.size w w' := by
  have RM := box (fun w => rMay26 x w)
  cases hm : mayI x with
  | false =>
    rw [hm] at RM
    have e : enR x = (0, 260) := by unfold enR; rw [hm]; rfl
    rw [e]
    exact b26_enc_no x RM w
  | true =>
    rw [hm] at RM
    obtain ⟨p, hp, hmem, hlt, hfd, hdc⟩ := enc_dec hm
    have e : enR x = (encW p.1 x, 0) := by unfold enR; rw [hm, hp]; rfl
    rw [e]
    have hh := hm
    unfold mayI at hh
    rw [hp] at hh
    simp only [Bool.and_eq_true] at hh
    obtain ⟨hb, hf⟩ := hh
    obtain ⟨l1, l9, _⟩ := lay24 hmem
    rcases (by omega : p.1.lay = 1 ∨ p.1.lay = 2 ∨ p.1.lay = 3 ∨ p.1.lay = 4 ∨ p.1.lay = 5 ∨ p.1.lay = 6 ∨ p.1.lay = 7 ∨ p.1.lay = 8 ∨ p.1.lay = 9) with hl | hl | hl | hl | hl | hl | hl | hl | hl
    · exact r_enc1 x p hp hl hb hf hlt RM w
    · exact r_enc2 x p hp hl hb hf hlt RM w
    · exact r_enc3 x p hp hl hb hf hlt RM w
    · exact r_enc4 x p hp hl hb hf hlt RM w
    · exact r_enc5 x p hp hl hb hf hlt RM w
    · exact r_enc6 x p hp hl hb hf hlt RM w
    · exact r_enc7 x p hp hl hb hf hlt RM w
    · exact r_enc8 x p hp hl hb hf hlt RM w
    · exact r_enc9 x p hp hl hb hf hlt RM w
end Go.Proofs.YtaoccmopfflkmaaDoor
namespace Go.Proofs.YtaoccmopfflkmaaDoor
set_option maxRecDepth 100000
set_option maxHeartbeats 40000000
set_option maxRecDepth 100000
open Go.RowKit WMath
set_option linter.unusedSimpArgs false
set_option linter.unusedVariables false
set_option maxRecDepth 100000 in
set_option maxHeartbeats 8000000 in
theorem en_lives {T : World → Prop} (FB : Box (∀ {w w' : World}, T w → Below w.heap.size w w' → T w')) (K1 : Box (∀ w, T w → Calls Tryd.prog 9 #[.agg #[.int .u8 7, .int .u8 0, .int .u8 0, .int .u8 0, .int .u8 1, .int .u8 2, .int .u8 3, .int .u8 0, .int .u8 0, .int .i16 0, .int .u8 0]] w fun r w' => r = .returned (.tuple #[.int .u32 3211475, .int .i64 0]) ∧ Below w.heap.size w w')) (K2 : Box (∀ w, T w → Calls Tryd.prog 9 #[.agg #[.int .u8 2, .int .u8 0, .int .u8 0, .int .u8 0, .int .u8 0, .int .u8 2, .int .u8 1, .int .u8 0, .int .u8 0, .int .i16 (-4), .int .u8 0]] w fun r w' => r = .returned (.tuple #[.int .u32 4262538791, .int .i64 0]) ∧ Below w.heap.size w w')) (v3 : Nat) (K3 : Box (∀ w, T w → Calls Tryd.prog 9 #[.agg #[.int .u8 7, .int .u8 0, .int .u8 0, .int .u8 0, .int .u8 0, .int .u8 0, .int .u8 0, .int .u8 0, .int .u8 5, .int .i16 0, .int .u8 0]] w fun r w' => r = .returned (.tuple #[.int .u32 (v3 : Nat), .int .i64 260]) ∧ Below w.heap.size w w')) (K4 : Box (∀ w, T w → Calls Tryd.prog 11 #[.agg #[.int .u8 23, .int .u8 3, .int .u8 0, .int .u8 0, .int .u8 0, .int .u8 0, .int .u8 0, .int .u8 0, .int .u8 0, .int .i16 0, .int .u8 0]] w fun r w' => r = .returned (.bool false) ∧ Below w.heap.size w w')) (w : World) (hT : T w) : Calls Tryd.prog 13 #[] w fun r w' => r = .returned (.bool true) ∧ Below w.heap.size w w' := by
  have FF := box hT
  clear hT
  have B0 : Below w.heap.size w w := (Below.refl _ _)
  go_enter Tryd.func13, Tryd.ntmps13
  go_wp2_with fail
  refine (K1.out _ (FB.out FF.out B0)).mono ?_
  rintro r w1 ⟨rfl, b1⟩
  have B1 : Below w.heap.size w w1 := btr B0 b1
  clear b1 B0 
  go_wp2_with fail
  refine (K2.out _ (FB.out FF.out B1)).mono ?_
  rintro r w2 ⟨rfl, b2⟩
  have B2 : Below w.heap.size w w2 := btr B1 b2
  clear b2 B1 
  go_wp2_with fail
  refine (K3.out _ (FB.out FF.out B2)).mono ?_
  rintro r w3 ⟨rfl, b3⟩
  have B3 : Below w.heap.size w w3 := btr B2 b3
  clear b3 B2 
  go_wp2_with fail
  refine (K4.out _ (FB.out FF.out B3)).mono ?_
  rintro r w4 ⟨rfl, b4⟩
  have B4 : Below w.heap.size w w4 := btr B3 b4
  clear b4 B3 
  go_wp2
  go_ret
  exact ⟨rfl, B4⟩
set_option maxRecDepth 100000 in
set_option maxHeartbeats 8000000 in
theorem en_insts {T : World → Prop} (FB : Box (∀ {w w' : World}, T w → Below w.heap.size w w' → T w')) (x : In) (v : Nat) (e : Int) (m : Bool) (K1 : Box (∀ w, T w → Calls Tryd.prog 9 #[.agg (inC x)] w fun r w' => r = .returned (.tuple #[.int .u32 (v : Nat), .int .i64 e]) ∧ Below w.heap.size w w')) (R1 : Box (∀ w, Calls Tryd.prog 10 #[.agg (inC x)] w fun r w' => r = .returned (.tuple #[.int .u32 (v : Nat), .int .i64 e]) ∧ Below w.heap.size w w')) (K2 : Box (∀ w, T w → Calls Tryd.prog 11 #[.agg (inC x)] w fun r w' => r = .returned (.bool m) ∧ Below w.heap.size w w')) (R2 : Box (∀ w, Calls Tryd.prog 12 #[.agg (inC x)] w fun r w' => r = .returned (.bool m) ∧ Below w.heap.size w w')) (KL : Box (∀ w, T w → Calls Tryd.prog 13 #[] w fun r w' => r = .returned (.bool true) ∧ Below w.heap.size w w')) (w : World) (hT : T w) : Calls Tryd.prog 3 #[.agg (inC x)] w fun r w' => r = .returned (.bool true) ∧ Below w.heap.size w w' := by
  have FF := box hT
  clear hT
  have hin := inC_new
  have he := eqin
  have hif := inC_fold
  obtain ⟨Rx_0, B0⟩ := opn1 w (Obj.cells (inC x) 27)
  go_enter Tryd.func3, Tryd.ntmps3
  obtain ⟨cx_0_0, cx_0_1, cx_0_2, cx_0_3, cx_0_4, cx_0_5, cx_0_6, cx_0_7, cx_0_8, cx_0_9, cx_0_10⟩ := inC_cells Rx_0
  go_wp2_with fail
  refine (K1.out _ (FB.out FF.out B0)).mono ?_
  rintro r w1 ⟨rfl, b1⟩
  have B1 : Below w.heap.size w w1 := btr B0 b1
  have Rx_1 := heap_of b1 _ _ _ Rx_0
  clear b1 B0 Rx_0 cx_0_0 cx_0_1 cx_0_2 cx_0_3 cx_0_4 cx_0_5 cx_0_6 cx_0_7 cx_0_8 cx_0_9 cx_0_10
  obtain ⟨cx_1_0, cx_1_1, cx_1_2, cx_1_3, cx_1_4, cx_1_5, cx_1_6, cx_1_7, cx_1_8, cx_1_9, cx_1_10⟩ := inC_cells Rx_1
  go_wp2_with fail
  refine (R1.out _).mono ?_
  rintro r w2 ⟨rfl, b2⟩
  have B2 : Below w.heap.size w w2 := btr B1 b2
  have Rx_2 := heap_of b2 _ _ _ Rx_1
  clear b2 B1 Rx_1 cx_1_0 cx_1_1 cx_1_2 cx_1_3 cx_1_4 cx_1_5 cx_1_6 cx_1_7 cx_1_8 cx_1_9 cx_1_10
  obtain ⟨cx_2_0, cx_2_1, cx_2_2, cx_2_3, cx_2_4, cx_2_5, cx_2_6, cx_2_7, cx_2_8, cx_2_9, cx_2_10⟩ := inC_cells Rx_2
  go_wp2_with fail
  obtain ⟨F, hF1, hF2⟩ := below_fun w2
  have fx_0 := fun u => (inC_cells (heap_of (hF1 u) _ _ _ Rx_2)).1
  have fx_1 := fun u => (inC_cells (heap_of (hF1 u) _ _ _ Rx_2)).2.1
  have fx_2 := fun u => (inC_cells (heap_of (hF1 u) _ _ _ Rx_2)).2.2.1
  have fx_3 := fun u => (inC_cells (heap_of (hF1 u) _ _ _ Rx_2)).2.2.2.1
  have fx_4 := fun u => (inC_cells (heap_of (hF1 u) _ _ _ Rx_2)).2.2.2.2.1
  have fx_5 := fun u => (inC_cells (heap_of (hF1 u) _ _ _ Rx_2)).2.2.2.2.2.1
  have fx_6 := fun u => (inC_cells (heap_of (hF1 u) _ _ _ Rx_2)).2.2.2.2.2.2.1
  have fx_7 := fun u => (inC_cells (heap_of (hF1 u) _ _ _ Rx_2)).2.2.2.2.2.2.2.1
  have fx_8 := fun u => (inC_cells (heap_of (hF1 u) _ _ _ Rx_2)).2.2.2.2.2.2.2.2.1
  have fx_9 := fun u => (inC_cells (heap_of (hF1 u) _ _ _ Rx_2)).2.2.2.2.2.2.2.2.2.1
  have fx_10 := fun u => (inC_cells (heap_of (hF1 u) _ _ _ Rx_2)).2.2.2.2.2.2.2.2.2.2
  have FG : Box (∀ u, T (F u)) := box (fun u => FB.out FF.out (btr B2 (hF1 u)))
  refine wp_region_below F hF2 (by kernel_rfl) (by kernel_rfl) ?_
  repeat first | go_big_quiet_step (first | (go_at_call 11; exact quietF hF1 hF2 (K2.out _ (FG.out _))) | (go_at_call 12; exact quietF hF1 hF2 (R2.out _)) | (go_at_call 13; exact quietF hF1 hF2 (KL.out _ (FG.out _))) | fail) | quiet_step (first | (go_at_call 11; exact quietF hF1 hF2 (K2.out _ (FG.out _))) | (go_at_call 12; exact quietF hF1 hF2 (R2.out _)) | (go_at_call 13; exact quietF hF1 hF2 (KL.out _ (FG.out _))) | fail)
  refine wpQuiet_nil ?_
  rintro _ ⟨uW, rfl⟩
  have B3 := btr B2 (hF1 uW)
  have Rx_3 := heap_of (hF1 uW) _ _ _ Rx_2
  obtain ⟨w3, hw⟩ : ∃ V, F uW = V := ⟨_, rfl⟩
  rw [hw] at B3 Rx_3
  try rw [hw]
  clear hw hF1 hF2 B2 fx_0 fx_1 fx_2 fx_3 fx_4 fx_5 fx_6 fx_7 fx_8 fx_9 fx_10 Rx_2 cx_2_0 cx_2_1 cx_2_2 cx_2_3 cx_2_4 cx_2_5 cx_2_6 cx_2_7 cx_2_8 cx_2_9 cx_2_10
  clear FG
  clear F
  obtain ⟨cx_3_0, cx_3_1, cx_3_2, cx_3_3, cx_3_4, cx_3_5, cx_3_6, cx_3_7, cx_3_8, cx_3_9, cx_3_10⟩ := inC_cells Rx_3
  go_wp2
  go_ret
  exact ⟨rfl, B3⟩
end Go.Proofs.YtaoccmopfflkmaaDoor
namespace Go.Proofs.YtaoccmopfflkmaaDoor
set_option maxRecDepth 100000
set_option maxHeartbeats 40000000
set_option maxRecDepth 100000
open Go.RowKit WMath
set_option linter.unusedSimpArgs false
set_option linter.unusedVariables false
def CAt (W : World) (g o : Nat) (x : In) : Prop := W.cell? ⟨g, o, none⟩ = some (.int .u8 (x.op : Nat)) ∧ W.cell? ⟨g, o + 1, none⟩ = some (.int .u8 (x.form : Nat)) ∧ W.cell? ⟨g, o + 2, none⟩ = some (.int .u8 (x.frm : Nat)) ∧ W.cell? ⟨g, o + 3, none⟩ = some (.int .u8 (x.kind : Nat)) ∧ W.cell? ⟨g, o + 4, none⟩ = some (.int .u8 (x.rd : Nat)) ∧ W.cell? ⟨g, o + 5, none⟩ = some (.int .u8 (x.rs1 : Nat)) ∧ W.cell? ⟨g, o + 6, none⟩ = some (.int .u8 (x.rs2 : Nat)) ∧ W.cell? ⟨g, o + 7, none⟩ = some (.int .u8 (x.rs3 : Nat)) ∧ W.cell? ⟨g, o + 8, none⟩ = some (.int .u8 (x.rm : Nat)) ∧ W.cell? ⟨g, o + 9, none⟩ = some (.int .i16 x.imm) ∧ W.cell? ⟨g, o + 10, none⟩ = some (.int .u8 (x.csr : Nat))
theorem CAt.below {W V : World} {g o : Nat} {x : In} (h : CAt W g o x) (b : Below W.heap.size W V) : CAt V g o x := by
  obtain ⟨h0, h1, h2, h3, h4, h5, h6, h7, h8, h9, h10⟩ := h
  exact ⟨cellB b h0, cellB b h1, cellB b h2, cellB b h3, cellB b h4, cellB b h5, cellB b h6, cellB b h7, cellB b h8, cellB b h9, cellB b h10⟩
end Go.Proofs.YtaoccmopfflkmaaDoor
namespace Go.Proofs.YtaoccmopfflkmaaDoor
set_option maxRecDepth 100000
set_option maxHeartbeats 40000000
set_option maxRecDepth 100000
open Go.RowKit Go.Shelf WMath
set_option linter.unusedSimpArgs false
set_option linter.unusedVariables false
theorem enR_yes {x : In} (h : mayI x = true) : ∃ p, ofR24 x.op x.form x.frm x.kind = some p ∧ p ∈ allL ∧ enR x = (encW p.1 x, 0) ∧ encW p.1 x < 4294967296 ∧ fdL (encW p.1 x) = some p ∧ dcI p.1 (encW p.1 x) = x := by
  obtain ⟨p, hp, hm, hlt, hf, hd⟩ := enc_dec h
  exact ⟨p, hp, hm, by unfold enR; rw [h, hp]; rfl, hlt, hf, hd⟩
theorem enR_no {x : In} (h : mayI x = false) : enR x = (0, 260) := by unfold enR; rw [h]; rfl
theorem enR_may {x : In} : (enR x).2 = 0 ↔ mayI x = true := by
  cases h : mayI x with
  | false => rw [enR_no h]; simp
  | true => obtain ⟨p, _, _, e, _⟩ := enR_yes h; rw [e]; simp
theorem l26a : enR ⟨7, 0, 0, 0, 1, 2, 3, 0, 0, 0, 0⟩ = (3211475, 0) := by decide +kernel
theorem l26b : enR ⟨2, 0, 0, 0, 0, 2, 1, 0, 0, -4, 0⟩ = (4262538791, 0) := by decide +kernel
theorem l26c : (enR ⟨7, 0, 0, 0, 0, 0, 0, 0, 5, 0, 0⟩).2 = 260 := by decide +kernel
theorem l26d : mayI ⟨23, 3, 0, 0, 0, 0, 0, 0, 0, 0, 0⟩ = false := by decide +kernel
theorem lives26 {T : World → Prop} (FB : Box (∀ {w w' : World}, T w → Below w.heap.size w w' → T w')) (CE : ∀ x : In, InOk x → Box (∀ w, T w → Calls Tryd.prog 9 #[.agg (inC x)] w fun r w' => r = .returned (.tuple #[.int .u32 ((enR x).1 : Nat), .int .i64 (enR x).2]) ∧ Below w.heap.size w w')) (CM : ∀ x : In, InOk x → Box (∀ w, T w → Calls Tryd.prog 11 #[.agg (inC x)] w fun r w' => r = .returned (.bool (mayI x)) ∧ Below w.heap.size w w')) (w : World) (hT : T w) : Calls Tryd.prog 13 #[] w fun r w' => r = .returned (.bool true) ∧ Below w.heap.size w w' := by
  have F1 := CE ⟨7, 0, 0, 0, 1, 2, 3, 0, 0, 0, 0⟩ (by unfold InOk; decide)
  have F2 := CE ⟨2, 0, 0, 0, 0, 2, 1, 0, 0, -4, 0⟩ (by unfold InOk; decide)
  have F3 := CE ⟨7, 0, 0, 0, 0, 0, 0, 0, 5, 0, 0⟩ (by unfold InOk; decide)
  have F4 := CM ⟨23, 3, 0, 0, 0, 0, 0, 0, 0, 0, 0⟩ (by unfold InOk; decide)
  rw [l26a] at F1
  rw [l26b] at F2
  rw [l26c] at F3
  rw [l26d] at F4
  exact en_lives FB F1 F2 _ F3 F4 w hT
theorem insts26 {T : World → Prop} (FB : Box (∀ {w w' : World}, T w → Below w.heap.size w w' → T w')) (CE : ∀ x : In, InOk x → Box (∀ w, T w → Calls Tryd.prog 9 #[.agg (inC x)] w fun r w' => r = .returned (.tuple #[.int .u32 ((enR x).1 : Nat), .int .i64 (enR x).2]) ∧ Below w.heap.size w w')) (CM : ∀ x : In, InOk x → Box (∀ w, T w → Calls Tryd.prog 11 #[.agg (inC x)] w fun r w' => r = .returned (.bool (mayI x)) ∧ Below w.heap.size w w')) (KL : Box (∀ w, T w → Calls Tryd.prog 13 #[] w fun r w' => r = .returned (.bool true) ∧ Below w.heap.size w w')) (x : In) (hi : InOk x) (w : World) (hT : T w) : Calls Tryd.prog 3 #[.agg (inC x)] w fun r w' => r = .returned (.bool true) ∧ Below w.heap.size w w' :=
  en_insts FB x _ _ _ (CE x hi) (box (fun w => rEn26 x w)) (CM x hi) (box (fun w => rMay26 x w)) KL w hT
end Go.Proofs.YtaoccmopfflkmaaDoor
namespace Go.Proofs.YtaoccmopfflkmaaDoor
set_option maxRecDepth 100000
set_option maxHeartbeats 40000000
set_option maxRecDepth 100000
open Go.RowKit WMath
set_option linter.unusedSimpArgs false
set_option linter.unusedVariables false
def sgI (i : Int) : Int := if 2048 ≤ i % 4096 then i % 4096 - 4096 else i % 4096
theorem sgI_own (i : Int) (h : sgI i = i) : -2048 ≤ i ∧ i ≤ 2047 := by
  unfold sgI at h
  split at h <;> omega
theorem sgI_in (i : Int) (h1 : -2048 ≤ i) (h2 : i ≤ 2047) : sgI i = i := by
  unfold sgI
  split <;> omega
def hkI (l : Nat) (x : In) : In := ⟨x.op, x.form, x.frm, x.kind, if l = 2 then 0 else x.rd % 32, x.rs1 % 32, if l = 2 ∨ l = 3 ∨ l = 4 ∨ l = 5 then x.rs2 % 32 else 0, if l = 3 then x.rs3 % 32 else 0, if l = 3 ∨ l = 4 ∨ l = 6 then x.rm % 8 else 0, if l = 1 ∨ l = 2 then sgI x.imm else 0, if l = 8 ∨ l = 9 then x.csr else 0⟩
theorem hk_eqs {l : Nat} {x : In} (h : hkI l x = x) : (if l = 2 then 0 else x.rd % 32) = x.rd ∧ x.rs1 % 32 = x.rs1 ∧ (if l = 2 ∨ l = 3 ∨ l = 4 ∨ l = 5 then x.rs2 % 32 else 0) = x.rs2 ∧ (if l = 3 then x.rs3 % 32 else 0) = x.rs3 ∧ (if l = 3 ∨ l = 4 ∨ l = 6 then x.rm % 8 else 0) = x.rm ∧ (if l = 1 ∨ l = 2 then sgI x.imm else 0) = x.imm ∧ (if l = 8 ∨ l = 9 then x.csr else 0) = x.csr :=
  ⟨congrArg In.rd h, congrArg In.rs1 h, congrArg In.rs2 h, congrArg In.rs3 h, congrArg In.rm h, congrArg In.imm h, congrArg In.csr h⟩
theorem xorD {A b K N : Nat} (k n : Nat) (hK : K = 2 ^ k) (hN : N = 2 ^ n) (h : A / K % N = 0) (hb : b < N) : A ^^^ (b * K) = A + b * K := by
  subst hK hN
  have h1 := Nat.div_add_mod A (2 ^ k)
  have h2 := Nat.div_add_mod (A / 2 ^ k) (2 ^ n)
  rw [h, Nat.add_zero] at h2
  have hL : A % 2 ^ k < 2 ^ k := Nat.mod_lt _ (Nat.two_pow_pos k)
  obtain ⟨L, hL1⟩ : ∃ L, A % 2 ^ k = L := ⟨_, rfl⟩
  obtain ⟨H, hH1⟩ : ∃ H, A / 2 ^ k / 2 ^ n = H := ⟨_, rfl⟩
  rw [hL1] at h1 hL
  rw [hH1] at h2
  rw [← h2] at h1
  have hS : A + b * 2 ^ k = 2 ^ k * (2 ^ n * H + b) + L := by rw [Nat.mul_add, Nat.mul_comm b]; omega
  apply Nat.eq_of_testBit_eq
  intro j
  rw [hS, Nat.testBit_xor, ← h1, Nat.testBit_two_pow_mul_add _ hL, Nat.testBit_two_pow_mul_add _ hL, Nat.mul_comm b]
  simp only [Nat.testBit_two_pow_mul]
  by_cases hj : j < k
  · rw [if_pos hj, if_pos hj, decide_eq_false (show ¬ j ≥ k by omega)]
    simp
  · rw [if_neg hj, if_neg hj, decide_eq_true (show j ≥ k by omega), Nat.testBit_two_pow_mul_add _ hb]
    by_cases hi : j - k < n
    · rw [if_pos hi, decide_eq_false (show ¬ j - k ≥ n by omega)]
      simp
    · rw [if_neg hi, decide_eq_true (show j - k ≥ n by omega), Nat.testBit_lt_two_pow (Nat.lt_of_lt_of_le hb (Nat.pow_le_pow_right (by decide) (by omega)))]
      simp
def imX (l : Nat) (i : Int) : Nat := if l = 2 then (imN i / 32 * 33554432) ^^^ (imN i % 32 * 128) else imN i * 1048576
def btX (l : Nat) (x : In) : Nat := ((((((imX l x.imm) ^^^ (x.rd * 128)) ^^^ (x.rm * 4096)) ^^^ (x.rs1 * 32768)) ^^^ (x.rs2 * 1048576)) ^^^ (x.rs3 * 134217728)) ^^^ (x.csr * 1048576)
theorem imN_0 : imN 0 = 0 := rfl
theorem hk_le {l : Nat} {x : In} (h : hkI l x = x) : x.rd < 32 ∧ x.rs1 < 32 ∧ x.rs2 < 32 ∧ x.rs3 < 32 ∧ x.rm < 8 ∧ -2048 ≤ x.imm ∧ x.imm ≤ 2047 := by
  obtain ⟨e1, e2, e3, e4, e5, e6, _⟩ := hk_eqs h
  have q : -2048 ≤ x.imm ∧ x.imm ≤ 2047 := by
    split at e6
    · exact sgI_own _ e6
    · omega
  refine ⟨?_, ?_, ?_, ?_, ?_, q.1, q.2⟩
  · split at e1 <;> omega
  · omega
  · split at e3 <;> omega
  · split at e4 <;> omega
  · split at e5 <;> omega
theorem xch1 (M : Nat) (hM : M < 4294967296) (m7 : M / 128 % 32 = 0) (m15 : M / 32768 % 32 = 0) (m20 : M / 1048576 % 32 = 0) (m25 : M / 33554432 % 4 = 0) (m27 : M / 134217728 % 32 = 0) (I : Nat) (hI : I < 4096) (rd rs1 : Nat) (b_rd : rd < 32) (b_rs1 : rs1 < 32) : (((M ^^^ (I * 1048576)) ^^^ (rd * 128)) ^^^ (rs1 * 32768)) = (((M + I * 1048576) + rd * 128) + rs1 * 32768) := by
  rw [xorD (A := M) (b := I) 20 12 (K := 1048576) (N := 4096) rfl rfl (by omega) hI]
  rw [xorD (A := (M + I * 1048576)) (b := rd) 7 5 (K := 128) (N := 32) rfl rfl (by omega) b_rd]
  rw [xorD (A := ((M + I * 1048576) + rd * 128)) (b := rs1) 15 5 (K := 32768) (N := 32) rfl rfl (by omega) b_rs1]
theorem btX_1 {r : Rw} {x : In} (hl : r.lay = 1) (h : hkI 1 x = x) (hc : x.csr < 256) (hM : r.mtch < 4294967296) (m7 : r.mtch / 128 % 32 = 0) (m15 : r.mtch / 32768 % 32 = 0) (m20 : r.mtch / 1048576 % 32 = 0) (m25 : r.mtch / 33554432 % 4 = 0) (m27 : r.mtch / 134217728 % 32 = 0) : r.mtch ^^^ btX 1 x = encW r x := by
  obtain ⟨e1, e2, e3, e4, e5, e6, e7⟩ := hk_eqs h
  obtain ⟨k1, k2, k3, k4, k5, k6, k7⟩ := hk_le h
  simp at e1 e3 e4 e5 e6 e7
  have hi := imN_lt k6 k7
  unfold btX imX encW fsW
  rw [hl]
  have z := xch1 r.mtch hM m7 m15 m20 m25 m27 (imN x.imm) hi x.rd x.rs1 k1 k2
  simp only [← e5, ← e3, ← e4, ← e7, imN_0, Nat.zero_mul, Nat.zero_add, Nat.xor_zero, Nat.zero_xor, if_true, if_false, ← Nat.xor_assoc, reduceIte, Nat.reduceEqDiff, Nat.reduceEqDiff] at z ⊢
  rw [z]
  omega
theorem xch2 (M : Nat) (hM : M < 4294967296) (m7 : M / 128 % 32 = 0) (m15 : M / 32768 % 32 = 0) (m20 : M / 1048576 % 32 = 0) (m25 : M / 33554432 % 4 = 0) (m27 : M / 134217728 % 32 = 0) (I : Nat) (hI : I < 4096) (rs1 rs2 : Nat) (b_rs1 : rs1 < 32) (b_rs2 : rs2 < 32) : ((((M ^^^ (I / 32 * 33554432)) ^^^ (I % 32 * 128)) ^^^ (rs1 * 32768)) ^^^ (rs2 * 1048576)) = ((((M + I / 32 * 33554432) + I % 32 * 128) + rs1 * 32768) + rs2 * 1048576) := by
  rw [xorD (A := M) (b := I / 32) 25 7 (K := 33554432) (N := 128) rfl rfl (by omega) (by omega)]
  rw [xorD (A := (M + I / 32 * 33554432)) (b := I % 32) 7 5 (K := 128) (N := 32) rfl rfl (by omega) (by omega)]
  rw [xorD (A := ((M + I / 32 * 33554432) + I % 32 * 128)) (b := rs1) 15 5 (K := 32768) (N := 32) rfl rfl (by omega) b_rs1]
  have hM2 : M < 32768 := by omega
  have hq : (((M + I / 32 * 33554432) + I % 32 * 128) + rs1 * 32768) / 1048576 = 32 * (I / 32) := by omega
  have hq2 : (((M + I / 32 * 33554432) + I % 32 * 128) + rs1 * 32768) / 1048576 % 32 = 0 := by rw [hq]; omega
  rw [xorD (A := (((M + I / 32 * 33554432) + I % 32 * 128) + rs1 * 32768)) (b := rs2) 20 5 (K := 1048576) (N := 32) rfl rfl hq2 b_rs2]
theorem btX_2 {r : Rw} {x : In} (hl : r.lay = 2) (h : hkI 2 x = x) (hc : x.csr < 256) (hM : r.mtch < 4294967296) (m7 : r.mtch / 128 % 32 = 0) (m15 : r.mtch / 32768 % 32 = 0) (m20 : r.mtch / 1048576 % 32 = 0) (m25 : r.mtch / 33554432 % 4 = 0) (m27 : r.mtch / 134217728 % 32 = 0) : r.mtch ^^^ btX 2 x = encW r x := by
  obtain ⟨e1, e2, e3, e4, e5, e6, e7⟩ := hk_eqs h
  obtain ⟨k1, k2, k3, k4, k5, k6, k7⟩ := hk_le h
  simp at e1 e3 e4 e5 e6 e7
  have hi := imN_lt k6 k7
  unfold btX imX encW fsW
  rw [hl]
  have z := xch2 r.mtch hM m7 m15 m20 m25 m27 (imN x.imm) hi x.rs1 x.rs2 k2 k3
  simp only [← e1, ← e5, ← e4, ← e7, imN_0, Nat.zero_mul, Nat.zero_add, Nat.xor_zero, Nat.zero_xor, if_true, if_false, ← Nat.xor_assoc, reduceIte, Nat.reduceEqDiff, Nat.reduceEqDiff] at z ⊢
  rw [z]
  omega
theorem xch3 (M : Nat) (hM : M < 4294967296) (m7 : M / 128 % 32 = 0) (m12 : M / 4096 % 8 = 0) (m15 : M / 32768 % 32 = 0) (m20 : M / 1048576 % 32 = 0) (m27 : M / 134217728 % 32 = 0) (rd rm rs1 rs2 rs3 : Nat) (b_rd : rd < 32) (b_rm : rm < 8) (b_rs1 : rs1 < 32) (b_rs2 : rs2 < 32) (b_rs3 : rs3 < 32) : (((((M ^^^ (rd * 128)) ^^^ (rm * 4096)) ^^^ (rs1 * 32768)) ^^^ (rs2 * 1048576)) ^^^ (rs3 * 134217728)) = (((((M + rd * 128) + rm * 4096) + rs1 * 32768) + rs2 * 1048576) + rs3 * 134217728) := by
  rw [xorD (A := M) (b := rd) 7 5 (K := 128) (N := 32) rfl rfl (by omega) b_rd]
  rw [xorD (A := (M + rd * 128)) (b := rm) 12 3 (K := 4096) (N := 8) rfl rfl (by omega) b_rm]
  rw [xorD (A := ((M + rd * 128) + rm * 4096)) (b := rs1) 15 5 (K := 32768) (N := 32) rfl rfl (by omega) b_rs1]
  rw [xorD (A := (((M + rd * 128) + rm * 4096) + rs1 * 32768)) (b := rs2) 20 5 (K := 1048576) (N := 32) rfl rfl (by omega) b_rs2]
  rw [xorD (A := ((((M + rd * 128) + rm * 4096) + rs1 * 32768) + rs2 * 1048576)) (b := rs3) 27 5 (K := 134217728) (N := 32) rfl rfl (by omega) b_rs3]
theorem btX_3 {r : Rw} {x : In} (hl : r.lay = 3) (h : hkI 3 x = x) (hc : x.csr < 256) (hM : r.mtch < 4294967296) (m7 : r.mtch / 128 % 32 = 0) (m12 : r.mtch / 4096 % 8 = 0) (m15 : r.mtch / 32768 % 32 = 0) (m20 : r.mtch / 1048576 % 32 = 0) (m27 : r.mtch / 134217728 % 32 = 0) : r.mtch ^^^ btX 3 x = encW r x := by
  obtain ⟨e1, e2, e3, e4, e5, e6, e7⟩ := hk_eqs h
  obtain ⟨k1, k2, k3, k4, k5, k6, k7⟩ := hk_le h
  simp at e1 e3 e4 e5 e6 e7
  unfold btX imX encW fsW
  rw [hl]
  have z := xch3 r.mtch hM m7 m12 m15 m20 m27 x.rd x.rm x.rs1 x.rs2 x.rs3 k1 k5 k2 k3 k4
  simp only [← e6, ← e7, imN_0, Nat.zero_mul, Nat.zero_add, Nat.xor_zero, Nat.zero_xor, if_true, if_false, ← Nat.xor_assoc, reduceIte, Nat.reduceEqDiff, Nat.reduceEqDiff] at z ⊢
  rw [z]
  omega
theorem xch4 (M : Nat) (hM : M < 4294967296) (m7 : M / 128 % 32 = 0) (m12 : M / 4096 % 8 = 0) (m15 : M / 32768 % 32 = 0) (m20 : M / 1048576 % 32 = 0) (rd rm rs1 rs2 : Nat) (b_rd : rd < 32) (b_rm : rm < 8) (b_rs1 : rs1 < 32) (b_rs2 : rs2 < 32) : ((((M ^^^ (rd * 128)) ^^^ (rm * 4096)) ^^^ (rs1 * 32768)) ^^^ (rs2 * 1048576)) = ((((M + rd * 128) + rm * 4096) + rs1 * 32768) + rs2 * 1048576) := by
  rw [xorD (A := M) (b := rd) 7 5 (K := 128) (N := 32) rfl rfl (by omega) b_rd]
  rw [xorD (A := (M + rd * 128)) (b := rm) 12 3 (K := 4096) (N := 8) rfl rfl (by omega) b_rm]
  rw [xorD (A := ((M + rd * 128) + rm * 4096)) (b := rs1) 15 5 (K := 32768) (N := 32) rfl rfl (by omega) b_rs1]
  rw [xorD (A := (((M + rd * 128) + rm * 4096) + rs1 * 32768)) (b := rs2) 20 5 (K := 1048576) (N := 32) rfl rfl (by omega) b_rs2]
theorem btX_4 {r : Rw} {x : In} (hl : r.lay = 4) (h : hkI 4 x = x) (hc : x.csr < 256) (hM : r.mtch < 4294967296) (m7 : r.mtch / 128 % 32 = 0) (m12 : r.mtch / 4096 % 8 = 0) (m15 : r.mtch / 32768 % 32 = 0) (m20 : r.mtch / 1048576 % 32 = 0) : r.mtch ^^^ btX 4 x = encW r x := by
  obtain ⟨e1, e2, e3, e4, e5, e6, e7⟩ := hk_eqs h
  obtain ⟨k1, k2, k3, k4, k5, k6, k7⟩ := hk_le h
  simp at e1 e3 e4 e5 e6 e7
  unfold btX imX encW fsW
  rw [hl]
  have z := xch4 r.mtch hM m7 m12 m15 m20 x.rd x.rm x.rs1 x.rs2 k1 k5 k2 k3
  simp only [← e6, ← e4, ← e7, imN_0, Nat.zero_mul, Nat.zero_add, Nat.xor_zero, Nat.zero_xor, if_true, if_false, ← Nat.xor_assoc, reduceIte, Nat.reduceEqDiff, Nat.reduceEqDiff] at z ⊢
  rw [z]
  omega
theorem xch5 (M : Nat) (hM : M < 4294967296) (m7 : M / 128 % 32 = 0) (m15 : M / 32768 % 32 = 0) (m20 : M / 1048576 % 32 = 0) (rd rs1 rs2 : Nat) (b_rd : rd < 32) (b_rs1 : rs1 < 32) (b_rs2 : rs2 < 32) : (((M ^^^ (rd * 128)) ^^^ (rs1 * 32768)) ^^^ (rs2 * 1048576)) = (((M + rd * 128) + rs1 * 32768) + rs2 * 1048576) := by
  rw [xorD (A := M) (b := rd) 7 5 (K := 128) (N := 32) rfl rfl (by omega) b_rd]
  rw [xorD (A := (M + rd * 128)) (b := rs1) 15 5 (K := 32768) (N := 32) rfl rfl (by omega) b_rs1]
  rw [xorD (A := ((M + rd * 128) + rs1 * 32768)) (b := rs2) 20 5 (K := 1048576) (N := 32) rfl rfl (by omega) b_rs2]
theorem btX_5 {r : Rw} {x : In} (hl : r.lay = 5) (h : hkI 5 x = x) (hc : x.csr < 256) (hM : r.mtch < 4294967296) (m7 : r.mtch / 128 % 32 = 0) (m15 : r.mtch / 32768 % 32 = 0) (m20 : r.mtch / 1048576 % 32 = 0) : r.mtch ^^^ btX 5 x = encW r x := by
  obtain ⟨e1, e2, e3, e4, e5, e6, e7⟩ := hk_eqs h
  obtain ⟨k1, k2, k3, k4, k5, k6, k7⟩ := hk_le h
  simp at e1 e3 e4 e5 e6 e7
  unfold btX imX encW fsW
  rw [hl]
  have z := xch5 r.mtch hM m7 m15 m20 x.rd x.rs1 x.rs2 k1 k2 k3
  simp only [← e6, ← e5, ← e4, ← e7, imN_0, Nat.zero_mul, Nat.zero_add, Nat.xor_zero, Nat.zero_xor, if_true, if_false, ← Nat.xor_assoc, reduceIte, Nat.reduceEqDiff, Nat.reduceEqDiff] at z ⊢
  rw [z]
  omega
theorem xch6 (M : Nat) (hM : M < 4294967296) (m7 : M / 128 % 32 = 0) (m12 : M / 4096 % 8 = 0) (m15 : M / 32768 % 32 = 0) (rd rm rs1 : Nat) (b_rd : rd < 32) (b_rm : rm < 8) (b_rs1 : rs1 < 32) : (((M ^^^ (rd * 128)) ^^^ (rm * 4096)) ^^^ (rs1 * 32768)) = (((M + rd * 128) + rm * 4096) + rs1 * 32768) := by
  rw [xorD (A := M) (b := rd) 7 5 (K := 128) (N := 32) rfl rfl (by omega) b_rd]
  rw [xorD (A := (M + rd * 128)) (b := rm) 12 3 (K := 4096) (N := 8) rfl rfl (by omega) b_rm]
  rw [xorD (A := ((M + rd * 128) + rm * 4096)) (b := rs1) 15 5 (K := 32768) (N := 32) rfl rfl (by omega) b_rs1]
theorem btX_6 {r : Rw} {x : In} (hl : r.lay = 6) (h : hkI 6 x = x) (hc : x.csr < 256) (hM : r.mtch < 4294967296) (m7 : r.mtch / 128 % 32 = 0) (m12 : r.mtch / 4096 % 8 = 0) (m15 : r.mtch / 32768 % 32 = 0) : r.mtch ^^^ btX 6 x = encW r x := by
  obtain ⟨e1, e2, e3, e4, e5, e6, e7⟩ := hk_eqs h
  obtain ⟨k1, k2, k3, k4, k5, k6, k7⟩ := hk_le h
  simp at e1 e3 e4 e5 e6 e7
  unfold btX imX encW fsW
  rw [hl]
  have z := xch6 r.mtch hM m7 m12 m15 x.rd x.rm x.rs1 k1 k5 k2
  simp only [← e6, ← e3, ← e4, ← e7, imN_0, Nat.zero_mul, Nat.zero_add, Nat.xor_zero, Nat.zero_xor, if_true, if_false, ← Nat.xor_assoc, reduceIte, Nat.reduceEqDiff, Nat.reduceEqDiff] at z ⊢
  rw [z]
  omega
theorem xch7 (M : Nat) (hM : M < 4294967296) (m7 : M / 128 % 32 = 0) (m15 : M / 32768 % 32 = 0) (rd rs1 : Nat) (b_rd : rd < 32) (b_rs1 : rs1 < 32) : ((M ^^^ (rd * 128)) ^^^ (rs1 * 32768)) = ((M + rd * 128) + rs1 * 32768) := by
  rw [xorD (A := M) (b := rd) 7 5 (K := 128) (N := 32) rfl rfl (by omega) b_rd]
  rw [xorD (A := (M + rd * 128)) (b := rs1) 15 5 (K := 32768) (N := 32) rfl rfl (by omega) b_rs1]
theorem btX_7 {r : Rw} {x : In} (hl : r.lay = 7) (h : hkI 7 x = x) (hc : x.csr < 256) (hM : r.mtch < 4294967296) (m7 : r.mtch / 128 % 32 = 0) (m15 : r.mtch / 32768 % 32 = 0) : r.mtch ^^^ btX 7 x = encW r x := by
  obtain ⟨e1, e2, e3, e4, e5, e6, e7⟩ := hk_eqs h
  obtain ⟨k1, k2, k3, k4, k5, k6, k7⟩ := hk_le h
  simp at e1 e3 e4 e5 e6 e7
  unfold btX imX encW fsW
  rw [hl]
  have z := xch7 r.mtch hM m7 m15 x.rd x.rs1 k1 k2
  simp only [← e6, ← e5, ← e3, ← e4, ← e7, imN_0, Nat.zero_mul, Nat.zero_add, Nat.xor_zero, Nat.zero_xor, if_true, if_false, ← Nat.xor_assoc, reduceIte, Nat.reduceEqDiff, Nat.reduceEqDiff] at z ⊢
  rw [z]
  omega
theorem xch8 (M : Nat) (hM : M < 4294967296) (m7 : M / 128 % 32 = 0) (m15 : M / 32768 % 32 = 0) (m20 : M / 1048576 % 32 = 0) (m25 : M / 33554432 % 4 = 0) (m27 : M / 134217728 % 32 = 0) (rd rs1 csr : Nat) (b_rd : rd < 32) (b_rs1 : rs1 < 32) (b_csr : csr < 256) : (((M ^^^ (rd * 128)) ^^^ (rs1 * 32768)) ^^^ (csr * 1048576)) = (((M + rd * 128) + rs1 * 32768) + csr * 1048576) := by
  rw [xorD (A := M) (b := rd) 7 5 (K := 128) (N := 32) rfl rfl (by omega) b_rd]
  rw [xorD (A := (M + rd * 128)) (b := rs1) 15 5 (K := 32768) (N := 32) rfl rfl (by omega) b_rs1]
  rw [xorD (A := ((M + rd * 128) + rs1 * 32768)) (b := csr) 20 8 (K := 1048576) (N := 256) rfl rfl (by omega) b_csr]
theorem btX_8 {r : Rw} {x : In} (hl : r.lay = 8) (h : hkI 8 x = x) (hc : x.csr < 256) (hM : r.mtch < 4294967296) (m7 : r.mtch / 128 % 32 = 0) (m15 : r.mtch / 32768 % 32 = 0) (m20 : r.mtch / 1048576 % 32 = 0) (m25 : r.mtch / 33554432 % 4 = 0) (m27 : r.mtch / 134217728 % 32 = 0) : r.mtch ^^^ btX 8 x = encW r x := by
  obtain ⟨e1, e2, e3, e4, e5, e6, e7⟩ := hk_eqs h
  obtain ⟨k1, k2, k3, k4, k5, k6, k7⟩ := hk_le h
  simp at e1 e3 e4 e5 e6 e7
  unfold btX imX encW fsW
  rw [hl]
  have z := xch8 r.mtch hM m7 m15 m20 m25 m27 x.rd x.rs1 x.csr k1 k2 hc
  simp only [← e6, ← e5, ← e3, ← e4, imN_0, Nat.zero_mul, Nat.zero_add, Nat.xor_zero, Nat.zero_xor, if_true, if_false, ← Nat.xor_assoc, reduceIte, Nat.reduceEqDiff, Nat.reduceEqDiff] at z ⊢
  rw [z]
  omega
theorem xch9 (M : Nat) (hM : M < 4294967296) (m7 : M / 128 % 32 = 0) (m15 : M / 32768 % 32 = 0) (m20 : M / 1048576 % 32 = 0) (m25 : M / 33554432 % 4 = 0) (m27 : M / 134217728 % 32 = 0) (rd rs1 csr : Nat) (b_rd : rd < 32) (b_rs1 : rs1 < 32) (b_csr : csr < 256) : (((M ^^^ (rd * 128)) ^^^ (rs1 * 32768)) ^^^ (csr * 1048576)) = (((M + rd * 128) + rs1 * 32768) + csr * 1048576) := by
  rw [xorD (A := M) (b := rd) 7 5 (K := 128) (N := 32) rfl rfl (by omega) b_rd]
  rw [xorD (A := (M + rd * 128)) (b := rs1) 15 5 (K := 32768) (N := 32) rfl rfl (by omega) b_rs1]
  rw [xorD (A := ((M + rd * 128) + rs1 * 32768)) (b := csr) 20 8 (K := 1048576) (N := 256) rfl rfl (by omega) b_csr]
theorem btX_9 {r : Rw} {x : In} (hl : r.lay = 9) (h : hkI 9 x = x) (hc : x.csr < 256) (hM : r.mtch < 4294967296) (m7 : r.mtch / 128 % 32 = 0) (m15 : r.mtch / 32768 % 32 = 0) (m20 : r.mtch / 1048576 % 32 = 0) (m25 : r.mtch / 33554432 % 4 = 0) (m27 : r.mtch / 134217728 % 32 = 0) : r.mtch ^^^ btX 9 x = encW r x := by
  obtain ⟨e1, e2, e3, e4, e5, e6, e7⟩ := hk_eqs h
  obtain ⟨k1, k2, k3, k4, k5, k6, k7⟩ := hk_le h
  simp at e1 e3 e4 e5 e6 e7
  unfold btX imX encW fsW
  rw [hl]
  have z := xch9 r.mtch hM m7 m15 m20 m25 m27 x.rd x.rs1 x.csr k1 k2 hc
  simp only [← e6, ← e5, ← e3, ← e4, imN_0, Nat.zero_mul, Nat.zero_add, Nat.xor_zero, Nat.zero_xor, if_true, if_false, ← Nat.xor_assoc, reduceIte, Nat.reduceEqDiff, Nat.reduceEqDiff] at z ⊢
  rw [z]
  omega
theorem may_held {p : Nm} {x : In} (hof : ofR24 x.op x.form x.frm x.kind = some p) (h : mayI x = true) : hkI p.1.lay x = x := by
  unfold mayI at h
  rw [hof] at h
  simp only [Bool.and_eq_true] at h
  obtain ⟨hb, hf⟩ := h
  obtain ⟨hp, e1, e2, e3, e4⟩ := of_some hof
  unfold bndI at hb
  obtain ⟨a1, a2, a3, a4, a5, a6, a7, a8, a9, a10⟩ := of_decide_eq_true hb
  obtain ⟨l1, l9, _⟩ := lay24 hp
  have hs := sgI_in x.imm a8 a9
  obtain ⟨r, nn⟩ := p
  simp only at *
  clear hof hb hp
  obtain ⟨op, form, frm, kind, rd, rs1, rs2, rs3, rm, imm, csr⟩ := x
  simp only at *
  rcases (by omega : r.lay = 1 ∨ r.lay = 2 ∨ r.lay = 3 ∨ r.lay = 4 ∨ r.lay = 5 ∨ r.lay = 6 ∨ r.lay = 7 ∨ r.lay = 8 ∨ r.lay = 9) with hl | hl | hl | hl | hl | hl | hl | hl | hl
  all_goals
    unfold hkI
    simp [hl, fitI, hsL] at hf ⊢
    try simp [hs]
    omega
theorem held_enc {p : Nm} {x : In} (hx : x.csr < 256) (hof : ofR24 x.op x.form x.frm x.kind = some p) (hh : hkI p.1.lay x = x) : p.1.mtch ^^^ btX p.1.lay x = encW p.1 x ∧ encW p.1 x < 4294967296 ∧ fitsL p.1 (encW p.1 x) = mayI x := by
  obtain ⟨hp, e1, e2, e3, e4⟩ := of_some hof
  have hm := of_decide_eq_true (List.all_eq_true.1 maskIs p hp)
  obtain ⟨l1, l9, _⟩ := lay24 hp
  have yes : mayI x = true → fitsL p.1 (encW p.1 x) = true := fun h => by
    obtain ⟨q, hq, hmem, hlt, hf, _⟩ := enc_dec h
    rw [hof] at hq
    obtain rfl := Option.some.inj hq
    exact (fd_mem hf).2
  obtain ⟨k1, k2, k3, k4, k5, k6, k7⟩ := hk_le hh
  obtain ⟨q1, q2, q3, q4, q5, q6, q7⟩ := hk_eqs hh
  have hi := imN_lt k6 k7
  have key : p.1.mtch ^^^ btX p.1.lay x = encW p.1 x ∧ encW p.1 x < 4294967296 ∧ (mayI x = false → fitsL p.1 (encW p.1 x) = false) := by
    have hmay : mayI x = (bndI x && fitI (hsL p.1.lay) x) := by unfold mayI; rw [hof]
    clear yes
    obtain ⟨r, nn⟩ := p
    simp only at *
    rcases (by omega : r.lay = 1 ∨ r.lay = 2 ∨ r.lay = 3 ∨ r.lay = 4 ∨ r.lay = 5 ∨ r.lay = 6 ∨ r.lay = 7 ∨ r.lay = 8 ∨ r.lay = 9) with hl | hl | hl | hl | hl | hl | hl | hl | hl
    · rw [hl] at hh hm
      have mt := List.all_eq_true.1 mt1 (r, nn) hp
      simp [hl] at mt
      have E := btX_1 (r := r) hl hh hx hm.2 (by omega) (by omega) (by omega) (by omega) (by omega)
      rw [hl]
      have hW : encW r x < 4294967296 := by unfold encW fsW; rw [hl]; simp; omega
      refine ⟨E, hW, fun hn => ?_⟩
      rw [hmay] at hn
      simp [hl] at q1 q3 q4 q5 q6 q7
      exfalso
      simp [bndI, fitI, hsL, hl] at hn
      omega
    · rw [hl] at hh hm
      have mt := List.all_eq_true.1 mt2 (r, nn) hp
      simp [hl] at mt
      have E := btX_2 (r := r) hl hh hx hm.2 (by omega) (by omega) (by omega) (by omega) (by omega)
      rw [hl]
      have hW : encW r x < 4294967296 := by unfold encW fsW; rw [hl]; simp; omega
      refine ⟨E, hW, fun hn => ?_⟩
      rw [hmay] at hn
      simp [hl] at q1 q3 q4 q5 q6 q7
      exfalso
      simp [bndI, fitI, hsL, hl] at hn
      omega
    · rw [hl] at hh hm
      have mt := List.all_eq_true.1 mt3 (r, nn) hp
      simp [hl] at mt
      have E := btX_3 (r := r) hl hh hx hm.2 (by omega) (by omega) (by omega) (by omega) (by omega)
      rw [hl]
      have hW : encW r x < 4294967296 := by unfold encW fsW; rw [hl]; simp; omega
      refine ⟨E, hW, fun hn => ?_⟩
      rw [hmay] at hn
      simp [hl] at q1 q3 q4 q5 q6 q7
      have hrm : encW r x / 4096 % 8 = x.rm := by unfold encW fsW; rw [hl]; simp; omega
      have h56 : x.rm = 5 ∨ x.rm = 6 := by
        simp [bndI, fitI, hsL, hl] at hn
        omega
      unfold fitsL
      rw [hl, hrm]
      simp [h56]
    · rw [hl] at hh hm
      have mt := List.all_eq_true.1 mt4 (r, nn) hp
      simp [hl] at mt
      have E := btX_4 (r := r) hl hh hx hm.2 (by omega) (by omega) (by omega) (by omega)
      rw [hl]
      have hW : encW r x < 4294967296 := by unfold encW fsW; rw [hl]; simp; omega
      refine ⟨E, hW, fun hn => ?_⟩
      rw [hmay] at hn
      simp [hl] at q1 q3 q4 q5 q6 q7
      have hrm : encW r x / 4096 % 8 = x.rm := by unfold encW fsW; rw [hl]; simp; omega
      have h56 : x.rm = 5 ∨ x.rm = 6 := by
        simp [bndI, fitI, hsL, hl] at hn
        omega
      unfold fitsL
      rw [hl, hrm]
      simp [h56]
    · rw [hl] at hh hm
      have mt := List.all_eq_true.1 mt5 (r, nn) hp
      simp [hl] at mt
      have E := btX_5 (r := r) hl hh hx hm.2 (by omega) (by omega) (by omega)
      rw [hl]
      have hW : encW r x < 4294967296 := by unfold encW fsW; rw [hl]; simp; omega
      refine ⟨E, hW, fun hn => ?_⟩
      rw [hmay] at hn
      simp [hl] at q1 q3 q4 q5 q6 q7
      exfalso
      simp [bndI, fitI, hsL, hl] at hn
      omega
    · rw [hl] at hh hm
      have mt := List.all_eq_true.1 mt6 (r, nn) hp
      simp [hl] at mt
      have E := btX_6 (r := r) hl hh hx hm.2 (by omega) (by omega) (by omega)
      rw [hl]
      have hW : encW r x < 4294967296 := by unfold encW fsW; rw [hl]; simp; omega
      refine ⟨E, hW, fun hn => ?_⟩
      rw [hmay] at hn
      simp [hl] at q1 q3 q4 q5 q6 q7
      have hrm : encW r x / 4096 % 8 = x.rm := by unfold encW fsW; rw [hl]; simp; omega
      have h56 : x.rm = 5 ∨ x.rm = 6 := by
        simp [bndI, fitI, hsL, hl] at hn
        omega
      unfold fitsL
      rw [hl, hrm]
      simp [h56]
    · rw [hl] at hh hm
      have mt := List.all_eq_true.1 mt7 (r, nn) hp
      simp [hl] at mt
      have E := btX_7 (r := r) hl hh hx hm.2 (by omega) (by omega)
      rw [hl]
      have hW : encW r x < 4294967296 := by unfold encW fsW; rw [hl]; simp; omega
      refine ⟨E, hW, fun hn => ?_⟩
      rw [hmay] at hn
      simp [hl] at q1 q3 q4 q5 q6 q7
      exfalso
      simp [bndI, fitI, hsL, hl] at hn
      omega
    · rw [hl] at hh hm
      have mt := List.all_eq_true.1 mt8 (r, nn) hp
      simp [hl] at mt
      have E := btX_8 (r := r) hl hh hx hm.2 (by omega) (by omega) (by omega) (by omega) (by omega)
      rw [hl]
      have hW : encW r x < 4294967296 := by unfold encW fsW; rw [hl]; simp; omega
      refine ⟨E, hW, fun hn => ?_⟩
      rw [hmay] at hn
      simp [hl] at q1 q3 q4 q5 q6 q7
      have hcs : encW r x / 1048576 = x.csr := by unfold encW fsW; rw [hl]; simp; omega
      have h13 : ¬ (1 ≤ x.csr ∧ x.csr ≤ 3) := by
        simp [bndI, fitI, hsL, hl] at hn
        omega
      unfold fitsL
      rw [hl, hcs, decide_eq_false h13]
      simp
    · rw [hl] at hh hm
      have mt := List.all_eq_true.1 mt9 (r, nn) hp
      simp [hl] at mt
      have E := btX_9 (r := r) hl hh hx hm.2 (by omega) (by omega) (by omega) (by omega) (by omega)
      rw [hl]
      have hW : encW r x < 4294967296 := by unfold encW fsW; rw [hl]; simp; omega
      refine ⟨E, hW, fun hn => ?_⟩
      rw [hmay] at hn
      simp [hl] at q1 q3 q4 q5 q6 q7
      have hcs : encW r x / 1048576 = x.csr := by unfold encW fsW; rw [hl]; simp; omega
      have h13 : ¬ (1 ≤ x.csr ∧ x.csr ≤ 3) := by
        simp [bndI, fitI, hsL, hl] at hn
        omega
      unfold fitsL
      rw [hl, hcs, decide_eq_false h13]
      simp
  refine ⟨key.1, key.2.1, ?_⟩
  cases h : mayI x with
  | true => exact yes h
  | false => exact key.2.2 h
end Go.Proofs.YtaoccmopfflkmaaDoor
