/-
  What the functions that the statement reaches return: part 12 (WD, WB).
-/
import Derived.Test.YtaoccmopfflkmaaDoorLa11
namespace Go.Proofs.YtaoccmopfflkmaaDoor
set_option maxRecDepth 100000
set_option maxHeartbeats 40000000
set_option maxRecDepth 100000
open Go.RowKit WMath
set_option linter.unusedSimpArgs false
set_option linter.unusedVariables false
def bndI (x : In) : Bool := decide (x.rd ≤ 31 ∧ x.rs1 ≤ 31 ∧ x.rs2 ≤ 31 ∧ x.rs3 ≤ 31 ∧ x.rm ≤ 7 ∧ x.rm ≠ 5 ∧ x.rm ≠ 6 ∧ -2048 ≤ x.imm ∧ x.imm ≤ 2047 ∧ x.csr ≤ 3)
def fitI (h : Hs) (x : In) : Bool := (h.rd || decide (x.rd = 0)) && (h.rs2 || decide (x.rs2 = 0)) && (h.rs3 || decide (x.rs3 = 0)) && (h.rm || decide (x.rm = 0)) && (h.imm || decide (x.imm = 0)) && (h.csr == !decide (x.csr = 0))
def mayI (x : In) : Bool := match ofR24 x.op x.form x.frm x.kind with | some p => bndI x && fitI (hsL p.1.lay) x | none => false
def imN (i : Int) : Nat := (if i < 0 then i + 4096 else i).toNat
def fsW (l : Nat) (x : In) : Nat := x.rs1 * 32768 + (if l = 1 then x.rd * 128 + imN x.imm * 1048576 else if l = 2 then x.rs2 * 1048576 + (imN x.imm / 32 * 33554432 + imN x.imm % 32 * 128) else if l = 3 then x.rd * 128 + x.rs2 * 1048576 + x.rs3 * 134217728 + x.rm * 4096 else if l = 4 then x.rd * 128 + x.rs2 * 1048576 + x.rm * 4096 else if l = 5 then x.rd * 128 + x.rs2 * 1048576 else if l = 6 then x.rd * 128 + x.rm * 4096 else if l = 7 then x.rd * 128 else if l = 8 then x.rd * 128 + x.csr * 1048576 else x.rd * 128 + x.csr * 1048576)
def encW (p : Rw) (x : In) : Nat := p.mtch + fsW p.lay x
def enR (x : In) : Nat × Int := if mayI x then (encW (ndO (ofR24 x.op x.form x.frm x.kind)).1 x, 0) else (0, 260)
theorem maskIs : allL.all (fun p => decide (p.1.mask = 4294967295 - mkL p.1.lay ∧ p.1.mtch < 4294967296)) = true := by decide +kernel
theorem mt1 : allL.all (fun p => !decide (p.1.lay = 1) || decide (p.1.mtch / 128 % 32 = 0 ∧ p.1.mtch / 32768 % 32 = 0 ∧ p.1.mtch / 1048576 % 32 = 0 ∧ p.1.mtch / 33554432 % 4 = 0 ∧ p.1.mtch / 134217728 % 32 = 0)) = true := by decide +kernel
theorem gm1 : ∀ k, k < 32 → (4294967295 - mkL 1).testBit k = true → (0 ≤ k ∧ k < 7) ∨ (12 ≤ k ∧ k < 15) := by decide +kernel
theorem mt2 : allL.all (fun p => !decide (p.1.lay = 2) || decide (p.1.mtch / 128 % 32 = 0 ∧ p.1.mtch / 32768 % 32 = 0 ∧ p.1.mtch / 1048576 % 32 = 0 ∧ p.1.mtch / 33554432 % 4 = 0 ∧ p.1.mtch / 134217728 % 32 = 0)) = true := by decide +kernel
theorem gm2 : ∀ k, k < 32 → (4294967295 - mkL 2).testBit k = true → (0 ≤ k ∧ k < 7) ∨ (12 ≤ k ∧ k < 15) := by decide +kernel
theorem mt3 : allL.all (fun p => !decide (p.1.lay = 3) || decide (p.1.mtch / 128 % 32 = 0 ∧ p.1.mtch / 4096 % 8 = 0 ∧ p.1.mtch / 32768 % 32 = 0 ∧ p.1.mtch / 1048576 % 32 = 0 ∧ p.1.mtch / 134217728 % 32 = 0)) = true := by decide +kernel
theorem gm3 : ∀ k, k < 32 → (4294967295 - mkL 3).testBit k = true → (0 ≤ k ∧ k < 7) ∨ (25 ≤ k ∧ k < 27) := by decide +kernel
theorem mt4 : allL.all (fun p => !decide (p.1.lay = 4) || decide (p.1.mtch / 128 % 32 = 0 ∧ p.1.mtch / 4096 % 8 = 0 ∧ p.1.mtch / 32768 % 32 = 0 ∧ p.1.mtch / 1048576 % 32 = 0)) = true := by decide +kernel
theorem gm4 : ∀ k, k < 32 → (4294967295 - mkL 4).testBit k = true → (0 ≤ k ∧ k < 7) ∨ (25 ≤ k ∧ k < 27) ∨ (27 ≤ k ∧ k < 32) := by decide +kernel
theorem mt5 : allL.all (fun p => !decide (p.1.lay = 5) || decide (p.1.mtch / 128 % 32 = 0 ∧ p.1.mtch / 32768 % 32 = 0 ∧ p.1.mtch / 1048576 % 32 = 0)) = true := by decide +kernel
theorem gm5 : ∀ k, k < 32 → (4294967295 - mkL 5).testBit k = true → (0 ≤ k ∧ k < 7) ∨ (12 ≤ k ∧ k < 15) ∨ (25 ≤ k ∧ k < 27) ∨ (27 ≤ k ∧ k < 32) := by decide +kernel
theorem mt6 : allL.all (fun p => !decide (p.1.lay = 6) || decide (p.1.mtch / 128 % 32 = 0 ∧ p.1.mtch / 4096 % 8 = 0 ∧ p.1.mtch / 32768 % 32 = 0)) = true := by decide +kernel
theorem gm6 : ∀ k, k < 32 → (4294967295 - mkL 6).testBit k = true → (0 ≤ k ∧ k < 7) ∨ (20 ≤ k ∧ k < 25) ∨ (25 ≤ k ∧ k < 27) ∨ (27 ≤ k ∧ k < 32) := by decide +kernel
theorem mt7 : allL.all (fun p => !decide (p.1.lay = 7) || decide (p.1.mtch / 128 % 32 = 0 ∧ p.1.mtch / 32768 % 32 = 0)) = true := by decide +kernel
theorem gm7 : ∀ k, k < 32 → (4294967295 - mkL 7).testBit k = true → (0 ≤ k ∧ k < 7) ∨ (12 ≤ k ∧ k < 15) ∨ (20 ≤ k ∧ k < 25) ∨ (25 ≤ k ∧ k < 27) ∨ (27 ≤ k ∧ k < 32) := by decide +kernel
theorem mt8 : allL.all (fun p => !decide (p.1.lay = 8) || decide (p.1.mtch / 128 % 32 = 0 ∧ p.1.mtch / 32768 % 32 = 0 ∧ p.1.mtch / 1048576 % 32 = 0 ∧ p.1.mtch / 33554432 % 4 = 0 ∧ p.1.mtch / 134217728 % 32 = 0)) = true := by decide +kernel
theorem gm8 : ∀ k, k < 32 → (4294967295 - mkL 8).testBit k = true → (0 ≤ k ∧ k < 7) ∨ (12 ≤ k ∧ k < 15) := by decide +kernel
theorem mt9 : allL.all (fun p => !decide (p.1.lay = 9) || decide (p.1.mtch / 128 % 32 = 0 ∧ p.1.mtch / 32768 % 32 = 0 ∧ p.1.mtch / 1048576 % 32 = 0 ∧ p.1.mtch / 33554432 % 4 = 0 ∧ p.1.mtch / 134217728 % 32 = 0)) = true := by decide +kernel
theorem gm9 : ∀ k, k < 32 → (4294967295 - mkL 9).testBit k = true → (0 ≤ k ∧ k < 7) ∨ (12 ≤ k ∧ k < 15) := by decide +kernel
theorem imN_lt {i : Int} (h1 : -2048 ≤ i) (h2 : i ≤ 2047) : imN i < 4096 := by
  unfold imN
  split <;> omega
theorem imN_sg {i : Int} (h1 : -2048 ≤ i) (h2 : i ≤ 2047) : sg12 (imN i) = i := by
  unfold imN sg12
  split <;> split <;> omega
theorem and_same {v w m : Nat} (h : ∀ k, m.testBit k = true → v.testBit k = w.testBit k) : v &&& m = w &&& m := by
  apply Nat.eq_of_testBit_eq
  intro k
  rw [Nat.testBit_and, Nat.testBit_and]
  cases q : m.testBit k
  · simp
  · rw [h k q]
theorem hi_bit {m k : Nat} (hm : m < 4294967296) (h : m.testBit k = true) : k < 32 := by
  apply Decidable.byContradiction
  intro hk
  have : m.testBit k = false := Nat.testBit_lt_two_pow (Nat.lt_of_lt_of_le hm (by rw [show 4294967296 = 2 ^ 32 from rfl]; exact Nat.pow_le_pow_right (by decide) (by omega)))
  rw [this] at h
  cases h
theorem ena1 {r : Rw} {x : In} (hl : r.lay = 1) (hlt : r.mtch < 4294967296) (hm : r.mask = 4294967295 - mkL 1) (a1 : x.rd ≤ 31) (a2 : x.rs1 ≤ 31) (a3 : x.rs2 ≤ 31) (a4 : x.rs3 ≤ 31) (a5 : x.rm ≤ 7) (a6 : x.rm ≠ 5) (a7 : x.rm ≠ 6) (a8 : -2048 ≤ x.imm) (a9 : x.imm ≤ 2047) (a10 : x.csr ≤ 3) (z1 : x.rs2 = 0) (z2 : x.rs3 = 0) (z3 : x.rm = 0) (zc : x.csr = 0) (m7 : r.mtch / 128 % 32 = 0) (m15 : r.mtch / 32768 % 32 = 0) (m20 : r.mtch / 1048576 % 32 = 0) (m25 : r.mtch / 33554432 % 4 = 0) (m27 : r.mtch / 134217728 % 32 = 0) (e1 : x.op = r.op) (e2 : x.form = r.form) (e3 : x.frm = r.frm) (e4 : x.kind = r.kind) : encW r x < 4294967296 ∧ fitsL r (encW r x) = true ∧ dcI r (encW r x) = x := by
  obtain ⟨W, hW⟩ : ∃ W, encW r x = W := ⟨_, rfl⟩
  have hi := imN_lt a8 a9
  have hs := imN_sg a8 a9
  obtain ⟨I, hI⟩ : ∃ I, imN x.imm = I := ⟨_, rfl⟩
  rw [hI] at hi hs
  have e : W = r.mtch + (x.rs1 * 32768 + (x.rd * 128 + I * 1048576)) := by
    rw [← hW]
    unfold encW fsW
    rw [hl, hI]
    simp
  rw [hW]
  obtain ⟨M, hM⟩ : ∃ M, r.mtch = M := ⟨_, rfl⟩
  rw [hM] at e hlt m7 m15 m20 m25 m27
  have w32 : W < 4294967296 := by omega
  have g0 : fld W 0 7 = fld M 0 7 := by unfold fld; omega
  have g7 : fld W 7 5 = x.rd := by unfold fld; omega
  have g12 : fld W 12 3 = fld M 12 3 := by unfold fld; omega
  have g15 : fld W 15 5 = x.rs1 := by unfold fld; omega
  have g20 : fld W 20 5 = fld W 20 5 := by unfold fld; omega
  have g25 : fld W 25 2 = fld W 25 2 := by unfold fld; omega
  have g27 : fld W 27 5 = fld W 27 5 := by unfold fld; omega
  have gI : fld W 20 12 = I := by unfold fld; omega
  refine ⟨w32, ?_, ?_⟩
  · unfold fitsL
    rw [hl, hm, hM]
    have k : W &&& (4294967295 - mkL 1) = M &&& (4294967295 - mkL 1) := and_same (fun k hk => by
      have k32 := hi_bit (by decide) hk
      rcases gm1 k k32 hk with ⟨c1, c2⟩ | ⟨c1, c2⟩
      · exact fld_bit g0 c1 c2
      · exact fld_bit g12 c1 c2)
    rw [decide_eq_true k]
    simp
  · unfold dcI
    rw [hl]
    obtain ⟨op, form, frm, kind, rd, rs1, rs2, rs3, rm, imm, csr⟩ := x
    simp only at *
    simp only [g7, g15, gI]
    simp [*]
    try omega
theorem ena2 {r : Rw} {x : In} (hl : r.lay = 2) (hlt : r.mtch < 4294967296) (hm : r.mask = 4294967295 - mkL 2) (a1 : x.rd ≤ 31) (a2 : x.rs1 ≤ 31) (a3 : x.rs2 ≤ 31) (a4 : x.rs3 ≤ 31) (a5 : x.rm ≤ 7) (a6 : x.rm ≠ 5) (a7 : x.rm ≠ 6) (a8 : -2048 ≤ x.imm) (a9 : x.imm ≤ 2047) (a10 : x.csr ≤ 3) (z0 : x.rd = 0) (z2 : x.rs3 = 0) (z3 : x.rm = 0) (zc : x.csr = 0) (m7 : r.mtch / 128 % 32 = 0) (m15 : r.mtch / 32768 % 32 = 0) (m20 : r.mtch / 1048576 % 32 = 0) (m25 : r.mtch / 33554432 % 4 = 0) (m27 : r.mtch / 134217728 % 32 = 0) (e1 : x.op = r.op) (e2 : x.form = r.form) (e3 : x.frm = r.frm) (e4 : x.kind = r.kind) : encW r x < 4294967296 ∧ fitsL r (encW r x) = true ∧ dcI r (encW r x) = x := by
  obtain ⟨W, hW⟩ : ∃ W, encW r x = W := ⟨_, rfl⟩
  have hi := imN_lt a8 a9
  have hs := imN_sg a8 a9
  obtain ⟨I, hI⟩ : ∃ I, imN x.imm = I := ⟨_, rfl⟩
  rw [hI] at hi hs
  have e : W = r.mtch + (x.rs1 * 32768 + (x.rs2 * 1048576 + (I / 32 * 33554432 + I % 32 * 128))) := by
    rw [← hW]
    unfold encW fsW
    rw [hl, hI]
    simp
  rw [hW]
  obtain ⟨M, hM⟩ : ∃ M, r.mtch = M := ⟨_, rfl⟩
  rw [hM] at e hlt m7 m15 m20 m25 m27
  obtain ⟨H, hH⟩ : ∃ H, I / 32 = H := ⟨_, rfl⟩
  obtain ⟨Lo, hLo⟩ : ∃ Lo, I % 32 = Lo := ⟨_, rfl⟩
  have hH1 : H ≤ 127 := by omega
  have hL1 : Lo ≤ 31 := by omega
  have hIL : 32 * H + Lo = I := by omega
  rw [hH, hLo] at e
  clear hH hLo
  have hM15 : M < 32768 := by omega
  clear m15 m20 m25 m27
  have w32 : W < 4294967296 := by omega
  obtain ⟨A, hA⟩ : ∃ A, M + x.rs1 * 32768 + Lo * 128 = A := ⟨_, rfl⟩
  have hA1 : A < 1048576 := by omega
  have hA2 : W = A + 1048576 * (x.rs2 + 32 * H) := by omega
  have d20 : W / 1048576 = x.rs2 + 32 * H := by clear e hA; omega
  have d25 : W / 33554432 = W / 1048576 / 32 := by clear e hA hA2 d20; omega
  have g0 : fld W 0 7 = fld M 0 7 := by unfold fld; omega
  have g7 : fld W 7 5 = Lo := by unfold fld; omega
  have g12 : fld W 12 3 = fld M 12 3 := by unfold fld; omega
  have g15 : fld W 15 5 = x.rs1 := by unfold fld; omega
  have g20 : fld W 20 5 = x.rs2 := by clear e hA hA2 d25; unfold fld; omega
  have g25 : fld W 25 2 = fld W 25 2 := by unfold fld; omega
  have g27 : fld W 27 5 = fld W 27 5 := by unfold fld; omega
  have gH : fld W 25 7 = H := by clear e hA hA2; unfold fld; omega
  refine ⟨w32, ?_, ?_⟩
  · unfold fitsL
    rw [hl, hm, hM]
    have k : W &&& (4294967295 - mkL 2) = M &&& (4294967295 - mkL 2) := and_same (fun k hk => by
      have k32 := hi_bit (by decide) hk
      rcases gm2 k k32 hk with ⟨c1, c2⟩ | ⟨c1, c2⟩
      · exact fld_bit g0 c1 c2
      · exact fld_bit g12 c1 c2)
    rw [decide_eq_true k]
    simp
  · unfold dcI
    rw [hl]
    obtain ⟨op, form, frm, kind, rd, rs1, rs2, rs3, rm, imm, csr⟩ := x
    simp only at *
    simp only [g7, g15, g20, gH]
    simp [*]
    try omega
theorem ena3 {r : Rw} {x : In} (hl : r.lay = 3) (hlt : r.mtch < 4294967296) (hm : r.mask = 4294967295 - mkL 3) (a1 : x.rd ≤ 31) (a2 : x.rs1 ≤ 31) (a3 : x.rs2 ≤ 31) (a4 : x.rs3 ≤ 31) (a5 : x.rm ≤ 7) (a6 : x.rm ≠ 5) (a7 : x.rm ≠ 6) (a8 : -2048 ≤ x.imm) (a9 : x.imm ≤ 2047) (a10 : x.csr ≤ 3) (z4 : x.imm = 0) (zc : x.csr = 0) (m7 : r.mtch / 128 % 32 = 0) (m12 : r.mtch / 4096 % 8 = 0) (m15 : r.mtch / 32768 % 32 = 0) (m20 : r.mtch / 1048576 % 32 = 0) (m27 : r.mtch / 134217728 % 32 = 0) (e1 : x.op = r.op) (e2 : x.form = r.form) (e3 : x.frm = r.frm) (e4 : x.kind = r.kind) : encW r x < 4294967296 ∧ fitsL r (encW r x) = true ∧ dcI r (encW r x) = x := by
  obtain ⟨W, hW⟩ : ∃ W, encW r x = W := ⟨_, rfl⟩
  have hi := imN_lt a8 a9
  have hs := imN_sg a8 a9
  obtain ⟨I, hI⟩ : ∃ I, imN x.imm = I := ⟨_, rfl⟩
  rw [hI] at hi hs
  have e : W = r.mtch + (x.rs1 * 32768 + (x.rd * 128 + x.rs2 * 1048576 + x.rs3 * 134217728 + x.rm * 4096)) := by
    rw [← hW]
    unfold encW fsW
    rw [hl, hI]
    simp
  rw [hW]
  obtain ⟨M, hM⟩ : ∃ M, r.mtch = M := ⟨_, rfl⟩
  rw [hM] at e hlt m7 m12 m15 m20 m27
  have w32 : W < 4294967296 := by omega
  have g0 : fld W 0 7 = fld M 0 7 := by unfold fld; omega
  have g7 : fld W 7 5 = x.rd := by unfold fld; omega
  have g12 : fld W 12 3 = x.rm := by unfold fld; omega
  have g15 : fld W 15 5 = x.rs1 := by unfold fld; omega
  have g20 : fld W 20 5 = x.rs2 := by unfold fld; omega
  have g25 : fld W 25 2 = fld M 25 2 := by unfold fld; omega
  have g27 : fld W 27 5 = x.rs3 := by unfold fld; omega
  refine ⟨w32, ?_, ?_⟩
  · unfold fitsL
    rw [hl, hm, hM]
    have k : W &&& (4294967295 - mkL 3) = M &&& (4294967295 - mkL 3) := and_same (fun k hk => by
      have k32 := hi_bit (by decide) hk
      rcases gm3 k k32 hk with ⟨c1, c2⟩ | ⟨c1, c2⟩
      · exact fld_bit g0 c1 c2
      · exact fld_bit g25 c1 c2)
    rw [decide_eq_true k]
    have r5 : W / 4096 % 8 = x.rm := by have := g12; unfold fld at this; exact this
    rw [r5]
    simp [a6, a7]
  · unfold dcI
    rw [hl]
    obtain ⟨op, form, frm, kind, rd, rs1, rs2, rs3, rm, imm, csr⟩ := x
    simp only at *
    simp only [g7, g15, g20, g27, g12]
    simp [*]
    try omega
theorem ena4 {r : Rw} {x : In} (hl : r.lay = 4) (hlt : r.mtch < 4294967296) (hm : r.mask = 4294967295 - mkL 4) (a1 : x.rd ≤ 31) (a2 : x.rs1 ≤ 31) (a3 : x.rs2 ≤ 31) (a4 : x.rs3 ≤ 31) (a5 : x.rm ≤ 7) (a6 : x.rm ≠ 5) (a7 : x.rm ≠ 6) (a8 : -2048 ≤ x.imm) (a9 : x.imm ≤ 2047) (a10 : x.csr ≤ 3) (z2 : x.rs3 = 0) (z4 : x.imm = 0) (zc : x.csr = 0) (m7 : r.mtch / 128 % 32 = 0) (m12 : r.mtch / 4096 % 8 = 0) (m15 : r.mtch / 32768 % 32 = 0) (m20 : r.mtch / 1048576 % 32 = 0) (e1 : x.op = r.op) (e2 : x.form = r.form) (e3 : x.frm = r.frm) (e4 : x.kind = r.kind) : encW r x < 4294967296 ∧ fitsL r (encW r x) = true ∧ dcI r (encW r x) = x := by
  obtain ⟨W, hW⟩ : ∃ W, encW r x = W := ⟨_, rfl⟩
  have hi := imN_lt a8 a9
  have hs := imN_sg a8 a9
  obtain ⟨I, hI⟩ : ∃ I, imN x.imm = I := ⟨_, rfl⟩
  rw [hI] at hi hs
  have e : W = r.mtch + (x.rs1 * 32768 + (x.rd * 128 + x.rs2 * 1048576 + x.rm * 4096)) := by
    rw [← hW]
    unfold encW fsW
    rw [hl, hI]
    simp
  rw [hW]
  obtain ⟨M, hM⟩ : ∃ M, r.mtch = M := ⟨_, rfl⟩
  rw [hM] at e hlt m7 m12 m15 m20
  have w32 : W < 4294967296 := by omega
  have g0 : fld W 0 7 = fld M 0 7 := by unfold fld; omega
  have g7 : fld W 7 5 = x.rd := by unfold fld; omega
  have g12 : fld W 12 3 = x.rm := by unfold fld; omega
  have g15 : fld W 15 5 = x.rs1 := by unfold fld; omega
  have g20 : fld W 20 5 = x.rs2 := by unfold fld; omega
  have g25 : fld W 25 2 = fld M 25 2 := by unfold fld; omega
  have g27 : fld W 27 5 = fld M 27 5 := by unfold fld; omega
  refine ⟨w32, ?_, ?_⟩
  · unfold fitsL
    rw [hl, hm, hM]
    have k : W &&& (4294967295 - mkL 4) = M &&& (4294967295 - mkL 4) := and_same (fun k hk => by
      have k32 := hi_bit (by decide) hk
      rcases gm4 k k32 hk with ⟨c1, c2⟩ | ⟨c1, c2⟩ | ⟨c1, c2⟩
      · exact fld_bit g0 c1 c2
      · exact fld_bit g25 c1 c2
      · exact fld_bit g27 c1 c2)
    rw [decide_eq_true k]
    have r5 : W / 4096 % 8 = x.rm := by have := g12; unfold fld at this; exact this
    rw [r5]
    simp [a6, a7]
  · unfold dcI
    rw [hl]
    obtain ⟨op, form, frm, kind, rd, rs1, rs2, rs3, rm, imm, csr⟩ := x
    simp only at *
    simp only [g7, g15, g20, g12]
    simp [*]
    try omega
theorem ena5 {r : Rw} {x : In} (hl : r.lay = 5) (hlt : r.mtch < 4294967296) (hm : r.mask = 4294967295 - mkL 5) (a1 : x.rd ≤ 31) (a2 : x.rs1 ≤ 31) (a3 : x.rs2 ≤ 31) (a4 : x.rs3 ≤ 31) (a5 : x.rm ≤ 7) (a6 : x.rm ≠ 5) (a7 : x.rm ≠ 6) (a8 : -2048 ≤ x.imm) (a9 : x.imm ≤ 2047) (a10 : x.csr ≤ 3) (z2 : x.rs3 = 0) (z3 : x.rm = 0) (z4 : x.imm = 0) (zc : x.csr = 0) (m7 : r.mtch / 128 % 32 = 0) (m15 : r.mtch / 32768 % 32 = 0) (m20 : r.mtch / 1048576 % 32 = 0) (e1 : x.op = r.op) (e2 : x.form = r.form) (e3 : x.frm = r.frm) (e4 : x.kind = r.kind) : encW r x < 4294967296 ∧ fitsL r (encW r x) = true ∧ dcI r (encW r x) = x := by
  obtain ⟨W, hW⟩ : ∃ W, encW r x = W := ⟨_, rfl⟩
  have hi := imN_lt a8 a9
  have hs := imN_sg a8 a9
  obtain ⟨I, hI⟩ : ∃ I, imN x.imm = I := ⟨_, rfl⟩
  rw [hI] at hi hs
  have e : W = r.mtch + (x.rs1 * 32768 + (x.rd * 128 + x.rs2 * 1048576)) := by
    rw [← hW]
    unfold encW fsW
    rw [hl, hI]
    simp
  rw [hW]
  obtain ⟨M, hM⟩ : ∃ M, r.mtch = M := ⟨_, rfl⟩
  rw [hM] at e hlt m7 m15 m20
  have w32 : W < 4294967296 := by omega
  have g0 : fld W 0 7 = fld M 0 7 := by unfold fld; omega
  have g7 : fld W 7 5 = x.rd := by unfold fld; omega
  have g12 : fld W 12 3 = fld M 12 3 := by unfold fld; omega
  have g15 : fld W 15 5 = x.rs1 := by unfold fld; omega
  have g20 : fld W 20 5 = x.rs2 := by unfold fld; omega
  have g25 : fld W 25 2 = fld M 25 2 := by unfold fld; omega
  have g27 : fld W 27 5 = fld M 27 5 := by unfold fld; omega
  refine ⟨w32, ?_, ?_⟩
  · unfold fitsL
    rw [hl, hm, hM]
    have k : W &&& (4294967295 - mkL 5) = M &&& (4294967295 - mkL 5) := and_same (fun k hk => by
      have k32 := hi_bit (by decide) hk
      rcases gm5 k k32 hk with ⟨c1, c2⟩ | ⟨c1, c2⟩ | ⟨c1, c2⟩ | ⟨c1, c2⟩
      · exact fld_bit g0 c1 c2
      · exact fld_bit g12 c1 c2
      · exact fld_bit g25 c1 c2
      · exact fld_bit g27 c1 c2)
    rw [decide_eq_true k]
    simp
  · unfold dcI
    rw [hl]
    obtain ⟨op, form, frm, kind, rd, rs1, rs2, rs3, rm, imm, csr⟩ := x
    simp only at *
    simp only [g7, g15, g20]
    simp [*]
    try omega
theorem ena6 {r : Rw} {x : In} (hl : r.lay = 6) (hlt : r.mtch < 4294967296) (hm : r.mask = 4294967295 - mkL 6) (a1 : x.rd ≤ 31) (a2 : x.rs1 ≤ 31) (a3 : x.rs2 ≤ 31) (a4 : x.rs3 ≤ 31) (a5 : x.rm ≤ 7) (a6 : x.rm ≠ 5) (a7 : x.rm ≠ 6) (a8 : -2048 ≤ x.imm) (a9 : x.imm ≤ 2047) (a10 : x.csr ≤ 3) (z1 : x.rs2 = 0) (z2 : x.rs3 = 0) (z4 : x.imm = 0) (zc : x.csr = 0) (m7 : r.mtch / 128 % 32 = 0) (m12 : r.mtch / 4096 % 8 = 0) (m15 : r.mtch / 32768 % 32 = 0) (e1 : x.op = r.op) (e2 : x.form = r.form) (e3 : x.frm = r.frm) (e4 : x.kind = r.kind) : encW r x < 4294967296 ∧ fitsL r (encW r x) = true ∧ dcI r (encW r x) = x := by
  obtain ⟨W, hW⟩ : ∃ W, encW r x = W := ⟨_, rfl⟩
  have hi := imN_lt a8 a9
  have hs := imN_sg a8 a9
  obtain ⟨I, hI⟩ : ∃ I, imN x.imm = I := ⟨_, rfl⟩
  rw [hI] at hi hs
  have e : W = r.mtch + (x.rs1 * 32768 + (x.rd * 128 + x.rm * 4096)) := by
    rw [← hW]
    unfold encW fsW
    rw [hl, hI]
    simp
  rw [hW]
  obtain ⟨M, hM⟩ : ∃ M, r.mtch = M := ⟨_, rfl⟩
  rw [hM] at e hlt m7 m12 m15
  have w32 : W < 4294967296 := by omega
  have g0 : fld W 0 7 = fld M 0 7 := by unfold fld; omega
  have g7 : fld W 7 5 = x.rd := by unfold fld; omega
  have g12 : fld W 12 3 = x.rm := by unfold fld; omega
  have g15 : fld W 15 5 = x.rs1 := by unfold fld; omega
  have g20 : fld W 20 5 = fld M 20 5 := by unfold fld; omega
  have g25 : fld W 25 2 = fld M 25 2 := by unfold fld; omega
  have g27 : fld W 27 5 = fld M 27 5 := by unfold fld; omega
  refine ⟨w32, ?_, ?_⟩
  · unfold fitsL
    rw [hl, hm, hM]
    have k : W &&& (4294967295 - mkL 6) = M &&& (4294967295 - mkL 6) := and_same (fun k hk => by
      have k32 := hi_bit (by decide) hk
      rcases gm6 k k32 hk with ⟨c1, c2⟩ | ⟨c1, c2⟩ | ⟨c1, c2⟩ | ⟨c1, c2⟩
      · exact fld_bit g0 c1 c2
      · exact fld_bit g20 c1 c2
      · exact fld_bit g25 c1 c2
      · exact fld_bit g27 c1 c2)
    rw [decide_eq_true k]
    have r5 : W / 4096 % 8 = x.rm := by have := g12; unfold fld at this; exact this
    rw [r5]
    simp [a6, a7]
  · unfold dcI
    rw [hl]
    obtain ⟨op, form, frm, kind, rd, rs1, rs2, rs3, rm, imm, csr⟩ := x
    simp only at *
    simp only [g7, g15, g12]
    simp [*]
    try omega
theorem ena7 {r : Rw} {x : In} (hl : r.lay = 7) (hlt : r.mtch < 4294967296) (hm : r.mask = 4294967295 - mkL 7) (a1 : x.rd ≤ 31) (a2 : x.rs1 ≤ 31) (a3 : x.rs2 ≤ 31) (a4 : x.rs3 ≤ 31) (a5 : x.rm ≤ 7) (a6 : x.rm ≠ 5) (a7 : x.rm ≠ 6) (a8 : -2048 ≤ x.imm) (a9 : x.imm ≤ 2047) (a10 : x.csr ≤ 3) (z1 : x.rs2 = 0) (z2 : x.rs3 = 0) (z3 : x.rm = 0) (z4 : x.imm = 0) (zc : x.csr = 0) (m7 : r.mtch / 128 % 32 = 0) (m15 : r.mtch / 32768 % 32 = 0) (e1 : x.op = r.op) (e2 : x.form = r.form) (e3 : x.frm = r.frm) (e4 : x.kind = r.kind) : encW r x < 4294967296 ∧ fitsL r (encW r x) = true ∧ dcI r (encW r x) = x := by
  obtain ⟨W, hW⟩ : ∃ W, encW r x = W := ⟨_, rfl⟩
  have hi := imN_lt a8 a9
  have hs := imN_sg a8 a9
  obtain ⟨I, hI⟩ : ∃ I, imN x.imm = I := ⟨_, rfl⟩
  rw [hI] at hi hs
  have e : W = r.mtch + (x.rs1 * 32768 + (x.rd * 128)) := by
    rw [← hW]
    unfold encW fsW
    rw [hl, hI]
    simp
  rw [hW]
  obtain ⟨M, hM⟩ : ∃ M, r.mtch = M := ⟨_, rfl⟩
  rw [hM] at e hlt m7 m15
  have w32 : W < 4294967296 := by omega
  have g0 : fld W 0 7 = fld M 0 7 := by unfold fld; omega
  have g7 : fld W 7 5 = x.rd := by unfold fld; omega
  have g12 : fld W 12 3 = fld M 12 3 := by unfold fld; omega
  have g15 : fld W 15 5 = x.rs1 := by unfold fld; omega
  have g20 : fld W 20 5 = fld M 20 5 := by unfold fld; omega
  have g25 : fld W 25 2 = fld M 25 2 := by unfold fld; omega
  have g27 : fld W 27 5 = fld M 27 5 := by unfold fld; omega
  refine ⟨w32, ?_, ?_⟩
  · unfold fitsL
    rw [hl, hm, hM]
    have k : W &&& (4294967295 - mkL 7) = M &&& (4294967295 - mkL 7) := and_same (fun k hk => by
      have k32 := hi_bit (by decide) hk
      rcases gm7 k k32 hk with ⟨c1, c2⟩ | ⟨c1, c2⟩ | ⟨c1, c2⟩ | ⟨c1, c2⟩ | ⟨c1, c2⟩
      · exact fld_bit g0 c1 c2
      · exact fld_bit g12 c1 c2
      · exact fld_bit g20 c1 c2
      · exact fld_bit g25 c1 c2
      · exact fld_bit g27 c1 c2)
    rw [decide_eq_true k]
    simp
  · unfold dcI
    rw [hl]
    obtain ⟨op, form, frm, kind, rd, rs1, rs2, rs3, rm, imm, csr⟩ := x
    simp only at *
    simp only [g7, g15]
    simp [*]
    try omega
theorem ena8 {r : Rw} {x : In} (hl : r.lay = 8) (hlt : r.mtch < 4294967296) (hm : r.mask = 4294967295 - mkL 8) (a1 : x.rd ≤ 31) (a2 : x.rs1 ≤ 31) (a3 : x.rs2 ≤ 31) (a4 : x.rs3 ≤ 31) (a5 : x.rm ≤ 7) (a6 : x.rm ≠ 5) (a7 : x.rm ≠ 6) (a8 : -2048 ≤ x.imm) (a9 : x.imm ≤ 2047) (a10 : x.csr ≤ 3) (z1 : x.rs2 = 0) (z2 : x.rs3 = 0) (z3 : x.rm = 0) (z4 : x.imm = 0) (zc : x.csr ≠ 0) (m7 : r.mtch / 128 % 32 = 0) (m15 : r.mtch / 32768 % 32 = 0) (m20 : r.mtch / 1048576 % 32 = 0) (m25 : r.mtch / 33554432 % 4 = 0) (m27 : r.mtch / 134217728 % 32 = 0) (e1 : x.op = r.op) (e2 : x.form = r.form) (e3 : x.frm = r.frm) (e4 : x.kind = r.kind) : encW r x < 4294967296 ∧ fitsL r (encW r x) = true ∧ dcI r (encW r x) = x := by
  obtain ⟨W, hW⟩ : ∃ W, encW r x = W := ⟨_, rfl⟩
  have hi := imN_lt a8 a9
  have hs := imN_sg a8 a9
  obtain ⟨I, hI⟩ : ∃ I, imN x.imm = I := ⟨_, rfl⟩
  rw [hI] at hi hs
  have e : W = r.mtch + (x.rs1 * 32768 + (x.rd * 128 + x.csr * 1048576)) := by
    rw [← hW]
    unfold encW fsW
    rw [hl, hI]
    simp
  rw [hW]
  obtain ⟨M, hM⟩ : ∃ M, r.mtch = M := ⟨_, rfl⟩
  rw [hM] at e hlt m7 m15 m20 m25 m27
  have w32 : W < 4294967296 := by omega
  have g0 : fld W 0 7 = fld M 0 7 := by unfold fld; omega
  have g7 : fld W 7 5 = x.rd := by unfold fld; omega
  have g12 : fld W 12 3 = fld M 12 3 := by unfold fld; omega
  have g15 : fld W 15 5 = x.rs1 := by unfold fld; omega
  have g20 : fld W 20 5 = fld W 20 5 := by unfold fld; omega
  have g25 : fld W 25 2 = fld W 25 2 := by unfold fld; omega
  have g27 : fld W 27 5 = fld W 27 5 := by unfold fld; omega
  have gC : fld W 20 12 = x.csr := by unfold fld; omega
  have gD : W / 1048576 = x.csr := by omega
  refine ⟨w32, ?_, ?_⟩
  · unfold fitsL
    rw [hl, hm, hM]
    have k : W &&& (4294967295 - mkL 8) = M &&& (4294967295 - mkL 8) := and_same (fun k hk => by
      have k32 := hi_bit (by decide) hk
      rcases gm8 k k32 hk with ⟨c1, c2⟩ | ⟨c1, c2⟩
      · exact fld_bit g0 c1 c2
      · exact fld_bit g12 c1 c2)
    rw [decide_eq_true k]
    rw [gD]
    simp
    omega
  · unfold dcI
    rw [hl]
    obtain ⟨op, form, frm, kind, rd, rs1, rs2, rs3, rm, imm, csr⟩ := x
    simp only at *
    simp only [g7, g15, gC]
    simp [*]
    try omega
theorem ena9 {r : Rw} {x : In} (hl : r.lay = 9) (hlt : r.mtch < 4294967296) (hm : r.mask = 4294967295 - mkL 9) (a1 : x.rd ≤ 31) (a2 : x.rs1 ≤ 31) (a3 : x.rs2 ≤ 31) (a4 : x.rs3 ≤ 31) (a5 : x.rm ≤ 7) (a6 : x.rm ≠ 5) (a7 : x.rm ≠ 6) (a8 : -2048 ≤ x.imm) (a9 : x.imm ≤ 2047) (a10 : x.csr ≤ 3) (z1 : x.rs2 = 0) (z2 : x.rs3 = 0) (z3 : x.rm = 0) (z4 : x.imm = 0) (zc : x.csr ≠ 0) (m7 : r.mtch / 128 % 32 = 0) (m15 : r.mtch / 32768 % 32 = 0) (m20 : r.mtch / 1048576 % 32 = 0) (m25 : r.mtch / 33554432 % 4 = 0) (m27 : r.mtch / 134217728 % 32 = 0) (e1 : x.op = r.op) (e2 : x.form = r.form) (e3 : x.frm = r.frm) (e4 : x.kind = r.kind) : encW r x < 4294967296 ∧ fitsL r (encW r x) = true ∧ dcI r (encW r x) = x := by
  obtain ⟨W, hW⟩ : ∃ W, encW r x = W := ⟨_, rfl⟩
  have hi := imN_lt a8 a9
  have hs := imN_sg a8 a9
  obtain ⟨I, hI⟩ : ∃ I, imN x.imm = I := ⟨_, rfl⟩
  rw [hI] at hi hs
  have e : W = r.mtch + (x.rs1 * 32768 + (x.rd * 128 + x.csr * 1048576)) := by
    rw [← hW]
    unfold encW fsW
    rw [hl, hI]
    simp
  rw [hW]
  obtain ⟨M, hM⟩ : ∃ M, r.mtch = M := ⟨_, rfl⟩
  rw [hM] at e hlt m7 m15 m20 m25 m27
  have w32 : W < 4294967296 := by omega
  have g0 : fld W 0 7 = fld M 0 7 := by unfold fld; omega
  have g7 : fld W 7 5 = x.rd := by unfold fld; omega
  have g12 : fld W 12 3 = fld M 12 3 := by unfold fld; omega
  have g15 : fld W 15 5 = x.rs1 := by unfold fld; omega
  have g20 : fld W 20 5 = fld W 20 5 := by unfold fld; omega
  have g25 : fld W 25 2 = fld W 25 2 := by unfold fld; omega
  have g27 : fld W 27 5 = fld W 27 5 := by unfold fld; omega
  have gC : fld W 20 12 = x.csr := by unfold fld; omega
  have gD : W / 1048576 = x.csr := by omega
  refine ⟨w32, ?_, ?_⟩
  · unfold fitsL
    rw [hl, hm, hM]
    have k : W &&& (4294967295 - mkL 9) = M &&& (4294967295 - mkL 9) := and_same (fun k hk => by
      have k32 := hi_bit (by decide) hk
      rcases gm9 k k32 hk with ⟨c1, c2⟩ | ⟨c1, c2⟩
      · exact fld_bit g0 c1 c2
      · exact fld_bit g12 c1 c2)
    rw [decide_eq_true k]
    rw [gD]
    simp
    omega
  · unfold dcI
    rw [hl]
    obtain ⟨op, form, frm, kind, rd, rs1, rs2, rs3, rm, imm, csr⟩ := x
    simp only at *
    simp only [g7, g15, gC]
    simp [*]
    try omega
theorem of_some {o f g k : Nat} {p : Nm} (h : ofR24 o f g k = some p) : p ∈ allL ∧ p.1.op = o ∧ p.1.form = f ∧ p.1.frm = g ∧ p.1.kind = k := by
  unfold ofR24 at h
  split at h
  · cases h
  · unfold fstL at h
    have q := List.find?_some h
    unfold ofB at q
    simp only [Bool.and_eq_true, beq_iff_eq] at q
    exact ⟨List.mem_of_find?_eq_some h, by omega, by omega, by omega, by omega⟩
theorem fd_is {w : Nat} {p : Nm} (hp : p ∈ allL) (hf : fitsL p.1 w = true) : fdL w = some p := by
  cases q : fdL w with
  | none =>
    unfold fdL fstL at q
    rw [List.find?_eq_none] at q
    exact absurd hf (q p hp)
  | some r =>
    obtain ⟨hr, hg⟩ := fd_mem q
    obtain ⟨j, hj⟩ := List.getElem?_of_mem hp
    obtain ⟨k, hk⟩ := List.getElem?_of_mem hr
    have e := one24 hj hk hf hg
    rw [e, hk] at hj
    rw [Option.some.inj hj]
theorem enc_dec {x : In} (h : mayI x = true) : ∃ p, ofR24 x.op x.form x.frm x.kind = some p ∧ p ∈ allL ∧ encW p.1 x < 4294967296 ∧ fdL (encW p.1 x) = some p ∧ dcI p.1 (encW p.1 x) = x := by
  unfold mayI at h
  cases q : ofR24 x.op x.form x.frm x.kind with
  | none => rw [q] at h; cases h
  | some p =>
    rw [q] at h
    simp only [Bool.and_eq_true] at h
    obtain ⟨hb, hf⟩ := h
    obtain ⟨hp, e1, e2, e3, e4⟩ := of_some q
    unfold bndI at hb
    obtain ⟨a1, a2, a3, a4, a5, a6, a7, a8, a9, a10⟩ := of_decide_eq_true hb
    have hm := of_decide_eq_true (List.all_eq_true.1 maskIs p hp)
    obtain ⟨l1, l9, _⟩ := lay24 hp
    refine ⟨p, rfl, hp, ?_⟩
    have key : encW p.1 x < 4294967296 ∧ fitsL p.1 (encW p.1 x) = true ∧ dcI p.1 (encW p.1 x) = x := by
      obtain ⟨r, nn⟩ := p
      simp only at *
      rcases (by omega : r.lay = 1 ∨ r.lay = 2 ∨ r.lay = 3 ∨ r.lay = 4 ∨ r.lay = 5 ∨ r.lay = 6 ∨ r.lay = 7 ∨ r.lay = 8 ∨ r.lay = 9) with hl | hl | hl | hl | hl | hl | hl | hl | hl
      · rw [hl] at hf hm
        have mt := List.all_eq_true.1 mt1 (r, nn) hp
        simp [hl] at mt
        simp [fitI, hsL] at hf
        exact ena1 hl hm.2 hm.1 a1 a2 a3 a4 a5 a6 a7 a8 a9 a10 (by simp_all) (by simp_all) (by simp_all) (by simp_all) (by omega) (by omega) (by omega) (by omega) (by omega) e1.symm e2.symm e3.symm e4.symm
      · rw [hl] at hf hm
        have mt := List.all_eq_true.1 mt2 (r, nn) hp
        simp [hl] at mt
        simp [fitI, hsL] at hf
        exact ena2 hl hm.2 hm.1 a1 a2 a3 a4 a5 a6 a7 a8 a9 a10 (by simp_all) (by simp_all) (by simp_all) (by simp_all) (by omega) (by omega) (by omega) (by omega) (by omega) e1.symm e2.symm e3.symm e4.symm
      · rw [hl] at hf hm
        have mt := List.all_eq_true.1 mt3 (r, nn) hp
        simp [hl] at mt
        simp [fitI, hsL] at hf
        exact ena3 hl hm.2 hm.1 a1 a2 a3 a4 a5 a6 a7 a8 a9 a10 (by simp_all) (by simp_all) (by omega) (by omega) (by omega) (by omega) (by omega) e1.symm e2.symm e3.symm e4.symm
      · rw [hl] at hf hm
        have mt := List.all_eq_true.1 mt4 (r, nn) hp
        simp [hl] at mt
        simp [fitI, hsL] at hf
        exact ena4 hl hm.2 hm.1 a1 a2 a3 a4 a5 a6 a7 a8 a9 a10 (by simp_all) (by simp_all) (by simp_all) (by omega) (by omega) (by omega) (by omega) e1.symm e2.symm e3.symm e4.symm
      · rw [hl] at hf hm
        have mt := List.all_eq_true.1 mt5 (r, nn) hp
        simp [hl] at mt
        simp [fitI, hsL] at hf
        exact ena5 hl hm.2 hm.1 a1 a2 a3 a4 a5 a6 a7 a8 a9 a10 (by simp_all) (by simp_all) (by simp_all) (by simp_all) (by omega) (by omega) (by omega) e1.symm e2.symm e3.symm e4.symm
      · rw [hl] at hf hm
        have mt := List.all_eq_true.1 mt6 (r, nn) hp
        simp [hl] at mt
        simp [fitI, hsL] at hf
        exact ena6 hl hm.2 hm.1 a1 a2 a3 a4 a5 a6 a7 a8 a9 a10 (by simp_all) (by simp_all) (by simp_all) (by simp_all) (by omega) (by omega) (by omega) e1.symm e2.symm e3.symm e4.symm
      · rw [hl] at hf hm
        have mt := List.all_eq_true.1 mt7 (r, nn) hp
        simp [hl] at mt
        simp [fitI, hsL] at hf
        exact ena7 hl hm.2 hm.1 a1 a2 a3 a4 a5 a6 a7 a8 a9 a10 (by simp_all) (by simp_all) (by simp_all) (by simp_all) (by simp_all) (by omega) (by omega) e1.symm e2.symm e3.symm e4.symm
      · rw [hl] at hf hm
        have mt := List.all_eq_true.1 mt8 (r, nn) hp
        simp [hl] at mt
        simp [fitI, hsL] at hf
        exact ena8 hl hm.2 hm.1 a1 a2 a3 a4 a5 a6 a7 a8 a9 a10 (by simp_all) (by simp_all) (by simp_all) (by simp_all) (by simp_all) (by omega) (by omega) (by omega) (by omega) (by omega) e1.symm e2.symm e3.symm e4.symm
      · rw [hl] at hf hm
        have mt := List.all_eq_true.1 mt9 (r, nn) hp
        simp [hl] at mt
        simp [fitI, hsL] at hf
        exact ena9 hl hm.2 hm.1 a1 a2 a3 a4 a5 a6 a7 a8 a9 a10 (by simp_all) (by simp_all) (by simp_all) (by simp_all) (by simp_all) (by omega) (by omega) (by omega) (by omega) (by omega) e1.symm e2.symm e3.symm e4.symm
    exact ⟨key.1, fd_is hp key.2.1, key.2.2⟩
end Go.Proofs.YtaoccmopfflkmaaDoor
namespace Go.Proofs.YtaoccmopfflkmaaDoor
set_option maxRecDepth 100000
set_option maxHeartbeats 40000000
set_option maxRecDepth 100000
open Go.RowKit WMath
set_option linter.unusedSimpArgs false
set_option linter.unusedVariables false
set_option maxRecDepth 100000 in
set_option maxHeartbeats 8000000 in
theorem b26_may_no (x : In) (rr : Rw) (nn : ByteArray) (e : Int) (he : (e != 0) = true) (RO : Box (∀ w, Calls Tryd.prog 26 #[.int .u8 (x.op : Nat), .int .u8 (x.form : Nat), .int .u8 (x.frm : Nat), .int .u8 (x.kind : Nat)] w fun r w' => r = .returned (.tuple #[.agg (ndC rr nn), .int .i64 e]) ∧ Below w.heap.size w w')) (w : World) : Calls Tryd.prog 12 #[.agg (inC x)] w fun r w' => r = .returned (.bool false) ∧ Below w.heap.size w w' := by
  have hdn := ndC_new
  obtain ⟨Rx_0, B0⟩ := opn1 w (Obj.cells (inC x) 27)
  go_enter Tryd.func12, Tryd.ntmps12
  obtain ⟨cx_0_0, cx_0_1, cx_0_2, cx_0_3, cx_0_4, cx_0_5, cx_0_6, cx_0_7, cx_0_8, cx_0_9, cx_0_10⟩ := inC_cells Rx_0
  go_wp2_with fail
  refine (RO.out _).mono ?_
  rintro r w1 ⟨rfl, b1⟩
  have B1 : Below w.heap.size w w1 := btr B0 b1
  have Rx_1 := heap_of b1 _ _ _ Rx_0
  clear b1 B0 Rx_0 cx_0_0 cx_0_1 cx_0_2 cx_0_3 cx_0_4 cx_0_5 cx_0_6 cx_0_7 cx_0_8 cx_0_9 cx_0_10
  obtain ⟨cx_1_0, cx_1_1, cx_1_2, cx_1_3, cx_1_4, cx_1_5, cx_1_6, cx_1_7, cx_1_8, cx_1_9, cx_1_10⟩ := inC_cells Rx_1
  have S2 := box B1.size
  have Lx_2 : Box (w.heap.size < w1.heap.size) := box (Array.getElem?_eq_some_iff.1 Rx_1).1
  have Rt_2 := heap_alloc_last w1 (Obj.cells (ndC rr nn) 47)
  have B2 := btr B1 (bal w1 (Obj.cells (ndC rr nn) 47))
  have Rx_2 := heap_of (bal w1 (Obj.cells (ndC rr nn) 47)) _ _ _ Rx_1
  clear B1 Rx_1 cx_1_0 cx_1_1 cx_1_2 cx_1_3 cx_1_4 cx_1_5 cx_1_6 cx_1_7 cx_1_8 cx_1_9 cx_1_10
  obtain ⟨cx_2_0, cx_2_1, cx_2_2, cx_2_3, cx_2_4, cx_2_5, cx_2_6, cx_2_7, cx_2_8, cx_2_9, cx_2_10⟩ := inC_cells Rx_2
  obtain ⟨ct_2_0, ct_2_1, ct_2_2, ct_2_3, ct_2_4, ct_2_5, ct_2_6, ct_2_7⟩ := ndC_cells Rt_2
  go_wp2
  go_ret
  exact ⟨rfl, B2⟩
set_option maxRecDepth 100000 in
set_option maxHeartbeats 8000000 in
theorem b26_may (x : In) (rr : Rw) (nn : ByteArray) (h : Hs) (RO : Box (∀ w, Calls Tryd.prog 26 #[.int .u8 (x.op : Nat), .int .u8 (x.form : Nat), .int .u8 (x.frm : Nat), .int .u8 (x.kind : Nat)] w fun r w' => r = .returned (.tuple #[.agg (ndC rr nn), .int .i64 0]) ∧ Below w.heap.size w w')) (RF : Box (∀ w, Calls Tryd.prog 28 #[.int .u8 (rr.lay : Nat)] w fun r w' => r = .returned (.agg (hsC h)) ∧ Below w.heap.size w w')) (w : World) : Calls Tryd.prog 12 #[.agg (inC x)] w fun r w' => r = .returned (.bool (bndI x && fitI h x)) ∧ Below w.heap.size w w' := by
  have hdn := ndC_new
  have hhn := hsC_new
  obtain ⟨Rx_0, B0⟩ := opn1 w (Obj.cells (inC x) 27)
  go_enter Tryd.func12, Tryd.ntmps12
  obtain ⟨cx_0_0, cx_0_1, cx_0_2, cx_0_3, cx_0_4, cx_0_5, cx_0_6, cx_0_7, cx_0_8, cx_0_9, cx_0_10⟩ := inC_cells Rx_0
  go_wp2_with fail
  refine (RO.out _).mono ?_
  rintro r w1 ⟨rfl, b1⟩
  have B1 : Below w.heap.size w w1 := btr B0 b1
  have Rx_1 := heap_of b1 _ _ _ Rx_0
  clear b1 B0 Rx_0 cx_0_0 cx_0_1 cx_0_2 cx_0_3 cx_0_4 cx_0_5 cx_0_6 cx_0_7 cx_0_8 cx_0_9 cx_0_10
  obtain ⟨cx_1_0, cx_1_1, cx_1_2, cx_1_3, cx_1_4, cx_1_5, cx_1_6, cx_1_7, cx_1_8, cx_1_9, cx_1_10⟩ := inC_cells Rx_1
  have S2 := box B1.size
  have Lx_2 : Box (w.heap.size < w1.heap.size) := box (Array.getElem?_eq_some_iff.1 Rx_1).1
  have Rt_2 := heap_alloc_last w1 (Obj.cells (ndC rr nn) 47)
  have B2 := btr B1 (bal w1 (Obj.cells (ndC rr nn) 47))
  have Rx_2 := heap_of (bal w1 (Obj.cells (ndC rr nn) 47)) _ _ _ Rx_1
  clear B1 Rx_1 cx_1_0 cx_1_1 cx_1_2 cx_1_3 cx_1_4 cx_1_5 cx_1_6 cx_1_7 cx_1_8 cx_1_9 cx_1_10
  obtain ⟨cx_2_0, cx_2_1, cx_2_2, cx_2_3, cx_2_4, cx_2_5, cx_2_6, cx_2_7, cx_2_8, cx_2_9, cx_2_10⟩ := inC_cells Rx_2
  obtain ⟨ct_2_0, ct_2_1, ct_2_2, ct_2_3, ct_2_4, ct_2_5, ct_2_6, ct_2_7⟩ := ndC_cells Rt_2
  obtain ⟨ct_2_0, ct_2_1, ct_2_2, ct_2_3, ct_2_4, ct_2_5, ct_2_6, ct_2_7⟩ := ndC_cells Rt_2
  clear cx_2_0 cx_2_1 cx_2_2 cx_2_3 cx_2_4 cx_2_5 cx_2_6 cx_2_7 cx_2_8 cx_2_9 cx_2_10
  go_wp2_with fail
  refine (RF.out _).mono ?_
  rintro r w3 ⟨rfl, b3⟩
  have B3 : Below w.heap.size w w3 := btr B2 b3
  have Rx_3 := heap_of b3 _ _ _ Rx_2
  have Rt_3 := heap_of b3 _ _ _ Rt_2
  clear b3 B2 Rx_2 Rt_2 ct_2_0 ct_2_1 ct_2_2 ct_2_3 ct_2_4 ct_2_5 ct_2_6 ct_2_7
  obtain ⟨ct_3_0, ct_3_1, ct_3_2, ct_3_3, ct_3_4, ct_3_5, ct_3_6, ct_3_7⟩ := ndC_cells Rt_3
  clear ct_3_0 ct_3_1 ct_3_2 ct_3_3 ct_3_4 ct_3_5 ct_3_6 ct_3_7
  have S4 := box B3.size
  have Lx_4 : Box (w.heap.size < w3.heap.size) := box (Array.getElem?_eq_some_iff.1 Rx_3).1
  have Lt_4 : Box (w1.heap.size < w3.heap.size) := box (Array.getElem?_eq_some_iff.1 Rt_3).1
  have Rh_4 := heap_alloc_last w3 (Obj.cells (hsC h) 71)
  have B4 := btr B3 (bal w3 (Obj.cells (hsC h) 71))
  have Rx_4 := heap_of (bal w3 (Obj.cells (hsC h) 71)) _ _ _ Rx_3
  have Rt_4 := heap_of (bal w3 (Obj.cells (hsC h) 71)) _ _ _ Rt_3
  clear B3 Rx_3 Rt_3
  obtain ⟨ch_4_0, ch_4_1, ch_4_2, ch_4_3, ch_4_4, ch_4_5⟩ := hsC_cells Rh_4
  obtain ⟨cx_4_0, cx_4_1, cx_4_2, cx_4_3, cx_4_4, cx_4_5, cx_4_6, cx_4_7, cx_4_8, cx_4_9, cx_4_10⟩ := inC_cells Rx_4
  obtain ⟨ch_4_0, ch_4_1, ch_4_2, ch_4_3, ch_4_4, ch_4_5⟩ := hsC_cells Rh_4
  go_wp2
  all_goals
    go_ret
    refine ⟨congrArg (fun b => Ending.returned (.bool b)) ?_, B4⟩
    clear B4
    have z : (((x.csr : Nat) : Int) != 0) = !decide (x.csr = 0) := by by_cases c : x.csr = 0 <;> simp [c]
    (try simp only [beq_iff_eq] at *)
    first
      | (have hb : bndI x = false := decide_eq_false (fun c => by obtain ⟨c1, c2, c3, c4, c5, c6, c7, c8, c9, c10⟩ := c; omega); simp only [hb, Bool.false_and])
      | (have hb : bndI x = true := decide_eq_true (by omega)
         rw [hb, Bool.true_and]
         (try rw [z])
         simp_all [fitI])
end Go.Proofs.YtaoccmopfflkmaaDoor
