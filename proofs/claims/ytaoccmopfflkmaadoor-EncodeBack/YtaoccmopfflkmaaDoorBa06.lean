/-
  What the functions that the statement reaches return: part 6 (WD, WF, WG, WI).
-/
import Derived.Laws.AppendOwn
import Derived.Deep.RegionLaw
import Derived.Deep.AppendLies
import Derived.Test.YtaoccmopfflkmaaDoorBa05
namespace Go.Proofs.YtaoccmopfflkmaaDoor
set_option maxRecDepth 100000
set_option maxHeartbeats 40000000
set_option maxRecDepth 100000
open Go.RowKit WMath
set_option linter.unusedSimpArgs false
set_option linter.unusedVariables false
def bndI (x : In) : Bool := decide (x.rd ≤ 31 ∧ x.rs1 ≤ 31 ∧ x.rs2 ≤ 31 ∧ x.rs3 ≤ 31 ∧ x.rm ≤ 7 ∧ x.rm ≠ 5 ∧ x.rm ≠ 6 ∧ -2048 ≤ x.imm ∧ x.imm ≤ 2047 ∧ x.csr ≤ 3)
def fitI (h : Hs) (x : In) : Bool := (h.rd || decide (x.rd = 0)) && (h.rs2 || decide (x.rs2 = 0)) && (h.rs3 || decide (x.rs3 = 0)) && (h.rm || decide (x.rm = 0)) && (h.imm || decide (x.imm = 0)) && (h.csr == !decide (x.csr = 0))
def mayI (x : In) : Bool := match ofR24 x.op x.form x.frm x.kind with | some p => bndI x && fitI (hsL p.1.lay) x | none => false
def imN (i : Int) : Nat := (if i < 0 then i + 4096 else i).toNat
def fsW (l : Nat) (x : In) : Nat := x.rs1 * 32768 + (if l = 1 then x.rd * 128 + imN x.imm * 1048576 else if l = 2 then x.rs2 * 1048576 + (imN x.imm / 32 * 33554432 + imN x.imm % 32 * 128) else if l = 3 then x.rd * 128 + x.rs2 * 1048576 + x.rs3 * 134217728 + x.rm * 4096 else if l = 4 then x.rd * 128 + x.rs2 * 1048576 + x.rm * 4096 else if l = 5 then x.rd * 128 + x.rs2 * 1048576 else if l = 6 then x.rd * 128 + x.rm * 4096 else if l = 7 then x.rd * 128 else if l = 8 then x.rd * 128 + x.csr * 1048576 else x.rd * 128 + x.csr * 1048576)
def encW (p : Rw) (x : In) : Nat := p.mtch + fsW p.lay x
def enR (x : In) : Nat × Int := if mayI x then (encW (ndO (ofR24 x.op x.form x.frm x.kind)).1 x, 0) else (0, 260)
theorem maskIs : allL.all (fun p => decide (p.1.mask = 4294967295 - mkL p.1.lay ∧ p.1.mtch < 4294967296)) = true := by decide +kernel
theorem mt1 : allL.all (fun p => !decide (p.1.lay = 1) || decide (p.1.mtch / 128 % 32 = 0 ∧ p.1.mtch / 32768 % 32 = 0 ∧ p.1.mtch / 1048576 % 32 = 0 ∧ p.1.mtch / 33554432 % 4 = 0 ∧ p.1.mtch / 134217728 % 32 = 0)) = true := by decide +kernel
theorem gm1 : ∀ k, k < 32 → (4294967295 - mkL 1).testBit k = true → (0 ≤ k ∧ k < 7) ∨ (12 ≤ k ∧ k < 15) := by decide +kernel
theorem mt2 : allL.all (fun p => !decide (p.1.lay = 2) || decide (p.1.mtch / 128 % 32 = 0 ∧ p.1.mtch / 32768 % 32 = 0 ∧ p.1.mtch / 1048576 % 32 = 0 ∧ p.1.mtch / 33554432 % 4 = 0 ∧ p.1.mtch / 134217728 % 32 = 0)) = true := by decide +kernel
theorem gm2 : ∀ k, k < 32 → (4294967295 - mkL 2).testBit k = true → (0 ≤ k ∧ k < 7) ∨ (12 ≤ k ∧ k < 15) := by decide +kernel
theorem mt3 : allL.all (fun p => !decide (p.1.lay = 3) || decide (p.1.mtch / 128 % 32 = 0 ∧ p.1.mtch / 4096 % 8 = 0 ∧ p.1.mtch / 32768 % 32 = 0 ∧ p.1.mtch / 1048576 % 32 = 0 ∧ p.1.mtch / 134217728 % 32 = 0)) = true := by decide +kernel
theorem gm3 : ∀ k, k < 32 → (4294967295 - mkL 3).testBit k = true → (0 ≤ k ∧ k < 7) ∨ (25 ≤ k ∧ k < 27) := by decide +kernel
theorem mt4 : allL.all (fun p => !decide (p.1.lay = 4) || decide (p.1.mtch / 128 % 32 = 0 ∧ p.1.mtch / 4096 % 8 = 0 ∧ p.1.mtch / 32768 % 32 = 0 ∧ p.1.mtch / 1048576 % 32 = 0)) = true := by decide +kernel
theorem gm4 : ∀ k, k < 32 → (4294967295 - mkL 4).testBit k = true → (0 ≤ k ∧ k < 7) ∨ (25 ≤ k ∧ k < 27) ∨ (27 ≤ k ∧ k < 32) := by decide +kernel
theorem mt5 : allL.all (fun p => !decide (p.1.lay = 5) || decide (p.1.mtch / 128 % 32 = 0 ∧ p.1.mtch / 32768 % 32 = 0 ∧ p.1.mtch / 1048576 % 32 = 0)) = true := by decide +kernel
theorem gm5 : ∀ k, k < 32 → (4294967295 - mkL 5).testBit k = true → (0 ≤ k ∧ k < 7) ∨ (12 ≤ k ∧ k < 15) ∨ (25 ≤ k ∧ k < 27) ∨ (27 ≤ k ∧ k < 32) := by decide +kernel
theorem mt6 : allL.all (fun p => !decide (p.1.lay = 6) || decide (p.1.mtch / 128 % 32 = 0 ∧ p.1.mtch / 4096 % 8 = 0 ∧ p.1.mtch / 32768 % 32 = 0)) = true := by decide +kernel
theorem gm6 : ∀ k, k < 32 → (4294967295 - mkL 6).testBit k = true → (0 ≤ k ∧ k < 7) ∨ (20 ≤ k ∧ k < 25) ∨ (25 ≤ k ∧ k < 27) ∨ (27 ≤ k ∧ k < 32) := by decide +kernel
theorem mt7 : allL.all (fun p => !decide (p.1.lay = 7) || decide (p.1.mtch / 128 % 32 = 0 ∧ p.1.mtch / 32768 % 32 = 0)) = true := by decide +kernel
theorem gm7 : ∀ k, k < 32 → (4294967295 - mkL 7).testBit k = true → (0 ≤ k ∧ k < 7) ∨ (12 ≤ k ∧ k < 15) ∨ (20 ≤ k ∧ k < 25) ∨ (25 ≤ k ∧ k < 27) ∨ (27 ≤ k ∧ k < 32) := by decide +kernel
theorem mt8 : allL.all (fun p => !decide (p.1.lay = 8) || decide (p.1.mtch / 128 % 32 = 0 ∧ p.1.mtch / 32768 % 32 = 0 ∧ p.1.mtch / 1048576 % 32 = 0 ∧ p.1.mtch / 33554432 % 4 = 0 ∧ p.1.mtch / 134217728 % 32 = 0)) = true := by decide +kernel
theorem gm8 : ∀ k, k < 32 → (4294967295 - mkL 8).testBit k = true → (0 ≤ k ∧ k < 7) ∨ (12 ≤ k ∧ k < 15) := by decide +kernel
theorem mt9 : allL.all (fun p => !decide (p.1.lay = 9) || decide (p.1.mtch / 128 % 32 = 0 ∧ p.1.mtch / 32768 % 32 = 0 ∧ p.1.mtch / 1048576 % 32 = 0 ∧ p.1.mtch / 33554432 % 4 = 0 ∧ p.1.mtch / 134217728 % 32 = 0)) = true := by decide +kernel
theorem gm9 : ∀ k, k < 32 → (4294967295 - mkL 9).testBit k = true → (0 ≤ k ∧ k < 7) ∨ (12 ≤ k ∧ k < 15) := by decide +kernel
theorem imN_lt {i : Int} (h1 : -2048 ≤ i) (h2 : i ≤ 2047) : imN i < 4096 := by
  unfold imN
  split <;> omega
theorem imN_sg {i : Int} (h1 : -2048 ≤ i) (h2 : i ≤ 2047) : sg12 (imN i) = i := by
  unfold imN sg12
  split <;> split <;> omega
theorem and_same {v w m : Nat} (h : ∀ k, m.testBit k = true → v.testBit k = w.testBit k) : v &&& m = w &&& m := by
  apply Nat.eq_of_testBit_eq
  intro k
  rw [Nat.testBit_and, Nat.testBit_and]
  cases q : m.testBit k
  · simp
  · rw [h k q]
theorem hi_bit {m k : Nat} (hm : m < 4294967296) (h : m.testBit k = true) : k < 32 := by
  apply Decidable.byContradiction
  intro hk
  have : m.testBit k = false := Nat.testBit_lt_two_pow (Nat.lt_of_lt_of_le hm (by rw [show 4294967296 = 2 ^ 32 from rfl]; exact Nat.pow_le_pow_right (by decide) (by omega)))
  rw [this] at h
  cases h
theorem ena1 {r : Rw} {x : In} (hl : r.lay = 1) (hlt : r.mtch < 4294967296) (hm : r.mask = 4294967295 - mkL 1) (a1 : x.rd ≤ 31) (a2 : x.rs1 ≤ 31) (a3 : x.rs2 ≤ 31) (a4 : x.rs3 ≤ 31) (a5 : x.rm ≤ 7) (a6 : x.rm ≠ 5) (a7 : x.rm ≠ 6) (a8 : -2048 ≤ x.imm) (a9 : x.imm ≤ 2047) (a10 : x.csr ≤ 3) (z1 : x.rs2 = 0) (z2 : x.rs3 = 0) (z3 : x.rm = 0) (zc : x.csr = 0) (m7 : r.mtch / 128 % 32 = 0) (m15 : r.mtch / 32768 % 32 = 0) (m20 : r.mtch / 1048576 % 32 = 0) (m25 : r.mtch / 33554432 % 4 = 0) (m27 : r.mtch / 134217728 % 32 = 0) (e1 : x.op = r.op) (e2 : x.form = r.form) (e3 : x.frm = r.frm) (e4 : x.kind = r.kind) : encW r x < 4294967296 ∧ fitsL r (encW r x) = true ∧ dcI r (encW r x) = x := by
  obtain ⟨W, hW⟩ : ∃ W, encW r x = W := ⟨_, rfl⟩
  have hi := imN_lt a8 a9
  have hs := imN_sg a8 a9
  obtain ⟨I, hI⟩ : ∃ I, imN x.imm = I := ⟨_, rfl⟩
  rw [hI] at hi hs
  have e : W = r.mtch + (x.rs1 * 32768 + (x.rd * 128 + I * 1048576)) := by
    rw [← hW]
    unfold encW fsW
    rw [hl, hI]
    simp
  rw [hW]
  obtain ⟨M, hM⟩ : ∃ M, r.mtch = M := ⟨_, rfl⟩
  rw [hM] at e hlt m7 m15 m20 m25 m27
  have w32 : W < 4294967296 := by omega
  have g0 : fld W 0 7 = fld M 0 7 := by unfold fld; omega
  have g7 : fld W 7 5 = x.rd := by unfold fld; omega
  have g12 : fld W 12 3 = fld M 12 3 := by unfold fld; omega
  have g15 : fld W 15 5 = x.rs1 := by unfold fld; omega
  have g20 : fld W 20 5 = fld W 20 5 := by unfold fld; omega
  have g25 : fld W 25 2 = fld W 25 2 := by unfold fld; omega
  have g27 : fld W 27 5 = fld W 27 5 := by unfold fld; omega
  have gI : fld W 20 12 = I := by unfold fld; omega
  refine ⟨w32, ?_, ?_⟩
  · unfold fitsL
    rw [hl, hm, hM]
    have k : W &&& (4294967295 - mkL 1) = M &&& (4294967295 - mkL 1) := and_same (fun k hk => by
      have k32 := hi_bit (by decide) hk
      rcases gm1 k k32 hk with ⟨c1, c2⟩ | ⟨c1, c2⟩
      · exact fld_bit g0 c1 c2
      · exact fld_bit g12 c1 c2)
    rw [decide_eq_true k]
    simp
  · unfold dcI
    rw [hl]
    obtain ⟨op, form, frm, kind, rd, rs1, rs2, rs3, rm, imm, csr⟩ := x
    simp only at *
    simp only [g7, g15, gI]
    simp [*]
    try omega
theorem ena2 {r : Rw} {x : In} (hl : r.lay = 2) (hlt : r.mtch < 4294967296) (hm : r.mask = 4294967295 - mkL 2) (a1 : x.rd ≤ 31) (a2 : x.rs1 ≤ 31) (a3 : x.rs2 ≤ 31) (a4 : x.rs3 ≤ 31) (a5 : x.rm ≤ 7) (a6 : x.rm ≠ 5) (a7 : x.rm ≠ 6) (a8 : -2048 ≤ x.imm) (a9 : x.imm ≤ 2047) (a10 : x.csr ≤ 3) (z0 : x.rd = 0) (z2 : x.rs3 = 0) (z3 : x.rm = 0) (zc : x.csr = 0) (m7 : r.mtch / 128 % 32 = 0) (m15 : r.mtch / 32768 % 32 = 0) (m20 : r.mtch / 1048576 % 32 = 0) (m25 : r.mtch / 33554432 % 4 = 0) (m27 : r.mtch / 134217728 % 32 = 0) (e1 : x.op = r.op) (e2 : x.form = r.form) (e3 : x.frm = r.frm) (e4 : x.kind = r.kind) : encW r x < 4294967296 ∧ fitsL r (encW r x) = true ∧ dcI r (encW r x) = x := by
  obtain ⟨W, hW⟩ : ∃ W, encW r x = W := ⟨_, rfl⟩
  have hi := imN_lt a8 a9
  have hs := imN_sg a8 a9
  obtain ⟨I, hI⟩ : ∃ I, imN x.imm = I := ⟨_, rfl⟩
  rw [hI] at hi hs
  have e : W = r.mtch + (x.rs1 * 32768 + (x.rs2 * 1048576 + (I / 32 * 33554432 + I % 32 * 128))) := by
    rw [← hW]
    unfold encW fsW
    rw [hl, hI]
    simp
  rw [hW]
  obtain ⟨M, hM⟩ : ∃ M, r.mtch = M := ⟨_, rfl⟩
  rw [hM] at e hlt m7 m15 m20 m25 m27
  obtain ⟨H, hH⟩ : ∃ H, I / 32 = H := ⟨_, rfl⟩
  obtain ⟨Lo, hLo⟩ : ∃ Lo, I % 32 = Lo := ⟨_, rfl⟩
  have hH1 : H ≤ 127 := by omega
  have hL1 : Lo ≤ 31 := by omega
  have hIL : 32 * H + Lo = I := by omega
  rw [hH, hLo] at e
  clear hH hLo
  have hM15 : M < 32768 := by omega
  clear m15 m20 m25 m27
  have w32 : W < 4294967296 := by omega
  obtain ⟨A, hA⟩ : ∃ A, M + x.rs1 * 32768 + Lo * 128 = A := ⟨_, rfl⟩
  have hA1 : A < 1048576 := by omega
  have hA2 : W = A + 1048576 * (x.rs2 + 32 * H) := by omega
  have d20 : W / 1048576 = x.rs2 + 32 * H := by clear e hA; omega
  have d25 : W / 33554432 = W / 1048576 / 32 := by clear e hA hA2 d20; omega
  have g0 : fld W 0 7 = fld M 0 7 := by unfold fld; omega
  have g7 : fld W 7 5 = Lo := by unfold fld; omega
  have g12 : fld W 12 3 = fld M 12 3 := by unfold fld; omega
  have g15 : fld W 15 5 = x.rs1 := by unfold fld; omega
  have g20 : fld W 20 5 = x.rs2 := by clear e hA hA2 d25; unfold fld; omega
  have g25 : fld W 25 2 = fld W 25 2 := by unfold fld; omega
  have g27 : fld W 27 5 = fld W 27 5 := by unfold fld; omega
  have gH : fld W 25 7 = H := by clear e hA hA2; unfold fld; omega
  refine ⟨w32, ?_, ?_⟩
  · unfold fitsL
    rw [hl, hm, hM]
    have k : W &&& (4294967295 - mkL 2) = M &&& (4294967295 - mkL 2) := and_same (fun k hk => by
      have k32 := hi_bit (by decide) hk
      rcases gm2 k k32 hk with ⟨c1, c2⟩ | ⟨c1, c2⟩
      · exact fld_bit g0 c1 c2
      · exact fld_bit g12 c1 c2)
    rw [decide_eq_true k]
    simp
  · unfold dcI
    rw [hl]
    obtain ⟨op, form, frm, kind, rd, rs1, rs2, rs3, rm, imm, csr⟩ := x
    simp only at *
    simp only [g7, g15, g20, gH]
    simp [*]
    try omega
theorem ena3 {r : Rw} {x : In} (hl : r.lay = 3) (hlt : r.mtch < 4294967296) (hm : r.mask = 4294967295 - mkL 3) (a1 : x.rd ≤ 31) (a2 : x.rs1 ≤ 31) (a3 : x.rs2 ≤ 31) (a4 : x.rs3 ≤ 31) (a5 : x.rm ≤ 7) (a6 : x.rm ≠ 5) (a7 : x.rm ≠ 6) (a8 : -2048 ≤ x.imm) (a9 : x.imm ≤ 2047) (a10 : x.csr ≤ 3) (z4 : x.imm = 0) (zc : x.csr = 0) (m7 : r.mtch / 128 % 32 = 0) (m12 : r.mtch / 4096 % 8 = 0) (m15 : r.mtch / 32768 % 32 = 0) (m20 : r.mtch / 1048576 % 32 = 0) (m27 : r.mtch / 134217728 % 32 = 0) (e1 : x.op = r.op) (e2 : x.form = r.form) (e3 : x.frm = r.frm) (e4 : x.kind = r.kind) : encW r x < 4294967296 ∧ fitsL r (encW r x) = true ∧ dcI r (encW r x) = x := by
  obtain ⟨W, hW⟩ : ∃ W, encW r x = W := ⟨_, rfl⟩
  have hi := imN_lt a8 a9
  have hs := imN_sg a8 a9
  obtain ⟨I, hI⟩ : ∃ I, imN x.imm = I := ⟨_, rfl⟩
  rw [hI] at hi hs
  have e : W = r.mtch + (x.rs1 * 32768 + (x.rd * 128 + x.rs2 * 1048576 + x.rs3 * 134217728 + x.rm * 4096)) := by
    rw [← hW]
    unfold encW fsW
    rw [hl, hI]
    simp
  rw [hW]
  obtain ⟨M, hM⟩ : ∃ M, r.mtch = M := ⟨_, rfl⟩
  rw [hM] at e hlt m7 m12 m15 m20 m27
  have w32 : W < 4294967296 := by omega
  have g0 : fld W 0 7 = fld M 0 7 := by unfold fld; omega
  have g7 : fld W 7 5 = x.rd := by unfold fld; omega
  have g12 : fld W 12 3 = x.rm := by unfold fld; omega
  have g15 : fld W 15 5 = x.rs1 := by unfold fld; omega
  have g20 : fld W 20 5 = x.rs2 := by unfold fld; omega
  have g25 : fld W 25 2 = fld M 25 2 := by unfold fld; omega
  have g27 : fld W 27 5 = x.rs3 := by unfold fld; omega
  refine ⟨w32, ?_, ?_⟩
  · unfold fitsL
    rw [hl, hm, hM]
    have k : W &&& (4294967295 - mkL 3) = M &&& (4294967295 - mkL 3) := and_same (fun k hk => by
      have k32 := hi_bit (by decide) hk
      rcases gm3 k k32 hk with ⟨c1, c2⟩ | ⟨c1, c2⟩
      · exact fld_bit g0 c1 c2
      · exact fld_bit g25 c1 c2)
    rw [decide_eq_true k]
    have r5 : W / 4096 % 8 = x.rm := by have := g12; unfold fld at this; exact this
    rw [r5]
    simp [a6, a7]
  · unfold dcI
    rw [hl]
    obtain ⟨op, form, frm, kind, rd, rs1, rs2, rs3, rm, imm, csr⟩ := x
    simp only at *
    simp only [g7, g15, g20, g27, g12]
    simp [*]
    try omega
theorem ena4 {r : Rw} {x : In} (hl : r.lay = 4) (hlt : r.mtch < 4294967296) (hm : r.mask = 4294967295 - mkL 4) (a1 : x.rd ≤ 31) (a2 : x.rs1 ≤ 31) (a3 : x.rs2 ≤ 31) (a4 : x.rs3 ≤ 31) (a5 : x.rm ≤ 7) (a6 : x.rm ≠ 5) (a7 : x.rm ≠ 6) (a8 : -2048 ≤ x.imm) (a9 : x.imm ≤ 2047) (a10 : x.csr ≤ 3) (z2 : x.rs3 = 0) (z4 : x.imm = 0) (zc : x.csr = 0) (m7 : r.mtch / 128 % 32 = 0) (m12 : r.mtch / 4096 % 8 = 0) (m15 : r.mtch / 32768 % 32 = 0) (m20 : r.mtch / 1048576 % 32 = 0) (e1 : x.op = r.op) (e2 : x.form = r.form) (e3 : x.frm = r.frm) (e4 : x.kind = r.kind) : encW r x < 4294967296 ∧ fitsL r (encW r x) = true ∧ dcI r (encW r x) = x := by
  obtain ⟨W, hW⟩ : ∃ W, encW r x = W := ⟨_, rfl⟩
  have hi := imN_lt a8 a9
  have hs := imN_sg a8 a9
  obtain ⟨I, hI⟩ : ∃ I, imN x.imm = I := ⟨_, rfl⟩
  rw [hI] at hi hs
  have e : W = r.mtch + (x.rs1 * 32768 + (x.rd * 128 + x.rs2 * 1048576 + x.rm * 4096)) := by
    rw [← hW]
    unfold encW fsW
    rw [hl, hI]
    simp
  rw [hW]
  obtain ⟨M, hM⟩ : ∃ M, r.mtch = M := ⟨_, rfl⟩
  rw [hM] at e hlt m7 m12 m15 m20
  have w32 : W < 4294967296 := by omega
  have g0 : fld W 0 7 = fld M 0 7 := by unfold fld; omega
  have g7 : fld W 7 5 = x.rd := by unfold fld; omega
  have g12 : fld W 12 3 = x.rm := by unfold fld; omega
  have g15 : fld W 15 5 = x.rs1 := by unfold fld; omega
  have g20 : fld W 20 5 = x.rs2 := by unfold fld; omega
  have g25 : fld W 25 2 = fld M 25 2 := by unfold fld; omega
  have g27 : fld W 27 5 = fld M 27 5 := by unfold fld; omega
  refine ⟨w32, ?_, ?_⟩
  · unfold fitsL
    rw [hl, hm, hM]
    have k : W &&& (4294967295 - mkL 4) = M &&& (4294967295 - mkL 4) := and_same (fun k hk => by
      have k32 := hi_bit (by decide) hk
      rcases gm4 k k32 hk with ⟨c1, c2⟩ | ⟨c1, c2⟩ | ⟨c1, c2⟩
      · exact fld_bit g0 c1 c2
      · exact fld_bit g25 c1 c2
      · exact fld_bit g27 c1 c2)
    rw [decide_eq_true k]
    have r5 : W / 4096 % 8 = x.rm := by have := g12; unfold fld at this; exact this
    rw [r5]
    simp [a6, a7]
  · unfold dcI
    rw [hl]
    obtain ⟨op, form, frm, kind, rd, rs1, rs2, rs3, rm, imm, csr⟩ := x
    simp only at *
    simp only [g7, g15, g20, g12]
    simp [*]
    try omega
theorem ena5 {r : Rw} {x : In} (hl : r.lay = 5) (hlt : r.mtch < 4294967296) (hm : r.mask = 4294967295 - mkL 5) (a1 : x.rd ≤ 31) (a2 : x.rs1 ≤ 31) (a3 : x.rs2 ≤ 31) (a4 : x.rs3 ≤ 31) (a5 : x.rm ≤ 7) (a6 : x.rm ≠ 5) (a7 : x.rm ≠ 6) (a8 : -2048 ≤ x.imm) (a9 : x.imm ≤ 2047) (a10 : x.csr ≤ 3) (z2 : x.rs3 = 0) (z3 : x.rm = 0) (z4 : x.imm = 0) (zc : x.csr = 0) (m7 : r.mtch / 128 % 32 = 0) (m15 : r.mtch / 32768 % 32 = 0) (m20 : r.mtch / 1048576 % 32 = 0) (e1 : x.op = r.op) (e2 : x.form = r.form) (e3 : x.frm = r.frm) (e4 : x.kind = r.kind) : encW r x < 4294967296 ∧ fitsL r (encW r x) = true ∧ dcI r (encW r x) = x := by
  obtain ⟨W, hW⟩ : ∃ W, encW r x = W := ⟨_, rfl⟩
  have hi := imN_lt a8 a9
  have hs := imN_sg a8 a9
  obtain ⟨I, hI⟩ : ∃ I, imN x.imm = I := ⟨_, rfl⟩
  rw [hI] at hi hs
  have e : W = r.mtch + (x.rs1 * 32768 + (x.rd * 128 + x.rs2 * 1048576)) := by
    rw [← hW]
    unfold encW fsW
    rw [hl, hI]
    simp
  rw [hW]
  obtain ⟨M, hM⟩ : ∃ M, r.mtch = M := ⟨_, rfl⟩
  rw [hM] at e hlt m7 m15 m20
  have w32 : W < 4294967296 := by omega
  have g0 : fld W 0 7 = fld M 0 7 := by unfold fld; omega
  have g7 : fld W 7 5 = x.rd := by unfold fld; omega
  have g12 : fld W 12 3 = fld M 12 3 := by unfold fld; omega
  have g15 : fld W 15 5 = x.rs1 := by unfold fld; omega
  have g20 : fld W 20 5 = x.rs2 := by unfold fld; omega
  have g25 : fld W 25 2 = fld M 25 2 := by unfold fld; omega
  have g27 : fld W 27 5 = fld M 27 5 := by unfold fld; omega
  refine ⟨w32, ?_, ?_⟩
  · unfold fitsL
    rw [hl, hm, hM]
    have k : W &&& (4294967295 - mkL 5) = M &&& (4294967295 - mkL 5) := and_same (fun k hk => by
      have k32 := hi_bit (by decide) hk
      rcases gm5 k k32 hk with ⟨c1, c2⟩ | ⟨c1, c2⟩ | ⟨c1, c2⟩ | ⟨c1, c2⟩
      · exact fld_bit g0 c1 c2
      · exact fld_bit g12 c1 c2
      · exact fld_bit g25 c1 c2
      · exact fld_bit g27 c1 c2)
    rw [decide_eq_true k]
    simp
  · unfold dcI
    rw [hl]
    obtain ⟨op, form, frm, kind, rd, rs1, rs2, rs3, rm, imm, csr⟩ := x
    simp only at *
    simp only [g7, g15, g20]
    simp [*]
    try omega
theorem ena6 {r : Rw} {x : In} (hl : r.lay = 6) (hlt : r.mtch < 4294967296) (hm : r.mask = 4294967295 - mkL 6) (a1 : x.rd ≤ 31) (a2 : x.rs1 ≤ 31) (a3 : x.rs2 ≤ 31) (a4 : x.rs3 ≤ 31) (a5 : x.rm ≤ 7) (a6 : x.rm ≠ 5) (a7 : x.rm ≠ 6) (a8 : -2048 ≤ x.imm) (a9 : x.imm ≤ 2047) (a10 : x.csr ≤ 3) (z1 : x.rs2 = 0) (z2 : x.rs3 = 0) (z4 : x.imm = 0) (zc : x.csr = 0) (m7 : r.mtch / 128 % 32 = 0) (m12 : r.mtch / 4096 % 8 = 0) (m15 : r.mtch / 32768 % 32 = 0) (e1 : x.op = r.op) (e2 : x.form = r.form) (e3 : x.frm = r.frm) (e4 : x.kind = r.kind) : encW r x < 4294967296 ∧ fitsL r (encW r x) = true ∧ dcI r (encW r x) = x := by
  obtain ⟨W, hW⟩ : ∃ W, encW r x = W := ⟨_, rfl⟩
  have hi := imN_lt a8 a9
  have hs := imN_sg a8 a9
  obtain ⟨I, hI⟩ : ∃ I, imN x.imm = I := ⟨_, rfl⟩
  rw [hI] at hi hs
  have e : W = r.mtch + (x.rs1 * 32768 + (x.rd * 128 + x.rm * 4096)) := by
    rw [← hW]
    unfold encW fsW
    rw [hl, hI]
    simp
  rw [hW]
  obtain ⟨M, hM⟩ : ∃ M, r.mtch = M := ⟨_, rfl⟩
  rw [hM] at e hlt m7 m12 m15
  have w32 : W < 4294967296 := by omega
  have g0 : fld W 0 7 = fld M 0 7 := by unfold fld; omega
  have g7 : fld W 7 5 = x.rd := by unfold fld; omega
  have g12 : fld W 12 3 = x.rm := by unfold fld; omega
  have g15 : fld W 15 5 = x.rs1 := by unfold fld; omega
  have g20 : fld W 20 5 = fld M 20 5 := by unfold fld; omega
  have g25 : fld W 25 2 = fld M 25 2 := by unfold fld; omega
  have g27 : fld W 27 5 = fld M 27 5 := by unfold fld; omega
  refine ⟨w32, ?_, ?_⟩
  · unfold fitsL
    rw [hl, hm, hM]
    have k : W &&& (4294967295 - mkL 6) = M &&& (4294967295 - mkL 6) := and_same (fun k hk => by
      have k32 := hi_bit (by decide) hk
      rcases gm6 k k32 hk with ⟨c1, c2⟩ | ⟨c1, c2⟩ | ⟨c1, c2⟩ | ⟨c1, c2⟩
      · exact fld_bit g0 c1 c2
      · exact fld_bit g20 c1 c2
      · exact fld_bit g25 c1 c2
      · exact fld_bit g27 c1 c2)
    rw [decide_eq_true k]
    have r5 : W / 4096 % 8 = x.rm := by have := g12; unfold fld at this; exact this
    rw [r5]
    simp [a6, a7]
  · unfold dcI
    rw [hl]
    obtain ⟨op, form, frm, kind, rd, rs1, rs2, rs3, rm, imm, csr⟩ := x
    simp only at *
    simp only [g7, g15, g12]
    simp [*]
    try omega
theorem ena7 {r : Rw} {x : In} (hl : r.lay = 7) (hlt : r.mtch < 4294967296) (hm : r.mask = 4294967295 - mkL 7) (a1 : x.rd ≤ 31) (a2 : x.rs1 ≤ 31) (a3 : x.rs2 ≤ 31) (a4 : x.rs3 ≤ 31) (a5 : x.rm ≤ 7) (a6 : x.rm ≠ 5) (a7 : x.rm ≠ 6) (a8 : -2048 ≤ x.imm) (a9 : x.imm ≤ 2047) (a10 : x.csr ≤ 3) (z1 : x.rs2 = 0) (z2 : x.rs3 = 0) (z3 : x.rm = 0) (z4 : x.imm = 0) (zc : x.csr = 0) (m7 : r.mtch / 128 % 32 = 0) (m15 : r.mtch / 32768 % 32 = 0) (e1 : x.op = r.op) (e2 : x.form = r.form) (e3 : x.frm = r.frm) (e4 : x.kind = r.kind) : encW r x < 4294967296 ∧ fitsL r (encW r x) = true ∧ dcI r (encW r x) = x := by
  obtain ⟨W, hW⟩ : ∃ W, encW r x = W := ⟨_, rfl⟩
  have hi := imN_lt a8 a9
  have hs := imN_sg a8 a9
  obtain ⟨I, hI⟩ : ∃ I, imN x.imm = I := ⟨_, rfl⟩
  rw [hI] at hi hs
  have e : W = r.mtch + (x.rs1 * 32768 + (x.rd * 128)) := by
    rw [← hW]
    unfold encW fsW
    rw [hl, hI]
    simp
  rw [hW]
  obtain ⟨M, hM⟩ : ∃ M, r.mtch = M := ⟨_, rfl⟩
  rw [hM] at e hlt m7 m15
  have w32 : W < 4294967296 := by omega
  have g0 : fld W 0 7 = fld M 0 7 := by unfold fld; omega
  have g7 : fld W 7 5 = x.rd := by unfold fld; omega
  have g12 : fld W 12 3 = fld M 12 3 := by unfold fld; omega
  have g15 : fld W 15 5 = x.rs1 := by unfold fld; omega
  have g20 : fld W 20 5 = fld M 20 5 := by unfold fld; omega
  have g25 : fld W 25 2 = fld M 25 2 := by unfold fld; omega
  have g27 : fld W 27 5 = fld M 27 5 := by unfold fld; omega
  refine ⟨w32, ?_, ?_⟩
  · unfold fitsL
    rw [hl, hm, hM]
    have k : W &&& (4294967295 - mkL 7) = M &&& (4294967295 - mkL 7) := and_same (fun k hk => by
      have k32 := hi_bit (by decide) hk
      rcases gm7 k k32 hk with ⟨c1, c2⟩ | ⟨c1, c2⟩ | ⟨c1, c2⟩ | ⟨c1, c2⟩ | ⟨c1, c2⟩
      · exact fld_bit g0 c1 c2
      · exact fld_bit g12 c1 c2
      · exact fld_bit g20 c1 c2
      · exact fld_bit g25 c1 c2
      · exact fld_bit g27 c1 c2)
    rw [decide_eq_true k]
    simp
  · unfold dcI
    rw [hl]
    obtain ⟨op, form, frm, kind, rd, rs1, rs2, rs3, rm, imm, csr⟩ := x
    simp only at *
    simp only [g7, g15]
    simp [*]
    try omega
theorem ena8 {r : Rw} {x : In} (hl : r.lay = 8) (hlt : r.mtch < 4294967296) (hm : r.mask = 4294967295 - mkL 8) (a1 : x.rd ≤ 31) (a2 : x.rs1 ≤ 31) (a3 : x.rs2 ≤ 31) (a4 : x.rs3 ≤ 31) (a5 : x.rm ≤ 7) (a6 : x.rm ≠ 5) (a7 : x.rm ≠ 6) (a8 : -2048 ≤ x.imm) (a9 : x.imm ≤ 2047) (a10 : x.csr ≤ 3) (z1 : x.rs2 = 0) (z2 : x.rs3 = 0) (z3 : x.rm = 0) (z4 : x.imm = 0) (zc : x.csr ≠ 0) (m7 : r.mtch / 128 % 32 = 0) (m15 : r.mtch / 32768 % 32 = 0) (m20 : r.mtch / 1048576 % 32 = 0) (m25 : r.mtch / 33554432 % 4 = 0) (m27 : r.mtch / 134217728 % 32 = 0) (e1 : x.op = r.op) (e2 : x.form = r.form) (e3 : x.frm = r.frm) (e4 : x.kind = r.kind) : encW r x < 4294967296 ∧ fitsL r (encW r x) = true ∧ dcI r (encW r x) = x := by
  obtain ⟨W, hW⟩ : ∃ W, encW r x = W := ⟨_, rfl⟩
  have hi := imN_lt a8 a9
  have hs := imN_sg a8 a9
  obtain ⟨I, hI⟩ : ∃ I, imN x.imm = I := ⟨_, rfl⟩
  rw [hI] at hi hs
  have e : W = r.mtch + (x.rs1 * 32768 + (x.rd * 128 + x.csr * 1048576)) := by
    rw [← hW]
    unfold encW fsW
    rw [hl, hI]
    simp
  rw [hW]
  obtain ⟨M, hM⟩ : ∃ M, r.mtch = M := ⟨_, rfl⟩
  rw [hM] at e hlt m7 m15 m20 m25 m27
  have w32 : W < 4294967296 := by omega
  have g0 : fld W 0 7 = fld M 0 7 := by unfold fld; omega
  have g7 : fld W 7 5 = x.rd := by unfold fld; omega
  have g12 : fld W 12 3 = fld M 12 3 := by unfold fld; omega
  have g15 : fld W 15 5 = x.rs1 := by unfold fld; omega
  have g20 : fld W 20 5 = fld W 20 5 := by unfold fld; omega
  have g25 : fld W 25 2 = fld W 25 2 := by unfold fld; omega
  have g27 : fld W 27 5 = fld W 27 5 := by unfold fld; omega
  have gC : fld W 20 12 = x.csr := by unfold fld; omega
  have gD : W / 1048576 = x.csr := by omega
  refine ⟨w32, ?_, ?_⟩
  · unfold fitsL
    rw [hl, hm, hM]
    have k : W &&& (4294967295 - mkL 8) = M &&& (4294967295 - mkL 8) := and_same (fun k hk => by
      have k32 := hi_bit (by decide) hk
      rcases gm8 k k32 hk with ⟨c1, c2⟩ | ⟨c1, c2⟩
      · exact fld_bit g0 c1 c2
      · exact fld_bit g12 c1 c2)
    rw [decide_eq_true k]
    rw [gD]
    simp
    omega
  · unfold dcI
    rw [hl]
    obtain ⟨op, form, frm, kind, rd, rs1, rs2, rs3, rm, imm, csr⟩ := x
    simp only at *
    simp only [g7, g15, gC]
    simp [*]
    try omega
theorem ena9 {r : Rw} {x : In} (hl : r.lay = 9) (hlt : r.mtch < 4294967296) (hm : r.mask = 4294967295 - mkL 9) (a1 : x.rd ≤ 31) (a2 : x.rs1 ≤ 31) (a3 : x.rs2 ≤ 31) (a4 : x.rs3 ≤ 31) (a5 : x.rm ≤ 7) (a6 : x.rm ≠ 5) (a7 : x.rm ≠ 6) (a8 : -2048 ≤ x.imm) (a9 : x.imm ≤ 2047) (a10 : x.csr ≤ 3) (z1 : x.rs2 = 0) (z2 : x.rs3 = 0) (z3 : x.rm = 0) (z4 : x.imm = 0) (zc : x.csr ≠ 0) (m7 : r.mtch / 128 % 32 = 0) (m15 : r.mtch / 32768 % 32 = 0) (m20 : r.mtch / 1048576 % 32 = 0) (m25 : r.mtch / 33554432 % 4 = 0) (m27 : r.mtch / 134217728 % 32 = 0) (e1 : x.op = r.op) (e2 : x.form = r.form) (e3 : x.frm = r.frm) (e4 : x.kind = r.kind) : encW r x < 4294967296 ∧ fitsL r (encW r x) = true ∧ dcI r (encW r x) = x := by
  obtain ⟨W, hW⟩ : ∃ W, encW r x = W := ⟨_, rfl⟩
  have hi := imN_lt a8 a9
  have hs := imN_sg a8 a9
  obtain ⟨I, hI⟩ : ∃ I, imN x.imm = I := ⟨_, rfl⟩
  rw [hI] at hi hs
  have e : W = r.mtch + (x.rs1 * 32768 + (x.rd * 128 + x.csr * 1048576)) := by
    rw [← hW]
    unfold encW fsW
    rw [hl, hI]
    simp
  rw [hW]
  obtain ⟨M, hM⟩ : ∃ M, r.mtch = M := ⟨_, rfl⟩
  rw [hM] at e hlt m7 m15 m20 m25 m27
  have w32 : W < 4294967296 := by omega
  have g0 : fld W 0 7 = fld M 0 7 := by unfold fld; omega
  have g7 : fld W 7 5 = x.rd := by unfold fld; omega
  have g12 : fld W 12 3 = fld M 12 3 := by unfold fld; omega
  have g15 : fld W 15 5 = x.rs1 := by unfold fld; omega
  have g20 : fld W 20 5 = fld W 20 5 := by unfold fld; omega
  have g25 : fld W 25 2 = fld W 25 2 := by unfold fld; omega
  have g27 : fld W 27 5 = fld W 27 5 := by unfold fld; omega
  have gC : fld W 20 12 = x.csr := by unfold fld; omega
  have gD : W / 1048576 = x.csr := by omega
  refine ⟨w32, ?_, ?_⟩
  · unfold fitsL
    rw [hl, hm, hM]
    have k : W &&& (4294967295 - mkL 9) = M &&& (4294967295 - mkL 9) := and_same (fun k hk => by
      have k32 := hi_bit (by decide) hk
      rcases gm9 k k32 hk with ⟨c1, c2⟩ | ⟨c1, c2⟩
      · exact fld_bit g0 c1 c2
      · exact fld_bit g12 c1 c2)
    rw [decide_eq_true k]
    rw [gD]
    simp
    omega
  · unfold dcI
    rw [hl]
    obtain ⟨op, form, frm, kind, rd, rs1, rs2, rs3, rm, imm, csr⟩ := x
    simp only at *
    simp only [g7, g15, gC]
    simp [*]
    try omega
theorem ofAll : allL.all (fun p => decide (ofR24 p.1.op p.1.form p.1.frm p.1.kind = some p)) = true := by decide +kernel
theorem of_row {p : Nm} (h : p ∈ allL) : ofR24 p.1.op p.1.form p.1.frm p.1.kind = some p := of_decide_eq_true (List.all_eq_true.1 ofAll p h)
theorem of_some {o f g k : Nat} {p : Nm} (h : ofR24 o f g k = some p) : p ∈ allL ∧ p.1.op = o ∧ p.1.form = f ∧ p.1.frm = g ∧ p.1.kind = k := by
  unfold ofR24 at h
  split at h
  · cases h
  · unfold fstL at h
    have q := List.find?_some h
    unfold ofB at q
    simp only [Bool.and_eq_true, beq_iff_eq] at q
    exact ⟨List.mem_of_find?_eq_some h, by omega, by omega, by omega, by omega⟩
theorem fd_is {w : Nat} {p : Nm} (hp : p ∈ allL) (hf : fitsL p.1 w = true) : fdL w = some p := by
  cases q : fdL w with
  | none =>
    unfold fdL fstL at q
    rw [List.find?_eq_none] at q
    exact absurd hf (q p hp)
  | some r =>
    obtain ⟨hr, hg⟩ := fd_mem q
    obtain ⟨j, hj⟩ := List.getElem?_of_mem hp
    obtain ⟨k, hk⟩ := List.getElem?_of_mem hr
    have e := one24 hj hk hf hg
    rw [e, hk] at hj
    rw [Option.some.inj hj]
theorem enc_dec {x : In} (h : mayI x = true) : ∃ p, ofR24 x.op x.form x.frm x.kind = some p ∧ p ∈ allL ∧ encW p.1 x < 4294967296 ∧ fdL (encW p.1 x) = some p ∧ dcI p.1 (encW p.1 x) = x := by
  unfold mayI at h
  cases q : ofR24 x.op x.form x.frm x.kind with
  | none => rw [q] at h; cases h
  | some p =>
    rw [q] at h
    simp only [Bool.and_eq_true] at h
    obtain ⟨hb, hf⟩ := h
    obtain ⟨hp, e1, e2, e3, e4⟩ := of_some q
    unfold bndI at hb
    obtain ⟨a1, a2, a3, a4, a5, a6, a7, a8, a9, a10⟩ := of_decide_eq_true hb
    have hm := of_decide_eq_true (List.all_eq_true.1 maskIs p hp)
    obtain ⟨l1, l9, _⟩ := lay24 hp
    refine ⟨p, rfl, hp, ?_⟩
    have key : encW p.1 x < 4294967296 ∧ fitsL p.1 (encW p.1 x) = true ∧ dcI p.1 (encW p.1 x) = x := by
      obtain ⟨r, nn⟩ := p
      simp only at *
      rcases (by omega : r.lay = 1 ∨ r.lay = 2 ∨ r.lay = 3 ∨ r.lay = 4 ∨ r.lay = 5 ∨ r.lay = 6 ∨ r.lay = 7 ∨ r.lay = 8 ∨ r.lay = 9) with hl | hl | hl | hl | hl | hl | hl | hl | hl
      · rw [hl] at hf hm
        have mt := List.all_eq_true.1 mt1 (r, nn) hp
        simp [hl] at mt
        simp [fitI, hsL] at hf
        exact ena1 hl hm.2 hm.1 a1 a2 a3 a4 a5 a6 a7 a8 a9 a10 (by simp_all) (by simp_all) (by simp_all) (by simp_all) (by omega) (by omega) (by omega) (by omega) (by omega) e1.symm e2.symm e3.symm e4.symm
      · rw [hl] at hf hm
        have mt := List.all_eq_true.1 mt2 (r, nn) hp
        simp [hl] at mt
        simp [fitI, hsL] at hf
        exact ena2 hl hm.2 hm.1 a1 a2 a3 a4 a5 a6 a7 a8 a9 a10 (by simp_all) (by simp_all) (by simp_all) (by simp_all) (by omega) (by omega) (by omega) (by omega) (by omega) e1.symm e2.symm e3.symm e4.symm
      · rw [hl] at hf hm
        have mt := List.all_eq_true.1 mt3 (r, nn) hp
        simp [hl] at mt
        simp [fitI, hsL] at hf
        exact ena3 hl hm.2 hm.1 a1 a2 a3 a4 a5 a6 a7 a8 a9 a10 (by simp_all) (by simp_all) (by omega) (by omega) (by omega) (by omega) (by omega) e1.symm e2.symm e3.symm e4.symm
      · rw [hl] at hf hm
        have mt := List.all_eq_true.1 mt4 (r, nn) hp
        simp [hl] at mt
        simp [fitI, hsL] at hf
        exact ena4 hl hm.2 hm.1 a1 a2 a3 a4 a5 a6 a7 a8 a9 a10 (by simp_all) (by simp_all) (by simp_all) (by omega) (by omega) (by omega) (by omega) e1.symm e2.symm e3.symm e4.symm
      · rw [hl] at hf hm
        have mt := List.all_eq_true.1 mt5 (r, nn) hp
        simp [hl] at mt
        simp [fitI, hsL] at hf
        exact ena5 hl hm.2 hm.1 a1 a2 a3 a4 a5 a6 a7 a8 a9 a10 (by simp_all) (by simp_all) (by simp_all) (by simp_all) (by omega) (by omega) (by omega) e1.symm e2.symm e3.symm e4.symm
      · rw [hl] at hf hm
        have mt := List.all_eq_true.1 mt6 (r, nn) hp
        simp [hl] at mt
        simp [fitI, hsL] at hf
        exact ena6 hl hm.2 hm.1 a1 a2 a3 a4 a5 a6 a7 a8 a9 a10 (by simp_all) (by simp_all) (by simp_all) (by simp_all) (by omega) (by omega) (by omega) e1.symm e2.symm e3.symm e4.symm
      · rw [hl] at hf hm
        have mt := List.all_eq_true.1 mt7 (r, nn) hp
        simp [hl] at mt
        simp [fitI, hsL] at hf
        exact ena7 hl hm.2 hm.1 a1 a2 a3 a4 a5 a6 a7 a8 a9 a10 (by simp_all) (by simp_all) (by simp_all) (by simp_all) (by simp_all) (by omega) (by omega) e1.symm e2.symm e3.symm e4.symm
      · rw [hl] at hf hm
        have mt := List.all_eq_true.1 mt8 (r, nn) hp
        simp [hl] at mt
        simp [fitI, hsL] at hf
        exact ena8 hl hm.2 hm.1 a1 a2 a3 a4 a5 a6 a7 a8 a9 a10 (by simp_all) (by simp_all) (by simp_all) (by simp_all) (by simp_all) (by omega) (by omega) (by omega) (by omega) (by omega) e1.symm e2.symm e3.symm e4.symm
      · rw [hl] at hf hm
        have mt := List.all_eq_true.1 mt9 (r, nn) hp
        simp [hl] at mt
        simp [fitI, hsL] at hf
        exact ena9 hl hm.2 hm.1 a1 a2 a3 a4 a5 a6 a7 a8 a9 a10 (by simp_all) (by simp_all) (by simp_all) (by simp_all) (by simp_all) (by omega) (by omega) (by omega) (by omega) (by omega) e1.symm e2.symm e3.symm e4.symm
    exact ⟨key.1, fd_is hp key.2.1, key.2.2⟩
theorem dec_of {w : Nat} {p : Nm} (hp : p ∈ allL) : ofR24 (dcI p.1 w).op (dcI p.1 w).form (dcI p.1 w).frm (dcI p.1 w).kind = some p := of_row hp
theorem dec_may {w : Nat} (hw : w < 4294967296) {p : Nm} (h : fdL w = some p) : mayI (dcI p.1 w) = true := by
  obtain ⟨hp, hf⟩ := fd_mem h
  obtain ⟨l1, l9, _⟩ := lay24 hp
  unfold mayI
  rw [dec_of hp]
  obtain ⟨r, nn⟩ := p
  simp only at *
  have b7 := fld_lt w 7 5
  have b15 := fld_lt w 15 5
  have b20 := fld_lt w 20 5
  have b27 := fld_lt w 27 5
  have b12 := fld_lt w 12 3
  have bI := fld_lt w 20 12
  have bH := fld_lt w 25 7
  have e12 : w / 4096 % 8 = fld w 12 3 := rfl
  have sb : ∀ a : Nat, a < 4096 → -2048 ≤ sg12 a ∧ sg12 a ≤ 2047 := fun a ha => by unfold sg12; split <;> omega
  have s1 := sb _ bI
  have s2 := sb (32 * fld w 25 7 + fld w 7 5) (by omega)
  unfold fitsL at hf
  rw [e12] at hf
  have e20 : fld w 20 12 = w / 1048576 := by unfold fld; omega
  rcases (by omega : r.lay = 1 ∨ r.lay = 2 ∨ r.lay = 3 ∨ r.lay = 4 ∨ r.lay = 5 ∨ r.lay = 6 ∨ r.lay = 7 ∨ r.lay = 8 ∨ r.lay = 9) with hl | hl | hl | hl | hl | hl | hl | hl | hl
  all_goals
    rw [hl] at hf ⊢
    simp only [Bool.and_eq_true, Bool.not_eq_true', Bool.and_eq_false_iff, decide_eq_true_iff, decide_eq_false_iff_not] at hf
    refine Bool.and_eq_true_iff.2 ⟨decide_eq_true ?_, ?_⟩
    · simp [dcI, hl]
      simp at hf
      try omega
    · simp [fitI, hsL, dcI, hl]
      try (simp at hf; omega)
theorem dec_enc {w : Nat} (hw : w < 4294967296) {p : Nm} (h : fdL w = some p) : encW p.1 (dcI p.1 w) = w := by
  obtain ⟨q, h1, h2, h3, h4, h5⟩ := enc_dec (dec_may hw h)
  rw [dec_of (fd_mem h).1] at h1
  cases Option.some.inj h1
  exact no_bit h3 hw h4 h h5
end Go.Proofs.YtaoccmopfflkmaaDoor
namespace Go.Proofs.YtaoccmopfflkmaaDoor
set_option maxRecDepth 100000
set_option maxHeartbeats 40000000
set_option maxRecDepth 100000
open Go.RowKit WMath
set_option linter.unusedSimpArgs false
set_option linter.unusedVariables false
set_option maxRecDepth 100000 in
set_option maxHeartbeats 8000000 in
theorem en_lives {T : World → Prop} (FB : Box (∀ {w w' : World}, T w → Below w.heap.size w w' → T w')) (K1 : Box (∀ w, T w → Calls Tryd.prog 9 #[.agg #[.int .u8 7, .int .u8 0, .int .u8 0, .int .u8 0, .int .u8 1, .int .u8 2, .int .u8 3, .int .u8 0, .int .u8 0, .int .i16 0, .int .u8 0]] w fun r w' => r = .returned (.tuple #[.int .u32 3211475, .int .i64 0]) ∧ Below w.heap.size w w')) (K2 : Box (∀ w, T w → Calls Tryd.prog 9 #[.agg #[.int .u8 2, .int .u8 0, .int .u8 0, .int .u8 0, .int .u8 0, .int .u8 2, .int .u8 1, .int .u8 0, .int .u8 0, .int .i16 (-4), .int .u8 0]] w fun r w' => r = .returned (.tuple #[.int .u32 4262538791, .int .i64 0]) ∧ Below w.heap.size w w')) (v3 : Nat) (K3 : Box (∀ w, T w → Calls Tryd.prog 9 #[.agg #[.int .u8 7, .int .u8 0, .int .u8 0, .int .u8 0, .int .u8 0, .int .u8 0, .int .u8 0, .int .u8 0, .int .u8 5, .int .i16 0, .int .u8 0]] w fun r w' => r = .returned (.tuple #[.int .u32 (v3 : Nat), .int .i64 260]) ∧ Below w.heap.size w w')) (K4 : Box (∀ w, T w → Calls Tryd.prog 11 #[.agg #[.int .u8 23, .int .u8 3, .int .u8 0, .int .u8 0, .int .u8 0, .int .u8 0, .int .u8 0, .int .u8 0, .int .u8 0, .int .i16 0, .int .u8 0]] w fun r w' => r = .returned (.bool false) ∧ Below w.heap.size w w')) (w : World) (hT : T w) : Calls Tryd.prog 13 #[] w fun r w' => r = .returned (.bool true) ∧ Below w.heap.size w w' := by
  have FF := box hT
  clear hT
  have B0 : Below w.heap.size w w := (Below.refl _ _)
  go_enter Tryd.func13, Tryd.ntmps13
  go_wp2_with fail
  refine (K1.out _ (FB.out FF.out B0)).mono ?_
  rintro r w1 ⟨rfl, b1⟩
  have B1 : Below w.heap.size w w1 := btr B0 b1
  clear b1 B0 
  go_wp2_with fail
  refine (K2.out _ (FB.out FF.out B1)).mono ?_
  rintro r w2 ⟨rfl, b2⟩
  have B2 : Below w.heap.size w w2 := btr B1 b2
  clear b2 B1 
  go_wp2_with fail
  refine (K3.out _ (FB.out FF.out B2)).mono ?_
  rintro r w3 ⟨rfl, b3⟩
  have B3 : Below w.heap.size w w3 := btr B2 b3
  clear b3 B2 
  go_wp2_with fail
  refine (K4.out _ (FB.out FF.out B3)).mono ?_
  rintro r w4 ⟨rfl, b4⟩
  have B4 : Below w.heap.size w w4 := btr B3 b4
  clear b4 B3 
  go_wp2
  go_ret
  exact ⟨rfl, B4⟩
set_option maxRecDepth 100000 in
set_option maxHeartbeats 8000000 in
theorem en_back_yy {T : World → Prop} (FB : Box (∀ {w w' : World}, T w → Below w.heap.size w w' → T w')) (x : In) (W A : Nat) (y : In) (K1 : Box (∀ w, T w → Calls Tryd.prog 9 #[.agg (inC x)] w fun r w' => r = .returned (.tuple #[.int .u32 (A : Nat), .int .i64 0]) ∧ Below w.heap.size w w')) (K2 : Box (∀ w, T w → Calls Tryd.prog 11 #[.agg (inC x)] w fun r w' => r = .returned (.bool true) ∧ Below w.heap.size w w')) (K3 : Box (∀ w, T w → Calls Tryd.prog 20 #[.int .u32 (A : Nat)] w fun r w' => r = .returned (.tuple #[.agg (inC x), .int .i64 0]) ∧ Below w.heap.size w w')) (K4 : Box (∀ w, T w → Calls Tryd.prog 20 #[.int .u32 (W : Nat)] w fun r w' => r = .returned (.tuple #[.agg (inC y), .int .i64 0]) ∧ Below w.heap.size w w')) (K5 : Box (∀ w, T w → Calls Tryd.prog 9 #[.agg (inC y)] w fun r w' => r = .returned (.tuple #[.int .u32 (W : Nat), .int .i64 0]) ∧ Below w.heap.size w w')) (K6 : Box (∀ w, T w → Calls Tryd.prog 11 #[.agg (inC y)] w fun r w' => r = .returned (.bool true) ∧ Below w.heap.size w w')) (KL : Box (∀ w, T w → Calls Tryd.prog 13 #[] w fun r w' => r = .returned (.bool true) ∧ Below w.heap.size w w')) (w : World) (hT : T w) : Calls Tryd.prog 7 #[.agg (inC x), .int .u32 (W : Nat)] w fun r w' => r = .returned (.bool true) ∧ Below w.heap.size w w' := by
  have FF := box hT
  clear hT
  have hin := inC_new
  have he := eqin
  have hif := inC_fold
  have hii : inCE x x = true := by rw [inCE_is]; exact decide_eq_true rfl
  obtain ⟨Rx_0, B0⟩ := opn1 w (Obj.cells (inC x) 27)
  go_enter Tryd.func7, Tryd.ntmps7
  obtain ⟨cx_0_0, cx_0_1, cx_0_2, cx_0_3, cx_0_4, cx_0_5, cx_0_6, cx_0_7, cx_0_8, cx_0_9, cx_0_10⟩ := inC_cells Rx_0
  go_wp2_with fail
  refine (K1.out _ (FB.out FF.out B0)).mono ?_
  rintro r w1 ⟨rfl, b1⟩
  have B1 : Below w.heap.size w w1 := btr B0 b1
  have Rx_1 := heap_of b1 _ _ _ Rx_0
  clear b1 B0 Rx_0 cx_0_0 cx_0_1 cx_0_2 cx_0_3 cx_0_4 cx_0_5 cx_0_6 cx_0_7 cx_0_8 cx_0_9 cx_0_10
  obtain ⟨cx_1_0, cx_1_1, cx_1_2, cx_1_3, cx_1_4, cx_1_5, cx_1_6, cx_1_7, cx_1_8, cx_1_9, cx_1_10⟩ := inC_cells Rx_1
  go_wp2_with fail
  refine (K2.out _ (FB.out FF.out B1)).mono ?_
  rintro r w2 ⟨rfl, b2⟩
  have B2 : Below w.heap.size w w2 := btr B1 b2
  have Rx_2 := heap_of b2 _ _ _ Rx_1
  clear b2 B1 Rx_1 cx_1_0 cx_1_1 cx_1_2 cx_1_3 cx_1_4 cx_1_5 cx_1_6 cx_1_7 cx_1_8 cx_1_9 cx_1_10
  obtain ⟨cx_2_0, cx_2_1, cx_2_2, cx_2_3, cx_2_4, cx_2_5, cx_2_6, cx_2_7, cx_2_8, cx_2_9, cx_2_10⟩ := inC_cells Rx_2
  go_wp2_with fail
  refine (K3.out _ (FB.out FF.out B2)).mono ?_
  rintro r w3 ⟨rfl, b3⟩
  have B3 : Below w.heap.size w w3 := btr B2 b3
  have Rx_3 := heap_of b3 _ _ _ Rx_2
  clear b3 B2 Rx_2 cx_2_0 cx_2_1 cx_2_2 cx_2_3 cx_2_4 cx_2_5 cx_2_6 cx_2_7 cx_2_8 cx_2_9 cx_2_10
  obtain ⟨cx_3_0, cx_3_1, cx_3_2, cx_3_3, cx_3_4, cx_3_5, cx_3_6, cx_3_7, cx_3_8, cx_3_9, cx_3_10⟩ := inC_cells Rx_3
  have S4 := box B3.size
  have Lx_4 : Box (w.heap.size < w3.heap.size) := box (Array.getElem?_eq_some_iff.1 Rx_3).1
  have Ry_4 := heap_alloc_last w3 (Obj.cells (inC x) 27)
  have B4 := btr B3 (bal w3 (Obj.cells (inC x) 27))
  have Rx_4 := heap_of (bal w3 (Obj.cells (inC x) 27)) _ _ _ Rx_3
  clear B3 Rx_3 cx_3_0 cx_3_1 cx_3_2 cx_3_3 cx_3_4 cx_3_5 cx_3_6 cx_3_7 cx_3_8 cx_3_9 cx_3_10
  obtain ⟨cx_4_0, cx_4_1, cx_4_2, cx_4_3, cx_4_4, cx_4_5, cx_4_6, cx_4_7, cx_4_8, cx_4_9, cx_4_10⟩ := inC_cells Rx_4
  obtain ⟨cy_4_0, cy_4_1, cy_4_2, cy_4_3, cy_4_4, cy_4_5, cy_4_6, cy_4_7, cy_4_8, cy_4_9, cy_4_10⟩ := inC_cells Ry_4
  go_wp2_with fail
  refine (K4.out _ (FB.out FF.out B4)).mono ?_
  rintro r w5 ⟨rfl, b5⟩
  have B5 : Below w.heap.size w w5 := btr B4 b5
  have Rx_5 := heap_of b5 _ _ _ Rx_4
  have Ry_5 := heap_of b5 _ _ _ Ry_4
  clear b5 B4 Rx_4 cx_4_0 cx_4_1 cx_4_2 cx_4_3 cx_4_4 cx_4_5 cx_4_6 cx_4_7 cx_4_8 cx_4_9 cx_4_10 Ry_4 cy_4_0 cy_4_1 cy_4_2 cy_4_3 cy_4_4 cy_4_5 cy_4_6 cy_4_7 cy_4_8 cy_4_9 cy_4_10
  obtain ⟨cx_5_0, cx_5_1, cx_5_2, cx_5_3, cx_5_4, cx_5_5, cx_5_6, cx_5_7, cx_5_8, cx_5_9, cx_5_10⟩ := inC_cells Rx_5
  obtain ⟨cy_5_0, cy_5_1, cy_5_2, cy_5_3, cy_5_4, cy_5_5, cy_5_6, cy_5_7, cy_5_8, cy_5_9, cy_5_10⟩ := inC_cells Ry_5
  have S6 := box B5.size
  have Lx_6 : Box (w.heap.size < w5.heap.size) := box (Array.getElem?_eq_some_iff.1 Rx_5).1
  have Ly_6 : Box (w3.heap.size < w5.heap.size) := box (Array.getElem?_eq_some_iff.1 Ry_5).1
  have Rv_6 := heap_alloc_last w5 (Obj.cells (inC y) 27)
  have B6 := btr B5 (bal w5 (Obj.cells (inC y) 27))
  have Rx_6 := heap_of (bal w5 (Obj.cells (inC y) 27)) _ _ _ Rx_5
  have Ry_6 := heap_of (bal w5 (Obj.cells (inC y) 27)) _ _ _ Ry_5
  clear B5 Rx_5 cx_5_0 cx_5_1 cx_5_2 cx_5_3 cx_5_4 cx_5_5 cx_5_6 cx_5_7 cx_5_8 cx_5_9 cx_5_10 Ry_5 cy_5_0 cy_5_1 cy_5_2 cy_5_3 cy_5_4 cy_5_5 cy_5_6 cy_5_7 cy_5_8 cy_5_9 cy_5_10
  obtain ⟨cx_6_0, cx_6_1, cx_6_2, cx_6_3, cx_6_4, cx_6_5, cx_6_6, cx_6_7, cx_6_8, cx_6_9, cx_6_10⟩ := inC_cells Rx_6
  obtain ⟨cy_6_0, cy_6_1, cy_6_2, cy_6_3, cy_6_4, cy_6_5, cy_6_6, cy_6_7, cy_6_8, cy_6_9, cy_6_10⟩ := inC_cells Ry_6
  obtain ⟨cv_6_0, cv_6_1, cv_6_2, cv_6_3, cv_6_4, cv_6_5, cv_6_6, cv_6_7, cv_6_8, cv_6_9, cv_6_10⟩ := inC_cells Rv_6
  go_wp2_with fail
  refine (K5.out _ (FB.out FF.out B6)).mono ?_
  rintro r w7 ⟨rfl, b7⟩
  have B7 : Below w.heap.size w w7 := btr B6 b7
  have Rx_7 := heap_of b7 _ _ _ Rx_6
  have Ry_7 := heap_of b7 _ _ _ Ry_6
  have Rv_7 := heap_of b7 _ _ _ Rv_6
  clear b7 B6 Rx_6 cx_6_0 cx_6_1 cx_6_2 cx_6_3 cx_6_4 cx_6_5 cx_6_6 cx_6_7 cx_6_8 cx_6_9 cx_6_10 Ry_6 cy_6_0 cy_6_1 cy_6_2 cy_6_3 cy_6_4 cy_6_5 cy_6_6 cy_6_7 cy_6_8 cy_6_9 cy_6_10 Rv_6 cv_6_0 cv_6_1 cv_6_2 cv_6_3 cv_6_4 cv_6_5 cv_6_6 cv_6_7 cv_6_8 cv_6_9 cv_6_10
  obtain ⟨cx_7_0, cx_7_1, cx_7_2, cx_7_3, cx_7_4, cx_7_5, cx_7_6, cx_7_7, cx_7_8, cx_7_9, cx_7_10⟩ := inC_cells Rx_7
  obtain ⟨cy_7_0, cy_7_1, cy_7_2, cy_7_3, cy_7_4, cy_7_5, cy_7_6, cy_7_7, cy_7_8, cy_7_9, cy_7_10⟩ := inC_cells Ry_7
  obtain ⟨cv_7_0, cv_7_1, cv_7_2, cv_7_3, cv_7_4, cv_7_5, cv_7_6, cv_7_7, cv_7_8, cv_7_9, cv_7_10⟩ := inC_cells Rv_7
  go_wp2_with fail
  refine (K6.out _ (FB.out FF.out B7)).mono ?_
  rintro r w8 ⟨rfl, b8⟩
  have B8 : Below w.heap.size w w8 := btr B7 b8
  have Rx_8 := heap_of b8 _ _ _ Rx_7
  have Ry_8 := heap_of b8 _ _ _ Ry_7
  have Rv_8 := heap_of b8 _ _ _ Rv_7
  clear b8 B7 Rx_7 cx_7_0 cx_7_1 cx_7_2 cx_7_3 cx_7_4 cx_7_5 cx_7_6 cx_7_7 cx_7_8 cx_7_9 cx_7_10 Ry_7 cy_7_0 cy_7_1 cy_7_2 cy_7_3 cy_7_4 cy_7_5 cy_7_6 cy_7_7 cy_7_8 cy_7_9 cy_7_10 Rv_7 cv_7_0 cv_7_1 cv_7_2 cv_7_3 cv_7_4 cv_7_5 cv_7_6 cv_7_7 cv_7_8 cv_7_9 cv_7_10
  obtain ⟨cx_8_0, cx_8_1, cx_8_2, cx_8_3, cx_8_4, cx_8_5, cx_8_6, cx_8_7, cx_8_8, cx_8_9, cx_8_10⟩ := inC_cells Rx_8
  obtain ⟨cy_8_0, cy_8_1, cy_8_2, cy_8_3, cy_8_4, cy_8_5, cy_8_6, cy_8_7, cy_8_8, cy_8_9, cy_8_10⟩ := inC_cells Ry_8
  obtain ⟨cv_8_0, cv_8_1, cv_8_2, cv_8_3, cv_8_4, cv_8_5, cv_8_6, cv_8_7, cv_8_8, cv_8_9, cv_8_10⟩ := inC_cells Rv_8
  go_wp2_with fail
  refine (KL.out _ (FB.out FF.out B8)).mono ?_
  rintro r w9 ⟨rfl, b9⟩
  have B9 : Below w.heap.size w w9 := btr B8 b9
  have Rx_9 := heap_of b9 _ _ _ Rx_8
  have Ry_9 := heap_of b9 _ _ _ Ry_8
  have Rv_9 := heap_of b9 _ _ _ Rv_8
  clear b9 B8 Rx_8 cx_8_0 cx_8_1 cx_8_2 cx_8_3 cx_8_4 cx_8_5 cx_8_6 cx_8_7 cx_8_8 cx_8_9 cx_8_10 Ry_8 cy_8_0 cy_8_1 cy_8_2 cy_8_3 cy_8_4 cy_8_5 cy_8_6 cy_8_7 cy_8_8 cy_8_9 cy_8_10 Rv_8 cv_8_0 cv_8_1 cv_8_2 cv_8_3 cv_8_4 cv_8_5 cv_8_6 cv_8_7 cv_8_8 cv_8_9 cv_8_10
  obtain ⟨cx_9_0, cx_9_1, cx_9_2, cx_9_3, cx_9_4, cx_9_5, cx_9_6, cx_9_7, cx_9_8, cx_9_9, cx_9_10⟩ := inC_cells Rx_9
  obtain ⟨cy_9_0, cy_9_1, cy_9_2, cy_9_3, cy_9_4, cy_9_5, cy_9_6, cy_9_7, cy_9_8, cy_9_9, cy_9_10⟩ := inC_cells Ry_9
  obtain ⟨cv_9_0, cv_9_1, cv_9_2, cv_9_3, cv_9_4, cv_9_5, cv_9_6, cv_9_7, cv_9_8, cv_9_9, cv_9_10⟩ := inC_cells Rv_9
  go_wp2
  go_ret
  exact ⟨rfl, B9⟩
set_option maxRecDepth 100000 in
set_option maxHeartbeats 8000000 in
theorem en_back_yn {T : World → Prop} (FB : Box (∀ {w w' : World}, T w → Below w.heap.size w w' → T w')) (x : In) (W A : Nat) (y : In) (f : Int) (hnf : (f != 0) = true) (K1 : Box (∀ w, T w → Calls Tryd.prog 9 #[.agg (inC x)] w fun r w' => r = .returned (.tuple #[.int .u32 (A : Nat), .int .i64 0]) ∧ Below w.heap.size w w')) (K2 : Box (∀ w, T w → Calls Tryd.prog 11 #[.agg (inC x)] w fun r w' => r = .returned (.bool true) ∧ Below w.heap.size w w')) (K3 : Box (∀ w, T w → Calls Tryd.prog 20 #[.int .u32 (A : Nat)] w fun r w' => r = .returned (.tuple #[.agg (inC x), .int .i64 0]) ∧ Below w.heap.size w w')) (K4 : Box (∀ w, T w → Calls Tryd.prog 20 #[.int .u32 (W : Nat)] w fun r w' => r = .returned (.tuple #[.agg (inC y), .int .i64 f]) ∧ Below w.heap.size w w'))  (KL : Box (∀ w, T w → Calls Tryd.prog 13 #[] w fun r w' => r = .returned (.bool true) ∧ Below w.heap.size w w')) (w : World) (hT : T w) : Calls Tryd.prog 7 #[.agg (inC x), .int .u32 (W : Nat)] w fun r w' => r = .returned (.bool true) ∧ Below w.heap.size w w' := by
  have FF := box hT
  clear hT
  have hin := inC_new
  have he := eqin
  have hif := inC_fold
  have hii : inCE x x = true := by rw [inCE_is]; exact decide_eq_true rfl
  obtain ⟨Rx_0, B0⟩ := opn1 w (Obj.cells (inC x) 27)
  go_enter Tryd.func7, Tryd.ntmps7
  obtain ⟨cx_0_0, cx_0_1, cx_0_2, cx_0_3, cx_0_4, cx_0_5, cx_0_6, cx_0_7, cx_0_8, cx_0_9, cx_0_10⟩ := inC_cells Rx_0
  go_wp2_with fail
  refine (K1.out _ (FB.out FF.out B0)).mono ?_
  rintro r w1 ⟨rfl, b1⟩
  have B1 : Below w.heap.size w w1 := btr B0 b1
  have Rx_1 := heap_of b1 _ _ _ Rx_0
  clear b1 B0 Rx_0 cx_0_0 cx_0_1 cx_0_2 cx_0_3 cx_0_4 cx_0_5 cx_0_6 cx_0_7 cx_0_8 cx_0_9 cx_0_10
  obtain ⟨cx_1_0, cx_1_1, cx_1_2, cx_1_3, cx_1_4, cx_1_5, cx_1_6, cx_1_7, cx_1_8, cx_1_9, cx_1_10⟩ := inC_cells Rx_1
  go_wp2_with fail
  refine (K2.out _ (FB.out FF.out B1)).mono ?_
  rintro r w2 ⟨rfl, b2⟩
  have B2 : Below w.heap.size w w2 := btr B1 b2
  have Rx_2 := heap_of b2 _ _ _ Rx_1
  clear b2 B1 Rx_1 cx_1_0 cx_1_1 cx_1_2 cx_1_3 cx_1_4 cx_1_5 cx_1_6 cx_1_7 cx_1_8 cx_1_9 cx_1_10
  obtain ⟨cx_2_0, cx_2_1, cx_2_2, cx_2_3, cx_2_4, cx_2_5, cx_2_6, cx_2_7, cx_2_8, cx_2_9, cx_2_10⟩ := inC_cells Rx_2
  go_wp2_with fail
  refine (K3.out _ (FB.out FF.out B2)).mono ?_
  rintro r w3 ⟨rfl, b3⟩
  have B3 : Below w.heap.size w w3 := btr B2 b3
  have Rx_3 := heap_of b3 _ _ _ Rx_2
  clear b3 B2 Rx_2 cx_2_0 cx_2_1 cx_2_2 cx_2_3 cx_2_4 cx_2_5 cx_2_6 cx_2_7 cx_2_8 cx_2_9 cx_2_10
  obtain ⟨cx_3_0, cx_3_1, cx_3_2, cx_3_3, cx_3_4, cx_3_5, cx_3_6, cx_3_7, cx_3_8, cx_3_9, cx_3_10⟩ := inC_cells Rx_3
  have S4 := box B3.size
  have Lx_4 : Box (w.heap.size < w3.heap.size) := box (Array.getElem?_eq_some_iff.1 Rx_3).1
  have Ry_4 := heap_alloc_last w3 (Obj.cells (inC x) 27)
  have B4 := btr B3 (bal w3 (Obj.cells (inC x) 27))
  have Rx_4 := heap_of (bal w3 (Obj.cells (inC x) 27)) _ _ _ Rx_3
  clear B3 Rx_3 cx_3_0 cx_3_1 cx_3_2 cx_3_3 cx_3_4 cx_3_5 cx_3_6 cx_3_7 cx_3_8 cx_3_9 cx_3_10
  obtain ⟨cx_4_0, cx_4_1, cx_4_2, cx_4_3, cx_4_4, cx_4_5, cx_4_6, cx_4_7, cx_4_8, cx_4_9, cx_4_10⟩ := inC_cells Rx_4
  obtain ⟨cy_4_0, cy_4_1, cy_4_2, cy_4_3, cy_4_4, cy_4_5, cy_4_6, cy_4_7, cy_4_8, cy_4_9, cy_4_10⟩ := inC_cells Ry_4
  go_wp2_with fail
  refine (K4.out _ (FB.out FF.out B4)).mono ?_
  rintro r w5 ⟨rfl, b5⟩
  have B5 : Below w.heap.size w w5 := btr B4 b5
  have Rx_5 := heap_of b5 _ _ _ Rx_4
  have Ry_5 := heap_of b5 _ _ _ Ry_4
  clear b5 B4 Rx_4 cx_4_0 cx_4_1 cx_4_2 cx_4_3 cx_4_4 cx_4_5 cx_4_6 cx_4_7 cx_4_8 cx_4_9 cx_4_10 Ry_4 cy_4_0 cy_4_1 cy_4_2 cy_4_3 cy_4_4 cy_4_5 cy_4_6 cy_4_7 cy_4_8 cy_4_9 cy_4_10
  obtain ⟨cx_5_0, cx_5_1, cx_5_2, cx_5_3, cx_5_4, cx_5_5, cx_5_6, cx_5_7, cx_5_8, cx_5_9, cx_5_10⟩ := inC_cells Rx_5
  obtain ⟨cy_5_0, cy_5_1, cy_5_2, cy_5_3, cy_5_4, cy_5_5, cy_5_6, cy_5_7, cy_5_8, cy_5_9, cy_5_10⟩ := inC_cells Ry_5
  have S6 := box B5.size
  have Lx_6 : Box (w.heap.size < w5.heap.size) := box (Array.getElem?_eq_some_iff.1 Rx_5).1
  have Ly_6 : Box (w3.heap.size < w5.heap.size) := box (Array.getElem?_eq_some_iff.1 Ry_5).1
  have Rv_6 := heap_alloc_last w5 (Obj.cells (inC y) 27)
  have B6 := btr B5 (bal w5 (Obj.cells (inC y) 27))
  have Rx_6 := heap_of (bal w5 (Obj.cells (inC y) 27)) _ _ _ Rx_5
  have Ry_6 := heap_of (bal w5 (Obj.cells (inC y) 27)) _ _ _ Ry_5
  clear B5 Rx_5 cx_5_0 cx_5_1 cx_5_2 cx_5_3 cx_5_4 cx_5_5 cx_5_6 cx_5_7 cx_5_8 cx_5_9 cx_5_10 Ry_5 cy_5_0 cy_5_1 cy_5_2 cy_5_3 cy_5_4 cy_5_5 cy_5_6 cy_5_7 cy_5_8 cy_5_9 cy_5_10
  obtain ⟨cx_6_0, cx_6_1, cx_6_2, cx_6_3, cx_6_4, cx_6_5, cx_6_6, cx_6_7, cx_6_8, cx_6_9, cx_6_10⟩ := inC_cells Rx_6
  obtain ⟨cy_6_0, cy_6_1, cy_6_2, cy_6_3, cy_6_4, cy_6_5, cy_6_6, cy_6_7, cy_6_8, cy_6_9, cy_6_10⟩ := inC_cells Ry_6
  obtain ⟨cv_6_0, cv_6_1, cv_6_2, cv_6_3, cv_6_4, cv_6_5, cv_6_6, cv_6_7, cv_6_8, cv_6_9, cv_6_10⟩ := inC_cells Rv_6
  go_wp2_with fail
  refine (KL.out _ (FB.out FF.out B6)).mono ?_
  rintro r w7 ⟨rfl, b7⟩
  have B7 : Below w.heap.size w w7 := btr B6 b7
  have Rx_7 := heap_of b7 _ _ _ Rx_6
  have Ry_7 := heap_of b7 _ _ _ Ry_6
  have Rv_7 := heap_of b7 _ _ _ Rv_6
  clear b7 B6 Rx_6 cx_6_0 cx_6_1 cx_6_2 cx_6_3 cx_6_4 cx_6_5 cx_6_6 cx_6_7 cx_6_8 cx_6_9 cx_6_10 Ry_6 cy_6_0 cy_6_1 cy_6_2 cy_6_3 cy_6_4 cy_6_5 cy_6_6 cy_6_7 cy_6_8 cy_6_9 cy_6_10 Rv_6 cv_6_0 cv_6_1 cv_6_2 cv_6_3 cv_6_4 cv_6_5 cv_6_6 cv_6_7 cv_6_8 cv_6_9 cv_6_10
  obtain ⟨cx_7_0, cx_7_1, cx_7_2, cx_7_3, cx_7_4, cx_7_5, cx_7_6, cx_7_7, cx_7_8, cx_7_9, cx_7_10⟩ := inC_cells Rx_7
  obtain ⟨cy_7_0, cy_7_1, cy_7_2, cy_7_3, cy_7_4, cy_7_5, cy_7_6, cy_7_7, cy_7_8, cy_7_9, cy_7_10⟩ := inC_cells Ry_7
  obtain ⟨cv_7_0, cv_7_1, cv_7_2, cv_7_3, cv_7_4, cv_7_5, cv_7_6, cv_7_7, cv_7_8, cv_7_9, cv_7_10⟩ := inC_cells Rv_7
  go_wp2
  go_ret
  exact ⟨rfl, B7⟩
set_option maxRecDepth 100000 in
set_option maxHeartbeats 8000000 in
theorem en_back_ny {T : World → Prop} (FB : Box (∀ {w w' : World}, T w → Below w.heap.size w w' → T w')) (x : In) (W A : Nat) (y : In) (e : Int) (hne : (e == 0) = false) (K1 : Box (∀ w, T w → Calls Tryd.prog 9 #[.agg (inC x)] w fun r w' => r = .returned (.tuple #[.int .u32 (A : Nat), .int .i64 e]) ∧ Below w.heap.size w w')) (K2 : Box (∀ w, T w → Calls Tryd.prog 11 #[.agg (inC x)] w fun r w' => r = .returned (.bool false) ∧ Below w.heap.size w w')) (K4 : Box (∀ w, T w → Calls Tryd.prog 20 #[.int .u32 (W : Nat)] w fun r w' => r = .returned (.tuple #[.agg (inC y), .int .i64 0]) ∧ Below w.heap.size w w')) (K5 : Box (∀ w, T w → Calls Tryd.prog 9 #[.agg (inC y)] w fun r w' => r = .returned (.tuple #[.int .u32 (W : Nat), .int .i64 0]) ∧ Below w.heap.size w w')) (K6 : Box (∀ w, T w → Calls Tryd.prog 11 #[.agg (inC y)] w fun r w' => r = .returned (.bool true) ∧ Below w.heap.size w w')) (KL : Box (∀ w, T w → Calls Tryd.prog 13 #[] w fun r w' => r = .returned (.bool true) ∧ Below w.heap.size w w')) (w : World) (hT : T w) : Calls Tryd.prog 7 #[.agg (inC x), .int .u32 (W : Nat)] w fun r w' => r = .returned (.bool true) ∧ Below w.heap.size w w' := by
  have FF := box hT
  clear hT
  have hin := inC_new
  have he := eqin
  have hif := inC_fold
  have hii : inCE x x = true := by rw [inCE_is]; exact decide_eq_true rfl
  obtain ⟨Rx_0, B0⟩ := opn1 w (Obj.cells (inC x) 27)
  go_enter Tryd.func7, Tryd.ntmps7
  obtain ⟨cx_0_0, cx_0_1, cx_0_2, cx_0_3, cx_0_4, cx_0_5, cx_0_6, cx_0_7, cx_0_8, cx_0_9, cx_0_10⟩ := inC_cells Rx_0
  go_wp2_with fail
  refine (K1.out _ (FB.out FF.out B0)).mono ?_
  rintro r w1 ⟨rfl, b1⟩
  have B1 : Below w.heap.size w w1 := btr B0 b1
  have Rx_1 := heap_of b1 _ _ _ Rx_0
  clear b1 B0 Rx_0 cx_0_0 cx_0_1 cx_0_2 cx_0_3 cx_0_4 cx_0_5 cx_0_6 cx_0_7 cx_0_8 cx_0_9 cx_0_10
  obtain ⟨cx_1_0, cx_1_1, cx_1_2, cx_1_3, cx_1_4, cx_1_5, cx_1_6, cx_1_7, cx_1_8, cx_1_9, cx_1_10⟩ := inC_cells Rx_1
  go_wp2_with fail
  refine (K2.out _ (FB.out FF.out B1)).mono ?_
  rintro r w2 ⟨rfl, b2⟩
  have B2 : Below w.heap.size w w2 := btr B1 b2
  have Rx_2 := heap_of b2 _ _ _ Rx_1
  clear b2 B1 Rx_1 cx_1_0 cx_1_1 cx_1_2 cx_1_3 cx_1_4 cx_1_5 cx_1_6 cx_1_7 cx_1_8 cx_1_9 cx_1_10
  obtain ⟨cx_2_0, cx_2_1, cx_2_2, cx_2_3, cx_2_4, cx_2_5, cx_2_6, cx_2_7, cx_2_8, cx_2_9, cx_2_10⟩ := inC_cells Rx_2
  go_wp2_with fail
  refine (K4.out _ (FB.out FF.out B2)).mono ?_
  rintro r w3 ⟨rfl, b3⟩
  have B3 : Below w.heap.size w w3 := btr B2 b3
  have Rx_3 := heap_of b3 _ _ _ Rx_2
  clear b3 B2 Rx_2 cx_2_0 cx_2_1 cx_2_2 cx_2_3 cx_2_4 cx_2_5 cx_2_6 cx_2_7 cx_2_8 cx_2_9 cx_2_10
  obtain ⟨cx_3_0, cx_3_1, cx_3_2, cx_3_3, cx_3_4, cx_3_5, cx_3_6, cx_3_7, cx_3_8, cx_3_9, cx_3_10⟩ := inC_cells Rx_3
  have S4 := box B3.size
  have Lx_4 : Box (w.heap.size < w3.heap.size) := box (Array.getElem?_eq_some_iff.1 Rx_3).1
  have Rv_4 := heap_alloc_last w3 (Obj.cells (inC y) 27)
  have B4 := btr B3 (bal w3 (Obj.cells (inC y) 27))
  have Rx_4 := heap_of (bal w3 (Obj.cells (inC y) 27)) _ _ _ Rx_3
  clear B3 Rx_3 cx_3_0 cx_3_1 cx_3_2 cx_3_3 cx_3_4 cx_3_5 cx_3_6 cx_3_7 cx_3_8 cx_3_9 cx_3_10
  obtain ⟨cx_4_0, cx_4_1, cx_4_2, cx_4_3, cx_4_4, cx_4_5, cx_4_6, cx_4_7, cx_4_8, cx_4_9, cx_4_10⟩ := inC_cells Rx_4
  obtain ⟨cv_4_0, cv_4_1, cv_4_2, cv_4_3, cv_4_4, cv_4_5, cv_4_6, cv_4_7, cv_4_8, cv_4_9, cv_4_10⟩ := inC_cells Rv_4
  go_wp2_with fail
  refine (K5.out _ (FB.out FF.out B4)).mono ?_
  rintro r w5 ⟨rfl, b5⟩
  have B5 : Below w.heap.size w w5 := btr B4 b5
  have Rx_5 := heap_of b5 _ _ _ Rx_4
  have Rv_5 := heap_of b5 _ _ _ Rv_4
  clear b5 B4 Rx_4 cx_4_0 cx_4_1 cx_4_2 cx_4_3 cx_4_4 cx_4_5 cx_4_6 cx_4_7 cx_4_8 cx_4_9 cx_4_10 Rv_4 cv_4_0 cv_4_1 cv_4_2 cv_4_3 cv_4_4 cv_4_5 cv_4_6 cv_4_7 cv_4_8 cv_4_9 cv_4_10
  obtain ⟨cx_5_0, cx_5_1, cx_5_2, cx_5_3, cx_5_4, cx_5_5, cx_5_6, cx_5_7, cx_5_8, cx_5_9, cx_5_10⟩ := inC_cells Rx_5
  obtain ⟨cv_5_0, cv_5_1, cv_5_2, cv_5_3, cv_5_4, cv_5_5, cv_5_6, cv_5_7, cv_5_8, cv_5_9, cv_5_10⟩ := inC_cells Rv_5
  go_wp2_with fail
  refine (K6.out _ (FB.out FF.out B5)).mono ?_
  rintro r w6 ⟨rfl, b6⟩
  have B6 : Below w.heap.size w w6 := btr B5 b6
  have Rx_6 := heap_of b6 _ _ _ Rx_5
  have Rv_6 := heap_of b6 _ _ _ Rv_5
  clear b6 B5 Rx_5 cx_5_0 cx_5_1 cx_5_2 cx_5_3 cx_5_4 cx_5_5 cx_5_6 cx_5_7 cx_5_8 cx_5_9 cx_5_10 Rv_5 cv_5_0 cv_5_1 cv_5_2 cv_5_3 cv_5_4 cv_5_5 cv_5_6 cv_5_7 cv_5_8 cv_5_9 cv_5_10
  obtain ⟨cx_6_0, cx_6_1, cx_6_2, cx_6_3, cx_6_4, cx_6_5, cx_6_6, cx_6_7, cx_6_8, cx_6_9, cx_6_10⟩ := inC_cells Rx_6
  obtain ⟨cv_6_0, cv_6_1, cv_6_2, cv_6_3, cv_6_4, cv_6_5, cv_6_6, cv_6_7, cv_6_8, cv_6_9, cv_6_10⟩ := inC_cells Rv_6
  go_wp2_with fail
  refine (KL.out _ (FB.out FF.out B6)).mono ?_
  rintro r w7 ⟨rfl, b7⟩
  have B7 : Below w.heap.size w w7 := btr B6 b7
  have Rx_7 := heap_of b7 _ _ _ Rx_6
  have Rv_7 := heap_of b7 _ _ _ Rv_6
  clear b7 B6 Rx_6 cx_6_0 cx_6_1 cx_6_2 cx_6_3 cx_6_4 cx_6_5 cx_6_6 cx_6_7 cx_6_8 cx_6_9 cx_6_10 Rv_6 cv_6_0 cv_6_1 cv_6_2 cv_6_3 cv_6_4 cv_6_5 cv_6_6 cv_6_7 cv_6_8 cv_6_9 cv_6_10
  obtain ⟨cx_7_0, cx_7_1, cx_7_2, cx_7_3, cx_7_4, cx_7_5, cx_7_6, cx_7_7, cx_7_8, cx_7_9, cx_7_10⟩ := inC_cells Rx_7
  obtain ⟨cv_7_0, cv_7_1, cv_7_2, cv_7_3, cv_7_4, cv_7_5, cv_7_6, cv_7_7, cv_7_8, cv_7_9, cv_7_10⟩ := inC_cells Rv_7
  go_wp2
  go_ret
  exact ⟨rfl, B7⟩
set_option maxRecDepth 100000 in
set_option maxHeartbeats 8000000 in
theorem en_back_nn {T : World → Prop} (FB : Box (∀ {w w' : World}, T w → Below w.heap.size w w' → T w')) (x : In) (W A : Nat) (y : In) (e : Int) (hne : (e == 0) = false) (f : Int) (hnf : (f != 0) = true) (K1 : Box (∀ w, T w → Calls Tryd.prog 9 #[.agg (inC x)] w fun r w' => r = .returned (.tuple #[.int .u32 (A : Nat), .int .i64 e]) ∧ Below w.heap.size w w')) (K2 : Box (∀ w, T w → Calls Tryd.prog 11 #[.agg (inC x)] w fun r w' => r = .returned (.bool false) ∧ Below w.heap.size w w')) (K4 : Box (∀ w, T w → Calls Tryd.prog 20 #[.int .u32 (W : Nat)] w fun r w' => r = .returned (.tuple #[.agg (inC y), .int .i64 f]) ∧ Below w.heap.size w w'))  (KL : Box (∀ w, T w → Calls Tryd.prog 13 #[] w fun r w' => r = .returned (.bool true) ∧ Below w.heap.size w w')) (w : World) (hT : T w) : Calls Tryd.prog 7 #[.agg (inC x), .int .u32 (W : Nat)] w fun r w' => r = .returned (.bool true) ∧ Below w.heap.size w w' := by
  have FF := box hT
  clear hT
  have hin := inC_new
  have he := eqin
  have hif := inC_fold
  have hii : inCE x x = true := by rw [inCE_is]; exact decide_eq_true rfl
  obtain ⟨Rx_0, B0⟩ := opn1 w (Obj.cells (inC x) 27)
  go_enter Tryd.func7, Tryd.ntmps7
  obtain ⟨cx_0_0, cx_0_1, cx_0_2, cx_0_3, cx_0_4, cx_0_5, cx_0_6, cx_0_7, cx_0_8, cx_0_9, cx_0_10⟩ := inC_cells Rx_0
  go_wp2_with fail
  refine (K1.out _ (FB.out FF.out B0)).mono ?_
  rintro r w1 ⟨rfl, b1⟩
  have B1 : Below w.heap.size w w1 := btr B0 b1
  have Rx_1 := heap_of b1 _ _ _ Rx_0
  clear b1 B0 Rx_0 cx_0_0 cx_0_1 cx_0_2 cx_0_3 cx_0_4 cx_0_5 cx_0_6 cx_0_7 cx_0_8 cx_0_9 cx_0_10
  obtain ⟨cx_1_0, cx_1_1, cx_1_2, cx_1_3, cx_1_4, cx_1_5, cx_1_6, cx_1_7, cx_1_8, cx_1_9, cx_1_10⟩ := inC_cells Rx_1
  go_wp2_with fail
  refine (K2.out _ (FB.out FF.out B1)).mono ?_
  rintro r w2 ⟨rfl, b2⟩
  have B2 : Below w.heap.size w w2 := btr B1 b2
  have Rx_2 := heap_of b2 _ _ _ Rx_1
  clear b2 B1 Rx_1 cx_1_0 cx_1_1 cx_1_2 cx_1_3 cx_1_4 cx_1_5 cx_1_6 cx_1_7 cx_1_8 cx_1_9 cx_1_10
  obtain ⟨cx_2_0, cx_2_1, cx_2_2, cx_2_3, cx_2_4, cx_2_5, cx_2_6, cx_2_7, cx_2_8, cx_2_9, cx_2_10⟩ := inC_cells Rx_2
  go_wp2_with fail
  refine (K4.out _ (FB.out FF.out B2)).mono ?_
  rintro r w3 ⟨rfl, b3⟩
  have B3 : Below w.heap.size w w3 := btr B2 b3
  have Rx_3 := heap_of b3 _ _ _ Rx_2
  clear b3 B2 Rx_2 cx_2_0 cx_2_1 cx_2_2 cx_2_3 cx_2_4 cx_2_5 cx_2_6 cx_2_7 cx_2_8 cx_2_9 cx_2_10
  obtain ⟨cx_3_0, cx_3_1, cx_3_2, cx_3_3, cx_3_4, cx_3_5, cx_3_6, cx_3_7, cx_3_8, cx_3_9, cx_3_10⟩ := inC_cells Rx_3
  have S4 := box B3.size
  have Lx_4 : Box (w.heap.size < w3.heap.size) := box (Array.getElem?_eq_some_iff.1 Rx_3).1
  have Rv_4 := heap_alloc_last w3 (Obj.cells (inC y) 27)
  have B4 := btr B3 (bal w3 (Obj.cells (inC y) 27))
  have Rx_4 := heap_of (bal w3 (Obj.cells (inC y) 27)) _ _ _ Rx_3
  clear B3 Rx_3 cx_3_0 cx_3_1 cx_3_2 cx_3_3 cx_3_4 cx_3_5 cx_3_6 cx_3_7 cx_3_8 cx_3_9 cx_3_10
  obtain ⟨cx_4_0, cx_4_1, cx_4_2, cx_4_3, cx_4_4, cx_4_5, cx_4_6, cx_4_7, cx_4_8, cx_4_9, cx_4_10⟩ := inC_cells Rx_4
  obtain ⟨cv_4_0, cv_4_1, cv_4_2, cv_4_3, cv_4_4, cv_4_5, cv_4_6, cv_4_7, cv_4_8, cv_4_9, cv_4_10⟩ := inC_cells Rv_4
  go_wp2_with fail
  refine (KL.out _ (FB.out FF.out B4)).mono ?_
  rintro r w5 ⟨rfl, b5⟩
  have B5 : Below w.heap.size w w5 := btr B4 b5
  have Rx_5 := heap_of b5 _ _ _ Rx_4
  have Rv_5 := heap_of b5 _ _ _ Rv_4
  clear b5 B4 Rx_4 cx_4_0 cx_4_1 cx_4_2 cx_4_3 cx_4_4 cx_4_5 cx_4_6 cx_4_7 cx_4_8 cx_4_9 cx_4_10 Rv_4 cv_4_0 cv_4_1 cv_4_2 cv_4_3 cv_4_4 cv_4_5 cv_4_6 cv_4_7 cv_4_8 cv_4_9 cv_4_10
  obtain ⟨cx_5_0, cx_5_1, cx_5_2, cx_5_3, cx_5_4, cx_5_5, cx_5_6, cx_5_7, cx_5_8, cx_5_9, cx_5_10⟩ := inC_cells Rx_5
  obtain ⟨cv_5_0, cv_5_1, cv_5_2, cv_5_3, cv_5_4, cv_5_5, cv_5_6, cv_5_7, cv_5_8, cv_5_9, cv_5_10⟩ := inC_cells Rv_5
  go_wp2
  go_ret
  exact ⟨rfl, B5⟩
end Go.Proofs.YtaoccmopfflkmaaDoor
namespace Go.Proofs.YtaoccmopfflkmaaDoor
set_option maxRecDepth 100000
set_option maxHeartbeats 40000000
set_option maxRecDepth 100000
open Go.RowKit WMath
set_option linter.unusedSimpArgs false
set_option linter.unusedVariables false
def CAt (W : World) (g o : Nat) (x : In) : Prop := W.cell? ⟨g, o, none⟩ = some (.int .u8 (x.op : Nat)) ∧ W.cell? ⟨g, o + 1, none⟩ = some (.int .u8 (x.form : Nat)) ∧ W.cell? ⟨g, o + 2, none⟩ = some (.int .u8 (x.frm : Nat)) ∧ W.cell? ⟨g, o + 3, none⟩ = some (.int .u8 (x.kind : Nat)) ∧ W.cell? ⟨g, o + 4, none⟩ = some (.int .u8 (x.rd : Nat)) ∧ W.cell? ⟨g, o + 5, none⟩ = some (.int .u8 (x.rs1 : Nat)) ∧ W.cell? ⟨g, o + 6, none⟩ = some (.int .u8 (x.rs2 : Nat)) ∧ W.cell? ⟨g, o + 7, none⟩ = some (.int .u8 (x.rs3 : Nat)) ∧ W.cell? ⟨g, o + 8, none⟩ = some (.int .u8 (x.rm : Nat)) ∧ W.cell? ⟨g, o + 9, none⟩ = some (.int .i16 x.imm) ∧ W.cell? ⟨g, o + 10, none⟩ = some (.int .u8 (x.csr : Nat))
theorem CAt.below {W V : World} {g o : Nat} {x : In} (h : CAt W g o x) (b : Below W.heap.size W V) : CAt V g o x := by
  obtain ⟨h0, h1, h2, h3, h4, h5, h6, h7, h8, h9, h10⟩ := h
  exact ⟨cellB b h0, cellB b h1, cellB b h2, cellB b h3, cellB b h4, cellB b h5, cellB b h6, cellB b h7, cellB b h8, cellB b h9, cellB b h10⟩
end Go.Proofs.YtaoccmopfflkmaaDoor
namespace Go.Proofs.YtaoccmopfflkmaaDoor
set_option maxRecDepth 100000
set_option maxHeartbeats 40000000
set_option maxRecDepth 100000
open Go.RowKit Go.Shelf WMath
set_option linter.unusedSimpArgs false
set_option linter.unusedVariables false
theorem enR_yes {x : In} (h : mayI x = true) : ∃ p, ofR24 x.op x.form x.frm x.kind = some p ∧ p ∈ allL ∧ enR x = (encW p.1 x, 0) ∧ encW p.1 x < 4294967296 ∧ fdL (encW p.1 x) = some p ∧ dcI p.1 (encW p.1 x) = x := by
  obtain ⟨p, hp, hm, hlt, hf, hd⟩ := enc_dec h
  exact ⟨p, hp, hm, by unfold enR; rw [h, hp]; rfl, hlt, hf, hd⟩
theorem enR_no {x : In} (h : mayI x = false) : enR x = (0, 260) := by unfold enR; rw [h]; rfl
theorem enR_may {x : In} : (enR x).2 = 0 ↔ mayI x = true := by
  cases h : mayI x with
  | false => rw [enR_no h]; simp
  | true => obtain ⟨p, _, _, e, _⟩ := enR_yes h; rw [e]; simp
theorem in_ok {x : Nat} (hx : x < 4294967296) {p : Nm} (h : fdL x = some p) : InOk (dcI p.1 x) := by
  obtain ⟨i, hi, o1, o31, f4, g4, k4, a1, a2, a3, a4, a5, _, _, a6, a7, a8⟩ := in_bnd hx h
  rw [hi]
  exact ⟨by omega, by omega, by omega, by omega, by omega, by omega, by omega, by omega, by omega, by omega, by omega, by omega⟩
theorem l26a : enR ⟨7, 0, 0, 0, 1, 2, 3, 0, 0, 0, 0⟩ = (3211475, 0) := by decide +kernel
theorem l26b : enR ⟨2, 0, 0, 0, 0, 2, 1, 0, 0, -4, 0⟩ = (4262538791, 0) := by decide +kernel
theorem l26c : (enR ⟨7, 0, 0, 0, 0, 0, 0, 0, 5, 0, 0⟩).2 = 260 := by decide +kernel
theorem l26d : mayI ⟨23, 3, 0, 0, 0, 0, 0, 0, 0, 0, 0⟩ = false := by decide +kernel
theorem lives26 {T : World → Prop} (FB : Box (∀ {w w' : World}, T w → Below w.heap.size w w' → T w')) (CE : ∀ x : In, InOk x → Box (∀ w, T w → Calls Tryd.prog 9 #[.agg (inC x)] w fun r w' => r = .returned (.tuple #[.int .u32 ((enR x).1 : Nat), .int .i64 (enR x).2]) ∧ Below w.heap.size w w')) (CM : ∀ x : In, InOk x → Box (∀ w, T w → Calls Tryd.prog 11 #[.agg (inC x)] w fun r w' => r = .returned (.bool (mayI x)) ∧ Below w.heap.size w w')) (w : World) (hT : T w) : Calls Tryd.prog 13 #[] w fun r w' => r = .returned (.bool true) ∧ Below w.heap.size w w' := by
  have F1 := CE ⟨7, 0, 0, 0, 1, 2, 3, 0, 0, 0, 0⟩ (by unfold InOk; decide)
  have F2 := CE ⟨2, 0, 0, 0, 0, 2, 1, 0, 0, -4, 0⟩ (by unfold InOk; decide)
  have F3 := CE ⟨7, 0, 0, 0, 0, 0, 0, 0, 5, 0, 0⟩ (by unfold InOk; decide)
  have F4 := CM ⟨23, 3, 0, 0, 0, 0, 0, 0, 0, 0, 0⟩ (by unfold InOk; decide)
  rw [l26a] at F1
  rw [l26b] at F2
  rw [l26c] at F3
  rw [l26d] at F4
  exact en_lives FB F1 F2 _ F3 F4 w hT
theorem back26 {T : World → Prop} (FB : Box (∀ {w w' : World}, T w → Below w.heap.size w w' → T w')) (CE : ∀ x : In, InOk x → Box (∀ w, T w → Calls Tryd.prog 9 #[.agg (inC x)] w fun r w' => r = .returned (.tuple #[.int .u32 ((enR x).1 : Nat), .int .i64 (enR x).2]) ∧ Below w.heap.size w w')) (CM : ∀ x : In, InOk x → Box (∀ w, T w → Calls Tryd.prog 11 #[.agg (inC x)] w fun r w' => r = .returned (.bool (mayI x)) ∧ Below w.heap.size w w')) (CD : ∀ x : Nat, x < 4294967296 → Box (∀ w, T w → Calls Tryd.prog 20 #[.int .u32 (x : Nat)] w fun r w' => r = .returned (.tuple #[.agg (inC (dcR x).1), .int .i64 (dcR x).2]) ∧ Below w.heap.size w w')) (KL : Box (∀ w, T w → Calls Tryd.prog 13 #[] w fun r w' => r = .returned (.bool true) ∧ Below w.heap.size w w')) (x : In) (hi : InOk x) (W : Nat) (hW : W < 4294967296) (w : World) (hT : T w) : Calls Tryd.prog 7 #[.agg (inC x), .int .u32 (W : Nat)] w fun r w' => r = .returned (.bool true) ∧ Below w.heap.size w w' := by
  have K1 := CE x hi
  have K2 := CM x hi
  have K4 := CD W hW
  cases h : mayI x with
  | false =>
    rw [h] at K2
    rw [enR_no h] at K1
    cases g : fdL W with
    | none =>
      rw [dcR_none g] at K4
      exact en_back_nn FB x W _ _ _ (by decide) _ (by decide) K1 K2 K4 KL w hT
    | some p =>
      rw [dcR_some g] at K4
      have hm := dec_may hW g
      have K5 := CE _ (in_ok hW g)
      have K6 := CM _ (in_ok hW g)
      have e5 : enR (dcI p.1 W) = (W, 0) := by
        obtain ⟨p2, hp2, _, e, _⟩ := enR_yes hm
        rw [e]
        have : p2 = p := by
          have := dec_of (w := W) (fd_mem g).1
          rw [hp2] at this
          exact Option.some.inj this
        rw [this, dec_enc hW g]
      rw [e5] at K5
      rw [hm] at K6
      exact en_back_ny FB x W _ _ _ (by decide) K1 K2 K4 K5 K6 KL w hT
  | true =>
    rw [h] at K2
    obtain ⟨p, hp, hmem, e, hlt, hf, hd⟩ := enR_yes h
    rw [e] at K1
    have K3 := CD _ hlt
    rw [dcR_some hf, hd] at K3
    cases g : fdL W with
    | none =>
      rw [dcR_none g] at K4
      exact en_back_yn FB x W _ _ _ (by decide) K1 K2 K3 K4 KL w hT
    | some p =>
      rw [dcR_some g] at K4
      have hm := dec_may hW g
      have K5 := CE _ (in_ok hW g)
      have K6 := CM _ (in_ok hW g)
      have e5 : enR (dcI p.1 W) = (W, 0) := by
        obtain ⟨p2, hp2, _, e, _⟩ := enR_yes hm
        rw [e]
        have : p2 = p := by
          have := dec_of (w := W) (fd_mem g).1
          rw [hp2] at this
          exact Option.some.inj this
        rw [this, dec_enc hW g]
      rw [e5] at K5
      rw [hm] at K6
      exact en_back_yy FB x W _ _ K1 K2 K3 K4 K5 K6 KL w hT
end Go.Proofs.YtaoccmopfflkmaaDoor
