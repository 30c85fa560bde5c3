/-
  What the functions that the statement reaches return: part 14 (ZH).
-/
import Derived.Test.YtaoccmopfflkmaaDoorOa13
namespace Go.Proofs.YtaoccmopfflkmaaDoor
set_option maxRecDepth 100000
set_option maxHeartbeats 40000000
set_option maxRecDepth 100000
open Go.RowKit WMath
set_option linter.unusedSimpArgs false
set_option linter.unusedVariables false
def sgI (i : Int) : Int := if 2048 ≤ i % 4096 then i % 4096 - 4096 else i % 4096
theorem sgI_own (i : Int) (h : sgI i = i) : -2048 ≤ i ∧ i ≤ 2047 := by
  unfold sgI at h
  split at h <;> omega
theorem sgI_in (i : Int) (h1 : -2048 ≤ i) (h2 : i ≤ 2047) : sgI i = i := by
  unfold sgI
  split <;> omega
def hkI (l : Nat) (x : In) : In := ⟨x.op, x.form, x.frm, x.kind, if l = 2 then 0 else x.rd % 32, x.rs1 % 32, if l = 2 ∨ l = 3 ∨ l = 4 ∨ l = 5 then x.rs2 % 32 else 0, if l = 3 then x.rs3 % 32 else 0, if l = 3 ∨ l = 4 ∨ l = 6 then x.rm % 8 else 0, if l = 1 ∨ l = 2 then sgI x.imm else 0, if l = 8 ∨ l = 9 then x.csr else 0⟩
theorem hk_eqs {l : Nat} {x : In} (h : hkI l x = x) : (if l = 2 then 0 else x.rd % 32) = x.rd ∧ x.rs1 % 32 = x.rs1 ∧ (if l = 2 ∨ l = 3 ∨ l = 4 ∨ l = 5 then x.rs2 % 32 else 0) = x.rs2 ∧ (if l = 3 then x.rs3 % 32 else 0) = x.rs3 ∧ (if l = 3 ∨ l = 4 ∨ l = 6 then x.rm % 8 else 0) = x.rm ∧ (if l = 1 ∨ l = 2 then sgI x.imm else 0) = x.imm ∧ (if l = 8 ∨ l = 9 then x.csr else 0) = x.csr :=
  ⟨congrArg In.rd h, congrArg In.rs1 h, congrArg In.rs2 h, congrArg In.rs3 h, congrArg In.rm h, congrArg In.imm h, congrArg In.csr h⟩
theorem xorD {A b K N : Nat} (k n : Nat) (hK : K = 2 ^ k) (hN : N = 2 ^ n) (h : A / K % N = 0) (hb : b < N) : A ^^^ (b * K) = A + b * K := by
  subst hK hN
  have h1 := Nat.div_add_mod A (2 ^ k)
  have h2 := Nat.div_add_mod (A / 2 ^ k) (2 ^ n)
  rw [h, Nat.add_zero] at h2
  have hL : A % 2 ^ k < 2 ^ k := Nat.mod_lt _ (Nat.two_pow_pos k)
  obtain ⟨L, hL1⟩ : ∃ L, A % 2 ^ k = L := ⟨_, rfl⟩
  obtain ⟨H, hH1⟩ : ∃ H, A / 2 ^ k / 2 ^ n = H := ⟨_, rfl⟩
  rw [hL1] at h1 hL
  rw [hH1] at h2
  rw [← h2] at h1
  have hS : A + b * 2 ^ k = 2 ^ k * (2 ^ n * H + b) + L := by rw [Nat.mul_add, Nat.mul_comm b]; omega
  apply Nat.eq_of_testBit_eq
  intro j
  rw [hS, Nat.testBit_xor, ← h1, Nat.testBit_two_pow_mul_add _ hL, Nat.testBit_two_pow_mul_add _ hL, Nat.mul_comm b]
  simp only [Nat.testBit_two_pow_mul]
  by_cases hj : j < k
  · rw [if_pos hj, if_pos hj, decide_eq_false (show ¬ j ≥ k by omega)]
    simp
  · rw [if_neg hj, if_neg hj, decide_eq_true (show j ≥ k by omega), Nat.testBit_two_pow_mul_add _ hb]
    by_cases hi : j - k < n
    · rw [if_pos hi, decide_eq_false (show ¬ j - k ≥ n by omega)]
      simp
    · rw [if_neg hi, decide_eq_true (show j - k ≥ n by omega), Nat.testBit_lt_two_pow (Nat.lt_of_lt_of_le hb (Nat.pow_le_pow_right (by decide) (by omega)))]
      simp
def imX (l : Nat) (i : Int) : Nat := if l = 2 then (imN i / 32 * 33554432) ^^^ (imN i % 32 * 128) else imN i * 1048576
def btX (l : Nat) (x : In) : Nat := ((((((imX l x.imm) ^^^ (x.rd * 128)) ^^^ (x.rm * 4096)) ^^^ (x.rs1 * 32768)) ^^^ (x.rs2 * 1048576)) ^^^ (x.rs3 * 134217728)) ^^^ (x.csr * 1048576)
theorem imN_0 : imN 0 = 0 := rfl
theorem hk_le {l : Nat} {x : In} (h : hkI l x = x) : x.rd < 32 ∧ x.rs1 < 32 ∧ x.rs2 < 32 ∧ x.rs3 < 32 ∧ x.rm < 8 ∧ -2048 ≤ x.imm ∧ x.imm ≤ 2047 := by
  obtain ⟨e1, e2, e3, e4, e5, e6, _⟩ := hk_eqs h
  have q : -2048 ≤ x.imm ∧ x.imm ≤ 2047 := by
    split at e6
    · exact sgI_own _ e6
    · omega
  refine ⟨?_, ?_, ?_, ?_, ?_, q.1, q.2⟩
  · split at e1 <;> omega
  · omega
  · split at e3 <;> omega
  · split at e4 <;> omega
  · split at e5 <;> omega
theorem xch1 (M : Nat) (hM : M < 4294967296) (m7 : M / 128 % 32 = 0) (m15 : M / 32768 % 32 = 0) (m20 : M / 1048576 % 32 = 0) (m25 : M / 33554432 % 4 = 0) (m27 : M / 134217728 % 32 = 0) (I : Nat) (hI : I < 4096) (rd rs1 : Nat) (b_rd : rd < 32) (b_rs1 : rs1 < 32) : (((M ^^^ (I * 1048576)) ^^^ (rd * 128)) ^^^ (rs1 * 32768)) = (((M + I * 1048576) + rd * 128) + rs1 * 32768) := by
  rw [xorD (A := M) (b := I) 20 12 (K := 1048576) (N := 4096) rfl rfl (by omega) hI]
  rw [xorD (A := (M + I * 1048576)) (b := rd) 7 5 (K := 128) (N := 32) rfl rfl (by omega) b_rd]
  rw [xorD (A := ((M + I * 1048576) + rd * 128)) (b := rs1) 15 5 (K := 32768) (N := 32) rfl rfl (by omega) b_rs1]
theorem btX_1 {r : Rw} {x : In} (hl : r.lay = 1) (h : hkI 1 x = x) (hc : x.csr < 256) (hM : r.mtch < 4294967296) (m7 : r.mtch / 128 % 32 = 0) (m15 : r.mtch / 32768 % 32 = 0) (m20 : r.mtch / 1048576 % 32 = 0) (m25 : r.mtch / 33554432 % 4 = 0) (m27 : r.mtch / 134217728 % 32 = 0) : r.mtch ^^^ btX 1 x = encW r x := by
  obtain ⟨e1, e2, e3, e4, e5, e6, e7⟩ := hk_eqs h
  obtain ⟨k1, k2, k3, k4, k5, k6, k7⟩ := hk_le h
  simp at e1 e3 e4 e5 e6 e7
  have hi := imN_lt k6 k7
  unfold btX imX encW fsW
  rw [hl]
  have z := xch1 r.mtch hM m7 m15 m20 m25 m27 (imN x.imm) hi x.rd x.rs1 k1 k2
  simp only [← e5, ← e3, ← e4, ← e7, imN_0, Nat.zero_mul, Nat.zero_add, Nat.xor_zero, Nat.zero_xor, if_true, if_false, ← Nat.xor_assoc, reduceIte, Nat.reduceEqDiff, Nat.reduceEqDiff] at z ⊢
  rw [z]
  omega
theorem xch2 (M : Nat) (hM : M < 4294967296) (m7 : M / 128 % 32 = 0) (m15 : M / 32768 % 32 = 0) (m20 : M / 1048576 % 32 = 0) (m25 : M / 33554432 % 4 = 0) (m27 : M / 134217728 % 32 = 0) (I : Nat) (hI : I < 4096) (rs1 rs2 : Nat) (b_rs1 : rs1 < 32) (b_rs2 : rs2 < 32) : ((((M ^^^ (I / 32 * 33554432)) ^^^ (I % 32 * 128)) ^^^ (rs1 * 32768)) ^^^ (rs2 * 1048576)) = ((((M + I / 32 * 33554432) + I % 32 * 128) + rs1 * 32768) + rs2 * 1048576) := by
  rw [xorD (A := M) (b := I / 32) 25 7 (K := 33554432) (N := 128) rfl rfl (by omega) (by omega)]
  rw [xorD (A := (M + I / 32 * 33554432)) (b := I % 32) 7 5 (K := 128) (N := 32) rfl rfl (by omega) (by omega)]
  rw [xorD (A := ((M + I / 32 * 33554432) + I % 32 * 128)) (b := rs1) 15 5 (K := 32768) (N := 32) rfl rfl (by omega) b_rs1]
  have hM2 : M < 32768 := by omega
  have hq : (((M + I / 32 * 33554432) + I % 32 * 128) + rs1 * 32768) / 1048576 = 32 * (I / 32) := by omega
  have hq2 : (((M + I / 32 * 33554432) + I % 32 * 128) + rs1 * 32768) / 1048576 % 32 = 0 := by rw [hq]; omega
  rw [xorD (A := (((M + I / 32 * 33554432) + I % 32 * 128) + rs1 * 32768)) (b := rs2) 20 5 (K := 1048576) (N := 32) rfl rfl hq2 b_rs2]
theorem btX_2 {r : Rw} {x : In} (hl : r.lay = 2) (h : hkI 2 x = x) (hc : x.csr < 256) (hM : r.mtch < 4294967296) (m7 : r.mtch / 128 % 32 = 0) (m15 : r.mtch / 32768 % 32 = 0) (m20 : r.mtch / 1048576 % 32 = 0) (m25 : r.mtch / 33554432 % 4 = 0) (m27 : r.mtch / 134217728 % 32 = 0) : r.mtch ^^^ btX 2 x = encW r x := by
  obtain ⟨e1, e2, e3, e4, e5, e6, e7⟩ := hk_eqs h
  obtain ⟨k1, k2, k3, k4, k5, k6, k7⟩ := hk_le h
  simp at e1 e3 e4 e5 e6 e7
  have hi := imN_lt k6 k7
  unfold btX imX encW fsW
  rw [hl]
  have z := xch2 r.mtch hM m7 m15 m20 m25 m27 (imN x.imm) hi x.rs1 x.rs2 k2 k3
  simp only [← e1, ← e5, ← e4, ← e7, imN_0, Nat.zero_mul, Nat.zero_add, Nat.xor_zero, Nat.zero_xor, if_true, if_false, ← Nat.xor_assoc, reduceIte, Nat.reduceEqDiff, Nat.reduceEqDiff] at z ⊢
  rw [z]
  omega
theorem xch3 (M : Nat) (hM : M < 4294967296) (m7 : M / 128 % 32 = 0) (m12 : M / 4096 % 8 = 0) (m15 : M / 32768 % 32 = 0) (m20 : M / 1048576 % 32 = 0) (m27 : M / 134217728 % 32 = 0) (rd rm rs1 rs2 rs3 : Nat) (b_rd : rd < 32) (b_rm : rm < 8) (b_rs1 : rs1 < 32) (b_rs2 : rs2 < 32) (b_rs3 : rs3 < 32) : (((((M ^^^ (rd * 128)) ^^^ (rm * 4096)) ^^^ (rs1 * 32768)) ^^^ (rs2 * 1048576)) ^^^ (rs3 * 134217728)) = (((((M + rd * 128) + rm * 4096) + rs1 * 32768) + rs2 * 1048576) + rs3 * 134217728) := by
  rw [xorD (A := M) (b := rd) 7 5 (K := 128) (N := 32) rfl rfl (by omega) b_rd]
  rw [xorD (A := (M + rd * 128)) (b := rm) 12 3 (K := 4096) (N := 8) rfl rfl (by omega) b_rm]
  rw [xorD (A := ((M + rd * 128) + rm * 4096)) (b := rs1) 15 5 (K := 32768) (N := 32) rfl rfl (by omega) b_rs1]
  rw [xorD (A := (((M + rd * 128) + rm * 4096) + rs1 * 32768)) (b := rs2) 20 5 (K := 1048576) (N := 32) rfl rfl (by omega) b_rs2]
  rw [xorD (A := ((((M + rd * 128) + rm * 4096) + rs1 * 32768) + rs2 * 1048576)) (b := rs3) 27 5 (K := 134217728) (N := 32) rfl rfl (by omega) b_rs3]
theorem btX_3 {r : Rw} {x : In} (hl : r.lay = 3) (h : hkI 3 x = x) (hc : x.csr < 256) (hM : r.mtch < 4294967296) (m7 : r.mtch / 128 % 32 = 0) (m12 : r.mtch / 4096 % 8 = 0) (m15 : r.mtch / 32768 % 32 = 0) (m20 : r.mtch / 1048576 % 32 = 0) (m27 : r.mtch / 134217728 % 32 = 0) : r.mtch ^^^ btX 3 x = encW r x := by
  obtain ⟨e1, e2, e3, e4, e5, e6, e7⟩ := hk_eqs h
  obtain ⟨k1, k2, k3, k4, k5, k6, k7⟩ := hk_le h
  simp at e1 e3 e4 e5 e6 e7
  unfold btX imX encW fsW
  rw [hl]
  have z := xch3 r.mtch hM m7 m12 m15 m20 m27 x.rd x.rm x.rs1 x.rs2 x.rs3 k1 k5 k2 k3 k4
  simp only [← e6, ← e7, imN_0, Nat.zero_mul, Nat.zero_add, Nat.xor_zero, Nat.zero_xor, if_true, if_false, ← Nat.xor_assoc, reduceIte, Nat.reduceEqDiff, Nat.reduceEqDiff] at z ⊢
  rw [z]
  omega
theorem xch4 (M : Nat) (hM : M < 4294967296) (m7 : M / 128 % 32 = 0) (m12 : M / 4096 % 8 = 0) (m15 : M / 32768 % 32 = 0) (m20 : M / 1048576 % 32 = 0) (rd rm rs1 rs2 : Nat) (b_rd : rd < 32) (b_rm : rm < 8) (b_rs1 : rs1 < 32) (b_rs2 : rs2 < 32) : ((((M ^^^ (rd * 128)) ^^^ (rm * 4096)) ^^^ (rs1 * 32768)) ^^^ (rs2 * 1048576)) = ((((M + rd * 128) + rm * 4096) + rs1 * 32768) + rs2 * 1048576) := by
  rw [xorD (A := M) (b := rd) 7 5 (K := 128) (N := 32) rfl rfl (by omega) b_rd]
  rw [xorD (A := (M + rd * 128)) (b := rm) 12 3 (K := 4096) (N := 8) rfl rfl (by omega) b_rm]
  rw [xorD (A := ((M + rd * 128) + rm * 4096)) (b := rs1) 15 5 (K := 32768) (N := 32) rfl rfl (by omega) b_rs1]
  rw [xorD (A := (((M + rd * 128) + rm * 4096) + rs1 * 32768)) (b := rs2) 20 5 (K := 1048576) (N := 32) rfl rfl (by omega) b_rs2]
theorem btX_4 {r : Rw} {x : In} (hl : r.lay = 4) (h : hkI 4 x = x) (hc : x.csr < 256) (hM : r.mtch < 4294967296) (m7 : r.mtch / 128 % 32 = 0) (m12 : r.mtch / 4096 % 8 = 0) (m15 : r.mtch / 32768 % 32 = 0) (m20 : r.mtch / 1048576 % 32 = 0) : r.mtch ^^^ btX 4 x = encW r x := by
  obtain ⟨e1, e2, e3, e4, e5, e6, e7⟩ := hk_eqs h
  obtain ⟨k1, k2, k3, k4, k5, k6, k7⟩ := hk_le h
  simp at e1 e3 e4 e5 e6 e7
  unfold btX imX encW fsW
  rw [hl]
  have z := xch4 r.mtch hM m7 m12 m15 m20 x.rd x.rm x.rs1 x.rs2 k1 k5 k2 k3
  simp only [← e6, ← e4, ← e7, imN_0, Nat.zero_mul, Nat.zero_add, Nat.xor_zero, Nat.zero_xor, if_true, if_false, ← Nat.xor_assoc, reduceIte, Nat.reduceEqDiff, Nat.reduceEqDiff] at z ⊢
  rw [z]
  omega
theorem xch5 (M : Nat) (hM : M < 4294967296) (m7 : M / 128 % 32 = 0) (m15 : M / 32768 % 32 = 0) (m20 : M / 1048576 % 32 = 0) (rd rs1 rs2 : Nat) (b_rd : rd < 32) (b_rs1 : rs1 < 32) (b_rs2 : rs2 < 32) : (((M ^^^ (rd * 128)) ^^^ (rs1 * 32768)) ^^^ (rs2 * 1048576)) = (((M + rd * 128) + rs1 * 32768) + rs2 * 1048576) := by
  rw [xorD (A := M) (b := rd) 7 5 (K := 128) (N := 32) rfl rfl (by omega) b_rd]
  rw [xorD (A := (M + rd * 128)) (b := rs1) 15 5 (K := 32768) (N := 32) rfl rfl (by omega) b_rs1]
  rw [xorD (A := ((M + rd * 128) + rs1 * 32768)) (b := rs2) 20 5 (K := 1048576) (N := 32) rfl rfl (by omega) b_rs2]
theorem btX_5 {r : Rw} {x : In} (hl : r.lay = 5) (h : hkI 5 x = x) (hc : x.csr < 256) (hM : r.mtch < 4294967296) (m7 : r.mtch / 128 % 32 = 0) (m15 : r.mtch / 32768 % 32 = 0) (m20 : r.mtch / 1048576 % 32 = 0) : r.mtch ^^^ btX 5 x = encW r x := by
  obtain ⟨e1, e2, e3, e4, e5, e6, e7⟩ := hk_eqs h
  obtain ⟨k1, k2, k3, k4, k5, k6, k7⟩ := hk_le h
  simp at e1 e3 e4 e5 e6 e7
  unfold btX imX encW fsW
  rw [hl]
  have z := xch5 r.mtch hM m7 m15 m20 x.rd x.rs1 x.rs2 k1 k2 k3
  simp only [← e6, ← e5, ← e4, ← e7, imN_0, Nat.zero_mul, Nat.zero_add, Nat.xor_zero, Nat.zero_xor, if_true, if_false, ← Nat.xor_assoc, reduceIte, Nat.reduceEqDiff, Nat.reduceEqDiff] at z ⊢
  rw [z]
  omega
theorem xch6 (M : Nat) (hM : M < 4294967296) (m7 : M / 128 % 32 = 0) (m12 : M / 4096 % 8 = 0) (m15 : M / 32768 % 32 = 0) (rd rm rs1 : Nat) (b_rd : rd < 32) (b_rm : rm < 8) (b_rs1 : rs1 < 32) : (((M ^^^ (rd * 128)) ^^^ (rm * 4096)) ^^^ (rs1 * 32768)) = (((M + rd * 128) + rm * 4096) + rs1 * 32768) := by
  rw [xorD (A := M) (b := rd) 7 5 (K := 128) (N := 32) rfl rfl (by omega) b_rd]
  rw [xorD (A := (M + rd * 128)) (b := rm) 12 3 (K := 4096) (N := 8) rfl rfl (by omega) b_rm]
  rw [xorD (A := ((M + rd * 128) + rm * 4096)) (b := rs1) 15 5 (K := 32768) (N := 32) rfl rfl (by omega) b_rs1]
theorem btX_6 {r : Rw} {x : In} (hl : r.lay = 6) (h : hkI 6 x = x) (hc : x.csr < 256) (hM : r.mtch < 4294967296) (m7 : r.mtch / 128 % 32 = 0) (m12 : r.mtch / 4096 % 8 = 0) (m15 : r.mtch / 32768 % 32 = 0) : r.mtch ^^^ btX 6 x = encW r x := by
  obtain ⟨e1, e2, e3, e4, e5, e6, e7⟩ := hk_eqs h
  obtain ⟨k1, k2, k3, k4, k5, k6, k7⟩ := hk_le h
  simp at e1 e3 e4 e5 e6 e7
  unfold btX imX encW fsW
  rw [hl]
  have z := xch6 r.mtch hM m7 m12 m15 x.rd x.rm x.rs1 k1 k5 k2
  simp only [← e6, ← e3, ← e4, ← e7, imN_0, Nat.zero_mul, Nat.zero_add, Nat.xor_zero, Nat.zero_xor, if_true, if_false, ← Nat.xor_assoc, reduceIte, Nat.reduceEqDiff, Nat.reduceEqDiff] at z ⊢
  rw [z]
  omega
theorem xch7 (M : Nat) (hM : M < 4294967296) (m7 : M / 128 % 32 = 0) (m15 : M / 32768 % 32 = 0) (rd rs1 : Nat) (b_rd : rd < 32) (b_rs1 : rs1 < 32) : ((M ^^^ (rd * 128)) ^^^ (rs1 * 32768)) = ((M + rd * 128) + rs1 * 32768) := by
  rw [xorD (A := M) (b := rd) 7 5 (K := 128) (N := 32) rfl rfl (by omega) b_rd]
  rw [xorD (A := (M + rd * 128)) (b := rs1) 15 5 (K := 32768) (N := 32) rfl rfl (by omega) b_rs1]
theorem btX_7 {r : Rw} {x : In} (hl : r.lay = 7) (h : hkI 7 x = x) (hc : x.csr < 256) (hM : r.mtch < 4294967296) (m7 : r.mtch / 128 % 32 = 0) (m15 : r.mtch / 32768 % 32 = 0) : r.mtch ^^^ btX 7 x = encW r x := by
  obtain ⟨e1, e2, e3, e4, e5, e6, e7⟩ := hk_eqs h
  obtain ⟨k1, k2, k3, k4, k5, k6, k7⟩ := hk_le h
  simp at e1 e3 e4 e5 e6 e7
  unfold btX imX encW fsW
  rw [hl]
  have z := xch7 r.mtch hM m7 m15 x.rd x.rs1 k1 k2
  simp only [← e6, ← e5, ← e3, ← e4, ← e7, imN_0, Nat.zero_mul, Nat.zero_add, Nat.xor_zero, Nat.zero_xor, if_true, if_false, ← Nat.xor_assoc, reduceIte, Nat.reduceEqDiff, Nat.reduceEqDiff] at z ⊢
  rw [z]
  omega
theorem xch8 (M : Nat) (hM : M < 4294967296) (m7 : M / 128 % 32 = 0) (m15 : M / 32768 % 32 = 0) (m20 : M / 1048576 % 32 = 0) (m25 : M / 33554432 % 4 = 0) (m27 : M / 134217728 % 32 = 0) (rd rs1 csr : Nat) (b_rd : rd < 32) (b_rs1 : rs1 < 32) (b_csr : csr < 256) : (((M ^^^ (rd * 128)) ^^^ (rs1 * 32768)) ^^^ (csr * 1048576)) = (((M + rd * 128) + rs1 * 32768) + csr * 1048576) := by
  rw [xorD (A := M) (b := rd) 7 5 (K := 128) (N := 32) rfl rfl (by omega) b_rd]
  rw [xorD (A := (M + rd * 128)) (b := rs1) 15 5 (K := 32768) (N := 32) rfl rfl (by omega) b_rs1]
  rw [xorD (A := ((M + rd * 128) + rs1 * 32768)) (b := csr) 20 8 (K := 1048576) (N := 256) rfl rfl (by omega) b_csr]
theorem btX_8 {r : Rw} {x : In} (hl : r.lay = 8) (h : hkI 8 x = x) (hc : x.csr < 256) (hM : r.mtch < 4294967296) (m7 : r.mtch / 128 % 32 = 0) (m15 : r.mtch / 32768 % 32 = 0) (m20 : r.mtch / 1048576 % 32 = 0) (m25 : r.mtch / 33554432 % 4 = 0) (m27 : r.mtch / 134217728 % 32 = 0) : r.mtch ^^^ btX 8 x = encW r x := by
  obtain ⟨e1, e2, e3, e4, e5, e6, e7⟩ := hk_eqs h
  obtain ⟨k1, k2, k3, k4, k5, k6, k7⟩ := hk_le h
  simp at e1 e3 e4 e5 e6 e7
  unfold btX imX encW fsW
  rw [hl]
  have z := xch8 r.mtch hM m7 m15 m20 m25 m27 x.rd x.rs1 x.csr k1 k2 hc
  simp only [← e6, ← e5, ← e3, ← e4, imN_0, Nat.zero_mul, Nat.zero_add, Nat.xor_zero, Nat.zero_xor, if_true, if_false, ← Nat.xor_assoc, reduceIte, Nat.reduceEqDiff, Nat.reduceEqDiff] at z ⊢
  rw [z]
  omega
theorem xch9 (M : Nat) (hM : M < 4294967296) (m7 : M / 128 % 32 = 0) (m15 : M / 32768 % 32 = 0) (m20 : M / 1048576 % 32 = 0) (m25 : M / 33554432 % 4 = 0) (m27 : M / 134217728 % 32 = 0) (rd rs1 csr : Nat) (b_rd : rd < 32) (b_rs1 : rs1 < 32) (b_csr : csr < 256) : (((M ^^^ (rd * 128)) ^^^ (rs1 * 32768)) ^^^ (csr * 1048576)) = (((M + rd * 128) + rs1 * 32768) + csr * 1048576) := by
  rw [xorD (A := M) (b := rd) 7 5 (K := 128) (N := 32) rfl rfl (by omega) b_rd]
  rw [xorD (A := (M + rd * 128)) (b := rs1) 15 5 (K := 32768) (N := 32) rfl rfl (by omega) b_rs1]
  rw [xorD (A := ((M + rd * 128) + rs1 * 32768)) (b := csr) 20 8 (K := 1048576) (N := 256) rfl rfl (by omega) b_csr]
theorem btX_9 {r : Rw} {x : In} (hl : r.lay = 9) (h : hkI 9 x = x) (hc : x.csr < 256) (hM : r.mtch < 4294967296) (m7 : r.mtch / 128 % 32 = 0) (m15 : r.mtch / 32768 % 32 = 0) (m20 : r.mtch / 1048576 % 32 = 0) (m25 : r.mtch / 33554432 % 4 = 0) (m27 : r.mtch / 134217728 % 32 = 0) : r.mtch ^^^ btX 9 x = encW r x := by
  obtain ⟨e1, e2, e3, e4, e5, e6, e7⟩ := hk_eqs h
  obtain ⟨k1, k2, k3, k4, k5, k6, k7⟩ := hk_le h
  simp at e1 e3 e4 e5 e6 e7
  unfold btX imX encW fsW
  rw [hl]
  have z := xch9 r.mtch hM m7 m15 m20 m25 m27 x.rd x.rs1 x.csr k1 k2 hc
  simp only [← e6, ← e5, ← e3, ← e4, imN_0, Nat.zero_mul, Nat.zero_add, Nat.xor_zero, Nat.zero_xor, if_true, if_false, ← Nat.xor_assoc, reduceIte, Nat.reduceEqDiff, Nat.reduceEqDiff] at z ⊢
  rw [z]
  omega
theorem may_held {p : Nm} {x : In} (hof : ofR24 x.op x.form x.frm x.kind = some p) (h : mayI x = true) : hkI p.1.lay x = x := by
  unfold mayI at h
  rw [hof] at h
  simp only [Bool.and_eq_true] at h
  obtain ⟨hb, hf⟩ := h
  obtain ⟨hp, e1, e2, e3, e4⟩ := of_some hof
  unfold bndI at hb
  obtain ⟨a1, a2, a3, a4, a5, a6, a7, a8, a9, a10⟩ := of_decide_eq_true hb
  obtain ⟨l1, l9, _⟩ := lay24 hp
  have hs := sgI_in x.imm a8 a9
  obtain ⟨r, nn⟩ := p
  simp only at *
  clear hof hb hp
  obtain ⟨op, form, frm, kind, rd, rs1, rs2, rs3, rm, imm, csr⟩ := x
  simp only at *
  rcases (by omega : r.lay = 1 ∨ r.lay = 2 ∨ r.lay = 3 ∨ r.lay = 4 ∨ r.lay = 5 ∨ r.lay = 6 ∨ r.lay = 7 ∨ r.lay = 8 ∨ r.lay = 9) with hl | hl | hl | hl | hl | hl | hl | hl | hl
  all_goals
    unfold hkI
    simp [hl, fitI, hsL] at hf ⊢
    try simp [hs]
    omega
theorem held_enc {p : Nm} {x : In} (hx : x.csr < 256) (hof : ofR24 x.op x.form x.frm x.kind = some p) (hh : hkI p.1.lay x = x) : p.1.mtch ^^^ btX p.1.lay x = encW p.1 x ∧ encW p.1 x < 4294967296 ∧ fitsL p.1 (encW p.1 x) = mayI x := by
  obtain ⟨hp, e1, e2, e3, e4⟩ := of_some hof
  have hm := of_decide_eq_true (List.all_eq_true.1 maskIs p hp)
  obtain ⟨l1, l9, _⟩ := lay24 hp
  have yes : mayI x = true → fitsL p.1 (encW p.1 x) = true := fun h => by
    obtain ⟨q, hq, hmem, hlt, hf, _⟩ := enc_dec h
    rw [hof] at hq
    obtain rfl := Option.some.inj hq
    exact (fd_mem hf).2
  obtain ⟨k1, k2, k3, k4, k5, k6, k7⟩ := hk_le hh
  obtain ⟨q1, q2, q3, q4, q5, q6, q7⟩ := hk_eqs hh
  have hi := imN_lt k6 k7
  have key : p.1.mtch ^^^ btX p.1.lay x = encW p.1 x ∧ encW p.1 x < 4294967296 ∧ (mayI x = false → fitsL p.1 (encW p.1 x) = false) := by
    have hmay : mayI x = (bndI x && fitI (hsL p.1.lay) x) := by unfold mayI; rw [hof]
    clear yes
    obtain ⟨r, nn⟩ := p
    simp only at *
    rcases (by omega : r.lay = 1 ∨ r.lay = 2 ∨ r.lay = 3 ∨ r.lay = 4 ∨ r.lay = 5 ∨ r.lay = 6 ∨ r.lay = 7 ∨ r.lay = 8 ∨ r.lay = 9) with hl | hl | hl | hl | hl | hl | hl | hl | hl
    · rw [hl] at hh hm
      have mt := List.all_eq_true.1 mt1 (r, nn) hp
      simp [hl] at mt
      have E := btX_1 (r := r) hl hh hx hm.2 (by omega) (by omega) (by omega) (by omega) (by omega)
      rw [hl]
      have hW : encW r x < 4294967296 := by unfold encW fsW; rw [hl]; simp; omega
      refine ⟨E, hW, fun hn => ?_⟩
      rw [hmay] at hn
      simp [hl] at q1 q3 q4 q5 q6 q7
      exfalso
      simp [bndI, fitI, hsL, hl] at hn
      omega
    · rw [hl] at hh hm
      have mt := List.all_eq_true.1 mt2 (r, nn) hp
      simp [hl] at mt
      have E := btX_2 (r := r) hl hh hx hm.2 (by omega) (by omega) (by omega) (by omega) (by omega)
      rw [hl]
      have hW : encW r x < 4294967296 := by unfold encW fsW; rw [hl]; simp; omega
      refine ⟨E, hW, fun hn => ?_⟩
      rw [hmay] at hn
      simp [hl] at q1 q3 q4 q5 q6 q7
      exfalso
      simp [bndI, fitI, hsL, hl] at hn
      omega
    · rw [hl] at hh hm
      have mt := List.all_eq_true.1 mt3 (r, nn) hp
      simp [hl] at mt
      have E := btX_3 (r := r) hl hh hx hm.2 (by omega) (by omega) (by omega) (by omega) (by omega)
      rw [hl]
      have hW : encW r x < 4294967296 := by unfold encW fsW; rw [hl]; simp; omega
      refine ⟨E, hW, fun hn => ?_⟩
      rw [hmay] at hn
      simp [hl] at q1 q3 q4 q5 q6 q7
      have hrm : encW r x / 4096 % 8 = x.rm := by unfold encW fsW; rw [hl]; simp; omega
      have h56 : x.rm = 5 ∨ x.rm = 6 := by
        simp [bndI, fitI, hsL, hl] at hn
        omega
      unfold fitsL
      rw [hl, hrm]
      simp [h56]
    · rw [hl] at hh hm
      have mt := List.all_eq_true.1 mt4 (r, nn) hp
      simp [hl] at mt
      have E := btX_4 (r := r) hl hh hx hm.2 (by omega) (by omega) (by omega) (by omega)
      rw [hl]
      have hW : encW r x < 4294967296 := by unfold encW fsW; rw [hl]; simp; omega
      refine ⟨E, hW, fun hn => ?_⟩
      rw [hmay] at hn
      simp [hl] at q1 q3 q4 q5 q6 q7
      have hrm : encW r x / 4096 % 8 = x.rm := by unfold encW fsW; rw [hl]; simp; omega
      have h56 : x.rm = 5 ∨ x.rm = 6 := by
        simp [bndI, fitI, hsL, hl] at hn
        omega
      unfold fitsL
      rw [hl, hrm]
      simp [h56]
    · rw [hl] at hh hm
      have mt := List.all_eq_true.1 mt5 (r, nn) hp
      simp [hl] at mt
      have E := btX_5 (r := r) hl hh hx hm.2 (by omega) (by omega) (by omega)
      rw [hl]
      have hW : encW r x < 4294967296 := by unfold encW fsW; rw [hl]; simp; omega
      refine ⟨E, hW, fun hn => ?_⟩
      rw [hmay] at hn
      simp [hl] at q1 q3 q4 q5 q6 q7
      exfalso
      simp [bndI, fitI, hsL, hl] at hn
      omega
    · rw [hl] at hh hm
      have mt := List.all_eq_true.1 mt6 (r, nn) hp
      simp [hl] at mt
      have E := btX_6 (r := r) hl hh hx hm.2 (by omega) (by omega) (by omega)
      rw [hl]
      have hW : encW r x < 4294967296 := by unfold encW fsW; rw [hl]; simp; omega
      refine ⟨E, hW, fun hn => ?_⟩
      rw [hmay] at hn
      simp [hl] at q1 q3 q4 q5 q6 q7
      have hrm : encW r x / 4096 % 8 = x.rm := by unfold encW fsW; rw [hl]; simp; omega
      have h56 : x.rm = 5 ∨ x.rm = 6 := by
        simp [bndI, fitI, hsL, hl] at hn
        omega
      unfold fitsL
      rw [hl, hrm]
      simp [h56]
    · rw [hl] at hh hm
      have mt := List.all_eq_true.1 mt7 (r, nn) hp
      simp [hl] at mt
      have E := btX_7 (r := r) hl hh hx hm.2 (by omega) (by omega)
      rw [hl]
      have hW : encW r x < 4294967296 := by unfold encW fsW; rw [hl]; simp; omega
      refine ⟨E, hW, fun hn => ?_⟩
      rw [hmay] at hn
      simp [hl] at q1 q3 q4 q5 q6 q7
      exfalso
      simp [bndI, fitI, hsL, hl] at hn
      omega
    · rw [hl] at hh hm
      have mt := List.all_eq_true.1 mt8 (r, nn) hp
      simp [hl] at mt
      have E := btX_8 (r := r) hl hh hx hm.2 (by omega) (by omega) (by omega) (by omega) (by omega)
      rw [hl]
      have hW : encW r x < 4294967296 := by unfold encW fsW; rw [hl]; simp; omega
      refine ⟨E, hW, fun hn => ?_⟩
      rw [hmay] at hn
      simp [hl] at q1 q3 q4 q5 q6 q7
      have hcs : encW r x / 1048576 = x.csr := by unfold encW fsW; rw [hl]; simp; omega
      have h13 : ¬ (1 ≤ x.csr ∧ x.csr ≤ 3) := by
        simp [bndI, fitI, hsL, hl] at hn
        omega
      unfold fitsL
      rw [hl, hcs, decide_eq_false h13]
      simp
    · rw [hl] at hh hm
      have mt := List.all_eq_true.1 mt9 (r, nn) hp
      simp [hl] at mt
      have E := btX_9 (r := r) hl hh hx hm.2 (by omega) (by omega) (by omega) (by omega) (by omega)
      rw [hl]
      have hW : encW r x < 4294967296 := by unfold encW fsW; rw [hl]; simp; omega
      refine ⟨E, hW, fun hn => ?_⟩
      rw [hmay] at hn
      simp [hl] at q1 q3 q4 q5 q6 q7
      have hcs : encW r x / 1048576 = x.csr := by unfold encW fsW; rw [hl]; simp; omega
      have h13 : ¬ (1 ≤ x.csr ∧ x.csr ≤ 3) := by
        simp [bndI, fitI, hsL, hl] at hn
        omega
      unfold fitsL
      rw [hl, hcs, decide_eq_false h13]
      simp
  refine ⟨key.1, key.2.1, ?_⟩
  cases h : mayI x with
  | true => exact yes h
  | false => exact key.2.2 h
end Go.Proofs.YtaoccmopfflkmaaDoor
