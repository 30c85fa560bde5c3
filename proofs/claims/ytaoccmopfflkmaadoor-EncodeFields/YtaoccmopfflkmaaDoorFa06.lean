/-
  What the functions that the statement reaches return: part 6 (WI, ZH).
-/
import Derived.Deep.RegionLaw
import Derived.Deep.AppendLies
import Derived.Test.YtaoccmopfflkmaaDoorFa05
namespace Go.Proofs.YtaoccmopfflkmaaDoor
set_option maxRecDepth 100000
set_option maxHeartbeats 40000000
set_option maxRecDepth 100000
open Go.RowKit Go.Shelf WMath
set_option linter.unusedSimpArgs false
set_option linter.unusedVariables false
theorem enR_yes {x : In} (h : mayI x = true) : ∃ p, ofR24 x.op x.form x.frm x.kind = some p ∧ p ∈ allL ∧ enR x = (encW p.1 x, 0) ∧ encW p.1 x < 4294967296 ∧ fdL (encW p.1 x) = some p ∧ dcI p.1 (encW p.1 x) = x := by
  obtain ⟨p, hp, hm, hlt, hf, hd⟩ := enc_dec h
  exact ⟨p, hp, hm, by unfold enR; rw [h, hp]; rfl, hlt, hf, hd⟩
theorem enR_no {x : In} (h : mayI x = false) : enR x = (0, 260) := by unfold enR; rw [h]; rfl
theorem enR_may {x : In} : (enR x).2 = 0 ↔ mayI x = true := by
  cases h : mayI x with
  | false => rw [enR_no h]; simp
  | true => obtain ⟨p, _, _, e, _⟩ := enR_yes h; rw [e]; simp
theorem l26a : enR ⟨7, 0, 0, 0, 1, 2, 3, 0, 0, 0, 0⟩ = (3211475, 0) := by decide +kernel
theorem l26b : enR ⟨2, 0, 0, 0, 0, 2, 1, 0, 0, -4, 0⟩ = (4262538791, 0) := by decide +kernel
theorem l26c : (enR ⟨7, 0, 0, 0, 0, 0, 0, 0, 5, 0, 0⟩).2 = 260 := by decide +kernel
theorem l26d : mayI ⟨23, 3, 0, 0, 0, 0, 0, 0, 0, 0, 0⟩ = false := by decide +kernel
theorem lives26 {T : World → Prop} (FB : Box (∀ {w w' : World}, T w → Below w.heap.size w w' → T w')) (CE : ∀ x : In, InOk x → Box (∀ w, T w → Calls Tryd.prog 9 #[.agg (inC x)] w fun r w' => r = .returned (.tuple #[.int .u32 ((enR x).1 : Nat), .int .i64 (enR x).2]) ∧ Below w.heap.size w w')) (CM : ∀ x : In, InOk x → Box (∀ w, T w → Calls Tryd.prog 11 #[.agg (inC x)] w fun r w' => r = .returned (.bool (mayI x)) ∧ Below w.heap.size w w')) (w : World) (hT : T w) : Calls Tryd.prog 13 #[] w fun r w' => r = .returned (.bool true) ∧ Below w.heap.size w w' := by
  have F1 := CE ⟨7, 0, 0, 0, 1, 2, 3, 0, 0, 0, 0⟩ (by unfold InOk; decide)
  have F2 := CE ⟨2, 0, 0, 0, 0, 2, 1, 0, 0, -4, 0⟩ (by unfold InOk; decide)
  have F3 := CE ⟨7, 0, 0, 0, 0, 0, 0, 0, 5, 0, 0⟩ (by unfold InOk; decide)
  have F4 := CM ⟨23, 3, 0, 0, 0, 0, 0, 0, 0, 0, 0⟩ (by unfold InOk; decide)
  rw [l26a] at F1
  rw [l26b] at F2
  rw [l26c] at F3
  rw [l26d] at F4
  exact en_lives FB F1 F2 _ F3 F4 w hT
theorem mkor_all : (allL.all fun p => decide (p.1.mask ||| mkL p.1.lay = 4294967295)) = true := by decide +kernel
theorem mk_or {p : Nm} (h : p ∈ allL) : p.1.mask ||| mkL p.1.lay = 4294967295 := of_decide_eq_true (List.all_eq_true.1 mkor_all p h)
theorem gm15 : ∀ k, k < 32 → (4293951487 : Nat).testBit k = true → k < 15 ∨ 20 ≤ k := by decide
theorem rs1_bits {N a b : Nat} (ha : a < 32) (hb : b < 32) (hN : N / 32768 % 32 = 0) (h1 : N + a * 32768 < 4294967296) (h2 : N + b * 32768 < 4294967296) : bits .andNot .u32 (((N + a * 32768) ^^^ (N + b * 32768) : Nat) : Int) ((1015808 : Nat) : Int) = 0 := by
  refine and_no (m := 4293951487) h1 h2 (by decide) (by decide) (and_same (fun k hk => ?_))
  have k32 := hi_bit (by decide) hk
  rcases gm15 k k32 hk with h | h
  · have e : (N + a * 32768) % 2 ^ 15 = (N + b * 32768) % 2 ^ 15 := by
      have : (2 : Nat) ^ 15 = 32768 := rfl
      rw [this]
      omega
    have q := congrArg (fun y => y.testBit k) e
    simp only [Nat.testBit_mod_two_pow, h, decide_true, Bool.true_and] at q
    exact q
  · have e : (N + a * 32768) / 2 ^ 20 = (N + b * 32768) / 2 ^ 20 := by
      have : (2 : Nat) ^ 20 = 1048576 := rfl
      rw [this]
      omega
    have q := congrArg (fun y => y.testBit (k - 20)) e
    simp only [Nat.testBit_div_two_pow] at q
    rw [show k - 20 + 20 = k by omega] at q
    exact q
theorem fields26 {T : World → Prop} (FB : Box (∀ {w w' : World}, T w → Below w.heap.size w w' → T w')) (CE : ∀ x : In, InOk x → Box (∀ w, T w → Calls Tryd.prog 9 #[.agg (inC x)] w fun r w' => r = .returned (.tuple #[.int .u32 ((enR x).1 : Nat), .int .i64 (enR x).2]) ∧ Below w.heap.size w w')) (CS : ∀ v u : Nat, v < 4294967296 → u < 4294967296 → Box (∀ w, T w → Calls Tryd.prog 21 #[.int .u32 (v : Nat), .int .u32 (u : Nat)] w fun r w' => r = .returned (.tuple #[.int .u32 ((smR v u).1 : Nat), .int .i64 (smR v u).2]) ∧ Below w.heap.size w w')) (KL : Box (∀ w, T w → Calls Tryd.prog 13 #[] w fun r w' => r = .returned (.bool true) ∧ Below w.heap.size w w')) (x : In) (hi : InOk x) (y : In) (hj : InOk y) (n : Nat) (hn : n < 256) (w : World) (hT : T w) : Calls Tryd.prog 8 #[.agg (inC x), .agg (inC y), .int .u8 (n : Nat)] w fun r w' => r = .returned (.bool true) ∧ Below w.heap.size w w' := by
  have K1 := CE x hi
  have K2 := CE y hj
  have z0 : (0 : Int) ≠ 260 := by decide
  cases h : mayI x with
  | false =>
    rw [enR_no h] at K1
    cases g : mayI y with
    | false =>
      rw [enR_no g] at K2
      exact en_fields_nn FB x y n _ _ _ (by decide) (by decide) _ (by decide) K1 K2 KL w hT
    | true =>
      obtain ⟨p, hp, hmem, e, hlt, hf, hd⟩ := enR_yes g
      rw [e] at K2
      exact en_fields_ny FB x y n _ _ _ (by decide) (by decide) K1 K2 KL w hT
  | true =>
    obtain ⟨p, hp, hmem, e, hlt, hf, hd⟩ := enR_yes h
    have hk : n % 32 < 32 := Nat.mod_lt _ (by decide)
    have hmod : ((n : Nat) : Int) % 32 = ((n % 32 : Nat) : Int) := by omega
    obtain ⟨k, hkk⟩ : ∃ k, n % 32 = k := ⟨_, rfl⟩
    rw [hkk] at hk hmod
    obtain ⟨z, hz⟩ : ∃ z : In, z = ⟨x.op, x.form, x.frm, x.kind, x.rd, k, x.rs2, x.rs3, x.rm, x.imm, x.csr⟩ := ⟨_, rfl⟩
    have hzo : InOk z := by
      obtain ⟨c1, c2, c3, c4, c5, c6, c7, c8, c9, c10, c11, c12⟩ := hi
      rw [hz]
      exact ⟨c1, c2, c3, c4, c5, by show k < 256; omega, c7, c8, c9, c10, c11, c12⟩
    have hmz : mayI z = true := by
      have h2 := h
      unfold mayI at h2 ⊢
      rw [hz]
      simp only at h2 ⊢
      rw [hp] at h2 ⊢
      simp only [Bool.and_eq_true] at h2 ⊢
      refine ⟨?_, h2.2⟩
      have hb := h2.1
      unfold bndI at hb ⊢
      obtain ⟨b1, b2, b3, b4, b5, b6, b7, b8, b9, b10⟩ := of_decide_eq_true hb
      exact decide_eq_true ⟨b1, by show k ≤ 31; omega, b3, b4, b5, b6, b7, b8, b9, b10⟩
    obtain ⟨p2, hp2, _, ez, hltz, hfz, hdz⟩ := enR_yes hmz
    have hpp : p2 = p := by
      have q : ofR24 z.op z.form z.frm z.kind = ofR24 x.op x.form x.frm x.kind := by rw [hz]
      rw [q, hp] at hp2
      exact (Option.some.inj hp2).symm
    subst hpp
    have K3 := CE z hzo
    rw [ez] at K3
    have K4 := CS _ _ hlt hltz
    have es : smR (encW p2.1 x) (encW p2.1 z) = (mkL p2.1.lay, 0) := by rw [smR_y hf hfz, if_pos rfl]
    rw [es] at K4
    have hx := (xor32u _ _ hlt hltz).1
    have hm1 := of_decide_eq_true (List.all_eq_true.1 maskIs p2 hmem)
    have hn1 : bits .andNot .u32 ((encW p2.1 x ^^^ encW p2.1 z : Nat) : Int) ((mkL p2.1.lay : Nat) : Int) = 0 := by
      refine and_no (m := p2.1.mask) hlt hltz (mkL_lt _) ?_ (by rw [fd_mask hf, fd_mask hfz])
      have := mk_or hmem
      exact this
    have hA : encW p2.1 x = encW p2.1 x - x.rs1 * 32768 + x.rs1 * 32768 := by unfold encW fsW; omega
    have hC : encW p2.1 z = encW p2.1 x - x.rs1 * 32768 + k * 32768 := by
      have e1 : encW p2.1 z + x.rs1 * 32768 = encW p2.1 x + k * 32768 := by
        rw [hz]
        unfold encW fsW
        simp only
        generalize (if p2.1.lay = 1 then _ else _ : Nat) = R
        omega
      have e2 : x.rs1 * 32768 ≤ encW p2.1 x := by unfold encW fsW; omega
      omega
    have hr : fld (encW p2.1 x) 15 5 = x.rs1 := congrArg In.rs1 hd
    have hrl : x.rs1 < 32 := by rw [← hr]; exact fld_lt _ _ _
    obtain ⟨N, hN⟩ : ∃ N, encW p2.1 x - x.rs1 * 32768 = N := ⟨_, rfl⟩
    rw [hN] at hA hC
    have hN0 : N / 32768 % 32 = 0 := by
      have q : (N + x.rs1 * 32768) / 32768 % 32 = x.rs1 := by rw [← hA]; exact hr
      omega
    have hn2 : bits .andNot .u32 ((encW p2.1 x ^^^ encW p2.1 z : Nat) : Int) 1015808 = 0 := by
      rw [hA, hC]
      exact rs1_bits hrl hk hN0 (by rw [← hA]; exact hlt) (by rw [← hC]; exact hltz)
    rw [e] at K1
    cases g : mayI y with
    | false =>
      rw [enR_no g] at K2
      exact en_fields_yn FB x y n _ _ _ (by decide) k hmod z hz _ _ _ hx hn1 hn2 K1 K2 K3 K4 KL w hT
    | true =>
      obtain ⟨p3, hp3, _, e3, hlt3, hf3, hd3⟩ := enR_yes g
      rw [e3] at K2
      have q : (((encW p2.1 x : Nat) : Int) == ((encW p3.1 y : Nat) : Int)) = decide (x = y) := by
        rw [Bool.eq_iff_iff, beq_iff_eq, decide_eq_true_iff]
        constructor
        · intro e
          have e : encW p2.1 x = encW p3.1 y := by omega
          rw [e, hf3] at hf
          obtain rfl := Option.some.inj hf
          rw [← hd, e, hd3]
        · rintro rfl
          rw [hp] at hp3
          rw [Option.some.inj hp3]
      exact en_fields_yy FB x y n _ _ _ q (inCE_is x y) k hmod z hz _ _ _ hx hn1 hn2 K1 K2 K3 K4 KL w hT
end Go.Proofs.YtaoccmopfflkmaaDoor
namespace Go.Proofs.YtaoccmopfflkmaaDoor
set_option maxRecDepth 100000
set_option maxHeartbeats 40000000
set_option maxRecDepth 100000
open Go.RowKit WMath
set_option linter.unusedSimpArgs false
set_option linter.unusedVariables false
def sgI (i : Int) : Int := if 2048 ≤ i % 4096 then i % 4096 - 4096 else i % 4096
theorem sgI_own (i : Int) (h : sgI i = i) : -2048 ≤ i ∧ i ≤ 2047 := by
  unfold sgI at h
  split at h <;> omega
theorem sgI_in (i : Int) (h1 : -2048 ≤ i) (h2 : i ≤ 2047) : sgI i = i := by
  unfold sgI
  split <;> omega
def hkI (l : Nat) (x : In) : In := ⟨x.op, x.form, x.frm, x.kind, if l = 2 then 0 else x.rd % 32, x.rs1 % 32, if l = 2 ∨ l = 3 ∨ l = 4 ∨ l = 5 then x.rs2 % 32 else 0, if l = 3 then x.rs3 % 32 else 0, if l = 3 ∨ l = 4 ∨ l = 6 then x.rm % 8 else 0, if l = 1 ∨ l = 2 then sgI x.imm else 0, if l = 8 ∨ l = 9 then x.csr else 0⟩
theorem hk_eqs {l : Nat} {x : In} (h : hkI l x = x) : (if l = 2 then 0 else x.rd % 32) = x.rd ∧ x.rs1 % 32 = x.rs1 ∧ (if l = 2 ∨ l = 3 ∨ l = 4 ∨ l = 5 then x.rs2 % 32 else 0) = x.rs2 ∧ (if l = 3 then x.rs3 % 32 else 0) = x.rs3 ∧ (if l = 3 ∨ l = 4 ∨ l = 6 then x.rm % 8 else 0) = x.rm ∧ (if l = 1 ∨ l = 2 then sgI x.imm else 0) = x.imm ∧ (if l = 8 ∨ l = 9 then x.csr else 0) = x.csr :=
  ⟨congrArg In.rd h, congrArg In.rs1 h, congrArg In.rs2 h, congrArg In.rs3 h, congrArg In.rm h, congrArg In.imm h, congrArg In.csr h⟩
theorem xorD {A b K N : Nat} (k n : Nat) (hK : K = 2 ^ k) (hN : N = 2 ^ n) (h : A / K % N = 0) (hb : b < N) : A ^^^ (b * K) = A + b * K := by
  subst hK hN
  have h1 := Nat.div_add_mod A (2 ^ k)
  have h2 := Nat.div_add_mod (A / 2 ^ k) (2 ^ n)
  rw [h, Nat.add_zero] at h2
  have hL : A % 2 ^ k < 2 ^ k := Nat.mod_lt _ (Nat.two_pow_pos k)
  obtain ⟨L, hL1⟩ : ∃ L, A % 2 ^ k = L := ⟨_, rfl⟩
  obtain ⟨H, hH1⟩ : ∃ H, A / 2 ^ k / 2 ^ n = H := ⟨_, rfl⟩
  rw [hL1] at h1 hL
  rw [hH1] at h2
  rw [← h2] at h1
  have hS : A + b * 2 ^ k = 2 ^ k * (2 ^ n * H + b) + L := by rw [Nat.mul_add, Nat.mul_comm b]; omega
  apply Nat.eq_of_testBit_eq
  intro j
  rw [hS, Nat.testBit_xor, ← h1, Nat.testBit_two_pow_mul_add _ hL, Nat.testBit_two_pow_mul_add _ hL, Nat.mul_comm b]
  simp only [Nat.testBit_two_pow_mul]
  by_cases hj : j < k
  · rw [if_pos hj, if_pos hj, decide_eq_false (show ¬ j ≥ k by omega)]
    simp
  · rw [if_neg hj, if_neg hj, decide_eq_true (show j ≥ k by omega), Nat.testBit_two_pow_mul_add _ hb]
    by_cases hi : j - k < n
    · rw [if_pos hi, decide_eq_false (show ¬ j - k ≥ n by omega)]
      simp
    · rw [if_neg hi, decide_eq_true (show j - k ≥ n by omega), Nat.testBit_lt_two_pow (Nat.lt_of_lt_of_le hb (Nat.pow_le_pow_right (by decide) (by omega)))]
      simp
def imX (l : Nat) (i : Int) : Nat := if l = 2 then (imN i / 32 * 33554432) ^^^ (imN i % 32 * 128) else imN i * 1048576
def btX (l : Nat) (x : In) : Nat := ((((((imX l x.imm) ^^^ (x.rd * 128)) ^^^ (x.rm * 4096)) ^^^ (x.rs1 * 32768)) ^^^ (x.rs2 * 1048576)) ^^^ (x.rs3 * 134217728)) ^^^ (x.csr * 1048576)
theorem imN_0 : imN 0 = 0 := rfl
theorem hk_le {l : Nat} {x : In} (h : hkI l x = x) : x.rd < 32 ∧ x.rs1 < 32 ∧ x.rs2 < 32 ∧ x.rs3 < 32 ∧ x.rm < 8 ∧ -2048 ≤ x.imm ∧ x.imm ≤ 2047 := by
  obtain ⟨e1, e2, e3, e4, e5, e6, _⟩ := hk_eqs h
  have q : -2048 ≤ x.imm ∧ x.imm ≤ 2047 := by
    split at e6
    · exact sgI_own _ e6
    · omega
  refine ⟨?_, ?_, ?_, ?_, ?_, q.1, q.2⟩
  · split at e1 <;> omega
  · omega
  · split at e3 <;> omega
  · split at e4 <;> omega
  · split at e5 <;> omega
theorem xch1 (M : Nat) (hM : M < 4294967296) (m7 : M / 128 % 32 = 0) (m15 : M / 32768 % 32 = 0) (m20 : M / 1048576 % 32 = 0) (m25 : M / 33554432 % 4 = 0) (m27 : M / 134217728 % 32 = 0) (I : Nat) (hI : I < 4096) (rd rs1 : Nat) (b_rd : rd < 32) (b_rs1 : rs1 < 32) : (((M ^^^ (I * 1048576)) ^^^ (rd * 128)) ^^^ (rs1 * 32768)) = (((M + I * 1048576) + rd * 128) + rs1 * 32768) := by
  rw [xorD (A := M) (b := I) 20 12 (K := 1048576) (N := 4096) rfl rfl (by omega) hI]
  rw [xorD (A := (M + I * 1048576)) (b := rd) 7 5 (K := 128) (N := 32) rfl rfl (by omega) b_rd]
  rw [xorD (A := ((M + I * 1048576) + rd * 128)) (b := rs1) 15 5 (K := 32768) (N := 32) rfl rfl (by omega) b_rs1]
theorem btX_1 {r : Rw} {x : In} (hl : r.lay = 1) (h : hkI 1 x = x) (hc : x.csr < 256) (hM : r.mtch < 4294967296) (m7 : r.mtch / 128 % 32 = 0) (m15 : r.mtch / 32768 % 32 = 0) (m20 : r.mtch / 1048576 % 32 = 0) (m25 : r.mtch / 33554432 % 4 = 0) (m27 : r.mtch / 134217728 % 32 = 0) : r.mtch ^^^ btX 1 x = encW r x := by
  obtain ⟨e1, e2, e3, e4, e5, e6, e7⟩ := hk_eqs h
  obtain ⟨k1, k2, k3, k4, k5, k6, k7⟩ := hk_le h
  simp at e1 e3 e4 e5 e6 e7
  have hi := imN_lt k6 k7
  unfold btX imX encW fsW
  rw [hl]
  have z := xch1 r.mtch hM m7 m15 m20 m25 m27 (imN x.imm) hi x.rd x.rs1 k1 k2
  simp only [← e5, ← e3, ← e4, ← e7, imN_0, Nat.zero_mul, Nat.zero_add, Nat.xor_zero, Nat.zero_xor, if_true, if_false, ← Nat.xor_assoc, reduceIte, Nat.reduceEqDiff, Nat.reduceEqDiff] at z ⊢
  rw [z]
  omega
theorem xch2 (M : Nat) (hM : M < 4294967296) (m7 : M / 128 % 32 = 0) (m15 : M / 32768 % 32 = 0) (m20 : M / 1048576 % 32 = 0) (m25 : M / 33554432 % 4 = 0) (m27 : M / 134217728 % 32 = 0) (I : Nat) (hI : I < 4096) (rs1 rs2 : Nat) (b_rs1 : rs1 < 32) (b_rs2 : rs2 < 32) : ((((M ^^^ (I / 32 * 33554432)) ^^^ (I % 32 * 128)) ^^^ (rs1 * 32768)) ^^^ (rs2 * 1048576)) = ((((M + I / 32 * 33554432) + I % 32 * 128) + rs1 * 32768) + rs2 * 1048576) := by
  rw [xorD (A := M) (b := I / 32) 25 7 (K := 33554432) (N := 128) rfl rfl (by omega) (by omega)]
  rw [xorD (A := (M + I / 32 * 33554432)) (b := I % 32) 7 5 (K := 128) (N := 32) rfl rfl (by omega) (by omega)]
  rw [xorD (A := ((M + I / 32 * 33554432) + I % 32 * 128)) (b := rs1) 15 5 (K := 32768) (N := 32) rfl rfl (by omega) b_rs1]
  have hM2 : M < 32768 := by omega
  have hq : (((M + I / 32 * 33554432) + I % 32 * 128) + rs1 * 32768) / 1048576 = 32 * (I / 32) := by omega
  have hq2 : (((M + I / 32 * 33554432) + I % 32 * 128) + rs1 * 32768) / 1048576 % 32 = 0 := by rw [hq]; omega
  rw [xorD (A := (((M + I / 32 * 33554432) + I % 32 * 128) + rs1 * 32768)) (b := rs2) 20 5 (K := 1048576) (N := 32) rfl rfl hq2 b_rs2]
theorem btX_2 {r : Rw} {x : In} (hl : r.lay = 2) (h : hkI 2 x = x) (hc : x.csr < 256) (hM : r.mtch < 4294967296) (m7 : r.mtch / 128 % 32 = 0) (m15 : r.mtch / 32768 % 32 = 0) (m20 : r.mtch / 1048576 % 32 = 0) (m25 : r.mtch / 33554432 % 4 = 0) (m27 : r.mtch / 134217728 % 32 = 0) : r.mtch ^^^ btX 2 x = encW r x := by
  obtain ⟨e1, e2, e3, e4, e5, e6, e7⟩ := hk_eqs h
  obtain ⟨k1, k2, k3, k4, k5, k6, k7⟩ := hk_le h
  simp at e1 e3 e4 e5 e6 e7
  have hi := imN_lt k6 k7
  unfold btX imX encW fsW
  rw [hl]
  have z := xch2 r.mtch hM m7 m15 m20 m25 m27 (imN x.imm) hi x.rs1 x.rs2 k2 k3
  simp only [← e1, ← e5, ← e4, ← e7, imN_0, Nat.zero_mul, Nat.zero_add, Nat.xor_zero, Nat.zero_xor, if_true, if_false, ← Nat.xor_assoc, reduceIte, Nat.reduceEqDiff, Nat.reduceEqDiff] at z ⊢
  rw [z]
  omega
theorem xch3 (M : Nat) (hM : M < 4294967296) (m7 : M / 128 % 32 = 0) (m12 : M / 4096 % 8 = 0) (m15 : M / 32768 % 32 = 0) (m20 : M / 1048576 % 32 = 0) (m27 : M / 134217728 % 32 = 0) (rd rm rs1 rs2 rs3 : Nat) (b_rd : rd < 32) (b_rm : rm < 8) (b_rs1 : rs1 < 32) (b_rs2 : rs2 < 32) (b_rs3 : rs3 < 32) : (((((M ^^^ (rd * 128)) ^^^ (rm * 4096)) ^^^ (rs1 * 32768)) ^^^ (rs2 * 1048576)) ^^^ (rs3 * 134217728)) = (((((M + rd * 128) + rm * 4096) + rs1 * 32768) + rs2 * 1048576) + rs3 * 134217728) := by
  rw [xorD (A := M) (b := rd) 7 5 (K := 128) (N := 32) rfl rfl (by omega) b_rd]
  rw [xorD (A := (M + rd * 128)) (b := rm) 12 3 (K := 4096) (N := 8) rfl rfl (by omega) b_rm]
  rw [xorD (A := ((M + rd * 128) + rm * 4096)) (b := rs1) 15 5 (K := 32768) (N := 32) rfl rfl (by omega) b_rs1]
  rw [xorD (A := (((M + rd * 128) + rm * 4096) + rs1 * 32768)) (b := rs2) 20 5 (K := 1048576) (N := 32) rfl rfl (by omega) b_rs2]
  rw [xorD (A := ((((M + rd * 128) + rm * 4096) + rs1 * 32768) + rs2 * 1048576)) (b := rs3) 27 5 (K := 134217728) (N := 32) rfl rfl (by omega) b_rs3]
theorem btX_3 {r : Rw} {x : In} (hl : r.lay = 3) (h : hkI 3 x = x) (hc : x.csr < 256) (hM : r.mtch < 4294967296) (m7 : r.mtch / 128 % 32 = 0) (m12 : r.mtch / 4096 % 8 = 0) (m15 : r.mtch / 32768 % 32 = 0) (m20 : r.mtch / 1048576 % 32 = 0) (m27 : r.mtch / 134217728 % 32 = 0) : r.mtch ^^^ btX 3 x = encW r x := by
  obtain ⟨e1, e2, e3, e4, e5, e6, e7⟩ := hk_eqs h
  obtain ⟨k1, k2, k3, k4, k5, k6, k7⟩ := hk_le h
  simp at e1 e3 e4 e5 e6 e7
  unfold btX imX encW fsW
  rw [hl]
  have z := xch3 r.mtch hM m7 m12 m15 m20 m27 x.rd x.rm x.rs1 x.rs2 x.rs3 k1 k5 k2 k3 k4
  simp only [← e6, ← e7, imN_0, Nat.zero_mul, Nat.zero_add, Nat.xor_zero, Nat.zero_xor, if_true, if_false, ← Nat.xor_assoc, reduceIte, Nat.reduceEqDiff, Nat.reduceEqDiff] at z ⊢
  rw [z]
  omega
theorem xch4 (M : Nat) (hM : M < 4294967296) (m7 : M / 128 % 32 = 0) (m12 : M / 4096 % 8 = 0) (m15 : M / 32768 % 32 = 0) (m20 : M / 1048576 % 32 = 0) (rd rm rs1 rs2 : Nat) (b_rd : rd < 32) (b_rm : rm < 8) (b_rs1 : rs1 < 32) (b_rs2 : rs2 < 32) : ((((M ^^^ (rd * 128)) ^^^ (rm * 4096)) ^^^ (rs1 * 32768)) ^^^ (rs2 * 1048576)) = ((((M + rd * 128) + rm * 4096) + rs1 * 32768) + rs2 * 1048576) := by
  rw [xorD (A := M) (b := rd) 7 5 (K := 128) (N := 32) rfl rfl (by omega) b_rd]
  rw [xorD (A := (M + rd * 128)) (b := rm) 12 3 (K := 4096) (N := 8) rfl rfl (by omega) b_rm]
  rw [xorD (A := ((M + rd * 128) + rm * 4096)) (b := rs1) 15 5 (K := 32768) (N := 32) rfl rfl (by omega) b_rs1]
  rw [xorD (A := (((M + rd * 128) + rm * 4096) + rs1 * 32768)) (b := rs2) 20 5 (K := 1048576) (N := 32) rfl rfl (by omega) b_rs2]
theorem btX_4 {r : Rw} {x : In} (hl : r.lay = 4) (h : hkI 4 x = x) (hc : x.csr < 256) (hM : r.mtch < 4294967296) (m7 : r.mtch / 128 % 32 = 0) (m12 : r.mtch / 4096 % 8 = 0) (m15 : r.mtch / 32768 % 32 = 0) (m20 : r.mtch / 1048576 % 32 = 0) : r.mtch ^^^ btX 4 x = encW r x := by
  obtain ⟨e1, e2, e3, e4, e5, e6, e7⟩ := hk_eqs h
  obtain ⟨k1, k2, k3, k4, k5, k6, k7⟩ := hk_le h
  simp at e1 e3 e4 e5 e6 e7
  unfold btX imX encW fsW
  rw [hl]
  have z := xch4 r.mtch hM m7 m12 m15 m20 x.rd x.rm x.rs1 x.rs2 k1 k5 k2 k3
  simp only [← e6, ← e4, ← e7, imN_0, Nat.zero_mul, Nat.zero_add, Nat.xor_zero, Nat.zero_xor, if_true, if_false, ← Nat.xor_assoc, reduceIte, Nat.reduceEqDiff, Nat.reduceEqDiff] at z ⊢
  rw [z]
  omega
theorem xch5 (M : Nat) (hM : M < 4294967296) (m7 : M / 128 % 32 = 0) (m15 : M / 32768 % 32 = 0) (m20 : M / 1048576 % 32 = 0) (rd rs1 rs2 : Nat) (b_rd : rd < 32) (b_rs1 : rs1 < 32) (b_rs2 : rs2 < 32) : (((M ^^^ (rd * 128)) ^^^ (rs1 * 32768)) ^^^ (rs2 * 1048576)) = (((M + rd * 128) + rs1 * 32768) + rs2 * 1048576) := by
  rw [xorD (A := M) (b := rd) 7 5 (K := 128) (N := 32) rfl rfl (by omega) b_rd]
  rw [xorD (A := (M + rd * 128)) (b := rs1) 15 5 (K := 32768) (N := 32) rfl rfl (by omega) b_rs1]
  rw [xorD (A := ((M + rd * 128) + rs1 * 32768)) (b := rs2) 20 5 (K := 1048576) (N := 32) rfl rfl (by omega) b_rs2]
theorem btX_5 {r : Rw} {x : In} (hl : r.lay = 5) (h : hkI 5 x = x) (hc : x.csr < 256) (hM : r.mtch < 4294967296) (m7 : r.mtch / 128 % 32 = 0) (m15 : r.mtch / 32768 % 32 = 0) (m20 : r.mtch / 1048576 % 32 = 0) : r.mtch ^^^ btX 5 x = encW r x := by
  obtain ⟨e1, e2, e3, e4, e5, e6, e7⟩ := hk_eqs h
  obtain ⟨k1, k2, k3, k4, k5, k6, k7⟩ := hk_le h
  simp at e1 e3 e4 e5 e6 e7
  unfold btX imX encW fsW
  rw [hl]
  have z := xch5 r.mtch hM m7 m15 m20 x.rd x.rs1 x.rs2 k1 k2 k3
  simp only [← e6, ← e5, ← e4, ← e7, imN_0, Nat.zero_mul, Nat.zero_add, Nat.xor_zero, Nat.zero_xor, if_true, if_false, ← Nat.xor_assoc, reduceIte, Nat.reduceEqDiff, Nat.reduceEqDiff] at z ⊢
  rw [z]
  omega
theorem xch6 (M : Nat) (hM : M < 4294967296) (m7 : M / 128 % 32 = 0) (m12 : M / 4096 % 8 = 0) (m15 : M / 32768 % 32 = 0) (rd rm rs1 : Nat) (b_rd : rd < 32) (b_rm : rm < 8) (b_rs1 : rs1 < 32) : (((M ^^^ (rd * 128)) ^^^ (rm * 4096)) ^^^ (rs1 * 32768)) = (((M + rd * 128) + rm * 4096) + rs1 * 32768) := by
  rw [xorD (A := M) (b := rd) 7 5 (K := 128) (N := 32) rfl rfl (by omega) b_rd]
  rw [xorD (A := (M + rd * 128)) (b := rm) 12 3 (K := 4096) (N := 8) rfl rfl (by omega) b_rm]
  rw [xorD (A := ((M + rd * 128) + rm * 4096)) (b := rs1) 15 5 (K := 32768) (N := 32) rfl rfl (by omega) b_rs1]
theorem btX_6 {r : Rw} {x : In} (hl : r.lay = 6) (h : hkI 6 x = x) (hc : x.csr < 256) (hM : r.mtch < 4294967296) (m7 : r.mtch / 128 % 32 = 0) (m12 : r.mtch / 4096 % 8 = 0) (m15 : r.mtch / 32768 % 32 = 0) : r.mtch ^^^ btX 6 x = encW r x := by
  obtain ⟨e1, e2, e3, e4, e5, e6, e7⟩ := hk_eqs h
  obtain ⟨k1, k2, k3, k4, k5, k6, k7⟩ := hk_le h
  simp at e1 e3 e4 e5 e6 e7
  unfold btX imX encW fsW
  rw [hl]
  have z := xch6 r.mtch hM m7 m12 m15 x.rd x.rm x.rs1 k1 k5 k2
  simp only [← e6, ← e3, ← e4, ← e7, imN_0, Nat.zero_mul, Nat.zero_add, Nat.xor_zero, Nat.zero_xor, if_true, if_false, ← Nat.xor_assoc, reduceIte, Nat.reduceEqDiff, Nat.reduceEqDiff] at z ⊢
  rw [z]
  omega
theorem xch7 (M : Nat) (hM : M < 4294967296) (m7 : M / 128 % 32 = 0) (m15 : M / 32768 % 32 = 0) (rd rs1 : Nat) (b_rd : rd < 32) (b_rs1 : rs1 < 32) : ((M ^^^ (rd * 128)) ^^^ (rs1 * 32768)) = ((M + rd * 128) + rs1 * 32768) := by
  rw [xorD (A := M) (b := rd) 7 5 (K := 128) (N := 32) rfl rfl (by omega) b_rd]
  rw [xorD (A := (M + rd * 128)) (b := rs1) 15 5 (K := 32768) (N := 32) rfl rfl (by omega) b_rs1]
theorem btX_7 {r : Rw} {x : In} (hl : r.lay = 7) (h : hkI 7 x = x) (hc : x.csr < 256) (hM : r.mtch < 4294967296) (m7 : r.mtch / 128 % 32 = 0) (m15 : r.mtch / 32768 % 32 = 0) : r.mtch ^^^ btX 7 x = encW r x := by
  obtain ⟨e1, e2, e3, e4, e5, e6, e7⟩ := hk_eqs h
  obtain ⟨k1, k2, k3, k4, k5, k6, k7⟩ := hk_le h
  simp at e1 e3 e4 e5 e6 e7
  unfold btX imX encW fsW
  rw [hl]
  have z := xch7 r.mtch hM m7 m15 x.rd x.rs1 k1 k2
  simp only [← e6, ← e5, ← e3, ← e4, ← e7, imN_0, Nat.zero_mul, Nat.zero_add, Nat.xor_zero, Nat.zero_xor, if_true, if_false, ← Nat.xor_assoc, reduceIte, Nat.reduceEqDiff, Nat.reduceEqDiff] at z ⊢
  rw [z]
  omega
theorem xch8 (M : Nat) (hM : M < 4294967296) (m7 : M / 128 % 32 = 0) (m15 : M / 32768 % 32 = 0) (m20 : M / 1048576 % 32 = 0) (m25 : M / 33554432 % 4 = 0) (m27 : M / 134217728 % 32 = 0) (rd rs1 csr : Nat) (b_rd : rd < 32) (b_rs1 : rs1 < 32) (b_csr : csr < 256) : (((M ^^^ (rd * 128)) ^^^ (rs1 * 32768)) ^^^ (csr * 1048576)) = (((M + rd * 128) + rs1 * 32768) + csr * 1048576) := by
  rw [xorD (A := M) (b := rd) 7 5 (K := 128) (N := 32) rfl rfl (by omega) b_rd]
  rw [xorD (A := (M + rd * 128)) (b := rs1) 15 5 (K := 32768) (N := 32) rfl rfl (by omega) b_rs1]
  rw [xorD (A := ((M + rd * 128) + rs1 * 32768)) (b := csr) 20 8 (K := 1048576) (N := 256) rfl rfl (by omega) b_csr]
theorem btX_8 {r : Rw} {x : In} (hl : r.lay = 8) (h : hkI 8 x = x) (hc : x.csr < 256) (hM : r.mtch < 4294967296) (m7 : r.mtch / 128 % 32 = 0) (m15 : r.mtch / 32768 % 32 = 0) (m20 : r.mtch / 1048576 % 32 = 0) (m25 : r.mtch / 33554432 % 4 = 0) (m27 : r.mtch / 134217728 % 32 = 0) : r.mtch ^^^ btX 8 x = encW r x := by
  obtain ⟨e1, e2, e3, e4, e5, e6, e7⟩ := hk_eqs h
  obtain ⟨k1, k2, k3, k4, k5, k6, k7⟩ := hk_le h
  simp at e1 e3 e4 e5 e6 e7
  unfold btX imX encW fsW
  rw [hl]
  have z := xch8 r.mtch hM m7 m15 m20 m25 m27 x.rd x.rs1 x.csr k1 k2 hc
  simp only [← e6, ← e5, ← e3, ← e4, imN_0, Nat.zero_mul, Nat.zero_add, Nat.xor_zero, Nat.zero_xor, if_true, if_false, ← Nat.xor_assoc, reduceIte, Nat.reduceEqDiff, Nat.reduceEqDiff] at z ⊢
  rw [z]
  omega
theorem xch9 (M : Nat) (hM : M < 4294967296) (m7 : M / 128 % 32 = 0) (m15 : M / 32768 % 32 = 0) (m20 : M / 1048576 % 32 = 0) (m25 : M / 33554432 % 4 = 0) (m27 : M / 134217728 % 32 = 0) (rd rs1 csr : Nat) (b_rd : rd < 32) (b_rs1 : rs1 < 32) (b_csr : csr < 256) : (((M ^^^ (rd * 128)) ^^^ (rs1 * 32768)) ^^^ (csr * 1048576)) = (((M + rd * 128) + rs1 * 32768) + csr * 1048576) := by
  rw [xorD (A := M) (b := rd) 7 5 (K := 128) (N := 32) rfl rfl (by omega) b_rd]
  rw [xorD (A := (M + rd * 128)) (b := rs1) 15 5 (K := 32768) (N := 32) rfl rfl (by omega) b_rs1]
  rw [xorD (A := ((M + rd * 128) + rs1 * 32768)) (b := csr) 20 8 (K := 1048576) (N := 256) rfl rfl (by omega) b_csr]
theorem btX_9 {r : Rw} {x : In} (hl : r.lay = 9) (h : hkI 9 x = x) (hc : x.csr < 256) (hM : r.mtch < 4294967296) (m7 : r.mtch / 128 % 32 = 0) (m15 : r.mtch / 32768 % 32 = 0) (m20 : r.mtch / 1048576 % 32 = 0) (m25 : r.mtch / 33554432 % 4 = 0) (m27 : r.mtch / 134217728 % 32 = 0) : r.mtch ^^^ btX 9 x = encW r x := by
  obtain ⟨e1, e2, e3, e4, e5, e6, e7⟩ := hk_eqs h
  obtain ⟨k1, k2, k3, k4, k5, k6, k7⟩ := hk_le h
  simp at e1 e3 e4 e5 e6 e7
  unfold btX imX encW fsW
  rw [hl]
  have z := xch9 r.mtch hM m7 m15 m20 m25 m27 x.rd x.rs1 x.csr k1 k2 hc
  simp only [← e6, ← e5, ← e3, ← e4, imN_0, Nat.zero_mul, Nat.zero_add, Nat.xor_zero, Nat.zero_xor, if_true, if_false, ← Nat.xor_assoc, reduceIte, Nat.reduceEqDiff, Nat.reduceEqDiff] at z ⊢
  rw [z]
  omega
theorem may_held {p : Nm} {x : In} (hof : ofR24 x.op x.form x.frm x.kind = some p) (h : mayI x = true) : hkI p.1.lay x = x := by
  unfold mayI at h
  rw [hof] at h
  simp only [Bool.and_eq_true] at h
  obtain ⟨hb, hf⟩ := h
  obtain ⟨hp, e1, e2, e3, e4⟩ := of_some hof
  unfold bndI at hb
  obtain ⟨a1, a2, a3, a4, a5, a6, a7, a8, a9, a10⟩ := of_decide_eq_true hb
  obtain ⟨l1, l9, _⟩ := lay24 hp
  have hs := sgI_in x.imm a8 a9
  obtain ⟨r, nn⟩ := p
  simp only at *
  clear hof hb hp
  obtain ⟨op, form, frm, kind, rd, rs1, rs2, rs3, rm, imm, csr⟩ := x
  simp only at *
  rcases (by omega : r.lay = 1 ∨ r.lay = 2 ∨ r.lay = 3 ∨ r.lay = 4 ∨ r.lay = 5 ∨ r.lay = 6 ∨ r.lay = 7 ∨ r.lay = 8 ∨ r.lay = 9) with hl | hl | hl | hl | hl | hl | hl | hl | hl
  all_goals
    unfold hkI
    simp [hl, fitI, hsL] at hf ⊢
    try simp [hs]
    omega
theorem held_enc {p : Nm} {x : In} (hx : x.csr < 256) (hof : ofR24 x.op x.form x.frm x.kind = some p) (hh : hkI p.1.lay x = x) : p.1.mtch ^^^ btX p.1.lay x = encW p.1 x ∧ encW p.1 x < 4294967296 ∧ fitsL p.1 (encW p.1 x) = mayI x := by
  obtain ⟨hp, e1, e2, e3, e4⟩ := of_some hof
  have hm := of_decide_eq_true (List.all_eq_true.1 maskIs p hp)
  obtain ⟨l1, l9, _⟩ := lay24 hp
  have yes : mayI x = true → fitsL p.1 (encW p.1 x) = true := fun h => by
    obtain ⟨q, hq, hmem, hlt, hf, _⟩ := enc_dec h
    rw [hof] at hq
    obtain rfl := Option.some.inj hq
    exact (fd_mem hf).2
  obtain ⟨k1, k2, k3, k4, k5, k6, k7⟩ := hk_le hh
  obtain ⟨q1, q2, q3, q4, q5, q6, q7⟩ := hk_eqs hh
  have hi := imN_lt k6 k7
  have key : p.1.mtch ^^^ btX p.1.lay x = encW p.1 x ∧ encW p.1 x < 4294967296 ∧ (mayI x = false → fitsL p.1 (encW p.1 x) = false) := by
    have hmay : mayI x = (bndI x && fitI (hsL p.1.lay) x) := by unfold mayI; rw [hof]
    clear yes
    obtain ⟨r, nn⟩ := p
    simp only at *
    rcases (by omega : r.lay = 1 ∨ r.lay = 2 ∨ r.lay = 3 ∨ r.lay = 4 ∨ r.lay = 5 ∨ r.lay = 6 ∨ r.lay = 7 ∨ r.lay = 8 ∨ r.lay = 9) with hl | hl | hl | hl | hl | hl | hl | hl | hl
    · rw [hl] at hh hm
      have mt := List.all_eq_true.1 mt1 (r, nn) hp
      simp [hl] at mt
      have E := btX_1 (r := r) hl hh hx hm.2 (by omega) (by omega) (by omega) (by omega) (by omega)
      rw [hl]
      have hW : encW r x < 4294967296 := by unfold encW fsW; rw [hl]; simp; omega
      refine ⟨E, hW, fun hn => ?_⟩
      rw [hmay] at hn
      simp [hl] at q1 q3 q4 q5 q6 q7
      exfalso
      simp [bndI, fitI, hsL, hl] at hn
      omega
    · rw [hl] at hh hm
      have mt := List.all_eq_true.1 mt2 (r, nn) hp
      simp [hl] at mt
      have E := btX_2 (r := r) hl hh hx hm.2 (by omega) (by omega) (by omega) (by omega) (by omega)
      rw [hl]
      have hW : encW r x < 4294967296 := by unfold encW fsW; rw [hl]; simp; omega
      refine ⟨E, hW, fun hn => ?_⟩
      rw [hmay] at hn
      simp [hl] at q1 q3 q4 q5 q6 q7
      exfalso
      simp [bndI, fitI, hsL, hl] at hn
      omega
    · rw [hl] at hh hm
      have mt := List.all_eq_true.1 mt3 (r, nn) hp
      simp [hl] at mt
      have E := btX_3 (r := r) hl hh hx hm.2 (by omega) (by omega) (by omega) (by omega) (by omega)
      rw [hl]
      have hW : encW r x < 4294967296 := by unfold encW fsW; rw [hl]; simp; omega
      refine ⟨E, hW, fun hn => ?_⟩
      rw [hmay] at hn
      simp [hl] at q1 q3 q4 q5 q6 q7
      have hrm : encW r x / 4096 % 8 = x.rm := by unfold encW fsW; rw [hl]; simp; omega
      have h56 : x.rm = 5 ∨ x.rm = 6 := by
        simp [bndI, fitI, hsL, hl] at hn
        omega
      unfold fitsL
      rw [hl, hrm]
      simp [h56]
    · rw [hl] at hh hm
      have mt := List.all_eq_true.1 mt4 (r, nn) hp
      simp [hl] at mt
      have E := btX_4 (r := r) hl hh hx hm.2 (by omega) (by omega) (by omega) (by omega)
      rw [hl]
      have hW : encW r x < 4294967296 := by unfold encW fsW; rw [hl]; simp; omega
      refine ⟨E, hW, fun hn => ?_⟩
      rw [hmay] at hn
      simp [hl] at q1 q3 q4 q5 q6 q7
      have hrm : encW r x / 4096 % 8 = x.rm := by unfold encW fsW; rw [hl]; simp; omega
      have h56 : x.rm = 5 ∨ x.rm = 6 := by
        simp [bndI, fitI, hsL, hl] at hn
        omega
      unfold fitsL
      rw [hl, hrm]
      simp [h56]
    · rw [hl] at hh hm
      have mt := List.all_eq_true.1 mt5 (r, nn) hp
      simp [hl] at mt
      have E := btX_5 (r := r) hl hh hx hm.2 (by omega) (by omega) (by omega)
      rw [hl]
      have hW : encW r x < 4294967296 := by unfold encW fsW; rw [hl]; simp; omega
      refine ⟨E, hW, fun hn => ?_⟩
      rw [hmay] at hn
      simp [hl] at q1 q3 q4 q5 q6 q7
      exfalso
      simp [bndI, fitI, hsL, hl] at hn
      omega
    · rw [hl] at hh hm
      have mt := List.all_eq_true.1 mt6 (r, nn) hp
      simp [hl] at mt
      have E := btX_6 (r := r) hl hh hx hm.2 (by omega) (by omega) (by omega)
      rw [hl]
      have hW : encW r x < 4294967296 := by unfold encW fsW; rw [hl]; simp; omega
      refine ⟨E, hW, fun hn => ?_⟩
      rw [hmay] at hn
      simp [hl] at q1 q3 q4 q5 q6 q7
      have hrm : encW r x / 4096 % 8 = x.rm := by unfold encW fsW; rw [hl]; simp; omega
      have h56 : x.rm = 5 ∨ x.rm = 6 := by
        simp [bndI, fitI, hsL, hl] at hn
        omega
      unfold fitsL
      rw [hl, hrm]
      simp [h56]
    · rw [hl] at hh hm
      have mt := List.all_eq_true.1 mt7 (r, nn) hp
      simp [hl] at mt
      have E := btX_7 (r := r) hl hh hx hm.2 (by omega) (by omega)
      rw [hl]
      have hW : encW r x < 4294967296 := by unfold encW fsW; rw [hl]; simp; omega
      refine ⟨E, hW, fun hn => ?_⟩
      rw [hmay] at hn
      simp [hl] at q1 q3 q4 q5 q6 q7
      exfalso
      simp [bndI, fitI, hsL, hl] at hn
      omega
    · rw [hl] at hh hm
      have mt := List.all_eq_true.1 mt8 (r, nn) hp
      simp [hl] at mt
      have E := btX_8 (r := r) hl hh hx hm.2 (by omega) (by omega) (by omega) (by omega) (by omega)
      rw [hl]
      have hW : encW r x < 4294967296 := by unfold encW fsW; rw [hl]; simp; omega
      refine ⟨E, hW, fun hn => ?_⟩
      rw [hmay] at hn
      simp [hl] at q1 q3 q4 q5 q6 q7
      have hcs : encW r x / 1048576 = x.csr := by unfold encW fsW; rw [hl]; simp; omega
      have h13 : ¬ (1 ≤ x.csr ∧ x.csr ≤ 3) := by
        simp [bndI, fitI, hsL, hl] at hn
        omega
      unfold fitsL
      rw [hl, hcs, decide_eq_false h13]
      simp
    · rw [hl] at hh hm
      have mt := List.all_eq_true.1 mt9 (r, nn) hp
      simp [hl] at mt
      have E := btX_9 (r := r) hl hh hx hm.2 (by omega) (by omega) (by omega) (by omega) (by omega)
      rw [hl]
      have hW : encW r x < 4294967296 := by unfold encW fsW; rw [hl]; simp; omega
      refine ⟨E, hW, fun hn => ?_⟩
      rw [hmay] at hn
      simp [hl] at q1 q3 q4 q5 q6 q7
      have hcs : encW r x / 1048576 = x.csr := by unfold encW fsW; rw [hl]; simp; omega
      have h13 : ¬ (1 ≤ x.csr ∧ x.csr ≤ 3) := by
        simp [bndI, fitI, hsL, hl] at hn
        omega
      unfold fitsL
      rw [hl, hcs, decide_eq_false h13]
      simp
  refine ⟨key.1, key.2.1, ?_⟩
  cases h : mayI x with
  | true => exact yes h
  | false => exact key.2.2 h
end Go.Proofs.YtaoccmopfflkmaaDoor
