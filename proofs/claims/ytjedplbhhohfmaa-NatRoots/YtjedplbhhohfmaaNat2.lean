/-
  What the functions add, sub, double, bit, Of and OfWide of the document's answer for layer 5 return.
-/
import Derived.Test.YtjedplbhhohfmaaNat1
namespace Go.Proofs.Ytjedplbhhohfmaa
open Go.RowKit WMath

theorem carry_step (S P t : Nat) : S + P * (t % 256) + P * 256 * (t / 256) = S + P * t := by
  have h := Nat.div_add_mod t 256
  have : P * t = P * (256 * (t / 256) + t % 256) := by rw [h]
  rw [this, Nat.mul_add, Nat.mul_assoc]
  omega

theorem nadd_step (a b S i c t : Nat) (hE : S + 2 ^ (8 * i) * c = a % 2 ^ (8 * i) + b % 2 ^ (8 * i)) (ht : c + d8 a i + d8 b i = t) :
    S + 2 ^ (8 * i) * (t % 256) + 2 ^ (8 * (i + 1)) * (t / 256) = a % 2 ^ (8 * (i + 1)) + b % 2 ^ (8 * (i + 1)) := by
  rw [pow8, carry_step, ← pow8, mod_d8, mod_d8, ← ht, Nat.mul_add, Nat.mul_add]
  omega
theorem nadd_end (a b S i c : Nat) (ha : a < 2 ^ (8 * i)) (hb : b < 2 ^ (8 * i)) (hab : a + b < 2 ^ (8 * i)) (hE : S + 2 ^ (8 * i) * c = a % 2 ^ (8 * i) + b % 2 ^ (8 * i)) : S = a + b := by
  rw [Nat.mod_eq_of_lt ha, Nat.mod_eq_of_lt hb] at hE
  by_cases h : c = 0
  · rw [h] at hE; omega
  · have : 2 ^ (8 * i) * 1 ≤ 2 ^ (8 * i) * c := Nat.mul_le_mul_left _ (by omega)
    omega
theorem pow8_le (i j : Nat) (h : i ≤ j) : 2 ^ (8 * i) ≤ 2 ^ (8 * j) := Nat.pow_le_pow_right (by decide) (by omega)
theorem wrap_u8_is (t x : Nat) (h : t % 256 = x) : IntKind.u8.wrap (t : Int) = (x : Int) := by
  rw [← h, IntKind.wrap_u8]; omega

set_option maxHeartbeats 1000000 in
theorem nat_add (a b : Nat) (s t v : ByteArray) (hs : nbA a = s) (ht : nbA b = t) (hv : nbA (a + b) = v) (ha : nl a ≤ 20000) (hb : nl b ≤ 20000) (w : World) :
    Calls Try.prog 35 #[.string s, .string t] w fun e w' => e = .returned (.string v) ∧ Below w.heap.size w w' := by
  obtain ⟨L, hL⟩ : ∃ L, nl a = L := ⟨_, rfl⟩
  obtain ⟨M, hM⟩ : ∃ M, nl b = M := ⟨_, rfl⟩
  obtain ⟨n, hn⟩ : ∃ n, max L M = n := ⟨_, rfl⟩
  obtain ⟨N, hN⟩ : ∃ N, n + 1 = N := ⟨_, rfl⟩
  have hz : s.size = L := by rw [← hs, nbA_size, hL]
  have hy : t.size = M := by rw [← ht, nbA_size, hM]
  have la := nl_lt a
  have lb := nl_lt b
  rw [hL] at la ha
  rw [hM] at lb hb
  have LA : Box (a < 2 ^ (8 * N)) := box (Nat.lt_of_lt_of_le la (pow8_le _ _ (by omega)))
  have LB : Box (b < 2 ^ (8 * N)) := box (Nat.lt_of_lt_of_le lb (pow8_le _ _ (by omega)))
  have LAB : Box (a + b < 2 ^ (8 * N)) := box (by
    have h1 : a < 2 ^ (8 * n) := Nat.lt_of_lt_of_le la (pow8_le _ _ (by omega))
    have h2 : b < 2 ^ (8 * n) := Nat.lt_of_lt_of_le lb (pow8_le _ _ (by omega))
    rw [← hN, pow8]
    omega)
  have HS := box hs
  have HT := box ht
  have HV := box hv
  have HL := box hL
  have HM := box hM
  have n2 : n ≤ 20000 := by omega
  have hmk := c8_makeI N ((n : Int) + 1) (by omega) (by omega)
  have hcase : (decide (L < M) = true ∧ M = n) ∨ (decide (L < M) = false ∧ L = n) := by
    by_cases h : L < M
    · left; exact ⟨decide_eq_true h, by omega⟩
    · right; exact ⟨decide_eq_false h, by omega⟩
  clear hs ht hv hL hM la lb hn
  rcases hcase with ⟨h1, hn⟩ | ⟨h1, hn⟩
  all_goals
    subst hn
    go_enter Try.func35, Try.ntmps35
    go_wp2
    clear hmk h1
    go_loopw [7, 8] (fun cv iv wr => ∃ (i c S : Nat), i ≤ N ∧ c < 2 ∧ cv = .int .i64 c ∧ iv = .int .i64 i ∧ wr.heap[w.heap.size]? = some (.cells (c8 N S) 5) ∧ Below w.heap.size w wr ∧ Box (S < 2 ^ (8 * i) ∧ S + 2 ^ (8 * i) * c = a % 2 ^ (8 * i) + b % 2 ^ (8 * i))) (fun _ iv _ => N - (intOf iv).toNat)
    case atStart => exact ⟨0, 0, 0, by omega, by omega, rfl, rfl, heap_alloc_last _ _, (Below.refl _ _).alloc (Nat.le_refl _) _, box ⟨by decide, by simp [Nat.mod_one]⟩⟩
    case round =>
      obtain ⟨i, c, S, hi, hc, rfl, rfl, r0, hbw, HE⟩ := hrel
      by_cases hlt : i < N
      · obtain ⟨x, hx⟩ : ∃ x, d8 a i = x := ⟨_, rfl⟩
        obtain ⟨y, hy2⟩ : ∃ y, d8 b i = y := ⟨_, rfl⟩
        have x256 : x < 256 := by rw [← hx]; exact d8_lt a i
        have y256 : y < 256 := by rw [← hy2]; exact d8_lt b i
        obtain ⟨q, hq⟩ : ∃ q, c + x + y = q := ⟨_, rfl⟩
        obtain ⟨z, hz2⟩ : ∃ z, q % 256 = z := ⟨_, rfl⟩
        obtain ⟨g, hg⟩ : ∃ g, q / 256 = g := ⟨_, rfl⟩
        have NE := nadd_step a b S i c q HE.out.2 (by rw [hx, hy2]; exact hq)
        rw [hz2, hg] at NE
        have z256 : z < 256 := by omega
        have NX : Box (S + 2 ^ (8 * i) * z < 2 ^ (8 * (i + 1)) ∧ S + 2 ^ (8 * i) * z + 2 ^ (8 * (i + 1)) * g = a % 2 ^ (8 * (i + 1)) + b % 2 ^ (8 * (i + 1))) := box ⟨push8_lt S i z HE.out.1 z256, NE⟩
        have g2 : g < 2 := by omega
        have n1 : IntKind.i64.wrap ((c : Int) + (x : Int)) = (c : Int) + (x : Int) := wrap_i64_is _ (by omega) (by omega)
        have n3 : IntKind.i64.wrap ((c : Int) + (x : Int) + (y : Int)) = (q : Int) := by rw [wrap_i64_is _ (by omega) (by omega)]; omega
        have n4 := wrap_u8_is q z hz2
        have n5 : (q : Int) / 256 = (g : Int) := by omega
        have c1 := c8_cell r0 hlt
        have f0 := fz (k := i) r0
        have RS : Box ((wr.setCell ⟨w.heap.size, i, none⟩ (.int .u8 (z : Int))).heap[w.heap.size]? = some (.cells (c8 N (S + 2 ^ (8 * i) * z)) 5)) := box (by rw [setCell_row r0, c8_push N S i z _ hlt HE.out.1 z256 rfl])
        have HX := box hx
        have HY := box hy2
        have NA : Box (nl a ≤ 100000) := box (by rw [HL.out]; omega)
        have NB : Box (nl b ≤ 100000) := box (by rw [HM.out]; omega)
        try (have dl : decide (i ≤ M) = true := by rw [decide_eq_true_iff]; omega)
        try (have dl2 : decide (i ≤ L) = true := by rw [decide_eq_true_iff]; omega)
        clear hx hy2 hq hz2 hg NE
        go_wp2_with fail
        refine (nat_at a i x s HS.out HX.out NA.out _).mono ?_
        rintro e w' ⟨rfl, rfl⟩
        go_wp2_with fail
        refine (nat_at b i y t HT.out HY.out NB.out _).mono ?_
        rintro e w' ⟨rfl, rfl⟩
        go_wp2
        go_roundw
        case rel => exact ⟨i + 1, g, _, by omega, g2, by first | rfl | go_num, by go_num, RS.out, hbw.setCell (Nat.le_refl _) _, NX⟩
        case measure => simp [intOf] <;> omega
      · obtain rfl : i = N := by omega
        have e := nadd_end a b S i c LA.out LB.out LAB.out HE.out.2
        subst e
        have FX := box HE.out.1
        clear HE
        try (have dl : decide (i ≤ M) = false := by rw [decide_eq_false_iff_not]; omega)
        try (have dl2 : decide (i ≤ L) = false := by rw [decide_eq_false_iff_not]; omega)
        go_wp2_with fail
        refine (nat_fit i (a + b) w.heap.size i v (by omega) FX.out HV.out _ r0).mono ?_
        rintro e w' ⟨rfl, hb2⟩
        go_wp2
        go_ret
        exact ⟨rfl, hbw.trans (hb2.mono hbw.size)⟩

theorem nsub_step (a b S i c x y z g : Nat) (hE : S + b % 2 ^ (8 * i) = a % 2 ^ (8 * i) + 2 ^ (8 * i) * c) (hx : d8 a i = x) (hy : d8 b i = y) (hz : z + y + c = x + 256 * g) :
    S + 2 ^ (8 * i) * z + b % 2 ^ (8 * (i + 1)) = a % 2 ^ (8 * (i + 1)) + 2 ^ (8 * (i + 1)) * g := by
  rw [mod_d8, mod_d8, hx, hy, pow8, Nat.mul_assoc]
  have e := congrArg (fun t => 2 ^ (8 * i) * t) hz
  simp only [Nat.mul_add] at e
  omega
theorem nsub_end (a b S i c : Nat) (hba : b ≤ a) (ha : a < 2 ^ (8 * i)) (hS : S < 2 ^ (8 * i)) (hE : S + b % 2 ^ (8 * i) = a % 2 ^ (8 * i) + 2 ^ (8 * i) * c) : S = a - b := by
  rw [Nat.mod_eq_of_lt ha, Nat.mod_eq_of_lt (show b < 2 ^ (8 * i) by omega)] at hE
  by_cases h : c = 0
  · rw [h] at hE; omega
  · have : 2 ^ (8 * i) * 1 ≤ 2 ^ (8 * i) * c := Nat.mul_le_mul_left _ (by omega)
    omega

set_option maxHeartbeats 1000000 in
theorem nat_sub (a b : Nat) (s t v : ByteArray) (hs : nbA a = s) (ht : nbA b = t) (hv : nbA (a - b) = v) (hba : b ≤ a) (ha : nl a ≤ 20000) (w : World) :
    Calls Try.prog 36 #[.string s, .string t] w fun e w' => e = .returned (.string v) ∧ Below w.heap.size w w' := by
  obtain ⟨L, hL⟩ : ∃ L, nl a = L := ⟨_, rfl⟩
  have hz : s.size = L := by rw [← hs, nbA_size, hL]
  have la := nl_lt a
  have hb := nl_mono b a hba
  rw [hL] at la ha hb
  have LA := box la
  have HBA := box hba
  have HS := box hs
  have HT := box ht
  have HV := box hv
  have NA : Box (nl a ≤ 100000) := box (by omega)
  have NB : Box (nl b ≤ 100000) := box (by omega)
  have hmk := c8_make L (by omega)
  clear hs ht hv hL la hba hb
  go_enter Try.func36, Try.ntmps36
  go_wp2
  clear hmk
  go_loopw [6, 7] (fun cv iv wr => ∃ (i c S : Nat), i ≤ L ∧ c < 2 ∧ cv = .int .i64 c ∧ iv = .int .i64 i ∧ wr.heap[w.heap.size]? = some (.cells (c8 L S) 5) ∧ Below w.heap.size w wr ∧ Box (S < 2 ^ (8 * i) ∧ S + b % 2 ^ (8 * i) = a % 2 ^ (8 * i) + 2 ^ (8 * i) * c)) (fun _ iv _ => L - (intOf iv).toNat)
  case atStart => exact ⟨0, 0, 0, by omega, by omega, rfl, rfl, heap_alloc_last _ _, (Below.refl _ _).alloc (Nat.le_refl _) _, box ⟨by decide, by simp [Nat.mod_one]⟩⟩
  case round =>
    obtain ⟨i, c, S, hi, hc, rfl, rfl, r0, hbw, HE⟩ := hrel
    by_cases hlt : i < L
    · obtain ⟨x, hx⟩ : ∃ x, d8 a i = x := ⟨_, rfl⟩
      obtain ⟨y, hy2⟩ : ∃ y, d8 b i = y := ⟨_, rfl⟩
      have x256 : x < 256 := by rw [← hx]; exact d8_lt a i
      have y256 : y < 256 := by rw [← hy2]; exact d8_lt b i
      obtain ⟨q, hq⟩ : ∃ q : Int, (x : Int) - (y : Int) - (c : Int) = q := ⟨_, rfl⟩
      obtain ⟨g, hg⟩ : ∃ g, (if x < y + c then 1 else 0) = g := ⟨_, rfl⟩
      obtain ⟨z, hz2⟩ : ∃ z, x + 256 * g - y - c = z := ⟨_, rfl⟩
      have hzz : z + y + c = x + 256 * g ∧ z < 256 ∧ g < 2 := by split at hg <;> omega
      have NE := nsub_step a b S i c x y z g HE.out.2 hx hy2 hzz.1
      have NX : Box (S + 2 ^ (8 * i) * z < 2 ^ (8 * (i + 1)) ∧ S + 2 ^ (8 * i) * z + b % 2 ^ (8 * (i + 1)) = a % 2 ^ (8 * (i + 1)) + 2 ^ (8 * (i + 1)) * g) := box ⟨push8_lt S i z HE.out.1 hzz.2.1, NE⟩
      have n1 : IntKind.i64.wrap ((x : Int) - (y : Int)) = (x : Int) - (y : Int) := wrap_i64_is _ (by omega) (by omega)
      have n3 : IntKind.i64.wrap ((x : Int) - (y : Int) - (c : Int)) = q := by rw [wrap_i64_is _ (by omega) (by omega)]; omega
      have n4 : IntKind.u8.wrap q = (z : Int) := by rw [IntKind.wrap_u8]; omega
      have c1 := c8_cell r0 hlt
      have f0 := fz (k := i) r0
      have z256 := hzz.2.1
      have RS : Box ((wr.setCell ⟨w.heap.size, i, none⟩ (.int .u8 (z : Int))).heap[w.heap.size]? = some (.cells (c8 L (S + 2 ^ (8 * i) * z)) 5)) := box (by rw [setCell_row r0, c8_push L S i z _ hlt HE.out.1 z256 rfl])
      have HX := box hx
      have HY := box hy2
      have dl : decide (i < L) = true := decide_eq_true hlt
      have hcase : (decide (q < 0) = true ∧ g = 1) ∨ (decide (q < 0) = false ∧ g = 0) := by
        rw [decide_eq_true_iff, decide_eq_false_iff_not]
        split at hg <;> omega
      clear hx hy2 hq hz2 hg NE hzz
      rcases hcase with ⟨dq, rfl⟩ | ⟨dq, rfl⟩
      all_goals
        go_wp2_with fail
        refine (nat_at a i x s HS.out HX.out NA.out _).mono ?_
        rintro e w' ⟨rfl, rfl⟩
        go_wp2_with fail
        refine (nat_at b i y t HT.out HY.out NB.out _).mono ?_
        rintro e w' ⟨rfl, rfl⟩
        go_wp2
        go_roundw
        case rel => exact ⟨i + 1, _, _, by omega, (by first | exact (by decide : 1 < 2) | exact (by decide : 0 < 2)), by first | rfl | go_num, by go_num, RS.out, hbw.setCell (Nat.le_refl _) _, NX⟩
        case measure => simp [intOf] <;> omega
    · obtain rfl : i = L := by omega
      have e := nsub_end a b S i c HBA.out LA.out HE.out.1 HE.out.2
      subst e
      have FX := box HE.out.1
      clear HE
      have dl : decide (i < i) = false := by rw [decide_eq_false_iff_not]; omega
      go_wp2_with fail
      refine (nat_fit i (a - b) w.heap.size i v (by omega) FX.out HV.out _ r0).mono ?_
      rintro e w' ⟨rfl, hb2⟩
      go_wp2
      go_ret
      exact ⟨rfl, hbw.trans (hb2.mono hbw.size)⟩

theorem ndbl_step (a o S i c t : Nat) (hE : S + 2 ^ (8 * i) * c = 2 * (a % 2 ^ (8 * i)) + o) (ht : c + 2 * d8 a i = t) :
    S + 2 ^ (8 * i) * (t % 256) + 2 ^ (8 * (i + 1)) * (t / 256) = 2 * (a % 2 ^ (8 * (i + 1))) + o := by
  rw [pow8, carry_step, ← pow8, mod_d8, ← ht, Nat.mul_add, Nat.mul_add 2, Nat.mul_left_comm]
  omega

set_option maxHeartbeats 1000000 in
theorem nat_double (a o : Nat) (s v : ByteArray) (hs : nbA a = s) (ho : o < 2) (hv : nbA (2 * a + o) = v) (ha : nl a ≤ 20000) (w : World) :
    Calls Try.prog 44 #[.string s, .int .i64 (o : Nat)] w fun e w' => e = .returned (.string v) ∧ Below w.heap.size w w' := by
  obtain ⟨L, hL⟩ : ∃ L, nl a = L := ⟨_, rfl⟩
  obtain ⟨N, hN⟩ : ∃ N, L + 1 = N := ⟨_, rfl⟩
  have hz : s.size = L := by rw [← hs, nbA_size, hL]
  have la := nl_lt a
  rw [hL] at la ha
  have LA : Box (a < 2 ^ (8 * N)) := box (Nat.lt_of_lt_of_le la (pow8_le _ _ (by omega)))
  have LAB : Box (2 * a + o < 2 ^ (8 * N)) := box (by rw [← hN, pow8]; omega)
  have HS := box hs
  have HV := box hv
  have NA : Box (nl a ≤ 100000) := box (by omega)
  have hmk := c8_makeI N ((L : Int) + 1) (by omega) (by omega)
  clear hs hv hL la
  go_enter Try.func44, Try.ntmps44
  go_wp2
  clear hmk
  go_loopw [6, 7] (fun cv iv wr => ∃ (i c S : Nat), i ≤ N ∧ c < 2 ∧ cv = .int .i64 c ∧ iv = .int .i64 i ∧ wr.heap[w.heap.size]? = some (.cells (c8 N S) 5) ∧ Below w.heap.size w wr ∧ Box (S < 2 ^ (8 * i) ∧ S + 2 ^ (8 * i) * c = 2 * (a % 2 ^ (8 * i)) + o)) (fun _ iv _ => N - (intOf iv).toNat)
  case atStart => exact ⟨0, o, 0, by omega, ho, rfl, rfl, heap_alloc_last _ _, (Below.refl _ _).alloc (Nat.le_refl _) _, box ⟨by decide, by simp [Nat.mod_one]⟩⟩
  case round =>
    obtain ⟨i, c, S, hi, hc, rfl, rfl, r0, hbw, HE⟩ := hrel
    by_cases hlt : i < N
    · obtain ⟨x, hx⟩ : ∃ x, d8 a i = x := ⟨_, rfl⟩
      have x256 : x < 256 := by rw [← hx]; exact d8_lt a i
      obtain ⟨q, hq⟩ : ∃ q, c + 2 * x = q := ⟨_, rfl⟩
      obtain ⟨z, hz2⟩ : ∃ z, q % 256 = z := ⟨_, rfl⟩
      obtain ⟨g, hg⟩ : ∃ g, q / 256 = g := ⟨_, rfl⟩
      have NE := ndbl_step a o S i c q HE.out.2 (by rw [hx]; exact hq)
      rw [hz2, hg] at NE
      have z256 : z < 256 := by omega
      have NX : Box (S + 2 ^ (8 * i) * z < 2 ^ (8 * (i + 1)) ∧ S + 2 ^ (8 * i) * z + 2 ^ (8 * (i + 1)) * g = 2 * (a % 2 ^ (8 * (i + 1))) + o) := box ⟨push8_lt S i z HE.out.1 z256, NE⟩
      have g2 : g < 2 := by omega
      have n1 : IntKind.i64.wrap (2 * (x : Int)) = 2 * (x : Int) := wrap_i64_is _ (by omega) (by omega)
      have n3 : IntKind.i64.wrap ((c : Int) + 2 * (x : Int)) = (q : Int) := by rw [wrap_i64_is _ (by omega) (by omega)]; omega
      have n4 := wrap_u8_is q z hz2
      have n5 : (q : Int) / 256 = (g : Int) := by omega
      have c1 := c8_cell r0 hlt
      have f0 := fz (k := i) r0
      have RS : Box ((wr.setCell ⟨w.heap.size, i, none⟩ (.int .u8 (z : Int))).heap[w.heap.size]? = some (.cells (c8 N (S + 2 ^ (8 * i) * z)) 5)) := box (by rw [setCell_row r0, c8_push N S i z _ hlt HE.out.1 z256 rfl])
      have HX := box hx
      have dl : decide (i ≤ L) = true := by rw [decide_eq_true_iff]; omega
      clear hx hq hz2 hg NE
      go_wp2_with fail
      refine (nat_at a i x s HS.out HX.out NA.out _).mono ?_
      rintro e w' ⟨rfl, rfl⟩
      go_wp2
      go_roundw
      case rel => exact ⟨i + 1, g, _, by omega, g2, by first | rfl | go_num, by go_num, RS.out, hbw.setCell (Nat.le_refl _) _, NX⟩
      case measure => simp [intOf] <;> omega
    · obtain rfl : i = N := by omega
      have e : S = 2 * a + o := by
        have h := HE.out.2
        rw [Nat.mod_eq_of_lt LA.out] at h
        have h2 := LAB.out
        by_cases hc0 : c = 0
        · rw [hc0] at h; omega
        · have : 2 ^ (8 * i) * 1 ≤ 2 ^ (8 * i) * c := Nat.mul_le_mul_left _ (by omega)
          omega
      subst e
      have FX := box HE.out.1
      clear HE
      have dl : decide (i ≤ L) = false := by rw [decide_eq_false_iff_not]; omega
      go_wp2_with fail
      refine (nat_fit i (2 * a + o) w.heap.size i v (by omega) FX.out HV.out _ r0).mono ?_
      rintro e w' ⟨rfl, hb2⟩
      go_wp2
      go_ret
      exact ⟨rfl, hbw.trans (hb2.mono hbw.size)⟩

theorem nat_bit (a i : Nat) (s : ByteArray) (o : Nat) (hs : nbA a = s) (ho : (a.testBit i).toNat = o) (ha : nl a ≤ 100000) (hi : i ≤ 10000000) (w : World) :
    Calls Try.prog 45 #[.string s, .int .i64 (i : Nat)] w fun e w' => e = .returned (.int .i64 (o : Nat)) ∧ w' = w := by
  obtain ⟨q, hq⟩ : ∃ q, q = i / 8 := ⟨_, rfl⟩
  obtain ⟨r, hr⟩ : ∃ r, r = i % 8 := ⟨_, rfl⟩
  have q1 : (i : Int) / 8 = (q : Int) := by omega
  have r1 : (i : Int) % 8 = (r : Int) := by omega
  have r8 : r < 8 := by omega
  obtain ⟨x, hx⟩ : ∃ x, d8 a q = x := ⟨_, rfl⟩
  have x256 : x < 256 := by rw [← hx]; exact d8_lt a q
  have e : x / 2 ^ r % 2 = o := by rw [← ho, ← hx, hq, hr, bit_of_d8, testBit_toNat]
  have hb : bits .and .i64 ((x : Int) / 2 ^ r) 1 = (o : Int) := by
    obtain ⟨y, hy⟩ : ∃ y, x / 2 ^ r = y := ⟨_, rfl⟩
    have e2 : (x : Int) / 2 ^ r = (y : Int) := by rw [← hy]; exact div_cast x r
    have y256 : y < 256 := by rw [← hy]; exact Nat.lt_of_le_of_lt (Nat.div_le_self _ _) x256
    rw [e2]
    show IntKind.i64.wrap ((BitVec.ofInt 64 (y : Int) &&& BitVec.ofInt 64 1).toNat : Int) = _
    have h1 : (BitVec.ofInt 64 1).toNat = 2 ^ 1 - 1 := by decide
    have h2 : (BitVec.ofInt 64 (y : Int)).toNat = y := by simp; omega
    rw [BitVec.toNat_and, h1, Nat.and_two_pow_sub_one_eq_mod, h2, wrap_i64_is _ (by omega) (by omega), ← e, hy]
  have HX := box hx
  clear hq hr hx e ho
  go_enter Try.func45, Try.ntmps45
  go_wp2_with fail
  refine (nat_at a q x s hs HX.out ha _).mono ?_
  rintro e w' ⟨rfl, rfl⟩
  go_wp2
  go_ret
  exact ⟨rfl, rfl⟩
end Go.Proofs.Ytjedplbhhohfmaa
