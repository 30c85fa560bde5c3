/-
  What the function Mul of the document's answer for layer 5 returns.
-/
import Derived.Test.YtknkkagapcigfaaGreatDoorGx
namespace Go.Proofs.YtknkkagapcigfaaGreatDoor
open Go.RowKit WMath

theorem nl_mul (a b : Nat) (ha : a ≠ 0) (hb : b ≠ 0) : nl a + nl b ≤ nl (a * b) + 1 := by
  have h1 := nl_le a ha
  have h2 := nl_le b hb
  have h3 := nl_lt (a * b)
  have h4 := Nat.mul_le_mul h1 h2
  rw [← Nat.pow_add] at h4
  have h5 : 2 ^ (8 * (nl a - 1) + 8 * (nl b - 1)) < 2 ^ (8 * nl (a * b)) := Nat.lt_of_le_of_lt h4 h3
  have h6 := (Nat.pow_lt_pow_iff_right (by decide : 1 < 2)).1 h5
  omega
theorem mul_lt8 (a b L M : Nat) (ha : a < 2 ^ (8 * L)) (hb : b < 2 ^ (8 * M)) : a * b < 2 ^ (8 * (L + M)) := by
  rw [Nat.mul_add, Nat.pow_add]
  exact Nat.mul_lt_mul_of_lt_of_le ha (Nat.le_of_lt hb) (Nat.two_pow_pos _)

theorem nl_mul_le (a b : Nat) : nl (a * b) ≤ nl a + nl b := nl_le_of _ _ (mul_lt8 a b _ _ (nl_lt a) (nl_lt b))
theorem nl_add_le (a b L : Nat) (ha : nl a ≤ L) (hb : nl b ≤ L) : nl (a + b) ≤ L + 1 := nl_le_of _ _ (by
  have h1 := Nat.lt_of_lt_of_le (nl_lt a) (pow8_le _ _ ha)
  have h2 := Nat.lt_of_lt_of_le (nl_lt b) (pow8_le _ _ hb)
  rw [pow8]
  omega)
theorem lg_ok (n : Nat) (v : ByteArray) (h : nl n ≤ 16384) (hv : nbA n = v) : lg n = (v, 0) := by unfold lg; rw [if_pos h, hv]

theorem set8_step (X p c t y z g : Nat) (ht : c + d8 X p + y = t) (hz : t % 256 = z) (hg : t / 256 = g) : set8 X p z + 2 ^ (8 * (p + 1)) * g = X + 2 ^ (8 * p) * (c + y) := by
  have h1 := set8_add X p z
  have h2 : z + 256 * g = c + d8 X p + y := by rw [ht, ← hz, ← hg]; omega
  have h3 := congrArg (fun u => 2 ^ (8 * p) * u) h2
  simp only [Nat.mul_add] at h3
  rw [pow8, Nat.mul_assoc, Nat.mul_add]
  omega
theorem mul_round (X V x b i k c y t z g : Nat) (hy : d8 b k = y) (hE : X + 2 ^ (8 * (i + k)) * c = V + 2 ^ (8 * i) * (x * (b % 2 ^ (8 * k)))) (ht : c + d8 X (i + k) + x * y = t) (hz : t % 256 = z) (hg : t / 256 = g) :
    set8 X (i + k) z + 2 ^ (8 * (i + (k + 1))) * g = V + 2 ^ (8 * i) * (x * (b % 2 ^ (8 * (k + 1)))) := by
  have h := set8_step X (i + k) c t (x * y) z g ht hz hg
  rw [show i + k + 1 = i + (k + 1) by omega] at h
  have e : 2 ^ (8 * i) * (x * (b % 2 ^ (8 * (k + 1)))) = 2 ^ (8 * i) * (x * (b % 2 ^ (8 * k))) + 2 ^ (8 * (i + k)) * (x * y) := by
    rw [mod_d8, hy, Nat.mul_add x, Nat.mul_add (2 ^ (8 * i)), Nat.mul_add 8 i k, Nat.pow_add, Nat.mul_left_comm x, Nat.mul_assoc (2 ^ (8 * i))]
  rw [h, e, Nat.mul_add]
  omega
theorem mul_row (a b V i x : Nat) (hx : d8 a i = x) (hV : V = (a % 2 ^ (8 * i)) * b) : V + 2 ^ (8 * i) * (x * b) = (a % 2 ^ (8 * (i + 1))) * b := by
  rw [hV, mod_d8, hx, Nat.add_mul, Nat.mul_assoc]
theorem mul_le_of (a b i : Nat) : (a % 2 ^ (8 * i)) * b ≤ a * b := Nat.mul_le_mul_right _ (Nat.mod_le _ _)

set_option maxHeartbeats 2000000 in
set_option maxRecDepth 100000 in
theorem nat_mul_short (a b : Nat) (s t v : ByteArray) (e : Int) (hs : nbA a = s) (ht : nbA b = t) (hr : lg (a * b) = (v, e)) (hab : nl a + nl b ≤ 16385) (w : World) :
    Calls Tryz.prog 26 #[.string s, .string t] w fun r w' => r = .returned (.tuple #[.string v, .int .i64 e]) ∧ Below w.heap.size w w' := by
  obtain ⟨L, hL⟩ : ∃ L, nl a = L := ⟨_, rfl⟩
  obtain ⟨M, hM⟩ : ∃ M, nl b = M := ⟨_, rfl⟩
  have hz : s.size = L := by rw [← hs, nbA_size, hL]
  have hy : t.size = M := by rw [← ht, nbA_size, hM]
  have la := nl_lt a
  have lb := nl_lt b
  rw [hL] at la hab
  rw [hM] at lb hab
  obtain ⟨N, hN⟩ : ∃ N, L + M + 1 = N := ⟨_, rfl⟩
  obtain ⟨u, hu⟩ : ∃ u, nbA (a * b) = u := ⟨_, rfl⟩
  have LAB : Box (a * b < 2 ^ (8 * (L + M))) := box (mul_lt8 a b L M la lb)
  have LA := box la
  have LB := box lb
  have HU := box hu
  have HS := box hs
  have HT := box ht
  have HR := box hr
  have NA : Box (nl a ≤ 100000) := box (by omega)
  have NB : Box (nl b ≤ 100000) := box (by omega)
  have hmk := c8_makeI N ((L : Int) + (M : Int) + 1) (by omega) (by omega)
  have n0 : IntKind.i64.wrap ((L : Int) + (M : Int)) = (L : Int) + (M : Int) := wrap_i64_is _ (by omega) (by omega)
  have d0 : decide ((16385 : Int) < (L : Int) + (M : Int)) = false := by rw [decide_eq_false_iff_not]; omega
  clear hs ht hr hL hM hu la lb
  go_enter Tryz.func26, Tryz.ntmps26
  go_wp2
  clear hmk d0
  go_loopw [7] (fun iv wr => ∃ i X : Nat, i ≤ L ∧ iv = .int .i64 i ∧ wr.heap[w.heap.size]? = some (.cells (c8 N X) 5) ∧ Below w.heap.size w wr ∧ Box (X = (a % 2 ^ (8 * i)) * b)) (fun iv _ => L - (intOf iv).toNat)
  case atStart => exact ⟨0, 0, by omega, rfl, heap_alloc_last _ _, (Below.refl _ _).alloc (Nat.le_refl _) _, box (by rw [Nat.mul_zero, Nat.pow_zero, Nat.mod_one, Nat.zero_mul])⟩
  case round =>
    obtain ⟨i, V, hi, rfl, r0, hbw, HE⟩ := hrel
    by_cases hlt : i < L
    · obtain ⟨x, hx⟩ : ∃ x, d8 a i = x := ⟨_, rfl⟩
      have x256 : x < 256 := by rw [← hx]; exact d8_lt _ _
      have HX := box hx
      have dl : decide (i < L) = true := decide_eq_true hlt
      have ROW := box (mul_row a b V i x hx HE.out)
      have TB : Box (V + 2 ^ (8 * i) * (x * b) < 2 ^ (8 * (L + M))) := box (by rw [ROW.out]; exact Nat.lt_of_le_of_lt (mul_le_of a b (i + 1)) LAB.out)
      clear hx
      go_wp2_with fail
      refine (nat_at a i x s HS.out HX.out NA.out _).mono ?_
      rintro r w' ⟨rfl, hw'⟩
      rw [← hw'] at r0 hbw
      clear hw'
      go_wp2
      go_loopw [8, 10] (fun cv kv wr => ∃ c k X : Nat, c < 256 ∧ k ≤ M ∧ cv = .int .i64 c ∧ kv = .int .i64 k ∧ wr.heap[w.heap.size]? = some (.cells (c8 N X) 5) ∧ Below w.heap.size w wr ∧ Box (X + 2 ^ (8 * (i + k)) * c = V + 2 ^ (8 * i) * (x * (b % 2 ^ (8 * k))))) (fun _ kv _ => M - (intOf kv).toNat)
      case atStart => exact ⟨0, 0, V, by omega, by omega, rfl, rfl, r0, hbw, box (by simp [Nat.mod_one])⟩
      case round =>
        clear r0 hbw
        obtain ⟨c, k, X, hc, hk, rfl, rfl, r0, hbw, HK⟩ := hrel
        by_cases hlk : k < M
        · obtain ⟨y, hy2⟩ : ∃ y, d8 b k = y := ⟨_, rfl⟩
          have y256 : y < 256 := by rw [← hy2]; exact d8_lt _ _
          obtain ⟨p, hp⟩ : ∃ p, i + k = p := ⟨_, rfl⟩
          obtain ⟨d, hd⟩ : ∃ d, d8 X p = d := ⟨_, rfl⟩
          have d256 : d < 256 := by rw [← hd]; exact d8_lt _ _
          obtain ⟨m, hm⟩ : ∃ m, x * y = m := ⟨_, rfl⟩
          have m2 : m ≤ 65025 := by
            rw [← hm]
            have : x * y ≤ 255 * 255 := Nat.mul_le_mul (by omega) (by omega)
            omega
          obtain ⟨q, hq⟩ : ∃ q, c + d + m = q := ⟨_, rfl⟩
          obtain ⟨z, hz2⟩ : ∃ z, q % 256 = z := ⟨_, rfl⟩
          obtain ⟨g, hg⟩ : ∃ g, q / 256 = g := ⟨_, rfl⟩
          have z256 : z < 256 := by omega
          have g256 : g < 256 := by omega
          have NE := mul_round X V x b i k c y q z g hy2 HK.out (by rw [hp, hd, hm]; exact hq) hz2 hg
          rw [hp] at NE
          have NX := box NE
          have p1 : (i : Int) + (k : Int) = (p : Int) := by omega
          have pN : p < N := by omega
          have n1 : IntKind.i64.wrap (p : Int) = (p : Int) := wrap_i64_is _ (by omega) (by omega)
          have n2 : (x : Int) * (y : Int) = (m : Int) := by rw [← hm]; exact (Int.natCast_mul x y).symm
          have n3 : IntKind.i64.wrap (m : Int) = (m : Int) := wrap_i64_is _ (by omega) (by omega)
          have n4 : IntKind.i64.wrap ((c : Int) + (d : Int)) = (c : Int) + (d : Int) := wrap_i64_is _ (by omega) (by omega)
          have n5 : IntKind.i64.wrap ((c : Int) + (d : Int) + (m : Int)) = (q : Int) := by rw [wrap_i64_is _ (by omega) (by omega)]; omega
          have n6 := wrap_u8_is q z hz2
          have n7 : (q : Int) / 256 = (g : Int) := by omega
          have n8 : IntKind.i64.wrap (d : Int) = (d : Int) := wrap_i64_is _ (by omega) (by omega)
          have HY := box hy2
          have dlk : decide (k < M) = true := decide_eq_true hlk
          obtain ⟨F, hF1, hF2⟩ := below_fun wr
          have G0 : ∀ u, (F u).heap[w.heap.size]? = some (.cells (c8 N X) 5) := fun u => heap_of (hF1 u) _ _ _ r0
          have f0 : ∀ u, (F u).cell? ⟨w.heap.size, p, none⟩ = some (.int .u8 (d : Nat)) := fun u => by have := c8_cell (G0 u) pN; rw [hd] at this; exact this
          have pNi : (p : Int) < (N : Int) := by omega
          clear hy2 hp hd hm hq hz2 hg NE
          go_wp2
          refine wp_region_below F hF2 (by kernel_rfl) (by kernel_rfl) ?_
          repeat quiet_step ((go_at_call 45; exact quietF0 (nat_at b k y t HT.out HY.out NB.out _)))
          refine wpQuiet_nil ?_
          rintro _ ⟨u, rfl⟩
          have fz0 := fz (k := p) (G0 u)
          have RS : Box (((F u).setCell ⟨w.heap.size, p, none⟩ (.int .u8 (z : Int))).heap[w.heap.size]? = some (.cells (c8 N (set8 X p z)) 5)) := box (by rw [setCell_row (G0 u), c8_seti N X p z _ pN z256 rfl])
          have BF : Below w.heap.size w (F u) := hbw.trans ((hF1 u).mono hbw.size)
          go_wp2
          go_roundw
          case rel => exact ⟨g, k + 1, _, g256, by omega, by first | rfl | go_num, by go_num, RS.out, BF.setCell (Nat.le_refl _) _, NX⟩
          case measure => simp [intOf] <;> omega
        · obtain rfl : k = M := by omega
          have dlk : decide (k < k) = false := by rw [decide_eq_false_iff_not]; omega
          have HK2 : Box (X + 2 ^ (8 * (i + k)) * c = V + 2 ^ (8 * i) * (x * b)) := box (by have := HK.out; rw [Nat.mod_eq_of_lt LB.out] at this; exact this)
          clear HK
          obtain ⟨p, hp⟩ : ∃ p, i + k = p := ⟨_, rfl⟩
          have p1 : (i : Int) + (k : Int) = (p : Int) := by omega
          rw [hp] at HK2
          go_wp2
          go_loopw [8, 11] (fun cv pv wr => ∃ c p X : Nat, c < 256 ∧ p ≤ N ∧ cv = .int .i64 c ∧ pv = .int .i64 p ∧ wr.heap[w.heap.size]? = some (.cells (c8 N X) 5) ∧ Below w.heap.size w wr ∧ Box (X + 2 ^ (8 * p) * c = V + 2 ^ (8 * i) * (x * b))) (fun _ pv _ => N - (intOf pv).toNat)
          case atStart => exact ⟨c, p, X, hc, by omega, rfl, by first | rfl | go_num, r0, hbw, HK2⟩
          case round =>
            clear r0 hbw HK2 hc
            obtain ⟨c, p, X, hc, hpN, rfl, rfl, r0, hbw, HP⟩ := hrel
            by_cases hc0 : 0 < c
            · have dc : decide (0 < c) = true := decide_eq_true hc0
              have pN : p < N := by
                have h1 := HP.out
                have h2 := TB.out
                have h3 : 2 ^ (8 * p) * 1 ≤ 2 ^ (8 * p) * c := Nat.mul_le_mul_left _ (by omega)
                have h4 : 2 ^ (8 * p) < 2 ^ (8 * (L + k)) := by omega
                have h5 := (Nat.pow_lt_pow_iff_right (by decide : 1 < 2)).1 h4
                omega
              obtain ⟨d, hd⟩ : ∃ d, d8 X p = d := ⟨_, rfl⟩
              have d256 : d < 256 := by rw [← hd]; exact d8_lt _ _
              obtain ⟨q, hq⟩ : ∃ q, c + d = q := ⟨_, rfl⟩
              obtain ⟨z, hz2⟩ : ∃ z, q % 256 = z := ⟨_, rfl⟩
              obtain ⟨g, hg⟩ : ∃ g, q / 256 = g := ⟨_, rfl⟩
              have z256 : z < 256 := by omega
              have g256 : g < 256 := by omega
              have NE := set8_step X p c q 0 z g (by rw [hd]; exact hq) hz2 hg
              rw [show c + 0 = c from rfl, HP.out] at NE
              have NX := box NE
              have n1 : IntKind.i64.wrap (d : Int) = (d : Int) := wrap_i64_is _ (by omega) (by omega)
              have n5 : IntKind.i64.wrap ((c : Int) + (d : Int)) = (q : Int) := by rw [wrap_i64_is _ (by omega) (by omega)]; omega
              have n6 := wrap_u8_is q z hz2
              have n7 : (q : Int) / 256 = (g : Int) := by omega
              have c1 := c8_cell r0 pN
              rw [hd] at c1
              have f0 := fz (k := p) r0
              have RS : Box ((wr.setCell ⟨w.heap.size, p, none⟩ (.int .u8 (z : Int))).heap[w.heap.size]? = some (.cells (c8 N (set8 X p z)) 5)) := box (by rw [setCell_row r0, c8_seti N X p z _ pN z256 rfl])
              clear hd hq hz2 hg NE
              go_wp2
              go_roundw
              case rel => exact ⟨g, p + 1, _, g256, by omega, by first | rfl | go_num, by go_num, RS.out, hbw.setCell (Nat.le_refl _) _, NX⟩
              case measure => simp [intOf] <;> omega
            · obtain rfl : c = 0 := by omega
              have e2 : Box (X = (a % 2 ^ (8 * (i + 1))) * b) := box (by have := HP.out; rw [Nat.mul_zero, Nat.add_zero, ROW.out] at this; exact this)
              go_wp2
              go_roundw
              case rel => exact ⟨i + 1, X, by omega, by go_num, r0, hbw, e2⟩
              case measure => simp [intOf] <;> omega
    · obtain rfl : i = L := by omega
      have dl : decide (i < i) = false := by rw [decide_eq_false_iff_not]; omega
      have e2 := HE.out
      rw [Nat.mod_eq_of_lt LA.out] at e2
      subst e2
      have FX : Box (a * b < 2 ^ (8 * N)) := box (Nat.lt_of_lt_of_le LAB.out (pow8_le _ _ (by omega)))
      go_wp2_with fail
      refine (nat_fit N (a * b) w.heap.size N u (by omega) FX.out HU.out _ r0).mono ?_
      rintro r w2 ⟨rfl, hb2⟩
      go_wp2_with fail
      refine (nat_long (a * b) u v e HU.out HR.out _).mono ?_
      rintro r w' ⟨rfl, rfl⟩
      go_wp2
      go_ret2
      exact ⟨rfl, hbw.trans (hb2.mono hbw.size)⟩

theorem nat_Mul (a b : Nat) (s t v : ByteArray) (e : Int) (hs : nbA a = s) (ht : nbA b = t) (hr : lg (a * b) = (v, e)) (ha : nl a ≤ 20000) (hb : nl b ≤ 20000) (w : World) :
    Calls Tryz.prog 26 #[.string s, .string t] w fun r w' => r = .returned (.tuple #[.string v, .int .i64 e]) ∧ Below w.heap.size w w' := by
  by_cases hab : nl a + nl b ≤ 16385
  · exact nat_mul_short a b s t v e hs ht hr hab w
  · obtain ⟨L, hL⟩ : ∃ L, nl a = L := ⟨_, rfl⟩
    obtain ⟨M, hM⟩ : ∃ M, nl b = M := ⟨_, rfl⟩
    have hz : s.size = L := by rw [← hs, nbA_size, hL]
    have hy : t.size = M := by rw [← ht, nbA_size, hM]
    have n0 : IntKind.i64.wrap ((L : Int) + (M : Int)) = (L : Int) + (M : Int) := wrap_i64_is _ (by omega) (by omega)
    have d0 : decide ((16385 : Int) < (L : Int) + (M : Int)) = true := by rw [decide_eq_true_iff]; omega
    have e1 := eq_empty s
    have e2 := eq_empty t
    have hcase : (decide (s.size = 0) = true ∧ v = ⟨#[]⟩ ∧ e = 0) ∨ (decide (s.size = 0) = false ∧ decide (t.size = 0) = true ∧ v = ⟨#[]⟩ ∧ e = 0) ∨ (decide (s.size = 0) = false ∧ decide (t.size = 0) = false ∧ v = ⟨#[]⟩ ∧ e = 4) := by
      have h0 : a = 0 ∨ b = 0 → v = ⟨#[]⟩ ∧ e = 0 := by
        intro h
        have : a * b = 0 := by rcases h with h | h <;> rw [h] <;> simp
        rw [this] at hr
        unfold lg at hr
        rw [nl_zero, if_pos (by omega), nbA_zero] at hr
        injection hr with h1 h2
        exact ⟨h1.symm, h2.symm⟩
      by_cases ha0 : a = 0
      · left
        exact ⟨decide_eq_true (by rw [hz, ← hL, ha0, nl_zero]), h0 (Or.inl ha0)⟩
      · have hp := nl_pos a ha0
        by_cases hb0 : b = 0
        · right; left
          exact ⟨decide_eq_false (by omega), decide_eq_true (by rw [hy, ← hM, hb0, nl_zero]), h0 (Or.inr hb0)⟩
        · right; right
          have hq := nl_pos b hb0
          have hm := nl_mul a b ha0 hb0
          unfold lg at hr
          rw [if_neg (by omega)] at hr
          injection hr with h1 h2
          exact ⟨decide_eq_false (by omega), decide_eq_false (by omega), h1.symm, h2.symm⟩
    clear hr hab hs ht hL hM
    rcases hcase with ⟨h1, rfl, rfl⟩ | ⟨h1, h2, rfl, rfl⟩ | ⟨h1, h2, rfl, rfl⟩
    all_goals
      rw [h1] at e1
      try (rw [h2] at e2)
      clear h1
      go_enter Tryz.func26, Tryz.ntmps26
      go_wp2
      go_ret2
      exact ⟨rfl, Below.refl _ _⟩
end Go.Proofs.YtknkkagapcigfaaGreatDoor
