/-
  What the functions that the statement reaches return: part 3 (Nat1, Nat2, Nat3, Nat4, Nat5, Nat6, Nat7, Nat8, List0).
-/
import Derived.Deep.RegionWith
import Derived.Test.YtkblmpmkchkpjaaGreatDoorNe02
namespace Go.Proofs.YtkblmpmkchkpjaaGreatDoor
set_option maxRecDepth 100000
set_option maxHeartbeats 40000000
open Go.RowKit WMath
theorem fit_low (X m : Nat) (h : X < 2 ^ (8 * (m + 1))) (hd : d8 X m = 0) : X < 2 ^ (8 * m) := by
 have := mod_d8 X m
 rw [Nat.mod_eq_of_lt h, hd, Nat.mul_zero, Nat.add_zero] at this
 rw [this]
 exact Nat.mod_lt _ (Nat.two_pow_pos _)

theorem nat_fit (L X b c : Nat) (v : ByteArray) (hL : L ≤ 100000) (hX : X < 2 ^ (8 * L)) (hv : yG X = v) (w : World) (row : w.heap[b]? = some (.cells (c8 L X) 5)) :
  Calls Tryz.prog 194 #[.slice (some ⟨b, 0, none⟩) L c] w fun e w' => e = .returned (.string v) ∧ Below w.heap.size w w' := by
 have hb : b < w.heap.size := (Array.getElem?_eq_some_iff.1 row).1
 have HV := zH hv
 have HX := zH hX
 clear hv hX
 go_enter Tryz.func194, Tryz.ntmps194
 go_wp2
 go_loop [3] (fun iv => ∃ k : Nat, k ≤ L ∧ iv = .int .i64 k ∧ zS (X < 2 ^ (8 * k))) (fun iv => (intOf iv).toNat)
 case atStart => exact ⟨L, by omega, rfl, HX⟩
 case round =>
  obtain ⟨m, hm, rfl, HM⟩ := hrel
  have hmk := c8_make m (by omega)
  by_cases hst : m ≠ 0 ∧ d8 X (m - 1) = 0
  ·
   obtain ⟨k, rfl⟩ : ∃ k, m = k + 1 := ⟨m - 1, by omega⟩
   have hd : d8 X k = 0 := hst.2
   have c0 := jB row (show k < L by omega)
   rw [hd] at c0
   have NX := zH (fit_low X k HM.out hd)
   clear hst hmk
   go_wp2
   go_round
   case rel => exact ⟨k, by omega, by go_num, NX⟩
   case measure => simp [intOf] <;> omega
  ·
   have hnl : nl X = m := nl_is X m HM.out (by omega)
   have HN := zH hnl
   have hcase : decide (0 < m) = false ∨ (decide (0 < m) = true ∧ 0 < m ∧ ((d8 X (m - 1) : Int) == 0) = false) := by
    by_cases e : m = 0
    ·
     left; rw [decide_eq_false_iff_not]; omega
    ·
     right
     refine ⟨by rw [decide_eq_true_iff]; omega, by omega, ?_⟩
     simp only [beq_eq_false_iff_ne]
     omega
   clear hst hnl
   rcases hcase with h0 | ⟨h0, h1, hd⟩
   all_goals
    try (have c0 := jB row (show m - 1 < L by omega))
    go_wp2
    clear hmk h0
    try (clear hd c0)
    go_loopw [5] (fun iv wr => ∃ (i Y : Nat), i ≤ m ∧ iv = .int .i64 i ∧ wr.heap[w.heap.size]? = some (.cells (c8 m Y) 5) ∧ Below w.heap.size w wr ∧ zS (∀ j, j < m → m - 1 - i < j + 1 → (i = 0 → False) → (m - 1 - j < i) → d8 Y j = d8 X (m - 1 - j))) (fun iv _ => m - (intOf iv).toNat)
    case atStart => exact ⟨0, 0, by omega, rfl, heap_alloc_last _ _, (Below.refl _ _).alloc (Nat.le_refl _) _, zH (fun j _ _ h => absurd rfl h)⟩
    case round =>
     obtain ⟨i, Y, hi, rfl, r0, hbw, HY⟩ := hrel
     by_cases hlt : i < m
     ·
      have rb : wr.heap[b]? = some (.cells (c8 L X) 5) := by rw [hbw.block b hb]; exact row
      have c1 := jB rb (show i < L by omega)
      have c2 := jB r0 (show m - 1 - i < m by omega)
      have f0 := fz (k := m - 1 - i) r0
      have hx := qD X i
      have RS : zS ((wr.setCell ⟨w.heap.size, m - 1 - i, none⟩ (.int .u8 ((d8 X i : Nat) : Int))).heap[w.heap.size]? = some (.cells (c8 m (set8 Y (m - 1 - i) (d8 X i))) 5)) := zH (by rw [z6 r0, c8_seti m Y (m - 1 - i) _ _ (by omega) hx rfl])
      have NY : zS (∀ j, j < m → m - 1 - (i + 1) < j + 1 → (i + 1 = 0 → False) → (m - 1 - j < i + 1) → d8 (set8 Y (m - 1 - i) (d8 X i)) j = d8 X (m - 1 - j)) := zH (fun j hj _ _ hji => by
       rw [d8_set8 _ _ _ _ hx]
       by_cases e : j = m - 1 - i
       ·
        rw [if_pos e, e, show m - 1 - (m - 1 - i) = i by omega]
       ·
        rw [if_neg e]
        exact HY.out j hj (by omega) (by omega) (by omega))
      have t1 : ((m : Int) - 1 - (i : Int)).toNat = m - 1 - i := by omega
      go_wp2
      go_roundw
      case rel => exact ⟨i + 1, _, by omega, by go_num, RS.out, hbw.setCell (Nat.le_refl _) _, NY⟩
      case measure => simp [intOf] <;> omega
     ·
      obtain rfl : i = m := by omega
      have hsv := c8_str (c := i) v r0 (by rw [← HV.out, yE]; exact HN.out) (fun k hk => by
       have hz : v.size = i := by rw [← HV.out, yE]; exact HN.out
       have e := HY.out k (by omega) (by omega) (by omega) (by omega)
       rw [e]
       have hV := HV.out
       subst hV
       rw [xT, HN.out])
      go_wp2
      go_ret
      exact ⟨rfl, hbw⟩

def qB (s : ByteArray) : Bool := decide (s.size ≤ 16384) && (decide (s.size = 0) || decide (∃ h : 0 < s.size, (s[0]'h).toNat ≠ 0))

theorem toList_len (s : ByteArray) : s.toList.length = s.size := by rw [ByteArray.toList_eq, Array.length_toList]; rfl
theorem xX (s : ByteArray) : (s.toList == []) = decide (s.size = 0) := by
 rw [← toList_len]
 cases s.toList with
 | nil => rfl
 | cons x l => simp

theorem yW (s : ByteArray) (o : Bool) (ho : qB s = o) (w : World) :
  Calls Tryz.prog 42 #[.string s] w fun e w' => e = .returned (.bool o) ∧ w' = w := by
 have d2 := xX s
 by_cases h1 : s.size ≤ 16384
 ·
  have d1 : decide ((s.size : Int) ≤ 16384) = true := by rw [decide_eq_true_iff]; omega
  by_cases h2 : s.size = 0
  ·
   have e : o = true := by rw [← ho]; unfold qB; rw [decide_eq_true h1, decide_eq_true h2]; rfl
   subst e
   rw [decide_eq_true h2] at d2
   clear h1 h2 ho
   go_enter Tryz.func42, Tryz.ntmps42
   go_wp2
   go_ret
   exact ⟨rfl, rfl⟩
  ·
   rw [decide_eq_false h2] at d2
   have hp : 0 < s.size := by omega
   obtain ⟨x, hx⟩ : ∃ x, (s[0]'hp).toNat = x := ⟨_, rfl⟩
   have e : ((x : Int) != 0) = o := by
    rw [← ho]; unfold qB
    rw [decide_eq_true h1, decide_eq_false h2, Bool.true_and, Bool.false_or]
    by_cases h0 : x = 0
    ·
     rw [decide_eq_false (fun ⟨a, b⟩ => b (hx.trans h0)), h0]; rfl
    ·
     rw [decide_eq_true ⟨hp, fun c => h0 (hx.symm.trans c)⟩]
     simp; omega
   have hi := idx_run s 0 0 x rfl hp hx
   clear h1 h2 ho hx
   go_enter Tryz.func42, Tryz.ntmps42
   go_wp2
   go_ret
   exact ⟨rfl, rfl⟩
 ·
  have d1 : decide ((s.size : Int) ≤ 16384) = false := by rw [decide_eq_false_iff_not]; omega
  have e : o = false := by rw [← ho]; unfold qB; rw [decide_eq_false h1]; rfl
  subst e
  clear h1 ho d2
  go_enter Tryz.func42, Tryz.ntmps42
  go_wp2
  go_ret
  exact ⟨rfl, rfl⟩

theorem qR (n : Nat) (h : nl n ≤ 16384) : qB (yG n) = true := by
 have hz := yE n
 unfold qB
 rw [show decide ((yG n).size ≤ 16384) = true from decide_eq_true (by omega), Bool.true_and]
 by_cases h0 : (yG n).size = 0
 ·
  rw [decide_eq_true h0]; rfl
 ·
  rw [decide_eq_false h0, Bool.false_or, decide_eq_true]
  exact ⟨by omega, nbA_first n _⟩
theorem mayB_is (s : ByteArray) (h : qB s = true) : ∃ n, yG n = s ∧ nl n ≤ 16384 := by
 unfold qB at h
 rw [Bool.and_eq_true, Bool.or_eq_true, decide_eq_true_iff, decide_eq_true_iff, decide_eq_true_iff] at h
 obtain ⟨h1, h2⟩ := h
 obtain ⟨n, hn⟩ := nbA_of s (h2.imp id (fun ⟨a, b⟩ => ⟨a, fun c => b (by rw [c]; rfl)⟩))
 exact ⟨n, hn, by rw [← yE, hn]; exact h1⟩

theorem bless_pre : ∀ (x y : List UInt8), x.length = y.length → (Op.bytesLess x y = decide (bvl x < bvl y))
 | [], [], _ => by rfl
 | [], _ :: _, h => by simp at h
 | _ :: _, [], h => by simp at h
 | a :: x, b :: y, h => by
  have hl : x.length = y.length := by simpa using h
  have ih := bless_pre x y hl
  have e : ∀ (c : UInt8) (z : List UInt8), bvl (c :: z) = c.toNat * 2 ^ (8 * z.length) + bvl z := by
   intro c z
   refine rev_ind (P := fun z => bvl (c :: z) = c.toNat * 2 ^ (8 * z.length) + bvl z) ?_ (fun l d ih => ?_) z
   ·
    show 256 * 0 + c.toNat = c.toNat * 2 ^ (8 * 0) + 0
    simp
   ·
    rw [← List.cons_append, bvl_snoc, ih, bvl_snoc, List.length_append, List.length_singleton, pow8, Nat.mul_add, ← Nat.mul_assoc (c.toNat)]
    omega
  have hx := bvl_lt x
  have hy := bvl_lt y
  rw [Op.bytesLess, ih, e a x, e b y, hl]
  rw [hl] at hx
  rcases Nat.lt_trichotomy a.toNat b.toNat with h1 | h1 | h1
  ·
   have h2 : a < b := UInt8.lt_iff_toNat_lt.2 h1
   have h3 : (a.toNat + 1) * 2 ^ (8 * y.length) ≤ b.toNat * 2 ^ (8 * y.length) := Nat.mul_le_mul_right _ h1
   rw [Nat.add_mul, Nat.one_mul] at h3
   rw [decide_eq_true h2, Bool.true_or, decide_eq_true (by omega)]
  ·
   have h2 : a = b := UInt8.toNat_inj.1 h1
   subst h2
   have h3 : ¬ a < a := fun h => Nat.lt_irrefl _ (UInt8.lt_iff_toNat_lt.1 h)
   rw [decide_eq_false h3, Bool.false_or, beq_self_eq_true, Bool.true_and]
   rw [Bool.eq_iff_iff, decide_eq_true_iff, decide_eq_true_iff]
   omega
  ·
   have h2 : ¬ a < b := fun h => by have := UInt8.lt_iff_toNat_lt.1 h; omega
   have h3 : (b.toNat + 1) * 2 ^ (8 * y.length) ≤ a.toNat * 2 ^ (8 * y.length) := Nat.mul_le_mul_right _ h1
   rw [Nat.add_mul, Nat.one_mul] at h3
   have h4 : (a == b) = false := by simp only [beq_eq_false_iff_ne]; intro c; rw [c] at h1; omega
   rw [decide_eq_false h2, Bool.false_or, h4, Bool.false_and, decide_eq_false (by omega)]
theorem bvl_nbL (n : Nat) : bvl (nbL n) = n := by
 have h1 := bvl_lt (nbL n)
 rw [nbL_len] at h1
 refine d8_ext h1 (nl_lt n) (fun k hk => ?_)
 have h2 := bvl_d8 (nbL n) (nl n - 1 - k) (by rw [nbL_len]; omega)
 have hk2 : (nbL n).length - 1 - (nl n - 1 - k) = k := by rw [nbL_len]; omega
 rw [hk2] at h2
 rw [h2]
 have h3 := xT n (nl n - 1 - k) (by rw [yE]; omega)
 rw [show nl n - 1 - (nl n - 1 - k) = k by omega] at h3
 exact h3
theorem toList_nb (n : Nat) : (yG n).toList = nbL n := by rw [ByteArray.toList_eq]; rfl
theorem bless_nb (a b : Nat) (h : nl a = nl b) : Op.bytesLess (yG a).toList (yG b).toList = decide (a < b) := by
 rw [toList_nb, toList_nb, bless_pre _ _ (by rw [nbL_len, nbL_len, h]), bvl_nbL, bvl_nbL]
theorem beq_nb (a b : Nat) : ((yG a).toList == (yG b).toList) = decide (a = b) := by
 rw [toList_nb, toList_nb, Bool.eq_iff_iff, beq_iff_eq, decide_eq_true_iff]
 constructor
 ·
  intro h
  rw [← bvl_nbL a, h, bvl_nbL]
 ·
  intro h; rw [h]

theorem nat_cmp (a b : Nat) (s t : ByteArray) (c : Int) (hs : yG a = s) (ht : yG b = t) (hc : xY a b = c) (w : World) :
  Calls Tryz.prog 188 #[.string s, .string t] w fun e w' => e = .returned (.int .i64 c) ∧ w' = w := by
 obtain ⟨L, hL⟩ : ∃ L, nl a = L := ⟨_, rfl⟩
 obtain ⟨M, hM⟩ : ∃ M, nl b = M := ⟨_, rfl⟩
 have hz : s.size = L := by rw [← hs, yE, hL]
 have hy : t.size = M := by rw [← ht, yE, hM]
 by_cases h : L = M
 ·
  subst h
  have e1 := bless_nb a b (by rw [hL, hM])
  have e2 := beq_nb a b
  rw [hs, ht] at e1 e2
  have n1 : ((L : Int) != (L : Int)) = false := by simp
  unfold xY at hc
  by_cases h1 : a = b
  ·
   rw [if_pos h1] at hc
   subst hc
   rw [decide_eq_false (by omega)] at e1
   rw [decide_eq_true h1] at e2
   clear hs ht hL hM h1
   go_enter Tryz.func188, Tryz.ntmps188
   go_wp2
   go_ret
   exact ⟨rfl, rfl⟩
  ·
   rw [if_neg h1] at hc
   rw [decide_eq_false h1] at e2
   by_cases h2 : a < b
   ·
    rw [if_pos h2] at hc
    subst hc
    rw [decide_eq_true h2] at e1
    clear hs ht hL hM h1 h2
    go_enter Tryz.func188, Tryz.ntmps188
    go_wp2
    go_ret
    exact ⟨rfl, rfl⟩
   ·
    rw [if_neg h2] at hc
    subst hc
    rw [decide_eq_false h2] at e1
    clear hs ht hL hM h1 h2
    go_enter Tryz.func188, Tryz.ntmps188
    go_wp2
    go_ret
    exact ⟨rfl, rfl⟩
 ·
  have n1 : ((L : Int) != (M : Int)) = true := by simp; omega
  have n2 : ¬ a = b := fun e => h (by rw [← hL, ← hM, e])
  unfold xY at hc
  rw [if_neg n2] at hc
  by_cases h2 : L < M
  ·
   have h3 : a < b := by
    rcases Nat.lt_or_ge a b with h3 | h3
    ·
     exact h3
    ·
     have := xF b a h3; omega
   rw [if_pos h3] at hc
   subst hc
   have n3 : decide (L < M) = true := decide_eq_true h2
   clear hs ht hL hM h n2 h2 h3
   go_enter Tryz.func188, Tryz.ntmps188
   go_wp2
   go_ret
   exact ⟨rfl, rfl⟩
  ·
   have h3 : ¬ a < b := fun e => by have := xF a b (Nat.le_of_lt e); omega
   rw [if_neg h3] at hc
   subst hc
   have n3 : decide (L < M) = false := decide_eq_false h2
   clear hs ht hL hM h n2 h2 h3
   go_enter Tryz.func188, Tryz.ntmps188
   go_wp2
   go_ret
   exact ⟨rfl, rfl⟩
theorem carry_step (S P t : Nat) : S + P * (t % 256) + P * 256 * (t / 256) = S + P * t := by
 have h := Nat.div_add_mod t 256
 have : P * t = P * (256 * (t / 256) + t % 256) := by rw [h]
 rw [this, Nat.mul_add, Nat.mul_assoc]
 omega

theorem pow8_le (i j : Nat) (h : i ≤ j) : 2 ^ (8 * i) ≤ 2 ^ (8 * j) := Nat.pow_le_pow_right (by decide) (by omega)
theorem qS (t x : Nat) (h : t % 256 = x) : IntKind.u8.wrap (t : Int) = (x : Int) := by
 rw [← h, IntKind.wrap_u8]; omega

theorem nsub_step (a b S i c x y z g : Nat) (hE : S + b % 2 ^ (8 * i) = a % 2 ^ (8 * i) + 2 ^ (8 * i) * c) (hx : d8 a i = x) (hy : d8 b i = y) (hz : z + y + c = x + 256 * g) :
  S + 2 ^ (8 * i) * z + b % 2 ^ (8 * (i + 1)) = a % 2 ^ (8 * (i + 1)) + 2 ^ (8 * (i + 1)) * g := by
 rw [mod_d8, mod_d8, hx, hy, pow8, Nat.mul_assoc]
 have e := congrArg (fun t => 2 ^ (8 * i) * t) hz
 simp only [Nat.mul_add] at e
 omega
theorem nsub_end (a b S i c : Nat) (hba : b ≤ a) (ha : a < 2 ^ (8 * i)) (hS : S < 2 ^ (8 * i)) (hE : S + b % 2 ^ (8 * i) = a % 2 ^ (8 * i) + 2 ^ (8 * i) * c) : S = a - b := by
 rw [Nat.mod_eq_of_lt ha, Nat.mod_eq_of_lt (show b < 2 ^ (8 * i) by omega)] at hE
 by_cases h : c = 0
 ·
  rw [h] at hE; omega
 ·
  have : 2 ^ (8 * i) * 1 ≤ 2 ^ (8 * i) * c := Nat.mul_le_mul_left _ (by omega)
  omega

theorem nat_sub (a b : Nat) (s t v : ByteArray) (hs : yG a = s) (ht : yG b = t) (hv : yG (a - b) = v) (hba : b ≤ a) (ha : nl a ≤ 20000) (w : World) :
  Calls Tryz.prog 193 #[.string s, .string t] w fun e w' => e = .returned (.string v) ∧ Below w.heap.size w w' := by
 obtain ⟨L, hL⟩ : ∃ L, nl a = L := ⟨_, rfl⟩
 have hz : s.size = L := by rw [← hs, yE, hL]
 have la := nl_lt a
 have hb := xF b a hba
 rw [hL] at la ha hb
 have LA := zH la
 have HBA := zH hba
 have HS := zH hs
 have HT := zH ht
 have HV := zH hv
 have NA : zS (nl a ≤ 100000) := zH (by omega)
 have NB : zS (nl b ≤ 100000) := zH (by omega)
 have hmk := c8_make L (by omega)
 clear hs ht hv hL la hba hb
 go_enter Tryz.func193, Tryz.ntmps193
 go_wp2
 clear hmk
 go_loopw [6, 7] (fun cv iv wr => ∃ (i c S : Nat), i ≤ L ∧ c < 2 ∧ cv = .int .i64 c ∧ iv = .int .i64 i ∧ wr.heap[w.heap.size]? = some (.cells (c8 L S) 5) ∧ Below w.heap.size w wr ∧ zS (S < 2 ^ (8 * i) ∧ S + b % 2 ^ (8 * i) = a % 2 ^ (8 * i) + 2 ^ (8 * i) * c)) (fun _ iv _ => L - (intOf iv).toNat)
 case atStart => exact ⟨0, 0, 0, by omega, by omega, rfl, rfl, heap_alloc_last _ _, (Below.refl _ _).alloc (Nat.le_refl _) _, zH ⟨by decide, by simp [Nat.mod_one]⟩⟩
 case round =>
  obtain ⟨i, c, S, hi, hc, rfl, rfl, r0, hbw, HE⟩ := hrel
  by_cases hlt : i < L
  ·
   obtain ⟨x, hx⟩ : ∃ x, d8 a i = x := ⟨_, rfl⟩
   obtain ⟨y, hy2⟩ : ∃ y, d8 b i = y := ⟨_, rfl⟩
   have x256 : x < 256 := by rw [← hx]; exact qD a i
   have y256 : y < 256 := by rw [← hy2]; exact qD b i
   obtain ⟨q, hq⟩ : ∃ q : Int, (x : Int) - (y : Int) - (c : Int) = q := ⟨_, rfl⟩
   obtain ⟨g, hg⟩ : ∃ g, (if x < y + c then 1 else 0) = g := ⟨_, rfl⟩
   obtain ⟨z, hz2⟩ : ∃ z, x + 256 * g - y - c = z := ⟨_, rfl⟩
   have hzz : z + y + c = x + 256 * g ∧ z < 256 ∧ g < 2 := by split at hg <;> omega
   have NE := nsub_step a b S i c x y z g HE.out.2 hx hy2 hzz.1
   have NX : zS (S + 2 ^ (8 * i) * z < 2 ^ (8 * (i + 1)) ∧ S + 2 ^ (8 * i) * z + b % 2 ^ (8 * (i + 1)) = a % 2 ^ (8 * (i + 1)) + 2 ^ (8 * (i + 1)) * g) := zH ⟨push8_lt S i z HE.out.1 hzz.2.1, NE⟩
   have n1 : IntKind.i64.wrap ((x : Int) - (y : Int)) = (x : Int) - (y : Int) := zK _ (by omega) (by omega)
   have n3 : IntKind.i64.wrap ((x : Int) - (y : Int) - (c : Int)) = q := by rw [zK _ (by omega) (by omega)]; omega
   have n4 : IntKind.u8.wrap q = (z : Int) := by rw [IntKind.wrap_u8]; omega
   have c1 := jB r0 hlt
   have f0 := fz (k := i) r0
   have z256 := hzz.2.1
   have RS : zS ((wr.setCell ⟨w.heap.size, i, none⟩ (.int .u8 (z : Int))).heap[w.heap.size]? = some (.cells (c8 L (S + 2 ^ (8 * i) * z)) 5)) := zH (by rw [z6 r0, c8_push L S i z _ hlt HE.out.1 z256 rfl])
   have HX := zH hx
   have HY := zH hy2
   have dl : decide (i < L) = true := decide_eq_true hlt
   have hcase : (decide (q < 0) = true ∧ g = 1) ∨ (decide (q < 0) = false ∧ g = 0) := by
    rw [decide_eq_true_iff, decide_eq_false_iff_not]
    split at hg <;> omega
   clear hx hy2 hq hz2 hg NE hzz
   rcases hcase with ⟨dq, rfl⟩ | ⟨dq, rfl⟩
   all_goals
    go_wp2_with fail
    refine (nat_at a i x s HS.out HX.out NA.out _).mono ?_
    rintro e w' ⟨rfl, rfl⟩
    go_wp2_with fail
    refine (nat_at b i y t HT.out HY.out NB.out _).mono ?_
    rintro e w' ⟨rfl, rfl⟩
    go_wp2
    go_roundw
    case rel => exact ⟨i + 1, _, _, by omega, (by first | exact (by decide : 1 < 2) | exact (by decide : 0 < 2)), by first | rfl | go_num, by go_num, RS.out, hbw.setCell (Nat.le_refl _) _, NX⟩
    case measure => simp [intOf] <;> omega
  ·
   obtain rfl : i = L := by omega
   have e := nsub_end a b S i c HBA.out LA.out HE.out.1 HE.out.2
   subst e
   have FX := zH HE.out.1
   clear HE
   have dl : decide (i < i) = false := by rw [decide_eq_false_iff_not]; omega
   go_wp2_with fail
   refine (nat_fit i (a - b) w.heap.size i v (by omega) FX.out HV.out _ r0).mono ?_
   rintro e w' ⟨rfl, hb2⟩
   go_wp2
   go_ret
   exact ⟨rfl, hbw.trans (hb2.mono hbw.size)⟩

theorem ndbl_step (a o S i c t : Nat) (hE : S + 2 ^ (8 * i) * c = 2 * (a % 2 ^ (8 * i)) + o) (ht : c + 2 * d8 a i = t) :
  S + 2 ^ (8 * i) * (t % 256) + 2 ^ (8 * (i + 1)) * (t / 256) = 2 * (a % 2 ^ (8 * (i + 1))) + o := by
 rw [pow8, carry_step, ← pow8, mod_d8, ← ht, Nat.mul_add, Nat.mul_add 2, Nat.mul_left_comm]
 omega

theorem nat_double (a o : Nat) (s v : ByteArray) (hs : yG a = s) (ho : o < 2) (hv : yG (2 * a + o) = v) (ha : nl a ≤ 20000) (w : World) :
  Calls Tryz.prog 191 #[.string s, .int .i64 (o : Nat)] w fun e w' => e = .returned (.string v) ∧ Below w.heap.size w w' := by
 obtain ⟨L, hL⟩ : ∃ L, nl a = L := ⟨_, rfl⟩
 obtain ⟨N, hN⟩ : ∃ N, L + 1 = N := ⟨_, rfl⟩
 have hz : s.size = L := by rw [← hs, yE, hL]
 have la := nl_lt a
 rw [hL] at la ha
 have LA : zS (a < 2 ^ (8 * N)) := zH (Nat.lt_of_lt_of_le la (pow8_le _ _ (by omega)))
 have LAB : zS (2 * a + o < 2 ^ (8 * N)) := zH (by rw [← hN, pow8]; omega)
 have HS := zH hs
 have HV := zH hv
 have NA : zS (nl a ≤ 100000) := zH (by omega)
 have hmk := c8_makeI N ((L : Int) + 1) (by omega) (by omega)
 clear hs hv hL la
 go_enter Tryz.func191, Tryz.ntmps191
 go_wp2
 clear hmk
 go_loopw [6, 7] (fun cv iv wr => ∃ (i c S : Nat), i ≤ N ∧ c < 2 ∧ cv = .int .i64 c ∧ iv = .int .i64 i ∧ wr.heap[w.heap.size]? = some (.cells (c8 N S) 5) ∧ Below w.heap.size w wr ∧ zS (S < 2 ^ (8 * i) ∧ S + 2 ^ (8 * i) * c = 2 * (a % 2 ^ (8 * i)) + o)) (fun _ iv _ => N - (intOf iv).toNat)
 case atStart => exact ⟨0, o, 0, by omega, ho, rfl, rfl, heap_alloc_last _ _, (Below.refl _ _).alloc (Nat.le_refl _) _, zH ⟨by decide, by simp [Nat.mod_one]⟩⟩
 case round =>
  obtain ⟨i, c, S, hi, hc, rfl, rfl, r0, hbw, HE⟩ := hrel
  by_cases hlt : i < N
  ·
   obtain ⟨x, hx⟩ : ∃ x, d8 a i = x := ⟨_, rfl⟩
   have x256 : x < 256 := by rw [← hx]; exact qD a i
   obtain ⟨q, hq⟩ : ∃ q, c + 2 * x = q := ⟨_, rfl⟩
   obtain ⟨z, hz2⟩ : ∃ z, q % 256 = z := ⟨_, rfl⟩
   obtain ⟨g, hg⟩ : ∃ g, q / 256 = g := ⟨_, rfl⟩
   have NE := ndbl_step a o S i c q HE.out.2 (by rw [hx]; exact hq)
   rw [hz2, hg] at NE
   have z256 : z < 256 := by omega
   have NX : zS (S + 2 ^ (8 * i) * z < 2 ^ (8 * (i + 1)) ∧ S + 2 ^ (8 * i) * z + 2 ^ (8 * (i + 1)) * g = 2 * (a % 2 ^ (8 * (i + 1))) + o) := zH ⟨push8_lt S i z HE.out.1 z256, NE⟩
   have g2 : g < 2 := by omega
   have n1 : IntKind.i64.wrap (2 * (x : Int)) = 2 * (x : Int) := zK _ (by omega) (by omega)
   have n3 : IntKind.i64.wrap ((c : Int) + 2 * (x : Int)) = (q : Int) := by rw [zK _ (by omega) (by omega)]; omega
   have n4 := qS q z hz2
   have n5 : (q : Int) / 256 = (g : Int) := by omega
   have c1 := jB r0 hlt
   have f0 := fz (k := i) r0
   have RS : zS ((wr.setCell ⟨w.heap.size, i, none⟩ (.int .u8 (z : Int))).heap[w.heap.size]? = some (.cells (c8 N (S + 2 ^ (8 * i) * z)) 5)) := zH (by rw [z6 r0, c8_push N S i z _ hlt HE.out.1 z256 rfl])
   have HX := zH hx
   have dl : decide (i ≤ L) = true := by rw [decide_eq_true_iff]; omega
   clear hx hq hz2 hg NE
   go_wp2_with fail
   refine (nat_at a i x s HS.out HX.out NA.out _).mono ?_
   rintro e w' ⟨rfl, rfl⟩
   go_wp2
   go_roundw
   case rel => exact ⟨i + 1, g, _, by omega, g2, by first | rfl | go_num, by go_num, RS.out, hbw.setCell (Nat.le_refl _) _, NX⟩
   case measure => simp [intOf] <;> omega
  ·
   obtain rfl : i = N := by omega
   have e : S = 2 * a + o := by
    have h := HE.out.2
    rw [Nat.mod_eq_of_lt LA.out] at h
    have h2 := LAB.out
    by_cases hc0 : c = 0
    ·
     rw [hc0] at h; omega
    ·
     have : 2 ^ (8 * i) * 1 ≤ 2 ^ (8 * i) * c := Nat.mul_le_mul_left _ (by omega)
     omega
   subst e
   have FX := zH HE.out.1
   clear HE
   have dl : decide (i ≤ L) = false := by rw [decide_eq_false_iff_not]; omega
   go_wp2_with fail
   refine (nat_fit i (2 * a + o) w.heap.size i v (by omega) FX.out HV.out _ r0).mono ?_
   rintro e w' ⟨rfl, hb2⟩
   go_wp2
   go_ret
   exact ⟨rfl, hbw.trans (hb2.mono hbw.size)⟩

theorem nat_bit (a i : Nat) (s : ByteArray) (o : Nat) (hs : yG a = s) (ho : (a.testBit i).toNat = o) (ha : nl a ≤ 100000) (hi : i ≤ 10000000) (w : World) :
  Calls Tryz.prog 192 #[.string s, .int .i64 (i : Nat)] w fun e w' => e = .returned (.int .i64 (o : Nat)) ∧ w' = w := by
 obtain ⟨q, hq⟩ : ∃ q, q = i / 8 := ⟨_, rfl⟩
 obtain ⟨r, hr⟩ : ∃ r, r = i % 8 := ⟨_, rfl⟩
 have q1 : (i : Int) / 8 = (q : Int) := by omega
 have r1 : (i : Int) % 8 = (r : Int) := by omega
 have r8 : r < 8 := by omega
 obtain ⟨x, hx⟩ : ∃ x, d8 a q = x := ⟨_, rfl⟩
 have x256 : x < 256 := by rw [← hx]; exact qD a q
 have e : x / 2 ^ r % 2 = o := by rw [← ho, ← hx, hq, hr, bit_of_d8, testBit_toNat]
 have hb : bits .and .i64 ((x : Int) / 2 ^ r) 1 = (o : Int) := by
  obtain ⟨y, hy⟩ : ∃ y, x / 2 ^ r = y := ⟨_, rfl⟩
  have e2 : (x : Int) / 2 ^ r = (y : Int) := by rw [← hy]; exact div_cast x r
  have y256 : y < 256 := by rw [← hy]; exact Nat.lt_of_le_of_lt (Nat.div_le_self _ _) x256
  rw [e2]
  show IntKind.i64.wrap ((BitVec.ofInt 64 (y : Int) &&& BitVec.ofInt 64 1).toNat : Int) = _
  have h1 : (BitVec.ofInt 64 1).toNat = 2 ^ 1 - 1 := by decide
  have h2 : (BitVec.ofInt 64 (y : Int)).toNat = y := by simp; omega
  rw [BitVec.toNat_and, h1, Nat.and_two_pow_sub_one_eq_mod, h2, zK _ (by omega) (by omega), ← e, hy]
 have HX := zH hx
 clear hq hr hx e ho
 go_enter Tryz.func192, Tryz.ntmps192
 go_wp2_with fail
 refine (nat_at a q x s hs HX.out ha _).mono ?_
 rintro e w' ⟨rfl, rfl⟩
 go_wp2
 go_ret
 exact ⟨rfl, rfl⟩
def lg (x : Nat) : ByteArray × Int := if nl x ≤ 16384 then (yG x, 0) else (⟨#[]⟩, 4)
def sb (a b : Nat) : ByteArray × Int := if a < b then (⟨#[]⟩, 2) else (yG (a - b), 0)

theorem blen_nl (n L x : Nat) (h : n ≠ 0) (hL : nl n = L) (hx : d8 n (L - 1) = x) : 8 * (L - 1) + z7 x = z7 n := by
 have hp := nl_pos n h
 have ht := nl_top n h
 have hl := nl_lt n
 rw [hL] at hp ht hl
 rw [hx] at ht
 obtain ⟨k, rfl⟩ : ∃ k, L = k + 1 := ⟨L - 1, by omega⟩
 rw [Nat.add_sub_cancel] at hx ⊢
 have e := mod_d8 n k
 rw [Nat.mod_eq_of_lt hl, hx] at e
 rw [e, blen_push _ _ _ (Nat.mod_lt _ (Nat.two_pow_pos _)) ht]

theorem nat_Len (n l : Nat) (s : ByteArray) (hs : yG n = s) (h : nl n ≤ 16384) (hl : z7 n = l) (w : World) :
  Calls Tryz.prog 189 #[.string s] w fun r w' => r = .returned (.int .i64 (l : Nat)) ∧ w' = w := by
 obtain ⟨L, hL⟩ : ∃ L, nl n = L := ⟨_, rfl⟩
 have hz : s.size = L := by rw [← hs, yE, hL]
 have hm : qB s = true := by rw [← hs]; exact qR n h
 have HM := zH hm
 have d2 := xX s
 rw [hL] at h
 by_cases h0 : n = 0
 ·
  have e : l = 0 := by rw [← hl, h0]; rfl
  have e2 : L = 0 := by rw [← hL, h0]; exact nl_zero
  subst e
  rw [decide_eq_true (by omega)] at d2
  clear hs hl hL hm h0
  go_enter Tryz.func189, Tryz.ntmps189
  go_wp2_with fail
  refine (yW s true HM.out _).mono ?_
  rintro r w' ⟨rfl, rfl⟩
  go_wp2
  go_ret
  exact ⟨rfl, rfl⟩
 ·
  have hp := nl_pos n h0
  rw [hL] at hp
  rw [decide_eq_false (by omega)] at d2
  have hp2 : 0 < s.size := by omega
  obtain ⟨x, hx⟩ : ∃ x, (s[0]'hp2).toNat = x := ⟨_, rfl⟩
  have hxd : d8 n (L - 1) = x := by
   rw [← hx]
   subst hs
   rw [xT, hL]
   rfl
  have x256 : x < 256 := by rw [← hxd]; exact qD _ _
  have hb := blen_nl n L x h0 hL hxd
  obtain ⟨y, hy⟩ : ∃ y, z7 x = y := ⟨_, rfl⟩
  rw [hy, hl] at hb
  have y8 : y ≤ 8 := by rw [← hy]; exact xL x 8 (by rw [← two8]; exact x256)
  have HY := zH hy
  have hi := idx_run s 0 0 x rfl hp2 hx
  have n1 : IntKind.i64.wrap ((L : Int) - 1) = (L : Int) - 1 := zK _ (by omega) (by omega)
  have n2 : IntKind.i64.wrap (8 * ((L : Int) - 1)) = 8 * ((L : Int) - 1) := zK _ (by omega) (by omega)
  have n3 : IntKind.i64.wrap (8 * ((L : Int) - 1) + (y : Int)) = (l : Int) := by rw [zK _ (by omega) (by omega)]; omega
  have n4 : IntKind.u64.wrap (x : Int) = (x : Int) := by rw [IntKind.wrap_u64]; omega
  have X64 : zS (x < 18446744073709551616) := zH (by omega)
  clear hs hl hL hm h0 hxd hb hy hx
  go_enter Tryz.func189, Tryz.ntmps189
  go_wp2_with fail
  refine (yW s true HM.out _).mono ?_
  rintro r w' ⟨rfl, rfl⟩
  go_wp2_with fail
  refine (rlen_is x y X64.out HY.out _).mono ?_
  rintro r w' ⟨rfl, rfl⟩
  go_wp2
  go_ret
  exact ⟨rfl, rfl⟩

def LowB (n t : Nat) : Prop := n % 2 ^ t = 0 ∧ n.testBit t = true
theorem lowB_one (n s t : Nat) (h : LowB n s) (g : LowB n t) : s = t := by
 have hlt : ∀ a b, LowB n a → LowB n b → ¬ a < b := by
  intro a b ha hb hab
  have h1 := Nat.testBit_mod_two_pow n b a
  rw [hb.1, ha.2] at h1
  simp [hab] at h1
 have h1 := hlt s t h g
 have h2 := hlt t s g h
 omega
theorem lowB_ex : ∀ (k n : Nat), n ≠ 0 → n < 2 ^ k → ∃ t, t < k ∧ LowB n t
 | 0, n, h, hn => by rw [Nat.pow_zero] at hn; omega
 | k + 1, n, h, hn => by
  by_cases h2 : n % 2 = 0
  ·
   obtain ⟨t, h3, h4, h5⟩ := lowB_ex k (n / 2) (by omega) (by rw [Nat.pow_succ] at hn; omega)
   refine ⟨t + 1, by omega, ?_, ?_⟩
   ·
    rw [Nat.pow_succ, Nat.mul_comm, Nat.mod_mul, h2, h4]
   ·
    rw [Nat.testBit_succ]; exact h5
  ·
   exact ⟨0, by omega, by rw [Nat.pow_zero, Nat.mod_one], by rw [Nat.testBit_zero]; simp; omega⟩
theorem lowB_any (n : Nat) (h : n ≠ 0) : ∃ t, LowB n t := by
 obtain ⟨t, _, ht⟩ := lowB_ex _ n h (xN n)
 exact ⟨t, ht⟩
theorem lowB_d8 (n i r : Nat) (h0 : n % 2 ^ (8 * i) = 0) (h : LowB (d8 n i) r) (hr : r < 8) : LowB n (8 * i + r) := by
 have hb := d8_bit n i r
 refine ⟨?_, ?_⟩
 ·
  rw [Nat.pow_add, Nat.mod_mul, h0, Nat.zero_add]
  have h1 := h.1
  unfold d8 at h1
  rw [two8, Nat.mod_mod_of_dvd _ (Nat.pow_dvd_pow 2 (by omega : r ≤ 8))] at h1
  rw [h1, Nat.mul_zero]
 ·
  rw [h.2, decide_eq_true hr, Bool.true_and] at hb
  exact hb.symm

def LowN (n t : Nat) : Prop := (n = 0 ∧ t = 0) ∨ (n ≠ 0 ∧ LowB n t)
theorem nat_Low (n t : Nat) (s : ByteArray) (hs : yG n = s) (h : nl n ≤ 16384) (ht : LowN n t) (w : World) :
  Calls Tryz.prog 230 #[.string s] w fun r w' => r = .returned (.int .i64 (t : Nat)) ∧ w' = w := by
 obtain ⟨L, hL⟩ : ∃ L, nl n = L := ⟨_, rfl⟩
 have hz : s.size = L := by rw [← hs, yE, hL]
 have hm : qB s = true := by rw [← hs]; exact qR n h
 have HM := zH hm
 rw [hL] at h
 have HS := zH hs
 have HT := zH ht
 have HL := zH hL
 have NA : zS (nl n ≤ 100000) := zH (by omega)
 clear hs hL hm ht
 go_enter Tryz.func230, Tryz.ntmps230
 go_wp2_with fail
 refine (yW s true HM.out _).mono ?_
 rintro r w' ⟨rfl, rfl⟩
 go_wp2
 go_loop [3] (fun iv => ∃ i : Nat, i ≤ L ∧ iv = .int .i64 i ∧ zS (n % 2 ^ (8 * i) = 0)) (fun iv => L - (intOf iv).toNat)
 case atStart => exact ⟨0, by omega, rfl, zH (by rw [Nat.mul_zero, Nat.pow_zero, Nat.mod_one])⟩
 case round =>
  obtain ⟨i, hi, rfl, HE⟩ := hrel
  by_cases hlt : i < L
  ·
   obtain ⟨x, hx⟩ : ∃ x, d8 n i = x := ⟨_, rfl⟩
   have x256 : x < 256 := by rw [← hx]; exact qD _ _
   have dl : decide (i < L) = true := decide_eq_true hlt
   have HX := zH hx
   by_cases h0 : x = 0
   ·
    have y : ((x : Int) != 0) = false := by rw [h0]; rfl
    have NX : zS (n % 2 ^ (8 * (i + 1)) = 0) := zH (by rw [mod_d8, HE.out, hx, h0, Nat.mul_zero])
    clear hx h0
    go_wp2_with fail
    refine (nat_at n i x s HS.out HX.out NA.out _).mono ?_
    rintro r w' ⟨rfl, rfl⟩
    go_wp2
    go_round
    case rel => exact ⟨i + 1, by omega, by go_num, NX⟩
    case measure => simp [intOf] <;> omega
   ·
    have y : ((x : Int) != 0) = true := by simp; omega
    obtain ⟨r, hr8, hr⟩ := lowB_ex 8 x h0 (by rw [← two8]; exact x256)
    have LI : zS (LowIs x r) := zH ⟨by omega, hr.1, hr.2⟩
    have e : 8 * i + r = t := by
     have h1 := lowB_d8 n i r HE.out (by rw [hx]; exact hr) hr8
     rcases HT.out with ⟨h2, h3⟩ | ⟨h2, h3⟩
     ·
      exact absurd (show x = 0 by rw [← hx, h2, d8_zero]) h0
     ·
      exact lowB_one n _ _ h1 h3
    have n2 : IntKind.i64.wrap (8 * (i : Int)) = 8 * (i : Int) := zK _ (by omega) (by omega)
    have n3 : IntKind.i64.wrap (8 * (i : Int) + (r : Int)) = (t : Int) := by rw [zK _ (by omega) (by omega)]; omega
    have n4 : IntKind.u64.wrap (x : Int) = (x : Int) := by rw [IntKind.wrap_u64]; omega
    have X64 : zS (x < 18446744073709551616) := zH (by omega)
    clear hx hr e h0
    go_wp2_with fail
    refine (nat_at n i x s HS.out HX.out NA.out _).mono ?_
    rintro r w' ⟨rfl, rfl⟩
    go_wp2_with fail
    refine (nat_at n i x s HS.out HX.out NA.out _).mono ?_
    rintro r w' ⟨rfl, rfl⟩
    go_wp2_with fail
    refine (rlow_any x r X64.out LI.out _).mono ?_
    rintro r w' ⟨rfl, rfl⟩
    go_wp2
    go_ret
    exact ⟨rfl, rfl⟩
  ·
   obtain rfl : i = L := by omega
   have e : t = 0 := by
    have h1 := HE.out
    rw [Nat.mod_eq_of_lt (by rw [← HL.out]; exact nl_lt n)] at h1
    rcases HT.out with ⟨h2, h3⟩ | ⟨h2, h3⟩
    ·
     exact h3
    ·
     exact absurd h1 h2
   subst e
   have dl : decide (i < i) = false := by rw [decide_eq_false_iff_not]; omega
   go_wp2
   go_ret
   exact ⟨rfl, rfl⟩

theorem Q48 : ∃ L, L = 48 ∧ Q = 2 ^ (8 * L) := by
 obtain ⟨L, hL, hQ⟩ := Q_of
 exact ⟨8 * L, by omega, by rw [hQ]; congr 1; omega⟩

theorem toWide_step (n i q r x : Nat) (hq : q = i / 8) (hr : r = 8 * (i % 8)) (hx : d8 n i = x) : n % 2 ^ (8 * i) ||| x * 2 ^ r * 2 ^ (64 * q) = n % 2 ^ (8 * (i + 1)) := by
 rw [Nat.mul_assoc, ← Nat.pow_add, show r + 64 * q = 8 * i by omega, mod_d8, hx, Nat.mul_comm (2 ^ (8 * i)) x]
 exact (or_disj _ _ _ (Nat.mod_lt _ (Nat.two_pow_pos _))).symm

theorem trows2 (w : World) : RowsL w ((w.alloc (.cells (cw 6 0) 66)).alloc (.cells (cw 6 0) 66)) [0, 0] := rowsL_new (rowsL_new (rowsL_nil w) rfl 0) (by simp) 0

theorem lg_ok (n : Nat) (v : ByteArray) (h : nl n ≤ 16384) (hv : yG n = v) : lg n = (v, 0) := by unfold lg; rw [if_pos h, hv]

def lf (a : Nat) (n : Int) : ByteArray × Int := if n < 0 then (⟨#[]⟩, 2) else lg (a * 2 ^ n.toNat)

theorem lost_low (a n t : Nat) (h : LowB a t) : (a % 2 ^ n ≠ 0) ↔ t < n := by
 constructor
 ·
  intro h1
  rcases Nat.lt_or_ge t n with h2 | h2
  ·
   exact h2
  ·
   exfalso
   apply h1
   obtain ⟨d, hd⟩ := Nat.dvd_of_mod_eq_zero h.1
   apply Nat.mod_eq_zero_of_dvd
   refine Nat.dvd_trans (Nat.pow_dvd_pow 2 h2) ?_
   exact ⟨d, hd⟩
 ·
  intro h1 h2
  have h3 := Nat.testBit_mod_two_pow a n t
  rw [h2, h.2, decide_eq_true h1, Nat.zero_testBit] at h3
  cases h3

theorem right_byte (a i n q r p x y t z : Nat) (hq : q = n / 8) (hr : r = n % 8) (hp : p = i + q) (hx : d8 a p = x) (hy : d8 a (p + 1) = y) (ht : x + 256 * y = t) (hz : t / 2 ^ r % 256 = z) : d8 (a / 2 ^ n) i = z := by
 have e1 : t = a / 2 ^ (8 * p) % 2 ^ 16 := by
  rw [← ht, ← hx, ← hy]
  unfold d8
  rw [pow8, ← Nat.div_div_eq_div_mul]
  omega
 have e2 : a / 2 ^ n / 2 ^ (8 * i) = a / 2 ^ (8 * p) / 2 ^ r := by
  rw [Nat.div_div_eq_div_mul, ← Nat.pow_add, Nat.div_div_eq_div_mul, ← Nat.pow_add]
  congr 2
  omega
 unfold d8
 rw [e2, ← hz, e1]
 generalize a / 2 ^ (8 * p) = A
 rw [two8]
 have e3 : A % 2 ^ 16 = A % 2 ^ (r + (16 - r)) := by congr 2; omega
 rw [e3, Nat.pow_add, Nat.mod_mul_right_div_self, Nat.mod_mod_of_dvd]
 exact Nat.pow_dvd_pow 2 (by omega)

theorem nat_Right (a : Nat) (n : Int) (s v : ByteArray) (o : Bool) (hs : yG a = s) (ha : nl a ≤ 16384) (h0 : 0 ≤ n) (hn : n ≤ 9223372036854775807) (hv : yG (a / 2 ^ n.toNat) = v) (ho : decide (a % 2 ^ n.toNat ≠ 0) = o) (w : World) :
  Calls Tryz.prog 190 #[.string s, .int .i64 n] w fun r w' => r = .returned (.tuple #[.string v, .bool o, .int .i64 0]) ∧ Below w.heap.size w w' := by
 obtain ⟨n, rfl⟩ : ∃ m : Nat, n = (m : Int) := ⟨n.toNat, by omega⟩
 rw [Int.toNat_natCast] at hv ho
 have c0 : decide ((n : Int) < 0) = false := by rw [decide_eq_false_iff_not]; omega
 obtain ⟨L, hL⟩ : ∃ L, nl a = L := ⟨_, rfl⟩
 have hz : s.size = L := by rw [← hs, yE, hL]
 have d2 := xX s
 by_cases ha0 : a = 0
 ·
  subst ha0
  rw [Nat.zero_div, yM] at hv
  rw [Nat.zero_mod] at ho
  subst hv ho
  rw [decide_eq_true (by rw [hz, ← hL, nl_zero])] at d2
  clear hs hz hL
  go_enter Tryz.func190, Tryz.ntmps190
  go_wp2
  exact bodyPost_ret (v := .tuple #[.string ⟨#[]⟩, .bool false, .int .i64 0]) (by simp [results, Tryz.results190, go_sem]) rfl ⟨rfl, Below.refl _ _⟩
 ·
  have hp := nl_pos a ha0
  have la := nl_lt a
  rw [hL] at hp la ha
  rw [decide_eq_false (by omega)] at d2
  obtain ⟨t, ht⟩ := lowB_any a ha0
  have hlo := lost_low a n t ht
  have hLN : LowN a t := Or.inr ⟨ha0, ht⟩
  have e1 : decide (t < n) = o := by rw [← ho]; exact decide_eq_decide.2 hlo.symm
  have HS := zH hs
  have HA : zS (nl a ≤ 16384) := zH (by omega)
  have HN := zH hLN
  have NA : zS (nl a ≤ 100000) := zH (by omega)
  have n0 : IntKind.i64.wrap (8 * (L : Int)) = 8 * (L : Int) := zK _ (by omega) (by omega)
  have LA := zH la
  by_cases hb : 8 * L ≤ n
  ·
   have c1 : decide (8 * (L : Int) ≤ (n : Int)) = true := by rw [decide_eq_true_iff]; omega
   have ev : v = ⟨#[]⟩ := by
    rw [← hv, Nat.div_eq_of_lt (Nat.lt_of_lt_of_le la (Nat.pow_le_pow_right (by decide) hb)), yM]
   subst ev
   clear hs hL hv ho ht hlo hLN hb la ha0
   go_enter Tryz.func190, Tryz.ntmps190
   go_wp2_with fail
   refine (nat_Low a t s HS.out HA.out HN.out _).mono ?_
   rintro e w' ⟨rfl, rfl⟩
   go_wp2
   exact bodyPost_ret (v := .tuple #[.string ⟨#[]⟩, .bool o, .int .i64 0]) (by simp [results, Tryz.results190, go_sem]) rfl ⟨rfl, Below.refl _ _⟩
  ·
   have c1 : decide (8 * (L : Int) ≤ (n : Int)) = false := by rw [decide_eq_false_iff_not]; omega
   obtain ⟨q, hq⟩ : ∃ q, q = n / 8 := ⟨_, rfl⟩
   obtain ⟨r, hr⟩ : ∃ r, r = n % 8 := ⟨_, rfl⟩
   obtain ⟨m, hm⟩ : ∃ m, L - q = m := ⟨_, rfl⟩
   obtain ⟨b, hb2⟩ : ∃ b, a / 2 ^ n = b := ⟨_, rfl⟩
   have q1 : (n : Int) / 8 = (q : Int) := by omega
   have r1 : (n : Int) % 8 = (r : Int) := by omega
   have r8 : r < 8 := by omega
   have m1 : (L : Int) - (q : Int) = (m : Int) := by omega
   have bm : b < 2 ^ (8 * m) := by
    rw [← hb2, Nat.div_lt_iff_lt_mul (Nat.two_pow_pos _), ← Nat.pow_add]
    exact Nat.lt_of_lt_of_le la (Nat.pow_le_pow_right (by decide) (by omega))
   have HB := zH hb2
   have BM := zH bm
   have HQ := zH hq
   have HR := zH hr
   rw [hb2] at hv
   have HV := zH hv
   have hmk := c8_make m (by omega)
   have m2 : m ≤ 16384 := by omega
   have q2 : q ≤ 16384 := by omega
   have qm : q + m = L := by omega
   have L2 : L ≤ 16384 := by omega
   clear hs hL hv ho ht hlo hLN hb la ha0 hq hr hm hb2 bm
   go_enter Tryz.func190, Tryz.ntmps190
   go_wp2_with fail
   refine (nat_Low a t s HS.out HA.out HN.out _).mono ?_
   rintro e w' ⟨rfl, hw'⟩
   subst hw'
   go_wp2
   clear hmk c0 c1 d2 e1
   go_loopw [10] (fun iv wr => ∃ i : Nat, i ≤ m ∧ iv = .int .i64 i ∧ wr.heap[w'.heap.size]? = some (.cells (c8 m (b % 2 ^ (8 * i))) 5) ∧ Below w'.heap.size w' wr) (fun iv _ => m - (intOf iv).toNat)
   case atStart => exact ⟨0, by omega, rfl, by rw [Nat.mul_zero, Nat.pow_zero, Nat.mod_one]; exact heap_alloc_last _ _, (Below.refl _ _).alloc (Nat.le_refl _) _⟩
   case round =>
    obtain ⟨i, hi, rfl, r0, hbw⟩ := hrel
    by_cases hlt : i < m
    ·
     obtain ⟨p, hp2⟩ : ∃ p, p = i + q := ⟨_, rfl⟩
     obtain ⟨p1, hp1⟩ : ∃ p1, p1 = p + 1 := ⟨_, rfl⟩
     obtain ⟨x, hx⟩ : ∃ x, d8 a p = x := ⟨_, rfl⟩
     obtain ⟨y, hy⟩ : ∃ y, d8 a p1 = y := ⟨_, rfl⟩
     have x256 : x < 256 := by rw [← hx]; exact qD _ _
     have y256 : y < 256 := by rw [← hy]; exact qD _ _
     obtain ⟨u, hu⟩ : ∃ u, x + 256 * y = u := ⟨_, rfl⟩
     obtain ⟨z, hz2⟩ : ∃ z, u / 2 ^ r % 256 = z := ⟨_, rfl⟩
     have z256 : z < 256 := by rw [← hz2]; exact Nat.mod_lt _ (by decide)
     have e1 := right_byte a i n q r p x y u z HQ.out HR.out hp2 hx (by rw [← hp1]; exact hy) hu hz2
     rw [HB.out] at e1
     have pi : (i : Int) + (q : Int) = (p : Int) := by omega
     have pi1 : (p : Int) + 1 = (p1 : Int) := by omega
     obtain ⟨Y, hY⟩ : ∃ Y, 256 * y = Y := ⟨_, rfl⟩
     have n3 : (y : Int) * 256 = (Y : Int) := by omega
     have n4 : IntKind.i64.wrap (Y : Int) = (Y : Int) := zK _ (by omega) (by omega)
     have n5 : bits .or .i64 (x : Int) (Y : Int) = (u : Int) := by
      show IntKind.i64.wrap ((BitVec.ofInt 64 (x : Int) ||| BitVec.ofInt 64 (Y : Int)).toNat : Int) = _
      have h1 : (BitVec.ofInt 64 (x : Int)).toNat = x := by simp; omega
      have h2 : (BitVec.ofInt 64 (Y : Int)).toNat = Y := by simp; omega
      have h3 : x ||| Y = x + Y := by
       have := or_disj x y 8 (by rw [← two8]; exact x256)
       rw [← two8, Nat.mul_comm y, hY] at this
       exact this.symm
      rw [BitVec.toNat_or, h1, h2, h3, show x + Y = u by omega, zK _ (by omega) (by omega)]
     have n6 : IntKind.u8.wrap ((u : Int) / 2 ^ r) = (z : Int) := by
      rw [div_cast]
      exact qS _ z hz2
     have k1 := jB r0 hlt
     have k2 := fz (k := i) r0
     have RS : zS ((wr.setCell ⟨w'.heap.size, i, none⟩ (.int .u8 (z : Int))).heap[w'.heap.size]? = some (.cells (c8 m (b % 2 ^ (8 * (i + 1)))) 5)) := zH (by rw [z6 r0, c8_push m _ i z _ hlt (Nat.mod_lt _ (Nat.two_pow_pos _)) z256 rfl, mod_d8, e1])
     have HX := zH hx
     have HY := zH hy
     have dl : decide (i < m) = true := decide_eq_true hlt
     clear hp2 hp1 hx hy hu hz2 e1 hY
     go_wp2_with fail
     refine (nat_at a p x s HS.out HX.out NA.out _).mono ?_
     rintro e w2 ⟨rfl, rfl⟩
     go_wp2_with fail
     refine (nat_at a p1 y s HS.out HY.out NA.out _).mono ?_
     rintro e w2 ⟨rfl, rfl⟩
     go_wp2
     go_roundw
     case rel => exact ⟨i + 1, by omega, by go_num, RS.out, hbw.setCell (Nat.le_refl _) _⟩
     case measure => simp [intOf] <;> omega
    ·
     obtain rfl : i = m := by omega
     have dl : decide (i < i) = false := by rw [decide_eq_false_iff_not]; omega
     rw [Nat.mod_eq_of_lt BM.out] at r0
     go_wp2_with fail
     refine (nat_fit i b w'.heap.size i v (by omega) BM.out HV.out _ r0).mono ?_
     rintro e w2 ⟨rfl, hb2⟩
     go_wp2
     exact bodyPost_ret (v := .tuple #[.string v, .bool o, .int .i64 0]) (by simp [results, Tryz.results190, go_sem]) rfl ⟨rfl, hbw.trans (hb2.mono hbw.size)⟩

def NdivSt (a b k q r : Nat) : Prop := a / 2 ^ k = b * (q / 2 ^ k) + r ∧ r < b ∧ q % 2 ^ k = 0
theorem ndiv_start (a b k r : Nat) (hr : a / 2 ^ k = r) (h : r < b) : NdivSt a b k 0 r := ⟨by rw [Nat.zero_div, Nat.mul_zero, Nat.zero_add]; exact hr, h, Nat.zero_mod _⟩
theorem ndiv_step (a b k q r x : Nat) (S : NdivSt a b (k + 1) q r) (hx : 2 * r + (a.testBit k).toNat = x) :
  (x < b → NdivSt a b k q x) ∧ (b ≤ x → NdivSt a b k (q ||| 2 ^ k) (x - b)) := by
 obtain ⟨h1, h2, h3⟩ := S
 have hb := bit_nat a k
 rw [h1] at hb
 have ht : (a.testBit k).toNat ≤ 1 := by cases a.testBit k <;> decide
 have hd : 2 ^ (k + 1) ∣ q := Nat.dvd_of_mod_eq_zero h3
 have e0 : q / 2 ^ k = 2 * (q / 2 ^ (k + 1)) := by
  obtain ⟨c, rfl⟩ := hd
  rw [Nat.mul_div_cancel_left _ (Nat.two_pow_pos _), Nat.pow_succ, Nat.mul_assoc, Nat.mul_div_cancel_left _ (Nat.two_pow_pos _)]
 have h4 : q % 2 ^ k = 0 := Nat.mod_eq_zero_of_dvd (Nat.dvd_trans (Nat.pow_dvd_pow 2 (by omega)) hd)
 have e1 : 2 * (b * (q / 2 ^ (k + 1)) + r) + (a.testBit k).toNat = b * (2 * (q / 2 ^ (k + 1))) + x := by
  rw [← hx, Nat.mul_add, Nat.mul_left_comm]; omega
 refine ⟨fun h => ⟨?_, h, h4⟩, fun h => ⟨?_, by omega, ?_⟩⟩
 ·
  rw [hb, e1, e0]
 ·
  rw [qor_pow q k hd, Nat.add_div_right _ (Nat.two_pow_pos k), e0, hb, e1, Nat.mul_succ]
  omega
 ·
  rw [qor_pow q k hd, Nat.add_mod_right]; exact h4
theorem ndiv_end (a b q r : Nat) (S : NdivSt a b 0 q r) : q = a / b ∧ r = a % b := by
 obtain ⟨h1, h2, _⟩ := S
 rw [Nat.pow_zero, Nat.div_one, Nat.div_one] at h1
 have hb : 0 < b := by omega
 constructor
 ·
  rw [h1, Nat.mul_add_div hb, Nat.div_eq_of_lt h2, Nat.add_zero]
 ·
  rw [h1, Nat.mul_add_mod, Nat.mod_eq_of_lt h2]

theorem nl_twice (b x : Nat) (h : x < 2 * b) : nl x ≤ nl b + 1 := qO x _ (by
 have := nl_lt b
 rw [pow8]
 omega)
theorem one_bit8 (k q r : Nat) (hq : q = k / 8) (hr : r = k % 8) : 2 ^ r * 2 ^ (8 * q) = 2 ^ k := by
 rw [← Nat.pow_add]; congr 1; omega

theorem nat_div_big (a b : Nat) (s t qv rv : ByteArray) (hs : yG a = s) (ht : yG b = t) (ha : nl a ≤ 16384) (hb0 : b ≠ 0) (hba : b ≤ a) (hq : yG (a / b) = qv) (hr : yG (a % b) = rv) (w : World) :
  Calls Tryz.prog 109 #[.string s, .string t] w fun r w' => r = .returned (.tuple #[.string qv, .string rv, .int .i64 0]) ∧ Below w.heap.size w w' := by
 obtain ⟨L, hL⟩ : ∃ L, nl a = L := ⟨_, rfl⟩
 have hz : s.size = L := by rw [← hs, yE, hL]
 have hbl := xF b a hba
 have e2 := xX t
 have hty : t.size = nl b := by rw [← ht, yE]
 have hbp := nl_pos b hb0
 rw [decide_eq_false (by omega)] at e2
 obtain ⟨c, hc⟩ : ∃ c, xY a b = c := ⟨_, rfl⟩
 have dc : decide (c < 0) = false := by
  rw [← hc]; unfold xY
  by_cases e : a = b
  ·
   rw [if_pos e]; rfl
  ·
   rw [if_neg e, if_neg (by omega)]; rfl
 obtain ⟨n, hn⟩ : ∃ n, z7 a = n := ⟨_, rfl⟩
 obtain ⟨m, hm⟩ : ∃ m, z7 b = m := ⟨_, rfl⟩
 have mp : 0 < m := by rw [← hm]; exact xQ b hb0
 have nm : m ≤ n := by
  rw [← hm, ← hn]
  exact xL b _ (Nat.lt_of_le_of_lt hba (xN a))
 have n8 : n ≤ 8 * L := by rw [← hn, ← hL]; unfold nl; omega
 obtain ⟨K, hK⟩ : ∃ K : Nat, n - (m - 1) = K := ⟨_, rfl⟩
 obtain ⟨r0, hr0⟩ : ∃ r0, a / 2 ^ K = r0 := ⟨_, rfl⟩
 have r0b : r0 < b := by
  have h1 := xN a
  have h2 := qI b hb0
  rw [hn] at h1
  rw [hm] at h2
  have h3 : r0 < 2 ^ (m - 1) := by
   rw [← hr0, Nat.div_lt_iff_lt_mul (Nat.two_pow_pos _), ← Nat.pow_add, show m - 1 + K = n by omega]
   exact h1
  omega
 obtain ⟨R0, hR0⟩ : ∃ R0, yG (a / 2 ^ ((K : Int).toNat)) = R0 := ⟨_, rfl⟩
 obtain ⟨o, ho⟩ : ∃ o, decide (a % 2 ^ ((K : Int).toNat) ≠ 0) = o := ⟨_, rfl⟩
 have ST0 : zS (NdivSt a b K 0 r0) := zH (ndiv_start a b K r0 hr0 r0b)
 have HR0 : zS (yG r0 = R0) := zH (by rw [← hR0, Int.toNat_natCast, hr0])
 have HR1 := zH hR0
 have HO := zH ho
 have HC := zH hc
 have HN := zH hn
 have HM := zH hm
 have HS := zH hs
 have HT := zH ht
 have HQ := zH hq
 have HR := zH hr
 have HA := zH ha
 have HB : zS (nl b ≤ 16384) := zH (by omega)
 have NA : zS (nl a ≤ 100000) := zH (by omega)
 obtain ⟨N, hN⟩ : ∃ N, L + 1 = N := ⟨_, rfl⟩
 have L2 : L ≤ 16384 := by omega
 have hmk := c8_makeI N ((L : Int) + 1) (by omega) (by omega)
 have w1 : IntKind.i64.wrap ((m : Int) - 1) = (m : Int) - 1 := zK _ (by omega) (by omega)
 have w2 : IntKind.i64.wrap ((n : Int) - ((m : Int) - 1)) = (K : Int) := by rw [zK _ (by omega) (by omega)]; omega
 have KI : zS ((K : Int) ≤ 9223372036854775807) := zH (by omega)
 have K8 : K ≤ 8 * L := by omega
 have QB : zS (a / b < 2 ^ (8 * N)) := zH (Nat.lt_of_le_of_lt (Nat.div_le_self _ _) (Nat.lt_of_lt_of_le (nl_lt a) (pow8_le _ _ (by omega))))
 clear hs ht hq hr hL hn hm hc hr0 hR0 ho hba hbl hb0 hty ha hK mp nm n8 hbp r0b
 go_enter Tryz.func109, Tryz.ntmps109
 go_wp2_with fail
 refine (nat_cmp a b s t c HS.out HT.out HC.out _).mono ?_
 rintro e w' ⟨rfl, hw'⟩
 subst hw'
 go_wp2_with fail
 refine (nat_Len a n s HS.out HA.out HN.out _).mono ?_
 rintro e w3 ⟨rfl, Ac⟩
 subst Ac
 go_wp2_with fail
 refine (nat_Len b m t HT.out HB.out HM.out _).mono ?_
 rintro e w4 ⟨rfl, Ad⟩
 subst Ad
 go_wp2_with fail
 refine (nat_Right a (K : Int) s R0 o HS.out HA.out (by omega) KI.out HR1.out HO.out _).mono ?_
 rintro e w5 ⟨rfl, hb5⟩
 go_wp2
 clear hmk w1 w2 dc e2 HR1 HO HC HN HM KI
 obtain ⟨g, hg⟩ : ∃ g, w5.heap.size = g := ⟨_, rfl⟩
 have g5 : w4.heap.size ≤ g := by rw [← hg]; exact hb5.size
 have B5 : Below w4.heap.size w4 (w5.alloc (.cells (c8 N 0) 5)) := hb5.alloc hb5.size _
 have r5 : (w5.alloc (.cells (c8 N 0) 5)).heap[g]? = some (.cells (c8 N 0) 5) := by rw [← hg]; exact heap_alloc_last _ _
 rw [hg]
 go_loopw [9, 13] (fun rv iv wr => ∃ (k q r : Nat) (R : ByteArray), iv = .int .i64 ((k : Int) - 1) ∧ rv = .string R ∧ k ≤ K ∧ wr.heap[g]? = some (.cells (c8 N q) 5) ∧ Below w4.heap.size w4 wr ∧ zS (yG r = R) ∧ zS (NdivSt a b k q r)) (fun _ iv _ => (intOf iv + 1).toNat)
 case atStart => exact ⟨K, 0, r0, R0, by first | rfl | go_num, rfl, by omega, r5, B5, HR0, ST0⟩
 case round =>
  clear r5 B5 HR0 ST0 hb5
  obtain ⟨k, q, r, R, rfl, rfl, hk, row, hbw, HRR, HST⟩ := hrel
  by_cases hk0 : k = 0
  ·
   subst hk0
   obtain ⟨e1, e3⟩ := ndiv_end a b q r HST.out
   rw [e1] at row
   have eR : R = rv := by rw [← HRR.out, ← HR.out, e3]
   subst eR
   clear e1 e3 HST
   go_wp2_with fail
   refine (nat_fit N (a / b) g N qv (by omega) QB.out HQ.out _ row).mono ?_
   rintro e w6 ⟨rfl, hb6⟩
   go_wp2
   exact bodyPost_ret (v := .tuple #[.string qv, .string R, .int .i64 0]) (by simp [results, Tryz.results109, go_sem]) rfl ⟨rfl, hbw.trans (hb6.mono hbw.size)⟩
  ·
   obtain ⟨j, rfl⟩ : ∃ j, k = j + 1 := ⟨k - 1, by omega⟩
   have ej : (((j + 1 : Nat) : Int) - 1) = (j : Int) := by omega
   rw [ej]
   obtain ⟨o1, ho1⟩ : ∃ o1, (a.testBit j).toNat = o1 := ⟨_, rfl⟩
   have o2 : o1 < 2 := by rw [← ho1]; cases a.testBit j <;> decide
   obtain ⟨x, hx⟩ : ∃ x, 2 * r + o1 = x := ⟨_, rfl⟩
   have ST := zH (ndiv_step a b j q r x HST.out (by rw [ho1]; exact hx))
   have rb := HST.out.2.1
   have xb : x < 2 * b := by omega
   have HRB : zS (nl r ≤ 20000) := zH (by have := xF r b (by omega); have := HB.out; omega)
   have HXB : zS (nl x ≤ 20000) := zH (by have := nl_twice b x xb; have := HB.out; omega)
   obtain ⟨X, hX⟩ : ∃ X, yG x = X := ⟨_, rfl⟩
   have HX := zH hX
   have HX2 : zS (yG (2 * r + o1) = X) := zH (by rw [hx]; exact hX)
   obtain ⟨c, hc⟩ : ∃ c, xY x b = c := ⟨_, rfl⟩
   have HC := zH hc
   have HO1 := zH ho1
   have jb : j ≤ 10000000 := by omega
   by_cases hlt : x < b
   ·
    have dc : decide (0 ≤ c) = false := by rw [← hc]; unfold xY; rw [if_neg (by omega), if_pos hlt]; rfl
    have NS := zH (ST.out.1 hlt)
    clear hx hX hc ho1 rb xb hlt hg
    go_wp2_with fail
    refine (nat_bit a j s o1 HS.out HO1.out NA.out jb _).mono ?_
    rintro e w6 ⟨rfl, Aa⟩
    subst Aa
    go_wp2_with fail
    refine (nat_double r o1 R X HRR.out o2 HX2.out HRB.out _).mono ?_
    rintro e w7 ⟨rfl, hb7⟩
    have row7 := zA hb7 _ _ _ row
    have B7 : Below w4.heap.size w4 w7 := hbw.trans (hb7.mono hbw.size)
    clear hb7 row hbw
    go_wp2_with fail
    refine (nat_cmp x b X t c HX.out HT.out HC.out _).mono ?_
    rintro e w8 ⟨rfl, Ab⟩
    subst Ab
    go_wp2
    go_roundw
    case rel => exact ⟨j, q, x, X, by first | rfl | go_num, rfl, by omega, row7, B7, HX, NS⟩
    case measure => simp [intOf] <;> omega
   ·
    have dc : decide (0 ≤ c) = true := by
     rw [← hc]; unfold xY
     by_cases e : x = b
     ·
      rw [if_pos e]; rfl
     ·
      rw [if_neg e, if_neg hlt]; rfl
    have NS0 := ST.out.2 (by omega)
    obtain ⟨y, hy⟩ : ∃ y, x - b = y := ⟨_, rfl⟩
    obtain ⟨Y, hY⟩ : ∃ Y, yG (x - b) = Y := ⟨_, rfl⟩
    have HY := zH hY
    have HY2 : zS (yG y = Y) := zH (by rw [← hy]; exact hY)
    rw [hy] at NS0
    have HBX : zS (b ≤ x) := zH (by omega)
    obtain ⟨qi, hqi⟩ : ∃ qi, qi = j / 8 := ⟨_, rfl⟩
    obtain ⟨ri, hri⟩ : ∃ ri, ri = j % 8 := ⟨_, rfl⟩
    have q1 : (j : Int) / 8 = (qi : Int) := by omega
    have r1 : (j : Int) % 8 = (ri : Int) := by omega
    have r8 : ri < 8 := by omega
    obtain ⟨v, hv⟩ : ∃ v, v = 2 ^ ri := ⟨_, rfl⟩
    have v256 : v < 256 := by
     rw [hv, two8]
     exact Nat.pow_lt_pow_right (by decide) r8
    have hv2 : IntKind.u8.wrap ((2 : Int) ^ ri) = (v : Int) := by rw [pow_cast, ← hv]; exact qS v v (Nat.mod_eq_of_lt v256)
    have hv3 : IntKind.u8.wrap (1 * (2 : Int) ^ ri) = (v : Int) := by rw [Int.one_mul]; exact hv2
    obtain ⟨Z, hZ⟩ : ∃ Z, q ||| 2 ^ j = Z := ⟨_, rfl⟩
    rw [hZ] at NS0
    have NS := zH NS0
    have hZ2 : Z = q ||| v * 2 ^ (8 * qi) := by rw [hv, one_bit8 j qi ri hqi hri, hZ]
    have qN : qi < N := by omega
    have o8 : bits .or .u8 (d8 q qi : Nat) (v : Nat) = ((d8 q qi ||| v : Nat) : Int) := by
     show IntKind.u8.wrap ((BitVec.ofInt 8 (d8 q qi : Int) ||| BitVec.ofInt 8 (v : Int)).toNat : Int) = _
     have h1 : (BitVec.ofInt 8 (d8 q qi : Int)).toNat = d8 q qi := by have := qD q qi; simp; omega
     have h2 : (BitVec.ofInt 8 (v : Int)).toNat = v := by simp; omega
     rw [BitVec.toNat_or, h1, h2]
     exact qS _ _ (Nat.mod_eq_of_lt (or_lt8 _ _ (qD q qi) v256))
    have HZ := zH (c8_or N q qi v Z qN v256 hZ2)
    clear hx hX hc ho1 rb xb hlt hg hy hY hqi hri hv hZ hZ2 NS0
    go_wp2_with fail
    refine (nat_bit a j s o1 HS.out HO1.out NA.out jb _).mono ?_
    rintro e w6 ⟨rfl, Aa⟩
    subst Aa
    go_wp2_with fail
    refine (nat_double r o1 R X HRR.out o2 HX2.out HRB.out _).mono ?_
    rintro e w7 ⟨rfl, hb7⟩
    have row7 := zA hb7 _ _ _ row
    have B7 : Below w4.heap.size w4 w7 := hbw.trans (hb7.mono hbw.size)
    clear hb7 row hbw
    go_wp2_with fail
    refine (nat_cmp x b X t c HX.out HT.out HC.out _).mono ?_
    rintro e w8 ⟨rfl, Ab⟩
    subst Ab
    go_wp2_with fail
    refine (nat_sub x b X t Y HX.out HT.out HY.out HBX.out HXB.out _).mono ?_
    rintro e w9 ⟨rfl, hb9⟩
    have row9 := zA hb9 _ _ _ row7
    have B9 : Below w4.heap.size w4 w9 := B7.trans (hb9.mono B7.size)
    clear hb9 row7 B7
    have k1 := jB row9 qN
    have k2 := fz (k := qi) row9
    have RS : zS ((w9.setCell ⟨g, qi, none⟩ (.int .u8 ((d8 q qi ||| v : Nat) : Int))).heap[g]? = some (.cells (c8 N Z) 5)) := zH (by rw [z6 row9, HZ.out])
    go_wp2
    go_roundw
    case rel => exact ⟨j, Z, y, Y, by first | rfl | go_num, rfl, by omega, RS.out, B9.setCell (by show w4.heap.size ≤ g; omega) _, HY2, NS⟩
    case measure => simp [intOf] <;> omega

theorem nat_Div (a b : Nat) (s t qv rv : ByteArray) (hs : yG a = s) (ht : yG b = t) (ha : nl a ≤ 16384) (hb0 : b ≠ 0) (hq : yG (a / b) = qv) (hr : yG (a % b) = rv) (w : World) :
  Calls Tryz.prog 109 #[.string s, .string t] w fun r w' => r = .returned (.tuple #[.string qv, .string rv, .int .i64 0]) ∧ Below w.heap.size w w' := by
 by_cases hba : b ≤ a
 ·
  exact nat_div_big a b s t qv rv hs ht ha hb0 hba hq hr w
 ·
  have e2 := xX t
  have hty : t.size = nl b := by rw [← ht, yE]
  have hbp := nl_pos b hb0
  rw [decide_eq_false (by omega)] at e2
  rw [Nat.div_eq_of_lt (by omega), yM] at hq
  rw [Nat.mod_eq_of_lt (by omega), hs] at hr
  subst hq hr
  have HC : zS (xY a b = -1) := zH (by unfold xY; rw [if_neg (by omega), if_pos (by omega)])
  clear hba hty hbp ha hb0
  go_enter Tryz.func109, Tryz.ntmps109
  go_wp2_with fail
  refine (nat_cmp a b s t (-1) hs ht HC.out _).mono ?_
  rintro e w' ⟨rfl, rfl⟩
  go_wp2
  exact bodyPost_ret (v := .tuple #[.string ⟨#[]⟩, .string s, .int .i64 0]) (by simp [results, Tryz.results109, go_sem]) rfl ⟨rfl, Below.refl _ _⟩
def strV (v : Value) : Nat := match v with | .string s => bvl s.data.toList | _ => 0
theorem strV_nb (n : Nat) (s : ByteArray) (h : yG n = s) : strV (.string s) = n := by
 subst h
 exact bvl_nbL n

theorem nat_Gcd (a b : Nat) (s t v : ByteArray) (hs : yG a = s) (ht : yG b = t) (ha : nl a ≤ 16384) (hb : nl b ≤ 16384) (hv : yG (Nat.gcd a b) = v) (w : World) :
  Calls Tryz.prog 45 #[.string s, .string t] w fun e w' => e = .returned (.string v) ∧ Below w.heap.size w w' := by
 have HS := zH hs
 have HT := zH ht
 have HV := zH hv
 have HA := zH ha
 have HB := zH hb
 clear hs ht hv ha hb
 go_enter Tryz.func45, Tryz.ntmps45
 go_wp2
 go_loopw [0, 1] (fun av bv wr => ∃ (x y : Nat) (X Y : ByteArray), av = .string X ∧ bv = .string Y ∧ Below w.heap.size w wr ∧ zS (yG x = X) ∧ zS (yG y = Y) ∧ zS (nl x ≤ 16384) ∧ zS (nl y ≤ 16384) ∧ zS (Nat.gcd x y = Nat.gcd a b)) (fun _ bv _ => strV bv)
 case atStart => exact ⟨a, b, s, t, rfl, rfl, Below.refl _ _, HS, HT, HA, HB, zH rfl⟩
 case round =>
  obtain ⟨x, y, X, Y, rfl, rfl, hbw, HX, HY, LX, LY, HG⟩ := hrel
  have e2 := xX Y
  have hz : Y.size = nl y := by rw [← HY.out, yE]
  by_cases hy : y = 0
  ·
   rw [decide_eq_true (by rw [hz, hy, nl_zero])] at e2
   have eX : X = v := by
    have h := HG.out
    rw [hy, Nat.gcd_zero_right] at h
    rw [← HX.out, ← HV.out, h]
   subst eX
   clear hz hy
   go_wp2
   go_ret
   exact ⟨rfl, hbw⟩
  ·
   have hp := nl_pos y hy
   rw [decide_eq_false (by omega)] at e2
   obtain ⟨q, hq⟩ : ∃ q, yG (x / y) = q := ⟨_, rfl⟩
   obtain ⟨r, hr⟩ : ∃ r, x % y = r := ⟨_, rfl⟩
   obtain ⟨R, hR⟩ : ∃ R, yG (x % y) = R := ⟨_, rfl⟩
   have rl : r < y := by rw [← hr]; exact Nat.mod_lt _ (by omega)
   have HQ := zH hq
   have HR := zH hR
   have HR2 : zS (yG r = R) := zH (by rw [← hr]; exact hR)
   have HY0 := zH hy
   have LR : zS (nl r ≤ 16384) := zH (by have := xF r y (by omega); have := LY.out; omega)
   have NG : zS (Nat.gcd y r = Nat.gcd a b) := zH (by rw [← HG.out, ← hr, Nat.gcd_comm y, ← Nat.gcd_rec, Nat.gcd_comm])
   have M1 := zH (strV_nb y Y HY.out)
   have M2 := zH (strV_nb r R HR2.out)
   clear hz hy hq hr hR hp
   go_wp2_with fail
   refine (nat_Div x y X Y q R HX.out HY.out LX.out HY0.out HQ.out HR.out _).mono ?_
   rintro e w1 ⟨rfl, hb1⟩
   go_wp2
   go_roundw
   case rel => exact ⟨y, r, Y, R, rfl, rfl, hbw.trans (hb1.mono hbw.size), HY, HR2, LY, LR, NG⟩
   case measure => rw [M1.out, M2.out]; exact rl
def SL (B : Nat) (w : World) (p : Option Addr) (L c n : Nat) : Prop := n < 2 ^ (64 * L) ∧ L ≤ c ∧ (0 < L → ∃ b o, p = some ⟨b, o, none⟩ ∧ b < B ∧ ∀ k, k < L → w.cell? ⟨b, o + k, none⟩ = some (.int .u64 (wd n k : Nat)))
theorem SL.mono {B B' : Nat} {w : World} {p : Option Addr} {L c n : Nat} (h : SL B w p L c n) (hB : B ≤ B') : SL B' w p L c n :=
 ⟨h.1, h.2.1, fun hL => by
  obtain ⟨b, o, hp, hlt, hc⟩ := h.2.2 hL
  exact ⟨b, o, hp, Nat.lt_of_lt_of_le hlt hB, hc⟩⟩
theorem SL.below {w w' : World} {p : Option Addr} {L c n B B' : Nat} (h : SL B w p L c n) (hb : Below B' w w') (hB : B ≤ B') : SL B w' p L c n := by
 refine ⟨h.1, h.2.1, fun hL => ?_⟩
 obtain ⟨b, o, hp, hlt, hc⟩ := h.2.2 hL
 refine ⟨b, o, hp, hlt, fun k hk => ?_⟩
 rw [hb.cell (p := ⟨b, o + k, none⟩) (show b < B' by omega)]
 exact hc k hk
theorem cell_size {w : World} {b o : Nat} {v : Value} (h : w.cell? ⟨b, o, none⟩ = some v) : b < w.heap.size := by
 by_cases e : b < w.heap.size
 ·
  exact e
 ·
  exfalso
  have : w.heap[b]? = none := Array.getElem?_eq_none (by omega)
  simp [World.cell?, this] at h
def qP (g : Nat) (w w' : World) : Prop := w'.os = w.os ∧ w'.tape = w.tape ∧ w'.output = w.output ∧ w.heap.size ≤ w'.heap.size ∧ ∀ k, k < w.heap.size → k ≠ g → w'.heap[k]? = w.heap[k]?
theorem qP.refl (g : Nat) (w : World) : qP g w w := ⟨rfl, rfl, rfl, Nat.le_refl _, fun _ _ _ => rfl⟩
theorem qP.trans {g : Nat} {a b c : World} (h : qP g a b) (k : qP g b c) : qP g a c :=
 ⟨k.1.trans h.1, k.2.1.trans h.2.1, k.2.2.1.trans h.2.2.1, Nat.le_trans h.2.2.2.1 k.2.2.2.1, fun i hi hg => (k.2.2.2.2 i (Nat.lt_of_lt_of_le hi h.2.2.2.1) hg).trans (h.2.2.2.2 i hi hg)⟩
theorem qP.size {g : Nat} {a b : World} (h : qP g a b) : a.heap.size ≤ b.heap.size := h.2.2.2.1
theorem qP.ofBelow {g B : Nat} {a b : World} (h : Below B a b) (hB : a.heap.size ≤ B) : qP g a b := ⟨h.os, h.tape, h.output, h.size, fun k hk _ => h.block k (by omega)⟩
theorem qP.setCell {g o : Nat} {a w : World} (h : qP g a w) (u : Value) : qP g a (w.setCell ⟨g, o, none⟩ u) :=
 h.trans ⟨rfl, rfl, rfl, by simp [World.setCell], fun k _ hg => Below.heap_setCell _ _ _ _ hg⟩
theorem qP.drew {g : Nat} {a w : World} (h : qP g a w) : qP g a w.drew := h.trans ⟨rfl, rfl, rfl, Nat.le_refl _, fun _ _ _ => rfl⟩
theorem qP.toBelow {g B : Nat} {a w w' : World} (h : Below B a w) (k : qP g w w') (hB : B ≤ g) (hs : B ≤ w.heap.size) : Below B a w' :=
 h.trans ⟨k.1, k.2.1, k.2.2.1, k.2.2.2.1, fun i hi => k.2.2.2.2 i (by omega) (by omega)⟩
theorem qP.row {g b : Nat} {w w' : World} {c : Array Value} {t : TypeId} (k : qP g w w') (hb : b ≠ g) (h : w.heap[b]? = some (.cells c t)) : w'.heap[b]? = some (.cells c t) := by
 rw [k.2.2.2.2 b (Array.getElem?_eq_some_iff.1 h).1 hb, h]
theorem SL.only {B g : Nat} {w w' : World} {p : Option Addr} {L c n : Nat} (h : SL B w p L c n) (k : qP g w w') (hB : B ≤ g) : SL B w' p L c n := by
 refine ⟨h.1, h.2.1, fun hL => ?_⟩
 obtain ⟨b, o, hp, hlt, hc⟩ := h.2.2 hL
 refine ⟨b, o, hp, hlt, fun i hi => ?_⟩
 have h1 := hc i hi
 rw [World.cell?_of_block (w := w) (k.2.2.2.2 b (cell_size h1) (by omega))]
 exact h1

theorem l_at (w : World) (p : Option Addr) (L c n i x : Nat) {B : Nat} (h : SL B w p L c n) (hx : wd n i = x) (hL : L ≤ 100000) :
  Calls Tryz.prog 299 #[.slice p L c, .int .i64 (i : Nat)] w fun r w' => r = .returned (.int .u64 x) ∧ w' = w := by
 by_cases hi : L ≤ i
 ·
  have e : x = 0 := by rw [← hx]; exact wd_high h.1 hi
  subst e
  have d1 : decide (L ≤ i) = true := decide_eq_true hi
  clear hx h
  go_enter Tryz.func299, Tryz.ntmps299
  go_wp2
  go_ret
  exact ⟨rfl, rfl⟩
 ·
  obtain ⟨b, o, rfl, hlt, hc⟩ := h.2.2 (by omega)
  have c1 := hc i (by omega)
  have d1 : decide (L ≤ i) = false := decide_eq_false hi
  rw [hx] at c1
  clear hx h hc
  go_enter Tryz.func299, Tryz.ntmps299
  go_wp2
  go_ret
  exact ⟨rfl, rfl⟩
end Go.Proofs.YtkblmpmkchkpjaaGreatDoor
