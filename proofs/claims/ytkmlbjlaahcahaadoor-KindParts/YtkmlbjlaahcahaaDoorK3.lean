/-
  Package kind: sign, field and fraction of bits; what is put together of two.
-/
import Derived.Test.YtkmlbjlaahcahaaDoorK2
namespace Go.Proofs.YtkmlbjlaahcahaaDoor
open Go.RowKit WMath
set_option linter.unusedSimpArgs false
set_option linter.unusedVariables false

def frm (n pl : Nat) : Nat := if pl < 64 then n % 18446744073709551616 / 2 ^ pl else n / 2 ^ pl
theorem or0 (a : Nat) (h : a < 18446744073709551616) : bits .or .u64 (a : Int) 0 = (a : Int) := by
  have := bits_or_u64_nat a 0 h (by decide)
  simpa using this
theorem or1 (a : Nat) (h : a < 18446744073709551616) : bits .or .u64 0 (a : Int) = (a : Int) := by
  have := bits_or_u64_nat 0 a (by decide) h
  simpa using this
theorem pow64 (k : Nat) : ((2 : Int) ^ k) = ((2 ^ k : Nat) : Int) := by norm_cast
theorem from_is (x y n pl : Nat) (hx : x < 18446744073709551616) (hy : y < 18446744073709551616) (hn : y + 18446744073709551616 * x = n) (hp : pl < 128) :
    bits .or .u64 ((y : Int) / 2 ^ min pl 64) ((x : Int) / 2 ^ min (IntKind.u64.wrap ((pl : Int) - 64)).toNat 64) = (frm n pl : Int) := by
  unfold frm
  rw [IntKind.wrap_u64]
  by_cases h : pl < 64
  · have e1 : min (((pl : Int) - 64) % 18446744073709551616).toNat 64 = 64 := by omega
    have e2 : min pl 64 = pl := by omega
    have e3 : ((x : Int) / 2 ^ 64) = 0 := by
      rw [show ((2 : Int) ^ 64) = 18446744073709551616 by decide]; omega
    have e4 : n % 18446744073709551616 = y := by omega
    rw [e1, e2, e3, if_pos h, e4, pow64, ← Int.natCast_ediv]
    exact or0 _ (Nat.lt_of_le_of_lt (Nat.div_le_self _ _) hy)
  · have e1 : min (((pl : Int) - 64) % 18446744073709551616).toNat 64 = pl - 64 := by omega
    have e2 : min pl 64 = 64 := by omega
    have e3 : ((y : Int) / 2 ^ 64) = 0 := by
      rw [show ((2 : Int) ^ 64) = 18446744073709551616 by decide]; omega
    have e4 : n / 2 ^ pl = x / 2 ^ (pl - 64) := by
      rw [show (2 : Nat) ^ pl = 18446744073709551616 * 2 ^ (pl - 64) by rw [show (18446744073709551616 : Nat) = 2 ^ 64 by decide, ← Nat.pow_add]; congr 1; omega, ← Nat.div_div_eq_div_mul]
      congr 1; omega
    rw [e1, e2, e3, if_neg h, e4, pow64, ← Int.natCast_ediv]
    exact or1 _ (Nat.lt_of_le_of_lt (Nat.div_le_self _ _) hx)
theorem kfrom_is (x y n pl v : Nat) (hx : x < 18446744073709551616) (hy : y < 18446744073709551616) (hn : y + 18446744073709551616 * x = n) (hp : pl < 128) (hv : frm n pl = v) (w : World) : Calls Tryd.prog 62 #[.agg #[.int .u64 (x : Nat), .int .u64 (y : Nat)], .int .u64 (pl : Nat)] w fun r w' => r = .returned (.int .u64 (v : Nat)) ∧ Below w.heap.size w w' := by
  subst hv
  exact k_from x y pl _ (from_is x y n pl hx hy hn hp) w

theorem and_one (a : Nat) (h : a < 18446744073709551616) : bits .and .u64 (a : Int) 1 = ((a % 2 : Nat) : Int) := and_mask a 1 h (by decide)
theorem frm_lt (n pl : Nat) (hn : n < 340282366920938463463374607431768211456) : frm n pl < 18446744073709551616 := by
  unfold frm
  split
  · exact Nat.lt_of_le_of_lt (Nat.div_le_self _ _) (Nat.mod_lt _ (by decide))
  · rename_i h
    have : (2 : Nat) ^ 64 ≤ 2 ^ pl := Nat.pow_le_pow_right (by decide) (by omega)
    rw [Nat.div_lt_iff_lt_mul (Nat.two_pow_pos _)]
    rw [show (2 : Nat) ^ 64 = 18446744073709551616 by decide] at this
    have h2 := Nat.mul_le_mul_left 18446744073709551616 this
    omega
theorem kbit_is (x y n pl : Nat) (o : Bool) (hx : x < 18446744073709551616) (hy : y < 18446744073709551616) (hn : y + 18446744073709551616 * x = n) (hp : pl < 128) (ho : decide (frm n pl % 2 = 1) = o) (w : World) : Calls Tryd.prog 40 #[.agg #[.int .u64 (x : Nat), .int .u64 (y : Nat)], .int .u64 (pl : Nat)] w fun r w' => r = .returned (.bool o) ∧ Below w.heap.size w w' := by
  obtain ⟨v, hv⟩ : ∃ v, frm n pl = v := ⟨_, rfl⟩
  rw [hv] at ho
  have KF := box (kfrom_is x y n pl v hx hy hn hp hv)
  have vl := frm_lt n pl (by omega)
  rw [hv] at vl
  have ha := and_one v vl
  have hd : (((v % 2 : Nat) : Int) == 1) = o := by rw [← ho]; by_cases h : v % 2 = 1 <;> simp [h] <;> omega
  obtain ⟨u, hu⟩ : ∃ u, v % 2 = u := ⟨_, rfl⟩
  rw [hu] at ha hd
  clear ho hv hn hx hy hp hu vl
  obtain ⟨Rb_0, B0⟩ := kopn1 w (Obj.cells #[.int .u64 (x : Nat), .int .u64 (y : Nat)] 25)
  go_enter Tryd.func40, Tryd.ntmps40
  go_wp2_with fail
  refine (KF.out _).mono ?_
  rintro r w1 ⟨rfl, b1⟩
  have B1 : Below w.heap.size w w1 := btr7 B0 b1
  have Rb_1 := heap_of b1 _ _ _ Rb_0
  clear b1 B0 Rb_0
  obtain ⟨cb_1_0, cb_1_1⟩ := cell7t Rb_1
  go_wp2
  go_ret
  exact ⟨rfl, B1⟩

theorem pV_lim {f : Int} (h : Is4 f) : fP f - 1 = (pV f : Int) ∧ IntKind.i64.wrap (fP f - 1) = (pV f : Int) ∧ IntKind.u64.wrap ((pV f : Nat) : Int) = (pV f : Int) ∧ pV f < 128 ∧ wV f < 128 ∧ fW f - 1 = (wV f : Int) ∧ IntKind.i64.wrap (fW f - 1) = (wV f : Int) ∧ IntKind.u64.wrap ((wV f : Nat) : Int) = (wV f : Int) := by
  rcases h with rfl | rfl | rfl | rfl <;> decide +kernel

theorem kfw (f : Int) (hf : Is4 f) (p : Nat) (hp : pV f = p) (w : World) (hT : FAt w) : Calls Tryd.prog 41 #[.int .u8 f] w fun r w' => r = .returned (.int .u64 (p : Nat)) ∧ Below w.heap.size w w' := by
  subst hp
  have f4 := is4_ok hf
  obtain ⟨_, a2, a3, _⟩ := pV_lim hf
  obtain ⟨P, hP⟩ : ∃ P, fP f = P := ⟨_, rfl⟩
  rw [hP] at a2
  obtain ⟨p, hp⟩ : ∃ p, pV f = p := ⟨_, rfl⟩
  rw [hp] at a2 a3 ⊢
  have TT := box hT
  have HP := box hP
  clear hT hf hp hP
  have B0 : Below w.heap.size w w := (Below.refl _ _)
  go_enter Tryd.func41, Tryd.ntmps41
  go_wp2_with fail
  refine ((kb_precision f P f4.1 f4.2.1 HP.out _ (fatB TT.out B0))).mono ?_
  rintro r w1 ⟨rfl, b1⟩
  have B1 : Below w.heap.size w w1 := btr7 B0 b1
  clear b1 B0 
  go_wp2
  go_ret
  exact ⟨rfl, B1⟩

/-- The exponent field and the fraction, as the words have them. -/
theorem field_of {f : Int} (h : Is4 f) (n : Nat) : frm n (pV f) % (oV f + 1) = kE f n := by
  unfold frm kE
  rcases h with rfl | rfl | rfl | rfl
  all_goals
    simp only [show pV 0 = 23 by decide, show wV 0 = 31 by decide, show oV 0 = 255 by decide, show pV 1 = 52 by decide, show wV 1 = 63 by decide, show oV 1 = 2047 by decide, show pV 2 = 10 by decide, show wV 2 = 15 by decide, show oV 2 = 31 by decide, show pV 3 = 112 by decide, show wV 3 = 127 by decide, show oV 3 = 32767 by decide]
    simp only [Nat.reducePow, Nat.reduceAdd, Nat.reduceLT, if_true, if_false]
    try omega
theorem sign_of {f : Int} (h : Is4 f) (n : Nat) : decide (frm n (wV f) % 2 = 1) = kN f n := by
  unfold frm kN
  rcases h with rfl | rfl | rfl | rfl
  all_goals
    simp only [show wV 0 = 31 by decide, show wV 1 = 63 by decide, show wV 2 = 15 by decide, show wV 3 = 127 by decide]
    simp only [Nat.reducePow, Nat.reduceAdd, Nat.reduceLT, if_true, if_false, decide_eq_decide]
    try omega
theorem quiet_of {f : Int} (h : Is4 f) (t : Nat) (ht : t < 2 ^ pV f) : decide (frm t (pV f - 1) % 2 = 1) = decide (2 ^ (pV f - 1) ≤ t) := by
  unfold frm
  rcases h with rfl | rfl | rfl | rfl
  all_goals
    simp only [show pV 0 = 23 by decide, show pV 1 = 52 by decide, show pV 2 = 10 by decide, show pV 3 = 112 by decide] at ht ⊢
    simp only [Nat.reducePow, Nat.reduceAdd, Nat.reduceSub, Nat.reduceLT, if_true, if_false, decide_eq_decide] at ht ⊢
    omega
theorem top_mask {f : Int} (h : Is4 f) : IntKind.i64.wrap (fW f - fP f) = fW f - fP f ∧ 0 ≤ fW f - fP f ∧ IntKind.u64.wrap (IntKind.u64.wrap (2 ^ min (fW f - fP f).toNat 64) - 1) = (oV f : Int) ∧ oV f = 2 ^ (fW f - fP f).toNat - 1 ∧ (fW f - fP f).toNat ≤ 64 := by
  rcases h with rfl | rfl | rfl | rfl <;> decide +kernel
set_option maxHeartbeats 1000000 in
theorem kfield_is (f : Int) (hf : Is4 f) (x y n e : Nat) (hx : x < 18446744073709551616) (hy : y < 18446744073709551616) (hn : y + 18446744073709551616 * x = n) (he : kE f n = e) (w : World) (hT : FAt w) : Calls Tryd.prog 37 #[.int .u8 f, .agg #[.int .u64 (x : Nat), .int .u64 (y : Nat)]] w fun r w' => r = .returned (.int .u64 (e : Nat)) ∧ Below w.heap.size w w' := by
  have f4 := is4_ok hf
  obtain ⟨_, _, _, a4, _⟩ := pV_lim hf
  obtain ⟨t1, t2, t3, t4, t5⟩ := top_mask hf
  obtain ⟨v, hv⟩ : ∃ v, frm n (pV f) = v := ⟨_, rfl⟩
  have KF := box (kfrom_is x y n (pV f) v hx hy hn a4 hv)
  have vl := frm_lt n (pV f) (by omega)
  rw [hv] at vl
  have ha : bits .and .u64 (v : Int) (oV f : Int) = (e : Int) := by
    have := and_mask v (fW f - fP f).toNat vl t5
    rw [← t4] at this
    rw [this, ← he, ← field_of hf, hv, t4]
    have := Nat.two_pow_pos (fW f - fP f).toNat
    rw [Nat.sub_add_cancel this]
  obtain ⟨q, hq⟩ : ∃ q, fW f = q := ⟨_, rfl⟩
  obtain ⟨p, hp⟩ : ∃ q, fP f = q := ⟨_, rfl⟩
  obtain ⟨k, hk⟩ : ∃ q, pV f = q := ⟨_, rfl⟩
  obtain ⟨o, ho⟩ : ∃ q, oV f = q := ⟨_, rfl⟩
  rw [hq, hp] at t1 t2 t3
  rw [ho] at t3 ha
  rw [hk] at KF
  obtain ⟨d, hd⟩ : ∃ d, q - p = d := ⟨_, rfl⟩
  rw [hd] at t2 t3
  have t1' : IntKind.i64.wrap (q - p) = d := t1.trans hd
  obtain ⟨m, rfl⟩ := Int.eq_ofNat_of_zero_le t2
  rw [Int.toNat_natCast] at t3
  have TT := box hT
  have HQ := box hq
  have HP := box hp
  have HK := box hk
  have HF := box hf
  clear hT hf hq hp hk ho hv hn hx hy he vl t1 t2 t4 t5 a4 hd
  obtain ⟨Rb_0, B0⟩ := kopn1 w (Obj.cells #[.int .u64 (x : Nat), .int .u64 (y : Nat)] 25)
  go_enter Tryd.func37, Tryd.ntmps37
  go_wp2_with fail
  refine (kb_width f q f4.1 f4.2.1 HQ.out _ (fatB TT.out B0)).mono ?_
  rintro r w1 ⟨rfl, b1⟩
  have B1 : Below w.heap.size w w1 := btr7 B0 b1
  have Rb_1 := heap_of b1 _ _ _ Rb_0
  clear b1 B0 Rb_0
  obtain ⟨cb_1_0, cb_1_1⟩ := cell7t Rb_1
  go_wp2_with fail
  refine (kb_precision f p f4.1 f4.2.1 HP.out _ (fatB TT.out B1)).mono ?_
  rintro r w2 ⟨rfl, b2⟩
  have B2 : Below w.heap.size w w2 := btr7 B1 b2
  have Rb_2 := heap_of b2 _ _ _ Rb_1
  clear b2 B1 Rb_1 cb_1_0 cb_1_1
  obtain ⟨cb_2_0, cb_2_1⟩ := cell7t Rb_2
  go_wp2_with fail
  obtain ⟨F, hF1, hF2⟩ := below_fun w2
  have fb_0 := fun u => cell7 (heap_of (hF1 u) _ _ _ Rb_2) 0 _ rfl
  have fb_1 := fun u => cell7 (heap_of (hF1 u) _ _ _ Rb_2) 1 _ rfl
  have TF : Box (∀ u, FAt (F u)) := box (fun u => fatB TT.out (btr7 B2 (hF1 u)))
  refine wp_region_below F hF2 (by kernel_rfl) (by kernel_rfl) ?_
  repeat first | go_big_quiet_step (first | (go_at_call 41; exact quietF hF1 hF2 (kfw f HF.out k HK.out _ (TF.out _))) | (go_at_call 62; exact quietF hF1 hF2 (KF.out _)) | fail) | quiet_step (first | (go_at_call 41; exact quietF hF1 hF2 (kfw f HF.out k HK.out _ (TF.out _))) | (go_at_call 62; exact quietF hF1 hF2 (KF.out _)) | fail)
  refine wpQuiet_nil ?_
  rintro _ ⟨uW, rfl⟩
  have B3 := btr7 B2 (hF1 uW)
  have Rb_3 := heap_of (hF1 uW) _ _ _ Rb_2
  obtain ⟨w3, hw⟩ : ∃ V, F uW = V := ⟨_, rfl⟩
  rw [hw] at B3 Rb_3
  try rw [hw]
  clear hw hF1 hF2 B2 fb_0 fb_1 Rb_2 cb_2_0 cb_2_1
  clear TF
  clear F
  obtain ⟨cb_3_0, cb_3_1⟩ := cell7t Rb_3
  go_wp2
  go_ret
  exact ⟨rfl, B3⟩
end Go.Proofs.YtkmlbjlaahcahaaDoor
