/-
  What the functions that the statement reaches return: part 12 (K2, K3, K4, K5, K6, K7).
-/
import Derived.Lib.MinMax
import Derived.Deep.RegionHeld3
import Derived.Test.YtkblmpmkchkpjaaGreatDoorNe11
namespace Go.Proofs.YtkblmpmkchkpjaaGreatDoor
set_option maxRecDepth 100000
set_option maxHeartbeats 40000000
open Go.RowKit WMath
theorem zT {w : World} {g : Nat} {T : TypeId} {a b : Value} (R : w.heap[g]? = some (.cells #[a, b] T)) : w.cell? ⟨g, 0, none⟩ = some a ∧ w.cell? ⟨g, 1, none⟩ = some b := ⟨zL R 0 _ rfl, zL R 1 _ rfl⟩
theorem kopn1 (w : World) (o : Obj) : (w.alloc o).heap[w.heap.size]? = some o ∧ Below w.heap.size w (w.alloc o) := ⟨heap_alloc_last _ _, (Below.refl _ _).alloc (Nat.le_refl _) _⟩
theorem q9 (w : World) (o1 o2 : Obj) : ((w.alloc o1).alloc o2).heap[w.heap.size]? = some o1 ∧ ((w.alloc o1).alloc o2).heap[w.heap.size + 1]? = some o2 ∧ Below w.heap.size w ((w.alloc o1).alloc o2) := by
 obtain ⟨r0, b⟩ := kopn1 w o1
 have z : (w.alloc o1).heap.size = w.heap.size + 1 := by simp only [zX]
 exact ⟨by rw [yZ _ _ _ (by omega)]; exact r0, by rw [← z]; exact heap_alloc_last _ _, b.alloc (by omega) _⟩
theorem k_from (x y pl : Nat) (v : Int) (hv : bits .or .u64 ((y : Int) / 2 ^ min pl 64) ((x : Int) / 2 ^ min (IntKind.u64.wrap ((pl : Int) - 64)).toNat 64) = v) (w : World) :
  Calls Tryz.prog 166 #[.agg #[.int .u64 x, .int .u64 y], .int .u64 pl] w fun e w' => e = .returned (.int .u64 v) ∧ Below w.heap.size w w' := by
 subst hv
 go_enter Tryz.func166, Tryz.ntmps166
 go_wp2
 go_ret
 exact ⟨rfl, yP _ _⟩

theorem k_placed (x pl : Nat) (H L : Int) (hH : IntKind.u64.wrap ((x : Int) * 2 ^ min (IntKind.u64.wrap ((pl : Int) - 64)).toNat 64) = H) (hL : IntKind.u64.wrap ((x : Int) * 2 ^ min pl 64) = L) (w : World) :
  Calls Tryz.prog 185 #[.int .u64 x, .int .u64 pl] w fun e w' => e = .returned (.agg #[.int .u64 H, .int .u64 L]) ∧ Below w.heap.size w w' := by
 subst hH hL
 go_enter Tryz.func185, Tryz.ntmps185
 go_wp2
 exact bodyPost_ret (v := .agg #[.int .u64 _, .int .u64 _]) (by simp [results, Tryz.results185, go_sem]; exact ⟨rfl, rfl⟩) rfl ⟨by simp, yP _ _⟩

theorem k_plus (a b c d H L K : Int) (hH : IntKind.u64.wrap (a + c) = H) (hL : IntKind.u64.wrap (b + d) = L) (hK : (if L < b then IntKind.u64.wrap (H + 1) else H) = K) (w : World) :
  Calls Tryz.prog 182 #[.agg #[.int .u64 a, .int .u64 b], .agg #[.int .u64 c, .int .u64 d]] w fun e w' => e = .returned (.agg #[.int .u64 K, .int .u64 L]) ∧ Below w.heap.size w w' := by
 by_cases h : L < b
 ·
  rw [if_pos h] at hK
  have hd : decide (L < b) = true := decide_eq_true h
  go_enter Tryz.func182, Tryz.ntmps182
  go_wp2
  exact bodyPost_ret (v := .agg #[.int .u64 K, .int .u64 L]) (by simp [results, Tryz.results182, go_sem]) rfl ⟨rfl, yD (yP _ _) (yD (yP _ _) (yD (yP _ _) (yP _ _)))⟩
 ·
  rw [if_neg h] at hK
  subst hK
  have hd : decide (L < b) = false := decide_eq_false h
  go_enter Tryz.func182, Tryz.ntmps182
  go_wp2
  exact bodyPost_ret (v := .agg #[.int .u64 H, .int .u64 L]) (by simp [results, Tryz.results182, go_sem]) rfl ⟨rfl, yD (yP _ _) (yD (yP _ _) (yD (yP _ _) (yP _ _)))⟩
theorem kb_width (f v : Int) (h0 : 0 ≤ f) (h1 : f ≤ 255) (hv : fW f = v) (w : World) (hT : yF w) :
  Calls Tryz.prog 79 #[.int .u8 f] w fun e w' => e = .returned (.int .i64 v) ∧ Below w.heap.size w w' :=
 (s_width f v h0 h1 hv w hT).mono fun _ _ h => ⟨h.1, by rw [h.2]; exact yP _ _⟩
theorem qG (f v : Int) (h0 : 0 ≤ f) (h1 : f ≤ 255) (hv : fP f = v) (w : World) (hT : yF w) :
  Calls Tryz.prog 165 #[.int .u8 f] w fun e w' => e = .returned (.int .i64 v) ∧ Below w.heap.size w w' :=
 (s_precision f v h0 h1 hv w hT).mono fun _ _ h => ⟨h.1, by rw [h.2]; exact yP _ _⟩
theorem kb_emax (f v : Int) (h0 : 0 ≤ f) (h1 : f ≤ 255) (hv : fE f = v) (w : World) (hT : yF w) :
  Calls Tryz.prog 117 #[.int .u8 f] w fun e w' => e = .returned (.int .i64 v) ∧ Below w.heap.size w w' :=
 (s_emax f v h0 h1 hv w hT).mono fun _ _ h => ⟨h.1, by rw [h.2]; exact yP _ _⟩
end Go.Proofs.YtkblmpmkchkpjaaGreatDoor
namespace Go.Proofs.YtkblmpmkchkpjaaGreatDoor
set_option maxRecDepth 100000
set_option maxHeartbeats 40000000
open Go.RowKit WMath
set_option linter.unusedSimpArgs false
set_option linter.unusedVariables false
def frm (n pl : Nat) : Nat := if pl < 64 then n % 18446744073709551616 / 2 ^ pl else n / 2 ^ pl
theorem or0 (a : Nat) (h : a < 18446744073709551616) : bits .or .u64 (a : Int) 0 = (a : Int) := by
 have := bits_or_u64_nat a 0 h (by decide)
 simpa using this
theorem or1 (a : Nat) (h : a < 18446744073709551616) : bits .or .u64 0 (a : Int) = (a : Int) := by
 have := bits_or_u64_nat 0 a (by decide) h
 simpa using this
theorem pow64 (k : Nat) : ((2 : Int) ^ k) = ((2 ^ k : Nat) : Int) := by norm_cast
theorem from_is (x y n pl : Nat) (hx : x < 18446744073709551616) (hy : y < 18446744073709551616) (hn : y + 18446744073709551616 * x = n) (hp : pl < 128) :
  bits .or .u64 ((y : Int) / 2 ^ min pl 64) ((x : Int) / 2 ^ min (IntKind.u64.wrap ((pl : Int) - 64)).toNat 64) = (frm n pl : Int) := by
 unfold frm
 rw [IntKind.wrap_u64]
 by_cases h : pl < 64
 ·
  have e1 : min (((pl : Int) - 64) % 18446744073709551616).toNat 64 = 64 := by omega
  have e2 : min pl 64 = pl := by omega
  have e3 : ((x : Int) / 2 ^ 64) = 0 := by
   rw [show ((2 : Int) ^ 64) = 18446744073709551616 by decide]; omega
  have e4 : n % 18446744073709551616 = y := by omega
  rw [e1, e2, e3, if_pos h, e4, pow64, ← Int.natCast_ediv]
  exact or0 _ (Nat.lt_of_le_of_lt (Nat.div_le_self _ _) hy)
 ·
  have e1 : min (((pl : Int) - 64) % 18446744073709551616).toNat 64 = pl - 64 := by omega
  have e2 : min pl 64 = 64 := by omega
  have e3 : ((y : Int) / 2 ^ 64) = 0 := by
   rw [show ((2 : Int) ^ 64) = 18446744073709551616 by decide]; omega
  have e4 : n / 2 ^ pl = x / 2 ^ (pl - 64) := by
   rw [show (2 : Nat) ^ pl = 18446744073709551616 * 2 ^ (pl - 64) by rw [show (18446744073709551616 : Nat) = 2 ^ 64 by decide, ← Nat.pow_add]; congr 1; omega, ← Nat.div_div_eq_div_mul]
   congr 1; omega
  rw [e1, e2, e3, if_neg h, e4, pow64, ← Int.natCast_ediv]
  exact or1 _ (Nat.lt_of_le_of_lt (Nat.div_le_self _ _) hx)
theorem kfrom_is (x y n pl v : Nat) (hx : x < 18446744073709551616) (hy : y < 18446744073709551616) (hn : y + 18446744073709551616 * x = n) (hp : pl < 128) (hv : frm n pl = v) (w : World) : Calls Tryz.prog 166 #[.agg #[.int .u64 x, .int .u64 y], .int .u64 pl] w fun r w' => r = .returned (.int .u64 v) ∧ Below w.heap.size w w' := by
 subst hv
 exact k_from x y pl _ (from_is x y n pl hx hy hn hp) w

theorem and_one (a : Nat) (h : a < 18446744073709551616) : bits .and .u64 (a : Int) 1 = ((a % 2 : Nat) : Int) := and_mask a 1 h (by decide)
theorem frm_lt (n pl : Nat) (hn : n < 340282366920938463463374607431768211456) : frm n pl < 18446744073709551616 := by
 unfold frm
 split
 ·
  exact Nat.lt_of_le_of_lt (Nat.div_le_self _ _) (Nat.mod_lt _ (by decide))
 ·
  rename_i h
  have : (2 : Nat) ^ 64 ≤ 2 ^ pl := Nat.pow_le_pow_right (by decide) (by omega)
  rw [Nat.div_lt_iff_lt_mul (Nat.two_pow_pos _)]
  rw [show (2 : Nat) ^ 64 = 18446744073709551616 by decide] at this
  have h2 := Nat.mul_le_mul_left 18446744073709551616 this
  omega
theorem kbit_is (x y n pl : Nat) (o : Bool) (hx : x < 18446744073709551616) (hy : y < 18446744073709551616) (hn : y + 18446744073709551616 * x = n) (hp : pl < 128) (ho : decide (frm n pl % 2 = 1) = o) (w : World) : Calls Tryz.prog 78 #[.agg #[.int .u64 x, .int .u64 y], .int .u64 pl] w fun r w' => r = .returned (.bool o) ∧ Below w.heap.size w w' := by
 obtain ⟨v, hv⟩ : ∃ v, frm n pl = v := ⟨_, rfl⟩
 rw [hv] at ho
 have KF := zH (kfrom_is x y n pl v hx hy hn hp hv)
 have vl := frm_lt n pl (by omega)
 rw [hv] at vl
 have ha := and_one v vl
 have hd : (((v % 2 : Nat) : Int) == 1) = o := by rw [← ho]; by_cases h : v % 2 = 1 <;> simp [h] <;> omega
 obtain ⟨u, hu⟩ : ∃ u, v % 2 = u := ⟨_, rfl⟩
 rw [hu] at ha hd
 clear ho hv hn hx hy hp hu vl
 obtain ⟨Aa, B0⟩ := kopn1 w (Obj.cells #[.int .u64 x, .int .u64 y] 25)
 go_enter Tryz.func78, Tryz.ntmps78
 go_wp2_with fail
 refine (KF.out _).mono ?_
 rintro r w1 ⟨rfl, b1⟩
 have B1 : Below w.heap.size w w1 := yD B0 b1
 have Ab := zA b1 _ _ _ Aa
 clear b1 B0 Aa
 obtain ⟨Ac, Ad⟩ := zT Ab
 go_wp2
 go_ret
 exact ⟨rfl, B1⟩

theorem pV_lim {f : Int} (h : xH f) : fP f - 1 = (pV f : Int) ∧ IntKind.i64.wrap (fP f - 1) = (pV f : Int) ∧ IntKind.u64.wrap ((pV f : Nat) : Int) = (pV f : Int) ∧ pV f < 128 ∧ wV f < 128 ∧ fW f - 1 = (wV f : Int) ∧ IntKind.i64.wrap (fW f - 1) = (wV f : Int) ∧ IntKind.u64.wrap ((wV f : Nat) : Int) = (wV f : Int) := by
 rcases h with rfl | rfl | rfl | rfl <;> decide +kernel

theorem kfw (f : Int) (hf : xH f) (p : Nat) (hp : pV f = p) (w : World) (hT : yF w) : Calls Tryz.prog 128 #[.int .u8 f] w fun r w' => r = .returned (.int .u64 p) ∧ Below w.heap.size w w' := by
 subst hp
 have f4 := yY hf
 obtain ⟨_, a2, a3, _⟩ := pV_lim hf
 obtain ⟨P, hP⟩ : ∃ P, fP f = P := ⟨_, rfl⟩
 rw [hP] at a2
 obtain ⟨p, hp⟩ : ∃ p, pV f = p := ⟨_, rfl⟩
 rw [hp] at a2 a3 ⊢
 have TT := zH hT
 have HP := zH hP
 clear hT hf hp hP
 have B0 : Below w.heap.size w w := (Below.refl _ _)
 go_enter Tryz.func128, Tryz.ntmps128
 go_wp2_with fail
 refine ((qG f P f4.1 f4.2.1 HP.out _ (zW TT.out B0))).mono ?_
 rintro r w1 ⟨rfl, b1⟩
 have B1 : Below w.heap.size w w1 := yD B0 b1
 clear b1 B0 
 go_wp2
 go_ret
 exact ⟨rfl, B1⟩

theorem field_of {f : Int} (h : xH f) (n : Nat) : frm n (pV f) % (oV f + 1) = kE f n := by
 unfold frm kE
 rcases h with rfl | rfl | rfl | rfl
 all_goals
  simp only [show pV 0 = 23 by decide, show wV 0 = 31 by decide, show oV 0 = 255 by decide, show pV 1 = 52 by decide, show wV 1 = 63 by decide, show oV 1 = 2047 by decide, show pV 2 = 10 by decide, show wV 2 = 15 by decide, show oV 2 = 31 by decide, show pV 3 = 112 by decide, show wV 3 = 127 by decide, show oV 3 = 32767 by decide]
  simp only [Nat.reducePow, Nat.reduceAdd, Nat.reduceLT, if_true, if_false]
  try omega
theorem sign_of {f : Int} (h : xH f) (n : Nat) : decide (frm n (wV f) % 2 = 1) = kN f n := by
 unfold frm kN
 rcases h with rfl | rfl | rfl | rfl
 all_goals
  simp only [show wV 0 = 31 by decide, show wV 1 = 63 by decide, show wV 2 = 15 by decide, show wV 3 = 127 by decide]
  simp only [Nat.reducePow, Nat.reduceAdd, Nat.reduceLT, if_true, if_false, decide_eq_decide]
  try omega
theorem quiet_of {f : Int} (h : xH f) (t : Nat) (ht : t < 2 ^ pV f) : decide (frm t (pV f - 1) % 2 = 1) = decide (2 ^ (pV f - 1) ≤ t) := by
 unfold frm
 rcases h with rfl | rfl | rfl | rfl
 all_goals
  simp only [show pV 0 = 23 by decide, show pV 1 = 52 by decide, show pV 2 = 10 by decide, show pV 3 = 112 by decide] at ht ⊢
  simp only [Nat.reducePow, Nat.reduceAdd, Nat.reduceSub, Nat.reduceLT, if_true, if_false, decide_eq_decide] at ht ⊢
  omega
theorem top_mask {f : Int} (h : xH f) : IntKind.i64.wrap (fW f - fP f) = fW f - fP f ∧ 0 ≤ fW f - fP f ∧ IntKind.u64.wrap (IntKind.u64.wrap (2 ^ min (fW f - fP f).toNat 64) - 1) = (oV f : Int) ∧ oV f = 2 ^ (fW f - fP f).toNat - 1 ∧ (fW f - fP f).toNat ≤ 64 := by
 rcases h with rfl | rfl | rfl | rfl <;> decide +kernel
theorem kfield_is (f : Int) (hf : xH f) (x y n e : Nat) (hx : x < 18446744073709551616) (hy : y < 18446744073709551616) (hn : y + 18446744073709551616 * x = n) (he : kE f n = e) (w : World) (hT : yF w) : Calls Tryz.prog 126 #[.int .u8 f, .agg #[.int .u64 x, .int .u64 y]] w fun r w' => r = .returned (.int .u64 e) ∧ Below w.heap.size w w' := by
 have f4 := yY hf
 obtain ⟨_, _, _, a4, _⟩ := pV_lim hf
 obtain ⟨t1, t2, t3, t4, t5⟩ := top_mask hf
 obtain ⟨v, hv⟩ : ∃ v, frm n (pV f) = v := ⟨_, rfl⟩
 have KF := zH (kfrom_is x y n (pV f) v hx hy hn a4 hv)
 have vl := frm_lt n (pV f) (by omega)
 rw [hv] at vl
 have ha : bits .and .u64 (v : Int) (oV f : Int) = (e : Int) := by
  have := and_mask v (fW f - fP f).toNat vl t5
  rw [← t4] at this
  rw [this, ← he, ← field_of hf, hv, t4]
  have := Nat.two_pow_pos (fW f - fP f).toNat
  rw [Nat.sub_add_cancel this]
 obtain ⟨q, hq⟩ : ∃ q, fW f = q := ⟨_, rfl⟩
 obtain ⟨p, hp⟩ : ∃ q, fP f = q := ⟨_, rfl⟩
 obtain ⟨k, hk⟩ : ∃ q, pV f = q := ⟨_, rfl⟩
 obtain ⟨o, ho⟩ : ∃ q, oV f = q := ⟨_, rfl⟩
 rw [hq, hp] at t1 t2 t3
 rw [ho] at t3 ha
 rw [hk] at KF
 obtain ⟨d, hd⟩ : ∃ d, q - p = d := ⟨_, rfl⟩
 rw [hd] at t2 t3
 have t1' : IntKind.i64.wrap (q - p) = d := t1.trans hd
 obtain ⟨m, rfl⟩ := Int.eq_ofNat_of_zero_le t2
 rw [Int.toNat_natCast] at t3
 have TT := zH hT
 have HQ := zH hq
 have HP := zH hp
 have HK := zH hk
 have HF := zH hf
 clear hT hf hq hp hk ho hv hn hx hy he vl t1 t2 t4 t5 a4 hd
 obtain ⟨Ac, B0⟩ := kopn1 w (Obj.cells #[.int .u64 x, .int .u64 y] 25)
 go_enter Tryz.func126, Tryz.ntmps126
 go_wp2_with fail
 refine (kb_width f q f4.1 f4.2.1 HQ.out _ (zW TT.out B0)).mono ?_
 rintro r w1 ⟨rfl, b1⟩
 have B1 : Below w.heap.size w w1 := yD B0 b1
 have Ab := zA b1 _ _ _ Ac
 clear b1 B0 Ac
 obtain ⟨Ae, Af⟩ := zT Ab
 go_wp2_with fail
 refine (qG f p f4.1 f4.2.1 HP.out _ (zW TT.out B1)).mono ?_
 rintro r w2 ⟨rfl, b2⟩
 have B2 : Below w.heap.size w w2 := yD B1 b2
 have Aa := zA b2 _ _ _ Ab
 clear b2 B1 Ab Ae Af
 obtain ⟨Ag, Ah⟩ := zT Aa
 go_wp2_with fail
 obtain ⟨F, hF1, hF2⟩ := zQ w2
 have fb_0 := fun u => zL (zA (hF1 u) _ _ _ Aa) 0 _ rfl
 have fb_1 := fun u => zL (zA (hF1 u) _ _ _ Aa) 1 _ rfl
 have TF : zS (∀ u, yF (F u)) := zH (fun u => zW TT.out (yD B2 (hF1 u)))
 refine zI F hF2 (by kernel_rfl) (by kernel_rfl) ?_
 repeat first | go_big_quiet_step (first | (go_at_call 128; exact zJ hF1 hF2 (kfw f HF.out k HK.out _ (TF.out _))) | (go_at_call 166; exact zJ hF1 hF2 (KF.out _)) | fail) | quiet_step (first | (go_at_call 128; exact zJ hF1 hF2 (kfw f HF.out k HK.out _ (TF.out _))) | (go_at_call 166; exact zJ hF1 hF2 (KF.out _)) | fail)
 refine wpQuiet_nil ?_
 rintro _ ⟨uW, rfl⟩
 have B3 := yD B2 (hF1 uW)
 have Ad := zA (hF1 uW) _ _ _ Aa
 obtain ⟨w3, hw⟩ : ∃ V, F uW = V := ⟨_, rfl⟩
 rw [hw] at B3 Ad
 try rw [hw]
 clear hw hF1 hF2 B2 fb_0 fb_1 Aa Ag Ah
 clear TF
 clear F
 obtain ⟨Ai, Aj⟩ := zT Ad
 go_wp2
 go_ret
 exact ⟨rfl, B3⟩
theorem and_zero (a : Nat) (h : a < 18446744073709551616) : bits .and .u64 (a : Int) 0 = 0 := by
 have := and_mask a 0 h (by decide)
 simpa [Nat.mod_one] using this
theorem and_at (a k : Nat) (m : Int) (v : Nat) (h : a < 18446744073709551616) (hk : k ≤ 64) (hm : ((2 ^ k - 1 : Nat) : Int) = m) (hv : a % 2 ^ k = v) : bits .and .u64 (a : Int) m = (v : Int) := by
 subst hm hv
 exact and_mask a k h hk
theorem kfraction_is (f : Int) (hf : xH f) (x y n u v : Nat) (hx : x < 18446744073709551616) (hy : y < 18446744073709551616) (hn : y + 18446744073709551616 * x = n) (hv : bv7 (kT f n) = (u, v)) (w : World) (hT : yF w) : Calls Tryz.prog 127 #[.int .u8 f, .agg #[.int .u64 x, .int .u64 y]] w fun r w' => r = .returned (.agg #[.int .u64 u, .int .u64 v]) ∧ Below w.heap.size w w' := by
 unfold bv7 kT at hv
 injection hv with h1 h2
 have TT := zH hT
 rcases hf with rfl | rfl | rfl | rfl
 ·
  rw [show pV 0 = 23 by decide] at h1 h2
  have hm : max (23 : Int) 64 = 64 := by decide
  have a1 := and_zero x hx
  have a2 := and_at y 23 8388607 v hy (by decide) (by decide) (by rw [← h2, ← hn]; simp only [Nat.reducePow]; omega)
  have u0 : u = 0 := by rw [← h1]; simp only [Nat.reducePow]; omega
  subst u0
  clear hT h1 h2 hn hx hy
  obtain ⟨Ab, Ac, B0⟩ := q9 w (Obj.cells #[.int .u64 x, .int .u64 y] 25) (Obj.cells #[.int .u64 0, .int .u64 0] 25)
  go_enter Tryz.func127, Tryz.ntmps127
  go_wp2_with fail
  refine (kfw 0 (Or.inl rfl) 23 (by decide) _ (zW TT.out B0)).mono ?_
  rintro r w1 ⟨rfl, b1⟩
  have B1 : Below w.heap.size w w1 := yD B0 b1
  obtain ⟨Ad, Aa⟩ := yB b1 Ab Ac
  clear b1 B0 Ab Ac
  obtain ⟨Ae, Af⟩ := zT Ad
  obtain ⟨Ag, Ah⟩ := zT Aa
  have q0 := fz (k := 0) Aa
  have q1 := fz (k := 1) Aa
  obtain ⟨E0, E1⟩ := yH Aa (.int .u64 0) (.int .u64 v)
  go_wp2
  exact bodyPost_ret (v := .agg #[.int .u64 0, .int .u64 v]) (by simp [results, Tryz.results127, go_sem, E0, E1]) rfl ⟨rfl, zY B1 (by first | exact Nat.le_refl _ | omega | (skip; omega)) _ _⟩
 ·
  rw [show pV 1 = 52 by decide] at h1 h2
  have hm : max (52 : Int) 64 = 64 := by decide
  have a1 := and_zero x hx
  have a2 := and_at y 52 4503599627370495 v hy (by decide) (by decide) (by rw [← h2, ← hn]; simp only [Nat.reducePow]; omega)
  have u0 : u = 0 := by rw [← h1]; simp only [Nat.reducePow]; omega
  subst u0
  clear hT h1 h2 hn hx hy
  obtain ⟨Ab, Ac, B0⟩ := q9 w (Obj.cells #[.int .u64 x, .int .u64 y] 25) (Obj.cells #[.int .u64 0, .int .u64 0] 25)
  go_enter Tryz.func127, Tryz.ntmps127
  go_wp2_with fail
  refine (kfw 1 (Or.inr (Or.inl rfl)) 52 (by decide) _ (zW TT.out B0)).mono ?_
  rintro r w1 ⟨rfl, b1⟩
  have B1 : Below w.heap.size w w1 := yD B0 b1
  obtain ⟨Ad, Aa⟩ := yB b1 Ab Ac
  clear b1 B0 Ab Ac
  obtain ⟨Ae, Af⟩ := zT Ad
  obtain ⟨Ag, Ah⟩ := zT Aa
  have q0 := fz (k := 0) Aa
  have q1 := fz (k := 1) Aa
  obtain ⟨E0, E1⟩ := yH Aa (.int .u64 0) (.int .u64 v)
  go_wp2
  exact bodyPost_ret (v := .agg #[.int .u64 0, .int .u64 v]) (by simp [results, Tryz.results127, go_sem, E0, E1]) rfl ⟨rfl, zY B1 (by first | exact Nat.le_refl _ | omega | (skip; omega)) _ _⟩
 ·
  rw [show pV 2 = 10 by decide] at h1 h2
  have hm : max (10 : Int) 64 = 64 := by decide
  have a1 := and_zero x hx
  have a2 := and_at y 10 1023 v hy (by decide) (by decide) (by rw [← h2, ← hn]; simp only [Nat.reducePow]; omega)
  have u0 : u = 0 := by rw [← h1]; simp only [Nat.reducePow]; omega
  subst u0
  clear hT h1 h2 hn hx hy
  obtain ⟨Ab, Ac, B0⟩ := q9 w (Obj.cells #[.int .u64 x, .int .u64 y] 25) (Obj.cells #[.int .u64 0, .int .u64 0] 25)
  go_enter Tryz.func127, Tryz.ntmps127
  go_wp2_with fail
  refine (kfw 2 (Or.inr (Or.inr (Or.inl rfl))) 10 (by decide) _ (zW TT.out B0)).mono ?_
  rintro r w1 ⟨rfl, b1⟩
  have B1 : Below w.heap.size w w1 := yD B0 b1
  obtain ⟨Ad, Aa⟩ := yB b1 Ab Ac
  clear b1 B0 Ab Ac
  obtain ⟨Ae, Af⟩ := zT Ad
  obtain ⟨Ag, Ah⟩ := zT Aa
  have q0 := fz (k := 0) Aa
  have q1 := fz (k := 1) Aa
  obtain ⟨E0, E1⟩ := yH Aa (.int .u64 0) (.int .u64 v)
  go_wp2
  exact bodyPost_ret (v := .agg #[.int .u64 0, .int .u64 v]) (by simp [results, Tryz.results127, go_sem, E0, E1]) rfl ⟨rfl, zY B1 (by first | exact Nat.le_refl _ | omega | (skip; omega)) _ _⟩
 ·
  rw [show pV 3 = 112 by decide] at h1 h2
  have hm : max (112 : Int) 64 = 112 := by decide
  have hm2 : IntKind.u64.wrap (IntKind.u64.wrap 18446744073709551616 - 1) = 18446744073709551615 := by decide
  have a1 := and_at x 48 281474976710655 u hx (by decide) (by decide) (by rw [← h1, ← hn]; simp only [Nat.reducePow]; omega)
  have a2 := and_at y 64 18446744073709551615 v hy (by decide) (by decide) (by rw [← h2, ← hn]; simp only [Nat.reducePow]; omega)
  clear hT h1 h2 hn hx hy
  obtain ⟨Ab, Ac, B0⟩ := q9 w (Obj.cells #[.int .u64 x, .int .u64 y] 25) (Obj.cells #[.int .u64 0, .int .u64 0] 25)
  go_enter Tryz.func127, Tryz.ntmps127
  go_wp2_with fail
  refine (kfw 3 (Or.inr (Or.inr (Or.inr rfl))) 112 (by decide) _ (zW TT.out B0)).mono ?_
  rintro r w1 ⟨rfl, b1⟩
  have B1 : Below w.heap.size w w1 := yD B0 b1
  obtain ⟨Ad, Aa⟩ := yB b1 Ab Ac
  clear b1 B0 Ab Ac
  obtain ⟨Ae, Af⟩ := zT Ad
  obtain ⟨Ag, Ah⟩ := zT Aa
  have q0 := fz (k := 0) Aa
  have q1 := fz (k := 1) Aa
  obtain ⟨E0, E1⟩ := yH Aa (.int .u64 u) (.int .u64 v)
  go_wp2
  exact bodyPost_ret (v := .agg #[.int .u64 u, .int .u64 v]) (by simp [results, Tryz.results127, go_sem, E0, E1]) rfl ⟨rfl, zY B1 (by first | exact Nat.le_refl _ | omega | (skip; omega)) _ _⟩

theorem ksign_is (f : Int) (hf : xH f) (x y n : Nat) (o : Bool) (hx : x < 18446744073709551616) (hy : y < 18446744073709551616) (hn : y + 18446744073709551616 * x = n) (ho : kN f n = o) (w : World) (hT : yF w) : Calls Tryz.prog 30 #[.int .u8 f, .agg #[.int .u64 x, .int .u64 y]] w fun r w' => r = .returned (.bool o) ∧ Below w.heap.size w w' := by
 have f4 := yY hf
 obtain ⟨_, _, _, _, a5, a6, a7, a8⟩ := pV_lim hf
 have KB := zH (kbit_is x y n (wV f) o hx hy hn a5 (by rw [sign_of hf, ho]))
 obtain ⟨q, hq⟩ : ∃ q, fW f = q := ⟨_, rfl⟩
 obtain ⟨k, hk⟩ : ∃ q, wV f = q := ⟨_, rfl⟩
 rw [hq, hk] at a7
 rw [hk] at KB a8
 have TT := zH hT
 have HQ := zH hq
 clear hT hf hq hk hn hx hy ho a5 a6
 obtain ⟨Aa, B0⟩ := kopn1 w (Obj.cells #[.int .u64 x, .int .u64 y] 25)
 go_enter Tryz.func30, Tryz.ntmps30
 go_wp2_with fail
 obtain ⟨F, hF1, hF2⟩ := zQ (w.alloc (Obj.cells #[.int .u64 x, .int .u64 y] 25))
 have fb_0 := fun u => zL (zA (hF1 u) _ _ _ Aa) 0 _ rfl
 have fb_1 := fun u => zL (zA (hF1 u) _ _ _ Aa) 1 _ rfl
 have TF : zS (∀ u, yF (F u)) := zH (fun u => zW TT.out (yD B0 (hF1 u)))
 refine zI F hF2 (by kernel_rfl) (by kernel_rfl) ?_
 repeat first | go_big_quiet_step (first | (go_at_call 79; exact zJ hF1 hF2 (kb_width f q f4.1 f4.2.1 HQ.out _ (TF.out _))) | (go_at_call 78; exact zJ hF1 hF2 (KB.out _)) | fail) | quiet_step (first | (go_at_call 79; exact zJ hF1 hF2 (kb_width f q f4.1 f4.2.1 HQ.out _ (TF.out _))) | (go_at_call 78; exact zJ hF1 hF2 (KB.out _)) | fail)
 refine wpQuiet_nil ?_
 rintro _ ⟨uW, rfl⟩
 have B1 := yD B0 (hF1 uW)
 have Ab := zA (hF1 uW) _ _ _ Aa
 obtain ⟨w1, hw⟩ : ∃ V, F uW = V := ⟨_, rfl⟩
 rw [hw] at B1 Ab
 try rw [hw]
 clear hw hF1 hF2 B0 fb_0 fb_1 Aa
 clear TF
 clear F
 obtain ⟨Ac, Ad⟩ := zT Ab
 go_wp2
 go_ret
 exact ⟨rfl, B1⟩

theorem lx_lim {f : Int} (h : xH f) : IntKind.i64.wrap (1 - fE f - fP f) = 1 - fE f - fP f ∧ IntKind.i64.wrap (1 - fE f - fP f + 1) = lx f ∧ lx f ≤ 0 ∧ -16494 ≤ lx f ∧ lx f = 1 - fE f - fP f + 1 := by
 rcases h with rfl | rfl | rfl | rfl <;> decide +kernel
theorem kleast_is (f : Int) (hf : xH f) (v : Int) (hv : lx f = v) (w : World) (hT : yF w) : Calls Tryz.prog 162 #[.int .u8 f] w fun r w' => r = .returned (.int .i64 v) ∧ Below w.heap.size w w' := by
 have f4 := yY hf
 obtain ⟨a1, a2, _⟩ := lx_lim hf
 rw [hv] at a2
 obtain ⟨p, hp⟩ : ∃ q, fP f = q := ⟨_, rfl⟩
 obtain ⟨m, hm⟩ : ∃ q, 1 - fE f = q := ⟨_, rfl⟩
 rw [hm, hp] at a1 a2
 have TT := zH hT
 have HP := zH hp
 have HM := zH hm
 clear hT hf hv hp hm
 have B0 : Below w.heap.size w w := (Below.refl _ _)
 go_enter Tryz.func162, Tryz.ntmps162
 go_wp2_with fail
 refine (s_emin f _ m f4.1 f4.2.1 rfl (by rw [if_pos f4.2.2.1]; exact HM.out) _ (zW TT.out B0)).mono ?_
 rintro r w1 ⟨rfl, b1⟩
 have B1 : Below w.heap.size w w1 := yD B0 b1
 clear b1 B0 
 go_wp2_with fail
 refine (qG f p f4.1 f4.2.1 HP.out _ (zW TT.out B1)).mono ?_
 rintro r w2 ⟨rfl, b2⟩
 have B2 : Below w.heap.size w w2 := yD B1 b2
 clear b2 B1 
 go_wp2
 go_ret
 exact ⟨rfl, B2⟩
theorem xor_words (n m : Nat) : bv7 (n ^^^ m) = (n / 18446744073709551616 ^^^ m / 18446744073709551616, n % 18446744073709551616 ^^^ m % 18446744073709551616) := by
 unfold bv7
 rw [show (18446744073709551616 : Nat) = 2 ^ 64 by decide, Nat.xor_div_two_pow, Nat.xor_mod_two_pow]
theorem words_of {x y n : Nat} (hy : y < 18446744073709551616) (hn : y + 18446744073709551616 * x = n) : n / 18446744073709551616 = x ∧ n % 18446744073709551616 = y := by omega
theorem sk_zero (f : Int) (neg : Bool) (hf : xH f) (u v : Nat) (hv : bv7 (jA f neg) = (u, v)) (w : World) (hT : yF w) : Calls Tryz.prog 51 #[.int .u8 f, .bool neg] w fun r w' => r = .returned (.agg #[.int .u64 u, .int .u64 v]) ∧ Below w.heap.size w w' := by
 have := s_zero f neg hf _ rfl w hT
 rw [hv] at this
 exact this
theorem sk_inf (f : Int) (neg : Bool) (hf : xH f) (u v : Nat) (hv : bv7 (eInf f neg) = (u, v)) (w : World) (hT : yF w) : Calls Tryz.prog 96 #[.int .u8 f, .bool neg] w fun r w' => r = .returned (.agg #[.int .u64 u, .int .u64 v]) ∧ Below w.heap.size w w' := by
 have := s_inf f neg hf _ rfl w hT
 rw [hv] at this
 exact this
theorem ezero_is (f : Int) : jA f true = 2 ^ wV f := by unfold jA yQ; rw [if_pos rfl]; simp
theorem ksigned_is (f : Int) (hf : xH f) (x y n u v : Nat) (neg : Bool) (hx : x < 18446744073709551616) (hy : y < 18446744073709551616) (hn : y + 18446744073709551616 * x = n) (hv : bv7 (sgB f n neg) = (u, v)) (w : World) (hT : yF w) : Calls Tryz.prog 39 #[.int .u8 f, .agg #[.int .u64 x, .int .u64 y], .bool neg] w fun r w' => r = .returned (.agg #[.int .u64 u, .int .u64 v]) ∧ Below w.heap.size w w' := by
 obtain ⟨n1, n2⟩ := words_of hy hn
 unfold sgB at hv
 cases neg
 ·
  simp only [Bool.false_eq_true, if_false] at hv
  unfold bv7 at hv
  rw [n1, n2] at hv
  injection hv with h1 h2
  subst h1 h2
  clear hn hT hf hx hy n1 n2
  obtain ⟨Aa, Ab, B0⟩ := q9 w (Obj.cells #[.int .u64 x, .int .u64 y] 25) (Obj.cells #[.int .u64 0, .int .u64 0] 25)
  go_enter Tryz.func39, Tryz.ntmps39
  clear B0 Aa Ab
  go_wp2
  exact bodyPost_ret (v := .agg #[.int .u64 x, .int .u64 y]) (by simp [results, Tryz.results39, go_sem]) rfl ⟨rfl, (((Below.refl _ _).alloc (by first | omega | (simp only [zX]; omega)) _).alloc (by first | omega | (simp only [zX]; omega)) _)⟩
 ·
  rw [if_pos rfl, xor_words, n1, n2] at hv
  injection hv with h1 h2
  obtain ⟨s, t, hst⟩ : ∃ s t, bv7 (jA f true) = (s, t) := ⟨_, _, rfl⟩
  have KZ := zH (sk_zero f true hf s t hst)
  rw [ezero_is] at hst
  unfold bv7 at hst
  injection hst with s1 s2
  rw [s1] at h1
  rw [s2] at h2
  have hs : s < 18446744073709551616 ∧ t < 18446744073709551616 := by
   have := (fm hf).2.2.2.2.2.2
   omega
  have a1 : bits .xor .u64 (x : Int) (s : Int) = (u : Int) := by rw [← h1]; exact bits_xor_u64_nat x s hx hs.1
  have a2 : bits .xor .u64 (y : Int) (t : Int) = (v : Int) := by rw [← h2]; exact bits_xor_u64_nat y t hy hs.2
  have TT := zH hT
  clear hn hT hf hx hy n1 n2 s1 s2 h1 h2 hs
  obtain ⟨Aa, Ab, B0⟩ := q9 w (Obj.cells #[.int .u64 x, .int .u64 y] 25) (Obj.cells #[.int .u64 0, .int .u64 0] 25)
  go_enter Tryz.func39, Tryz.ntmps39
  go_wp2_with fail
  refine (KZ.out _ (zW TT.out B0)).mono ?_
  rintro r w1 ⟨rfl, b1⟩
  have B1 : Below w.heap.size w w1 := yD B0 b1
  obtain ⟨Ac, Ad⟩ := yB b1 Aa Ab
  clear b1 B0 Aa Ab
  obtain ⟨Af, Ag⟩ := zT Ac
  obtain ⟨Ah, Ai⟩ := zT Ad
  have S2 := zH B1.size
  have Aj := z8 Ac
  have Ak := z8 Ad
  have Al := heap_alloc_last w1 (Obj.cells #[.int .u64 s, .int .u64 t] 25)
  have B2 := yD B1 (yP w1 (Obj.cells #[.int .u64 s, .int .u64 t] 25))
  obtain ⟨Am, Ae⟩ := yB (yP w1 (Obj.cells #[.int .u64 s, .int .u64 t] 25)) Ac Ad
  clear B1 Ac Af Ag Ad Ah Ai
  obtain ⟨An, Ao⟩ := zT Am
  obtain ⟨Ap, Aq⟩ := zT Ae
  obtain ⟨Ar, As⟩ := zT Al
  have q0 := fz (k := 0) Ae
  have q1 := fz (k := 1) Ae
  obtain ⟨E0, E1⟩ := yH Ae (.int .u64 u) (.int .u64 v)
  go_wp2
  exact bodyPost_ret (v := .agg #[.int .u64 u, .int .u64 v]) (by simp [results, Tryz.results39, go_sem, E0, E1]) rfl ⟨rfl, zY B2 (by first | exact Nat.le_refl _ | omega | (have := S2.out; have := Aj.out; have := Ak.out; omega)) _ _⟩

theorem plus_num (x y x' y' n n' u v : Nat) (hx : x < 18446744073709551616) (hy : y < 18446744073709551616) (hn : y + 18446744073709551616 * x = n) (hx' : x' < 18446744073709551616) (hy' : y' < 18446744073709551616) (hn' : y' + 18446744073709551616 * x' = n') (hv : bv7 ((n + n') % 340282366920938463463374607431768211456) = (u, v)) :
  IntKind.u64.wrap ((y : Int) + (y' : Int)) = (v : Int) ∧ (if (v : Int) < (y : Int) then IntKind.u64.wrap (IntKind.u64.wrap ((x : Int) + (x' : Int)) + 1) else IntKind.u64.wrap ((x : Int) + (x' : Int))) = (u : Int) := by
 unfold bv7 at hv
 injection hv with h1 h2
 simp only [IntKind.wrap_u64]
 refine ⟨by omega, ?_⟩
 split <;> omega
theorem kplus_is (x y x' y' n n' u v : Nat) (hx : x < 18446744073709551616) (hy : y < 18446744073709551616) (hn : y + 18446744073709551616 * x = n) (hx' : x' < 18446744073709551616) (hy' : y' < 18446744073709551616) (hn' : y' + 18446744073709551616 * x' = n') (hv : bv7 ((n + n') % 340282366920938463463374607431768211456) = (u, v)) (w : World) : Calls Tryz.prog 182 #[.agg #[.int .u64 x, .int .u64 y], .agg #[.int .u64 (x' : Nat), .int .u64 (y' : Nat)]] w fun r w' => r = .returned (.agg #[.int .u64 u, .int .u64 v]) ∧ Below w.heap.size w w' := by
 obtain ⟨h1, h2⟩ := plus_num x y x' y' n n' u v hx hy hn hx' hy' hn' hv
 exact k_plus _ _ _ _ _ _ _ rfl h1 h2 w
def plG (u pl : Nat) : Nat := if pl < 64 then u * 2 ^ pl % 18446744073709551616 else (u * 2 ^ (pl - 64) % 18446744073709551616) * 18446744073709551616
theorem kplaced_is (x pl u v : Nat) (hx : x < 18446744073709551616) (hp : pl < 128) (hv : bv7 (plG x pl) = (u, v)) (w : World) : Calls Tryz.prog 185 #[.int .u64 x, .int .u64 pl] w fun r w' => r = .returned (.agg #[.int .u64 u, .int .u64 v]) ∧ Below w.heap.size w w' := by
 unfold bv7 plG at hv
 injection hv with h1 h2
 have e64 : ((2 : Int) ^ 64) = 18446744073709551616 := by decide
 refine k_placed x pl _ _ ?_ ?_ w
 ·
  rw [IntKind.wrap_u64, IntKind.wrap_u64]
  by_cases h : pl < 64
  ·
   rw [if_pos h] at h1
   rw [show min (((pl : Int) - 64) % 18446744073709551616).toNat 64 = 64 by omega, e64]
   have := Nat.mod_lt (x * 2 ^ pl) (show 18446744073709551616 > 0 by decide)
   omega
  ·
   rw [if_neg h] at h1
   rw [show min (((pl : Int) - 64) % 18446744073709551616).toNat 64 = pl - 64 by omega, pow64, ← Int.natCast_mul]
   omega
 ·
  rw [IntKind.wrap_u64]
  by_cases h : pl < 64
  ·
   rw [if_pos h] at h2
   rw [show min pl 64 = pl by omega, pow64, ← Int.natCast_mul]
   omega
  ·
   rw [if_neg h] at h2
   rw [show min pl 64 = 64 by omega, e64]
   omega
theorem plG_is {f : Int} (h : xH f) (u : Nat) : plG u (pV f) = plN f u := by
 unfold plG plN
 rcases h with rfl | rfl | rfl | rfl
 ·
  rw [show pV 0 = 23 by decide, if_pos (by decide), if_neg (by decide)]
 ·
  rw [show pV 1 = 52 by decide, if_pos (by decide), if_neg (by decide)]
 ·
  rw [show pV 2 = 10 by decide, if_pos (by decide), if_neg (by decide)]
 ·
  rw [show pV 3 = 112 by decide, if_neg (by decide), if_pos rfl]
  simp only [Nat.reducePow, Nat.reduceSub]
  omega
theorem einf_k {f : Int} (h : xH f) : kE f (eInf f false) = oV f ∧ eInf f false < 340282366920938463463374607431768211456 := by
 have := qC h false (e := oV f) (t := 0) (Nat.le_refl _) (Nat.two_pow_pos _)
 refine ⟨this.2.2.1, ?_⟩
 have h2 := this.1
 unfold Fit at h2
 have := (fm h).2.2.2.2.2.2
 unfold eInf; omega
theorem sb_of {w W : World} {x y : Value} (b : Below w.heap.size w W) (r : W.heap[w.heap.size]? = some (.cells #[x, y] 25)) : Below w.heap.size w W ∧ W.heap[w.heap.size]? = some (.cells #[x, y] 25) ∧ W.cell? ⟨w.heap.size, 0, none⟩ = some x ∧ W.cell? ⟨w.heap.size, 1, none⟩ = some y := ⟨b, r, zL r 0 _ rfl, zL r 1 _ rfl⟩
theorem sb_call {w W W' : World} {x y : Value} (h : Below w.heap.size w W ∧ W.heap[w.heap.size]? = some (.cells #[x, y] 25) ∧ W.cell? ⟨w.heap.size, 0, none⟩ = some x ∧ W.cell? ⟨w.heap.size, 1, none⟩ = some y) (b : Below W.heap.size W W') : Below w.heap.size w W' ∧ W'.heap[w.heap.size]? = some (.cells #[x, y] 25) ∧ W'.cell? ⟨w.heap.size, 0, none⟩ = some x ∧ W'.cell? ⟨w.heap.size, 1, none⟩ = some y := sb_of (yD h.1 b) (zA b _ _ _ h.2.1)
theorem sb_al {w W : World} {x y : Value} (h : Below w.heap.size w W ∧ W.heap[w.heap.size]? = some (.cells #[x, y] 25) ∧ W.cell? ⟨w.heap.size, 0, none⟩ = some x ∧ W.cell? ⟨w.heap.size, 1, none⟩ = some y) (o : Obj) : Below w.heap.size w (W.alloc o) ∧ (W.alloc o).heap[w.heap.size]? = some (.cells #[x, y] 25) ∧ (W.alloc o).cell? ⟨w.heap.size, 0, none⟩ = some x ∧ (W.alloc o).cell? ⟨w.heap.size, 1, none⟩ = some y := sb_call h (yP _ _)
theorem sb_dr {w W : World} {x y : Value} (h : Below w.heap.size w W ∧ W.heap[w.heap.size]? = some (.cells #[x, y] 25) ∧ W.cell? ⟨w.heap.size, 0, none⟩ = some x ∧ W.cell? ⟨w.heap.size, 1, none⟩ = some y) : Below w.heap.size w W.drew ∧ W.drew.heap[w.heap.size]? = some (.cells #[x, y] 25) ∧ W.drew.cell? ⟨w.heap.size, 0, none⟩ = some x ∧ W.drew.cell? ⟨w.heap.size, 1, none⟩ = some y := ⟨h.1.drew, h.2⟩
theorem size_dr (W : World) : W.drew.heap.size = W.heap.size := rfl
theorem sb_lt {w W : World} {x y : Value} (h : Below w.heap.size w W ∧ W.heap[w.heap.size]? = some (.cells #[x, y] 25) ∧ W.cell? ⟨w.heap.size, 0, none⟩ = some x ∧ W.cell? ⟨w.heap.size, 1, none⟩ = some y) : w.heap.size < W.heap.size := World.block_lt_of_cell? W _ h.2.2.1
theorem sb_set {w W : World} {x y v : Value} {g k : Nat} (h : Below w.heap.size w W ∧ W.heap[w.heap.size]? = some (.cells #[x, y] 25) ∧ W.cell? ⟨w.heap.size, 0, none⟩ = some x ∧ W.cell? ⟨w.heap.size, 1, none⟩ = some y) (hg : w.heap.size < g) : Below w.heap.size w (W.setCell ⟨g, k, none⟩ v) ∧ (W.setCell ⟨g, k, none⟩ v).heap[w.heap.size]? = some (.cells #[x, y] 25) ∧ (W.setCell ⟨g, k, none⟩ v).cell? ⟨w.heap.size, 0, none⟩ = some x ∧ (W.setCell ⟨g, k, none⟩ v).cell? ⟨w.heap.size, 1, none⟩ = some y :=
 sb_of (h.1.setCell (by show w.heap.size ≤ g; omega) _) (by rw [zG (by omega)]; exact h.2.1)
theorem sb_fat {w W : World} {x y : Value} (t : yF w) (h : Below w.heap.size w W ∧ W.heap[w.heap.size]? = some (.cells #[x, y] 25) ∧ W.cell? ⟨w.heap.size, 0, none⟩ = some x ∧ W.cell? ⟨w.heap.size, 1, none⟩ = some y) : yF W := zW t h.1
def RC (w : World) (x y u v : Nat) (W : World) (g : Nat) : Prop := Below w.heap.size w W ∧ W.heap[w.heap.size]? = some (.cells #[.int .u64 x, .int .u64 y] 25) ∧ W.heap[g]? = some (.cells #[.int .u64 u, .int .u64 v] 25) ∧ w.heap.size < g
theorem rc_al {w W : World} {x' y' u v : Nat} (h : Below w.heap.size w W ∧ W.heap[w.heap.size]? = some (.cells #[.int .u64 (x' : Nat), .int .u64 (y' : Nat)] 25) ∧ W.cell? ⟨w.heap.size, 0, none⟩ = some (.int .u64 (x' : Nat)) ∧ W.cell? ⟨w.heap.size, 1, none⟩ = some (.int .u64 (y' : Nat))) : RC w x' y' u v (W.alloc (.cells #[.int .u64 u, .int .u64 v] 25)) W.heap.size :=
 ⟨(sb_al h _).1, (sb_al h _).2.1, heap_alloc_last _ _, sb_lt h⟩
theorem rc_set {w W : World} {x' y' u v g : Nat} {a b : Value} (h : Below w.heap.size w W ∧ W.heap[w.heap.size]? = some (.cells #[.int .u64 (x' : Nat), .int .u64 (y' : Nat)] 25) ∧ W.cell? ⟨w.heap.size, 0, none⟩ = some (.int .u64 (x' : Nat)) ∧ W.cell? ⟨w.heap.size, 1, none⟩ = some (.int .u64 (y' : Nat))) (hr : W.heap[g]? = some (.cells #[a, b] 25)) (hg : w.heap.size < g) : RC w x' y' u v ((W.setCell ⟨g, 0, none⟩ (.int .u64 u)).setCell ⟨g, 1, none⟩ (.int .u64 v)) g :=
 ⟨(sb_set (sb_set h hg) hg).1, (sb_set (sb_set h hg) hg).2.1, yJ hr _ _, hg⟩
theorem gen70 {X : Act → World → Prop} {R : World → Nat → Prop} {t0 t1 t2 t3 t4 t5 t7 t8 t9 t10 t11 t12 t13 t14 t15 t16 t17 t18 t19 t20 t21 t22 t23 t24 t25 t26 t27 t28 t29 t30 t31 t32 t33 t34 t35 t36 t37 t38 t39 t40 t41 t42 t43 t44 t45 t46 t47 t48 t49 t50 t51 t52 t53 t54 t55 t56 t57 t58 t59 t60 t61 t62 t63 t64 t65 t66 t67 t68 t69 : Value} {d : List Deferred} {W : World} {G : Nat}
  (key : ∀ w5 g, R w5 g → X ⟨#[t0, t1, t2, t3, t4, t5, .pointer (some ⟨g, 0, none⟩), t7, t8, t9, t10, t11, t12, t13, t14, t15, t16, t17, t18, t19, t20, t21, t22, t23, t24, t25, t26, t27, t28, t29, t30, t31, t32, t33, t34, t35, t36, t37, t38, t39, t40, t41, t42, t43, t44, t45, t46, t47, t48, t49, t50, t51, t52, t53, t54, t55, t56, t57, t58, t59, t60, t61, t62, t63, t64, t65, t66, t67, t68, t69], d⟩ w5) (r : R W G) : X ⟨#[t0, t1, t2, t3, t4, t5, .pointer (some ⟨G, 0, none⟩), t7, t8, t9, t10, t11, t12, t13, t14, t15, t16, t17, t18, t19, t20, t21, t22, t23, t24, t25, t26, t27, t28, t29, t30, t31, t32, t33, t34, t35, t36, t37, t38, t39, t40, t41, t42, t43, t44, t45, t46, t47, t48, t49, t50, t51, t52, t53, t54, t55, t56, t57, t58, t59, t60, t61, t62, t63, t64, t65, t66, t67, t68, t69], d⟩ W := key W G r
theorem kclass_walk (f : Int) (x y e o p u v i j : Nat) (qb neg : Bool) (c : Int) (w : World)
  (KE : zS (∀ w, yF w → Calls Tryz.prog 126 #[.int .u8 f, .agg #[.int .u64 x, .int .u64 y]] w fun r w' => r = .returned (.int .u64 e) ∧ Below w.heap.size w w'))
  (KF : zS (∀ w, yF w → Calls Tryz.prog 127 #[.int .u8 f, .agg #[.int .u64 x, .int .u64 y]] w fun r w' => r = .returned (.agg #[.int .u64 u, .int .u64 v]) ∧ Below w.heap.size w w'))
  (KI : zS (∀ w, yF w → Calls Tryz.prog 96 #[.int .u8 f, .bool false] w fun r w' => r = .returned (.agg #[.int .u64 i, .int .u64 j]) ∧ Below w.heap.size w w'))
  (KO : zS (∀ w, yF w → Calls Tryz.prog 126 #[.int .u8 f, .agg #[.int .u64 i, .int .u64 j]] w fun r w' => r = .returned (.int .u64 o) ∧ Below w.heap.size w w'))
  (KW : zS (∀ w, yF w → Calls Tryz.prog 128 #[.int .u8 f] w fun r w' => r = .returned (.int .u64 p) ∧ Below w.heap.size w w'))
  (KB : zS (∀ w, yF w → Calls Tryz.prog 78 #[.agg #[.int .u64 u, .int .u64 v], .int .u64 ((p - 1 : Nat) : Int)] w fun r w' => r = .returned (.bool qb) ∧ Below w.heap.size w w'))
  (KS : zS (∀ w, yF w → Calls Tryz.prog 30 #[.int .u8 f, .agg #[.int .u64 x, .int .u64 y]] w fun r w' => r = .returned (.bool neg) ∧ Below w.heap.size w w'))
  (hp : IntKind.u64.wrap ((p : Int) - 1) = ((p - 1 : Nat) : Int))
  (hc : (((e : Int) == (o : Int)) = true ∧ qb = true ∧ c = 9)
   ∨ (((e : Int) == (o : Int)) = true ∧ qb = false ∧ (((u : Int) == 0) = false ∨ (u = 0 ∧ ((v : Int) == 0) = false)) ∧ c = 8)
   ∨ (((e : Int) == (o : Int)) = true ∧ qb = false ∧ u = 0 ∧ v = 0 ∧ c = if neg then 0 else 7)
   ∨ (((e : Int) == (o : Int)) = false ∧ ((e : Int) != 0) = true ∧ c = if neg then 1 else 6)
   ∨ (((e : Int) == (o : Int)) = false ∧ ((e : Int) != 0) = false ∧ (((u : Int) == 0) = false ∨ (u = 0 ∧ ((v : Int) == 0) = false)) ∧ c = if neg then 2 else 5)
   ∨ (((e : Int) == (o : Int)) = false ∧ ((e : Int) != 0) = false ∧ u = 0 ∧ v = 0 ∧ c = if neg then 3 else 4))
  (hT : yF w) : Calls Tryz.prog 53 #[.int .u8 f, .agg #[.int .u64 x, .int .u64 y]] w fun r w' => r = .returned (.int .u8 c) ∧ Below w.heap.size w w' := by
 have TT := zH hT
 clear hT
 obtain ⟨Aw, B0⟩ := kopn1 w (Obj.cells #[.int .u64 x, .int .u64 y] 25)
 go_enter Tryz.func53, Tryz.ntmps53
 have S0 := sb_of B0 Aw
 go_wp2_with fail
 apply cut7
 ·
  intro key0
  have key := zH key0
  clear key0
  go_region_held3 (fun W => Below w.heap.size w W ∧ W.heap[w.heap.size]? = some (.cells #[.int .u64 x, .int .u64 y] 25) ∧ W.cell? ⟨w.heap.size, 0, none⟩ = some (.int .u64 x) ∧ W.cell? ⟨w.heap.size, 1, none⟩ = some (.int .u64 y)) (first | exact sb_dr S0 | assumption | exact sb_al (by assumption) _ | exact sb_al (sb_dr S0) _ | exact sb_set (sb_set (by assumption) (sb_lt (by assumption))) (sb_lt (by assumption)) | exact sb_set (sb_set (by assumption) (Nat.lt_succ_self _)) (Nat.lt_succ_self _))
   (first
   | (go_at_call_of 126 (Value.int IntKind.u64 (x : Int)); refine (KE.out _ (sb_fat TT.out (by assumption))).mono ?_; rintro r w1 ⟨rfl, b1⟩; have s1 := sb_call (by assumption) b1; (first | have hg := zA b1 _ _ _ (heap_alloc_last _ _) | have hg := zA b1 _ _ _ hg | skip); (try simp only [size_dr, zX] at hg); (first | (have As := fz (k := 0) hg; have At := fz (k := 1) hg; have Au := zL hg 0 _ rfl; have Av := zL hg 1 _ rfl) | skip); clear b1)
   | (go_at_call 127; refine (KF.out _ (sb_fat TT.out (by assumption))).mono ?_; rintro r w2 ⟨rfl, b1⟩; have s1 := sb_call (by assumption) b1; (first | have hg := zA b1 _ _ _ (heap_alloc_last _ _) | have hg := zA b1 _ _ _ hg | skip); (try simp only [size_dr, zX] at hg); (first | (have As := fz (k := 0) hg; have At := fz (k := 1) hg; have Au := zL hg 0 _ rfl; have Av := zL hg 1 _ rfl) | skip); clear b1)
   | (go_at_call 96; refine (KI.out _ (sb_fat TT.out (by assumption))).mono ?_; rintro r w3 ⟨rfl, b1⟩; have s1 := sb_call (by assumption) b1; (first | have hg := zA b1 _ _ _ (heap_alloc_last _ _) | have hg := zA b1 _ _ _ hg | skip); (try simp only [size_dr, zX] at hg); (first | (have As := fz (k := 0) hg; have At := fz (k := 1) hg; have Au := zL hg 0 _ rfl; have Av := zL hg 1 _ rfl) | skip); clear b1)
   | (go_at_call_of 126 (Value.int IntKind.u64 (i : Int)); refine (KO.out _ (sb_fat TT.out (by assumption))).mono ?_; rintro r w4 ⟨rfl, b1⟩; have s1 := sb_call (by assumption) b1; (first | have hg := zA b1 _ _ _ (heap_alloc_last _ _) | have hg := zA b1 _ _ _ hg | skip); (try simp only [size_dr, zX] at hg); (first | (have As := fz (k := 0) hg; have At := fz (k := 1) hg; have Au := zL hg 0 _ rfl; have Av := zL hg 1 _ rfl) | skip); clear b1))
  all_goals
   refine gen70 (R := RC w x y u v) key.out ?_
   first
    | exact rc_al s1
    | exact rc_set s1 hg (sb_lt (by assumption))
    | exact rc_set s1 hg (Nat.lt_succ_self _)
 rintro w5 t ⟨B5, Aa, Ab, ht⟩
 clear B0 Aw S0
 obtain ⟨Ak, Al⟩ := zT Aa
 obtain ⟨Am, An⟩ := zT Ab
 rcases hc with ⟨h1, rfl, rfl⟩ | ⟨h1, rfl, hz | ⟨rfl, hz⟩, rfl⟩ | ⟨h1, rfl, rfl, rfl, hc⟩ | ⟨h1, h2, hc⟩ | ⟨h1, h2, hz | ⟨rfl, hz⟩, hc⟩ | ⟨h1, h2, rfl, rfl, hc⟩
 ·
  go_wp2_with fail
  obtain ⟨F, hF1, hF2⟩ := zQ w5
  have fb_0 := fun u => zL (zA (hF1 u) _ _ _ Aa) 0 _ rfl
  have fb_1 := fun u => zL (zA (hF1 u) _ _ _ Aa) 1 _ rfl
  have ft_0 := fun u => zL (zA (hF1 u) _ _ _ Ab) 0 _ rfl
  have ft_1 := fun u => zL (zA (hF1 u) _ _ _ Ab) 1 _ rfl
  have TF : zS (∀ u, yF (F u)) := zH (fun u => zW TT.out (yD B5 (hF1 u)))
  refine zI F hF2 (by kernel_rfl) (by kernel_rfl) ?_
  repeat first | go_big_quiet_step (first | (go_at_call 128; exact zJ hF1 hF2 (KW.out _ (TF.out _))) | (go_at_call 78; exact zJ hF1 hF2 (KB.out _ (TF.out _))) | fail) | quiet_step (first | (go_at_call 128; exact zJ hF1 hF2 (KW.out _ (TF.out _))) | (go_at_call 78; exact zJ hF1 hF2 (KB.out _ (TF.out _))) | fail)
  refine wpQuiet_nil ?_
  rintro _ ⟨uW, rfl⟩
  have B6 := yD B5 (hF1 uW)
  obtain ⟨Ac, Ad⟩ := yB (hF1 uW) Aa Ab
  obtain ⟨w6, hw⟩ : ∃ V, F uW = V := ⟨_, rfl⟩
  rw [hw] at B6 Ac Ad
  try rw [hw]
  clear hw hF1 hF2 B5 fb_0 fb_1 ft_0 ft_1 Aa Ak Al Ab Am An
  clear TF
  clear F
  obtain ⟨Ae, Af⟩ := zT Ac
  obtain ⟨Ag, Ah⟩ := zT Ad
  go_wp2
  go_ret
  exact ⟨rfl, B6⟩
 ·
  go_wp2_with fail
  obtain ⟨F, hF1, hF2⟩ := zQ w5
  have fb_0 := fun u => zL (zA (hF1 u) _ _ _ Aa) 0 _ rfl
  have fb_1 := fun u => zL (zA (hF1 u) _ _ _ Aa) 1 _ rfl
  have ft_0 := fun u => zL (zA (hF1 u) _ _ _ Ab) 0 _ rfl
  have ft_1 := fun u => zL (zA (hF1 u) _ _ _ Ab) 1 _ rfl
  have TF : zS (∀ u, yF (F u)) := zH (fun u => zW TT.out (yD B5 (hF1 u)))
  refine zI F hF2 (by kernel_rfl) (by kernel_rfl) ?_
  repeat first | go_big_quiet_step (first | (go_at_call 128; exact zJ hF1 hF2 (KW.out _ (TF.out _))) | (go_at_call 78; exact zJ hF1 hF2 (KB.out _ (TF.out _))) | fail) | quiet_step (first | (go_at_call 128; exact zJ hF1 hF2 (KW.out _ (TF.out _))) | (go_at_call 78; exact zJ hF1 hF2 (KB.out _ (TF.out _))) | fail)
  refine wpQuiet_nil ?_
  rintro _ ⟨uW, rfl⟩
  have B6 := yD B5 (hF1 uW)
  obtain ⟨Ac, Ad⟩ := yB (hF1 uW) Aa Ab
  obtain ⟨w6, hw⟩ : ∃ V, F uW = V := ⟨_, rfl⟩
  rw [hw] at B6 Ac Ad
  try rw [hw]
  clear hw hF1 hF2 B5 fb_0 fb_1 ft_0 ft_1 Aa Ak Al Ab Am An
  clear TF
  clear F
  obtain ⟨Ae, Af⟩ := zT Ac
  obtain ⟨Ag, Ah⟩ := zT Ad
  go_wp2
  go_ret
  exact ⟨rfl, B6⟩
 ·
  go_wp2_with fail
  obtain ⟨F, hF1, hF2⟩ := zQ w5
  have fb_0 := fun u => zL (zA (hF1 u) _ _ _ Aa) 0 _ rfl
  have fb_1 := fun u => zL (zA (hF1 u) _ _ _ Aa) 1 _ rfl
  have ft_0 := fun u => zL (zA (hF1 u) _ _ _ Ab) 0 _ rfl
  have ft_1 := fun u => zL (zA (hF1 u) _ _ _ Ab) 1 _ rfl
  have TF : zS (∀ u, yF (F u)) := zH (fun u => zW TT.out (yD B5 (hF1 u)))
  refine zI F hF2 (by kernel_rfl) (by kernel_rfl) ?_
  repeat first | go_big_quiet_step (first | (go_at_call 128; exact zJ hF1 hF2 (KW.out _ (TF.out _))) | (go_at_call 78; exact zJ hF1 hF2 (KB.out _ (TF.out _))) | fail) | quiet_step (first | (go_at_call 128; exact zJ hF1 hF2 (KW.out _ (TF.out _))) | (go_at_call 78; exact zJ hF1 hF2 (KB.out _ (TF.out _))) | fail)
  refine wpQuiet_nil ?_
  rintro _ ⟨uW, rfl⟩
  have B6 := yD B5 (hF1 uW)
  obtain ⟨Ac, Ad⟩ := yB (hF1 uW) Aa Ab
  obtain ⟨w6, hw⟩ : ∃ V, F uW = V := ⟨_, rfl⟩
  rw [hw] at B6 Ac Ad
  try rw [hw]
  clear hw hF1 hF2 B5 fb_0 fb_1 ft_0 ft_1 Aa Ak Al Ab Am An
  clear TF
  clear F
  obtain ⟨Ae, Af⟩ := zT Ac
  obtain ⟨Ag, Ah⟩ := zT Ad
  go_wp2
  go_ret
  exact ⟨rfl, B6⟩
 ·
  go_wp2_with fail
  obtain ⟨F, hF1, hF2⟩ := zQ w5
  have fb_0 := fun u => zL (zA (hF1 u) _ _ _ Aa) 0 _ rfl
  have fb_1 := fun u => zL (zA (hF1 u) _ _ _ Aa) 1 _ rfl
  have ft_0 := fun u => zL (zA (hF1 u) _ _ _ Ab) 0 _ rfl
  have ft_1 := fun u => zL (zA (hF1 u) _ _ _ Ab) 1 _ rfl
  have TF : zS (∀ u, yF (F u)) := zH (fun u => zW TT.out (yD B5 (hF1 u)))
  refine zI F hF2 (by kernel_rfl) (by kernel_rfl) ?_
  repeat first | go_big_quiet_step (first | (go_at_call 128; exact zJ hF1 hF2 (KW.out _ (TF.out _))) | (go_at_call 78; exact zJ hF1 hF2 (KB.out _ (TF.out _))) | fail) | quiet_step (first | (go_at_call 128; exact zJ hF1 hF2 (KW.out _ (TF.out _))) | (go_at_call 78; exact zJ hF1 hF2 (KB.out _ (TF.out _))) | fail)
  refine wpQuiet_nil ?_
  rintro _ ⟨uW, rfl⟩
  have B6 := yD B5 (hF1 uW)
  obtain ⟨Ac, Ad⟩ := yB (hF1 uW) Aa Ab
  obtain ⟨w6, hw⟩ : ∃ V, F uW = V := ⟨_, rfl⟩
  rw [hw] at B6 Ac Ad
  try rw [hw]
  clear hw hF1 hF2 B5 fb_0 fb_1 ft_0 ft_1 Aa Ak Al Ab Am An
  clear TF
  clear F
  obtain ⟨Ae, Af⟩ := zT Ac
  obtain ⟨Ag, Ah⟩ := zT Ad
  go_wp2_with fail
  refine (KS.out _ (zW TT.out B6)).mono ?_
  rintro r w7 ⟨rfl, b7⟩
  have B7 : Below w.heap.size w w7 := yD B6 b7
  obtain ⟨Ai, Aj⟩ := yB b7 Ac Ad
  clear b7 B6 Ac Ae Af Ad Ag Ah
  obtain ⟨Ao, Ap⟩ := zT Ai
  obtain ⟨Aq, Ar⟩ := zT Aj
  cases neg
  ·
   subst hc
   go_wp2
   go_ret
   exact ⟨rfl, B7⟩
  ·
   subst hc
   go_wp2
   go_ret
   exact ⟨rfl, B7⟩
 ·
  go_wp2_with fail
  obtain ⟨F, hF1, hF2⟩ := zQ w5
  have fb_0 := fun u => zL (zA (hF1 u) _ _ _ Aa) 0 _ rfl
  have fb_1 := fun u => zL (zA (hF1 u) _ _ _ Aa) 1 _ rfl
  have ft_0 := fun u => zL (zA (hF1 u) _ _ _ Ab) 0 _ rfl
  have ft_1 := fun u => zL (zA (hF1 u) _ _ _ Ab) 1 _ rfl
  have TF : zS (∀ u, yF (F u)) := zH (fun u => zW TT.out (yD B5 (hF1 u)))
  refine zI F hF2 (by kernel_rfl) (by kernel_rfl) ?_
  repeat first | go_big_quiet_step (first | (go_at_call 128; exact zJ hF1 hF2 (KW.out _ (TF.out _))) | (go_at_call 78; exact zJ hF1 hF2 (KB.out _ (TF.out _))) | fail) | quiet_step (first | (go_at_call 128; exact zJ hF1 hF2 (KW.out _ (TF.out _))) | (go_at_call 78; exact zJ hF1 hF2 (KB.out _ (TF.out _))) | fail)
  refine wpQuiet_nil ?_
  rintro _ ⟨uW, rfl⟩
  have B6 := yD B5 (hF1 uW)
  obtain ⟨Ac, Ad⟩ := yB (hF1 uW) Aa Ab
  obtain ⟨w6, hw⟩ : ∃ V, F uW = V := ⟨_, rfl⟩
  rw [hw] at B6 Ac Ad
  try rw [hw]
  clear hw hF1 hF2 B5 fb_0 fb_1 ft_0 ft_1 Aa Ak Al Ab Am An
  clear TF
  clear F
  obtain ⟨Ae, Af⟩ := zT Ac
  obtain ⟨Ag, Ah⟩ := zT Ad
  go_wp2_with fail
  refine (KS.out _ (zW TT.out B6)).mono ?_
  rintro r w7 ⟨rfl, b7⟩
  have B7 : Below w.heap.size w w7 := yD B6 b7
  obtain ⟨Ai, Aj⟩ := yB b7 Ac Ad
  clear b7 B6 Ac Ae Af Ad Ag Ah
  obtain ⟨Ao, Ap⟩ := zT Ai
  obtain ⟨Aq, Ar⟩ := zT Aj
  cases neg
  ·
   subst hc
   go_wp2
   go_ret
   exact ⟨rfl, B7⟩
  ·
   subst hc
   go_wp2
   go_ret
   exact ⟨rfl, B7⟩
 ·
  go_wp2_with fail
  obtain ⟨F, hF1, hF2⟩ := zQ w5
  have fb_0 := fun u => zL (zA (hF1 u) _ _ _ Aa) 0 _ rfl
  have fb_1 := fun u => zL (zA (hF1 u) _ _ _ Aa) 1 _ rfl
  have ft_0 := fun u => zL (zA (hF1 u) _ _ _ Ab) 0 _ rfl
  have ft_1 := fun u => zL (zA (hF1 u) _ _ _ Ab) 1 _ rfl
  have TF : zS (∀ u, yF (F u)) := zH (fun u => zW TT.out (yD B5 (hF1 u)))
  refine zI F hF2 (by kernel_rfl) (by kernel_rfl) ?_
  repeat first | go_big_quiet_step (first | (go_at_call 128; exact zJ hF1 hF2 (KW.out _ (TF.out _))) | (go_at_call 78; exact zJ hF1 hF2 (KB.out _ (TF.out _))) | fail) | quiet_step (first | (go_at_call 128; exact zJ hF1 hF2 (KW.out _ (TF.out _))) | (go_at_call 78; exact zJ hF1 hF2 (KB.out _ (TF.out _))) | fail)
  refine wpQuiet_nil ?_
  rintro _ ⟨uW, rfl⟩
  have B6 := yD B5 (hF1 uW)
  obtain ⟨Ac, Ad⟩ := yB (hF1 uW) Aa Ab
  obtain ⟨w6, hw⟩ : ∃ V, F uW = V := ⟨_, rfl⟩
  rw [hw] at B6 Ac Ad
  try rw [hw]
  clear hw hF1 hF2 B5 fb_0 fb_1 ft_0 ft_1 Aa Ak Al Ab Am An
  clear TF
  clear F
  obtain ⟨Ae, Af⟩ := zT Ac
  obtain ⟨Ag, Ah⟩ := zT Ad
  go_wp2_with fail
  refine (KS.out _ (zW TT.out B6)).mono ?_
  rintro r w7 ⟨rfl, b7⟩
  have B7 : Below w.heap.size w w7 := yD B6 b7
  obtain ⟨Ai, Aj⟩ := yB b7 Ac Ad
  clear b7 B6 Ac Ae Af Ad Ag Ah
  obtain ⟨Ao, Ap⟩ := zT Ai
  obtain ⟨Aq, Ar⟩ := zT Aj
  cases neg
  ·
   subst hc
   go_wp2
   go_ret
   exact ⟨rfl, B7⟩
  ·
   subst hc
   go_wp2
   go_ret
   exact ⟨rfl, B7⟩
 ·
  go_wp2_with fail
  obtain ⟨F, hF1, hF2⟩ := zQ w5
  have fb_0 := fun u => zL (zA (hF1 u) _ _ _ Aa) 0 _ rfl
  have fb_1 := fun u => zL (zA (hF1 u) _ _ _ Aa) 1 _ rfl
  have ft_0 := fun u => zL (zA (hF1 u) _ _ _ Ab) 0 _ rfl
  have ft_1 := fun u => zL (zA (hF1 u) _ _ _ Ab) 1 _ rfl
  have TF : zS (∀ u, yF (F u)) := zH (fun u => zW TT.out (yD B5 (hF1 u)))
  refine zI F hF2 (by kernel_rfl) (by kernel_rfl) ?_
  repeat first | go_big_quiet_step (first | (go_at_call 128; exact zJ hF1 hF2 (KW.out _ (TF.out _))) | (go_at_call 78; exact zJ hF1 hF2 (KB.out _ (TF.out _))) | fail) | quiet_step (first | (go_at_call 128; exact zJ hF1 hF2 (KW.out _ (TF.out _))) | (go_at_call 78; exact zJ hF1 hF2 (KB.out _ (TF.out _))) | fail)
  refine wpQuiet_nil ?_
  rintro _ ⟨uW, rfl⟩
  have B6 := yD B5 (hF1 uW)
  obtain ⟨Ac, Ad⟩ := yB (hF1 uW) Aa Ab
  obtain ⟨w6, hw⟩ : ∃ V, F uW = V := ⟨_, rfl⟩
  rw [hw] at B6 Ac Ad
  try rw [hw]
  clear hw hF1 hF2 B5 fb_0 fb_1 ft_0 ft_1 Aa Ak Al Ab Am An
  clear TF
  clear F
  obtain ⟨Ae, Af⟩ := zT Ac
  obtain ⟨Ag, Ah⟩ := zT Ad
  go_wp2_with fail
  refine (KS.out _ (zW TT.out B6)).mono ?_
  rintro r w7 ⟨rfl, b7⟩
  have B7 : Below w.heap.size w w7 := yD B6 b7
  obtain ⟨Ai, Aj⟩ := yB b7 Ac Ad
  clear b7 B6 Ac Ae Af Ad Ag Ah
  obtain ⟨Ao, Ap⟩ := zT Ai
  obtain ⟨Aq, Ar⟩ := zT Aj
  cases neg
  ·
   subst hc
   go_wp2
   go_ret
   exact ⟨rfl, B7⟩
  ·
   subst hc
   go_wp2
   go_ret
   exact ⟨rfl, B7⟩
 ·
  go_wp2_with fail
  obtain ⟨F, hF1, hF2⟩ := zQ w5
  have fb_0 := fun u => zL (zA (hF1 u) _ _ _ Aa) 0 _ rfl
  have fb_1 := fun u => zL (zA (hF1 u) _ _ _ Aa) 1 _ rfl
  have ft_0 := fun u => zL (zA (hF1 u) _ _ _ Ab) 0 _ rfl
  have ft_1 := fun u => zL (zA (hF1 u) _ _ _ Ab) 1 _ rfl
  have TF : zS (∀ u, yF (F u)) := zH (fun u => zW TT.out (yD B5 (hF1 u)))
  refine zI F hF2 (by kernel_rfl) (by kernel_rfl) ?_
  repeat first | go_big_quiet_step (first | (go_at_call 128; exact zJ hF1 hF2 (KW.out _ (TF.out _))) | (go_at_call 78; exact zJ hF1 hF2 (KB.out _ (TF.out _))) | fail) | quiet_step (first | (go_at_call 128; exact zJ hF1 hF2 (KW.out _ (TF.out _))) | (go_at_call 78; exact zJ hF1 hF2 (KB.out _ (TF.out _))) | fail)
  refine wpQuiet_nil ?_
  rintro _ ⟨uW, rfl⟩
  have B6 := yD B5 (hF1 uW)
  obtain ⟨Ac, Ad⟩ := yB (hF1 uW) Aa Ab
  obtain ⟨w6, hw⟩ : ∃ V, F uW = V := ⟨_, rfl⟩
  rw [hw] at B6 Ac Ad
  try rw [hw]
  clear hw hF1 hF2 B5 fb_0 fb_1 ft_0 ft_1 Aa Ak Al Ab Am An
  clear TF
  clear F
  obtain ⟨Ae, Af⟩ := zT Ac
  obtain ⟨Ag, Ah⟩ := zT Ad
  go_wp2_with fail
  refine (KS.out _ (zW TT.out B6)).mono ?_
  rintro r w7 ⟨rfl, b7⟩
  have B7 : Below w.heap.size w w7 := yD B6 b7
  obtain ⟨Ai, Aj⟩ := yB b7 Ac Ad
  clear b7 B6 Ac Ae Af Ad Ag Ah
  obtain ⟨Ao, Ap⟩ := zT Ai
  obtain ⟨Aq, Ar⟩ := zT Aj
  cases neg
  ·
   subst hc
   go_wp2
   go_ret
   exact ⟨rfl, B7⟩
  ·
   subst hc
   go_wp2
   go_ret
   exact ⟨rfl, B7⟩
theorem bv_lt {n u v : Nat} (hn : n < 340282366920938463463374607431768211456) (h : bv7 n = (u, v)) : u < 18446744073709551616 ∧ v < 18446744073709551616 ∧ v + 18446744073709551616 * u = n := by
 unfold bv7 at h
 injection h with h1 h2
 omega
theorem kclass_is (f : Int) (hf : xH f) (x y n c : Nat) (hx : x < 18446744073709551616) (hy : y < 18446744073709551616) (hn : y + 18446744073709551616 * x = n) (hc : kC f n = c) (w : World) (hT : yF w) : Calls Tryz.prog 53 #[.int .u8 f, .agg #[.int .u64 x, .int .u64 y]] w fun r w' => r = .returned (.int .u8 c) ∧ Below w.heap.size w w' := by
 obtain ⟨u, v, huv⟩ : ∃ u v, bv7 (kT f n) = (u, v) := ⟨_, _, rfl⟩
 obtain ⟨i, j, hij⟩ : ∃ u v, bv7 (eInf f false) = (u, v) := ⟨_, _, rfl⟩
 obtain ⟨f1, f2, f3, f4, f5, f6, f7⟩ := fm hf
 have tl := kT_lt (f := f) n
 have tn : kT f n < 340282366920938463463374607431768211456 := by rw [f1, Nat.add_mul] at f7; omega
 obtain ⟨u1, v1, t1⟩ := bv_lt tn huv
 obtain ⟨i1, j1, e1⟩ := bv_lt (einf_k hf).2 hij
 obtain ⟨_, _, _, p4, _⟩ := pV_lim hf
 have p1 : IntKind.u64.wrap ((pV f : Int) - 1) = ((pV f - 1 : Nat) : Int) := by rcases hf with rfl | rfl | rfl | rfl <;> decide +kernel
 refine kclass_walk f x y (kE f n) (oV f) (pV f) u v i j (decide (2 ^ (pV f - 1) ≤ kT f n)) (kN f n) _ w
  (zH (fun w hT => kfield_is f hf x y n _ hx hy hn rfl w hT)) (zH (fun w hT => kfraction_is f hf x y n u v hx hy hn huv w hT)) (zH (fun w hT => sk_inf f false hf i j hij w hT))
  (zH (fun w hT => kfield_is f hf i j _ _ i1 j1 e1 (einf_k hf).1 w hT)) (zH (fun w hT => kfw f hf _ rfl w hT)) (zH (fun w _ => kbit_is u v _ (pV f - 1) _ u1 v1 t1 (by omega) (quiet_of hf _ tl) w))
  (zH (fun w hT => ksign_is f hf x y n _ hx hy hn rfl w hT)) p1 ?_ hT
 have z1 : (kT f n = 0 → u = 0 ∧ v = 0) ∧ (kT f n ≠ 0 → (((u : Int) == 0) = false ∨ (u = 0 ∧ ((v : Int) == 0) = false))) := by
  refine ⟨fun h => by omega, fun h => ?_⟩
  by_cases hu : u = 0
  ·
   refine Or.inr ⟨hu, ?_⟩; simp; omega
  ·
   refine Or.inl ?_; simp; omega
 subst hc
 unfold kC
 by_cases c1 : kE f n = oV f
 ·
  have b1 : ((kE f n : Int) == (oV f : Int)) = true := by rw [c1]; simp
  rw [if_pos c1]
  by_cases c2 : kT f n = 0
  ·
   rw [if_pos c2]
   refine Or.inr (Or.inr (Or.inl ⟨b1, ?_, (z1.1 c2).1, (z1.1 c2).2, ?_⟩))
   ·
    rw [c2]; exact decide_eq_false (by omega)
   ·
    cases kN f n <;> rfl
  ·
   rw [if_neg c2]
   by_cases c3 : 2 ^ (pV f - 1) ≤ kT f n
   ·
    rw [if_pos c3]
    exact Or.inl ⟨b1, decide_eq_true c3, rfl⟩
   ·
    rw [if_neg c3]
    exact Or.inr (Or.inl ⟨b1, decide_eq_false c3, z1.2 c2, rfl⟩)
 ·
  have b1 : ((kE f n : Int) == (oV f : Int)) = false := by simp; omega
  rw [if_neg c1]
  by_cases c2 : kE f n = 0
  ·
   have b2 : ((kE f n : Int) != 0) = false := by rw [c2]; rfl
   rw [if_neg (by simpa using c2)]
   by_cases c3 : kT f n = 0
   ·
    rw [if_neg (by simpa using c3)]
    refine Or.inr (Or.inr (Or.inr (Or.inr (Or.inr ⟨b1, b2, (z1.1 c3).1, (z1.1 c3).2, ?_⟩))))
    cases kN f n <;> rfl
   ·
    rw [if_pos (by simpa using c3)]
    refine Or.inr (Or.inr (Or.inr (Or.inr (Or.inl ⟨b1, b2, z1.2 c3, ?_⟩))))
    cases kN f n <;> rfl
  ·
   have b2 : ((kE f n : Int) != 0) = true := by simp; omega
   rw [if_pos (by simpa using c2)]
   refine Or.inr (Or.inr (Or.inr (Or.inl ⟨b1, b2, ?_⟩)))
   cases kN f n <;> rfl

theorem fit_iff {f : Int} (hf : xH f) (n : Nat) : ((z7 n : Nat) : Int) ≤ fW f ↔ Fit f n := by
 have h := y6 n (wV f + 1)
 have e : fW f = ((wV f + 1 : Nat) : Int) := by rcases hf with rfl | rfl | rfl | rfl <;> decide +kernel
 unfold Fit
 rw [e, Nat.pow_succ, Nat.mul_comm] at *
 omega
def okB (f : Int) (n : Nat) : Bool := decide (f ≤ 3 ∧ n < 2 * 2 ^ wV f)
theorem okB_fits (f : Int) (h0 : 0 ≤ f) (x y n : Nat) (hn : y + 18446744073709551616 * x = n) : fitsB f (x, y) = okB f n := by
 unfold fitsB okB
 simp only []
 rw [hn]
 by_cases h : f ≤ 3
 ·
  have k := fit_iff (is4_of h0 h) n
  by_cases h2 : Fit f n
  ·
   rw [decide_eq_true h, decide_eq_true (k.2 h2), decide_eq_true ⟨h, h2⟩]; rfl
  ·
   rw [decide_eq_false (fun a => h2 (k.1 a)), Bool.and_false]
   exact (decide_eq_false (fun a : f ≤ 3 ∧ n < 2 * 2 ^ wV f => h2 a.2)).symm
 ·
  rw [decide_eq_false h, Bool.false_and]
  exact (decide_eq_false (fun a : f ≤ 3 ∧ n < 2 * 2 ^ wV f => h a.1)).symm
theorem sk_fits (f : Int) (x y n : Nat) (o : Bool) (h0 : 0 ≤ f) (h1 : f ≤ 255) (hx : x < 18446744073709551616) (hy : y < 18446744073709551616) (hn : y + 18446744073709551616 * x = n) (ho : okB f n = o) (w : World) (hT : yF w) : Calls Tryz.prog 52 #[.int .u8 f, .agg #[.int .u64 x, .int .u64 y]] w fun r w' => r = .returned (.bool o) ∧ Below w.heap.size w w' :=
 s_fits_is f (x, y) o h0 h1 hx hy (by rw [okB_fits f h0 x y n hn, ho]) w hT
theorem kClass_yes (f : Int) (hf : xH f) (x y n c : Nat) (hx : x < 18446744073709551616) (hy : y < 18446744073709551616) (hn : y + 18446744073709551616 * x = n) (ho : okB f n = true) (hc : kC f n = c) (w : World) (hT : yF w) : Calls Tryz.prog 20 #[.int .u8 f, .agg #[.int .u64 x, .int .u64 y]] w fun r w' => r = .returned (.tuple #[.int .u8 c, .int .i64 0]) ∧ Below w.heap.size w w' := by
 have f4 := yY hf
 have K1 := zH (sk_fits f x y n true f4.1 f4.2.1 hx hy hn ho)
 have K2 := zH (kclass_is f hf x y n c hx hy hn hc)
 have TT := zH hT
 clear hT hf hx hy hn ho hc
 obtain ⟨Ab, B0⟩ := kopn1 w (Obj.cells #[.int .u64 x, .int .u64 y] 25)
 go_enter Tryz.func20, Tryz.ntmps20
 go_wp2_with fail
 refine (K1.out _ (zW TT.out B0)).mono ?_
 rintro r w1 ⟨rfl, b1⟩
 have B1 : Below w.heap.size w w1 := yD B0 b1
 have Aa := zA b1 _ _ _ Ab
 clear b1 B0 Ab
 obtain ⟨Ac, Ad⟩ := zT Aa
 go_wp2_with fail
 refine (K2.out _ (zW TT.out B1)).mono ?_
 rintro r w2 ⟨rfl, b2⟩
 have B2 : Below w.heap.size w w2 := yD B1 b2
 have Ae := zA b2 _ _ _ Aa
 clear b2 B1 Aa Ac Ad
 obtain ⟨Af, Ag⟩ := zT Ae
 go_wp2
 go_ret2
 exact ⟨rfl, B2⟩
theorem kSign_yes (f : Int) (hf : xH f) (x y n : Nat) (o : Bool) (hx : x < 18446744073709551616) (hy : y < 18446744073709551616) (hn : y + 18446744073709551616 * x = n) (ho : okB f n = true) (hc : kN f n = o) (w : World) (hT : yF w) : Calls Tryz.prog 21 #[.int .u8 f, .agg #[.int .u64 x, .int .u64 y]] w fun r w' => r = .returned (.bool o) ∧ Below w.heap.size w w' := by
 have f4 := yY hf
 have K1 := zH (sk_fits f x y n true f4.1 f4.2.1 hx hy hn ho)
 have K2 := zH (ksign_is f hf x y n o hx hy hn hc)
 have TT := zH hT
 clear hT hf hx hy hn ho hc
 obtain ⟨Ab, B0⟩ := kopn1 w (Obj.cells #[.int .u64 x, .int .u64 y] 25)
 go_enter Tryz.func21, Tryz.ntmps21
 go_wp2_with fail
 refine (K1.out _ (zW TT.out B0)).mono ?_
 rintro r w1 ⟨rfl, b1⟩
 have B1 : Below w.heap.size w w1 := yD B0 b1
 have Aa := zA b1 _ _ _ Ab
 clear b1 B0 Ab
 obtain ⟨Ac, Ad⟩ := zT Aa
 go_wp2_with fail
 refine (K2.out _ (zW TT.out B1)).mono ?_
 rintro r w2 ⟨rfl, b2⟩
 have B2 : Below w.heap.size w w2 := yD B1 b2
 have Ae := zA b2 _ _ _ Aa
 clear b2 B1 Aa Ac Ad
 obtain ⟨Af, Ag⟩ := zT Ae
 go_wp2
 go_ret
 exact ⟨rfl, B2⟩
theorem kFlip_yes (f : Int) (hf : xH f) (x y n u v : Nat) (hx : x < 18446744073709551616) (hy : y < 18446744073709551616) (hn : y + 18446744073709551616 * x = n) (ho : okB f n = true) (hc : bv7 (sgB f n true) = (u, v)) (w : World) (hT : yF w) : Calls Tryz.prog 205 #[.int .u8 f, .agg #[.int .u64 x, .int .u64 y]] w fun r w' => r = .returned (.agg #[.int .u64 u, .int .u64 v]) ∧ Below w.heap.size w w' := by
 have f4 := yY hf
 have K1 := zH (sk_fits f x y n true f4.1 f4.2.1 hx hy hn ho)
 have K2 := zH (ksigned_is f hf x y n u v true hx hy hn hc)
 have TT := zH hT
 clear hT hf hx hy hn ho hc
 obtain ⟨Ad, Ae, B0⟩ := q9 w (Obj.cells #[.int .u64 x, .int .u64 y] 25) (Obj.cells #[.int .u64 0, .int .u64 0] 25)
 go_enter Tryz.func205, Tryz.ntmps205
 go_wp2_with fail
 refine (K1.out _ (zW TT.out B0)).mono ?_
 rintro r w1 ⟨rfl, b1⟩
 have B1 : Below w.heap.size w w1 := yD B0 b1
 obtain ⟨Ab, Ac⟩ := yB b1 Ad Ae
 clear b1 B0 Ad Ae
 obtain ⟨Af, Ag⟩ := zT Ab
 obtain ⟨Ah, Ai⟩ := zT Ac
 go_wp2_with fail
 refine (K2.out _ (zW TT.out B1)).mono ?_
 rintro r w2 ⟨rfl, b2⟩
 have B2 : Below w.heap.size w w2 := yD B1 b2
 obtain ⟨Aj, Aa⟩ := yB b2 Ab Ac
 clear b2 B1 Ab Af Ag Ac Ah Ai
 obtain ⟨Ak, Al⟩ := zT Aj
 obtain ⟨Am, An⟩ := zT Aa
 have q0 := fz (k := 0) Aa
 have q1 := fz (k := 1) Aa
 obtain ⟨E0, E1⟩ := yH Aa (.int .u64 u) (.int .u64 v)
 go_wp2
 exact bodyPost_ret (v := .agg #[.int .u64 u, .int .u64 v]) (by simp [results, Tryz.results205, go_sem, E0, E1]) rfl ⟨rfl, zY B2 (by first | exact Nat.le_refl _ | omega | (skip; omega)) _ _⟩
end Go.Proofs.YtkblmpmkchkpjaaGreatDoor
