/-
  What the functions that the statement reaches return: part 21 (U4).
-/
import Derived.Test.YtkblmpmkchkpjaaGreatDoorNe20
namespace Go.Proofs.YtkblmpmkchkpjaaGreatDoor
set_option maxRecDepth 100000
set_option maxHeartbeats 40000000
open Go.RowKit WMath XMath
set_option linter.unusedSimpArgs false
set_option linter.unusedVariables false
theorem nst_s (f m : Int) (b : Bool) (s t : ByteArray) (e : Int)  (w : World)
  (KS : zS (∀ w, Calls Tryz.prog 13 #[.agg #[.bool b, .string s, .string t, .int .i64 e]] w fun r w' => r = .returned (.bool false) ∧ Below w.heap.size w w'))
  (KA : zS (∀ w, yF w → zN w → Calls Tryz.prog 17 #[] w fun r w' => r = .returned (.bool true) ∧ Below w.heap.size w w'))
  (hT : yF w) (hT2 : zN w) : Calls Tryz.prog 4 #[.int .u8 f, .int .u8 m, .agg #[.bool b, .string s, .string t, .int .i64 e]] w fun r w' => r = .returned (.bool true) ∧ Below w.heap.size w w' := by
 have FF := zH hT
 have TT := zH hT2
 clear hT hT2
 obtain ⟨Ab, B0⟩ := yO w (Obj.cells #[.bool b, .string s, .string t, .int .i64 e] 41)
 go_enter Tryz.func4, Tryz.ntmps4
 go_wp2_with fail
 refine (KS.out _).mono ?_
 rintro r w1 ⟨rfl, b1⟩
 have B1 := zO B0 b1
 have Aa := zA b1 _ _ _ Ab
 clear b1 B0 Ab
 obtain ⟨Ac, Ad, Ae, Af⟩ := zC Aa
 go_wp2_with fail
 refine (KA.out _ (zW FF.out B1) (zV TT.out B1)).mono ?_
 rintro r w2 ⟨rfl, b2⟩
 have B2 := zO B1 b2
 have Ag := zA b2 _ _ _ Aa
 clear b2 B1 Aa Ac Ad Ae Af
 obtain ⟨Ah, Ai, Aj, Ak⟩ := zC Ag
 go_wp2
 go_ret
 exact ⟨rfl, B2⟩
theorem nst_m (f m : Int) (b : Bool) (s t : ByteArray) (e : Int)  (w : World)
  (KS : zS (∀ w, Calls Tryz.prog 13 #[.agg #[.bool b, .string s, .string t, .int .i64 e]] w fun r w' => r = .returned (.bool true) ∧ Below w.heap.size w w'))
  (KM : zS (∀ w, Calls Tryz.prog 14 #[.agg #[.bool b, .string s, .string t, .int .i64 e]] w fun r w' => r = .returned (.bool false) ∧ Below w.heap.size w w'))
  (KA : zS (∀ w, yF w → zN w → Calls Tryz.prog 17 #[] w fun r w' => r = .returned (.bool true) ∧ Below w.heap.size w w'))
  (hT : yF w) (hT2 : zN w) : Calls Tryz.prog 4 #[.int .u8 f, .int .u8 m, .agg #[.bool b, .string s, .string t, .int .i64 e]] w fun r w' => r = .returned (.bool true) ∧ Below w.heap.size w w' := by
 have FF := zH hT
 have TT := zH hT2
 clear hT hT2
 obtain ⟨Ac, B0⟩ := yO w (Obj.cells #[.bool b, .string s, .string t, .int .i64 e] 41)
 go_enter Tryz.func4, Tryz.ntmps4
 go_wp2_with fail
 refine (KS.out _).mono ?_
 rintro r w1 ⟨rfl, b1⟩
 have B1 := zO B0 b1
 have Aa := zA b1 _ _ _ Ac
 clear b1 B0 Ac
 obtain ⟨Ad, Ae, Af, Ag⟩ := zC Aa
 go_wp2_with fail
 refine (KM.out _).mono ?_
 rintro r w2 ⟨rfl, b2⟩
 have B2 := zO B1 b2
 have Ab := zA b2 _ _ _ Aa
 clear b2 B1 Aa Ad Ae Af Ag
 obtain ⟨Ah, Ai, Aj, Ak⟩ := zC Ab
 go_wp2_with fail
 refine (KA.out _ (zW FF.out B2) (zV TT.out B2)).mono ?_
 rintro r w3 ⟨rfl, b3⟩
 have B3 := zO B2 b3
 have Al := zA b3 _ _ _ Ab
 clear b3 B2 Ab Ah Ai Aj Ak
 obtain ⟨Am, An, Ao, Ap⟩ := zC Al
 go_wp2
 go_ret
 exact ⟨rfl, B3⟩
theorem nst_f (f m : Int) (b : Bool) (s t : ByteArray) (e : Int) (o3 : Bool) (w : World)
  (KS : zS (∀ w, Calls Tryz.prog 13 #[.agg #[.bool b, .string s, .string t, .int .i64 e]] w fun r w' => r = .returned (.bool true) ∧ Below w.heap.size w w'))
  (KM : zS (∀ w, Calls Tryz.prog 14 #[.agg #[.bool b, .string s, .string t, .int .i64 e]] w fun r w' => r = .returned (.bool true) ∧ Below w.heap.size w w'))
  (KF : zS (∀ w, Calls Tryz.prog 10 #[.int .u8 f] w fun r w' => r = .returned (.bool o3) ∧ Below w.heap.size w w'))
  (h3 : o3 = false)
  (KA : zS (∀ w, yF w → zN w → Calls Tryz.prog 17 #[] w fun r w' => r = .returned (.bool true) ∧ Below w.heap.size w w'))
  (hT : yF w) (hT2 : zN w) : Calls Tryz.prog 4 #[.int .u8 f, .int .u8 m, .agg #[.bool b, .string s, .string t, .int .i64 e]] w fun r w' => r = .returned (.bool true) ∧ Below w.heap.size w w' := by
 have FF := zH hT
 have TT := zH hT2
 clear hT hT2
 subst h3
 obtain ⟨Ad, B0⟩ := yO w (Obj.cells #[.bool b, .string s, .string t, .int .i64 e] 41)
 go_enter Tryz.func4, Tryz.ntmps4
 go_wp2_with fail
 refine (KS.out _).mono ?_
 rintro r w1 ⟨rfl, b1⟩
 have B1 := zO B0 b1
 have Aa := zA b1 _ _ _ Ad
 clear b1 B0 Ad
 obtain ⟨Ae, Af, Ag, Ah⟩ := zC Aa
 go_wp2_with fail
 refine (KM.out _).mono ?_
 rintro r w2 ⟨rfl, b2⟩
 have B2 := zO B1 b2
 have Ab := zA b2 _ _ _ Aa
 clear b2 B1 Aa Ae Af Ag Ah
 obtain ⟨Ai, Aj, Ak, Al⟩ := zC Ab
 go_wp2_with fail
 refine (KF.out _).mono ?_
 rintro r w3 ⟨rfl, b3⟩
 have B3 := zO B2 b3
 have Ac := zA b3 _ _ _ Ab
 clear b3 B2 Ab Ai Aj Ak Al
 obtain ⟨Am, An, Ao, Ap⟩ := zC Ac
 go_wp2_with fail
 refine (KA.out _ (zW FF.out B3) (zV TT.out B3)).mono ?_
 rintro r w4 ⟨rfl, b4⟩
 have B4 := zO B3 b4
 have Aq := zA b4 _ _ _ Ac
 clear b4 B3 Ac Am An Ao Ap
 obtain ⟨Ar, As, At, Au⟩ := zC Aq
 go_wp2
 go_ret
 exact ⟨rfl, B4⟩
theorem nst_o (f m : Int) (b : Bool) (s t : ByteArray) (e : Int) (o3 o4 : Bool) (w : World)
  (KS : zS (∀ w, Calls Tryz.prog 13 #[.agg #[.bool b, .string s, .string t, .int .i64 e]] w fun r w' => r = .returned (.bool true) ∧ Below w.heap.size w w'))
  (KM : zS (∀ w, Calls Tryz.prog 14 #[.agg #[.bool b, .string s, .string t, .int .i64 e]] w fun r w' => r = .returned (.bool true) ∧ Below w.heap.size w w'))
  (KF : zS (∀ w, Calls Tryz.prog 10 #[.int .u8 f] w fun r w' => r = .returned (.bool o3) ∧ Below w.heap.size w w'))
  (KO : zS (∀ w, Calls Tryz.prog 15 #[.int .u8 m] w fun r w' => r = .returned (.bool o4) ∧ Below w.heap.size w w'))
  (h3 : o3 = true) (h4 : o4 = false)
  (KA : zS (∀ w, yF w → zN w → Calls Tryz.prog 17 #[] w fun r w' => r = .returned (.bool true) ∧ Below w.heap.size w w'))
  (hT : yF w) (hT2 : zN w) : Calls Tryz.prog 4 #[.int .u8 f, .int .u8 m, .agg #[.bool b, .string s, .string t, .int .i64 e]] w fun r w' => r = .returned (.bool true) ∧ Below w.heap.size w w' := by
 have FF := zH hT
 have TT := zH hT2
 clear hT hT2
 subst h3 h4
 obtain ⟨Ae, B0⟩ := yO w (Obj.cells #[.bool b, .string s, .string t, .int .i64 e] 41)
 go_enter Tryz.func4, Tryz.ntmps4
 go_wp2_with fail
 refine (KS.out _).mono ?_
 rintro r w1 ⟨rfl, b1⟩
 have B1 := zO B0 b1
 have Aa := zA b1 _ _ _ Ae
 clear b1 B0 Ae
 obtain ⟨Af, Ag, Ah, Ai⟩ := zC Aa
 go_wp2_with fail
 refine (KM.out _).mono ?_
 rintro r w2 ⟨rfl, b2⟩
 have B2 := zO B1 b2
 have Ab := zA b2 _ _ _ Aa
 clear b2 B1 Aa Af Ag Ah Ai
 obtain ⟨Aj, Ak, Al, Am⟩ := zC Ab
 go_wp2_with fail
 refine (KF.out _).mono ?_
 rintro r w3 ⟨rfl, b3⟩
 have B3 := zO B2 b3
 have Ac := zA b3 _ _ _ Ab
 clear b3 B2 Ab Aj Ak Al Am
 obtain ⟨An, Ao, Ap, Aq⟩ := zC Ac
 go_wp2_with fail
 refine (KO.out _).mono ?_
 rintro r w4 ⟨rfl, b4⟩
 have B4 := zO B3 b4
 have Ad := zA b4 _ _ _ Ac
 clear b4 B3 Ac An Ao Ap Aq
 obtain ⟨Ar, As, At, Au⟩ := zC Ad
 go_wp2_with fail
 refine (KA.out _ (zW FF.out B4) (zV TT.out B4)).mono ?_
 rintro r w5 ⟨rfl, b5⟩
 have B5 := zO B4 b5
 have Av := zA b5 _ _ _ Ad
 clear b5 B4 Ad Ar As At Au
 obtain ⟨Aw, Ax, Ay, Az⟩ := zC Av
 go_wp2
 go_ret
 exact ⟨rfl, B5⟩
theorem nst_z (f m : Int) (b : Bool) (s t : ByteArray) (e : Int) (o3 o4 : Bool) (g : Int) (w : World)
  (KS : zS (∀ w, Calls Tryz.prog 13 #[.agg #[.bool b, .string s, .string t, .int .i64 e]] w fun r w' => r = .returned (.bool true) ∧ Below w.heap.size w w'))
  (KM : zS (∀ w, Calls Tryz.prog 14 #[.agg #[.bool b, .string s, .string t, .int .i64 e]] w fun r w' => r = .returned (.bool true) ∧ Below w.heap.size w w'))
  (KF : zS (∀ w, Calls Tryz.prog 10 #[.int .u8 f] w fun r w' => r = .returned (.bool o3) ∧ Below w.heap.size w w'))
  (KO : zS (∀ w, Calls Tryz.prog 15 #[.int .u8 m] w fun r w' => r = .returned (.bool o4) ∧ Below w.heap.size w w'))
  (KG : zS (∀ w, zN w → Calls Tryz.prog 16 #[.agg #[.bool b, .string s, .string t, .int .i64 e]] w fun r w' => r = .returned (.int .i64 g) ∧ Below w.heap.size w w'))
  (h3 : o3 = true) (h4 : o4 = true) (hg : (g == 0) = true)
  (KA : zS (∀ w, yF w → zN w → Calls Tryz.prog 17 #[] w fun r w' => r = .returned (.bool true) ∧ Below w.heap.size w w'))
  (hT : yF w) (hT2 : zN w) : Calls Tryz.prog 4 #[.int .u8 f, .int .u8 m, .agg #[.bool b, .string s, .string t, .int .i64 e]] w fun r w' => r = .returned (.bool true) ∧ Below w.heap.size w w' := by
 have FF := zH hT
 have TT := zH hT2
 clear hT hT2
 subst h3 h4
 obtain ⟨Af, B0⟩ := yO w (Obj.cells #[.bool b, .string s, .string t, .int .i64 e] 41)
 go_enter Tryz.func4, Tryz.ntmps4
 go_wp2_with fail
 refine (KS.out _).mono ?_
 rintro r w1 ⟨rfl, b1⟩
 have B1 := zO B0 b1
 have Aa := zA b1 _ _ _ Af
 clear b1 B0 Af
 obtain ⟨Ag, Ah, Ai, Aj⟩ := zC Aa
 go_wp2_with fail
 refine (KM.out _).mono ?_
 rintro r w2 ⟨rfl, b2⟩
 have B2 := zO B1 b2
 have Ab := zA b2 _ _ _ Aa
 clear b2 B1 Aa Ag Ah Ai Aj
 obtain ⟨Ak, Al, Am, An⟩ := zC Ab
 go_wp2_with fail
 refine (KF.out _).mono ?_
 rintro r w3 ⟨rfl, b3⟩
 have B3 := zO B2 b3
 have Ac := zA b3 _ _ _ Ab
 clear b3 B2 Ab Ak Al Am An
 obtain ⟨Ao, Ap, Aq, Ar⟩ := zC Ac
 go_wp2_with fail
 refine (KO.out _).mono ?_
 rintro r w4 ⟨rfl, b4⟩
 have B4 := zO B3 b4
 have Ad := zA b4 _ _ _ Ac
 clear b4 B3 Ac Ao Ap Aq Ar
 obtain ⟨As, At, Au, Av⟩ := zC Ad
 go_wp2_with fail
 refine (KG.out _ (zV TT.out B4)).mono ?_
 rintro r w5 ⟨rfl, b5⟩
 have B5 := zO B4 b5
 have Ae := zA b5 _ _ _ Ad
 clear b5 B4 Ad As At Au Av
 obtain ⟨Aw, Ax, Ay, Az⟩ := zC Ae
 go_wp2_with fail
 refine (KA.out _ (zW FF.out B5) (zV TT.out B5)).mono ?_
 rintro r w6 ⟨rfl, b6⟩
 have B6 := zO B5 b6
 have AA := zA b6 _ _ _ Ae
 clear b6 B5 Ae Aw Ax Ay Az
 obtain ⟨AB, AC, AD, AE⟩ := zC AA
 go_wp2
 go_ret
 exact ⟨rfl, B6⟩
theorem nst_val (f : Int) (u v : Nat) (b : Bool) (n d : ByteArray) (e g : Int) (o : Bool) (ho : (g == 0) = o) (w : World)
  (K1 : zS (∀ w, yF w → zN w → Calls Tryz.prog 54 #[.int .u8 f, .agg #[.int .u64 u, .int .u64 v]] w fun r w' => r = .returned (.tuple #[.agg #[.bool b, .string n, .string d, .int .i64 e], .int .i64 g]) ∧ Below w.heap.size w w'))
  (hT : yF w) (hT2 : zN w) : Calls Tryz.prog 22 #[.int .u8 f, .agg #[.int .u64 u, .int .u64 v]] w fun r w' => r = .returned (.tuple #[.agg #[.bool b, .string n, .string d, .int .i64 e], .bool o]) ∧ Below w.heap.size w w' := by
 have FF := zH hT
 have TT := zH hT2
 clear hT hT2
 obtain ⟨Ad, Ae, B0⟩ := qW w (Obj.cells #[.int .u64 u, .int .u64 v] 25) (Obj.cells #[.bool false, .string ⟨#[]⟩, .string ⟨#[]⟩, .int .i64 0] 41)
 go_enter Tryz.func22, Tryz.ntmps22
 go_wp2_with fail
 refine (K1.out _ (zW FF.out B0) (zV TT.out B0)).mono ?_
 rintro r w1 ⟨rfl, b1⟩
 have B1 := zO B0 b1
 obtain ⟨Ab, Ac⟩ := yB b1 Ad Ae
 clear b1 B0 Ad Ae
 obtain ⟨Af, Ag⟩ := zF Ab
 obtain ⟨Ah, Ai, Aj, Ak⟩ := zC Ac
 have S2 := zH B1.size
 have Al := z8 Ab
 have Am := z8 Ac
 have An := heap_alloc_last w1 (Obj.cells #[.bool b, .string n, .string d, .int .i64 e] 41)
 have B2 := zO B1 (yK w1 (Obj.cells #[.bool b, .string n, .string d, .int .i64 e] 41))
 obtain ⟨Ao, Aa⟩ := yB (yK w1 (Obj.cells #[.bool b, .string n, .string d, .int .i64 e] 41)) Ab Ac
 clear B1 Ab Af Ag Ac Ah Ai Aj Ak
 obtain ⟨Ap, Aq⟩ := zF Ao
 obtain ⟨Ar, As, At, Au⟩ := zC Aa
 obtain ⟨Av, Aw, Ax, Ay⟩ := zC An
 have q0 := fz (k := 0) Aa
 have q1 := fz (k := 1) Aa
 have q2 := fz (k := 2) Aa
 have q3 := fz (k := 3) Aa
 obtain ⟨E0, E1, E2, E3⟩ := yC Aa rfl (.bool b) (.string n) (.string d) (.int .i64 e)
 go_wp2
 exact bodyPost_ret (v := .tuple #[.agg #[.bool b, .string n, .string d, .int .i64 e], .bool o]) (by simp [results, Tryz.results22, go_sem, E0, E1, E2, E3]) rfl ⟨rfl, z9 B2 (by first | exact Nat.le_refl _ | omega | (have := S2.out; have := Al.out; have := Am.out; omega)) _ _ _ _⟩
theorem nst_down (f m : Int) (b : Bool) (s t : ByteArray) (e : Int) (o3 o4 : Bool) (g : Int) (bu bv lu lv hu hv : Nat) (fl : Int) (c : Nat) (e0 : Bool)  (w : World)
  (KS : zS (∀ w, Calls Tryz.prog 13 #[.agg #[.bool b, .string s, .string t, .int .i64 e]] w fun r w' => r = .returned (.bool true) ∧ Below w.heap.size w w'))
  (KM : zS (∀ w, Calls Tryz.prog 14 #[.agg #[.bool b, .string s, .string t, .int .i64 e]] w fun r w' => r = .returned (.bool true) ∧ Below w.heap.size w w'))
  (KF : zS (∀ w, Calls Tryz.prog 10 #[.int .u8 f] w fun r w' => r = .returned (.bool o3) ∧ Below w.heap.size w w'))
  (KO : zS (∀ w, Calls Tryz.prog 15 #[.int .u8 m] w fun r w' => r = .returned (.bool o4) ∧ Below w.heap.size w w'))
  (KG : zS (∀ w, zN w → Calls Tryz.prog 16 #[.agg #[.bool b, .string s, .string t, .int .i64 e]] w fun r w' => r = .returned (.int .i64 g) ∧ Below w.heap.size w w'))
  (h3 : o3 = true) (h4 : o4 = true) (hg : (g == 0) = false)
  (K1 : zS (∀ w, yF w → zN w → Calls Tryz.prog 18 #[.int .u8 f, .int .u8 m, .agg #[.bool b, .string s, .string t, .int .i64 e]] w fun r w' => r = .returned (.tuple #[.agg #[.int .u64 bu, .int .u64 bv], .int .u8 fl, .int .i64 0]) ∧ Below w.heap.size w w'))
  (K2 : zS (∀ w, yF w → zN w → Calls Tryz.prog 19 #[.int .u8 f, .agg #[.bool b, .string s, .string t, .int .i64 e]] w fun r w' => r = .returned (.tuple #[.agg #[.int .u64 lu, .int .u64 lv], .agg #[.int .u64 hu, .int .u64 hv], .int .i64 0]) ∧ Below w.heap.size w w'))
  (KC : zS (∀ w, yF w → Calls Tryz.prog 20 #[.int .u8 f, .agg #[.int .u64 bu, .int .u64 bv]] w fun r w' => r = .returned (.tuple #[.int .u8 c, .int .i64 0]) ∧ Below w.heap.size w w'))
  (KN : zS (∀ w, yF w → Calls Tryz.prog 21 #[.int .u8 f, .agg #[.int .u64 bu, .int .u64 bv]] w fun r w' => r = .returned (.bool (decide (g < 0))) ∧ Below w.heap.size w w'))
  (KA : zS (∀ w, yF w → zN w → Calls Tryz.prog 17 #[] w fun r w' => r = .returned (.bool true) ∧ Below w.heap.size w w'))
  (hm : m = 2) (he0 : (fl == 0) = e0) (hlh : yX (lu : Nat) (lv : Nat) (hu : Nat) (hv : Nat) = e0)
  (H : zS (((((c : Int) == 3) = true ∧ bits .and .u8 fl 6 = 2 ∧ bits .and .u8 fl 1 = 1 ∧ yX 0 0 (lu : Nat) (lv : Nat) = true) ∨ (((c : Int) == 3) = false ∧ ((c : Int) == 4) = true ∧ bits .and .u8 fl 6 = 2 ∧ bits .and .u8 fl 1 = 1 ∧ yX 0 0 (lu : Nat) (lv : Nat) = true)) ∨
   ((((c : Int) == 3) = false ∧ ((c : Int) == 4) = false ∧ bits .and .u8 fl 6 = 0 ∧ yX (bu : Nat) (bv : Nat) (lu : Nat) (lv : Nat) = true) ∨ (((c : Int) == 3) = false ∧ ((c : Int) == 4) = false ∧ bits .and .u8 fl 6 = 2 ∧ bits .and .u8 fl 1 = 1 ∧ yX (bu : Nat) (bv : Nat) (lu : Nat) (lv : Nat) = true) ∨ (((c : Int) == 3) = false ∧ ((c : Int) == 4) = false ∧ bits .and .u8 fl 6 = 4 ∧ bits .and .u8 fl 1 = 1 ∧ yX (bu : Nat) (bv : Nat) (lu : Nat) (lv : Nat) = true))))
  (hT : yF w) (hT2 : zN w) : Calls Tryz.prog 4 #[.int .u8 f, .int .u8 m, .agg #[.bool b, .string s, .string t, .int .i64 e]] w fun r w' => r = .returned (.bool true) ∧ Below w.heap.size w w' := by
 have FF := zH hT
 have TT := zH hT2
 clear hT hT2
 subst h3 h4
 have heb := eqb
 have hb1 : ∀ x : Bool, (x == x) = true := fun x => by cases x <;> rfl
 have hb2 : ∀ x : Bool, (x != x) = false := fun x => by cases x <;> rfl
 subst hm
 obtain ⟨AV, B0⟩ := yO w (Obj.cells #[.bool b, .string s, .string t, .int .i64 e] 41)
 go_enter Tryz.func4, Tryz.ntmps4
 go_wp2_with fail
 refine (KS.out _).mono ?_
 rintro r w1 ⟨rfl, b1⟩
 have B1 := zO B0 b1
 have AE := zA b1 _ _ _ AV
 clear b1 B0 AV
 obtain ⟨Ba, Bb, Bc, Bd⟩ := zC AE
 go_wp2_with fail
 refine (KM.out _).mono ?_
 rintro r w2 ⟨rfl, b2⟩
 have B2 := zO B1 b2
 have AF := zA b2 _ _ _ AE
 clear b2 B1 AE Ba Bb Bc Bd
 obtain ⟨Be, Bf, Bg, Bh⟩ := zC AF
 go_wp2_with fail
 refine (KF.out _).mono ?_
 rintro r w3 ⟨rfl, b3⟩
 have B3 := zO B2 b3
 have AG := zA b3 _ _ _ AF
 clear b3 B2 AF Be Bf Bg Bh
 obtain ⟨Bi, Bj, Bk, Bl⟩ := zC AG
 go_wp2_with fail
 refine (KO.out _).mono ?_
 rintro r w4 ⟨rfl, b4⟩
 have B4 := zO B3 b4
 have AH := zA b4 _ _ _ AG
 clear b4 B3 AG Bi Bj Bk Bl
 obtain ⟨Bm, Bn, Bo, Bp⟩ := zC AH
 go_wp2_with fail
 refine (KG.out _ (zV TT.out B4)).mono ?_
 rintro r w5 ⟨rfl, b5⟩
 have B5 := zO B4 b5
 have AI := zA b5 _ _ _ AH
 clear b5 B4 AH Bm Bn Bo Bp
 obtain ⟨Bq, Br, Bs, Bt⟩ := zC AI
 go_wp2_with fail
 refine (K1.out _ (zW FF.out B5) (zV TT.out B5)).mono ?_
 rintro r w6 ⟨rfl, b6⟩
 have B6 := zO B5 b6
 have Aq := zA b6 _ _ _ AI
 clear b6 B5 AI Bq Br Bs Bt
 obtain ⟨Bu, Bv, Bw, Bx⟩ := zC Aq
 have S7 := zH B6.size
 have Ad := z8 Aq
 have AJ := heap_alloc_last w6 (Obj.cells #[.int .u64 bu, .int .u64 bv] 25)
 have B7 := zO B6 (yK w6 (Obj.cells #[.int .u64 bu, .int .u64 bv] 25))
 have AK := zA (yK w6 (Obj.cells #[.int .u64 bu, .int .u64 bv] 25)) _ _ _ Aq
 clear B6 Aq Bu Bv Bw Bx
 obtain ⟨By, Bz, BA, BB⟩ := zC AK
 obtain ⟨BC, BD⟩ := zF AJ
 go_wp2_with fail
 refine (K2.out _ (zW FF.out B7) (zV TT.out B7)).mono ?_
 rintro r w8 ⟨rfl, b8⟩
 have B8 := zO B7 b8
 obtain ⟨Ar, As⟩ := yB b8 AK AJ
 clear b8 B7 AK By Bz BA BB AJ BC BD
 obtain ⟨BE, BF, BG, BH⟩ := zC Ar
 obtain ⟨BI, BJ⟩ := zF As
 have S9 := zH B8.size
 have Ae := z8 Ar
 have Af := z8 As
 have At := heap_alloc_last w8 (Obj.cells #[.int .u64 lu, .int .u64 lv] 25)
 have B9 := zO B8 (yK w8 (Obj.cells #[.int .u64 lu, .int .u64 lv] 25))
 obtain ⟨Au, Av⟩ := yB (yK w8 (Obj.cells #[.int .u64 lu, .int .u64 lv] 25)) Ar As
 clear B8 Ar BE BF BG BH As BI BJ
 obtain ⟨BK, BL, BM, BN⟩ := zC Au
 obtain ⟨BO, BP⟩ := zF Av
 obtain ⟨BQ, BR⟩ := zF At
 have S10 := zH B9.size
 have Ag := z8 Au
 have Ah := z8 Av
 have Ai := z8 At
 have Z10 := zH (zX w8 (Obj.cells #[.int .u64 lu, .int .u64 lv] 25))
 have Aw : ((w8.alloc (Obj.cells #[.int .u64 lu, .int .u64 lv] 25)).alloc (Obj.cells #[.int .u64 hu, .int .u64 hv] 25)).heap[w8.heap.size + 1]? = some (.cells #[.int .u64 hu, .int .u64 hv] 25) := by have := heap_alloc_last (w8.alloc (Obj.cells #[.int .u64 lu, .int .u64 lv] 25)) (Obj.cells #[.int .u64 hu, .int .u64 hv] 25); simpa only [zX] using this
 have B10 := zO B9 (yK (w8.alloc (Obj.cells #[.int .u64 lu, .int .u64 lv] 25)) (Obj.cells #[.int .u64 hu, .int .u64 hv] 25))
 obtain ⟨Ax, Ay, Az⟩ := yA (yK (w8.alloc (Obj.cells #[.int .u64 lu, .int .u64 lv] 25)) (Obj.cells #[.int .u64 hu, .int .u64 hv] 25)) Au Av At
 clear B9 Au BK BL BM BN Av BO BP At BQ BR
 obtain ⟨BS, BT, BU, BV⟩ := zC Ax
 obtain ⟨AW, AX⟩ := zF Ay
 obtain ⟨BW, BX⟩ := zF Az
 obtain ⟨BY, BZ⟩ := zF Aw
 have kb0 := AW
 have kb1 := AX
 have S11 := zH B10.size
 have Aj := z8 Ax
 have Ak := z8 Ay
 have Al := z8 Az
 have Am := z8 Aw
 have Z11 := zH (zX (w8.alloc (Obj.cells #[.int .u64 lu, .int .u64 lv] 25)) (Obj.cells #[.int .u64 hu, .int .u64 hv] 25))
 have AL : (((w8.alloc (Obj.cells #[.int .u64 lu, .int .u64 lv] 25)).alloc (Obj.cells #[.int .u64 hu, .int .u64 hv] 25)).alloc (Obj.cells #[.int .u64 bu, .int .u64 bv] 25)).heap[w8.heap.size + 1 + 1]? = some (.cells #[.int .u64 bu, .int .u64 bv] 25) := by have := heap_alloc_last ((w8.alloc (Obj.cells #[.int .u64 lu, .int .u64 lv] 25)).alloc (Obj.cells #[.int .u64 hu, .int .u64 hv] 25)) (Obj.cells #[.int .u64 bu, .int .u64 bv] 25); simpa only [zX] using this
 have B11 := zO B10 (yK ((w8.alloc (Obj.cells #[.int .u64 lu, .int .u64 lv] 25)).alloc (Obj.cells #[.int .u64 hu, .int .u64 hv] 25)) (Obj.cells #[.int .u64 bu, .int .u64 bv] 25))
 obtain ⟨AM, AN, AO, AP⟩ := qT (yK ((w8.alloc (Obj.cells #[.int .u64 lu, .int .u64 lv] 25)).alloc (Obj.cells #[.int .u64 hu, .int .u64 hv] 25)) (Obj.cells #[.int .u64 bu, .int .u64 bv] 25)) Ax Ay Az Aw
 clear B10 Ax BS BT BU BV Ay AW AX Az BW BX Aw BY BZ
 obtain ⟨Ca, Cb, Cc, Cd⟩ := zC AM
 obtain ⟨Ce, Cf⟩ := zF AN
 obtain ⟨Cg, Ch⟩ := zF AO
 obtain ⟨Ci, Cj⟩ := zF AP
 obtain ⟨Ck, Cl⟩ := zF AL
 go_wp2_with fail
 refine (KC.out _ (zW FF.out B11)).mono ?_
 rintro r w12 ⟨rfl, b12⟩
 have B12 := zO B11 b12
 obtain ⟨Aa, Ab, An, Ao, Ap⟩ := xP b12 AM AN AO AP AL
 clear b12 B11 AM Ca Cb Cc Cd AN Ce Cf AO Cg Ch AP Ci Cj AL Ck Cl
 obtain ⟨AY, AZ, A0, A1⟩ := zC Aa
 obtain ⟨A2, A3⟩ := zF Ab
 obtain ⟨A4, A5⟩ := zF An
 obtain ⟨A6, A7⟩ := zF Ao
 obtain ⟨A8, A9⟩ := zF Ap
 clear kb0 kb1
 rcases H.out with HZ | HZ
 ·
  clear H
  rcases HZ with ⟨c3, n6e, n1e, ql⟩ | ⟨c3, c4, n6e, n1e, ql⟩
  all_goals
   have sS : zS (∀ W W1 : World, (Below w.heap.size w W ∧ W.heap[w.heap.size]? = some (.cells #[.bool b, .string s, .string t, .int .i64 e] 41) ∧ W.heap[w6.heap.size]? = some (.cells #[.int .u64 bu, .int .u64 bv] 25) ∧ W.heap[w8.heap.size]? = some (.cells #[.int .u64 lu, .int .u64 lv] 25) ∧ W.heap[w8.heap.size + 1]? = some (.cells #[.int .u64 hu, .int .u64 hv] 25) ∧ W.heap[w8.heap.size + 1 + 1]? = some (.cells #[.int .u64 bu, .int .u64 bv] 25) ∧ W.cell? ⟨w.heap.size, 0, none⟩ = some (.bool b) ∧ W.cell? ⟨w.heap.size, 1, none⟩ = some (.string s) ∧ W.cell? ⟨w.heap.size, 2, none⟩ = some (.string t) ∧ W.cell? ⟨w.heap.size, 3, none⟩ = some (.int .i64 e) ∧ W.cell? ⟨w6.heap.size, 0, none⟩ = some (.int .u64 bu) ∧ W.cell? ⟨w6.heap.size, 1, none⟩ = some (.int .u64 bv)) → Below W.heap.size W W1 → (Below w.heap.size w W1 ∧ W1.heap[w.heap.size]? = some (.cells #[.bool b, .string s, .string t, .int .i64 e] 41) ∧ W1.heap[w6.heap.size]? = some (.cells #[.int .u64 bu, .int .u64 bv] 25) ∧ W1.heap[w8.heap.size]? = some (.cells #[.int .u64 lu, .int .u64 lv] 25) ∧ W1.heap[w8.heap.size + 1]? = some (.cells #[.int .u64 hu, .int .u64 hv] 25) ∧ W1.heap[w8.heap.size + 1 + 1]? = some (.cells #[.int .u64 bu, .int .u64 bv] 25) ∧ W1.cell? ⟨w.heap.size, 0, none⟩ = some (.bool b) ∧ W1.cell? ⟨w.heap.size, 1, none⟩ = some (.string s) ∧ W1.cell? ⟨w.heap.size, 2, none⟩ = some (.string t) ∧ W1.cell? ⟨w.heap.size, 3, none⟩ = some (.int .i64 e) ∧ W1.cell? ⟨w6.heap.size, 0, none⟩ = some (.int .u64 bu) ∧ W1.cell? ⟨w6.heap.size, 1, none⟩ = some (.int .u64 bv))) := zH (fun W W1 h b => ⟨zO h.1 b, zA b _ _ _ h.2.1, zA b _ _ _ h.2.2.1, zA b _ _ _ h.2.2.2.1, zA b _ _ _ h.2.2.2.2.1, zA b _ _ _ h.2.2.2.2.2.1, zL (zA b _ _ _ h.2.1) 0 _ rfl, zL (zA b _ _ _ h.2.1) 1 _ rfl, zL (zA b _ _ _ h.2.1) 2 _ rfl, zL (zA b _ _ _ h.2.1) 3 _ rfl, zL (zA b _ _ _ h.2.2.1) 0 _ rfl, zL (zA b _ _ _ h.2.2.1) 1 _ rfl⟩)
   have s0 : Below w.heap.size w (w12).drew ∧ (w12).drew.heap[w.heap.size]? = some (.cells #[.bool b, .string s, .string t, .int .i64 e] 41) ∧ (w12).drew.heap[w6.heap.size]? = some (.cells #[.int .u64 bu, .int .u64 bv] 25) ∧ (w12).drew.heap[w8.heap.size]? = some (.cells #[.int .u64 lu, .int .u64 lv] 25) ∧ (w12).drew.heap[w8.heap.size + 1]? = some (.cells #[.int .u64 hu, .int .u64 hv] 25) ∧ (w12).drew.heap[w8.heap.size + 1 + 1]? = some (.cells #[.int .u64 bu, .int .u64 bv] 25) ∧ (w12).drew.cell? ⟨w.heap.size, 0, none⟩ = some (.bool b) ∧ (w12).drew.cell? ⟨w.heap.size, 1, none⟩ = some (.string s) ∧ (w12).drew.cell? ⟨w.heap.size, 2, none⟩ = some (.string t) ∧ (w12).drew.cell? ⟨w.heap.size, 3, none⟩ = some (.int .i64 e) ∧ (w12).drew.cell? ⟨w6.heap.size, 0, none⟩ = some (.int .u64 bu) ∧ (w12).drew.cell? ⟨w6.heap.size, 1, none⟩ = some (.int .u64 bv) := ⟨B12.drew, Aa, Ab, An, Ao, Ap, zL (Aa) 0 _ rfl, zL (Aa) 1 _ rfl, zL (Aa) 2 _ rfl, zL (Aa) 3 _ rfl, zL (Ab) 0 _ rfl, zL (Ab) 1 _ rfl⟩
   go_wp2_with fail
   go_region_held3 (fun W => Below w.heap.size w W ∧ W.heap[w.heap.size]? = some (.cells #[.bool b, .string s, .string t, .int .i64 e] 41) ∧ W.heap[w6.heap.size]? = some (.cells #[.int .u64 bu, .int .u64 bv] 25) ∧ W.heap[w8.heap.size]? = some (.cells #[.int .u64 lu, .int .u64 lv] 25) ∧ W.heap[w8.heap.size + 1]? = some (.cells #[.int .u64 hu, .int .u64 hv] 25) ∧ W.heap[w8.heap.size + 1 + 1]? = some (.cells #[.int .u64 bu, .int .u64 bv] 25) ∧ W.cell? ⟨w.heap.size, 0, none⟩ = some (.bool b) ∧ W.cell? ⟨w.heap.size, 1, none⟩ = some (.string s) ∧ W.cell? ⟨w.heap.size, 2, none⟩ = some (.string t) ∧ W.cell? ⟨w.heap.size, 3, none⟩ = some (.int .i64 e) ∧ W.cell? ⟨w6.heap.size, 0, none⟩ = some (.int .u64 bu) ∧ W.cell? ⟨w6.heap.size, 1, none⟩ = some (.int .u64 bv)) (first | exact s1 | exact s0)
    (((first | (go_at_call 21; (first | refine (KN.out _ (zW FF.out (And.left s1))).mono ?_ | refine (KN.out _ (zW FF.out (And.left s0))).mono ?_)) | (go_at_call 16; (first | refine (KG.out _ (zV TT.out (And.left s1))).mono ?_ | refine (KG.out _ (zV TT.out (And.left s0))).mono ?_)) | fail); rintro r wq ⟨rfl, bq⟩; (first | have s1 := sS.out _ _ s1 bq | have s1 := sS.out _ _ s0 bq); clear bq))
   have B13 := (And.left s1)
   have AA := s1.2.1
   have AB := s1.2.2.1
   have AC := s1.2.2.2.1
   have AD := s1.2.2.2.2.1
   have Ac := s1.2.2.2.2.2.1
   clear s0 s1 sS B12 Aa AY AZ A0 A1 Ab A2 A3 An A4 A5 Ao A6 A7 Ap A8 A9
   obtain ⟨Cm, Cn, Co, Cp⟩ := zC AA
   obtain ⟨Cq, Cr⟩ := zF AB
   obtain ⟨Cs, Ct⟩ := zF AC
   obtain ⟨Cu, Cv⟩ := zF AD
   obtain ⟨Cw, Cx⟩ := zF Ac
   have q0_14 := fz (k := 0) Ac
   have q1_14 := fz (k := 1) Ac
   have B14 := zY B13 (show w.heap.size ≤ w8.heap.size + 1 + 1 by first | exact Nat.le_refl _ | omega | (have := S7.out; have := Ad.out; have := S9.out; have := Ae.out; have := Af.out; have := Z10.out; have := S10.out; have := Ag.out; have := Ah.out; have := Ai.out; have := Z11.out; have := S11.out; have := Aj.out; have := Ak.out; have := Al.out; have := Am.out; omega)) (.int .u64 0) (.int .u64 0)
   have AQ : ((wq.setCell ⟨w8.heap.size + 1 + 1, 0, none⟩ (.int .u64 0)).setCell ⟨w8.heap.size + 1 + 1, 1, none⟩ (.int .u64 0)).heap[w8.heap.size + 1 + 1]? = some (.cells #[.int .u64 0, .int .u64 0] 25) := yJ Ac _ _
   have HH := zH (And.intro S7.out (And.intro Ad.out (And.intro S9.out (And.intro Ae.out (And.intro Af.out (And.intro Z10.out (And.intro S10.out (And.intro Ag.out (And.intro Ah.out (And.intro Ai.out (And.intro Z11.out (And.intro S11.out (And.intro Aj.out (And.intro Ak.out (And.intro Al.out Am.out)))))))))))))))
   have AR : ((wq.setCell ⟨w8.heap.size + 1 + 1, 0, none⟩ (.int .u64 0)).setCell ⟨w8.heap.size + 1 + 1, 1, none⟩ (.int .u64 0)).heap[w.heap.size]? = some (.cells #[.bool b, .string s, .string t, .int .i64 e] 41) := (zG (by first | omega | (have := HH.out; omega))).trans ((zG (by first | omega | (have := HH.out; omega))).trans AA)
   have HH := zH (And.intro S7.out (And.intro Ad.out (And.intro S9.out (And.intro Ae.out (And.intro Af.out (And.intro Z10.out (And.intro S10.out (And.intro Ag.out (And.intro Ah.out (And.intro Ai.out (And.intro Z11.out (And.intro S11.out (And.intro Aj.out (And.intro Ak.out (And.intro Al.out Am.out)))))))))))))))
   have AS : ((wq.setCell ⟨w8.heap.size + 1 + 1, 0, none⟩ (.int .u64 0)).setCell ⟨w8.heap.size + 1 + 1, 1, none⟩ (.int .u64 0)).heap[w6.heap.size]? = some (.cells #[.int .u64 bu, .int .u64 bv] 25) := (zG (by first | omega | (have := HH.out; omega))).trans ((zG (by first | omega | (have := HH.out; omega))).trans AB)
   have HH := zH (And.intro S7.out (And.intro Ad.out (And.intro S9.out (And.intro Ae.out (And.intro Af.out (And.intro Z10.out (And.intro S10.out (And.intro Ag.out (And.intro Ah.out (And.intro Ai.out (And.intro Z11.out (And.intro S11.out (And.intro Aj.out (And.intro Ak.out (And.intro Al.out Am.out)))))))))))))))
   have AT : ((wq.setCell ⟨w8.heap.size + 1 + 1, 0, none⟩ (.int .u64 0)).setCell ⟨w8.heap.size + 1 + 1, 1, none⟩ (.int .u64 0)).heap[w8.heap.size]? = some (.cells #[.int .u64 lu, .int .u64 lv] 25) := (zG (by first | omega | (have := HH.out; omega))).trans ((zG (by first | omega | (have := HH.out; omega))).trans AC)
   have HH := zH (And.intro S7.out (And.intro Ad.out (And.intro S9.out (And.intro Ae.out (And.intro Af.out (And.intro Z10.out (And.intro S10.out (And.intro Ag.out (And.intro Ah.out (And.intro Ai.out (And.intro Z11.out (And.intro S11.out (And.intro Aj.out (And.intro Ak.out (And.intro Al.out Am.out)))))))))))))))
   have AU : ((wq.setCell ⟨w8.heap.size + 1 + 1, 0, none⟩ (.int .u64 0)).setCell ⟨w8.heap.size + 1 + 1, 1, none⟩ (.int .u64 0)).heap[w8.heap.size + 1]? = some (.cells #[.int .u64 hu, .int .u64 hv] 25) := (zG (by first | omega | (have := HH.out; omega))).trans ((zG (by first | omega | (have := HH.out; omega))).trans AD)
   obtain ⟨Cy, Cz, CA, CB⟩ := zC AR
   obtain ⟨CC, CD⟩ := zF AS
   obtain ⟨CE, CF⟩ := zF AT
   obtain ⟨CG, CH⟩ := zF AU
   obtain ⟨CI, CJ⟩ := zF AQ
   go_wp2_with fail
   refine (KA.out _ (zW FF.out B14) (zV TT.out B14)).mono ?_
   rintro r w15 ⟨rfl, b15⟩
   have B15 := zO B14 b15
   obtain ⟨CK, CL, CM, CN, CO⟩ := xP b15 AR AS AT AU AQ
   clear b15 B14 AR Cy Cz CA CB AS CC CD AT CE CF AU CG CH AQ CI CJ
   obtain ⟨CP, CQ, CR, CS⟩ := zC CK
   obtain ⟨CT, CU⟩ := zF CL
   obtain ⟨CV, CW⟩ := zF CM
   obtain ⟨CX, CY⟩ := zF CN
   obtain ⟨CZ, C0⟩ := zF CO
   go_wp2
   go_ret
   exact ⟨rfl, B15⟩
 ·
  clear H
  rcases HZ with ⟨c3, c4, n6e, ql⟩ | ⟨c3, c4, n6e, n1e, ql⟩ | ⟨c3, c4, n6e, n1e, ql⟩
  all_goals
   go_wp2_with fail
   refine (KA.out _ (zW FF.out B12) (zV TT.out B12)).mono ?_
   rintro r w13 ⟨rfl, b13⟩
   have B13 := zO B12 b13
   obtain ⟨AA, AB, AC, AD, Ac⟩ := xP b13 Aa Ab An Ao Ap
   clear b13 B12 Aa AY AZ A0 A1 Ab A2 A3 An A4 A5 Ao A6 A7 Ap A8 A9
   obtain ⟨Cm, Cn, Co, Cp⟩ := zC AA
   obtain ⟨Cq, Cr⟩ := zF AB
   obtain ⟨Cs, Ct⟩ := zF AC
   obtain ⟨Cu, Cv⟩ := zF AD
   obtain ⟨Cw, Cx⟩ := zF Ac
   go_wp2
   go_ret
   exact ⟨rfl, B13⟩
theorem nst_up (f m : Int) (b : Bool) (s t : ByteArray) (e : Int) (o3 o4 : Bool) (g : Int) (bu bv lu lv hu hv : Nat) (fl : Int) (c : Nat) (e0 : Bool)  (w : World)
  (KS : zS (∀ w, Calls Tryz.prog 13 #[.agg #[.bool b, .string s, .string t, .int .i64 e]] w fun r w' => r = .returned (.bool true) ∧ Below w.heap.size w w'))
  (KM : zS (∀ w, Calls Tryz.prog 14 #[.agg #[.bool b, .string s, .string t, .int .i64 e]] w fun r w' => r = .returned (.bool true) ∧ Below w.heap.size w w'))
  (KF : zS (∀ w, Calls Tryz.prog 10 #[.int .u8 f] w fun r w' => r = .returned (.bool o3) ∧ Below w.heap.size w w'))
  (KO : zS (∀ w, Calls Tryz.prog 15 #[.int .u8 m] w fun r w' => r = .returned (.bool o4) ∧ Below w.heap.size w w'))
  (KG : zS (∀ w, zN w → Calls Tryz.prog 16 #[.agg #[.bool b, .string s, .string t, .int .i64 e]] w fun r w' => r = .returned (.int .i64 g) ∧ Below w.heap.size w w'))
  (h3 : o3 = true) (h4 : o4 = true) (hg : (g == 0) = false)
  (K1 : zS (∀ w, yF w → zN w → Calls Tryz.prog 18 #[.int .u8 f, .int .u8 m, .agg #[.bool b, .string s, .string t, .int .i64 e]] w fun r w' => r = .returned (.tuple #[.agg #[.int .u64 bu, .int .u64 bv], .int .u8 fl, .int .i64 0]) ∧ Below w.heap.size w w'))
  (K2 : zS (∀ w, yF w → zN w → Calls Tryz.prog 19 #[.int .u8 f, .agg #[.bool b, .string s, .string t, .int .i64 e]] w fun r w' => r = .returned (.tuple #[.agg #[.int .u64 lu, .int .u64 lv], .agg #[.int .u64 hu, .int .u64 hv], .int .i64 0]) ∧ Below w.heap.size w w'))
  (KC : zS (∀ w, yF w → Calls Tryz.prog 20 #[.int .u8 f, .agg #[.int .u64 bu, .int .u64 bv]] w fun r w' => r = .returned (.tuple #[.int .u8 c, .int .i64 0]) ∧ Below w.heap.size w w'))
  (KN : zS (∀ w, yF w → Calls Tryz.prog 21 #[.int .u8 f, .agg #[.int .u64 bu, .int .u64 bv]] w fun r w' => r = .returned (.bool (decide (g < 0))) ∧ Below w.heap.size w w'))
  (KA : zS (∀ w, yF w → zN w → Calls Tryz.prog 17 #[] w fun r w' => r = .returned (.bool true) ∧ Below w.heap.size w w'))
  (hm : m = 3) (he0 : (fl == 0) = e0) (hlh : yX (lu : Nat) (lv : Nat) (hu : Nat) (hv : Nat) = e0)
  (H : zS (((((c : Int) == 3) = true ∧ bits .and .u8 fl 6 = 2 ∧ bits .and .u8 fl 1 = 1 ∧ yX 0 0 (lu : Nat) (lv : Nat) = true ∧ yX 0 0 (hu : Nat) (hv : Nat) = true) ∨ (((c : Int) == 3) = true ∧ bits .and .u8 fl 6 = 2 ∧ bits .and .u8 fl 1 = 1 ∧ yX 0 0 (lu : Nat) (lv : Nat) = false ∧ yX 0 0 (hu : Nat) (hv : Nat) = true) ∨ (((c : Int) == 3) = false ∧ ((c : Int) == 4) = true ∧ bits .and .u8 fl 6 = 2 ∧ bits .and .u8 fl 1 = 1 ∧ yX 0 0 (lu : Nat) (lv : Nat) = true ∧ yX 0 0 (hu : Nat) (hv : Nat) = true) ∨ (((c : Int) == 3) = false ∧ ((c : Int) == 4) = true ∧ bits .and .u8 fl 6 = 2 ∧ bits .and .u8 fl 1 = 1 ∧ yX 0 0 (lu : Nat) (lv : Nat) = false ∧ yX 0 0 (hu : Nat) (hv : Nat) = true)) ∨
   ((((c : Int) == 3) = false ∧ ((c : Int) == 4) = false ∧ bits .and .u8 fl 6 = 0 ∧ yX (bu : Nat) (bv : Nat) (lu : Nat) (lv : Nat) = true ∧ yX (bu : Nat) (bv : Nat) (hu : Nat) (hv : Nat) = true) ∨ (((c : Int) == 3) = false ∧ ((c : Int) == 4) = false ∧ bits .and .u8 fl 6 = 0 ∧ yX (bu : Nat) (bv : Nat) (lu : Nat) (lv : Nat) = false ∧ yX (bu : Nat) (bv : Nat) (hu : Nat) (hv : Nat) = true) ∨ (((c : Int) == 3) = false ∧ ((c : Int) == 4) = false ∧ bits .and .u8 fl 6 = 2 ∧ bits .and .u8 fl 1 = 1 ∧ yX (bu : Nat) (bv : Nat) (lu : Nat) (lv : Nat) = true ∧ yX (bu : Nat) (bv : Nat) (hu : Nat) (hv : Nat) = true) ∨ (((c : Int) == 3) = false ∧ ((c : Int) == 4) = false ∧ bits .and .u8 fl 6 = 2 ∧ bits .and .u8 fl 1 = 1 ∧ yX (bu : Nat) (bv : Nat) (lu : Nat) (lv : Nat) = false ∧ yX (bu : Nat) (bv : Nat) (hu : Nat) (hv : Nat) = true) ∨ (((c : Int) == 3) = false ∧ ((c : Int) == 4) = false ∧ bits .and .u8 fl 6 = 4 ∧ bits .and .u8 fl 1 = 1 ∧ yX (bu : Nat) (bv : Nat) (lu : Nat) (lv : Nat) = true ∧ yX (bu : Nat) (bv : Nat) (hu : Nat) (hv : Nat) = true) ∨ (((c : Int) == 3) = false ∧ ((c : Int) == 4) = false ∧ bits .and .u8 fl 6 = 4 ∧ bits .and .u8 fl 1 = 1 ∧ yX (bu : Nat) (bv : Nat) (lu : Nat) (lv : Nat) = false ∧ yX (bu : Nat) (bv : Nat) (hu : Nat) (hv : Nat) = true))))
  (hT : yF w) (hT2 : zN w) : Calls Tryz.prog 4 #[.int .u8 f, .int .u8 m, .agg #[.bool b, .string s, .string t, .int .i64 e]] w fun r w' => r = .returned (.bool true) ∧ Below w.heap.size w w' := by
 have FF := zH hT
 have TT := zH hT2
 clear hT hT2
 subst h3 h4
 have heb := eqb
 have hb1 : ∀ x : Bool, (x == x) = true := fun x => by cases x <;> rfl
 have hb2 : ∀ x : Bool, (x != x) = false := fun x => by cases x <;> rfl
 subst hm
 obtain ⟨AV, B0⟩ := yO w (Obj.cells #[.bool b, .string s, .string t, .int .i64 e] 41)
 go_enter Tryz.func4, Tryz.ntmps4
 go_wp2_with fail
 refine (KS.out _).mono ?_
 rintro r w1 ⟨rfl, b1⟩
 have B1 := zO B0 b1
 have AE := zA b1 _ _ _ AV
 clear b1 B0 AV
 obtain ⟨Ba, Bb, Bc, Bd⟩ := zC AE
 go_wp2_with fail
 refine (KM.out _).mono ?_
 rintro r w2 ⟨rfl, b2⟩
 have B2 := zO B1 b2
 have AF := zA b2 _ _ _ AE
 clear b2 B1 AE Ba Bb Bc Bd
 obtain ⟨Be, Bf, Bg, Bh⟩ := zC AF
 go_wp2_with fail
 refine (KF.out _).mono ?_
 rintro r w3 ⟨rfl, b3⟩
 have B3 := zO B2 b3
 have AG := zA b3 _ _ _ AF
 clear b3 B2 AF Be Bf Bg Bh
 obtain ⟨Bi, Bj, Bk, Bl⟩ := zC AG
 go_wp2_with fail
 refine (KO.out _).mono ?_
 rintro r w4 ⟨rfl, b4⟩
 have B4 := zO B3 b4
 have AH := zA b4 _ _ _ AG
 clear b4 B3 AG Bi Bj Bk Bl
 obtain ⟨Bm, Bn, Bo, Bp⟩ := zC AH
 go_wp2_with fail
 refine (KG.out _ (zV TT.out B4)).mono ?_
 rintro r w5 ⟨rfl, b5⟩
 have B5 := zO B4 b5
 have AI := zA b5 _ _ _ AH
 clear b5 B4 AH Bm Bn Bo Bp
 obtain ⟨Bq, Br, Bs, Bt⟩ := zC AI
 go_wp2_with fail
 refine (K1.out _ (zW FF.out B5) (zV TT.out B5)).mono ?_
 rintro r w6 ⟨rfl, b6⟩
 have B6 := zO B5 b6
 have Aq := zA b6 _ _ _ AI
 clear b6 B5 AI Bq Br Bs Bt
 obtain ⟨Bu, Bv, Bw, Bx⟩ := zC Aq
 have S7 := zH B6.size
 have Ad := z8 Aq
 have AJ := heap_alloc_last w6 (Obj.cells #[.int .u64 bu, .int .u64 bv] 25)
 have B7 := zO B6 (yK w6 (Obj.cells #[.int .u64 bu, .int .u64 bv] 25))
 have AK := zA (yK w6 (Obj.cells #[.int .u64 bu, .int .u64 bv] 25)) _ _ _ Aq
 clear B6 Aq Bu Bv Bw Bx
 obtain ⟨By, Bz, BA, BB⟩ := zC AK
 obtain ⟨BC, BD⟩ := zF AJ
 go_wp2_with fail
 refine (K2.out _ (zW FF.out B7) (zV TT.out B7)).mono ?_
 rintro r w8 ⟨rfl, b8⟩
 have B8 := zO B7 b8
 obtain ⟨Ar, As⟩ := yB b8 AK AJ
 clear b8 B7 AK By Bz BA BB AJ BC BD
 obtain ⟨BE, BF, BG, BH⟩ := zC Ar
 obtain ⟨BI, BJ⟩ := zF As
 have S9 := zH B8.size
 have Ae := z8 Ar
 have Af := z8 As
 have At := heap_alloc_last w8 (Obj.cells #[.int .u64 lu, .int .u64 lv] 25)
 have B9 := zO B8 (yK w8 (Obj.cells #[.int .u64 lu, .int .u64 lv] 25))
 obtain ⟨Au, Av⟩ := yB (yK w8 (Obj.cells #[.int .u64 lu, .int .u64 lv] 25)) Ar As
 clear B8 Ar BE BF BG BH As BI BJ
 obtain ⟨BK, BL, BM, BN⟩ := zC Au
 obtain ⟨BO, BP⟩ := zF Av
 obtain ⟨BQ, BR⟩ := zF At
 have S10 := zH B9.size
 have Ag := z8 Au
 have Ah := z8 Av
 have Ai := z8 At
 have Z10 := zH (zX w8 (Obj.cells #[.int .u64 lu, .int .u64 lv] 25))
 have Aw : ((w8.alloc (Obj.cells #[.int .u64 lu, .int .u64 lv] 25)).alloc (Obj.cells #[.int .u64 hu, .int .u64 hv] 25)).heap[w8.heap.size + 1]? = some (.cells #[.int .u64 hu, .int .u64 hv] 25) := by have := heap_alloc_last (w8.alloc (Obj.cells #[.int .u64 lu, .int .u64 lv] 25)) (Obj.cells #[.int .u64 hu, .int .u64 hv] 25); simpa only [zX] using this
 have B10 := zO B9 (yK (w8.alloc (Obj.cells #[.int .u64 lu, .int .u64 lv] 25)) (Obj.cells #[.int .u64 hu, .int .u64 hv] 25))
 obtain ⟨Ax, Ay, Az⟩ := yA (yK (w8.alloc (Obj.cells #[.int .u64 lu, .int .u64 lv] 25)) (Obj.cells #[.int .u64 hu, .int .u64 hv] 25)) Au Av At
 clear B9 Au BK BL BM BN Av BO BP At BQ BR
 obtain ⟨BS, BT, BU, BV⟩ := zC Ax
 obtain ⟨AW, AX⟩ := zF Ay
 obtain ⟨BW, BX⟩ := zF Az
 obtain ⟨BY, BZ⟩ := zF Aw
 have kb0 := AW
 have kb1 := AX
 have S11 := zH B10.size
 have Aj := z8 Ax
 have Ak := z8 Ay
 have Al := z8 Az
 have Am := z8 Aw
 have Z11 := zH (zX (w8.alloc (Obj.cells #[.int .u64 lu, .int .u64 lv] 25)) (Obj.cells #[.int .u64 hu, .int .u64 hv] 25))
 have AL : (((w8.alloc (Obj.cells #[.int .u64 lu, .int .u64 lv] 25)).alloc (Obj.cells #[.int .u64 hu, .int .u64 hv] 25)).alloc (Obj.cells #[.int .u64 bu, .int .u64 bv] 25)).heap[w8.heap.size + 1 + 1]? = some (.cells #[.int .u64 bu, .int .u64 bv] 25) := by have := heap_alloc_last ((w8.alloc (Obj.cells #[.int .u64 lu, .int .u64 lv] 25)).alloc (Obj.cells #[.int .u64 hu, .int .u64 hv] 25)) (Obj.cells #[.int .u64 bu, .int .u64 bv] 25); simpa only [zX] using this
 have B11 := zO B10 (yK ((w8.alloc (Obj.cells #[.int .u64 lu, .int .u64 lv] 25)).alloc (Obj.cells #[.int .u64 hu, .int .u64 hv] 25)) (Obj.cells #[.int .u64 bu, .int .u64 bv] 25))
 obtain ⟨AM, AN, AO, AP⟩ := qT (yK ((w8.alloc (Obj.cells #[.int .u64 lu, .int .u64 lv] 25)).alloc (Obj.cells #[.int .u64 hu, .int .u64 hv] 25)) (Obj.cells #[.int .u64 bu, .int .u64 bv] 25)) Ax Ay Az Aw
 clear B10 Ax BS BT BU BV Ay AW AX Az BW BX Aw BY BZ
 obtain ⟨Ca, Cb, Cc, Cd⟩ := zC AM
 obtain ⟨Ce, Cf⟩ := zF AN
 obtain ⟨Cg, Ch⟩ := zF AO
 obtain ⟨Ci, Cj⟩ := zF AP
 obtain ⟨Ck, Cl⟩ := zF AL
 go_wp2_with fail
 refine (KC.out _ (zW FF.out B11)).mono ?_
 rintro r w12 ⟨rfl, b12⟩
 have B12 := zO B11 b12
 obtain ⟨Aa, Ab, An, Ao, Ap⟩ := xP b12 AM AN AO AP AL
 clear b12 B11 AM Ca Cb Cc Cd AN Ce Cf AO Cg Ch AP Ci Cj AL Ck Cl
 obtain ⟨AY, AZ, A0, A1⟩ := zC Aa
 obtain ⟨A2, A3⟩ := zF Ab
 obtain ⟨A4, A5⟩ := zF An
 obtain ⟨A6, A7⟩ := zF Ao
 obtain ⟨A8, A9⟩ := zF Ap
 clear kb0 kb1
 rcases H.out with HZ | HZ
 ·
  clear H
  rcases HZ with ⟨c3, n6e, n1e, ql, qh⟩ | ⟨c3, n6e, n1e, ql, qh⟩ | ⟨c3, c4, n6e, n1e, ql, qh⟩ | ⟨c3, c4, n6e, n1e, ql, qh⟩
  all_goals
   have sS : zS (∀ W W1 : World, (Below w.heap.size w W ∧ W.heap[w.heap.size]? = some (.cells #[.bool b, .string s, .string t, .int .i64 e] 41) ∧ W.heap[w6.heap.size]? = some (.cells #[.int .u64 bu, .int .u64 bv] 25) ∧ W.heap[w8.heap.size]? = some (.cells #[.int .u64 lu, .int .u64 lv] 25) ∧ W.heap[w8.heap.size + 1]? = some (.cells #[.int .u64 hu, .int .u64 hv] 25) ∧ W.heap[w8.heap.size + 1 + 1]? = some (.cells #[.int .u64 bu, .int .u64 bv] 25) ∧ W.cell? ⟨w.heap.size, 0, none⟩ = some (.bool b) ∧ W.cell? ⟨w.heap.size, 1, none⟩ = some (.string s) ∧ W.cell? ⟨w.heap.size, 2, none⟩ = some (.string t) ∧ W.cell? ⟨w.heap.size, 3, none⟩ = some (.int .i64 e) ∧ W.cell? ⟨w6.heap.size, 0, none⟩ = some (.int .u64 bu) ∧ W.cell? ⟨w6.heap.size, 1, none⟩ = some (.int .u64 bv)) → Below W.heap.size W W1 → (Below w.heap.size w W1 ∧ W1.heap[w.heap.size]? = some (.cells #[.bool b, .string s, .string t, .int .i64 e] 41) ∧ W1.heap[w6.heap.size]? = some (.cells #[.int .u64 bu, .int .u64 bv] 25) ∧ W1.heap[w8.heap.size]? = some (.cells #[.int .u64 lu, .int .u64 lv] 25) ∧ W1.heap[w8.heap.size + 1]? = some (.cells #[.int .u64 hu, .int .u64 hv] 25) ∧ W1.heap[w8.heap.size + 1 + 1]? = some (.cells #[.int .u64 bu, .int .u64 bv] 25) ∧ W1.cell? ⟨w.heap.size, 0, none⟩ = some (.bool b) ∧ W1.cell? ⟨w.heap.size, 1, none⟩ = some (.string s) ∧ W1.cell? ⟨w.heap.size, 2, none⟩ = some (.string t) ∧ W1.cell? ⟨w.heap.size, 3, none⟩ = some (.int .i64 e) ∧ W1.cell? ⟨w6.heap.size, 0, none⟩ = some (.int .u64 bu) ∧ W1.cell? ⟨w6.heap.size, 1, none⟩ = some (.int .u64 bv))) := zH (fun W W1 h b => ⟨zO h.1 b, zA b _ _ _ h.2.1, zA b _ _ _ h.2.2.1, zA b _ _ _ h.2.2.2.1, zA b _ _ _ h.2.2.2.2.1, zA b _ _ _ h.2.2.2.2.2.1, zL (zA b _ _ _ h.2.1) 0 _ rfl, zL (zA b _ _ _ h.2.1) 1 _ rfl, zL (zA b _ _ _ h.2.1) 2 _ rfl, zL (zA b _ _ _ h.2.1) 3 _ rfl, zL (zA b _ _ _ h.2.2.1) 0 _ rfl, zL (zA b _ _ _ h.2.2.1) 1 _ rfl⟩)
   have s0 : Below w.heap.size w (w12).drew ∧ (w12).drew.heap[w.heap.size]? = some (.cells #[.bool b, .string s, .string t, .int .i64 e] 41) ∧ (w12).drew.heap[w6.heap.size]? = some (.cells #[.int .u64 bu, .int .u64 bv] 25) ∧ (w12).drew.heap[w8.heap.size]? = some (.cells #[.int .u64 lu, .int .u64 lv] 25) ∧ (w12).drew.heap[w8.heap.size + 1]? = some (.cells #[.int .u64 hu, .int .u64 hv] 25) ∧ (w12).drew.heap[w8.heap.size + 1 + 1]? = some (.cells #[.int .u64 bu, .int .u64 bv] 25) ∧ (w12).drew.cell? ⟨w.heap.size, 0, none⟩ = some (.bool b) ∧ (w12).drew.cell? ⟨w.heap.size, 1, none⟩ = some (.string s) ∧ (w12).drew.cell? ⟨w.heap.size, 2, none⟩ = some (.string t) ∧ (w12).drew.cell? ⟨w.heap.size, 3, none⟩ = some (.int .i64 e) ∧ (w12).drew.cell? ⟨w6.heap.size, 0, none⟩ = some (.int .u64 bu) ∧ (w12).drew.cell? ⟨w6.heap.size, 1, none⟩ = some (.int .u64 bv) := ⟨B12.drew, Aa, Ab, An, Ao, Ap, zL (Aa) 0 _ rfl, zL (Aa) 1 _ rfl, zL (Aa) 2 _ rfl, zL (Aa) 3 _ rfl, zL (Ab) 0 _ rfl, zL (Ab) 1 _ rfl⟩
   go_wp2_with fail
   go_region_held3 (fun W => Below w.heap.size w W ∧ W.heap[w.heap.size]? = some (.cells #[.bool b, .string s, .string t, .int .i64 e] 41) ∧ W.heap[w6.heap.size]? = some (.cells #[.int .u64 bu, .int .u64 bv] 25) ∧ W.heap[w8.heap.size]? = some (.cells #[.int .u64 lu, .int .u64 lv] 25) ∧ W.heap[w8.heap.size + 1]? = some (.cells #[.int .u64 hu, .int .u64 hv] 25) ∧ W.heap[w8.heap.size + 1 + 1]? = some (.cells #[.int .u64 bu, .int .u64 bv] 25) ∧ W.cell? ⟨w.heap.size, 0, none⟩ = some (.bool b) ∧ W.cell? ⟨w.heap.size, 1, none⟩ = some (.string s) ∧ W.cell? ⟨w.heap.size, 2, none⟩ = some (.string t) ∧ W.cell? ⟨w.heap.size, 3, none⟩ = some (.int .i64 e) ∧ W.cell? ⟨w6.heap.size, 0, none⟩ = some (.int .u64 bu) ∧ W.cell? ⟨w6.heap.size, 1, none⟩ = some (.int .u64 bv)) (first | exact s1 | exact s0)
    (((first | (go_at_call 21; (first | refine (KN.out _ (zW FF.out (And.left s1))).mono ?_ | refine (KN.out _ (zW FF.out (And.left s0))).mono ?_)) | (go_at_call 16; (first | refine (KG.out _ (zV TT.out (And.left s1))).mono ?_ | refine (KG.out _ (zV TT.out (And.left s0))).mono ?_)) | fail); rintro r wq ⟨rfl, bq⟩; (first | have s1 := sS.out _ _ s1 bq | have s1 := sS.out _ _ s0 bq); clear bq))
   have B13 := (And.left s1)
   have AA := s1.2.1
   have AB := s1.2.2.1
   have AC := s1.2.2.2.1
   have AD := s1.2.2.2.2.1
   have Ac := s1.2.2.2.2.2.1
   clear s0 s1 sS B12 Aa AY AZ A0 A1 Ab A2 A3 An A4 A5 Ao A6 A7 Ap A8 A9
   obtain ⟨Cm, Cn, Co, Cp⟩ := zC AA
   obtain ⟨Cq, Cr⟩ := zF AB
   obtain ⟨Cs, Ct⟩ := zF AC
   obtain ⟨Cu, Cv⟩ := zF AD
   obtain ⟨Cw, Cx⟩ := zF Ac
   have q0_14 := fz (k := 0) Ac
   have q1_14 := fz (k := 1) Ac
   have B14 := zY B13 (show w.heap.size ≤ w8.heap.size + 1 + 1 by first | exact Nat.le_refl _ | omega | (have := S7.out; have := Ad.out; have := S9.out; have := Ae.out; have := Af.out; have := Z10.out; have := S10.out; have := Ag.out; have := Ah.out; have := Ai.out; have := Z11.out; have := S11.out; have := Aj.out; have := Ak.out; have := Al.out; have := Am.out; omega)) (.int .u64 0) (.int .u64 0)
   have AQ : ((wq.setCell ⟨w8.heap.size + 1 + 1, 0, none⟩ (.int .u64 0)).setCell ⟨w8.heap.size + 1 + 1, 1, none⟩ (.int .u64 0)).heap[w8.heap.size + 1 + 1]? = some (.cells #[.int .u64 0, .int .u64 0] 25) := yJ Ac _ _
   have HH := zH (And.intro S7.out (And.intro Ad.out (And.intro S9.out (And.intro Ae.out (And.intro Af.out (And.intro Z10.out (And.intro S10.out (And.intro Ag.out (And.intro Ah.out (And.intro Ai.out (And.intro Z11.out (And.intro S11.out (And.intro Aj.out (And.intro Ak.out (And.intro Al.out Am.out)))))))))))))))
   have AR : ((wq.setCell ⟨w8.heap.size + 1 + 1, 0, none⟩ (.int .u64 0)).setCell ⟨w8.heap.size + 1 + 1, 1, none⟩ (.int .u64 0)).heap[w.heap.size]? = some (.cells #[.bool b, .string s, .string t, .int .i64 e] 41) := (zG (by first | omega | (have := HH.out; omega))).trans ((zG (by first | omega | (have := HH.out; omega))).trans AA)
   have HH := zH (And.intro S7.out (And.intro Ad.out (And.intro S9.out (And.intro Ae.out (And.intro Af.out (And.intro Z10.out (And.intro S10.out (And.intro Ag.out (And.intro Ah.out (And.intro Ai.out (And.intro Z11.out (And.intro S11.out (And.intro Aj.out (And.intro Ak.out (And.intro Al.out Am.out)))))))))))))))
   have AS : ((wq.setCell ⟨w8.heap.size + 1 + 1, 0, none⟩ (.int .u64 0)).setCell ⟨w8.heap.size + 1 + 1, 1, none⟩ (.int .u64 0)).heap[w6.heap.size]? = some (.cells #[.int .u64 bu, .int .u64 bv] 25) := (zG (by first | omega | (have := HH.out; omega))).trans ((zG (by first | omega | (have := HH.out; omega))).trans AB)
   have HH := zH (And.intro S7.out (And.intro Ad.out (And.intro S9.out (And.intro Ae.out (And.intro Af.out (And.intro Z10.out (And.intro S10.out (And.intro Ag.out (And.intro Ah.out (And.intro Ai.out (And.intro Z11.out (And.intro S11.out (And.intro Aj.out (And.intro Ak.out (And.intro Al.out Am.out)))))))))))))))
   have AT : ((wq.setCell ⟨w8.heap.size + 1 + 1, 0, none⟩ (.int .u64 0)).setCell ⟨w8.heap.size + 1 + 1, 1, none⟩ (.int .u64 0)).heap[w8.heap.size]? = some (.cells #[.int .u64 lu, .int .u64 lv] 25) := (zG (by first | omega | (have := HH.out; omega))).trans ((zG (by first | omega | (have := HH.out; omega))).trans AC)
   have HH := zH (And.intro S7.out (And.intro Ad.out (And.intro S9.out (And.intro Ae.out (And.intro Af.out (And.intro Z10.out (And.intro S10.out (And.intro Ag.out (And.intro Ah.out (And.intro Ai.out (And.intro Z11.out (And.intro S11.out (And.intro Aj.out (And.intro Ak.out (And.intro Al.out Am.out)))))))))))))))
   have AU : ((wq.setCell ⟨w8.heap.size + 1 + 1, 0, none⟩ (.int .u64 0)).setCell ⟨w8.heap.size + 1 + 1, 1, none⟩ (.int .u64 0)).heap[w8.heap.size + 1]? = some (.cells #[.int .u64 hu, .int .u64 hv] 25) := (zG (by first | omega | (have := HH.out; omega))).trans ((zG (by first | omega | (have := HH.out; omega))).trans AD)
   obtain ⟨Cy, Cz, CA, CB⟩ := zC AR
   obtain ⟨CC, CD⟩ := zF AS
   obtain ⟨CE, CF⟩ := zF AT
   obtain ⟨CG, CH⟩ := zF AU
   obtain ⟨CI, CJ⟩ := zF AQ
   go_wp2_with fail
   refine (KA.out _ (zW FF.out B14) (zV TT.out B14)).mono ?_
   rintro r w15 ⟨rfl, b15⟩
   have B15 := zO B14 b15
   obtain ⟨CK, CL, CM, CN, CO⟩ := xP b15 AR AS AT AU AQ
   clear b15 B14 AR Cy Cz CA CB AS CC CD AT CE CF AU CG CH AQ CI CJ
   obtain ⟨CP, CQ, CR, CS⟩ := zC CK
   obtain ⟨CT, CU⟩ := zF CL
   obtain ⟨CV, CW⟩ := zF CM
   obtain ⟨CX, CY⟩ := zF CN
   obtain ⟨CZ, C0⟩ := zF CO
   go_wp2
   go_ret
   exact ⟨rfl, B15⟩
 ·
  clear H
  rcases HZ with ⟨c3, c4, n6e, ql, qh⟩ | ⟨c3, c4, n6e, ql, qh⟩ | ⟨c3, c4, n6e, n1e, ql, qh⟩ | ⟨c3, c4, n6e, n1e, ql, qh⟩ | ⟨c3, c4, n6e, n1e, ql, qh⟩ | ⟨c3, c4, n6e, n1e, ql, qh⟩
  all_goals
   go_wp2_with fail
   refine (KA.out _ (zW FF.out B12) (zV TT.out B12)).mono ?_
   rintro r w13 ⟨rfl, b13⟩
   have B13 := zO B12 b13
   obtain ⟨AA, AB, AC, AD, Ac⟩ := xP b13 Aa Ab An Ao Ap
   clear b13 B12 Aa AY AZ A0 A1 Ab A2 A3 An A4 A5 Ao A6 A7 Ap A8 A9
   obtain ⟨Cm, Cn, Co, Cp⟩ := zC AA
   obtain ⟨Cq, Cr⟩ := zF AB
   obtain ⟨Cs, Ct⟩ := zF AC
   obtain ⟨Cu, Cv⟩ := zF AD
   obtain ⟨Cw, Cx⟩ := zF Ac
   go_wp2
   go_ret
   exact ⟨rfl, B13⟩
theorem nst_zerop (f m : Int) (b : Bool) (s t : ByteArray) (e : Int) (o3 o4 : Bool) (g : Int) (bu bv lu lv hu hv : Nat) (fl : Int) (c : Nat) (e0 : Bool)  (w : World)
  (KS : zS (∀ w, Calls Tryz.prog 13 #[.agg #[.bool b, .string s, .string t, .int .i64 e]] w fun r w' => r = .returned (.bool true) ∧ Below w.heap.size w w'))
  (KM : zS (∀ w, Calls Tryz.prog 14 #[.agg #[.bool b, .string s, .string t, .int .i64 e]] w fun r w' => r = .returned (.bool true) ∧ Below w.heap.size w w'))
  (KF : zS (∀ w, Calls Tryz.prog 10 #[.int .u8 f] w fun r w' => r = .returned (.bool o3) ∧ Below w.heap.size w w'))
  (KO : zS (∀ w, Calls Tryz.prog 15 #[.int .u8 m] w fun r w' => r = .returned (.bool o4) ∧ Below w.heap.size w w'))
  (KG : zS (∀ w, zN w → Calls Tryz.prog 16 #[.agg #[.bool b, .string s, .string t, .int .i64 e]] w fun r w' => r = .returned (.int .i64 g) ∧ Below w.heap.size w w'))
  (h3 : o3 = true) (h4 : o4 = true) (hg : (g == 0) = false)
  (K1 : zS (∀ w, yF w → zN w → Calls Tryz.prog 18 #[.int .u8 f, .int .u8 m, .agg #[.bool b, .string s, .string t, .int .i64 e]] w fun r w' => r = .returned (.tuple #[.agg #[.int .u64 bu, .int .u64 bv], .int .u8 fl, .int .i64 0]) ∧ Below w.heap.size w w'))
  (K2 : zS (∀ w, yF w → zN w → Calls Tryz.prog 19 #[.int .u8 f, .agg #[.bool b, .string s, .string t, .int .i64 e]] w fun r w' => r = .returned (.tuple #[.agg #[.int .u64 lu, .int .u64 lv], .agg #[.int .u64 hu, .int .u64 hv], .int .i64 0]) ∧ Below w.heap.size w w'))
  (KC : zS (∀ w, yF w → Calls Tryz.prog 20 #[.int .u8 f, .agg #[.int .u64 bu, .int .u64 bv]] w fun r w' => r = .returned (.tuple #[.int .u8 c, .int .i64 0]) ∧ Below w.heap.size w w'))
  (KN : zS (∀ w, yF w → Calls Tryz.prog 21 #[.int .u8 f, .agg #[.int .u64 bu, .int .u64 bv]] w fun r w' => r = .returned (.bool (decide (g < 0))) ∧ Below w.heap.size w w'))
  (KA : zS (∀ w, yF w → zN w → Calls Tryz.prog 17 #[] w fun r w' => r = .returned (.bool true) ∧ Below w.heap.size w w'))
  (hm : m = 1 ∧ g = 1) (he0 : (fl == 0) = e0) (hlh : yX (lu : Nat) (lv : Nat) (hu : Nat) (hv : Nat) = e0)
  (H : zS (((((c : Int) == 3) = true ∧ bits .and .u8 fl 6 = 2 ∧ bits .and .u8 fl 1 = 1 ∧ yX 0 0 (lu : Nat) (lv : Nat) = true) ∨ (((c : Int) == 3) = false ∧ ((c : Int) == 4) = true ∧ bits .and .u8 fl 6 = 2 ∧ bits .and .u8 fl 1 = 1 ∧ yX 0 0 (lu : Nat) (lv : Nat) = true)) ∨
   ((((c : Int) == 3) = false ∧ ((c : Int) == 4) = false ∧ bits .and .u8 fl 6 = 0 ∧ yX (bu : Nat) (bv : Nat) (lu : Nat) (lv : Nat) = true) ∨ (((c : Int) == 3) = false ∧ ((c : Int) == 4) = false ∧ bits .and .u8 fl 6 = 2 ∧ bits .and .u8 fl 1 = 1 ∧ yX (bu : Nat) (bv : Nat) (lu : Nat) (lv : Nat) = true) ∨ (((c : Int) == 3) = false ∧ ((c : Int) == 4) = false ∧ bits .and .u8 fl 6 = 4 ∧ bits .and .u8 fl 1 = 1 ∧ yX (bu : Nat) (bv : Nat) (lu : Nat) (lv : Nat) = true))))
  (hT : yF w) (hT2 : zN w) : Calls Tryz.prog 4 #[.int .u8 f, .int .u8 m, .agg #[.bool b, .string s, .string t, .int .i64 e]] w fun r w' => r = .returned (.bool true) ∧ Below w.heap.size w w' := by
 have FF := zH hT
 have TT := zH hT2
 clear hT hT2
 subst h3 h4
 have heb := eqb
 have hb1 : ∀ x : Bool, (x == x) = true := fun x => by cases x <;> rfl
 have hb2 : ∀ x : Bool, (x != x) = false := fun x => by cases x <;> rfl
 obtain ⟨rfl, rfl⟩ := hm
 obtain ⟨AV, B0⟩ := yO w (Obj.cells #[.bool b, .string s, .string t, .int .i64 e] 41)
 go_enter Tryz.func4, Tryz.ntmps4
 go_wp2_with fail
 refine (KS.out _).mono ?_
 rintro r w1 ⟨rfl, b1⟩
 have B1 := zO B0 b1
 have AJ := zA b1 _ _ _ AV
 clear b1 B0 AV
 obtain ⟨Bf, Bg, Bh, Bi⟩ := zC AJ
 go_wp2_with fail
 refine (KM.out _).mono ?_
 rintro r w2 ⟨rfl, b2⟩
 have B2 := zO B1 b2
 have AK := zA b2 _ _ _ AJ
 clear b2 B1 AJ Bf Bg Bh Bi
 obtain ⟨Bj, Bk, Bl, Bm⟩ := zC AK
 go_wp2_with fail
 refine (KF.out _).mono ?_
 rintro r w3 ⟨rfl, b3⟩
 have B3 := zO B2 b3
 have AL := zA b3 _ _ _ AK
 clear b3 B2 AK Bj Bk Bl Bm
 obtain ⟨Bn, Bo, Bp, Bq⟩ := zC AL
 go_wp2_with fail
 refine (KO.out _).mono ?_
 rintro r w4 ⟨rfl, b4⟩
 have B4 := zO B3 b4
 have AM := zA b4 _ _ _ AL
 clear b4 B3 AL Bn Bo Bp Bq
 obtain ⟨Br, Bs, Bt, Bu⟩ := zC AM
 go_wp2_with fail
 refine (KG.out _ (zV TT.out B4)).mono ?_
 rintro r w5 ⟨rfl, b5⟩
 have B5 := zO B4 b5
 have AN := zA b5 _ _ _ AM
 clear b5 B4 AM Br Bs Bt Bu
 obtain ⟨Bv, Bw, Bx, By⟩ := zC AN
 go_wp2_with fail
 refine (K1.out _ (zW FF.out B5) (zV TT.out B5)).mono ?_
 rintro r w6 ⟨rfl, b6⟩
 have B6 := zO B5 b6
 have Az := zA b6 _ _ _ AN
 clear b6 B5 AN Bv Bw Bx By
 obtain ⟨Bz, BA, BB, BC⟩ := zC Az
 have S7 := zH B6.size
 have Ah := z8 Az
 have AO := heap_alloc_last w6 (Obj.cells #[.int .u64 bu, .int .u64 bv] 25)
 have B7 := zO B6 (yK w6 (Obj.cells #[.int .u64 bu, .int .u64 bv] 25))
 have AP := zA (yK w6 (Obj.cells #[.int .u64 bu, .int .u64 bv] 25)) _ _ _ Az
 clear B6 Az Bz BA BB BC
 obtain ⟨BD, BE, BF, BG⟩ := zC AP
 obtain ⟨BH, BI⟩ := zF AO
 go_wp2_with fail
 refine (K2.out _ (zW FF.out B7) (zV TT.out B7)).mono ?_
 rintro r w8 ⟨rfl, b8⟩
 have B8 := zO B7 b8
 obtain ⟨AA, AB⟩ := yB b8 AP AO
 clear b8 B7 AP BD BE BF BG AO BH BI
 obtain ⟨BJ, BK, BL, BM⟩ := zC AA
 obtain ⟨BN, BO⟩ := zF AB
 have S9 := zH B8.size
 have Ai := z8 AA
 have Aj := z8 AB
 have AC := heap_alloc_last w8 (Obj.cells #[.int .u64 lu, .int .u64 lv] 25)
 have B9 := zO B8 (yK w8 (Obj.cells #[.int .u64 lu, .int .u64 lv] 25))
 obtain ⟨AD, AE⟩ := yB (yK w8 (Obj.cells #[.int .u64 lu, .int .u64 lv] 25)) AA AB
 clear B8 AA BJ BK BL BM AB BN BO
 obtain ⟨BP, BQ, BR, BS⟩ := zC AD
 obtain ⟨BT, BU⟩ := zF AE
 obtain ⟨BV, BW⟩ := zF AC
 have S10 := zH B9.size
 have Ak := z8 AD
 have Al := z8 AE
 have Am := z8 AC
 have Z10 := zH (zX w8 (Obj.cells #[.int .u64 lu, .int .u64 lv] 25))
 have AF : ((w8.alloc (Obj.cells #[.int .u64 lu, .int .u64 lv] 25)).alloc (Obj.cells #[.int .u64 hu, .int .u64 hv] 25)).heap[w8.heap.size + 1]? = some (.cells #[.int .u64 hu, .int .u64 hv] 25) := by have := heap_alloc_last (w8.alloc (Obj.cells #[.int .u64 lu, .int .u64 lv] 25)) (Obj.cells #[.int .u64 hu, .int .u64 hv] 25); simpa only [zX] using this
 have B10 := zO B9 (yK (w8.alloc (Obj.cells #[.int .u64 lu, .int .u64 lv] 25)) (Obj.cells #[.int .u64 hu, .int .u64 hv] 25))
 obtain ⟨AG, AH, AI⟩ := yA (yK (w8.alloc (Obj.cells #[.int .u64 lu, .int .u64 lv] 25)) (Obj.cells #[.int .u64 hu, .int .u64 hv] 25)) AD AE AC
 clear B9 AD BP BQ BR BS AE BT BU AC BV BW
 obtain ⟨BX, BY, BZ, Ca⟩ := zC AG
 obtain ⟨AW, AX⟩ := zF AH
 obtain ⟨Cb, Cc⟩ := zF AI
 obtain ⟨Cd, Ce⟩ := zF AF
 have kb0 := AW
 have kb1 := AX
 have S11 := zH B10.size
 have An := z8 AG
 have Ao := z8 AH
 have Ap := z8 AI
 have Aq := z8 AF
 have Z11 := zH (zX (w8.alloc (Obj.cells #[.int .u64 lu, .int .u64 lv] 25)) (Obj.cells #[.int .u64 hu, .int .u64 hv] 25))
 have AQ : (((w8.alloc (Obj.cells #[.int .u64 lu, .int .u64 lv] 25)).alloc (Obj.cells #[.int .u64 hu, .int .u64 hv] 25)).alloc (Obj.cells #[.int .u64 bu, .int .u64 bv] 25)).heap[w8.heap.size + 1 + 1]? = some (.cells #[.int .u64 bu, .int .u64 bv] 25) := by have := heap_alloc_last ((w8.alloc (Obj.cells #[.int .u64 lu, .int .u64 lv] 25)).alloc (Obj.cells #[.int .u64 hu, .int .u64 hv] 25)) (Obj.cells #[.int .u64 bu, .int .u64 bv] 25); simpa only [zX] using this
 have B11 := zO B10 (yK ((w8.alloc (Obj.cells #[.int .u64 lu, .int .u64 lv] 25)).alloc (Obj.cells #[.int .u64 hu, .int .u64 hv] 25)) (Obj.cells #[.int .u64 bu, .int .u64 bv] 25))
 obtain ⟨AR, AS, AT, AU⟩ := qT (yK ((w8.alloc (Obj.cells #[.int .u64 lu, .int .u64 lv] 25)).alloc (Obj.cells #[.int .u64 hu, .int .u64 hv] 25)) (Obj.cells #[.int .u64 bu, .int .u64 bv] 25)) AG AH AI AF
 clear B10 AG BX BY BZ Ca AH AW AX AI Cb Cc AF Cd Ce
 obtain ⟨Cf, Cg, Ch, Ci⟩ := zC AR
 obtain ⟨Cj, Ck⟩ := zF AS
 obtain ⟨Cl, Cm⟩ := zF AT
 obtain ⟨Cn, Co⟩ := zF AU
 obtain ⟨Cp, Cq⟩ := zF AQ
 go_wp2_with fail
 refine (KC.out _ (zW FF.out B11)).mono ?_
 rintro r w12 ⟨rfl, b12⟩
 have B12 := zO B11 b12
 obtain ⟨Aa, Ab, Ac, Ad, Ae⟩ := xP b12 AR AS AT AU AQ
 clear b12 B11 AR Cf Cg Ch Ci AS Cj Ck AT Cl Cm AU Cn Co AQ Cp Cq
 obtain ⟨AY, AZ, A0, A1⟩ := zC Aa
 obtain ⟨A2, A3⟩ := zF Ab
 obtain ⟨A4, A5⟩ := zF Ac
 obtain ⟨A6, A7⟩ := zF Ad
 obtain ⟨A8, A9⟩ := zF Ae
 clear kb0 kb1
 rcases H.out with HZ | HZ
 ·
  clear H
  rcases HZ with ⟨c3, n6e, n1e, ql⟩ | ⟨c3, c4, n6e, n1e, ql⟩
  all_goals
   have sS : zS (∀ W W1 : World, (Below w.heap.size w W ∧ W.heap[w.heap.size]? = some (.cells #[.bool b, .string s, .string t, .int .i64 e] 41) ∧ W.heap[w6.heap.size]? = some (.cells #[.int .u64 bu, .int .u64 bv] 25) ∧ W.heap[w8.heap.size]? = some (.cells #[.int .u64 lu, .int .u64 lv] 25) ∧ W.heap[w8.heap.size + 1]? = some (.cells #[.int .u64 hu, .int .u64 hv] 25) ∧ W.heap[w8.heap.size + 1 + 1]? = some (.cells #[.int .u64 bu, .int .u64 bv] 25) ∧ W.cell? ⟨w.heap.size, 0, none⟩ = some (.bool b) ∧ W.cell? ⟨w.heap.size, 1, none⟩ = some (.string s) ∧ W.cell? ⟨w.heap.size, 2, none⟩ = some (.string t) ∧ W.cell? ⟨w.heap.size, 3, none⟩ = some (.int .i64 e) ∧ W.cell? ⟨w6.heap.size, 0, none⟩ = some (.int .u64 bu) ∧ W.cell? ⟨w6.heap.size, 1, none⟩ = some (.int .u64 bv)) → Below W.heap.size W W1 → (Below w.heap.size w W1 ∧ W1.heap[w.heap.size]? = some (.cells #[.bool b, .string s, .string t, .int .i64 e] 41) ∧ W1.heap[w6.heap.size]? = some (.cells #[.int .u64 bu, .int .u64 bv] 25) ∧ W1.heap[w8.heap.size]? = some (.cells #[.int .u64 lu, .int .u64 lv] 25) ∧ W1.heap[w8.heap.size + 1]? = some (.cells #[.int .u64 hu, .int .u64 hv] 25) ∧ W1.heap[w8.heap.size + 1 + 1]? = some (.cells #[.int .u64 bu, .int .u64 bv] 25) ∧ W1.cell? ⟨w.heap.size, 0, none⟩ = some (.bool b) ∧ W1.cell? ⟨w.heap.size, 1, none⟩ = some (.string s) ∧ W1.cell? ⟨w.heap.size, 2, none⟩ = some (.string t) ∧ W1.cell? ⟨w.heap.size, 3, none⟩ = some (.int .i64 e) ∧ W1.cell? ⟨w6.heap.size, 0, none⟩ = some (.int .u64 bu) ∧ W1.cell? ⟨w6.heap.size, 1, none⟩ = some (.int .u64 bv))) := zH (fun W W1 h b => ⟨zO h.1 b, zA b _ _ _ h.2.1, zA b _ _ _ h.2.2.1, zA b _ _ _ h.2.2.2.1, zA b _ _ _ h.2.2.2.2.1, zA b _ _ _ h.2.2.2.2.2.1, zL (zA b _ _ _ h.2.1) 0 _ rfl, zL (zA b _ _ _ h.2.1) 1 _ rfl, zL (zA b _ _ _ h.2.1) 2 _ rfl, zL (zA b _ _ _ h.2.1) 3 _ rfl, zL (zA b _ _ _ h.2.2.1) 0 _ rfl, zL (zA b _ _ _ h.2.2.1) 1 _ rfl⟩)
   have s0 : Below w.heap.size w (w12).drew ∧ (w12).drew.heap[w.heap.size]? = some (.cells #[.bool b, .string s, .string t, .int .i64 e] 41) ∧ (w12).drew.heap[w6.heap.size]? = some (.cells #[.int .u64 bu, .int .u64 bv] 25) ∧ (w12).drew.heap[w8.heap.size]? = some (.cells #[.int .u64 lu, .int .u64 lv] 25) ∧ (w12).drew.heap[w8.heap.size + 1]? = some (.cells #[.int .u64 hu, .int .u64 hv] 25) ∧ (w12).drew.heap[w8.heap.size + 1 + 1]? = some (.cells #[.int .u64 bu, .int .u64 bv] 25) ∧ (w12).drew.cell? ⟨w.heap.size, 0, none⟩ = some (.bool b) ∧ (w12).drew.cell? ⟨w.heap.size, 1, none⟩ = some (.string s) ∧ (w12).drew.cell? ⟨w.heap.size, 2, none⟩ = some (.string t) ∧ (w12).drew.cell? ⟨w.heap.size, 3, none⟩ = some (.int .i64 e) ∧ (w12).drew.cell? ⟨w6.heap.size, 0, none⟩ = some (.int .u64 bu) ∧ (w12).drew.cell? ⟨w6.heap.size, 1, none⟩ = some (.int .u64 bv) := ⟨B12.drew, Aa, Ab, Ac, Ad, Ae, zL (Aa) 0 _ rfl, zL (Aa) 1 _ rfl, zL (Aa) 2 _ rfl, zL (Aa) 3 _ rfl, zL (Ab) 0 _ rfl, zL (Ab) 1 _ rfl⟩
   go_wp2_with fail
   go_region_held3 (fun W => Below w.heap.size w W ∧ W.heap[w.heap.size]? = some (.cells #[.bool b, .string s, .string t, .int .i64 e] 41) ∧ W.heap[w6.heap.size]? = some (.cells #[.int .u64 bu, .int .u64 bv] 25) ∧ W.heap[w8.heap.size]? = some (.cells #[.int .u64 lu, .int .u64 lv] 25) ∧ W.heap[w8.heap.size + 1]? = some (.cells #[.int .u64 hu, .int .u64 hv] 25) ∧ W.heap[w8.heap.size + 1 + 1]? = some (.cells #[.int .u64 bu, .int .u64 bv] 25) ∧ W.cell? ⟨w.heap.size, 0, none⟩ = some (.bool b) ∧ W.cell? ⟨w.heap.size, 1, none⟩ = some (.string s) ∧ W.cell? ⟨w.heap.size, 2, none⟩ = some (.string t) ∧ W.cell? ⟨w.heap.size, 3, none⟩ = some (.int .i64 e) ∧ W.cell? ⟨w6.heap.size, 0, none⟩ = some (.int .u64 bu) ∧ W.cell? ⟨w6.heap.size, 1, none⟩ = some (.int .u64 bv)) (first | exact s1 | exact s0)
    (((first | (go_at_call 21; (first | refine (KN.out _ (zW FF.out (And.left s1))).mono ?_ | refine (KN.out _ (zW FF.out (And.left s0))).mono ?_)) | (go_at_call 16; (first | refine (KG.out _ (zV TT.out (And.left s1))).mono ?_ | refine (KG.out _ (zV TT.out (And.left s0))).mono ?_)) | fail); rintro r wq ⟨rfl, bq⟩; (first | have s1 := sS.out _ _ s1 bq | have s1 := sS.out _ _ s0 bq); clear bq))
   have B13 := (And.left s1)
   have Ar := s1.2.1
   have As := s1.2.2.1
   have At := s1.2.2.2.1
   have Au := s1.2.2.2.2.1
   have Af := s1.2.2.2.2.2.1
   clear s0 s1 sS B12 Aa AY AZ A0 A1 Ab A2 A3 Ac A4 A5 Ad A6 A7 Ae A8 A9
   obtain ⟨Cr, Cs, Ct, Cu⟩ := zC Ar
   obtain ⟨Cv, Cw⟩ := zF As
   obtain ⟨Cx, Cy⟩ := zF At
   obtain ⟨Cz, CA⟩ := zF Au
   obtain ⟨CB, CC⟩ := zF Af
   have q0_14 := fz (k := 0) Af
   have q1_14 := fz (k := 1) Af
   have B14 := zY B13 (show w.heap.size ≤ w8.heap.size + 1 + 1 by first | exact Nat.le_refl _ | omega | (have := S7.out; have := Ah.out; have := S9.out; have := Ai.out; have := Aj.out; have := Z10.out; have := S10.out; have := Ak.out; have := Al.out; have := Am.out; have := Z11.out; have := S11.out; have := An.out; have := Ao.out; have := Ap.out; have := Aq.out; omega)) (.int .u64 0) (.int .u64 0)
   have Av : ((wq.setCell ⟨w8.heap.size + 1 + 1, 0, none⟩ (.int .u64 0)).setCell ⟨w8.heap.size + 1 + 1, 1, none⟩ (.int .u64 0)).heap[w8.heap.size + 1 + 1]? = some (.cells #[.int .u64 0, .int .u64 0] 25) := yJ Af _ _
   have HH := zH (And.intro S7.out (And.intro Ah.out (And.intro S9.out (And.intro Ai.out (And.intro Aj.out (And.intro Z10.out (And.intro S10.out (And.intro Ak.out (And.intro Al.out (And.intro Am.out (And.intro Z11.out (And.intro S11.out (And.intro An.out (And.intro Ao.out (And.intro Ap.out Aq.out)))))))))))))))
   have Ag : ((wq.setCell ⟨w8.heap.size + 1 + 1, 0, none⟩ (.int .u64 0)).setCell ⟨w8.heap.size + 1 + 1, 1, none⟩ (.int .u64 0)).heap[w.heap.size]? = some (.cells #[.bool b, .string s, .string t, .int .i64 e] 41) := (zG (by first | omega | (have := HH.out; omega))).trans ((zG (by first | omega | (have := HH.out; omega))).trans Ar)
   have HH := zH (And.intro S7.out (And.intro Ah.out (And.intro S9.out (And.intro Ai.out (And.intro Aj.out (And.intro Z10.out (And.intro S10.out (And.intro Ak.out (And.intro Al.out (And.intro Am.out (And.intro Z11.out (And.intro S11.out (And.intro An.out (And.intro Ao.out (And.intro Ap.out Aq.out)))))))))))))))
   have Aw : ((wq.setCell ⟨w8.heap.size + 1 + 1, 0, none⟩ (.int .u64 0)).setCell ⟨w8.heap.size + 1 + 1, 1, none⟩ (.int .u64 0)).heap[w6.heap.size]? = some (.cells #[.int .u64 bu, .int .u64 bv] 25) := (zG (by first | omega | (have := HH.out; omega))).trans ((zG (by first | omega | (have := HH.out; omega))).trans As)
   have HH := zH (And.intro S7.out (And.intro Ah.out (And.intro S9.out (And.intro Ai.out (And.intro Aj.out (And.intro Z10.out (And.intro S10.out (And.intro Ak.out (And.intro Al.out (And.intro Am.out (And.intro Z11.out (And.intro S11.out (And.intro An.out (And.intro Ao.out (And.intro Ap.out Aq.out)))))))))))))))
   have Ax : ((wq.setCell ⟨w8.heap.size + 1 + 1, 0, none⟩ (.int .u64 0)).setCell ⟨w8.heap.size + 1 + 1, 1, none⟩ (.int .u64 0)).heap[w8.heap.size]? = some (.cells #[.int .u64 lu, .int .u64 lv] 25) := (zG (by first | omega | (have := HH.out; omega))).trans ((zG (by first | omega | (have := HH.out; omega))).trans At)
   have HH := zH (And.intro S7.out (And.intro Ah.out (And.intro S9.out (And.intro Ai.out (And.intro Aj.out (And.intro Z10.out (And.intro S10.out (And.intro Ak.out (And.intro Al.out (And.intro Am.out (And.intro Z11.out (And.intro S11.out (And.intro An.out (And.intro Ao.out (And.intro Ap.out Aq.out)))))))))))))))
   have Ay : ((wq.setCell ⟨w8.heap.size + 1 + 1, 0, none⟩ (.int .u64 0)).setCell ⟨w8.heap.size + 1 + 1, 1, none⟩ (.int .u64 0)).heap[w8.heap.size + 1]? = some (.cells #[.int .u64 hu, .int .u64 hv] 25) := (zG (by first | omega | (have := HH.out; omega))).trans ((zG (by first | omega | (have := HH.out; omega))).trans Au)
   obtain ⟨CD, CE, CF, CG⟩ := zC Ag
   obtain ⟨CH, CI⟩ := zF Aw
   obtain ⟨CJ, CK⟩ := zF Ax
   obtain ⟨CL, CM⟩ := zF Ay
   obtain ⟨CN, CO⟩ := zF Av
   go_wp2_with fail
   obtain ⟨F, hF1, hF2⟩ := zQ ((wq.setCell ⟨w8.heap.size + 1 + 1, 0, none⟩ (.int .u64 0)).setCell ⟨w8.heap.size + 1 + 1, 1, none⟩ (.int .u64 0))
   have fx_0 := fun u => zE (zA (hF1 u) _ _ _ Ag) 0 _ rfl
   have fx_1 := fun u => zE (zA (hF1 u) _ _ _ Ag) 1 _ rfl
   have fx_2 := fun u => zE (zA (hF1 u) _ _ _ Ag) 2 _ rfl
   have fx_3 := fun u => zE (zA (hF1 u) _ _ _ Ag) 3 _ rfl
   have fb_0 := fun u => zE (zA (hF1 u) _ _ _ Aw) 0 _ rfl
   have fb_1 := fun u => zE (zA (hF1 u) _ _ _ Aw) 1 _ rfl
   have fl_0 := fun u => zE (zA (hF1 u) _ _ _ Ax) 0 _ rfl
   have fl_1 := fun u => zE (zA (hF1 u) _ _ _ Ax) 1 _ rfl
   have fh_0 := fun u => zE (zA (hF1 u) _ _ _ Ay) 0 _ rfl
   have fh_1 := fun u => zE (zA (hF1 u) _ _ _ Ay) 1 _ rfl
   have fz_0 := fun u => zE (zA (hF1 u) _ _ _ Av) 0 _ rfl
   have fz_1 := fun u => zE (zA (hF1 u) _ _ _ Av) 1 _ rfl
   have FG : zS (∀ u, yF (F u)) := zH (fun u => zW FF.out (zO B14 (hF1 u)))
   have TF : zS (∀ u, zN (F u)) := zH (fun u => zV TT.out (zO B14 (hF1 u)))
   refine zI F hF2 (by kernel_rfl) (by kernel_rfl) ?_
   repeat first | go_big_quiet_step (first | (go_at_call 16; exact zJ hF1 hF2 (KG.out _ (TF.out _))) | (go_at_call 17; exact zJ hF1 hF2 (KA.out _ (FG.out _) (TF.out _))) | fail) | quiet_step (first | (go_at_call 16; exact zJ hF1 hF2 (KG.out _ (TF.out _))) | (go_at_call 17; exact zJ hF1 hF2 (KA.out _ (FG.out _) (TF.out _))) | fail)
   refine wpQuiet_nil ?_
   rintro _ ⟨uW, rfl⟩
   have B15 := zO B14 (hF1 uW)
   obtain ⟨Ba, Bb, Bc, Bd, Be⟩ := xP (hF1 uW) Ag Aw Ax Ay Av
   obtain ⟨w15, hw⟩ : ∃ V, F uW = V := ⟨_, rfl⟩
   rw [hw] at B15 Ba Bb Bc Bd Be
   try rw [hw]
   clear hw hF1 hF2 B14 fx_0 fx_1 fx_2 fx_3 fb_0 fb_1 fl_0 fl_1 fh_0 fh_1 fz_0 fz_1 Ag CD CE CF CG Aw CH CI Ax CJ CK Ay CL CM Av CN CO
   clear FG
   clear TF
   clear F
   obtain ⟨CP, CQ, CR, CS⟩ := zC Ba
   obtain ⟨CT, CU⟩ := zF Bb
   obtain ⟨CV, CW⟩ := zF Bc
   obtain ⟨CX, CY⟩ := zF Bd
   obtain ⟨CZ, C0⟩ := zF Be
   go_wp2
   go_ret
   exact ⟨rfl, B15⟩
 ·
  clear H
  rcases HZ with ⟨c3, c4, n6e, ql⟩ | ⟨c3, c4, n6e, n1e, ql⟩ | ⟨c3, c4, n6e, n1e, ql⟩
  all_goals
   go_wp2_with fail
   obtain ⟨F, hF1, hF2⟩ := zQ w12
   have fx_0 := fun u => zE (zA (hF1 u) _ _ _ Aa) 0 _ rfl
   have fx_1 := fun u => zE (zA (hF1 u) _ _ _ Aa) 1 _ rfl
   have fx_2 := fun u => zE (zA (hF1 u) _ _ _ Aa) 2 _ rfl
   have fx_3 := fun u => zE (zA (hF1 u) _ _ _ Aa) 3 _ rfl
   have fb_0 := fun u => zE (zA (hF1 u) _ _ _ Ab) 0 _ rfl
   have fb_1 := fun u => zE (zA (hF1 u) _ _ _ Ab) 1 _ rfl
   have fl_0 := fun u => zE (zA (hF1 u) _ _ _ Ac) 0 _ rfl
   have fl_1 := fun u => zE (zA (hF1 u) _ _ _ Ac) 1 _ rfl
   have fh_0 := fun u => zE (zA (hF1 u) _ _ _ Ad) 0 _ rfl
   have fh_1 := fun u => zE (zA (hF1 u) _ _ _ Ad) 1 _ rfl
   have fz_0 := fun u => zE (zA (hF1 u) _ _ _ Ae) 0 _ rfl
   have fz_1 := fun u => zE (zA (hF1 u) _ _ _ Ae) 1 _ rfl
   have FG : zS (∀ u, yF (F u)) := zH (fun u => zW FF.out (zO B12 (hF1 u)))
   have TF : zS (∀ u, zN (F u)) := zH (fun u => zV TT.out (zO B12 (hF1 u)))
   refine zI F hF2 (by kernel_rfl) (by kernel_rfl) ?_
   repeat first | go_big_quiet_step (first | (go_at_call 16; exact zJ hF1 hF2 (KG.out _ (TF.out _))) | (go_at_call 17; exact zJ hF1 hF2 (KA.out _ (FG.out _) (TF.out _))) | fail) | quiet_step (first | (go_at_call 16; exact zJ hF1 hF2 (KG.out _ (TF.out _))) | (go_at_call 17; exact zJ hF1 hF2 (KA.out _ (FG.out _) (TF.out _))) | fail)
   refine wpQuiet_nil ?_
   rintro _ ⟨uW, rfl⟩
   have B13 := zO B12 (hF1 uW)
   obtain ⟨Ar, As, At, Au, Af⟩ := xP (hF1 uW) Aa Ab Ac Ad Ae
   obtain ⟨w13, hw⟩ : ∃ V, F uW = V := ⟨_, rfl⟩
   rw [hw] at B13 Ar As At Au Af
   try rw [hw]
   clear hw hF1 hF2 B12 fx_0 fx_1 fx_2 fx_3 fb_0 fb_1 fl_0 fl_1 fh_0 fh_1 fz_0 fz_1 Aa AY AZ A0 A1 Ab A2 A3 Ac A4 A5 Ad A6 A7 Ae A8 A9
   clear FG
   clear TF
   clear F
   obtain ⟨Cr, Cs, Ct, Cu⟩ := zC Ar
   obtain ⟨Cv, Cw⟩ := zF As
   obtain ⟨Cx, Cy⟩ := zF At
   obtain ⟨Cz, CA⟩ := zF Au
   obtain ⟨CB, CC⟩ := zF Af
   go_wp2
   go_ret
   exact ⟨rfl, B13⟩
theorem xZ (f m : Int) (b : Bool) (s t : ByteArray) (e : Int) (o3 o4 : Bool) (g : Int) (bu bv lu lv hu hv : Nat) (fl : Int) (c : Nat) (e0 : Bool)  (w : World)
  (KS : zS (∀ w, Calls Tryz.prog 13 #[.agg #[.bool b, .string s, .string t, .int .i64 e]] w fun r w' => r = .returned (.bool true) ∧ Below w.heap.size w w'))
  (KM : zS (∀ w, Calls Tryz.prog 14 #[.agg #[.bool b, .string s, .string t, .int .i64 e]] w fun r w' => r = .returned (.bool true) ∧ Below w.heap.size w w'))
  (KF : zS (∀ w, Calls Tryz.prog 10 #[.int .u8 f] w fun r w' => r = .returned (.bool o3) ∧ Below w.heap.size w w'))
  (KO : zS (∀ w, Calls Tryz.prog 15 #[.int .u8 m] w fun r w' => r = .returned (.bool o4) ∧ Below w.heap.size w w'))
  (KG : zS (∀ w, zN w → Calls Tryz.prog 16 #[.agg #[.bool b, .string s, .string t, .int .i64 e]] w fun r w' => r = .returned (.int .i64 g) ∧ Below w.heap.size w w'))
  (h3 : o3 = true) (h4 : o4 = true) (hg : (g == 0) = false)
  (K1 : zS (∀ w, yF w → zN w → Calls Tryz.prog 18 #[.int .u8 f, .int .u8 m, .agg #[.bool b, .string s, .string t, .int .i64 e]] w fun r w' => r = .returned (.tuple #[.agg #[.int .u64 bu, .int .u64 bv], .int .u8 fl, .int .i64 0]) ∧ Below w.heap.size w w'))
  (K2 : zS (∀ w, yF w → zN w → Calls Tryz.prog 19 #[.int .u8 f, .agg #[.bool b, .string s, .string t, .int .i64 e]] w fun r w' => r = .returned (.tuple #[.agg #[.int .u64 lu, .int .u64 lv], .agg #[.int .u64 hu, .int .u64 hv], .int .i64 0]) ∧ Below w.heap.size w w'))
  (KC : zS (∀ w, yF w → Calls Tryz.prog 20 #[.int .u8 f, .agg #[.int .u64 bu, .int .u64 bv]] w fun r w' => r = .returned (.tuple #[.int .u8 c, .int .i64 0]) ∧ Below w.heap.size w w'))
  (KN : zS (∀ w, yF w → Calls Tryz.prog 21 #[.int .u8 f, .agg #[.int .u64 bu, .int .u64 bv]] w fun r w' => r = .returned (.bool (decide (g < 0))) ∧ Below w.heap.size w w'))
  (KA : zS (∀ w, yF w → zN w → Calls Tryz.prog 17 #[] w fun r w' => r = .returned (.bool true) ∧ Below w.heap.size w w'))
  (hm : m = 1 ∧ g = -1) (he0 : (fl == 0) = e0) (hlh : yX (lu : Nat) (lv : Nat) (hu : Nat) (hv : Nat) = e0)
  (H : zS (((((c : Int) == 3) = true ∧ bits .and .u8 fl 6 = 2 ∧ bits .and .u8 fl 1 = 1 ∧ yX 0 0 (lu : Nat) (lv : Nat) = true ∧ e0 = true) ∨ (((c : Int) == 3) = true ∧ bits .and .u8 fl 6 = 2 ∧ bits .and .u8 fl 1 = 1 ∧ yX 0 0 (lu : Nat) (lv : Nat) = false ∧ yX 0 0 (hu : Nat) (hv : Nat) = true ∧ e0 = false) ∨ (((c : Int) == 3) = false ∧ ((c : Int) == 4) = true ∧ bits .and .u8 fl 6 = 2 ∧ bits .and .u8 fl 1 = 1 ∧ yX 0 0 (lu : Nat) (lv : Nat) = true ∧ e0 = true) ∨ (((c : Int) == 3) = false ∧ ((c : Int) == 4) = true ∧ bits .and .u8 fl 6 = 2 ∧ bits .and .u8 fl 1 = 1 ∧ yX 0 0 (lu : Nat) (lv : Nat) = false ∧ yX 0 0 (hu : Nat) (hv : Nat) = true ∧ e0 = false)) ∨
   ((((c : Int) == 3) = false ∧ ((c : Int) == 4) = false ∧ bits .and .u8 fl 6 = 0 ∧ yX (bu : Nat) (bv : Nat) (lu : Nat) (lv : Nat) = true ∧ e0 = true) ∨ (((c : Int) == 3) = false ∧ ((c : Int) == 4) = false ∧ bits .and .u8 fl 6 = 0 ∧ yX (bu : Nat) (bv : Nat) (lu : Nat) (lv : Nat) = false ∧ yX (bu : Nat) (bv : Nat) (hu : Nat) (hv : Nat) = true ∧ e0 = false) ∨ (((c : Int) == 3) = false ∧ ((c : Int) == 4) = false ∧ bits .and .u8 fl 6 = 2 ∧ bits .and .u8 fl 1 = 1 ∧ yX (bu : Nat) (bv : Nat) (lu : Nat) (lv : Nat) = true ∧ e0 = true) ∨ (((c : Int) == 3) = false ∧ ((c : Int) == 4) = false ∧ bits .and .u8 fl 6 = 2 ∧ bits .and .u8 fl 1 = 1 ∧ yX (bu : Nat) (bv : Nat) (lu : Nat) (lv : Nat) = false ∧ yX (bu : Nat) (bv : Nat) (hu : Nat) (hv : Nat) = true ∧ e0 = false) ∨ (((c : Int) == 3) = false ∧ ((c : Int) == 4) = false ∧ bits .and .u8 fl 6 = 4 ∧ bits .and .u8 fl 1 = 1 ∧ yX (bu : Nat) (bv : Nat) (lu : Nat) (lv : Nat) = true ∧ e0 = true) ∨ (((c : Int) == 3) = false ∧ ((c : Int) == 4) = false ∧ bits .and .u8 fl 6 = 4 ∧ bits .and .u8 fl 1 = 1 ∧ yX (bu : Nat) (bv : Nat) (lu : Nat) (lv : Nat) = false ∧ yX (bu : Nat) (bv : Nat) (hu : Nat) (hv : Nat) = true ∧ e0 = false))))
  (hT : yF w) (hT2 : zN w) : Calls Tryz.prog 4 #[.int .u8 f, .int .u8 m, .agg #[.bool b, .string s, .string t, .int .i64 e]] w fun r w' => r = .returned (.bool true) ∧ Below w.heap.size w w' := by
 have FF := zH hT
 have TT := zH hT2
 clear hT hT2
 subst h3 h4
 have heb := eqb
 have hb1 : ∀ x : Bool, (x == x) = true := fun x => by cases x <;> rfl
 have hb2 : ∀ x : Bool, (x != x) = false := fun x => by cases x <;> rfl
 obtain ⟨rfl, rfl⟩ := hm
 obtain ⟨AV, B0⟩ := yO w (Obj.cells #[.bool b, .string s, .string t, .int .i64 e] 41)
 go_enter Tryz.func4, Tryz.ntmps4
 go_wp2_with fail
 refine (KS.out _).mono ?_
 rintro r w1 ⟨rfl, b1⟩
 have B1 := zO B0 b1
 have AJ := zA b1 _ _ _ AV
 clear b1 B0 AV
 obtain ⟨Bf, Bg, Bh, Bi⟩ := zC AJ
 go_wp2_with fail
 refine (KM.out _).mono ?_
 rintro r w2 ⟨rfl, b2⟩
 have B2 := zO B1 b2
 have AK := zA b2 _ _ _ AJ
 clear b2 B1 AJ Bf Bg Bh Bi
 obtain ⟨Bj, Bk, Bl, Bm⟩ := zC AK
 go_wp2_with fail
 refine (KF.out _).mono ?_
 rintro r w3 ⟨rfl, b3⟩
 have B3 := zO B2 b3
 have AL := zA b3 _ _ _ AK
 clear b3 B2 AK Bj Bk Bl Bm
 obtain ⟨Bn, Bo, Bp, Bq⟩ := zC AL
 go_wp2_with fail
 refine (KO.out _).mono ?_
 rintro r w4 ⟨rfl, b4⟩
 have B4 := zO B3 b4
 have AM := zA b4 _ _ _ AL
 clear b4 B3 AL Bn Bo Bp Bq
 obtain ⟨Br, Bs, Bt, Bu⟩ := zC AM
 go_wp2_with fail
 refine (KG.out _ (zV TT.out B4)).mono ?_
 rintro r w5 ⟨rfl, b5⟩
 have B5 := zO B4 b5
 have AN := zA b5 _ _ _ AM
 clear b5 B4 AM Br Bs Bt Bu
 obtain ⟨Bv, Bw, Bx, By⟩ := zC AN
 go_wp2_with fail
 refine (K1.out _ (zW FF.out B5) (zV TT.out B5)).mono ?_
 rintro r w6 ⟨rfl, b6⟩
 have B6 := zO B5 b6
 have Az := zA b6 _ _ _ AN
 clear b6 B5 AN Bv Bw Bx By
 obtain ⟨Bz, BA, BB, BC⟩ := zC Az
 have S7 := zH B6.size
 have Ah := z8 Az
 have AO := heap_alloc_last w6 (Obj.cells #[.int .u64 bu, .int .u64 bv] 25)
 have B7 := zO B6 (yK w6 (Obj.cells #[.int .u64 bu, .int .u64 bv] 25))
 have AP := zA (yK w6 (Obj.cells #[.int .u64 bu, .int .u64 bv] 25)) _ _ _ Az
 clear B6 Az Bz BA BB BC
 obtain ⟨BD, BE, BF, BG⟩ := zC AP
 obtain ⟨BH, BI⟩ := zF AO
 go_wp2_with fail
 refine (K2.out _ (zW FF.out B7) (zV TT.out B7)).mono ?_
 rintro r w8 ⟨rfl, b8⟩
 have B8 := zO B7 b8
 obtain ⟨AA, AB⟩ := yB b8 AP AO
 clear b8 B7 AP BD BE BF BG AO BH BI
 obtain ⟨BJ, BK, BL, BM⟩ := zC AA
 obtain ⟨BN, BO⟩ := zF AB
 have S9 := zH B8.size
 have Ai := z8 AA
 have Aj := z8 AB
 have AC := heap_alloc_last w8 (Obj.cells #[.int .u64 lu, .int .u64 lv] 25)
 have B9 := zO B8 (yK w8 (Obj.cells #[.int .u64 lu, .int .u64 lv] 25))
 obtain ⟨AD, AE⟩ := yB (yK w8 (Obj.cells #[.int .u64 lu, .int .u64 lv] 25)) AA AB
 clear B8 AA BJ BK BL BM AB BN BO
 obtain ⟨BP, BQ, BR, BS⟩ := zC AD
 obtain ⟨BT, BU⟩ := zF AE
 obtain ⟨BV, BW⟩ := zF AC
 have S10 := zH B9.size
 have Ak := z8 AD
 have Al := z8 AE
 have Am := z8 AC
 have Z10 := zH (zX w8 (Obj.cells #[.int .u64 lu, .int .u64 lv] 25))
 have AF : ((w8.alloc (Obj.cells #[.int .u64 lu, .int .u64 lv] 25)).alloc (Obj.cells #[.int .u64 hu, .int .u64 hv] 25)).heap[w8.heap.size + 1]? = some (.cells #[.int .u64 hu, .int .u64 hv] 25) := by have := heap_alloc_last (w8.alloc (Obj.cells #[.int .u64 lu, .int .u64 lv] 25)) (Obj.cells #[.int .u64 hu, .int .u64 hv] 25); simpa only [zX] using this
 have B10 := zO B9 (yK (w8.alloc (Obj.cells #[.int .u64 lu, .int .u64 lv] 25)) (Obj.cells #[.int .u64 hu, .int .u64 hv] 25))
 obtain ⟨AG, AH, AI⟩ := yA (yK (w8.alloc (Obj.cells #[.int .u64 lu, .int .u64 lv] 25)) (Obj.cells #[.int .u64 hu, .int .u64 hv] 25)) AD AE AC
 clear B9 AD BP BQ BR BS AE BT BU AC BV BW
 obtain ⟨BX, BY, BZ, Ca⟩ := zC AG
 obtain ⟨AW, AX⟩ := zF AH
 obtain ⟨Cb, Cc⟩ := zF AI
 obtain ⟨Cd, Ce⟩ := zF AF
 have kb0 := AW
 have kb1 := AX
 have S11 := zH B10.size
 have An := z8 AG
 have Ao := z8 AH
 have Ap := z8 AI
 have Aq := z8 AF
 have Z11 := zH (zX (w8.alloc (Obj.cells #[.int .u64 lu, .int .u64 lv] 25)) (Obj.cells #[.int .u64 hu, .int .u64 hv] 25))
 have AQ : (((w8.alloc (Obj.cells #[.int .u64 lu, .int .u64 lv] 25)).alloc (Obj.cells #[.int .u64 hu, .int .u64 hv] 25)).alloc (Obj.cells #[.int .u64 bu, .int .u64 bv] 25)).heap[w8.heap.size + 1 + 1]? = some (.cells #[.int .u64 bu, .int .u64 bv] 25) := by have := heap_alloc_last ((w8.alloc (Obj.cells #[.int .u64 lu, .int .u64 lv] 25)).alloc (Obj.cells #[.int .u64 hu, .int .u64 hv] 25)) (Obj.cells #[.int .u64 bu, .int .u64 bv] 25); simpa only [zX] using this
 have B11 := zO B10 (yK ((w8.alloc (Obj.cells #[.int .u64 lu, .int .u64 lv] 25)).alloc (Obj.cells #[.int .u64 hu, .int .u64 hv] 25)) (Obj.cells #[.int .u64 bu, .int .u64 bv] 25))
 obtain ⟨AR, AS, AT, AU⟩ := qT (yK ((w8.alloc (Obj.cells #[.int .u64 lu, .int .u64 lv] 25)).alloc (Obj.cells #[.int .u64 hu, .int .u64 hv] 25)) (Obj.cells #[.int .u64 bu, .int .u64 bv] 25)) AG AH AI AF
 clear B10 AG BX BY BZ Ca AH AW AX AI Cb Cc AF Cd Ce
 obtain ⟨Cf, Cg, Ch, Ci⟩ := zC AR
 obtain ⟨Cj, Ck⟩ := zF AS
 obtain ⟨Cl, Cm⟩ := zF AT
 obtain ⟨Cn, Co⟩ := zF AU
 obtain ⟨Cp, Cq⟩ := zF AQ
 go_wp2_with fail
 refine (KC.out _ (zW FF.out B11)).mono ?_
 rintro r w12 ⟨rfl, b12⟩
 have B12 := zO B11 b12
 obtain ⟨Aa, Ab, Ac, Ad, Ae⟩ := xP b12 AR AS AT AU AQ
 clear b12 B11 AR Cf Cg Ch Ci AS Cj Ck AT Cl Cm AU Cn Co AQ Cp Cq
 obtain ⟨AY, AZ, A0, A1⟩ := zC Aa
 obtain ⟨A2, A3⟩ := zF Ab
 obtain ⟨A4, A5⟩ := zF Ac
 obtain ⟨A6, A7⟩ := zF Ad
 obtain ⟨A8, A9⟩ := zF Ae
 clear kb0 kb1
 rcases H.out with HZ | HZ
 ·
  clear H
  rcases HZ with ⟨c3, n6e, n1e, ql, rfl⟩ | ⟨c3, n6e, n1e, ql, qh, rfl⟩ | ⟨c3, c4, n6e, n1e, ql, rfl⟩ | ⟨c3, c4, n6e, n1e, ql, qh, rfl⟩
  all_goals
   have sS : zS (∀ W W1 : World, (Below w.heap.size w W ∧ W.heap[w.heap.size]? = some (.cells #[.bool b, .string s, .string t, .int .i64 e] 41) ∧ W.heap[w6.heap.size]? = some (.cells #[.int .u64 bu, .int .u64 bv] 25) ∧ W.heap[w8.heap.size]? = some (.cells #[.int .u64 lu, .int .u64 lv] 25) ∧ W.heap[w8.heap.size + 1]? = some (.cells #[.int .u64 hu, .int .u64 hv] 25) ∧ W.heap[w8.heap.size + 1 + 1]? = some (.cells #[.int .u64 bu, .int .u64 bv] 25) ∧ W.cell? ⟨w.heap.size, 0, none⟩ = some (.bool b) ∧ W.cell? ⟨w.heap.size, 1, none⟩ = some (.string s) ∧ W.cell? ⟨w.heap.size, 2, none⟩ = some (.string t) ∧ W.cell? ⟨w.heap.size, 3, none⟩ = some (.int .i64 e) ∧ W.cell? ⟨w6.heap.size, 0, none⟩ = some (.int .u64 bu) ∧ W.cell? ⟨w6.heap.size, 1, none⟩ = some (.int .u64 bv)) → Below W.heap.size W W1 → (Below w.heap.size w W1 ∧ W1.heap[w.heap.size]? = some (.cells #[.bool b, .string s, .string t, .int .i64 e] 41) ∧ W1.heap[w6.heap.size]? = some (.cells #[.int .u64 bu, .int .u64 bv] 25) ∧ W1.heap[w8.heap.size]? = some (.cells #[.int .u64 lu, .int .u64 lv] 25) ∧ W1.heap[w8.heap.size + 1]? = some (.cells #[.int .u64 hu, .int .u64 hv] 25) ∧ W1.heap[w8.heap.size + 1 + 1]? = some (.cells #[.int .u64 bu, .int .u64 bv] 25) ∧ W1.cell? ⟨w.heap.size, 0, none⟩ = some (.bool b) ∧ W1.cell? ⟨w.heap.size, 1, none⟩ = some (.string s) ∧ W1.cell? ⟨w.heap.size, 2, none⟩ = some (.string t) ∧ W1.cell? ⟨w.heap.size, 3, none⟩ = some (.int .i64 e) ∧ W1.cell? ⟨w6.heap.size, 0, none⟩ = some (.int .u64 bu) ∧ W1.cell? ⟨w6.heap.size, 1, none⟩ = some (.int .u64 bv))) := zH (fun W W1 h b => ⟨zO h.1 b, zA b _ _ _ h.2.1, zA b _ _ _ h.2.2.1, zA b _ _ _ h.2.2.2.1, zA b _ _ _ h.2.2.2.2.1, zA b _ _ _ h.2.2.2.2.2.1, zL (zA b _ _ _ h.2.1) 0 _ rfl, zL (zA b _ _ _ h.2.1) 1 _ rfl, zL (zA b _ _ _ h.2.1) 2 _ rfl, zL (zA b _ _ _ h.2.1) 3 _ rfl, zL (zA b _ _ _ h.2.2.1) 0 _ rfl, zL (zA b _ _ _ h.2.2.1) 1 _ rfl⟩)
   have s0 : Below w.heap.size w (w12).drew ∧ (w12).drew.heap[w.heap.size]? = some (.cells #[.bool b, .string s, .string t, .int .i64 e] 41) ∧ (w12).drew.heap[w6.heap.size]? = some (.cells #[.int .u64 bu, .int .u64 bv] 25) ∧ (w12).drew.heap[w8.heap.size]? = some (.cells #[.int .u64 lu, .int .u64 lv] 25) ∧ (w12).drew.heap[w8.heap.size + 1]? = some (.cells #[.int .u64 hu, .int .u64 hv] 25) ∧ (w12).drew.heap[w8.heap.size + 1 + 1]? = some (.cells #[.int .u64 bu, .int .u64 bv] 25) ∧ (w12).drew.cell? ⟨w.heap.size, 0, none⟩ = some (.bool b) ∧ (w12).drew.cell? ⟨w.heap.size, 1, none⟩ = some (.string s) ∧ (w12).drew.cell? ⟨w.heap.size, 2, none⟩ = some (.string t) ∧ (w12).drew.cell? ⟨w.heap.size, 3, none⟩ = some (.int .i64 e) ∧ (w12).drew.cell? ⟨w6.heap.size, 0, none⟩ = some (.int .u64 bu) ∧ (w12).drew.cell? ⟨w6.heap.size, 1, none⟩ = some (.int .u64 bv) := ⟨B12.drew, Aa, Ab, Ac, Ad, Ae, zL (Aa) 0 _ rfl, zL (Aa) 1 _ rfl, zL (Aa) 2 _ rfl, zL (Aa) 3 _ rfl, zL (Ab) 0 _ rfl, zL (Ab) 1 _ rfl⟩
   go_wp2_with fail
   go_region_held3 (fun W => Below w.heap.size w W ∧ W.heap[w.heap.size]? = some (.cells #[.bool b, .string s, .string t, .int .i64 e] 41) ∧ W.heap[w6.heap.size]? = some (.cells #[.int .u64 bu, .int .u64 bv] 25) ∧ W.heap[w8.heap.size]? = some (.cells #[.int .u64 lu, .int .u64 lv] 25) ∧ W.heap[w8.heap.size + 1]? = some (.cells #[.int .u64 hu, .int .u64 hv] 25) ∧ W.heap[w8.heap.size + 1 + 1]? = some (.cells #[.int .u64 bu, .int .u64 bv] 25) ∧ W.cell? ⟨w.heap.size, 0, none⟩ = some (.bool b) ∧ W.cell? ⟨w.heap.size, 1, none⟩ = some (.string s) ∧ W.cell? ⟨w.heap.size, 2, none⟩ = some (.string t) ∧ W.cell? ⟨w.heap.size, 3, none⟩ = some (.int .i64 e) ∧ W.cell? ⟨w6.heap.size, 0, none⟩ = some (.int .u64 bu) ∧ W.cell? ⟨w6.heap.size, 1, none⟩ = some (.int .u64 bv)) (first | exact s1 | exact s0)
    (((first | (go_at_call 21; (first | refine (KN.out _ (zW FF.out (And.left s1))).mono ?_ | refine (KN.out _ (zW FF.out (And.left s0))).mono ?_)) | (go_at_call 16; (first | refine (KG.out _ (zV TT.out (And.left s1))).mono ?_ | refine (KG.out _ (zV TT.out (And.left s0))).mono ?_)) | fail); rintro r wq ⟨rfl, bq⟩; (first | have s1 := sS.out _ _ s1 bq | have s1 := sS.out _ _ s0 bq); clear bq))
   have B13 := (And.left s1)
   have Ar := s1.2.1
   have As := s1.2.2.1
   have At := s1.2.2.2.1
   have Au := s1.2.2.2.2.1
   have Af := s1.2.2.2.2.2.1
   clear s0 s1 sS B12 Aa AY AZ A0 A1 Ab A2 A3 Ac A4 A5 Ad A6 A7 Ae A8 A9
   obtain ⟨Cr, Cs, Ct, Cu⟩ := zC Ar
   obtain ⟨Cv, Cw⟩ := zF As
   obtain ⟨Cx, Cy⟩ := zF At
   obtain ⟨Cz, CA⟩ := zF Au
   obtain ⟨CB, CC⟩ := zF Af
   have q0_14 := fz (k := 0) Af
   have q1_14 := fz (k := 1) Af
   have B14 := zY B13 (show w.heap.size ≤ w8.heap.size + 1 + 1 by first | exact Nat.le_refl _ | omega | (have := S7.out; have := Ah.out; have := S9.out; have := Ai.out; have := Aj.out; have := Z10.out; have := S10.out; have := Ak.out; have := Al.out; have := Am.out; have := Z11.out; have := S11.out; have := An.out; have := Ao.out; have := Ap.out; have := Aq.out; omega)) (.int .u64 0) (.int .u64 0)
   have Av : ((wq.setCell ⟨w8.heap.size + 1 + 1, 0, none⟩ (.int .u64 0)).setCell ⟨w8.heap.size + 1 + 1, 1, none⟩ (.int .u64 0)).heap[w8.heap.size + 1 + 1]? = some (.cells #[.int .u64 0, .int .u64 0] 25) := yJ Af _ _
   have HH := zH (And.intro S7.out (And.intro Ah.out (And.intro S9.out (And.intro Ai.out (And.intro Aj.out (And.intro Z10.out (And.intro S10.out (And.intro Ak.out (And.intro Al.out (And.intro Am.out (And.intro Z11.out (And.intro S11.out (And.intro An.out (And.intro Ao.out (And.intro Ap.out Aq.out)))))))))))))))
   have Ag : ((wq.setCell ⟨w8.heap.size + 1 + 1, 0, none⟩ (.int .u64 0)).setCell ⟨w8.heap.size + 1 + 1, 1, none⟩ (.int .u64 0)).heap[w.heap.size]? = some (.cells #[.bool b, .string s, .string t, .int .i64 e] 41) := (zG (by first | omega | (have := HH.out; omega))).trans ((zG (by first | omega | (have := HH.out; omega))).trans Ar)
   have HH := zH (And.intro S7.out (And.intro Ah.out (And.intro S9.out (And.intro Ai.out (And.intro Aj.out (And.intro Z10.out (And.intro S10.out (And.intro Ak.out (And.intro Al.out (And.intro Am.out (And.intro Z11.out (And.intro S11.out (And.intro An.out (And.intro Ao.out (And.intro Ap.out Aq.out)))))))))))))))
   have Aw : ((wq.setCell ⟨w8.heap.size + 1 + 1, 0, none⟩ (.int .u64 0)).setCell ⟨w8.heap.size + 1 + 1, 1, none⟩ (.int .u64 0)).heap[w6.heap.size]? = some (.cells #[.int .u64 bu, .int .u64 bv] 25) := (zG (by first | omega | (have := HH.out; omega))).trans ((zG (by first | omega | (have := HH.out; omega))).trans As)
   have HH := zH (And.intro S7.out (And.intro Ah.out (And.intro S9.out (And.intro Ai.out (And.intro Aj.out (And.intro Z10.out (And.intro S10.out (And.intro Ak.out (And.intro Al.out (And.intro Am.out (And.intro Z11.out (And.intro S11.out (And.intro An.out (And.intro Ao.out (And.intro Ap.out Aq.out)))))))))))))))
   have Ax : ((wq.setCell ⟨w8.heap.size + 1 + 1, 0, none⟩ (.int .u64 0)).setCell ⟨w8.heap.size + 1 + 1, 1, none⟩ (.int .u64 0)).heap[w8.heap.size]? = some (.cells #[.int .u64 lu, .int .u64 lv] 25) := (zG (by first | omega | (have := HH.out; omega))).trans ((zG (by first | omega | (have := HH.out; omega))).trans At)
   have HH := zH (And.intro S7.out (And.intro Ah.out (And.intro S9.out (And.intro Ai.out (And.intro Aj.out (And.intro Z10.out (And.intro S10.out (And.intro Ak.out (And.intro Al.out (And.intro Am.out (And.intro Z11.out (And.intro S11.out (And.intro An.out (And.intro Ao.out (And.intro Ap.out Aq.out)))))))))))))))
   have Ay : ((wq.setCell ⟨w8.heap.size + 1 + 1, 0, none⟩ (.int .u64 0)).setCell ⟨w8.heap.size + 1 + 1, 1, none⟩ (.int .u64 0)).heap[w8.heap.size + 1]? = some (.cells #[.int .u64 hu, .int .u64 hv] 25) := (zG (by first | omega | (have := HH.out; omega))).trans ((zG (by first | omega | (have := HH.out; omega))).trans Au)
   obtain ⟨CD, CE, CF, CG⟩ := zC Ag
   obtain ⟨CH, CI⟩ := zF Aw
   obtain ⟨CJ, CK⟩ := zF Ax
   obtain ⟨CL, CM⟩ := zF Ay
   obtain ⟨CN, CO⟩ := zF Av
   go_wp2_with fail
   obtain ⟨F, hF1, hF2⟩ := zQ ((wq.setCell ⟨w8.heap.size + 1 + 1, 0, none⟩ (.int .u64 0)).setCell ⟨w8.heap.size + 1 + 1, 1, none⟩ (.int .u64 0))
   have fx_0 := fun u => zE (zA (hF1 u) _ _ _ Ag) 0 _ rfl
   have fx_1 := fun u => zE (zA (hF1 u) _ _ _ Ag) 1 _ rfl
   have fx_2 := fun u => zE (zA (hF1 u) _ _ _ Ag) 2 _ rfl
   have fx_3 := fun u => zE (zA (hF1 u) _ _ _ Ag) 3 _ rfl
   have fb_0 := fun u => zE (zA (hF1 u) _ _ _ Aw) 0 _ rfl
   have fb_1 := fun u => zE (zA (hF1 u) _ _ _ Aw) 1 _ rfl
   have fl_0 := fun u => zE (zA (hF1 u) _ _ _ Ax) 0 _ rfl
   have fl_1 := fun u => zE (zA (hF1 u) _ _ _ Ax) 1 _ rfl
   have fh_0 := fun u => zE (zA (hF1 u) _ _ _ Ay) 0 _ rfl
   have fh_1 := fun u => zE (zA (hF1 u) _ _ _ Ay) 1 _ rfl
   have fz_0 := fun u => zE (zA (hF1 u) _ _ _ Av) 0 _ rfl
   have fz_1 := fun u => zE (zA (hF1 u) _ _ _ Av) 1 _ rfl
   have FG : zS (∀ u, yF (F u)) := zH (fun u => zW FF.out (zO B14 (hF1 u)))
   have TF : zS (∀ u, zN (F u)) := zH (fun u => zV TT.out (zO B14 (hF1 u)))
   refine zI F hF2 (by kernel_rfl) (by kernel_rfl) ?_
   repeat first | go_big_quiet_step (first | (go_at_call 16; exact zJ hF1 hF2 (KG.out _ (TF.out _))) | (go_at_call 17; exact zJ hF1 hF2 (KA.out _ (FG.out _) (TF.out _))) | fail) | quiet_step (first | (go_at_call 16; exact zJ hF1 hF2 (KG.out _ (TF.out _))) | (go_at_call 17; exact zJ hF1 hF2 (KA.out _ (FG.out _) (TF.out _))) | fail)
   refine wpQuiet_nil ?_
   rintro _ ⟨uW, rfl⟩
   have B15 := zO B14 (hF1 uW)
   obtain ⟨Ba, Bb, Bc, Bd, Be⟩ := xP (hF1 uW) Ag Aw Ax Ay Av
   obtain ⟨w15, hw⟩ : ∃ V, F uW = V := ⟨_, rfl⟩
   rw [hw] at B15 Ba Bb Bc Bd Be
   try rw [hw]
   clear hw hF1 hF2 B14 fx_0 fx_1 fx_2 fx_3 fb_0 fb_1 fl_0 fl_1 fh_0 fh_1 fz_0 fz_1 Ag CD CE CF CG Aw CH CI Ax CJ CK Ay CL CM Av CN CO
   clear FG
   clear TF
   clear F
   obtain ⟨CP, CQ, CR, CS⟩ := zC Ba
   obtain ⟨CT, CU⟩ := zF Bb
   obtain ⟨CV, CW⟩ := zF Bc
   obtain ⟨CX, CY⟩ := zF Bd
   obtain ⟨CZ, C0⟩ := zF Be
   go_wp2
   go_ret
   exact ⟨rfl, B15⟩
 ·
  clear H
  rcases HZ with ⟨c3, c4, n6e, ql, rfl⟩ | ⟨c3, c4, n6e, ql, qh, rfl⟩ | ⟨c3, c4, n6e, n1e, ql, rfl⟩ | ⟨c3, c4, n6e, n1e, ql, qh, rfl⟩ | ⟨c3, c4, n6e, n1e, ql, rfl⟩ | ⟨c3, c4, n6e, n1e, ql, qh, rfl⟩
  all_goals
   go_wp2_with fail
   obtain ⟨F, hF1, hF2⟩ := zQ w12
   have fx_0 := fun u => zE (zA (hF1 u) _ _ _ Aa) 0 _ rfl
   have fx_1 := fun u => zE (zA (hF1 u) _ _ _ Aa) 1 _ rfl
   have fx_2 := fun u => zE (zA (hF1 u) _ _ _ Aa) 2 _ rfl
   have fx_3 := fun u => zE (zA (hF1 u) _ _ _ Aa) 3 _ rfl
   have fb_0 := fun u => zE (zA (hF1 u) _ _ _ Ab) 0 _ rfl
   have fb_1 := fun u => zE (zA (hF1 u) _ _ _ Ab) 1 _ rfl
   have fl_0 := fun u => zE (zA (hF1 u) _ _ _ Ac) 0 _ rfl
   have fl_1 := fun u => zE (zA (hF1 u) _ _ _ Ac) 1 _ rfl
   have fh_0 := fun u => zE (zA (hF1 u) _ _ _ Ad) 0 _ rfl
   have fh_1 := fun u => zE (zA (hF1 u) _ _ _ Ad) 1 _ rfl
   have fz_0 := fun u => zE (zA (hF1 u) _ _ _ Ae) 0 _ rfl
   have fz_1 := fun u => zE (zA (hF1 u) _ _ _ Ae) 1 _ rfl
   have FG : zS (∀ u, yF (F u)) := zH (fun u => zW FF.out (zO B12 (hF1 u)))
   have TF : zS (∀ u, zN (F u)) := zH (fun u => zV TT.out (zO B12 (hF1 u)))
   refine zI F hF2 (by kernel_rfl) (by kernel_rfl) ?_
   repeat first | go_big_quiet_step (first | (go_at_call 16; exact zJ hF1 hF2 (KG.out _ (TF.out _))) | (go_at_call 17; exact zJ hF1 hF2 (KA.out _ (FG.out _) (TF.out _))) | fail) | quiet_step (first | (go_at_call 16; exact zJ hF1 hF2 (KG.out _ (TF.out _))) | (go_at_call 17; exact zJ hF1 hF2 (KA.out _ (FG.out _) (TF.out _))) | fail)
   refine wpQuiet_nil ?_
   rintro _ ⟨uW, rfl⟩
   have B13 := zO B12 (hF1 uW)
   obtain ⟨Ar, As, At, Au, Af⟩ := xP (hF1 uW) Aa Ab Ac Ad Ae
   obtain ⟨w13, hw⟩ : ∃ V, F uW = V := ⟨_, rfl⟩
   rw [hw] at B13 Ar As At Au Af
   try rw [hw]
   clear hw hF1 hF2 B12 fx_0 fx_1 fx_2 fx_3 fb_0 fb_1 fl_0 fl_1 fh_0 fh_1 fz_0 fz_1 Aa AY AZ A0 A1 Ab A2 A3 Ac A4 A5 Ad A6 A7 Ae A8 A9
   clear FG
   clear TF
   clear F
   obtain ⟨Cr, Cs, Ct, Cu⟩ := zC Ar
   obtain ⟨Cv, Cw⟩ := zF As
   obtain ⟨Cx, Cy⟩ := zF At
   obtain ⟨Cz, CA⟩ := zF Au
   obtain ⟨CB, CC⟩ := zF Af
   go_wp2
   go_ret
   exact ⟨rfl, B13⟩
end Go.Proofs.YtkblmpmkchkpjaaGreatDoor
