/-
  What the functions that the statement reaches return: part 11 (X13, S1, S2, S3, S4, S5, S6, K1).
-/
import Derived.Test.YtkblmpmkchkpjaaGreatDoorNe10
namespace Go.Proofs.YtkblmpmkchkpjaaGreatDoor
set_option maxRecDepth 100000
set_option maxHeartbeats 40000000
open Go.RowKit WMath XMath
theorem neg_is (c : Bool) (m f : Nat) (g : Int) : negX (XN.mk c m f g) = XN.mk (negX (XN.mk c m f g)).b m f g := by
 unfold negX
 split <;> rfl
theorem Subx_ok (b : Bool) (n d : Nat) (e : Int) (s t : ByteArray) (c : Bool) (m f : Nat) (g : Int) (p q : ByteArray) (rb : Bool) (rn rd : Nat) (re err : Int) (u v : ByteArray)
  (hs : yG n = s) (ht : yG d = t) (hp : yG m = p) (hq : yG f = q) (hx : (XN.mk b n d e).can) (hy : (XN.mk c m f g).can) (hr : addX (XN.mk b n d e) (negX (XN.mk c m f g)) = (⟨rb, rn, rd, re⟩, err)) (hu : yG rn = u) (hv : yG rd = v) (w : World) (hT : zN w) :
  Calls Tryz.prog 23 #[.agg #[.bool b, .string s, .string t, .int .i64 e], .agg #[.bool c, .string p, .string q, .int .i64 g]] w fun r w' => r = .returned (.tuple #[.agg #[.bool rb, .string u, .string v, .int .i64 re], .int .i64 err]) ∧ Below w.heap.size w w' := by
 have M1 := zH (qQ hs ht hx)
 have M2 := zH (qQ hp hq hy)
 obtain ⟨k, hk⟩ : ∃ k, (negX (XN.mk c m f g)).b = k := ⟨_, rfl⟩
 have hz := neg_is c m f g
 rw [hk] at hz
 have HN := zH (fun w => turnedx c m f g p q k hp hq hy hk w)
 have HF := zH (fun w hT => sumx b n d e s t k m f g p q rb rn rd re err u v hs ht hp hq hx (by rw [← hz]; exact (qY _ hy).1) (by rw [← hz]; exact hr) hu hv w hT)
 have TT := zH hT
 clear hs ht hp hq hx hy hr hu hv hT hk hz
 obtain ⟨Ac, Ad, Ae, B0⟩ := opn3 w (Obj.cells #[.bool b, .string s, .string t, .int .i64 e] 41) (Obj.cells #[.bool c, .string p, .string q, .int .i64 g] 41) (Obj.cells #[.bool false, .string ⟨#[]⟩, .string ⟨#[]⟩, .int .i64 0] 41)
 go_enter Tryz.func23, Tryz.ntmps23
 go_wp2_with fail
 refine (xmay2 _ _ _ _ _ _ _ _ true true true M1.out M2.out rfl _ (((w.alloc (Obj.cells #[.bool b, .string s, .string t, .int .i64 e] 41)).alloc (Obj.cells #[.bool c, .string p, .string q, .int .i64 g] 41)).alloc (Obj.cells #[.bool false, .string ⟨#[]⟩, .string ⟨#[]⟩, .int .i64 0] 41)) _ (by simp only [zX]) (zV TT.out B0)).mono ?_
 rintro r w1 ⟨rfl, b1⟩
 have B1 := zO B0 b1
 obtain ⟨Af, Ah, Ag⟩ := yA b1 Ac Ad Ae
 clear b1 B0 Ac Ad Ae
 obtain ⟨Aj, Ak, Al, Am⟩ := zC Af
 obtain ⟨An, Ao, Ap, Aq⟩ := zC Ah
 obtain ⟨Ar, As, At, Au⟩ := zC Ag
 go_wp2_with fail
 go_region_with (first
  | (go_at_call 56; refine (HN.out _).mono ?_; rintro r w2 ⟨rfl, b2⟩; have b2' : Below w1.heap.size w1 w2 := ((Below.refl w1.heap.size w1).drew).trans b2; have B2 : Below w.heap.size w w2 := zO B1 b2'; have Ab := zA b2' _ _ _ Af; have Ai := zA b2' _ _ _ Ag; have Av := zE Ab 0 _ rfl; have Aw := zE Ab 1 _ rfl; have Ax := zE Ab 2 _ rfl; have Ay := zE Ab 3 _ rfl)
  | (go_at_call 55; refine (HF.out _ (zV TT.out B2)).mono ?_; rintro r w3 ⟨rfl, b3⟩; have B3 : Below w.heap.size w w3 := zO B2 b3; have Aa := zA b3 _ _ _ Ai; have Az := zE Aa 0 _ rfl; have AA := zE Aa 1 _ rfl; have AB := zE Aa 2 _ rfl; have AC := zE Aa 3 _ rfl; have q0 := fz (k := 0) Aa; have q1 := fz (k := 1) Aa; have q2 := fz (k := 2) Aa; have q3 := fz (k := 3) Aa))
 all_goals
  obtain ⟨E0, E1, E2, E3⟩ := yC Aa rfl (.bool rb) (.string u) (.string v) (.int .i64 re)
  go_wp2
  exact bodyPost_ret (v := .tuple #[.agg #[.bool rb, .string u, .string v, .int .i64 re], .int .i64 err]) (by simp [results, Tryz.results23, go_sem, E0, E1, E2, E3]) rfl ⟨rfl, z9 B3 (by omega) _ _ _ _⟩
theorem cmpv_bd (a b : Nat) : xY a b = -1 ∨ xY a b = 0 ∨ xY a b = 1 := by
 unfold xY
 split
 ·
  exact Or.inr (Or.inl rfl)
 ·
  split
  ·
   exact Or.inl rfl
  ·
   exact Or.inr (Or.inr rfl)
theorem sg_bd (x : XN) : sg x = -1 ∨ sg x = 0 ∨ sg x = 1 := by
 unfold sg
 split
 ·
  exact Or.inr (Or.inl rfl)
 ·
  split
  ·
   exact Or.inl rfl
  ·
   exact Or.inr (Or.inr rfl)
theorem Cmpx_ok (b : Bool) (n d : Nat) (e : Int) (s t : ByteArray) (c : Bool) (m f : Nat) (g : Int) (p q : ByteArray) (k err : Int)
  (hs : yG n = s) (ht : yG d = t) (hp : yG m = p) (hq : yG f = q) (hx : (XN.mk b n d e).can) (hy : (XN.mk c m f g).can) (hr : cmpX (XN.mk b n d e) (XN.mk c m f g) = (k, err)) (w : World) (hT : zN w) :
  Calls Tryz.prog 24 #[.agg #[.bool b, .string s, .string t, .int .i64 e], .agg #[.bool c, .string p, .string q, .int .i64 g]] w fun r w' => r = .returned (.tuple #[.int .i64 k, .int .i64 err]) ∧ Below w.heap.size w w' := by
 have M1 := zH (qQ hs ht hx)
 have M2 := zH (qQ hp hq hy)
 have TT := zH hT
 obtain ⟨S, hS⟩ : ∃ S, sg (XN.mk b n d e) = S := ⟨_, rfl⟩
 obtain ⟨T, hTt⟩ : ∃ S, sg (XN.mk c m f g) = S := ⟨_, rfl⟩
 have HF := zH (fun w => signx b n d e s t S hs ht hx hS w)
 have HG := zH (fun w => signx c m f g p q T hp hq hy hTt w)
 have sb := sg_bd (XN.mk b n d e)
 rw [hS] at sb
 unfold cmpX at hr
 rw [hS, hTt] at hr
 by_cases h1 : S < T
 ·
  rw [if_pos h1] at hr
  cases hr
  have d1 : decide (S < T) = true := decide_eq_true h1
  clear hs ht hp hq hx hy hT hS hTt h1 sb
  obtain ⟨Ae, Af, B0⟩ := qW w (Obj.cells #[.bool b, .string s, .string t, .int .i64 e] 41) (Obj.cells #[.bool c, .string p, .string q, .int .i64 g] 41)
  go_enter Tryz.func24, Tryz.ntmps24
  go_wp2_with fail
  refine (xmay2 _ _ _ _ _ _ _ _ true true true M1.out M2.out rfl _ ((w.alloc (Obj.cells #[.bool b, .string s, .string t, .int .i64 e] 41)).alloc (Obj.cells #[.bool c, .string p, .string q, .int .i64 g] 41)) _ (by simp only [zX]) (zV TT.out B0)).mono ?_
  rintro r w1 ⟨rfl, b1⟩
  have B1 := zO B0 b1
  obtain ⟨Aa, Ab⟩ := yB b1 Ae Af
  clear b1 B0 Ae Af
  obtain ⟨Ag, Ah, Ai, Aj⟩ := zC Aa
  obtain ⟨Ak, Al, Am, An⟩ := zC Ab
  go_wp2_with fail
  obtain ⟨F, hF1, hF2⟩ := zQ w1
  have fx_0 := fun u => zE (zA (hF1 u) _ _ _ Aa) 0 _ rfl
  have fx_1 := fun u => zE (zA (hF1 u) _ _ _ Aa) 1 _ rfl
  have fx_2 := fun u => zE (zA (hF1 u) _ _ _ Aa) 2 _ rfl
  have fx_3 := fun u => zE (zA (hF1 u) _ _ _ Aa) 3 _ rfl
  have fy_0 := fun u => zE (zA (hF1 u) _ _ _ Ab) 0 _ rfl
  have fy_1 := fun u => zE (zA (hF1 u) _ _ _ Ab) 1 _ rfl
  have fy_2 := fun u => zE (zA (hF1 u) _ _ _ Ab) 2 _ rfl
  have fy_3 := fun u => zE (zA (hF1 u) _ _ _ Ab) 3 _ rfl
  refine zI F hF2 (by kernel_rfl) (by kernel_rfl) ?_
  repeat first | go_big_quiet_step (first | (go_at_call_of 47 (Value.agg #[.bool b, .string s, .string t, .int .i64 e]); exact zJ hF1 hF2 (HF.out _)) | (go_at_call_of 47 (Value.agg #[.bool c, .string p, .string q, .int .i64 g]); exact zJ hF1 hF2 (HG.out _)) | fail) | quiet_step (first | (go_at_call_of 47 (Value.agg #[.bool b, .string s, .string t, .int .i64 e]); exact zJ hF1 hF2 (HF.out _)) | (go_at_call_of 47 (Value.agg #[.bool c, .string p, .string q, .int .i64 g]); exact zJ hF1 hF2 (HG.out _)) | fail)
  refine wpQuiet_nil ?_
  rintro _ ⟨uW, rfl⟩
  have B2 := zO B1 (hF1 uW)
  obtain ⟨Ac, Ad⟩ := yB (hF1 uW) Aa Ab
  obtain ⟨w2, hw⟩ : ∃ V, F uW = V := ⟨_, rfl⟩
  rw [hw] at B2 Ac Ad
  try rw [hw]
  clear hw hF1 hF2 B1 fx_0 fx_1 fx_2 fx_3 fy_0 fy_1 fy_2 fy_3 Aa Ag Ah Ai Aj Ab Ak Al Am An
  clear F
  obtain ⟨Ao, Ap, Aq, Ar⟩ := zC Ac
  obtain ⟨As, At, Au, Av⟩ := zC Ad
  go_wp2
  go_ret2
  exact ⟨rfl, B2⟩
 rw [if_neg h1] at hr
 have d1 : decide (S < T) = false := decide_eq_false h1
 by_cases h2 : T < S
 ·
  rw [if_pos h2] at hr
  cases hr
  have d2 : decide (T < S) = true := decide_eq_true h2
  clear hs ht hp hq hx hy hT hS hTt h1 h2 sb
  obtain ⟨Ae, Af, B0⟩ := qW w (Obj.cells #[.bool b, .string s, .string t, .int .i64 e] 41) (Obj.cells #[.bool c, .string p, .string q, .int .i64 g] 41)
  go_enter Tryz.func24, Tryz.ntmps24
  go_wp2_with fail
  refine (xmay2 _ _ _ _ _ _ _ _ true true true M1.out M2.out rfl _ ((w.alloc (Obj.cells #[.bool b, .string s, .string t, .int .i64 e] 41)).alloc (Obj.cells #[.bool c, .string p, .string q, .int .i64 g] 41)) _ (by simp only [zX]) (zV TT.out B0)).mono ?_
  rintro r w1 ⟨rfl, b1⟩
  have B1 := zO B0 b1
  obtain ⟨Aa, Ab⟩ := yB b1 Ae Af
  clear b1 B0 Ae Af
  obtain ⟨Ag, Ah, Ai, Aj⟩ := zC Aa
  obtain ⟨Ak, Al, Am, An⟩ := zC Ab
  go_wp2_with fail
  obtain ⟨F, hF1, hF2⟩ := zQ w1
  have fx_0 := fun u => zE (zA (hF1 u) _ _ _ Aa) 0 _ rfl
  have fx_1 := fun u => zE (zA (hF1 u) _ _ _ Aa) 1 _ rfl
  have fx_2 := fun u => zE (zA (hF1 u) _ _ _ Aa) 2 _ rfl
  have fx_3 := fun u => zE (zA (hF1 u) _ _ _ Aa) 3 _ rfl
  have fy_0 := fun u => zE (zA (hF1 u) _ _ _ Ab) 0 _ rfl
  have fy_1 := fun u => zE (zA (hF1 u) _ _ _ Ab) 1 _ rfl
  have fy_2 := fun u => zE (zA (hF1 u) _ _ _ Ab) 2 _ rfl
  have fy_3 := fun u => zE (zA (hF1 u) _ _ _ Ab) 3 _ rfl
  refine zI F hF2 (by kernel_rfl) (by kernel_rfl) ?_
  repeat first | go_big_quiet_step (first | (go_at_call_of 47 (Value.agg #[.bool b, .string s, .string t, .int .i64 e]); exact zJ hF1 hF2 (HF.out _)) | (go_at_call_of 47 (Value.agg #[.bool c, .string p, .string q, .int .i64 g]); exact zJ hF1 hF2 (HG.out _)) | fail) | quiet_step (first | (go_at_call_of 47 (Value.agg #[.bool b, .string s, .string t, .int .i64 e]); exact zJ hF1 hF2 (HF.out _)) | (go_at_call_of 47 (Value.agg #[.bool c, .string p, .string q, .int .i64 g]); exact zJ hF1 hF2 (HG.out _)) | fail)
  refine wpQuiet_nil ?_
  rintro _ ⟨uW, rfl⟩
  have B2 := zO B1 (hF1 uW)
  obtain ⟨Ac, Ad⟩ := yB (hF1 uW) Aa Ab
  obtain ⟨w2, hw⟩ : ∃ V, F uW = V := ⟨_, rfl⟩
  rw [hw] at B2 Ac Ad
  try rw [hw]
  clear hw hF1 hF2 B1 fx_0 fx_1 fx_2 fx_3 fy_0 fy_1 fy_2 fy_3 Aa Ag Ah Ai Aj Ab Ak Al Am An
  clear F
  obtain ⟨Ao, Ap, Aq, Ar⟩ := zC Ac
  obtain ⟨As, At, Au, Av⟩ := zC Ad
  go_wp2
  go_ret2
  exact ⟨rfl, B2⟩
 rw [if_neg h2] at hr
 have d2 : decide (T < S) = false := decide_eq_false h2
 by_cases h3 : S = 0
 ·
  rw [if_pos h3] at hr
  cases hr
  have d3 : (S == 0) = true := by rw [h3]; rfl
  have d3' : decide (S = 0) = true := decide_eq_true h3
  clear hs ht hp hq hx hy hT hS hTt h1 h2 h3 sb
  obtain ⟨Ae, Af, B0⟩ := qW w (Obj.cells #[.bool b, .string s, .string t, .int .i64 e] 41) (Obj.cells #[.bool c, .string p, .string q, .int .i64 g] 41)
  go_enter Tryz.func24, Tryz.ntmps24
  go_wp2_with fail
  refine (xmay2 _ _ _ _ _ _ _ _ true true true M1.out M2.out rfl _ ((w.alloc (Obj.cells #[.bool b, .string s, .string t, .int .i64 e] 41)).alloc (Obj.cells #[.bool c, .string p, .string q, .int .i64 g] 41)) _ (by simp only [zX]) (zV TT.out B0)).mono ?_
  rintro r w1 ⟨rfl, b1⟩
  have B1 := zO B0 b1
  obtain ⟨Aa, Ab⟩ := yB b1 Ae Af
  clear b1 B0 Ae Af
  obtain ⟨Ag, Ah, Ai, Aj⟩ := zC Aa
  obtain ⟨Ak, Al, Am, An⟩ := zC Ab
  go_wp2_with fail
  obtain ⟨F, hF1, hF2⟩ := zQ w1
  have fx_0 := fun u => zE (zA (hF1 u) _ _ _ Aa) 0 _ rfl
  have fx_1 := fun u => zE (zA (hF1 u) _ _ _ Aa) 1 _ rfl
  have fx_2 := fun u => zE (zA (hF1 u) _ _ _ Aa) 2 _ rfl
  have fx_3 := fun u => zE (zA (hF1 u) _ _ _ Aa) 3 _ rfl
  have fy_0 := fun u => zE (zA (hF1 u) _ _ _ Ab) 0 _ rfl
  have fy_1 := fun u => zE (zA (hF1 u) _ _ _ Ab) 1 _ rfl
  have fy_2 := fun u => zE (zA (hF1 u) _ _ _ Ab) 2 _ rfl
  have fy_3 := fun u => zE (zA (hF1 u) _ _ _ Ab) 3 _ rfl
  refine zI F hF2 (by kernel_rfl) (by kernel_rfl) ?_
  repeat first | go_big_quiet_step (first | (go_at_call_of 47 (Value.agg #[.bool b, .string s, .string t, .int .i64 e]); exact zJ hF1 hF2 (HF.out _)) | (go_at_call_of 47 (Value.agg #[.bool c, .string p, .string q, .int .i64 g]); exact zJ hF1 hF2 (HG.out _)) | fail) | quiet_step (first | (go_at_call_of 47 (Value.agg #[.bool b, .string s, .string t, .int .i64 e]); exact zJ hF1 hF2 (HF.out _)) | (go_at_call_of 47 (Value.agg #[.bool c, .string p, .string q, .int .i64 g]); exact zJ hF1 hF2 (HG.out _)) | fail)
  refine wpQuiet_nil ?_
  rintro _ ⟨uW, rfl⟩
  have B2 := zO B1 (hF1 uW)
  obtain ⟨Ac, Ad⟩ := yB (hF1 uW) Aa Ab
  obtain ⟨w2, hw⟩ : ∃ V, F uW = V := ⟨_, rfl⟩
  rw [hw] at B2 Ac Ad
  try rw [hw]
  clear hw hF1 hF2 B1 fx_0 fx_1 fx_2 fx_3 fy_0 fy_1 fy_2 fy_3 Aa Ag Ah Ai Aj Ab Ak Al Am An
  clear F
  obtain ⟨Ao, Ap, Aq, Ar⟩ := zC Ac
  obtain ⟨As, At, Au, Av⟩ := zC Ad
  go_wp2
  go_ret2
  exact ⟨rfl, B2⟩
 rw [if_neg h3] at hr
 have d3 : (S == 0) = false := by rw [Bool.eq_false_iff]; intro h; exact h3 (by simpa using h)
 have d3' : decide (S = 0) = false := decide_eq_false h3
 have ha : -1048576 ≤ e ∧ e ≤ 1048576 ∧ -1048576 ≤ g ∧ g ≤ 1048576 := ⟨hx.2.2.1, hx.2.2.2.1, hy.2.2.1, hy.2.2.2.1⟩
 obtain ⟨A, hA⟩ : ∃ A, XMath.sA (XN.mk b n d e) (XN.mk c m f g) = A := ⟨_, rfl⟩
 obtain ⟨B, hB⟩ : ∃ A, XMath.sA (XN.mk c m f g) (XN.mk b n d e) = A := ⟨_, rfl⟩
 rw [hA, hB] at hr
 by_cases h4 : nl A ≤ 16384 ∧ nl B ≤ 16384
 ·
  rw [if_pos h4] at hr
  cases hr
  obtain ⟨x, hxa⟩ : ∃ x, yG A = x := ⟨_, rfl⟩
  obtain ⟨y, hyb⟩ : ∃ x, yG B = x := ⟨_, rfl⟩
  have K1 := zH (fun w => alikex b n d e s t c m f g p q x y 0 hs ht hp hq hx.1 hx.2.1 hy.1 hy.2.1 ha (by rw [hA, hB, if_pos h4, hxa, hyb]) w)
  obtain ⟨z, hz⟩ : ∃ z, xY A B = z := ⟨_, rfl⟩
  have zb := cmpv_bd A B
  rw [hz] at zb
  have K2 := zH (fun w => pn_cmp_ok A B x y z hxa hyb h4.1 h4.2 hz w)
  have n1 : IntKind.i64.wrap (S * z) = S * z := zK _ (by rcases sb with h | h | h <;> rcases zb with k | k | k <;> rw [h, k] <;> decide) (by rcases sb with h | h | h <;> rcases zb with k | k | k <;> rw [h, k] <;> decide)
  rw [hz]
  clear hs ht hp hq hx hy hT hS hTt h1 h2 h3 sb ha hA hB h4 hxa hyb hz zb
  obtain ⟨Ae, Af, B0⟩ := qW w (Obj.cells #[.bool b, .string s, .string t, .int .i64 e] 41) (Obj.cells #[.bool c, .string p, .string q, .int .i64 g] 41)
  go_enter Tryz.func24, Tryz.ntmps24
  go_wp2_with fail
  refine (xmay2 _ _ _ _ _ _ _ _ true true true M1.out M2.out rfl _ ((w.alloc (Obj.cells #[.bool b, .string s, .string t, .int .i64 e] 41)).alloc (Obj.cells #[.bool c, .string p, .string q, .int .i64 g] 41)) _ (by simp only [zX]) (zV TT.out B0)).mono ?_
  rintro r w1 ⟨rfl, b1⟩
  have B1 := zO B0 b1
  obtain ⟨Aa, Ab⟩ := yB b1 Ae Af
  clear b1 B0 Ae Af
  obtain ⟨Ag, Ah, Ai, Aj⟩ := zC Aa
  obtain ⟨Ak, Al, Am, An⟩ := zC Ab
  go_wp2_with fail
  obtain ⟨F, hF1, hF2⟩ := zQ w1
  have fx_0 := fun u => zE (zA (hF1 u) _ _ _ Aa) 0 _ rfl
  have fx_1 := fun u => zE (zA (hF1 u) _ _ _ Aa) 1 _ rfl
  have fx_2 := fun u => zE (zA (hF1 u) _ _ _ Aa) 2 _ rfl
  have fx_3 := fun u => zE (zA (hF1 u) _ _ _ Aa) 3 _ rfl
  have fy_0 := fun u => zE (zA (hF1 u) _ _ _ Ab) 0 _ rfl
  have fy_1 := fun u => zE (zA (hF1 u) _ _ _ Ab) 1 _ rfl
  have fy_2 := fun u => zE (zA (hF1 u) _ _ _ Ab) 2 _ rfl
  have fy_3 := fun u => zE (zA (hF1 u) _ _ _ Ab) 3 _ rfl
  refine zI F hF2 (by kernel_rfl) (by kernel_rfl) ?_
  repeat first | go_big_quiet_step (first | (go_at_call_of 47 (Value.agg #[.bool b, .string s, .string t, .int .i64 e]); exact zJ hF1 hF2 (HF.out _)) | (go_at_call_of 47 (Value.agg #[.bool c, .string p, .string q, .int .i64 g]); exact zJ hF1 hF2 (HG.out _)) | fail) | quiet_step (first | (go_at_call_of 47 (Value.agg #[.bool b, .string s, .string t, .int .i64 e]); exact zJ hF1 hF2 (HF.out _)) | (go_at_call_of 47 (Value.agg #[.bool c, .string p, .string q, .int .i64 g]); exact zJ hF1 hF2 (HG.out _)) | fail)
  refine wpQuiet_nil ?_
  rintro _ ⟨uW, rfl⟩
  have B2 := zO B1 (hF1 uW)
  obtain ⟨Ac, Ad⟩ := yB (hF1 uW) Aa Ab
  obtain ⟨w2, hw⟩ : ∃ V, F uW = V := ⟨_, rfl⟩
  rw [hw] at B2 Ac Ad
  try rw [hw]
  clear hw hF1 hF2 B1 fx_0 fx_1 fx_2 fx_3 fy_0 fy_1 fy_2 fy_3 Aa Ag Ah Ai Aj Ab Ak Al Am An
  clear F
  obtain ⟨Ao, Ap, Aq, Ar⟩ := zC Ac
  obtain ⟨As, At, Au, Av⟩ := zC Ad
  go_wp2_with fail
  refine (K1.out _).mono ?_
  rintro r w3 ⟨rfl, b3⟩
  have B3 := zO B2 b3
  obtain ⟨Aw, Ax⟩ := yB b3 Ac Ad
  clear b3 B2 Ac Ao Ap Aq Ar Ad As At Au Av
  obtain ⟨Ay, Az, AA, AB⟩ := zC Aw
  obtain ⟨AC, AD, AE, AF⟩ := zC Ax
  go_wp2_with fail
  refine (K2.out _).mono ?_
  rintro r w4 ⟨rfl, b4⟩
  have B4 := zO B3 b4
  obtain ⟨AG, AH⟩ := yB b4 Aw Ax
  clear b4 B3 Aw Ay Az AA AB Ax AC AD AE AF
  obtain ⟨AI, AJ, AK, AL⟩ := zC AG
  obtain ⟨AM, AN, AO, AP⟩ := zC AH
  go_wp2
  go_ret2
  exact ⟨rfl, B4⟩
 ·
  rw [if_neg h4] at hr
  cases hr
  have K1 := zH (fun w => alikex b n d e s t c m f g p q ⟨#[]⟩ ⟨#[]⟩ 4 hs ht hp hq hx.1 hx.2.1 hy.1 hy.2.1 ha (by rw [hA, hB, if_neg h4]) w)
  clear hs ht hp hq hx hy hT hS hTt h1 h2 h3 sb ha hA hB h4
  obtain ⟨Ae, Af, B0⟩ := qW w (Obj.cells #[.bool b, .string s, .string t, .int .i64 e] 41) (Obj.cells #[.bool c, .string p, .string q, .int .i64 g] 41)
  go_enter Tryz.func24, Tryz.ntmps24
  go_wp2_with fail
  refine (xmay2 _ _ _ _ _ _ _ _ true true true M1.out M2.out rfl _ ((w.alloc (Obj.cells #[.bool b, .string s, .string t, .int .i64 e] 41)).alloc (Obj.cells #[.bool c, .string p, .string q, .int .i64 g] 41)) _ (by simp only [zX]) (zV TT.out B0)).mono ?_
  rintro r w1 ⟨rfl, b1⟩
  have B1 := zO B0 b1
  obtain ⟨Aa, Ab⟩ := yB b1 Ae Af
  clear b1 B0 Ae Af
  obtain ⟨Ag, Ah, Ai, Aj⟩ := zC Aa
  obtain ⟨Ak, Al, Am, An⟩ := zC Ab
  go_wp2_with fail
  obtain ⟨F, hF1, hF2⟩ := zQ w1
  have fx_0 := fun u => zE (zA (hF1 u) _ _ _ Aa) 0 _ rfl
  have fx_1 := fun u => zE (zA (hF1 u) _ _ _ Aa) 1 _ rfl
  have fx_2 := fun u => zE (zA (hF1 u) _ _ _ Aa) 2 _ rfl
  have fx_3 := fun u => zE (zA (hF1 u) _ _ _ Aa) 3 _ rfl
  have fy_0 := fun u => zE (zA (hF1 u) _ _ _ Ab) 0 _ rfl
  have fy_1 := fun u => zE (zA (hF1 u) _ _ _ Ab) 1 _ rfl
  have fy_2 := fun u => zE (zA (hF1 u) _ _ _ Ab) 2 _ rfl
  have fy_3 := fun u => zE (zA (hF1 u) _ _ _ Ab) 3 _ rfl
  refine zI F hF2 (by kernel_rfl) (by kernel_rfl) ?_
  repeat first | go_big_quiet_step (first | (go_at_call_of 47 (Value.agg #[.bool b, .string s, .string t, .int .i64 e]); exact zJ hF1 hF2 (HF.out _)) | (go_at_call_of 47 (Value.agg #[.bool c, .string p, .string q, .int .i64 g]); exact zJ hF1 hF2 (HG.out _)) | fail) | quiet_step (first | (go_at_call_of 47 (Value.agg #[.bool b, .string s, .string t, .int .i64 e]); exact zJ hF1 hF2 (HF.out _)) | (go_at_call_of 47 (Value.agg #[.bool c, .string p, .string q, .int .i64 g]); exact zJ hF1 hF2 (HG.out _)) | fail)
  refine wpQuiet_nil ?_
  rintro _ ⟨uW, rfl⟩
  have B2 := zO B1 (hF1 uW)
  obtain ⟨Ac, Ad⟩ := yB (hF1 uW) Aa Ab
  obtain ⟨w2, hw⟩ : ∃ V, F uW = V := ⟨_, rfl⟩
  rw [hw] at B2 Ac Ad
  try rw [hw]
  clear hw hF1 hF2 B1 fx_0 fx_1 fx_2 fx_3 fy_0 fy_1 fy_2 fy_3 Aa Ag Ah Ai Aj Ab Ak Al Am An
  clear F
  obtain ⟨Ao, Ap, Aq, Ar⟩ := zC Ac
  obtain ⟨As, At, Au, Av⟩ := zC Ad
  go_wp2_with fail
  refine (K1.out _).mono ?_
  rintro r w3 ⟨rfl, b3⟩
  have B3 := zO B2 b3
  obtain ⟨Aw, Ax⟩ := yB b3 Ac Ad
  clear b3 B2 Ac Ao Ap Aq Ar Ad As At Au Av
  obtain ⟨Ay, Az, AA, AB⟩ := zC Aw
  obtain ⟨AC, AD, AE, AF⟩ := zC Ax
  go_wp2
  go_ret2
  exact ⟨rfl, B3⟩
end Go.Proofs.YtkblmpmkchkpjaaGreatDoor
namespace Go.Proofs.YtkblmpmkchkpjaaGreatDoor
set_option maxRecDepth 100000
set_option maxHeartbeats 40000000
open Go.RowKit WMath
theorem yP (w : World) (o : Obj) : Below w.heap.size w (w.alloc o) := (Below.refl _ _).alloc (Nat.le_refl _) _
theorem yD {a b c : World} (h : Below a.heap.size a b) (k : Below b.heap.size b c) : Below a.heap.size a c := h.trans (k.mono h.size)

def fcells : Array Value := #[.int .i64 32, .int .i64 24, .int .i64 127, .string ⟨#[115]⟩, .int .i64 64, .int .i64 53, .int .i64 1023, .string ⟨#[100]⟩, .int .i64 16, .int .i64 11, .int .i64 15, .string ⟨#[104]⟩, .int .i64 128, .int .i64 113, .int .i64 16383, .string ⟨#[113]⟩]
def yF (w : World) : Prop := ∀ i, i < 16 → w.cell? ⟨0, i, none⟩ = fcells[i]?
theorem fc_some (i : Nat) (h : i < 16) : ∃ v, fcells[i]? = some v := ⟨_, Array.getElem?_eq_getElem (show i < fcells.size from h)⟩
theorem zW {w w' : World} (h : yF w) (hb : Below w.heap.size w w') : yF w' := fun i hi => by
 obtain ⟨v, hv⟩ := fc_some i hi
 rw [hb.cell (p := ⟨0, i, none⟩) (World.block_lt_of_cell? w _ ((h i hi).trans hv))]
 exact h i hi
theorem qM {w : World} (h : yF w) (i : Nat) (v : Value) (hi : i < 16) (hv : fcells[i]? = some v) : w.cell? ⟨0, i, none⟩ = some v := (h i hi).trans hv

theorem fat_al {w : World} (h : yF w) (o : Obj) : yF (w.alloc o) := zW h (yP w o)
theorem fat_dr {w : World} (h : yF w) : yF w.drew := h

def fW (f : Int) : Int := if f = 0 then 32 else if f = 1 then 64 else if f = 2 then 16 else if f = 3 then 128 else 0
def fP (f : Int) : Int := if f = 0 then 24 else if f = 1 then 53 else if f = 2 then 11 else if f = 3 then 113 else 0
def fE (f : Int) : Int := if f = 0 then 127 else if f = 1 then 1023 else if f = 2 then 15 else if f = 3 then 16383 else 0
def fN (f : Int) : ByteArray := if f = 0 then ⟨#[115]⟩ else if f = 1 then ⟨#[100]⟩ else if f = 2 then ⟨#[104]⟩ else if f = 3 then ⟨#[113]⟩ else ⟨#[]⟩
def fR (f : Int) : Array Value := #[.int .i64 (fW f), .int .i64 (fP f), .int .i64 (fE f), .string (fN f)]
def fC (f : Int) : Int := if f = 0 ∨ f = 1 ∨ f = 2 ∨ f = 3 then 0 else 2

theorem f_cases (f : Int) (h0 : 0 ≤ f) : f = 0 ∨ f = 1 ∨ f = 2 ∨ f = 3 ∨ 4 ≤ f := by omega

theorem s_check (f : Int) (h0 : 0 ≤ f) (h1 : f ≤ 255) (w : World) :
  Calls Tryz.prog 37 #[.int .u8 f] w fun e w' => e = .returned (.int .i64 (fC f)) ∧ w' = w := by
 by_cases h : 4 ≤ f
 ·
  have e : fC f = 2 := by unfold fC; rw [if_neg (by omega)]
  rw [e]
  have hd : decide ((4 : Int) ≤ f) = true := by simp [h]
  go_enter Tryz.func37, Tryz.ntmps37
  go_wp2
  go_ret
  exact ⟨rfl, rfl⟩
 ·
  have e : fC f = 0 := by unfold fC; rw [if_pos (by omega)]
  rw [e]
  have hd : decide ((4 : Int) ≤ f) = false := by simp; omega
  go_enter Tryz.func37, Tryz.ntmps37
  go_wp2
  go_ret
  exact ⟨rfl, rfl⟩

theorem xI (f c : Int) (h0 : 0 ≤ f) (h1 : f ≤ 255) (hc : fC f = c) (w : World) :
  Calls Tryz.prog 37 #[.int .u8 f] w fun e w' => e = .returned (.int .i64 c) ∧ w' = w := by
 subst hc; exact s_check f h0 h1 w

theorem s_checkMode (f : Int) (w : World) :
  Calls Tryz.prog 112 #[.int .u8 f] w fun e w' => e = .returned (.int .i64 (if f ≤ 4 then 0 else 2)) ∧ w' = w := by
 by_cases h : 4 < f
 ·
  rw [if_neg (by omega)]
  go_enter Tryz.func112, Tryz.ntmps112
  go_wp2
  go_ret
  exact ⟨rfl, rfl⟩
 ·
  rw [if_pos (by omega)]
  go_enter Tryz.func112, Tryz.ntmps112
  go_wp2
  go_ret
  exact ⟨rfl, rfl⟩

theorem s_of (f : Int) (h0 : 0 ≤ f) (h1 : f ≤ 255) (w : World) (hT : yF w) :
  Calls Tryz.prog 167 #[.int .u8 f] w fun e w' => e = .returned (.agg #[.int .i64 (fW f), .int .i64 (fP f), .int .i64 (fE f), .string (fN f)]) ∧ w' = w.alloc (.cells (fR f) 200) := by
 have hB := yP w (.cells #[.int .i64 0, .int .i64 0, .int .i64 0, .string ⟨#[]⟩] 200)
 have T2 := zW hT hB
 rcases f_cases f h0 with rfl | rfl | rfl | rfl | h
 ·
  have c0 := qM T2 0 (.int .i64 32) (by decide) rfl
  have c1 := qM T2 1 (.int .i64 24) (by decide) rfl
  have c2 := qM T2 2 (.int .i64 127) (by decide) rfl
  have c3 := qM T2 3 (.string ⟨#[115]⟩) (by decide) rfl
  clear T2 hT
  go_enter Tryz.func167, Tryz.ntmps167
  go_wp2_with fail
  refine (xI 0 0 (by omega) (by omega) rfl _).mono ?_
  rintro r w' ⟨rfl, rfl⟩
  go_wp2
  exact bodyPost_ret (v := .agg #[.int .i64 32, .int .i64 24, .int .i64 127, .string ⟨#[115]⟩]) (by simp [results, Tryz.results167, go_sem]) rfl ⟨rfl, rfl⟩
 ·
  have c0 := qM T2 4 (.int .i64 64) (by decide) rfl
  have c1 := qM T2 5 (.int .i64 53) (by decide) rfl
  have c2 := qM T2 6 (.int .i64 1023) (by decide) rfl
  have c3 := qM T2 7 (.string ⟨#[100]⟩) (by decide) rfl
  clear T2 hT
  go_enter Tryz.func167, Tryz.ntmps167
  go_wp2_with fail
  refine (xI 1 0 (by omega) (by omega) rfl _).mono ?_
  rintro r w' ⟨rfl, rfl⟩
  go_wp2
  exact bodyPost_ret (v := .agg #[.int .i64 64, .int .i64 53, .int .i64 1023, .string ⟨#[100]⟩]) (by simp [results, Tryz.results167, go_sem]) rfl ⟨rfl, rfl⟩
 ·
  have c0 := qM T2 8 (.int .i64 16) (by decide) rfl
  have c1 := qM T2 9 (.int .i64 11) (by decide) rfl
  have c2 := qM T2 10 (.int .i64 15) (by decide) rfl
  have c3 := qM T2 11 (.string ⟨#[104]⟩) (by decide) rfl
  clear T2 hT
  go_enter Tryz.func167, Tryz.ntmps167
  go_wp2_with fail
  refine (xI 2 0 (by omega) (by omega) rfl _).mono ?_
  rintro r w' ⟨rfl, rfl⟩
  go_wp2
  exact bodyPost_ret (v := .agg #[.int .i64 16, .int .i64 11, .int .i64 15, .string ⟨#[104]⟩]) (by simp [results, Tryz.results167, go_sem]) rfl ⟨rfl, rfl⟩
 ·
  have c0 := qM T2 12 (.int .i64 128) (by decide) rfl
  have c1 := qM T2 13 (.int .i64 113) (by decide) rfl
  have c2 := qM T2 14 (.int .i64 16383) (by decide) rfl
  have c3 := qM T2 15 (.string ⟨#[113]⟩) (by decide) rfl
  clear T2 hT
  go_enter Tryz.func167, Tryz.ntmps167
  go_wp2_with fail
  refine (xI 3 0 (by omega) (by omega) rfl _).mono ?_
  rintro r w' ⟨rfl, rfl⟩
  go_wp2
  exact bodyPost_ret (v := .agg #[.int .i64 128, .int .i64 113, .int .i64 16383, .string ⟨#[113]⟩]) (by simp [results, Tryz.results167, go_sem]) rfl ⟨rfl, rfl⟩
 ·
  have hd : decide ((4 : Int) ≤ f) = true := by simp [h]
  have e0 : fW f = 0 := by unfold fW; rw [if_neg (by omega), if_neg (by omega), if_neg (by omega), if_neg (by omega)]
  have e1 : fP f = 0 := by unfold fP; rw [if_neg (by omega), if_neg (by omega), if_neg (by omega), if_neg (by omega)]
  have e2 : fE f = 0 := by unfold fE; rw [if_neg (by omega), if_neg (by omega), if_neg (by omega), if_neg (by omega)]
  have e3 : fN f = ⟨#[]⟩ := by unfold fN; rw [if_neg (by omega), if_neg (by omega), if_neg (by omega), if_neg (by omega)]
  have e4 : fC f = 2 := by unfold fC; rw [if_neg (by omega)]
  have e5 : fR f = #[.int .i64 0, .int .i64 0, .int .i64 0, .string ⟨#[]⟩] := by unfold fR; rw [e0, e1, e2, e3]
  rw [e0, e1, e2, e3, e5]
  clear T2 hT e0 e1 e2 e3 e5
  go_enter Tryz.func167, Tryz.ntmps167
  go_wp2_with fail
  refine (xI f 2 (by omega) (by omega) e4 _).mono ?_
  rintro r w' ⟨rfl, rfl⟩
  go_wp2
  exact bodyPost_ret (v := .agg #[.int .i64 0, .int .i64 0, .int .i64 0, .string ⟨#[]⟩]) (by simp [results, Tryz.results167, go_sem]) rfl ⟨rfl, rfl⟩

theorem s_of_is (f w0 p0 m0 : Int) (n0 : ByteArray) (h0 : 0 ≤ f) (h1 : f ≤ 255) (hw : fW f = w0) (hp : fP f = p0) (he : fE f = m0) (hn : fN f = n0) (w : World) (hT : yF w) :
  Calls Tryz.prog 167 #[.int .u8 f] w fun e w' => e = .returned (.agg #[.int .i64 w0, .int .i64 p0, .int .i64 m0, .string n0]) ∧ w' = w.alloc (.cells (fR f) 200) := by
 subst hw hp he hn
 exact s_of f h0 h1 w hT

theorem fld0 (a b c d : Value) (w : World) : (Instr.field 200 (.agg #[a, b, c, d]) 0).run Tryz.prog w = .ok a w := by kernel_rfl
theorem fld1 (a b c d : Value) (w : World) : (Instr.field 200 (.agg #[a, b, c, d]) 1).run Tryz.prog w = .ok b w := by kernel_rfl
theorem fld2 (a b c d : Value) (w : World) : (Instr.field 200 (.agg #[a, b, c, d]) 2).run Tryz.prog w = .ok c w := by kernel_rfl
theorem s_width (f v : Int) (h0 : 0 ≤ f) (h1 : f ≤ 255) (hv : fW f = v) (w : World) (hT : yF w) :
  Calls Tryz.prog 79 #[.int .u8 f] w fun e w' => e = .returned (.int .i64 v) ∧ w' = w.alloc (.cells (fR f) 200) := by
 have hl := fld0
 go_enter Tryz.func79, Tryz.ntmps79
 go_wp2_with fail
 refine (s_of_is f v _ _ _ h0 h1 hv rfl rfl rfl _ hT).mono ?_
 rintro r w2 ⟨rfl, rfl⟩
 go_wp2
 go_ret
 exact ⟨rfl, rfl⟩
theorem s_precision (f v : Int) (h0 : 0 ≤ f) (h1 : f ≤ 255) (hv : fP f = v) (w : World) (hT : yF w) :
  Calls Tryz.prog 165 #[.int .u8 f] w fun e w' => e = .returned (.int .i64 v) ∧ w' = w.alloc (.cells (fR f) 200) := by
 have hl := fld1
 go_enter Tryz.func165, Tryz.ntmps165
 go_wp2_with fail
 refine (s_of_is f _ v _ _ h0 h1 rfl hv rfl rfl _ hT).mono ?_
 rintro r w2 ⟨rfl, rfl⟩
 go_wp2
 go_ret
 exact ⟨rfl, rfl⟩
theorem s_emax (f v : Int) (h0 : 0 ≤ f) (h1 : f ≤ 255) (hv : fE f = v) (w : World) (hT : yF w) :
  Calls Tryz.prog 117 #[.int .u8 f] w fun e w' => e = .returned (.int .i64 v) ∧ w' = w.alloc (.cells (fR f) 200) := by
 have hl := fld2
 go_enter Tryz.func117, Tryz.ntmps117
 go_wp2_with fail
 refine (s_of_is f _ _ v _ h0 h1 rfl rfl hv rfl _ hT).mono ?_
 rintro r w2 ⟨rfl, rfl⟩
 go_wp2
 go_ret
 exact ⟨rfl, rfl⟩

theorem s_emin (f m v : Int) (h0 : 0 ≤ f) (h1 : f ≤ 255) (hm : fE f = m) (hv : (if fC f = 0 then 1 - m else 0) = v) (w : World) (hT : yF w) :
  Calls Tryz.prog 115 #[.int .u8 f] w fun e w' => e = .returned (.int .i64 v) ∧ Below w.heap.size w w' := by
 obtain ⟨c, hc⟩ : ∃ c, fC f = c := ⟨_, rfl⟩
 rw [hc] at hv
 have hm2 : 0 ≤ m ∧ m ≤ 16383 := by rw [← hm]; unfold fE; split <;> (try split) <;> (try split) <;> (try split) <;> omega
 by_cases h : c = 0
 ·
  rw [if_pos h] at hv
  subst h hv
  have hw : IntKind.i64.wrap (1 - m) = 1 - m := by rw [IntKind.wrap_i64]; omega
  go_enter Tryz.func115, Tryz.ntmps115
  go_wp2_with fail
  refine (xI f 0 h0 h1 hc _).mono ?_
  rintro r w' ⟨rfl, rfl⟩
  go_wp2_with fail
  refine (s_emax f m h0 h1 hm _ hT).mono ?_
  rintro r w2 ⟨rfl, rfl⟩
  go_wp2
  go_ret
  exact ⟨rfl, yP _ _⟩
 ·
  have hd : (c != 0) = true := by simp [h]
  rw [if_neg h] at hv
  subst hv
  go_enter Tryz.func115, Tryz.ntmps115
  go_wp2_with fail
  refine (xI f c h0 h1 hc _).mono ?_
  rintro r w' ⟨rfl, rfl⟩
  go_wp2
  go_ret
  exact ⟨rfl, Below.refl _ _⟩

def rHi (x n : Int) : Int := bits .or .u64 (IntKind.u64.wrap (x * 2 ^ min (IntKind.u64.wrap (n - 64)).toNat 64)) (x / 2 ^ min (IntKind.u64.wrap (64 - n)).toNat 64)
def rLo (x n : Int) : Int := IntKind.u64.wrap (x * 2 ^ min n.toNat 64)

theorem zL {w : World} {g : Nat} {T : TypeId} {c : Array Value} (row : w.heap[g]? = some (.cells c T)) (k : Nat) (v : Value) (h : c[k]? = some v) : w.cell? ⟨g, k, none⟩ = some v := by
 simp [World.cell?, row, h]
theorem zY {n : Nat} {w wr : World} {b : Nat} (h : Below n w wr) (hb : n ≤ b) (v0 v1 : Value) : Below n w ((wr.setCell ⟨b, 0, none⟩ v0).setCell ⟨b, 1, none⟩ v1) := (h.setCell (by exact hb) _).setCell (by exact hb) _
theorem yJ {w : World} {b : Nat} {c0 c1 : Value} {T : TypeId} (h : w.heap[b]? = some (.cells #[c0, c1] T)) (v0 v1 : Value) :
  ((w.setCell ⟨b, 0, none⟩ v0).setCell ⟨b, 1, none⟩ v1).heap[b]? = some (.cells #[v0, v1] T) := by
 rw [z6 (z6 h)]; rfl
theorem yH {w : World} {b : Nat} {c0 c1 : Value} {T : TypeId} (h : w.heap[b]? = some (.cells #[c0, c1] T)) (v0 v1 : Value) :
  ((w.setCell ⟨b, 0, none⟩ v0).setCell ⟨b, 1, none⟩ v1).cell? ⟨b, 0, none⟩ = some v0 ∧ ((w.setCell ⟨b, 0, none⟩ v0).setCell ⟨b, 1, none⟩ v1).cell? ⟨b, 1, none⟩ = some v1 := by
 have r := yJ h v0 v1
 exact ⟨zL r 0 _ rfl, zL r 1 _ rfl⟩
theorem last7 (w : World) (o : Obj) : (w.alloc o).heap[w.heap.size]? = some o := heap_alloc_last w o

def b2 (a b : Int) : Array Value := #[.int .u64 a, .int .u64 b]

theorem s_raised (x n H L : Int) (h0 : 0 ≤ n) (h1 : n ≤ 18446744073709551615) (hH : rHi x n = H) (hL : rLo x n = L) (w : World) :
  Calls Tryz.prog 209 #[.int .u64 x, .int .u64 n] w fun e w' => e = .returned (.agg #[.int .u64 H, .int .u64 L]) ∧ w' = w.alloc (.cells #[.int .u64 H, .int .u64 L] 25) := by
 obtain ⟨m, rfl⟩ := Int.eq_ofNat_of_zero_le h0
 subst hH hL
 go_enter Tryz.func209, Tryz.ntmps209
 go_wp2
 exact bodyPost_ret (v := .agg #[.int .u64 (rHi x m), .int .u64 (rLo x m)]) (by simp [results, Tryz.results209, go_sem, rHi, rLo]) rfl ⟨rfl, by simp [rHi, rLo]⟩

theorem s_join (a b c d H L : Int) (hH : bits .or .u64 a c = H) (hL : bits .or .u64 b d = L) (w : World) :
  Calls Tryz.prog 208 #[.agg #[.int .u64 a, .int .u64 b], .agg #[.int .u64 c, .int .u64 d]] w fun e w' => e = .returned (.agg #[.int .u64 H, .int .u64 L]) ∧ w' = ((w.alloc (.cells #[.int .u64 a, .int .u64 b] 25)).alloc (.cells #[.int .u64 c, .int .u64 d] 25)).alloc (.cells #[.int .u64 H, .int .u64 L] 25) := by
 go_enter Tryz.func208, Tryz.ntmps208
 go_wp2
 exact bodyPost_ret (v := .agg #[.int .u64 H, .int .u64 L]) (by simp [results, Tryz.results208, go_sem]) rfl ⟨rfl, rfl⟩

theorem s_ones (n H L : Int) (h0 : 0 ≤ n) (h1 : n ≤ 18446744073709551615) (hH : rHi 1 n = H) (hL : rLo 1 n = L) (K M : Int) (hK : (if L = 0 then IntKind.u64.wrap (H - 1) else H) = K) (hM : IntKind.u64.wrap (L - 1) = M) (w : World) :
  Calls Tryz.prog 125 #[.int .u64 n] w fun e w' => e = .returned (.agg #[.int .u64 K, .int .u64 M]) ∧ Below w.heap.size w w' := by
 by_cases hz : L = 0
 ·
  have hd : (L == 0) = true := by simp [hz]
  rw [if_pos hz] at hK
  subst hz
  rw [show (0 : Int) - 1 = -1 by decide] at hM
  go_enter Tryz.func125, Tryz.ntmps125
  go_wp2_with fail
  refine (s_raised 1 n H _ h0 h1 hH hL _).mono ?_
  rintro r w2 ⟨rfl, rfl⟩
  go_wp2
  exact bodyPost_ret (v := .agg #[.int .u64 K, .int .u64 M]) (by simp [results, Tryz.results125, go_sem]) rfl ⟨rfl, (((Below.refl _ _).alloc (Nat.le_refl _) _).alloc (by simp only [zX]; omega) _).alloc (by simp only [zX]; omega) _⟩
 ·
  have hd : (L == 0) = false := by simp [hz]
  rw [if_neg hz] at hK
  subst hK
  go_enter Tryz.func125, Tryz.ntmps125
  go_wp2_with fail
  refine (s_raised 1 n H _ h0 h1 hH hL _).mono ?_
  rintro r w2 ⟨rfl, rfl⟩
  go_wp2
  exact bodyPost_ret (v := .agg #[.int .u64 H, .int .u64 M]) (by simp [results, Tryz.results125, go_sem]) rfl ⟨rfl, (((Below.refl _ _).alloc (Nat.le_refl _) _).alloc (by simp only [zX]; omega) _).alloc (by simp only [zX]; omega) _⟩

theorem s_fraction (f p v : Int) (h0 : 0 ≤ f) (h1 : f ≤ 255) (hp : fP f = p) (hv : IntKind.u64.wrap (p - 1) = v) (w : World) (hT : yF w) :
  Calls Tryz.prog 210 #[.int .u8 f] w fun e w' => e = .returned (.int .u64 v) ∧ w' = w.alloc (.cells (fR f) 200) := by
 have hm2 : 0 ≤ p ∧ p ≤ 113 := by rw [← hp]; unfold fP; split <;> (try split) <;> (try split) <;> (try split) <;> omega
 have hw : IntKind.i64.wrap (p - 1) = p - 1 := by rw [IntKind.wrap_i64]; omega
 go_enter Tryz.func210, Tryz.ntmps210
 go_wp2_with fail
 refine (s_precision f p h0 h1 hp _ hT).mono ?_
 rintro r w2 ⟨rfl, rfl⟩
 go_wp2
 go_ret
 exact ⟨rfl, rfl⟩

theorem s_top (f q p d v : Int) (h0 : 0 ≤ f) (h1 : f ≤ 255) (hq : fW f = q) (hp : fP f = p) (hd : q - p = d) (h2 : 0 ≤ d) (hv : IntKind.u64.wrap (IntKind.u64.wrap (2 ^ min d.toNat 64) - 1) = v) (w : World) (hT : yF w) :
  Calls Tryz.prog 178 #[.int .u8 f] w fun e w' => e = .returned (.int .u64 v) ∧ Below w.heap.size w w' := by
 have hm1 : 0 ≤ q ∧ q ≤ 128 := by rw [← hq]; unfold fW; split <;> (try split) <;> (try split) <;> (try split) <;> omega
 have hm2 : 0 ≤ p ∧ p ≤ 113 := by rw [← hp]; unfold fP; split <;> (try split) <;> (try split) <;> (try split) <;> omega
 go_enter Tryz.func178, Tryz.ntmps178
 go_wp2_with fail
 refine (s_width f q h0 h1 hq _ hT).mono ?_
 rintro r w2 ⟨rfl, rfl⟩
 go_wp2_with fail
 refine (s_precision f p h0 h1 hp _ (zW hT (yP _ _))).mono ?_
 rintro r w3 ⟨rfl, rfl⟩
 go_wp2
 go_ret
 exact ⟨rfl, yD (yP _ _) (yP _ _)⟩

def pV (f : Int) : Nat := (fP f).toNat - 1
def wV (f : Int) : Nat := (fW f).toNat - 1
def oV (f : Int) : Nat := 2 * (fE f).toNat + 1
def yQ (f : Int) (neg : Bool) (e t : Nat) : Nat := e * 2 ^ pV f + t + (if neg then 2 ^ wV f else 0)
def bv7 (v : Nat) : Nat × Nat := (v / 18446744073709551616, v % 18446744073709551616)
def eInf (f : Int) (neg : Bool) : Nat := yQ f neg (oV f) 0
def jA (f : Int) (neg : Bool) : Nat := yQ f neg 0 0
def qH (f : Int) (neg : Bool) : Nat := yQ f neg (oV f - 1) (2 ^ pV f - 1)
def xH (f : Int) : Prop := f = 0 ∨ f = 1 ∨ f = 2 ∨ f = 3
theorem yY {f : Int} (h : xH f) : 0 ≤ f ∧ f ≤ 255 ∧ fC f = 0 ∧ 0 ≤ fW f - fP f := by
 rcases h with rfl | rfl | rfl | rfl <;> decide +kernel

def R7 (w : World) (I J : Int) (w5 : World) (g : Nat) : Prop := Below w.heap.size w w5 ∧ w5.heap[g]? = some (.cells #[.int .u64 I, .int .u64 J] 25) ∧ w5.heap[w.heap.size + 1]? = some (.cells #[.int .u64 0, .int .u64 0] 25) ∧ w.heap.size + 1 < g
theorem cut7 {G C : Prop} (h : G → C) (k : G) : C := h k
theorem bel_al {w W : World} (h : Below w.heap.size w W) (o : Obj) : Below w.heap.size w (W.alloc o) := yD h (yP _ _)
theorem bel_dr {w W : World} (h : Below w.heap.size w W) : Below w.heap.size w W.drew := h.drew
theorem qU {W : World} {b : Nat} {o : Obj} (h : W.heap[b]? = some o) (o' : Obj) : (W.alloc o').heap[b]? = some o := by
 rw [yZ W b o' (Array.getElem?_eq_some_iff.1 h).1]; exact h
theorem row_dr {W : World} {b : Nat} {o : Obj} (h : W.heap[b]? = some o) : W.drew.heap[b]? = some o := h
theorem row_last {W : World} {b : Nat} {o : Obj} (h : b = W.heap.size) : (W.alloc o).heap[b]? = some o := by subst h; exact heap_alloc_last W o
theorem gen7 {X : Act → World → Prop} {t0 t1 t2 t3 t4 t5 t6 t7 t8 t10 t11 t12 t13 t14 t15 t16 t17 t18 t19 t20 t21 t22 t23 t24 t25 t26 t27 t28 : Value} {d : List Deferred} {w W : World} {I J : Int} {G : Nat}
  (key : ∀ w5 g, R7 w I J w5 g → X ⟨#[t0, t1, t2, t3, t4, t5, t6, t7, t8, .pointer (some ⟨g, 0, none⟩), t10, t11, t12, t13, t14, t15, t16, t17, t18, t19, t20, t21, t22, t23, t24, t25, t26, t27, t28], d⟩ w5) (r : R7 w I J W G) :
  X ⟨#[t0, t1, t2, t3, t4, t5, t6, t7, t8, .pointer (some ⟨G, 0, none⟩), t10, t11, t12, t13, t14, t15, t16, t17, t18, t19, t20, t21, t22, t23, t24, t25, t26, t27, t28], d⟩ W := key W G r

theorem s_pack_any (f x a b p n H L I J q m M N I' J' : Int) (neg : Bool) (h0 : 0 ≤ f) (h1 : f ≤ 255) (hc : fC f = 0) (hp : fP f = p) (hn : IntKind.u64.wrap (p - 1) = n) (n0 : 0 ≤ n) (n1 : n ≤ 18446744073709551615)
  (hH : rHi x n = H) (hL : rLo x n = L) (hI : bits .or .u64 H a = I) (hJ : bits .or .u64 L b = J) (hq : fW f = q) (hm : q - 1 = m) (m0 : 0 ≤ m) (m1 : m ≤ 127) (hM : rHi 1 m = M) (hN : rLo 1 m = N) (hI' : bits .or .u64 I M = I') (hJ' : bits .or .u64 J N = J') (w : World) (hT : yF w) :
  Calls Tryz.prog 124 #[.int .u8 f, .bool neg, .int .u64 x, .agg #[.int .u64 a, .int .u64 b]] w fun e w' => e = .returned (.agg #[.int .u64 (if neg then I' else I), .int .u64 (if neg then J' else J)]) ∧ Below w.heap.size w w' := by
 have k1 : zS (∀ w : World, yF w → Calls Tryz.prog 210 #[.int .u8 f] w fun e w' => e = .returned (.int .u64 n) ∧ w' = w.alloc (.cells (fR f) 200)) := zH (fun w hw => s_fraction f p n h0 h1 hp hn w hw)
 have k2 := zH (s_raised x n H L n0 n1 hH hL)
 have k3 := zH (s_join H L a b I J hI hJ)
 have k0 := zH (xI f 0 h0 h1 hc)
 have k4 : zS (∀ w : World, yF w → Calls Tryz.prog 79 #[.int .u8 f] w fun e w' => e = .returned (.int .i64 q) ∧ w' = w.alloc (.cells (fR f) 200)) := zH (fun w hw => s_width f q h0 h1 hq w hw)
 have k5 := zH (s_raised 1 m M N m0 (by omega) hM hN)
 have k6 := zH (s_join I J M N I' J' hI' hJ')
 have T0 := zH hT
 have TT := zH (zW hT (yD (yP w (.cells #[.int .u64 a, .int .u64 b] 25)) (yP _ (.cells #[.int .u64 0, .int .u64 0] 25))))
 have e1 : IntKind.i64.wrap (q - 1) = m := by rw [hm, IntKind.wrap_i64]; omega
 have e2 : IntKind.u64.wrap m = m := by rw [IntKind.wrap_u64]; omega
 have e3 : IntKind.i64.wrap m = m := by rw [IntKind.wrap_i64]; omega
 clear hT hp hn hH hL hI hJ hc h0 h1 n0 n1 hq hM hN hI' hJ' m0 m1 hm
 go_enter Tryz.func124, Tryz.ntmps124
 go_wp2_with fail
 refine (k0.out _).mono ?_
 rintro r w' ⟨rfl, rfl⟩
 go_wp2_with fail
 apply cut7
 ·
  intro key
  go_region_with (first
   | (go_at_call 210; refine (k1.out _ (by repeat (first | exact TT.out | refine fat_al ?_ _ | refine fat_dr ?_))).mono ?_; rintro r w2 ⟨rfl, rfl⟩)
   | (go_at_call 209; refine (k2.out _).mono ?_; rintro r w2 ⟨rfl, rfl⟩)
   | (go_at_call 208; refine (k3.out _).mono ?_; rintro r w2 ⟨rfl, rfl⟩))
  all_goals
   refine gen7 (w := w) (I := I) (J := J) key ⟨?_, ?_, ?_, ?_⟩
   ·
    repeat (first | exact Below.refl _ _ | refine bel_dr ?_ | refine bel_al ?_ _)
   ·
    repeat (first | refine row_dr ?_ | (refine row_last ?_; simp only [zX]; done) | refine qU ?_ _)
   ·
    repeat (first | refine row_dr ?_ | (refine row_last ?_; simp only [zX]; done) | refine qU ?_ _)
   ·
    omega
 rintro w5 g ⟨B5, R5, S5, hg⟩
 have F5 := zH (zW T0.out B5)
 have c50 := zL R5 0 _ rfl
 have c51 := zL R5 1 _ rfl
 cases neg
 ·
  have q0 := fz (k := 0) S5
  have q1 := fz (k := 1) S5
  have d0 := zL S5 0 _ rfl
  have d1 := zL S5 1 _ rfl
  obtain ⟨E0, E1⟩ := yH S5 (.int .u64 I) (.int .u64 J)
  go_wp2
  exact bodyPost_ret (v := .agg #[.int .u64 I, .int .u64 J]) (by simp [results, Tryz.results124, go_sem, E0, E1]) rfl ⟨rfl, zY B5 (by omega) _ _⟩
 ·
  have r1 := qU R5 (.cells (fR f) 200)
  have r2 := qU r1 (.cells #[.int .u64 M, .int .u64 N] 25)
  have r5 := qU (qU (qU r2 (.cells #[.int .u64 I, .int .u64 J] 25)) (.cells #[.int .u64 M, .int .u64 N] 25)) (.cells #[.int .u64 I', .int .u64 J'] 25)
  have s5 := qU (qU (qU (qU (qU S5 (.cells (fR f) 200)) (.cells #[.int .u64 M, .int .u64 N] 25)) (.cells #[.int .u64 I, .int .u64 J] 25)) (.cells #[.int .u64 M, .int .u64 N] 25)) (.cells #[.int .u64 I', .int .u64 J'] 25)
  have Q5 : zS (R7 w I' J' _ g) := zH ⟨zY (bel_al (bel_al (bel_al (bel_al (bel_al B5 _) _) _) _) _) (by omega) (.int .u64 I') (.int .u64 J'), yJ r5 _ _, by rw [zG (by omega), zG (by omega)]; exact s5, hg⟩
  have c10 := zL r1 0 _ rfl
  have c11 := zL r1 1 _ rfl
  have c20 := zL r2 0 _ rfl
  have c21 := zL r2 1 _ rfl
  have q0 := fz (k := 0) r5
  have q1 := fz (k := 1) r5
  have e50 := zL r5 0 _ rfl
  have e51 := zL r5 1 _ rfl
  clear r1 r2 r5 s5
  go_wp2_with fail
  apply cut7
  ·
   intro key
   go_region_with (first
    | (go_at_call 79; refine (k4.out _ (by repeat (first | exact F5.out | refine fat_al ?_ _ | refine fat_dr ?_))).mono ?_; rintro r w2 ⟨rfl, rfl⟩)
    | (go_at_call 209; refine (k5.out _).mono ?_; rintro r w2 ⟨rfl, rfl⟩)
    | (go_at_call 208; refine (k6.out _).mono ?_; rintro r w2 ⟨rfl, rfl⟩))
   all_goals
    refine gen7 (w := w) (I := I') (J := J') key ?_
    exact ⟨bel_dr Q5.out.1, row_dr Q5.out.2.1, row_dr Q5.out.2.2.1, hg⟩
  clear R5 S5 F5 c50 c51 c10 c11 c20 c21 q0 q1 e50 e51 B5
  rintro w6 g6 ⟨B6, R6, S6, hg6⟩
  have c60 := zL R6 0 _ rfl
  have c61 := zL R6 1 _ rfl
  have q0 := fz (k := 0) S6
  have q1 := fz (k := 1) S6
  have d0 := zL S6 0 _ rfl
  have d1 := zL S6 1 _ rfl
  obtain ⟨E0, E1⟩ := yH S6 (.int .u64 I') (.int .u64 J')
  go_wp2
  exact bodyPost_ret (v := .agg #[.int .u64 I', .int .u64 J']) (by simp [results, Tryz.results124, go_sem, E0, E1]) rfl ⟨rfl, zY B6 (by omega) _ _⟩
def pkHi (f : Int) (neg : Bool) (x a : Int) : Int := if neg then bits .or .u64 (bits .or .u64 (rHi x (IntKind.u64.wrap (fP f - 1))) a) (rHi 1 (fW f - 1)) else bits .or .u64 (rHi x (IntKind.u64.wrap (fP f - 1))) a
def pkLo (f : Int) (neg : Bool) (x b : Int) : Int := if neg then bits .or .u64 (bits .or .u64 (rLo x (IntKind.u64.wrap (fP f - 1))) b) (rLo 1 (fW f - 1)) else bits .or .u64 (rLo x (IntKind.u64.wrap (fP f - 1))) b

theorem s_pack_is (f x a b I J : Int) (neg : Bool) (hf : xH f) (hI : pkHi f neg x a = I) (hJ : pkLo f neg x b = J) (w : World) (hT : yF w) :
  Calls Tryz.prog 124 #[.int .u8 f, .bool neg, .int .u64 x, .agg #[.int .u64 a, .int .u64 b]] w fun e w' => e = .returned (.agg #[.int .u64 I, .int .u64 J]) ∧ Below w.heap.size w w' := by
 subst hI hJ
 have k : 0 ≤ IntKind.u64.wrap (fP f - 1) ∧ IntKind.u64.wrap (fP f - 1) ≤ 18446744073709551615 ∧ 0 ≤ fW f - 1 ∧ fW f - 1 ≤ 127 ∧ fC f = 0 ∧ 0 ≤ f ∧ f ≤ 255 := by
  rcases hf with rfl | rfl | rfl | rfl <;> decide +kernel
 have h := s_pack_any f x a b _ _ _ _ _ _ _ _ _ _ _ _ neg k.2.2.2.2.2.1 k.2.2.2.2.2.2 k.2.2.2.2.1 rfl rfl k.1 k.2.1 rfl rfl rfl rfl rfl rfl k.2.2.1 k.2.2.2.1 rfl rfl rfl rfl w hT
 refine h.mono ?_
 rintro r w' ⟨rfl, b⟩
 refine ⟨?_, b⟩
 cases neg <;> rfl

theorem top7 {f : Int} (h : xH f) : IntKind.u64.wrap (IntKind.u64.wrap (2 ^ min (fW f - fP f).toNat 64) - 1) = (oV f : Int) := by
 rcases h with rfl | rfl | rfl | rfl <;> decide +kernel

theorem s_top_is (f : Int) (hf : xH f) (w : World) (hT : yF w) :
  Calls Tryz.prog 178 #[.int .u8 f] w fun e w' => e = .returned (.int .u64 (oV f : Nat)) ∧ Below w.heap.size w w' :=
 s_top f _ _ _ _ (yY hf).1 (yY hf).2.1 rfl rfl rfl (yY hf).2.2.2 (top7 hf) w hT

theorem pk_Inf {f : Int} (h : xH f) (neg : Bool) : pkHi f neg ((oV f : Nat)) (0) = ((bv7 (eInf f neg)).1 : Nat) ∧ pkLo f neg ((oV f : Nat)) (0) = ((bv7 (eInf f neg)).2 : Nat) := by
 rcases h with rfl | rfl | rfl | rfl <;> cases neg <;> decide +kernel
theorem pk_Zero {f : Int} (h : xH f) (neg : Bool) : pkHi f neg (0) (0) = ((bv7 (jA f neg)).1 : Nat) ∧ pkLo f neg (0) (0) = ((bv7 (jA f neg)).2 : Nat) := by
 rcases h with rfl | rfl | rfl | rfl <;> cases neg <;> decide +kernel
theorem pk_Greatest {f : Int} (h : xH f) (neg : Bool) : pkHi f neg (((oV f : Nat) : Int) - 1) ((if rLo 1 (fP f - 1) = 0 then IntKind.u64.wrap (rHi 1 (fP f - 1) - 1) else rHi 1 (fP f - 1))) = ((bv7 (qH f neg)).1 : Nat) ∧ pkLo f neg (((oV f : Nat) : Int) - 1) (IntKind.u64.wrap (rLo 1 (fP f - 1) - 1)) = ((bv7 (qH f neg)).2 : Nat) := by
 rcases h with rfl | rfl | rfl | rfl <;> cases neg <;> decide +kernel

theorem s_inf (f : Int) (neg : Bool) (hf : xH f) (v : Nat) (hv : eInf f neg = v) (w : World) (hT : yF w) :
  Calls Tryz.prog 96 #[.int .u8 f, .bool neg] w fun e w' => e = .returned (bitsV (bv7 v)) ∧ Below w.heap.size w w' := by
 subst hv
 have TT := zH hT
 have P := zH (pk_Inf hf neg)
 obtain ⟨x, y, hxy⟩ : ∃ x y, bv7 (eInf f neg) = (x, y) := ⟨_, _, rfl⟩
 rw [hxy] at P ⊢
 have e0 : bitsV (x, y) = .agg #[.int .u64 x, .int .u64 y] := rfl
 rw [e0]
 have f4 := yY hf
 clear hxy hT e0
 have R0 : (w.alloc (.cells #[.int .u64 0, .int .u64 0] 25)).heap[w.heap.size]? = some (.cells #[.int .u64 0, .int .u64 0] 25) := last7 _ _
 have B0 := yP w (.cells #[.int .u64 0, .int .u64 0] 25)
 go_enter Tryz.func96, Tryz.ntmps96
 go_wp2_with fail
 refine (s_top_is f hf _ (zW TT.out B0)).mono ?_
 rintro r w1 ⟨rfl, b1⟩
 have B1 := yD B0 b1
 have R1 := zA b1 _ _ _ R0
 clear B0 R0 b1
 go_wp2_with fail
 refine (s_pack_is f _ 0 0 _ _ neg hf P.out.1 P.out.2 _ (zW TT.out B1)).mono ?_
 rintro r w2 ⟨rfl, b2⟩
 have B2 := yD B1 b2
 have R2 := zA b2 _ _ _ R1
 clear B1 R1 b2
 have q0 := fz (k := 0) R2
 have q1 := fz (k := 1) R2
 have d0 := zL R2 0 _ rfl
 have d1 := zL R2 1 _ rfl
 obtain ⟨E0, E1⟩ := yH R2 (.int .u64 x) (.int .u64 y)
 go_wp2
 exact bodyPost_ret (v := .agg #[.int .u64 x, .int .u64 y]) (by simp [results, Tryz.results96, go_sem, E0, E1]) rfl ⟨rfl, zY B2 (by omega) _ _⟩

theorem s_zero (f : Int) (neg : Bool) (hf : xH f) (v : Nat) (hv : jA f neg = v) (w : World) (hT : yF w) :
  Calls Tryz.prog 51 #[.int .u8 f, .bool neg] w fun e w' => e = .returned (bitsV (bv7 v)) ∧ Below w.heap.size w w' := by
 subst hv
 have TT := zH hT
 have P := zH (pk_Zero hf neg)
 obtain ⟨x, y, hxy⟩ : ∃ x y, bv7 (jA f neg) = (x, y) := ⟨_, _, rfl⟩
 rw [hxy] at P ⊢
 have e0 : bitsV (x, y) = .agg #[.int .u64 x, .int .u64 y] := rfl
 rw [e0]
 have f4 := yY hf
 clear hxy hT e0
 have R0 : (w.alloc (.cells #[.int .u64 0, .int .u64 0] 25)).heap[w.heap.size]? = some (.cells #[.int .u64 0, .int .u64 0] 25) := last7 _ _
 have B0 := yP w (.cells #[.int .u64 0, .int .u64 0] 25)
 go_enter Tryz.func51, Tryz.ntmps51
 go_wp2_with fail
 refine (s_pack_is f 0 0 0 _ _ neg hf P.out.1 P.out.2 _ (zW TT.out B0)).mono ?_
 rintro r w1 ⟨rfl, b1⟩
 have B1 := yD B0 b1
 have R1 := zA b1 _ _ _ R0
 clear B0 R0 b1
 have q0 := fz (k := 0) R1
 have q1 := fz (k := 1) R1
 have d0 := zL R1 0 _ rfl
 have d1 := zL R1 1 _ rfl
 obtain ⟨E0, E1⟩ := yH R1 (.int .u64 x) (.int .u64 y)
 go_wp2
 exact bodyPost_ret (v := .agg #[.int .u64 x, .int .u64 y]) (by simp [results, Tryz.results51, go_sem, E0, E1]) rfl ⟨rfl, zY B1 (by omega) _ _⟩

theorem s_greatest (f : Int) (neg : Bool) (hf : xH f) (v : Nat) (hv : qH f neg = v) (w : World) (hT : yF w) :
  Calls Tryz.prog 203 #[.int .u8 f, .bool neg] w fun e w' => e = .returned (bitsV (bv7 v)) ∧ Below w.heap.size w w' := by
 subst hv
 have TT := zH hT
 have P := zH (pk_Greatest hf neg)
 obtain ⟨x, y, hxy⟩ : ∃ x y, bv7 (qH f neg) = (x, y) := ⟨_, _, rfl⟩
 rw [hxy] at P ⊢
 have e0 : bitsV (x, y) = .agg #[.int .u64 x, .int .u64 y] := rfl
 rw [e0]
 have f4 := yY hf
 clear hxy hT e0
 obtain ⟨p, hp⟩ : ∃ p : Int, fP f = p := ⟨_, rfl⟩
 obtain ⟨n, hn⟩ : ∃ n : Int, fP f - 1 = n := ⟨_, rfl⟩
 obtain ⟨H, hH⟩ : ∃ n : Int, rHi 1 (fP f - 1) = n := ⟨_, rfl⟩
 obtain ⟨L, hL⟩ : ∃ n : Int, rLo 1 (fP f - 1) = n := ⟨_, rfl⟩
 obtain ⟨K, hK⟩ : ∃ n : Int, (if L = 0 then IntKind.u64.wrap (H - 1) else H) = n := ⟨_, rfl⟩
 obtain ⟨M, hM⟩ : ∃ n : Int, IntKind.u64.wrap (L - 1) = n := ⟨_, rfl⟩
 obtain ⟨E, hE⟩ : ∃ n : Int, ((oV f : Nat) : Int) - 1 = n := ⟨_, rfl⟩
 have n0 : 0 ≤ n := by rw [← hn]; rcases hf with rfl | rfl | rfl | rfl <;> decide +kernel
 have n1 : n ≤ 18446744073709551615 := by rw [← hn]; rcases hf with rfl | rfl | rfl | rfl <;> decide +kernel
 have HN : zS (IntKind.u64.wrap (p - 1) = n) := zH (by rw [← hn, ← hp]; rcases hf with rfl | rfl | rfl | rfl <;> decide +kernel)
 have w1 : IntKind.u64.wrap (((oV f : Nat) : Int) - 1) = E := by rw [← hE]; rcases hf with rfl | rfl | rfl | rfl <;> decide +kernel
 rw [hL, hH, hK, hM, hE] at P
 have HP := zH hp
 have HH : zS (rHi 1 n = H) := zH (by rw [← hn]; exact hH)
 have HL : zS (rLo 1 n = L) := zH (by rw [← hn]; exact hL)
 have HK := zH hK
 have HM := zH hM
 clear hp hn hH hL hK hM hE
 have R0 : (w.alloc (.cells #[.int .u64 0, .int .u64 0] 25)).heap[w.heap.size]? = some (.cells #[.int .u64 0, .int .u64 0] 25) := last7 _ _
 have B0 := yP w (.cells #[.int .u64 0, .int .u64 0] 25)
 go_enter Tryz.func203, Tryz.ntmps203
 go_wp2_with fail
 refine (s_top_is f hf _ (zW TT.out B0)).mono ?_
 rintro r w1 ⟨rfl, b1⟩
 have B1 := yD B0 b1
 have R1 := zA b1 _ _ _ R0
 clear B0 R0 b1
 go_wp2_with fail
 refine (s_fraction f p n f4.1 f4.2.1 HP.out HN.out _ (zW TT.out B1)).mono ?_
 rintro r w' ⟨rfl, rfl⟩
 have B2 := bel_al B1 (.cells (fR f) 200)
 have R2 := qU R1 (.cells (fR f) 200)
 clear B1 R1
 go_wp2_with fail
 refine (s_ones n H L n0 n1 HH.out HL.out K M HK.out HM.out _).mono ?_
 rintro r w3 ⟨rfl, b3⟩
 have B3 := yD B2 b3
 have R3 := zA b3 _ _ _ R2
 clear B2 R2 b3
 go_wp2_with fail
 refine (s_pack_is f E K M _ _ neg hf P.out.1 P.out.2 _ (zW TT.out B3)).mono ?_
 rintro r w4 ⟨rfl, b4⟩
 have B4 := yD B3 b4
 have R4 := zA b4 _ _ _ R3
 clear B3 R3 b4
 have q0 := fz (k := 0) R4
 have q1 := fz (k := 1) R4
 have d0 := zL R4 0 _ rfl
 have d1 := zL R4 1 _ rfl
 obtain ⟨E0, E1⟩ := yH R4 (.int .u64 x) (.int .u64 y)
 go_wp2
 exact bodyPost_ret (v := .agg #[.int .u64 x, .int .u64 y]) (by simp [results, Tryz.results203, go_sem, E0, E1]) rfl ⟨rfl, zY B4 (by omega) _ _⟩

theorem r_right (f : Int) (o : Bool) (ho : decide (f ≤ 3) = o) (w : World) :
  Calls Tryz.prog 10 #[.int .u8 f] w fun e w' => e = .returned (.bool o) ∧ w' = w := by
 go_enter Tryz.func10, Tryz.ntmps10
 go_wp2
 go_ret
 exact ⟨rfl, rfl⟩
theorem r_mode (f : Int) (o : Bool) (ho : decide (f ≤ 4) = o) (w : World) :
  Calls Tryz.prog 15 #[.int .u8 f] w fun e w' => e = .returned (.bool o) ∧ w' = w := by
 go_enter Tryz.func15, Tryz.ntmps15
 go_wp2
 go_ret
 exact ⟨rfl, rfl⟩
theorem fW_lim {f m : Int} (h : fW f = m) : 0 ≤ m ∧ m ≤ 128 := by rw [← h]; unfold fW; split <;> (try split) <;> (try split) <;> (try split) <;> omega

theorem lt_Q7 {v : Nat} (h : v < 340282366920938463463374607431768211456) : v < Q := by
 have := bits_ltQ (v % 18446744073709551616) (v / 18446744073709551616) (Nat.mod_lt _ (by decide)) (by omega)
 omega
theorem wd01 {v : Nat} (h : v < 340282366920938463463374607431768211456) : wd v 0 = v % 18446744073709551616 ∧ wd v 1 = v / 18446744073709551616 := by
 constructor
 ·
  unfold wd; rw [Nat.mul_zero, Nat.pow_zero, Nat.div_one]
 ·
  unfold wd; rw [show 2 ^ (64 * 1) = 18446744073709551616 by decide, Nat.mod_eq_of_lt (by omega)]

theorem xJ {w W : World} {b : Nat} {c : Array Value} (h : Below w.heap.size w W) (hb : w.heap.size ≤ b) : Below w.heap.size w (W.setRow b c) := Below.setRow h hb

end Go.Proofs.YtkblmpmkchkpjaaGreatDoor
namespace Go.Proofs.YtkblmpmkchkpjaaGreatDoor
set_option maxRecDepth 100000
set_option maxHeartbeats 40000000
open Go.RowKit WMath
set_option linter.unusedVariables false
theorem andnot7 (x c m : Nat) (hx : x < 18446744073709551616) (hc : c ≤ 64) (hm : 2 ^ c - 1 = m) : (bits .andNot .u64 (x : Int) (m : Int) == 0) = decide (x < 2 ^ c) := by
 have e : bits .andNot .u64 (x : Int) (m : Int) = (((BitVec.ofNat 64 x &&& ~~~ BitVec.ofNat 64 m).toNat : Nat) : Int) := by
  show IntKind.u64.wrap ((BitVec.ofInt 64 (x : Int) &&& ~~~ BitVec.ofInt 64 (m : Int)).toNat : Int) = _
  rw [BitVec.ofInt_natCast, BitVec.ofInt_natCast, IntKind.wrap_u64]
  have := (BitVec.ofNat 64 x &&& ~~~ BitVec.ofNat 64 m).isLt
  generalize (BitVec.ofNat 64 x &&& ~~~ BitVec.ofNat 64 m).toNat = t at *
  omega
 rw [e]
 by_cases h : x < 2 ^ c
 ·
  rw [decide_eq_true h]
  have z : BitVec.ofNat 64 x &&& ~~~ BitVec.ofNat 64 m = 0#64 := by
   apply BitVec.eq_of_getLsbD_eq
   intro i hi
   simp only [BitVec.getLsbD_and, BitVec.getLsbD_not, BitVec.getLsbD_ofNat, hi, decide_true, Bool.true_and]
   rw [← hm, Nat.testBit_two_pow_sub_one]
   by_cases hic : i < c
   ·
    simp [hic]
   ·
    rw [Nat.testBit_lt_two_pow (Nat.lt_of_lt_of_le h (Nat.pow_le_pow_right (by decide) (by omega)))]
    simp
  rw [z]
  rfl
 ·
  rw [decide_eq_false h]
  simp only [beq_eq_false_iff_ne, ne_eq]
  intro z
  apply h
  apply Nat.lt_pow_two_of_testBit
  intro i hi
  by_cases h6 : i < 64
  ·
   have z2 : (BitVec.ofNat 64 x &&& ~~~ BitVec.ofNat 64 m).getLsbD i = false := by
    have : BitVec.ofNat 64 x &&& ~~~ BitVec.ofNat 64 m = 0#64 := BitVec.eq_of_toNat_eq (by simpa using (by omega : (BitVec.ofNat 64 x &&& ~~~ BitVec.ofNat 64 m).toNat = 0))
    rw [this]; simp
   simp only [BitVec.getLsbD_and, BitVec.getLsbD_not, BitVec.getLsbD_ofNat, h6, decide_true, Bool.true_and] at z2
   rw [← hm, Nat.testBit_two_pow_sub_one] at z2
   have : decide (i < c) = false := by simp; omega
   rw [this] at z2
   simpa using z2
  ·
   exact Nat.testBit_lt_two_pow (Nat.lt_of_lt_of_le hx (by rw [show 18446744073709551616 = 2 ^ 64 by decide]; exact Nat.pow_le_pow_right (by decide) (by omega)))

def oHi (f : Int) : Int := if rLo 1 (fW f) = 0 then IntKind.u64.wrap (rHi 1 (fW f) - 1) else rHi 1 (fW f)
def oLo (f : Int) : Int := IntKind.u64.wrap (rLo 1 (fW f) - 1)

theorem s_fits_no (f : Int) (b : Nat × Nat) (h0 : 0 ≤ f) (h1 : f ≤ 255) (hc : fC f = 2) (w : World) (hT : yF w) :
  Calls Tryz.prog 52 #[.int .u8 f, bitsV b] w fun e w' => e = .returned (.bool false) ∧ Below w.heap.size w w' := by
 have hq : fW f = 0 := by
  unfold fC at hc
  unfold fW
  split at hc
  ·
   simp at hc
  ·
   rename_i h; rw [if_neg (fun e => h (Or.inl e)), if_neg (fun e => h (Or.inr (Or.inl e))), if_neg (fun e => h (Or.inr (Or.inr (Or.inl e)))), if_neg (fun e => h (Or.inr (Or.inr (Or.inr e))))]
 have TT := zH hT
 unfold bitsV
 have B0 := yP w (.cells #[.int .u64 b.1, .int .u64 b.2] 25)
 go_enter Tryz.func52, Tryz.ntmps52
 go_wp2_with fail
 refine (s_width f 0 h0 h1 hq _ (zW TT.out B0)).mono ?_
 rintro r w' ⟨rfl, rfl⟩
 have B1 := bel_al B0 (.cells (fR f) 200)
 clear B0
 go_wp2_with fail
 refine (s_ones 0 0 1 (by decide) (by decide) rfl rfl 0 0 rfl rfl _).mono ?_
 rintro r w2 ⟨rfl, b2⟩
 have B2 := bel_al (yD B1 b2) (.cells #[.int .u64 0, .int .u64 0] 25)
 clear B1 b2
 go_wp2_with fail
 refine (xI f 2 h0 h1 hc _).mono ?_
 rintro r w' ⟨rfl, rfl⟩
 go_wp2
 go_ret
 exact ⟨rfl, B2⟩

theorem s_fits (f : Int) (b : Nat × Nat) (o : Bool) (hf : xH f) (hb1 : b.1 < 18446744073709551616) (hb2 : b.2 < 18446744073709551616) (p q : Bool) (hp : (bits .andNot .u64 (b.1 : Int) (oHi f) == 0) = p) (hq : (bits .andNot .u64 (b.2 : Int) (oLo f) == 0) = q) (ho : (p && q) = o) (w : World) (hT : yF w) :
  Calls Tryz.prog 52 #[.int .u8 f, bitsV b] w fun e w' => e = .returned (.bool o) ∧ Below w.heap.size w w' := by
 have TT := zH hT
 have f4 := yY hf
 unfold bitsV
 obtain ⟨b1, b2⟩ := b
 simp only at hb1 hb2 hp hq
 obtain ⟨W, hW⟩ : ∃ W : Int, fW f = W := ⟨_, rfl⟩
 obtain ⟨K, hK⟩ : ∃ W : Int, oHi f = W := ⟨_, rfl⟩
 obtain ⟨M, hM⟩ : ∃ W : Int, oLo f = W := ⟨_, rfl⟩
 rw [hK] at hp
 rw [hM] at hq
 have w0 : IntKind.u64.wrap W = W := by rw [← hW]; rcases hf with rfl | rfl | rfl | rfl <;> decide +kernel
 have wl := fW_lim hW
 have KO : zS (∀ w : World, Calls Tryz.prog 125 #[.int .u64 W] w fun e w' => e = .returned (.agg #[.int .u64 K, .int .u64 M]) ∧ Below w.heap.size w w') := zH (fun w => s_ones W _ _ (by omega) (by omega) rfl rfl K M (by rw [← hK, ← hW]; rfl) (by rw [← hM, ← hW]; rfl) w)
 have R0 : (w.alloc (.cells #[.int .u64 b1, .int .u64 b2] 25)).heap[w.heap.size]? = some (.cells #[.int .u64 b1, .int .u64 b2] 25) := last7 _ _
 have B0 := yP w (.cells #[.int .u64 b1, .int .u64 b2] 25)
 have HW := zH hW
 clear hT hW hK hM hb1 hb2 hf wl
 go_enter Tryz.func52, Tryz.ntmps52
 go_wp2_with fail
 refine (s_width f W f4.1 f4.2.1 HW.out _ (zW TT.out B0)).mono ?_
 rintro r w' ⟨rfl, rfl⟩
 have B1 := bel_al B0 (.cells (fR f) 200)
 have R1 := qU R0 (.cells (fR f) 200)
 clear B0 R0
 go_wp2_with fail
 refine (KO.out _).mono ?_
 rintro r w2 ⟨rfl, b2'⟩
 have R2 := qU (zA b2' _ _ _ R1) (.cells #[.int .u64 K, .int .u64 M] 25)
 have B2 := bel_al (yD B1 b2') (.cells #[.int .u64 K, .int .u64 M] 25)
 have c0 := zL R2 0 _ rfl
 have c1 := zL R2 1 _ rfl
 clear B1 b2' R1
 go_wp2_with fail
 refine (xI f 0 f4.1 f4.2.1 f4.2.2.1 _).mono ?_
 rintro r w' ⟨rfl, rfl⟩
 cases p <;> cases q <;> subst ho
 ·
  go_wp2
  go_ret
  exact ⟨rfl, B2⟩
 ·
  go_wp2
  go_ret
  exact ⟨rfl, B2⟩
 ·
  go_wp2
  go_ret
  exact ⟨rfl, B2⟩
 ·
  go_wp2
  go_ret
  exact ⟨rfl, B2⟩
theorem no7 {f : Int} (h : 3 < f) : fC f = 2 ∧ fW f = 0 ∧ fP f = 0 ∧ fE f = 0 := by
 refine ⟨?_, ?_, ?_, ?_⟩
 ·
  unfold fC; rw [if_neg (by omega)]
 ·
  unfold fW; rw [if_neg (by omega), if_neg (by omega), if_neg (by omega), if_neg (by omega)]
 ·
  unfold fP; rw [if_neg (by omega), if_neg (by omega), if_neg (by omega), if_neg (by omega)]
 ·
  unfold fE; rw [if_neg (by omega), if_neg (by omega), if_neg (by omega), if_neg (by omega)]
theorem is4_of {f : Int} (h0 : 0 ≤ f) (h : f ≤ 3) : xH f := by unfold xH; omega


theorem y6 (n W : Nat) : z7 n ≤ W ↔ n < 2 ^ W := by
 constructor
 ·
  intro h
  exact Nat.lt_of_lt_of_le (xN n) (Nat.pow_le_pow_right (by decide) h)
 ·
  exact xL n W

theorem fit7 (f : Int) (hf : xH f) (b1 b2 : Nat) (hb1 : b1 < 18446744073709551616) (hb2 : b2 < 18446744073709551616) :
  ((bits .andNot .u64 (b1 : Int) (oHi f) == 0) && (bits .andNot .u64 (b2 : Int) (oLo f) == 0)) = decide (((z7 (b2 + 18446744073709551616 * b1) : Nat) : Int) ≤ fW f) := by
 have key : ∀ (c d W : Nat) (K M : Nat), c ≤ 64 → d ≤ 64 → 2 ^ c - 1 = K → 2 ^ d - 1 = M → oHi f = (K : Int) → oLo f = (M : Int) → fW f = (W : Int) →
   ((b1 < 2 ^ c ∧ b2 < 2 ^ d) ↔ b2 + 18446744073709551616 * b1 < 2 ^ W) → ((bits .andNot .u64 (b1 : Int) (oHi f) == 0) && (bits .andNot .u64 (b2 : Int) (oLo f) == 0)) = decide (((z7 (b2 + 18446744073709551616 * b1) : Nat) : Int) ≤ fW f) := by
  intro c d W K M hc hd hK hM e1 e2 e3 h
  rw [e1, e2, e3, andnot7 b1 c K hb1 hc hK, andnot7 b2 d M hb2 hd hM]
  have h2 : (((z7 (b2 + 18446744073709551616 * b1) : Nat) : Int) ≤ (W : Int)) ↔ (b1 < 2 ^ c ∧ b2 < 2 ^ d) := by
   rw [h, ← y6]; omega
  rw [← Bool.decide_and]
  exact decide_eq_decide.2 h2.symm
 rcases hf with rfl | rfl | rfl | rfl
 ·
  exact key 0 32 32 0 4294967295 (by decide) (by decide) (by decide) (by decide) (by decide +kernel) (by decide +kernel) (by decide +kernel) (by simp only [Nat.reducePow]; omega)
 ·
  exact key 0 64 64 0 18446744073709551615 (by decide) (by decide) (by decide) (by decide) (by decide +kernel) (by decide +kernel) (by decide +kernel) (by simp only [Nat.reducePow]; omega)
 ·
  exact key 0 16 16 0 65535 (by decide) (by decide) (by decide) (by decide) (by decide +kernel) (by decide +kernel) (by decide +kernel) (by simp only [Nat.reducePow]; omega)
 ·
  exact key 64 64 128 18446744073709551615 18446744073709551615 (by decide) (by decide) (by decide) (by decide) (by decide +kernel) (by decide +kernel) (by decide +kernel) (by simp only [Nat.reducePow]; omega)

def fitsB (f : Int) (b : Nat × Nat) : Bool := decide (f ≤ 3) && decide (((z7 (b.2 + 18446744073709551616 * b.1) : Nat) : Int) ≤ fW f)
theorem s_fits_is (f : Int) (b : Nat × Nat) (o : Bool) (h0 : 0 ≤ f) (h1 : f ≤ 255) (hb1 : b.1 < 18446744073709551616) (hb2 : b.2 < 18446744073709551616) (ho : fitsB f b = o) (w : World) (hT : yF w) :
  Calls Tryz.prog 52 #[.int .u8 f, bitsV b] w fun e w' => e = .returned (.bool o) ∧ Below w.heap.size w w' := by
 by_cases h : f ≤ 3
 ·
  refine s_fits f b o (is4_of h0 h) hb1 hb2 _ _ rfl rfl ?_ w hT
  rw [fit7 f (is4_of h0 h) b.1 b.2 hb1 hb2, ← ho]
  unfold fitsB
  rw [decide_eq_true h, Bool.true_and]
 ·
  have e : o = false := by rw [← ho]; unfold fitsB; rw [decide_eq_false h, Bool.false_and]
  subst e
  exact s_fits_no f b h0 h1 (no7 (by omega)).1 w hT
def R9 (w : World) (gl gk gs : Nat) (cl ck : Array Value) (S M : Nat) (g : Nat) (w5 : World) : Prop :=
  Below w.heap.size w w5 ∧ w5.heap[gl]? = some (.cells cl 25) ∧ w5.heap[gk]? = some (.cells ck 25) ∧ w5.heap[gs]? = some (.cells (cw 6 S) 66) ∧ w5.heap[g]? = some (.cells (cw 6 M) 66)
end Go.Proofs.YtkblmpmkchkpjaaGreatDoor
namespace Go.Proofs.YtkblmpmkchkpjaaGreatDoor
set_option maxRecDepth 100000
set_option maxHeartbeats 40000000
open Go.RowKit WMath
def kN (f : Int) (n : Nat) : Bool := decide (n / 2 ^ wV f % 2 = 1)
def kE (f : Int) (n : Nat) : Nat := n / 2 ^ pV f % (oV f + 1)
def kT (f : Int) (n : Nat) : Nat := n % 2 ^ pV f
def kC (f : Int) (n : Nat) : Nat :=
  if kE f n = oV f then (if kT f n = 0 then (if kN f n then 0 else 7) else if 2 ^ (pV f - 1) ≤ kT f n then 9 else 8)
  else if kE f n ≠ 0 then (if kN f n then 1 else 6)
  else if kT f n ≠ 0 then (if kN f n then 2 else 5) else (if kN f n then 3 else 4)
def lx (f : Int) : Int := 1 - fE f - pV f
def kS (f : Int) (n : Nat) : Nat := if kC f n = 2 ∨ kC f n = 5 then kT f n else if kC f n = 1 ∨ kC f n = 6 then 2 ^ pV f + kT f n else 0
def kX (f : Int) (n : Nat) : Int := if kC f n = 2 ∨ kC f n = 5 then lx f else if kC f n = 1 ∨ kC f n = 6 then lx f + (kE f n : Int) - 1 else 0
def kF (f : Int) (n : Nat) : Nat := if kC f n = 8 ∨ kC f n = 9 then kT f n else 0
def Fit (f : Int) (n : Nat) : Prop := n < 2 * 2 ^ wV f
theorem fm {f : Int} (h : xH f) : 2 ^ wV f = (oV f + 1) * 2 ^ pV f ∧ 2 ≤ pV f ∧ 2 ^ pV f = 2 * 2 ^ (pV f - 1) ∧ 2 ^ (pV f - 1) ≥ 2 ∧ 3 ≤ oV f ∧ oV f < 32768 ∧ 2 * 2 ^ wV f ≤ 340282366920938463463374607431768211456 := by
 rcases h with rfl | rfl | rfl | rfl <;> decide +kernel
theorem kT_lt {f : Int} (n : Nat) : kT f n < 2 ^ pV f := Nat.mod_lt _ (Nat.two_pow_pos _)
theorem kE_le {f : Int} (n : Nat) : kE f n ≤ oV f := Nat.le_of_lt_succ (Nat.mod_lt _ (Nat.succ_pos _))
theorem kC_lt (f : Int) (n : Nat) : kC f n < 10 := by unfold kC; repeat' split <;> first | decide | skip
theorem qC {f : Int} (h : xH f) (neg : Bool) {e t : Nat} (he : e ≤ oV f) (ht : t < 2 ^ pV f) : Fit f (yQ f neg e t) ∧ kN f (yQ f neg e t) = neg ∧ kE f (yQ f neg e t) = e ∧ kT f (yQ f neg e t) = t := by
 unfold Fit yQ kN kE kT
 rcases h with rfl | rfl | rfl | rfl
 all_goals
  simp only [show pV 0 = 23 by decide, show wV 0 = 31 by decide, show oV 0 = 255 by decide, show pV 1 = 52 by decide, show wV 1 = 63 by decide, show oV 1 = 2047 by decide, show pV 2 = 10 by decide, show wV 2 = 15 by decide, show oV 2 = 31 by decide, show pV 3 = 112 by decide, show wV 3 = 127 by decide, show oV 3 = 32767 by decide] at he ht ⊢
  simp only [Nat.reducePow, Nat.reduceAdd] at ht ⊢
  cases neg
  ·
   simp only [Bool.false_eq_true, if_false, decide_eq_false_iff_not]
   omega
  ·
   simp only [if_true, decide_eq_true_eq]
   omega
theorem kC_cases {f : Int} (h : xH f) (neg : Bool) (e t : Nat) (he : e ≤ oV f) (ht : t < 2 ^ pV f) : kC f (yQ f neg e t) = 
 (if e = oV f then (if t = 0 then (if neg then 0 else 7) else if 2 ^ (pV f - 1) ≤ t then 9 else 8)
 else if e ≠ 0 then (if neg then 1 else 6)
 else if t ≠ 0 then (if neg then 2 else 5) else (if neg then 3 else 4)) := by
 obtain ⟨_, a, b, c⟩ := qC h neg he ht
 unfold kC
 rw [a, b, c]
def kp (f : Int) (n : Nat) : Nat × Nat × Int × Nat := (kC f n, kS f n, kX f n, kF f n)
theorem xor_two (a b : Nat) : (a ^^^ b) % 2 = (a + b) % 2 := by
 have := @Nat.xor_mod_two_eq_one a b
 omega
theorem xor_bit : ∀ (k a : Nat), a ^^^ 2 ^ k = if a / 2 ^ k % 2 = 1 then a - 2 ^ k else a + 2 ^ k
 | 0, a => by
  have h1 : (a ^^^ 1) / 2 = a / 2 := by rw [Nat.xor_div_two]; simp
  have h2 : (a ^^^ 1) % 2 = (a + 1) % 2 := by rw [xor_two]
  rw [Nat.pow_zero, Nat.div_one]
  split <;> omega
 | k + 1, a => by
  have ih := xor_bit k (a / 2)
  have h1 : (a ^^^ 2 ^ (k + 1)) / 2 = a / 2 ^^^ 2 ^ k := by rw [Nat.xor_div_two, Nat.pow_succ, Nat.mul_div_cancel _ (by decide)]
  have h2 : (a ^^^ 2 ^ (k + 1)) % 2 = a % 2 := by rw [xor_two, Nat.pow_succ]; omega
  have h3 : a / 2 / 2 ^ k = a / 2 ^ (k + 1) := by rw [Nat.div_div_eq_div_mul, Nat.pow_succ, Nat.mul_comm]
  rw [ih, h3] at h1
  have h4 : a / 2 ^ (k + 1) % 2 = 1 → 2 ^ k ≤ a / 2 := fun h => by
   rw [← h3] at h
   by_cases c : 2 ^ k ≤ a / 2
   ·
    exact c
   ·
    rw [Nat.div_eq_of_lt (by omega)] at h; exact absurd h (by decide)
  rw [Nat.pow_succ] at h1 h2 h4 ⊢
  split at h1
  ·
   rename_i c
   have := h4 c
   rw [if_pos c]; omega
  ·
   rename_i c
   rw [if_neg c]; omega
def sgB (f : Int) (n : Nat) (neg : Bool) : Nat := if neg then n ^^^ 2 ^ wV f else n
theorem sgB_low {f : Int} {n : Nat} (hn : n < 2 ^ wV f) (neg : Bool) : sgB f n neg = n + (if neg then 2 ^ wV f else 0) := by
 unfold sgB
 cases neg
 ·
  rfl
 ·
  rw [if_pos rfl, xor_bit, Nat.div_eq_of_lt hn, if_neg (by decide), if_pos rfl]
def toB (s : Nat) : Nat := if s < 340282366920938463463374607431768211456 then s else 0
def plN (f : Int) (u : Nat) : Nat := u * 2 ^ pV f % (if f = 3 then 340282366920938463463374607431768211456 else 18446744073709551616)
def u64w (x : Int) : Nat := (x % 18446744073709551616).toNat
def fb (f : Int) (s : Nat) (x : Int) : Nat := (plN f (u64w (x - lx f)) + toB s) % 340282366920938463463374607431768211456
def eb (f : Int) (r : Nat) : Nat := (eInf f false + toB r) % 340282366920938463463374607431768211456
def mg (f : Int) (c s : Nat) (x : Int) (r : Nat) : Nat := if c = 3 ∨ c = 4 then 0 else if c = 1 ∨ c = 2 ∨ c = 5 ∨ c = 6 then fb f s x else eb f r
def gP (f : Int) (p : Nat × Nat × Int × Nat) : Nat := sgB f (mg f p.1 p.2.1 p.2.2.1 p.2.2.2) (decide (p.1 ≤ 3))
theorem fb_is {f : Int} (h : xH f) (k s : Nat) (hk : k ≤ oV f) (hs : k * 2 ^ pV f + s < 2 ^ wV f) : fb f s (lx f + k) = k * 2 ^ pV f + s := by
 obtain ⟨f1, f2, f3, f4, f5, f6, f7⟩ := fm h
 have e1 : u64w (lx f + k - lx f) = k := by
  unfold u64w
  rw [show lx f + (k : Int) - lx f = k by omega]
  omega
 have e2 : toB s = s := by unfold toB; rw [if_pos (by omega)]
 have e3 : plN f k = k * 2 ^ pV f := by
  unfold plN
  refine Nat.mod_eq_of_lt ?_
  have h2 : k * 2 ^ pV f < 2 ^ wV f := by omega
  have h3 : 2 ^ wV f ≤ (if f = 3 then 340282366920938463463374607431768211456 else 18446744073709551616) := by
   rcases h with rfl | rfl | rfl | rfl <;> decide +kernel
  omega
 unfold fb
 rw [e1, e2, e3, Nat.mod_eq_of_lt (by omega)]
def pk (f : Int) (p : Nat × Nat × Int × Nat) : Nat × Int := if kp f (gP f p) = p then (gP f p, 0) else (0, 80)
end Go.Proofs.YtkblmpmkchkpjaaGreatDoor
