/-
  What the functions that the statement reaches return: part 16 (V6, V9, VA, R1, R2, R3).
-/
import Derived.Lib.MinMax
import Derived.Deep.RegionHeld3
import Derived.Test.YtkblmpmkchkpjaaGreatDoorNe15
namespace Go.Proofs.YtkblmpmkchkpjaaGreatDoor
set_option maxRecDepth 100000
set_option maxHeartbeats 40000000
open Go.RowKit WMath
set_option linter.unusedSimpArgs false
set_option linter.unusedVariables false
theorem kof_zero (f : Int) (b : Bool) (s t : ByteArray) (e : Int) (w : World)
  (KC : zS (∀ w, Calls Tryz.prog 37 #[.int .u8 f] w fun r w' => r = .returned (.int .i64 0) ∧ Below w.heap.size w w'))
  (KX : zS (∀ w, zN w → Calls Tryz.prog 110 #[.agg #[.bool b, .string s, .string t, .int .i64 e]] w fun r w' => r = .returned (.int .i64 0) ∧ Below w.heap.size w w'))
  (KS : zS (∀ w, zN w → Calls Tryz.prog 16 #[.agg #[.bool b, .string s, .string t, .int .i64 e]] w fun r w' => r = .returned (.int .i64 0) ∧ Below w.heap.size w w'))
  (KZ : zS (∀ w, yF w → Calls Tryz.prog 51 #[.int .u8 f, .bool false] w fun r w' => r = .returned (.agg #[.int .u64 0, .int .u64 0]) ∧ Below w.heap.size w w'))
  (hT : yF w) (hT2 : zN w) : Calls Tryz.prog 204 #[.int .u8 f, .agg #[.bool b, .string s, .string t, .int .i64 e]] w fun r w' => r = .returned (.tuple #[.agg #[.int .u64 0, .int .u64 0], .bool true, .int .i64 0]) ∧ Below w.heap.size w w' := by
 have FF := zH hT
 have TT := zH hT2
 clear hT hT2
 have hat := yS 6
 have hz := cw6z
 have hff := cw6f
 have hs0 := st0
 have hcs : ∀ x, ((cw 6 x).size = 6) = True := fun x => eq_true (yT 6 x)
 obtain ⟨Ah, Ai, B0⟩ := qW w (Obj.cells #[.bool b, .string s, .string t, .int .i64 e] 41) (Obj.cells #[.int .u64 0, .int .u64 0] 25)
 go_enter Tryz.func204, Tryz.ntmps204
 go_wp2_with fail
 refine (KC.out _).mono ?_
 rintro r w1 ⟨rfl, b1⟩
 have B1 := zO B0 b1
 obtain ⟨Ab, Ac⟩ := yB b1 Ah Ai
 clear b1 B0 Ah Ai
 obtain ⟨Aj, Ak, Al, Am⟩ := zC Ab
 obtain ⟨An, Ao⟩ := zF Ac
 go_wp2_with fail
 refine (KX.out _ (zV TT.out B1)).mono ?_
 rintro r w2 ⟨rfl, b2⟩
 have B2 := zO B1 b2
 obtain ⟨Ad, Ae⟩ := yB b2 Ab Ac
 clear b2 B1 Ab Aj Ak Al Am Ac An Ao
 obtain ⟨Ap, Aq, Ar, As⟩ := zC Ad
 obtain ⟨At, Au⟩ := zF Ae
 go_wp2_with fail
 refine (KS.out _ (zV TT.out B2)).mono ?_
 rintro r w3 ⟨rfl, b3⟩
 have B3 := zO B2 b3
 obtain ⟨Af, Ag⟩ := yB b3 Ad Ae
 clear b3 B2 Ad Ap Aq Ar As Ae At Au
 obtain ⟨Av, Aw, Ax, Ay⟩ := zC Af
 obtain ⟨Az, AA⟩ := zF Ag
 go_wp2_with fail
 refine (KZ.out _ (zW FF.out B3)).mono ?_
 rintro r w4 ⟨rfl, b4⟩
 have B4 := zO B3 b4
 obtain ⟨AB, Aa⟩ := yB b4 Af Ag
 clear b4 B3 Af Av Aw Ax Ay Ag Az AA
 obtain ⟨AC, AD, AE, AF⟩ := zC AB
 obtain ⟨AG, AH⟩ := zF Aa
 have q0 := fz (k := 0) Aa
 have q1 := fz (k := 1) Aa
 obtain ⟨E0, E1⟩ := yH Aa (.int .u64 0) (.int .u64 0)
 go_wp2
 exact bodyPost_ret (v := .tuple #[.agg #[.int .u64 0, .int .u64 0], .bool true, .int .i64 0]) (by simp [results, Tryz.results204, go_sem, E0, E1]) rfl ⟨rfl, zY B4 (by first | exact Nat.le_refl _ | omega | (skip; omega)) _ _⟩
theorem kof_over (f : Int) (b : Bool) (s t : ByteArray) (e : Int) (g T E : Int) (w : World)
  (KC : zS (∀ w, Calls Tryz.prog 37 #[.int .u8 f] w fun r w' => r = .returned (.int .i64 0) ∧ Below w.heap.size w w'))
  (KX : zS (∀ w, zN w → Calls Tryz.prog 110 #[.agg #[.bool b, .string s, .string t, .int .i64 e]] w fun r w' => r = .returned (.int .i64 0) ∧ Below w.heap.size w w'))
  (KS : zS (∀ w, zN w → Calls Tryz.prog 16 #[.agg #[.bool b, .string s, .string t, .int .i64 e]] w fun r w' => r = .returned (.int .i64 g) ∧ Below w.heap.size w w'))
  (KT : zS (∀ w, zN w → Calls Tryz.prog 206 #[.agg #[.bool b, .string s, .string t, .int .i64 e]] w fun r w' => r = .returned (.tuple #[.int .i64 T, .int .i64 0]) ∧ Below w.heap.size w w'))
  (KE : zS (∀ w, yF w → Calls Tryz.prog 117 #[.int .u8 f] w fun r w' => r = .returned (.int .i64 E) ∧ Below w.heap.size w w'))
  (hg : (g == 0) = false) (ho : decide (E < T) = true)
  (hT : yF w) (hT2 : zN w) : Calls Tryz.prog 204 #[.int .u8 f, .agg #[.bool b, .string s, .string t, .int .i64 e]] w fun r w' => r = .returned (.tuple #[.agg #[.int .u64 0, .int .u64 0], .bool false, .int .i64 0]) ∧ Below w.heap.size w w' := by
 have FF := zH hT
 have TT := zH hT2
 clear hT hT2
 have hat := yS 6
 have hz := cw6z
 have hff := cw6f
 have hs0 := st0
 have hcs : ∀ x, ((cw 6 x).size = 6) = True := fun x => eq_true (yT 6 x)
 obtain ⟨Aj, Ak, B0⟩ := qW w (Obj.cells #[.bool b, .string s, .string t, .int .i64 e] 41) (Obj.cells #[.int .u64 0, .int .u64 0] 25)
 go_enter Tryz.func204, Tryz.ntmps204
 go_wp2_with fail
 refine (KC.out _).mono ?_
 rintro r w1 ⟨rfl, b1⟩
 have B1 := zO B0 b1
 obtain ⟨Ab, Ac⟩ := yB b1 Aj Ak
 clear b1 B0 Aj Ak
 obtain ⟨Al, Am, An, Ao⟩ := zC Ab
 obtain ⟨Ap, Aq⟩ := zF Ac
 go_wp2_with fail
 refine (KX.out _ (zV TT.out B1)).mono ?_
 rintro r w2 ⟨rfl, b2⟩
 have B2 := zO B1 b2
 obtain ⟨Ad, Ae⟩ := yB b2 Ab Ac
 clear b2 B1 Ab Al Am An Ao Ac Ap Aq
 obtain ⟨Ar, As, At, Au⟩ := zC Ad
 obtain ⟨Av, Aw⟩ := zF Ae
 go_wp2_with fail
 refine (KS.out _ (zV TT.out B2)).mono ?_
 rintro r w3 ⟨rfl, b3⟩
 have B3 := zO B2 b3
 obtain ⟨Af, Ag⟩ := yB b3 Ad Ae
 clear b3 B2 Ad Ar As At Au Ae Av Aw
 obtain ⟨Ax, Ay, Az, AA⟩ := zC Af
 obtain ⟨AB, AC⟩ := zF Ag
 go_wp2_with fail
 refine (KT.out _ (zV TT.out B3)).mono ?_
 rintro r w4 ⟨rfl, b4⟩
 have B4 := zO B3 b4
 obtain ⟨Ah, Ai⟩ := yB b4 Af Ag
 clear b4 B3 Af Ax Ay Az AA Ag AB AC
 obtain ⟨AD, AE, AF, AG⟩ := zC Ah
 obtain ⟨AH, AI⟩ := zF Ai
 go_wp2_with fail
 refine (KE.out _ (zW FF.out B4)).mono ?_
 rintro r w5 ⟨rfl, b5⟩
 have B5 := zO B4 b5
 obtain ⟨AJ, Aa⟩ := yB b5 Ah Ai
 clear b5 B4 Ah AD AE AF AG Ai AH AI
 obtain ⟨AK, AL, AM, AN⟩ := zC AJ
 obtain ⟨AO, AP⟩ := zF Aa
 have q0 := fz (k := 0) Aa
 have q1 := fz (k := 1) Aa
 obtain ⟨E0, E1⟩ := yH Aa (.int .u64 0) (.int .u64 0)
 go_wp2
 exact bodyPost_ret (v := .tuple #[.agg #[.int .u64 0, .int .u64 0], .bool false, .int .i64 0]) (by simp [results, Tryz.results204, go_sem, E0, E1]) rfl ⟨rfl, zY B5 (by first | exact Nat.le_refl _ | omega | (skip; omega)) _ _⟩
theorem kof_frac (f : Int) (b : Bool) (s t : ByteArray) (e : Int) (g T E I P A1 A fe : Int) (m : ByteArray) (w : World)
  (KC : zS (∀ w, Calls Tryz.prog 37 #[.int .u8 f] w fun r w' => r = .returned (.int .i64 0) ∧ Below w.heap.size w w'))
  (KX : zS (∀ w, zN w → Calls Tryz.prog 110 #[.agg #[.bool b, .string s, .string t, .int .i64 e]] w fun r w' => r = .returned (.int .i64 0) ∧ Below w.heap.size w w'))
  (KS : zS (∀ w, zN w → Calls Tryz.prog 16 #[.agg #[.bool b, .string s, .string t, .int .i64 e]] w fun r w' => r = .returned (.int .i64 g) ∧ Below w.heap.size w w'))
  (KT : zS (∀ w, zN w → Calls Tryz.prog 206 #[.agg #[.bool b, .string s, .string t, .int .i64 e]] w fun r w' => r = .returned (.tuple #[.int .i64 T, .int .i64 0]) ∧ Below w.heap.size w w'))
  (KE : zS (∀ w, yF w → Calls Tryz.prog 117 #[.int .u8 f] w fun r w' => r = .returned (.int .i64 E) ∧ Below w.heap.size w w'))
  (KI : zS (∀ w, yF w → Calls Tryz.prog 115 #[.int .u8 f] w fun r w' => r = .returned (.int .i64 I) ∧ Below w.heap.size w w'))
  (KP : zS (∀ w, yF w → Calls Tryz.prog 165 #[.int .u8 f] w fun r w' => r = .returned (.int .i64 P) ∧ Below w.heap.size w w'))
  (KF : zS (∀ w, zN w → Calls Tryz.prog 207 #[.agg #[.bool b, .string s, .string t, .int .i64 e], .int .i64 A] w fun r w' => r = .returned (.tuple #[.string m, .bool false, .int .i64 fe]) ∧ Below w.heap.size w w'))
  (hg : (g == 0) = false) (ho : decide (E < T) = false) (h1 : IntKind.i64.wrap (max T I - P) = A1) (h2 : IntKind.i64.wrap (A1 + 1) = A)
  (hT : yF w) (hT2 : zN w) : Calls Tryz.prog 204 #[.int .u8 f, .agg #[.bool b, .string s, .string t, .int .i64 e]] w fun r w' => r = .returned (.tuple #[.agg #[.int .u64 0, .int .u64 0], .bool false, .int .i64 0]) ∧ Below w.heap.size w w' := by
 have FF := zH hT
 have TT := zH hT2
 clear hT hT2
 have hat := yS 6
 have hz := cw6z
 have hff := cw6f
 have hs0 := st0
 have hcs : ∀ x, ((cw 6 x).size = 6) = True := fun x => eq_true (yT 6 x)
 obtain ⟨Ap, Aq, B0⟩ := qW w (Obj.cells #[.bool b, .string s, .string t, .int .i64 e] 41) (Obj.cells #[.int .u64 0, .int .u64 0] 25)
 go_enter Tryz.func204, Tryz.ntmps204
 go_wp2_with fail
 refine (KC.out _).mono ?_
 rintro r w1 ⟨rfl, b1⟩
 have B1 := zO B0 b1
 obtain ⟨Ab, Ac⟩ := yB b1 Ap Aq
 clear b1 B0 Ap Aq
 obtain ⟨Ar, As, At, Au⟩ := zC Ab
 obtain ⟨Av, Aw⟩ := zF Ac
 go_wp2_with fail
 refine (KX.out _ (zV TT.out B1)).mono ?_
 rintro r w2 ⟨rfl, b2⟩
 have B2 := zO B1 b2
 obtain ⟨Ad, Ae⟩ := yB b2 Ab Ac
 clear b2 B1 Ab Ar As At Au Ac Av Aw
 obtain ⟨Ax, Ay, Az, AA⟩ := zC Ad
 obtain ⟨AB, AC⟩ := zF Ae
 go_wp2_with fail
 refine (KS.out _ (zV TT.out B2)).mono ?_
 rintro r w3 ⟨rfl, b3⟩
 have B3 := zO B2 b3
 obtain ⟨Af, Ag⟩ := yB b3 Ad Ae
 clear b3 B2 Ad Ax Ay Az AA Ae AB AC
 obtain ⟨AD, AE, AF, AG⟩ := zC Af
 obtain ⟨AH, AI⟩ := zF Ag
 go_wp2_with fail
 refine (KT.out _ (zV TT.out B3)).mono ?_
 rintro r w4 ⟨rfl, b4⟩
 have B4 := zO B3 b4
 obtain ⟨Ah, Ai⟩ := yB b4 Af Ag
 clear b4 B3 Af AD AE AF AG Ag AH AI
 obtain ⟨AJ, AK, AL, AM⟩ := zC Ah
 obtain ⟨AN, AO⟩ := zF Ai
 go_wp2_with fail
 refine (KE.out _ (zW FF.out B4)).mono ?_
 rintro r w5 ⟨rfl, b5⟩
 have B5 := zO B4 b5
 obtain ⟨Aj, Ak⟩ := yB b5 Ah Ai
 clear b5 B4 Ah AJ AK AL AM Ai AN AO
 obtain ⟨AP, AQ, AR, AS⟩ := zC Aj
 obtain ⟨AT, AU⟩ := zF Ak
 go_wp2_with fail
 refine (KI.out _ (zW FF.out B5)).mono ?_
 rintro r w6 ⟨rfl, b6⟩
 have B6 := zO B5 b6
 obtain ⟨Al, Am⟩ := yB b6 Aj Ak
 clear b6 B5 Aj AP AQ AR AS Ak AT AU
 obtain ⟨AV, AW, AX, AY⟩ := zC Al
 obtain ⟨AZ, A0⟩ := zF Am
 go_wp2_with fail
 refine (KP.out _ (zW FF.out B6)).mono ?_
 rintro r w7 ⟨rfl, b7⟩
 have B7 := zO B6 b7
 obtain ⟨An, Ao⟩ := yB b7 Al Am
 clear b7 B6 Al AV AW AX AY Am AZ A0
 obtain ⟨A2, A3, A4, A5⟩ := zC An
 obtain ⟨A6, A7⟩ := zF Ao
 go_wp2_with fail
 refine (KF.out _ (zV TT.out B7)).mono ?_
 rintro r w8 ⟨rfl, b8⟩
 have B8 := zO B7 b8
 obtain ⟨A8, Aa⟩ := yB b8 An Ao
 clear b8 B7 An A2 A3 A4 A5 Ao A6 A7
 obtain ⟨A9, Ba, Bb, Bc⟩ := zC A8
 obtain ⟨Bd, Be⟩ := zF Aa
 have q0 := fz (k := 0) Aa
 have q1 := fz (k := 1) Aa
 obtain ⟨E0, E1⟩ := yH Aa (.int .u64 0) (.int .u64 0)
 go_wp2
 exact bodyPost_ret (v := .tuple #[.agg #[.int .u64 0, .int .u64 0], .bool false, .int .i64 0]) (by simp [results, Tryz.results204, go_sem, E0, E1]) rfl ⟨rfl, zY B8 (by first | exact Nat.le_refl _ | omega | (skip; omega)) _ _⟩
theorem kof_yes (f : Int) (b : Bool) (s t : ByteArray) (e : Int) (g T E I P A1 A fe : Int) (m : ByteArray) (M i j u v : Nat) (w : World)
  (KC : zS (∀ w, Calls Tryz.prog 37 #[.int .u8 f] w fun r w' => r = .returned (.int .i64 0) ∧ Below w.heap.size w w'))
  (KX : zS (∀ w, zN w → Calls Tryz.prog 110 #[.agg #[.bool b, .string s, .string t, .int .i64 e]] w fun r w' => r = .returned (.int .i64 0) ∧ Below w.heap.size w w'))
  (KS : zS (∀ w, zN w → Calls Tryz.prog 16 #[.agg #[.bool b, .string s, .string t, .int .i64 e]] w fun r w' => r = .returned (.int .i64 g) ∧ Below w.heap.size w w'))
  (KT : zS (∀ w, zN w → Calls Tryz.prog 206 #[.agg #[.bool b, .string s, .string t, .int .i64 e]] w fun r w' => r = .returned (.tuple #[.int .i64 T, .int .i64 0]) ∧ Below w.heap.size w w'))
  (KE : zS (∀ w, yF w → Calls Tryz.prog 117 #[.int .u8 f] w fun r w' => r = .returned (.int .i64 E) ∧ Below w.heap.size w w'))
  (KI : zS (∀ w, yF w → Calls Tryz.prog 115 #[.int .u8 f] w fun r w' => r = .returned (.int .i64 I) ∧ Below w.heap.size w w'))
  (KP : zS (∀ w, yF w → Calls Tryz.prog 165 #[.int .u8 f] w fun r w' => r = .returned (.int .i64 P) ∧ Below w.heap.size w w'))
  (KF : zS (∀ w, zN w → Calls Tryz.prog 207 #[.agg #[.bool b, .string s, .string t, .int .i64 e], .int .i64 A] w fun r w' => r = .returned (.tuple #[.string m, .bool true, .int .i64 fe]) ∧ Below w.heap.size w w'))
  (KW : zS (∀ w, Calls Tryz.prog 255 #[.string m] w fun r w' => r = .returned (.agg (cw 6 M)) ∧ Below w.heap.size w w'))
  (KB : zS (∀ w, yF w → Calls Tryz.prog 101 #[.int .u8 f, .agg (cw 6 M), .int .i64 A] w fun r w' => r = .returned (.agg #[.int .u64 i, .int .u64 j]) ∧ Below w.heap.size w w'))
  (KG : zS (∀ w, yF w → Calls Tryz.prog 39 #[.int .u8 f, .agg #[.int .u64 i, .int .u64 j], .bool b] w fun r w' => r = .returned (.agg #[.int .u64 u, .int .u64 v]) ∧ Below w.heap.size w w'))
  (hg : (g == 0) = false) (ho : decide (E < T) = false) (h1 : IntKind.i64.wrap (max T I - P) = A1) (h2 : IntKind.i64.wrap (A1 + 1) = A)
  (hT : yF w) (hT2 : zN w) : Calls Tryz.prog 204 #[.int .u8 f, .agg #[.bool b, .string s, .string t, .int .i64 e]] w fun r w' => r = .returned (.tuple #[.agg #[.int .u64 u, .int .u64 v], .bool true, .int .i64 0]) ∧ Below w.heap.size w w' := by
 have FF := zH hT
 have TT := zH hT2
 clear hT hT2
 have hat := yS 6
 have hz := cw6z
 have hff := cw6f
 have hs0 := st0
 have hcs : ∀ x, ((cw 6 x).size = 6) = True := fun x => eq_true (yT 6 x)
 obtain ⟨As, At, B0⟩ := qW w (Obj.cells #[.bool b, .string s, .string t, .int .i64 e] 41) (Obj.cells #[.int .u64 0, .int .u64 0] 25)
 go_enter Tryz.func204, Tryz.ntmps204
 go_wp2_with fail
 refine (KC.out _).mono ?_
 rintro r w1 ⟨rfl, b1⟩
 have B1 := zO B0 b1
 obtain ⟨Aa, Ab⟩ := yB b1 As At
 clear b1 B0 As At
 obtain ⟨Aw, Ax, Ay, Az⟩ := zC Aa
 obtain ⟨AA, AB⟩ := zF Ab
 go_wp2_with fail
 refine (KX.out _ (zV TT.out B1)).mono ?_
 rintro r w2 ⟨rfl, b2⟩
 have B2 := zO B1 b2
 obtain ⟨Ac, Ad⟩ := yB b2 Aa Ab
 clear b2 B1 Aa Aw Ax Ay Az Ab AA AB
 obtain ⟨AC, AD, AE, AF⟩ := zC Ac
 obtain ⟨AG, AH⟩ := zF Ad
 go_wp2_with fail
 refine (KS.out _ (zV TT.out B2)).mono ?_
 rintro r w3 ⟨rfl, b3⟩
 have B3 := zO B2 b3
 obtain ⟨Ae, Af⟩ := yB b3 Ac Ad
 clear b3 B2 Ac AC AD AE AF Ad AG AH
 obtain ⟨AI, AJ, AK, AL⟩ := zC Ae
 obtain ⟨AM, AN⟩ := zF Af
 go_wp2_with fail
 refine (KT.out _ (zV TT.out B3)).mono ?_
 rintro r w4 ⟨rfl, b4⟩
 have B4 := zO B3 b4
 obtain ⟨Ag, Ah⟩ := yB b4 Ae Af
 clear b4 B3 Ae AI AJ AK AL Af AM AN
 obtain ⟨AO, AP, AQ, AR⟩ := zC Ag
 obtain ⟨AS, AT⟩ := zF Ah
 go_wp2_with fail
 refine (KE.out _ (zW FF.out B4)).mono ?_
 rintro r w5 ⟨rfl, b5⟩
 have B5 := zO B4 b5
 obtain ⟨Ai, Aj⟩ := yB b5 Ag Ah
 clear b5 B4 Ag AO AP AQ AR Ah AS AT
 obtain ⟨AU, AV, AW, AX⟩ := zC Ai
 obtain ⟨AY, AZ⟩ := zF Aj
 go_wp2_with fail
 refine (KI.out _ (zW FF.out B5)).mono ?_
 rintro r w6 ⟨rfl, b6⟩
 have B6 := zO B5 b6
 obtain ⟨Ak, Al⟩ := yB b6 Ai Aj
 clear b6 B5 Ai AU AV AW AX Aj AY AZ
 obtain ⟨A0, A2, A3, A4⟩ := zC Ak
 obtain ⟨A5, A6⟩ := zF Al
 go_wp2_with fail
 refine (KP.out _ (zW FF.out B6)).mono ?_
 rintro r w7 ⟨rfl, b7⟩
 have B7 := zO B6 b7
 obtain ⟨Am, An⟩ := yB b7 Ak Al
 clear b7 B6 Ak A0 A2 A3 A4 Al A5 A6
 obtain ⟨A7, A8, A9, Ba⟩ := zC Am
 obtain ⟨Bb, Bc⟩ := zF An
 go_wp2_with fail
 refine (KF.out _ (zV TT.out B7)).mono ?_
 rintro r w8 ⟨rfl, b8⟩
 have B8 := zO B7 b8
 obtain ⟨Au, Av⟩ := yB b8 Am An
 clear b8 B7 Am A7 A8 A9 Ba An Bb Bc
 obtain ⟨Bd, Be, Bf, Bg⟩ := zC Au
 obtain ⟨Bh, Bi⟩ := zF Av
 have sS : zS (∀ W W1 : World, (Below w.heap.size w W ∧ W.heap[w.heap.size]? = some (.cells #[.bool b, .string s, .string t, .int .i64 e] 41)) → Below W.heap.size W W1 → (Below w.heap.size w W1 ∧ W1.heap[w.heap.size]? = some (.cells #[.bool b, .string s, .string t, .int .i64 e] 41))) := zH (fun W W1 h b => ⟨zO h.1 b, zA b _ _ _ h.2⟩)
 have sT : zS (∀ (W : World) (xA xB : Value), (Below w.heap.size w W ∧ W.heap[w.heap.size]? = some (.cells #[.bool b, .string s, .string t, .int .i64 e] 41)) → (Below w.heap.size w ((W.setCell ⟨w.heap.size + 1, 0, none⟩ xA).setCell ⟨w.heap.size + 1, 1, none⟩ xB) ∧ ((W.setCell ⟨w.heap.size + 1, 0, none⟩ xA).setCell ⟨w.heap.size + 1, 1, none⟩ xB).heap[w.heap.size]? = some (.cells #[.bool b, .string s, .string t, .int .i64 e] 41))) := zH (fun W xA xB h => ⟨zY h.1 (by first | exact Nat.le_refl _ | omega | (skip; omega)) xA xB, ((zG (by first | omega | (skip; omega))).trans ((zG (by first | omega | (skip; omega))).trans h.2))⟩)
 have sC : zS (∀ W : World, (Below w.heap.size w W ∧ W.heap[w.heap.size]? = some (.cells #[.bool b, .string s, .string t, .int .i64 e] 41)) → (Below w.heap.size w W ∧ W.heap[w.heap.size]? = some (.cells #[.bool b, .string s, .string t, .int .i64 e] 41) ∧ W.cell? ⟨w.heap.size, 0, none⟩ = some (.bool b) ∧ W.cell? ⟨w.heap.size, 1, none⟩ = some (.string s) ∧ W.cell? ⟨w.heap.size, 2, none⟩ = some (.string t) ∧ W.cell? ⟨w.heap.size, 3, none⟩ = some (.int .i64 e))) := zH (fun W h => ⟨h.1, h.2, zL (h.2) 0 _ rfl, zL (h.2) 1 _ rfl, zL (h.2) 2 _ rfl, zL (h.2) 3 _ rfl⟩)
 have s0 : Below w.heap.size w (w8).drew ∧ (w8).drew.heap[w.heap.size]? = some (.cells #[.bool b, .string s, .string t, .int .i64 e] 41) := ⟨B8.drew, Au⟩
 have rz : (w8).drew.heap[w.heap.size + 1]? = some (.cells #[.int .u64 0, .int .u64 0] 25) := Av
 have Ao := fz (k := 0) rz
 have Ap := fz (k := 1) rz
 have Aq := zL rz 0 _ rfl
 have Ar := zL rz 1 _ rfl
 go_wp2_with fail
 go_region_held3 (fun W => Below w.heap.size w W ∧ W.heap[w.heap.size]? = some (.cells #[.bool b, .string s, .string t, .int .i64 e] 41) ∧ W.cell? ⟨w.heap.size, 0, none⟩ = some (.bool b) ∧ W.cell? ⟨w.heap.size, 1, none⟩ = some (.string s) ∧ W.cell? ⟨w.heap.size, 2, none⟩ = some (.string t) ∧ W.cell? ⟨w.heap.size, 3, none⟩ = some (.int .i64 e)) (first | exact sC.out _ s1 | exact sC.out _ s0 | exact sC.out _ (sT.out _ _ _ s1) | exact sC.out _ (sT.out _ _ _ s0))
  (((first | (go_at_call 255; (first | refine (KW.out _).mono ?_ | refine (KW.out _).mono ?_)) | (go_at_call 101; (first | refine (KB.out _ (zW FF.out (And.left s1))).mono ?_ | refine (KB.out _ (zW FF.out (And.left s0))).mono ?_)) | (go_at_call 39; (first | refine (KG.out _ (zW FF.out (And.left s1))).mono ?_ | refine (KG.out _ (zW FF.out (And.left s0))).mono ?_)) | fail); rintro r wq ⟨rfl, bq⟩; have s1 := (by first | exact sS.out _ _ s1 bq | exact sS.out _ _ s0 bq); have rz := zA bq _ _ _ rz; have Ao := fz (k := 0) rz; have Aq := zL rz 0 _ rfl; have Ap := fz (k := 1) rz; have Ar := zL rz 1 _ rfl; clear bq))
 obtain ⟨E0, E1⟩ := yH rz (.int .u64 u) (.int .u64 v)
 have BZ := (by first | exact And.left s1 | exact And.left s0 : Below w.heap.size w _)
 go_wp2
 exact bodyPost_ret (v := .tuple #[.agg #[.int .u64 u, .int .u64 v], .bool true, .int .i64 0]) (by simp [results, Tryz.results204, go_sem, E0, E1]) rfl ⟨rfl, zY BZ (by first | exact Nat.le_refl _ | omega | (skip; omega)) _ _⟩
end Go.Proofs.YtkblmpmkchkpjaaGreatDoor
namespace Go.Proofs.YtkblmpmkchkpjaaGreatDoor
set_option maxRecDepth 100000
set_option maxHeartbeats 40000000
open Go.RowKit WMath XMath
set_option linter.unusedSimpArgs false
set_option linter.unusedVariables false
def vX (f : Int) (n : Nat) : XN := (mk (kN f n) (kS f n) 1 (kX f n)).1
theorem kS_lim {f : Int} (hf : xH f) (n : Nat) : kS f n < 340282366920938463463374607431768211456 ∧ -20000 ≤ kX f n ∧ kX f n ≤ 20000 := by
 obtain ⟨g1, g2, g3, g4, g5, g6, g7⟩ := fm hf
 obtain ⟨l1, l2, l3, l4, l5⟩ := lx_lim hf
 obtain ⟨n1, n2, n3, n4, n5, n6⟩ := nm8 hf
 have tl := kT_lt (f := f) n
 have el := kE_le (f := f) n
 have oe : (oV f : Int) = 2 * fE f + 1 := by unfold oV; omega
 have pn : 2 ^ pV f + kT f n < 340282366920938463463374607431768211456 := by rw [g1, Nat.add_mul] at g7; have := Nat.mul_le_mul_right (2 ^ pV f) g5; omega
 refine ⟨?_, ?_, ?_⟩
 ·
  unfold kS; split <;> (try split) <;> omega
 ·
  unfold kX; split <;> (try split) <;> omega
 ·
  unfold kX; split <;> (try split) <;> omega
theorem k_parts {f : Int} (n : Nat) (h : kC f n = 1 ∨ kC f n = 2 ∨ kC f n = 5 ∨ kC f n = 6) : kE f n < oV f ∧ kS f n = sV f (kE f n) (kT f n) ∧ kX f n = xV f (kE f n) ∧ kS f n ≠ 0 := by
 have el := kE_le (f := f) n
 have p := Nat.two_pow_pos (pV f)
 have h2 := h
 unfold kC at h2
 by_cases c1 : kE f n = oV f
 ·
  rw [if_pos c1] at h2
  exfalso
  (repeat' split at h2) <;> omega
 ·
  rw [if_neg c1] at h2
  unfold kS kX sV xV
  by_cases c2 : kE f n = 0
  ·
   rw [if_neg (by omega)] at h2
   by_cases c3 : kT f n = 0
   ·
    rw [if_neg (by omega)] at h2
    exfalso
    split at h2 <;> omega
   ·
    rw [if_pos c3] at h2
    have hc : kC f n = 2 ∨ kC f n = 5 := by
     unfold kC
     rw [if_neg c1, if_neg (by omega), if_pos c3]
     cases kN f n <;> simp
    rw [if_pos hc, if_pos hc, if_pos c2, if_pos c2]
    exact ⟨by omega, rfl, rfl, c3⟩
  ·
   have hc : kC f n = 1 ∨ kC f n = 6 := by
    unfold kC
    rw [if_neg c1, if_pos c2]
    cases kN f n <;> simp
   have hn : ¬ (kC f n = 2 ∨ kC f n = 5) := by omega
   rw [if_neg hn, if_neg hn, if_pos hc, if_pos hc, if_neg c2, if_neg c2]
   exact ⟨by omega, rfl, rfl, by omega⟩
theorem k_null {f : Int} (n : Nat) (h : kC f n = 3 ∨ kC f n = 4) : kS f n = 0 ∧ kX f n = 0 := by
 unfold kS kX
 rw [if_neg (by omega), if_neg (by omega), if_neg (by omega), if_neg (by omega)]
 exact ⟨rfl, rfl⟩
theorem vX_mk {f : Int} (hf : xH f) (n : Nat) (h : 0 < kC f n ∧ kC f n < 7) : mk (kN f n) (kS f n) 1 (kX f n) = (vX f n, 0) := by
 unfold vX
 by_cases c : kC f n = 3 ∨ kC f n = 4
 ·
  rw [(k_null n c).1, mk_null]
 ·
  obtain ⟨a, b, d, e⟩ := k_parts (f := f) n (by omega)
  have := (val_of hf (kN f n) (kE f n) (kT f n) a (kT_lt n) (by rw [← b]; exact e)).1
  rw [b, d, this]
theorem kValue_inf (f : Int) (hf : xH f) (x y n : Nat) (hx : x < 18446744073709551616) (hy : y < 18446744073709551616) (hn : y + 18446744073709551616 * x = n) (ho : okB f n = true) (hc : ¬ (0 < kC f n ∧ kC f n < 7)) (w : World) (hT : yF w) : Calls Tryz.prog 54 #[.int .u8 f, .agg #[.int .u64 x, .int .u64 y]] w fun r w' => r = .returned (.tuple #[.agg #[.bool false, .string ⟨#[]⟩, .string ⟨#[]⟩, .int .i64 0], .int .i64 80]) ∧ Below w.heap.size w w' :=
 kvalue_inf f x y (kC f n) (kS f n) (kF f n) (kX f n) w (zH (fun w hT => kUnpack_yes f hf x y n _ _ _ _ hx hy hn ho rfl w hT)) (zH (fun w => kfin_is _ false (by simp only [Bool.and_eq_false_iff, decide_eq_false_iff_not]; omega) w)) hT
theorem kValue_yes (f : Int) (hf : xH f) (x y n : Nat) (hx : x < 18446744073709551616) (hy : y < 18446744073709551616) (hn : y + 18446744073709551616 * x = n) (ho : okB f n = true) (hc : 0 < kC f n ∧ kC f n < 7) (rb : Bool) (rn rd : Nat) (re : Int) (u v : ByteArray) (hv : vX f n = ⟨rb, rn, rd, re⟩) (hu1 : yG rn = u) (hu2 : yG rd = v) (w : World) (hT : yF w) (hT2 : zN w) : Calls Tryz.prog 54 #[.int .u8 f, .agg #[.int .u64 x, .int .u64 y]] w fun r w' => r = .returned (.tuple #[.agg #[.bool rb, .string u, .string v, .int .i64 re], .int .i64 0]) ∧ Below w.heap.size w w' := by
 obtain ⟨s1, s2, s3⟩ := kS_lim hf n
 have hm := vX_mk hf n hc
 rw [hv] at hm
 have ls : nl (kS f n) ≤ 16384 := qX _ 128 (by rw [show (2 : Nat) ^ 128 = 340282366920938463463374607431768211456 by decide]; exact s1) (by decide)
 exact kvalue_yes f x y (kC f n) (kS f n) (kF f n) (kX f n) (kN f n) _ rb u v re 0 w (zH (fun w hT => kUnpack_yes f hf x y n _ _ _ _ hx hy hn ho rfl w hT)) (zH (fun w => kfin_is _ true (by simp only [Bool.and_eq_true, decide_eq_true_eq]; exact hc) w))
  (zH (fun w hT => ksign_is f hf x y n _ hx hy hn rfl w hT)) (zH (fun w => knatOf_is _ _ (lt_Q7 s1) rfl w)) (zH (fun w hT => makex_ok _ _ 1 _ _ _ rb rn rd re 0 u v rfl nb1 ls nl1 (by decide) (by omega) (by omega) hm hu1 hu2 w hT)) hT hT2
theorem top_lim {x : XN} (hx : x.can) : -1200000 ≤ yI x ∧ yI x ≤ 1200000 := by
 obtain ⟨h1, h2, h3, h4, _⟩ := hx
 unfold nl at h1 h2
 unfold yI q8
 split <;> omega
theorem bel_same {P : Program} {k : FuncId} {a : Array Value} {w : World} {v : Value} (h : Calls P k a w fun r w' => r = .returned v ∧ w' = w) : Calls P k a w fun r w' => r = .returned v ∧ Below w.heap.size w w' :=
 h.mono fun _ _ h => ⟨h.1, by rw [h.2]; exact Below.refl _ _⟩
theorem fC_yes {f : Int} (hf : xH f) : fC f = 0 := (yY hf).2.2.1
theorem fC_no {f : Int} (h0 : 0 ≤ f) (hf : ¬ xH f) : fC f = 2 := by
 unfold xH at hf
 unfold fC
 rw [if_neg (by omega)]
theorem kOf_is (f : Int) (hf : xH f) (b : Bool) (n d : Nat) (s t : ByteArray) (e : Int) (hs : yG n = s) (ht : yG d = t) (hc : (XN.mk b n d e).can) (M : Nat) (is : Bool) (u v : Nat) (hr : ofX f ⟨b, n, d, e⟩ = (M, is)) (hv : bv7 M = (u, v)) (w : World) (hT : yF w) (hT2 : zN w) : Calls Tryz.prog 204 #[.int .u8 f, .agg #[.bool b, .string s, .string t, .int .i64 e]] w fun r w' => r = .returned (.tuple #[.agg #[.int .u64 u, .int .u64 v], .bool is, .int .i64 0]) ∧ Below w.heap.size w w' := by
 have f4 := yY hf
 obtain ⟨n1, n2, n3, n4, n5, n6⟩ := nm8 hf
 have K1 : zS (∀ w, Calls Tryz.prog 37 #[.int .u8 f] w fun r w' => r = .returned (.int .i64 0) ∧ Below w.heap.size w w') := zH (fun w => bel_same (xI f 0 f4.1 f4.2.1 (fC_yes hf) w))
 have K2 : zS (∀ w, zN w → Calls Tryz.prog 110 #[.agg #[.bool b, .string s, .string t, .int .i64 e]] w fun r w' => r = .returned (.int .i64 0) ∧ Below w.heap.size w w') := zH (fun w hT => xcheckM b s t e true (qQ hs ht hc) 0 rfl w hT)
 by_cases n0 : n = 0
 ·
  unfold ofX at hr
  rw [if_pos n0] at hr
  injection hr with h1 h2
  subst h1 h2
  injection hv with h3 h4
  subst h3 h4
  exact kof_zero f b s t e w K1 K2 (zH (fun w hT => Signx_ok b n d e s t 0 hs ht hc (by unfold sg; rw [if_pos n0]) w hT)) (zH (fun w hT => sk_zero f false hf 0 0 (by rcases hf with rfl | rfl | rfl | rfl <;> decide +kernel) w hT)) hT hT2
 ·
  obtain ⟨g, hg⟩ : ∃ g, sg (XN.mk b n d e) = g := ⟨_, rfl⟩
  have g0 : (g == 0) = false := by
   rw [← hg, beq_eq_false_iff_ne]
   unfold sg
   rw [if_neg n0]
   cases b
   ·
    show (if false = true then (-1 : Int) else 1) ≠ 0
    decide
   ·
    show (if true = true then (-1 : Int) else 1) ≠ 0
    decide
  obtain ⟨T, hTop⟩ : ∃ T, yI (XN.mk b n d e) = T := ⟨_, rfl⟩
  obtain ⟨t1, t2⟩ := top_lim hc
  rw [hTop] at t1 t2
  have K3 : zS (∀ w, zN w → Calls Tryz.prog 16 #[.agg #[.bool b, .string s, .string t, .int .i64 e]] w fun r w' => r = .returned (.int .i64 g) ∧ Below w.heap.size w w') := zH (fun w hT => Signx_ok b n d e s t g hs ht hc hg w hT)
  have K4 : zS (∀ w, zN w → Calls Tryz.prog 206 #[.agg #[.bool b, .string s, .string t, .int .i64 e]] w fun r w' => r = .returned (.tuple #[.int .i64 T, .int .i64 0]) ∧ Below w.heap.size w w') := zH (fun w hT => Topx_ok b n d e s t T hs ht n0 hc hTop w hT)
  have K5 : zS (∀ w, yF w → Calls Tryz.prog 117 #[.int .u8 f] w fun r w' => r = .returned (.int .i64 (fE f)) ∧ Below w.heap.size w w') := zH (fun w hT => kb_emax f _ f4.1 f4.2.1 rfl w hT)
  by_cases hE : fE f < T
  ·
   unfold ofX at hr
   rw [if_neg n0, if_pos (by rw [hTop]; exact hE)] at hr
   injection hr with h1 h2
   subst h1 h2
   injection hv with h3 h4
   subst h3 h4
   exact kof_over f b s t e g T _ w K1 K2 K3 K4 K5 g0 (decide_eq_true hE) hT hT2
  ·
   obtain ⟨A, hA⟩ : ∃ A, ofA f (XN.mk b n d e) = A := ⟨_, rfl⟩
   have hA2 := hA
   unfold ofA at hA2
   rw [hTop] at hA2
   have fp : fP f = (pV f : Int) + 1 := (em_lim hf).2.2.2.2.2.2.2.2.1
   have K6 : zS (∀ w, yF w → Calls Tryz.prog 115 #[.int .u8 f] w fun r w' => r = .returned (.int .i64 (1 - fE f)) ∧ Below w.heap.size w w') := zH (fun w hT => s_emin f _ _ f4.1 f4.2.1 rfl (em_lim hf).2.2.2.2.1 w hT)
   have K7 : zS (∀ w, yF w → Calls Tryz.prog 165 #[.int .u8 f] w fun r w' => r = .returned (.int .i64 (fP f)) ∧ Below w.heap.size w w') := zH (fun w hT => qG f _ f4.1 f4.2.1 rfl w hT)
   obtain ⟨⟨⟨m, o⟩, fe⟩, hfl⟩ : ∃ q, flX (XN.mk b n d e) A = q := ⟨_, rfl⟩
   obtain ⟨z, hz⟩ : ∃ z, yG m = z := ⟨_, rfl⟩
   have K8 : zS (∀ w, zN w → Calls Tryz.prog 207 #[.agg #[.bool b, .string s, .string t, .int .i64 e], .int .i64 A] w fun r w' => r = .returned (.tuple #[.string z, .bool o, .int .i64 fe]) ∧ Below w.heap.size w w') := zH (fun w hT => Floorx_ok b n d e s t A m o fe z hs ht hc (by omega) (by omega) hfl hz w hT)
   have a1 : IntKind.i64.wrap (max T (1 - fE f) - fP f) = max T (1 - fE f) - fP f := zK _ (by omega) (by omega)
   have a2 : IntKind.i64.wrap (max T (1 - fE f) - fP f + 1) = A := by rw [zK _ (by omega) (by omega)]; omega
   have dE : decide (fE f < T) = false := decide_eq_false hE
   unfold ofX at hr
   rw [if_neg n0, if_neg (by rw [hTop]; exact hE), hA, hfl] at hr
   simp only [] at hr
   cases o
   ·
    rw [if_neg (by decide)] at hr
    injection hr with h1 h2
    subst h1 h2
    injection hv with h3 h4
    subst h3 h4
    exact kof_frac f b s t e g T _ _ _ _ A fe z w K1 K2 K3 K4 K5 K6 K7 K8 g0 dE a1 a2 hT hT2
   ·
    rw [if_pos rfl] at hr
    injection hr with h1 h2
    subst h2
    have hd : d = 1 ∧ A ≤ e := by
     have h3 : ¬ (d ≠ 1 ∨ e < A) := fun h3 => by
      have := fl_no (XN.mk b n d e) A hc n0 h3
      rw [hfl] at this
      exact Bool.noConfusion (show true = false from this)
     omega
    obtain ⟨rfl, hAe⟩ := hd
    obtain ⟨m', k, tt, q1, q2, q3, q4, q5⟩ := of_yes hf b n e n0 (by rw [hTop]; omega) (by rw [hA]; exact hAe)
    rw [hA] at q1 q5
    have hm : m = m' := by
     have lim : m' < 340282366920938463463374607431768211456 := by
      obtain ⟨g1, g2, g3, g4, g5, g6, g7⟩ := fm hf
      rw [g1, Nat.add_mul] at g7
      have := Nat.mul_le_mul_right (2 ^ pV f) g5
      rcases q5 with ⟨_, q, _⟩ | ⟨_, q, _⟩ <;> omega
     have := fl_yes (XN.mk b n 1 e) A n0 rfl hAe (by omega) (by omega) (by
      show nl (n * 2 ^ (e - A).toNat) ≤ 16384
      rw [← q1]
      exact qX _ 128 (by rw [show (2 : Nat) ^ 128 = 340282366920938463463374607431768211456 by decide]; exact lim) (by decide))
     rw [hfl] at this
     injection this with e1 e2
     injection e1 with e3 e4
     rw [e3, q1]
    have lim : m < 340282366920938463463374607431768211456 := by
     obtain ⟨g1, g2, g3, g4, g5, g6, g7⟩ := fm hf
     rw [g1, Nat.add_mul] at g7
     have := Nat.mul_le_mul_right (2 ^ pV f) g5
     rw [hm]
     rcases q5 with ⟨_, q, _⟩ | ⟨_, q, _⟩ <;> omega
    obtain ⟨i, j, hij⟩ : ∃ i j, bv7 (fb f m A) = (i, j) := ⟨_, _, rfl⟩
    obtain ⟨i1, j1, ij⟩ := bv_lt (by unfold fb; exact Nat.mod_lt _ (by decide)) hij
    exact kof_yes f b s t e g T _ _ _ _ A fe z m i j u v w K1 K2 K3 K4 K5 K6 K7 K8
     (zH (fun w => kwideOf_is m z hz (by
      have := qO m 16 (by rw [show (2 : Nat) ^ (8 * 16) = 340282366920938463463374607431768211456 by decide]; exact lim)
      omega) w))
     (zH (fun w hT => kfinite_is f hf m i j A (lt_Q7 lim) (by omega) (by omega) hij w hT))
     (zH (fun w hT => ksigned_is f hf i j _ u v b i1 j1 ij (by rw [h1]; exact hv) w hT)) g0 dE a1 a2 hT hT2
theorem nb_p {f : Int} (hf : xH f) : 2 * 2 ^ pV f ≤ 2 ^ 128 ∧ (oV f : Int) = 2 * fE f + 1 ∧ fE f ≤ 16383 ∧ 0 ≤ fE f ∧ lx f = 1 - fE f - (pV f : Int) ∧ pV f < 128 ∧ 3 ≤ oV f := by
 obtain ⟨n1, n2, n3, n4, n5, n6⟩ := nm8 hf
 obtain ⟨g1, g2, g3, g4, g5, g6, g7⟩ := fm hf
 have oe : (oV f : Int) = 2 * fE f + 1 := by unfold oV; omega
 refine ⟨?_, oe, n5, n6, n3, n4, g5⟩
 have := Nat.pow_le_pow_right (show 0 < 2 by decide) (show pV f + 1 ≤ 128 by omega)
 rw [Nat.pow_succ] at this
 omega
theorem vX_enc {f : Int} (hf : xH f) (neg : Bool) (e t : Nat) (he : e < oV f) (ht : t < 2 ^ pV f) :
  (0 < kC f (yQ f neg e t) ∧ kC f (yQ f neg e t) < 7) ∧ (vX f (yQ f neg e t)).can ∧ (vX f (yQ f neg e t)).val = sgn neg * ((sV f e t : Nat) : Rat) * (2 : Rat) ^ (xV f e) ∧ Bd (vX f (yQ f neg e t)) 128 20200 ∧
  (sV f e t = 0 → vX f (yQ f neg e t) = X0) ∧ (sV f e t ≠ 0 → (vX f (yQ f neg e t)).n ≠ 0 ∧ (vX f (yQ f neg e t)).b = neg) := by
 obtain ⟨p1, p2', p3, p4, p5, p6, p7⟩ := nb_p hf
 obtain ⟨k1, k2, k3, k4⟩ := qC hf neg (Nat.le_of_lt he) ht
 have hC := kC_cases hf neg e t (Nat.le_of_lt he) ht
 have sl : sV f e t < 2 ^ 128 := by unfold sV; split <;> omega
 have xl : -20000 ≤ xV f e ∧ xV f e ≤ 20000 := by unfold xV; split <;> omega
 rw [if_neg (by omega)] at hC
 by_cases s0 : sV f e t = 0
 ·
  have e0 : e = 0 ∧ t = 0 := by
   unfold sV at s0
   have := Nat.two_pow_pos (pV f)
   split at s0 <;> omega
  rw [if_neg (by omega), if_neg (by omega)] at hC
  have hc : kC f (yQ f neg e t) = 3 ∨ kC f (yQ f neg e t) = 4 := by rw [hC]; cases neg <;> simp
  have hv : vX f (yQ f neg e t) = X0 := by
   unfold vX
   rw [(k_null _ hc).1, mk_null]
  rw [hv]
  refine ⟨by omega, x0_can, ?_, ⟨Nat.two_pow_pos _, by show 1 < 2 ^ 128; decide, by decide, by decide⟩, fun _ => rfl, fun h => absurd s0 h⟩
  rw [s0]
  show sgn false * (((0 : Nat) : Rat) / ((1 : Nat) : Rat)) * (2 : Rat) ^ (0 : Int) = _
  have z : ((0 : Nat) : Rat) = 0 := rfl
  rw [z, Rat.mul_zero, Rat.zero_mul, Rat.div_def, Rat.zero_mul, Rat.mul_zero, Rat.zero_mul]
 ·
  have hc : kC f (yQ f neg e t) = 1 ∨ kC f (yQ f neg e t) = 2 ∨ kC f (yQ f neg e t) = 5 ∨ kC f (yQ f neg e t) = 6 := by
   rw [hC]
   by_cases e0 : e = 0
   ·
    have t0 : t ≠ 0 := by
     unfold sV at s0
     rw [if_pos e0] at s0
     exact s0
    rw [if_neg (by omega), if_pos t0]
    cases neg <;> simp
   ·
    rw [if_pos e0]
    cases neg <;> simp
  obtain ⟨q1, q2, q3, q4⟩ := k_parts (f := f) _ hc
  rw [k3, k4] at q2
  rw [k3] at q3
  have hm := vX_mk hf (yQ f neg e t) (by omega)
  rw [k2, q2, q3] at hm
  have w := mk_whole neg (sV f e t) (xV f e) s0 (by omega) (by
   have := tz_blen (sV f e t)
   have := xL (sV f e t) 128 sl
   omega)
  have hv : vX f (yQ f neg e t) = ⟨neg, od (sV f e t), 1, xV f e + (tz (sV f e t) : Int)⟩ := by
   rw [hm] at w
   injection w
  have o1 := od_is (sV f e t) s0
  have od0 : od (sV f e t) ≠ 0 := by omega
  have me : (mk neg (sV f e t) 1 (xV f e)).2 = 0 := by rw [hm]
  have mv := mk_val neg (sV f e t) 1 (xV f e) (by decide) me
  have mc := mk_can neg (sV f e t) 1 (xV f e) (qX _ 128 sl (by decide)) (qX 1 1 (by decide) (by decide)) (by decide) me
  have mb := (mk_ok neg (sV f e t) 1 (xV f e) 128 20000 20128 sl (by decide) rfl (by omega) (by omega) rfl (by decide)).2
  rw [hm] at mv mc mb
  simp only [] at mv mc mb
  refine ⟨by omega, mc, ?_, ⟨mb.1, mb.2.1, by have := mb.2.2.1; omega, by have := mb.2.2.2; omega⟩, fun h => absurd h s0, fun _ => ?_⟩
  ·
   rw [mv, show ((1 : Nat) : Rat) = 1 from rfl, Rat.div_def, show (1 : Rat)⁻¹ = 1 by decide +kernel, Rat.mul_one]
  ·
   rw [hv]
   exact ⟨od0, rfl⟩
def upE (f : Int) (e t : Nat) : Nat := if t + 1 = 2 ^ pV f then e + 1 else e
def upT (f : Int) (t : Nat) : Nat := if t + 1 = 2 ^ pV f then 0 else t + 1
theorem up_lim {f : Int} (hf : xH f) (e t : Nat) (ht : t < 2 ^ pV f) : upT f t < 2 ^ pV f ∧ upE f e t * 2 ^ pV f + upT f t = e * 2 ^ pV f + t + 1 ∧ sV f (upE f e t) (upT f t) ≠ 0 := by
 have p := Nat.two_pow_pos (pV f)
 unfold upT upE sV
 split
 ·
  rename_i h
  refine ⟨p, by rw [Nat.add_mul]; omega, ?_⟩
  rw [if_neg (by omega)]
  omega
 ·
  refine ⟨by omega, by omega, ?_⟩
  split <;> omega
theorem up_val {f : Int} (hf : xH f) (e t : Nat) (ht : t < 2 ^ pV f) : ((sV f (upE f e t) (upT f t) : Nat) : Rat) * (2 : Rat) ^ (xV f (upE f e t)) = (((sV f e t + 1 : Nat) : Nat) : Rat) * (2 : Rat) ^ (xV f e) := by
 have p := Nat.two_pow_pos (pV f)
 unfold upE upT
 by_cases h : t + 1 = 2 ^ pV f
 ·
  rw [if_pos h, if_pos h]
  by_cases e0 : e = 0
  ·
   unfold sV xV
   rw [if_neg (by omega), if_neg (by omega), if_pos e0, if_pos e0, e0]
   rw [show lx f + ((0 + 1 : Nat) : Int) - 1 = lx f by omega, Nat.add_zero, h]
  ·
   unfold sV xV
   rw [if_neg (by omega), if_neg (by omega), if_neg e0, if_neg e0]
   rw [show lx f + ((e + 1 : Nat) : Int) - 1 = 1 + (lx f + (e : Int) - 1) by omega, p2add, show 2 ^ pV f + t + 1 = 2 ^ pV f * 2 by omega, Rat.natCast_mul, Rat.mul_assoc, Nat.add_zero]
   rw [show (2 : Rat) ^ (1 : Int) = ((2 : Nat) : Rat) by decide +kernel]
 ·
  rw [if_neg h, if_neg h]
  unfold sV xV
  split
  ·
   rfl
  ·
   rw [Nat.add_assoc]
theorem addX_is (X Y Z : XN) (hx : X.can) (hy : Y.can) (hz : Z.can) (bx : Bd X 128 20200) (bz : Bd Y 128 20200) (hv : X.val + Y.val = Z.val) : addX X Y = (Z, 0) := by
 have h1 := add_ok X Y 128 128 20200 20200 40657 81057 hx hy bx bz rfl rfl (by decide) (by decide)
 have h2 := add_good X Y hx hy h1.1
 have h3 := can_inj _ Z h2.1 hz (by rw [h2.2, hv])
 exact Prod.ext h3 h1.1
theorem near {f : Int} (hf : xH f) (neg : Bool) (e t : Nat) (he : upE f e t < oV f) (ht : t < 2 ^ pV f) (X Y : XN)
  (h : (X = vX f (yQ f neg e t) ∧ Y = vX f (yQ f neg (upE f e t) (upT f t))) ∨ (Y = vX f (yQ f neg e t) ∧ X = vX f (yQ f neg (upE f e t) (upT f t)))) :
  ∃ Z M, addX X Y = (Z, 0) ∧ Z.can ∧ scaleX Z (-1) = (M, 0) ∧ M.can ∧ ofX f M = (0, false) := by
 have e1 : e < oV f := by unfold upE at he; split at he <;> omega
 obtain ⟨u1, u2, u3⟩ := up_lim hf e t ht
 obtain ⟨_, c1, v1, b1, _, _⟩ := vX_enc hf neg e t e1 ht
 obtain ⟨_, c2, v2, b2, _, _⟩ := vX_enc hf neg (upE f e t) (upT f t) he u1
 obtain ⟨m1, m2⟩ := mid_none hf neg e t e1 ht
 obtain ⟨p1, p2', p3, p4, p5, p6, p7⟩ := nb_p hf
 have xl : -20000 ≤ xV f e ∧ xV f e ≤ 20000 := by unfold xV; split <;> omega
 have sl : sV f e t < 2 ^ 128 := by unfold sV; split <;> omega
 have zc : (XN.mk neg (2 * sV f e t + 1) 1 (xV f e)).can := by
  refine ⟨?_, ?_, ?_, ?_, Or.inr ⟨?_, rfl, Nat.gcd_one_right _⟩⟩
  ·
   show nl (2 * sV f e t + 1) ≤ 16384
   exact qX _ 129 (by rw [Nat.pow_succ]; omega) (by decide)
  ·
   show nl 1 ≤ 16384
   exact qX _ 1 (by decide) (by decide)
  ·
   show -1048576 ≤ xV f e; omega
  ·
   show xV f e ≤ 1048576; omega
  ·
   show (2 * sV f e t + 1) % 2 = 1; omega
 have zv : (XN.mk neg (2 * sV f e t + 1) 1 (xV f e)).val = sgn neg * ((sV f e t : Nat) : Rat) * (2 : Rat) ^ (xV f e) + sgn neg * ((sV f (upE f e t) (upT f t) : Nat) : Rat) * (2 : Rat) ^ (xV f (upE f e t)) := by
  rw [Rat.mul_assoc (sgn neg) ((sV f (upE f e t) (upT f t) : Nat) : Rat), up_val hf e t ht]
  show sgn neg * (((2 * sV f e t + 1 : Nat) : Rat) / ((1 : Nat) : Rat)) * (2 : Rat) ^ (xV f e) = _
  rw [show ((1 : Nat) : Rat) = 1 from rfl, Rat.div_def, show (1 : Rat)⁻¹ = 1 by decide +kernel, Rat.mul_one, Rat.natCast_add, Rat.natCast_mul, Rat.natCast_add]
  rw [show ((1 : Nat) : Rat) = 1 from rfl, show ((2 : Nat) : Rat) = 2 from rfl]
  generalize (2 : Rat) ^ (xV f e) = P
  generalize ((sV f e t : Nat) : Rat) = S
  generalize sgn neg = g
  grind
 refine ⟨⟨neg, 2 * sV f e t + 1, 1, xV f e⟩, ⟨neg, 2 * sV f e t + 1, 1, xV f e - 1⟩, ?_, zc, ?_, m1, m2⟩
 ·
  rcases h with ⟨rfl, rfl⟩ | ⟨rfl, rfl⟩
  ·
   exact addX_is _ _ _ c1 c2 zc b1 b2 (by rw [v1, v2, zv])
  ·
   exact addX_is _ _ _ c2 c1 zc b2 b1 (by rw [v1, v2, zv, Rat.add_comm])
 ·
  unfold scaleX
  rw [if_neg (by show 2 * sV f e t + 1 ≠ 0; omega), if_pos (by show -1048576 ≤ xV f e + -1 ∧ xV f e + -1 ≤ 1048576; omega)]
  rfl
def gO (m : Int) (neg odd half more : Bool) : Bool :=
  if m = 0 then half && (more || odd) else if m = 4 then half else if m = 2 then (half || more) && neg else if m = 3 then (half || more) && !neg else false
def rS (W k : Nat) : Nat := W / 2 ^ k / 2
def rH (W k : Nat) : Bool := decide (W / 2 ^ k % 2 = 1)
def rM (W k : Nat) (more : Bool) : Bool := decide (W % 2 ^ k ≠ 0) || more
def rO (W k : Nat) : Bool := decide (rS W k % 2 = 1)
def rG (m : Int) (neg : Bool) (W k : Nat) (more : Bool) : Nat := if gO m neg (rO W k) (rH W k) (rM W k more) = true then rS W k + 1 else rS W k
def stE (f T : Int) : Int := max T (1 - fE f)
def eS (f : Int) (neg : Bool) (j S : Nat) : Nat := j * 2 ^ pV f + S + (if neg then 2 ^ wV f else 0)
def ovB (f m : Int) (neg : Bool) : Nat := if gO m neg false true true = true then eInf f neg else qH f neg
def tnB (f m : Int) (neg : Bool) (T : Int) (W : Nat) (more : Bool) : Bool := decide (T - fP f + (z7 (rG m neg W 0 more) : Int) < 1 - fE f)
def dK (f T : Int) : Nat := (stE f T - T).toNat
def dJ (f T : Int) : Nat := (stE f T - (1 - fE f)).toNat
def dlv (f m : Int) (neg : Bool) (T : Int) (W : Nat) (more : Bool) : Nat × Int :=
  if fE f < stE f T - fP f + (z7 (rG m neg W (dK f T) more) : Int) then (ovB f m neg, 5)
  else (eS f neg (dJ f T) (rG m neg W (dK f T) more), if (rH W (dK f T) || rM W (dK f T) more) = true then (if tnB f m neg T W more = true then 3 else 1) else 0)

theorem fp8 {f : Int} (hf : xH f) : fP f = (pV f : Int) + 1 := by rcases hf with rfl | rfl | rfl | rfl <;> decide
theorem od_two (s : Nat) (h : s ≠ 0) : od (2 * s) = od s ∧ tz (2 * s) = tz s + 1 := by
 have t : tz (2 * s) = tz s + 1 := by rw [tz_even (2 * s) (by omega) (by omega), Nat.mul_div_cancel_left s (by decide)]
 refine ⟨?_, t⟩
 unfold od
 rw [t, Nat.pow_succ, Nat.mul_comm (2 ^ tz s) 2, Nat.mul_div_mul_left _ _ (by decide)]
theorem mk_two (neg : Bool) (s : Nat) (x : Int) (s0 : s ≠ 0) (h1 : -1048576 ≤ x) (h2 : x + 1 + (tz s : Int) ≤ 1048576) : mk neg (2 * s) 1 x = mk neg s 1 (x + 1) := by
 obtain ⟨a, b⟩ := od_two s s0
 rw [mk_whole neg (2 * s) x (by omega) h1 (by rw [b]; omega), mk_whole neg s (x + 1) s0 (by omega) h2, a, b]
 congr 2
 omega
theorem rep {f : Int} (hf : xH f) (j S : Nat) (s0 : S ≠ 0) (hS : S ≤ 2 * 2 ^ pV f) (hj : j = 0 ∨ 2 ^ pV f ≤ S) (ht : lx f + (j : Int) - 1 + (z7 S : Int) ≤ fE f) :
  ∃ e t, e < oV f ∧ t < 2 ^ pV f ∧ sV f e t ≠ 0 ∧ (∀ neg, yQ f neg e t = eS f neg j S) ∧ (∀ neg, mk neg S 1 (lx f + (j : Int)) = mk neg (sV f e t) 1 (xV f e)) := by
 obtain ⟨n1, n2, n3, n4, n5, n6⟩ := nm8 hf
 have p := Nat.two_pow_pos (pV f)
 have oe : (oV f : Int) = 2 * fE f + 1 := by unfold oV; omega
 by_cases c1 : S < 2 ^ pV f
 ·
  obtain rfl : j = 0 := by omega
  refine ⟨0, S, by omega, c1, ?_, ?_, ?_⟩
  ·
   unfold sV; rw [if_pos rfl]; exact s0
  ·
   intro neg; unfold yQ eS; rfl
  ·
   intro neg; unfold sV xV; rw [if_pos rfl, if_pos rfl]; congr 1; omega
 by_cases c2 : S < 2 * 2 ^ pV f
 ·
  have bl : z7 S = pV f + 1 := blen_is S (pV f) (by omega) (by rw [Nat.pow_succ]; omega)
  refine ⟨j + 1, S - 2 ^ pV f, by omega, by omega, ?_, ?_, ?_⟩
  ·
   unfold sV; rw [if_neg (by omega)]; omega
  ·
   intro neg; unfold yQ eS; rw [Nat.add_mul, Nat.one_mul]; omega
  ·
   intro neg
   unfold sV xV
   rw [if_neg (by omega), if_neg (by omega), show 2 ^ pV f + (S - 2 ^ pV f) = S by omega]
   congr 1
   omega
 ·
  obtain rfl : S = 2 * 2 ^ pV f := by omega
  have bl : z7 (2 * 2 ^ pV f) = pV f + 1 + 1 := blen_is _ (pV f + 1) (by rw [Nat.pow_succ]; omega) (by rw [Nat.pow_succ, Nat.pow_succ]; omega)
  have tl := tz_blen (2 ^ pV f)
  have bl1 : z7 (2 ^ pV f) = pV f + 1 := blen_is _ (pV f) (Nat.le_refl _) (by rw [Nat.pow_succ]; omega)
  refine ⟨j + 2, 0, by omega, p, ?_, ?_, ?_⟩
  ·
   unfold sV; rw [if_neg (by omega)]; omega
  ·
   intro neg; unfold yQ eS; rw [Nat.add_mul]; omega
  ·
   intro neg
   unfold sV xV
   rw [if_neg (by omega), if_neg (by omega), Nat.add_zero, mk_two neg (2 ^ pV f) _ (by omega) (by omega) (by omega)]
   congr 1
   omega
theorem nl_small {f : Int} (hf : xH f) (S : Nat) (hS : S ≤ 2 * 2 ^ pV f) : nl S ≤ 16384 := by
 obtain ⟨n1, n2, n3, n4, n5, n6⟩ := nm8 hf
 refine qX S (pV f + 2) ?_ (by omega)
 have p := Nat.two_pow_pos (pV f)
 rw [Nat.pow_succ, Nat.pow_succ]
 omega
theorem nl_1 : nl 1 ≤ 16384 := Nat.le_trans (qO 1 1 (by decide)) (by decide)
theorem mk_small {f : Int} (hf : xH f) (neg : Bool) (j S : Nat) (s0 : S ≠ 0) (hS : S ≤ 2 * 2 ^ pV f) (hj : j ≤ 40000) : mk neg S 1 (lx f + (j : Int)) = (⟨neg, od S, 1, lx f + (j : Int) + (tz S : Int)⟩, 0) ∧ (XN.mk neg (od S) 1 (lx f + (j : Int) + (tz S : Int))).can ∧ od S ≠ 0 ∧ yI ⟨neg, od S, 1, lx f + (j : Int) + (tz S : Int)⟩ = lx f + (j : Int) - 1 + (z7 S : Int) := by
 obtain ⟨n1, n2, n3, n4, n5, n6⟩ := nm8 hf
 have p := Nat.two_pow_pos (pV f)
 have tl := tz_blen S
 have bl : z7 S ≤ pV f + 2 := (y6 S _).2 (by rw [Nat.pow_succ, Nat.pow_succ]; omega)
 have h := mk_whole neg S (lx f + (j : Int)) s0 (by omega) (by omega)
 obtain ⟨o1, o2⟩ := od_is S s0
 have od0 : od S ≠ 0 := by omega
 have bs : z7 S = z7 (od S) + tz S := by
  have := blen_shift (od S) (tz S) od0
  rw [← o1] at this
  exact this
 refine ⟨h, ?_, od0, ?_⟩
 ·
  have := mk_can neg S 1 (lx f + (j : Int)) (nl_small hf S hS) nl_1 (by decide) (by rw [h])
  rw [h] at this
  exact this
 ·
  rw [top_whole neg (od S) _ od0]
  omega
theorem of_rep {f : Int} (hf : xH f) (neg : Bool) (j S : Nat) (s0 : S ≠ 0) (hS : S ≤ 2 * 2 ^ pV f) (hj : j = 0 ∨ 2 ^ pV f ≤ S) (ht : lx f + (j : Int) - 1 + (z7 S : Int) ≤ fE f) :
  ofX f ⟨neg, od S, 1, lx f + (j : Int) + (tz S : Int)⟩ = (eS f neg j S, true) := by
 obtain ⟨n1, n2, n3, n4, n5, n6⟩ := nm8 hf
 obtain ⟨l1, l2, l3⟩ := blen_low S s0
 have j4 : j ≤ 40000 := by omega
 obtain ⟨e, t, he, htt, nz, h1, h2⟩ := rep hf j S s0 hS hj ht
 have h3 := (mk_small hf neg j S s0 hS j4).1
 obtain ⟨v1, v2, v3⟩ := val_of hf neg e t he htt nz
 rw [h2 neg, v1] at h3
 injection h3 with h4 h5
 rw [← h4, v2, h1 neg]
def Wok (f : Int) (W : Nat) : Prop := 2 * 2 ^ pV f ≤ W ∧ W < 4 * 2 ^ pV f
theorem rG_two (m : Int) (neg : Bool) (W k : Nat) (more : Bool) : rG m neg W k more = rS W k ∨ rG m neg W k more = rS W k + 1 := by
 unfold rG; split <;> simp
theorem rS_lim {f : Int} {W : Nat} (h : Wok f W) (k : Nat) : rS W k < 2 * 2 ^ pV f ∧ (k = 0 → 2 ^ pV f ≤ rS W k) ∧ (0 < k → rS W k < 2 ^ pV f) := by
 obtain ⟨h1, h2⟩ := h
 unfold rS
 have d0 : W / 2 ^ k ≤ W := Nat.div_le_self _ _
 refine ⟨by omega, ?_, ?_⟩
 ·
  intro e
  subst e
  rw [Nat.pow_zero, Nat.div_one]
  omega
 ·
  intro hk
  obtain ⟨i, rfl⟩ : ∃ i, k = i + 1 := ⟨k - 1, by omega⟩
  rw [Nat.pow_succ, Nat.mul_comm (2 ^ i) 2, ← Nat.div_div_eq_div_mul]
  have d1 : W / 2 / 2 ^ i ≤ W / 2 := Nat.div_le_self _ _
  omega
theorem rG_lim {f : Int} {W : Nat} (h : Wok f W) (m : Int) (neg : Bool) (k : Nat) (more : Bool) : rG m neg W k more ≤ 2 * 2 ^ pV f ∧ (k = 0 → 2 ^ pV f ≤ rG m neg W k more) ∧ (0 < k → rG m neg W k more ≤ 2 ^ pV f) := by
 obtain ⟨a, b, c⟩ := rS_lim h k
 rcases rG_two m neg W k more with e | e <;> rw [e] <;> refine ⟨by omega, fun q => ?_, fun q => ?_⟩ <;> first | (have := b q; omega) | (have := c q; omega)
theorem rG0_len {f : Int} {W : Nat} (h : Wok f W) (m : Int) (neg : Bool) (more : Bool) : z7 (rG m neg W 0 more) = pV f + 1 ∨ z7 (rG m neg W 0 more) = pV f + 2 := by
 obtain ⟨a, b, c⟩ := rG_lim h m neg 0 more
 have b := b rfl
 have p := Nat.two_pow_pos (pV f)
 have u : z7 (rG m neg W 0 more) ≤ pV f + 2 := (y6 _ _).2 (by rw [Nat.pow_succ, Nat.pow_succ]; omega)
 have l := (y6 (rG m neg W 0 more) (pV f))
 omega
theorem st_lx {f : Int} (hf : xH f) (T : Int) : stE f T - fP f + 1 = lx f + (dJ f T : Int) := by
 have := fp8 hf
 have e := (nm8 hf).2.2.1
 unfold dJ stE
 omega
theorem jk {f : Int} (T : Int) : (dJ f T = 0 ∧ T + (dK f T : Int) = 1 - fE f) ∨ (dK f T = 0 ∧ T = 1 - fE f + (dJ f T : Int)) := by
 unfold dJ dK stE
 omega
theorem tn_lo {f : Int} (hf : xH f) {W : Nat} (hW : Wok f W) (m : Int) (neg : Bool) (T : Int) (more : Bool) (h : T < 1 - fE f - 1) : tnB f m neg T W more = true := by
 have := rG0_len hW m neg more
 have := fp8 hf
 unfold tnB
 rw [decide_eq_true_iff]
 omega
theorem null_lim {f : Int} (hf : xH f) {W : Nat} (hW : Wok f W) (m : Int) (neg : Bool) (k : Nat) (more : Bool) (h : rG m neg W k more = 0) : 3 ≤ k ∧ (rH W k || rM W k more) = true := by
 have h0 : rS W k = 0 := by rcases rG_two m neg W k more with e | e <;> omega
 obtain ⟨g1, g2, g3, g4, g5, g6, g7⟩ := fm hf
 obtain ⟨w1, w2⟩ := hW
 have p := Nat.two_pow_pos (pV f)
 unfold rS at h0
 have hd := Nat.div_add_mod W (2 ^ k)
 constructor
 ·
  rcases Nat.lt_or_ge k 3 with c | c
  ·
   exfalso
   have e : k = 0 ∨ k = 1 ∨ k = 2 := by omega
   rcases e with rfl | rfl | rfl
   all_goals (simp only [Nat.pow_zero, Nat.pow_one, Nat.div_one, show (2 : Nat) ^ 2 = 4 by decide] at h0; omega)
  ·
   exact c
 ·
  have : ¬ (W / 2 ^ k = 0 ∧ W % 2 ^ k = 0) := fun q => by rw [q.1, q.2, Nat.mul_zero] at hd; omega
  unfold rH rM
  by_cases c : W / 2 ^ k = 0
  ·
   rw [decide_eq_true (show W % 2 ^ k ≠ 0 by omega)]; simp
  ·
   rw [decide_eq_true (show W / 2 ^ k % 2 = 1 by omega)]; simp
end Go.Proofs.YtkblmpmkchkpjaaGreatDoor
namespace Go.Proofs.YtkblmpmkchkpjaaGreatDoor
set_option maxRecDepth 100000
set_option maxHeartbeats 40000000
open Go.RowKit WMath
set_option linter.unusedSimpArgs false
set_option linter.unusedVariables false
theorem set5_below {n : Nat} {w wr : World} {b : Nat} (h : Below n w wr) (hb : n ≤ b) (v0 v1 v2 v3 v4 : Value) : Below n w (((((wr.setCell ⟨b, 0, none⟩ v0).setCell ⟨b, 1, none⟩ v1).setCell ⟨b, 2, none⟩ v2).setCell ⟨b, 3, none⟩ v3).setCell ⟨b, 4, none⟩ v4) :=
 ((((h.setCell hb _).setCell hb _).setCell hb _).setCell hb _).setCell hb _
theorem set5_row {w : World} {b : Nat} {c : Array Value} {T : TypeId} (h : w.heap[b]? = some (.cells c T)) (hc : c.size = 5) (v0 v1 v2 v3 v4 : Value) :
  (((((w.setCell ⟨b, 0, none⟩ v0).setCell ⟨b, 1, none⟩ v1).setCell ⟨b, 2, none⟩ v2).setCell ⟨b, 3, none⟩ v3).setCell ⟨b, 4, none⟩ v4).heap[b]? = some (.cells #[v0, v1, v2, v3, v4] T) := by
 rw [z6 (z6 (z6 (z6 (z6 h))))]
 obtain ⟨l⟩ := c
 match l, hc with
 | [a0, a1, a2, a3, a4], _ => rfl
theorem set5_cells {w : World} {b : Nat} {c : Array Value} {T : TypeId} (h : w.heap[b]? = some (.cells c T)) (hc : c.size = 5) (v0 v1 v2 v3 v4 : Value) :
  (((((w.setCell ⟨b, 0, none⟩ v0).setCell ⟨b, 1, none⟩ v1).setCell ⟨b, 2, none⟩ v2).setCell ⟨b, 3, none⟩ v3).setCell ⟨b, 4, none⟩ v4).cell? ⟨b, 0, none⟩ = some v0 ∧
  (((((w.setCell ⟨b, 0, none⟩ v0).setCell ⟨b, 1, none⟩ v1).setCell ⟨b, 2, none⟩ v2).setCell ⟨b, 3, none⟩ v3).setCell ⟨b, 4, none⟩ v4).cell? ⟨b, 1, none⟩ = some v1 ∧
  (((((w.setCell ⟨b, 0, none⟩ v0).setCell ⟨b, 1, none⟩ v1).setCell ⟨b, 2, none⟩ v2).setCell ⟨b, 3, none⟩ v3).setCell ⟨b, 4, none⟩ v4).cell? ⟨b, 2, none⟩ = some v2 ∧
  (((((w.setCell ⟨b, 0, none⟩ v0).setCell ⟨b, 1, none⟩ v1).setCell ⟨b, 2, none⟩ v2).setCell ⟨b, 3, none⟩ v3).setCell ⟨b, 4, none⟩ v4).cell? ⟨b, 3, none⟩ = some v3 ∧
  (((((w.setCell ⟨b, 0, none⟩ v0).setCell ⟨b, 1, none⟩ v1).setCell ⟨b, 2, none⟩ v2).setCell ⟨b, 3, none⟩ v3).setCell ⟨b, 4, none⟩ v4).cell? ⟨b, 4, none⟩ = some v4 := by
 have r := set5_row h hc v0 v1 v2 v3 v4
 exact ⟨zE r 0 _ rfl, zE r 1 _ rfl, zE r 2 _ rfl, zE r 3 _ rfl, zE r 4 _ rfl⟩
theorem ru_stepAt (f T P A1 v : Int) (w : World)
  (KP : zS (∀ w, yF w → Calls Tryz.prog 165 #[.int .u8 f] w fun r w' => r = .returned (.int .i64 P) ∧ Below w.heap.size w w'))
  (h1 : IntKind.i64.wrap (T - P) = A1) (h2 : IntKind.i64.wrap (A1 + 1) = v) (hT : yF w) : Calls Tryz.prog 114 #[.int .u8 f, .int .i64 T] w fun r w' => r = .returned (.int .i64 v) ∧ Below w.heap.size w w' := by
 have FF := zH hT
 clear hT
 have B0 : Below w.heap.size w w := (Below.refl _ _)
 go_enter Tryz.func114, Tryz.ntmps114
 go_wp2_with fail
 refine (KP.out _ (zW FF.out B0)).mono ?_
 rintro r w1 ⟨rfl, b1⟩
 have B1 := zO B0 b1
 clear b1 B0 
 go_wp2
 go_ret
 exact ⟨rfl, B1⟩
theorem ru_topOf (b : Bool) (s t : ByteArray) (e T err : Int) (w : World)
  (KT : zS (∀ w, zN w → Calls Tryz.prog 206 #[.agg #[.bool b, .string s, .string t, .int .i64 e]] w fun r w' => r = .returned (.tuple #[.int .i64 T, .int .i64 err]) ∧ Below w.heap.size w w'))
  (hT : zN w) : Calls Tryz.prog 122 #[.agg #[.bool b, .string s, .string t, .int .i64 e]] w fun r w' => r = .returned (.int .i64 T) ∧ Below w.heap.size w w' := by
 have TT := zH hT
 clear hT
 obtain ⟨Aa, B0⟩ := yO w (Obj.cells #[.bool b, .string s, .string t, .int .i64 e] 41)
 go_enter Tryz.func122, Tryz.ntmps122
 go_wp2_with fail
 refine (KT.out _ (zV TT.out B0)).mono ?_
 rintro r w1 ⟨rfl, b1⟩
 have B1 := zO B0 b1
 have Ab := zA b1 _ _ _ Aa
 clear b1 B0 Aa
 obtain ⟨Ac, Ad, Ae, Af⟩ := zC Ab
 go_wp2
 go_ret
 exact ⟨rfl, B1⟩
theorem ru_ratio (b : Bool) (s t : ByteArray) (e A err : Int) (m : ByteArray) (is : Bool) (w : World)
  (KF : zS (∀ w, zN w → Calls Tryz.prog 207 #[.agg #[.bool b, .string s, .string t, .int .i64 e], .int .i64 A] w fun r w' => r = .returned (.tuple #[.string m, .bool is, .int .i64 err]) ∧ Below w.heap.size w w'))
  (hT : zN w) : Calls Tryz.prog 123 #[.agg #[.bool b, .string s, .string t, .int .i64 e], .int .i64 A] w fun r w' => r = .returned (.tuple #[.string m, .bool is]) ∧ Below w.heap.size w w' := by
 have TT := zH hT
 clear hT
 obtain ⟨Aa, B0⟩ := yO w (Obj.cells #[.bool b, .string s, .string t, .int .i64 e] 162)
 go_enter Tryz.func123, Tryz.ntmps123
 go_wp2_with fail
 refine (KF.out _ (zV TT.out B0)).mono ?_
 rintro r w1 ⟨rfl, b1⟩
 have B1 := zO B0 b1
 have Ab := zA b1 _ _ _ Aa
 clear b1 B0 Aa
 obtain ⟨Ac, Ad, Ae, Af⟩ := zC Ab
 go_wp2
 go_ret2
 exact ⟨rfl, B1⟩
theorem ru_rtop (s : ByteArray) (st : Int) (hf mo : Bool) (l A1 v : Int) (w : World)
  (KL : zS (∀ w, Calls Tryz.prog 202 #[.string s] w fun r w' => r = .returned (.int .i64 l) ∧ Below w.heap.size w w'))
  (h1 : IntKind.i64.wrap (st + l) = A1) (h2 : IntKind.i64.wrap (A1 - 1) = v) : Calls Tryz.prog 116 #[.agg #[.string s, .int .i64 st, .bool hf, .bool mo]] w fun r w' => r = .returned (.int .i64 v) ∧ Below w.heap.size w w' := by
 obtain ⟨Aa, B0⟩ := yO w (Obj.cells #[.string s, .int .i64 st, .bool hf, .bool mo] 152)
 go_enter Tryz.func116, Tryz.ntmps116
 have sS : zS (∀ W W1 : World, (Below w.heap.size w W ∧ W.heap[w.heap.size]? = some (.cells #[.string s, .int .i64 st, .bool hf, .bool mo] 152)) → Below W.heap.size W W1 → (Below w.heap.size w W1 ∧ W1.heap[w.heap.size]? = some (.cells #[.string s, .int .i64 st, .bool hf, .bool mo] 152))) := zH (fun W W1 h b => ⟨zO h.1 b, zA b _ _ _ h.2⟩)
 have sC : zS (∀ W : World, (Below w.heap.size w W ∧ W.heap[w.heap.size]? = some (.cells #[.string s, .int .i64 st, .bool hf, .bool mo] 152)) → (Below w.heap.size w W ∧ W.heap[w.heap.size]? = some (.cells #[.string s, .int .i64 st, .bool hf, .bool mo] 152) ∧ W.cell? ⟨w.heap.size, 0, none⟩ = some (.string s) ∧ W.cell? ⟨w.heap.size, 1, none⟩ = some (.int .i64 st) ∧ W.cell? ⟨w.heap.size, 2, none⟩ = some (.bool hf) ∧ W.cell? ⟨w.heap.size, 3, none⟩ = some (.bool mo))) := zH (fun W h => ⟨h.1, h.2, zL (h.2) 0 _ rfl, zL (h.2) 1 _ rfl, zL (h.2) 2 _ rfl, zL (h.2) 3 _ rfl⟩)
 have s0 : Below w.heap.size w ((w.alloc (Obj.cells #[.string s, .int .i64 st, .bool hf, .bool mo] 152))).drew ∧ ((w.alloc (Obj.cells #[.string s, .int .i64 st, .bool hf, .bool mo] 152))).drew.heap[w.heap.size]? = some (.cells #[.string s, .int .i64 st, .bool hf, .bool mo] 152) := ⟨B0.drew, Aa⟩
 go_wp2_with fail
 go_region_held3 (fun W => Below w.heap.size w W ∧ W.heap[w.heap.size]? = some (.cells #[.string s, .int .i64 st, .bool hf, .bool mo] 152) ∧ W.cell? ⟨w.heap.size, 0, none⟩ = some (.string s) ∧ W.cell? ⟨w.heap.size, 1, none⟩ = some (.int .i64 st) ∧ W.cell? ⟨w.heap.size, 2, none⟩ = some (.bool hf) ∧ W.cell? ⟨w.heap.size, 3, none⟩ = some (.bool mo)) (first | exact sC.out _ s1 | exact sC.out _ s0)
  (first | (go_at_call 202; (first | refine (KL.out _).mono ?_ | refine (KL.out _).mono ?_); rintro r wq ⟨rfl, bq⟩; have s1 := (by first | exact sS.out _ _ s1 bq | exact sS.out _ _ s0 bq); clear bq) | fail)
 have B1 := (And.left s1)
 have Ab := s1.2
 clear s0 s1 sS sC B0 Aa
 obtain ⟨Ac, Ad, Ae, Af⟩ := zC Ab
 go_wp2
 go_ret
 exact ⟨rfl, B1⟩
theorem ru_goesOn (m : Int) (hm : 0 ≤ m ∧ m ≤ 4) (neg odd half more o : Bool) (ho : gO m neg odd half more = o) (w : World) : Calls Tryz.prog 200 #[.int .u8 m, .bool neg, .bool odd, .agg #[.bool half, .bool more]] w fun r w' => r = .returned (.bool o) ∧ Below w.heap.size w w' := by
 subst ho
 have c : m = 0 ∨ m = 1 ∨ m = 2 ∨ m = 3 ∨ m = 4 := by omega
 clear hm
 rcases c with rfl | rfl | rfl | rfl | rfl
 ·
  cases half <;> cases more <;> cases odd
  all_goals
   go_enter Tryz.func200, Tryz.ntmps200
   go_wp2
   go_ret
   exact ⟨rfl, yK _ _⟩
 ·
  go_enter Tryz.func200, Tryz.ntmps200
  go_wp2
  go_ret
  exact ⟨rfl, yK _ _⟩
 ·
  cases half <;> cases more <;> cases neg
  all_goals
   go_enter Tryz.func200, Tryz.ntmps200
   go_wp2
   go_ret
   exact ⟨rfl, yK _ _⟩
 ·
  cases half <;> cases more <;> cases neg
  all_goals
   go_enter Tryz.func200, Tryz.ntmps200
   go_wp2
   go_ret
   exact ⟨rfl, yK _ _⟩
 ·
  cases half <;> cases more <;> cases odd
  all_goals
   go_enter Tryz.func200, Tryz.ntmps200
   go_wp2
   go_ret
   exact ⟨rfl, yK _ _⟩
theorem ru_beyond (f m : Int) (neg o : Bool) (u v : Nat) (w : World)
  (KG : zS (∀ w, Calls Tryz.prog 200 #[.int .u8 m, .bool neg, .bool false, .agg #[.bool true, .bool true]] w fun r w' => r = .returned (.bool o) ∧ Below w.heap.size w w'))
  (KI : zS (o = true → ∀ w, yF w → Calls Tryz.prog 96 #[.int .u8 f, .bool neg] w fun r w' => r = .returned (.agg #[.int .u64 u, .int .u64 v]) ∧ Below w.heap.size w w'))
  (KT : zS (o = false → ∀ w, yF w → Calls Tryz.prog 203 #[.int .u8 f, .bool neg] w fun r w' => r = .returned (.agg #[.int .u64 u, .int .u64 v]) ∧ Below w.heap.size w w'))
  (hT : yF w) : Calls Tryz.prog 118 #[.int .u8 f, .int .u8 m, .bool neg] w fun r w' => r = .returned (.agg #[.int .u64 u, .int .u64 v]) ∧ Below w.heap.size w w' := by
 have FF := zH hT
 clear hT
 cases o
 ·
  have K2 := zH (KT.out rfl)
  clear KI KT
  obtain ⟨Ac, B0⟩ := yO w (Obj.cells #[.int .u64 0, .int .u64 0] 25)
  go_enter Tryz.func118, Tryz.ntmps118
  go_wp2_with fail
  refine (KG.out _).mono ?_
  rintro r w1 ⟨rfl, b1⟩
  have B1 := zO B0 b1
  have Ab := zA b1 _ _ _ Ac
  clear b1 B0 Ac
  obtain ⟨Ad, Ae⟩ := zF Ab
  go_wp2_with fail
  refine (K2.out _ (zW FF.out B1)).mono ?_
  rintro r w2 ⟨rfl, b2⟩
  have B2 := zO B1 b2
  have Aa := zA b2 _ _ _ Ab
  clear b2 B1 Ab Ad Ae
  obtain ⟨Af, Ag⟩ := zF Aa
  have q0 := fz (k := 0) Aa
  have q1 := fz (k := 1) Aa
  obtain ⟨E0, E1⟩ := yH Aa (.int .u64 u) (.int .u64 v)
  go_wp2
  exact bodyPost_ret (v := .agg #[.int .u64 u, .int .u64 v]) (by simp [results, Tryz.results118, go_sem, E0, E1]) rfl ⟨rfl, zY B2 (by first | exact Nat.le_refl _ | omega | (skip; omega)) _ _⟩
 ·
  have K2 := zH (KI.out rfl)
  clear KI KT
  obtain ⟨Ac, B0⟩ := yO w (Obj.cells #[.int .u64 0, .int .u64 0] 25)
  go_enter Tryz.func118, Tryz.ntmps118
  go_wp2_with fail
  refine (KG.out _).mono ?_
  rintro r w1 ⟨rfl, b1⟩
  have B1 := zO B0 b1
  have Ab := zA b1 _ _ _ Ac
  clear b1 B0 Ac
  obtain ⟨Ad, Ae⟩ := zF Ab
  go_wp2_with fail
  refine (K2.out _ (zW FF.out B1)).mono ?_
  rintro r w2 ⟨rfl, b2⟩
  have B2 := zO B1 b2
  have Aa := zA b2 _ _ _ Ab
  clear b2 B1 Ab Ad Ae
  obtain ⟨Af, Ag⟩ := zF Aa
  have q0 := fz (k := 0) Aa
  have q1 := fz (k := 1) Aa
  obtain ⟨E0, E1⟩ := yH Aa (.int .u64 u) (.int .u64 v)
  go_wp2
  exact bodyPost_ret (v := .agg #[.int .u64 u, .int .u64 v]) (by simp [results, Tryz.results118, go_sem, E0, E1]) rfl ⟨rfl, zY B2 (by first | exact Nat.le_refl _ | omega | (skip; omega)) _ _⟩
theorem ru_encoded_pos (f : Int) (s : ByteArray) (st : Int) (hf mo : Bool) (xb : Bool) (xs xt : ByteArray) (xe me : Int) (u v : Nat) (is : Bool) (oe : Int) (w : World)
  (KM : zS (∀ w, zN w → Calls Tryz.prog 130 #[.bool false, .string s, .string ⟨#[1]⟩, .int .i64 st] w fun r w' => r = .returned (.tuple #[.agg #[.bool xb, .string xs, .string xt, .int .i64 xe], .int .i64 me]) ∧ Below w.heap.size w w'))
  (KO : zS (∀ w, yF w → zN w → Calls Tryz.prog 204 #[.int .u8 f, .agg #[.bool xb, .string xs, .string xt, .int .i64 xe]] w fun r w' => r = .returned (.tuple #[.agg #[.int .u64 u, .int .u64 v], .bool is, .int .i64 oe]) ∧ Below w.heap.size w w'))
  (hT : yF w) (hT2 : zN w) : Calls Tryz.prog 119 #[.int .u8 f, .bool false, .agg #[.string s, .int .i64 st, .bool hf, .bool mo]] w fun r w' => r = .returned (.agg #[.int .u64 u, .int .u64 v]) ∧ Below w.heap.size w w' := by
 have FF := zH hT
 have TT := zH hT2
 clear hT hT2
 obtain ⟨Aj, Ak, B0⟩ := qW w (Obj.cells #[.string s, .int .i64 st, .bool hf, .bool mo] 152) (Obj.cells #[.int .u64 0, .int .u64 0] 25)
 go_enter Tryz.func119, Tryz.ntmps119
 go_wp2_with fail
 refine (KM.out _ (zV TT.out B0)).mono ?_
 rintro r w1 ⟨rfl, b1⟩
 have B1 := zO B0 b1
 obtain ⟨Aa, Ab⟩ := yB b1 Aj Ak
 clear b1 B0 Aj Ak
 obtain ⟨Al, Am, An, Ao⟩ := zC Aa
 obtain ⟨Ap, Aq⟩ := zF Ab
 have S2 := zH B1.size
 have Ar := z8 Aa
 have As := z8 Ab
 have Ag := heap_alloc_last w1 (Obj.cells #[.bool xb, .string xs, .string xt, .int .i64 xe] 41)
 have B2 := zO B1 (yK w1 (Obj.cells #[.bool xb, .string xs, .string xt, .int .i64 xe] 41))
 obtain ⟨Ah, Ai⟩ := yB (yK w1 (Obj.cells #[.bool xb, .string xs, .string xt, .int .i64 xe] 41)) Aa Ab
 clear B1 Aa Al Am An Ao Ab Ap Aq
 obtain ⟨At, Au, Av, Aw⟩ := zC Ah
 obtain ⟨Ax, Ay⟩ := zF Ai
 obtain ⟨Az, AA, AB, AC⟩ := zC Ag
 go_wp2_with fail
 refine (KO.out _ (zW FF.out B2) (zV TT.out B2)).mono ?_
 rintro r w3 ⟨rfl, b3⟩
 have B3 := zO B2 b3
 obtain ⟨Ac, Ad, Ae⟩ := yA b3 Ah Ai Ag
 clear b3 B2 Ah At Au Av Aw Ai Ax Ay Ag Az AA AB AC
 obtain ⟨AD, AE, AF, AG⟩ := zC Ac
 obtain ⟨AH, AI⟩ := zF Ad
 obtain ⟨AJ, AK, AL, AM⟩ := zC Ae
 have S4 := zH B3.size
 have AN := z8 Ac
 have AO := z8 Ad
 have AP := z8 Ae
 have AQ := heap_alloc_last w3 (Obj.cells #[.int .u64 u, .int .u64 v] 25)
 have B4 := zO B3 (yK w3 (Obj.cells #[.int .u64 u, .int .u64 v] 25))
 obtain ⟨AR, Af, AS⟩ := yA (yK w3 (Obj.cells #[.int .u64 u, .int .u64 v] 25)) Ac Ad Ae
 clear B3 Ac AD AE AF AG Ad AH AI Ae AJ AK AL AM
 obtain ⟨AT, AU, AV, AW⟩ := zC AR
 obtain ⟨AX, AY⟩ := zF Af
 obtain ⟨AZ, A0, A1, A2⟩ := zC AS
 obtain ⟨A3, A4⟩ := zF AQ
 have q0 := fz (k := 0) Af
 have q1 := fz (k := 1) Af
 obtain ⟨E0, E1⟩ := yH Af (.int .u64 u) (.int .u64 v)
 go_wp2
 exact bodyPost_ret (v := .agg #[.int .u64 u, .int .u64 v]) (by simp [results, Tryz.results119, go_sem, E0, E1]) rfl ⟨rfl, zY B4 (by first | exact Nat.le_refl _ | omega | (have := S2.out; have := Ar.out; have := As.out; have := S4.out; have := AN.out; have := AO.out; have := AP.out; omega)) _ _⟩
theorem ru_encoded_neg (f : Int) (s : ByteArray) (st : Int) (hf mo : Bool) (xb : Bool) (xs xt : ByteArray) (xe me : Int) (u v u' v' : Nat) (is : Bool) (oe : Int) (w : World)
  (KM : zS (∀ w, zN w → Calls Tryz.prog 130 #[.bool false, .string s, .string ⟨#[1]⟩, .int .i64 st] w fun r w' => r = .returned (.tuple #[.agg #[.bool xb, .string xs, .string xt, .int .i64 xe], .int .i64 me]) ∧ Below w.heap.size w w'))
  (KO : zS (∀ w, yF w → zN w → Calls Tryz.prog 204 #[.int .u8 f, .agg #[.bool xb, .string xs, .string xt, .int .i64 xe]] w fun r w' => r = .returned (.tuple #[.agg #[.int .u64 u, .int .u64 v], .bool is, .int .i64 oe]) ∧ Below w.heap.size w w'))
  (KF : zS (∀ w, yF w → Calls Tryz.prog 205 #[.int .u8 f, .agg #[.int .u64 u, .int .u64 v]] w fun r w' => r = .returned (.agg #[.int .u64 (u' : Nat), .int .u64 (v' : Nat)]) ∧ Below w.heap.size w w'))
  (hT : yF w) (hT2 : zN w) : Calls Tryz.prog 119 #[.int .u8 f, .bool true, .agg #[.string s, .int .i64 st, .bool hf, .bool mo]] w fun r w' => r = .returned (.agg #[.int .u64 (u' : Nat), .int .u64 (v' : Nat)]) ∧ Below w.heap.size w w' := by
 have FF := zH hT
 have TT := zH hT2
 clear hT hT2
 obtain ⟨An, Ao, B0⟩ := qW w (Obj.cells #[.string s, .int .i64 st, .bool hf, .bool mo] 152) (Obj.cells #[.int .u64 0, .int .u64 0] 25)
 go_enter Tryz.func119, Tryz.ntmps119
 go_wp2_with fail
 refine (KM.out _ (zV TT.out B0)).mono ?_
 rintro r w1 ⟨rfl, b1⟩
 have B1 := zO B0 b1
 obtain ⟨Aa, Ab⟩ := yB b1 An Ao
 clear b1 B0 An Ao
 obtain ⟨Ap, Aq, Ar, As⟩ := zC Aa
 obtain ⟨At, Au⟩ := zF Ab
 have S2 := zH B1.size
 have Av := z8 Aa
 have Aw := z8 Ab
 have Ag := heap_alloc_last w1 (Obj.cells #[.bool xb, .string xs, .string xt, .int .i64 xe] 41)
 have B2 := zO B1 (yK w1 (Obj.cells #[.bool xb, .string xs, .string xt, .int .i64 xe] 41))
 obtain ⟨Ah, Ai⟩ := yB (yK w1 (Obj.cells #[.bool xb, .string xs, .string xt, .int .i64 xe] 41)) Aa Ab
 clear B1 Aa Ap Aq Ar As Ab At Au
 obtain ⟨Ax, Ay, Az, AA⟩ := zC Ah
 obtain ⟨AB, AC⟩ := zF Ai
 obtain ⟨AD, AE, AF, AG⟩ := zC Ag
 go_wp2_with fail
 refine (KO.out _ (zW FF.out B2) (zV TT.out B2)).mono ?_
 rintro r w3 ⟨rfl, b3⟩
 have B3 := zO B2 b3
 obtain ⟨Ac, Ad, Ae⟩ := yA b3 Ah Ai Ag
 clear b3 B2 Ah Ax Ay Az AA Ai AB AC Ag AD AE AF AG
 obtain ⟨AH, AI, AJ, AK⟩ := zC Ac
 obtain ⟨AL, AM⟩ := zF Ad
 obtain ⟨AN, AO, AP, AQ⟩ := zC Ae
 have S4 := zH B3.size
 have AR := z8 Ac
 have AS := z8 Ad
 have AT := z8 Ae
 have Aj := heap_alloc_last w3 (Obj.cells #[.int .u64 u, .int .u64 v] 25)
 have B4 := zO B3 (yK w3 (Obj.cells #[.int .u64 u, .int .u64 v] 25))
 obtain ⟨Ak, Al, Am⟩ := yA (yK w3 (Obj.cells #[.int .u64 u, .int .u64 v] 25)) Ac Ad Ae
 clear B3 Ac AH AI AJ AK Ad AL AM Ae AN AO AP AQ
 obtain ⟨AU, AV, AW, AX⟩ := zC Ak
 obtain ⟨AY, AZ⟩ := zF Al
 obtain ⟨A0, A1, A2, A3⟩ := zC Am
 obtain ⟨A4, A5⟩ := zF Aj
 go_wp2_with fail
 refine (KF.out _ (zW FF.out B4)).mono ?_
 rintro r w5 ⟨rfl, b5⟩
 have B5 := zO B4 b5
 obtain ⟨A6, Af, A7, A8⟩ := qT b5 Ak Al Am Aj
 clear b5 B4 Ak AU AV AW AX Al AY AZ Am A0 A1 A2 A3 Aj A4 A5
 obtain ⟨A9, Ba, Bb, Bc⟩ := zC A6
 obtain ⟨Bd, Be⟩ := zF Af
 obtain ⟨Bf, Bg, Bh, Bi⟩ := zC A7
 obtain ⟨Bj, Bk⟩ := zF A8
 have q0 := fz (k := 0) Af
 have q1 := fz (k := 1) Af
 obtain ⟨E0, E1⟩ := yH Af (.int .u64 (u' : Nat)) (.int .u64 (v' : Nat))
 go_wp2
 exact bodyPost_ret (v := .agg #[.int .u64 (u' : Nat), .int .u64 (v' : Nat)]) (by simp [results, Tryz.results119, go_sem, E0, E1]) rfl ⟨rfl, zY B5 (by first | exact Nat.le_refl _ | omega | (have := S2.out; have := Av.out; have := Aw.out; have := S4.out; have := AR.out; have := AS.out; have := AT.out; omega)) _ _⟩
end Go.Proofs.YtkblmpmkchkpjaaGreatDoor
