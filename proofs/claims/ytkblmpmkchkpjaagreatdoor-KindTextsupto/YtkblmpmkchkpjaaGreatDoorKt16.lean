/-
  What the functions that the statement reaches return: part 16 (T1q, TK, TL, TM, TN).
-/
import Derived.Lib.ItoaNum
import Derived.Lib.ItoaMem
import Derived.Laws.Strings3
import Derived.Test.YtkblmpmkchkpjaaGreatDoorKt15
namespace Go.Proofs.YtkblmpmkchkpjaaGreatDoor
set_option maxRecDepth 100000
set_option maxHeartbeats 40000000
open Go.RowKit WMath XMath
def digsq (n : Nat) : ByteArray := ⟨(Lib.decDigits n).toArray⟩
theorem digs_smallq (n : Nat) (h : n < 10) : Lib.decDigits n = [UInt8.ofNat (48 + n)] := by rw [Lib.decDigits, dif_pos h]
theorem digs_bigq (n : Nat) (h : ¬ n < 10) : Lib.decDigits n = Lib.decDigits (n / 10) ++ [UInt8.ofNat (48 + n % 10)] := by rw [Lib.decDigits, dif_neg h]

theorem nd_leq : ∀ (k u : Nat), 1 ≤ k → u < 10 ^ k → Lib.nDigits u ≤ k := by
 intro k
 induction k with
 | zero => intro u h; omega
 | succ k ih =>
  intro u _ hu
  rw [Lib.nDigits]
  by_cases h : u < 10
  ·
   rw [dif_pos h]; omega
  ·
   rw [dif_neg h]
   by_cases hk : k = 0
   ·
    subst hk; omega
   ·
    have := ih (u / 10) (by omega) (by rw [Nat.pow_succ] at hu; omega)
    omega
def dig10q (r : Nat) : ByteArray := ⟨#[UInt8.ofNat (48 + r)]⟩
theorem ext10q (r : Nat) (h : r < 10) : (⟨#[48, 49, 50, 51, 52, 53, 54, 55, 56, 57]⟩ : ByteArray).extract r (r + 1) = dig10q r := by
 have h10 : r = 0 ∨ r = 1 ∨ r = 2 ∨ r = 3 ∨ r = 4 ∨ r = 5 ∨ r = 6 ∨ r = 7 ∨ r = 8 ∨ r = 9 := by omega
 rcases h10 with rfl | rfl | rfl | rfl | rfl | rfl | rfl | rfl | rfl | rfl <;> rfl
theorem slice10q (r : Nat) (h : r < 10) (w : World) : (Instr.slice 9 (.string ⟨#[48, 49, 50, 51, 52, 53, 54, 55, 56, 57]⟩) (some (.int .i64 (r : Int))) (some (.int .i64 ((r : Int) + 1))) none).run Tryz.prog w = .ok (.string (dig10q r)) w := by
 have := run_slice_string (P := Tryz.prog) w 9 ⟨#[48, 49, 50, 51, 52, 53, 54, 55, 56, 57]⟩ .i64 .i64 (r : Int) ((r : Int) + 1) Tryz.underlying9 (by omega) (by omega) (by show (r : Int) + 1 ≤ 10; omega)
 rw [this]
 have e : ((r : Int) + 1).toNat = r + 1 := by omega
 rw [e, Int.toNat_natCast, ext10q r h]
theorem dig_consq (r : Nat) (t : List UInt8) : dig10q r ++ (⟨t.toArray⟩ : ByteArray) = ⟨(UInt8.ofNat (48 + r) :: t).toArray⟩ := by
 unfold dig10q
 apply ByteArray.ext
 simp
theorem t_number (n : Nat) (hn : n ≤ 9223372036854775807) (w : World) :
  Calls Tryz.prog 94 #[.int .i64 (n : Nat)] w fun r w' => r = .returned (.string (digsq n)) ∧ Below w.heap.size w w' := by
 have d0 : decide ((n : Int) < 0) = false := by simp
 go_enter Tryz.func94, Tryz.ntmps94
 go_wp2
 go_loopw [0, 3] (fun nv sv wr => ∃ (m : Nat) (t : List UInt8), m ≤ n ∧ nv = .int .i64 (m : Nat) ∧ sv = .string ⟨t.toArray⟩ ∧ wr = w ∧ zP (Lib.decDigits n = Lib.decDigits m ++ t)) (fun nv _ _ => (intOf nv).toNat)
 case atStart => exact ⟨n, [], by omega, rfl, rfl, rfl, zK (by simp)⟩
 case round =>
  obtain ⟨m, t, hm, rfl, rfl, rfl, HE⟩ := hrel
  by_cases h9 : 9 < m
  ·
   obtain ⟨q, hq⟩ : ∃ q, m / 10 = q := ⟨_, rfl⟩
   obtain ⟨r, hr⟩ : ∃ r, m % 10 = r := ⟨_, rfl⟩
   have t1 : (m : Int).tmod 10 = (r : Int) := by rw [← hr]; rfl
   have t2 : (m : Int).tdiv 10 = (q : Int) := by rw [← hq]; rfl
   have t3 : r < 10 := by omega
   have d9 : decide ((9 : Int) < (m : Int)) = true := by simp; omega
   have hsl := slice10q r t3
   have hdc := dig_consq r t
   have hlen : t.length ≤ 20 := by
    have := congrArg List.length HE.out
    rw [List.length_append, Lib.decDigits_length] at this
    have := nd_leq 20 n (by decide) (by omega)
    omega
   have hcat : ¬ 9223372036854775807 < (dig10q r).size + t.length := by
    have : (dig10q r).size = 1 := rfl
    omega
   go_wp2
   go_roundw
   case rel =>
    refine ⟨q, UInt8.ofNat (48 + r) :: t, by omega, rfl, ?_, trivial, zK ?_⟩
    ·
     simp
    ·
     rw [HE.out, digs_bigq m (by omega), hq, hr, List.append_assoc]; rfl
   case measure => simp [intOf]; omega
  ·
   have d9 : decide ((9 : Int) < (m : Int)) = false := by simp; omega
   have hsl := slice10q m (by omega)
   have hdc := dig_consq m t
   have hlen : t.length ≤ 20 := by
    have := congrArg List.length HE.out
    rw [List.length_append, Lib.decDigits_length] at this
    have := nd_leq 20 n (by decide) (by omega)
    omega
   have hcat : ¬ 9223372036854775807 < (dig10q m).size + t.length := by
    have : (dig10q m).size = 1 := rfl
    omega
   have hw : IntKind.i64.wrap ((m : Int) + 1) = (m : Int) + 1 := by rw [IntKind.wrap_i64]; omega
   go_wp2
   go_ret
   refine ⟨?_, Below.refl _ _⟩
   unfold digsq
   rw [HE.out, digs_smallq m (by omega)]
   simp

theorem t_number_any (e : Int) (v : ByteArray) (h0 : -1000000000 ≤ e) (h1 : e ≤ 1000000000) (hv : (⟨(Lib.itoa e).toArray⟩ : ByteArray) = v) (w : World) :
  Calls Tryz.prog 94 #[.int .i64 e] w fun r w' => r = .returned (.string v) ∧ Below w.heap.size w w' := by
 by_cases h : 0 ≤ e
 ·
  obtain ⟨n, rfl⟩ := Int.eq_ofNat_of_zero_le h
  have hh := t_number n (by omega) w
  unfold digsq at hh
  rw [Lib.itoa_nonneg] at hv
  rw [hv] at hh
  exact hh
 ·
  obtain ⟨n, rfl⟩ : ∃ n : Nat, e = -(n : Int) := ⟨e.natAbs, by omega⟩
  rw [Lib.itoa_neg n (by omega)] at hv
  have d0 : decide (-(n : Int) < 0) = true := by simp; omega
  have hw : IntKind.i64.wrap (n : Int) = (n : Int) := by rw [IntKind.wrap_i64]; omega
  have hd : (⟨#[45]⟩ : ByteArray) ++ digsq n = v := by
   rw [← hv]; unfold digsq; apply ByteArray.ext; simp
  have hlen : (digsq n).size ≤ 20 := by
   have := nd_leq 20 n (by decide) (by omega)
   have e : (digsq n).size = (Lib.decDigits n).length := rfl
   rw [e, Lib.decDigits_length]; exact this
  have hcat : ¬ 9223372036854775807 < 1 + (digsq n).size := by omega
  have KN := zK (t_number n (by omega))
  obtain ⟨d, hdn⟩ : ∃ d, digsq n = d := ⟨_, rfl⟩
  rw [hdn] at hd hlen hcat KN
  clear hv hdn
  go_enter Tryz.func94, Tryz.ntmps94
  go_wp2_with fail
  refine (KN.out _).mono ?_
  rintro r w2 ⟨rfl, b2⟩
  go_wp2
  go_ret
  exact ⟨rfl, b2⟩
end Go.Proofs.YtkblmpmkchkpjaaGreatDoor
namespace Go.Proofs.YtkblmpmkchkpjaaGreatDoor
set_option maxRecDepth 100000
set_option maxHeartbeats 40000000
open Go.RowKit WMath
set_option linter.unusedSimpArgs false
set_option linter.unusedVariables false
theorem cut_len (s p l0 l1 : List UInt8) (o : Bool) (h : Lib.cut s p = (l0, l1, o)) : l0.length ≤ s.length ∧ l1.length ≤ s.length := by
 unfold Lib.cut at h
 split at h
 ·
  injection h with h1 h2
  injection h2 with h2 h3
  subst h1 h2
  simp only [List.length_take, List.length_drop]
  omega
 ·
  injection h with h1 h2
  injection h2 with h2 h3
  subst h1 h2
  simp
theorem rd_q (l : List UInt8) (V : Nat) (E : Int) (h : rd l = (V, E)) : V < Q := by
 unfold rd at h
 split at h
 ·
  rename_i hl
  split at h
  ·
   rename_i v hv
   split at h
   ·
    injection h with h1 h2
    subst h1
    exact Nat.lt_of_lt_of_le (vals_lt _ l _ rfl hv) (pow96 _ hl)
   ·
    injection h with h1 h2
    subst h1
    exact Q_pos
  ·
   injection h with h1 h2
   subst h1
   exact Q_pos
 ·
  injection h with h1 h2
  subst h1
  exact Q_pos
theorem kMR_any (f : Int) (hf : yT f) (s : List UInt8) (hs : s.length < 4294967281) : ∃ i j : Nat, i < 18446744073709551616 ∧ j < 18446744073709551616 ∧ zP (∀ w, yF w → z7 w → Calls Tryz.prog 40 #[.int .u8 f, .string ⟨s.toArray⟩] w fun r w' => r = .returned (.agg #[.int .u64 i, .int .u64 j]) ∧ Below w.heap.size w w') := by
 by_cases c0 : s = [48]
 ·
  subst c0
  exact ⟨0, 0, by decide, by decide, zK (fun w hT hA => kmr_zero f w hT)⟩
 by_cases c1 : s = [105, 110, 102]
 ·
  subst c1
  obtain ⟨i, j, hij⟩ : ∃ i j, xL (eInf f false) = (i, j) := ⟨_, _, rfl⟩
  have lt : eInf f false < 340282366920938463463374607431768211456 := by rcases hf with rfl | rfl | rfl | rfl <;> decide +kernel
  obtain ⟨i1, j1, _⟩ := bv_lt lt hij
  exact ⟨i, j, i1, j1, zK (fun w hT hA => kmr_inf f i j w (zK (fun w hT => sk_inf f false hf i j hij w hT)) hT)⟩
 obtain ⟨l0, l1, o, hc⟩ : ∃ l0 l1 o, Lib.cut s [110, 97, 110, 58] = (l0, l1, o) := ⟨_, _, _, rfl⟩
 obtain ⟨k0, k1⟩ := cut_len _ _ _ _ _ hc
 cases o
 ·
  obtain ⟨m0, m1, o2, hd⟩ : ∃ l0 l1 o, Lib.cut s [112] = (l0, l1, o) := ⟨_, _, _, rfl⟩
  obtain ⟨k2, k3⟩ := cut_len _ _ _ _ _ hd
  obtain ⟨V, E, hr⟩ : ∃ V E, rd m0 = (V, E) := ⟨_, _, rfl⟩
  have VQ := rd_q _ _ _ hr
  obtain ⟨X, hX, _, KA⟩ := t_atoi m1 (by omega)
  obtain ⟨i, j, hij⟩ : ∃ i j, xL (fb f V X) = (i, j) := ⟨_, _, rfl⟩
  obtain ⟨i1, j1, _⟩ := bv_lt (show fb f V X < 340282366920938463463374607431768211456 by unfold fb; exact Nat.mod_lt _ (by decide)) hij
  exact ⟨i, j, i1, j1, zK (fun w hT hA => kmr_num f _ _ _ ⟨m0.toArray⟩ ⟨m1.toArray⟩ o2 V i j E X w (xT _ _ c0) (xT _ _ c1) (zK (fun w hA => t_cut _ [110, 97, 110, 58] _ _ false hs hc w hA)) (zK (fun w hA => t_cut _ [112] m0 m1 o2 hs hd w hA)) (zK (fun w => wread_is _ m0 V E (by rw [yJ]; omega) rfl hr w)) (zK KA) (zK (fun w hT => kfinite_is f hf V i j X VQ hX.1 hX.2 hij w hT)) hA hT)⟩
 ·
  obtain ⟨V, E, hr⟩ : ∃ V E, rd l1 = (V, E) := ⟨_, _, rfl⟩
  have VQ := rd_q _ _ _ hr
  obtain ⟨i, j, hij⟩ : ∃ i j, xL (eb f V) = (i, j) := ⟨_, _, rfl⟩
  obtain ⟨i1, j1, _⟩ := bv_lt (show eb f V < 340282366920938463463374607431768211456 by unfold eb; exact Nat.mod_lt _ (by decide)) hij
  exact ⟨i, j, i1, j1, zK (fun w hT hA => kmr_nan f _ ⟨l0.toArray⟩ ⟨l1.toArray⟩ V i j E w (xT _ _ c0) (xT _ _ c1) (zK (fun w hA => t_cut _ [110, 97, 110, 58] l0 l1 true hs hc w hA)) (zK (fun w => wread_is _ l1 V E (by rw [yJ]; omega) rfl hr w)) (zK (fun w hT => kendless_is f hf V i j VQ hij w hT)) hA hT)⟩
theorem sgB_lt {f : Int} (hf : yT f) (n : Nat) (neg : Bool) (hn : n < 340282366920938463463374607431768211456) : sgB f n neg < 340282366920938463463374607431768211456 := by
 unfold sgB
 split
 ·
  have h1 : n < 2 ^ 128 := hn
  have h2 : 2 ^ wV f < 2 ^ 128 := by rcases hf with rfl | rfl | rfl | rfl <;> decide +kernel
  exact Nat.xor_lt_two_pow h1 h2
 ·
  exact hn
theorem kRead_any (f : Int) (hf : yT f) (s : List UInt8) (hs : s.length < 4294967281) : ∃ (u v : Nat) (c : Int), zP (∀ w, yF w → P10 w → z7 w → Calls Tryz.prog 9 #[.int .u8 f, .string ⟨s.toArray⟩] w fun r w' => r = .returned (.tuple #[.agg #[.int .u64 u, .int .u64 v], .int .i64 c]) ∧ Below w.heap.size w w') ∧
  ((∃ n, okB f n = true ∧ kTx f n = s ∧ xL n = (u, v) ∧ c = 0) ∨ ((∀ n, okB f n = true → kTx f n ≠ s) ∧ u = 0 ∧ v = 0 ∧ c = 80)) := by
 have f4 := yL hf
 by_cases h : ∃ n, okB f n = true ∧ kTx f n = s
 ·
  obtain ⟨n, ho, ht⟩ := h
  have fit := (okB_yes f4.1 ho).2
  have lt : n < 340282366920938463463374607431768211456 := by have := (fm hf).2.2.2.2.2.2; unfold Fit at fit; omega
  obtain ⟨u, v, huv⟩ : ∃ u v, xL n = (u, v) := ⟨_, _, rfl⟩
  obtain ⟨u1, v1, e⟩ := bv_lt lt huv
  exact ⟨u, v, 0, zK (fun w hT hP hA => kRead_back f hf u v n _ u1 v1 e ho (by rw [ht]) w hT hP hA), Or.inl ⟨n, ho, ht, huv, rfl⟩⟩
 ·
  have hn : ∀ n, okB f n = true → kTx f n ≠ s := fun n ho ht => h ⟨n, ho, ht⟩
  refine ⟨0, 0, 80, ?_, Or.inr ⟨hn, rfl, rfl, rfl⟩⟩
  obtain ⟨m, hm⟩ : ∃ m, Lib.trimPrefix s [45] = m := ⟨_, rfl⟩
  obtain ⟨neg, hng⟩ : ∃ m, Lib.hasPrefix s [45] = m := ⟨_, rfl⟩
  have ml : m.length ≤ s.length := by
   rw [← hm]
   unfold Lib.trimPrefix
   split
   ·
    rw [List.length_drop]
    omega
   ·
    exact Nat.le_refl _
  obtain ⟨i, j, i1, j1, KM⟩ := kMR_any f hf m (by omega)
  obtain ⟨N, hN⟩ : ∃ N, sgB f (j + 18446744073709551616 * i) neg = N := ⟨_, rfl⟩
  have NL : N < 340282366920938463463374607431768211456 := by rw [← hN]; exact sgB_lt hf _ _ (by omega)
  obtain ⟨x, y, hxy⟩ : ∃ x y, xL N = (x, y) := ⟨_, _, rfl⟩
  obtain ⟨x1, y1, e⟩ := bv_lt NL hxy
  have KP := zK (fun w => t_cutPrefix s [45] m neg hm hng w)
  have KS := zK (fun w hT => ksigned_is f hf i j _ x y neg i1 j1 rfl (by rw [hN]; exact hxy) w hT)
  have K0 := zK (fun w => bel_same (yM f 0 f4.1 f4.2.1 (fC_yes hf) w))
  cases ok : okB f N
  ·
   exact zK (fun w hT hP hA => kread_err f _ ⟨m.toArray⟩ neg i j x y w K0 KP KM KS (zK (fun w hT hP => kText_no f f4.1 f4.2.1 x y N x1 y1 e ok w hT)) hT hP hA)
  ·
   refine zK (fun w hT hP hA => kread_other f _ ⟨m.toArray⟩ neg i j x y ⟨(kTx f N).toArray⟩ w K0 KP KM KS (zK (fun w hT hP => kText_is f hf x y N _ x1 y1 e ok rfl w hT hP)) ?_ hT hP hA)
   rw [beq_eq_false_iff_ne, ByteArray.toList_eq, ByteArray.toList_eq]
   exact hn N ok
theorem rnum_is (e : Int) (v : ByteArray) (h0 : -1000000000 ≤ e) (h1 : e ≤ 1000000000) (hv : (⟨(Lib.itoa e).toArray⟩ : ByteArray) = v) (w : World) : Calls Tryz.prog 36 #[.int .i64 e] w fun r w' => r = .returned (.string v) ∧ Below w.heap.size w w' := by
 have K := zK (fun w => t_number_any e v h0 h1 hv w)
 clear h0 h1 hv
 have B0 : Below w.heap.size w w := (Below.refl _ _)
 go_enter Tryz.func36, Tryz.ntmps36
 go_wp2_with fail
 refine (K.out _).mono ?_
 rintro r w1 ⟨rfl, b1⟩
 have B1 := yD B0 b1
 clear b1 B0 
 go_wp2
 go_ret
 exact ⟨rfl, B1⟩
theorem rtx_sp (f : Int) (x y : Nat) (c s : Nat) (X : Int) (q : Nat) (t : ByteArray) (v : ByteArray) (w : World)
  (KU : zP (∀ w, Calls Tryz.prog 33 #[.int .u8 f, .agg #[.int .u64 x, .int .u64 y]] w fun r w' => r = .returned (.agg (pt c s X q)) ∧ Below w.heap.size w w'))
  (KS : zP (∀ w, Calls Tryz.prog 34 #[.int .u8 f, .agg #[.int .u64 x, .int .u64 y]] w fun r w' => r = .returned (.bool false) ∧ Below w.heap.size w w'))
  (h8 : ((c : Int) == 8) = true) (hl : ¬ 9223372036854775807 < 5 + t.size) (KT : zP (∀ w, Calls Tryz.prog 35 #[.agg (cw 6 q)] w fun r w' => r = .returned (.string t) ∧ Below w.heap.size w w')) (hv : (⟨#[]⟩ : ByteArray) ++ ⟨#[115, 110, 97, 110, 58]⟩ ++ t = v) : Calls Tryz.prog 8 #[.int .u8 f, .agg #[.int .u64 x, .int .u64 y]] w fun r w' => r = .returned (.string v) ∧ Below w.heap.size w w' := by
 have hat := zU 6
 have hz := yB
 have hff := z8
 have hs0 := xO
 have hcs : ∀ x, ((cw 6 x).size = 6) = True := fun x => eq_true (zR 6 x)
 have AS := xP
 have AT := ptz
 have AU := yI
 have AV : ∀ (c s : Nat) (x : Int) (r : Nat), ((pt c s x r).size = 14) = True := fun _ _ _ _ => eq_true rfl
 obtain ⟨Ab, B0⟩ := xJ w (Obj.cells #[.int .u64 x, .int .u64 y] 25)
 go_enter Tryz.func8, Tryz.ntmps8
 obtain ⟨Ag, Ah⟩ := zG Ab
 go_wp2_with fail
 refine (KU.out _).mono ?_
 rintro r w1 ⟨rfl, b1⟩
 have B1 := yD B0 b1
 have Aa := zA b1 _ _ _ Ab
 clear b1 B0 Ab Ag Ah
 obtain ⟨Ai, Aj⟩ := zG Aa
 have S2 := zK B1.size
 have AW := yA Aa
 have Ac := heap_alloc_last w1 (Obj.cells (pt c s X q) 68)
 have B2 := yD B1 (xY w1 (Obj.cells (pt c s X q) 68))
 have Ad := zA (xY w1 (Obj.cells (pt c s X q) 68)) _ _ _ Aa
 clear B1 Aa Ai Aj
 obtain ⟨Ak, Al⟩ := zG Ad
 obtain ⟨Am, An, Ao, Ap, Aq, Ar, As, At, Au, Av, Aw, Ax, Ay, Az⟩ := zD Ac
 go_wp2_with fail
 refine (KS.out _).mono ?_
 rintro r w3 ⟨rfl, b3⟩
 have B3 := yD B2 b3
 obtain ⟨Ae, Af⟩ := zV b3 Ad Ac
 clear b3 B2 Ad Ak Al Ac Am An Ao Ap Aq Ar As At Au Av Aw Ax Ay Az
 obtain ⟨AA, AB⟩ := zG Ae
 obtain ⟨AC, AD, AE, AF, AG, AH, AI, AJ, AK, AL, AM, AN, AO, AP⟩ := zD Af
 go_wp2_with fail
 refine (KT.out _).mono ?_
 rintro r w4 ⟨rfl, b4⟩
 have B4 := yD B3 b4
 obtain ⟨AQ, AR⟩ := zV b4 Ae Af
 clear b4 B3 Ae AA AB Af AC AD AE AF AG AH AI AJ AK AL AM AN AO AP
 obtain ⟨AX, AY⟩ := zG AQ
 obtain ⟨AZ, A0, A1, A2, A3, A4, A5, A6, A7, A8, A9, Ba, Bb, Bc⟩ := zD AR
 go_wp2
 go_ret
 exact ⟨rfl, B4⟩
theorem rtx_qp (f : Int) (x y : Nat) (c s : Nat) (X : Int) (q : Nat) (t : ByteArray) (v : ByteArray) (w : World)
  (KU : zP (∀ w, Calls Tryz.prog 33 #[.int .u8 f, .agg #[.int .u64 x, .int .u64 y]] w fun r w' => r = .returned (.agg (pt c s X q)) ∧ Below w.heap.size w w'))
  (KS : zP (∀ w, Calls Tryz.prog 34 #[.int .u8 f, .agg #[.int .u64 x, .int .u64 y]] w fun r w' => r = .returned (.bool false) ∧ Below w.heap.size w w'))
  (h8 : ((c : Int) == 8) = false) (h9 : ((c : Int) == 9) = true) (hl : ¬ 9223372036854775807 < 4 + t.size) (KT : zP (∀ w, Calls Tryz.prog 35 #[.agg (cw 6 q)] w fun r w' => r = .returned (.string t) ∧ Below w.heap.size w w')) (hv : (⟨#[]⟩ : ByteArray) ++ ⟨#[110, 97, 110, 58]⟩ ++ t = v) : Calls Tryz.prog 8 #[.int .u8 f, .agg #[.int .u64 x, .int .u64 y]] w fun r w' => r = .returned (.string v) ∧ Below w.heap.size w w' := by
 have hat := zU 6
 have hz := yB
 have hff := z8
 have hs0 := xO
 have hcs : ∀ x, ((cw 6 x).size = 6) = True := fun x => eq_true (zR 6 x)
 have AS := xP
 have AT := ptz
 have AU := yI
 have AV : ∀ (c s : Nat) (x : Int) (r : Nat), ((pt c s x r).size = 14) = True := fun _ _ _ _ => eq_true rfl
 obtain ⟨Ab, B0⟩ := xJ w (Obj.cells #[.int .u64 x, .int .u64 y] 25)
 go_enter Tryz.func8, Tryz.ntmps8
 obtain ⟨Ag, Ah⟩ := zG Ab
 go_wp2_with fail
 refine (KU.out _).mono ?_
 rintro r w1 ⟨rfl, b1⟩
 have B1 := yD B0 b1
 have Aa := zA b1 _ _ _ Ab
 clear b1 B0 Ab Ag Ah
 obtain ⟨Ai, Aj⟩ := zG Aa
 have S2 := zK B1.size
 have AW := yA Aa
 have Ac := heap_alloc_last w1 (Obj.cells (pt c s X q) 68)
 have B2 := yD B1 (xY w1 (Obj.cells (pt c s X q) 68))
 have Ad := zA (xY w1 (Obj.cells (pt c s X q) 68)) _ _ _ Aa
 clear B1 Aa Ai Aj
 obtain ⟨Ak, Al⟩ := zG Ad
 obtain ⟨Am, An, Ao, Ap, Aq, Ar, As, At, Au, Av, Aw, Ax, Ay, Az⟩ := zD Ac
 go_wp2_with fail
 refine (KS.out _).mono ?_
 rintro r w3 ⟨rfl, b3⟩
 have B3 := yD B2 b3
 obtain ⟨Ae, Af⟩ := zV b3 Ad Ac
 clear b3 B2 Ad Ak Al Ac Am An Ao Ap Aq Ar As At Au Av Aw Ax Ay Az
 obtain ⟨AA, AB⟩ := zG Ae
 obtain ⟨AC, AD, AE, AF, AG, AH, AI, AJ, AK, AL, AM, AN, AO, AP⟩ := zD Af
 go_wp2_with fail
 refine (KT.out _).mono ?_
 rintro r w4 ⟨rfl, b4⟩
 have B4 := yD B3 b4
 obtain ⟨AQ, AR⟩ := zV b4 Ae Af
 clear b4 B3 Ae AA AB Af AC AD AE AF AG AH AI AJ AK AL AM AN AO AP
 obtain ⟨AX, AY⟩ := zG AQ
 obtain ⟨AZ, A0, A1, A2, A3, A4, A5, A6, A7, A8, A9, Ba, Bb, Bc⟩ := zD AR
 go_wp2
 go_ret
 exact ⟨rfl, B4⟩
theorem rtx_ip (f : Int) (x y : Nat) (c s : Nat) (X : Int) (q : Nat)  (v : ByteArray) (w : World)
  (KU : zP (∀ w, Calls Tryz.prog 33 #[.int .u8 f, .agg #[.int .u64 x, .int .u64 y]] w fun r w' => r = .returned (.agg (pt c s X q)) ∧ Below w.heap.size w w'))
  (KS : zP (∀ w, Calls Tryz.prog 34 #[.int .u8 f, .agg #[.int .u64 x, .int .u64 y]] w fun r w' => r = .returned (.bool false) ∧ Below w.heap.size w w'))
  (h8 : ((c : Int) == 8) = false) (h9 : ((c : Int) == 9) = false) (h0 : ((c : Int) == 0) = true ∨ (((c : Int) == 0) = false ∧ ((c : Int) == 7) = true)) (hv : (⟨#[]⟩ : ByteArray) ++ ⟨#[105, 110, 102]⟩ = v) : Calls Tryz.prog 8 #[.int .u8 f, .agg #[.int .u64 x, .int .u64 y]] w fun r w' => r = .returned (.string v) ∧ Below w.heap.size w w' := by
 have hat := zU 6
 have hz := yB
 have hff := z8
 have hs0 := xO
 have hcs : ∀ x, ((cw 6 x).size = 6) = True := fun x => eq_true (zR 6 x)
 have AA := xP
 have AB := ptz
 have AC := yI
 have AD : ∀ (c s : Nat) (x : Int) (r : Nat), ((pt c s x r).size = 14) = True := fun _ _ _ _ => eq_true rfl
 obtain ⟨Ab, B0⟩ := xJ w (Obj.cells #[.int .u64 x, .int .u64 y] 25)
 go_enter Tryz.func8, Tryz.ntmps8
 obtain ⟨Ae, Af⟩ := zG Ab
 go_wp2_with fail
 refine (KU.out _).mono ?_
 rintro r w1 ⟨rfl, b1⟩
 have B1 := yD B0 b1
 have Aa := zA b1 _ _ _ Ab
 clear b1 B0 Ab Ae Af
 obtain ⟨Ag, Ah⟩ := zG Aa
 have S2 := zK B1.size
 have AE := yA Aa
 have Ac := heap_alloc_last w1 (Obj.cells (pt c s X q) 68)
 have B2 := yD B1 (xY w1 (Obj.cells (pt c s X q) 68))
 have Ad := zA (xY w1 (Obj.cells (pt c s X q) 68)) _ _ _ Aa
 clear B1 Aa Ag Ah
 obtain ⟨Ai, Aj⟩ := zG Ad
 obtain ⟨Ak, Al, Am, An, Ao, Ap, Aq, Ar, As, At, Au, Av, Aw, Ax⟩ := zD Ac
 go_wp2_with fail
 refine (KS.out _).mono ?_
 rintro r w3 ⟨rfl, b3⟩
 have B3 := yD B2 b3
 obtain ⟨Ay, Az⟩ := zV b3 Ad Ac
 clear b3 B2 Ad Ai Aj Ac Ak Al Am An Ao Ap Aq Ar As At Au Av Aw Ax
 obtain ⟨AF, AG⟩ := zG Ay
 obtain ⟨AH, AI, AJ, AK, AL, AM, AN, AO, AP, AQ, AR, AS, AT, AU⟩ := zD Az
 rcases h0 with h0 | ⟨h0, h7⟩
 ·
  go_wp2
  go_ret
  exact ⟨rfl, B3⟩
 ·
  go_wp2
  go_ret
  exact ⟨rfl, B3⟩
theorem rtx_zp (f : Int) (x y : Nat) (c s : Nat) (X : Int) (q : Nat)  (v : ByteArray) (w : World)
  (KU : zP (∀ w, Calls Tryz.prog 33 #[.int .u8 f, .agg #[.int .u64 x, .int .u64 y]] w fun r w' => r = .returned (.agg (pt c s X q)) ∧ Below w.heap.size w w'))
  (KS : zP (∀ w, Calls Tryz.prog 34 #[.int .u8 f, .agg #[.int .u64 x, .int .u64 y]] w fun r w' => r = .returned (.bool false) ∧ Below w.heap.size w w'))
  (h8 : ((c : Int) == 8) = false) (h9 : ((c : Int) == 9) = false) (h0 : ((c : Int) == 0) = false) (h7 : ((c : Int) == 7) = false) (h3 : ((c : Int) == 3) = true ∨ (((c : Int) == 3) = false ∧ ((c : Int) == 4) = true)) (hv : (⟨#[]⟩ : ByteArray) ++ ⟨#[48]⟩ = v) : Calls Tryz.prog 8 #[.int .u8 f, .agg #[.int .u64 x, .int .u64 y]] w fun r w' => r = .returned (.string v) ∧ Below w.heap.size w w' := by
 have hat := zU 6
 have hz := yB
 have hff := z8
 have hs0 := xO
 have hcs : ∀ x, ((cw 6 x).size = 6) = True := fun x => eq_true (zR 6 x)
 have AA := xP
 have AB := ptz
 have AC := yI
 have AD : ∀ (c s : Nat) (x : Int) (r : Nat), ((pt c s x r).size = 14) = True := fun _ _ _ _ => eq_true rfl
 obtain ⟨Ab, B0⟩ := xJ w (Obj.cells #[.int .u64 x, .int .u64 y] 25)
 go_enter Tryz.func8, Tryz.ntmps8
 obtain ⟨Ae, Af⟩ := zG Ab
 go_wp2_with fail
 refine (KU.out _).mono ?_
 rintro r w1 ⟨rfl, b1⟩
 have B1 := yD B0 b1
 have Aa := zA b1 _ _ _ Ab
 clear b1 B0 Ab Ae Af
 obtain ⟨Ag, Ah⟩ := zG Aa
 have S2 := zK B1.size
 have AE := yA Aa
 have Ac := heap_alloc_last w1 (Obj.cells (pt c s X q) 68)
 have B2 := yD B1 (xY w1 (Obj.cells (pt c s X q) 68))
 have Ad := zA (xY w1 (Obj.cells (pt c s X q) 68)) _ _ _ Aa
 clear B1 Aa Ag Ah
 obtain ⟨Ai, Aj⟩ := zG Ad
 obtain ⟨Ak, Al, Am, An, Ao, Ap, Aq, Ar, As, At, Au, Av, Aw, Ax⟩ := zD Ac
 go_wp2_with fail
 refine (KS.out _).mono ?_
 rintro r w3 ⟨rfl, b3⟩
 have B3 := yD B2 b3
 obtain ⟨Ay, Az⟩ := zV b3 Ad Ac
 clear b3 B2 Ad Ai Aj Ac Ak Al Am An Ao Ap Aq Ar As At Au Av Aw Ax
 obtain ⟨AF, AG⟩ := zG Ay
 obtain ⟨AH, AI, AJ, AK, AL, AM, AN, AO, AP, AQ, AR, AS, AT, AU⟩ := zD Az
 rcases h3 with h3 | ⟨h3, h4⟩
 ·
  go_wp2
  go_ret
  exact ⟨rfl, B3⟩
 ·
  go_wp2
  go_ret
  exact ⟨rfl, B3⟩
theorem rtx_np (f : Int) (x y : Nat) (c s : Nat) (X : Int) (q : Nat) (t u : ByteArray) (v : ByteArray) (w : World)
  (KU : zP (∀ w, Calls Tryz.prog 33 #[.int .u8 f, .agg #[.int .u64 x, .int .u64 y]] w fun r w' => r = .returned (.agg (pt c s X q)) ∧ Below w.heap.size w w'))
  (KS : zP (∀ w, Calls Tryz.prog 34 #[.int .u8 f, .agg #[.int .u64 x, .int .u64 y]] w fun r w' => r = .returned (.bool false) ∧ Below w.heap.size w w'))
  (h8 : ((c : Int) == 8) = false) (h9 : ((c : Int) == 9) = false) (h0 : ((c : Int) == 0) = false) (h7 : ((c : Int) == 7) = false) (h3 : ((c : Int) == 3) = false) (h4 : ((c : Int) == 4) = false) (ht : t.size ≤ 1000) (hu : u.size ≤ 1000) (KT : zP (∀ w, Calls Tryz.prog 35 #[.agg (cw 6 s)] w fun r w' => r = .returned (.string t) ∧ Below w.heap.size w w')) (KN : zP (∀ w, Calls Tryz.prog 36 #[.int .i64 X] w fun r w' => r = .returned (.string u) ∧ Below w.heap.size w w')) (hv : (⟨#[]⟩ : ByteArray) ++ t ++ ⟨#[112]⟩ ++ u = v) : Calls Tryz.prog 8 #[.int .u8 f, .agg #[.int .u64 x, .int .u64 y]] w fun r w' => r = .returned (.string v) ∧ Below w.heap.size w w' := by
 have hat := zU 6
 have hz := yB
 have hff := z8
 have hs0 := xO
 have hcs : ∀ x, ((cw 6 x).size = 6) = True := fun x => eq_true (zR 6 x)
 have AS := xP
 have AT := ptz
 have AU := yI
 have AV : ∀ (c s : Nat) (x : Int) (r : Nat), ((pt c s x r).size = 14) = True := fun _ _ _ _ => eq_true rfl
 obtain ⟨Ad, B0⟩ := xJ w (Obj.cells #[.int .u64 x, .int .u64 y] 25)
 go_enter Tryz.func8, Tryz.ntmps8
 obtain ⟨Ai, Aj⟩ := zG Ad
 go_wp2_with fail
 refine (KU.out _).mono ?_
 rintro r w1 ⟨rfl, b1⟩
 have B1 := yD B0 b1
 have Ac := zA b1 _ _ _ Ad
 clear b1 B0 Ad Ai Aj
 obtain ⟨Ak, Al⟩ := zG Ac
 have S2 := zK B1.size
 have AW := yA Ac
 have Ae := heap_alloc_last w1 (Obj.cells (pt c s X q) 68)
 have B2 := yD B1 (xY w1 (Obj.cells (pt c s X q) 68))
 have Af := zA (xY w1 (Obj.cells (pt c s X q) 68)) _ _ _ Ac
 clear B1 Ac Ak Al
 obtain ⟨Am, An⟩ := zG Af
 obtain ⟨Ao, Ap, Aq, Ar, As, At, Au, Av, Aw, Ax, Ay, Az, AA, AB⟩ := zD Ae
 go_wp2_with fail
 refine (KS.out _).mono ?_
 rintro r w3 ⟨rfl, b3⟩
 have B3 := yD B2 b3
 obtain ⟨Ab, Aa⟩ := zV b3 Af Ae
 clear b3 B2 Af Am An Ae Ao Ap Aq Ar As At Au Av Aw Ax Ay Az AA AB
 obtain ⟨AC, AD⟩ := zG Ab
 obtain ⟨AE, AF, AG, AH, AI, AJ, AK, AL, AM, AN, AO, AP, AQ, AR⟩ := zD Aa
 go_wp2_with fail
 obtain ⟨F, hF1, hF2⟩ := zS w3
 have fb_0 := fun u => cells4 (zA (hF1 u) _ _ _ Ab) 0 _ rfl
 have fb_1 := fun u => cells4 (zA (hF1 u) _ _ _ Ab) 1 _ rfl
 have fp_0 := fun u => (zD (zA (hF1 u) _ _ _ Aa)).1
 have fp_1 := fun u => (zD (zA (hF1 u) _ _ _ Aa)).2.1
 have fp_2 := fun u => (zD (zA (hF1 u) _ _ _ Aa)).2.2.1
 have fp_3 := fun u => (zD (zA (hF1 u) _ _ _ Aa)).2.2.2.1
 have fp_4 := fun u => (zD (zA (hF1 u) _ _ _ Aa)).2.2.2.2.1
 have fp_5 := fun u => (zD (zA (hF1 u) _ _ _ Aa)).2.2.2.2.2.1
 have fp_6 := fun u => (zD (zA (hF1 u) _ _ _ Aa)).2.2.2.2.2.2.1
 have fp_7 := fun u => (zD (zA (hF1 u) _ _ _ Aa)).2.2.2.2.2.2.2.1
 have fp_8 := fun u => (zD (zA (hF1 u) _ _ _ Aa)).2.2.2.2.2.2.2.2.1
 have fp_9 := fun u => (zD (zA (hF1 u) _ _ _ Aa)).2.2.2.2.2.2.2.2.2.1
 have fp_10 := fun u => (zD (zA (hF1 u) _ _ _ Aa)).2.2.2.2.2.2.2.2.2.2.1
 have fp_11 := fun u => (zD (zA (hF1 u) _ _ _ Aa)).2.2.2.2.2.2.2.2.2.2.2.1
 have fp_12 := fun u => (zD (zA (hF1 u) _ _ _ Aa)).2.2.2.2.2.2.2.2.2.2.2.2.1
 have fp_13 := fun u => (zD (zA (hF1 u) _ _ _ Aa)).2.2.2.2.2.2.2.2.2.2.2.2.2
 refine zJ F hF2 (by kernel_rfl) (by kernel_rfl) ?_
 repeat first | go_big_quiet_step (first | (go_at_call 35; exact zN hF1 hF2 (KT.out _)) | (go_at_call 36; exact zN hF1 hF2 (KN.out _)) | fail) | quiet_step (first | (go_at_call 35; exact zN hF1 hF2 (KT.out _)) | (go_at_call 36; exact zN hF1 hF2 (KN.out _)) | fail)
 refine wpQuiet_nil ?_
 rintro _ ⟨uW, rfl⟩
 have B4 := yD B3 (hF1 uW)
 obtain ⟨Ag, Ah⟩ := zV (hF1 uW) Ab Aa
 obtain ⟨w4, hw⟩ : ∃ V, F uW = V := ⟨_, rfl⟩
 rw [hw] at B4 Ag Ah
 try rw [hw]
 clear hw hF1 hF2 B3 fb_0 fb_1 fp_0 fp_1 fp_2 fp_3 fp_4 fp_5 fp_6 fp_7 fp_8 fp_9 fp_10 fp_11 fp_12 fp_13 Ab AC AD Aa AE AF AG AH AI AJ AK AL AM AN AO AP AQ AR
 clear F
 obtain ⟨AX, AY⟩ := zG Ag
 obtain ⟨AZ, A0, A1, A2, A3, A4, A5, A6, A7, A8, A9, Ba, Bb, Bc⟩ := zD Ah
 go_wp2
 go_ret
 exact ⟨rfl, B4⟩
theorem rtx_sn (f : Int) (x y : Nat) (c s : Nat) (X : Int) (q : Nat) (t : ByteArray) (v : ByteArray) (w : World)
  (KU : zP (∀ w, Calls Tryz.prog 33 #[.int .u8 f, .agg #[.int .u64 x, .int .u64 y]] w fun r w' => r = .returned (.agg (pt c s X q)) ∧ Below w.heap.size w w'))
  (KS : zP (∀ w, Calls Tryz.prog 34 #[.int .u8 f, .agg #[.int .u64 x, .int .u64 y]] w fun r w' => r = .returned (.bool true) ∧ Below w.heap.size w w'))
  (h8 : ((c : Int) == 8) = true) (hl : ¬ 9223372036854775807 < 6 + t.size) (KT : zP (∀ w, Calls Tryz.prog 35 #[.agg (cw 6 q)] w fun r w' => r = .returned (.string t) ∧ Below w.heap.size w w')) (hv : (⟨#[45]⟩ : ByteArray) ++ ⟨#[115, 110, 97, 110, 58]⟩ ++ t = v) : Calls Tryz.prog 8 #[.int .u8 f, .agg #[.int .u64 x, .int .u64 y]] w fun r w' => r = .returned (.string v) ∧ Below w.heap.size w w' := by
 have hat := zU 6
 have hz := yB
 have hff := z8
 have hs0 := xO
 have hcs : ∀ x, ((cw 6 x).size = 6) = True := fun x => eq_true (zR 6 x)
 have AS := xP
 have AT := ptz
 have AU := yI
 have AV : ∀ (c s : Nat) (x : Int) (r : Nat), ((pt c s x r).size = 14) = True := fun _ _ _ _ => eq_true rfl
 obtain ⟨Ab, B0⟩ := xJ w (Obj.cells #[.int .u64 x, .int .u64 y] 25)
 go_enter Tryz.func8, Tryz.ntmps8
 obtain ⟨Ag, Ah⟩ := zG Ab
 go_wp2_with fail
 refine (KU.out _).mono ?_
 rintro r w1 ⟨rfl, b1⟩
 have B1 := yD B0 b1
 have Aa := zA b1 _ _ _ Ab
 clear b1 B0 Ab Ag Ah
 obtain ⟨Ai, Aj⟩ := zG Aa
 have S2 := zK B1.size
 have AW := yA Aa
 have Ac := heap_alloc_last w1 (Obj.cells (pt c s X q) 68)
 have B2 := yD B1 (xY w1 (Obj.cells (pt c s X q) 68))
 have Ad := zA (xY w1 (Obj.cells (pt c s X q) 68)) _ _ _ Aa
 clear B1 Aa Ai Aj
 obtain ⟨Ak, Al⟩ := zG Ad
 obtain ⟨Am, An, Ao, Ap, Aq, Ar, As, At, Au, Av, Aw, Ax, Ay, Az⟩ := zD Ac
 go_wp2_with fail
 refine (KS.out _).mono ?_
 rintro r w3 ⟨rfl, b3⟩
 have B3 := yD B2 b3
 obtain ⟨Ae, Af⟩ := zV b3 Ad Ac
 clear b3 B2 Ad Ak Al Ac Am An Ao Ap Aq Ar As At Au Av Aw Ax Ay Az
 obtain ⟨AA, AB⟩ := zG Ae
 obtain ⟨AC, AD, AE, AF, AG, AH, AI, AJ, AK, AL, AM, AN, AO, AP⟩ := zD Af
 go_wp2_with fail
 refine (KT.out _).mono ?_
 rintro r w4 ⟨rfl, b4⟩
 have B4 := yD B3 b4
 obtain ⟨AQ, AR⟩ := zV b4 Ae Af
 clear b4 B3 Ae AA AB Af AC AD AE AF AG AH AI AJ AK AL AM AN AO AP
 obtain ⟨AX, AY⟩ := zG AQ
 obtain ⟨AZ, A0, A1, A2, A3, A4, A5, A6, A7, A8, A9, Ba, Bb, Bc⟩ := zD AR
 go_wp2
 go_ret
 exact ⟨rfl, B4⟩
theorem rtx_qn (f : Int) (x y : Nat) (c s : Nat) (X : Int) (q : Nat) (t : ByteArray) (v : ByteArray) (w : World)
  (KU : zP (∀ w, Calls Tryz.prog 33 #[.int .u8 f, .agg #[.int .u64 x, .int .u64 y]] w fun r w' => r = .returned (.agg (pt c s X q)) ∧ Below w.heap.size w w'))
  (KS : zP (∀ w, Calls Tryz.prog 34 #[.int .u8 f, .agg #[.int .u64 x, .int .u64 y]] w fun r w' => r = .returned (.bool true) ∧ Below w.heap.size w w'))
  (h8 : ((c : Int) == 8) = false) (h9 : ((c : Int) == 9) = true) (hl : ¬ 9223372036854775807 < 5 + t.size) (KT : zP (∀ w, Calls Tryz.prog 35 #[.agg (cw 6 q)] w fun r w' => r = .returned (.string t) ∧ Below w.heap.size w w')) (hv : (⟨#[45]⟩ : ByteArray) ++ ⟨#[110, 97, 110, 58]⟩ ++ t = v) : Calls Tryz.prog 8 #[.int .u8 f, .agg #[.int .u64 x, .int .u64 y]] w fun r w' => r = .returned (.string v) ∧ Below w.heap.size w w' := by
 have hat := zU 6
 have hz := yB
 have hff := z8
 have hs0 := xO
 have hcs : ∀ x, ((cw 6 x).size = 6) = True := fun x => eq_true (zR 6 x)
 have AS := xP
 have AT := ptz
 have AU := yI
 have AV : ∀ (c s : Nat) (x : Int) (r : Nat), ((pt c s x r).size = 14) = True := fun _ _ _ _ => eq_true rfl
 obtain ⟨Ab, B0⟩ := xJ w (Obj.cells #[.int .u64 x, .int .u64 y] 25)
 go_enter Tryz.func8, Tryz.ntmps8
 obtain ⟨Ag, Ah⟩ := zG Ab
 go_wp2_with fail
 refine (KU.out _).mono ?_
 rintro r w1 ⟨rfl, b1⟩
 have B1 := yD B0 b1
 have Aa := zA b1 _ _ _ Ab
 clear b1 B0 Ab Ag Ah
 obtain ⟨Ai, Aj⟩ := zG Aa
 have S2 := zK B1.size
 have AW := yA Aa
 have Ac := heap_alloc_last w1 (Obj.cells (pt c s X q) 68)
 have B2 := yD B1 (xY w1 (Obj.cells (pt c s X q) 68))
 have Ad := zA (xY w1 (Obj.cells (pt c s X q) 68)) _ _ _ Aa
 clear B1 Aa Ai Aj
 obtain ⟨Ak, Al⟩ := zG Ad
 obtain ⟨Am, An, Ao, Ap, Aq, Ar, As, At, Au, Av, Aw, Ax, Ay, Az⟩ := zD Ac
 go_wp2_with fail
 refine (KS.out _).mono ?_
 rintro r w3 ⟨rfl, b3⟩
 have B3 := yD B2 b3
 obtain ⟨Ae, Af⟩ := zV b3 Ad Ac
 clear b3 B2 Ad Ak Al Ac Am An Ao Ap Aq Ar As At Au Av Aw Ax Ay Az
 obtain ⟨AA, AB⟩ := zG Ae
 obtain ⟨AC, AD, AE, AF, AG, AH, AI, AJ, AK, AL, AM, AN, AO, AP⟩ := zD Af
 go_wp2_with fail
 refine (KT.out _).mono ?_
 rintro r w4 ⟨rfl, b4⟩
 have B4 := yD B3 b4
 obtain ⟨AQ, AR⟩ := zV b4 Ae Af
 clear b4 B3 Ae AA AB Af AC AD AE AF AG AH AI AJ AK AL AM AN AO AP
 obtain ⟨AX, AY⟩ := zG AQ
 obtain ⟨AZ, A0, A1, A2, A3, A4, A5, A6, A7, A8, A9, Ba, Bb, Bc⟩ := zD AR
 go_wp2
 go_ret
 exact ⟨rfl, B4⟩
theorem rtx_in (f : Int) (x y : Nat) (c s : Nat) (X : Int) (q : Nat)  (v : ByteArray) (w : World)
  (KU : zP (∀ w, Calls Tryz.prog 33 #[.int .u8 f, .agg #[.int .u64 x, .int .u64 y]] w fun r w' => r = .returned (.agg (pt c s X q)) ∧ Below w.heap.size w w'))
  (KS : zP (∀ w, Calls Tryz.prog 34 #[.int .u8 f, .agg #[.int .u64 x, .int .u64 y]] w fun r w' => r = .returned (.bool true) ∧ Below w.heap.size w w'))
  (h8 : ((c : Int) == 8) = false) (h9 : ((c : Int) == 9) = false) (h0 : ((c : Int) == 0) = true ∨ (((c : Int) == 0) = false ∧ ((c : Int) == 7) = true)) (hv : (⟨#[45]⟩ : ByteArray) ++ ⟨#[105, 110, 102]⟩ = v) : Calls Tryz.prog 8 #[.int .u8 f, .agg #[.int .u64 x, .int .u64 y]] w fun r w' => r = .returned (.string v) ∧ Below w.heap.size w w' := by
 have hat := zU 6
 have hz := yB
 have hff := z8
 have hs0 := xO
 have hcs : ∀ x, ((cw 6 x).size = 6) = True := fun x => eq_true (zR 6 x)
 have AA := xP
 have AB := ptz
 have AC := yI
 have AD : ∀ (c s : Nat) (x : Int) (r : Nat), ((pt c s x r).size = 14) = True := fun _ _ _ _ => eq_true rfl
 obtain ⟨Ab, B0⟩ := xJ w (Obj.cells #[.int .u64 x, .int .u64 y] 25)
 go_enter Tryz.func8, Tryz.ntmps8
 obtain ⟨Ae, Af⟩ := zG Ab
 go_wp2_with fail
 refine (KU.out _).mono ?_
 rintro r w1 ⟨rfl, b1⟩
 have B1 := yD B0 b1
 have Aa := zA b1 _ _ _ Ab
 clear b1 B0 Ab Ae Af
 obtain ⟨Ag, Ah⟩ := zG Aa
 have S2 := zK B1.size
 have AE := yA Aa
 have Ac := heap_alloc_last w1 (Obj.cells (pt c s X q) 68)
 have B2 := yD B1 (xY w1 (Obj.cells (pt c s X q) 68))
 have Ad := zA (xY w1 (Obj.cells (pt c s X q) 68)) _ _ _ Aa
 clear B1 Aa Ag Ah
 obtain ⟨Ai, Aj⟩ := zG Ad
 obtain ⟨Ak, Al, Am, An, Ao, Ap, Aq, Ar, As, At, Au, Av, Aw, Ax⟩ := zD Ac
 go_wp2_with fail
 refine (KS.out _).mono ?_
 rintro r w3 ⟨rfl, b3⟩
 have B3 := yD B2 b3
 obtain ⟨Ay, Az⟩ := zV b3 Ad Ac
 clear b3 B2 Ad Ai Aj Ac Ak Al Am An Ao Ap Aq Ar As At Au Av Aw Ax
 obtain ⟨AF, AG⟩ := zG Ay
 obtain ⟨AH, AI, AJ, AK, AL, AM, AN, AO, AP, AQ, AR, AS, AT, AU⟩ := zD Az
 rcases h0 with h0 | ⟨h0, h7⟩
 ·
  go_wp2
  go_ret
  exact ⟨rfl, B3⟩
 ·
  go_wp2
  go_ret
  exact ⟨rfl, B3⟩
theorem rtx_zn (f : Int) (x y : Nat) (c s : Nat) (X : Int) (q : Nat)  (v : ByteArray) (w : World)
  (KU : zP (∀ w, Calls Tryz.prog 33 #[.int .u8 f, .agg #[.int .u64 x, .int .u64 y]] w fun r w' => r = .returned (.agg (pt c s X q)) ∧ Below w.heap.size w w'))
  (KS : zP (∀ w, Calls Tryz.prog 34 #[.int .u8 f, .agg #[.int .u64 x, .int .u64 y]] w fun r w' => r = .returned (.bool true) ∧ Below w.heap.size w w'))
  (h8 : ((c : Int) == 8) = false) (h9 : ((c : Int) == 9) = false) (h0 : ((c : Int) == 0) = false) (h7 : ((c : Int) == 7) = false) (h3 : ((c : Int) == 3) = true ∨ (((c : Int) == 3) = false ∧ ((c : Int) == 4) = true)) (hv : (⟨#[45]⟩ : ByteArray) ++ ⟨#[48]⟩ = v) : Calls Tryz.prog 8 #[.int .u8 f, .agg #[.int .u64 x, .int .u64 y]] w fun r w' => r = .returned (.string v) ∧ Below w.heap.size w w' := by
 have hat := zU 6
 have hz := yB
 have hff := z8
 have hs0 := xO
 have hcs : ∀ x, ((cw 6 x).size = 6) = True := fun x => eq_true (zR 6 x)
 have AA := xP
 have AB := ptz
 have AC := yI
 have AD : ∀ (c s : Nat) (x : Int) (r : Nat), ((pt c s x r).size = 14) = True := fun _ _ _ _ => eq_true rfl
 obtain ⟨Ab, B0⟩ := xJ w (Obj.cells #[.int .u64 x, .int .u64 y] 25)
 go_enter Tryz.func8, Tryz.ntmps8
 obtain ⟨Ae, Af⟩ := zG Ab
 go_wp2_with fail
 refine (KU.out _).mono ?_
 rintro r w1 ⟨rfl, b1⟩
 have B1 := yD B0 b1
 have Aa := zA b1 _ _ _ Ab
 clear b1 B0 Ab Ae Af
 obtain ⟨Ag, Ah⟩ := zG Aa
 have S2 := zK B1.size
 have AE := yA Aa
 have Ac := heap_alloc_last w1 (Obj.cells (pt c s X q) 68)
 have B2 := yD B1 (xY w1 (Obj.cells (pt c s X q) 68))
 have Ad := zA (xY w1 (Obj.cells (pt c s X q) 68)) _ _ _ Aa
 clear B1 Aa Ag Ah
 obtain ⟨Ai, Aj⟩ := zG Ad
 obtain ⟨Ak, Al, Am, An, Ao, Ap, Aq, Ar, As, At, Au, Av, Aw, Ax⟩ := zD Ac
 go_wp2_with fail
 refine (KS.out _).mono ?_
 rintro r w3 ⟨rfl, b3⟩
 have B3 := yD B2 b3
 obtain ⟨Ay, Az⟩ := zV b3 Ad Ac
 clear b3 B2 Ad Ai Aj Ac Ak Al Am An Ao Ap Aq Ar As At Au Av Aw Ax
 obtain ⟨AF, AG⟩ := zG Ay
 obtain ⟨AH, AI, AJ, AK, AL, AM, AN, AO, AP, AQ, AR, AS, AT, AU⟩ := zD Az
 rcases h3 with h3 | ⟨h3, h4⟩
 ·
  go_wp2
  go_ret
  exact ⟨rfl, B3⟩
 ·
  go_wp2
  go_ret
  exact ⟨rfl, B3⟩
theorem rtx_nn (f : Int) (x y : Nat) (c s : Nat) (X : Int) (q : Nat) (t u : ByteArray) (v : ByteArray) (w : World)
  (KU : zP (∀ w, Calls Tryz.prog 33 #[.int .u8 f, .agg #[.int .u64 x, .int .u64 y]] w fun r w' => r = .returned (.agg (pt c s X q)) ∧ Below w.heap.size w w'))
  (KS : zP (∀ w, Calls Tryz.prog 34 #[.int .u8 f, .agg #[.int .u64 x, .int .u64 y]] w fun r w' => r = .returned (.bool true) ∧ Below w.heap.size w w'))
  (h8 : ((c : Int) == 8) = false) (h9 : ((c : Int) == 9) = false) (h0 : ((c : Int) == 0) = false) (h7 : ((c : Int) == 7) = false) (h3 : ((c : Int) == 3) = false) (h4 : ((c : Int) == 4) = false) (ht : t.size ≤ 1000) (hu : u.size ≤ 1000) (KT : zP (∀ w, Calls Tryz.prog 35 #[.agg (cw 6 s)] w fun r w' => r = .returned (.string t) ∧ Below w.heap.size w w')) (KN : zP (∀ w, Calls Tryz.prog 36 #[.int .i64 X] w fun r w' => r = .returned (.string u) ∧ Below w.heap.size w w')) (hv : (⟨#[45]⟩ : ByteArray) ++ t ++ ⟨#[112]⟩ ++ u = v) : Calls Tryz.prog 8 #[.int .u8 f, .agg #[.int .u64 x, .int .u64 y]] w fun r w' => r = .returned (.string v) ∧ Below w.heap.size w w' := by
 have hat := zU 6
 have hz := yB
 have hff := z8
 have hs0 := xO
 have hcs : ∀ x, ((cw 6 x).size = 6) = True := fun x => eq_true (zR 6 x)
 have AS := xP
 have AT := ptz
 have AU := yI
 have AV : ∀ (c s : Nat) (x : Int) (r : Nat), ((pt c s x r).size = 14) = True := fun _ _ _ _ => eq_true rfl
 obtain ⟨Ad, B0⟩ := xJ w (Obj.cells #[.int .u64 x, .int .u64 y] 25)
 go_enter Tryz.func8, Tryz.ntmps8
 obtain ⟨Ai, Aj⟩ := zG Ad
 go_wp2_with fail
 refine (KU.out _).mono ?_
 rintro r w1 ⟨rfl, b1⟩
 have B1 := yD B0 b1
 have Ac := zA b1 _ _ _ Ad
 clear b1 B0 Ad Ai Aj
 obtain ⟨Ak, Al⟩ := zG Ac
 have S2 := zK B1.size
 have AW := yA Ac
 have Ae := heap_alloc_last w1 (Obj.cells (pt c s X q) 68)
 have B2 := yD B1 (xY w1 (Obj.cells (pt c s X q) 68))
 have Af := zA (xY w1 (Obj.cells (pt c s X q) 68)) _ _ _ Ac
 clear B1 Ac Ak Al
 obtain ⟨Am, An⟩ := zG Af
 obtain ⟨Ao, Ap, Aq, Ar, As, At, Au, Av, Aw, Ax, Ay, Az, AA, AB⟩ := zD Ae
 go_wp2_with fail
 refine (KS.out _).mono ?_
 rintro r w3 ⟨rfl, b3⟩
 have B3 := yD B2 b3
 obtain ⟨Ab, Aa⟩ := zV b3 Af Ae
 clear b3 B2 Af Am An Ae Ao Ap Aq Ar As At Au Av Aw Ax Ay Az AA AB
 obtain ⟨AC, AD⟩ := zG Ab
 obtain ⟨AE, AF, AG, AH, AI, AJ, AK, AL, AM, AN, AO, AP, AQ, AR⟩ := zD Aa
 go_wp2_with fail
 obtain ⟨F, hF1, hF2⟩ := zS w3
 have fb_0 := fun u => cells4 (zA (hF1 u) _ _ _ Ab) 0 _ rfl
 have fb_1 := fun u => cells4 (zA (hF1 u) _ _ _ Ab) 1 _ rfl
 have fp_0 := fun u => (zD (zA (hF1 u) _ _ _ Aa)).1
 have fp_1 := fun u => (zD (zA (hF1 u) _ _ _ Aa)).2.1
 have fp_2 := fun u => (zD (zA (hF1 u) _ _ _ Aa)).2.2.1
 have fp_3 := fun u => (zD (zA (hF1 u) _ _ _ Aa)).2.2.2.1
 have fp_4 := fun u => (zD (zA (hF1 u) _ _ _ Aa)).2.2.2.2.1
 have fp_5 := fun u => (zD (zA (hF1 u) _ _ _ Aa)).2.2.2.2.2.1
 have fp_6 := fun u => (zD (zA (hF1 u) _ _ _ Aa)).2.2.2.2.2.2.1
 have fp_7 := fun u => (zD (zA (hF1 u) _ _ _ Aa)).2.2.2.2.2.2.2.1
 have fp_8 := fun u => (zD (zA (hF1 u) _ _ _ Aa)).2.2.2.2.2.2.2.2.1
 have fp_9 := fun u => (zD (zA (hF1 u) _ _ _ Aa)).2.2.2.2.2.2.2.2.2.1
 have fp_10 := fun u => (zD (zA (hF1 u) _ _ _ Aa)).2.2.2.2.2.2.2.2.2.2.1
 have fp_11 := fun u => (zD (zA (hF1 u) _ _ _ Aa)).2.2.2.2.2.2.2.2.2.2.2.1
 have fp_12 := fun u => (zD (zA (hF1 u) _ _ _ Aa)).2.2.2.2.2.2.2.2.2.2.2.2.1
 have fp_13 := fun u => (zD (zA (hF1 u) _ _ _ Aa)).2.2.2.2.2.2.2.2.2.2.2.2.2
 refine zJ F hF2 (by kernel_rfl) (by kernel_rfl) ?_
 repeat first | go_big_quiet_step (first | (go_at_call 35; exact zN hF1 hF2 (KT.out _)) | (go_at_call 36; exact zN hF1 hF2 (KN.out _)) | fail) | quiet_step (first | (go_at_call 35; exact zN hF1 hF2 (KT.out _)) | (go_at_call 36; exact zN hF1 hF2 (KN.out _)) | fail)
 refine wpQuiet_nil ?_
 rintro _ ⟨uW, rfl⟩
 have B4 := yD B3 (hF1 uW)
 obtain ⟨Ag, Ah⟩ := zV (hF1 uW) Ab Aa
 obtain ⟨w4, hw⟩ : ∃ V, F uW = V := ⟨_, rfl⟩
 rw [hw] at B4 Ag Ah
 try rw [hw]
 clear hw hF1 hF2 B3 fb_0 fb_1 fp_0 fp_1 fp_2 fp_3 fp_4 fp_5 fp_6 fp_7 fp_8 fp_9 fp_10 fp_11 fp_12 fp_13 Ab AC AD Aa AE AF AG AH AI AJ AK AL AM AN AO AP AQ AR
 clear F
 obtain ⟨AX, AY⟩ := zG Ag
 obtain ⟨AZ, A0, A1, A2, A3, A4, A5, A6, A7, A8, A9, Ba, Bb, Bc⟩ := zD Ah
 go_wp2
 go_ret
 exact ⟨rfl, B4⟩
theorem get_l (l : List UInt8) (k : Nat) (h : k < (⟨l.toArray⟩ : ByteArray).size) (c : UInt8) (hc : l[k]? = some c) : (⟨l.toArray⟩ : ByteArray)[k]'h = c := by
 have h2 : k < l.length := h
 rw [List.getElem?_eq_getElem h2] at hc
 exact Option.some.inj hc
theorem u8_ne {c d : UInt8} (h : c ≠ d) : ((c.toNat : Int) == (d.toNat : Int)) = false := by
 rw [beq_eq_false_iff_ne]
 intro q
 apply h
 apply UInt8.toNat.inj
 omega
theorem rfind_at (a b : List UInt8) (c : UInt8) (hc : c ∉ a) (hl : (a ++ c :: b).length ≤ 9223372036854775807) (w : World) :
  Calls Tryz.prog 102 #[.string ⟨(a ++ c :: b).toArray⟩, .int .u8 (c.toNat : Nat)] w fun r w' => r = .returned (.int .i64 (a.length : Nat)) ∧ Below w.heap.size w w' := by
 obtain ⟨s, hs⟩ : ∃ s : ByteArray, s = ⟨(a ++ c :: b).toArray⟩ := ⟨_, rfl⟩
 have hz : s.size = a.length + 1 + b.length := by
  rw [hs, yJ, List.length_append, List.length_cons]
  omega
 have HG : zP (∀ k (h : k < s.size) d, (a ++ c :: b)[k]? = some d → s[k] = d) := zK (fun k h d hd => by subst hs; exact get_l _ _ h _ hd)
 rw [← hs]
 have lb : a.length + 1 + b.length ≤ 9223372036854775807 := by rw [List.length_append, List.length_cons] at hl; omega
 clear hs hl
 have HC := zK hc
 clear hc
 go_enter Tryz.func102, Tryz.ntmps102
 go_wp2
 go_loopw [5] (fun iv wr => ∃ k : Nat, k ≤ a.length ∧ iv = .int .i64 k ∧ wr = w) (fun iv _ => a.length - (intOf iv).toNat)
 case atStart => exact ⟨0, by omega, rfl, rfl⟩
 case round =>
  obtain ⟨k, hk, rfl, rfl⟩ := hrel
  have hlt : k < s.size := by omega
  have dl : decide ((k : Int) < (s.size : Int)) = true := decide_eq_true (by omega)
  by_cases he : k < a.length
  ·
   obtain ⟨d, hd⟩ : ∃ d, a[k]? = some d := ⟨_, List.getElem?_eq_getElem he⟩
   have hx : s[k] = d := HG.out k hlt d (by rw [List.getElem?_append_left he]; exact hd)
   have ne : ((d.toNat : Int) == (c.toNat : Int)) = false := u8_ne (fun q => HC.out (by rw [← q]; exact List.mem_of_getElem? hd))
   clear hd
   go_wp2
   go_roundw
   case rel => exact ⟨k + 1, by omega, by go_num, by first | rfl | trivial⟩
   case measure => simp [intOf] <;> omega
  ·
   obtain rfl : k = a.length := by omega
   have hx : s[a.length] = c := HG.out _ hlt c (by rw [List.getElem?_append_right (Nat.le_refl _)]; simp)
   have ee : ((c.toNat : Int) == (c.toNat : Int)) = true := beq_self_eq_true _
   go_wp2
   go_ret
   exact ⟨rfl, Below.refl _ _⟩
theorem rfind_no (a : List UInt8) (c : UInt8) (hc : c ∉ a) (hl : a.length ≤ 9223372036854775807) (w : World) :
  Calls Tryz.prog 102 #[.string ⟨a.toArray⟩, .int .u8 (c.toNat : Nat)] w fun r w' => r = .returned (.int .i64 (-1)) ∧ Below w.heap.size w w' := by
 obtain ⟨s, hs⟩ : ∃ s : ByteArray, s = ⟨a.toArray⟩ := ⟨_, rfl⟩
 have hz : s.size = a.length := by rw [hs, yJ]
 have HG : zP (∀ k (h : k < s.size) d, a[k]? = some d → s[k] = d) := zK (fun k h d hd => by subst hs; exact get_l _ _ h _ hd)
 rw [← hs]
 clear hs
 have HC := zK hc
 clear hc
 go_enter Tryz.func102, Tryz.ntmps102
 go_wp2
 go_loopw [5] (fun iv wr => ∃ k : Nat, k ≤ a.length ∧ iv = .int .i64 k ∧ wr = w) (fun iv _ => a.length - (intOf iv).toNat)
 case atStart => exact ⟨0, by omega, rfl, rfl⟩
 case round =>
  obtain ⟨k, hk, rfl, rfl⟩ := hrel
  by_cases he : k < a.length
  ·
   have hlt : k < s.size := by omega
   have dl : decide ((k : Int) < (s.size : Int)) = true := decide_eq_true (by omega)
   obtain ⟨d, hd⟩ : ∃ d, a[k]? = some d := ⟨_, List.getElem?_eq_getElem he⟩
   have hx : s[k] = d := HG.out k hlt d hd
   have ne : ((d.toNat : Int) == (c.toNat : Int)) = false := u8_ne (fun q => HC.out (by rw [← q]; exact List.mem_of_getElem? hd))
   clear hd
   go_wp2
   go_roundw
   case rel => exact ⟨k + 1, by omega, by go_num, by first | rfl | trivial⟩
   case measure => simp [intOf] <;> omega
  ·
   have dl : decide ((k : Int) < (s.size : Int)) = false := decide_eq_false (by omega)
   go_wp2
   go_ret
   exact ⟨rfl, Below.refl _ _⟩
theorem rfind_any (l : List UInt8) (c : UInt8) (k : Nat) (hk : c.toNat = k) (hl : l.length ≤ 9223372036854775807) : (∃ a b, l = a ++ c :: b ∧ c ∉ a ∧ zP (∀ w, Calls Tryz.prog 102 #[.string ⟨l.toArray⟩, .int .u8 k] w fun r w' => r = .returned (.int .i64 (a.length : Nat)) ∧ Below w.heap.size w w')) ∨ (c ∉ l ∧ zP (∀ w, Calls Tryz.prog 102 #[.string ⟨l.toArray⟩, .int .u8 k] w fun r w' => r = .returned (.int .i64 (-1)) ∧ Below w.heap.size w w')) := by
 subst hk
 by_cases h : c ∈ l
 ·
  obtain ⟨a, b, e, n⟩ := List.eq_append_cons_of_mem h
  subst e
  exact Or.inl ⟨a, b, rfl, n, zK (fun w => rfind_at a b c n hl w)⟩
 ·
  exact Or.inr ⟨h, zK (fun w => rfind_no l c h hl w)⟩
theorem ext_from (l : List UInt8) (i : Nat) : (⟨l.toArray⟩ : ByteArray).extract i l.length = ⟨(l.drop i).toArray⟩ := by
 apply ByteArray.ext
 simp [ByteArray.data_extract]
 rw [List.take_of_length_le (by rw [List.length_drop]; omega)]
theorem ext_to (l : List UInt8) (i : Nat) : (⟨l.toArray⟩ : ByteArray).extract 0 i = ⟨(l.take i).toArray⟩ := by
 apply ByteArray.ext
 simp [ByteArray.data_extract]
theorem sl_from (l t : List UInt8) (i : Int) (k : Nat) (hi : i = (k : Int)) (h : k ≤ l.length) (ht : l.drop k = t) (w : World) : (Instr.slice 9 (.string ⟨l.toArray⟩) (some (.int .i64 i)) none none).run Tryz.prog w = .ok (.string ⟨t.toArray⟩) w := by
 subst hi ht
 rw [run_slice_string_from_if (P := Tryz.prog) w 9 _ .i64 (k : Int) Tryz.underlying9, if_pos ⟨by omega, by rw [yJ]; omega⟩, Int.toNat_natCast, yJ, ext_from]
theorem sl_to (l t : List UInt8) (i : Int) (k : Nat) (hi : i = (k : Int)) (h : k ≤ l.length) (ht : l.take k = t) (w : World) : (Instr.slice 9 (.string ⟨l.toArray⟩) none (some (.int .i64 i)) none).run Tryz.prog w = .ok (.string ⟨t.toArray⟩) w := by
 subst hi ht
 rw [run_slice_string_to_if (P := Tryz.prog) w 9 _ .i64 (k : Int) Tryz.underlying9, if_pos ⟨by omega, by rw [yJ]; omega⟩, Int.toNat_natCast, ext_to]
theorem dig_cases (c : UInt8) : (∃ d : Nat, d < 10 ∧ Lib.digitVal c = some d ∧ (c.toNat : Int) = 48 + d) ∨ (Lib.digitVal c = none ∧ ((c.toNat : Int) < 48 ∨ 57 < (c.toNat : Int))) := by
 have key : ∀ x : Fin 256, (∃ d : Fin 10, Lib.digitVal (UInt8.ofNat x.val) = some d.val ∧ x.val = 48 + d.val) ∨ (Lib.digitVal (UInt8.ofNat x.val) = none ∧ (x.val < 48 ∨ 57 < x.val)) := by decide +kernel
 have lt : c.toNat < 256 := UInt8.toNat_lt c
 have e : UInt8.ofNat c.toNat = c := UInt8.ofNat_toNat
 rcases key ⟨c.toNat, lt⟩ with ⟨d, h1, h2⟩ | ⟨h1, h2⟩
 ·
  rw [e] at h1
  exact Or.inl ⟨d.val, d.isLt, h1, by simp only at h2; omega⟩
 ·
  rw [e] at h1
  exact Or.inr ⟨h1, by simp only at h2; omega⟩
theorem decFrom_app : ∀ (a b : List UInt8) (acc : Nat), Lib.decFrom acc (a ++ b) = (Lib.decFrom acc a).bind (fun m => Lib.decFrom m b)
 | [], b, acc => by rw [List.nil_append, Lib.decFrom]; rfl
 | c :: a, b, acc => by
  rw [List.cons_append, Lib.decFrom, Lib.decFrom]
  cases Lib.digitVal c with
  | none => rfl
  | some d => exact decFrom_app a b _
theorem dec_lt : ∀ (l : List UInt8) (acc k : Nat), Lib.decFrom acc l = some k → k < (acc + 1) * 10 ^ l.length
 | [], acc, k, h => by
  rw [Lib.decFrom] at h
  injection h with h
  subst h
  simp
 | c :: l, acc, k, h => by
  rw [Lib.decFrom] at h
  rcases dig_cases c with ⟨x, x10, dv, _⟩ | ⟨dv, _⟩
  ·
   rw [dv] at h
   have := dec_lt l (acc * 10 + x) k h
   have e : (acc * 10 + x + 1) * 10 ^ l.length ≤ ((acc + 1) * 10) * 10 ^ l.length := Nat.mul_le_mul_right _ (by omega)
   rw [List.length_cons, Nat.pow_succ, Nat.mul_comm (10 ^ l.length) 10, ← Nat.mul_assoc]
   omega
  ·
   rw [dv] at h
   exact absurd h (by simp)
theorem dec_lt6 (l : List UInt8) (k : Nat) (hl : l.length ≤ 6) (h : Lib.decFrom 0 l = some k) : k < 1000000 := by
 have a := dec_lt l 0 k h
 have b : 10 ^ l.length ≤ 10 ^ 6 := Nat.pow_le_pow_right (by decide) hl
 have c : (10 : Nat) ^ 6 = 1000000 := by decide
 omega
theorem dec_take (d : List UInt8) (k : Nat) (c : UInt8) (hc : d[k]? = some c) (m : Nat) (hm : Lib.decFrom 0 (d.take k) = some m) : Lib.decFrom 0 (d.take (k + 1)) = (match Lib.digitVal c with | some e => some (m * 10 + e) | none => none) := by
 have hk : k < d.length := (List.getElem?_eq_some_iff.1 hc).1
 have e : d[k]'hk = c := (List.getElem?_eq_some_iff.1 hc).2
 rw [List.take_succ_eq_append_getElem hk, decFrom_app, hm, e]
 show Lib.decFrom m [c] = _
 rw [Lib.decFrom]
 cases Lib.digitVal c with
 | none => rfl
 | some x => rfl
theorem dec_none (d : List UInt8) (k : Nat) (h : Lib.decFrom 0 (d.take k) = none) : Lib.decFrom 0 d = none := by
 have := decFrom_app (d.take k) (d.drop k) 0
 rw [List.take_append_drop, h] at this
 exact this
theorem rwhole_go (neg : Bool) (s sd : ByteArray) (d : List UInt8) (rv : Int) (ro : Bool) (h1 : 1 ≤ d.length) (h6 : d.length ≤ 6) (hz : sd.size = d.length) (HG : zP (∀ k (h : k < sd.size) c, d[k]? = some c → sd[k] = c))
  (HS : zP ((neg = false ∧ s = sd ∧ ∃ c0 : UInt8, d[0]? = some c0 ∧ ((c0.toNat : Int) == 45) = false) ∨ (neg = true ∧ (s.toList == []) = false ∧ (∃ h : 0 < s.size, ((s[0].toNat : Int) == 45) = true) ∧ ∀ w, (Instr.slice 9 (.string s) (some (.int .i64 1)) none none).run Tryz.prog w = .ok (.string sd) w)))
  (HD : zP ((∃ m : Nat, Lib.decFrom 0 d = some m ∧ rv = (if neg = true then -(m : Int) else (m : Int)) ∧ ro = true) ∨ (Lib.decFrom 0 d = none ∧ rv = 0 ∧ ro = false))) (w : World) :
  Calls Tryz.prog 106 #[.string s] w fun r w' => r = .returned (.tuple #[.int .i64 rv, .bool ro]) ∧ Below w.heap.size w w' := by
 have hne : (sd.toList == []) = false := by
  rw [beq_eq_false_iff_ne]
  intro q
  rw [ByteArray.toList_eq] at q
  have h : sd.data.toList.length = sd.size := by rw [Array.length_toList]; rfl
  rw [q] at h
  simp at h
  omega
 have hp : 0 < sd.size := by omega
 have l6 : decide ((6 : Int) < (sd.size : Int)) = false := decide_eq_false (by omega)
 rcases HS.out with ⟨hn, e, c0, Aa, h45⟩ | ⟨hn, n1, ⟨n2, n3⟩, hsl⟩
 ·
  subst e hn
  have hx0 := HG.out 0 hp c0 Aa
  clear HS Aa
  go_enter Tryz.func106, Tryz.ntmps106
  go_wp2
  go_loopw [5, 6] (fun nv iv wr => ∃ k m : Nat, k ≤ d.length ∧ nv = .int .i64 m ∧ iv = .int .i64 k ∧ wr = w ∧ zP (Lib.decFrom 0 (d.take k) = some m) ∧ zP (m < 10 ^ k)) (fun _ iv _ => d.length - (intOf iv).toNat)
  case atStart => exact ⟨0, 0, by omega, rfl, rfl, rfl, zK rfl, zK (by decide)⟩
  case round =>
   obtain ⟨k, m, hk, rfl, rfl, rfl, HM, HB⟩ := hrel
   by_cases he : k < d.length
   ·
    have hlt : k < s.size := by omega
    have dl : decide ((k : Int) < (s.size : Int)) = true := decide_eq_true (by omega)
    obtain ⟨c, hc⟩ : ∃ c, d[k]? = some c := ⟨_, List.getElem?_eq_getElem he⟩
    have hx : s[k] = c := HG.out k hlt c hc
    have dt := dec_take d k c hc m HM.out
    rcases dig_cases c with ⟨x, x10, dv, cv⟩ | ⟨dv, cv⟩
    ·
     rw [dv] at dt
     have m6 : m < 1000000 := Nat.lt_of_lt_of_le HB.out (Nat.le_trans (Nat.pow_le_pow_right (by decide) (show k ≤ 6 by omega)) (by decide))
     have NB : zP (m * 10 + x < 10 ^ (k + 1)) := zK (by rw [Nat.pow_succ]; have := HB.out; omega)
     have DT := zK dt
     have t1 : decide ((c.toNat : Int) < 48) = false := decide_eq_false (by omega)
     have t2 : decide ((57 : Int) < (c.toNat : Int)) = false := decide_eq_false (by omega)
     have t3 : IntKind.u8.wrap ((c.toNat : Int) - 48) = (x : Int) := by rw [cv, IntKind.wrap_u8]; omega
     have t4 : IntKind.i64.wrap (10 * (m : Int)) = ((10 * m : Nat) : Int) := by rw [IntKind.wrap_i64]; omega
     have t5 : IntKind.i64.wrap (((10 * m : Nat) : Int) + (x : Int)) = ((m * 10 + x : Nat) : Int) := by rw [IntKind.wrap_i64]; omega
     have t6 : IntKind.i64.wrap (x : Int) = (x : Int) := by rw [IntKind.wrap_i64]; omega
     clear hc dt dv cv
     go_wp2
     go_roundw
     case rel => exact ⟨k + 1, m * 10 + x, by omega, by congr 1; omega, by go_num, by first | rfl | trivial, DT, NB⟩
     case measure => simp [intOf] <;> omega
    ·
     rw [dv] at dt
     have nd := dec_none d (k + 1) dt
     have hv : rv = 0 ∧ ro = false := by
      rcases HD.out with ⟨q, q1, _⟩ | ⟨_, q2, q3⟩
      ·
       rw [nd] at q1
       exact absurd q1 (by simp)
      ·
       exact ⟨q2, q3⟩
     obtain ⟨rfl, rfl⟩ := hv
     have tt : decide ((c.toNat : Int) < 48) = true ∨ (decide ((c.toNat : Int) < 48) = false ∧ decide ((57 : Int) < (c.toNat : Int)) = true) := by
      by_cases q : (c.toNat : Int) < 48
      ·
       exact Or.inl (decide_eq_true q)
      ·
       exact Or.inr ⟨decide_eq_false q, decide_eq_true (by omega)⟩
     clear hc dt dv cv nd HD
     rcases tt with t1 | ⟨t1, t2⟩
     all_goals
      go_wp2
      exact bodyPost_ret (v := .tuple #[.int .i64 0, .bool false]) (by simp [results, Tryz.results106, go_sem]) rfl ⟨rfl, Below.refl _ _⟩
   ·
    have dl : decide ((k : Int) < (s.size : Int)) = false := decide_eq_false (by omega)
    have ek : k = d.length := by omega
    have em : Lib.decFrom 0 d = some m := by
     have := HM.out
     rw [ek, List.take_length] at this
     exact this
    have m6 : m < 1000000 := Nat.lt_of_lt_of_le HB.out (Nat.le_trans (Nat.pow_le_pow_right (by decide) (show k ≤ 6 by omega)) (by decide))
    have hv : rv = (m : Int) ∧ ro = true := by
     rcases HD.out with ⟨q, q1, q2, q3⟩ | ⟨q1, _⟩
     ·
      rw [em] at q1
      injection q1 with q1
      subst q1
      exact ⟨q2, q3⟩
     ·
      rw [em] at q1
      exact absurd q1 (by simp)
    obtain ⟨rfl, rfl⟩ := hv
    have t7 : IntKind.i64.wrap (-(m : Int)) = -(m : Int) := by rw [IntKind.wrap_i64]; omega
    clear HD em ek HM HB
    go_wp2
    exact bodyPost_ret (v := .tuple #[.int .i64 (m : Int), .bool true]) (by simp [results, Tryz.results106, go_sem]) rfl ⟨rfl, Below.refl _ _⟩
 ·
  subst hn
  clear HS
  go_enter Tryz.func106, Tryz.ntmps106
  go_wp2
  go_loopw [5, 6] (fun nv iv wr => ∃ k m : Nat, k ≤ d.length ∧ nv = .int .i64 m ∧ iv = .int .i64 k ∧ wr = w ∧ zP (Lib.decFrom 0 (d.take k) = some m) ∧ zP (m < 10 ^ k)) (fun _ iv _ => d.length - (intOf iv).toNat)
  case atStart => exact ⟨0, 0, by omega, rfl, rfl, rfl, zK rfl, zK (by decide)⟩
  case round =>
   obtain ⟨k, m, hk, rfl, rfl, rfl, HM, HB⟩ := hrel
   by_cases he : k < d.length
   ·
    have hlt : k < sd.size := by omega
    have dl : decide ((k : Int) < (sd.size : Int)) = true := decide_eq_true (by omega)
    obtain ⟨c, hc⟩ : ∃ c, d[k]? = some c := ⟨_, List.getElem?_eq_getElem he⟩
    have hx : sd[k] = c := HG.out k hlt c hc
    have dt := dec_take d k c hc m HM.out
    rcases dig_cases c with ⟨x, x10, dv, cv⟩ | ⟨dv, cv⟩
    ·
     rw [dv] at dt
     have m6 : m < 1000000 := Nat.lt_of_lt_of_le HB.out (Nat.le_trans (Nat.pow_le_pow_right (by decide) (show k ≤ 6 by omega)) (by decide))
     have NB : zP (m * 10 + x < 10 ^ (k + 1)) := zK (by rw [Nat.pow_succ]; have := HB.out; omega)
     have DT := zK dt
     have t1 : decide ((c.toNat : Int) < 48) = false := decide_eq_false (by omega)
     have t2 : decide ((57 : Int) < (c.toNat : Int)) = false := decide_eq_false (by omega)
     have t3 : IntKind.u8.wrap ((c.toNat : Int) - 48) = (x : Int) := by rw [cv, IntKind.wrap_u8]; omega
     have t4 : IntKind.i64.wrap (10 * (m : Int)) = ((10 * m : Nat) : Int) := by rw [IntKind.wrap_i64]; omega
     have t5 : IntKind.i64.wrap (((10 * m : Nat) : Int) + (x : Int)) = ((m * 10 + x : Nat) : Int) := by rw [IntKind.wrap_i64]; omega
     have t6 : IntKind.i64.wrap (x : Int) = (x : Int) := by rw [IntKind.wrap_i64]; omega
     clear hc dt dv cv
     go_wp2
     go_roundw
     case rel => exact ⟨k + 1, m * 10 + x, by omega, by congr 1; omega, by go_num, by first | rfl | trivial, DT, NB⟩
     case measure => simp [intOf] <;> omega
    ·
     rw [dv] at dt
     have nd := dec_none d (k + 1) dt
     have hv : rv = 0 ∧ ro = false := by
      rcases HD.out with ⟨q, q1, _⟩ | ⟨_, q2, q3⟩
      ·
       rw [nd] at q1
       exact absurd q1 (by simp)
      ·
       exact ⟨q2, q3⟩
     obtain ⟨rfl, rfl⟩ := hv
     have tt : decide ((c.toNat : Int) < 48) = true ∨ (decide ((c.toNat : Int) < 48) = false ∧ decide ((57 : Int) < (c.toNat : Int)) = true) := by
      by_cases q : (c.toNat : Int) < 48
      ·
       exact Or.inl (decide_eq_true q)
      ·
       exact Or.inr ⟨decide_eq_false q, decide_eq_true (by omega)⟩
     clear hc dt dv cv nd HD
     rcases tt with t1 | ⟨t1, t2⟩
     all_goals
      go_wp2
      exact bodyPost_ret (v := .tuple #[.int .i64 0, .bool false]) (by simp [results, Tryz.results106, go_sem]) rfl ⟨rfl, Below.refl _ _⟩
   ·
    have dl : decide ((k : Int) < (sd.size : Int)) = false := decide_eq_false (by omega)
    have ek : k = d.length := by omega
    have em : Lib.decFrom 0 d = some m := by
     have := HM.out
     rw [ek, List.take_length] at this
     exact this
    have m6 : m < 1000000 := Nat.lt_of_lt_of_le HB.out (Nat.le_trans (Nat.pow_le_pow_right (by decide) (show k ≤ 6 by omega)) (by decide))
    have hv : rv = (-(m : Int)) ∧ ro = true := by
     rcases HD.out with ⟨q, q1, q2, q3⟩ | ⟨q1, _⟩
     ·
      rw [em] at q1
      injection q1 with q1
      subst q1
      exact ⟨q2, q3⟩
     ·
      rw [em] at q1
      exact absurd q1 (by simp)
    obtain ⟨rfl, rfl⟩ := hv
    have t7 : IntKind.i64.wrap (-(m : Int)) = -(m : Int) := by rw [IntKind.wrap_i64]; omega
    clear HD em ek HM HB
    go_wp2
    exact bodyPost_ret (v := .tuple #[.int .i64 (-(m : Int)), .bool true]) (by simp [results, Tryz.results106, go_sem]) rfl ⟨rfl, Below.refl _ _⟩
end Go.Proofs.YtkblmpmkchkpjaaGreatDoor
