/-
  What the functions that the statement reaches return: part 21 (R24, O1, D1, O3, M0, M2, O5, Z0).
-/
import Derived.Test.YtapikkbifdldfaaGreatDoorDq20
namespace Go.Proofs.YtapikkbifdldfaaGreatDoor
set_option maxRecDepth 100000
set_option maxHeartbeats 40000000
set_option maxRecDepth 100000
open Go.RowKit WMath XMath
set_option linter.unusedSimpArgs false
set_option linter.unusedVariables false
def Fnd0 (f : Int) (x : XN) (T : Int) (W : Nat) (more : Bool) : Prop := T = topX x ∧ ∀ k : Nat, T - fP f + (k : Int) ≤ 2000000 → flX x (T - fP f + (k : Int)) = ((W / 2 ^ k, !more && decide (W % 2 ^ k = 0)), 0)
theorem fnd_x0 {f : Int} (hf : Is4 f) {x : XN} (hx : x.can) (n0 : x.n ≠ 0) (hd : nl x.d ≤ 8192) : Wok f (xW f x) ∧ Fnd0 f x (topX x) (xW f x) (xM f x) := by
 obtain ⟨t1, t2⟩ := top_lim hx
 obtain ⟨a, b⟩ := x_num hf x hx n0 hd t1 t2
 exact ⟨a, rfl, b⟩
theorem rfind0 (f : Int) (hf : Is4 f) (b : Bool) (n d : Nat) (s t : ByteArray) (e : Int) (hs : nbA n = s) (ht : nbA d = t) (hc : (XN.mk b n d e).can) (T : Int) (t1 : -1300000 ≤ T) (t2 : T ≤ 1300000) (W : Nat) (more : Bool) (lw : nl W ≤ 8192) (hF : Fnd0 f ⟨b, n, d, e⟩ T W more) (k : Nat) (A : Int) (hA : T - fP f + 1 + (k : Int) = A) (hA2 : A ≤ 900000) (M : ByteArray) (hM : nbA (rS W k) = M) (w : World) :
  Calls Tryz.prog 162 #[.agg #[.bool b, .string s, .string t, .int .i64 e], .bool false, .int .i64 A] w fun r w' => r = .returned (.agg #[.string M, .int .i64 A, .int .i64 (hfV (rH W k) (rM W k more)), .bool (!(rH W k || rM W k more))]) ∧ Below w.heap.size w w' := by
 have p := fp8 hf
 have n4 := (nm8 hf).2.2.2.1
 have d1 : nl (W / 2 ^ k) ≤ 8192 := Nat.le_trans (nl_mono _ _ (Nat.div_le_self _ _)) lw
 have KL : Box (∀ w, Calls Tryz.prog 202 #[.string (nbA (W / 2 ^ k))] w fun r w' => r = .returned (.bool (rH W k)) ∧ Below w.heap.size w w') := box (fun w => rf_last _ _ _ rfl (by omega) (last_is W k) w)
 obtain ⟨hTx, hF⟩ := hF
 have F1 := hF (k + 1) (by omega)
 have F2 := hF k (by omega)
 rw [cut_two, ex_is, show T - fP f + ((k + 1 : Nat) : Int) = A by omega] at F1
 rw [wh_is] at F2
 have K1 : Box (∀ w, Calls Tryz.prog 201 #[.agg #[.bool b, .string s, .string t, .int .i64 e], .int .i64 A] w fun r w' => r = .returned (.tuple #[.string M, .bool (!(rH W k || rM W k more)), .int .i64 0]) ∧ Below w.heap.size w w') := box (fun w => rFloor_ok b n d e s t A _ _ 0 M hs ht hc (by omega) (by omega) F1 hM w)
 have K2 : Box (∀ w, Calls Tryz.prog 201 #[.agg #[.bool b, .string s, .string t, .int .i64 e], .int .i64 (T - fP f + (k : Int))] w fun r w' => r = .returned (.tuple #[.string (nbA (W / 2 ^ k)), .bool (!rM W k more), .int .i64 0]) ∧ Below w.heap.size w w') := box (fun w => rFloor_ok b n d e s t _ _ _ 0 _ hs ht hc (by omega) (by omega) F2 rfl w)
 have a1 : IntKind.i64.wrap (A - 1) = T - fP f + (k : Int) := by rw [wrap_i64_is _ (by omega) (by omega)]; omega
 generalize rH W k = H at *
 generalize rM W k more = R at *
 cases H <;> cases R
 ·
  exact rf_find_ex b s t e A A A 0 0 M M M M M M w K1
 ·
  exact rf_find_lo1 b s t e A _ A 0 0 M M _ M M M w K1 K2 KL a1
 ·
  exact rf_find_half b s t e A _ A 0 0 M M _ M M M w K1 K2 KL a1
 ·
  exact rf_find_hi b s t e A _ A 0 0 M M _ M M M w K1 K2 KL a1
theorem rtop0 (f : Int) (b : Bool) (n d : Nat) (s t : ByteArray) (e : Int) (hs : nbA n = s) (ht : nbA d = t) (hc : (XN.mk b n d e).can) (n0 : n ≠ 0) (T : Int) (W : Nat) (more : Bool) (hF : Fnd0 f ⟨b, n, d, e⟩ T W more) (w : World) : Calls Tryz.prog 160 #[.agg #[.bool b, .string s, .string t, .int .i64 e], .bool false] w fun r w' => r = .returned (.int .i64 T) ∧ Below w.heap.size w w' := by
 obtain ⟨t1, t2⟩ := top_lim hc
 exact rf_top b s t e T 0 w (box (fun w => rTop_ok b n d e s t T hs ht n0 hc hF.1.symm w))
theorem rtiny0 (f m : Int) (hf : Is4 f) (hm : 0 ≤ m ∧ m ≤ 4) (b : Bool) (n d : Nat) (s t : ByteArray) (e : Int) (hs : nbA n = s) (ht : nbA d = t) (hc : (XN.mk b n d e).can) (n0 : n ≠ 0) (T : Int) (t1 : -1300000 ≤ T) (t2 : T ≤ 1300000) (W : Nat) (more : Bool) (hW : Wok f W) (hF : Fnd0 f ⟨b, n, d, e⟩ T W more) (o : Bool) (ho : tnB f m b T W more = o) (w : World) :
  Calls Tryz.prog 165 #[.int .u8 f, .int .u8 m, .agg #[.bool b, .string s, .string t, .int .i64 e], .bool false] w fun r w' => r = .returned (.bool o) ∧ Below w.heap.size w w' := by
 have p := fp8 hf
 obtain ⟨n1, n2, n3, n4, n5, n6⟩ := nm8 hf
 have KT : Box (∀ w, Calls Tryz.prog 160 #[.agg #[.bool b, .string s, .string t, .int .i64 e], .bool false] w fun r w' => r = .returned (.int .i64 T) ∧ Below w.heap.size w w') := box (fun w => rtop0 f b n d s t e hs ht hc n0 T W more hF w)
 have KI : Box (∀ w, Calls Tryz.prog 150 #[.int .u8 f] w fun r w' => r = .returned (.int .i64 (1 - fE f)) ∧ Below w.heap.size w w') := box (fun w => r_emin_b f hf w)
 have i1 : IntKind.i64.wrap (1 - fE f - 1) = 1 - fE f - 1 := wrap_i64_is _ (by omega) (by omega)
 by_cases c1 : 1 - fE f ≤ T
 ·
  rw [tn_hi hf hW m b T more c1] at ho
  subst ho
  exact rf_tiny_hi f m b s t e false T _ 0 0 0 0 0 s s false false 0 w KT KI (decide_eq_true c1)
 by_cases c2 : T < 1 - fE f - 1
 ·
  rw [tn_lo hf hW m b T more c2] at ho
  subst ho
  exact rf_tiny_lo f m b s t e false T _ _ 0 0 0 0 s s false false 0 w KT KI (decide_eq_false c1) i1 (decide_eq_true c2)
 ·
  rw [tn_mid hf m b T more (by omega)] at ho
  have lim := (rG_lim hW m b 0 more).1
  exact rf_tiny_mid f m b s t e false T _ _ (fP f) (T - fP f) (T - fP f + 1) _ (nbA (rS W 0)) (nbA (rG m b W 0 more)) _ o _ w KT KI (box (fun w => r_prec_b f hf w))
   (box (fun w => rfind0 f hf b n d s t e hs ht hc T t1 t2 W more (nl_W hf hW) hF 0 _ (by omega) (by omega) _ rfl w))
   (box (fun w => rtaken m hm b W 0 more (nl_W hf hW) _ _ _ rfl rfl w))
   (box (fun w => bel_same (nat_Len _ _ _ rfl (nl_small hf _ lim) rfl w))) (decide_eq_false c1) i1 (decide_eq_false c2) (wrap_i64_is _ (by omega) (by omega)) (wrap_i64_is _ (by omega) (by omega)) ho
theorem rdeliver0 (f m : Int) (hf : Is4 f) (hm : 0 ≤ m ∧ m ≤ 4) (b : Bool) (n d : Nat) (s t : ByteArray) (e : Int) (hs : nbA n = s) (ht : nbA d = t) (hc : (XN.mk b n d e).can) (n0 : n ≠ 0) (T : Int) (t1 : -1300000 ≤ T) (t2 : T ≤ 1300000) (W : Nat) (more : Bool) (hW : Wok f W) (hF : Fnd0 f ⟨b, n, d, e⟩ T W more) (M : Nat) (fl : Int) (hd : dlv f m b T W more = (M, fl)) (u v : Nat) (hv : bv7 M = (u, v)) (w : World) :
  Calls Tryz.prog 104 #[.int .u8 f, .int .u8 m, .agg #[.bool b, .string s, .string t, .int .i64 e], .bool false] w fun r w' => r = .returned (.tuple #[.agg #[.int .u64 u, .int .u64 v], .int .u8 fl]) ∧ Below w.heap.size w w' := by
 have p := fp8 hf
 obtain ⟨n1, n2, n3, n4, n5, n6⟩ := nm8 hf
 have KT : Box (∀ w, Calls Tryz.prog 160 #[.agg #[.bool b, .string s, .string t, .int .i64 e], .bool false] w fun r w' => r = .returned (.int .i64 T) ∧ Below w.heap.size w w') := box (fun w => rtop0 f b n d s t e hs ht hc n0 T W more hF w)
 have KP : Box (∀ w, Calls Tryz.prog 95 #[.int .u8 f] w fun r w' => r = .returned (.int .i64 (fP f)) ∧ Below w.heap.size w w') := box (fun w => r_prec_b f hf w)
 have KE : Box (∀ w, Calls Tryz.prog 149 #[.int .u8 f] w fun r w' => r = .returned (.int .i64 (fE f)) ∧ Below w.heap.size w w') := box (fun w => r_emax_b f hf w)
 have KI : Box (∀ w, Calls Tryz.prog 150 #[.int .u8 f] w fun r w' => r = .returned (.int .i64 (1 - fE f)) ∧ Below w.heap.size w w') := box (fun w => r_emin_b f hf w)
 by_cases c0 : fE f < T
 ·
  rw [dlv_over hf hW m b T more c0] at hd
  injection hd with a1 a2
  subst a1 a2
  exact rf_del_over f m b s t e false T _ _ 0 0 0 0 0 s s false false s s 0 0 u v false w KT KP KE (box (fun w => rover f m hf hm b u v hv w)) (decide_eq_true c0)
 have lim := rG_lim hW m b (dK f T) more
 have sl := nl_W hf hW
 have kk : stE f T - T = (dK f T : Int) := by unfold dK stE; omega
 have stx := st_lx hf T
 obtain ⟨S, hS⟩ : ∃ S, rG m b W (dK f T) more = S := ⟨_, rfl⟩
 have nlim := null_lim hf hW m b (dK f T) more
 have kb : dK f T ≤ 1400000 := by unfold dK stE; omega
 have jb : dJ f T ≤ 40000 := by unfold dJ stE; omega
 unfold dlv at hd
 rw [hS] at hd lim nlim
 have hj : dJ f T = 0 ∨ 2 ^ pV f ≤ S := by
  rcases jk (f := f) T with ⟨a, _⟩ | ⟨a, _⟩
  ·
   exact Or.inl a
  ·
   exact Or.inr (lim.2.1 a)
 obtain ⟨x, hx, xc, xz⟩ : ∃ x : XN, XMath.mk b S 1 (lx f + (dJ f T : Int)) = (x, 0) ∧ x.can ∧ (x.n = 0 ↔ S = 0) := by
  by_cases s0 : S = 0
  ·
   subst s0
   exact ⟨X0, mk_null _ _ _, x0_can, by decide⟩
  ·
   obtain ⟨a, c, d, _⟩ := mk_small hf b (dJ f T) S s0 lim.1 jb
   exact ⟨_, a, c, ⟨fun h => absurd h d, fun h => absurd h s0⟩⟩
 obtain ⟨xb, xn, xd, xe⟩ := x
 obtain ⟨i, j, ok, hij, hok1, hok2, hok3⟩ : ∃ i j ok, (S ≠ 0 → ∃ Mx, ofX f ⟨xb, xn, xd, xe⟩ = (Mx, ok) ∧ bv7 Mx = (i, j)) ∧ (ok = true → i = u ∧ j = v) ∧ (ok = true → ¬ fE f < stE f T - fP f + (blen S : Int)) ∧ (ok = false → fE f < stE f T - fP f + (blen S : Int)) := by
  by_cases s0 : S = 0
  ·
   have b0 : blen S = 0 := by rw [s0]; decide
   exact ⟨u, v, true, fun h => absurd s0 h, fun _ => ⟨rfl, rfl⟩, fun _ => by rw [b0]; unfold stE; omega, fun h => Bool.noConfusion h⟩
  ·
   obtain ⟨a, c, dd, tp⟩ := mk_small hf b (dJ f T) S s0 lim.1 jb
   rw [hx] at a
   injection a with a1 a2
   by_cases ov : fE f < stE f T - fP f + (blen S : Int)
   ·
    exact ⟨0, 0, false, fun _ => ⟨0, by rw [a1]; exact of_over hf b (dJ f T) S s0 lim.1 jb (by omega), rfl⟩, fun h => Bool.noConfusion h, fun h => Bool.noConfusion h, fun _ => ov⟩
   ·
    have hd2 := hd
    rw [if_neg ov] at hd2
    injection hd2 with h1 h2
    exact ⟨u, v, true, fun _ => ⟨M, by rw [a1, ← h1]; exact of_rep hf b (dJ f T) S s0 lim.1 hj (by omega), hv⟩, fun _ => ⟨rfl, rfl⟩, fun _ => ov, fun h => Bool.noConfusion h⟩
 have b0 : S = 0 → blen S = 0 := fun h => by rw [h]; decide
 have nul0 : S = 0 → M = eZero f b ∧ fl = 3 := fun s0 => by
  obtain ⟨k3, kl⟩ := nlim s0
  have hj0 : dJ f T = 0 := by have := Nat.two_pow_pos (pV f); omega
  rw [if_neg (by rw [b0 s0]; unfold stE; omega)] at hd
  injection hd with h1 h2
  rw [if_pos kl, if_pos (tn_lo hf hW m b T more (by rcases jk (f := f) T with ⟨_, q⟩ | ⟨q, _⟩ <;> omega))] at h2
  refine ⟨?_, h2.symm⟩
  rw [← h1, hj0, s0]
  unfold eS eZero enc7
  rfl
 have KF : ∀ A0, A0 = stE f T → Box (∀ w, Calls Tryz.prog 162 #[.agg #[.bool b, .string s, .string t, .int .i64 e], .bool false, .int .i64 (A0 - fP f + 1)] w fun r w' => r = .returned (.agg #[.string (nbA (rS W (dK f T))), .int .i64 (A0 - fP f + 1), .int .i64 (hfV (rH W (dK f T)) (rM W (dK f T) more)), .bool (!(rH W (dK f T) || rM W (dK f T) more))]) ∧ Below w.heap.size w w') := fun A0 h0 => box (fun w => rfind0 f hf b n d s t e hs ht hc T t1 t2 W more sl hF (dK f T) _ (by omega) (by rw [h0]; unfold stE; omega) _ rfl w)
 have KK : ∀ A, Box (∀ w, Calls Tryz.prog 163 #[.int .u8 m, .bool b, .agg #[.string (nbA (rS W (dK f T))), .int .i64 A, .int .i64 (hfV (rH W (dK f T)) (rM W (dK f T) more)), .bool (!(rH W (dK f T) || rM W (dK f T) more))]] w fun r w' => r = .returned (.string (nbA S)) ∧ Below w.heap.size w w') := fun A => box (fun w => rtaken m hm b W (dK f T) more sl A _ _ rfl (by rw [hS]) w)
 have KM : ∀ A0, A0 = stE f T → Box (∀ w, Calls Tryz.prog 99 #[.bool b, .string (nbA S), .string ⟨#[1]⟩, .int .i64 (A0 - fP f + 1)] w fun r w' => r = .returned (.tuple #[.agg #[.bool xb, .string (nbA xn), .string (nbA xd), .int .i64 xe], .int .i64 0]) ∧ Below w.heap.size w w') := fun A0 h0 => box (fun w => rmake_ok b S 1 _ _ _ xb xn xd xe 0 _ _ rfl nb1 (nl_small hf S lim.1) nl1 (by decide) (by omega) (by omega) (by rw [h0, stx]; exact hx) rfl rfl w)
 have hn : ((nbA xn).toList == []) = decide (S = 0) := by rw [od_nil xn _ rfl, decide_eq_decide]; exact xz
 have hfl : (if decide (S = 0) = true then (3 : Int) else if ok = true then (if (!(rH W (dK f T) || rM W (dK f T) more)) = true then 0 else if tnB f m b T W more = true then 3 else 1) else 5) = fl := by
  by_cases s0 : S = 0
  ·
   rw [if_pos (decide_eq_true s0)]
   exact (nul0 s0).2.symm
  ·
   rw [if_neg (by simpa using s0)]
   cases ok
   ·
    rw [if_neg (by decide)]
    rw [if_pos (hok3 rfl)] at hd
    injection hd
   ·
    rw [if_pos rfl]
    rw [if_neg (hok2 rfl)] at hd
    injection hd with h1 h2
    rw [← h2]
    generalize (rH W (dK f T) || rM W (dK f T) more) = q
    cases q <;> rfl
 have KZ : Box (decide (S = 0) = true → ∀ w, Calls Tryz.prog 47 #[.int .u8 f, .bool b] w fun r w' => r = .returned (.agg #[.int .u64 u, .int .u64 v]) ∧ Below w.heap.size w w') := box (fun h w => rz_zero f b hf u v (by rw [← (nul0 (of_decide_eq_true h)).1]; exact hv) w)
 have KB : Box (decide (S = 0) = false → ∀ w, Calls Tryz.prog 164 #[.int .u8 f, .agg #[.bool xb, .string (nbA xn), .string (nbA xd), .int .i64 xe]] w fun r w' => r = .returned (.tuple #[.agg #[.int .u64 i, .int .u64 j], .bool ok]) ∧ Below w.heap.size w w') := box (fun h w => by
  obtain ⟨Mx, q1, q2⟩ := hij (of_decide_eq_false h)
  exact rOf_is f hf xb xn xd _ _ xe rfl rfl xc Mx ok i j q1 q2 w)
 have KO : Box (ok = false → ∀ w, Calls Tryz.prog 161 #[.int .u8 f, .int .u8 m, .bool b] w fun r w' => r = .returned (.agg #[.int .u64 u, .int .u64 v]) ∧ Below w.heap.size w w') := box (fun h w => rover f m hf hm b u v (by
  rw [if_pos (hok3 h)] at hd
  injection hd with h1 h2
  rw [h1]
  exact hv) w)
 have KN : Box (∀ w, Calls Tryz.prog 165 #[.int .u8 f, .int .u8 m, .agg #[.bool b, .string s, .string t, .int .i64 e], .bool false] w fun r w' => r = .returned (.bool (tnB f m b T W more)) ∧ Below w.heap.size w w') := box (fun w => rtiny0 f m hf hm b n d s t e hs ht hc n0 T t1 t2 W more hW hF _ rfl w)
 by_cases lo : T < 1 - fE f
 ·
  have hst : 1 - fE f = stE f T := by unfold stE; omega
  exact rf_deliver_a f m b s t e false T (fE f) (fP f) (1 - fE f) (1 - fE f) _ (1 - fE f - fP f + 1) _ fl _ _ _ xb _ _ xe 0 u v i j ok _ _ w KT KP KE KI (KF _ hst) (KK _) (KM _ hst) KZ KB KO hok1 KN (decide_eq_false c0) (decide_eq_true lo) (wrap_i64_is _ (by omega) (by omega)) (wrap_i64_is _ (by omega) (by omega)) rfl hn hfl
 ·
  have hst : T = stE f T := by unfold stE; omega
  exact rf_deliver_b f m b s t e false T (fE f) (fP f) (1 - fE f) T _ (T - fP f + 1) _ fl _ _ _ xb _ _ xe 0 u v i j ok _ _ w KT KP KE KI (KF _ hst) (KK _) (KM _ hst) KZ KB KO hok1 KN (decide_eq_false c0) (decide_eq_false lo) (wrap_i64_is _ (by omega) (by omega)) (wrap_i64_is _ (by omega) (by omega)) rfl hn hfl
theorem rRound_is0 (f m : Int) (hf : Is4 f) (hm : 0 ≤ m ∧ m ≤ 4) (b : Bool) (n d : Nat) (s t : ByteArray) (e : Int) (hs : nbA n = s) (ht : nbA d = t) (hc : (XN.mk b n d e).can) (ln : nl n ≤ 8192) (ld : nl d ≤ 8192) (M : Nat) (fl : Int) (hd : rnd f m ⟨b, n, d, e⟩ = (M, fl)) (u v : Nat) (hv : bv7 M = (u, v)) (w : World) :
  Calls Tryz.prog 50 #[.int .u8 f, .int .u8 m, .agg #[.bool b, .string s, .string t, .int .i64 e]] w fun r w' => r = .returned (.tuple #[.agg #[.int .u64 u, .int .u64 v], .int .u8 fl, .int .i64 0]) ∧ Below w.heap.size w w' := by
 have KF : Box (∀ w, Calls Tryz.prog 103 #[.int .u8 f, .int .u8 m, .agg #[.bool b, .string s, .string t, .int .i64 e]] w fun r w' => r = .returned (.int .i64 0) ∧ Below w.heap.size w w') := box (fun w => rfault f m b s t e true (may_yes hs ht hc) 0 (flt_ok hf hm hs ht ln ld) w)
 unfold rnd at hd
 rcases x_cases hs ht hc with ⟨n0, rfl, rfl, rfl, rfl, rfl⟩ | ⟨n0, e0⟩
 ·
  rw [if_pos n0] at hd
  injection hd with h1 h2
  subst h1 h2
  injection hv with h3 h4
  subst h3 h4
  exact rf_Round_null f m w KF
 ·
  rw [if_neg n0] at hd
  obtain ⟨t1, t2⟩ := top_lim hc
  obtain ⟨q1, q2⟩ := fnd_x0 hf hc n0 ld
  exact rf_Round_ok f m b s t e u v fl w KF (box (fun w => rdeliver0 f m hf hm b n d s t e hs ht hc n0 _ (by omega) (by omega) _ _ q1 q2 M fl hd u v hv w)) (eq_nil n s hs n0)
end Go.Proofs.YtapikkbifdldfaaGreatDoor
namespace Go.Proofs.YtapikkbifdldfaaGreatDoor
set_option maxRecDepth 100000
set_option maxHeartbeats 40000000
set_option maxRecDepth 100000
open Go.RowKit WMath
set_option linter.unusedSimpArgs false
set_option linter.unusedVariables false
theorem op_endless (c : Nat) (o : Bool) (ho : (decide (c = 0) || decide (c = 7)) = o) (w : World) : Calls Tryz.prog 70 #[.int .u8 c] w fun r w' => r = .returned (.bool o) ∧ Below w.heap.size w w' := by
 by_cases c0 : c = 0
 ·
  rw [decide_eq_true c0, Bool.true_or] at ho
  subst ho
  have d0 : ((c : Int) == 0) = true := by rw [c0]; rfl
  clear c0
  have B0 : Below w.heap.size w w := (Below.refl _ _)
  go_enter Tryz.func70, Tryz.ntmps70
  go_wp2
  go_ret
  exact ⟨rfl, B0⟩
 ·
  rw [decide_eq_false c0, Bool.false_or] at ho
  have d0 : ((c : Int) == 0) = false := by rw [beq_eq_false_iff_ne]; omega
  have d7 : ((c : Int) == 7) = o := by
   rw [← ho]
   by_cases c7 : c = 7
   ·
    rw [decide_eq_true c7, c7]; rfl
   ·
    rw [decide_eq_false c7, beq_eq_false_iff_ne]; omega
  clear ho c0
  have B0 : Below w.heap.size w w := (Below.refl _ _)
  go_enter Tryz.func70, Tryz.ntmps70
  go_wp2
  go_ret
  exact ⟨rfl, B0⟩
theorem op_naught (c : Nat) (o : Bool) (ho : (decide (c = 3) || decide (c = 4)) = o) (w : World) : Calls Tryz.prog 71 #[.int .u8 c] w fun r w' => r = .returned (.bool o) ∧ Below w.heap.size w w' := by
 by_cases c0 : c = 3
 ·
  rw [decide_eq_true c0, Bool.true_or] at ho
  subst ho
  have d0 : ((c : Int) == 3) = true := by rw [c0]; rfl
  clear c0
  have B0 : Below w.heap.size w w := (Below.refl _ _)
  go_enter Tryz.func71, Tryz.ntmps71
  go_wp2
  go_ret
  exact ⟨rfl, B0⟩
 ·
  rw [decide_eq_false c0, Bool.false_or] at ho
  have d0 : ((c : Int) == 3) = false := by rw [beq_eq_false_iff_ne]; omega
  have d7 : ((c : Int) == 4) = o := by
   rw [← ho]
   by_cases c7 : c = 4
   ·
    rw [decide_eq_true c7, c7]; rfl
   ·
    rw [decide_eq_false c7, beq_eq_false_iff_ne]; omega
  clear ho c0
  have B0 : Below w.heap.size w w := (Below.refl _ _)
  go_enter Tryz.func71, Tryz.ntmps71
  go_wp2
  go_ret
  exact ⟨rfl, B0⟩
theorem op_inf (f : Int) (neg : Bool) (u v : Nat) (w : World) (KI : Box (∀ w, FAt w → Calls Tryz.prog 76 #[.int .u8 f, .int .u8 0, .bool neg] w fun r w' => r = .returned (.tuple #[.agg #[.int .u64 u, .int .u64 v], .int .u8 5, .int .i64 0]) ∧ Below w.heap.size w w')) (hT : FAt w) : Calls Tryz.prog 36 #[.int .u8 f, .bool neg] w fun r w' => r = .returned (.agg #[.int .u64 u, .int .u64 v]) ∧ Below w.heap.size w w' := by
 have FF := box hT
 clear hT
 obtain ⟨Ac, B0⟩ := opn1 w (Obj.cells #[.int .u64 0, .int .u64 0] 26)
 go_enter Tryz.func36, Tryz.ntmps36
 go_wp2_with fail
 refine (KI.out _ (fatB FF.out B0)).mono ?_
 rintro r w1 ⟨rfl, b1⟩
 have B1 := btr B0 b1
 have Aa := heap_of b1 _ _ _ Ac
 clear b1 B0 Ac
 obtain ⟨Ad, Ae⟩ := cells2s Aa
 have S2 := box B1.size
 have Af := ltR Aa
 have Ag := heap_alloc_last w1 (Obj.cells #[.int .u64 u, .int .u64 v] 26)
 have B2 := btr B1 (bal w1 (Obj.cells #[.int .u64 u, .int .u64 v] 26))
 have Ab := heap_of (bal w1 (Obj.cells #[.int .u64 u, .int .u64 v] 26)) _ _ _ Aa
 clear B1 Aa Ad Ae
 obtain ⟨Ah, Ai⟩ := cells2s Ab
 obtain ⟨Aj, Ak⟩ := cells2s Ag
 have q0 := fz (k := 0) Ab
 have q1 := fz (k := 1) Ab
 obtain ⟨E0, E1⟩ := set2_cells Ab (.int .u64 u) (.int .u64 v)
 go_wp2
 exact bodyPost_ret (v := .agg #[.int .u64 u, .int .u64 v]) (by simp [results, Tryz.results36, go_sem, E0, E1]) rfl ⟨rfl, set2_below B2 (by first | exact Nat.le_refl _ | omega | (have := S2.out; have := Af.out; omega)) _ _⟩
theorem op_nan (f : Int) (iu iv a b c u v : Nat) (l o : Bool) (w : World) (KI : Box (∀ w, FAt w → Calls Tryz.prog 36 #[.int .u8 f, .bool false] w fun r w' => r = .returned (.agg #[.int .u64 iu, .int .u64 iv]) ∧ Below w.heap.size w w'))
  (KO : Box (∀ w, Calls Tryz.prog 72 #[.agg #[.int .u64 iu, .int .u64 iv]] w fun r w' => r = .returned (.agg (cw 6 a)) ∧ Below w.heap.size w w'))
  (KR : Box (∀ w, Calls Tryz.prog 73 #[.agg (cw 6 a), .int .i64 1] w fun r w' => r = .returned (.tuple #[.agg (cw 6 b), .bool l]) ∧ Below w.heap.size w w'))
  (KU : Box (∀ w, Calls Tryz.prog 75 #[.agg (cw 6 a), .agg (cw 6 b)] w fun r w' => r = .returned (.agg (cw 6 c)) ∧ Below w.heap.size w w'))
  (KT : Box (∀ w, Calls Tryz.prog 74 #[.agg (cw 6 c)] w fun r w' => r = .returned (.tuple #[.agg #[.int .u64 u, .int .u64 v], .bool o]) ∧ Below w.heap.size w w')) (hT : FAt w) : Calls Tryz.prog 35 #[.int .u8 f] w fun r w' => r = .returned (.agg #[.int .u64 u, .int .u64 v]) ∧ Below w.heap.size w w' := by
 have FF := box hT
 clear hT
 have hat := cw_at 6
 have hz := cw6z
 have hff := cw6f
 have hs0 := st0
 have hcs : ∀ x, ((cw 6 x).size = 6) = True := fun x => eq_true (cw_size 6 x)
 obtain ⟨Aq, B0⟩ := opn1 w (Obj.cells #[.int .u64 0, .int .u64 0] 26)
 go_enter Tryz.func35, Tryz.ntmps35
 go_wp2_with fail
 refine (KI.out _ (fatB FF.out B0)).mono ?_
 rintro r w1 ⟨rfl, b1⟩
 have B1 := btr B0 b1
 have Ah := heap_of b1 _ _ _ Aq
 clear b1 B0 Aq
 obtain ⟨Ar, As⟩ := cells2s Ah
 go_wp2_with fail
 refine (KO.out _).mono ?_
 rintro r w2 ⟨rfl, b2⟩
 have B2 := btr B1 b2
 have Aa := heap_of b2 _ _ _ Ah
 clear b2 B1 Ah Ar As
 obtain ⟨At, Au⟩ := cells2s Aa
 have S3 := box B2.size
 have Av := ltR Aa
 have Ai := heap_alloc_last w2 (Obj.cells (cw 6 a) 52)
 have B3 := btr B2 (bal w2 (Obj.cells (cw 6 a) 52))
 have Aj := heap_of (bal w2 (Obj.cells (cw 6 a) 52)) _ _ _ Aa
 clear B2 Aa At Au
 obtain ⟨Aw, Ax⟩ := cells2s Aj
 have Ay := row_cell Ai
 go_wp2_with fail
 refine (KR.out _).mono ?_
 rintro r w4 ⟨rfl, b4⟩
 have B4 := btr B3 b4
 obtain ⟨Ab, Ac⟩ := rws2 b4 Aj Ai
 clear b4 B3 Aj Aw Ax Ai Ay
 obtain ⟨Az, AA⟩ := cells2s Ab
 have AB := row_cell Ac
 have S5 := box B4.size
 have AC := ltR Ab
 have AD := ltR Ac
 have Ak := heap_alloc_last w4 (Obj.cells (cw 6 b) 52)
 have B5 := btr B4 (bal w4 (Obj.cells (cw 6 b) 52))
 obtain ⟨Al, Am⟩ := rws2 (bal w4 (Obj.cells (cw 6 b) 52)) Ab Ac
 clear B4 Ab Az AA Ac AB
 obtain ⟨AE, AF⟩ := cells2s Al
 have AG := row_cell Am
 have AH := row_cell Ak
 go_wp2_with fail
 refine (KU.out _).mono ?_
 rintro r w6 ⟨rfl, b6⟩
 have B6 := btr B5 b6
 obtain ⟨An, Ao, Ap⟩ := rws3 b6 Al Am Ak
 clear b6 B5 Al AE AF Am AG Ak AH
 obtain ⟨AI, AJ⟩ := cells2s An
 have AK := row_cell Ao
 have AL := row_cell Ap
 go_wp2_with fail
 refine (KT.out _).mono ?_
 rintro r w7 ⟨rfl, b7⟩
 have B7 := btr B6 b7
 obtain ⟨Ad, Ae, Af⟩ := rws3 b7 An Ao Ap
 clear b7 B6 An AI AJ Ao AK Ap AL
 obtain ⟨AM, AN⟩ := cells2s Ad
 have AO := row_cell Ae
 have AP := row_cell Af
 have S8 := box B7.size
 have AQ := ltR Ad
 have AR := ltR Ae
 have AS := ltR Af
 have AT := heap_alloc_last w7 (Obj.cells #[.int .u64 u, .int .u64 v] 26)
 have B8 := btr B7 (bal w7 (Obj.cells #[.int .u64 u, .int .u64 v] 26))
 obtain ⟨Ag, AU, AV⟩ := rws3 (bal w7 (Obj.cells #[.int .u64 u, .int .u64 v] 26)) Ad Ae Af
 clear B7 Ad AM AN Ae AO Af AP
 obtain ⟨AW, AX⟩ := cells2s Ag
 have AY := row_cell AU
 have AZ := row_cell AV
 obtain ⟨A0, A1⟩ := cells2s AT
 have q0 := fz (k := 0) Ag
 have q1 := fz (k := 1) Ag
 obtain ⟨E0, E1⟩ := set2_cells Ag (.int .u64 u) (.int .u64 v)
 go_wp2
 exact bodyPost_ret (v := .agg #[.int .u64 u, .int .u64 v]) (by simp [results, Tryz.results35, go_sem, E0, E1]) rfl ⟨rfl, set2_below B8 (by first | exact Nat.le_refl _ | omega | (have := S3.out; have := Av.out; have := S5.out; have := AC.out; have := AD.out; have := S8.out; have := AQ.out; have := AR.out; have := AS.out; omega)) _ _⟩
def bls (l : List (Nat × Nat)) : Array Value := (l.flatMap fun p => [Value.int .u64 (p.1 : Nat), Value.int .u64 (p.2 : Nat)]).toArray
def okP (f : Int) (p : Nat × Nat) : Bool := okB f (p.2 + 18446744073709551616 * p.1)
theorem bls_at (l : List (Nat × Nat)) (k : Nat) (p : Nat × Nat) (h : l[k]? = some p) : (bls l)[k * 2]? = some (.int .u64 (p.1 : Nat)) ∧ (bls l)[k * 2 + 1]? = some (.int .u64 (p.2 : Nat)) := by
 unfold bls
 rw [List.getElem?_toArray, List.getElem?_toArray]
 induction l generalizing k with
 | nil => simp at h
 | cons a t ih =>
  cases k with
  | zero =>
   simp at h
   subst h
   simp
  | succ k =>
   simp only [List.getElem?_cons_succ] at h
   have := ih k h
   rw [show (k + 1) * 2 = k * 2 + 1 + 1 by omega]
   simpa using this
theorem bls_cell {w : World} {g : Nat} {T : TypeId} {l : List (Nat × Nat)} (row : w.heap[g]? = some (.cells (bls l) T)) (k : Nat) (p : Nat × Nat) (h : l[k]? = some p) : w.cell? ⟨g, k * 2, none⟩ = some (.int .u64 (p.1 : Nat)) ∧ w.cell? ⟨g, k * 2 + 1, none⟩ = some (.int .u64 (p.2 : Nat)) := by
 obtain ⟨a, b⟩ := bls_at l k p h
 exact ⟨(cell_of_row w g (k * 2) _ _ _ row).trans a, (cell_of_row w g (k * 2 + 1) _ _ _ row).trans b⟩
theorem op_may_no (f m : Int) (pu pv : Nat) (fl c : Int) (sl : Value) (hc : (c != 0) = true) (w : World)
  (KP : Box (∀ w, FAt w → Calls Tryz.prog 37 #[.int .u8 f, .int .u8 m, .agg (rg false 0 0 false)] w fun r w' => r = .returned (.tuple #[.agg #[.int .u64 pu, .int .u64 pv], .int .u8 fl, .int .i64 c]) ∧ Below w.heap.size w w')) (hT : FAt w) : Calls Tryz.prog 32 #[.int .u8 f, .int .u8 m, sl] w fun r w' => r = .returned (.bool false) ∧ Below w.heap.size w w' := by
 have FF := box hT
 clear hT
 have hp3 := rgz
 have B0 : Below w.heap.size w w := (Below.refl _ _)
 go_enter Tryz.func32, Tryz.ntmps32
 go_wp2_with fail
 refine (KP.out _ (fatB FF.out B0)).mono ?_
 rintro r w1 ⟨rfl, b1⟩
 have B1 := btr B0 b1
 clear b1 B0 
 have S2 := box B1.size
 have Aa := heap_alloc_last w1 (Obj.cells #[.int .u64 pu, .int .u64 pv] 26)
 have B2 := btr B1 (bal w1 (Obj.cells #[.int .u64 pu, .int .u64 pv] 26))
 clear B1 
 obtain ⟨Ab, Ac⟩ := cells2s Aa
 go_wp2
 go_ret
 exact ⟨rfl, B2⟩
theorem kClass_any (f : Int) (hf : Is4 f) (p : Nat × Nat) (h : p.1 < 18446744073709551616 ∧ p.2 < 18446744073709551616) (o : Bool) (ho : okP f p = o) : ∃ (c e : Int), (e != 0) = (!o) ∧ Box (∀ w, FAt w → Calls Tryz.prog 68 #[.int .u8 f, .agg #[.int .u64 (p.1 : Nat), .int .u64 (p.2 : Nat)]] w fun r w' => r = .returned (.tuple #[.int .u8 c, .int .i64 e]) ∧ Below w.heap.size w w') := by
 have h0 : 0 ≤ f ∧ f ≤ 255 := by rcases hf with rfl | rfl | rfl | rfl <;> decide
 cases o
 ·
  exact ⟨0, 2, rfl, box (fun w hT => kClass_no f h0.1 h0.2 p.1 p.2 _ h.1 h.2 rfl ho w hT)⟩
 ·
  exact ⟨_, 0, rfl, box (fun w hT => kClass_yes f hf p.1 p.2 _ _ h.1 h.2 rfl ho rfl w hT)⟩
theorem op_may (f m : Int) (hf : Is4 f) (l : List (Nat × Nat)) (L g c : Nat) (T : TypeId) (w : World) (hl : l.length = L) (hL : L ≤ 1000) (hb : Box (∀ p ∈ l, p.1 < 18446744073709551616 ∧ p.2 < 18446744073709551616)) (row : w.heap[g]? = some (.cells (bls l) T)) (pu pv : Nat) (fl : Int)
  (KP : Box (∀ w, FAt w → Calls Tryz.prog 37 #[.int .u8 f, .int .u8 m, .agg (rg false 0 0 false)] w fun r w' => r = .returned (.tuple #[.agg #[.int .u64 pu, .int .u64 pv], .int .u8 fl, .int .i64 0]) ∧ Below w.heap.size w w'))
  (o : Bool) (ho : l.all (okP f) = o) (hT : FAt w) : Calls Tryz.prog 32 #[.int .u8 f, .int .u8 m, .slice (some ⟨g, 0, none⟩) L c] w fun r w' => r = .returned (.bool o) ∧ Below w.heap.size w w' := by
 have FF := box hT
 have HO := box ho
 have HL := box hl
 have HF := box hf
 clear ho hl hT hf
 have hp3 := rgz
 go_enter Tryz.func32, Tryz.ntmps32
 go_wp2_with fail
 refine (KP.out _ FF.out).mono ?_
 rintro r w1 ⟨rfl, b1⟩
 have BP := btr b1 (bal w1 (.cells #[.int .u64 pu, .int .u64 pv] 26))
 obtain ⟨V, hV⟩ : ∃ V, w1.alloc (.cells #[.int .u64 pu, .int .u64 pv] 26) = V := ⟨_, rfl⟩
 go_wp2
 rw [hV] at BP
 clear b1 KP hV
 go_loopw [26] (fun iv wr => ∃ k : Nat, k ≤ L ∧ iv = .int .i64 k ∧ Below w.heap.size w wr ∧ Box (∀ j p, j < k → l[j]? = some p → okP f p = true)) (fun iv _ => L - (intOf iv).toNat)
 case atStart => exact ⟨0, by omega, rfl, BP, box (fun j s hj => absurd hj (by omega))⟩
 case round =>
  obtain ⟨k, hk, rfl, bw, HA⟩ := hrel
  by_cases hlt : k < L
  ·
   obtain ⟨p, hs⟩ : ∃ p, l[k]? = some p := ⟨_, List.getElem?_eq_getElem (by rw [HL.out]; exact hlt)⟩
   obtain ⟨c1, c2⟩ := bls_cell (heap_of bw _ _ _ row) k p hs
   have dl : decide ((k : Int) < (L : Int)) = true := decide_eq_true (by omega)
   have HS := box hs
   obtain ⟨o1, hm⟩ : ∃ o1, okP f p = o1 := ⟨_, rfl⟩
   have HM := box hm
   obtain ⟨cc, ee, hee, KC⟩ := kClass_any f HF.out p (hb.out p (List.mem_of_getElem? hs)) o1 hm
   have FA : Box (FAt (wr.alloc (.cells #[.int .u64 (p.1 : Nat), .int .u64 (p.2 : Nat)] 26))) := box (fatB FF.out (btr bw (bal _ _)))
   have BA := btr bw (bal wr (.cells #[.int .u64 (p.1 : Nat), .int .u64 (p.2 : Nat)] 26))
   clear hs hm
   cases o1
   ·
    have e : o = false := by
     rw [← HO.out, Bool.eq_false_iff]
     intro h
     rw [List.all_eq_true] at h
     have := h p (List.mem_of_getElem? HS.out)
     rw [HM.out] at this
     exact absurd this (by decide)
    subst e
    go_wp2_with fail
    refine (KC.out _ FA.out).mono ?_
    rintro r w2 ⟨rfl, b2⟩
    go_wp2
    go_ret
    exact ⟨rfl, btr BA b2⟩
   ·
    have NA : Box (∀ j p, j < k + 1 → l[j]? = some p → okP f p = true) := box (fun j p2 hj h2 => by
     by_cases e : j = k
     ·
      subst e
      rw [HS.out] at h2
      cases h2
      exact HM.out
     ·
      exact HA.out j p2 (by omega) h2)
    go_wp2_with fail
    refine (KC.out _ FA.out).mono ?_
    rintro r w2 ⟨rfl, b2⟩
    go_wp2
    go_roundw
    case rel => exact ⟨k + 1, by omega, by go_num, btr BA b2, NA⟩
    case measure => simp [intOf] <;> omega
  ·
   obtain rfl : k = L := by omega
   have e : o = true := by
    rw [← HO.out, List.all_eq_true]
    intro s hs
    obtain ⟨j, hj⟩ := List.mem_iff_getElem?.1 hs
    have := (List.getElem?_eq_some_iff.1 hj).1
    exact HA.out j s (by rw [← HL.out]; exact this) hj
   subst e
   have dl : decide ((k : Int) < (k : Int)) = false := by rw [decide_eq_false_iff_not]; omega
   go_wp2
   go_ret
   exact ⟨rfl, bw⟩
theorem rSig_is (f : Int) (hf : Is4 f) (x y n c : Nat) (o : Bool) (hx : x < 18446744073709551616) (hy : y < 18446744073709551616) (hn : y + 18446744073709551616 * x = n) (hfit : Fit f n) (hc : kC f n = c) (ho : decide (c = 8) = o) (w : World) : Calls Tryz.prog 91 #[.int .u8 f, .agg #[.int .u64 x, .int .u64 y]] w fun r w' => r = .returned (.bool o) ∧ Below w.heap.size w w' := by
 have K1 := box (rk_class f hf x y n c hx hy hn hfit hc)
 have hd : ((c : Int) == 8) = o := by
  rw [← ho]
  by_cases c7 : c = 8
  ·
   rw [decide_eq_true c7, c7]; rfl
  ·
   rw [decide_eq_false c7, beq_eq_false_iff_ne]; omega
 clear hf hx hy hn hfit hc ho
 obtain ⟨Aa, B0⟩ := opn1 w (Obj.cells #[.int .u64 x, .int .u64 y] 26)
 go_enter Tryz.func91, Tryz.ntmps91
 go_wp2_with fail
 refine (K1.out _).mono ?_
 rintro r w1 ⟨rfl, b1⟩
 have B1 := btr B0 b1
 have Ab := heap_of b1 _ _ _ Aa
 clear b1 B0 Aa
 obtain ⟨Ac, Ad⟩ := cells2s Ab
 go_wp2
 go_ret
 exact ⟨rfl, B1⟩
theorem rInf_is (f : Int) (hf : Is4 f) (x y n c : Nat) (o : Bool) (hx : x < 18446744073709551616) (hy : y < 18446744073709551616) (hn : y + 18446744073709551616 * x = n) (hfit : Fit f n) (hc : kC f n = c) (ho : (decide (c = 0) || decide (c = 7)) = o) (w : World) : Calls Tryz.prog 31 #[.int .u8 f, .agg #[.int .u64 x, .int .u64 y]] w fun r w' => r = .returned (.bool o) ∧ Below w.heap.size w w' := by
 have K1 := box (rk_class f hf x y n c hx hy hn hfit hc)
 clear hf hx hy hn hfit hc
 by_cases c0 : c = 0
 ·
  rw [decide_eq_true c0, Bool.true_or] at ho
  subst ho
  have d0 : ((c : Int) == 0) = true := by rw [c0]; rfl
  clear c0
  obtain ⟨Aa, B0⟩ := opn1 w (Obj.cells #[.int .u64 x, .int .u64 y] 26)
  go_enter Tryz.func31, Tryz.ntmps31
  go_wp2_with fail
  refine (K1.out _).mono ?_
  rintro r w1 ⟨rfl, b1⟩
  have B1 := btr B0 b1
  have Ab := heap_of b1 _ _ _ Aa
  clear b1 B0 Aa
  obtain ⟨Ac, Ad⟩ := cells2s Ab
  go_wp2
  go_ret
  exact ⟨rfl, B1⟩
 ·
  rw [decide_eq_false c0, Bool.false_or] at ho
  have d0 : ((c : Int) == 0) = false := by rw [beq_eq_false_iff_ne]; omega
  have d7 : ((c : Int) == 7) = o := by
   rw [← ho]
   by_cases c7 : c = 7
   ·
    rw [decide_eq_true c7, c7]; rfl
   ·
    rw [decide_eq_false c7, beq_eq_false_iff_ne]; omega
  clear ho c0
  obtain ⟨Aa, B0⟩ := opn1 w (Obj.cells #[.int .u64 x, .int .u64 y] 26)
  go_enter Tryz.func31, Tryz.ntmps31
  go_wp2_with fail
  refine (K1.out _).mono ?_
  rintro r w1 ⟨rfl, b1⟩
  have B1 := btr B0 b1
  have Ab := heap_of b1 _ _ _ Aa
  clear b1 B0 Aa
  obtain ⟨Ac, Ad⟩ := cells2s Ab
  go_wp2
  go_ret
  exact ⟨rfl, B1⟩
theorem rZero_is (f : Int) (hf : Is4 f) (x y n c : Nat) (o : Bool) (hx : x < 18446744073709551616) (hy : y < 18446744073709551616) (hn : y + 18446744073709551616 * x = n) (hfit : Fit f n) (hc : kC f n = c) (ho : (decide (c = 3) || decide (c = 4)) = o) (w : World) : Calls Tryz.prog 44 #[.int .u8 f, .agg #[.int .u64 x, .int .u64 y]] w fun r w' => r = .returned (.bool o) ∧ Below w.heap.size w w' := by
 have K1 := box (rk_class f hf x y n c hx hy hn hfit hc)
 clear hf hx hy hn hfit hc
 by_cases c0 : c = 3
 ·
  rw [decide_eq_true c0, Bool.true_or] at ho
  subst ho
  have d0 : ((c : Int) == 3) = true := by rw [c0]; rfl
  clear c0
  obtain ⟨Aa, B0⟩ := opn1 w (Obj.cells #[.int .u64 x, .int .u64 y] 26)
  go_enter Tryz.func44, Tryz.ntmps44
  go_wp2_with fail
  refine (K1.out _).mono ?_
  rintro r w1 ⟨rfl, b1⟩
  have B1 := btr B0 b1
  have Ab := heap_of b1 _ _ _ Aa
  clear b1 B0 Aa
  obtain ⟨Ac, Ad⟩ := cells2s Ab
  go_wp2
  go_ret
  exact ⟨rfl, B1⟩
 ·
  rw [decide_eq_false c0, Bool.false_or] at ho
  have d0 : ((c : Int) == 3) = false := by rw [beq_eq_false_iff_ne]; omega
  have d7 : ((c : Int) == 4) = o := by
   rw [← ho]
   by_cases c7 : c = 4
   ·
    rw [decide_eq_true c7, c7]; rfl
   ·
    rw [decide_eq_false c7, beq_eq_false_iff_ne]; omega
  clear ho c0
  obtain ⟨Aa, B0⟩ := opn1 w (Obj.cells #[.int .u64 x, .int .u64 y] 26)
  go_enter Tryz.func44, Tryz.ntmps44
  go_wp2_with fail
  refine (K1.out _).mono ?_
  rintro r w1 ⟨rfl, b1⟩
  have B1 := btr B0 b1
  have Ab := heap_of b1 _ _ _ Aa
  clear b1 B0 Aa
  obtain ⟨Ac, Ad⟩ := cells2s Ab
  go_wp2
  go_ret
  exact ⟨rfl, B1⟩
theorem rf_no (f m : Int) (sl : Value) (w : World) (KR : Box (∀ w, Calls Tryz.prog 88 #[.int .u8 f] w fun r w' => r = .returned (.bool false) ∧ Below w.heap.size w w')) : Calls Tryz.prog 40 #[.int .u8 f, .int .u8 m, sl] w fun r w' => r = .returned (.bool false) ∧ Below w.heap.size w w' := by
 have B0 : Below w.heap.size w w := (Below.refl _ _)
 go_enter Tryz.func40, Tryz.ntmps40
 go_wp2_with fail
 refine (KR.out _).mono ?_
 rintro r w1 ⟨rfl, b1⟩
 have B1 := btr B0 b1
 clear b1 B0 
 go_wp2
 go_ret
 exact ⟨rfl, B1⟩
theorem rf_nom (f m : Int) (sl : Value) (w : World) (KR : Box (∀ w, Calls Tryz.prog 88 #[.int .u8 f] w fun r w' => r = .returned (.bool true) ∧ Below w.heap.size w w')) (KM : Box (∀ w, Calls Tryz.prog 89 #[.int .u8 m] w fun r w' => r = .returned (.bool false) ∧ Below w.heap.size w w')) : Calls Tryz.prog 40 #[.int .u8 f, .int .u8 m, sl] w fun r w' => r = .returned (.bool false) ∧ Below w.heap.size w w' := by
 have B0 : Below w.heap.size w w := (Below.refl _ _)
 go_enter Tryz.func40, Tryz.ntmps40
 go_wp2_with fail
 refine (KR.out _).mono ?_
 rintro r w1 ⟨rfl, b1⟩
 have B1 := btr B0 b1
 clear b1 B0 
 go_wp2_with fail
 refine (KM.out _).mono ?_
 rintro r w2 ⟨rfl, b2⟩
 have B2 := btr B1 b2
 clear b2 B1 
 go_wp2
 go_ret
 exact ⟨rfl, B2⟩
theorem rf_list (f m : Int) (h0 : 0 ≤ f) (l : List (Nat × Nat)) (L g c : Nat) (T : TypeId) (w : World) (hl : l.length = L) (hL : L ≤ 1000) (hb : Box (∀ p ∈ l, p.1 < 18446744073709551616 ∧ p.2 < 18446744073709551616)) (row : w.heap[g]? = some (.cells (bls l) T))
  (KR : Box (∀ w, Calls Tryz.prog 88 #[.int .u8 f] w fun r w' => r = .returned (.bool true) ∧ Below w.heap.size w w')) (KM : Box (∀ w, Calls Tryz.prog 89 #[.int .u8 m] w fun r w' => r = .returned (.bool true) ∧ Below w.heap.size w w'))
  (o : Bool) (ho : l.all (okP f) = o) : Calls Tryz.prog 40 #[.int .u8 f, .int .u8 m, .slice (some ⟨g, 0, none⟩) L c] w fun r w' => r = .returned (.bool o) ∧ Below w.heap.size w w' := by
 have HO := box ho
 have HL := box hl
 have HF := box h0
 clear ho hl h0
 go_enter Tryz.func40, Tryz.ntmps40
 go_wp2_with fail
 refine (KR.out _).mono ?_
 rintro r w1 ⟨rfl, b1⟩
 go_wp2_with fail
 refine (KM.out _).mono ?_
 rintro r w2 ⟨rfl, b2⟩
 have BP := btr b1 b2
 clear b1 b2 KR KM
 go_wp2
 go_loopw [7] (fun iv wr => ∃ k : Nat, k ≤ L ∧ iv = .int .i64 k ∧ Below w.heap.size w wr ∧ Box (∀ j p, j < k → l[j]? = some p → okP f p = true)) (fun iv _ => L - (intOf iv).toNat)
 case atStart => exact ⟨0, by omega, rfl, BP, box (fun j s hj => absurd hj (by omega))⟩
 case round =>
  obtain ⟨k, hk, rfl, bw, HA⟩ := hrel
  by_cases hlt : k < L
  ·
   obtain ⟨p, hs⟩ : ∃ p, l[k]? = some p := ⟨_, List.getElem?_eq_getElem (by rw [HL.out]; exact hlt)⟩
   obtain ⟨c1, c2⟩ := bls_cell (heap_of bw _ _ _ row) k p hs
   have dl : decide ((k : Int) < (L : Int)) = true := decide_eq_true (by omega)
   have HS := box hs
   obtain ⟨o1, hm⟩ : ∃ o1, okP f p = o1 := ⟨_, rfl⟩
   have HM := box hm
   have hp := hb.out p (List.mem_of_getElem? hs)
   have KC : Box (∀ w, Calls Tryz.prog 90 #[.int .u8 f, .agg #[.int .u64 (p.1 : Nat), .int .u64 (p.2 : Nat)]] w fun r w' => r = .returned (.bool o1) ∧ Below w.heap.size w w') := box (fun w => rk_fits f p.1 p.2 _ o1 HF.out hp.1 hp.2 rfl hm w)
   clear hs hm hp
   cases o1
   ·
    have e : o = false := by
     rw [← HO.out, Bool.eq_false_iff]
     intro h
     rw [List.all_eq_true] at h
     have := h p (List.mem_of_getElem? HS.out)
     rw [HM.out] at this
     exact absurd this (by decide)
    subst e
    go_wp2_with fail
    refine (KC.out _).mono ?_
    rintro r w2 ⟨rfl, b2⟩
    go_wp2
    go_ret
    exact ⟨rfl, btr bw b2⟩
   ·
    have NA : Box (∀ j p, j < k + 1 → l[j]? = some p → okP f p = true) := box (fun j p2 hj h2 => by
     by_cases e : j = k
     ·
      subst e
      rw [HS.out] at h2
      cases h2
      exact HM.out
     ·
      exact HA.out j p2 (by omega) h2)
    go_wp2_with fail
    refine (KC.out _).mono ?_
    rintro r w2 ⟨rfl, b2⟩
    go_wp2
    go_roundw
    case rel => exact ⟨k + 1, by omega, by go_num, btr bw b2, NA⟩
    case measure => simp [intOf] <;> omega
  ·
   obtain rfl : k = L := by omega
   have e : o = true := by
    rw [← HO.out, List.all_eq_true]
    intro s hs
    obtain ⟨j, hj⟩ := List.mem_iff_getElem?.1 hs
    have := (List.getElem?_eq_some_iff.1 hj).1
    exact HA.out j s (by rw [← HL.out]; exact this) hj
   subst e
   have dl : decide ((k : Int) < (k : Int)) = false := by rw [decide_eq_false_iff_not]; omega
   go_wp2
   go_ret
   exact ⟨rfl, bw⟩
def sgP (f : Int) (p : Nat × Nat) : Bool := decide (kC f (p.2 + 18446744073709551616 * p.1) = 8)
theorem any_take {α : Type} (q : α → Bool) (l : List α) (k : Nat) (p : α) (h : l[k]? = some p) : (l.take (k + 1)).any q = ((l.take k).any q || q p) := by
 rw [List.take_add_one, h]
 simp
theorem rc_list (f : Int) (hf : Is4 f) (l : List (Nat × Nat)) (L g c : Nat) (T : TypeId) (w : World) (hl : l.length = L) (hL : L ≤ 1000) (hb : Box (∀ p ∈ l, p.1 < 18446744073709551616 ∧ p.2 < 18446744073709551616)) (hfit : Box (∀ p ∈ l, Fit f (p.2 + 18446744073709551616 * p.1))) (row : w.heap[g]? = some (.cells (bls l) T)) (u v : Nat)
  (KN : Box (∀ w, Calls Tryz.prog 45 #[.int .u8 f] w fun r w' => r = .returned (.agg #[.int .u64 u, .int .u64 v]) ∧ Below w.heap.size w w'))
  (fl : Int) (hfl : (if l.any (sgP f) = true then (16 : Int) else 0) = fl) : Calls Tryz.prog 42 #[.int .u8 f, .slice (some ⟨g, 0, none⟩) L c] w fun r w' => r = .returned (.tuple #[.agg #[.int .u64 u, .int .u64 v], .int .u8 fl]) ∧ Below w.heap.size w w' := by
 have HO := box hfl
 have HL := box hl
 have HF := box hf
 clear hfl hl hf
 obtain ⟨Ab, B0⟩ := opn1 w (Obj.cells #[.int .u64 0, .int .u64 0] 26)
 go_enter Tryz.func42, Tryz.ntmps42
 go_wp2
 obtain ⟨V, hV⟩ : ∃ V, w.alloc (.cells #[.int .u64 0, .int .u64 0] 26) = V := ⟨_, rfl⟩
 have rowV : V.heap[g]? = some (.cells (bls l) T) := by rw [← hV]; exact heap_of (bal w _) _ _ _ row
 rw [hV] at B0 Ab ⊢
 clear hV row
 go_loopw [6, 7] (fun fv iv wr => ∃ (k : Nat) (e : Int), k ≤ L ∧ iv = .int .i64 k ∧ fv = .int .u8 e ∧ Below V.heap.size V wr ∧ Box ((if (l.take k).any (sgP f) = true then (16 : Int) else 0) = e)) (fun _ iv _ => L - (intOf iv).toNat)
 case atStart => exact ⟨0, 0, by omega, rfl, rfl, Below.refl _ _, box (by simp)⟩
 case round =>
  obtain ⟨k, e, hk, rfl, rfl, bw, HA⟩ := hrel
  by_cases hlt : k < L
  ·
   obtain ⟨p, hs⟩ : ∃ p, l[k]? = some p := ⟨_, List.getElem?_eq_getElem (by rw [HL.out]; exact hlt)⟩
   obtain ⟨c1, c2⟩ := bls_cell (heap_of bw _ _ _ rowV) k p hs
   have dl : decide ((k : Int) < (L : Int)) = true := decide_eq_true (by omega)
   obtain ⟨o1, hm⟩ : ∃ o1, sgP f p = o1 := ⟨_, rfl⟩
   have hp := hb.out p (List.mem_of_getElem? hs)
   have KC : Box (∀ w, Calls Tryz.prog 91 #[.int .u8 f, .agg #[.int .u64 (p.1 : Nat), .int .u64 (p.2 : Nat)]] w fun r w' => r = .returned (.bool o1) ∧ Below w.heap.size w w') := box (fun w => rSig_is f HF.out p.1 p.2 _ _ o1 hp.1 hp.2 rfl (hfit.out p (List.mem_of_getElem? hs)) rfl hm w)
   have at1 := any_take (sgP f) l k p hs
   rw [hm] at at1
   have HT := box at1
   clear hs hm hp at1
   cases o1
   ·
    have NA : Box ((if (l.take (k + 1)).any (sgP f) = true then (16 : Int) else 0) = e) := box (by rw [HT.out, Bool.or_false]; exact HA.out)
    go_wp2_with fail
    refine (KC.out _).mono ?_
    rintro r w2 ⟨rfl, b2⟩
    go_wp2
    go_roundw
    case rel => exact ⟨k + 1, e, by omega, by go_num, rfl, btr bw b2, NA⟩
    case measure => simp [intOf] <;> omega
   ·
    have NA : Box ((if (l.take (k + 1)).any (sgP f) = true then (16 : Int) else 0) = 16) := box (by rw [HT.out, Bool.or_true, if_pos rfl])
    go_wp2_with fail
    refine (KC.out _).mono ?_
    rintro r w2 ⟨rfl, b2⟩
    go_wp2
    go_roundw
    case rel => exact ⟨k + 1, 16, by omega, by go_num, rfl, btr bw b2, NA⟩
    case measure => simp [intOf] <;> omega
  ·
   obtain rfl : k = L := by omega
   have ee : e = fl := by
    rw [← HA.out, ← HO.out, ← HL.out, List.take_length]
   subst ee
   have dl : decide ((k : Int) < (k : Int)) = false := by rw [decide_eq_false_iff_not]; omega
   have Ac := heap_of bw _ _ _ Ab
   have B1 := btr B0 bw
   clear bw HA Ab B0 rowV
   obtain ⟨w1, Ad⟩ : ∃ w1, w1 = wr := ⟨_, rfl⟩
   subst Ad
   obtain ⟨Ae, Af⟩ := cells2s Ac
   go_wp2_with fail
   refine (KN.out _).mono ?_
   rintro r w2 ⟨rfl, b2⟩
   have B2 := btr B1 b2
   have Aa := heap_of b2 _ _ _ Ac
   clear b2 B1 Ac Ae Af
   obtain ⟨Ag, Ah⟩ := cells2s Aa
   have q0 := fz (k := 0) Aa
   have q1 := fz (k := 1) Aa
   obtain ⟨E0, E1⟩ := set2_cells Aa (.int .u64 u) (.int .u64 v)
   go_wp2
   exact bodyPost_ret (v := .tuple #[.agg #[.int .u64 u, .int .u64 v], .int .u8 e]) (by simp [results, Tryz.results42, go_sem, E0, E1]) rfl ⟨rfl, set2_below B2 (by first | exact Nat.le_refl _ | omega | (skip; omega)) _ _⟩
theorem two_row (x1 y1 x2 y2 : Nat) (T : TypeId) (g : Nat) (w : World) (hg : w.heap.size = g) : (w.alloc (.cells #[.int .u64 x1, .int .u64 y1, .int .u64 x2, .int .u64 y2] T)).heap[g]? = some (.cells (bls [(x1, y1), (x2, y2)]) T) := by
 rw [← hg]
 exact heap_alloc_last _ _
theorem two_lim {x1 y1 x2 y2 : Nat} (hx1 : x1 < 18446744073709551616) (hy1 : y1 < 18446744073709551616) (hx2 : x2 < 18446744073709551616) (hy2 : y2 < 18446744073709551616) : Box (∀ p ∈ [(x1, y1), (x2, y2)], p.1 < 18446744073709551616 ∧ p.2 < 18446744073709551616) := box (fun p hp => by
 rcases List.mem_cons.1 hp with rfl | h
 ·
  exact ⟨hx1, hy1⟩
 ·
  rcases List.mem_cons.1 h with rfl | h
  ·
   exact ⟨hx2, hy2⟩
  ·
   exact absurd h List.not_mem_nil)
theorem kmay2 (f m : Int) (h0 : 0 ≤ f) (h1 : f ≤ 255) (m0 : 0 ≤ m) (x1 y1 a x2 y2 b : Nat) (hx1 : x1 < 18446744073709551616) (hy1 : y1 < 18446744073709551616) (ha : y1 + 18446744073709551616 * x1 = a) (hx2 : x2 < 18446744073709551616) (hy2 : y2 < 18446744073709551616) (hb : y2 + 18446744073709551616 * x2 = b) (o : Bool) (ho : (decide (f ≤ 3 ∧ m ≤ 4) && okB f a && okB f b) = o) :
  Box (∀ (T : TypeId) (g : Nat) (w : World), w.heap.size = g → FAt w → Calls Tryz.prog 32 #[.int .u8 f, .int .u8 m, .slice (some ⟨g, 0, none⟩) 2 2] (w.alloc (.cells #[.int .u64 x1, .int .u64 y1, .int .u64 x2, .int .u64 y2] T)) fun r w' => r = .returned (.bool o) ∧ Below w.heap.size w w') := by
 refine box (fun T g w hg hT => ?_)
 have B := (bal w (.cells #[.int .u64 x1, .int .u64 y1, .int .u64 x2, .int .u64 y2] T))
 have row := two_row x1 y1 x2 y2 T g w hg
 have hT2 := fatB hT B
 by_cases c : f ≤ 3 ∧ m ≤ 4
 ·
  have hf := is4_of h0 c.1
  obtain ⟨u, v, hv⟩ : ∃ u v, bv7 (eZero f false) = (u, v) := ⟨_, _, rfl⟩
  have KP : Box (∀ w, FAt w → Calls Tryz.prog 37 #[.int .u8 f, .int .u8 m, .agg (rg false 0 0 false)] w fun r w' => r = .returned (.tuple #[.agg #[.int .u64 u, .int .u64 v], .int .u8 0, .int .i64 0]) ∧ Below w.heap.size w w') := box (fun w hT => kPack_zero f m hf ⟨m0, c.2⟩ false 0 (by decide) (by decide) u v hv w hT)
  refine (op_may f m hf [(x1, y1), (x2, y2)] 2 g 2 T _ rfl (by decide) (two_lim hx1 hy1 hx2 hy2) row u v 0 KP o ?_ hT2).mono fun _ _ ⟨q1, q2⟩ => ⟨q1, btr B q2⟩
  rw [← ho, decide_eq_true c]
  show (okP f (x1, y1) && (okP f (x2, y2) && true)) = _
  unfold okP
  rw [ha, hb, Bool.and_true, Bool.true_and]
 ·
  have e : o = false := by rw [← ho, decide_eq_false c]; rfl
  subst e
  exact (op_may_no f m 0 0 0 2 _ rfl _ (box (fun w hT => kPack_no f m h0 h1 false 0 Q_pos 0 false (fun q => c ⟨q.1, q.2.1⟩) w hT)) hT2).mono fun _ _ ⟨q1, q2⟩ => ⟨q1, btr B q2⟩
theorem rfit2 (f m : Int) (h0 : 0 ≤ f) (x1 y1 a x2 y2 b : Nat) (hx1 : x1 < 18446744073709551616) (hy1 : y1 < 18446744073709551616) (ha : y1 + 18446744073709551616 * x1 = a) (hx2 : x2 < 18446744073709551616) (hy2 : y2 < 18446744073709551616) (hb : y2 + 18446744073709551616 * x2 = b) (o : Bool) (ho : (decide (f ≤ 3 ∧ m ≤ 4) && okB f a && okB f b) = o) :
  Box (∀ (T : TypeId) (g : Nat) (w : World), w.heap.size = g → Calls Tryz.prog 40 #[.int .u8 f, .int .u8 m, .slice (some ⟨g, 0, none⟩) 2 2] (w.alloc (.cells #[.int .u64 x1, .int .u64 y1, .int .u64 x2, .int .u64 y2] T)) fun r w' => r = .returned (.bool o) ∧ Below w.heap.size w w') := by
 refine box (fun T g w hg => ?_)
 have B := (bal w (.cells #[.int .u64 x1, .int .u64 y1, .int .u64 x2, .int .u64 y2] T))
 have row := two_row x1 y1 x2 y2 T g w hg
 have KR : Box (∀ w, Calls Tryz.prog 88 #[.int .u8 f] w fun r w' => r = .returned (.bool (decide (f ≤ 3))) ∧ Below w.heap.size w w') := box (fun w => bel_same (r_right f _ rfl w))
 have KM : Box (∀ w, Calls Tryz.prog 89 #[.int .u8 m] w fun r w' => r = .returned (.bool (decide (m ≤ 4))) ∧ Below w.heap.size w w') := box (fun w => bel_same (r_mode m _ rfl w))
 by_cases c1 : f ≤ 3
 ·
  rw [decide_eq_true c1] at KR
  by_cases c2 : m ≤ 4
  ·
   rw [decide_eq_true c2] at KM
   refine (rf_list f m h0 [(x1, y1), (x2, y2)] 2 g 2 T _ rfl (by decide) (two_lim hx1 hy1 hx2 hy2) row KR KM o ?_).mono fun _ _ ⟨q1, q2⟩ => ⟨q1, btr B q2⟩
   rw [← ho, decide_eq_true (show f ≤ 3 ∧ m ≤ 4 from ⟨c1, c2⟩)]
   show (okP f (x1, y1) && (okP f (x2, y2) && true)) = _
   unfold okP
   rw [ha, hb, Bool.and_true, Bool.true_and]
  ·
   rw [decide_eq_false c2] at KM
   have e : o = false := by rw [← ho, decide_eq_false (fun q => c2 q.2)]; rfl
   subst e
   exact (rf_nom f m _ _ KR KM).mono fun _ _ ⟨q1, q2⟩ => ⟨q1, btr B q2⟩
 ·
  rw [decide_eq_false c1] at KR
  have e : o = false := by rw [← ho, decide_eq_false (fun q => c1 q.1)]; rfl
  subst e
  exact (rf_no f m _ _ KR).mono fun _ _ ⟨q1, q2⟩ => ⟨q1, btr B q2⟩
theorem rcan2 (f : Int) (hf : Is4 f) (x1 y1 a x2 y2 b : Nat) (hx1 : x1 < 18446744073709551616) (hy1 : y1 < 18446744073709551616) (ha : y1 + 18446744073709551616 * x1 = a) (hx2 : x2 < 18446744073709551616) (hy2 : y2 < 18446744073709551616) (hb : y2 + 18446744073709551616 * x2 = b) (fa : Fit f a) (fb : Fit f b) (fl : Int) (hfl : (if kC f a = 8 ∨ kC f b = 8 then (16 : Int) else 0) = fl) (u v : Nat) (hv : bv7 (eNaN f) = (u, v)) :
  Box (∀ (T : TypeId) (g : Nat) (w : World), w.heap.size = g → Calls Tryz.prog 42 #[.int .u8 f, .slice (some ⟨g, 0, none⟩) 2 2] (w.alloc (.cells #[.int .u64 x1, .int .u64 y1, .int .u64 x2, .int .u64 y2] T)) fun r w' => r = .returned (.tuple #[.agg #[.int .u64 u, .int .u64 v], .int .u8 fl]) ∧ Below w.heap.size w w') := by
 refine box (fun T g w hg => ?_)
 have B := (bal w (.cells #[.int .u64 x1, .int .u64 y1, .int .u64 x2, .int .u64 y2] T))
 have row := two_row x1 y1 x2 y2 T g w hg
 have KN : Box (∀ w, Calls Tryz.prog 45 #[.int .u8 f] w fun r w' => r = .returned (.agg #[.int .u64 u, .int .u64 v]) ∧ Below w.heap.size w w') := box (fun w => by
  have := r_nan f hf _ rfl w
  rw [hv] at this
  exact this)
 refine (rc_list f hf [(x1, y1), (x2, y2)] 2 g 2 T _ rfl (by decide) (two_lim hx1 hy1 hx2 hy2) ?_ row u v KN fl ?_).mono fun _ _ ⟨q1, q2⟩ => ⟨q1, btr B q2⟩
 ·
  refine box (fun p hp => ?_)
  rcases List.mem_cons.1 hp with rfl | h
  ·
   show Fit f (y1 + 18446744073709551616 * x1)
   rw [ha]
   exact fa
  ·
   rcases List.mem_cons.1 h with rfl | h
   ·
    show Fit f (y2 + 18446744073709551616 * x2)
    rw [hb]
    exact fb
   ·
    exact absurd h List.not_mem_nil
 ·
  rw [← hfl]
  show (if (sgP f (x1, y1) || (sgP f (x2, y2) || false)) = true then (16 : Int) else 0) = _
  unfold sgP
  rw [ha, hb, Bool.or_false]
  by_cases c : kC f a = 8 ∨ kC f b = 8
  ·
   rw [if_pos c, if_pos]
   rw [← Bool.decide_or]
   exact decide_eq_true c
  ·
   rw [if_neg c, if_neg]
   rw [← Bool.decide_or]
   intro q
   exact c (of_decide_eq_true q)
end Go.Proofs.YtapikkbifdldfaaGreatDoor
namespace Go.Proofs.YtapikkbifdldfaaGreatDoor
set_option maxRecDepth 100000
set_option maxHeartbeats 40000000
set_option maxRecDepth 100000
open Go.RowKit WMath XMath
set_option linter.unusedSimpArgs false
set_option linter.unusedVariables false
theorem vX_whole {f : Int} (hf : Is4 f) (n : Nat) (h : 0 < kC f n ∧ kC f n < 7) (h2 : ¬ (kC f n = 3 ∨ kC f n = 4)) : kS f n ≠ 0 ∧ kS f n < 2 ^ 128 ∧ vX f n = ⟨kN f n, od (kS f n), 1, kX f n + (tz (kS f n) : Int)⟩ ∧ (vX f n).can := by
 obtain ⟨l1, l2, l3⟩ := kS_lim hf n
 obtain ⟨a, b, d, e⟩ := k_parts (f := f) n (by omega)
 have l4 : kS f n < 2 ^ 128 := l1
 obtain ⟨w1, w2, w3, w4, w5, w6, w7⟩ := x_whole hf (kN f n) (kS f n) (kX f n) e (by have := (blen_iff (kS f n) 128).2 l4; omega) (by omega) (by omega)
 have := vX_mk hf n h
 rw [w1] at this
 injection this with h3 h4
 exact ⟨e, l4, h3.symm, by rw [← h3]; exact w2⟩
theorem ov_inf (f : Int) (neg : Bool) : ovB f 0 neg = eInf f neg := by
 unfold ovB
 rw [if_pos (by unfold gO; rw [if_pos rfl]; rfl)]
theorem nan_or {f : Int} (hf : Is4 f) : eInf f false ||| eInf f false / 2 = eNaN f ∧ eInf f false < 340282366920938463463374607431768211456 ∧ eNaN f < 340282366920938463463374607431768211456 := by
 rcases hf with rfl | rfl | rfl | rfl <;> decide +kernel
theorem kInf_is (f : Int) (hf : Is4 f) (neg : Bool) (u v : Nat) (hv : bv7 (eInf f neg) = (u, v)) (w : World) (hT : FAt w) : Calls Tryz.prog 36 #[.int .u8 f, .bool neg] w fun r w' => r = .returned (.agg #[.int .u64 u, .int .u64 v]) ∧ Below w.heap.size w w' :=
 op_inf f neg u v w (box (fun w hT => kover f 0 hf (by decide) neg u v (by rw [ov_inf]; exact hv) w hT)) hT
theorem kNaN_is (f : Int) (hf : Is4 f) (u v : Nat) (hv : bv7 (eNaN f) = (u, v)) (w : World) (hT : FAt w) : Calls Tryz.prog 35 #[.int .u8 f] w fun r w' => r = .returned (.agg #[.int .u64 u, .int .u64 v]) ∧ Below w.heap.size w w' := by
 obtain ⟨n1, n2, n3⟩ := nan_or hf
 obtain ⟨iu, iv, hi⟩ : ∃ iu iv, bv7 (eInf f false) = (iu, iv) := ⟨_, _, rfl⟩
 obtain ⟨i1, i2, i3⟩ := bv_lt n2 hi
 obtain ⟨w0, w1⟩ := wd01 n3
 have hQ := lt_Q7 n2
 have hQ2 := lt_Q7 n3
 have hQ3 : eInf f false / 2 < Q := Nat.lt_of_le_of_lt (Nat.div_le_self _ _) hQ
 unfold bv7 at hv
 injection hv with v1 v2
 have KT : Box (∀ w, Calls Tryz.prog 74 #[.agg (cw 6 (eNaN f))] w fun r w' => r = .returned (.tuple #[.agg #[.int .u64 u, .int .u64 v], .bool true]) ∧ Below w.heap.size w w') := box (fun w => by
  have := wtobits_yes (eNaN f) hQ2 (by rw [w0, w1]; exact Nat.mod_add_div _ _) w
  rw [w0, w1, v1, v2] at this
  exact this)
 exact op_nan f iu iv _ _ _ u v _ true w (box (fun w hT => kInf_is f hf false iu iv hi w hT)) (box (fun w => wofbits_is iu iv _ i1 i2 i3 w))
  (box (fun w => wright_is (eInf f false) (eInf f false / 2) 1 _ hQ rfl rfl w)) (box (fun w => wor_is _ _ _ hQ hQ3 n1 w)) KT hT
theorem ieq {c : Nat} {k : Int} (h : (c : Int) = k) : ((c : Int) == k) = true := by rw [h]; exact beq_self_eq_true k
theorem ine {c : Nat} {k : Int} (h : (c : Int) ≠ k) : ((c : Int) == k) = false := beq_eq_false_iff_ne.2 h
theorem q256 {s : Nat} (h : s < 2 ^ 256) : s < Q := Nat.lt_of_lt_of_le h (by decide +kernel)
theorem op_plain_e (c : Nat) (KE : Box (∀ w, Calls Tryz.prog 70 #[.int .u8 c] w fun r w' => r = .returned (.bool true) ∧ Below w.heap.size w w')) (w : World) : Calls Tryz.prog 34 #[.int .u8 c] w fun r w' => r = .returned (.int .u8 7) ∧ Below w.heap.size w w' := by
 have B0 : Below w.heap.size w w := (Below.refl _ _)
 go_enter Tryz.func34, Tryz.ntmps34
 go_wp2_with fail
 refine (KE.out _).mono ?_
 rintro r w1 ⟨rfl, b1⟩
 have B1 := btr B0 b1
 clear b1 B0 
 go_wp2
 go_ret
 exact ⟨rfl, B1⟩
theorem op_plain_z (c : Nat) (KE : Box (∀ w, Calls Tryz.prog 70 #[.int .u8 c] w fun r w' => r = .returned (.bool false) ∧ Below w.heap.size w w')) (KN : Box (∀ w, Calls Tryz.prog 71 #[.int .u8 c] w fun r w' => r = .returned (.bool true) ∧ Below w.heap.size w w')) (w : World) : Calls Tryz.prog 34 #[.int .u8 c] w fun r w' => r = .returned (.int .u8 4) ∧ Below w.heap.size w w' := by
 have B0 : Below w.heap.size w w := (Below.refl _ _)
 go_enter Tryz.func34, Tryz.ntmps34
 go_wp2_with fail
 refine (KE.out _).mono ?_
 rintro r w1 ⟨rfl, b1⟩
 have B1 := btr B0 b1
 clear b1 B0 
 go_wp2_with fail
 refine (KN.out _).mono ?_
 rintro r w2 ⟨rfl, b2⟩
 have B2 := btr B1 b2
 clear b2 B1 
 go_wp2
 go_ret
 exact ⟨rfl, B2⟩
theorem op_plain_s (c : Nat) (KE : Box (∀ w, Calls Tryz.prog 70 #[.int .u8 c] w fun r w' => r = .returned (.bool false) ∧ Below w.heap.size w w')) (KN : Box (∀ w, Calls Tryz.prog 71 #[.int .u8 c] w fun r w' => r = .returned (.bool false) ∧ Below w.heap.size w w')) (h8 : ((c : Int) == 8) = true) (w : World) : Calls Tryz.prog 34 #[.int .u8 c] w fun r w' => r = .returned (.int .u8 c) ∧ Below w.heap.size w w' := by
 have B0 : Below w.heap.size w w := (Below.refl _ _)
 go_enter Tryz.func34, Tryz.ntmps34
 go_wp2_with fail
 refine (KE.out _).mono ?_
 rintro r w1 ⟨rfl, b1⟩
 have B1 := btr B0 b1
 clear b1 B0 
 go_wp2_with fail
 refine (KN.out _).mono ?_
 rintro r w2 ⟨rfl, b2⟩
 have B2 := btr B1 b2
 clear b2 B1 
 go_wp2
 go_ret
 exact ⟨rfl, B2⟩
theorem op_plain_q (c : Nat) (KE : Box (∀ w, Calls Tryz.prog 70 #[.int .u8 c] w fun r w' => r = .returned (.bool false) ∧ Below w.heap.size w w')) (KN : Box (∀ w, Calls Tryz.prog 71 #[.int .u8 c] w fun r w' => r = .returned (.bool false) ∧ Below w.heap.size w w')) (h8 : ((c : Int) == 8) = false) (h9 : ((c : Int) == 9) = true) (w : World) : Calls Tryz.prog 34 #[.int .u8 c] w fun r w' => r = .returned (.int .u8 c) ∧ Below w.heap.size w w' := by
 have B0 : Below w.heap.size w w := (Below.refl _ _)
 go_enter Tryz.func34, Tryz.ntmps34
 go_wp2_with fail
 refine (KE.out _).mono ?_
 rintro r w1 ⟨rfl, b1⟩
 have B1 := btr B0 b1
 clear b1 B0 
 go_wp2_with fail
 refine (KN.out _).mono ?_
 rintro r w2 ⟨rfl, b2⟩
 have B2 := btr B1 b2
 clear b2 B1 
 go_wp2
 go_ret
 exact ⟨rfl, B2⟩
theorem op_plain_f (c : Nat) (KE : Box (∀ w, Calls Tryz.prog 70 #[.int .u8 c] w fun r w' => r = .returned (.bool false) ∧ Below w.heap.size w w')) (KN : Box (∀ w, Calls Tryz.prog 71 #[.int .u8 c] w fun r w' => r = .returned (.bool false) ∧ Below w.heap.size w w')) (h8 : ((c : Int) == 8) = false) (h9 : ((c : Int) == 9) = false) (w : World) : Calls Tryz.prog 34 #[.int .u8 c] w fun r w' => r = .returned (.int .u8 6) ∧ Below w.heap.size w w' := by
 have B0 : Below w.heap.size w w := (Below.refl _ _)
 go_enter Tryz.func34, Tryz.ntmps34
 go_wp2_with fail
 refine (KE.out _).mono ?_
 rintro r w1 ⟨rfl, b1⟩
 have B1 := btr B0 b1
 clear b1 B0 
 go_wp2_with fail
 refine (KN.out _).mono ?_
 rintro r w2 ⟨rfl, b2⟩
 have B2 := btr B1 b2
 clear b2 B1 
 go_wp2
 go_ret
 exact ⟨rfl, B2⟩
def plC (c : Nat) : Int := if c = 0 ∨ c = 7 then 7 else if c = 3 ∨ c = 4 then 4 else if c = 8 ∨ c = 9 then (c : Int) else 6
theorem kplain (c : Nat) (hc : c ≤ 9) (p : Int) (hp : plC c = p) : Box (∀ w, Calls Tryz.prog 34 #[.int .u8 c] w fun r w' => r = .returned (.int .u8 p) ∧ Below w.heap.size w w') := by
 have KE : ∀ o, decide (c = 0 ∨ c = 7) = o → Box (∀ w, Calls Tryz.prog 70 #[.int .u8 c] w fun r w' => r = .returned (.bool o) ∧ Below w.heap.size w w') := fun o h => box (fun w => op_endless c o (by rw [← Bool.decide_or]; exact h) w)
 have KN : ∀ o, decide (c = 3 ∨ c = 4) = o → Box (∀ w, Calls Tryz.prog 71 #[.int .u8 c] w fun r w' => r = .returned (.bool o) ∧ Below w.heap.size w w') := fun o h => box (fun w => op_naught c o (by rw [← Bool.decide_or]; exact h) w)
 unfold plC at hp
 by_cases e : c = 0 ∨ c = 7
 ·
  rw [if_pos e] at hp
  subst hp
  exact box (fun w => op_plain_e c (KE true (decide_eq_true e)) w)
 rw [if_neg e] at hp
 have KE := KE false (decide_eq_false e)
 by_cases z : c = 3 ∨ c = 4
 ·
  rw [if_pos z] at hp
  subst hp
  exact box (fun w => op_plain_z c KE (KN true (decide_eq_true z)) w)
 rw [if_neg z] at hp
 have KN := KN false (decide_eq_false z)
 by_cases n : c = 8 ∨ c = 9
 ·
  rw [if_pos n] at hp
  subst hp
  by_cases n8 : c = 8
  ·
   exact box (fun w => op_plain_s c KE KN (ieq (by omega)) w)
  ·
   exact box (fun w => op_plain_q c KE KN (ine (by omega)) (ieq (by omega)) w)
 rw [if_neg n] at hp
 subst hp
 exact box (fun w => op_plain_f c KE KN (ine (by omega)) (ine (by omega)) w)
theorem rlt {a b c : Rat} (h1 : a < b) (h2 : b ≤ c) : a < c := by grind
theorem p2of (i j : Int) (u : Rat) (h1 : (2 : Rat) ^ i ≤ u) (h2 : u < (2 : Rat) ^ (j + 1)) : i ≤ j := by
 rcases Int.lt_or_le j i with c | c
 ·
  have := p2mono (j + 1) i (by omega)
  exact absurd (rlt h2 (Rat.le_trans this h1)) Rat.lt_irrefl
 ·
  exact c
theorem x_between {f : Int} (hf : Is4 f) (x : XN) (hx : x.can) (n0 : x.n ≠ 0) (hd : nl x.d ≤ 8192) (q : Nat) (a : Int) (ex : Bool) (h1 : (q : Rat) * (2 : Rat) ^ a ≤ x.mag) (h2 : x.mag < ((q + 1 : Nat) : Rat) * (2 : Rat) ^ a) (h3 : ex = true ↔ (q : Rat) * (2 : Rat) ^ a = x.mag) (hl : pV f + 2 ≤ blen q) (a1 : -1000000 ≤ a) (a2 : a ≤ 1000000) (hb : blen q ≤ 1000) :
  topX x = a + (blen q : Int) - 1 ∧ xW f x = qW (pV f + 1) q ∧ xM f x = qM (pV f + 1) q (!ex) := by
 have hp := fp8 hf
 obtain ⟨n1, n2, n3, n4, n5, n6⟩ := nm8 hf
 have q0 : q ≠ 0 := fun h => by
  rw [h] at hl
  have : blen 0 = 0 := by unfold blen; rw [if_pos rfl]
  omega
 obtain ⟨b1, b2, b3⟩ := blen_low q q0
 obtain ⟨t1, t2⟩ := top_good x n0 hx.d0
 have one : ∀ k : Nat, (2 : Rat) ^ (a + (k : Int)) = ((2 ^ k : Nat) : Rat) * (2 : Rat) ^ a := fun k => by
  have e := up1 a k 1
  have o : ((1 : Nat) : Rat) = 1 := rfl
  rw [Nat.one_mul, o, Rat.one_mul] at e
  exact e
 have pa := Rat.le_of_lt (p2 a)
 have lo : (2 : Rat) ^ (a + (blen q : Int) - 1) ≤ x.mag := by
  rw [show a + (blen q : Int) - 1 = a + ((blen q - 1 : Nat) : Int) by omega, one]
  exact Rat.le_trans (Rat.mul_le_mul_of_nonneg_right (Rat.natCast_le_natCast.2 b2) pa) h1
 have hi : x.mag < (2 : Rat) ^ (a + (blen q : Int) - 1 + 1) := by
  rw [show a + (blen q : Int) - 1 + 1 = a + (blen q : Int) by omega, one]
  exact rlt h2 (Rat.mul_le_mul_of_nonneg_right (Rat.natCast_le_natCast.2 b3) pa)
 have T : topX x = a + (blen q : Int) - 1 := by
  have u1 := p2of _ _ _ lo t2
  have u2 := p2of _ _ _ t1 hi
  omega
 obtain ⟨s, hs⟩ : ∃ s, blen q - (pV f + 1 + 1) = s := ⟨_, rfl⟩
 have g := fl_good x (topX x - fP f) hx n0 (fl_ok x _ n0 hd (by omega) (by omega) (by omega))
 have ea : topX x - fP f = a + (s : Int) := by omega
 have w := sandwich (fun n => (n : Rat) * (2 : Rat) ^ a) (mono1 _) (m := q) (m' := (flX x (topX x - fP f)).1.1) (b := ex) (b' := (flX x (topX x - fP f)).1.2) (Nat.two_pow_pos s) h1 h2 h3
  (by have := g.1; rw [show (2 : Rat) ^ (topX x - fP f) = (2 : Rat) ^ (a + (s : Int)) by rw [ea], up1] at this; exact this)
  (by have := g.2.1; rw [show (2 : Rat) ^ (topX x - fP f) = (2 : Rat) ^ (a + (s : Int)) by rw [ea], up1] at this; exact this)
  (by have := g.2.2; rw [show (2 : Rat) ^ (topX x - fP f) = (2 : Rat) ^ (a + (s : Int)) by rw [ea], up1] at this; exact this)
 refine ⟨T, ?_, ?_⟩
 ·
  unfold xW qW
  rw [if_pos (by omega), hs]
  exact w.1
 ·
  unfold xM qM
  rw [if_pos (by omega), hs, w.2]
  cases ex
  ·
   simp
  ·
   simp
theorem div_num {f : Int} (hf : Is4 f) (m : Int) (a b : Bool) (A B k q : Nat) (more : Bool) (x y : Int) (A0 : A ≠ 0) (B0 : B ≠ 0) (hA : A < 2 ^ 128) (hB : B < 2 ^ 128) (x1 : -20000 ≤ x) (x2 : x ≤ 20000) (y1 : -20000 ≤ y) (y2 : y ≤ 20000) (hk : k ≤ 400) (hq : A * 2 ^ k / B = q) (hm : decide (A * 2 ^ k % B = 0) = !more) (hl : pV f + 2 ≤ blen q) (hb : blen q ≤ 1000) :
  ∃ (n d : Nat) (e : Int), quoX ⟨a, od A, 1, x + (tz A : Int)⟩ ⟨b, od B, 1, y + (tz B : Int)⟩ = (⟨a != b, n, d, e⟩, 0) ∧ (XN.mk (a != b) n d e).can ∧ nl n ≤ 8192 ∧ nl d ≤ 8192 ∧ n ≠ 0 ∧
   rnd f m ⟨a != b, n, d, e⟩ = dlv f m (a != b) (x - y - (k : Int) + (blen q : Int) - 1) (qW (pV f + 1) q) (qM (pV f + 1) q more) := by
 obtain ⟨oa1, oa2⟩ := od_is A A0
 obtain ⟨ob1, ob2⟩ := od_is B B0
 have tA := tz_blen A
 have tB := tz_blen B
 have bA := (blen_iff A 128).2 hA
 have bB := (blen_iff B 128).2 hB
 have lA := od_le A
 have lB := od_le B
 have nA : nl (od A) ≤ 16 := nl_le_of _ 16 (Nat.lt_of_le_of_lt lA (Nat.lt_of_lt_of_le hA (by decide)))
 have nB : nl (od B) ≤ 16 := nl_le_of _ 16 (Nat.lt_of_le_of_lt lB (Nat.lt_of_lt_of_le hB (by decide)))
 obtain ⟨i, hi⟩ : ∃ i, tz A = i := ⟨_, rfl⟩
 obtain ⟨j, hj⟩ : ∃ j, tz B = j := ⟨_, rfl⟩
 obtain ⟨P, hP⟩ : ∃ P, od A = P := ⟨_, rfl⟩
 obtain ⟨R, hR⟩ : ∃ R, od B = R := ⟨_, rfl⟩
 rw [hi, hP] at oa1
 rw [hj, hR] at ob1
 rw [hi] at tA
 rw [hj] at tB
 rw [hP] at oa2 lA nA
 rw [hR] at ob2 lB nB
 rw [hi, hj, hP, hR]
 have R0 : R ≠ 0 := by omega
 have P0 : P ≠ 0 := by omega
 have zP := tz_odd P oa2
 have zR := tz_odd R ob2
 obtain ⟨E, hE⟩ : ∃ E, x + (i : Int) - (y + (j : Int)) = E := ⟨_, rfl⟩
 have Aa : quoX ⟨a, P, 1, x + (i : Int)⟩ ⟨b, R, 1, y + (j : Int)⟩ = mk (a != b) P R E := by
  unfold quoX
  rw [if_neg R0, if_neg P0]
  show (if nl (P * 1) ≤ 16384 ∧ nl (1 * R) ≤ 16384 then mk (a != b) (P * 1) (1 * R) (x + (i : Int) - (y + (j : Int))) else (XZ, 4)) = _
  rw [Nat.mul_one, Nat.one_mul, if_pos (by omega), hE]
 have hmk : mk (a != b) P R E = (⟨a != b, P / Nat.gcd P R, R / Nat.gcd P R, E⟩, 0) := by
  unfold mk
  rw [if_neg P0, zP, zR, od_odd P oa2, od_odd R ob2, if_pos (by omega)]
  congr 2
  omega
 have can := mk_can (a != b) P R E (by omega) (by omega) R0 (by rw [hmk])
 have val := mk_val (a != b) P R E R0 (by rw [hmk])
 rw [hmk] at can val
 have nn : P / Nat.gcd P R ≠ 0 := by
  have := div_odd P (Nat.gcd P R) (Nat.gcd_dvd_left P R) oa2
  omega
 obtain ⟨X, hX⟩ : ∃ X, XN.mk (a != b) (P / Nat.gcd P R) (R / Nat.gcd P R) E = X := ⟨_, rfl⟩
 have Xn : X.n = P / Nat.gcd P R := by rw [← hX]
 have Xd : X.d = R / Nat.gcd P R := by rw [← hX]
 have Xb : X.b = (a != b) := by rw [← hX]
 have ld : nl X.d ≤ 8192 := by rw [Xd]; exact Nat.le_trans (nl_mono _ _ (Nat.div_le_self _ _)) (by omega)
 have ln : nl X.n ≤ 8192 := by rw [Xn]; exact Nat.le_trans (nl_mono _ _ (Nat.div_le_self _ _)) (by omega)
 refine ⟨_, _, _, Aa.trans hmk, can, by rw [← Xn]; exact ln, by rw [← Xd]; exact ld, nn, ?_⟩
 simp only [hX] at can val ⊢
 have mag : X.mag = (P : Rat) / (R : Rat) * (2 : Rat) ^ E := by
  rw [val_mag, Xb, Rat.mul_assoc] at val
  have z := sgn_ne (a != b)
  have z2 := sgn_sq (a != b)
  generalize sgn (a != b) = s at val z z2
  generalize (P : Rat) / (R : Rat) * (2 : Rat) ^ E = v at val ⊢
  generalize X.mag = u at val ⊢
  have : s * (s * u) = s * (s * v) := by rw [val]
  rw [← Rat.mul_assoc, ← Rat.mul_assoc, z2, Rat.one_mul, Rat.one_mul] at this
  exact this
 have zR := cast_ne R0
 have k1 : X.mag * (B : Rat) = ((A * 2 ^ k : Nat) : Rat) * (2 : Rat) ^ (x - y - (k : Int)) := by
  have c1 : (B : Rat) = (R : Rat) * (2 : Rat) ^ (j : Int) := by rw [p2nat, ← Rat.natCast_mul, ← ob1]
  have c2 : ((A * 2 ^ k : Nat) : Rat) = (P : Rat) * ((2 : Rat) ^ (i : Int) * (2 : Rat) ^ (k : Int)) := by rw [p2nat, p2nat, ← Rat.natCast_mul, ← Rat.natCast_mul, ← Nat.mul_assoc, ← oa1]
  have c3 : (2 : Rat) ^ E * (2 : Rat) ^ (j : Int) = (2 : Rat) ^ (x + (i : Int) - y) := by rw [← p2add]; congr 1; omega
  have c4 : (2 : Rat) ^ (i : Int) * (2 : Rat) ^ (k : Int) * (2 : Rat) ^ (x - y - (k : Int)) = (2 : Rat) ^ (x + (i : Int) - y) := by rw [← p2add, ← p2add]; congr 1; omega
  rw [mag, c1, c2, Rat.mul_assoc (P : Rat), c4, ← c3]
  generalize (2 : Rat) ^ E = e1
  generalize (2 : Rat) ^ (j : Int) = e2
  grind
 have good := quot_good X.mag (A * 2 ^ k) B _ (p2 (x - y - (k : Int))) B0 k1
 rw [hq] at good
 obtain ⟨w1, w2, w3⟩ := x_between hf X can (by rw [Xn]; exact nn) ld q (x - y - (k : Int)) (decide (A * 2 ^ k % B = 0)) good.1 good.2.1 (by rw [decide_eq_true_iff]; exact good.2.2) hl (by omega) (by omega) hb
 unfold rnd
 rw [if_neg (by rw [Xn]; exact nn), w1, w2, w3, Xb, hm, Bool.not_not]
theorem kS_blen {f : Int} (hf : Is4 f) (n : Nat) (h : kC f n = 1 ∨ kC f n = 2 ∨ kC f n = 5 ∨ kC f n = 6) : 1 ≤ blen (kS f n) ∧ blen (kS f n) ≤ 113 := by
 obtain ⟨n1, n2, n3, n4, n5, n6⟩ := nm8 hf
 obtain ⟨k1, k2, k3, k4⟩ := k_parts (f := f) n h
 have t := kT_lt (f := f) n
 have l : kS f n < 2 ^ (pV f + 1) := by
  rw [k2, Nat.pow_succ]
  unfold sV
  split <;> omega
 have := (blen_iff (kS f n) (pV f + 1)).2 l
 have := blen_pos _ k4
 have : pV f ≤ 112 := by rcases hf with rfl | rfl | rfl | rfl <;> decide
 omega
theorem quo_len (A B k : Nat) (A0 : A ≠ 0) (B0 : B ≠ 0) (hk : blen A + k = 115 + blen B) : 115 ≤ blen (A * 2 ^ k / B) ∧ blen (A * 2 ^ k / B) ≤ 116 := by
 have bs := blen_shift A k A0
 obtain ⟨N, hN⟩ : ∃ N, A * 2 ^ k = N := ⟨_, rfl⟩
 rw [hN] at bs ⊢
 have N0 : N ≠ 0 := by rw [← hN]; exact mul_ne A0 (Nat.pos_iff_ne_zero.1 (Nat.two_pow_pos _))
 obtain ⟨c1, c2, c3⟩ := blen_low N N0
 obtain ⟨d1, d2, d3⟩ := blen_low B B0
 have pb : 0 < B := Nat.pos_of_ne_zero B0
 constructor
 ·
  have g : 2 ^ 114 ≤ N / B := by
   rw [Nat.le_div_iff_mul_le pb]
   have : 2 ^ 114 * B ≤ 2 ^ 114 * 2 ^ blen B := Nat.mul_le_mul_left _ (Nat.le_of_lt d3)
   rw [← Nat.pow_add, show 114 + blen B = blen N - 1 by omega] at this
   exact Nat.le_trans this c2
  rcases Nat.lt_or_ge (blen (N / B)) 115 with c | c
  ·
   have := (blen_iff (N / B) 114).1 (by omega)
   omega
  ·
   exact c
 ·
  rw [blen_iff, Nat.div_lt_iff_lt_mul pb]
  have : 2 ^ 116 * 2 ^ (blen B - 1) ≤ 2 ^ 116 * B := Nat.mul_le_mul_left _ d2
  rw [← Nat.pow_add, show 116 + (blen B - 1) = blen N by omega] at this
  exact Nat.lt_of_lt_of_le c3 this
end Go.Proofs.YtapikkbifdldfaaGreatDoor
