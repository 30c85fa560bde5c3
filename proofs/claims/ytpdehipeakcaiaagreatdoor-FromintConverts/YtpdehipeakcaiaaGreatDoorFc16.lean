/-
  What the functions that the statement reaches return: part 16 (R24, A0, E2, G5, GH, GO, NC, GR, GS, GT, GU).
-/
import Derived.Test.YtpdehipeakcaiaaGreatDoorFc15
namespace Go.Proofs.YtpdehipeakcaiaaGreatDoor
set_option maxRecDepth 100000
set_option maxHeartbeats 40000000
set_option maxRecDepth 100000
open Go.RowKit WMath XMath
set_option linter.unusedSimpArgs false
set_option linter.unusedVariables false
def Fnd0 (f : Int) (x : XN) (T : Int) (W : Nat) (more : Bool) : Prop := T = topX x ∧ ∀ k : Nat, T - fP f + (k : Int) ≤ 2000000 → flX x (T - fP f + (k : Int)) = ((W / 2 ^ k, !more && decide (W % 2 ^ k = 0)), 0)
theorem fnd_x0 {f : Int} (hf : Is4 f) {x : XN} (hx : x.can) (n0 : x.n ≠ 0) (hd : nl x.d ≤ 8192) : Wok f (xW f x) ∧ Fnd0 f x (topX x) (xW f x) (xM f x) := by
  obtain ⟨t1, t2⟩ := top_lim hx
  obtain ⟨a, b⟩ := x_num hf x hx n0 hd t1 t2
  exact ⟨a, rfl, b⟩
theorem rfind0 (f : Int) (hf : Is4 f) (b : Bool) (n d : Nat) (s t : ByteArray) (e : Int) (hs : nbA n = s) (ht : nbA d = t) (hc : (XN.mk b n d e).can) (T : Int) (t1 : -1300000 ≤ T) (t2 : T ≤ 1300000) (W : Nat) (more : Bool) (lw : nl W ≤ 8192) (hF : Fnd0 f ⟨b, n, d, e⟩ T W more) (k : Nat) (A : Int) (hA : T - fP f + 1 + (k : Int) = A) (hA2 : A ≤ 900000) (M : ByteArray) (hM : nbA (rS W k) = M) (w : World) :
    Calls Tryz.prog 79 #[.agg #[.bool b, .string s, .string t, .int .i64 e], .bool false, .int .i64 A] w fun r w' => r = .returned (.agg #[.string M, .int .i64 A, .int .i64 (hfV (rH W k) (rM W k more)), .bool (!(rH W k || rM W k more))]) ∧ Below w.heap.size w w' := by
  have p := fp8 hf
  have n4 := (nm8 hf).2.2.2.1
  have d1 : nl (W / 2 ^ k) ≤ 8192 := Nat.le_trans (nl_mono _ _ (Nat.div_le_self _ _)) lw
  have KL : Box (∀ w, Calls Tryz.prog 108 #[.string (nbA (W / 2 ^ k))] w fun r w' => r = .returned (.bool (rH W k)) ∧ Below w.heap.size w w') := box (fun w => rf_last _ _ _ rfl (by omega) (last_is W k) w)
  obtain ⟨hTx, hF⟩ := hF
  have F1 := hF (k + 1) (by omega)
  have F2 := hF k (by omega)
  rw [cut_two, ex_is, show T - fP f + ((k + 1 : Nat) : Int) = A by omega] at F1
  rw [wh_is] at F2
  have K1 : Box (∀ w, Calls Tryz.prog 107 #[.agg #[.bool b, .string s, .string t, .int .i64 e], .int .i64 A] w fun r w' => r = .returned (.tuple #[.string M, .bool (!(rH W k || rM W k more)), .int .i64 0]) ∧ Below w.heap.size w w') := box (fun w => rFloor_ok b n d e s t A _ _ 0 M hs ht hc (by omega) (by omega) F1 hM w)
  have K2 : Box (∀ w, Calls Tryz.prog 107 #[.agg #[.bool b, .string s, .string t, .int .i64 e], .int .i64 (T - fP f + (k : Int))] w fun r w' => r = .returned (.tuple #[.string (nbA (W / 2 ^ k)), .bool (!rM W k more), .int .i64 0]) ∧ Below w.heap.size w w') := box (fun w => rFloor_ok b n d e s t _ _ _ 0 _ hs ht hc (by omega) (by omega) F2 rfl w)
  have a1 : IntKind.i64.wrap (A - 1) = T - fP f + (k : Int) := by rw [wrap_i64_is _ (by omega) (by omega)]; omega
  generalize rH W k = H at *
  generalize rM W k more = R at *
  cases H <;> cases R
  · exact rf_find_ex b s t e A A A 0 0 M M M M M M w K1
  · exact rf_find_lo1 b s t e A _ A 0 0 M M _ M M M w K1 K2 KL a1
  · exact rf_find_half b s t e A _ A 0 0 M M _ M M M w K1 K2 KL a1
  · exact rf_find_hi b s t e A _ A 0 0 M M _ M M M w K1 K2 KL a1
theorem rtop0 (f : Int) (b : Bool) (n d : Nat) (s t : ByteArray) (e : Int) (hs : nbA n = s) (ht : nbA d = t) (hc : (XN.mk b n d e).can) (n0 : n ≠ 0) (T : Int) (W : Nat) (more : Bool) (hF : Fnd0 f ⟨b, n, d, e⟩ T W more) (w : World) : Calls Tryz.prog 74 #[.agg #[.bool b, .string s, .string t, .int .i64 e], .bool false] w fun r w' => r = .returned (.int .i64 T) ∧ Below w.heap.size w w' := by
  obtain ⟨t1, t2⟩ := top_lim hc
  exact rf_top b s t e T 0 w (box (fun w => rTop_ok b n d e s t T hs ht n0 hc hF.1.symm w))
theorem rtiny0 (f m : Int) (hf : Is4 f) (hm : 0 ≤ m ∧ m ≤ 4) (b : Bool) (n d : Nat) (s t : ByteArray) (e : Int) (hs : nbA n = s) (ht : nbA d = t) (hc : (XN.mk b n d e).can) (n0 : n ≠ 0) (T : Int) (t1 : -1300000 ≤ T) (t2 : T ≤ 1300000) (W : Nat) (more : Bool) (hW : Wok f W) (hF : Fnd0 f ⟨b, n, d, e⟩ T W more) (o : Bool) (ho : tnB f m b T W more = o) (w : World) :
    Calls Tryz.prog 83 #[.int .u8 f, .int .u8 m, .agg #[.bool b, .string s, .string t, .int .i64 e], .bool false] w fun r w' => r = .returned (.bool o) ∧ Below w.heap.size w w' := by
  have p := fp8 hf
  obtain ⟨n1, n2, n3, n4, n5, n6⟩ := nm8 hf
  have KT : Box (∀ w, Calls Tryz.prog 74 #[.agg #[.bool b, .string s, .string t, .int .i64 e], .bool false] w fun r w' => r = .returned (.int .i64 T) ∧ Below w.heap.size w w') := box (fun w => rtop0 f b n d s t e hs ht hc n0 T W more hF w)
  have KI : Box (∀ w, Calls Tryz.prog 78 #[.int .u8 f] w fun r w' => r = .returned (.int .i64 (1 - fE f)) ∧ Below w.heap.size w w') := box (fun w => r_emin_b f hf w)
  have i1 : IntKind.i64.wrap (1 - fE f - 1) = 1 - fE f - 1 := wrap_i64_is _ (by omega) (by omega)
  by_cases c1 : 1 - fE f ≤ T
  · rw [tn_hi hf hW m b T more c1] at ho
    subst ho
    exact rf_tiny_hi f m b s t e false T _ 0 0 0 0 0 s s false false 0 w KT KI (decide_eq_true c1)
  by_cases c2 : T < 1 - fE f - 1
  · rw [tn_lo hf hW m b T more c2] at ho
    subst ho
    exact rf_tiny_lo f m b s t e false T _ _ 0 0 0 0 s s false false 0 w KT KI (decide_eq_false c1) i1 (decide_eq_true c2)
  · rw [tn_mid hf m b T more (by omega)] at ho
    have lim := (rG_lim hW m b 0 more).1
    exact rf_tiny_mid f m b s t e false T _ _ (fP f) (T - fP f) (T - fP f + 1) _ (nbA (rS W 0)) (nbA (rG m b W 0 more)) _ o _ w KT KI (box (fun w => r_prec_b f hf w))
      (box (fun w => rfind0 f hf b n d s t e hs ht hc T t1 t2 W more (nl_W hf hW) hF 0 _ (by omega) (by omega) _ rfl w))
      (box (fun w => rtaken m hm b W 0 more (nl_W hf hW) _ _ _ rfl rfl w))
      (box (fun w => bel_same (nat_Len _ _ _ rfl (nl_small hf _ lim) rfl w))) (decide_eq_false c1) i1 (decide_eq_false c2) (wrap_i64_is _ (by omega) (by omega)) (wrap_i64_is _ (by omega) (by omega)) ho
theorem rdeliver0 (f m : Int) (hf : Is4 f) (hm : 0 ≤ m ∧ m ≤ 4) (b : Bool) (n d : Nat) (s t : ByteArray) (e : Int) (hs : nbA n = s) (ht : nbA d = t) (hc : (XN.mk b n d e).can) (n0 : n ≠ 0) (T : Int) (t1 : -1300000 ≤ T) (t2 : T ≤ 1300000) (W : Nat) (more : Bool) (hW : Wok f W) (hF : Fnd0 f ⟨b, n, d, e⟩ T W more) (M : Nat) (fl : Int) (hd : dlv f m b T W more = (M, fl)) (u v : Nat) (hv : bv7 M = (u, v)) (w : World) :
    Calls Tryz.prog 40 #[.int .u8 f, .int .u8 m, .agg #[.bool b, .string s, .string t, .int .i64 e], .bool false] w fun r w' => r = .returned (.tuple #[.agg #[.int .u64 (u : Nat), .int .u64 (v : Nat)], .int .u8 fl]) ∧ Below w.heap.size w w' := by
  have p := fp8 hf
  obtain ⟨n1, n2, n3, n4, n5, n6⟩ := nm8 hf
  have KT : Box (∀ w, Calls Tryz.prog 74 #[.agg #[.bool b, .string s, .string t, .int .i64 e], .bool false] w fun r w' => r = .returned (.int .i64 T) ∧ Below w.heap.size w w') := box (fun w => rtop0 f b n d s t e hs ht hc n0 T W more hF w)
  have KP : Box (∀ w, Calls Tryz.prog 75 #[.int .u8 f] w fun r w' => r = .returned (.int .i64 (fP f)) ∧ Below w.heap.size w w') := box (fun w => r_prec_b f hf w)
  have KE : Box (∀ w, Calls Tryz.prog 76 #[.int .u8 f] w fun r w' => r = .returned (.int .i64 (fE f)) ∧ Below w.heap.size w w') := box (fun w => r_emax_b f hf w)
  have KI : Box (∀ w, Calls Tryz.prog 78 #[.int .u8 f] w fun r w' => r = .returned (.int .i64 (1 - fE f)) ∧ Below w.heap.size w w') := box (fun w => r_emin_b f hf w)
  by_cases c0 : fE f < T
  · rw [dlv_over hf hW m b T more c0] at hd
    injection hd with a1 a2
    subst a1 a2
    exact rf_del_over f m b s t e false T _ _ 0 0 0 0 0 s s false false s s 0 0 u v false w KT KP KE (box (fun w => rover f m hf hm b u v hv w)) (decide_eq_true c0)
  have lim := rG_lim hW m b (dK f T) more
  have sl := nl_W hf hW
  have kk : stE f T - T = (dK f T : Int) := by unfold dK stE; omega
  have stx := st_lx hf T
  obtain ⟨S, hS⟩ : ∃ S, rG m b W (dK f T) more = S := ⟨_, rfl⟩
  have nlim := null_lim hf hW m b (dK f T) more
  have kb : dK f T ≤ 1400000 := by unfold dK stE; omega
  have jb : dJ f T ≤ 40000 := by unfold dJ stE; omega
  unfold dlv at hd
  rw [hS] at hd lim nlim
  have hj : dJ f T = 0 ∨ 2 ^ pV f ≤ S := by
    rcases jk (f := f) T with ⟨a, _⟩ | ⟨a, _⟩
    · exact Or.inl a
    · exact Or.inr (lim.2.1 a)
  obtain ⟨x, hx, xc, xz⟩ : ∃ x : XN, XMath.mk b S 1 (lx f + (dJ f T : Int)) = (x, 0) ∧ x.can ∧ (x.n = 0 ↔ S = 0) := by
    by_cases s0 : S = 0
    · subst s0
      exact ⟨X0, mk_null _ _ _, x0_can, by decide⟩
    · obtain ⟨a, c, d, _⟩ := mk_small hf b (dJ f T) S s0 lim.1 jb
      exact ⟨_, a, c, ⟨fun h => absurd h d, fun h => absurd h s0⟩⟩
  obtain ⟨xb, xn, xd, xe⟩ := x
  obtain ⟨i, j, ok, hij, hok1, hok2, hok3⟩ : ∃ i j ok, (S ≠ 0 → ∃ Mx, ofX f ⟨xb, xn, xd, xe⟩ = (Mx, ok) ∧ bv7 Mx = (i, j)) ∧ (ok = true → i = u ∧ j = v) ∧ (ok = true → ¬ fE f < stE f T - fP f + (blen S : Int)) ∧ (ok = false → fE f < stE f T - fP f + (blen S : Int)) := by
    by_cases s0 : S = 0
    · have b0 : blen S = 0 := by rw [s0]; decide
      exact ⟨u, v, true, fun h => absurd s0 h, fun _ => ⟨rfl, rfl⟩, fun _ => by rw [b0]; unfold stE; omega, fun h => Bool.noConfusion h⟩
    · obtain ⟨a, c, dd, tp⟩ := mk_small hf b (dJ f T) S s0 lim.1 jb
      rw [hx] at a
      injection a with a1 a2
      by_cases ov : fE f < stE f T - fP f + (blen S : Int)
      · exact ⟨0, 0, false, fun _ => ⟨0, by rw [a1]; exact of_over hf b (dJ f T) S s0 lim.1 jb (by omega), rfl⟩, fun h => Bool.noConfusion h, fun h => Bool.noConfusion h, fun _ => ov⟩
      · have hd2 := hd
        rw [if_neg ov] at hd2
        injection hd2 with h1 h2
        exact ⟨u, v, true, fun _ => ⟨M, by rw [a1, ← h1]; exact of_rep hf b (dJ f T) S s0 lim.1 hj (by omega), hv⟩, fun _ => ⟨rfl, rfl⟩, fun _ => ov, fun h => Bool.noConfusion h⟩
  have b0 : S = 0 → blen S = 0 := fun h => by rw [h]; decide
  have nul0 : S = 0 → M = eZero f b ∧ fl = 3 := fun s0 => by
    obtain ⟨k3, kl⟩ := nlim s0
    have hj0 : dJ f T = 0 := by have := Nat.two_pow_pos (pV f); omega
    rw [if_neg (by rw [b0 s0]; unfold stE; omega)] at hd
    injection hd with h1 h2
    rw [if_pos kl, if_pos (tn_lo hf hW m b T more (by rcases jk (f := f) T with ⟨_, q⟩ | ⟨q, _⟩ <;> omega))] at h2
    refine ⟨?_, h2.symm⟩
    rw [← h1, hj0, s0]
    unfold eS eZero enc7
    rfl
  have KF : ∀ A0, A0 = stE f T → Box (∀ w, Calls Tryz.prog 79 #[.agg #[.bool b, .string s, .string t, .int .i64 e], .bool false, .int .i64 (A0 - fP f + 1)] w fun r w' => r = .returned (.agg #[.string (nbA (rS W (dK f T))), .int .i64 (A0 - fP f + 1), .int .i64 (hfV (rH W (dK f T)) (rM W (dK f T) more)), .bool (!(rH W (dK f T) || rM W (dK f T) more))]) ∧ Below w.heap.size w w') := fun A0 h0 => box (fun w => rfind0 f hf b n d s t e hs ht hc T t1 t2 W more sl hF (dK f T) _ (by omega) (by rw [h0]; unfold stE; omega) _ rfl w)
  have KK : ∀ A, Box (∀ w, Calls Tryz.prog 80 #[.int .u8 m, .bool b, .agg #[.string (nbA (rS W (dK f T))), .int .i64 A, .int .i64 (hfV (rH W (dK f T)) (rM W (dK f T) more)), .bool (!(rH W (dK f T) || rM W (dK f T) more))]] w fun r w' => r = .returned (.string (nbA S)) ∧ Below w.heap.size w w') := fun A => box (fun w => rtaken m hm b W (dK f T) more sl A _ _ rfl (by rw [hS]) w)
  have KM : ∀ A0, A0 = stE f T → Box (∀ w, Calls Tryz.prog 13 #[.bool b, .string (nbA S), .string ⟨#[1]⟩, .int .i64 (A0 - fP f + 1)] w fun r w' => r = .returned (.tuple #[.agg #[.bool xb, .string (nbA xn), .string (nbA xd), .int .i64 xe], .int .i64 0]) ∧ Below w.heap.size w w') := fun A0 h0 => box (fun w => rmake_ok b S 1 _ _ _ xb xn xd xe 0 _ _ rfl nb1 (nl_small hf S lim.1) nl1 (by decide) (by omega) (by omega) (by rw [h0, stx]; exact hx) rfl rfl w)
  have hn : ((nbA xn).toList == []) = decide (S = 0) := by rw [od_nil xn _ rfl, decide_eq_decide]; exact xz
  have hfl : (if decide (S = 0) = true then (3 : Int) else if ok = true then (if (!(rH W (dK f T) || rM W (dK f T) more)) = true then 0 else if tnB f m b T W more = true then 3 else 1) else 5) = fl := by
    by_cases s0 : S = 0
    · rw [if_pos (decide_eq_true s0)]
      exact (nul0 s0).2.symm
    · rw [if_neg (by simpa using s0)]
      cases ok
      · rw [if_neg (by decide)]
        rw [if_pos (hok3 rfl)] at hd
        injection hd
      · rw [if_pos rfl]
        rw [if_neg (hok2 rfl)] at hd
        injection hd with h1 h2
        rw [← h2]
        generalize (rH W (dK f T) || rM W (dK f T) more) = q
        cases q <;> rfl
  have KZ : Box (decide (S = 0) = true → ∀ w, Calls Tryz.prog 81 #[.int .u8 f, .bool b] w fun r w' => r = .returned (.agg #[.int .u64 (u : Nat), .int .u64 (v : Nat)]) ∧ Below w.heap.size w w') := box (fun h w => rz_zero f b hf u v (by rw [← (nul0 (of_decide_eq_true h)).1]; exact hv) w)
  have KB : Box (decide (S = 0) = false → ∀ w, Calls Tryz.prog 82 #[.int .u8 f, .agg #[.bool xb, .string (nbA xn), .string (nbA xd), .int .i64 xe]] w fun r w' => r = .returned (.tuple #[.agg #[.int .u64 (i : Nat), .int .u64 (j : Nat)], .bool ok]) ∧ Below w.heap.size w w') := box (fun h w => by
    obtain ⟨Mx, q1, q2⟩ := hij (of_decide_eq_false h)
    exact rOf_is f hf xb xn xd _ _ xe rfl rfl xc Mx ok i j q1 q2 w)
  have KO : Box (ok = false → ∀ w, Calls Tryz.prog 77 #[.int .u8 f, .int .u8 m, .bool b] w fun r w' => r = .returned (.agg #[.int .u64 (u : Nat), .int .u64 (v : Nat)]) ∧ Below w.heap.size w w') := box (fun h w => rover f m hf hm b u v (by
    rw [if_pos (hok3 h)] at hd
    injection hd with h1 h2
    rw [h1]
    exact hv) w)
  have KN : Box (∀ w, Calls Tryz.prog 83 #[.int .u8 f, .int .u8 m, .agg #[.bool b, .string s, .string t, .int .i64 e], .bool false] w fun r w' => r = .returned (.bool (tnB f m b T W more)) ∧ Below w.heap.size w w') := box (fun w => rtiny0 f m hf hm b n d s t e hs ht hc n0 T t1 t2 W more hW hF _ rfl w)
  by_cases lo : T < 1 - fE f
  · have hst : 1 - fE f = stE f T := by unfold stE; omega
    exact rf_deliver_a f m b s t e false T (fE f) (fP f) (1 - fE f) (1 - fE f) _ (1 - fE f - fP f + 1) _ fl _ _ _ xb _ _ xe 0 u v i j ok _ _ w KT KP KE KI (KF _ hst) (KK _) (KM _ hst) KZ KB KO hok1 KN (decide_eq_false c0) (decide_eq_true lo) (wrap_i64_is _ (by omega) (by omega)) (wrap_i64_is _ (by omega) (by omega)) rfl hn hfl
  · have hst : T = stE f T := by unfold stE; omega
    exact rf_deliver_b f m b s t e false T (fE f) (fP f) (1 - fE f) T _ (T - fP f + 1) _ fl _ _ _ xb _ _ xe 0 u v i j ok _ _ w KT KP KE KI (KF _ hst) (KK _) (KM _ hst) KZ KB KO hok1 KN (decide_eq_false c0) (decide_eq_false lo) (wrap_i64_is _ (by omega) (by omega)) (wrap_i64_is _ (by omega) (by omega)) rfl hn hfl
theorem rRound_is0 (f m : Int) (hf : Is4 f) (hm : 0 ≤ m ∧ m ≤ 4) (b : Bool) (n d : Nat) (s t : ByteArray) (e : Int) (hs : nbA n = s) (ht : nbA d = t) (hc : (XN.mk b n d e).can) (ln : nl n ≤ 8192) (ld : nl d ≤ 8192) (M : Nat) (fl : Int) (hd : rnd f m ⟨b, n, d, e⟩ = (M, fl)) (u v : Nat) (hv : bv7 M = (u, v)) (w : World) :
    Calls Tryz.prog 15 #[.int .u8 f, .int .u8 m, .agg #[.bool b, .string s, .string t, .int .i64 e]] w fun r w' => r = .returned (.tuple #[.agg #[.int .u64 (u : Nat), .int .u64 (v : Nat)], .int .u8 fl, .int .i64 0]) ∧ Below w.heap.size w w' := by
  have KF : Box (∀ w, Calls Tryz.prog 39 #[.int .u8 f, .int .u8 m, .agg #[.bool b, .string s, .string t, .int .i64 e]] w fun r w' => r = .returned (.int .i64 0) ∧ Below w.heap.size w w') := box (fun w => rfault f m b s t e true (may_yes hs ht hc) 0 (flt_ok hf hm hs ht ln ld) w)
  unfold rnd at hd
  rcases x_cases hs ht hc with ⟨n0, rfl, rfl, rfl, rfl, rfl⟩ | ⟨n0, e0⟩
  · rw [if_pos n0] at hd
    injection hd with h1 h2
    subst h1 h2
    injection hv with h3 h4
    subst h3 h4
    exact rf_Round_null f m w KF
  · rw [if_neg n0] at hd
    obtain ⟨t1, t2⟩ := top_lim hc
    obtain ⟨q1, q2⟩ := fnd_x0 hf hc n0 ld
    exact rf_Round_ok f m b s t e u v fl w KF (box (fun w => rdeliver0 f m hf hm b n d s t e hs ht hc n0 _ (by omega) (by omega) _ _ q1 q2 M fl hd u v hv w)) (eq_nil n s hs n0)
def sumN (sa sb : Bool) (X Y n : Nat) : Nat := if sa = sb then X * 2 ^ n + Y else X * 2 ^ n - Y
theorem sum_rat (sa sb : Bool) (X Y n : Nat) (ey : Int) (hg : Y ≤ X * 2 ^ n) : sgn sa * ((X : Rat) / ((1 : Nat) : Rat)) * (2 : Rat) ^ (ey + (n : Int)) + sgn sb * ((Y : Rat) / ((1 : Nat) : Rat)) * (2 : Rat) ^ ey = sgn sa * (((sumN sa sb X Y n : Nat) : Rat) / ((1 : Nat) : Rat)) * (2 : Rat) ^ ey := by
  have one : ∀ z : Rat, z / ((1 : Nat) : Rat) = z := fun z => by
    rw [show ((1 : Nat) : Rat) = 1 from rfl, Rat.div_def, show (1 : Rat)⁻¹ = 1 by decide +kernel, Rat.mul_one]
  rw [one, one, one, p2add, p2nat]
  generalize (2 : Rat) ^ ey = E
  unfold sumN
  by_cases c : sa = sb
  · subst c
    rw [if_pos rfl, Rat.natCast_add, Rat.natCast_mul]
    generalize ((2 ^ n : Nat) : Rat) = H
    grind
  · rw [if_neg c]
    have hs : sgn sb = - sgn sa := by
      unfold sgn
      cases sa <;> cases sb <;> first | exact absurd rfl c | decide +kernel
    have hN : ((X * 2 ^ n - Y : Nat) : Rat) + (Y : Rat) = (X : Rat) * ((2 ^ n : Nat) : Rat) := by
      rw [← Rat.natCast_add, ← Rat.natCast_mul, Nat.sub_add_cancel hg]
    rw [hs]
    generalize ((2 ^ n : Nat) : Rat) = H at *
    generalize ((X * 2 ^ n - Y : Nat) : Rat) = K at *
    grind
theorem bd_whole (b : Bool) (A : Nat) (x : Int) (A0 : A ≠ 0) (hA : A < 2 ^ 128) (x1 : -20000 ≤ x) (x2 : x ≤ 20000) : Bd ⟨b, od A, 1, x + (tz A : Int)⟩ 128 20200 := by
  have tA := tz_blen A
  have bA := (blen_iff A 128).2 hA
  obtain ⟨o1, o2⟩ := od_is A A0
  have le : od A ≤ A := by
    have p := Nat.two_pow_pos (tz A)
    have := Nat.mul_le_mul_left (od A) p
    rw [Nat.mul_one] at this
    omega
  exact ⟨Nat.lt_of_le_of_lt le hA, by show 1 < 2 ^ 128; decide, by show -((20200 : Nat) : Int) ≤ x + (tz A : Int); omega, by show x + (tz A : Int) ≤ ((20200 : Nat) : Int); omega⟩
theorem add_num {f : Int} (hf : Is4 f) (m : Int) (sa sb : Bool) (X Y n : Nat) (ex ey : Int) (X0 : X ≠ 0) (Y0 : Y ≠ 0) (hX : X < 2 ^ 128) (hY : Y < 2 ^ 128) (hn : ex = ey + (n : Int)) (hg : Y ≤ X * 2 ^ n) (x1 : -20000 ≤ ex) (x2 : ex ≤ 20000) (y1 : -20000 ≤ ey) (y2 : ey ≤ 20000) (N : Nat) (hN : sumN sa sb X Y n = N) (N0 : N ≠ 0) :
    ∃ (k : Nat) (e : Int), addX ⟨sa, od X, 1, ex + (tz X : Int)⟩ ⟨sb, od Y, 1, ey + (tz Y : Int)⟩ = (⟨sa, k, 1, e⟩, 0) ∧ addX ⟨sb, od Y, 1, ey + (tz Y : Int)⟩ ⟨sa, od X, 1, ex + (tz X : Int)⟩ = (⟨sa, k, 1, e⟩, 0) ∧ (XN.mk sa k 1 e).can ∧ nl k ≤ 8192 ∧ k ≠ 0 ∧
      rnd f m ⟨sa, k, 1, e⟩ = dlv f m sa (ey + (blen N : Int) - 1) (qW (pV f + 1) N) (qM (pV f + 1) N false) := by
  have bX := (blen_iff X 128).2 hX
  have bY := (blen_iff Y 128).2 hY
  have bN : blen N ≤ 45000 := by
    have : blen N ≤ 128 + n + 1 := by
      apply blen_le_of
      have h1 : X * 2 ^ n < 2 ^ (128 + n) := by rw [Nat.pow_add]; exact (Nat.mul_lt_mul_right (Nat.two_pow_pos n)).2 hX
      have h2 : N ≤ X * 2 ^ n + X * 2 ^ n := by rw [← hN]; unfold sumN; split <;> omega
      rw [Nat.pow_succ]
      omega
    omega
  obtain ⟨w1, w2, w3, w4, w5, w6, w7⟩ := x_whole hf sa N ey N0 bN (by omega) (by omega)
  obtain ⟨u1, u2, u3, u4, u5, u6, u7⟩ := x_whole hf sa X ex X0 (by omega) (by omega) (by omega)
  obtain ⟨v1, v2, v3, v4, v5, v6, v7⟩ := x_whole hf sb Y ey Y0 (by omega) (by omega) (by omega)
  have wv := mk_val sa N 1 ey (by decide) (by rw [w1])
  have uv := mk_val sa X 1 ex (by decide) (by rw [u1])
  have vv := mk_val sb Y 1 ey (by decide) (by rw [v1])
  rw [w1] at wv
  rw [u1] at uv
  rw [v1] at vv
  have sr := sum_rat sa sb X Y n ey hg
  rw [← hn, hN] at sr
  have hv : (XN.mk sa (od X) 1 (ex + (tz X : Int))).val + (XN.mk sb (od Y) 1 (ey + (tz Y : Int))).val = (XN.mk sa (od N) 1 (ey + (tz N : Int))).val := by
    rw [uv, vv, wv]
    exact sr
  have B1 := bd_whole sa X ex X0 hX x1 x2
  have B2 := bd_whole sb Y ey Y0 hY y1 y2
  refine ⟨od N, ey + (tz N : Int), addX_is _ _ _ u2 v2 w2 B1 B2 hv, addX_is _ _ _ v2 u2 w2 B2 B1 (by rw [Rat.add_comm]; exact hv), w2, w4, w3, ?_⟩
  unfold rnd
  rw [if_neg w3, w5, w6, w7]
end Go.Proofs.YtpdehipeakcaiaaGreatDoor
namespace Go.Proofs.YtpdehipeakcaiaaGreatDoor
set_option maxRecDepth 100000
set_option maxHeartbeats 40000000
set_option maxRecDepth 100000
open Go.RowKit WMath
set_option linter.unusedSimpArgs false
set_option linter.unusedVariables false
def ebb (a b c d : Int) : Bool := (a == c) && (b == d)
theorem eqb (a b c d : Int) (w : World) :
    (Op.equalIn 10000 27 (.agg #[.int .u64 a, .int .u64 b]) (.agg #[.int .u64 c, .int .u64 d])).run Tryz.prog w = .ok (ebb a b c d) w := by
  have q1 : ∀ (a b : Int), (part 25 #[.int .u64 a, .int .u64 b] 0).run Tryz.prog w = .ok (.int .u64 a) w := fun a b => by kernel_rfl
  have q2 : ∀ (a b : Int), (part 25 #[.int .u64 a, .int .u64 b] 1).run Tryz.prog w = .ok (.int .u64 b) w := fun a b => by kernel_rfl
  have i1 : (Op.equalIn 9999 25 (.int .u64 a) (.int .u64 c)).run Tryz.prog w = .ok (a == c) w := run_equalIn_int w 9998 25 .u64 .u64 a c Tryz.underlying25
  have i2 : (Op.equalIn 9999 25 (.int .u64 b) (.int .u64 d)).run Tryz.prog w = .ok (b == d) w := run_equalIn_int w 9998 25 .u64 .u64 b d Tryz.underlying25
  have n1 : ("Hi" = "_") = False := by simp
  have n2 : ("Lo" = "_") = False := by simp
  have st : Tryz.prog.stoodInHeld 27 = false := by kernel_rfl
  rw [show (10000 : Nat) = 9999 + 1 from rfl]
  unfold Op.equalIn
  simp only [Sem.run_bind, run_underlying Tryz.underlying27, Result.andThen_ok]
  rw [show (Sem.run Tryz.prog program w) = .ok Tryz.prog w from rfl]
  simp only [Result.andThen_ok, st, Bool.false_eq_true, if_false]
  have fo : ∀ (l : List Field) (b : Field → (Option Bool × Unit) → Sem (ForInStep (Option Bool × Unit))), (forIn l.toArray (none, ()) b : Sem (Option Bool × Unit)) = forIn l (none, ()) b := fun l b => by simp
  simp only [fo, List.forIn_cons, List.forIn_nil, ne_eq, n1, n2, not_false_eq_true, if_true]
  unfold ebb
  obtain ⟨b1, h1⟩ : ∃ x, (a == c) = x := ⟨_, rfl⟩
  obtain ⟨b2, h2⟩ : ∃ x, (b == d) = x := ⟨_, rfl⟩
  rw [h1] at i1
  rw [h2] at i2
  rw [h1, h2]
  cases b1
  · simp only [Sem.run_bind, Sem.run_pure, Result.andThen_ok, q1, i1, Bool.not_false, if_true, Bool.false_and]
  cases b2
  · simp only [Sem.run_bind, Sem.run_pure, Result.andThen_ok, q1, i1, q2, i2, Bool.not_false, Bool.not_true, Bool.false_eq_true, if_false, if_true, Bool.false_and, Bool.true_and]
  · simp only [Sem.run_bind, Sem.run_pure, Result.andThen_ok, q1, i1, q2, i2, Bool.not_false, Bool.not_true, Bool.false_eq_true, if_false, if_true, Bool.false_and, Bool.true_and]
end Go.Proofs.YtpdehipeakcaiaaGreatDoor
namespace Go.Proofs.YtpdehipeakcaiaaGreatDoor
set_option maxRecDepth 100000
set_option maxHeartbeats 40000000
set_option maxRecDepth 100000
open Go.RowKit WMath XMath
set_option linter.unusedSimpArgs false
set_option linter.unusedVariables false
theorem od_shl (s : Nat) (h : s ≠ 0) : ∀ k, od (s * 2 ^ k) = od s ∧ tz (s * 2 ^ k) = tz s + k
  | 0 => by rw [Nat.pow_zero, Nat.mul_one]; exact ⟨rfl, rfl⟩
  | k + 1 => by
    obtain ⟨i1, i2⟩ := od_shl s h k
    have nz : s * 2 ^ k ≠ 0 := Nat.mul_ne_zero h (Nat.ne_of_gt (Nat.two_pow_pos k))
    obtain ⟨t1, t2⟩ := od_two (s * 2 ^ k) nz
    have e : s * 2 ^ (k + 1) = 2 * (s * 2 ^ k) := by rw [Nat.pow_succ, Nat.mul_comm 2, Nat.mul_assoc]
    rw [e, t1, t2, i1, i2]
    exact ⟨rfl, by omega⟩
def loM (k : Int) : Nat := if k = 0 then 2147483648 else if k = 2 then 9223372036854775808 else 0
def hiM (k : Int) : Nat := if k = 0 then 2147483647 else if k = 1 then 4294967295 else if k = 2 then 9223372036854775807 else 18446744073709551615
def rgW (k : Int) (neg : Bool) (N : Nat) : Nat :=
  if k = 0 ∨ k = 1 then sx (if neg then (18446744073709551616 - N % 18446744073709551616) % 18446744073709551616 else N % 18446744073709551616) 32
  else (if neg then (18446744073709551616 - N % 18446744073709551616) % 18446744073709551616 else N % 18446744073709551616)
theorem sx_low {x : Nat} (h : x < 2147483648) : sx x 32 = x := by
  unfold sx
  rw [show (32 - 1 : Nat) = 31 from rfl, Nat.testBit_lt_two_pow (by simpa using h)]
  simp
  omega
theorem sx_high {x : Nat} (h : 18446744071562067968 ≤ x) (h2 : x < 18446744073709551616) : sx x 32 = x := by
  unfold sx
  have : x.testBit (32 - 1) = true := by
    rw [Nat.testBit_eq_decide_div_mod_eq]
    simp
    omega
  rw [if_pos this]
  omega
theorem bel_so {P : Program} {k : FuncId} {a : Array Value} {w : World} {v : Value} (h : Calls P k a w fun r w' => r = .returned v ∧ w' = w) : Calls P k a w fun r w' => r = .returned v ∧ Below w.heap.size w w' := h.mono fun _ _ q => ⟨q.1, by rw [q.2]; exact Below.refl _ _⟩
theorem k4 {k : Int} (k0 : 0 ≤ k) (k3 : k ≤ 3) : k = 0 ∨ k = 1 ∨ k = 2 ∨ k = 3 := by omega
def nyW (k : Int) (x : Nat) : Nat := if k = 0 then sx x 32 else x
def nuX (k : Int) (x : Nat) : Bool × Nat :=
  if k = 1 then (false, x % 4294967296) else if k = 3 then (false, x)
  else if 9223372036854775808 ≤ nyW k x then (true, 18446744073709551616 - nyW k x) else (false, nyW k x)
def waW (k : Int) (x : Nat) : Nat := if k ≤ 1 then sx x 32 else x
def fiR (f k m : Int) (x : Nat) : Nat × Int := rnd f m (XMath.mk (nuX k x).1 (nuX k x).2 1 0).1
theorem sx_is (x : Nat) : sx x 32 = if x / 2147483648 % 2 = 1 then x % 4294967296 + 18446744069414584320 else x % 4294967296 := by
  unfold sx
  rw [Nat.testBit_eq_decide_div_mod_eq]
  rw [show (2 : Nat) ^ (32 - 1) = 2147483648 from rfl, show (2 : Nat) ^ 32 = 4294967296 from rfl]
  by_cases c : x / 2147483648 % 2 = 1
  · rw [if_pos c, if_pos (decide_eq_true c)]
  · rw [if_neg c, if_neg (by rw [decide_eq_false c]; decide)]
theorem nu_lim (k : Int) (x : Nat) (k0 : 0 ≤ k) (k3 : k ≤ 3) (hx : x < 18446744073709551616) :
    (nuX k x).2 < 18446744073709551616 ∧ ((nuX k x).1 = true → (nuX k x).2 ≠ 0 ∧ (nuX k x).2 ≤ loM k) ∧ ((nuX k x).1 = false → (nuX k x).2 ≤ hiM k) ∧ rgW k (nuX k x).1 (nuX k x).2 = waW k x ∧ (k ≤ 1 → (nuX k x).2 < 4294967296) := by
  rcases (by omega : k = 0 ∨ k = 1 ∨ k = 2 ∨ k = 3) with rfl | rfl | rfl | rfl
  · have e : nuX 0 x = if 9223372036854775808 ≤ sx x 32 then (true, 18446744073709551616 - sx x 32) else (false, sx x 32) := rfl
    have w : waW 0 x = sx x 32 := rfl
    have l : loM 0 = 2147483648 := rfl
    have g : hiM 0 = 2147483647 := rfl
    have s := sx_is x
    rw [e, w, l, g]
    by_cases c : x / 2147483648 % 2 = 1
    · rw [if_pos c] at s
      rw [if_pos (by omega)]
      refine ⟨by simp only; omega, fun _ => ⟨by simp only; omega, by simp only; omega⟩, fun q => absurd (show true = false from q) (by decide), ?_, fun _ => by simp only; omega⟩
      unfold rgW
      rw [if_pos (Or.inl rfl), if_pos rfl]
      simp only
      rw [show (18446744073709551616 - (18446744073709551616 - sx x 32) % 18446744073709551616) % 18446744073709551616 = sx x 32 by omega]
      exact sx_high (by omega) (by omega)
    · rw [if_neg c] at s
      rw [if_neg (by omega)]
      refine ⟨by simp only; omega, fun q => absurd (show false = true from q) (by decide), fun _ => by simp only; omega, ?_, fun _ => by simp only; omega⟩
      unfold rgW
      rw [if_pos (Or.inl rfl), if_neg (show ¬ (false = true) by decide)]
      simp only
      rw [show sx x 32 % 18446744073709551616 = sx x 32 by omega]
      exact sx_low (by omega)
  · have e : nuX 1 x = (false, x % 4294967296) := rfl
    have w : waW 1 x = sx x 32 := rfl
    have g : hiM 1 = 4294967295 := rfl
    rw [e, w, g]
    refine ⟨by simp only; omega, fun q => absurd (show false = true from q) (by decide), fun _ => by simp only; omega, ?_, fun _ => by simp only; omega⟩
    unfold rgW
    rw [if_pos (Or.inr rfl), if_neg (show ¬ (false = true) by decide)]
    simp only
    rw [sx_is, sx_is x, show x % 4294967296 % 18446744073709551616 = x % 4294967296 by omega, show x % 4294967296 / 2147483648 % 2 = x / 2147483648 % 2 by omega, Nat.mod_mod]
  · have e : nuX 2 x = if 9223372036854775808 ≤ x then (true, 18446744073709551616 - x) else (false, x) := rfl
    have w : waW 2 x = x := rfl
    have l : loM 2 = 9223372036854775808 := rfl
    have g : hiM 2 = 9223372036854775807 := rfl
    rw [e, w, l, g]
    by_cases c : 9223372036854775808 ≤ x
    · rw [if_pos c]
      refine ⟨by simp only; omega, fun _ => ⟨by simp only; omega, by simp only; omega⟩, fun q => absurd (show true = false from q) (by decide), ?_, fun q => absurd q (by decide)⟩
      unfold rgW
      rw [if_neg (by decide), if_pos rfl]
      simp only
      omega
    · rw [if_neg c]
      refine ⟨hx, fun q => absurd (show false = true from q) (by decide), fun _ => by simp only; omega, ?_, fun q => absurd q (by decide)⟩
      unfold rgW
      rw [if_neg (by decide), if_neg (show ¬ (false = true) by decide)]
      exact Nat.mod_eq_of_lt hx
  · have e : nuX 3 x = (false, x) := rfl
    have w : waW 3 x = x := rfl
    have g : hiM 3 = 18446744073709551615 := rfl
    rw [e, w, g]
    refine ⟨hx, fun q => absurd (show false = true from q) (by decide), fun _ => by simp only; omega, ?_, fun q => absurd q (by decide)⟩
    unfold rgW
    rw [if_neg (by decide), if_neg (show ¬ (false = true) by decide)]
    exact Nat.mod_eq_of_lt hx
theorem wh_num (b : Bool) (N : Nat) (n0 : N ≠ 0) (hN : N < 18446744073709551616) :
    (XMath.mk b N 1 0).1 = ⟨b, od N, 1, (tz N : Int)⟩ ∧ (XMath.mk b N 1 0).2 = 0 ∧ (XN.mk b (od N) 1 (tz N : Int)).can ∧ od N ≠ 0 ∧ nl (od N) ≤ 8192 ∧ topX ⟨b, od N, 1, (tz N : Int)⟩ = (blen N : Int) - 1 ∧ tz N ≤ 64 ∧ blen N ≤ 64 := by
  have bl : blen N ≤ 64 := (blen_iff N 64).2 hN
  obtain ⟨m, c, o, l, t, _⟩ := x_whole (f := 0) (Or.inl rfl) b N 0 n0 (by omega) (by decide) (by decide)
  rw [Int.zero_add] at m c t
  have tl := tz_blen N
  exact ⟨by rw [m], by rw [m], c, o, l, by omega, by omega, bl⟩
end Go.Proofs.YtpdehipeakcaiaaGreatDoor
namespace Go.Proofs.YtpdehipeakcaiaaGreatDoor
set_option maxRecDepth 100000
set_option maxHeartbeats 40000000
set_option maxRecDepth 100000
open Go.RowKit WMath
set_option linter.unusedSimpArgs false
set_option linter.unusedVariables false
set_option maxRecDepth 100000 in
set_option maxHeartbeats 8000000 in
theorem rnu_1 (x y : Nat) (w : World) (KF : Box (∀ w, Calls Tryz.prog 19 #[.int .u64 (x : Nat), .int .i64 0, .int .i64 32] w fun r w' => r = .returned (.int .u64 (y : Nat)) ∧ Below w.heap.size w w')) : Calls Tryz.prog 8 #[.int .u8 1, .int .u64 (x : Nat)] w fun r w' => r = .returned (.tuple #[.bool false, .int .u64 (y : Nat)]) ∧ Below w.heap.size w w' := by
  have B0 : Below w.heap.size w w := (Below.refl _ _)
  go_enter Tryz.func8, Tryz.ntmps8
  go_wp2_with fail
  refine (KF.out _).mono ?_
  rintro r w1 ⟨rfl, b1⟩
  have B1 : Below w.heap.size w w1 := btr B0 b1
  clear b1 B0 
  go_wp2
  go_ret2
  exact ⟨rfl, B1⟩
set_option maxRecDepth 100000 in
set_option maxHeartbeats 8000000 in
theorem rnu_3 (x : Nat) (w : World) : Calls Tryz.prog 8 #[.int .u8 3, .int .u64 (x : Nat)] w fun r w' => r = .returned (.tuple #[.bool false, .int .u64 (x : Nat)]) ∧ Below w.heap.size w w' := by
  have B0 : Below w.heap.size w w := (Below.refl _ _)
  go_enter Tryz.func8, Tryz.ntmps8
  go_wp2
  go_ret2
  exact ⟨rfl, B0⟩
set_option maxRecDepth 100000 in
set_option maxHeartbeats 8000000 in
theorem rnu_0t (x y : Nat) (hb : (((y : Nat) : Int) / 9223372036854775808 == 1) = true) (w : World) (KE : Box (∀ w, Calls Tryz.prog 18 #[.int .u64 (x : Nat), .int .i64 32] w fun r w' => r = .returned (.int .u64 (y : Nat)) ∧ Below w.heap.size w w')) : Calls Tryz.prog 8 #[.int .u8 0, .int .u64 (x : Nat)] w fun r w' => r = .returned (.tuple #[.bool true, .int .u64 (IntKind.u64.wrap (-((y : Nat) : Int)))]) ∧ Below w.heap.size w w' := by
  have B0 : Below w.heap.size w w := (Below.refl _ _)
  go_enter Tryz.func8, Tryz.ntmps8
  go_wp2_with fail
  refine (KE.out _).mono ?_
  rintro r w1 ⟨rfl, b1⟩
  have B1 : Below w.heap.size w w1 := btr B0 b1
  clear b1 B0 
  go_wp2
  go_ret2
  exact ⟨rfl, B1⟩
set_option maxRecDepth 100000 in
set_option maxHeartbeats 8000000 in
theorem rnu_2t (x : Nat) (hb : (((x : Nat) : Int) / 9223372036854775808 == 1) = true) (w : World) : Calls Tryz.prog 8 #[.int .u8 2, .int .u64 (x : Nat)] w fun r w' => r = .returned (.tuple #[.bool true, .int .u64 (IntKind.u64.wrap (-((x : Nat) : Int)))]) ∧ Below w.heap.size w w' := by
  have B0 : Below w.heap.size w w := (Below.refl _ _)
  go_enter Tryz.func8, Tryz.ntmps8
  go_wp2
  go_ret2
  exact ⟨rfl, B0⟩
set_option maxRecDepth 100000 in
set_option maxHeartbeats 8000000 in
theorem rnu_0f (x y : Nat) (hb : (((y : Nat) : Int) / 9223372036854775808 == 1) = false) (w : World) (KE : Box (∀ w, Calls Tryz.prog 18 #[.int .u64 (x : Nat), .int .i64 32] w fun r w' => r = .returned (.int .u64 (y : Nat)) ∧ Below w.heap.size w w')) : Calls Tryz.prog 8 #[.int .u8 0, .int .u64 (x : Nat)] w fun r w' => r = .returned (.tuple #[.bool false, .int .u64 ((y : Nat) : Int)]) ∧ Below w.heap.size w w' := by
  have B0 : Below w.heap.size w w := (Below.refl _ _)
  go_enter Tryz.func8, Tryz.ntmps8
  go_wp2_with fail
  refine (KE.out _).mono ?_
  rintro r w1 ⟨rfl, b1⟩
  have B1 : Below w.heap.size w w1 := btr B0 b1
  clear b1 B0 
  go_wp2
  go_ret2
  exact ⟨rfl, B1⟩
set_option maxRecDepth 100000 in
set_option maxHeartbeats 8000000 in
theorem rnu_2f (x : Nat) (hb : (((x : Nat) : Int) / 9223372036854775808 == 1) = false) (w : World) : Calls Tryz.prog 8 #[.int .u8 2, .int .u64 (x : Nat)] w fun r w' => r = .returned (.tuple #[.bool false, .int .u64 ((x : Nat) : Int)]) ∧ Below w.heap.size w w' := by
  have B0 : Below w.heap.size w w := (Below.refl _ _)
  go_enter Tryz.func8, Tryz.ntmps8
  go_wp2
  go_ret2
  exact ⟨rfl, B0⟩
set_option maxRecDepth 100000 in
set_option maxHeartbeats 8000000 in
theorem rfi_no1 (f k m : Int) (x : Nat)  (w : World) (KR : Box (∀ w, Calls Tryz.prog 11 #[.int .u8 f] w fun r w' => r = .returned (.bool false) ∧ Below w.heap.size w w')) : Calls Tryz.prog 5 #[.int .u8 f, .int .u8 k, .int .u8 m, .int .u64 (x : Nat)] w fun r w' => r = .returned (.tuple #[.agg #[.int .u64 0, .int .u64 0], .int .u8 0, .int .i64 2]) ∧ Below w.heap.size w w' := by
  obtain ⟨Rz_0, B0⟩ := opn1 w (Obj.cells #[.int .u64 0, .int .u64 0] 27)
  go_enter Tryz.func5, Tryz.ntmps5
  go_wp2_with fail
  refine (KR.out _).mono ?_
  rintro r w1 ⟨rfl, b1⟩
  have B1 : Below w.heap.size w w1 := btr B0 b1
  have Rz_1 := heap_of b1 _ _ _ Rz_0
  clear b1 B0 Rz_0
  obtain ⟨cz_1_0, cz_1_1⟩ := cells2s Rz_1
  have q0 := fz (k := 0) Rz_1
  have q1 := fz (k := 1) Rz_1
  obtain ⟨E0, E1⟩ := set2_cells Rz_1 (.int .u64 0) (.int .u64 0)
  go_wp2
  exact bodyPost_ret (v := .tuple #[.agg #[.int .u64 0, .int .u64 0], .int .u8 0, .int .i64 2]) (by simp [results, Tryz.results5, go_sem, E0, E1]) rfl ⟨rfl, set2_below B1 (by first | exact Nat.le_refl _ | omega | (skip; omega)) _ _⟩
set_option maxRecDepth 100000 in
set_option maxHeartbeats 8000000 in
theorem rfi_no2 (f k m : Int) (x : Nat) (hk : decide (3 < k) = true) (w : World) (KR : Box (∀ w, Calls Tryz.prog 11 #[.int .u8 f] w fun r w' => r = .returned (.bool true) ∧ Below w.heap.size w w')) : Calls Tryz.prog 5 #[.int .u8 f, .int .u8 k, .int .u8 m, .int .u64 (x : Nat)] w fun r w' => r = .returned (.tuple #[.agg #[.int .u64 0, .int .u64 0], .int .u8 0, .int .i64 2]) ∧ Below w.heap.size w w' := by
  obtain ⟨Rz_0, B0⟩ := opn1 w (Obj.cells #[.int .u64 0, .int .u64 0] 27)
  go_enter Tryz.func5, Tryz.ntmps5
  go_wp2_with fail
  refine (KR.out _).mono ?_
  rintro r w1 ⟨rfl, b1⟩
  have B1 : Below w.heap.size w w1 := btr B0 b1
  have Rz_1 := heap_of b1 _ _ _ Rz_0
  clear b1 B0 Rz_0
  obtain ⟨cz_1_0, cz_1_1⟩ := cells2s Rz_1
  have q0 := fz (k := 0) Rz_1
  have q1 := fz (k := 1) Rz_1
  obtain ⟨E0, E1⟩ := set2_cells Rz_1 (.int .u64 0) (.int .u64 0)
  go_wp2
  exact bodyPost_ret (v := .tuple #[.agg #[.int .u64 0, .int .u64 0], .int .u8 0, .int .i64 2]) (by simp [results, Tryz.results5, go_sem, E0, E1]) rfl ⟨rfl, set2_below B1 (by first | exact Nat.le_refl _ | omega | (skip; omega)) _ _⟩
set_option maxRecDepth 100000 in
set_option maxHeartbeats 8000000 in
theorem rfi_no3 (f k m : Int) (x : Nat) (hk : decide (3 < k) = false) (w : World) (KR : Box (∀ w, Calls Tryz.prog 11 #[.int .u8 f] w fun r w' => r = .returned (.bool true) ∧ Below w.heap.size w w')) (KM : Box (∀ w, Calls Tryz.prog 12 #[.int .u8 m] w fun r w' => r = .returned (.bool false) ∧ Below w.heap.size w w')) : Calls Tryz.prog 5 #[.int .u8 f, .int .u8 k, .int .u8 m, .int .u64 (x : Nat)] w fun r w' => r = .returned (.tuple #[.agg #[.int .u64 0, .int .u64 0], .int .u8 0, .int .i64 2]) ∧ Below w.heap.size w w' := by
  obtain ⟨Rz_0, B0⟩ := opn1 w (Obj.cells #[.int .u64 0, .int .u64 0] 27)
  go_enter Tryz.func5, Tryz.ntmps5
  go_wp2_with fail
  refine (KR.out _).mono ?_
  rintro r w1 ⟨rfl, b1⟩
  have B1 : Below w.heap.size w w1 := btr B0 b1
  have Rz_1 := heap_of b1 _ _ _ Rz_0
  clear b1 B0 Rz_0
  go_wp2_with fail
  refine (KM.out _).mono ?_
  rintro r w2 ⟨rfl, b2⟩
  have B2 : Below w.heap.size w w2 := btr B1 b2
  have Rz_2 := heap_of b2 _ _ _ Rz_1
  clear b2 B1 Rz_1
  obtain ⟨cz_2_0, cz_2_1⟩ := cells2s Rz_2
  have q0 := fz (k := 0) Rz_2
  have q1 := fz (k := 1) Rz_2
  obtain ⟨E0, E1⟩ := set2_cells Rz_2 (.int .u64 0) (.int .u64 0)
  go_wp2
  exact bodyPost_ret (v := .tuple #[.agg #[.int .u64 0, .int .u64 0], .int .u8 0, .int .i64 2]) (by simp [results, Tryz.results5, go_sem, E0, E1]) rfl ⟨rfl, set2_below B2 (by first | exact Nat.le_refl _ | omega | (skip; omega)) _ _⟩
set_option maxRecDepth 100000 in
set_option maxHeartbeats 8000000 in
theorem rfi_ok (f k m : Int) (x N u v : Nat) (neg b3 : Bool) (vo n3 d3 : ByteArray) (e3 e4 fl : Int) (hk : decide (3 < k) = false) (w : World) (KR : Box (∀ w, Calls Tryz.prog 11 #[.int .u8 f] w fun r w' => r = .returned (.bool true) ∧ Below w.heap.size w w')) (KM : Box (∀ w, Calls Tryz.prog 12 #[.int .u8 m] w fun r w' => r = .returned (.bool true) ∧ Below w.heap.size w w')) (KN : Box (∀ w, Calls Tryz.prog 8 #[.int .u8 k, .int .u64 (x : Nat)] w fun r w' => r = .returned (.tuple #[.bool neg, .int .u64 (N : Nat)]) ∧ Below w.heap.size w w')) (KO : Box (∀ w, Calls Tryz.prog 14 #[.int .u64 (N : Nat)] w fun r w' => r = .returned (.string vo) ∧ Below w.heap.size w w')) (KK : Box (∀ w, Calls Tryz.prog 13 #[.bool neg, .string vo, .string ⟨#[1]⟩, .int .i64 0] w fun r w' => r = .returned (.tuple #[.agg #[.bool b3, .string n3, .string d3, .int .i64 e3], .int .i64 e4]) ∧ Below w.heap.size w w')) (KD : Box (∀ w, Calls Tryz.prog 15 #[.int .u8 f, .int .u8 m, .agg #[.bool b3, .string n3, .string d3, .int .i64 e3]] w fun r w' => r = .returned (.tuple #[.agg #[.int .u64 (u : Nat), .int .u64 (v : Nat)], .int .u8 fl, .int .i64 0]) ∧ Below w.heap.size w w')) : Calls Tryz.prog 5 #[.int .u8 f, .int .u8 k, .int .u8 m, .int .u64 (x : Nat)] w fun r w' => r = .returned (.tuple #[.agg #[.int .u64 (u : Nat), .int .u64 (v : Nat)], .int .u8 fl, .int .i64 0]) ∧ Below w.heap.size w w' := by
  obtain ⟨Rz_0, B0⟩ := opn1 w (Obj.cells #[.int .u64 0, .int .u64 0] 27)
  go_enter Tryz.func5, Tryz.ntmps5
  go_wp2_with fail
  refine (KR.out _).mono ?_
  rintro r w1 ⟨rfl, b1⟩
  have B1 : Below w.heap.size w w1 := btr B0 b1
  have Rz_1 := heap_of b1 _ _ _ Rz_0
  clear b1 B0 Rz_0
  go_wp2_with fail
  refine (KM.out _).mono ?_
  rintro r w2 ⟨rfl, b2⟩
  have B2 : Below w.heap.size w w2 := btr B1 b2
  have Rz_2 := heap_of b2 _ _ _ Rz_1
  clear b2 B1 Rz_1
  go_wp2_with fail
  refine (KN.out _).mono ?_
  rintro r w3 ⟨rfl, b3⟩
  have B3 : Below w.heap.size w w3 := btr B2 b3
  have Rz_3 := heap_of b3 _ _ _ Rz_2
  clear b3 B2 Rz_2
  go_wp2_with fail
  refine (KO.out _).mono ?_
  rintro r w4 ⟨rfl, b4⟩
  have B4 : Below w.heap.size w w4 := btr B3 b4
  have Rz_4 := heap_of b4 _ _ _ Rz_3
  clear b4 B3 Rz_3
  go_wp2_with fail
  refine (KK.out _).mono ?_
  rintro r w5 ⟨rfl, b5⟩
  have B5 : Below w.heap.size w w5 := btr B4 b5
  have Rz_5 := heap_of b5 _ _ _ Rz_4
  clear b5 B4 Rz_4
  have S6 := box B5.size
  have Lz_6 : Box (w.heap.size < w5.heap.size) := box (Array.getElem?_eq_some_iff.1 Rz_5).1
  have Rxx_6 := heap_alloc_last w5 (Obj.cells #[.bool b3, .string n3, .string d3, .int .i64 e3] 50)
  have B6 := btr B5 (bal w5 (Obj.cells #[.bool b3, .string n3, .string d3, .int .i64 e3] 50))
  have Rz_6 := heap_of (bal w5 (Obj.cells #[.bool b3, .string n3, .string d3, .int .i64 e3] 50)) _ _ _ Rz_5
  clear B5 Rz_5
  obtain ⟨cxx_6_0, cxx_6_1, cxx_6_2, cxx_6_3⟩ := cells4s Rxx_6
  go_wp2_with fail
  refine (KD.out _).mono ?_
  rintro r w7 ⟨rfl, b7⟩
  have B7 : Below w.heap.size w w7 := btr B6 b7
  have Rz_7 := heap_of b7 _ _ _ Rz_6
  have Rxx_7 := heap_of b7 _ _ _ Rxx_6
  clear b7 B6 Rz_6 Rxx_6 cxx_6_0 cxx_6_1 cxx_6_2 cxx_6_3
  obtain ⟨cxx_7_0, cxx_7_1, cxx_7_2, cxx_7_3⟩ := cells4s Rxx_7
  obtain ⟨cz_7_0, cz_7_1⟩ := cells2s Rz_7
  have q0 := fz (k := 0) Rz_7
  have q1 := fz (k := 1) Rz_7
  obtain ⟨E0, E1⟩ := set2_cells Rz_7 (.int .u64 (u : Nat)) (.int .u64 (v : Nat))
  go_wp2
  exact bodyPost_ret (v := .tuple #[.agg #[.int .u64 (u : Nat), .int .u64 (v : Nat)], .int .u8 fl, .int .i64 0]) (by simp [results, Tryz.results5, go_sem, E0, E1]) rfl ⟨rfl, set2_below B7 (by first | exact Nat.le_refl _ | omega | (have := S6.out; have := Lz_6.out; omega)) _ _⟩
theorem ebb_si (a b : Int) : ebb a b a b = true := by unfold ebb; simp
set_option maxRecDepth 100000 in
set_option maxHeartbeats 8000000 in
theorem r20alive0 (K : Box (∀ w, FAt w → Calls Tryz.prog 4 #[.int .u8 2, .int .u8 0, .int .u8 0, .int .u64 18446744073709551615] w fun r w' => r = .returned (.tuple #[.agg #[.int .u64 0, .int .u64 48128], .int .u8 0, .int .i64 0]) ∧ Below w.heap.size w w')) (w : World) (hT : FAt w) : Calls Tryz.prog 7 #[] w fun r w' => r = .returned (.bool true) ∧ Below w.heap.size w w' := by
  have FF := box hT
  clear hT
  have B0 : Below w.heap.size w w := (Below.refl _ _)
  go_enter Tryz.func7, Tryz.ntmps7
  go_wp2_with fail
  refine (K.out _ (fatB FF.out B0)).mono ?_
  rintro r w1 ⟨rfl, b1⟩
  have B1 : Below w.heap.size w w1 := btr B0 b1
  clear b1 B0 
  have S2 := box B1.size
  have Rb_2 := heap_alloc_last w1 (Obj.cells #[.int .u64 0, .int .u64 48128] 27)
  have B2 := btr B1 (bal w1 (Obj.cells #[.int .u64 0, .int .u64 48128] 27))
  clear B1 
  obtain ⟨cb_2_0, cb_2_1⟩ := cells2s Rb_2
  go_wp2
  go_ret
  exact ⟨rfl, B2⟩
set_option maxRecDepth 100000 in
set_option maxHeartbeats 8000000 in
theorem fc_no (f k m : Int) (hk : decide (3 < k) = true) (x u v : Nat) (fl e : Int) (he : IntKind.i64.wrap e = e) (w : World) (K1 : Box (∀ w, FAt w → Calls Tryz.prog 4 #[.int .u8 f, .int .u8 k, .int .u8 m, .int .u64 (x : Nat)] w fun r w' => r = .returned (.tuple #[.agg #[.int .u64 (u : Nat), .int .u64 (v : Nat)], .int .u8 fl, .int .i64 e]) ∧ Below w.heap.size w w')) (R1 : Box (∀ w, Calls Tryz.prog 5 #[.int .u8 f, .int .u8 k, .int .u8 m, .int .u64 (x : Nat)] w fun r w' => r = .returned (.tuple #[.agg #[.int .u64 (u : Nat), .int .u64 (v : Nat)], .int .u8 fl, .int .i64 e]) ∧ Below w.heap.size w w')) (K2 : Box (∀ w, FAt w → Calls Tryz.prog 6 #[.int .u8 k, .int .u64 (x : Nat)] w fun r w' => r = .returned (.tuple #[.bool false, .int .u64 0, .int .i64 2]) ∧ Below w.heap.size w w')) (KA : Box (∀ w, FAt w → Calls Tryz.prog 7 #[] w fun r w' => r = .returned (.bool true) ∧ Below w.heap.size w w')) (hT : FAt w) : Calls Tryz.prog 3 #[.int .u8 f, .int .u8 k, .int .u8 m, .int .u64 (x : Nat)] w fun r w' => r = .returned (.bool true) ∧ Below w.heap.size w w' := by
  have FF := box hT
  clear hT
  have hE := eqb
  have e1 := ebb_si (u : Nat) (v : Nat)
  have B0 : Below w.heap.size w w := (Below.refl _ _)
  go_enter Tryz.func3, Tryz.ntmps3
  go_wp2_with fail
  refine (K1.out _ (fatB FF.out B0)).mono ?_
  rintro r w1 ⟨rfl, b1⟩
  have B1 : Below w.heap.size w w1 := btr B0 b1
  clear b1 B0 
  have S2 := box B1.size
  have Rb_2 := heap_alloc_last w1 (Obj.cells #[.int .u64 (u : Nat), .int .u64 (v : Nat)] 27)
  have B2 := btr B1 (bal w1 (Obj.cells #[.int .u64 (u : Nat), .int .u64 (v : Nat)] 27))
  clear B1 
  obtain ⟨cb_2_0, cb_2_1⟩ := cells2s Rb_2
  go_wp2_with fail
  refine (R1.out _).mono ?_
  rintro r w3 ⟨rfl, b3⟩
  have B3 : Below w.heap.size w w3 := btr B2 b3
  have Rb_3 := heap_of b3 _ _ _ Rb_2
  clear b3 B2 Rb_2 cb_2_0 cb_2_1
  obtain ⟨cb_3_0, cb_3_1⟩ := cells2s Rb_3
  have S4 := box B3.size
  have Lb_4 : Box (w1.heap.size < w3.heap.size) := box (Array.getElem?_eq_some_iff.1 Rb_3).1
  have Rc_4 := heap_alloc_last w3 (Obj.cells #[.int .u64 (u : Nat), .int .u64 (v : Nat)] 27)
  have B4 := btr B3 (bal w3 (Obj.cells #[.int .u64 (u : Nat), .int .u64 (v : Nat)] 27))
  have Rb_4 := heap_of (bal w3 (Obj.cells #[.int .u64 (u : Nat), .int .u64 (v : Nat)] 27)) _ _ _ Rb_3
  clear B3 Rb_3 cb_3_0 cb_3_1
  obtain ⟨cb_4_0, cb_4_1⟩ := cells2s Rb_4
  obtain ⟨cc_4_0, cc_4_1⟩ := cells2s Rc_4
  go_wp2_with fail
  refine (K2.out _ (fatB FF.out B4)).mono ?_
  rintro r w5 ⟨rfl, b5⟩
  have B5 : Below w.heap.size w w5 := btr B4 b5
  have Rb_5 := heap_of b5 _ _ _ Rb_4
  have Rc_5 := heap_of b5 _ _ _ Rc_4
  clear b5 B4 Rb_4 cb_4_0 cb_4_1 Rc_4 cc_4_0 cc_4_1
  obtain ⟨cb_5_0, cb_5_1⟩ := cells2s Rb_5
  obtain ⟨cc_5_0, cc_5_1⟩ := cells2s Rc_5
  go_wp2_with fail
  refine (KA.out _ (fatB FF.out B5)).mono ?_
  rintro r w6 ⟨rfl, b6⟩
  have B6 : Below w.heap.size w w6 := btr B5 b6
  have Rb_6 := heap_of b6 _ _ _ Rb_5
  have Rc_6 := heap_of b6 _ _ _ Rc_5
  clear b6 B5 Rb_5 cb_5_0 cb_5_1 Rc_5 cc_5_0 cc_5_1
  obtain ⟨cb_6_0, cb_6_1⟩ := cells2s Rb_6
  obtain ⟨cc_6_0, cc_6_1⟩ := cells2s Rc_6
  go_wp2
  go_ret
  exact ⟨rfl, B6⟩
set_option maxRecDepth 100000 in
set_option maxHeartbeats 8000000 in
theorem fc_yes (f k m : Int) (hk : decide (3 < k) = false) (x u v N : Nat) (neg : Bool) (fl e : Int) (he : IntKind.i64.wrap e = e) (w : World) (K1 : Box (∀ w, FAt w → Calls Tryz.prog 4 #[.int .u8 f, .int .u8 k, .int .u8 m, .int .u64 (x : Nat)] w fun r w' => r = .returned (.tuple #[.agg #[.int .u64 (u : Nat), .int .u64 (v : Nat)], .int .u8 fl, .int .i64 e]) ∧ Below w.heap.size w w')) (R1 : Box (∀ w, Calls Tryz.prog 5 #[.int .u8 f, .int .u8 k, .int .u8 m, .int .u64 (x : Nat)] w fun r w' => r = .returned (.tuple #[.agg #[.int .u64 (u : Nat), .int .u64 (v : Nat)], .int .u8 fl, .int .i64 e]) ∧ Below w.heap.size w w')) (K2 : Box (∀ w, FAt w → Calls Tryz.prog 6 #[.int .u8 k, .int .u64 (x : Nat)] w fun r w' => r = .returned (.tuple #[.bool neg, .int .u64 (N : Nat), .int .i64 0]) ∧ Below w.heap.size w w')) (R2 : Box (∀ w, Calls Tryz.prog 8 #[.int .u8 k, .int .u64 (x : Nat)] w fun r w' => r = .returned (.tuple #[.bool neg, .int .u64 (N : Nat)]) ∧ Below w.heap.size w w')) (KA : Box (∀ w, FAt w → Calls Tryz.prog 7 #[] w fun r w' => r = .returned (.bool true) ∧ Below w.heap.size w w')) (hT : FAt w) : Calls Tryz.prog 3 #[.int .u8 f, .int .u8 k, .int .u8 m, .int .u64 (x : Nat)] w fun r w' => r = .returned (.bool true) ∧ Below w.heap.size w w' := by
  have FF := box hT
  clear hT
  have hE := eqb
  have e1 := ebb_si (u : Nat) (v : Nat)
  have B0 : Below w.heap.size w w := (Below.refl _ _)
  go_enter Tryz.func3, Tryz.ntmps3
  go_wp2_with fail
  refine (K1.out _ (fatB FF.out B0)).mono ?_
  rintro r w1 ⟨rfl, b1⟩
  have B1 : Below w.heap.size w w1 := btr B0 b1
  clear b1 B0 
  have S2 := box B1.size
  have Rb_2 := heap_alloc_last w1 (Obj.cells #[.int .u64 (u : Nat), .int .u64 (v : Nat)] 27)
  have B2 := btr B1 (bal w1 (Obj.cells #[.int .u64 (u : Nat), .int .u64 (v : Nat)] 27))
  clear B1 
  obtain ⟨cb_2_0, cb_2_1⟩ := cells2s Rb_2
  go_wp2_with fail
  refine (R1.out _).mono ?_
  rintro r w3 ⟨rfl, b3⟩
  have B3 : Below w.heap.size w w3 := btr B2 b3
  have Rb_3 := heap_of b3 _ _ _ Rb_2
  clear b3 B2 Rb_2 cb_2_0 cb_2_1
  obtain ⟨cb_3_0, cb_3_1⟩ := cells2s Rb_3
  have S4 := box B3.size
  have Lb_4 : Box (w1.heap.size < w3.heap.size) := box (Array.getElem?_eq_some_iff.1 Rb_3).1
  have Rc_4 := heap_alloc_last w3 (Obj.cells #[.int .u64 (u : Nat), .int .u64 (v : Nat)] 27)
  have B4 := btr B3 (bal w3 (Obj.cells #[.int .u64 (u : Nat), .int .u64 (v : Nat)] 27))
  have Rb_4 := heap_of (bal w3 (Obj.cells #[.int .u64 (u : Nat), .int .u64 (v : Nat)] 27)) _ _ _ Rb_3
  clear B3 Rb_3 cb_3_0 cb_3_1
  obtain ⟨cb_4_0, cb_4_1⟩ := cells2s Rb_4
  obtain ⟨cc_4_0, cc_4_1⟩ := cells2s Rc_4
  go_wp2_with fail
  refine (K2.out _ (fatB FF.out B4)).mono ?_
  rintro r w5 ⟨rfl, b5⟩
  have B5 : Below w.heap.size w w5 := btr B4 b5
  have Rb_5 := heap_of b5 _ _ _ Rb_4
  have Rc_5 := heap_of b5 _ _ _ Rc_4
  clear b5 B4 Rb_4 cb_4_0 cb_4_1 Rc_4 cc_4_0 cc_4_1
  obtain ⟨cb_5_0, cb_5_1⟩ := cells2s Rb_5
  obtain ⟨cc_5_0, cc_5_1⟩ := cells2s Rc_5
  go_wp2_with fail
  refine (R2.out _).mono ?_
  rintro r w6 ⟨rfl, b6⟩
  have B6 : Below w.heap.size w w6 := btr B5 b6
  have Rb_6 := heap_of b6 _ _ _ Rb_5
  have Rc_6 := heap_of b6 _ _ _ Rc_5
  clear b6 B5 Rb_5 cb_5_0 cb_5_1 Rc_5 cc_5_0 cc_5_1
  obtain ⟨cb_6_0, cb_6_1⟩ := cells2s Rb_6
  obtain ⟨cc_6_0, cc_6_1⟩ := cells2s Rc_6
  go_wp2_with fail
  refine (KA.out _ (fatB FF.out B6)).mono ?_
  rintro r w7 ⟨rfl, b7⟩
  have B7 : Below w.heap.size w w7 := btr B6 b7
  have Rb_7 := heap_of b7 _ _ _ Rb_6
  have Rc_7 := heap_of b7 _ _ _ Rc_6
  clear b7 B6 Rb_6 cb_6_0 cb_6_1 Rc_6 cc_6_0 cc_6_1
  obtain ⟨cb_7_0, cb_7_1⟩ := cells2s Rb_7
  obtain ⟨cc_7_0, cc_7_1⟩ := cells2s Rc_7
  go_wp2
  go_ret
  exact ⟨rfl, B7⟩
end Go.Proofs.YtpdehipeakcaiaaGreatDoor
namespace Go.Proofs.YtpdehipeakcaiaaGreatDoor
set_option maxRecDepth 100000
set_option maxHeartbeats 40000000
set_option maxRecDepth 100000
open Go.RowKit WMath XMath
set_option linter.unusedSimpArgs false
set_option linter.unusedVariables false
theorem rNu_is (k : Int) (k0 : 0 ≤ k) (k3 : k ≤ 3) (x : Nat) (hx : x < 18446744073709551616) (neg : Bool) (N : Nat) (h : nuX k x = (neg, N)) (w : World) : Calls Tryz.prog 8 #[.int .u8 k, .int .u64 (x : Nat)] w fun r w' => r = .returned (.tuple #[.bool neg, .int .u64 (N : Nat)]) ∧ Below w.heap.size w w' := by
  have E := box (fun w => bel_so (rextend_any x 32 hx w))
  rw [show ext 32 = 32 from by decide] at E
  have sl : sx x 32 < 18446744073709551616 := by have := sx_is x; split at this <;> omega
  have b1 : ∀ y : Nat, y < 18446744073709551616 → 9223372036854775808 ≤ y → (((y : Nat) : Int) / 9223372036854775808 == 1) = true := fun y h1 h2 => beq_iff_eq.2 (by omega)
  have b0 : ∀ y : Nat, ¬ 9223372036854775808 ≤ y → (((y : Nat) : Int) / 9223372036854775808 == 1) = false := fun y h2 => beq_eq_false_iff_ne.2 (by omega)
  have ng : ∀ y : Nat, y < 18446744073709551616 → 9223372036854775808 ≤ y → IntKind.u64.wrap (-((y : Nat) : Int)) = ((18446744073709551616 - y : Nat) : Int) := by
    intro y h1 h2
    rw [show ∀ z : Int, IntKind.u64.wrap z = z % 18446744073709551616 from fun _ => rfl]
    omega
  rcases (by omega : k = 0 ∨ k = 1 ∨ k = 2 ∨ k = 3) with rfl | rfl | rfl | rfl
  · have e : nuX 0 x = if 9223372036854775808 ≤ sx x 32 then (true, 18446744073709551616 - sx x 32) else (false, sx x 32) := rfl
    rw [e] at h
    by_cases c : 9223372036854775808 ≤ sx x 32
    · rw [if_pos c] at h
      cases h
      rw [← ng _ sl c]
      exact rnu_0t x _ (b1 _ sl c) w E
    · rw [if_neg c] at h
      cases h
      exact rnu_0f x _ (b0 _ c) w E
  · have e : nuX 1 x = (false, x % 4294967296) := rfl
    rw [e] at h
    cases h
    have F := box (fun w => bel_so (rfield_any x 0 32 hx w))
    rw [show x / 2 ^ cnt 0 % 2 ^ cnt 32 = x % 4294967296 by rw [show cnt 0 = 0 by decide, show cnt 32 = 32 by decide, Nat.pow_zero, Nat.div_one]] at F
    exact rnu_1 x _ w F
  · have e : nuX 2 x = if 9223372036854775808 ≤ x then (true, 18446744073709551616 - x) else (false, x) := rfl
    rw [e] at h
    by_cases c : 9223372036854775808 ≤ x
    · rw [if_pos c] at h
      cases h
      rw [← ng _ hx c]
      exact rnu_2t x (b1 _ hx c) w
    · rw [if_neg c] at h
      cases h
      exact rnu_2f _ (b0 _ c) w
  · have e : nuX 3 x = (false, x) := rfl
    rw [e] at h
    cases h
    exact rnu_3 _ w
theorem rFi_no (f k m : Int) (h0 : 0 ≤ f) (x : Nat) (no : ¬ (f ≤ 3 ∧ k ≤ 3 ∧ m ≤ 4)) (w : World) : Calls Tryz.prog 5 #[.int .u8 f, .int .u8 k, .int .u8 m, .int .u64 (x : Nat)] w fun r w' => r = .returned (.tuple #[.agg #[.int .u64 0, .int .u64 0], .int .u8 0, .int .i64 2]) ∧ Below w.heap.size w w' := by
  by_cases cf : f ≤ 3
  · have R := box (fun w => bel_so (r_right f true (decide_eq_true cf) w))
    by_cases ck : k ≤ 3
    · exact rfi_no3 f k m x (decide_eq_false (by omega)) w R (box (fun w => bel_so (r_mode m false (decide_eq_false (fun q => no ⟨cf, ck, q⟩)) w)))
    · exact rfi_no2 f k m x (decide_eq_true (by omega)) w R
  · exact rfi_no1 f k m x w (box (fun w => bel_so (r_right f false (decide_eq_false cf) w)))
theorem rFi_is (f k m : Int) (hf : Is4 f) (k0 : 0 ≤ k) (k3 : k ≤ 3) (m0 : 0 ≤ m) (m4 : m ≤ 4) (x : Nat) (hx : x < 18446744073709551616) (M : Nat) (fl : Int) (h : fiR f k m x = (M, fl)) (u v : Nat) (hv : bv7 M = (u, v)) (w : World) : Calls Tryz.prog 5 #[.int .u8 f, .int .u8 k, .int .u8 m, .int .u64 (x : Nat)] w fun r w' => r = .returned (.tuple #[.agg #[.int .u64 (u : Nat), .int .u64 (v : Nat)], .int .u8 fl, .int .i64 0]) ∧ Below w.heap.size w w' := by
  obtain ⟨neg, N, hN⟩ : ∃ a b, nuX k x = (a, b) := ⟨_, _, rfl⟩
  obtain ⟨n1, _⟩ := nu_lim k x k0 k3 hx
  rw [hN] at n1
  unfold fiR at h
  rw [hN] at h
  dsimp only at h n1
  have main : ∃ (b : Bool) (n d : Nat) (e : Int), XMath.mk neg N 1 0 = (⟨b, n, d, e⟩, 0) ∧ (XN.mk b n d e).can ∧ nl n ≤ 8192 ∧ nl d ≤ 8192 := by
    by_cases z : N = 0
    · refine ⟨false, 0, 1, 0, by rw [z, mk_null]; rfl, x0_can, by decide, by decide⟩
    · obtain ⟨e1, e2, c, o, l, _⟩ := wh_num neg N z n1
      exact ⟨neg, od N, 1, (tz N : Int), Prod.ext e1 e2, c, l, by decide⟩
  obtain ⟨b, n, d, e, hm, hc, ln, ld⟩ := main
  rw [hm] at h
  have nlN : nl N ≤ 16384 := by
    have := (blen_iff N 64).2 n1
    unfold nl
    omega
  exact rfi_ok f k m x N u v neg b _ _ _ e 0 fl (decide_eq_false (by omega)) w
    (box (fun w => bel_so (r_right f true (decide_eq_true (by rcases hf with rfl | rfl | rfl | rfl <;> decide)) w)))
    (box (fun w => bel_so (r_mode m true (decide_eq_true m4) w)))
    (box (fun w => rNu_is k k0 k3 x hx neg N hN w))
    (box (fun w => nat_Of N _ n1 rfl w))
    (box (fun w => rmake_ok neg N 1 0 _ _ b n d e 0 _ _ rfl nb1 nlN (by decide) (by decide) (by decide) (by decide) hm rfl rfl w))
    (box (fun w => rRound_is0 f m hf ⟨m0, m4⟩ b n d _ _ e rfl rfl hc ln ld M fl h u v hv w))
theorem froms_all (f k m : Int) (h0 : 0 ≤ f) (k0 : 0 ≤ k) (m0 : 0 ≤ m) (x : Nat) (hx : x < 18446744073709551616)
    (C1 : f ≤ 3 → k ≤ 3 → m ≤ 4 → ∀ (M : Nat) (fl : Int), fiR f k m x = (M, fl) → ∀ u v : Nat, bv7 M = (u, v) → Box (∀ w, FAt w → Calls Tryz.prog 4 #[.int .u8 f, .int .u8 k, .int .u8 m, .int .u64 (x : Nat)] w fun r w' => r = .returned (.tuple #[.agg #[.int .u64 (u : Nat), .int .u64 (v : Nat)], .int .u8 fl, .int .i64 0]) ∧ Below w.heap.size w w')) (C0 : ¬ (f ≤ 3 ∧ k ≤ 3 ∧ m ≤ 4) → Box (∀ w, FAt w → Calls Tryz.prog 4 #[.int .u8 f, .int .u8 k, .int .u8 m, .int .u64 (x : Nat)] w fun r w' => r = .returned (.tuple #[.agg #[.int .u64 ((0 : Nat) : Int), .int .u64 ((0 : Nat) : Int)], .int .u8 0, .int .i64 2]) ∧ Below w.heap.size w w')) (N1 : k ≤ 3 → ∀ (neg : Bool) (N : Nat), nuX k x = (neg, N) → Box (∀ w, FAt w → Calls Tryz.prog 6 #[.int .u8 k, .int .u64 (x : Nat)] w fun r w' => r = .returned (.tuple #[.bool neg, .int .u64 (N : Nat), .int .i64 0]) ∧ Below w.heap.size w w')) (N0 : ¬ k ≤ 3 → Box (∀ w, FAt w → Calls Tryz.prog 6 #[.int .u8 k, .int .u64 (x : Nat)] w fun r w' => r = .returned (.tuple #[.bool false, .int .u64 0, .int .i64 2]) ∧ Below w.heap.size w w')) (KA : Box (∀ w, FAt w → Calls Tryz.prog 7 #[] w fun r w' => r = .returned (.bool true) ∧ Below w.heap.size w w'))
    (w : World) (hT : FAt w) : Calls Tryz.prog 3 #[.int .u8 f, .int .u8 k, .int .u8 m, .int .u64 (x : Nat)] w fun r w' => r = .returned (.bool true) ∧ Below w.heap.size w w' := by
  have CC : ∃ (u v : Nat) (fl e : Int), IntKind.i64.wrap e = e ∧ Box (∀ w, FAt w → Calls Tryz.prog 4 #[.int .u8 f, .int .u8 k, .int .u8 m, .int .u64 (x : Nat)] w fun r w' => r = .returned (.tuple #[.agg #[.int .u64 (u : Nat), .int .u64 (v : Nat)], .int .u8 fl, .int .i64 e]) ∧ Below w.heap.size w w') ∧ Box (∀ w, Calls Tryz.prog 5 #[.int .u8 f, .int .u8 k, .int .u8 m, .int .u64 (x : Nat)] w fun r w' => r = .returned (.tuple #[.agg #[.int .u64 (u : Nat), .int .u64 (v : Nat)], .int .u8 fl, .int .i64 e]) ∧ Below w.heap.size w w') := by
    by_cases c : f ≤ 3 ∧ k ≤ 3 ∧ m ≤ 4
    · obtain ⟨M, fl, h⟩ : ∃ M fl, fiR f k m x = (M, fl) := ⟨_, _, rfl⟩
      obtain ⟨u, v, hv⟩ : ∃ u v, bv7 M = (u, v) := ⟨_, _, rfl⟩
      exact ⟨u, v, fl, 0, by decide, C1 c.1 c.2.1 c.2.2 M fl h u v hv, box (fun w => rFi_is f k m (is4_of h0 c.1) k0 c.2.1 m0 c.2.2 x hx M fl h u v hv w)⟩
    · exact ⟨0, 0, 0, 2, by decide, C0 c, box (fun w => rFi_no f k m h0 x c w)⟩
  obtain ⟨u, v, fl, e, he, c1, c2⟩ := CC
  by_cases ck : k ≤ 3
  · obtain ⟨neg, N, hN⟩ : ∃ a b, nuX k x = (a, b) := ⟨_, _, rfl⟩
    exact fc_yes f k m (decide_eq_false (by omega)) x u v N neg fl e he w c1 c2 (N1 ck neg N hN) (box (fun w => rNu_is k k0 ck x hx neg N hN w)) KA hT
  · exact fc_no f k m (decide_eq_true (by omega)) x u v fl e he w c1 c2 (N0 ck) KA hT
theorem al20 : fiR 2 0 0 18446744073709551615 = (48128, 0) := by
  have hf : Is4 2 := Or.inr (Or.inr (Or.inl rfl))
  have e : nuX 0 18446744073709551615 = (true, 1) := by decide +kernel
  obtain ⟨m, _⟩ := wh_num true 1 (by decide) (by decide)
  have r := rnd_own hf 0 true 15 0 (by decide +kernel) (by decide +kernel) (by decide +kernel)
  have s1 : sV 2 15 0 = 1 * 2 ^ 10 := by decide +kernel
  have x1 : xV 2 15 = -10 := by decide +kernel
  obtain ⟨o1, o2⟩ := od_shl 1 (by decide) 10
  rw [s1, x1, o1, o2] at r
  unfold fiR
  rw [e, m]
  have t1 : od 1 = 1 ∧ tz 1 = 0 := ⟨od_odd 1 rfl, tz_odd 1 rfl⟩
  rw [t1.1, t1.2] at r ⊢
  refine Eq.trans ?_ (r.trans (by decide +kernel))
  rfl
end Go.Proofs.YtpdehipeakcaiaaGreatDoor
