/-
  What the functions that the statement reaches return: part 24 (R24, R22, R23, SL, VL).
-/
import Derived.Test.YtbmhfcppaajgbaaGreatDoorRows
import Derived.OpenShut
import Derived.LaidMore
import Derived.Lib.LaidTab
import Derived.Stop.Joined
import Derived.Stop.LaidErr
import Derived.Test.YtbmhfcppaajgbaaGreatDoorRf23
namespace Go.Proofs.YtbmhfcppaajgbaaGreatDoor
set_option maxRecDepth 100000
open Go.RowKit WMath XMath
set_option linter.unusedSimpArgs false
set_option linter.unusedVariables false

/-- What find is asked of: a number. -/
def Fnd0 (f : Int) (x : XN) (T : Int) (W : Nat) (more : Bool) : Prop := T = topX x ∧ ∀ k : Nat, T - fP f + (k : Int) ≤ 2000000 → flX x (T - fP f + (k : Int)) = ((W / 2 ^ k, !more && decide (W % 2 ^ k = 0)), 0)
theorem fnd_x0 {f : Int} (hf : Is4 f) {x : XN} (hx : x.can) (n0 : x.n ≠ 0) (hd : nl x.d ≤ 8192) : Wok f (xW f x) ∧ Fnd0 f x (topX x) (xW f x) (xM f x) := by
  obtain ⟨t1, t2⟩ := top_lim hx
  obtain ⟨a, b⟩ := x_num hf x hx n0 hd t1 t2
  exact ⟨a, rfl, b⟩
theorem rfind0 (f : Int) (hf : Is4 f) (b : Bool) (n d : Nat) (s t : ByteArray) (e : Int) (hs : nbA n = s) (ht : nbA d = t) (hc : (XN.mk b n d e).can) (T : Int) (t1 : -1300000 ≤ T) (t2 : T ≤ 1300000) (W : Nat) (more : Bool) (lw : nl W ≤ 8192) (hF : Fnd0 f ⟨b, n, d, e⟩ T W more) (k : Nat) (A : Int) (hA : T - fP f + 1 + (k : Int) = A) (hA2 : A ≤ 900000) (M : ByteArray) (hM : nbA (rS W k) = M) (w : World) :
    Calls Tryz.prog 157 #[.agg #[.bool b, .string s, .string t, .int .i64 e], .bool false, .int .i64 A] w fun r w' => r = .returned (.agg #[.string M, .int .i64 A, .int .i64 (hfV (rH W k) (rM W k more)), .bool (!(rH W k || rM W k more))]) ∧ Below w.heap.size w w' := by
  have p := fp8 hf
  have n4 := (nm8 hf).2.2.2.1
  have d1 : nl (W / 2 ^ k) ≤ 8192 := Nat.le_trans (nl_mono _ _ (Nat.div_le_self _ _)) lw
  have KL : Box (∀ w, Calls Tryz.prog 232 #[.string (nbA (W / 2 ^ k))] w fun r w' => r = .returned (.bool (rH W k)) ∧ Below w.heap.size w w') := box (fun w => rf_last _ _ _ rfl (by omega) (last_is W k) w)
  obtain ⟨hTx, hF⟩ := hF
  have F1 := hF (k + 1) (by omega)
  have F2 := hF k (by omega)
  rw [cut_two, ex_is, show T - fP f + ((k + 1 : Nat) : Int) = A by omega] at F1
  rw [wh_is] at F2
  have K1 : Box (∀ w, Calls Tryz.prog 231 #[.agg #[.bool b, .string s, .string t, .int .i64 e], .int .i64 A] w fun r w' => r = .returned (.tuple #[.string M, .bool (!(rH W k || rM W k more)), .int .i64 0]) ∧ Below w.heap.size w w') := box (fun w => rFloor_ok b n d e s t A _ _ 0 M hs ht hc (by omega) (by omega) F1 hM w)
  have K2 : Box (∀ w, Calls Tryz.prog 231 #[.agg #[.bool b, .string s, .string t, .int .i64 e], .int .i64 (T - fP f + (k : Int))] w fun r w' => r = .returned (.tuple #[.string (nbA (W / 2 ^ k)), .bool (!rM W k more), .int .i64 0]) ∧ Below w.heap.size w w') := box (fun w => rFloor_ok b n d e s t _ _ _ 0 _ hs ht hc (by omega) (by omega) F2 rfl w)
  have a1 : IntKind.i64.wrap (A - 1) = T - fP f + (k : Int) := by rw [wrap_i64_is _ (by omega) (by omega)]; omega
  generalize rH W k = H at *
  generalize rM W k more = R at *
  cases H <;> cases R
  · exact rf_find_ex b s t e A A A 0 0 M M M M M M w K1
  · exact rf_find_lo1 b s t e A _ A 0 0 M M _ M M M w K1 K2 KL a1
  · exact rf_find_half b s t e A _ A 0 0 M M _ M M M w K1 K2 KL a1
  · exact rf_find_hi b s t e A _ A 0 0 M M _ M M M w K1 K2 KL a1
theorem rtop0 (f : Int) (b : Bool) (n d : Nat) (s t : ByteArray) (e : Int) (hs : nbA n = s) (ht : nbA d = t) (hc : (XN.mk b n d e).can) (n0 : n ≠ 0) (T : Int) (W : Nat) (more : Bool) (hF : Fnd0 f ⟨b, n, d, e⟩ T W more) (w : World) : Calls Tryz.prog 155 #[.agg #[.bool b, .string s, .string t, .int .i64 e], .bool false] w fun r w' => r = .returned (.int .i64 T) ∧ Below w.heap.size w w' := by
  obtain ⟨t1, t2⟩ := top_lim hc
  exact rf_top b s t e T 0 w (box (fun w => rTop_ok b n d e s t T hs ht n0 hc hF.1.symm w))
theorem rtiny0 (f m : Int) (hf : Is4 f) (hm : 0 ≤ m ∧ m ≤ 4) (b : Bool) (n d : Nat) (s t : ByteArray) (e : Int) (hs : nbA n = s) (ht : nbA d = t) (hc : (XN.mk b n d e).can) (n0 : n ≠ 0) (T : Int) (t1 : -1300000 ≤ T) (t2 : T ≤ 1300000) (W : Nat) (more : Bool) (hW : Wok f W) (hF : Fnd0 f ⟨b, n, d, e⟩ T W more) (o : Bool) (ho : tnB f m b T W more = o) (w : World) :
    Calls Tryz.prog 73 #[.int .u8 f, .int .u8 m, .agg #[.bool b, .string s, .string t, .int .i64 e], .bool false] w fun r w' => r = .returned (.bool o) ∧ Below w.heap.size w w' := by
  have p := fp8 hf
  obtain ⟨n1, n2, n3, n4, n5, n6⟩ := nm8 hf
  have KT : Box (∀ w, Calls Tryz.prog 155 #[.agg #[.bool b, .string s, .string t, .int .i64 e], .bool false] w fun r w' => r = .returned (.int .i64 T) ∧ Below w.heap.size w w') := box (fun w => rtop0 f b n d s t e hs ht hc n0 T W more hF w)
  have KI : Box (∀ w, Calls Tryz.prog 123 #[.int .u8 f] w fun r w' => r = .returned (.int .i64 (1 - fE f)) ∧ Below w.heap.size w w') := box (fun w => r_emin_b f hf w)
  have i1 : IntKind.i64.wrap (1 - fE f - 1) = 1 - fE f - 1 := wrap_i64_is _ (by omega) (by omega)
  by_cases c1 : 1 - fE f ≤ T
  · rw [tn_hi hf hW m b T more c1] at ho
    subst ho
    exact rf_tiny_hi f m b s t e false T _ 0 0 0 0 0 s s false false 0 w KT KI (decide_eq_true c1)
  by_cases c2 : T < 1 - fE f - 1
  · rw [tn_lo hf hW m b T more c2] at ho
    subst ho
    exact rf_tiny_lo f m b s t e false T _ _ 0 0 0 0 s s false false 0 w KT KI (decide_eq_false c1) i1 (decide_eq_true c2)
  · rw [tn_mid hf m b T more (by omega)] at ho
    have lim := (rG_lim hW m b 0 more).1
    exact rf_tiny_mid f m b s t e false T _ _ (fP f) (T - fP f) (T - fP f + 1) _ (nbA (rS W 0)) (nbA (rG m b W 0 more)) _ o _ w KT KI (box (fun w => r_prec_b f hf w))
      (box (fun w => rfind0 f hf b n d s t e hs ht hc T t1 t2 W more (nl_W hf hW) hF 0 _ (by omega) (by omega) _ rfl w))
      (box (fun w => rtaken m hm b W 0 more (nl_W hf hW) _ _ _ rfl rfl w))
      (box (fun w => bel_same (nat_Len _ _ _ rfl (nl_small hf _ lim) rfl w))) (decide_eq_false c1) i1 (decide_eq_false c2) (wrap_i64_is _ (by omega) (by omega)) (wrap_i64_is _ (by omega) (by omega)) ho
theorem rdeliver0 (f m : Int) (hf : Is4 f) (hm : 0 ≤ m ∧ m ≤ 4) (b : Bool) (n d : Nat) (s t : ByteArray) (e : Int) (hs : nbA n = s) (ht : nbA d = t) (hc : (XN.mk b n d e).can) (n0 : n ≠ 0) (T : Int) (t1 : -1300000 ≤ T) (t2 : T ≤ 1300000) (W : Nat) (more : Bool) (hW : Wok f W) (hF : Fnd0 f ⟨b, n, d, e⟩ T W more) (M : Nat) (fl : Int) (hd : dlv f m b T W more = (M, fl)) (u v : Nat) (hv : bv7 M = (u, v)) (w : World) :
    Calls Tryz.prog 69 #[.int .u8 f, .int .u8 m, .agg #[.bool b, .string s, .string t, .int .i64 e], .bool false] w fun r w' => r = .returned (.tuple #[.agg #[.int .u64 (u : Nat), .int .u64 (v : Nat)], .int .u8 fl]) ∧ Below w.heap.size w w' := by
  have p := fp8 hf
  obtain ⟨n1, n2, n3, n4, n5, n6⟩ := nm8 hf
  have KT : Box (∀ w, Calls Tryz.prog 155 #[.agg #[.bool b, .string s, .string t, .int .i64 e], .bool false] w fun r w' => r = .returned (.int .i64 T) ∧ Below w.heap.size w w') := box (fun w => rtop0 f b n d s t e hs ht hc n0 T W more hF w)
  have KP : Box (∀ w, Calls Tryz.prog 106 #[.int .u8 f] w fun r w' => r = .returned (.int .i64 (fP f)) ∧ Below w.heap.size w w') := box (fun w => r_prec_b f hf w)
  have KE : Box (∀ w, Calls Tryz.prog 127 #[.int .u8 f] w fun r w' => r = .returned (.int .i64 (fE f)) ∧ Below w.heap.size w w') := box (fun w => r_emax_b f hf w)
  have KI : Box (∀ w, Calls Tryz.prog 123 #[.int .u8 f] w fun r w' => r = .returned (.int .i64 (1 - fE f)) ∧ Below w.heap.size w w') := box (fun w => r_emin_b f hf w)
  by_cases c0 : fE f < T
  · rw [dlv_over hf hW m b T more c0] at hd
    injection hd with a1 a2
    subst a1 a2
    exact rf_del_over f m b s t e false T _ _ 0 0 0 0 0 s s false false s s 0 0 u v false w KT KP KE (box (fun w => rover f m hf hm b u v hv w)) (decide_eq_true c0)
  have lim := rG_lim hW m b (dK f T) more
  have sl := nl_W hf hW
  have kk : stE f T - T = (dK f T : Int) := by unfold dK stE; omega
  have stx := st_lx hf T
  obtain ⟨S, hS⟩ : ∃ S, rG m b W (dK f T) more = S := ⟨_, rfl⟩
  have nlim := null_lim hf hW m b (dK f T) more
  have kb : dK f T ≤ 1400000 := by unfold dK stE; omega
  have jb : dJ f T ≤ 40000 := by unfold dJ stE; omega
  unfold dlv at hd
  rw [hS] at hd lim nlim
  have hj : dJ f T = 0 ∨ 2 ^ pV f ≤ S := by
    rcases jk (f := f) T with ⟨a, _⟩ | ⟨a, _⟩
    · exact Or.inl a
    · exact Or.inr (lim.2.1 a)
  obtain ⟨x, hx, xc, xz⟩ : ∃ x : XN, XMath.mk b S 1 (lx f + (dJ f T : Int)) = (x, 0) ∧ x.can ∧ (x.n = 0 ↔ S = 0) := by
    by_cases s0 : S = 0
    · subst s0
      exact ⟨X0, mk_null _ _ _, x0_can, by decide⟩
    · obtain ⟨a, c, d, _⟩ := mk_small hf b (dJ f T) S s0 lim.1 jb
      exact ⟨_, a, c, ⟨fun h => absurd h d, fun h => absurd h s0⟩⟩
  obtain ⟨xb, xn, xd, xe⟩ := x
  obtain ⟨i, j, ok, hij, hok1, hok2, hok3⟩ : ∃ i j ok, (S ≠ 0 → ∃ Mx, ofX f ⟨xb, xn, xd, xe⟩ = (Mx, ok) ∧ bv7 Mx = (i, j)) ∧ (ok = true → i = u ∧ j = v) ∧ (ok = true → ¬ fE f < stE f T - fP f + (blen S : Int)) ∧ (ok = false → fE f < stE f T - fP f + (blen S : Int)) := by
    by_cases s0 : S = 0
    · have b0 : blen S = 0 := by rw [s0]; decide
      exact ⟨u, v, true, fun h => absurd s0 h, fun _ => ⟨rfl, rfl⟩, fun _ => by rw [b0]; unfold stE; omega, fun h => Bool.noConfusion h⟩
    · obtain ⟨a, c, dd, tp⟩ := mk_small hf b (dJ f T) S s0 lim.1 jb
      rw [hx] at a
      injection a with a1 a2
      by_cases ov : fE f < stE f T - fP f + (blen S : Int)
      · exact ⟨0, 0, false, fun _ => ⟨0, by rw [a1]; exact of_over hf b (dJ f T) S s0 lim.1 jb (by omega), rfl⟩, fun h => Bool.noConfusion h, fun h => Bool.noConfusion h, fun _ => ov⟩
      · have hd2 := hd
        rw [if_neg ov] at hd2
        injection hd2 with h1 h2
        exact ⟨u, v, true, fun _ => ⟨M, by rw [a1, ← h1]; exact of_rep hf b (dJ f T) S s0 lim.1 hj (by omega), hv⟩, fun _ => ⟨rfl, rfl⟩, fun _ => ov, fun h => Bool.noConfusion h⟩
  have b0 : S = 0 → blen S = 0 := fun h => by rw [h]; decide
  have nul0 : S = 0 → M = eZero f b ∧ fl = 3 := fun s0 => by
    obtain ⟨k3, kl⟩ := nlim s0
    have hj0 : dJ f T = 0 := by have := Nat.two_pow_pos (pV f); omega
    rw [if_neg (by rw [b0 s0]; unfold stE; omega)] at hd
    injection hd with h1 h2
    rw [if_pos kl, if_pos (tn_lo hf hW m b T more (by rcases jk (f := f) T with ⟨_, q⟩ | ⟨q, _⟩ <;> omega))] at h2
    refine ⟨?_, h2.symm⟩
    rw [← h1, hj0, s0]
    unfold eS eZero enc7
    rfl
  have KF : ∀ A0, A0 = stE f T → Box (∀ w, Calls Tryz.prog 157 #[.agg #[.bool b, .string s, .string t, .int .i64 e], .bool false, .int .i64 (A0 - fP f + 1)] w fun r w' => r = .returned (.agg #[.string (nbA (rS W (dK f T))), .int .i64 (A0 - fP f + 1), .int .i64 (hfV (rH W (dK f T)) (rM W (dK f T) more)), .bool (!(rH W (dK f T) || rM W (dK f T) more))]) ∧ Below w.heap.size w w') := fun A0 h0 => box (fun w => rfind0 f hf b n d s t e hs ht hc T t1 t2 W more sl hF (dK f T) _ (by omega) (by rw [h0]; unfold stE; omega) _ rfl w)
  have KK : ∀ A, Box (∀ w, Calls Tryz.prog 158 #[.int .u8 m, .bool b, .agg #[.string (nbA (rS W (dK f T))), .int .i64 A, .int .i64 (hfV (rH W (dK f T)) (rM W (dK f T) more)), .bool (!(rH W (dK f T) || rM W (dK f T) more))]] w fun r w' => r = .returned (.string (nbA S)) ∧ Below w.heap.size w w') := fun A => box (fun w => rtaken m hm b W (dK f T) more sl A _ _ rfl (by rw [hS]) w)
  have KM : ∀ A0, A0 = stE f T → Box (∀ w, Calls Tryz.prog 51 #[.bool b, .string (nbA S), .string ⟨#[1]⟩, .int .i64 (A0 - fP f + 1)] w fun r w' => r = .returned (.tuple #[.agg #[.bool xb, .string (nbA xn), .string (nbA xd), .int .i64 xe], .int .i64 0]) ∧ Below w.heap.size w w') := fun A0 h0 => box (fun w => rmake_ok b S 1 _ _ _ xb xn xd xe 0 _ _ rfl nb1 (nl_small hf S lim.1) nl1 (by decide) (by omega) (by omega) (by rw [h0, stx]; exact hx) rfl rfl w)
  have hn : ((nbA xn).toList == []) = decide (S = 0) := by rw [od_nil xn _ rfl, decide_eq_decide]; exact xz
  have hfl : (if decide (S = 0) = true then (3 : Int) else if ok = true then (if (!(rH W (dK f T) || rM W (dK f T) more)) = true then 0 else if tnB f m b T W more = true then 3 else 1) else 5) = fl := by
    by_cases s0 : S = 0
    · rw [if_pos (decide_eq_true s0)]
      exact (nul0 s0).2.symm
    · rw [if_neg (by simpa using s0)]
      cases ok
      · rw [if_neg (by decide)]
        rw [if_pos (hok3 rfl)] at hd
        injection hd
      · rw [if_pos rfl]
        rw [if_neg (hok2 rfl)] at hd
        injection hd with h1 h2
        rw [← h2]
        generalize (rH W (dK f T) || rM W (dK f T) more) = q
        cases q <;> rfl
  have KZ : Box (decide (S = 0) = true → ∀ w, Calls Tryz.prog 103 #[.int .u8 f, .bool b] w fun r w' => r = .returned (.agg #[.int .u64 (u : Nat), .int .u64 (v : Nat)]) ∧ Below w.heap.size w w') := box (fun h w => rz_zero f b hf u v (by rw [← (nul0 (of_decide_eq_true h)).1]; exact hv) w)
  have KB : Box (decide (S = 0) = false → ∀ w, Calls Tryz.prog 159 #[.int .u8 f, .agg #[.bool xb, .string (nbA xn), .string (nbA xd), .int .i64 xe]] w fun r w' => r = .returned (.tuple #[.agg #[.int .u64 (i : Nat), .int .u64 (j : Nat)], .bool ok]) ∧ Below w.heap.size w w') := box (fun h w => by
    obtain ⟨Mx, q1, q2⟩ := hij (of_decide_eq_false h)
    exact rOf_is f hf xb xn xd _ _ xe rfl rfl xc Mx ok i j q1 q2 w)
  have KO : Box (ok = false → ∀ w, Calls Tryz.prog 156 #[.int .u8 f, .int .u8 m, .bool b] w fun r w' => r = .returned (.agg #[.int .u64 (u : Nat), .int .u64 (v : Nat)]) ∧ Below w.heap.size w w') := box (fun h w => rover f m hf hm b u v (by
    rw [if_pos (hok3 h)] at hd
    injection hd with h1 h2
    rw [h1]
    exact hv) w)
  have KN : Box (∀ w, Calls Tryz.prog 73 #[.int .u8 f, .int .u8 m, .agg #[.bool b, .string s, .string t, .int .i64 e], .bool false] w fun r w' => r = .returned (.bool (tnB f m b T W more)) ∧ Below w.heap.size w w') := box (fun w => rtiny0 f m hf hm b n d s t e hs ht hc n0 T t1 t2 W more hW hF _ rfl w)
  by_cases lo : T < 1 - fE f
  · have hst : 1 - fE f = stE f T := by unfold stE; omega
    exact rf_deliver_a f m b s t e false T (fE f) (fP f) (1 - fE f) (1 - fE f) _ (1 - fE f - fP f + 1) _ fl _ _ _ xb _ _ xe 0 u v i j ok _ _ w KT KP KE KI (KF _ hst) (KK _) (KM _ hst) KZ KB KO hok1 KN (decide_eq_false c0) (decide_eq_true lo) (wrap_i64_is _ (by omega) (by omega)) (wrap_i64_is _ (by omega) (by omega)) rfl hn hfl
  · have hst : T = stE f T := by unfold stE; omega
    exact rf_deliver_b f m b s t e false T (fE f) (fP f) (1 - fE f) T _ (T - fP f + 1) _ fl _ _ _ xb _ _ xe 0 u v i j ok _ _ w KT KP KE KI (KF _ hst) (KK _) (KM _ hst) KZ KB KO hok1 KN (decide_eq_false c0) (decide_eq_false lo) (wrap_i64_is _ (by omega) (by omega)) (wrap_i64_is _ (by omega) (by omega)) rfl hn hfl
theorem rRound_is0 (f m : Int) (hf : Is4 f) (hm : 0 ≤ m ∧ m ≤ 4) (b : Bool) (n d : Nat) (s t : ByteArray) (e : Int) (hs : nbA n = s) (ht : nbA d = t) (hc : (XN.mk b n d e).can) (ln : nl n ≤ 8192) (ld : nl d ≤ 8192) (M : Nat) (fl : Int) (hd : rnd f m ⟨b, n, d, e⟩ = (M, fl)) (u v : Nat) (hv : bv7 M = (u, v)) (w : World) :
    Calls Tryz.prog 23 #[.int .u8 f, .int .u8 m, .agg #[.bool b, .string s, .string t, .int .i64 e]] w fun r w' => r = .returned (.tuple #[.agg #[.int .u64 (u : Nat), .int .u64 (v : Nat)], .int .u8 fl, .int .i64 0]) ∧ Below w.heap.size w w' := by
  have KF : Box (∀ w, Calls Tryz.prog 68 #[.int .u8 f, .int .u8 m, .agg #[.bool b, .string s, .string t, .int .i64 e]] w fun r w' => r = .returned (.int .i64 0) ∧ Below w.heap.size w w') := box (fun w => rfault f m b s t e true (may_yes hs ht hc) 0 (flt_ok hf hm hs ht ln ld) w)
  unfold rnd at hd
  rcases x_cases hs ht hc with ⟨n0, rfl, rfl, rfl, rfl, rfl⟩ | ⟨n0, e0⟩
  · rw [if_pos n0] at hd
    injection hd with h1 h2
    subst h1 h2
    injection hv with h3 h4
    subst h3 h4
    exact rf_Round_null f m w KF
  · rw [if_neg n0] at hd
    obtain ⟨t1, t2⟩ := top_lim hc
    obtain ⟨q1, q2⟩ := fnd_x0 hf hc n0 ld
    exact rf_Round_ok f m b s t e u v fl w KF (box (fun w => rdeliver0 f m hf hm b n d s t e hs ht hc n0 _ (by omega) (by omega) _ _ q1 q2 M fl hd u v hv w)) (eq_nil n s hs n0)
theorem both_tiny0 (f m : Int) (h0 : 0 ≤ f) (h1 : f ≤ 255) (m0 : 0 ≤ m) (b : Bool) (s t : ByteArray) (e : Int) : ∃ (o : Bool) (c : Int), Box (∀ w, FAt w → TabAt w → Calls Tryz.prog 26 #[.int .u8 f, .int .u8 m, .agg #[.bool b, .string s, .string t, .int .i64 e]] w fun r w' => r = .returned (.tuple #[.bool o, .int .i64 c]) ∧ Below w.heap.size w w') ∧ Box (∀ w, Calls Tryz.prog 27 #[.int .u8 f, .int .u8 m, .agg #[.bool b, .string s, .string t, .int .i64 e]] w fun r w' => r = .returned (.tuple #[.bool o, .int .i64 c]) ∧ Below w.heap.size w w') ∧ IntKind.i64.wrap c = c := by
  obtain ⟨may, hm⟩ := may_any b s t e
  obtain ⟨c, hc⟩ : ∃ c, flt f m may s t = c := ⟨_, rfl⟩
  have h3 := flt_two f m may s t
  rw [hc] at h3
  have KC := box (fun w hT => kcheck f m h0 h1 b s t e may hm c hc w hT)
  have KF := box (fun w => rfault f m b s t e may hm c hc w)
  by_cases ok : c = 0
  · subst ok
    unfold flt at hc
    split at hc
    · rename_i q
      split at hc
      · exact absurd hc (by decide)
      · rename_i q2
        obtain ⟨n, d, hs, ht, hcan⟩ := may_part hm q.2.2
        have a : s.size = nl n := by rw [← hs, nbA_size]
        have g : t.size = nl d := by rw [← ht, nbA_size]
        have hf := is4_of h0 q.1
        have ld : nl d ≤ 8192 := by omega
        have hmm : 0 ≤ m ∧ m ≤ 4 := ⟨m0, q.2.1⟩
        rcases x_cases hs ht hcan with ⟨n0, rfl, rfl, rfl, rfl, rfl⟩ | ⟨n0, e0⟩
        · exact ⟨false, 0, box (fun w hT hT2 => ru_Tiny_null f m w KC (box (fun w hT => k_whole0 w hT)) hT hT2), box (fun w => rf_Tiny_null f m w KF), by decide⟩
        · obtain ⟨t1, t2⟩ := top_lim hcan
          obtain ⟨q1, q2⟩ := fnd_x0 hf hcan n0 ld
          have KX := box (fun w hT hT2 => kofExact f hf b n d s t e hs ht hcan n0 ld _ _ rfl rfl _ _ _ rfl rfl rfl w hT hT2)
          have KN := box (fun w hT hT2 => ktiny f m hf hmm b _ (show -1300000 ≤ topX ⟨b, n, d, e⟩ by omega) (by omega) _ (xM f ⟨b, n, d, e⟩) q1 _ rfl _ rfl _ rfl w hT hT2)
          refine ⟨tnB f m b (topX ⟨b, n, d, e⟩) (xW f ⟨b, n, d, e⟩) (xM f ⟨b, n, d, e⟩), 0, ?_, box (fun w => rf_Tiny_ok f m b s t e _ w KF (box (fun w => rtiny0 f m hf hmm b n d s t e hs ht hcan n0 _ (by omega) (by omega) _ _ q1 q2 _ rfl w)) e0), by decide⟩
          cases b
          · exact box (fun w hT hT2 => ru_Tiny_ok_false f m s t e _ _ _ _ _ _ w KC (box (fun w hT => k_whole0 w hT)) KX KN e0 hT hT2)
          · exact box (fun w hT hT2 => ru_Tiny_ok_true f m s t e _ _ _ _ _ _ w KC (box (fun w hT => k_whole0 w hT)) KX KN e0 hT hT2)
    · exact absurd hc (by decide)
  · have hcn : (c != 0) = true := by simpa using ok
    exact ⟨false, c, box (fun w hT hT2 => ru_Tiny_err f m b s t e c w KC hcn hT hT2), box (fun w => rf_Tiny_err f m b s t e c w KF hcn), wrap_i64_is _ (by omega) (by omega)⟩
end Go.Proofs.YtbmhfcppaajgbaaGreatDoor
namespace Go.Proofs.YtbmhfcppaajgbaaGreatDoor
set_option maxRecDepth 100000
open Go.RowKit WMath XMath
set_option linter.unusedSimpArgs false
set_option linter.unusedVariables false

theorem rplus (f : Int) (hf : Is4 f) (neg : Bool) (e t : Nat) (he : e ≤ oV f) (ht : t < 2 ^ pV f) (u v i j : Nat) (hv : bv7 (enc7 f neg e t) = (u, v)) (hi : bv7 (nzB f (enc7 f neg e t)) = (i, j)) (w : World) : Calls Tryz.prog 79 #[.int .u8 f, .agg #[.int .u64 (u : Nat), .int .u64 (v : Nat)]] w fun r w' => r = .returned (.agg #[.int .u64 (i : Nat), .int .u64 (j : Nat)]) ∧ Below w.heap.size w w' := by
  have fit := (enc_k hf neg he ht).1
  have lim : enc7 f neg e t < 340282366920938463463374607431768211456 := by have := (fm hf).2.2.2.2.2.2; unfold Fit at fit; omega
  obtain ⟨u1, v1, uv⟩ := bv_lt lim hv
  have kn := kC_null hf neg e t he ht
  have nz := nz_enc hf neg e t he ht
  have KC : Box (∀ w, Calls Tryz.prog 121 #[.int .u8 f, .agg #[.int .u64 (u : Nat), .int .u64 (v : Nat)]] w fun r w' => r = .returned (.int .u8 ((kC f (enc7 f neg e t) : Nat) : Int)) ∧ Below w.heap.size w w') := box (fun w => rk_class f hf u v _ _ u1 v1 uv fit rfl w)
  by_cases z : e = 0 ∧ t = 0
  · rw [if_pos z] at nz
    rw [nz] at hi
    injection hi with h1 h2
    subst h1 h2
    rcases kn.2 z with c | c
    · rw [c] at KC
      exact rf_plus_z f u v w (box (fun w => rf_isz_a f u v w KC))
    · rw [c] at KC
      exact rf_plus_z f u v w (box (fun w => rf_isz_b f u v w KC))
  · rw [if_neg z] at nz
    rw [nz, hv] at hi
    injection hi with h1 h2
    subst h1 h2
    have nk : ¬ (kC f (enc7 f neg e t) = 3 ∨ kC f (enc7 f neg e t) = 4) := fun q => z (kn.1 q)
    exact rf_plus_n f u v w (box (fun w => rf_isz_n f u v _ w KC (by rw [beq_eq_false_iff_ne]; omega) (by rw [beq_eq_false_iff_ne]; omega) (by rw [decide_eq_false_iff_not]; omega) (by rw [decide_eq_false_iff_not]; omega)))
theorem near_ne {a b c d : Nat} (h : ¬ (a = c ∧ b = d)) : (((a : Nat) : Int) == ((c : Nat) : Int)) = false ∧ decide (a = c) = false ∨ a = c ∧ ((((b : Nat) : Int) == ((d : Nat) : Int)) = false ∧ decide (b = d) = false) := by
  by_cases q : a = c
  · exact Or.inr ⟨q, by rw [beq_eq_false_iff_ne]; omega, by rw [decide_eq_false_iff_not]; omega⟩
  · exact Or.inl ⟨by rw [beq_eq_false_iff_ne]; omega, by rw [decide_eq_false_iff_not]; omega⟩
theorem zero_bits {f : Int} (hf : Is4 f) : eZero f true ≠ 0 ∧ eZero f true < 340282366920938463463374607431768211456 := by
  have h := (fm hf).2.2.2.2.2.2
  have p := Nat.two_pow_pos (wV f)
  rw [ezero_is]
  omega
theorem k_zero0 (f : Int) (hf : Is4 f) (w : World) (hT : FAt w) : Calls Tryz.prog 74 #[.int .u8 f, .bool false] w fun r w' => r = .returned (.agg #[.int .u64 0, .int .u64 0]) ∧ Below w.heap.size w w' := sk_zero f false hf 0 0 (by rcases hf with rfl | rfl | rfl | rfl <;> decide +kernel) w hT
theorem both_near (f : Int) (h0 : 0 ≤ f) (h1 : f ≤ 255) (b : Bool) (s t : ByteArray) (e : Int) (hsz : s.size ≤ 8192 ∧ t.size ≤ 8192) (may : Bool) (hm : IsM may b s t e) :
    (¬ (f ≤ 3 ∧ may = true) → Box (∀ w, FAt w → TabAt w → Calls Tryz.prog 28 #[.int .u8 f, .agg #[.bool b, .string s, .string t, .int .i64 e]] w fun r w' => r = .returned (.tuple #[.agg #[.int .u64 0, .int .u64 0], .agg #[.int .u64 0, .int .u64 0], .int .i64 2]) ∧ Below w.heap.size w w')) ∧
    (f ≤ 3 → may = true → ∃ (i1 j1 i2 j2 : Nat), Box (∀ w, FAt w → TabAt w → Calls Tryz.prog 28 #[.int .u8 f, .agg #[.bool b, .string s, .string t, .int .i64 e]] w fun r w' => r = .returned (.tuple #[.agg #[.int .u64 (i1 : Nat), .int .u64 (j1 : Nat)], .agg #[.int .u64 (i2 : Nat), .int .u64 (j2 : Nat)], .int .i64 0]) ∧ Below w.heap.size w w') ∧ Box (∀ w, Calls Tryz.prog 30 #[.int .u8 f, .agg #[.bool b, .string s, .string t, .int .i64 e]] w fun r w' => r = .returned (.tuple #[.agg #[.int .u64 (i1 : Nat), .int .u64 (j1 : Nat)], .agg #[.int .u64 (i2 : Nat), .int .u64 (j2 : Nat)], .int .i64 0]) ∧ Below w.heap.size w w')) := by
  constructor
  · intro h
    have hc : flt f 2 may s t = 2 := by
      unfold flt
      rw [if_neg]
      rintro ⟨q1, q2, q3⟩
      exact h ⟨q1, q3⟩
    exact box (fun w hT hT2 => ru_Near_err f b s t e 2 w (box (fun w hT => kcheck f 2 h0 h1 b s t e may hm 2 hc w hT)) (by decide) hT hT2)
  · intro f3 my
    subst my
    have hf := is4_of h0 f3
    obtain ⟨n, d, hs, ht, hc⟩ := may_part hm rfl
    have a : s.size = nl n := by rw [← hs, nbA_size]
    have g : t.size = nl d := by rw [← ht, nbA_size]
    have ln : nl n ≤ 8192 := by omega
    have ld : nl d ≤ 8192 := by omega
    have KC := box (fun w hT => kcheck f 2 h0 h1 b s t e true hm 0 (flt_ok hf (by decide) hs ht ln ld) w hT)
    obtain ⟨z0, z1⟩ := zero_bits hf
    obtain ⟨zu, zv, hz⟩ : ∃ zu zv, bv7 (eZero f true) = (zu, zv) := ⟨_, _, rfl⟩
    have KZ := box (fun w hT => sk_zero f true hf zu zv hz w hT)
    obtain ⟨y1, y2, y3⟩ := bv_lt z1 hz
    rcases x_cases hs ht hc with ⟨n0, rfl, rfl, rfl, rfl, rfl⟩ | ⟨n0, e0⟩
    · have r0 : ∀ m, rnd f m ⟨false, n, 1, 0⟩ = (0, 0) := fun m => by unfold rnd; rw [if_pos n0]
      have nz0 : bv7 (nzB f (enc7 f false 0 0)) = (0, 0) := by
        have : enc7 f false 0 0 = 0 := by unfold enc7; simp
        rw [this]
        unfold nzB
        rw [if_neg (by omega)]
        rfl
      have e00 : bv7 (enc7 f false 0 0) = (0, 0) := by
        have : enc7 f false 0 0 = 0 := by unfold enc7; simp
        rw [this]
        rfl
      have KP := box (fun w => rplus f hf false 0 0 (by omega) (Nat.two_pow_pos _) 0 0 0 0 e00 nz0 w)
      refine ⟨0, 0, 0, 0, box (fun w hT hT2 => ru_Near_ne f _ _ _ _ _ _ _ _ _ 0 0 0 0 zu zv 0 0 w KC (box (fun w hT hT2 => kofExact0 f hf _ rfl w hT hT2)) (box (fun w hT hT2 => kdelivered0 f 2 hf (by decide) _ rfl w hT hT2)) (box (fun w hT hT2 => kdelivered0 f 3 hf (by decide) _ rfl w hT hT2)) KZ (near_ne (by omega)) hT hT2), ?_⟩
      exact box (fun w => rf_Near_ok f _ _ _ _ 0 0 0 0 0 0 0 0 0 0 w (box (fun w => rRound_is0 f 2 hf (by decide) false n 1 _ _ 0 hs ht hc ln ld 0 0 (r0 2) 0 0 rfl w)) (box (fun w => rRound_is0 f 3 hf (by decide) false n 1 _ _ 0 hs ht hc ln ld 0 0 (r0 3) 0 0 rfl w)) KP KP)
    · obtain ⟨t1, t2⟩ := top_lim hc
      obtain ⟨q1, q2⟩ := fnd_x hf hc n0 ld
      obtain ⟨E1, T1, F1, p1, p2, _, p3, _⟩ := dlv_enc hf q1 2 b (topX ⟨b, n, d, e⟩) (xM f ⟨b, n, d, e⟩)
      obtain ⟨E2, T2, F2, o1, o2, _, o3, _⟩ := dlv_enc hf q1 3 b (topX ⟨b, n, d, e⟩) (xM f ⟨b, n, d, e⟩)
      have lne := low_ne hf q1 b (topX ⟨b, n, d, e⟩) (xM f ⟨b, n, d, e⟩)
      rw [p3] at lne
      have lne : enc7 f b E1 T1 ≠ eZero f true := lne
      have nl1' : nzB f (enc7 f b E1 T1) = enc7 f b E1 T1 := by unfold nzB; rw [if_neg lne]
      have r2 : rnd f 2 ⟨b, n, d, e⟩ = (enc7 f b E1 T1, F1) := by unfold rnd; rw [if_neg n0]; exact p3
      have r3 : rnd f 3 ⟨b, n, d, e⟩ = (enc7 f b E2 T2, F2) := by unfold rnd; rw [if_neg n0]; exact o3
      obtain ⟨u1, v1, hu1⟩ : ∃ u v, bv7 (enc7 f b E1 T1) = (u, v) := ⟨_, _, rfl⟩
      obtain ⟨u2, v2, hu2⟩ : ∃ u v, bv7 (enc7 f b E2 T2) = (u, v) := ⟨_, _, rfl⟩
      obtain ⟨i2, j2, hi2⟩ : ∃ u v, bv7 (nzB f (enc7 f b E2 T2)) = (u, v) := ⟨_, _, rfl⟩
      have fit := (enc_k hf b o1 o2).1
      have lim : enc7 f b E2 T2 < 340282366920938463463374607431768211456 := by have := (fm hf).2.2.2.2.2.2; unfold Fit at fit; omega
      obtain ⟨x1, x2, x3⟩ := bv_lt lim hu2
      have KX := box (fun w hT hT2 => kofExact f hf b n d s t e hs ht hc n0 ld _ _ rfl rfl _ _ _ rfl rfl rfl w hT hT2)
      have K1 := box (fun w hT hT2 => kdelivered f 2 hf (by decide) b _ (show -1300000 ≤ topX ⟨b, n, d, e⟩ by omega) (by omega) _ (xM f ⟨b, n, d, e⟩) q1 _ rfl _ rfl _ F1 p3 u1 v1 hu1 w hT hT2)
      have K2 := box (fun w hT hT2 => kdelivered f 3 hf (by decide) b _ (show -1300000 ≤ topX ⟨b, n, d, e⟩ by omega) (by omega) _ (xM f ⟨b, n, d, e⟩) q1 _ rfl _ rfl _ F2 o3 u2 v2 hu2 w hT hT2)
      refine ⟨u1, v1, i2, j2, ?_, box (fun w => rf_Near_ok f b s t e u1 v1 u2 v2 u1 v1 i2 j2 F1 F2 w (box (fun w => rRound_is0 f 2 hf (by decide) b n d s t e hs ht hc ln ld _ F1 r2 u1 v1 hu1 w)) (box (fun w => rRound_is0 f 3 hf (by decide) b n d s t e hs ht hc ln ld _ F2 r3 u2 v2 hu2 w))
        (box (fun w => rplus f hf b E1 T1 p1 p2 u1 v1 u1 v1 hu1 (by rw [nl1']; exact hu1) w)) (box (fun w => rplus f hf b E2 T2 o1 o2 u2 v2 i2 j2 hu2 hi2 w)))⟩
      by_cases q : enc7 f b E2 T2 = eZero f true
      · rw [q, hz] at hu2
        injection hu2 with w1 w2
        have : nzB f (enc7 f b E2 T2) = 0 := by unfold nzB; rw [if_pos q]
        rw [this] at hi2
        injection hi2 with w3 w4
        subst w3 w4
        exact box (fun w hT hT2 => ru_Near_eq f b s t e _ _ _ _ _ u1 v1 u2 v2 zu zv F1 F2 w KC KX K1 K2 KZ (box (fun w hT => k_zero0 f hf w hT)) w1.symm w2.symm hT hT2)
      · have : nzB f (enc7 f b E2 T2) = enc7 f b E2 T2 := by unfold nzB; rw [if_neg q]
        rw [this, hu2] at hi2
        injection hi2 with w3 w4
        subst w3 w4
        exact box (fun w hT hT2 => ru_Near_ne f b s t e _ _ _ _ _ u1 v1 u2 v2 zu zv F1 F2 w KC KX K1 K2 KZ (near_ne (by omega)) hT hT2)
end Go.Proofs.YtbmhfcppaajgbaaGreatDoor
namespace Go.Proofs.YtbmhfcppaajgbaaGreatDoor
set_option maxRecDepth 100000
open Go.RowKit WMath XMath
set_option linter.unusedSimpArgs false
set_option linter.unusedVariables false

set_option maxRecDepth 100000 in
set_option maxHeartbeats 4000000 in
theorem nr_s (f m : Int) (b : Bool) (s t : ByteArray) (e : Int) (o : Bool) (c : Int) (i1 j1 i2 j2 : Nat) (w : World)
    (KS : Box (∀ w, Calls Tryz.prog 20 #[.agg #[.bool b, .string s, .string t, .int .i64 e]] w fun r w' => r = .returned (.bool false) ∧ Below w.heap.size w w'))
    (KA : Box (∀ w, FAt w → TabAt w → Calls Tryz.prog 21 #[] w fun r w' => r = .returned (.bool true) ∧ Below w.heap.size w w'))
    (hT : FAt w) (hT2 : TabAt w) : Calls Tryz.prog 6 #[.int .u8 f, .int .u8 m, .agg #[.bool b, .string s, .string t, .int .i64 e]] w fun r w' => r = .returned (.bool true) ∧ Below w.heap.size w w' := by
  have FF := box hT
  have TT := box hT2
  clear hT hT2
  obtain ⟨Rx_0, B0⟩ := opn1 w (Obj.cells #[.bool b, .string s, .string t, .int .i64 e] 41)
  go_enter Tryz.func6, Tryz.ntmps6
  go_wp2_with fail
  refine (KS.out _).mono ?_
  rintro r w1 ⟨rfl, b1⟩
  have B1 : Below w.heap.size w w1 := btr B0 b1
  have Rx_1 := heap_of b1 _ _ _ Rx_0
  clear b1 B0 Rx_0
  obtain ⟨cx_1_0, cx_1_1, cx_1_2, cx_1_3⟩ := cells4s Rx_1
  go_wp2_with fail
  refine (KA.out _ (fatB FF.out B1) (tabB TT.out B1)).mono ?_
  rintro r w2 ⟨rfl, b2⟩
  have B2 : Below w.heap.size w w2 := btr B1 b2
  have Rx_2 := heap_of b2 _ _ _ Rx_1
  clear b2 B1 Rx_1 cx_1_0 cx_1_1 cx_1_2 cx_1_3
  obtain ⟨cx_2_0, cx_2_1, cx_2_2, cx_2_3⟩ := cells4s Rx_2
  go_wp2
  go_ret
  exact ⟨rfl, B2⟩
set_option maxRecDepth 100000 in
set_option maxHeartbeats 4000000 in
theorem nr_f (f m : Int) (b : Bool) (s t : ByteArray) (e : Int) (o : Bool) (c : Int) (i1 j1 i2 j2 : Nat) (w : World)
    (KS : Box (∀ w, Calls Tryz.prog 20 #[.agg #[.bool b, .string s, .string t, .int .i64 e]] w fun r w' => r = .returned (.bool true) ∧ Below w.heap.size w w'))
    (K1 : Box (∀ w, FAt w → TabAt w → Calls Tryz.prog 26 #[.int .u8 f, .int .u8 m, .agg #[.bool b, .string s, .string t, .int .i64 e]] w fun r w' => r = .returned (.tuple #[.bool o, .int .i64 c]) ∧ Below w.heap.size w w'))
    (K2 : Box (∀ w, Calls Tryz.prog 27 #[.int .u8 f, .int .u8 m, .agg #[.bool b, .string s, .string t, .int .i64 e]] w fun r w' => r = .returned (.tuple #[.bool o, .int .i64 c]) ∧ Below w.heap.size w w')) (wc : IntKind.i64.wrap c = c)
    (KN : Box (∀ w, FAt w → TabAt w → Calls Tryz.prog 28 #[.int .u8 f, .agg #[.bool b, .string s, .string t, .int .i64 e]] w fun r w' => r = .returned (.tuple #[.agg #[.int .u64 0, .int .u64 0], .agg #[.int .u64 0, .int .u64 0], .int .i64 2]) ∧ Below w.heap.size w w'))
    (KR : Box (∀ w, Calls Tryz.prog 17 #[.int .u8 f] w fun r w' => r = .returned (.bool false) ∧ Below w.heap.size w w'))
    (KA : Box (∀ w, FAt w → TabAt w → Calls Tryz.prog 21 #[] w fun r w' => r = .returned (.bool true) ∧ Below w.heap.size w w'))
    (hT : FAt w) (hT2 : TabAt w) : Calls Tryz.prog 6 #[.int .u8 f, .int .u8 m, .agg #[.bool b, .string s, .string t, .int .i64 e]] w fun r w' => r = .returned (.bool true) ∧ Below w.heap.size w w' := by
  have FF := box hT
  have TT := box hT2
  clear hT hT2
  obtain ⟨Rx_0, B0⟩ := opn1 w (Obj.cells #[.bool b, .string s, .string t, .int .i64 e] 41)
  go_enter Tryz.func6, Tryz.ntmps6
  go_wp2_with fail
  refine (KS.out _).mono ?_
  rintro r w1 ⟨rfl, b1⟩
  have B1 : Below w.heap.size w w1 := btr B0 b1
  have Rx_1 := heap_of b1 _ _ _ Rx_0
  clear b1 B0 Rx_0
  obtain ⟨cx_1_0, cx_1_1, cx_1_2, cx_1_3⟩ := cells4s Rx_1
  go_wp2_with fail
  refine (K1.out _ (fatB FF.out B1) (tabB TT.out B1)).mono ?_
  rintro r w2 ⟨rfl, b2⟩
  have B2 : Below w.heap.size w w2 := btr B1 b2
  have Rx_2 := heap_of b2 _ _ _ Rx_1
  clear b2 B1 Rx_1 cx_1_0 cx_1_1 cx_1_2 cx_1_3
  obtain ⟨cx_2_0, cx_2_1, cx_2_2, cx_2_3⟩ := cells4s Rx_2
  go_wp2_with fail
  refine (K2.out _).mono ?_
  rintro r w3 ⟨rfl, b3⟩
  have B3 : Below w.heap.size w w3 := btr B2 b3
  have Rx_3 := heap_of b3 _ _ _ Rx_2
  clear b3 B2 Rx_2 cx_2_0 cx_2_1 cx_2_2 cx_2_3
  obtain ⟨cx_3_0, cx_3_1, cx_3_2, cx_3_3⟩ := cells4s Rx_3
  go_wp2_with fail
  refine (KN.out _ (fatB FF.out B3) (tabB TT.out B3)).mono ?_
  rintro r w4 ⟨rfl, b4⟩
  have B4 : Below w.heap.size w w4 := btr B3 b4
  have Rx_4 := heap_of b4 _ _ _ Rx_3
  clear b4 B3 Rx_3 cx_3_0 cx_3_1 cx_3_2 cx_3_3
  obtain ⟨cx_4_0, cx_4_1, cx_4_2, cx_4_3⟩ := cells4s Rx_4
  have S5 := box B4.size
  have Lx_5 : Box (w.heap.size < w4.heap.size) := box (Array.getElem?_eq_some_iff.1 Rx_4).1
  have Ra_5 := heap_alloc_last w4 (Obj.cells #[.int .u64 0, .int .u64 0] 25)
  have B5 := btr B4 (bal w4 (Obj.cells #[.int .u64 0, .int .u64 0] 25))
  have Rx_5 := heap_of (bal w4 (Obj.cells #[.int .u64 0, .int .u64 0] 25)) _ _ _ Rx_4
  clear B4 Rx_4 cx_4_0 cx_4_1 cx_4_2 cx_4_3
  obtain ⟨cx_5_0, cx_5_1, cx_5_2, cx_5_3⟩ := cells4s Rx_5
  obtain ⟨ca_5_0, ca_5_1⟩ := cells2s Ra_5
  have S6 := box B5.size
  have Lx_6 : Box (w.heap.size < (w4.alloc (Obj.cells #[.int .u64 0, .int .u64 0] 25)).heap.size) := box (Array.getElem?_eq_some_iff.1 Rx_5).1
  have La_6 : Box (w4.heap.size < (w4.alloc (Obj.cells #[.int .u64 0, .int .u64 0] 25)).heap.size) := box (Array.getElem?_eq_some_iff.1 Ra_5).1
  have Z6 := box (size_al w4 (Obj.cells #[.int .u64 0, .int .u64 0] 25))
  have Rh_6 : ((w4.alloc (Obj.cells #[.int .u64 0, .int .u64 0] 25)).alloc (Obj.cells #[.int .u64 0, .int .u64 0] 25)).heap[w4.heap.size + 1]? = some (Obj.cells #[.int .u64 0, .int .u64 0] 25) := by have := heap_alloc_last (w4.alloc (Obj.cells #[.int .u64 0, .int .u64 0] 25)) (Obj.cells #[.int .u64 0, .int .u64 0] 25); simpa only [size_al] using this
  have B6 := btr B5 (bal (w4.alloc (Obj.cells #[.int .u64 0, .int .u64 0] 25)) (Obj.cells #[.int .u64 0, .int .u64 0] 25))
  have Rx_6 := heap_of (bal (w4.alloc (Obj.cells #[.int .u64 0, .int .u64 0] 25)) (Obj.cells #[.int .u64 0, .int .u64 0] 25)) _ _ _ Rx_5
  have Ra_6 := heap_of (bal (w4.alloc (Obj.cells #[.int .u64 0, .int .u64 0] 25)) (Obj.cells #[.int .u64 0, .int .u64 0] 25)) _ _ _ Ra_5
  clear B5 Rx_5 cx_5_0 cx_5_1 cx_5_2 cx_5_3 Ra_5 ca_5_0 ca_5_1
  obtain ⟨cx_6_0, cx_6_1, cx_6_2, cx_6_3⟩ := cells4s Rx_6
  obtain ⟨ca_6_0, ca_6_1⟩ := cells2s Ra_6
  obtain ⟨ch_6_0, ch_6_1⟩ := cells2s Rh_6
  go_wp2_with fail
  refine (KR.out _).mono ?_
  rintro r w7 ⟨rfl, b7⟩
  have B7 : Below w.heap.size w w7 := btr B6 b7
  have Rx_7 := heap_of b7 _ _ _ Rx_6
  have Ra_7 := heap_of b7 _ _ _ Ra_6
  have Rh_7 := heap_of b7 _ _ _ Rh_6
  clear b7 B6 Rx_6 cx_6_0 cx_6_1 cx_6_2 cx_6_3 Ra_6 ca_6_0 ca_6_1 Rh_6 ch_6_0 ch_6_1
  obtain ⟨cx_7_0, cx_7_1, cx_7_2, cx_7_3⟩ := cells4s Rx_7
  obtain ⟨ca_7_0, ca_7_1⟩ := cells2s Ra_7
  obtain ⟨ch_7_0, ch_7_1⟩ := cells2s Rh_7
  go_wp2_with fail
  refine (KA.out _ (fatB FF.out B7) (tabB TT.out B7)).mono ?_
  rintro r w8 ⟨rfl, b8⟩
  have B8 : Below w.heap.size w w8 := btr B7 b8
  have Rx_8 := heap_of b8 _ _ _ Rx_7
  have Ra_8 := heap_of b8 _ _ _ Ra_7
  have Rh_8 := heap_of b8 _ _ _ Rh_7
  clear b8 B7 Rx_7 cx_7_0 cx_7_1 cx_7_2 cx_7_3 Ra_7 ca_7_0 ca_7_1 Rh_7 ch_7_0 ch_7_1
  obtain ⟨cx_8_0, cx_8_1, cx_8_2, cx_8_3⟩ := cells4s Rx_8
  obtain ⟨ca_8_0, ca_8_1⟩ := cells2s Ra_8
  obtain ⟨ch_8_0, ch_8_1⟩ := cells2s Rh_8
  go_wp2
  go_ret
  exact ⟨rfl, B8⟩
set_option maxRecDepth 100000 in
set_option maxHeartbeats 4000000 in
theorem nr_m (f m : Int) (b : Bool) (s t : ByteArray) (e : Int) (o : Bool) (c : Int) (i1 j1 i2 j2 : Nat) (w : World)
    (KS : Box (∀ w, Calls Tryz.prog 20 #[.agg #[.bool b, .string s, .string t, .int .i64 e]] w fun r w' => r = .returned (.bool true) ∧ Below w.heap.size w w'))
    (K1 : Box (∀ w, FAt w → TabAt w → Calls Tryz.prog 26 #[.int .u8 f, .int .u8 m, .agg #[.bool b, .string s, .string t, .int .i64 e]] w fun r w' => r = .returned (.tuple #[.bool o, .int .i64 c]) ∧ Below w.heap.size w w'))
    (K2 : Box (∀ w, Calls Tryz.prog 27 #[.int .u8 f, .int .u8 m, .agg #[.bool b, .string s, .string t, .int .i64 e]] w fun r w' => r = .returned (.tuple #[.bool o, .int .i64 c]) ∧ Below w.heap.size w w')) (wc : IntKind.i64.wrap c = c)
    (KN : Box (∀ w, FAt w → TabAt w → Calls Tryz.prog 28 #[.int .u8 f, .agg #[.bool b, .string s, .string t, .int .i64 e]] w fun r w' => r = .returned (.tuple #[.agg #[.int .u64 0, .int .u64 0], .agg #[.int .u64 0, .int .u64 0], .int .i64 2]) ∧ Below w.heap.size w w'))
    (KR : Box (∀ w, Calls Tryz.prog 17 #[.int .u8 f] w fun r w' => r = .returned (.bool true) ∧ Below w.heap.size w w'))
    (KM : Box (∀ w, Calls Tryz.prog 29 #[.agg #[.bool b, .string s, .string t, .int .i64 e]] w fun r w' => r = .returned (.bool false) ∧ Below w.heap.size w w'))
    (KA : Box (∀ w, FAt w → TabAt w → Calls Tryz.prog 21 #[] w fun r w' => r = .returned (.bool true) ∧ Below w.heap.size w w'))
    (hT : FAt w) (hT2 : TabAt w) : Calls Tryz.prog 6 #[.int .u8 f, .int .u8 m, .agg #[.bool b, .string s, .string t, .int .i64 e]] w fun r w' => r = .returned (.bool true) ∧ Below w.heap.size w w' := by
  have FF := box hT
  have TT := box hT2
  clear hT hT2
  obtain ⟨Rx_0, B0⟩ := opn1 w (Obj.cells #[.bool b, .string s, .string t, .int .i64 e] 41)
  go_enter Tryz.func6, Tryz.ntmps6
  go_wp2_with fail
  refine (KS.out _).mono ?_
  rintro r w1 ⟨rfl, b1⟩
  have B1 : Below w.heap.size w w1 := btr B0 b1
  have Rx_1 := heap_of b1 _ _ _ Rx_0
  clear b1 B0 Rx_0
  obtain ⟨cx_1_0, cx_1_1, cx_1_2, cx_1_3⟩ := cells4s Rx_1
  go_wp2_with fail
  refine (K1.out _ (fatB FF.out B1) (tabB TT.out B1)).mono ?_
  rintro r w2 ⟨rfl, b2⟩
  have B2 : Below w.heap.size w w2 := btr B1 b2
  have Rx_2 := heap_of b2 _ _ _ Rx_1
  clear b2 B1 Rx_1 cx_1_0 cx_1_1 cx_1_2 cx_1_3
  obtain ⟨cx_2_0, cx_2_1, cx_2_2, cx_2_3⟩ := cells4s Rx_2
  go_wp2_with fail
  refine (K2.out _).mono ?_
  rintro r w3 ⟨rfl, b3⟩
  have B3 : Below w.heap.size w w3 := btr B2 b3
  have Rx_3 := heap_of b3 _ _ _ Rx_2
  clear b3 B2 Rx_2 cx_2_0 cx_2_1 cx_2_2 cx_2_3
  obtain ⟨cx_3_0, cx_3_1, cx_3_2, cx_3_3⟩ := cells4s Rx_3
  go_wp2_with fail
  refine (KN.out _ (fatB FF.out B3) (tabB TT.out B3)).mono ?_
  rintro r w4 ⟨rfl, b4⟩
  have B4 : Below w.heap.size w w4 := btr B3 b4
  have Rx_4 := heap_of b4 _ _ _ Rx_3
  clear b4 B3 Rx_3 cx_3_0 cx_3_1 cx_3_2 cx_3_3
  obtain ⟨cx_4_0, cx_4_1, cx_4_2, cx_4_3⟩ := cells4s Rx_4
  have S5 := box B4.size
  have Lx_5 : Box (w.heap.size < w4.heap.size) := box (Array.getElem?_eq_some_iff.1 Rx_4).1
  have Ra_5 := heap_alloc_last w4 (Obj.cells #[.int .u64 0, .int .u64 0] 25)
  have B5 := btr B4 (bal w4 (Obj.cells #[.int .u64 0, .int .u64 0] 25))
  have Rx_5 := heap_of (bal w4 (Obj.cells #[.int .u64 0, .int .u64 0] 25)) _ _ _ Rx_4
  clear B4 Rx_4 cx_4_0 cx_4_1 cx_4_2 cx_4_3
  obtain ⟨cx_5_0, cx_5_1, cx_5_2, cx_5_3⟩ := cells4s Rx_5
  obtain ⟨ca_5_0, ca_5_1⟩ := cells2s Ra_5
  have S6 := box B5.size
  have Lx_6 : Box (w.heap.size < (w4.alloc (Obj.cells #[.int .u64 0, .int .u64 0] 25)).heap.size) := box (Array.getElem?_eq_some_iff.1 Rx_5).1
  have La_6 : Box (w4.heap.size < (w4.alloc (Obj.cells #[.int .u64 0, .int .u64 0] 25)).heap.size) := box (Array.getElem?_eq_some_iff.1 Ra_5).1
  have Z6 := box (size_al w4 (Obj.cells #[.int .u64 0, .int .u64 0] 25))
  have Rh_6 : ((w4.alloc (Obj.cells #[.int .u64 0, .int .u64 0] 25)).alloc (Obj.cells #[.int .u64 0, .int .u64 0] 25)).heap[w4.heap.size + 1]? = some (Obj.cells #[.int .u64 0, .int .u64 0] 25) := by have := heap_alloc_last (w4.alloc (Obj.cells #[.int .u64 0, .int .u64 0] 25)) (Obj.cells #[.int .u64 0, .int .u64 0] 25); simpa only [size_al] using this
  have B6 := btr B5 (bal (w4.alloc (Obj.cells #[.int .u64 0, .int .u64 0] 25)) (Obj.cells #[.int .u64 0, .int .u64 0] 25))
  have Rx_6 := heap_of (bal (w4.alloc (Obj.cells #[.int .u64 0, .int .u64 0] 25)) (Obj.cells #[.int .u64 0, .int .u64 0] 25)) _ _ _ Rx_5
  have Ra_6 := heap_of (bal (w4.alloc (Obj.cells #[.int .u64 0, .int .u64 0] 25)) (Obj.cells #[.int .u64 0, .int .u64 0] 25)) _ _ _ Ra_5
  clear B5 Rx_5 cx_5_0 cx_5_1 cx_5_2 cx_5_3 Ra_5 ca_5_0 ca_5_1
  obtain ⟨cx_6_0, cx_6_1, cx_6_2, cx_6_3⟩ := cells4s Rx_6
  obtain ⟨ca_6_0, ca_6_1⟩ := cells2s Ra_6
  obtain ⟨ch_6_0, ch_6_1⟩ := cells2s Rh_6
  go_wp2_with fail
  refine (KR.out _).mono ?_
  rintro r w7 ⟨rfl, b7⟩
  have B7 : Below w.heap.size w w7 := btr B6 b7
  have Rx_7 := heap_of b7 _ _ _ Rx_6
  have Ra_7 := heap_of b7 _ _ _ Ra_6
  have Rh_7 := heap_of b7 _ _ _ Rh_6
  clear b7 B6 Rx_6 cx_6_0 cx_6_1 cx_6_2 cx_6_3 Ra_6 ca_6_0 ca_6_1 Rh_6 ch_6_0 ch_6_1
  obtain ⟨cx_7_0, cx_7_1, cx_7_2, cx_7_3⟩ := cells4s Rx_7
  obtain ⟨ca_7_0, ca_7_1⟩ := cells2s Ra_7
  obtain ⟨ch_7_0, ch_7_1⟩ := cells2s Rh_7
  go_wp2_with fail
  refine (KM.out _).mono ?_
  rintro r w8 ⟨rfl, b8⟩
  have B8 : Below w.heap.size w w8 := btr B7 b8
  have Rx_8 := heap_of b8 _ _ _ Rx_7
  have Ra_8 := heap_of b8 _ _ _ Ra_7
  have Rh_8 := heap_of b8 _ _ _ Rh_7
  clear b8 B7 Rx_7 cx_7_0 cx_7_1 cx_7_2 cx_7_3 Ra_7 ca_7_0 ca_7_1 Rh_7 ch_7_0 ch_7_1
  obtain ⟨cx_8_0, cx_8_1, cx_8_2, cx_8_3⟩ := cells4s Rx_8
  obtain ⟨ca_8_0, ca_8_1⟩ := cells2s Ra_8
  obtain ⟨ch_8_0, ch_8_1⟩ := cells2s Rh_8
  go_wp2_with fail
  refine (KA.out _ (fatB FF.out B8) (tabB TT.out B8)).mono ?_
  rintro r w9 ⟨rfl, b9⟩
  have B9 : Below w.heap.size w w9 := btr B8 b9
  have Rx_9 := heap_of b9 _ _ _ Rx_8
  have Ra_9 := heap_of b9 _ _ _ Ra_8
  have Rh_9 := heap_of b9 _ _ _ Rh_8
  clear b9 B8 Rx_8 cx_8_0 cx_8_1 cx_8_2 cx_8_3 Ra_8 ca_8_0 ca_8_1 Rh_8 ch_8_0 ch_8_1
  obtain ⟨cx_9_0, cx_9_1, cx_9_2, cx_9_3⟩ := cells4s Rx_9
  obtain ⟨ca_9_0, ca_9_1⟩ := cells2s Ra_9
  obtain ⟨ch_9_0, ch_9_1⟩ := cells2s Rh_9
  go_wp2
  go_ret
  exact ⟨rfl, B9⟩
set_option maxRecDepth 100000 in
set_option maxHeartbeats 4000000 in
theorem nr_y (f m : Int) (b : Bool) (s t : ByteArray) (e : Int) (o : Bool) (c : Int) (i1 j1 i2 j2 : Nat) (w : World)
    (KS : Box (∀ w, Calls Tryz.prog 20 #[.agg #[.bool b, .string s, .string t, .int .i64 e]] w fun r w' => r = .returned (.bool true) ∧ Below w.heap.size w w'))
    (K1 : Box (∀ w, FAt w → TabAt w → Calls Tryz.prog 26 #[.int .u8 f, .int .u8 m, .agg #[.bool b, .string s, .string t, .int .i64 e]] w fun r w' => r = .returned (.tuple #[.bool o, .int .i64 c]) ∧ Below w.heap.size w w'))
    (K2 : Box (∀ w, Calls Tryz.prog 27 #[.int .u8 f, .int .u8 m, .agg #[.bool b, .string s, .string t, .int .i64 e]] w fun r w' => r = .returned (.tuple #[.bool o, .int .i64 c]) ∧ Below w.heap.size w w')) (wc : IntKind.i64.wrap c = c)
    (KN : Box (∀ w, FAt w → TabAt w → Calls Tryz.prog 28 #[.int .u8 f, .agg #[.bool b, .string s, .string t, .int .i64 e]] w fun r w' => r = .returned (.tuple #[.agg #[.int .u64 (i1 : Nat), .int .u64 (j1 : Nat)], .agg #[.int .u64 (i2 : Nat), .int .u64 (j2 : Nat)], .int .i64 0]) ∧ Below w.heap.size w w'))
    (KQ : Box (∀ w, Calls Tryz.prog 30 #[.int .u8 f, .agg #[.bool b, .string s, .string t, .int .i64 e]] w fun r w' => r = .returned (.tuple #[.agg #[.int .u64 (i1 : Nat), .int .u64 (j1 : Nat)], .agg #[.int .u64 (i2 : Nat), .int .u64 (j2 : Nat)], .int .i64 0]) ∧ Below w.heap.size w w'))
    (KR : Box (∀ w, Calls Tryz.prog 17 #[.int .u8 f] w fun r w' => r = .returned (.bool true) ∧ Below w.heap.size w w'))
    (KM : Box (∀ w, Calls Tryz.prog 29 #[.agg #[.bool b, .string s, .string t, .int .i64 e]] w fun r w' => r = .returned (.bool true) ∧ Below w.heap.size w w'))
    (KA : Box (∀ w, FAt w → TabAt w → Calls Tryz.prog 21 #[] w fun r w' => r = .returned (.bool true) ∧ Below w.heap.size w w'))
    (hT : FAt w) (hT2 : TabAt w) : Calls Tryz.prog 6 #[.int .u8 f, .int .u8 m, .agg #[.bool b, .string s, .string t, .int .i64 e]] w fun r w' => r = .returned (.bool true) ∧ Below w.heap.size w w' := by
  have FF := box hT
  have TT := box hT2
  clear hT hT2
  obtain ⟨Rx_0, B0⟩ := opn1 w (Obj.cells #[.bool b, .string s, .string t, .int .i64 e] 41)
  go_enter Tryz.func6, Tryz.ntmps6
  go_wp2_with fail
  refine (KS.out _).mono ?_
  rintro r w1 ⟨rfl, b1⟩
  have B1 : Below w.heap.size w w1 := btr B0 b1
  have Rx_1 := heap_of b1 _ _ _ Rx_0
  clear b1 B0 Rx_0
  obtain ⟨cx_1_0, cx_1_1, cx_1_2, cx_1_3⟩ := cells4s Rx_1
  go_wp2_with fail
  refine (K1.out _ (fatB FF.out B1) (tabB TT.out B1)).mono ?_
  rintro r w2 ⟨rfl, b2⟩
  have B2 : Below w.heap.size w w2 := btr B1 b2
  have Rx_2 := heap_of b2 _ _ _ Rx_1
  clear b2 B1 Rx_1 cx_1_0 cx_1_1 cx_1_2 cx_1_3
  obtain ⟨cx_2_0, cx_2_1, cx_2_2, cx_2_3⟩ := cells4s Rx_2
  go_wp2_with fail
  refine (K2.out _).mono ?_
  rintro r w3 ⟨rfl, b3⟩
  have B3 : Below w.heap.size w w3 := btr B2 b3
  have Rx_3 := heap_of b3 _ _ _ Rx_2
  clear b3 B2 Rx_2 cx_2_0 cx_2_1 cx_2_2 cx_2_3
  obtain ⟨cx_3_0, cx_3_1, cx_3_2, cx_3_3⟩ := cells4s Rx_3
  go_wp2_with fail
  refine (KN.out _ (fatB FF.out B3) (tabB TT.out B3)).mono ?_
  rintro r w4 ⟨rfl, b4⟩
  have B4 : Below w.heap.size w w4 := btr B3 b4
  have Rx_4 := heap_of b4 _ _ _ Rx_3
  clear b4 B3 Rx_3 cx_3_0 cx_3_1 cx_3_2 cx_3_3
  obtain ⟨cx_4_0, cx_4_1, cx_4_2, cx_4_3⟩ := cells4s Rx_4
  have S5 := box B4.size
  have Lx_5 : Box (w.heap.size < w4.heap.size) := box (Array.getElem?_eq_some_iff.1 Rx_4).1
  have Ra_5 := heap_alloc_last w4 (Obj.cells #[.int .u64 (i1 : Nat), .int .u64 (j1 : Nat)] 25)
  have B5 := btr B4 (bal w4 (Obj.cells #[.int .u64 (i1 : Nat), .int .u64 (j1 : Nat)] 25))
  have Rx_5 := heap_of (bal w4 (Obj.cells #[.int .u64 (i1 : Nat), .int .u64 (j1 : Nat)] 25)) _ _ _ Rx_4
  clear B4 Rx_4 cx_4_0 cx_4_1 cx_4_2 cx_4_3
  obtain ⟨cx_5_0, cx_5_1, cx_5_2, cx_5_3⟩ := cells4s Rx_5
  obtain ⟨ca_5_0, ca_5_1⟩ := cells2s Ra_5
  have S6 := box B5.size
  have Lx_6 : Box (w.heap.size < (w4.alloc (Obj.cells #[.int .u64 (i1 : Nat), .int .u64 (j1 : Nat)] 25)).heap.size) := box (Array.getElem?_eq_some_iff.1 Rx_5).1
  have La_6 : Box (w4.heap.size < (w4.alloc (Obj.cells #[.int .u64 (i1 : Nat), .int .u64 (j1 : Nat)] 25)).heap.size) := box (Array.getElem?_eq_some_iff.1 Ra_5).1
  have Z6 := box (size_al w4 (Obj.cells #[.int .u64 (i1 : Nat), .int .u64 (j1 : Nat)] 25))
  have Rh_6 : ((w4.alloc (Obj.cells #[.int .u64 (i1 : Nat), .int .u64 (j1 : Nat)] 25)).alloc (Obj.cells #[.int .u64 (i2 : Nat), .int .u64 (j2 : Nat)] 25)).heap[w4.heap.size + 1]? = some (Obj.cells #[.int .u64 (i2 : Nat), .int .u64 (j2 : Nat)] 25) := by have := heap_alloc_last (w4.alloc (Obj.cells #[.int .u64 (i1 : Nat), .int .u64 (j1 : Nat)] 25)) (Obj.cells #[.int .u64 (i2 : Nat), .int .u64 (j2 : Nat)] 25); simpa only [size_al] using this
  have B6 := btr B5 (bal (w4.alloc (Obj.cells #[.int .u64 (i1 : Nat), .int .u64 (j1 : Nat)] 25)) (Obj.cells #[.int .u64 (i2 : Nat), .int .u64 (j2 : Nat)] 25))
  have Rx_6 := heap_of (bal (w4.alloc (Obj.cells #[.int .u64 (i1 : Nat), .int .u64 (j1 : Nat)] 25)) (Obj.cells #[.int .u64 (i2 : Nat), .int .u64 (j2 : Nat)] 25)) _ _ _ Rx_5
  have Ra_6 := heap_of (bal (w4.alloc (Obj.cells #[.int .u64 (i1 : Nat), .int .u64 (j1 : Nat)] 25)) (Obj.cells #[.int .u64 (i2 : Nat), .int .u64 (j2 : Nat)] 25)) _ _ _ Ra_5
  clear B5 Rx_5 cx_5_0 cx_5_1 cx_5_2 cx_5_3 Ra_5 ca_5_0 ca_5_1
  obtain ⟨cx_6_0, cx_6_1, cx_6_2, cx_6_3⟩ := cells4s Rx_6
  obtain ⟨ca_6_0, ca_6_1⟩ := cells2s Ra_6
  obtain ⟨ch_6_0, ch_6_1⟩ := cells2s Rh_6
  go_wp2_with fail
  refine (KR.out _).mono ?_
  rintro r w7 ⟨rfl, b7⟩
  have B7 : Below w.heap.size w w7 := btr B6 b7
  have Rx_7 := heap_of b7 _ _ _ Rx_6
  have Ra_7 := heap_of b7 _ _ _ Ra_6
  have Rh_7 := heap_of b7 _ _ _ Rh_6
  clear b7 B6 Rx_6 cx_6_0 cx_6_1 cx_6_2 cx_6_3 Ra_6 ca_6_0 ca_6_1 Rh_6 ch_6_0 ch_6_1
  obtain ⟨cx_7_0, cx_7_1, cx_7_2, cx_7_3⟩ := cells4s Rx_7
  obtain ⟨ca_7_0, ca_7_1⟩ := cells2s Ra_7
  obtain ⟨ch_7_0, ch_7_1⟩ := cells2s Rh_7
  go_wp2_with fail
  refine (KM.out _).mono ?_
  rintro r w8 ⟨rfl, b8⟩
  have B8 : Below w.heap.size w w8 := btr B7 b8
  have Rx_8 := heap_of b8 _ _ _ Rx_7
  have Ra_8 := heap_of b8 _ _ _ Ra_7
  have Rh_8 := heap_of b8 _ _ _ Rh_7
  clear b8 B7 Rx_7 cx_7_0 cx_7_1 cx_7_2 cx_7_3 Ra_7 ca_7_0 ca_7_1 Rh_7 ch_7_0 ch_7_1
  obtain ⟨cx_8_0, cx_8_1, cx_8_2, cx_8_3⟩ := cells4s Rx_8
  obtain ⟨ca_8_0, ca_8_1⟩ := cells2s Ra_8
  obtain ⟨ch_8_0, ch_8_1⟩ := cells2s Rh_8
  go_wp2_with fail
  refine (KQ.out _).mono ?_
  rintro r w9 ⟨rfl, b9⟩
  have B9 : Below w.heap.size w w9 := btr B8 b9
  have Rx_9 := heap_of b9 _ _ _ Rx_8
  have Ra_9 := heap_of b9 _ _ _ Ra_8
  have Rh_9 := heap_of b9 _ _ _ Rh_8
  clear b9 B8 Rx_8 cx_8_0 cx_8_1 cx_8_2 cx_8_3 Ra_8 ca_8_0 ca_8_1 Rh_8 ch_8_0 ch_8_1
  obtain ⟨cx_9_0, cx_9_1, cx_9_2, cx_9_3⟩ := cells4s Rx_9
  obtain ⟨ca_9_0, ca_9_1⟩ := cells2s Ra_9
  obtain ⟨ch_9_0, ch_9_1⟩ := cells2s Rh_9
  have S10 := box B9.size
  have Lx_10 : Box (w.heap.size < w9.heap.size) := box (Array.getElem?_eq_some_iff.1 Rx_9).1
  have La_10 : Box (w4.heap.size < w9.heap.size) := box (Array.getElem?_eq_some_iff.1 Ra_9).1
  have Lh_10 : Box (w4.heap.size + 1 < w9.heap.size) := box (Array.getElem?_eq_some_iff.1 Rh_9).1
  have Rc_10 := heap_alloc_last w9 (Obj.cells #[.int .u64 (i1 : Nat), .int .u64 (j1 : Nat)] 25)
  have B10 := btr B9 (bal w9 (Obj.cells #[.int .u64 (i1 : Nat), .int .u64 (j1 : Nat)] 25))
  have Rx_10 := heap_of (bal w9 (Obj.cells #[.int .u64 (i1 : Nat), .int .u64 (j1 : Nat)] 25)) _ _ _ Rx_9
  have Ra_10 := heap_of (bal w9 (Obj.cells #[.int .u64 (i1 : Nat), .int .u64 (j1 : Nat)] 25)) _ _ _ Ra_9
  have Rh_10 := heap_of (bal w9 (Obj.cells #[.int .u64 (i1 : Nat), .int .u64 (j1 : Nat)] 25)) _ _ _ Rh_9
  clear B9 Rx_9 cx_9_0 cx_9_1 cx_9_2 cx_9_3 Ra_9 ca_9_0 ca_9_1 Rh_9 ch_9_0 ch_9_1
  obtain ⟨cx_10_0, cx_10_1, cx_10_2, cx_10_3⟩ := cells4s Rx_10
  obtain ⟨ca_10_0, ca_10_1⟩ := cells2s Ra_10
  obtain ⟨ch_10_0, ch_10_1⟩ := cells2s Rh_10
  obtain ⟨cc_10_0, cc_10_1⟩ := cells2s Rc_10
  have S11 := box B10.size
  have Lx_11 : Box (w.heap.size < (w9.alloc (Obj.cells #[.int .u64 (i1 : Nat), .int .u64 (j1 : Nat)] 25)).heap.size) := box (Array.getElem?_eq_some_iff.1 Rx_10).1
  have La_11 : Box (w4.heap.size < (w9.alloc (Obj.cells #[.int .u64 (i1 : Nat), .int .u64 (j1 : Nat)] 25)).heap.size) := box (Array.getElem?_eq_some_iff.1 Ra_10).1
  have Lh_11 : Box (w4.heap.size + 1 < (w9.alloc (Obj.cells #[.int .u64 (i1 : Nat), .int .u64 (j1 : Nat)] 25)).heap.size) := box (Array.getElem?_eq_some_iff.1 Rh_10).1
  have Lc_11 : Box (w9.heap.size < (w9.alloc (Obj.cells #[.int .u64 (i1 : Nat), .int .u64 (j1 : Nat)] 25)).heap.size) := box (Array.getElem?_eq_some_iff.1 Rc_10).1
  have Z11 := box (size_al w9 (Obj.cells #[.int .u64 (i1 : Nat), .int .u64 (j1 : Nat)] 25))
  have Rd_11 : ((w9.alloc (Obj.cells #[.int .u64 (i1 : Nat), .int .u64 (j1 : Nat)] 25)).alloc (Obj.cells #[.int .u64 (i2 : Nat), .int .u64 (j2 : Nat)] 25)).heap[w9.heap.size + 1]? = some (Obj.cells #[.int .u64 (i2 : Nat), .int .u64 (j2 : Nat)] 25) := by have := heap_alloc_last (w9.alloc (Obj.cells #[.int .u64 (i1 : Nat), .int .u64 (j1 : Nat)] 25)) (Obj.cells #[.int .u64 (i2 : Nat), .int .u64 (j2 : Nat)] 25); simpa only [size_al] using this
  have B11 := btr B10 (bal (w9.alloc (Obj.cells #[.int .u64 (i1 : Nat), .int .u64 (j1 : Nat)] 25)) (Obj.cells #[.int .u64 (i2 : Nat), .int .u64 (j2 : Nat)] 25))
  have Rx_11 := heap_of (bal (w9.alloc (Obj.cells #[.int .u64 (i1 : Nat), .int .u64 (j1 : Nat)] 25)) (Obj.cells #[.int .u64 (i2 : Nat), .int .u64 (j2 : Nat)] 25)) _ _ _ Rx_10
  have Ra_11 := heap_of (bal (w9.alloc (Obj.cells #[.int .u64 (i1 : Nat), .int .u64 (j1 : Nat)] 25)) (Obj.cells #[.int .u64 (i2 : Nat), .int .u64 (j2 : Nat)] 25)) _ _ _ Ra_10
  have Rh_11 := heap_of (bal (w9.alloc (Obj.cells #[.int .u64 (i1 : Nat), .int .u64 (j1 : Nat)] 25)) (Obj.cells #[.int .u64 (i2 : Nat), .int .u64 (j2 : Nat)] 25)) _ _ _ Rh_10
  have Rc_11 := heap_of (bal (w9.alloc (Obj.cells #[.int .u64 (i1 : Nat), .int .u64 (j1 : Nat)] 25)) (Obj.cells #[.int .u64 (i2 : Nat), .int .u64 (j2 : Nat)] 25)) _ _ _ Rc_10
  clear B10 Rx_10 cx_10_0 cx_10_1 cx_10_2 cx_10_3 Ra_10 ca_10_0 ca_10_1 Rh_10 ch_10_0 ch_10_1 Rc_10 cc_10_0 cc_10_1
  obtain ⟨cx_11_0, cx_11_1, cx_11_2, cx_11_3⟩ := cells4s Rx_11
  obtain ⟨ca_11_0, ca_11_1⟩ := cells2s Ra_11
  obtain ⟨ch_11_0, ch_11_1⟩ := cells2s Rh_11
  obtain ⟨cc_11_0, cc_11_1⟩ := cells2s Rc_11
  obtain ⟨cd_11_0, cd_11_1⟩ := cells2s Rd_11
  go_wp2_with fail
  refine (KA.out _ (fatB FF.out B11) (tabB TT.out B11)).mono ?_
  rintro r w12 ⟨rfl, b12⟩
  have B12 : Below w.heap.size w w12 := btr B11 b12
  have Rx_12 := heap_of b12 _ _ _ Rx_11
  have Ra_12 := heap_of b12 _ _ _ Ra_11
  have Rh_12 := heap_of b12 _ _ _ Rh_11
  have Rc_12 := heap_of b12 _ _ _ Rc_11
  have Rd_12 := heap_of b12 _ _ _ Rd_11
  clear b12 B11 Rx_11 cx_11_0 cx_11_1 cx_11_2 cx_11_3 Ra_11 ca_11_0 ca_11_1 Rh_11 ch_11_0 ch_11_1 Rc_11 cc_11_0 cc_11_1 Rd_11 cd_11_0 cd_11_1
  obtain ⟨cx_12_0, cx_12_1, cx_12_2, cx_12_3⟩ := cells4s Rx_12
  obtain ⟨ca_12_0, ca_12_1⟩ := cells2s Ra_12
  obtain ⟨ch_12_0, ch_12_1⟩ := cells2s Rh_12
  obtain ⟨cc_12_0, cc_12_1⟩ := cells2s Rc_12
  obtain ⟨cd_12_0, cd_12_1⟩ := cells2s Rd_12
  go_wp2
  go_ret
  exact ⟨rfl, B12⟩
end Go.Proofs.YtbmhfcppaajgbaaGreatDoor
namespace Go.Proofs.YtbmhfcppaajgbaaGreatDoor
set_option maxRecDepth 100000
open WMath
open Go.ChangeShapes Go.WideShapes Go.ChangeAt Go.RowKit

theorem trod_row4 {H : Type} {enc : TypeId × Value → H} {P : Program} {w : World} {base : Nat} {spare : Nat → Bool} {held : Bool} {t : TypeId} {f0 f1 f2 f3 : Field} {fuel : Nat} {cs : List Value} {x : DataW H × List MemPlace} (ht : P.underlying t = some (.struct #[f0, f1, f2, f3])) (h : DataW.trod enc P w base spare held fuel t cs = some x) :
    ∃ y0 y1 y2 y3 n, x = (.agg [y0.1, y1.1, y2.1, y3.1], y0.2 ++ (y1.2 ++ (y2.2 ++ y3.2))) ∧ DataW.trod enc P w base spare held n f0.type ((cs.drop f0.offset).take (P.cellsOf f0.type)) = some y0 ∧
      DataW.trod enc P w base spare held n f1.type ((cs.drop f1.offset).take (P.cellsOf f1.type)) = some y1 ∧ DataW.trod enc P w base spare held n f2.type ((cs.drop f2.offset).take (P.cellsOf f2.type)) = some y2 ∧
      DataW.trod enc P w base spare held n f3.type ((cs.drop f3.offset).take (P.cellsOf f3.type)) = some y3 := by
  obtain ⟨xs, n, _, rfl, hl, hlen, hf⟩ := DataW.trod_struct ht h
  match xs, hlen with
  | [y0, y1, y2, y3], _ => exact ⟨y0, y1, y2, y3, n, by simp, by simpa using hf 0 f0 rfl, by simpa using hf 1 f1 rfl, by simpa using hf 2 f2 rfl, by simpa using hf 3 f3 rfl⟩


theorem list4' {α : Type} (l : List α) (h : l.length = 4) : ∃ a b c d, l = [a, b, c, d] := by
  match l, h with
  | [a, b, c, d], _ => exact ⟨a, b, c, d, rfl⟩

theorem row_read {w : World} {fuel : Nat} {enc : TypeId × Value → Unit} {base : Nat} {spare : Nat → Bool} {held : Bool} {l : List Value} {a b c : Int} {s : List UInt8} {p : List MemPlace}
    (h : DataW.trod enc Tryz.prog w base spare held fuel 210 l = some (.agg [.lit (.int .i64 a), .lit (.int .i64 b), .lit (.int .i64 c), .lit (.string s)], p)) (hl : l.length = 4) :
    l = [.int .i64 a, .int .i64 b, .int .i64 c, .string ⟨⟨s⟩⟩] := by
  have h3 : Tryz.prog.cellsOf 3 = 1 := by kernel_rfl
  have h9 : Tryz.prog.cellsOf 9 = 1 := by kernel_rfl
  obtain ⟨c0, c1, c2, c3, rfl⟩ := list4' l hl
  obtain ⟨y0, y1, y2, y3, n, hx, g0, g1, g2, g3⟩ := trod_row4 Tryz.underlying210 h
  simp only [h3, h9] at g0 g1 g2 g3
  obtain ⟨x0, e0, k0, w0⟩ := DataW.trod_int Tryz.underlying3 g0
  obtain ⟨x1, e1, k1, w1⟩ := DataW.trod_int Tryz.underlying3 g1
  obtain ⟨x2, e2, k2, w2⟩ := DataW.trod_int Tryz.underlying3 g2
  obtain ⟨x3, e3, k3, w3⟩ := DataW.trod_string Tryz.underlying9 g3
  simp at e0 e1 e2 e3
  subst e0 e1 e2 e3
  rw [k0, k1, k2, k3] at hx
  simp at hx
  obtain ⟨⟨rfl, rfl, rfl, rfl⟩, _⟩ := hx
  rfl

def laid7 : List (String × DataW Unit) := [("abacus/shape.formats", Rows.laid_abacus_shape_formats)]
theorem gTab7 : Tryz.prog.globalNamed "abacus/shape.formats" = some 0 := by kernel_rfl
theorem gType7 : (Tryz.prog.globals[0]?).map (·.type) = some 265 := by kernel_rfl

theorem of_laid7 {W : World} (h : laidMetH Tryz.prog laid7 W) : FAt W := by
  have hce : Tryz.prog.cellsOf 210 = 4 := by kernel_rfl
  have hct : Tryz.prog.cellsOf 265 = 16 := by kernel_rfl
  rw [MakeChecks.laidMetH_plain _ _ _ (by kernel_rfl)] at h
  obtain ⟨ps, ⟨g', t', cs, fuel, p, q, hg', ht', hvar, hd, _, _⟩, _⟩ := h
  obtain rfl := Option.some.inj (gTab7.symm.trans hg')
  obtain rfl := Option.some.inj (gType7.symm.trans ht')
  obtain ⟨xs, m, rfl, hx, hl, hxl, hel⟩ := DataW.trod_array Tryz.underlying265 hd
  rw [hce] at hel
  rw [hct] at hl
  have hl2 : cs.size = 16 := by simpa using hl
  match xs, hxl with
  | [y0, y1, y2, y3], _ =>
    have hx1 := congrArg Prod.fst hx
    simp [Rows.laid_abacus_shape_formats] at hx1
    obtain ⟨h0, h1, h2, h3⟩ := hx1
    have q0 := hel 0 (by decide)
    have q1 := hel 1 (by decide)
    have q2 := hel 2 (by decide)
    have q3 := hel 3 (by decide)
    simp only [List.getElem?_cons_zero, List.getElem?_cons_succ] at q0 q1 q2 q3
    have z0 := row_read (p := y0.2) (by rw [q0, h0]) (by simp; omega)
    have z1 := row_read (p := y1.2) (by rw [q1, h1]) (by simp; omega)
    have z2 := row_read (p := y2.2) (by rw [q2, h2]) (by simp; omega)
    have z3 := row_read (p := y3.2) (by rw [q3, h3]) (by simp; omega)
    have hcs : ∀ i, i < 16 → cs.toList[i]? = fcells[i]? := by
      intro i hi
      have e0 : cs.toList[i]? = (cs.toList.drop (i / 4 * 4))[i % 4]? := by rw [List.getElem?_drop]; congr 1; omega
      have e1 : (cs.toList.drop (i / 4 * 4))[i % 4]? = ((cs.toList.drop (i / 4 * 4)).take 4)[i % 4]? := by rw [List.getElem?_take, if_pos (by omega)]
      rw [e0, e1]
      have : i / 4 = 0 ∨ i / 4 = 1 ∨ i / 4 = 2 ∨ i / 4 = 3 := by omega
      have hj : i % 4 = 0 ∨ i % 4 = 1 ∨ i % 4 = 2 ∨ i % 4 = 3 := by omega
      have hi2 : i = i / 4 * 4 + i % 4 := by omega
      rcases this with e | e | e | e <;> rw [e] at hi2 ⊢ <;> rcases hj with k | k | k | k <;> rw [k] at hi2 ⊢ <;> subst hi2 <;> first | (rw [z0]; rfl) | (rw [z1]; rfl) | (rw [z2]; rfl) | (rw [z3]; rfl)
    intro i hi
    rw [World.var?_cell gTab7 hvar i, ← hcs i hi]
    simp

end Go.Proofs.YtbmhfcppaajgbaaGreatDoor
namespace Go.Proofs.YtbmhfcppaajgbaaGreatDoor
set_option maxRecDepth 100000
open WMath
open Go.ChangeShapes Go.WideShapes Go.ChangeAt Go.RowKit

def tabZ8 : List Int := [0, 1, 56, 2, 57, 49, 28, 3, 61, 58, 42, 50, 38, 29, 17, 4, 62, 47, 59, 36, 45, 43, 51, 22, 53, 39, 33, 30, 24, 18, 12, 5, 63, 55, 48, 27, 60, 41, 37, 16, 46, 35, 44, 21, 52, 32, 23, 11, 54, 26, 40, 15, 34, 20, 31, 10, 25, 14, 19, 9, 13, 8, 7, 6]
def laid8 : List (String × DataW Unit) := [("math/bits.deBruijn64tab", Rows.laid_math_bits_deBruijn64tab), ("abacus/shape.formats", Rows.laid_abacus_shape_formats)]
theorem gTab8 : Tryz.prog.globalNamed "math/bits.deBruijn64tab" = some 5 := by kernel_rfl
theorem gType8 : (Tryz.prog.globals[5]?).map (·.type) = some 323 := by kernel_rfl
theorem cells58 : Tryz.prog.cellsOf 5 = 1 := by kernel_rfl
theorem cellsT8 : Tryz.prog.cellsOf 323 = 64 := by kernel_rfl
theorem tab_at8 : ∀ i : Fin 64, tabZ8.getD i.val 0 = ((Lib.deBruijn64tab.getD i.val 0 : Nat) : Int) := by decide +kernel

theorem of_laid8 {W : World} (h : laidMetH Tryz.prog laid8 W) : TabAt W ∧ FAt W := by
  rw [MakeChecks.laidMetH_plain _ _ _ (by kernel_rfl)] at h
  have ht := laidMet.tail h
  constructor
  · have h' : laidMet Tryz.prog (("math/bits.deBruijn64tab", Lib.tabData .u8 tabZ8) :: [("abacus/shape.formats", Rows.laid_abacus_shape_formats)]) W := h
    have hT := Lib.tabIs_of_head gTab8 gType8 Tryz.underlying323 Tryz.underlying5 cells58 cellsT8 h'
    intro i hi
    have hc := hT.cell gTab8 i (show i < tabZ8.length from hi)
    rw [tab_at8 ⟨i, hi⟩] at hc
    exact hc
  · refine of_laid7 ?_
    rw [MakeChecks.laidMetH_plain _ _ _ (by kernel_rfl)]
    exact ht

theorem door_met8 (os : Os) (args : Array Value) : laidMetH Tryz.prog laid8 ((World.doorLaid Tryz.prog 400 os).forCall (fun _ _ => 0) ⟨#[], args, []⟩).memory :=
  laidMetH_of_parts3 (fuel := 8) (laidMet_of_run' 8 (by kernel_rfl) (by kernel_rfl)) (by kernel_rfl) (by kernel_rfl)
end Go.Proofs.YtbmhfcppaajgbaaGreatDoor
