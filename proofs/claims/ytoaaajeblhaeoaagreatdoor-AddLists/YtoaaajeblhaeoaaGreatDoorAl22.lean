/-
  What the functions that the statement reaches return: part 22 (R24, O1, O2, D1, O3).
-/
import Derived.Test.YtoaaajeblhaeoaaGreatDoorAl21
namespace Go.Proofs.YtoaaajeblhaeoaaGreatDoor
set_option maxRecDepth 100000
set_option maxHeartbeats 40000000
open Go.RowKit WMath XMath
set_option linter.unusedSimpArgs false
set_option linter.unusedVariables false
def Fnd0 (f : Int) (x : XN) (T : Int) (W : Nat) (more : Bool) : Prop := T = xI x ∧ ∀ k : Nat, T - fP f + (k : Int) ≤ 2000000 → flX x (T - fP f + (k : Int)) = ((W / 2 ^ k, !more && decide (W % 2 ^ k = 0)), 0)
theorem fnd_x0 {f : Int} (hf : yU f) {x : XN} (hx : x.can) (n0 : x.n ≠ 0) (hd : nl x.d ≤ 8192) : Wok f (xW f x) ∧ Fnd0 f x (xI x) (xW f x) (xM f x) := by
 obtain ⟨t1, t2⟩ := top_lim hx
 obtain ⟨a, b⟩ := x_num hf x hx n0 hd t1 t2
 exact ⟨a, rfl, b⟩
theorem rfind0 (f : Int) (hf : yU f) (b : Bool) (n d : Nat) (s t : ByteArray) (e : Int) (hs : yI n = s) (ht : yI d = t) (hc : (XN.mk b n d e).can) (T : Int) (t1 : -1300000 ≤ T) (t2 : T ≤ 1300000) (W : Nat) (more : Bool) (lw : nl W ≤ 8192) (hF : Fnd0 f ⟨b, n, d, e⟩ T W more) (k : Nat) (A : Int) (hA : T - fP f + 1 + (k : Int) = A) (hA2 : A ≤ 900000) (M : ByteArray) (hM : yI (rS W k) = M) (w : World) :
  Calls Tryz.prog 255 #[.agg #[.bool b, .string s, .string t, .int .i64 e], .bool false, .int .i64 A] w fun r w' => r = .returned (.agg #[.string M, .int .i64 A, .int .i64 (hfV (rH W k) (rM W k more)), .bool (!(rH W k || rM W k more))]) ∧ Below w.heap.size w w' := by
 have p := fp8 hf
 have n4 := (nm8 hf).2.2.2.1
 have d1 : nl (W / 2 ^ k) ≤ 8192 := Nat.le_trans (xE _ _ (Nat.div_le_self _ _)) lw
 have KL : zO (∀ w, Calls Tryz.prog 300 #[.string (yI (W / 2 ^ k))] w fun r w' => r = .returned (.bool (rH W k)) ∧ Below w.heap.size w w') := zJ (fun w => rf_last _ _ _ rfl (by omega) (last_is W k) w)
 obtain ⟨hTx, hF⟩ := hF
 have F1 := hF (k + 1) (by omega)
 have F2 := hF k (by omega)
 rw [cut_two, ex_is, show T - fP f + ((k + 1 : Nat) : Int) = A by omega] at F1
 rw [wh_is] at F2
 have K1 : zO (∀ w, Calls Tryz.prog 299 #[.agg #[.bool b, .string s, .string t, .int .i64 e], .int .i64 A] w fun r w' => r = .returned (.tuple #[.string M, .bool (!(rH W k || rM W k more)), .int .i64 0]) ∧ Below w.heap.size w w') := zJ (fun w => rFloor_ok b n d e s t A _ _ 0 M hs ht hc (by omega) (by omega) F1 hM w)
 have K2 : zO (∀ w, Calls Tryz.prog 299 #[.agg #[.bool b, .string s, .string t, .int .i64 e], .int .i64 (T - fP f + (k : Int))] w fun r w' => r = .returned (.tuple #[.string (yI (W / 2 ^ k)), .bool (!rM W k more), .int .i64 0]) ∧ Below w.heap.size w w') := zJ (fun w => rFloor_ok b n d e s t _ _ _ 0 _ hs ht hc (by omega) (by omega) F2 rfl w)
 have a1 : IntKind.i64.wrap (A - 1) = T - fP f + (k : Int) := by rw [zR _ (by omega) (by omega)]; omega
 generalize rH W k = H at *
 generalize rM W k more = R at *
 cases H <;> cases R
 ·
  exact rf_find_ex b s t e A A A 0 0 M M M M M M w K1
 ·
  exact rf_find_lo1 b s t e A _ A 0 0 M M _ M M M w K1 K2 KL a1
 ·
  exact rf_find_half b s t e A _ A 0 0 M M _ M M M w K1 K2 KL a1
 ·
  exact rf_find_hi b s t e A _ A 0 0 M M _ M M M w K1 K2 KL a1
theorem rtop0 (f : Int) (b : Bool) (n d : Nat) (s t : ByteArray) (e : Int) (hs : yI n = s) (ht : yI d = t) (hc : (XN.mk b n d e).can) (n0 : n ≠ 0) (T : Int) (W : Nat) (more : Bool) (hF : Fnd0 f ⟨b, n, d, e⟩ T W more) (w : World) : Calls Tryz.prog 253 #[.agg #[.bool b, .string s, .string t, .int .i64 e], .bool false] w fun r w' => r = .returned (.int .i64 T) ∧ Below w.heap.size w w' := by
 obtain ⟨t1, t2⟩ := top_lim hc
 exact rf_top b s t e T 0 w (zJ (fun w => rTop_ok b n d e s t T hs ht n0 hc hF.1.symm w))
theorem rtiny0 (f m : Int) (hf : yU f) (hm : 0 ≤ m ∧ m ≤ 4) (b : Bool) (n d : Nat) (s t : ByteArray) (e : Int) (hs : yI n = s) (ht : yI d = t) (hc : (XN.mk b n d e).can) (n0 : n ≠ 0) (T : Int) (t1 : -1300000 ≤ T) (t2 : T ≤ 1300000) (W : Nat) (more : Bool) (hW : Wok f W) (hF : Fnd0 f ⟨b, n, d, e⟩ T W more) (o : Bool) (ho : tnB f m b T W more = o) (w : World) :
  Calls Tryz.prog 258 #[.int .u8 f, .int .u8 m, .agg #[.bool b, .string s, .string t, .int .i64 e], .bool false] w fun r w' => r = .returned (.bool o) ∧ Below w.heap.size w w' := by
 have p := fp8 hf
 obtain ⟨n1, n2, n3, n4, n5, n6⟩ := nm8 hf
 have KT : zO (∀ w, Calls Tryz.prog 253 #[.agg #[.bool b, .string s, .string t, .int .i64 e], .bool false] w fun r w' => r = .returned (.int .i64 T) ∧ Below w.heap.size w w') := zJ (fun w => rtop0 f b n d s t e hs ht hc n0 T W more hF w)
 have KI : zO (∀ w, Calls Tryz.prog 106 #[.int .u8 f] w fun r w' => r = .returned (.int .i64 (1 - fE f)) ∧ Below w.heap.size w w') := zJ (fun w => r_emin_b f hf w)
 have i1 : IntKind.i64.wrap (1 - fE f - 1) = 1 - fE f - 1 := zR _ (by omega) (by omega)
 by_cases c1 : 1 - fE f ≤ T
 ·
  rw [tn_hi hf hW m b T more c1] at ho
  subst ho
  exact rf_tiny_hi f m b s t e false T _ 0 0 0 0 0 s s false false 0 w KT KI (decide_eq_true c1)
 by_cases c2 : T < 1 - fE f - 1
 ·
  rw [tn_lo hf hW m b T more c2] at ho
  subst ho
  exact rf_tiny_lo f m b s t e false T _ _ 0 0 0 0 s s false false 0 w KT KI (decide_eq_false c1) i1 (decide_eq_true c2)
 ·
  rw [tn_mid hf m b T more (by omega)] at ho
  have lim := (rG_lim hW m b 0 more).1
  exact rf_tiny_mid f m b s t e false T _ _ (fP f) (T - fP f) (T - fP f + 1) _ (yI (rS W 0)) (yI (rG m b W 0 more)) _ o _ w KT KI (zJ (fun w => r_prec_b f hf w))
   (zJ (fun w => rfind0 f hf b n d s t e hs ht hc T t1 t2 W more (nl_W hf hW) hF 0 _ (by omega) (by omega) _ rfl w))
   (zJ (fun w => rtaken m hm b W 0 more (nl_W hf hW) _ _ _ rfl rfl w))
   (zJ (fun w => xH (qF _ _ _ rfl (nl_small hf _ lim) rfl w))) (decide_eq_false c1) i1 (decide_eq_false c2) (zR _ (by omega) (by omega)) (zR _ (by omega) (by omega)) ho
theorem rdeliver0 (f m : Int) (hf : yU f) (hm : 0 ≤ m ∧ m ≤ 4) (b : Bool) (n d : Nat) (s t : ByteArray) (e : Int) (hs : yI n = s) (ht : yI d = t) (hc : (XN.mk b n d e).can) (n0 : n ≠ 0) (T : Int) (t1 : -1300000 ≤ T) (t2 : T ≤ 1300000) (W : Nat) (more : Bool) (hW : Wok f W) (hF : Fnd0 f ⟨b, n, d, e⟩ T W more) (M : Nat) (fl : Int) (hd : dlv f m b T W more = (M, fl)) (u v : Nat) (hv : xU M = (u, v)) (w : World) :
  Calls Tryz.prog 169 #[.int .u8 f, .int .u8 m, .agg #[.bool b, .string s, .string t, .int .i64 e], .bool false] w fun r w' => r = .returned (.tuple #[.agg #[.int .u64 u, .int .u64 v], .int .u8 fl]) ∧ Below w.heap.size w w' := by
 have p := fp8 hf
 obtain ⟨n1, n2, n3, n4, n5, n6⟩ := nm8 hf
 have KT : zO (∀ w, Calls Tryz.prog 253 #[.agg #[.bool b, .string s, .string t, .int .i64 e], .bool false] w fun r w' => r = .returned (.int .i64 T) ∧ Below w.heap.size w w') := zJ (fun w => rtop0 f b n d s t e hs ht hc n0 T W more hF w)
 have KP : zO (∀ w, Calls Tryz.prog 105 #[.int .u8 f] w fun r w' => r = .returned (.int .i64 (fP f)) ∧ Below w.heap.size w w') := zJ (fun w => r_prec_b f hf w)
 have KE : zO (∀ w, Calls Tryz.prog 110 #[.int .u8 f] w fun r w' => r = .returned (.int .i64 (fE f)) ∧ Below w.heap.size w w') := zJ (fun w => r_emax_b f hf w)
 have KI : zO (∀ w, Calls Tryz.prog 106 #[.int .u8 f] w fun r w' => r = .returned (.int .i64 (1 - fE f)) ∧ Below w.heap.size w w') := zJ (fun w => r_emin_b f hf w)
 by_cases c0 : fE f < T
 ·
  rw [dlv_over hf hW m b T more c0] at hd
  injection hd with a1 a2
  subst a1 a2
  exact rf_del_over f m b s t e false T _ _ 0 0 0 0 0 s s false false s s 0 0 u v false w KT KP KE (zJ (fun w => rover f m hf hm b u v hv w)) (decide_eq_true c0)
 have lim := rG_lim hW m b (dK f T) more
 have sl := nl_W hf hW
 have kk : stE f T - T = (dK f T : Int) := by unfold dK stE; omega
 have stx := st_lx hf T
 obtain ⟨S, hS⟩ : ∃ S, rG m b W (dK f T) more = S := ⟨_, rfl⟩
 have nlim := null_lim hf hW m b (dK f T) more
 have kb : dK f T ≤ 1400000 := by unfold dK stE; omega
 have jb : dJ f T ≤ 40000 := by unfold dJ stE; omega
 unfold dlv at hd
 rw [hS] at hd lim nlim
 have hj : dJ f T = 0 ∨ 2 ^ pV f ≤ S := by
  rcases jk (f := f) T with ⟨a, _⟩ | ⟨a, _⟩
  ·
   exact Or.inl a
  ·
   exact Or.inr (lim.2.1 a)
 obtain ⟨x, hx, xc, xz⟩ : ∃ x : XN, XMath.mk b S 1 (lx f + (dJ f T : Int)) = (x, 0) ∧ x.can ∧ (x.n = 0 ↔ S = 0) := by
  by_cases s0 : S = 0
  ·
   subst s0
   exact ⟨X0, mk_null _ _ _, x0_can, by decide⟩
  ·
   obtain ⟨a, c, d, _⟩ := mk_small hf b (dJ f T) S s0 lim.1 jb
   exact ⟨_, a, c, ⟨fun h => absurd h d, fun h => absurd h s0⟩⟩
 obtain ⟨xb, xn, xd, xe⟩ := x
 obtain ⟨i, j, ok, hij, hok1, hok2, hok3⟩ : ∃ i j ok, (S ≠ 0 → ∃ Mx, ofX f ⟨xb, xn, xd, xe⟩ = (Mx, ok) ∧ xU Mx = (i, j)) ∧ (ok = true → i = u ∧ j = v) ∧ (ok = true → ¬ fE f < stE f T - fP f + (zT S : Int)) ∧ (ok = false → fE f < stE f T - fP f + (zT S : Int)) := by
  by_cases s0 : S = 0
  ·
   have b0 : zT S = 0 := by rw [s0]; decide
   exact ⟨u, v, true, fun h => absurd s0 h, fun _ => ⟨rfl, rfl⟩, fun _ => by rw [b0]; unfold stE; omega, fun h => Bool.noConfusion h⟩
  ·
   obtain ⟨a, c, dd, tp⟩ := mk_small hf b (dJ f T) S s0 lim.1 jb
   rw [hx] at a
   injection a with a1 a2
   by_cases ov : fE f < stE f T - fP f + (zT S : Int)
   ·
    exact ⟨0, 0, false, fun _ => ⟨0, by rw [a1]; exact of_over hf b (dJ f T) S s0 lim.1 jb (by omega), rfl⟩, fun h => Bool.noConfusion h, fun h => Bool.noConfusion h, fun _ => ov⟩
   ·
    have hd2 := hd
    rw [if_neg ov] at hd2
    injection hd2 with h1 h2
    exact ⟨u, v, true, fun _ => ⟨M, by rw [a1, ← h1]; exact of_rep hf b (dJ f T) S s0 lim.1 hj (by omega), hv⟩, fun _ => ⟨rfl, rfl⟩, fun _ => ov, fun h => Bool.noConfusion h⟩
 have b0 : S = 0 → zT S = 0 := fun h => by rw [h]; decide
 have nul0 : S = 0 → M = xN f b ∧ fl = 3 := fun s0 => by
  obtain ⟨k3, kl⟩ := nlim s0
  have hj0 : dJ f T = 0 := by have := Nat.two_pow_pos (pV f); omega
  rw [if_neg (by rw [b0 s0]; unfold stE; omega)] at hd
  injection hd with h1 h2
  rw [if_pos kl, if_pos (tn_lo hf hW m b T more (by rcases jk (f := f) T with ⟨_, q⟩ | ⟨q, _⟩ <;> omega))] at h2
  refine ⟨?_, h2.symm⟩
  rw [← h1, hj0, s0]
  unfold eS xN qG
  rfl
 have KF : ∀ A0, A0 = stE f T → zO (∀ w, Calls Tryz.prog 255 #[.agg #[.bool b, .string s, .string t, .int .i64 e], .bool false, .int .i64 (A0 - fP f + 1)] w fun r w' => r = .returned (.agg #[.string (yI (rS W (dK f T))), .int .i64 (A0 - fP f + 1), .int .i64 (hfV (rH W (dK f T)) (rM W (dK f T) more)), .bool (!(rH W (dK f T) || rM W (dK f T) more))]) ∧ Below w.heap.size w w') := fun A0 h0 => zJ (fun w => rfind0 f hf b n d s t e hs ht hc T t1 t2 W more sl hF (dK f T) _ (by omega) (by rw [h0]; unfold stE; omega) _ rfl w)
 have KK : ∀ A, zO (∀ w, Calls Tryz.prog 256 #[.int .u8 m, .bool b, .agg #[.string (yI (rS W (dK f T))), .int .i64 A, .int .i64 (hfV (rH W (dK f T)) (rM W (dK f T) more)), .bool (!(rH W (dK f T) || rM W (dK f T) more))]] w fun r w' => r = .returned (.string (yI S)) ∧ Below w.heap.size w w') := fun A => zJ (fun w => rtaken m hm b W (dK f T) more sl A _ _ rfl (by rw [hS]) w)
 have KM : ∀ A0, A0 = stE f T → zO (∀ w, Calls Tryz.prog 161 #[.bool b, .string (yI S), .string ⟨#[1]⟩, .int .i64 (A0 - fP f + 1)] w fun r w' => r = .returned (.tuple #[.agg #[.bool xb, .string (yI xn), .string (yI xd), .int .i64 xe], .int .i64 0]) ∧ Below w.heap.size w w') := fun A0 h0 => zJ (fun w => rmake_ok b S 1 _ _ _ xb xn xd xe 0 _ _ rfl nb1 (nl_small hf S lim.1) nl1 (by decide) (by omega) (by omega) (by rw [h0, stx]; exact hx) rfl rfl w)
 have hn : ((yI xn).toList == []) = decide (S = 0) := by rw [od_nil xn _ rfl, decide_eq_decide]; exact xz
 have hfl : (if decide (S = 0) = true then (3 : Int) else if ok = true then (if (!(rH W (dK f T) || rM W (dK f T) more)) = true then 0 else if tnB f m b T W more = true then 3 else 1) else 5) = fl := by
  by_cases s0 : S = 0
  ·
   rw [if_pos (decide_eq_true s0)]
   exact (nul0 s0).2.symm
  ·
   rw [if_neg (by simpa using s0)]
   cases ok
   ·
    rw [if_neg (by decide)]
    rw [if_pos (hok3 rfl)] at hd
    injection hd
   ·
    rw [if_pos rfl]
    rw [if_neg (hok2 rfl)] at hd
    injection hd with h1 h2
    rw [← h2]
    generalize (rH W (dK f T) || rM W (dK f T) more) = q
    cases q <;> rfl
 have KZ : zO (decide (S = 0) = true → ∀ w, Calls Tryz.prog 91 #[.int .u8 f, .bool b] w fun r w' => r = .returned (.agg #[.int .u64 u, .int .u64 v]) ∧ Below w.heap.size w w') := zJ (fun h w => rz_zero f b hf u v (by rw [← (nul0 (of_decide_eq_true h)).1]; exact hv) w)
 have KB : zO (decide (S = 0) = false → ∀ w, Calls Tryz.prog 257 #[.int .u8 f, .agg #[.bool xb, .string (yI xn), .string (yI xd), .int .i64 xe]] w fun r w' => r = .returned (.tuple #[.agg #[.int .u64 i, .int .u64 j], .bool ok]) ∧ Below w.heap.size w w') := zJ (fun h w => by
  obtain ⟨Mx, q1, q2⟩ := hij (of_decide_eq_false h)
  exact rOf_is f hf xb xn xd _ _ xe rfl rfl xc Mx ok i j q1 q2 w)
 have KO : zO (ok = false → ∀ w, Calls Tryz.prog 254 #[.int .u8 f, .int .u8 m, .bool b] w fun r w' => r = .returned (.agg #[.int .u64 u, .int .u64 v]) ∧ Below w.heap.size w w') := zJ (fun h w => rover f m hf hm b u v (by
  rw [if_pos (hok3 h)] at hd
  injection hd with h1 h2
  rw [h1]
  exact hv) w)
 have KN : zO (∀ w, Calls Tryz.prog 258 #[.int .u8 f, .int .u8 m, .agg #[.bool b, .string s, .string t, .int .i64 e], .bool false] w fun r w' => r = .returned (.bool (tnB f m b T W more)) ∧ Below w.heap.size w w') := zJ (fun w => rtiny0 f m hf hm b n d s t e hs ht hc n0 T t1 t2 W more hW hF _ rfl w)
 by_cases lo : T < 1 - fE f
 ·
  have hst : 1 - fE f = stE f T := by unfold stE; omega
  exact rf_deliver_a f m b s t e false T (fE f) (fP f) (1 - fE f) (1 - fE f) _ (1 - fE f - fP f + 1) _ fl _ _ _ xb _ _ xe 0 u v i j ok _ _ w KT KP KE KI (KF _ hst) (KK _) (KM _ hst) KZ KB KO hok1 KN (decide_eq_false c0) (decide_eq_true lo) (zR _ (by omega) (by omega)) (zR _ (by omega) (by omega)) rfl hn hfl
 ·
  have hst : T = stE f T := by unfold stE; omega
  exact rf_deliver_b f m b s t e false T (fE f) (fP f) (1 - fE f) T _ (T - fP f + 1) _ fl _ _ _ xb _ _ xe 0 u v i j ok _ _ w KT KP KE KI (KF _ hst) (KK _) (KM _ hst) KZ KB KO hok1 KN (decide_eq_false c0) (decide_eq_false lo) (zR _ (by omega) (by omega)) (zR _ (by omega) (by omega)) rfl hn hfl
theorem rRound_is0 (f m : Int) (hf : yU f) (hm : 0 ≤ m ∧ m ≤ 4) (b : Bool) (n d : Nat) (s t : ByteArray) (e : Int) (hs : yI n = s) (ht : yI d = t) (hc : (XN.mk b n d e).can) (ln : nl n ≤ 8192) (ld : nl d ≤ 8192) (M : Nat) (fl : Int) (hd : rnd f m ⟨b, n, d, e⟩ = (M, fl)) (u v : Nat) (hv : xU M = (u, v)) (w : World) :
  Calls Tryz.prog 85 #[.int .u8 f, .int .u8 m, .agg #[.bool b, .string s, .string t, .int .i64 e]] w fun r w' => r = .returned (.tuple #[.agg #[.int .u64 u, .int .u64 v], .int .u8 fl, .int .i64 0]) ∧ Below w.heap.size w w' := by
 have KF : zO (∀ w, Calls Tryz.prog 168 #[.int .u8 f, .int .u8 m, .agg #[.bool b, .string s, .string t, .int .i64 e]] w fun r w' => r = .returned (.int .i64 0) ∧ Below w.heap.size w w') := zJ (fun w => rfault f m b s t e true (may_yes hs ht hc) 0 (flt_ok hf hm hs ht ln ld) w)
 unfold rnd at hd
 rcases x_cases hs ht hc with ⟨n0, rfl, rfl, rfl, rfl, rfl⟩ | ⟨n0, e0⟩
 ·
  rw [if_pos n0] at hd
  injection hd with h1 h2
  subst h1 h2
  injection hv with h3 h4
  subst h3 h4
  exact rf_Round_null f m w KF
 ·
  rw [if_neg n0] at hd
  obtain ⟨t1, t2⟩ := top_lim hc
  obtain ⟨q1, q2⟩ := fnd_x0 hf hc n0 ld
  exact rf_Round_ok f m b s t e u v fl w KF (zJ (fun w => rdeliver0 f m hf hm b n d s t e hs ht hc n0 _ (by omega) (by omega) _ _ q1 q2 M fl hd u v hv w)) (eq_nil n s hs n0)
end Go.Proofs.YtoaaajeblhaeoaaGreatDoor
namespace Go.Proofs.YtoaaajeblhaeoaaGreatDoor
set_option maxRecDepth 100000
set_option maxHeartbeats 40000000
open Go.RowKit WMath
set_option linter.unusedSimpArgs false
set_option linter.unusedVariables false
theorem op_endless (c : Nat) (o : Bool) (ho : (decide (c = 0) || decide (c = 7)) = o) (w : World) : Calls Tryz.prog 158 #[.int .u8 c] w fun r w' => r = .returned (.bool o) ∧ Below w.heap.size w w' := by
 by_cases c0 : c = 0
 ·
  rw [decide_eq_true c0, Bool.true_or] at ho
  subst ho
  have d0 : ((c : Int) == 0) = true := by rw [c0]; rfl
  clear c0
  have B0 : Below w.heap.size w w := (Below.refl _ _)
  go_enter Tryz.func158, Tryz.ntmps158
  go_wp2
  go_ret
  exact ⟨rfl, B0⟩
 ·
  rw [decide_eq_false c0, Bool.false_or] at ho
  have d0 : ((c : Int) == 0) = false := by rw [beq_eq_false_iff_ne]; omega
  have d7 : ((c : Int) == 7) = o := by
   rw [← ho]
   by_cases c7 : c = 7
   ·
    rw [decide_eq_true c7, c7]; rfl
   ·
    rw [decide_eq_false c7, beq_eq_false_iff_ne]; omega
  clear ho c0
  have B0 : Below w.heap.size w w := (Below.refl _ _)
  go_enter Tryz.func158, Tryz.ntmps158
  go_wp2
  go_ret
  exact ⟨rfl, B0⟩
theorem op_inf (f : Int) (neg : Bool) (u v : Nat) (w : World) (KI : zO (∀ w, yG w → Calls Tryz.prog 180 #[.int .u8 f, .int .u8 0, .bool neg] w fun r w' => r = .returned (.tuple #[.agg #[.int .u64 u, .int .u64 v], .int .u8 5, .int .i64 0]) ∧ Below w.heap.size w w')) (hT : yG w) : Calls Tryz.prog 172 #[.int .u8 f, .bool neg] w fun r w' => r = .returned (.agg #[.int .u64 u, .int .u64 v]) ∧ Below w.heap.size w w' := by
 have FF := zJ hT
 clear hT
 obtain ⟨Ac, B0⟩ := yL w (Obj.cells #[.int .u64 0, .int .u64 0] 25)
 go_enter Tryz.func172, Tryz.ntmps172
 go_wp2_with fail
 refine (KI.out _ (zZ FF.out B0)).mono ?_
 rintro r w1 ⟨rfl, b1⟩
 have B1 := zU B0 b1
 have Aa := zA b1 _ _ _ Ac
 clear b1 B0 Ac
 obtain ⟨Ad, Ae⟩ := zC Aa
 have S2 := zJ B1.size
 have Af := yE Aa
 have Ag := heap_alloc_last w1 (Obj.cells #[.int .u64 u, .int .u64 v] 25)
 have B2 := zU B1 (yO w1 (Obj.cells #[.int .u64 u, .int .u64 v] 25))
 have Ab := zA (yO w1 (Obj.cells #[.int .u64 u, .int .u64 v] 25)) _ _ _ Aa
 clear B1 Aa Ad Ae
 obtain ⟨Ah, Ai⟩ := zC Ab
 obtain ⟨Aj, Ak⟩ := zC Ag
 have q0 := fz (k := 0) Ab
 have q1 := fz (k := 1) Ab
 obtain ⟨E0, E1⟩ := zN Ab (.int .u64 u) (.int .u64 v)
 go_wp2
 exact bodyPost_ret (v := .agg #[.int .u64 u, .int .u64 v]) (by simp [results, Tryz.results172, go_sem, E0, E1]) rfl ⟨rfl, zM B2 (by first | exact Nat.le_refl _ | omega | (have := S2.out; have := Af.out; omega)) _ _⟩
theorem op_nan (f : Int) (iu iv a b c u v : Nat) (l o : Bool) (w : World) (KI : zO (∀ w, yG w → Calls Tryz.prog 172 #[.int .u8 f, .bool false] w fun r w' => r = .returned (.agg #[.int .u64 iu, .int .u64 iv]) ∧ Below w.heap.size w w'))
  (KO : zO (∀ w, Calls Tryz.prog 183 #[.agg #[.int .u64 iu, .int .u64 iv]] w fun r w' => r = .returned (.agg (cw 6 a)) ∧ Below w.heap.size w w'))
  (KR : zO (∀ w, Calls Tryz.prog 243 #[.agg (cw 6 a), .int .i64 1] w fun r w' => r = .returned (.tuple #[.agg (cw 6 b), .bool l]) ∧ Below w.heap.size w w'))
  (KU : zO (∀ w, Calls Tryz.prog 187 #[.agg (cw 6 a), .agg (cw 6 b)] w fun r w' => r = .returned (.agg (cw 6 c)) ∧ Below w.heap.size w w'))
  (KT : zO (∀ w, Calls Tryz.prog 204 #[.agg (cw 6 c)] w fun r w' => r = .returned (.tuple #[.agg #[.int .u64 u, .int .u64 v], .bool o]) ∧ Below w.heap.size w w')) (hT : yG w) : Calls Tryz.prog 157 #[.int .u8 f] w fun r w' => r = .returned (.agg #[.int .u64 u, .int .u64 v]) ∧ Below w.heap.size w w' := by
 have FF := zJ hT
 clear hT
 have hat := yB 6
 have hz := yT
 have hff := yQ
 have hs0 := qZ
 have hcs : ∀ x, ((cw 6 x).size = 6) = True := fun x => eq_true (z8 6 x)
 obtain ⟨Aq, B0⟩ := yL w (Obj.cells #[.int .u64 0, .int .u64 0] 25)
 go_enter Tryz.func157, Tryz.ntmps157
 go_wp2_with fail
 refine (KI.out _ (zZ FF.out B0)).mono ?_
 rintro r w1 ⟨rfl, b1⟩
 have B1 := zU B0 b1
 have Ah := zA b1 _ _ _ Aq
 clear b1 B0 Aq
 obtain ⟨Ar, As⟩ := zC Ah
 go_wp2_with fail
 refine (KO.out _).mono ?_
 rintro r w2 ⟨rfl, b2⟩
 have B2 := zU B1 b2
 have Aa := zA b2 _ _ _ Ah
 clear b2 B1 Ah Ar As
 obtain ⟨At, Au⟩ := zC Aa
 have S3 := zJ B2.size
 have Av := yE Aa
 have Ai := heap_alloc_last w2 (Obj.cells (cw 6 a) 71)
 have B3 := zU B2 (yO w2 (Obj.cells (cw 6 a) 71))
 have Aj := zA (yO w2 (Obj.cells (cw 6 a) 71)) _ _ _ Aa
 clear B2 Aa At Au
 obtain ⟨Aw, Ax⟩ := zC Aj
 have Ay := zE Ai
 go_wp2_with fail
 refine (KR.out _).mono ?_
 rintro r w4 ⟨rfl, b4⟩
 have B4 := zU B3 b4
 obtain ⟨Ab, Ac⟩ := zY b4 Aj Ai
 clear b4 B3 Aj Aw Ax Ai Ay
 obtain ⟨Az, AA⟩ := zC Ab
 have AB := zE Ac
 have S5 := zJ B4.size
 have AC := yE Ab
 have AD := yE Ac
 have Ak := heap_alloc_last w4 (Obj.cells (cw 6 b) 71)
 have B5 := zU B4 (yO w4 (Obj.cells (cw 6 b) 71))
 obtain ⟨Al, Am⟩ := zY (yO w4 (Obj.cells (cw 6 b) 71)) Ab Ac
 clear B4 Ab Az AA Ac AB
 obtain ⟨AE, AF⟩ := zC Al
 have AG := zE Am
 have AH := zE Ak
 go_wp2_with fail
 refine (KU.out _).mono ?_
 rintro r w6 ⟨rfl, b6⟩
 have B6 := zU B5 b6
 obtain ⟨An, Ao, Ap⟩ := yA b6 Al Am Ak
 clear b6 B5 Al AE AF Am AG Ak AH
 obtain ⟨AI, AJ⟩ := zC An
 have AK := zE Ao
 have AL := zE Ap
 go_wp2_with fail
 refine (KT.out _).mono ?_
 rintro r w7 ⟨rfl, b7⟩
 have B7 := zU B6 b7
 obtain ⟨Ad, Ae, Af⟩ := yA b7 An Ao Ap
 clear b7 B6 An AI AJ Ao AK Ap AL
 obtain ⟨AM, AN⟩ := zC Ad
 have AO := zE Ae
 have AP := zE Af
 have S8 := zJ B7.size
 have AQ := yE Ad
 have AR := yE Ae
 have AS := yE Af
 have AT := heap_alloc_last w7 (Obj.cells #[.int .u64 u, .int .u64 v] 25)
 have B8 := zU B7 (yO w7 (Obj.cells #[.int .u64 u, .int .u64 v] 25))
 obtain ⟨Ag, AU, AV⟩ := yA (yO w7 (Obj.cells #[.int .u64 u, .int .u64 v] 25)) Ad Ae Af
 clear B7 Ad AM AN Ae AO Af AP
 obtain ⟨AW, AX⟩ := zC Ag
 have AY := zE AU
 have AZ := zE AV
 obtain ⟨A0, A1⟩ := zC AT
 have q0 := fz (k := 0) Ag
 have q1 := fz (k := 1) Ag
 obtain ⟨E0, E1⟩ := zN Ag (.int .u64 u) (.int .u64 v)
 go_wp2
 exact bodyPost_ret (v := .agg #[.int .u64 u, .int .u64 v]) (by simp [results, Tryz.results157, go_sem, E0, E1]) rfl ⟨rfl, zM B8 (by first | exact Nat.le_refl _ | omega | (have := S3.out; have := Av.out; have := S5.out; have := AC.out; have := AD.out; have := S8.out; have := AQ.out; have := AR.out; have := AS.out; omega)) _ _⟩
def bls (l : List (Nat × Nat)) : Array Value := (l.flatMap fun p => [Value.int .u64 (p.1 : Nat), Value.int .u64 (p.2 : Nat)]).toArray
def okP (f : Int) (p : Nat × Nat) : Bool := okB f (p.2 + 18446744073709551616 * p.1)
theorem bls_at (l : List (Nat × Nat)) (k : Nat) (p : Nat × Nat) (h : l[k]? = some p) : (bls l)[k * 2]? = some (.int .u64 (p.1 : Nat)) ∧ (bls l)[k * 2 + 1]? = some (.int .u64 (p.2 : Nat)) := by
 unfold bls
 rw [List.getElem?_toArray, List.getElem?_toArray]
 induction l generalizing k with
 | nil => simp at h
 | cons a t ih =>
  cases k with
  | zero =>
   simp at h
   subst h
   simp
  | succ k =>
   simp only [List.getElem?_cons_succ] at h
   have := ih k h
   rw [show (k + 1) * 2 = k * 2 + 1 + 1 by omega]
   simpa using this
theorem bls_cell {w : World} {g : Nat} {T : TypeId} {l : List (Nat × Nat)} (row : w.heap[g]? = some (.cells (bls l) T)) (k : Nat) (p : Nat × Nat) (h : l[k]? = some p) : w.cell? ⟨g, k * 2, none⟩ = some (.int .u64 (p.1 : Nat)) ∧ w.cell? ⟨g, k * 2 + 1, none⟩ = some (.int .u64 (p.2 : Nat)) := by
 obtain ⟨a, b⟩ := bls_at l k p h
 exact ⟨(cell_of_row w g (k * 2) _ _ _ row).trans a, (cell_of_row w g (k * 2 + 1) _ _ _ row).trans b⟩
theorem op_may_no (f m : Int) (pu pv : Nat) (fl c : Int) (sl : Value) (hc : (c != 0) = true) (w : World)
  (KP : zO (∀ w, yG w → Calls Tryz.prog 93 #[.int .u8 f, .int .u8 m, .agg (rg false 0 0 false)] w fun r w' => r = .returned (.tuple #[.agg #[.int .u64 pu, .int .u64 pv], .int .u8 fl, .int .i64 c]) ∧ Below w.heap.size w w')) (hT : yG w) : Calls Tryz.prog 75 #[.int .u8 f, .int .u8 m, sl] w fun r w' => r = .returned (.bool false) ∧ Below w.heap.size w w' := by
 have FF := zJ hT
 clear hT
 have hp3 := rgz
 have B0 : Below w.heap.size w w := (Below.refl _ _)
 go_enter Tryz.func75, Tryz.ntmps75
 go_wp2_with fail
 refine (KP.out _ (zZ FF.out B0)).mono ?_
 rintro r w1 ⟨rfl, b1⟩
 have B1 := zU B0 b1
 clear b1 B0 
 have S2 := zJ B1.size
 have Aa := heap_alloc_last w1 (Obj.cells #[.int .u64 pu, .int .u64 pv] 25)
 have B2 := zU B1 (yO w1 (Obj.cells #[.int .u64 pu, .int .u64 pv] 25))
 clear B1 
 obtain ⟨Ab, Ac⟩ := zC Aa
 go_wp2
 go_ret
 exact ⟨rfl, B2⟩
theorem kClass_any (f : Int) (hf : yU f) (p : Nat × Nat) (h : p.1 < 18446744073709551616 ∧ p.2 < 18446744073709551616) (o : Bool) (ho : okP f p = o) : ∃ (c e : Int), (e != 0) = (!o) ∧ zO (∀ w, yG w → Calls Tryz.prog 24 #[.int .u8 f, .agg #[.int .u64 (p.1 : Nat), .int .u64 (p.2 : Nat)]] w fun r w' => r = .returned (.tuple #[.int .u8 c, .int .i64 e]) ∧ Below w.heap.size w w') := by
 have h0 : 0 ≤ f ∧ f ≤ 255 := by rcases hf with rfl | rfl | rfl | rfl <;> decide
 cases o
 ·
  exact ⟨0, 2, rfl, zJ (fun w hT => kClass_no f h0.1 h0.2 p.1 p.2 _ h.1 h.2 rfl ho w hT)⟩
 ·
  exact ⟨_, 0, rfl, zJ (fun w hT => kClass_yes f hf p.1 p.2 _ _ h.1 h.2 rfl ho rfl w hT)⟩
theorem op_may (f m : Int) (hf : yU f) (l : List (Nat × Nat)) (L g c : Nat) (T : TypeId) (w : World) (hl : l.length = L) (hL : L ≤ 1000) (hb : zO (∀ p ∈ l, p.1 < 18446744073709551616 ∧ p.2 < 18446744073709551616)) (row : w.heap[g]? = some (.cells (bls l) T)) (pu pv : Nat) (fl : Int)
  (KP : zO (∀ w, yG w → Calls Tryz.prog 93 #[.int .u8 f, .int .u8 m, .agg (rg false 0 0 false)] w fun r w' => r = .returned (.tuple #[.agg #[.int .u64 pu, .int .u64 pv], .int .u8 fl, .int .i64 0]) ∧ Below w.heap.size w w'))
  (o : Bool) (ho : l.all (okP f) = o) (hT : yG w) : Calls Tryz.prog 75 #[.int .u8 f, .int .u8 m, .slice (some ⟨g, 0, none⟩) L c] w fun r w' => r = .returned (.bool o) ∧ Below w.heap.size w w' := by
 have FF := zJ hT
 have HO := zJ ho
 have HL := zJ hl
 have HF := zJ hf
 clear ho hl hT hf
 have hp3 := rgz
 go_enter Tryz.func75, Tryz.ntmps75
 go_wp2_with fail
 refine (KP.out _ FF.out).mono ?_
 rintro r w1 ⟨rfl, b1⟩
 have BP := zU b1 (yO w1 (.cells #[.int .u64 pu, .int .u64 pv] 25))
 obtain ⟨V, hV⟩ : ∃ V, w1.alloc (.cells #[.int .u64 pu, .int .u64 pv] 25) = V := ⟨_, rfl⟩
 go_wp2
 rw [hV] at BP
 clear b1 KP hV
 go_loopw [26] (fun iv wr => ∃ k : Nat, k ≤ L ∧ iv = .int .i64 k ∧ Below w.heap.size w wr ∧ zO (∀ j p, j < k → l[j]? = some p → okP f p = true)) (fun iv _ => L - (intOf iv).toNat)
 case atStart => exact ⟨0, by omega, rfl, BP, zJ (fun j s hj => absurd hj (by omega))⟩
 case round =>
  obtain ⟨k, hk, rfl, bw, HA⟩ := hrel
  by_cases hlt : k < L
  ·
   obtain ⟨p, hs⟩ : ∃ p, l[k]? = some p := ⟨_, List.getElem?_eq_getElem (by rw [HL.out]; exact hlt)⟩
   obtain ⟨c1, c2⟩ := bls_cell (zA bw _ _ _ row) k p hs
   have dl : decide ((k : Int) < (L : Int)) = true := decide_eq_true (by omega)
   have HS := zJ hs
   obtain ⟨o1, hm⟩ : ∃ o1, okP f p = o1 := ⟨_, rfl⟩
   have HM := zJ hm
   obtain ⟨cc, ee, hee, KC⟩ := kClass_any f HF.out p (hb.out p (List.mem_of_getElem? hs)) o1 hm
   have FA : zO (yG (wr.alloc (.cells #[.int .u64 (p.1 : Nat), .int .u64 (p.2 : Nat)] 25))) := zJ (zZ FF.out (zU bw (yO _ _)))
   have BA := zU bw (yO wr (.cells #[.int .u64 (p.1 : Nat), .int .u64 (p.2 : Nat)] 25))
   clear hs hm
   cases o1
   ·
    have e : o = false := by
     rw [← HO.out, Bool.eq_false_iff]
     intro h
     rw [List.all_eq_true] at h
     have := h p (List.mem_of_getElem? HS.out)
     rw [HM.out] at this
     exact absurd this (by decide)
    subst e
    go_wp2_with fail
    refine (KC.out _ FA.out).mono ?_
    rintro r w2 ⟨rfl, b2⟩
    go_wp2
    go_ret
    exact ⟨rfl, zU BA b2⟩
   ·
    have NA : zO (∀ j p, j < k + 1 → l[j]? = some p → okP f p = true) := zJ (fun j p2 hj h2 => by
     by_cases e : j = k
     ·
      subst e
      rw [HS.out] at h2
      cases h2
      exact HM.out
     ·
      exact HA.out j p2 (by omega) h2)
    go_wp2_with fail
    refine (KC.out _ FA.out).mono ?_
    rintro r w2 ⟨rfl, b2⟩
    go_wp2
    go_roundw
    case rel => exact ⟨k + 1, by omega, by go_num, zU BA b2, NA⟩
    case measure => simp [intOf] <;> omega
  ·
   obtain rfl : k = L := by omega
   have e : o = true := by
    rw [← HO.out, List.all_eq_true]
    intro s hs
    obtain ⟨j, hj⟩ := List.mem_iff_getElem?.1 hs
    have := (List.getElem?_eq_some_iff.1 hj).1
    exact HA.out j s (by rw [← HL.out]; exact this) hj
   subst e
   have dl : decide ((k : Int) < (k : Int)) = false := by rw [decide_eq_false_iff_not]; omega
   go_wp2
   go_ret
   exact ⟨rfl, bw⟩
theorem add_add_yes (f m : Int) (x1 y1 x2 y2 u v p q : Nat) (fl c : Int) (w : World)
  (KF : zO (∀ (T : TypeId) (g : Nat) (w : World), w.heap.size = g → yG w → Calls Tryz.prog 75 #[.int .u8 f, .int .u8 m, .slice (some ⟨g, 0, none⟩) 2 2] (w.alloc (.cells #[.int .u64 x1, .int .u64 y1, .int .u64 x2, .int .u64 y2] T)) fun r w' => r = .returned (.bool true) ∧ Below w.heap.size w w'))
  (KT : zO (∀ w, yG w → Calls Tryz.prog 76 #[.int .u8 f, .int .u8 m, .agg #[.int .u64 x1, .int .u64 y1], .agg #[.int .u64 x2, .int .u64 y2]] w fun r w' => r = .returned (.tuple #[.agg #[.int .u64 u, .int .u64 v], .int .u8 fl, .int .i64 c]) ∧ Below w.heap.size w w'))
  (hT : yG w) : Calls Tryz.prog 30 #[.int .u8 f, .int .u8 m, .agg #[.int .u64 x1, .int .u64 y1], .agg #[.int .u64 x2, .int .u64 y2]] w fun r w' => r = .returned (.tuple #[.agg #[.int .u64 u, .int .u64 v], .int .u8 fl, .int .i64 c]) ∧ Below w.heap.size w w' := by
 have FF := zJ hT
 clear hT
 obtain ⟨Ab, Ac, Af, B0⟩ := opn3 w (Obj.cells #[.int .u64 x1, .int .u64 y1] 25) (Obj.cells #[.int .u64 x2, .int .u64 y2] 25) (Obj.cells #[.int .u64 0, .int .u64 0] 25)
 go_enter Tryz.func30, Tryz.ntmps30
 obtain ⟨Ah, Ai⟩ := zC Ab
 obtain ⟨Aj, Ak⟩ := zC Ac
 go_wp2_with fail
 refine (KF.out _ _ (((w.alloc (Obj.cells #[.int .u64 x1, .int .u64 y1] 25)).alloc (Obj.cells #[.int .u64 x2, .int .u64 y2] 25)).alloc (Obj.cells #[.int .u64 0, .int .u64 0] 25)) (by first | rfl | simp only [zW]) (zZ FF.out B0)).mono ?_
 rintro r w1 ⟨rfl, b1⟩
 have B1 := zU B0 b1
 obtain ⟨Ad, Ae, Ag⟩ := yA b1 Ab Ac Af
 clear b1 B0 Ab Ah Ai Ac Aj Ak Af
 obtain ⟨Al, Am⟩ := zC Ad
 obtain ⟨An, Ao⟩ := zC Ae
 go_wp2_with fail
 refine (KT.out _ (zZ FF.out B1)).mono ?_
 rintro r w2 ⟨rfl, b2⟩
 have B2 := zU B1 b2
 obtain ⟨Ap, Aq, Aa⟩ := yA b2 Ad Ae Ag
 clear b2 B1 Ad Al Am Ae An Ao Ag
 obtain ⟨Ar, As⟩ := zC Ap
 obtain ⟨At, Au⟩ := zC Aq
 obtain ⟨Av, Aw⟩ := zC Aa
 have q0 := fz (k := 0) Aa
 have q1 := fz (k := 1) Aa
 obtain ⟨E0, E1⟩ := zN Aa (.int .u64 u) (.int .u64 v)
 go_wp2
 exact bodyPost_ret (v := .tuple #[.agg #[.int .u64 u, .int .u64 v], .int .u8 fl, .int .i64 c]) (by simp [results, Tryz.results30, go_sem, E0, E1]) rfl ⟨rfl, zM B2 (by first | exact Nat.le_refl _ | omega | (skip; omega)) _ _⟩
theorem rSig_is (f : Int) (hf : yU f) (x y n c : Nat) (o : Bool) (hx : x < 18446744073709551616) (hy : y < 18446744073709551616) (hn : y + 18446744073709551616 * x = n) (hfit : Fit f n) (hc : kC f n = c) (ho : decide (c = 8) = o) (w : World) : Calls Tryz.prog 160 #[.int .u8 f, .agg #[.int .u64 x, .int .u64 y]] w fun r w' => r = .returned (.bool o) ∧ Below w.heap.size w w' := by
 have K1 := zJ (rk_class f hf x y n c hx hy hn hfit hc)
 have hd : ((c : Int) == 8) = o := by
  rw [← ho]
  by_cases c7 : c = 8
  ·
   rw [decide_eq_true c7, c7]; rfl
  ·
   rw [decide_eq_false c7, beq_eq_false_iff_ne]; omega
 clear hf hx hy hn hfit hc ho
 obtain ⟨Aa, B0⟩ := yL w (Obj.cells #[.int .u64 x, .int .u64 y] 25)
 go_enter Tryz.func160, Tryz.ntmps160
 go_wp2_with fail
 refine (K1.out _).mono ?_
 rintro r w1 ⟨rfl, b1⟩
 have B1 := zU B0 b1
 have Ab := zA b1 _ _ _ Aa
 clear b1 B0 Aa
 obtain ⟨Ac, Ad⟩ := zC Ab
 go_wp2
 go_ret
 exact ⟨rfl, B1⟩
theorem rInf_is (f : Int) (hf : yU f) (x y n c : Nat) (o : Bool) (hx : x < 18446744073709551616) (hy : y < 18446744073709551616) (hn : y + 18446744073709551616 * x = n) (hfit : Fit f n) (hc : kC f n = c) (ho : (decide (c = 0) || decide (c = 7)) = o) (w : World) : Calls Tryz.prog 80 #[.int .u8 f, .agg #[.int .u64 x, .int .u64 y]] w fun r w' => r = .returned (.bool o) ∧ Below w.heap.size w w' := by
 have K1 := zJ (rk_class f hf x y n c hx hy hn hfit hc)
 clear hf hx hy hn hfit hc
 by_cases c0 : c = 0
 ·
  rw [decide_eq_true c0, Bool.true_or] at ho
  subst ho
  have d0 : ((c : Int) == 0) = true := by rw [c0]; rfl
  clear c0
  obtain ⟨Aa, B0⟩ := yL w (Obj.cells #[.int .u64 x, .int .u64 y] 25)
  go_enter Tryz.func80, Tryz.ntmps80
  go_wp2_with fail
  refine (K1.out _).mono ?_
  rintro r w1 ⟨rfl, b1⟩
  have B1 := zU B0 b1
  have Ab := zA b1 _ _ _ Aa
  clear b1 B0 Aa
  obtain ⟨Ac, Ad⟩ := zC Ab
  go_wp2
  go_ret
  exact ⟨rfl, B1⟩
 ·
  rw [decide_eq_false c0, Bool.false_or] at ho
  have d0 : ((c : Int) == 0) = false := by rw [beq_eq_false_iff_ne]; omega
  have d7 : ((c : Int) == 7) = o := by
   rw [← ho]
   by_cases c7 : c = 7
   ·
    rw [decide_eq_true c7, c7]; rfl
   ·
    rw [decide_eq_false c7, beq_eq_false_iff_ne]; omega
  clear ho c0
  obtain ⟨Aa, B0⟩ := yL w (Obj.cells #[.int .u64 x, .int .u64 y] 25)
  go_enter Tryz.func80, Tryz.ntmps80
  go_wp2_with fail
  refine (K1.out _).mono ?_
  rintro r w1 ⟨rfl, b1⟩
  have B1 := zU B0 b1
  have Ab := zA b1 _ _ _ Aa
  clear b1 B0 Aa
  obtain ⟨Ac, Ad⟩ := zC Ab
  go_wp2
  go_ret
  exact ⟨rfl, B1⟩
theorem rZero_is (f : Int) (hf : yU f) (x y n c : Nat) (o : Bool) (hx : x < 18446744073709551616) (hy : y < 18446744073709551616) (hn : y + 18446744073709551616 * x = n) (hfit : Fit f n) (hc : kC f n = c) (ho : (decide (c = 3) || decide (c = 4)) = o) (w : World) : Calls Tryz.prog 38 #[.int .u8 f, .agg #[.int .u64 x, .int .u64 y]] w fun r w' => r = .returned (.bool o) ∧ Below w.heap.size w w' := by
 have K1 := zJ (rk_class f hf x y n c hx hy hn hfit hc)
 clear hf hx hy hn hfit hc
 by_cases c0 : c = 3
 ·
  rw [decide_eq_true c0, Bool.true_or] at ho
  subst ho
  have d0 : ((c : Int) == 3) = true := by rw [c0]; rfl
  clear c0
  obtain ⟨Aa, B0⟩ := yL w (Obj.cells #[.int .u64 x, .int .u64 y] 25)
  go_enter Tryz.func38, Tryz.ntmps38
  go_wp2_with fail
  refine (K1.out _).mono ?_
  rintro r w1 ⟨rfl, b1⟩
  have B1 := zU B0 b1
  have Ab := zA b1 _ _ _ Aa
  clear b1 B0 Aa
  obtain ⟨Ac, Ad⟩ := zC Ab
  go_wp2
  go_ret
  exact ⟨rfl, B1⟩
 ·
  rw [decide_eq_false c0, Bool.false_or] at ho
  have d0 : ((c : Int) == 3) = false := by rw [beq_eq_false_iff_ne]; omega
  have d7 : ((c : Int) == 4) = o := by
   rw [← ho]
   by_cases c7 : c = 4
   ·
    rw [decide_eq_true c7, c7]; rfl
   ·
    rw [decide_eq_false c7, beq_eq_false_iff_ne]; omega
  clear ho c0
  obtain ⟨Aa, B0⟩ := yL w (Obj.cells #[.int .u64 x, .int .u64 y] 25)
  go_enter Tryz.func38, Tryz.ntmps38
  go_wp2_with fail
  refine (K1.out _).mono ?_
  rintro r w1 ⟨rfl, b1⟩
  have B1 := zU B0 b1
  have Ab := zA b1 _ _ _ Aa
  clear b1 B0 Aa
  obtain ⟨Ac, Ad⟩ := zC Ab
  go_wp2
  go_ret
  exact ⟨rfl, B1⟩
theorem rf_no (f m : Int) (sl : Value) (w : World) (KR : zO (∀ w, Calls Tryz.prog 14 #[.int .u8 f] w fun r w' => r = .returned (.bool false) ∧ Below w.heap.size w w')) : Calls Tryz.prog 77 #[.int .u8 f, .int .u8 m, sl] w fun r w' => r = .returned (.bool false) ∧ Below w.heap.size w w' := by
 have B0 : Below w.heap.size w w := (Below.refl _ _)
 go_enter Tryz.func77, Tryz.ntmps77
 go_wp2_with fail
 refine (KR.out _).mono ?_
 rintro r w1 ⟨rfl, b1⟩
 have B1 := zU B0 b1
 clear b1 B0 
 go_wp2
 go_ret
 exact ⟨rfl, B1⟩
theorem rf_nom (f m : Int) (sl : Value) (w : World) (KR : zO (∀ w, Calls Tryz.prog 14 #[.int .u8 f] w fun r w' => r = .returned (.bool true) ∧ Below w.heap.size w w')) (KM : zO (∀ w, Calls Tryz.prog 19 #[.int .u8 m] w fun r w' => r = .returned (.bool false) ∧ Below w.heap.size w w')) : Calls Tryz.prog 77 #[.int .u8 f, .int .u8 m, sl] w fun r w' => r = .returned (.bool false) ∧ Below w.heap.size w w' := by
 have B0 : Below w.heap.size w w := (Below.refl _ _)
 go_enter Tryz.func77, Tryz.ntmps77
 go_wp2_with fail
 refine (KR.out _).mono ?_
 rintro r w1 ⟨rfl, b1⟩
 have B1 := zU B0 b1
 clear b1 B0 
 go_wp2_with fail
 refine (KM.out _).mono ?_
 rintro r w2 ⟨rfl, b2⟩
 have B2 := zU B1 b2
 clear b2 B1 
 go_wp2
 go_ret
 exact ⟨rfl, B2⟩
theorem rf_list (f m : Int) (h0 : 0 ≤ f) (l : List (Nat × Nat)) (L g c : Nat) (T : TypeId) (w : World) (hl : l.length = L) (hL : L ≤ 1000) (hb : zO (∀ p ∈ l, p.1 < 18446744073709551616 ∧ p.2 < 18446744073709551616)) (row : w.heap[g]? = some (.cells (bls l) T))
  (KR : zO (∀ w, Calls Tryz.prog 14 #[.int .u8 f] w fun r w' => r = .returned (.bool true) ∧ Below w.heap.size w w')) (KM : zO (∀ w, Calls Tryz.prog 19 #[.int .u8 m] w fun r w' => r = .returned (.bool true) ∧ Below w.heap.size w w'))
  (o : Bool) (ho : l.all (okP f) = o) : Calls Tryz.prog 77 #[.int .u8 f, .int .u8 m, .slice (some ⟨g, 0, none⟩) L c] w fun r w' => r = .returned (.bool o) ∧ Below w.heap.size w w' := by
 have HO := zJ ho
 have HL := zJ hl
 have HF := zJ h0
 clear ho hl h0
 go_enter Tryz.func77, Tryz.ntmps77
 go_wp2_with fail
 refine (KR.out _).mono ?_
 rintro r w1 ⟨rfl, b1⟩
 go_wp2_with fail
 refine (KM.out _).mono ?_
 rintro r w2 ⟨rfl, b2⟩
 have BP := zU b1 b2
 clear b1 b2 KR KM
 go_wp2
 go_loopw [7] (fun iv wr => ∃ k : Nat, k ≤ L ∧ iv = .int .i64 k ∧ Below w.heap.size w wr ∧ zO (∀ j p, j < k → l[j]? = some p → okP f p = true)) (fun iv _ => L - (intOf iv).toNat)
 case atStart => exact ⟨0, by omega, rfl, BP, zJ (fun j s hj => absurd hj (by omega))⟩
 case round =>
  obtain ⟨k, hk, rfl, bw, HA⟩ := hrel
  by_cases hlt : k < L
  ·
   obtain ⟨p, hs⟩ : ∃ p, l[k]? = some p := ⟨_, List.getElem?_eq_getElem (by rw [HL.out]; exact hlt)⟩
   obtain ⟨c1, c2⟩ := bls_cell (zA bw _ _ _ row) k p hs
   have dl : decide ((k : Int) < (L : Int)) = true := decide_eq_true (by omega)
   have HS := zJ hs
   obtain ⟨o1, hm⟩ : ∃ o1, okP f p = o1 := ⟨_, rfl⟩
   have HM := zJ hm
   have hp := hb.out p (List.mem_of_getElem? hs)
   have KC : zO (∀ w, Calls Tryz.prog 48 #[.int .u8 f, .agg #[.int .u64 (p.1 : Nat), .int .u64 (p.2 : Nat)]] w fun r w' => r = .returned (.bool o1) ∧ Below w.heap.size w w') := zJ (fun w => rk_fits f p.1 p.2 _ o1 HF.out hp.1 hp.2 rfl hm w)
   clear hs hm hp
   cases o1
   ·
    have e : o = false := by
     rw [← HO.out, Bool.eq_false_iff]
     intro h
     rw [List.all_eq_true] at h
     have := h p (List.mem_of_getElem? HS.out)
     rw [HM.out] at this
     exact absurd this (by decide)
    subst e
    go_wp2_with fail
    refine (KC.out _).mono ?_
    rintro r w2 ⟨rfl, b2⟩
    go_wp2
    go_ret
    exact ⟨rfl, zU bw b2⟩
   ·
    have NA : zO (∀ j p, j < k + 1 → l[j]? = some p → okP f p = true) := zJ (fun j p2 hj h2 => by
     by_cases e : j = k
     ·
      subst e
      rw [HS.out] at h2
      cases h2
      exact HM.out
     ·
      exact HA.out j p2 (by omega) h2)
    go_wp2_with fail
    refine (KC.out _).mono ?_
    rintro r w2 ⟨rfl, b2⟩
    go_wp2
    go_roundw
    case rel => exact ⟨k + 1, by omega, by go_num, zU bw b2, NA⟩
    case measure => simp [intOf] <;> omega
  ·
   obtain rfl : k = L := by omega
   have e : o = true := by
    rw [← HO.out, List.all_eq_true]
    intro s hs
    obtain ⟨j, hj⟩ := List.mem_iff_getElem?.1 hs
    have := (List.getElem?_eq_some_iff.1 hj).1
    exact HA.out j s (by rw [← HL.out]; exact this) hj
   subst e
   have dl : decide ((k : Int) < (k : Int)) = false := by rw [decide_eq_false_iff_not]; omega
   go_wp2
   go_ret
   exact ⟨rfl, bw⟩
def sgP (f : Int) (p : Nat × Nat) : Bool := decide (kC f (p.2 + 18446744073709551616 * p.1) = 8)
theorem any_take {α : Type} (q : α → Bool) (l : List α) (k : Nat) (p : α) (h : l[k]? = some p) : (l.take (k + 1)).any q = ((l.take k).any q || q p) := by
 rw [List.take_add_one, h]
 simp
theorem rc_list (f : Int) (hf : yU f) (l : List (Nat × Nat)) (L g c : Nat) (T : TypeId) (w : World) (hl : l.length = L) (hL : L ≤ 1000) (hb : zO (∀ p ∈ l, p.1 < 18446744073709551616 ∧ p.2 < 18446744073709551616)) (hfit : zO (∀ p ∈ l, Fit f (p.2 + 18446744073709551616 * p.1))) (row : w.heap[g]? = some (.cells (bls l) T)) (u v : Nat)
  (KN : zO (∀ w, Calls Tryz.prog 81 #[.int .u8 f] w fun r w' => r = .returned (.agg #[.int .u64 u, .int .u64 v]) ∧ Below w.heap.size w w'))
  (fl : Int) (hfl : (if l.any (sgP f) = true then (16 : Int) else 0) = fl) : Calls Tryz.prog 79 #[.int .u8 f, .slice (some ⟨g, 0, none⟩) L c] w fun r w' => r = .returned (.tuple #[.agg #[.int .u64 u, .int .u64 v], .int .u8 fl]) ∧ Below w.heap.size w w' := by
 have HO := zJ hfl
 have HL := zJ hl
 have HF := zJ hf
 clear hfl hl hf
 obtain ⟨Ab, B0⟩ := yL w (Obj.cells #[.int .u64 0, .int .u64 0] 25)
 go_enter Tryz.func79, Tryz.ntmps79
 go_wp2
 obtain ⟨V, hV⟩ : ∃ V, w.alloc (.cells #[.int .u64 0, .int .u64 0] 25) = V := ⟨_, rfl⟩
 have rowV : V.heap[g]? = some (.cells (bls l) T) := by rw [← hV]; exact zA (yO w _) _ _ _ row
 rw [hV] at B0 Ab ⊢
 clear hV row
 go_loopw [6, 7] (fun fv iv wr => ∃ (k : Nat) (e : Int), k ≤ L ∧ iv = .int .i64 k ∧ fv = .int .u8 e ∧ Below V.heap.size V wr ∧ zO ((if (l.take k).any (sgP f) = true then (16 : Int) else 0) = e)) (fun _ iv _ => L - (intOf iv).toNat)
 case atStart => exact ⟨0, 0, by omega, rfl, rfl, Below.refl _ _, zJ (by simp)⟩
 case round =>
  obtain ⟨k, e, hk, rfl, rfl, bw, HA⟩ := hrel
  by_cases hlt : k < L
  ·
   obtain ⟨p, hs⟩ : ∃ p, l[k]? = some p := ⟨_, List.getElem?_eq_getElem (by rw [HL.out]; exact hlt)⟩
   obtain ⟨c1, c2⟩ := bls_cell (zA bw _ _ _ rowV) k p hs
   have dl : decide ((k : Int) < (L : Int)) = true := decide_eq_true (by omega)
   obtain ⟨o1, hm⟩ : ∃ o1, sgP f p = o1 := ⟨_, rfl⟩
   have hp := hb.out p (List.mem_of_getElem? hs)
   have KC : zO (∀ w, Calls Tryz.prog 160 #[.int .u8 f, .agg #[.int .u64 (p.1 : Nat), .int .u64 (p.2 : Nat)]] w fun r w' => r = .returned (.bool o1) ∧ Below w.heap.size w w') := zJ (fun w => rSig_is f HF.out p.1 p.2 _ _ o1 hp.1 hp.2 rfl (hfit.out p (List.mem_of_getElem? hs)) rfl hm w)
   have at1 := any_take (sgP f) l k p hs
   rw [hm] at at1
   have HT := zJ at1
   clear hs hm hp at1
   cases o1
   ·
    have NA : zO ((if (l.take (k + 1)).any (sgP f) = true then (16 : Int) else 0) = e) := zJ (by rw [HT.out, Bool.or_false]; exact HA.out)
    go_wp2_with fail
    refine (KC.out _).mono ?_
    rintro r w2 ⟨rfl, b2⟩
    go_wp2
    go_roundw
    case rel => exact ⟨k + 1, e, by omega, by go_num, rfl, zU bw b2, NA⟩
    case measure => simp [intOf] <;> omega
   ·
    have NA : zO ((if (l.take (k + 1)).any (sgP f) = true then (16 : Int) else 0) = 16) := zJ (by rw [HT.out, Bool.or_true, if_pos rfl])
    go_wp2_with fail
    refine (KC.out _).mono ?_
    rintro r w2 ⟨rfl, b2⟩
    go_wp2
    go_roundw
    case rel => exact ⟨k + 1, 16, by omega, by go_num, rfl, zU bw b2, NA⟩
    case measure => simp [intOf] <;> omega
  ·
   obtain rfl : k = L := by omega
   have ee : e = fl := by
    rw [← HA.out, ← HO.out, ← HL.out, List.take_length]
   subst ee
   have dl : decide ((k : Int) < (k : Int)) = false := by rw [decide_eq_false_iff_not]; omega
   have Ac := zA bw _ _ _ Ab
   have B1 := zU B0 bw
   clear bw HA Ab B0 rowV
   obtain ⟨w1, Ad⟩ : ∃ w1, w1 = wr := ⟨_, rfl⟩
   subst Ad
   obtain ⟨Ae, Af⟩ := zC Ac
   go_wp2_with fail
   refine (KN.out _).mono ?_
   rintro r w2 ⟨rfl, b2⟩
   have B2 := zU B1 b2
   have Aa := zA b2 _ _ _ Ac
   clear b2 B1 Ac Ae Af
   obtain ⟨Ag, Ah⟩ := zC Aa
   have q0 := fz (k := 0) Aa
   have q1 := fz (k := 1) Aa
   obtain ⟨E0, E1⟩ := zN Aa (.int .u64 u) (.int .u64 v)
   go_wp2
   exact bodyPost_ret (v := .tuple #[.agg #[.int .u64 u, .int .u64 v], .int .u8 e]) (by simp [results, Tryz.results79, go_sem, E0, E1]) rfl ⟨rfl, zM B2 (by first | exact Nat.le_refl _ | omega | (skip; omega)) _ _⟩
theorem two_row (x1 y1 x2 y2 : Nat) (T : TypeId) (g : Nat) (w : World) (hg : w.heap.size = g) : (w.alloc (.cells #[.int .u64 x1, .int .u64 y1, .int .u64 x2, .int .u64 y2] T)).heap[g]? = some (.cells (bls [(x1, y1), (x2, y2)]) T) := by
 rw [← hg]
 exact heap_alloc_last _ _
theorem two_lim {x1 y1 x2 y2 : Nat} (hx1 : x1 < 18446744073709551616) (hy1 : y1 < 18446744073709551616) (hx2 : x2 < 18446744073709551616) (hy2 : y2 < 18446744073709551616) : zO (∀ p ∈ [(x1, y1), (x2, y2)], p.1 < 18446744073709551616 ∧ p.2 < 18446744073709551616) := zJ (fun p hp => by
 rcases List.mem_cons.1 hp with rfl | h
 ·
  exact ⟨hx1, hy1⟩
 ·
  rcases List.mem_cons.1 h with rfl | h
  ·
   exact ⟨hx2, hy2⟩
  ·
   exact absurd h List.not_mem_nil)
theorem kmay2 (f m : Int) (h0 : 0 ≤ f) (h1 : f ≤ 255) (m0 : 0 ≤ m) (x1 y1 a x2 y2 b : Nat) (hx1 : x1 < 18446744073709551616) (hy1 : y1 < 18446744073709551616) (ha : y1 + 18446744073709551616 * x1 = a) (hx2 : x2 < 18446744073709551616) (hy2 : y2 < 18446744073709551616) (hb : y2 + 18446744073709551616 * x2 = b) (o : Bool) (ho : (decide (f ≤ 3 ∧ m ≤ 4) && okB f a && okB f b) = o) :
  zO (∀ (T : TypeId) (g : Nat) (w : World), w.heap.size = g → yG w → Calls Tryz.prog 75 #[.int .u8 f, .int .u8 m, .slice (some ⟨g, 0, none⟩) 2 2] (w.alloc (.cells #[.int .u64 x1, .int .u64 y1, .int .u64 x2, .int .u64 y2] T)) fun r w' => r = .returned (.bool o) ∧ Below w.heap.size w w') := by
 refine zJ (fun T g w hg hT => ?_)
 have B := (yO w (.cells #[.int .u64 x1, .int .u64 y1, .int .u64 x2, .int .u64 y2] T))
 have row := two_row x1 y1 x2 y2 T g w hg
 have hT2 := zZ hT B
 by_cases c : f ≤ 3 ∧ m ≤ 4
 ·
  have hf := is4_of h0 c.1
  obtain ⟨u, v, hv⟩ : ∃ u v, xU (xN f false) = (u, v) := ⟨_, _, rfl⟩
  have KP : zO (∀ w, yG w → Calls Tryz.prog 93 #[.int .u8 f, .int .u8 m, .agg (rg false 0 0 false)] w fun r w' => r = .returned (.tuple #[.agg #[.int .u64 u, .int .u64 v], .int .u8 0, .int .i64 0]) ∧ Below w.heap.size w w') := zJ (fun w hT => kPack_zero f m hf ⟨m0, c.2⟩ false 0 (by decide) (by decide) u v hv w hT)
  refine (op_may f m hf [(x1, y1), (x2, y2)] 2 g 2 T _ rfl (by decide) (two_lim hx1 hy1 hx2 hy2) row u v 0 KP o ?_ hT2).mono fun _ _ ⟨q1, q2⟩ => ⟨q1, zU B q2⟩
  rw [← ho, decide_eq_true c]
  show (okP f (x1, y1) && (okP f (x2, y2) && true)) = _
  unfold okP
  rw [ha, hb, Bool.and_true, Bool.true_and]
 ·
  have e : o = false := by rw [← ho, decide_eq_false c]; rfl
  subst e
  exact (op_may_no f m 0 0 0 2 _ rfl _ (zJ (fun w hT => kPack_no f m h0 h1 false 0 Q_pos 0 false (fun q => c ⟨q.1, q.2.1⟩) w hT)) hT2).mono fun _ _ ⟨q1, q2⟩ => ⟨q1, zU B q2⟩
theorem rfit2 (f m : Int) (h0 : 0 ≤ f) (x1 y1 a x2 y2 b : Nat) (hx1 : x1 < 18446744073709551616) (hy1 : y1 < 18446744073709551616) (ha : y1 + 18446744073709551616 * x1 = a) (hx2 : x2 < 18446744073709551616) (hy2 : y2 < 18446744073709551616) (hb : y2 + 18446744073709551616 * x2 = b) (o : Bool) (ho : (decide (f ≤ 3 ∧ m ≤ 4) && okB f a && okB f b) = o) :
  zO (∀ (T : TypeId) (g : Nat) (w : World), w.heap.size = g → Calls Tryz.prog 77 #[.int .u8 f, .int .u8 m, .slice (some ⟨g, 0, none⟩) 2 2] (w.alloc (.cells #[.int .u64 x1, .int .u64 y1, .int .u64 x2, .int .u64 y2] T)) fun r w' => r = .returned (.bool o) ∧ Below w.heap.size w w') := by
 refine zJ (fun T g w hg => ?_)
 have B := (yO w (.cells #[.int .u64 x1, .int .u64 y1, .int .u64 x2, .int .u64 y2] T))
 have row := two_row x1 y1 x2 y2 T g w hg
 have KR : zO (∀ w, Calls Tryz.prog 14 #[.int .u8 f] w fun r w' => r = .returned (.bool (decide (f ≤ 3))) ∧ Below w.heap.size w w') := zJ (fun w => xH (r_right f _ rfl w))
 have KM : zO (∀ w, Calls Tryz.prog 19 #[.int .u8 m] w fun r w' => r = .returned (.bool (decide (m ≤ 4))) ∧ Below w.heap.size w w') := zJ (fun w => xH (r_mode m _ rfl w))
 by_cases c1 : f ≤ 3
 ·
  rw [decide_eq_true c1] at KR
  by_cases c2 : m ≤ 4
  ·
   rw [decide_eq_true c2] at KM
   refine (rf_list f m h0 [(x1, y1), (x2, y2)] 2 g 2 T _ rfl (by decide) (two_lim hx1 hy1 hx2 hy2) row KR KM o ?_).mono fun _ _ ⟨q1, q2⟩ => ⟨q1, zU B q2⟩
   rw [← ho, decide_eq_true (show f ≤ 3 ∧ m ≤ 4 from ⟨c1, c2⟩)]
   show (okP f (x1, y1) && (okP f (x2, y2) && true)) = _
   unfold okP
   rw [ha, hb, Bool.and_true, Bool.true_and]
  ·
   rw [decide_eq_false c2] at KM
   have e : o = false := by rw [← ho, decide_eq_false (fun q => c2 q.2)]; rfl
   subst e
   exact (rf_nom f m _ _ KR KM).mono fun _ _ ⟨q1, q2⟩ => ⟨q1, zU B q2⟩
 ·
  rw [decide_eq_false c1] at KR
  have e : o = false := by rw [← ho, decide_eq_false (fun q => c1 q.1)]; rfl
  subst e
  exact (rf_no f m _ _ KR).mono fun _ _ ⟨q1, q2⟩ => ⟨q1, zU B q2⟩
theorem rcan2 (f : Int) (hf : yU f) (x1 y1 a x2 y2 b : Nat) (hx1 : x1 < 18446744073709551616) (hy1 : y1 < 18446744073709551616) (ha : y1 + 18446744073709551616 * x1 = a) (hx2 : x2 < 18446744073709551616) (hy2 : y2 < 18446744073709551616) (hb : y2 + 18446744073709551616 * x2 = b) (fa : Fit f a) (fb : Fit f b) (fl : Int) (hfl : (if kC f a = 8 ∨ kC f b = 8 then (16 : Int) else 0) = fl) (u v : Nat) (hv : xU (eNaN f) = (u, v)) :
  zO (∀ (T : TypeId) (g : Nat) (w : World), w.heap.size = g → Calls Tryz.prog 79 #[.int .u8 f, .slice (some ⟨g, 0, none⟩) 2 2] (w.alloc (.cells #[.int .u64 x1, .int .u64 y1, .int .u64 x2, .int .u64 y2] T)) fun r w' => r = .returned (.tuple #[.agg #[.int .u64 u, .int .u64 v], .int .u8 fl]) ∧ Below w.heap.size w w') := by
 refine zJ (fun T g w hg => ?_)
 have B := (yO w (.cells #[.int .u64 x1, .int .u64 y1, .int .u64 x2, .int .u64 y2] T))
 have row := two_row x1 y1 x2 y2 T g w hg
 have KN : zO (∀ w, Calls Tryz.prog 81 #[.int .u8 f] w fun r w' => r = .returned (.agg #[.int .u64 u, .int .u64 v]) ∧ Below w.heap.size w w') := zJ (fun w => by
  have := r_nan f hf _ rfl w
  rw [hv] at this
  exact this)
 refine (rc_list f hf [(x1, y1), (x2, y2)] 2 g 2 T _ rfl (by decide) (two_lim hx1 hy1 hx2 hy2) ?_ row u v KN fl ?_).mono fun _ _ ⟨q1, q2⟩ => ⟨q1, zU B q2⟩
 ·
  refine zJ (fun p hp => ?_)
  rcases List.mem_cons.1 hp with rfl | h
  ·
   show Fit f (y1 + 18446744073709551616 * x1)
   rw [ha]
   exact fa
  ·
   rcases List.mem_cons.1 h with rfl | h
   ·
    show Fit f (y2 + 18446744073709551616 * x2)
    rw [hb]
    exact fb
   ·
    exact absurd h List.not_mem_nil
 ·
  rw [← hfl]
  show (if (sgP f (x1, y1) || (sgP f (x2, y2) || false)) = true then (16 : Int) else 0) = _
  unfold sgP
  rw [ha, hb, Bool.or_false]
  by_cases c : kC f a = 8 ∨ kC f b = 8
  ·
   rw [if_pos c, if_pos]
   rw [← Bool.decide_or]
   exact decide_eq_true c
  ·
   rw [if_neg c, if_neg]
   rw [← Bool.decide_or]
   intro q
   exact c (of_decide_eq_true q)
end Go.Proofs.YtoaaajeblhaeoaaGreatDoor
