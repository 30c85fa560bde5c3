/-
  What the functions that the statement reaches return: part 18 (RC, RD, RE, RG, R12).
-/
import Derived.Lib.MinMax
import Derived.Deep.RegionHeld3
import Derived.Test.YtpgiabmmmpdobaaGreatDoorSr17
namespace Go.Proofs.YtpgiabmmmpdobaaGreatDoor
set_option maxRecDepth 100000
set_option maxHeartbeats 40000000
set_option maxRecDepth 100000
open Go.RowKit WMath XMath
set_option linter.unusedSimpArgs false
set_option linter.unusedVariables false
theorem rz_inf (f : Int) (neg : Bool) (hf : Is4 f) (u v : Nat) (hv : bv7 (eInf f neg) = (u, v)) (w : World) : Calls Tryz.prog 27 #[.int .u8 f, .bool neg] w fun r w' => r = .returned (.agg #[.int .u64 u, .int .u64 v]) ∧ Below w.heap.size w w' := by
 have := r_inf f neg hf _ rfl w
 rw [hv] at this
 exact this
theorem rz_zero (f : Int) (neg : Bool) (hf : Is4 f) (u v : Nat) (hv : bv7 (eZero f neg) = (u, v)) (w : World) : Calls Tryz.prog 28 #[.int .u8 f, .bool neg] w fun r w' => r = .returned (.agg #[.int .u64 u, .int .u64 v]) ∧ Below w.heap.size w w' := by
 have := r_zero f neg hf _ rfl w
 rw [hv] at this
 exact this
theorem cut_two (W k : Nat) : W / 2 ^ (k + 1) = rS W k := by unfold rS; rw [Nat.pow_succ, ← Nat.div_div_eq_div_mul]
theorem ex_is (W k : Nat) (more : Bool) : (!more && decide (W % 2 ^ (k + 1) = 0)) = !(rH W k || rM W k more) := by
 have e : W % 2 ^ (k + 1) = 0 ↔ W % 2 ^ k = 0 ∧ W / 2 ^ k % 2 = 0 := by
  have h := Nat.mod_pow_succ (x := W) (b := 2) (k := k)
  have p := Nat.two_pow_pos k
  rw [h]
  constructor
  ·
   intro q
   have a : W % 2 ^ k = 0 := by omega
   have b : 2 ^ k * (W / 2 ^ k % 2) = 0 := by omega
   exact ⟨a, by rcases Nat.mul_eq_zero.1 b with c | c; omega; exact c⟩
  ·
   rintro ⟨a, b⟩
   rw [a, b, Nat.mul_zero]
 unfold rH rM
 rw [Bool.eq_iff_iff]
 simp only [Bool.and_eq_true, Bool.not_eq_true', decide_eq_true_iff, Bool.or_eq_false_iff, decide_eq_false_iff_not, e, Decidable.not_not]
 constructor
 ·
  rintro ⟨a, b, c⟩
  exact ⟨by omega, b, a⟩
 ·
  rintro ⟨a, b, c⟩
  exact ⟨c, b, by omega⟩
theorem wh_is (W k : Nat) (more : Bool) : (!more && decide (W % 2 ^ k = 0)) = !rM W k more := by
 unfold rM
 rw [Bool.eq_iff_iff]
 simp only [Bool.and_eq_true, Bool.not_eq_true', decide_eq_true_iff, Bool.or_eq_false_iff, decide_eq_false_iff_not, Decidable.not_not]
 exact ⟨fun h => ⟨h.2, h.1⟩, fun h => ⟨h.2, h.1⟩⟩
theorem last_is (W k : Nat) : decide (W / 2 ^ k % 2 = 1) = rH W k := rfl
def Fnd (f : Int) (x : XN) (root : Bool) (T : Int) (W : Nat) (more : Bool) : Prop :=
  if root = true then T = topX x / 2 ∧ RtN f x W more else T = topX x ∧ ∀ k : Nat, T - fP f + (k : Int) ≤ 2000000 → flX x (T - fP f + (k : Int)) = ((W / 2 ^ k, !more && decide (W % 2 ^ k = 0)), 0)
theorem rfind (f : Int) (hf : Is4 f) (b : Bool) (n d : Nat) (s t : ByteArray) (e : Int) (hs : nbA n = s) (ht : nbA d = t) (hc : (XN.mk b n d e).can) (root : Bool) (T : Int) (t1 : -1300000 ≤ T) (t2 : T ≤ 1300000) (W : Nat) (more : Bool) (lw : nl W ≤ 8192) (hF : Fnd f ⟨b, n, d, e⟩ root T W more) (k : Nat) (A : Int) (hA : T - fP f + 1 + (k : Int) = A) (hA2 : A ≤ 900000) (M : ByteArray) (hM : nbA (rS W k) = M) (w : World) :
  Calls Tryz.prog 126 #[.agg #[.bool b, .string s, .string t, .int .i64 e], .bool root, .int .i64 A] w fun r w' => r = .returned (.agg #[.string M, .int .i64 A, .int .i64 (hfV (rH W k) (rM W k more)), .bool (!(rH W k || rM W k more))]) ∧ Below w.heap.size w w' := by
 have p := fp8 hf
 have n4 := (nm8 hf).2.2.2.1
 have d1 : nl (W / 2 ^ k) ≤ 8192 := Nat.le_trans (nl_mono _ _ (Nat.div_le_self _ _)) lw
 have KL : Box (∀ w, Calls Tryz.prog 164 #[.string (nbA (W / 2 ^ k))] w fun r w' => r = .returned (.bool (rH W k)) ∧ Below w.heap.size w w') := box (fun w => rf_last _ _ _ rfl (by omega) (last_is W k) w)
 unfold Fnd at hF
 cases root
 ·
  rw [if_neg (by decide)] at hF
  obtain ⟨hTx, hF⟩ := hF
  have F1 := hF (k + 1) (by omega)
  have F2 := hF k (by omega)
  rw [cut_two, ex_is, show T - fP f + ((k + 1 : Nat) : Int) = A by omega] at F1
  rw [wh_is] at F2
  have K1 : Box (∀ w, Calls Tryz.prog 163 #[.agg #[.bool b, .string s, .string t, .int .i64 e], .int .i64 A] w fun r w' => r = .returned (.tuple #[.string M, .bool (!(rH W k || rM W k more)), .int .i64 0]) ∧ Below w.heap.size w w') := box (fun w => rFloor_ok b n d e s t A _ _ 0 M hs ht hc (by omega) (by omega) F1 hM w)
  have K2 : Box (∀ w, Calls Tryz.prog 163 #[.agg #[.bool b, .string s, .string t, .int .i64 e], .int .i64 (T - fP f + (k : Int))] w fun r w' => r = .returned (.tuple #[.string (nbA (W / 2 ^ k)), .bool (!rM W k more), .int .i64 0]) ∧ Below w.heap.size w w') := box (fun w => rFloor_ok b n d e s t _ _ _ 0 _ hs ht hc (by omega) (by omega) F2 rfl w)
  have a1 : IntKind.i64.wrap (A - 1) = T - fP f + (k : Int) := by rw [wrap_i64_is _ (by omega) (by omega)]; omega
  generalize rH W k = H at *
  generalize rM W k more = R at *
  cases H <;> cases R
  ·
   exact rf_find_ex b s t e A A A 0 0 M M M M M M w K1
  ·
   exact rf_find_lo1 b s t e A _ A 0 0 M M _ M M M w K1 K2 KL a1
  ·
   exact rf_find_half b s t e A _ A 0 0 M M _ M M M w K1 K2 KL a1
  ·
   exact rf_find_hi b s t e A _ A 0 0 M M _ M M M w K1 K2 KL a1
 ·
  rw [if_pos rfl] at hF
  obtain ⟨hTx, hF⟩ := hF
  obtain ⟨N1, x1, f1, r1, g1⟩ := hF (k + 1) (by omega)
  obtain ⟨N2, x2, f2, r2, g2⟩ := hF k (by omega)
  rw [← hTx, show T - fP f + ((k + 1 : Nat) : Int) = A by omega] at f1
  rw [← hTx] at f2
  rw [cut_two] at r1
  rw [ex_is, cut_two] at g1
  rw [wh_is] at g2
  have l1 := nl_fl f1 hc
  have l2 := nl_fl f2 hc
  have K1 : Box (∀ w, Calls Tryz.prog 163 #[.agg #[.bool b, .string s, .string t, .int .i64 e], .int .i64 (2 * A)] w fun r w' => r = .returned (.tuple #[.string (nbA N1), .bool x1, .int .i64 0]) ∧ Below w.heap.size w w') := box (fun w => rFloor_ok b n d e s t _ _ _ 0 _ hs ht hc (by omega) (by omega) f1 rfl w)
  have KQ : Box (∀ w, Calls Tryz.prog 165 #[.string (nbA N1)] w fun r w' => r = .returned (.tuple #[.string M, .string (nbA (N1 - rS W k * rS W k))]) ∧ Below w.heap.size w w') := box (fun w => nat_Sqrt N1 _ _ _ M _ rfl l1 r1 rfl hM rfl w)
  have K2 : Box (∀ w, Calls Tryz.prog 163 #[.agg #[.bool b, .string s, .string t, .int .i64 e], .int .i64 (2 * (T - fP f + (k : Int)))] w fun r w' => r = .returned (.tuple #[.string (nbA N2), .bool x2, .int .i64 0]) ∧ Below w.heap.size w w') := box (fun w => rFloor_ok b n d e s t _ _ _ 0 _ hs ht hc (by omega) (by omega) f2 rfl w)
  have KQ2 : Box (∀ w, Calls Tryz.prog 165 #[.string (nbA N2)] w fun r w' => r = .returned (.tuple #[.string (nbA (W / 2 ^ k)), .string (nbA (N2 - W / 2 ^ k * (W / 2 ^ k)))]) ∧ Below w.heap.size w w') := box (fun w => nat_Sqrt N2 _ _ _ _ _ rfl l2 r2 rfl rfl rfl w)
  have a3 : IntKind.i64.wrap (2 * A) = 2 * A := wrap_i64_is _ (by omega) (by omega)
  have a1 : IntKind.i64.wrap (2 * A - 2) = 2 * (T - fP f + (k : Int)) := by rw [wrap_i64_is _ (by omega) (by omega)]; omega
  rw [← rest_nil N1 _ _ rfl] at g1
  rw [← rest_nil N2 _ _ rfl] at g2
  generalize rH W k = H at *
  generalize rM W k more = R at *
  cases H <;> cases R
  ·
   exact rf_root_ex b s t e A A _ 0 0 _ M M M _ M x1 x2 w K1 KQ a3 g1
  ·
   exact rf_root_lo b s t e A _ _ 0 0 _ M _ _ _ _ x1 x2 w K1 KQ a3 g1 K2 KQ2 KL a1
  ·
   exact rf_root_half b s t e A _ _ 0 0 _ M _ _ _ _ x1 x2 w K1 KQ a3 g1 K2 KQ2 KL a1 g2
  ·
   cases hx2 : x2
   ·
    rw [hx2] at g2 K2
    exact rf_root_hi0 b s t e A _ _ 0 0 _ M _ _ _ _ x1 false w K1 KQ a3 g1 K2 KQ2 KL a1 g2 rfl
   ·
    rw [hx2] at g2 K2
    exact rf_root_hi1 b s t e A _ _ 0 0 _ M _ _ _ _ x1 true w K1 KQ a3 g1 K2 KQ2 KL a1 g2 rfl
theorem rtaken (m : Int) (hm : 0 ≤ m ∧ m ≤ 4) (neg : Bool) (W k : Nat) (more : Bool) (lw : nl W ≤ 8192) (A : Int) (M rs : ByteArray) (hM : nbA (rS W k) = M) (hr : nbA (rG m neg W k more) = rs) (w : World) :
  Calls Tryz.prog 127 #[.int .u8 m, .bool neg, .agg #[.string M, .int .i64 A, .int .i64 (hfV (rH W k) (rM W k more)), .bool (!(rH W k || rM W k more))]] w fun r w' => r = .returned (.string rs) ∧ Below w.heap.size w w' := by
 have d1 : nl (W / 2 ^ k) ≤ 8192 := Nat.le_trans (nl_mono _ _ (Nat.div_le_self _ _)) lw
 have d2 : nl (rS W k) ≤ 8192 := Nat.le_trans (nl_mono _ _ (Nat.div_le_self _ _)) d1
 have d3 : nl (rS W k + 1) ≤ 16384 := by
  have q : blen (rS W k + 1) ≤ blen (rS W k) + 1 := (blen_iff _ _).2 (by
   have a := (blen_iff (rS W k) _).1 (Nat.le_refl _)
   have b := Nat.two_pow_pos (blen (rS W k))
   rw [Nat.pow_succ]
   omega)
  unfold nl at d2 ⊢
  omega
 refine rf_taken m neg (gO m neg (rO W k) (rH W k) (rM W k more)) M (nbA (rS W k + 1)) rs A _ 0 _ w
  (box (fun w => rf_up m hm neg (rO W k) _ _ _ M A _ _ rfl rfl rfl w (box (fun w => rf_last (rS W k) M _ hM (by omega) rfl w))))
  (box (fun _ w => nat_Add (rS W k) 1 _ _ _ 0 hM nb1 (lg_is _ d3) (by omega) (Nat.le_trans nl1 (by decide)) w)) ?_
 rw [← hr, ← hM]
 unfold rG
 split <;> rfl
theorem r_emin_b (f : Int) (hf : Is4 f) (w : World) : Calls Tryz.prog 114 #[.int .u8 f] w fun r w' => r = .returned (.int .i64 (1 - fE f)) ∧ Below w.heap.size w w' := bel_same (r_emin f _ _ (is4_ok hf).1 rfl (em_lim hf).2.2.2.2.1 w)
theorem r_emax_b (f : Int) (hf : Is4 f) (w : World) : Calls Tryz.prog 113 #[.int .u8 f] w fun r w' => r = .returned (.int .i64 (fE f)) ∧ Below w.heap.size w w' := bel_same (r_emax f _ (is4_ok hf).1 rfl w)
theorem r_prec_b (f : Int) (hf : Is4 f) (w : World) : Calls Tryz.prog 66 #[.int .u8 f] w fun r w' => r = .returned (.int .i64 (fP f)) ∧ Below w.heap.size w w' := bel_same (r_precision f _ (is4_ok hf).1 rfl w)
theorem rtop (f : Int) (b : Bool) (n d : Nat) (s t : ByteArray) (e : Int) (hs : nbA n = s) (ht : nbA d = t) (hc : (XN.mk b n d e).can) (n0 : n ≠ 0) (root : Bool) (T : Int) (W : Nat) (more : Bool) (hF : Fnd f ⟨b, n, d, e⟩ root T W more) (w : World) : Calls Tryz.prog 124 #[.agg #[.bool b, .string s, .string t, .int .i64 e], .bool root] w fun r w' => r = .returned (.int .i64 T) ∧ Below w.heap.size w w' := by
 obtain ⟨t1, t2⟩ := top_lim hc
 unfold Fnd at hF
 cases root
 ·
  rw [if_neg (by decide)] at hF
  exact rf_top b s t e T 0 w (box (fun w => rTop_ok b n d e s t T hs ht n0 hc hF.1.symm w))
 ·
  rw [if_pos rfl] at hF
  exact rf_top2 b s t e _ T 0 w t1 t2 hF.1.symm (box (fun w => rTop_ok b n d e s t _ hs ht n0 hc rfl w))
theorem rtiny (f m : Int) (hf : Is4 f) (hm : 0 ≤ m ∧ m ≤ 4) (b : Bool) (n d : Nat) (s t : ByteArray) (e : Int) (hs : nbA n = s) (ht : nbA d = t) (hc : (XN.mk b n d e).can) (n0 : n ≠ 0) (root : Bool) (T : Int) (t1 : -1300000 ≤ T) (t2 : T ≤ 1300000) (W : Nat) (more : Bool) (hW : Wok f W) (hF : Fnd f ⟨b, n, d, e⟩ root T W more) (o : Bool) (ho : tnB f m b T W more = o) (w : World) :
  Calls Tryz.prog 129 #[.int .u8 f, .int .u8 m, .agg #[.bool b, .string s, .string t, .int .i64 e], .bool root] w fun r w' => r = .returned (.bool o) ∧ Below w.heap.size w w' := by
 have p := fp8 hf
 obtain ⟨n1, n2, n3, n4, n5, n6⟩ := nm8 hf
 have KT : Box (∀ w, Calls Tryz.prog 124 #[.agg #[.bool b, .string s, .string t, .int .i64 e], .bool root] w fun r w' => r = .returned (.int .i64 T) ∧ Below w.heap.size w w') := box (fun w => rtop f b n d s t e hs ht hc n0 root T W more hF w)
 have KI : Box (∀ w, Calls Tryz.prog 114 #[.int .u8 f] w fun r w' => r = .returned (.int .i64 (1 - fE f)) ∧ Below w.heap.size w w') := box (fun w => r_emin_b f hf w)
 have i1 : IntKind.i64.wrap (1 - fE f - 1) = 1 - fE f - 1 := wrap_i64_is _ (by omega) (by omega)
 by_cases c1 : 1 - fE f ≤ T
 ·
  rw [tn_hi hf hW m b T more c1] at ho
  subst ho
  exact rf_tiny_hi f m b s t e root T _ 0 0 0 0 0 s s false false 0 w KT KI (decide_eq_true c1)
 by_cases c2 : T < 1 - fE f - 1
 ·
  rw [tn_lo hf hW m b T more c2] at ho
  subst ho
  exact rf_tiny_lo f m b s t e root T _ _ 0 0 0 0 s s false false 0 w KT KI (decide_eq_false c1) i1 (decide_eq_true c2)
 ·
  rw [tn_mid hf m b T more (by omega)] at ho
  have lim := (rG_lim hW m b 0 more).1
  exact rf_tiny_mid f m b s t e root T _ _ (fP f) (T - fP f) (T - fP f + 1) _ (nbA (rS W 0)) (nbA (rG m b W 0 more)) _ o _ w KT KI (box (fun w => r_prec_b f hf w))
   (box (fun w => rfind f hf b n d s t e hs ht hc root T t1 t2 W more (nl_W hf hW) hF 0 _ (by omega) (by omega) _ rfl w))
   (box (fun w => rtaken m hm b W 0 more (nl_W hf hW) _ _ _ rfl rfl w))
   (box (fun w => bel_same (nat_Len _ _ _ rfl (nl_small hf _ lim) rfl w))) (decide_eq_false c1) i1 (decide_eq_false c2) (wrap_i64_is _ (by omega) (by omega)) (wrap_i64_is _ (by omega) (by omega)) ho
theorem rover (f m : Int) (hf : Is4 f) (hm : 0 ≤ m ∧ m ≤ 4) (neg : Bool) (u v : Nat) (hv : bv7 (ovB f m neg) = (u, v)) (w : World) : Calls Tryz.prog 125 #[.int .u8 f, .int .u8 m, .bool neg] w fun r w' => r = .returned (.agg #[.int .u64 u, .int .u64 v]) ∧ Below w.heap.size w w' := by
 refine rf_over f m hm neg u v w (box (fun h w => rz_inf f neg hf u v ?_ w)) (box (fun h w => ?_))
 ·
  unfold ovB at hv; rw [if_pos h] at hv; exact hv
 ·
  unfold ovB at hv
  rw [if_neg (by rw [h]; decide)] at hv
  have := r_greatest f neg hf _ rfl w
  rw [hv] at this
  exact this
theorem od_nil (S : Nat) (s : ByteArray) (hs : nbA S = s) : (s.toList == []) = decide (S = 0) := by
 rw [eq_empty, ← hs, nbA_size, Bool.eq_iff_iff, decide_eq_true_iff, decide_eq_true_iff]
 exact ⟨nl_eq0 _, fun h => by rw [h]; exact nl_zero⟩
theorem rdeliver (f m : Int) (hf : Is4 f) (hm : 0 ≤ m ∧ m ≤ 4) (b : Bool) (n d : Nat) (s t : ByteArray) (e : Int) (hs : nbA n = s) (ht : nbA d = t) (hc : (XN.mk b n d e).can) (n0 : n ≠ 0) (root : Bool) (T : Int) (t1 : -1300000 ≤ T) (t2 : T ≤ 1300000) (W : Nat) (more : Bool) (hW : Wok f W) (hF : Fnd f ⟨b, n, d, e⟩ root T W more) (M : Nat) (fl : Int) (hd : dlv f m b T W more = (M, fl)) (u v : Nat) (hv : bv7 M = (u, v)) (w : World) :
  Calls Tryz.prog 75 #[.int .u8 f, .int .u8 m, .agg #[.bool b, .string s, .string t, .int .i64 e], .bool root] w fun r w' => r = .returned (.tuple #[.agg #[.int .u64 u, .int .u64 v], .int .u8 fl]) ∧ Below w.heap.size w w' := by
 have p := fp8 hf
 obtain ⟨n1, n2, n3, n4, n5, n6⟩ := nm8 hf
 have KT : Box (∀ w, Calls Tryz.prog 124 #[.agg #[.bool b, .string s, .string t, .int .i64 e], .bool root] w fun r w' => r = .returned (.int .i64 T) ∧ Below w.heap.size w w') := box (fun w => rtop f b n d s t e hs ht hc n0 root T W more hF w)
 have KP : Box (∀ w, Calls Tryz.prog 66 #[.int .u8 f] w fun r w' => r = .returned (.int .i64 (fP f)) ∧ Below w.heap.size w w') := box (fun w => r_prec_b f hf w)
 have KE : Box (∀ w, Calls Tryz.prog 113 #[.int .u8 f] w fun r w' => r = .returned (.int .i64 (fE f)) ∧ Below w.heap.size w w') := box (fun w => r_emax_b f hf w)
 have KI : Box (∀ w, Calls Tryz.prog 114 #[.int .u8 f] w fun r w' => r = .returned (.int .i64 (1 - fE f)) ∧ Below w.heap.size w w') := box (fun w => r_emin_b f hf w)
 by_cases c0 : fE f < T
 ·
  rw [dlv_over hf hW m b T more c0] at hd
  injection hd with a1 a2
  subst a1 a2
  exact rf_del_over f m b s t e root T _ _ 0 0 0 0 0 s s false false s s 0 0 u v false w KT KP KE (box (fun w => rover f m hf hm b u v hv w)) (decide_eq_true c0)
 have lim := rG_lim hW m b (dK f T) more
 have sl := nl_W hf hW
 have kk : stE f T - T = (dK f T : Int) := by unfold dK stE; omega
 have stx := st_lx hf T
 obtain ⟨S, hS⟩ : ∃ S, rG m b W (dK f T) more = S := ⟨_, rfl⟩
 have nlim := null_lim hf hW m b (dK f T) more
 have kb : dK f T ≤ 1400000 := by unfold dK stE; omega
 have jb : dJ f T ≤ 40000 := by unfold dJ stE; omega
 unfold dlv at hd
 rw [hS] at hd lim nlim
 have hj : dJ f T = 0 ∨ 2 ^ pV f ≤ S := by
  rcases jk (f := f) T with ⟨a, _⟩ | ⟨a, _⟩
  ·
   exact Or.inl a
  ·
   exact Or.inr (lim.2.1 a)
 obtain ⟨x, hx, xc, xz⟩ : ∃ x : XN, XMath.mk b S 1 (lx f + (dJ f T : Int)) = (x, 0) ∧ x.can ∧ (x.n = 0 ↔ S = 0) := by
  by_cases s0 : S = 0
  ·
   subst s0
   exact ⟨X0, mk_null _ _ _, x0_can, by decide⟩
  ·
   obtain ⟨a, c, d, _⟩ := mk_small hf b (dJ f T) S s0 lim.1 jb
   exact ⟨_, a, c, ⟨fun h => absurd h d, fun h => absurd h s0⟩⟩
 obtain ⟨xb, xn, xd, xe⟩ := x
 obtain ⟨i, j, ok, hij, hok1, hok2, hok3⟩ : ∃ i j ok, (S ≠ 0 → ∃ Mx, ofX f ⟨xb, xn, xd, xe⟩ = (Mx, ok) ∧ bv7 Mx = (i, j)) ∧ (ok = true → i = u ∧ j = v) ∧ (ok = true → ¬ fE f < stE f T - fP f + (blen S : Int)) ∧ (ok = false → fE f < stE f T - fP f + (blen S : Int)) := by
  by_cases s0 : S = 0
  ·
   have b0 : blen S = 0 := by rw [s0]; decide
   exact ⟨u, v, true, fun h => absurd s0 h, fun _ => ⟨rfl, rfl⟩, fun _ => by rw [b0]; unfold stE; omega, fun h => Bool.noConfusion h⟩
  ·
   obtain ⟨a, c, dd, tp⟩ := mk_small hf b (dJ f T) S s0 lim.1 jb
   rw [hx] at a
   injection a with a1 a2
   by_cases ov : fE f < stE f T - fP f + (blen S : Int)
   ·
    exact ⟨0, 0, false, fun _ => ⟨0, by rw [a1]; exact of_over hf b (dJ f T) S s0 lim.1 jb (by omega), rfl⟩, fun h => Bool.noConfusion h, fun h => Bool.noConfusion h, fun _ => ov⟩
   ·
    have hd2 := hd
    rw [if_neg ov] at hd2
    injection hd2 with h1 h2
    exact ⟨u, v, true, fun _ => ⟨M, by rw [a1, ← h1]; exact of_rep hf b (dJ f T) S s0 lim.1 hj (by omega), hv⟩, fun _ => ⟨rfl, rfl⟩, fun _ => ov, fun h => Bool.noConfusion h⟩
 have b0 : S = 0 → blen S = 0 := fun h => by rw [h]; decide
 have nul0 : S = 0 → M = eZero f b ∧ fl = 3 := fun s0 => by
  obtain ⟨k3, kl⟩ := nlim s0
  have hj0 : dJ f T = 0 := by have := Nat.two_pow_pos (pV f); omega
  rw [if_neg (by rw [b0 s0]; unfold stE; omega)] at hd
  injection hd with h1 h2
  rw [if_pos kl, if_pos (tn_lo hf hW m b T more (by rcases jk (f := f) T with ⟨_, q⟩ | ⟨q, _⟩ <;> omega))] at h2
  refine ⟨?_, h2.symm⟩
  rw [← h1, hj0, s0]
  unfold eS eZero enc7
  rfl
 have KF : ∀ A0, A0 = stE f T → Box (∀ w, Calls Tryz.prog 126 #[.agg #[.bool b, .string s, .string t, .int .i64 e], .bool root, .int .i64 (A0 - fP f + 1)] w fun r w' => r = .returned (.agg #[.string (nbA (rS W (dK f T))), .int .i64 (A0 - fP f + 1), .int .i64 (hfV (rH W (dK f T)) (rM W (dK f T) more)), .bool (!(rH W (dK f T) || rM W (dK f T) more))]) ∧ Below w.heap.size w w') := fun A0 h0 => box (fun w => rfind f hf b n d s t e hs ht hc root T t1 t2 W more sl hF (dK f T) _ (by omega) (by rw [h0]; unfold stE; omega) _ rfl w)
 have KK : ∀ A, Box (∀ w, Calls Tryz.prog 127 #[.int .u8 m, .bool b, .agg #[.string (nbA (rS W (dK f T))), .int .i64 A, .int .i64 (hfV (rH W (dK f T)) (rM W (dK f T) more)), .bool (!(rH W (dK f T) || rM W (dK f T) more))]] w fun r w' => r = .returned (.string (nbA S)) ∧ Below w.heap.size w w') := fun A => box (fun w => rtaken m hm b W (dK f T) more sl A _ _ rfl (by rw [hS]) w)
 have KM : ∀ A0, A0 = stE f T → Box (∀ w, Calls Tryz.prog 70 #[.bool b, .string (nbA S), .string ⟨#[1]⟩, .int .i64 (A0 - fP f + 1)] w fun r w' => r = .returned (.tuple #[.agg #[.bool xb, .string (nbA xn), .string (nbA xd), .int .i64 xe], .int .i64 0]) ∧ Below w.heap.size w w') := fun A0 h0 => box (fun w => rmake_ok b S 1 _ _ _ xb xn xd xe 0 _ _ rfl nb1 (nl_small hf S lim.1) nl1 (by decide) (by omega) (by omega) (by rw [h0, stx]; exact hx) rfl rfl w)
 have hn : ((nbA xn).toList == []) = decide (S = 0) := by rw [od_nil xn _ rfl, decide_eq_decide]; exact xz
 have hfl : (if decide (S = 0) = true then (3 : Int) else if ok = true then (if (!(rH W (dK f T) || rM W (dK f T) more)) = true then 0 else if tnB f m b T W more = true then 3 else 1) else 5) = fl := by
  by_cases s0 : S = 0
  ·
   rw [if_pos (decide_eq_true s0)]
   exact (nul0 s0).2.symm
  ·
   rw [if_neg (by simpa using s0)]
   cases ok
   ·
    rw [if_neg (by decide)]
    rw [if_pos (hok3 rfl)] at hd
    injection hd
   ·
    rw [if_pos rfl]
    rw [if_neg (hok2 rfl)] at hd
    injection hd with h1 h2
    rw [← h2]
    generalize (rH W (dK f T) || rM W (dK f T) more) = q
    cases q <;> rfl
 have KZ : Box (decide (S = 0) = true → ∀ w, Calls Tryz.prog 28 #[.int .u8 f, .bool b] w fun r w' => r = .returned (.agg #[.int .u64 u, .int .u64 v]) ∧ Below w.heap.size w w') := box (fun h w => rz_zero f b hf u v (by rw [← (nul0 (of_decide_eq_true h)).1]; exact hv) w)
 have KB : Box (decide (S = 0) = false → ∀ w, Calls Tryz.prog 128 #[.int .u8 f, .agg #[.bool xb, .string (nbA xn), .string (nbA xd), .int .i64 xe]] w fun r w' => r = .returned (.tuple #[.agg #[.int .u64 i, .int .u64 j], .bool ok]) ∧ Below w.heap.size w w') := box (fun h w => by
  obtain ⟨Mx, q1, q2⟩ := hij (of_decide_eq_false h)
  exact rOf_is f hf xb xn xd _ _ xe rfl rfl xc Mx ok i j q1 q2 w)
 have KO : Box (ok = false → ∀ w, Calls Tryz.prog 125 #[.int .u8 f, .int .u8 m, .bool b] w fun r w' => r = .returned (.agg #[.int .u64 u, .int .u64 v]) ∧ Below w.heap.size w w') := box (fun h w => rover f m hf hm b u v (by
  rw [if_pos (hok3 h)] at hd
  injection hd with h1 h2
  rw [h1]
  exact hv) w)
 have KN : Box (∀ w, Calls Tryz.prog 129 #[.int .u8 f, .int .u8 m, .agg #[.bool b, .string s, .string t, .int .i64 e], .bool root] w fun r w' => r = .returned (.bool (tnB f m b T W more)) ∧ Below w.heap.size w w') := box (fun w => rtiny f m hf hm b n d s t e hs ht hc n0 root T t1 t2 W more hW hF _ rfl w)
 by_cases lo : T < 1 - fE f
 ·
  have hst : 1 - fE f = stE f T := by unfold stE; omega
  exact rf_deliver_a f m b s t e root T (fE f) (fP f) (1 - fE f) (1 - fE f) _ (1 - fE f - fP f + 1) _ fl _ _ _ xb _ _ xe 0 u v i j ok _ _ w KT KP KE KI (KF _ hst) (KK _) (KM _ hst) KZ KB KO hok1 KN (decide_eq_false c0) (decide_eq_true lo) (wrap_i64_is _ (by omega) (by omega)) (wrap_i64_is _ (by omega) (by omega)) rfl hn hfl
 ·
  have hst : T = stE f T := by unfold stE; omega
  exact rf_deliver_b f m b s t e root T (fE f) (fP f) (1 - fE f) T _ (T - fP f + 1) _ fl _ _ _ xb _ _ xe 0 u v i j ok _ _ w KT KP KE KI (KF _ hst) (KK _) (KM _ hst) KZ KB KO hok1 KN (decide_eq_false c0) (decide_eq_false lo) (wrap_i64_is _ (by omega) (by omega)) (wrap_i64_is _ (by omega) (by omega)) rfl hn hfl
end Go.Proofs.YtpgiabmmmpdobaaGreatDoor
namespace Go.Proofs.YtpgiabmmmpdobaaGreatDoor
set_option maxRecDepth 100000
set_option maxHeartbeats 40000000
set_option maxRecDepth 100000
open Go.RowKit WMath
set_option linter.unusedSimpArgs false
set_option linter.unusedVariables false
theorem rf_fault_a (f m : Int) (b : Bool) (s t : ByteArray) (e : Int) (o1 o2 o3 : Bool) (w : World)
  (K1 : Box (∀ w, Calls Tryz.prog 58 #[.int .u8 f] w fun r w' => r = .returned (.bool o1) ∧ Below w.heap.size w w'))
  (K2 : Box (∀ w, Calls Tryz.prog 59 #[.int .u8 m] w fun r w' => r = .returned (.bool o2) ∧ Below w.heap.size w w'))
  (K3 : Box (∀ w, Calls Tryz.prog 123 #[.agg #[.bool b, .string s, .string t, .int .i64 e]] w fun r w' => r = .returned (.bool o3) ∧ Below w.heap.size w w'))
  (h1 : o1 = false)
  : Calls Tryz.prog 74 #[.int .u8 f, .int .u8 m, .agg #[.bool b, .string s, .string t, .int .i64 e]] w fun r w' => r = .returned (.int .i64 2) ∧ Below w.heap.size w w' := by
 subst h1
 obtain ⟨Aa, B0⟩ := opn1 w (Obj.cells #[.bool b, .string s, .string t, .int .i64 e] 63)
 go_enter Tryz.func74, Tryz.ntmps74
 go_wp2_with fail
 refine (K1.out _).mono ?_
 rintro r w1 ⟨rfl, b1⟩
 have B1 := btr B0 b1
 have Ab := heap_of b1 _ _ _ Aa
 clear b1 B0 Aa
 obtain ⟨Ac, Ad, Ae, Af⟩ := cells4s Ab
 go_wp2
 go_ret
 exact ⟨rfl, B1⟩
theorem rf_fault_b (f m : Int) (b : Bool) (s t : ByteArray) (e : Int) (o1 o2 o3 : Bool) (w : World)
  (K1 : Box (∀ w, Calls Tryz.prog 58 #[.int .u8 f] w fun r w' => r = .returned (.bool o1) ∧ Below w.heap.size w w'))
  (K2 : Box (∀ w, Calls Tryz.prog 59 #[.int .u8 m] w fun r w' => r = .returned (.bool o2) ∧ Below w.heap.size w w'))
  (K3 : Box (∀ w, Calls Tryz.prog 123 #[.agg #[.bool b, .string s, .string t, .int .i64 e]] w fun r w' => r = .returned (.bool o3) ∧ Below w.heap.size w w'))
  (h1 : o1 = true) (h2 : o2 = false)
  : Calls Tryz.prog 74 #[.int .u8 f, .int .u8 m, .agg #[.bool b, .string s, .string t, .int .i64 e]] w fun r w' => r = .returned (.int .i64 2) ∧ Below w.heap.size w w' := by
 subst h1 h2
 obtain ⟨Ab, B0⟩ := opn1 w (Obj.cells #[.bool b, .string s, .string t, .int .i64 e] 63)
 go_enter Tryz.func74, Tryz.ntmps74
 go_wp2_with fail
 refine (K1.out _).mono ?_
 rintro r w1 ⟨rfl, b1⟩
 have B1 := btr B0 b1
 have Aa := heap_of b1 _ _ _ Ab
 clear b1 B0 Ab
 obtain ⟨Ac, Ad, Ae, Af⟩ := cells4s Aa
 go_wp2_with fail
 refine (K2.out _).mono ?_
 rintro r w2 ⟨rfl, b2⟩
 have B2 := btr B1 b2
 have Ag := heap_of b2 _ _ _ Aa
 clear b2 B1 Aa Ac Ad Ae Af
 obtain ⟨Ah, Ai, Aj, Ak⟩ := cells4s Ag
 go_wp2
 go_ret
 exact ⟨rfl, B2⟩
theorem rf_fault_c (f m : Int) (b : Bool) (s t : ByteArray) (e : Int) (o1 o2 o3 : Bool) (w : World)
  (K1 : Box (∀ w, Calls Tryz.prog 58 #[.int .u8 f] w fun r w' => r = .returned (.bool o1) ∧ Below w.heap.size w w'))
  (K2 : Box (∀ w, Calls Tryz.prog 59 #[.int .u8 m] w fun r w' => r = .returned (.bool o2) ∧ Below w.heap.size w w'))
  (K3 : Box (∀ w, Calls Tryz.prog 123 #[.agg #[.bool b, .string s, .string t, .int .i64 e]] w fun r w' => r = .returned (.bool o3) ∧ Below w.heap.size w w'))
  (h1 : o1 = true) (h2 : o2 = true) (h3 : o3 = false)
  : Calls Tryz.prog 74 #[.int .u8 f, .int .u8 m, .agg #[.bool b, .string s, .string t, .int .i64 e]] w fun r w' => r = .returned (.int .i64 2) ∧ Below w.heap.size w w' := by
 subst h1 h2 h3
 obtain ⟨Ac, B0⟩ := opn1 w (Obj.cells #[.bool b, .string s, .string t, .int .i64 e] 63)
 go_enter Tryz.func74, Tryz.ntmps74
 go_wp2_with fail
 refine (K1.out _).mono ?_
 rintro r w1 ⟨rfl, b1⟩
 have B1 := btr B0 b1
 have Aa := heap_of b1 _ _ _ Ac
 clear b1 B0 Ac
 obtain ⟨Ad, Ae, Af, Ag⟩ := cells4s Aa
 go_wp2_with fail
 refine (K2.out _).mono ?_
 rintro r w2 ⟨rfl, b2⟩
 have B2 := btr B1 b2
 have Ab := heap_of b2 _ _ _ Aa
 clear b2 B1 Aa Ad Ae Af Ag
 obtain ⟨Ah, Ai, Aj, Ak⟩ := cells4s Ab
 go_wp2_with fail
 refine (K3.out _).mono ?_
 rintro r w3 ⟨rfl, b3⟩
 have B3 := btr B2 b3
 have Al := heap_of b3 _ _ _ Ab
 clear b3 B2 Ab Ah Ai Aj Ak
 obtain ⟨Am, An, Ao, Ap⟩ := cells4s Al
 go_wp2
 go_ret
 exact ⟨rfl, B3⟩
theorem rf_fault_d (f m : Int) (b : Bool) (s t : ByteArray) (e : Int) (o1 o2 o3 : Bool) (w : World)
  (K1 : Box (∀ w, Calls Tryz.prog 58 #[.int .u8 f] w fun r w' => r = .returned (.bool o1) ∧ Below w.heap.size w w'))
  (K2 : Box (∀ w, Calls Tryz.prog 59 #[.int .u8 m] w fun r w' => r = .returned (.bool o2) ∧ Below w.heap.size w w'))
  (K3 : Box (∀ w, Calls Tryz.prog 123 #[.agg #[.bool b, .string s, .string t, .int .i64 e]] w fun r w' => r = .returned (.bool o3) ∧ Below w.heap.size w w'))
  (h1 : o1 = true) (h2 : o2 = true) (h3 : o3 = true) (h4 : decide ((8192 : Int) < (s.size : Int)) = true)
  : Calls Tryz.prog 74 #[.int .u8 f, .int .u8 m, .agg #[.bool b, .string s, .string t, .int .i64 e]] w fun r w' => r = .returned (.int .i64 4) ∧ Below w.heap.size w w' := by
 subst h1 h2 h3
 obtain ⟨Ac, B0⟩ := opn1 w (Obj.cells #[.bool b, .string s, .string t, .int .i64 e] 63)
 go_enter Tryz.func74, Tryz.ntmps74
 go_wp2_with fail
 refine (K1.out _).mono ?_
 rintro r w1 ⟨rfl, b1⟩
 have B1 := btr B0 b1
 have Aa := heap_of b1 _ _ _ Ac
 clear b1 B0 Ac
 obtain ⟨Ad, Ae, Af, Ag⟩ := cells4s Aa
 go_wp2_with fail
 refine (K2.out _).mono ?_
 rintro r w2 ⟨rfl, b2⟩
 have B2 := btr B1 b2
 have Ab := heap_of b2 _ _ _ Aa
 clear b2 B1 Aa Ad Ae Af Ag
 obtain ⟨Ah, Ai, Aj, Ak⟩ := cells4s Ab
 go_wp2_with fail
 refine (K3.out _).mono ?_
 rintro r w3 ⟨rfl, b3⟩
 have B3 := btr B2 b3
 have Al := heap_of b3 _ _ _ Ab
 clear b3 B2 Ab Ah Ai Aj Ak
 obtain ⟨Am, An, Ao, Ap⟩ := cells4s Al
 go_wp2
 go_ret
 exact ⟨rfl, B3⟩
theorem rf_fault_e (f m : Int) (b : Bool) (s t : ByteArray) (e : Int) (o1 o2 o3 : Bool) (w : World)
  (K1 : Box (∀ w, Calls Tryz.prog 58 #[.int .u8 f] w fun r w' => r = .returned (.bool o1) ∧ Below w.heap.size w w'))
  (K2 : Box (∀ w, Calls Tryz.prog 59 #[.int .u8 m] w fun r w' => r = .returned (.bool o2) ∧ Below w.heap.size w w'))
  (K3 : Box (∀ w, Calls Tryz.prog 123 #[.agg #[.bool b, .string s, .string t, .int .i64 e]] w fun r w' => r = .returned (.bool o3) ∧ Below w.heap.size w w'))
  (h1 : o1 = true) (h2 : o2 = true) (h3 : o3 = true) (h4 : decide ((8192 : Int) < (s.size : Int)) = false) (h5 : decide ((8192 : Int) < (t.size : Int)) = true)
  : Calls Tryz.prog 74 #[.int .u8 f, .int .u8 m, .agg #[.bool b, .string s, .string t, .int .i64 e]] w fun r w' => r = .returned (.int .i64 4) ∧ Below w.heap.size w w' := by
 subst h1 h2 h3
 obtain ⟨Ac, B0⟩ := opn1 w (Obj.cells #[.bool b, .string s, .string t, .int .i64 e] 63)
 go_enter Tryz.func74, Tryz.ntmps74
 go_wp2_with fail
 refine (K1.out _).mono ?_
 rintro r w1 ⟨rfl, b1⟩
 have B1 := btr B0 b1
 have Aa := heap_of b1 _ _ _ Ac
 clear b1 B0 Ac
 obtain ⟨Ad, Ae, Af, Ag⟩ := cells4s Aa
 go_wp2_with fail
 refine (K2.out _).mono ?_
 rintro r w2 ⟨rfl, b2⟩
 have B2 := btr B1 b2
 have Ab := heap_of b2 _ _ _ Aa
 clear b2 B1 Aa Ad Ae Af Ag
 obtain ⟨Ah, Ai, Aj, Ak⟩ := cells4s Ab
 go_wp2_with fail
 refine (K3.out _).mono ?_
 rintro r w3 ⟨rfl, b3⟩
 have B3 := btr B2 b3
 have Al := heap_of b3 _ _ _ Ab
 clear b3 B2 Ab Ah Ai Aj Ak
 obtain ⟨Am, An, Ao, Ap⟩ := cells4s Al
 go_wp2
 go_ret
 exact ⟨rfl, B3⟩
theorem rf_fault_f (f m : Int) (b : Bool) (s t : ByteArray) (e : Int) (o1 o2 o3 : Bool) (w : World)
  (K1 : Box (∀ w, Calls Tryz.prog 58 #[.int .u8 f] w fun r w' => r = .returned (.bool o1) ∧ Below w.heap.size w w'))
  (K2 : Box (∀ w, Calls Tryz.prog 59 #[.int .u8 m] w fun r w' => r = .returned (.bool o2) ∧ Below w.heap.size w w'))
  (K3 : Box (∀ w, Calls Tryz.prog 123 #[.agg #[.bool b, .string s, .string t, .int .i64 e]] w fun r w' => r = .returned (.bool o3) ∧ Below w.heap.size w w'))
  (h1 : o1 = true) (h2 : o2 = true) (h3 : o3 = true) (h4 : decide ((8192 : Int) < (s.size : Int)) = false) (h5 : decide ((8192 : Int) < (t.size : Int)) = false)
  : Calls Tryz.prog 74 #[.int .u8 f, .int .u8 m, .agg #[.bool b, .string s, .string t, .int .i64 e]] w fun r w' => r = .returned (.int .i64 0) ∧ Below w.heap.size w w' := by
 subst h1 h2 h3
 obtain ⟨Ac, B0⟩ := opn1 w (Obj.cells #[.bool b, .string s, .string t, .int .i64 e] 63)
 go_enter Tryz.func74, Tryz.ntmps74
 go_wp2_with fail
 refine (K1.out _).mono ?_
 rintro r w1 ⟨rfl, b1⟩
 have B1 := btr B0 b1
 have Aa := heap_of b1 _ _ _ Ac
 clear b1 B0 Ac
 obtain ⟨Ad, Ae, Af, Ag⟩ := cells4s Aa
 go_wp2_with fail
 refine (K2.out _).mono ?_
 rintro r w2 ⟨rfl, b2⟩
 have B2 := btr B1 b2
 have Ab := heap_of b2 _ _ _ Aa
 clear b2 B1 Aa Ad Ae Af Ag
 obtain ⟨Ah, Ai, Aj, Ak⟩ := cells4s Ab
 go_wp2_with fail
 refine (K3.out _).mono ?_
 rintro r w3 ⟨rfl, b3⟩
 have B3 := btr B2 b3
 have Al := heap_of b3 _ _ _ Ab
 clear b3 B2 Ab Ah Ai Aj Ak
 obtain ⟨Am, An, Ao, Ap⟩ := cells4s Al
 go_wp2
 go_ret
 exact ⟨rfl, B3⟩
theorem rf_Root_null (f m : Int) (w : World)
  (KF : Box (∀ w, Calls Tryz.prog 74 #[.int .u8 f, .int .u8 m, .agg #[.bool false, .string ⟨#[]⟩, .string ⟨#[1]⟩, .int .i64 0]] w fun r w' => r = .returned (.int .i64 0) ∧ Below w.heap.size w w'))
  : Calls Tryz.prog 33 #[.int .u8 f, .int .u8 m, .agg #[.bool false, .string ⟨#[]⟩, .string ⟨#[1]⟩, .int .i64 0]] w fun r w' => r = .returned (.tuple #[.agg #[.int .u64 0, .int .u64 0], .int .u8 0, .int .i64 0]) ∧ Below w.heap.size w w' := by
 obtain ⟨Ab, Ac, B0⟩ := opn2 w (Obj.cells #[.bool false, .string ⟨#[]⟩, .string ⟨#[1]⟩, .int .i64 0] 63) (Obj.cells #[.int .u64 0, .int .u64 0] 26)
 go_enter Tryz.func33, Tryz.ntmps33
 go_wp2_with fail
 refine (KF.out _).mono ?_
 rintro r w1 ⟨rfl, b1⟩
 have B1 := btr B0 b1
 obtain ⟨Ad, Aa⟩ := rws2 b1 Ab Ac
 clear b1 B0 Ab Ac
 obtain ⟨Ae, Af, Ag, Ah⟩ := cells4s Ad
 obtain ⟨Ai, Aj⟩ := cells2s Aa
 have q0 := fz (k := 0) Aa
 have q1 := fz (k := 1) Aa
 obtain ⟨E0, E1⟩ := set2_cells Aa (.int .u64 0) (.int .u64 0)
 go_wp2
 exact bodyPost_ret (v := .tuple #[.agg #[.int .u64 0, .int .u64 0], .int .u8 0, .int .i64 0]) (by simp [results, Tryz.results33, go_sem, E0, E1]) rfl ⟨rfl, set2_below B1 (by first | exact Nat.le_refl _ | omega | (skip; omega)) _ _⟩
theorem rf_Root_ok (f m : Int) (b : Bool) (s t : ByteArray) (e : Int) (u v : Nat) (fl : Int) (w : World)
  (KF : Box (∀ w, Calls Tryz.prog 74 #[.int .u8 f, .int .u8 m, .agg #[.bool b, .string s, .string t, .int .i64 e]] w fun r w' => r = .returned (.int .i64 0) ∧ Below w.heap.size w w'))
  (KD : Box (∀ w, Calls Tryz.prog 75 #[.int .u8 f, .int .u8 m, .agg #[.bool b, .string s, .string t, .int .i64 e], .bool true] w fun r w' => r = .returned (.tuple #[.agg #[.int .u64 u, .int .u64 v], .int .u8 fl]) ∧ Below w.heap.size w w'))
  (hs : (s.toList == []) = false) (hb : b = false) : Calls Tryz.prog 33 #[.int .u8 f, .int .u8 m, .agg #[.bool b, .string s, .string t, .int .i64 e]] w fun r w' => r = .returned (.tuple #[.agg #[.int .u64 u, .int .u64 v], .int .u8 fl, .int .i64 0]) ∧ Below w.heap.size w w' := by
 subst hb
 obtain ⟨Af, Ag, B0⟩ := opn2 w (Obj.cells #[.bool false, .string s, .string t, .int .i64 e] 63) (Obj.cells #[.int .u64 0, .int .u64 0] 26)
 go_enter Tryz.func33, Tryz.ntmps33
 go_wp2_with fail
 refine (KF.out _).mono ?_
 rintro r w1 ⟨rfl, b1⟩
 have B1 := btr B0 b1
 obtain ⟨Ad, Ae⟩ := rws2 b1 Af Ag
 clear b1 B0 Af Ag
 obtain ⟨Ah, Ai, Aj, Ak⟩ := cells4s Ad
 obtain ⟨Al, Am⟩ := cells2s Ae
 go_wp2_with fail
 refine (KD.out _).mono ?_
 rintro r w2 ⟨rfl, b2⟩
 have B2 := btr B1 b2
 obtain ⟨Aa, Ab⟩ := rws2 b2 Ad Ae
 clear b2 B1 Ad Ah Ai Aj Ak Ae Al Am
 obtain ⟨An, Ao, Ap, Aq⟩ := cells4s Aa
 obtain ⟨Ar, As⟩ := cells2s Ab
 have S3 := box B2.size
 have At := ltR Aa
 have Au := ltR Ab
 have Av := heap_alloc_last w2 (Obj.cells #[.int .u64 u, .int .u64 v] 26)
 have B3 := btr B2 (bal w2 (Obj.cells #[.int .u64 u, .int .u64 v] 26))
 obtain ⟨Aw, Ac⟩ := rws2 (bal w2 (Obj.cells #[.int .u64 u, .int .u64 v] 26)) Aa Ab
 clear B2 Aa An Ao Ap Aq Ab Ar As
 obtain ⟨Ax, Ay, Az, AA⟩ := cells4s Aw
 obtain ⟨AB, AC⟩ := cells2s Ac
 obtain ⟨AD, AE⟩ := cells2s Av
 have q0 := fz (k := 0) Ac
 have q1 := fz (k := 1) Ac
 obtain ⟨E0, E1⟩ := set2_cells Ac (.int .u64 u) (.int .u64 v)
 go_wp2
 exact bodyPost_ret (v := .tuple #[.agg #[.int .u64 u, .int .u64 v], .int .u8 fl, .int .i64 0]) (by simp [results, Tryz.results33, go_sem, E0, E1]) rfl ⟨rfl, set2_below B3 (by first | exact Nat.le_refl _ | omega | (have := S3.out; have := At.out; have := Au.out; omega)) _ _⟩
end Go.Proofs.YtpgiabmmmpdobaaGreatDoor
namespace Go.Proofs.YtpgiabmmmpdobaaGreatDoor
set_option maxRecDepth 100000
set_option maxHeartbeats 40000000
set_option maxRecDepth 100000
open Go.RowKit WMath XMath
set_option linter.unusedSimpArgs false
set_option linter.unusedVariables false
def flt (f m : Int) (may : Bool) (s t : ByteArray) : Int := if f ≤ 3 ∧ m ≤ 4 ∧ may = true then (if 8192 < s.size ∨ 8192 < t.size then 4 else 0) else 2
theorem rfault (f m : Int) (b : Bool) (s t : ByteArray) (e : Int) (may : Bool) (hm : IsM may b s t e) (c : Int) (hc : flt f m may s t = c) (w : World) : Calls Tryz.prog 74 #[.int .u8 f, .int .u8 m, .agg #[.bool b, .string s, .string t, .int .i64 e]] w fun r w' => r = .returned (.int .i64 c) ∧ Below w.heap.size w w' := by
 have K1 : Box (∀ w, Calls Tryz.prog 58 #[.int .u8 f] w fun r w' => r = .returned (.bool (decide (f ≤ 3))) ∧ Below w.heap.size w w') := box (fun w => bel_same (r_right f _ rfl w))
 have K2 : Box (∀ w, Calls Tryz.prog 59 #[.int .u8 m] w fun r w' => r = .returned (.bool (decide (m ≤ 4))) ∧ Below w.heap.size w w') := box (fun w => bel_same (r_mode m _ rfl w))
 have K3 : Box (∀ w, Calls Tryz.prog 123 #[.agg #[.bool b, .string s, .string t, .int .i64 e]] w fun r w' => r = .returned (.bool may) ∧ Below w.heap.size w w') := box (fun w => xmayM b s t e may hm w)
 unfold flt at hc
 by_cases c1 : f ≤ 3
 ·
  by_cases c2 : m ≤ 4
  ·
   cases may
   ·
    rw [if_neg (by simp)] at hc
    subst hc
    exact rf_fault_c f m b s t e _ _ false w K1 K2 K3 (decide_eq_true c1) (decide_eq_true c2) rfl
   ·
    rw [if_pos ⟨c1, c2, rfl⟩] at hc
    by_cases c4 : 8192 < s.size
    ·
     rw [if_pos (Or.inl c4)] at hc
     subst hc
     exact rf_fault_d f m b s t e _ _ _ w K1 K2 K3 (decide_eq_true c1) (decide_eq_true c2) rfl (decide_eq_true (by omega))
    ·
     by_cases c5 : 8192 < t.size
     ·
      rw [if_pos (Or.inr c5)] at hc
      subst hc
      exact rf_fault_e f m b s t e _ _ _ w K1 K2 K3 (decide_eq_true c1) (decide_eq_true c2) rfl (decide_eq_false (by omega)) (decide_eq_true (by omega))
     ·
      rw [if_neg (by omega)] at hc
      subst hc
      exact rf_fault_f f m b s t e _ _ _ w K1 K2 K3 (decide_eq_true c1) (decide_eq_true c2) rfl (decide_eq_false (by omega)) (decide_eq_false (by omega))
  ·
   rw [if_neg (by omega)] at hc
   subst hc
   exact rf_fault_b f m b s t e _ _ _ w K1 K2 K3 (decide_eq_true c1) (decide_eq_false c2)
 ·
  rw [if_neg (by omega)] at hc
  subst hc
  exact rf_fault_a f m b s t e _ _ _ w K1 K2 K3 (decide_eq_false c1)
theorem flt_ok {f m : Int} (hf : Is4 f) (hm : 0 ≤ m ∧ m ≤ 4) {n d : Nat} {s t : ByteArray} (hs : nbA n = s) (ht : nbA d = t) (ln : nl n ≤ 8192) (ld : nl d ≤ 8192) : flt f m true s t = 0 := by
 have a : s.size = nl n := by rw [← hs, nbA_size]
 have c : t.size = nl d := by rw [← ht, nbA_size]
 have f3 : f ≤ 3 := by rcases hf with rfl | rfl | rfl | rfl <;> decide
 unfold flt
 rw [if_pos ⟨f3, hm.2, rfl⟩, if_neg (by omega)]
def rnd (f m : Int) (x : XN) : Nat × Int := if x.n = 0 then (0, 0) else dlv f m x.b (topX x) (xW f x) (xM f x)
def Rts (f m : Int) (x : XN) (M : Nat) (fl : Int) : Prop := if x.n = 0 then M = 0 ∧ fl = 0 else ∃ W more, Wok f W ∧ RtN f x W more ∧ dlv f m false (topX x / 2) W more = (M, fl)
theorem rRoot_is (f m : Int) (hf : Is4 f) (hm : 0 ≤ m ∧ m ≤ 4) (n d : Nat) (s t : ByteArray) (e : Int) (hs : nbA n = s) (ht : nbA d = t) (hc : (XN.mk false n d e).can) (ln : nl n ≤ 8192) (ld : nl d ≤ 8192) (M : Nat) (fl : Int) (hd : Rts f m ⟨false, n, d, e⟩ M fl) (u v : Nat) (hv : bv7 M = (u, v)) (w : World) :
  Calls Tryz.prog 33 #[.int .u8 f, .int .u8 m, .agg #[.bool false, .string s, .string t, .int .i64 e]] w fun r w' => r = .returned (.tuple #[.agg #[.int .u64 u, .int .u64 v], .int .u8 fl, .int .i64 0]) ∧ Below w.heap.size w w' := by
 have KF : Box (∀ w, Calls Tryz.prog 74 #[.int .u8 f, .int .u8 m, .agg #[.bool false, .string s, .string t, .int .i64 e]] w fun r w' => r = .returned (.int .i64 0) ∧ Below w.heap.size w w') := box (fun w => rfault f m false s t e true (may_yes hs ht hc) 0 (flt_ok hf hm hs ht ln ld) w)
 unfold Rts at hd
 rcases x_cases hs ht hc with ⟨n0, _, rfl, rfl, rfl, rfl⟩ | ⟨n0, e0⟩
 ·
  rw [if_pos n0] at hd
  obtain ⟨rfl, rfl⟩ := hd
  injection hv with h3 h4
  subst h3 h4
  exact rf_Root_null f m w KF
 ·
  rw [if_neg n0] at hd
  obtain ⟨W, more, a, b, c⟩ := hd
  obtain ⟨t1, t2⟩ := top_lim hc
  exact rf_Root_ok f m false s t e u v fl w KF (box (fun w => rdeliver f m hf hm false n d s t e hs ht hc n0 true _ (by omega) (by omega) W more a (by unfold Fnd; rw [if_pos rfl]; exact ⟨rfl, b⟩) M fl c u v hv w)) (eq_nil n s hs n0) rfl
end Go.Proofs.YtpgiabmmmpdobaaGreatDoor
namespace Go.Proofs.YtpgiabmmmpdobaaGreatDoor
set_option maxRecDepth 100000
set_option maxHeartbeats 40000000
set_option maxRecDepth 100000
open Go.RowKit WMath
set_option linter.unusedSimpArgs false
set_option linter.unusedVariables false
def rg (neg : Bool) (s : Nat) (x : Int) (more : Bool) : Array Value := #[.bool neg, .int .u64 (wd s 0), .int .u64 (wd s 1), .int .u64 (wd s 2), .int .u64 (wd s 3), .int .u64 (wd s 4), .int .u64 (wd s 5), .int .i64 x, .bool more]
theorem rgf (neg : Bool) (s : Nat) (x : Int) (more : Bool) : #[Value.bool neg, .int .u64 (wd s 0), .int .u64 (wd s 1), .int .u64 (wd s 2), .int .u64 (wd s 3), .int .u64 (wd s 4), .int .u64 (wd s 5), .int .i64 x, .bool more] = rg neg s x more := rfl
theorem rgz : #[Value.bool false, .int .u64 0, .int .u64 0, .int .u64 0, .int .u64 0, .int .u64 0, .int .u64 0, .int .i64 0, .bool false] = rg false 0 0 false := by unfold rg; simp [wd_zero]
theorem rg_size (neg : Bool) (s : Nat) (x : Int) (more : Bool) : (rg neg s x more).size = 9 := rfl
theorem rg_one (neg : Bool) (s : Nat) (x : Int) (more : Bool) : ∀ v ∈ (rg neg s x more).toList, v.oneCell' = true := by
 intro v hv
 simp only [rg, List.mem_cons, List.not_mem_nil, or_false] at hv
 rcases hv with rfl | rfl | rfl | rfl | rfl | rfl | rfl | rfl | rfl <;> rfl
theorem st_r (w : World) (b : Nat) (neg : Bool) (s : Nat) (x : Int) (more neg0 : Bool) (s0 : Nat) (x0 : Int) (more0 : Bool) (h : w.heap[b]? = some (.cells (rg neg0 s0 x0 more0) 54)) :
  (storeCells ⟨b, 0, none⟩ (rg neg s x more).toList 0).run Tryz.prog w = .ok () (w.setRow b (rg neg s x more)) :=
 run_storeCells_at (P := Tryz.prog) b 0 54 (rg neg s x more).toList 0 (rg neg0 s0 x0 more0) w h (by simp only [Array.length_toList, rg_size]; omega) (rg_one neg s x more)
theorem st_r0 (w : World) (b : Nat) (neg : Bool) (s : Nat) (x : Int) (more neg0 : Bool) (s0 : Nat) (x0 : Int) (more0 : Bool) (hb : b = w.heap.size) :
  (storeCells ⟨b, 0, none⟩ (rg neg s x more).toList 0).run Tryz.prog (w.alloc (.cells (rg neg0 s0 x0 more0) 54)) = .ok () (w.alloc (.cells (rg neg s x more) 54)) := by
 subst hb
 rw [st_r _ _ neg s x more neg0 s0 x0 more0 (heap_alloc_last w _), World.setRow_alloc_new]
theorem rg_cells {w : World} {g : Nat} {T : TypeId} {neg : Bool} {s : Nat} {x : Int} {more : Bool} (R : w.heap[g]? = some (.cells (rg neg s x more) T)) : w.cell? ⟨g, 0, none⟩ = some (.bool neg) ∧ w.cell? ⟨g, 1, none⟩ = some (.int .u64 (wd s 0)) ∧ w.cell? ⟨g, 2, none⟩ = some (.int .u64 (wd s 1)) ∧ w.cell? ⟨g, 3, none⟩ = some (.int .u64 (wd s 2)) ∧ w.cell? ⟨g, 4, none⟩ = some (.int .u64 (wd s 3)) ∧ w.cell? ⟨g, 5, none⟩ = some (.int .u64 (wd s 4)) ∧ w.cell? ⟨g, 6, none⟩ = some (.int .u64 (wd s 5)) ∧ w.cell? ⟨g, 7, none⟩ = some (.int .i64 x) ∧ w.cell? ⟨g, 8, none⟩ = some (.bool more) :=
 ⟨cells4 R 0 _ rfl, cells4 R 1 _ rfl, cells4 R 2 _ rfl, cells4 R 3 _ rfl, cells4 R 4 _ rfl, cells4 R 5 _ rfl, cells4 R 6 _ rfl, cells4 R 7 _ rfl, cells4 R 8 _ rfl⟩
theorem rg_set1 (neg : Bool) (s t : Nat) (x : Int) (more : Bool) (h : ∀ k, 0 < k → k < 6 → wd t k = wd s k) : (rg neg s x more).setIfInBounds 1 (.int .u64 (wd t 0)) = rg neg t x more := by
 have h1 := h 1 (by decide) (by decide)
 have h2 := h 2 (by decide) (by decide)
 have h3 := h 3 (by decide) (by decide)
 have h4 := h 4 (by decide) (by decide)
 have h5 := h 5 (by decide) (by decide)
 unfold rg
 rw [h1, h2, h3, h4, h5]
 rfl
theorem rg_set8 (neg : Bool) (s : Nat) (x : Int) (more m2 : Bool) : (rg neg s x more).setIfInBounds 8 (.bool m2) = rg neg s x m2 := rfl
theorem ro_stepAt (f T P A1 v : Int) (w : World)
  (KP : Box (∀ w, FAt w → Calls Tryz.prog 85 #[.int .u8 f] w fun r w' => r = .returned (.int .i64 P) ∧ Below w.heap.size w w'))
  (h1 : IntKind.i64.wrap (T - P) = A1) (h2 : IntKind.i64.wrap (A1 + 1) = v) (hT : FAt w) : Calls Tryz.prog 50 #[.int .u8 f, .int .i64 T] w fun r w' => r = .returned (.int .i64 v) ∧ Below w.heap.size w w' := by
 have FF := box hT
 clear hT
 have B0 : Below w.heap.size w w := (Below.refl _ _)
 go_enter Tryz.func50, Tryz.ntmps50
 go_wp2_with fail
 refine (KP.out _ (fatB FF.out B0)).mono ?_
 rintro r w1 ⟨rfl, b1⟩
 have B1 := btr B0 b1
 clear b1 B0 
 go_wp2
 go_ret
 exact ⟨rfl, B1⟩
theorem ro_top (neg : Bool) (s : Nat) (x : Int) (more : Bool) (l A1 v : Int) (w : World)
  (KL : Box (∀ w, Calls Tryz.prog 56 #[.agg (cw 6 s)] w fun r w' => r = .returned (.int .i64 l) ∧ Below w.heap.size w w'))
  (h1 : IntKind.i64.wrap (x + l) = A1) (h2 : IntKind.i64.wrap (A1 - 1) = v) : Calls Tryz.prog 51 #[.agg (rg neg s x more)] w fun r w' => r = .returned (.int .i64 v) ∧ Below w.heap.size w w' := by
 have hat := cw_at 6
 have hz := cw6z
 have hff := cw6f
 have hs0 := st0
 have hcs : ∀ x, ((cw 6 x).size = 6) = True := fun x => eq_true (cw_size 6 x)
 obtain ⟨Aa, B0⟩ := opn1 w (Obj.cells (rg neg s x more) 54)
 go_enter Tryz.func51, Tryz.ntmps51
 have sS : Box (∀ W W1 : World, (Below w.heap.size w W ∧ W.heap[w.heap.size]? = some (.cells (rg neg s x more) 54)) → Below W.heap.size W W1 → (Below w.heap.size w W1 ∧ W1.heap[w.heap.size]? = some (.cells (rg neg s x more) 54))) := box (fun W W1 h b => ⟨btr h.1 b, heap_of b _ _ _ h.2⟩)
 have sC : Box (∀ W : World, (Below w.heap.size w W ∧ W.heap[w.heap.size]? = some (.cells (rg neg s x more) 54)) → (Below w.heap.size w W ∧ W.heap[w.heap.size]? = some (.cells (rg neg s x more) 54) ∧ W.cell? ⟨w.heap.size, 0, none⟩ = some (.bool neg) ∧ W.cell? ⟨w.heap.size, 1, none⟩ = some (.int .u64 (wd s 0)) ∧ W.cell? ⟨w.heap.size, 2, none⟩ = some (.int .u64 (wd s 1)) ∧ W.cell? ⟨w.heap.size, 3, none⟩ = some (.int .u64 (wd s 2)) ∧ W.cell? ⟨w.heap.size, 4, none⟩ = some (.int .u64 (wd s 3)) ∧ W.cell? ⟨w.heap.size, 5, none⟩ = some (.int .u64 (wd s 4)) ∧ W.cell? ⟨w.heap.size, 6, none⟩ = some (.int .u64 (wd s 5)) ∧ W.cell? ⟨w.heap.size, 7, none⟩ = some (.int .i64 x) ∧ W.cell? ⟨w.heap.size, 8, none⟩ = some (.bool more))) := box (fun W h => ⟨h.1, h.2, cell7 (h.2) 0 _ rfl, cell7 (h.2) 1 _ rfl, cell7 (h.2) 2 _ rfl, cell7 (h.2) 3 _ rfl, cell7 (h.2) 4 _ rfl, cell7 (h.2) 5 _ rfl, cell7 (h.2) 6 _ rfl, cell7 (h.2) 7 _ rfl, cell7 (h.2) 8 _ rfl⟩)
 have s0 : Below w.heap.size w ((w.alloc (Obj.cells (rg neg s x more) 54))).drew ∧ ((w.alloc (Obj.cells (rg neg s x more) 54))).drew.heap[w.heap.size]? = some (.cells (rg neg s x more) 54) := ⟨B0.drew, Aa⟩
 go_wp2_with fail
 go_region_held3 (fun W => Below w.heap.size w W ∧ W.heap[w.heap.size]? = some (.cells (rg neg s x more) 54) ∧ W.cell? ⟨w.heap.size, 0, none⟩ = some (.bool neg) ∧ W.cell? ⟨w.heap.size, 1, none⟩ = some (.int .u64 (wd s 0)) ∧ W.cell? ⟨w.heap.size, 2, none⟩ = some (.int .u64 (wd s 1)) ∧ W.cell? ⟨w.heap.size, 3, none⟩ = some (.int .u64 (wd s 2)) ∧ W.cell? ⟨w.heap.size, 4, none⟩ = some (.int .u64 (wd s 3)) ∧ W.cell? ⟨w.heap.size, 5, none⟩ = some (.int .u64 (wd s 4)) ∧ W.cell? ⟨w.heap.size, 6, none⟩ = some (.int .u64 (wd s 5)) ∧ W.cell? ⟨w.heap.size, 7, none⟩ = some (.int .i64 x) ∧ W.cell? ⟨w.heap.size, 8, none⟩ = some (.bool more)) (first | exact sC.out _ s1 | exact sC.out _ s0)
  (first | (go_at_call 56; (first | refine (KL.out _).mono ?_ | refine (KL.out _).mono ?_); rintro r wq ⟨rfl, bq⟩; have s1 := (by first | exact sS.out _ _ s1 bq | exact sS.out _ _ s0 bq); clear bq) | fail)
 have B1 := (And.left s1)
 have Ab := s1.2
 clear s0 s1 sS sC B0 Aa
 obtain ⟨Ac, Ad, Ae, Af, Ag, Ah, Ai, Aj, Ak⟩ := rg_cells Ab
 go_wp2
 go_ret
 exact ⟨rfl, B1⟩
theorem ro_check_a (f m c1 : Int) (w : World) (K1 : Box (∀ w, Calls Tryz.prog 81 #[.int .u8 f] w fun r w' => r = .returned (.int .i64 c1) ∧ Below w.heap.size w w')) (h1 : (c1 != 0) = true) : Calls Tryz.prog 45 #[.int .u8 f, .int .u8 m] w fun r w' => r = .returned (.int .i64 2) ∧ Below w.heap.size w w' := by
 have B0 : Below w.heap.size w w := (Below.refl _ _)
 go_enter Tryz.func45, Tryz.ntmps45
 go_wp2_with fail
 refine (K1.out _).mono ?_
 rintro r w1 ⟨rfl, b1⟩
 have B1 := btr B0 b1
 clear b1 B0 
 go_wp2
 go_ret
 exact ⟨rfl, B1⟩
theorem ro_check_b (f m c1 c2 : Int) (w : World) (K1 : Box (∀ w, Calls Tryz.prog 81 #[.int .u8 f] w fun r w' => r = .returned (.int .i64 c1) ∧ Below w.heap.size w w')) (K2 : Box (∀ w, Calls Tryz.prog 94 #[.int .u8 m] w fun r w' => r = .returned (.int .i64 c2) ∧ Below w.heap.size w w')) (h1 : (c1 != 0) = false) (h2 : (c2 != 0) = true) : Calls Tryz.prog 45 #[.int .u8 f, .int .u8 m] w fun r w' => r = .returned (.int .i64 2) ∧ Below w.heap.size w w' := by
 have B0 : Below w.heap.size w w := (Below.refl _ _)
 go_enter Tryz.func45, Tryz.ntmps45
 go_wp2_with fail
 refine (K1.out _).mono ?_
 rintro r w1 ⟨rfl, b1⟩
 have B1 := btr B0 b1
 clear b1 B0 
 go_wp2_with fail
 refine (K2.out _).mono ?_
 rintro r w2 ⟨rfl, b2⟩
 have B2 := btr B1 b2
 clear b2 B1 
 go_wp2
 go_ret
 exact ⟨rfl, B2⟩
theorem ro_check_c (f m c1 c2 : Int) (w : World) (K1 : Box (∀ w, Calls Tryz.prog 81 #[.int .u8 f] w fun r w' => r = .returned (.int .i64 c1) ∧ Below w.heap.size w w')) (K2 : Box (∀ w, Calls Tryz.prog 94 #[.int .u8 m] w fun r w' => r = .returned (.int .i64 c2) ∧ Below w.heap.size w w')) (h1 : (c1 != 0) = false) (h2 : (c2 != 0) = false) : Calls Tryz.prog 45 #[.int .u8 f, .int .u8 m] w fun r w' => r = .returned (.int .i64 0) ∧ Below w.heap.size w w' := by
 have B0 : Below w.heap.size w w := (Below.refl _ _)
 go_enter Tryz.func45, Tryz.ntmps45
 go_wp2_with fail
 refine (K1.out _).mono ?_
 rintro r w1 ⟨rfl, b1⟩
 have B1 := btr B0 b1
 clear b1 B0 
 go_wp2_with fail
 refine (K2.out _).mono ?_
 rintro r w2 ⟨rfl, b2⟩
 have B2 := btr B1 b2
 clear b2 B1 
 go_wp2
 go_ret
 exact ⟨rfl, B2⟩
theorem ro_may_lo (f : Int) (neg : Bool) (s : Nat) (x : Int) (more : Bool) (w : World) (h : decide (x < -1048576) = true) : Calls Tryz.prog 46 #[.int .u8 f, .agg (rg neg s x more)] w fun r w' => r = .returned (.bool false) ∧ Below w.heap.size w w' := by
 have hat := cw_at 6
 have hz := cw6z
 have hff := cw6f
 have hs0 := st0
 have hcs : ∀ x, ((cw 6 x).size = 6) = True := fun x => eq_true (cw_size 6 x)
 obtain ⟨Aa, B0⟩ := opn1 w (Obj.cells (rg neg s x more) 54)
 go_enter Tryz.func46, Tryz.ntmps46
 obtain ⟨Ab, Ac, Ad, Ae, Af, Ag, Ah, Ai, Aj⟩ := rg_cells Aa
 go_wp2
 go_ret
 exact ⟨rfl, B0⟩
theorem ro_may_hi (f : Int) (neg : Bool) (s : Nat) (x : Int) (more : Bool) (w : World) (h : decide (x < -1048576) = false) (h2 : decide (1048576 < x) = true) : Calls Tryz.prog 46 #[.int .u8 f, .agg (rg neg s x more)] w fun r w' => r = .returned (.bool false) ∧ Below w.heap.size w w' := by
 have hat := cw_at 6
 have hz := cw6z
 have hff := cw6f
 have hs0 := st0
 have hcs : ∀ x, ((cw 6 x).size = 6) = True := fun x => eq_true (cw_size 6 x)
 obtain ⟨Aa, B0⟩ := opn1 w (Obj.cells (rg neg s x more) 54)
 go_enter Tryz.func46, Tryz.ntmps46
 obtain ⟨Ab, Ac, Ad, Ae, Af, Ag, Ah, Ai, Aj⟩ := rg_cells Aa
 go_wp2
 go_ret
 exact ⟨rfl, B0⟩
theorem ro_may_no (f : Int) (neg : Bool) (s : Nat) (x : Int) (w : World) (h : decide (x < -1048576) = false) (h2 : decide (1048576 < x) = false) : Calls Tryz.prog 46 #[.int .u8 f, .agg (rg neg s x false)] w fun r w' => r = .returned (.bool true) ∧ Below w.heap.size w w' := by
 have hat := cw_at 6
 have hz := cw6z
 have hff := cw6f
 have hs0 := st0
 have hcs : ∀ x, ((cw 6 x).size = 6) = True := fun x => eq_true (cw_size 6 x)
 obtain ⟨Aa, B0⟩ := opn1 w (Obj.cells (rg neg s x false) 54)
 go_enter Tryz.func46, Tryz.ntmps46
 obtain ⟨Ab, Ac, Ad, Ae, Af, Ag, Ah, Ai, Aj⟩ := rg_cells Aa
 go_wp2
 go_ret
 exact ⟨rfl, B0⟩
theorem ro_may_more (f : Int) (neg : Bool) (s : Nat) (x : Int) (l P A1 : Int) (o : Bool) (w : World)
  (KL : Box (∀ w, Calls Tryz.prog 56 #[.agg (cw 6 s)] w fun r w' => r = .returned (.int .i64 l) ∧ Below w.heap.size w w'))
  (KP : Box (∀ w, FAt w → Calls Tryz.prog 85 #[.int .u8 f] w fun r w' => r = .returned (.int .i64 P) ∧ Below w.heap.size w w'))
  (h : decide (x < -1048576) = false) (h2 : decide (1048576 < x) = false) (h3 : IntKind.i64.wrap (P + 2) = A1) (ho : decide (A1 ≤ l) = o) (hT : FAt w) : Calls Tryz.prog 46 #[.int .u8 f, .agg (rg neg s x true)] w fun r w' => r = .returned (.bool o) ∧ Below w.heap.size w w' := by
 have FF := box hT
 clear hT
 have hat := cw_at 6
 have hz := cw6z
 have hff := cw6f
 have hs0 := st0
 have hcs : ∀ x, ((cw 6 x).size = 6) = True := fun x => eq_true (cw_size 6 x)
 obtain ⟨Aa, B0⟩ := opn1 w (Obj.cells (rg neg s x true) 54)
 go_enter Tryz.func46, Tryz.ntmps46
 obtain ⟨Ac, Ad, Ae, Af, Ag, Ah, Ai, Aj, Ak⟩ := rg_cells Aa
 go_wp2_with fail
 refine (KL.out _).mono ?_
 rintro r w1 ⟨rfl, b1⟩
 have B1 := btr B0 b1
 have Ab := heap_of b1 _ _ _ Aa
 clear b1 B0 Aa Ac Ad Ae Af Ag Ah Ai Aj Ak
 obtain ⟨Al, Am, An, Ao, Ap, Aq, Ar, As, At⟩ := rg_cells Ab
 go_wp2_with fail
 refine (KP.out _ (fatB FF.out B1)).mono ?_
 rintro r w2 ⟨rfl, b2⟩
 have B2 := btr B1 b2
 have Au := heap_of b2 _ _ _ Ab
 clear b2 B1 Ab Al Am An Ao Ap Aq Ar As At
 obtain ⟨Av, Aw, Ax, Ay, Az, AA, AB, AC, AD⟩ := rg_cells Au
 go_wp2
 go_ret
 exact ⟨rfl, B2⟩
def uP (m : Int) (neg odd : Bool) (h : Int) (ex : Bool) : Bool := if ex then false else if m = 2 then neg else if m = 3 then !neg else if m = 0 then (decide (0 < h) || (decide (h = 0) && odd)) else if m = 4 then decide (0 ≤ h) else false
theorem uP_gO (m : Int) (neg odd half more : Bool) : uP m neg odd (hfV half more) (!(half || more)) = gO m neg odd half more := by
 unfold uP gO hfV
 by_cases c0 : m = 0
 ·
  subst c0; cases half <;> cases more <;> cases odd <;> rfl
 by_cases c2 : m = 2
 ·
  subst c2; cases half <;> cases more <;> cases neg <;> rfl
 by_cases c3 : m = 3
 ·
  subst c3; cases half <;> cases more <;> cases neg <;> rfl
 by_cases c4 : m = 4
 ·
  subst c4; cases half <;> cases more <;> rfl
 rw [if_neg c2, if_neg c3, if_neg c0, if_neg c4, if_neg c0, if_neg c4, if_neg c2, if_neg c3]
 split <;> rfl
theorem ro_up (m : Int) (neg odd : Bool) (h : Int) (ex o : Bool) (ho : uP m neg odd h ex = o) (w : World) : Calls Tryz.prog 92 #[.int .u8 m, .bool neg, .bool odd, .int .i64 h, .bool ex] w fun r w' => r = .returned (.bool o) ∧ Below w.heap.size w w' := by
 subst ho
 cases ex
 case true =>
  have B0 : Below w.heap.size w w := (Below.refl _ _)
  go_enter Tryz.func92, Tryz.ntmps92
  go_wp2
  go_ret
  exact ⟨rfl, B0⟩
 unfold uP
 rw [if_neg (by decide)]
 by_cases c2 : m = 2
 ·
  subst c2
  rw [if_pos rfl]
  cases neg
  all_goals
   go_enter Tryz.func92, Tryz.ntmps92
   go_wp2
   go_ret
   exact ⟨rfl, Below.refl _ _⟩
 rw [if_neg c2]
 by_cases c3 : m = 3
 ·
  subst c3
  rw [if_pos rfl]
  cases neg
  all_goals
   go_enter Tryz.func92, Tryz.ntmps92
   go_wp2
   go_ret
   exact ⟨rfl, Below.refl _ _⟩
 rw [if_neg c3]
 have e2 : (m == 2) = false := by simpa using c2
 have e3 : (m == 3) = false := by simpa using c3
 by_cases c0 : m = 0
 ·
  subst c0
  rw [if_pos rfl]
  by_cases p : 0 < h
  ·
   rw [decide_eq_true p, Bool.true_or]
   have d1 : decide (0 < h) = true := decide_eq_true p
   go_enter Tryz.func92, Tryz.ntmps92
   go_wp2
   go_ret
   exact ⟨rfl, Below.refl _ _⟩
  ·
   rw [decide_eq_false p, Bool.false_or]
   have d1 : decide (0 < h) = false := decide_eq_false p
   by_cases z : h = 0
   ·
    subst z
    rw [decide_eq_true rfl, Bool.true_and]
    cases odd
    all_goals
     go_enter Tryz.func92, Tryz.ntmps92
     go_wp2
     go_ret
     exact ⟨rfl, Below.refl _ _⟩
   ·
    rw [decide_eq_false z, Bool.false_and]
    have d2 : (h == 0) = false := by simpa using z
    go_enter Tryz.func92, Tryz.ntmps92
    go_wp2
    go_ret
    exact ⟨rfl, Below.refl _ _⟩
 rw [if_neg c0]
 have e0 : (m == 0) = false := by simpa using c0
 by_cases c4 : m = 4
 ·
  subst c4
  rw [if_pos rfl]
  by_cases p : 0 < h
  ·
   rw [decide_eq_true (show 0 ≤ h by omega)]
   have d1 : decide (0 < h) = true := decide_eq_true p
   go_enter Tryz.func92, Tryz.ntmps92
   go_wp2
   go_ret
   exact ⟨rfl, Below.refl _ _⟩
  ·
   have d1 : decide (0 < h) = false := decide_eq_false p
   by_cases z : h = 0
   ·
    subst z
    rw [decide_eq_true (by decide)]
    cases odd
    all_goals
     go_enter Tryz.func92, Tryz.ntmps92
     go_wp2
     go_ret
     exact ⟨rfl, Below.refl _ _⟩
   ·
    rw [decide_eq_false (show ¬ 0 ≤ h by omega)]
    have d2 : (h == 0) = false := by simpa using z
    go_enter Tryz.func92, Tryz.ntmps92
    go_wp2
    go_ret
    exact ⟨rfl, Below.refl _ _⟩
 rw [if_neg c4]
 have e4 : (m == 4) = false := by simpa using c4
 go_enter Tryz.func92, Tryz.ntmps92
 go_wp2
 go_ret
 exact ⟨rfl, Below.refl _ _⟩
end Go.Proofs.YtpgiabmmmpdobaaGreatDoor
