/-
  What the functions that the statement reaches return: part 20 (RB, RC, RD, RE, RF, RG, R16).
-/
import Derived.Test.YtbmhfcppaajgbaaGreatDoorRe19
namespace Go.Proofs.YtbmhfcppaajgbaaGreatDoor
set_option maxRecDepth 100000
open Go.RowKit WMath XMath
set_option linter.unusedSimpArgs false
set_option linter.unusedVariables false

theorem kdelivered (f m : Int) (hf : Is4 f) (hm : 0 ≤ m ∧ m ≤ 4) (neg : Bool) (T : Int) (h1 : -1300000 ≤ T) (h2 : T ≤ 1300000) (W : Nat) (more : Bool) (hW : Wok f W) (ws : ByteArray) (hws : nbA W = ws) (La : Int) (hLa : T - fP f = La) (M : Nat) (fl : Int) (hd : dlv f m neg T W more = (M, fl)) (u v : Nat) (hv : bv7 M = (u, v)) (w : World) (hT : FAt w) (hT2 : TabAt w) :
    Calls Tryz.prog 66 #[.int .u8 f, .int .u8 m, .agg #[.bool neg, .int .i64 T, .int .i64 La, .string ws, .bool more]] w fun r w' => r = .returned (.tuple #[.agg #[.int .u64 (u : Nat), .int .u64 (v : Nat)], .int .u8 fl]) ∧ Below w.heap.size w w' := by
  have p := fp8 hf
  obtain ⟨n1, n2, n3, n4, n5, n6⟩ := nm8 hf
  have lim := rG_lim hW m neg (dK f T) more
  obtain ⟨S, hS⟩ : ∃ S, rG m neg W (dK f T) more = S := ⟨_, rfl⟩
  have stx := st_lx hf T
  have kk : stE f T - T = (dK f T : Int) := by unfold dK stE; omega
  have sl : -1300000 ≤ stE f T ∧ stE f T ≤ 1300000 := by unfold stE; omega
  unfold dlv at hd
  rw [hS] at hd lim
  have hj : dJ f T = 0 ∨ 2 ^ pV f ≤ S := by
    rcases jk (f := f) T with ⟨a, _⟩ | ⟨a, _⟩
    · exact Or.inl a
    · exact Or.inr (lim.2.1 a)
  refine ru_delivered f m neg T La ws more (1 - fE f) (stE f T - fP f + 1) (stE f T - fP f + (blen S : Int)) (fE f) fl (nbA S) (rH W (dK f T)) (rM W (dK f T) more) (decide (fE f < stE f T - fP f + (blen S : Int))) (tnB f m neg T W more) u v w
    (box (fun w hT => k_emin f hf w hT)) (box (fun w hT => k_step f hf (max T (1 - fE f)) (by unfold stE at sl; omega) (by unfold stE at sl; omega) _ rfl w hT))
    (box (fun w hT => kround m hm neg T La _ W (dK f T) more ws _ hws (nl_W hf hW) (by omega) (by omega) (by omega) (by omega) (by omega) _ _ rfl rfl (by rw [hS]) w hT))
    (box (fun w => k_rtop S _ _ rfl (nl_small hf _ lim.1) rfl _ _ (by omega) (by omega) _ _ (by omega) w))
    (box (fun w hT => kb_emax f _ (is4_ok hf).1 (is4_ok hf).2.1 rfl w hT))
    (box (fun h w hT => kbeyond f m hf hm neg u v (by
      rw [if_pos (of_decide_eq_true h)] at hd
      injection hd with a b
      rw [a]; exact hv) w hT))
    (box (fun h w hT hT2 => kencoded f hf neg (dJ f T) S _ rfl _ stx lim.1 hj (by have := of_decide_eq_false h; omega) _ _ u v (by
      rw [if_neg (of_decide_eq_false h)] at hd
      injection hd with a b
      rw [a]; exact hv) w hT hT2))
    (box (fun w hT hT2 => ktiny f m hf hm neg T h1 h2 W more hW ws hws La hLa _ rfl w hT hT2)) rfl ?_ hT hT2
  by_cases c : fE f < stE f T - fP f + (blen S : Int)
  · rw [if_pos c] at hd
    injection hd with a b
    rw [if_pos (decide_eq_true c)]
    exact b
  · rw [if_neg c] at hd
    injection hd with a b
    rw [if_neg (by simpa using c)]
    exact b
theorem kencoded0 (f : Int) (hf : Is4 f) (st : Int) (s1 : -1000000 ≤ st) (s2 : st ≤ 1000000) (half mo : Bool) (w : World) (hT : FAt w) (hT2 : TabAt w) :
    Calls Tryz.prog 151 #[.int .u8 f, .bool false, .agg #[.string ⟨#[]⟩, .int .i64 st, .bool half, .bool mo]] w fun r w' => r = .returned (.agg #[.int .u64 ((0 : Nat) : Nat), .int .u64 ((0 : Nat) : Nat)]) ∧ Below w.heap.size w w' := by
  have hx : XMath.mk false 0 1 st = (⟨false, 0, 1, 0⟩, 0) := mk_null _ _ _
  have hof : ofX f ⟨false, 0, 1, 0⟩ = (0, true) := by unfold ofX; rw [if_pos rfl]
  exact ru_encoded_pos f _ st half mo false _ _ 0 0 0 0 true 0 w (box (fun w hT => makex_ok false 0 1 st _ _ false 0 1 0 0 _ _ nbA_zero nb1 nl0 nl1 (by decide) (by omega) (by omega) hx rfl rfl w hT)) (box (fun w hT hT2 => kOf_is f hf false 0 1 _ _ 0 rfl rfl x0_can 0 true 0 0 hof rfl w hT hT2)) hT hT2
theorem kdelivered0 (f m : Int) (hf : Is4 f) (hm : 0 ≤ m ∧ m ≤ 4) (La : Int) (hLa : 0 - fP f = La) (w : World) (hT : FAt w) (hT2 : TabAt w) :
    Calls Tryz.prog 66 #[.int .u8 f, .int .u8 m, .agg #[.bool false, .int .i64 0, .int .i64 La, .string ⟨#[]⟩, .bool false]] w fun r w' => r = .returned (.tuple #[.agg #[.int .u64 ((0 : Nat) : Nat), .int .u64 ((0 : Nat) : Nat)], .int .u8 0]) ∧ Below w.heap.size w w' := by
  have p := fp8 hf
  obtain ⟨n1, n2, n3, n4, n5, n6⟩ := nm8 hf
  have b0 : blen 0 = 0 := by decide
  have e1 : 1 ≤ fE f := by rcases hf with rfl | rfl | rfl | rfl <;> decide
  have g0 : ∀ m, rG m false 0 0 false = 0 := fun m => by
    unfold rG gO rS rH rM rO
    simp
  have h0 : rH 0 0 = false := rfl
  have m0 : rM 0 0 false = false := rfl
  have mx : max 0 (1 - fE f) = 0 := by omega
  have hR : Box (∀ w, TabAt w → Calls Tryz.prog 147 #[.int .u8 m, .agg #[.bool false, .int .i64 0, .int .i64 La, .string ⟨#[]⟩, .bool false], .int .i64 (0 - fP f + 1)] w fun r w' => r = .returned (.agg #[.string ⟨#[]⟩, .int .i64 (0 - fP f + 1), .bool false, .bool false]) ∧ Below w.heap.size w w') :=
    box (fun w hT => kround m hm false 0 La _ 0 0 false _ _ nbA_zero (by rw [nl_zero]; decide) (by omega) (by omega) (by omega) (by omega) (by omega) false false h0 m0 (by rw [g0]; exact nbA_zero) w hT)
  have KT : Box (∀ w, Calls Tryz.prog 149 #[.agg #[.string ⟨#[]⟩, .int .i64 (0 - fP f + 1), .bool false, .bool false]] w fun r w' => r = .returned (.int .i64 (0 - fP f)) ∧ Below w.heap.size w w') := box (fun w => k_rtop 0 0 _ nbA_zero nl0 b0 _ _ (by omega) (by omega) _ _ (by omega) w)
  exact ru_delivered f m false 0 La _ false (1 - fE f) (0 - fP f + 1) (0 - fP f) (fE f) 0 _ false false false (decide (0 - fP f < 1 - fE f)) 0 0 w
    (box (fun w hT => k_emin f hf w hT)) (box (fun w hT => by rw [mx]; exact k_step f hf 0 (by omega) (by omega) _ rfl w hT)) hR KT
    (box (fun w hT => kb_emax f _ (is4_ok hf).1 (is4_ok hf).2.1 rfl w hT)) (box (fun h => Bool.noConfusion h)) (box (fun h w hT hT2 => kencoded0 f hf _ (by omega) (by omega) _ _ w hT hT2))
    (box (fun w hT hT2 => ru_tiny f m false 0 La _ false (1 - fE f) (0 - fP f + 1) (0 - fP f) _ _ _ _ w (box (fun w hT => k_emin f hf w hT)) (box (fun w hT => k_step f hf 0 (by omega) (by omega) _ rfl w hT)) hR KT rfl hT hT2))
    (by rw [decide_eq_false_iff_not]; omega) rfl hT hT2
theorem xW_is {f : Int} (x : XN) (h : (flX x (topX x - fP f)).2 = 0) : flX x (topX x - fP f) = ((xW f x, !xM f x), 0) := by
  unfold xW xM
  rw [Bool.not_not, ← h]
theorem kofExact (f : Int) (hf : Is4 f) (b : Bool) (n d : Nat) (s t : ByteArray) (e : Int) (hs : nbA n = s) (ht : nbA d = t) (hc : (XN.mk b n d e).can) (n0 : n ≠ 0) (ld : nl d ≤ 8192) (T La : Int) (hTop : topX ⟨b, n, d, e⟩ = T) (hLa : T - fP f = La) (W : Nat) (ws : ByteArray) (more : Bool) (hW : xW f ⟨b, n, d, e⟩ = W) (hM : xM f ⟨b, n, d, e⟩ = more) (hws : nbA W = ws) (w : World) (hT : FAt w) (hT2 : TabAt w) :
    Calls Tryz.prog 67 #[.int .u8 f, .agg #[.bool b, .string s, .string t, .int .i64 e]] w fun r w' => r = .returned (.agg #[.bool b, .int .i64 T, .int .i64 La, .string ws, .bool more]) ∧ Below w.heap.size w w' := by
  have p := fp8 hf
  have n4 := (nm8 hf).2.2.2.1
  obtain ⟨t1, t2⟩ := top_lim hc
  rw [hTop] at t1 t2
  have ok := fl_ok (XN.mk b n d e) (topX ⟨b, n, d, e⟩ - fP f) n0 ld (by omega) (by omega) (by omega)
  have fi := xW_is (f := f) (XN.mk b n d e) ok
  rw [hTop, hLa, hW, hM] at fi
  exact ru_ofExact f b s t e T La ws more w (box (fun w hT => ru_topOf b s t e T 0 w (box (fun w hT => Topx_ok b n d e s t T hs ht n0 hc hTop w hT)) hT))
    (box (fun w hT hT2 => ru_known1 f b T (T - fP f + 1) La b s t e ws (!more) more w (box (fun w hT => k_step f hf T (by omega) (by omega) _ rfl w hT)) (by rw [wrap_i64_is _ (by omega) (by omega)]; omega) (Bool.not_not _)
      (box (fun w hT => ru_ratio b s t e La 0 ws _ w (box (fun w hT => Floorx_ok b n d e s t La W _ 0 ws hs ht hc (by omega) (by omega) fi hws w hT)) hT)) hT hT2)) hT hT2
theorem kofExact0 (f : Int) (hf : Is4 f) (La : Int) (hLa : 0 - fP f = La) (w : World) (hT : FAt w) (hT2 : TabAt w) :
    Calls Tryz.prog 67 #[.int .u8 f, .agg #[.bool false, .string ⟨#[]⟩, .string ⟨#[1]⟩, .int .i64 0]] w fun r w' => r = .returned (.agg #[.bool false, .int .i64 0, .int .i64 La, .string ⟨#[]⟩, .bool false]) ∧ Below w.heap.size w w' := by
  have p := fp8 hf
  have n4 := (nm8 hf).2.2.2.1
  have fi : flX (XN.mk false 0 1 0) La = ((0, true), 0) := by unfold flX; rw [if_neg (by omega), if_pos rfl]
  exact ru_ofExact f false _ _ 0 0 La _ false w (box (fun w hT => ru_topOf false _ _ 0 0 2 w (box (fun w hT => Topx_null w hT)) hT))
    (box (fun w hT hT2 => ru_known1 f false 0 (0 - fP f + 1) La false _ _ 0 _ true false w (box (fun w hT => k_step f hf 0 (by omega) (by omega) _ rfl w hT)) (by rw [wrap_i64_is _ (by omega) (by omega)]; omega) rfl
      (box (fun w hT => ru_ratio false _ _ 0 La 0 _ _ w (box (fun w hT => Floorx_ok false 0 1 0 _ _ La 0 _ 0 _ nbA_zero nb1 x0_can (by omega) (by omega) fi nbA_zero w hT)) hT)) hT hT2)) hT hT2
/-- What the whole parts of a root are. -/
def RtN (f : Int) (x : XN) (W : Nat) (more : Bool) : Prop := ∀ k : Nat, topX x / 2 - fP f + (k : Int) ≤ 1000000 → ∃ N ex, flX x (2 * (topX x / 2 - fP f + (k : Int))) = ((N, ex), 0) ∧ RootIs N (W / 2 ^ k) ∧ (ex && decide (N - W / 2 ^ k * (W / 2 ^ k) = 0)) = (!more && decide (W % 2 ^ k = 0))
theorem nl_fl {x : XN} {a : Int} {N : Nat} {ex : Bool} (h : flX x a = ((N, ex), 0)) (hx : x.can) : nl N ≤ 16384 := by
  unfold flX at h
  split at h
  · have := congrArg (·.2) h
    exact absurd (show (2 : Int) = 0 from this) (by decide)
  split at h
  · have := congrArg (·.1.1) h
    rw [← show (0 : Nat) = N from this]
    exact nl0
  split at h
  · split at h
    · rename_i q
      have := congrArg (·.1.1) h
      rw [← show _ = N from this]
      exact Nat.le_trans (nl_mono _ _ (Nat.div_le_self _ _)) q
    · have := congrArg (·.2) h
      exact absurd (show (4 : Int) = 0 from this) (by decide)
  split at h
  · have := congrArg (·.1.1) h
    rw [← show (0 : Nat) = N from this]
    exact nl0
  · have := congrArg (·.1.1) h
    rw [← show _ = N from this]
    exact Nat.le_trans (nl_mono _ _ (Nat.div_le_self _ _)) hx.1
theorem rest_nil (N r : Nat) (q : ByteArray) (hq : nbA (N - r * r) = q) : (q.toList == []) = decide (N - r * r = 0) := by
  rw [eq_empty, ← hq, nbA_size, Bool.eq_iff_iff, decide_eq_true_iff, decide_eq_true_iff]
  exact ⟨nl_eq0 _, fun h => by rw [h]; exact nl_zero⟩
theorem kofRoot (f : Int) (hf : Is4 f) (b : Bool) (n d : Nat) (s t : ByteArray) (e : Int) (hs : nbA n = s) (ht : nbA d = t) (hc : (XN.mk b n d e).can) (n0 : n ≠ 0) (T2 La : Int) (hTop : topX ⟨b, n, d, e⟩ / 2 = T2) (hLa : T2 - fP f = La) (W : Nat) (ws : ByteArray) (more : Bool) (hR : RtN f ⟨b, n, d, e⟩ W more) (hws : nbA W = ws) (w : World) (hT : FAt w) (hT2 : TabAt w) :
    Calls Tryz.prog 70 #[.int .u8 f, .agg #[.bool b, .string s, .string t, .int .i64 e]] w fun r w' => r = .returned (.agg #[.bool false, .int .i64 T2, .int .i64 La, .string ws, .bool more]) ∧ Below w.heap.size w w' := by
  have p := fp8 hf
  have n4 := (nm8 hf).2.2.2.1
  obtain ⟨t1, t2⟩ := top_lim hc
  obtain ⟨N, ex, f1, f2, f3⟩ := hR 0 (by omega)
  rw [hTop, show T2 - fP f + ((0 : Nat) : Int) = La by omega] at f1
  rw [Nat.pow_zero, Nat.div_one] at f2 f3
  rw [Nat.mod_one, decide_eq_true rfl, Bool.and_true] at f3
  have ln := nl_fl f1 hc
  exact ru_ofRoot f b s t e _ T2 La ws more w (box (fun w hT => ru_topOf b s t e _ 0 w (box (fun w hT => Topx_ok b n d e s t _ hs ht n0 hc rfl w hT)) hT)) hTop
    (box (fun w hT hT2 => ru_known2 f false T2 (T2 - fP f + 1) La b s t e ws (!more) more w (box (fun w hT => k_step f hf T2 (by omega) (by omega) _ rfl w hT)) (by rw [wrap_i64_is _ (by omega) (by omega)]; omega) (Bool.not_not _)
      (box (fun w hT => ru_root b s t e La (2 * La) 0 (nbA N) ws _ ex (!more) w (box (fun w hT => ru_ratio b s t e _ 0 _ _ w (box (fun w hT => Floorx_ok b n d e s t _ N _ 0 _ hs ht hc (by omega) (by omega) f1 rfl w hT)) hT))
        (box (fun w => pn_sqrt_ok N W _ _ ws _ rfl ln f2 rfl hws rfl w)) (wrap_i64_is _ (by omega) (by omega)) (by rw [rest_nil N W _ rfl]; exact f3) hT)) hT hT2)) hT hT2
theorem kofRoot0 (f : Int) (hf : Is4 f) (La : Int) (hLa : 0 - fP f = La) (w : World) (hT : FAt w) (hT2 : TabAt w) :
    Calls Tryz.prog 70 #[.int .u8 f, .agg #[.bool false, .string ⟨#[]⟩, .string ⟨#[1]⟩, .int .i64 0]] w fun r w' => r = .returned (.agg #[.bool false, .int .i64 0, .int .i64 La, .string ⟨#[]⟩, .bool false]) ∧ Below w.heap.size w w' := by
  have p := fp8 hf
  have n4 := (nm8 hf).2.2.2.1
  have fi : flX (XN.mk false 0 1 0) (2 * La) = ((0, true), 0) := by unfold flX; rw [if_neg (by omega), if_pos rfl]
  exact ru_ofRoot f false _ _ 0 0 0 La _ false w (box (fun w hT => ru_topOf false _ _ 0 0 2 w (box (fun w hT => Topx_null w hT)) hT)) rfl
    (box (fun w hT hT2 => ru_known2 f false 0 (0 - fP f + 1) La false _ _ 0 _ true false w (box (fun w hT => k_step f hf 0 (by omega) (by omega) _ rfl w hT)) (by rw [wrap_i64_is _ (by omega) (by omega)]; omega) rfl
      (box (fun w hT => ru_root false _ _ 0 La (2 * La) 0 ⟨#[]⟩ _ ⟨#[]⟩ true true w (box (fun w hT => ru_ratio false _ _ 0 _ 0 _ _ w (box (fun w hT => Floorx_ok false 0 1 0 _ _ _ 0 _ 0 _ nbA_zero nb1 x0_can (by omega) (by omega) fi nbA_zero w hT)) hT))
        (box (fun w => pn_sqrt_ok 0 0 0 _ _ _ nbA_zero nl0 ⟨by decide, by decide⟩ rfl nbA_zero nbA_zero w)) (wrap_i64_is _ (by omega) (by omega)) (by rw [eq_empty]; decide) hT)) hT hT2)) hT hT2
end Go.Proofs.YtbmhfcppaajgbaaGreatDoor
namespace Go.Proofs.YtbmhfcppaajgbaaGreatDoor
set_option maxRecDepth 100000
open Go.RowKit WMath XMath
set_option linter.unusedSimpArgs false
set_option linter.unusedVariables false

theorem cut_two (W k : Nat) : W / 2 ^ (k + 1) = rS W k := by unfold rS; rw [Nat.pow_succ, ← Nat.div_div_eq_div_mul]
theorem ex_is (W k : Nat) (more : Bool) : (!more && decide (W % 2 ^ (k + 1) = 0)) = !(rH W k || rM W k more) := by
  have e : W % 2 ^ (k + 1) = 0 ↔ W % 2 ^ k = 0 ∧ W / 2 ^ k % 2 = 0 := by
    have h := Nat.mod_pow_succ (x := W) (b := 2) (k := k)
    have p := Nat.two_pow_pos k
    rw [h]
    constructor
    · intro q
      have a : W % 2 ^ k = 0 := by omega
      have b : 2 ^ k * (W / 2 ^ k % 2) = 0 := by omega
      exact ⟨a, by rcases Nat.mul_eq_zero.1 b with c | c; omega; exact c⟩
    · rintro ⟨a, b⟩
      rw [a, b, Nat.mul_zero]
  unfold rH rM
  rw [Bool.eq_iff_iff]
  simp only [Bool.and_eq_true, Bool.not_eq_true', decide_eq_true_iff, Bool.or_eq_false_iff, decide_eq_false_iff_not, e, Decidable.not_not]
  constructor
  · rintro ⟨a, b, c⟩
    exact ⟨by omega, b, a⟩
  · rintro ⟨a, b, c⟩
    exact ⟨c, b, by omega⟩
/-- What find is asked of: a number, or its root. -/
def Fnd (f : Int) (x : XN) (root : Bool) (T : Int) (W : Nat) (more : Bool) : Prop :=
  if root = true then T = topX x / 2 ∧ RtN f x W more else T = topX x ∧ ∀ k : Nat, T - fP f + (k : Int) ≤ 2000000 → flX x (T - fP f + (k : Int)) = ((W / 2 ^ k, !more && decide (W % 2 ^ k = 0)), 0)
end Go.Proofs.YtbmhfcppaajgbaaGreatDoor
namespace Go.Proofs.YtbmhfcppaajgbaaGreatDoor
set_option maxRecDepth 100000
open Go.RowKit WMath
set_option linter.unusedSimpArgs false
set_option linter.unusedVariables false

set_option maxRecDepth 100000 in
set_option maxHeartbeats 4000000 in
theorem ru_Round_ok (f m : Int) (b : Bool) (s t : ByteArray) (e : Int) (nb : Bool) (T La : Int) (ws : ByteArray) (more : Bool) (u v : Nat) (fl : Int) (w : World)
    (KC : Box (∀ w, TabAt w → Calls Tryz.prog 65 #[.int .u8 f, .int .u8 m, .agg #[.bool b, .string s, .string t, .int .i64 e]] w fun r w' => r = .returned (.int .i64 0) ∧ Below w.heap.size w w'))
    (KX : Box (∀ w, FAt w → TabAt w → Calls Tryz.prog 67 #[.int .u8 f, .agg #[.bool b, .string s, .string t, .int .i64 e]] w fun r w' => r = .returned (.agg #[.bool nb, .int .i64 T, .int .i64 La, .string ws, .bool more]) ∧ Below w.heap.size w w'))
    (KD : Box (∀ w, FAt w → TabAt w → Calls Tryz.prog 66 #[.int .u8 f, .int .u8 m, .agg #[.bool nb, .int .i64 T, .int .i64 La, .string ws, .bool more]] w fun r w' => r = .returned (.tuple #[.agg #[.int .u64 (u : Nat), .int .u64 (v : Nat)], .int .u8 fl]) ∧ Below w.heap.size w w'))
    (hT : FAt w) (hT2 : TabAt w) : Calls Tryz.prog 22 #[.int .u8 f, .int .u8 m, .agg #[.bool b, .string s, .string t, .int .i64 e]] w fun r w' => r = .returned (.tuple #[.agg #[.int .u64 (u : Nat), .int .u64 (v : Nat)], .int .u8 fl, .int .i64 0]) ∧ Below w.heap.size w w' := by
  have FF := box hT
  have TT := box hT2
  clear hT hT2
  obtain ⟨Rx_0, Rz_0, B0⟩ := opn2 w (Obj.cells #[.bool b, .string s, .string t, .int .i64 e] 41) (Obj.cells #[.int .u64 0, .int .u64 0] 25)
  go_enter Tryz.func22, Tryz.ntmps22
  go_wp2_with fail
  refine (KC.out _ (tabB TT.out B0)).mono ?_
  rintro r w1 ⟨rfl, b1⟩
  have B1 : Below w.heap.size w w1 := btr B0 b1
  have Rx_1 := heap_of b1 _ _ _ Rx_0
  have Rz_1 := heap_of b1 _ _ _ Rz_0
  clear b1 B0 Rx_0 Rz_0
  obtain ⟨cx_1_0, cx_1_1, cx_1_2, cx_1_3⟩ := cells4s Rx_1
  obtain ⟨cz_1_0, cz_1_1⟩ := cells2s Rz_1
  go_wp2_with fail
  refine (KX.out _ (fatB FF.out B1) (tabB TT.out B1)).mono ?_
  rintro r w2 ⟨rfl, b2⟩
  have B2 : Below w.heap.size w w2 := btr B1 b2
  have Rx_2 := heap_of b2 _ _ _ Rx_1
  have Rz_2 := heap_of b2 _ _ _ Rz_1
  clear b2 B1 Rx_1 cx_1_0 cx_1_1 cx_1_2 cx_1_3 Rz_1 cz_1_0 cz_1_1
  obtain ⟨cx_2_0, cx_2_1, cx_2_2, cx_2_3⟩ := cells4s Rx_2
  obtain ⟨cz_2_0, cz_2_1⟩ := cells2s Rz_2
  go_wp2_with fail
  refine (KD.out _ (fatB FF.out B2) (tabB TT.out B2)).mono ?_
  rintro r w3 ⟨rfl, b3⟩
  have B3 : Below w.heap.size w w3 := btr B2 b3
  have Rx_3 := heap_of b3 _ _ _ Rx_2
  have Rz_3 := heap_of b3 _ _ _ Rz_2
  clear b3 B2 Rx_2 cx_2_0 cx_2_1 cx_2_2 cx_2_3 Rz_2 cz_2_0 cz_2_1
  obtain ⟨cx_3_0, cx_3_1, cx_3_2, cx_3_3⟩ := cells4s Rx_3
  obtain ⟨cz_3_0, cz_3_1⟩ := cells2s Rz_3
  have S4 := box B3.size
  have Lx_4 : Box (w.heap.size < w3.heap.size) := box (Array.getElem?_eq_some_iff.1 Rx_3).1
  have Lz_4 : Box (w.heap.size + 1 < w3.heap.size) := box (Array.getElem?_eq_some_iff.1 Rz_3).1
  have Rb_4 := heap_alloc_last w3 (Obj.cells #[.int .u64 (u : Nat), .int .u64 (v : Nat)] 25)
  have B4 := btr B3 (bal w3 (Obj.cells #[.int .u64 (u : Nat), .int .u64 (v : Nat)] 25))
  have Rx_4 := heap_of (bal w3 (Obj.cells #[.int .u64 (u : Nat), .int .u64 (v : Nat)] 25)) _ _ _ Rx_3
  have Rz_4 := heap_of (bal w3 (Obj.cells #[.int .u64 (u : Nat), .int .u64 (v : Nat)] 25)) _ _ _ Rz_3
  clear B3 Rx_3 cx_3_0 cx_3_1 cx_3_2 cx_3_3 Rz_3 cz_3_0 cz_3_1
  obtain ⟨cx_4_0, cx_4_1, cx_4_2, cx_4_3⟩ := cells4s Rx_4
  obtain ⟨cz_4_0, cz_4_1⟩ := cells2s Rz_4
  obtain ⟨cb_4_0, cb_4_1⟩ := cells2s Rb_4
  have q0 := fz (k := 0) Rz_4
  have q1 := fz (k := 1) Rz_4
  obtain ⟨E0, E1⟩ := set2_cells Rz_4 (.int .u64 (u : Nat)) (.int .u64 (v : Nat))
  go_wp2
  exact bodyPost_ret (v := .tuple #[.agg #[.int .u64 (u : Nat), .int .u64 (v : Nat)], .int .u8 fl, .int .i64 0]) (by simp [results, Tryz.results22, go_sem, E0, E1]) rfl ⟨rfl, set2_below B4 (by first | exact Nat.le_refl _ | omega | (have := S4.out; have := Lx_4.out; have := Lz_4.out; omega)) _ _⟩
set_option maxRecDepth 100000 in
set_option maxHeartbeats 4000000 in
theorem ru_Root_ok (f m : Int) (b : Bool) (s t : ByteArray) (e : Int) (nb : Bool) (T La : Int) (ws : ByteArray) (more : Bool) (u v : Nat) (fl : Int) (w : World)
    (KC : Box (∀ w, TabAt w → Calls Tryz.prog 65 #[.int .u8 f, .int .u8 m, .agg #[.bool b, .string s, .string t, .int .i64 e]] w fun r w' => r = .returned (.int .i64 0) ∧ Below w.heap.size w w'))
    (KX : Box (∀ w, FAt w → TabAt w → Calls Tryz.prog 70 #[.int .u8 f, .agg #[.bool b, .string s, .string t, .int .i64 e]] w fun r w' => r = .returned (.agg #[.bool nb, .int .i64 T, .int .i64 La, .string ws, .bool more]) ∧ Below w.heap.size w w'))
    (KD : Box (∀ w, FAt w → TabAt w → Calls Tryz.prog 66 #[.int .u8 f, .int .u8 m, .agg #[.bool nb, .int .i64 T, .int .i64 La, .string ws, .bool more]] w fun r w' => r = .returned (.tuple #[.agg #[.int .u64 (u : Nat), .int .u64 (v : Nat)], .int .u8 fl]) ∧ Below w.heap.size w w')) (hb : b = false)
    (hT : FAt w) (hT2 : TabAt w) : Calls Tryz.prog 24 #[.int .u8 f, .int .u8 m, .agg #[.bool b, .string s, .string t, .int .i64 e]] w fun r w' => r = .returned (.tuple #[.agg #[.int .u64 (u : Nat), .int .u64 (v : Nat)], .int .u8 fl, .int .i64 0]) ∧ Below w.heap.size w w' := by
  have FF := box hT
  have TT := box hT2
  clear hT hT2
  subst hb
  obtain ⟨Rx_0, Rz_0, B0⟩ := opn2 w (Obj.cells #[.bool false, .string s, .string t, .int .i64 e] 41) (Obj.cells #[.int .u64 0, .int .u64 0] 25)
  go_enter Tryz.func24, Tryz.ntmps24
  go_wp2_with fail
  refine (KC.out _ (tabB TT.out B0)).mono ?_
  rintro r w1 ⟨rfl, b1⟩
  have B1 : Below w.heap.size w w1 := btr B0 b1
  have Rx_1 := heap_of b1 _ _ _ Rx_0
  have Rz_1 := heap_of b1 _ _ _ Rz_0
  clear b1 B0 Rx_0 Rz_0
  obtain ⟨cx_1_0, cx_1_1, cx_1_2, cx_1_3⟩ := cells4s Rx_1
  obtain ⟨cz_1_0, cz_1_1⟩ := cells2s Rz_1
  go_wp2_with fail
  refine (KX.out _ (fatB FF.out B1) (tabB TT.out B1)).mono ?_
  rintro r w2 ⟨rfl, b2⟩
  have B2 : Below w.heap.size w w2 := btr B1 b2
  have Rx_2 := heap_of b2 _ _ _ Rx_1
  have Rz_2 := heap_of b2 _ _ _ Rz_1
  clear b2 B1 Rx_1 cx_1_0 cx_1_1 cx_1_2 cx_1_3 Rz_1 cz_1_0 cz_1_1
  obtain ⟨cx_2_0, cx_2_1, cx_2_2, cx_2_3⟩ := cells4s Rx_2
  obtain ⟨cz_2_0, cz_2_1⟩ := cells2s Rz_2
  go_wp2_with fail
  refine (KD.out _ (fatB FF.out B2) (tabB TT.out B2)).mono ?_
  rintro r w3 ⟨rfl, b3⟩
  have B3 : Below w.heap.size w w3 := btr B2 b3
  have Rx_3 := heap_of b3 _ _ _ Rx_2
  have Rz_3 := heap_of b3 _ _ _ Rz_2
  clear b3 B2 Rx_2 cx_2_0 cx_2_1 cx_2_2 cx_2_3 Rz_2 cz_2_0 cz_2_1
  obtain ⟨cx_3_0, cx_3_1, cx_3_2, cx_3_3⟩ := cells4s Rx_3
  obtain ⟨cz_3_0, cz_3_1⟩ := cells2s Rz_3
  have S4 := box B3.size
  have Lx_4 : Box (w.heap.size < w3.heap.size) := box (Array.getElem?_eq_some_iff.1 Rx_3).1
  have Lz_4 : Box (w.heap.size + 1 < w3.heap.size) := box (Array.getElem?_eq_some_iff.1 Rz_3).1
  have Rb_4 := heap_alloc_last w3 (Obj.cells #[.int .u64 (u : Nat), .int .u64 (v : Nat)] 25)
  have B4 := btr B3 (bal w3 (Obj.cells #[.int .u64 (u : Nat), .int .u64 (v : Nat)] 25))
  have Rx_4 := heap_of (bal w3 (Obj.cells #[.int .u64 (u : Nat), .int .u64 (v : Nat)] 25)) _ _ _ Rx_3
  have Rz_4 := heap_of (bal w3 (Obj.cells #[.int .u64 (u : Nat), .int .u64 (v : Nat)] 25)) _ _ _ Rz_3
  clear B3 Rx_3 cx_3_0 cx_3_1 cx_3_2 cx_3_3 Rz_3 cz_3_0 cz_3_1
  obtain ⟨cx_4_0, cx_4_1, cx_4_2, cx_4_3⟩ := cells4s Rx_4
  obtain ⟨cz_4_0, cz_4_1⟩ := cells2s Rz_4
  obtain ⟨cb_4_0, cb_4_1⟩ := cells2s Rb_4
  have q0 := fz (k := 0) Rz_4
  have q1 := fz (k := 1) Rz_4
  obtain ⟨E0, E1⟩ := set2_cells Rz_4 (.int .u64 (u : Nat)) (.int .u64 (v : Nat))
  go_wp2
  exact bodyPost_ret (v := .tuple #[.agg #[.int .u64 (u : Nat), .int .u64 (v : Nat)], .int .u8 fl, .int .i64 0]) (by simp [results, Tryz.results24, go_sem, E0, E1]) rfl ⟨rfl, set2_below B4 (by first | exact Nat.le_refl _ | omega | (have := S4.out; have := Lx_4.out; have := Lz_4.out; omega)) _ _⟩
end Go.Proofs.YtbmhfcppaajgbaaGreatDoor
namespace Go.Proofs.YtbmhfcppaajgbaaGreatDoor
set_option maxRecDepth 100000
open Go.RowKit WMath XMath
set_option linter.unusedSimpArgs false
set_option linter.unusedVariables false

/-- The first error of a format, a mode, a number. -/
def flt (f m : Int) (may : Bool) (s t : ByteArray) : Int := if f ≤ 3 ∧ m ≤ 4 ∧ may = true then (if 8192 < s.size ∨ 8192 < t.size then 4 else 0) else 2
theorem k_mode (m c : Int) (hc : (if m ≤ 4 then (0 : Int) else 2) = c) (w : World) : Calls Tryz.prog 145 #[.int .u8 m] w fun r w' => r = .returned (.int .i64 c) ∧ Below w.heap.size w w' := by
  subst hc
  exact bel_same (s_checkMode m w)
theorem k_form (f : Int) (h0 : 0 ≤ f) (h1 : f ≤ 255) (c : Int) (hc : (if f ≤ 3 then (0 : Int) else 2) = c) (w : World) : Calls Tryz.prog 60 #[.int .u8 f] w fun r w' => r = .returned (.int .i64 c) ∧ Below w.heap.size w w' := by
  refine bel_same (s_check_is f c h0 h1 ?_ w)
  rw [← hc]
  by_cases h : f ≤ 3
  · rw [if_pos h]; exact fC_yes (is4_of h0 h)
  · rw [if_neg h]; exact fC_no h0 (by unfold Is4; omega)
theorem kcheck (f m : Int) (h0 : 0 ≤ f) (h1 : f ≤ 255) (b : Bool) (s t : ByteArray) (e : Int) (may : Bool) (hm : IsM may b s t e) (c : Int) (hc : flt f m may s t = c) (w : World) (hT2 : TabAt w) : Calls Tryz.prog 65 #[.int .u8 f, .int .u8 m, .agg #[.bool b, .string s, .string t, .int .i64 e]] w fun r w' => r = .returned (.int .i64 c) ∧ Below w.heap.size w w' := by
  have K1 : Box (∀ w, Calls Tryz.prog 60 #[.int .u8 f] w fun r w' => r = .returned (.int .i64 (if f ≤ 3 then (0 : Int) else 2)) ∧ Below w.heap.size w w') := box (fun w => k_form f h0 h1 _ rfl w)
  have K2 : Box (∀ w, Calls Tryz.prog 145 #[.int .u8 m] w fun r w' => r = .returned (.int .i64 (if m ≤ 4 then (0 : Int) else 2)) ∧ Below w.heap.size w w') := box (fun w => k_mode m _ rfl w)
  have K3 : Box (∀ w, TabAt w → Calls Tryz.prog 146 #[.agg #[.bool b, .string s, .string t, .int .i64 e]] w fun r w' => r = .returned (.int .i64 (if may then (0 : Int) else 2)) ∧ Below w.heap.size w w') := box (fun w hT => xcheckM b s t e may hm _ rfl w hT)
  unfold flt at hc
  by_cases c1 : f ≤ 3
  · rw [if_pos c1] at K1
    by_cases c2 : m ≤ 4
    · rw [if_pos c2] at K2
      cases may
      · rw [if_neg (by simp)] at hc
        subst hc
        exact ru_check_c f m b s t e 0 0 2 w K1 K2 K3 (by decide) (by decide) (by decide) hT2
      · rw [if_pos ⟨c1, c2, rfl⟩] at hc
        by_cases c4 : 8192 < s.size
        · rw [if_pos (Or.inl c4)] at hc
          subst hc
          exact ru_check_d f m b s t e 0 0 0 w K1 K2 K3 (by decide) (by decide) (by decide) (decide_eq_true (by omega)) hT2
        · by_cases c5 : 8192 < t.size
          · rw [if_pos (Or.inr c5)] at hc
            subst hc
            exact ru_check_e f m b s t e 0 0 0 w K1 K2 K3 (by decide) (by decide) (by decide) (decide_eq_false (by omega)) (decide_eq_true (by omega)) hT2
          · rw [if_neg (by omega)] at hc
            subst hc
            exact ru_check_f f m b s t e 0 0 0 w K1 K2 K3 (by decide) (by decide) (by decide) (decide_eq_false (by omega)) (decide_eq_false (by omega)) hT2
    · rw [if_neg c2] at K2
      rw [if_neg (by omega)] at hc
      subst hc
      exact ru_check_b f m b s t e 0 2 _ w K1 K2 K3 (by decide) (by decide) hT2
  · rw [if_neg c1] at K1
    rw [if_neg (by omega)] at hc
    subst hc
    exact ru_check_a f m b s t e 2 _ _ w K1 K2 K3 (by decide) hT2
theorem flt_ok {f m : Int} (hf : Is4 f) (hm : 0 ≤ m ∧ m ≤ 4) {n d : Nat} {s t : ByteArray} (hs : nbA n = s) (ht : nbA d = t) (ln : nl n ≤ 8192) (ld : nl d ≤ 8192) : flt f m true s t = 0 := by
  have a : s.size = nl n := by rw [← hs, nbA_size]
  have c : t.size = nl d := by rw [← ht, nbA_size]
  have f3 : f ≤ 3 := by rcases hf with rfl | rfl | rfl | rfl <;> decide
  unfold flt
  rw [if_pos ⟨f3, hm.2, rfl⟩, if_neg (by omega)]
/-- What is delivered of an exact number, and the flags. -/
def rnd (f m : Int) (x : XN) : Nat × Int := if x.n = 0 then (0, 0) else dlv f m x.b (topX x) (xW f x) (xM f x)
theorem fnd_x {f : Int} (hf : Is4 f) {x : XN} (hx : x.can) (n0 : x.n ≠ 0) (hd : nl x.d ≤ 8192) : Wok f (xW f x) ∧ Fnd f x false (topX x) (xW f x) (xM f x) := by
  obtain ⟨t1, t2⟩ := top_lim hx
  obtain ⟨a, b⟩ := x_num hf x hx n0 hd t1 t2
  refine ⟨a, ?_⟩
  unfold Fnd
  rw [if_neg (by decide)]
  exact ⟨rfl, b⟩
theorem kRound_is (f m : Int) (hf : Is4 f) (hm : 0 ≤ m ∧ m ≤ 4) (b : Bool) (n d : Nat) (s t : ByteArray) (e : Int) (hs : nbA n = s) (ht : nbA d = t) (hc : (XN.mk b n d e).can) (ln : nl n ≤ 8192) (ld : nl d ≤ 8192) (M : Nat) (fl : Int) (hd : rnd f m ⟨b, n, d, e⟩ = (M, fl)) (u v : Nat) (hv : bv7 M = (u, v)) (w : World) (hT : FAt w) (hT2 : TabAt w) :
    Calls Tryz.prog 22 #[.int .u8 f, .int .u8 m, .agg #[.bool b, .string s, .string t, .int .i64 e]] w fun r w' => r = .returned (.tuple #[.agg #[.int .u64 (u : Nat), .int .u64 (v : Nat)], .int .u8 fl, .int .i64 0]) ∧ Below w.heap.size w w' := by
  have f4 := is4_ok hf
  have KC : Box (∀ w, TabAt w → Calls Tryz.prog 65 #[.int .u8 f, .int .u8 m, .agg #[.bool b, .string s, .string t, .int .i64 e]] w fun r w' => r = .returned (.int .i64 0) ∧ Below w.heap.size w w') := box (fun w hT => kcheck f m f4.1 f4.2.1 b s t e true (may_yes hs ht hc) 0 (flt_ok hf hm hs ht ln ld) w hT)
  unfold rnd at hd
  rcases x_cases hs ht hc with ⟨n0, rfl, rfl, rfl, rfl, rfl⟩ | ⟨n0, e0⟩
  · rw [if_pos n0] at hd
    injection hd with h1 h2
    subst h1 h2
    injection hv with h3 h4
    subst h3 h4
    exact ru_Round_ok f m _ _ _ _ _ _ _ _ _ 0 0 0 w KC (box (fun w hT hT2 => kofExact0 f hf _ rfl w hT hT2)) (box (fun w hT hT2 => kdelivered0 f m hf hm _ rfl w hT hT2)) hT hT2
  · rw [if_neg n0] at hd
    obtain ⟨t1, t2⟩ := top_lim hc
    exact ru_Round_ok f m b s t e _ _ _ _ _ u v fl w KC (box (fun w hT hT2 => kofExact f hf b n d s t e hs ht hc n0 ld _ _ rfl rfl _ _ _ rfl rfl rfl w hT hT2))
      (box (fun w hT hT2 => kdelivered f m hf hm b _ (by omega) (by omega) _ _ (fnd_x hf hc n0 ld).1 _ rfl _ rfl M fl hd u v hv w hT hT2)) hT hT2
theorem may_part {may : Bool} {b : Bool} {s t : ByteArray} {e : Int} (hm : IsM may b s t e) (h : may = true) : ∃ n d, nbA n = s ∧ nbA d = t ∧ (XN.mk b n d e).can := hm.1 h
theorem may_any (b : Bool) (s t : ByteArray) (e : Int) : ∃ may, IsM may b s t e := by
  by_cases h : MayX b s t e
  · exact ⟨true, fun _ => h, fun _ => rfl⟩
  · exact ⟨false, fun q => Bool.noConfusion q, fun q => absurd q h⟩
end Go.Proofs.YtbmhfcppaajgbaaGreatDoor
namespace Go.Proofs.YtbmhfcppaajgbaaGreatDoor
set_option maxRecDepth 100000
open Go.RowKit WMath XMath
set_option linter.unusedSimpArgs false
set_option linter.unusedVariables false

theorem third_can : (XN.mk false 1 3 0).can := ⟨nl1, by decide +kernel, by decide, by decide, Or.inr ⟨rfl, rfl, by decide⟩⟩
theorem nb3 : nbA 3 = ⟨#[3]⟩ := by decide +kernel
theorem third_ev : rnd 2 0 ⟨false, 1, 3, 0⟩ = (13653, 1) := by decide +kernel
theorem third_up : rnd 2 3 ⟨false, 1, 3, 0⟩ = (13654, 1) := by decide +kernel
set_option maxRecDepth 100000 in
set_option maxHeartbeats 4000000 in
theorem r9alive (w : World) (hT : FAt w) (hT2 : TabAt w) : Calls Tryz.prog 21 #[] w fun r w' => r = .returned (.bool true) ∧ Below w.heap.size w w' := by
  have FF := box hT
  have TT := box hT2
  have K1 : Box (∀ w, FAt w → TabAt w → Calls Tryz.prog 22 #[.int .u8 2, .int .u8 0, .agg #[.bool false, .string ⟨#[1]⟩, .string ⟨#[3]⟩, .int .i64 0]] w fun r w' => r = .returned (.tuple #[.agg #[.int .u64 0, .int .u64 13653], .int .u8 1, .int .i64 0]) ∧ Below w.heap.size w w') := box (fun w hT hT2 => kRound_is 2 0 (by unfold Is4; omega) (by decide) false 1 3 _ _ 0 nb1 nb3 third_can (by decide +kernel) (by decide +kernel) _ _ third_ev 0 13653 rfl w hT hT2)
  have K2 : Box (∀ w, FAt w → TabAt w → Calls Tryz.prog 22 #[.int .u8 2, .int .u8 3, .agg #[.bool false, .string ⟨#[1]⟩, .string ⟨#[3]⟩, .int .i64 0]] w fun r w' => r = .returned (.tuple #[.agg #[.int .u64 0, .int .u64 13654], .int .u8 1, .int .i64 0]) ∧ Below w.heap.size w w') := box (fun w hT hT2 => kRound_is 2 3 (by unfold Is4; omega) (by decide) false 1 3 _ _ 0 nb1 nb3 third_can (by decide +kernel) (by decide +kernel) _ _ third_up 0 13654 rfl w hT hT2)
  clear hT hT2
  have B0 : Below w.heap.size w w := (Below.refl _ _)
  go_enter Tryz.func21, Tryz.ntmps21
  have S1 := box B0.size
  have Rt_1 := heap_alloc_last w (Obj.cells #[.bool false, .string ⟨#[1]⟩, .string ⟨#[3]⟩, .int .i64 0] 41)
  have B1 := btr B0 (bal w (Obj.cells #[.bool false, .string ⟨#[1]⟩, .string ⟨#[3]⟩, .int .i64 0] 41))
  clear B0 
  obtain ⟨ct_1_0, ct_1_1, ct_1_2, ct_1_3⟩ := cells4s Rt_1
  go_wp2_with fail
  refine (K1.out _ (fatB FF.out B1) (tabB TT.out B1)).mono ?_
  rintro r w2 ⟨rfl, b2⟩
  have B2 : Below w.heap.size w w2 := btr B1 b2
  have Rt_2 := heap_of b2 _ _ _ Rt_1
  clear b2 B1 Rt_1 ct_1_0 ct_1_1 ct_1_2 ct_1_3
  obtain ⟨ct_2_0, ct_2_1, ct_2_2, ct_2_3⟩ := cells4s Rt_2
  have S3 := box B2.size
  have Lt_3 : Box (w.heap.size < w2.heap.size) := box (Array.getElem?_eq_some_iff.1 Rt_2).1
  have Rb_3 := heap_alloc_last w2 (Obj.cells #[.int .u64 0, .int .u64 13653] 25)
  have B3 := btr B2 (bal w2 (Obj.cells #[.int .u64 0, .int .u64 13653] 25))
  have Rt_3 := heap_of (bal w2 (Obj.cells #[.int .u64 0, .int .u64 13653] 25)) _ _ _ Rt_2
  clear B2 Rt_2 ct_2_0 ct_2_1 ct_2_2 ct_2_3
  obtain ⟨ct_3_0, ct_3_1, ct_3_2, ct_3_3⟩ := cells4s Rt_3
  obtain ⟨cb_3_0, cb_3_1⟩ := cells2s Rb_3
  go_wp2_with fail
  refine (K2.out _ (fatB FF.out B3) (tabB TT.out B3)).mono ?_
  rintro r w4 ⟨rfl, b4⟩
  have B4 : Below w.heap.size w w4 := btr B3 b4
  have Rt_4 := heap_of b4 _ _ _ Rt_3
  have Rb_4 := heap_of b4 _ _ _ Rb_3
  clear b4 B3 Rt_3 ct_3_0 ct_3_1 ct_3_2 ct_3_3 Rb_3 cb_3_0 cb_3_1
  obtain ⟨ct_4_0, ct_4_1, ct_4_2, ct_4_3⟩ := cells4s Rt_4
  obtain ⟨cb_4_0, cb_4_1⟩ := cells2s Rb_4
  have S5 := box B4.size
  have Lt_5 : Box (w.heap.size < w4.heap.size) := box (Array.getElem?_eq_some_iff.1 Rt_4).1
  have Lb_5 : Box (w2.heap.size < w4.heap.size) := box (Array.getElem?_eq_some_iff.1 Rb_4).1
  have Rc_5 := heap_alloc_last w4 (Obj.cells #[.int .u64 0, .int .u64 13654] 25)
  have B5 := btr B4 (bal w4 (Obj.cells #[.int .u64 0, .int .u64 13654] 25))
  have Rt_5 := heap_of (bal w4 (Obj.cells #[.int .u64 0, .int .u64 13654] 25)) _ _ _ Rt_4
  have Rb_5 := heap_of (bal w4 (Obj.cells #[.int .u64 0, .int .u64 13654] 25)) _ _ _ Rb_4
  clear B4 Rt_4 ct_4_0 ct_4_1 ct_4_2 ct_4_3 Rb_4 cb_4_0 cb_4_1
  obtain ⟨ct_5_0, ct_5_1, ct_5_2, ct_5_3⟩ := cells4s Rt_5
  obtain ⟨cb_5_0, cb_5_1⟩ := cells2s Rb_5
  obtain ⟨cc_5_0, cc_5_1⟩ := cells2s Rc_5
  go_wp2
  go_ret
  exact ⟨rfl, B5⟩
end Go.Proofs.YtbmhfcppaajgbaaGreatDoor
namespace Go.Proofs.YtbmhfcppaajgbaaGreatDoor
set_option maxRecDepth 100000
open Go.RowKit WMath XMath
set_option linter.unusedSimpArgs false
set_option linter.unusedVariables false

theorem fnd_r {f : Int} (hf : Is4 f) {x : XN} (hx : x.can) (n0 : x.n ≠ 0) (hd : nl x.d ≤ 8192) : ∃ W more, Wok f W ∧ RtN f x W more ∧ Fnd f x true (topX x / 2) W more := by
  obtain ⟨t1, t2⟩ := top_lim hx
  obtain ⟨W, more, a, b⟩ := r_num hf x hx n0 hd t1 t2
  refine ⟨W, more, a, b, ?_⟩
  unfold Fnd
  rw [if_pos rfl]
  exact ⟨rfl, b⟩
/-- What is delivered of the root of a number. -/
def Rts (f m : Int) (x : XN) (M : Nat) (fl : Int) : Prop := if x.n = 0 then M = 0 ∧ fl = 0 else ∃ W more, Wok f W ∧ RtN f x W more ∧ dlv f m false (topX x / 2) W more = (M, fl)
theorem kRoot_is (f m : Int) (hf : Is4 f) (hm : 0 ≤ m ∧ m ≤ 4) (n d : Nat) (s t : ByteArray) (e : Int) (hs : nbA n = s) (ht : nbA d = t) (hc : (XN.mk false n d e).can) (ln : nl n ≤ 8192) (ld : nl d ≤ 8192) (M : Nat) (fl : Int) (hd : Rts f m ⟨false, n, d, e⟩ M fl) (u v : Nat) (hv : bv7 M = (u, v)) (w : World) (hT : FAt w) (hT2 : TabAt w) :
    Calls Tryz.prog 24 #[.int .u8 f, .int .u8 m, .agg #[.bool false, .string s, .string t, .int .i64 e]] w fun r w' => r = .returned (.tuple #[.agg #[.int .u64 (u : Nat), .int .u64 (v : Nat)], .int .u8 fl, .int .i64 0]) ∧ Below w.heap.size w w' := by
  have f4 := is4_ok hf
  have KC : Box (∀ w, TabAt w → Calls Tryz.prog 65 #[.int .u8 f, .int .u8 m, .agg #[.bool false, .string s, .string t, .int .i64 e]] w fun r w' => r = .returned (.int .i64 0) ∧ Below w.heap.size w w') := box (fun w hT => kcheck f m f4.1 f4.2.1 false s t e true (may_yes hs ht hc) 0 (flt_ok hf hm hs ht ln ld) w hT)
  unfold Rts at hd
  rcases x_cases hs ht hc with ⟨n0, _, rfl, rfl, rfl, rfl⟩ | ⟨n0, e0⟩
  · rw [if_pos n0] at hd
    obtain ⟨rfl, rfl⟩ := hd
    injection hv with h3 h4
    subst h3 h4
    exact ru_Root_ok f m _ _ _ _ _ _ _ _ _ 0 0 0 w KC (box (fun w hT hT2 => kofRoot0 f hf _ rfl w hT hT2)) (box (fun w hT hT2 => kdelivered0 f m hf hm _ rfl w hT hT2)) rfl hT hT2
  · rw [if_neg n0] at hd
    obtain ⟨W, more, a, b, c⟩ := hd
    obtain ⟨t1, t2⟩ := top_lim hc
    exact ru_Root_ok f m false s t e _ _ _ _ _ u v fl w KC (box (fun w hT hT2 => kofRoot f hf false n d s t e hs ht hc n0 _ _ rfl rfl W _ more b rfl w hT hT2))
      (box (fun w hT hT2 => kdelivered f m hf hm false _ (by omega) (by omega) W more a _ rfl _ rfl M fl c u v hv w hT hT2)) rfl hT hT2
end Go.Proofs.YtbmhfcppaajgbaaGreatDoor
namespace Go.Proofs.YtbmhfcppaajgbaaGreatDoor
set_option maxRecDepth 100000
open Go.RowKit WMath XMath
set_option linter.unusedSimpArgs false
set_option linter.unusedVariables false

theorem gO_none (m : Int) (neg o : Bool) : gO m neg o false false = false := by
  unfold gO
  split <;> (try split) <;> (try split) <;> (try split) <;> simp
theorem rnd_own {f : Int} (hf : Is4 f) (m : Int) (neg : Bool) (e t : Nat) (he : e < oV f) (ht : t < 2 ^ pV f) (nz : sV f e t ≠ 0) : rnd f m ⟨neg, od (sV f e t), 1, xV f e + (tz (sV f e t) : Int)⟩ = (enc7 f neg e t, 0) := by
  obtain ⟨n1, n2, n3, n4, n5, n6⟩ := nm8 hf
  have p := fp8 hf
  have pp := Nat.two_pow_pos (pV f)
  have oe : (oV f : Int) = 2 * fE f + 1 := by unfold oV; omega
  obtain ⟨S, hS⟩ : ∃ S, sV f e t = S := ⟨_, rfl⟩
  obtain ⟨X, hX⟩ : ∃ X, xV f e = X := ⟨_, rfl⟩
  have vo := (val_of hf neg e t he ht nz).1
  rw [hS, hX] at vo
  rw [hS] at nz ⊢
  rw [hX]
  have sl : S < 2 * 2 ^ pV f := by rw [← hS]; unfold sV; split <;> omega
  obtain ⟨o1, o2⟩ := od_is S nz
  have od0 : od S ≠ 0 := by omega
  have bs : blen S = blen (od S) + tz S := by
    have := blen_shift (od S) (tz S) od0
    rw [← o1] at this
    exact this
  have xl : -20000 ≤ X ∧ X ≤ 20000 := by rw [← hX]; unfold xV; split <;> omega
  have hc : (XN.mk neg (od S) 1 (X + (tz S : Int))).can := by
    have := mk_can neg S 1 X (nl_small hf S (by omega)) nl_1 (by decide) (by rw [vo])
    rw [vo] at this
    exact this
  have tw : topX ⟨neg, od S, 1, X + (tz S : Int)⟩ = (blen S : Int) - 1 + X := by rw [top_whole neg (od S) _ od0]; omega
  obtain ⟨T, hT⟩ : ∃ T, topX ⟨neg, od S, 1, X + (tz S : Int)⟩ = T := ⟨_, rfl⟩
  obtain ⟨q1, q2⟩ := fnd_x hf hc od0 (by show nl 1 ≤ 8192; decide +kernel)
  unfold Fnd at q2
  rw [if_neg (by decide)] at q2
  have tlim := tz_blen S
  have blu : blen S ≤ pV f + 1 := (blen_iff S _).2 (by rw [Nat.pow_succ]; omega)
  have kk : stE f T - T = (dK f T : Int) := by unfold dK stE; omega
  have stx := st_lx hf T
  have sx : stE f T - fP f + 1 = X := by
    rw [hT] at tw
    rw [tw, ← hX]
    unfold stE
    by_cases e0 : e = 0
    · have : blen S ≤ pV f := (blen_iff S _).2 (by rw [← hS]; unfold sV; rw [if_pos e0]; exact ht)
      unfold xV
      rw [if_pos e0]
      omega
    · have : blen S = pV f + 1 := blen_is S (pV f) (by rw [← hS]; unfold sV; rw [if_neg e0]; omega) (by rw [Nat.pow_succ]; omega)
      unfold xV
      rw [if_neg e0]
      omega
  have F := q2.2 (dK f T + 1) (by rw [hT]; omega)
  rw [hT, show T - fP f + ((dK f T + 1 : Nat) : Int) = X by omega, cut_two, ex_is, fl_yes _ X od0 rfl (by show X ≤ X + (tz S : Int); omega) (by omega) (by omega) (by
    show nl (od S * 2 ^ (X + (tz S : Int) - X).toNat) ≤ 16384
    rw [show (X + (tz S : Int) - X).toNat = tz S by omega, ← o1]
    exact nl_small hf S (by omega))] at F
  injection F with F1 F2
  injection F1 with F3 F4
  have F5 : S = rS (xW f ⟨neg, od S, 1, X + (tz S : Int)⟩) (dK f T) := by
    rw [← F3]
    show S = od S * 2 ^ (X + (tz S : Int) - X).toNat
    rw [show (X + (tz S : Int) - X).toNat = tz S by omega, ← o1]
  have hh : rH (xW f ⟨neg, od S, 1, X + (tz S : Int)⟩) (dK f T) = false ∧ rM (xW f ⟨neg, od S, 1, X + (tz S : Int)⟩) (dK f T) (xM f ⟨neg, od S, 1, X + (tz S : Int)⟩) = false := by
    have := F4.symm
    rw [Bool.not_eq_true', Bool.or_eq_false_iff] at this
    exact this
  have hG : rG m neg (xW f ⟨neg, od S, 1, X + (tz S : Int)⟩) (dK f T) (xM f ⟨neg, od S, 1, X + (tz S : Int)⟩) = S := by
    unfold rG
    rw [hh.1, hh.2, gO_none, if_neg (by decide), ← F5]
  have hov : ¬ fE f < stE f T - fP f + (blen S : Int) := by
    rw [hT] at tw
    by_cases e0 : e = 0
    · have : blen S ≤ pV f := (blen_iff S _).2 (by rw [← hS]; unfold sV; rw [if_pos e0]; exact ht)
      unfold xV at hX
      rw [if_pos e0] at hX
      omega
    · unfold xV at hX
      rw [if_neg e0] at hX
      omega
  unfold rnd
  rw [if_neg od0]
  unfold dlv
  rw [hT, hG, if_neg hov, hh.1, hh.2, if_neg (by decide)]
  congr 1
  have hj : (dJ f T : Int) = X - lx f := by omega
  unfold eS enc7
  rw [← hS]
  unfold sV
  unfold xV at hX
  by_cases e0 : e = 0
  · rw [if_pos e0] at hX ⊢
    rw [show dJ f T = 0 by omega, e0]
  · rw [if_neg e0] at hX ⊢
    obtain ⟨k, rfl⟩ : ∃ k, e = k + 1 := ⟨e - 1, by omega⟩
    rw [show dJ f T = k by omega, Nat.add_mul, Nat.one_mul]
    generalize k * 2 ^ pV f = A
    generalize 2 ^ pV f = B
    generalize (if neg = true then 2 ^ wV f else 0) = C
    omega
theorem p2lt (a b : Int) (h : (2 : Rat) ^ a < (2 : Rat) ^ b) : a < b := by
  by_cases c : a < b
  · exact c
  · exact absurd h (Rat.not_lt.2 (p2mono b a (by omega)))
theorem sq_is (r : Nat) (a : Int) : ((r * r : Nat) : Rat) * (2 : Rat) ^ (2 * a) = ((r : Rat) * (2 : Rat) ^ a) * ((r : Rat) * (2 : Rat) ^ a) := by
  rw [show 2 * a = a + a by omega, p2add, Rat.natCast_mul]
  grind
theorem rq_le (u v : Rat) (h0 : 0 ≤ u) (h : u ≤ v) : u * u ≤ v * v := by
  have a := Rat.mul_le_mul_of_nonneg_right h h0
  have b := Rat.mul_le_mul_of_nonneg_left h (show 0 ≤ v by grind)
  grind
theorem rq_lt (u v : Rat) (h0 : 0 ≤ u) (h : u < v) : u * u < v * v := by
  have a := rq_le u v h0 (Rat.le_of_lt h)
  have pv : 0 < v := by grind
  have b := (Rat.mul_lt_mul_right pv).2 h
  have c := Rat.mul_le_mul_of_nonneg_left (Rat.le_of_lt h) h0
  grind
theorem sq_num {f : Int} (hf : Is4 f) (x s : XN) (hx : x.can) (hs : s.can) (n0 : x.n ≠ 0) (s0 : s.n ≠ 0) (hd : nl x.d ≤ 8192) (hds : nl s.d ≤ 8192) (hm : s.mag = x.mag * x.mag) (ht : topX x ≤ 1000000) (W : Nat) (more : Bool) (hR : RtN f s W more) : topX s / 2 = topX x ∧ W = xW f x ∧ more = xM f x := by
  have p := fp8 hf
  have n4 := (nm8 hf).2.2.2.1
  obtain ⟨a1, a2⟩ := top_good x n0 hx.d0
  obtain ⟨c1, c2⟩ := top_good s s0 hs.d0
  obtain ⟨t1, t2⟩ := top_lim hx
  have pos := mag_pos x n0 hx.d0
  have e1 : (2 : Rat) ^ (2 * topX x) ≤ s.mag := by
    rw [hm, show 2 * topX x = topX x + topX x by omega, p2add]
    exact rq_le _ _ (Rat.le_of_lt (p2 _)) a1
  have e2 : s.mag < (2 : Rat) ^ (2 * topX x + 2) := by
    rw [hm, show 2 * topX x + 2 = (topX x + 1) + (topX x + 1) by omega, p2add]
    exact rq_lt _ _ (Rat.le_of_lt pos) a2
  have T1 := p2lt (2 * topX x) (topX s + 1) (by grind)
  have T2 := p2lt (topX s) (2 * topX x + 2) (by grind)
  have TT : topX s / 2 = topX x := by omega
  refine ⟨TT, ?_⟩
  obtain ⟨N, ex, f1, f2, f3⟩ := hR 0 (by omega)
  rw [Nat.pow_zero, Nat.div_one] at f2 f3
  rw [Nat.mod_one, decide_eq_true rfl, Bool.and_true] at f3
  rw [TT, show topX x - fP f + ((0 : Nat) : Int) = topX x - fP f by omega] at f1
  have g := fl_good s (2 * (topX x - fP f)) hs s0 (by rw [f1])
  rw [f1] at g
  have r := rt_good g.1 g.2.1 g.2.2 f2
  have h := fl_good x (topX x - fP f) hx n0 (fl_ok x _ n0 hd (by omega) (by omega) (by omega))
  have nn : ∀ n : Nat, (0 : Rat) ≤ (n : Rat) * (2 : Rat) ^ (topX x - fP f) := fun n => Rat.mul_nonneg (Rat.natCast_nonneg) (Rat.le_of_lt (p2 _))
  have k1 : ((xW f x * 1) * (xW f x * 1) : Nat) = (xW f x * xW f x : Nat) := by rw [Nat.mul_one]
  have := sandwich (fun n => ((n * n : Nat) : Rat) * (2 : Rat) ^ (2 * (topX x - fP f))) (mono2 _) (m' := xW f x) (K := 1) (b' := !xM f x) (by decide) r.1 r.2.1 r.2.2 (by
      show (((xW f x * 1) * (xW f x * 1) : Nat) : Rat) * _ ≤ _
      rw [Nat.mul_one, sq_is, hm]
      exact rq_le _ _ (nn _) h.1) (by
      show _ < ((((xW f x + 1) * 1) * ((xW f x + 1) * 1) : Nat) : Rat) * _
      rw [Nat.mul_one, sq_is, hm]
      exact rq_lt _ _ (Rat.le_of_lt pos) h.2.1) (by
      show (!xM f x) = true ↔ (((xW f x * 1) * (xW f x * 1) : Nat) : Rat) * _ = _
      rw [Nat.mul_one, sq_is, hm]
      have e : (!xM f x) = (flX x (topX x - fP f)).1.2 := by unfold xM; rw [Bool.not_not]
      rw [e, h.2.2]
      constructor
      · intro q
        have q2 : (xW f x : Rat) * (2 : Rat) ^ (topX x - fP f) = x.mag := q
        rw [q2]
      · intro q
        show (xW f x : Rat) * (2 : Rat) ^ (topX x - fP f) = x.mag
        rcases Rat.le_iff_lt_or_eq.1 (show (xW f x : Rat) * (2 : Rat) ^ (topX x - fP f) ≤ x.mag from h.1) with c | c
        · exact absurd (rq_lt _ _ (nn _) c) (by rw [q]; exact Rat.lt_irrefl)
        · exact c)
  obtain ⟨z1, z2⟩ := this
  rw [Nat.div_one] at z1
  rw [Nat.mod_one, decide_eq_true rfl, Bool.and_true, f3] at z2
  refine ⟨z1.symm, ?_⟩
  have z3 := congrArg (fun b => !b) z2
  simpa using z3.symm
end Go.Proofs.YtbmhfcppaajgbaaGreatDoor
