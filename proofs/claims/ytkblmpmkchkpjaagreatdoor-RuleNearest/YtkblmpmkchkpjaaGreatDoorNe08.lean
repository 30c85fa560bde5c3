/-
  What the functions that the statement reaches return: part 8 (X3, X3m, X4, X5, X6, X7).
-/
import Derived.Test.YtkblmpmkchkpjaaGreatDoorNe07
namespace Go.Proofs.YtkblmpmkchkpjaaGreatDoor
set_option maxRecDepth 100000
set_option maxHeartbeats 40000000
open Go.RowKit WMath XMath
theorem xcheck (b : Bool) (s t : ByteArray) (e : Int) (o : Bool) (ho : o = true ↔ MayX b s t e) (w : World) (hT : zN w) : Calls Tryz.prog 110 #[.agg #[.bool b, .string s, .string t, .int .i64 e]] w fun r w' => r = .returned (.int .i64 (if o then 0 else 2)) ∧ Below w.heap.size w w' := by
 have TT := zH hT
 clear hT
 cases hm1 : qB s
 ·
  have eo : o = false := by
   cases o
   ·
    rfl
   ·
    have := (mayX_s b s t e (ho.1 rfl)).1
    rw [hm1] at this
    exact absurd this (by decide)
  subst eo
  have H1 := zH hm1
  clear hm1 ho
  obtain ⟨Ab, B0⟩ := yO w (Obj.cells #[.bool b, .string s, .string t, .int .i64 e] 41)
  go_enter Tryz.func110, Tryz.ntmps110
  go_wp2_with fail
  refine (yN s false H1.out _).mono ?_
  rintro r w' ⟨rfl, rfl⟩
  go_wp2
  go_ret
  exact ⟨rfl, B0⟩
 cases hm2 : qB t
 ·
  have eo : o = false := by
   cases o
   ·
    rfl
   ·
    have := (mayX_s b s t e (ho.1 rfl)).2
    rw [hm2] at this
    exact absurd this (by decide)
  subst eo
  have H1 := zH hm1
  have H2 := zH hm2
  clear hm1 hm2 ho
  obtain ⟨Ab, B0⟩ := yO w (Obj.cells #[.bool b, .string s, .string t, .int .i64 e] 41)
  go_enter Tryz.func110, Tryz.ntmps110
  go_wp2_with fail
  refine (yN s true H1.out _).mono ?_
  rintro r w' ⟨rfl, rfl⟩
  go_wp2_with fail
  refine (yN t false H2.out _).mono ?_
  rintro r w' ⟨rfl, rfl⟩
  go_wp2
  go_ret
  exact ⟨rfl, B0⟩
 obtain ⟨n, hs, ln⟩ := mayB_is s hm1
 obtain ⟨d, ht, ld⟩ := mayB_is t hm2
 rw [mayX_iff b n d s t e hs ht, can_parts b n d e ln ld] at ho
 have H1 := zH hm1
 have H2 := zH hm2
 have HS := zH hs
 have HT := zH ht
 have LN := zH ln
 have LD := zH ld
 clear hm1 hm2
 obtain ⟨g, hg⟩ : ∃ g, (decide (-1048576 ≤ e) && decide (e ≤ 1048576)) = g := ⟨_, rfl⟩
 have HG := zH hg
 cases g
 ·
  have eo : o = false := by
   cases o
   ·
    rfl
   ·
    have := ho.1 rfl
    rw [decide_eq_true this.1, decide_eq_true this.2.1] at hg
    exact hg
  subst eo
  clear ho hs ht ln ld hg
  obtain ⟨Ab, B0⟩ := yO w (Obj.cells #[.bool b, .string s, .string t, .int .i64 e] 41)
  go_enter Tryz.func110, Tryz.ntmps110
  go_wp2_with fail
  refine (yN s true H1.out _).mono ?_
  rintro r w' ⟨rfl, rfl⟩
  go_wp2_with fail
  refine (yN t true H2.out _).mono ?_
  rintro r w' ⟨rfl, rfl⟩
  go_wp2_with fail
  refine (yR e 1048576 false (by decide) (by decide) HG.out _).mono ?_
  rintro r w1 ⟨rfl, b1⟩
  have B1 := zO B0 b1
  have Aa := zA b1 _ _ _ Ab
  clear b1 B0 Ab
  obtain ⟨Ad, Ae, Af, Ag⟩ := zC Aa
  go_wp2
  go_ret
  exact ⟨rfl, B1⟩
 have hr : -1048576 ≤ e ∧ e ≤ 1048576 := by simpa using hg
 clear hg
 by_cases h0 : n = 0
 ·
  subst h0
  rw [yM] at hs
  have hs2 := hs
  clear hs
  subst hs2
  have e1 := eq_one d t ht
  have ez : (e == 0) = decide (e = 0) := by rw [Bool.eq_iff_iff, beq_iff_eq, decide_eq_true_iff]
  have ho2 : o = true ↔ (b = false ∧ d = 1 ∧ e = 0) := by rw [ho]; exact ⟨fun h => by rcases h.2.2 with h | h; exact ⟨h.1, h.2.2⟩; omega, fun h => ⟨by omega, by omega, Or.inl ⟨h.1, rfl, h.2⟩⟩⟩
  have OD : zS (decide ((0 : Nat) % 2 = 1) = false) := zH rfl
  clear ho ht ln ld hr
  cases b
  ·
   by_cases d1 : d = 1
   ·
    rw [decide_eq_true d1] at e1
    by_cases z : e = 0
    ·
     have eo : o = true := ho2.2 ⟨rfl, d1, z⟩
     subst eo
     rw [decide_eq_true z] at ez
     clear ho2 d1 z
     obtain ⟨Ab, B0⟩ := yO w (Obj.cells #[.bool false, .string ⟨#[]⟩, .string t, .int .i64 e] 41)
     go_enter Tryz.func110, Tryz.ntmps110
     go_wp2_with fail
     refine (yN _ true H1.out _).mono ?_
     rintro r w' ⟨rfl, rfl⟩
     go_wp2_with fail
     refine (yN t true H2.out _).mono ?_
     rintro r w' ⟨rfl, rfl⟩
     go_wp2_with fail
     refine (yR e 1048576 true (by decide) (by decide) HG.out _).mono ?_
     rintro r w1 ⟨rfl, b1⟩
     have B1 := zO B0 b1
     have Aa := zA b1 _ _ _ Ab
     clear b1 B0 Ab
     obtain ⟨Ad, Ae, Af, Ag⟩ := zC Aa
     go_wp2_with fail
     obtain ⟨F, hF1, hF2⟩ := zQ w1
     have fx_0 := fun u => zE (zA (hF1 u) _ _ _ Aa) 0 _ rfl
     have fx_1 := fun u => zE (zA (hF1 u) _ _ _ Aa) 1 _ rfl
     have fx_2 := fun u => zE (zA (hF1 u) _ _ _ Aa) 2 _ rfl
     have fx_3 := fun u => zE (zA (hF1 u) _ _ _ Aa) 3 _ rfl
     refine zI F hF2 (by kernel_rfl) (by kernel_rfl) ?_
     repeat first | go_big_quiet_step (first | (go_at_call 111; exact zJ hF1 hF2 (zZ _)) | fail) | quiet_step (first | (go_at_call 111; exact zJ hF1 hF2 (zZ _)) | fail)
     refine wpQuiet_nil ?_
     rintro _ ⟨uW, rfl⟩
     have B2 := zO B1 (hF1 uW)
     have Ac := zA (hF1 uW) _ _ _ Aa
     obtain ⟨w2, hw⟩ : ∃ V, F uW = V := ⟨_, rfl⟩
     rw [hw] at B2 Ac
     try rw [hw]
     clear hw hF1 hF2 B1 fx_0 fx_1 fx_2 fx_3 Aa Ad Ae Af Ag
     clear F
     obtain ⟨Ah, Ai, Aj, Ak⟩ := zC Ac
     go_wp2
     go_ret
     exact ⟨rfl, B2⟩
    ·
     have eo : o = false := by cases o; rfl; exact absurd (ho2.1 rfl).2.2 z
     subst eo
     rw [decide_eq_false z] at ez
     clear ho2 d1
     obtain ⟨Ab, B0⟩ := yO w (Obj.cells #[.bool false, .string ⟨#[]⟩, .string t, .int .i64 e] 41)
     go_enter Tryz.func110, Tryz.ntmps110
     go_wp2_with fail
     refine (yN _ true H1.out _).mono ?_
     rintro r w' ⟨rfl, rfl⟩
     go_wp2_with fail
     refine (yN t true H2.out _).mono ?_
     rintro r w' ⟨rfl, rfl⟩
     go_wp2_with fail
     refine (yR e 1048576 true (by decide) (by decide) HG.out _).mono ?_
     rintro r w1 ⟨rfl, b1⟩
     have B1 := zO B0 b1
     have Aa := zA b1 _ _ _ Ab
     clear b1 B0 Ab
     obtain ⟨Ad, Ae, Af, Ag⟩ := zC Aa
     go_wp2_with fail
     obtain ⟨F, hF1, hF2⟩ := zQ w1
     have fx_0 := fun u => zE (zA (hF1 u) _ _ _ Aa) 0 _ rfl
     have fx_1 := fun u => zE (zA (hF1 u) _ _ _ Aa) 1 _ rfl
     have fx_2 := fun u => zE (zA (hF1 u) _ _ _ Aa) 2 _ rfl
     have fx_3 := fun u => zE (zA (hF1 u) _ _ _ Aa) 3 _ rfl
     have TF : zS (∀ u, zN (F u)) := zH (fun u => zV TT.out (zO B1 (hF1 u)))
     refine zI F hF2 (by kernel_rfl) (by kernel_rfl) ?_
     repeat first | go_big_quiet_step (first | (go_at_call 111; exact zJ hF1 hF2 (zZ _)) | (go_at_call 197; exact zJ hF1 hF2 (qF 0 _ false HS.out LN.out OD.out _ (TF.out _))) | fail) | quiet_step (first | (go_at_call 111; exact zJ hF1 hF2 (zZ _)) | (go_at_call 197; exact zJ hF1 hF2 (qF 0 _ false HS.out LN.out OD.out _ (TF.out _))) | fail)
     refine wpQuiet_nil ?_
     rintro _ ⟨uW, rfl⟩
     have B2 := zO B1 (hF1 uW)
     have Ac := zA (hF1 uW) _ _ _ Aa
     obtain ⟨w2, hw⟩ : ∃ V, F uW = V := ⟨_, rfl⟩
     rw [hw] at B2 Ac
     try rw [hw]
     clear hw hF1 hF2 B1 fx_0 fx_1 fx_2 fx_3 Aa Ad Ae Af Ag
     clear TF
     clear F
     obtain ⟨Ah, Ai, Aj, Ak⟩ := zC Ac
     go_wp2
     go_ret
     exact ⟨rfl, B2⟩
   ·
    have eo : o = false := by cases o; rfl; exact absurd (ho2.1 rfl).2.1 d1
    subst eo
    rw [decide_eq_false d1] at e1
    clear ho2 d1 ez
    obtain ⟨Ab, B0⟩ := yO w (Obj.cells #[.bool false, .string ⟨#[]⟩, .string t, .int .i64 e] 41)
    go_enter Tryz.func110, Tryz.ntmps110
    go_wp2_with fail
    refine (yN _ true H1.out _).mono ?_
    rintro r w' ⟨rfl, rfl⟩
    go_wp2_with fail
    refine (yN t true H2.out _).mono ?_
    rintro r w' ⟨rfl, rfl⟩
    go_wp2_with fail
    refine (yR e 1048576 true (by decide) (by decide) HG.out _).mono ?_
    rintro r w1 ⟨rfl, b1⟩
    have B1 := zO B0 b1
    have Aa := zA b1 _ _ _ Ab
    clear b1 B0 Ab
    obtain ⟨Ad, Ae, Af, Ag⟩ := zC Aa
    go_wp2_with fail
    obtain ⟨F, hF1, hF2⟩ := zQ w1
    have fx_0 := fun u => zE (zA (hF1 u) _ _ _ Aa) 0 _ rfl
    have fx_1 := fun u => zE (zA (hF1 u) _ _ _ Aa) 1 _ rfl
    have fx_2 := fun u => zE (zA (hF1 u) _ _ _ Aa) 2 _ rfl
    have fx_3 := fun u => zE (zA (hF1 u) _ _ _ Aa) 3 _ rfl
    have TF : zS (∀ u, zN (F u)) := zH (fun u => zV TT.out (zO B1 (hF1 u)))
    refine zI F hF2 (by kernel_rfl) (by kernel_rfl) ?_
    repeat first | go_big_quiet_step (first | (go_at_call 111; exact zJ hF1 hF2 (zZ _)) | (go_at_call 197; exact zJ hF1 hF2 (qF 0 _ false HS.out LN.out OD.out _ (TF.out _))) | fail) | quiet_step (first | (go_at_call 111; exact zJ hF1 hF2 (zZ _)) | (go_at_call 197; exact zJ hF1 hF2 (qF 0 _ false HS.out LN.out OD.out _ (TF.out _))) | fail)
    refine wpQuiet_nil ?_
    rintro _ ⟨uW, rfl⟩
    have B2 := zO B1 (hF1 uW)
    have Ac := zA (hF1 uW) _ _ _ Aa
    obtain ⟨w2, hw⟩ : ∃ V, F uW = V := ⟨_, rfl⟩
    rw [hw] at B2 Ac
    try rw [hw]
    clear hw hF1 hF2 B1 fx_0 fx_1 fx_2 fx_3 Aa Ad Ae Af Ag
    clear TF
    clear F
    obtain ⟨Ah, Ai, Aj, Ak⟩ := zC Ac
    go_wp2
    go_ret
    exact ⟨rfl, B2⟩
  ·
   have eo : o = false := by cases o; rfl; exact absurd (ho2.1 rfl).1 (by decide)
   subst eo
   clear ho2 e1 ez
   obtain ⟨Ab, B0⟩ := yO w (Obj.cells #[.bool true, .string ⟨#[]⟩, .string t, .int .i64 e] 41)
   go_enter Tryz.func110, Tryz.ntmps110
   go_wp2_with fail
   refine (yN _ true H1.out _).mono ?_
   rintro r w' ⟨rfl, rfl⟩
   go_wp2_with fail
   refine (yN t true H2.out _).mono ?_
   rintro r w' ⟨rfl, rfl⟩
   go_wp2_with fail
   refine (yR e 1048576 true (by decide) (by decide) HG.out _).mono ?_
   rintro r w1 ⟨rfl, b1⟩
   have B1 := zO B0 b1
   have Aa := zA b1 _ _ _ Ab
   clear b1 B0 Ab
   obtain ⟨Ad, Ae, Af, Ag⟩ := zC Aa
   go_wp2_with fail
   obtain ⟨F, hF1, hF2⟩ := zQ w1
   have fx_0 := fun u => zE (zA (hF1 u) _ _ _ Aa) 0 _ rfl
   have fx_1 := fun u => zE (zA (hF1 u) _ _ _ Aa) 1 _ rfl
   have fx_2 := fun u => zE (zA (hF1 u) _ _ _ Aa) 2 _ rfl
   have fx_3 := fun u => zE (zA (hF1 u) _ _ _ Aa) 3 _ rfl
   have TF : zS (∀ u, zN (F u)) := zH (fun u => zV TT.out (zO B1 (hF1 u)))
   refine zI F hF2 (by kernel_rfl) (by kernel_rfl) ?_
   repeat first | go_big_quiet_step (first | (go_at_call 111; exact zJ hF1 hF2 (zZ _)) | (go_at_call 197; exact zJ hF1 hF2 (qF 0 _ false HS.out LN.out OD.out _ (TF.out _))) | fail) | quiet_step (first | (go_at_call 111; exact zJ hF1 hF2 (zZ _)) | (go_at_call 197; exact zJ hF1 hF2 (qF 0 _ false HS.out LN.out OD.out _ (TF.out _))) | fail)
   refine wpQuiet_nil ?_
   rintro _ ⟨uW, rfl⟩
   have B2 := zO B1 (hF1 uW)
   have Ac := zA (hF1 uW) _ _ _ Aa
   obtain ⟨w2, hw⟩ : ∃ V, F uW = V := ⟨_, rfl⟩
   rw [hw] at B2 Ac
   try rw [hw]
   clear hw hF1 hF2 B1 fx_0 fx_1 fx_2 fx_3 Aa Ad Ae Af Ag
   clear TF
   clear F
   obtain ⟨Ah, Ai, Aj, Ak⟩ := zC Ac
   go_wp2
   go_ret
   exact ⟨rfl, B2⟩
 ·
  have e0 := eq_nil n s hs h0
  have ho2 : o = true ↔ (n % 2 = 1 ∧ d % 2 = 1 ∧ Nat.gcd n d = 1) := by
   rw [ho]
   constructor
   ·
    rintro ⟨_, _, h | h⟩
    ·
     exact absurd h.2.1 h0
    ·
     exact h
   ·
    intro h
    exact ⟨hr.1, hr.2, Or.inr h⟩
  obtain ⟨p, hp⟩ : ∃ p, decide (n % 2 = 1) = p := ⟨_, rfl⟩
  obtain ⟨q, hq⟩ : ∃ p, decide (d % 2 = 1) = p := ⟨_, rfl⟩
  have HP := zH hp
  have HQ := zH hq
  clear ho hs ht ln ld hr h0
  cases p
  ·
   have eo : o = false := by cases o; rfl; rw [decide_eq_true (ho2.1 rfl).1] at hp; exact hp
   subst eo
   clear ho2 hp hq
   cases b
   ·
    obtain ⟨Ab, B0⟩ := yO w (Obj.cells #[.bool false, .string s, .string t, .int .i64 e] 41)
    go_enter Tryz.func110, Tryz.ntmps110
    go_wp2_with fail
    refine (yN _ true H1.out _).mono ?_
    rintro r w' ⟨rfl, rfl⟩
    go_wp2_with fail
    refine (yN t true H2.out _).mono ?_
    rintro r w' ⟨rfl, rfl⟩
    go_wp2_with fail
    refine (yR e 1048576 true (by decide) (by decide) HG.out _).mono ?_
    rintro r w1 ⟨rfl, b1⟩
    have B1 := zO B0 b1
    have Aa := zA b1 _ _ _ Ab
    clear b1 B0 Ab
    obtain ⟨Ad, Ae, Af, Ag⟩ := zC Aa
    go_wp2_with fail
    obtain ⟨F, hF1, hF2⟩ := zQ w1
    have fx_0 := fun u => zE (zA (hF1 u) _ _ _ Aa) 0 _ rfl
    have fx_1 := fun u => zE (zA (hF1 u) _ _ _ Aa) 1 _ rfl
    have fx_2 := fun u => zE (zA (hF1 u) _ _ _ Aa) 2 _ rfl
    have fx_3 := fun u => zE (zA (hF1 u) _ _ _ Aa) 3 _ rfl
    have TF : zS (∀ u, zN (F u)) := zH (fun u => zV TT.out (zO B1 (hF1 u)))
    refine zI F hF2 (by kernel_rfl) (by kernel_rfl) ?_
    repeat first | go_big_quiet_step (first | (go_at_call 111; exact zJ hF1 hF2 (zZ _)) | (go_at_call_of 197 (Value.string s); exact zJ hF1 hF2 (qF n s false HS.out LN.out HP.out _ (TF.out _))) | fail) | quiet_step (first | (go_at_call 111; exact zJ hF1 hF2 (zZ _)) | (go_at_call_of 197 (Value.string s); exact zJ hF1 hF2 (qF n s false HS.out LN.out HP.out _ (TF.out _))) | fail)
    refine wpQuiet_nil ?_
    rintro _ ⟨uW, rfl⟩
    have B2 := zO B1 (hF1 uW)
    have Ac := zA (hF1 uW) _ _ _ Aa
    obtain ⟨w2, hw⟩ : ∃ V, F uW = V := ⟨_, rfl⟩
    rw [hw] at B2 Ac
    try rw [hw]
    clear hw hF1 hF2 B1 fx_0 fx_1 fx_2 fx_3 Aa Ad Ae Af Ag
    clear TF
    clear F
    obtain ⟨Ah, Ai, Aj, Ak⟩ := zC Ac
    go_wp2
    go_ret
    exact ⟨rfl, B2⟩
   ·
    obtain ⟨Ab, B0⟩ := yO w (Obj.cells #[.bool true, .string s, .string t, .int .i64 e] 41)
    go_enter Tryz.func110, Tryz.ntmps110
    go_wp2_with fail
    refine (yN _ true H1.out _).mono ?_
    rintro r w' ⟨rfl, rfl⟩
    go_wp2_with fail
    refine (yN t true H2.out _).mono ?_
    rintro r w' ⟨rfl, rfl⟩
    go_wp2_with fail
    refine (yR e 1048576 true (by decide) (by decide) HG.out _).mono ?_
    rintro r w1 ⟨rfl, b1⟩
    have B1 := zO B0 b1
    have Aa := zA b1 _ _ _ Ab
    clear b1 B0 Ab
    obtain ⟨Ad, Ae, Af, Ag⟩ := zC Aa
    go_wp2_with fail
    obtain ⟨F, hF1, hF2⟩ := zQ w1
    have fx_0 := fun u => zE (zA (hF1 u) _ _ _ Aa) 0 _ rfl
    have fx_1 := fun u => zE (zA (hF1 u) _ _ _ Aa) 1 _ rfl
    have fx_2 := fun u => zE (zA (hF1 u) _ _ _ Aa) 2 _ rfl
    have fx_3 := fun u => zE (zA (hF1 u) _ _ _ Aa) 3 _ rfl
    have TF : zS (∀ u, zN (F u)) := zH (fun u => zV TT.out (zO B1 (hF1 u)))
    refine zI F hF2 (by kernel_rfl) (by kernel_rfl) ?_
    repeat first | go_big_quiet_step (first | (go_at_call 111; exact zJ hF1 hF2 (zZ _)) | (go_at_call_of 197 (Value.string s); exact zJ hF1 hF2 (qF n s false HS.out LN.out HP.out _ (TF.out _))) | fail) | quiet_step (first | (go_at_call 111; exact zJ hF1 hF2 (zZ _)) | (go_at_call_of 197 (Value.string s); exact zJ hF1 hF2 (qF n s false HS.out LN.out HP.out _ (TF.out _))) | fail)
    refine wpQuiet_nil ?_
    rintro _ ⟨uW, rfl⟩
    have B2 := zO B1 (hF1 uW)
    have Ac := zA (hF1 uW) _ _ _ Aa
    obtain ⟨w2, hw⟩ : ∃ V, F uW = V := ⟨_, rfl⟩
    rw [hw] at B2 Ac
    try rw [hw]
    clear hw hF1 hF2 B1 fx_0 fx_1 fx_2 fx_3 Aa Ad Ae Af Ag
    clear TF
    clear F
    obtain ⟨Ah, Ai, Aj, Ak⟩ := zC Ac
    go_wp2
    go_ret
    exact ⟨rfl, B2⟩
  cases q
  ·
   have eo : o = false := by cases o; rfl; rw [decide_eq_true (ho2.1 rfl).2.1] at hq; exact hq
   subst eo
   clear ho2 hp hq
   cases b
   ·
    obtain ⟨Ab, B0⟩ := yO w (Obj.cells #[.bool false, .string s, .string t, .int .i64 e] 41)
    go_enter Tryz.func110, Tryz.ntmps110
    go_wp2_with fail
    refine (yN _ true H1.out _).mono ?_
    rintro r w' ⟨rfl, rfl⟩
    go_wp2_with fail
    refine (yN t true H2.out _).mono ?_
    rintro r w' ⟨rfl, rfl⟩
    go_wp2_with fail
    refine (yR e 1048576 true (by decide) (by decide) HG.out _).mono ?_
    rintro r w1 ⟨rfl, b1⟩
    have B1 := zO B0 b1
    have Aa := zA b1 _ _ _ Ab
    clear b1 B0 Ab
    obtain ⟨Ad, Ae, Af, Ag⟩ := zC Aa
    go_wp2_with fail
    obtain ⟨F, hF1, hF2⟩ := zQ w1
    have fx_0 := fun u => zE (zA (hF1 u) _ _ _ Aa) 0 _ rfl
    have fx_1 := fun u => zE (zA (hF1 u) _ _ _ Aa) 1 _ rfl
    have fx_2 := fun u => zE (zA (hF1 u) _ _ _ Aa) 2 _ rfl
    have fx_3 := fun u => zE (zA (hF1 u) _ _ _ Aa) 3 _ rfl
    have TF : zS (∀ u, zN (F u)) := zH (fun u => zV TT.out (zO B1 (hF1 u)))
    refine zI F hF2 (by kernel_rfl) (by kernel_rfl) ?_
    repeat first | go_big_quiet_step (first | (go_at_call 111; exact zJ hF1 hF2 (zZ _)) | (go_at_call_of 197 (Value.string s); exact zJ hF1 hF2 (qF n s true HS.out LN.out HP.out _ (TF.out _))) | (go_at_call_of 197 (Value.string t); exact zJ hF1 hF2 (qF d t false HT.out LD.out HQ.out _ (TF.out _))) | fail) | quiet_step (first | (go_at_call 111; exact zJ hF1 hF2 (zZ _)) | (go_at_call_of 197 (Value.string s); exact zJ hF1 hF2 (qF n s true HS.out LN.out HP.out _ (TF.out _))) | (go_at_call_of 197 (Value.string t); exact zJ hF1 hF2 (qF d t false HT.out LD.out HQ.out _ (TF.out _))) | fail)
    refine wpQuiet_nil ?_
    rintro _ ⟨uW, rfl⟩
    have B2 := zO B1 (hF1 uW)
    have Ac := zA (hF1 uW) _ _ _ Aa
    obtain ⟨w2, hw⟩ : ∃ V, F uW = V := ⟨_, rfl⟩
    rw [hw] at B2 Ac
    try rw [hw]
    clear hw hF1 hF2 B1 fx_0 fx_1 fx_2 fx_3 Aa Ad Ae Af Ag
    clear TF
    clear F
    obtain ⟨Ah, Ai, Aj, Ak⟩ := zC Ac
    go_wp2
    go_ret
    exact ⟨rfl, B2⟩
   ·
    obtain ⟨Ab, B0⟩ := yO w (Obj.cells #[.bool true, .string s, .string t, .int .i64 e] 41)
    go_enter Tryz.func110, Tryz.ntmps110
    go_wp2_with fail
    refine (yN _ true H1.out _).mono ?_
    rintro r w' ⟨rfl, rfl⟩
    go_wp2_with fail
    refine (yN t true H2.out _).mono ?_
    rintro r w' ⟨rfl, rfl⟩
    go_wp2_with fail
    refine (yR e 1048576 true (by decide) (by decide) HG.out _).mono ?_
    rintro r w1 ⟨rfl, b1⟩
    have B1 := zO B0 b1
    have Aa := zA b1 _ _ _ Ab
    clear b1 B0 Ab
    obtain ⟨Ad, Ae, Af, Ag⟩ := zC Aa
    go_wp2_with fail
    obtain ⟨F, hF1, hF2⟩ := zQ w1
    have fx_0 := fun u => zE (zA (hF1 u) _ _ _ Aa) 0 _ rfl
    have fx_1 := fun u => zE (zA (hF1 u) _ _ _ Aa) 1 _ rfl
    have fx_2 := fun u => zE (zA (hF1 u) _ _ _ Aa) 2 _ rfl
    have fx_3 := fun u => zE (zA (hF1 u) _ _ _ Aa) 3 _ rfl
    have TF : zS (∀ u, zN (F u)) := zH (fun u => zV TT.out (zO B1 (hF1 u)))
    refine zI F hF2 (by kernel_rfl) (by kernel_rfl) ?_
    repeat first | go_big_quiet_step (first | (go_at_call 111; exact zJ hF1 hF2 (zZ _)) | (go_at_call_of 197 (Value.string s); exact zJ hF1 hF2 (qF n s true HS.out LN.out HP.out _ (TF.out _))) | (go_at_call_of 197 (Value.string t); exact zJ hF1 hF2 (qF d t false HT.out LD.out HQ.out _ (TF.out _))) | fail) | quiet_step (first | (go_at_call 111; exact zJ hF1 hF2 (zZ _)) | (go_at_call_of 197 (Value.string s); exact zJ hF1 hF2 (qF n s true HS.out LN.out HP.out _ (TF.out _))) | (go_at_call_of 197 (Value.string t); exact zJ hF1 hF2 (qF d t false HT.out LD.out HQ.out _ (TF.out _))) | fail)
    refine wpQuiet_nil ?_
    rintro _ ⟨uW, rfl⟩
    have B2 := zO B1 (hF1 uW)
    have Ac := zA (hF1 uW) _ _ _ Aa
    obtain ⟨w2, hw⟩ : ∃ V, F uW = V := ⟨_, rfl⟩
    rw [hw] at B2 Ac
    try rw [hw]
    clear hw hF1 hF2 B1 fx_0 fx_1 fx_2 fx_3 Aa Ad Ae Af Ag
    clear TF
    clear F
    obtain ⟨Ah, Ai, Aj, Ak⟩ := zC Ac
    go_wp2
    go_ret
    exact ⟨rfl, B2⟩
  ·
   have eo : decide (Nat.gcd n d = 1) = o := by
    rw [Bool.eq_iff_iff, ho2, decide_eq_true_iff]
    exact ⟨fun h => ⟨of_decide_eq_true hp, of_decide_eq_true hq, h⟩, fun h => h.2.2⟩
   have HO := zH eo
   clear ho2 hp hq eo
   cases b
   ·
    cases o
    ·
     obtain ⟨Ab, B0⟩ := yO w (Obj.cells #[.bool false, .string s, .string t, .int .i64 e] 41)
     go_enter Tryz.func110, Tryz.ntmps110
     go_wp2_with fail
     refine (yN _ true H1.out _).mono ?_
     rintro r w' ⟨rfl, rfl⟩
     go_wp2_with fail
     refine (yN t true H2.out _).mono ?_
     rintro r w' ⟨rfl, rfl⟩
     go_wp2_with fail
     refine (yR e 1048576 true (by decide) (by decide) HG.out _).mono ?_
     rintro r w1 ⟨rfl, b1⟩
     have B1 := zO B0 b1
     have Aa := zA b1 _ _ _ Ab
     clear b1 B0 Ab
     obtain ⟨Ad, Ae, Af, Ag⟩ := zC Aa
     go_wp2_with fail
     obtain ⟨F, hF1, hF2⟩ := zQ w1
     have fx_0 := fun u => zE (zA (hF1 u) _ _ _ Aa) 0 _ rfl
     have fx_1 := fun u => zE (zA (hF1 u) _ _ _ Aa) 1 _ rfl
     have fx_2 := fun u => zE (zA (hF1 u) _ _ _ Aa) 2 _ rfl
     have fx_3 := fun u => zE (zA (hF1 u) _ _ _ Aa) 3 _ rfl
     have TF : zS (∀ u, zN (F u)) := zH (fun u => zV TT.out (zO B1 (hF1 u)))
     refine zI F hF2 (by kernel_rfl) (by kernel_rfl) ?_
     repeat first | go_big_quiet_step (first | (go_at_call 111; exact zJ hF1 hF2 (zZ _)) | (go_at_call_of 197 (Value.string s); exact zJ hF1 hF2 (qF n s true HS.out LN.out HP.out _ (TF.out _))) | (go_at_call_of 197 (Value.string t); exact zJ hF1 hF2 (qF d t true HT.out LD.out HQ.out _ (TF.out _))) | (go_at_call 198; exact zJ hF1 hF2 (apartx n d s t false HS.out HT.out LN.out LD.out HO.out _)) | fail) | quiet_step (first | (go_at_call 111; exact zJ hF1 hF2 (zZ _)) | (go_at_call_of 197 (Value.string s); exact zJ hF1 hF2 (qF n s true HS.out LN.out HP.out _ (TF.out _))) | (go_at_call_of 197 (Value.string t); exact zJ hF1 hF2 (qF d t true HT.out LD.out HQ.out _ (TF.out _))) | (go_at_call 198; exact zJ hF1 hF2 (apartx n d s t false HS.out HT.out LN.out LD.out HO.out _)) | fail)
     refine wpQuiet_nil ?_
     rintro _ ⟨uW, rfl⟩
     have B2 := zO B1 (hF1 uW)
     have Ac := zA (hF1 uW) _ _ _ Aa
     obtain ⟨w2, hw⟩ : ∃ V, F uW = V := ⟨_, rfl⟩
     rw [hw] at B2 Ac
     try rw [hw]
     clear hw hF1 hF2 B1 fx_0 fx_1 fx_2 fx_3 Aa Ad Ae Af Ag
     clear TF
     clear F
     obtain ⟨Ah, Ai, Aj, Ak⟩ := zC Ac
     go_wp2
     go_ret
     exact ⟨rfl, B2⟩
    ·
     obtain ⟨Ab, B0⟩ := yO w (Obj.cells #[.bool false, .string s, .string t, .int .i64 e] 41)
     go_enter Tryz.func110, Tryz.ntmps110
     go_wp2_with fail
     refine (yN _ true H1.out _).mono ?_
     rintro r w' ⟨rfl, rfl⟩
     go_wp2_with fail
     refine (yN t true H2.out _).mono ?_
     rintro r w' ⟨rfl, rfl⟩
     go_wp2_with fail
     refine (yR e 1048576 true (by decide) (by decide) HG.out _).mono ?_
     rintro r w1 ⟨rfl, b1⟩
     have B1 := zO B0 b1
     have Aa := zA b1 _ _ _ Ab
     clear b1 B0 Ab
     obtain ⟨Ad, Ae, Af, Ag⟩ := zC Aa
     go_wp2_with fail
     obtain ⟨F, hF1, hF2⟩ := zQ w1
     have fx_0 := fun u => zE (zA (hF1 u) _ _ _ Aa) 0 _ rfl
     have fx_1 := fun u => zE (zA (hF1 u) _ _ _ Aa) 1 _ rfl
     have fx_2 := fun u => zE (zA (hF1 u) _ _ _ Aa) 2 _ rfl
     have fx_3 := fun u => zE (zA (hF1 u) _ _ _ Aa) 3 _ rfl
     have TF : zS (∀ u, zN (F u)) := zH (fun u => zV TT.out (zO B1 (hF1 u)))
     refine zI F hF2 (by kernel_rfl) (by kernel_rfl) ?_
     repeat first | go_big_quiet_step (first | (go_at_call 111; exact zJ hF1 hF2 (zZ _)) | (go_at_call_of 197 (Value.string s); exact zJ hF1 hF2 (qF n s true HS.out LN.out HP.out _ (TF.out _))) | (go_at_call_of 197 (Value.string t); exact zJ hF1 hF2 (qF d t true HT.out LD.out HQ.out _ (TF.out _))) | (go_at_call 198; exact zJ hF1 hF2 (apartx n d s t true HS.out HT.out LN.out LD.out HO.out _)) | fail) | quiet_step (first | (go_at_call 111; exact zJ hF1 hF2 (zZ _)) | (go_at_call_of 197 (Value.string s); exact zJ hF1 hF2 (qF n s true HS.out LN.out HP.out _ (TF.out _))) | (go_at_call_of 197 (Value.string t); exact zJ hF1 hF2 (qF d t true HT.out LD.out HQ.out _ (TF.out _))) | (go_at_call 198; exact zJ hF1 hF2 (apartx n d s t true HS.out HT.out LN.out LD.out HO.out _)) | fail)
     refine wpQuiet_nil ?_
     rintro _ ⟨uW, rfl⟩
     have B2 := zO B1 (hF1 uW)
     have Ac := zA (hF1 uW) _ _ _ Aa
     obtain ⟨w2, hw⟩ : ∃ V, F uW = V := ⟨_, rfl⟩
     rw [hw] at B2 Ac
     try rw [hw]
     clear hw hF1 hF2 B1 fx_0 fx_1 fx_2 fx_3 Aa Ad Ae Af Ag
     clear TF
     clear F
     obtain ⟨Ah, Ai, Aj, Ak⟩ := zC Ac
     go_wp2
     go_ret
     exact ⟨rfl, B2⟩
   ·
    cases o
    ·
     obtain ⟨Ab, B0⟩ := yO w (Obj.cells #[.bool true, .string s, .string t, .int .i64 e] 41)
     go_enter Tryz.func110, Tryz.ntmps110
     go_wp2_with fail
     refine (yN _ true H1.out _).mono ?_
     rintro r w' ⟨rfl, rfl⟩
     go_wp2_with fail
     refine (yN t true H2.out _).mono ?_
     rintro r w' ⟨rfl, rfl⟩
     go_wp2_with fail
     refine (yR e 1048576 true (by decide) (by decide) HG.out _).mono ?_
     rintro r w1 ⟨rfl, b1⟩
     have B1 := zO B0 b1
     have Aa := zA b1 _ _ _ Ab
     clear b1 B0 Ab
     obtain ⟨Ad, Ae, Af, Ag⟩ := zC Aa
     go_wp2_with fail
     obtain ⟨F, hF1, hF2⟩ := zQ w1
     have fx_0 := fun u => zE (zA (hF1 u) _ _ _ Aa) 0 _ rfl
     have fx_1 := fun u => zE (zA (hF1 u) _ _ _ Aa) 1 _ rfl
     have fx_2 := fun u => zE (zA (hF1 u) _ _ _ Aa) 2 _ rfl
     have fx_3 := fun u => zE (zA (hF1 u) _ _ _ Aa) 3 _ rfl
     have TF : zS (∀ u, zN (F u)) := zH (fun u => zV TT.out (zO B1 (hF1 u)))
     refine zI F hF2 (by kernel_rfl) (by kernel_rfl) ?_
     repeat first | go_big_quiet_step (first | (go_at_call 111; exact zJ hF1 hF2 (zZ _)) | (go_at_call_of 197 (Value.string s); exact zJ hF1 hF2 (qF n s true HS.out LN.out HP.out _ (TF.out _))) | (go_at_call_of 197 (Value.string t); exact zJ hF1 hF2 (qF d t true HT.out LD.out HQ.out _ (TF.out _))) | (go_at_call 198; exact zJ hF1 hF2 (apartx n d s t false HS.out HT.out LN.out LD.out HO.out _)) | fail) | quiet_step (first | (go_at_call 111; exact zJ hF1 hF2 (zZ _)) | (go_at_call_of 197 (Value.string s); exact zJ hF1 hF2 (qF n s true HS.out LN.out HP.out _ (TF.out _))) | (go_at_call_of 197 (Value.string t); exact zJ hF1 hF2 (qF d t true HT.out LD.out HQ.out _ (TF.out _))) | (go_at_call 198; exact zJ hF1 hF2 (apartx n d s t false HS.out HT.out LN.out LD.out HO.out _)) | fail)
     refine wpQuiet_nil ?_
     rintro _ ⟨uW, rfl⟩
     have B2 := zO B1 (hF1 uW)
     have Ac := zA (hF1 uW) _ _ _ Aa
     obtain ⟨w2, hw⟩ : ∃ V, F uW = V := ⟨_, rfl⟩
     rw [hw] at B2 Ac
     try rw [hw]
     clear hw hF1 hF2 B1 fx_0 fx_1 fx_2 fx_3 Aa Ad Ae Af Ag
     clear TF
     clear F
     obtain ⟨Ah, Ai, Aj, Ak⟩ := zC Ac
     go_wp2
     go_ret
     exact ⟨rfl, B2⟩
    ·
     obtain ⟨Ab, B0⟩ := yO w (Obj.cells #[.bool true, .string s, .string t, .int .i64 e] 41)
     go_enter Tryz.func110, Tryz.ntmps110
     go_wp2_with fail
     refine (yN _ true H1.out _).mono ?_
     rintro r w' ⟨rfl, rfl⟩
     go_wp2_with fail
     refine (yN t true H2.out _).mono ?_
     rintro r w' ⟨rfl, rfl⟩
     go_wp2_with fail
     refine (yR e 1048576 true (by decide) (by decide) HG.out _).mono ?_
     rintro r w1 ⟨rfl, b1⟩
     have B1 := zO B0 b1
     have Aa := zA b1 _ _ _ Ab
     clear b1 B0 Ab
     obtain ⟨Ad, Ae, Af, Ag⟩ := zC Aa
     go_wp2_with fail
     obtain ⟨F, hF1, hF2⟩ := zQ w1
     have fx_0 := fun u => zE (zA (hF1 u) _ _ _ Aa) 0 _ rfl
     have fx_1 := fun u => zE (zA (hF1 u) _ _ _ Aa) 1 _ rfl
     have fx_2 := fun u => zE (zA (hF1 u) _ _ _ Aa) 2 _ rfl
     have fx_3 := fun u => zE (zA (hF1 u) _ _ _ Aa) 3 _ rfl
     have TF : zS (∀ u, zN (F u)) := zH (fun u => zV TT.out (zO B1 (hF1 u)))
     refine zI F hF2 (by kernel_rfl) (by kernel_rfl) ?_
     repeat first | go_big_quiet_step (first | (go_at_call 111; exact zJ hF1 hF2 (zZ _)) | (go_at_call_of 197 (Value.string s); exact zJ hF1 hF2 (qF n s true HS.out LN.out HP.out _ (TF.out _))) | (go_at_call_of 197 (Value.string t); exact zJ hF1 hF2 (qF d t true HT.out LD.out HQ.out _ (TF.out _))) | (go_at_call 198; exact zJ hF1 hF2 (apartx n d s t true HS.out HT.out LN.out LD.out HO.out _)) | fail) | quiet_step (first | (go_at_call 111; exact zJ hF1 hF2 (zZ _)) | (go_at_call_of 197 (Value.string s); exact zJ hF1 hF2 (qF n s true HS.out LN.out HP.out _ (TF.out _))) | (go_at_call_of 197 (Value.string t); exact zJ hF1 hF2 (qF d t true HT.out LD.out HQ.out _ (TF.out _))) | (go_at_call 198; exact zJ hF1 hF2 (apartx n d s t true HS.out HT.out LN.out LD.out HO.out _)) | fail)
     refine wpQuiet_nil ?_
     rintro _ ⟨uW, rfl⟩
     have B2 := zO B1 (hF1 uW)
     have Ac := zA (hF1 uW) _ _ _ Aa
     obtain ⟨w2, hw⟩ : ∃ V, F uW = V := ⟨_, rfl⟩
     rw [hw] at B2 Ac
     try rw [hw]
     clear hw hF1 hF2 B1 fx_0 fx_1 fx_2 fx_3 Aa Ad Ae Af Ag
     clear TF
     clear F
     obtain ⟨Ah, Ai, Aj, Ak⟩ := zC Ac
     go_wp2
     go_ret
     exact ⟨rfl, B2⟩

theorem xmay1 (b : Bool) (s t : ByteArray) (e : Int) (o : Bool) (hm : IsM o b s t e) (T : TypeId) (w : World) (g : Nat) (hg : w.heap.size = g) (hT : zN w) :
  Calls Tryz.prog 46 #[.slice (some ⟨g, 0, none⟩) 1 1] (w.alloc (.cells #[.bool b, .string s, .string t, .int .i64 e] T)) fun r w' => r = .returned (.bool o) ∧ Below w.heap.size w w' := by
 obtain ⟨W, hW⟩ : ∃ W, w.alloc (.cells #[.bool b, .string s, .string t, .int .i64 e] T) = W := ⟨_, rfl⟩
 have row : W.heap[g]? = some (.cells #[.bool b, .string s, .string t, .int .i64 e] T) := by rw [← hW, ← hg]; exact heap_alloc_last _ _
 have B0 : Below w.heap.size w W := by rw [← hW]; exact yK _ _
 have TT : zS (zN W) := zH (zV hT B0)
 have ho : o = true ↔ MayX b s t e := hm
 have HO := zH ho
 rw [hW]
 rw [hg] at B0 ⊢
 clear hW hT ho hm
 go_enter Tryz.func46, Tryz.ntmps46
 go_wp2
 go_loopw [7] (fun iv wr => (iv = .int .i64 0 ∧ wr = W) ∨ (iv = .int .i64 1 ∧ Below g w wr ∧ o = true)) (fun iv _ => 2 - (intOf iv).toNat)
 case atStart => exact Or.inl ⟨rfl, rfl⟩
 case round =>
  rcases hrel with ⟨rfl, rfl⟩ | ⟨rfl, bw, rfl⟩
  ·
   have c0 := zE row 0 _ rfl
   have c1 := zE row 1 _ rfl
   have c2 := zE row 2 _ rfl
   have c3 := zE row 3 _ rfl
   have TA : zS (zN (wr.alloc (.cells #[.bool b, .string s, .string t, .int .i64 e] 41))) := zH (tabA TT.out _)
   have BA : Below g w (wr.alloc (.cells #[.bool b, .string s, .string t, .int .i64 e] 41)) := by subst hg; exact zO B0 (yK _ _)
   clear row
   cases o
   ·
    go_wp2_with fail
    refine (xcheck b s t e false (by first | exact HO.out | simpa using HO.out) _ TA.out).mono ?_
    rintro r w1 ⟨rfl, b1⟩
    go_wp2
    go_ret
    exact ⟨rfl, by subst hg; exact zO BA b1⟩
   ·
    go_wp2_with fail
    refine (xcheck b s t e true (by first | exact HO.out | simpa using HO.out) _ TA.out).mono ?_
    rintro r w1 ⟨rfl, b1⟩
    go_wp2
    go_roundw
    case rel => exact Or.inr ⟨by go_num, by subst hg; exact zO BA b1, by trivial⟩
    case measure => simp [intOf]
  ·
   go_wp2
   go_ret
   exact ⟨rfl, bw⟩

theorem xmay2 (b : Bool) (s t : ByteArray) (e : Int) (c : Bool) (u v : ByteArray) (f : Int) (o1 o2 o : Bool) (m1 : IsM o1 b s t e) (m2 : IsM o2 c u v f) (ho : (o1 && o2) = o) (T : TypeId) (w : World) (g : Nat) (hg : w.heap.size = g) (hT : zN w) :
  Calls Tryz.prog 46 #[.slice (some ⟨g, 0, none⟩) 2 2] (w.alloc (.cells #[.bool b, .string s, .string t, .int .i64 e, .bool c, .string u, .string v, .int .i64 f] T)) fun r w' => r = .returned (.bool o) ∧ Below w.heap.size w w' := by
 obtain ⟨W, hW⟩ : ∃ W, w.alloc (.cells #[.bool b, .string s, .string t, .int .i64 e, .bool c, .string u, .string v, .int .i64 f] T) = W := ⟨_, rfl⟩
 have row : W.heap[g]? = some (.cells #[.bool b, .string s, .string t, .int .i64 e, .bool c, .string u, .string v, .int .i64 f] T) := by rw [← hW, ← hg]; exact heap_alloc_last _ _
 have B0 : Below w.heap.size w W := by rw [← hW]; exact yK _ _
 have TT : zS (zN W) := zH (zV hT B0)
 have h1 : o1 = true ↔ MayX b s t e := m1
 have h2 : o2 = true ↔ MayX c u v f := m2
 have H1 := zH h1
 have H2 := zH h2
 rw [hW]
 rw [hg] at B0 ⊢
 clear hW hT h1 h2 m1 m2
 go_enter Tryz.func46, Tryz.ntmps46
 go_wp2
 go_loopw [7] (fun iv wr => (iv = .int .i64 0 ∧ wr = W) ∨ (iv = .int .i64 1 ∧ Below W.heap.size W wr ∧ o1 = true) ∨ (iv = .int .i64 2 ∧ Below W.heap.size W wr ∧ o = true)) (fun iv _ => 3 - (intOf iv).toNat)
 case atStart => exact Or.inl ⟨rfl, rfl⟩
 case round =>
  rcases hrel with ⟨rfl, rfl⟩ | ⟨rfl, bw, rfl⟩ | ⟨rfl, bw, rfl⟩
  ·
   have c0 := zE row 0 _ rfl
   have c1 := zE row 1 _ rfl
   have c2 := zE row 2 _ rfl
   have c3 := zE row 3 _ rfl
   have TA : zS (zN (wr.alloc (.cells #[.bool b, .string s, .string t, .int .i64 e] 41))) := zH (tabA TT.out _)
   have BA := yK wr (.cells #[.bool b, .string s, .string t, .int .i64 e] 41)
   clear row
   cases o1
   ·
    obtain rfl : false = o := by simpa using ho
    go_wp2_with fail
    refine (xcheck b s t e false (by first | exact H1.out | simpa using H1.out) _ TA.out).mono ?_
    rintro r w1 ⟨rfl, b1⟩
    go_wp2
    go_ret
    exact ⟨rfl, by subst hg; exact zO B0 (zO BA b1)⟩
   ·
    go_wp2_with fail
    refine (xcheck b s t e true (by first | exact H1.out | simpa using H1.out) _ TA.out).mono ?_
    rintro r w1 ⟨rfl, b1⟩
    go_wp2
    go_roundw
    case rel => exact Or.inr (Or.inl ⟨by go_num, zO BA b1, by trivial⟩)
    case measure => simp [intOf]
  ·
   have row2 := zA bw _ _ _ row
   have c0 := zE row2 4 _ rfl
   have c1 := zE row2 5 _ rfl
   have c2 := zE row2 6 _ rfl
   have c3 := zE row2 7 _ rfl
   have TA : zS (zN (wr.alloc (.cells #[.bool c, .string u, .string v, .int .i64 f] 41))) := zH (tabA (zV TT.out bw) _)
   have BA := yK wr (.cells #[.bool c, .string u, .string v, .int .i64 f] 41)
   obtain rfl : o2 = o := by simpa using ho
   clear row row2 ho
   cases o2
   ·
    go_wp2_with fail
    refine (xcheck c u v f false (by first | exact H2.out | simpa using H2.out) _ TA.out).mono ?_
    rintro r w1 ⟨rfl, b1⟩
    go_wp2
    go_ret
    exact ⟨rfl, by subst hg; exact zO B0 (zO bw (zO BA b1))⟩
   ·
    go_wp2_with fail
    refine (xcheck c u v f true (by first | exact H2.out | simpa using H2.out) _ TA.out).mono ?_
    rintro r w1 ⟨rfl, b1⟩
    go_wp2
    go_roundw
    case rel => exact Or.inr (Or.inr ⟨by go_num, zO bw (zO BA b1), by trivial⟩)
    case measure => simp [intOf]
  ·
   go_wp2
   go_ret
   exact ⟨rfl, by subst hg; exact zO B0 bw⟩
theorem cut_same {G C : Prop} (h : G → C) (k : G) : C := h k
theorem tabD {w : World} (h : zN w) : zN w.drew := h
theorem xmay1d (b : Bool) (s t : ByteArray) (e : Int) (o : Bool) (hm : IsM o b s t e) (T : TypeId) (w : World) (g : Nat) (hg : w.heap.size = g) (hT : zN w) :
  Calls Tryz.prog 46 #[.slice (some ⟨g, 0, none⟩) 1 1] (w.alloc (.cells #[.bool b, .string s, .string t, .int .i64 e] T)).drew fun r w' => r = .returned (.bool o) ∧ Below w.heap.size w w' :=
 (xmay1 b s t e o hm T w.drew g hg (tabD hT)).mono fun _ _ ⟨h1, h2⟩ => ⟨h1, ((Below.refl w.heap.size w).drew).trans h2⟩
theorem xmayM (b : Bool) (s t : ByteArray) (e : Int) (o : Bool) (ho : IsM o b s t e) (w : World) : Calls Tryz.prog 14 #[.agg #[.bool b, .string s, .string t, .int .i64 e]] w fun r w' => r = .returned (.bool o) ∧ Below w.heap.size w w' := xmay b s t e o ho w
theorem xcheckM (b : Bool) (s t : ByteArray) (e : Int) (o : Bool) (ho : IsM o b s t e) (c : Int) (hc : (if o then 0 else 2) = c) (w : World) (hT : zN w) : Calls Tryz.prog 110 #[.agg #[.bool b, .string s, .string t, .int .i64 e]] w fun r w' => r = .returned (.int .i64 c) ∧ Below w.heap.size w w' := by
 subst hc
 exact xcheck b s t e o ho w hT
theorem twosx (a : Nat) (s v : ByteArray) (hs : yG a = s) (ha : nl a ≤ 16384) (hv : yG (od a) = v) (w : World) (hT : zN w) : Calls Tryz.prog 217 #[.string s] w fun r w' => r = .returned (.string v) ∧ Below w.heap.size w w' := by
 obtain ⟨t, ht⟩ : ∃ t, tz a = t := ⟨_, rfl⟩
 have HL := zH (tz_low a)
 rw [ht] at HL
 have t2 : t ≤ 131072 := by
  have := tz_blen a
  rw [ht] at this
  unfold nl at ha
  omega
 obtain ⟨o, ho⟩ : ∃ o, decide (a % 2 ^ (t : Int).toNat ≠ 0) = o := ⟨_, rfl⟩
 have HV : zS (yG (a / 2 ^ (t : Int).toNat) = v) := zH (by rw [Int.toNat_natCast, ← ht]; exact hv)
 have HO := zH ho
 have HS := zH hs
 have HA := zH ha
 have TT := zH hT
 clear hs ha hv ht ho hT
 have B0 : Below w.heap.size w w := (Below.refl _ _)
 go_enter Tryz.func217, Tryz.ntmps217
 go_wp2_with fail
 refine (pn_low_ok a t s HS.out HA.out HL.out _ (zV TT.out B0)).mono ?_
 rintro r w1 ⟨rfl, b1⟩
 have B1 := zO B0 b1
 clear b1 B0 
 go_wp2_with fail
 refine (pn_right_ok a (t : Int) s v o HS.out HA.out (by omega) (by omega) HV.out HO.out _ (zV TT.out B1)).mono ?_
 rintro r w2 ⟨rfl, b2⟩
 have B2 := zO B1 b2
 clear b2 B1 
 go_wp2
 go_ret
 exact ⟨rfl, B2⟩

theorem shortenx (a b : Nat) (s t u v : ByteArray) (hs : yG a = s) (ht : yG b = t) (ha : nl a ≤ 16384) (hb : nl b ≤ 16384) (a0 : a ≠ 0) (hu : yG (a / Nat.gcd a b) = u) (hv : yG (b / Nat.gcd a b) = v) (w : World) :
  Calls Tryz.prog 216 #[.string s, .string t] w fun r w' => r = .returned (.tuple #[.string u, .string v]) ∧ Below w.heap.size w w' := by
 obtain ⟨g, hg⟩ : ∃ g, Nat.gcd a b = g := ⟨_, rfl⟩
 have g0 : g ≠ 0 := by rw [← hg]; exact Nat.pos_iff_ne_zero.1 (Nat.gcd_pos_of_pos_left _ (by omega))
 have lg : nl g ≤ 16384 := Nat.le_trans (xF _ _ (by rw [← hg]; exact Nat.gcd_le_left _ (by omega))) ha
 obtain ⟨x, hx⟩ : ∃ x, yG g = x := ⟨_, rfl⟩
 obtain ⟨y, hy⟩ : ∃ x, yG (a % g) = x := ⟨_, rfl⟩
 obtain ⟨z, hz⟩ : ∃ x, yG (b % g) = x := ⟨_, rfl⟩
 rw [hg] at hu hv
 have HG : zS (yG (Nat.gcd a b) = x) := zH (by rw [hg]; exact hx)
 have HS := zH hs
 have HT := zH ht
 have HA := zH ha
 have HB := zH hb
 have HU := zH hu
 have HV := zH hv
 have HX := zH hx
 have HY := zH hy
 have HZ := zH hz
 have LG := zH lg
 clear hs ht ha hb hu hv hx hy hz lg hg a0
 have B0 : Below w.heap.size w w := (Below.refl _ _)
 go_enter Tryz.func216, Tryz.ntmps216
 go_wp2_with fail
 refine (pn_gcd_ok a b s t x HS.out HT.out HA.out HB.out HG.out _).mono ?_
 rintro r w1 ⟨rfl, b1⟩
 have B1 := zO B0 b1
 clear b1 B0 
 go_wp2_with fail
 refine (pn_div_ok a g s x u y HS.out HX.out HA.out LG.out g0 HU.out HY.out _).mono ?_
 rintro r w2 ⟨rfl, b2⟩
 have B2 := zO B1 b2
 clear b2 B1 
 go_wp2_with fail
 refine (pn_div_ok b g t x v z HT.out HX.out HB.out LG.out g0 HV.out HZ.out _).mono ?_
 rintro r w3 ⟨rfl, b3⟩
 have B3 := zO B2 b3
 clear b3 B2 
 go_wp2
 go_ret2
 exact ⟨rfl, B3⟩

theorem mk_cases (neg : Bool) (n d : Nat) (e : Int) (rb : Bool) (rn rd : Nat) (re err : Int) (n0 : n ≠ 0) (hr : XMath.mk neg n d e = (⟨rb, rn, rd, re⟩, err)) :
  ((-1048576 ≤ e + (tz n : Int) - (tz d : Int) ∧ e + (tz n : Int) - (tz d : Int) ≤ 1048576) ∧ rb = neg ∧ rn = od n / Nat.gcd (od n) (od d) ∧ rd = od d / Nat.gcd (od n) (od d) ∧ re = e + (tz n : Int) - (tz d : Int) ∧ err = 0) ∨
  (¬ (-1048576 ≤ e + (tz n : Int) - (tz d : Int) ∧ e + (tz n : Int) - (tz d : Int) ≤ 1048576) ∧ rb = false ∧ rn = 0 ∧ rd = 0 ∧ re = 0 ∧ err = 4) := by
 unfold XMath.mk at hr
 rw [if_neg n0] at hr
 by_cases h : -1048576 ≤ e + (tz n : Int) - (tz d : Int) ∧ e + (tz n : Int) - (tz d : Int) ≤ 1048576
 ·
  rw [if_pos h] at hr
  injection hr with h1 h2
  injection h1 with a b c d
  exact Or.inl ⟨h, a.symm, b.symm, c.symm, d.symm, h2.symm⟩
 ·
  rw [if_neg h] at hr
  injection hr with h1 h2
  unfold XZ at h1
  injection h1 with a b c d
  exact Or.inr ⟨h, a.symm, b.symm, c.symm, d.symm, h2.symm⟩

theorem formx (neg : Bool) (n d : Nat) (e : Int) (s t : ByteArray) (rb : Bool) (rn rd : Nat) (re err : Int) (u v : ByteArray) (hs : yG n = s) (ht : yG d = t) (ln : nl n ≤ 16384) (ld : nl d ≤ 16384) (d0 : d ≠ 0) (he1 : -100000000 ≤ e) (he2 : e ≤ 100000000)
  (hr : XMath.mk neg n d e = (⟨rb, rn, rd, re⟩, err)) (hu : yG rn = u) (hv : yG rd = v) (w : World) (hT : zN w) :
  Calls Tryz.prog 134 #[.bool neg, .string s, .string t, .int .i64 e] w fun r w' => r = .returned (.tuple #[.agg #[.bool rb, .string u, .string v, .int .i64 re], .int .i64 err]) ∧ Below w.heap.size w w' := by
 by_cases n0 : n = 0
 ·
  subst n0
  rw [mk_null] at hr
  injection hr with h1 h2
  unfold X0 at h1
  injection h1 with a b c d
  subst a b c d h2
  rw [yM] at hs hu
  rw [nb1] at hv
  subst hs hu hv
  clear ht ln ld
  obtain ⟨Ac, B0⟩ := yO w (Obj.cells #[.bool false, .string ⟨#[]⟩, .string ⟨#[]⟩, .int .i64 0] 41)
  go_enter Tryz.func134, Tryz.ntmps134
  go_wp2_with fail
  refine (zZ _).mono ?_
  rintro r w1 ⟨rfl, b1⟩
  have B1 := zO B0 b1
  have Aa := zA b1 _ _ _ Ac
  clear b1 B0 Ac
  obtain ⟨Af, Ag, Ah, Ai⟩ := zC Aa
  have q0 := fz (k := 0) Aa
  have q1 := fz (k := 1) Aa
  have q2 := fz (k := 2) Aa
  have q3 := fz (k := 3) Aa
  obtain ⟨E0, E1, E2, E3⟩ := yC Aa rfl (.bool false) (.string ⟨#[]⟩) (.string ⟨#[1]⟩) (.int .i64 0)
  go_wp2
  exact bodyPost_ret (v := .tuple #[.agg #[.bool false, .string ⟨#[]⟩, .string ⟨#[1]⟩, .int .i64 0], .int .i64 0]) (by simp [results, Tryz.results134, go_sem, E0, E1, E2, E3]) rfl ⟨rfl, z9 B1 (by first | exact Nat.le_refl _ | omega) _ _ _ _⟩
 ·
  have e0 := eq_nil n s hs n0
  obtain ⟨x, hx⟩ : ∃ x, tz n = x := ⟨_, rfl⟩
  obtain ⟨y, hy⟩ : ∃ x, tz d = x := ⟨_, rfl⟩
  have LX := zH (tz_low n)
  have LY := zH (tz_low d)
  have x2 : x ≤ 131072 := by have := tz_blen n; rw [hx] at this; unfold nl at ln; omega
  have y2 : y ≤ 131072 := by have := tz_blen d; rw [hy] at this; unfold nl at ld; omega
  have hc := mk_cases neg n d e rb rn rd re err n0 hr
  rw [hx, hy] at hc
  rw [hx] at LX
  rw [hy] at LY
  have HS := zH hs
  have HT := zH ht
  have LN := zH ln
  have LD := zH ld
  have TT := zH hT
  obtain ⟨E, hE⟩ : ∃ E, e + (x : Int) - (y : Int) = E := ⟨_, rfl⟩
  rw [hE] at hc
  have k1 : IntKind.i64.wrap ((x : Int) - (y : Int)) = (x : Int) - (y : Int) := zK _ (by omega) (by omega)
  have k2 : IntKind.i64.wrap (e + ((x : Int) - (y : Int))) = E := by rw [zK _ (by omega) (by omega)]; omega
  rcases hc with ⟨hc, rfl, rfl, rfl, rfl, rfl⟩ | ⟨hc, rfl, rfl, rfl, rfl, rfl⟩
  ·
   have HG : zS ((decide (-1048576 ≤ re) && decide (re ≤ 1048576)) = true) := zH (by rw [decide_eq_true hc.1, decide_eq_true hc.2]; rfl)
   obtain ⟨o1, o2⟩ := od_is n n0
   obtain ⟨o3, o4⟩ := od_is d d0
   obtain ⟨p, hp⟩ : ∃ p, yG (od n) = p := ⟨_, rfl⟩
   obtain ⟨q, hq⟩ : ∃ p, yG (od d) = p := ⟨_, rfl⟩
   have HP := zH hp
   have HQ := zH hq
   have HU := zH hu
   have HV := zH hv
   have L1 : zS (nl (od n) ≤ 16384) := zH (Nat.le_trans (xF _ _ (od_le n)) ln)
   have L2 : zS (nl (od d) ≤ 16384) := zH (Nat.le_trans (xF _ _ (od_le d)) ld)
   have Z : zS (od n ≠ 0) := zH (by omega)
   clear hs ht ln ld hT hr hx hy hE hc o1 o2 o3 o4 hp hq hu hv n0 d0
   obtain ⟨Ac, B0⟩ := yO w (Obj.cells #[.bool false, .string ⟨#[]⟩, .string ⟨#[]⟩, .int .i64 0] 41)
   go_enter Tryz.func134, Tryz.ntmps134
   go_wp2_with fail
   refine (pn_low_ok n x s HS.out LN.out LX.out _ (zV TT.out B0)).mono ?_
   rintro r w1 ⟨rfl, b1⟩
   have B1 := zO B0 b1
   have Aa := zA b1 _ _ _ Ac
   clear b1 B0 Ac
   obtain ⟨Af, Ag, Ah, Ai⟩ := zC Aa
   go_wp2_with fail
   refine (pn_low_ok d y t HT.out LD.out LY.out _ (zV TT.out B1)).mono ?_
   rintro r w2 ⟨rfl, b2⟩
   have B2 := zO B1 b2
   have Ad := zA b2 _ _ _ Aa
   clear b2 B1 Aa Af Ag Ah Ai
   obtain ⟨Aj, Ak, Al, Am⟩ := zC Ad
   go_wp2_with fail
   refine (yR re 1048576 true (by decide) (by decide) HG.out _).mono ?_
   rintro r w3 ⟨rfl, b3⟩
   have B3 := zO B2 b3
   have Ab := zA b3 _ _ _ Ad
   clear b3 B2 Ad Aj Ak Al Am
   obtain ⟨Ap, Aq, Ar, As⟩ := zC Ab
   go_wp2_with fail
   refine (twosx n s p HS.out LN.out HP.out _ (zV TT.out B3)).mono ?_
   rintro r w4 ⟨rfl, b4⟩
   have B4 := zO B3 b4
   have An := zA b4 _ _ _ Ab
   clear b4 B3 Ab Ap Aq Ar As
   obtain ⟨At, Au, Av, Aw⟩ := zC An
   go_wp2_with fail
   refine (twosx d t q HT.out LD.out HQ.out _ (zV TT.out B4)).mono ?_
   rintro r w5 ⟨rfl, b5⟩
   have B5 := zO B4 b5
   have Ao := zA b5 _ _ _ An
   clear b5 B4 An At Au Av Aw
   obtain ⟨Ax, Ay, Az, AA⟩ := zC Ao
   go_wp2_with fail
   refine (shortenx (od n) (od d) p q u v HP.out HQ.out L1.out L2.out Z.out HU.out HV.out _).mono ?_
   rintro r w6 ⟨rfl, b6⟩
   have B6 := zO B5 b6
   have Ae := zA b6 _ _ _ Ao
   clear b6 B5 Ao Ax Ay Az AA
   obtain ⟨AB, AC, AD, AE⟩ := zC Ae
   have q0 := fz (k := 0) Ae
   have q1 := fz (k := 1) Ae
   have q2 := fz (k := 2) Ae
   have q3 := fz (k := 3) Ae
   obtain ⟨E0, E1, E2, E3⟩ := yC Ae rfl (.bool rb) (.string u) (.string v) (.int .i64 re)
   go_wp2
   exact bodyPost_ret (v := .tuple #[.agg #[.bool rb, .string u, .string v, .int .i64 re], .int .i64 0]) (by simp [results, Tryz.results134, go_sem, E0, E1, E2, E3]) rfl ⟨rfl, z9 B6 (by first | exact Nat.le_refl _ | omega) _ _ _ _⟩
  ·
   have HG : zS ((decide (-1048576 ≤ E) && decide (E ≤ 1048576)) = false) := zH (by
    rw [Bool.eq_false_iff]
    intro h
    exact hc (by simpa using h))
   rw [yM] at hu hv
   subst hu hv
   clear hs ht ln ld hT hr hx hy hE hc n0 d0
   obtain ⟨Ac, B0⟩ := yO w (Obj.cells #[.bool false, .string ⟨#[]⟩, .string ⟨#[]⟩, .int .i64 0] 41)
   go_enter Tryz.func134, Tryz.ntmps134
   go_wp2_with fail
   refine (pn_low_ok n x s HS.out LN.out LX.out _ (zV TT.out B0)).mono ?_
   rintro r w1 ⟨rfl, b1⟩
   have B1 := zO B0 b1
   have Aa := zA b1 _ _ _ Ac
   clear b1 B0 Ac
   obtain ⟨Af, Ag, Ah, Ai⟩ := zC Aa
   go_wp2_with fail
   refine (pn_low_ok d y t HT.out LD.out LY.out _ (zV TT.out B1)).mono ?_
   rintro r w2 ⟨rfl, b2⟩
   have B2 := zO B1 b2
   have Ad := zA b2 _ _ _ Aa
   clear b2 B1 Aa Af Ag Ah Ai
   obtain ⟨Aj, Ak, Al, Am⟩ := zC Ad
   go_wp2_with fail
   refine (yR E 1048576 false (by decide) (by decide) HG.out _).mono ?_
   rintro r w3 ⟨rfl, b3⟩
   have B3 := zO B2 b3
   have Ab := zA b3 _ _ _ Ad
   clear b3 B2 Ad Aj Ak Al Am
   obtain ⟨Ap, Aq, Ar, As⟩ := zC Ab
   have q0 := fz (k := 0) Ab
   have q1 := fz (k := 1) Ab
   have q2 := fz (k := 2) Ab
   have q3 := fz (k := 3) Ab
   obtain ⟨E0, E1, E2, E3⟩ := yC Ab rfl (.bool false) (.string ⟨#[]⟩) (.string ⟨#[]⟩) (.int .i64 0)
   go_wp2
   exact bodyPost_ret (v := .tuple #[.agg #[.bool false, .string ⟨#[]⟩, .string ⟨#[]⟩, .int .i64 0], .int .i64 4]) (by simp [results, Tryz.results134, go_sem, E0, E1, E2, E3]) rfl ⟨rfl, z9 B3 (by first | exact Nat.le_refl _ | omega) _ _ _ _⟩
theorem qQ {b : Bool} {n d : Nat} {s t : ByteArray} {e : Int} (hs : yG n = s) (ht : yG d = t) (hc : (XN.mk b n d e).can) : IsM true b s t e := ⟨fun _ => ⟨n, d, hs, ht, hc⟩, fun _ => rfl⟩
theorem can_null {b : Bool} {n d : Nat} {e : Int} (hc : (XN.mk b n d e).can) (h0 : n = 0) : b = false ∧ d = 1 ∧ e = 0 := by
 have h := hc.null h0
 unfold X0 at h
 injection h with h1 h2 h3 h4
 exact ⟨h1, h3, h4⟩

theorem xz_is {rb : Bool} {rn rd : Nat} {re err : Int} (h : ((XZ, 4) : XN × Int) = (⟨rb, rn, rd, re⟩, err)) : rb = false ∧ rn = 0 ∧ rd = 0 ∧ re = 0 ∧ err = 4 := by
 injection h with h1 h2
 unfold XZ at h1
 injection h1 with a b c d
 exact ⟨a.symm, b.symm, c.symm, d.symm, h2.symm⟩

theorem x_cases {b : Bool} {n d : Nat} {e : Int} {s t : ByteArray} (hs : yG n = s) (ht : yG d = t) (hc : (XN.mk b n d e).can) : (n = 0 ∧ b = false ∧ s = ⟨#[]⟩ ∧ t = ⟨#[1]⟩ ∧ d = 1 ∧ e = 0) ∨ (n ≠ 0 ∧ (s.toList == []) = false) := by
 by_cases h0 : n = 0
 ·
  obtain ⟨h1, h2, h3⟩ := can_null hc h0
  subst h0 h2
  exact Or.inl ⟨rfl, h1, by rw [← hs, yM], by rw [← ht, nb1], rfl, h3⟩
 ·
  exact Or.inr ⟨h0, eq_nil n s hs h0⟩

theorem makex_ok (neg : Bool) (n d : Nat) (e : Int) (s t : ByteArray) (rb : Bool) (rn rd : Nat) (re err : Int) (u v : ByteArray) (hs : yG n = s) (ht : yG d = t) (ln : nl n ≤ 16384) (ld : nl d ≤ 16384) (d0 : d ≠ 0) (he1 : -1048576 ≤ e) (he2 : e ≤ 1048576)
  (hr : XMath.mk neg n d e = (⟨rb, rn, rd, re⟩, err)) (hu : yG rn = u) (hv : yG rd = v) (w : World) (hT : zN w) :
  Calls Tryz.prog 130 #[.bool neg, .string s, .string t, .int .i64 e] w fun r w' => r = .returned (.tuple #[.agg #[.bool rb, .string u, .string v, .int .i64 re], .int .i64 err]) ∧ Below w.heap.size w w' := by
 have e0 := eq_nil d t ht d0
 have H1 : zS (qB s = true) := zH (by rw [← hs]; exact qR n ln)
 have H2 : zS (qB t = true) := zH (by rw [← ht]; exact qR d ld)
 have HG : zS ((decide (-1048576 ≤ e) && decide (e ≤ 1048576)) = true) := zH (by rw [decide_eq_true he1, decide_eq_true he2]; rfl)
 have HF := zH (fun w hT => formx neg n d e s t rb rn rd re err u v hs ht ln ld d0 (by omega) (by omega) hr hu hv w hT)
 have TT := zH hT
 clear hs ht ln ld d0 he1 he2 hr hu hv hT
 obtain ⟨Ac, B0⟩ := yO w (Obj.cells #[.bool false, .string ⟨#[]⟩, .string ⟨#[]⟩, .int .i64 0] 41)
 go_enter Tryz.func130, Tryz.ntmps130
 go_wp2_with fail
 refine (yN s true H1.out _).mono ?_
 rintro r w' ⟨rfl, rfl⟩
 go_wp2_with fail
 refine (yN t true H2.out _).mono ?_
 rintro r w' ⟨rfl, rfl⟩
 go_wp2_with fail
 refine (yR e 1048576 true (by decide) (by decide) HG.out _).mono ?_
 rintro r w1 ⟨rfl, b1⟩
 have B1 := zO B0 b1
 have Ab := zA b1 _ _ _ Ac
 clear b1 B0 Ac
 obtain ⟨Ad, Ae, Af, Ag⟩ := zC Ab
 go_wp2_with fail
 refine (HF.out _ (zV TT.out B1)).mono ?_
 rintro r w2 ⟨rfl, b2⟩
 have B2 := zO B1 b2
 have Aa := zA b2 _ _ _ Ab
 clear b2 B1 Ab Ad Ae Af Ag
 obtain ⟨Ah, Ai, Aj, Ak⟩ := zC Aa
 have q0 := fz (k := 0) Aa
 have q1 := fz (k := 1) Aa
 have q2 := fz (k := 2) Aa
 have q3 := fz (k := 3) Aa
 obtain ⟨E0, E1, E2, E3⟩ := yC Aa rfl (.bool rb) (.string u) (.string v) (.int .i64 re)
 go_wp2
 exact bodyPost_ret (v := .tuple #[.agg #[.bool rb, .string u, .string v, .int .i64 re], .int .i64 err]) (by simp [results, Tryz.results130, go_sem, E0, E1, E2, E3]) rfl ⟨rfl, z9 B2 (by first | exact Nat.le_refl _ | omega) _ _ _ _⟩

theorem signx (b : Bool) (n d : Nat) (e : Int) (s t : ByteArray) (c : Int) (hs : yG n = s) (ht : yG d = t) (hc : (XN.mk b n d e).can) (hr : sg (XN.mk b n d e) = c) (w : World) : Calls Tryz.prog 47 #[.agg #[.bool b, .string s, .string t, .int .i64 e]] w fun r w' => r = .returned (.int .i64 c) ∧ Below w.heap.size w w' := by
 by_cases h0 : n = 0
 ·
  obtain ⟨rfl, rfl, rfl⟩ := can_null hc h0
  subst h0
  rw [yM] at hs
  rw [nb1] at ht
  subst hs ht
  have ec : c = 0 := by rw [← hr]; rfl
  subst ec
  clear hr hc
  obtain ⟨Aa, B0⟩ := yO w (Obj.cells #[.bool false, .string ⟨#[]⟩, .string ⟨#[1]⟩, .int .i64 0] 41)
  go_enter Tryz.func47, Tryz.ntmps47
  go_wp2_with fail
  obtain ⟨F, hF1, hF2⟩ := zQ (w.alloc (Obj.cells #[.bool false, .string ⟨#[]⟩, .string ⟨#[1]⟩, .int .i64 0] 41))
  have fx_0 := fun u => zE (zA (hF1 u) _ _ _ Aa) 0 _ rfl
  have fx_1 := fun u => zE (zA (hF1 u) _ _ _ Aa) 1 _ rfl
  have fx_2 := fun u => zE (zA (hF1 u) _ _ _ Aa) 2 _ rfl
  have fx_3 := fun u => zE (zA (hF1 u) _ _ _ Aa) 3 _ rfl
  refine zI F hF2 (by kernel_rfl) (by kernel_rfl) ?_
  repeat first | go_big_quiet_step (first | (go_at_call 111; exact zJ hF1 hF2 (zZ _)) | fail) | quiet_step (first | (go_at_call 111; exact zJ hF1 hF2 (zZ _)) | fail)
  refine wpQuiet_nil ?_
  rintro _ ⟨uW, rfl⟩
  have B1 := zO B0 (hF1 uW)
  have Ab := zA (hF1 uW) _ _ _ Aa
  obtain ⟨w1, hw⟩ : ∃ V, F uW = V := ⟨_, rfl⟩
  rw [hw] at B1 Ab
  try rw [hw]
  clear hw hF1 hF2 B0 fx_0 fx_1 fx_2 fx_3 Aa
  clear F
  obtain ⟨Ac, Ad, Ae, Af⟩ := zC Ab
  go_wp2
  go_ret
  exact ⟨rfl, B1⟩
 ·
  have e0 := eq_nil n s hs h0
  cases b
  ·
   have ec : c = 1 := by rw [← hr]; unfold sg; rw [if_neg h0]; rfl
   subst ec
   clear hr hc hs ht h0
   obtain ⟨Aa, B0⟩ := yO w (Obj.cells #[.bool false, .string s, .string t, .int .i64 e] 41)
   go_enter Tryz.func47, Tryz.ntmps47
   go_wp2_with fail
   obtain ⟨F, hF1, hF2⟩ := zQ (w.alloc (Obj.cells #[.bool false, .string s, .string t, .int .i64 e] 41))
   have fx_0 := fun u => zE (zA (hF1 u) _ _ _ Aa) 0 _ rfl
   have fx_1 := fun u => zE (zA (hF1 u) _ _ _ Aa) 1 _ rfl
   have fx_2 := fun u => zE (zA (hF1 u) _ _ _ Aa) 2 _ rfl
   have fx_3 := fun u => zE (zA (hF1 u) _ _ _ Aa) 3 _ rfl
   refine zI F hF2 (by kernel_rfl) (by kernel_rfl) ?_
   repeat first | go_big_quiet_step (first | (go_at_call 111; exact zJ hF1 hF2 (zZ _)) | fail) | quiet_step (first | (go_at_call 111; exact zJ hF1 hF2 (zZ _)) | fail)
   refine wpQuiet_nil ?_
   rintro _ ⟨uW, rfl⟩
   have B1 := zO B0 (hF1 uW)
   have Ab := zA (hF1 uW) _ _ _ Aa
   obtain ⟨w1, hw⟩ : ∃ V, F uW = V := ⟨_, rfl⟩
   rw [hw] at B1 Ab
   try rw [hw]
   clear hw hF1 hF2 B0 fx_0 fx_1 fx_2 fx_3 Aa
   clear F
   obtain ⟨Ac, Ad, Ae, Af⟩ := zC Ab
   go_wp2
   go_ret
   exact ⟨rfl, B1⟩
  ·
   have ec : c = -1 := by rw [← hr]; unfold sg; rw [if_neg h0]; rfl
   subst ec
   clear hr hc hs ht h0
   obtain ⟨Aa, B0⟩ := yO w (Obj.cells #[.bool true, .string s, .string t, .int .i64 e] 41)
   go_enter Tryz.func47, Tryz.ntmps47
   go_wp2_with fail
   obtain ⟨F, hF1, hF2⟩ := zQ (w.alloc (Obj.cells #[.bool true, .string s, .string t, .int .i64 e] 41))
   have fx_0 := fun u => zE (zA (hF1 u) _ _ _ Aa) 0 _ rfl
   have fx_1 := fun u => zE (zA (hF1 u) _ _ _ Aa) 1 _ rfl
   have fx_2 := fun u => zE (zA (hF1 u) _ _ _ Aa) 2 _ rfl
   have fx_3 := fun u => zE (zA (hF1 u) _ _ _ Aa) 3 _ rfl
   refine zI F hF2 (by kernel_rfl) (by kernel_rfl) ?_
   repeat first | go_big_quiet_step (first | (go_at_call 111; exact zJ hF1 hF2 (zZ _)) | fail) | quiet_step (first | (go_at_call 111; exact zJ hF1 hF2 (zZ _)) | fail)
   refine wpQuiet_nil ?_
   rintro _ ⟨uW, rfl⟩
   have B1 := zO B0 (hF1 uW)
   have Ab := zA (hF1 uW) _ _ _ Aa
   obtain ⟨w1, hw⟩ : ∃ V, F uW = V := ⟨_, rfl⟩
   rw [hw] at B1 Ab
   try rw [hw]
   clear hw hF1 hF2 B0 fx_0 fx_1 fx_2 fx_3 Aa
   clear F
   obtain ⟨Ac, Ad, Ae, Af⟩ := zC Ab
   go_wp2
   go_ret
   exact ⟨rfl, B1⟩
theorem Signx_ok (b : Bool) (n d : Nat) (e : Int) (s t : ByteArray) (c : Int) (hs : yG n = s) (ht : yG d = t) (hc : (XN.mk b n d e).can) (hr : sg (XN.mk b n d e) = c) (w : World) (hT : zN w) : Calls Tryz.prog 16 #[.agg #[.bool b, .string s, .string t, .int .i64 e]] w fun r w' => r = .returned (.int .i64 c) ∧ Below w.heap.size w w' := by
 have HM := zH (qQ hs ht hc)
 have HF := zH (fun w => signx b n d e s t c hs ht hc hr w)
 have TT := zH hT
 clear hs ht hc hr hT
 obtain ⟨Ab, B0⟩ := yO w (Obj.cells #[.bool b, .string s, .string t, .int .i64 e] 41)
 go_enter Tryz.func16, Tryz.ntmps16
 go_wp2_with fail
 refine (xmay1 b s t e true HM.out _ (w.alloc (Obj.cells #[.bool b, .string s, .string t, .int .i64 e] 41)) _ (by simp only [zX]) (zV TT.out B0)).mono ?_
 rintro r w1 ⟨rfl, b1⟩
 have B1 := zO B0 b1
 have Aa := zA b1 _ _ _ Ab
 clear b1 B0 Ab
 obtain ⟨Ac, Ad, Ae, Af⟩ := zC Aa
 go_wp2_with fail
 refine (HF.out _).mono ?_
 rintro r w2 ⟨rfl, b2⟩
 have B2 := zO B1 b2
 have Ag := zA b2 _ _ _ Aa
 clear b2 B1 Aa Ac Ad Ae Af
 obtain ⟨Ah, Ai, Aj, Ak⟩ := zC Ag
 go_wp2
 go_ret
 exact ⟨rfl, B2⟩
theorem turnedx (b : Bool) (n d : Nat) (e : Int) (s t : ByteArray) (c : Bool) (hs : yG n = s) (ht : yG d = t) (hc : (XN.mk b n d e).can) (hr : (negX (XN.mk b n d e)).b = c) (w : World) : Calls Tryz.prog 56 #[.agg #[.bool b, .string s, .string t, .int .i64 e]] w fun r w' => r = .returned (.agg #[.bool c, .string s, .string t, .int .i64 e]) ∧ Below w.heap.size w w' := by
 by_cases h0 : n = 0
 ·
  obtain ⟨rfl, rfl, rfl⟩ := can_null hc h0
  subst h0
  rw [yM] at hs
  rw [nb1] at ht
  subst hs ht
  have ec : c = false := by rw [← hr]; rfl
  subst ec
  clear hr hc
  obtain ⟨Aa, Ab, B0⟩ := qW w (Obj.cells #[.bool false, .string ⟨#[]⟩, .string ⟨#[1]⟩, .int .i64 0] 41) (Obj.cells #[.bool false, .string ⟨#[]⟩, .string ⟨#[]⟩, .int .i64 0] 41)
  go_enter Tryz.func56, Tryz.ntmps56
  go_wp2_with fail
  obtain ⟨F, hF1, hF2⟩ := zQ ((w.alloc (Obj.cells #[.bool false, .string ⟨#[]⟩, .string ⟨#[1]⟩, .int .i64 0] 41)).alloc (Obj.cells #[.bool false, .string ⟨#[]⟩, .string ⟨#[]⟩, .int .i64 0] 41))
  have fx_0 := fun u => zE (zA (hF1 u) _ _ _ Aa) 0 _ rfl
  have fx_1 := fun u => zE (zA (hF1 u) _ _ _ Aa) 1 _ rfl
  have fx_2 := fun u => zE (zA (hF1 u) _ _ _ Aa) 2 _ rfl
  have fx_3 := fun u => zE (zA (hF1 u) _ _ _ Aa) 3 _ rfl
  have fz_0 := fun u => zE (zA (hF1 u) _ _ _ Ab) 0 _ rfl
  have fz_1 := fun u => zE (zA (hF1 u) _ _ _ Ab) 1 _ rfl
  have fz_2 := fun u => zE (zA (hF1 u) _ _ _ Ab) 2 _ rfl
  have fz_3 := fun u => zE (zA (hF1 u) _ _ _ Ab) 3 _ rfl
  refine zI F hF2 (by kernel_rfl) (by kernel_rfl) ?_
  repeat first | go_big_quiet_step (first | (go_at_call 111; exact zJ hF1 hF2 (zZ _)) | fail) | quiet_step (first | (go_at_call 111; exact zJ hF1 hF2 (zZ _)) | fail)
  refine wpQuiet_nil ?_
  rintro _ ⟨uW, rfl⟩
  have B1 := zO B0 (hF1 uW)
  obtain ⟨Ae, Ac⟩ := yB (hF1 uW) Aa Ab
  obtain ⟨w1, hw⟩ : ∃ V, F uW = V := ⟨_, rfl⟩
  rw [hw] at B1 Ae Ac
  try rw [hw]
  clear hw hF1 hF2 B0 fx_0 fx_1 fx_2 fx_3 fz_0 fz_1 fz_2 fz_3 Aa Ab
  clear F
  obtain ⟨Ag, Ah, Ai, Aj⟩ := zC Ae
  obtain ⟨Ak, Al, Am, An⟩ := zC Ac
  have q0 := fz (k := 0) Ac
  have q1 := fz (k := 1) Ac
  have q2 := fz (k := 2) Ac
  have q3 := fz (k := 3) Ac
  obtain ⟨E0, E1, E2, E3⟩ := yC Ac rfl (.bool false) (.string ⟨#[]⟩) (.string ⟨#[1]⟩) (.int .i64 0)
  go_wp2
  exact bodyPost_ret (v := .agg #[.bool false, .string ⟨#[]⟩, .string ⟨#[1]⟩, .int .i64 0]) (by simp [results, Tryz.results56, go_sem, E0, E1, E2, E3]) rfl ⟨rfl, z9 B1 (by first | exact Nat.le_refl _ | omega) _ _ _ _⟩
 ·
  have e0 := eq_nil n s hs h0
  have ec : c = !b := by rw [← hr]; unfold negX; rw [if_neg h0]
  clear hr hc hs ht h0
  cases b
  ·
   subst ec
   obtain ⟨Aa, Ab, B0⟩ := qW w (Obj.cells #[.bool false, .string s, .string t, .int .i64 e] 41) (Obj.cells #[.bool false, .string ⟨#[]⟩, .string ⟨#[]⟩, .int .i64 0] 41)
   go_enter Tryz.func56, Tryz.ntmps56
   go_wp2_with fail
   obtain ⟨F, hF1, hF2⟩ := zQ ((w.alloc (Obj.cells #[.bool false, .string s, .string t, .int .i64 e] 41)).alloc (Obj.cells #[.bool false, .string ⟨#[]⟩, .string ⟨#[]⟩, .int .i64 0] 41))
   have fx_0 := fun u => zE (zA (hF1 u) _ _ _ Aa) 0 _ rfl
   have fx_1 := fun u => zE (zA (hF1 u) _ _ _ Aa) 1 _ rfl
   have fx_2 := fun u => zE (zA (hF1 u) _ _ _ Aa) 2 _ rfl
   have fx_3 := fun u => zE (zA (hF1 u) _ _ _ Aa) 3 _ rfl
   have fz_0 := fun u => zE (zA (hF1 u) _ _ _ Ab) 0 _ rfl
   have fz_1 := fun u => zE (zA (hF1 u) _ _ _ Ab) 1 _ rfl
   have fz_2 := fun u => zE (zA (hF1 u) _ _ _ Ab) 2 _ rfl
   have fz_3 := fun u => zE (zA (hF1 u) _ _ _ Ab) 3 _ rfl
   refine zI F hF2 (by kernel_rfl) (by kernel_rfl) ?_
   repeat first | go_big_quiet_step (first | (go_at_call 111; exact zJ hF1 hF2 (zZ _)) | fail) | quiet_step (first | (go_at_call 111; exact zJ hF1 hF2 (zZ _)) | fail)
   refine wpQuiet_nil ?_
   rintro _ ⟨uW, rfl⟩
   have B1 := zO B0 (hF1 uW)
   obtain ⟨Ae, Ac⟩ := yB (hF1 uW) Aa Ab
   obtain ⟨w1, hw⟩ : ∃ V, F uW = V := ⟨_, rfl⟩
   rw [hw] at B1 Ae Ac
   try rw [hw]
   clear hw hF1 hF2 B0 fx_0 fx_1 fx_2 fx_3 fz_0 fz_1 fz_2 fz_3 Aa Ab
   clear F
   obtain ⟨Ag, Ah, Ai, Aj⟩ := zC Ae
   obtain ⟨Ak, Al, Am, An⟩ := zC Ac
   have qx_1 := fz (k := 0) Ae
   have B2 : Below w.heap.size w (w1.setCell ⟨w.heap.size, 0, none⟩ (.bool true)) := B1.setCell (by first | exact Nat.le_refl _ | (skip; show w.heap.size ≤ w.heap.size; omega)) _
   have Af : (w1.setCell ⟨w.heap.size, 0, none⟩ (.bool true)).heap[w.heap.size]? = some (.cells #[.bool true, .string s, .string t, .int .i64 e] 41) := by rw [z6 Ae]; rfl
   have Ad : (w1.setCell ⟨w.heap.size, 0, none⟩ (.bool true)).heap[w.heap.size + 1]? = some (.cells #[.bool false, .string ⟨#[]⟩, .string ⟨#[]⟩, .int .i64 0] 41) := by rw [zG (by first | omega | (skip; omega))]; exact Ac
   obtain ⟨Ao, Ap, Aq, Ar⟩ := zC Af
   obtain ⟨As, At, Au, Av⟩ := zC Ad
   have q0 := fz (k := 0) Ad
   have q1 := fz (k := 1) Ad
   have q2 := fz (k := 2) Ad
   have q3 := fz (k := 3) Ad
   obtain ⟨E0, E1, E2, E3⟩ := yC Ad rfl (.bool true) (.string s) (.string t) (.int .i64 e)
   go_wp2
   exact bodyPost_ret (v := .agg #[.bool true, .string s, .string t, .int .i64 e]) (by simp [results, Tryz.results56, go_sem, E0, E1, E2, E3]) rfl ⟨rfl, z9 B2 (by first | exact Nat.le_refl _ | omega) _ _ _ _⟩
  ·
   subst ec
   obtain ⟨Aa, Ab, B0⟩ := qW w (Obj.cells #[.bool true, .string s, .string t, .int .i64 e] 41) (Obj.cells #[.bool false, .string ⟨#[]⟩, .string ⟨#[]⟩, .int .i64 0] 41)
   go_enter Tryz.func56, Tryz.ntmps56
   go_wp2_with fail
   obtain ⟨F, hF1, hF2⟩ := zQ ((w.alloc (Obj.cells #[.bool true, .string s, .string t, .int .i64 e] 41)).alloc (Obj.cells #[.bool false, .string ⟨#[]⟩, .string ⟨#[]⟩, .int .i64 0] 41))
   have fx_0 := fun u => zE (zA (hF1 u) _ _ _ Aa) 0 _ rfl
   have fx_1 := fun u => zE (zA (hF1 u) _ _ _ Aa) 1 _ rfl
   have fx_2 := fun u => zE (zA (hF1 u) _ _ _ Aa) 2 _ rfl
   have fx_3 := fun u => zE (zA (hF1 u) _ _ _ Aa) 3 _ rfl
   have fz_0 := fun u => zE (zA (hF1 u) _ _ _ Ab) 0 _ rfl
   have fz_1 := fun u => zE (zA (hF1 u) _ _ _ Ab) 1 _ rfl
   have fz_2 := fun u => zE (zA (hF1 u) _ _ _ Ab) 2 _ rfl
   have fz_3 := fun u => zE (zA (hF1 u) _ _ _ Ab) 3 _ rfl
   refine zI F hF2 (by kernel_rfl) (by kernel_rfl) ?_
   repeat first | go_big_quiet_step (first | (go_at_call 111; exact zJ hF1 hF2 (zZ _)) | fail) | quiet_step (first | (go_at_call 111; exact zJ hF1 hF2 (zZ _)) | fail)
   refine wpQuiet_nil ?_
   rintro _ ⟨uW, rfl⟩
   have B1 := zO B0 (hF1 uW)
   obtain ⟨Ae, Ac⟩ := yB (hF1 uW) Aa Ab
   obtain ⟨w1, hw⟩ : ∃ V, F uW = V := ⟨_, rfl⟩
   rw [hw] at B1 Ae Ac
   try rw [hw]
   clear hw hF1 hF2 B0 fx_0 fx_1 fx_2 fx_3 fz_0 fz_1 fz_2 fz_3 Aa Ab
   clear F
   obtain ⟨Ag, Ah, Ai, Aj⟩ := zC Ae
   obtain ⟨Ak, Al, Am, An⟩ := zC Ac
   have qx_1 := fz (k := 0) Ae
   have B2 : Below w.heap.size w (w1.setCell ⟨w.heap.size, 0, none⟩ (.bool false)) := B1.setCell (by first | exact Nat.le_refl _ | (skip; show w.heap.size ≤ w.heap.size; omega)) _
   have Af : (w1.setCell ⟨w.heap.size, 0, none⟩ (.bool false)).heap[w.heap.size]? = some (.cells #[.bool false, .string s, .string t, .int .i64 e] 41) := by rw [z6 Ae]; rfl
   have Ad : (w1.setCell ⟨w.heap.size, 0, none⟩ (.bool false)).heap[w.heap.size + 1]? = some (.cells #[.bool false, .string ⟨#[]⟩, .string ⟨#[]⟩, .int .i64 0] 41) := by rw [zG (by first | omega | (skip; omega))]; exact Ac
   obtain ⟨Ao, Ap, Aq, Ar⟩ := zC Af
   obtain ⟨As, At, Au, Av⟩ := zC Ad
   have q0 := fz (k := 0) Ad
   have q1 := fz (k := 1) Ad
   have q2 := fz (k := 2) Ad
   have q3 := fz (k := 3) Ad
   obtain ⟨E0, E1, E2, E3⟩ := yC Ad rfl (.bool false) (.string s) (.string t) (.int .i64 e)
   go_wp2
   exact bodyPost_ret (v := .agg #[.bool false, .string s, .string t, .int .i64 e]) (by simp [results, Tryz.results56, go_sem, E0, E1, E2, E3]) rfl ⟨rfl, z9 B2 (by first | exact Nat.le_refl _ | omega) _ _ _ _⟩
theorem Absx_ok (b : Bool) (n d : Nat) (e : Int) (s t : ByteArray) (hs : yG n = s) (ht : yG d = t) (hc : (XN.mk b n d e).can) (w : World) (hT : zN w) : Calls Tryz.prog 25 #[.agg #[.bool b, .string s, .string t, .int .i64 e]] w fun r w' => r = .returned (.agg #[.bool false, .string s, .string t, .int .i64 e]) ∧ Below w.heap.size w w' := by
 have HM := zH (qQ hs ht hc)
 have TT := zH hT
 clear hs ht hc hT
 obtain ⟨Ac, Ad, B0⟩ := qW w (Obj.cells #[.bool b, .string s, .string t, .int .i64 e] 41) (Obj.cells #[.bool false, .string ⟨#[]⟩, .string ⟨#[]⟩, .int .i64 0] 41)
 go_enter Tryz.func25, Tryz.ntmps25
 go_wp2_with fail
 refine (xmay1 b s t e true HM.out _ ((w.alloc (Obj.cells #[.bool b, .string s, .string t, .int .i64 e] 41)).alloc (Obj.cells #[.bool false, .string ⟨#[]⟩, .string ⟨#[]⟩, .int .i64 0] 41)) _ (by simp only [zX]) (zV TT.out B0)).mono ?_
 rintro r w1 ⟨rfl, b1⟩
 have B1 := zO B0 b1
 obtain ⟨Ab, Ae⟩ := yB b1 Ac Ad
 clear b1 B0 Ac Ad
 obtain ⟨Ag, Ah, Ai, Aj⟩ := zC Ab
 obtain ⟨Ak, Al, Am, An⟩ := zC Ae
 have qx_1 := fz (k := 0) Ab
 have B2 : Below w.heap.size w (w1.setCell ⟨w.heap.size, 0, none⟩ (.bool false)) := B1.setCell (by first | exact Nat.le_refl _ | (skip; show w.heap.size ≤ w.heap.size; omega)) _
 have Af : (w1.setCell ⟨w.heap.size, 0, none⟩ (.bool false)).heap[w.heap.size]? = some (.cells #[.bool false, .string s, .string t, .int .i64 e] 41) := by rw [z6 Ab]; rfl
 have Aa : (w1.setCell ⟨w.heap.size, 0, none⟩ (.bool false)).heap[w.heap.size + 1]? = some (.cells #[.bool false, .string ⟨#[]⟩, .string ⟨#[]⟩, .int .i64 0] 41) := by rw [zG (by first | omega | (skip; omega))]; exact Ae
 obtain ⟨Ao, Ap, Aq, Ar⟩ := zC Af
 obtain ⟨As, At, Au, Av⟩ := zC Aa
 have q0 := fz (k := 0) Aa
 have q1 := fz (k := 1) Aa
 have q2 := fz (k := 2) Aa
 have q3 := fz (k := 3) Aa
 obtain ⟨E0, E1, E2, E3⟩ := yC Aa rfl (.bool false) (.string s) (.string t) (.int .i64 e)
 go_wp2
 exact bodyPost_ret (v := .agg #[.bool false, .string s, .string t, .int .i64 e]) (by simp [results, Tryz.results25, go_sem, E0, E1, E2, E3]) rfl ⟨rfl, z9 B2 (by first | exact Nat.le_refl _ | omega) _ _ _ _⟩
theorem lg_no (n : Nat) (h : ¬ nl n ≤ 16384) : lg n = (⟨#[]⟩, 4) := by unfold lg; rw [if_neg h]
end Go.Proofs.YtkblmpmkchkpjaaGreatDoor
