/-
  What the functions that the statement reaches return: part 6 (X2, X3m, X4, X5, X7, X9, Y1, Y4).
-/
import Derived.Lib.MinMax
import Derived.Test.YtpgiabmmmpdobaaGreatDoorSr05
namespace Go.Proofs.YtpgiabmmmpdobaaGreatDoor
set_option maxRecDepth 100000
set_option maxHeartbeats 40000000
set_option maxRecDepth 100000
open Go.RowKit WMath XMath
theorem can_parts (b : Bool) (n d : Nat) (e : Int) (hn : nl n ≤ 16384) (hd : nl d ≤ 16384) : (XN.mk b n d e).can ↔ (-1048576 ≤ e ∧ e ≤ 1048576 ∧ ((b = false ∧ n = 0 ∧ d = 1 ∧ e = 0) ∨ (n % 2 = 1 ∧ d % 2 = 1 ∧ Nat.gcd n d = 1))) := by
 unfold XN.can
 exact ⟨fun h => h.2.2, fun h => ⟨hn, hd, h⟩⟩

theorem xmay (b : Bool) (s t : ByteArray) (e : Int) (o : Bool) (ho : o = true ↔ MayX b s t e) (w : World) : Calls Tryz.prog 123 #[.agg #[.bool b, .string s, .string t, .int .i64 e]] w fun r w' => r = .returned (.bool o) ∧ Below w.heap.size w w' := by
 cases hm1 : mayB s
 ·
  have eo : o = false := by
   cases o
   ·
    rfl
   ·
    have := (mayX_s b s t e (ho.1 rfl)).1
    rw [hm1] at this
    exact absurd this (by decide)
  subst eo
  have H1 := box hm1
  clear hm1 ho
  obtain ⟨Ac, B0⟩ := opn1 w (Obj.cells #[.bool b, .string s, .string t, .int .i64 e] 63)
  go_enter Tryz.func123, Tryz.ntmps123
  go_wp2_with fail
  go_quiet (fail)
  obtain ⟨w1, hw, B1, hh⟩ := quiet_world B0 nq
  rw [hw]
  have Ab : w1.heap[w.heap.size]? = some (.cells #[.bool b, .string s, .string t, .int .i64 e] 63) := by rw [hh]; exact Ac
  clear hw hh B0 Ac
  obtain ⟨Ad, Ae, Af, Ag⟩ := cells4s Ab
  go_wp2_with fail
  refine (nat_may s false H1.out _).mono ?_
  rintro r w' ⟨rfl, rfl⟩
  go_wp2
  go_ret
  exact ⟨rfl, B1⟩
 cases hm2 : mayB t
 ·
  have eo : o = false := by
   cases o
   ·
    rfl
   ·
    have := (mayX_s b s t e (ho.1 rfl)).2
    rw [hm2] at this
    exact absurd this (by decide)
  subst eo
  have H1 := box hm1
  have H2 := box hm2
  clear hm1 hm2 ho
  obtain ⟨Ac, B0⟩ := opn1 w (Obj.cells #[.bool b, .string s, .string t, .int .i64 e] 63)
  go_enter Tryz.func123, Tryz.ntmps123
  go_wp2_with fail
  go_quiet (fail)
  obtain ⟨w1, hw, B1, hh⟩ := quiet_world B0 nq
  rw [hw]
  have Ab : w1.heap[w.heap.size]? = some (.cells #[.bool b, .string s, .string t, .int .i64 e] 63) := by rw [hh]; exact Ac
  clear hw hh B0 Ac
  obtain ⟨Ad, Ae, Af, Ag⟩ := cells4s Ab
  go_wp2_with fail
  refine (nat_may s true H1.out _).mono ?_
  rintro r w' ⟨rfl, rfl⟩
  go_wp2_with fail
  refine (nat_may t false H2.out _).mono ?_
  rintro r w' ⟨rfl, rfl⟩
  go_wp2
  go_ret
  exact ⟨rfl, B1⟩
 obtain ⟨n, hs, ln⟩ := mayB_is s hm1
 obtain ⟨d, ht, ld⟩ := mayB_is t hm2
 rw [mayX_iff b n d s t e hs ht, can_parts b n d e ln ld] at ho
 have H1 := box hm1
 have H2 := box hm2
 have HS := box hs
 have HT := box ht
 have LN := box ln
 have LD := box ld
 clear hm1 hm2
 by_cases hd : d % 2 = 1
 ·
  have D1 : Box (decide (d % 2 = 1) = true) := box (decide_eq_true hd)
  by_cases h1 : e < -1048576
  ·
   have eo : o = false := by cases o; rfl; have := ho.1 rfl; omega
   subst eo
   have k1 : decide (e < -1048576) = true := decide_eq_true h1
   clear ho hs ht ln ld hd
   obtain ⟨Ac, B0⟩ := opn1 w (Obj.cells #[.bool b, .string s, .string t, .int .i64 e] 63)
   go_enter Tryz.func123, Tryz.ntmps123
   go_wp2_with fail
   go_quiet (fail)
   obtain ⟨w1, hw, B1, hh⟩ := quiet_world B0 nq
   rw [hw]
   have Ab : w1.heap[w.heap.size]? = some (.cells #[.bool b, .string s, .string t, .int .i64 e] 63) := by rw [hh]; exact Ac
   clear hw hh B0 Ac
   obtain ⟨Ad, Ae, Af, Ag⟩ := cells4s Ab
   go_wp2_with fail
   refine (nat_may s true H1.out _).mono ?_
   rintro r w' ⟨rfl, rfl⟩
   go_wp2_with fail
   refine (nat_may t true H2.out _).mono ?_
   rintro r w' ⟨rfl, rfl⟩
   go_wp2_with fail
   refine (rodd d t true HT.out LD.out D1.out _).mono ?_
   rintro r w2 ⟨rfl, b2⟩
   have B2 := btr B1 b2
   have Aa := heap_of b2 _ _ _ Ab
   clear b2 B1 Ab Ad Ae Af Ag
   obtain ⟨Ai, Aj, Ak, Al⟩ := cells4s Aa
   go_wp2
   go_ret
   exact ⟨rfl, B2⟩
  have k1 : decide (e < -1048576) = false := decide_eq_false h1
  by_cases h2 : 1048576 < e
  ·
   have eo : o = false := by cases o; rfl; have := ho.1 rfl; omega
   subst eo
   have k2 : decide (1048576 < e) = true := decide_eq_true h2
   clear ho hs ht ln ld hd
   obtain ⟨Ac, B0⟩ := opn1 w (Obj.cells #[.bool b, .string s, .string t, .int .i64 e] 63)
   go_enter Tryz.func123, Tryz.ntmps123
   go_wp2_with fail
   go_quiet (fail)
   obtain ⟨w1, hw, B1, hh⟩ := quiet_world B0 nq
   rw [hw]
   have Ab : w1.heap[w.heap.size]? = some (.cells #[.bool b, .string s, .string t, .int .i64 e] 63) := by rw [hh]; exact Ac
   clear hw hh B0 Ac
   obtain ⟨Ad, Ae, Af, Ag⟩ := cells4s Ab
   go_wp2_with fail
   refine (nat_may s true H1.out _).mono ?_
   rintro r w' ⟨rfl, rfl⟩
   go_wp2_with fail
   refine (nat_may t true H2.out _).mono ?_
   rintro r w' ⟨rfl, rfl⟩
   go_wp2_with fail
   refine (rodd d t true HT.out LD.out D1.out _).mono ?_
   rintro r w2 ⟨rfl, b2⟩
   have B2 := btr B1 b2
   have Aa := heap_of b2 _ _ _ Ab
   clear b2 B1 Ab Ad Ae Af Ag
   obtain ⟨Ai, Aj, Ak, Al⟩ := cells4s Aa
   go_wp2
   go_ret
   exact ⟨rfl, B2⟩
  have k2 : decide (1048576 < e) = false := decide_eq_false h2
  by_cases h0 : n = 0
  ·
   subst h0
   rw [nbA_zero] at hs
   have hs2 := hs
   clear hs
   subst hs2
   have e1 := eq_one d t ht
   have ez : (e == 0) = decide (e = 0) := by rw [Bool.eq_iff_iff, beq_iff_eq, decide_eq_true_iff]
   have ho2 : o = true ↔ (b = false ∧ d = 1 ∧ e = 0) := by rw [ho]; exact ⟨fun h => by rcases h.2.2 with h | h; exact ⟨h.1, h.2.2⟩; omega, fun h => ⟨by omega, by omega, Or.inl ⟨h.1, rfl, h.2⟩⟩⟩
   clear ho ht ln ld hd h1 h2
   cases b
   ·
    by_cases d1 : d = 1
    ·
     rw [decide_eq_true d1] at e1
     by_cases z : e = 0
     ·
      have eo : o = true := ho2.2 ⟨rfl, d1, z⟩
      subst eo
      rw [decide_eq_true z] at ez
      clear ho2 d1
      subst z
      obtain ⟨Ac, B0⟩ := opn1 w (Obj.cells #[.bool false, .string ⟨#[]⟩, .string t, .int .i64 0] 63)
      go_enter Tryz.func123, Tryz.ntmps123
      go_wp2_with fail
      go_quiet (fail)
      obtain ⟨w1, hw, B1, hh⟩ := quiet_world B0 nq
      rw [hw]
      have Ab : w1.heap[w.heap.size]? = some (.cells #[.bool false, .string ⟨#[]⟩, .string t, .int .i64 0] 63) := by rw [hh]; exact Ac
      clear hw hh B0 Ac
      obtain ⟨Ad, Ae, Af, Ag⟩ := cells4s Ab
      go_wp2_with fail
      refine (nat_may _ true H1.out _).mono ?_
      rintro r w' ⟨rfl, rfl⟩
      go_wp2_with fail
      refine (nat_may t true H2.out _).mono ?_
      rintro r w' ⟨rfl, rfl⟩
      go_wp2_with fail
      refine (rodd d t true HT.out LD.out D1.out _).mono ?_
      rintro r w2 ⟨rfl, b2⟩
      have B2 := btr B1 b2
      have Aa := heap_of b2 _ _ _ Ab
      clear b2 B1 Ab Ad Ae Af Ag
      obtain ⟨Ai, Aj, Ak, Al⟩ := cells4s Aa
      go_wp2_with fail
      obtain ⟨F, hF1, hF2⟩ := below_fun w2
      have fx_0 := fun u => cells4 (heap_of (hF1 u) _ _ _ Aa) 0 _ rfl
      have fx_1 := fun u => cells4 (heap_of (hF1 u) _ _ _ Aa) 1 _ rfl
      have fx_2 := fun u => cells4 (heap_of (hF1 u) _ _ _ Aa) 2 _ rfl
      have fx_3 := fun u => cells4 (heap_of (hF1 u) _ _ _ Aa) 3 _ rfl
      refine wp_region_below F hF2 (by kernel_rfl) (by kernel_rfl) ?_
      repeat first | go_big_quiet_step (first | (go_at_call 72; exact quietF hF1 hF2 (xnull _)) | fail) | quiet_step (first | (go_at_call 72; exact quietF hF1 hF2 (xnull _)) | fail)
      refine wpQuiet_nil ?_
      rintro _ ⟨uW, rfl⟩
      have B3 := btr B2 (hF1 uW)
      have Ah := heap_of (hF1 uW) _ _ _ Aa
      obtain ⟨w3, hw⟩ : ∃ V, F uW = V := ⟨_, rfl⟩
      rw [hw] at B3 Ah
      try rw [hw]
      clear hw hF1 hF2 B2 fx_0 fx_1 fx_2 fx_3 Aa Ai Aj Ak Al
      clear F
      obtain ⟨Am, An, Ao, Ap⟩ := cells4s Ah
      go_wp2
      go_ret
      exact ⟨rfl, B3⟩
     ·
      have eo : o = false := by cases o; rfl; exact absurd (ho2.1 rfl).2.2 z
      subst eo
      rw [decide_eq_false z] at ez
      clear ho2 d1
      obtain ⟨Ac, B0⟩ := opn1 w (Obj.cells #[.bool false, .string ⟨#[]⟩, .string t, .int .i64 e] 63)
      go_enter Tryz.func123, Tryz.ntmps123
      go_wp2_with fail
      go_quiet (fail)
      obtain ⟨w1, hw, B1, hh⟩ := quiet_world B0 nq
      rw [hw]
      have Ab : w1.heap[w.heap.size]? = some (.cells #[.bool false, .string ⟨#[]⟩, .string t, .int .i64 e] 63) := by rw [hh]; exact Ac
      clear hw hh B0 Ac
      obtain ⟨Ad, Ae, Af, Ag⟩ := cells4s Ab
      go_wp2_with fail
      refine (nat_may _ true H1.out _).mono ?_
      rintro r w' ⟨rfl, rfl⟩
      go_wp2_with fail
      refine (nat_may t true H2.out _).mono ?_
      rintro r w' ⟨rfl, rfl⟩
      go_wp2_with fail
      refine (rodd d t true HT.out LD.out D1.out _).mono ?_
      rintro r w2 ⟨rfl, b2⟩
      have B2 := btr B1 b2
      have Aa := heap_of b2 _ _ _ Ab
      clear b2 B1 Ab Ad Ae Af Ag
      obtain ⟨Ai, Aj, Ak, Al⟩ := cells4s Aa
      go_wp2_with fail
      obtain ⟨F, hF1, hF2⟩ := below_fun w2
      have fx_0 := fun u => cells4 (heap_of (hF1 u) _ _ _ Aa) 0 _ rfl
      have fx_1 := fun u => cells4 (heap_of (hF1 u) _ _ _ Aa) 1 _ rfl
      have fx_2 := fun u => cells4 (heap_of (hF1 u) _ _ _ Aa) 2 _ rfl
      have fx_3 := fun u => cells4 (heap_of (hF1 u) _ _ _ Aa) 3 _ rfl
      refine wp_region_below F hF2 (by kernel_rfl) (by kernel_rfl) ?_
      repeat first | go_big_quiet_step (first | (go_at_call 72; exact quietF hF1 hF2 (xnull _)) | fail) | quiet_step (first | (go_at_call 72; exact quietF hF1 hF2 (xnull _)) | fail)
      refine wpQuiet_nil ?_
      rintro _ ⟨uW, rfl⟩
      have B3 := btr B2 (hF1 uW)
      have Ah := heap_of (hF1 uW) _ _ _ Aa
      obtain ⟨w3, hw⟩ : ∃ V, F uW = V := ⟨_, rfl⟩
      rw [hw] at B3 Ah
      try rw [hw]
      clear hw hF1 hF2 B2 fx_0 fx_1 fx_2 fx_3 Aa Ai Aj Ak Al
      clear F
      obtain ⟨Am, An, Ao, Ap⟩ := cells4s Ah
      go_wp2
      go_ret
      exact ⟨rfl, B3⟩
    ·
     have eo : o = false := by cases o; rfl; exact absurd (ho2.1 rfl).2.1 d1
     subst eo
     rw [decide_eq_false d1] at e1
     clear ho2 d1 ez
     obtain ⟨Ac, B0⟩ := opn1 w (Obj.cells #[.bool false, .string ⟨#[]⟩, .string t, .int .i64 e] 63)
     go_enter Tryz.func123, Tryz.ntmps123
     go_wp2_with fail
     go_quiet (fail)
     obtain ⟨w1, hw, B1, hh⟩ := quiet_world B0 nq
     rw [hw]
     have Ab : w1.heap[w.heap.size]? = some (.cells #[.bool false, .string ⟨#[]⟩, .string t, .int .i64 e] 63) := by rw [hh]; exact Ac
     clear hw hh B0 Ac
     obtain ⟨Ad, Ae, Af, Ag⟩ := cells4s Ab
     go_wp2_with fail
     refine (nat_may _ true H1.out _).mono ?_
     rintro r w' ⟨rfl, rfl⟩
     go_wp2_with fail
     refine (nat_may t true H2.out _).mono ?_
     rintro r w' ⟨rfl, rfl⟩
     go_wp2_with fail
     refine (rodd d t true HT.out LD.out D1.out _).mono ?_
     rintro r w2 ⟨rfl, b2⟩
     have B2 := btr B1 b2
     have Aa := heap_of b2 _ _ _ Ab
     clear b2 B1 Ab Ad Ae Af Ag
     obtain ⟨Ai, Aj, Ak, Al⟩ := cells4s Aa
     go_wp2_with fail
     obtain ⟨F, hF1, hF2⟩ := below_fun w2
     have fx_0 := fun u => cells4 (heap_of (hF1 u) _ _ _ Aa) 0 _ rfl
     have fx_1 := fun u => cells4 (heap_of (hF1 u) _ _ _ Aa) 1 _ rfl
     have fx_2 := fun u => cells4 (heap_of (hF1 u) _ _ _ Aa) 2 _ rfl
     have fx_3 := fun u => cells4 (heap_of (hF1 u) _ _ _ Aa) 3 _ rfl
     refine wp_region_below F hF2 (by kernel_rfl) (by kernel_rfl) ?_
     repeat first | go_big_quiet_step (first | (go_at_call 72; exact quietF hF1 hF2 (xnull _)) | fail) | quiet_step (first | (go_at_call 72; exact quietF hF1 hF2 (xnull _)) | fail)
     refine wpQuiet_nil ?_
     rintro _ ⟨uW, rfl⟩
     have B3 := btr B2 (hF1 uW)
     have Ah := heap_of (hF1 uW) _ _ _ Aa
     obtain ⟨w3, hw⟩ : ∃ V, F uW = V := ⟨_, rfl⟩
     rw [hw] at B3 Ah
     try rw [hw]
     clear hw hF1 hF2 B2 fx_0 fx_1 fx_2 fx_3 Aa Ai Aj Ak Al
     clear F
     obtain ⟨Am, An, Ao, Ap⟩ := cells4s Ah
     go_wp2
     go_ret
     exact ⟨rfl, B3⟩
   ·
    have eo : o = false := by cases o; rfl; exact absurd (ho2.1 rfl).1 (by decide)
    subst eo
    clear ho2 e1 ez
    obtain ⟨Ac, B0⟩ := opn1 w (Obj.cells #[.bool true, .string ⟨#[]⟩, .string t, .int .i64 e] 63)
    go_enter Tryz.func123, Tryz.ntmps123
    go_wp2_with fail
    go_quiet (fail)
    obtain ⟨w1, hw, B1, hh⟩ := quiet_world B0 nq
    rw [hw]
    have Ab : w1.heap[w.heap.size]? = some (.cells #[.bool true, .string ⟨#[]⟩, .string t, .int .i64 e] 63) := by rw [hh]; exact Ac
    clear hw hh B0 Ac
    obtain ⟨Ad, Ae, Af, Ag⟩ := cells4s Ab
    go_wp2_with fail
    refine (nat_may _ true H1.out _).mono ?_
    rintro r w' ⟨rfl, rfl⟩
    go_wp2_with fail
    refine (nat_may t true H2.out _).mono ?_
    rintro r w' ⟨rfl, rfl⟩
    go_wp2_with fail
    refine (rodd d t true HT.out LD.out D1.out _).mono ?_
    rintro r w2 ⟨rfl, b2⟩
    have B2 := btr B1 b2
    have Aa := heap_of b2 _ _ _ Ab
    clear b2 B1 Ab Ad Ae Af Ag
    obtain ⟨Ai, Aj, Ak, Al⟩ := cells4s Aa
    go_wp2_with fail
    obtain ⟨F, hF1, hF2⟩ := below_fun w2
    have fx_0 := fun u => cells4 (heap_of (hF1 u) _ _ _ Aa) 0 _ rfl
    have fx_1 := fun u => cells4 (heap_of (hF1 u) _ _ _ Aa) 1 _ rfl
    have fx_2 := fun u => cells4 (heap_of (hF1 u) _ _ _ Aa) 2 _ rfl
    have fx_3 := fun u => cells4 (heap_of (hF1 u) _ _ _ Aa) 3 _ rfl
    refine wp_region_below F hF2 (by kernel_rfl) (by kernel_rfl) ?_
    repeat first | go_big_quiet_step (first | (go_at_call 72; exact quietF hF1 hF2 (xnull _)) | fail) | quiet_step (first | (go_at_call 72; exact quietF hF1 hF2 (xnull _)) | fail)
    refine wpQuiet_nil ?_
    rintro _ ⟨uW, rfl⟩
    have B3 := btr B2 (hF1 uW)
    have Ah := heap_of (hF1 uW) _ _ _ Aa
    obtain ⟨w3, hw⟩ : ∃ V, F uW = V := ⟨_, rfl⟩
    rw [hw] at B3 Ah
    try rw [hw]
    clear hw hF1 hF2 B2 fx_0 fx_1 fx_2 fx_3 Aa Ai Aj Ak Al
    clear F
    obtain ⟨Am, An, Ao, Ap⟩ := cells4s Ah
    go_wp2
    go_ret
    exact ⟨rfl, B3⟩
  ·
   have e0 := eq_nil n s hs h0
   have ho2 : o = true ↔ (n % 2 = 1 ∧ Nat.gcd n d = 1) := by rw [ho]; exact ⟨fun h => by rcases h.2.2 with h | h; exact absurd h.2.1 h0; exact ⟨h.1, h.2.2⟩, fun h => ⟨by omega, by omega, Or.inr ⟨h.1, hd, h.2⟩⟩⟩
   obtain ⟨p, hp⟩ : ∃ p, decide (n % 2 = 1) = p := ⟨_, rfl⟩
   obtain ⟨v, hv⟩ : ∃ v, nbA (Nat.gcd n d) = v := ⟨_, rfl⟩
   have e1 := eq_one _ v hv
   have HP := box hp
   have HV := box hv
   clear ho hs ht ln ld hd h1 h2 h0
   cases p
   ·
    have eo : o = false := by cases o; rfl; rw [decide_eq_true (ho2.1 rfl).1] at hp; exact hp
    subst eo
    clear ho2 hp hv e1
    obtain ⟨Ac, B0⟩ := opn1 w (Obj.cells #[.bool b, .string s, .string t, .int .i64 e] 63)
    go_enter Tryz.func123, Tryz.ntmps123
    go_wp2_with fail
    go_quiet (fail)
    obtain ⟨w1, hw, B1, hh⟩ := quiet_world B0 nq
    rw [hw]
    have Ab : w1.heap[w.heap.size]? = some (.cells #[.bool b, .string s, .string t, .int .i64 e] 63) := by rw [hh]; exact Ac
    clear hw hh B0 Ac
    obtain ⟨Ad, Ae, Af, Ag⟩ := cells4s Ab
    go_wp2_with fail
    refine (nat_may _ true H1.out _).mono ?_
    rintro r w' ⟨rfl, rfl⟩
    go_wp2_with fail
    refine (nat_may t true H2.out _).mono ?_
    rintro r w' ⟨rfl, rfl⟩
    go_wp2_with fail
    refine (rodd d t true HT.out LD.out D1.out _).mono ?_
    rintro r w2 ⟨rfl, b2⟩
    have B2 := btr B1 b2
    have Aa := heap_of b2 _ _ _ Ab
    clear b2 B1 Ab Ad Ae Af Ag
    obtain ⟨Ai, Aj, Ak, Al⟩ := cells4s Aa
    go_wp2_with fail
    refine (rodd n s false HS.out LN.out HP.out _).mono ?_
    rintro r w3 ⟨rfl, b3⟩
    have B3 := btr B2 b3
    have Ah := heap_of b3 _ _ _ Aa
    clear b3 B2 Aa Ai Aj Ak Al
    obtain ⟨Am, An, Ao, Ap⟩ := cells4s Ah
    go_wp2
    go_ret
    exact ⟨rfl, B3⟩
   ·
    have eo : decide (Nat.gcd n d = 1) = o := by
     rw [Bool.eq_iff_iff, ho2, decide_eq_true_iff]
     exact ⟨fun h => ⟨of_decide_eq_true hp, h⟩, fun h => h.2⟩
    rw [eo] at e1
    clear ho2 hp hv eo
    obtain ⟨Ac, B0⟩ := opn1 w (Obj.cells #[.bool b, .string s, .string t, .int .i64 e] 63)
    go_enter Tryz.func123, Tryz.ntmps123
    go_wp2_with fail
    go_quiet (fail)
    obtain ⟨w1, hw, B1, hh⟩ := quiet_world B0 nq
    rw [hw]
    have Ab : w1.heap[w.heap.size]? = some (.cells #[.bool b, .string s, .string t, .int .i64 e] 63) := by rw [hh]; exact Ac
    clear hw hh B0 Ac
    obtain ⟨Ad, Ae, Af, Ag⟩ := cells4s Ab
    go_wp2_with fail
    refine (nat_may _ true H1.out _).mono ?_
    rintro r w' ⟨rfl, rfl⟩
    go_wp2_with fail
    refine (nat_may t true H2.out _).mono ?_
    rintro r w' ⟨rfl, rfl⟩
    go_wp2_with fail
    refine (rodd d t true HT.out LD.out D1.out _).mono ?_
    rintro r w2 ⟨rfl, b2⟩
    have B2 := btr B1 b2
    have Aa := heap_of b2 _ _ _ Ab
    clear b2 B1 Ab Ad Ae Af Ag
    obtain ⟨Ai, Aj, Ak, Al⟩ := cells4s Aa
    go_wp2_with fail
    refine (rodd n s true HS.out LN.out HP.out _).mono ?_
    rintro r w3 ⟨rfl, b3⟩
    have B3 := btr B2 b3
    have Ah := heap_of b3 _ _ _ Aa
    clear b3 B2 Aa Ai Aj Ak Al
    obtain ⟨Am, An, Ao, Ap⟩ := cells4s Ah
    go_wp2_with fail
    refine (nat_Gcd n d s t v HS.out HT.out LN.out LD.out HV.out _).mono ?_
    rintro r w4 ⟨rfl, b4⟩
    have B4 := btr B3 b4
    have Aq := heap_of b4 _ _ _ Ah
    clear b4 B3 Ah Am An Ao Ap
    obtain ⟨Ar, As, At, Au⟩ := cells4s Aq
    go_wp2
    go_ret
    exact ⟨rfl, B4⟩
 ·
  have D1 : Box (decide (d % 2 = 1) = false) := box (decide_eq_false hd)
  have eo : o = false := by cases o; rfl; have := ho.1 rfl; omega
  subst eo
  clear ho hs ht ln ld hd
  obtain ⟨Ac, B0⟩ := opn1 w (Obj.cells #[.bool b, .string s, .string t, .int .i64 e] 63)
  go_enter Tryz.func123, Tryz.ntmps123
  go_wp2_with fail
  go_quiet (fail)
  obtain ⟨w1, hw, B1, hh⟩ := quiet_world B0 nq
  rw [hw]
  have Ab : w1.heap[w.heap.size]? = some (.cells #[.bool b, .string s, .string t, .int .i64 e] 63) := by rw [hh]; exact Ac
  clear hw hh B0 Ac
  obtain ⟨Ad, Ae, Af, Ag⟩ := cells4s Ab
  go_wp2_with fail
  refine (nat_may s true H1.out _).mono ?_
  rintro r w' ⟨rfl, rfl⟩
  go_wp2_with fail
  refine (nat_may t true H2.out _).mono ?_
  rintro r w' ⟨rfl, rfl⟩
  go_wp2_with fail
  refine (rodd d t false HT.out LD.out D1.out _).mono ?_
  rintro r w2 ⟨rfl, b2⟩
  have B2 := btr B1 b2
  have Aa := heap_of b2 _ _ _ Ab
  clear b2 B1 Ab Ad Ae Af Ag
  obtain ⟨Ai, Aj, Ak, Al⟩ := cells4s Aa
  go_wp2
  go_ret
  exact ⟨rfl, B2⟩
theorem xmayM (b : Bool) (s t : ByteArray) (e : Int) (o : Bool) (ho : IsM o b s t e) (w : World) : Calls Tryz.prog 123 #[.agg #[.bool b, .string s, .string t, .int .i64 e]] w fun r w' => r = .returned (.bool o) ∧ Below w.heap.size w w' := xmay b s t e o ho w
theorem mk_cases (neg : Bool) (n d : Nat) (e : Int) (rb : Bool) (rn rd : Nat) (re err : Int) (n0 : n ≠ 0) (hr : XMath.mk neg n d e = (⟨rb, rn, rd, re⟩, err)) :
  ((-1048576 ≤ e + (tz n : Int) - (tz d : Int) ∧ e + (tz n : Int) - (tz d : Int) ≤ 1048576) ∧ rb = neg ∧ rn = od n / Nat.gcd (od n) (od d) ∧ rd = od d / Nat.gcd (od n) (od d) ∧ re = e + (tz n : Int) - (tz d : Int) ∧ err = 0) ∨
  (¬ (-1048576 ≤ e + (tz n : Int) - (tz d : Int) ∧ e + (tz n : Int) - (tz d : Int) ≤ 1048576) ∧ rb = false ∧ rn = 0 ∧ rd = 0 ∧ re = 0 ∧ err = 4) := by
 unfold XMath.mk at hr
 rw [if_neg n0] at hr
 by_cases h : -1048576 ≤ e + (tz n : Int) - (tz d : Int) ∧ e + (tz n : Int) - (tz d : Int) ≤ 1048576
 ·
  rw [if_pos h] at hr
  injection hr with h1 h2
  injection h1 with a b c d
  exact Or.inl ⟨h, a.symm, b.symm, c.symm, d.symm, h2.symm⟩
 ·
  rw [if_neg h] at hr
  injection hr with h1 h2
  unfold XZ at h1
  injection h1 with a b c d
  exact Or.inr ⟨h, a.symm, b.symm, c.symm, d.symm, h2.symm⟩

theorem may_yes {b : Bool} {n d : Nat} {s t : ByteArray} {e : Int} (hs : nbA n = s) (ht : nbA d = t) (hc : (XN.mk b n d e).can) : IsM true b s t e := ⟨fun _ => ⟨n, d, hs, ht, hc⟩, fun _ => rfl⟩
theorem can_null {b : Bool} {n d : Nat} {e : Int} (hc : (XN.mk b n d e).can) (h0 : n = 0) : b = false ∧ d = 1 ∧ e = 0 := by
 have h := hc.null h0
 unfold X0 at h
 injection h with h1 h2 h3 h4
 exact ⟨h1, h3, h4⟩

theorem x_cases {b : Bool} {n d : Nat} {e : Int} {s t : ByteArray} (hs : nbA n = s) (ht : nbA d = t) (hc : (XN.mk b n d e).can) : (n = 0 ∧ b = false ∧ s = ⟨#[]⟩ ∧ t = ⟨#[1]⟩ ∧ d = 1 ∧ e = 0) ∨ (n ≠ 0 ∧ (s.toList == []) = false) := by
 by_cases h0 : n = 0
 ·
  obtain ⟨h1, h2, h3⟩ := can_null hc h0
  subst h0 h2
  exact Or.inl ⟨rfl, h1, by rw [← hs, nbA_zero], by rw [← ht, nb1], rfl, h3⟩
 ·
  exact Or.inr ⟨h0, eq_nil n s hs h0⟩

theorem lg_no (n : Nat) (h : ¬ nl n ≤ 16384) : lg n = (⟨#[]⟩, 4) := by unfold lg; rw [if_neg h]
theorem cmpv_neg (a b : Nat) : cmpv a b < 0 ↔ a < b := by
 unfold cmpv
 split
 ·
  exact ⟨fun h => absurd h (by decide), fun h => by omega⟩
 ·
  split
  ·
   exact ⟨fun _ => by assumption, fun _ => by decide⟩
  ·
   exact ⟨fun h => absurd h (by decide), fun h => by omega⟩
theorem lf_up (a : Nat) (k : Nat) (v : ByteArray) (h : nl (a * 2 ^ k) ≤ 16384) (hv : nbA (a * 2 ^ k) = v) : lf a (k : Int) = (v, 0) := by
 unfold lf
 rw [if_neg (by omega), Int.toNat_natCast]
 exact lg_ok _ v h hv
theorem nl_blen (a b : Nat) (h : blen a = blen b) (hb : nl b ≤ 16384) : nl a ≤ 16384 := by unfold nl at hb ⊢; rw [h]; exact hb
theorem tAB_nl (x : XN) (n0 : x.n ≠ 0) (d0 : x.d ≠ 0) (ln : nl x.n ≤ 16384) (ld : nl x.d ≤ 16384) : nl (tA x) ≤ 16384 ∧ nl (tB x) ≤ 16384 := by
 obtain ⟨h1, _, _⟩ := tA_len x n0 d0
 by_cases h : 0 ≤ lenD x
 ·
  have e : tA x = x.n := by unfold tA; rw [show (max (-lenD x) 0).toNat = 0 by omega, Nat.pow_zero, Nat.mul_one]
  have k : nl (tA x) ≤ 16384 := by rw [e]; exact ln
  exact ⟨k, nl_blen _ _ h1.symm k⟩
 ·
  have e : tB x = x.d := by unfold tB; rw [show (max (lenD x) 0).toNat = 0 by omega, Nat.pow_zero, Nat.mul_one]
  have k : nl (tB x) ≤ 16384 := by rw [e]; exact ld
  exact ⟨nl_blen _ _ h1 k, k⟩

theorem rmake_ok (neg : Bool) (n d : Nat) (e : Int) (s t : ByteArray) (rb : Bool) (rn rd : Nat) (re err : Int) (u v : ByteArray) (hs : nbA n = s) (ht : nbA d = t) (ln : nl n ≤ 16384) (ld : nl d ≤ 16384) (d0 : d ≠ 0) (he1 : -1048576 ≤ e) (he2 : e ≤ 1048576)
  (hr : XMath.mk neg n d e = (⟨rb, rn, rd, re⟩, err)) (hu : nbA rn = u) (hv : nbA rd = v) (w : World) :
  Calls Tryz.prog 70 #[.bool neg, .string s, .string t, .int .i64 e] w fun r w' => r = .returned (.tuple #[.agg #[.bool rb, .string u, .string v, .int .i64 re], .int .i64 err]) ∧ Below w.heap.size w w' := by
 have e0 := eq_nil d t ht d0
 have H1 : Box (mayB s = true) := box (by rw [← hs]; exact mayB_nb n ln)
 have H2 : Box (mayB t = true) := box (by rw [← ht]; exact mayB_nb d ld)
 have g1 : decide (e < -1048576) = false := decide_eq_false (by omega)
 have g2 : decide (1048576 < e) = false := decide_eq_false (by omega)
 by_cases n0 : n = 0
 ·
  subst n0
  rw [mk_null] at hr
  injection hr with h1 h2
  unfold X0 at h1
  injection h1 with a b c d
  subst a b c d h2
  rw [nbA_zero] at hs hu
  rw [nb1] at hv
  subst hs hu hv
  clear ht ln ld d0
  obtain ⟨Ad, B0⟩ := opn1 w (Obj.cells #[.bool false, .string ⟨#[]⟩, .string ⟨#[]⟩, .int .i64 0] 63)
  go_enter Tryz.func70, Tryz.ntmps70
  go_wp2_with fail
  refine (nat_may _ true H1.out _).mono ?_
  rintro r w' ⟨rfl, rfl⟩
  go_wp2_with fail
  refine (nat_may t true H2.out _).mono ?_
  rintro r w' ⟨rfl, rfl⟩
  go_wp2_with fail
  refine (xnull _).mono ?_
  rintro r w1 ⟨rfl, b1⟩
  have B1 := btr B0 b1
  have Ab := heap_of b1 _ _ _ Ad
  clear b1 B0 Ad
  obtain ⟨Af, Ag, Ah, Ai⟩ := cells4s Ab
  have q0 := fz (k := 0) Ab
  have q1 := fz (k := 1) Ab
  have q2 := fz (k := 2) Ab
  have q3 := fz (k := 3) Ab
  obtain ⟨E0, E1, E2, E3⟩ := set4_cells Ab rfl (.bool false) (.string ⟨#[]⟩) (.string ⟨#[1]⟩) (.int .i64 0)
  go_wp2
  exact bodyPost_ret (v := .tuple #[.agg #[.bool false, .string ⟨#[]⟩, .string ⟨#[1]⟩, .int .i64 0], .int .i64 0]) (by simp [results, Tryz.results70, go_sem, E0, E1, E2, E3]) rfl ⟨rfl, set4_below B1 (by first | exact Nat.le_refl _ | omega) _ _ _ _⟩
 ·
  have e1 := eq_nil n s hs n0
  obtain ⟨x, hx⟩ : ∃ x, tz n = x := ⟨_, rfl⟩
  obtain ⟨y, hy⟩ : ∃ x, tz d = x := ⟨_, rfl⟩
  have LX := box (tz_low n)
  have LY := box (tz_low d)
  have x2 : x ≤ 131072 := by have := tz_blen n; rw [hx] at this; unfold nl at ln; omega
  have y2 : y ≤ 131072 := by have := tz_blen d; rw [hy] at this; unfold nl at ld; omega
  have hc := mk_cases neg n d e rb rn rd re err n0 hr
  rw [hx, hy] at hc
  rw [hx] at LX
  rw [hy] at LY
  have HS := box hs
  have HT := box ht
  have LN := box ln
  have LD := box ld
  obtain ⟨E, hE⟩ : ∃ E, e + (x : Int) - (y : Int) = E := ⟨_, rfl⟩
  rw [hE] at hc
  have k1 : IntKind.i64.wrap (e + (x : Int)) = e + (x : Int) := wrap_i64_is _ (by omega) (by omega)
  have k2 : IntKind.i64.wrap (e + (x : Int) - (y : Int)) = E := by rw [wrap_i64_is _ (by omega) (by omega)]; omega
  obtain ⟨o1, o2⟩ := od_is n n0
  obtain ⟨o3, o4⟩ := od_is d d0
  obtain ⟨p, hp⟩ : ∃ p, nbA (od n) = p := ⟨_, rfl⟩
  obtain ⟨q, hq⟩ : ∃ p, nbA (od d) = p := ⟨_, rfl⟩
  have L1 : Box (nl (od n) ≤ 16384) := box (Nat.le_trans (nl_mono _ _ (od_le n)) ln)
  have L2 : Box (nl (od d) ≤ 16384) := box (Nat.le_trans (nl_mono _ _ (od_le d)) ld)
  have HP := box hp
  have HQ := box hq
  have P1 : Box (nbA (n / 2 ^ (x : Int).toNat) = p) := box (by rw [Int.toNat_natCast, ← hx]; exact hp)
  have Q1 : Box (nbA (d / 2 ^ (y : Int).toNat) = q) := box (by rw [Int.toNat_natCast, ← hy]; exact hq)
  obtain ⟨b1, hb1⟩ : ∃ o, decide (n % 2 ^ (x : Int).toNat ≠ 0) = o := ⟨_, rfl⟩
  obtain ⟨b2, hb2⟩ : ∃ o, decide (d % 2 ^ (y : Int).toNat ≠ 0) = o := ⟨_, rfl⟩
  have O1 := box hb1
  have O2 := box hb2
  obtain ⟨gg, hgg⟩ : ∃ g, Nat.gcd (od n) (od d) = g := ⟨_, rfl⟩
  obtain ⟨h, hh⟩ : ∃ h, nbA gg = h := ⟨_, rfl⟩
  have HG : Box (nbA (Nat.gcd (od n) (od d)) = h) := box (by rw [hgg]; exact hh)
  have HH := box hh
  have eo := eq_one gg h hh
  have G0 : Box (gg ≠ 0) := box (by rw [← hgg]; exact Nat.pos_iff_ne_zero.1 (Nat.gcd_pos_of_pos_left _ (by omega)))
  rw [hgg] at hc
  obtain ⟨un, hun⟩ : ∃ u, nbA (od n / gg) = u := ⟨_, rfl⟩
  obtain ⟨ud, hud⟩ : ∃ u, nbA (od d / gg) = u := ⟨_, rfl⟩
  obtain ⟨vn, hvn⟩ : ∃ u, nbA (od n % gg) = u := ⟨_, rfl⟩
  obtain ⟨vd, hvd⟩ : ∃ u, nbA (od d % gg) = u := ⟨_, rfl⟩
  have U1 := box hun
  have U2 := box hud
  have U3 := box hvn
  have U4 := box hvd
  by_cases g1' : gg = 1
  ·
   rw [decide_eq_true g1'] at eo
   have en : un = p := by rw [← hun, g1', Nat.div_one, hp]
   have ed : ud = q := by rw [← hud, g1', Nat.div_one, hq]
   rcases hc with ⟨hc, rfl, rfl, rfl, rfl, rfl⟩ | ⟨hc, rfl, rfl, rfl, rfl, rfl⟩
   ·
    rw [hun] at hu
    rw [hud] at hv
    subst hu hv
    subst en ed
    have c1 : decide (re < -1048576) = false := decide_eq_false (by omega)
    have c2 : decide (1048576 < re) = false := decide_eq_false (by omega)
    clear hs ht ln ld hr hx hy hE hc o1 o2 o3 o4 hp hq n0 d0 hb1 hb2 hgg hh hun hud hvn hvd g1' U1 U2 U3 U4
    obtain ⟨Ad, B0⟩ := opn1 w (Obj.cells #[.bool false, .string ⟨#[]⟩, .string ⟨#[]⟩, .int .i64 0] 63)
    go_enter Tryz.func70, Tryz.ntmps70
    go_wp2_with fail
    refine (nat_may s true H1.out _).mono ?_
    rintro r w' ⟨rfl, rfl⟩
    go_wp2_with fail
    refine (nat_may t true H2.out _).mono ?_
    rintro r w' ⟨rfl, rfl⟩
    go_wp2_with fail
    refine (nat_Low n x s HS.out LN.out LX.out _).mono ?_
    rintro r w' ⟨rfl, rfl⟩
    go_wp2_with fail
    refine (nat_Low d y t HT.out LD.out LY.out _).mono ?_
    rintro r w' ⟨rfl, rfl⟩
    go_wp2_with fail
    refine (nat_Right n (x : Int) s un b1 HS.out LN.out (by omega) (by omega) P1.out O1.out _).mono ?_
    rintro r w1 ⟨rfl, b1⟩
    have B1 := btr B0 b1
    have Ab := heap_of b1 _ _ _ Ad
    clear b1 B0 Ad
    obtain ⟨Af, Ag, Ah, Ai⟩ := cells4s Ab
    go_wp2_with fail
    refine (nat_Right d (y : Int) t ud b2 HT.out LD.out (by omega) (by omega) Q1.out O2.out _).mono ?_
    rintro r w2 ⟨rfl, b2⟩
    have B2 := btr B1 b2
    have Ac := heap_of b2 _ _ _ Ab
    clear b2 B1 Ab Af Ag Ah Ai
    obtain ⟨Aj, Ak, Al, Am⟩ := cells4s Ac
    go_wp2_with fail
    refine (nat_Gcd (od n) (od d) un ud h HP.out HQ.out L1.out L2.out HG.out _).mono ?_
    rintro r w3 ⟨rfl, b3⟩
    have B3 := btr B2 b3
    have Aa := heap_of b3 _ _ _ Ac
    clear b3 B2 Ac Aj Ak Al Am
    obtain ⟨Ao, Ap, Aq, Ar⟩ := cells4s Aa
    have q0 := fz (k := 0) Aa
    have q1 := fz (k := 1) Aa
    have q2 := fz (k := 2) Aa
    have q3 := fz (k := 3) Aa
    obtain ⟨E0, E1, E2, E3⟩ := set4_cells Aa rfl (.bool rb) (.string un) (.string ud) (.int .i64 re)
    go_wp2
    exact bodyPost_ret (v := .tuple #[.agg #[.bool rb, .string un, .string ud, .int .i64 re], .int .i64 0]) (by simp [results, Tryz.results70, go_sem, E0, E1, E2, E3]) rfl ⟨rfl, set4_below B3 (by first | exact Nat.le_refl _ | omega) _ _ _ _⟩
   ·
    rw [nbA_zero] at hu hv
    subst hu hv
    have c0 : E < -1048576 ∨ 1048576 < E := by omega
    have c12 : decide (E < -1048576) = true ∨ (decide (E < -1048576) = false ∧ decide (1048576 < E) = true) := by
     by_cases hh : E < -1048576
     ·
      exact Or.inl (decide_eq_true hh)
     ·
      exact Or.inr ⟨decide_eq_false hh, decide_eq_true (by omega)⟩
    clear hs ht ln ld hr hx hy hE hc o1 o2 o3 o4 hp hq n0 d0 hb1 hb2 hgg hh hun hud hvn hvd g1' U1 U2 U3 U4 en ed c0
    rcases c12 with c1 | ⟨c1, c2⟩
    ·
     obtain ⟨Ad, B0⟩ := opn1 w (Obj.cells #[.bool false, .string ⟨#[]⟩, .string ⟨#[]⟩, .int .i64 0] 63)
     go_enter Tryz.func70, Tryz.ntmps70
     go_wp2_with fail
     refine (nat_may s true H1.out _).mono ?_
     rintro r w' ⟨rfl, rfl⟩
     go_wp2_with fail
     refine (nat_may t true H2.out _).mono ?_
     rintro r w' ⟨rfl, rfl⟩
     go_wp2_with fail
     refine (nat_Low n x s HS.out LN.out LX.out _).mono ?_
     rintro r w' ⟨rfl, rfl⟩
     go_wp2_with fail
     refine (nat_Low d y t HT.out LD.out LY.out _).mono ?_
     rintro r w' ⟨rfl, rfl⟩
     go_wp2_with fail
     refine (nat_Right n (x : Int) s p b1 HS.out LN.out (by omega) (by omega) P1.out O1.out _).mono ?_
     rintro r w1 ⟨rfl, b1⟩
     have B1 := btr B0 b1
     have Ab := heap_of b1 _ _ _ Ad
     clear b1 B0 Ad
     obtain ⟨Af, Ag, Ah, Ai⟩ := cells4s Ab
     go_wp2_with fail
     refine (nat_Right d (y : Int) t q b2 HT.out LD.out (by omega) (by omega) Q1.out O2.out _).mono ?_
     rintro r w2 ⟨rfl, b2⟩
     have B2 := btr B1 b2
     have Ac := heap_of b2 _ _ _ Ab
     clear b2 B1 Ab Af Ag Ah Ai
     obtain ⟨Aj, Ak, Al, Am⟩ := cells4s Ac
     go_wp2_with fail
     refine (nat_Gcd (od n) (od d) p q h HP.out HQ.out L1.out L2.out HG.out _).mono ?_
     rintro r w3 ⟨rfl, b3⟩
     have B3 := btr B2 b3
     have Aa := heap_of b3 _ _ _ Ac
     clear b3 B2 Ac Aj Ak Al Am
     obtain ⟨Ao, Ap, Aq, Ar⟩ := cells4s Aa
     have q0 := fz (k := 0) Aa
     have q1 := fz (k := 1) Aa
     have q2 := fz (k := 2) Aa
     have q3 := fz (k := 3) Aa
     obtain ⟨E0, E1, E2, E3⟩ := set4_cells Aa rfl (.bool false) (.string ⟨#[]⟩) (.string ⟨#[]⟩) (.int .i64 0)
     go_wp2
     exact bodyPost_ret (v := .tuple #[.agg #[.bool false, .string ⟨#[]⟩, .string ⟨#[]⟩, .int .i64 0], .int .i64 4]) (by simp [results, Tryz.results70, go_sem, E0, E1, E2, E3]) rfl ⟨rfl, set4_below B3 (by first | exact Nat.le_refl _ | omega) _ _ _ _⟩
    ·
     obtain ⟨Ad, B0⟩ := opn1 w (Obj.cells #[.bool false, .string ⟨#[]⟩, .string ⟨#[]⟩, .int .i64 0] 63)
     go_enter Tryz.func70, Tryz.ntmps70
     go_wp2_with fail
     refine (nat_may s true H1.out _).mono ?_
     rintro r w' ⟨rfl, rfl⟩
     go_wp2_with fail
     refine (nat_may t true H2.out _).mono ?_
     rintro r w' ⟨rfl, rfl⟩
     go_wp2_with fail
     refine (nat_Low n x s HS.out LN.out LX.out _).mono ?_
     rintro r w' ⟨rfl, rfl⟩
     go_wp2_with fail
     refine (nat_Low d y t HT.out LD.out LY.out _).mono ?_
     rintro r w' ⟨rfl, rfl⟩
     go_wp2_with fail
     refine (nat_Right n (x : Int) s p b1 HS.out LN.out (by omega) (by omega) P1.out O1.out _).mono ?_
     rintro r w1 ⟨rfl, b1⟩
     have B1 := btr B0 b1
     have Ab := heap_of b1 _ _ _ Ad
     clear b1 B0 Ad
     obtain ⟨Af, Ag, Ah, Ai⟩ := cells4s Ab
     go_wp2_with fail
     refine (nat_Right d (y : Int) t q b2 HT.out LD.out (by omega) (by omega) Q1.out O2.out _).mono ?_
     rintro r w2 ⟨rfl, b2⟩
     have B2 := btr B1 b2
     have Ac := heap_of b2 _ _ _ Ab
     clear b2 B1 Ab Af Ag Ah Ai
     obtain ⟨Aj, Ak, Al, Am⟩ := cells4s Ac
     go_wp2_with fail
     refine (nat_Gcd (od n) (od d) p q h HP.out HQ.out L1.out L2.out HG.out _).mono ?_
     rintro r w3 ⟨rfl, b3⟩
     have B3 := btr B2 b3
     have Aa := heap_of b3 _ _ _ Ac
     clear b3 B2 Ac Aj Ak Al Am
     obtain ⟨Ao, Ap, Aq, Ar⟩ := cells4s Aa
     have q0 := fz (k := 0) Aa
     have q1 := fz (k := 1) Aa
     have q2 := fz (k := 2) Aa
     have q3 := fz (k := 3) Aa
     obtain ⟨E0, E1, E2, E3⟩ := set4_cells Aa rfl (.bool false) (.string ⟨#[]⟩) (.string ⟨#[]⟩) (.int .i64 0)
     go_wp2
     exact bodyPost_ret (v := .tuple #[.agg #[.bool false, .string ⟨#[]⟩, .string ⟨#[]⟩, .int .i64 0], .int .i64 4]) (by simp [results, Tryz.results70, go_sem, E0, E1, E2, E3]) rfl ⟨rfl, set4_below B3 (by first | exact Nat.le_refl _ | omega) _ _ _ _⟩
  ·
   rw [decide_eq_false g1'] at eo
   rcases hc with ⟨hc, rfl, rfl, rfl, rfl, rfl⟩ | ⟨hc, rfl, rfl, rfl, rfl, rfl⟩
   ·
    rw [hun] at hu
    rw [hud] at hv
    subst hu hv
    have c1 : decide (re < -1048576) = false := decide_eq_false (by omega)
    have c2 : decide (1048576 < re) = false := decide_eq_false (by omega)
    clear hs ht ln ld hr hx hy hE hc o1 o2 o3 o4 hp hq n0 d0 hb1 hb2 hgg hh hun hud hvn hvd g1'
    obtain ⟨Ad, B0⟩ := opn1 w (Obj.cells #[.bool false, .string ⟨#[]⟩, .string ⟨#[]⟩, .int .i64 0] 63)
    go_enter Tryz.func70, Tryz.ntmps70
    go_wp2_with fail
    refine (nat_may s true H1.out _).mono ?_
    rintro r w' ⟨rfl, rfl⟩
    go_wp2_with fail
    refine (nat_may t true H2.out _).mono ?_
    rintro r w' ⟨rfl, rfl⟩
    go_wp2_with fail
    refine (nat_Low n x s HS.out LN.out LX.out _).mono ?_
    rintro r w' ⟨rfl, rfl⟩
    go_wp2_with fail
    refine (nat_Low d y t HT.out LD.out LY.out _).mono ?_
    rintro r w' ⟨rfl, rfl⟩
    go_wp2_with fail
    refine (nat_Right n (x : Int) s p b1 HS.out LN.out (by omega) (by omega) P1.out O1.out _).mono ?_
    rintro r w1 ⟨rfl, b1⟩
    have B1 := btr B0 b1
    have Ab := heap_of b1 _ _ _ Ad
    clear b1 B0 Ad
    obtain ⟨Af, Ag, Ah, Ai⟩ := cells4s Ab
    go_wp2_with fail
    refine (nat_Right d (y : Int) t q b2 HT.out LD.out (by omega) (by omega) Q1.out O2.out _).mono ?_
    rintro r w2 ⟨rfl, b2⟩
    have B2 := btr B1 b2
    have Ac := heap_of b2 _ _ _ Ab
    clear b2 B1 Ab Af Ag Ah Ai
    obtain ⟨Aj, Ak, Al, Am⟩ := cells4s Ac
    go_wp2_with fail
    refine (nat_Gcd (od n) (od d) p q h HP.out HQ.out L1.out L2.out HG.out _).mono ?_
    rintro r w3 ⟨rfl, b3⟩
    have B3 := btr B2 b3
    have Aa := heap_of b3 _ _ _ Ac
    clear b3 B2 Ac Aj Ak Al Am
    obtain ⟨Ao, Ap, Aq, Ar⟩ := cells4s Aa
    go_wp2_with fail
    refine (nat_Div (od n) gg p h un vn HP.out HH.out L1.out G0.out U1.out U3.out _).mono ?_
    rintro r w4 ⟨rfl, b4⟩
    have B4 := btr B3 b4
    have An := heap_of b4 _ _ _ Aa
    clear b4 B3 Aa Ao Ap Aq Ar
    obtain ⟨As, At, Au, Av⟩ := cells4s An
    go_wp2_with fail
    refine (nat_Div (od d) gg q h ud vd HQ.out HH.out L2.out G0.out U2.out U4.out _).mono ?_
    rintro r w5 ⟨rfl, b5⟩
    have B5 := btr B4 b5
    have Ae := heap_of b5 _ _ _ An
    clear b5 B4 An As At Au Av
    obtain ⟨Aw, Ax, Ay, Az⟩ := cells4s Ae
    have q0 := fz (k := 0) Ae
    have q1 := fz (k := 1) Ae
    have q2 := fz (k := 2) Ae
    have q3 := fz (k := 3) Ae
    obtain ⟨E0, E1, E2, E3⟩ := set4_cells Ae rfl (.bool rb) (.string un) (.string ud) (.int .i64 re)
    go_wp2
    exact bodyPost_ret (v := .tuple #[.agg #[.bool rb, .string un, .string ud, .int .i64 re], .int .i64 0]) (by simp [results, Tryz.results70, go_sem, E0, E1, E2, E3]) rfl ⟨rfl, set4_below B5 (by first | exact Nat.le_refl _ | omega) _ _ _ _⟩
   ·
    rw [nbA_zero] at hu hv
    subst hu hv
    have c0 : E < -1048576 ∨ 1048576 < E := by omega
    have c12 : decide (E < -1048576) = true ∨ (decide (E < -1048576) = false ∧ decide (1048576 < E) = true) := by
     by_cases hh : E < -1048576
     ·
      exact Or.inl (decide_eq_true hh)
     ·
      exact Or.inr ⟨decide_eq_false hh, decide_eq_true (by omega)⟩
    clear hs ht ln ld hr hx hy hE hc o1 o2 o3 o4 hp hq n0 d0 hb1 hb2 hgg hh hun hud hvn hvd g1' c0
    rcases c12 with c1 | ⟨c1, c2⟩
    ·
     obtain ⟨Ad, B0⟩ := opn1 w (Obj.cells #[.bool false, .string ⟨#[]⟩, .string ⟨#[]⟩, .int .i64 0] 63)
     go_enter Tryz.func70, Tryz.ntmps70
     go_wp2_with fail
     refine (nat_may s true H1.out _).mono ?_
     rintro r w' ⟨rfl, rfl⟩
     go_wp2_with fail
     refine (nat_may t true H2.out _).mono ?_
     rintro r w' ⟨rfl, rfl⟩
     go_wp2_with fail
     refine (nat_Low n x s HS.out LN.out LX.out _).mono ?_
     rintro r w' ⟨rfl, rfl⟩
     go_wp2_with fail
     refine (nat_Low d y t HT.out LD.out LY.out _).mono ?_
     rintro r w' ⟨rfl, rfl⟩
     go_wp2_with fail
     refine (nat_Right n (x : Int) s p b1 HS.out LN.out (by omega) (by omega) P1.out O1.out _).mono ?_
     rintro r w1 ⟨rfl, b1⟩
     have B1 := btr B0 b1
     have Ab := heap_of b1 _ _ _ Ad
     clear b1 B0 Ad
     obtain ⟨Af, Ag, Ah, Ai⟩ := cells4s Ab
     go_wp2_with fail
     refine (nat_Right d (y : Int) t q b2 HT.out LD.out (by omega) (by omega) Q1.out O2.out _).mono ?_
     rintro r w2 ⟨rfl, b2⟩
     have B2 := btr B1 b2
     have Ac := heap_of b2 _ _ _ Ab
     clear b2 B1 Ab Af Ag Ah Ai
     obtain ⟨Aj, Ak, Al, Am⟩ := cells4s Ac
     go_wp2_with fail
     refine (nat_Gcd (od n) (od d) p q h HP.out HQ.out L1.out L2.out HG.out _).mono ?_
     rintro r w3 ⟨rfl, b3⟩
     have B3 := btr B2 b3
     have Aa := heap_of b3 _ _ _ Ac
     clear b3 B2 Ac Aj Ak Al Am
     obtain ⟨Ao, Ap, Aq, Ar⟩ := cells4s Aa
     go_wp2_with fail
     refine (nat_Div (od n) gg p h un vn HP.out HH.out L1.out G0.out U1.out U3.out _).mono ?_
     rintro r w4 ⟨rfl, b4⟩
     have B4 := btr B3 b4
     have An := heap_of b4 _ _ _ Aa
     clear b4 B3 Aa Ao Ap Aq Ar
     obtain ⟨As, At, Au, Av⟩ := cells4s An
     go_wp2_with fail
     refine (nat_Div (od d) gg q h ud vd HQ.out HH.out L2.out G0.out U2.out U4.out _).mono ?_
     rintro r w5 ⟨rfl, b5⟩
     have B5 := btr B4 b5
     have Ae := heap_of b5 _ _ _ An
     clear b5 B4 An As At Au Av
     obtain ⟨Aw, Ax, Ay, Az⟩ := cells4s Ae
     have q0 := fz (k := 0) Ae
     have q1 := fz (k := 1) Ae
     have q2 := fz (k := 2) Ae
     have q3 := fz (k := 3) Ae
     obtain ⟨E0, E1, E2, E3⟩ := set4_cells Ae rfl (.bool false) (.string ⟨#[]⟩) (.string ⟨#[]⟩) (.int .i64 0)
     go_wp2
     exact bodyPost_ret (v := .tuple #[.agg #[.bool false, .string ⟨#[]⟩, .string ⟨#[]⟩, .int .i64 0], .int .i64 4]) (by simp [results, Tryz.results70, go_sem, E0, E1, E2, E3]) rfl ⟨rfl, set4_below B5 (by first | exact Nat.le_refl _ | omega) _ _ _ _⟩
    ·
     obtain ⟨Ad, B0⟩ := opn1 w (Obj.cells #[.bool false, .string ⟨#[]⟩, .string ⟨#[]⟩, .int .i64 0] 63)
     go_enter Tryz.func70, Tryz.ntmps70
     go_wp2_with fail
     refine (nat_may s true H1.out _).mono ?_
     rintro r w' ⟨rfl, rfl⟩
     go_wp2_with fail
     refine (nat_may t true H2.out _).mono ?_
     rintro r w' ⟨rfl, rfl⟩
     go_wp2_with fail
     refine (nat_Low n x s HS.out LN.out LX.out _).mono ?_
     rintro r w' ⟨rfl, rfl⟩
     go_wp2_with fail
     refine (nat_Low d y t HT.out LD.out LY.out _).mono ?_
     rintro r w' ⟨rfl, rfl⟩
     go_wp2_with fail
     refine (nat_Right n (x : Int) s p b1 HS.out LN.out (by omega) (by omega) P1.out O1.out _).mono ?_
     rintro r w1 ⟨rfl, b1⟩
     have B1 := btr B0 b1
     have Ab := heap_of b1 _ _ _ Ad
     clear b1 B0 Ad
     obtain ⟨Af, Ag, Ah, Ai⟩ := cells4s Ab
     go_wp2_with fail
     refine (nat_Right d (y : Int) t q b2 HT.out LD.out (by omega) (by omega) Q1.out O2.out _).mono ?_
     rintro r w2 ⟨rfl, b2⟩
     have B2 := btr B1 b2
     have Ac := heap_of b2 _ _ _ Ab
     clear b2 B1 Ab Af Ag Ah Ai
     obtain ⟨Aj, Ak, Al, Am⟩ := cells4s Ac
     go_wp2_with fail
     refine (nat_Gcd (od n) (od d) p q h HP.out HQ.out L1.out L2.out HG.out _).mono ?_
     rintro r w3 ⟨rfl, b3⟩
     have B3 := btr B2 b3
     have Aa := heap_of b3 _ _ _ Ac
     clear b3 B2 Ac Aj Ak Al Am
     obtain ⟨Ao, Ap, Aq, Ar⟩ := cells4s Aa
     go_wp2_with fail
     refine (nat_Div (od n) gg p h un vn HP.out HH.out L1.out G0.out U1.out U3.out _).mono ?_
     rintro r w4 ⟨rfl, b4⟩
     have B4 := btr B3 b4
     have An := heap_of b4 _ _ _ Aa
     clear b4 B3 Aa Ao Ap Aq Ar
     obtain ⟨As, At, Au, Av⟩ := cells4s An
     go_wp2_with fail
     refine (nat_Div (od d) gg q h ud vd HQ.out HH.out L2.out G0.out U2.out U4.out _).mono ?_
     rintro r w5 ⟨rfl, b5⟩
     have B5 := btr B4 b5
     have Ae := heap_of b5 _ _ _ An
     clear b5 B4 An As At Au Av
     obtain ⟨Aw, Ax, Ay, Az⟩ := cells4s Ae
     have q0 := fz (k := 0) Ae
     have q1 := fz (k := 1) Ae
     have q2 := fz (k := 2) Ae
     have q3 := fz (k := 3) Ae
     obtain ⟨E0, E1, E2, E3⟩ := set4_cells Ae rfl (.bool false) (.string ⟨#[]⟩) (.string ⟨#[]⟩) (.int .i64 0)
     go_wp2
     exact bodyPost_ret (v := .tuple #[.agg #[.bool false, .string ⟨#[]⟩, .string ⟨#[]⟩, .int .i64 0], .int .i64 4]) (by simp [results, Tryz.results70, go_sem, E0, E1, E2, E3]) rfl ⟨rfl, set4_below B5 (by first | exact Nat.le_refl _ | omega) _ _ _ _⟩

theorem below_top (x : XN) (k : Int) (i : Nat) (hx : x.can) (hk : x.e + (i : Int) = k) (h : (2 : Rat) ^ k ≤ x.mag) : x.d * 2 ^ i ≤ x.n := by
 have d0 := hx.d0
 have m := Rat.mul_le_mul_of_nonneg_right h (Rat.le_of_lt (cast_pos d0))
 have e1 : x.mag * (x.d : Rat) = (x.n : Rat) * (2 : Rat) ^ x.e := by
  unfold XN.mag
  have z := cast_ne d0
  grind
 have e2 : (2 : Rat) ^ k * (x.d : Rat) = ((x.d * 2 ^ i : Nat) : Rat) * (2 : Rat) ^ x.e := by
  rw [← hk, p2add, Rat.natCast_mul, ← p2nat]
  grind
 rw [e1, e2] at m
 have m2 := Rat.le_of_mul_le_mul_right m (p2 x.e)
 exact Rat.natCast_le_natCast.1 m2
theorem rshifted (a k : Nat) (s v : ByteArray) (hs : nbA a = s) (ha : nl a ≤ 16384) (k2 : k ≤ 1000000) (h : nl (a * 2 ^ k) ≤ 16384) (hv : nbA (a * 2 ^ k) = v) (w : World) : Calls Tryz.prog 174 #[.string s, .int .i64 (k : Int)] w fun r w' => r = .returned (.string v) ∧ Below w.heap.size w w' := by
 have F1 := box (lf_up a k v h hv)
 have HS := box hs
 have HA := box ha
 clear hs ha h hv
 have B0 : Below w.heap.size w w := (Below.refl _ _)
 go_enter Tryz.func174, Tryz.ntmps174
 go_wp2_with fail
 refine (nat_Left a (k : Int) s v 0 HS.out HA.out (by omega) F1.out _).mono ?_
 rintro r w1 ⟨rfl, b1⟩
 have B1 := btr B0 b1
 clear b1 B0 
 go_wp2
 go_ret
 exact ⟨rfl, B1⟩

theorem rTop_ok (b : Bool) (n d : Nat) (e : Int) (s t : ByteArray) (T : Int) (hs : nbA n = s) (ht : nbA d = t) (n0 : n ≠ 0) (hc : (XN.mk b n d e).can) (hr : topX (XN.mk b n d e) = T) (w : World) : Calls Tryz.prog 161 #[.agg #[.bool b, .string s, .string t, .int .i64 e]] w fun r w' => r = .returned (.tuple #[.int .i64 T, .int .i64 0]) ∧ Below w.heap.size w w' := by
 have e0 := eq_nil n s hs n0
 have d0 : d ≠ 0 := hc.d0
 have ln : nl n ≤ 16384 := hc.1
 have ld : nl d ≤ 16384 := hc.2.1
 have he : -1048576 ≤ e ∧ e ≤ 1048576 := ⟨hc.2.2.1, hc.2.2.2.1⟩
 obtain ⟨l1, l2⟩ := tAB_nl (XN.mk b n d e) n0 d0 ln ld
 obtain ⟨x, hx⟩ : ∃ x, blen n = x := ⟨_, rfl⟩
 obtain ⟨y, hy⟩ : ∃ x, blen d = x := ⟨_, rfl⟩
 have x2 : x ≤ 131072 := by unfold nl at ln; omega
 have y2 : y ≤ 131072 := by unfold nl at ld; omega
 have HS := box hs
 have HT := box ht
 have LN := box ln
 have LD := box ld
 have HX := box hx
 have HY := box hy
 by_cases hk0 : y ≤ x
 ·
  obtain ⟨k, hk⟩ : ∃ k : Nat, x - y = k := ⟨_, rfl⟩
  have hlen : lenD (XN.mk b n d e) = (k : Int) := by unfold lenD; show (blen n : Int) - (blen d : Int) = k; rw [hx, hy]; omega
  have eA : tA (XN.mk b n d e) = n := by unfold tA; rw [hlen, show (max (-(k : Int)) 0).toNat = 0 by omega, Nat.pow_zero, Nat.mul_one]
  have eB : tB (XN.mk b n d e) = d * 2 ^ k := by unfold tB; rw [hlen, show (max (k : Int) 0).toNat = k by omega]
  rw [eB] at l2
  obtain ⟨q, hq⟩ : ∃ p, nbA (d * 2 ^ k) = p := ⟨_, rfl⟩
  obtain ⟨c, hcm⟩ : ∃ c, cmpv n (d * 2 ^ k) = c := ⟨_, rfl⟩
  have HF := box (fun w => rshifted d k t q ht ld (by omega) l2 hq w)
  have HQ := box hq
  have HC := box hcm
  have m1 : IntKind.i64.wrap ((x : Int) - (y : Int)) = (k : Int) := by rw [wrap_i64_is _ (by omega) (by omega)]; omega
  have m5 : IntKind.i64.wrap ((k : Int) - 1) = (k : Int) - 1 := wrap_i64_is _ (by omega) (by omega)
  have m6 : IntKind.i64.wrap ((k : Int) - 1 + e) = (k : Int) - 1 + e := wrap_i64_is _ (by omega) (by omega)
  have m7 : IntKind.i64.wrap ((k : Int) + e) = (k : Int) + e := wrap_i64_is _ (by omega) (by omega)
  have g0 : decide ((0 : Int) ≤ (k : Int)) = true := decide_eq_true (by omega)
  have hT2 : T = (if n < d * 2 ^ k then (k : Int) - 1 else (k : Int)) + e := by rw [← hr]; unfold topX; rw [eA, eB, hlen]
  by_cases hl : n < d * 2 ^ k
  ·
   rw [if_pos hl] at hT2
   have g1 : decide ((0 : Int) ≤ c) = false := decide_eq_false (by have := (cmpv_neg n (d * 2 ^ k)).2 hl; omega)
   subst hT2
   clear hs ht hc hr n0 d0 ln ld he l1 l2 hx hy hk0 hk hlen eA eB hq hcm hl
   obtain ⟨Ab, B0⟩ := opn1 w (Obj.cells #[.bool b, .string s, .string t, .int .i64 e] 63)
   go_enter Tryz.func161, Tryz.ntmps161
   go_wp2_with fail
   go_quiet (fail)
   obtain ⟨w1, hw, B1, hh⟩ := quiet_world B0 nq
   rw [hw]
   have Aa : w1.heap[w.heap.size]? = some (.cells #[.bool b, .string s, .string t, .int .i64 e] 63) := by rw [hh]; exact Ab
   clear hw hh B0 Ab
   obtain ⟨Ac, Ad, Ae, Af⟩ := cells4s Aa
   go_wp2_with fail
   refine (nat_Len n x s HS.out LN.out HX.out _).mono ?_
   rintro r w' ⟨rfl, rfl⟩
   go_wp2_with fail
   refine (nat_Len d y t HT.out LD.out HY.out _).mono ?_
   rintro r w' ⟨rfl, rfl⟩
   go_wp2_with fail
   refine (HF.out _).mono ?_
   rintro r w2 ⟨rfl, b2⟩
   have B2 := btr B1 b2
   have Ag := heap_of b2 _ _ _ Aa
   clear b2 B1 Aa Ac Ad Ae Af
   obtain ⟨Ah, Ai, Aj, Ak⟩ := cells4s Ag
   go_wp2_with fail
   refine (nat_cmp n (d * 2 ^ k) s q c HS.out HQ.out HC.out _).mono ?_
   rintro r w' ⟨rfl, rfl⟩
   go_wp2
   go_ret2
   exact ⟨rfl, B2⟩
  ·
   rw [if_neg hl] at hT2
   have g1 : decide ((0 : Int) ≤ c) = true := decide_eq_true (by have := mt (cmpv_neg n (d * 2 ^ k)).1 hl; omega)
   subst hT2
   clear hs ht hc hr n0 d0 ln ld he l1 l2 hx hy hk0 hk hlen eA eB hq hcm hl
   obtain ⟨Ab, B0⟩ := opn1 w (Obj.cells #[.bool b, .string s, .string t, .int .i64 e] 63)
   go_enter Tryz.func161, Tryz.ntmps161
   go_wp2_with fail
   go_quiet (fail)
   obtain ⟨w1, hw, B1, hh⟩ := quiet_world B0 nq
   rw [hw]
   have Aa : w1.heap[w.heap.size]? = some (.cells #[.bool b, .string s, .string t, .int .i64 e] 63) := by rw [hh]; exact Ab
   clear hw hh B0 Ab
   obtain ⟨Ac, Ad, Ae, Af⟩ := cells4s Aa
   go_wp2_with fail
   refine (nat_Len n x s HS.out LN.out HX.out _).mono ?_
   rintro r w' ⟨rfl, rfl⟩
   go_wp2_with fail
   refine (nat_Len d y t HT.out LD.out HY.out _).mono ?_
   rintro r w' ⟨rfl, rfl⟩
   go_wp2_with fail
   refine (HF.out _).mono ?_
   rintro r w2 ⟨rfl, b2⟩
   have B2 := btr B1 b2
   have Ag := heap_of b2 _ _ _ Aa
   clear b2 B1 Aa Ac Ad Ae Af
   obtain ⟨Ah, Ai, Aj, Ak⟩ := cells4s Ag
   go_wp2_with fail
   refine (nat_cmp n (d * 2 ^ k) s q c HS.out HQ.out HC.out _).mono ?_
   rintro r w' ⟨rfl, rfl⟩
   go_wp2
   go_ret2
   exact ⟨rfl, B2⟩
 ·
  obtain ⟨k, hk⟩ : ∃ k : Nat, y - x = k := ⟨_, rfl⟩
  have k1 : 1 ≤ k := by omega
  have hlen : lenD (XN.mk b n d e) = -(k : Int) := by unfold lenD; show (blen n : Int) - (blen d : Int) = -(k : Int); rw [hx, hy]; omega
  have eA : tA (XN.mk b n d e) = n * 2 ^ k := by unfold tA; rw [hlen, show (max (- -(k : Int)) 0).toNat = k by omega]
  have eB : tB (XN.mk b n d e) = d := by unfold tB; rw [hlen, show (max (-(k : Int)) 0).toNat = 0 by omega, Nat.pow_zero, Nat.mul_one]
  rw [eA] at l1
  obtain ⟨q, hq⟩ : ∃ p, nbA (n * 2 ^ k) = p := ⟨_, rfl⟩
  obtain ⟨c, hcm⟩ : ∃ c, cmpv (n * 2 ^ k) d = c := ⟨_, rfl⟩
  have HF := box (fun w => rshifted n k s q hs ln (by omega) l1 hq w)
  have HQ := box hq
  have HC := box hcm
  obtain ⟨K, hK⟩ : ∃ K : Int, -(k : Int) = K := ⟨_, rfl⟩
  have m1 : IntKind.i64.wrap ((x : Int) - (y : Int)) = K := by rw [wrap_i64_is _ (by omega) (by omega)]; omega
  have m2 : IntKind.i64.wrap (-K) = (k : Int) := by rw [wrap_i64_is _ (by omega) (by omega)]; omega
  have m5 : IntKind.i64.wrap (K - 1) = K - 1 := wrap_i64_is _ (by omega) (by omega)
  have m6 : IntKind.i64.wrap (K - 1 + e) = K - 1 + e := wrap_i64_is _ (by omega) (by omega)
  have m7 : IntKind.i64.wrap (K + e) = K + e := wrap_i64_is _ (by omega) (by omega)
  have g0 : decide ((0 : Int) ≤ K) = false := decide_eq_false (by omega)
  have hT2 : T = (if n * 2 ^ k < d then K - 1 else K) + e := by rw [← hr]; unfold topX; rw [eA, eB, hlen, hK]
  by_cases hl : n * 2 ^ k < d
  ·
   rw [if_pos hl] at hT2
   have g1 : decide ((0 : Int) ≤ c) = false := decide_eq_false (by have := (cmpv_neg (n * 2 ^ k) d).2 hl; omega)
   subst hT2
   clear hs ht hc hr n0 d0 ln ld he l1 l2 hx hy hk0 hk hlen eA eB hq hcm hl hK
   obtain ⟨Ab, B0⟩ := opn1 w (Obj.cells #[.bool b, .string s, .string t, .int .i64 e] 63)
   go_enter Tryz.func161, Tryz.ntmps161
   go_wp2_with fail
   go_quiet (fail)
   obtain ⟨w1, hw, B1, hh⟩ := quiet_world B0 nq
   rw [hw]
   have Aa : w1.heap[w.heap.size]? = some (.cells #[.bool b, .string s, .string t, .int .i64 e] 63) := by rw [hh]; exact Ab
   clear hw hh B0 Ab
   obtain ⟨Ac, Ad, Ae, Af⟩ := cells4s Aa
   go_wp2_with fail
   refine (nat_Len n x s HS.out LN.out HX.out _).mono ?_
   rintro r w' ⟨rfl, rfl⟩
   go_wp2_with fail
   refine (nat_Len d y t HT.out LD.out HY.out _).mono ?_
   rintro r w' ⟨rfl, rfl⟩
   go_wp2_with fail
   refine (HF.out _).mono ?_
   rintro r w2 ⟨rfl, b2⟩
   have B2 := btr B1 b2
   have Ag := heap_of b2 _ _ _ Aa
   clear b2 B1 Aa Ac Ad Ae Af
   obtain ⟨Ah, Ai, Aj, Ak⟩ := cells4s Ag
   go_wp2_with fail
   refine (nat_cmp (n * 2 ^ k) d q t c HQ.out HT.out HC.out _).mono ?_
   rintro r w' ⟨rfl, rfl⟩
   go_wp2
   go_ret2
   exact ⟨rfl, B2⟩
  ·
   rw [if_neg hl] at hT2
   have g1 : decide ((0 : Int) ≤ c) = true := decide_eq_true (by have := mt (cmpv_neg (n * 2 ^ k) d).1 hl; omega)
   subst hT2
   clear hs ht hc hr n0 d0 ln ld he l1 l2 hx hy hk0 hk hlen eA eB hq hcm hl hK
   obtain ⟨Ab, B0⟩ := opn1 w (Obj.cells #[.bool b, .string s, .string t, .int .i64 e] 63)
   go_enter Tryz.func161, Tryz.ntmps161
   go_wp2_with fail
   go_quiet (fail)
   obtain ⟨w1, hw, B1, hh⟩ := quiet_world B0 nq
   rw [hw]
   have Aa : w1.heap[w.heap.size]? = some (.cells #[.bool b, .string s, .string t, .int .i64 e] 63) := by rw [hh]; exact Ab
   clear hw hh B0 Ab
   obtain ⟨Ac, Ad, Ae, Af⟩ := cells4s Aa
   go_wp2_with fail
   refine (nat_Len n x s HS.out LN.out HX.out _).mono ?_
   rintro r w' ⟨rfl, rfl⟩
   go_wp2_with fail
   refine (nat_Len d y t HT.out LD.out HY.out _).mono ?_
   rintro r w' ⟨rfl, rfl⟩
   go_wp2_with fail
   refine (HF.out _).mono ?_
   rintro r w2 ⟨rfl, b2⟩
   have B2 := btr B1 b2
   have Ag := heap_of b2 _ _ _ Aa
   clear b2 B1 Aa Ac Ad Ae Af
   obtain ⟨Ah, Ai, Aj, Ak⟩ := cells4s Ag
   go_wp2_with fail
   refine (nat_cmp (n * 2 ^ k) d q t c HQ.out HT.out HC.out _).mono ?_
   rintro r w' ⟨rfl, rfl⟩
   go_wp2
   go_ret2
   exact ⟨rfl, B2⟩
theorem rFloor_ok (b : Bool) (n d : Nat) (e : Int) (s t : ByteArray) (k : Int) (m : Nat) (is : Bool) (err : Int) (v : ByteArray) (hs : nbA n = s) (ht : nbA d = t) (hc : (XN.mk b n d e).can) (k1 : -9223372036854775808 ≤ k) (k2 : k ≤ 9223372036854775807)
  (hr : flX (XN.mk b n d e) k = ((m, is), err)) (hv : nbA m = v) (w : World) : Calls Tryz.prog 163 #[.agg #[.bool b, .string s, .string t, .int .i64 e], .int .i64 k] w fun r w' => r = .returned (.tuple #[.string v, .bool is, .int .i64 err]) ∧ Below w.heap.size w w' := by
 unfold flX at hr
 by_cases hk : k < -2097152 ∨ 2097152 < k
 ·
  rw [if_pos hk] at hr
  cases hr
  rw [nbA_zero] at hv
  subst hv
  have c12 : decide (k < -2097152) = true ∨ (decide (k < -2097152) = false ∧ decide (2097152 < k) = true) := by
   by_cases hh : k < -2097152
   ·
    exact Or.inl (decide_eq_true hh)
   ·
    exact Or.inr ⟨decide_eq_false hh, decide_eq_true (by omega)⟩
  clear hs ht hc k1 k2 hk
  rcases c12 with c1 | ⟨c1, c2⟩
  ·
   obtain ⟨Ab, B0⟩ := opn1 w (Obj.cells #[.bool b, .string s, .string t, .int .i64 e] 63)
   go_enter Tryz.func163, Tryz.ntmps163
   go_wp2
   go_ret3
   exact ⟨rfl, B0⟩
  ·
   obtain ⟨Ab, B0⟩ := opn1 w (Obj.cells #[.bool b, .string s, .string t, .int .i64 e] 63)
   go_enter Tryz.func163, Tryz.ntmps163
   go_wp2
   go_ret3
   exact ⟨rfl, B0⟩
 rw [if_neg hk] at hr
 have c1 : decide (k < -2097152) = false := decide_eq_false (by omega)
 have c2 : decide (2097152 < k) = false := decide_eq_false (by omega)
 rcases x_cases hs ht hc with ⟨n0, rfl, rfl, rfl, rfl, rfl⟩ | ⟨n0, e0⟩
 ·
  rw [if_pos n0] at hr
  cases hr
  rw [nbA_zero] at hv
  subst hv
  clear hs ht hc k1 k2 hk n0
  obtain ⟨Ab, B0⟩ := opn1 w (Obj.cells #[.bool false, .string ⟨#[]⟩, .string ⟨#[1]⟩, .int .i64 0] 63)
  go_enter Tryz.func163, Tryz.ntmps163
  go_wp2
  go_ret3
  exact ⟨rfl, B0⟩
 rw [if_neg n0] at hr
 have he : -1048576 ≤ e ∧ e ≤ 1048576 := ⟨hc.2.2.1, hc.2.2.2.1⟩
 have HS := box hs
 have HT := box ht
 have LN := box hc.1
 have LD := box hc.2.1
 have D0 := box hc.d0
 by_cases hek : k ≤ e
 ·
  rw [if_pos hek] at hr
  obtain ⟨i, hi⟩ : ∃ i, (e - k).toNat = i := ⟨_, rfl⟩
  have m1 : IntKind.i64.wrap (e - k) = (i : Int) := by rw [wrap_i64_is _ (by omega) (by omega)]; omega
  have hr2 : (if nl (n * 2 ^ i) ≤ 16384 then ((n * 2 ^ i / d, decide (n * 2 ^ i % d = 0)), (0 : Int)) else ((0, false), 4)) = ((m, is), err) := by rw [← hi]; exact hr
  have d2 : decide (k ≤ e) = true := decide_eq_true hek
  have i2 : i ≤ 100000000 := by omega
  by_cases hl : nl (n * 2 ^ i) ≤ 16384
  ·
   rw [if_pos hl] at hr2
   cases hr2
   obtain ⟨p, hp⟩ : ∃ p, nbA (n * 2 ^ i) = p := ⟨_, rfl⟩
   obtain ⟨y, hy⟩ : ∃ y, nbA (n * 2 ^ i % d) = y := ⟨_, rfl⟩
   have F1 := box (lf_up n i p hl hp)
   have e3 : (y.toList == []) = decide (n * 2 ^ i % d = 0) := by
    rw [eq_empty, ← hy, nbA_size, Bool.eq_iff_iff, decide_eq_true_iff, decide_eq_true_iff]
    exact ⟨nl_eq0 _, fun h => by rw [h]; exact nl_zero⟩
   obtain ⟨o, ho⟩ : ∃ o, decide (n * 2 ^ i % d = 0) = o := ⟨_, rfl⟩
   rw [ho] at e3 ⊢
   have HP := box hp
   have HY := box hy
   have HL := box hl
   have HV := box hv
   clear hs ht hc k1 k2 hk n0 he hek hi hr hp hy hl ho hv
   obtain ⟨Ab, B0⟩ := opn1 w (Obj.cells #[.bool b, .string s, .string t, .int .i64 e] 63)
   go_enter Tryz.func163, Tryz.ntmps163
   go_wp2_with fail
   go_quiet (fail)
   obtain ⟨w1, hw, B1, hh⟩ := quiet_world B0 nq
   rw [hw]
   have Aa : w1.heap[w.heap.size]? = some (.cells #[.bool b, .string s, .string t, .int .i64 e] 63) := by rw [hh]; exact Ab
   clear hw hh B0 Ab
   obtain ⟨Ad, Ae, Af, Ag⟩ := cells4s Aa
   go_wp2_with fail
   refine (nat_Left n (i : Int) s p 0 HS.out LN.out (by omega) F1.out _).mono ?_
   rintro r w2 ⟨rfl, b2⟩
   have B2 := btr B1 b2
   have Ac := heap_of b2 _ _ _ Aa
   clear b2 B1 Aa Ad Ae Af Ag
   obtain ⟨Ah, Ai, Aj, Ak⟩ := cells4s Ac
   go_wp2_with fail
   refine (nat_Div (n * 2 ^ i) d p t v y HP.out HT.out HL.out D0.out HV.out HY.out _).mono ?_
   rintro r w3 ⟨rfl, b3⟩
   have B3 := btr B2 b3
   have Al := heap_of b3 _ _ _ Ac
   clear b3 B2 Ac Ah Ai Aj Ak
   obtain ⟨Am, An, Ao, Ap⟩ := cells4s Al
   go_wp2
   go_ret3
   exact ⟨rfl, B3⟩
  ·
   rw [if_neg hl] at hr2
   cases hr2
   rw [nbA_zero] at hv
   subst hv
   have F1 : Box (lf n (i : Int) = (⟨#[]⟩, 4)) := box (by unfold lf; rw [if_neg (by omega), Int.toNat_natCast]; exact lg_no _ hl)
   clear hs ht hc k1 k2 hk n0 he hek hi hr hl
   obtain ⟨Ab, B0⟩ := opn1 w (Obj.cells #[.bool b, .string s, .string t, .int .i64 e] 63)
   go_enter Tryz.func163, Tryz.ntmps163
   go_wp2_with fail
   go_quiet (fail)
   obtain ⟨w1, hw, B1, hh⟩ := quiet_world B0 nq
   rw [hw]
   have Aa : w1.heap[w.heap.size]? = some (.cells #[.bool b, .string s, .string t, .int .i64 e] 63) := by rw [hh]; exact Ab
   clear hw hh B0 Ab
   obtain ⟨Ad, Ae, Af, Ag⟩ := cells4s Aa
   go_wp2_with fail
   refine (nat_Left n (i : Int) s _ 4 HS.out LN.out (by omega) F1.out _).mono ?_
   rintro r w2 ⟨rfl, b2⟩
   have B2 := btr B1 b2
   have Ac := heap_of b2 _ _ _ Aa
   clear b2 B1 Aa Ad Ae Af Ag
   obtain ⟨Ah, Ai, Aj, Ak⟩ := cells4s Ac
   go_wp2
   go_ret3
   exact ⟨rfl, B2⟩
 ·
  rw [if_neg hek] at hr
  have d2 : decide (k ≤ e) = false := decide_eq_false hek
  obtain ⟨T, hTop⟩ : ∃ T, topX (XN.mk b n d e) = T := ⟨_, rfl⟩
  have HF := box (fun w => rTop_ok b n d e s t T hs ht n0 hc hTop w)
  have ht2 := top_good (XN.mk b n d e) n0 hc.d0
  rw [hTop] at hr ht2
  by_cases hlt : T < k
  ·
   rw [if_pos hlt] at hr
   cases hr
   rw [nbA_zero] at hv
   subst hv
   have d1 : decide (T < k) = true := decide_eq_true hlt
   clear hs ht hc k1 k2 hk n0 he hek hTop hlt ht2
   obtain ⟨Ab, B0⟩ := opn1 w (Obj.cells #[.bool b, .string s, .string t, .int .i64 e] 63)
   go_enter Tryz.func163, Tryz.ntmps163
   go_wp2_with fail
   go_quiet (fail)
   obtain ⟨w1, hw, B1, hh⟩ := quiet_world B0 nq
   rw [hw]
   have Aa : w1.heap[w.heap.size]? = some (.cells #[.bool b, .string s, .string t, .int .i64 e] 63) := by rw [hh]; exact Ab
   clear hw hh B0 Ab
   obtain ⟨Ad, Ae, Af, Ag⟩ := cells4s Aa
   go_wp2_with fail
   refine (HF.out _).mono ?_
   rintro r w2 ⟨rfl, b2⟩
   have B2 := btr B1 b2
   have Ac := heap_of b2 _ _ _ Aa
   clear b2 B1 Aa Ad Ae Af Ag
   obtain ⟨Ah, Ai, Aj, Ak⟩ := cells4s Ac
   go_wp2
   go_ret3
   exact ⟨rfl, B2⟩
  ·
   rw [if_neg hlt] at hr
   cases hr
   obtain ⟨i, hi⟩ : ∃ i, (k - e).toNat = i := ⟨_, rfl⟩
   have hv2 : nbA (n / (d * 2 ^ i)) = v := by rw [← hi]; exact hv
   have m1 : IntKind.i64.wrap (k - e) = (i : Int) := by rw [wrap_i64_is _ (by omega) (by omega)]; omega
   have i2 : i ≤ 100000000 := by omega
   have hle := below_top (XN.mk b n d e) k i hc (by show e + (i : Int) = k; omega) (by
    have h1 := ht2.1
    exact Rat.le_trans (p2mono k T (by omega)) h1)
   have hle2 : d * 2 ^ i ≤ n := hle
   have L3 : nl (d * 2 ^ i) ≤ 16384 := Nat.le_trans (nl_mono _ _ hle2) hc.1
   obtain ⟨p, hp⟩ : ∃ p, nbA (d * 2 ^ i) = p := ⟨_, rfl⟩
   obtain ⟨y, hy⟩ : ∃ y, nbA (n % (d * 2 ^ i)) = y := ⟨_, rfl⟩
   have F1 := box (lf_up d i p L3 hp)
   have i1 : 1 ≤ i := by omega
   have hz : n % (d * 2 ^ i) ≠ 0 := by
    intro hm
    obtain ⟨z, hz⟩ : ∃ z, i = z + 1 := ⟨i - 1, by omega⟩
    rw [hz, Nat.pow_succ, ← Nat.mul_assoc] at hm
    obtain ⟨q, hq⟩ := Nat.dvd_of_mod_eq_zero hm
    have : n % 2 = 1 := (hc.odd n0).1
    rw [hq, Nat.mul_assoc, Nat.mul_assoc, Nat.mul_left_comm (2 ^ z) 2, Nat.mul_left_comm d 2, Nat.mul_mod_right] at this
    omega
   have e3 := eq_nil _ y hy hz
   have d1 : decide (T < k) = false := decide_eq_false hlt
   have HP := box hp
   have HY := box hy
   have HV := box hv2
   have D3 : Box (d * 2 ^ i ≠ 0) := box (mul_ne hc.d0 (Nat.pos_iff_ne_zero.1 (Nat.two_pow_pos _)))
   clear hs ht hc k1 k2 hk n0 he hek hTop hlt ht2 hi hv hv2 hle hle2 L3 hp hy hz
   obtain ⟨Ab, B0⟩ := opn1 w (Obj.cells #[.bool b, .string s, .string t, .int .i64 e] 63)
   go_enter Tryz.func163, Tryz.ntmps163
   go_wp2_with fail
   go_quiet (fail)
   obtain ⟨w1, hw, B1, hh⟩ := quiet_world B0 nq
   rw [hw]
   have Aa : w1.heap[w.heap.size]? = some (.cells #[.bool b, .string s, .string t, .int .i64 e] 63) := by rw [hh]; exact Ab
   clear hw hh B0 Ab
   obtain ⟨Ad, Ae, Af, Ag⟩ := cells4s Aa
   go_wp2_with fail
   refine (HF.out _).mono ?_
   rintro r w2 ⟨rfl, b2⟩
   have B2 := btr B1 b2
   have Ac := heap_of b2 _ _ _ Aa
   clear b2 B1 Aa Ad Ae Af Ag
   obtain ⟨Ah, Ai, Aj, Ak⟩ := cells4s Ac
   go_wp2_with fail
   refine (nat_Left d (i : Int) t p 0 HT.out LD.out (by omega) F1.out _).mono ?_
   rintro r w3 ⟨rfl, b3⟩
   have B3 := btr B2 b3
   have Al := heap_of b3 _ _ _ Ac
   clear b3 B2 Ac Ah Ai Aj Ak
   obtain ⟨Am, An, Ao, Ap⟩ := cells4s Al
   go_wp2_with fail
   refine (nat_Div n (d * 2 ^ i) s p v y HS.out HP.out LN.out D3.out HV.out HY.out _).mono ?_
   rintro r w4 ⟨rfl, b4⟩
   have B4 := btr B3 b4
   have Aq := heap_of b4 _ _ _ Al
   clear b4 B3 Al Am An Ao Ap
   obtain ⟨Ar, As, At, Au⟩ := cells4s Aq
   go_wp2
   go_ret3
   exact ⟨rfl, B4⟩
end Go.Proofs.YtpgiabmmmpdobaaGreatDoor
