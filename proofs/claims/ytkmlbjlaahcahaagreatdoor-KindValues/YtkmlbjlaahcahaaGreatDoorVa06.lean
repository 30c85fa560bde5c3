/-
  What the functions that the statement reaches return: part 6 (List11, List6, List7, List8, Nat5, Nat6, Door1, Xmath, V1).
-/
import Derived.Test.YtkmlbjlaahcahaaGreatDoorVa05
namespace Go.Proofs.YtkmlbjlaahcahaaGreatDoor
set_option maxRecDepth 100000
open Go.RowKit WMath

theorem l_up (w : World) (p : Option Addr) (L c n s K B : Nat) (h : SL B w p L c n) (hB : B ≤ w.heap.size) (hL : L ≤ 50000) (hs : s ≤ 1000000) (hK : wl (n * 2 ^ s) = K) :
    Calls Tryz.prog 196 #[.slice p L c, .int .i64 (s : Nat)] w fun r w' => ∃ g d, r = .returned (.slice g K d) ∧ SL w'.heap.size w' g K d (n * 2 ^ s) ∧ Below w.heap.size w w' := by
  obtain ⟨q, hq⟩ : ∃ q, s / 64 = q := ⟨_, rfl⟩
  have hlt := raise_lt n L s q h.1 (by omega)
  have HK := box hK
  have HQ := box hq
  have HL := box hlt
  have q2 : q ≤ 20000 := by omega
  clear hK hq hlt
  go_enter Tryz.func196, Tryz.ntmps196
  go_wp2_with fail
  refine (l_raise w p L c n s q B h hB (by omega) hs HQ.out).mono ?_
  rintro e w1 ⟨g, rfl, hg, r1, b1⟩
  have s1 : SL w1.heap.size w1 (some ⟨g, 0, none⟩) (L + q + 1) (L + q + 1) (n * 2 ^ s) := SL.row r1 _ (Array.getElem?_eq_some_iff.1 r1).1 HL.out (Nat.le_refl _)
  go_wp2_with fail
  refine (l_trim w1 _ _ _ _ K _ s1 (by omega) HK.out).mono ?_
  rintro e w2 ⟨u, d, rfl, s2, rfl⟩
  go_wp2
  go_ret
  exact ⟨u, d, rfl, s2, b1⟩

theorem down_lt (n L s q N : Nat) (hn : n < 2 ^ (64 * L)) (hs : 64 * q ≤ s) (hN : L - q = N) : n / 2 ^ s < 2 ^ (64 * N) := by
  apply Nat.div_lt_of_lt_mul
  rw [← Nat.pow_add]
  exact Nat.lt_of_lt_of_le hn (Nat.pow_le_pow_right (by decide) (by omega))

set_option maxRecDepth 100000 in
set_option maxHeartbeats 1000000 in
theorem l_down (w : World) (p : Option Addr) (L c n s K B : Nat) (h : SL B w p L c n) (hB : B ≤ w.heap.size) (hL : L ≤ 100000) (hs : s ≤ 9223372036854775807) (hK : wl (n / 2 ^ s) = K) :
    Calls Tryz.prog 227 #[.slice p L c, .int .i64 (s : Nat)] w fun r w' => ∃ g d, r = .returned (.slice g K d) ∧ SL w'.heap.size w' g K d (n / 2 ^ s) ∧ Below w.heap.size w w' := by
  obtain ⟨q, hq⟩ : ∃ q, s / 64 = q := ⟨_, rfl⟩
  obtain ⟨r, hr⟩ : ∃ r, s % 64 = r := ⟨_, rfl⟩
  have r64 : r < 64 := by omega
  obtain ⟨N, hN⟩ : ∃ N, L - q = N := ⟨_, rfl⟩
  have hDN := down_lt n L s q N h.1 (by omega) hN
  obtain ⟨D, hD⟩ : ∃ D, n / 2 ^ s = D := ⟨_, rfl⟩
  have q1 : (s : Int) / 64 = (q : Int) := by omega
  have q1' : (s : Int).tdiv 64 = (q : Int) := by rw [Int.tdiv_eq_ediv_of_nonneg (by omega)]; omega
  have tm : (s : Int).tmod 64 = (r : Int) := by rw [Int.tmod_eq_emod_of_nonneg (by omega)]; omega
  have tm2 : (s : Int) % 64 = (r : Int) := by omega
  have HSR : Box (s = 64 * q + r) := box (by omega)
  have q57 : q ≤ 144115188075855871 := by omega
  have w1 : IntKind.i64.wrap (q : Int) = (q : Int) := wrap_i64_is _ (by omega) (by omega)
  have n1 : IntKind.i64.wrap ((L : Int) - (q : Int)) = (L : Int) - (q : Int) := wrap_i64_is _ (by omega) (by omega)
  rw [hD] at hK hDN ⊢
  have HD := box hD
  have HDN := box hDN
  have HK := box hK
  clear hr hq hD hDN hK
  have hcase : ((L : Int) - (q : Int) = (N : Int) ∧ ((N : Int) < 0) = False) ∨ (((L : Int) - (q : Int) < 0) = True ∧ (0 : Int) = (N : Int)) := by
    by_cases hqL : q ≤ L
    · left; exact ⟨by omega, eq_false (by omega)⟩
    · right; exact ⟨eq_true (by omega), by omega⟩
  have hNL : N ≤ L := by omega
  have HNL := box hN
  obtain ⟨g, hg⟩ : ∃ g, w.heap.size = g := ⟨_, rfl⟩
  have hB2 := hB
  rw [hg] at hB2
  have r0 : (w.alloc (.cells (cw N 0) 23)).heap[g]? = some (.cells (cw N 0) 23) := by rw [← hg]; exact heap_alloc_last _ _
  have b0 : Below g w (w.alloc (.cells (cw N 0) 23)) := by rw [← hg]; exact (Below.refl _ _).alloc (Nat.le_refl _) _
  have R0 := box r0
  have B0 := box b0
  clear hN r0 b0
  rcases hcase with ⟨e1, e2⟩ | ⟨e1, e2⟩
  all_goals
    first
      | (have hmk := cw_make N (N : Int) rfl (by omega)
         have n3 : IntKind.i64.wrap (N : Int) = (N : Int) := wrap_i64_is _ (by omega) (by omega)
         have e3 : ((N : Int) < 0) = False := e2)
      | (have hmk := cw_make N (0 : Int) e2 (by omega)
         clear e2)
    go_enter Tryz.func227, Tryz.ntmps227
    go_wp2
    clear hmk
    try rw [hg]
    go_loopw [21] (fun iv wr => ∃ (i : Nat), i ≤ N ∧ iv = .int .i64 i ∧ wr.heap[g]? = some (.cells (cw N (D % 2 ^ (64 * i))) 23) ∧ Below g w wr) (fun iv _ => N - (intOf iv).toNat)
    case atStart => exact ⟨0, by omega, rfl, by rw [Nat.mul_zero, Nat.pow_zero, Nat.mod_one]; exact R0.out, B0.out⟩
    case round =>
      obtain ⟨i, hi, rfl, r1, hbw⟩ := hrel
      by_cases hlt : i < N
      · obtain ⟨bp, op, rfl, _⟩ := h.ptr (by omega)
        obtain ⟨t, ht⟩ : ∃ t, i + q = t := ⟨_, rfl⟩
        have tL : t < L := by have := HNL.out; omega
        obtain ⟨x, hx⟩ : ∃ x, wd n t = x := ⟨_, rfl⟩
        obtain ⟨t', ht'⟩ : ∃ t', t + 1 = t' := ⟨_, rfl⟩
        obtain ⟨y, hy⟩ : ∃ y, wd n t' = y := ⟨_, rfl⟩
        obtain ⟨k, hk⟩ : ∃ k, 64 - r = k := ⟨_, rfl⟩
        obtain ⟨z1, hz1⟩ : ∃ z1, x / 2 ^ r = z1 := ⟨_, rfl⟩
        obtain ⟨z2, hz2⟩ : ∃ z2, y * 2 ^ k % 18446744073709551616 = z2 := ⟨_, rfl⟩
        obtain ⟨z, hz⟩ : ∃ z, wd D i = z := ⟨_, rfl⟩
        have x64 : x < 18446744073709551616 := by rw [← hx]; exact wd_lt _ _
        have z164 : z1 < 18446744073709551616 := by rw [← hz1]; exact Nat.lt_of_le_of_lt (Nat.div_le_self _ _) x64
        have z264 : z2 < 18446744073709551616 := by rw [← hz2]; exact Nat.mod_lt _ (by decide)
        have z64 : z < 18446744073709551616 := by rw [← hz]; exact wd_lt _ _
        have e4 : z1 ||| z2 = z := by rw [← hz, ← HD.out, down_wd n s q r i HSR.out r64, ht, ht', hx, hy, hz1, hk, hz2]
        have bo : bits .or .u64 (z1 : Nat) (z2 : Nat) = (z : Int) := by rw [← e4]; exact bits_or_u64_nat _ _ z164 z264
        have s0 := h.below hbw hB2
        have c0 := s0.cell t x tL hx
        have t1 : (i : Int) + (q : Int) = (t : Int) := by omega
        have k1 : (64 : Int) - (r : Int) = (k : Int) := by omega
        have k2 : IntKind.i64.wrap (k : Int) = (k : Int) := wrap_i64_is _ (by omega) (by omega)
        have t2 : IntKind.i64.wrap (t : Int) = (t : Int) := wrap_i64_is _ (by omega) (by omega)
        have t3 : (t : Int) + 1 = (t' : Int) := by omega
        have t4 : IntKind.i64.wrap (t' : Int) = (t' : Int) := wrap_i64_is _ (by omega) (by omega)
        have tLi : (t : Int) < (L : Int) := by omega
        have c1 : wr.cell? ⟨g, i, none⟩ = some (.int .u64 (wd (D % 2 ^ (64 * i)) i : Nat)) := by rw [cell_of_row wr g i _ _ _ r1, cw_at N _ i hlt]
        have f1 := fz (k := i) r1
        have RS : Box ((wr.setCell ⟨g, i, none⟩ (.int .u64 (z : Int))).heap[g]? = some (.cells (cw N (D % 2 ^ (64 * (i + 1)))) 23)) := box (by
          rw [setCell_row r1, cw_push N _ i z _ hlt (Nat.mod_lt _ (Nat.two_pow_pos _)) z64 rfl, mod_wd, hz])
        have BS : Box (Below g w (wr.setCell ⟨g, i, none⟩ (.int .u64 (z : Int)))) := box (hbw.setCell (Nat.le_refl _) _)
        have RI := box (l_right x r z1 (by omega) hz1)
        have LE := box (l_left y k z2 (by omega) hz2)
        have HY := box hy
        have dl : decide (i < N) = true := decide_eq_true hlt
        clear hx hy ht ht' hz1 hz2 hk hz e4 h
        go_wp2_with fail
        refine (RI.out _).mono ?_
        rintro e w' ⟨rfl, rfl⟩
        go_wp2_with fail
        refine (l_at _ _ L c n t' y s0 HY.out hL).mono ?_
        rintro e w' ⟨rfl, rfl⟩
        go_wp2_with fail
        refine (LE.out _).mono ?_
        rintro e w' ⟨rfl, rfl⟩
        go_wp2
        go_roundw
        case rel => exact ⟨i + 1, by omega, by go_num, RS.out, BS.out⟩
        case measure => simp [intOf] <;> omega
      · obtain rfl : i = N := by omega
        rw [Nat.mod_eq_of_lt HDN.out] at r1
        have dl : decide (i < i) = false := by rw [decide_eq_false_iff_not]; omega
        have s1 : SL wr.heap.size wr (some ⟨g, 0, none⟩) i i D := SL.row r1 _ (Array.getElem?_eq_some_iff.1 r1).1 HDN.out (Nat.le_refl _)
        go_wp2_with fail
        refine (l_trim wr _ _ _ _ K _ s1 (by omega) HK.out).mono ?_
        rintro e w2 ⟨u, d, rfl, s2, rfl⟩
        go_wp2
        go_ret
        exact ⟨u, d, rfl, s2, by rw [hg]; exact hbw⟩
end Go.Proofs.YtkmlbjlaahcahaaGreatDoor
namespace Go.Proofs.YtkmlbjlaahcahaaGreatDoor
set_option maxRecDepth 100000
open Go.RowKit WMath

theorem n_check (s : ByteArray) (o : Bool) (ho : mayB s = o) (w : World) :
    Calls Tryz.prog 95 #[.string s] w fun r w' => r = .returned (.int .i64 (if o then 0 else 2)) ∧ w' = w := by
  by_cases h1 : s.size ≤ 16384
  · have d1 : decide ((16384 : Int) < (s.size : Int)) = false := by rw [decide_eq_false_iff_not]; omega
    have d1' : decide (16384 < s.size) = false := by rw [decide_eq_false_iff_not]; omega
    by_cases h2 : s.size = 0
    · have e : o = true := by rw [← ho]; unfold mayB; rw [decide_eq_true h1, decide_eq_true h2]; rfl
      subst e
      have d2 : decide (0 < s.size) = false := decide_eq_false (by omega)
      clear h1 h2 ho
      go_enter Tryz.func95, Tryz.ntmps95
      go_wp2
      go_ret
      exact ⟨rfl, rfl⟩
    · have hp : 0 < s.size := by omega
      have d2 : decide (0 < s.size) = true := decide_eq_true hp
      obtain ⟨x, hx⟩ : ∃ x, (s[0]'hp).toNat = x := ⟨_, rfl⟩
      have e : decide (x ≠ 0) = o := by
        rw [← ho]; unfold mayB
        rw [decide_eq_true h1, decide_eq_false h2, Bool.true_and, Bool.false_or]
        rw [Bool.eq_iff_iff, decide_eq_true_iff, decide_eq_true_iff]
        exact ⟨fun h => ⟨hp, by rw [hx]; exact h⟩, fun ⟨a, b⟩ => by rw [hx] at b; exact b⟩
      have hi := idx_runN s 0 0 x rfl hp hx
      clear h1 h2 ho hx
      by_cases h0 : x = 0
      · subst h0
        have e2 : o = false := by rw [← e]; rfl
        subst e2
        clear e
        go_enter Tryz.func95, Tryz.ntmps95
        go_wp2
        go_ret
        exact ⟨rfl, rfl⟩
      · have e2 : o = true := by rw [← e]; exact decide_eq_true h0
        subst e2
        have h3 : decide (x = 0) = false := decide_eq_false h0
        clear e
        go_enter Tryz.func95, Tryz.ntmps95
        go_wp2
        go_ret
        exact ⟨rfl, rfl⟩
  · have d1 : decide ((16384 : Int) < (s.size : Int)) = true := by rw [decide_eq_true_iff]; omega
    have d1' : decide (16384 < s.size) = true := by rw [decide_eq_true_iff]; omega
    have e : o = false := by rw [← ho]; unfold mayB; rw [decide_eq_false h1]; rfl
    subst e
    clear h1 ho
    go_enter Tryz.func95, Tryz.ntmps95
    go_wp2
    go_ret
    exact ⟨rfl, rfl⟩

theorem str_cell {w : World} {g : Nat} {T : TypeId} {ss : List ByteArray} (row : w.heap[g]? = some (.cells (ss.map Value.string).toArray T)) (k : Nat) (s : ByteArray) (h : ss[k]? = some s) : w.cell? ⟨g, k, none⟩ = some (.string s) := by
  rw [cell_of_row w g k _ _ _ row]
  simp [h]

theorem n_mayBe (ss : List ByteArray) (L g : Nat) (T : TypeId) (w : World) (hl : ss.length = L) (hL : L ≤ 1000) (row : w.heap[g]? = some (.cells (ss.map Value.string).toArray T)) (o : Bool) (ho : ss.all mayB = o) :
    Calls Tryz.prog 159 #[.slice (some ⟨g, 0, none⟩) L L] w fun r w' => r = .returned (.bool o) ∧ w' = w := by
  have HO := box ho
  have HL := box hl
  clear ho hl
  go_enter Tryz.func159, Tryz.ntmps159
  go_wp2
  go_loopw [7] (fun iv wr => ∃ k : Nat, k ≤ L ∧ iv = .int .i64 k ∧ wr = w ∧ Box (∀ j s, j < k → ss[j]? = some s → mayB s = true)) (fun iv _ => L - (intOf iv).toNat)
  case atStart => exact ⟨0, by omega, rfl, rfl, box (fun j s hj => absurd hj (by omega))⟩
  case round =>
    obtain ⟨k, hk, rfl, rfl, HA⟩ := hrel
    by_cases hlt : k < L
    · obtain ⟨s, hs⟩ : ∃ s, ss[k]? = some s := ⟨_, List.getElem?_eq_getElem (by rw [HL.out]; exact hlt)⟩
      have c1 := str_cell row k s hs
      have dl : decide (k < L) = true := decide_eq_true hlt
      have HS := box hs
      obtain ⟨m, hm⟩ : ∃ m, mayB s = m := ⟨_, rfl⟩
      have HM := box hm
      clear hs hm
      cases m
      · have e : o = false := by
          rw [← HO.out, Bool.eq_false_iff]
          intro h
          rw [List.all_eq_true] at h
          have := h s (List.mem_of_getElem? HS.out)
          rw [HM.out] at this
          exact absurd this (by decide)
        subst e
        go_wp2_with fail
        refine (n_check s false HM.out _).mono ?_
        rintro e w' ⟨rfl, rfl⟩
        go_wp2
        go_ret
        exact ⟨rfl, rfl⟩
      · have NA : Box (∀ j s, j < k + 1 → ss[j]? = some s → mayB s = true) := box (fun j s2 hj h2 => by
          by_cases e : j = k
          · subst e
            rw [HS.out] at h2
            cases h2
            exact HM.out
          · exact HA.out j s2 (by omega) h2)
        go_wp2_with fail
        refine (n_check s true HM.out _).mono ?_
        rintro e w' ⟨rfl, rfl⟩
        go_wp2
        go_roundw
        case rel => exact ⟨k + 1, by omega, by go_num, by first | rfl | trivial, NA⟩
        case measure => simp [intOf] <;> omega
    · obtain rfl : k = L := by omega
      have e : o = true := by
        rw [← HO.out, List.all_eq_true]
        intro s hs
        obtain ⟨j, hj⟩ := List.mem_iff_getElem?.1 hs
        have := (List.getElem?_eq_some_iff.1 hj).1
        exact HA.out j s (by rw [← HL.out]; exact this) hj
      subst e
      have dl : decide (k < k) = false := by rw [decide_eq_false_iff_not]; omega
      go_wp2
      go_ret
      exact ⟨rfl, rfl⟩
theorem n_may1 (s : ByteArray) (o : Bool) (ho : mayB s = o) (T : TypeId) (w : World) :
    Calls Tryz.prog 159 #[.slice (some ⟨w.heap.size, 0, none⟩) 1 1] (w.alloc (.cells #[.string s] T)) fun r w' => r = .returned (.bool o) ∧ w' = w.alloc (.cells #[.string s] T) :=
  n_mayBe [s] 1 w.heap.size T _ rfl (by decide) (heap_alloc_last _ _) o (by rw [← ho]; simp)
theorem n_may2 (s t : ByteArray) (o : Bool) (ho : (mayB s && mayB t) = o) (T : TypeId) (w : World) :
    Calls Tryz.prog 159 #[.slice (some ⟨w.heap.size, 0, none⟩) 2 2] (w.alloc (.cells #[.string s, .string t] T)) fun r w' => r = .returned (.bool o) ∧ w' = w.alloc (.cells #[.string s, .string t] T) :=
  n_mayBe [s, t] 2 w.heap.size T _ rfl (by decide) (heap_alloc_last _ _) o (by rw [← ho]; simp)
theorem ok2 {a b : Nat} {s t : ByteArray} (hs : nbA a = s) (ht : nbA b = t) (ha : nl a ≤ 16384) (hb : nl b ≤ 16384) : (mayB s && mayB t) = true := by
  subst hs ht; rw [mayB_nb a ha, mayB_nb b hb]; rfl
theorem bal (w : World) (o : Obj) : Below w.heap.size w (w.alloc o) := (Below.refl _ _).alloc (Nat.le_refl _) _
theorem btr {a b c : World} (h : Below a.heap.size a b) (k : Below b.heap.size b c) : Below a.heap.size a c := h.trans (k.mono h.size)

end Go.Proofs.YtkmlbjlaahcahaaGreatDoor
namespace Go.Proofs.YtkmlbjlaahcahaaGreatDoor
set_option maxRecDepth 100000
open Go.RowKit WMath

theorem wl_of_nl (n : Nat) (h : nl n ≤ 16384) : wl n ≤ 2048 := by rw [wl_nl]; omega

end Go.Proofs.YtkmlbjlaahcahaaGreatDoor
namespace Go.Proofs.YtkmlbjlaahcahaaGreatDoor
set_option maxRecDepth 100000
open Go.RowKit WMath

theorem pn_len_ok (n l : Nat) (s : ByteArray) (hs : nbA n = s) (h : nl n ≤ 16384) (hl : blen n = l) (w : World) :
    Calls Tryz.prog 193 #[.string s] w fun r w' => r = .returned (.int .i64 (l : Nat)) ∧ Below w.heap.size w w' := by
  obtain ⟨L, hL⟩ : ∃ L, nl n = L := ⟨_, rfl⟩
  have hz : s.size = L := by rw [← hs, nbA_size, hL]
  have HM : Box (mayB s = true) := box (by rw [← hs]; exact mayB_nb n h)
  have d2 := eq_empty s
  rw [hL] at h
  by_cases h0 : n = 0
  · have e : l = 0 := by rw [← hl, h0]; rfl
    have e2 : L = 0 := by rw [← hL, h0]; exact nl_zero
    subst e
    rw [decide_eq_true (by omega)] at d2
    clear hs hl hL h0
    go_enter Tryz.func193, Tryz.ntmps193
    go_wp2_with fail
    refine (n_may1 s true HM.out _ w).mono ?_
    rintro r w0 ⟨rfl, rfl⟩
    go_wp2
    go_ret
    exact ⟨rfl, bal _ _⟩
  · have hp := nl_pos n h0
    rw [hL] at hp
    rw [decide_eq_false (by omega)] at d2
    have hp2 : 0 < s.size := by omega
    obtain ⟨x, hx⟩ : ∃ x, (s[0]'hp2).toNat = x := ⟨_, rfl⟩
    have hxd : d8 n (L - 1) = x := by
      rw [← hx]
      have e := hs
      subst e
      rw [nbA_get, hL, Nat.sub_zero]
    have hi := idx_runN s 0 0 x rfl hp2 hx
    have x256 : x < 256 := by rw [← hxd]; exact d8_lt _ _
    have e := blen_nl n L x h0 hL hxd
    rw [hl] at e
    obtain ⟨y, hy⟩ : ∃ y, Lib.bitLen x = y := ⟨_, rfl⟩
    rw [← bitLen_blen x (by omega), hy] at e
    have n4 : IntKind.u64.wrap (x : Int) = (x : Int) := by rw [IntKind.wrap_u64]; omega
    have n1 : IntKind.i64.wrap ((L : Int) - 1) = (L : Int) - 1 := wrap_i64_is _ (by omega) (by omega)
    have n2 : IntKind.i64.wrap (((L : Int) - 1) * 8) = ((L : Int) - 1) * 8 := wrap_i64_is _ (by omega) (by omega)
    have y64 : y ≤ 64 := by rw [← hy, bitLen_blen x (by omega)]; exact blen_le_of x 64 (by rw [← two64]; omega)
    have n3 : IntKind.i64.wrap (((L : Int) - 1) * 8 + (y : Int)) = (l : Int) := by rw [wrap_i64_is _ (by omega) (by omega)]; omega
    have x64 : x < 18446744073709551616 := by omega
    have HY := box hy
    clear hs hl hL h0 hx hxd hy e
    go_enter Tryz.func193, Tryz.ntmps193
    go_wp2_with fail
    refine (n_may1 s true HM.out _ w).mono ?_
    rintro r w0 ⟨rfl, rfl⟩
    go_wp2_with fail
    refine (len_any x x64 _).mono ?_
    rintro e w' ⟨rfl, rfl⟩
    rw [HY.out]
    go_wp2
    go_ret
    exact ⟨rfl, bal _ _⟩

theorem nan_str (s : ByteArray) (w : World) : Calls Tryz.prog 212 #[.string s] w fun r w' => r = .returned (.bool false) ∧ w' = w := by
  have h : (s.toList != s.toList) = false := by simp
  go_enter Tryz.func212, Tryz.ntmps212
  go_wp2
  go_ret
  exact ⟨by first | rfl | simp, rfl⟩
theorem cmp_str (a b : Nat) (s t : ByteArray) (c : Int) (hs : nbA a = s) (ht : nbA b = t) (hl : nl a = nl b) (hc : cmpv a b = c) (w : World) : Calls Tryz.prog 161 #[.string s, .string t] w fun r w' => r = .returned (.int .i64 c) ∧ w' = w := by
  have h1 := bless_nb a b hl
  have h2 := bless_nb b a hl.symm
  have h3 := beq_nb a b
  rw [hs, ht] at h1 h2 h3
  have hcase : (decide (a < b) = true ∧ decide (b < a) = false ∧ decide (a = b) = false ∧ c = -1) ∨ (decide (a < b) = false ∧ decide (b < a) = true ∧ decide (a = b) = false ∧ c = 1) ∨ (decide (a < b) = false ∧ decide (b < a) = false ∧ decide (a = b) = true ∧ c = 0) := by
    rw [decide_eq_true_iff, decide_eq_true_iff, decide_eq_true_iff, decide_eq_false_iff_not, decide_eq_false_iff_not, decide_eq_false_iff_not]
    unfold cmpv at hc
    by_cases e : a = b
    · rw [if_pos e] at hc; omega
    · rw [if_neg e] at hc
      by_cases e2 : a < b
      · rw [if_pos e2] at hc; omega
      · rw [if_neg e2] at hc; omega
  clear hs ht hl hc
  rcases hcase with ⟨k1, k2, k3, rfl⟩ | ⟨k1, k2, k3, rfl⟩ | ⟨k1, k2, k3, rfl⟩
  all_goals
    rw [k1] at h1
    rw [k2] at h2
    rw [k3] at h3
    clear k1 k2 k3
    go_enter Tryz.func161, Tryz.ntmps161
    go_wp2_with fail
    refine (nan_str s _).mono ?_
    rintro e w' ⟨rfl, rfl⟩
    go_wp2_with fail
    refine (nan_str t _).mono ?_
    rintro e w' ⟨rfl, rfl⟩
    go_wp2
    go_ret
    exact ⟨rfl, rfl⟩
theorem pn_cmp_ok (a b : Nat) (s t : ByteArray) (c : Int) (hs : nbA a = s) (ht : nbA b = t) (ha : nl a ≤ 16384) (hb : nl b ≤ 16384) (hc : cmpv a b = c) (w : World) :
    Calls Tryz.prog 86 #[.string s, .string t] w fun r w' => r = .returned (.tuple #[.int .i64 c, .int .i64 0]) ∧ Below w.heap.size w w' := by
  have HO := box (ok2 hs ht ha hb)
  have hz : s.size = nl a := by rw [← hs, nbA_size]
  have hy : t.size = nl b := by rw [← ht, nbA_size]
  have b0 := bal w (.cells #[.string s, .string t] 26)
  by_cases h : nl a = nl b
  · have H := box (cmp_str a b s t c hs ht h hc)
    have d1 : ((s.size : Int) != (t.size : Int)) = false := by simp; omega
    have d2 : (s.size : Int) = (t.size : Int) := by omega
    clear hs ht ha hb hc hz hy h
    go_enter Tryz.func86, Tryz.ntmps86
    go_wp2_with fail
    refine (n_may2 s t true HO.out _ w).mono ?_
    rintro r w0 ⟨rfl, rfl⟩
    go_wp2_with fail
    refine (H.out _).mono ?_
    rintro r w1 ⟨rfl, rfl⟩
    go_wp2
    go_ret2
    exact ⟨rfl, b0⟩
  · have d1 : ((s.size : Int) != (t.size : Int)) = true := by simp; omega
    have d2 : ¬ (s.size : Int) = (t.size : Int) := by omega
    have d3 : ¬ s.size = t.size := by omega
    have e : cmpi (s.size : Int) (t.size : Int) = c := by
      rw [cmpi_nat, hz, hy, ← hc]
      by_cases h2 : nl a < nl b
      · rw [cmpv_lt _ _ h2, cmpv_lt a b (by
          by_cases e : a < b
          · exact e
          · have := nl_mono b a (by omega)
            omega)]
      · rw [cmpv_gt _ _ (show nl b < nl a by omega), cmpv_gt a b (by
          by_cases e : b < a
          · exact e
          · have := nl_mono a b (by omega)
            omega)]
    have E := box e
    clear hs ht ha hb hc hz hy h e
    go_enter Tryz.func86, Tryz.ntmps86
    go_wp2_with fail
    refine (n_may2 s t true HO.out _ w).mono ?_
    rintro r w0 ⟨rfl, rfl⟩
    go_wp2_with fail
    refine (cmp_int _ _ c E.out _).mono ?_
    rintro r w1 ⟨rfl, rfl⟩
    go_wp2
    go_ret2
    exact ⟨rfl, b0⟩
end Go.Proofs.YtkmlbjlaahcahaaGreatDoor
namespace Go.Proofs.YtkmlbjlaahcahaaGreatDoor
set_option maxRecDepth 100000
open Go.RowKit WMath

theorem lg_ok (n : Nat) (v : ByteArray) (h : nl n ≤ 16384) (hv : nbA n = v) : lg n = (v, 0) := by unfold lg; rw [if_pos h, hv]

end Go.Proofs.YtkmlbjlaahcahaaGreatDoor
namespace Go.Proofs.YtkmlbjlaahcahaaGreatDoor
set_option maxRecDepth 100000
open Go.RowKit WMath

/-- What is moved to the left, or that it is too long, or that the count is below 0. -/
def lf (a : Nat) (n : Int) : ByteArray × Int := if n < 0 then (⟨#[]⟩, 2) else lg (a * 2 ^ n.toNat)

theorem blen_pow (a n : Nat) (h : a ≠ 0) : blen (a * 2 ^ n) = blen a + n := by
  have h1 := blen_le a h
  have h2 := blen_lt a
  have h3 := blen_pos a h
  have h4 := Nat.mul_le_mul_right (2 ^ n) h1
  have h5 := Nat.mul_lt_mul_of_pos_right h2 (Nat.two_pow_pos n)
  rw [← Nat.pow_add] at h4 h5
  have := blen_of (a * 2 ^ n) (blen a - 1 + n) h4 (by rw [show blen a - 1 + n + 1 = blen a + n by omega]; exact h5)
  omega

theorem left_byte (a i n q r p x z X : Nat) (hq : q = n / 8) (hr : r = n % 8) (hp : p = i + q) (hx : d8 a i * 2 ^ r = x) (hz : x % 256 = z) (hX : X = (a % 2 ^ (8 * i)) * 2 ^ n) :
    X ||| z * 2 ^ (8 * p) = X + z * 2 ^ (8 * p) ∧ X ||| z * 2 ^ (8 * p) < 2 ^ (8 * (p + 1)) ∧ X + z * 2 ^ (8 * p) + 2 ^ (8 * (p + 1)) * (x / 256) = (a % 2 ^ (8 * (i + 1))) * 2 ^ n := by
  have r8 : r < 8 := by omega
  have e0 : 8 * p + r = 8 * i + n := by omega
  have hXl : X < 2 ^ (8 * p + r) := by
    rw [hX, e0, Nat.pow_add]
    exact Nat.mul_lt_mul_of_pos_right (Nat.mod_lt _ (Nat.two_pow_pos _)) (Nat.two_pow_pos n)
  have ez : z = (d8 a i % 2 ^ (8 - r)) * 2 ^ r := by
    rw [← hz, ← hx, ← Nat.mul_mod_mul_right, ← Nat.pow_add, show 8 - r + r = 8 by omega]
  have e1 : z * 2 ^ (8 * p) = (d8 a i % 2 ^ (8 - r)) * 2 ^ (8 * p + r) := by rw [ez, Nat.mul_assoc, ← Nat.pow_add, Nat.add_comm r]
  have e2 : X ||| z * 2 ^ (8 * p) = X + z * 2 ^ (8 * p) := by rw [e1]; exact (or_disj _ _ _ hXl).symm
  have e3 : 2 ^ (8 * p) * x = 2 ^ (8 * i) * d8 a i * 2 ^ n := by
    rw [← hx, Nat.mul_left_comm, ← Nat.pow_add, e0, Nat.pow_add, ← Nat.mul_assoc, Nat.mul_comm (d8 a i)]
  refine ⟨e2, ?_, ?_⟩
  · refine Nat.or_lt_two_pow (Nat.lt_of_lt_of_le hXl (Nat.pow_le_pow_right (by decide) (by omega))) ?_
    rw [pow8, Nat.mul_comm]
    exact Nat.mul_lt_mul_of_pos_left (by omega) (Nat.two_pow_pos _)
  · have := carry_step X (2 ^ (8 * p)) x
    rw [hz, ← pow8, Nat.mul_comm (2 ^ (8 * p)) z] at this
    rw [this, e3, hX, mod_d8, Nat.add_mul]

set_option maxHeartbeats 2000000 in
set_option maxRecDepth 100000 in
theorem nat_left_in (a n : Nat) (s v : ByteArray) (hs : nbA a = s) (h0 : a ≠ 0) (ha : nl a ≤ 16384) (hn : blen a + n ≤ 131072) (hv : nbA (a * 2 ^ n) = v) (w : World) :
    Calls Tryz.prog 126 #[.string s, .int .i64 (n : Nat)] w fun r w' => r = .returned (.tuple #[.string v, .int .i64 0]) ∧ Below w.heap.size w w' := by
  obtain ⟨L, hL⟩ : ∃ L, nl a = L := ⟨_, rfl⟩
  have hz : s.size = L := by rw [← hs, nbA_size, hL]
  have la := nl_lt a
  rw [hL] at la
  have hp := nl_pos a h0
  have d2 := eq_empty s
  rw [decide_eq_false (by omega)] at d2
  obtain ⟨q, hq⟩ : ∃ q, q = n / 8 := ⟨_, rfl⟩
  obtain ⟨r, hr⟩ : ∃ r, r = n % 8 := ⟨_, rfl⟩
  obtain ⟨N, hN⟩ : ∃ N, L + q + 1 = N := ⟨_, rfl⟩
  obtain ⟨l, hl⟩ : ∃ l, blen a = l := ⟨_, rfl⟩
  have q1 : (n : Int) / 8 = (q : Int) := by omega
  have r1 : (n : Int) % 8 = (r : Int) := by omega
  have r8 : r < 8 := by omega
  have n0 : IntKind.i64.wrap ((l : Int) + (n : Int)) = (l : Int) + (n : Int) := wrap_i64_is _ (by omega) (by omega)
  have c1 : decide ((131072 : Int) < (n : Int)) = false := by rw [decide_eq_false_iff_not]; omega
  have c2 : decide ((131072 : Int) < (l : Int) + (n : Int)) = false := by rw [decide_eq_false_iff_not]; omega
  have HL := box hl
  have HA := box ha
  have HS := box hs
  have HV := box hv
  have LA := box la
  have HQ := box hq
  have HR := box hr
  have NA : Box (nl a ≤ 100000) := box (by omega)
  have hmk := c8_makeI N ((L : Int) + (q : Int) + 1) (by omega) (by omega)
  have L2 : L ≤ 16384 := by omega
  have q2 : q ≤ 20000 := by omega
  have XB : Box (a * 2 ^ n < 2 ^ (8 * N)) := box (by
    have h1 : 2 ^ n ≤ 2 ^ (8 * (q + 1)) := Nat.pow_le_pow_right (by decide) (by omega)
    have h2 : a * 2 ^ n < 2 ^ (8 * L) * 2 ^ n := Nat.mul_lt_mul_of_pos_right la (Nat.two_pow_pos n)
    have h3 : 2 ^ (8 * L) * 2 ^ n ≤ 2 ^ (8 * L) * 2 ^ (8 * (q + 1)) := Nat.mul_le_mul_left _ h1
    rw [← Nat.pow_add 2 (8 * L) (8 * (q + 1)), show 8 * L + 8 * (q + 1) = 8 * N by omega] at h3
    omega)
  clear hs hv hL la h0 ha hl hq hr
  go_enter Tryz.func126, Tryz.ntmps126
  go_wp2_with fail
  refine (nat_Len a l s HS.out HA.out HL.out _).mono ?_
  rintro e w' ⟨rfl, hw'⟩
  subst hw'
  go_wp2
  clear hmk c1 c2 d2
  go_loopw [7] (fun iv wr => ∃ i X : Nat, i ≤ L ∧ iv = .int .i64 i ∧ wr.heap[w'.heap.size]? = some (.cells (c8 N X) 5) ∧ Below w'.heap.size w' wr ∧ Box (X = (a % 2 ^ (8 * i)) * 2 ^ n)) (fun iv _ => L - (intOf iv).toNat)
  case atStart => exact ⟨0, 0, by omega, rfl, heap_alloc_last _ _, (Below.refl _ _).alloc (Nat.le_refl _) _, box (by rw [Nat.mul_zero, Nat.pow_zero, Nat.mod_one, Nat.zero_mul])⟩
  case round =>
    obtain ⟨i, X, hi, rfl, r0, hbw, HE⟩ := hrel
    by_cases hlt : i < L
    · obtain ⟨d, hd⟩ : ∃ d, d8 a i = d := ⟨_, rfl⟩
      have d256 : d < 256 := by rw [← hd]; exact d8_lt _ _
      obtain ⟨x, hx⟩ : ∃ x, d * 2 ^ r = x := ⟨_, rfl⟩
      have x16 : x < 32768 := by
        rw [← hx]
        have h1 : 2 ^ r ≤ 2 ^ 7 := Nat.pow_le_pow_right (by decide) (by omega)
        have h2 : d * 2 ^ r ≤ 255 * 2 ^ 7 := Nat.mul_le_mul (by omega) h1
        omega
      obtain ⟨p, hp2⟩ : ∃ p, p = i + q := ⟨_, rfl⟩
      obtain ⟨z, hz2⟩ : ∃ z, x % 256 = z := ⟨_, rfl⟩
      obtain ⟨g, hg⟩ : ∃ g, x / 256 = g := ⟨_, rfl⟩
      have z256 : z < 256 := by omega
      have g256 : g < 256 := by omega
      obtain ⟨f1, f2, f3⟩ := left_byte a i n q r p x z X HQ.out HR.out hp2 (by rw [hd]; exact hx) hz2 HE.out
      rw [hg] at f3
      have pi : (i : Int) + (q : Int) = (p : Int) := by omega
      have pN : p < N := by omega
      have pN1 : p + 1 < N := by omega
      have n1 : (d : Int) * 2 ^ r = (x : Int) := by rw [pow_cast, ← Int.natCast_mul, hx]
      have n2 : IntKind.i64.wrap (x : Int) = (x : Int) := wrap_i64_is _ (by omega) (by omega)
      have n6 := wrap_u8_is x z hz2
      have n7 : (x : Int) / 256 = (g : Int) := by omega
      have n8 : IntKind.u8.wrap (g : Int) = (g : Int) := wrap_u8_is g g (by omega)
      obtain ⟨Y, hY⟩ : ∃ Y, X ||| z * 2 ^ (8 * p) = Y := ⟨_, rfl⟩
      have o8 : bits .or .u8 (d8 X p : Nat) (z : Nat) = ((d8 X p ||| z : Nat) : Int) := by
        show IntKind.u8.wrap ((BitVec.ofInt 8 (d8 X p : Int) ||| BitVec.ofInt 8 (z : Int)).toNat : Int) = _
        have h1 : (BitVec.ofInt 8 (d8 X p : Int)).toNat = d8 X p := by have := d8_lt X p; simp; omega
        have h2 : (BitVec.ofInt 8 (z : Int)).toNat = z := by simp; omega
        rw [BitVec.toNat_or, h1, h2]
        exact wrap_u8_is _ _ (Nat.mod_eq_of_lt (or_lt8 _ _ (d8_lt X p) z256))
      have k1 := c8_cell r0 pN
      have k2 := fz (k := p) r0
      obtain ⟨W1, hW1⟩ : ∃ W1, wr.setCell ⟨w'.heap.size, p, none⟩ (.int .u8 ((d8 X p ||| z : Nat) : Int)) = W1 := ⟨_, rfl⟩
      have r1' : W1.heap[w'.heap.size]? = some (.cells (c8 N Y) 5) := by rw [← hW1, setCell_row r0, c8_or N X p z Y pN z256 hY.symm]
      have b1 : Below w'.heap.size w' W1 := by rw [← hW1]; exact hbw.setCell (Nat.le_refl _) _
      have k3 := c8_cell r1' pN1
      have k4 := fz (k := p + 1) r1'
      have RS : Box ((W1.setCell ⟨w'.heap.size, p + 1, none⟩ (.int .u8 (g : Int))).heap[w'.heap.size]? = some (.cells (c8 N (X + z * 2 ^ (8 * p) + 2 ^ (8 * (p + 1)) * g)) 5)) := box (by rw [setCell_row r1', c8_push N Y (p + 1) g _ pN1 (by rw [← hY]; exact f2) g256 rfl, ← hY, f1])
      have NX := box f3
      have HD := box hd
      have dl : decide (i < L) = true := decide_eq_true hlt
      clear hd hx hp2 hz2 hg f1 f2 f3 hY
      go_wp2_with fail
      refine (nat_at a i d s HS.out HD.out NA.out _).mono ?_
      rintro e w2 ⟨rfl, rfl⟩
      go_wp2
      go_roundw
      case rel => exact ⟨i + 1, _, by omega, by go_num, RS.out, b1.setCell (Nat.le_refl _) _, NX⟩
      case measure => simp [intOf] <;> omega
    · obtain rfl : i = L := by omega
      have dl : decide (i < i) = false := by rw [decide_eq_false_iff_not]; omega
      have e2 := HE.out
      rw [Nat.mod_eq_of_lt LA.out] at e2
      subst e2
      clear HE
      go_wp2_with fail
      refine (nat_fit N (a * 2 ^ n) w'.heap.size N v (by omega) XB.out HV.out _ r0).mono ?_
      rintro e w2 ⟨rfl, hb2⟩
      go_wp2
      go_ret2
      exact ⟨rfl, hbw.trans (hb2.mono hbw.size)⟩

theorem lf_neg (a : Nat) (n : Int) (h : n < 0) : lf a n = (⟨#[]⟩, 2) := by unfold lf; rw [if_pos h]
theorem lf_long (a : Nat) (n : Int) (h : 0 ≤ n) (h0 : a ≠ 0) (hl : 131072 < (blen a : Int) + n) : lf a n = (⟨#[]⟩, 4) := by
  unfold lf lg
  have e : blen (a * 2 ^ n.toNat) = blen a + n.toNat := blen_pow a _ h0
  rw [if_neg (by omega), if_neg]
  unfold nl
  omega
theorem lf_in (a n : Nat) (h0 : a ≠ 0) (hl : blen a + n ≤ 131072) : lf a (n : Int) = (nbA (a * 2 ^ n), 0) := by
  unfold lf lg
  rw [if_neg (by omega), Int.toNat_natCast, if_pos]
  have e : blen (a * 2 ^ n) = blen a + n := blen_pow a _ h0
  unfold nl
  omega
theorem lf_zero (n : Int) (h : 0 ≤ n) : lf 0 n = (⟨#[]⟩, 0) := by
  unfold lf lg
  rw [if_neg (by omega), Nat.zero_mul, nl_zero, if_pos (by omega), nbA_zero]

theorem nat_Left (a : Nat) (n : Int) (s v : ByteArray) (e : Int) (hs : nbA a = s) (ha : nl a ≤ 16384) (hn : n ≤ 9223372036854775807) (hr : lf a n = (v, e)) (w : World) :
    Calls Tryz.prog 126 #[.string s, .int .i64 n] w fun r w' => r = .returned (.tuple #[.string v, .int .i64 e]) ∧ Below w.heap.size w w' := by
  have hz : s.size = nl a := by rw [← hs, nbA_size]
  have d2 := eq_empty s
  by_cases h1 : n < 0
  · rw [lf_neg a n h1] at hr
    injection hr with e1 e2
    subst e1 e2
    have c0 : decide (n < 0) = true := decide_eq_true h1
    clear h1 hs
    go_enter Tryz.func126, Tryz.ntmps126
    go_wp2
    go_ret2
    exact ⟨rfl, Below.refl _ _⟩
  · have c0 : decide (n < 0) = false := decide_eq_false h1
    by_cases h0 : a = 0
    · subst h0
      rw [lf_zero n (by omega)] at hr
      injection hr with e1 e2
      subst e1 e2
      rw [decide_eq_true (by rw [hz, nl_zero])] at d2
      clear h1 hs hz
      go_enter Tryz.func126, Tryz.ntmps126
      go_wp2
      go_ret2
      exact ⟨rfl, Below.refl _ _⟩
    · have hp := nl_pos a h0
      by_cases hl : 131072 < (blen a : Int) + n
      · rw [lf_long a n (by omega) h0 hl] at hr
        injection hr with e1 e2
        subst e1 e2
        rw [decide_eq_false (by omega)] at d2
        obtain ⟨l, hl2⟩ : ∃ l, blen a = l := ⟨_, rfl⟩
        rw [hl2] at hl
        have HL := box hl2
        have HS := box hs
        have HA := box ha
        by_cases hb : 131072 < n
        · have c1 : decide (131072 < n) = true := decide_eq_true hb
          clear h1 hs hz hl hl2 h0 ha hp
          go_enter Tryz.func126, Tryz.ntmps126
          go_wp2
          go_ret2
          exact ⟨rfl, Below.refl _ _⟩
        · have c1 : decide (131072 < n) = false := decide_eq_false hb
          have lb : l ≤ 131072 := by
            have := ha
            unfold nl at this
            omega
          have n0 : IntKind.i64.wrap ((l : Int) + n) = (l : Int) + n := wrap_i64_is _ (by omega) (by omega)
          have c2 : decide (131072 < (l : Int) + n) = true := decide_eq_true hl
          clear h1 hs hz hl hl2 h0 ha hp
          go_enter Tryz.func126, Tryz.ntmps126
          go_wp2_with fail
          refine (nat_Len a l s HS.out HA.out HL.out _).mono ?_
          rintro e w' ⟨rfl, rfl⟩
          go_wp2
          go_ret2
          exact ⟨rfl, Below.refl _ _⟩
      · obtain ⟨m, rfl⟩ : ∃ m : Nat, n = (m : Int) := ⟨n.toNat, by omega⟩
        rw [lf_in a m h0 (by omega)] at hr
        injection hr with e1 e2
        subst e2
        exact nat_left_in a m s v hs h0 ha (by omega) e1 w

theorem lost_low (a n t : Nat) (h : LowB a t) : (a % 2 ^ n ≠ 0) ↔ t < n := by
  constructor
  · intro h1
    rcases Nat.lt_or_ge t n with h2 | h2
    · exact h2
    · exfalso
      apply h1
      obtain ⟨d, hd⟩ := Nat.dvd_of_mod_eq_zero h.1
      apply Nat.mod_eq_zero_of_dvd
      refine Nat.dvd_trans (Nat.pow_dvd_pow 2 h2) ?_
      exact ⟨d, hd⟩
  · intro h1 h2
    have h3 := Nat.testBit_mod_two_pow a n t
    rw [h2, h.2, decide_eq_true h1, Nat.zero_testBit] at h3
    cases h3

theorem right_byte (a i n q r p x y t z : Nat) (hq : q = n / 8) (hr : r = n % 8) (hp : p = i + q) (hx : d8 a p = x) (hy : d8 a (p + 1) = y) (ht : x + 256 * y = t) (hz : t / 2 ^ r % 256 = z) : d8 (a / 2 ^ n) i = z := by
  have e1 : t = a / 2 ^ (8 * p) % 2 ^ 16 := by
    rw [← ht, ← hx, ← hy]
    unfold d8
    rw [pow8, ← Nat.div_div_eq_div_mul]
    omega
  have e2 : a / 2 ^ n / 2 ^ (8 * i) = a / 2 ^ (8 * p) / 2 ^ r := by
    rw [Nat.div_div_eq_div_mul, ← Nat.pow_add, Nat.div_div_eq_div_mul, ← Nat.pow_add]
    congr 2
    omega
  unfold d8
  rw [e2, ← hz, e1]
  generalize a / 2 ^ (8 * p) = A
  rw [two8]
  have e3 : A % 2 ^ 16 = A % 2 ^ (r + (16 - r)) := by congr 2; omega
  rw [e3, Nat.pow_add, Nat.mod_mul_right_div_self, Nat.mod_mod_of_dvd]
  exact Nat.pow_dvd_pow 2 (by omega)

set_option maxHeartbeats 2000000 in
set_option maxRecDepth 100000 in
theorem nat_Right (a : Nat) (n : Int) (s v : ByteArray) (o : Bool) (hs : nbA a = s) (ha : nl a ≤ 16384) (h0 : 0 ≤ n) (hn : n ≤ 9223372036854775807) (hv : nbA (a / 2 ^ n.toNat) = v) (ho : decide (a % 2 ^ n.toNat ≠ 0) = o) (w : World) :
    Calls Tryz.prog 108 #[.string s, .int .i64 n] w fun r w' => r = .returned (.tuple #[.string v, .bool o, .int .i64 0]) ∧ Below w.heap.size w w' := by
  obtain ⟨n, rfl⟩ : ∃ m : Nat, n = (m : Int) := ⟨n.toNat, by omega⟩
  rw [Int.toNat_natCast] at hv ho
  have c0 : decide ((n : Int) < 0) = false := by rw [decide_eq_false_iff_not]; omega
  obtain ⟨L, hL⟩ : ∃ L, nl a = L := ⟨_, rfl⟩
  have hz : s.size = L := by rw [← hs, nbA_size, hL]
  have d2 := eq_empty s
  by_cases ha0 : a = 0
  · subst ha0
    rw [Nat.zero_div, nbA_zero] at hv
    rw [Nat.zero_mod] at ho
    subst hv ho
    rw [decide_eq_true (by rw [hz, ← hL, nl_zero])] at d2
    clear hs hz hL
    go_enter Tryz.func108, Tryz.ntmps108
    go_wp2
    exact bodyPost_ret (v := .tuple #[.string ⟨#[]⟩, .bool false, .int .i64 0]) (by simp [results, Tryz.results108, go_sem]) rfl ⟨rfl, Below.refl _ _⟩
  · have hp := nl_pos a ha0
    have la := nl_lt a
    rw [hL] at hp la ha
    rw [decide_eq_false (by omega)] at d2
    obtain ⟨t, ht⟩ := lowB_any a ha0
    have hlo := lost_low a n t ht
    have hLN : LowN a t := Or.inr ⟨ha0, ht⟩
    have e1 : decide (t < n) = o := by rw [← ho]; exact decide_eq_decide.2 hlo.symm
    have HS := box hs
    have HA : Box (nl a ≤ 16384) := box (by omega)
    have HN := box hLN
    have NA : Box (nl a ≤ 100000) := box (by omega)
    have n0 : IntKind.i64.wrap (8 * (L : Int)) = 8 * (L : Int) := wrap_i64_is _ (by omega) (by omega)
    have LA := box la
    by_cases hb : 8 * L ≤ n
    · have c1 : decide (8 * (L : Int) ≤ (n : Int)) = true := by rw [decide_eq_true_iff]; omega
      have ev : v = ⟨#[]⟩ := by
        rw [← hv, Nat.div_eq_of_lt (Nat.lt_of_lt_of_le la (Nat.pow_le_pow_right (by decide) hb)), nbA_zero]
      subst ev
      clear hs hL hv ho ht hlo hLN hb la ha0
      go_enter Tryz.func108, Tryz.ntmps108
      go_wp2_with fail
      refine (nat_Low a t s HS.out HA.out HN.out _).mono ?_
      rintro e w' ⟨rfl, rfl⟩
      go_wp2
      exact bodyPost_ret (v := .tuple #[.string ⟨#[]⟩, .bool o, .int .i64 0]) (by simp [results, Tryz.results108, go_sem]) rfl ⟨rfl, Below.refl _ _⟩
    · have c1 : decide (8 * (L : Int) ≤ (n : Int)) = false := by rw [decide_eq_false_iff_not]; omega
      obtain ⟨q, hq⟩ : ∃ q, q = n / 8 := ⟨_, rfl⟩
      obtain ⟨r, hr⟩ : ∃ r, r = n % 8 := ⟨_, rfl⟩
      obtain ⟨m, hm⟩ : ∃ m, L - q = m := ⟨_, rfl⟩
      obtain ⟨b, hb2⟩ : ∃ b, a / 2 ^ n = b := ⟨_, rfl⟩
      have q1 : (n : Int) / 8 = (q : Int) := by omega
      have r1 : (n : Int) % 8 = (r : Int) := by omega
      have r8 : r < 8 := by omega
      have m1 : (L : Int) - (q : Int) = (m : Int) := by omega
      have bm : b < 2 ^ (8 * m) := by
        rw [← hb2, Nat.div_lt_iff_lt_mul (Nat.two_pow_pos _), ← Nat.pow_add]
        exact Nat.lt_of_lt_of_le la (Nat.pow_le_pow_right (by decide) (by omega))
      have HB := box hb2
      have BM := box bm
      have HQ := box hq
      have HR := box hr
      rw [hb2] at hv
      have HV := box hv
      have hmk := c8_make m (by omega)
      have m2 : m ≤ 16384 := by omega
      have q2 : q ≤ 16384 := by omega
      have qm : q + m = L := by omega
      have L2 : L ≤ 16384 := by omega
      clear hs hL hv ho ht hlo hLN hb la ha0 hq hr hm hb2 bm
      go_enter Tryz.func108, Tryz.ntmps108
      go_wp2_with fail
      refine (nat_Low a t s HS.out HA.out HN.out _).mono ?_
      rintro e w' ⟨rfl, hw'⟩
      subst hw'
      go_wp2
      clear hmk c0 c1 d2 e1
      go_loopw [10] (fun iv wr => ∃ i : Nat, i ≤ m ∧ iv = .int .i64 i ∧ wr.heap[w'.heap.size]? = some (.cells (c8 m (b % 2 ^ (8 * i))) 5) ∧ Below w'.heap.size w' wr) (fun iv _ => m - (intOf iv).toNat)
      case atStart => exact ⟨0, by omega, rfl, by rw [Nat.mul_zero, Nat.pow_zero, Nat.mod_one]; exact heap_alloc_last _ _, (Below.refl _ _).alloc (Nat.le_refl _) _⟩
      case round =>
        obtain ⟨i, hi, rfl, r0, hbw⟩ := hrel
        by_cases hlt : i < m
        · obtain ⟨p, hp2⟩ : ∃ p, p = i + q := ⟨_, rfl⟩
          obtain ⟨p1, hp1⟩ : ∃ p1, p1 = p + 1 := ⟨_, rfl⟩
          obtain ⟨x, hx⟩ : ∃ x, d8 a p = x := ⟨_, rfl⟩
          obtain ⟨y, hy⟩ : ∃ y, d8 a p1 = y := ⟨_, rfl⟩
          have x256 : x < 256 := by rw [← hx]; exact d8_lt _ _
          have y256 : y < 256 := by rw [← hy]; exact d8_lt _ _
          obtain ⟨u, hu⟩ : ∃ u, x + 256 * y = u := ⟨_, rfl⟩
          obtain ⟨z, hz2⟩ : ∃ z, u / 2 ^ r % 256 = z := ⟨_, rfl⟩
          have z256 : z < 256 := by rw [← hz2]; exact Nat.mod_lt _ (by decide)
          have e1 := right_byte a i n q r p x y u z HQ.out HR.out hp2 hx (by rw [← hp1]; exact hy) hu hz2
          rw [HB.out] at e1
          have pi : (i : Int) + (q : Int) = (p : Int) := by omega
          have pi1 : (p : Int) + 1 = (p1 : Int) := by omega
          obtain ⟨Y, hY⟩ : ∃ Y, 256 * y = Y := ⟨_, rfl⟩
          have n3 : (y : Int) * 256 = (Y : Int) := by omega
          have n4 : IntKind.i64.wrap (Y : Int) = (Y : Int) := wrap_i64_is _ (by omega) (by omega)
          have n5 : bits .or .i64 (x : Int) (Y : Int) = (u : Int) := by
            show IntKind.i64.wrap ((BitVec.ofInt 64 (x : Int) ||| BitVec.ofInt 64 (Y : Int)).toNat : Int) = _
            have h1 : (BitVec.ofInt 64 (x : Int)).toNat = x := by simp; omega
            have h2 : (BitVec.ofInt 64 (Y : Int)).toNat = Y := by simp; omega
            have h3 : x ||| Y = x + Y := by
              have := or_disj x y 8 (by rw [← two8]; exact x256)
              rw [← two8, Nat.mul_comm y, hY] at this
              exact this.symm
            rw [BitVec.toNat_or, h1, h2, h3, show x + Y = u by omega, wrap_i64_is _ (by omega) (by omega)]
          have n6 : IntKind.u8.wrap ((u : Int) / 2 ^ r) = (z : Int) := by
            rw [div_cast]
            exact wrap_u8_is _ z hz2
          have k1 := c8_cell r0 hlt
          have k2 := fz (k := i) r0
          have RS : Box ((wr.setCell ⟨w'.heap.size, i, none⟩ (.int .u8 (z : Int))).heap[w'.heap.size]? = some (.cells (c8 m (b % 2 ^ (8 * (i + 1)))) 5)) := box (by rw [setCell_row r0, c8_push m _ i z _ hlt (Nat.mod_lt _ (Nat.two_pow_pos _)) z256 rfl, mod_d8, e1])
          have HX := box hx
          have HY := box hy
          have dl : decide (i < m) = true := decide_eq_true hlt
          clear hp2 hp1 hx hy hu hz2 e1 hY
          go_wp2_with fail
          refine (nat_at a p x s HS.out HX.out NA.out _).mono ?_
          rintro e w2 ⟨rfl, rfl⟩
          go_wp2_with fail
          refine (nat_at a p1 y s HS.out HY.out NA.out _).mono ?_
          rintro e w2 ⟨rfl, rfl⟩
          go_wp2
          go_roundw
          case rel => exact ⟨i + 1, by omega, by go_num, RS.out, hbw.setCell (Nat.le_refl _) _⟩
          case measure => simp [intOf] <;> omega
        · obtain rfl : i = m := by omega
          have dl : decide (i < i) = false := by rw [decide_eq_false_iff_not]; omega
          rw [Nat.mod_eq_of_lt BM.out] at r0
          go_wp2_with fail
          refine (nat_fit i b w'.heap.size i v (by omega) BM.out HV.out _ r0).mono ?_
          rintro e w2 ⟨rfl, hb2⟩
          go_wp2
          exact bodyPost_ret (v := .tuple #[.string v, .bool o, .int .i64 0]) (by simp [results, Tryz.results108, go_sem]) rfl ⟨rfl, hbw.trans (hb2.mono hbw.size)⟩

end Go.Proofs.YtkmlbjlaahcahaaGreatDoor
namespace Go.Proofs.YtkmlbjlaahcahaaGreatDoor
set_option maxRecDepth 100000
open Go.RowKit WMath

theorem tabB {w w' : World} (h : TabAt w) (hb : Below w.heap.size w w') : TabAt w' := fun i hi => by
  rw [hb.cell (p := ⟨4, i, none⟩) (World.block_lt_of_cell? w _ (h i hi))]
  exact h i hi
theorem tabA {w : World} (h : TabAt w) (o : Obj) : TabAt (w.alloc o) := tabB h (bal w o)

theorem lowB8 (x r : Nat) (hx : x < 256) (h : LowB x r) : LowIs x r ∧ r < 8 := by
  have h8 : r < 8 := by
    by_cases e : r < 8
    · exact e
    · have := lt_bit (n := x) (q := 8) (by rw [← two8]; exact hx) (show 8 ≤ r by omega)
      rw [h.2] at this
      exact absurd this (by decide)
  exact ⟨⟨by omega, h.1, h.2⟩, h8⟩

set_option maxRecDepth 100000 in
set_option maxHeartbeats 1000000 in
theorem pn_low_ok (n t : Nat) (s : ByteArray) (hs : nbA n = s) (h : nl n ≤ 16384) (ht : LowN n t) (w : World) (hT : TabAt w) :
    Calls Tryz.prog 180 #[.string s] w fun r w' => r = .returned (.int .i64 (t : Nat)) ∧ Below w.heap.size w w' := by
  obtain ⟨L, hL⟩ : ∃ L, nl n = L := ⟨_, rfl⟩
  have hz : s.size = L := by rw [← hs, nbA_size, hL]
  have HM : Box (mayB s = true) := box (by rw [← hs]; exact mayB_nb n h)
  rw [hL] at h
  have HS := box hs
  have HT := box ht
  have HL := box hL
  have TA := box (tabA hT (.cells #[.string s] 26))
  have b0 := bal w (.cells #[.string s] 26)
  clear hs ht hL hT
  go_enter Tryz.func180, Tryz.ntmps180
  go_wp2_with fail
  refine (n_may1 s true HM.out _ w).mono ?_
  rintro r w0 ⟨rfl, rfl⟩
  go_wp2
  go_loopw [11] (fun iv wr => ∃ i : Nat, i ≤ L ∧ iv = .int .i64 i ∧ wr = w.alloc (.cells #[.string s] 26) ∧ Box (n % 2 ^ (8 * i) = 0)) (fun iv _ => L - (intOf iv).toNat)
  case atStart => exact ⟨0, by omega, rfl, rfl, box (by rw [Nat.mul_zero, Nat.pow_zero, Nat.mod_one])⟩
  case round =>
    obtain ⟨i, hi, rfl, rfl, HE⟩ := hrel
    by_cases hlt : i < L
    · obtain ⟨k, hk⟩ : ∃ k, L - 1 - i = k := ⟨_, rfl⟩
      have hk2 : k < s.size := by omega
      obtain ⟨x, hx⟩ : ∃ x, (s[k]'hk2).toNat = x := ⟨_, rfl⟩
      have hxd : d8 n i = x := by
        rw [← hx]
        have e := HS.out
        subst e
        rw [nbA_get, HL.out, ← hk, show L - 1 - (L - 1 - i) = i by omega]
      have x256 : x < 256 := by rw [← hxd]; exact d8_lt _ _
      have n1 : IntKind.i64.wrap ((L : Int) - 1) = (L : Int) - 1 := wrap_i64_is _ (by omega) (by omega)
      have n2 : IntKind.i64.wrap ((L : Int) - 1 - (i : Int)) = (k : Int) := by rw [wrap_i64_is _ (by omega) (by omega)]; omega
      have n2' : (L : Int) - 1 - (i : Int) = (k : Int) := by omega
      have n2'' : IntKind.i64.wrap (k : Int) = (k : Int) := wrap_i64_is _ (by omega) (by omega)
      have hxr := idx_runN s k (k : Int) x rfl hk2 hx
      have dl : decide (i < L) = true := decide_eq_true hlt
      by_cases hx0 : x = 0
      · have NE : Box (n % 2 ^ (8 * (i + 1)) = 0) := box (by rw [mod_d8, HE.out, hxd, hx0, Nat.mul_zero])
        have d0 : ((x : Int) != 0) = false := by simp; omega
        clear hk hx hxd HE hx0
        go_wp2
        go_roundw
        case rel => exact ⟨i + 1, by omega, by go_num, by first | rfl | trivial, NE⟩
        case measure => simp [intOf] <;> omega
      · obtain ⟨r, hr⟩ := lowB_any x hx0
        obtain ⟨hr1, r8⟩ := lowB8 x r x256 hr
        have hnl := lowB_d8 n i r HE.out (by rw [hxd]; exact hr) r8
        have et : 8 * i + r = t := by
          rcases HT.out with ⟨h1, _⟩ | ⟨_, h2⟩
          · exfalso
            rw [h1, d8_zero] at hxd
            exact hx0 hxd.symm
          · exact lowB_one n _ _ hnl h2
        have d0 : ((x : Int) != 0) = true := by simp; omega
        have LW := box (low_any x r (by omega) hr1 _ TA.out)
        have n3 : IntKind.u64.wrap (x : Int) = (x : Int) := by rw [IntKind.wrap_u64]; omega
        have n4 : IntKind.i64.wrap ((i : Int) * 8) = (i : Int) * 8 := wrap_i64_is _ (by omega) (by omega)
        have n5 : IntKind.i64.wrap ((i : Int) * 8 + (r : Int)) = (t : Int) := by rw [wrap_i64_is _ (by omega) (by omega)]; omega
        clear hk hx hxd HE hx0 hr hr1 hnl et
        go_wp2_with fail
        refine LW.out.mono ?_
        rintro e w' ⟨rfl, rfl⟩
        go_wp2
        go_ret
        exact ⟨rfl, b0⟩
    · obtain rfl : i = L := by omega
      have e := HE.out
      rw [Nat.mod_eq_of_lt (by rw [← HL.out]; exact nl_lt n)] at e
      have et : t = 0 := by
        rcases HT.out with ⟨_, h2⟩ | ⟨h1, _⟩
        · exact h2
        · exact absurd e h1
      subst et
      have dl : decide (i < i) = false := by rw [decide_eq_false_iff_not]; omega
      clear e
      go_wp2
      go_ret
      exact ⟨rfl, b0⟩

theorem blen_shl (b n : Nat) (hb : b ≠ 0) : blen (b * 2 ^ n) = blen b + n := by
  have h1 := blen_le b hb
  have h2 := blen_lt b
  have h3 := blen_pos b hb
  have e : blen b + n = blen b - 1 + n + 1 := by omega
  rw [e]
  apply blen_of
  · rw [Nat.pow_add]; exact Nat.mul_le_mul_right _ h1
  · rw [show blen b - 1 + n + 1 = blen b + n by omega, Nat.pow_add]
    exact Nat.mul_lt_mul_of_pos_right h2 (Nat.two_pow_pos _)
set_option maxRecDepth 100000 in
theorem pn_left_ok (a : Nat) (n : Int) (s v : ByteArray) (e : Int) (hs : nbA a = s) (ha : nl a ≤ 16384) (h63 : -9223372036854775808 ≤ n) (hn : n ≤ 9223372036854775807) (hr : lf a n = (v, e)) (w : World) :
    Calls Tryz.prog 117 #[.string s, .int .i64 n] w fun r w' => r = .returned (.tuple #[.string v, .int .i64 e]) ∧ Below w.heap.size w w' := by
  have HM : Box (mayB s = true) := box (by rw [← hs]; exact mayB_nb a ha)
  have b0 := bal w (.cells #[.string s] 26)
  unfold lf at hr
  by_cases h0 : n < 0
  · rw [if_pos h0] at hr
    cases hr
    have d0 : decide (n < 0) = true := decide_eq_true h0
    clear hs
    go_enter Tryz.func117, Tryz.ntmps117
    go_wp2_with fail
    refine (n_may1 s true HM.out _ w).mono ?_
    rintro r w0 ⟨rfl, rfl⟩
    go_wp2
    go_ret2
    exact ⟨rfl, b0⟩
  · rw [if_neg h0] at hr
    obtain ⟨k, rfl⟩ : ∃ k : Nat, n = (k : Int) := ⟨n.toNat, by omega⟩
    rw [Int.toNat_natCast] at hr
    have d0 : decide ((k : Int) < 0) = false := by rw [decide_eq_false_iff_not]; omega
    have d2 := eq_empty s
    by_cases a0 : a = 0
    · subst a0
      rw [nbA_zero] at hs
      subst hs
      have ez : v = ⟨#[]⟩ ∧ e = 0 := by
        unfold lg at hr
        rw [Nat.zero_mul, if_pos (by rw [nl_zero]; omega), nbA_zero] at hr
        cases hr
        exact ⟨rfl, rfl⟩
      obtain ⟨rfl, rfl⟩ := ez
      clear d2
      go_enter Tryz.func117, Tryz.ntmps117
      go_wp2_with fail
      refine (n_may1 _ true HM.out _ w).mono ?_
      rintro r w0 ⟨rfl, rfl⟩
      go_wp2
      go_ret2
      exact ⟨rfl, b0⟩
    · rw [decide_eq_false (by rw [← hs, nbA_size]; have := nl_pos a a0; omega)] at d2
      obtain ⟨l, hl⟩ : ∃ l, blen a = l := ⟨_, rfl⟩
      have l2 : l ≤ 131072 := by rw [← hl]; unfold nl at ha; omega
      have n1 : IntKind.i64.wrap (131072 - (l : Int)) = 131072 - (l : Int) := wrap_i64_is _ (by omega) (by omega)
      have hb := blen_shl a k a0
      rw [hl] at hb
      have HS := box hs
      have HA := box ha
      have HL := box hl
      by_cases hc : l + k ≤ 131072
      · have d1 : decide ((131072 : Int) - (l : Int) < (k : Int)) = false := decide_eq_false (by omega)
        have hv : nbA (a * 2 ^ k) = v ∧ e = 0 := by
          unfold lg at hr
          rw [if_pos (by unfold nl; rw [hb]; omega)] at hr
          cases hr
          exact ⟨rfl, rfl⟩
        obtain ⟨hv, rfl⟩ := hv
        obtain ⟨K, hK⟩ : ∃ K, wl a = K := ⟨_, rfl⟩
        obtain ⟨M, hM⟩ : ∃ M, wl (a * 2 ^ k) = M := ⟨_, rfl⟩
        have hK2 : K ≤ 2048 := by rw [← hK]; exact wl_of_nl a ha
        have hM2 : M ≤ 2048 := by rw [← hM]; unfold wl; rw [hb]; omega
        have k2 : k ≤ 131072 := by omega
        have HK := box hK
        have HMM := box hM
        have HV := box hv
        clear hs ha hr hl hb hv hK hM a0
        go_enter Tryz.func117, Tryz.ntmps117
        go_wp2_with fail
        refine (n_may1 s true HM.out _ w).mono ?_
        rintro r w0 ⟨rfl, rfl⟩
        go_wp2_with fail
        refine (pn_len_ok a l s HS.out HA.out HL.out _).mono ?_
        rintro r w1 ⟨rfl, b1⟩
        go_wp2_with fail
        refine (l_wordsOf a K s HS.out (by have := HA.out; omega) HK.out _).mono ?_
        rintro r w2 ⟨p, c, rfl, s2, b2⟩
        go_wp2_with fail
        refine (l_up w2 p K c a k M _ s2 (Nat.le_refl _) (by omega) (by omega) HMM.out).mono ?_
        rintro r w3 ⟨q, d, rfl, s3, b3⟩
        go_wp2_with fail
        refine (l_natOf w3 q M d (a * 2 ^ k) _ v s3 (Nat.le_refl _) (by omega) HV.out).mono ?_
        rintro r w4 ⟨rfl, b4⟩
        go_wp2
        go_ret2
        exact ⟨rfl, btr b0 (btr b1 (btr b2 (btr b3 b4)))⟩
      · have d1 : decide ((131072 : Int) - (l : Int) < (k : Int)) = true := decide_eq_true (by omega)
        have hv : v = ⟨#[]⟩ ∧ e = 4 := by
          unfold lg at hr
          rw [if_neg (by unfold nl; rw [hb]; omega)] at hr
          cases hr
          exact ⟨rfl, rfl⟩
        obtain ⟨rfl, rfl⟩ := hv
        clear hs ha hr hl hb a0
        go_enter Tryz.func117, Tryz.ntmps117
        go_wp2_with fail
        refine (n_may1 s true HM.out _ w).mono ?_
        rintro r w0 ⟨rfl, rfl⟩
        go_wp2_with fail
        refine (pn_len_ok a l s HS.out HA.out HL.out _).mono ?_
        rintro r w1 ⟨rfl, b1⟩
        go_wp2
        go_ret2
        exact ⟨rfl, btr b0 b1⟩
end Go.Proofs.YtkmlbjlaahcahaaGreatDoor
namespace Go.Proofs.YtkmlbjlaahcahaaGreatDoor.XMath
set_option maxRecDepth 100000
open WMath

/-- How many twos a number has. -/
def tz (n : Nat) : Nat := if h : n = 0 ∨ n % 2 = 1 then 0 else tz (n / 2) + 1
termination_by n
decreasing_by omega
theorem tz_odd (n : Nat) (h : n % 2 = 1) : tz n = 0 := by rw [tz, dif_pos (Or.inr h)]
theorem tz_even (n : Nat) (h0 : n ≠ 0) (h : n % 2 = 0) : tz n = tz (n / 2) + 1 := by rw [tz, dif_neg (by omega)]
theorem tz_is (n : Nat) (h : n ≠ 0) : ∃ m, n = m * 2 ^ tz n ∧ m % 2 = 1 := by
  induction n using Nat.strongRecOn with
  | _ n ih =>
    by_cases h1 : n % 2 = 1
    · exact ⟨n, by rw [tz_odd n h1, Nat.pow_zero, Nat.mul_one], h1⟩
    · obtain ⟨m, hm, ho⟩ := ih (n / 2) (by omega) (by omega)
      refine ⟨m, ?_, ho⟩
      rw [tz_even n h (by omega), Nat.pow_succ, ← Nat.mul_assoc, ← hm]
      omega
/-- A number without its twos. -/
def od (n : Nat) : Nat := n / 2 ^ tz n
theorem od_is (n : Nat) (h : n ≠ 0) : n = od n * 2 ^ tz n ∧ od n % 2 = 1 := by
  obtain ⟨m, hm, ho⟩ := tz_is n h
  have e : od n = m := by
    unfold od
    generalize tz n = k at hm ⊢
    rw [hm]
    exact Nat.mul_div_cancel _ (Nat.two_pow_pos _)
  rw [e]
  exact ⟨hm, ho⟩
theorem od_odd (n : Nat) (h : n % 2 = 1) : od n = n := by unfold od; rw [tz_odd n h, Nat.pow_zero, Nat.div_one]
theorem od_le (n : Nat) : od n ≤ n := Nat.div_le_self _ _
theorem tz_low (n : Nat) : LowN n (tz n) := by
  by_cases h : n = 0
  · left
    exact ⟨h, by rw [h, tz, dif_pos (Or.inl rfl)]⟩
  · right
    obtain ⟨h1, h2⟩ := od_is n h
    refine ⟨h, ?_, ?_⟩
    · generalize tz n = k at h1
      rw [h1, Nat.mul_mod_left]
    · rw [Nat.testBit, Nat.shiftRight_eq_div_pow]
      have e : n / 2 ^ tz n = od n := rfl
      rw [e]
      simp only [Nat.one_and_eq_mod_two, bne_iff_ne, ne_eq]
      omega
theorem tz_blen (n : Nat) : tz n ≤ blen n := by
  by_cases h : n = 0
  · rw [h, tz, dif_pos (Or.inl rfl)]; omega
  · obtain ⟨h1, h2⟩ := od_is n h
    have h3 : 2 ^ tz n ≤ n := by
      generalize tz n = k at h1 ⊢
      rw [h1]
      exact Nat.le_mul_of_pos_left _ (by omega)
    have h4 := blen_lt n
    exact Nat.le_of_lt ((Nat.pow_lt_pow_iff_right (by decide : 1 < 2)).1 (Nat.lt_of_le_of_lt h3 h4))

/-- A rational number: its sign, numerator, denominator, exponent. -/
structure XN where
  b : Bool
  n : Nat
  d : Nat
  e : Int
/-- May it be? -/
def XN.can (x : XN) : Prop := nl x.n ≤ 16384 ∧ nl x.d ≤ 16384 ∧ -1048576 ≤ x.e ∧ x.e ≤ 1048576 ∧ ((x.b = false ∧ x.n = 0 ∧ x.d = 1 ∧ x.e = 0) ∨ (x.n % 2 = 1 ∧ x.d % 2 = 1 ∧ Nat.gcd x.n x.d = 1))
def sgn (b : Bool) : Rat := if b then -1 else 1
def XN.val (x : XN) : Rat := sgn x.b * ((x.n : Rat) / (x.d : Rat)) * (2 : Rat) ^ x.e
def X0 : XN := ⟨false, 0, 1, 0⟩
def XZ : XN := ⟨false, 0, 0, 0⟩
theorem XN.can.d {x : XN} (h : x.can) : x.d % 2 = 1 := by rcases h.2.2.2.2 with h | h <;> omega
theorem XN.can.d0 {x : XN} (h : x.can) : x.d ≠ 0 := by have := h.d; omega
theorem XN.can.null {x : XN} (h : x.can) (h0 : x.n = 0) : x = X0 := by
  rcases h.2.2.2.2 with h | h
  · cases x; simp_all [X0]
  · omega
theorem XN.can.odd {x : XN} (h : x.can) (h0 : x.n ≠ 0) : x.n % 2 = 1 ∧ x.d % 2 = 1 ∧ Nat.gcd x.n x.d = 1 := by
  rcases h.2.2.2.2 with h | h
  · exact absurd h.2.1 h0
  · exact h
def mk (neg : Bool) (n d : Nat) (e : Int) : XN × Int :=
  if n = 0 then (X0, 0)
  else if -1048576 ≤ e + (tz n : Int) - (tz d : Int) ∧ e + (tz n : Int) - (tz d : Int) ≤ 1048576 then (⟨neg, od n / Nat.gcd (od n) (od d), od d / Nat.gcd (od n) (od d), e + (tz n : Int) - (tz d : Int)⟩, 0)
  else (XZ, 4)
theorem mk_null (neg : Bool) (d : Nat) (e : Int) : mk neg 0 d e = (X0, 0) := by unfold mk; rw [if_pos rfl]
theorem p2 (e : Int) : (0 : Rat) < (2 : Rat) ^ e := Rat.zpow_pos (by decide)
theorem p2add (e f : Int) : (2 : Rat) ^ (e + f) = (2 : Rat) ^ e * (2 : Rat) ^ f := Rat.zpow_add (by decide) e f
theorem p2nat (n : Nat) : (2 : Rat) ^ (n : Int) = ((2 ^ n : Nat) : Rat) := by rw [Rat.zpow_natCast, Rat.natCast_pow]; rfl
theorem cast_ne {n : Nat} (h : n ≠ 0) : (n : Rat) ≠ 0 := fun e => h (Rat.natCast_eq_zero_iff.1 e)
theorem cast_pos {n : Nat} (h : n ≠ 0) : (0 : Rat) < (n : Rat) := Rat.natCast_pos.2 (by omega)
/-- The magnitude. -/
def XN.mag (x : XN) : Rat := ((x.n : Rat) / (x.d : Rat)) * (2 : Rat) ^ x.e
/-- What the sum's formula makes of the one number: at the lesser exponent, over both denominators. -/
def sA (x y : XN) : Nat := x.n * y.d * 2 ^ (x.e - min x.e y.e).toNat
def sS (x y : XN) : Nat := if x.b = y.b then sA x y + sA y x else if sA x y < sA y x then sA y x - sA x y else sA x y - sA y x
theorem mul_ne {a b : Nat} (ha : a ≠ 0) (hb : b ≠ 0) : a * b ≠ 0 := fun h => by rcases Nat.mul_eq_zero.1 h with h | h <;> contradiction
def sg (x : XN) : Int := if x.n = 0 then 0 else if x.b then -1 else 1
def lenD (x : XN) : Int := (blen x.n : Int) - (blen x.d : Int)
def tA (x : XN) : Nat := x.n * 2 ^ (max (-lenD x) 0).toNat
def tB (x : XN) : Nat := x.d * 2 ^ (max (lenD x) 0).toNat
def topX (x : XN) : Int := (if tA x < tB x then lenD x - 1 else lenD x) + x.e
def flX (x : XN) (e : Int) : (Nat × Bool) × Int :=
  if e < -2097152 ∨ 2097152 < e then ((0, false), 2) else if x.n = 0 then ((0, true), 0)
  else if e ≤ x.e then (if nl (x.n * 2 ^ (x.e - e).toNat) ≤ 16384 then ((x.n * 2 ^ (x.e - e).toNat / x.d, decide (x.n * 2 ^ (x.e - e).toNat % x.d = 0)), 0) else ((0, false), 4))
  else if topX x < e then ((0, false), 0) else ((x.n / (x.d * 2 ^ (e - x.e).toNat), false), 0)

theorem tA_len (x : XN) (n0 : x.n ≠ 0) (d0 : x.d ≠ 0) : blen (tA x) = blen (tB x) ∧ tA x ≠ 0 ∧ tB x ≠ 0 := by
  unfold tA tB
  rw [blen_shl _ _ n0, blen_shl _ _ d0]
  refine ⟨?_, mul_ne n0 (Nat.pos_iff_ne_zero.1 (Nat.two_pow_pos _)), mul_ne d0 (Nat.pos_iff_ne_zero.1 (Nat.two_pow_pos _))⟩
  unfold lenD
  omega
theorem tA_near (x : XN) (n0 : x.n ≠ 0) (d0 : x.d ≠ 0) : tA x < 2 * tB x ∧ tB x < 2 * tA x := by
  obtain ⟨h1, h2, h3⟩ := tA_len x n0 d0
  have a1 := blen_lt (tA x)
  have a2 := blen_le (tA x) h2
  have b1 := blen_lt (tB x)
  have b2 := blen_le (tB x) h3
  have p := blen_pos (tA x) h2
  rw [← h1] at b1 b2
  obtain ⟨k, hk⟩ : ∃ k, blen (tA x) = k + 1 := ⟨_, (Nat.succ_pred_eq_of_ne_zero (Nat.pos_iff_ne_zero.1 p)).symm⟩
  rw [hk, Nat.pow_succ] at a1 b1
  rw [hk, Nat.add_sub_cancel] at a2 b2
  omega
theorem tA_mag (x : XN) (d0 : x.d ≠ 0) : x.mag * ((tB x : Nat) : Rat) = ((tA x : Nat) : Rat) * (2 : Rat) ^ (lenD x + x.e) := by
  unfold tA tB XN.mag
  rw [Rat.natCast_mul, Rat.natCast_mul, ← p2nat, ← p2nat, p2add]
  have e : (2 : Rat) ^ ((max (lenD x) 0).toNat : Int) = (2 : Rat) ^ ((max (-lenD x) 0).toNat : Int) * (2 : Rat) ^ (lenD x) := by
    rw [← p2add]
    congr 1
    omega
  rw [e]
  have z := cast_ne d0
  generalize (2 : Rat) ^ ((max (-lenD x) 0).toNat : Int) = A at *
  generalize (2 : Rat) ^ (lenD x) = B at *
  generalize (2 : Rat) ^ x.e = C at *
  grind
theorem p2succ (e : Int) : (2 : Rat) ^ (e + 1) = 2 * (2 : Rat) ^ e := by rw [p2add, Rat.zpow_one, Rat.mul_comm]
theorem top_good (x : XN) (n0 : x.n ≠ 0) (d0 : x.d ≠ 0) : (2 : Rat) ^ (topX x) ≤ x.mag ∧ x.mag < (2 : Rat) ^ (topX x + 1) := by
  obtain ⟨h1, h2⟩ := tA_near x n0 d0
  have k := tA_mag x d0
  have zB : (0 : Rat) < ((tB x : Nat) : Rat) := cast_pos (tA_len x n0 d0).2.2
  have zP := p2 (lenD x + x.e)
  have c1 : ((tA x : Nat) : Rat) < 2 * ((tB x : Nat) : Rat) := by
    have := Rat.natCast_lt_natCast.2 h1
    rwa [Rat.natCast_mul] at this
  have c2 : ((tB x : Nat) : Rat) < 2 * ((tA x : Nat) : Rat) := by
    have := Rat.natCast_lt_natCast.2 h2
    rwa [Rat.natCast_mul] at this
  unfold topX
  split
  · rename_i hl
    have c3 := Rat.natCast_lt_natCast.2 hl
    have e1 := p2succ (lenD x - 1 + x.e)
    rw [show lenD x - 1 + x.e + 1 = lenD x + x.e by omega] at e1
    rw [show lenD x - 1 + x.e + 1 = lenD x + x.e by omega]
    generalize (2 : Rat) ^ (lenD x + x.e) = P at *
    generalize (2 : Rat) ^ (lenD x - 1 + x.e) = H at *
    generalize ((tA x : Nat) : Rat) = A at *
    generalize ((tB x : Nat) : Rat) = B at *
    constructor
    · refine Rat.le_of_mul_le_mul_right (c := B) ?_ zB
      rw [k, e1]
      have : H * B ≤ H * (2 * A) := Rat.mul_le_mul_of_nonneg_left (Rat.le_of_lt c2) (by grind)
      grind
    · refine Rat.lt_of_mul_lt_mul_right (c := B) ?_ (Rat.le_of_lt zB)
      rw [k, Rat.mul_comm A P]
      exact Rat.mul_lt_mul_of_pos_left c3 zP
  · rename_i hl
    have c3 := Rat.natCast_le_natCast.2 (Nat.le_of_not_lt hl)
    have e1 := p2succ (lenD x + x.e)
    rw [e1]
    generalize (2 : Rat) ^ (lenD x + x.e) = P at *
    generalize ((tA x : Nat) : Rat) = A at *
    generalize ((tB x : Nat) : Rat) = B at *
    constructor
    · refine Rat.le_of_mul_le_mul_right (c := B) ?_ zB
      rw [k, Rat.mul_comm A P]
      exact Rat.mul_le_mul_of_nonneg_left c3 (Rat.le_of_lt zP)
    · refine Rat.lt_of_mul_lt_mul_right (c := B) ?_ (Rat.le_of_lt zB)
      rw [k]
      have : P * A < P * (2 * B) := Rat.mul_lt_mul_of_pos_left c1 zP
      grind
theorem p2mono (e f : Int) (h : e ≤ f) : (2 : Rat) ^ e ≤ (2 : Rat) ^ f := by
  obtain ⟨k, rfl⟩ : ∃ k : Nat, f = (k : Int) + e := ⟨(f - e).toNat, by omega⟩
  rw [p2add (k : Int) e, p2nat]
  have a : (1 : Rat) ≤ ((2 ^ k : Nat) : Rat) := Rat.natCast_le_natCast.2 (Nat.one_le_two_pow (n := k))
  have b := Rat.mul_le_mul_of_nonneg_right a (Rat.le_of_lt (p2 e))
  rwa [Rat.one_mul] at b
theorem nl_pow (n p : Nat) (h : n < 2 ^ p) (hp : p ≤ 131072) : nl n ≤ 16384 := by
  have := blen_le_of n p h
  unfold nl
  omega
end Go.Proofs.YtkmlbjlaahcahaaGreatDoor.XMath
namespace Go.Proofs.YtkmlbjlaahcahaaGreatDoor
set_option maxRecDepth 100000
open Go.RowKit WMath XMath
set_option linter.unusedSimpArgs false
set_option linter.unusedVariables false

theorem blen_low (n : Nat) (h : n ≠ 0) : 1 ≤ blen n ∧ 2 ^ (blen n - 1) ≤ n ∧ n < 2 ^ blen n := by
  have h1 := blen_iff n (blen n - 1)
  have h2 := (blen_iff n (blen n)).1 (Nat.le_refl _)
  have h3 := blen_iff n 0
  have h4 : 1 ≤ blen n := by
    rcases Nat.eq_zero_or_pos (blen n) with e | e
    · have := h3.1 (by omega)
      rw [Nat.pow_zero] at this
      omega
    · exact e
  exact ⟨h4, by omega, h2⟩
theorem blen_one : blen 1 = 1 := by decide
theorem top_whole (b : Bool) (n : Nat) (e : Int) (h : n ≠ 0) : topX ⟨b, n, 1, e⟩ = (blen n : Int) - 1 + e := by
  obtain ⟨h1, h2, h3⟩ := blen_low n h
  unfold topX tA tB lenD
  simp only [blen_one]
  have e1 : (max (-((blen n : Int) - ((1 : Nat) : Int))) 0).toNat = 0 := by omega
  have e2 : (max ((blen n : Int) - ((1 : Nat) : Int)) 0).toNat = blen n - 1 := by omega
  rw [e1, e2, Nat.pow_zero, Nat.mul_one, Nat.one_mul, if_neg (by omega)]
  omega
/-- What the program's Of answers. -/
def ofA (f : Int) (x : XN) : Int := max (topX x) (1 - fE f) - (pV f : Int)
def ofX (f : Int) (x : XN) : Nat × Bool :=
  if x.n = 0 then (0, true)
  else if fE f < topX x then (0, false)
  else if (flX x (ofA f x)).1.2 = true then (sgB f (fb f (flX x (ofA f x)).1.1 (ofA f x)) x.b, true) else (0, false)
/-- A number is whole at a place just if it has no denominator and its exponent is no lesser. -/
theorem fl_no (x : XN) (a : Int) (hx : x.can) (n0 : x.n ≠ 0) (h : x.d ≠ 1 ∨ x.e < a) : (flX x a).1.2 = false := by
  have ho := hx.odd n0
  unfold flX
  split
  · rfl
  try rw [if_neg n0]
  split
  · rename_i hae
    have hd : x.d ≠ 1 := by omega
    split
    · simp only [decide_eq_false_iff_not]
      intro hm
      have h1 : x.d ∣ x.n * 2 ^ (x.e - a).toNat := Nat.dvd_of_mod_eq_zero hm
      have h2 : Nat.Coprime x.d (2 ^ (x.e - a).toNat) := by
        apply Nat.Coprime.pow_right
        have : Nat.Coprime 2 x.d := by
          rw [Nat.coprime_iff_gcd_eq_one, Nat.gcd_comm]
          have := Nat.gcd_rec 2 x.d
          rw [Nat.gcd_comm, Nat.gcd_rec, ho.2.1]
          rfl
        exact this.symm
      have h3 : x.d ∣ x.n := h2.dvd_of_dvd_mul_right h1
      have h4 : x.d ∣ Nat.gcd x.n x.d := Nat.dvd_gcd h3 (Nat.dvd_refl _)
      rw [ho.2.2] at h4
      exact hd (Nat.dvd_one.1 h4)
    · rfl
  · split <;> rfl
theorem fl_yes (x : XN) (a : Int) (n0 : x.n ≠ 0) (hd : x.d = 1) (h : a ≤ x.e) (h1 : -2097152 ≤ a) (h2 : a ≤ 2097152) (hl : nl (x.n * 2 ^ (x.e - a).toNat) ≤ 16384) : flX x a = ((x.n * 2 ^ (x.e - a).toNat, true), 0) := by
  unfold flX
  rw [if_neg (by omega), if_neg n0, if_pos h, if_pos hl, hd, Nat.div_one, Nat.mod_one]
  rfl
theorem nm8 {f : Int} (hf : Is4 f) : fE f - (pV f : Int) - lx f + 1 = ((oV f - 1 : Nat) : Int) ∧ 1 ≤ oV f ∧ lx f = 1 - fE f - (pV f : Int) ∧ pV f < 128 ∧ fE f ≤ 16383 ∧ 0 ≤ fE f := by
  rcases hf with rfl | rfl | rfl | rfl <;> decide +kernel
/-- What is of the format: its significand, and the encoding. -/
theorem of_yes {f : Int} (hf : Is4 f) (b : Bool) (n : Nat) (e : Int) (n0 : n ≠ 0) (ht : topX ⟨b, n, 1, e⟩ ≤ fE f) (ha : ofA f ⟨b, n, 1, e⟩ ≤ e) :
    ∃ m k t, m = n * 2 ^ (e - ofA f ⟨b, n, 1, e⟩).toNat ∧ k < oV f ∧ t < 2 ^ pV f ∧ ofX f ⟨b, n, 1, e⟩ = (enc7 f b k t, true) ∧ ((k = 0 ∧ m = t ∧ ofA f ⟨b, n, 1, e⟩ = lx f) ∨ (1 ≤ k ∧ m = 2 ^ pV f + t ∧ ofA f ⟨b, n, 1, e⟩ = lx f + (k : Int) - 1)) := by
  obtain ⟨g1, g2, g3, g4, g5, g6, g7⟩ := fm hf
  obtain ⟨n1, n2, n3, n4, n5, n6⟩ := nm8 hf
  obtain ⟨l1, l2, l3⟩ := blen_low n n0
  have tw := top_whole b n e n0
  obtain ⟨a, hA⟩ : ∃ a, ofA f ⟨b, n, 1, e⟩ = a := ⟨_, rfl⟩
  have hA2 := hA
  unfold ofA at hA2
  rw [hA] at ha ⊢
  rw [tw] at ht hA2
  obtain ⟨j, hj⟩ : ∃ j : Nat, (e - a).toNat = j := ⟨_, rfl⟩
  have hje : e = a + (j : Int) := by omega
  obtain ⟨m, hm⟩ : ∃ m, n * 2 ^ j = m := ⟨_, rfl⟩
  have m1 : 2 ^ (blen n - 1 + j) ≤ m := by rw [← hm, Nat.pow_add]; exact Nat.mul_le_mul_right _ l2
  have m2 : m < 2 ^ (blen n + j) := by rw [← hm, Nat.pow_add]; exact Nat.mul_lt_mul_of_pos_right l3 (Nat.two_pow_pos _)
  have lj : blen n + j ≤ pV f + 1 := by omega
  have m3 : m < 2 * 2 ^ pV f := by
    have := Nat.pow_le_pow_right (show 0 < 2 by decide) lj
    rw [Nat.pow_succ] at this
    omega
  have hl : nl m ≤ 16384 := nl_pow m (pV f + 1) (by rw [Nat.pow_succ]; omega) (by omega)
  obtain ⟨k, hk⟩ : ∃ k : Nat, a = lx f + (k : Int) := ⟨(a - lx f).toNat, by omega⟩
  have hk2 : k + 2 ≤ oV f := by omega
  have hb0 : (k + 2) * 2 ^ pV f ≤ oV f * 2 ^ pV f := Nat.mul_le_mul_right _ hk2
  have hb1 : k * 2 ^ pV f + m < 2 ^ wV f := by
    rw [g1, Nat.add_mul, Nat.one_mul]
    rw [Nat.add_mul] at hb0
    omega
  have hfb : fb f m a = k * 2 ^ pV f + m := by rw [hk]; exact fb_is hf k m (by omega) hb1
  have hof : ofX f ⟨b, n, 1, e⟩ = (sgB f (k * 2 ^ pV f + m) b, true) := by
    unfold ofX
    rw [hA, fl_yes ⟨b, n, 1, e⟩ a n0 rfl ha (by omega) (by omega) (by show nl (n * 2 ^ (e - a).toNat) ≤ 16384; rw [hj, hm]; exact hl)]
    simp only []
    rw [if_neg n0, if_neg (by rw [tw]; omega), if_pos trivial, hj, hm, hfb]
  rw [hj, hm]
  by_cases hs : m < 2 ^ pV f
  · have hk0 : k = 0 := by
      have : blen n - 1 + j < pV f := by
        rcases Nat.lt_or_ge (blen n - 1 + j) (pV f) with q | q
        · exact q
        · have := Nat.pow_le_pow_right (show 0 < 2 by decide) q
          omega
      omega
    subst hk0
    refine ⟨m, 0, m, rfl, by omega, hs, ?_, Or.inl ⟨rfl, rfl, by omega⟩⟩
    rw [hof, sgB_low hb1]
    unfold enc7
    rfl
  · have e1 : k * 2 ^ pV f + m = (k + 1) * 2 ^ pV f + (m - 2 ^ pV f) := by rw [Nat.add_mul]; omega
    refine ⟨m, k + 1, m - 2 ^ pV f, rfl, by omega, by omega, ?_, Or.inr ⟨by omega, by omega, by omega⟩⟩
    rw [hof, sgB_low hb1, e1]
    unfold enc7
    rfl
theorem of_no {f : Int} (x : XN) (hx : x.can) (n0 : x.n ≠ 0) (h : fE f < topX x ∨ x.d ≠ 1 ∨ x.e < ofA f x) : ofX f x = (0, false) := by
  unfold ofX
  rw [if_neg n0]
  by_cases h1 : fE f < topX x
  · rw [if_pos h1]
  · rw [if_neg h1, if_neg]
    rw [fl_no x _ hx n0 (by omega)]
    decide
end Go.Proofs.YtkmlbjlaahcahaaGreatDoor
