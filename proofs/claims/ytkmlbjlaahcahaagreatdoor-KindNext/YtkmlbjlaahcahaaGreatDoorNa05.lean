/-
  What the functions that the statement reaches return: part 5 (List11, List6, List7, List8, Nat5, Nat6, Door1, Xmath).
-/
import Derived.Test.YtkmlbjlaahcahaaGreatDoorNa04
namespace Go.Proofs.YtkmlbjlaahcahaaGreatDoor
set_option maxRecDepth 100000
open Go.RowKit WMath

theorem l_up (w : World) (p : Option Addr) (L c n s K B : Nat) (h : SL B w p L c n) (hB : B ≤ w.heap.size) (hL : L ≤ 50000) (hs : s ≤ 1000000) (hK : wl (n * 2 ^ s) = K) :
    Calls Tryz.prog 196 #[.slice p L c, .int .i64 (s : Nat)] w fun r w' => ∃ g d, r = .returned (.slice g K d) ∧ SL w'.heap.size w' g K d (n * 2 ^ s) ∧ Below w.heap.size w w' := by
  obtain ⟨q, hq⟩ : ∃ q, s / 64 = q := ⟨_, rfl⟩
  have hlt := raise_lt n L s q h.1 (by omega)
  have HK := box hK
  have HQ := box hq
  have HL := box hlt
  have q2 : q ≤ 20000 := by omega
  clear hK hq hlt
  go_enter Tryz.func196, Tryz.ntmps196
  go_wp2_with fail
  refine (l_raise w p L c n s q B h hB (by omega) hs HQ.out).mono ?_
  rintro e w1 ⟨g, rfl, hg, r1, b1⟩
  have s1 : SL w1.heap.size w1 (some ⟨g, 0, none⟩) (L + q + 1) (L + q + 1) (n * 2 ^ s) := SL.row r1 _ (Array.getElem?_eq_some_iff.1 r1).1 HL.out (Nat.le_refl _)
  go_wp2_with fail
  refine (l_trim w1 _ _ _ _ K _ s1 (by omega) HK.out).mono ?_
  rintro e w2 ⟨u, d, rfl, s2, rfl⟩
  go_wp2
  go_ret
  exact ⟨u, d, rfl, s2, b1⟩

theorem down_lt (n L s q N : Nat) (hn : n < 2 ^ (64 * L)) (hs : 64 * q ≤ s) (hN : L - q = N) : n / 2 ^ s < 2 ^ (64 * N) := by
  apply Nat.div_lt_of_lt_mul
  rw [← Nat.pow_add]
  exact Nat.lt_of_lt_of_le hn (Nat.pow_le_pow_right (by decide) (by omega))

set_option maxRecDepth 100000 in
set_option maxHeartbeats 1000000 in
theorem l_down (w : World) (p : Option Addr) (L c n s K B : Nat) (h : SL B w p L c n) (hB : B ≤ w.heap.size) (hL : L ≤ 100000) (hs : s ≤ 9223372036854775807) (hK : wl (n / 2 ^ s) = K) :
    Calls Tryz.prog 227 #[.slice p L c, .int .i64 (s : Nat)] w fun r w' => ∃ g d, r = .returned (.slice g K d) ∧ SL w'.heap.size w' g K d (n / 2 ^ s) ∧ Below w.heap.size w w' := by
  obtain ⟨q, hq⟩ : ∃ q, s / 64 = q := ⟨_, rfl⟩
  obtain ⟨r, hr⟩ : ∃ r, s % 64 = r := ⟨_, rfl⟩
  have r64 : r < 64 := by omega
  obtain ⟨N, hN⟩ : ∃ N, L - q = N := ⟨_, rfl⟩
  have hDN := down_lt n L s q N h.1 (by omega) hN
  obtain ⟨D, hD⟩ : ∃ D, n / 2 ^ s = D := ⟨_, rfl⟩
  have q1 : (s : Int) / 64 = (q : Int) := by omega
  have q1' : (s : Int).tdiv 64 = (q : Int) := by rw [Int.tdiv_eq_ediv_of_nonneg (by omega)]; omega
  have tm : (s : Int).tmod 64 = (r : Int) := by rw [Int.tmod_eq_emod_of_nonneg (by omega)]; omega
  have tm2 : (s : Int) % 64 = (r : Int) := by omega
  have HSR : Box (s = 64 * q + r) := box (by omega)
  have q57 : q ≤ 144115188075855871 := by omega
  have w1 : IntKind.i64.wrap (q : Int) = (q : Int) := wrap_i64_is _ (by omega) (by omega)
  have n1 : IntKind.i64.wrap ((L : Int) - (q : Int)) = (L : Int) - (q : Int) := wrap_i64_is _ (by omega) (by omega)
  rw [hD] at hK hDN ⊢
  have HD := box hD
  have HDN := box hDN
  have HK := box hK
  clear hr hq hD hDN hK
  have hcase : ((L : Int) - (q : Int) = (N : Int) ∧ ((N : Int) < 0) = False) ∨ (((L : Int) - (q : Int) < 0) = True ∧ (0 : Int) = (N : Int)) := by
    by_cases hqL : q ≤ L
    · left; exact ⟨by omega, eq_false (by omega)⟩
    · right; exact ⟨eq_true (by omega), by omega⟩
  have hNL : N ≤ L := by omega
  have HNL := box hN
  obtain ⟨g, hg⟩ : ∃ g, w.heap.size = g := ⟨_, rfl⟩
  have hB2 := hB
  rw [hg] at hB2
  have r0 : (w.alloc (.cells (cw N 0) 23)).heap[g]? = some (.cells (cw N 0) 23) := by rw [← hg]; exact heap_alloc_last _ _
  have b0 : Below g w (w.alloc (.cells (cw N 0) 23)) := by rw [← hg]; exact (Below.refl _ _).alloc (Nat.le_refl _) _
  have R0 := box r0
  have B0 := box b0
  clear hN r0 b0
  rcases hcase with ⟨e1, e2⟩ | ⟨e1, e2⟩
  all_goals
    first
      | (have hmk := cw_make N (N : Int) rfl (by omega)
         have n3 : IntKind.i64.wrap (N : Int) = (N : Int) := wrap_i64_is _ (by omega) (by omega)
         have e3 : ((N : Int) < 0) = False := e2)
      | (have hmk := cw_make N (0 : Int) e2 (by omega)
         clear e2)
    go_enter Tryz.func227, Tryz.ntmps227
    go_wp2
    clear hmk
    try rw [hg]
    go_loopw [21] (fun iv wr => ∃ (i : Nat), i ≤ N ∧ iv = .int .i64 i ∧ wr.heap[g]? = some (.cells (cw N (D % 2 ^ (64 * i))) 23) ∧ Below g w wr) (fun iv _ => N - (intOf iv).toNat)
    case atStart => exact ⟨0, by omega, rfl, by rw [Nat.mul_zero, Nat.pow_zero, Nat.mod_one]; exact R0.out, B0.out⟩
    case round =>
      obtain ⟨i, hi, rfl, r1, hbw⟩ := hrel
      by_cases hlt : i < N
      · obtain ⟨bp, op, rfl, _⟩ := h.ptr (by omega)
        obtain ⟨t, ht⟩ : ∃ t, i + q = t := ⟨_, rfl⟩
        have tL : t < L := by have := HNL.out; omega
        obtain ⟨x, hx⟩ : ∃ x, wd n t = x := ⟨_, rfl⟩
        obtain ⟨t', ht'⟩ : ∃ t', t + 1 = t' := ⟨_, rfl⟩
        obtain ⟨y, hy⟩ : ∃ y, wd n t' = y := ⟨_, rfl⟩
        obtain ⟨k, hk⟩ : ∃ k, 64 - r = k := ⟨_, rfl⟩
        obtain ⟨z1, hz1⟩ : ∃ z1, x / 2 ^ r = z1 := ⟨_, rfl⟩
        obtain ⟨z2, hz2⟩ : ∃ z2, y * 2 ^ k % 18446744073709551616 = z2 := ⟨_, rfl⟩
        obtain ⟨z, hz⟩ : ∃ z, wd D i = z := ⟨_, rfl⟩
        have x64 : x < 18446744073709551616 := by rw [← hx]; exact wd_lt _ _
        have z164 : z1 < 18446744073709551616 := by rw [← hz1]; exact Nat.lt_of_le_of_lt (Nat.div_le_self _ _) x64
        have z264 : z2 < 18446744073709551616 := by rw [← hz2]; exact Nat.mod_lt _ (by decide)
        have z64 : z < 18446744073709551616 := by rw [← hz]; exact wd_lt _ _
        have e4 : z1 ||| z2 = z := by rw [← hz, ← HD.out, down_wd n s q r i HSR.out r64, ht, ht', hx, hy, hz1, hk, hz2]
        have bo : bits .or .u64 (z1 : Nat) (z2 : Nat) = (z : Int) := by rw [← e4]; exact bits_or_u64_nat _ _ z164 z264
        have s0 := h.below hbw hB2
        have c0 := s0.cell t x tL hx
        have t1 : (i : Int) + (q : Int) = (t : Int) := by omega
        have k1 : (64 : Int) - (r : Int) = (k : Int) := by omega
        have k2 : IntKind.i64.wrap (k : Int) = (k : Int) := wrap_i64_is _ (by omega) (by omega)
        have t2 : IntKind.i64.wrap (t : Int) = (t : Int) := wrap_i64_is _ (by omega) (by omega)
        have t3 : (t : Int) + 1 = (t' : Int) := by omega
        have t4 : IntKind.i64.wrap (t' : Int) = (t' : Int) := wrap_i64_is _ (by omega) (by omega)
        have tLi : (t : Int) < (L : Int) := by omega
        have c1 : wr.cell? ⟨g, i, none⟩ = some (.int .u64 (wd (D % 2 ^ (64 * i)) i : Nat)) := by rw [cell_of_row wr g i _ _ _ r1, cw_at N _ i hlt]
        have f1 := fz (k := i) r1
        have RS : Box ((wr.setCell ⟨g, i, none⟩ (.int .u64 (z : Int))).heap[g]? = some (.cells (cw N (D % 2 ^ (64 * (i + 1)))) 23)) := box (by
          rw [setCell_row r1, cw_push N _ i z _ hlt (Nat.mod_lt _ (Nat.two_pow_pos _)) z64 rfl, mod_wd, hz])
        have BS : Box (Below g w (wr.setCell ⟨g, i, none⟩ (.int .u64 (z : Int)))) := box (hbw.setCell (Nat.le_refl _) _)
        have RI := box (l_right x r z1 (by omega) hz1)
        have LE := box (l_left y k z2 (by omega) hz2)
        have HY := box hy
        have dl : decide (i < N) = true := decide_eq_true hlt
        clear hx hy ht ht' hz1 hz2 hk hz e4 h
        go_wp2_with fail
        refine (RI.out _).mono ?_
        rintro e w' ⟨rfl, rfl⟩
        go_wp2_with fail
        refine (l_at _ _ L c n t' y s0 HY.out hL).mono ?_
        rintro e w' ⟨rfl, rfl⟩
        go_wp2_with fail
        refine (LE.out _).mono ?_
        rintro e w' ⟨rfl, rfl⟩
        go_wp2
        go_roundw
        case rel => exact ⟨i + 1, by omega, by go_num, RS.out, BS.out⟩
        case measure => simp [intOf] <;> omega
      · obtain rfl : i = N := by omega
        rw [Nat.mod_eq_of_lt HDN.out] at r1
        have dl : decide (i < i) = false := by rw [decide_eq_false_iff_not]; omega
        have s1 : SL wr.heap.size wr (some ⟨g, 0, none⟩) i i D := SL.row r1 _ (Array.getElem?_eq_some_iff.1 r1).1 HDN.out (Nat.le_refl _)
        go_wp2_with fail
        refine (l_trim wr _ _ _ _ K _ s1 (by omega) HK.out).mono ?_
        rintro e w2 ⟨u, d, rfl, s2, rfl⟩
        go_wp2
        go_ret
        exact ⟨u, d, rfl, s2, by rw [hg]; exact hbw⟩
end Go.Proofs.YtkmlbjlaahcahaaGreatDoor
namespace Go.Proofs.YtkmlbjlaahcahaaGreatDoor
set_option maxRecDepth 100000
open Go.RowKit WMath

theorem n_check (s : ByteArray) (o : Bool) (ho : mayB s = o) (w : World) :
    Calls Tryz.prog 95 #[.string s] w fun r w' => r = .returned (.int .i64 (if o then 0 else 2)) ∧ w' = w := by
  by_cases h1 : s.size ≤ 16384
  · have d1 : decide ((16384 : Int) < (s.size : Int)) = false := by rw [decide_eq_false_iff_not]; omega
    have d1' : decide (16384 < s.size) = false := by rw [decide_eq_false_iff_not]; omega
    by_cases h2 : s.size = 0
    · have e : o = true := by rw [← ho]; unfold mayB; rw [decide_eq_true h1, decide_eq_true h2]; rfl
      subst e
      have d2 : decide (0 < s.size) = false := decide_eq_false (by omega)
      clear h1 h2 ho
      go_enter Tryz.func95, Tryz.ntmps95
      go_wp2
      go_ret
      exact ⟨rfl, rfl⟩
    · have hp : 0 < s.size := by omega
      have d2 : decide (0 < s.size) = true := decide_eq_true hp
      obtain ⟨x, hx⟩ : ∃ x, (s[0]'hp).toNat = x := ⟨_, rfl⟩
      have e : decide (x ≠ 0) = o := by
        rw [← ho]; unfold mayB
        rw [decide_eq_true h1, decide_eq_false h2, Bool.true_and, Bool.false_or]
        rw [Bool.eq_iff_iff, decide_eq_true_iff, decide_eq_true_iff]
        exact ⟨fun h => ⟨hp, by rw [hx]; exact h⟩, fun ⟨a, b⟩ => by rw [hx] at b; exact b⟩
      have hi := idx_runN s 0 0 x rfl hp hx
      clear h1 h2 ho hx
      by_cases h0 : x = 0
      · subst h0
        have e2 : o = false := by rw [← e]; rfl
        subst e2
        clear e
        go_enter Tryz.func95, Tryz.ntmps95
        go_wp2
        go_ret
        exact ⟨rfl, rfl⟩
      · have e2 : o = true := by rw [← e]; exact decide_eq_true h0
        subst e2
        have h3 : decide (x = 0) = false := decide_eq_false h0
        clear e
        go_enter Tryz.func95, Tryz.ntmps95
        go_wp2
        go_ret
        exact ⟨rfl, rfl⟩
  · have d1 : decide ((16384 : Int) < (s.size : Int)) = true := by rw [decide_eq_true_iff]; omega
    have d1' : decide (16384 < s.size) = true := by rw [decide_eq_true_iff]; omega
    have e : o = false := by rw [← ho]; unfold mayB; rw [decide_eq_false h1]; rfl
    subst e
    clear h1 ho
    go_enter Tryz.func95, Tryz.ntmps95
    go_wp2
    go_ret
    exact ⟨rfl, rfl⟩

theorem str_cell {w : World} {g : Nat} {T : TypeId} {ss : List ByteArray} (row : w.heap[g]? = some (.cells (ss.map Value.string).toArray T)) (k : Nat) (s : ByteArray) (h : ss[k]? = some s) : w.cell? ⟨g, k, none⟩ = some (.string s) := by
  rw [cell_of_row w g k _ _ _ row]
  simp [h]

theorem n_mayBe (ss : List ByteArray) (L g : Nat) (T : TypeId) (w : World) (hl : ss.length = L) (hL : L ≤ 1000) (row : w.heap[g]? = some (.cells (ss.map Value.string).toArray T)) (o : Bool) (ho : ss.all mayB = o) :
    Calls Tryz.prog 159 #[.slice (some ⟨g, 0, none⟩) L L] w fun r w' => r = .returned (.bool o) ∧ w' = w := by
  have HO := box ho
  have HL := box hl
  clear ho hl
  go_enter Tryz.func159, Tryz.ntmps159
  go_wp2
  go_loopw [7] (fun iv wr => ∃ k : Nat, k ≤ L ∧ iv = .int .i64 k ∧ wr = w ∧ Box (∀ j s, j < k → ss[j]? = some s → mayB s = true)) (fun iv _ => L - (intOf iv).toNat)
  case atStart => exact ⟨0, by omega, rfl, rfl, box (fun j s hj => absurd hj (by omega))⟩
  case round =>
    obtain ⟨k, hk, rfl, rfl, HA⟩ := hrel
    by_cases hlt : k < L
    · obtain ⟨s, hs⟩ : ∃ s, ss[k]? = some s := ⟨_, List.getElem?_eq_getElem (by rw [HL.out]; exact hlt)⟩
      have c1 := str_cell row k s hs
      have dl : decide (k < L) = true := decide_eq_true hlt
      have HS := box hs
      obtain ⟨m, hm⟩ : ∃ m, mayB s = m := ⟨_, rfl⟩
      have HM := box hm
      clear hs hm
      cases m
      · have e : o = false := by
          rw [← HO.out, Bool.eq_false_iff]
          intro h
          rw [List.all_eq_true] at h
          have := h s (List.mem_of_getElem? HS.out)
          rw [HM.out] at this
          exact absurd this (by decide)
        subst e
        go_wp2_with fail
        refine (n_check s false HM.out _).mono ?_
        rintro e w' ⟨rfl, rfl⟩
        go_wp2
        go_ret
        exact ⟨rfl, rfl⟩
      · have NA : Box (∀ j s, j < k + 1 → ss[j]? = some s → mayB s = true) := box (fun j s2 hj h2 => by
          by_cases e : j = k
          · subst e
            rw [HS.out] at h2
            cases h2
            exact HM.out
          · exact HA.out j s2 (by omega) h2)
        go_wp2_with fail
        refine (n_check s true HM.out _).mono ?_
        rintro e w' ⟨rfl, rfl⟩
        go_wp2
        go_roundw
        case rel => exact ⟨k + 1, by omega, by go_num, by first | rfl | trivial, NA⟩
        case measure => simp [intOf] <;> omega
    · obtain rfl : k = L := by omega
      have e : o = true := by
        rw [← HO.out, List.all_eq_true]
        intro s hs
        obtain ⟨j, hj⟩ := List.mem_iff_getElem?.1 hs
        have := (List.getElem?_eq_some_iff.1 hj).1
        exact HA.out j s (by rw [← HL.out]; exact this) hj
      subst e
      have dl : decide (k < k) = false := by rw [decide_eq_false_iff_not]; omega
      go_wp2
      go_ret
      exact ⟨rfl, rfl⟩
theorem n_may1 (s : ByteArray) (o : Bool) (ho : mayB s = o) (T : TypeId) (w : World) :
    Calls Tryz.prog 159 #[.slice (some ⟨w.heap.size, 0, none⟩) 1 1] (w.alloc (.cells #[.string s] T)) fun r w' => r = .returned (.bool o) ∧ w' = w.alloc (.cells #[.string s] T) :=
  n_mayBe [s] 1 w.heap.size T _ rfl (by decide) (heap_alloc_last _ _) o (by rw [← ho]; simp)
theorem n_may2 (s t : ByteArray) (o : Bool) (ho : (mayB s && mayB t) = o) (T : TypeId) (w : World) :
    Calls Tryz.prog 159 #[.slice (some ⟨w.heap.size, 0, none⟩) 2 2] (w.alloc (.cells #[.string s, .string t] T)) fun r w' => r = .returned (.bool o) ∧ w' = w.alloc (.cells #[.string s, .string t] T) :=
  n_mayBe [s, t] 2 w.heap.size T _ rfl (by decide) (heap_alloc_last _ _) o (by rw [← ho]; simp)
theorem ok2 {a b : Nat} {s t : ByteArray} (hs : nbA a = s) (ht : nbA b = t) (ha : nl a ≤ 16384) (hb : nl b ≤ 16384) : (mayB s && mayB t) = true := by
  subst hs ht; rw [mayB_nb a ha, mayB_nb b hb]; rfl
theorem bal (w : World) (o : Obj) : Below w.heap.size w (w.alloc o) := (Below.refl _ _).alloc (Nat.le_refl _) _
theorem btr {a b c : World} (h : Below a.heap.size a b) (k : Below b.heap.size b c) : Below a.heap.size a c := h.trans (k.mono h.size)

theorem l_answer (w : World) (p : Option Addr) (L c n B : Nat) (v : ByteArray) (e : Int) (h : SL B w p L c n) (hB : B ≤ w.heap.size) (hL : L ≤ 100000) (hn : wl n = L) (hr : lg n = (v, e)) :
    Calls Tryz.prog 213 #[.slice p L c] w fun r w' => r = .returned (.tuple #[.string v, .int .i64 e]) ∧ Below w.heap.size w w' := by
  obtain ⟨l, hl⟩ : ∃ l, blen n = l := ⟨_, rfl⟩
  unfold lg at hr
  have HL := box hl
  have HN := box hn
  have hll : l ≤ 64 * L := by rw [← hl, ← hn]; unfold wl; omega
  by_cases h1 : nl n ≤ 16384
  · rw [if_pos h1] at hr
    cases hr
    have d1 : decide (131072 < l) = false := decide_eq_false (by rw [← hl]; unfold nl at h1; omega)
    have d2 : decide ((131072 : Int) < (l : Int)) = false := decide_eq_false (by rw [← hl]; unfold nl at h1; omega)
    clear hl hn h1
    go_enter Tryz.func213, Tryz.ntmps213
    go_wp2_with fail
    refine (l_bitLen w p L c n l B h hL HN.out HL.out).mono ?_
    rintro e w1 ⟨rfl, rfl⟩
    go_wp2_with fail
    refine (l_natOf w1 p L c n B _ h hB hL rfl).mono ?_
    rintro e w2 ⟨rfl, hb2⟩
    go_wp2
    go_ret2
    exact ⟨rfl, hb2⟩
  · rw [if_neg h1] at hr
    cases hr
    have d1 : decide (131072 < l) = true := decide_eq_true (by rw [← hl]; unfold nl at h1; omega)
    have d2 : decide ((131072 : Int) < (l : Int)) = true := decide_eq_true (by rw [← hl]; unfold nl at h1; omega)
    clear hl hn h1
    go_enter Tryz.func213, Tryz.ntmps213
    go_wp2_with fail
    refine (l_bitLen w p L c n l B h hL HN.out HL.out).mono ?_
    rintro e w1 ⟨rfl, rfl⟩
    go_wp2
    go_ret2
    exact ⟨rfl, Below.refl _ _⟩
end Go.Proofs.YtkmlbjlaahcahaaGreatDoor
namespace Go.Proofs.YtkmlbjlaahcahaaGreatDoor
set_option maxRecDepth 100000
open Go.RowKit WMath

theorem wl_of_nl (n : Nat) (h : nl n ≤ 16384) : wl n ≤ 2048 := by rw [wl_nl]; omega

set_option maxRecDepth 100000 in
theorem pn_add_ok (a b : Nat) (s t v : ByteArray) (e : Int) (hs : nbA a = s) (ht : nbA b = t) (ha : nl a ≤ 16384) (hb : nl b ≤ 16384) (hr : lg (a + b) = (v, e)) (w : World) :
    Calls Tryz.prog 215 #[.string s, .string t] w fun r w' => r = .returned (.tuple #[.string v, .int .i64 e]) ∧ Below w.heap.size w w' := by
  have HO := box (ok2 hs ht ha hb)
  have HS := box hs
  have HT := box ht
  have HR := box hr
  have HA := box ha
  have HB := box hb
  obtain ⟨K, hK⟩ : ∃ K, wl a = K := ⟨_, rfl⟩
  obtain ⟨M, hM⟩ : ∃ M, wl b = M := ⟨_, rfl⟩
  obtain ⟨N, hN⟩ : ∃ N, wl (a + b) = N := ⟨_, rfl⟩
  have hK2 : K ≤ 2048 := by rw [← hK]; exact wl_of_nl a ha
  have hM2 : M ≤ 2048 := by rw [← hM]; exact wl_of_nl b hb
  have hN2 : N ≤ 2049 := by rw [← hN]; exact wl_add_le a b 2048 (by omega) (by omega)
  have HK := box hK
  have HM := box hM
  have HN := box hN
  clear hs ht ha hb hr hK hM hN
  go_enter Tryz.func215, Tryz.ntmps215
  go_wp2_with fail
  refine (n_may2 s t true HO.out _ w).mono ?_
  rintro r w0 ⟨rfl, rfl⟩
  have b0 := bal w (.cells #[.string s, .string t] 26)
  go_wp2_with fail
  refine (l_wordsOf a K s HS.out (by have := HA.out; omega) HK.out _).mono ?_
  rintro r w1 ⟨p, c, rfl, s1, b1⟩
  go_wp2_with fail
  refine (l_wordsOf b M t HT.out (by have := HB.out; omega) HM.out _).mono ?_
  rintro r w2 ⟨q, d, rfl, s2, b2⟩
  go_wp2_with fail
  refine (l_sum w2 p q K c a M d b w2.heap.size N ((s1.below b2 (Nat.le_refl _)).mono b2.size) s2 (Nat.le_refl _) (by omega) (by omega) HN.out).mono ?_
  rintro r w3 ⟨u, f, rfl, s3, b3⟩
  go_wp2_with fail
  refine (l_answer w3 u N f (a + b) _ v e s3 (Nat.le_refl _) (by omega) HN.out HR.out).mono ?_
  rintro r w4 ⟨rfl, b4⟩
  go_wp2
  go_ret2
  exact ⟨rfl, btr b0 (btr b1 (btr b2 (btr b3 b4)))⟩
set_option maxRecDepth 100000 in
theorem pn_sub_ok (a b : Nat) (s t v : ByteArray) (e : Int) (hs : nbA a = s) (ht : nbA b = t) (ha : nl a ≤ 16384) (hb : nl b ≤ 16384) (hr : sb a b = (v, e)) (w : World) :
    Calls Tryz.prog 216 #[.string s, .string t] w fun r w' => r = .returned (.tuple #[.string v, .int .i64 e]) ∧ Below w.heap.size w w' := by
  have HO := box (ok2 hs ht ha hb)
  have HS := box hs
  have HT := box ht
  have HA := box ha
  have HB := box hb
  obtain ⟨K, hK⟩ : ∃ K, wl a = K := ⟨_, rfl⟩
  obtain ⟨M, hM⟩ : ∃ M, wl b = M := ⟨_, rfl⟩
  obtain ⟨N, hN⟩ : ∃ N, wl (a - b) = N := ⟨_, rfl⟩
  have hK2 : K ≤ 2048 := by rw [← hK]; exact wl_of_nl a ha
  have hM2 : M ≤ 2048 := by rw [← hM]; exact wl_of_nl b hb
  have hN2 : N ≤ 2049 := by rw [← hN]; have := wl_mono (a - b) a (by omega); omega
  have HK := box hK
  have HM := box hM
  have HN := box hN
  clear hs ht ha hb hK hM hN
  unfold sb at hr
  by_cases hlt : a < b
  · rw [if_pos hlt] at hr
    cases hr
    have HLE := box hlt
    clear hlt
    go_enter Tryz.func216, Tryz.ntmps216
    go_wp2_with fail
    refine (n_may2 s t true HO.out _ w).mono ?_
    rintro r w0 ⟨rfl, rfl⟩
    have b0 := bal w (.cells #[.string s, .string t] 26)
    go_wp2_with fail
    refine (l_wordsOf a K s HS.out (by have := HA.out; omega) HK.out _).mono ?_
    rintro r w1 ⟨p, c, rfl, s1, b1⟩
    go_wp2_with fail
    refine (l_wordsOf b M t HT.out (by have := HB.out; omega) HM.out _).mono ?_
    rintro r w2 ⟨q, d, rfl, s2, b2⟩
    go_wp2_with fail
    refine (l_diff_no w2 p q K c a M d b w2.heap.size ((s1.below b2 (Nat.le_refl _)).mono b2.size) s2 (Nat.le_refl _) (by omega) (by omega) HLE.out).mono ?_
    rintro r w3 ⟨rfl, b3⟩
    go_wp2
    go_ret2
    exact ⟨rfl, btr b0 (btr b1 (btr b2 b3))⟩
  · rw [if_neg hlt] at hr
    obtain ⟨hv, he⟩ := Prod.mk.inj hr
    subst he
    have HV := box hv
    have HLE : Box (b ≤ a) := box (by omega)
    clear hlt hr hv
    go_enter Tryz.func216, Tryz.ntmps216
    go_wp2_with fail
    refine (n_may2 s t true HO.out _ w).mono ?_
    rintro r w0 ⟨rfl, rfl⟩
    have b0 := bal w (.cells #[.string s, .string t] 26)
    go_wp2_with fail
    refine (l_wordsOf a K s HS.out (by have := HA.out; omega) HK.out _).mono ?_
    rintro r w1 ⟨p, c, rfl, s1, b1⟩
    go_wp2_with fail
    refine (l_wordsOf b M t HT.out (by have := HB.out; omega) HM.out _).mono ?_
    rintro r w2 ⟨q, d, rfl, s2, b2⟩
    go_wp2_with fail
    refine (l_diff_ok w2 p q K c a M d b w2.heap.size N ((s1.below b2 (Nat.le_refl _)).mono b2.size) s2 (Nat.le_refl _) (by omega) (by omega) HLE.out HN.out).mono ?_
    rintro r w3 ⟨u, f, rfl, s3, b3⟩
    go_wp2_with fail
    refine (l_natOf w3 u N f (a - b) _ v s3 (Nat.le_refl _) (by omega) HV.out).mono ?_
    rintro r w4 ⟨rfl, b4⟩
    go_wp2
    go_ret2
    exact ⟨rfl, btr b0 (btr b1 (btr b2 (btr b3 b4)))⟩
end Go.Proofs.YtkmlbjlaahcahaaGreatDoor
namespace Go.Proofs.YtkmlbjlaahcahaaGreatDoor
set_option maxRecDepth 100000
open Go.RowKit WMath

theorem pn_len_ok (n l : Nat) (s : ByteArray) (hs : nbA n = s) (h : nl n ≤ 16384) (hl : blen n = l) (w : World) :
    Calls Tryz.prog 193 #[.string s] w fun r w' => r = .returned (.int .i64 (l : Nat)) ∧ Below w.heap.size w w' := by
  obtain ⟨L, hL⟩ : ∃ L, nl n = L := ⟨_, rfl⟩
  have hz : s.size = L := by rw [← hs, nbA_size, hL]
  have HM : Box (mayB s = true) := box (by rw [← hs]; exact mayB_nb n h)
  have d2 := eq_empty s
  rw [hL] at h
  by_cases h0 : n = 0
  · have e : l = 0 := by rw [← hl, h0]; rfl
    have e2 : L = 0 := by rw [← hL, h0]; exact nl_zero
    subst e
    rw [decide_eq_true (by omega)] at d2
    clear hs hl hL h0
    go_enter Tryz.func193, Tryz.ntmps193
    go_wp2_with fail
    refine (n_may1 s true HM.out _ w).mono ?_
    rintro r w0 ⟨rfl, rfl⟩
    go_wp2
    go_ret
    exact ⟨rfl, bal _ _⟩
  · have hp := nl_pos n h0
    rw [hL] at hp
    rw [decide_eq_false (by omega)] at d2
    have hp2 : 0 < s.size := by omega
    obtain ⟨x, hx⟩ : ∃ x, (s[0]'hp2).toNat = x := ⟨_, rfl⟩
    have hxd : d8 n (L - 1) = x := by
      rw [← hx]
      have e := hs
      subst e
      rw [nbA_get, hL, Nat.sub_zero]
    have hi := idx_runN s 0 0 x rfl hp2 hx
    have x256 : x < 256 := by rw [← hxd]; exact d8_lt _ _
    have e := blen_nl n L x h0 hL hxd
    rw [hl] at e
    obtain ⟨y, hy⟩ : ∃ y, Lib.bitLen x = y := ⟨_, rfl⟩
    rw [← bitLen_blen x (by omega), hy] at e
    have n4 : IntKind.u64.wrap (x : Int) = (x : Int) := by rw [IntKind.wrap_u64]; omega
    have n1 : IntKind.i64.wrap ((L : Int) - 1) = (L : Int) - 1 := wrap_i64_is _ (by omega) (by omega)
    have n2 : IntKind.i64.wrap (((L : Int) - 1) * 8) = ((L : Int) - 1) * 8 := wrap_i64_is _ (by omega) (by omega)
    have y64 : y ≤ 64 := by rw [← hy, bitLen_blen x (by omega)]; exact blen_le_of x 64 (by rw [← two64]; omega)
    have n3 : IntKind.i64.wrap (((L : Int) - 1) * 8 + (y : Int)) = (l : Int) := by rw [wrap_i64_is _ (by omega) (by omega)]; omega
    have x64 : x < 18446744073709551616 := by omega
    have HY := box hy
    clear hs hl hL h0 hx hxd hy e
    go_enter Tryz.func193, Tryz.ntmps193
    go_wp2_with fail
    refine (n_may1 s true HM.out _ w).mono ?_
    rintro r w0 ⟨rfl, rfl⟩
    go_wp2_with fail
    refine (len_any x x64 _).mono ?_
    rintro e w' ⟨rfl, rfl⟩
    rw [HY.out]
    go_wp2
    go_ret
    exact ⟨rfl, bal _ _⟩

set_option maxRecDepth 100000 in
theorem pn_mul_ok (a b : Nat) (s t v : ByteArray) (e : Int) (hs : nbA a = s) (ht : nbA b = t) (ha : nl a ≤ 16384) (hb : nl b ≤ 16384) (hr : lg (a * b) = (v, e)) (w : World) :
    Calls Tryz.prog 162 #[.string s, .string t] w fun r w' => r = .returned (.tuple #[.string v, .int .i64 e]) ∧ Below w.heap.size w w' := by
  have HO := box (ok2 hs ht ha hb)
  have HS := box hs
  have HT := box ht
  have HR := box hr
  have HA := box ha
  have HB := box hb
  obtain ⟨K, hK⟩ : ∃ K, wl a = K := ⟨_, rfl⟩
  obtain ⟨M, hM⟩ : ∃ M, wl b = M := ⟨_, rfl⟩
  obtain ⟨N, hN⟩ : ∃ N, wl (a * b) = N := ⟨_, rfl⟩
  obtain ⟨x, hx⟩ : ∃ x, blen a = x := ⟨_, rfl⟩
  obtain ⟨y, hy⟩ : ∃ y, blen b = y := ⟨_, rfl⟩
  have hK2 : K ≤ 2048 := by rw [← hK]; exact wl_of_nl a ha
  have hM2 : M ≤ 2048 := by rw [← hM]; exact wl_of_nl b hb
  have hN2 : N ≤ 4096 := by rw [← hN]; have := wl_mul_le a b; omega
  have x2 : x ≤ 131072 := by rw [← hx]; unfold nl at ha; omega
  have y2 : y ≤ 131072 := by rw [← hy]; unfold nl at hb; omega
  have n1 : IntKind.i64.wrap ((x : Int) + (y : Int)) = (x : Int) + (y : Int) := wrap_i64_is _ (by omega) (by omega)
  have n2 : IntKind.i64.wrap ((x : Int) + (y : Int) - 1) = (x : Int) + (y : Int) - 1 := wrap_i64_is _ (by omega) (by omega)
  have HK := box hK
  have HM := box hM
  have HN := box hN
  have HX := box hx
  have HY := box hy
  have b0 := bal w (.cells #[.string s, .string t] 26)
  by_cases hc : (131072 : Int) < (x : Int) + (y : Int) - 1
  · have e0 : v = ⟨#[]⟩ ∧ e = 4 := by
      unfold lg at hr
      have a0 : a ≠ 0 := fun h => by rw [h, blen_zero] at hx; omega
      have b0 : b ≠ 0 := fun h => by rw [h, blen_zero] at hy; omega
      have hg := blen_mul_ge a b a0 b0
      rw [if_neg (by unfold nl; omega)] at hr
      cases hr
      exact ⟨rfl, rfl⟩
    obtain ⟨rfl, rfl⟩ := e0
    have d1 : decide ((131072 : Int) < (x : Int) + (y : Int) - 1) = true := decide_eq_true hc
    clear hs ht ha hb hr hK hM hN hx hy
    go_enter Tryz.func162, Tryz.ntmps162
    go_wp2_with fail
    refine (n_may2 s t true HO.out _ w).mono ?_
    rintro r w0 ⟨rfl, rfl⟩
    go_wp2_with fail
    refine (pn_len_ok a x s HS.out HA.out HX.out _).mono ?_
    rintro r w1 ⟨rfl, b1⟩
    go_wp2_with fail
    refine (pn_len_ok b y t HT.out HB.out HY.out _).mono ?_
    rintro r w2 ⟨rfl, b2⟩
    go_wp2
    go_ret2
    exact ⟨rfl, btr b0 (btr b1 b2)⟩
  · have d1 : decide ((131072 : Int) < (x : Int) + (y : Int) - 1) = false := decide_eq_false hc
    clear hs ht ha hb hr hK hM hN hx hy
    go_enter Tryz.func162, Tryz.ntmps162
    go_wp2_with fail
    refine (n_may2 s t true HO.out _ w).mono ?_
    rintro r w0 ⟨rfl, rfl⟩
    go_wp2_with fail
    refine (pn_len_ok a x s HS.out HA.out HX.out _).mono ?_
    rintro r w1 ⟨rfl, b1⟩
    go_wp2_with fail
    refine (pn_len_ok b y t HT.out HB.out HY.out _).mono ?_
    rintro r w2 ⟨rfl, b2⟩
    go_wp2_with fail
    refine (l_wordsOf a K s HS.out (by have := HA.out; omega) HK.out _).mono ?_
    rintro r w3 ⟨p, c, rfl, s3, b3⟩
    go_wp2_with fail
    refine (l_wordsOf b M t HT.out (by have := HB.out; omega) HM.out _).mono ?_
    rintro r w4 ⟨q, d, rfl, s4, b4⟩
    go_wp2_with fail
    refine (l_product w4 p q K c a M d b w4.heap.size N ((s3.below b4 (Nat.le_refl _)).mono b4.size) s4 (Nat.le_refl _) (by omega) (by omega) HN.out).mono ?_
    rintro r w5 ⟨u, f, rfl, s5, b5⟩
    go_wp2_with fail
    refine (l_answer w5 u N f (a * b) _ v e s5 (Nat.le_refl _) (by omega) HN.out HR.out).mono ?_
    rintro r w6 ⟨rfl, b6⟩
    go_wp2
    go_ret2
    exact ⟨rfl, btr b0 (btr b1 (btr b2 (btr b3 (btr b4 (btr b5 b6)))))⟩

theorem nan_str (s : ByteArray) (w : World) : Calls Tryz.prog 212 #[.string s] w fun r w' => r = .returned (.bool false) ∧ w' = w := by
  have h : (s.toList != s.toList) = false := by simp
  go_enter Tryz.func212, Tryz.ntmps212
  go_wp2
  go_ret
  exact ⟨by first | rfl | simp, rfl⟩
theorem cmp_str (a b : Nat) (s t : ByteArray) (c : Int) (hs : nbA a = s) (ht : nbA b = t) (hl : nl a = nl b) (hc : cmpv a b = c) (w : World) : Calls Tryz.prog 161 #[.string s, .string t] w fun r w' => r = .returned (.int .i64 c) ∧ w' = w := by
  have h1 := bless_nb a b hl
  have h2 := bless_nb b a hl.symm
  have h3 := beq_nb a b
  rw [hs, ht] at h1 h2 h3
  have hcase : (decide (a < b) = true ∧ decide (b < a) = false ∧ decide (a = b) = false ∧ c = -1) ∨ (decide (a < b) = false ∧ decide (b < a) = true ∧ decide (a = b) = false ∧ c = 1) ∨ (decide (a < b) = false ∧ decide (b < a) = false ∧ decide (a = b) = true ∧ c = 0) := by
    rw [decide_eq_true_iff, decide_eq_true_iff, decide_eq_true_iff, decide_eq_false_iff_not, decide_eq_false_iff_not, decide_eq_false_iff_not]
    unfold cmpv at hc
    by_cases e : a = b
    · rw [if_pos e] at hc; omega
    · rw [if_neg e] at hc
      by_cases e2 : a < b
      · rw [if_pos e2] at hc; omega
      · rw [if_neg e2] at hc; omega
  clear hs ht hl hc
  rcases hcase with ⟨k1, k2, k3, rfl⟩ | ⟨k1, k2, k3, rfl⟩ | ⟨k1, k2, k3, rfl⟩
  all_goals
    rw [k1] at h1
    rw [k2] at h2
    rw [k3] at h3
    clear k1 k2 k3
    go_enter Tryz.func161, Tryz.ntmps161
    go_wp2_with fail
    refine (nan_str s _).mono ?_
    rintro e w' ⟨rfl, rfl⟩
    go_wp2_with fail
    refine (nan_str t _).mono ?_
    rintro e w' ⟨rfl, rfl⟩
    go_wp2
    go_ret
    exact ⟨rfl, rfl⟩
theorem pn_cmp_ok (a b : Nat) (s t : ByteArray) (c : Int) (hs : nbA a = s) (ht : nbA b = t) (ha : nl a ≤ 16384) (hb : nl b ≤ 16384) (hc : cmpv a b = c) (w : World) :
    Calls Tryz.prog 86 #[.string s, .string t] w fun r w' => r = .returned (.tuple #[.int .i64 c, .int .i64 0]) ∧ Below w.heap.size w w' := by
  have HO := box (ok2 hs ht ha hb)
  have hz : s.size = nl a := by rw [← hs, nbA_size]
  have hy : t.size = nl b := by rw [← ht, nbA_size]
  have b0 := bal w (.cells #[.string s, .string t] 26)
  by_cases h : nl a = nl b
  · have H := box (cmp_str a b s t c hs ht h hc)
    have d1 : ((s.size : Int) != (t.size : Int)) = false := by simp; omega
    have d2 : (s.size : Int) = (t.size : Int) := by omega
    clear hs ht ha hb hc hz hy h
    go_enter Tryz.func86, Tryz.ntmps86
    go_wp2_with fail
    refine (n_may2 s t true HO.out _ w).mono ?_
    rintro r w0 ⟨rfl, rfl⟩
    go_wp2_with fail
    refine (H.out _).mono ?_
    rintro r w1 ⟨rfl, rfl⟩
    go_wp2
    go_ret2
    exact ⟨rfl, b0⟩
  · have d1 : ((s.size : Int) != (t.size : Int)) = true := by simp; omega
    have d2 : ¬ (s.size : Int) = (t.size : Int) := by omega
    have d3 : ¬ s.size = t.size := by omega
    have e : cmpi (s.size : Int) (t.size : Int) = c := by
      rw [cmpi_nat, hz, hy, ← hc]
      by_cases h2 : nl a < nl b
      · rw [cmpv_lt _ _ h2, cmpv_lt a b (by
          by_cases e : a < b
          · exact e
          · have := nl_mono b a (by omega)
            omega)]
      · rw [cmpv_gt _ _ (show nl b < nl a by omega), cmpv_gt a b (by
          by_cases e : b < a
          · exact e
          · have := nl_mono a b (by omega)
            omega)]
    have E := box e
    clear hs ht ha hb hc hz hy h e
    go_enter Tryz.func86, Tryz.ntmps86
    go_wp2_with fail
    refine (n_may2 s t true HO.out _ w).mono ?_
    rintro r w0 ⟨rfl, rfl⟩
    go_wp2_with fail
    refine (cmp_int _ _ c E.out _).mono ?_
    rintro r w1 ⟨rfl, rfl⟩
    go_wp2
    go_ret2
    exact ⟨rfl, b0⟩
end Go.Proofs.YtkmlbjlaahcahaaGreatDoor
namespace Go.Proofs.YtkmlbjlaahcahaaGreatDoor
set_option maxRecDepth 100000
open Go.RowKit WMath

theorem lg_ok (n : Nat) (v : ByteArray) (h : nl n ≤ 16384) (hv : nbA n = v) : lg n = (v, 0) := by unfold lg; rw [if_pos h, hv]

end Go.Proofs.YtkmlbjlaahcahaaGreatDoor
namespace Go.Proofs.YtkmlbjlaahcahaaGreatDoor
set_option maxRecDepth 100000
open Go.RowKit WMath

/-- What is moved to the left, or that it is too long, or that the count is below 0. -/
def lf (a : Nat) (n : Int) : ByteArray × Int := if n < 0 then (⟨#[]⟩, 2) else lg (a * 2 ^ n.toNat)

theorem lost_low (a n t : Nat) (h : LowB a t) : (a % 2 ^ n ≠ 0) ↔ t < n := by
  constructor
  · intro h1
    rcases Nat.lt_or_ge t n with h2 | h2
    · exact h2
    · exfalso
      apply h1
      obtain ⟨d, hd⟩ := Nat.dvd_of_mod_eq_zero h.1
      apply Nat.mod_eq_zero_of_dvd
      refine Nat.dvd_trans (Nat.pow_dvd_pow 2 h2) ?_
      exact ⟨d, hd⟩
  · intro h1 h2
    have h3 := Nat.testBit_mod_two_pow a n t
    rw [h2, h.2, decide_eq_true h1, Nat.zero_testBit] at h3
    cases h3

end Go.Proofs.YtkmlbjlaahcahaaGreatDoor
namespace Go.Proofs.YtkmlbjlaahcahaaGreatDoor
set_option maxRecDepth 100000
open Go.RowKit WMath

theorem tabB {w w' : World} (h : TabAt w) (hb : Below w.heap.size w w') : TabAt w' := fun i hi => by
  rw [hb.cell (p := ⟨4, i, none⟩) (World.block_lt_of_cell? w _ (h i hi))]
  exact h i hi
theorem tabA {w : World} (h : TabAt w) (o : Obj) : TabAt (w.alloc o) := tabB h (bal w o)

theorem lowB8 (x r : Nat) (hx : x < 256) (h : LowB x r) : LowIs x r ∧ r < 8 := by
  have h8 : r < 8 := by
    by_cases e : r < 8
    · exact e
    · have := lt_bit (n := x) (q := 8) (by rw [← two8]; exact hx) (show 8 ≤ r by omega)
      rw [h.2] at this
      exact absurd this (by decide)
  exact ⟨⟨by omega, h.1, h.2⟩, h8⟩

set_option maxRecDepth 100000 in
set_option maxHeartbeats 1000000 in
theorem pn_low_ok (n t : Nat) (s : ByteArray) (hs : nbA n = s) (h : nl n ≤ 16384) (ht : LowN n t) (w : World) (hT : TabAt w) :
    Calls Tryz.prog 180 #[.string s] w fun r w' => r = .returned (.int .i64 (t : Nat)) ∧ Below w.heap.size w w' := by
  obtain ⟨L, hL⟩ : ∃ L, nl n = L := ⟨_, rfl⟩
  have hz : s.size = L := by rw [← hs, nbA_size, hL]
  have HM : Box (mayB s = true) := box (by rw [← hs]; exact mayB_nb n h)
  rw [hL] at h
  have HS := box hs
  have HT := box ht
  have HL := box hL
  have TA := box (tabA hT (.cells #[.string s] 26))
  have b0 := bal w (.cells #[.string s] 26)
  clear hs ht hL hT
  go_enter Tryz.func180, Tryz.ntmps180
  go_wp2_with fail
  refine (n_may1 s true HM.out _ w).mono ?_
  rintro r w0 ⟨rfl, rfl⟩
  go_wp2
  go_loopw [11] (fun iv wr => ∃ i : Nat, i ≤ L ∧ iv = .int .i64 i ∧ wr = w.alloc (.cells #[.string s] 26) ∧ Box (n % 2 ^ (8 * i) = 0)) (fun iv _ => L - (intOf iv).toNat)
  case atStart => exact ⟨0, by omega, rfl, rfl, box (by rw [Nat.mul_zero, Nat.pow_zero, Nat.mod_one])⟩
  case round =>
    obtain ⟨i, hi, rfl, rfl, HE⟩ := hrel
    by_cases hlt : i < L
    · obtain ⟨k, hk⟩ : ∃ k, L - 1 - i = k := ⟨_, rfl⟩
      have hk2 : k < s.size := by omega
      obtain ⟨x, hx⟩ : ∃ x, (s[k]'hk2).toNat = x := ⟨_, rfl⟩
      have hxd : d8 n i = x := by
        rw [← hx]
        have e := HS.out
        subst e
        rw [nbA_get, HL.out, ← hk, show L - 1 - (L - 1 - i) = i by omega]
      have x256 : x < 256 := by rw [← hxd]; exact d8_lt _ _
      have n1 : IntKind.i64.wrap ((L : Int) - 1) = (L : Int) - 1 := wrap_i64_is _ (by omega) (by omega)
      have n2 : IntKind.i64.wrap ((L : Int) - 1 - (i : Int)) = (k : Int) := by rw [wrap_i64_is _ (by omega) (by omega)]; omega
      have n2' : (L : Int) - 1 - (i : Int) = (k : Int) := by omega
      have n2'' : IntKind.i64.wrap (k : Int) = (k : Int) := wrap_i64_is _ (by omega) (by omega)
      have hxr := idx_runN s k (k : Int) x rfl hk2 hx
      have dl : decide (i < L) = true := decide_eq_true hlt
      by_cases hx0 : x = 0
      · have NE : Box (n % 2 ^ (8 * (i + 1)) = 0) := box (by rw [mod_d8, HE.out, hxd, hx0, Nat.mul_zero])
        have d0 : ((x : Int) != 0) = false := by simp; omega
        clear hk hx hxd HE hx0
        go_wp2
        go_roundw
        case rel => exact ⟨i + 1, by omega, by go_num, by first | rfl | trivial, NE⟩
        case measure => simp [intOf] <;> omega
      · obtain ⟨r, hr⟩ := lowB_any x hx0
        obtain ⟨hr1, r8⟩ := lowB8 x r x256 hr
        have hnl := lowB_d8 n i r HE.out (by rw [hxd]; exact hr) r8
        have et : 8 * i + r = t := by
          rcases HT.out with ⟨h1, _⟩ | ⟨_, h2⟩
          · exfalso
            rw [h1, d8_zero] at hxd
            exact hx0 hxd.symm
          · exact lowB_one n _ _ hnl h2
        have d0 : ((x : Int) != 0) = true := by simp; omega
        have LW := box (low_any x r (by omega) hr1 _ TA.out)
        have n3 : IntKind.u64.wrap (x : Int) = (x : Int) := by rw [IntKind.wrap_u64]; omega
        have n4 : IntKind.i64.wrap ((i : Int) * 8) = (i : Int) * 8 := wrap_i64_is _ (by omega) (by omega)
        have n5 : IntKind.i64.wrap ((i : Int) * 8 + (r : Int)) = (t : Int) := by rw [wrap_i64_is _ (by omega) (by omega)]; omega
        clear hk hx hxd HE hx0 hr hr1 hnl et
        go_wp2_with fail
        refine LW.out.mono ?_
        rintro e w' ⟨rfl, rfl⟩
        go_wp2
        go_ret
        exact ⟨rfl, b0⟩
    · obtain rfl : i = L := by omega
      have e := HE.out
      rw [Nat.mod_eq_of_lt (by rw [← HL.out]; exact nl_lt n)] at e
      have et : t = 0 := by
        rcases HT.out with ⟨_, h2⟩ | ⟨h1, _⟩
        · exact h2
        · exact absurd e h1
      subst et
      have dl : decide (i < i) = false := by rw [decide_eq_false_iff_not]; omega
      clear e
      go_wp2
      go_ret
      exact ⟨rfl, b0⟩

theorem blen_shl (b n : Nat) (hb : b ≠ 0) : blen (b * 2 ^ n) = blen b + n := by
  have h1 := blen_le b hb
  have h2 := blen_lt b
  have h3 := blen_pos b hb
  have e : blen b + n = blen b - 1 + n + 1 := by omega
  rw [e]
  apply blen_of
  · rw [Nat.pow_add]; exact Nat.mul_le_mul_right _ h1
  · rw [show blen b - 1 + n + 1 = blen b + n by omega, Nat.pow_add]
    exact Nat.mul_lt_mul_of_pos_right h2 (Nat.two_pow_pos _)
set_option maxRecDepth 100000 in
theorem pn_left_ok (a : Nat) (n : Int) (s v : ByteArray) (e : Int) (hs : nbA a = s) (ha : nl a ≤ 16384) (h63 : -9223372036854775808 ≤ n) (hn : n ≤ 9223372036854775807) (hr : lf a n = (v, e)) (w : World) :
    Calls Tryz.prog 117 #[.string s, .int .i64 n] w fun r w' => r = .returned (.tuple #[.string v, .int .i64 e]) ∧ Below w.heap.size w w' := by
  have HM : Box (mayB s = true) := box (by rw [← hs]; exact mayB_nb a ha)
  have b0 := bal w (.cells #[.string s] 26)
  unfold lf at hr
  by_cases h0 : n < 0
  · rw [if_pos h0] at hr
    cases hr
    have d0 : decide (n < 0) = true := decide_eq_true h0
    clear hs
    go_enter Tryz.func117, Tryz.ntmps117
    go_wp2_with fail
    refine (n_may1 s true HM.out _ w).mono ?_
    rintro r w0 ⟨rfl, rfl⟩
    go_wp2
    go_ret2
    exact ⟨rfl, b0⟩
  · rw [if_neg h0] at hr
    obtain ⟨k, rfl⟩ : ∃ k : Nat, n = (k : Int) := ⟨n.toNat, by omega⟩
    rw [Int.toNat_natCast] at hr
    have d0 : decide ((k : Int) < 0) = false := by rw [decide_eq_false_iff_not]; omega
    have d2 := eq_empty s
    by_cases a0 : a = 0
    · subst a0
      rw [nbA_zero] at hs
      subst hs
      have ez : v = ⟨#[]⟩ ∧ e = 0 := by
        unfold lg at hr
        rw [Nat.zero_mul, if_pos (by rw [nl_zero]; omega), nbA_zero] at hr
        cases hr
        exact ⟨rfl, rfl⟩
      obtain ⟨rfl, rfl⟩ := ez
      clear d2
      go_enter Tryz.func117, Tryz.ntmps117
      go_wp2_with fail
      refine (n_may1 _ true HM.out _ w).mono ?_
      rintro r w0 ⟨rfl, rfl⟩
      go_wp2
      go_ret2
      exact ⟨rfl, b0⟩
    · rw [decide_eq_false (by rw [← hs, nbA_size]; have := nl_pos a a0; omega)] at d2
      obtain ⟨l, hl⟩ : ∃ l, blen a = l := ⟨_, rfl⟩
      have l2 : l ≤ 131072 := by rw [← hl]; unfold nl at ha; omega
      have n1 : IntKind.i64.wrap (131072 - (l : Int)) = 131072 - (l : Int) := wrap_i64_is _ (by omega) (by omega)
      have hb := blen_shl a k a0
      rw [hl] at hb
      have HS := box hs
      have HA := box ha
      have HL := box hl
      by_cases hc : l + k ≤ 131072
      · have d1 : decide ((131072 : Int) - (l : Int) < (k : Int)) = false := decide_eq_false (by omega)
        have hv : nbA (a * 2 ^ k) = v ∧ e = 0 := by
          unfold lg at hr
          rw [if_pos (by unfold nl; rw [hb]; omega)] at hr
          cases hr
          exact ⟨rfl, rfl⟩
        obtain ⟨hv, rfl⟩ := hv
        obtain ⟨K, hK⟩ : ∃ K, wl a = K := ⟨_, rfl⟩
        obtain ⟨M, hM⟩ : ∃ M, wl (a * 2 ^ k) = M := ⟨_, rfl⟩
        have hK2 : K ≤ 2048 := by rw [← hK]; exact wl_of_nl a ha
        have hM2 : M ≤ 2048 := by rw [← hM]; unfold wl; rw [hb]; omega
        have k2 : k ≤ 131072 := by omega
        have HK := box hK
        have HMM := box hM
        have HV := box hv
        clear hs ha hr hl hb hv hK hM a0
        go_enter Tryz.func117, Tryz.ntmps117
        go_wp2_with fail
        refine (n_may1 s true HM.out _ w).mono ?_
        rintro r w0 ⟨rfl, rfl⟩
        go_wp2_with fail
        refine (pn_len_ok a l s HS.out HA.out HL.out _).mono ?_
        rintro r w1 ⟨rfl, b1⟩
        go_wp2_with fail
        refine (l_wordsOf a K s HS.out (by have := HA.out; omega) HK.out _).mono ?_
        rintro r w2 ⟨p, c, rfl, s2, b2⟩
        go_wp2_with fail
        refine (l_up w2 p K c a k M _ s2 (Nat.le_refl _) (by omega) (by omega) HMM.out).mono ?_
        rintro r w3 ⟨q, d, rfl, s3, b3⟩
        go_wp2_with fail
        refine (l_natOf w3 q M d (a * 2 ^ k) _ v s3 (Nat.le_refl _) (by omega) HV.out).mono ?_
        rintro r w4 ⟨rfl, b4⟩
        go_wp2
        go_ret2
        exact ⟨rfl, btr b0 (btr b1 (btr b2 (btr b3 b4)))⟩
      · have d1 : decide ((131072 : Int) - (l : Int) < (k : Int)) = true := decide_eq_true (by omega)
        have hv : v = ⟨#[]⟩ ∧ e = 4 := by
          unfold lg at hr
          rw [if_neg (by unfold nl; rw [hb]; omega)] at hr
          cases hr
          exact ⟨rfl, rfl⟩
        obtain ⟨rfl, rfl⟩ := hv
        clear hs ha hr hl hb a0
        go_enter Tryz.func117, Tryz.ntmps117
        go_wp2_with fail
        refine (n_may1 s true HM.out _ w).mono ?_
        rintro r w0 ⟨rfl, rfl⟩
        go_wp2_with fail
        refine (pn_len_ok a l s HS.out HA.out HL.out _).mono ?_
        rintro r w1 ⟨rfl, b1⟩
        go_wp2
        go_ret2
        exact ⟨rfl, btr b0 b1⟩
end Go.Proofs.YtkmlbjlaahcahaaGreatDoor
namespace Go.Proofs.YtkmlbjlaahcahaaGreatDoor.XMath
set_option maxRecDepth 100000
open WMath

/-- How many twos a number has. -/
def tz (n : Nat) : Nat := if h : n = 0 ∨ n % 2 = 1 then 0 else tz (n / 2) + 1
termination_by n
decreasing_by omega
theorem tz_odd (n : Nat) (h : n % 2 = 1) : tz n = 0 := by rw [tz, dif_pos (Or.inr h)]
theorem tz_even (n : Nat) (h0 : n ≠ 0) (h : n % 2 = 0) : tz n = tz (n / 2) + 1 := by rw [tz, dif_neg (by omega)]
theorem tz_is (n : Nat) (h : n ≠ 0) : ∃ m, n = m * 2 ^ tz n ∧ m % 2 = 1 := by
  induction n using Nat.strongRecOn with
  | _ n ih =>
    by_cases h1 : n % 2 = 1
    · exact ⟨n, by rw [tz_odd n h1, Nat.pow_zero, Nat.mul_one], h1⟩
    · obtain ⟨m, hm, ho⟩ := ih (n / 2) (by omega) (by omega)
      refine ⟨m, ?_, ho⟩
      rw [tz_even n h (by omega), Nat.pow_succ, ← Nat.mul_assoc, ← hm]
      omega
/-- A number without its twos. -/
def od (n : Nat) : Nat := n / 2 ^ tz n
theorem od_is (n : Nat) (h : n ≠ 0) : n = od n * 2 ^ tz n ∧ od n % 2 = 1 := by
  obtain ⟨m, hm, ho⟩ := tz_is n h
  have e : od n = m := by
    unfold od
    generalize tz n = k at hm ⊢
    rw [hm]
    exact Nat.mul_div_cancel _ (Nat.two_pow_pos _)
  rw [e]
  exact ⟨hm, ho⟩
theorem od_odd (n : Nat) (h : n % 2 = 1) : od n = n := by unfold od; rw [tz_odd n h, Nat.pow_zero, Nat.div_one]
theorem od_le (n : Nat) : od n ≤ n := Nat.div_le_self _ _
theorem tz_low (n : Nat) : LowN n (tz n) := by
  by_cases h : n = 0
  · left
    exact ⟨h, by rw [h, tz, dif_pos (Or.inl rfl)]⟩
  · right
    obtain ⟨h1, h2⟩ := od_is n h
    refine ⟨h, ?_, ?_⟩
    · generalize tz n = k at h1
      rw [h1, Nat.mul_mod_left]
    · rw [Nat.testBit, Nat.shiftRight_eq_div_pow]
      have e : n / 2 ^ tz n = od n := rfl
      rw [e]
      simp only [Nat.one_and_eq_mod_two, bne_iff_ne, ne_eq]
      omega
theorem tz_blen (n : Nat) : tz n ≤ blen n := by
  by_cases h : n = 0
  · rw [h, tz, dif_pos (Or.inl rfl)]; omega
  · obtain ⟨h1, h2⟩ := od_is n h
    have h3 : 2 ^ tz n ≤ n := by
      generalize tz n = k at h1 ⊢
      rw [h1]
      exact Nat.le_mul_of_pos_left _ (by omega)
    have h4 := blen_lt n
    exact Nat.le_of_lt ((Nat.pow_lt_pow_iff_right (by decide : 1 < 2)).1 (Nat.lt_of_le_of_lt h3 h4))

/-- A rational number: its sign, numerator, denominator, exponent. -/
structure XN where
  b : Bool
  n : Nat
  d : Nat
  e : Int
/-- May it be? -/
def XN.can (x : XN) : Prop := nl x.n ≤ 16384 ∧ nl x.d ≤ 16384 ∧ -1048576 ≤ x.e ∧ x.e ≤ 1048576 ∧ ((x.b = false ∧ x.n = 0 ∧ x.d = 1 ∧ x.e = 0) ∨ (x.n % 2 = 1 ∧ x.d % 2 = 1 ∧ Nat.gcd x.n x.d = 1))
def sgn (b : Bool) : Rat := if b then -1 else 1
def XN.val (x : XN) : Rat := sgn x.b * ((x.n : Rat) / (x.d : Rat)) * (2 : Rat) ^ x.e
def X0 : XN := ⟨false, 0, 1, 0⟩
def XZ : XN := ⟨false, 0, 0, 0⟩
theorem XN.can.d {x : XN} (h : x.can) : x.d % 2 = 1 := by rcases h.2.2.2.2 with h | h <;> omega
theorem XN.can.d0 {x : XN} (h : x.can) : x.d ≠ 0 := by have := h.d; omega
theorem XN.can.null {x : XN} (h : x.can) (h0 : x.n = 0) : x = X0 := by
  rcases h.2.2.2.2 with h | h
  · cases x; simp_all [X0]
  · omega
theorem XN.can.odd {x : XN} (h : x.can) (h0 : x.n ≠ 0) : x.n % 2 = 1 ∧ x.d % 2 = 1 ∧ Nat.gcd x.n x.d = 1 := by
  rcases h.2.2.2.2 with h | h
  · exact absurd h.2.1 h0
  · exact h
theorem x0_can : X0.can := ⟨Nat.le_trans (nl_mono 0 1 (by decide)) (Nat.le_trans (nl_le_of 1 1 (by decide)) (by decide)), Nat.le_trans (nl_le_of 1 1 (by decide)) (by decide), by decide, by decide, Or.inl ⟨rfl, rfl, rfl, rfl⟩⟩

def mk (neg : Bool) (n d : Nat) (e : Int) : XN × Int :=
  if n = 0 then (X0, 0)
  else if -1048576 ≤ e + (tz n : Int) - (tz d : Int) ∧ e + (tz n : Int) - (tz d : Int) ≤ 1048576 then (⟨neg, od n / Nat.gcd (od n) (od d), od d / Nat.gcd (od n) (od d), e + (tz n : Int) - (tz d : Int)⟩, 0)
  else (XZ, 4)
theorem mk_null (neg : Bool) (d : Nat) (e : Int) : mk neg 0 d e = (X0, 0) := by unfold mk; rw [if_pos rfl]
theorem div_odd (a g : Nat) (h : g ∣ a) (ha : a % 2 = 1) : a / g % 2 = 1 := by
  obtain ⟨k, rfl⟩ := h
  have g0 : 0 < g := by
    rcases Nat.eq_zero_or_pos g with h | h
    · rw [h, Nat.zero_mul] at ha; omega
    · exact h
  rw [Nat.mul_div_cancel_left _ g0]
  rcases Nat.mod_two_eq_zero_or_one k with h | h
  · rw [Nat.mul_mod, h, Nat.mul_zero] at ha; omega
  · exact h
theorem mul_odd (a b : Nat) (ha : a % 2 = 1) (hb : b % 2 = 1) : a * b % 2 = 1 := by rw [Nat.mul_mod, ha, hb]
theorem mk_can (neg : Bool) (n d : Nat) (e : Int) (hn : nl n ≤ 16384) (hd : nl d ≤ 16384) (d0 : d ≠ 0) (h : (mk neg n d e).2 = 0) : (mk neg n d e).1.can := by
  unfold mk at h ⊢
  split
  · exact x0_can
  · rename_i n0
    rw [if_neg n0] at h
    split
    · rename_i hb
      obtain ⟨h1, h2⟩ := od_is n n0
      obtain ⟨h3, h4⟩ := od_is d d0
      have g1 := Nat.gcd_dvd_left (od n) (od d)
      have g2 := Nat.gcd_dvd_right (od n) (od d)
      refine ⟨Nat.le_trans (nl_mono _ _ (Nat.le_trans (Nat.div_le_self _ _) (od_le n))) hn, Nat.le_trans (nl_mono _ _ (Nat.le_trans (Nat.div_le_self _ _) (od_le d))) hd, hb.1, hb.2, Or.inr ⟨div_odd _ _ g1 h2, div_odd _ _ g2 h4, ?_⟩⟩
      show Nat.gcd (od n / Nat.gcd (od n) (od d)) (od d / Nat.gcd (od n) (od d)) = 1
      rw [Nat.gcd_div g1 g2]
      exact Nat.div_self (Nat.gcd_pos_of_pos_left _ (by omega))
    · rename_i hb
      rw [if_neg hb] at h
      exact absurd h (by decide)
theorem p2 (e : Int) : (0 : Rat) < (2 : Rat) ^ e := Rat.zpow_pos (by decide)
theorem p2ne (e : Int) : (2 : Rat) ^ e ≠ 0 := Rat.ne_of_gt (p2 e)
theorem p2add (e f : Int) : (2 : Rat) ^ (e + f) = (2 : Rat) ^ e * (2 : Rat) ^ f := Rat.zpow_add (by decide) e f
theorem p2nat (n : Nat) : (2 : Rat) ^ (n : Int) = ((2 ^ n : Nat) : Rat) := by rw [Rat.zpow_natCast, Rat.natCast_pow]; rfl
theorem p2sub (e f : Int) : (2 : Rat) ^ (e - f) * (2 : Rat) ^ f = (2 : Rat) ^ e := by rw [← p2add, Int.sub_add_cancel]
theorem mk_val (neg : Bool) (n d : Nat) (e : Int) (d0 : d ≠ 0) (h : (mk neg n d e).2 = 0) : (mk neg n d e).1.val = sgn neg * ((n : Rat) / (d : Rat)) * (2 : Rat) ^ e := by
  unfold mk at h ⊢
  split
  · rename_i n0
    rw [n0]
    show sgn false * (((0 : Nat) : Rat) / ((1 : Nat) : Rat)) * (2 : Rat) ^ (0 : Int) = sgn neg * (((0 : Nat) : Rat) / (d : Rat)) * (2 : Rat) ^ e
    have : ((0 : Nat) : Rat) = 0 := rfl
    rw [this]
    simp [Rat.div_def]
  · rename_i n0
    rw [if_neg n0] at h
    split
    · rename_i hb
      obtain ⟨h1, h2⟩ := od_is n n0
      obtain ⟨h3, h4⟩ := od_is d d0
      obtain ⟨n', e1⟩ := Nat.gcd_dvd_left (od n) (od d)
      obtain ⟨d', e2⟩ := Nat.gcd_dvd_right (od n) (od d)
      have g0 : 0 < Nat.gcd (od n) (od d) := Nat.gcd_pos_of_pos_left _ (by omega)
      show sgn neg * (((od n / Nat.gcd (od n) (od d) : Nat) : Rat) / ((od d / Nat.gcd (od n) (od d) : Nat) : Rat)) * (2 : Rat) ^ (e + (tz n : Int) - (tz d : Int)) = _
      generalize Nat.gcd (od n) (od d) = g at *
      have c1 : od n / g = n' := by rw [e1]; exact Nat.mul_div_cancel_left _ g0
      have c2 : od d / g = d' := by rw [e2]; exact Nat.mul_div_cancel_left _ g0
      rw [c1, c2]
      have d'0 : d' ≠ 0 := by
        intro hz
        rw [hz, Nat.mul_zero] at e2
        omega
      rw [e1] at h1
      rw [e2] at h3
      have k1 : (n : Rat) = (g : Rat) * (n' : Rat) * (2 : Rat) ^ (tz n : Int) := by
        rw [p2nat, ← Rat.natCast_mul, ← Rat.natCast_mul, ← h1]
      have k2 : (d : Rat) = (g : Rat) * (d' : Rat) * (2 : Rat) ^ (tz d : Int) := by
        rw [p2nat, ← Rat.natCast_mul, ← Rat.natCast_mul, ← h3]
      have k3 := p2sub (e + (tz n : Int)) (tz d : Int)
      rw [p2add e] at k3
      have z1 := p2ne (tz d : Int)
      have z2 : (g : Rat) ≠ 0 := fun h => by rw [Rat.natCast_eq_zero_iff] at h; omega
      have z3 : (d' : Rat) ≠ 0 := fun h => d'0 (Rat.natCast_eq_zero_iff.1 h)
      rw [k1, k2]
      generalize (2 : Rat) ^ (e + (tz n : Int) - (tz d : Int)) = E at *
      generalize (2 : Rat) ^ (tz d : Int) = D at *
      generalize (2 : Rat) ^ (tz n : Int) = N at *
      generalize (2 : Rat) ^ e = F at *
      grind
    · rename_i hb
      rw [if_neg hb] at h
      exact absurd h (by decide)

theorem cast_ne {n : Nat} (h : n ≠ 0) : (n : Rat) ≠ 0 := fun e => h (Rat.natCast_eq_zero_iff.1 e)
theorem cast_pos {n : Nat} (h : n ≠ 0) : (0 : Rat) < (n : Rat) := Rat.natCast_pos.2 (by omega)
theorem sgn_ne (b : Bool) : sgn b ≠ 0 := by cases b <;> decide
/-- The magnitude. -/
def XN.mag (x : XN) : Rat := ((x.n : Rat) / (x.d : Rat)) * (2 : Rat) ^ x.e
theorem val_mag (x : XN) : x.val = sgn x.b * x.mag := by unfold XN.val XN.mag; rw [Rat.mul_assoc]
theorem mag_pos (x : XN) (hn : x.n ≠ 0) (hd : x.d ≠ 0) : 0 < x.mag := by
  unfold XN.mag
  rw [Rat.div_def]
  exact Rat.mul_pos (Rat.mul_pos (cast_pos hn) (Rat.inv_pos.2 (cast_pos hd))) (p2 _)
theorem mag_zero (x : XN) (hn : x.n = 0) : x.mag = 0 := by
  unfold XN.mag
  rw [hn]
  have : ((0 : Nat) : Rat) = 0 := rfl
  rw [this, Rat.div_def, Rat.zero_mul, Rat.zero_mul]
/-- Two magnitudes, at the lesser exponent. -/
theorem mag_shift (x y : XN) (dx : x.d ≠ 0) (m : Int) (hm : m ≤ x.e) :
    x.mag * ((x.d * y.d : Nat) : Rat) = ((x.n * y.d * 2 ^ (x.e - m).toNat : Nat) : Rat) * (2 : Rat) ^ m := by
  have e1 : (2 : Rat) ^ x.e = (2 : Rat) ^ ((x.e - m).toNat : Int) * (2 : Rat) ^ m := by
    rw [← p2add]
    congr 1
    omega
  unfold XN.mag
  rw [Rat.natCast_mul, Rat.natCast_mul, Rat.natCast_mul, ← p2nat, e1]
  have z1 := cast_ne dx
  generalize (2 : Rat) ^ ((x.e - m).toNat : Int) = A at *
  generalize (2 : Rat) ^ m = B at *
  grind
theorem mag_one (x y : XN) (hx : x.n % 2 = 1 ∧ x.d % 2 = 1 ∧ Nat.gcd x.n x.d = 1) (hy : y.n % 2 = 1 ∧ y.d % 2 = 1 ∧ Nat.gcd y.n y.d = 1) (hle : x.e ≤ y.e) (h : x.mag = y.mag) : x.n = y.n ∧ x.d = y.d ∧ x.e = y.e := by
  have d1 : x.d ≠ 0 := by omega
  have d2 : y.d ≠ 0 := by omega
  have m1 := mag_shift x y d1 x.e (Int.le_refl _)
  have m2 := mag_shift y x d2 x.e hle
  rw [h, Nat.mul_comm x.d y.d, m2] at m1
  have m3 : ((y.n * x.d * 2 ^ (y.e - x.e).toNat : Nat) : Rat) = ((x.n * y.d * 2 ^ (x.e - x.e).toNat : Nat) : Rat) := by
    have z := p2ne x.e
    generalize (2 : Rat) ^ x.e = A at *
    generalize ((y.n * x.d * 2 ^ (y.e - x.e).toNat : Nat) : Rat) = B at *
    generalize ((x.n * y.d * 2 ^ (x.e - x.e).toNat : Nat) : Rat) = C at *
    grind
  rw [Rat.natCast_inj, Int.sub_self] at m3
  have m4 : y.n * x.d * 2 ^ (y.e - x.e).toNat = x.n * y.d := by rw [m3]; simp
  have e0 : (y.e - x.e).toNat = 0 := by
    by_cases hz : (y.e - x.e).toNat = 0
    · exact hz
    · exfalso
      obtain ⟨k, hk⟩ : ∃ k, (y.e - x.e).toNat = k + 1 := ⟨_, (Nat.succ_pred_eq_of_ne_zero hz).symm⟩
      rw [hk, Nat.pow_succ, ← Nat.mul_assoc] at m4
      have := mul_odd _ _ hx.1 hy.2.1
      omega
  rw [e0, Nat.pow_zero, Nat.mul_one] at m4
  have q1 : x.n ∣ y.n := by
    have : x.n ∣ y.n * x.d := ⟨y.d, m4⟩
    exact Nat.Coprime.dvd_of_dvd_mul_right hx.2.2 this
  have q2 : y.n ∣ x.n := by
    have : y.n ∣ x.n * y.d := ⟨x.d, m4.symm⟩
    exact Nat.Coprime.dvd_of_dvd_mul_right hy.2.2 this
  have q3 := Nat.dvd_antisymm q1 q2
  refine ⟨q3, ?_, by omega⟩
  rw [q3] at m4
  exact Nat.eq_of_mul_eq_mul_left (by omega) m4
/-- Reduced forms are one. -/
theorem can_inj (x y : XN) (hx : x.can) (hy : y.can) (h : x.val = y.val) : x = y := by
  rw [val_mag, val_mag] at h
  by_cases n1 : x.n = 0
  · rw [mag_zero x n1, Rat.mul_zero] at h
    by_cases n2 : y.n = 0
    · rw [hx.null n1, hy.null n2]
    · exfalso
      have p := mag_pos y n2 hy.d0
      rcases (Rat.mul_eq_zero.1 h.symm) with h | h
      · exact sgn_ne _ h
      · rw [h] at p; exact absurd p Rat.lt_irrefl
  · by_cases n2 : y.n = 0
    · exfalso
      rw [mag_zero y n2, Rat.mul_zero] at h
      have p := mag_pos x n1 hx.d0
      rcases (Rat.mul_eq_zero.1 h) with h | h
      · exact sgn_ne _ h
      · rw [h] at p; exact absurd p Rat.lt_irrefl
    · have p1 := mag_pos x n1 hx.d0
      have p2 := mag_pos y n2 hy.d0
      have hb : x.b = y.b := by
        cases e1 : x.b <;> cases e2 : y.b
        · rfl
        · exfalso
          rw [e1, e2] at h
          unfold sgn at h
          simp at h
          grind
        · exfalso
          rw [e1, e2] at h
          unfold sgn at h
          simp at h
          grind
        · rfl
      have hm : x.mag = y.mag := by
        rw [hb] at h
        have := sgn_ne y.b
        generalize sgn y.b = s at *
        grind
      have key : x.n = y.n ∧ x.d = y.d ∧ x.e = y.e := by
        by_cases hle : x.e ≤ y.e
        · exact mag_one x y (hx.odd n1) (hy.odd n2) hle hm
        · obtain ⟨a, b, c⟩ := mag_one y x (hy.odd n2) (hx.odd n1) (by omega) hm.symm
          exact ⟨a.symm, b.symm, c.symm⟩
      obtain ⟨k1, k2, k3⟩ := key
      cases x; cases y
      simp_all

/-- What the sum's formula makes of the one number: at the lesser exponent, over both denominators. -/
def sA (x y : XN) : Nat := x.n * y.d * 2 ^ (x.e - min x.e y.e).toNat
def sS (x y : XN) : Nat := if x.b = y.b then sA x y + sA y x else if sA x y < sA y x then sA y x - sA x y else sA x y - sA y x
def sN (x y : XN) : Bool := if x.b = y.b then x.b else if sA x y < sA y x then y.b else x.b
def addX (x y : XN) : XN × Int :=
  if x.n = 0 then (y, 0) else if y.n = 0 then (x, 0)
  else if nl (sA x y) ≤ 16384 ∧ nl (sA y x) ≤ 16384 ∧ nl (x.d * y.d) ≤ 16384 ∧ nl (sS x y) ≤ 16384 then mk (sN x y) (sS x y) (x.d * y.d) (min x.e y.e) else (XZ, 4)
theorem sA_mag (x y : XN) (dx : x.d ≠ 0) : x.mag * ((x.d * y.d : Nat) : Rat) = ((sA x y : Nat) : Rat) * (2 : Rat) ^ (min x.e y.e) :=
  mag_shift x y dx _ (Int.min_le_left _ _)
theorem mul_ne {a b : Nat} (ha : a ≠ 0) (hb : b ≠ 0) : a * b ≠ 0 := fun h => by rcases Nat.mul_eq_zero.1 h with h | h <;> contradiction
theorem sS_val (x y : XN) : sgn (sN x y) * ((sS x y : Nat) : Rat) = sgn x.b * ((sA x y : Nat) : Rat) + sgn y.b * ((sA y x : Nat) : Rat) := by
  unfold sS sN
  split
  · rename_i h
    rw [h, Rat.natCast_add, Rat.mul_add]
  · rename_i h
    have hs : sgn y.b = - sgn x.b := by
      cases e1 : x.b <;> cases e2 : y.b <;> rw [e1, e2] at h <;> first | exact absurd rfl h | decide
    split
    · rename_i hl
      have e : ((sA y x - sA x y : Nat) : Rat) = ((sA y x : Nat) : Rat) - ((sA x y : Nat) : Rat) := by
        have : ((sA y x - sA x y : Nat) : Rat) + ((sA x y : Nat) : Rat) = ((sA y x : Nat) : Rat) := by rw [← Rat.natCast_add, Nat.sub_add_cancel (Nat.le_of_lt hl)]
        rw [← this]
        grind
      rw [e, hs]
      grind
    · rename_i hl
      have e : ((sA x y - sA y x : Nat) : Rat) = ((sA x y : Nat) : Rat) - ((sA y x : Nat) : Rat) := by
        have : ((sA x y - sA y x : Nat) : Rat) + ((sA y x : Nat) : Rat) = ((sA x y : Nat) : Rat) := by rw [← Rat.natCast_add, Nat.sub_add_cancel (by omega)]
        rw [← this]
        grind
      rw [e, hs]
      grind
theorem add_good (x y : XN) (hx : x.can) (hy : y.can) (h : (addX x y).2 = 0) : (addX x y).1.can ∧ (addX x y).1.val = x.val + y.val := by
  unfold addX at h ⊢
  split
  · rename_i n0
    refine ⟨hy, ?_⟩
    rw [val_mag x, mag_zero x n0, Rat.mul_zero, Rat.zero_add]
  · rename_i n0
    split
    · rename_i m0
      refine ⟨hx, ?_⟩
      rw [val_mag y, mag_zero y m0, Rat.mul_zero, Rat.add_zero]
    · rename_i m0
      rw [if_neg n0, if_neg m0] at h
      split
      · rename_i hl
        rw [if_pos hl] at h
        have dz := mul_ne hx.d0 hy.d0
        refine ⟨mk_can _ _ _ _ hl.2.2.2 hl.2.2.1 dz h, ?_⟩
        rw [mk_val _ _ _ _ dz h, val_mag x, val_mag y]
        have k1 := sA_mag x y hx.d0
        have k2 := sA_mag y x hy.d0
        have k3 := sS_val x y
        rw [Nat.mul_comm y.d x.d, show min y.e x.e = min x.e y.e from Int.min_comm _ _] at k2
        have z := cast_ne dz
        generalize (2 : Rat) ^ (min x.e y.e) = P at *
        generalize ((x.d * y.d : Nat) : Rat) = D at *
        generalize ((sA x y : Nat) : Rat) = A at *
        generalize ((sA y x : Nat) : Rat) = B at *
        generalize ((sS x y : Nat) : Rat) = S at *
        generalize sgn (sN x y) = s at *
        generalize sgn x.b = s1 at *
        generalize sgn y.b = s2 at *
        generalize x.mag = u at *
        generalize y.mag = v at *
        have e1 : s * (S / D) * P = (s * S) * P / D := by grind
        rw [e1, k3]
        have e2 : (s1 * A + s2 * B) * P / D = (s1 * (A * P) + s2 * (B * P)) / D := by grind
        rw [e2, ← k1, ← k2]
        grind
      · rename_i hl
        rw [if_neg hl] at h
        exact absurd h (by decide)
def sg (x : XN) : Int := if x.n = 0 then 0 else if x.b then -1 else 1
def cmpX (x y : XN) : Int × Int :=
  if sg x < sg y then (-1, 0) else if sg y < sg x then (1, 0) else if sg x = 0 then (0, 0)
  else if nl (sA x y) ≤ 16384 ∧ nl (sA y x) ≤ 16384 then (sg x * cmpv (sA x y) (sA y x), 0) else (0, 4)
def scaleX (x : XN) (n : Int) : XN × Int :=
  if x.n = 0 then (x, 0) else if -1048576 ≤ x.e + n ∧ x.e + n ≤ 1048576 then (⟨x.b, x.n, x.d, x.e + n⟩, 0) else (XZ, 4)
def lenD (x : XN) : Int := (blen x.n : Int) - (blen x.d : Int)
def tA (x : XN) : Nat := x.n * 2 ^ (max (-lenD x) 0).toNat
def tB (x : XN) : Nat := x.d * 2 ^ (max (lenD x) 0).toNat
def topX (x : XN) : Int := (if tA x < tB x then lenD x - 1 else lenD x) + x.e
def flX (x : XN) (e : Int) : (Nat × Bool) × Int :=
  if e < -2097152 ∨ 2097152 < e then ((0, false), 2) else if x.n = 0 then ((0, true), 0)
  else if e ≤ x.e then (if nl (x.n * 2 ^ (x.e - e).toNat) ≤ 16384 then ((x.n * 2 ^ (x.e - e).toNat / x.d, decide (x.n * 2 ^ (x.e - e).toNat % x.d = 0)), 0) else ((0, false), 4))
  else if topX x < e then ((0, false), 0) else ((x.n / (x.d * 2 ^ (e - x.e).toNat), false), 0)

def cmpR (u v : Rat) : Int := if u < v then -1 else if v < u then 1 else 0
theorem cmpR_lt (u v : Rat) : cmpR u v < 0 ↔ u < v := by
  unfold cmpR
  split
  · rename_i h
    exact ⟨fun _ => h, fun _ => by decide⟩
  · rename_i h
    split
    · exact ⟨fun h => absurd h (by decide), fun h3 => absurd h3 h⟩
    · exact ⟨fun h => absurd h (by decide), fun h3 => absurd h3 h⟩
theorem cmpR_scale (u v c : Rat) (hc : 0 < c) : cmpR (u * c) (v * c) = cmpR u v := by
  unfold cmpR
  simp only [Rat.mul_lt_mul_right hc]
theorem cmpR_nat (a b : Nat) : cmpR (a : Rat) (b : Rat) = cmpv a b := by
  unfold cmpR cmpv
  simp only [Rat.natCast_lt_natCast]
  by_cases h1 : a < b
  · rw [if_pos h1]
    first | rw [if_neg (by omega), if_pos h1] | rw [if_pos h1]
  · rw [if_neg h1]
    by_cases h2 : b < a
    · rw [if_pos h2]
      first | rw [if_neg (by omega), if_neg h1] | rw [if_neg h1, if_neg (by omega)]
    · rw [if_neg h2]
      first | rw [if_pos (by omega)] | rw [if_neg h1, if_pos (by omega)]
theorem mag_cmp (x y : XN) (dx : x.d ≠ 0) (dy : y.d ≠ 0) : cmpR x.mag y.mag = cmpv (sA x y) (sA y x) := by
  have k1 := sA_mag x y dx
  have k2 := sA_mag y x dy
  rw [Nat.mul_comm y.d x.d, show min y.e x.e = min x.e y.e from Int.min_comm _ _] at k2
  rw [← cmpR_scale x.mag y.mag _ (cast_pos (mul_ne dx dy)), k1, k2, cmpR_scale _ _ _ (p2 _), cmpR_nat]
/-- Of numbers that are not below 0. -/
theorem cmp_good (x y : XN) (hx : x.can) (hy : y.can) (bx : x.b = false) (y0 : y.n ≠ 0) (yb : y.b = false) (h : (cmpX x y).2 = 0) : (cmpX x y).1 = cmpR x.mag y.mag := by
  have sy : sg y = 1 := by unfold sg; rw [if_neg y0, yb]; rfl
  unfold cmpX at h ⊢
  by_cases x0 : x.n = 0
  · have sx : sg x = 0 := by unfold sg; rw [if_pos x0]
    rw [sx, sy, if_pos (by decide), mag_zero x x0]
    unfold cmpR
    rw [if_pos (mag_pos y y0 hy.d0)]
  · have sx : sg x = 1 := by unfold sg; rw [if_neg x0, bx]; rfl
    rw [sx, sy, if_neg (by decide), if_neg (by decide), if_neg (by decide)] at h ⊢
    split
    · rw [mag_cmp x y hx.d0 hy.d0, Int.one_mul]
    · rename_i hl
      rw [if_neg hl] at h
      exact absurd h (by decide)
theorem tA_len (x : XN) (n0 : x.n ≠ 0) (d0 : x.d ≠ 0) : blen (tA x) = blen (tB x) ∧ tA x ≠ 0 ∧ tB x ≠ 0 := by
  unfold tA tB
  rw [blen_shl _ _ n0, blen_shl _ _ d0]
  refine ⟨?_, mul_ne n0 (Nat.pos_iff_ne_zero.1 (Nat.two_pow_pos _)), mul_ne d0 (Nat.pos_iff_ne_zero.1 (Nat.two_pow_pos _))⟩
  unfold lenD
  omega
theorem tA_near (x : XN) (n0 : x.n ≠ 0) (d0 : x.d ≠ 0) : tA x < 2 * tB x ∧ tB x < 2 * tA x := by
  obtain ⟨h1, h2, h3⟩ := tA_len x n0 d0
  have a1 := blen_lt (tA x)
  have a2 := blen_le (tA x) h2
  have b1 := blen_lt (tB x)
  have b2 := blen_le (tB x) h3
  have p := blen_pos (tA x) h2
  rw [← h1] at b1 b2
  obtain ⟨k, hk⟩ : ∃ k, blen (tA x) = k + 1 := ⟨_, (Nat.succ_pred_eq_of_ne_zero (Nat.pos_iff_ne_zero.1 p)).symm⟩
  rw [hk, Nat.pow_succ] at a1 b1
  rw [hk, Nat.add_sub_cancel] at a2 b2
  omega
theorem tA_mag (x : XN) (d0 : x.d ≠ 0) : x.mag * ((tB x : Nat) : Rat) = ((tA x : Nat) : Rat) * (2 : Rat) ^ (lenD x + x.e) := by
  unfold tA tB XN.mag
  rw [Rat.natCast_mul, Rat.natCast_mul, ← p2nat, ← p2nat, p2add]
  have e : (2 : Rat) ^ ((max (lenD x) 0).toNat : Int) = (2 : Rat) ^ ((max (-lenD x) 0).toNat : Int) * (2 : Rat) ^ (lenD x) := by
    rw [← p2add]
    congr 1
    omega
  rw [e]
  have z := cast_ne d0
  generalize (2 : Rat) ^ ((max (-lenD x) 0).toNat : Int) = A at *
  generalize (2 : Rat) ^ (lenD x) = B at *
  generalize (2 : Rat) ^ x.e = C at *
  grind
theorem p2succ (e : Int) : (2 : Rat) ^ (e + 1) = 2 * (2 : Rat) ^ e := by rw [p2add, Rat.zpow_one, Rat.mul_comm]
theorem top_good (x : XN) (n0 : x.n ≠ 0) (d0 : x.d ≠ 0) : (2 : Rat) ^ (topX x) ≤ x.mag ∧ x.mag < (2 : Rat) ^ (topX x + 1) := by
  obtain ⟨h1, h2⟩ := tA_near x n0 d0
  have k := tA_mag x d0
  have zB : (0 : Rat) < ((tB x : Nat) : Rat) := cast_pos (tA_len x n0 d0).2.2
  have zP := p2 (lenD x + x.e)
  have c1 : ((tA x : Nat) : Rat) < 2 * ((tB x : Nat) : Rat) := by
    have := Rat.natCast_lt_natCast.2 h1
    rwa [Rat.natCast_mul] at this
  have c2 : ((tB x : Nat) : Rat) < 2 * ((tA x : Nat) : Rat) := by
    have := Rat.natCast_lt_natCast.2 h2
    rwa [Rat.natCast_mul] at this
  unfold topX
  split
  · rename_i hl
    have c3 := Rat.natCast_lt_natCast.2 hl
    have e1 := p2succ (lenD x - 1 + x.e)
    rw [show lenD x - 1 + x.e + 1 = lenD x + x.e by omega] at e1
    rw [show lenD x - 1 + x.e + 1 = lenD x + x.e by omega]
    generalize (2 : Rat) ^ (lenD x + x.e) = P at *
    generalize (2 : Rat) ^ (lenD x - 1 + x.e) = H at *
    generalize ((tA x : Nat) : Rat) = A at *
    generalize ((tB x : Nat) : Rat) = B at *
    constructor
    · refine Rat.le_of_mul_le_mul_right (c := B) ?_ zB
      rw [k, e1]
      have : H * B ≤ H * (2 * A) := Rat.mul_le_mul_of_nonneg_left (Rat.le_of_lt c2) (by grind)
      grind
    · refine Rat.lt_of_mul_lt_mul_right (c := B) ?_ (Rat.le_of_lt zB)
      rw [k, Rat.mul_comm A P]
      exact Rat.mul_lt_mul_of_pos_left c3 zP
  · rename_i hl
    have c3 := Rat.natCast_le_natCast.2 (Nat.le_of_not_lt hl)
    have e1 := p2succ (lenD x + x.e)
    rw [e1]
    generalize (2 : Rat) ^ (lenD x + x.e) = P at *
    generalize ((tA x : Nat) : Rat) = A at *
    generalize ((tB x : Nat) : Rat) = B at *
    constructor
    · refine Rat.le_of_mul_le_mul_right (c := B) ?_ zB
      rw [k, Rat.mul_comm A P]
      exact Rat.mul_le_mul_of_nonneg_left c3 (Rat.le_of_lt zP)
    · refine Rat.lt_of_mul_lt_mul_right (c := B) ?_ (Rat.le_of_lt zB)
      rw [k]
      have : P * A < P * (2 * B) := Rat.mul_lt_mul_of_pos_left c1 zP
      grind
theorem p2mono (e f : Int) (h : e ≤ f) : (2 : Rat) ^ e ≤ (2 : Rat) ^ f := by
  obtain ⟨k, rfl⟩ : ∃ k : Nat, f = (k : Int) + e := ⟨(f - e).toNat, by omega⟩
  rw [p2add (k : Int) e, p2nat]
  have a : (1 : Rat) ≤ ((2 ^ k : Nat) : Rat) := Rat.natCast_le_natCast.2 (Nat.one_le_two_pow (n := k))
  have b := Rat.mul_le_mul_of_nonneg_right a (Rat.le_of_lt (p2 e))
  rwa [Rat.one_mul] at b
/-- How long a number may be. -/
def Bd (x : XN) (p E : Nat) : Prop := x.n < 2 ^ p ∧ x.d < 2 ^ p ∧ -(E : Int) ≤ x.e ∧ x.e ≤ E
theorem nl_pow (n p : Nat) (h : n < 2 ^ p) (hp : p ≤ 131072) : nl n ≤ 16384 := by
  have := blen_le_of n p h
  unfold nl
  omega
theorem mul_pow_lt (a b p q : Nat) (ha : a < 2 ^ p) (hb : b < 2 ^ q) : a * b < 2 ^ (p + q) := by
  rw [Nat.pow_add]
  exact Nat.mul_lt_mul'' ha hb
theorem pow_le2 (p q : Nat) (h : p ≤ q) : (2 : Nat) ^ p ≤ 2 ^ q := Nat.pow_le_pow_right (by decide) h
theorem mk_ok (neg : Bool) (n d : Nat) (e : Int) (P E F : Nat) (hn : n < 2 ^ P) (hd : d < 2 ^ P) (ho : d % 2 = 1) (he1 : -(E : Int) ≤ e) (he2 : e ≤ E) (hF : E + P = F) (h : F ≤ 1048576) : (mk neg n d e).2 = 0 ∧ Bd (mk neg n d e).1 P F := by
  have P1 : 1 < 2 ^ P := by omega
  have t0 := tz_odd d ho
  have t1 := Nat.le_trans (tz_blen n) (blen_le_of n P hn)
  unfold mk
  split
  · exact ⟨rfl, Nat.two_pow_pos _, P1, by show -(F : Int) ≤ 0; omega, by show (0 : Int) ≤ F; omega⟩
  · rw [t0, if_pos (by omega)]
    refine ⟨rfl, Nat.lt_of_le_of_lt (Nat.le_trans (Nat.div_le_self _ _) (od_le _)) hn, Nat.lt_of_le_of_lt (Nat.le_trans (Nat.div_le_self _ _) (od_le _)) hd, ?_, ?_⟩
    · show -(F : Int) ≤ e + (tz n : Int) - ((0 : Nat) : Int); omega
    · show e + (tz n : Int) - ((0 : Nat) : Int) ≤ (F : Int); omega
theorem sA_lt (x y : XN) (p q E F : Nat) (hx : Bd x p E) (hy : Bd y q F) : sA x y < 2 ^ (p + q + (E + F)) := by
  obtain ⟨a1, a2, a3, a4⟩ := hx
  obtain ⟨b1, b2, b3, b4⟩ := hy
  unfold sA
  rw [Nat.pow_add]
  have h1 := mul_pow_lt _ _ _ _ a1 b2
  have h2 : (2 : Nat) ^ (x.e - min x.e y.e).toNat ≤ 2 ^ (E + F) := pow_le2 _ _ (by omega)
  exact Nat.lt_of_lt_of_le (Nat.mul_lt_mul_of_pos_right h1 (Nat.two_pow_pos _)) (Nat.mul_le_mul_left _ h2)
theorem add_ok (x y : XN) (p q E F P G : Nat) (hx : x.can) (hy : y.can) (bx : Bd x p E) (bz : Bd y q F) (hP : p + q + (E + F) + 1 = P) (hG : E + F + P = G) (h1 : P ≤ 131072) (h2 : G ≤ 1048576) : (addX x y).2 = 0 ∧ Bd (addX x y).1 P G := by
  have s1 := sA_lt x y p q E F bx bz
  have s2 := sA_lt y x q p F E bz bx
  rw [show q + p + (F + E) = p + q + (E + F) by omega] at s2
  obtain ⟨a1, a2, a3, a4⟩ := bx
  obtain ⟨b1, b2, b3, b4⟩ := bz
  have dd : x.d * y.d < 2 ^ P := Nat.lt_of_lt_of_le (mul_pow_lt _ _ _ _ a2 b2) (pow_le2 _ _ (by omega))
  have e2 : 2 ^ P = 2 * 2 ^ (p + q + (E + F)) := by rw [← hP, Nat.pow_succ, Nat.mul_comm]
  have ss : sS x y < 2 ^ P := by
    rw [e2]
    unfold sS
    split
    · omega
    · split <;> omega
  unfold addX
  split
  · exact ⟨rfl, Nat.lt_of_lt_of_le b1 (pow_le2 _ _ (by omega)), Nat.lt_of_lt_of_le b2 (pow_le2 _ _ (by omega)), by show -(G : Int) ≤ y.e; omega, by show y.e ≤ (G : Int); omega⟩
  · split
    · exact ⟨rfl, Nat.lt_of_lt_of_le a1 (pow_le2 _ _ (by omega)), Nat.lt_of_lt_of_le a2 (pow_le2 _ _ (by omega)), by show -(G : Int) ≤ x.e; omega, by show x.e ≤ (G : Int); omega⟩
    · rw [if_pos ⟨nl_pow _ P (by omega) h1, nl_pow _ P (by omega) h1, nl_pow _ P dd h1, nl_pow _ P ss h1⟩]
      exact mk_ok _ _ _ _ P (E + F) G ss dd (mul_odd _ _ hx.d hy.d) (by omega) (by omega) hG h2
theorem cmp_ok (x y : XN) (p q E F : Nat) (bx : Bd x p E) (bz : Bd y q F) (h : p + q + (E + F) ≤ 131072) : (cmpX x y).2 = 0 := by
  have s1 := sA_lt x y p q E F bx bz
  have s2 := sA_lt y x q p F E bz bx
  rw [show q + p + (F + E) = p + q + (E + F) by omega] at s2
  unfold cmpX
  split
  · rfl
  · split
    · rfl
    · split
      · rfl
      · rw [if_pos ⟨nl_pow _ _ s1 h, nl_pow _ _ s2 h⟩]
end Go.Proofs.YtkmlbjlaahcahaaGreatDoor.XMath
