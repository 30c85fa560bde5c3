/-
  What the functions highest and balance of package nat return.
-/
import Derived.Test.YtknkkagapcigfaaDoorList15
import Derived.Test.YtknkkagapcigfaaDoorGmath
namespace Go.Proofs.YtknkkagapcigfaaDoor
open Go.RowKit WMath

theorem hib (v m n : Nat) (hv : v < 2 ^ (64 * (m + 2) - n)) (hn : n < 64) : (wd v (m + 1) * 2 ^ n % 18446744073709551616) ||| (wd v m / 2 ^ (64 - n)) = v / 2 ^ (64 * (m + 1) - n) := by
  have hlt : v / 2 ^ (64 * (m + 1) - n) < 18446744073709551616 := by
    apply Nat.div_lt_of_lt_mul
    rw [two64, ← Nat.pow_add, show 64 * (m + 1) - n + 64 = 64 * (m + 2) - n by omega]
    exact hv
  have e0 : wd (v / 2 ^ (64 * (m + 1) - n)) 0 = v / 2 ^ (64 * (m + 1) - n) := by
    unfold wd
    rw [Nat.mul_zero, Nat.pow_zero, Nat.div_one, Nat.mod_eq_of_lt hlt]
  rw [← e0]
  by_cases h0 : n = 0
  · subst h0
    rw [down_wd v (64 * (m + 1) - 0) (m + 1) 0 0 (by omega) (by decide), Nat.pow_zero, Nat.mul_one, Nat.div_one, Nat.zero_add, Nat.mod_eq_of_lt (wd_lt _ _)]
    rw [show 64 - 0 = 64 from rfl, ← two64, Nat.mul_mod_left, Nat.div_eq_of_lt (wd_lt _ _)]
  · rw [down_wd v (64 * (m + 1) - n) m (64 - n) 0 (by omega) (by omega), Nat.zero_add, show 64 - (64 - n) = n by omega, Nat.or_comm]

set_option maxRecDepth 100000 in
set_option maxHeartbeats 1000000 in
theorem l_highest (w : World) (p q : Option Addr) (m c a M d b B B2 x y n : Nat) (ha : SL B w p (m + 2) c a) (hb : SL B2 w q M d b) (hB : B ≤ w.heap.size) (hB2 : B2 ≤ w.heap.size) (hL : m + 2 ≤ 40000) (hM : M ≤ 40000) (la : wl a = m + 2) (hab : b ≤ a) (hn : 64 * (m + 2) - blen a = n) (hx : a / 2 ^ (64 * (m + 1) - n) = x) (hy : b / 2 ^ (64 * (m + 1) - n) = y) :
    Calls Tryd.prog 84 #[.slice p (m + 2) c, .slice q M d] w fun r w' => r = .returned (.tuple #[.int .u64 (x : Nat), .int .u64 (y : Nat)]) ∧ Below w.heap.size w w' := by
  obtain ⟨bp, op, rfl, _⟩ := ha.ptr (by omega)
  obtain ⟨l, hl⟩ : ∃ l, blen a = l := ⟨_, rfl⟩
  have hl2 : l ≤ 64 * (m + 2) ∧ n < 64 := by
    rw [hl] at hn
    have : wl a = (l + 63) / 64 := by rw [← hl]; rfl
    omega
  have e1 : 64 * (m + 2) - n = l := by rw [hl] at hn; omega
  have alt : a < 2 ^ (64 * (m + 2) - n) := by rw [e1, ← hl]; exact blen_lt a
  have hxa := hib a m n alt hl2.2
  have hyb := hib b m n (Nat.lt_of_le_of_lt hab alt) hl2.2
  obtain ⟨k, hk⟩ : ∃ k, 64 - n = k := ⟨_, rfl⟩
  rw [hx, hk] at hxa
  rw [hy, hk] at hyb
  obtain ⟨u1, hu1⟩ : ∃ u, wd a (m + 1) = u := ⟨_, rfl⟩
  obtain ⟨u2, hu2⟩ : ∃ u, wd a m = u := ⟨_, rfl⟩
  obtain ⟨v1, hv1⟩ : ∃ u, wd b (m + 1) = u := ⟨_, rfl⟩
  obtain ⟨v2, hv2⟩ : ∃ u, wd b m = u := ⟨_, rfl⟩
  rw [hu1, hu2] at hxa
  rw [hv1, hv2] at hyb
  obtain ⟨x1, hx1⟩ : ∃ u, u1 * 2 ^ n % 18446744073709551616 = u := ⟨_, rfl⟩
  obtain ⟨x2, hx2⟩ : ∃ u, u2 / 2 ^ k = u := ⟨_, rfl⟩
  obtain ⟨y1, hy1⟩ : ∃ u, v1 * 2 ^ n % 18446744073709551616 = u := ⟨_, rfl⟩
  obtain ⟨y2, hy2⟩ : ∃ u, v2 / 2 ^ k = u := ⟨_, rfl⟩
  have x164 : x1 < 18446744073709551616 := by rw [← hx1]; exact Nat.mod_lt _ (by decide)
  have y164 : y1 < 18446744073709551616 := by rw [← hy1]; exact Nat.mod_lt _ (by decide)
  have x264 : x2 < 18446744073709551616 := by rw [← hx2, ← hu2]; exact Nat.lt_of_le_of_lt (Nat.div_le_self _ _) (wd_lt _ _)
  have y264 : y2 < 18446744073709551616 := by rw [← hy2, ← hv2]; exact Nat.lt_of_le_of_lt (Nat.div_le_self _ _) (wd_lt _ _)
  have bx : bits .or .u64 (x1 : Nat) (x2 : Nat) = (x : Int) := by rw [← hxa, hx1, hx2]; exact bits_or_u64_nat _ _ x164 x264
  have bY : bits .or .u64 (y1 : Nat) (y2 : Nat) = (y : Int) := by rw [← hyb, hy1, hy2]; exact bits_or_u64_nat _ _ y164 y264
  have c1 := ha.cell (m + 1) u1 (by omega) hu1
  have c2 := ha.cell m u2 (by omega) hu2
  obtain ⟨m', hm'⟩ : ∃ m', m + 1 = m' := ⟨_, rfl⟩
  have A1 := box (l_left u1 n x1 (by omega) hx1)
  have A2 := box (l_right u2 k x2 (by omega) hx2)
  have A3 := box (l_left v1 n y1 (by omega) hy1)
  have A4 := box (l_right v2 k y2 (by omega) hy2)
  have T1 := box hv1
  have T2 := box hv2
  have HL := box hl
  have LA := box la
  have n1 : ((m + 2 : Nat) : Int) - 1 = (m : Int) + 1 := by omega
  have n1' : (m : Int) + 2 - 1 = (m : Int) + 1 := by omega
  have n2 : IntKind.i64.wrap ((m : Int) + 1) = (m : Int) + 1 := wrap_i64_is _ (by omega) (by omega)
  have n3 : IntKind.i64.wrap (((m : Int) + 2) * 64) = ((m : Int) + 2) * 64 := wrap_i64_is _ (by omega) (by omega)
  have n4 : ((m : Int) + 2) * 64 - (l : Int) = (n : Int) := by rw [hl] at hn; omega
  have n5 : IntKind.i64.wrap (n : Int) = (n : Int) := wrap_i64_is _ (by omega) (by omega)
  have n6 : (64 : Int) - (n : Int) = (k : Int) := by omega
  have n7 : IntKind.i64.wrap (k : Int) = (k : Int) := wrap_i64_is _ (by omega) (by omega)
  have n8 : (m : Int) + 1 - 1 = (m : Int) := by omega
  have n9 : IntKind.i64.wrap (m : Int) = (m : Int) := wrap_i64_is _ (by omega) (by omega)
  clear hxa hyb hu1 hu2 hv1 hv2 hx1 hx2 hy1 hy2 hk hl hn la hx hy hl2 e1 alt hm'
  go_enter Tryd.func84, Tryd.ntmps84
  go_wp2_with fail
  refine (l_bitLen w _ (m + 2) c a l B ha (by omega) LA.out HL.out).mono ?_
  rintro e w1 ⟨rfl, rfl⟩
  go_wp2
  go_quiet (first
    | (go_at_call 74; exact (A1.out _).mono (fun _ _ h => ⟨h.1, _, h.2⟩))
    | (go_at_call 69; exact (A2.out _).mono (fun _ _ h => ⟨h.1, _, h.2⟩)))
  go_wp2_with fail
  have bq : Below w1.heap.size w1 (w1.drewN nq) := below_drewN (Below.refl w1.heap.size w1) nq
  have sb := hb.below bq hB2
  have at1 := l_at (w1.drewN nq) q M d b (m + 1) v1 sb T1.out (by omega)
  rw [show ((m + 1 : Nat) : Int) = (m : Int) + 1 from rfl] at at1
  refine at1.mono ?_
  rintro e w' ⟨rfl, rfl⟩
  go_wp2_with fail
  refine (A3.out _).mono ?_
  rintro e w' ⟨rfl, rfl⟩
  go_wp2_with fail
  refine (l_at (w1.drewN nq) q M d b m v2 sb T2.out (by omega)).mono ?_
  rintro e w' ⟨rfl, rfl⟩
  go_wp2_with fail
  refine (A4.out _).mono ?_
  rintro e w' ⟨rfl, rfl⟩
  go_wp2
  go_ret2
  exact ⟨rfl, bq⟩

/-- What the balance keeps, word by word. -/
def BalSt (a t b u i cx cy S : Nat) (o : Bool) : Prop := S < 2 ^ (64 * i) ∧ S + (b % 2 ^ (64 * i)) * u + 2 ^ (64 * i) * cx = (a % 2 ^ (64 * i)) * t + 2 ^ (64 * i) * (cy + o.toNat)
theorem balSt0 (a t b u : Nat) : BalSt a t b u 0 0 0 0 false := ⟨by decide, by simp [Nat.mod_one]⟩
theorem balSt_next {a t b u i cx cy S : Nat} {o : Bool} (h : BalSt a t b u i cx cy S o) (x y xl yl dx dy s : Nat) (p : Bool) (hx : wd a i = x) (hy : wd b i = y) (h1 : xl + 18446744073709551616 * dx = x * t + cx) (h2 : yl + 18446744073709551616 * dy = y * u + cy) (hs : s < 18446744073709551616) (h3 : s + yl + o.toNat = xl + 18446744073709551616 * p.toNat) :
    BalSt a t b u (i + 1) dx dy (S + 2 ^ (64 * i) * s) p := by
  refine ⟨push_lt S i s h.1 hs, ?_⟩
  have e := h.2
  rw [mod_wd, mod_wd, hx, hy, pow64, Nat.add_mul, Nat.add_mul, Nat.mul_assoc (2 ^ (64 * i)) x t, Nat.mul_assoc (2 ^ (64 * i)) y u]
  generalize 2 ^ (64 * i) = P at *
  generalize a % P * t = A at *
  generalize b % P * u = C at *
  generalize x * t = xt at *
  generalize y * u = yu at *
  have h4 : s + yu + 18446744073709551616 * dx + (cy + o.toNat) = cx + xt + 18446744073709551616 * (dy + p.toNat) := by omega
  have h5 := congrArg (fun z => P * z) h4
  simp only [Nat.mul_add] at h5 e ⊢
  rw [← Nat.mul_assoc P 18446744073709551616 dx, ← Nat.mul_assoc P 18446744073709551616 dy, ← Nat.mul_assoc P 18446744073709551616 p.toNat] at h5
  omega
theorem balSt_end {a t b u N cx cy S V : Nat} {o : Bool} (h : BalSt a t b u N cx cy S o) (ha : a < 2 ^ (64 * N)) (hb : b < 2 ^ (64 * N)) (hV : V + b * u = a * t) (hVN : V < 2 ^ (64 * N)) : S = V := by
  have e := h.2
  have h1 := h.1
  rw [Nat.mod_eq_of_lt ha, Nat.mod_eq_of_lt hb, ← hV] at e
  generalize 2 ^ (64 * N) = P at *
  have e2 : S + P * cx = V + P * (cy + o.toNat) := by omega
  have e3 := congrArg (fun z => z % P) e2
  simp only [Nat.add_mul_mod_self_left, Nat.mod_eq_of_lt h1, Nat.mod_eq_of_lt hVN] at e3
  exact e3

set_option maxRecDepth 100000 in
set_option maxHeartbeats 2000000 in
theorem l_balance (w : World) (p q : Option Addr) (L c a t M d b u B V K : Nat) (ha : SL B w p L c a) (hb : SL B w q M d b) (hB : B ≤ w.heap.size) (hL : L ≤ 40000) (hM : M ≤ 40000) (ht : t < 18446744073709551616) (hu : u < 18446744073709551616) (hV : V + b * u = a * t) (hVN : V < 2 ^ (64 * max L M)) (hK : wl V = K) :
    Calls Tryd.prog 85 #[.slice p L c, .int .u64 (t : Nat), .slice q M d, .int .u64 (u : Nat)] w fun r w' => ∃ y e, r = .returned (.slice y K e) ∧ SL w'.heap.size w' y K e V ∧ Below w.heap.size w w' := by
  obtain ⟨N, hN⟩ : ∃ N, max L M = N := ⟨_, rfl⟩
  have hcase : (L < M ∧ M = N) ∨ ((L < M) = False ∧ L = N) := by
    by_cases h : L < M
    · left; exact ⟨h, by omega⟩
    · right; exact ⟨eq_false h, by omega⟩
  rw [hN] at hVN
  have aN : a < 2 ^ (64 * N) := Nat.lt_of_lt_of_le ha.1 (pow64_le _ _ (by omega))
  have bN : b < 2 ^ (64 * N) := Nat.lt_of_lt_of_le hb.1 (pow64_le _ _ (by omega))
  have N2 : N ≤ 40000 := by omega
  have AN := box aN
  have BN := box bN
  have HV := box hV
  have HVN := box hVN
  have HK := box hK
  obtain ⟨g, hg⟩ : ∃ g, w.heap.size = g := ⟨_, rfl⟩
  have hB2 := hB
  rw [hg] at hB2
  have r0 : (w.alloc (.cells (cw N 0) 66)).heap[g]? = some (.cells (cw N 0) 66) := by rw [← hg]; exact heap_alloc_last _ _
  have b0 : Below g w (w.alloc (.cells (cw N 0) 66)) := by rw [← hg]; exact (Below.refl _ _).alloc (Nat.le_refl _) _
  have R0 := box r0
  have B0 := box b0
  clear hN aN bN hV hVN hK r0 b0
  rcases hcase with ⟨h1, hn⟩ | ⟨h1, hn⟩
  all_goals
    first
      | (have hmk := cw_make N (M : Int) (by omega) (by omega))
      | (have hmk := cw_make N (L : Int) (by omega) (by omega))
    clear hn
    go_enter Tryd.func85, Tryd.ntmps85
    go_wp2
    clear hmk h1
    go_loopw [12, 13, 14, 24] (fun xv yv ov iv wr => ∃ (i cx cy S : Nat) (o : Bool), i ≤ N ∧ cx < 18446744073709551616 ∧ cy < 18446744073709551616 ∧ xv = .int .u64 cx ∧ yv = .int .u64 cy ∧ ov = .bool o ∧ iv = .int .i64 i ∧ wr.heap[g]? = some (.cells (cw N S) 66) ∧ Below g w wr ∧ Box (BalSt a t b u i cx cy S o)) (fun _ _ _ iv _ => N - (intOf iv).toNat)
    case atStart => exact ⟨0, 0, 0, 0, false, by omega, by decide, by decide, rfl, rfl, rfl, rfl, R0.out, B0.out, box (balSt0 a t b u)⟩
    case round =>
      obtain ⟨i, cx, cy, S, o, hi, hcx, hcy, rfl, rfl, rfl, rfl, r1, hbw, HE⟩ := hrel
      have sa := ha.below hbw hB2
      have sb := hb.below hbw hB2
      by_cases hlt : i < N
      · obtain ⟨x, hx⟩ : ∃ x, wd a i = x := ⟨_, rfl⟩
        obtain ⟨y, hy⟩ : ∃ y, wd b i = y := ⟨_, rfl⟩
        obtain ⟨xl, hxl⟩ : ∃ v, (x * t + cx) % 18446744073709551616 = v := ⟨_, rfl⟩
        obtain ⟨dx, hdx⟩ : ∃ v, (x * t + cx) / 18446744073709551616 = v := ⟨_, rfl⟩
        obtain ⟨yl, hyl⟩ : ∃ v, (y * u + cy) % 18446744073709551616 = v := ⟨_, rfl⟩
        obtain ⟨dy, hdy⟩ : ∃ v, (y * u + cy) / 18446744073709551616 = v := ⟨_, rfl⟩
        obtain ⟨s, hs⟩ : ∃ s, (xl + 18446744073709551616 - yl - o.toNat) % 18446744073709551616 = s := ⟨_, rfl⟩
        obtain ⟨o2, ho2⟩ : ∃ o2, decide (xl < yl + o.toNat) = o2 := ⟨_, rfl⟩
        have x64 : x < 18446744073709551616 := by rw [← hx]; exact wd_lt _ _
        have y64 : y < 18446744073709551616 := by rw [← hy]; exact wd_lt _ _
        have xl64 : xl < 18446744073709551616 := by rw [← hxl]; exact Nat.mod_lt _ (by decide)
        have yl64 : yl < 18446744073709551616 := by rw [← hyl]; exact Nat.mod_lt _ (by decide)
        have s64 : s < 18446744073709551616 := by rw [← hs]; exact Nat.mod_lt _ (by decide)
        have dx64 : dx < 18446744073709551616 := by
          have := mul_lt128 x t cx 0 x64 ht hcx (by decide)
          rwa [Nat.add_zero, hdx] at this
        have dy64 : dy < 18446744073709551616 := by
          have := mul_lt128 y u cy 0 y64 hu hcy (by decide)
          rwa [Nat.add_zero, hdy] at this
        have bn := borrow_num xl yl s o o2 xl64 yl64 hs ho2
        have NB : Box (BalSt a t b u (i + 1) dx dy (S + 2 ^ (64 * i) * s) o2) := box (balSt_next HE.out x y xl yl dx dy s o2 hx hy (by omega) (by omega) s64 bn)
        have c1 : wr.cell? ⟨g, i, none⟩ = some (.int .u64 (wd S i : Nat)) := by rw [cell_of_row wr g i _ _ _ r1, cw_at N S i hlt]
        have f1 := fz (k := i) r1
        have RS : Box ((wr.setCell ⟨g, i, none⟩ (.int .u64 (s : Int))).heap[g]? = some (.cells (cw N (S + 2 ^ (64 * i) * s)) 66)) := box (by rw [setCell_row r1, cw_push N S i s _ hlt HE.out.1 s64 rfl])
        have BS : Box (Below g w (wr.setCell ⟨g, i, none⟩ (.int .u64 (s : Int)))) := box (hbw.setCell (Nat.le_refl _) _)
        have M1 := box (l_mulAdd x t cx xl dx x64 ht hcx hxl hdx)
        have M2 := box (l_mulAdd y u cy yl dy y64 hu hcy hyl hdy)
        have M3 := box (sub_is xl yl o s o2 xl64 yl64 hs ho2)
        have HX := box hx
        have HY := box hy
        have dl : decide (i < N) = true := decide_eq_true hlt
        clear hx hy hxl hdx hyl hdy hs ho2 bn HE
        go_wp2_with fail
        refine (l_at wr p L c a i x sa HX.out (by omega)).mono ?_
        rintro e w' ⟨rfl, rfl⟩
        go_wp2_with fail
        refine (M1.out _).mono ?_
        rintro e w' ⟨rfl, rfl⟩
        go_wp2_with fail
        refine (l_at _ q M d b i y sb HY.out (by omega)).mono ?_
        rintro e w' ⟨rfl, rfl⟩
        go_wp2_with fail
        refine (M2.out _).mono ?_
        rintro e w' ⟨rfl, rfl⟩
        go_wp2_with fail
        refine (M3.out _).mono ?_
        rintro e w' ⟨rfl, rfl⟩
        go_wp2
        go_roundw
        case rel => exact ⟨i + 1, dx, dy, _, o2, by omega, dx64, dy64, rfl, rfl, rfl, by go_num, RS.out, BS.out, NB⟩
        case measure => simp [intOf] <;> omega
      · obtain rfl : i = N := by omega
        have e := balSt_end HE.out AN.out BN.out HV.out HVN.out
        subst e
        have dl : decide (i < i) = false := by rw [decide_eq_false_iff_not]; omega
        have s1 : SL wr.heap.size wr (some ⟨g, 0, none⟩) i i S := SL.row r1 _ (Array.getElem?_eq_some_iff.1 r1).1 HVN.out (Nat.le_refl _)
        go_wp2_with fail
        refine (l_trim wr _ _ _ _ K _ s1 (by omega) HK.out).mono ?_
        rintro e w2 ⟨v, f, rfl, s2, rfl⟩
        go_wp2
        go_ret
        exact ⟨v, f, rfl, s2, by rw [hg]; exact hbw⟩
end Go.Proofs.YtknkkagapcigfaaDoor
