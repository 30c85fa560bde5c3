/-
  What the function divide of package nat returns.
-/
import Derived.Test.YtknkkagapcigfaaDoorList12
import Derived.Test.YtknkkagapcigfaaDoorList6
namespace Go.Proofs.YtknkkagapcigfaaDoor
open Go.RowKit WMath

theorem blen_sh (b n : Nat) (hb : b ≠ 0) : blen (b * 2 ^ n) = blen b + n := by
  have h1 := blen_le b hb
  have h2 := blen_lt b
  have h3 := blen_pos b hb
  have e : blen b + n = blen b - 1 + n + 1 := by omega
  rw [e]
  apply blen_of
  · rw [Nat.pow_add]; exact Nat.mul_le_mul_right _ h1
  · rw [show blen b - 1 + n + 1 = blen b + n by omega, Nat.pow_add]
    exact Nat.mul_lt_mul_of_pos_right h2 (Nat.two_pow_pos _)
theorem dv_norm (b M n : Nat) (hb : b ≠ 0) (hM : wl b = M) (hn : n = 64 * M - blen b) : 0 < M ∧ n < 64 ∧ blen b + n = 64 * M ∧ wl (b * 2 ^ n) = M ∧ 2 ^ (64 * M - 1) ≤ b * 2 ^ n ∧ b * 2 ^ n < 2 ^ (64 * M) := by
  have h0 := wl_pos b hb
  rw [hM] at h0
  have h1 := blen_pos b hb
  have e : blen b + n = 64 * M ∧ n < 64 := by rw [← hM] at hn ⊢; unfold wl at *; omega
  have hs := blen_sh b n hb
  rw [e.1] at hs
  have hne : b * 2 ^ n ≠ 0 := Nat.mul_ne_zero hb (Nat.ne_of_gt (Nat.two_pow_pos _))
  refine ⟨h0, e.2, e.1, by unfold wl; rw [hs]; omega, ?_, ?_⟩
  · have := blen_le _ hne
    rw [hs] at this
    exact this
  · have := blen_lt (b * 2 ^ n)
    rw [hs] at this
    exact this
theorem q_set (q i t : Nat) (h : q % 2 ^ (64 * (i + 1)) = 0) : setw q i t = q + 2 ^ (64 * i) * t := by
  have h1 := mod_wd q i
  rw [h] at h1
  have h2 : 2 ^ (64 * i) * wd q i = 0 := by omega
  have := setw_add q i t
  omega

set_option maxRecDepth 100000 in
set_option maxHeartbeats 2000000 in
theorem l_divide (w : World) (p q : Option Addr) (L c a M d b B K1 K2 : Nat) (ha : SL B w p L c a) (hb : SL B w q M d b) (hB : B ≤ w.heap.size) (hL : L ≤ 40000) (hM : M ≤ 40000) (lb : wl b = M) (hb0 : b ≠ 0) (hK1 : wl (a / b) = K1) (hK2 : wl (a % b) = K2) :
    Calls Tryd.prog 58 #[.slice p L c, .slice q M d] w fun r w' => ∃ u e v f, r = .returned (.tuple #[.slice u K1 e, .slice v K2 f]) ∧ SL w'.heap.size w' u K1 e (a / b) ∧ SL w'.heap.size w' v K2 f (a % b) ∧ Below w.heap.size w w' := by
  obtain ⟨l, hl⟩ : ∃ l, blen b = l := ⟨_, rfl⟩
  obtain ⟨n, hn⟩ : ∃ n, 64 * M - l = n := ⟨_, rfl⟩
  obtain ⟨hM0, n64, hln, hby, hlow, hhigh⟩ := dv_norm b M n hb0 lb (by rw [hl, hn])
  rw [hl] at hln
  have hb2 : 2 ^ (64 * (M - 1)) ≤ b := by rw [← lb]; exact wl_le b hb0
  obtain ⟨N, hN⟩ : ∃ N, L + 1 - M = N := ⟨_, rfl⟩
  have LD := box (ldSt_start a b n L M N ha.1 hlow hb2 hM0 n64 hN.symm)
  have hraise := raise_lt a L n 0 ha.1 (by omega)
  obtain ⟨m, rfl⟩ : ∃ m, M = m + 1 := ⟨M - 1, by omega⟩
  have n1 : IntKind.i64.wrap (((m : Int) + 1) * 64) = ((m : Int) + 1) * 64 := wrap_i64_is _ (by omega) (by omega)
  have n2 : IntKind.i64.wrap (((m : Int) + 1) * 64 - (l : Int)) = (n : Int) := by rw [wrap_i64_is _ (by omega) (by omega)]; omega
  have hl2 : l ≤ 3000000 := by omega
  have n2' : ((m : Int) + 1) * 64 - (l : Int) = (n : Int) := by omega
  have n2'' : IntKind.i64.wrap (n : Int) = (n : Int) := wrap_i64_is _ (by omega) (by omega)
  have n3 : IntKind.i64.wrap ((L : Int) - ((m : Int) + 1)) = (L : Int) - ((m : Int) + 1) := wrap_i64_is _ (by omega) (by omega)
  have n4 : IntKind.i64.wrap ((L : Int) - ((m : Int) + 1) + 1) = (L : Int) - ((m : Int) + 1) + 1 := wrap_i64_is _ (by omega) (by omega)
  have HLB := box lb
  have HL := box hl
  have HBY := box hby
  have HRA := box hraise
  have HHI := box hhigh
  have HB0 := box hb0
  have HN := box hN
  have HK1 := box hK1
  have HK2 := box hK2
  have Hn := box hn
  have Hln := box hln
  clear lb hl hby hraise hhigh hb0 hlow hb2 hK1 hK2 hn hN hln
  go_enter Tryd.func58, Tryd.ntmps58
  go_wp2_with fail
  refine (l_bitLen w q (m + 1) d b l B hb (by omega) HLB.out HL.out).mono ?_
  rintro e w1 ⟨rfl, rfl⟩
  go_wp2_with fail
  refine (l_up w1 q (m + 1) d b n (m + 1) B hb hB (by omega) (by omega) HBY.out).mono ?_
  rintro e w2 ⟨y, yd, rfl, s2, b2⟩
  go_wp2_with fail
  refine (l_raise w2 p L c a n 0 B (ha.below b2 hB) (by have := b2.size; omega) (by omega) (by omega) (by omega)).mono ?_
  rintro e w3 ⟨g, rfl, hg, r3, b3⟩
  have hcase : ((L : Int) - ((m : Int) + 1) + 1 = (N : Int) ∧ ((N : Int) < 0) = False) ∨ (((L : Int) - ((m : Int) + 1) + 1 < 0) = True ∧ (0 : Int) = (N : Int)) := by
    have := HN.out
    by_cases hqL : m ≤ L
    · left; exact ⟨by omega, eq_false (by omega)⟩
    · right; exact ⟨eq_true (by omega), by omega⟩
  have N2 : N ≤ 40001 := by have := HN.out; omega
  obtain ⟨h, hh⟩ : ∃ h, w3.heap.size = h := ⟨_, rfl⟩
  have gh : g < h := by rw [← hh]; exact (Array.getElem?_eq_some_iff.1 r3).1
  have q4 : (w3.alloc (.cells (cw N 0) 66)).heap[h]? = some (.cells (cw N 0) 66) := by rw [← hh]; exact heap_alloc_last _ _
  have b4 : Below h w3 (w3.alloc (.cells (cw N 0) 66)) := by rw [← hh]; exact (Below.refl _ _).alloc (Nat.le_refl _) _
  have r4 : (w3.alloc (.cells (cw N 0) 66)).heap[g]? = some (.cells (cw (L + 1) (a * 2 ^ n)) 66) := by rw [b4.block g gh]; exact r3
  have s3 : SL w2.heap.size w3 y (m + 1) yd (b * 2 ^ n) := s2.below b3 (Nat.le_refl _)
  have h2 : w2.heap.size ≤ h := by rw [← hh]; exact b3.size
  have s4 : SL w2.heap.size (w3.alloc (.cells (cw N 0) 66)) y (m + 1) yd (b * 2 ^ n) := s3.below b4 h2
  have c4 : Below w1.heap.size w1 (w3.alloc (.cells (cw N 0) 66)) := btr (btr b2 b3) (bal _ _)
  have z4 : (w3.alloc (.cells (cw N 0) 66)).heap.size = h + 1 := by rw [size_al, hh]
  have h1 : w1.heap.size ≤ w2.heap.size := b2.size
  have Q4 := box q4
  have R4 := box r4
  have S4 := box s4
  have C4 := box c4
  have Z4 := box z4
  clear q4 b4 r4 s3 s4 c4 z4 s2 b2 b3 r3
  rcases hcase with ⟨e1, e2⟩ | ⟨e1, e2⟩
  all_goals
    first
      | (have hmk := cw_make N (N : Int) rfl (by omega)
         have n6 : IntKind.i64.wrap (N : Int) = (N : Int) := wrap_i64_is _ (by omega) (by omega)
         have e3 : ((N : Int) < 0) = False := e2)
      | (have hmk := cw_make N (0 : Int) e2 (by omega)
         clear e2)
    have n7 : IntKind.i64.wrap ((N : Int) - 1) = (N : Int) - 1 := wrap_i64_is _ (by omega) (by omega)
    go_wp2
    clear hmk
    go_loopw [9] (fun iv wr => ∃ (i X q : Nat), i ≤ N ∧ iv = .int .i64 ((i : Int) - 1) ∧ wr.heap[g]? = some (.cells (cw (L + 1) X) 66) ∧ wr.heap[h]? = some (.cells (cw N q) 66) ∧ SL w2.heap.size wr y (m + 1) yd (b * 2 ^ n) ∧ Below w1.heap.size w1 wr ∧ Box (LdSt (a * 2 ^ n) (b * 2 ^ n) i X q ∧ X < 2 ^ (64 * (L + 1)) ∧ q < 2 ^ (64 * N))) (fun iv _ => (intOf iv + 1).toNat)
    case atStart => exact ⟨N, a * 2 ^ n, 0, Nat.le_refl _, rfl, R4.out, Q4.out, S4.out, C4.out, box ⟨LD.out, HRA.out, Nat.two_pow_pos _⟩⟩
    case round =>
      obtain ⟨i, X, q', hi, rfl, r5, q5, s5, c5, HE⟩ := hrel
      by_cases h0 : i = 0
      · subst h0
        obtain ⟨E1, E2, E3⟩ := HE.out
        have bb0 : 0 < b * 2 ^ n := Nat.mul_pos (Nat.pos_of_ne_zero HB0.out) (Nat.two_pow_pos _)
        obtain ⟨f1, f2⟩ := ldSt_end E1 bb0
        rw [Nat.mul_div_mul_right _ _ (Nat.two_pow_pos _)] at f1
        rw [Nat.mul_mod_mul_right] at f2
        subst f1
        have sq : SL wr.heap.size wr (some ⟨h, 0, none⟩) N N (a / b) := SL.row q5 _ (Array.getElem?_eq_some_iff.1 q5).1 E3 (Nat.le_refl _)
        have sx : SL wr.heap.size wr (some ⟨g, 0, none⟩) (L + 1) (L + 1) X := SL.row r5 _ (Array.getElem?_eq_some_iff.1 r5).1 E2 (Nat.le_refl _)
        have ex : X / 2 ^ n = a % b := by rw [f2, Nat.mul_div_cancel _ (Nat.two_pow_pos _)]
        have EX := box ex
        clear E1 E2 E3 f2 ex bb0
        go_wp2_with fail
        refine (l_trim wr _ N N (a / b) K1 _ sq (by omega) HK1.out).mono ?_
        rintro e w7 ⟨u, d7, rfl, s7, rfl⟩
        go_wp2_with fail
        refine (l_down w7 _ (L + 1) (L + 1) X n K2 _ sx (Nat.le_refl _) (by omega) (by omega) (by rw [EX.out]; exact HK2.out)).mono ?_
        rintro e w8 ⟨v, d8, rfl, s8, b8⟩
        rw [EX.out] at s8
        go_wp2
        go_ret2
        exact ⟨u, d7, v, d8, rfl, (s7.below b8 (Nat.le_refl _)).mono b8.size, s8, btr c5 b8⟩
      · obtain ⟨j, rfl⟩ : ∃ j, i = j + 1 := ⟨i - 1, by omega⟩
        obtain ⟨E1, E2, E3⟩ := HE.out
        obtain ⟨V, hV⟩ : ∃ V, vw X j (m + 2) = V := ⟨_, rfl⟩
        have bb0 : 0 < b * 2 ^ n := Nat.mul_pos (Nat.pos_of_ne_zero HB0.out) (Nat.two_pow_pos _)
        obtain ⟨v1, v2, v3⟩ := ldSt_next E1 HHI.out bb0 hV
        obtain ⟨t, ht⟩ : ∃ t, V / (b * 2 ^ n) = t := ⟨_, rfl⟩
        rw [ht] at v2 v3
        have hjN : j < N := by omega
        have hfit : j + (m + 2) ≤ L + 1 := by have := HN.out; omega
        have x3 : putw X j (m + 2) (V % (b * 2 ^ n)) < 2 ^ (64 * (L + 1)) := putw_lt X j (m + 2) _ (L + 1) E2 (Nat.lt_of_lt_of_le (Nat.mod_lt _ bb0) (Nat.le_of_lt (Nat.lt_of_lt_of_le HHI.out (pow64_le _ _ (by omega))))) hfit
        have es := q_set q' j t E1.2.2
        have q3 : setw q' j t < 2 ^ (64 * N) := setw_lt q' j t N E3 hjN v2
        rw [es] at q3
        have NE : Box (LdSt (a * 2 ^ n) (b * 2 ^ n) j (putw X j (m + 2) (V % (b * 2 ^ n))) (q' + 2 ^ (64 * j) * t) ∧ putw X j (m + 2) (V % (b * 2 ^ n)) < 2 ^ (64 * (L + 1)) ∧ q' + 2 ^ (64 * j) * t < 2 ^ (64 * N)) := box ⟨v3, x3, q3⟩
        have ES := box es
        have BB := box bb0
        have HV := box hV
        have V1 := box v1
        have HT := box ht
        have T64 := box v2
        have ej : (((j + 1 : Nat) : Int) - 1) = (j : Int) := by omega
        rw [ej]
        have hji : (j : Int) < (N : Int) := by omega
        have n8 : IntKind.i64.wrap ((j : Int) - 1) = (j : Int) - 1 := wrap_i64_is _ (by omega) (by omega)
        have k1 : IntKind.i64.wrap ((j : Int) + ((m : Int) + 1)) = (j : Int) + ((m : Int) + 1) := wrap_i64_is _ (by omega) (by omega)
        have k2 : IntKind.i64.wrap ((j : Int) + ((m : Int) + 1) + 1) = (j : Int) + ((m : Int) + 1) + 1 := wrap_i64_is _ (by omega) (by omega)
        clear E1 E2 E3 hV v1 v2 v3 ht x3 es q3 bb0 ej
        go_wp2_with fail
        rw [show j + (m + 1) + 1 - j = m + 2 by omega]
        refine (l_digit wr g j m (L + 1 - j) (L + 1) X 66 r5 hfit y yd (b * 2 ^ n) w2.heap.size s5 hg (by omega) V HV.out V1.out BB.out t HT.out).mono ?_
        rintro e w6 ⟨rfl, r6, o6⟩
        have q6 := o6.row (show h ≠ g by omega) q5
        have s6 := s5.only o6 hg
        have c6 : Below w1.heap.size w1 w6 := o6.toBelow c5 (by omega) c5.size
        have c7 : w6.cell? ⟨h, j, none⟩ = some (.int .u64 (wd q' j : Nat)) := by rw [cell_of_row w6 h j _ _ _ q6, cw_at N q' j hjN]
        have f7 := fz (k := j) q6
        have RS : Box ((w6.setCell ⟨h, j, none⟩ (.int .u64 (t : Int))).heap[h]? = some (.cells (cw N (q' + 2 ^ (64 * j) * t)) 66)) := box (by rw [setCell_row q6, cw_set N q' j t hjN T64.out, ES.out])
        have RG : Box ((w6.setCell ⟨h, j, none⟩ (.int .u64 (t : Int))).heap[g]? = some (.cells (cw (L + 1) (putw X j (m + 2) (V % (b * 2 ^ n)))) 66)) := box (by rw [setCell_other (show h ≠ g by omega)]; exact r6)
        have SS : Box (SL w2.heap.size (w6.setCell ⟨h, j, none⟩ (.int .u64 (t : Int))) y (m + 1) yd (b * 2 ^ n)) := box (s6.only ((Only.refl h w6).setCell _) h2)
        have CS : Box (Below w1.heap.size w1 (w6.setCell ⟨h, j, none⟩ (.int .u64 (t : Int)))) := box (c6.setCell (by show w1.heap.size ≤ h; omega) _)
        clear r5 q5 s5 c5 r6 o6 q6 s6 c6
        go_wp2
        go_roundw
        case rel => exact ⟨j, _, _, by omega, by first | rfl | go_num, RG.out, RS.out, SS.out, CS.out, NE⟩
        case measure => simp [intOf]
end Go.Proofs.YtknkkagapcigfaaDoor
