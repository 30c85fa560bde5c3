/-
  What the function into of the document's answer for layer 2 does to a row of words, and what its function Mul returns.
-/
import Derived.Test.YtflfgchnlcnibaaWord3
import Derived.Test.YtflfgchnlcnibaaMmath2
import Derived.Deep.OwnRows
import Derived.Test.YtflfgchnlcnibaaRwide1
import Derived.Test.YtflfgchnlcnibaaWide7
namespace Go.Proofs.Ytflfgchnlcnibaa
open Go.RowKit WMath

theorem cw_cell {w : World} {b L n : Nat} {t : TypeId} (h : w.heap[b]? = some (.cells (cw L n) t)) (o : Nat) (ho : o < L) : w.cell? ⟨b, o, none⟩ = some (.int .u64 (wd n o : Nat)) := by
  rw [cell_of_row w b o _ _ _ h, cw_at L n o ho]

/-- A word and a carry added at a place. -/
theorem into_first (L p x s : Nat) (o : Bool) (hx : x < 18446744073709551616) (hs : (wd L p + x + false.toNat) % 18446744073709551616 = s) (ho : decide (18446744073709551616 ≤ wd L p + x + false.toNat) = o) :
    setw L p s + 2 ^ (64 * (p + 1)) * o.toNat = L + 2 ^ (64 * p) * x := by
  have h1 := setw_add L p s
  have h2 := (carry_num (wd L p) x s false o (wd_lt _ _) hx hs ho).1
  have h3 := congrArg (fun t => 2 ^ (64 * p) * t) h2
  simp only [Nat.mul_add, Bool.toNat_false, Nat.add_zero] at h3
  rw [pow64, Nat.mul_assoc]
  omega
theorem into_next (L p T : Nat) (h : L + 2 ^ (64 * p) * true.toNat = T) :
    setw L p ((wd L p + 1) % 18446744073709551616) + 2 ^ (64 * (p + 1)) * (decide ((wd L p + 1) % 18446744073709551616 = 0)).toNat = T := by
  have h1 := setw_add L p ((wd L p + 1) % 18446744073709551616)
  have h2 := wd_lt L p
  have h3 : (wd L p + 1) % 18446744073709551616 + 18446744073709551616 * (decide ((wd L p + 1) % 18446744073709551616 = 0)).toNat = wd L p + 1 := by
    by_cases e : wd L p + 1 = 18446744073709551616
    · rw [e]; decide
    · rw [Nat.mod_eq_of_lt (by omega), decide_eq_false (by omega)]; rfl
  have h4 := congrArg (fun t => 2 ^ (64 * p) * t) h3
  simp only [Nat.mul_add, Nat.mul_one] at h4
  rw [Bool.toNat_true, Nat.mul_one] at h
  rw [pow64, Nat.mul_assoc]
  omega

set_option maxRecDepth 100000 in
set_option maxHeartbeats 1000000 in
theorem into_any (g L p x T : Nat) (t : TypeId) (hp : p < 13) (hx : x < 18446744073709551616) (hT : L + 2 ^ (64 * p) * x = T) (hb : T < 2 ^ (64 * 13)) (w : World) (hg : w.heap[g]? = some (.cells (cw 13 L) t)) :
    Calls Try.prog 45 #[.slice (some ⟨g, 0, none⟩) 13 13, .int .i64 p, .int .u64 x] w fun e w' => e = .returned (.slice (some ⟨g, 0, none⟩) 13 13) ∧ Below g w w' ∧ w'.heap.size = w.heap.size ∧ w'.heap[g]? = some (.cells (cw 13 T) t) ∧ (∀ b, b ≠ g → w'.heap[b]? = w.heap[b]?) := by
  obtain ⟨s, hs⟩ : ∃ s, (wd L p + x + false.toNat) % 18446744073709551616 = s := ⟨_, rfl⟩
  obtain ⟨o, ho⟩ : ∃ o, decide (18446744073709551616 ≤ wd L p + x + false.toNat) = o := ⟨_, rfl⟩
  have F1 := box (into_first L p x s o hx hs ho)
  have bs : s < 18446744073709551616 := by rw [← hs]; exact Nat.mod_lt _ (by decide)
  have HS := box hs
  have HO := box ho
  have HT := box hT
  have HB := box hb
  clear hs ho hT hb
  have c0 := cw_cell hg p hp
  have f0 := fz (k := p) hg
  have hpi : (p : Int) < 13 := by omega
  go_enter Try.func45, Try.ntmps45
  go_wp2_with fail
  refine (radd_is (wd L p) x false s o (wd_lt _ _) hx HS.out HO.out _).mono ?_
  rintro e w9 ⟨rfl, rfl⟩
  go_wp2
  go_loopw [8, 9] (fun cv iv wr => ∃ (q M : Nat) (C : Bool), q ≤ 13 ∧ iv = .int .i64 q ∧ cv = .bool C ∧ wr.heap[g]? = some (.cells (cw 13 M) t) ∧ Below g w9 wr ∧ wr.heap.size = w9.heap.size ∧ (∀ b, b ≠ g → wr.heap[b]? = w9.heap[b]?) ∧ Box (M + 2 ^ (64 * q) * C.toNat = T)) (fun _ iv _ => 13 - (intOf iv).toNat)
  case atStart =>
    refine ⟨p + 1, setw L p s, o, by omega, by go_num, rfl, ?_, (Below.refl _ _).setCell (by show g ≤ g; omega) _, by simp [World.setCell], fun b hb => setCell_other (fun e => hb e.symm), box (by rw [F1.out, HT.out])⟩
    rw [setCell_row hg, cw_set 13 L p s hp bs]
  case round =>
    obtain ⟨q, M, C, hq, rfl, rfl, rg, hbw, hsz, hoth, HE⟩ := hrel
    cases C with
    | false =>
      go_wp2
      go_ret
      have e : M = T := by simpa using HE.out
      subst e
      exact ⟨rfl, hbw, hsz, rg, hoth⟩
    | true =>
      by_cases hlt : q < 13
      · have hqi : (q : Int) < 13 := by omega
        have hqd : decide ((q : Int) < 13) = true := by simp; omega
        have NX := box (into_next M q T HE.out)
        obtain ⟨y, hy⟩ : ∃ y, (wd M q + 1) % 18446744073709551616 = y := ⟨_, rfl⟩
        rw [hy] at NX
        have by64 : y < 18446744073709551616 := by rw [← hy]; exact Nat.mod_lt _ (by decide)
        have hyw : IntKind.u64.wrap ((wd M q : Int) + 1) = (y : Int) := by rw [IntKind.wrap_u64, ← hy]; simp
        have c1 := cw_cell rg q hlt
        have f1 := fz (k := q) rg
        have z := setCell_row (k := q) (v := .int .u64 (y : Int)) rg
        rw [cw_set 13 M q y hlt by64] at z
        have z1 := cw_cell z q hlt
        rw [wd_setw _ _ _ _ by64, if_pos rfl] at z1
        have HY := box hy
        clear hy
        by_cases h0 : y = 0
        · have hb0 : ((y : Int) == 0) = true := by rw [h0]; rfl
          have N2 : Box (setw M q y + 2 ^ (64 * (q + 1)) * true.toNat = T) := box (by have := NX.out; rw [decide_eq_true h0] at this; exact this)
          clear h0
          go_wp2
          go_roundw
          case rel => exact ⟨q + 1, setw M q y, true, by omega, by go_num, rfl, z, hbw.setCell (by show g ≤ g; omega) _, by simpa [World.setCell] using hsz, fun b hb => (setCell_other (fun e => hb e.symm)).trans (hoth b hb), N2⟩
          case measure => simp [intOf] <;> omega
        · have hb0 : ((y : Int) == 0) = false := by simp; omega
          have N2 : Box (setw M q y + 2 ^ (64 * (q + 1)) * false.toNat = T) := box (by have := NX.out; rw [decide_eq_false h0] at this; exact this)
          clear h0
          go_wp2
          go_roundw
          case rel => exact ⟨q + 1, setw M q y, false, by omega, by go_num, rfl, z, hbw.setCell (by show g ≤ g; omega) _, by simpa [World.setCell] using hsz, fun b hb => (setCell_other (fun e => hb e.symm)).trans (hoth b hb), N2⟩
          case measure => simp [intOf] <;> omega
      · exfalso
        have h1 := HE.out
        have h2 := HB.out
        obtain ⟨K, hK⟩ : ∃ K : Nat, K = 13 := ⟨13, rfl⟩
        rw [show q = K by omega, Bool.toNat_true, Nat.mul_one] at h1
        rw [← hK] at h2
        omega

theorem nz_f {x : Nat} (h : x = 0) : (((x : Nat) : Int) != 0) = false := by subst h; rfl
theorem nz_t {x : Nat} (h : ¬ x = 0) : (((x : Nat) : Int) != 0) = true := by simp; omega
theorem mod_big (n k : Nat) (hn : n < Q) (h : 6 ≤ k) : n % 2 ^ (64 * k) = n := by
  obtain ⟨L, hL, hQ⟩ := Q_of
  exact Nat.mod_eq_of_lt (Nat.lt_of_lt_of_le hn (by rw [hQ]; exact Nat.pow_le_pow_right (by decide) (by omega)))

theorem rmul_is (x y h l : Nat) (hx : x < 18446744073709551616) (hy : y < 18446744073709551616) (hh : x * y / 18446744073709551616 = h) (hl : x * y % 18446744073709551616 = l) (w : World) :
    Calls Try.prog 44 #[.int .u64 x, .int .u64 y] w fun e w' => e = .returned (.tuple #[.int .u64 (h : Nat), .int .u64 (l : Nat)]) ∧ w' = w := by
  subst hh; subst hl; exact rmul_any x y hx hy w

theorem cw_made (L : Nat) : madeCells #[.int .u64 0] L = cw L 0 := by
  apply Array.ext_getElem?
  intro i
  by_cases h : i < L
  · rw [cw_at L 0 i h, wd_zero]
    simp [madeCells, h, Nat.mod_one]
  · rw [Array.getElem?_eq_none (by rw [size_madeCells]; omega), Array.getElem?_eq_none (by rw [cw_size]; omega)]

/-- The rows that the loops of Mul find: both factors, the result's cells, the words so far. -/
def MulRows (w wr : World) (n m L : Nat) : Prop :=
  wr.heap[w.heap.size]? = some (.cells (cw 6 n) 24) ∧ wr.heap[w.heap.size + 1]? = some (.cells (cw 6 m) 24) ∧ wr.heap[w.heap.size + 1 + 1]? = some (.cells (cw 6 0) 24) ∧ wr.heap[w.heap.size + 1 + 1 + 1]? = some (.cells (cw 13 L) 22) ∧ Below w.heap.size w wr

theorem mulRows_step {w wr w2 : World} {n m L T : Nat} (h : MulRows w wr n m L) (h1 : Below (w.heap.size + 1 + 1 + 1) wr w2) (h2 : w2.heap[w.heap.size + 1 + 1 + 1]? = some (.cells (cw 13 T) 22)) : MulRows w w2 n m T := by
  obtain ⟨a, b, c, d, e⟩ := h
  exact ⟨by rw [h1.block _ (by omega)]; exact a, by rw [h1.block _ (by omega)]; exact b, by rw [h1.block _ (by omega)]; exact c, h2, e.trans (h1.mono (by omega))⟩

set_option maxRecDepth 100000 in
set_option maxHeartbeats 2000000 in
theorem rwmul_is (n m v : Nat) (o : Bool) (hn : n < Q) (hm : m < Q) (hv : n * m % Q = v) (ho : decide (Q ≤ n * m) = o) (w : World) :
    Calls Try.prog 32 #[.agg (cw 6 n), .agg (cw 6 m)] w fun e w' => e = .returned (.tuple #[.agg (cw 6 v), .bool o]) ∧ Below w.heap.size w w' := by
  have HV := box hv
  have HW := box ho
  clear hv ho
  have hat := cw_at 6
  have hz := cw6z
  have hf := cw6f
  have hmk : ∀ w, (Instr.makeSlice 57 (.int .i64 13) (.int .i64 13)).run Try.prog w = .ok (.slice (some ⟨w.heap.size, 0, none⟩) 13 13) (w.alloc (.cells (cw 13 0) 22)) := fun w => by
    rw [← cw_made]
    exact run_make_row' (P := Try.prog) 57 22 (.int .u64 0) 8 Try.underlying57 (by kernel_rfl) rfl .i64 .i64 13 (by omega) (by omega) w
  go_enter Try.func32, Try.ntmps32
  go_wp2
  go_loopw [6, 7] (fun lv iv wr => ∃ i L : Nat, i ≤ 6 ∧ iv = .int .i64 i ∧ lv = .slice (some ⟨w.heap.size + 1 + 1 + 1, 0, none⟩) 13 13 ∧ MulRows w wr n m L ∧ Box (L = acc n m i 0)) (fun _ iv _ => 6 - (intOf iv).toNat)
  case atStart =>
    refine ⟨0, 0, by omega, rfl, rfl, ⟨?_, ?_, ?_, ?_, ?_⟩, box (acc_zero n m).symm⟩
    · rw [heap_below _ _ _ (by simp only [size_al]; omega), heap_below _ _ _ (by simp only [size_al]; omega), heap_below _ _ _ (by simp only [size_al]; omega)]
      exact heap_alloc_last _ _
    · rw [heap_below _ _ _ (by simp only [size_al]; omega), heap_below _ _ _ (by simp only [size_al]; omega)]
      have := heap_alloc_last (w.alloc (.cells (cw 6 n) 24)) (.cells (cw 6 m) 24)
      simpa only [size_al] using this
    · rw [heap_below _ _ _ (by simp only [size_al]; omega)]
      have := heap_alloc_last ((w.alloc (.cells (cw 6 n) 24)).alloc (.cells (cw 6 m) 24)) (.cells (cw 6 0) 24)
      simpa only [size_al] using this
    · have := heap_alloc_last (((w.alloc (.cells (cw 6 n) 24)).alloc (.cells (cw 6 m) 24)).alloc (.cells (cw 6 0) 24)) (.cells (cw 13 0) 22)
      simpa only [size_al] using this
    · exact ((((Below.refl _ _).alloc (Nat.le_refl _) _).alloc (by simp only [size_al]; omega) _).alloc (by simp only [size_al]; omega) _).alloc (by simp only [size_al]; omega) _
  case round =>
    obtain ⟨i, L0, hi, rfl, rfl, MR, HE⟩ := hrel
    by_cases hlt : i < 6
    · have hii : (i : Int) < 6 := by omega
      have hid : decide ((i : Int) < 6) = true := by simp; omega
      go_wp2
      go_loopw [6, 8] (fun lv kv wr => ∃ k L : Nat, k ≤ 6 ∧ kv = .int .i64 k ∧ lv = .slice (some ⟨w.heap.size + 1 + 1 + 1, 0, none⟩) 13 13 ∧ MulRows w wr n m L ∧ Box (L = acc n m i k)) (fun _ kv _ => 6 - (intOf kv).toNat)
      case atStart => exact ⟨0, L0, by omega, rfl, rfl, MR, HE⟩
      case round =>
        obtain ⟨k, L, hk, rfl, rfl, MR2, HK⟩ := hrel
        clear MR
        by_cases hlk : k < 6
        · have hki : (k : Int) < 6 := by omega
          obtain ⟨hi', hhi⟩ : ∃ x, wd n i * wd m k / 18446744073709551616 = x := ⟨_, rfl⟩
          obtain ⟨lo, hlo⟩ : ∃ x, wd n i * wd m k % 18446744073709551616 = x := ⟨_, rfl⟩
          have hsum : lo + 18446744073709551616 * hi' = wd n i * wd m k := by rw [← hlo, ← hhi]; omega
          obtain ⟨p, hp⟩ : ∃ p, p = i + k := ⟨_, rfl⟩
          have hp1 : (i : Int) + (k : Int) = (p : Int) := by omega
          have hp2 : p < 13 := by omega
          obtain ⟨p1, hp1'⟩ : ∃ p1, p1 = p + 1 := ⟨_, rfl⟩
          have hpp : (p : Int) + 1 = (p1 : Int) := by omega
          have hp3 : p1 < 13 := by omega
          obtain ⟨T1, hT1⟩ : ∃ T, L + 2 ^ (64 * p) * lo = T := ⟨_, rfl⟩
          obtain ⟨T2, hT2⟩ : ∃ T, T1 + 2 ^ (64 * p1) * hi' = T := ⟨_, rfl⟩
          have e2 : T2 = acc n m i (k + 1) := by rw [← hT2, ← hT1, hp1']; exact acc_two n m i k p lo hi' L hp HK.out hsum
          have bd2 : Box (T2 < 2 ^ (64 * 13)) := by rw [e2]; exact box (acc_bd n m i (k + 1) 13 rfl hlt hm)
          have bd1 : Box (T1 < 2 ^ (64 * 13)) := box (Nat.lt_of_le_of_lt (by rw [← hT2]; exact Nat.le_add_right _ _) bd2.out)
          have blo : lo < 18446744073709551616 := by rw [← hlo]; exact Nat.mod_lt _ (by decide)
          have bhi : hi' < 18446744073709551616 := by
            have := mul_lt128 (wd n i) (wd m k) 0 0 (wd_lt _ _) (wd_lt _ _) (by decide) (by decide)
            rw [← hhi]
            simpa using this
          have E2 := box e2
          have A1 := box hhi
          have A2 := box hlo
          have A3 := box hT1
          have A4 := box hT2
          clear hhi hlo hsum hp hT1 hT2 e2 hp1'
          have ca := row_cell MR2.1 i hlt
          have cb' := row_cell MR2.2.1 k hlk
          go_wp2
          go_quiet ((go_at_call 44; exact (rmul_is _ _ hi' lo (wd_lt _ _) (wd_lt _ _) A1.out A2.out _).mono (fun _ _ h => ⟨h.1, _, h.2⟩)))
          go_wp2_with fail
          refine (into_any (w.heap.size + 1 + 1 + 1) L p lo T1 22 hp2 blo A3.out bd1.out (wr.drewN nq) MR2.2.2.2.1).mono ?_
          rintro e w2 ⟨rfl, hb2, hs2, hg2, _⟩
          have MR3 : MulRows w w2 n m T1 := mulRows_step MR2 ⟨hb2.os, hb2.tape, hb2.output, hb2.size, hb2.block⟩ hg2
          clear MR2 hb2 hs2 hg2 ca cb'
          go_wp2_with fail
          refine (into_any (w.heap.size + 1 + 1 + 1) T1 p1 hi' T2 22 hp3 bhi A4.out bd2.out _ MR3.2.2.2.1).mono ?_
          rintro e w3 ⟨rfl, hb3, hs3, hg3, _⟩
          have MR4 : MulRows w w3 n m T2 := mulRows_step MR3 hb3 hg3
          clear MR3 hb3 hs3 hg3
          go_wp2
          go_roundw
          case rel => exact ⟨k + 1, T2, by omega, by go_num, rfl, MR4, E2⟩
          case measure => simp [intOf] <;> omega
        · have R := box (acc_row n m i k (by omega) hm)
          go_wp2
          go_roundw
          case rel => exact ⟨i + 1, L, by omega, by go_num, rfl, MR2, box (by rw [HK.out, R.out])⟩
          case measure => simp [intOf] <;> omega
    · obtain ⟨wq, rfl⟩ : ∃ wq, wq = wr := ⟨_, rfl⟩
      have e0 := HE.out
      rw [acc_end n m i (by omega) hn] at e0
      obtain ⟨r0, r1, r2, r3, hbw⟩ := MR
      have hS := hbw.size
      have s3 : w.heap.size + 1 + 1 + 1 < wq.heap.size := (Array.getElem?_eq_some_iff.1 r3).1
      have HX := box e0
      clear e0 HE
      go_wp2
      go_loopw [12, 13] (fun ov kv wx => ∃ (k P : Nat) (O : Bool), k ≤ 13 ∧ kv = .int .i64 k ∧ ov = .bool O ∧ wx.heap[wq.heap.size]? = some (.cells (cw 6 P) 24) ∧ wx.heap[w.heap.size + 1 + 1 + 1]? = some (.cells (cw 13 L0) 22) ∧ wx.heap[w.heap.size + 1 + 1]? = some (.cells (cw 6 0) 24) ∧ Below w.heap.size w wx ∧ Box (P = L0 % 2 ^ (64 * min k 6)) ∧ Box (O = decide (Q ≤ L0 % 2 ^ (64 * k)))) (fun _ kv _ => 13 - (intOf kv).toNat)
      case atStart =>
        refine ⟨0, 0, false, by omega, rfl, rfl, heap_alloc_last _ _, by rw [heap_below _ _ _ s3]; exact r3, by rw [heap_below _ _ _ (by omega)]; exact r2, hbw.alloc hS _, box (by simp [Nat.mod_one]), box ?_⟩
        rw [decide_eq_false (over_low L0 0 (by omega))]
      case round =>
        obtain ⟨k, P, O, hk, rfl, rfl, z0, z1, z2, bz, HP, HO⟩ := hrel
        clear r0 r1 r2 r3 hbw
        by_cases hlk : k < 13
        · have hk13 : (k : Int) < 13 := by omega
          have c1 := cw_cell z1 k hlk
          by_cases h6 : k < 6
          · have h6i : (k : Int) < 6 := by omega
            have c0 := row_cell z0 k h6
            have f0 := fz (k := k) z0
            have zz := setCell_row (k := k) (v := .int .u64 (wd L0 k : Nat)) z0
            have hPk : P = L0 % 2 ^ (64 * k) := by rw [HP.out, Nat.min_eq_left (by omega)]
            rw [cw_push 6 P k (wd L0 k) _ h6 (by rw [hPk]; exact Nat.mod_lt _ (Nat.two_pow_pos _)) (wd_lt _ _) rfl] at zz
            have HPk := box hPk
            clear hPk
            go_wp2
            go_roundw
            case rel => exact ⟨k + 1, P + 2 ^ (64 * k) * wd L0 k, O, by omega, by go_num, rfl, zz, by rw [setCell_other (by omega)]; exact z1, by rw [setCell_other (by omega)]; exact z2, bz.setCell (by show w.heap.size ≤ wq.heap.size; omega) _, box (by rw [Nat.min_eq_left (by omega), mod_wd, HPk.out]), box (by rw [HO.out, decide_eq_false (over_low L0 k (by omega)), decide_eq_false (over_low L0 (k + 1) (by omega))])⟩
            case measure => simp [intOf] <;> omega
          · have h6i : ¬ (k : Int) < 6 := by omega
            have OH := box (over_high L0 k (by omega))
            cases O with
            | true =>
              go_wp2
              go_roundw
              case rel => exact ⟨k + 1, P, true, by omega, by go_num, rfl, z0, z1, z2, bz, box (by rw [HP.out, Nat.min_eq_right (by omega), Nat.min_eq_right (by omega)]), box (by rw [decide_eq_true (OH.out.2 (Or.inl (of_decide_eq_true HO.out.symm)))])⟩
              case measure => simp [intOf] <;> omega
            | false =>
              have hno := of_decide_eq_false HO.out.symm
              by_cases hw0 : wd L0 k = 0
              · have y := nz_f hw0
                have HF : Box (¬ Q ≤ L0 % 2 ^ (64 * (k + 1))) := box (fun h => by rcases OH.out.1 h with h | h; exact hno h; exact h hw0)
                clear hw0 hno
                go_wp2
                go_roundw
                case rel => exact ⟨k + 1, P, false, by omega, by go_num, rfl, z0, z1, z2, bz, box (by rw [HP.out, Nat.min_eq_right (by omega), Nat.min_eq_right (by omega)]), box (by rw [decide_eq_false HF.out])⟩
                case measure => simp [intOf] <;> omega
              · have y := nz_t hw0
                have HF : Box (Q ≤ L0 % 2 ^ (64 * (k + 1))) := box (OH.out.2 (Or.inr hw0))
                clear hw0 hno
                go_wp2
                go_roundw
                case rel => exact ⟨k + 1, P, true, by omega, by go_num, rfl, z0, z1, z2, bz, box (by rw [HP.out, Nat.min_eq_right (by omega), Nat.min_eq_right (by omega)]), box (by rw [decide_eq_true HF.out])⟩
                case measure => simp [intOf] <;> omega
        · have hLb : L0 < 2 ^ (64 * k) := by
            rw [HX.out]
            have := mul_bd n m (6 + 1) hm
            have h1 := mul_bd n m 7 hm
            have e1 : n % 2 ^ (64 * 7) = n := mod_big n 7 hn (by omega)
            rw [e1] at h1
            rw [show k = 7 + 6 by omega]
            exact h1
          have eP : P = v := by
            rw [HP.out, pwQ (min k 6) (by omega), HX.out, HV.out]
          have eO : O = o := by
            rw [HO.out, Nat.mod_eq_of_lt hLb, HX.out, HW.out]
          clear hLb
          subst eP
          subst eO
          have cP := row_cell z0
          have hst := st_any wr _ P 0 z2
          have y2 : (wr.setRow (w.heap.size + 1 + 1) (cw 6 P)).heap[w.heap.size + 1 + 1]? = some (.cells (cw 6 P) 24) := setRow_row z2
          have c3 := row_cell y2
          go_wp2
          exact bodyPost_ret (v := .tuple #[.agg (cw 6 P), .bool O]) (by simp [results, Try.results32, go_sem, c3, hf]) rfl ⟨rfl, Below.setRow bz (by omega)⟩
end Go.Proofs.Ytflfgchnlcnibaa
