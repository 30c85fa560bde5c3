/-
  What the functions that the statement reaches return: part 3 (CD, CE, CC, CF, CG, CH, CI, CJ, CK, CL).
-/
import Derived.Deep.MidRow
import Derived.Test.YtjbnifhpbdjonaaDoorRb02
namespace Go.Proofs.YtjbnifhpbdjonaaDoor
set_option maxRecDepth 100000
set_option maxHeartbeats 40000000
set_option maxRecDepth 100000
open Go.RowKit WMath
set_option linter.unusedSimpArgs false
set_option linter.unusedVariables false
def inR (n : Int) : Bool := decide (0 ≤ n) && decide (n < 32)
def prN (R : Nat → Nat) (k : Nat) : Nat := R (32 + k * 2 + 1) + 18446744073709551616 * R (32 + k * 2)
def xV (R : Nat → Nat) (n : Int) : Nat × Int := if inR n = true then (R n.toNat, 0) else (0, 2)
def sxV (R : Nat → Nat) (n : Int) (v : Nat) : (Nat → Nat) × Int := if inR n = true then (if n = 0 then R else up R n.toNat v, 0) else (R, 2)
def fV (R : Nat → Nat) (n : Int) : Nat × Nat × Int := if inR n = true then (R (32 + n.toNat * 2), R (32 + n.toNat * 2 + 1), 0) else (0, 0, 2)
def sfV (R : Nat → Nat) (n : Int) (u v : Nat) : (Nat → Nat) × Int := if inR n = true then (up (up R (32 + n.toNat * 2) u) (32 + n.toNat * 2 + 1) v, 0) else (R, 2)
def gtV (R : Nat → Nat) (f n : Int) : Nat × Nat × Int := if (inR n && decide (f ≤ 3)) = true then ((bv7 (ubN f (prN R n.toNat))).1, (bv7 (ubN f (prN R n.toNat))).2, 0) else (0, 0, 2)
def lwV (R : Nat → Nat) (f n : Int) : Nat × Nat × Int := if (inR n && decide (f ≤ 3)) = true then ((bv7 (prN R n.toNat % 2 ^ wdF f)).1, (bv7 (prN R n.toNat % 2 ^ wdF f)).2, 0) else (0, 0, 2)
def ptV (R : Nat → Nat) (f n : Int) (u v : Nat) : (Nat → Nat) × Int := if (inR n && fitN f (v + 18446744073709551616 * u)) = true then (up (up R (32 + n.toNat * 2) (bv7 (v + 18446744073709551616 * u + abN f)).1) (32 + n.toNat * 2 + 1) (bv7 (v + 18446744073709551616 * u + abN f)).2, 0) else (R, 2)
theorem inR_nat {n : Int} (h : inR n = true) : ∃ k : Nat, k < 32 ∧ n = (k : Int) ∧ n.toNat = k := by
  unfold inR at h
  rw [Bool.and_eq_true, decide_eq_true_iff, decide_eq_true_iff] at h
  exact ⟨n.toNat, by omega, by omega, rfl⟩
def Bnd (R : Nat → Nat) : Prop := (∀ k, R k < 18446744073709551616) ∧ R 0 = 0
theorem bnd_up {R : Nat → Nat} (h : Bnd R) {k v : Nat} (hk : k ≠ 0) (hv : v < 18446744073709551616) : Bnd (up R k v) := ⟨up_lt h.1 hv, by unfold up; rw [if_neg (by omega)]; exact h.2⟩
def ChOk (l : List Chg) : Prop := ∀ c ∈ l, c.wd < 18446744073709551616 ∧ c.hi < 18446744073709551616 ∧ c.lo < 18446744073709551616
theorem bv7_lt {N u v : Nat} (hN : N < 340282366920938463463374607431768211456) (h : bv7 N = (u, v)) : u < 18446744073709551616 ∧ v < 18446744073709551616 := by
  unfold bv7 at h
  cases h
  omega
theorem bnd_pt {R : Nat → Nat} (h : Bnd R) (f n : Int) {u v : Nat} (hu : u < 18446744073709551616) (hv : v < 18446744073709551616) : Bnd (ptV R f n u v).1 := by
  unfold ptV
  split
  · rename_i q
    rw [Bool.and_eq_true] at q
    have fit := (of_decide_eq_true q.2).2
    have W := wdF_le f
    have e : v + 18446744073709551616 * u + abN f < 340282366920938463463374607431768211456 := by
      have : 2 ^ wdF f ≤ 2 ^ 128 := Nat.pow_le_pow_right (by decide) W
      rw [show (2 : Nat) ^ 128 = 340282366920938463463374607431768211456 from rfl] at this
      unfold abN
      rw [show (2 : Nat) ^ 128 = 340282366920938463463374607431768211456 from rfl]
      omega
    have b := bv7_lt e (show bv7 _ = (_, _) from rfl)
    exact bnd_up (bnd_up h (by omega) b.1) (by omega) b.2
  · exact h
theorem bnd_ap {R : Nat → Nat} (h : Bnd R) {c : Chg} (hc : c.wd < 18446744073709551616 ∧ c.hi < 18446744073709551616 ∧ c.lo < 18446744073709551616) (ok : okC c = true) : Bnd (apC R c) := by
  have n0 : 0 ≤ c.n := by simp [okC] at ok; omega
  unfold apC
  split
  · exact bnd_up (bnd_up h (by omega) hc.2.1) (by omega) hc.2.2
  · split
    · exact h
    · exact bnd_up h (by omega) hc.1
theorem bnd_fold : ∀ (l : List Chg) (R : Nat → Nat), Bnd R → ChOk l → l.all okC = true → Bnd (l.foldl apC R)
  | [], _, h, _, _ => h
  | c :: l, R, h, hc, ho => bnd_fold l _ (bnd_ap h (hc c (by simp)) (List.all_eq_true.1 ho c (by simp))) (fun d hd => hc d (by simp [hd])) (List.all_eq_true.2 fun d hd => List.all_eq_true.1 ho d (by simp [hd]))
theorem bnd_ch {R : Nat → Nat} (h : Bnd R) {l : List Chg} (hl : ChOk l) : Bnd (chgR R l).1 := by
  unfold chgR
  split
  · rename_i q
    exact bnd_fold l R h hl q
  · exact h
def CLt (w : World) (b : Nat) (sv : Value) (l : List Chg) : Prop := (sv = .slice none 0 0 ∧ l = []) ∨ ∃ (ad : Addr) (L cv : Nat), sv = .slice (some ad) L cv ∧ l.length = L ∧ L ≤ cv ∧ (L = 0 ∨ (ad.spot = none ∧ ad.block < w.heap.size)) ∧ Box (∀ W, Only b w W → ∀ j u, (chsC l)[j]? = some u → W.cell? (ad.add j) = some u)
theorem CLt.cs {w : World} {b : Nat} {sv : Value} {l : List Chg} (h : CLt w b sv l) : ∀ W, Below w.heap.size w W → CS W sv l := by
  intro W bW
  rcases h with ⟨rfl, rfl⟩ | ⟨ad, L, cv, rfl, hl, hc, hs, HC⟩
  · exact ⟨none, 0, rfl, fun h => absurd rfl h⟩
  · refine ⟨some ad, cv, by rw [hl], fun hne => ?_⟩
    have hL : L ≠ 0 := fun z => hne (List.length_eq_zero_iff.1 (hl.trans z))
    obtain ⟨hsp, hbl⟩ := hs.resolve_left hL
    obtain ⟨g, z, sp⟩ := ad
    obtain rfl : sp = none := hsp
    refine ⟨g, z, rfl, Nat.lt_of_lt_of_le hbl bW.size, fun j u hj => ?_⟩
    have := HC.out W (Only.ofBelow bW (Nat.le_refl _)) j u hj
    rw [show (⟨g, z, none⟩ : Addr).add j = ⟨g, z + j, none⟩ from by unfold Addr.add; split <;> simp_all] at this
    exact this
structure Stp where
  how : Int
  on : Int
  n : Int
  X : Nat
  u : Nat
  v : Nat
  fm : Int
  sv : Value
def stA (s : Stp) : Array Value := #[.int .i64 s.how, .int .i64 s.on, .int .i64 s.n, .int .u64 (s.X : Nat), .int .u64 (s.u : Nat), .int .u64 (s.v : Nat), .int .u8 s.fm, s.sv]
theorem quiet_ld {P : Program} {F : World → World} {o : Oper} {a : Act} {K : Act → Prop} (ty : TypeId) (x : Operand) (h : o.op = .load ty x) (b off : Nat) (hx : a.eval x = .pointer (some ⟨b, off, none⟩)) (cs : List Value) (d : TypeDesc) (hc : ∀ u, (F u).rangeAt b off cs) (hu : P.underlying ty = some d) (hd : d.isRow = true) (hi : (P.info? ty).map (·.size) = some cs.length) (hk : K (a.put o.dst (.agg cs.toArray))) : o.quiet P a (fun w' => ∃ u, w' = F u) K :=
  ⟨_, fun w hw => by
    obtain ⟨u, rfl⟩ := hw
    unfold Oper.quietAt execOp
    simp only [h, hx, Instr.loadAt, Instr.sureAddr, Sem.run_bind, Sem.run_pure, Result.andThen_ok, run_loadVar_mid (F u) b off ty cs d (hc u) hu hd hi]
    exact ⟨rfl, rfl⟩, hk⟩
theorem only_cell {b g k : Nat} {w w' : World} {v : Value} (o : Only b w w') (hb : g ≠ b) (hg : g < w.heap.size) (h : w.cell? ⟨g, k, none⟩ = some v) : w'.cell? ⟨g, k, none⟩ = some v := by
  have e := o.2.2.2.2 g hg hb
  unfold World.cell? at h ⊢
  rw [e]
  exact h
theorem chgs_len (R S : Nat → Nat) : (chgs R S).length ≤ 64 := by
  unfold chgs
  rw [List.length_append]
  have := cxK_len R S 32
  have := cfK_len R S 32
  omega
theorem own_cs {w : World} {b : Nat} {v : Value} {l : List Chg} (h : w.ownsRow b 50 5 v l.length (chsC l)) : CS w v l := by
  obtain ⟨_, ⟨h0, h1⟩ | ⟨gi, ci, cur, rfl, hb, row, hc, _, hsz, ht⟩⟩ := h
  · exact ⟨none, 0, by rw [h0, h1], fun hne => absurd (List.length_eq_zero_iff.1 h1) hne⟩
  · refine ⟨_, ci, rfl, fun _ => ⟨gi, 0, rfl, (Array.getElem?_eq_some_iff.1 row).1, fun j u hj => ?_⟩⟩
    have hl : j < l.length * 5 := by rw [← chsC_len]; exact (List.getElem?_eq_some_iff.1 hj).1
    rw [Nat.zero_add]
    refine (cell_of_row w gi j _ _ _ row).trans ?_
    rw [← ht, List.getElem?_take_of_lt hl] at hj
    rw [← Array.getElem?_toList]
    exact hj
theorem bnd_up0 {R : Nat → Nat} (h : ∀ k, R k < 18446744073709551616) : Bnd (up R 0 0) := ⟨up_lt h (by decide), by unfold up; rw [if_pos rfl]⟩
theorem bnd_zero : Bnd (fun _ => 0) := ⟨fun _ => (by decide : (0 : Nat) < 18446744073709551616), rfl⟩
set_option maxRecDepth 100000 in
set_option maxHeartbeats 8000000 in
theorem lives23 {T : World → Prop} (FB : Box (∀ {w w' : World}, T w → Below w.heap.size w w' → T w')) (rg : (Nat → Nat) → Array Value) (tg : TypeId) (PX : Box (∀ (R : Nat → Nat) (b : Nat) (n : Int) w, Bnd R → T w → w.heap[b]? = some (.cells (rg R) tg) → Calls Tryd.prog 20 #[.pointer (some ⟨b, 0, none⟩), .int .i64 n] w fun r w' => r = .returned (.tuple #[.int .u64 ((xV R n).1 : Nat), .int .i64 (xV R n).2]) ∧ Below w.heap.size w w')) (PF : Box (∀ (R : Nat → Nat) (b : Nat) (n : Int) w, Bnd R → T w → w.heap[b]? = some (.cells (rg R) tg) → Calls Tryd.prog 21 #[.pointer (some ⟨b, 0, none⟩), .int .i64 n] w fun r w' => r = .returned (.tuple #[.agg #[.int .u64 ((fV R n).1 : Nat), .int .u64 ((fV R n).2.1 : Nat)], .int .i64 (fV R n).2.2]) ∧ Below w.heap.size w w')) (PSX : Box (∀ (R : Nat → Nat) (b : Nat) (n : Int) (x : Nat) w, Bnd R → x < 18446744073709551616 → T w → w.heap[b]? = some (.cells (rg R) tg) → Calls Tryd.prog 25 #[.pointer (some ⟨b, 0, none⟩), .int .i64 n, .int .u64 (x : Nat)] w fun r w' => r = .returned (.int .i64 (sxV R n x).2) ∧ w'.heap[b]? = some (.cells (rg (sxV R n x).1) tg) ∧ Only b w w')) (PP : Box (∀ (R : Nat → Nat) (b : Nat) (f n : Int) (u v : Nat) w, Bnd R → 0 ≤ f → f ≤ 255 → u < 18446744073709551616 → v < 18446744073709551616 → T w → w.heap[b]? = some (.cells (rg R) tg) → Calls Tryd.prog 27 #[.pointer (some ⟨b, 0, none⟩), .int .u8 f, .int .i64 n, .agg #[.int .u64 (u : Nat), .int .u64 (v : Nat)]] w fun r w' => r = .returned (.int .i64 (ptV R f n u v).2) ∧ w'.heap[b]? = some (.cells (rg (ptV R f n u v).1) tg) ∧ Only b w w'))
    (PN : Box (∀ w, T w → Calls Tryd.prog 24 #[] w fun r w' => ∃ b, r = .returned (.pointer (some ⟨b, 0, none⟩)) ∧ w.heap.size ≤ b ∧ w'.heap[b]? = some (.cells (rg fun _ => 0) tg) ∧ Below w.heap.size w w'))
    (PM : Box (∀ w, T w → Calls Tryd.prog 18 #[.string ⟨#[102, 51, 49]⟩] w fun r w' => r = .returned (.tuple #[.bool true, .int .i64 31, .int .i64 0]) ∧ Below w.heap.size w w'))
    (w : World) (hT : T w) : Calls Tryd.prog 9 #[] w fun r w' => r = .returned (.bool true) ∧ Below w.heap.size w w' := by
  have FF := box hT
  clear hT
  have a1 : sxV (fun _ => 0) 0 7 = ((fun _ => 0), 0) := rfl
  have a2 : xV (fun _ => 0) 0 = (0, 0) := rfl
  have a3 : sxV (fun _ => 0) 5 7 = ((up (fun _ => 0) 5 7), 0) := rfl
  have a4 : xV (up (fun _ => 0) 5 7) 5 = (7, 0) := rfl
  have a5 : xV (up (fun _ => 0) 5 7) 32 = (0, 2) := rfl
  have a6 : ptV (up (fun _ => 0) 5 7) 2 3 0 15360 = ((up (up (up (fun _ => 0) 5 7) 38 18446744073709551615) 39 18446744073709501440), 0) := by
    have e : bv7 (15360 + 18446744073709551616 * 0 + abN 2) = (18446744073709551615, 18446744073709501440) := by decide +kernel
    have q : (inR 3 && fitN 2 (15360 + 18446744073709551616 * 0)) = true := by decide +kernel
    unfold ptV
    rw [if_pos q, e]
    rfl
  have a7 : fV (up (up (up (fun _ => 0) 5 7) 38 18446744073709551615) 39 18446744073709501440) 3 = (18446744073709551615, 18446744073709501440, 0) := rfl
  have b0 := bnd_zero
  have b1 : Bnd (up (fun _ => 0) 5 7) := bnd_up b0 (by decide) (by decide)
  have b2 : Bnd (up (up (up (fun _ => 0) 5 7) 38 18446744073709551615) 39 18446744073709501440) := bnd_up (bnd_up b1 (by decide) (by decide)) (by decide) (by decide)
  obtain ⟨S1, hS1⟩ : ∃ S, (up (fun _ => 0) 5 7) = S := ⟨_, rfl⟩
  rw [hS1] at a3 a4 a5 a6 a7 b1 b2
  obtain ⟨S2, hS2⟩ : ∃ S, (up (up S1 38 18446744073709551615) 39 18446744073709501440) = S := ⟨_, rfl⟩
  rw [hS2] at a6 a7 b2
  have Q0 := fun b w hT hr => PSX.out (fun _ => 0) b 0 7 w b0 (by decide) hT hr
  have Q1 := fun b w hT hr => PX.out (fun _ => 0) b 0 w b0 hT hr
  have Q2 := fun b w hT hr => PSX.out (fun _ => 0) b 5 7 w b0 (by decide) hT hr
  have Q3 := fun b w hT hr => PX.out S1 b 5 w b1 hT hr
  have Q4 := fun b w hT hr => PX.out S1 b 32 w b1 hT hr
  have Q5 := fun b w hT hr => PP.out S1 b 2 3 0 15360 w b1 (by decide) (by decide) (by decide) (by decide) hT hr
  have Q6 := fun b w hT hr => PF.out S2 b 3 w b2 hT hr
  rw [a1] at Q0
  rw [a2] at Q1
  rw [a3] at Q2
  rw [a4] at Q3
  rw [a5] at Q4
  rw [a6] at Q5
  rw [a7] at Q6
  have QQ := box (And.intro Q0 (And.intro Q1 (And.intro Q2 (And.intro Q3 (And.intro Q4 (And.intro Q5 Q6))))))
  clear Q0 Q1 Q2 Q3 Q4 Q5 Q6 a1 a2 a3 a4 a5 a6 a7 b0 b1 b2 hS1 hS2
  go_enter Tryd.func9, Tryd.ntmps9
  go_wp2_with fail
  refine (PN.out _ FF.out).mono ?_
  rintro r w1 ⟨b, rfl, gb, r1, B1⟩
  have hgb := box gb
  clear gb
  go_wp2_with fail
  refine (QQ.out.1 b _ (FB.out FF.out B1) r1).mono ?_
  rintro r w2 ⟨rfl, r2, o2⟩
  have B2 := Only.toBelow B1 o2 hgb.out B1.size
  clear B1 r1 o2
  go_wp2_with fail
  refine (QQ.out.2.1 b _ (FB.out FF.out B2) r2).mono ?_
  rintro r w3 ⟨rfl, q3⟩
  have B3 := btr B2 q3
  have r3 := heap_of q3 _ _ _ r2
  clear B2 r2 q3
  go_wp2_with fail
  refine (QQ.out.2.2.1 b _ (FB.out FF.out B3) r3).mono ?_
  rintro r w4 ⟨rfl, r4, o4⟩
  have B4 := Only.toBelow B3 o4 hgb.out B3.size
  clear B3 r3 o4
  go_wp2_with fail
  refine (QQ.out.2.2.2.1 b _ (FB.out FF.out B4) r4).mono ?_
  rintro r w5 ⟨rfl, q5⟩
  have B5 := btr B4 q5
  have r5 := heap_of q5 _ _ _ r4
  clear B4 r4 q5
  go_wp2_with fail
  refine (QQ.out.2.2.2.2.1 b _ (FB.out FF.out B5) r5).mono ?_
  rintro r w6 ⟨rfl, q6⟩
  have B6 := btr B5 q6
  have r6 := heap_of q6 _ _ _ r5
  clear B5 r5 q6
  go_wp2_with fail
  refine (QQ.out.2.2.2.2.2.1 b _ (FB.out FF.out B6) r6).mono ?_
  rintro r w7 ⟨rfl, r7, o7⟩
  have B7 := Only.toBelow B6 o7 hgb.out B6.size
  clear B6 r6 o7
  go_wp2_with fail
  refine (QQ.out.2.2.2.2.2.2 b _ (FB.out FF.out B7) r7).mono ?_
  rintro r w8 ⟨rfl, q8⟩
  have B8 := btr B7 q8
  have B9 := btr B8 (bal w8 (.cells #[.int .u64 18446744073709551615, .int .u64 18446744073709501440] 25))
  have Rn9 := heap_alloc_last w8 (.cells #[.int .u64 18446744073709551615, .int .u64 18446744073709501440] 25)
  clear B7 r7 q8
  go_wp2_with fail
  refine (PM.out _ (FB.out FF.out B9)).mono ?_
  rintro r w10 ⟨rfl, q10⟩
  have B10 := btr B9 q10
  obtain ⟨c0, c1⟩ := cells2s (heap_of q10 _ _ _ Rn9)
  clear B8 B9 Rn9 q10
  go_wp2
  go_ret
  exact ⟨rfl, B10⟩
theorem ap_x (G : Nat → Nat) {k : Nat} (k0 : k ≠ 0) (v j : Nat) : apC G ⟨false, (k : Int), v, 0, 0⟩ j = if j = k then v else G j := by
  unfold apC up
  rw [if_neg (fun h : false = true => by cases h), if_neg (show ¬ (k : Int) = 0 by omega)]
  simp only [Int.toNat_natCast]
theorem ap_f (G : Nat → Nat) (k u v j : Nat) : apC G ⟨true, (k : Int), 0, u, v⟩ j = if j = 32 + k * 2 + 1 then v else if j = 32 + k * 2 then u else G j := by
  unfold apC up
  rw [if_pos rfl]
  simp only [Int.toNat_natCast]
theorem fold_x (R S : Nat → Nat) (h0 : R 0 = S 0) : ∀ k j, (cxK R S k).foldl apC R j = if j < k then S j else R j
  | 0, j => by
    rw [if_neg (by omega)]
    rfl
  | k + 1, j => by
    show (cxK R S k ++ (if R k = S k then [] else [(⟨false, (k : Int), S k, 0, 0⟩ : Chg)])).foldl apC R j = _
    rw [List.foldl_append]
    have ih := fold_x R S h0 k
    by_cases q : R k = S k
    · rw [if_pos q]
      show (cxK R S k).foldl apC R j = _
      rw [ih j]
      by_cases c : j < k
      · rw [if_pos c, if_pos (by omega)]
      · rw [if_neg c]
        by_cases d : j = k
        · rw [d, if_pos (by omega), q]
        · rw [if_neg (by omega)]
    · rw [if_neg q]
      have k0 : k ≠ 0 := fun e => q (by rw [e]; exact h0)
      show apC ((cxK R S k).foldl apC R) ⟨false, (k : Int), S k, 0, 0⟩ j = _
      rw [ap_x _ k0]
      by_cases d : j = k
      · rw [if_pos d, d, if_pos (by omega)]
      · rw [if_neg d, ih j]
        by_cases c : j < k
        · rw [if_pos c, if_pos (by omega)]
        · rw [if_neg c, if_neg (by omega)]
theorem fold_f (R S M : Nat → Nat) (hM : ∀ j, 32 ≤ j → M j = R j) : ∀ k j, (cfK R S k).foldl apC M j = if 32 ≤ j ∧ j < 32 + k * 2 then S j else M j
  | 0, j => by
    rw [if_neg (by omega)]
    rfl
  | k + 1, j => by
    have ih := fold_f R S M hM k
    show (cfK R S k ++ (if R (32 + k * 2) = S (32 + k * 2) ∧ R (32 + k * 2 + 1) = S (32 + k * 2 + 1) then [] else [(⟨true, (k : Int), 0, S (32 + k * 2), S (32 + k * 2 + 1)⟩ : Chg)])).foldl apC M j = _
    rw [List.foldl_append]
    by_cases q : R (32 + k * 2) = S (32 + k * 2) ∧ R (32 + k * 2 + 1) = S (32 + k * 2 + 1)
    · rw [if_pos q]
      show (cfK R S k).foldl apC M j = _
      rw [ih j]
      by_cases c : 32 ≤ j ∧ j < 32 + k * 2
      · rw [if_pos c, if_pos (by omega)]
      · rw [if_neg c]
        by_cases d : j = 32 + k * 2
        · rw [d, if_pos (by omega), hM _ (by omega), q.1]
        · by_cases d2 : j = 32 + k * 2 + 1
          · rw [d2, if_pos (by omega), hM _ (by omega), q.2]
          · rw [if_neg (by omega)]
    · rw [if_neg q]
      show apC ((cfK R S k).foldl apC M) ⟨true, (k : Int), 0, S (32 + k * 2), S (32 + k * 2 + 1)⟩ j = _
      rw [ap_f]
      by_cases d2 : j = 32 + k * 2 + 1
      · rw [if_pos d2, d2, if_pos (by omega)]
      · rw [if_neg d2]
        by_cases d : j = 32 + k * 2
        · rw [if_pos d, d, if_pos (by omega)]
        · rw [if_neg d, ih j]
          by_cases c : 32 ≤ j ∧ j < 32 + k * 2
          · rw [if_pos c, if_pos (by omega)]
          · rw [if_neg c, if_neg (by omega)]
theorem ok_x (R S : Nat → Nat) : ∀ k, k ≤ 32 → (cxK R S k).all okC = true
  | 0, _ => rfl
  | k + 1, h => by
    show (cxK R S k ++ (if R k = S k then [] else [(⟨false, (k : Int), S k, 0, 0⟩ : Chg)])).all okC = true
    rw [List.all_append, ok_x R S k (by omega), Bool.true_and]
    split
    · rfl
    · simp [okC]
      omega
theorem ok_f (R S : Nat → Nat) : ∀ k, k ≤ 32 → (cfK R S k).all okC = true
  | 0, _ => rfl
  | k + 1, h => by
    show (cfK R S k ++ (if R (32 + k * 2) = S (32 + k * 2) ∧ R (32 + k * 2 + 1) = S (32 + k * 2 + 1) then [] else [(⟨true, (k : Int), 0, S (32 + k * 2), S (32 + k * 2 + 1)⟩ : Chg)])).all okC = true
    rw [List.all_append, ok_f R S k (by omega), Bool.true_and]
    split
    · rfl
    · simp [okC]
      omega
theorem chgR_ok {R : Nat → Nat} {l : List Chg} (h : l.all okC = true) : chgR R l = (l.foldl apC R, 0) := by
  unfold chgR
  rw [if_pos h]
theorem chgs_ok (R S : Nat → Nat) : (chgs R S).all okC = true := by
  unfold chgs
  rw [List.all_append, ok_x R S 32 (Nat.le_refl _), ok_f R S 32 (Nat.le_refl _), Bool.and_self]
theorem fold_chgs (R S : Nat → Nat) (h0 : R 0 = S 0) (k : Nat) (hk : k < 96) : (chgs R S).foldl apC R k = S k := by
  unfold chgs
  rw [List.foldl_append, fold_f R S _ (fun j hj => by rw [fold_x R S h0 32 j, if_neg (by omega)]) 32 k]
  by_cases c : 32 ≤ k ∧ k < 32 + 32 * 2
  · rw [if_pos c]
  · rw [if_neg c, fold_x R S h0 32 k, if_pos (by omega)]
theorem chg_chgs (R S : Nat → Nat) (h0 : R 0 = S 0) : ∃ F, chgR R (chgs R S) = (F, 0) ∧ ∀ k, k < 96 → F k = S k := ⟨_, chgR_ok (chgs_ok R S), fold_chgs R S h0⟩
end Go.Proofs.YtjbnifhpbdjonaaDoor
namespace Go.Proofs.YtjbnifhpbdjonaaDoor
set_option maxRecDepth 100000
set_option maxHeartbeats 40000000
set_option maxRecDepth 100000
open Go.RowKit WMath
set_option linter.unusedSimpArgs false
set_option linter.unusedVariables false
set_option maxRecDepth 100000 in
set_option maxHeartbeats 8000000 in
theorem rb_no {T : World → Prop} (FB : Box (∀ {w w' : World}, T w → Below w.heap.size w w' → T w')) (rg : (Nat → Nat) → Array Value) (tg : TypeId) (A C R Q F Q2 : Nat → Nat) (hA : ∀ k, A k < 18446744073709551616) (hC : ∀ k, C k < 18446744073709551616) (hR : up A 0 0 = R) (hQ : up C 0 0 = Q) (bR : Bnd R) (bQ : Bnd Q) (bF : Bnd F) (bQ2 : Bnd Q2) (hF : rfE F Q = true) (hRR : rfE (up R 0 0) R = true) (bRR : Bnd (up R 0 0)) (how on n fm : Int) (X u v : Nat) (ao : Option Addr) (L cv : Nat)
    (KF : Box (∀ R : Nat → Nat, (∀ k, R k < 18446744073709551616) → ∀ w, T w → Calls Tryd.prog 7 #[.agg (rf R)] w fun r w' => ∃ b, r = .returned (.pointer (some ⟨b, 0, none⟩)) ∧ w.heap.size ≤ b ∧ w'.heap[b]? = some (.cells (rg (up R 0 0)) tg) ∧ Below w.heap.size w w'))
    (KL : Box (∀ w, T w → Calls Tryd.prog 9 #[] w fun r w' => r = .returned (.bool true) ∧ Below w.heap.size w w'))
    (KC : Box (∀ (R : Nat → Nat) (b : Nat) w, Bnd R → T w → w.heap[b]? = some (.cells (rg R) tg) → Calls Tryd.prog 10 #[.pointer (some ⟨b, 0, none⟩)] w fun r w' => ∃ b', r = .returned (.pointer (some ⟨b', 0, none⟩)) ∧ w.heap.size ≤ b' ∧ w'.heap[b']? = some (.cells (rg R) tg) ∧ Below w.heap.size w w'))
    (KT : Box (∀ (R : Nat → Nat) (b : Nat) w, Bnd R → T w → w.heap[b]? = some (.cells (rg R) tg) → Calls Tryd.prog 12 #[.pointer (some ⟨b, 0, none⟩)] w fun r w' => r = .returned (.agg (rf R)) ∧ Below w.heap.size w w'))
    (KS : Box (∀ (R S : Nat → Nat) (b c : Nat) w, Bnd R → Bnd S → T w → w.heap[b]? = some (.cells (rg R) tg) → w.heap[c]? = some (.cells (rg S) tg) → Calls Tryd.prog 13 #[.pointer (some ⟨b, 0, none⟩), .pointer (some ⟨c, 0, none⟩)] w fun r w' => r = .returned (.bool (rfE R S)) ∧ Below w.heap.size w w'))
    (KH : Box (∀ (R S : Nat → Nat) (b c : Nat) w, Bnd R → Bnd S → T w → w.heap[b]? = some (.cells (rg R) tg) → w.heap[c]? = some (.cells (rg S) tg) → Calls Tryd.prog 14 #[.pointer (some ⟨b, 0, none⟩), .pointer (some ⟨c, 0, none⟩)] w fun r w' => ∃ v, r = .returned (.tuple #[v, .int .i64 0]) ∧ CS w' v (chgs R S) ∧ Below w.heap.size w w'))
    (PC : Box (∀ (b : Nat) (s1 : Value) w, T w → w.heap[b]? = some (.cells (rg R) tg) → CS w s1 (chgs R Q) → Calls Tryd.prog 28 #[.pointer (some ⟨b, 0, none⟩), s1] w fun r w' => r = .returned (.int .i64 0) ∧ w'.heap[b]? = some (.cells (rg F) tg) ∧ Only b w w'))
    (PP : Box (∀ (b : Nat) w, T w → w.heap[b]? = some (.cells (rg Q) tg) → Calls Tryd.prog 27 #[.pointer (some ⟨b, 0, none⟩), .int .u8 fm, .int .i64 n, .agg #[.int .u64 (u : Nat), .int .u64 (v : Nat)]] w fun r w' => r = .returned (.int .i64 2) ∧ w'.heap[b]? = some (.cells (rg Q2) tg) ∧ Only b w w'))
    (hE : rfE Q2 Q = true)
    (w : World) (hT : T w) : Calls Tryd.prog 6 #[.agg (rf A), .agg (rf C), .agg #[.int .i64 how, .int .i64 on, .int .i64 n, .int .u64 (X : Nat), .int .u64 (u : Nat), .int .u64 (v : Nat), .int .u8 fm, .slice ao L cv]] w fun r w' => r = .returned (.bool true) ∧ Below w.heap.size w w' := by
  have FF := box hT
  have HA := box hA
  have HC := box hC
  clear hT hA hC
  have hrz := rf_zero
  have hrs : ∀ R, ((rf R).size = 96) = True := fun R => eq_true (rf_size R)
  have hra := rf_at
  have hsn := rf_stn
  obtain ⟨Ra_0, Rb_0, Rs_0, B0⟩ := opn3 w (Obj.cells (rf A) 28) (Obj.cells (rf C) 28) (Obj.cells #[.int .i64 how, .int .i64 on, .int .i64 n, .int .u64 (X : Nat), .int .u64 (u : Nat), .int .u64 (v : Nat), .int .u8 fm, .slice ao L cv] 39)
  go_enter Tryd.func6, Tryd.ntmps6
  have sS : Box (∀ W W1 : World, (Below w.heap.size w W ∧ W.heap[w.heap.size]? = some (.cells (rf A) 28) ∧ W.heap[w.heap.size + 1]? = some (.cells (rf C) 28) ∧ W.heap[w.heap.size + 1 + 1]? = some (.cells #[.int .i64 how, .int .i64 on, .int .i64 n, .int .u64 (X : Nat), .int .u64 (u : Nat), .int .u64 (v : Nat), .int .u8 fm, .slice ao L cv] 39)) → Below W.heap.size W W1 → (Below w.heap.size w W1 ∧ W1.heap[w.heap.size]? = some (.cells (rf A) 28) ∧ W1.heap[w.heap.size + 1]? = some (.cells (rf C) 28) ∧ W1.heap[w.heap.size + 1 + 1]? = some (.cells #[.int .i64 how, .int .i64 on, .int .i64 n, .int .u64 (X : Nat), .int .u64 (u : Nat), .int .u64 (v : Nat), .int .u8 fm, .slice ao L cv] 39))) := box (fun W W1 h b => ⟨btr h.1 b, heap_of b _ _ _ h.2.1, heap_of b _ _ _ h.2.2.1, heap_of b _ _ _ h.2.2.2⟩)
  have s0 : Below w.heap.size w (((w.alloc (Obj.cells (rf A) 28)).alloc (Obj.cells (rf C) 28)).alloc (Obj.cells #[.int .i64 how, .int .i64 on, .int .i64 n, .int .u64 (X : Nat), .int .u64 (u : Nat), .int .u64 (v : Nat), .int .u8 fm, .slice ao L cv] 39)).drew ∧ (((w.alloc (Obj.cells (rf A) 28)).alloc (Obj.cells (rf C) 28)).alloc (Obj.cells #[.int .i64 how, .int .i64 on, .int .i64 n, .int .u64 (X : Nat), .int .u64 (u : Nat), .int .u64 (v : Nat), .int .u8 fm, .slice ao L cv] 39)).drew.heap[w.heap.size]? = some (.cells (rf A) 28) ∧ (((w.alloc (Obj.cells (rf A) 28)).alloc (Obj.cells (rf C) 28)).alloc (Obj.cells #[.int .i64 how, .int .i64 on, .int .i64 n, .int .u64 (X : Nat), .int .u64 (u : Nat), .int .u64 (v : Nat), .int .u8 fm, .slice ao L cv] 39)).drew.heap[w.heap.size + 1]? = some (.cells (rf C) 28) ∧ (((w.alloc (Obj.cells (rf A) 28)).alloc (Obj.cells (rf C) 28)).alloc (Obj.cells #[.int .i64 how, .int .i64 on, .int .i64 n, .int .u64 (X : Nat), .int .u64 (u : Nat), .int .u64 (v : Nat), .int .u8 fm, .slice ao L cv] 39)).drew.heap[w.heap.size + 1 + 1]? = some (.cells #[.int .i64 how, .int .i64 on, .int .i64 n, .int .u64 (X : Nat), .int .u64 (u : Nat), .int .u64 (v : Nat), .int .u8 fm, .slice ao L cv] 39) := ⟨B0.drew, Ra_0, Rb_0, Rs_0⟩
  have hz : Box ((((w.alloc (Obj.cells (rf A) 28)).alloc (Obj.cells (rf C) 28)).alloc (Obj.cells #[.int .i64 how, .int .i64 on, .int .i64 n, .int .u64 (X : Nat), .int .u64 (u : Nat), .int .u64 (v : Nat), .int .u8 fm, .slice ao L cv] 39)).drew.heap.size = w.heap.size + 3) := box (by
    show (((w.alloc (Obj.cells (rf A) 28)).alloc (Obj.cells (rf C) 28)).alloc (Obj.cells #[.int .i64 how, .int .i64 on, .int .i64 n, .int .u64 (X : Nat), .int .u64 (u : Nat), .int .u64 (v : Nat), .int .u8 fm, .slice ao L cv] 39)).heap.size = _
    simp only [size_al])
  have hu := Tryd.underlying28
  have hi : ∀ R, (Tryd.prog.info? 28).map (·.size) = some (rf R).toList.length := fun R => by rw [Array.length_toList, rf_size]; kernel_rfl
  clear Ra_0 Rb_0 Rs_0
  go_wp2_with fail
  refine wp_region_held_drew (S := fun W => Below w.heap.size w W ∧ W.heap[w.heap.size]? = some (.cells (rf A) 28) ∧ W.heap[w.heap.size + 1]? = some (.cells (rf C) 28) ∧ W.heap[w.heap.size + 1 + 1]? = some (.cells #[.int .i64 how, .int .i64 on, .int .i64 n, .int .u64 (X : Nat), .int .u64 (u : Nat), .int .u64 (v : Nat), .int .u8 fm, .slice ao L cv] 39)) (by kernel_rfl) s0 (fun hHeld => ?_)
  refine wpAnyH_take (i := 0) rfl (by kernel_rfl) (by kernel_rfl) (by kernel_rfl) (fun _ _ _ h => h) (yieldsIf_load_mid (by rfl) _ _ rfl _ _ rfl (rf A).toList _ (fun W h => rf_range h.2.1) hu rfl (hi A)) (by assumption) ?_
  simp only [Array.toArray_toList]
  (try simp only [Act.put, List.getElem_toArray, List.getElem_cons_zero, List.getElem_cons_succ, List.setIfInBounds_toArray, List.set_cons_zero, List.set_cons_succ])
  refine wpAnyH_take (i := 2) rfl (by kernel_rfl) (by kernel_rfl) (by kernel_rfl) (fun _ _ _ h => h) (yieldsIf_load_mid (by rfl) _ _ rfl _ _ rfl (rf C).toList _ (fun W h => rf_range h.2.2.1) hu rfl (hi C)) (by assumption) ?_
  simp only [Array.toArray_toList]
  (try simp only [Act.put, List.getElem_toArray, List.getElem_cons_zero, List.getElem_cons_succ, List.setIfInBounds_toArray, List.set_cons_zero, List.set_cons_succ])
  refine wpAnyH_ready (rs := [1]) (by kernel_rfl) (by simp) ?_
  refine AllReadyH.cons rfl (fun K hK => ?_) AllReadyH.nil
  go_simp
  refine (KF.out A HA.out _ (FB.out FF.out (And.left s0))).mono ?_
  rintro r w0 ⟨b0, rfl, g0, r0, q0⟩
  (try go_wp2_with fail)
  have s1 := sS.out _ _ s0 q0
  refine hK.out _ _ s1 (fun hHeld => ?_)
  clear hK K
  (try simp only [Act.put, List.getElem_toArray, List.getElem_cons_zero, List.getElem_cons_succ, List.setIfInBounds_toArray, List.set_cons_zero, List.set_cons_succ])
  refine wpAnyH_ready (rs := [3]) (by kernel_rfl) (by simp) ?_
  refine AllReadyH.cons rfl (fun K hK => ?_) AllReadyH.nil
  go_simp
  refine (KF.out C HC.out _ (FB.out FF.out (And.left s1))).mono ?_
  rintro r w1 ⟨b1, rfl, g1, r1, q1⟩
  (try go_wp2_with fail)
  have s2 := sS.out _ _ s1 q1
  refine hK.out _ _ s2 (fun hHeld => ?_)
  clear hK K
  (try simp only [Act.put, List.getElem_toArray, List.getElem_cons_zero, List.getElem_cons_succ, List.setIfInBounds_toArray, List.set_cons_zero, List.set_cons_succ])
  refine wpAnyH_take (i := 4) (v := ?_) rfl (by kernel_rfl) (by kernel_rfl) (by kernel_rfl) (fun _ _ _ h => h) (Or.inl ⟨by rfl, ?_⟩) (by assumption) ?_
  rotate_left 1
  · intro W hSw
    try dsimp only at hSw
    go_simp
    try with_reducible rfl
  (try simp only [Act.put, List.getElem_toArray, List.getElem_cons_zero, List.getElem_cons_succ, List.setIfInBounds_toArray, List.set_cons_zero, List.set_cons_succ])
  refine wpAnyH_take (i := 5) (v := ?_) rfl (by kernel_rfl) (by kernel_rfl) (by kernel_rfl) (fun _ _ _ h => h) (Or.inl ⟨by rfl, ?_⟩) (by assumption) ?_
  rotate_left 1
  · intro W hSw
    try dsimp only at hSw
    go_simp
    try with_reducible rfl
  (try simp only [Act.put, List.getElem_toArray, List.getElem_cons_zero, List.getElem_cons_succ, List.setIfInBounds_toArray, List.set_cons_zero, List.set_cons_succ])
  refine wpAnyH_done (by kernel_rfl) ?_ _
  have l0 := (Array.getElem?_eq_some_iff.1 r0).1
  have l1 := (Array.getElem?_eq_some_iff.1 r1).1
  rw [hR] at r0
  rw [hQ] at r1
  have r0 := heap_of q1 _ _ _ r0
  have B1 := s2.1
  have Rs1 := s2.2.2.2
  have N1 : Box (w.heap.size + 1 + 1 < b0 ∧ b0 < b1 ∧ b1 < w1.heap.size) := box (by have := hz.out; omega)
  clear s0 s1 s2 sS hz g0 g1 l0 l1 q0 q1 B0
  go_wp2_with fail
  refine (KH.out R Q b0 b1 _ bR bQ (FB.out FF.out B1) r0 r1).mono ?_
  rintro r w2 ⟨vl, rfl, cs2, q2⟩
  have B2 := btr B1 q2
  have r02 := heap_of q2 _ _ _ r0
  have r12 := heap_of q2 _ _ _ r1
  have Rs2 := heap_of q2 _ _ _ Rs1
  have z2 := q2.size
  obtain ⟨al, cl, rfl, zl⟩ := cs2
  have cs2 : CS w2 (.slice al (chgs R Q).length cl) (chgs R Q) := ⟨al, cl, rfl, zl⟩
  obtain ⟨ML, hML⟩ : ∃ M, (chgs R Q).length = M := ⟨_, rfl⟩
  rw [hML] at cs2 ⊢
  have CS2 := box cs2
  clear cs2 zl hML q2 B1 r0 r1 Rs1
  go_wp2_with fail
  refine (KC.out R b0 _ bR (FB.out FF.out B2) r02).mono ?_
  rintro r w3 ⟨b2, rfl, g2, r2, q3⟩
  have B3 := btr B2 q3
  have r03 := heap_of q3 _ _ _ r02
  have r13 := heap_of q3 _ _ _ r12
  have Rs3 := heap_of q3 _ _ _ Rs2
  have CS3 := cs_mono CS2.out q3
  have l2 := (Array.getElem?_eq_some_iff.1 r2).1
  have z3 := q3.size
  have N3 : Box (w.heap.size + 1 + 1 < b0 ∧ b0 < b1 ∧ b1 < b2 ∧ b2 < w3.heap.size) := box (by have := N1.out; omega)
  clear B2 r02 r12 Rs2 q3 g2 l2 z3 z2
  go_wp2_with fail
  refine (PC.out b2 _ _ (FB.out FF.out B3) r2 CS3).mono ?_
  rintro r w4 ⟨rfl, r24, o4⟩
  have B4 := Only.toBelow B3 o4 (by have := N3.out; omega) B3.size
  have r04 := Only.row o4 (by have := N3.out; omega) r03
  have r14 := Only.row o4 (by have := N3.out; omega) r13
  have Rs4 := Only.row o4 (by have := N3.out; omega) Rs3
  have N4 : Box (b2 < w4.heap.size) := box (Array.getElem?_eq_some_iff.1 r24).1
  clear B3 r03 r13 Rs3 o4 r2 CS3
  go_wp2_with fail
  refine (KS.out F Q b2 b1 _ bF bQ (FB.out FF.out B4) r24 r14).mono ?_
  rintro r w5 ⟨rfl, q5⟩
  rw [hF]
  have B5 := btr B4 q5
  have r05 := heap_of q5 _ _ _ r04
  have r15 := heap_of q5 _ _ _ r14
  have r25 := heap_of q5 _ _ _ r24
  have Rs5 := heap_of q5 _ _ _ Rs4
  clear B4 r04 r14 r24 Rs4 q5
  go_wp2_with fail
  refine (KT.out R b0 _ bR (FB.out FF.out B5) r05).mono ?_
  rintro r w6 ⟨rfl, q6⟩
  have B6 := btr B5 q6
  have r06 := heap_of q6 _ _ _ r05
  have r16 := heap_of q6 _ _ _ r15
  have r26 := heap_of q6 _ _ _ r25
  have Rs6 := heap_of q6 _ _ _ Rs5
  clear B5 r05 r15 r25 Rs5 q6
  go_wp2_with fail
  refine (KF.out R bR.1 _ (FB.out FF.out B6)).mono ?_
  rintro r w7 ⟨b3, rfl, g3, r37, q7⟩
  have B7 := btr B6 q7
  have r07 := heap_of q7 _ _ _ r06
  have r17 := heap_of q7 _ _ _ r16
  have r27 := heap_of q7 _ _ _ r26
  have Rs7 := heap_of q7 _ _ _ Rs6
  clear B6 r06 r16 r26 Rs6 q7 g3
  go_wp2_with fail
  refine (KS.out _ R b3 b0 _ bRR bR (FB.out FF.out B7) r37 r07).mono ?_
  rintro r w8 ⟨rfl, q8⟩
  rw [hRR]
  have B8 := btr B7 q8
  have r08 := heap_of q8 _ _ _ r07
  have r18 := heap_of q8 _ _ _ r17
  have r28 := heap_of q8 _ _ _ r27
  have Rs8 := heap_of q8 _ _ _ Rs7
  clear B7 r07 r17 r27 Rs7 q8 r37
  go_wp2_with fail
  refine (KT.out Q b1 _ bQ (FB.out FF.out B8) r18).mono ?_
  rintro r w9 ⟨rfl, q9⟩
  have bw := bal w9 (Obj.cells (rf Q) 28)
  have Rw := heap_alloc_last w9 (Obj.cells (rf Q) 28)
  have B9 := btr (btr B8 q9) bw
  have r19 := heap_of bw _ _ _ (heap_of q9 _ _ _ r18)
  have r29 := heap_of bw _ _ _ (heap_of q9 _ _ _ r28)
  have Rs9 := heap_of bw _ _ _ (heap_of q9 _ _ _ Rs8)
  have N9 : Box (w.heap.size + 1 + 1 < b1 ∧ b1 < b2 ∧ b2 < w9.heap.size) := box (by have := N3.out; have := (Array.getElem?_eq_some_iff.1 (heap_of q9 _ _ _ r28)).1; omega)
  clear B8 r08 r18 r28 Rs8 q9 bw
  obtain ⟨g0, g1, g2, g3, g4, g5, g6, g7⟩ := st_cells Rs9
  go_wp2_with fail
  refine (PP.out b1 _ (FB.out FF.out B9) r19).mono ?_
  rintro r w10 ⟨rfl, r110, o10⟩
  have B10 := Only.toBelow B9 o10 (by have := N9.out; omega) B9.size
  have Rw10 := Only.row o10 (by have := N9.out; omega) Rw
  have r210 := Only.row o10 (by have := N9.out; omega) r29
  have Rs10 := Only.row o10 (by have := N9.out; omega) Rs9
  clear B9 r19 r29 Rs9 o10 Rw g0 g1 g2 g3 g4 g5 g6 g7
  go_wp2_with fail
  refine (KT.out Q2 b1 _ bQ2 (FB.out FF.out B10) r110).mono ?_
  rintro r w11 ⟨rfl, q11⟩
  have bw := bal w11 (Obj.cells (rf Q2) 28)
  have Rn := heap_alloc_last w11 (Obj.cells (rf Q2) 28)
  have B11 := btr (btr B10 q11) bw
  have r111 := heap_of bw _ _ _ (heap_of q11 _ _ _ r110)
  have r211 := heap_of bw _ _ _ (heap_of q11 _ _ _ r210)
  have Rs11 := heap_of bw _ _ _ (heap_of q11 _ _ _ Rs10)
  have Rw11 := heap_of bw _ _ _ (heap_of q11 _ _ _ Rw10)
  clear B10 r110 r210 Rs10 Rw10 q11 bw
  obtain ⟨g0, g1, g2, g3, g4, g5, g6, g7⟩ := st_cells Rs11
  have heq := eqrf Q2 Q bQ2.1 bQ.1
  rw [hE] at heq
  go_wp2_with (first | ((with_reducible (refine wpl_rf rfl _ rfl ?_ Rn ?_)); rfl) | ((with_reducible (refine wpl_rf rfl _ rfl ?_ Rw11 ?_)); rfl) | ((with_reducible (refine wp_rf _ rfl ?_ Rn ?_)); rfl) | ((with_reducible (refine wp_rf _ rfl ?_ Rw11 ?_)); rfl) | fail)
  refine (KL.out _ (FB.out FF.out B11)).mono ?_
  rintro r w12 ⟨rfl, q12⟩
  go_wp2
  go_ret
  exact ⟨rfl, btr B11 q12⟩
set_option maxRecDepth 100000 in
set_option maxHeartbeats 8000000 in
theorem rb_yes {T : World → Prop} (FB : Box (∀ {w w' : World}, T w → Below w.heap.size w w' → T w')) (rg : (Nat → Nat) → Array Value) (tg : TypeId) (A C R Q F Q2 : Nat → Nat) (hA : ∀ k, A k < 18446744073709551616) (hC : ∀ k, C k < 18446744073709551616) (hR : up A 0 0 = R) (hQ : up C 0 0 = Q) (bR : Bnd R) (bQ : Bnd Q) (bF : Bnd F) (bQ2 : Bnd Q2) (hF : rfE F Q = true) (hRR : rfE (up R 0 0) R = true) (bRR : Bnd (up R 0 0)) (how on n fm : Int) (X u v : Nat) (ao : Option Addr) (L cv : Nat)
    (KF : Box (∀ R : Nat → Nat, (∀ k, R k < 18446744073709551616) → ∀ w, T w → Calls Tryd.prog 7 #[.agg (rf R)] w fun r w' => ∃ b, r = .returned (.pointer (some ⟨b, 0, none⟩)) ∧ w.heap.size ≤ b ∧ w'.heap[b]? = some (.cells (rg (up R 0 0)) tg) ∧ Below w.heap.size w w'))
    (KL : Box (∀ w, T w → Calls Tryd.prog 9 #[] w fun r w' => r = .returned (.bool true) ∧ Below w.heap.size w w'))
    (KC : Box (∀ (R : Nat → Nat) (b : Nat) w, Bnd R → T w → w.heap[b]? = some (.cells (rg R) tg) → Calls Tryd.prog 10 #[.pointer (some ⟨b, 0, none⟩)] w fun r w' => ∃ b', r = .returned (.pointer (some ⟨b', 0, none⟩)) ∧ w.heap.size ≤ b' ∧ w'.heap[b']? = some (.cells (rg R) tg) ∧ Below w.heap.size w w'))
    (KT : Box (∀ (R : Nat → Nat) (b : Nat) w, Bnd R → T w → w.heap[b]? = some (.cells (rg R) tg) → Calls Tryd.prog 12 #[.pointer (some ⟨b, 0, none⟩)] w fun r w' => r = .returned (.agg (rf R)) ∧ Below w.heap.size w w'))
    (KS : Box (∀ (R S : Nat → Nat) (b c : Nat) w, Bnd R → Bnd S → T w → w.heap[b]? = some (.cells (rg R) tg) → w.heap[c]? = some (.cells (rg S) tg) → Calls Tryd.prog 13 #[.pointer (some ⟨b, 0, none⟩), .pointer (some ⟨c, 0, none⟩)] w fun r w' => r = .returned (.bool (rfE R S)) ∧ Below w.heap.size w w'))
    (KH : Box (∀ (R S : Nat → Nat) (b c : Nat) w, Bnd R → Bnd S → T w → w.heap[b]? = some (.cells (rg R) tg) → w.heap[c]? = some (.cells (rg S) tg) → Calls Tryd.prog 14 #[.pointer (some ⟨b, 0, none⟩), .pointer (some ⟨c, 0, none⟩)] w fun r w' => ∃ v, r = .returned (.tuple #[v, .int .i64 0]) ∧ CS w' v (chgs R S) ∧ Below w.heap.size w w'))
    (PC : Box (∀ (b : Nat) (s1 : Value) w, T w → w.heap[b]? = some (.cells (rg R) tg) → CS w s1 (chgs R Q) → Calls Tryd.prog 28 #[.pointer (some ⟨b, 0, none⟩), s1] w fun r w' => r = .returned (.int .i64 0) ∧ w'.heap[b]? = some (.cells (rg F) tg) ∧ Only b w w'))
    (PP : Box (∀ (b : Nat) w, T w → w.heap[b]? = some (.cells (rg Q) tg) → Calls Tryd.prog 27 #[.pointer (some ⟨b, 0, none⟩), .int .u8 fm, .int .i64 n, .agg #[.int .u64 (u : Nat), .int .u64 (v : Nat)]] w fun r w' => r = .returned (.int .i64 0) ∧ w'.heap[b]? = some (.cells (rg Q2) tg) ∧ Only b w w'))
    (PG : Box (∀ (b : Nat) w, T w → w.heap[b]? = some (.cells (rg Q2) tg) → Calls Tryd.prog 22 #[.pointer (some ⟨b, 0, none⟩), .int .u8 fm, .int .i64 n] w fun r w' => r = .returned (.tuple #[.agg #[.int .u64 (u : Nat), .int .u64 (v : Nat)], .int .i64 0]) ∧ Below w.heap.size w w'))
    (PL : Box (∀ (b : Nat) w, T w → w.heap[b]? = some (.cells (rg Q2) tg) → Calls Tryd.prog 23 #[.pointer (some ⟨b, 0, none⟩), .int .u8 fm, .int .i64 n] w fun r w' => r = .returned (.tuple #[.agg #[.int .u64 (u : Nat), .int .u64 (v : Nat)], .int .i64 0]) ∧ Below w.heap.size w w'))
    (hX : Box (∀ i, i < 32 → Q2 i = Q i)) (hQF : Box (∀ i : Nat, i < 32 → (i : Int) ≠ n → Q2 (32 + i * 2) = Q (32 + i * 2) ∧ Q2 (32 + i * 2 + 1) = Q (32 + i * 2 + 1)))
    (w : World) (hT : T w) : Calls Tryd.prog 6 #[.agg (rf A), .agg (rf C), .agg #[.int .i64 how, .int .i64 on, .int .i64 n, .int .u64 (X : Nat), .int .u64 (u : Nat), .int .u64 (v : Nat), .int .u8 fm, .slice ao L cv]] w fun r w' => r = .returned (.bool true) ∧ Below w.heap.size w w' := by
  have FF := box hT
  have HA := box hA
  have HC := box hC
  clear hT hA hC
  have hrz := rf_zero
  have hrs : ∀ R, ((rf R).size = 96) = True := fun R => eq_true (rf_size R)
  have hra := rf_at
  have hsn := rf_stn
  obtain ⟨Ra_0, Rb_0, Rs_0, B0⟩ := opn3 w (Obj.cells (rf A) 28) (Obj.cells (rf C) 28) (Obj.cells #[.int .i64 how, .int .i64 on, .int .i64 n, .int .u64 (X : Nat), .int .u64 (u : Nat), .int .u64 (v : Nat), .int .u8 fm, .slice ao L cv] 39)
  go_enter Tryd.func6, Tryd.ntmps6
  have sS : Box (∀ W W1 : World, (Below w.heap.size w W ∧ W.heap[w.heap.size]? = some (.cells (rf A) 28) ∧ W.heap[w.heap.size + 1]? = some (.cells (rf C) 28) ∧ W.heap[w.heap.size + 1 + 1]? = some (.cells #[.int .i64 how, .int .i64 on, .int .i64 n, .int .u64 (X : Nat), .int .u64 (u : Nat), .int .u64 (v : Nat), .int .u8 fm, .slice ao L cv] 39)) → Below W.heap.size W W1 → (Below w.heap.size w W1 ∧ W1.heap[w.heap.size]? = some (.cells (rf A) 28) ∧ W1.heap[w.heap.size + 1]? = some (.cells (rf C) 28) ∧ W1.heap[w.heap.size + 1 + 1]? = some (.cells #[.int .i64 how, .int .i64 on, .int .i64 n, .int .u64 (X : Nat), .int .u64 (u : Nat), .int .u64 (v : Nat), .int .u8 fm, .slice ao L cv] 39))) := box (fun W W1 h b => ⟨btr h.1 b, heap_of b _ _ _ h.2.1, heap_of b _ _ _ h.2.2.1, heap_of b _ _ _ h.2.2.2⟩)
  have s0 : Below w.heap.size w (((w.alloc (Obj.cells (rf A) 28)).alloc (Obj.cells (rf C) 28)).alloc (Obj.cells #[.int .i64 how, .int .i64 on, .int .i64 n, .int .u64 (X : Nat), .int .u64 (u : Nat), .int .u64 (v : Nat), .int .u8 fm, .slice ao L cv] 39)).drew ∧ (((w.alloc (Obj.cells (rf A) 28)).alloc (Obj.cells (rf C) 28)).alloc (Obj.cells #[.int .i64 how, .int .i64 on, .int .i64 n, .int .u64 (X : Nat), .int .u64 (u : Nat), .int .u64 (v : Nat), .int .u8 fm, .slice ao L cv] 39)).drew.heap[w.heap.size]? = some (.cells (rf A) 28) ∧ (((w.alloc (Obj.cells (rf A) 28)).alloc (Obj.cells (rf C) 28)).alloc (Obj.cells #[.int .i64 how, .int .i64 on, .int .i64 n, .int .u64 (X : Nat), .int .u64 (u : Nat), .int .u64 (v : Nat), .int .u8 fm, .slice ao L cv] 39)).drew.heap[w.heap.size + 1]? = some (.cells (rf C) 28) ∧ (((w.alloc (Obj.cells (rf A) 28)).alloc (Obj.cells (rf C) 28)).alloc (Obj.cells #[.int .i64 how, .int .i64 on, .int .i64 n, .int .u64 (X : Nat), .int .u64 (u : Nat), .int .u64 (v : Nat), .int .u8 fm, .slice ao L cv] 39)).drew.heap[w.heap.size + 1 + 1]? = some (.cells #[.int .i64 how, .int .i64 on, .int .i64 n, .int .u64 (X : Nat), .int .u64 (u : Nat), .int .u64 (v : Nat), .int .u8 fm, .slice ao L cv] 39) := ⟨B0.drew, Ra_0, Rb_0, Rs_0⟩
  have hz : Box ((((w.alloc (Obj.cells (rf A) 28)).alloc (Obj.cells (rf C) 28)).alloc (Obj.cells #[.int .i64 how, .int .i64 on, .int .i64 n, .int .u64 (X : Nat), .int .u64 (u : Nat), .int .u64 (v : Nat), .int .u8 fm, .slice ao L cv] 39)).drew.heap.size = w.heap.size + 3) := box (by
    show (((w.alloc (Obj.cells (rf A) 28)).alloc (Obj.cells (rf C) 28)).alloc (Obj.cells #[.int .i64 how, .int .i64 on, .int .i64 n, .int .u64 (X : Nat), .int .u64 (u : Nat), .int .u64 (v : Nat), .int .u8 fm, .slice ao L cv] 39)).heap.size = _
    simp only [size_al])
  have hu := Tryd.underlying28
  have hi : ∀ R, (Tryd.prog.info? 28).map (·.size) = some (rf R).toList.length := fun R => by rw [Array.length_toList, rf_size]; kernel_rfl
  clear Ra_0 Rb_0 Rs_0
  go_wp2_with fail
  refine wp_region_held_drew (S := fun W => Below w.heap.size w W ∧ W.heap[w.heap.size]? = some (.cells (rf A) 28) ∧ W.heap[w.heap.size + 1]? = some (.cells (rf C) 28) ∧ W.heap[w.heap.size + 1 + 1]? = some (.cells #[.int .i64 how, .int .i64 on, .int .i64 n, .int .u64 (X : Nat), .int .u64 (u : Nat), .int .u64 (v : Nat), .int .u8 fm, .slice ao L cv] 39)) (by kernel_rfl) s0 (fun hHeld => ?_)
  refine wpAnyH_take (i := 0) rfl (by kernel_rfl) (by kernel_rfl) (by kernel_rfl) (fun _ _ _ h => h) (yieldsIf_load_mid (by rfl) _ _ rfl _ _ rfl (rf A).toList _ (fun W h => rf_range h.2.1) hu rfl (hi A)) (by assumption) ?_
  simp only [Array.toArray_toList]
  (try simp only [Act.put, List.getElem_toArray, List.getElem_cons_zero, List.getElem_cons_succ, List.setIfInBounds_toArray, List.set_cons_zero, List.set_cons_succ])
  refine wpAnyH_take (i := 2) rfl (by kernel_rfl) (by kernel_rfl) (by kernel_rfl) (fun _ _ _ h => h) (yieldsIf_load_mid (by rfl) _ _ rfl _ _ rfl (rf C).toList _ (fun W h => rf_range h.2.2.1) hu rfl (hi C)) (by assumption) ?_
  simp only [Array.toArray_toList]
  (try simp only [Act.put, List.getElem_toArray, List.getElem_cons_zero, List.getElem_cons_succ, List.setIfInBounds_toArray, List.set_cons_zero, List.set_cons_succ])
  refine wpAnyH_ready (rs := [1]) (by kernel_rfl) (by simp) ?_
  refine AllReadyH.cons rfl (fun K hK => ?_) AllReadyH.nil
  go_simp
  refine (KF.out A HA.out _ (FB.out FF.out (And.left s0))).mono ?_
  rintro r w0 ⟨b0, rfl, g0, r0, q0⟩
  (try go_wp2_with fail)
  have s1 := sS.out _ _ s0 q0
  refine hK.out _ _ s1 (fun hHeld => ?_)
  clear hK K
  (try simp only [Act.put, List.getElem_toArray, List.getElem_cons_zero, List.getElem_cons_succ, List.setIfInBounds_toArray, List.set_cons_zero, List.set_cons_succ])
  refine wpAnyH_ready (rs := [3]) (by kernel_rfl) (by simp) ?_
  refine AllReadyH.cons rfl (fun K hK => ?_) AllReadyH.nil
  go_simp
  refine (KF.out C HC.out _ (FB.out FF.out (And.left s1))).mono ?_
  rintro r w1 ⟨b1, rfl, g1, r1, q1⟩
  (try go_wp2_with fail)
  have s2 := sS.out _ _ s1 q1
  refine hK.out _ _ s2 (fun hHeld => ?_)
  clear hK K
  (try simp only [Act.put, List.getElem_toArray, List.getElem_cons_zero, List.getElem_cons_succ, List.setIfInBounds_toArray, List.set_cons_zero, List.set_cons_succ])
  refine wpAnyH_take (i := 4) (v := ?_) rfl (by kernel_rfl) (by kernel_rfl) (by kernel_rfl) (fun _ _ _ h => h) (Or.inl ⟨by rfl, ?_⟩) (by assumption) ?_
  rotate_left 1
  · intro W hSw
    try dsimp only at hSw
    go_simp
    try with_reducible rfl
  (try simp only [Act.put, List.getElem_toArray, List.getElem_cons_zero, List.getElem_cons_succ, List.setIfInBounds_toArray, List.set_cons_zero, List.set_cons_succ])
  refine wpAnyH_take (i := 5) (v := ?_) rfl (by kernel_rfl) (by kernel_rfl) (by kernel_rfl) (fun _ _ _ h => h) (Or.inl ⟨by rfl, ?_⟩) (by assumption) ?_
  rotate_left 1
  · intro W hSw
    try dsimp only at hSw
    go_simp
    try with_reducible rfl
  (try simp only [Act.put, List.getElem_toArray, List.getElem_cons_zero, List.getElem_cons_succ, List.setIfInBounds_toArray, List.set_cons_zero, List.set_cons_succ])
  refine wpAnyH_done (by kernel_rfl) ?_ _
  have l0 := (Array.getElem?_eq_some_iff.1 r0).1
  have l1 := (Array.getElem?_eq_some_iff.1 r1).1
  rw [hR] at r0
  rw [hQ] at r1
  have r0 := heap_of q1 _ _ _ r0
  have B1 := s2.1
  have Rs1 := s2.2.2.2
  have N1 : Box (w.heap.size + 1 + 1 < b0 ∧ b0 < b1 ∧ b1 < w1.heap.size) := box (by have := hz.out; omega)
  clear s0 s1 s2 sS hz g0 g1 l0 l1 q0 q1 B0
  go_wp2_with fail
  refine (KH.out R Q b0 b1 _ bR bQ (FB.out FF.out B1) r0 r1).mono ?_
  rintro r w2 ⟨vl, rfl, cs2, q2⟩
  have B2 := btr B1 q2
  have r02 := heap_of q2 _ _ _ r0
  have r12 := heap_of q2 _ _ _ r1
  have Rs2 := heap_of q2 _ _ _ Rs1
  have z2 := q2.size
  obtain ⟨al, cl, rfl, zl⟩ := cs2
  have cs2 : CS w2 (.slice al (chgs R Q).length cl) (chgs R Q) := ⟨al, cl, rfl, zl⟩
  obtain ⟨ML, hML⟩ : ∃ M, (chgs R Q).length = M := ⟨_, rfl⟩
  rw [hML] at cs2 ⊢
  have CS2 := box cs2
  clear cs2 zl hML q2 B1 r0 r1 Rs1
  go_wp2_with fail
  refine (KC.out R b0 _ bR (FB.out FF.out B2) r02).mono ?_
  rintro r w3 ⟨b2, rfl, g2, r2, q3⟩
  have B3 := btr B2 q3
  have r03 := heap_of q3 _ _ _ r02
  have r13 := heap_of q3 _ _ _ r12
  have Rs3 := heap_of q3 _ _ _ Rs2
  have CS3 := cs_mono CS2.out q3
  have l2 := (Array.getElem?_eq_some_iff.1 r2).1
  have z3 := q3.size
  have N3 : Box (w.heap.size + 1 + 1 < b0 ∧ b0 < b1 ∧ b1 < b2 ∧ b2 < w3.heap.size) := box (by have := N1.out; omega)
  clear B2 r02 r12 Rs2 q3 g2 l2 z3 z2
  go_wp2_with fail
  refine (PC.out b2 _ _ (FB.out FF.out B3) r2 CS3).mono ?_
  rintro r w4 ⟨rfl, r24, o4⟩
  have B4 := Only.toBelow B3 o4 (by have := N3.out; omega) B3.size
  have r04 := Only.row o4 (by have := N3.out; omega) r03
  have r14 := Only.row o4 (by have := N3.out; omega) r13
  have Rs4 := Only.row o4 (by have := N3.out; omega) Rs3
  have N4 : Box (b2 < w4.heap.size) := box (Array.getElem?_eq_some_iff.1 r24).1
  clear B3 r03 r13 Rs3 o4 r2 CS3
  go_wp2_with fail
  refine (KS.out F Q b2 b1 _ bF bQ (FB.out FF.out B4) r24 r14).mono ?_
  rintro r w5 ⟨rfl, q5⟩
  rw [hF]
  have B5 := btr B4 q5
  have r05 := heap_of q5 _ _ _ r04
  have r15 := heap_of q5 _ _ _ r14
  have r25 := heap_of q5 _ _ _ r24
  have Rs5 := heap_of q5 _ _ _ Rs4
  clear B4 r04 r14 r24 Rs4 q5
  go_wp2_with fail
  refine (KT.out R b0 _ bR (FB.out FF.out B5) r05).mono ?_
  rintro r w6 ⟨rfl, q6⟩
  have B6 := btr B5 q6
  have r06 := heap_of q6 _ _ _ r05
  have r16 := heap_of q6 _ _ _ r15
  have r26 := heap_of q6 _ _ _ r25
  have Rs6 := heap_of q6 _ _ _ Rs5
  clear B5 r05 r15 r25 Rs5 q6
  go_wp2_with fail
  refine (KF.out R bR.1 _ (FB.out FF.out B6)).mono ?_
  rintro r w7 ⟨b3, rfl, g3, r37, q7⟩
  have B7 := btr B6 q7
  have r07 := heap_of q7 _ _ _ r06
  have r17 := heap_of q7 _ _ _ r16
  have r27 := heap_of q7 _ _ _ r26
  have Rs7 := heap_of q7 _ _ _ Rs6
  clear B6 r06 r16 r26 Rs6 q7 g3
  go_wp2_with fail
  refine (KS.out _ R b3 b0 _ bRR bR (FB.out FF.out B7) r37 r07).mono ?_
  rintro r w8 ⟨rfl, q8⟩
  rw [hRR]
  have B8 := btr B7 q8
  have r08 := heap_of q8 _ _ _ r07
  have r18 := heap_of q8 _ _ _ r17
  have r28 := heap_of q8 _ _ _ r27
  have Rs8 := heap_of q8 _ _ _ Rs7
  clear B7 r07 r17 r27 Rs7 q8 r37
  go_wp2_with fail
  refine (KT.out Q b1 _ bQ (FB.out FF.out B8) r18).mono ?_
  rintro r w9 ⟨rfl, q9⟩
  have bw := bal w9 (Obj.cells (rf Q) 28)
  have Rw := heap_alloc_last w9 (Obj.cells (rf Q) 28)
  have B9 := btr (btr B8 q9) bw
  have r19 := heap_of bw _ _ _ (heap_of q9 _ _ _ r18)
  have r29 := heap_of bw _ _ _ (heap_of q9 _ _ _ r28)
  have Rs9 := heap_of bw _ _ _ (heap_of q9 _ _ _ Rs8)
  have N9 : Box (w.heap.size + 1 + 1 < b1 ∧ b1 < b2 ∧ b2 < w9.heap.size) := box (by have := N3.out; have := (Array.getElem?_eq_some_iff.1 (heap_of q9 _ _ _ r28)).1; omega)
  clear B8 r08 r18 r28 Rs8 q9 bw
  obtain ⟨g0, g1, g2, g3, g4, g5, g6, g7⟩ := st_cells Rs9
  go_wp2_with fail
  refine (PP.out b1 _ (FB.out FF.out B9) r19).mono ?_
  rintro r w10 ⟨rfl, r110, o10⟩
  have B10 := Only.toBelow B9 o10 (by have := N9.out; omega) B9.size
  have Rw10 := Only.row o10 (by have := N9.out; omega) Rw
  have r210 := Only.row o10 (by have := N9.out; omega) r29
  have Rs10 := Only.row o10 (by have := N9.out; omega) Rs9
  clear B9 r19 r29 Rs9 o10 Rw g0 g1 g2 g3 g4 g5 g6 g7
  go_wp2_with fail
  refine (KT.out Q2 b1 _ bQ2 (FB.out FF.out B10) r110).mono ?_
  rintro r w11 ⟨rfl, q11⟩
  have bw := bal w11 (Obj.cells (rf Q2) 28)
  have Rn := heap_alloc_last w11 (Obj.cells (rf Q2) 28)
  have B11 := btr (btr B10 q11) bw
  have r111 := heap_of bw _ _ _ (heap_of q11 _ _ _ r110)
  have r211 := heap_of bw _ _ _ (heap_of q11 _ _ _ r210)
  have Rs11 := heap_of bw _ _ _ (heap_of q11 _ _ _ Rs10)
  have Rw11 := heap_of bw _ _ _ (heap_of q11 _ _ _ Rw10)
  clear B10 r110 r210 Rs10 Rw10 q11 bw
  obtain ⟨g0, g1, g2, g3, g4, g5, g6, g7⟩ := st_cells Rs11
  have heqb := eqb
  have heb := ebb_own (u : Nat) (v : Nat)
  go_wp2_with fail
  refine (PG.out b1 _ (FB.out FF.out B11) r111).mono ?_
  rintro r w12 ⟨rfl, q12⟩
  have bw := bal w12 (Obj.cells #[.int .u64 (u : Nat), .int .u64 (v : Nat)] 25)
  have Rg := heap_alloc_last w12 (Obj.cells #[.int .u64 (u : Nat), .int .u64 (v : Nat)] 25)
  have B12 := btr (btr B11 q12) bw
  have r112 := heap_of bw _ _ _ (heap_of q12 _ _ _ r111)
  have r212 := heap_of bw _ _ _ (heap_of q12 _ _ _ r211)
  have Rs12 := heap_of bw _ _ _ (heap_of q12 _ _ _ Rs11)
  have Rw12 := heap_of bw _ _ _ (heap_of q12 _ _ _ Rw11)
  have Rn12 := heap_of bw _ _ _ (heap_of q12 _ _ _ Rn)
  clear B11 r111 r211 Rs11 Rw11 Rn q12 bw g0 g1 g2 g3 g4 g5 g6 g7
  obtain ⟨g0, g1, g2, g3, g4, g5, g6, g7⟩ := st_cells Rs12
  go_wp2_with fail
  refine (PL.out b1 _ (FB.out FF.out B12) r112).mono ?_
  rintro r w13 ⟨rfl, q13⟩
  have bw := bal w13 (Obj.cells #[.int .u64 (u : Nat), .int .u64 (v : Nat)] 25)
  have Rl := heap_alloc_last w13 (Obj.cells #[.int .u64 (u : Nat), .int .u64 (v : Nat)] 25)
  have B13 := btr (btr B12 q13) bw
  have r213 := heap_of bw _ _ _ (heap_of q13 _ _ _ r212)
  have Rs13 := heap_of bw _ _ _ (heap_of q13 _ _ _ Rs12)
  have Rw13 := heap_of bw _ _ _ (heap_of q13 _ _ _ Rw12)
  have Rn13 := heap_of bw _ _ _ (heap_of q13 _ _ _ Rn12)
  have Rg13 := heap_of bw _ _ _ (heap_of q13 _ _ _ Rg)
  clear B12 r112 r212 Rs12 Rw12 Rn12 Rg q13 bw g0 g1 g2 g3 g4 g5 g6 g7
  go_wp2_with fail
  obtain ⟨V, hV⟩ : ∃ V, w13.alloc (Obj.cells #[.int .u64 (u : Nat), .int .u64 (v : Nat)] 25) = V := ⟨_, rfl⟩
  rw [hV] at Rl B13 r213 Rs13 Rw13 Rn13 Rg13 ⊢
  clear hV
  go_loopw [19] (fun iv wr => ∃ k : Nat, k ≤ 32 ∧ iv = .int .i64 (k : Int) ∧ Below V.heap.size V wr) (fun iv _ => 32 - (intOf iv).toNat)
  case atStart => exact ⟨0, Nat.zero_le _, rfl, Below.refl _ _⟩
  case round =>
    obtain ⟨k, hk, rfl, bR'⟩ := hrel
    have Rs := heap_of bR' _ _ _ Rs13
    have Rw := heap_of bR' _ _ _ Rw13
    have Rn := heap_of bR' _ _ _ Rn13
    obtain ⟨g0, g1, g2, g3, g4, g5, g6, g7⟩ := st_cells Rs
    by_cases hlt : k < 32
    · have dl : decide ((k : Int) < 32) = true := decide_eq_true (by omega)
      have hw1 : IntKind.i64.wrap ((k : Int) + 1) = ((k + 1 : Nat) : Int) := by rw [IntKind.wrap_i64]; omega
      have hb0 : (0 : Int) ≤ (k : Int) := by omega
      have hb1 : (k : Int) < 32 := by omega
      have x0 := rf_cell Rn k (by omega)
      have x1 := rf_cell Rn (32 + k * 2) (by omega)
      have x2 := rf_cell Rn (32 + k * 2 + 1) (by omega)
      have y0 := rf_cell Rw k (by omega)
      have y1 := rf_cell Rw (32 + k * 2) (by omega)
      have y2 := rf_cell Rw (32 + k * 2 + 1) (by omega)
      rw [hX.out k hlt] at x0
      have d0 : (((Q k : Nat) : Int) != ((Q k : Nat) : Int)) = false := by simp
      cases dn : ((k : Int) != n)
      · go_wp2_with fail
        go_quiet (fail)
        obtain ⟨w21, hw, B31, hh⟩ := quiet_world bR' nq
        rw [hw]
        go_wp2
        go_roundw
        case rel => exact ⟨k + 1, by omega, by first | rfl | simp, B31⟩
        case measure => simp [intOf]; omega
      · obtain ⟨e1, e2⟩ := hQF.out k hlt (by simpa using dn)
        rw [e1] at x1
        rw [e2] at x2
        have hes := ebb_own (Q (32 + k * 2) : Nat) (Q (32 + k * 2 + 1) : Nat)
        clear e1 e2
        go_wp2_with fail
        go_quiet (fail)
        obtain ⟨w21, hw, B31, hh⟩ := quiet_world bR' nq
        rw [hw]
        go_wp2
        go_roundw
        case rel => exact ⟨k + 1, by omega, by first | rfl | simp, B31⟩
        case measure => simp [intOf]; omega
    · obtain rfl : k = 32 := by omega
      have r2 := heap_of bR' _ _ _ r213
      have Rg := heap_of bR' _ _ _ Rg13
      have Rl' := heap_of bR' _ _ _ Rl
      have B14 := btr B13 bR'
      have heq := eqrf F Q bF.1 bQ.1
      rw [hF] at heq
      obtain ⟨Fw, hF1, hF2⟩ := below_fun wr
      have fg0 := fun u => cell7 (heap_of (hF1 u) _ _ _ Rg) 0 _ rfl
      have fg1 := fun u => cell7 (heap_of (hF1 u) _ _ _ Rg) 1 _ rfl
      have fl0 := fun u => cell7 (heap_of (hF1 u) _ _ _ Rl') 0 _ rfl
      have fl1 := fun u => cell7 (heap_of (hF1 u) _ _ _ Rl') 1 _ rfl
      have fs4 := fun u => (st_cells (heap_of (hF1 u) _ _ _ Rs)).2.2.2.2.1
      have fs5 := fun u => (st_cells (heap_of (hF1 u) _ _ _ Rs)).2.2.2.2.2.1
      have fw := box (fun u => rf_range (heap_of (hF1 u) _ _ _ Rw))
      have FG : Box (∀ u, T (Fw u)) := box (fun u => FB.out FF.out (btr B14 (hF1 u)))
      have K0 := box (fun u => KT.out F b2 (Fw u) bF (FG.out u) (heap_of (hF1 u) _ _ _ r2))
      go_wp2_with fail
      refine wp_region_below Fw hF2 (by kernel_rfl) (by kernel_rfl) ?_
      repeat first | (go_big_quiet_want; refine quiet_ld _ _ rfl _ _ rfl (rf Q).toList _ fw.out hu rfl (hi Q) ?_; simp only [Array.toArray_toList, Act.put, List.setIfInBounds_toArray, List.set_cons_zero, List.set_cons_succ]; go_big_quiet_on) | go_big_quiet_step (first | (go_at_call 12; exact quietF hF1 hF2 (K0.out _)) | (go_at_call 9; exact quietF hF1 hF2 (KL.out _ (FG.out _))) | fail)
      refine wpQuiet_nil ?_
      rintro _ ⟨uW, rfl⟩
      have BE := btr B14 (hF1 uW)
      go_wp2
      go_ret
      exact ⟨rfl, BE⟩
end Go.Proofs.YtjbnifhpbdjonaaDoor
namespace Go.Proofs.YtjbnifhpbdjonaaDoor
set_option maxRecDepth 100000
set_option maxHeartbeats 40000000
set_option maxRecDepth 100000
open Go.RowKit WMath
set_option linter.unusedSimpArgs false
set_option linter.unusedVariables false
def NoR (z0 : Array Value) (tg : TypeId) (p : Option Addr) (w : World) : Prop := p = none ∨ ∃ b, p = some ⟨b, 0, none⟩ ∧ w.heap[b]? = some (.cells z0 tg)
theorem NoR.mono {z0 : Array Value} {tg : TypeId} {p : Option Addr} {w w' : World} (h : NoR z0 tg p w) (b : Below w.heap.size w w') : NoR z0 tg p w' := h.imp id (fun ⟨g, e, r⟩ => ⟨g, e, heap_of b _ _ _ r⟩)
theorem wd_three {f : Int} (h : 0 < wdF f) : 0 ≤ f ∧ f ≤ 3 := by
  unfold wdF at h
  (repeat' split at h) <;> omega
theorem box_n23 {f : Int} {B : Nat} (h : fitN f B = true) : f ≤ 3 ∧ B + abN f < 2 ^ 128 ∧ (B + abN f) % 2 ^ wdF f = B ∧ ubN f (B + abN f) = B := by
  obtain ⟨hp, hB⟩ := of_decide_eq_true h
  have W := wdF_le f
  have p := Nat.two_pow_pos (wdF f)
  have e : (2 : Nat) ^ 128 = 2 ^ wdF f * 2 ^ (128 - wdF f) := by rw [← Nat.pow_add, show wdF f + (128 - wdF f) = 128 by omega]
  have a : abN f = 2 ^ wdF f * (2 ^ (128 - wdF f) - 1) := by unfold abN; rw [e, Nat.mul_sub, Nat.mul_one]
  have d : (B + abN f) / 2 ^ wdF f = 2 ^ (128 - wdF f) - 1 := by rw [a, Nat.add_mul_div_left _ _ p, Nat.div_eq_of_lt hB, Nat.zero_add]
  have m : (B + abN f) % 2 ^ wdF f = B := by rw [a, Nat.add_mul_mod_self_left, Nat.mod_eq_of_lt hB]
  refine ⟨(wd_three hp).2, ?_, m, ?_⟩
  · have : 2 ^ wdF f ≤ 2 ^ 128 := Nat.pow_le_pow_right (by decide) W
    unfold abN
    omega
  · unfold ubN
    rw [if_pos (by unfold isN; exact decide_eq_true ⟨hp, d⟩), m]
theorem bv7_back {N : Nat} : (bv7 N).2 + 18446744073709551616 * (bv7 N).1 = N := by
  unfold bv7
  dsimp only
  omega
theorem bv7_of {u v : Nat} (hv : v < 18446744073709551616) : bv7 (v + 18446744073709551616 * u) = (u, v) := by
  unfold bv7
  rw [Nat.add_mul_div_left _ _ (by decide), Nat.div_eq_of_lt hv, Nat.zero_add, Nat.add_mul_mod_self_left, Nat.mod_eq_of_lt hv]
theorem up_same (R : Nat → Nat) (k v : Nat) : up R k v k = v := by unfold up; rw [if_pos rfl]
theorem up_else {R : Nat → Nat} {k v j : Nat} (h : j ≠ k) : up R k v j = R j := by unfold up; rw [if_neg h]
theorem pt_all (R : Nat → Nat) (f n : Int) {u v : Nat} (hv : v < 18446744073709551616) :
    ((ptV R f n u v).2 = 2 ∧ (ptV R f n u v).1 = R) ∨ ((ptV R f n u v).2 = 0 ∧ gtV (ptV R f n u v).1 f n = (u, v, 0) ∧ lwV (ptV R f n u v).1 f n = (u, v, 0) ∧ (∀ i, i < 32 → (ptV R f n u v).1 i = R i) ∧ ∀ i : Nat, i < 32 → (i : Int) ≠ n → (ptV R f n u v).1 (32 + i * 2) = R (32 + i * 2) ∧ (ptV R f n u v).1 (32 + i * 2 + 1) = R (32 + i * 2 + 1)) := by
  by_cases c : (inR n && fitN f (v + 18446744073709551616 * u)) = true
  · refine Or.inr ?_
    unfold ptV
    simp only [if_pos c]
    rw [Bool.and_eq_true] at c
    obtain ⟨hn, hf⟩ := c
    obtain ⟨h3, _, hm, hu⟩ := box_n23 hf
    have hnn : 0 ≤ n ∧ n < 32 := by unfold inR at hn; simpa using hn
    generalize hB : v + 18446744073709551616 * u = B at *
    have hr : ∀ S, prN (up (up S (32 + n.toNat * 2) (bv7 (B + abN f)).1) (32 + n.toNat * 2 + 1) (bv7 (B + abN f)).2) n.toNat = B + abN f := fun S => by
      unfold prN
      rw [up_same, up_else (by omega), up_same]
      exact bv7_back
    have hb : bv7 B = (u, v) := by rw [← hB]; exact bv7_of hv
    have hc : (inR n && decide (f ≤ 3)) = true := by rw [hn, decide_eq_true h3]; rfl
    refine ⟨trivial, ?_, ?_, fun i hi => ?_, fun i hi hne => ⟨?_, ?_⟩⟩
    · unfold gtV
      rw [if_pos hc, hr, hu, hb]
    · unfold lwV
      rw [if_pos hc, hr, hm, hb]
    · rw [up_else (by omega), up_else (by omega)]
    · rw [up_else (by omega), up_else (by omega)]
    · rw [up_else (by omega), up_else (by omega)]
  · refine Or.inl ?_
    unfold ptV
    simp only [if_neg c]
    exact ⟨trivial, trivial⟩
theorem ok_cx (R S : Nat → Nat) (hS : ∀ k, S k < 18446744073709551616) : ∀ k, ChOk (cxK R S k)
  | 0 => fun c hc => by simp [cxK] at hc
  | k + 1 => fun c hc => by
    simp only [cxK, List.mem_append] at hc
    rcases hc with h | h
    · exact ok_cx R S hS k c h
    · split at h
      · simp at h
      · rw [List.mem_singleton] at h
        subst h
        exact ⟨hS _, (show (0 : Nat) < 18446744073709551616 by decide), (show (0 : Nat) < 18446744073709551616 by decide)⟩
theorem ok_cf (R S : Nat → Nat) (hS : ∀ k, S k < 18446744073709551616) : ∀ k, ChOk (cfK R S k)
  | 0 => fun c hc => by simp [cfK] at hc
  | k + 1 => fun c hc => by
    simp only [cfK, List.mem_append] at hc
    rcases hc with h | h
    · exact ok_cf R S hS k c h
    · split at h
      · simp at h
      · rw [List.mem_singleton] at h
        subst h
        exact ⟨(show (0 : Nat) < 18446744073709551616 by decide), hS _, hS _⟩
theorem ok_chgs (R S : Nat → Nat) (hS : Bnd S) : ChOk (chgs R S) := fun c hc => by
  unfold chgs at hc
  rcases List.mem_append.1 hc with h | h
  · exact ok_cx R S hS.1 32 c h
  · exact ok_cf R S hS.1 32 c h
theorem back23 {T : World → Prop} (FB : Box (∀ {w w' : World}, T w → Below w.heap.size w w' → T w')) (rg : (Nat → Nat) → Array Value) (tg : TypeId) (A C : Nat → Nat) (hA : ∀ k, A k < 18446744073709551616) (hC : ∀ k, C k < 18446744073709551616) (how on n fm : Int) (hf0 : 0 ≤ fm) (hf1 : fm ≤ 255) (X u v : Nat) (hu : u < 18446744073709551616) (hv : v < 18446744073709551616) (ao : Option Addr) (L cv : Nat)
    (KF : Box (∀ R : Nat → Nat, (∀ k, R k < 18446744073709551616) → ∀ w, T w → Calls Tryd.prog 7 #[.agg (rf R)] w fun r w' => ∃ b, r = .returned (.pointer (some ⟨b, 0, none⟩)) ∧ w.heap.size ≤ b ∧ w'.heap[b]? = some (.cells (rg (up R 0 0)) tg) ∧ Below w.heap.size w w'))
    (KL : Box (∀ w, T w → Calls Tryd.prog 9 #[] w fun r w' => r = .returned (.bool true) ∧ Below w.heap.size w w'))
    (KC : Box (∀ (R : Nat → Nat) (b : Nat) w, Bnd R → T w → w.heap[b]? = some (.cells (rg R) tg) → Calls Tryd.prog 10 #[.pointer (some ⟨b, 0, none⟩)] w fun r w' => ∃ b', r = .returned (.pointer (some ⟨b', 0, none⟩)) ∧ w.heap.size ≤ b' ∧ w'.heap[b']? = some (.cells (rg R) tg) ∧ Below w.heap.size w w'))
    (KT : Box (∀ (R : Nat → Nat) (b : Nat) w, Bnd R → T w → w.heap[b]? = some (.cells (rg R) tg) → Calls Tryd.prog 12 #[.pointer (some ⟨b, 0, none⟩)] w fun r w' => r = .returned (.agg (rf R)) ∧ Below w.heap.size w w'))
    (KS : Box (∀ (R S : Nat → Nat) (b c : Nat) w, Bnd R → Bnd S → T w → w.heap[b]? = some (.cells (rg R) tg) → w.heap[c]? = some (.cells (rg S) tg) → Calls Tryd.prog 13 #[.pointer (some ⟨b, 0, none⟩), .pointer (some ⟨c, 0, none⟩)] w fun r w' => r = .returned (.bool (rfE R S)) ∧ Below w.heap.size w w'))
    (KH : Box (∀ (R S : Nat → Nat) (b c : Nat) w, Bnd R → Bnd S → T w → w.heap[b]? = some (.cells (rg R) tg) → w.heap[c]? = some (.cells (rg S) tg) → Calls Tryd.prog 14 #[.pointer (some ⟨b, 0, none⟩), .pointer (some ⟨c, 0, none⟩)] w fun r w' => ∃ v, r = .returned (.tuple #[v, .int .i64 0]) ∧ CS w' v (chgs R S) ∧ Below w.heap.size w w'))
    (PC : Box (∀ (R : Nat → Nat) (b : Nat) (l : List Chg) (s1 : Value) w, Bnd R → ChOk l → l.length ≤ 1000000 → T w → w.heap[b]? = some (.cells (rg R) tg) → CS w s1 l → Calls Tryd.prog 28 #[.pointer (some ⟨b, 0, none⟩), s1] w fun r w' => r = .returned (.int .i64 (chgR R l).2) ∧ w'.heap[b]? = some (.cells (rg (chgR R l).1) tg) ∧ Only b w w'))
    (PP : Box (∀ (R : Nat → Nat) (b : Nat) (f n : Int) (u v : Nat) w, Bnd R → 0 ≤ f → f ≤ 255 → u < 18446744073709551616 → v < 18446744073709551616 → T w → w.heap[b]? = some (.cells (rg R) tg) → Calls Tryd.prog 27 #[.pointer (some ⟨b, 0, none⟩), .int .u8 f, .int .i64 n, .agg #[.int .u64 (u : Nat), .int .u64 (v : Nat)]] w fun r w' => r = .returned (.int .i64 (ptV R f n u v).2) ∧ w'.heap[b]? = some (.cells (rg (ptV R f n u v).1) tg) ∧ Only b w w'))
    (PG : Box (∀ (R : Nat → Nat) (b : Nat) (f n : Int) w, Bnd R → 0 ≤ f → f ≤ 255 → T w → w.heap[b]? = some (.cells (rg R) tg) → Calls Tryd.prog 22 #[.pointer (some ⟨b, 0, none⟩), .int .u8 f, .int .i64 n] w fun r w' => r = .returned (.tuple #[.agg #[.int .u64 ((gtV R f n).1 : Nat), .int .u64 ((gtV R f n).2.1 : Nat)], .int .i64 (gtV R f n).2.2]) ∧ Below w.heap.size w w'))
    (PL : Box (∀ (R : Nat → Nat) (b : Nat) (f n : Int) w, Bnd R → 0 ≤ f → f ≤ 255 → T w → w.heap[b]? = some (.cells (rg R) tg) → Calls Tryd.prog 23 #[.pointer (some ⟨b, 0, none⟩), .int .u8 f, .int .i64 n] w fun r w' => r = .returned (.tuple #[.agg #[.int .u64 ((lwV R f n).1 : Nat), .int .u64 ((lwV R f n).2.1 : Nat)], .int .i64 (lwV R f n).2.2]) ∧ Below w.heap.size w w'))
    (w : World) (hT : T w) : Calls Tryd.prog 6 #[.agg (rf A), .agg (rf C), .agg #[.int .i64 how, .int .i64 on, .int .i64 n, .int .u64 (X : Nat), .int .u64 (u : Nat), .int .u64 (v : Nat), .int .u8 fm, .slice ao L cv]] w fun r w' => r = .returned (.bool true) ∧ Below w.heap.size w w' := by
  have bR : Bnd (up A 0 0) := bnd_up0 hA
  have bQ : Bnd (up C 0 0) := bnd_up0 hC
  obtain ⟨F, hch, hFe⟩ := chg_chgs (up A 0 0) (up C 0 0) (by rw [up_same, up_same])
  have oC := ok_chgs (up A 0 0) (up C 0 0) bQ
  have bF : Bnd F := by
    have := bnd_ch bR oC
    rw [hch] at this
    exact this
  have hF : rfE F (up C 0 0) = true := rfE_iff.2 hFe
  have hRR : rfE (up (up A 0 0) 0 0) (up A 0 0) = true := rfE_iff.2 (fun k _ => by unfold up; split <;> rfl)
  have bQ2 := bnd_pt bQ fm n hu hv
  have PC' : Box (∀ (b : Nat) (s1 : Value) w, T w → w.heap[b]? = some (.cells (rg (up A 0 0)) tg) → CS w s1 (chgs (up A 0 0) (up C 0 0)) → Calls Tryd.prog 28 #[.pointer (some ⟨b, 0, none⟩), s1] w fun r w' => r = .returned (.int .i64 0) ∧ w'.heap[b]? = some (.cells (rg F) tg) ∧ Only b w w') := box (fun b s1 w hT hb hc => by
    have := PC.out (up A 0 0) b _ s1 w bR oC (Nat.le_trans (chgs_len _ _) (by decide)) hT hb hc
    rw [hch] at this
    exact this)
  rcases pt_all (up C 0 0) fm n (u := u) hv with ⟨e1, e2⟩ | ⟨e1, e2, e3, e4, e5⟩
  · refine rb_no FB rg tg A C _ _ F _ hA hC rfl rfl bR bQ bF bQ2 hF hRR (bnd_up0 bR.1) how on n fm X u v ao L cv KF KL KC KT KS KH PC' (box (fun b w hT hb => ?_)) (by rw [e2]; exact rfE_self _) w hT
    have := PP.out (up C 0 0) b fm n u v w bQ hf0 hf1 hu hv hT hb
    rw [e1] at this
    exact this
  · refine rb_yes FB rg tg A C _ _ F _ hA hC rfl rfl bR bQ bF bQ2 hF hRR (bnd_up0 bR.1) how on n fm X u v ao L cv KF KL KC KT KS KH PC' (box (fun b w hT hb => ?_)) (box (fun b w hT hb => ?_)) (box (fun b w hT hb => ?_)) (box e4) (box e5) w hT
    · have := PP.out (up C 0 0) b fm n u v w bQ hf0 hf1 hu hv hT hb
      rw [e1] at this
      exact this
    · have := PG.out _ b fm n w bQ2 hf0 hf1 hT hb
      rw [e2] at this
      exact this
    · have := PL.out _ b fm n w bQ2 hf0 hf1 hT hb
      rw [e3] at this
      exact this
def CLw (w : World) (sv : Value) (l : List Chg) : Prop := (sv = .slice none 0 0 ∧ l = []) ∨ ∃ (ad : Addr) (L cv : Nat), sv = .slice (some ad) L cv ∧ l.length = L ∧ L ≤ cv ∧ (L = 0 ∨ (ad.spot = none ∧ ad.block < w.heap.size)) ∧ ∀ j u, (chsC l)[j]? = some u → w.cell? (ad.add j) = some u
theorem CLw.at {w W : World} {b : Nat} {sv : Value} {l : List Chg} (h : CLw w sv l) (q : Below w.heap.size w W) (hb : w.heap.size ≤ b) : CLt W b sv l := by
  rcases h with h | ⟨ad, L, cv, e, hl, hc, hs, hr⟩
  · exact Or.inl h
  · refine Or.inr ⟨ad, L, cv, e, hl, hc, hs.imp id (fun h => ⟨h.1, Nat.lt_of_lt_of_le h.2 q.size⟩), box (fun W' o j u hj => ?_)⟩
    rcases hs with h0 | ⟨sp, hg⟩
    · have : l = [] := List.length_eq_zero_iff.1 (by omega)
      subst this
      simp [chsC] at hj
    · have hh := hr j u hj
      obtain ⟨g, z, s⟩ := ad
      dsimp only at sp hg
      subst sp
      have hadd : (⟨g, z, none⟩ : Addr).add j = ⟨g, z + j, none⟩ := by unfold Addr.add; split <;> simp_all
      rw [hadd] at hh ⊢
      exact only_cell o (by omega) (Nat.lt_of_lt_of_le hg q.size) (below_cell q hg hh)
def nmV (fl : Bool) (n : Int) : ByteArray × Int := if (decide (0 ≤ n) && decide (n < 32)) = true then (nmB fl n.toNat, 0) else (⟨#[]⟩, 2)
end Go.Proofs.YtjbnifhpbdjonaaDoor
