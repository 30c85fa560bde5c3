/-
  What the functions that the statement reaches return: part 7 (P1, PT).
-/
import Derived.Sort.Grow
import Derived.Deep.Draws
import Derived.Test.YtmndjhcmomejjaaDoorOs06
namespace Go.Proofs.YtmndjhcmomejjaaDoor
set_option maxRecDepth 100000
set_option maxHeartbeats 40000000
set_option maxRecDepth 100000
open Go.RowKit WMath
set_option linter.unusedSimpArgs false
set_option linter.unusedVariables false
def Bed (B : Nat) (w w' : World) : Prop := Below B w w' ∧ w.drawn ≤ w'.drawn
theorem Bed.refl (B : Nat) (w : World) : Bed B w w := ⟨Below.refl _ _, Nat.le_refl _⟩
theorem Bed.trans {B : Nat} {a b c : World} (h : Bed B a b) (k : Bed B b c) : Bed B a c := ⟨h.1.trans k.1, Nat.le_trans h.2 k.2⟩
theorem Bed.mono {B B' : Nat} {w w' : World} (h : Bed B w w') (hB : B' ≤ B) : Bed B' w w' := ⟨h.1.mono hB, h.2⟩
theorem Bed.drew {B : Nat} {a w : World} (h : Bed B a w) : Bed B a w.drew := ⟨h.1.drew, Nat.le_trans h.2 (Nat.le_succ _)⟩
theorem Bed.alloc {B : Nat} {a w : World} (h : Bed B a w) (hB : B ≤ w.heap.size) (o : Obj) : Bed B a (w.alloc o) := ⟨h.1.alloc hB o, h.2⟩
theorem Bed.setCell {B : Nat} {a w : World} (h : Bed B a w) {p : Addr} (hp : B ≤ p.block) (u : Value) : Bed B a (w.setCell p u) := ⟨h.1.setCell hp u, h.2⟩
theorem Bed.size {B : Nat} {w w' : World} (h : Bed B w w') : w.heap.size ≤ w'.heap.size := h.1.size
theorem Bed.block {B : Nat} {w w' : World} (h : Bed B w w') : ∀ k, k < B → w'.heap[k]? = w.heap[k]? := h.1.block
theorem bal7d (w : World) (o : Obj) : Bed w.heap.size w (w.alloc o) := (Bed.refl _ _).alloc (Nat.le_refl _) _
theorem btr7d {a b c : World} (h : Bed a.heap.size a b) (k : Bed b.heap.size b c) : Bed a.heap.size a c := h.trans (k.mono h.size)
theorem bald (w : World) (o : Obj) : Bed w.heap.size w (w.alloc o) := bal7d w o
theorem btrd {a b c : World} (h : Bed a.heap.size a b) (k : Bed b.heap.size b c) : Bed a.heap.size a c := btr7d h k
theorem fatBd {w w' : World} (h : FAt w) (hb : Bed w.heap.size w w') : FAt w' := fatB h hb.1
theorem heap_ofd {W w1 : World} (hb : Bed W.heap.size W w1) (b : Nat) (c : Array Value) (t : TypeId) (h : W.heap[b]? = some (.cells c t)) : w1.heap[b]? = some (.cells c t) := heap_of hb.1 b c t h
theorem bed_grow {w w' : World} (h : Bed w.heap.size w w') : ∃ q os, w' = Go.Sort.grow (w.drewN q) os := by
  obtain ⟨⟨h1, h2, h3, h4, h5⟩, h6⟩ := h
  refine ⟨w'.drawn - w.drawn, w'.heap.extract w.heap.size w'.heap.size, ?_⟩
  obtain ⟨hp, tp, dr, os, ou⟩ := w'
  obtain ⟨hp0, tp0, dr0, os0, ou0⟩ := w
  simp only at h1 h2 h3 h4 h5 h6
  subst h1 h2 h3
  unfold Go.Sort.grow World.drewN
  simp only [World.mk.injEq, true_and, and_true]
  refine ⟨?_, by omega⟩
  apply Array.ext_getElem?
  intro i
  by_cases hi : i < hp0.size
  · rw [h5 i hi, Array.getElem?_append_left hi]
  · rw [Array.getElem?_append_right (by omega), Array.getElem?_extract]
    split
    · congr 1; omega
    · exact Array.getElem?_eq_none (by omega)
theorem below_fund (W : World) : ∃ F : World → World, (∀ u, Bed W.heap.size W (F u)) ∧ (∀ u, Bed W.heap.size W u → F u = u) := by
  classical
  refine ⟨fun u => if Bed W.heap.size W u then u else W, fun u => ?_, fun u h => if_pos h⟩
  by_cases h : Bed W.heap.size W u
  · simp only [h, if_true]
  · simp only [h, if_false]; exact Bed.refl _ _
theorem wp_region_belowd {P : Program} {id : Nat} {Q : Exit → Act → World → Prop} {a : Act} {W : World} {l : List Oper} (F : World → World) (hF : ∀ u, Bed W.heap.size W u → F u = u)
    (hm : P.follows .mixedOrders = true) (hB : Region.lexB .any l.toArray = true)
    (h : wpQuiet P l.toArray (fun w' => ∃ u, w' = F u) (fun a' => ∀ w', (∃ u, w' = F u) → Q .normal a' w') l a) : (Code.region id l.toArray true).wp P Q a W :=
  wp_region_quiet (C := fun w' => ∃ u, w' = F u) hm hB ⟨W.drew, (hF _ ((Bed.refl _ _).drew)).symm⟩ (by simpa using h)
theorem quietFd {P : Program} {f : Nat} {args : Array Value} {v : Value} {W : World} {F : World → World} (h1 : ∀ u, Bed W.heap.size W (F u)) (h2 : ∀ u, Bed W.heap.size W u → F u = u) {u : World}
    (h : Calls P f args (F u) fun e w' => e = .returned v ∧ Bed (F u).heap.size (F u) w') : Calls P f args (F u) fun e w'' => e = .returned v ∧ ∃ u', w'' = F u' :=
  h.mono fun _ w' ⟨he, hm⟩ => ⟨he, w', (h2 _ ((h1 u).trans (hm.mono (h1 u).size))).symm⟩
theorem opn1d (w : World) (o : Obj) : (w.alloc o).heap[w.heap.size]? = some o ∧ Bed w.heap.size w (w.alloc o) := ⟨heap_alloc_last _ _, (Bed.refl _ _).alloc (Nat.le_refl _) _⟩
theorem opn2d (w : World) (o1 o2 : Obj) : ((w.alloc o1).alloc o2).heap[w.heap.size]? = some o1 ∧ ((w.alloc o1).alloc o2).heap[w.heap.size + 1]? = some o2 ∧ Bed w.heap.size w ((w.alloc o1).alloc o2) := by
  obtain ⟨r0, b⟩ := opn1d w o1
  have z : (w.alloc o1).heap.size = w.heap.size + 1 := by simp only [size_al]
  exact ⟨by rw [heap_below _ _ _ (by omega)]; exact r0, by rw [← z]; exact heap_alloc_last _ _, b.alloc (by omega) _⟩
theorem set2_belowd {n : Nat} {w wr : World} {b : Nat} (h : Bed n w wr) (hb : n ≤ b) (v0 v1 : Value) : Bed n w ((wr.setCell ⟨b, 0, none⟩ v0).setCell ⟨b, 1, none⟩ v1) := (h.setCell (by exact hb) _).setCell (by exact hb) _
theorem s_onesd (n H L : Int) (h0 : 0 ≤ n) (h1 : n ≤ 18446744073709551615) (hH : rHi 1 n = H) (hL : rLo 1 n = L) (K M : Int) (hK : (if L = 0 then IntKind.u64.wrap (H - 1) else H) = K) (hM : IntKind.u64.wrap (L - 1) = M) (w : World) :
    Calls Tryd.prog 71 #[.int .u64 n] w fun e w' => e = .returned (.agg #[.int .u64 K, .int .u64 M]) ∧ Bed w.heap.size w w' := by
  by_cases hz : L = 0
  · have hd : (L == 0) = true := by simp [hz]
    rw [if_pos hz] at hK
    subst hz
    rw [show (0 : Int) - 1 = -1 by decide] at hM
    go_enter Tryd.func71, Tryd.ntmps71
    go_wp2_with fail
    refine (s_raised 1 n H _ h0 h1 hH hL _).mono ?_
    rintro r w2 ⟨rfl, rfl⟩
    go_wp2
    exact bodyPost_ret (v := .agg #[.int .u64 K, .int .u64 M]) (by simp [results, Tryd.results71, go_sem]) rfl ⟨rfl, (((Bed.refl _ _).alloc (Nat.le_refl _) _).alloc (by simp only [size_al]; omega) _).alloc (by simp only [size_al]; omega) _⟩
  · have hd : (L == 0) = false := by simp [hz]
    rw [if_neg hz] at hK
    subst hK
    go_enter Tryd.func71, Tryd.ntmps71
    go_wp2_with fail
    refine (s_raised 1 n H _ h0 h1 hH hL _).mono ?_
    rintro r w2 ⟨rfl, rfl⟩
    go_wp2
    exact bodyPost_ret (v := .agg #[.int .u64 H, .int .u64 M]) (by simp [results, Tryd.results71, go_sem]) rfl ⟨rfl, (((Bed.refl _ _).alloc (Nat.le_refl _) _).alloc (by simp only [size_al]; omega) _).alloc (by simp only [size_al]; omega) _⟩
def R7d (w : World) (I J : Int) (w5 : World) (g : Nat) : Prop := Bed w.heap.size w w5 ∧ w5.heap[g]? = some (.cells #[.int .u64 I, .int .u64 J] 25) ∧ w5.heap[w.heap.size + 1]? = some (.cells #[.int .u64 0, .int .u64 0] 25) ∧ w.heap.size + 1 < g
theorem bel_ald {w W : World} (h : Bed w.heap.size w W) (o : Obj) : Bed w.heap.size w (W.alloc o) := btr7d h (bal7d _ _)
theorem bel_drd {w W : World} (h : Bed w.heap.size w W) : Bed w.heap.size w W.drew := h.drew
theorem gen7d {X : Act → World → Prop} {t0 t1 t2 t3 t4 t5 t6 t7 t8 t10 t11 t12 t13 t14 t15 t16 t17 t18 t19 t20 t21 t22 t23 t24 t25 t26 t27 t28 : Value} {d : List Deferred} {w W : World} {I J : Int} {G : Nat}
    (key : ∀ w5 g, R7d w I J w5 g → X ⟨#[t0, t1, t2, t3, t4, t5, t6, t7, t8, .pointer (some ⟨g, 0, none⟩), t10, t11, t12, t13, t14, t15, t16, t17, t18, t19, t20, t21, t22, t23, t24, t25, t26, t27, t28], d⟩ w5) (r : R7d w I J W G) :
    X ⟨#[t0, t1, t2, t3, t4, t5, t6, t7, t8, .pointer (some ⟨G, 0, none⟩), t10, t11, t12, t13, t14, t15, t16, t17, t18, t19, t20, t21, t22, t23, t24, t25, t26, t27, t28], d⟩ W := key W G r
set_option maxHeartbeats 40000000 in
theorem s_pack_anyd (f x a b p n H L I J q m M N I' J' : Int) (neg : Bool) (h0 : 0 ≤ f) (h1 : f ≤ 255) (hc : fC f = 0) (hp : fP f = p) (hn : IntKind.u64.wrap (p - 1) = n) (n0 : 0 ≤ n) (n1 : n ≤ 18446744073709551615)
    (hH : rHi x n = H) (hL : rLo x n = L) (hI : bits .or .u64 H a = I) (hJ : bits .or .u64 L b = J) (hq : fW f = q) (hm : q - 1 = m) (m0 : 0 ≤ m) (m1 : m ≤ 127) (hM : rHi 1 m = M) (hN : rLo 1 m = N) (hI' : bits .or .u64 I M = I') (hJ' : bits .or .u64 J N = J') (w : World) (hT : FAt w) :
    Calls Tryd.prog 93 #[.int .u8 f, .bool neg, .int .u64 x, .agg #[.int .u64 a, .int .u64 b]] w fun e w' => e = .returned (.agg #[.int .u64 (if neg then I' else I), .int .u64 (if neg then J' else J)]) ∧ Bed w.heap.size w w' := by
  have k1 : Box (∀ w : World, FAt w → Calls Tryd.prog 96 #[.int .u8 f] w fun e w' => e = .returned (.int .u64 n) ∧ w' = w.alloc (.cells (fR f) 141)) := box (fun w hw => s_fraction f p n h0 h1 hp hn w hw)
  have k2 := box (s_raised x n H L n0 n1 hH hL)
  have k3 := box (s_join H L a b I J hI hJ)
  have k0 := box (s_check_is f 0 h0 h1 hc)
  have k4 : Box (∀ w : World, FAt w → Calls Tryd.prog 72 #[.int .u8 f] w fun e w' => e = .returned (.int .i64 q) ∧ w' = w.alloc (.cells (fR f) 141)) := box (fun w hw => s_width f q h0 h1 hq w hw)
  have k5 := box (s_raised 1 m M N m0 (by omega) hM hN)
  have k6 := box (s_join I J M N I' J' hI' hJ')
  have T0 := box hT
  have TT := box (fatBd hT (btr7d (bal7d w (.cells #[.int .u64 a, .int .u64 b] 25)) (bal7d _ (.cells #[.int .u64 0, .int .u64 0] 25))))
  have e1 : IntKind.i64.wrap (q - 1) = m := by rw [hm, IntKind.wrap_i64]; omega
  have e2 : IntKind.u64.wrap m = m := by rw [IntKind.wrap_u64]; omega
  have e3 : IntKind.i64.wrap m = m := by rw [IntKind.wrap_i64]; omega
  clear hT hp hn hH hL hI hJ hc h0 h1 n0 n1 hq hM hN hI' hJ' m0 m1 hm
  go_enter Tryd.func93, Tryd.ntmps93
  go_wp2_with fail
  refine (k0.out _).mono ?_
  rintro r w' ⟨rfl, rfl⟩
  go_wp2_with fail
  apply cut7
  · intro key
    go_region_with (first
      | (go_at_call 96; refine (k1.out _ (by repeat (first | exact TT.out | refine fat_al ?_ _ | refine fat_dr ?_))).mono ?_; rintro r w2 ⟨rfl, rfl⟩)
      | (go_at_call 95; refine (k2.out _).mono ?_; rintro r w2 ⟨rfl, rfl⟩)
      | (go_at_call 128; refine (k3.out _).mono ?_; rintro r w2 ⟨rfl, rfl⟩))
    all_goals
      refine gen7d (w := w) (I := I) (J := J) key ⟨?_, ?_, ?_, ?_⟩
      · repeat (first | exact Bed.refl _ _ | refine bel_drd ?_ | refine bel_ald ?_ _)
      · repeat (first | refine row_dr ?_ | (refine row_last ?_; simp only [size_al]; done) | refine row_al ?_ _)
      · repeat (first | refine row_dr ?_ | (refine row_last ?_; simp only [size_al]; done) | refine row_al ?_ _)
      · omega
  rintro w5 g ⟨B5, R5, S5, hg⟩
  have F5 := box (fatBd T0.out B5)
  have c50 := cell7 R5 0 _ rfl
  have c51 := cell7 R5 1 _ rfl
  cases neg
  · have q0 := fz (k := 0) S5
    have q1 := fz (k := 1) S5
    have d0 := cell7 S5 0 _ rfl
    have d1 := cell7 S5 1 _ rfl
    obtain ⟨E0, E1⟩ := set2_cells S5 (.int .u64 I) (.int .u64 J)
    go_wp2
    exact bodyPost_ret (v := .agg #[.int .u64 I, .int .u64 J]) (by simp [results, Tryd.results93, go_sem, E0, E1]) rfl ⟨rfl, set2_belowd B5 (by omega) _ _⟩
  · have r1 := row_al R5 (.cells (fR f) 141)
    have r2 := row_al r1 (.cells #[.int .u64 M, .int .u64 N] 25)
    have r5 := row_al (row_al (row_al r2 (.cells #[.int .u64 I, .int .u64 J] 25)) (.cells #[.int .u64 M, .int .u64 N] 25)) (.cells #[.int .u64 I', .int .u64 J'] 25)
    have s5 := row_al (row_al (row_al (row_al (row_al S5 (.cells (fR f) 141)) (.cells #[.int .u64 M, .int .u64 N] 25)) (.cells #[.int .u64 I, .int .u64 J] 25)) (.cells #[.int .u64 M, .int .u64 N] 25)) (.cells #[.int .u64 I', .int .u64 J'] 25)
    have Q5 : Box (R7d w I' J' _ g) := box ⟨set2_belowd (bel_ald (bel_ald (bel_ald (bel_ald (bel_ald B5 _) _) _) _) _) (by omega) (.int .u64 I') (.int .u64 J'), set2_row r5 _ _, by rw [setCell_other (by omega), setCell_other (by omega)]; exact s5, hg⟩
    have c10 := cell7 r1 0 _ rfl
    have c11 := cell7 r1 1 _ rfl
    have c20 := cell7 r2 0 _ rfl
    have c21 := cell7 r2 1 _ rfl
    have q0 := fz (k := 0) r5
    have q1 := fz (k := 1) r5
    have e50 := cell7 r5 0 _ rfl
    have e51 := cell7 r5 1 _ rfl
    clear r1 r2 r5 s5
    go_wp2_with fail
    apply cut7
    · intro key
      go_region_with (first
        | (go_at_call 72; refine (k4.out _ (by repeat (first | exact F5.out | refine fat_al ?_ _ | refine fat_dr ?_))).mono ?_; rintro r w2 ⟨rfl, rfl⟩)
        | (go_at_call 95; refine (k5.out _).mono ?_; rintro r w2 ⟨rfl, rfl⟩)
        | (go_at_call 128; refine (k6.out _).mono ?_; rintro r w2 ⟨rfl, rfl⟩))
      all_goals
        refine gen7d (w := w) (I := I') (J := J') key ?_
        exact ⟨bel_drd Q5.out.1, row_dr Q5.out.2.1, row_dr Q5.out.2.2.1, hg⟩
    clear R5 S5 F5 c50 c51 c10 c11 c20 c21 q0 q1 e50 e51 B5
    rintro w6 g6 ⟨B6, R6, S6, hg6⟩
    have c60 := cell7 R6 0 _ rfl
    have c61 := cell7 R6 1 _ rfl
    have q0 := fz (k := 0) S6
    have q1 := fz (k := 1) S6
    have d0 := cell7 S6 0 _ rfl
    have d1 := cell7 S6 1 _ rfl
    obtain ⟨E0, E1⟩ := set2_cells S6 (.int .u64 I') (.int .u64 J')
    go_wp2
    exact bodyPost_ret (v := .agg #[.int .u64 I', .int .u64 J']) (by simp [results, Tryd.results93, go_sem, E0, E1]) rfl ⟨rfl, set2_belowd B6 (by omega) _ _⟩
theorem s_pack_isd (f x a b I J : Int) (neg : Bool) (hf : Is4 f) (hI : pkHi f neg x a = I) (hJ : pkLo f neg x b = J) (w : World) (hT : FAt w) :
    Calls Tryd.prog 93 #[.int .u8 f, .bool neg, .int .u64 x, .agg #[.int .u64 a, .int .u64 b]] w fun e w' => e = .returned (.agg #[.int .u64 I, .int .u64 J]) ∧ Bed w.heap.size w w' := by
  subst hI hJ
  have k : 0 ≤ IntKind.u64.wrap (fP f - 1) ∧ IntKind.u64.wrap (fP f - 1) ≤ 18446744073709551615 ∧ 0 ≤ fW f - 1 ∧ fW f - 1 ≤ 127 ∧ fC f = 0 ∧ 0 ≤ f ∧ f ≤ 255 := by
    rcases hf with rfl | rfl | rfl | rfl <;> decide +kernel
  have h := s_pack_anyd f x a b _ _ _ _ _ _ _ _ _ _ _ _ neg k.2.2.2.2.2.1 k.2.2.2.2.2.2 k.2.2.2.2.1 rfl rfl k.1 k.2.1 rfl rfl rfl rfl rfl rfl k.2.2.1 k.2.2.2.1 rfl rfl rfl rfl w hT
  refine h.mono ?_
  rintro r w' ⟨rfl, b⟩
  refine ⟨?_, b⟩
  cases neg <;> rfl
set_option maxHeartbeats 1000000 in
theorem s_zerod (f : Int) (neg : Bool) (hf : Is4 f) (v : Nat) (hv : eZero f neg = v) (w : World) (hT : FAt w) :
    Calls Tryd.prog 109 #[.int .u8 f, .bool neg] w fun e w' => e = .returned (bitsV (bv7 v)) ∧ Bed w.heap.size w w' := by
  subst hv
  have TT := box hT
  have P := box (pk_Zero hf neg)
  obtain ⟨x, y, hxy⟩ : ∃ x y, bv7 (eZero f neg) = (x, y) := ⟨_, _, rfl⟩
  rw [hxy] at P ⊢
  have e0 : bitsV (x, y) = .agg #[.int .u64 (x : Nat), .int .u64 (y : Nat)] := rfl
  rw [e0]
  have f4 := is4_ok hf
  clear hxy hT e0
  have R0 : (w.alloc (.cells #[.int .u64 0, .int .u64 0] 25)).heap[w.heap.size]? = some (.cells #[.int .u64 0, .int .u64 0] 25) := last7 _ _
  have B0 := bal7d w (.cells #[.int .u64 0, .int .u64 0] 25)
  go_enter Tryd.func109, Tryd.ntmps109
  go_wp2_with fail
  refine (s_pack_isd f 0 0 0 _ _ neg hf P.out.1 P.out.2 _ (fatBd TT.out B0)).mono ?_
  rintro r w1 ⟨rfl, b1⟩
  have B1 := btr7d B0 b1
  have R1 := heap_ofd b1 _ _ _ R0
  clear B0 R0 b1
  have q0 := fz (k := 0) R1
  have q1 := fz (k := 1) R1
  have d0 := cell7 R1 0 _ rfl
  have d1 := cell7 R1 1 _ rfl
  obtain ⟨E0, E1⟩ := set2_cells R1 (.int .u64 x) (.int .u64 y)
  go_wp2
  exact bodyPost_ret (v := .agg #[.int .u64 x, .int .u64 y]) (by simp [results, Tryd.results109, go_sem, E0, E1]) rfl ⟨rfl, set2_belowd B1 (by omega) _ _⟩
theorem s_fits_nod (f : Int) (b : Nat × Nat) (h0 : 0 ≤ f) (h1 : f ≤ 255) (hc : fC f = 2) (w : World) (hT : FAt w) :
    Calls Tryd.prog 44 #[.int .u8 f, bitsV b] w fun e w' => e = .returned (.bool false) ∧ Bed w.heap.size w w' := by
  have hq : fW f = 0 := by
    unfold fC at hc
    unfold fW
    split at hc
    · simp at hc
    · rename_i h; rw [if_neg (fun e => h (Or.inl e)), if_neg (fun e => h (Or.inr (Or.inl e))), if_neg (fun e => h (Or.inr (Or.inr (Or.inl e)))), if_neg (fun e => h (Or.inr (Or.inr (Or.inr e))))]
  have TT := box hT
  unfold bitsV
  have B0 := bal7d w (.cells #[.int .u64 b.1, .int .u64 b.2] 25)
  go_enter Tryd.func44, Tryd.ntmps44
  go_wp2_with fail
  refine (s_width f 0 h0 h1 hq _ (fatBd TT.out B0)).mono ?_
  rintro r w' ⟨rfl, rfl⟩
  have B1 := bel_ald B0 (.cells (fR f) 141)
  clear B0
  go_wp2_with fail
  refine (s_onesd 0 0 1 (by decide) (by decide) rfl rfl 0 0 rfl rfl _).mono ?_
  rintro r w2 ⟨rfl, b2⟩
  have B2 := bel_ald (btr7d B1 b2) (.cells #[.int .u64 0, .int .u64 0] 25)
  clear B1 b2
  go_wp2_with fail
  refine (s_check_is f 2 h0 h1 hc _).mono ?_
  rintro r w' ⟨rfl, rfl⟩
  go_wp2
  go_ret
  exact ⟨rfl, B2⟩
set_option maxHeartbeats 1000000 in
theorem s_fitsd (f : Int) (b : Nat × Nat) (o : Bool) (hf : Is4 f) (hb1 : b.1 < 18446744073709551616) (hb2 : b.2 < 18446744073709551616) (p q : Bool) (hp : (bits .andNot .u64 (b.1 : Int) (oHi f) == 0) = p) (hq : (bits .andNot .u64 (b.2 : Int) (oLo f) == 0) = q) (ho : (p && q) = o) (w : World) (hT : FAt w) :
    Calls Tryd.prog 44 #[.int .u8 f, bitsV b] w fun e w' => e = .returned (.bool o) ∧ Bed w.heap.size w w' := by
  have TT := box hT
  have f4 := is4_ok hf
  unfold bitsV
  obtain ⟨b1, b2⟩ := b
  simp only at hb1 hb2 hp hq
  obtain ⟨W, hW⟩ : ∃ W : Int, fW f = W := ⟨_, rfl⟩
  obtain ⟨K, hK⟩ : ∃ W : Int, oHi f = W := ⟨_, rfl⟩
  obtain ⟨M, hM⟩ : ∃ W : Int, oLo f = W := ⟨_, rfl⟩
  rw [hK] at hp
  rw [hM] at hq
  have w0 : IntKind.u64.wrap W = W := by rw [← hW]; rcases hf with rfl | rfl | rfl | rfl <;> decide +kernel
  have wl := fW_lim hW
  have KO : Box (∀ w : World, Calls Tryd.prog 71 #[.int .u64 W] w fun e w' => e = .returned (.agg #[.int .u64 K, .int .u64 M]) ∧ Bed w.heap.size w w') := box (fun w => s_onesd W _ _ (by omega) (by omega) rfl rfl K M (by rw [← hK, ← hW]; rfl) (by rw [← hM, ← hW]; rfl) w)
  have R0 : (w.alloc (.cells #[.int .u64 b1, .int .u64 b2] 25)).heap[w.heap.size]? = some (.cells #[.int .u64 b1, .int .u64 b2] 25) := last7 _ _
  have B0 := bal7d w (.cells #[.int .u64 b1, .int .u64 b2] 25)
  have HW := box hW
  clear hT hW hK hM hb1 hb2 hf wl
  go_enter Tryd.func44, Tryd.ntmps44
  go_wp2_with fail
  refine (s_width f W f4.1 f4.2.1 HW.out _ (fatBd TT.out B0)).mono ?_
  rintro r w' ⟨rfl, rfl⟩
  have B1 := bel_ald B0 (.cells (fR f) 141)
  have R1 := row_al R0 (.cells (fR f) 141)
  clear B0 R0
  go_wp2_with fail
  refine (KO.out _).mono ?_
  rintro r w2 ⟨rfl, b2'⟩
  have R2 := row_al (heap_ofd b2' _ _ _ R1) (.cells #[.int .u64 K, .int .u64 M] 25)
  have B2 := bel_ald (btr7d B1 b2') (.cells #[.int .u64 K, .int .u64 M] 25)
  have c0 := cell7 R2 0 _ rfl
  have c1 := cell7 R2 1 _ rfl
  clear B1 b2' R1
  go_wp2_with fail
  refine (s_check_is f 0 f4.1 f4.2.1 f4.2.2.1 _).mono ?_
  rintro r w' ⟨rfl, rfl⟩
  cases p <;> cases q <;> subst ho
  · go_wp2
    go_ret
    exact ⟨rfl, B2⟩
  · go_wp2
    go_ret
    exact ⟨rfl, B2⟩
  · go_wp2
    go_ret
    exact ⟨rfl, B2⟩
  · go_wp2
    go_ret
    exact ⟨rfl, B2⟩
theorem s_fits_isd (f : Int) (b : Nat × Nat) (o : Bool) (h0 : 0 ≤ f) (h1 : f ≤ 255) (hb1 : b.1 < 18446744073709551616) (hb2 : b.2 < 18446744073709551616) (ho : fitsB f b = o) (w : World) (hT : FAt w) :
    Calls Tryd.prog 44 #[.int .u8 f, bitsV b] w fun e w' => e = .returned (.bool o) ∧ Bed w.heap.size w w' := by
  by_cases h : f ≤ 3
  · refine s_fitsd f b o (is4_of h0 h) hb1 hb2 _ _ rfl rfl ?_ w hT
    rw [fit7 f (is4_of h0 h) b.1 b.2 hb1 hb2, ← ho]
    unfold fitsB
    rw [decide_eq_true h, Bool.true_and]
  · have e : o = false := by rw [← ho]; unfold fitsB; rw [decide_eq_false h, Bool.false_and]
    subst e
    exact s_fits_nod f b h0 h1 (no7 (by omega)).1 w hT
theorem kopn1d (w : World) (o : Obj) : (w.alloc o).heap[w.heap.size]? = some o ∧ Bed w.heap.size w (w.alloc o) := ⟨heap_alloc_last _ _, (Bed.refl _ _).alloc (Nat.le_refl _) _⟩
theorem k_fromd (x y pl : Nat) (v : Int) (hv : bits .or .u64 ((y : Int) / 2 ^ min pl 64) ((x : Int) / 2 ^ min (IntKind.u64.wrap ((pl : Int) - 64)).toNat 64) = v) (w : World) :
    Calls Tryd.prog 118 #[.agg #[.int .u64 (x : Nat), .int .u64 (y : Nat)], .int .u64 (pl : Nat)] w fun e w' => e = .returned (.int .u64 v) ∧ Bed w.heap.size w w' := by
  subst hv
  go_enter Tryd.func118, Tryd.ntmps118
  go_wp2
  go_ret
  exact ⟨rfl, bal7d _ _⟩
theorem kb_widthd (f v : Int) (h0 : 0 ≤ f) (h1 : f ≤ 255) (hv : fW f = v) (w : World) (hT : FAt w) :
    Calls Tryd.prog 72 #[.int .u8 f] w fun e w' => e = .returned (.int .i64 v) ∧ Bed w.heap.size w w' :=
  (s_width f v h0 h1 hv w hT).mono fun _ _ h => ⟨h.1, by rw [h.2]; exact bal7d _ _⟩
theorem kfrom_isd (x y n pl v : Nat) (hx : x < 18446744073709551616) (hy : y < 18446744073709551616) (hn : y + 18446744073709551616 * x = n) (hp : pl < 128) (hv : frm n pl = v) (w : World) : Calls Tryd.prog 118 #[.agg #[.int .u64 (x : Nat), .int .u64 (y : Nat)], .int .u64 (pl : Nat)] w fun r w' => r = .returned (.int .u64 (v : Nat)) ∧ Bed w.heap.size w w' := by
  subst hv
  exact k_fromd x y pl _ (from_is x y n pl hx hy hn hp) w
theorem kbit_isd (x y n pl : Nat) (o : Bool) (hx : x < 18446744073709551616) (hy : y < 18446744073709551616) (hn : y + 18446744073709551616 * x = n) (hp : pl < 128) (ho : decide (frm n pl % 2 = 1) = o) (w : World) : Calls Tryd.prog 76 #[.agg #[.int .u64 (x : Nat), .int .u64 (y : Nat)], .int .u64 (pl : Nat)] w fun r w' => r = .returned (.bool o) ∧ Bed w.heap.size w w' := by
  obtain ⟨v, hv⟩ : ∃ v, frm n pl = v := ⟨_, rfl⟩
  rw [hv] at ho
  have KF := box (kfrom_isd x y n pl v hx hy hn hp hv)
  have vl := frm_lt n pl (by omega)
  rw [hv] at vl
  have ha := and_one v vl
  have hd : (((v % 2 : Nat) : Int) == 1) = o := by rw [← ho]; by_cases h : v % 2 = 1 <;> simp [h] <;> omega
  obtain ⟨u, hu⟩ : ∃ u, v % 2 = u := ⟨_, rfl⟩
  rw [hu] at ha hd
  clear ho hv hn hx hy hp hu vl
  obtain ⟨Rb_0, B0⟩ := kopn1d w (Obj.cells #[.int .u64 (x : Nat), .int .u64 (y : Nat)] 25)
  go_enter Tryd.func76, Tryd.ntmps76
  go_wp2_with fail
  refine (KF.out _).mono ?_
  rintro r w1 ⟨rfl, b1⟩
  have B1 : Bed w.heap.size w w1 := btr7d B0 b1
  have Rb_1 := heap_ofd b1 _ _ _ Rb_0
  clear b1 B0 Rb_0
  obtain ⟨cb_1_0, cb_1_1⟩ := cell7t Rb_1
  go_wp2
  go_ret
  exact ⟨rfl, B1⟩
theorem ksign_isd (f : Int) (hf : Is4 f) (x y n : Nat) (o : Bool) (hx : x < 18446744073709551616) (hy : y < 18446744073709551616) (hn : y + 18446744073709551616 * x = n) (ho : kN f n = o) (w : World) (hT : FAt w) : Calls Tryd.prog 78 #[.int .u8 f, .agg #[.int .u64 (x : Nat), .int .u64 (y : Nat)]] w fun r w' => r = .returned (.bool o) ∧ Bed w.heap.size w w' := by
  have f4 := is4_ok hf
  obtain ⟨_, _, _, _, a5, a6, a7, a8⟩ := pV_lim hf
  have KB := box (kbit_isd x y n (wV f) o hx hy hn a5 (by rw [sign_of hf, ho]))
  obtain ⟨q, hq⟩ : ∃ q, fW f = q := ⟨_, rfl⟩
  obtain ⟨k, hk⟩ : ∃ q, wV f = q := ⟨_, rfl⟩
  rw [hq, hk] at a7
  rw [hk] at KB a8
  have TT := box hT
  have HQ := box hq
  clear hT hf hq hk hn hx hy ho a5 a6
  obtain ⟨Rb_0, B0⟩ := kopn1d w (Obj.cells #[.int .u64 (x : Nat), .int .u64 (y : Nat)] 25)
  go_enter Tryd.func78, Tryd.ntmps78
  go_wp2_with fail
  obtain ⟨F, hF1, hF2⟩ := below_fund (w.alloc (Obj.cells #[.int .u64 (x : Nat), .int .u64 (y : Nat)] 25))
  have fb_0 := fun u => cell7 (heap_ofd (hF1 u) _ _ _ Rb_0) 0 _ rfl
  have fb_1 := fun u => cell7 (heap_ofd (hF1 u) _ _ _ Rb_0) 1 _ rfl
  have TF : Box (∀ u, FAt (F u)) := box (fun u => fatBd TT.out (btr7d B0 (hF1 u)))
  refine wp_region_belowd F hF2 (by kernel_rfl) (by kernel_rfl) ?_
  repeat first | go_big_quiet_step (first | (go_at_call 72; exact quietFd hF1 hF2 (kb_widthd f q f4.1 f4.2.1 HQ.out _ (TF.out _))) | (go_at_call 76; exact quietFd hF1 hF2 (KB.out _)) | fail) | quiet_step (first | (go_at_call 72; exact quietFd hF1 hF2 (kb_widthd f q f4.1 f4.2.1 HQ.out _ (TF.out _))) | (go_at_call 76; exact quietFd hF1 hF2 (KB.out _)) | fail)
  refine wpQuiet_nil ?_
  rintro _ ⟨uW, rfl⟩
  have B1 := btr7d B0 (hF1 uW)
  have Rb_1 := heap_ofd (hF1 uW) _ _ _ Rb_0
  obtain ⟨w1, hw⟩ : ∃ V, F uW = V := ⟨_, rfl⟩
  rw [hw] at B1 Rb_1
  try rw [hw]
  clear hw hF1 hF2 B0 fb_0 fb_1 Rb_0
  clear TF
  clear F
  obtain ⟨cb_1_0, cb_1_1⟩ := cell7t Rb_1
  go_wp2
  go_ret
  exact ⟨rfl, B1⟩
theorem sk_fitsd (f : Int) (x y n : Nat) (o : Bool) (h0 : 0 ≤ f) (h1 : f ≤ 255) (hx : x < 18446744073709551616) (hy : y < 18446744073709551616) (hn : y + 18446744073709551616 * x = n) (ho : okB f n = o) (w : World) (hT : FAt w) : Calls Tryd.prog 44 #[.int .u8 f, .agg #[.int .u64 (x : Nat), .int .u64 (y : Nat)]] w fun r w' => r = .returned (.bool o) ∧ Bed w.heap.size w w' :=
  s_fits_isd f (x, y) o h0 h1 hx hy (by rw [okB_fits f h0 x y n hn, ho]) w hT
theorem kSign_yesd (f : Int) (hf : Is4 f) (x y n : Nat) (o : Bool) (hx : x < 18446744073709551616) (hy : y < 18446744073709551616) (hn : y + 18446744073709551616 * x = n) (ho : okB f n = true) (hc : kN f n = o) (w : World) (hT : FAt w) : Calls Tryd.prog 110 #[.int .u8 f, .agg #[.int .u64 (x : Nat), .int .u64 (y : Nat)]] w fun r w' => r = .returned (.bool o) ∧ Bed w.heap.size w w' := by
  have f4 := is4_ok hf
  have K1 := box (sk_fitsd f x y n true f4.1 f4.2.1 hx hy hn ho)
  have K2 := box (ksign_isd f hf x y n o hx hy hn hc)
  have TT := box hT
  clear hT hf hx hy hn ho hc
  obtain ⟨Rb_0, B0⟩ := kopn1d w (Obj.cells #[.int .u64 (x : Nat), .int .u64 (y : Nat)] 25)
  go_enter Tryd.func110, Tryd.ntmps110
  go_wp2_with fail
  refine (K1.out _ (fatBd TT.out B0)).mono ?_
  rintro r w1 ⟨rfl, b1⟩
  have B1 : Bed w.heap.size w w1 := btr7d B0 b1
  have Rb_1 := heap_ofd b1 _ _ _ Rb_0
  clear b1 B0 Rb_0
  obtain ⟨cb_1_0, cb_1_1⟩ := cell7t Rb_1
  go_wp2_with fail
  refine (K2.out _ (fatBd TT.out B1)).mono ?_
  rintro r w2 ⟨rfl, b2⟩
  have B2 : Bed w.heap.size w w2 := btr7d B1 b2
  have Rb_2 := heap_ofd b2 _ _ _ Rb_1
  clear b2 B1 Rb_1 cb_1_0 cb_1_1
  obtain ⟨cb_2_0, cb_2_1⟩ := cell7t Rb_2
  go_wp2
  go_ret
  exact ⟨rfl, B2⟩
theorem gen_order_total_7_8 {X : Act → World → Prop} {R : World → Nat → Nat → Prop} {t0 t1 t2 t3 t4 t5 t6 t9 t10 t11 t12 t13 t14 t15 t16 t17 t18 t19 t20 t21 t22 t23 t24 t25 t26 : Value} {d : List Deferred} {W : World} {G1 G2 : Nat}
    (key : ∀ w5 g1 g2, R w5 g1 g2 → X ⟨#[t0, t1, t2, t3, t4, t5, t6, .pointer (some ⟨g1, 0, none⟩), .pointer (some ⟨g2, 0, none⟩), t9, t10, t11, t12, t13, t14, t15, t16, t17, t18, t19, t20, t21, t22, t23, t24, t25, t26], d⟩ w5) (r : R W G1 G2) : X ⟨#[t0, t1, t2, t3, t4, t5, t6, .pointer (some ⟨G1, 0, none⟩), .pointer (some ⟨G2, 0, none⟩), t9, t10, t11, t12, t13, t14, t15, t16, t17, t18, t19, t20, t21, t22, t23, t24, t25, t26], d⟩ W := key W G1 G2 r
theorem al_row20 (X : World) (Z : Obj) : ((X.alloc Z).alloc Z).heap[X.heap.size]? = some Z := row_al (heap_alloc_last X Z) Z
theorem al_row21 (X : World) (Z : Obj) : ((X.alloc Z).alloc Z).heap[X.heap.size + 1]? = some Z := by have := heap_alloc_last (X.alloc Z) Z; rw [size_al] at this; exact this
theorem nm_two {n0 : Nat} {X wq : World} {Z : Obj} (b : Bed (X.heap.size + 1 + 1) ((X.alloc Z).alloc Z) wq) (h : n0 ≤ X.heap.size) : wq.heap[X.heap.size]? = some Z ∧ wq.heap[X.heap.size + 1]? = some Z ∧ n0 ≤ X.heap.size ∧ n0 ≤ X.heap.size + 1 ∧ X.heap.size < X.heap.size + 1 :=
  ⟨(b.block _ (by omega)).trans (al_row20 X Z), (b.block _ (by omega)).trans (al_row21 X Z), h, by omega, by omega⟩
theorem nm_one {n0 : Nat} {X wq : World} {Z : Obj} (b : Bed (X.heap.size + 1) (X.alloc Z) wq) (h : n0 ≤ X.heap.size) : wq.heap[X.heap.size]? = some Z ∧ n0 ≤ X.heap.size :=
  ⟨(b.block _ (by omega)).trans (heap_alloc_last X Z), h⟩
theorem nm_twoD {n0 : Nat} {X wq : World} {Z : Obj} (b : Bed ((X.alloc Z).alloc Z).drew.heap.size ((X.alloc Z).alloc Z).drew wq) (h : n0 ≤ X.drew.heap.size) : wq.heap[X.heap.size]? = some Z ∧ wq.heap[X.heap.size + 1]? = some Z ∧ n0 ≤ X.heap.size ∧ n0 ≤ X.heap.size + 1 ∧ X.heap.size < X.heap.size + 1 := by
  have b2 : Bed ((X.alloc Z).alloc Z).heap.size ((X.alloc Z).alloc Z).drew wq := b
  rw [size_al, size_al] at b2
  have h2 : n0 ≤ X.heap.size := h
  exact ⟨(b2.block _ (by omega)).trans (al_row20 X Z), (b2.block _ (by omega)).trans (al_row21 X Z), h2, by omega, by omega⟩
theorem nm_oneD {n0 : Nat} {X wq : World} {Z : Obj} (b : Bed (X.alloc Z).drew.heap.size (X.alloc Z).drew wq) (h : n0 ≤ X.drew.heap.size) : wq.heap[X.heap.size]? = some Z ∧ n0 ≤ X.heap.size := by
  have b2 : Bed (X.alloc Z).heap.size (X.alloc Z).drew wq := b
  rw [size_al] at b2
  exact ⟨(b2.block _ (by omega)).trans (heap_alloc_last X Z), h⟩
theorem nm_oneK {n0 : Nat} {X wq : World} {Z : Obj} {g : Nat} (b : Bed (X.heap.size + 1) (X.alloc Z) wq) (h : n0 ≤ X.heap.size) (hg : X.heap[g]? = some Z) (ge : n0 ≤ g) : wq.heap[g]? = some Z ∧ wq.heap[X.heap.size]? = some Z ∧ n0 ≤ g ∧ n0 ≤ X.heap.size ∧ g < X.heap.size := by
  have lt := (Array.getElem?_eq_some_iff.1 hg).1
  exact ⟨(b.block _ (by omega)).trans (row_al hg Z), (b.block _ (by omega)).trans (heap_alloc_last X Z), ge, h, lt⟩
theorem nm_keep1 {X wq : World} {Z : Obj} {g : Nat} (b : Bed X.heap.size X wq) (hg : X.heap[g]? = some Z) : wq.heap[g]? = some Z :=
  (b.block _ (Array.getElem?_eq_some_iff.1 hg).1).trans hg
theorem nm_keep2 {X wq : World} {Z Y : Obj} {g j : Nat} (b : Bed X.heap.size X wq) (hg : X.heap[g]? = some Z) (hj : X.heap[j]? = some Y) : wq.heap[g]? = some Z ∧ wq.heap[j]? = some Y := ⟨nm_keep1 b hg, nm_keep1 b hj⟩
theorem dr_cel {W : World} {a : Addr} {v : Value} (h : W.cell? a = some v) : W.drew.cell? a = some v := h
theorem set2_size (W : World) (a i j : Nat) (u v : Value) : ((W.setCell ⟨a, i, none⟩ u).setCell ⟨a, j, none⟩ v).heap.size = W.heap.size := by simp [World.setCell]
theorem two_sb1 (V : World) (a b : Nat) (ha : V.heap[a]? = some (.cells #[.int .u64 0, .int .u64 0] 25)) (hb : V.heap[b]? = some (.cells #[.int .u64 0, .int .u64 0] 25)) :
    V.frozen? ⟨a, 0, none⟩ = false ∧ V.frozen? ⟨a, 1, none⟩ = false ∧ V.cell? ⟨a, 0, none⟩ = some (.int .u64 0) ∧ V.cell? ⟨a, 1, none⟩ = some (.int .u64 0) ∧ V.frozen? ⟨b, 0, none⟩ = false ∧ V.frozen? ⟨b, 1, none⟩ = false ∧ V.cell? ⟨b, 0, none⟩ = some (.int .u64 0) ∧ V.cell? ⟨b, 1, none⟩ = some (.int .u64 0) :=
  ⟨fz ha, fz ha, cell7 ha 0 _ rfl, cell7 ha 1 _ rfl, fz hb, fz hb, cell7 hb 0 _ rfl, cell7 hb 1 _ rfl⟩
theorem two_sb2 (V : World) (a b : Nat) (ha : V.heap[a]? = some (.cells #[.int .u64 0, .int .u64 0] 25)) (hb : V.heap[b]? = some (.cells #[.int .u64 0, .int .u64 0] 25)) (d : a ≠ b) :
    (∀ u v, ((V.setCell ⟨a, 0, none⟩ u).setCell ⟨a, 1, none⟩ v).frozen? ⟨b, 0, none⟩ = false) ∧ (∀ u v, ((V.setCell ⟨a, 0, none⟩ u).setCell ⟨a, 1, none⟩ v).frozen? ⟨b, 1, none⟩ = false) ∧ (∀ u v, ((V.setCell ⟨a, 0, none⟩ u).setCell ⟨a, 1, none⟩ v).cell? ⟨b, 0, none⟩ = some (.int .u64 0)) ∧ (∀ u v, ((V.setCell ⟨a, 0, none⟩ u).setCell ⟨a, 1, none⟩ v).cell? ⟨b, 1, none⟩ = some (.int .u64 0)) ∧
    (∀ u v, ((V.setCell ⟨b, 0, none⟩ u).setCell ⟨b, 1, none⟩ v).frozen? ⟨a, 0, none⟩ = false) ∧ (∀ u v, ((V.setCell ⟨b, 0, none⟩ u).setCell ⟨b, 1, none⟩ v).frozen? ⟨a, 1, none⟩ = false) ∧ (∀ u v, ((V.setCell ⟨b, 0, none⟩ u).setCell ⟨b, 1, none⟩ v).cell? ⟨a, 0, none⟩ = some (.int .u64 0)) ∧ (∀ u v, ((V.setCell ⟨b, 0, none⟩ u).setCell ⟨b, 1, none⟩ v).cell? ⟨a, 1, none⟩ = some (.int .u64 0)) := by
  have rb : ∀ u v, ((V.setCell ⟨a, 0, none⟩ u).setCell ⟨a, 1, none⟩ v).heap[b]? = some (.cells #[.int .u64 0, .int .u64 0] 25) := fun u v => (setCell_other d).trans ((setCell_other d).trans hb)
  have ra : ∀ u v, ((V.setCell ⟨b, 0, none⟩ u).setCell ⟨b, 1, none⟩ v).heap[a]? = some (.cells #[.int .u64 0, .int .u64 0] 25) := fun u v => (setCell_other (Ne.symm d)).trans ((setCell_other (Ne.symm d)).trans ha)
  exact ⟨fun u v => fz (rb u v), fun u v => fz (rb u v), fun u v => cell7 (rb u v) 0 _ rfl, fun u v => cell7 (rb u v) 1 _ rfl, fun u v => fz (ra u v), fun u v => fz (ra u v), fun u v => cell7 (ra u v) 0 _ rfl, fun u v => cell7 (ra u v) 1 _ rfl⟩
theorem one_sb (V : World) (a : Nat) (ha : V.heap[a]? = some (.cells #[.int .u64 0, .int .u64 0] 25)) :
    V.frozen? ⟨a, 0, none⟩ = false ∧ V.frozen? ⟨a, 1, none⟩ = false ∧ V.cell? ⟨a, 0, none⟩ = some (.int .u64 0) ∧ V.cell? ⟨a, 1, none⟩ = some (.int .u64 0) ∧ (∀ o, (V.alloc o).frozen? ⟨a, 0, none⟩ = false) ∧ (∀ o, (V.alloc o).frozen? ⟨a, 1, none⟩ = false) ∧ (∀ o, (V.alloc o).cell? ⟨a, 0, none⟩ = some (.int .u64 0)) ∧ (∀ o, (V.alloc o).cell? ⟨a, 1, none⟩ = some (.int .u64 0)) :=
  ⟨fz ha, fz ha, cell7 ha 0 _ rfl, cell7 ha 1 _ rfl, fun o => fz (row_al ha o), fun o => fz (row_al ha o), fun o => cell7 (row_al ha o) 0 _ rfl, fun o => cell7 (row_al ha o) 1 _ rfl⟩
set_option maxRecDepth 100000 in
set_option maxHeartbeats 8000000 in
theorem od_ones (f : Int) (hf : Is4 f) (u v : Nat) (hv : bv7 (2 * 2 ^ wV f - 1) = (u, v)) (w : World) (hT : FAt w) : Calls Tryd.prog 111 #[.int .u8 f] w fun r w' => r = .returned (.agg #[.int .u64 (u : Nat), .int .u64 (v : Nat)]) ∧ Bed w.heap.size w w' := by
  rcases hf with rfl | rfl | rfl | rfl
  · rw [show bv7 (2 * 2 ^ wV 0 - 1) = (0, 4294967295) by decide +kernel] at hv
    cases hv
    have KW : Box (∀ w, FAt w → Calls Tryd.prog 72 #[.int .u8 0] w fun r w' => r = .returned (.int .i64 32) ∧ Bed w.heap.size w w') := box (fun w hT => kb_widthd 0 32 (by decide) (by decide) (by decide) w hT)
    have hm : max (32 : Int) 64 = 64 := by decide
    have FF := box hT
    clear hT
    obtain ⟨Rz_0, B0⟩ := opn1d w (Obj.cells #[.int .u64 0, .int .u64 0] 25)
    go_enter Tryd.func111, Tryd.ntmps111
    go_wp2_with fail
    refine (KW.out _ (fatBd FF.out B0)).mono ?_
    rintro r w1 ⟨rfl, b1⟩
    have B1 : Bed w.heap.size w w1 := btrd B0 b1
    have Rz_1 := heap_ofd b1 _ _ _ Rz_0
    clear b1 B0 Rz_0
    obtain ⟨cz_1_0, cz_1_1⟩ := cells2s Rz_1
    have RD : w1.drew.heap[w.heap.size]? = some (Obj.cells #[.int .u64 0, .int .u64 0] 25) := Rz_1
    have q0 := fz (k := 0) RD
    have r0 := fz (k := 0) Rz_1
    have r1 := fz (k := 1) Rz_1
    have q1 := fz (k := 1) RD
    have d0 := cell7 RD 0 (.int .u64 0) rfl
    have d1 := cell7 RD 1 (.int .u64 0) rfl
    have i0 : IntKind.i64.wrap 0 = 0 := by decide
    have i64 : IntKind.i64.wrap 64 = 64 := by decide
    obtain ⟨E0, E1⟩ := set2_cells Rz_1 (.int .u64 0) (.int .u64 4294967295)
    have hs := (set2_belowd B1 (Nat.le_refl _) (.int .u64 0) (.int .u64 4294967295)).drew
    have s0 : Bed w.heap.size w w1.drew ∧ True := ⟨B1.drew, trivial⟩
    have sT : Box (∀ (W : World) (xA xB : Value), (Bed w.heap.size w W ∧ True) → (Bed w.heap.size w ((W.setCell ⟨w.heap.size, 0, none⟩ xA).setCell ⟨w.heap.size, 1, none⟩ xB) ∧ True)) := box (fun W xA xB h => ⟨set2_belowd h.1 (Nat.le_refl _) _ _, trivial⟩)
    have v1 : IntKind.u64.wrap (IntKind.u64.wrap 1 - 1) = 0 := by decide
    have v2 : IntKind.u64.wrap (IntKind.u64.wrap 4294967296 - 1) = 4294967295 := by decide
    go_wp2_with fail
    go_region_held3 (fun W => Bed w.heap.size w W ∧ True) (first | exact s0 | exact sT.out _ _ _ s0) (fail)
    (try rw [v1]); (try rw [v2])
    have E0 := dr_cel E0
    have E1 := dr_cel E1
    obtain ⟨V9, hV9⟩ : ∃ V, ((w1.setCell ⟨w.heap.size, 0, none⟩ (.int .u64 0)).setCell ⟨w.heap.size, 1, none⟩ (.int .u64 4294967295)).drew = V := ⟨_, rfl⟩
    rw [hV9] at hs E0 E1 ⊢
    go_wp2
    exact bodyPost_ret (v := .agg #[.int .u64 0, .int .u64 4294967295]) (by simp [results, Tryd.results111, go_sem, E0, E1]) rfl ⟨rfl, hs⟩
  · rw [show bv7 (2 * 2 ^ wV 1 - 1) = (0, 18446744073709551615) by decide +kernel] at hv
    cases hv
    have KW : Box (∀ w, FAt w → Calls Tryd.prog 72 #[.int .u8 1] w fun r w' => r = .returned (.int .i64 64) ∧ Bed w.heap.size w w') := box (fun w hT => kb_widthd 1 64 (by decide) (by decide) (by decide) w hT)
    have hm : max (64 : Int) 64 = 64 := by decide
    have FF := box hT
    clear hT
    obtain ⟨Rz_0, B0⟩ := opn1d w (Obj.cells #[.int .u64 0, .int .u64 0] 25)
    go_enter Tryd.func111, Tryd.ntmps111
    go_wp2_with fail
    refine (KW.out _ (fatBd FF.out B0)).mono ?_
    rintro r w1 ⟨rfl, b1⟩
    have B1 : Bed w.heap.size w w1 := btrd B0 b1
    have Rz_1 := heap_ofd b1 _ _ _ Rz_0
    clear b1 B0 Rz_0
    obtain ⟨cz_1_0, cz_1_1⟩ := cells2s Rz_1
    have RD : w1.drew.heap[w.heap.size]? = some (Obj.cells #[.int .u64 0, .int .u64 0] 25) := Rz_1
    have q0 := fz (k := 0) RD
    have r0 := fz (k := 0) Rz_1
    have r1 := fz (k := 1) Rz_1
    have q1 := fz (k := 1) RD
    have d0 := cell7 RD 0 (.int .u64 0) rfl
    have d1 := cell7 RD 1 (.int .u64 0) rfl
    have i0 : IntKind.i64.wrap 0 = 0 := by decide
    have i64 : IntKind.i64.wrap 64 = 64 := by decide
    obtain ⟨E0, E1⟩ := set2_cells Rz_1 (.int .u64 0) (.int .u64 18446744073709551615)
    have hs := (set2_belowd B1 (Nat.le_refl _) (.int .u64 0) (.int .u64 18446744073709551615)).drew
    have s0 : Bed w.heap.size w w1.drew ∧ True := ⟨B1.drew, trivial⟩
    have sT : Box (∀ (W : World) (xA xB : Value), (Bed w.heap.size w W ∧ True) → (Bed w.heap.size w ((W.setCell ⟨w.heap.size, 0, none⟩ xA).setCell ⟨w.heap.size, 1, none⟩ xB) ∧ True)) := box (fun W xA xB h => ⟨set2_belowd h.1 (Nat.le_refl _) _ _, trivial⟩)
    have v1 : IntKind.u64.wrap (IntKind.u64.wrap 1 - 1) = 0 := by decide
    have v2 : IntKind.u64.wrap (IntKind.u64.wrap 18446744073709551616 - 1) = 18446744073709551615 := by decide
    go_wp2_with fail
    go_region_held3 (fun W => Bed w.heap.size w W ∧ True) (first | exact s0 | exact sT.out _ _ _ s0) (fail)
    (try rw [v1]); (try rw [v2])
    have E0 := dr_cel E0
    have E1 := dr_cel E1
    obtain ⟨V9, hV9⟩ : ∃ V, ((w1.setCell ⟨w.heap.size, 0, none⟩ (.int .u64 0)).setCell ⟨w.heap.size, 1, none⟩ (.int .u64 18446744073709551615)).drew = V := ⟨_, rfl⟩
    rw [hV9] at hs E0 E1 ⊢
    go_wp2
    exact bodyPost_ret (v := .agg #[.int .u64 0, .int .u64 18446744073709551615]) (by simp [results, Tryd.results111, go_sem, E0, E1]) rfl ⟨rfl, hs⟩
  · rw [show bv7 (2 * 2 ^ wV 2 - 1) = (0, 65535) by decide +kernel] at hv
    cases hv
    have KW : Box (∀ w, FAt w → Calls Tryd.prog 72 #[.int .u8 2] w fun r w' => r = .returned (.int .i64 16) ∧ Bed w.heap.size w w') := box (fun w hT => kb_widthd 2 16 (by decide) (by decide) (by decide) w hT)
    have hm : max (16 : Int) 64 = 64 := by decide
    have FF := box hT
    clear hT
    obtain ⟨Rz_0, B0⟩ := opn1d w (Obj.cells #[.int .u64 0, .int .u64 0] 25)
    go_enter Tryd.func111, Tryd.ntmps111
    go_wp2_with fail
    refine (KW.out _ (fatBd FF.out B0)).mono ?_
    rintro r w1 ⟨rfl, b1⟩
    have B1 : Bed w.heap.size w w1 := btrd B0 b1
    have Rz_1 := heap_ofd b1 _ _ _ Rz_0
    clear b1 B0 Rz_0
    obtain ⟨cz_1_0, cz_1_1⟩ := cells2s Rz_1
    have RD : w1.drew.heap[w.heap.size]? = some (Obj.cells #[.int .u64 0, .int .u64 0] 25) := Rz_1
    have q0 := fz (k := 0) RD
    have r0 := fz (k := 0) Rz_1
    have r1 := fz (k := 1) Rz_1
    have q1 := fz (k := 1) RD
    have d0 := cell7 RD 0 (.int .u64 0) rfl
    have d1 := cell7 RD 1 (.int .u64 0) rfl
    have i0 : IntKind.i64.wrap 0 = 0 := by decide
    have i64 : IntKind.i64.wrap 64 = 64 := by decide
    obtain ⟨E0, E1⟩ := set2_cells Rz_1 (.int .u64 0) (.int .u64 65535)
    have hs := (set2_belowd B1 (Nat.le_refl _) (.int .u64 0) (.int .u64 65535)).drew
    have s0 : Bed w.heap.size w w1.drew ∧ True := ⟨B1.drew, trivial⟩
    have sT : Box (∀ (W : World) (xA xB : Value), (Bed w.heap.size w W ∧ True) → (Bed w.heap.size w ((W.setCell ⟨w.heap.size, 0, none⟩ xA).setCell ⟨w.heap.size, 1, none⟩ xB) ∧ True)) := box (fun W xA xB h => ⟨set2_belowd h.1 (Nat.le_refl _) _ _, trivial⟩)
    have v1 : IntKind.u64.wrap (IntKind.u64.wrap 1 - 1) = 0 := by decide
    have v2 : IntKind.u64.wrap (IntKind.u64.wrap 65536 - 1) = 65535 := by decide
    go_wp2_with fail
    go_region_held3 (fun W => Bed w.heap.size w W ∧ True) (first | exact s0 | exact sT.out _ _ _ s0) (fail)
    (try rw [v1]); (try rw [v2])
    have E0 := dr_cel E0
    have E1 := dr_cel E1
    obtain ⟨V9, hV9⟩ : ∃ V, ((w1.setCell ⟨w.heap.size, 0, none⟩ (.int .u64 0)).setCell ⟨w.heap.size, 1, none⟩ (.int .u64 65535)).drew = V := ⟨_, rfl⟩
    rw [hV9] at hs E0 E1 ⊢
    go_wp2
    exact bodyPost_ret (v := .agg #[.int .u64 0, .int .u64 65535]) (by simp [results, Tryd.results111, go_sem, E0, E1]) rfl ⟨rfl, hs⟩
  · rw [show bv7 (2 * 2 ^ wV 3 - 1) = (18446744073709551615, 18446744073709551615) by decide +kernel] at hv
    cases hv
    have KW : Box (∀ w, FAt w → Calls Tryd.prog 72 #[.int .u8 3] w fun r w' => r = .returned (.int .i64 128) ∧ Bed w.heap.size w w') := box (fun w hT => kb_widthd 3 128 (by decide) (by decide) (by decide) w hT)
    have hm : max (128 : Int) 64 = 128 := by decide
    have FF := box hT
    clear hT
    obtain ⟨Rz_0, B0⟩ := opn1d w (Obj.cells #[.int .u64 0, .int .u64 0] 25)
    go_enter Tryd.func111, Tryd.ntmps111
    go_wp2_with fail
    refine (KW.out _ (fatBd FF.out B0)).mono ?_
    rintro r w1 ⟨rfl, b1⟩
    have B1 : Bed w.heap.size w w1 := btrd B0 b1
    have Rz_1 := heap_ofd b1 _ _ _ Rz_0
    clear b1 B0 Rz_0
    obtain ⟨cz_1_0, cz_1_1⟩ := cells2s Rz_1
    have RD : w1.drew.heap[w.heap.size]? = some (Obj.cells #[.int .u64 0, .int .u64 0] 25) := Rz_1
    have q0 := fz (k := 0) RD
    have r0 := fz (k := 0) Rz_1
    have r1 := fz (k := 1) Rz_1
    have q1 := fz (k := 1) RD
    have d0 := cell7 RD 0 (.int .u64 0) rfl
    have d1 := cell7 RD 1 (.int .u64 0) rfl
    have i0 : IntKind.i64.wrap 0 = 0 := by decide
    have i64 : IntKind.i64.wrap 64 = 64 := by decide
    obtain ⟨E0, E1⟩ := set2_cells Rz_1 (.int .u64 18446744073709551615) (.int .u64 18446744073709551615)
    have hs := (set2_belowd B1 (Nat.le_refl _) (.int .u64 18446744073709551615) (.int .u64 18446744073709551615)).drew
    have s0 : Bed w.heap.size w w1.drew ∧ True := ⟨B1.drew, trivial⟩
    have sT : Box (∀ (W : World) (xA xB : Value), (Bed w.heap.size w W ∧ True) → (Bed w.heap.size w ((W.setCell ⟨w.heap.size, 0, none⟩ xA).setCell ⟨w.heap.size, 1, none⟩ xB) ∧ True)) := box (fun W xA xB h => ⟨set2_belowd h.1 (Nat.le_refl _) _ _, trivial⟩)
    have v1 : IntKind.u64.wrap (IntKind.u64.wrap 18446744073709551616 - 1) = 18446744073709551615 := by decide
    have v2 : IntKind.u64.wrap (IntKind.u64.wrap 18446744073709551616 - 1) = 18446744073709551615 := by decide
    go_wp2_with fail
    go_region_held3 (fun W => Bed w.heap.size w W ∧ True) (first | exact s0 | exact sT.out _ _ _ s0) (fail)
    (try rw [v1]); (try rw [v2])
    have E0 := dr_cel E0
    have E1 := dr_cel E1
    obtain ⟨V9, hV9⟩ : ∃ V, ((w1.setCell ⟨w.heap.size, 0, none⟩ (.int .u64 18446744073709551615)).setCell ⟨w.heap.size, 1, none⟩ (.int .u64 18446744073709551615)).drew = V := ⟨_, rfl⟩
    rw [hV9] at hs E0 E1 ⊢
    go_wp2
    exact bodyPost_ret (v := .agg #[.int .u64 18446744073709551615, .int .u64 18446744073709551615]) (by simp [results, Tryd.results111, go_sem, E0, E1]) rfl ⟨rfl, hs⟩
set_option maxRecDepth 100000 in
set_option maxHeartbeats 8000000 in
theorem od_rank_pos (f : Int) (x1 y1 z1 z2 u v : Nat) (hu : bits .xor .u64 (x1 : Int) (z1 : Int) = (u : Int)) (hv : bits .xor .u64 (y1 : Int) (z2 : Int) = (v : Int)) (w : World) (KZ : Box (∀ w, FAt w → Calls Tryd.prog 109 #[.int .u8 f, .bool true] w fun r w' => r = .returned (.agg #[.int .u64 (z1 : Nat), .int .u64 (z2 : Nat)]) ∧ Bed w.heap.size w w')) (KS : Box (∀ w, FAt w → Calls Tryd.prog 110 #[.int .u8 f, .agg #[.int .u64 (x1 : Nat), .int .u64 (y1 : Nat)]] w fun r w' => r = .returned (.bool false) ∧ Bed w.heap.size w w')) (hT : FAt w) : Calls Tryd.prog 67 #[.int .u8 f, .agg #[.int .u64 (x1 : Nat), .int .u64 (y1 : Nat)]] w fun r w' => r = .returned (.agg #[.int .u64 (u : Nat), .int .u64 (v : Nat)]) ∧ Bed w.heap.size w w' := by
  have FF := box hT
  clear hT
  obtain ⟨Rb_0, Rz_0, B0⟩ := opn2d w (Obj.cells #[.int .u64 (x1 : Nat), .int .u64 (y1 : Nat)] 25) (Obj.cells #[.int .u64 0, .int .u64 0] 25)
  go_enter Tryd.func67, Tryd.ntmps67
  obtain ⟨cb_0_0, cb_0_1⟩ := cells2s Rb_0
  go_wp2_with fail
  refine (KZ.out _ (fatBd FF.out B0)).mono ?_
  rintro r w1 ⟨rfl, b1⟩
  have B1 : Bed w.heap.size w w1 := btrd B0 b1
  have Rb_1 := heap_ofd b1 _ _ _ Rb_0
  have Rz_1 := heap_ofd b1 _ _ _ Rz_0
  clear b1 B0 Rb_0 cb_0_0 cb_0_1 Rz_0
  obtain ⟨cb_1_0, cb_1_1⟩ := cells2s Rb_1
  have S2 := box B1.size
  have Lb_2 : Box (w.heap.size < w1.heap.size) := box (Array.getElem?_eq_some_iff.1 Rb_1).1
  have Lz_2 : Box (w.heap.size + 1 < w1.heap.size) := box (Array.getElem?_eq_some_iff.1 Rz_1).1
  have Rt_2 := heap_alloc_last w1 (Obj.cells #[.int .u64 (z1 : Nat), .int .u64 (z2 : Nat)] 25)
  have B2 := btrd B1 (bald w1 (Obj.cells #[.int .u64 (z1 : Nat), .int .u64 (z2 : Nat)] 25))
  have Rb_2 := heap_ofd (bald w1 (Obj.cells #[.int .u64 (z1 : Nat), .int .u64 (z2 : Nat)] 25)) _ _ _ Rb_1
  have Rz_2 := heap_ofd (bald w1 (Obj.cells #[.int .u64 (z1 : Nat), .int .u64 (z2 : Nat)] 25)) _ _ _ Rz_1
  clear B1 Rb_1 cb_1_0 cb_1_1 Rz_1
  obtain ⟨cb_2_0, cb_2_1⟩ := cells2s Rb_2
  obtain ⟨ct_2_0, ct_2_1⟩ := cells2s Rt_2
  go_wp2_with fail
  refine (KS.out _ (fatBd FF.out B2)).mono ?_
  rintro r w3 ⟨rfl, b3⟩
  have B3 : Bed w.heap.size w w3 := btrd B2 b3
  have Rb_3 := heap_ofd b3 _ _ _ Rb_2
  have Rz_3 := heap_ofd b3 _ _ _ Rz_2
  have Rt_3 := heap_ofd b3 _ _ _ Rt_2
  clear b3 B2 Rb_2 cb_2_0 cb_2_1 Rz_2 Rt_2 ct_2_0 ct_2_1
  obtain ⟨cb_3_0, cb_3_1⟩ := cells2s Rb_3
  obtain ⟨ct_3_0, ct_3_1⟩ := cells2s Rt_3
  obtain ⟨cz_3_0, cz_3_1⟩ := cells2s Rz_3
  have q0 := fz (k := 0) Rz_3
  have q1 := fz (k := 1) Rz_3
  obtain ⟨E0, E1⟩ := set2_cells Rz_3 (.int .u64 (u : Nat)) (.int .u64 (v : Nat))
  go_wp2
  exact bodyPost_ret (v := .agg #[.int .u64 (u : Nat), .int .u64 (v : Nat)]) (by simp [results, Tryd.results67, go_sem, E0, E1]) rfl ⟨rfl, set2_belowd B3 (by first | exact Nat.le_refl _ | omega | (have := S2.out; have := Lb_2.out; have := Lz_2.out; omega)) _ _⟩
set_option maxRecDepth 100000 in
set_option maxHeartbeats 8000000 in
theorem od_rank_neg (f : Int) (x1 y1 z1 z2 o1 o2 u v : Nat) (hu : bits .xor .u64 (x1 : Int) (o1 : Int) = (u : Int)) (hv : bits .xor .u64 (y1 : Int) (o2 : Int) = (v : Int)) (w : World) (KZ : Box (∀ w, FAt w → Calls Tryd.prog 109 #[.int .u8 f, .bool true] w fun r w' => r = .returned (.agg #[.int .u64 (z1 : Nat), .int .u64 (z2 : Nat)]) ∧ Bed w.heap.size w w')) (KS : Box (∀ w, FAt w → Calls Tryd.prog 110 #[.int .u8 f, .agg #[.int .u64 (x1 : Nat), .int .u64 (y1 : Nat)]] w fun r w' => r = .returned (.bool true) ∧ Bed w.heap.size w w')) (KO : Box (∀ w, FAt w → Calls Tryd.prog 111 #[.int .u8 f] w fun r w' => r = .returned (.agg #[.int .u64 (o1 : Nat), .int .u64 (o2 : Nat)]) ∧ Bed w.heap.size w w')) (hT : FAt w) : Calls Tryd.prog 67 #[.int .u8 f, .agg #[.int .u64 (x1 : Nat), .int .u64 (y1 : Nat)]] w fun r w' => r = .returned (.agg #[.int .u64 (u : Nat), .int .u64 (v : Nat)]) ∧ Bed w.heap.size w w' := by
  have FF := box hT
  clear hT
  obtain ⟨Rb_0, Rz_0, B0⟩ := opn2d w (Obj.cells #[.int .u64 (x1 : Nat), .int .u64 (y1 : Nat)] 25) (Obj.cells #[.int .u64 0, .int .u64 0] 25)
  go_enter Tryd.func67, Tryd.ntmps67
  obtain ⟨cb_0_0, cb_0_1⟩ := cells2s Rb_0
  go_wp2_with fail
  refine (KZ.out _ (fatBd FF.out B0)).mono ?_
  rintro r w1 ⟨rfl, b1⟩
  have B1 : Bed w.heap.size w w1 := btrd B0 b1
  have Rb_1 := heap_ofd b1 _ _ _ Rb_0
  have Rz_1 := heap_ofd b1 _ _ _ Rz_0
  clear b1 B0 Rb_0 cb_0_0 cb_0_1 Rz_0
  obtain ⟨cb_1_0, cb_1_1⟩ := cells2s Rb_1
  have S2 := box B1.size
  have Lb_2 : Box (w.heap.size < w1.heap.size) := box (Array.getElem?_eq_some_iff.1 Rb_1).1
  have Lz_2 : Box (w.heap.size + 1 < w1.heap.size) := box (Array.getElem?_eq_some_iff.1 Rz_1).1
  have Rt_2 := heap_alloc_last w1 (Obj.cells #[.int .u64 (z1 : Nat), .int .u64 (z2 : Nat)] 25)
  have B2 := btrd B1 (bald w1 (Obj.cells #[.int .u64 (z1 : Nat), .int .u64 (z2 : Nat)] 25))
  have Rb_2 := heap_ofd (bald w1 (Obj.cells #[.int .u64 (z1 : Nat), .int .u64 (z2 : Nat)] 25)) _ _ _ Rb_1
  have Rz_2 := heap_ofd (bald w1 (Obj.cells #[.int .u64 (z1 : Nat), .int .u64 (z2 : Nat)] 25)) _ _ _ Rz_1
  clear B1 Rb_1 cb_1_0 cb_1_1 Rz_1
  obtain ⟨cb_2_0, cb_2_1⟩ := cells2s Rb_2
  obtain ⟨ct_2_0, ct_2_1⟩ := cells2s Rt_2
  go_wp2_with fail
  refine (KS.out _ (fatBd FF.out B2)).mono ?_
  rintro r w3 ⟨rfl, b3⟩
  have B3 : Bed w.heap.size w w3 := btrd B2 b3
  have Rb_3 := heap_ofd b3 _ _ _ Rb_2
  have Rz_3 := heap_ofd b3 _ _ _ Rz_2
  have Rt_3 := heap_ofd b3 _ _ _ Rt_2
  clear b3 B2 Rb_2 cb_2_0 cb_2_1 Rz_2 Rt_2 ct_2_0 ct_2_1
  obtain ⟨cb_3_0, cb_3_1⟩ := cells2s Rb_3
  obtain ⟨ct_3_0, ct_3_1⟩ := cells2s Rt_3
  go_wp2_with fail
  refine (KO.out _ (fatBd FF.out B3)).mono ?_
  rintro r w4 ⟨rfl, b4⟩
  have B4 : Bed w.heap.size w w4 := btrd B3 b4
  have Rb_4 := heap_ofd b4 _ _ _ Rb_3
  have Rz_4 := heap_ofd b4 _ _ _ Rz_3
  have Rt_4 := heap_ofd b4 _ _ _ Rt_3
  clear b4 B3 Rb_3 cb_3_0 cb_3_1 Rz_3 Rt_3 ct_3_0 ct_3_1
  obtain ⟨cb_4_0, cb_4_1⟩ := cells2s Rb_4
  obtain ⟨ct_4_0, ct_4_1⟩ := cells2s Rt_4
  obtain ⟨cz_4_0, cz_4_1⟩ := cells2s Rz_4
  have q0_5 := fz (k := 0) Rt_4
  have q1_5 := fz (k := 1) Rt_4
  have B5 := set2_belowd B4 (show w.heap.size ≤ w1.heap.size by first | exact Nat.le_refl _ | omega | (have := S2.out; have := Lb_2.out; have := Lz_2.out; omega)) (.int .u64 (o1 : Nat)) (.int .u64 (o2 : Nat))
  have Rt_5 : ((w4.setCell ⟨w1.heap.size, 0, none⟩ (.int .u64 (o1 : Nat))).setCell ⟨w1.heap.size, 1, none⟩ (.int .u64 (o2 : Nat))).heap[w1.heap.size]? = some (Obj.cells #[.int .u64 (o1 : Nat), .int .u64 (o2 : Nat)] 25) := set2_row Rt_4 _ _
  have Rb_5 : ((w4.setCell ⟨w1.heap.size, 0, none⟩ (.int .u64 (o1 : Nat))).setCell ⟨w1.heap.size, 1, none⟩ (.int .u64 (o2 : Nat))).heap[w.heap.size]? = some (Obj.cells #[.int .u64 (x1 : Nat), .int .u64 (y1 : Nat)] 25) := (setCell_other (by first | omega | (have := S2.out; have := Lb_2.out; have := Lz_2.out; omega))).trans ((setCell_other (by first | omega | (have := S2.out; have := Lb_2.out; have := Lz_2.out; omega))).trans Rb_4)
  have Rz_5 : ((w4.setCell ⟨w1.heap.size, 0, none⟩ (.int .u64 (o1 : Nat))).setCell ⟨w1.heap.size, 1, none⟩ (.int .u64 (o2 : Nat))).heap[w.heap.size + 1]? = some (Obj.cells #[.int .u64 0, .int .u64 0] 25) := (setCell_other (by first | omega | (have := S2.out; have := Lb_2.out; have := Lz_2.out; omega))).trans ((setCell_other (by first | omega | (have := S2.out; have := Lb_2.out; have := Lz_2.out; omega))).trans Rz_4)
  obtain ⟨cb_5_0, cb_5_1⟩ := cells2s Rb_5
  obtain ⟨cz_5_0, cz_5_1⟩ := cells2s Rz_5
  obtain ⟨ct_5_0, ct_5_1⟩ := cells2s Rt_5
  have q0 := fz (k := 0) Rz_5
  have q1 := fz (k := 1) Rz_5
  obtain ⟨E0, E1⟩ := set2_cells Rz_5 (.int .u64 (u : Nat)) (.int .u64 (v : Nat))
  go_wp2
  exact bodyPost_ret (v := .agg #[.int .u64 (u : Nat), .int .u64 (v : Nat)]) (by simp [results, Tryd.results67, go_sem, E0, E1]) rfl ⟨rfl, set2_belowd B5 (by first | exact Nat.le_refl _ | omega | (have := S2.out; have := Lb_2.out; have := Lz_2.out; omega)) _ _⟩
set_option maxRecDepth 100000 in
set_option maxHeartbeats 8000000 in
theorem cmp_or2 (p q c : Int) (hc : (if p = 0 then q else p) = c) (g : Nat) (T : TypeId) (w : World) (row : w.heap[g]? = some (.cells #[.int .i64 p, .int .i64 q] T)) : Calls Tryd.prog 68 #[.slice (some ⟨g, 0, none⟩) 2 2] w fun r w' => r = .returned (.int .i64 c) ∧ w' = w := by
  have c0 := cell7 row 0 _ rfl
  have c1 := cell7 row 1 _ rfl
  clear row
  by_cases h : p = 0
  · rw [if_pos h] at hc
    subst h hc
    by_cases h2 : q = 0
    · subst h2
      go_enter Tryd.func68, Tryd.ntmps68
      go_wp2
      refine wp_loop_rounds 3 ?_
      rw [rounds_succ]
      go_wp2
      rw [rounds_succ]
      go_wp2
      rw [rounds_succ]
      go_wp2
      go_ret
      exact ⟨rfl, rfl⟩
    · have d2 : (q != 0) = true := by simp [h2]
      go_enter Tryd.func68, Tryd.ntmps68
      go_wp2
      refine wp_loop_rounds 3 ?_
      rw [rounds_succ]
      go_wp2
      rw [rounds_succ]
      go_wp2
      go_ret
      exact ⟨rfl, rfl⟩
  · rw [if_neg h] at hc
    subst hc
    have d2 : (p != 0) = true := by simp [h]
    go_enter Tryd.func68, Tryd.ntmps68
    go_wp2
    refine wp_loop_rounds 3 ?_
    rw [rounds_succ]
    go_wp2
    go_ret
    exact ⟨rfl, rfl⟩
set_option maxRecDepth 100000 in
set_option maxHeartbeats 40000000 in
theorem od_total (f : Int) (x1 y1 x2 y2 u1 v1 u2 v2 : Nat) (p q c : Int) (hp : cmpi (u1 : Int) (u2 : Int) = p) (hq : cmpi (v1 : Int) (v2 : Int) = q) (hc : (if p = 0 then q else p) = c) (w : World)
    (K1 : Box (∀ w, FAt w → Calls Tryd.prog 67 #[.int .u8 f, .agg #[.int .u64 (x1 : Nat), .int .u64 (y1 : Nat)]] w fun r w' => r = .returned (.agg #[.int .u64 (u1 : Nat), .int .u64 (v1 : Nat)]) ∧ Bed w.heap.size w w'))
    (K2 : Box (∀ w, FAt w → Calls Tryd.prog 67 #[.int .u8 f, .agg #[.int .u64 (x2 : Nat), .int .u64 (y2 : Nat)]] w fun r w' => r = .returned (.agg #[.int .u64 (u2 : Nat), .int .u64 (v2 : Nat)]) ∧ Bed w.heap.size w w')) (hT : FAt w) : Calls Tryd.prog 40 #[.int .u8 f, .agg #[.int .u64 (x1 : Nat), .int .u64 (y1 : Nat)], .agg #[.int .u64 (x2 : Nat), .int .u64 (y2 : Nat)]] w fun r w' => r = .returned (.int .i64 c) ∧ Bed w.heap.size w w' := by
  have FF := box hT
  clear hT
  have HP := box hp
  have HQ := box hq
  have HC := box hc
  clear hp hq hc
  obtain ⟨Ra_0, Rb_0, B0⟩ := opn2d w (Obj.cells #[.int .u64 (x1 : Nat), .int .u64 (y1 : Nat)] 25) (Obj.cells #[.int .u64 (x2 : Nat), .int .u64 (y2 : Nat)] 25)
  go_enter Tryd.func40, Tryd.ntmps40
  obtain ⟨ca_0_0, ca_0_1⟩ := cells2s Ra_0
  obtain ⟨cb_0_0, cb_0_1⟩ := cells2s Rb_0
  go_wp2_with fail
  obtain ⟨w1, hw1⟩ : ∃ V, ((w.alloc (Obj.cells #[.int .u64 (x1 : Nat), .int .u64 (y1 : Nat)] 25)).alloc (Obj.cells #[.int .u64 (x2 : Nat), .int .u64 (y2 : Nat)] 25)) = V := ⟨_, rfl⟩
  have Ra_1 := Ra_0
  have Rb_1 := Rb_0
  have B1 := B0
  rw [hw1] at B1 Ra_1 Rb_1 ⊢
  clear hw1 B0 Ra_0 ca_0_0 ca_0_1 Rb_0 cb_0_0 cb_0_1
  obtain ⟨ca_1_0, ca_1_1⟩ := cells2s Ra_1
  obtain ⟨cb_1_0, cb_1_1⟩ := cells2s Rb_1
  obtain ⟨n0, hn0⟩ : ∃ n, w1.heap.size = n := ⟨_, rfl⟩
  have L0 : Box (w.heap.size < n0 ∧ w.heap.size + 1 < n0) := box ⟨hn0 ▸ (Array.getElem?_eq_some_iff.1 Ra_1).1, hn0 ▸ (Array.getElem?_eq_some_iff.1 Rb_1).1⟩
  have Lw : Box (w.heap.size ≤ n0) := box (hn0 ▸ B1.size)
  have sS : Box (∀ W W1 : World, (Bed w.heap.size w W ∧ n0 ≤ W.heap.size ∧ W.heap[w.heap.size]? = some (Obj.cells #[.int .u64 (x1 : Nat), .int .u64 (y1 : Nat)] 25) ∧ W.heap[w.heap.size + 1]? = some (Obj.cells #[.int .u64 (x2 : Nat), .int .u64 (y2 : Nat)] 25)) → Bed W.heap.size W W1 → (Bed w.heap.size w W1 ∧ n0 ≤ W1.heap.size ∧ W1.heap[w.heap.size]? = some (Obj.cells #[.int .u64 (x1 : Nat), .int .u64 (y1 : Nat)] 25) ∧ W1.heap[w.heap.size + 1]? = some (Obj.cells #[.int .u64 (x2 : Nat), .int .u64 (y2 : Nat)] 25))) := box (fun W W1 h b => ⟨btrd h.1 b, Nat.le_trans h.2.1 b.size, heap_ofd b _ _ _ h.2.2.1, heap_ofd b _ _ _ h.2.2.2⟩)
  have sC : Box (∀ W : World, (Bed w.heap.size w W ∧ n0 ≤ W.heap.size ∧ W.heap[w.heap.size]? = some (Obj.cells #[.int .u64 (x1 : Nat), .int .u64 (y1 : Nat)] 25) ∧ W.heap[w.heap.size + 1]? = some (Obj.cells #[.int .u64 (x2 : Nat), .int .u64 (y2 : Nat)] 25)) → (Bed w.heap.size w W ∧ n0 ≤ W.heap.size ∧ W.heap[w.heap.size]? = some (Obj.cells #[.int .u64 (x1 : Nat), .int .u64 (y1 : Nat)] 25) ∧ W.heap[w.heap.size + 1]? = some (Obj.cells #[.int .u64 (x2 : Nat), .int .u64 (y2 : Nat)] 25) ∧ W.cell? ⟨w.heap.size, 0, none⟩ = some (.int .u64 (x1 : Nat)) ∧ W.cell? ⟨w.heap.size, 1, none⟩ = some (.int .u64 (y1 : Nat)) ∧ W.cell? ⟨w.heap.size + 1, 0, none⟩ = some (.int .u64 (x2 : Nat)) ∧ W.cell? ⟨w.heap.size + 1, 1, none⟩ = some (.int .u64 (y2 : Nat)))) := box (fun W h => ⟨h.1, h.2.1, h.2.2.1, h.2.2.2, cell7 (h.2.2.1) 0 _ rfl, cell7 (h.2.2.1) 1 _ rfl, cell7 (h.2.2.2) 0 _ rfl, cell7 (h.2.2.2) 1 _ rfl⟩)
  have sT : Box (∀ (W : World) (gN : Nat) (xA xB : Value), (Bed w.heap.size w W ∧ n0 ≤ W.heap.size ∧ W.heap[w.heap.size]? = some (Obj.cells #[.int .u64 (x1 : Nat), .int .u64 (y1 : Nat)] 25) ∧ W.heap[w.heap.size + 1]? = some (Obj.cells #[.int .u64 (x2 : Nat), .int .u64 (y2 : Nat)] 25)) → n0 ≤ gN → (Bed w.heap.size w ((W.setCell ⟨gN, 0, none⟩ xA).setCell ⟨gN, 1, none⟩ xB) ∧ n0 ≤ ((W.setCell ⟨gN, 0, none⟩ xA).setCell ⟨gN, 1, none⟩ xB).heap.size ∧ ((W.setCell ⟨gN, 0, none⟩ xA).setCell ⟨gN, 1, none⟩ xB).heap[w.heap.size]? = some (Obj.cells #[.int .u64 (x1 : Nat), .int .u64 (y1 : Nat)] 25) ∧ ((W.setCell ⟨gN, 0, none⟩ xA).setCell ⟨gN, 1, none⟩ xB).heap[w.heap.size + 1]? = some (Obj.cells #[.int .u64 (x2 : Nat), .int .u64 (y2 : Nat)] 25))) := box (fun W gN xA xB h l => ⟨set2_belowd h.1 (Nat.le_trans Lw.out l) xA xB, by rw [set2_size]; exact h.2.1, (setCell_other (by have := L0.out.1; omega)).trans ((setCell_other (by have := L0.out.1; omega)).trans h.2.2.1), (setCell_other (by have := L0.out.2; omega)).trans ((setCell_other (by have := L0.out.2; omega)).trans h.2.2.2)⟩)
  have z0 : Box (Bed w.heap.size w (w1).drew ∧ n0 ≤ (w1).drew.heap.size ∧ (w1).drew.heap[w.heap.size]? = some (Obj.cells #[.int .u64 (x1 : Nat), .int .u64 (y1 : Nat)] 25) ∧ (w1).drew.heap[w.heap.size + 1]? = some (Obj.cells #[.int .u64 (x2 : Nat), .int .u64 (y2 : Nat)] 25)) := box ⟨B1.drew, Nat.le_of_eq hn0.symm, Ra_1, Rb_1⟩
  clear B1 Ra_1 ca_1_0 ca_1_1 Rb_1 cb_1_0 cb_1_1
  clear hn0
  go_wp2_with fail
  apply cut7
  · intro key0
    have key := box key0
    clear key0
    go_region_held3 (fun W => Bed w.heap.size w W ∧ n0 ≤ W.heap.size ∧ W.heap[w.heap.size]? = some (Obj.cells #[.int .u64 (x1 : Nat), .int .u64 (y1 : Nat)] 25) ∧ W.heap[w.heap.size + 1]? = some (Obj.cells #[.int .u64 (x2 : Nat), .int .u64 (y2 : Nat)] 25) ∧ W.cell? ⟨w.heap.size, 0, none⟩ = some (.int .u64 (x1 : Nat)) ∧ W.cell? ⟨w.heap.size, 1, none⟩ = some (.int .u64 (y1 : Nat)) ∧ W.cell? ⟨w.heap.size + 1, 0, none⟩ = some (.int .u64 (x2 : Nat)) ∧ W.cell? ⟨w.heap.size + 1, 1, none⟩ = some (.int .u64 (y2 : Nat))) (first | (with_reducible exact sC.out _ z1.out) | (with_reducible exact sC.out _ z0.out) | (with_reducible exact sC.out _ (sS.out _ _ z1.out (bald _ _))) | exact sC.out _ (sS.out _ _ z0.out (bald _ _)) | exact sC.out _ (sS.out _ _ (sS.out _ _ z0.out (bald _ _)) (bald _ _)) | (refine sC.out _ ?_; (repeat (first | with_reducible exact z1.out | with_reducible exact z0.out | refine sS.out _ _ ?_ (bald _ _) | refine sT.out _ _ _ _ ?_ (by first | exact ge1 | exact ge2 | exact ge3.out | exact Nat.le_succ_of_le ge3.out)))))
      (first | (go_at_call_of 67 (Value.agg #[Value.int IntKind.u64 (x1 : Int), Value.int IntKind.u64 (y1 : Int)]); (first | refine (K1.out _ (by first | exact fatBd FF.out (And.left z1.out) | exact fat_al (fatBd FF.out (And.left z1.out)) _ | exact fat_al (fat_al (fatBd FF.out (And.left z1.out)) _) _)).mono ?_ | refine (K1.out _ (by first | exact fatBd FF.out (And.left z0.out) | exact fat_al (fatBd FF.out (And.left z0.out)) _ | exact fat_al (fat_al (fatBd FF.out (And.left z0.out)) _) _)).mono ?_); rintro r wq ⟨rfl, bq⟩; (first | have sx := z1 | have sx := z0); (try clear z1); have bq0 := bq; (try simp only [size_al] at bq); (first | (with_reducible have hq := nm_twoD bq0 (And.left (And.right sx.out)); obtain ⟨hg1, hg2, ge1, ge2, hd⟩ := hq) | (with_reducible have hq := nm_oneD bq0 (And.left (And.right sx.out)); obtain ⟨hg1, ge1⟩ := hq) | (with_reducible have hq := nm_two bq (And.left (And.right sx.out)); obtain ⟨hg1, hg2, ge1, ge2, hd⟩ := hq) | (with_reducible have hq := nm_oneK bq (And.left (And.right sx.out)) hg1 ge1; clear hg1 ge1; obtain ⟨hg1, hg2, ge1, ge2, hd⟩ := hq) | (with_reducible have hq := nm_one bq (And.left (And.right sx.out)); obtain ⟨hg1, ge1⟩ := hq) | (with_reducible have hq := nm_keep2 bq hg1 hg2; clear hg1 hg2; obtain ⟨hg1, hg2⟩ := hq) | (with_reducible have hq := nm_keep1 bq hg1; clear hg1; have hg1 := hq) | skip); (try simp only [size_dr] at hg1); (try simp only [size_dr] at ge1); (try simp only [size_dr] at hg2); (try simp only [size_dr] at ge2); (try simp only [size_dr] at hd); have z1 := box (by first | exact sS.out _ _ sx.out bq0 | exact sS.out _ _ (sS.out _ _ sx.out (bald _ _)) bq0 | exact sS.out _ _ (sS.out _ _ (sS.out _ _ sx.out (bald _ _)) (bald _ _)) bq0); clear sx; (try clear hr1 hr2 hr3 hr4 hr5 hr6 hr7 hr8 hs1 hs2 hs3 hs4 hs5 hs6 hs7 hs8); (try clear ht1 ht2 ht3 ht4 hu1 hu2 hu3 hu4); (try clear hn1 hn2); (try clear ge3); have ge3 := box (And.left (And.right z1.out)); (first | (have hx := two_sb1 _ _ _ hg1 hg2; obtain ⟨hr1, hr2, hr3, hr4, hr5, hr6, hr7, hr8⟩ := hx; (first | (have HD := box hd; clear hd) | skip); obtain ⟨hs1, hs2, hs3, hs4, hs5, hs6, hs7, hs8⟩ := two_sb2 _ _ _ hg1 hg2 (Nat.ne_of_lt HD.out); have hn1 := Nat.ne_of_lt HD.out; have hn2 := Nat.ne_of_gt HD.out) | (have hx := one_sb _ _ hg1; obtain ⟨ht1, ht2, ht3, ht4, hu1, hu2, hu3, hu4⟩ := hx; (try clear hd); (try clear HD); have HD := box (Array.getElem?_eq_some_iff.1 hg1).1; have hn1 := Nat.ne_of_lt HD.out; have hn2 := Nat.ne_of_gt HD.out) | skip); clear bq bq0) | (go_at_call_of 67 (Value.agg #[Value.int IntKind.u64 (x2 : Int), Value.int IntKind.u64 (y2 : Int)]); (first | refine (K2.out _ (by first | exact fatBd FF.out (And.left z1.out) | exact fat_al (fatBd FF.out (And.left z1.out)) _ | exact fat_al (fat_al (fatBd FF.out (And.left z1.out)) _) _)).mono ?_ | refine (K2.out _ (by first | exact fatBd FF.out (And.left z0.out) | exact fat_al (fatBd FF.out (And.left z0.out)) _ | exact fat_al (fat_al (fatBd FF.out (And.left z0.out)) _) _)).mono ?_); rintro r wq ⟨rfl, bq⟩; (first | have sx := z1 | have sx := z0); (try clear z1); have bq0 := bq; (try simp only [size_al] at bq); (first | (with_reducible have hq := nm_twoD bq0 (And.left (And.right sx.out)); obtain ⟨hg1, hg2, ge1, ge2, hd⟩ := hq) | (with_reducible have hq := nm_oneD bq0 (And.left (And.right sx.out)); obtain ⟨hg1, ge1⟩ := hq) | (with_reducible have hq := nm_two bq (And.left (And.right sx.out)); obtain ⟨hg1, hg2, ge1, ge2, hd⟩ := hq) | (with_reducible have hq := nm_oneK bq (And.left (And.right sx.out)) hg1 ge1; clear hg1 ge1; obtain ⟨hg1, hg2, ge1, ge2, hd⟩ := hq) | (with_reducible have hq := nm_one bq (And.left (And.right sx.out)); obtain ⟨hg1, ge1⟩ := hq) | (with_reducible have hq := nm_keep2 bq hg1 hg2; clear hg1 hg2; obtain ⟨hg1, hg2⟩ := hq) | (with_reducible have hq := nm_keep1 bq hg1; clear hg1; have hg1 := hq) | skip); (try simp only [size_dr] at hg1); (try simp only [size_dr] at ge1); (try simp only [size_dr] at hg2); (try simp only [size_dr] at ge2); (try simp only [size_dr] at hd); have z1 := box (by first | exact sS.out _ _ sx.out bq0 | exact sS.out _ _ (sS.out _ _ sx.out (bald _ _)) bq0 | exact sS.out _ _ (sS.out _ _ (sS.out _ _ sx.out (bald _ _)) (bald _ _)) bq0); clear sx; (try clear hr1 hr2 hr3 hr4 hr5 hr6 hr7 hr8 hs1 hs2 hs3 hs4 hs5 hs6 hs7 hs8); (try clear ht1 ht2 ht3 ht4 hu1 hu2 hu3 hu4); (try clear hn1 hn2); (try clear ge3); have ge3 := box (And.left (And.right z1.out)); (first | (have hx := two_sb1 _ _ _ hg1 hg2; obtain ⟨hr1, hr2, hr3, hr4, hr5, hr6, hr7, hr8⟩ := hx; (first | (have HD := box hd; clear hd) | skip); obtain ⟨hs1, hs2, hs3, hs4, hs5, hs6, hs7, hs8⟩ := two_sb2 _ _ _ hg1 hg2 (Nat.ne_of_lt HD.out); have hn1 := Nat.ne_of_lt HD.out; have hn2 := Nat.ne_of_gt HD.out) | (have hx := one_sb _ _ hg1; obtain ⟨ht1, ht2, ht3, ht4, hu1, hu2, hu3, hu4⟩ := hx; (try clear hd); (try clear HD); have HD := box (Array.getElem?_eq_some_iff.1 hg1).1; have hn1 := Nat.ne_of_lt HD.out; have hn2 := Nat.ne_of_gt HD.out) | skip); clear bq bq0) | fail)
    all_goals
      refine gen_order_total_7_8 (R := fun W g1 g2 => (Bed w.heap.size w W ∧ n0 ≤ W.heap.size ∧ W.heap[w.heap.size]? = some (Obj.cells #[.int .u64 (x1 : Nat), .int .u64 (y1 : Nat)] 25) ∧ W.heap[w.heap.size + 1]? = some (Obj.cells #[.int .u64 (x2 : Nat), .int .u64 (y2 : Nat)] 25)) ∧ W.heap[g1]? = some (Obj.cells #[.int .u64 (u1 : Nat), .int .u64 (v1 : Nat)] 25) ∧ W.heap[g2]? = some (Obj.cells #[.int .u64 (u2 : Nat), .int .u64 (v2 : Nat)] 25) ∧ n0 ≤ g1 ∧ n0 ≤ g2) key.out ?_
      refine ⟨?_, ?_, ?_, ?_, ?_⟩
      · (repeat (first | with_reducible exact z1.out | with_reducible exact z0.out | refine sS.out _ _ ?_ (bald _ _) | refine sT.out _ _ _ _ ?_ (by first | exact ge1 | exact ge2 | exact ge3.out | exact Nat.le_succ_of_le ge3.out)))
      · repeat (first | with_reducible exact hg1 | with_reducible exact hg2 | with_reducible refine set2_row (c0 := .int .u64 0) (c1 := .int .u64 0) ?_ _ _ | (with_reducible refine row_last ?_; first | with_reducible rfl | (simp only [size_al]; done)) | with_reducible refine row_al ?_ _ | with_reducible refine (setCell_other (by first | omega | (have := HD.out; omega))).trans ?_)
      · repeat (first | with_reducible exact hg1 | with_reducible exact hg2 | with_reducible refine set2_row (c0 := .int .u64 0) (c1 := .int .u64 0) ?_ _ _ | (with_reducible refine row_last ?_; first | with_reducible rfl | (simp only [size_al]; done)) | with_reducible refine row_al ?_ _ | with_reducible refine (setCell_other (by first | omega | (have := HD.out; omega))).trans ?_)
      · first | exact ge1 | exact ge2 | exact ge3.out | exact Nat.le_succ_of_le ge3.out
      · first | exact ge1 | exact ge2 | exact ge3.out | exact Nat.le_succ_of_le ge3.out
  rintro w2 g2_0 g2_1 ⟨s1, Rx_2, Ry_2, l2_0, l2_1⟩
  have B2 := And.left s1
  have Ra_2 := s1.2.2.1
  have Rb_2 := s1.2.2.2
  have H2 : Box ((w.heap.size < n0 ∧ w.heap.size + 1 < n0) ∧ w.heap.size ≤ n0 ∧ n0 ≤ g2_0 ∧ n0 ≤ g2_1) := box ⟨L0.out, Lw.out, l2_0, l2_1⟩
  clear z0 s1 sS sC sT L0 Lw l2_0 l2_1
  obtain ⟨ca_2_0, ca_2_1⟩ := cells2s Ra_2
  obtain ⟨cb_2_0, cb_2_1⟩ := cells2s Rb_2
  obtain ⟨cx_2_0, cx_2_1⟩ := cells2s Rx_2
  obtain ⟨cy_2_0, cy_2_1⟩ := cells2s Ry_2
  have gx : w.heap.size ≤ g2_0 := by have := H2.out; omega
  have sS : Box (∀ W W1 : World, (Bed w.heap.size w W ∧ W.heap[g2_0]? = some (Obj.cells #[.int .u64 (u1 : Nat), .int .u64 (v1 : Nat)] 25) ∧ W.heap[g2_1]? = some (Obj.cells #[.int .u64 (u2 : Nat), .int .u64 (v2 : Nat)] 25) ∧ W.cell? ⟨g2_0, 0, none⟩ = some (.int .u64 (u1 : Nat)) ∧ W.cell? ⟨g2_0, 1, none⟩ = some (.int .u64 (v1 : Nat)) ∧ W.cell? ⟨g2_1, 0, none⟩ = some (.int .u64 (u2 : Nat)) ∧ W.cell? ⟨g2_1, 1, none⟩ = some (.int .u64 (v2 : Nat))) → Bed W.heap.size W W1 → (Bed w.heap.size w W1 ∧ W1.heap[g2_0]? = some (Obj.cells #[.int .u64 (u1 : Nat), .int .u64 (v1 : Nat)] 25) ∧ W1.heap[g2_1]? = some (Obj.cells #[.int .u64 (u2 : Nat), .int .u64 (v2 : Nat)] 25) ∧ W1.cell? ⟨g2_0, 0, none⟩ = some (.int .u64 (u1 : Nat)) ∧ W1.cell? ⟨g2_0, 1, none⟩ = some (.int .u64 (v1 : Nat)) ∧ W1.cell? ⟨g2_1, 0, none⟩ = some (.int .u64 (u2 : Nat)) ∧ W1.cell? ⟨g2_1, 1, none⟩ = some (.int .u64 (v2 : Nat)))) := box (fun W W1 h b => ⟨btrd h.1 b, heap_ofd b _ _ _ h.2.1, heap_ofd b _ _ _ h.2.2.1, cell7 (heap_ofd b _ _ _ h.2.1) 0 _ rfl, cell7 (heap_ofd b _ _ _ h.2.1) 1 _ rfl, cell7 (heap_ofd b _ _ _ h.2.2.1) 0 _ rfl, cell7 (heap_ofd b _ _ _ h.2.2.1) 1 _ rfl⟩)
  have s0 : Bed w.heap.size w w2.drew ∧ w2.drew.heap[g2_0]? = some (Obj.cells #[.int .u64 (u1 : Nat), .int .u64 (v1 : Nat)] 25) ∧ w2.drew.heap[g2_1]? = some (Obj.cells #[.int .u64 (u2 : Nat), .int .u64 (v2 : Nat)] 25) ∧ w2.drew.cell? ⟨g2_0, 0, none⟩ = some (.int .u64 (u1 : Nat)) ∧ w2.drew.cell? ⟨g2_0, 1, none⟩ = some (.int .u64 (v1 : Nat)) ∧ w2.drew.cell? ⟨g2_1, 0, none⟩ = some (.int .u64 (u2 : Nat)) ∧ w2.drew.cell? ⟨g2_1, 1, none⟩ = some (.int .u64 (v2 : Nat)) := ⟨B2.drew, Rx_2, Ry_2, cell7 Rx_2 0 _ rfl, cell7 Rx_2 1 _ rfl, cell7 Ry_2 0 _ rfl, cell7 Ry_2 1 _ rfl⟩
  go_wp2_with fail
  go_region_held3 (fun W => Bed w.heap.size w W ∧ W.heap[g2_0]? = some (Obj.cells #[.int .u64 (u1 : Nat), .int .u64 (v1 : Nat)] 25) ∧ W.heap[g2_1]? = some (Obj.cells #[.int .u64 (u2 : Nat), .int .u64 (v2 : Nat)] 25) ∧ W.cell? ⟨g2_0, 0, none⟩ = some (.int .u64 (u1 : Nat)) ∧ W.cell? ⟨g2_0, 1, none⟩ = some (.int .u64 (v1 : Nat)) ∧ W.cell? ⟨g2_1, 0, none⟩ = some (.int .u64 (u2 : Nat)) ∧ W.cell? ⟨g2_1, 1, none⟩ = some (.int .u64 (v2 : Nat))) (first | exact s0 | exact sS.out _ _ s0 (bald _ _))
    (first | (go_at_call_of 69 (Value.int IntKind.u64 (u1 : Int)); refine (cmp_word _ _ p HP.out _).mono ?_; rintro r wz ⟨rfl, rfl⟩) | (go_at_call_of 69 (Value.int IntKind.u64 (v1 : Int)); refine (cmp_word _ _ q HQ.out _).mono ?_; rintro r wz ⟨rfl, rfl⟩) | (go_at_call 68; refine (cmp_or2 p q c HC.out _ _ _ (by first | exact row_last rfl | exact row_dr (row_last rfl))).mono ?_; rintro r wz ⟨rfl, rfl⟩) | fail)
  go_wp2
  go_ret
  exact ⟨rfl, And.left (sS.out _ _ s0 (bald _ _))⟩
end Go.Proofs.YtmndjhcmomejjaaDoor
