/-
  What the functions that the statement reaches return: part 2 (Wide3, Quiet2, Wide4, Wide6, Wide7, Wide8, Wide9, Wide10, Rwide1).
-/
import Derived.Deep.RegionWith
import Derived.Deep.QuietTactic
import Derived.BigQuiet
import Derived.ChangeKeysEq
import Derived.Deep.RegionLaw
import Derived.Laws.CopyOwn
import Derived.Deep.OwnRows
import Derived.Laws.BytesString
import Derived.Test.YtkblmpmkchkpjaaGreatDoorKt01
namespace Go.Proofs.YtkblmpmkchkpjaaGreatDoor
set_option maxRecDepth 100000
set_option maxHeartbeats 40000000
open Go.RowKit WMath
theorem left_is (x : Nat) (n : Int) (v : Nat) (h : x * 2 ^ cnt n % 18446744073709551616 = v) (w : World) :
  Calls Tryz.prog 244 #[.int .u64 x, .int .i64 n] w fun e w' => e = .returned (.int .u64 v) ∧ w' = w := by
 subst h; exact left_any x n w
theorem right_is (x : Nat) (n : Int) (v : Nat) (h : x / 2 ^ cnt n = v) (w : World) :
  Calls Tryz.prog 245 #[.int .u64 x, .int .i64 n] w fun e w' => e = .returned (.int .u64 v) ∧ w' = w := by
 subst h; exact right_any x n w

theorem wup_any (n s : Nat) (hn : n < Q) (hs : s ≤ 384) (w : World) :
  Calls Tryz.prog 181 #[W n, .int .i64 s] w fun e w' => e = .returned (W (n * 2 ^ s % Q)) ∧ Below w.heap.size w w' := by
 unfold W
 have hat := zU 6
 have hz := yB
 have hf := z8
 have hx := ix6
 have hs0 := st0d
 have hsc := sc0d
 obtain ⟨q, hq⟩ : ∃ q, q = s / 64 := ⟨_, rfl⟩
 obtain ⟨r, hr⟩ : ∃ r, r = s % 64 := ⟨_, rfl⟩
 have Ac : (s : Int) / 64 = (q : Int) := by omega
 have HR : zP ((s : Int) % 64 = (r : Int)) := zK (by omega)
 have hr2 : r < 64 := by omega
 have Ad : q ≤ 6 := by omega
 have HS : zP (s = 64 * q + r) := zK (by omega)
 have hwr : IntKind.i64.wrap (64 - (s : Int) % 64) = 64 - (s : Int) % 64 := by rw [IntKind.wrap_i64]; omega
 clear hq hr
 go_enter Tryz.func181, Tryz.ntmps181
 go_wp2
 go_loopw [16] (fun i wr => ∃ (k X : Nat), k ≤ 6 ∧ i = .int .i64 k ∧ (∃ d, wr = ((w.alloc (.cells (cw 6 n) 66)).alloc (.cells (cw 6 X) 66)).drewN d) ∧ zP (X = (n % 2 ^ (64 * k)) * 2 ^ s % Q)) (fun i _ => 6 - (intOf i).toNat)
 case atStart => exact ⟨0, 0, by omega, rfl, ⟨0, rfl⟩, zK (by simp [Nat.mod_one])⟩
 case round =>
  obtain ⟨k, X, hk, rfl, ⟨d, rfl⟩, HE⟩ := hrel
  by_cases hlt : k < 6
  ·
   obtain ⟨t, ht⟩ : ∃ t, t = k + q := ⟨_, rfl⟩
   have ht1 : (k : Int) + (q : Int) = (t : Int) := by omega
   obtain ⟨lo, hlo⟩ : ∃ lo, wd n k * 2 ^ r % 18446744073709551616 = lo := ⟨_, rfl⟩
   obtain ⟨hi, hhi⟩ : ∃ hi, wd n k / 2 ^ (64 - r) = hi := ⟨_, rfl⟩
   have hlo2 : lo < 18446744073709551616 := by rw [← hlo]; exact Nat.mod_lt _ (by decide)
   have hhi2 : hi < 18446744073709551616 := by rw [← hhi]; exact Nat.lt_of_le_of_lt (Nat.div_le_self _ _) (yH n k)
   have ST := zK (up_step n k s q r t X lo hi HS.out hr2 ht HE.out hlo hhi)
   have HLO := zK hlo
   have HHI := zK hhi
   have HT := zK ht
   clear hlo hhi ht
   have Aa : cnt ((s : Int) % 64) = r := by rw [HR.out]; exact cnt_small r hr2
   have Ab : cnt (64 - (s : Int) % 64) = 64 - r := by rw [HR.out]; unfold cnt; omega
   by_cases h1 : t < 6
   ·
    obtain ⟨X1, hX1⟩ : ∃ X1, X1 = X ||| lo * 2 ^ (64 * t) := ⟨_, rfl⟩
    have hb1 := bor X t lo hlo2
    have Ae := cw_or 6 X t lo X1 h1 hlo2 hX1
    have HX1 := zK hX1
    clear hX1
    have e1 : lo * 2 ^ (64 * t) % Q = lo * 2 ^ (64 * t) := Nat.mod_eq_of_lt (sh_small lo t hlo2 h1)
    have E1 := zK e1
    clear e1
    by_cases h2 : t + 1 < 6
    ·
     obtain ⟨X2, hX2⟩ : ∃ X2, X2 = X1 ||| hi * 2 ^ (64 * (t + 1)) := ⟨_, rfl⟩
     have hb2 := bor X1 (t + 1) hi hhi2
     have Af := cw_or 6 X1 (t + 1) hi X2 h2 hhi2 hX2
     have HX2 := zK hX2
     clear hX2
     have E2 := zK (Nat.mod_eq_of_lt (sh_small hi (t + 1) hhi2 h2))
     go_wp2
     go_region_with (go_at_call 244; refine (left_is _ _ lo (by rw [Aa]; exact HLO.out) _).mono ?_; rintro e w' ⟨rfl, rfl⟩)
     all_goals go_wp2
     all_goals go_region_with (go_at_call 245; refine (right_is _ _ hi (by rw [Ab]; exact HHI.out) _).mono ?_; rintro e w' ⟨rfl, rfl⟩)
     all_goals go_wp2
     all_goals go_roundw
     all_goals first | (show (_ : Nat) < _; simp [intOf]; omega) | exact ⟨k + 1, X2, by omega, by go_num, ⟨_, rfl⟩, zK (by rw [ST.out, E1.out, E2.out, HX2.out, HX1.out, Nat.or_assoc])⟩
    ·
     have E2 := zK (sh_big hi (t + 1) (by omega))
     go_wp2
     go_region_with (go_at_call 244; refine (left_is _ _ lo (by rw [Aa]; exact HLO.out) _).mono ?_; rintro e w' ⟨rfl, rfl⟩)
     all_goals go_wp2
     all_goals go_roundw
     all_goals first | (show (_ : Nat) < _; simp [intOf]; omega) | exact ⟨k + 1, X1, by omega, by go_num, ⟨_, rfl⟩, zK (by rw [ST.out, E1.out, E2.out, HX1.out, Nat.or_zero])⟩
   ·
    have E1 := zK (sh_big lo t (by omega))
    have E2 := zK (sh_big hi (t + 1) (by omega))
    have h3 : ¬ t + 1 < 6 := by omega
    go_wp2
    go_roundw
    case rel => exact ⟨k + 1, X, by omega, by go_num, ⟨_, rfl⟩, zK (by rw [ST.out, E1.out, E2.out, Nat.or_zero, Nat.or_zero])⟩
    case measure => simp [intOf]; omega
  ·
   go_wp2
   have e := HE.out
   rw [wlow n k hn (by omega)] at e
   subst e
   exact bodyPost_ret (v := .agg (cw 6 (n * 2 ^ s % Q))) (by simp [results, Tryz.results181, go_sem, hat, hf]) rfl ⟨rfl, below_drewN (((Below.refl _ _).alloc (Nat.le_refl _) _).alloc (by simp <;> omega) _) _⟩

theorem wdown_any (n s : Nat) (hn : n < Q) (hs : s ≤ 384) (w : World) :
  Calls Tryz.prog 222 #[W n, .int .i64 s] w fun e w' => e = .returned (W (n / 2 ^ s)) ∧ Below w.heap.size w w' := by
 unfold W
 have hat := zU 6
 have hz := yB
 have hf := z8
 have hx := ix6
 have hs0 := st0d
 have hsc := sc0d
 obtain ⟨q, hq⟩ : ∃ q, q = s / 64 := ⟨_, rfl⟩
 obtain ⟨r, hr⟩ : ∃ r, r = s % 64 := ⟨_, rfl⟩
 have Ac : (s : Int) / 64 = (q : Int) := by omega
 have HR : zP ((s : Int) % 64 = (r : Int)) := zK (by omega)
 have hr2 : r < 64 := by omega
 have Ad : q ≤ 6 := by omega
 have HS : zP (s = 64 * q + r) := zK (by omega)
 have hwr : IntKind.i64.wrap (64 - (s : Int) % 64) = 64 - (s : Int) % 64 := by rw [IntKind.wrap_i64]; omega
 clear hq hr
 go_enter Tryz.func222, Tryz.ntmps222
 go_wp2
 go_loopw [16] (fun i wr => ∃ (k X : Nat), k ≤ 6 ∧ i = .int .i64 k ∧ (∃ d, wr = ((w.alloc (.cells (cw 6 n) 66)).alloc (.cells (cw 6 X) 66)).drewN d) ∧ zP (X = (n % 2 ^ (64 * k)) / 2 ^ s)) (fun i _ => 6 - (intOf i).toNat)
 case atStart => exact ⟨0, 0, by omega, rfl, ⟨0, rfl⟩, zK (by simp [Nat.mod_one])⟩
 case round =>
  obtain ⟨k, X, hk, rfl, ⟨d, rfl⟩, HE⟩ := hrel
  by_cases hlt : k < 6
  ·
   obtain ⟨lo, hlo⟩ : ∃ lo, wd n k * 2 ^ (64 - r) % 18446744073709551616 = lo := ⟨_, rfl⟩
   obtain ⟨hi, hhi⟩ : ∃ hi, wd n k / 2 ^ r = hi := ⟨_, rfl⟩
   have hlo2 : lo < 18446744073709551616 := by rw [← hlo]; exact Nat.mod_lt _ (by decide)
   have hhi2 : hi < 18446744073709551616 := by rw [← hhi]; exact Nat.lt_of_le_of_lt (Nat.div_le_self _ _) (yH n k)
   have ST := zK (down_step n k s q r X lo hi HS.out hr2 HE.out hlo hhi)
   have HLO := zK hlo
   have HHI := zK hhi
   clear hlo hhi
   have Aa : cnt ((s : Int) % 64) = r := by rw [HR.out]; exact cnt_small r hr2
   have Ab : cnt (64 - (s : Int) % 64) = 64 - r := by rw [HR.out]; unfold cnt; omega
   by_cases h1 : q ≤ k
   ·
    obtain ⟨t, ht⟩ : ∃ t, t = k - q := ⟨_, rfl⟩
    have ht1 : (k : Int) - (q : Int) = (t : Int) := by omega
    have ht6 : t < 6 := by omega
    have HT := zK ht
    obtain ⟨X1, hX1⟩ : ∃ X1, X1 = X ||| hi * 2 ^ (64 * t) := ⟨_, rfl⟩
    have hb1 := bor X t hi hhi2
    have Ae := cw_or 6 X t hi X1 ht6 hhi2 hX1
    have HX1 := zK hX1
    clear hX1
    by_cases h2 : 1 ≤ t
    ·
     obtain ⟨u, hu⟩ : ∃ u, u = t - 1 := ⟨_, rfl⟩
     have hu1 : (t : Int) - 1 = (u : Int) := by omega
     have hu6 : u < 6 := by omega
     have hu3 : (0 : Int) ≤ (u : Int) := by omega
     have E : zP (X ||| (hi * 2 ^ (64 * (k - q)) ||| lo * 2 ^ (64 * (k - q - 1))) = X1 ||| lo * 2 ^ (64 * u)) := zK (by rw [HX1.out, show k - q - 1 = u by omega, show k - q = t by omega, Nat.or_assoc])
     have hqk : q < k := by omega
     clear ht hu
     obtain ⟨X2, hX2⟩ : ∃ X2, X2 = X1 ||| lo * 2 ^ (64 * u) := ⟨_, rfl⟩
     have hb2 := bor X1 u lo hlo2
     have Af := cw_or 6 X1 u lo X2 hu6 hlo2 hX2
     have HX2 := zK hX2
     clear hX2
     go_wp2
     go_region_with (go_at_call 245; refine (right_is _ _ hi (by rw [Aa]; exact HHI.out) _).mono ?_; rintro e w' ⟨rfl, rfl⟩)
     all_goals go_wp2
     all_goals go_region_with (go_at_call 244; refine (left_is _ _ lo (by rw [Ab]; exact HLO.out) _).mono ?_; rintro e w' ⟨rfl, rfl⟩)
     all_goals go_wp2
     all_goals go_roundw
     all_goals first | (show (_ : Nat) < _; simp [intOf]; omega) | exact ⟨k + 1, X2, by omega, by go_num, ⟨_, rfl⟩, zK (by rw [ST.out, if_pos hqk, E.out, HX2.out])⟩
    ·
     obtain rfl : q = k := by omega
     obtain rfl : t = 0 := by omega
     have E : zP (X1 = X ||| hi) := zK (by rw [HX1.out]; simp)
     clear ht
     go_wp2
     go_region_with (go_at_call 245; refine (right_is _ _ hi (by rw [Aa]; exact HHI.out) _).mono ?_; rintro e w' ⟨rfl, rfl⟩)
     all_goals go_wp2
     all_goals go_roundw
     all_goals first | (show (_ : Nat) < _; simp [intOf]; omega) | exact ⟨q + 1, X1, by omega, by go_num, ⟨_, rfl⟩, zK (by rw [ST.out, E.out]; simp)⟩
   ·
    have h4 : ¬ (0 : Int) ≤ (k : Int) - (q : Int) := by omega
    have h5 : ¬ (0 : Int) ≤ (k : Int) - (q : Int) - 1 := by omega
    go_wp2
    go_roundw
    case rel => exact ⟨k + 1, X, by omega, by go_num, ⟨_, rfl⟩, zK (by rw [ST.out, if_neg (by omega), if_neg (by omega)])⟩
    case measure => simp [intOf]; omega
  ·
   go_wp2
   have e := HE.out
   rw [wlow n k hn (by omega)] at e
   subst e
   exact bodyPost_ret (v := .agg (cw 6 (n / 2 ^ s))) (by simp [results, Tryz.results222, go_sem, hat, hf]) rfl ⟨rfl, below_drewN (((Below.refl _ _).alloc (Nat.le_refl _) _).alloc (by simp <;> omega) _) _⟩
theorem zS (W : World) : ∃ F : World → World, (∀ u, Below W.heap.size W (F u)) ∧ (∀ u, Below W.heap.size W u → F u = u) := by
 classical
 refine ⟨fun u => if Below W.heap.size W u then u else W, fun u => ?_, fun u h => if_pos h⟩
 by_cases h : Below W.heap.size W u
 ·
  simp only [h, if_true]
 ·
  simp only [h, if_false]; exact Below.refl _ _

theorem zJ {P : Program} {id : Nat} {Q : Exit → Act → World → Prop} {a : Act} {W : World} {l : List Oper} (F : World → World) (hF : ∀ u, Below W.heap.size W u → F u = u)
  (hm : P.follows .mixedOrders = true) (hB : Region.lexB .any l.toArray = true)
  (h : wpQuiet P l.toArray (fun w' => ∃ u, w' = F u) (fun a' => ∀ w', (∃ u, w' = F u) → Q .normal a' w') l a) : (Code.region id l.toArray true).wp P Q a W :=
 wp_region_quiet (C := fun w' => ∃ u, w' = F u) hm hB ⟨W.drew, (hF _ ((Below.refl _ _).drew)).symm⟩ (by simpa using h)

theorem zN {P : Program} {f : Nat} {args : Array Value} {v : Value} {W : World} {F : World → World} (h1 : ∀ u, Below W.heap.size W (F u)) (h2 : ∀ u, Below W.heap.size W u → F u = u) {u : World}
  (h : Calls P f args (F u) fun e w' => e = .returned v ∧ Below (F u).heap.size (F u) w') : Calls P f args (F u) fun e w'' => e = .returned v ∧ ∃ u', w'' = F u' :=
 h.mono fun _ w' ⟨he, hm⟩ => ⟨he, w', (h2 _ ((h1 u).trans (hm.mono (h1 u).size))).symm⟩
theorem yG {P : Program} {f : Nat} {args : Array Value} {v : Value} {F : World → World} {u : World}
  (h : Calls P f args (F u) fun e w' => e = .returned v ∧ w' = F u) : Calls P f args (F u) fun e w'' => e = .returned v ∧ ∃ u', w'' = F u' :=
 h.mono fun _ _ ⟨he, hm⟩ => ⟨he, u, hm⟩

theorem zA {W w1 : World} (hb : Below W.heap.size W w1) (b : Nat) (c : Array Value) (t : TypeId) (h : W.heap[b]? = some (.cells c t)) : w1.heap[b]? = some (.cells c t) := by
 rw [hb.block b (Array.getElem?_eq_some_iff.1 h).1, h]

theorem zE {w : World} {b n : Nat} (h : w.heap[b]? = some (.cells (cw 6 n) 66)) (o : Nat) (ho : o < 6) : w.cell? ⟨b, o, none⟩ = some (.int .u64 (wd n o : Nat)) := by
 rw [cell_of_row w b o _ _ _ h, zU 6 n o ho]
theorem zO {w : World} {b : Nat} {c c' : Array Value} {t : TypeId} (h : w.heap[b]? = some (.cells c t)) : (w.setRow b c').heap[b]? = some (.cells c' t) := by
 simp [World.setRow, Array.getElem?_modify, h]
theorem zH {w : World} {b b' : Nat} {c' : Array Value} (h : b ≠ b') : (w.setRow b c').heap[b']? = w.heap[b']? := by
 simp [World.setRow, Array.getElem?_modify, h]
theorem setRow_size {w : World} {b : Nat} {c' : Array Value} : (w.setRow b c').heap.size = w.heap.size := by
 simp [World.setRow]
theorem Below.setRow {B : Nat} {w w1 : World} {b : Nat} {c : Array Value} (h : Below B w w1) (hb : B ≤ b) : Below B w (w1.setRow b c) :=
 ⟨h.os, h.tape, h.output, by rw [setRow_size]; exact h.size, fun k hk => by rw [zH (by omega)]; exact h.block k hk⟩

theorem st_same (w : World) (b x : Nat) (h : w.heap[b]? = some (.cells (cw 6 x) 66)) :
  (storeCells ⟨b, 0, none⟩ (cw 6 x).toList 0).run Tryz.prog w = .ok () w := by
 rw [yW w b x x h, setRow_self w b _ _ _ h]

theorem eqItems6 (d x y : Nat) (w : World) : ∀ is : List Nat, (∀ i ∈ is, i < 6) → (Op.eqItems (d + 1) 23 1 (cw 6 x) (cw 6 y) is).run Tryz.prog w = .ok (is.all fun i => wd x i == wd y i) w
 | [], _ => rfl
 | i :: is, h => by
  have hi := h i (by simp)
  have ih := eqItems6 d x y w is (fun j hj => h j (by simp [hj]))
  have p1 : ∀ z : Nat, (part 23 (cw 6 z) (i * 1)).run Tryz.prog w = .ok (.int .u64 (wd z i : Nat)) w := fun z => by
   simp [part, zU 6 z i hi, go_sem]
  have e : ((wd x i : Int) == (wd y i : Int)) = (wd x i == wd y i) := by rw [Bool.eq_iff_iff]; simp only [beq_iff_eq]; omega
  simp only [Op.eqItems, Sem.run_bind, p1, Result.andThen_ok, run_equalIn_int _ d 23 .u64 .u64 _ _ Tryz.underlying23, e]
  cases he : wd x i == wd y i
  ·
   simp [he]
  ·
   simp [he, ih]

theorem eq6 (x y : Nat) (hx : x < Q) (hy : y < Q) (w : World) : (Op.equalIn 10000 66 (.agg (cw 6 x)) (.agg (cw 6 y))).run Tryz.prog w = .ok (decide (x = y)) w := by
 obtain ⟨i, hi⟩ : ∃ i, Tryz.prog.info? 23 = some i := by
  have : (Tryz.prog.info? 23).isSome = true := by kernel_rfl
  exact Option.isSome_iff_exists.1 this
 have hc : Tryz.prog.cellsOf 23 = 1 := by kernel_rfl
 rw [run_equalIn_array w 9999 (cw 6 x) (cw 6 y) Tryz.underlying66 hi, hc, eqItems6 9998 x y w (List.range 6) (fun i h => by simpa using h)]
 congr 1
 rw [Bool.eq_iff_iff, List.all_eq_true, decide_eq_true_iff]
 constructor
 ·
  intro h
  obtain ⟨L, hL, hQ⟩ := Q_of
  rw [hQ] at hx hy
  exact wd_ext hx hy (fun k hk => by simpa using h k (by rw [hL] at hk; simpa using hk))
 ·
  rintro rfl i _
  simp
theorem eqg6 : Tryz.prog.eqGuardType Tryz.prog.depth 66 = false := by kernel_rfl
theorem left_lost (n c x : Nat) (hx : x = n * 2 ^ c % Q) : (!decide (x / 2 ^ c = n)) = decide (Q ≤ n * 2 ^ c) := by
 by_cases h : n * 2 ^ c < Q
 ·
  rw [hx, Nat.mod_eq_of_lt h, Nat.mul_div_cancel _ (Nat.two_pow_pos c), decide_eq_false (show ¬ Q ≤ n * 2 ^ c by omega)]
  simp
 ·
  have h1 : x < Q := by rw [hx]; exact Nat.mod_lt _ Q_pos
  have h2 : x / 2 ^ c ≠ n := by
   intro e
   have := Nat.div_mul_le_self x (2 ^ c)
   rw [e] at this
   omega
  rw [decide_eq_true (show Q ≤ n * 2 ^ c by omega), decide_eq_false h2]
  rfl
theorem wleft_any (n : Nat) (s : Int) (hn : n < Q) (w : World) :
  Calls Tryz.prog 163 #[W n, .int .i64 s] w fun e w' => e = .returned (.tuple #[W (n * 2 ^ xS s % Q), .bool (decide (Q ≤ n * 2 ^ xS s))]) ∧ Below w.heap.size w w' := by
 have hs6 : xS s ≤ 384 := by unfold xS; omega
 obtain ⟨x, hx⟩ : ∃ x, x = n * 2 ^ xS s % Q := ⟨_, rfl⟩
 have hxQ : x < Q := by rw [hx]; exact Nat.mod_lt _ Q_pos
 unfold W
 have hat := zU 6
 have hz := yB
 have hf := z8
 have hW : ∀ x, W x = .agg (cw 6 x) := fun _ => rfl
 have heq := eq6
 have hg := eqg6
 have hdQ : x / 2 ^ xS s < Q := Nat.lt_of_le_of_lt (Nat.div_le_self _ _) hxQ
 rw [← hx]
 have HX := zK hx
 clear hx
 go_enter Tryz.func163, Tryz.ntmps163
 go_wp2_with (first | (go_at_call 221; refine (wcount_any _ _).mono ?_; rintro e w' ⟨rfl, rfl⟩))
 refine (wup_any n (xS s) hn hs6 _).mono ?_
 rintro e w1 ⟨rfl, hb1⟩
 rw [← HX.out]
 unfold W
 have hr0 : w1.heap[w.heap.size]? = some (.cells (cw 6 n) 66) := zA hb1 _ _ _ (by rw [z6 _ _ _ (by simp)]; exact heap_alloc_last w _)
 have hr1 : w1.heap[w.heap.size + 1]? = some (.cells (cw 6 0) 66) := zA hb1 _ _ _ (by rw [← zT]; exact heap_alloc_last _ _)
 obtain ⟨w2, Aa⟩ : ∃ w2, w2 = w1.setRow (w.heap.size + 1) (cw 6 x) := ⟨_, rfl⟩
 have hst : (storeCells ⟨w.heap.size + 1, 0, none⟩ (cw 6 x).toList 0).run Tryz.prog w1 = .ok () w2 := by rw [Aa]; exact yW w1 _ x 0 hr1
 have Ac : w2.heap[w.heap.size]? = some (.cells (cw 6 n) 66) := by rw [Aa, zH (by omega)]; exact hr0
 have Ab : w2.heap[w.heap.size + 1]? = some (.cells (cw 6 x) 66) := by rw [Aa]; exact zO hr1
 have hbw : Below w.heap.size w w2 := by
  rw [Aa]
  exact Below.setRow ((((Below.refl _ _).alloc (Nat.le_refl _) _).alloc (by simp) _).trans (hb1.mono (by simp <;> omega))) (by omega)
 have hs2 : w.heap.size + 1 < w2.heap.size := (Array.getElem?_eq_some_iff.1 Ab).1
 clear hb1 hr0 hr1 Aa
 obtain ⟨F, hF1, hF2⟩ := zS w2
 have hFn : ∀ u o, o < 6 → (F u).cell? ⟨w.heap.size, o, none⟩ = some (.int .u64 (wd n o : Nat)) := fun u => zE (zA (hF1 u) _ _ _ Ac)
 have hFx : ∀ u o, o < 6 → (F u).cell? ⟨w.heap.size + 1, o, none⟩ = some (.int .u64 (wd x o : Nat)) := fun u => zE (zA (hF1 u) _ _ _ Ab)
 have hFs : ∀ u, (storeCells ⟨w.heap.size + 1, 0, none⟩ (cw 6 x).toList 0).run Tryz.prog (F u) = .ok () (F u) := fun u => st_same _ _ _ (zA (hF1 u) _ _ _ Ab)
 go_wp2
 refine zJ F hF2 (by kernel_rfl) (by kernel_rfl) ?_
 repeat quiet_step ((go_at_call 222; exact zN hF1 hF2 (wdown_any x (xS s) hxQ hs6 _)))
 refine wpQuiet_nil ?_
 rintro _ ⟨u, rfl⟩
 go_wp2
 exact bodyPost_ret (v := .tuple #[.agg (cw 6 x), .bool (!decide (x / 2 ^ xS s = n))]) (by simp [results, Tryz.results163, go_sem, hFx, hf]) rfl ⟨by rw [left_lost n _ x HX.out], hbw.trans ((hF1 u).mono (by omega))⟩
theorem wleft_is (n v : Nat) (s : Int) (o : Bool) (hn : n < Q) (hv : n * 2 ^ xS s % Q = v) (ho : decide (Q ≤ n * 2 ^ xS s) = o) (w : World) :
  Calls Tryz.prog 163 #[.agg (cw 6 n), .int .i64 s] w fun e w' => e = .returned (.tuple #[.agg (cw 6 v), .bool o]) ∧ Below w.heap.size w w' := by
 subst hv; subst ho; exact wleft_any n s hn w
theorem len_is (x l : Nat) (hx : x < 18446744073709551616) (hl : zW x = l) (w : World) :
  Calls Tryz.prog 227 #[.int .u64 x] w fun e w' => e = .returned (.int .i64 (l : Nat)) ∧ w' = w := by
 subst hl; rw [← bitLen_blen x hx]; exact len_any x hx w

theorem wlen_any (n : Nat) (hn : n < Q) (w : World) :
  Calls Tryz.prog 154 #[W n] w fun e w' => e = .returned (.int .i64 (zW n : Nat)) ∧ Below w.heap.size w w' := by
 unfold W
 have hat := zU 6
 have hf := z8
 have hx := ix6
 go_enter Tryz.func154, Tryz.ntmps154
 go_wp2
 go_loop [3, 7] (fun r i => ∃ (k l : Nat), k ≤ 6 ∧ i = .int .i64 k ∧ r = .int .i64 l ∧ zP (l = zW (n % 2 ^ (64 * k)))) (fun _ i => 6 - (intOf i).toNat)
 case atStart => exact ⟨0, 0, by omega, rfl, rfl, zK (by rw [Nat.mul_zero, Nat.pow_zero, Nat.mod_one, blen_zero])⟩
 case round =>
  obtain ⟨k, l, hk, rfl, rfl, HE⟩ := hrel
  by_cases hlt : k < 6
  ·
   have ST := zK (blen_step n k)
   obtain ⟨x, hxe⟩ : ∃ x, wd n k = x := ⟨_, rfl⟩
   have hx2 : x < 18446744073709551616 := by rw [← hxe]; exact yH n k
   have hbl : zW x ≤ 64 := xI x 64 (by rw [← x5]; exact hx2)
   obtain ⟨b, hb⟩ : ∃ b, zW x = b := ⟨_, rfl⟩
   rw [hb] at hbl
   have HB := zK hb
   have HX := zK hxe
   clear hb
   by_cases h0 : x = 0
   ·
    subst h0
    go_wp2
    go_round
    case rel => exact ⟨k + 1, l, by omega, by go_num, rfl, zK (by rw [ST.out, HX.out, if_pos rfl]; exact HE.out)⟩
    case measure => simp [intOf]; omega
   ·
    go_wp2_with (go_at_call 227; refine (len_is x b hx2 HB.out _).mono ?_; rintro e w' ⟨rfl, rfl⟩)
    go_round
    case rel => exact ⟨k + 1, 64 * k + b, by omega, by go_num, by go_num, zK (by rw [ST.out, HX.out, if_neg h0, HB.out])⟩
    case measure => simp [intOf]; omega
  ·
   go_wp2
   go_ret
   exact ⟨yU (by rw [HE.out, wlow n k hn (by omega)]), (Below.refl _ _).alloc (Nat.le_refl _) _⟩

theorem wfield_any (n low c : Nat) (hl : low < 384) (hc : low % 64 + c ≤ 64) (w : World) :
  Calls Tryz.prog 168 #[W n, .int .i64 low, .int .i64 c] w fun e w' => e = .returned (.int .u64 (n / 2 ^ low % 2 ^ c : Nat)) ∧ Below w.heap.size w w' := by
 unfold W
 have hat := zU 6
 obtain ⟨q, hq⟩ : ∃ q, q = low / 64 := ⟨_, rfl⟩
 obtain ⟨r, hr⟩ : ∃ r, r = low % 64 := ⟨_, rfl⟩
 have Aa : (low : Int) / 64 = (q : Int) := by omega
 have Ab : q < 6 := by omega
 have HR : zP ((low : Int) % 64 = (r : Int)) := zK (by omega)
 have hr2 : r < 64 := by omega
 have hrc : r + c ≤ 64 := by omega
 have HF := zK (field_num n q r c low (by omega) hrc)
 clear hq hr hc
 go_enter Tryz.func168, Tryz.ntmps168
 go_wp2_with (go_at_call 239; refine (field_any (wd n q) _ _ (yH _ _) _).mono ?_; rintro e w' ⟨rfl, rfl⟩)
 go_ret
 refine ⟨yU ?_, (Below.refl _ _).alloc (Nat.le_refl _) _⟩
 rw [← HF.out]
 have e1 : cnt ((low : Int) % 64) = r := by rw [HR.out]; exact cnt_small r hr2
 have e2 : cnt (c : Int) = c := by unfold cnt; omega
 rw [e1, e2]
 simp
def cb (l : List UInt8) : Array Value := (l.map fun b => Value.int .u8 (b.toNat : Int)).toArray

theorem cb_at (l : List UInt8) (k : Nat) (b : UInt8) (h : l[k]? = some b) : (cb l)[k]? = some (.int .u8 (b.toNat : Int)) := by simp [cb, h]
theorem cb_size (l : List UInt8) : (cb l).size = l.length := by simp [cb]
theorem cb_set (l : List UInt8) (k : Nat) (b : UInt8) : (cb l).setIfInBounds k (.int .u8 (b.toNat : Int)) = cb (l.set k b) := by
 simp [cb, List.map_set]
theorem cb_made (L : Nat) : madeCells #[.int .u8 0] L = cb (List.replicate L 0) := by
 apply Array.ext_getElem?
 intro i
 by_cases h : i < L
 ·
  rw [cb_at _ i 0 (by simp [h])]
  simp [madeCells, h, Nat.mod_one]
 ·
  rw [Array.getElem?_eq_none (by rw [size_madeCells]; omega), Array.getElem?_eq_none (by rw [cb_size]; simp; omega)]

def wt (L n k : Nat) : List UInt8 := (hxs L n).take k ++ List.replicate (L - k) 0
theorem wt_zero (L n : Nat) : wt L n 0 = List.replicate L 0 := by simp [wt]
theorem wt_full (L n : Nat) : wt L n L = hxs L n := by simp [wt, List.take_of_length_le (Nat.le_of_eq (hxs_len L n))]
theorem wt_len (L n k : Nat) (h : k ≤ L) : (wt L n k).length = L := by simp [wt, hxs_len]; omega
theorem wt_step (L n k : Nat) (h : k < L) : (wt L n k).set k (dg (n / 16 ^ (L - 1 - k) % 16)) = wt L n (k + 1) := by
 apply List.ext_getElem?
 intro i
 rw [List.getElem?_set, wt_len L n k (by omega)]
 have a : ∀ k, k ≤ L → (wt L n k)[i]? = if i < k then (hxs L n)[i]? else if i < L then some 0 else none := by
  intro k hk
  unfold wt
  rw [List.getElem?_append, List.length_take, hxs_len, Nat.min_eq_left hk]
  split
  ·
   rename_i h1; rw [List.getElem?_take, if_pos h1]
  ·
   rename_i h1; rw [List.getElem?_replicate]
   by_cases h2 : i < L
   ·
    rw [if_pos h2, if_pos (by omega)]
   ·
    rw [if_neg h2, if_neg (by omega)]
 rw [a k (by omega), a (k + 1) (by omega)]
 by_cases e : k = i
 ·
  subst e
  rw [if_pos rfl, if_pos h, if_pos (by omega), hxs_at L n k h]
 ·
  rw [if_neg e]
  by_cases e2 : i < k
  ·
   rw [if_pos e2, if_pos (by omega)]
  ·
   rw [if_neg e2, if_neg (show ¬ i < k + 1 by omega)]

theorem fz {w : World} {b k : Nat} {c : Array Value} {t : TypeId} (h : w.heap[b]? = some (.cells c t)) : w.frozen? ⟨b, k, none⟩ = false := by simp [World.frozen?, h]
theorem yC {w : World} {b k : Nat} {c : Array Value} {t : TypeId} {v : Value} (h : w.heap[b]? = some (.cells c t)) : (w.setCell ⟨b, k, none⟩ v).heap[b]? = some (.cells (c.setIfInBounds k v) t) := by
 simp [World.setCell, Array.getElem?_modify, h]
theorem zB {w : World} {b b' k : Nat} {v : Value} (h : b ≠ b') : (w.setCell ⟨b, k, none⟩ v).heap[b']? = w.heap[b']? := by
 simp [World.setCell, Array.getElem?_modify, h]
theorem cb_cell {w : World} {b k : Nat} {l : List UInt8} {t : TypeId} {x : UInt8} (h : w.heap[b]? = some (.cells (cb l) t)) (hk : l[k]? = some x) : w.cell? ⟨b, k, none⟩ = some (.int .u8 (x.toNat : Int)) := by
 rw [cell_of_row w b k _ _ _ h, cb_at l k x hk]
theorem fold_bytes : ∀ (l : List UInt8) (a : Array UInt8), ((l.map fun b => (b.toNat : Int)).foldl (fun r n => r.push (UInt8.ofNat n.toNat)) (⟨a⟩ : ByteArray)) = ⟨a ++ l.toArray⟩
 | [], a => by simp
 | x :: l, a => by
  have := fold_bytes l (a.push x)
  simp only [List.map_cons, List.foldl_cons, Int.toNat_natCast, UInt8.ofNat_toNat]
  rw [show (ByteArray.mk a).push x = ⟨a.push x⟩ from rfl, this]
  simp
theorem str_of {w : World} {b c : Nat} {l : List UInt8} {t : TypeId} (h : w.heap[b]? = some (.cells (cb l) t)) :
  (convert 202 9 (.slice (some ⟨b, 0, none⟩) l.length c)).run Tryz.prog w = .ok (.string ⟨l.toArray⟩) w := by
 rw [run_convert_bytes_string w 202 9 5 _ _ _ Tryz.underlying202 Tryz.underlying5 Tryz.underlying9]
 have hl := run_loadCells_list (P := Tryz.prog) w ⟨b, 0, none⟩ (l.map fun x => Value.int .u8 (x.toNat : Int)) (fun j v hv => by
  have hadd : (⟨b, 0, none⟩ : Addr).add j = ⟨b, j, none⟩ := by unfold Addr.add; split <;> simp_all
  rw [hadd, cell_of_row w b j _ _ _ h]
  simpa [cb] using hv)
 rw [List.length_map] at hl
 rw [run_bytesToString (P := Tryz.prog) w ⟨b, 0, none⟩ l.length c (l.map fun x => (x.toNat : Int)) (by rw [hl]; simp), show ByteArray.empty = ⟨#[]⟩ from rfl, fold_bytes]
 simp

theorem dig_fact (w : World) (d : Nat) (h : d < 16) :
  (Instr.index 9 (.string ⟨#[48, 49, 50, 51, 52, 53, 54, 55, 56, 57, 97, 98, 99, 100, 101, 102]⟩) (.int .u64 d)).run Tryz.prog w = .ok (.int .u8 ((dg d).toNat : Int)) w := by
 have hd : d = 0 ∨ d = 1 ∨ d = 2 ∨ d = 3 ∨ d = 4 ∨ d = 5 ∨ d = 6 ∨ d = 7 ∨ d = 8 ∨ d = 9 ∨ d = 10 ∨ d = 11 ∨ d = 12 ∨ d = 13 ∨ d = 14 ∨ d = 15 := by omega
 rcases hd with rfl | rfl | rfl | rfl | rfl | rfl | rfl | rfl | rfl | rfl | rfl | rfl | rfl | rfl | rfl | rfl <;> (rw [run_index_string (P := Tryz.prog) w 9 _ _ _ Tryz.underlying9]; rfl)

theorem wfield4 (n low : Nat) (hl : low < 384) (hc : low % 64 ≤ 60) (w : World) :
  Calls Tryz.prog 168 #[.agg (cw 6 n), .int .i64 low, .int .i64 4] w fun e w' => e = .returned (.int .u64 (n / 2 ^ low % 2 ^ 4 : Nat)) ∧ Below w.heap.size w w' := wfield_any n low 4 hl (by omega) w

theorem wtext_any (n : Nat) (hn : n < Q) (w : World) :
  Calls Tryz.prog 80 #[W n] w fun e w' => e = .returned (.string ⟨(tx n).toArray⟩) ∧ Below w.heap.size w w' := by
 have hnd := nd_le n hn
 obtain ⟨L, hL⟩ : ∃ L, nd n = L := ⟨_, rfl⟩
 rw [hL] at hnd
 obtain ⟨b, hb⟩ : ∃ b, zW n = b := ⟨_, rfl⟩
 have hb4 : b ≤ 384 := by
  obtain ⟨S, hS, hQ⟩ := Q_of
  rw [hQ] at hn
  have := xI n _ hn
  omega
 have hLb : L = max 1 ((b + 3) / 4) := by rw [← hL, ← hb]; rfl
 have HL := zK hL
 have HB := zK hb
 have HT : zP (tx n = hxs L n) := zK (by unfold tx; rw [hL])
 unfold W
 have hat := zU 6
 have hf := z8
 have hmk : ∀ w, (Instr.makeSlice 202 (.int .i64 (L : Int)) (.int .i64 (L : Int))).run Tryz.prog w = .ok (.slice (some ⟨w.heap.size, 0, none⟩) L L) (w.alloc (.cells (cb (List.replicate L 0)) 5)) := fun w => by
  rw [← cb_made]
  exact run_make_row' (P := Tryz.prog) 202 5 (.int .u8 0) 1 Tryz.underlying202 (by kernel_rfl) rfl .i64 .i64 L (by omega) (by omega) w
 have hcase : (L = 1 ∧ ((b : Int) + 4 - 1) / 4 = 0) ∨ (L = 1 ∧ ((b : Int) + 4 - 1) / 4 = 1) ∨ (1 < L ∧ ((b : Int) + 4 - 1) / 4 = (L : Int)) := by omega
 clear hb hL hLb
 rcases hcase with ⟨hL1, hd⟩ | ⟨hL1, hd⟩ | ⟨h1, hd⟩
 ·
  subst hL1
  try simp only [Int.ofNat_one] at hmk
  go_enter Tryz.func80, Tryz.ntmps80
  go_wp2_with fail
  refine (wlen_any n hn _).mono ?_
  rw [HB.out]
  rintro e w1 ⟨rfl, hb1⟩
  go_wp2
  clear hd
  have r0 : w1.heap[w.heap.size]? = some (.cells (cw 6 n) 66) := zA hb1 _ _ _ (heap_alloc_last w _)
  have s1 : w.heap.size < w1.heap.size := (Array.getElem?_eq_some_iff.1 r0).1
  have b1 : Below w.heap.size w w1 := ((Below.refl _ _).alloc (Nat.le_refl _) _).trans (hb1.mono (by simp))
  clear hb1
  go_loopw [16] (fun i wr => ∃ k : Nat, k ≤ 1 ∧ i = .int .i64 k ∧ wr.heap[w.heap.size]? = some (.cells (cw 6 n) 66) ∧ wr.heap[w1.heap.size]? = some (.cells (cb (wt 1 n k)) 5) ∧ Below w.heap.size w wr) (fun i _ => 1 - (intOf i).toNat)
  case atStart => exact ⟨0, by omega, rfl, by rw [z6 _ _ _ s1]; exact r0, by rw [wt_zero]; exact heap_alloc_last _ _, b1.alloc (by omega) _⟩
  case round =>
   obtain ⟨k, hk, rfl, hr0, hr1, hbw⟩ := hrel
   by_cases hlt : k < 1
   ·
    have hc := zE hr0
    obtain rfl : k = 0 := by omega
    obtain ⟨d, hd2⟩ : ∃ d, n / 2 ^ 0 % 2 ^ 4 = d := ⟨_, rfl⟩
    have hd16 : d < 16 := by rw [← hd2]; exact Nat.mod_lt _ (by decide)
    have hstep := wt_step 1 n 0 (by omega)
    have hdg : n / 16 ^ (1 - 1 - 0) % 16 = d := by
     rw [← hd2]
    rw [hdg] at hstep
    have HST := zK hstep
    have HD := zK hd2
    clear hstep hd2 hdg
    have hs2 : w1.heap.size < wr.heap.size := (Array.getElem?_eq_some_iff.1 hr1).1
    go_wp2_with fail
    refine (wfield4 n 0 (by omega) (by omega) _).mono ?_
    rw [HD.out]
    rintro e w2 ⟨rfl, hb2⟩
    have q0 : w2.heap[w.heap.size]? = some (.cells (cw 6 n) 66) := zA hb2 _ _ _ hr0
    have q1 : w2.heap[w1.heap.size]? = some (.cells (cb (wt 1 n 0)) 5) := zA hb2 _ _ _ hr1
    have hb3 : Below w.heap.size w w2 := hbw.trans (hb2.mono hbw.size)
    obtain ⟨x, hx⟩ : ∃ x, (wt 1 n 0)[0]? = some x := ⟨_, List.getElem?_eq_getElem (by rw [wt_len 1 n 0 (by omega)]; omega)⟩
    have hcell := cb_cell q1 hx
    have hfz := fz (k := 0) q1
    have hdf := dig_fact w2 d hd16
    clear hc hb2
    go_wp2
    go_roundw
    case rel => exact ⟨0 + 1, by omega, by go_num, by rw [zB (by omega)]; exact q0, by rw [yC q1, cb_set, HST.out], hb3.setCell (by show w.heap.size ≤ w1.heap.size; omega) _⟩
    case measure => simp [intOf] <;> omega
   ·
    obtain rfl : k = 1 := by omega
    rw [wt_full] at hr1
    have hsv := str_of (c := 1) hr1
    rw [hxs_len] at hsv
    go_wp2
    go_ret
    exact ⟨(congrArg (fun l => Ending.returned (Value.string ⟨l⟩)) (congrArg List.toArray HT.out.symm)), hbw⟩
 ·
  subst hL1
  try simp only [Int.ofNat_one] at hmk
  go_enter Tryz.func80, Tryz.ntmps80
  go_wp2_with fail
  refine (wlen_any n hn _).mono ?_
  rw [HB.out]
  rintro e w1 ⟨rfl, hb1⟩
  go_wp2
  clear hd
  have r0 : w1.heap[w.heap.size]? = some (.cells (cw 6 n) 66) := zA hb1 _ _ _ (heap_alloc_last w _)
  have s1 : w.heap.size < w1.heap.size := (Array.getElem?_eq_some_iff.1 r0).1
  have b1 : Below w.heap.size w w1 := ((Below.refl _ _).alloc (Nat.le_refl _) _).trans (hb1.mono (by simp))
  clear hb1
  go_loopw [16] (fun i wr => ∃ k : Nat, k ≤ 1 ∧ i = .int .i64 k ∧ wr.heap[w.heap.size]? = some (.cells (cw 6 n) 66) ∧ wr.heap[w1.heap.size]? = some (.cells (cb (wt 1 n k)) 5) ∧ Below w.heap.size w wr) (fun i _ => 1 - (intOf i).toNat)
  case atStart => exact ⟨0, by omega, rfl, by rw [z6 _ _ _ s1]; exact r0, by rw [wt_zero]; exact heap_alloc_last _ _, b1.alloc (by omega) _⟩
  case round =>
   obtain ⟨k, hk, rfl, hr0, hr1, hbw⟩ := hrel
   by_cases hlt : k < 1
   ·
    have hc := zE hr0
    obtain rfl : k = 0 := by omega
    obtain ⟨d, hd2⟩ : ∃ d, n / 2 ^ 0 % 2 ^ 4 = d := ⟨_, rfl⟩
    have hd16 : d < 16 := by rw [← hd2]; exact Nat.mod_lt _ (by decide)
    have hstep := wt_step 1 n 0 (by omega)
    have hdg : n / 16 ^ (1 - 1 - 0) % 16 = d := by
     rw [← hd2]
    rw [hdg] at hstep
    have HST := zK hstep
    have HD := zK hd2
    clear hstep hd2 hdg
    have hs2 : w1.heap.size < wr.heap.size := (Array.getElem?_eq_some_iff.1 hr1).1
    go_wp2_with fail
    refine (wfield4 n 0 (by omega) (by omega) _).mono ?_
    rw [HD.out]
    rintro e w2 ⟨rfl, hb2⟩
    have q0 : w2.heap[w.heap.size]? = some (.cells (cw 6 n) 66) := zA hb2 _ _ _ hr0
    have q1 : w2.heap[w1.heap.size]? = some (.cells (cb (wt 1 n 0)) 5) := zA hb2 _ _ _ hr1
    have hb3 : Below w.heap.size w w2 := hbw.trans (hb2.mono hbw.size)
    obtain ⟨x, hx⟩ : ∃ x, (wt 1 n 0)[0]? = some x := ⟨_, List.getElem?_eq_getElem (by rw [wt_len 1 n 0 (by omega)]; omega)⟩
    have hcell := cb_cell q1 hx
    have hfz := fz (k := 0) q1
    have hdf := dig_fact w2 d hd16
    clear hc hb2
    go_wp2
    go_roundw
    case rel => exact ⟨0 + 1, by omega, by go_num, by rw [zB (by omega)]; exact q0, by rw [yC q1, cb_set, HST.out], hb3.setCell (by show w.heap.size ≤ w1.heap.size; omega) _⟩
    case measure => simp [intOf] <;> omega
   ·
    obtain rfl : k = 1 := by omega
    rw [wt_full] at hr1
    have hsv := str_of (c := 1) hr1
    rw [hxs_len] at hsv
    go_wp2
    go_ret
    exact ⟨(congrArg (fun l => Ending.returned (Value.string ⟨l⟩)) (congrArg List.toArray HT.out.symm)), hbw⟩
 ·
  have hLi : (L : Int) ≤ 96 := by omega
  try simp only [Int.ofNat_one] at hmk
  go_enter Tryz.func80, Tryz.ntmps80
  go_wp2_with fail
  refine (wlen_any n hn _).mono ?_
  rw [HB.out]
  rintro e w1 ⟨rfl, hb1⟩
  go_wp2
  clear hd
  have r0 : w1.heap[w.heap.size]? = some (.cells (cw 6 n) 66) := zA hb1 _ _ _ (heap_alloc_last w _)
  have s1 : w.heap.size < w1.heap.size := (Array.getElem?_eq_some_iff.1 r0).1
  have b1 : Below w.heap.size w w1 := ((Below.refl _ _).alloc (Nat.le_refl _) _).trans (hb1.mono (by simp))
  clear hb1
  go_loopw [16] (fun i wr => ∃ k : Nat, k ≤ L ∧ i = .int .i64 k ∧ wr.heap[w.heap.size]? = some (.cells (cw 6 n) 66) ∧ wr.heap[w1.heap.size]? = some (.cells (cb (wt L n k)) 5) ∧ Below w.heap.size w wr) (fun i _ => L - (intOf i).toNat)
  case atStart => exact ⟨0, by omega, rfl, by rw [z6 _ _ _ s1]; exact r0, by rw [wt_zero]; exact heap_alloc_last _ _, b1.alloc (by omega) _⟩
  case round =>
   obtain ⟨k, hk, rfl, hr0, hr1, hbw⟩ := hrel
   by_cases hlt : k < L
   ·
    have hc := zE hr0
    obtain ⟨p, hp⟩ : ∃ p, p = L - 1 - k := ⟨_, rfl⟩
    obtain ⟨low, hlow⟩ : ∃ low, low = 4 * p := ⟨_, rfl⟩
    have hp1 : ((L : Int) - 1 - (k : Int)) * 4 = (low : Int) := by omega
    obtain ⟨d, hd2⟩ : ∃ d, n / 2 ^ low % 2 ^ 4 = d := ⟨_, rfl⟩
    have hd16 : d < 16 := by rw [← hd2]; exact Nat.mod_lt _ (by decide)
    have hstep := wt_step L n k (by omega)
    have hdg : n / 16 ^ (L - 1 - k) % 16 = d := by
     rw [← hd2, show (16 : Nat) = 2 ^ 4 from rfl, ← Nat.pow_mul]
     congr 3; omega
    rw [hdg] at hstep
    have HST := zK hstep
    have HD := zK hd2
    have f1 : low < 384 := by omega
    have f2 : low % 64 ≤ 60 := by omega
    clear hstep hd2 hdg hp hlow
    have hs2 : w1.heap.size < wr.heap.size := (Array.getElem?_eq_some_iff.1 hr1).1
    go_wp2_with fail
    refine (wfield4 n low f1 f2 _).mono ?_
    rw [HD.out]
    rintro e w2 ⟨rfl, hb2⟩
    have q0 : w2.heap[w.heap.size]? = some (.cells (cw 6 n) 66) := zA hb2 _ _ _ hr0
    have q1 : w2.heap[w1.heap.size]? = some (.cells (cb (wt L n k)) 5) := zA hb2 _ _ _ hr1
    have hb3 : Below w.heap.size w w2 := hbw.trans (hb2.mono hbw.size)
    obtain ⟨x, hx⟩ : ∃ x, (wt L n k)[k]? = some x := ⟨_, List.getElem?_eq_getElem (by rw [wt_len L n k (by omega)]; omega)⟩
    have hcell := cb_cell q1 hx
    have hfz := fz (k := k) q1
    have hdf := dig_fact w2 d hd16
    clear hc hb2
    go_wp2
    go_roundw
    case rel => exact ⟨k + 1, by omega, by go_num, by rw [zB (by omega)]; exact q0, by rw [yC q1, cb_set, HST.out], hb3.setCell (by show w.heap.size ≤ w1.heap.size; omega) _⟩
    case measure => simp [intOf] <;> omega
   ·
    rw [show k = L by omega, wt_full] at hr1
    have hsv := str_of (c := L) hr1
    rw [hxs_len] at hsv
    go_wp2
    go_ret
    exact ⟨(congrArg (fun l => Ending.returned (Value.string ⟨l⟩)) (congrArg List.toArray HT.out.symm)), hbw⟩
theorem wof_al (n : Nat) (hn : n < 18446744073709551616) (w : World) : Calls Tryz.prog 164 #[.int .u64 n] w fun e w' => e = .returned (.agg (cw 6 n)) ∧ Below w.heap.size w w' := wof_any n hn w
def xK (b : Nat × Nat) : Value := .agg #[.int .u64 (b.1 : Nat), .int .u64 (b.2 : Nat)]

theorem set0 (x : Nat) (hx : x < 18446744073709551616) : (cw 6 0).setIfInBounds 0 (.int .u64 x) = cw 6 x := by
 rw [cw_set 6 0 0 x (by omega) hx, setw_low 0 0 x (by decide)]; simp
theorem set1 (x y : Nat) (hx : x < 18446744073709551616) (hy : y < 18446744073709551616) : (cw 6 x).setIfInBounds 1 (.int .u64 y) = cw 6 (x + 18446744073709551616 * y) := by
 rw [cw_set 6 x 1 y (by omega) hy, setw_low x 1 y (by rw [show 2 ^ (64 * 1) = 18446744073709551616 by decide]; exact hx)]
theorem bits_ltQ (x y : Nat) (hx : x < 18446744073709551616) (hy : y < 18446744073709551616) : x + 18446744073709551616 * y < Q := by
 obtain ⟨L, hL, hQ⟩ := Q_of
 rw [hQ]
 have h := push_lt x 1 y (by rw [show 2 ^ (64 * 1) = 18446744073709551616 by decide]; exact hx) hy
 have h2 : 2 ^ (64 * (1 + 1)) ≤ 2 ^ (64 * L) := Nat.pow_le_pow_right (by decide) (by omega)
 rw [show 2 ^ (64 * 1) = 18446744073709551616 by decide] at h
 omega

theorem wofbits_any (hi lo : Nat) (hh : hi < 18446744073709551616) (hl : lo < 18446744073709551616) (w : World) :
  Calls Tryz.prog 141 #[.agg #[.int .u64 hi, .int .u64 lo]] w fun e w' => e = .returned (.agg (cw 6 (lo + 18446744073709551616 * hi))) ∧ Below w.heap.size w w' := by
 have hat := zU 6
 have hz := yB
 have hf := z8
 have hs0 := xO
 obtain ⟨v, hv⟩ : ∃ v, v = lo + 18446744073709551616 * hi := ⟨_, rfl⟩
 have h1 := set0 lo hl
 have h2 := set1 lo hi hl hh
 rw [← hv] at h2 ⊢
 have h3 : (cw 6 0).toList.set 0 (.int .u64 lo) = (cw 6 lo).toList := by rw [← h1]; simp
 have h4 : (cw 6 lo).toList.set 1 (.int .u64 hi) = (cw 6 v).toList := by rw [← h2]; simp
 clear hv
 go_enter Tryz.func141, Tryz.ntmps141
 go_wp2
 exact bodyPost_ret (v := .agg (cw 6 v)) (by simp [results, Tryz.results141, go_sem, hat, hf]) rfl ⟨rfl, ((Below.refl _ _).alloc (Nat.le_refl _) _).alloc (by simp <;> omega) _⟩

theorem rwof_any (n : Nat) (hn : n < 18446744073709551616) (w : World) :
  Calls Tryz.prog 90 #[.int .u64 n] w fun e w' => e = .returned (.agg (cw 6 n)) ∧ Below w.heap.size w w' := by
 have hat := zU 6
 have hz := yB
 have hf := z8
 have hs1 := st1
 have h1 := set0 n hn
 go_enter Tryz.func90, Tryz.ntmps90
 go_wp2
 exact bodyPost_ret (v := .agg (cw 6 n)) (by simp [results, Tryz.results90, go_sem, hat, hf]) rfl ⟨rfl, ((Below.refl _ _).alloc (Nat.le_refl _) _).alloc (by simp <;> omega) _⟩

theorem rwofbits_any (hi lo : Nat) (hh : hi < 18446744073709551616) (hl : lo < 18446744073709551616) (w : World) :
  Calls Tryz.prog 83 #[.agg #[.int .u64 hi, .int .u64 lo]] w fun e w' => e = .returned (.agg (cw 6 (lo + 18446744073709551616 * hi))) ∧ Below w.heap.size w w' := by
 have hat := zU 6
 have hz := yB
 have hf := z8
 have hs1 := st1
 obtain ⟨v, hv⟩ : ∃ v, v = lo + 18446744073709551616 * hi := ⟨_, rfl⟩
 have h1 := set0 lo hl
 have h2 := set1 lo hi hl hh
 rw [← hv] at h2 ⊢
 clear hv
 go_enter Tryz.func83, Tryz.ntmps83
 go_wp2
 exact bodyPost_ret (v := .agg (cw 6 v)) (by simp [results, Tryz.results83, go_sem, hat, hf]) rfl ⟨rfl, (((Below.refl _ _).alloc (Nat.le_refl _) _).alloc (by simp <;> omega) _).alloc (by simp <;> omega) _⟩

theorem hi_zero (n k : Nat) : ∀ d, (∀ j, k ≤ j → j < k + d → wd n j = 0) → n % 2 ^ (64 * (k + d)) = n % 2 ^ (64 * k)
 | 0, _ => rfl
 | d + 1, h => by
  rw [← Nat.add_assoc, mod_wd, h (k + d) (by omega) (by omega), Nat.mul_zero, Nat.add_zero]
  exact hi_zero n k d (fun j h1 h2 => h j h1 (by omega))
theorem two_words (n : Nat) (hn : n < Q) : (wd n 0 + 18446744073709551616 * wd n 1 = n) ↔ (wd n 2 = 0 ∧ wd n 3 = 0 ∧ wd n 4 = 0 ∧ wd n 5 = 0) := by
 have hp : (2 : Nat) ^ (64 * 1) = 18446744073709551616 := by decide
 have h0 : ∀ a b j, a < 18446744073709551616 → b < 18446744073709551616 → 2 ≤ j → wd (a + 18446744073709551616 * b) j = 0 := fun a b j ha hb hj => by
  have := push_lt a 1 b (by rw [hp]; exact ha) hb
  rw [hp] at this
  exact wd_high this hj
 constructor
 ·
  intro h
  rw [← h]
  exact ⟨h0 _ _ 2 (yH _ _) (yH _ _) (by omega), h0 _ _ 3 (yH _ _) (yH _ _) (by omega), h0 _ _ 4 (yH _ _) (yH _ _) (by omega), h0 _ _ 5 (yH _ _) (yH _ _) (by omega)⟩
 ·
  rintro ⟨h2, h3, h4, h5⟩
  obtain ⟨K, hK⟩ : ∃ K : Nat, K = 1 := ⟨1, rfl⟩
  have e1 : wd n 0 + 18446744073709551616 * wd n 1 = n % 2 ^ (64 * (K + 1)) := by
   rw [mod_wd, hK, hp, show n % 18446744073709551616 = wd n 0 by unfold wd; simp]
  have c := hi_zero n (K + 1) 4 (fun j g1 g2 => by
   have : j = 2 ∨ j = 3 ∨ j = 4 ∨ j = 5 := by omega
   rcases this with rfl | rfl | rfl | rfl <;> assumption)
  rw [wlow n (K + 1 + 4) hn (by omega)] at c
  rw [e1, ← c]

theorem wofbits_is (hi lo v : Nat) (hh : hi < 18446744073709551616) (hl : lo < 18446744073709551616) (hv : lo + 18446744073709551616 * hi = v) (w : World) :
  Calls Tryz.prog 141 #[.agg #[.int .u64 hi, .int .u64 lo]] w fun e w' => e = .returned (.agg (cw 6 v)) ∧ Below w.heap.size w w' := by
 subst hv; exact wofbits_any hi lo hh hl w

theorem wtobits_yes (n : Nat) (hn : n < Q) (hv : wd n 0 + 18446744073709551616 * wd n 1 = n) (w : World) :
  Calls Tryz.prog 143 #[.agg (cw 6 n)] w fun e w' => e = .returned (.tuple #[.agg #[.int .u64 (wd n 1), .int .u64 (wd n 0)], .bool true]) ∧ Below w.heap.size w w' := by
 have hat := zU 6
 have hf := z8
 have heq := eq6
 have hg := eqg6
 have HV := zK hv
 clear hv
 obtain ⟨W, hW⟩ : ∃ W, W = (w.alloc (.cells (cw 6 n) 66)).alloc (.cells #[.int .u64 (wd n 1), .int .u64 (wd n 0)] 25) := ⟨_, rfl⟩
 have r0 : W.heap[w.heap.size]? = some (.cells (cw 6 n) 66) := by rw [hW, z6 _ _ _ (by simp only [zT]; omega)]; exact heap_alloc_last _ _
 have r1 : W.heap[w.heap.size + 1]? = some (.cells #[.int .u64 (wd n 1), .int .u64 (wd n 0)] 25) := by
  rw [hW]
  have := heap_alloc_last (w.alloc (.cells (cw 6 n) 66)) (.cells #[.int .u64 (wd n 1), .int .u64 (wd n 0)] 25)
  simpa only [zT] using this
 have bW : Below w.heap.size w W := by rw [hW]; exact ((Below.refl _ _).alloc (Nat.le_refl _) _).alloc (by simp only [zT]; omega) _
 obtain ⟨F, hF1, hF2⟩ := zS W
 have hFn : ∀ u o, o < 6 → (F u).cell? ⟨w.heap.size, o, none⟩ = some (.int .u64 (wd n o : Nat)) := fun u => zE (zA (hF1 u) _ _ _ r0)
 have hF3 : ∀ u, (F u).cell? ⟨w.heap.size + 1, 0, none⟩ = some (.int .u64 (wd n 1)) := fun u => by rw [cell_of_row _ _ _ _ _ _ (zA (hF1 u) _ _ _ r1)]; rfl
 have hF4 : ∀ u, (F u).cell? ⟨w.heap.size + 1, 1, none⟩ = some (.int .u64 (wd n 0)) := fun u => by rw [cell_of_row _ _ _ _ _ _ (zA (hF1 u) _ _ _ r1)]; rfl
 go_enter Tryz.func143, Tryz.ntmps143
 go_wp2
 rw [← hW]
 clear hW
 refine zJ F hF2 (by kernel_rfl) (by kernel_rfl) ?_
 repeat quiet_step ((go_at_call 141; exact zN hF1 hF2 (wofbits_is (wd n 1) (wd n 0) n (yH _ _) (yH _ _) HV.out _)))
 refine wpQuiet_nil ?_
 rintro _ ⟨u, rfl⟩
 have hz3 := hF3 u
 have hz4 := hF4 u
 have hz5 : ∀ o, (F u).frozen? ⟨w.heap.size + 1, o, none⟩ = false := fun o => fz (zA (hF1 u) _ _ _ r1)
 go_wp2
 exact bodyPost_ret (v := .tuple #[.agg #[.int .u64 (wd n 1), .int .u64 (wd n 0)], .bool true]) (by simp [results, Tryz.results143, go_sem, hz3, hz4]) rfl ⟨rfl, ((bW.trans ((hF1 u).mono bW.size)).setCell (by show w.heap.size ≤ w.heap.size + 1; omega) _).setCell (by show w.heap.size ≤ w.heap.size + 1; omega) _⟩
theorem wtobits_no (n : Nat) (hn : n < Q) (hv : ¬ wd n 0 + 18446744073709551616 * wd n 1 = n) (w : World) :
  Calls Tryz.prog 143 #[.agg (cw 6 n)] w fun e w' => e = .returned (.tuple #[.agg #[.int .u64 0, .int .u64 0], .bool false]) ∧ Below w.heap.size w w' := by
 have hat := zU 6
 have hf := z8
 have heq := eq6
 have hg := eqg6
 obtain ⟨v, hx⟩ : ∃ v, wd n 0 + 18446744073709551616 * wd n 1 = v := ⟨_, rfl⟩
 rw [hx] at hv
 have hvQ : v < Q := by rw [← hx]; exact bits_ltQ _ _ (yH _ _) (yH _ _)
 have HV := zK hx
 clear hx
 obtain ⟨W, hW⟩ : ∃ W, W = (w.alloc (.cells (cw 6 n) 66)).alloc (.cells #[.int .u64 (wd n 1), .int .u64 (wd n 0)] 25) := ⟨_, rfl⟩
 have r0 : W.heap[w.heap.size]? = some (.cells (cw 6 n) 66) := by rw [hW, z6 _ _ _ (by simp only [zT]; omega)]; exact heap_alloc_last _ _
 have r1 : W.heap[w.heap.size + 1]? = some (.cells #[.int .u64 (wd n 1), .int .u64 (wd n 0)] 25) := by
  rw [hW]
  have := heap_alloc_last (w.alloc (.cells (cw 6 n) 66)) (.cells #[.int .u64 (wd n 1), .int .u64 (wd n 0)] 25)
  simpa only [zT] using this
 have bW : Below w.heap.size w W := by rw [hW]; exact ((Below.refl _ _).alloc (Nat.le_refl _) _).alloc (by simp only [zT]; omega) _
 obtain ⟨F, hF1, hF2⟩ := zS W
 have hFn : ∀ u o, o < 6 → (F u).cell? ⟨w.heap.size, o, none⟩ = some (.int .u64 (wd n o : Nat)) := fun u => zE (zA (hF1 u) _ _ _ r0)
 have hF3 : ∀ u, (F u).cell? ⟨w.heap.size + 1, 0, none⟩ = some (.int .u64 (wd n 1)) := fun u => by rw [cell_of_row _ _ _ _ _ _ (zA (hF1 u) _ _ _ r1)]; rfl
 have hF4 : ∀ u, (F u).cell? ⟨w.heap.size + 1, 1, none⟩ = some (.int .u64 (wd n 0)) := fun u => by rw [cell_of_row _ _ _ _ _ _ (zA (hF1 u) _ _ _ r1)]; rfl
 go_enter Tryz.func143, Tryz.ntmps143
 go_wp2
 rw [← hW]
 clear hW
 refine zJ F hF2 (by kernel_rfl) (by kernel_rfl) ?_
 repeat quiet_step ((go_at_call 141; exact zN hF1 hF2 (wofbits_is (wd n 1) (wd n 0) v (yH _ _) (yH _ _) HV.out _)))
 refine wpQuiet_nil ?_
 rintro _ ⟨u, rfl⟩
 have hz3 := hF3 u
 have hz4 := hF4 u
 have hz5 : ∀ o, (F u).frozen? ⟨w.heap.size + 1, o, none⟩ = false := fun o => fz (zA (hF1 u) _ _ _ r1)
 go_wp2
 exact bodyPost_ret (v := .tuple #[.agg #[.int .u64 0, .int .u64 0], .bool false]) (by simp [results, Tryz.results143, go_sem, hz3, hz4]) rfl ⟨rfl, ((bW.trans ((hF1 u).mono bW.size)).setCell (by show w.heap.size ≤ w.heap.size + 1; omega) _).setCell (by show w.heap.size ≤ w.heap.size + 1; omega) _⟩

theorem nz_false {x : Nat} (h : x = 0) : (((x : Nat) : Int) != 0) = false := by subst h; rfl
theorem rwtobits_yes (n : Nat) (hn : n < Q) (hv : wd n 0 + 18446744073709551616 * wd n 1 = n) (w : World) :
  Calls Tryz.prog 187 #[.agg (cw 6 n)] w fun e w' => e = .returned (.tuple #[.agg #[.int .u64 (wd n 1), .int .u64 (wd n 0)], .bool true]) ∧ Below w.heap.size w w' := by
 have hat := zU 6
 obtain ⟨z2, z3, z4, z5⟩ := (two_words n hn).1 hv
 have y2 := nz_false z2
 have y3 := nz_false z3
 have y4 := nz_false z4
 have y5 := nz_false z5
 clear z2 z3 z4 z5 hv
 go_enter Tryz.func187, Tryz.ntmps187
 go_wp2
 exact bodyPost_ret (v := .tuple #[.agg #[.int .u64 (wd n 1), .int .u64 (wd n 0)], .bool true]) (by simp [results, Tryz.results187, go_sem]) rfl ⟨rfl, ((Below.refl _ _).alloc (Nat.le_refl _) _).alloc (by simp <;> omega) _⟩

theorem rwofbits_is (hi lo v : Nat) (hh : hi < 18446744073709551616) (hl : lo < 18446744073709551616) (hv : lo + 18446744073709551616 * hi = v) (w : World) :
  Calls Tryz.prog 83 #[.agg #[.int .u64 hi, .int .u64 lo]] w fun e w' => e = .returned (.agg (cw 6 v)) ∧ Below w.heap.size w w' := by
 subst hv; exact rwofbits_any hi lo hh hl w
def digs : ByteArray := ⟨#[48, 49, 50, 51, 52, 53, 54, 55, 56, 57, 97, 98, 99, 100, 101, 102]⟩
def dvi (c : UInt8) : Int := match dv c with | some d => (d : Int) | none => -1
theorem first_dvi (c : UInt8) : firstIdx digs c = dvi c := by
 have key : ∀ c : Fin 256, firstIdx digs (UInt8.ofNat c.val) = dvi (UInt8.ofNat c.val) := by decide +kernel
 have := key ⟨c.toNat, c.toNat_lt⟩
 simpa using this

theorem idx2_any (c : UInt8) (w : World) :
  Calls Tryz.prog 243 #[.string digs, .int .u8 (c.toNat : Int)] w fun e w' => e = .returned (.int .i64 (dvi c)) ∧ w' = w := by
 have hx := run_indexByte_string (P := Tryz.prog) digs (c.toNat : Int)
 have hc : (c.toNat : Int).toNat.toUInt8 = c := by simp
 rw [hc, first_dvi] at hx
 go_enter Tryz.func243, Tryz.ntmps243
 go_wp2
 rw [run_callFunc_extern Tryz.func294 (by kernel_rfl) (by kernel_rfl) (by kernel_rfl) (e := Extern.BytealgIndexByte.indexByte) (by kernel_rfl), hx]
 simp only [Result.andThen]
 rw [Oper.upon_value]
 go_wp2
 go_ret
 exact ⟨rfl, rfl⟩
theorem idx_any (c : UInt8) (w : World) :
  Calls Tryz.prog 180 #[.string digs, .int .u8 (c.toNat : Int)] w fun e w' => e = .returned (.int .i64 (dvi c)) ∧ w' = w := by
 go_enter Tryz.func180, Tryz.ntmps180
 go_wp2_with (go_at_call 243; refine (idx2_any c _).mono ?_; rintro e w' ⟨rfl, rfl⟩)
 go_ret
 exact ⟨rfl, rfl⟩
theorem idx_is (c : UInt8) (i : Int) (h : dvi c = i) (w : World) :
  Calls Tryz.prog 180 #[.string ⟨#[48, 49, 50, 51, 52, 53, 54, 55, 56, 57, 97, 98, 99, 100, 101, 102]⟩, .int .u8 (c.toNat : Int)] w fun e w' => e = .returned (.int .i64 i) ∧ w' = w := by
 subst h; exact idx_any c w

theorem wup4 (n v : Nat) (hn : n < Q) (hv : n * 16 = v) (hq : v < Q) (w : World) :
  Calls Tryz.prog 181 #[.agg (cw 6 n), .int .i64 4] w fun e w' => e = .returned (.agg (cw 6 v)) ∧ Below w.heap.size w w' := by
 have h := wup_any n 4 hn (by omega) w
 rw [show 2 ^ 4 = 16 by decide, hv, Nat.mod_eq_of_lt hq] at h
 exact h
theorem wor_is (n m v : Nat) (hn : n < Q) (hm : m < Q) (hv : n ||| m = v) (w : World) :
  Calls Tryz.prog 144 #[.agg (cw 6 n), .agg (cw 6 m)] w fun e w' => e = .returned (.agg (cw 6 v)) ∧ Below w.heap.size w w' := by
 subst hv; exact wor_any n m hn hm w

def rd (l : List UInt8) : Nat × Int := if l.length ≤ 96 then (match vals l with | some v => if tx v = l then (v, 0) else (0, 20) | none => (0, 20)) else (0, 20)

theorem rd_long (l : List UInt8) (h : ¬ l.length ≤ 96) : rd l = (0, 20) := by unfold rd; rw [if_neg h]
theorem rd_none (l : List UInt8) (h : vals l = none) : rd l = (0, 20) := by unfold rd; rw [h]; simp
theorem rd_other (l : List UInt8) (v : Nat) (h : vals l = some v) (h2 : tx v ≠ l) : rd l = (0, 20) := by unfold rd; rw [h]; simp [h2]
theorem rd_good (l : List UInt8) (v : Nat) (hl : l.length ≤ 96) (h : vals l = some v) (h2 : tx v = l) : rd l = (v, 0) := by unfold rd; rw [if_pos hl, h]; simp [h2]

theorem wread_is (s : ByteArray) (l : List UInt8) (V : Nat) (E : Int) (hs : s.size ≤ 9223372036854775807) (hl : s.data.toList = l) (hr : rd l = (V, E)) (w : World) :
  Calls Tryz.prog 98 #[.string s] w fun e w' => e = .returned (.tuple #[.agg (cw 6 V), .int .i64 E]) ∧ Below w.heap.size w w' := by
 have hat := zU 6
 have hz := yB
 have hf := z8
 have hs0 := xO
 have hsl : s.size = l.length := by rw [← hl, Array.length_toList]; rfl
 by_cases h96 : s.size ≤ 96
 ·
  have HR := zK hr
  have HL := zK hl
  have HSL := zK hsl
  clear hr hl hsl
  have h96i : (s.size : Int) ≤ 96 := by omega
  go_enter Tryz.func98, Tryz.ntmps98
  go_wp2
  go_loopw [13] (fun iv wr => ∃ k v : Nat, k ≤ s.size ∧ iv = .int .i64 k ∧ wr.heap[w.heap.size]? = some (.cells (cw 6 0) 66) ∧ wr.heap[w.heap.size + 1]? = some (.cells (cw 6 v) 66) ∧ Below w.heap.size w wr ∧ v < Q ∧ zP (vals (l.take k) = some v)) (fun iv _ => s.size - (intOf iv).toNat)
  case atStart =>
   refine ⟨0, 0, by omega, rfl, ?_, ?_, ((Below.refl _ _).alloc (Nat.le_refl _) _).alloc (by simp) _, Q_pos, zK rfl⟩
   ·
    rw [z6 _ _ _ (by simp only [zT]; omega)]; exact heap_alloc_last _ _
   ·
    have := heap_alloc_last (w.alloc (.cells (cw 6 0) 66)) (.cells (cw 6 0) 66)
    simpa only [zT] using this
  case round =>
   obtain ⟨k, v, hk, rfl, r0, r1, hbw, hvQ, HV⟩ := hrel
   by_cases hlt : k < s.size
   ·
    obtain ⟨c, hc⟩ : ∃ c, s[k] = c := ⟨_, rfl⟩
    have hts : l.take (k + 1) = l.take k ++ [c] := by
     have hkl : k < l.length := by rw [← HSL.out]; exact hlt
     rw [List.take_succ_eq_append_getElem hkl]
     congr 2
     rw [← hc]
     have : ∀ h, l[k]'h = s.data.toList[k]'(by rw [HL.out]; exact h) := fun h => by simp [HL.out]
     rw [this]
     rfl
    have HVS : zP (vals (l.take (k + 1)) = vstep (some v) c) := zK (by rw [hts, vals_snoc, HV.out])
    clear hts
    cases hd : dv c with
    | none =>
     have hi : dvi c = -1 := by unfold dvi; rw [hd]
     have HI := zK hi
     have HN : zP (rd l = (0, 20)) := zK (rd_none l (vals_take_none l (k + 1) (by rw [HVS.out]; unfold vstep; rw [hd])))
     clear hi hd
     have e := HR.out
     rw [HN.out] at e
     injection e with e1 e2
     subst e1
     subst e2
     have hst := st_same wr _ 0 r0
     have c0 := zE r0
     go_wp2_with fail
     refine (idx_is c (-1) HI.out _).mono ?_
     rintro e w' ⟨rfl, rfl⟩
     go_wp2
     exact bodyPost_ret (v := .tuple #[.agg (cw 6 0), .int .i64 20]) (by simp [results, Tryz.results98, go_sem, c0, hf]) rfl ⟨rfl, hbw⟩
    | some d =>
     have hi : dvi c = (d : Int) := by unfold dvi; rw [hd]
     have HI := zK hi
     obtain ⟨hd16, _, _⟩ := dv_spec c d hd
     have HV2 : zP (vals (l.take (k + 1)) = some (16 * v + d)) := zK (by rw [HVS.out]; unfold vstep; rw [hd])
     have hlen : (l.take (k + 1)).length = k + 1 := by rw [List.length_take, ← HSL.out]; omega
     have hvl := vals_lt (k + 1) _ _ hlen HV2.out
     have hpq := pow96 (k + 1) (by omega)
     obtain ⟨x, hx⟩ : ∃ x, v * 16 = x := ⟨_, rfl⟩
     have hor : x ||| d = 16 * v + d := by
      have := or_disj d v 4 hd16
      rw [Nat.or_comm, ← hx, show (16 : Nat) = 2 ^ 4 from rfl, ← this]
      omega
     obtain ⟨v2, hv2⟩ : ∃ v2, v2 = 16 * v + d := ⟨_, rfl⟩
     rw [← hv2] at hor hvl HV2
     have xQ : x < Q := by omega
     have v2Q : v2 < Q := by omega
     have dQ : d < Q := by omega
     have d64 : d < 18446744073709551616 := by omega
     have hwd : IntKind.u64.wrap (d : Int) = (d : Int) := wrap_nat d d64
     have HX := zK hx
     have HO := zK hor
     clear hi hd hlen hvl hpq hx hor hv2
     have c1 := zE r1
     go_wp2_with fail
     refine (idx_is c (d : Int) HI.out _).mono ?_
     rintro e w' ⟨rfl, rfl⟩
     go_wp2_with fail
     refine (wup4 v x hvQ HX.out xQ _).mono ?_
     rintro e w2 ⟨rfl, hb2⟩
     go_wp2_with fail
     refine (wof_al d d64 _).mono ?_
     rintro e w3 ⟨rfl, hb3⟩
     go_wp2_with fail
     refine (wor_is x d v2 xQ dQ HO.out _).mono ?_
     rintro e w4 ⟨rfl, hb4⟩
     have q0 := zA hb4 _ _ _ (zA hb3 _ _ _ (zA hb2 _ _ _ r0))
     have q1 := zA hb4 _ _ _ (zA hb3 _ _ _ (zA hb2 _ _ _ r1))
     have b4 : Below w.heap.size w w4 := by
      have b2 := hbw.trans (hb2.mono hbw.size)
      have b3 := b2.trans (hb3.mono b2.size)
      exact b3.trans (hb4.mono b3.size)
     have hst := yW w4 _ v2 v q1
     clear hb2 hb3 hb4 r0 r1 hbw c1
     go_wp2
     go_roundw
     case rel => exact ⟨k + 1, v2, by omega, by go_num, by rw [zH (by omega)]; exact q0, zO q1, Below.setRow b4 (by omega), v2Q, HV2⟩
     case measure => simp [intOf] <;> omega
   ·
    have htk : l.take k = l := List.take_of_length_le (by rw [← HSL.out]; omega)
    have HVL : zP (vals l = some v) := zK (by rw [← htk]; exact HV.out)
    clear htk
    have c1 := zE r1
    go_wp2_with fail
    refine (wtext_any v hvQ _).mono ?_
    rintro e w2 ⟨rfl, hb2⟩
    have q0 := zA hb2 _ _ _ r0
    have q1 := zA hb2 _ _ _ r1
    have b2 := hbw.trans (hb2.mono hbw.size)
    have d1 := zE q1
    have HTL : zP (s.toList = l) := zK (by rw [ByteArray.toList_eq]; exact HL.out)
    by_cases ht : tx v = l
    ·
     have e := HR.out
     rw [rd_good l v (by rw [← HSL.out]; exact h96) HVL.out ht] at e
     injection e with e1 e2
     subst e1
     subst e2
     have hst := yW w2 _ v 0 q0
     have hcmp : (tx v == s.toList) = true := by rw [HTL.out, ht]; simp
     have z0 : (w2.setRow w.heap.size (cw 6 v)).heap[w.heap.size]? = some (.cells (cw 6 v) 66) := zO q0
     have c3 := zE z0
     clear ht
     go_wp2
     exact bodyPost_ret (v := .tuple #[.agg (cw 6 v), .int .i64 0]) (by simp [results, Tryz.results98, go_sem, c3, hf]) rfl ⟨rfl, Below.setRow b2 (Nat.le_refl _)⟩
    ·
     have e := HR.out
     rw [rd_other l v HVL.out ht] at e
     injection e with e1 e2
     subst e1
     subst e2
     have hst := st_same w2 _ 0 q0
     have c3 := zE q0
     have hcmp : (tx v == s.toList) = false := by rw [HTL.out]; simpa using ht
     clear ht
     go_wp2
     exact bodyPost_ret (v := .tuple #[.agg (cw 6 0), .int .i64 20]) (by simp [results, Tryz.results98, go_sem, c3, hf]) rfl ⟨rfl, b2⟩
 ·
  have e := rd_long l (by omega)
  rw [hr] at e
  injection e with e1 e2
  subst e1
  subst e2
  have h96i : ¬ (s.size : Int) ≤ 96 := by omega
  clear hr hl hsl
  go_enter Tryz.func98, Tryz.ntmps98
  go_wp2
  exact bodyPost_ret (v := .tuple #[.agg (cw 6 0), .int .i64 20]) (by simp [results, Tryz.results98, go_sem, hat, hf]) rfl ⟨rfl, (Below.refl _ _).alloc (Nat.le_refl _) _⟩
theorem radd_is (a b : Nat) (c : Bool) (s : Nat) (o : Bool) (ha : a < 18446744073709551616) (hb : b < 18446744073709551616) (hs : (a + b + c.toNat) % 18446744073709551616 = s) (ho : decide (18446744073709551616 ≤ a + b + c.toNat) = o) (w : World) :
  Calls Tryz.prog 176 #[.int .u64 a, .int .u64 b, .bool c] w fun e w' => e = .returned (.tuple #[.int .u64 s, .bool o]) ∧ w' = w := by
 subst hs; subst ho; exact radd_any a b c ha hb w
theorem add_facts (n m S k : Nat) (C : Bool) (hS : S < 2 ^ (64 * k)) (hE : S + 2 ^ (64 * k) * C.toNat = n % 2 ^ (64 * k) + m % 2 ^ (64 * k)) :
  ∃ (x : Nat) (o : Bool), x < 18446744073709551616 ∧ zP ((wd n k + wd m k + C.toNat) % 18446744073709551616 = x) ∧ zP (decide (18446744073709551616 ≤ wd n k + wd m k + C.toNat) = o) ∧ zP (S + 2 ^ (64 * k) * x < 2 ^ (64 * (k + 1))) ∧ zP (S + 2 ^ (64 * k) * x + 2 ^ (64 * (k + 1)) * o.toNat = n % 2 ^ (64 * (k + 1)) + m % 2 ^ (64 * (k + 1))) :=
 ⟨_, _, Nat.mod_lt _ (by decide), zK rfl, zK rfl, zK (push_lt S k _ hS (Nat.mod_lt _ (by decide))), zK (wadd_step n m S k _ C hE rfl)⟩
theorem rwadd_is (n m v : Nat) (o : Bool) (hn : n < Q) (hm : m < Q) (hv : (n + m) % Q = v) (ho : decide (Q ≤ n + m) = o) (w : World) :
  Calls Tryz.prog 91 #[.agg (cw 6 n), .agg (cw 6 m)] w fun e w' => e = .returned (.tuple #[.agg (cw 6 v), .bool o]) ∧ Below w.heap.size w w' := by
 have HV := zK hv
 have HW := zK ho
 clear hv ho
 have hat := zU 6
 have hz := yB
 have hf := z8
 have hs1 := st1d
 have hsc := sc0d
 go_enter Tryz.func91, Tryz.ntmps91
 go_wp2
 go_loopw [7, 8] (fun ov i wr => ∃ (k S d : Nat) (C : Bool), k ≤ 6 ∧ i = .int .i64 k ∧ ov = .bool C ∧ wr = ((((w.alloc (.cells (cw 6 n) 66)).alloc (.cells (cw 6 m) 66)).alloc (.cells (cw 6 0) 66)).alloc (.cells (cw 6 S) 66)).drewN d ∧ S < 2 ^ (64 * k) ∧ zP (S + 2 ^ (64 * k) * C.toNat = n % 2 ^ (64 * k) + m % 2 ^ (64 * k))) (fun _ i _ => 6 - (intOf i).toNat)
 case atStart => exact ⟨0, 0, 0, false, by omega, rfl, rfl, rfl, by decide, zK (by simp [Nat.mod_one])⟩
 case round =>
  obtain ⟨k, S, d, C, hk, rfl, rfl, rfl, hS, HE⟩ := hrel
  by_cases hlt : k < 6
  ·
   have hki : (k : Int) < 6 := by omega
   obtain ⟨x, oo, bx, HX, HO, P1, ST⟩ := add_facts n m S k C hS HE.out
   have hp := cw_push 6 S k x _ hlt hS bx rfl
   go_wp2
   go_quiet ((go_at_call 176; exact (radd_is _ _ _ x oo (yH _ _) (yH _ _) HX.out HO.out _).mono (fun _ _ h => ⟨h.1, _, h.2⟩)))
   go_wp2
   go_roundw
   case rel => exact ⟨k + 1, _, _, oo, by omega, by go_num, rfl, rfl, P1.out, ST⟩
   case measure => simp [intOf]; omega
  ·
   go_wp2
   obtain ⟨e1, e2⟩ := wadd_end n m S k C (by omega) hn hm hS HE.out
   rw [HV.out] at e1
   rw [HW.out] at e2
   subst e1; subst e2
   exact bodyPost_ret (v := .tuple #[.agg (cw 6 S), .bool C]) (by simp [results, Tryz.results91, go_sem, hat, hf]) rfl ⟨rfl, below_drewN ((((Below.refl _ _).alloc (Nat.le_refl _) _).alloc (by simp <;> omega) _).alloc (by simp <;> omega) _ |>.alloc (by simp <;> omega) _) _⟩
end Go.Proofs.YtkblmpmkchkpjaaGreatDoor
