/-
  What the functions that the statement reaches return: part 19 (TJ, SL, VL, VM).
-/
import Derived.Test.YtkmlbjlaahcahaaGreatDoorRows
import Derived.OpenShut
import Derived.LaidMore
import Derived.Lib.LaidTab
import Derived.Stop.Joined
import Derived.Stop.LaidErr
import Derived.Handed
import Derived.Shelf.Vars
import Derived.Test.YtkmlbjlaahcahaaGreatDoorBa18
namespace Go.Proofs.YtkmlbjlaahcahaaGreatDoor
set_option maxRecDepth 100000
open Go.RowKit WMath XMath
set_option linter.unusedSimpArgs false
set_option linter.unusedVariables false

theorem flip_two {f : Int} (n : Nat) : sgB f (sgB f n true) true = n := by
  unfold sgB
  rw [if_pos rfl, if_pos rfl, Nat.xor_assoc, Nat.xor_self, Nat.xor_zero]
theorem flip_is {f : Int} (hf : Is4 f) {n : Nat} (fit : Fit f n) : sgB f n true = enc7 f (!kN f n) (kE f n) (kT f n) := by
  have h := flip_enc hf (kN f n) (kE_le n) (kT_lt n)
  rw [k_enc hf fit] at h
  unfold sgB
  rw [if_pos rfl, h]
theorem kp_nan {f : Int} (hf : Is4 f) {n : Nat} (fit : Fit f n) (h8 : 8 ≤ kC f n) (hneg : kN f n = true) : kp f (sgB f n true) = kp f n ∧ kN f (sgB f n true) = false := by
  rw [flip_is hf fit, hneg]
  obtain ⟨_, a, b, c⟩ := enc_k hf (!true) (kE_le (f := f) n) (kT_lt (f := f) n)
  have hC := kC_cases hf (!true) (kE f n) (kT f n) (kE_le n) (kT_lt n)
  have hD := kC_cases hf (kN f n) (kE f n) (kT f n) (kE_le n) (kT_lt n)
  rw [k_enc hf fit] at hD
  have e : kC f (enc7 f (!true) (kE f n) (kT f n)) = kC f n := by
    rw [hC]
    rw [hD] at h8 ⊢
    by_cases c1 : kE f n = oV f
    · rw [if_pos c1] at h8 ⊢
      rw [if_pos c1]
      by_cases c2 : kT f n = 0
      · rw [if_pos c2] at h8
        exfalso
        split at h8 <;> omega
      · rw [if_neg c2, if_neg c2]
    · rw [if_neg c1] at h8
      exfalso
      (repeat' split at h8) <;> omega
  refine ⟨?_, a⟩
  unfold kp kS kX kF
  rw [e, b, c]
theorem back_all (f : Int) (h0 : 0 ≤ f) (h1 : f ≤ 255) (x y n : Nat) (hx : x < 18446744073709551616) (hy : y < 18446744073709551616) (hn : y + 18446744073709551616 * x = n) (w : World) (hT : FAt w) (hT2 : TabAt w) (hP : P10 w) (hA : Atoiable w) : Calls Tryz.prog 5 #[.int .u8 f, .agg #[.int .u64 (x : Nat), .int .u64 (y : Nat)]] w fun r w' => r = .returned (.bool true) ∧ Below w.heap.size w w' := by
  cases ho : okB f n
  · exact back_r0 f x y w (box (fun w hT => kUnpack_no f h0 h1 x y n hx hy hn ho w hT)) (box (fun w => kfits_law f x y n false h0 hx hy hn ho w)) hT hT2 hP hA
  obtain ⟨hf, fit⟩ := okB_yes h0 ho
  have bn := bv_eq hx hy hn
  obtain ⟨s1, s2, s3⟩ := kS_lim hf n
  have r1 := kF_lim hf n
  have fo : okB f (sgB f n true) = true := by rw [flip_is hf fit]; exact ok_enc hf _ _ _ (kE_le n) (kT_lt n)
  obtain ⟨p, q, pq, p1, q1, pn⟩ := bits_of hf fo
  have KU : Box (∀ w, FAt w → Calls Tryz.prog 20 #[.int .u8 f, .agg #[.int .u64 (x : Nat), .int .u64 (y : Nat)]] w fun r w' => r = .returned (.tuple #[.agg (pt (kC f n) (kS f n) (kX f n) (kF f n)), .int .i64 0]) ∧ Below w.heap.size w w') := box (fun w hT => kUnpack_yes f hf x y n _ _ _ _ hx hy hn ho rfl w hT)
  have KT : Box (∀ w, FAt w → P10 w → Calls Tryz.prog 16 #[.int .u8 f, .agg #[.int .u64 (x : Nat), .int .u64 (y : Nat)]] w fun r w' => r = .returned (.tuple #[.string ⟨(kTx f n).toArray⟩, .int .i64 0]) ∧ Below w.heap.size w w') := box (fun w hT hP => kText_is f hf x y n _ hx hy hn ho rfl w hT hP)
  have KR : Box (∀ w, FAt w → P10 w → Atoiable w → Calls Tryz.prog 18 #[.int .u8 f, .string ⟨(kTx f n).toArray⟩] w fun r w' => r = .returned (.tuple #[.agg #[.int .u64 (x : Nat), .int .u64 (y : Nat)], .int .i64 0]) ∧ Below w.heap.size w w') := box (fun w hT hP hA => kRead_back f hf x y n _ hx hy hn ho rfl w hT hP hA)
  have KF : Box (∀ w, FAt w → Calls Tryz.prog 22 #[.int .u8 f, .agg #[.int .u64 (x : Nat), .int .u64 (y : Nat)]] w fun r w' => r = .returned (.agg #[.int .u64 (p : Nat), .int .u64 (q : Nat)]) ∧ Below w.heap.size w w') := box (fun w hT => kFlip_yes f hf x y n p q hx hy hn ho pq w hT)
  have KG : Box (∀ w, FAt w → Calls Tryz.prog 22 #[.int .u8 f, .agg #[.int .u64 (p : Nat), .int .u64 (q : Nat)]] w fun r w' => r = .returned (.agg #[.int .u64 (x : Nat), .int .u64 (y : Nat)]) ∧ Below w.heap.size w w') := box (fun w hT => kFlip_yes f hf p q _ x y p1 q1 pn fo (by rw [flip_two]; exact bn) w hT)
  have same : (8 ≤ kC f n → kN f n = false) → Box (∀ w, FAt w → Calls Tryz.prog 21 #[.int .u8 f, .agg (pt (kC f n) (kS f n) (kX f n) (kF f n))] w fun r w' => r = .returned (.tuple #[.agg #[.int .u64 (x : Nat), .int .u64 (y : Nat)], .int .i64 0]) ∧ Below w.heap.size w w') := fun h => box (fun w hT => kPack_is f hf _ _ _ x y n _ 0 (lt_Q7 s1) (lt_Q7 r1) (by omega) (by omega) (pk_of hf fit rfl h) bn w hT)
  by_cases hc : 0 < kC f n ∧ kC f n < 7
  case neg =>
    have KV : Box (∀ w, FAt w → TabAt w → Calls Tryz.prog 8 #[.int .u8 f, .agg #[.int .u64 (x : Nat), .int .u64 (y : Nat)]] w fun r w' => r = .returned (.tuple #[.agg #[.bool false, .string ⟨#[]⟩, .string ⟨#[]⟩, .int .i64 0], .int .i64 80]) ∧ Below w.heap.size w w') := box (fun w hT _ => kValue_inf f hf x y n hx hy hn ho hc w hT)
    by_cases h8 : 8 ≤ kC f n
    · have n8 : decide ((8 : Int) ≤ ((kC f n : Nat) : Int)) = true := decide_eq_true (by omega)
      cases hneg : kN f n
      · exact back_r1 f x y _ _ _ _ _ p q _ _ _ _ w KU (same (fun _ => hneg)) KT KR KF KG KV n8 hT hT2 hP hA
      · obtain ⟨k1, k2⟩ := kp_nan hf fit h8 hneg
        have ff := (okB_yes h0 fo).2
        refine back_r2 f x y _ _ _ _ _ p q _ _ _ _ w KU (box (fun w hT => kPack_is f hf _ _ _ p q (sgB f n true) _ 0 (lt_Q7 s1) (lt_Q7 r1) (by omega) (by omega) (pk_of hf ff k1 (fun _ => k2)) pq w hT)) KT KR KF KG KV n8 (ne_of pn hn ?_) (box (fun w hT => kSign_yes f hf x y n true hx hy hn ho hneg w hT)) hT hT2 hP hA
        intro k
        rw [k, hneg] at k2
        exact Bool.noConfusion k2
    · have n8 : decide ((8 : Int) ≤ ((kC f n : Nat) : Int)) = false := decide_eq_false (by omega)
      exact back_r3 f x y _ _ _ _ _ p q _ _ _ _ w KU (same (fun h => absurd h h8)) KT KR KF KG KV n8 (by
        by_cases c0 : kC f n = 0
        · exact Or.inl (by rw [c0]; rfl)
        · exact Or.inr ⟨by rw [beq_eq_false_iff_ne]; omega, by rw [beq_iff_eq]; omega⟩) hT hT2 hP hA
  have n8 : decide ((8 : Int) ≤ ((kC f n : Nat) : Int)) = false := decide_eq_false (by omega)
  have KQ := same (fun h => absurd h (by omega))
  by_cases cz : kC f n = 3 ∨ kC f n = 4
  · have hv : vX f n = X0 := by unfold vX; rw [(k_null n cz).1, mk_null]
    have KV : Box (∀ w, FAt w → TabAt w → Calls Tryz.prog 8 #[.int .u8 f, .agg #[.int .u64 (x : Nat), .int .u64 (y : Nat)]] w fun r w' => r = .returned (.tuple #[.agg #[.bool false, .string (nbA 0), .string (nbA 1), .int .i64 0], .int .i64 0]) ∧ Below w.heap.size w w') := box (fun w hT hT2 => kValue_yes f hf x y n hx hy hn ho hc false 0 1 0 _ _ hv rfl rfl w hT hT2)
    have of0 : ofX f ⟨false, 0, 1, 0⟩ = (0, true) := by unfold ofX; rw [if_pos rfl]
    have zz : n = enc7 f (kN f n) 0 0 ∧ (kC f n = 3 ↔ kN f n = true) := by
      have en := k_enc hf fit
      have cc := cz
      unfold kC at cc
      have e0 : kE f n = 0 ∧ kT f n = 0 := by
        by_cases c1 : kE f n = oV f
        · rw [if_pos c1] at cc
          exfalso
          (repeat' split at cc) <;> omega
        · rw [if_neg c1] at cc
          by_cases c2 : kE f n = 0
          · rw [if_neg (by omega)] at cc
            by_cases c3 : kT f n = 0
            · exact ⟨c2, c3⟩
            · rw [if_pos c3] at cc
              exfalso
              split at cc <;> omega
          · rw [if_pos c2] at cc
            exfalso
            split at cc <;> omega
      refine ⟨by rw [e0.1, e0.2] at en; exact en.symm, ?_⟩
      unfold kC
      have o3 := (fm hf).2.2.2.2.1
      rw [if_neg (by omega), if_neg (by omega), if_neg (by omega)]
      cases kN f n <;> simp
    cases hneg : kN f n
    · have n0 : n = 0 := by rw [zz.1, hneg]; unfold enc7; simp
      exact back_r4 f x y _ _ _ _ _ p q _ _ _ _ w KU KQ KT KR KF KG KV n8 (box (fun w hT hT2 => kOf_is f hf false 0 1 _ _ 0 rfl rfl x0_can 0 true x y of0 (by rw [← n0]; exact bn) w hT hT2)) hT hT2 hP hA
    · have c3 := zz.2.2 hneg
      rw [c3] at KU KQ
      have m0 : sgB f n true = 0 := by
        rw [flip_is hf fit, hneg]
        have e1 := (enc_k hf (kN f n) (show 0 ≤ oV f by omega) (Nat.two_pow_pos (pV f))).2.2
        rw [← zz.1] at e1
        rw [e1.1, e1.2]
        unfold enc7
        simp
      refine back_r5 f x y _ _ _ _ p q _ _ _ _ w KU KQ KT KR KF KG KV (box (fun w hT hT2 => kOf_is f hf false 0 1 _ _ 0 rfl rfl x0_can 0 true p q of0 (by rw [← m0]; exact pq) w hT hT2)) (ne_of pn hn ?_) hT hT2 hP hA
      rw [m0]
      intro k
      rw [← k] at hneg
      have : kN f 0 = false := by unfold kN; simp
      rw [this] at hneg
      exact Bool.noConfusion hneg
  · obtain ⟨a, b, d, e⟩ := k_parts (f := f) n (by omega)
    obtain ⟨v1, v2, v3⟩ := val_of hf (kN f n) (kE f n) (kT f n) a (kT_lt n) (by rw [← b]; exact e)
    have hv : vX f n = ⟨kN f n, od (sV f (kE f n) (kT f n)), 1, xV f (kE f n) + (tz (sV f (kE f n) (kT f n)) : Int)⟩ := by unfold vX; rw [b, d, v1]
    have en := k_enc hf fit
    obtain ⟨_, vc, _⟩ := vX_enc hf (kN f n) (kE f n) (kT f n) a (kT_lt n)
    rw [en, hv] at vc
    rw [en] at v2
    exact back_r4 f x y _ _ _ _ _ p q _ _ _ _ w KU KQ KT KR KF KG (box (fun w hT hT2 => kValue_yes f hf x y n hx hy hn ho hc _ _ _ _ _ _ hv rfl rfl w hT hT2)) n8 (box (fun w hT hT2 => kOf_is f hf _ _ _ _ _ _ rfl rfl vc n true x y v2 bn w hT hT2)) hT hT2 hP hA
end Go.Proofs.YtkmlbjlaahcahaaGreatDoor
namespace Go.Proofs.YtkmlbjlaahcahaaGreatDoor
set_option maxRecDepth 100000
open WMath
open Go.ChangeShapes Go.WideShapes Go.ChangeAt Go.RowKit

theorem trod_row4 {H : Type} {enc : TypeId × Value → H} {P : Program} {w : World} {base : Nat} {spare : Nat → Bool} {held : Bool} {t : TypeId} {f0 f1 f2 f3 : Field} {fuel : Nat} {cs : List Value} {x : DataW H × List MemPlace} (ht : P.underlying t = some (.struct #[f0, f1, f2, f3])) (h : DataW.trod enc P w base spare held fuel t cs = some x) :
    ∃ y0 y1 y2 y3 n, x = (.agg [y0.1, y1.1, y2.1, y3.1], y0.2 ++ (y1.2 ++ (y2.2 ++ y3.2))) ∧ DataW.trod enc P w base spare held n f0.type ((cs.drop f0.offset).take (P.cellsOf f0.type)) = some y0 ∧
      DataW.trod enc P w base spare held n f1.type ((cs.drop f1.offset).take (P.cellsOf f1.type)) = some y1 ∧ DataW.trod enc P w base spare held n f2.type ((cs.drop f2.offset).take (P.cellsOf f2.type)) = some y2 ∧
      DataW.trod enc P w base spare held n f3.type ((cs.drop f3.offset).take (P.cellsOf f3.type)) = some y3 := by
  obtain ⟨xs, n, _, rfl, hl, hlen, hf⟩ := DataW.trod_struct ht h
  match xs, hlen with
  | [y0, y1, y2, y3], _ => exact ⟨y0, y1, y2, y3, n, by simp, by simpa using hf 0 f0 rfl, by simpa using hf 1 f1 rfl, by simpa using hf 2 f2 rfl, by simpa using hf 3 f3 rfl⟩


theorem list4' {α : Type} (l : List α) (h : l.length = 4) : ∃ a b c d, l = [a, b, c, d] := by
  match l, h with
  | [a, b, c, d], _ => exact ⟨a, b, c, d, rfl⟩

theorem row_read {w : World} {fuel : Nat} {enc : TypeId × Value → Unit} {base : Nat} {spare : Nat → Bool} {held : Bool} {l : List Value} {a b c : Int} {s : List UInt8} {p : List MemPlace}
    (h : DataW.trod enc Tryz.prog w base spare held fuel 147 l = some (.agg [.lit (.int .i64 a), .lit (.int .i64 b), .lit (.int .i64 c), .lit (.string s)], p)) (hl : l.length = 4) :
    l = [.int .i64 a, .int .i64 b, .int .i64 c, .string ⟨⟨s⟩⟩] := by
  have h3 : Tryz.prog.cellsOf 3 = 1 := by kernel_rfl
  have h9 : Tryz.prog.cellsOf 9 = 1 := by kernel_rfl
  obtain ⟨c0, c1, c2, c3, rfl⟩ := list4' l hl
  obtain ⟨y0, y1, y2, y3, n, hx, g0, g1, g2, g3⟩ := trod_row4 Tryz.underlying147 h
  simp only [h3, h9] at g0 g1 g2 g3
  obtain ⟨x0, e0, k0, w0⟩ := DataW.trod_int Tryz.underlying3 g0
  obtain ⟨x1, e1, k1, w1⟩ := DataW.trod_int Tryz.underlying3 g1
  obtain ⟨x2, e2, k2, w2⟩ := DataW.trod_int Tryz.underlying3 g2
  obtain ⟨x3, e3, k3, w3⟩ := DataW.trod_string Tryz.underlying9 g3
  simp at e0 e1 e2 e3
  subst e0 e1 e2 e3
  rw [k0, k1, k2, k3] at hx
  simp at hx
  obtain ⟨⟨rfl, rfl, rfl, rfl⟩, _⟩ := hx
  rfl

def laid7 : List (String × DataW Unit) := [("abacus/shape.formats", Rows.laid_abacus_shape_formats)]
theorem gTab7 : Tryz.prog.globalNamed "abacus/shape.formats" = some 0 := by kernel_rfl
theorem gType7 : (Tryz.prog.globals[0]?).map (·.type) = some 219 := by kernel_rfl

theorem of_laid7 {W : World} (h : laidMetH Tryz.prog laid7 W) : FAt W := by
  have hce : Tryz.prog.cellsOf 147 = 4 := by kernel_rfl
  have hct : Tryz.prog.cellsOf 219 = 16 := by kernel_rfl
  rw [MakeChecks.laidMetH_plain _ _ _ (by kernel_rfl)] at h
  obtain ⟨ps, ⟨g', t', cs, fuel, p, q, hg', ht', hvar, hd, _, _⟩, _⟩ := h
  obtain rfl := Option.some.inj (gTab7.symm.trans hg')
  obtain rfl := Option.some.inj (gType7.symm.trans ht')
  obtain ⟨xs, m, rfl, hx, hl, hxl, hel⟩ := DataW.trod_array Tryz.underlying219 hd
  rw [hce] at hel
  rw [hct] at hl
  have hl2 : cs.size = 16 := by simpa using hl
  match xs, hxl with
  | [y0, y1, y2, y3], _ =>
    have hx1 := congrArg Prod.fst hx
    simp [Rows.laid_abacus_shape_formats] at hx1
    obtain ⟨h0, h1, h2, h3⟩ := hx1
    have q0 := hel 0 (by decide)
    have q1 := hel 1 (by decide)
    have q2 := hel 2 (by decide)
    have q3 := hel 3 (by decide)
    simp only [List.getElem?_cons_zero, List.getElem?_cons_succ] at q0 q1 q2 q3
    have z0 := row_read (p := y0.2) (by rw [q0, h0]) (by simp; omega)
    have z1 := row_read (p := y1.2) (by rw [q1, h1]) (by simp; omega)
    have z2 := row_read (p := y2.2) (by rw [q2, h2]) (by simp; omega)
    have z3 := row_read (p := y3.2) (by rw [q3, h3]) (by simp; omega)
    have hcs : ∀ i, i < 16 → cs.toList[i]? = fcells[i]? := by
      intro i hi
      have e0 : cs.toList[i]? = (cs.toList.drop (i / 4 * 4))[i % 4]? := by rw [List.getElem?_drop]; congr 1; omega
      have e1 : (cs.toList.drop (i / 4 * 4))[i % 4]? = ((cs.toList.drop (i / 4 * 4)).take 4)[i % 4]? := by rw [List.getElem?_take, if_pos (by omega)]
      rw [e0, e1]
      have : i / 4 = 0 ∨ i / 4 = 1 ∨ i / 4 = 2 ∨ i / 4 = 3 := by omega
      have hj : i % 4 = 0 ∨ i % 4 = 1 ∨ i % 4 = 2 ∨ i % 4 = 3 := by omega
      have hi2 : i = i / 4 * 4 + i % 4 := by omega
      rcases this with e | e | e | e <;> rw [e] at hi2 ⊢ <;> rcases hj with k | k | k | k <;> rw [k] at hi2 ⊢ <;> subst hi2 <;> first | (rw [z0]; rfl) | (rw [z1]; rfl) | (rw [z2]; rfl) | (rw [z3]; rfl)
    intro i hi
    rw [World.var?_cell gTab7 hvar i, ← hcs i hi]
    simp

end Go.Proofs.YtkmlbjlaahcahaaGreatDoor
namespace Go.Proofs.YtkmlbjlaahcahaaGreatDoor
set_option maxRecDepth 100000
open WMath
open Go.ChangeShapes Go.WideShapes Go.ChangeAt Go.RowKit

def tabZ8 : List Int := [0, 1, 56, 2, 57, 49, 28, 3, 61, 58, 42, 50, 38, 29, 17, 4, 62, 47, 59, 36, 45, 43, 51, 22, 53, 39, 33, 30, 24, 18, 12, 5, 63, 55, 48, 27, 60, 41, 37, 16, 46, 35, 44, 21, 52, 32, 23, 11, 54, 26, 40, 15, 34, 20, 31, 10, 25, 14, 19, 9, 13, 8, 7, 6]
theorem gTab8 : Tryz.prog.globalNamed "math/bits.deBruijn64tab" = some 4 := by kernel_rfl
theorem gType8 : (Tryz.prog.globals[4]?).map (·.type) = some 277 := by kernel_rfl
theorem cells58 : Tryz.prog.cellsOf 5 = 1 := by kernel_rfl
theorem cellsT8 : Tryz.prog.cellsOf 277 = 64 := by kernel_rfl
theorem tab_at8 : ∀ i : Fin 64, tabZ8.getD i.val 0 = ((Lib.deBruijn64tab.getD i.val 0 : Nat) : Int) := by decide +kernel

end Go.Proofs.YtkmlbjlaahcahaaGreatDoor
namespace Go.Proofs.YtkmlbjlaahcahaaGreatDoor
set_option maxRecDepth 100000
open WMath
open Go.ChangeShapes Go.WideShapes Go.ChangeAt Go.RowKit

def laid9 : List (String × DataW Unit) := [("math/bits.deBruijn32tab", Rows.laid_math_bits_deBruijn32tab), ("math/bits.deBruijn64tab", Rows.laid_math_bits_deBruijn64tab), ("internal/strconv.uint64pow10", Rows.laid_internal_strconv_uint64pow10), ("strconv.ErrRange", Rows.laid_strconv_ErrRange), ("strconv.ErrSyntax", Rows.laid_strconv_ErrSyntax), ("abacus/shape.formats", Rows.laid_abacus_shape_formats)]
theorem gType10 : (Tryz.prog.globals[5]?).map (·.type) = some 288 := by kernel_rfl
theorem cells69 : Tryz.prog.cellsOf 23 = 1 := by kernel_rfl
theorem cellsP9 : Tryz.prog.cellsOf 288 = 20 := by kernel_rfl
theorem gSynT : (Tryz.prog.globals[2]?).map (·.type) = some 170 := by kernel_rfl
theorem gRngT : (Tryz.prog.globals[3]?).map (·.type) = some 170 := by kernel_rfl
theorem cellsE : Tryz.prog.cellsOf 298 = 1 := by kernel_rfl
theorem cellsS : Tryz.prog.cellsOf 9 = 1 := by kernel_rfl
theorem starE : "*" ++ "errors.errorString" = "*errors.errorString" := by decide
theorem rowE (u : TypeId) (h : Tryz.prog.typeName? 3 u = some "*errors.errorString") : u = 296 :=
  typeName_ptr_named (nm := "errors.errorString") (by rw [starE]; kernel_rfl) (by kernel_rfl) (by decide) u (by rw [starE]; exact h)
theorem of_laid9 {W : World} (h : laidMetH Tryz.prog laid9 W) : TabAt W ∧ FAt W ∧ P10 W ∧ (∃ t p, W.var? Tryz.prog "strconv.ErrSyntax" = some #[.iface t p]) ∧ (∃ t p, W.var? Tryz.prog "strconv.ErrRange" = some #[.iface t p]) := by
  rw [MakeChecks.laidMetH_plain _ _ _ (by kernel_rfl)] at h
  have h1 := laidMet.tail h
  have h2 := laidMet.tail h1
  have h3 := laidMet.tail h2
  have h4 := laidMet.tail h3
  have h5 := laidMet.tail h4
  refine ⟨?_, ?_, ?_, ?_, ?_⟩
  · have h' : laidMet Tryz.prog (("math/bits.deBruijn64tab", Lib.tabData .u8 tabZ8) :: _) W := h1
    have hT := Lib.tabIs_of_head gTab8 gType8 Tryz.underlying277 Tryz.underlying5 cells58 cellsT8 h'
    intro i hi
    have hc := hT.cell gTab8 i (show i < tabZ8.length from hi)
    rw [tab_at8 ⟨i, hi⟩] at hc
    exact hc
  · refine of_laid7 ?_
    rw [MakeChecks.laidMetH_plain _ _ _ (by kernel_rfl)]
    exact h5
  · have h' : laidMet Tryz.prog (("internal/strconv.uint64pow10", Lib.tabData .u64 Lib.pow10Tab) :: _) W := h2
    exact Lib.tabIs_of_head gP10 gType10 Tryz.underlying288 Tryz.underlying23 cells69 cellsP9 h'
  · obtain ⟨a, s, hv, _⟩ := laid_sentinel h4 gSyn gSynT Tryz.underlying170 rowE Tryz.underlying296 Tryz.underlying298 rfl rfl Tryz.underlying9 cellsE cellsS
    exact ⟨_, _, hv⟩
  · obtain ⟨a, s, hv, _⟩ := laid_sentinel h3 gRng gRngT Tryz.underlying170 rowE Tryz.underlying296 Tryz.underlying298 rfl rfl Tryz.underlying9 cellsE cellsS
    exact ⟨_, _, hv⟩
theorem door_met9 (os : Os) (args : Array Value) : laidMetH Tryz.prog laid9 ((World.doorLaid Tryz.prog 400 os).forCall (fun _ _ => 0) ⟨#[], args, []⟩).memory :=
  laidMetH_of_parts3 (fuel := 8) (laidMet_of_run' 8 (by kernel_rfl) (by kernel_rfl)) (by kernel_rfl) (by kernel_rfl)
theorem maxlen_of {W : World} (h : W.ShapedOpen Tryz.prog) : ∃ m, W.cell? ⟨1, 0, none⟩ = some (.int .i64 m) :=
  cell_of_shapedOpen_int (zero := #[.int .i64 0]) h (by decide +kernel) (by kernel_rfl) rfl (by kernel_rfl) (by kernel_rfl) Tryz.underlying3
/-- A row's claim, out of what its function does in each world that fits: the variables laid, and the world's shape kept. -/
theorem handed9 {H : Type} {enc : TypeId × Value → H} {os : Os} {k : FuncId} {fn : Func} {s : ChangeSpec} (own : ownKnob Tryz.prog.godebug = none) (started : os.Started) (noInit : Tryz.prog.inits.idxOf? k = none) (hfn : Tryz.prog.funcs[k]? = some fn)
    (witness : ∃ (w : World) (tape : Tape) (i : Input), w.os = os ∧ (w.forCall tape i).Shaped Tryz.checked.prog ∧ i.vars = [] ∧ Input.okWide Tryz.checked.prog (w.forCall tape i) .any w.heap.size k i ∧
      ((s.pre enc Tryz.checked.prog fn [] false (w.forCall tape i).memory i.args ∧ laidMetH Tryz.prog laid9 (w.forCall tape i).memory) ∧ sizedMet enc Tryz.checked.prog fn (OpenSpec.ofChange s) false (w.forCall tape i).memory i.args) ∧ ({} : Assume).holds Tryz.checked.prog (lone (Frame.enter Tryz.checked.prog k i.args .normal) [] (w.forCall tape i)))
    (does : ∀ (W : World) (base : Nat) (args : Array Value) (ds gs : List (DataW H)) (before : List MemPlace), (∀ (j : Nat) t v, fn.params[j]? = some t → args[j]? = some v → Value.okWide Tryz.checked.prog W .any base t v) →
      DataW.Whole enc Tryz.checked.prog fn.params.toList s.vars false W args.toList ds gs before → laidMetH Tryz.prog laid9 W → W.ShapedOpen Tryz.checked.prog →
      Calls Tryz.checked.prog k args W fun e W' => ∃ v, e = .returned v ∧ s.post enc Tryz.checked.prog fn false true false false W args v W') :
    ReturnsInHanded {} Tryz.checked os k .any (fun w args => (s.pre enc Tryz.checked.prog fn [] false w args ∧ laidMetH Tryz.prog laid9 w) ∧ sizedMet enc Tryz.checked.prog fn (OpenSpec.ofChange s) false w args) (s.post enc Tryz.checked.prog fn false true false false) := by
  refine returnsInHanded_of_calls own started noInit witness fun w tape i _ shape _ fits met _ => ?_
  obtain ⟨_, _, _, fn2, same, _, _, _, _, vals⟩ := fits
  obtain rfl : fn2 = fn := Option.some.inj (same.symm.trans hfn)
  obtain ⟨⟨⟨ds, gs, before, whole, _⟩, laid⟩, _⟩ := met
  refine (does (w.forCall tape i) w.heap.size i.args ds gs before vals (DataW.Whole.of_heap (w' := w.forCall tape i) (by rfl) whole) (laid.of_heap (by rfl)) shape).mono fun e W' h => ?_
  obtain ⟨v, rfl, post⟩ := h
  exact ChangeSpec.post_blind post
end Go.Proofs.YtkmlbjlaahcahaaGreatDoor
