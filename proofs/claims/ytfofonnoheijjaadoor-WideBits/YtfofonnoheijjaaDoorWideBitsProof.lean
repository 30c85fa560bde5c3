/-
  WideBits returns true for every two numbers of 384 bits and every count, the library's table lying as the program's text lays it: lengths, lowest bits, bits, masks, and, or and not of package wide are the document's.
-/
import Derived.Test.YtfofonnoheijjaaDoorRows
import Derived.Test.YtfofonnoheijjaaDoorTie
import Derived.Test.YtfofonnoheijjaaDoorCards
import Derived.WalkKit
import Derived.ProofKit
import Derived.OpenShut
import Derived.LaidMore
import Derived.Stop.Joined
import Derived.Lib.LaidTab
import Derived.SevenTiedAt
import Derived.Test.YtfofonnoheijjaaDoorFrame6
import Derived.Test.YtfofonnoheijjaaDoorWide8
import Derived.Test.YtfofonnoheijjaaDoorWide11
import Derived.Test.YtfofonnoheijjaaDoorWide12
namespace Go.Proofs.YtfofonnoheijjaaDoor.wideBits
open WMath
open Go.ChangeShapes Go.WideShapes Go.ChangeAt Go.RowKit

theorem own : ownKnob Tryd.prog.godebug = none := by kernel_rfl

set_option maxRecDepth 100000 in
set_option maxHeartbeats 4000000 in
theorem walk (a0 a1 : Nat) (a2 : Int) (h0 : a0 < Q) (h1 : a1 < Q) (w : World) (hT : TabAt w) :
    Calls Tryd.prog 3 #[.agg (cw 6 a0), .agg (cw 6 a1), .int .i64 a2] w fun e w' => e = .returned (.bool true) ∧ Below w.heap.size w w' := by
  obtain ⟨t, hl1, hl2⟩ := low_both a0
  obtain ⟨b, hb1, hb2⟩ := bit_both a0 a2
  have L1 := box hl1
  have L2 := box hl2
  have B1 := box hb1
  have B2 := box hb2
  clear hl1 hl2 hb1 hb2
  obtain ⟨ln, hln⟩ : ∃ x, blen a0 = x := ⟨_, rfl⟩
  obtain ⟨mk, hmk⟩ : ∃ x, 2 ^ cnt6 a2 - 1 = x := ⟨_, rfl⟩
  obtain ⟨an, han⟩ : ∃ x, a0 &&& a1 = x := ⟨_, rfl⟩
  obtain ⟨or', hor⟩ : ∃ x, a0 ||| a1 = x := ⟨_, rfl⟩
  obtain ⟨nt, hnt⟩ : ∃ x, Q - 1 - a0 = x := ⟨_, rfl⟩
  have q1 : mk < Q := by rw [← hmk]; exact mask_ltQ _ (by unfold cnt6; omega)
  have q2 : an < Q := by rw [← han]; exact and_ltQ _ _ h0
  have q3 : or' < Q := by rw [← hor]; exact or_ltQ _ _ h0 h1
  have q4 : nt < Q := by have := Q_pos; omega
  have C1 : Box (∀ w : World, Calls Tryd.prog 4 #[.agg (cw 6 a0)] w fun e w' => e = .returned (.int .i64 (ln : Nat)) ∧ Below w.heap.size w w') := box (fun w => by subst hln; exact wlen_any a0 h0 w)
  have C2 : Box (∀ w : World, Calls Tryd.prog 5 #[.agg (cw 6 a0)] w fun e w' => e = .returned (.int .i64 (ln : Nat)) ∧ Below w.heap.size w w') := box (fun w => by subst hln; exact rwlen_any a0 h0 w)
  have C3 : Box (∀ w : World, Calls Tryd.prog 12 #[.agg (cw 6 a0), .agg (cw 6 a1)] w fun e w' => e = .returned (.agg (cw 6 an)) ∧ Below w.heap.size w w') := box (fun w => by subst han; exact wand_any a0 a1 h0 w)
  have C4 : Box (∀ w : World, Calls Tryd.prog 14 #[.agg (cw 6 a0), .agg (cw 6 a1)] w fun e w' => e = .returned (.agg (cw 6 or')) ∧ Below w.heap.size w w') := box (fun w => by subst hor; exact wor_al a0 a1 h0 h1 w)
  have C5 : Box (∀ w : World, Calls Tryd.prog 16 #[.agg (cw 6 a0)] w fun e w' => e = .returned (.agg (cw 6 nt)) ∧ Below w.heap.size w w') := box (fun w => by subst hnt; exact wnot_al2 a0 h0 w)
  have M1 := box hmk
  have A1 := box han
  have O1 := box hor
  have N1 := box hnt
  clear hln hmk han hor hnt
  have hat := cw_at 6
  have hf := cw6f
  have heq := eq6
  have hg := eqg6
  obtain ⟨W, hW⟩ : ∃ W, W = (w.alloc (.cells (cw 6 a0) 24)).alloc (.cells (cw 6 a1) 24) := ⟨_, rfl⟩
  have r0 : W.heap[w.heap.size]? = some (.cells (cw 6 a0) 24) := by rw [hW, heap_below _ _ _ (by simp only [size_al]; omega)]; exact heap_alloc_last _ _
  have r1 : W.heap[w.heap.size + 1]? = some (.cells (cw 6 a1) 24) := by
    rw [hW]
    have := heap_alloc_last (w.alloc (.cells (cw 6 a0) 24)) (.cells (cw 6 a1) 24)
    simpa only [size_al] using this
  have bW : Below w.heap.size w W := by rw [hW]; exact ((Below.refl _ _).alloc (Nat.le_refl _) _).alloc (by simp only [size_al]; omega) _
  obtain ⟨F, hF1, hF2⟩ := below_fun W
  have f0 : ∀ u o, o < 6 → (F u).cell? ⟨w.heap.size, o, none⟩ = some (.int .u64 (wd a0 o : Nat)) := fun u => row_cell (heap_of (hF1 u) _ _ _ r0)
  have f1 : ∀ u o, o < 6 → (F u).cell? ⟨w.heap.size + 1, o, none⟩ = some (.int .u64 (wd a1 o : Nat)) := fun u => row_cell (heap_of (hF1 u) _ _ _ r1)
  have TF : Box (∀ u, TabAt (F u)) := box (fun u => tab_below hT (bW.trans ((hF1 u).mono bW.size)))
  clear hT
  go_enter Tryd.func3, Tryd.ntmps3
  go_wp2
  rw [← hW]
  clear hW
  refine wp_region_below F hF2 (by kernel_rfl) (by kernel_rfl) ?_
  repeat quiet_step (first | (go_at_call 4; exact quietF hF1 hF2 (C1.out _)) | (go_at_call 5; exact quietF hF1 hF2 (C2.out _)) | (go_at_call 6; exact quietF hF1 hF2 (L1.out _ (TF.out _))) | (go_at_call 7; exact quietF hF1 hF2 (L2.out _)) | (go_at_call 8; exact quietF hF1 hF2 (B1.out _)) | (go_at_call 9; exact quietF hF1 hF2 (B2.out _)) | (go_at_call 10; exact quietF hF1 hF2 (wmask_is a2 mk M1.out _)) | (go_at_call 11; exact quietF hF1 hF2 (rwmask_is a2 mk M1.out _)) | (go_at_call 12; exact quietF hF1 hF2 (C3.out _)) | (go_at_call 13; exact quietF hF1 hF2 (rwand_is a0 a1 an h0 A1.out _)) | (go_at_call 14; exact quietF hF1 hF2 (C4.out _)) | (go_at_call 15; exact quietF hF1 hF2 (rwor_is a0 a1 or' h0 h1 O1.out _)) | (go_at_call 16; exact quietF hF1 hF2 (C5.out _)) | (go_at_call 17; exact quietF hF1 hF2 (rwnot_is a0 nt h0 N1.out _)) | (go_at_call 18; exact quietF hF1 hF2 (walive_any _)))
  refine wpQuiet_nil ?_
  rintro _ ⟨u, rfl⟩
  go_wp2
  go_ret
  exact ⟨rfl, bW.trans ((hF1 u).mono bW.size)⟩

def tabZ : List Int := [0, 1, 56, 2, 57, 49, 28, 3, 61, 58, 42, 50, 38, 29, 17, 4, 62, 47, 59, 36, 45, 43, 51, 22, 53, 39, 33, 30, 24, 18, 12, 5, 63, 55, 48, 27, 60, 41, 37, 16, 46, 35, 44, 21, 52, 32, 23, 11, 54, 26, 40, 15, 34, 20, 31, 10, 25, 14, 19, 9, 13, 8, 7, 6]
def laid1 : List (String × DataW Unit) := [("math/bits.deBruijn64tab", Rows.laid_math_bits_deBruijn64tab)]
theorem gTab : Tryd.prog.globalNamed "math/bits.deBruijn64tab" = some 0 := by kernel_rfl
theorem gType : (Tryd.prog.globals[0]?).map (·.type) = some 51 := by kernel_rfl
theorem cells5 : Tryd.prog.cellsOf 5 = 1 := by kernel_rfl
theorem cellsT : Tryd.prog.cellsOf 51 = 64 := by kernel_rfl
theorem tab_at : ∀ i : Fin 64, tabZ.getD i.val 0 = ((Lib.deBruijn64tab.getD i.val 0 : Nat) : Int) := by decide +kernel

theorem of_laid {W : World} (h : laidMetH Tryd.prog laid1 W) : TabAt W := by
  rw [MakeChecks.laidMetH_plain _ _ _ (by kernel_rfl)] at h
  have h' : laidMet Tryd.prog (("math/bits.deBruijn64tab", Lib.tabData .u8 tabZ) :: []) W := h
  have hT := Lib.tabIs_of_head gTab gType Tryd.underlying51 Tryd.underlying5 cells5 cellsT h'
  intro i hi
  have hc := hT.cell gTab i (show i < tabZ.length from hi)
  rw [tab_at ⟨i, hi⟩] at hc
  exact hc

theorem door_met (os : Os) (args : Array Value) : laidMetH Tryd.prog laid1 ((World.doorLaid Tryd.prog 400 os).forCall (fun _ _ => 0) ⟨#[], args, []⟩).memory :=
  laidMetH_of_parts3 (fuel := 8) (laidMet_of_run' 8 (by kernel_rfl) (by kernel_rfl)) (by kernel_rfl) (by kernel_rfl)

set_option maxRecDepth 100000 in
theorem lifted (os : Os) (started : os.Started) (H : Type) (enc : TypeId × Value → H) :
    ReturnsInHanded {} Tryd.checked os 3 .any (fun w args => (Rows.wideBitsSpec.pre enc Tryd.prog Tryd.f3 [] false w args ∧ laidMetH Tryd.prog laid1 w) ∧ sizedMet enc Tryd.prog Tryd.f3 (OpenSpec.ofChange Rows.wideBitsSpec) false w args)
      (Rows.wideBitsSpec.post enc Tryd.prog Tryd.f3 false true false false) := by
  refine returnsInHanded_of_change_and (C := Tryd.checked) (X := fun w _ => laidMetH Tryd.prog laid1 w) (fun _ _ _ hh h => h.of_heap hh) own started (by kernel_rfl) Tryd.func3
    (ChangeSpec.witness_shaped (enc := enc) (C := Tryd.checked) (os := os) (X := fun w _ => laidMetH Tryd.prog laid1 w) false (World.doorLaid Tryd.prog 400 os) #[.agg #[.int .u64 0, .int .u64 0, .int .u64 0, .int .u64 0, .int .u64 0, .int .u64 0], .agg #[.int .u64 0, .int .u64 0, .int .u64 0, .int .u64 0, .int .u64 0, .int .u64 0], .int .i64 0] 8 rfl (World.shaped_of_RefB (by kernel_rfl) (by kernel_rfl)) (by kernel_rfl) (by kernel_rfl) (by kernel_rfl) (door_met os _)) ?_
  intro W base args ds gs before hval0 hW _ _ hL _
  have hval : ∀ (j : Nat) t v, Tryd.f3.params[j]? = some t → args[j]? = some v → Value.okWide Tryd.prog W .any base t v := hval0
  have hW' := hW
  obtain ⟨p, q, hA0, hV, rfl, hfz, hnd⟩ := hW
  have hA : DataW.TrodAll enc Tryd.prog W 0 (fun _ => true) true Tryd.f3.params.toList args.toList ds p := hA0
  rw [Tryd.params3] at hA hval
  obtain ⟨v0, vs0, d0, ds0, p0, q0, hargs, rfl, rfl, k0, r0⟩ := trodAll_cons hA
  obtain ⟨v1, vs1, d1, ds1, p1, q1, rfl, rfl, rfl, k1, r1⟩ := trodAll_cons r0
  obtain ⟨v2, vs2, d2, ds2, p2, q2, rfl, rfl, rfl, k2, r2⟩ := trodAll_cons r1
  obtain ⟨rfl, rfl, rfl⟩ := trodAll_nil r2
  obtain rfl : args = #[v0, v1, v2] := by cases args; simp_all
  obtain ⟨rfl, rfl⟩ := trodVars_none hV
  obtain ⟨a0, h0, rfl, rfl, rfl⟩ := open_w6 (hval 0 24 v0 rfl rfl) k0
  obtain ⟨a1, h1, rfl, rfl, rfl⟩ := open_w6 (hval 1 24 v1 rfl rfl) k1
  obtain ⟨a2, rfl, rfl, rfl, h2⟩ := open_int Tryd.underlying3 (hval 2 3 v2 rfl rfl) k2
  clear hA0 hval0
  simp only [List.append_nil] at hW'
  refine (walk a0 a1 a2 h0 h1 W (of_laid hL)).mono fun e W' ⟨he, hg⟩ => ?_
  subst he
  exact ⟨_, rfl, post_plain hW' (fun _ _ _ => trodAll_mk1 (shut_bool Tryd.underlying4 _)) (fun sp => (trodAll_cons_mk (shut_w6 a0) (trodAll_cons_mk (shut_w6 a1) (trodAll_cons_mk (shut_int Tryd.underlying3 h2) trodAll_mk0)))) (fun _ => rfl) hg (ok_one (by kernel_rfl) rfl (okWide_bool_mk Tryd.underlying4 _))⟩

theorem over : Rows.WideBitsSaid :=
  OpenClaim.holds_of_wide 3 Tryd.f3 rfl rfl rfl rfl rfl rfl rfl ⟨rfl, rfl, rfl, rfl, rfl⟩ rfl rfl rfl rfl rfl (by kernel_rfl) Tryd.func3 (by kernel_rfl)
    (of_decide_eq_true (by kernel_rfl)) (by unfold Func.isWrapper; first | (rw [if_pos (by decide +kernel)]; kernel_rfl) | (rw [if_neg (by decide +kernel)]; exact ⟨rfl, rfl⟩))
    (fun os started H enc _ => lifted os started H enc)

theorem proved : Rows.WideBitsCardSaid :=
  Claim7.holds_tied_plain_at .later [] [.data] true (true, "b0fcc7a75f5d1dfea75f5656d1ed4c321d7fdcff3b818cf4994a6d9f25bfbc88") false
    over (fun _ h => by cases h) (by kernel_rfl) (fun _ h => by cases h) wideBits_row_tie rfl ⟨rfl, rfl⟩ (by kernel_rfl) rfl
    (fun f fn hf hfn => by
      obtain rfl : f = 3 := Option.some.inj ((show Tryd.prog.funcNamed "abacus/abacuslaw02.WideBits" = some 3 by kernel_rfl).symm.trans hf) |>.symm
      obtain rfl : fn = Tryd.f3 := (Option.some.inj (Tryd.func3.symm.trans hfn)).symm
      exact ⟨by kernel_rfl, fun j t ht => by
        rw [Tryd.params3] at ht
        have h3 : t = 24 ∨ t = 3 := by
          rcases j with _ | _ | _ | j
          · exact Or.inl (by simpa using ht.symm)
          · exact Or.inl (by simpa using ht.symm)
          · exact Or.inr (by simpa using ht.symm)
          · simp at ht
        rcases h3 with rfl | rfl
        · exact (show Tryd.prog.wantsStandIn 24 = false by kernel_rfl)
        · exact (show Tryd.prog.wantsStandIn 3 = false by kernel_rfl)⟩)
    (by kernel_rfl)
#print axioms proved
end Go.Proofs.YtfofonnoheijjaaDoor.wideBits
