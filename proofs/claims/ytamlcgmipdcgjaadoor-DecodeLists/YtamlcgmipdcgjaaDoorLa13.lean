/-
  What the functions that the statement reaches return: part 13 (ZC, ZD, SL25).
-/
import Derived.Laws.AppendOwn
import Derived.Test.YtamlcgmipdcgjaaDoorRows
import Derived.OpenShut
import Derived.LaidMore
import Derived.Lib.LaidTab
import Derived.Stop.Joined
import Derived.Stop.LaidErr
import Derived.Test.YtamlcgmipdcgjaaDoorLa12
namespace Go.Proofs.YtamlcgmipdcgjaaDoor
set_option maxRecDepth 100000
set_option maxHeartbeats 40000000
set_option maxRecDepth 100000
open Go.RowKit WMath
set_option linter.unusedSimpArgs false
set_option linter.unusedVariables false
def insC (l : List Nat) : List Value := l.flatMap fun x => (inC (dcR x).1).toList
theorem insC_at (m : List Nat) (k j x : Nat) (h : m[k]? = some x) (hj : j < 11) : (insC m)[k * 11 + j]? = (inC (dcR x).1)[j]? := by
  unfold insC
  rw [flat_at (fun x => (inC (dcR x).1).toList) 11 (fun _ => rfl) m k j x h hj, Array.getElem?_toList]
theorem insC_app (l m : List Nat) : insC (l ++ m) = insC l ++ insC m := by simp [insC]
theorem in_one (x : In) : ∀ u ∈ (inC x).toList, u.oneCell' = true := fun v hv => by
  simp [inC] at hv
  rcases hv with rfl | rfl | rfl | rfl | rfl | rfl | rfl | rfl | rfl | rfl | rfl <;> rfl
theorem take_next {l : List Nat} {k x : Nat} (h : l[k]? = some x) : l.take (k + 1) = l.take k ++ [x] := by rw [List.take_add_one, h]; rfl
theorem fbL_eq {l : List Nat} {k x : Nat} (h : l[k]? = some x) (hk : k ≤ fbL l) (he : (dcR x).2 = 250) : fbL l = k := by
  rcases Nat.lt_or_ge k (fbL l) with g | g
  · have := fbL_lo l k x h g
    omega
  · omega
theorem fbL_next {l : List Nat} {k x : Nat} (h : l[k]? = some x) (hk : k ≤ fbL l) (he : (dcR x).2 = 0) : k + 1 ≤ fbL l := by
  rcases Nat.lt_or_ge k (fbL l) with g | g
  · exact g
  · have e : fbL l = k := by omega
    have := fbL_at l x (by rw [e]; exact h)
    omega
set_option maxRecDepth 100000 in
set_option maxHeartbeats 8000000 in
theorem wpl_one25 {ops : Array Oper} {rest : List Oper} {o : Oper} {a : Act} {w : World} {Q : Exit → Act → World → Prop} (hg : o.guard = none) (parts : Array (Nat × Operand)) (ho : o.op = .buildSlice 40 1 parts) (x : Operand) (hp : parts = #[(0, x)]) (r : In) (hx : a.eval x = .agg (inC r))
    (h : wpList Tryd.prog ops Q rest (a.put o.dst (.slice (some ⟨w.heap.size, 0, none⟩) 1 1)) (w.alloc (.cells (inC r) 28))) : wpList Tryd.prog ops Q (o :: rest) a w := by
  obtain ⟨i0, hi, hz0, hz1, hz2⟩ := info_parts (show (Tryd.prog.info? 28).map (fun i => (i.zero, i.size, i.bytes)) = some (some (.agg #[.int .u8 0, .int .u8 0, .int .u8 0, .int .u8 0, .int .u8 0, .int .u8 0, .int .u8 0, .int .u8 0, .int .u8 0, .int .i16 0, .int .u8 0]), 11, 14) by kernel_rfl)
  subst hp
  refine wpList_buildSlice hg 40 28 1 _ ho (inC r) i0 _ Tryd.underlying40 hi hz0 ?_ ?_ ?_ h
  · rw [hz1]; decide
  · rw [hz1]; decide
  · rw [hz1]
    simp only [List.map_toArray, List.map_cons, List.map_nil, hx]
    kernel_rfl
def AllK (w : World) (l : List Nat) (k : Nat) (v : Value) (V : World) : Prop := V.ownsRow w.heap.size 28 11 v k (insC (l.take k)) ∧ Below w.heap.size w V
set_option maxRecDepth 100000 in
set_option maxHeartbeats 8000000 in
theorem t_all (l : List Nat) (L : Nat) (hl : l.length = L) (h2 : L ≤ 2000) (KD : Box (∀ x ∈ l, ∀ w, T24 w → Calls Tryd.prog 9 #[.int .u32 (x : Nat)] w fun r w' => r = .returned (.tuple #[.agg (inC (dcR x).1), .int .i64 (dcR x).2]) ∧ Below w.heap.size w w')) (w : World) (g z c : Nat) (hc : L ≤ c) (HC : Box (∀ V, Below w.heap.size w V → ∀ (k x : Nat), l[k]? = some x → V.cell? ⟨g, z + k, none⟩ = some (.int .u32 (x : Nat)))) (hT : T24 w) : Calls Tryd.prog 15 #[.slice (some ⟨g, z, none⟩) L c] w fun r w' => AllAns l r w' ∧ Below w.heap.size w w' := by
  obtain ⟨i0, hi, hz0, hz1, hz2⟩ := info_parts (show (Tryd.prog.info? 28).map (fun i => (i.zero, i.size, i.bytes)) = some (some (.agg #[.int .u8 0, .int .u8 0, .int .u8 0, .int .u8 0, .int .u8 0, .int .u8 0, .int .u8 0, .int .u8 0, .int .u8 0, .int .i16 0, .int .u8 0]), 11, 14) by kernel_rfl)
  have FF := box hT
  clear hT
  have hin := inC_new
  have fb := fbL_le l
  go_enter Tryd.func15, Tryd.ntmps15
  go_wp2_with fail
  go_loopw [2, 11] (fun v iv wr => ∃ (k : Nat) (ao : Option Addr) (cv : Nat), k ≤ L ∧ k ≤ fbL l ∧ iv = .int .i64 (k : Int) ∧ v = .slice ao k cv ∧ AllK w l k v wr) (fun _ iv _ => L - (intOf iv).toNat)
  case atStart => exact ⟨0, none, 0, Nat.zero_le _, Nat.zero_le _, rfl, rfl, World.ownsRow_nil _ _ _ _, Below.refl _ _⟩
  case round =>
    obtain ⟨k, ao, cv, hk, hkf, rfl, rfl, ho, B1⟩ := hrel
    obtain ⟨w1, rfl⟩ : ∃ w1, w1 = wr := ⟨_, rfl⟩
    by_cases hlt : k < L
    case neg =>
      have kl : k = L := by omega
      subst kl
      have dl : decide ((k : Int) < (k : Int)) = false := decide_eq_false (by omega)
      go_wp2
      go_ret3
      refine ⟨?_, B1⟩
      unfold AllAns
      rw [if_pos (by omega)]
      by_cases k0 : k = 0
      · subst k0
        exact .inl ⟨List.eq_nil_of_length_eq_zero hl, ao, cv, rfl⟩
      · refine .inr ?_
        rcases ho.2 with ⟨_, h⟩ | ⟨g3, cap3, cur, h3, _, row, hcp, _, hsz, ht⟩
        · omega
        · injection h3 with h31 h32 h33
          subst h31 h33
          refine ⟨g3, cv, cur, (by rw [hl]; rfl), (by rw [hl]; exact hcp), row, box (fun i x hx j u hj => ?_)⟩
          have hil : i < k := by rw [← hl]; exact (List.getElem?_eq_some_iff.1 hx).1
          have hj11 : j < 11 := (Array.getElem?_eq_some_iff.1 hj).1
          have q := insC_at (l.take k) i j x (by rw [List.getElem?_take_of_lt hil]; exact hx) hj11
          rw [hj, ← ht, List.getElem?_take_of_lt (by omega)] at q
          rw [← Array.getElem?_toList]
          exact q
    obtain ⟨x, hx⟩ : ∃ x, l[k]? = some x := ⟨_, List.getElem?_eq_getElem (by omega)⟩
    have dl : decide ((k : Int) < (L : Int)) = true := decide_eq_true (by omega)
    have c0 := HC.out w1 B1 k x hx
    have hw1 : IntKind.i64.wrap ((k : Int) + 1) = ((k + 1 : Nat) : Int) := by rw [IntKind.wrap_i64]; omega
    have K := KD.out x (List.mem_of_getElem? hx) w1 (t24B FF.out B1)
    have e2 := dcR_two x
    have hEQ := box (fun h => fbL_eq hx hkf h)
    have hNX := box (fun h => fbL_next hx hkf h)
    have HTK := box (take_next hx)
    have hdc : dcR x = ((dcR x).1, (dcR x).2) := rfl
    obtain ⟨i, hi1⟩ : ∃ i, (dcR x).1 = i := ⟨_, rfl⟩
    have HI := box hi1
    rw [hi1] at K
    have hif := inC_fold i
    clear hdc hx
    rcases e2 with e0 | e0
    · rw [e0] at K
      have HN := box (hNX.out e0)
      clear e0 hEQ hNX hi1
      go_wp2_with fail
      refine K.mono ?_
      rintro r w2 ⟨rfl, b2⟩
      have B2 := btr B1 b2
      have ho2 := own_below24 ho b2
      clear K ho B1 b2 c0
      have hs2 := B2.size
      go_wp2_with (first | (refine wpl_one25 rfl _ rfl _ rfl i rfl ?_) | (at_builtin; refine wpList_append_own _ rfl _ _ 40 rfl w.heap.size 28 i0 (.agg #[.int .u8 0, .int .u8 0, .int .u8 0, .int .u8 0, .int .u8 0, .int .u8 0, .int .u8 0, .int .u8 0, .int .u8 0, .int .i16 0, .int .u8 0]) 11 14 Tryd.underlying40 hi hz0 hz1 hz2 rfl (by decide) _ _ _ rfl ((ho2.alloc _).alloc _) ⟨(w2.alloc (.cells (inC i) 28)).heap.size, 0, none⟩ 1 1 ((inC i).toList) rfl rfl (new_cells24 _ (inC i) _) (in_one i) (by unfold maxLen; omega) (by omega) (by simp only [size_al]; omega) ?_; intro v9 w6 hown9 hgrow9 hnil9))
      go_roundw
      case rel =>
        obtain ⟨g3, cap3, hv3⟩ := own_slice24 hown9 (Nat.succ_pos _)
        have bx := btr B2 (bal w2 (.cells (inC i) 28))
        have B6 : Below w.heap.size w w6 := (btr bx (bal _ (.cells (inC i) 28))).grown hgrow9 (by simp only [size_al]; omega) (fun q hq => (ho2.lt q hq).1)
        have ei : insC (l.take (k + 1)) = insC (l.take k) ++ (inC i).toList := by rw [HTK.out, insC_app, ← HI.out]; simp [insC]
        have RR : k + 1 ≤ L ∧ k + 1 ≤ fbL l ∧ Value.int .i64 ((k : Int) + 1) = .int .i64 ((k + 1 : Nat) : Int) ∧ v9 = .slice (some ⟨g3, 0, none⟩) (k + 1) cap3 ∧ AllK w l (k + 1) v9 w6 := ⟨by omega, HN.out, by first | rfl | simp, hv3, by unfold AllK; rw [ei]; exact ⟨hown9, B6⟩⟩
        first
          | exact ⟨k + 1, some ⟨g3, 0, none⟩, cap3, RR⟩
          | ((repeat apply Exists.intro); exact ⟨⟨k + 1, some ⟨g3, 0, none⟩, cap3, RR⟩, rfl⟩)
      case measure => simp [intOf]; omega
    · rw [e0] at K
      have HE := box (hEQ.out e0)
      clear e0 hEQ hNX hi1
      go_wp2_with fail
      refine K.mono ?_
      rintro r w2 ⟨rfl, b2⟩
      have B2 := btr B1 b2
      clear K ho B1 b2 c0
      go_wp2
      go_ret3
      refine ⟨?_, ?_⟩
      · unfold AllAns
        have := HE.out
        rw [if_neg (by omega), this]
        exact ⟨none, 0, rfl⟩
      · exact btr B2 (bal _ _)
end Go.Proofs.YtamlcgmipdcgjaaDoor
namespace Go.Proofs.YtamlcgmipdcgjaaDoor
set_option maxRecDepth 100000
set_option maxHeartbeats 40000000
set_option maxRecDepth 100000
open Go.RowKit Go.Shelf WMath
set_option linter.unusedSimpArgs false
set_option linter.unusedVariables false
theorem hE25 : ∀ args w, (callFunc 60 args).run Tryd.prog w = .ok (.enter 60 args) w := enters_of Tryd.func60 (by kernel_rfl) rfl
theorem fb25 : Box (∀ {w w' : World}, T24 w → Below w.heap.size w w' → T24 w') := box (fun h b => t24B h b)
theorem cF25 (x : Nat) (hx : x < 4294967296) : Box (∀ w, T24 w → Calls Tryd.prog 23 #[.int .u32 (x : Nat)] w fun r w' => r = .returned (.tuple #[.agg (rwC (ndO (fdL x)).1), .bool (fdL x).isSome]) ∧ Below w.heap.size w w') := box (fun w hT => t_find x hx hE25 _ _ rfl w hT)
theorem csr_le {x : Nat} {p : Nm} (h : fdL x = some p) (hl : p.1.lay = 8 ∨ p.1.lay = 9) : fld x 20 12 ≤ 3 := by
  obtain ⟨hm, hf⟩ := fd_mem h
  unfold fitsL at hf
  simp only [Bool.and_eq_true, Bool.not_eq_true', Bool.or_eq_true, decide_eq_true_eq, Bool.and_eq_false_iff, decide_eq_false_iff_not] at hf
  obtain ⟨⟨_, hr⟩, hc⟩ := hf
  have a6 : fld x 20 12 = x / 1048576 % 4096 := rfl
  omega
set_option maxRecDepth 100000 in
set_option maxHeartbeats 8000000 in
theorem k_dec1 (x : Nat) (hx : x < 4294967296) (p : Nm) (h : fdL x = some p) (hl : p.1.lay = 1) (KF : Box (∀ w, T24 w → Calls Tryd.prog 23 #[.int .u32 (x : Nat)] w fun r w' => r = .returned (.tuple #[.agg (rwC p.1), .bool true]) ∧ Below w.heap.size w w')) (w : World) (hT : T24 w) : Calls Tryd.prog 9 #[.int .u32 (x : Nat)] w fun r w' => r = .returned (.tuple #[.agg (inC (dcI p.1 x)), .int .i64 0]) ∧ Below w.heap.size w w' := by
  refine t_dec_y x p.1 41 _ (fun w => by rw [hl]; rfl) (box (fun b w hb => ?_)) (enters_of Tryd.func41 (by kernel_rfl) rfl) KF w hT
  have q := t_rd1 x hx _ b 28 w hb
  unfold dcI
  simp only [hl]
  simpa using q
set_option maxRecDepth 100000 in
set_option maxHeartbeats 8000000 in
theorem k_dec2 (x : Nat) (hx : x < 4294967296) (p : Nm) (h : fdL x = some p) (hl : p.1.lay = 2) (KF : Box (∀ w, T24 w → Calls Tryd.prog 23 #[.int .u32 (x : Nat)] w fun r w' => r = .returned (.tuple #[.agg (rwC p.1), .bool true]) ∧ Below w.heap.size w w')) (w : World) (hT : T24 w) : Calls Tryd.prog 9 #[.int .u32 (x : Nat)] w fun r w' => r = .returned (.tuple #[.agg (inC (dcI p.1 x)), .int .i64 0]) ∧ Below w.heap.size w w' := by
  refine t_dec_y x p.1 44 _ (fun w => by rw [hl]; rfl) (box (fun b w hb => ?_)) (enters_of Tryd.func44 (by kernel_rfl) rfl) KF w hT
  have q := t_rd2 x hx _ b 28 w hb
  unfold dcI
  simp only [hl]
  simpa using q
set_option maxRecDepth 100000 in
set_option maxHeartbeats 8000000 in
theorem k_dec3 (x : Nat) (hx : x < 4294967296) (p : Nm) (h : fdL x = some p) (hl : p.1.lay = 3) (KF : Box (∀ w, T24 w → Calls Tryd.prog 23 #[.int .u32 (x : Nat)] w fun r w' => r = .returned (.tuple #[.agg (rwC p.1), .bool true]) ∧ Below w.heap.size w w')) (w : World) (hT : T24 w) : Calls Tryd.prog 9 #[.int .u32 (x : Nat)] w fun r w' => r = .returned (.tuple #[.agg (inC (dcI p.1 x)), .int .i64 0]) ∧ Below w.heap.size w w' := by
  refine t_dec_y x p.1 45 _ (fun w => by rw [hl]; rfl) (box (fun b w hb => ?_)) (enters_of Tryd.func45 (by kernel_rfl) rfl) KF w hT
  have q := t_rd3 x hx _ b 28 w hb
  unfold dcI
  simp only [hl]
  simpa using q
set_option maxRecDepth 100000 in
set_option maxHeartbeats 8000000 in
theorem k_dec4 (x : Nat) (hx : x < 4294967296) (p : Nm) (h : fdL x = some p) (hl : p.1.lay = 4) (KF : Box (∀ w, T24 w → Calls Tryd.prog 23 #[.int .u32 (x : Nat)] w fun r w' => r = .returned (.tuple #[.agg (rwC p.1), .bool true]) ∧ Below w.heap.size w w')) (w : World) (hT : T24 w) : Calls Tryd.prog 9 #[.int .u32 (x : Nat)] w fun r w' => r = .returned (.tuple #[.agg (inC (dcI p.1 x)), .int .i64 0]) ∧ Below w.heap.size w w' := by
  refine t_dec_y x p.1 47 _ (fun w => by rw [hl]; rfl) (box (fun b w hb => ?_)) (enters_of Tryd.func47 (by kernel_rfl) rfl) KF w hT
  have q := t_rd4 x hx _ b 28 w hb
  unfold dcI
  simp only [hl]
  simpa using q
set_option maxRecDepth 100000 in
set_option maxHeartbeats 8000000 in
theorem k_dec5 (x : Nat) (hx : x < 4294967296) (p : Nm) (h : fdL x = some p) (hl : p.1.lay = 5) (KF : Box (∀ w, T24 w → Calls Tryd.prog 23 #[.int .u32 (x : Nat)] w fun r w' => r = .returned (.tuple #[.agg (rwC p.1), .bool true]) ∧ Below w.heap.size w w')) (w : World) (hT : T24 w) : Calls Tryd.prog 9 #[.int .u32 (x : Nat)] w fun r w' => r = .returned (.tuple #[.agg (inC (dcI p.1 x)), .int .i64 0]) ∧ Below w.heap.size w w' := by
  refine t_dec_y x p.1 48 _ (fun w => by rw [hl]; rfl) (box (fun b w hb => ?_)) (enters_of Tryd.func48 (by kernel_rfl) rfl) KF w hT
  have q := t_rd5 x hx _ b 28 w hb
  unfold dcI
  simp only [hl]
  simpa using q
set_option maxRecDepth 100000 in
set_option maxHeartbeats 8000000 in
theorem k_dec6 (x : Nat) (hx : x < 4294967296) (p : Nm) (h : fdL x = some p) (hl : p.1.lay = 6) (KF : Box (∀ w, T24 w → Calls Tryd.prog 23 #[.int .u32 (x : Nat)] w fun r w' => r = .returned (.tuple #[.agg (rwC p.1), .bool true]) ∧ Below w.heap.size w w')) (w : World) (hT : T24 w) : Calls Tryd.prog 9 #[.int .u32 (x : Nat)] w fun r w' => r = .returned (.tuple #[.agg (inC (dcI p.1 x)), .int .i64 0]) ∧ Below w.heap.size w w' := by
  refine t_dec_y x p.1 49 _ (fun w => by rw [hl]; rfl) (box (fun b w hb => ?_)) (enters_of Tryd.func49 (by kernel_rfl) rfl) KF w hT
  have q := t_rd6 x hx _ b 28 w hb
  unfold dcI
  simp only [hl]
  simpa using q
set_option maxRecDepth 100000 in
set_option maxHeartbeats 8000000 in
theorem k_dec7 (x : Nat) (hx : x < 4294967296) (p : Nm) (h : fdL x = some p) (hl : p.1.lay = 7) (KF : Box (∀ w, T24 w → Calls Tryd.prog 23 #[.int .u32 (x : Nat)] w fun r w' => r = .returned (.tuple #[.agg (rwC p.1), .bool true]) ∧ Below w.heap.size w w')) (w : World) (hT : T24 w) : Calls Tryd.prog 9 #[.int .u32 (x : Nat)] w fun r w' => r = .returned (.tuple #[.agg (inC (dcI p.1 x)), .int .i64 0]) ∧ Below w.heap.size w w' := by
  refine t_dec_y x p.1 50 _ (fun w => by rw [hl]; rfl) (box (fun b w hb => ?_)) (enters_of Tryd.func50 (by kernel_rfl) rfl) KF w hT
  have q := t_rd7 x hx _ b 28 w hb
  unfold dcI
  simp only [hl]
  simpa using q
set_option maxRecDepth 100000 in
set_option maxHeartbeats 8000000 in
theorem k_dec8 (x : Nat) (hx : x < 4294967296) (p : Nm) (h : fdL x = some p) (hl : p.1.lay = 8) (KF : Box (∀ w, T24 w → Calls Tryd.prog 23 #[.int .u32 (x : Nat)] w fun r w' => r = .returned (.tuple #[.agg (rwC p.1), .bool true]) ∧ Below w.heap.size w w')) (w : World) (hT : T24 w) : Calls Tryd.prog 9 #[.int .u32 (x : Nat)] w fun r w' => r = .returned (.tuple #[.agg (inC (dcI p.1 x)), .int .i64 0]) ∧ Below w.heap.size w w' := by
  refine t_dec_y x p.1 51 _ (fun w => by rw [hl]; rfl) (box (fun b w hb => ?_)) (enters_of Tryd.func51 (by kernel_rfl) rfl) KF w hT
  have hc := csr_le h (by omega)
  have e : fld x 20 12 % 256 = fld x 20 12 := Nat.mod_eq_of_lt (by omega)
  have q := t_rd8 x hx hc _ b 28 w hb
  unfold dcI
  simp only [hl]
  simpa [e] using q
set_option maxRecDepth 100000 in
set_option maxHeartbeats 8000000 in
theorem k_dec9 (x : Nat) (hx : x < 4294967296) (p : Nm) (h : fdL x = some p) (hl : p.1.lay = 9) (KF : Box (∀ w, T24 w → Calls Tryd.prog 23 #[.int .u32 (x : Nat)] w fun r w' => r = .returned (.tuple #[.agg (rwC p.1), .bool true]) ∧ Below w.heap.size w w')) (w : World) (hT : T24 w) : Calls Tryd.prog 9 #[.int .u32 (x : Nat)] w fun r w' => r = .returned (.tuple #[.agg (inC (dcI p.1 x)), .int .i64 0]) ∧ Below w.heap.size w w' := by
  refine t_dec_y x p.1 51 _ (fun w => by rw [hl]; rfl) (box (fun b w hb => ?_)) (enters_of Tryd.func51 (by kernel_rfl) rfl) KF w hT
  have hc := csr_le h (by omega)
  have e : fld x 20 12 % 256 = fld x 20 12 := Nat.mod_eq_of_lt (by omega)
  have q := t_rd8 x hx hc _ b 28 w hb
  unfold dcI
  simp only [hl]
  simpa [e] using q
set_option maxRecDepth 100000 in
set_option maxHeartbeats 8000000 in
theorem kDec (x : Nat) (hx : x < 4294967296) : Box (∀ w, T24 w → Calls Tryd.prog 9 #[.int .u32 (x : Nat)] w fun r w' => r = .returned (.tuple #[.agg (inC (dcR x).1), .int .i64 (dcR x).2]) ∧ Below w.heap.size w w') := box (fun w hT => by
  have F := cF25 x hx
  cases h : fdL x with
  | none =>
    rw [h] at F
    rw [dcR_none h]
    exact t_dec_no x _ F w hT
  | some p =>
    rw [h] at F
    rw [dcR_some h]
    obtain ⟨l1, l9, _⟩ := lay24 (fd_mem h).1
    rcases (by omega : p.1.lay = 1 ∨ p.1.lay = 2 ∨ p.1.lay = 3 ∨ p.1.lay = 4 ∨ p.1.lay = 5 ∨ p.1.lay = 6 ∨ p.1.lay = 7 ∨ p.1.lay = 8 ∨ p.1.lay = 9) with hl | hl | hl | hl | hl | hl | hl | hl | hl
    · exact k_dec1 x hx p h hl F w hT
    · exact k_dec2 x hx p h hl F w hT
    · exact k_dec3 x hx p h hl F w hT
    · exact k_dec4 x hx p h hl F w hT
    · exact k_dec5 x hx p h hl F w hT
    · exact k_dec6 x hx p h hl F w hT
    · exact k_dec7 x hx p h hl F w hT
    · exact k_dec8 x hx p h hl F w hT
    · exact k_dec9 x hx p h hl F w hT)
theorem kUseOf (i : In) (h1 : 1 ≤ i.op) (h31 : i.op ≤ 31) (a1 : i.rd < 32) (a2 : i.rs1 < 32) (a3 : i.rs2 < 32) (a4 : i.rs3 < 32) (w : World) : Calls Tryd.prog 27 #[.agg (inC i)] w fun r w' => r = .returned (.agg (usC (usI i))) ∧ Below w.heap.size w w' := by
  obtain ⟨op, fo, fr, kd, rd, rs1, rs2, rs3, rm, im, cs⟩ := i
  simp only at h1 h31 a1 a2 a3 a4
  obtain ⟨pd, ld⟩ := two32 rd a1
  obtain ⟨pa, la⟩ := two32 rs1 a2
  obtain ⟨pb, lb⟩ := two32 rs2 a3
  obtain ⟨pc, lc⟩ := two32 rs3 a4
  have ob := or32u _ _ la lb
  have lab : 2 ^ rs1 ||| 2 ^ rs2 < 4294967296 := Nat.or_lt_two_pow (n := 32) la lb
  have oc := or32u _ _ lab lc
  unfold usI
  simp only
  by_cases c1 : op = 1 ∨ op = 22 ∨ op = 25
  · rw [if_pos c1]
    exact t_uses1 op c1 fo fr kd rd rs1 rs2 rs3 rm im cs _ _ _ _ _ _ pa pb pc pd ob oc w
  rw [if_neg c1]
  by_cases c2 : op = 2
  · rw [if_pos c2]
    exact t_uses2 op c2 fo fr kd rd rs1 rs2 rs3 rm im cs _ _ _ _ _ _ pa pb pc pd ob oc w
  rw [if_neg c2]
  by_cases c3 : op = 3 ∨ op = 4 ∨ op = 5 ∨ op = 6
  · rw [if_pos c3]
    exact t_uses3 op c3 fo fr kd rd rs1 rs2 rs3 rm im cs _ _ _ _ _ _ pa pb pc pd ob oc w
  rw [if_neg c3]
  by_cases c4 : op = 11 ∨ op = 17
  · rw [if_pos c4]
    exact t_uses11 op c4 fo fr kd rd rs1 rs2 rs3 rm im cs _ _ _ _ _ _ pa pb pc pd ob oc w
  rw [if_neg c4]
  by_cases c5 : op = 18 ∨ op = 19 ∨ op = 20
  · rw [if_pos c5]
    exact t_uses18 op c5 fo fr kd rd rs1 rs2 rs3 rm im cs _ _ _ _ _ _ pa pb pc pd ob oc w
  rw [if_neg c5]
  by_cases c6 : op = 21 ∨ op = 23 ∨ op = 24
  · rw [if_pos c6]
    exact t_uses21 op c6 fo fr kd rd rs1 rs2 rs3 rm im cs _ _ _ _ _ _ pa pb pc pd ob oc w
  rw [if_neg c6]
  by_cases c7 : op = 26 ∨ op = 27 ∨ op = 28
  · rw [if_pos c7]
    exact t_uses26 op c7 fo fr kd rd rs1 rs2 rs3 rm im cs _ _ _ _ _ _ pa pb pc pd ob oc w
  rw [if_neg c7]
  by_cases c8 : op = 29 ∨ op = 30 ∨ op = 31
  · rw [if_pos c8]
    exact t_uses29 op c8 fo fr kd rd rs1 rs2 rs3 rm im cs _ _ _ _ _ _ pa pb pc pd ob oc w
  rw [if_neg c8]
  exact t_uses7 op (by omega) fo fr kd rd rs1 rs2 rs3 rm im cs _ _ _ _ _ _ pa pb pc pd ob oc w
theorem kUses (x : Nat) (hx : x < 4294967296) : Box (∀ w, T24 w → Calls Tryd.prog 11 #[.int .u32 (x : Nat)] w fun r w' => r = .returned (.tuple #[.agg (usC (usR x)), .int .i64 (dcR x).2]) ∧ Below w.heap.size w w') := box (fun w hT => by
  have F := kDec x hx
  cases h : fdL x with
  | none =>
    rw [dcR_none h] at F
    rw [usR_none h, dcR_none h]
    exact t_Uses_no x _ _ rfl F w hT
  | some p =>
    obtain ⟨i, hi, o1, o31, _, _, _, a1, a2, a3, a4, _⟩ := in_bnd hx h
    rw [dcR_some h, hi] at F
    rw [usR_some h, dcR_some h, hi]
    exact t_Uses_y x i _ F (box (fun w => kUseOf i o1 o31 a1 a2 a3 a4 w)) w hT)
theorem kAll (l : List Nat) (h2 : l.length ≤ 2000) (hx : ∀ x ∈ l, x < 4294967296) : Box (∀ (W : World) (s1 : Value), T24 W → SU l l.length s1 W → Calls Tryd.prog 15 #[s1] W fun r w' => AllAns l r w' ∧ Below W.heap.size W w') := box (fun W s1 hT hS => by
  obtain ⟨g, z, c, hc, rfl, HC⟩ := hS
  exact t_all l l.length rfl h2 (box (fun x h => (kDec x (hx x h)).out)) W g z c hc (box HC) hT)
theorem live25 : Box (∀ w, T24 w → Calls Tryd.prog 13 #[] w fun r w' => r = .returned (.bool true) ∧ Below w.heap.size w w') := box (fun w hT => lives25 fb25 kDec kUses w hT)
theorem lists_fin25 (v : Value) (w : World) (hv : WLAt w v) (hT : T24 w) : Calls Tryd.prog 4 #[v] w fun r w' => r = .returned (.bool true) ∧ Below w.heap.size w w' := by
  obtain ⟨ao, L, cv, ls, rfl, hL, _, hl, hok, h⟩ := hv
  rcases h with ⟨h0, h | ⟨ad, rfl⟩⟩ | ⟨g, z, rfl, hg, hc⟩
  · rw [h]
    exact lists25_0 fb25 kAll live25 w hT
  · subst h0
    exact lists25_e fb25 kAll live25 w ad cv hT
  · subst hl
    refine lists25_s fb25 kAll live25 ls hok w g z cv hL (box (fun W hW k x hx => ?_)) hT
    have := hc k x hx 0 (.int .u32 (x : Nat)) rfl
    rw [show z + (k * 1 + 0) = z + k by omega] at this
    exact cellB hW this
end Go.Proofs.YtamlcgmipdcgjaaDoor
set_option linter.unusedSimpArgs false
namespace Go.Proofs.YtamlcgmipdcgjaaDoor
set_option maxRecDepth 100000
set_option maxHeartbeats 40000000
set_option maxRecDepth 100000
open WMath
open Go.ChangeShapes Go.WideShapes Go.ChangeAt Go.RowKit
set_option linter.unusedVariables false
theorem list1y {α : Type} (l : List α) (h : l.length = 1) : ∃ a, l = [a] := by
  match l, h with
  | [a], _ => exact ⟨a, rfl⟩
theorem list5y {α : Type} (l : List α) (h : l.length = 5) : ∃ a b c d e, l = [a, b, c, d, e] := by
  match l, h with
  | [a, b, c, d, e], _ => exact ⟨a, b, c, d, e, rfl⟩
theorem int_read24 {w : World} {fuel : Nat} {enc : TypeId × Value → Unit} {base : Nat} {spare : Nat → Bool} {held : Bool} {l : List Value} {t : TypeId} {q : IntKind} {a : Int} {x : DataW Unit × List MemPlace} (ht : Tryd.prog.underlying t = some (.int q))
    (h : DataW.trod enc Tryd.prog w base spare held fuel t l = some x) (hx : x.1 = .lit (.int q a)) (hl : l.length = 1) : l = [.int q a] := by
  obtain ⟨c0, rfl⟩ := list1y l hl
  obtain ⟨x0, e0, k0, w0⟩ := DataW.trod_int ht h
  simp at e0
  subst e0
  rw [k0] at hx
  simp at hx
  rw [hx]
theorem str_read24 {w : World} {fuel : Nat} {enc : TypeId × Value → Unit} {base : Nat} {spare : Nat → Bool} {held : Bool} {l : List Value} {s : List UInt8} {x : DataW Unit × List MemPlace}
    (h : DataW.trod enc Tryd.prog w base spare held fuel 9 l = some x) (hx : x.1 = .lit (.string s)) (hl : l.length = 1) : l = [.string ⟨s.toArray⟩] := by
  obtain ⟨c0, rfl⟩ := list1y l hl
  obtain ⟨x0, e0, k0, w0⟩ := DataW.trod_string Tryd.underlying9 h
  simp at e0
  subst e0
  rw [k0] at hx
  simp at hx
  rw [← hx]
def laid25L : List (String × DataW Unit) := [("abacus/table.fixed", Rows.laid_abacus_table_fixed), ("abacus/table.plans", Rows.laid_abacus_table_plans), ("abacus/table.widths", Rows.laid_abacus_table_widths)]
theorem arr_read24 {W : World} {g : Nat} {t e : TypeId} {n : Nat} {nm : String} {D : List (DataW Unit)} {rest : List (String × DataW Unit)} (V : Nat → Value) (hg : Tryd.prog.globalNamed nm = some g) (ht : (Tryd.prog.globals[g]?).map (·.type) = some t) (hu : Tryd.prog.underlying t = some (.array n e)) (hc : Tryd.prog.cellsOf e = 1) (hct : Tryd.prog.cellsOf t = n)
    (hV : ∀ (i : Nat) (w : World) (fuel : Nat) (base : Nat) (spare : Nat → Bool) (enc : TypeId × Value → Unit) (l : List Value) (x : DataW Unit × List MemPlace), i < n → l.length = 1 → D[i]? = some x.1 → DataW.trod enc Tryd.prog w base spare false fuel e l = some x → l = [V i])
    (hD : D.length = n) (h : laidMet Tryd.prog ((nm, .agg D) :: rest) W) : ∀ i, i < n → W.cell? ⟨g, i, none⟩ = some (V i) := by
  obtain ⟨ps, ⟨g', t', cs, fuel, p, q, hg', ht', hvar, hd, _, _⟩, _⟩ := h
  obtain rfl := Option.some.inj (hg.symm.trans hg')
  obtain rfl := Option.some.inj (ht.symm.trans ht')
  obtain ⟨xs, m, rfl, hx, hl, hxl, hel⟩ := DataW.trod_array hu hd
  rw [hc] at hel
  rw [hct] at hl
  intro i hi
  have hx1 := congrArg Prod.fst hx
  simp at hx1
  have he := hel i hi
  have hix : i < xs.length := by omega
  rw [List.getElem?_eq_getElem hix] at he
  have hdi : D[i]? = some (xs[i]).1 := by rw [hx1, List.getElem?_map, List.getElem?_eq_getElem hix]; rfl
  have hv := hV i _ _ _ _ _ _ _ hi (by rw [List.length_take, List.length_drop]; omega) hdi he
  rw [World.var?_cell hg hvar i]
  have e1 : cs.toList[i]? = ((cs.toList.drop (i * 1)).take 1)[0]? := by rw [List.getElem?_take, if_pos (by decide), List.getElem?_drop]; congr 1; omega
  rw [hv] at e1
  simpa using e1
theorem of_fixed24 {W : World} {rest : List (String × DataW Unit)} (h : laidMet Tryd.prog (("abacus/table.fixed", Rows.laid_abacus_table_fixed) :: rest) W) : ∀ i, i < 10 → W.cell? ⟨1, i, none⟩ = some (.int .u32 (fxN i : Nat)) :=
  arr_read24 (t := 97) (e := 22) (fun i => .int .u32 (fxN i : Nat)) (by kernel_rfl) (by kernel_rfl) Tryd.underlying97 (by kernel_rfl) (by kernel_rfl) (fun i w fuel base spare enc l x hi hl hd hx => by
    refine int_read24 Tryd.underlying22 hx ?_ hl
    rcases (show i = 0 ∨ i = 1 ∨ i = 2 ∨ i = 3 ∨ i = 4 ∨ i = 5 ∨ i = 6 ∨ i = 7 ∨ i = 8 ∨ i = 9 by omega) with rfl | rfl | rfl | rfl | rfl | rfl | rfl | rfl | rfl | rfl <;> exact (Option.some.inj hd).symm) rfl h
theorem of_widths24 {W : World} {rest : List (String × DataW Unit)} (h : laidMet Tryd.prog (("abacus/table.widths", Rows.laid_abacus_table_widths) :: rest) W) : ∀ i, i < 4 → W.cell? ⟨2, i, none⟩ = some (.int .u8 (wdN i : Nat)) :=
  arr_read24 (t := 79) (e := 5) (fun i => .int .u8 (wdN i : Nat)) (by kernel_rfl) (by kernel_rfl) Tryd.underlying79 (by kernel_rfl) (by kernel_rfl) (fun i w fuel base spare enc l x hi hl hd hx => by
    refine int_read24 Tryd.underlying5 hx ?_ hl
    rcases (show i = 0 ∨ i = 1 ∨ i = 2 ∨ i = 3 by omega) with rfl | rfl | rfl | rfl <;> exact (Option.some.inj hd).symm) rfl h
def plD (p : Pl) : DataW Unit := .agg [.lit (.string p.nm), .lit (.int .u8 (p.opc : Nat)), .lit (.int .u8 (p.rs3 : Nat)), .lit (.int .u8 (p.rm : Nat)), .lit (.int .u8 (p.lay : Nat))]
theorem plans_D : Rows.laid_abacus_table_plans = .slice (plL.map plD) [] := rfl
theorem plan_read24 {w : World} {fuel : Nat} {enc : TypeId × Value → Unit} {base : Nat} {spare : Nat → Bool} {held : Bool} {l : List Value} {p : Pl} {x : DataW Unit × List MemPlace}
    (h : DataW.trod enc Tryd.prog w base spare held fuel 91 l = some x) (hx : x.1 = plD p) : l = (plV (plB p)).toList := by
  have hc5 : Tryd.prog.cellsOf 5 = 1 := by kernel_rfl
  have hc9 : Tryd.prog.cellsOf 9 = 1 := by kernel_rfl
  have hcl : Tryd.prog.cellsOf 50 = 1 := by kernel_rfl
  have hcp : Tryd.prog.cellsOf 91 = 5 := by kernel_rfl
  obtain ⟨xs, n, rfl, rfl, hl, hlen, hf⟩ := DataW.trod_struct Tryd.underlying91 h
  rw [hcp] at hl
  obtain ⟨c0, c1, c2, c3, c4, rfl⟩ := list5y l hl
  match xs, hlen with
  | [y0, y1, y2, y3, y4], _ =>
    have g0 : DataW.trod enc Tryd.prog w base spare held n 9 (([c0, c1, c2, c3, c4].drop 0).take (Tryd.prog.cellsOf 9)) = some y0 := hf 0 _ rfl
    have g1 : DataW.trod enc Tryd.prog w base spare held n 5 (([c0, c1, c2, c3, c4].drop 1).take (Tryd.prog.cellsOf 5)) = some y1 := hf 1 _ rfl
    have g2 : DataW.trod enc Tryd.prog w base spare held n 5 (([c0, c1, c2, c3, c4].drop 2).take (Tryd.prog.cellsOf 5)) = some y2 := hf 2 _ rfl
    have g3 : DataW.trod enc Tryd.prog w base spare held n 5 (([c0, c1, c2, c3, c4].drop 3).take (Tryd.prog.cellsOf 5)) = some y3 := hf 3 _ rfl
    have g4 : DataW.trod enc Tryd.prog w base spare held n 50 (([c0, c1, c2, c3, c4].drop 4).take (Tryd.prog.cellsOf 50)) = some y4 := hf 4 _ rfl
    rw [hc9] at g0
    rw [hc5] at g1 g2 g3
    rw [hcl] at g4
    simp only [plD, List.map_cons, List.map_nil, DataW.agg.injEq, List.cons.injEq, and_true] at hx
    obtain ⟨h0, h1, h2, h3, h4⟩ := hx
    simp only [List.drop_zero, List.drop_succ_cons, List.take_succ_cons, List.take_zero] at g0 g1 g2 g3 g4
    have z0 := str_read24 g0 h0 rfl
    have z1 := int_read24 Tryd.underlying5 g1 h1 rfl
    have z2 := int_read24 Tryd.underlying5 g2 h2 rfl
    have z3 := int_read24 Tryd.underlying5 g3 h3 rfl
    have z4 := int_read24 Tryd.underlying50 g4 h4 rfl
    simp only [List.cons.injEq, and_true] at z0 z1 z2 z3 z4
    rw [z0, z1, z2, z3, z4]
    rfl
theorem cells5y {w : World} {base : Nat} {a : Addr} {l : List Value} (h : w.cells? base a 5 = some l) : ∃ c0 c1 c2 c3 c4, l = [c0, c1, c2, c3, c4] ∧ w.cell? (a.add 0) = some c0 ∧ w.cell? (a.add 1) = some c1 ∧ w.cell? (a.add 2) = some c2 ∧ w.cell? (a.add 3) = some c3 ∧ w.cell? (a.add 4) = some c4 := by
  unfold World.cells? at h
  split at h
  · simp only [show List.range 5 = [0, 1, 2, 3, 4] from rfl, List.mapM_cons, List.mapM_nil, Option.bind_eq_bind, Option.bind_eq_some_iff, Option.pure_def, Option.some.injEq] at h
    obtain ⟨a1, d0, _, ⟨a3, d1, _, ⟨a5, d2, _, ⟨a7, d3, _, ⟨a9, d4, _, rfl, rfl⟩, rfl⟩, rfl⟩, rfl⟩, rfl⟩ := h
    exact ⟨a1, a3, a5, a7, a9, rfl, d0, d1, d2, d3, d4⟩
  · cases h
theorem of_plans24 {W : World} {rest : List (String × DataW Unit)} (h : laidMet Tryd.prog (("abacus/table.plans", Rows.laid_abacus_table_plans) :: rest) W) : ∃ b o cap : Nat, W.cell? ⟨0, 0, none⟩ = some (.slice (some ⟨b, o, none⟩) 32 cap) ∧ ∀ i, i < 32 → PlAt W b (o + i * 5) (plB (plN i)) := by
  have hg0 : Tryd.prog.globalNamed "abacus/table.plans" = some 0 := by kernel_rfl
  have ht0 : (Tryd.prog.globals[0]?).map (·.type) = some 89 := by kernel_rfl
  have hcp : Tryd.prog.cellsOf 91 = 5 := by kernel_rfl
  obtain ⟨ps, ⟨g', t', cs, fuel, p, q, hg', ht', hvar, hd, _, _⟩, _⟩ := h
  obtain rfl := Option.some.inj (hg0.symm.trans hg')
  obtain rfl := Option.some.inj (ht0.symm.trans ht')
  rw [plans_D] at hd
  rcases DataW.trod_slice Tryd.underlying89 hd with ⟨_, hx⟩ | ⟨a, len, cap, elems, rs, n, _, hcs, hx, _, hl, _, hlen, hel, _⟩
  · simp at hx
  · simp only [Prod.mk.injEq, DataW.slice.injEq] at hx
    obtain ⟨⟨hx1, _⟩, _⟩ := hx
    have h32 : len = 32 := by
      rw [← hlen]
      have := congrArg List.length hx1
      exact (by simpa using this.symm : elems.length = plL.length).trans rfl
    subst h32
    have main : ∀ i, i < 32 → ∃ c0 c1 c2 c3 c4, [c0, c1, c2, c3, c4] = (plV (plB (plN i))).toList ∧ W.cell? ((a.add (i * 5)).add 0) = some c0 ∧ W.cell? ((a.add (i * 5)).add 1) = some c1 ∧ W.cell? ((a.add (i * 5)).add 2) = some c2 ∧ W.cell? ((a.add (i * 5)).add 3) = some c3 ∧ W.cell? ((a.add (i * 5)).add 4) = some c4 := by
      intro i hi
      have hE := hel i hi
      rw [hcp] at hE
      have hix : i < elems.length := by omega
      rw [List.getElem?_eq_getElem hix, Option.bind_eq_some_iff] at hE
      obtain ⟨l, h1, h2⟩ := hE
      obtain ⟨c0, c1, c2, c3, c4, rfl, d0, d1, d2, d3, d4⟩ := cells5y h1
      have hp : (elems[i]).1 = plD (plN i) := by
        have q1 : (plL.map plD)[i]? = (elems.map (·.1))[i]? := by rw [hx1]
        rw [List.getElem?_map, List.getElem?_map, List.getElem?_eq_getElem hix, List.getElem?_eq_getElem (show i < plL.length from hi)] at q1
        have q2 : plD (plL[i]'(show i < plL.length from hi)) = (elems[i]).1 := Option.some.inj q1
        rw [← q2]
        unfold plN
        rw [List.getElem?_eq_getElem (show i < plL.length from hi)]
        rfl
      exact ⟨c0, c1, c2, c3, c4, plan_read24 h2 hp, d0, d1, d2, d3, d4⟩
    obtain ⟨_, _, _, _, _, _, s0, _⟩ := main 0 (by decide)
    have hsp : a.spot = none := by
      have := World.cell?_spot s0
      simpa [Addr.add] using this
    obtain ⟨b, o, sp⟩ := a
    simp only at hsp
    subst hsp
    refine ⟨b, o, cap, ?_, fun i hi => ?_⟩
    · rw [World.var?_cell hg0 hvar 0, ← Array.getElem?_toList, hcs]
      rfl
    · obtain ⟨c0, c1, c2, c3, c4, e, d0, d1, d2, d3, d4⟩ := main i hi
      have ad : ∀ j, ((⟨b, o, none⟩ : Addr).add (i * 5)).add j = ⟨b, o + i * 5 + j, none⟩ := fun j => by
        unfold Addr.add
        by_cases h1 : i * 5 = 0 <;> by_cases h2 : j = 0 <;> simp [h1, h2]
      rw [ad] at d0 d1 d2 d3 d4
      simp only [plV, List.cons.injEq, and_true] at e
      obtain ⟨rfl, rfl, rfl, rfl, rfl⟩ := e
      exact ⟨d0, d1, d2, d3, d4⟩
theorem of_laid25 {W : World} (h : laidMetH Tryd.prog laid25L W) : T24 W := by
  rw [MakeChecks.laidMetH_plain _ _ _ (by kernel_rfl)] at h
  have h1 := laidMet.tail h
  have h2 := laidMet.tail h1
  exact ⟨of_fixed24 h, trivial, of_widths24 h2, of_plans24 h1⟩
theorem door_met25 (os : Os) (args : Array Value) : laidMetH Tryd.prog laid25L ((World.doorLaid Tryd.prog 400 os).forCall (fun _ _ => 0) ⟨#[], args, []⟩).memory :=
  laidMetH_of_parts3 (fuel := 8) (laidMet_of_run' 8 (by kernel_rfl) (by kernel_rfl)) (by kernel_rfl) (by kernel_rfl)
end Go.Proofs.YtamlcgmipdcgjaaDoor
