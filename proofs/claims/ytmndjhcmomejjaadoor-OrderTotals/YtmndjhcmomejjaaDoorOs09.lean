/-
  What the functions that the statement reaches return: part 9 (P7, P8).
-/
import Derived.Laws.CopyRow
import Derived.Test.YtmndjhcmomejjaaDoorOs08
namespace Go.Proofs.YtmndjhcmomejjaaDoor
set_option maxRecDepth 100000
set_option maxHeartbeats 40000000
set_option maxRecDepth 100000
open Go.RowKit WMath XMath
set_option linter.unusedSimpArgs false
set_option linter.unusedVariables false
def BT (f : Int) : Type := {p : Nat × Nat // (p.1 < 18446744073709551616 ∧ p.2 < 18446744073709551616) ∧ okP f p = true}
def nB (p : Nat × Nat) : Nat := p.2 + 18446744073709551616 * p.1
def encB (f : Int) (x : BT f) : List Value := [.int .u64 (x.1.1 : Nat), .int .u64 (x.1.2 : Nat)]
def cfB (f : Int) (x y : BT f) : Int := totR f (nB x.1) (nB y.1)
theorem lt_cfB (f : Int) (x y : BT f) : ltOf (cfB f) x y = decide (tk f (nB x.1) < tk f (nB y.1)) := by
  unfold ltOf cfB totR
  have := (sgI_lt (tk f (nB x.1) - tk f (nB y.1))).1
  exact decide_eq_decide.2 (by omega)
theorem swo_cfB (f : Int) : Go.Sort.SWO (ltOf (cfB f)) := {
  irrefl := fun x => by rw [lt_cfB]; exact decide_eq_false (by omega)
  trans := fun x y z h1 h2 => by
    rw [lt_cfB, decide_eq_true_iff] at *
    omega
  ntrans := fun x y z h1 h2 => by
    rw [lt_cfB, decide_eq_false_iff_not] at *
    omega }
theorem bt_fit {f : Int} (h0 : 0 ≤ f) (x : BT f) : Is4 f ∧ Fit f (nB x.1) := okB_yes h0 x.2.2
theorem one_cfB {f : Int} (h0 : 0 ≤ f) (x y : BT f) (h1 : ltOf (cfB f) x y = false) (h2 : ltOf (cfB f) y x = false) : x = y := by
  rw [lt_cfB, decide_eq_false_iff_not] at h1 h2
  have e := tk_inj (bt_fit h0 x).1 (bt_fit h0 x).2 (bt_fit h0 y).2 (by omega)
  obtain ⟨⟨x1, y1⟩, ⟨l1, l2⟩, o1⟩ := x
  obtain ⟨⟨x2, y2⟩, ⟨l3, l4⟩, o2⟩ := y
  unfold nB at e
  simp only at e l1 l2 l3 l4
  have e1 : x1 = x2 := by omega
  have e2 : y1 = y2 := by omega
  subst e1 e2
  rfl
theorem swk_cell {α : Type} [Inhabited α] (enc : α → List Value) (k : Nat) (w : World) (blk off m : Nat) (dk : Array α) (os : Array Obj) (a : Addr) (h : a.block ≠ blk) (hb : a.block < w.heap.size) : (sortWorldK enc k w blk off m dk os).cell? a = w.cell? a := by
  unfold sortWorldK
  rw [Go.Sort.cell?_grow _ _ _ (by unfold Go.Sort.putRowK Go.Sort.putRow Go.Sort.mapBlock; simp; exact hb), Go.Sort.cell?_putRowK_other _ _ _ _ _ _ _ h]
  rfl
theorem swk_block {α : Type} [Inhabited α] (enc : α → List Value) (k : Nat) (w : World) (blk off m : Nat) (dk : Array α) (os : Array Obj) (j : Nat) (h : j ≠ blk) (hb : j < w.heap.size) : (sortWorldK enc k w blk off m dk os).heap[j]? = w.heap[j]? := by
  unfold sortWorldK
  rw [Go.Sort.heap_grow_old _ _ (by unfold Go.Sort.putRowK Go.Sort.putRow Go.Sort.mapBlock; simp; exact hb)]
  unfold Go.Sort.putRowK Go.Sort.putRow Go.Sort.mapBlock
  simp only [Array.getElem?_modify]
  rw [if_neg (fun e => h e.symm)]
  rfl
theorem swk_size {α : Type} [Inhabited α] (enc : α → List Value) (k : Nat) (w : World) (blk off m : Nat) (dk : Array α) (os : Array Obj) : w.heap.size ≤ (sortWorldK enc k w blk off m dk os).heap.size := by
  unfold sortWorldK Go.Sort.grow Go.Sort.putRowK Go.Sort.putRow Go.Sort.mapBlock Go.Sort.ahead
  simp
theorem swk_row {α : Type} [Inhabited α] (enc : α → List Value) (k : Nat) (w : World) (blk off m : Nat) (dk : Array α) (os : Array Obj) (c : Array Value) (T : TypeId) (row : w.heap[blk]? = some (.cells c T)) : ∃ c', (sortWorldK enc k w blk off m dk os).heap[blk]? = some (.cells c' T) := by
  have hb := (Array.getElem?_eq_some_iff.1 row).1
  unfold sortWorldK
  rw [Go.Sort.heap_grow_old _ _ (by unfold Go.Sort.putRowK Go.Sort.putRow Go.Sort.mapBlock; simp; exact hb)]
  unfold Go.Sort.putRowK Go.Sort.putRow Go.Sort.mapBlock
  simp only [Array.getElem?_modify, if_true]
  have row2 : (Go.Sort.ahead w m).heap[blk]? = some (.cells c T) := row
  rw [row2]
  exact ⟨_, rfl⟩
set_option maxRecDepth 100000 in
set_option maxHeartbeats 8000000 in
theorem od_clo (f : Int) (x1 y1 x2 y2 B : Nat) (t : Int) (w : World) (hB : w.cell? ⟨B, 0, none⟩ = some (.int .u8 f))
    (KT : Box (∀ w, FAt w → Calls Tryd.prog 40 #[.int .u8 f, .agg #[.int .u64 (x1 : Nat), .int .u64 (y1 : Nat)], .agg #[.int .u64 (x2 : Nat), .int .u64 (y2 : Nat)]] w fun r w' => r = .returned (.int .i64 t) ∧ Bed w.heap.size w w')) (hT : FAt w) :
    Calls Tryd.prog 39 #[.agg #[.int .u64 (x1 : Nat), .int .u64 (y1 : Nat)], .agg #[.int .u64 (x2 : Nat), .int .u64 (y2 : Nat)], .pointer (some ⟨B, 0, none⟩)] w fun r w' => r = .returned (.int .i64 t) ∧ Bed w.heap.size w w' := by
  have FF := box hT
  obtain ⟨Ra_0, Rb_0, B0⟩ := opn2d w (Obj.cells #[.int .u64 (x1 : Nat), .int .u64 (y1 : Nat)] 25) (Obj.cells #[.int .u64 (x2 : Nat), .int .u64 (y2 : Nat)] 25)
  have cf := (B0.1.cell (p := ⟨B, 0, none⟩) (World.block_lt_of_cell? w _ hB)).trans hB
  obtain ⟨ca_0, ca_1⟩ := cells2s Ra_0
  obtain ⟨cb_0, cb_1⟩ := cells2s Rb_0
  clear hT hB Ra_0 Rb_0
  go_enter Tryd.func39, Tryd.ntmps39
  go_wp2_with fail
  refine (KT.out _ (fatBd FF.out B0)).mono ?_
  rintro r w1 ⟨rfl, b1⟩
  go_wp2
  go_ret
  exact ⟨rfl, btrd B0 b1⟩
theorem cmp_lays (f : Int) (h0 : 0 ≤ f) (ih : Inhabited (BT f)) (B blk off size : Nat) (w : World) (hT : FAt w) (hB : w.cell? ⟨B, 0, none⟩ = some (.int .u8 f)) (h1 : B ≠ blk) (h2 : 0 ≠ blk) :
    CmpLays Tryd.prog 39 #[.pointer (some ⟨B, 0, none⟩)] (encB f) 2 (cfB f) blk off size w := fun m os dk hdk x y => by
  have hB2 : (sortWorldK (encB f) 2 w blk off m dk os).cell? ⟨B, 0, none⟩ = some (.int .u8 f) := (swk_cell _ _ _ _ _ _ _ _ ⟨B, 0, none⟩ h1 (World.block_lt_of_cell? w _ hB)).trans hB
  have hT2 : FAt (sortWorldK (encB f) 2 w blk off m dk os) := fun i hi => by
    obtain ⟨v, hv⟩ := fc_some i hi
    have c := (hT i hi).trans hv
    rw [swk_cell _ _ _ _ _ _ _ _ ⟨0, i, none⟩ h2 (World.block_lt_of_cell? w _ c)]
    exact hT i hi
  obtain ⟨⟨x1, y1⟩, ⟨l1, l2⟩, o1⟩ := x
  obtain ⟨⟨x2, y2⟩, ⟨l3, l4⟩, o2⟩ := y
  simp only at l1 l2 l3 l4
  have hf := (okB_yes h0 o1).1
  refine (od_clo f x1 y1 x2 y2 B _ _ hB2 (box (fun w hT => ktotal_d f hf x1 y1 _ x2 y2 _ l1 l2 rfl l3 l4 rfl o1 o2 _ rfl w hT)) hT2).mono ?_
  rintro e w' ⟨rfl, b⟩
  exact ⟨rfl, bed_grow b⟩
theorem lift_list {f : Int} : ∀ (l : List (Nat × Nat)), (∀ p ∈ l, (p.1 < 18446744073709551616 ∧ p.2 < 18446744073709551616) ∧ okP f p = true) → ∃ d : List (BT f), d.map (fun x => x.1) = l
  | [], _ => ⟨[], rfl⟩
  | p :: t, h => by
    obtain ⟨d, hd⟩ := lift_list t (fun q hq => h q (List.mem_cons_of_mem _ hq))
    exact ⟨⟨p, h p (List.mem_cons_self ..)⟩ :: d, by show p :: d.map (fun x => x.1) = p :: t; rw [hd]⟩
theorem bls_one (l : List (Nat × Nat)) : ∀ v ∈ (bls l).toList, v.oneCell' = true := fun v hv => by
  obtain ⟨j, hj⟩ := List.mem_iff_getElem?.1 hv
  rw [Array.getElem?_toList, bls_get] at hj
  obtain ⟨p, _, rfl⟩ := Option.map_eq_some_iff.1 hj
  split <;> rfl
theorem copy_bls (l : List (Nat × Nat)) (L g b o c : Nat) (w : World) (hl : l.length = L) (row : w.heap[g]? = some (.cells (bls (List.replicate L (0, 0))) 25)) (HC : ∀ k p, l[k]? = some p → w.cell? ⟨b, o + k * 2, none⟩ = some (.int .u64 (p.1 : Nat)) ∧ w.cell? ⟨b, o + k * 2 + 1, none⟩ = some (.int .u64 (p.2 : Nat))) (ty : TypeId) :
    (Builtin.copy_ #[34, 34] ty #[.slice (some ⟨g, 0, none⟩) L L, .slice (some ⟨b, o, none⟩) L c]).run Tryd.prog w = .ok (goInt L) (w.setRow g (bls l)) := by
  have hsz : (Tryd.prog.info? 25).map (·.size) = some 2 := by kernel_rfl
  have hlen : (bls l).toList.length = L * 2 := by rw [Array.length_toList, bls_size, hl]
  have hadd : ∀ j, (⟨b, o, none⟩ : Addr).add j = ⟨b, o + j, none⟩ := fun j => by unfold Addr.add; split <;> simp_all
  have hld := run_loadCells_list (P := Tryd.prog) w ⟨b, o, none⟩ (bls l).toList (fun j v hv => by
    rw [Array.getElem?_toList, bls_get] at hv
    obtain ⟨p, hp, rfl⟩ := Option.map_eq_some_iff.1 hv
    obtain ⟨c1, c2⟩ := HC _ p hp
    rw [hadd]
    by_cases e : j % 2 = 0
    · rw [if_pos e]
      rw [show j / 2 * 2 = j by omega] at c1
      exact c1
    · rw [if_neg e]
      rw [Nat.add_assoc, show j / 2 * 2 + 1 = j by omega] at c2
      exact c2)
  have hst := run_storeCells_at Tryd.prog g 0 25 (bls l).toList 0 (bls (List.replicate L (0, 0))) w row (by rw [hlen, bls_size, List.length_replicate]; omega) (bls_one l)
  rw [hlen] at hld hst
  have e : (List.take (0 + 0) (bls (List.replicate L (0, 0))).toList ++ (bls l).toList ++ List.drop (0 + 0 + L * 2) (bls (List.replicate L (0, 0))).toList).toArray = bls l := by
    rw [Nat.zero_add, Nat.zero_add, List.take_zero, List.nil_append, List.drop_eq_nil_of_le (by rw [Array.length_toList, bls_size, List.length_replicate]; exact Nat.le_refl _), List.append_nil]
  rw [e] at hst
  cases hq : Tryd.prog.info? 25 with
  | none => rw [hq] at hsz; simp at hsz
  | some i =>
    have hi : i.size = 2 := by simpa [hq] using hsz
    simp [Builtin.copy_, run_underlying Tryd.underlying34, Builtin.lenOf, Builtin.firstCells, sizeOf, typeInfo, hq, hi, hld, hst]
theorem copy_none (o : Option Addr) (g c : Nat) (w : World) (ty : TypeId) :
    (Builtin.copy_ #[34, 34] ty #[.slice (some ⟨g, 0, none⟩) 0 0, .slice o 0 c]).run Tryd.prog w = .ok (goInt 0) w := by
  have hsz : (Tryd.prog.info? 25).map (·.size) = some 2 := by kernel_rfl
  cases hq : Tryd.prog.info? 25 with
  | none => rw [hq] at hsz; simp at hsz
  | some i =>
    rcases o with _ | o
    · simp [Builtin.copy_, run_underlying Tryd.underlying34, Builtin.lenOf, Builtin.firstCells, sizeOf, typeInfo, hq, storeCells]
    · simp [Builtin.copy_, run_underlying Tryd.underlying34, Builtin.lenOf, Builtin.firstCells, sizeOf, typeInfo, hq, storeCells, loadCells, loadCellsFrom]
theorem rise_pair (tot : Nat × Nat → Nat × Nat → Int) : ∀ (s : List (Nat × Nat)), s.Pairwise (fun x y => tot x y ≤ 0) → rise tot s
  | [], _ => trivial
  | x :: t, h => by
    obtain ⟨h1, h2⟩ := List.pairwise_cons.1 h
    exact ⟨h1, rise_pair tot t h2⟩
def totP (f : Int) (p q : Nat × Nat) : Int := totR f (nB p) (nB q)
theorem sorted_is {f : Int} (h0 : 0 ≤ f) (l : List (Nat × Nat)) (d : List (BT f)) (hd : d.map (fun x => x.1) = l) : (d.mergeSort fun x y => !ltOf (cfB f) y x).map (fun x => x.1) = srt (totP f) [] l := by
  have tq : ∀ x y : BT f, (!ltOf (cfB f) y x) = true ↔ totP f x.1 y.1 ≤ 0 := fun x y => by
    rw [lt_cfB, Bool.not_eq_true', decide_eq_false_iff_not]
    unfold totP
    rw [totR_le]
    omega
  have pw := List.pairwise_mergeSort (le := fun x y => !ltOf (cfB f) y x) (fun a b c h1 h2 => by
    rw [lt_cfB, Bool.not_eq_true', decide_eq_false_iff_not] at *
    omega) (fun a b => by
    rw [lt_cfB, lt_cfB, Bool.or_eq_true, Bool.not_eq_true', Bool.not_eq_true', decide_eq_false_iff_not, decide_eq_false_iff_not]
    omega) d
  have pm := (List.mergeSort_perm d fun x y => !ltOf (cfB f) y x).map (fun x : BT f => x.1)
  rw [hd] at pm
  refine srt_one (totP f) (fun p => (p.1 < 18446744073709551616 ∧ p.2 < 18446744073709551616) ∧ okP f p = true) (fun x y => by unfold totP; rw [totR_turn]) (fun x y z => totR_trans f _ _ _) (fun x y hx hy h => ?_) l _ (fun x hx => ?_) (rise_pair _ _ ?_) pm
  · have e := (totR_zero (okB_yes h0 hx.2).1 (okB_yes h0 hx.2).2 (okB_yes h0 hy.2).2).1 h
    obtain ⟨x1, y1⟩ := x
    obtain ⟨x2, y2⟩ := y
    obtain ⟨⟨l1, l2⟩, o1⟩ := hx
    obtain ⟨⟨l3, l4⟩, o2⟩ := hy
    simp only at e l1 l2 l3 l4
    have e1 : x1 = x2 := by omega
    have e2 : y1 = y2 := by omega
    rw [e1, e2]
  · rw [← hd] at hx
    obtain ⟨y, _, rfl⟩ := List.mem_map.1 hx
    exact y.2
  · rw [List.pairwise_map]
    exact pw.imp (fun {a b} h => (tq a b).1 h)
set_option maxRecDepth 100000 in
set_option maxHeartbeats 8000000 in
theorem kSort_no (f : Int) (sv : Value) (w : World) (KM : Box (∀ w, FAt w → Calls Tryd.prog 25 #[.int .u8 f, sv] w fun r w' => r = .returned (.bool false) ∧ Below w.heap.size w w')) (hT : FAt w) : Calls Tryd.prog 20 #[.int .u8 f, sv] w fun r w' => ∃ (os : Option Addr) (cs : Nat), r = .returned (.tuple #[.slice os 0 cs, .int .i64 2]) ∧ Below w.heap.size w w' := by
  have FF := box hT
  obtain ⟨Rf, B0⟩ := opn1 w (Obj.cells #[.int .u8 f] 22)
  have cf := cell7 Rf 0 (.int .u8 f) rfl
  clear hT Rf
  go_enter Tryd.func20, Tryd.ntmps20
  go_wp2_with fail
  refine (KM.out _ (fatB FF.out B0)).mono ?_
  rintro r w1 ⟨rfl, b1⟩
  go_wp2
  go_ret2
  exact ⟨_, _, rfl, btr B0 b1⟩
set_option maxRecDepth 100000 in
set_option maxHeartbeats 8000000 in
theorem kSort_nob (f : Int) (l : List (Nat × Nat)) (L g z c : Nat) (w : World) (hl : l.length = L) (hL : L ≤ 1000) (hb : Box (∀ p ∈ l, p.1 < 18446744073709551616 ∧ p.2 < 18446744073709551616)) (HC : Box (∀ W, Below w.heap.size w W → ∀ k p, l[k]? = some p → W.cell? ⟨g, z + k * 2, none⟩ = some (.int .u64 (p.1 : Nat)) ∧ W.cell? ⟨g, z + k * 2 + 1, none⟩ = some (.int .u64 (p.2 : Nat))))
    (KM : Box (∀ W, FAt W → Below w.heap.size w W → Calls Tryd.prog 25 #[.int .u8 f, .slice (some ⟨g, z, none⟩) L c] W fun r w' => r = .returned (.bool false) ∧ Below W.heap.size W w')) (hT : FAt w) : Calls Tryd.prog 20 #[.int .u8 f, .slice (some ⟨g, z, none⟩) L c] w fun r w' => ∃ (os : Option Addr) (cs : Nat), r = .returned (.tuple #[.slice os 0 cs, .int .i64 2]) ∧ Below w.heap.size w w' := by
  have FF := box hT
  obtain ⟨Rf, B0⟩ := opn1 w (Obj.cells #[.int .u8 f] 22)
  have cf := cell7 Rf 0 (.int .u8 f) rfl
  clear hT Rf
  go_enter Tryd.func20, Tryd.ntmps20
  go_wp2_with fail
  refine (KM.out _ (fatB FF.out B0) B0).mono ?_
  rintro r w1 ⟨rfl, b1⟩
  go_wp2
  go_ret2
  exact ⟨_, _, rfl, btr B0 b1⟩
set_option maxRecDepth 100000 in
set_option maxHeartbeats 8000000 in
theorem kSort_zero (f : Int) (o : Option Addr) (c : Nat) (w : World) (KM : Box (∀ w, FAt w → Calls Tryd.prog 25 #[.int .u8 f, .slice o 0 c] w fun r w' => r = .returned (.bool true) ∧ Below w.heap.size w w')) (hT : FAt w) : Calls Tryd.prog 20 #[.int .u8 f, .slice o 0 c] w fun r w' => ∃ (os : Option Addr) (cs : Nat), r = .returned (.tuple #[.slice os 0 cs, .int .i64 0]) ∧ Below w.heap.size w w' := by
  have FF := box hT
  have hmk : ∀ w, (Instr.makeSlice 34 (.int .i64 0) (.int .i64 0)).run Tryd.prog w = .ok (.slice (some ⟨w.heap.size, 0, none⟩) 0 0) (w.alloc (.cells (bls (List.replicate 0 (0, 0))) 25)) := bl_make 0 (by decide)
  have hcp := copy_none o
  have KS : Box (∀ (p : Option Addr) (cap : Nat) (fv : Value) (w : World), Calls Tryd.prog 38 #[.slice p 0 cap, fv] w fun e w' => e = .returned (.tuple #[]) ∧ w' = w) := box (fun p cap fv w => AnyF.slices_SortFunc_none Tryd.laysSortFunc p cap fv w)
  obtain ⟨Rf, B0⟩ := opn1 w (Obj.cells #[.int .u8 f] 22)
  have cf := cell7 Rf 0 (.int .u8 f) rfl
  clear hT Rf
  go_enter Tryd.func20, Tryd.ntmps20
  go_wp2_with fail
  refine (KM.out _ (fatB FF.out B0)).mono ?_
  rintro r w1 ⟨rfl, b1⟩
  have BP := btr (btr B0 b1) (bal w1 (.cells (bls (List.replicate 0 (0, 0))) 25))
  clear B0 b1
  go_wp2_with fail
  refine (KS.out _ _ _ _).mono ?_
  rintro r w2 ⟨rfl, rfl⟩
  go_wp2
  go_ret2
  exact ⟨_, _, rfl, BP⟩
set_option maxRecDepth 100000 in
set_option maxHeartbeats 8000000 in
theorem kSort_some (f : Int) (hf : Is4 f) (l : List (Nat × Nat)) (L g z c : Nat) (w : World) (hl : l.length = L) (p1 : 1 ≤ L) (hL : L ≤ 1000) (hb : Box (∀ p ∈ l, (p.1 < 18446744073709551616 ∧ p.2 < 18446744073709551616) ∧ okP f p = true))
    (HC : Box (∀ W, Below w.heap.size w W → ∀ k p, l[k]? = some p → W.cell? ⟨g, z + k * 2, none⟩ = some (.int .u64 (p.1 : Nat)) ∧ W.cell? ⟨g, z + k * 2 + 1, none⟩ = some (.int .u64 (p.2 : Nat))))
    (KM : Box (∀ W, FAt W → Below w.heap.size w W → Calls Tryd.prog 25 #[.int .u8 f, .slice (some ⟨g, z, none⟩) L c] W fun r w' => r = .returned (.bool true) ∧ Below W.heap.size W w')) (hT : FAt w) :
    Calls Tryd.prog 20 #[.int .u8 f, .slice (some ⟨g, z, none⟩) L c] w fun r w' => ∃ (gs cs : Nat) (cur : Array Value), r = .returned (.tuple #[.slice (some ⟨gs, 0, none⟩) L cs, .int .i64 0]) ∧ w.heap.size ≤ gs ∧ L ≤ cs ∧ w'.heap[gs]? = some (.cells cur 25) ∧ Box (∀ k p, (srt (totP f) [] l)[k]? = some p → cur[k * 2]? = some (.int .u64 (p.1 : Nat)) ∧ cur[k * 2 + 1]? = some (.int .u64 (p.2 : Nat))) ∧ Below w.heap.size w w' := by
  have FF := box hT
  have h0 := (is4_ok hf).1
  obtain ⟨d, hd⟩ := lift_list l hb.out
  have dl : d.length = L := by rw [← hl, ← hd, List.length_map]
  have ih : Inhabited (BT f) := ⟨d[0]'(by omega)⟩
  have hmk := bl_make L hL
  have KS : Box (∀ (B blk : Nat) (W : World), FAt W → W.cell? ⟨B, 0, none⟩ = some (.int .u8 f) → B ≠ blk → 0 ≠ blk → W.heap[blk]? = some (.cells (bls l) 25) → Calls Tryd.prog 38 #[.slice (some ⟨blk, 0, none⟩) L L, .func (.func 39) #[] #[.pointer (some ⟨B, 0, none⟩)]] W fun e w' => e = .returned (.tuple #[]) ∧ (∃ cur, w'.heap[blk]? = some (.cells cur 25) ∧ Box (∀ k p, (srt (totP f) [] l)[k]? = some p → cur[k * 2]? = some (.int .u64 (p.1 : Nat)) ∧ cur[k * 2 + 1]? = some (.int .u64 (p.2 : Nat)))) ∧ (∀ V : World, V.heap.size ≤ blk → Below V.heap.size V W → Below V.heap.size V w')) := box (fun B blk W hT hB n1 n2 row => by
    have hH : Go.Sort.HoldsK (encB f) 2 W blk 0 d.toArray := fun j hj => by
      rw [Go.Sort.size_flatK, List.size_toArray] at hj
      have hk : j / 2 < d.length := by omega
      refine ⟨?_, fz row⟩
      rw [Go.Sort.get_flatK _ _ _ _ (by rw [List.size_toArray]; exact hj), Nat.zero_add, cell_of_row W blk j _ _ _ row, bls_get, ← hd, List.getElem?_map, List.getElem?_eq_getElem hk, Option.map_some, Option.map_some]
      have e : d.toArray[j / 2]! = d[j / 2] := by rw [getElem!_pos d.toArray (j / 2) (by rw [List.size_toArray]; exact hk)]; rfl
      rw [e]
      unfold encB
      rcases Nat.mod_two_eq_zero_or_one j with q | q <;> rw [q] <;> rfl
    have hblk := (Array.getElem?_eq_some_iff.1 row).1
    have con := AnyQ.slices_SortFunc_total Tryd.laysSortFunc 2 Tryd.isAgg25 Tryd.sizeOf25 (encB f) (fun _ => rfl) (fun x v hv => by simp [encB] at hv; rcases hv with rfl | rfl <;> rfl) (cfB f) (swo_cfB f) 39 #[.pointer (some ⟨B, 0, none⟩)] blk 0 L d.toArray W (enters_of Tryd.func39 (by kernel_rfl) rfl) (cmp_lays f h0 ih B blk 0 _ W hT hB n1 n2) hH hblk (by rw [List.size_toArray]; omega) (fun x y => one_cfB h0 x y)
    rw [List.size_toArray, dl] at con
    refine Calls.mono (show Calls Tryd.prog 38 _ _ _ from con) ?_
    rintro e w' ⟨rfl, n, os, rfl⟩
    obtain ⟨cur, hcur⟩ := swk_row (encB f) 2 W blk 0 n (d.mergeSort fun x y => !ltOf (cfB f) y x).toArray os _ _ row
    have sl : (d.mergeSort fun x y => !ltOf (cfB f) y x).length = d.length := List.length_mergeSort d
    have hD : Go.Sort.HoldsK (encB f) 2 (sortWorldK (encB f) 2 W blk 0 n (d.mergeSort fun x y => !ltOf (cfB f) y x).toArray os) blk 0 (d.mergeSort fun x y => !ltOf (cfB f) y x).toArray := by
      unfold sortWorldK
      exact Go.Sort.holdsK_grow _ _ _ _ _ _ _ (by unfold Go.Sort.putRowK Go.Sort.putRow Go.Sort.mapBlock Go.Sort.ahead; simp; exact hblk) (Go.Sort.holdsK_putRowK _ _ _ _ _ _ _ (Go.Sort.holdsK_ahead _ _ _ _ _ _ _ hH) (by rw [List.size_toArray, List.size_toArray, sl]))
    refine ⟨rfl, ⟨cur, hcur, box (fun k p hk => ?_)⟩, fun V hV bV => ⟨bV.os, bV.tape, bV.output, Nat.le_trans bV.size (swk_size _ _ _ _ _ _ _ _), fun j hj => ?_⟩⟩
    · rw [← sorted_is h0 l d hd, List.getElem?_map] at hk
      obtain ⟨x, hx, rfl⟩ := Option.map_eq_some_iff.1 hk
      have kl := (List.getElem?_eq_some_iff.1 hx).1
      have gx : (d.mergeSort fun x y => !ltOf (cfB f) y x).toArray[k]! = x := by
        rw [getElem!_pos _ k (by rw [List.size_toArray]; exact kl), List.getElem_toArray]
        exact (List.getElem?_eq_some_iff.1 hx).2
      have c0 := (hD.cell (i := k) (c := 0) (by rw [List.size_toArray]; exact kl) (by decide)).1
      have c1 := (hD.cell (i := k) (c := 1) (by rw [List.size_toArray]; exact kl) (by decide)).1
      rw [gx, cell_of_row _ blk _ _ _ _ hcur] at c0 c1
      rw [Nat.zero_add] at c0 c1
      exact ⟨c0, c1⟩
    · rw [swk_block _ _ _ _ _ _ _ _ j (by omega) (Nat.lt_of_lt_of_le hj bV.size)]
      exact bV.block j hj)
  obtain ⟨Rf, B0⟩ := opn1 w (Obj.cells #[.int .u8 f] 22)
  have cf := cell7 Rf 0 (.int .u8 f) rfl
  have z0 : Box (0 < w.heap.size) := box (by
    obtain ⟨v, hv⟩ := fc_some 0 (by decide)
    have := World.block_lt_of_cell? w _ ((hT 0 (by decide)).trans hv)
    exact this)
  have HL := box hl
  have HD := box dl
  clear hT hl dl
  go_enter Tryd.func20, Tryd.ntmps20
  go_wp2_with fail
  refine (KM.out _ (fatB FF.out B0) B0).mono ?_
  rintro r w1 ⟨rfl, b1⟩
  have B1 := btr B0 b1
  have R1 := heap_of b1 _ _ _ Rf
  obtain ⟨n1, hn1⟩ : ∃ n, w1.heap.size = n := ⟨_, rfl⟩
  have r2 : (w1.alloc (.cells (bls (List.replicate L (0, 0))) 25)).heap[w1.heap.size]? = some (.cells (bls (List.replicate L (0, 0))) 25) := heap_alloc_last _ _
  have B2 := btr B1 (bal w1 (.cells (bls (List.replicate L (0, 0))) 25))
  have hcp := copy_bls l L w1.heap.size g z c (w1.alloc (.cells (bls (List.replicate L (0, 0))) 25)) HL.out r2 (HC.out _ B2)
  have lt : w.heap.size < w1.heap.size := (Array.getElem?_eq_some_iff.1 R1).1
  obtain ⟨W3, hW3⟩ : ∃ V, (w1.alloc (.cells (bls (List.replicate L (0, 0))) 25)).setRow w1.heap.size (bls l) = V := ⟨_, rfl⟩
  rw [hW3] at hcp
  have r3 : W3.heap[w1.heap.size]? = some (.cells (bls l) 25) := by rw [← hW3]; exact setRow_row r2
  have rf3 : W3.heap[w.heap.size]? = some (.cells #[.int .u8 f] 22) := by rw [← hW3, setRow_other (by omega)]; exact heap_of (bal _ _) _ _ _ R1
  have B3 : Below w.heap.size w W3 := by rw [← hW3]; exact Below.setRow B2 (Nat.le_of_lt lt)
  have K3 := box (KS.out w.heap.size w1.heap.size W3 (fatB FF.out B3) (cell7 rf3 0 _ rfl) (by omega) (by have := z0.out; omega) r3)
  have LT := box lt
  clear B0 b1 B1 R1 Rf r2 B2 hW3 r3 rf3 hn1 KS lt n1
  go_wp2_with fail
  refine K3.out.mono ?_
  rintro r w4 ⟨rfl, ⟨cur, hcur, hs⟩, hB⟩
  have B4 := hB w (Nat.le_of_lt LT.out) B3
  have LE := Nat.le_of_lt LT.out
  clear hB B3 cf
  go_wp2
  go_ret2
  exact ⟨w1.heap.size, L, cur, rfl, LE, Nat.le_refl _, hcur, hs, B4⟩
theorem lat_cases {w : World} {v : Value} (h : LAt w v) : ∃ (l : List (Nat × Nat)) (L : Nat), l.length = L ∧ (∀ p ∈ l, p.1 < 18446744073709551616 ∧ p.2 < 18446744073709551616) ∧ ((L = 0 ∧ v = .slice none 0 0) ∨ (∃ (o : Addr) (c : Nat), L = 0 ∧ v = .slice (some o) 0 c) ∨ (∃ (g z c : Nat), 1 ≤ L ∧ L ≤ c ∧ v = .slice (some ⟨g, z, none⟩) L c ∧ Box (∀ W, Below w.heap.size w W → ∀ k p, l[k]? = some p → W.cell? ⟨g, z + k * 2, none⟩ = some (.int .u64 (p.1 : Nat)) ∧ W.cell? ⟨g, z + k * 2 + 1, none⟩ = some (.int .u64 (p.2 : Nat))))) := by
  rcases h with rfl | ⟨a, l, L, c, rfl, hl, hc, ha, hb, HC⟩
  · exact ⟨[], 0, rfl, fun p hp => absurd hp List.not_mem_nil, Or.inl ⟨rfl, rfl⟩⟩
  · refine ⟨l, L, hl, hb, Or.inr ?_⟩
    rcases Nat.eq_zero_or_pos L with z | z
    · subst z
      exact Or.inl ⟨a, c, rfl, rfl⟩
    · obtain ⟨g, o, sp⟩ := a
      obtain rfl : sp = none := ha.resolve_left (by omega)
      exact Or.inr ⟨g, o, c, z, hc, rfl, box (fun W bW k p hk => ⟨cellB bW (HC k p hk).1, cellB bW (HC k p hk).2⟩)⟩
set_option maxRecDepth 100000 in
set_option maxHeartbeats 8000000 in
theorem rso_nil (f : Int) (ao : Option Addr) (c : Nat) (w : World) : Calls Tryd.prog 21 #[.int .u8 f, .slice ao 0 c] w fun r w' => ∃ (os : Option Addr) (cs : Nat), r = .returned (.slice os 0 cs) ∧ Below w.heap.size w w' := by
  have hmk : ∀ w, (Instr.makeSlice 34 (.int .i64 0) (.int .i64 0)).run Tryd.prog w = .ok (.slice (some ⟨w.heap.size, 0, none⟩) 0 0) (w.alloc (.cells (bls (List.replicate 0 (0, 0))) 25)) := bl_make 0 (by decide)
  go_enter Tryd.func21, Tryd.ntmps21
  go_wp2
  refine wp_loop_rounds 1 ?_
  rw [rounds_succ]
  go_wp2
  go_ret
  exact ⟨_, _, rfl, bal _ _⟩
theorem totals_all (f : Int) (hf : (Lit.int .u8 f).wf = true) (v1 : Value) (w : World) (h1 : LAt w v1) (hT : FAt w) : Calls Tryd.prog 5 #[.int .u8 f, v1] w fun r w' => r = .returned (.bool true) ∧ Below w.heap.size w w' := by
  have b0 := bounds_u8 hf
  have KA := box r16alive
  obtain ⟨l, L, hl, hb, k⟩ := lat_cases h1
  have KR : Box (∀ w, Calls Tryd.prog 29 #[.int .u8 f] w fun r w' => r = .returned (.bool (decide (f ≤ 3))) ∧ Below w.heap.size w w') := box (fun w => bel_same (r_right f _ rfl w))
  by_cases g1 : 60 < L
  · have e1 : ∃ o c, v1 = .slice o L c := by
      rcases k with ⟨e, _⟩ | ⟨o, c, e, _⟩ | ⟨g, z, c, _, _, e, _⟩
      · omega
      · omega
      · exact ⟨_, _, e⟩
    obtain ⟨o1, c1, rfl⟩ := e1
    exact ots_long f o1 L c1 w g1 KA hT
  by_cases z0 : L = 0
  · have k2 : v1 = .slice none 0 0 ∨ ∃ (o : Addr) (c : Nat), v1 = .slice (some o) 0 c := by
      rcases k with ⟨_, e⟩ | ⟨o, c, _, e⟩ | ⟨g, z, c, p, _⟩
      · exact Or.inl e
      · exact Or.inr ⟨o, c, e⟩
      · omega
    by_cases c3 : f ≤ 3
    · rw [decide_eq_true c3] at KR
      have KS : Box (∀ (W : World) (s1 : Value), FAt W → SW l L s1 W → Calls Tryd.prog 20 #[.int .u8 f, s1] W fun r w' => ∃ (os : Option Addr) (cs : Nat), r = .returned (.tuple #[.slice os 0 cs, .int .i64 0]) ∧ Below W.heap.size W w') := box (fun W s1 hT hs => by
        rcases hs with ⟨o, c, _, rfl⟩ | ⟨g, z, c, p, _⟩
        · exact kSort_zero f o c W (box (fun w _ => om_none f b0.1 b0.2 c o true (decide_eq_true c3) w)) hT
        · omega)
      rcases k2 with rfl | ⟨o, c, rfl⟩
      · exact ots_Z f l L z0 w KS (box (fun W _ => r16_nil f none 0 W KR)) (box (fun W _ => rso_nil f none 0 W)) KA hT
      · exact ots_S f l L z0 o c w KS (box (fun W _ => r16_nil f (some o) c W KR)) (box (fun W _ => rso_nil f (some o) c W)) KA hT
    · rw [decide_eq_false c3] at KR
      have KS : Box (∀ (W : World) (s1 : Value), FAt W → SW l L s1 W → Calls Tryd.prog 20 #[.int .u8 f, s1] W fun r w' => ∃ (os : Option Addr) (cs : Nat), r = .returned (.tuple #[.slice os 0 cs, .int .i64 2]) ∧ Below W.heap.size W w') := box (fun W s1 hT hs => by
        rcases hs with ⟨o, c, _, rfl⟩ | ⟨g, z, c, p, _⟩
        · exact kSort_no f _ W (box (fun w _ => om_none f b0.1 b0.2 c o false (decide_eq_false c3) w)) hT
        · omega)
      rcases k2 with rfl | ⟨o, c, rfl⟩
      · exact ots_noZ f l L z0 w KS (box (fun W _ => r16_no f _ W KR)) KA hT
      · exact ots_noS f l L z0 o c w KS (box (fun W _ => r16_no f _ W KR)) KA hT
  · obtain ⟨g, z, c, p1, p2, rfl, HC⟩ : ∃ (g z c : Nat), 1 ≤ L ∧ L ≤ c ∧ v1 = .slice (some ⟨g, z, none⟩) L c ∧ Box (∀ W, Below w.heap.size w W → ∀ k p, l[k]? = some p → W.cell? ⟨g, z + k * 2, none⟩ = some (.int .u64 (p.1 : Nat)) ∧ W.cell? ⟨g, z + k * 2 + 1, none⟩ = some (.int .u64 (p.2 : Nat))) := by
      rcases k with ⟨e, _⟩ | ⟨o, c, e, _⟩ | h
      · omega
      · omega
      · exact h
    have HB := box hb
    obtain ⟨q, e, he, hq, KC⟩ := f4_check f b0.1 b0.2
    have hp : ∃ p, p ∈ l := ⟨l[0]'(by omega), List.getElem_mem _⟩
    obtain ⟨pp, hpp⟩ := hp
    have alq : (l.all (okP f) && q) = l.all (okP f) := by
      cases ha : l.all (okP f)
      · rfl
      · have := List.all_eq_true.1 ha pp hpp
        have c3 := (of_decide_eq_true this).1
        rw [hq, decide_eq_true c3]
        rfl
    have HC2 : ∀ W, Below w.heap.size w W → Box (∀ V, Below W.heap.size W V → ∀ k p, l[k]? = some p → V.cell? ⟨g, z + k * 2, none⟩ = some (.int .u64 (p.1 : Nat)) ∧ V.cell? ⟨g, z + k * 2 + 1, none⟩ = some (.int .u64 (p.2 : Nat))) := fun W bW => box (fun V bV => HC.out V (btr bW bV))
    cases ha : l.all (okP f)
    · have KS : Box (∀ (W : World) (s1 : Value), FAt W → SW l L s1 W → Calls Tryd.prog 20 #[.int .u8 f, s1] W fun r w' => ∃ (os : Option Addr) (cs : Nat), r = .returned (.tuple #[.slice os 0 cs, .int .i64 2]) ∧ Below W.heap.size W w') := box (fun W s1 hT hs => by
        rcases hs with ⟨o, c, e, _⟩ | ⟨g, z, c, _, _, rfl, hcc⟩
        · omega
        · exact kSort_nob f l L g z c W hl (by omega) HB (box hcc) (box (fun V hT bV => om_list f b0.1 b0.2 l L g z c V hl (by omega) HB (box (fun X bX => hcc X (btr bV bX))) q e he KC false (alq.trans ha) hT)) hT)
      have KF : Box (∀ W, Below w.heap.size w W → Calls Tryd.prog 12 #[.int .u8 f, .slice (some ⟨g, z, none⟩) L c] W fun r w' => r = .returned (.bool false) ∧ Below W.heap.size W w') := box (fun W bW => by
        by_cases c3 : f ≤ 3
        · rw [decide_eq_true c3] at KR
          exact r16_list f b0.1 l L g z c W hl (by omega) HB (HC2 W bW) KR false ha
        · rw [decide_eq_false c3] at KR
          exact r16_no f _ W KR)
      exact ots_no f l L w g z c hl p1 (by omega) p2 HC KS KF KA hT
    · have c3 := (of_decide_eq_true (List.all_eq_true.1 ha pp hpp)).1
      have h4 := is4_of b0.1 c3
      rw [decide_eq_true c3] at KR
      have ok : ∀ p ∈ l, (p.1 < 18446744073709551616 ∧ p.2 < 18446744073709551616) ∧ okP f p = true := fun p hp => ⟨hb p hp, List.all_eq_true.1 ha p hp⟩
      have KS : Box (∀ (W : World) (s1 : Value), FAt W → SW l L s1 W → Calls Tryd.prog 20 #[.int .u8 f, s1] W fun r w' => ∃ (gs cs : Nat) (cur : Array Value), r = .returned (.tuple #[.slice (some ⟨gs, 0, none⟩) L cs, .int .i64 0]) ∧ W.heap.size ≤ gs ∧ L ≤ cs ∧ w'.heap[gs]? = some (.cells cur 25) ∧ Box (∀ k p, (srt (totP f) [] l)[k]? = some p → cur[k * 2]? = some (.int .u64 (p.1 : Nat)) ∧ cur[k * 2 + 1]? = some (.int .u64 (p.2 : Nat))) ∧ Below W.heap.size W w') := box (fun W s1 hT hs => by
        rcases hs with ⟨o, c, e, _⟩ | ⟨g, z, c, _, _, rfl, hcc⟩
        · omega
        · exact kSort_some f h4 l L g z c W hl p1 (by omega) (box ok) (box hcc) (box (fun V hT bV => om_list f b0.1 b0.2 l L g z c V hl (by omega) HB (box (fun X bX => hcc X (btr bV bX))) q e he KC true (alq.trans ha) hT)) hT)
      have RT : Box (∀ p q, ((p.1 < 18446744073709551616 ∧ p.2 < 18446744073709551616) ∧ okP f p = true) → ((q.1 < 18446744073709551616 ∧ q.2 < 18446744073709551616) ∧ okP f q = true) → ∀ w, Calls Tryd.prog 23 #[.int .u8 f, .agg #[.int .u64 (p.1 : Nat), .int .u64 (p.2 : Nat)], .agg #[.int .u64 (q.1 : Nat), .int .u64 (q.2 : Nat)]] w fun r w' => r = .returned (.int .i64 (totP f p q)) ∧ Below w.heap.size w w') := box (fun p q hp hq w => rTotal_is f h4 p.1 p.2 _ q.1 q.2 _ hp.1.1 hp.1.2 rfl hq.1.1 hq.1.2 rfl hp.2 hq.2 _ rfl w)
      have hS : (srt (totP f) [] l).length = L := by rw [(srt_perm (totP f) l []).length_eq]; exact hl
      exact ots_N f l (srt (totP f) [] l) L w g z c hl hS p1 (by omega) p2 HC KS (box (fun W bW => r16_list f b0.1 l L g z c W hl (by omega) HB (HC2 W bW) KR true ha)) (box (fun W bW => rso_list f (totP f) (fun p => (p.1 < 18446744073709551616 ∧ p.2 < 18446744073709551616) ∧ okP f p = true) l L g z c W hl (by omega) (box ok) (HC2 W bW) RT)) (box (fun k p q hp hq => by
        have op := ok p (List.mem_of_getElem? hp)
        have oq := ok q (List.mem_of_getElem? hq)
        exact ⟨totP f p q, box (fun w hT => kTotal_is f h4 p.1 p.2 _ q.1 q.2 _ op.1.1 op.1.2 rfl oq.1.1 oq.1.2 rfl op.2 oq.2 _ rfl w hT), box (fun w => RT.out p q op oq w)⟩)) KA hT
end Go.Proofs.YtmndjhcmomejjaaDoor
