/-
  What the functions that the statement reaches return: part 8 (BF, BI, BJ, BL, BG, BH, BM, BN, BO, BP, BQ, JP, JM).
-/
import Derived.Laws.AppendOwn
import Derived.OwnWalk
import Derived.Maps.AppendAt
import Derived.Maps.Own
import Derived.Maps.Views
import Derived.StringKeys
import Derived.RangeFuncNested
import Derived.RangeFuncBound
import Derived.RangeFuncCalls
import Derived.RangeFuncLeaves
import Derived.RangeFuncFrom
import Derived.Shelf.Abstract
import Derived.Shelf.RegionOpen
import Derived.WalkKit
import Derived.OwnWalkIn
import Derived.TacticsInMore
import Derived.LoopNIn
import Derived.LoopIn
import Derived.LoopN
import Derived.Sort.QuietIn
import Derived.Deep.RegionHeld3
import Derived.ChangeMaps5
import Derived.OpenShut
import Derived.Carry
import Derived.Test.YtaoccmopfflkmaaDoorIa07
namespace Go.Proofs.YtaoccmopfflkmaaDoor
set_option maxRecDepth 100000
set_option maxHeartbeats 40000000
set_option maxRecDepth 100000
open Go.RowKit WMath
set_option linter.unusedSimpArgs false
set_option linter.unusedVariables false
abbrev Nm := Rw × List UInt8
def nmC (p : Nm) : List Value := (ndC p.1 ⟨p.2.toArray⟩).toList
def ndsC (l : List Nm) : List Value := l.flatMap nmC
theorem nmC_len (p : Nm) : (nmC p).length = 8 := rfl
theorem ndsC_app (l m : List Nm) : ndsC (l ++ m) = ndsC l ++ ndsC m := by simp [ndsC]
def preL (k : Nat) : List Nm := (linesL.take k).flatMap lineL
def preF (l : Ln) (f : Nat) : List Nm := (List.range f).flatMap (formL l)
def preN (l : Ln) (f n : Nat) : List Nm := (List.range n).flatMap (inL l f)
theorem preL_all : preL 31 = allL := by unfold preL allL; rw [List.take_of_length_le (by decide)]
theorem preL_next (k : Nat) (l : Ln) (h : linesL[k]? = some l) : preL (k + 1) = preL k ++ preF l 4 := by
  unfold preL preF
  rw [List.take_add_one, h]
  simp [lineL]
theorem preF_next (l : Ln) (f : Nat) : preF l (f + 1) = preF l f ++ formL l f := by unfold preF; simp [List.range_succ]
theorem preN_next (l : Ln) (f n : Nat) : preN l f (n + 1) = preN l f n ++ inL l f n := by unfold preN; simp [List.range_succ]
theorem preL_len : ∀ k : Fin 32, (preL k.val).length ≤ 136 := by decide +kernel
theorem formL_len (l : Ln) (f : Nat) : (formL l f).length ≤ 4 := by
  have h : ∀ n, (inL l f n).length ≤ 1 := fun n => by unfold inL; (repeat' split) <;> simp
  unfold formL
  split
  · simp
  · have a := h 0; have b := h 1; have c := h 2; have d := h 3
    simp only [show List.range 4 = [0, 1, 2, 3] from rfl, List.flatMap_cons, List.flatMap_nil, List.length_append, List.length_nil]
    omega
theorem flat_at {α β : Type} (f : α → List β) (n : Nat) (hf : ∀ a, (f a).length = n) : ∀ (l : List α) (k j : Nat) (a : α), l[k]? = some a → j < n → (l.flatMap f)[k * n + j]? = (f a)[j]?
  | [], k, j, a, h, _ => by simp at h
  | b :: t, 0, j, a, h, hj => by
    have e : b = a := by simpa using h
    subst e
    rw [List.flatMap_cons, Nat.zero_mul, Nat.zero_add, List.getElem?_append_left (by rw [hf]; exact hj)]
  | b :: t, k + 1, j, a, h, hj => by
    have h2 : t[k]? = some a := by simpa using h
    rw [List.flatMap_cons, List.getElem?_append_right (by rw [hf, Nat.add_mul]; omega), hf, show (k + 1) * n + j - n = k * n + j by rw [Nat.add_mul]; omega]
    exact flat_at f n hf t k j a h2 hj
theorem lnsC_at (k j : Nat) (l : Ln) (h : linesL[k]? = some l) (hj : j < 12) : lnsC[k * 12 + j]? = (lnC l)[j]? := by
  unfold lnsC
  rw [List.getElem?_toArray, flat_at (fun l => (lnC l).toList) 12 (fun _ => rfl) linesL k j l h hj, Array.getElem?_toList]
theorem ndsC_at (m : List Nm) (k j : Nat) (p : Nm) (h : m[k]? = some p) (hj : j < 8) : (ndsC m)[k * 8 + j]? = (nmC p)[j]? := flat_at nmC 8 nmC_len m k j p h hj
def NdsAt (w : World) (g : Nat) (l : List Nm) : Prop := ∃ cur, w.heap[g]? = some (.cells cur 47) ∧ ∀ k p, l[k]? = some p → ∀ j u, j < 8 → (nmC p)[j]? = some u → cur[k * 8 + j]? = some u
theorem NdsAt.below {w w' : World} {g : Nat} {l : List Nm} (h : NdsAt w g l) (hb : Below w.heap.size w w') : NdsAt w' g l := by
  obtain ⟨cur, h1, h2⟩ := h
  exact ⟨cur, heap_of hb _ _ _ h1, h2⟩
theorem own_nds {w : World} {base : Nat} {v : Value} {l : List Nm} (h : w.ownsRow base 47 8 v l.length (ndsC l)) (hl : 0 < l.length) : ∃ g cap, v = .slice (some ⟨g, 0, none⟩) l.length cap ∧ base ≤ g ∧ NdsAt w g l := by
  rcases h.2 with ⟨_, q⟩ | ⟨g, cap, cur, h1, h2, h3, h4, h5, h6, h7⟩
  · omega
  · refine ⟨g, cap, h1, h2, cur, h3, fun k p hp j u hj hu => ?_⟩
    have hk : k < l.length := (List.getElem?_eq_some_iff.1 hp).1
    have hlt : k * 8 + j < l.length * 8 := by omega
    have a := ndsC_at l k j p hp hj
    rw [hu, ← h7, List.getElem?_take_of_lt hlt] at a
    simpa using a
theorem NdsAt.cells {w : World} {g : Nat} {l : List Nm} (h : NdsAt w g l) {k : Nat} {r : Rw} {s : List UInt8} (hp : l[k]? = some (r, s)) :
    w.cell? ⟨g, k * 8, none⟩ = some (.int .u8 (r.op : Nat)) ∧ w.cell? ⟨g, k * 8 + 1, none⟩ = some (.int .u8 (r.form : Nat)) ∧ w.cell? ⟨g, k * 8 + 2, none⟩ = some (.int .u8 (r.frm : Nat)) ∧ w.cell? ⟨g, k * 8 + 3, none⟩ = some (.int .u8 (r.kind : Nat)) ∧ w.cell? ⟨g, k * 8 + 4, none⟩ = some (.int .u32 (r.mask : Nat)) ∧ w.cell? ⟨g, k * 8 + 5, none⟩ = some (.int .u32 (r.mtch : Nat)) ∧ w.cell? ⟨g, k * 8 + 6, none⟩ = some (.int .u8 (r.lay : Nat)) ∧ w.cell? ⟨g, k * 8 + 7, none⟩ = some (.string ⟨s.toArray⟩) := by
  obtain ⟨cur, h1, h2⟩ := h
  have e := fun j (hj : j < 8) u (hu : (nmC (r, s))[j]? = some u) => cell7 h1 (k * 8 + j) u (h2 k (r, s) hp j u hj hu)
  exact ⟨e 0 (by decide) _ rfl, e 1 (by decide) _ rfl, e 2 (by decide) _ rfl, e 3 (by decide) _ rfl, e 4 (by decide) _ rfl, e 5 (by decide) _ rfl, e 6 (by decide) _ rfl, e 7 (by decide) _ rfl⟩
theorem res_nd2 {fn : Func} {z t : Tmp} (h : fn.results = #[.cell z 47, .tmp t]) {tmps : Array Value} {w : World} {b : Nat} {r : Rw} {s : ByteArray} {T : TypeId} (hz : tmps.getD z undef = .pointer (some ⟨b, 0, none⟩)) (hr : w.heap[b]? = some (.cells (ndC r s) T)) : (results fn tmps).run Tryd.prog w = .ok (.tuple #[.agg (ndC r s), tmps.getD t undef]) w := by
  have q := nd_lv hr
  have hz2 : tmps[z]?.getD undef = .pointer (some ⟨b, 0, none⟩) := by rw [← Array.getD_eq_getD_getElem?]; exact hz
  simp [results, h, hz2, asAddr, q, Result.andThen]
def rwZ : Rw := ⟨0, 0, 0, 0, 0, 0, 0⟩
def OwnsAll (w w' : World) (v : Value) : Prop := ∃ g cap, v = .slice (some ⟨g, 0, none⟩) 136 cap ∧ w.heap.size < g ∧ NdsAt w' g allL ∧ Below w.heap.size w w'
def fstL (f : Nm → Bool) : Option Nm := allL.find? f
theorem fst_yes {f : Nm → Bool} {k : Nat} {p : Nm} (h : ∀ j q, j < k → allL[j]? = some q → f q = false) (hp : allL[k]? = some p) (hf : f p = true) : fstL f = some p := by
  unfold fstL
  rw [List.find?_eq_some_iff_getElem]
  obtain ⟨hk, e⟩ := List.getElem?_eq_some_iff.1 hp
  exact ⟨hf, k, hk, e, fun j hj => by rw [h j _ hj (List.getElem?_eq_getElem (by omega))]; rfl⟩
theorem fst_no {f : Nm → Bool} (h : ∀ j q, j < 136 → allL[j]? = some q → f q = false) : fstL f = none := by
  unfold fstL
  rw [List.find?_eq_none]
  intro p hp
  obtain ⟨j, hj, e⟩ := List.getElem_of_mem hp
  rw [h j p (by rw [allL_len] at hj; exact hj) (by rw [List.getElem?_eq_getElem hj, e])]
  decide
def ofB (o f g k : Int) (p : Nm) : Bool := ((p.1.op : Int) == o) && ((p.1.form : Int) == f) && ((p.1.frm : Int) == g) && ((p.1.kind : Int) == k)
set_option maxRecDepth 100000 in
set_option maxHeartbeats 8000000 in
theorem b24_of (o f fr kd : Int) (h1 : decide (o < 1) = false) (h2 : decide (31 < o) = false) (w : World) (KA : Box (∀ w, Calls Tryd.prog 18 #[] w fun r w' => ∃ v, r = .returned v ∧ OwnsAll w w' v)) (rr : Rw) (nn : List UInt8) (e : Int) (HR : Box (match fstL (ofB o f fr kd) with | some p => p = (rr, nn) ∧ e = 0 | none => rr = rwZ ∧ nn = [] ∧ e = 240)) : Calls Tryd.prog 26 #[.int .u8 o, .int .u8 f, .int .u8 fr, .int .u8 kd] w fun r w' => r = .returned (.tuple #[.agg (ndC rr ⟨nn.toArray⟩), .int .i64 e]) ∧ Below w.heap.size w w' := by
  obtain ⟨Rz_0, B0⟩ := opn1 w (Obj.cells #[.int .u8 0, .int .u8 0, .int .u8 0, .int .u8 0, .int .u32 0, .int .u32 0, .int .u8 0, .string ⟨#[]⟩] 47)
  go_enter Tryd.func26, Tryd.ntmps26
  go_wp2_with fail
  refine (KA.out _).mono ?_
  rintro r w1 ⟨v, rfl, g, cap, rfl, hg, hN, hb⟩
  have B1 := btr B0 hb
  have R1 := heap_of hb _ _ _ Rz_0
  clear B0 Rz_0 hb h1 h2
  simp only [size_al] at hg
  go_wp2
  go_loopw [11] (fun iv wr => ∃ k : Nat, k ≤ 136 ∧ iv = .int .i64 (k : Int) ∧ Below w.heap.size w wr ∧ wr.heap[w.heap.size]? = some (.cells #[.int .u8 0, .int .u8 0, .int .u8 0, .int .u8 0, .int .u32 0, .int .u32 0, .int .u8 0, .string ⟨#[]⟩] 47) ∧ NdsAt wr g allL ∧ Box (∀ j p, j < k → allL[j]? = some p → ofB o f fr kd p = false)) (fun iv _ => 136 - (intOf iv).toNat)
  case atStart => exact ⟨0, Nat.zero_le _, rfl, B1, R1, hN, box (fun j _ hj => absurd hj (by omega))⟩
  case round =>
    clear B1 R1 hN
    obtain ⟨k, hk, rfl, hB, hR, hN, HA⟩ := hrel
    by_cases hlt : k < 136
    · have dl : decide ((k : Int) < 136) = true := decide_eq_true (by omega)
      have hw1 : IntKind.i64.wrap ((k : Int) + 1) = ((k + 1 : Nat) : Int) := by rw [IntKind.wrap_i64]; omega
      obtain ⟨⟨r0, s0⟩, hp⟩ : ∃ p, allL[k]? = some p := ⟨_, List.getElem?_eq_getElem (by rw [allL_len]; exact hlt)⟩
      have HP := box hp
      obtain ⟨c0, c1, c2, c3, c4, c5, c6, c7⟩ := hN.cells hp
      clear hp
      have hrf := rwC_fold r0
      have hsn := rwC_new
      have a0 : ∀ h, (rwC r0)[0]'h = .int .u8 (r0.op : Nat) := fun _ => rfl
      have a1 : ∀ h, (rwC r0)[1]'h = .int .u8 (r0.form : Nat) := fun _ => rfl
      have a2 : ∀ h, (rwC r0)[2]'h = .int .u8 (r0.frm : Nat) := fun _ => rfl
      have a3 : ∀ h, (rwC r0)[3]'h = .int .u8 (r0.kind : Nat) := fun _ => rfl
      have hb9 := bal wr (.cells (rwC r0) 45)
      have B2 := btr hB hb9
      have R2 := heap_of hb9 _ _ _ hR
      have N2 := hN.below hb9
      have HN := box N2
      have HR2 := box R2
      have HB2 := box B2
      obtain ⟨b1, g1⟩ : ∃ b, (((r0.op : Nat) : Int) == o) = b := ⟨_, rfl⟩
      obtain ⟨b2, g2⟩ : ∃ b, (((r0.form : Nat) : Int) == f) = b := ⟨_, rfl⟩
      obtain ⟨b3, g3⟩ : ∃ b, (((r0.frm : Nat) : Int) == fr) = b := ⟨_, rfl⟩
      obtain ⟨b4, g4⟩ : ∃ b, (((r0.kind : Nat) : Int) == kd) = b := ⟨_, rfl⟩
      have HB : Box (ofB o f fr kd (r0, s0) = (b1 && b2 && b3 && b4)) := box (by unfold ofB; rw [g1, g2, g3, g4])
      by_cases hall : (b1 && b2 && b3 && b4) = true
      · rw [hall] at HB
        have e9 := HR.out
        rw [fst_yes HA.out HP.out HB.out] at e9
        obtain ⟨e8, rfl⟩ := e9
        cases e8
        simp only [Bool.and_eq_true] at hall
        obtain ⟨⟨⟨rfl, rfl⟩, rfl⟩, rfl⟩ := hall
        obtain ⟨d0, d1, d2, d3, d4, d5, d6, d7⟩ := HN.out.cells HP.out
        have hnf := ndC_fold rr ⟨nn.toArray⟩
        have hst := ndC_store (r := rr) (s := ⟨nn.toArray⟩) HR2.out rfl
        have rz := setRow_row (c' := ndC rr ⟨nn.toArray⟩) HR2.out
        have bz : Below w.heap.size w ((wr.alloc (.cells (rwC rr) 45)).setRow w.heap.size (ndC rr ⟨nn.toArray⟩)) := Below.setRow HB2.out (Nat.le_refl _)
        obtain ⟨wz, hwz⟩ : ∃ V, (wr.alloc (.cells (rwC rr) 45)).setRow w.heap.size (ndC rr ⟨nn.toArray⟩) = V := ⟨_, rfl⟩
        rw [hwz] at hst rz bz
        clear hwz hB hR hN B2 R2 N2 hb9
        go_wp2
        exact bodyPost_ret (v := .tuple #[.agg (ndC rr ⟨nn.toArray⟩), .int .i64 0]) (res_nd2 Tryd.results26 rfl rz) rfl ⟨rfl, bz⟩
      · rw [Bool.not_eq_true] at hall
        rw [hall] at HB
        have HX : Box (∀ j p, j < k + 1 → allL[j]? = some p → ofB o f fr kd p = false) := box (fun j p hj q => by
          by_cases z : j < k
          · exact HA.out j p z q
          · have e : j = k := by omega
            subst e
            rw [HP.out] at q
            cases q
            exact HB.out)
        clear hB hR hN B2 R2 N2 hb9
        have hcs : b1 = false ∨ b1 = true ∧ b2 = false ∨ b1 = true ∧ b2 = true ∧ b3 = false ∨ b1 = true ∧ b2 = true ∧ b3 = true ∧ b4 = false := by
          revert hall; cases b1 <;> cases b2 <;> cases b3 <;> cases b4 <;> simp
        clear hall
        rcases hcs with rfl | ⟨rfl, rfl⟩ | ⟨rfl, rfl, rfl⟩ | ⟨rfl, rfl, rfl, rfl⟩
        all_goals
          go_wp2
          go_roundw
          case rel => exact ⟨k + 1, by omega, by first | rfl | simp, HB2.out, HR2.out, HN.out, HX⟩
          case measure => simp [intOf]; omega
    · have k136 : k = 136 := by omega
      subst k136
      have dl : decide ((136 : Int) < 136) = false := rfl
      have e9 := HR.out
      rw [fst_no HA.out] at e9
      obtain ⟨rfl, rfl, rfl⟩ := e9
      have hnf : #[Value.int .u8 0, .int .u8 0, .int .u8 0, .int .u8 0, .int .u32 0, .int .u32 0, .int .u8 0, .string ⟨#[]⟩] = ndC rwZ ⟨#[]⟩ := rfl
      have hst := ndC_store (r := rwZ) (s := ⟨#[]⟩) hR rfl
      have rz := setRow_row (c' := ndC rwZ ⟨#[]⟩) hR
      have bz : Below w.heap.size w (wr.setRow w.heap.size (ndC rwZ ⟨#[]⟩)) := Below.setRow hB (Nat.le_refl _)
      obtain ⟨wz, hwz⟩ : ∃ V, wr.setRow w.heap.size (ndC rwZ ⟨#[]⟩) = V := ⟨_, rfl⟩
      rw [hwz] at hst rz bz
      clear hwz
      go_wp2
      exact bodyPost_ret (v := .tuple #[.agg (ndC rwZ ⟨#[]⟩), .int .i64 240]) (res_nd2 Tryd.results26 rfl rz) rfl ⟨rfl, bz⟩
set_option maxRecDepth 100000 in
set_option maxHeartbeats 8000000 in
theorem b24_of_no (o f fr kd : Int) (h : o < 1 ∨ 31 < o) (w : World) : Calls Tryd.prog 26 #[.int .u8 o, .int .u8 f, .int .u8 fr, .int .u8 kd] w fun r w' => r = .returned (.tuple #[.agg (ndC rwZ ⟨#[]⟩), .int .i64 2]) ∧ Below w.heap.size w w' := by
  rcases (show decide (o < 1) = true ∨ decide (o < 1) = false ∧ decide (31 < o) = true from by simp only [decide_eq_true_iff, decide_eq_false_iff_not]; omega) with h1 | ⟨h1, h2⟩
  all_goals
    clear h
    obtain ⟨Rz_0, B0⟩ := opn1 w (Obj.cells #[.int .u8 0, .int .u8 0, .int .u8 0, .int .u8 0, .int .u32 0, .int .u32 0, .int .u8 0, .string ⟨#[]⟩] 47)
    go_enter Tryd.func26, Tryd.ntmps26
    clear B0 Rz_0
    go_wp2
    exact bodyPost_ret (v := .tuple #[.agg #[.int .u8 0, .int .u8 0, .int .u8 0, .int .u8 0, .int .u32 0, .int .u32 0, .int .u8 0, .string ⟨#[]⟩], .int .i64 2]) (by simp [results, Tryd.results26, go_sem]) rfl ⟨rfl, (Below.refl _ _).alloc (by first | omega | (simp only [size_al]; omega)) _⟩
def OutAt (w0 wr : World) (v : Value) (l : List Nm) : Prop := wr.ownsRow (w0.heap.size + 1) 47 8 v l.length (ndsC l) ∧ Below w0.heap.size w0 wr ∧ wr.heap[w0.heap.size]? = some (.cells lnsC 78)
theorem OutAt.below {w0 w w' : World} {v : Value} {l : List Nm} (h : OutAt w0 w v l) (hb : Below w.heap.size w w') : OutAt w0 w' v l := by
  obtain ⟨h1, h2, h3⟩ := h
  refine ⟨⟨h1.1, ?_⟩, btr h2 hb, heap_of hb _ _ _ h3⟩
  rcases h1.2 with q | ⟨g, cap, cur, a1, a2, a3, a4⟩
  · exact Or.inl q
  · exact Or.inr ⟨g, cap, cur, a1, a2, heap_of hb _ _ _ a3, a4⟩
theorem OutAt.app {w0 w1 w3 : World} {v v' : Value} {l : List Nm} {p : Nm} {o : Obj} (h : OutAt w0 w1 v l) (ho : w3.ownsRow (w0.heap.size + 1) 47 8 v' (l.length + 1) (ndsC l ++ nmC p)) (hg : (w1.alloc o).grownBy w3 v.ownBlock) : OutAt w0 w3 v' (l ++ [p]) := by
  obtain ⟨h1, h2, h3⟩ := h
  have lt := (Array.getElem?_eq_some_iff.1 h3).1
  refine ⟨?_, (h2.alloc h2.size o).grown hg (by simp only [size_al]; have := h2.size; omega) (fun q hq => by have := (h1.lt q hq).1; omega), ?_⟩
  · rw [ndsC_app, show ndsC [p] = nmC p from by simp [ndsC], List.length_append]
    exact ho
  · rw [hg.block _ (by simp only [size_al]; omega) (fun z => by have := (h1.lt _ z.symm).1; omega)]
    exact heap_of (bal w1 _) _ _ _ h3
theorem OutAt.keep {w1 w3 : World} {v v' : Value} {o : Obj} {g : Nat} {c : Array Value} {T : TypeId} (hr : w1.heap[g]? = some (.cells c T)) (hn : v.ownBlock ≠ some g) (hg : (w1.alloc o).grownBy w3 v.ownBlock) (hb : v'.ownBlock = v.ownBlock ∨ v'.ownBlock = some (w1.alloc o).heap.size) : w3.heap[g]? = some (.cells c T) ∧ v'.ownBlock ≠ some g := by
  have lt := (Array.getElem?_eq_some_iff.1 hr).1
  refine ⟨?_, ?_⟩
  · rw [hg.block g (by simp only [size_al]; omega) (fun z => hn z.symm)]
    exact heap_of (bal w1 _) _ _ _ hr
  · rcases hb with q | q
    · rw [q]; exact hn
    · rw [q]; intro z; simp only [size_al] at z; injection z with z; omega
theorem lnC_fold (l : Ln) : #[Value.int .u8 (l.op : Nat), .string ⟨l.nm.toArray⟩, .int .i64 (l.opc : Nat), .int .i64 l.rs3, .int .i64 l.rm, .int .i64 l.rs2, .int .u8 (l.lay : Nat), .bool l.noq, .bool l.frm, .bool l.knd, .bool l.nof, .bool l.szs] = lnC l := rfl
theorem lnC_fold2 (l : Ln) (a b c d : Bool) (p1 : l.noq = a) (p2 : l.nof = b) (p3 : l.frm = c) (p4 : l.knd = d) : #[Value.int .u8 (l.op : Nat), .string ⟨l.nm.toArray⟩, .int .i64 (l.opc : Nat), .int .i64 l.rs3, .int .i64 l.rm, .int .i64 l.rs2, .int .u8 (l.lay : Nat), .bool a, .bool c, .bool d, .bool b, .bool l.szs] = lnC l := by
  rw [← p1, ← p2, ← p3, ← p4]
  rfl
theorem lnC_new (w : World) (b : Nat) (l : Ln) (hb : b = w.heap.size) : (storeCells ⟨b, 0, none⟩ (lnC l).toList 0).run Tryd.prog (w.alloc (.cells #[.int .u8 0, .string ⟨#[]⟩, .int .i64 0, .int .i64 0, .int .i64 0, .int .i64 0, .int .u8 0, .bool false, .bool false, .bool false, .bool false, .bool false] 78)) = .ok () (w.alloc (.cells (lnC l) 78)) := by
  subst hb
  exact run_storeCells_new (P := Tryd.prog) w 78 #[.int .u8 0, .string ⟨#[]⟩, .int .i64 0, .int .i64 0, .int .i64 0, .int .i64 0, .int .u8 0, .bool false, .bool false, .bool false, .bool false, .bool false] (lnC l) (by kernel_rfl) rfl (by simp [lnC]; exact ⟨rfl, rfl, rfl, rfl, rfl, rfl, rfl, rfl, rfl, rfl, rfl, rfl⟩)
theorem new_cells24 (w : World) (l : Array Value) (T : TypeId) : ∀ j u, l.toList[j]? = some u → (w.alloc (.cells l T)).cell? ((⟨w.heap.size, 0, none⟩ : Addr).add j) = some u := fun j u h => by
  have hadd : (⟨w.heap.size, 0, none⟩ : Addr).add j = ⟨w.heap.size, j, none⟩ := by unfold Addr.add; split <;> simp_all
  rw [hadd]
  exact cell7 (last7 _ _) j u (by simpa using h)
theorem nm_one (r : Rw) (s : List UInt8) : ∀ u ∈ (ndC r ⟨s.toArray⟩).toList, u.oneCell' = true := fun x hx => by
  simp [ndC] at hx
  rcases hx with rfl | rfl | rfl | rfl | rfl | rfl | rfl | rfl <;> rfl
theorem wpl_one24 {ops : Array Oper} {rest : List Oper} {o : Oper} {a : Act} {w : World} {Q : Exit → Act → World → Prop} (hg : o.guard = none) (parts : Array (Nat × Operand)) (ho : o.op = .buildSlice 51 1 parts) (x : Operand) (hp : parts = #[(0, x)]) (r : Rw) (s : ByteArray) (hx : a.eval x = .agg (ndC r s))
    (h : wpList Tryd.prog ops Q rest (a.put o.dst (.slice (some ⟨w.heap.size, 0, none⟩) 1 1)) (w.alloc (.cells (ndC r s) 47))) : wpList Tryd.prog ops Q (o :: rest) a w := by
  obtain ⟨i0, hi, hz0, hz1, hz2⟩ := info_parts (show (Tryd.prog.info? 47).map (fun i => (i.zero, i.size, i.bytes)) = some (some (.agg #[.int .u8 0, .int .u8 0, .int .u8 0, .int .u8 0, .int .u32 0, .int .u32 0, .int .u8 0, .string ⟨#[]⟩]), 8, 32) by kernel_rfl)
  subst hp
  refine wpList_buildSlice hg 51 47 1 _ ho (ndC r s) i0 _ Tryd.underlying51 hi hz0 ?_ ?_ ?_ h
  · rw [hz1]; decide
  · rw [hz1]; decide
  · rw [hz1]
    simp only [List.map_toArray, List.map_cons, List.map_nil, hx]
    kernel_rfl
def Pat (l : Ln) (a b c d : Bool) : Prop := l.noq = a ∧ l.nof = b ∧ l.frm = c ∧ l.knd = d
theorem pats : ∀ k : Fin 31, ∀ l, linesL[k.val]? = some l → Pat l false false false false ∨ Pat l false false true false ∨ Pat l false false false true ∨ Pat l true false false false ∨ Pat l false true false false := by
  intro k l h
  rcases k with ⟨k, hk⟩
  have : k = 0 ∨ k = 1 ∨ k = 2 ∨ k = 3 ∨ k = 4 ∨ k = 5 ∨ k = 6 ∨ k = 7 ∨ k = 8 ∨ k = 9 ∨ k = 10 ∨ k = 11 ∨ k = 12 ∨ k = 13 ∨ k = 14 ∨ k = 15 ∨ k = 16 ∨ k = 17 ∨ k = 18 ∨ k = 19 ∨ k = 20 ∨ k = 21 ∨ k = 22 ∨ k = 23 ∨ k = 24 ∨ k = 25 ∨ k = 26 ∨ k = 27 ∨ k = 28 ∨ k = 29 ∨ k = 30 := by omega
  rcases this with rfl | rfl | rfl | rfl | rfl | rfl | rfl | rfl | rfl | rfl | rfl | rfl | rfl | rfl | rfl | rfl | rfl | rfl | rfl | rfl | rfl | rfl | rfl | rfl | rfl | rfl | rfl | rfl | rfl | rfl | rfl <;> (cases h; first | exact Or.inl ⟨rfl, rfl, rfl, rfl⟩ | exact Or.inr (Or.inl ⟨rfl, rfl, rfl, rfl⟩) | exact Or.inr (Or.inr (Or.inl ⟨rfl, rfl, rfl, rfl⟩)) | exact Or.inr (Or.inr (Or.inr (Or.inl ⟨rfl, rfl, rfl, rfl⟩))) | exact Or.inr (Or.inr (Or.inr (Or.inr ⟨rfl, rfl, rfl, rfl⟩))))
theorem linesL_mem {k : Nat} {l : Ln} (h : linesL[k]? = some l) : l ∈ linesL := List.mem_of_getElem? h
theorem pre_len {k : Nat} (hk : k ≤ 31) : (preL k).length ≤ 136 := preL_len ⟨k, by omega⟩
theorem preF_len (l : Ln) : ∀ f, (preF l f).length ≤ 4 * f
  | 0 => by simp [preF]
  | f + 1 => by rw [preF_next, List.length_append]; have := preF_len l f; have := formL_len l f; omega
theorem preN_len (l : Ln) (f : Nat) : ∀ n, (preN l f n).length ≤ n
  | 0 => by simp [preN]
  | n + 1 => by
    rw [preN_next, List.length_append]
    have := preN_len l f n
    have h : (inL l f n).length ≤ 1 := by unfold inL; (repeat' split) <;> simp
    omega
theorem form_skip {l : Ln} {f : Nat} (h : l.noq = true ∧ f = 3 ∨ l.nof = true ∧ 0 < f) : formL l f = [] := by unfold formL; rw [if_pos h]
theorem form_go {l : Ln} {f : Nat} (h : ¬ (l.noq = true ∧ f = 3 ∨ l.nof = true ∧ 0 < f)) : formL l f = preN l f 4 := by unfold formL preN; rw [if_neg h]
set_option maxRecDepth 100000 in
set_option maxHeartbeats 8000000 in
theorem b24_all (w : World) (KR : Box (∀ (l : Ln) (f g k : Nat), l ∈ linesL → f < 4 → g < 4 → k < 4 → ∀ w, Calls Tryd.prog 32 #[.agg (lnC l), .int .u8 (f : Nat), .int .u8 (g : Nat), .int .u8 (k : Nat)] w fun r w' => r = .returned (.agg (ndC (rwL l f g k) ⟨(nmL l f g k).toArray⟩)) ∧ Below w.heap.size w w')) :
    Calls Tryd.prog 18 #[] w fun r w' => ∃ v, r = .returned v ∧ OutAt w w' v allL := by
  obtain ⟨i0, hi, hz0, hz1, hz2⟩ := info_parts (show (Tryd.prog.info? 47).map (fun i => (i.zero, i.size, i.bytes)) = some (some (.agg #[.int .u8 0, .int .u8 0, .int .u8 0, .int .u8 0, .int .u32 0, .int .u32 0, .int .u8 0, .string ⟨#[]⟩]), 8, 32) by kernel_rfl)
  go_enter Tryd.func18, Tryd.ntmps18
  go_wp2_with fail
  refine (b24_lines _).mono ?_
  rintro r w' ⟨rfl, rfl⟩
  go_wp2
  go_loopw [1, 3] (fun v iv wr => ∃ k : Nat, k ≤ 31 ∧ iv = .int .i64 (k : Int) ∧ OutAt w wr v (preL k)) (fun _ iv _ => 31 - (intOf iv).toNat)
  case atStart => exact ⟨0, Nat.zero_le _, rfl, World.ownsRow_nil _ _ _ _, bal w _, last7 _ _⟩
  case round =>
    obtain ⟨k, hk, rfl, hO⟩ := hrel
    obtain ⟨wo, rfl⟩ : ∃ wo, wo = wr := ⟨_, rfl⟩
    by_cases hlt : k < 31
    case neg =>
      have k31 : k = 31 := by omega
      subst k31
      go_wp2
      go_ret
      exact ⟨_, rfl, by rw [preL_all] at hO; exact hO⟩
    obtain ⟨l, hl⟩ : ∃ l, linesL[k]? = some l := ⟨_, List.getElem?_eq_getElem (by rw [linesL_len]; exact hlt)⟩
    have HM := box (linesL_mem hl)
    have HN := box (preL_next k l hl)
    have HP := box (pre_len hk)
    have hrow := hO.2.2
    have hel := fun j (hj : j < 12) u (hu : (lnC l)[j]? = some u) => cell7 hrow (k * 12 + j) u ((lnsC_at k j l hl hj).trans hu)
    have e0 := hel 0 (by decide) (.int .u8 (l.op : Nat)) rfl
    have e1 := hel 1 (by decide) (.string ⟨l.nm.toArray⟩) rfl
    have e2 := hel 2 (by decide) (.int .i64 (l.opc : Nat)) rfl
    have e3 := hel 3 (by decide) (.int .i64 l.rs3) rfl
    have e4 := hel 4 (by decide) (.int .i64 l.rm) rfl
    have e5 := hel 5 (by decide) (.int .i64 l.rs2) rfl
    have e6 := hel 6 (by decide) (.int .u8 (l.lay : Nat)) rfl
    have e7 := hel 7 (by decide) (.bool l.noq) rfl
    have e8 := hel 8 (by decide) (.bool l.frm) rfl
    have e9 := hel 9 (by decide) (.bool l.knd) rfl
    have e10 := hel 10 (by decide) (.bool l.nof) rfl
    have e11 := hel 11 (by decide) (.bool l.szs) rfl
    simp only [Nat.add_zero] at e0
    clear hel
    have HO := box hO
    have dl : decide ((k : Int) < 31) = true := decide_eq_true (by omega)
    have hw1 : IntKind.i64.wrap ((k : Int) + 1) = ((k + 1 : Nat) : Int) := by rw [IntKind.wrap_i64]; omega
    have hfo := lnC_fold l
    have hlt2 : w.heap.size < wo.heap.size := (Array.getElem?_eq_some_iff.1 hrow).1
    obtain ⟨P, hP⟩ : ∃ P, preL k = P := ⟨_, rfl⟩
    rw [hP] at HO HN HP
    have hO0 := HO.out
    have hpt := pats ⟨k, hlt⟩ l hl
    clear hl hrow hO
    have hnew := lnC_new
    have hOV := hO0.below (bal wo (.cells (lnC l) 78))
    have hRV := last7 wo (.cells (lnC l) 78)
    have hne : ∀ v : Value, OutAt w wo v P → v.ownBlock ≠ some wo.heap.size := fun v h z => by have := (h.1.lt _ z).2; omega
    have HNE := box hne
    clear hne
    have HOV := box hOV
    clear hOV
    rcases hpt with hpt | hpt | hpt | hpt | hpt
    · obtain ⟨p1, p2, p3, p4⟩ := hpt
      have Q1 := box p1
      have Q2 := box p2
      have Q3 := box p3
      have Q4 := box p4
      have HF5 := box (lnC_fold2 l _ _ _ _ p1 p2 p3 p4)
      clear p1 p2 p3 p4
      go_wp2_with fail
      go_wp2
      go_loopw [1, 5] (fun v fv wx => ∃ f : Nat, f ≤ 4 ∧ fv = .int .u8 (f : Int) ∧ OutAt w wx v (P ++ preF l f) ∧ wx.heap[wo.heap.size]? = some (.cells (lnC l) 78) ∧ v.ownBlock ≠ some wo.heap.size) (fun _ fv _ => 4 - (intOf fv).toNat)
      case atStart => exact ⟨0, Nat.zero_le _, rfl, by rw [show preF l 0 = [] from rfl, List.append_nil]; exact HOV.out, hRV, HNE.out _ HO.out⟩
      case round =>
        obtain ⟨f, hf, rfl, hO2, hR2, hn2⟩ := hrel
        by_cases hfl : f < 4
        case neg =>
          have f4 : f = 4 := by omega
          subst f4
          go_wp2
          go_roundw
          case rel => exact ⟨k + 1, by omega, by first | rfl | (simp; done) | (simp; omega), by rw [HN.out]; exact hO2⟩
          case measure => simp [intOf]; omega
        have hf4 := hfl
        have df : decide ((f : Int) < 4) = true := decide_eq_true (by omega)
        have hwf : (f : Int) % 256 = (f : Int) := by omega
        have hwf1 : IntKind.u8.wrap ((f : Int) + 1) = ((f + 1 : Nat) : Int) := by rw [IntKind.wrap_u8]; omega
        obtain ⟨c0, c1, c2, c3, c4, c5, c6, c7, c8, c9, c10, c11⟩ := lnC_cells hR2
        rw [Q1.out] at c7
        rw [Q2.out] at c10
        have HGO : Box (¬ (l.noq = true ∧ f = 3 ∨ l.nof = true ∧ 0 < f)) := box (by rw [Q1.out, Q2.out]; simp)
        go_wp2
        clear c0 c1 c2 c3 c4 c5 c6 c7 c8 c9 c10 c11
        go_loopw [1, 6] (fun v nv wx => ∃ n : Nat, n ≤ 4 ∧ nv = .int .i64 (n : Int) ∧ OutAt w wx v (P ++ preF l f ++ preN l f n) ∧ wx.heap[wo.heap.size]? = some (.cells (lnC l) 78) ∧ v.ownBlock ≠ some wo.heap.size) (fun _ nv _ => 4 - (intOf nv).toNat)
        case atStart => exact ⟨0, Nat.zero_le _, rfl, by rw [show preN l f 0 = [] from rfl, List.append_nil]; exact hO2, hR2, hn2⟩
        case round =>
          clear hO2 hR2 hn2
          obtain ⟨n, hn, rfl, hO3, hR3, hn3⟩ := hrel
          by_cases hnl : n < 4
          case neg =>
            have n4 : n = 4 := by omega
            subst n4
            have dn : decide ((4 : Int) < 4) = false := rfl
            go_wp2
            go_roundw
            case rel => exact ⟨f + 1, by omega, by first | rfl | (simp; done) | (simp; omega), by rw [preF_next, form_go (l := l) (f := f) HGO.out, ← List.append_assoc]; exact hO3, hR3, hn3⟩
            case measure => simp [intOf]; omega
          have dn : decide ((n : Int) < 4) = true := decide_eq_true (by omega)
          have hwn : IntKind.i64.wrap ((n : Int) + 1) = ((n + 1 : Nat) : Int) := by rw [IntKind.wrap_i64]; omega
          have hun : (n : Int) % 256 = (n : Int) := by omega
          obtain ⟨c0, c1, c2, c3, c4, c5, c6, c7, c8, c9, c10, c11⟩ := lnC_cells hR3
          rw [Q1.out] at c7
          rw [Q2.out] at c10
          rw [Q3.out] at c8
          rw [Q4.out] at c9
          have hle : (P ++ preF l f ++ preN l f n).length ≤ 200 := by
            have a1 := HP.out; have a2 := preF_len l f; have a3 := preN_len l f n
            simp only [List.length_append]
            omega
          by_cases n0 : n = 0
          · have dz : decide ((0 : Int) < (n : Int)) = false := decide_eq_false (by omega)
            have hin : inL l f n = [(rwL l f 0 0, nmL l f 0 0)] := by unfold inL; rw [if_neg (by rw [Q3.out]; simp), if_neg (by rw [Q4.out]; simp), if_neg (by rw [Q3.out]; simp; omega)]
            have hf5 := HF5.out
            have K := KR.out l f 0 0 HM.out hf4 (by omega) (by omega)
            obtain ⟨rr, hrr⟩ : ∃ x, rwL l f 0 0 = x := ⟨_, rfl⟩
            obtain ⟨nn, hnn⟩ : ∃ x, nmL l f 0 0 = x := ⟨_, rfl⟩
            rw [hrr, hnn] at K hin
            have HIN := box hin
            clear hin hrr hnn
            go_wp2_with fail
            refine (K _).mono ?_
            rintro r9 w5 ⟨rfl, b5⟩
            have hO5 := hO3.below b5
            have hR5 := heap_of b5 _ _ _ hR3
            clear hO3 hR3 b5 c0 c1 c2 c3 c4 c5 c6 c7 c8 c9 c10 c11
            have hs5 := hO5.2.1.size
            have hs6 : w.heap.size < w5.heap.size := (Array.getElem?_eq_some_iff.1 hO5.2.2).1
            go_wp2_with (first | (refine wpl_one24 rfl _ rfl _ rfl rr ⟨nn.toArray⟩ rfl ?_) | (at_builtin; refine wpList_append_own_at _ rfl _ _ 51 rfl (w.heap.size + 1) 47 i0 (.agg #[.int .u8 0, .int .u8 0, .int .u8 0, .int .u8 0, .int .u32 0, .int .u32 0, .int .u8 0, .string ⟨#[]⟩]) 8 32 Tryd.underlying51 hi hz0 hz1 hz2 rfl (by decide) _ _ _ rfl (hO5.1.alloc _) ⟨w5.heap.size, 0, none⟩ 1 1 ((ndC rr ⟨nn.toArray⟩).toList) rfl rfl (new_cells24 _ (ndC rr ⟨nn.toArray⟩) _) (nm_one rr nn) (by unfold maxLen; omega) (by omega) (by simp only [size_al]; omega) ?_; intro v9 w6 hown9 hgrow9 hnil9 hblk9))
            obtain ⟨hR6, hn6⟩ := OutAt.keep hR5 hn3 hgrow9 hblk9
            have hA := hO5.app (p := (rr, nn)) hown9 hgrow9
            go_roundw
            case rel =>
              exact ⟨n + 1, by omega, by first | rfl | (simp; done) | (simp; omega), by rw [preN_next, HIN.out, ← List.append_assoc]; exact hA, hR6, hn6⟩
            case measure => simp [intOf]; omega
          · have dz : decide ((0 : Int) < (n : Int)) = true := decide_eq_true (by omega)
            have hin : inL l f n = [] := by unfold inL; rw [if_neg (by rw [Q3.out]; simp), if_neg (by rw [Q4.out]; simp), if_pos (Or.inr (by omega))]
            go_wp2
            go_roundw
            case rel => exact ⟨n + 1, by omega, by first | rfl | (simp; done) | (simp; omega), by rw [preN_next, hin, List.append_nil]; exact hO3, hR3, hn3⟩
            case measure => simp [intOf]; omega
    · obtain ⟨p1, p2, p3, p4⟩ := hpt
      have Q1 := box p1
      have Q2 := box p2
      have Q3 := box p3
      have Q4 := box p4
      have HF5 := box (lnC_fold2 l _ _ _ _ p1 p2 p3 p4)
      clear p1 p2 p3 p4
      go_wp2_with fail
      go_wp2
      go_loopw [1, 5] (fun v fv wx => ∃ f : Nat, f ≤ 4 ∧ fv = .int .u8 (f : Int) ∧ OutAt w wx v (P ++ preF l f) ∧ wx.heap[wo.heap.size]? = some (.cells (lnC l) 78) ∧ v.ownBlock ≠ some wo.heap.size) (fun _ fv _ => 4 - (intOf fv).toNat)
      case atStart => exact ⟨0, Nat.zero_le _, rfl, by rw [show preF l 0 = [] from rfl, List.append_nil]; exact HOV.out, hRV, HNE.out _ HO.out⟩
      case round =>
        obtain ⟨f, hf, rfl, hO2, hR2, hn2⟩ := hrel
        by_cases hfl : f < 4
        case neg =>
          have f4 : f = 4 := by omega
          subst f4
          go_wp2
          go_roundw
          case rel => exact ⟨k + 1, by omega, by first | rfl | (simp; done) | (simp; omega), by rw [HN.out]; exact hO2⟩
          case measure => simp [intOf]; omega
        have hf4 := hfl
        have df : decide ((f : Int) < 4) = true := decide_eq_true (by omega)
        have hwf : (f : Int) % 256 = (f : Int) := by omega
        have hwf1 : IntKind.u8.wrap ((f : Int) + 1) = ((f + 1 : Nat) : Int) := by rw [IntKind.wrap_u8]; omega
        obtain ⟨c0, c1, c2, c3, c4, c5, c6, c7, c8, c9, c10, c11⟩ := lnC_cells hR2
        rw [Q1.out] at c7
        rw [Q2.out] at c10
        have HGO : Box (¬ (l.noq = true ∧ f = 3 ∨ l.nof = true ∧ 0 < f)) := box (by rw [Q1.out, Q2.out]; simp)
        go_wp2
        clear c0 c1 c2 c3 c4 c5 c6 c7 c8 c9 c10 c11
        go_loopw [1, 6] (fun v nv wx => ∃ n : Nat, n ≤ 4 ∧ nv = .int .i64 (n : Int) ∧ OutAt w wx v (P ++ preF l f ++ preN l f n) ∧ wx.heap[wo.heap.size]? = some (.cells (lnC l) 78) ∧ v.ownBlock ≠ some wo.heap.size) (fun _ nv _ => 4 - (intOf nv).toNat)
        case atStart => exact ⟨0, Nat.zero_le _, rfl, by rw [show preN l f 0 = [] from rfl, List.append_nil]; exact hO2, hR2, hn2⟩
        case round =>
          clear hO2 hR2 hn2
          obtain ⟨n, hn, rfl, hO3, hR3, hn3⟩ := hrel
          by_cases hnl : n < 4
          case neg =>
            have n4 : n = 4 := by omega
            subst n4
            have dn : decide ((4 : Int) < 4) = false := rfl
            go_wp2
            go_roundw
            case rel => exact ⟨f + 1, by omega, by first | rfl | (simp; done) | (simp; omega), by rw [preF_next, form_go (l := l) (f := f) HGO.out, ← List.append_assoc]; exact hO3, hR3, hn3⟩
            case measure => simp [intOf]; omega
          have dn : decide ((n : Int) < 4) = true := decide_eq_true (by omega)
          have hwn : IntKind.i64.wrap ((n : Int) + 1) = ((n + 1 : Nat) : Int) := by rw [IntKind.wrap_i64]; omega
          have hun : (n : Int) % 256 = (n : Int) := by omega
          obtain ⟨c0, c1, c2, c3, c4, c5, c6, c7, c8, c9, c10, c11⟩ := lnC_cells hR3
          rw [Q1.out] at c7
          rw [Q2.out] at c10
          rw [Q3.out] at c8
          rw [Q4.out] at c9
          have hle : (P ++ preF l f ++ preN l f n).length ≤ 200 := by
            have a1 := HP.out; have a2 := preF_len l f; have a3 := preN_len l f n
            simp only [List.length_append]
            omega
          by_cases n0 : n = f
          · have dz : ((n : Int) == (f : Int)) = true := beq_iff_eq.2 (by omega)
            have hin : inL l f n = [] := by unfold inL; rw [if_neg (fun z => z.2 n0), if_neg (by rw [Q4.out]; simp), if_pos (Or.inl Q3.out)]
            go_wp2
            go_roundw
            case rel => exact ⟨n + 1, by omega, by first | rfl | (simp; done) | (simp; omega), by rw [preN_next, hin, List.append_nil]; exact hO3, hR3, hn3⟩
            case measure => simp [intOf]; omega
          · have dz : ((n : Int) == (f : Int)) = false := beq_eq_false_iff_ne.2 (by omega)
            have hin : inL l f n = [(rwL l f n 0, nmL l f n 0)] := by unfold inL; rw [if_pos ⟨Q3.out, n0⟩]
            have hf5 := HF5.out
            have K := KR.out l f n 0 HM.out hf4 (by omega) (by omega)
            obtain ⟨rr, hrr⟩ : ∃ x, rwL l f n 0 = x := ⟨_, rfl⟩
            obtain ⟨nn, hnn⟩ : ∃ x, nmL l f n 0 = x := ⟨_, rfl⟩
            rw [hrr, hnn] at K hin
            have HIN := box hin
            clear hin hrr hnn
            go_wp2_with fail
            refine (K _).mono ?_
            rintro r9 w5 ⟨rfl, b5⟩
            have hO5 := hO3.below b5
            have hR5 := heap_of b5 _ _ _ hR3
            clear hO3 hR3 b5 c0 c1 c2 c3 c4 c5 c6 c7 c8 c9 c10 c11
            have hs5 := hO5.2.1.size
            have hs6 : w.heap.size < w5.heap.size := (Array.getElem?_eq_some_iff.1 hO5.2.2).1
            go_wp2_with (first | (refine wpl_one24 rfl _ rfl _ rfl rr ⟨nn.toArray⟩ rfl ?_) | (at_builtin; refine wpList_append_own_at _ rfl _ _ 51 rfl (w.heap.size + 1) 47 i0 (.agg #[.int .u8 0, .int .u8 0, .int .u8 0, .int .u8 0, .int .u32 0, .int .u32 0, .int .u8 0, .string ⟨#[]⟩]) 8 32 Tryd.underlying51 hi hz0 hz1 hz2 rfl (by decide) _ _ _ rfl (hO5.1.alloc _) ⟨w5.heap.size, 0, none⟩ 1 1 ((ndC rr ⟨nn.toArray⟩).toList) rfl rfl (new_cells24 _ (ndC rr ⟨nn.toArray⟩) _) (nm_one rr nn) (by unfold maxLen; omega) (by omega) (by simp only [size_al]; omega) ?_; intro v9 w6 hown9 hgrow9 hnil9 hblk9))
            obtain ⟨hR6, hn6⟩ := OutAt.keep hR5 hn3 hgrow9 hblk9
            have hA := hO5.app (p := (rr, nn)) hown9 hgrow9
            go_roundw
            case rel =>
              exact ⟨n + 1, by omega, by first | rfl | (simp; done) | (simp; omega), by rw [preN_next, HIN.out, ← List.append_assoc]; exact hA, hR6, hn6⟩
            case measure => simp [intOf]; omega
    · obtain ⟨p1, p2, p3, p4⟩ := hpt
      have Q1 := box p1
      have Q2 := box p2
      have Q3 := box p3
      have Q4 := box p4
      have HF5 := box (lnC_fold2 l _ _ _ _ p1 p2 p3 p4)
      clear p1 p2 p3 p4
      go_wp2_with fail
      go_wp2
      go_loopw [1, 5] (fun v fv wx => ∃ f : Nat, f ≤ 4 ∧ fv = .int .u8 (f : Int) ∧ OutAt w wx v (P ++ preF l f) ∧ wx.heap[wo.heap.size]? = some (.cells (lnC l) 78) ∧ v.ownBlock ≠ some wo.heap.size) (fun _ fv _ => 4 - (intOf fv).toNat)
      case atStart => exact ⟨0, Nat.zero_le _, rfl, by rw [show preF l 0 = [] from rfl, List.append_nil]; exact HOV.out, hRV, HNE.out _ HO.out⟩
      case round =>
        obtain ⟨f, hf, rfl, hO2, hR2, hn2⟩ := hrel
        by_cases hfl : f < 4
        case neg =>
          have f4 : f = 4 := by omega
          subst f4
          go_wp2
          go_roundw
          case rel => exact ⟨k + 1, by omega, by first | rfl | (simp; done) | (simp; omega), by rw [HN.out]; exact hO2⟩
          case measure => simp [intOf]; omega
        have hf4 := hfl
        have df : decide ((f : Int) < 4) = true := decide_eq_true (by omega)
        have hwf : (f : Int) % 256 = (f : Int) := by omega
        have hwf1 : IntKind.u8.wrap ((f : Int) + 1) = ((f + 1 : Nat) : Int) := by rw [IntKind.wrap_u8]; omega
        obtain ⟨c0, c1, c2, c3, c4, c5, c6, c7, c8, c9, c10, c11⟩ := lnC_cells hR2
        rw [Q1.out] at c7
        rw [Q2.out] at c10
        have HGO : Box (¬ (l.noq = true ∧ f = 3 ∨ l.nof = true ∧ 0 < f)) := box (by rw [Q1.out, Q2.out]; simp)
        go_wp2
        clear c0 c1 c2 c3 c4 c5 c6 c7 c8 c9 c10 c11
        go_loopw [1, 6] (fun v nv wx => ∃ n : Nat, n ≤ 4 ∧ nv = .int .i64 (n : Int) ∧ OutAt w wx v (P ++ preF l f ++ preN l f n) ∧ wx.heap[wo.heap.size]? = some (.cells (lnC l) 78) ∧ v.ownBlock ≠ some wo.heap.size) (fun _ nv _ => 4 - (intOf nv).toNat)
        case atStart => exact ⟨0, Nat.zero_le _, rfl, by rw [show preN l f 0 = [] from rfl, List.append_nil]; exact hO2, hR2, hn2⟩
        case round =>
          clear hO2 hR2 hn2
          obtain ⟨n, hn, rfl, hO3, hR3, hn3⟩ := hrel
          by_cases hnl : n < 4
          case neg =>
            have n4 : n = 4 := by omega
            subst n4
            have dn : decide ((4 : Int) < 4) = false := rfl
            go_wp2
            go_roundw
            case rel => exact ⟨f + 1, by omega, by first | rfl | (simp; done) | (simp; omega), by rw [preF_next, form_go (l := l) (f := f) HGO.out, ← List.append_assoc]; exact hO3, hR3, hn3⟩
            case measure => simp [intOf]; omega
          have dn : decide ((n : Int) < 4) = true := decide_eq_true (by omega)
          have hwn : IntKind.i64.wrap ((n : Int) + 1) = ((n + 1 : Nat) : Int) := by rw [IntKind.wrap_i64]; omega
          have hun : (n : Int) % 256 = (n : Int) := by omega
          obtain ⟨c0, c1, c2, c3, c4, c5, c6, c7, c8, c9, c10, c11⟩ := lnC_cells hR3
          rw [Q1.out] at c7
          rw [Q2.out] at c10
          rw [Q3.out] at c8
          rw [Q4.out] at c9
          have hle : (P ++ preF l f ++ preN l f n).length ≤ 200 := by
            have a1 := HP.out; have a2 := preF_len l f; have a3 := preN_len l f n
            simp only [List.length_append]
            omega
          have hin : inL l f n = [(rwL l f 0 n, nmL l f 0 n)] := by unfold inL; rw [if_neg (by rw [Q3.out]; simp), if_pos Q4.out]
          have hf5 := HF5.out
          have K := KR.out l f 0 n HM.out hf4 (by omega) (by omega)
          obtain ⟨rr, hrr⟩ : ∃ x, rwL l f 0 n = x := ⟨_, rfl⟩
          obtain ⟨nn, hnn⟩ : ∃ x, nmL l f 0 n = x := ⟨_, rfl⟩
          rw [hrr, hnn] at K hin
          have HIN := box hin
          clear hin hrr hnn
          go_wp2_with fail
          refine (K _).mono ?_
          rintro r9 w5 ⟨rfl, b5⟩
          have hO5 := hO3.below b5
          have hR5 := heap_of b5 _ _ _ hR3
          clear hO3 hR3 b5 c0 c1 c2 c3 c4 c5 c6 c7 c8 c9 c10 c11
          have hs5 := hO5.2.1.size
          have hs6 : w.heap.size < w5.heap.size := (Array.getElem?_eq_some_iff.1 hO5.2.2).1
          go_wp2_with (first | (refine wpl_one24 rfl _ rfl _ rfl rr ⟨nn.toArray⟩ rfl ?_) | (at_builtin; refine wpList_append_own_at _ rfl _ _ 51 rfl (w.heap.size + 1) 47 i0 (.agg #[.int .u8 0, .int .u8 0, .int .u8 0, .int .u8 0, .int .u32 0, .int .u32 0, .int .u8 0, .string ⟨#[]⟩]) 8 32 Tryd.underlying51 hi hz0 hz1 hz2 rfl (by decide) _ _ _ rfl (hO5.1.alloc _) ⟨w5.heap.size, 0, none⟩ 1 1 ((ndC rr ⟨nn.toArray⟩).toList) rfl rfl (new_cells24 _ (ndC rr ⟨nn.toArray⟩) _) (nm_one rr nn) (by unfold maxLen; omega) (by omega) (by simp only [size_al]; omega) ?_; intro v9 w6 hown9 hgrow9 hnil9 hblk9))
          obtain ⟨hR6, hn6⟩ := OutAt.keep hR5 hn3 hgrow9 hblk9
          have hA := hO5.app (p := (rr, nn)) hown9 hgrow9
          go_roundw
          case rel =>
            exact ⟨n + 1, by omega, by first | rfl | (simp; done) | (simp; omega), by rw [preN_next, HIN.out, ← List.append_assoc]; exact hA, hR6, hn6⟩
          case measure => simp [intOf]; omega
    · obtain ⟨p1, p2, p3, p4⟩ := hpt
      have Q1 := box p1
      have Q2 := box p2
      have Q3 := box p3
      have Q4 := box p4
      have HF5 := box (lnC_fold2 l _ _ _ _ p1 p2 p3 p4)
      clear p1 p2 p3 p4
      go_wp2_with fail
      go_wp2
      go_loopw [1, 5] (fun v fv wx => ∃ f : Nat, f ≤ 4 ∧ fv = .int .u8 (f : Int) ∧ OutAt w wx v (P ++ preF l f) ∧ wx.heap[wo.heap.size]? = some (.cells (lnC l) 78) ∧ v.ownBlock ≠ some wo.heap.size) (fun _ fv _ => 4 - (intOf fv).toNat)
      case atStart => exact ⟨0, Nat.zero_le _, rfl, by rw [show preF l 0 = [] from rfl, List.append_nil]; exact HOV.out, hRV, HNE.out _ HO.out⟩
      case round =>
        obtain ⟨f, hf, rfl, hO2, hR2, hn2⟩ := hrel
        by_cases hfl : f < 4
        case neg =>
          have f4 : f = 4 := by omega
          subst f4
          go_wp2
          go_roundw
          case rel => exact ⟨k + 1, by omega, by first | rfl | (simp; done) | (simp; omega), by rw [HN.out]; exact hO2⟩
          case measure => simp [intOf]; omega
        have hf4 := hfl
        have df : decide ((f : Int) < 4) = true := decide_eq_true (by omega)
        have hwf : (f : Int) % 256 = (f : Int) := by omega
        have hwf1 : IntKind.u8.wrap ((f : Int) + 1) = ((f + 1 : Nat) : Int) := by rw [IntKind.wrap_u8]; omega
        obtain ⟨c0, c1, c2, c3, c4, c5, c6, c7, c8, c9, c10, c11⟩ := lnC_cells hR2
        rw [Q1.out] at c7
        rw [Q2.out] at c10
        by_cases q3 : f = 3
        · have dq : ((f : Int) == 3) = true := beq_iff_eq.2 (by omega)
          go_wp2
          go_roundw
          case rel => exact ⟨f + 1, by omega, by first | rfl | (simp; done) | (simp; omega), by rw [preF_next, form_skip (Or.inl ⟨Q1.out, q3⟩), List.append_nil]; exact hO2, hR2, hn2⟩
          case measure => simp [intOf]; omega
        · have dq : ((f : Int) == 3) = false := beq_eq_false_iff_ne.2 (by omega)
          have HGO : Box (¬ (l.noq = true ∧ f = 3 ∨ l.nof = true ∧ 0 < f)) := box (by rw [Q2.out]; simp; intro _; exact q3)
          go_wp2
          clear c0 c1 c2 c3 c4 c5 c6 c7 c8 c9 c10 c11
          go_loopw [1, 6] (fun v nv wx => ∃ n : Nat, n ≤ 4 ∧ nv = .int .i64 (n : Int) ∧ OutAt w wx v (P ++ preF l f ++ preN l f n) ∧ wx.heap[wo.heap.size]? = some (.cells (lnC l) 78) ∧ v.ownBlock ≠ some wo.heap.size) (fun _ nv _ => 4 - (intOf nv).toNat)
          case atStart => exact ⟨0, Nat.zero_le _, rfl, by rw [show preN l f 0 = [] from rfl, List.append_nil]; exact hO2, hR2, hn2⟩
          case round =>
            clear hO2 hR2 hn2
            obtain ⟨n, hn, rfl, hO3, hR3, hn3⟩ := hrel
            by_cases hnl : n < 4
            case neg =>
              have n4 : n = 4 := by omega
              subst n4
              have dn : decide ((4 : Int) < 4) = false := rfl
              go_wp2
              go_roundw
              case rel => exact ⟨f + 1, by omega, by first | rfl | (simp; done) | (simp; omega), by rw [preF_next, form_go (l := l) (f := f) HGO.out, ← List.append_assoc]; exact hO3, hR3, hn3⟩
              case measure => simp [intOf]; omega
            have dn : decide ((n : Int) < 4) = true := decide_eq_true (by omega)
            have hwn : IntKind.i64.wrap ((n : Int) + 1) = ((n + 1 : Nat) : Int) := by rw [IntKind.wrap_i64]; omega
            have hun : (n : Int) % 256 = (n : Int) := by omega
            obtain ⟨c0, c1, c2, c3, c4, c5, c6, c7, c8, c9, c10, c11⟩ := lnC_cells hR3
            rw [Q1.out] at c7
            rw [Q2.out] at c10
            rw [Q3.out] at c8
            rw [Q4.out] at c9
            have hle : (P ++ preF l f ++ preN l f n).length ≤ 200 := by
              have a1 := HP.out; have a2 := preF_len l f; have a3 := preN_len l f n
              simp only [List.length_append]
              omega
            by_cases n0 : n = 0
            · have dz : decide ((0 : Int) < (n : Int)) = false := decide_eq_false (by omega)
              have hin : inL l f n = [(rwL l f 0 0, nmL l f 0 0)] := by unfold inL; rw [if_neg (by rw [Q3.out]; simp), if_neg (by rw [Q4.out]; simp), if_neg (by rw [Q3.out]; simp; omega)]
              have hf5 := HF5.out
              have K := KR.out l f 0 0 HM.out hf4 (by omega) (by omega)
              obtain ⟨rr, hrr⟩ : ∃ x, rwL l f 0 0 = x := ⟨_, rfl⟩
              obtain ⟨nn, hnn⟩ : ∃ x, nmL l f 0 0 = x := ⟨_, rfl⟩
              rw [hrr, hnn] at K hin
              have HIN := box hin
              clear hin hrr hnn
              go_wp2_with fail
              refine (K _).mono ?_
              rintro r9 w5 ⟨rfl, b5⟩
              have hO5 := hO3.below b5
              have hR5 := heap_of b5 _ _ _ hR3
              clear hO3 hR3 b5 c0 c1 c2 c3 c4 c5 c6 c7 c8 c9 c10 c11
              have hs5 := hO5.2.1.size
              have hs6 : w.heap.size < w5.heap.size := (Array.getElem?_eq_some_iff.1 hO5.2.2).1
              go_wp2_with (first | (refine wpl_one24 rfl _ rfl _ rfl rr ⟨nn.toArray⟩ rfl ?_) | (at_builtin; refine wpList_append_own_at _ rfl _ _ 51 rfl (w.heap.size + 1) 47 i0 (.agg #[.int .u8 0, .int .u8 0, .int .u8 0, .int .u8 0, .int .u32 0, .int .u32 0, .int .u8 0, .string ⟨#[]⟩]) 8 32 Tryd.underlying51 hi hz0 hz1 hz2 rfl (by decide) _ _ _ rfl (hO5.1.alloc _) ⟨w5.heap.size, 0, none⟩ 1 1 ((ndC rr ⟨nn.toArray⟩).toList) rfl rfl (new_cells24 _ (ndC rr ⟨nn.toArray⟩) _) (nm_one rr nn) (by unfold maxLen; omega) (by omega) (by simp only [size_al]; omega) ?_; intro v9 w6 hown9 hgrow9 hnil9 hblk9))
              obtain ⟨hR6, hn6⟩ := OutAt.keep hR5 hn3 hgrow9 hblk9
              have hA := hO5.app (p := (rr, nn)) hown9 hgrow9
              go_roundw
              case rel =>
                exact ⟨n + 1, by omega, by first | rfl | (simp; done) | (simp; omega), by rw [preN_next, HIN.out, ← List.append_assoc]; exact hA, hR6, hn6⟩
              case measure => simp [intOf]; omega
            · have dz : decide ((0 : Int) < (n : Int)) = true := decide_eq_true (by omega)
              have hin : inL l f n = [] := by unfold inL; rw [if_neg (by rw [Q3.out]; simp), if_neg (by rw [Q4.out]; simp), if_pos (Or.inr (by omega))]
              go_wp2
              go_roundw
              case rel => exact ⟨n + 1, by omega, by first | rfl | (simp; done) | (simp; omega), by rw [preN_next, hin, List.append_nil]; exact hO3, hR3, hn3⟩
              case measure => simp [intOf]; omega
    · obtain ⟨p1, p2, p3, p4⟩ := hpt
      have Q1 := box p1
      have Q2 := box p2
      have Q3 := box p3
      have Q4 := box p4
      have HF5 := box (lnC_fold2 l _ _ _ _ p1 p2 p3 p4)
      clear p1 p2 p3 p4
      go_wp2_with fail
      go_wp2
      go_loopw [1, 5] (fun v fv wx => ∃ f : Nat, f ≤ 4 ∧ fv = .int .u8 (f : Int) ∧ OutAt w wx v (P ++ preF l f) ∧ wx.heap[wo.heap.size]? = some (.cells (lnC l) 78) ∧ v.ownBlock ≠ some wo.heap.size) (fun _ fv _ => 4 - (intOf fv).toNat)
      case atStart => exact ⟨0, Nat.zero_le _, rfl, by rw [show preF l 0 = [] from rfl, List.append_nil]; exact HOV.out, hRV, HNE.out _ HO.out⟩
      case round =>
        obtain ⟨f, hf, rfl, hO2, hR2, hn2⟩ := hrel
        by_cases hfl : f < 4
        case neg =>
          have f4 : f = 4 := by omega
          subst f4
          go_wp2
          go_roundw
          case rel => exact ⟨k + 1, by omega, by first | rfl | (simp; done) | (simp; omega), by rw [HN.out]; exact hO2⟩
          case measure => simp [intOf]; omega
        have hf4 := hfl
        have df : decide ((f : Int) < 4) = true := decide_eq_true (by omega)
        have hwf : (f : Int) % 256 = (f : Int) := by omega
        have hwf1 : IntKind.u8.wrap ((f : Int) + 1) = ((f + 1 : Nat) : Int) := by rw [IntKind.wrap_u8]; omega
        obtain ⟨c0, c1, c2, c3, c4, c5, c6, c7, c8, c9, c10, c11⟩ := lnC_cells hR2
        rw [Q1.out] at c7
        rw [Q2.out] at c10
        by_cases q3 : f = 0
        · have dq : decide ((0 : Int) < (f : Int)) = false := decide_eq_false (by omega)
          have HGO : Box (¬ (l.noq = true ∧ f = 3 ∨ l.nof = true ∧ 0 < f)) := box (by rw [Q1.out, q3]; simp)
          have dq2 : (0 < f) = False := eq_false (by omega)
          clear q3
          go_wp2
          clear dq2
          clear c0 c1 c2 c3 c4 c5 c6 c7 c8 c9 c10 c11
          go_loopw [1, 6] (fun v nv wx => ∃ n : Nat, n ≤ 4 ∧ nv = .int .i64 (n : Int) ∧ OutAt w wx v (P ++ preF l f ++ preN l f n) ∧ wx.heap[wo.heap.size]? = some (.cells (lnC l) 78) ∧ v.ownBlock ≠ some wo.heap.size) (fun _ nv _ => 4 - (intOf nv).toNat)
          case atStart => exact ⟨0, Nat.zero_le _, rfl, by rw [show preN l f 0 = [] from rfl, List.append_nil]; exact hO2, hR2, hn2⟩
          case round =>
            clear hO2 hR2 hn2
            obtain ⟨n, hn, rfl, hO3, hR3, hn3⟩ := hrel
            by_cases hnl : n < 4
            case neg =>
              have n4 : n = 4 := by omega
              subst n4
              have dn : decide ((4 : Int) < 4) = false := rfl
              go_wp2
              go_roundw
              case rel => exact ⟨f + 1, by omega, by first | rfl | (simp; done) | (simp; omega), by rw [preF_next, form_go (l := l) (f := f) HGO.out, ← List.append_assoc]; exact hO3, hR3, hn3⟩
              case measure => simp [intOf]; omega
            have dn : decide ((n : Int) < 4) = true := decide_eq_true (by omega)
            have hwn : IntKind.i64.wrap ((n : Int) + 1) = ((n + 1 : Nat) : Int) := by rw [IntKind.wrap_i64]; omega
            have hun : (n : Int) % 256 = (n : Int) := by omega
            obtain ⟨c0, c1, c2, c3, c4, c5, c6, c7, c8, c9, c10, c11⟩ := lnC_cells hR3
            rw [Q1.out] at c7
            rw [Q2.out] at c10
            rw [Q3.out] at c8
            rw [Q4.out] at c9
            have hle : (P ++ preF l f ++ preN l f n).length ≤ 200 := by
              have a1 := HP.out; have a2 := preF_len l f; have a3 := preN_len l f n
              simp only [List.length_append]
              omega
            by_cases n0 : n = 0
            · have dz : decide ((0 : Int) < (n : Int)) = false := decide_eq_false (by omega)
              have hin : inL l f n = [(rwL l f 0 0, nmL l f 0 0)] := by unfold inL; rw [if_neg (by rw [Q3.out]; simp), if_neg (by rw [Q4.out]; simp), if_neg (by rw [Q3.out]; simp; omega)]
              have hf5 := HF5.out
              have K := KR.out l f 0 0 HM.out hf4 (by omega) (by omega)
              obtain ⟨rr, hrr⟩ : ∃ x, rwL l f 0 0 = x := ⟨_, rfl⟩
              obtain ⟨nn, hnn⟩ : ∃ x, nmL l f 0 0 = x := ⟨_, rfl⟩
              rw [hrr, hnn] at K hin
              have HIN := box hin
              clear hin hrr hnn
              go_wp2_with fail
              refine (K _).mono ?_
              rintro r9 w5 ⟨rfl, b5⟩
              have hO5 := hO3.below b5
              have hR5 := heap_of b5 _ _ _ hR3
              clear hO3 hR3 b5 c0 c1 c2 c3 c4 c5 c6 c7 c8 c9 c10 c11
              have hs5 := hO5.2.1.size
              have hs6 : w.heap.size < w5.heap.size := (Array.getElem?_eq_some_iff.1 hO5.2.2).1
              go_wp2_with (first | (refine wpl_one24 rfl _ rfl _ rfl rr ⟨nn.toArray⟩ rfl ?_) | (at_builtin; refine wpList_append_own_at _ rfl _ _ 51 rfl (w.heap.size + 1) 47 i0 (.agg #[.int .u8 0, .int .u8 0, .int .u8 0, .int .u8 0, .int .u32 0, .int .u32 0, .int .u8 0, .string ⟨#[]⟩]) 8 32 Tryd.underlying51 hi hz0 hz1 hz2 rfl (by decide) _ _ _ rfl (hO5.1.alloc _) ⟨w5.heap.size, 0, none⟩ 1 1 ((ndC rr ⟨nn.toArray⟩).toList) rfl rfl (new_cells24 _ (ndC rr ⟨nn.toArray⟩) _) (nm_one rr nn) (by unfold maxLen; omega) (by omega) (by simp only [size_al]; omega) ?_; intro v9 w6 hown9 hgrow9 hnil9 hblk9))
              obtain ⟨hR6, hn6⟩ := OutAt.keep hR5 hn3 hgrow9 hblk9
              have hA := hO5.app (p := (rr, nn)) hown9 hgrow9
              go_roundw
              case rel =>
                exact ⟨n + 1, by omega, by first | rfl | (simp; done) | (simp; omega), by rw [preN_next, HIN.out, ← List.append_assoc]; exact hA, hR6, hn6⟩
              case measure => simp [intOf]; omega
            · have dz : decide ((0 : Int) < (n : Int)) = true := decide_eq_true (by omega)
              have hin : inL l f n = [] := by unfold inL; rw [if_neg (by rw [Q3.out]; simp), if_neg (by rw [Q4.out]; simp), if_pos (Or.inr (by omega))]
              go_wp2
              go_roundw
              case rel => exact ⟨n + 1, by omega, by first | rfl | (simp; done) | (simp; omega), by rw [preN_next, hin, List.append_nil]; exact hO3, hR3, hn3⟩
              case measure => simp [intOf]; omega
        · have dq : decide ((0 : Int) < (f : Int)) = true := decide_eq_true (by omega)
          go_wp2
          go_roundw
          case rel => exact ⟨f + 1, by omega, by first | rfl | (simp; done) | (simp; omega), by rw [preF_next, form_skip (Or.inr ⟨Q2.out, by omega⟩), List.append_nil]; exact hO2, hR2, hn2⟩
          case measure => simp [intOf]; omega
def mdL (l : Nat) : Bool := decide (l = 3 ∨ l = 4 ∨ l = 6)
def rmB (x : Nat) : Bool := decide (x / 4096 % 8 = 5 ∨ x / 4096 % 8 = 6)
def crB (x : Nat) : Bool := decide (1 ≤ x / 1048576 ∧ x / 1048576 ≤ 3)
theorem fits_parts (r : Rw) (x : Nat) (h : x &&& r.mask = r.mtch &&& r.mask) : fitsL r x = (!(mdL r.lay && rmB x) && (!decide (r.lay = 8 ∨ r.lay = 9) || crB x)) := by
  unfold fitsL mdL rmB crB
  rw [decide_eq_true h, Bool.true_and]
theorem b24_row (l : Ln) (f g k : Nat) (hl : l ∈ linesL) (hf : f < 4) (hg : g < 4) (hk : k < 4) (w : World) : Calls Tryd.prog 32 #[.agg (lnC l), .int .u8 (f : Nat), .int .u8 (g : Nat), .int .u8 (k : Nat)] w fun r w' => r = .returned (.agg (ndC (rwL l f g k) ⟨(nmL l f g k).toArray⟩)) ∧ Below w.heap.size w w' := by
  simp only [linesL, List.mem_cons, List.not_mem_nil, or_false] at hl
  rcases hl with rfl | rfl | rfl | rfl | rfl | rfl | rfl | rfl | rfl | rfl | rfl | rfl | rfl | rfl | rfl | rfl | rfl | rfl | rfl | rfl | rfl | rfl | rfl | rfl | rfl | rfl | rfl | rfl | rfl | rfl | rfl
  · exact b24_l0 f g k hf hg hk w
  · exact b24_l1 f g k hf hg hk w
  · exact b24_l2 f g k hf hg hk w
  · exact b24_l3 f g k hf hg hk w
  · exact b24_l4 f g k hf hg hk w
  · exact b24_l5 f g k hf hg hk w
  · exact b24_l6 f g k hf hg hk w
  · exact b24_l7 f g k hf hg hk w
  · exact b24_l8 f g k hf hg hk w
  · exact b24_l9 f g k hf hg hk w
  · exact b24_l10 f g k hf hg hk w
  · exact b24_l11 f g k hf hg hk w
  · exact b24_l12 f g k hf hg hk w
  · exact b24_l13 f g k hf hg hk w
  · exact b24_l14 f g k hf hg hk w
  · exact b24_l15 f g k hf hg hk w
  · exact b24_l16 f g k hf hg hk w
  · exact b24_l17 f g k hf hg hk w
  · exact b24_l18 f g k hf hg hk w
  · exact b24_l19 f g k hf hg hk w
  · exact b24_l20 f g k hf hg hk w
  · exact b24_l21 f g k hf hg hk w
  · exact b24_l22 f g k hf hg hk w
  · exact b24_l23 f g k hf hg hk w
  · exact b24_l24 f g k hf hg hk w
  · exact b24_l25 f g k hf hg hk w
  · exact b24_l26 f g k hf hg hk w
  · exact b24_l27 f g k hf hg hk w
  · exact b24_l28 f g k hf hg hk w
  · exact b24_l29 f g k hf hg hk w
  · exact b24_l30 f g k hf hg hk w
theorem rAll24 (w : World) : Calls Tryd.prog 18 #[] w fun r w' => ∃ v, r = .returned v ∧ OwnsAll w w' v := by
  refine (b24_all w (box b24_row)).mono ?_
  rintro r w' ⟨v, rfl, h⟩
  obtain ⟨g, cap, h1, h2, h3⟩ := own_nds h.1 (by rw [allL_len]; decide)
  rw [allL_len] at h1
  exact ⟨v, rfl, g, cap, h1, h2, h3, h.2.1⟩
theorem fit24 (p : Nm) (hp : p ∈ allL) : p.1.mask < 4294967296 ∧ p.1.mtch < 4294967296 := by
  have := List.all_eq_true.1 maskL p hp
  simp only [decide_eq_true_iff] at this
  exact this.2
def fdL (x : Nat) : Option Nm := fstL fun p => fitsL p.1 x
def ndO (o : Option Nm) : Nm := o.getD (rwZ, [])
def erO (o : Option Nm) : Int := if o.isSome then 0 else 240
def ofR24 (o f g k : Int) : Option Nm := if o < 1 ∨ 31 < o then none else fstL (ofB o f g k)
def erF (o f g k : Int) : Int := if o < 1 ∨ 31 < o then 2 else erO (fstL (ofB o f g k))
theorem rOf24 (o f g k : Int) (rr : Rw) (nn : List UInt8) (e : Int) (h : ndO (ofR24 o f g k) = (rr, nn)) (h2 : erF o f g k = e) (w : World) : Calls Tryd.prog 26 #[.int .u8 o, .int .u8 f, .int .u8 g, .int .u8 k] w fun r w' => r = .returned (.tuple #[.agg (ndC rr ⟨nn.toArray⟩), .int .i64 e]) ∧ Below w.heap.size w w' := by
  unfold ofR24 at h
  unfold erF at h2
  by_cases c : o < 1 ∨ 31 < o
  · rw [if_pos c] at h h2
    cases h
    subst h2
    exact b24_of_no o f g k c w
  · rw [if_neg c] at h h2
    refine b24_of o f g k (decide_eq_false (by omega)) (decide_eq_false (by omega)) w (box rAll24) rr nn e (box ?_)
    cases z : fstL (ofB o f g k) with
    | some p => rw [z] at h h2; exact ⟨h, h2.symm⟩
    | none => rw [z] at h h2; cases h; exact ⟨rfl, rfl, h2.symm⟩
theorem ndC_cells {w : World} {b : Nat} {r : Rw} {s : ByteArray} {T : TypeId} (h : w.heap[b]? = some (.cells (ndC r s) T)) : w.cell? ⟨b, 0, none⟩ = some (.int .u8 (r.op : Nat)) ∧ w.cell? ⟨b, 1, none⟩ = some (.int .u8 (r.form : Nat)) ∧ w.cell? ⟨b, 2, none⟩ = some (.int .u8 (r.frm : Nat)) ∧ w.cell? ⟨b, 3, none⟩ = some (.int .u8 (r.kind : Nat)) ∧ w.cell? ⟨b, 4, none⟩ = some (.int .u32 (r.mask : Nat)) ∧ w.cell? ⟨b, 5, none⟩ = some (.int .u32 (r.mtch : Nat)) ∧ w.cell? ⟨b, 6, none⟩ = some (.int .u8 (r.lay : Nat)) ∧ w.cell? ⟨b, 7, none⟩ = some (.string s) :=
  ⟨cells4 h 0 _ rfl, cells4 h 1 _ rfl, cells4 h 2 _ rfl, cells4 h 3 _ rfl, cells4 h 4 _ rfl, cells4 h 5 _ rfl, cells4 h 6 _ rfl, cells4 h 7 _ rfl⟩
theorem ndC_new (w : World) (b : Nat) (r : Rw) (s : ByteArray) (hb : b = w.heap.size) : (storeCells ⟨b, 0, none⟩ (ndC r s).toList 0).run Tryd.prog (w.alloc (.cells #[.int .u8 0, .int .u8 0, .int .u8 0, .int .u8 0, .int .u32 0, .int .u32 0, .int .u8 0, .string ⟨#[]⟩] 47)) = .ok () (w.alloc (.cells (ndC r s) 47)) := by
  subst hb
  exact run_storeCells_new (P := Tryd.prog) w 47 #[.int .u8 0, .int .u8 0, .int .u8 0, .int .u8 0, .int .u32 0, .int .u32 0, .int .u8 0, .string ⟨#[]⟩] (ndC r s) (by kernel_rfl) rfl (by simp [ndC]; exact ⟨rfl, rfl, rfl, rfl, rfl, rfl, rfl, rfl⟩)
theorem pair24 {j k : Nat} {p q : Nm} (hp : allL[j]? = some p) (hq : allL[k]? = some q) (h : j < k) : (p.1.mask &&& q.1.mask) &&& (p.1.mtch ^^^ q.1.mtch) ≠ 0 := by
  have a := List.all_eq_true.1 pairsL (p, j) (List.mem_zipIdx_iff_getElem?.2 hp)
  have b := List.all_eq_true.1 a (q, k) (List.mem_zipIdx_iff_getElem?.2 hq)
  simp only [Bool.or_eq_true, decide_eq_true_eq] at b
  rcases b with b | b
  · omega
  · exact b
theorem fits_mask {r : Rw} {x : Nat} (h : fitsL r x = true) : x &&& r.mask = r.mtch &&& r.mask := by
  unfold fitsL at h
  simp only [Bool.and_eq_true, decide_eq_true_eq] at h
  exact h.1.1
theorem lt24 {x j k : Nat} {p q : Nm} (hp : allL[j]? = some p) (hq : allL[k]? = some q) (h1 : fitsL p.1 x = true) (h2 : fitsL q.1 x = true) : ¬ j < k := by
  intro h
  apply pair24 hp hq h
  have e1 := fits_mask h1
  have e2 := fits_mask h2
  apply Nat.eq_of_testBit_eq
  intro i
  have t1 := congrArg (Nat.testBit · i) e1
  have t2 := congrArg (Nat.testBit · i) e2
  simp only [Nat.testBit_and, Nat.testBit_xor, Nat.zero_testBit] at t1 t2 ⊢
  revert t1 t2
  cases x.testBit i <;> cases p.1.mask.testBit i <;> cases q.1.mask.testBit i <;> cases p.1.mtch.testBit i <;> cases q.1.mtch.testBit i <;> decide
theorem one24 {x j k : Nat} {p q : Nm} (hp : allL[j]? = some p) (hq : allL[k]? = some q) (h1 : fitsL p.1 x = true) (h2 : fitsL q.1 x = true) : j = k := by
  have a := lt24 hp hq h1 h2
  have b := lt24 hq hp h2 h1
  omega
theorem fd_some {x j : Nat} {p : Nm} (hp : allL[j]? = some p) (h : fitsL p.1 x = true) : fdL x = some p :=
  fst_yes (fun i q hi hq => by
    cases c : fitsL q.1 x
    · rfl
    · exact absurd (one24 hq hp c h) (by omega)) hp h
def RwsAt (w : World) (g a : Nat) (l : List Nm) : Prop := ∃ cur, w.heap[g]? = some (.cells cur 45) ∧ ∀ k p, a ≤ k → l[k]? = some p → ∀ j u, j < 7 → (rwC p.1)[j]? = some u → cur[k * 7 + j]? = some u
theorem RwsAt.below {w w' : World} {g a : Nat} {l : List Nm} (h : RwsAt w g a l) (hb : Below w.heap.size w w') : RwsAt w' g a l := by
  obtain ⟨cur, h1, h2⟩ := h
  exact ⟨cur, heap_of hb _ _ _ h1, h2⟩
theorem RwsAt.cells {w : World} {g a : Nat} {l : List Nm} (h : RwsAt w g a l) {k : Nat} {r : Rw} {s : List UInt8} (ha : a ≤ k) (hp : l[k]? = some (r, s)) :
    w.cell? ⟨g, k * 7, none⟩ = some (.int .u8 (r.op : Nat)) ∧ w.cell? ⟨g, k * 7 + 1, none⟩ = some (.int .u8 (r.form : Nat)) ∧ w.cell? ⟨g, k * 7 + 2, none⟩ = some (.int .u8 (r.frm : Nat)) ∧ w.cell? ⟨g, k * 7 + 3, none⟩ = some (.int .u8 (r.kind : Nat)) ∧ w.cell? ⟨g, k * 7 + 4, none⟩ = some (.int .u32 (r.mask : Nat)) ∧ w.cell? ⟨g, k * 7 + 5, none⟩ = some (.int .u32 (r.mtch : Nat)) ∧ w.cell? ⟨g, k * 7 + 6, none⟩ = some (.int .u8 (r.lay : Nat)) := by
  obtain ⟨cur, h1, h2⟩ := h
  have e := fun j (hj : j < 7) u (hu : (rwC r)[j]? = some u) => cell7 h1 (k * 7 + j) u (h2 k (r, s) ha hp j u hj hu)
  exact ⟨e 0 (by decide) _ rfl, e 1 (by decide) _ rfl, e 2 (by decide) _ rfl, e 3 (by decide) _ rfl, e 4 (by decide) _ rfl, e 5 (by decide) _ rfl, e 6 (by decide) _ rfl⟩
def OwnsRws (w w' : World) (v : Value) : Prop := ∃ g cap, v = .slice (some ⟨g, 0, none⟩) 136 cap ∧ w.heap.size ≤ g ∧ RwsAt w' g 0 allL ∧ Below w.heap.size w w'
def FoundTo (x k n : Nat) (o : Rw) : Prop := (n = 0 ∧ o = rwZ ∧ ∀ j p, j < k → allL[j]? = some p → fitsL p.1 x = false) ∨ (n = 1 ∧ ∃ j p, j < k ∧ allL[j]? = some p ∧ fitsL p.1 x = true ∧ o = p.1)
theorem FoundTo.yes {x k n : Nat} {o : Rw} (h : FoundTo x k n o) {p : Nm} (hp : allL[k]? = some p) (hf : fitsL p.1 x = true) : n = 0 ∧ FoundTo x (k + 1) (n + 1) p.1 := by
  rcases h with ⟨a, b, c⟩ | ⟨a, j, q, c, d, e, f⟩
  · exact ⟨a, Or.inr ⟨by omega, k, p, by omega, hp, hf, rfl⟩⟩
  · exact absurd (one24 d hp e hf) (by omega)
theorem FoundTo.fin {x n : Nat} {o : Rw} (h : FoundTo x 136 n o) : n ≤ 1 ∧ (fdL x).isSome = decide (n = 1) ∧ (ndO (fdL x)).1 = o := by
  rcases h with ⟨rfl, rfl, c⟩ | ⟨rfl, j, q, c, d, e, rfl⟩
  · have z : fdL x = none := fst_no c
    rw [z]
    exact ⟨by omega, rfl, rfl⟩
  · rw [fd_some d e]
    exact ⟨by omega, rfl, rfl⟩
theorem RwsAt.set {w : World} {g a o : Nat} {l : List Nm} {v : Value} (h : RwsAt w g a l) (ho : o < a * 7) : RwsAt (w.setCell ⟨g, o, none⟩ v) g a l := by
  obtain ⟨cur, h1, h2⟩ := h
  refine ⟨_, setCell_row h1, fun k p hk hp j u hj hu => ?_⟩
  rw [Array.getElem?_setIfInBounds_ne (by omega)]
  exact h2 k p hk hp j u hj hu
end Go.Proofs.YtaoccmopfflkmaaDoor
namespace Go.Proofs.YtaoccmopfflkmaaDoor
set_option maxRecDepth 100000
set_option maxHeartbeats 40000000
set_option maxRecDepth 100000
open Go.RowKit WMath
set_option linter.unusedSimpArgs false
set_option linter.unusedVariables false
open Go.Maps
def NmsAt (w : World) (b k : Nat) : Prop := ∃ (n : Nat) (D : DataW Unit), n ≤ k ∧ w.ownsMap Tryd.prog 9 (plainElem Tryd.prog 4) b n D ∧ ∀ j p, k ≤ j → allL[j]? = some p → D.atKey (.string p.2) (.lit (.bool false)) = .lit (.bool false)
theorem NmsAt.below {w w' : World} {b k : Nat} (h : NmsAt w b k) (hb : Below w.heap.size w w') : NmsAt w' b k := by
  obtain ⟨n, D, hn, ho, hd⟩ := h
  have lt := ho.lt
  obtain ⟨es, clock, h1, h2, h3, h4⟩ := ho
  exact ⟨n, D, hn, ⟨es, clock, (hb.block b lt).trans h1, h2, h3, h4⟩, hd⟩
theorem NmsAt.same {w w' : World} {b k : Nat} (h : NmsAt w b k) (hb : w'.heap[b]? = w.heap[b]?) : NmsAt w' b k := by
  obtain ⟨n, D, hn, ⟨es, clock, h1, h2, h3, h4⟩, hd⟩ := h
  exact ⟨n, D, hn, ⟨es, clock, hb.trans h1, h2, h3, h4⟩, hd⟩
end Go.Proofs.YtaoccmopfflkmaaDoor
namespace Go.Proofs.YtaoccmopfflkmaaDoor
set_option maxRecDepth 100000
set_option maxHeartbeats 40000000
set_option maxRecDepth 100000
open Go.RowKit Go.Shelf WMath
set_option linter.unusedVariables false
set_option linter.unusedSimpArgs false
attribute [local go_sem] Oper.semAt_some

theorem row_grq {W W' : World} {row : Option Nat} {B g : Nat} {o : Obj} (h : W.heap[g]? = some o) (hg : W.grownBy W' row) (hr : ∀ r, row = some r → B ≤ r) (hb : g < B) : W'.heap[g]? = some o := by
  rw [hg.block g (Array.getElem?_eq_some_iff.1 h).1 (fun e => by have := hr g e.symm; omega)]
  exact h
end Go.Proofs.YtaoccmopfflkmaaDoor
namespace Go.Proofs.YtaoccmopfflkmaaDoor
set_option maxRecDepth 100000
set_option maxHeartbeats 40000000
set_option maxRecDepth 100000
open Go.RowKit WMath
set_option linter.unusedVariables false
structure TopK (B : Nat) (W W' : World) : Prop where
  size : W.heap.size ≤ W'.heap.size
  same : ∀ k, B ≤ k → k < W.heap.size → W'.heap[k]? = W.heap[k]?
theorem TopK.refl (B : Nat) (W : World) : TopK B W W := ⟨Nat.le_refl _, fun _ _ _ => rfl⟩
theorem TopK.trans {B : Nat} {X Y Z : World} (h : TopK B X Y) (k : TopK B Y Z) : TopK B X Z :=
  ⟨Nat.le_trans h.size k.size, fun i a b => (k.same i a (Nat.lt_of_lt_of_le b h.size)).trans (h.same i a b)⟩
theorem TopK.mono {B C : Nat} {X Y : World} (h : TopK B X Y) (c : B ≤ C) : TopK C X Y := ⟨h.size, fun i a b => h.same i (Nat.le_trans c a) b⟩
theorem TopK.grown {B : Nat} {W W' : World} {row : Option Nat} (hg : W.grownBy W' row) (hr : ∀ r, row = some r → r < B) : TopK B W W' :=
  ⟨hg.size, fun k a b => hg.block k b (fun e => by have := hr k e.symm; omega)⟩
theorem TopK.setCell {B : Nat} (W : World) (b i : Nat) (v : Value) (h : b < B) : TopK B W (W.setCell ⟨b, i, none⟩ v) := by
  refine ⟨?_, fun k a c => setCell_other (by omega)⟩
  exact ((Below.refl 0 W).setCell (p := ⟨b, i, none⟩) (Nat.zero_le _) v).size
theorem TopK.alloc {B : Nat} (W : World) (o : Obj) : TopK B W (W.alloc o) :=
  ⟨((Below.refl 0 W).alloc (Nat.zero_le _) o).size, fun k a b => Below.heap_alloc W o k b⟩
theorem TopK.putObj {B : Nat} (W : World) (l : Nat) (o : Obj) (h : l < B) : TopK B W (W.putObj l o) := .grown (grownBy_putObj' W l o) (fun r e => by cases e; exact h)
theorem TopK.below {B : Nat} {W W' : World} (h : Below W.heap.size W W') : TopK B W W' := ⟨h.size, fun k a b => h.block k b⟩
theorem TopK.row {B : Nat} {W W' : World} (h : TopK B W W') {k : Nat} {o : Obj} (a : B ≤ k) (hk : W.heap[k]? = some o) : W'.heap[k]? = some o := (h.same k a (Array.getElem?_eq_some_iff.1 hk).1).trans hk
end Go.Proofs.YtaoccmopfflkmaaDoor
