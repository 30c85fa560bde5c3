/-
  What the functions that the statement reaches return: part 10 (DK, DL, DM, SL24).
-/
import Derived.Test.YtfdhglllmhggkaaDoorRows
import Derived.OpenShut
import Derived.LaidMore
import Derived.Lib.LaidTab
import Derived.Stop.Joined
import Derived.Stop.LaidErr
import Derived.Test.YtfdhglllmhggkaaDoorFa09
namespace Go.Proofs.YtfdhglllmhggkaaDoor
set_option maxRecDepth 100000
set_option maxHeartbeats 40000000
set_option maxRecDepth 100000
open Go.RowKit Go.Shelf WMath
set_option linter.unusedVariables false
set_option linter.unusedSimpArgs false
theorem rws_flt : ((List.range 32).all fun o => decide (rwsO o = (allL.map (·.1)).filter (fun r => decide (r.op = o)))) = true := by decide +kernel
def NoHead (nm : List UInt8) (s : ByteArray) : Prop := ∃ i, ∃ h : i < nm.length, (∀ j (hj : j < nm.length), j ≤ i → isMk nm[j].toNat = false) ∧ (s.size ≤ i ∨ ∃ hs : i < s.size, s.data[i] ≠ nm[i])
structure HhK (w : World) (g : Nat) (nm : List UInt8) (V : World) : Prop where
  b : Below w.heap.size w V
  c : ∀ i (h : i < nm.length), V.cell? ⟨g, i, none⟩ = some (.int .u8 (nm[i].toNat : Int))
theorem HhK.below {w : World} {g : Nat} {nm : List UInt8} {V V' : World} (h : HhK w g nm V) (b : Below V.heap.size V V') : HhK w g nm V' := ⟨h.b.trans (b.mono h.b.size), fun i hi => cellB b (h.c i hi)⟩
theorem HhK.start {w w1 : World} {nm : List UInt8} {cp : Nat} (B : Below w.heap.size w w1) : HhK w w1.heap.size nm (w1.drew.alloc (.cells (bytesRow ⟨nm.toArray⟩ cp) 5 ((bytesRow ⟨nm.toArray⟩ cp).size, (bytesRow ⟨nm.toArray⟩ cp).size + 1))) := by
  have hb : Below w1.heap.size w1 (w1.drew.alloc (.cells (bytesRow ⟨nm.toArray⟩ cp) 5 ((bytesRow ⟨nm.toArray⟩ cp).size, (bytesRow ⟨nm.toArray⟩ cp).size + 1))) := ((Below.refl _ w1).drew).alloc (Nat.le_refl _) _
  have hl : (w1.drew.alloc (.cells (bytesRow ⟨nm.toArray⟩ cp) 5 ((bytesRow ⟨nm.toArray⟩ cp).size, (bytesRow ⟨nm.toArray⟩ cp).size + 1))).heap[w1.heap.size]? = some (.cells (bytesRow ⟨nm.toArray⟩ cp) 5 ((bytesRow ⟨nm.toArray⟩ cp).size, (bytesRow ⟨nm.toArray⟩ cp).size + 1)) := heap_alloc_last w1.drew _
  refine ⟨B.trans (hb.mono B.size), fun i hi => ?_⟩
  have hx := bytesRow_at ⟨nm.toArray⟩ cp i (by simpa using hi)
  simp only [World.cell?, hl]
  simpa using hx
set_option maxRecDepth 100000 in
set_option maxHeartbeats 8000000 in
theorem t_hasHead (P : PlS) (nm : List UInt8) (s : ByteArray) (hs : s.size ≤ maxLen) (hPn : P.nm = ⟨nm.toArray⟩) (hlen : nm.length ≤ 8) (w : World) : Calls Tryd.prog 29 #[.agg #[.string P.nm, .int .u8 (P.opc : Nat), .int .u8 (P.rs3 : Nat), .int .u8 (P.rm : Nat), .int .u8 (P.lay : Nat)], .string s] w fun r w' => ∃ b : Bool, r = .returned (.bool b) ∧ (b = false → NoHead nm s) ∧ Below w.heap.size w w' := by
  have hcv : ∀ V : World, (convert 9 85 (.string P.nm)).run Tryd.prog V = .ok (.slice (some ⟨V.heap.size, 0, none⟩) nm.length (grownCap V nm.length 0 5)) (V.drew.alloc (.cells (bytesRow ⟨nm.toArray⟩ (grownCap V nm.length 0 5)) 5 ((bytesRow ⟨nm.toArray⟩ (grownCap V nm.length 0 5)).size, (bytesRow ⟨nm.toArray⟩ (grownCap V nm.length 0 5)).size + 1))) := fun V => by rw [hPn]; exact run_bytes_of_string V 9 85 5 ⟨nm.toArray⟩ Tryd.underlying9 Tryd.underlying85 Tryd.underlying5
  clear hPn
  obtain ⟨Rp_0, B0⟩ := opn1 w (Obj.cells #[.string P.nm, .int .u8 (P.opc : Nat), .int .u8 (P.rs3 : Nat), .int .u8 (P.rm : Nat), .int .u8 (P.lay : Nat)] 67)
  go_enter Tryd.func29, Tryd.ntmps29
  have cp_0_0 := cells4 Rp_0 0 _ rfl
  have cp_0_1 := cells4 Rp_0 1 _ rfl
  have cp_0_2 := cells4 Rp_0 2 _ rfl
  have cp_0_3 := cells4 Rp_0 3 _ rfl
  have cp_0_4 := cells4 Rp_0 4 _ rfl
  obtain ⟨cp, hcp⟩ : ∃ c, grownCap (w.alloc (.cells #[.string P.nm, .int .u8 (P.opc : Nat), .int .u8 (P.rs3 : Nat), .int .u8 (P.rm : Nat), .int .u8 (P.lay : Nat)] 67)) nm.length 0 5 = c := ⟨_, rfl⟩
  have hcv1 := hcv (w.alloc (.cells #[.string P.nm, .int .u8 (P.opc : Nat), .int .u8 (P.rs3 : Nat), .int .u8 (P.rm : Nat), .int .u8 (P.lay : Nat)] 67))
  rw [hcp] at hcv1
  have I0 := HhK.start (nm := nm) (cp := cp) B0
  obtain ⟨g, hg⟩ : ∃ g, (w.alloc (.cells #[.string P.nm, .int .u8 (P.opc : Nat), .int .u8 (P.rs3 : Nat), .int .u8 (P.rm : Nat), .int .u8 (P.lay : Nat)] 67)).heap.size = g := ⟨_, rfl⟩
  rw [hg] at hcv1 I0
  obtain ⟨wb, hwb⟩ : ∃ V, (w.alloc (.cells #[.string P.nm, .int .u8 (P.opc : Nat), .int .u8 (P.rs3 : Nat), .int .u8 (P.rm : Nat), .int .u8 (P.lay : Nat)] 67)).drew.alloc (.cells (bytesRow ⟨nm.toArray⟩ cp) 5 ((bytesRow ⟨nm.toArray⟩ cp).size, (bytesRow ⟨nm.toArray⟩ cp).size + 1)) = V := ⟨_, rfl⟩
  rw [hwb] at hcv1 I0
  clear hwb hcv hcp hg B0 Rp_0
  go_wp2
  go_loopw [11] (fun iv wr => ∃ i : Nat, i ≤ nm.length ∧ iv = .int .i64 (i : Int) ∧ HhK w g nm wr ∧ Box (∀ j (hj : j < nm.length), j < i → isMk nm[j].toNat = false)) (fun iv _ => nm.length - (intOf iv).toNat)
  case atStart => exact ⟨0, Nat.zero_le _, rfl, I0, box (fun j hj h => absurd h (by omega))⟩
  case round =>
    clear I0 hcv1 cp_0_0 cp_0_1 cp_0_2 cp_0_3 cp_0_4
    obtain ⟨i, hi, rfl, HI, HN⟩ := hrel
    obtain ⟨wo, rfl⟩ : ∃ wo, wo = wr := ⟨_, rfl⟩
    by_cases hlt : i < nm.length
    case neg =>
      have d1 : decide ((i : Int) < (nm.length : Int)) = false := decide_eq_false (by omega)
      have HB := HI.b
      clear HI
      go_wp2
      go_ret
      exact ⟨true, rfl, fun h => (by cases h), HB⟩
    have d1 : decide ((i : Int) < (nm.length : Int)) = true := decide_eq_true (by omega)
    have d2 : decide ((nm.length : Int) ≤ (i : Int)) = false := decide_eq_false (by omega)
    have w1' : IntKind.i64.wrap ((i : Int) + 1) = ((i + 1 : Nat) : Int) := by rw [IntKind.wrap_i64]; omega
    obtain ⟨c, hcE⟩ : ∃ c, nm[i] = c := ⟨_, rfl⟩
    have cg := HI.c i hlt
    rw [hcE] at cg
    have HCE := box hcE
    clear hcE
    have KM := k_isMark c.toNat
    have hcw : c.toNat < 256 := c.toNat_lt
    go_wp2_with fail
    refine (KM.out _).mono ?_
    rintro r w2 ⟨rfl, b2⟩
    have H2 := HI.below b2
    clear HI cg b2
    cases hmk : isMk c.toNat
    · by_cases hsz : i < s.size
      · have e1 : decide ((s.size : Int) ≤ (i : Int)) = false := decide_eq_false (by omega)
        have e2 : decide ((i : Int) < (s.size : Int)) = true := decide_eq_true (by omega)
        have hix : (Instr.index 9 (.string s) (.int .i64 (i : Int))).run Tryd.prog w2 = .ok (.int .u8 ((s.data[i]'hsz).toNat : Int)) w2 := idx_run s i (i : Int) _ rfl hsz rfl w2
        obtain ⟨d, hd⟩ : ∃ d, s.data[i]'hsz = d := ⟨_, rfl⟩
        rw [hd] at hix
        by_cases hdc : d = c
        · have e3 : ((d.toNat : Int) != (c.toNat : Int)) = false := by rw [hdc]; simp
          go_wp2
          go_roundw
          case rel => exact ⟨i + 1, by omega, by first | rfl | (simp; done) | (simp; omega), H2, box (fun j hj h => by
            by_cases e : j = i
            · subst e; rw [HCE.out]; exact hmk
            · exact HN.out j hj (by omega))⟩
          case measure => simp [intOf]; omega
        · have e3 : ((d.toNat : Int) != (c.toNat : Int)) = true := by
            simp only [bne_iff_ne, ne_eq]
            intro h
            exact hdc (UInt8.toNat_inj.1 (by omega))
          have HB := H2.b
          go_wp2
          go_ret
          exact ⟨false, rfl, fun _ => ⟨i, hlt, fun j hj h => by
            by_cases e : j = i
            · subst e; rw [HCE.out]; exact hmk
            · exact HN.out j hj (by omega), .inr ⟨hsz, by rw [hd, HCE.out]; exact hdc⟩⟩, HB⟩
      · have e1 : decide ((s.size : Int) ≤ (i : Int)) = true := decide_eq_true (by omega)
        have HB := H2.b
        go_wp2
        go_ret
        exact ⟨false, rfl, fun _ => ⟨i, hlt, fun j hj h => by
          by_cases e : j = i
          · subst e; rw [HCE.out]; exact hmk
          · exact HN.out j hj (by omega), .inl (by omega)⟩, HB⟩
    · have HB := H2.b
      go_wp2
      go_ret
      exact ⟨true, rfl, fun h => (by cases h), HB⟩
theorem ofP_of (o f g k : Nat) (h1 : 1 ≤ o) (h2 : o < 32) : (ofR24 o f g k).map (·.1) = ofP o f g k := by
  unfold ofR24 ofP fstL
  rw [if_neg (by omega)]
  have e : rwsO o = (allL.map (·.1)).filter (fun r => decide (r.op = o)) := by
    have := List.all_eq_true.1 rws_flt o (List.mem_range.2 h2)
    exact of_decide_eq_true this
  rw [e, List.find?_filter, List.find?_map]
  congr 2
  funext p
  show ofB o f g k p = _
  simp only [Function.comp]
  rw [Bool.eq_iff_iff]
  unfold ofB ofQ
  simp
  omega
theorem k_of (o f g k : Nat) (ho : o < 256) (hE : ∀ args w, (callFunc 33 args).run Tryd.prog w = .ok (.enter 33 args) w) : Box (∀ w, T24 w → Calls Tryd.prog 21 #[.int .u8 (o : Nat), .int .u8 (f : Nat), .int .u8 (g : Nat), .int .u8 (k : Nat)] w fun r w' => r = .returned (.tuple #[.agg (rwC (ndO (ofR24 o f g k)).1), .int .i64 (erF o f g k)]) ∧ Below w.heap.size w w') := box (fun w hT => by
  by_cases h : o = 0 ∨ 32 ≤ o
  · have e1 : ofR24 o f g k = none := by unfold ofR24; rw [if_pos (by omega)]
    have e2 : erF o f g k = 2 := by unfold erF; rw [if_pos (by omega)]
    rw [e1, e2]
    exact t_of_no o f g k ho h w hT
  · have q := ofP_of o f g k (by omega) (by omega)
    refine t_of_go o f g k ho (by omega) (by omega) _ _ ?_ hE w hT
    have e2 : erF o f g k = erO (ofR24 o f g k) := by unfold erF ofR24; rw [if_neg (by omega), if_neg (by omega)]
    rw [e2]
    cases z : ofR24 o f g k with
    | none => rw [z] at q; rw [← q]; rfl
    | some p => rw [z] at q; rw [← q]; rfl)
theorem of_all : (allL.all fun p => decide (ofR24 p.1.op p.1.form p.1.frm p.1.kind = some p)) = true := by decide +kernel
set_option maxRecDepth 100000 in
set_option maxHeartbeats 8000000 in
theorem t_name_no (q : Rw) (ro : Rw) (er : Int) (he : (er != 0) = true) (KO : Box (∀ w, T24 w → Calls Tryd.prog 21 #[.int .u8 (q.op : Nat), .int .u8 (q.form : Nat), .int .u8 (q.frm : Nat), .int .u8 (q.kind : Nat)] w fun r w' => r = .returned (.tuple #[.agg (rwC ro), .int .i64 er]) ∧ Below w.heap.size w w')) (w : World) (hT : T24 w) : Calls Tryd.prog 12 #[.agg (rwC q)] w fun r w' => r = .returned (.tuple #[.string ⟨#[]⟩, .int .i64 240]) ∧ Below w.heap.size w w' := by
  have FF := box hT
  clear hT
  have hro := rwC_fold ro
  have hrn := rwC_new
  obtain ⟨Rr_0, B0⟩ := opn1 w (Obj.cells (rwC q) 36)
  go_enter Tryd.func12, Tryd.ntmps12
  obtain ⟨cr_0_0, cr_0_1, cr_0_2, cr_0_3, cr_0_4, cr_0_5, cr_0_6⟩ := rwC_cells Rr_0
  go_wp2_with fail
  refine (KO.out _ (t24B FF.out B0)).mono ?_
  rintro r w1 ⟨rfl, b1⟩
  have B1 : Below w.heap.size w w1 := btr B0 b1
  have Rr_1 := heap_of b1 _ _ _ Rr_0
  clear b1 B0 Rr_0 cr_0_0 cr_0_1 cr_0_2 cr_0_3 cr_0_4 cr_0_5 cr_0_6
  obtain ⟨cr_1_0, cr_1_1, cr_1_2, cr_1_3, cr_1_4, cr_1_5, cr_1_6⟩ := rwC_cells Rr_1
  have S2 := box B1.size
  have Lr_2 : Box (w.heap.size < w1.heap.size) := box (Array.getElem?_eq_some_iff.1 Rr_1).1
  have Ra_2 := heap_alloc_last w1 (Obj.cells (rwC ro) 36)
  have B2 := btr B1 (bal w1 (Obj.cells (rwC ro) 36))
  have Rr_2 := heap_of (bal w1 (Obj.cells (rwC ro) 36)) _ _ _ Rr_1
  clear B1 Rr_1 cr_1_0 cr_1_1 cr_1_2 cr_1_3 cr_1_4 cr_1_5 cr_1_6
  obtain ⟨cr_2_0, cr_2_1, cr_2_2, cr_2_3, cr_2_4, cr_2_5, cr_2_6⟩ := rwC_cells Rr_2
  obtain ⟨ca_2_0, ca_2_1, ca_2_2, ca_2_3, ca_2_4, ca_2_5, ca_2_6⟩ := rwC_cells Ra_2
  go_wp2
  go_ret2
  exact ⟨rfl, B2⟩
set_option maxRecDepth 100000 in
set_option maxHeartbeats 8000000 in
theorem t_name_ne (q : Rw) (ro : Rw) (hne : rwE ro q = false) (KO : Box (∀ w, T24 w → Calls Tryd.prog 21 #[.int .u8 (q.op : Nat), .int .u8 (q.form : Nat), .int .u8 (q.frm : Nat), .int .u8 (q.kind : Nat)] w fun r w' => r = .returned (.tuple #[.agg (rwC ro), .int .i64 0]) ∧ Below w.heap.size w w')) (w : World) (hT : T24 w) : Calls Tryd.prog 12 #[.agg (rwC q)] w fun r w' => r = .returned (.tuple #[.string ⟨#[]⟩, .int .i64 240]) ∧ Below w.heap.size w w' := by
  have FF := box hT
  clear hT
  have hrq := rwC_fold q
  have hro := rwC_fold ro
  have hrn := rwC_new
  have heq := eqr ro q
  obtain ⟨Rr_0, B0⟩ := opn1 w (Obj.cells (rwC q) 36)
  go_enter Tryd.func12, Tryd.ntmps12
  obtain ⟨cr_0_0, cr_0_1, cr_0_2, cr_0_3, cr_0_4, cr_0_5, cr_0_6⟩ := rwC_cells Rr_0
  go_wp2_with fail
  refine (KO.out _ (t24B FF.out B0)).mono ?_
  rintro r w1 ⟨rfl, b1⟩
  have B1 : Below w.heap.size w w1 := btr B0 b1
  have Rr_1 := heap_of b1 _ _ _ Rr_0
  clear b1 B0 Rr_0 cr_0_0 cr_0_1 cr_0_2 cr_0_3 cr_0_4 cr_0_5 cr_0_6
  obtain ⟨cr_1_0, cr_1_1, cr_1_2, cr_1_3, cr_1_4, cr_1_5, cr_1_6⟩ := rwC_cells Rr_1
  have S2 := box B1.size
  have Lr_2 : Box (w.heap.size < w1.heap.size) := box (Array.getElem?_eq_some_iff.1 Rr_1).1
  have Ra_2 := heap_alloc_last w1 (Obj.cells (rwC ro) 36)
  have B2 := btr B1 (bal w1 (Obj.cells (rwC ro) 36))
  have Rr_2 := heap_of (bal w1 (Obj.cells (rwC ro) 36)) _ _ _ Rr_1
  clear B1 Rr_1 cr_1_0 cr_1_1 cr_1_2 cr_1_3 cr_1_4 cr_1_5 cr_1_6
  obtain ⟨cr_2_0, cr_2_1, cr_2_2, cr_2_3, cr_2_4, cr_2_5, cr_2_6⟩ := rwC_cells Rr_2
  obtain ⟨ca_2_0, ca_2_1, ca_2_2, ca_2_3, ca_2_4, ca_2_5, ca_2_6⟩ := rwC_cells Ra_2
  go_wp2
  go_ret2
  exact ⟨rfl, B2⟩
set_option maxRecDepth 100000 in
set_option maxHeartbeats 8000000 in
theorem t_name_y (q : Rw) (s : ByteArray) (heE : rwE q q = true) (KO : Box (∀ w, T24 w → Calls Tryd.prog 21 #[.int .u8 (q.op : Nat), .int .u8 (q.form : Nat), .int .u8 (q.frm : Nat), .int .u8 (q.kind : Nat)] w fun r w' => r = .returned (.tuple #[.agg (rwC q), .int .i64 0]) ∧ Below w.heap.size w w')) (KN : Box (∀ w, T24 w → Calls Tryd.prog 28 #[.agg (rwC q)] w fun r w' => r = .returned (.string s) ∧ Below w.heap.size w w')) (w : World) (hT : T24 w) : Calls Tryd.prog 12 #[.agg (rwC q)] w fun r w' => r = .returned (.tuple #[.string s, .int .i64 0]) ∧ Below w.heap.size w w' := by
  have FF := box hT
  clear hT
  have hrq := rwC_fold q
  have hrn := rwC_new
  have heq := eqr q q
  obtain ⟨Rr_0, B0⟩ := opn1 w (Obj.cells (rwC q) 36)
  go_enter Tryd.func12, Tryd.ntmps12
  obtain ⟨cr_0_0, cr_0_1, cr_0_2, cr_0_3, cr_0_4, cr_0_5, cr_0_6⟩ := rwC_cells Rr_0
  go_wp2_with fail
  refine (KO.out _ (t24B FF.out B0)).mono ?_
  rintro r w1 ⟨rfl, b1⟩
  have B1 : Below w.heap.size w w1 := btr B0 b1
  have Rr_1 := heap_of b1 _ _ _ Rr_0
  clear b1 B0 Rr_0 cr_0_0 cr_0_1 cr_0_2 cr_0_3 cr_0_4 cr_0_5 cr_0_6
  obtain ⟨cr_1_0, cr_1_1, cr_1_2, cr_1_3, cr_1_4, cr_1_5, cr_1_6⟩ := rwC_cells Rr_1
  have S2 := box B1.size
  have Lr_2 : Box (w.heap.size < w1.heap.size) := box (Array.getElem?_eq_some_iff.1 Rr_1).1
  have Ra_2 := heap_alloc_last w1 (Obj.cells (rwC q) 36)
  have B2 := btr B1 (bal w1 (Obj.cells (rwC q) 36))
  have Rr_2 := heap_of (bal w1 (Obj.cells (rwC q) 36)) _ _ _ Rr_1
  clear B1 Rr_1 cr_1_0 cr_1_1 cr_1_2 cr_1_3 cr_1_4 cr_1_5 cr_1_6
  obtain ⟨cr_2_0, cr_2_1, cr_2_2, cr_2_3, cr_2_4, cr_2_5, cr_2_6⟩ := rwC_cells Rr_2
  obtain ⟨ca_2_0, ca_2_1, ca_2_2, ca_2_3, ca_2_4, ca_2_5, ca_2_6⟩ := rwC_cells Ra_2
  go_wp2_with fail
  refine (KN.out _ (t24B FF.out B2)).mono ?_
  rintro r w3 ⟨rfl, b3⟩
  have B3 : Below w.heap.size w w3 := btr B2 b3
  have Rr_3 := heap_of b3 _ _ _ Rr_2
  have Ra_3 := heap_of b3 _ _ _ Ra_2
  clear b3 B2 Rr_2 cr_2_0 cr_2_1 cr_2_2 cr_2_3 cr_2_4 cr_2_5 cr_2_6 Ra_2 ca_2_0 ca_2_1 ca_2_2 ca_2_3 ca_2_4 ca_2_5 ca_2_6
  obtain ⟨cr_3_0, cr_3_1, cr_3_2, cr_3_3, cr_3_4, cr_3_5, cr_3_6⟩ := rwC_cells Rr_3
  obtain ⟨ca_3_0, ca_3_1, ca_3_2, ca_3_3, ca_3_4, ca_3_5, ca_3_6⟩ := rwC_cells Ra_3
  go_wp2
  go_ret2
  exact ⟨rfl, B3⟩
theorem ofR_some {o f g k : Int} {p : Nm} (h : ofR24 o f g k = some p) : p ∈ allL ∧ erF o f g k = 0 := by
  unfold ofR24 at h
  split at h
  · cases h
  · rename_i hc
    refine ⟨List.mem_of_find?_eq_some h, ?_⟩
    unfold erF
    rw [if_neg hc, h]
    rfl
theorem ofR_none {o f g k : Int} (h : ofR24 o f g k = none) : erF o f g k = 2 ∨ erF o f g k = 240 := by
  unfold ofR24 at h
  split at h
  · rename_i hc
    left
    unfold erF
    rw [if_pos hc]
  · rename_i hc
    right
    unfold erF
    rw [if_neg hc, h]
    rfl
theorem of_of {p : Nm} (hp : p ∈ allL) : ofR24 p.1.op p.1.form p.1.frm p.1.kind = some p := of_decide_eq_true (List.all_eq_true.1 of_all p hp)
theorem nmR_some {q : Rw} {p : Nm} (h : nmR24 q = some p) : p ∈ allL ∧ p.1 = q := by
  have h' : allL.find? (fun p => decide (p.1 = q)) = some p := h
  have h2 := List.find?_some h'
  exact ⟨List.mem_of_find?_eq_some h', of_decide_eq_true h2⟩
theorem nmR_mem {p : Nm} (hp : p ∈ allL) : ∃ p2, nmR24 p.1 = some p2 := by
  unfold nmR24 fstL
  cases z : allL.find? (fun r => decide (r.1 = p.1)) with
  | some p2 => exact ⟨p2, rfl⟩
  | none => exact absurd (List.find?_eq_none.1 z p hp) (by simp)
theorem k_nameOf {p : Nm} (hp : p ∈ allL) : Box (∀ w, T24 w → Calls Tryd.prog 28 #[.agg (rwC p.1)] w fun r w' => r = .returned (.string ⟨p.2.toArray⟩) ∧ Below w.heap.size w w') := box (fun w hT => by
  obtain ⟨h1, h2, h3, h4, h5⟩ := of_decide_eq_true (List.all_eq_true.1 name_all p hp)
  rw [← h1]
  exact t_nameOf p.1 h2 h3 h4 h5 w hT)
theorem k_name (q : Rw) (hq : RwOk q) (hE : ∀ args w, (callFunc 33 args).run Tryd.prog w = .ok (.enter 33 args) w) : Box (∀ w, T24 w → Calls Tryd.prog 12 #[.agg (rwC q)] w fun r w' => r = .returned (.tuple #[.string ⟨(ndO (nmR24 q)).2.toArray⟩, .int .i64 (erO (nmR24 q))]) ∧ Below w.heap.size w w') := box (fun w hT => by
  have KO := k_of q.op q.form q.frm q.kind hq.1 hE
  cases z : ofR24 q.op q.form q.frm q.kind with
  | none =>
    have e : nmR24 q = none := by
      cases y : nmR24 q with
      | none => rfl
      | some p =>
        obtain ⟨h1, h2⟩ := nmR_some y
        have := of_of h1
        rw [h2, z] at this
        cases this
    rw [e]
    exact t_name_no q _ _ (by rcases ofR_none z with h | h <;> rw [h] <;> rfl) KO w hT
  | some p =>
    obtain ⟨h1, h2⟩ := ofR_some z
    rw [z, h2] at KO
    by_cases hpq : p.1 = q
    · obtain ⟨p2, h3⟩ := nmR_mem h1
      rw [hpq] at h3
      obtain ⟨h4, h5⟩ := nmR_some h3
      rw [h3]
      have KN := k_nameOf h4
      rw [h5] at KN
      have KO2 : Box (∀ w, T24 w → Calls Tryd.prog 21 #[.int .u8 (q.op : Nat), .int .u8 (q.form : Nat), .int .u8 (q.frm : Nat), .int .u8 (q.kind : Nat)] w fun r w' => r = .returned (.tuple #[.agg (rwC q), .int .i64 0]) ∧ Below w.heap.size w w') := by
        rw [← hpq]
        rw [← hpq] at KO
        exact KO
      exact t_name_y q _ (by rw [rwE_is]; exact decide_eq_true rfl) KO2 KN w hT
    · have e : nmR24 q = none := by
        cases y : nmR24 q with
        | none => rfl
        | some p2 =>
          obtain ⟨h4, h5⟩ := nmR_some y
          have := of_of h4
          rw [h5, z] at this
          obtain rfl := Option.some.inj this
          exact absurd h5 hpq
      rw [e]
      exact t_name_ne q p.1 (by rw [rwE_is]; exact decide_eq_false hpq) KO w hT)
attribute [local go_sem] Oper.semAt_some

def mtN (s : ByteArray) (r : Rw) : Prop := (⟨(nameB r).toArray⟩ : ByteArray) = s
theorem noHead_no {nm : List UInt8} {s : ByteArray} {r : Rw} (h : NoHead nm s) (hn : (plN r.op).nm = nm) : ¬ mtN s r := by
  obtain ⟨i, hi, hm, hs⟩ := h
  have e : nameB r = nm.take (i + 1) ++ (nm.drop (i + 1)).flatMap (exB r) := by
    unfold nameB
    rw [hn]
    conv => lhs; rw [← List.take_append_drop (i + 1) nm]
    rw [List.flatMap_append]
    congr 1
    have : ∀ l : List UInt8, (∀ c ∈ l, isMk c.toNat = false) → l.flatMap (exB r) = l := by
      intro l hl
      induction l with
      | nil => rfl
      | cons c l ih =>
        have hc := hl c (List.mem_cons_self ..)
        rw [List.flatMap_cons, ih (fun d hd => hl d (List.mem_cons_of_mem _ hd))]
        unfold exB
        rw [hc]
        rfl
    refine this _ (fun c hc => ?_)
    obtain ⟨j, hj, rfl⟩ := List.mem_iff_getElem.1 hc
    rw [List.length_take] at hj
    rw [List.getElem_take]
    exact hm j (by omega) (by omega)
  intro q
  unfold mtN at q
  subst q
  have hl : i < (nameB r).length := by rw [e, List.length_append, List.length_take]; omega
  have hg : (nameB r)[i]? = some nm[i] := by
    rw [e, List.getElem?_append_left (by rw [List.length_take]; omega), List.getElem?_take_of_lt (by omega), List.getElem?_eq_getElem hi]
  rcases hs with hs | ⟨hs, hne⟩
  · simp [ByteArray.size] at hs
    omega
  · rw [List.getElem?_eq_getElem hl] at hg
    exact hne (by simpa using Option.some.inj hg)
theorem row_op24 {k : Nat} {r : Rw} (hk : k < 32) (h : r ∈ rwsO k) : r.op = k ∧ r.form < 4 ∧ r.frm < 4 ∧ r.kind < 4 := of_decide_eq_true (List.all_eq_true.1 (List.all_eq_true.1 rws_op k (List.mem_range.2 hk)) r h)
theorem named_yes {k : Nat} {s : ByteArray} {x : Rw} (hk : k < 32) (hx : x ∈ rwsO k) (hm : mtN s x) : (ndO (byR24 s)).1 = x ∧ erO (byR24 s) = 0 := by
  obtain ⟨p, hp, e⟩ := preR_mem (k := 32) (Nat.le_refl _) (by
    show x ∈ (List.range 32).flatMap rwsO
    exact List.mem_flatMap.2 ⟨k, List.mem_range.2 hk, hx⟩)
  have hn := (of_decide_eq_true (List.all_eq_true.1 name_all p hp)).1
  have hb := by24 hp
  have es : (⟨p.2.toArray⟩ : ByteArray) = s := by rw [← hn, e]; exact hm
  rw [es, e] at hb
  exact ⟨hb.1, hb.2.1⟩
theorem named_no {s : ByteArray} (h : ∀ r ∈ preR 32, ¬ mtN s r) : byR24 s = none := by
  unfold byR24 fstL
  refine List.find?_eq_none.2 (fun p hp => ?_)
  have hn := (of_decide_eq_true (List.all_eq_true.1 name_all p hp)).1
  have q := h p.1 (by rw [preR_all]; exact List.mem_map.2 ⟨p, hp, rfl⟩)
  unfold mtN at q
  rw [hn] at q
  simp only [beq_iff_eq]
  intro z
  apply q
  have : (⟨p.2.toArray⟩ : ByteArray).data.toList = s.data.toList := by rw [← ByteArray.toList_eq, ← ByteArray.toList_eq]; exact z
  obtain ⟨⟨l⟩⟩ := s
  simp at this
  rw [this]
structure NdK (w : World) (s : ByteArray) (Ds : List Nat) (V : World) : Prop where
  b : Below w.heap.size w V
  d : Marks w.heap.size Ds V
  s : V.heap[w.heap.size]? = some (.cells #[.string s] 9)
  z : V.heap[w.heap.size + 1]? = some (.cells (rwC rwZ) 36)
  e : V.heap[w.heap.size + 1 + 1]? = some (.cells #[.int .i64 0] 27)
theorem NdK.below {w : World} {s : ByteArray} {Ds : List Nat} {V V' : World} (h : NdK w s Ds V) (b : Below V.heap.size V V') : NdK w s Ds V' := ⟨h.b.trans (b.mono h.b.size), h.d.below b, heap_of b _ _ _ h.s, heap_of b _ _ _ h.z, heap_of b _ _ _ h.e⟩
set_option maxRecDepth 100000 in
set_option maxHeartbeats 8000000 in
theorem t_named (s : ByteArray) (hs : s.size ≤ maxLen) (hE : ∀ args w, (callFunc 33 args).run Tryd.prog w = .ok (.enter 33 args) w) (rr : Rw) (er : Int) (hv : (rr, er) = ((ndO (byR24 s)).1, erO (byR24 s))) (w : World) (hT : T24 w) : Calls Tryd.prog 13 #[.string s] w fun r w' => r = .returned (.tuple #[.agg (rwC rr), .int .i64 er]) ∧ Below w.heap.size w w' := by
  have FF := box hT
  have HV := box hv
  clear hv
  refine (callsIn_wide (n := 6)).1 ?_
  refine callsIn_of_wp_marks Tryd.func13 rfl trivial ?_ rfl
  refine wpIn_wide.2 ?_
  simp only [Tryd.ntmps13, List.size_toArray, List.length_cons, List.length_nil, Nat.reduceAdd, Nat.reduceSub, Array.replicate_succ, Array.replicate_zero, List.push_toArray, List.append_toArray, List.nil_append, List.cons_append]
  obtain ⟨Rs_0, Rz_0, Re_0, B0⟩ := opn3 w (Obj.cells #[.string s] 9) (Obj.cells #[.int .u8 0, .int .u8 0, .int .u8 0, .int .u8 0, .int .u32 0, .int .u32 0, .int .u8 0] 36) (Obj.cells #[.int .i64 0] 27)
  obtain ⟨_, _, _, b, a, cap, hsl, hp⟩ := hT
  have HS := cellB B0 hsl
  have HP : Box (∀ V, Below w.heap.size w V → ∀ i, i < 32 → PlAt V b (a + i * 5) (plB (plN i))) := box (fun V hb i hi => let h := hp i hi; ⟨cellB hb h.1, cellB hb h.2.1, cellB hb h.2.2.1, cellB hb h.2.2.2.1, cellB hb h.2.2.2.2⟩)
  have I0 : NdK w s [] _ := ⟨B0, Marks.nil _ _, Rs_0, Rz_0, Re_0⟩
  clear hsl hp B0 Rs_0 Rz_0 Re_0
  go_wp2
  refine wp_loop (fun A V => ∃ (k : Nat) (u4 u5 u6 u10 u11 u12 u13 u14 u15 u16 u17 u18 u19 u20 u21 u22 u23 u24 u25 u26 u27 : Value) (Ds : List Nat), k ≤ 32 ∧ A = { tmps := #[.string s, .pointer (some ⟨w.heap.size, 0, none⟩), .pointer (some ⟨w.heap.size + 1, 0, none⟩), .pointer (some ⟨w.heap.size + 1 + 1, 0, none⟩), u4, u5, u6, .slice (some ⟨b, a, none⟩) 32 cap, .int .i64 32, .int .i64 (k : Nat), u10, u11, u12, u13, u14, u15, u16, u17, u18, u19, u20, u21, u22, u23, u24, u25, u26, u27, undef], defers := Ds.map mkD } ∧ NdK w s Ds V ∧ Box (∀ r ∈ preR k, ¬ mtN s r)) (fun A _ => 32 - (intOf (A.tmps.getD 9 undef)).toNat) ?start ?round
  case start => exact ⟨0, _, _, _, _, _, _, _, _, _, _, _, _, _, _, _, _, _, _, _, _, _, [], by omega, rfl, I0, box (fun r h => by cases h)⟩
  case round =>
    clear I0 HS
    rintro A V ⟨k, u4, u5, u6, u10, u11, u12, u13, u14, u15, u16, u17, u18, u19, u20, u21, u22, u23, u24, u25, u26, u27, Ds, hk, rfl, HI, HN⟩
    by_cases hlt : k < 32
    case neg =>
      have ke : k = 32 := by omega
      subst ke
      have hv := HV.out
      rw [named_no HN.out] at hv
      obtain ⟨rfl, rfl⟩ := hv
      have hzf := rwz_fold
      have hst := rwC_storeG (r := rwZ) HI.z rfl
      have rz := setRow_row (c' := rwC rwZ) HI.z
      have rE := (setRow_other (w := V) (b := w.heap.size + 1) (b' := w.heap.size + 1 + 1) (c' := rwC rwZ) (by omega)).trans HI.e
      have bz : Below w.heap.size w (V.setRow (w.heap.size + 1) (rwC rwZ)) := Below.setRow HI.b (by omega)
      have MD : Marks w.heap.size Ds (V.setRow (w.heap.size + 1) (rwC rwZ)) := HI.d.kept (fun D hl _ hd => (setRow_other (fun e => by subst e; rw [HI.z] at hd; cases hd)).trans hd)
      obtain ⟨VZ, hVZ⟩ : ∃ X, V.setRow (w.heap.size + 1) (rwC rwZ) = X := ⟨_, rfl⟩
      rw [hVZ] at hst rz rE bz MD
      have fe := fz (k := 0) rE
      have ce := pcell24 rE
      have MD2 : Marks w.heap.size Ds (VZ.setCell ⟨w.heap.size + 1 + 1, 0, none⟩ (.int .i64 240)) := MD.kept (fun D hl _ hd => set_cells24 (fun e => by subst e; rw [rE] at hd; cases hd) hd)
      clear hVZ HI
      go_wp2
      refine leaves_re (Ds := Ds) (Tryd.results13) rfl rfl MD2 ?_ ?_ ?_
      · rw [setCell_other (by omega)]; exact rz
      · rw [setCell_row rE]; rfl
      · exact bz.setCell (p := ⟨w.heap.size + 1 + 1, 0, none⟩) (show w.heap.size ≤ w.heap.size + 1 + 1 by omega) _
    have d1 : decide ((k : Int) < 32) = true := decide_eq_true (by omega)
    have d2 : decide ((32 : Int) ≤ (k : Int)) = false := decide_eq_false (by omega)
    have hw1 : IntKind.i64.wrap ((k : Int) + 1) = ((k + 1 : Nat) : Int) := by rw [IntKind.wrap_i64]; omega
    have w8 : (k : Int) % 256 = (k : Int) := by omega
    obtain ⟨P, hP⟩ : ∃ P, plB (plN k) = P := ⟨_, rfl⟩
    obtain ⟨nm, hnm⟩ : ∃ l, (plN k).nm = l := ⟨_, rfl⟩
    have hpl := HP.out V HI.b k hlt
    have hPn : P.nm = ⟨nm.toArray⟩ := by rw [← hP, ← hnm]; rfl
    have hln : nm.length ≤ 8 := by rw [← hnm]; exact of_decide_eq_true (List.all_eq_true.1 len_all k (List.mem_range.2 hlt))
    have KH : Box (∀ W, Calls Tryd.prog 29 #[.agg (plV P), .string s] W fun r w' => ∃ b : Bool, r = .returned (.bool b) ∧ (b = false → NoHead nm s) ∧ Below W.heap.size W w') := box (fun W => t_hasHead P nm s hs hPn hln W)
    rw [hP] at hpl
    obtain ⟨c0, c1, c2, c3, c4⟩ := hpl
    have hfo := plV_fold P
    have hnew := plV_new
    have HIa := HI.below (bal V (.cells (plV P) 67))
    have RPa := last7 V (.cells (plV P) 67)
    obtain ⟨p0, p1, p2, p3, p4⟩ := plV_cells RPa
    have cs := pcell24 HIa.s
    have HNM := box hnm
    clear hP hnm hPn hln
    go_wp2_with fail
    refine (KH.out _).mono ?_
    rintro r w2 ⟨bb, rfl, hbb, b2⟩
    have HI2 := HIa.below b2
    have HBB := box hbb
    clear p0 p1 p2 p3 p4 c0 c1 c2 c3 c4 b2 HI HIa RPa hnew cs hbb hfo
    have HNX := box (preR_next k)
    cases bb
    · have hno : ∀ r ∈ preR (k + 1), ¬ mtN s r := fun r hr => by
        rw [HNX.out] at hr
        rcases List.mem_append.1 hr with h | h
        · exact HN.out r h
        · exact noHead_no (HBB.out rfl) (by rw [(row_op24 hlt h).1]; exact HNM.out)
      have HNO := box hno
      clear hno
      go_wp2
      refine ⟨⟨k + 1, _, _, _, _, _, _, _, _, _, _, _, _, _, _, _, _, _, _, _, _, _, Ds, by omega, rfl, HI2, HNO⟩, ?_⟩
      simp [intOf]
      omega
    · have KE := k_each k (by omega)
      go_wp2_with fail
      refine (KE.out _ (t24B FF.out HI2.b)).mono ?_
      rintro r W0 ⟨lb, B, rfl, hb0, hB1, hB2, seq⟩
      have H0 := HI2.below hb0
      have HD0 : ∀ D ∈ Ds, D < W0.heap.size := H0.d.lt
      have hse := (Array.getElem?_eq_some_iff.1 H0.e).1
      have SEQ := box seq
      clear seq hb0 HI2 KE
      go_wp2_with fail
      refine (wpIn_wide (n := 6)).1 ?_
      refine wp_range_topM (by decide) (gf := 33) (lb := lb) rfl hE (SEQ.out 5 (by decide)) (fun _ => rfl)
        (fun M pre V => Below W0.heap.size W0 V ∧ ∀ r ∈ pre, ¬ mtN s r)
        (fun M c pre V => c = .ret ∧ ∃ p x, pre = p ++ [x] ∧ mtN s x ∧ V.heap[w.heap.size + 1]? = some (.cells (rwC x) 36) ∧ V.heap[w.heap.size + 1 + 1]? = some (.cells #[.int .i64 0] 27) ∧ Below w.heap.size w V ∧ Marks w.heap.size Ds V)
        (fun M pre A B row hs hg hr => ⟨hs.1.grown hg hs.1.size (fun r e => (hr r e).1), hs.2⟩)
        (fun M c pre A B row hs hg hr => ⟨hs.1, by
          obtain ⟨p, x, e1, e2, e4, e5, e6, e7⟩ := hs.2
          exact ⟨p, x, e1, e2, row_grq e4 hg (fun r e => (hr r e).1) (by omega), row_grq e5 hg (fun r e => (hr r e).1) (by omega), e6.grown hg e6.size (fun r e => by have := (hr r e).1; omega), ⟨e7.1, fun D hD => ⟨(e7.2 D hD).1, row_grq (e7.2 D hD).2 hg (fun r e => (hr r e).1) (HD0 D hD)⟩⟩⟩⟩)
        (fun M pre V hv => ⟨t24B FF.out (H0.b.trans (hv.1.mono H0.b.size)), heap_of hv.1 _ _ _ hB2⟩) (fun M hM => ⟨Below.refl _ _, fun r h => by cases h⟩) ?a1 (fun x => Obj.cells (rwC x) 36) ?assign ?body ?done ?stop
      case assign =>
        intro l x W K hK
        have hrn := rwC_new
        obtain ⟨m, hm⟩ : ∃ m, W.heap.size = m := ⟨_, rfl⟩
        have hK := hK (W.alloc (Obj.cells (rwC x) 36)) (World.grownBy_alloc W _ none) (by simp only [size_al]) (last7 W _)
        rw [hm] at hK
        gi_wp2
        exact hK
      case body =>
        rintro M l pre xx mm V hM0 hM1 ⟨hB, hno⟩ hl4 hsp hm0 hm1 hmx
        have hxm : xx ∈ rwsO k := hsp.subset (by simp)
        obtain ⟨ho, hf1, hf2, hf3⟩ := row_op24 hlt hxm
        have KN : Box (∀ W, T24 W → Calls Tryd.prog 28 #[.agg (rwC xx)] W fun r w' => r = .returned (.string ⟨(nameB xx).toArray⟩) ∧ Below W.heap.size W w') := box (fun W hT => t_nameOf xx (by omega) hf1 hf2 hf3 W hT)
        obtain ⟨x0, x1, x2, x3, x4, x5, x6⟩ := rwC_cells hmx
        have hfo := rwC_fold xx
        have HB := box hB
        have HNO := box hno
        have HMX := box hmx
        have cs := pcell24 (heap_of hB _ _ _ H0.s)
        have hV : V.heap.size = mm + 1 := hm1.symm
        have ft : T24 V.drew := t24B FF.out (H0.b.trans ((hB.trans ((Below.refl _ V).drew)).mono H0.b.size))
        have FAC : Box (∀ V2, Below V.heap.size V V2 → V2.cell? ⟨w.heap.size, 0, none⟩ = some (.string s) ∧ (V2.cell? ⟨mm, 0, none⟩ = some (.int .u8 (xx.op : Nat)) ∧ V2.cell? ⟨mm, 1, none⟩ = some (.int .u8 (xx.form : Nat)) ∧ V2.cell? ⟨mm, 2, none⟩ = some (.int .u8 (xx.frm : Nat)) ∧ V2.cell? ⟨mm, 3, none⟩ = some (.int .u8 (xx.kind : Nat)) ∧ V2.cell? ⟨mm, 4, none⟩ = some (.int .u32 (xx.mask : Nat)) ∧ V2.cell? ⟨mm, 5, none⟩ = some (.int .u32 (xx.mtch : Nat)) ∧ V2.cell? ⟨mm, 6, none⟩ = some (.int .u8 (xx.lay : Nat))) ∧ V2.heap[mm]? = some (.cells (rwC xx) 36) ∧ Below W0.heap.size W0 V2 ∧ TopM W0.heap.size M V V2) := box (fun V2 b2 =>
          ⟨pcell24 (heap_of b2 _ _ _ (heap_of HB.out _ _ _ H0.s)), rwC_cells (heap_of b2 _ _ _ HMX.out), heap_of b2 _ _ _ HMX.out, HB.out.trans (b2.mono HB.out.size), TopM.below b2 (by omega)⟩)
        clear hB hno hmx ho hf1 hf2 hf3
        have hfw : ∀ f, Fence.wide.fn f := fun _ => trivial
        obtain ⟨nb, hnb⟩ : ∃ n, (⟨(nameB xx).toArray⟩ : ByteArray) = n := ⟨_, rfl⟩
        have HNB := box hnb
        rw [hnb] at KN
        clear hnb
        gi_wp2_with fail
        apply cut7i
        · intro key
          gi_region_with (first | (gi_at_call 28; refine (CallsIn.inRound l (callsIn_wide.2 (KN.out _ ft))).mono ?_; rintro r w5 ⟨rfl, b5⟩; have b6 : Below V.heap.size V w5 := ((Below.refl V.heap.size V).drew).trans b5; obtain ⟨d0, ⟨d1, d2, d3, d4, d5, d6, d7⟩, fa, fb, fc⟩ := FAC.out w5 b6) | fail)
          all_goals
            clear d0 d1 d2 d3 d4 d5 d6 d7 b6 b5
            have fz9 := And.intro fa (And.intro fb fc)
            clear fa fb fc
            revert w5
            exact key
        · rintro w5 ⟨fa, fb, fc⟩
          obtain ⟨x0, x1, x2, x3, x4, x5, x6⟩ := rwC_cells fa
          have hfo2 := rwC_fold xx
          have s2 := pcell24 (heap_of fb _ _ _ H0.s)
          cases hb : (nb.toList == s.toList)
          · have nm : ¬ mtN s xx := fun h => by
              unfold mtN at h
              rw [HNB.out] at h
              rw [h] at hb
              simp at hb
            gi_wp2
            exact ⟨fc, fb, fun r hr => by
              rcases List.mem_append.1 hr with h | h
              · exact HNO.out r h
              · rw [List.mem_singleton.1 h]; exact nm⟩
          · have nm : mtN s xx := by
              unfold mtN
              rw [HNB.out]
              have h2 : nb.toList = s.toList := by simpa using hb
              rw [ByteArray.toList_eq, ByteArray.toList_eq] at h2
              obtain ⟨⟨l1⟩⟩ := nb
              obtain ⟨⟨l2⟩⟩ := s
              simp at h2
              rw [h2]
            have b0 := H0.b.trans (fb.mono H0.b.size)
            have hst := rwC_storeG (r := xx) (heap_of fb _ _ _ H0.z) rfl
            have rz := setRow_row (c' := rwC xx) (heap_of fb _ _ _ H0.z)
            have rE := (setRow_other (w := w5) (b := w.heap.size + 1) (b' := w.heap.size + 1 + 1) (c' := rwC xx) (by omega)).trans (heap_of fb _ _ _ H0.e)
            have bz : Below w.heap.size w (w5.setRow (w.heap.size + 1) (rwC xx)) := Below.setRow b0 (by omega)
            have tz : TopM W0.heap.size M V (w5.setRow (w.heap.size + 1) (rwC xx)) := fc.trans ⟨bz_size24 _ _ _, fun q a c => setRow_other (by omega)⟩
            have MD : Marks w.heap.size Ds (w5.setRow (w.heap.size + 1) (rwC xx)) := (H0.d.below fb).kept (fun D hl _ hd => (setRow_other (fun e => by subst e; rw [heap_of fb _ _ _ H0.z] at hd; cases hd)).trans hd)
            obtain ⟨VZ, hVZ⟩ : ∃ X, w5.setRow (w.heap.size + 1) (rwC xx) = X := ⟨_, rfl⟩
            rw [hVZ] at hst rz rE bz tz MD
            have fe := fz (k := 0) rE
            have ce := pcell24 rE
            have MD2 : Marks w.heap.size Ds (VZ.setCell ⟨w.heap.size + 1 + 1, 0, none⟩ (.int .i64 0)) := MD.kept (fun D hl _ hd => set_cells24 (fun e => by subst e; rw [rE] at hd; cases hd) hd)
            clear hVZ
            gi_wp2
            refine ⟨tz.trans ⟨((Below.refl 0 VZ).setCell (p := ⟨w.heap.size + 1 + 1, 0, none⟩) (Nat.zero_le _) _).size, fun q a c => setCell_other (by omega)⟩, rfl, pre, xx, rfl, nm, ?_, ?_, ?_, MD2⟩
            · rw [setCell_other (by omega)]; exact rz
            · rw [setCell_row rE]; rfl
            · exact bz.setCell (p := ⟨w.heap.size + 1 + 1, 0, none⟩) (show w.heap.size ≤ w.heap.size + 1 + 1 by omega) _
      case done =>
        rintro M D ys V hM hD rfl ⟨hB, hno⟩ hK
        have H9 := H0.below (hB.mono (Nat.le_refl _))
        have hnx : ∀ r ∈ preR (k + 1), ¬ mtN s r := fun r hr => by
          rw [HNX.out] at hr
          rcases List.mem_append.1 hr with h | h
          · exact HN.out r h
          · exact hno r h
        have HNO := box hnx
        clear hnx hno
        go_wp2
        refine ⟨⟨k + 1, _, _, _, _, _, _, _, _, _, _, _, _, _, _, _, _, _, _, _, _, _, D :: Ds, by omega, rfl, ⟨H9.b, Marks.cons H9.d (by have := H0.b.size; omega) (fun E hE => by have := HD0 E hE; omega) hK, H9.s, H9.z, H9.e⟩, HNO⟩, ?_⟩
        simp [intOf]
        omega
      case stop =>
        rintro M D c pre V hM hD hpre ⟨rfl, p, x, rfl, e2, e4, e5, e6, e7⟩ hK
        have hxm : x ∈ rwsO k := hpre.subset (by simp)
        obtain ⟨q1, q2⟩ := named_yes hlt hxm e2
        have hv := HV.out
        rw [q1, q2] at hv
        obtain ⟨rfl, rfl⟩ := hv
        gi_wp2
        exact leaves_re (Ds := D :: Ds) (Tryd.results13) rfl rfl (Marks.cons e7 (by have := H0.b.size; omega) (fun E hE => by have := HD0 E hE; omega) hK) e4 e5 e6
end Go.Proofs.YtfdhglllmhggkaaDoor
namespace Go.Proofs.YtfdhglllmhggkaaDoor
set_option maxRecDepth 100000
set_option maxHeartbeats 40000000
set_option maxRecDepth 100000
open Go.RowKit Go.Shelf WMath
set_option linter.unusedVariables false
theorem hE24 : ∀ args w, (callFunc 33 args).run Tryd.prog w = .ok (.enter 33 args) w := enters_of Tryd.func33 (by kernel_rfl) rfl
theorem fb24 : Box (∀ {w w' : World}, T24 w → Below w.heap.size w w' → T24 w') := box (fun h b => t24B h b)
theorem cF24 (x : Nat) (hx : x < 4294967296) : Box (∀ w, T24 w → Calls Tryd.prog 15 #[.int .u32 (x : Nat)] w fun r w' => r = .returned (.tuple #[.agg (rwC (ndO (fdL x)).1), .bool (fdL x).isSome]) ∧ Below w.heap.size w w') := box (fun w hT => t_find x hx hE24 _ _ rfl w hT)
theorem cN24 (q : Rw) (hq : RwOk q) : Box (∀ w, T24 w → Calls Tryd.prog 12 #[.agg (rwC q)] w fun r w' => r = .returned (.tuple #[.string ⟨(ndO (nmR24 q)).2.toArray⟩, .int .i64 (erO (nmR24 q))]) ∧ Below w.heap.size w w') := k_name q hq hE24
theorem cD24 (s : ByteArray) (hs : s.size ≤ maxLen) : Box (∀ w, T24 w → Calls Tryd.prog 13 #[.string s] w fun r w' => r = .returned (.tuple #[.agg (rwC (ndO (byR24 s)).1), .int .i64 (erO (byR24 s))]) ∧ Below w.heap.size w w') := box (fun w hT => t_named s hs hE24 _ _ rfl w hT)
theorem live24 : Box (∀ w, T24 w → Calls Tryd.prog 14 #[] w fun r w' => r = .returned (.bool true) ∧ Below w.heap.size w w') := box (fun w hT => lives24 fb24 cF24 cN24 cD24 (k_len hE24) w hT)
theorem finds_fin (x : Nat) (hx : x < 4294967296) (w : World) (hT : T24 w) : Calls Tryd.prog 4 #[.int .u32 (x : Nat)] w fun r w' => r = .returned (.bool true) ∧ Below w.heap.size w w' := finds24 fb24 cF24 live24 x hx w hT
end Go.Proofs.YtfdhglllmhggkaaDoor
set_option linter.unusedSimpArgs false
namespace Go.Proofs.YtfdhglllmhggkaaDoor
set_option maxRecDepth 100000
set_option maxHeartbeats 40000000
set_option maxRecDepth 100000
open WMath
open Go.ChangeShapes Go.WideShapes Go.ChangeAt Go.RowKit
set_option linter.unusedVariables false
theorem list1y {α : Type} (l : List α) (h : l.length = 1) : ∃ a, l = [a] := by
  match l, h with
  | [a], _ => exact ⟨a, rfl⟩
theorem list5y {α : Type} (l : List α) (h : l.length = 5) : ∃ a b c d e, l = [a, b, c, d, e] := by
  match l, h with
  | [a, b, c, d, e], _ => exact ⟨a, b, c, d, e, rfl⟩
theorem int_read24 {w : World} {fuel : Nat} {enc : TypeId × Value → Unit} {base : Nat} {spare : Nat → Bool} {held : Bool} {l : List Value} {t : TypeId} {q : IntKind} {a : Int} {x : DataW Unit × List MemPlace} (ht : Tryd.prog.underlying t = some (.int q))
    (h : DataW.trod enc Tryd.prog w base spare held fuel t l = some x) (hx : x.1 = .lit (.int q a)) (hl : l.length = 1) : l = [.int q a] := by
  obtain ⟨c0, rfl⟩ := list1y l hl
  obtain ⟨x0, e0, k0, w0⟩ := DataW.trod_int ht h
  simp at e0
  subst e0
  rw [k0] at hx
  simp at hx
  rw [hx]
theorem str_read24 {w : World} {fuel : Nat} {enc : TypeId × Value → Unit} {base : Nat} {spare : Nat → Bool} {held : Bool} {l : List Value} {s : List UInt8} {x : DataW Unit × List MemPlace}
    (h : DataW.trod enc Tryd.prog w base spare held fuel 9 l = some x) (hx : x.1 = .lit (.string s)) (hl : l.length = 1) : l = [.string ⟨s.toArray⟩] := by
  obtain ⟨c0, rfl⟩ := list1y l hl
  obtain ⟨x0, e0, k0, w0⟩ := DataW.trod_string Tryd.underlying9 h
  simp at e0
  subst e0
  rw [k0] at hx
  simp at hx
  rw [← hx]
def laid24L : List (String × DataW Unit) := [("abacus/table.fixed", Rows.laid_abacus_table_fixed), ("abacus/table.kindNames", Rows.laid_abacus_table_kindNames), ("abacus/table.plans", Rows.laid_abacus_table_plans), ("abacus/table.widths", Rows.laid_abacus_table_widths)]
theorem arr_read24 {W : World} {g : Nat} {t e : TypeId} {n : Nat} {nm : String} {D : List (DataW Unit)} {rest : List (String × DataW Unit)} (V : Nat → Value) (hg : Tryd.prog.globalNamed nm = some g) (ht : (Tryd.prog.globals[g]?).map (·.type) = some t) (hu : Tryd.prog.underlying t = some (.array n e)) (hc : Tryd.prog.cellsOf e = 1) (hct : Tryd.prog.cellsOf t = n)
    (hV : ∀ (i : Nat) (w : World) (fuel : Nat) (base : Nat) (spare : Nat → Bool) (enc : TypeId × Value → Unit) (l : List Value) (x : DataW Unit × List MemPlace), i < n → l.length = 1 → D[i]? = some x.1 → DataW.trod enc Tryd.prog w base spare false fuel e l = some x → l = [V i])
    (hD : D.length = n) (h : laidMet Tryd.prog ((nm, .agg D) :: rest) W) : ∀ i, i < n → W.cell? ⟨g, i, none⟩ = some (V i) := by
  obtain ⟨ps, ⟨g', t', cs, fuel, p, q, hg', ht', hvar, hd, _, _⟩, _⟩ := h
  obtain rfl := Option.some.inj (hg.symm.trans hg')
  obtain rfl := Option.some.inj (ht.symm.trans ht')
  obtain ⟨xs, m, rfl, hx, hl, hxl, hel⟩ := DataW.trod_array hu hd
  rw [hc] at hel
  rw [hct] at hl
  intro i hi
  have hx1 := congrArg Prod.fst hx
  simp at hx1
  have he := hel i hi
  have hix : i < xs.length := by omega
  rw [List.getElem?_eq_getElem hix] at he
  have hdi : D[i]? = some (xs[i]).1 := by rw [hx1, List.getElem?_map, List.getElem?_eq_getElem hix]; rfl
  have hv := hV i _ _ _ _ _ _ _ hi (by rw [List.length_take, List.length_drop]; omega) hdi he
  rw [World.var?_cell hg hvar i]
  have e1 : cs.toList[i]? = ((cs.toList.drop (i * 1)).take 1)[0]? := by rw [List.getElem?_take, if_pos (by decide), List.getElem?_drop]; congr 1; omega
  rw [hv] at e1
  simpa using e1
theorem of_fixed24 {W : World} {rest : List (String × DataW Unit)} (h : laidMet Tryd.prog (("abacus/table.fixed", Rows.laid_abacus_table_fixed) :: rest) W) : ∀ i, i < 10 → W.cell? ⟨1, i, none⟩ = some (.int .u32 (fxN i : Nat)) :=
  arr_read24 (t := 74) (e := 33) (fun i => .int .u32 (fxN i : Nat)) (by kernel_rfl) (by kernel_rfl) Tryd.underlying74 (by kernel_rfl) (by kernel_rfl) (fun i w fuel base spare enc l x hi hl hd hx => by
    refine int_read24 Tryd.underlying33 hx ?_ hl
    rcases (show i = 0 ∨ i = 1 ∨ i = 2 ∨ i = 3 ∨ i = 4 ∨ i = 5 ∨ i = 6 ∨ i = 7 ∨ i = 8 ∨ i = 9 by omega) with rfl | rfl | rfl | rfl | rfl | rfl | rfl | rfl | rfl | rfl <;> exact (Option.some.inj hd).symm) rfl h
theorem of_kinds24 {W : World} {rest : List (String × DataW Unit)} (h : laidMet Tryd.prog (("abacus/table.kindNames", Rows.laid_abacus_table_kindNames) :: rest) W) : ∀ i, i < 4 → W.cell? ⟨2, i, none⟩ = some (.string ⟨(knL i).toArray⟩) :=
  arr_read24 (t := 91) (e := 9) (fun i => .string ⟨(knL i).toArray⟩) (by kernel_rfl) (by kernel_rfl) Tryd.underlying91 (by kernel_rfl) (by kernel_rfl) (fun i w fuel base spare enc l x hi hl hd hx => by
    refine str_read24 hx ?_ hl
    rcases (show i = 0 ∨ i = 1 ∨ i = 2 ∨ i = 3 by omega) with rfl | rfl | rfl | rfl <;> exact (Option.some.inj hd).symm) rfl h
theorem of_widths24 {W : World} {rest : List (String × DataW Unit)} (h : laidMet Tryd.prog (("abacus/table.widths", Rows.laid_abacus_table_widths) :: rest) W) : ∀ i, i < 4 → W.cell? ⟨3, i, none⟩ = some (.int .u8 (wdN i : Nat)) :=
  arr_read24 (t := 92) (e := 5) (fun i => .int .u8 (wdN i : Nat)) (by kernel_rfl) (by kernel_rfl) Tryd.underlying92 (by kernel_rfl) (by kernel_rfl) (fun i w fuel base spare enc l x hi hl hd hx => by
    refine int_read24 Tryd.underlying5 hx ?_ hl
    rcases (show i = 0 ∨ i = 1 ∨ i = 2 ∨ i = 3 by omega) with rfl | rfl | rfl | rfl <;> exact (Option.some.inj hd).symm) rfl h
def plD (p : Pl) : DataW Unit := .agg [.lit (.string p.nm), .lit (.int .u8 (p.opc : Nat)), .lit (.int .u8 (p.rs3 : Nat)), .lit (.int .u8 (p.rm : Nat)), .lit (.int .u8 (p.lay : Nat))]
theorem plans_D : Rows.laid_abacus_table_plans = .slice (plL.map plD) [] := rfl
theorem plan_read24 {w : World} {fuel : Nat} {enc : TypeId × Value → Unit} {base : Nat} {spare : Nat → Bool} {held : Bool} {l : List Value} {p : Pl} {x : DataW Unit × List MemPlace}
    (h : DataW.trod enc Tryd.prog w base spare held fuel 67 l = some x) (hx : x.1 = plD p) : l = (plV (plB p)).toList := by
  have hc5 : Tryd.prog.cellsOf 5 = 1 := by kernel_rfl
  have hc9 : Tryd.prog.cellsOf 9 = 1 := by kernel_rfl
  have hcl : Tryd.prog.cellsOf 34 = 1 := by kernel_rfl
  have hcp : Tryd.prog.cellsOf 67 = 5 := by kernel_rfl
  obtain ⟨xs, n, rfl, rfl, hl, hlen, hf⟩ := DataW.trod_struct Tryd.underlying67 h
  rw [hcp] at hl
  obtain ⟨c0, c1, c2, c3, c4, rfl⟩ := list5y l hl
  match xs, hlen with
  | [y0, y1, y2, y3, y4], _ =>
    have g0 : DataW.trod enc Tryd.prog w base spare held n 9 (([c0, c1, c2, c3, c4].drop 0).take (Tryd.prog.cellsOf 9)) = some y0 := hf 0 _ rfl
    have g1 : DataW.trod enc Tryd.prog w base spare held n 5 (([c0, c1, c2, c3, c4].drop 1).take (Tryd.prog.cellsOf 5)) = some y1 := hf 1 _ rfl
    have g2 : DataW.trod enc Tryd.prog w base spare held n 5 (([c0, c1, c2, c3, c4].drop 2).take (Tryd.prog.cellsOf 5)) = some y2 := hf 2 _ rfl
    have g3 : DataW.trod enc Tryd.prog w base spare held n 5 (([c0, c1, c2, c3, c4].drop 3).take (Tryd.prog.cellsOf 5)) = some y3 := hf 3 _ rfl
    have g4 : DataW.trod enc Tryd.prog w base spare held n 34 (([c0, c1, c2, c3, c4].drop 4).take (Tryd.prog.cellsOf 34)) = some y4 := hf 4 _ rfl
    rw [hc9] at g0
    rw [hc5] at g1 g2 g3
    rw [hcl] at g4
    simp only [plD, List.map_cons, List.map_nil, DataW.agg.injEq, List.cons.injEq, and_true] at hx
    obtain ⟨h0, h1, h2, h3, h4⟩ := hx
    simp only [List.drop_zero, List.drop_succ_cons, List.take_succ_cons, List.take_zero] at g0 g1 g2 g3 g4
    have z0 := str_read24 g0 h0 rfl
    have z1 := int_read24 Tryd.underlying5 g1 h1 rfl
    have z2 := int_read24 Tryd.underlying5 g2 h2 rfl
    have z3 := int_read24 Tryd.underlying5 g3 h3 rfl
    have z4 := int_read24 Tryd.underlying34 g4 h4 rfl
    simp only [List.cons.injEq, and_true] at z0 z1 z2 z3 z4
    rw [z0, z1, z2, z3, z4]
    rfl
theorem cells5y {w : World} {base : Nat} {a : Addr} {l : List Value} (h : w.cells? base a 5 = some l) : ∃ c0 c1 c2 c3 c4, l = [c0, c1, c2, c3, c4] ∧ w.cell? (a.add 0) = some c0 ∧ w.cell? (a.add 1) = some c1 ∧ w.cell? (a.add 2) = some c2 ∧ w.cell? (a.add 3) = some c3 ∧ w.cell? (a.add 4) = some c4 := by
  unfold World.cells? at h
  split at h
  · simp only [show List.range 5 = [0, 1, 2, 3, 4] from rfl, List.mapM_cons, List.mapM_nil, Option.bind_eq_bind, Option.bind_eq_some_iff, Option.pure_def, Option.some.injEq] at h
    obtain ⟨a1, d0, _, ⟨a3, d1, _, ⟨a5, d2, _, ⟨a7, d3, _, ⟨a9, d4, _, rfl, rfl⟩, rfl⟩, rfl⟩, rfl⟩, rfl⟩ := h
    exact ⟨a1, a3, a5, a7, a9, rfl, d0, d1, d2, d3, d4⟩
  · cases h
theorem of_plans24 {W : World} {rest : List (String × DataW Unit)} (h : laidMet Tryd.prog (("abacus/table.plans", Rows.laid_abacus_table_plans) :: rest) W) : ∃ b o cap : Nat, W.cell? ⟨0, 0, none⟩ = some (.slice (some ⟨b, o, none⟩) 32 cap) ∧ ∀ i, i < 32 → PlAt W b (o + i * 5) (plB (plN i)) := by
  have hg0 : Tryd.prog.globalNamed "abacus/table.plans" = some 0 := by kernel_rfl
  have ht0 : (Tryd.prog.globals[0]?).map (·.type) = some 64 := by kernel_rfl
  have hcp : Tryd.prog.cellsOf 67 = 5 := by kernel_rfl
  obtain ⟨ps, ⟨g', t', cs, fuel, p, q, hg', ht', hvar, hd, _, _⟩, _⟩ := h
  obtain rfl := Option.some.inj (hg0.symm.trans hg')
  obtain rfl := Option.some.inj (ht0.symm.trans ht')
  rw [plans_D] at hd
  rcases DataW.trod_slice Tryd.underlying64 hd with ⟨_, hx⟩ | ⟨a, len, cap, elems, rs, n, _, hcs, hx, _, hl, _, hlen, hel, _⟩
  · simp at hx
  · simp only [Prod.mk.injEq, DataW.slice.injEq] at hx
    obtain ⟨⟨hx1, _⟩, _⟩ := hx
    have h32 : len = 32 := by
      rw [← hlen]
      have := congrArg List.length hx1
      exact (by simpa using this.symm : elems.length = plL.length).trans rfl
    subst h32
    have main : ∀ i, i < 32 → ∃ c0 c1 c2 c3 c4, [c0, c1, c2, c3, c4] = (plV (plB (plN i))).toList ∧ W.cell? ((a.add (i * 5)).add 0) = some c0 ∧ W.cell? ((a.add (i * 5)).add 1) = some c1 ∧ W.cell? ((a.add (i * 5)).add 2) = some c2 ∧ W.cell? ((a.add (i * 5)).add 3) = some c3 ∧ W.cell? ((a.add (i * 5)).add 4) = some c4 := by
      intro i hi
      have hE := hel i hi
      rw [hcp] at hE
      have hix : i < elems.length := by omega
      rw [List.getElem?_eq_getElem hix, Option.bind_eq_some_iff] at hE
      obtain ⟨l, h1, h2⟩ := hE
      obtain ⟨c0, c1, c2, c3, c4, rfl, d0, d1, d2, d3, d4⟩ := cells5y h1
      have hp : (elems[i]).1 = plD (plN i) := by
        have q1 : (plL.map plD)[i]? = (elems.map (·.1))[i]? := by rw [hx1]
        rw [List.getElem?_map, List.getElem?_map, List.getElem?_eq_getElem hix, List.getElem?_eq_getElem (show i < plL.length from hi)] at q1
        have q2 : plD (plL[i]'(show i < plL.length from hi)) = (elems[i]).1 := Option.some.inj q1
        rw [← q2]
        unfold plN
        rw [List.getElem?_eq_getElem (show i < plL.length from hi)]
        rfl
      exact ⟨c0, c1, c2, c3, c4, plan_read24 h2 hp, d0, d1, d2, d3, d4⟩
    obtain ⟨_, _, _, _, _, _, s0, _⟩ := main 0 (by decide)
    have hsp : a.spot = none := by
      have := World.cell?_spot s0
      simpa [Addr.add] using this
    obtain ⟨b, o, sp⟩ := a
    simp only at hsp
    subst hsp
    refine ⟨b, o, cap, ?_, fun i hi => ?_⟩
    · rw [World.var?_cell hg0 hvar 0, ← Array.getElem?_toList, hcs]
      rfl
    · obtain ⟨c0, c1, c2, c3, c4, e, d0, d1, d2, d3, d4⟩ := main i hi
      have ad : ∀ j, ((⟨b, o, none⟩ : Addr).add (i * 5)).add j = ⟨b, o + i * 5 + j, none⟩ := fun j => by
        unfold Addr.add
        by_cases h1 : i * 5 = 0 <;> by_cases h2 : j = 0 <;> simp [h1, h2]
      rw [ad] at d0 d1 d2 d3 d4
      simp only [plV, List.cons.injEq, and_true] at e
      obtain ⟨rfl, rfl, rfl, rfl, rfl⟩ := e
      exact ⟨d0, d1, d2, d3, d4⟩
theorem of_laid24 {W : World} (h : laidMetH Tryd.prog laid24L W) : T24 W := by
  rw [MakeChecks.laidMetH_plain _ _ _ (by kernel_rfl)] at h
  have h1 := laidMet.tail h
  have h2 := laidMet.tail h1
  have h3 := laidMet.tail h2
  exact ⟨of_fixed24 h, of_kinds24 h1, of_widths24 h3, of_plans24 h2⟩
theorem door_met24 (os : Os) (args : Array Value) : laidMetH Tryd.prog laid24L ((World.doorLaid Tryd.prog 400 os).forCall (fun _ _ => 0) ⟨#[], args, []⟩).memory :=
  laidMetH_of_parts3 (fuel := 8) (laidMet_of_run' 8 (by kernel_rfl) (by kernel_rfl)) (by kernel_rfl) (by kernel_rfl)
end Go.Proofs.YtfdhglllmhggkaaDoor
