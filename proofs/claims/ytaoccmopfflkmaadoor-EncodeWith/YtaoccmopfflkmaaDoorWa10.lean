/-
  What the functions that the statement reaches return: part 10 (DB, DC).
-/
import Derived.Deep.RegionHeld3
import Derived.Test.YtaoccmopfflkmaaDoorWa09
namespace Go.Proofs.YtaoccmopfflkmaaDoor
set_option maxRecDepth 100000
set_option maxHeartbeats 40000000
set_option maxRecDepth 100000
open Go.RowKit WMath
set_option linter.unusedSimpArgs false
set_option linter.unusedVariables false
theorem gen__table_plan__row_11 {X : Act → World → Prop} {R : World → Nat → Prop} {t0 t1 t2 t3 t4 t5 t6 t7 t8 t9 t10 t12 t13 t14 t15 t16 t17 t18 t19 t20 t21 t22 t23 t24 t25 t26 t27 t28 t29 t30 t31 t32 t33 t34 t35 t36 t37 t38 t39 t40 : Value} {d : List Deferred} {W : World} {G : Nat}
    (key : ∀ w5 g, R w5 g → X ⟨#[t0, t1, t2, t3, t4, t5, t6, t7, t8, t9, t10, .pointer (some ⟨g, 0, none⟩), t12, t13, t14, t15, t16, t17, t18, t19, t20, t21, t22, t23, t24, t25, t26, t27, t28, t29, t30, t31, t32, t33, t34, t35, t36, t37, t38, t39, t40], d⟩ w5) (r : R W G) : X ⟨#[t0, t1, t2, t3, t4, t5, t6, t7, t8, t9, t10, .pointer (some ⟨G, 0, none⟩), t12, t13, t14, t15, t16, t17, t18, t19, t20, t21, t22, t23, t24, t25, t26, t27, t28, t29, t30, t31, t32, t33, t34, t35, t36, t37, t38, t39, t40], d⟩ W := key W G r

structure PlS where
  nm : ByteArray
  opc : Nat
  rs3 : Nat
  rm : Nat
  lay : Nat
deriving DecidableEq
def plV (x : PlS) : Array Value := #[.string x.nm, .int .u8 (x.opc : Nat), .int .u8 (x.rs3 : Nat), .int .u8 (x.rm : Nat), .int .u8 (x.lay : Nat)]
theorem plV_cells {w : World} {b : Nat} {x : PlS} {T : TypeId} (h : w.heap[b]? = some (.cells (plV x) T)) : w.cell? ⟨b, 0, none⟩ = some (.string x.nm) ∧ w.cell? ⟨b, 1, none⟩ = some (.int .u8 (x.opc : Nat)) ∧ w.cell? ⟨b, 2, none⟩ = some (.int .u8 (x.rs3 : Nat)) ∧ w.cell? ⟨b, 3, none⟩ = some (.int .u8 (x.rm : Nat)) ∧ w.cell? ⟨b, 4, none⟩ = some (.int .u8 (x.lay : Nat)) :=
  ⟨cell7 h 0 _ rfl, cell7 h 1 _ rfl, cell7 h 2 _ rfl, cell7 h 3 _ rfl, cell7 h 4 _ rfl⟩
theorem plV_fold (x : PlS) : #[Value.string x.nm, .int .u8 (x.opc : Nat), .int .u8 (x.rs3 : Nat), .int .u8 (x.rm : Nat), .int .u8 (x.lay : Nat)] = plV x := rfl
theorem plV_store {w : World} {b : Nat} {x : PlS} {c : Array Value} {T : TypeId} (h : w.heap[b]? = some (.cells c T)) (hc : c.size = 5) : (storeCells ⟨b, 0, none⟩ (plV x).toList 0).run Tryd.prog w = .ok () (w.setRow b (plV x)) := by
  have := run_storeCells_from (P := Tryd.prog) b T (plV x).toList 0 c w h (by simp [plV, hc]) (fun v hv => by
    simp [plV] at hv
    rcases hv with rfl | rfl | rfl | rfl | rfl <;> rfl)
  have e : List.drop 5 c.toList = [] := List.drop_eq_nil_of_le (by rw [Array.length_toList, hc]; exact Nat.le_refl _)
  simpa [plV, e] using this
theorem plV_lv {w : World} {b : Nat} {x : PlS} {T : TypeId} (h : w.heap[b]? = some (.cells (plV x) T)) : (loadVar 101 ⟨b, 0, none⟩).run Tryd.prog w = .ok (.agg (plV x)) w := by
  have ha : (isAgg 101).run Tryd.prog w = .ok true w := by kernel_rfl
  have hs : (sizeOf 101).run Tryd.prog w = .ok 5 w := by kernel_rfl
  have q := run_loadCells_list (P := Tryd.prog) w ⟨b, 0, none⟩ (plV x).toList (fun j v hv => by
    have hadd : (⟨b, 0, none⟩ : Addr).add j = ⟨b, j, none⟩ := by unfold Addr.add; split <;> simp_all
    rw [hadd]
    exact cell7 h j v (by simpa using hv))
  rw [Array.length_toList, show (plV x).size = 5 from rfl] at q
  simp only [Sem.run_bind, Sem.run_pure, Result.andThen, loadVar, ha, hs, if_true, q]
theorem res_plV {fn : Func} {z : Tmp} (h : fn.results = #[.cell z 101]) {tmps : Array Value} {w : World} {b : Nat} {x : PlS} {T : TypeId} (hz : tmps.getD z undef = .pointer (some ⟨b, 0, none⟩)) (hr : w.heap[b]? = some (.cells (plV x) T)) : (results fn tmps).run Tryd.prog w = .ok (.agg (plV x)) w := by
  have q := plV_lv hr
  have hz2 : tmps[z]?.getD undef = .pointer (some ⟨b, 0, none⟩) := by rw [← Array.getD_eq_getD_getElem?]; exact hz
  simp [results, h, hz2, asAddr, q, Result.andThen]
theorem plV_new (w : World) (b : Nat) (x : PlS) (hb : b = w.heap.size) : (storeCells ⟨b, 0, none⟩ (plV x).toList 0).run Tryd.prog (w.alloc (.cells #[.string ⟨#[]⟩, .int .u8 0, .int .u8 0, .int .u8 0, .int .u8 0] 101)) = .ok () (w.alloc (.cells (plV x) 101)) := by
  subst hb
  exact run_storeCells_new (P := Tryd.prog) w 101 #[.string ⟨#[]⟩, .int .u8 0, .int .u8 0, .int .u8 0, .int .u8 0] (plV x) (by kernel_rfl) rfl (by simp [plV]; exact ⟨rfl, rfl, rfl, rfl, rfl⟩)
structure FdS where
  opc : Nat
  rm : Nat
  rs2 : Nat
  form : Nat
  rs3 : Nat
deriving DecidableEq
def fdC (x : FdS) : Array Value := #[.int .u8 (x.opc : Nat), .int .u8 (x.rm : Nat), .int .u8 (x.rs2 : Nat), .int .u8 (x.form : Nat), .int .u8 (x.rs3 : Nat)]
theorem fdC_cells {w : World} {b : Nat} {x : FdS} {T : TypeId} (h : w.heap[b]? = some (.cells (fdC x) T)) : w.cell? ⟨b, 0, none⟩ = some (.int .u8 (x.opc : Nat)) ∧ w.cell? ⟨b, 1, none⟩ = some (.int .u8 (x.rm : Nat)) ∧ w.cell? ⟨b, 2, none⟩ = some (.int .u8 (x.rs2 : Nat)) ∧ w.cell? ⟨b, 3, none⟩ = some (.int .u8 (x.form : Nat)) ∧ w.cell? ⟨b, 4, none⟩ = some (.int .u8 (x.rs3 : Nat)) :=
  ⟨cell7 h 0 _ rfl, cell7 h 1 _ rfl, cell7 h 2 _ rfl, cell7 h 3 _ rfl, cell7 h 4 _ rfl⟩
theorem fdC_fold (x : FdS) : #[Value.int .u8 (x.opc : Nat), .int .u8 (x.rm : Nat), .int .u8 (x.rs2 : Nat), .int .u8 (x.form : Nat), .int .u8 (x.rs3 : Nat)] = fdC x := rfl
theorem fdC_store {w : World} {b : Nat} {x : FdS} {c : Array Value} {T : TypeId} (h : w.heap[b]? = some (.cells c T)) (hc : c.size = 5) : (storeCells ⟨b, 0, none⟩ (fdC x).toList 0).run Tryd.prog w = .ok () (w.setRow b (fdC x)) := by
  have := run_storeCells_from (P := Tryd.prog) b T (fdC x).toList 0 c w h (by simp [fdC, hc]) (fun v hv => by
    simp [fdC] at hv
    rcases hv with rfl | rfl | rfl | rfl | rfl <;> rfl)
  have e : List.drop 5 c.toList = [] := List.drop_eq_nil_of_le (by rw [Array.length_toList, hc]; exact Nat.le_refl _)
  simpa [fdC, e] using this
theorem fdC_new (w : World) (b : Nat) (x : FdS) (hb : b = w.heap.size) : (storeCells ⟨b, 0, none⟩ (fdC x).toList 0).run Tryd.prog (w.alloc (.cells #[.int .u8 0, .int .u8 0, .int .u8 0, .int .u8 0, .int .u8 0] 98)) = .ok () (w.alloc (.cells (fdC x) 98)) := by
  subst hb
  exact run_storeCells_new (P := Tryd.prog) w 98 #[.int .u8 0, .int .u8 0, .int .u8 0, .int .u8 0, .int .u8 0] (fdC x) (by kernel_rfl) rfl (by simp [fdC]; exact ⟨rfl, rfl, rfl, rfl, rfl⟩)

def plB (p : Pl) : PlS := ⟨⟨p.nm.toArray⟩, p.opc, p.rs3, p.rm, p.lay⟩
def fdB (f : Fd) : FdS := ⟨f.opc, f.rm, f.rs2, f.form, f.rs3⟩
def PlAt (w : World) (b o : Nat) (x : PlS) : Prop := w.cell? ⟨b, o, none⟩ = some (.string x.nm) ∧ w.cell? ⟨b, o + 1, none⟩ = some (.int .u8 (x.opc : Nat)) ∧ w.cell? ⟨b, o + 2, none⟩ = some (.int .u8 (x.rs3 : Nat)) ∧ w.cell? ⟨b, o + 3, none⟩ = some (.int .u8 (x.rm : Nat)) ∧ w.cell? ⟨b, o + 4, none⟩ = some (.int .u8 (x.lay : Nat))
structure T24 (w : World) : Prop where
  fx : ∀ i, i < 10 → w.cell? ⟨1, i, none⟩ = some (.int .u32 (fxN i : Nat))
  kn : True
  wd : ∀ i, i < 4 → w.cell? ⟨2, i, none⟩ = some (.int .u8 (wdN i : Nat))
  pl : ∃ b o cap : Nat, w.cell? ⟨0, 0, none⟩ = some (.slice (some ⟨b, o, none⟩) 32 cap) ∧ ∀ i, i < 32 → PlAt w b (o + i * 5) (plB (plN i))
theorem cellB {w w' : World} (hb : Below w.heap.size w w') {p : Addr} {v : Value} (h : w.cell? p = some v) : w'.cell? p = some v := by
  rw [hb.cell (World.block_lt_of_cell? w _ h)]
  exact h
theorem t24B {w w' : World} (h : T24 w) (hb : Below w.heap.size w w') : T24 w' := by
  obtain ⟨h1, h2, h3, b, o, cap, h4, h5⟩ := h
  exact ⟨fun i hi => cellB hb (h1 i hi), (by first | exact trivial | exact fun i hi => cellB hb (h2 i hi)), fun i hi => cellB hb (h3 i hi), b, o, cap, cellB hb h4, fun i hi => let h := h5 i hi; ⟨cellB hb h.1, cellB hb h.2.1, cellB hb h.2.2.1, cellB hb h.2.2.2.1, cellB hb h.2.2.2.2⟩⟩
theorem t24_dr (W : World) : W.drew.heap.size = W.heap.size := rfl
theorem t24_set {w W : World} {b : Nat} {c : Array Value} (h : Below w.heap.size w W) (hb : w.heap.size ≤ b) : Below w.heap.size w (W.setRow b c) := Below.setRow h hb
theorem t24_al {w : World} (h : T24 w) (o : Obj) : T24 (w.alloc o) := t24B h (bal w o)
set_option maxRecDepth 100000 in
set_option maxHeartbeats 8000000 in
theorem t_planOf (o : Nat) (ho : o < 32) (w : World) (hT : T24 w) : Calls Tryd.prog 49 #[.int .u8 (o : Nat)] w fun r w' => r = .returned (.agg (plV (plB (plN o)))) ∧ Below w.heap.size w w' := by
  obtain ⟨_, _, _, b, a, cap, hs, hp⟩ := t24_al hT (.cells #[.string ⟨#[]⟩, .int .u8 0, .int .u8 0, .int .u8 0, .int .u8 0] 101)
  obtain ⟨P, hP⟩ : ∃ P, plB (plN o) = P := ⟨_, rfl⟩
  have hq := hp o ho
  rw [hP] at hq ⊢
  obtain ⟨c0, c1, c2, c3, c4⟩ := hq
  clear hp hP
  have hf := plV_fold P
  have h1 : decide ((o : Int) < 32) = true := decide_eq_true (by omega)
  have h2 : decide ((32 : Int) ≤ (o : Int)) = false := decide_eq_false (by omega)
  obtain ⟨Rz_0, B0⟩ := opn1 w (Obj.cells #[.string ⟨#[]⟩, .int .u8 0, .int .u8 0, .int .u8 0, .int .u8 0] 101)
  go_enter Tryd.func49, Tryd.ntmps49
  have hst := plV_store (x := P) Rz_0 rfl
  have rz := setRow_row (c' := plV P) Rz_0
  have bz : Below w.heap.size w ((w.alloc (Obj.cells #[.string ⟨#[]⟩, .int .u8 0, .int .u8 0, .int .u8 0, .int .u8 0] 101)).setRow (w.heap.size) (plV P)) := Below.setRow B0 (show w.heap.size ≤ w.heap.size by first | exact Nat.le_refl _ | omega | (skip; omega))
  obtain ⟨wz, hwz⟩ : ∃ V, (w.alloc (Obj.cells #[.string ⟨#[]⟩, .int .u8 0, .int .u8 0, .int .u8 0, .int .u8 0] 101)).setRow (w.heap.size) (plV P) = V := ⟨_, rfl⟩
  rw [hwz] at hst rz bz
  clear hwz
  go_wp2
  exact bodyPost_ret (v := .agg (plV P)) (res_plV Tryd.results49 rfl rz) rfl ⟨rfl, bz⟩

theorem and_fld (w low n : Nat) : w &&& (2 ^ n - 1) * 2 ^ low = w / 2 ^ low % 2 ^ n * 2 ^ low := by
  apply Nat.eq_of_testBit_eq
  intro i
  rw [Nat.testBit_and, Nat.testBit_mul_two_pow, Nat.testBit_mul_two_pow, Nat.testBit_two_pow_sub_one, Nat.testBit_mod_two_pow, Nat.testBit_div_two_pow]
  by_cases h : low ≤ i
  · rw [decide_eq_true h, Bool.true_and, Bool.true_and, show i - low + low = i by omega, Bool.and_comm]
  · rw [decide_eq_false h, Bool.false_and, Bool.false_and, Bool.and_false]
theorem and32t (a b : Nat) (ha : a < 4294967296) (hb : b < 4294967296) : bits .and .u32 ((a : Nat) : Int) ((b : Nat) : Int) = ((a &&& b : Nat) : Int) := by
  have h1 : (BitVec.ofInt 32 ((a : Nat) : Int)).toNat = a := by rw [BitVec.ofInt_natCast, BitVec.toNat_ofNat]; exact Nat.mod_eq_of_lt ha
  have h2 : (BitVec.ofInt 32 ((b : Nat) : Int)).toNat = b := by rw [BitVec.ofInt_natCast, BitVec.toNat_ofNat]; exact Nat.mod_eq_of_lt hb
  show IntKind.u32.wrap ((BitVec.ofInt 32 ((a : Nat) : Int) &&& BitVec.ofInt 32 ((b : Nat) : Int)).toNat : Int) = _
  rw [BitVec.toNat_and, h1, h2, IntKind.wrap_u32]
  have := Nat.and_le_left (n := a) (m := b)
  omega
theorem or32t (a b : Nat) (ha : a < 4294967296) (hb : b < 4294967296) : bits .or .u32 ((a : Nat) : Int) ((b : Nat) : Int) = ((a ||| b : Nat) : Int) := by
  have h1 : (BitVec.ofInt 32 ((a : Nat) : Int)).toNat = a := by rw [BitVec.ofInt_natCast, BitVec.toNat_ofNat]; exact Nat.mod_eq_of_lt ha
  have h2 : (BitVec.ofInt 32 ((b : Nat) : Int)).toNat = b := by rw [BitVec.ofInt_natCast, BitVec.toNat_ofNat]; exact Nat.mod_eq_of_lt hb
  show IntKind.u32.wrap ((BitVec.ofInt 32 ((a : Nat) : Int) ||| BitVec.ofInt 32 ((b : Nat) : Int)).toNat : Int) = _
  rw [BitVec.toNat_or, h1, h2, IntKind.wrap_u32]
  have : a ||| b < 2 ^ 32 := Nat.or_lt_two_pow ha hb
  omega
theorem cut_at (w low n m : Nat) (hw : w < 4294967296) (hm : (2 ^ n - 1) * 2 ^ low = m) (hm2 : m < 4294967296) : bits .and .u32 ((w : Nat) : Int) ((m : Nat) : Int) = ((w / 2 ^ low % 2 ^ n * 2 ^ low : Nat) : Int) := by
  rw [and32t w m hw hm2, ← hm, and_fld]
theorem cut_sh (w low n m : Nat) (c d f : Int) (hw : w < 4294967296) (hm : (2 ^ n - 1) * 2 ^ low = m) (hm2 : m < 4294967296) (hc : c = (m : Int)) (hd : d = ((2 ^ low : Nat) : Int)) (hf : ((w / 2 ^ low % 2 ^ n : Nat) : Int) = f) : ∃ A : Int, bits .and .u32 ((w : Nat) : Int) c = A ∧ A / d = f := by
  refine ⟨((w / 2 ^ low % 2 ^ n * 2 ^ low : Nat) : Int), by rw [hc]; exact cut_at w low n m hw hm hm2, ?_⟩
  rw [hd, ← hf, Int.natCast_mul]
  exact Int.mul_ediv_cancel _ (by have := Nat.two_pow_pos low; omega)
set_option maxRecDepth 100000 in
set_option maxHeartbeats 8000000 in
theorem t_cut (w0 : Nat) (h0 : w0 < 4294967296) (F : FdS) (hF : fdB (cutF w0) = F) (w : World) : Calls Tryd.prog 40 #[.int .u32 (w0 : Nat)] w fun r w' => r = .returned (.agg #[.int .u8 (F.opc : Nat), .int .u8 (F.rm : Nat), .int .u8 (F.rs2 : Nat), .int .u8 (F.form : Nat), .int .u8 (F.rs3 : Nat)]) ∧ Below w.heap.size w w' := by
  obtain ⟨f0, f1, f2, f3, f4⟩ := F
  simp only [fdB, cutF, FdS.mk.injEq] at hF
  obtain ⟨e0, e1, e2, e3, e4⟩ := hF
  have a0 : bits .and .u32 ((w0 : Nat) : Int) 127 = ((w0 / 2 ^ 0 % 2 ^ 7 * 2 ^ 0 : Nat) : Int) := cut_at w0 0 7 127 h0 (by decide) (by decide)
  obtain ⟨A1, a1, d1⟩ := cut_sh w0 12 3 28672 28672 4096 (f1 : Int) h0 (by decide) (by decide) rfl rfl (congrArg _ e1)
  obtain ⟨A2, a2, d2⟩ := cut_sh w0 20 5 32505856 32505856 1048576 (f2 : Int) h0 (by decide) (by decide) rfl rfl (congrArg _ e2)
  obtain ⟨A3, a3, d3⟩ := cut_sh w0 25 2 100663296 100663296 33554432 (f3 : Int) h0 (by decide) (by decide) rfl rfl (congrArg _ e3)
  obtain ⟨A4, a4, d4⟩ := cut_sh w0 27 5 4160749568 4160749568 134217728 (f4 : Int) h0 (by decide) (by decide) rfl rfl (congrArg _ e4)
  rw [Nat.pow_zero, Nat.div_one, Nat.mul_one] at a0
  have e0' : w0 % 2 ^ 7 = f0 := e0
  rw [e0'] at a0
  have m0 : (f0 : Int) % 256 = (f0 : Int) := by omega
  have m1 : (f1 : Int) % 256 = (f1 : Int) := by omega
  have m2 : (f2 : Int) % 256 = (f2 : Int) := by omega
  have m3 : (f3 : Int) % 256 = (f3 : Int) := by omega
  have m4 : (f4 : Int) % 256 = (f4 : Int) := by omega
  clear e0 e1 e2 e3 e4 e0'
  obtain ⟨Rz_0, B0⟩ := opn1 w (Obj.cells #[.int .u8 0, .int .u8 0, .int .u8 0, .int .u8 0, .int .u8 0] 98)
  go_enter Tryd.func40, Tryd.ntmps40
  clear B0 Rz_0
  go_wp2
  exact bodyPost_ret (v := .agg #[.int .u8 (f0 : Nat), .int .u8 (f1 : Nat), .int .u8 (f2 : Nat), .int .u8 (f3 : Nat), .int .u8 (f4 : Nat)]) (by simp [results, Tryd.results40, go_sem]) rfl ⟨rfl, bal w _⟩
set_option maxRecDepth 100000 in
set_option maxHeartbeats 8000000 in
theorem t_isMem (P : PlS) (b1 b2 : Bool) (h1 : (((P.lay : Nat) : Int) == 1) = b1) (h2 : (((P.lay : Nat) : Int) == 2) = b2) (w : World) : Calls Tryd.prog 75 #[.agg #[.string P.nm, .int .u8 (P.opc : Nat), .int .u8 (P.rs3 : Nat), .int .u8 (P.rm : Nat), .int .u8 (P.lay : Nat)]] w fun r w' => r = .returned (.bool (b1 || b2)) ∧ Below w.heap.size w w' := by
  cases b1
  · cases b2
    · obtain ⟨Rp_0, B0⟩ := opn1 w (Obj.cells #[.string P.nm, .int .u8 (P.opc : Nat), .int .u8 (P.rs3 : Nat), .int .u8 (P.rm : Nat), .int .u8 (P.lay : Nat)] 101)
      go_enter Tryd.func75, Tryd.ntmps75
      have cp_0_0 := cells4 Rp_0 0 _ rfl
      have cp_0_1 := cells4 Rp_0 1 _ rfl
      have cp_0_2 := cells4 Rp_0 2 _ rfl
      have cp_0_3 := cells4 Rp_0 3 _ rfl
      have cp_0_4 := cells4 Rp_0 4 _ rfl
      go_wp2
      go_ret
      exact ⟨rfl, B0⟩
    · obtain ⟨Rp_0, B0⟩ := opn1 w (Obj.cells #[.string P.nm, .int .u8 (P.opc : Nat), .int .u8 (P.rs3 : Nat), .int .u8 (P.rm : Nat), .int .u8 (P.lay : Nat)] 101)
      go_enter Tryd.func75, Tryd.ntmps75
      have cp_0_0 := cells4 Rp_0 0 _ rfl
      have cp_0_1 := cells4 Rp_0 1 _ rfl
      have cp_0_2 := cells4 Rp_0 2 _ rfl
      have cp_0_3 := cells4 Rp_0 3 _ rfl
      have cp_0_4 := cells4 Rp_0 4 _ rfl
      go_wp2
      go_ret
      exact ⟨rfl, B0⟩
  · obtain ⟨Rp_0, B0⟩ := opn1 w (Obj.cells #[.string P.nm, .int .u8 (P.opc : Nat), .int .u8 (P.rs3 : Nat), .int .u8 (P.rm : Nat), .int .u8 (P.lay : Nat)] 101)
    go_enter Tryd.func75, Tryd.ntmps75
    have cp_0_0 := cells4 Rp_0 0 _ rfl
    have cp_0_1 := cells4 Rp_0 1 _ rfl
    have cp_0_2 := cells4 Rp_0 2 _ rfl
    have cp_0_3 := cells4 Rp_0 3 _ rfl
    have cp_0_4 := cells4 Rp_0 4 _ rfl
    go_wp2
    go_ret
    exact ⟨rfl, B0⟩
set_option maxRecDepth 100000 in
set_option maxHeartbeats 8000000 in
theorem t_rmOf_y (P : PlS) (f : Nat) (hf : f < 4) (w : World) (hT : T24 w) (K : Box (∀ w, Calls Tryd.prog 75 #[.agg #[.string P.nm, .int .u8 (P.opc : Nat), .int .u8 (P.rs3 : Nat), .int .u8 (P.rm : Nat), .int .u8 (P.lay : Nat)]] w fun r w' => r = .returned (.bool true) ∧ Below w.heap.size w w')) : Calls Tryd.prog 76 #[.agg #[.string P.nm, .int .u8 (P.opc : Nat), .int .u8 (P.rs3 : Nat), .int .u8 (P.rm : Nat), .int .u8 (P.lay : Nat)], .int .u8 (f : Nat)] w fun r w' => r = .returned (.int .u8 (wdN f : Nat)) ∧ Below w.heap.size w w' := by
  have FF := box hT
  have h1 : decide ((f : Int) < 4) = true := decide_eq_true (by omega)
  have h2 : decide ((4 : Int) ≤ (f : Int)) = false := decide_eq_false (by omega)
  clear hT
  obtain ⟨Rp_0, B0⟩ := opn1 w (Obj.cells #[.string P.nm, .int .u8 (P.opc : Nat), .int .u8 (P.rs3 : Nat), .int .u8 (P.rm : Nat), .int .u8 (P.lay : Nat)] 101)
  go_enter Tryd.func76, Tryd.ntmps76
  have cp_0_0 := cells4 Rp_0 0 _ rfl
  have cp_0_1 := cells4 Rp_0 1 _ rfl
  have cp_0_2 := cells4 Rp_0 2 _ rfl
  have cp_0_3 := cells4 Rp_0 3 _ rfl
  have cp_0_4 := cells4 Rp_0 4 _ rfl
  go_wp2_with fail
  refine (K.out _).mono ?_
  rintro r w1 ⟨rfl, b1⟩
  have B1 : Below w.heap.size w w1 := btr B0 b1
  have Rp_1 := heap_of b1 _ _ _ Rp_0
  clear b1 B0 Rp_0 cp_0_0 cp_0_1 cp_0_2 cp_0_3 cp_0_4
  have cp_1_0 := cells4 Rp_1 0 _ rfl
  have cp_1_1 := cells4 Rp_1 1 _ rfl
  have cp_1_2 := cells4 Rp_1 2 _ rfl
  have cp_1_3 := cells4 Rp_1 3 _ rfl
  have cp_1_4 := cells4 Rp_1 4 _ rfl
  have cw := (t24B FF.out B1).wd f hf
  go_wp2
  go_ret
  exact ⟨rfl, B1⟩
set_option maxRecDepth 100000 in
set_option maxHeartbeats 8000000 in
theorem t_rmOf_n (P : PlS) (f : Nat) (w : World) (K : Box (∀ w, Calls Tryd.prog 75 #[.agg #[.string P.nm, .int .u8 (P.opc : Nat), .int .u8 (P.rs3 : Nat), .int .u8 (P.rm : Nat), .int .u8 (P.lay : Nat)]] w fun r w' => r = .returned (.bool false) ∧ Below w.heap.size w w')) : Calls Tryd.prog 76 #[.agg #[.string P.nm, .int .u8 (P.opc : Nat), .int .u8 (P.rs3 : Nat), .int .u8 (P.rm : Nat), .int .u8 (P.lay : Nat)], .int .u8 (f : Nat)] w fun r w' => r = .returned (.int .u8 (P.rm : Nat)) ∧ Below w.heap.size w w' := by
  obtain ⟨Rp_0, B0⟩ := opn1 w (Obj.cells #[.string P.nm, .int .u8 (P.opc : Nat), .int .u8 (P.rs3 : Nat), .int .u8 (P.rm : Nat), .int .u8 (P.lay : Nat)] 101)
  go_enter Tryd.func76, Tryd.ntmps76
  have cp_0_0 := cells4 Rp_0 0 _ rfl
  have cp_0_1 := cells4 Rp_0 1 _ rfl
  have cp_0_2 := cells4 Rp_0 2 _ rfl
  have cp_0_3 := cells4 Rp_0 3 _ rfl
  have cp_0_4 := cells4 Rp_0 4 _ rfl
  go_wp2_with fail
  refine (K.out _).mono ?_
  rintro r w1 ⟨rfl, b1⟩
  have B1 : Below w.heap.size w w1 := btr B0 b1
  have Rp_1 := heap_of b1 _ _ _ Rp_0
  clear b1 B0 Rp_0 cp_0_0 cp_0_1 cp_0_2 cp_0_3 cp_0_4
  have cp_1_0 := cells4 Rp_1 0 _ rfl
  have cp_1_1 := cells4 Rp_1 1 _ rfl
  have cp_1_2 := cells4 Rp_1 2 _ rfl
  have cp_1_3 := cells4 Rp_1 3 _ rfl
  have cp_1_4 := cells4 Rp_1 4 _ rfl
  go_wp2
  go_ret
  exact ⟨rfl, B1⟩
set_option maxRecDepth 100000 in
set_option maxHeartbeats 8000000 in
theorem t_word (F : FdS) (S1 S2 S3 S4 O1 O2 O3 O4 : Nat) (m0 : ((F.opc : Nat) : Int) % 4294967296 = (F.opc : Nat)) (m1 : ((F.rm : Nat) : Int) % 4294967296 = (F.rm : Nat)) (m2 : ((F.rs2 : Nat) : Int) % 4294967296 = (F.rs2 : Nat)) (m3 : ((F.form : Nat) : Int) % 4294967296 = (F.form : Nat)) (m4 : ((F.rs3 : Nat) : Int) % 4294967296 = (F.rs3 : Nat))
    (s1 : ((F.rm : Nat) : Int) * 4096 % 4294967296 = (S1 : Nat)) (s2 : ((F.rs2 : Nat) : Int) * 1048576 % 4294967296 = (S2 : Nat)) (s3 : ((F.form : Nat) : Int) * 33554432 % 4294967296 = (S3 : Nat)) (s4 : ((F.rs3 : Nat) : Int) * 134217728 % 4294967296 = (S4 : Nat))
    (o1 : bits .or .u32 ((F.opc : Nat) : Int) (S1 : Nat) = (O1 : Nat)) (o2 : bits .or .u32 (O1 : Nat) (S2 : Nat) = (O2 : Nat)) (o3 : bits .or .u32 (O2 : Nat) (S3 : Nat) = (O3 : Nat)) (o4 : bits .or .u32 (O3 : Nat) (S4 : Nat) = (O4 : Nat)) (w : World) : Calls Tryd.prog 77 #[.agg #[.int .u8 (F.opc : Nat), .int .u8 (F.rm : Nat), .int .u8 (F.rs2 : Nat), .int .u8 (F.form : Nat), .int .u8 (F.rs3 : Nat)]] w fun r w' => r = .returned (.int .u32 (O4 : Nat)) ∧ Below w.heap.size w w' := by
  obtain ⟨Rf_0, B0⟩ := opn1 w (Obj.cells #[.int .u8 (F.opc : Nat), .int .u8 (F.rm : Nat), .int .u8 (F.rs2 : Nat), .int .u8 (F.form : Nat), .int .u8 (F.rs3 : Nat)] 98)
  go_enter Tryd.func77, Tryd.ntmps77
  have cf_0_0 := cells4 Rf_0 0 _ rfl
  have cf_0_1 := cells4 Rf_0 1 _ rfl
  have cf_0_2 := cells4 Rf_0 2 _ rfl
  have cf_0_3 := cells4 Rf_0 3 _ rfl
  have cf_0_4 := cells4 Rf_0 4 _ rfl
  go_wp2
  go_ret
  exact ⟨rfl, B0⟩
theorem rwC_storeG {w : World} {b : Nat} {r : Rw} {c : Array Value} {T : TypeId} (h : w.heap[b]? = some (.cells c T)) (hc : c.size = 7) : (storeCells ⟨b, 0, none⟩ (rwC r).toList 0).run Tryd.prog w = .ok () (w.setRow b (rwC r)) := by
  have := run_storeCells_from (P := Tryd.prog) b T (rwC r).toList 0 c w h (by simp [rwC, hc]) (fun v hv => by
    simp [rwC] at hv
    rcases hv with rfl | rfl | rfl | rfl | rfl | rfl | rfl <;> rfl)
  have e : List.drop 7 c.toList = [] := List.drop_eq_nil_of_le (by rw [Array.length_toList, hc]; exact Nat.le_refl _)
  simpa [rwC, e] using this
theorem rwC_lv {w : World} {b : Nat} {r : Rw} {T : TypeId} (h : w.heap[b]? = some (.cells (rwC r) T)) : (loadVar 45 ⟨b, 0, none⟩).run Tryd.prog w = .ok (.agg (rwC r)) w := by
  have ha : (isAgg 45).run Tryd.prog w = .ok true w := by kernel_rfl
  have hs : (sizeOf 45).run Tryd.prog w = .ok 7 w := by kernel_rfl
  have q := run_loadCells_list (P := Tryd.prog) w ⟨b, 0, none⟩ (rwC r).toList (fun j v hv => by
    have hadd : (⟨b, 0, none⟩ : Addr).add j = ⟨b, j, none⟩ := by unfold Addr.add; split <;> simp_all
    rw [hadd]
    exact cell7 h j v (by simpa using hv))
  rw [Array.length_toList, show (rwC r).size = 7 from rfl] at q
  simp only [Sem.run_bind, Sem.run_pure, Result.andThen, loadVar, ha, hs, if_true, q]
theorem res_rwC {fn : Func} {z : Tmp} (h : fn.results = #[.cell z 45]) {tmps : Array Value} {w : World} {b : Nat} {r : Rw} {T : TypeId} (hz : tmps.getD z undef = .pointer (some ⟨b, 0, none⟩)) (hr : w.heap[b]? = some (.cells (rwC r) T)) : (results fn tmps).run Tryd.prog w = .ok (.agg (rwC r)) w := by
  have q := rwC_lv hr
  have hz2 : tmps[z]?.getD undef = .pointer (some ⟨b, 0, none⟩) := by rw [← Array.getD_eq_getD_getElem?]; exact hz
  simp [results, h, hz2, asAddr, q, Result.andThen]
set_option maxRecDepth 100000 in
set_option maxHeartbeats 8000000 in
theorem t_row (P : PlS) (X : FdS) (R : Rw) (o f g k gk rm V M U : Nat) (hM : fxN P.lay = M) (hl : P.lay < 10) (hX : X = ⟨P.opc, rm, gk, f, P.rs3⟩) (hR : R = ⟨o, f, g, k, M, U, P.lay⟩) (hor : bits .or .u8 (g : Int) (k : Int) = (gk : Nat)) (hand : bits .and .u32 (V : Int) (M : Int) = (U : Nat))
    (K1 : Box (∀ w, T24 w → Calls Tryd.prog 76 #[.agg #[.string P.nm, .int .u8 (P.opc : Nat), .int .u8 (P.rs3 : Nat), .int .u8 (P.rm : Nat), .int .u8 (P.lay : Nat)], .int .u8 (f : Nat)] w fun r w' => r = .returned (.int .u8 (rm : Nat)) ∧ Below w.heap.size w w'))
    (K2 : Box (∀ w, Calls Tryd.prog 77 #[.agg (fdC X)] w fun r w' => r = .returned (.int .u32 (V : Nat)) ∧ Below w.heap.size w w')) (w : World) (hT : T24 w) :
    Calls Tryd.prog 51 #[.agg #[.string P.nm, .int .u8 (P.opc : Nat), .int .u8 (P.rs3 : Nat), .int .u8 (P.rm : Nat), .int .u8 (P.lay : Nat)], .int .u8 (o : Nat), .int .u8 (f : Nat), .int .u8 (g : Nat), .int .u8 (k : Nat)] w fun r w' => r = .returned (.agg (rwC R)) ∧ Below w.heap.size w w' := by
  have FF := box hT
  have h1 : decide (((P.lay : Nat) : Int) < 10) = true := decide_eq_true (by omega)
  have h2 : decide ((10 : Int) ≤ ((P.lay : Nat) : Int)) = false := decide_eq_false (by omega)
  have HM := box hM
  have hf1 : #[Value.int .u8 (P.opc : Nat), .int .u8 (rm : Nat), .int .u8 (gk : Nat), .int .u8 (f : Nat), .int .u8 (P.rs3 : Nat)] = fdC X := by rw [hX]; rfl
  have hf2 : #[Value.int .u8 (o : Nat), .int .u8 (f : Nat), .int .u8 (g : Nat), .int .u8 (k : Nat), .int .u32 (M : Nat), .int .u32 (U : Nat), .int .u8 (P.lay : Nat)] = rwC R := by rw [hR]; rfl
  have hf3 := fdC_fold X
  have hsn := fdC_new
  clear hT hM hX hR
  obtain ⟨Rp_0, Rz_0, B0⟩ := opn2 w (Obj.cells #[.string P.nm, .int .u8 (P.opc : Nat), .int .u8 (P.rs3 : Nat), .int .u8 (P.rm : Nat), .int .u8 (P.lay : Nat)] 101) (Obj.cells #[.int .u8 0, .int .u8 0, .int .u8 0, .int .u8 0, .int .u32 0, .int .u32 0, .int .u8 0] 45)
  go_enter Tryd.func51, Tryd.ntmps51
  have cp_0_0 := cells4 Rp_0 0 _ rfl
  have cp_0_1 := cells4 Rp_0 1 _ rfl
  have cp_0_2 := cells4 Rp_0 2 _ rfl
  have cp_0_3 := cells4 Rp_0 3 _ rfl
  have cp_0_4 := cells4 Rp_0 4 _ rfl
  have cz_0_0 := cells4 Rz_0 0 _ rfl
  have cz_0_1 := cells4 Rz_0 1 _ rfl
  have cz_0_2 := cells4 Rz_0 2 _ rfl
  have cz_0_3 := cells4 Rz_0 3 _ rfl
  have cz_0_4 := cells4 Rz_0 4 _ rfl
  have cz_0_5 := cells4 Rz_0 5 _ rfl
  have cz_0_6 := cells4 Rz_0 6 _ rfl
  have sS : Box (∀ W W1 : World, (Below w.heap.size w W ∧ W.heap[w.heap.size]? = some (Obj.cells #[.string P.nm, .int .u8 (P.opc : Nat), .int .u8 (P.rs3 : Nat), .int .u8 (P.rm : Nat), .int .u8 (P.lay : Nat)] 101) ∧ W.heap[w.heap.size + 1]? = some (Obj.cells #[.int .u8 0, .int .u8 0, .int .u8 0, .int .u8 0, .int .u32 0, .int .u32 0, .int .u8 0] 45) ∧ W.cell? ⟨w.heap.size, 0, none⟩ = some (.string P.nm) ∧ W.cell? ⟨w.heap.size, 1, none⟩ = some (.int .u8 (P.opc : Nat)) ∧ W.cell? ⟨w.heap.size, 2, none⟩ = some (.int .u8 (P.rs3 : Nat)) ∧ W.cell? ⟨w.heap.size, 3, none⟩ = some (.int .u8 (P.rm : Nat)) ∧ W.cell? ⟨w.heap.size, 4, none⟩ = some (.int .u8 (P.lay : Nat))) → Below W.heap.size W W1 → (Below w.heap.size w W1 ∧ W1.heap[w.heap.size]? = some (Obj.cells #[.string P.nm, .int .u8 (P.opc : Nat), .int .u8 (P.rs3 : Nat), .int .u8 (P.rm : Nat), .int .u8 (P.lay : Nat)] 101) ∧ W1.heap[w.heap.size + 1]? = some (Obj.cells #[.int .u8 0, .int .u8 0, .int .u8 0, .int .u8 0, .int .u32 0, .int .u32 0, .int .u8 0] 45) ∧ W1.cell? ⟨w.heap.size, 0, none⟩ = some (.string P.nm) ∧ W1.cell? ⟨w.heap.size, 1, none⟩ = some (.int .u8 (P.opc : Nat)) ∧ W1.cell? ⟨w.heap.size, 2, none⟩ = some (.int .u8 (P.rs3 : Nat)) ∧ W1.cell? ⟨w.heap.size, 3, none⟩ = some (.int .u8 (P.rm : Nat)) ∧ W1.cell? ⟨w.heap.size, 4, none⟩ = some (.int .u8 (P.lay : Nat)))) := box (fun W W1 h b => ⟨btr h.1 b, heap_of b _ _ _ h.2.1, heap_of b _ _ _ h.2.2.1, cell7 (heap_of b _ _ _ h.2.1) 0 _ rfl, cell7 (heap_of b _ _ _ h.2.1) 1 _ rfl, cell7 (heap_of b _ _ _ h.2.1) 2 _ rfl, cell7 (heap_of b _ _ _ h.2.1) 3 _ rfl, cell7 (heap_of b _ _ _ h.2.1) 4 _ rfl⟩)
  have sL : Box (∀ W : World, (Below w.heap.size w W ∧ W.heap[w.heap.size]? = some (Obj.cells #[.string P.nm, .int .u8 (P.opc : Nat), .int .u8 (P.rs3 : Nat), .int .u8 (P.rm : Nat), .int .u8 (P.lay : Nat)] 101) ∧ W.heap[w.heap.size + 1]? = some (Obj.cells #[.int .u8 0, .int .u8 0, .int .u8 0, .int .u8 0, .int .u32 0, .int .u32 0, .int .u8 0] 45) ∧ W.cell? ⟨w.heap.size, 0, none⟩ = some (.string P.nm) ∧ W.cell? ⟨w.heap.size, 1, none⟩ = some (.int .u8 (P.opc : Nat)) ∧ W.cell? ⟨w.heap.size, 2, none⟩ = some (.int .u8 (P.rs3 : Nat)) ∧ W.cell? ⟨w.heap.size, 3, none⟩ = some (.int .u8 (P.rm : Nat)) ∧ W.cell? ⟨w.heap.size, 4, none⟩ = some (.int .u8 (P.lay : Nat))) → (w.heap.size < W.heap.size ∧ w.heap.size + 1 < W.heap.size)) := box (fun W h => ⟨(Array.getElem?_eq_some_iff.1 h.2.1).1, (Array.getElem?_eq_some_iff.1 h.2.2.1).1⟩)
  have sT : Box (∀ (W : World) (gN : Nat) (xA : Array Value), (Below w.heap.size w W ∧ W.heap[w.heap.size]? = some (Obj.cells #[.string P.nm, .int .u8 (P.opc : Nat), .int .u8 (P.rs3 : Nat), .int .u8 (P.rm : Nat), .int .u8 (P.lay : Nat)] 101) ∧ W.heap[w.heap.size + 1]? = some (Obj.cells #[.int .u8 0, .int .u8 0, .int .u8 0, .int .u8 0, .int .u32 0, .int .u32 0, .int .u8 0] 45) ∧ W.cell? ⟨w.heap.size, 0, none⟩ = some (.string P.nm) ∧ W.cell? ⟨w.heap.size, 1, none⟩ = some (.int .u8 (P.opc : Nat)) ∧ W.cell? ⟨w.heap.size, 2, none⟩ = some (.int .u8 (P.rs3 : Nat)) ∧ W.cell? ⟨w.heap.size, 3, none⟩ = some (.int .u8 (P.rm : Nat)) ∧ W.cell? ⟨w.heap.size, 4, none⟩ = some (.int .u8 (P.lay : Nat))) → (w.heap.size < gN ∧ w.heap.size + 1 < gN) → (Below w.heap.size w (W.setRow gN xA) ∧ (W.setRow gN xA).heap[w.heap.size]? = some (Obj.cells #[.string P.nm, .int .u8 (P.opc : Nat), .int .u8 (P.rs3 : Nat), .int .u8 (P.rm : Nat), .int .u8 (P.lay : Nat)] 101) ∧ (W.setRow gN xA).heap[w.heap.size + 1]? = some (Obj.cells #[.int .u8 0, .int .u8 0, .int .u8 0, .int .u8 0, .int .u32 0, .int .u32 0, .int .u8 0] 45) ∧ (W.setRow gN xA).cell? ⟨w.heap.size, 0, none⟩ = some (.string P.nm) ∧ (W.setRow gN xA).cell? ⟨w.heap.size, 1, none⟩ = some (.int .u8 (P.opc : Nat)) ∧ (W.setRow gN xA).cell? ⟨w.heap.size, 2, none⟩ = some (.int .u8 (P.rs3 : Nat)) ∧ (W.setRow gN xA).cell? ⟨w.heap.size, 3, none⟩ = some (.int .u8 (P.rm : Nat)) ∧ (W.setRow gN xA).cell? ⟨w.heap.size, 4, none⟩ = some (.int .u8 (P.lay : Nat)))) := box (fun W gN xA h l => ⟨t24_set h.1 (show w.heap.size ≤ gN by have := l.1; omega), (setRow_other (by have := l.1; omega)).trans h.2.1, (setRow_other (by have := l.2; omega)).trans h.2.2.1, cell7 ((setRow_other (by have := l.1; omega)).trans h.2.1) 0 _ rfl, cell7 ((setRow_other (by have := l.1; omega)).trans h.2.1) 1 _ rfl, cell7 ((setRow_other (by have := l.1; omega)).trans h.2.1) 2 _ rfl, cell7 ((setRow_other (by have := l.1; omega)).trans h.2.1) 3 _ rfl, cell7 ((setRow_other (by have := l.1; omega)).trans h.2.1) 4 _ rfl⟩)
  have s0 : Below w.heap.size w (((w.alloc (Obj.cells #[.string P.nm, .int .u8 (P.opc : Nat), .int .u8 (P.rs3 : Nat), .int .u8 (P.rm : Nat), .int .u8 (P.lay : Nat)] 101)).alloc (Obj.cells #[.int .u8 0, .int .u8 0, .int .u8 0, .int .u8 0, .int .u32 0, .int .u32 0, .int .u8 0] 45))).drew ∧ (((w.alloc (Obj.cells #[.string P.nm, .int .u8 (P.opc : Nat), .int .u8 (P.rs3 : Nat), .int .u8 (P.rm : Nat), .int .u8 (P.lay : Nat)] 101)).alloc (Obj.cells #[.int .u8 0, .int .u8 0, .int .u8 0, .int .u8 0, .int .u32 0, .int .u32 0, .int .u8 0] 45))).drew.heap[w.heap.size]? = some (Obj.cells #[.string P.nm, .int .u8 (P.opc : Nat), .int .u8 (P.rs3 : Nat), .int .u8 (P.rm : Nat), .int .u8 (P.lay : Nat)] 101) ∧ (((w.alloc (Obj.cells #[.string P.nm, .int .u8 (P.opc : Nat), .int .u8 (P.rs3 : Nat), .int .u8 (P.rm : Nat), .int .u8 (P.lay : Nat)] 101)).alloc (Obj.cells #[.int .u8 0, .int .u8 0, .int .u8 0, .int .u8 0, .int .u32 0, .int .u32 0, .int .u8 0] 45))).drew.heap[w.heap.size + 1]? = some (Obj.cells #[.int .u8 0, .int .u8 0, .int .u8 0, .int .u8 0, .int .u32 0, .int .u32 0, .int .u8 0] 45) ∧ (((w.alloc (Obj.cells #[.string P.nm, .int .u8 (P.opc : Nat), .int .u8 (P.rs3 : Nat), .int .u8 (P.rm : Nat), .int .u8 (P.lay : Nat)] 101)).alloc (Obj.cells #[.int .u8 0, .int .u8 0, .int .u8 0, .int .u8 0, .int .u32 0, .int .u32 0, .int .u8 0] 45))).drew.cell? ⟨w.heap.size, 0, none⟩ = some (.string P.nm) ∧ (((w.alloc (Obj.cells #[.string P.nm, .int .u8 (P.opc : Nat), .int .u8 (P.rs3 : Nat), .int .u8 (P.rm : Nat), .int .u8 (P.lay : Nat)] 101)).alloc (Obj.cells #[.int .u8 0, .int .u8 0, .int .u8 0, .int .u8 0, .int .u32 0, .int .u32 0, .int .u8 0] 45))).drew.cell? ⟨w.heap.size, 1, none⟩ = some (.int .u8 (P.opc : Nat)) ∧ (((w.alloc (Obj.cells #[.string P.nm, .int .u8 (P.opc : Nat), .int .u8 (P.rs3 : Nat), .int .u8 (P.rm : Nat), .int .u8 (P.lay : Nat)] 101)).alloc (Obj.cells #[.int .u8 0, .int .u8 0, .int .u8 0, .int .u8 0, .int .u32 0, .int .u32 0, .int .u8 0] 45))).drew.cell? ⟨w.heap.size, 2, none⟩ = some (.int .u8 (P.rs3 : Nat)) ∧ (((w.alloc (Obj.cells #[.string P.nm, .int .u8 (P.opc : Nat), .int .u8 (P.rs3 : Nat), .int .u8 (P.rm : Nat), .int .u8 (P.lay : Nat)] 101)).alloc (Obj.cells #[.int .u8 0, .int .u8 0, .int .u8 0, .int .u8 0, .int .u32 0, .int .u32 0, .int .u8 0] 45))).drew.cell? ⟨w.heap.size, 3, none⟩ = some (.int .u8 (P.rm : Nat)) ∧ (((w.alloc (Obj.cells #[.string P.nm, .int .u8 (P.opc : Nat), .int .u8 (P.rs3 : Nat), .int .u8 (P.rm : Nat), .int .u8 (P.lay : Nat)] 101)).alloc (Obj.cells #[.int .u8 0, .int .u8 0, .int .u8 0, .int .u8 0, .int .u32 0, .int .u32 0, .int .u8 0] 45))).drew.cell? ⟨w.heap.size, 4, none⟩ = some (.int .u8 (P.lay : Nat)) := ⟨B0.drew, Rp_0, Rz_0, cell7 (Rp_0) 0 _ rfl, cell7 (Rp_0) 1 _ rfl, cell7 (Rp_0) 2 _ rfl, cell7 (Rp_0) 3 _ rfl, cell7 (Rp_0) 4 _ rfl⟩
  clear B0 Rp_0 cp_0_0 cp_0_1 cp_0_2 cp_0_3 cp_0_4 Rz_0 cz_0_0 cz_0_1 cz_0_2 cz_0_3 cz_0_4 cz_0_5 cz_0_6
  go_wp2_with fail
  apply cut7
  · intro key0
    have key := box key0
    clear key0
    go_region_held3 (fun W => Below w.heap.size w W ∧ W.heap[w.heap.size]? = some (Obj.cells #[.string P.nm, .int .u8 (P.opc : Nat), .int .u8 (P.rs3 : Nat), .int .u8 (P.rm : Nat), .int .u8 (P.lay : Nat)] 101) ∧ W.heap[w.heap.size + 1]? = some (Obj.cells #[.int .u8 0, .int .u8 0, .int .u8 0, .int .u8 0, .int .u32 0, .int .u32 0, .int .u8 0] 45) ∧ W.cell? ⟨w.heap.size, 0, none⟩ = some (.string P.nm) ∧ W.cell? ⟨w.heap.size, 1, none⟩ = some (.int .u8 (P.opc : Nat)) ∧ W.cell? ⟨w.heap.size, 2, none⟩ = some (.int .u8 (P.rs3 : Nat)) ∧ W.cell? ⟨w.heap.size, 3, none⟩ = some (.int .u8 (P.rm : Nat)) ∧ W.cell? ⟨w.heap.size, 4, none⟩ = some (.int .u8 (P.lay : Nat))) (first | exact s1 | exact s0 | exact sS.out _ _ s1 (bal _ _) | exact sS.out _ _ s0 (bal _ _) | exact sT.out _ _ _ s1 hl)
      (first | (go_at_call 76; (first | refine (K1.out _ (by first | exact t24B FF.out (And.left s1) | exact t24_al (t24B FF.out (And.left s1)) _)).mono ?_ | refine (K1.out _ (by first | exact t24B FF.out (And.left s0) | exact t24_al (t24B FF.out (And.left s0)) _)).mono ?_); rintro r wq ⟨rfl, bq⟩; (first | (have hg := heap_of bq _ _ _ (heap_alloc_last _ _); have hl := (by first | exact sL.out _ s1 | exact sL.out _ s0)) | have hg := heap_of bq _ _ _ hg | skip); (try simp only [t24_dr, size_al] at hg hl); (first | have hst := fdC_store (x := X) hg rfl | skip); have s2 := (by first | exact sS.out _ _ s1 bq | exact sS.out _ _ s0 bq | exact sS.out _ _ (sS.out _ _ s1 (bal _ _)) bq | exact sS.out _ _ (sS.out _ _ s0 (bal _ _)) bq); (try clear s1); have s1 := s2; clear s2 bq) | fail)
    all_goals
      refine gen__table_plan__row_11 (R := fun W gN => (Below w.heap.size w W ∧ W.heap[w.heap.size]? = some (Obj.cells #[.string P.nm, .int .u8 (P.opc : Nat), .int .u8 (P.rs3 : Nat), .int .u8 (P.rm : Nat), .int .u8 (P.lay : Nat)] 101) ∧ W.heap[w.heap.size + 1]? = some (Obj.cells #[.int .u8 0, .int .u8 0, .int .u8 0, .int .u8 0, .int .u32 0, .int .u32 0, .int .u8 0] 45) ∧ W.cell? ⟨w.heap.size, 0, none⟩ = some (.string P.nm) ∧ W.cell? ⟨w.heap.size, 1, none⟩ = some (.int .u8 (P.opc : Nat)) ∧ W.cell? ⟨w.heap.size, 2, none⟩ = some (.int .u8 (P.rs3 : Nat)) ∧ W.cell? ⟨w.heap.size, 3, none⟩ = some (.int .u8 (P.rm : Nat)) ∧ W.cell? ⟨w.heap.size, 4, none⟩ = some (.int .u8 (P.lay : Nat))) ∧ W.heap[gN]? = some (Obj.cells (fdC X) 98) ∧ (w.heap.size < gN ∧ w.heap.size + 1 < gN)) key.out ?_
      first
        | exact ⟨(sT.out _ _ _ s1 hl), setRow_row hg, hl⟩
        | exact ⟨sS.out _ _ s1 (bal _ _), heap_alloc_last _ _, sL.out _ s1⟩
        | exact ⟨sS.out _ _ s0 (bal _ _), heap_alloc_last _ _, sL.out _ s0⟩
  rintro w1 g1 ⟨s1, Ra_1, l1⟩
  have B1 := And.left s1
  have Rp_1 := s1.2.1
  have Rz_1 := s1.2.2.1
  have H1 := box l1
  clear s0 s1 sS sL sT l1
  have cp_1_0 := cells4 Rp_1 0 _ rfl
  have cp_1_1 := cells4 Rp_1 1 _ rfl
  have cp_1_2 := cells4 Rp_1 2 _ rfl
  have cp_1_3 := cells4 Rp_1 3 _ rfl
  have cp_1_4 := cells4 Rp_1 4 _ rfl
  have cz_1_0 := cells4 Rz_1 0 _ rfl
  have cz_1_1 := cells4 Rz_1 1 _ rfl
  have cz_1_2 := cells4 Rz_1 2 _ rfl
  have cz_1_3 := cells4 Rz_1 3 _ rfl
  have cz_1_4 := cells4 Rz_1 4 _ rfl
  have cz_1_5 := cells4 Rz_1 5 _ rfl
  have cz_1_6 := cells4 Rz_1 6 _ rfl
  obtain ⟨ca_1_0, ca_1_1, ca_1_2, ca_1_3, ca_1_4⟩ := fdC_cells Ra_1
  have cx := (t24B FF.out B1).fx P.lay hl
  rw [HM.out] at cx
  go_wp2_with fail
  clear cx hsn
  have sS : Box (∀ W W1 : World, (Below w.heap.size w W ∧ W.heap[w.heap.size]? = some (Obj.cells #[.string P.nm, .int .u8 (P.opc : Nat), .int .u8 (P.rs3 : Nat), .int .u8 (P.rm : Nat), .int .u8 (P.lay : Nat)] 101) ∧ W.heap[g1]? = some (Obj.cells (fdC X) 98) ∧ W.cell? ⟨w.heap.size, 0, none⟩ = some (.string P.nm) ∧ W.cell? ⟨w.heap.size, 1, none⟩ = some (.int .u8 (P.opc : Nat)) ∧ W.cell? ⟨w.heap.size, 2, none⟩ = some (.int .u8 (P.rs3 : Nat)) ∧ W.cell? ⟨w.heap.size, 3, none⟩ = some (.int .u8 (P.rm : Nat)) ∧ W.cell? ⟨w.heap.size, 4, none⟩ = some (.int .u8 (P.lay : Nat)) ∧ W.cell? ⟨g1, 0, none⟩ = some (.int .u8 (X.opc : Nat)) ∧ W.cell? ⟨g1, 1, none⟩ = some (.int .u8 (X.rm : Nat)) ∧ W.cell? ⟨g1, 2, none⟩ = some (.int .u8 (X.rs2 : Nat)) ∧ W.cell? ⟨g1, 3, none⟩ = some (.int .u8 (X.form : Nat)) ∧ W.cell? ⟨g1, 4, none⟩ = some (.int .u8 (X.rs3 : Nat))) → Below W.heap.size W W1 → (Below w.heap.size w W1 ∧ W1.heap[w.heap.size]? = some (Obj.cells #[.string P.nm, .int .u8 (P.opc : Nat), .int .u8 (P.rs3 : Nat), .int .u8 (P.rm : Nat), .int .u8 (P.lay : Nat)] 101) ∧ W1.heap[g1]? = some (Obj.cells (fdC X) 98) ∧ W1.cell? ⟨w.heap.size, 0, none⟩ = some (.string P.nm) ∧ W1.cell? ⟨w.heap.size, 1, none⟩ = some (.int .u8 (P.opc : Nat)) ∧ W1.cell? ⟨w.heap.size, 2, none⟩ = some (.int .u8 (P.rs3 : Nat)) ∧ W1.cell? ⟨w.heap.size, 3, none⟩ = some (.int .u8 (P.rm : Nat)) ∧ W1.cell? ⟨w.heap.size, 4, none⟩ = some (.int .u8 (P.lay : Nat)) ∧ W1.cell? ⟨g1, 0, none⟩ = some (.int .u8 (X.opc : Nat)) ∧ W1.cell? ⟨g1, 1, none⟩ = some (.int .u8 (X.rm : Nat)) ∧ W1.cell? ⟨g1, 2, none⟩ = some (.int .u8 (X.rs2 : Nat)) ∧ W1.cell? ⟨g1, 3, none⟩ = some (.int .u8 (X.form : Nat)) ∧ W1.cell? ⟨g1, 4, none⟩ = some (.int .u8 (X.rs3 : Nat)))) := box (fun W W1 h b => ⟨btr h.1 b, heap_of b _ _ _ h.2.1, heap_of b _ _ _ h.2.2.1, cell7 (heap_of b _ _ _ h.2.1) 0 _ rfl, cell7 (heap_of b _ _ _ h.2.1) 1 _ rfl, cell7 (heap_of b _ _ _ h.2.1) 2 _ rfl, cell7 (heap_of b _ _ _ h.2.1) 3 _ rfl, cell7 (heap_of b _ _ _ h.2.1) 4 _ rfl, cell7 (heap_of b _ _ _ h.2.2.1) 0 _ rfl, cell7 (heap_of b _ _ _ h.2.2.1) 1 _ rfl, cell7 (heap_of b _ _ _ h.2.2.1) 2 _ rfl, cell7 (heap_of b _ _ _ h.2.2.1) 3 _ rfl, cell7 (heap_of b _ _ _ h.2.2.1) 4 _ rfl⟩)
  have sT : Box (∀ (W : World) (xA : Array Value), (Below w.heap.size w W ∧ W.heap[w.heap.size]? = some (Obj.cells #[.string P.nm, .int .u8 (P.opc : Nat), .int .u8 (P.rs3 : Nat), .int .u8 (P.rm : Nat), .int .u8 (P.lay : Nat)] 101) ∧ W.heap[g1]? = some (Obj.cells (fdC X) 98) ∧ W.cell? ⟨w.heap.size, 0, none⟩ = some (.string P.nm) ∧ W.cell? ⟨w.heap.size, 1, none⟩ = some (.int .u8 (P.opc : Nat)) ∧ W.cell? ⟨w.heap.size, 2, none⟩ = some (.int .u8 (P.rs3 : Nat)) ∧ W.cell? ⟨w.heap.size, 3, none⟩ = some (.int .u8 (P.rm : Nat)) ∧ W.cell? ⟨w.heap.size, 4, none⟩ = some (.int .u8 (P.lay : Nat)) ∧ W.cell? ⟨g1, 0, none⟩ = some (.int .u8 (X.opc : Nat)) ∧ W.cell? ⟨g1, 1, none⟩ = some (.int .u8 (X.rm : Nat)) ∧ W.cell? ⟨g1, 2, none⟩ = some (.int .u8 (X.rs2 : Nat)) ∧ W.cell? ⟨g1, 3, none⟩ = some (.int .u8 (X.form : Nat)) ∧ W.cell? ⟨g1, 4, none⟩ = some (.int .u8 (X.rs3 : Nat))) → (Below w.heap.size w (W.setRow (w.heap.size + 1) xA) ∧ (W.setRow (w.heap.size + 1) xA).heap[w.heap.size]? = some (Obj.cells #[.string P.nm, .int .u8 (P.opc : Nat), .int .u8 (P.rs3 : Nat), .int .u8 (P.rm : Nat), .int .u8 (P.lay : Nat)] 101) ∧ (W.setRow (w.heap.size + 1) xA).heap[g1]? = some (Obj.cells (fdC X) 98) ∧ (W.setRow (w.heap.size + 1) xA).cell? ⟨w.heap.size, 0, none⟩ = some (.string P.nm) ∧ (W.setRow (w.heap.size + 1) xA).cell? ⟨w.heap.size, 1, none⟩ = some (.int .u8 (P.opc : Nat)) ∧ (W.setRow (w.heap.size + 1) xA).cell? ⟨w.heap.size, 2, none⟩ = some (.int .u8 (P.rs3 : Nat)) ∧ (W.setRow (w.heap.size + 1) xA).cell? ⟨w.heap.size, 3, none⟩ = some (.int .u8 (P.rm : Nat)) ∧ (W.setRow (w.heap.size + 1) xA).cell? ⟨w.heap.size, 4, none⟩ = some (.int .u8 (P.lay : Nat)) ∧ (W.setRow (w.heap.size + 1) xA).cell? ⟨g1, 0, none⟩ = some (.int .u8 (X.opc : Nat)) ∧ (W.setRow (w.heap.size + 1) xA).cell? ⟨g1, 1, none⟩ = some (.int .u8 (X.rm : Nat)) ∧ (W.setRow (w.heap.size + 1) xA).cell? ⟨g1, 2, none⟩ = some (.int .u8 (X.rs2 : Nat)) ∧ (W.setRow (w.heap.size + 1) xA).cell? ⟨g1, 3, none⟩ = some (.int .u8 (X.form : Nat)) ∧ (W.setRow (w.heap.size + 1) xA).cell? ⟨g1, 4, none⟩ = some (.int .u8 (X.rs3 : Nat)))) := box (fun W xA h => ⟨t24_set h.1 (show w.heap.size ≤ w.heap.size + 1 by first | exact Nat.le_refl _ | omega | (have := H1.out; omega)), (setRow_other (by first | omega | (have := H1.out; omega))).trans h.2.1, (setRow_other (by first | omega | (have := H1.out; omega))).trans h.2.2.1, cell7 ((setRow_other (by first | omega | (have := H1.out; omega))).trans h.2.1) 0 _ rfl, cell7 ((setRow_other (by first | omega | (have := H1.out; omega))).trans h.2.1) 1 _ rfl, cell7 ((setRow_other (by first | omega | (have := H1.out; omega))).trans h.2.1) 2 _ rfl, cell7 ((setRow_other (by first | omega | (have := H1.out; omega))).trans h.2.1) 3 _ rfl, cell7 ((setRow_other (by first | omega | (have := H1.out; omega))).trans h.2.1) 4 _ rfl, cell7 ((setRow_other (by first | omega | (have := H1.out; omega))).trans h.2.2.1) 0 _ rfl, cell7 ((setRow_other (by first | omega | (have := H1.out; omega))).trans h.2.2.1) 1 _ rfl, cell7 ((setRow_other (by first | omega | (have := H1.out; omega))).trans h.2.2.1) 2 _ rfl, cell7 ((setRow_other (by first | omega | (have := H1.out; omega))).trans h.2.2.1) 3 _ rfl, cell7 ((setRow_other (by first | omega | (have := H1.out; omega))).trans h.2.2.1) 4 _ rfl⟩)
  have s0 : Below w.heap.size w (w1).drew ∧ (w1).drew.heap[w.heap.size]? = some (Obj.cells #[.string P.nm, .int .u8 (P.opc : Nat), .int .u8 (P.rs3 : Nat), .int .u8 (P.rm : Nat), .int .u8 (P.lay : Nat)] 101) ∧ (w1).drew.heap[g1]? = some (Obj.cells (fdC X) 98) ∧ (w1).drew.cell? ⟨w.heap.size, 0, none⟩ = some (.string P.nm) ∧ (w1).drew.cell? ⟨w.heap.size, 1, none⟩ = some (.int .u8 (P.opc : Nat)) ∧ (w1).drew.cell? ⟨w.heap.size, 2, none⟩ = some (.int .u8 (P.rs3 : Nat)) ∧ (w1).drew.cell? ⟨w.heap.size, 3, none⟩ = some (.int .u8 (P.rm : Nat)) ∧ (w1).drew.cell? ⟨w.heap.size, 4, none⟩ = some (.int .u8 (P.lay : Nat)) ∧ (w1).drew.cell? ⟨g1, 0, none⟩ = some (.int .u8 (X.opc : Nat)) ∧ (w1).drew.cell? ⟨g1, 1, none⟩ = some (.int .u8 (X.rm : Nat)) ∧ (w1).drew.cell? ⟨g1, 2, none⟩ = some (.int .u8 (X.rs2 : Nat)) ∧ (w1).drew.cell? ⟨g1, 3, none⟩ = some (.int .u8 (X.form : Nat)) ∧ (w1).drew.cell? ⟨g1, 4, none⟩ = some (.int .u8 (X.rs3 : Nat)) := ⟨B1.drew, Rp_1, Ra_1, cell7 (Rp_1) 0 _ rfl, cell7 (Rp_1) 1 _ rfl, cell7 (Rp_1) 2 _ rfl, cell7 (Rp_1) 3 _ rfl, cell7 (Rp_1) 4 _ rfl, cell7 (Ra_1) 0 _ rfl, cell7 (Ra_1) 1 _ rfl, cell7 (Ra_1) 2 _ rfl, cell7 (Ra_1) 3 _ rfl, cell7 (Ra_1) 4 _ rfl⟩
  have rz : (w1).drew.heap[w.heap.size + 1]? = some (Obj.cells #[.int .u8 0, .int .u8 0, .int .u8 0, .int .u8 0, .int .u32 0, .int .u32 0, .int .u8 0] 45) := Rz_1
  have hst := rwC_storeG (r := R) rz rfl
  go_wp2_with fail
  go_region_held3 (fun W => Below w.heap.size w W ∧ W.heap[w.heap.size]? = some (Obj.cells #[.string P.nm, .int .u8 (P.opc : Nat), .int .u8 (P.rs3 : Nat), .int .u8 (P.rm : Nat), .int .u8 (P.lay : Nat)] 101) ∧ W.heap[g1]? = some (Obj.cells (fdC X) 98) ∧ W.cell? ⟨w.heap.size, 0, none⟩ = some (.string P.nm) ∧ W.cell? ⟨w.heap.size, 1, none⟩ = some (.int .u8 (P.opc : Nat)) ∧ W.cell? ⟨w.heap.size, 2, none⟩ = some (.int .u8 (P.rs3 : Nat)) ∧ W.cell? ⟨w.heap.size, 3, none⟩ = some (.int .u8 (P.rm : Nat)) ∧ W.cell? ⟨w.heap.size, 4, none⟩ = some (.int .u8 (P.lay : Nat)) ∧ W.cell? ⟨g1, 0, none⟩ = some (.int .u8 (X.opc : Nat)) ∧ W.cell? ⟨g1, 1, none⟩ = some (.int .u8 (X.rm : Nat)) ∧ W.cell? ⟨g1, 2, none⟩ = some (.int .u8 (X.rs2 : Nat)) ∧ W.cell? ⟨g1, 3, none⟩ = some (.int .u8 (X.form : Nat)) ∧ W.cell? ⟨g1, 4, none⟩ = some (.int .u8 (X.rs3 : Nat))) (first | exact s1 | exact s0 | exact sT.out _ _ s1 | exact sT.out _ _ s0)
    (first | (go_at_call 77; (first | refine (K2.out _).mono ?_ | refine (K2.out _).mono ?_); rintro r wq ⟨rfl, bq⟩; have s1 := (by first | exact sS.out _ _ s1 bq | exact sS.out _ _ s0 bq); have rz := heap_of bq _ _ _ rz; have hst := rwC_storeG (r := R) rz rfl; clear bq) | fail)
  have BZ := (by first | exact And.left s1 | exact And.left s0 : Below w.heap.size w _)
  have dz := setRow_row (c' := rwC R) rz
  have bz := t24_set (c := rwC R) BZ (show w.heap.size ≤ w.heap.size + 1 by first | exact Nat.le_refl _ | omega | (have := H1.out; omega))
  go_wp2
  exact bodyPost_ret (v := .agg (rwC R)) (res_rwC Tryd.results51 rfl dz) rfl ⟨rfl, bz⟩
set_option maxRecDepth 100000 in
set_option maxHeartbeats 8000000 in
theorem t_leads_n (P : PlS) (x : Nat) (D : FdS) (hne : (((D.opc : Nat) : Int) != (P.opc : Nat)) = true) (K : Box (∀ w, Calls Tryd.prog 40 #[.int .u32 (x : Nat)] w fun r w' => r = .returned (.agg #[.int .u8 (D.opc : Nat), .int .u8 (D.rm : Nat), .int .u8 (D.rs2 : Nat), .int .u8 (D.form : Nat), .int .u8 (D.rs3 : Nat)]) ∧ Below w.heap.size w w')) (w : World) : Calls Tryd.prog 41 #[.agg #[.string P.nm, .int .u8 (P.opc : Nat), .int .u8 (P.rs3 : Nat), .int .u8 (P.rm : Nat), .int .u8 (P.lay : Nat)], .int .u32 (x : Nat)] w fun r w' => r = .returned (.bool false) ∧ Below w.heap.size w w' := by
  obtain ⟨Rp_0, B0⟩ := opn1 w (Obj.cells #[.string P.nm, .int .u8 (P.opc : Nat), .int .u8 (P.rs3 : Nat), .int .u8 (P.rm : Nat), .int .u8 (P.lay : Nat)] 101)
  go_enter Tryd.func41, Tryd.ntmps41
  have cp_0_0 := cells4 Rp_0 0 _ rfl
  have cp_0_1 := cells4 Rp_0 1 _ rfl
  have cp_0_2 := cells4 Rp_0 2 _ rfl
  have cp_0_3 := cells4 Rp_0 3 _ rfl
  have cp_0_4 := cells4 Rp_0 4 _ rfl
  have hfl : ∀ V : World, (Instr.field 98 (.agg #[.int .u8 (D.opc : Nat), .int .u8 (D.rm : Nat), .int .u8 (D.rs2 : Nat), .int .u8 (D.form : Nat), .int .u8 (D.rs3 : Nat)]) 0).run Tryd.prog V = .ok (.int .u8 (D.opc : Nat)) V := fun _ => by kernel_rfl
  go_wp2_with fail
  obtain ⟨F, hF1, hF2⟩ := below_fun (w.alloc (Obj.cells #[.string P.nm, .int .u8 (P.opc : Nat), .int .u8 (P.rs3 : Nat), .int .u8 (P.rm : Nat), .int .u8 (P.lay : Nat)] 101))
  have fp_0 := fun u => cells4 (heap_of (hF1 u) _ _ _ Rp_0) 0 _ rfl
  have fp_1 := fun u => cells4 (heap_of (hF1 u) _ _ _ Rp_0) 1 _ rfl
  have fp_2 := fun u => cells4 (heap_of (hF1 u) _ _ _ Rp_0) 2 _ rfl
  have fp_3 := fun u => cells4 (heap_of (hF1 u) _ _ _ Rp_0) 3 _ rfl
  have fp_4 := fun u => cells4 (heap_of (hF1 u) _ _ _ Rp_0) 4 _ rfl
  refine wp_region_below F hF2 (by kernel_rfl) (by kernel_rfl) ?_
  repeat first | go_big_quiet_step (first | (go_at_call 40; exact quietF hF1 hF2 (K.out _)) | fail) | quiet_step (first | (go_at_call 40; exact quietF hF1 hF2 (K.out _)) | fail)
  refine wpQuiet_nil ?_
  rintro _ ⟨uW, rfl⟩
  have B1 := btr B0 (hF1 uW)
  have Rp_1 := heap_of (hF1 uW) _ _ _ Rp_0
  obtain ⟨w1, hw⟩ : ∃ V, F uW = V := ⟨_, rfl⟩
  rw [hw] at B1 Rp_1
  try rw [hw]
  clear hw hF1 hF2 B0 fp_0 fp_1 fp_2 fp_3 fp_4 Rp_0 cp_0_0 cp_0_1 cp_0_2 cp_0_3 cp_0_4
  clear F
  have cp_1_0 := cells4 Rp_1 0 _ rfl
  have cp_1_1 := cells4 Rp_1 1 _ rfl
  have cp_1_2 := cells4 Rp_1 2 _ rfl
  have cp_1_3 := cells4 Rp_1 3 _ rfl
  have cp_1_4 := cells4 Rp_1 4 _ rfl
  go_wp2
  go_ret
  exact ⟨rfl, B1⟩
set_option maxRecDepth 100000 in
set_option maxHeartbeats 8000000 in
theorem t_leads_y (P : PlS) (x y M : Nat) (D G : FdS) (b1 b2 b3 : Bool) (hM : fxN P.lay = M) (hl : P.lay < 10) (hne : (((D.opc : Nat) : Int) != (P.opc : Nat)) = false) (hand : bits .and .u32 (x : Int) (M : Int) = (y : Nat)) (h1 : (((G.rs3 : Nat) : Int) == (P.rs3 : Nat)) = b1) (h2 : (((G.rm : Nat) : Int) == (P.rm : Nat)) = b2)
    (K : Box (∀ w, Calls Tryd.prog 40 #[.int .u32 (x : Nat)] w fun r w' => r = .returned (.agg #[.int .u8 (D.opc : Nat), .int .u8 (D.rm : Nat), .int .u8 (D.rs2 : Nat), .int .u8 (D.form : Nat), .int .u8 (D.rs3 : Nat)]) ∧ Below w.heap.size w w')) (K2 : Box (∀ w, Calls Tryd.prog 40 #[.int .u32 (y : Nat)] w fun r w' => r = .returned (.agg #[.int .u8 (G.opc : Nat), .int .u8 (G.rm : Nat), .int .u8 (G.rs2 : Nat), .int .u8 (G.form : Nat), .int .u8 (G.rs3 : Nat)]) ∧ Below w.heap.size w w')) (K3 : Box (∀ w, Calls Tryd.prog 75 #[.agg #[.string P.nm, .int .u8 (P.opc : Nat), .int .u8 (P.rs3 : Nat), .int .u8 (P.rm : Nat), .int .u8 (P.lay : Nat)]] w fun r w' => r = .returned (.bool b3) ∧ Below w.heap.size w w')) (w : World) (hT : T24 w) : Calls Tryd.prog 41 #[.agg #[.string P.nm, .int .u8 (P.opc : Nat), .int .u8 (P.rs3 : Nat), .int .u8 (P.rm : Nat), .int .u8 (P.lay : Nat)], .int .u32 (x : Nat)] w fun r w' => r = .returned (.bool (b1 && (b2 || b3))) ∧ Below w.heap.size w w' := by
  have FF := box hT
  have d1 : decide (((P.lay : Nat) : Int) < 10) = true := decide_eq_true (by omega)
  have d2 : decide ((10 : Int) ≤ ((P.lay : Nat) : Int)) = false := decide_eq_false (by omega)
  have HL := box hl
  have HM := box hM
  clear hT hM
  obtain ⟨Rp_0, B0⟩ := opn1 w (Obj.cells #[.string P.nm, .int .u8 (P.opc : Nat), .int .u8 (P.rs3 : Nat), .int .u8 (P.rm : Nat), .int .u8 (P.lay : Nat)] 101)
  go_enter Tryd.func41, Tryd.ntmps41
  have cp_0_0 := cells4 Rp_0 0 _ rfl
  have cp_0_1 := cells4 Rp_0 1 _ rfl
  have cp_0_2 := cells4 Rp_0 2 _ rfl
  have cp_0_3 := cells4 Rp_0 3 _ rfl
  have cp_0_4 := cells4 Rp_0 4 _ rfl
  have hfl : ∀ V : World, (Instr.field 98 (.agg #[.int .u8 (D.opc : Nat), .int .u8 (D.rm : Nat), .int .u8 (D.rs2 : Nat), .int .u8 (D.form : Nat), .int .u8 (D.rs3 : Nat)]) 0).run Tryd.prog V = .ok (.int .u8 (D.opc : Nat)) V := fun _ => by kernel_rfl
  go_wp2_with fail
  obtain ⟨F, hF1, hF2⟩ := below_fun (w.alloc (Obj.cells #[.string P.nm, .int .u8 (P.opc : Nat), .int .u8 (P.rs3 : Nat), .int .u8 (P.rm : Nat), .int .u8 (P.lay : Nat)] 101))
  have fp_0 := fun u => cells4 (heap_of (hF1 u) _ _ _ Rp_0) 0 _ rfl
  have fp_1 := fun u => cells4 (heap_of (hF1 u) _ _ _ Rp_0) 1 _ rfl
  have fp_2 := fun u => cells4 (heap_of (hF1 u) _ _ _ Rp_0) 2 _ rfl
  have fp_3 := fun u => cells4 (heap_of (hF1 u) _ _ _ Rp_0) 3 _ rfl
  have fp_4 := fun u => cells4 (heap_of (hF1 u) _ _ _ Rp_0) 4 _ rfl
  refine wp_region_below F hF2 (by kernel_rfl) (by kernel_rfl) ?_
  repeat first | go_big_quiet_step (first | (go_at_call 40; exact quietF hF1 hF2 (K.out _)) | fail) | quiet_step (first | (go_at_call 40; exact quietF hF1 hF2 (K.out _)) | fail)
  refine wpQuiet_nil ?_
  rintro _ ⟨uW, rfl⟩
  have B1 := btr B0 (hF1 uW)
  have Rp_1 := heap_of (hF1 uW) _ _ _ Rp_0
  obtain ⟨w1, hw⟩ : ∃ V, F uW = V := ⟨_, rfl⟩
  rw [hw] at B1 Rp_1
  try rw [hw]
  clear hw hF1 hF2 B0 fp_0 fp_1 fp_2 fp_3 fp_4 Rp_0 cp_0_0 cp_0_1 cp_0_2 cp_0_3 cp_0_4
  clear F
  have cp_1_0 := cells4 Rp_1 0 _ rfl
  have cp_1_1 := cells4 Rp_1 1 _ rfl
  have cp_1_2 := cells4 Rp_1 2 _ rfl
  have cp_1_3 := cells4 Rp_1 3 _ rfl
  have cp_1_4 := cells4 Rp_1 4 _ rfl
  have cx := (t24B FF.out B1).fx P.lay HL.out
  rw [HM.out] at cx
  go_wp2_with fail
  refine (K2.out _).mono ?_
  rintro r w2 ⟨rfl, b2⟩
  have B2 : Below w.heap.size w w2 := btr B1 b2
  have Rp_2 := heap_of b2 _ _ _ Rp_1
  clear b2 B1 Rp_1 cp_1_0 cp_1_1 cp_1_2 cp_1_3 cp_1_4
  have cp_2_0 := cells4 Rp_2 0 _ rfl
  have cp_2_1 := cells4 Rp_2 1 _ rfl
  have cp_2_2 := cells4 Rp_2 2 _ rfl
  have cp_2_3 := cells4 Rp_2 3 _ rfl
  have cp_2_4 := cells4 Rp_2 4 _ rfl
  have S3 := box B2.size
  have Lp_3 : Box (w.heap.size < w2.heap.size) := box (Array.getElem?_eq_some_iff.1 Rp_2).1
  have Ra_3 := heap_alloc_last w2 (Obj.cells #[.int .u8 (G.opc : Nat), .int .u8 (G.rm : Nat), .int .u8 (G.rs2 : Nat), .int .u8 (G.form : Nat), .int .u8 (G.rs3 : Nat)] 98)
  have B3 := btr B2 (bal w2 (Obj.cells #[.int .u8 (G.opc : Nat), .int .u8 (G.rm : Nat), .int .u8 (G.rs2 : Nat), .int .u8 (G.form : Nat), .int .u8 (G.rs3 : Nat)] 98))
  have Rp_3 := heap_of (bal w2 (Obj.cells #[.int .u8 (G.opc : Nat), .int .u8 (G.rm : Nat), .int .u8 (G.rs2 : Nat), .int .u8 (G.form : Nat), .int .u8 (G.rs3 : Nat)] 98)) _ _ _ Rp_2
  clear B2 Rp_2 cp_2_0 cp_2_1 cp_2_2 cp_2_3 cp_2_4
  have cp_3_0 := cells4 Rp_3 0 _ rfl
  have cp_3_1 := cells4 Rp_3 1 _ rfl
  have cp_3_2 := cells4 Rp_3 2 _ rfl
  have cp_3_3 := cells4 Rp_3 3 _ rfl
  have cp_3_4 := cells4 Rp_3 4 _ rfl
  have ca_3_0 := cells4 Ra_3 0 _ rfl
  have ca_3_1 := cells4 Ra_3 1 _ rfl
  have ca_3_2 := cells4 Ra_3 2 _ rfl
  have ca_3_3 := cells4 Ra_3 3 _ rfl
  have ca_3_4 := cells4 Ra_3 4 _ rfl
  cases b1
  · go_wp2
    go_ret
    exact ⟨rfl, B3⟩
  · cases b2
    · skip
      go_wp2_with fail
      refine (K3.out _).mono ?_
      rintro r w4 ⟨rfl, b4⟩
      have B4 : Below w.heap.size w w4 := btr B3 b4
      have Rp_4 := heap_of b4 _ _ _ Rp_3
      have Ra_4 := heap_of b4 _ _ _ Ra_3
      clear b4 B3 Rp_3 cp_3_0 cp_3_1 cp_3_2 cp_3_3 cp_3_4 Ra_3 ca_3_0 ca_3_1 ca_3_2 ca_3_3 ca_3_4
      have cp_4_0 := cells4 Rp_4 0 _ rfl
      have cp_4_1 := cells4 Rp_4 1 _ rfl
      have cp_4_2 := cells4 Rp_4 2 _ rfl
      have cp_4_3 := cells4 Rp_4 3 _ rfl
      have cp_4_4 := cells4 Rp_4 4 _ rfl
      have ca_4_0 := cells4 Ra_4 0 _ rfl
      have ca_4_1 := cells4 Ra_4 1 _ rfl
      have ca_4_2 := cells4 Ra_4 2 _ rfl
      have ca_4_3 := cells4 Ra_4 3 _ rfl
      have ca_4_4 := cells4 Ra_4 4 _ rfl
      go_wp2
      go_ret
      exact ⟨rfl, B4⟩
    · skip
      go_wp2
      go_ret
      exact ⟨rfl, B3⟩
end Go.Proofs.YtaoccmopfflkmaaDoor
namespace Go.Proofs.YtaoccmopfflkmaaDoor
set_option maxRecDepth 100000
set_option maxHeartbeats 40000000
set_option maxRecDepth 100000
open Go.RowKit WMath
set_option linter.unusedVariables false
structure TopM (B M : Nat) (W W' : World) : Prop where
  size : W.heap.size ≤ W'.heap.size
  same : ∀ k, B ≤ k → k < M → W'.heap[k]? = W.heap[k]?
theorem TopM.refl (B M : Nat) (W : World) : TopM B M W W := ⟨Nat.le_refl _, fun _ _ _ => rfl⟩
theorem TopM.trans {B M : Nat} {X Y Z : World} (h : TopM B M X Y) (k : TopM B M Y Z) : TopM B M X Z :=
  ⟨Nat.le_trans h.size k.size, fun i a b => (k.same i a b).trans (h.same i a b)⟩
theorem TopM.mono {B C M : Nat} {X Y : World} (h : TopM B M X Y) (c : B ≤ C) : TopM C M X Y := ⟨h.size, fun i a b => h.same i (Nat.le_trans c a) b⟩
theorem TopM.putObj {B M : Nat} (W : World) (l : Nat) (o : Obj) (h : l < B) : TopM B M W (W.putObj l o) :=
  ⟨(grownBy_putObj' W l o).size, fun k a b => World.putObj_heap_other (by omega)⟩
theorem TopM.below {B M : Nat} {W W' : World} (h : Below W.heap.size W W') (hM : M ≤ W.heap.size) : TopM B M W W' := ⟨h.size, fun k a b => h.block k (Nat.lt_of_lt_of_le b hM)⟩
theorem TopM.row {B M : Nat} {W W' : World} (h : TopM B M W W') {k : Nat} {o : Obj} (a : B ≤ k) (b : k < M) (hk : W.heap[k]? = some o) : W'.heap[k]? = some o := (h.same k a b).trans hk

def SeqTopM {α : Type} (n : Nat) (P : Program) (g : Nat) (lb : Array Value) (encs : α → Array Value) (A : World → Prop) (S Sp : List α → Prop) (N : Nat) : Prop :=
  ∀ (l : Nat) (J Jx : Nat → List α → World → Prop) (W : World), (∀ M pre V, J M pre V → A V) → (∀ M, OwnFrom W.heap.size (J M)) → (∀ M, OwnFrom W.heap.size (Jx M)) →
    (∀ M pre x V, W.heap.size ≤ M → M ≤ V.heap.size → J M pre V → pre.length < N → Sp (pre ++ [x]) → YieldAt Fence.wide (n - 1) P l (encs x) V fun e V' => TopM W.heap.size M V V' ∧
      ((e = .returned (.bool true) ∧ J M (pre ++ [x]) V') ∨ (e = .returned (.bool false) ∧ Jx M (pre ++ [x]) V'))) →
    (∀ M, W.heap.size ≤ M → J M [] W) →
    CallsIn Fence.wide n P g (#[.func (.yield l) #[] #[]] ++ lb) W fun e V => (∃ v, e = .returned v) ∧ ∃ M, W.heap.size ≤ M ∧ ((∃ xs, S xs ∧ J M xs V) ∨ (∃ pre, Sp pre ∧ Jx M pre V))
def topPostM {α : Type} (B M : Nat) (I : List α → World → Prop) (Ix : Code → List α → World → Prop) (xs : List α) (W : World) : Exit → Act → World → Prop
  | .normal, _, W' => TopM B M W W' ∧ I xs W'
  | .ret, _, W' => TopM B M W W' ∧ Ix .ret xs W'
  | .exit id, _, W' => TopM B M W W' ∧ Ix (.exit id) xs W'
  | .goto t, _, W' => TopM B M W W' ∧ Ix (.goto t) xs W'
  | .panic _, _, _ => False
  | .outgrown, _, _ => False

set_option maxHeartbeats 4000000 in
theorem wp_range_topM {P : Program} {n : Nat} {α : Type} {g : Operand} {ps : Array Tmp} {assign body : Code} {Q : Exit → Act → World → Prop} {a : Act} {w : World} (h1 : 1 ≤ n)
    {gf : Nat} {lb : Array Value} (hg : a.eval g = .func (.func gf) #[] lb) (eg : ∀ args w, (callFunc gf args).run P w = .ok (.enter gf args) w)
    {encs : α → Array Value} {A : World → Prop} {S Sp : List α → Prop} {N : Nat} (hseq : SeqTopM (n - 1) P gf lb encs A S Sp N) (hps : ∀ x, (encs x).size = ps.size)
    (I : Nat → List α → World → Prop) (Ix : Nat → Code → List α → World → Prop) (hI : ∀ M, OwnFrom w.heap.size (I M)) (hIx : ∀ M c, OwnFrom w.heap.size (Ix M c)) (hA : ∀ M pre V, I M pre V → A V) (h0 : ∀ M, w.heap.size ≤ M → I M [] w) (a₁ : α → Nat → Act) (o : α → Obj)
    (hassign : ∀ (l : Nat) (x : α) (W : World) (K : Act → World → Prop), (∀ V : World, W.grownBy V none → V.heap.size = W.heap.size + 1 → V.heap[W.heap.size]? = some (o x) → K (a₁ x W.heap.size) V) → assign.wpIn (Fence.wide.inRound l) (n - 1 - 1) P (Exit.then K (fun _ _ _ => False)) { tmps := (ps.zip (encs x)).foldl (fun t (p, v) => t.setIfInBounds p v) a.tmps, defers := [] } W)
    (hbody : ∀ (M l : Nat) (pre : List α) (x : α) (m : Nat) (W : World), w.heap.size ≤ M → M ≤ m → I M pre W → pre.length < N → Sp (pre ++ [x]) → w.heap.size ≤ m → m + 1 = W.heap.size → W.heap[m]? = some (o x) → body.wpIn (Fence.wide.inRound l) (n - 1 - 1) P (topPostM w.heap.size M (I M) (Ix M) (pre ++ [x]) W) (a₁ x m) W)
    (hdone : ∀ (M D : Nat) (xs : List α) (W : World), w.heap.size ≤ M → w.heap.size ≤ D → S xs → I M xs W → W.heap[D]? = some (.deferred (some [])) → Q .normal { a with defers := { target := .collected D, args := #[] } :: a.defers } W)
    (hstop : ∀ (M D : Nat) (c : Code) (pre : List α) (W : World), w.heap.size ≤ M → w.heap.size ≤ D → Sp pre → Ix M c pre W → W.heap[D]? = some (.deferred (some [])) → c.wpIn Fence.wide n P Q { a with defers := { target := .collected D, args := #[] } :: a.defers } W) :
    (Code.rangeFunc g ps assign body).wpIn Fence.wide n P Q a w := by
  refine wpIn_rangeFunc (fun fn _ => ?_)
  have key : ∀ (L : LoopState → Option Code → Loop), (∀ st pe, L st pe = { state := st, pending := pe, fn, tmps := a.tmps, params := ps, assign, body, defers := w.heap.size }) → ∀ V0 : World, V0 = (w.alloc (.deferred (some []))).alloc (.loop (L .ready none)) →
      CallsIn Fence.wide (n - 1) P gf (#[.func (.yield (w.heap.size + 1)) #[] #[]] ++ lb) V0 (rangePost Fence.wide n P (w.heap.size + 1) Q { a with defers := [{ target := .collected w.heap.size, args := #[] }] ++ a.defers }) := by
    intro L hL V0 hV0
    have sz : V0.heap.size = w.heap.size + 2 := by rw [hV0]; simp only [size_al]
    have b0 : Below w.heap.size w V0 := by rw [hV0]; exact ((Below.refl _ w).alloc (Nat.le_refl _) _).alloc (by simp only [size_al]; omega) _
    have rD : V0.heap[w.heap.size]? = some (.deferred (some [])) := by
      rw [hV0]; exact (Below.heap_alloc _ _ _ (by simp only [size_al]; omega)).trans (World.alloc_heap_new w _)
    have rL : V0.heap[w.heap.size + 1]? = some (.loop (L .ready none)) := by
      have := World.alloc_heap_new (w.alloc (.deferred (some []))) (.loop (L .ready none))
      rw [size_al] at this
      rw [hV0]; exact this
    have i0 : ∀ M, w.heap.size ≤ M → I M [] V0 := fun M hM => by rw [hV0]; exact (hI M).alloc _ ((hI M).alloc _ (h0 M hM))
    -- the caller's word between two rounds, and behind one that has left
    have own : ∀ (o o' : Obj) (A : List α → World → Prop), OwnFrom w.heap.size A → OwnFrom V0.heap.size (fun xs W => A xs W ∧ W.heap[w.heap.size + 1]? = some o ∧ W.heap[w.heap.size]? = some o') := by
      intro o o' A hA s X Y row hs hgr hr
      refine ⟨hA s X Y row hs.1 hgr (fun r e => ⟨by have := (hr r e).1; omega, (hr r e).2⟩), ?_, ?_⟩
      · exact (hgr.block _ (Array.getElem?_eq_some_iff.1 hs.2.1).1 (fun e => by have := (hr _ e.symm).1; omega)).trans hs.2.1
      · exact (hgr.block _ (Array.getElem?_eq_some_iff.1 hs.2.2).1 (fun e => by have := (hr _ e.symm).1; omega)).trans hs.2.2
    have ownJ := fun M => own (.loop (L .ready none)) (.deferred (some [])) (I M) (hI M)
    have ownX : ∀ M, OwnFrom V0.heap.size (fun (xs : List α) W => ∃ c, Ix M c xs W ∧ W.heap[w.heap.size + 1]? = some (.loop (L .done (some c))) ∧ W.heap[w.heap.size]? = some (.deferred (some []))) := by
      rintro M s X Y row ⟨c, hs⟩ hgr hr
      exact ⟨c, own (.loop (L .done (some c))) (.deferred (some [])) (Ix M c) (hIx M c) s X Y row hs hgr hr⟩
    refine (hseq (w.heap.size + 1) (fun M xs W => I M xs W ∧ W.heap[w.heap.size + 1]? = some (.loop (L .ready none)) ∧ W.heap[w.heap.size]? = some (.deferred (some []))) (fun M (xs : List α) W => ∃ c, Ix M c xs W ∧ W.heap[w.heap.size + 1]? = some (.loop (L .done (some c))) ∧ W.heap[w.heap.size]? = some (.deferred (some []))) V0 (fun M pre V hv => hA M pre V hv.1) ownJ ownX ?_ (fun M hM => ⟨i0 M (by omega), rL, rD⟩)).mono ?_
    · rintro M pre x V hM0 hM1 ⟨hi, hl, hd⟩ hlen hSp
      have hl : V.heap[w.heap.size + 1]? = some (.loop (L .ready none)) := hl
      have hd : V.heap[w.heap.size]? = some (.deferred (some [])) := hd
      have hlt := (Array.getElem?_eq_some_iff.1 hl).1
      have hy := run_yield (P := P) (args := encs x) hl (by rw [hL]; exact hps x)
      rw [hL] at hy
      obtain ⟨busy, hbusy⟩ : ∃ o, Obj.loop { L .ready none with state := .busy } = o := ⟨_, rfl⟩
      refine ⟨fn, _, assign, body, hy, roundIn_of_wpIn trivial (hassign _ x V _ (fun V1 gV sV oV => ?_))⟩
      have hl1 : V1.heap[w.heap.size + 1]? = some (.loop (L .ready none)) := (gV.block _ hlt (by simp)).trans hl
      have hd1 : V1.heap[w.heap.size]? = some (.deferred (some [])) := (gV.block _ (by omega) (by simp)).trans hd
      have hlt1 := (Array.getElem?_eq_some_iff.1 hl1).1
      have beg := run_beginRound (P := P) hl1 (by rw [hL])
      rw [hbusy] at beg
      have hl2 : (V1.putObj (w.heap.size + 1) busy).heap[w.heap.size + 1]? = some busy := World.putObj_heap_same hlt1
      have hd2 : (V1.putObj (w.heap.size + 1) busy).heap[w.heap.size]? = some (.deferred (some [])) := (World.putObj_heap_other (by omega)).trans hd1
      have hi1 : I M pre V1 := hI M _ _ _ none hi gV (fun r e => by cases e)
      have hi2 : I M pre (V1.putObj (w.heap.size + 1) busy) := (hI M).putObj _ hi1 (by omega) hl1 rfl
      have hm2 : (V1.putObj (w.heap.size + 1) busy).heap[V.heap.size]? = some (o x) := (World.putObj_heap_other (by omega)).trans oV
      have hs2 : V.heap.size + 1 = (V1.putObj (w.heap.size + 1) busy).heap.size := by
        have a := (grownBy_putObj' V1 (w.heap.size + 1) busy).size
        have b : (V1.putObj (w.heap.size + 1) busy).heap.size = V1.heap.size := by simp [World.putObj]
        omega
      refine ⟨_, beg, wpIn_mono (hbody M _ pre x _ _ (by omega) hM1 hi2 hlen hSp (by omega) hs2 hm2) ?_⟩
      have t0 : TopM (w.heap.size + 2) M V V1 := ⟨gV.size, fun k _ b => gV.block k (by omega) (by simp)⟩
      have t1 : TopM (w.heap.size + 2) M V (V1.putObj (w.heap.size + 1) busy) := t0.trans (TopM.putObj _ _ _ (by omega))
      -- the record at the round's end
      have fin : ∀ (jump : Option Code) (X : World), TopM w.heap.size M (V1.putObj (w.heap.size + 1) busy) X → ∃ X', (Instr.endRound (w.heap.size + 1) jump).run P X = .ok (.bool jump.isNone) X' ∧ X' = X.putObj (w.heap.size + 1) (.loop (L (if jump.isNone then .ready else .done) jump)) ∧
          X.heap[w.heap.size + 1]? = some busy ∧ X'.heap[w.heap.size + 1]? = some (.loop (L (if jump.isNone then .ready else .done) jump)) ∧ X'.heap[w.heap.size]? = some (.deferred (some [])) ∧ TopM (w.heap.size + 2) M V X' := by
        intro jump X tx
        have r1 := tx.row (Nat.le_succ _) (by omega) hl2
        have r2 := tx.row (Nat.le_refl _) (by omega) hd2
        have e := run_endRound (P := P) jump (by rw [hbusy]; exact r1)
        refine ⟨_, e, by rw [hL, hL], r1, ?_, ?_, ?_⟩
        · rw [World.putObj_heap_same (Array.getElem?_eq_some_iff.1 r1).1, hL, hL]
        · exact (World.putObj_heap_other (by omega)).trans r2
        · exact (t1.trans (tx.mono (by omega))).trans (TopM.putObj _ _ _ (by omega))
      have nb : busy.isCells = false := by rw [← hbusy]; rfl
      rintro e a3 X hp
      have left : ∀ c : Code, TopM w.heap.size M (V1.putObj (w.heap.size + 1) busy) X → Ix M c (pre ++ [x]) X → ∃ v X', (Instr.endRound (w.heap.size + 1) (some c)).run P X = .ok v X' ∧ (TopM V0.heap.size M V X' ∧ ((Ending.returned v = .returned (.bool true) ∧ (I M (pre ++ [x]) X' ∧ X'.heap[w.heap.size + 1]? = some (.loop (L .ready none)) ∧ X'.heap[w.heap.size]? = some (.deferred (some [])))) ∨ (Ending.returned v = .returned (.bool false) ∧ ∃ c, Ix M c (pre ++ [x]) X' ∧ X'.heap[w.heap.size + 1]? = some (.loop (L .done (some c))) ∧ X'.heap[w.heap.size]? = some (.deferred (some []))))) := by
        intro c tx hx
        obtain ⟨X', r, e', q1, q2, q3, q4⟩ := fin (some c) X tx
        refine ⟨_, _, r, by rw [sz]; exact q4, .inr ⟨rfl, c, ?_, q2, q3⟩⟩
        rw [e']
        exact (hIx M c).putObj _ hx (by omega) q1 nb
      cases e with
      | normal =>
        obtain ⟨tx, ix⟩ := hp
        obtain ⟨X', r, e', q1, q2, q3, q4⟩ := fin none X tx
        refine ⟨_, _, r, by rw [sz]; exact q4, .inl ⟨rfl, ⟨?_, q2, q3⟩⟩⟩
        rw [e']
        exact (hI M).putObj _ ix (by omega) q1 nb
      | ret => exact left .ret hp.1 hp.2
      | exit id => exact left (.exit id) hp.1 hp.2
      | goto t => exact left (.goto t) hp.1 hp.2
      | panic ch => exact hp.elim
      | outgrown => exact hp.elim
    · rintro e X ⟨⟨v, rfl⟩, M, hM0, (⟨xs, hS, hi, hl, hd⟩ | ⟨pre, hSp, c, hi, hl, hd⟩)⟩
      · have hl : X.heap[w.heap.size + 1]? = some (.loop (L .ready none)) := hl
        refine ⟨none, _, by have := run_endLoop (P := P) hl (by rw [hL]; simp); rw [hL] at this; exact this, ?_⟩
        exact hdone M _ xs _ (by omega) (Nat.le_refl _) hS ((hI M).putObj _ hi (by omega) hl rfl) ((World.putObj_heap_other (by omega)).trans hd)
      · refine ⟨some c, _, by have := run_endLoop (P := P) hl (by rw [hL]; simp); rw [hL] at this; exact this, ?_⟩
        exact hstop M _ c pre _ (by omega) (Nat.le_refl _) hSp ((hIx M c).putObj _ hi (by omega) hl rfl) ((World.putObj_heap_other (by omega)).trans hd)
  obtain ⟨V0, hV0⟩ : ∃ V0, (w.alloc (.deferred (some []))).alloc (.loop { state := .ready, pending := none, fn, tmps := a.tmps, params := ps, assign, body, defers := w.heap.size }) = V0 := ⟨_, rfl⟩
  have last := key (fun st pe => { state := st, pending := pe, fn, tmps := a.tmps, params := ps, assign, body, defers := w.heap.size }) (fun _ _ => rfl) V0 hV0.symm
  clear key
  obtain ⟨tg, htg⟩ : ∃ tg : Deferred, tg = { target := .fn (.func gf) lb, args := #[.func (.yield (w.heap.size + 1)) #[] #[]] } := ⟨_, rfl⟩
  have e1 : (Instr.enterLoop fn a.tmps ps assign body none).run P w = .ok (w.heap.size + 1, [{ target := .collected w.heap.size, args := #[] }]) V0 := by
    rw [← hV0]
    exact run_enterLoop_outer _ _ _ _ _
  have e2 : (resolve a.eval (rangeCall g (w.heap.size + 1)) 0).run P V0 = .ok tg V0 := by
    rw [htg]
    simp only [resolve, hg]
    simp [go_sem]
  have e3 : (invoke tg.target tg.args).run P V0 = .ok (.enter gf (#[.func (.yield (w.heap.size + 1)) #[] #[]] ++ lb)) V0 := by
    rw [htg]
    simp [invoke, go_sem, eg]
  exact ⟨_, _, _, _, _, _, _, _, e1, e2, fun _ _ => trivial, e3, fun _ => h1, last⟩
end Go.Proofs.YtaoccmopfflkmaaDoor
