/-
  What the functions that the statement reaches return: part 4 (DI, DJ, DK, YA, YC, YD, YE, YF, YG, YH, YM).
-/
import Derived.Deep.RegionWith
import Derived.Laws.IdiomStrings
import Derived.Lib.AppendStr
import Derived.Test.YtamlcgmipdcgjaaDoorBa03
namespace Go.Proofs.YtamlcgmipdcgjaaDoor
set_option maxRecDepth 100000
set_option maxHeartbeats 40000000
set_option maxRecDepth 100000
open Go.RowKit Go.Shelf WMath
set_option linter.unusedVariables false
set_option linter.unusedSimpArgs false
def leadsP (k x : Nat) : Bool := decide (x % 128 = (plN k).opc) && (decide ((cutF (x &&& fxN (plN k).lay)).rs3 = (plN k).rs3) && (decide ((cutF (x &&& fxN (plN k).lay)).rm = (plN k).rm) || (decide ((plN k).lay = 1) || decide ((plN k).lay = 2))))
theorem k_leads (k x : Nat) (hk : k < 32) (hx : x < 4294967296) : Box (∀ w, T24 w → Calls Tryd.prog 36 #[.agg (plV (plB (plN k))), .int .u32 (x : Nat)] w fun r w' => r = .returned (.bool (leadsP k x)) ∧ Below w.heap.size w w') := box (fun w hT => by
  unfold leadsP
  have hf := fxLt (plOk hk).1
  have hy : x &&& fxN (plN k).lay < 4294967296 := Nat.lt_of_le_of_lt Nat.and_le_left hx
  by_cases h : x % 128 = (plN k).opc
  · rw [decide_eq_true h, Bool.true_and]
    have hne : (((x % 128 : Nat) : Int) != ((plN k).opc : Nat)) = false := by rw [bne, beqN24, decide_eq_true h]; rfl
    exact t_leads_y (plB (plN k)) x (x &&& fxN (plN k).lay) (fxN (plN k).lay) (fdB (cutF x)) (fdB (cutF (x &&& fxN (plN k).lay))) _ _ _ rfl (plOk hk).1 hne (and32t x _ hx hf) (beqN24 _ _) (beqN24 _ _) (box (fun w => t_cut x hx _ rfl w)) (box (fun w => t_cut _ hy _ rfl w)) (k_isMem k) w hT
  · rw [decide_eq_false h, Bool.false_and]
    have hne : (((x % 128 : Nat) : Int) != ((plN k).opc : Nat)) = true := by rw [bne, beqN24, decide_eq_false h]; rfl
    exact t_leads_n (plB (plN k)) x (fdB (cutF x)) hne (box (fun w => t_cut x hx _ rfl w)) w)
theorem fd_all : ((List.range 32).all fun k => (rwsO k).all fun r => decide (r.mask = fxN (plN k).lay ∧ r.mtch &&& r.mask = r.mtch ∧ r.mask % 128 = 127 ∧ r.mtch % 128 = (plN k).opc ∧ (cutF r.mtch).rs3 = (plN k).rs3 ∧ ((cutF r.mtch).rm = (plN k).rm ∨ (plN k).lay = 1 ∨ (plN k).lay = 2) ∧ lastR (rwsO k) (keyR r) = some r)) = true := by decide +kernel
theorem fd_row {k x : Nat} {r : Rw} (hk : k < 32) (hr : r ∈ rwsO k) (hf : fitsL r x = true) : leadsP k x = true ∧ lastR (rwsO k) (fdB (cutF (x &&& fxN (plN k).lay))) = some r := by
  obtain ⟨h1, h2, h3, h4, h5, h6, h7⟩ := of_decide_eq_true (List.all_eq_true.1 (List.all_eq_true.1 fd_all k (List.mem_range.2 hk)) r hr)
  have hm : x &&& r.mask = r.mtch := by
    unfold fitsL at hf
    simp only [Bool.and_eq_true, decide_eq_true_eq] at hf
    rw [hf.1.1, h2]
  rw [← h1, hm]
  refine ⟨?_, h7⟩
  unfold leadsP
  rw [← h1, hm, decide_eq_true h5, Bool.true_and]
  have hx : x % 128 = (plN k).opc := by
    have q : (x &&& r.mask) % 2 ^ 7 = x % 2 ^ 7 &&& r.mask % 2 ^ 7 := Nat.and_mod_two_pow
    rw [hm] at q
    have q1 : r.mask % 2 ^ 7 = 2 ^ 7 - 1 := h3
    rw [q1, Nat.and_two_pow_sub_one_eq_mod] at q
    have q2 : r.mtch % 2 ^ 7 = x % 2 ^ 7 % 2 ^ 7 := q
    have q3 : r.mtch % 128 = x % 128 % 128 := q2
    omega
  rw [decide_eq_true hx, Bool.true_and]
  rcases h6 with h | h | h <;> simp [h]
theorem preR_mem {k : Nat} {r : Rw} (hk : k ≤ 32) (h : r ∈ preR k) : ∃ p ∈ allL, p.1 = r := by
  have q : r ∈ preR 32 := (fm_pre rwsO (range_pre hk)).subset h
  rw [preR_all] at q
  obtain ⟨p, hp, e⟩ := List.mem_map.1 q
  exact ⟨p, hp, e⟩
theorem one_fit24 {x : Nat} {p q : Nm} (hp : p ∈ allL) (hq : q ∈ allL) (h1 : fitsL p.1 x = true) (h2 : fitsL q.1 x = true) : p.1 = q.1 := by
  obtain ⟨j, hj⟩ := List.mem_iff_getElem?.1 hp
  obtain ⟨k, hk⟩ := List.mem_iff_getElem?.1 hq
  have e := one24 hj hk h1 h2
  subst e
  rw [hj] at hk
  cases hk
  rfl
theorem res_rb {fn : Func} {z y : Tmp} (h : fn.results = #[.cell z 54, .tmp y]) {tmps : Array Value} {w : World} {b : Nat} {r : Rw} {v : Bool} {T : TypeId} (hz : tmps.getD z undef = .pointer (some ⟨b, 0, none⟩)) (hy : tmps.getD y undef = .bool v)
    (hr : w.heap[b]? = some (.cells (rwC r) T)) : (results fn tmps).run Tryd.prog w = .ok (.tuple #[.agg (rwC r), .bool v]) w := by
  have q := rwC_lv hr
  have hz2 : tmps[z]?.getD undef = .pointer (some ⟨b, 0, none⟩) := by rw [← Array.getD_eq_getD_getElem?]; exact hz
  have hy2 : tmps[y]?.getD undef = .bool v := by rw [← Array.getD_eq_getD_getElem?]; exact hy
  simp [results, h, hz2, hy2, asAddr, q, Result.andThen]
theorem fdk_some {x : Nat} {p : Nm} (hp : p ∈ allL) (hf : fitsL p.1 x = true) : ∃ s, fdL x = some (p.1, s) := by
  unfold fdL fstL
  cases z : allL.find? (fun p => fitsL p.1 x) with
  | none => exact absurd hf (by have := List.find?_eq_none.1 z p hp; simpa using this)
  | some q =>
    have hq := List.find?_some z
    have hm := List.mem_of_find?_eq_some z
    obtain ⟨q1, q2⟩ := q
    have e : q1 = p.1 := one_fit24 hm hp hq hf
    exact ⟨q2, by rw [e]⟩
theorem fdk_none {x : Nat} (h : ∀ r ∈ preR 32, fitsL r x = false) : fdL x = none := by
  unfold fdL fstL
  refine List.find?_eq_none.2 (fun p hp => ?_)
  rw [h p.1 (by rw [preR_all]; exact List.mem_map.2 ⟨p, hp, rfl⟩)]
  decide
theorem cut7i {G C : Prop} (h : G → C) (k : G) : C := h k
structure FdK (w : World) (r : Rw) (V : World) : Prop where
  b : Below w.heap.size w V
  z : V.heap[w.heap.size]? = some (.cells (rwC r) 54)
theorem FdK.below {w : World} {r : Rw} {V V' : World} (h : FdK w r V) (b : Below V.heap.size V V') : FdK w r V' := ⟨h.b.trans (b.mono h.b.size), heap_of b _ _ _ h.z⟩
set_option maxRecDepth 100000 in
set_option maxHeartbeats 8000000 in
theorem t_find (x : Nat) (hx : x < 4294967296) (hE : ∀ args w, (callFunc 60 args).run Tryd.prog w = .ok (.enter 60 args) w) (rr : Rw) (ok : Bool) (hv : (rr, ok) = ((ndO (fdL x)).1, (fdL x).isSome)) (w : World) (hT : T24 w) : Calls Tryd.prog 23 #[.int .u32 (x : Nat)] w fun r w' => r = .returned (.tuple #[.agg (rwC rr), .bool ok]) ∧ Below w.heap.size w w' := by
  have FF := box hT
  have HV := box hv
  have HX := box hx
  clear hv
  have B0 := bal w (.cells #[.int .u8 0, .int .u8 0, .int .u8 0, .int .u8 0, .int .u32 0, .int .u32 0, .int .u8 0] 54)
  have R0 := last7 w (.cells #[.int .u8 0, .int .u8 0, .int .u8 0, .int .u8 0, .int .u32 0, .int .u32 0, .int .u8 0] 54)
  have I0 : FdK w rwZ (w.alloc (.cells #[.int .u8 0, .int .u8 0, .int .u8 0, .int .u8 0, .int .u32 0, .int .u32 0, .int .u8 0] 54)) := ⟨B0, R0⟩
  obtain ⟨_, _, _, b, a, cap, hs, hp⟩ := hT
  have HS : Box (∀ V, Below w.heap.size w V → V.cell? ⟨0, 0, none⟩ = some (.slice (some ⟨b, a, none⟩) 32 cap)) := box (fun V hb => cellB hb hs)
  have HP : Box (∀ V, Below w.heap.size w V → ∀ i, i < 32 → PlAt V b (a + i * 5) (plB (plN i))) := box (fun V hb i hi => let h := hp i hi; ⟨cellB hb h.1, cellB hb h.2.1, cellB hb h.2.2.1, cellB hb h.2.2.2.1, cellB hb h.2.2.2.2⟩)
  have hs0 := HS.out _ B0
  clear hs hp B0 R0
  go_enter Tryd.func23, Tryd.ntmps23
  go_wp2
  go_loopw [8] (fun kv wr => ∃ (k : Nat) (q : Rw), k ≤ 32 ∧ kv = .int .i64 (k : Int) ∧ FdK w q wr ∧ Box (∀ r ∈ preR k, fitsL r x = false)) (fun kv _ => 32 - (intOf kv).toNat)
  case atStart => exact ⟨0, rwZ, by omega, rfl, I0, box (fun r h => by cases h)⟩
  case round =>
    clear I0 hs0
    obtain ⟨k, q, hk, rfl, HI, HN⟩ := hrel
    obtain ⟨wo, rfl⟩ : ∃ wo, wo = wr := ⟨_, rfl⟩
    by_cases hlt : k < 32
    case neg =>
      have ke : k = 32 := by omega
      subst ke
      have hv := HV.out
      rw [fdk_none HN.out] at hv
      obtain ⟨rfl, rfl⟩ := hv
      have hzf := rwz_fold
      have hst := rwC_storeG (r := rwZ) HI.z rfl
      have rz := setRow_row (c' := rwC rwZ) HI.z
      have bz : Below w.heap.size w (wo.setRow w.heap.size (rwC rwZ)) := Below.setRow HI.b (Nat.le_refl _)
      obtain ⟨VZ, hVZ⟩ : ∃ X, wo.setRow w.heap.size (rwC rwZ) = X := ⟨_, rfl⟩
      rw [hVZ] at hst rz bz
      clear hVZ
      go_wp2
      exact bodyPost_ret (v := .tuple #[.agg (rwC rwZ), .bool false]) (res_rb Tryd.results23 rfl rfl rz) rfl ⟨rfl, bz⟩
    have d1 : decide ((k : Int) < 32) = true := decide_eq_true (by omega)
    have d2 : decide ((32 : Int) ≤ (k : Int)) = false := decide_eq_false (by omega)
    have hw1 : IntKind.i64.wrap ((k : Int) + 1) = ((k + 1 : Nat) : Int) := by rw [IntKind.wrap_i64]; omega
    have w8 : (k : Int) % 256 = (k : Int) := by omega
    have w8b : IntKind.u8.wrap (k : Int) = (k : Int) := by rw [IntKind.wrap_u8]; omega
    obtain ⟨P, hP⟩ : ∃ P, plB (plN k) = P := ⟨_, rfl⟩
    have hpl := HP.out wo HI.b k hlt
    have KL := k_leads k x hlt HX.out
    rw [hP] at hpl KL
    obtain ⟨c0, c1, c2, c3, c4⟩ := hpl
    have hfo := plV_fold P
    have hnew := plV_new
    have HIa := HI.below (bal wo (.cells (plV P) 91))
    have RPa := last7 wo (.cells (plV P) 91)
    obtain ⟨p0, p1, p2, p3, p4⟩ := plV_cells RPa
    go_wp2_with fail
    refine (KL.out _ (t24B FF.out HIa.b)).mono ?_
    rintro r w2 ⟨rfl, b2⟩
    have HI2 := HIa.below b2
    have RP2 := heap_of b2 _ _ _ RPa
    obtain ⟨p0', p1', p2', p3', p4'⟩ := plV_cells RP2
    clear p0 p1 p2 p3 p4 c0 c1 c2 c3 c4 b2 HI HIa RPa hnew
    have HNX := box (preR_next k)
    cases hld : leadsP k x
    · go_wp2
      go_roundw
      case rel => exact ⟨k + 1, q, by omega, by first | rfl | (simp; done) | (simp; omega), HI2, box (fun r hr => by
        rw [HNX.out] at hr
        rcases List.mem_append.1 hr with h | h
        · exact HN.out r h
        · cases hf : fitsL r x
          · rfl
          · rw [(fd_row hlt h hf).1] at hld; cases hld)⟩
      case measure => simp [intOf]; omega
    · go_wp2_with fail
      obtain ⟨Y, hY⟩ : ∃ Y, x &&& fxN (plN k).lay = Y := ⟨_, rfl⟩
      have hYl : Y < 4294967296 := by rw [← hY]; exact Nat.lt_of_le_of_lt Nat.and_le_left HX.out
      obtain ⟨Fk, hFk⟩ : ∃ F, fdB (cutF Y) = F := ⟨_, rfl⟩
      have hFo : FdsOk Fk := by rw [← hFk]; refine ⟨?_, ?_, ?_, ?_, ?_⟩ <;> simp only [fdB, cutF] <;> omega
      have KB : Box (∀ W, T24 W → Calls Tryd.prog 37 #[.int .u8 (k : Nat)] W fun r w' => ∃ b, r = .returned (.map (some b)) ∧ MapR w' b (rwsO k) ∧ Below W.heap.size W w' ∧ W.heap.size ≤ b) := box (fun W h => t_byFields k (by omega) hE W h)
      have KU : Box (∀ W, Calls Tryd.prog 38 #[.int .u32 (Y : Nat)] W fun r w' => r = .returned (.agg (fdC Fk)) ∧ Below W.heap.size W w') := box (fun W => t_cut Y hYl Fk hFk W)
      obtain ⟨rk, hrk⟩ : ∃ r, (lastR (rwsO k) Fk).getD rwZ = r := ⟨_, rfl⟩
      obtain ⟨bk, hbk⟩ : ∃ b, (lastR (rwsO k) Fk).isSome = b := ⟨_, rfl⟩
      have hlay : P.lay < 10 := by rw [← hP]; exact (plOk hlt).1
      have hlay2 : P.lay = (plN k).lay := by rw [← hP]; rfl
      have e1 : decide (((P.lay : Nat) : Int) < 10) = true := decide_eq_true (by omega)
      have e2 : decide ((10 : Int) ≤ ((P.lay : Nat) : Int)) = false := decide_eq_false (by omega)
      have hia : ∀ V : World, (Instr.indexAt 97 (.pointer (some ⟨1, 0, none⟩)) (.int .u8 ((P.lay : Nat) : Int))).run Tryd.prog V = .ok (.pointer (some ⟨1, P.lay, none⟩)) V := fun V => by
        rcases (show P.lay = 0 ∨ P.lay = 1 ∨ P.lay = 2 ∨ P.lay = 3 ∨ P.lay = 4 ∨ P.lay = 5 ∨ P.lay = 6 ∨ P.lay = 7 ∨ P.lay = 8 ∨ P.lay = 9 by omega) with h | h | h | h | h | h | h | h | h | h <;> rw [h] <;> kernel_rfl
      have hM : bits .and .u32 (x : Int) ((fxN P.lay : Nat) : Int) = (Y : Nat) := by rw [hlay2, and32t x _ HX.out (fxLt (by omega)), hY]
      have HFx : Box (∀ V2, Below w2.heap.size w2 V2 → (V2.cell? ⟨1, P.lay, none⟩ = some (.int .u32 (fxN P.lay : Nat)) ∧ V2.cell? ⟨wo.heap.size, 4, none⟩ = some (.int .u8 (P.lay : Nat)) ∧ T24 V2) ∧ (storeCells ⟨w.heap.size, 0, none⟩ (rwC rk).toList 0).run Tryd.prog V2 = .ok () (V2.setRow w.heap.size (rwC rk)) ∧ FdK w rk (V2.setRow w.heap.size (rwC rk))) := box (fun V2 b2 => by
        have h2 := HI2.below b2
        have t2 := t24B FF.out h2.b
        obtain ⟨_, _, _, _, q4⟩ := plV_cells (heap_of b2 _ _ _ RP2)
        exact ⟨⟨t2.fx _ hlay, q4, t2⟩, rwC_storeG (r := rk) h2.z rfl, ⟨Below.setRow h2.b (Nat.le_refl _), setRow_row h2.z⟩⟩)
      have HMk : Box (∀ V2 bm, MapR V2 bm (rwsO k) → (Instr.lookup 92 (.map (some bm)) (.agg (fdC Fk)) true).run Tryd.prog V2 = .ok (.tuple #[.agg (rwC rk), .bool bk]) V2) := box (fun V2 bm hm => by rw [hm.look Fk hFo, hrk, hbk])
      obtain ⟨⟨f0, f1, ft⟩, f2, f3⟩ := HFx.out w2 (Below.refl _ _)
      have HLR : Box (∀ r ∈ rwsO k, fitsL r x = true → bk = true ∧ rk = r) := box (fun r hr hf => by
        have q := (fd_row hlt hr hf).2
        rw [hY, hFk] at q
        rw [q] at hrk hbk
        exact ⟨hbk.symm, hrk.symm⟩)
      have HRK : Box (bk = true → rk ∈ rwsO k) := box (fun h => by
        rw [h] at hbk
        obtain ⟨r9, h9⟩ := Option.isSome_iff_exists.1 hbk
        rw [h9] at hrk
        obtain rfl : r9 = rk := hrk
        have := List.mem_of_find?_eq_some h9
        exact List.mem_reverse.1 this)
      clear hY hYl hFk hFo hrk hbk hlay2 hld HI2 RP2 p0' p1' p2' p3' p4' hfo
      apply cut7i
      · intro key
        have bq : Below w2.heap.size w2 w2.drew := (Below.refl _ _).drew
        have ftq : T24 w2.drew := t24B ft bq
        have hrs : (rwC rk).size = 7 := rfl
        go_region_with (first
          | (go_at_call 37; refine (KB.out _ ftq).mono ?_; rintro r wq ⟨bm, rfl, mp, bz, _⟩; have bq := bq.trans (bz.mono bq.size); obtain ⟨⟨f0, f1, ftq⟩, f2, f3⟩ := HFx.out wq bq; have lk := HMk.out wq bm mp)
          | (go_at_call 38; refine (KU.out _).mono ?_; rintro r wq ⟨rfl, bz⟩; have bq := bq.trans (bz.mono bq.size); obtain ⟨⟨f0, f1, ftq⟩, f2, f3⟩ := HFx.out wq bq; (first | (have mp := mp.below bz; have lk := HMk.out wq bm mp) | skip))
          | fail)
        all_goals
          clear f2
          obtain ⟨W9, hW9⟩ : ∃ X, wq.setRow w.heap.size (rwC rk) = X := ⟨_, rfl⟩
          rw [hW9] at f3 ⊢
          clear hW9
          obtain ⟨vm, hvm⟩ : ∃ v, Value.map (some bm) = v := ⟨_, rfl⟩
          rw [hvm]
          clear hvm
          revert W9 vm
          exact key
      · intro W9 f3 vm
        clear f0 f1 ft f2
        obtain ⟨x0, x1, x2, x3, x4, x5, x6⟩ := rwC_cells f3.z
        have hfr := rwC_fold rk
        have no : (bk = true → fitsL rk x = false) → ∀ r ∈ preR (k + 1), fitsL r x = false := fun h r hr => by
          rw [HNX.out] at hr
          rcases List.mem_append.1 hr with h1 | h1
          · exact HN.out r h1
          · cases hf : fitsL r x
            · rfl
            · obtain ⟨g1, g2⟩ := HLR.out r h1 hf
              have := h g1
              rw [g2, hf] at this
              cases this
        have NO := box no
        clear no
        cases hb : bk
        · go_wp2
          go_roundw
          case rel => exact ⟨k + 1, rk, by omega, by first | rfl | (simp; done) | (simp; omega), f3, box (NO.out (fun h => by rw [hb] at h; cases h))⟩
          case measure => simp [intOf]; omega
        · have hmem := HRK.out hb
          obtain ⟨pp, hpp, hpe⟩ := preR_mem (k := k + 1) (by omega) (show rk ∈ preR (k + 1) by rw [HNX.out]; exact List.mem_append_right _ hmem)
          have hok := ok24 hpp
          rw [hpe] at hok
          have KF := k_fits rk hok.2.2.2.2.1 hok.2.2.2.2.2.1 x HX.out
          have HPP := box hpp
          have HPE := box hpe
          clear hmem hpp hpe hok
          go_wp2_with fail
          refine (KF.out _).mono ?_
          rintro r w10 ⟨rfl, b10⟩
          have f10 := f3.below b10
          clear x0 x1 x2 x3 x4 x5 x6
          obtain ⟨x0, x1, x2, x3, x4, x5, x6⟩ := rwC_cells f10.z
          cases hff : fitsL rk x
          · go_wp2
            go_roundw
            case rel => exact ⟨k + 1, rk, by omega, by first | rfl | (simp; done) | (simp; omega), f10, box (NO.out (fun _ => hff))⟩
            case measure => simp [intOf]; omega
          · have hv := HV.out
            obtain ⟨s9, hs9⟩ := fdk_some HPP.out (by rw [HPE.out]; exact hff)
            rw [hs9, HPE.out] at hv
            obtain ⟨rfl, rfl⟩ := hv
            have hst := rwC_storeG (r := rk) f10.z rfl
            have rz := setRow_row (c' := rwC rk) f10.z
            have bz : Below w.heap.size w (w10.setRow w.heap.size (rwC rk)) := Below.setRow f10.b (Nat.le_refl _)
            obtain ⟨VZ, hVZ⟩ : ∃ X, w10.setRow w.heap.size (rwC rk) = X := ⟨_, rfl⟩
            rw [hVZ] at hst rz bz
            clear hVZ
            go_wp2
            exact bodyPost_ret (v := .tuple #[.agg (rwC rk), .bool true]) (res_rb Tryd.results23 rfl rfl rz) rfl ⟨rfl, bz⟩
def bcs (L : List UInt8) : List Value := L.map fun b => Value.int .u8 (b.toNat : Int)
theorem cell_same24 {V V' : World} {g i : Nat} (h : V'.heap[g]? = V.heap[g]?) : V'.cell? ⟨g, i, none⟩ = V.cell? ⟨g, i, none⟩ := by
  simp only [World.cell?, h]
structure NmK (w : World) (q : Rw) (g : Nat) (nm : List UInt8) (v : Value) (L : List UInt8) (V : World) : Prop where
  b : Below w.heap.size w V
  r : V.heap[w.heap.size]? = some (.cells (rwC q) 54)
  c : ∀ i (h : i < nm.length), V.cell? ⟨g, i, none⟩ = some (.int .u8 (nm[i].toNat : Int))
  l : g < V.heap.size
  o : V.ownsRow (g + 1) 5 1 v L.length (bcs L)
theorem NmK.start {w w1 : World} {q : Rw} {nm : List UInt8} {cp : Nat} (B : Below w.heap.size w w1) (R : w1.heap[w.heap.size]? = some (.cells (rwC q) 54)) : NmK w q w1.heap.size nm (.slice none 0 0) [] (w1.drew.alloc (.cells (bytesRow ⟨nm.toArray⟩ cp) 5 ((bytesRow ⟨nm.toArray⟩ cp).size, (bytesRow ⟨nm.toArray⟩ cp).size + 1))) := by
  have hb : Below w1.heap.size w1 (w1.drew.alloc (.cells (bytesRow ⟨nm.toArray⟩ cp) 5 ((bytesRow ⟨nm.toArray⟩ cp).size, (bytesRow ⟨nm.toArray⟩ cp).size + 1))) := ((Below.refl _ w1).drew).alloc (Nat.le_refl _) _
  have hl : (w1.drew.alloc (.cells (bytesRow ⟨nm.toArray⟩ cp) 5 ((bytesRow ⟨nm.toArray⟩ cp).size, (bytesRow ⟨nm.toArray⟩ cp).size + 1))).heap[w1.heap.size]? = some (.cells (bytesRow ⟨nm.toArray⟩ cp) 5 ((bytesRow ⟨nm.toArray⟩ cp).size, (bytesRow ⟨nm.toArray⟩ cp).size + 1)) := heap_alloc_last w1.drew _
  refine ⟨B.trans (hb.mono B.size), heap_of hb _ _ _ R, fun i hi => ?_, (Array.getElem?_eq_some_iff.1 hl).1, World.ownsRow_nil _ _ _ _⟩
  have hx := bytesRow_at ⟨nm.toArray⟩ cp i (by simpa using hi)
  simp only [World.cell?, hl]
  simpa using hx
theorem NmK.below {w : World} {q : Rw} {g : Nat} {nm : List UInt8} {v : Value} {L : List UInt8} {V V' : World} (h : NmK w q g nm v L V) (b : Below V.heap.size V V') : NmK w q g nm v L V' :=
  ⟨h.b.trans (b.mono h.b.size), heap_of b _ _ _ h.r, fun i hi => cellB b (h.c i hi), Nat.lt_of_lt_of_le h.l b.size, own_below24 h.o b⟩
theorem NmK.grown {w : World} {q : Rw} {g : Nat} {nm : List UInt8} {v v' : Value} {L L' : List UInt8} {V V' : World} (h : NmK w q g nm v L V) (hg : w.heap.size < g) (gr : V.grownBy V' v.ownBlock) (o : V'.ownsRow (g + 1) 5 1 v' L'.length (bcs L')) : NmK w q g nm v' L' V' := by
  have hne : ∀ k, k < g + 1 → some k ≠ v.ownBlock := fun k hk e => by have := (h.o.lt k e.symm).1; omega
  refine ⟨h.b.grown gr h.b.size (fun k e => by have := (h.o.lt k e).1; omega), (gr.block _ (Array.getElem?_eq_some_iff.1 h.r).1 (hne _ (by omega))).trans h.r, fun i hi => ?_, Nat.lt_of_lt_of_le h.l gr.size, o⟩
  rw [← h.c i hi]
  exact cell_same24 (gr.block g h.l (hne g (by omega)))
structure HhK (w : World) (g : Nat) (nm : List UInt8) (V : World) : Prop where
  b : Below w.heap.size w V
  c : ∀ i (h : i < nm.length), V.cell? ⟨g, i, none⟩ = some (.int .u8 (nm[i].toNat : Int))
theorem HhK.below {w : World} {g : Nat} {nm : List UInt8} {V V' : World} (h : HhK w g nm V) (b : Below V.heap.size V V') : HhK w g nm V' := ⟨h.b.trans (b.mono h.b.size), fun i hi => cellB b (h.c i hi)⟩
theorem HhK.start {w w1 : World} {nm : List UInt8} {cp : Nat} (B : Below w.heap.size w w1) : HhK w w1.heap.size nm (w1.drew.alloc (.cells (bytesRow ⟨nm.toArray⟩ cp) 5 ((bytesRow ⟨nm.toArray⟩ cp).size, (bytesRow ⟨nm.toArray⟩ cp).size + 1))) := by
  have hb : Below w1.heap.size w1 (w1.drew.alloc (.cells (bytesRow ⟨nm.toArray⟩ cp) 5 ((bytesRow ⟨nm.toArray⟩ cp).size, (bytesRow ⟨nm.toArray⟩ cp).size + 1))) := ((Below.refl _ w1).drew).alloc (Nat.le_refl _) _
  have hl : (w1.drew.alloc (.cells (bytesRow ⟨nm.toArray⟩ cp) 5 ((bytesRow ⟨nm.toArray⟩ cp).size, (bytesRow ⟨nm.toArray⟩ cp).size + 1))).heap[w1.heap.size]? = some (.cells (bytesRow ⟨nm.toArray⟩ cp) 5 ((bytesRow ⟨nm.toArray⟩ cp).size, (bytesRow ⟨nm.toArray⟩ cp).size + 1)) := heap_alloc_last w1.drew _
  refine ⟨B.trans (hb.mono B.size), fun i hi => ?_⟩
  have hx := bytesRow_at ⟨nm.toArray⟩ cp i (by simpa using hi)
  simp only [World.cell?, hl]
  simpa using hx
end Go.Proofs.YtamlcgmipdcgjaaDoor
namespace Go.Proofs.YtamlcgmipdcgjaaDoor
set_option maxRecDepth 100000
set_option maxHeartbeats 40000000
set_option maxRecDepth 100000
open Go.RowKit WMath
set_option linter.unusedSimpArgs false
set_option linter.unusedVariables false
def fld (w low n : Nat) : Nat := w / 2 ^ low % 2 ^ n
theorem fld_lt (w low n : Nat) : fld w low n < 2 ^ n := Nat.mod_lt _ (Nat.two_pow_pos n)
def sg12 (x : Nat) : Int := if 2048 ≤ x then (x : Int) - 4096 else (x : Int)
structure In where
  op : Nat
  form : Nat
  frm : Nat
  kind : Nat
  rd : Nat
  rs1 : Nat
  rs2 : Nat
  rs3 : Nat
  rm : Nat
  imm : Int
  csr : Nat
deriving DecidableEq
def inC (i : In) : Array Value := #[.int .u8 (i.op : Nat), .int .u8 (i.form : Nat), .int .u8 (i.frm : Nat), .int .u8 (i.kind : Nat), .int .u8 (i.rd : Nat), .int .u8 (i.rs1 : Nat), .int .u8 (i.rs2 : Nat), .int .u8 (i.rs3 : Nat), .int .u8 (i.rm : Nat), .int .i16 i.imm, .int .u8 (i.csr : Nat)]
theorem inC_cells {w : World} {b : Nat} {x : In} {T : TypeId} (h : w.heap[b]? = some (.cells (inC x) T)) : w.cell? ⟨b, 0, none⟩ = some (.int .u8 (x.op : Nat)) ∧ w.cell? ⟨b, 1, none⟩ = some (.int .u8 (x.form : Nat)) ∧ w.cell? ⟨b, 2, none⟩ = some (.int .u8 (x.frm : Nat)) ∧ w.cell? ⟨b, 3, none⟩ = some (.int .u8 (x.kind : Nat)) ∧ w.cell? ⟨b, 4, none⟩ = some (.int .u8 (x.rd : Nat)) ∧ w.cell? ⟨b, 5, none⟩ = some (.int .u8 (x.rs1 : Nat)) ∧ w.cell? ⟨b, 6, none⟩ = some (.int .u8 (x.rs2 : Nat)) ∧ w.cell? ⟨b, 7, none⟩ = some (.int .u8 (x.rs3 : Nat)) ∧ w.cell? ⟨b, 8, none⟩ = some (.int .u8 (x.rm : Nat)) ∧ w.cell? ⟨b, 9, none⟩ = some (.int .i16 x.imm) ∧ w.cell? ⟨b, 10, none⟩ = some (.int .u8 (x.csr : Nat)) :=
  ⟨cell7 h 0 _ rfl, cell7 h 1 _ rfl, cell7 h 2 _ rfl, cell7 h 3 _ rfl, cell7 h 4 _ rfl, cell7 h 5 _ rfl, cell7 h 6 _ rfl, cell7 h 7 _ rfl, cell7 h 8 _ rfl, cell7 h 9 _ rfl, cell7 h 10 _ rfl⟩
theorem inC_fold (x : In) : #[Value.int .u8 (x.op : Nat), .int .u8 (x.form : Nat), .int .u8 (x.frm : Nat), .int .u8 (x.kind : Nat), .int .u8 (x.rd : Nat), .int .u8 (x.rs1 : Nat), .int .u8 (x.rs2 : Nat), .int .u8 (x.rs3 : Nat), .int .u8 (x.rm : Nat), .int .i16 x.imm, .int .u8 (x.csr : Nat)] = inC x := rfl
theorem inC_store {w : World} {b : Nat} {x : In} {c : Array Value} {T : TypeId} (h : w.heap[b]? = some (.cells c T)) (hc : c.size = 11) : (storeCells ⟨b, 0, none⟩ (inC x).toList 0).run Tryd.prog w = .ok () (w.setRow b (inC x)) := by
  have := run_storeCells_from (P := Tryd.prog) b T (inC x).toList 0 c w h (by simp [inC, hc]) (fun v hv => by
    simp [inC] at hv
    rcases hv with rfl | rfl | rfl | rfl | rfl | rfl | rfl | rfl | rfl | rfl | rfl <;> rfl)
  have e : List.drop 11 c.toList = [] := List.drop_eq_nil_of_le (by rw [Array.length_toList, hc]; exact Nat.le_refl _)
  simpa [inC, e] using this
theorem in_lv {w : World} {b : Nat} {x : In} {T : TypeId} (h : w.heap[b]? = some (.cells (inC x) T)) : (loadVar 28 ⟨b, 0, none⟩).run Tryd.prog w = .ok (.agg (inC x)) w := by
  have ha : (isAgg 28).run Tryd.prog w = .ok true w := by kernel_rfl
  have hs : (sizeOf 28).run Tryd.prog w = .ok 11 w := by kernel_rfl
  have q := run_loadCells_list (P := Tryd.prog) w ⟨b, 0, none⟩ (inC x).toList (fun j v hv => by
    have hadd : (⟨b, 0, none⟩ : Addr).add j = ⟨b, j, none⟩ := by unfold Addr.add; split <;> simp_all
    rw [hadd]
    exact cell7 h j v (by simpa using hv))
  rw [Array.length_toList, show (inC x).size = 11 from rfl] at q
  simp only [Sem.run_bind, Sem.run_pure, Result.andThen, loadVar, ha, hs, if_true, q]
theorem res_inC {fn : Func} {z t : Tmp} (h : fn.results = #[.cell z 28, .tmp t]) {tmps : Array Value} {w : World} {b : Nat} {x : In} {T : TypeId} (hz : tmps.getD z undef = .pointer (some ⟨b, 0, none⟩)) (hr : w.heap[b]? = some (.cells (inC x) T)) : (results fn tmps).run Tryd.prog w = .ok (.tuple #[.agg (inC x), tmps.getD t undef]) w := by
  have q := in_lv hr
  have hz2 : tmps[z]?.getD undef = .pointer (some ⟨b, 0, none⟩) := by rw [← Array.getD_eq_getD_getElem?]; exact hz
  simp [results, h, hz2, asAddr, q, Result.andThen]
theorem inC_new (w : World) (b : Nat) (x : In) (hb : b = w.heap.size) : (storeCells ⟨b, 0, none⟩ (inC x).toList 0).run Tryd.prog (w.alloc (.cells #[.int .u8 0, .int .u8 0, .int .u8 0, .int .u8 0, .int .u8 0, .int .u8 0, .int .u8 0, .int .u8 0, .int .u8 0, .int .i16 0, .int .u8 0] 28)) = .ok () (w.alloc (.cells (inC x) 28)) := by
  subst hb
  exact run_storeCells_new (P := Tryd.prog) w 28 #[.int .u8 0, .int .u8 0, .int .u8 0, .int .u8 0, .int .u8 0, .int .u8 0, .int .u8 0, .int .u8 0, .int .u8 0, .int .i16 0, .int .u8 0] (inC x) (by kernel_rfl) rfl (by simp [inC]; exact ⟨rfl, rfl, rfl, rfl, rfl, rfl, rfl, rfl, rfl, rfl, rfl⟩)
def inZ : In := ⟨0, 0, 0, 0, 0, 0, 0, 0, 0, 0, 0⟩
def dcI (r : Rw) (w : Nat) : In := ⟨r.op, r.form, r.frm, r.kind, if r.lay = 2 then 0 else fld w 7 5, fld w 15 5, if r.lay = 2 ∨ r.lay = 3 ∨ r.lay = 4 ∨ r.lay = 5 then fld w 20 5 else 0, if r.lay = 3 then fld w 27 5 else 0, if r.lay = 3 ∨ r.lay = 4 ∨ r.lay = 6 then fld w 12 3 else 0, if r.lay = 1 then sg12 (fld w 20 12) else if r.lay = 2 then sg12 (32 * fld w 25 7 + fld w 7 5) else 0, if r.lay = 8 ∨ r.lay = 9 then fld w 20 12 % 256 else 0⟩
def dcR (w : Nat) : In × Int := match fdL w with | some p => (dcI p.1 w, 0) | none => (inZ, 250)
theorem in_fold0 (a b c d : Nat) : #[Value.int .u8 (a : Nat), .int .u8 (b : Nat), .int .u8 (c : Nat), .int .u8 (d : Nat), .int .u8 0, .int .u8 0, .int .u8 0, .int .u8 0, .int .u8 0, .int .i16 0, .int .u8 0] = inC ⟨a, b, c, d, 0, 0, 0, 0, 0, 0, 0⟩ := rfl
theorem rw_at0 (r : Rw) (h : 0 < (rwC r).size) : (rwC r)[0] = .int .u8 (r.op : Nat) := rfl
theorem rw_at1 (r : Rw) (h : 1 < (rwC r).size) : (rwC r)[1] = .int .u8 (r.form : Nat) := rfl
theorem rw_at2 (r : Rw) (h : 2 < (rwC r).size) : (rwC r)[2] = .int .u8 (r.frm : Nat) := rfl
theorem rw_at3 (r : Rw) (h : 3 < (rwC r).size) : (rwC r)[3] = .int .u8 (r.kind : Nat) := rfl
theorem rw_at4 (r : Rw) (h : 4 < (rwC r).size) : (rwC r)[4] = .int .u32 (r.mask : Nat) := rfl
theorem rw_at5 (r : Rw) (h : 5 < (rwC r).size) : (rwC r)[5] = .int .u32 (r.mtch : Nat) := rfl
theorem rw_at6 (r : Rw) (h : 6 < (rwC r).size) : (rwC r)[6] = .int .u8 (r.lay : Nat) := rfl
theorem in_zero : #[Value.int .u8 0, .int .u8 0, .int .u8 0, .int .u8 0, .int .u8 0, .int .u8 0, .int .u8 0, .int .u8 0, .int .u8 0, .int .i16 0, .int .u8 0] = inC inZ := rfl
theorem layL : allL.all (fun p => decide (1 ≤ p.1.lay ∧ p.1.lay ≤ 9 ∧ 1 ≤ p.1.op ∧ p.1.op ≤ 31 ∧ p.1.form < 4 ∧ p.1.frm < 4 ∧ p.1.kind < 4)) = true := by decide +kernel
theorem lay24 {p : Nm} (hp : p ∈ allL) : 1 ≤ p.1.lay ∧ p.1.lay ≤ 9 ∧ 1 ≤ p.1.op ∧ p.1.op ≤ 31 ∧ p.1.form < 4 ∧ p.1.frm < 4 ∧ p.1.kind < 4 := by
  have := List.all_eq_true.1 layL p hp
  simpa only [decide_eq_true_iff] using this
theorem fd_mem {x : Nat} {p : Nm} (h : fdL x = some p) : p ∈ allL ∧ fitsL p.1 x = true := by
  unfold fdL fstL at h
  exact ⟨List.mem_of_find?_eq_some h, by simpa using List.find?_some h⟩
structure Us where
  rx : Nat
  rf : Nat
  wx : Nat
  wf : Nat
deriving DecidableEq
def usC (x : Us) : Array Value := #[.int .u32 (x.rx : Nat), .int .u32 (x.rf : Nat), .int .u32 (x.wx : Nat), .int .u32 (x.wf : Nat)]
theorem usC_cells {w : World} {b : Nat} {x : Us} {T : TypeId} (h : w.heap[b]? = some (.cells (usC x) T)) : w.cell? ⟨b, 0, none⟩ = some (.int .u32 (x.rx : Nat)) ∧ w.cell? ⟨b, 1, none⟩ = some (.int .u32 (x.rf : Nat)) ∧ w.cell? ⟨b, 2, none⟩ = some (.int .u32 (x.wx : Nat)) ∧ w.cell? ⟨b, 3, none⟩ = some (.int .u32 (x.wf : Nat)) :=
  ⟨cell7 h 0 _ rfl, cell7 h 1 _ rfl, cell7 h 2 _ rfl, cell7 h 3 _ rfl⟩
theorem usC_fold (x : Us) : #[Value.int .u32 (x.rx : Nat), .int .u32 (x.rf : Nat), .int .u32 (x.wx : Nat), .int .u32 (x.wf : Nat)] = usC x := rfl
theorem usC_store {w : World} {b : Nat} {x : Us} {c : Array Value} {T : TypeId} (h : w.heap[b]? = some (.cells c T)) (hc : c.size = 4) : (storeCells ⟨b, 0, none⟩ (usC x).toList 0).run Tryd.prog w = .ok () (w.setRow b (usC x)) := by
  have := run_storeCells_from (P := Tryd.prog) b T (usC x).toList 0 c w h (by simp [usC, hc]) (fun v hv => by
    simp [usC] at hv
    rcases hv with rfl | rfl | rfl | rfl <;> rfl)
  have e : List.drop 4 c.toList = [] := List.drop_eq_nil_of_le (by rw [Array.length_toList, hc]; exact Nat.le_refl _)
  simpa [usC, e] using this
theorem usC_lv {w : World} {b : Nat} {x : Us} {T : TypeId} (h : w.heap[b]? = some (.cells (usC x) T)) : (loadVar 33 ⟨b, 0, none⟩).run Tryd.prog w = .ok (.agg (usC x)) w := by
  have ha : (isAgg 33).run Tryd.prog w = .ok true w := by kernel_rfl
  have hs : (sizeOf 33).run Tryd.prog w = .ok 4 w := by kernel_rfl
  have q := run_loadCells_list (P := Tryd.prog) w ⟨b, 0, none⟩ (usC x).toList (fun j v hv => by
    have hadd : (⟨b, 0, none⟩ : Addr).add j = ⟨b, j, none⟩ := by unfold Addr.add; split <;> simp_all
    rw [hadd]
    exact cell7 h j v (by simpa using hv))
  rw [Array.length_toList, show (usC x).size = 4 from rfl] at q
  simp only [Sem.run_bind, Sem.run_pure, Result.andThen, loadVar, ha, hs, if_true, q]
theorem res_usC {fn : Func} {z : Tmp} (h : fn.results = #[.cell z 33]) {tmps : Array Value} {w : World} {b : Nat} {x : Us} {T : TypeId} (hz : tmps.getD z undef = .pointer (some ⟨b, 0, none⟩)) (hr : w.heap[b]? = some (.cells (usC x) T)) : (results fn tmps).run Tryd.prog w = .ok (.agg (usC x)) w := by
  have q := usC_lv hr
  have hz2 : tmps[z]?.getD undef = .pointer (some ⟨b, 0, none⟩) := by rw [← Array.getD_eq_getD_getElem?]; exact hz
  simp [results, h, hz2, asAddr, q, Result.andThen]
theorem usC_new (w : World) (b : Nat) (x : Us) (hb : b = w.heap.size) : (storeCells ⟨b, 0, none⟩ (usC x).toList 0).run Tryd.prog (w.alloc (.cells #[.int .u32 0, .int .u32 0, .int .u32 0, .int .u32 0] 33)) = .ok () (w.alloc (.cells (usC x) 33)) := by
  subst hb
  exact run_storeCells_new (P := Tryd.prog) w 33 #[.int .u32 0, .int .u32 0, .int .u32 0, .int .u32 0] (usC x) (by kernel_rfl) rfl (by simp [usC]; exact ⟨rfl, rfl, rfl, rfl⟩)
def usI (i : In) : Us := if i.op = 1 ∨ i.op = 22 ∨ i.op = 25 then ⟨2 ^ i.rs1, 0, 0, 2 ^ i.rd⟩ else if i.op = 2 then ⟨2 ^ i.rs1, 2 ^ i.rs2, 0, 0⟩ else if i.op = 3 ∨ i.op = 4 ∨ i.op = 5 ∨ i.op = 6 then ⟨0, 2 ^ i.rs1 ||| 2 ^ i.rs2 ||| 2 ^ i.rs3, 0, 2 ^ i.rd⟩ else if i.op = 11 ∨ i.op = 17 then ⟨0, 2 ^ i.rs1, 0, 2 ^ i.rd⟩ else if i.op = 18 ∨ i.op = 19 ∨ i.op = 20 then ⟨0, 2 ^ i.rs1 ||| 2 ^ i.rs2, 2 ^ i.rd, 0⟩ else if i.op = 21 ∨ i.op = 23 ∨ i.op = 24 then ⟨0, 2 ^ i.rs1, 2 ^ i.rd, 0⟩ else if i.op = 26 ∨ i.op = 27 ∨ i.op = 28 then ⟨2 ^ i.rs1, 0, 2 ^ i.rd, 0⟩ else if i.op = 29 ∨ i.op = 30 ∨ i.op = 31 then ⟨0, 0, 2 ^ i.rd, 0⟩ else ⟨0, 2 ^ i.rs1 ||| 2 ^ i.rs2, 0, 2 ^ i.rd⟩
theorem or32u (a b : Nat) (ha : a < 4294967296) (hb : b < 4294967296) : bits .or .u32 (a : Int) (b : Int) = ((a ||| b : Nat) : Int) := by
  have hx : a ||| b < 4294967296 := Nat.or_lt_two_pow (n := 32) ha hb
  have h1 : (BitVec.ofInt 32 (a : Int)).toNat = a := by
    rw [BitVec.ofInt_natCast, BitVec.toNat_ofNat]; exact Nat.mod_eq_of_lt ha
  have h2 : (BitVec.ofInt 32 (b : Int)).toNat = b := by
    rw [BitVec.ofInt_natCast, BitVec.toNat_ofNat]; exact Nat.mod_eq_of_lt hb
  show IntKind.u32.wrap ((BitVec.ofInt 32 (a : Int) ||| BitVec.ofInt 32 (b : Int)).toNat : Int) = _
  rw [BitVec.toNat_or, h1, h2, show ∀ y : Int, IntKind.u32.wrap y = y % 4294967296 from fun _ => rfl]
  omega
theorem two32 (r : Nat) (h : r < 32) : (2 : Int) ^ min r 32 % 4294967296 = ((2 ^ r : Nat) : Int) ∧ 2 ^ r < 4294967296 := by
  have l : 2 ^ r < 2 ^ 32 := Nat.pow_lt_pow_right (by decide) h
  have e : (2 : Int) ^ r = ((2 ^ r : Nat) : Int) := by rw [Int.natCast_pow]; rfl
  rw [show min r 32 = r by omega, e]
  obtain ⟨y, hy⟩ : ∃ y, 2 ^ r = y := ⟨_, rfl⟩
  rw [hy] at l ⊢
  have l2 : y < 4294967296 := l
  exact ⟨by omega, l2⟩
def inCE (r q : In) : Bool := (((r.op : Nat) : Int) == ((q.op : Nat) : Int)) && (((r.form : Nat) : Int) == ((q.form : Nat) : Int)) && (((r.frm : Nat) : Int) == ((q.frm : Nat) : Int)) && (((r.kind : Nat) : Int) == ((q.kind : Nat) : Int)) && (((r.rd : Nat) : Int) == ((q.rd : Nat) : Int)) && (((r.rs1 : Nat) : Int) == ((q.rs1 : Nat) : Int)) && (((r.rs2 : Nat) : Int) == ((q.rs2 : Nat) : Int)) && (((r.rs3 : Nat) : Int) == ((q.rs3 : Nat) : Int)) && (((r.rm : Nat) : Int) == ((q.rm : Nat) : Int)) && (r.imm == q.imm) && (((r.csr : Nat) : Int) == ((q.csr : Nat) : Int))
set_option maxRecDepth 100000 in
theorem eqin (r q : In) (w : World) : (Op.equalIn 10000 28 (.agg (inC r)) (.agg (inC q))).run Tryd.prog w = .ok (inCE r q) w := by
  have q0 : ∀ (r : In), (part 23 (inC r) 0).run Tryd.prog w = .ok (.int .u8 ((r.op : Nat) : Int)) w := fun r => by kernel_rfl
  have i0 : (Op.equalIn 9999 23 (.int .u8 ((r.op : Nat) : Int)) (.int .u8 ((q.op : Nat) : Int))).run Tryd.prog w = .ok (((r.op : Nat) : Int) == ((q.op : Nat) : Int)) w := run_equalIn_int w 9998 23 .u8 .u8 _ _ Tryd.underlying23
  have n0 : ("Op" = "_") = False := by simp
  have q1 : ∀ (r : In), (part 24 (inC r) 1).run Tryd.prog w = .ok (.int .u8 ((r.form : Nat) : Int)) w := fun r => by kernel_rfl
  have i1 : (Op.equalIn 9999 24 (.int .u8 ((r.form : Nat) : Int)) (.int .u8 ((q.form : Nat) : Int))).run Tryd.prog w = .ok (((r.form : Nat) : Int) == ((q.form : Nat) : Int)) w := run_equalIn_int w 9998 24 .u8 .u8 _ _ Tryd.underlying24
  have n1 : ("Form" = "_") = False := by simp
  have q2 : ∀ (r : In), (part 24 (inC r) 2).run Tryd.prog w = .ok (.int .u8 ((r.frm : Nat) : Int)) w := fun r => by kernel_rfl
  have i2 : (Op.equalIn 9999 24 (.int .u8 ((r.frm : Nat) : Int)) (.int .u8 ((q.frm : Nat) : Int))).run Tryd.prog w = .ok (((r.frm : Nat) : Int) == ((q.frm : Nat) : Int)) w := run_equalIn_int w 9998 24 .u8 .u8 _ _ Tryd.underlying24
  have n2 : ("From" = "_") = False := by simp
  have q3 : ∀ (r : In), (part 25 (inC r) 3).run Tryd.prog w = .ok (.int .u8 ((r.kind : Nat) : Int)) w := fun r => by kernel_rfl
  have i3 : (Op.equalIn 9999 25 (.int .u8 ((r.kind : Nat) : Int)) (.int .u8 ((q.kind : Nat) : Int))).run Tryd.prog w = .ok (((r.kind : Nat) : Int) == ((q.kind : Nat) : Int)) w := run_equalIn_int w 9998 25 .u8 .u8 _ _ Tryd.underlying25
  have n3 : ("Kind" = "_") = False := by simp
  have q4 : ∀ (r : In), (part 5 (inC r) 4).run Tryd.prog w = .ok (.int .u8 ((r.rd : Nat) : Int)) w := fun r => by kernel_rfl
  have i4 : (Op.equalIn 9999 5 (.int .u8 ((r.rd : Nat) : Int)) (.int .u8 ((q.rd : Nat) : Int))).run Tryd.prog w = .ok (((r.rd : Nat) : Int) == ((q.rd : Nat) : Int)) w := run_equalIn_int w 9998 5 .u8 .u8 _ _ Tryd.underlying5
  have n4 : ("Rd" = "_") = False := by simp
  have q5 : ∀ (r : In), (part 5 (inC r) 5).run Tryd.prog w = .ok (.int .u8 ((r.rs1 : Nat) : Int)) w := fun r => by kernel_rfl
  have i5 : (Op.equalIn 9999 5 (.int .u8 ((r.rs1 : Nat) : Int)) (.int .u8 ((q.rs1 : Nat) : Int))).run Tryd.prog w = .ok (((r.rs1 : Nat) : Int) == ((q.rs1 : Nat) : Int)) w := run_equalIn_int w 9998 5 .u8 .u8 _ _ Tryd.underlying5
  have n5 : ("Rs1" = "_") = False := by simp
  have q6 : ∀ (r : In), (part 5 (inC r) 6).run Tryd.prog w = .ok (.int .u8 ((r.rs2 : Nat) : Int)) w := fun r => by kernel_rfl
  have i6 : (Op.equalIn 9999 5 (.int .u8 ((r.rs2 : Nat) : Int)) (.int .u8 ((q.rs2 : Nat) : Int))).run Tryd.prog w = .ok (((r.rs2 : Nat) : Int) == ((q.rs2 : Nat) : Int)) w := run_equalIn_int w 9998 5 .u8 .u8 _ _ Tryd.underlying5
  have n6 : ("Rs2" = "_") = False := by simp
  have q7 : ∀ (r : In), (part 5 (inC r) 7).run Tryd.prog w = .ok (.int .u8 ((r.rs3 : Nat) : Int)) w := fun r => by kernel_rfl
  have i7 : (Op.equalIn 9999 5 (.int .u8 ((r.rs3 : Nat) : Int)) (.int .u8 ((q.rs3 : Nat) : Int))).run Tryd.prog w = .ok (((r.rs3 : Nat) : Int) == ((q.rs3 : Nat) : Int)) w := run_equalIn_int w 9998 5 .u8 .u8 _ _ Tryd.underlying5
  have n7 : ("Rs3" = "_") = False := by simp
  have q8 : ∀ (r : In), (part 5 (inC r) 8).run Tryd.prog w = .ok (.int .u8 ((r.rm : Nat) : Int)) w := fun r => by kernel_rfl
  have i8 : (Op.equalIn 9999 5 (.int .u8 ((r.rm : Nat) : Int)) (.int .u8 ((q.rm : Nat) : Int))).run Tryd.prog w = .ok (((r.rm : Nat) : Int) == ((q.rm : Nat) : Int)) w := run_equalIn_int w 9998 5 .u8 .u8 _ _ Tryd.underlying5
  have n8 : ("Rm" = "_") = False := by simp
  have q9 : ∀ (r : In), (part 26 (inC r) 9).run Tryd.prog w = .ok (.int .i16 r.imm) w := fun r => by kernel_rfl
  have i9 : (Op.equalIn 9999 26 (.int .i16 r.imm) (.int .i16 q.imm)).run Tryd.prog w = .ok (r.imm == q.imm) w := run_equalIn_int w 9998 26 .i16 .i16 _ _ Tryd.underlying26
  have n9 : ("Imm" = "_") = False := by simp
  have q10 : ∀ (r : In), (part 5 (inC r) 10).run Tryd.prog w = .ok (.int .u8 ((r.csr : Nat) : Int)) w := fun r => by kernel_rfl
  have i10 : (Op.equalIn 9999 5 (.int .u8 ((r.csr : Nat) : Int)) (.int .u8 ((q.csr : Nat) : Int))).run Tryd.prog w = .ok (((r.csr : Nat) : Int) == ((q.csr : Nat) : Int)) w := run_equalIn_int w 9998 5 .u8 .u8 _ _ Tryd.underlying5
  have n10 : ("Csr" = "_") = False := by simp
  have st : Tryd.prog.stoodInHeld 28 = false := by kernel_rfl
  rw [show (10000 : Nat) = 9999 + 1 from rfl]
  unfold Op.equalIn
  simp only [Sem.run_bind, run_underlying Tryd.underlying28, Result.andThen_ok]
  rw [show (Sem.run Tryd.prog program w) = .ok Tryd.prog w from rfl]
  simp only [Result.andThen_ok, st, Bool.false_eq_true, if_false]
  have fo : ∀ (l : List Field) (b : Field → (Option Bool × Unit) → Sem (ForInStep (Option Bool × Unit))), (forIn l.toArray (none, ()) b : Sem (Option Bool × Unit)) = forIn l (none, ()) b := fun l b => by simp
  simp only [fo, List.forIn_cons, List.forIn_nil, ne_eq, n0, n1, n2, n3, n4, n5, n6, n7, n8, n9, n10, not_false_eq_true, if_true]
  unfold inCE
  obtain ⟨b0, h0⟩ : ∃ x, (((r.op : Nat) : Int) == ((q.op : Nat) : Int)) = x := ⟨_, rfl⟩
  rw [h0] at i0
  obtain ⟨b1, h1⟩ : ∃ x, (((r.form : Nat) : Int) == ((q.form : Nat) : Int)) = x := ⟨_, rfl⟩
  rw [h1] at i1
  obtain ⟨b2, h2⟩ : ∃ x, (((r.frm : Nat) : Int) == ((q.frm : Nat) : Int)) = x := ⟨_, rfl⟩
  rw [h2] at i2
  obtain ⟨b3, h3⟩ : ∃ x, (((r.kind : Nat) : Int) == ((q.kind : Nat) : Int)) = x := ⟨_, rfl⟩
  rw [h3] at i3
  obtain ⟨b4, h4⟩ : ∃ x, (((r.rd : Nat) : Int) == ((q.rd : Nat) : Int)) = x := ⟨_, rfl⟩
  rw [h4] at i4
  obtain ⟨b5, h5⟩ : ∃ x, (((r.rs1 : Nat) : Int) == ((q.rs1 : Nat) : Int)) = x := ⟨_, rfl⟩
  rw [h5] at i5
  obtain ⟨b6, h6⟩ : ∃ x, (((r.rs2 : Nat) : Int) == ((q.rs2 : Nat) : Int)) = x := ⟨_, rfl⟩
  rw [h6] at i6
  obtain ⟨b7, h7⟩ : ∃ x, (((r.rs3 : Nat) : Int) == ((q.rs3 : Nat) : Int)) = x := ⟨_, rfl⟩
  rw [h7] at i7
  obtain ⟨b8, h8⟩ : ∃ x, (((r.rm : Nat) : Int) == ((q.rm : Nat) : Int)) = x := ⟨_, rfl⟩
  rw [h8] at i8
  obtain ⟨b9, h9⟩ : ∃ x, (r.imm == q.imm) = x := ⟨_, rfl⟩
  rw [h9] at i9
  obtain ⟨b10, h10⟩ : ∃ x, (((r.csr : Nat) : Int) == ((q.csr : Nat) : Int)) = x := ⟨_, rfl⟩
  rw [h10] at i10
  rw [h0, h1, h2, h3, h4, h5, h6, h7, h8, h9, h10]
  cases b0
  · simp only [Sem.run_bind, Sem.run_pure, Result.andThen_ok, Bool.not_false, Bool.not_true, Bool.false_eq_true, if_false, if_true, Bool.false_and, Bool.true_and, q0, i0]
  cases b1
  · simp only [Sem.run_bind, Sem.run_pure, Result.andThen_ok, Bool.not_false, Bool.not_true, Bool.false_eq_true, if_false, if_true, Bool.false_and, Bool.true_and, q0, i0, q1, i1]
  cases b2
  · simp only [Sem.run_bind, Sem.run_pure, Result.andThen_ok, Bool.not_false, Bool.not_true, Bool.false_eq_true, if_false, if_true, Bool.false_and, Bool.true_and, q0, i0, q1, i1, q2, i2]
  cases b3
  · simp only [Sem.run_bind, Sem.run_pure, Result.andThen_ok, Bool.not_false, Bool.not_true, Bool.false_eq_true, if_false, if_true, Bool.false_and, Bool.true_and, q0, i0, q1, i1, q2, i2, q3, i3]
  cases b4
  · simp only [Sem.run_bind, Sem.run_pure, Result.andThen_ok, Bool.not_false, Bool.not_true, Bool.false_eq_true, if_false, if_true, Bool.false_and, Bool.true_and, q0, i0, q1, i1, q2, i2, q3, i3, q4, i4]
  cases b5
  · simp only [Sem.run_bind, Sem.run_pure, Result.andThen_ok, Bool.not_false, Bool.not_true, Bool.false_eq_true, if_false, if_true, Bool.false_and, Bool.true_and, q0, i0, q1, i1, q2, i2, q3, i3, q4, i4, q5, i5]
  cases b6
  · simp only [Sem.run_bind, Sem.run_pure, Result.andThen_ok, Bool.not_false, Bool.not_true, Bool.false_eq_true, if_false, if_true, Bool.false_and, Bool.true_and, q0, i0, q1, i1, q2, i2, q3, i3, q4, i4, q5, i5, q6, i6]
  cases b7
  · simp only [Sem.run_bind, Sem.run_pure, Result.andThen_ok, Bool.not_false, Bool.not_true, Bool.false_eq_true, if_false, if_true, Bool.false_and, Bool.true_and, q0, i0, q1, i1, q2, i2, q3, i3, q4, i4, q5, i5, q6, i6, q7, i7]
  cases b8
  · simp only [Sem.run_bind, Sem.run_pure, Result.andThen_ok, Bool.not_false, Bool.not_true, Bool.false_eq_true, if_false, if_true, Bool.false_and, Bool.true_and, q0, i0, q1, i1, q2, i2, q3, i3, q4, i4, q5, i5, q6, i6, q7, i7, q8, i8]
  cases b9
  · simp only [Sem.run_bind, Sem.run_pure, Result.andThen_ok, Bool.not_false, Bool.not_true, Bool.false_eq_true, if_false, if_true, Bool.false_and, Bool.true_and, q0, i0, q1, i1, q2, i2, q3, i3, q4, i4, q5, i5, q6, i6, q7, i7, q8, i8, q9, i9]
  cases b10
  · simp only [Sem.run_bind, Sem.run_pure, Result.andThen_ok, Bool.not_false, Bool.not_true, Bool.false_eq_true, if_false, if_true, Bool.false_and, Bool.true_and, q0, i0, q1, i1, q2, i2, q3, i3, q4, i4, q5, i5, q6, i6, q7, i7, q8, i8, q9, i9, q10, i10]
  simp only [Sem.run_bind, Sem.run_pure, Result.andThen_ok, Bool.not_false, Bool.not_true, Bool.false_eq_true, if_false, if_true, Bool.false_and, Bool.true_and, q0, i0, q1, i1, q2, i2, q3, i3, q4, i4, q5, i5, q6, i6, q7, i7, q8, i8, q9, i9, q10, i10]
def usCE (r q : Us) : Bool := (((r.rx : Nat) : Int) == ((q.rx : Nat) : Int)) && (((r.rf : Nat) : Int) == ((q.rf : Nat) : Int)) && (((r.wx : Nat) : Int) == ((q.wx : Nat) : Int)) && (((r.wf : Nat) : Int) == ((q.wf : Nat) : Int))
set_option maxRecDepth 100000 in
theorem equs (r q : Us) (w : World) : (Op.equalIn 10000 33 (.agg (usC r)) (.agg (usC q))).run Tryd.prog w = .ok (usCE r q) w := by
  have q0 : ∀ (r : Us), (part 22 (usC r) 0).run Tryd.prog w = .ok (.int .u32 ((r.rx : Nat) : Int)) w := fun r => by kernel_rfl
  have i0 : (Op.equalIn 9999 22 (.int .u32 ((r.rx : Nat) : Int)) (.int .u32 ((q.rx : Nat) : Int))).run Tryd.prog w = .ok (((r.rx : Nat) : Int) == ((q.rx : Nat) : Int)) w := run_equalIn_int w 9998 22 .u32 .u32 _ _ Tryd.underlying22
  have n0 : ("ReadX" = "_") = False := by simp
  have q1 : ∀ (r : Us), (part 22 (usC r) 1).run Tryd.prog w = .ok (.int .u32 ((r.rf : Nat) : Int)) w := fun r => by kernel_rfl
  have i1 : (Op.equalIn 9999 22 (.int .u32 ((r.rf : Nat) : Int)) (.int .u32 ((q.rf : Nat) : Int))).run Tryd.prog w = .ok (((r.rf : Nat) : Int) == ((q.rf : Nat) : Int)) w := run_equalIn_int w 9998 22 .u32 .u32 _ _ Tryd.underlying22
  have n1 : ("ReadF" = "_") = False := by simp
  have q2 : ∀ (r : Us), (part 22 (usC r) 2).run Tryd.prog w = .ok (.int .u32 ((r.wx : Nat) : Int)) w := fun r => by kernel_rfl
  have i2 : (Op.equalIn 9999 22 (.int .u32 ((r.wx : Nat) : Int)) (.int .u32 ((q.wx : Nat) : Int))).run Tryd.prog w = .ok (((r.wx : Nat) : Int) == ((q.wx : Nat) : Int)) w := run_equalIn_int w 9998 22 .u32 .u32 _ _ Tryd.underlying22
  have n2 : ("WriteX" = "_") = False := by simp
  have q3 : ∀ (r : Us), (part 22 (usC r) 3).run Tryd.prog w = .ok (.int .u32 ((r.wf : Nat) : Int)) w := fun r => by kernel_rfl
  have i3 : (Op.equalIn 9999 22 (.int .u32 ((r.wf : Nat) : Int)) (.int .u32 ((q.wf : Nat) : Int))).run Tryd.prog w = .ok (((r.wf : Nat) : Int) == ((q.wf : Nat) : Int)) w := run_equalIn_int w 9998 22 .u32 .u32 _ _ Tryd.underlying22
  have n3 : ("WriteF" = "_") = False := by simp
  have st : Tryd.prog.stoodInHeld 33 = false := by kernel_rfl
  rw [show (10000 : Nat) = 9999 + 1 from rfl]
  unfold Op.equalIn
  simp only [Sem.run_bind, run_underlying Tryd.underlying33, Result.andThen_ok]
  rw [show (Sem.run Tryd.prog program w) = .ok Tryd.prog w from rfl]
  simp only [Result.andThen_ok, st, Bool.false_eq_true, if_false]
  have fo : ∀ (l : List Field) (b : Field → (Option Bool × Unit) → Sem (ForInStep (Option Bool × Unit))), (forIn l.toArray (none, ()) b : Sem (Option Bool × Unit)) = forIn l (none, ()) b := fun l b => by simp
  simp only [fo, List.forIn_cons, List.forIn_nil, ne_eq, n0, n1, n2, n3, not_false_eq_true, if_true]
  unfold usCE
  obtain ⟨b0, h0⟩ : ∃ x, (((r.rx : Nat) : Int) == ((q.rx : Nat) : Int)) = x := ⟨_, rfl⟩
  rw [h0] at i0
  obtain ⟨b1, h1⟩ : ∃ x, (((r.rf : Nat) : Int) == ((q.rf : Nat) : Int)) = x := ⟨_, rfl⟩
  rw [h1] at i1
  obtain ⟨b2, h2⟩ : ∃ x, (((r.wx : Nat) : Int) == ((q.wx : Nat) : Int)) = x := ⟨_, rfl⟩
  rw [h2] at i2
  obtain ⟨b3, h3⟩ : ∃ x, (((r.wf : Nat) : Int) == ((q.wf : Nat) : Int)) = x := ⟨_, rfl⟩
  rw [h3] at i3
  rw [h0, h1, h2, h3]
  cases b0
  · simp only [Sem.run_bind, Sem.run_pure, Result.andThen_ok, Bool.not_false, Bool.not_true, Bool.false_eq_true, if_false, if_true, Bool.false_and, Bool.true_and, q0, i0]
  cases b1
  · simp only [Sem.run_bind, Sem.run_pure, Result.andThen_ok, Bool.not_false, Bool.not_true, Bool.false_eq_true, if_false, if_true, Bool.false_and, Bool.true_and, q0, i0, q1, i1]
  cases b2
  · simp only [Sem.run_bind, Sem.run_pure, Result.andThen_ok, Bool.not_false, Bool.not_true, Bool.false_eq_true, if_false, if_true, Bool.false_and, Bool.true_and, q0, i0, q1, i1, q2, i2]
  cases b3
  · simp only [Sem.run_bind, Sem.run_pure, Result.andThen_ok, Bool.not_false, Bool.not_true, Bool.false_eq_true, if_false, if_true, Bool.false_and, Bool.true_and, q0, i0, q1, i1, q2, i2, q3, i3]
  simp only [Sem.run_bind, Sem.run_pure, Result.andThen_ok, Bool.not_false, Bool.not_true, Bool.false_eq_true, if_false, if_true, Bool.false_and, Bool.true_and, q0, i0, q1, i1, q2, i2, q3, i3]
end Go.Proofs.YtamlcgmipdcgjaaDoor
namespace Go.Proofs.YtamlcgmipdcgjaaDoor
set_option maxRecDepth 100000
set_option maxHeartbeats 40000000
set_option maxRecDepth 100000
open Go.RowKit WMath
set_option linter.unusedSimpArgs false
set_option linter.unusedVariables false
set_option maxRecDepth 100000 in
set_option maxHeartbeats 8000000 in
theorem dc_lives {T : World → Prop} (FB : Box (∀ {w w' : World}, T w → Below w.heap.size w w' → T w')) (K1 : Box (∀ w, T w → Calls Tryd.prog 9 #[.int .u32 3211475] w fun r w' => r = .returned (.tuple #[.agg (inC (⟨7, 0, 0, 0, 1, 2, 3, 0, 0, 0, 0⟩ : In)), .int .i64 0]) ∧ Below w.heap.size w w')) (K2 : Box (∀ w, T w → Calls Tryd.prog 9 #[.int .u32 4262538791] w fun r w' => r = .returned (.tuple #[.agg (inC (⟨2, 0, 0, 0, 0, 2, 1, 0, 0, (-4), 0⟩ : In)), .int .i64 0]) ∧ Below w.heap.size w w'))  (cc : In) (K3 : Box (∀ w, T w → Calls Tryd.prog 9 #[.int .u32 0] w fun r w' => r = .returned (.tuple #[.agg (inC cc), .int .i64 250]) ∧ Below w.heap.size w w')) (K4 : Box (∀ w, T w → Calls Tryd.prog 11 #[.int .u32 2216179] w fun r w' => r = .returned (.tuple #[.agg (usC (⟨0, 0, 2, 0⟩ : Us)), .int .i64 0]) ∧ Below w.heap.size w w')) (w : World) (hT : T w) : Calls Tryd.prog 13 #[] w fun r w' => r = .returned (.bool true) ∧ Below w.heap.size w w' := by
  have FF := box hT
  clear hT
  have hin := inC_new
  have hun := usC_new
  have he := eqin
  have hu := equs
  have f1 : #[Value.int .u8 7, .int .u8 0, .int .u8 0, .int .u8 0, .int .u8 1, .int .u8 2, .int .u8 3, .int .u8 0, .int .u8 0, .int .i16 0, .int .u8 0] = inC (⟨7, 0, 0, 0, 1, 2, 3, 0, 0, 0, 0⟩ : In) := rfl
  have f2 : #[Value.int .u8 2, .int .u8 0, .int .u8 0, .int .u8 0, .int .u8 0, .int .u8 2, .int .u8 1, .int .u8 0, .int .u8 0, .int .i16 (-4), .int .u8 0] = inC (⟨2, 0, 0, 0, 0, 2, 1, 0, 0, (-4), 0⟩ : In) := rfl
  have f3 : #[Value.int .u32 0, .int .u32 0, .int .u32 2, .int .u32 0] = usC ⟨0, 0, 2, 0⟩ := rfl
  have e1 : inCE (⟨7, 0, 0, 0, 1, 2, 3, 0, 0, 0, 0⟩ : In) (⟨7, 0, 0, 0, 1, 2, 3, 0, 0, 0, 0⟩ : In) = true := by decide
  have e2 : inCE (⟨2, 0, 0, 0, 0, 2, 1, 0, 0, (-4), 0⟩ : In) (⟨2, 0, 0, 0, 0, 2, 1, 0, 0, (-4), 0⟩ : In) = true := by decide
  have e3 : usCE (⟨0, 0, 2, 0⟩ : Us) ⟨0, 0, 2, 0⟩ = true := by decide
  have B0 : Below w.heap.size w w := (Below.refl _ _)
  go_enter Tryd.func13, Tryd.ntmps13
  go_wp2_with fail
  refine (K1.out _ (FB.out FF.out B0)).mono ?_
  rintro r w1 ⟨rfl, b1⟩
  have B1 : Below w.heap.size w w1 := btr B0 b1
  clear b1 B0 
  have S2 := box B1.size
  have Ra_2 := heap_alloc_last w1 (Obj.cells (inC (⟨7, 0, 0, 0, 1, 2, 3, 0, 0, 0, 0⟩ : In)) 28)
  have B2 := btr B1 (bal w1 (Obj.cells (inC (⟨7, 0, 0, 0, 1, 2, 3, 0, 0, 0, 0⟩ : In)) 28))
  clear B1 
  obtain ⟨ca_2_0, ca_2_1, ca_2_2, ca_2_3, ca_2_4, ca_2_5, ca_2_6, ca_2_7, ca_2_8, ca_2_9, ca_2_10⟩ := inC_cells Ra_2
  go_wp2_with fail
  refine (K2.out _ (FB.out FF.out B2)).mono ?_
  rintro r w3 ⟨rfl, b3⟩
  have B3 : Below w.heap.size w w3 := btr B2 b3
  have Ra_3 := heap_of b3 _ _ _ Ra_2
  clear b3 B2 Ra_2 ca_2_0 ca_2_1 ca_2_2 ca_2_3 ca_2_4 ca_2_5 ca_2_6 ca_2_7 ca_2_8 ca_2_9 ca_2_10
  obtain ⟨ca_3_0, ca_3_1, ca_3_2, ca_3_3, ca_3_4, ca_3_5, ca_3_6, ca_3_7, ca_3_8, ca_3_9, ca_3_10⟩ := inC_cells Ra_3
  have S4 := box B3.size
  have La_4 : Box (w1.heap.size < w3.heap.size) := box (Array.getElem?_eq_some_iff.1 Ra_3).1
  have Rb_4 := heap_alloc_last w3 (Obj.cells (inC (⟨2, 0, 0, 0, 0, 2, 1, 0, 0, (-4), 0⟩ : In)) 28)
  have B4 := btr B3 (bal w3 (Obj.cells (inC (⟨2, 0, 0, 0, 0, 2, 1, 0, 0, (-4), 0⟩ : In)) 28))
  have Ra_4 := heap_of (bal w3 (Obj.cells (inC (⟨2, 0, 0, 0, 0, 2, 1, 0, 0, (-4), 0⟩ : In)) 28)) _ _ _ Ra_3
  clear B3 Ra_3 ca_3_0 ca_3_1 ca_3_2 ca_3_3 ca_3_4 ca_3_5 ca_3_6 ca_3_7 ca_3_8 ca_3_9 ca_3_10
  obtain ⟨ca_4_0, ca_4_1, ca_4_2, ca_4_3, ca_4_4, ca_4_5, ca_4_6, ca_4_7, ca_4_8, ca_4_9, ca_4_10⟩ := inC_cells Ra_4
  obtain ⟨cb_4_0, cb_4_1, cb_4_2, cb_4_3, cb_4_4, cb_4_5, cb_4_6, cb_4_7, cb_4_8, cb_4_9, cb_4_10⟩ := inC_cells Rb_4
  go_wp2_with fail
  refine (K3.out _ (FB.out FF.out B4)).mono ?_
  rintro r w5 ⟨rfl, b5⟩
  have B5 : Below w.heap.size w w5 := btr B4 b5
  have Ra_5 := heap_of b5 _ _ _ Ra_4
  have Rb_5 := heap_of b5 _ _ _ Rb_4
  clear b5 B4 Ra_4 ca_4_0 ca_4_1 ca_4_2 ca_4_3 ca_4_4 ca_4_5 ca_4_6 ca_4_7 ca_4_8 ca_4_9 ca_4_10 Rb_4 cb_4_0 cb_4_1 cb_4_2 cb_4_3 cb_4_4 cb_4_5 cb_4_6 cb_4_7 cb_4_8 cb_4_9 cb_4_10
  obtain ⟨ca_5_0, ca_5_1, ca_5_2, ca_5_3, ca_5_4, ca_5_5, ca_5_6, ca_5_7, ca_5_8, ca_5_9, ca_5_10⟩ := inC_cells Ra_5
  obtain ⟨cb_5_0, cb_5_1, cb_5_2, cb_5_3, cb_5_4, cb_5_5, cb_5_6, cb_5_7, cb_5_8, cb_5_9, cb_5_10⟩ := inC_cells Rb_5
  have S6 := box B5.size
  have La_6 : Box (w1.heap.size < w5.heap.size) := box (Array.getElem?_eq_some_iff.1 Ra_5).1
  have Lb_6 : Box (w3.heap.size < w5.heap.size) := box (Array.getElem?_eq_some_iff.1 Rb_5).1
  have Rc_6 := heap_alloc_last w5 (Obj.cells (inC cc) 28)
  have B6 := btr B5 (bal w5 (Obj.cells (inC cc) 28))
  have Ra_6 := heap_of (bal w5 (Obj.cells (inC cc) 28)) _ _ _ Ra_5
  have Rb_6 := heap_of (bal w5 (Obj.cells (inC cc) 28)) _ _ _ Rb_5
  clear B5 Ra_5 ca_5_0 ca_5_1 ca_5_2 ca_5_3 ca_5_4 ca_5_5 ca_5_6 ca_5_7 ca_5_8 ca_5_9 ca_5_10 Rb_5 cb_5_0 cb_5_1 cb_5_2 cb_5_3 cb_5_4 cb_5_5 cb_5_6 cb_5_7 cb_5_8 cb_5_9 cb_5_10
  obtain ⟨ca_6_0, ca_6_1, ca_6_2, ca_6_3, ca_6_4, ca_6_5, ca_6_6, ca_6_7, ca_6_8, ca_6_9, ca_6_10⟩ := inC_cells Ra_6
  obtain ⟨cb_6_0, cb_6_1, cb_6_2, cb_6_3, cb_6_4, cb_6_5, cb_6_6, cb_6_7, cb_6_8, cb_6_9, cb_6_10⟩ := inC_cells Rb_6
  obtain ⟨cc_6_0, cc_6_1, cc_6_2, cc_6_3, cc_6_4, cc_6_5, cc_6_6, cc_6_7, cc_6_8, cc_6_9, cc_6_10⟩ := inC_cells Rc_6
  clear Rc_6 cc_6_0 cc_6_1 cc_6_2 cc_6_3 cc_6_4 cc_6_5 cc_6_6 cc_6_7 cc_6_8 cc_6_9 cc_6_10
  go_wp2_with fail
  refine (K4.out _ (FB.out FF.out B6)).mono ?_
  rintro r w7 ⟨rfl, b7⟩
  have B7 : Below w.heap.size w w7 := btr B6 b7
  have Ra_7 := heap_of b7 _ _ _ Ra_6
  have Rb_7 := heap_of b7 _ _ _ Rb_6
  clear b7 B6 Ra_6 ca_6_0 ca_6_1 ca_6_2 ca_6_3 ca_6_4 ca_6_5 ca_6_6 ca_6_7 ca_6_8 ca_6_9 ca_6_10 Rb_6 cb_6_0 cb_6_1 cb_6_2 cb_6_3 cb_6_4 cb_6_5 cb_6_6 cb_6_7 cb_6_8 cb_6_9 cb_6_10
  obtain ⟨ca_7_0, ca_7_1, ca_7_2, ca_7_3, ca_7_4, ca_7_5, ca_7_6, ca_7_7, ca_7_8, ca_7_9, ca_7_10⟩ := inC_cells Ra_7
  obtain ⟨cb_7_0, cb_7_1, cb_7_2, cb_7_3, cb_7_4, cb_7_5, cb_7_6, cb_7_7, cb_7_8, cb_7_9, cb_7_10⟩ := inC_cells Rb_7
  have S8 := box B7.size
  have La_8 : Box (w1.heap.size < w7.heap.size) := box (Array.getElem?_eq_some_iff.1 Ra_7).1
  have Lb_8 : Box (w3.heap.size < w7.heap.size) := box (Array.getElem?_eq_some_iff.1 Rb_7).1
  have Ru_8 := heap_alloc_last w7 (Obj.cells (usC (⟨0, 0, 2, 0⟩ : Us)) 33)
  have B8 := btr B7 (bal w7 (Obj.cells (usC (⟨0, 0, 2, 0⟩ : Us)) 33))
  have Ra_8 := heap_of (bal w7 (Obj.cells (usC (⟨0, 0, 2, 0⟩ : Us)) 33)) _ _ _ Ra_7
  have Rb_8 := heap_of (bal w7 (Obj.cells (usC (⟨0, 0, 2, 0⟩ : Us)) 33)) _ _ _ Rb_7
  clear B7 Ra_7 ca_7_0 ca_7_1 ca_7_2 ca_7_3 ca_7_4 ca_7_5 ca_7_6 ca_7_7 ca_7_8 ca_7_9 ca_7_10 Rb_7 cb_7_0 cb_7_1 cb_7_2 cb_7_3 cb_7_4 cb_7_5 cb_7_6 cb_7_7 cb_7_8 cb_7_9 cb_7_10
  obtain ⟨ca_8_0, ca_8_1, ca_8_2, ca_8_3, ca_8_4, ca_8_5, ca_8_6, ca_8_7, ca_8_8, ca_8_9, ca_8_10⟩ := inC_cells Ra_8
  obtain ⟨cb_8_0, cb_8_1, cb_8_2, cb_8_3, cb_8_4, cb_8_5, cb_8_6, cb_8_7, cb_8_8, cb_8_9, cb_8_10⟩ := inC_cells Rb_8
  obtain ⟨cu_8_0, cu_8_1, cu_8_2, cu_8_3⟩ := usC_cells Ru_8
  go_wp2
  go_ret
  exact ⟨rfl, B8⟩
end Go.Proofs.YtamlcgmipdcgjaaDoor
namespace Go.Proofs.YtamlcgmipdcgjaaDoor
set_option maxRecDepth 100000
set_option maxHeartbeats 40000000
set_option maxRecDepth 100000
open Go.RowKit WMath
set_option linter.unusedSimpArgs false
set_option linter.unusedVariables false
def usZ : Us := ⟨0, 0, 0, 0⟩
def usR (x : Nat) : Us := match fdL x with | some p => usI (dcI p.1 x) | none => usZ
theorem dcR_some {x : Nat} {p : Nm} (h : fdL x = some p) : dcR x = (dcI p.1 x, 0) := by unfold dcR; rw [h]
theorem dcR_none {x : Nat} (h : fdL x = none) : dcR x = (inZ, 250) := by unfold dcR; rw [h]
theorem usR_some {x : Nat} {p : Nm} (h : fdL x = some p) : usR x = usI (dcI p.1 x) := by unfold usR; rw [h]
theorem usR_none {x : Nat} (h : fdL x = none) : usR x = usZ := by unfold usR; rw [h]
theorem lv25a : dcR 3211475 = (⟨7, 0, 0, 0, 1, 2, 3, 0, 0, 0, 0⟩, 0) := by decide +kernel
theorem lv25b : dcR 4262538791 = (⟨2, 0, 0, 0, 0, 2, 1, 0, 0, (-4), 0⟩, 0) := by decide +kernel
theorem lv25c : dcR 0 = (inZ, 250) := by decide +kernel
theorem lv25d : (usR 2216179).rx = 0 ∧ (usR 2216179).rf = 0 ∧ (usR 2216179).wx = 2 ∧ (usR 2216179).wf = 0 ∧ (dcR 2216179).2 = 0 := by decide +kernel
theorem us_ext {a b : Us} (h1 : a.rx = b.rx) (h2 : a.rf = b.rf) (h3 : a.wx = b.wx) (h4 : a.wf = b.wf) : a = b := by
  cases a; cases b; simp_all
theorem lives25 {T : World → Prop} (FB : Box (∀ {w w' : World}, T w → Below w.heap.size w w' → T w')) (CD : ∀ x : Nat, x < 4294967296 → Box (∀ w, T w → Calls Tryd.prog 9 #[.int .u32 (x : Nat)] w fun r w' => r = .returned (.tuple #[.agg (inC (dcR x).1), .int .i64 (dcR x).2]) ∧ Below w.heap.size w w')) (CU : ∀ x : Nat, x < 4294967296 → Box (∀ w, T w → Calls Tryd.prog 11 #[.int .u32 (x : Nat)] w fun r w' => r = .returned (.tuple #[.agg (usC (usR x)), .int .i64 (dcR x).2]) ∧ Below w.heap.size w w')) (w : World) (hT : T w) : Calls Tryd.prog 13 #[] w fun r w' => r = .returned (.bool true) ∧ Below w.heap.size w w' := by
  have F1 := CD 3211475 (by decide)
  have F2 := CD 4262538791 (by decide)
  have F3 := CD 0 (by decide)
  have F4 := CU 2216179 (by decide)
  obtain ⟨d1, d2, d3, d4, d5⟩ := lv25d
  have du : usR 2216179 = ⟨0, 0, 2, 0⟩ := us_ext d1 d2 d3 d4
  rw [lv25a] at F1
  rw [lv25b] at F2
  rw [lv25c] at F3
  rw [du, d5] at F4
  exact dc_lives FB F1 F2 inZ F3 F4 w hT
theorem sg_bnd {a : Nat} (h : a < 4096) : -2048 ≤ sg12 a ∧ sg12 a ≤ 2047 := by
  unfold sg12
  split <;> omega
theorem in_bnd {x : Nat} (hx : x < 4294967296) {p : Nm} (h : fdL x = some p) : ∃ i, dcI p.1 x = i ∧ 1 ≤ i.op ∧ i.op ≤ 31 ∧ i.form < 4 ∧ i.frm < 4 ∧ i.kind < 4 ∧ i.rd < 32 ∧ i.rs1 < 32 ∧ i.rs2 < 32 ∧ i.rs3 < 32 ∧ i.rm < 8 ∧ i.rm ≠ 5 ∧ i.rm ≠ 6 ∧ -2048 ≤ i.imm ∧ i.imm ≤ 2047 ∧ i.csr ≤ 3 := by
  obtain ⟨hm, hf⟩ := fd_mem h
  obtain ⟨l1, l9, o1, o31, f4, g4, k4⟩ := lay24 hm
  refine ⟨_, rfl, o1, o31, f4, g4, k4, ?_⟩
  unfold fitsL at hf
  simp only [Bool.and_eq_true, Bool.not_eq_true', Bool.or_eq_true, decide_eq_true_eq, Bool.and_eq_false_iff, decide_eq_false_iff_not] at hf
  obtain ⟨⟨_, hr⟩, hc⟩ := hf
  have a1 : fld x 7 5 < 32 := fld_lt x 7 5
  have a2 : fld x 15 5 < 32 := fld_lt x 15 5
  have a3 : fld x 20 5 < 32 := fld_lt x 20 5
  have a4 : fld x 27 5 < 32 := fld_lt x 27 5
  have a5 : fld x 12 3 = x / 4096 % 8 := rfl
  have a6 : fld x 20 12 = x / 1048576 % 4096 := rfl
  have a7 : fld x 25 7 < 128 := fld_lt x 25 7
  have a8 : fld x 20 12 < 4096 := fld_lt x 20 12
  have s1 := sg_bnd a8
  have s2 : -2048 ≤ sg12 (32 * fld x 25 7 + fld x 7 5) ∧ sg12 (32 * fld x 25 7 + fld x 7 5) ≤ 2047 := sg_bnd (by omega)
  unfold dcI
  dsimp only
  refine ⟨?_, a2, ?_, ?_, ?_, ?_, ?_, ?_, ?_, ?_⟩
  · split <;> omega
  · split <;> omega
  · split <;> omega
  · split <;> omega
  · split <;> omega
  · split <;> omega
  · split
    · exact s1.1
    · split
      · exact s2.1
      · decide
  · split
    · exact s1.2
    · split
      · exact s2.2
      · decide
  · split <;> omega
end Go.Proofs.YtamlcgmipdcgjaaDoor
