/-
  What the functions that the statement reaches return: part 5 (DI, DJ, DK, DL, DM).
-/
import Derived.Deep.RegionWith
import Derived.Laws.IdiomStrings
import Derived.Lib.AppendStr
import Derived.Test.YtfdhglllmhggkaaDoorOa04
namespace Go.Proofs.YtfdhglllmhggkaaDoor
set_option maxRecDepth 100000
set_option maxHeartbeats 40000000
set_option maxRecDepth 100000
open Go.RowKit Go.Shelf WMath
set_option linter.unusedVariables false
set_option linter.unusedSimpArgs false
def leadsP (k x : Nat) : Bool := decide (x % 128 = (plN k).opc) && (decide ((cutF (x &&& fxN (plN k).lay)).rs3 = (plN k).rs3) && (decide ((cutF (x &&& fxN (plN k).lay)).rm = (plN k).rm) || (decide ((plN k).lay = 1) || decide ((plN k).lay = 2))))
theorem k_leads (k x : Nat) (hk : k < 32) (hx : x < 4294967296) : Box (∀ w, T24 w → Calls Tryd.prog 30 #[.agg (plV (plB (plN k))), .int .u32 (x : Nat)] w fun r w' => r = .returned (.bool (leadsP k x)) ∧ Below w.heap.size w w') := box (fun w hT => by
  unfold leadsP
  have hf := fxLt (plOk hk).1
  have hy : x &&& fxN (plN k).lay < 4294967296 := Nat.lt_of_le_of_lt Nat.and_le_left hx
  by_cases h : x % 128 = (plN k).opc
  · rw [decide_eq_true h, Bool.true_and]
    have hne : (((x % 128 : Nat) : Int) != ((plN k).opc : Nat)) = false := by rw [bne, beqN24, decide_eq_true h]; rfl
    exact t_leads_y (plB (plN k)) x (x &&& fxN (plN k).lay) (fxN (plN k).lay) (fdB (cutF x)) (fdB (cutF (x &&& fxN (plN k).lay))) _ _ _ rfl (plOk hk).1 hne (and32t x _ hx hf) (beqN24 _ _) (beqN24 _ _) (box (fun w => t_cut x hx _ rfl w)) (box (fun w => t_cut _ hy _ rfl w)) (k_isMem k) w hT
  · rw [decide_eq_false h, Bool.false_and]
    have hne : (((x % 128 : Nat) : Int) != ((plN k).opc : Nat)) = true := by rw [bne, beqN24, decide_eq_false h]; rfl
    exact t_leads_n (plB (plN k)) x (fdB (cutF x)) hne (box (fun w => t_cut x hx _ rfl w)) w)
theorem fd_all : ((List.range 32).all fun k => (rwsO k).all fun r => decide (r.mask = fxN (plN k).lay ∧ r.mtch &&& r.mask = r.mtch ∧ r.mask % 128 = 127 ∧ r.mtch % 128 = (plN k).opc ∧ (cutF r.mtch).rs3 = (plN k).rs3 ∧ ((cutF r.mtch).rm = (plN k).rm ∨ (plN k).lay = 1 ∨ (plN k).lay = 2) ∧ lastR (rwsO k) (keyR r) = some r)) = true := by decide +kernel
theorem fd_row {k x : Nat} {r : Rw} (hk : k < 32) (hr : r ∈ rwsO k) (hf : fitsL r x = true) : leadsP k x = true ∧ lastR (rwsO k) (fdB (cutF (x &&& fxN (plN k).lay))) = some r := by
  obtain ⟨h1, h2, h3, h4, h5, h6, h7⟩ := of_decide_eq_true (List.all_eq_true.1 (List.all_eq_true.1 fd_all k (List.mem_range.2 hk)) r hr)
  have hm : x &&& r.mask = r.mtch := by
    unfold fitsL at hf
    simp only [Bool.and_eq_true, decide_eq_true_eq] at hf
    rw [hf.1.1, h2]
  rw [← h1, hm]
  refine ⟨?_, h7⟩
  unfold leadsP
  rw [← h1, hm, decide_eq_true h5, Bool.true_and]
  have hx : x % 128 = (plN k).opc := by
    have q : (x &&& r.mask) % 2 ^ 7 = x % 2 ^ 7 &&& r.mask % 2 ^ 7 := Nat.and_mod_two_pow
    rw [hm] at q
    have q1 : r.mask % 2 ^ 7 = 2 ^ 7 - 1 := h3
    rw [q1, Nat.and_two_pow_sub_one_eq_mod] at q
    have q2 : r.mtch % 2 ^ 7 = x % 2 ^ 7 % 2 ^ 7 := q
    have q3 : r.mtch % 128 = x % 128 % 128 := q2
    omega
  rw [decide_eq_true hx, Bool.true_and]
  rcases h6 with h | h | h <;> simp [h]
theorem preR_mem {k : Nat} {r : Rw} (hk : k ≤ 32) (h : r ∈ preR k) : ∃ p ∈ allL, p.1 = r := by
  have q : r ∈ preR 32 := (fm_pre rwsO (range_pre hk)).subset h
  rw [preR_all] at q
  obtain ⟨p, hp, e⟩ := List.mem_map.1 q
  exact ⟨p, hp, e⟩
theorem one_fit24 {x : Nat} {p q : Nm} (hp : p ∈ allL) (hq : q ∈ allL) (h1 : fitsL p.1 x = true) (h2 : fitsL q.1 x = true) : p.1 = q.1 := by
  obtain ⟨j, hj⟩ := List.mem_iff_getElem?.1 hp
  obtain ⟨k, hk⟩ := List.mem_iff_getElem?.1 hq
  have e := one24 hj hk h1 h2
  subst e
  rw [hj] at hk
  cases hk
  rfl
theorem res_rb {fn : Func} {z y : Tmp} (h : fn.results = #[.cell z 36, .tmp y]) {tmps : Array Value} {w : World} {b : Nat} {r : Rw} {v : Bool} {T : TypeId} (hz : tmps.getD z undef = .pointer (some ⟨b, 0, none⟩)) (hy : tmps.getD y undef = .bool v)
    (hr : w.heap[b]? = some (.cells (rwC r) T)) : (results fn tmps).run Tryd.prog w = .ok (.tuple #[.agg (rwC r), .bool v]) w := by
  have q := rwC_lv hr
  have hz2 : tmps[z]?.getD undef = .pointer (some ⟨b, 0, none⟩) := by rw [← Array.getD_eq_getD_getElem?]; exact hz
  have hy2 : tmps[y]?.getD undef = .bool v := by rw [← Array.getD_eq_getD_getElem?]; exact hy
  simp [results, h, hz2, hy2, asAddr, q, Result.andThen]
theorem fdk_some {x : Nat} {p : Nm} (hp : p ∈ allL) (hf : fitsL p.1 x = true) : ∃ s, fdL x = some (p.1, s) := by
  unfold fdL fstL
  cases z : allL.find? (fun p => fitsL p.1 x) with
  | none => exact absurd hf (by have := List.find?_eq_none.1 z p hp; simpa using this)
  | some q =>
    have hq := List.find?_some z
    have hm := List.mem_of_find?_eq_some z
    obtain ⟨q1, q2⟩ := q
    have e : q1 = p.1 := one_fit24 hm hp hq hf
    exact ⟨q2, by rw [e]⟩
theorem fdk_none {x : Nat} (h : ∀ r ∈ preR 32, fitsL r x = false) : fdL x = none := by
  unfold fdL fstL
  refine List.find?_eq_none.2 (fun p hp => ?_)
  rw [h p.1 (by rw [preR_all]; exact List.mem_map.2 ⟨p, hp, rfl⟩)]
  decide
theorem cut7i {G C : Prop} (h : G → C) (k : G) : C := h k
structure FdK (w : World) (r : Rw) (V : World) : Prop where
  b : Below w.heap.size w V
  z : V.heap[w.heap.size]? = some (.cells (rwC r) 36)
theorem FdK.below {w : World} {r : Rw} {V V' : World} (h : FdK w r V) (b : Below V.heap.size V V') : FdK w r V' := ⟨h.b.trans (b.mono h.b.size), heap_of b _ _ _ h.z⟩
set_option maxRecDepth 100000 in
set_option maxHeartbeats 8000000 in
theorem t_find (x : Nat) (hx : x < 4294967296) (hE : ∀ args w, (callFunc 33 args).run Tryd.prog w = .ok (.enter 33 args) w) (rr : Rw) (ok : Bool) (hv : (rr, ok) = ((ndO (fdL x)).1, (fdL x).isSome)) (w : World) (hT : T24 w) : Calls Tryd.prog 15 #[.int .u32 (x : Nat)] w fun r w' => r = .returned (.tuple #[.agg (rwC rr), .bool ok]) ∧ Below w.heap.size w w' := by
  have FF := box hT
  have HV := box hv
  have HX := box hx
  clear hv
  have B0 := bal w (.cells #[.int .u8 0, .int .u8 0, .int .u8 0, .int .u8 0, .int .u32 0, .int .u32 0, .int .u8 0] 36)
  have R0 := last7 w (.cells #[.int .u8 0, .int .u8 0, .int .u8 0, .int .u8 0, .int .u32 0, .int .u32 0, .int .u8 0] 36)
  have I0 : FdK w rwZ (w.alloc (.cells #[.int .u8 0, .int .u8 0, .int .u8 0, .int .u8 0, .int .u32 0, .int .u32 0, .int .u8 0] 36)) := ⟨B0, R0⟩
  obtain ⟨_, _, _, b, a, cap, hs, hp⟩ := hT
  have HS : Box (∀ V, Below w.heap.size w V → V.cell? ⟨0, 0, none⟩ = some (.slice (some ⟨b, a, none⟩) 32 cap)) := box (fun V hb => cellB hb hs)
  have HP : Box (∀ V, Below w.heap.size w V → ∀ i, i < 32 → PlAt V b (a + i * 5) (plB (plN i))) := box (fun V hb i hi => let h := hp i hi; ⟨cellB hb h.1, cellB hb h.2.1, cellB hb h.2.2.1, cellB hb h.2.2.2.1, cellB hb h.2.2.2.2⟩)
  have hs0 := HS.out _ B0
  clear hs hp B0 R0
  go_enter Tryd.func15, Tryd.ntmps15
  go_wp2
  go_loopw [8] (fun kv wr => ∃ (k : Nat) (q : Rw), k ≤ 32 ∧ kv = .int .i64 (k : Int) ∧ FdK w q wr ∧ Box (∀ r ∈ preR k, fitsL r x = false)) (fun kv _ => 32 - (intOf kv).toNat)
  case atStart => exact ⟨0, rwZ, by omega, rfl, I0, box (fun r h => by cases h)⟩
  case round =>
    clear I0 hs0
    obtain ⟨k, q, hk, rfl, HI, HN⟩ := hrel
    obtain ⟨wo, rfl⟩ : ∃ wo, wo = wr := ⟨_, rfl⟩
    by_cases hlt : k < 32
    case neg =>
      have ke : k = 32 := by omega
      subst ke
      have hv := HV.out
      rw [fdk_none HN.out] at hv
      obtain ⟨rfl, rfl⟩ := hv
      have hzf := rwz_fold
      have hst := rwC_storeG (r := rwZ) HI.z rfl
      have rz := setRow_row (c' := rwC rwZ) HI.z
      have bz : Below w.heap.size w (wo.setRow w.heap.size (rwC rwZ)) := Below.setRow HI.b (Nat.le_refl _)
      obtain ⟨VZ, hVZ⟩ : ∃ X, wo.setRow w.heap.size (rwC rwZ) = X := ⟨_, rfl⟩
      rw [hVZ] at hst rz bz
      clear hVZ
      go_wp2
      exact bodyPost_ret (v := .tuple #[.agg (rwC rwZ), .bool false]) (res_rb Tryd.results15 rfl rfl rz) rfl ⟨rfl, bz⟩
    have d1 : decide ((k : Int) < 32) = true := decide_eq_true (by omega)
    have d2 : decide ((32 : Int) ≤ (k : Int)) = false := decide_eq_false (by omega)
    have hw1 : IntKind.i64.wrap ((k : Int) + 1) = ((k + 1 : Nat) : Int) := by rw [IntKind.wrap_i64]; omega
    have w8 : (k : Int) % 256 = (k : Int) := by omega
    have w8b : IntKind.u8.wrap (k : Int) = (k : Int) := by rw [IntKind.wrap_u8]; omega
    obtain ⟨P, hP⟩ : ∃ P, plB (plN k) = P := ⟨_, rfl⟩
    have hpl := HP.out wo HI.b k hlt
    have KL := k_leads k x hlt HX.out
    rw [hP] at hpl KL
    obtain ⟨c0, c1, c2, c3, c4⟩ := hpl
    have hfo := plV_fold P
    have hnew := plV_new
    have HIa := HI.below (bal wo (.cells (plV P) 67))
    have RPa := last7 wo (.cells (plV P) 67)
    obtain ⟨p0, p1, p2, p3, p4⟩ := plV_cells RPa
    go_wp2_with fail
    refine (KL.out _ (t24B FF.out HIa.b)).mono ?_
    rintro r w2 ⟨rfl, b2⟩
    have HI2 := HIa.below b2
    have RP2 := heap_of b2 _ _ _ RPa
    obtain ⟨p0', p1', p2', p3', p4'⟩ := plV_cells RP2
    clear p0 p1 p2 p3 p4 c0 c1 c2 c3 c4 b2 HI HIa RPa hnew
    have HNX := box (preR_next k)
    cases hld : leadsP k x
    · go_wp2
      go_roundw
      case rel => exact ⟨k + 1, q, by omega, by first | rfl | (simp; done) | (simp; omega), HI2, box (fun r hr => by
        rw [HNX.out] at hr
        rcases List.mem_append.1 hr with h | h
        · exact HN.out r h
        · cases hf : fitsL r x
          · rfl
          · rw [(fd_row hlt h hf).1] at hld; cases hld)⟩
      case measure => simp [intOf]; omega
    · go_wp2_with fail
      obtain ⟨Y, hY⟩ : ∃ Y, x &&& fxN (plN k).lay = Y := ⟨_, rfl⟩
      have hYl : Y < 4294967296 := by rw [← hY]; exact Nat.lt_of_le_of_lt Nat.and_le_left HX.out
      obtain ⟨Fk, hFk⟩ : ∃ F, fdB (cutF Y) = F := ⟨_, rfl⟩
      have hFo : FdsOk Fk := by rw [← hFk]; refine ⟨?_, ?_, ?_, ?_, ?_⟩ <;> simp only [fdB, cutF] <;> omega
      have KB : Box (∀ W, T24 W → Calls Tryd.prog 31 #[.int .u8 (k : Nat)] W fun r w' => ∃ b, r = .returned (.map (some b)) ∧ MapR w' b (rwsO k) ∧ Below W.heap.size W w' ∧ W.heap.size ≤ b) := box (fun W h => t_byFields k (by omega) hE W h)
      have KU : Box (∀ W, Calls Tryd.prog 32 #[.int .u32 (Y : Nat)] W fun r w' => r = .returned (.agg (fdC Fk)) ∧ Below W.heap.size W w') := box (fun W => t_cut Y hYl Fk hFk W)
      obtain ⟨rk, hrk⟩ : ∃ r, (lastR (rwsO k) Fk).getD rwZ = r := ⟨_, rfl⟩
      obtain ⟨bk, hbk⟩ : ∃ b, (lastR (rwsO k) Fk).isSome = b := ⟨_, rfl⟩
      have hlay : P.lay < 10 := by rw [← hP]; exact (plOk hlt).1
      have hlay2 : P.lay = (plN k).lay := by rw [← hP]; rfl
      have e1 : decide (((P.lay : Nat) : Int) < 10) = true := decide_eq_true (by omega)
      have e2 : decide ((10 : Int) ≤ ((P.lay : Nat) : Int)) = false := decide_eq_false (by omega)
      have hia : ∀ V : World, (Instr.indexAt 74 (.pointer (some ⟨1, 0, none⟩)) (.int .u8 ((P.lay : Nat) : Int))).run Tryd.prog V = .ok (.pointer (some ⟨1, P.lay, none⟩)) V := fun V => by
        rcases (show P.lay = 0 ∨ P.lay = 1 ∨ P.lay = 2 ∨ P.lay = 3 ∨ P.lay = 4 ∨ P.lay = 5 ∨ P.lay = 6 ∨ P.lay = 7 ∨ P.lay = 8 ∨ P.lay = 9 by omega) with h | h | h | h | h | h | h | h | h | h <;> rw [h] <;> kernel_rfl
      have hM : bits .and .u32 (x : Int) ((fxN P.lay : Nat) : Int) = (Y : Nat) := by rw [hlay2, and32t x _ HX.out (fxLt (by omega)), hY]
      have HFx : Box (∀ V2, Below w2.heap.size w2 V2 → (V2.cell? ⟨1, P.lay, none⟩ = some (.int .u32 (fxN P.lay : Nat)) ∧ V2.cell? ⟨wo.heap.size, 4, none⟩ = some (.int .u8 (P.lay : Nat)) ∧ T24 V2) ∧ (storeCells ⟨w.heap.size, 0, none⟩ (rwC rk).toList 0).run Tryd.prog V2 = .ok () (V2.setRow w.heap.size (rwC rk)) ∧ FdK w rk (V2.setRow w.heap.size (rwC rk))) := box (fun V2 b2 => by
        have h2 := HI2.below b2
        have t2 := t24B FF.out h2.b
        obtain ⟨_, _, _, _, q4⟩ := plV_cells (heap_of b2 _ _ _ RP2)
        exact ⟨⟨t2.fx _ hlay, q4, t2⟩, rwC_storeG (r := rk) h2.z rfl, ⟨Below.setRow h2.b (Nat.le_refl _), setRow_row h2.z⟩⟩)
      have HMk : Box (∀ V2 bm, MapR V2 bm (rwsO k) → (Instr.lookup 69 (.map (some bm)) (.agg (fdC Fk)) true).run Tryd.prog V2 = .ok (.tuple #[.agg (rwC rk), .bool bk]) V2) := box (fun V2 bm hm => by rw [hm.look Fk hFo, hrk, hbk])
      obtain ⟨⟨f0, f1, ft⟩, f2, f3⟩ := HFx.out w2 (Below.refl _ _)
      have HLR : Box (∀ r ∈ rwsO k, fitsL r x = true → bk = true ∧ rk = r) := box (fun r hr hf => by
        have q := (fd_row hlt hr hf).2
        rw [hY, hFk] at q
        rw [q] at hrk hbk
        exact ⟨hbk.symm, hrk.symm⟩)
      have HRK : Box (bk = true → rk ∈ rwsO k) := box (fun h => by
        rw [h] at hbk
        obtain ⟨r9, h9⟩ := Option.isSome_iff_exists.1 hbk
        rw [h9] at hrk
        obtain rfl : r9 = rk := hrk
        have := List.mem_of_find?_eq_some h9
        exact List.mem_reverse.1 this)
      clear hY hYl hFk hFo hrk hbk hlay2 hld HI2 RP2 p0' p1' p2' p3' p4' hfo
      apply cut7i
      · intro key
        have bq : Below w2.heap.size w2 w2.drew := (Below.refl _ _).drew
        have ftq : T24 w2.drew := t24B ft bq
        have hrs : (rwC rk).size = 7 := rfl
        go_region_with (first
          | (go_at_call 31; refine (KB.out _ ftq).mono ?_; rintro r wq ⟨bm, rfl, mp, bz, _⟩; have bq := bq.trans (bz.mono bq.size); obtain ⟨⟨f0, f1, ftq⟩, f2, f3⟩ := HFx.out wq bq; have lk := HMk.out wq bm mp)
          | (go_at_call 32; refine (KU.out _).mono ?_; rintro r wq ⟨rfl, bz⟩; have bq := bq.trans (bz.mono bq.size); obtain ⟨⟨f0, f1, ftq⟩, f2, f3⟩ := HFx.out wq bq; (first | (have mp := mp.below bz; have lk := HMk.out wq bm mp) | skip))
          | fail)
        all_goals
          clear f2
          obtain ⟨W9, hW9⟩ : ∃ X, wq.setRow w.heap.size (rwC rk) = X := ⟨_, rfl⟩
          rw [hW9] at f3 ⊢
          clear hW9
          obtain ⟨vm, hvm⟩ : ∃ v, Value.map (some bm) = v := ⟨_, rfl⟩
          rw [hvm]
          clear hvm
          revert W9 vm
          exact key
      · intro W9 f3 vm
        clear f0 f1 ft f2
        obtain ⟨x0, x1, x2, x3, x4, x5, x6⟩ := rwC_cells f3.z
        have hfr := rwC_fold rk
        have no : (bk = true → fitsL rk x = false) → ∀ r ∈ preR (k + 1), fitsL r x = false := fun h r hr => by
          rw [HNX.out] at hr
          rcases List.mem_append.1 hr with h1 | h1
          · exact HN.out r h1
          · cases hf : fitsL r x
            · rfl
            · obtain ⟨g1, g2⟩ := HLR.out r h1 hf
              have := h g1
              rw [g2, hf] at this
              cases this
        have NO := box no
        clear no
        cases hb : bk
        · go_wp2
          go_roundw
          case rel => exact ⟨k + 1, rk, by omega, by first | rfl | (simp; done) | (simp; omega), f3, box (NO.out (fun h => by rw [hb] at h; cases h))⟩
          case measure => simp [intOf]; omega
        · have hmem := HRK.out hb
          obtain ⟨pp, hpp, hpe⟩ := preR_mem (k := k + 1) (by omega) (show rk ∈ preR (k + 1) by rw [HNX.out]; exact List.mem_append_right _ hmem)
          have hok := ok24 hpp
          rw [hpe] at hok
          have KF := k_fits rk hok.2.2.2.2.1 hok.2.2.2.2.2.1 x HX.out
          have HPP := box hpp
          have HPE := box hpe
          clear hmem hpp hpe hok
          go_wp2_with fail
          refine (KF.out _).mono ?_
          rintro r w10 ⟨rfl, b10⟩
          have f10 := f3.below b10
          clear x0 x1 x2 x3 x4 x5 x6
          obtain ⟨x0, x1, x2, x3, x4, x5, x6⟩ := rwC_cells f10.z
          cases hff : fitsL rk x
          · go_wp2
            go_roundw
            case rel => exact ⟨k + 1, rk, by omega, by first | rfl | (simp; done) | (simp; omega), f10, box (NO.out (fun _ => hff))⟩
            case measure => simp [intOf]; omega
          · have hv := HV.out
            obtain ⟨s9, hs9⟩ := fdk_some HPP.out (by rw [HPE.out]; exact hff)
            rw [hs9, HPE.out] at hv
            obtain ⟨rfl, rfl⟩ := hv
            have hst := rwC_storeG (r := rk) f10.z rfl
            have rz := setRow_row (c' := rwC rk) f10.z
            have bz : Below w.heap.size w (w10.setRow w.heap.size (rwC rk)) := Below.setRow f10.b (Nat.le_refl _)
            obtain ⟨VZ, hVZ⟩ : ∃ X, w10.setRow w.heap.size (rwC rk) = X := ⟨_, rfl⟩
            rw [hVZ] at hst rz bz
            clear hVZ
            go_wp2
            exact bodyPost_ret (v := .tuple #[.agg (rwC rk), .bool true]) (res_rb Tryd.results15 rfl rfl rz) rfl ⟨rfl, bz⟩
def exB (r : Rw) (c : UInt8) : List UInt8 := if isMk c.toNat then partP c.toNat r else [c]
def nameB (r : Rw) : List UInt8 := (plN r.op).nm.flatMap (exB r)
theorem name_all : (allL.all fun p => decide (nameB p.1 = p.2 ∧ p.1.op < 32 ∧ p.1.form < 4 ∧ p.1.frm < 4 ∧ p.1.kind < 4)) = true := by decide +kernel
theorem marks_all : ((List.range 32).all fun o => (plN o).nm.all fun c => decide (isMk c.toNat = true → c.toNat = 70 ∨ c.toNat = 71 ∨ c.toNat = 77 ∨ c.toNat = 75) && decide ((plN o).nm.length ≤ 8)) = true := by decide +kernel
theorem len_all : ((List.range 32).all fun o => decide ((plN o).nm.length ≤ 8)) = true := by decide +kernel
theorem k_part (c : Nat) (q : Rw) (hc : c = 70 ∨ c = 71 ∨ c = 77 ∨ c = 75) (h1 : q.form < 4) (h2 : q.frm < 4) (h3 : q.kind < 4) : Box (∀ w, T24 w → Calls Tryd.prog 42 #[.int .u8 (c : Nat), .agg (rwC q)] w fun r w' => r = .returned (.string ⟨(partP c q).toArray⟩) ∧ Below w.heap.size w w') := box (fun w hT => by
  rcases hc with rfl | rfl | rfl | rfl
  · exact t_partF q h1 w
  · exact t_partG q h2 w
  · exact t_partM q h1 w
  · exact t_partK q h3 w hT)
def bcs (L : List UInt8) : List Value := L.map fun b => Value.int .u8 (b.toNat : Int)
theorem bcs_app (L M : List UInt8) : bcs (L ++ M) = bcs L ++ bcs M := by simp [bcs]
theorem bcs_str (L : List UInt8) : Go.Lib.strCells ⟨L.toArray⟩ = bcs L := by simp [Go.Lib.strCells, bcs]
theorem part_len (c : Nat) (q : Rw) : (partP c q).length ≤ 2 := by
  unfold partP
  split
  · unfold letL; repeat' split
    all_goals decide
  · split
    · unfold letL; repeat' split
      all_goals decide
    · split
      · unfold szL; repeat' split
        all_goals decide
      · unfold knL; repeat' split
        all_goals decide
theorem ex_len (q : Rw) (c : UInt8) : (exB q c).length ≤ 2 := by
  unfold exB
  split
  · exact part_len _ _
  · simp
theorem exs_len (q : Rw) (l : List UInt8) : (l.flatMap (exB q)).length ≤ 2 * l.length := by
  induction l with
  | nil => simp
  | cons c l ih =>
    rw [List.flatMap_cons, List.length_append, List.length_cons]
    have := ex_len q c
    omega
theorem cell_same24 {V V' : World} {g i : Nat} (h : V'.heap[g]? = V.heap[g]?) : V'.cell? ⟨g, i, none⟩ = V.cell? ⟨g, i, none⟩ := by
  simp only [World.cell?, h]
structure NmK (w : World) (q : Rw) (g : Nat) (nm : List UInt8) (v : Value) (L : List UInt8) (V : World) : Prop where
  b : Below w.heap.size w V
  r : V.heap[w.heap.size]? = some (.cells (rwC q) 36)
  c : ∀ i (h : i < nm.length), V.cell? ⟨g, i, none⟩ = some (.int .u8 (nm[i].toNat : Int))
  l : g < V.heap.size
  o : V.ownsRow (g + 1) 5 1 v L.length (bcs L)
theorem NmK.start {w w1 : World} {q : Rw} {nm : List UInt8} {cp : Nat} (B : Below w.heap.size w w1) (R : w1.heap[w.heap.size]? = some (.cells (rwC q) 36)) : NmK w q w1.heap.size nm (.slice none 0 0) [] (w1.drew.alloc (.cells (bytesRow ⟨nm.toArray⟩ cp) 5 ((bytesRow ⟨nm.toArray⟩ cp).size, (bytesRow ⟨nm.toArray⟩ cp).size + 1))) := by
  have hb : Below w1.heap.size w1 (w1.drew.alloc (.cells (bytesRow ⟨nm.toArray⟩ cp) 5 ((bytesRow ⟨nm.toArray⟩ cp).size, (bytesRow ⟨nm.toArray⟩ cp).size + 1))) := ((Below.refl _ w1).drew).alloc (Nat.le_refl _) _
  have hl : (w1.drew.alloc (.cells (bytesRow ⟨nm.toArray⟩ cp) 5 ((bytesRow ⟨nm.toArray⟩ cp).size, (bytesRow ⟨nm.toArray⟩ cp).size + 1))).heap[w1.heap.size]? = some (.cells (bytesRow ⟨nm.toArray⟩ cp) 5 ((bytesRow ⟨nm.toArray⟩ cp).size, (bytesRow ⟨nm.toArray⟩ cp).size + 1)) := heap_alloc_last w1.drew _
  refine ⟨B.trans (hb.mono B.size), heap_of hb _ _ _ R, fun i hi => ?_, (Array.getElem?_eq_some_iff.1 hl).1, World.ownsRow_nil _ _ _ _⟩
  have hx := bytesRow_at ⟨nm.toArray⟩ cp i (by simpa using hi)
  simp only [World.cell?, hl]
  simpa using hx
theorem NmK.below {w : World} {q : Rw} {g : Nat} {nm : List UInt8} {v : Value} {L : List UInt8} {V V' : World} (h : NmK w q g nm v L V) (b : Below V.heap.size V V') : NmK w q g nm v L V' :=
  ⟨h.b.trans (b.mono h.b.size), heap_of b _ _ _ h.r, fun i hi => cellB b (h.c i hi), Nat.lt_of_lt_of_le h.l b.size, own_below24 h.o b⟩
theorem NmK.str {w : World} {q : Rw} {g : Nat} {nm : List UInt8} {v : Value} {L : List UInt8} {V : World} (h : NmK w q g nm v L V) : (convert 85 9 v).run Tryd.prog V = .ok (.string ⟨L.toArray⟩) V := by
  rcases h.o.2 with ⟨rfl, hn⟩ | ⟨g2, cap, cur, rfl, _⟩
  · have : L = [] := List.length_eq_zero_iff.1 hn
    subst this
    rw [run_convert_bytes_string V 85 9 5 none 0 0 Tryd.underlying85 Tryd.underlying5 Tryd.underlying9]
    rfl
  · refine run_convert_bytes_back V 85 9 5 ⟨g2, 0, none⟩ cap L Tryd.underlying85 Tryd.underlying5 Tryd.underlying9 (fun j hj => ?_)
    exact h.o.cells (g := g2) rfl j _ (by simp [bcs, hj])
theorem NmK.grown {w : World} {q : Rw} {g : Nat} {nm : List UInt8} {v v' : Value} {L L' : List UInt8} {V V' : World} (h : NmK w q g nm v L V) (hg : w.heap.size < g) (gr : V.grownBy V' v.ownBlock) (o : V'.ownsRow (g + 1) 5 1 v' L'.length (bcs L')) : NmK w q g nm v' L' V' := by
  have hne : ∀ k, k < g + 1 → some k ≠ v.ownBlock := fun k hk e => by have := (h.o.lt k e.symm).1; omega
  refine ⟨h.b.grown gr h.b.size (fun k e => by have := (h.o.lt k e).1; omega), (gr.block _ (Array.getElem?_eq_some_iff.1 h.r).1 (hne _ (by omega))).trans h.r, fun i hi => ?_, Nat.lt_of_lt_of_le h.l gr.size, o⟩
  rw [← h.c i hi]
  exact cell_same24 (gr.block g h.l (hne g (by omega)))
set_option maxRecDepth 100000 in
set_option maxHeartbeats 8000000 in
theorem t_nameOf (q : Rw) (hop : q.op < 32) (h1 : q.form < 4) (h2 : q.frm < 4) (h3 : q.kind < 4) (w : World) (hT : T24 w) : Calls Tryd.prog 28 #[.agg (rwC q)] w fun r w' => r = .returned (.string ⟨(nameB q).toArray⟩) ∧ Below w.heap.size w w' := by
  have FF := box hT
  have KP := k_planOf q.op (by omega)
  obtain ⟨nm, hnm⟩ : ∃ l, (plN q.op).nm = l := ⟨_, rfl⟩
  obtain ⟨P, hP⟩ : ∃ P, plB (plN q.op) = P := ⟨_, rfl⟩
  have hPn : P.nm = ⟨nm.toArray⟩ := by rw [← hP, ← hnm]; rfl
  have hlen : nm.length ≤ 8 := by rw [← hnm]; exact of_decide_eq_true (List.all_eq_true.1 len_all q.op (List.mem_range.2 hop))
  have HMK : Box (∀ c ∈ nm, isMk c.toNat = true → c.toNat = 70 ∨ c.toNat = 71 ∨ c.toNat = 77 ∨ c.toNat = 75) := box (fun c hc => by
    have := List.all_eq_true.1 (List.all_eq_true.1 marks_all q.op (List.mem_range.2 hop)) c (by rw [hnm]; exact hc)
    simp only [Bool.and_eq_true, decide_eq_true_eq] at this
    exact this.1)
  have HNB : Box (nameB q = nm.flatMap (exB q)) := box (by unfold nameB; rw [hnm])
  rw [hP] at KP
  have hfl : ∀ V : World, (Instr.field 67 (.agg (plV P)) 0).run Tryd.prog V = .ok (.string ⟨nm.toArray⟩) V := fun V => by rw [← hPn]; kernel_rfl
  have hcv : ∀ V : World, (convert 9 85 (.string ⟨nm.toArray⟩)).run Tryd.prog V = .ok (.slice (some ⟨V.heap.size, 0, none⟩) nm.length (grownCap V nm.length 0 5)) (V.drew.alloc (.cells (bytesRow ⟨nm.toArray⟩ (grownCap V nm.length 0 5)) 5 ((bytesRow ⟨nm.toArray⟩ (grownCap V nm.length 0 5)).size, (bytesRow ⟨nm.toArray⟩ (grownCap V nm.length 0 5)).size + 1))) := fun V => run_bytes_of_string V 9 85 5 ⟨nm.toArray⟩ Tryd.underlying9 Tryd.underlying85 Tryd.underlying5
  clear hT hnm hP hPn
  obtain ⟨Rr_0, B0⟩ := opn1 w (Obj.cells (rwC q) 36)
  go_enter Tryd.func28, Tryd.ntmps28
  obtain ⟨cr_0_0, cr_0_1, cr_0_2, cr_0_3, cr_0_4, cr_0_5, cr_0_6⟩ := rwC_cells Rr_0
  go_wp2_with fail
  refine (KP.out _ (t24B FF.out B0)).mono ?_
  rintro r w1 ⟨rfl, b1⟩
  have B1 : Below w.heap.size w w1 := btr B0 b1
  have Rr_1 := heap_of b1 _ _ _ Rr_0
  clear b1 B0 Rr_0 cr_0_0 cr_0_1 cr_0_2 cr_0_3 cr_0_4 cr_0_5 cr_0_6
  obtain ⟨cr_1_0, cr_1_1, cr_1_2, cr_1_3, cr_1_4, cr_1_5, cr_1_6⟩ := rwC_cells Rr_1
  obtain ⟨cp, hcp⟩ : ∃ c, grownCap w1 nm.length 0 5 = c := ⟨_, rfl⟩
  have hcv1 := hcv w1
  rw [hcp] at hcv1
  have I0 := NmK.start (q := q) (nm := nm) (cp := cp) B1 Rr_1
  have hg1 : w.heap.size < w1.heap.size := (Array.getElem?_eq_some_iff.1 Rr_1).1
  obtain ⟨g, hg⟩ : ∃ g, w1.heap.size = g := ⟨_, rfl⟩
  rw [hg] at hcv1 I0 hg1
  obtain ⟨wb, hwb⟩ : ∃ V, w1.drew.alloc (.cells (bytesRow ⟨nm.toArray⟩ cp) 5 ((bytesRow ⟨nm.toArray⟩ cp).size, (bytesRow ⟨nm.toArray⟩ cp).size + 1)) = V := ⟨_, rfl⟩
  rw [hwb] at hcv1 I0
  clear hwb hcv hcp hg B1 Rr_1 cr_1_0 cr_1_1 cr_1_2 cr_1_3 cr_1_4 cr_1_5 cr_1_6
  go_wp2
  go_loopw [3, 12] (fun vv iv wr => ∃ i : Nat, i ≤ nm.length ∧ iv = .int .i64 (i : Int) ∧ NmK w q g nm vv ((nm.take i).flatMap (exB q)) wr) (fun _ iv _ => nm.length - (intOf iv).toNat)
  case atStart => exact ⟨0, Nat.zero_le _, rfl, I0⟩
  case round =>
    clear I0 hcv1
    obtain ⟨i, hi, rfl, HI⟩ := hrel
    obtain ⟨wo, rfl⟩ : ∃ wo, wo = wr := ⟨_, rfl⟩
    by_cases hlt : i < nm.length
    case neg =>
      have ie : i = nm.length := by omega
      have d1 : decide ((i : Int) < (nm.length : Int)) = false := decide_eq_false (by omega)
      have e : (nm.take i).flatMap (exB q) = nameB q := by rw [HNB.out, ie, List.take_length]
      rw [e] at HI
      have hbk := HI.str
      have HB := HI.b
      clear HI e
      go_wp2
      go_ret
      exact ⟨rfl, HB⟩
    have d1 : decide ((i : Int) < (nm.length : Int)) = true := decide_eq_true (by omega)
    have d2 : decide ((nm.length : Int) ≤ (i : Int)) = false := decide_eq_false (by omega)
    have w1' : IntKind.i64.wrap ((i : Int) + 1) = ((i + 1 : Nat) : Int) := by rw [IntKind.wrap_i64]; omega
    obtain ⟨c, hcE⟩ : ∃ c, nm[i] = c := ⟨_, rfl⟩
    have cg := HI.c i hlt
    have HMc := HMK.out nm[i] (List.getElem_mem hlt)
    have hnx : (nm.take (i + 1)).flatMap (exB q) = (nm.take i).flatMap (exB q) ++ exB q c := by
      rw [List.take_add_one, List.getElem?_eq_getElem hlt, hcE]
      simp
    rw [hcE] at cg HMc
    obtain ⟨L, hL⟩ : ∃ L, (nm.take i).flatMap (exB q) = L := ⟨_, rfl⟩
    have hLl : L.length ≤ 16 := by
      rw [← hL]
      have := exs_len q (nm.take i)
      have := List.length_take_le i nm
      omega
    rw [hL] at HI hnx
    have HNX := box hnx
    clear hcE hnx hL
    have KM := k_isMark c.toNat
    have hcw : c.toNat < 256 := c.toNat_lt
    obtain ⟨i0, hi0, hz0, hz1, hz2⟩ := info_parts (show (Tryd.prog.info? 5).map (fun i => (i.zero, i.size, i.bytes)) = some (some (.int .u8 0), 1, 1) by kernel_rfl)
    go_wp2_with fail
    refine (KM.out _).mono ?_
    rintro r w2 ⟨rfl, b2⟩
    have H2 := HI.below b2
    clear HI cg b2
    cases hmk : isMk c.toNat
    · have he : exB q c = [c] := by unfold exB; rw [hmk]; rfl
      have O2 := H2.o
      go_wp2_with (first | (at_builtin; refine wpList_append_own_at _ rfl _ _ 85 rfl (g + 1) 5 i0 (.int .u8 0) 1 1 Tryd.underlying85 hi0 hz0 hz1 hz2 rfl (by decide) _ _ _ rfl (O2.alloc _) ⟨w2.heap.size, 0, none⟩ 1 1 [Value.int .u8 (c.toNat : Int)] rfl rfl (new_cells24 _ #[Value.int .u8 (c.toNat : Int)] _) (fun u hu => by simp at hu; subst hu; rfl) (by unfold maxLen; omega) (by omega) (by have := H2.l; simp only [size_al]; omega) ?_; intro v9 w6 hown9 hgrow9 hnil9 hblk9) | fail)
      have H6 : NmK w q g nm v9 (L ++ [c]) w6 := (H2.below (bal w2 _)).grown hg1 hgrow9 (by rw [bcs_app, List.length_append]; exact hown9)
      go_roundw
      case rel => exact ⟨i + 1, by omega, by first | rfl | (simp; done) | (simp; omega), by rw [HNX.out, he]; exact H6⟩
      case measure => simp [intOf]; omega
    · have he : exB q c = partP c.toNat q := by unfold exB; rw [hmk]; rfl
      have KQ := k_part c.toNat q (HMc hmk) h1 h2 h3
      obtain ⟨x0, x1, x2, x3, x4, x5, x6⟩ := rwC_cells H2.r
      have hfr := rwC_fold q
      go_wp2_with fail
      refine (KQ.out _ (t24B FF.out H2.b)).mono ?_
      rintro r w3 ⟨rfl, b3⟩
      have H3 := H2.below b3
      have O3 := H3.o
      have hpl := part_len c.toNat q
      clear x0 x1 x2 x3 x4 x5 x6 H2 b3
      obtain ⟨M, hM⟩ : ∃ M, partP c.toNat q = M := ⟨_, rfl⟩
      rw [hM] at hpl he ⊢
      have hsz : (⟨M.toArray⟩ : ByteArray).size = M.length := by simp [ByteArray.size]
      go_wp2_with (first | (at_builtin; refine Go.Lib.wpList_append_own_string _ rfl _ _ 85 9 rfl (g + 1) 5 i0 Tryd.underlying85 Tryd.underlying9 hi0 hz0 hz1 hz2 _ _ _ rfl O3 ⟨M.toArray⟩ rfl (by rw [hsz]; unfold maxLen; omega) (by rw [hsz]; omega) (by have := H3.l; omega) ?_; intro v9 w6 hown9 hgrow9 hnil9) | fail)
      have H6 : NmK w q g nm v9 (L ++ M) w6 := H3.grown hg1 hgrow9 (by rw [bcs_app, List.length_append]; rw [hsz, bcs_str] at hown9; exact hown9)
      go_roundw
      case rel => exact ⟨i + 1, by omega, by first | rfl | (simp; done) | (simp; omega), by rw [HNX.out, he]; exact H6⟩
      case measure => simp [intOf]; omega
theorem rws_flt : ((List.range 32).all fun o => decide (rwsO o = (allL.map (·.1)).filter (fun r => decide (r.op = o)))) = true := by decide +kernel
def NoHead (nm : List UInt8) (s : ByteArray) : Prop := ∃ i, ∃ h : i < nm.length, (∀ j (hj : j < nm.length), j ≤ i → isMk nm[j].toNat = false) ∧ (s.size ≤ i ∨ ∃ hs : i < s.size, s.data[i] ≠ nm[i])
structure HhK (w : World) (g : Nat) (nm : List UInt8) (V : World) : Prop where
  b : Below w.heap.size w V
  c : ∀ i (h : i < nm.length), V.cell? ⟨g, i, none⟩ = some (.int .u8 (nm[i].toNat : Int))
theorem HhK.below {w : World} {g : Nat} {nm : List UInt8} {V V' : World} (h : HhK w g nm V) (b : Below V.heap.size V V') : HhK w g nm V' := ⟨h.b.trans (b.mono h.b.size), fun i hi => cellB b (h.c i hi)⟩
theorem HhK.start {w w1 : World} {nm : List UInt8} {cp : Nat} (B : Below w.heap.size w w1) : HhK w w1.heap.size nm (w1.drew.alloc (.cells (bytesRow ⟨nm.toArray⟩ cp) 5 ((bytesRow ⟨nm.toArray⟩ cp).size, (bytesRow ⟨nm.toArray⟩ cp).size + 1))) := by
  have hb : Below w1.heap.size w1 (w1.drew.alloc (.cells (bytesRow ⟨nm.toArray⟩ cp) 5 ((bytesRow ⟨nm.toArray⟩ cp).size, (bytesRow ⟨nm.toArray⟩ cp).size + 1))) := ((Below.refl _ w1).drew).alloc (Nat.le_refl _) _
  have hl : (w1.drew.alloc (.cells (bytesRow ⟨nm.toArray⟩ cp) 5 ((bytesRow ⟨nm.toArray⟩ cp).size, (bytesRow ⟨nm.toArray⟩ cp).size + 1))).heap[w1.heap.size]? = some (.cells (bytesRow ⟨nm.toArray⟩ cp) 5 ((bytesRow ⟨nm.toArray⟩ cp).size, (bytesRow ⟨nm.toArray⟩ cp).size + 1)) := heap_alloc_last w1.drew _
  refine ⟨B.trans (hb.mono B.size), fun i hi => ?_⟩
  have hx := bytesRow_at ⟨nm.toArray⟩ cp i (by simpa using hi)
  simp only [World.cell?, hl]
  simpa using hx
set_option maxRecDepth 100000 in
set_option maxHeartbeats 8000000 in
theorem t_hasHead (P : PlS) (nm : List UInt8) (s : ByteArray) (hs : s.size ≤ maxLen) (hPn : P.nm = ⟨nm.toArray⟩) (hlen : nm.length ≤ 8) (w : World) : Calls Tryd.prog 29 #[.agg #[.string P.nm, .int .u8 (P.opc : Nat), .int .u8 (P.rs3 : Nat), .int .u8 (P.rm : Nat), .int .u8 (P.lay : Nat)], .string s] w fun r w' => ∃ b : Bool, r = .returned (.bool b) ∧ (b = false → NoHead nm s) ∧ Below w.heap.size w w' := by
  have hcv : ∀ V : World, (convert 9 85 (.string P.nm)).run Tryd.prog V = .ok (.slice (some ⟨V.heap.size, 0, none⟩) nm.length (grownCap V nm.length 0 5)) (V.drew.alloc (.cells (bytesRow ⟨nm.toArray⟩ (grownCap V nm.length 0 5)) 5 ((bytesRow ⟨nm.toArray⟩ (grownCap V nm.length 0 5)).size, (bytesRow ⟨nm.toArray⟩ (grownCap V nm.length 0 5)).size + 1))) := fun V => by rw [hPn]; exact run_bytes_of_string V 9 85 5 ⟨nm.toArray⟩ Tryd.underlying9 Tryd.underlying85 Tryd.underlying5
  clear hPn
  obtain ⟨Rp_0, B0⟩ := opn1 w (Obj.cells #[.string P.nm, .int .u8 (P.opc : Nat), .int .u8 (P.rs3 : Nat), .int .u8 (P.rm : Nat), .int .u8 (P.lay : Nat)] 67)
  go_enter Tryd.func29, Tryd.ntmps29
  have cp_0_0 := cells4 Rp_0 0 _ rfl
  have cp_0_1 := cells4 Rp_0 1 _ rfl
  have cp_0_2 := cells4 Rp_0 2 _ rfl
  have cp_0_3 := cells4 Rp_0 3 _ rfl
  have cp_0_4 := cells4 Rp_0 4 _ rfl
  obtain ⟨cp, hcp⟩ : ∃ c, grownCap (w.alloc (.cells #[.string P.nm, .int .u8 (P.opc : Nat), .int .u8 (P.rs3 : Nat), .int .u8 (P.rm : Nat), .int .u8 (P.lay : Nat)] 67)) nm.length 0 5 = c := ⟨_, rfl⟩
  have hcv1 := hcv (w.alloc (.cells #[.string P.nm, .int .u8 (P.opc : Nat), .int .u8 (P.rs3 : Nat), .int .u8 (P.rm : Nat), .int .u8 (P.lay : Nat)] 67))
  rw [hcp] at hcv1
  have I0 := HhK.start (nm := nm) (cp := cp) B0
  obtain ⟨g, hg⟩ : ∃ g, (w.alloc (.cells #[.string P.nm, .int .u8 (P.opc : Nat), .int .u8 (P.rs3 : Nat), .int .u8 (P.rm : Nat), .int .u8 (P.lay : Nat)] 67)).heap.size = g := ⟨_, rfl⟩
  rw [hg] at hcv1 I0
  obtain ⟨wb, hwb⟩ : ∃ V, (w.alloc (.cells #[.string P.nm, .int .u8 (P.opc : Nat), .int .u8 (P.rs3 : Nat), .int .u8 (P.rm : Nat), .int .u8 (P.lay : Nat)] 67)).drew.alloc (.cells (bytesRow ⟨nm.toArray⟩ cp) 5 ((bytesRow ⟨nm.toArray⟩ cp).size, (bytesRow ⟨nm.toArray⟩ cp).size + 1)) = V := ⟨_, rfl⟩
  rw [hwb] at hcv1 I0
  clear hwb hcv hcp hg B0 Rp_0
  go_wp2
  go_loopw [11] (fun iv wr => ∃ i : Nat, i ≤ nm.length ∧ iv = .int .i64 (i : Int) ∧ HhK w g nm wr ∧ Box (∀ j (hj : j < nm.length), j < i → isMk nm[j].toNat = false)) (fun iv _ => nm.length - (intOf iv).toNat)
  case atStart => exact ⟨0, Nat.zero_le _, rfl, I0, box (fun j hj h => absurd h (by omega))⟩
  case round =>
    clear I0 hcv1 cp_0_0 cp_0_1 cp_0_2 cp_0_3 cp_0_4
    obtain ⟨i, hi, rfl, HI, HN⟩ := hrel
    obtain ⟨wo, rfl⟩ : ∃ wo, wo = wr := ⟨_, rfl⟩
    by_cases hlt : i < nm.length
    case neg =>
      have d1 : decide ((i : Int) < (nm.length : Int)) = false := decide_eq_false (by omega)
      have HB := HI.b
      clear HI
      go_wp2
      go_ret
      exact ⟨true, rfl, fun h => (by cases h), HB⟩
    have d1 : decide ((i : Int) < (nm.length : Int)) = true := decide_eq_true (by omega)
    have d2 : decide ((nm.length : Int) ≤ (i : Int)) = false := decide_eq_false (by omega)
    have w1' : IntKind.i64.wrap ((i : Int) + 1) = ((i + 1 : Nat) : Int) := by rw [IntKind.wrap_i64]; omega
    obtain ⟨c, hcE⟩ : ∃ c, nm[i] = c := ⟨_, rfl⟩
    have cg := HI.c i hlt
    rw [hcE] at cg
    have HCE := box hcE
    clear hcE
    have KM := k_isMark c.toNat
    have hcw : c.toNat < 256 := c.toNat_lt
    go_wp2_with fail
    refine (KM.out _).mono ?_
    rintro r w2 ⟨rfl, b2⟩
    have H2 := HI.below b2
    clear HI cg b2
    cases hmk : isMk c.toNat
    · by_cases hsz : i < s.size
      · have e1 : decide ((s.size : Int) ≤ (i : Int)) = false := decide_eq_false (by omega)
        have e2 : decide ((i : Int) < (s.size : Int)) = true := decide_eq_true (by omega)
        have hix : (Instr.index 9 (.string s) (.int .i64 (i : Int))).run Tryd.prog w2 = .ok (.int .u8 ((s.data[i]'hsz).toNat : Int)) w2 := idx_run s i (i : Int) _ rfl hsz rfl w2
        obtain ⟨d, hd⟩ : ∃ d, s.data[i]'hsz = d := ⟨_, rfl⟩
        rw [hd] at hix
        by_cases hdc : d = c
        · have e3 : ((d.toNat : Int) != (c.toNat : Int)) = false := by rw [hdc]; simp
          go_wp2
          go_roundw
          case rel => exact ⟨i + 1, by omega, by first | rfl | (simp; done) | (simp; omega), H2, box (fun j hj h => by
            by_cases e : j = i
            · subst e; rw [HCE.out]; exact hmk
            · exact HN.out j hj (by omega))⟩
          case measure => simp [intOf]; omega
        · have e3 : ((d.toNat : Int) != (c.toNat : Int)) = true := by
            simp only [bne_iff_ne, ne_eq]
            intro h
            exact hdc (UInt8.toNat_inj.1 (by omega))
          have HB := H2.b
          go_wp2
          go_ret
          exact ⟨false, rfl, fun _ => ⟨i, hlt, fun j hj h => by
            by_cases e : j = i
            · subst e; rw [HCE.out]; exact hmk
            · exact HN.out j hj (by omega), .inr ⟨hsz, by rw [hd, HCE.out]; exact hdc⟩⟩, HB⟩
      · have e1 : decide ((s.size : Int) ≤ (i : Int)) = true := decide_eq_true (by omega)
        have HB := H2.b
        go_wp2
        go_ret
        exact ⟨false, rfl, fun _ => ⟨i, hlt, fun j hj h => by
          by_cases e : j = i
          · subst e; rw [HCE.out]; exact hmk
          · exact HN.out j hj (by omega), .inl (by omega)⟩, HB⟩
    · have HB := H2.b
      go_wp2
      go_ret
      exact ⟨true, rfl, fun h => (by cases h), HB⟩
theorem ofP_of (o f g k : Nat) (h1 : 1 ≤ o) (h2 : o < 32) : (ofR24 o f g k).map (·.1) = ofP o f g k := by
  unfold ofR24 ofP fstL
  rw [if_neg (by omega)]
  have e : rwsO o = (allL.map (·.1)).filter (fun r => decide (r.op = o)) := by
    have := List.all_eq_true.1 rws_flt o (List.mem_range.2 h2)
    exact of_decide_eq_true this
  rw [e, List.find?_filter, List.find?_map]
  congr 2
  funext p
  show ofB o f g k p = _
  simp only [Function.comp]
  rw [Bool.eq_iff_iff]
  unfold ofB ofQ
  simp
  omega
theorem k_of (o f g k : Nat) (ho : o < 256) (hE : ∀ args w, (callFunc 33 args).run Tryd.prog w = .ok (.enter 33 args) w) : Box (∀ w, T24 w → Calls Tryd.prog 21 #[.int .u8 (o : Nat), .int .u8 (f : Nat), .int .u8 (g : Nat), .int .u8 (k : Nat)] w fun r w' => r = .returned (.tuple #[.agg (rwC (ndO (ofR24 o f g k)).1), .int .i64 (erF o f g k)]) ∧ Below w.heap.size w w') := box (fun w hT => by
  by_cases h : o = 0 ∨ 32 ≤ o
  · have e1 : ofR24 o f g k = none := by unfold ofR24; rw [if_pos (by omega)]
    have e2 : erF o f g k = 2 := by unfold erF; rw [if_pos (by omega)]
    rw [e1, e2]
    exact t_of_no o f g k ho h w hT
  · have q := ofP_of o f g k (by omega) (by omega)
    refine t_of_go o f g k ho (by omega) (by omega) _ _ ?_ hE w hT
    have e2 : erF o f g k = erO (ofR24 o f g k) := by unfold erF ofR24; rw [if_neg (by omega), if_neg (by omega)]
    rw [e2]
    cases z : ofR24 o f g k with
    | none => rw [z] at q; rw [← q]; rfl
    | some p => rw [z] at q; rw [← q]; rfl)
theorem of_all : (allL.all fun p => decide (ofR24 p.1.op p.1.form p.1.frm p.1.kind = some p)) = true := by decide +kernel
set_option maxRecDepth 100000 in
set_option maxHeartbeats 8000000 in
theorem t_name_no (q : Rw) (ro : Rw) (er : Int) (he : (er != 0) = true) (KO : Box (∀ w, T24 w → Calls Tryd.prog 21 #[.int .u8 (q.op : Nat), .int .u8 (q.form : Nat), .int .u8 (q.frm : Nat), .int .u8 (q.kind : Nat)] w fun r w' => r = .returned (.tuple #[.agg (rwC ro), .int .i64 er]) ∧ Below w.heap.size w w')) (w : World) (hT : T24 w) : Calls Tryd.prog 12 #[.agg (rwC q)] w fun r w' => r = .returned (.tuple #[.string ⟨#[]⟩, .int .i64 240]) ∧ Below w.heap.size w w' := by
  have FF := box hT
  clear hT
  have hro := rwC_fold ro
  have hrn := rwC_new
  obtain ⟨Rr_0, B0⟩ := opn1 w (Obj.cells (rwC q) 36)
  go_enter Tryd.func12, Tryd.ntmps12
  obtain ⟨cr_0_0, cr_0_1, cr_0_2, cr_0_3, cr_0_4, cr_0_5, cr_0_6⟩ := rwC_cells Rr_0
  go_wp2_with fail
  refine (KO.out _ (t24B FF.out B0)).mono ?_
  rintro r w1 ⟨rfl, b1⟩
  have B1 : Below w.heap.size w w1 := btr B0 b1
  have Rr_1 := heap_of b1 _ _ _ Rr_0
  clear b1 B0 Rr_0 cr_0_0 cr_0_1 cr_0_2 cr_0_3 cr_0_4 cr_0_5 cr_0_6
  obtain ⟨cr_1_0, cr_1_1, cr_1_2, cr_1_3, cr_1_4, cr_1_5, cr_1_6⟩ := rwC_cells Rr_1
  have S2 := box B1.size
  have Lr_2 : Box (w.heap.size < w1.heap.size) := box (Array.getElem?_eq_some_iff.1 Rr_1).1
  have Ra_2 := heap_alloc_last w1 (Obj.cells (rwC ro) 36)
  have B2 := btr B1 (bal w1 (Obj.cells (rwC ro) 36))
  have Rr_2 := heap_of (bal w1 (Obj.cells (rwC ro) 36)) _ _ _ Rr_1
  clear B1 Rr_1 cr_1_0 cr_1_1 cr_1_2 cr_1_3 cr_1_4 cr_1_5 cr_1_6
  obtain ⟨cr_2_0, cr_2_1, cr_2_2, cr_2_3, cr_2_4, cr_2_5, cr_2_6⟩ := rwC_cells Rr_2
  obtain ⟨ca_2_0, ca_2_1, ca_2_2, ca_2_3, ca_2_4, ca_2_5, ca_2_6⟩ := rwC_cells Ra_2
  go_wp2
  go_ret2
  exact ⟨rfl, B2⟩
set_option maxRecDepth 100000 in
set_option maxHeartbeats 8000000 in
theorem t_name_ne (q : Rw) (ro : Rw) (hne : rwE ro q = false) (KO : Box (∀ w, T24 w → Calls Tryd.prog 21 #[.int .u8 (q.op : Nat), .int .u8 (q.form : Nat), .int .u8 (q.frm : Nat), .int .u8 (q.kind : Nat)] w fun r w' => r = .returned (.tuple #[.agg (rwC ro), .int .i64 0]) ∧ Below w.heap.size w w')) (w : World) (hT : T24 w) : Calls Tryd.prog 12 #[.agg (rwC q)] w fun r w' => r = .returned (.tuple #[.string ⟨#[]⟩, .int .i64 240]) ∧ Below w.heap.size w w' := by
  have FF := box hT
  clear hT
  have hrq := rwC_fold q
  have hro := rwC_fold ro
  have hrn := rwC_new
  have heq := eqr ro q
  obtain ⟨Rr_0, B0⟩ := opn1 w (Obj.cells (rwC q) 36)
  go_enter Tryd.func12, Tryd.ntmps12
  obtain ⟨cr_0_0, cr_0_1, cr_0_2, cr_0_3, cr_0_4, cr_0_5, cr_0_6⟩ := rwC_cells Rr_0
  go_wp2_with fail
  refine (KO.out _ (t24B FF.out B0)).mono ?_
  rintro r w1 ⟨rfl, b1⟩
  have B1 : Below w.heap.size w w1 := btr B0 b1
  have Rr_1 := heap_of b1 _ _ _ Rr_0
  clear b1 B0 Rr_0 cr_0_0 cr_0_1 cr_0_2 cr_0_3 cr_0_4 cr_0_5 cr_0_6
  obtain ⟨cr_1_0, cr_1_1, cr_1_2, cr_1_3, cr_1_4, cr_1_5, cr_1_6⟩ := rwC_cells Rr_1
  have S2 := box B1.size
  have Lr_2 : Box (w.heap.size < w1.heap.size) := box (Array.getElem?_eq_some_iff.1 Rr_1).1
  have Ra_2 := heap_alloc_last w1 (Obj.cells (rwC ro) 36)
  have B2 := btr B1 (bal w1 (Obj.cells (rwC ro) 36))
  have Rr_2 := heap_of (bal w1 (Obj.cells (rwC ro) 36)) _ _ _ Rr_1
  clear B1 Rr_1 cr_1_0 cr_1_1 cr_1_2 cr_1_3 cr_1_4 cr_1_5 cr_1_6
  obtain ⟨cr_2_0, cr_2_1, cr_2_2, cr_2_3, cr_2_4, cr_2_5, cr_2_6⟩ := rwC_cells Rr_2
  obtain ⟨ca_2_0, ca_2_1, ca_2_2, ca_2_3, ca_2_4, ca_2_5, ca_2_6⟩ := rwC_cells Ra_2
  go_wp2
  go_ret2
  exact ⟨rfl, B2⟩
set_option maxRecDepth 100000 in
set_option maxHeartbeats 8000000 in
theorem t_name_y (q : Rw) (s : ByteArray) (heE : rwE q q = true) (KO : Box (∀ w, T24 w → Calls Tryd.prog 21 #[.int .u8 (q.op : Nat), .int .u8 (q.form : Nat), .int .u8 (q.frm : Nat), .int .u8 (q.kind : Nat)] w fun r w' => r = .returned (.tuple #[.agg (rwC q), .int .i64 0]) ∧ Below w.heap.size w w')) (KN : Box (∀ w, T24 w → Calls Tryd.prog 28 #[.agg (rwC q)] w fun r w' => r = .returned (.string s) ∧ Below w.heap.size w w')) (w : World) (hT : T24 w) : Calls Tryd.prog 12 #[.agg (rwC q)] w fun r w' => r = .returned (.tuple #[.string s, .int .i64 0]) ∧ Below w.heap.size w w' := by
  have FF := box hT
  clear hT
  have hrq := rwC_fold q
  have hrn := rwC_new
  have heq := eqr q q
  obtain ⟨Rr_0, B0⟩ := opn1 w (Obj.cells (rwC q) 36)
  go_enter Tryd.func12, Tryd.ntmps12
  obtain ⟨cr_0_0, cr_0_1, cr_0_2, cr_0_3, cr_0_4, cr_0_5, cr_0_6⟩ := rwC_cells Rr_0
  go_wp2_with fail
  refine (KO.out _ (t24B FF.out B0)).mono ?_
  rintro r w1 ⟨rfl, b1⟩
  have B1 : Below w.heap.size w w1 := btr B0 b1
  have Rr_1 := heap_of b1 _ _ _ Rr_0
  clear b1 B0 Rr_0 cr_0_0 cr_0_1 cr_0_2 cr_0_3 cr_0_4 cr_0_5 cr_0_6
  obtain ⟨cr_1_0, cr_1_1, cr_1_2, cr_1_3, cr_1_4, cr_1_5, cr_1_6⟩ := rwC_cells Rr_1
  have S2 := box B1.size
  have Lr_2 : Box (w.heap.size < w1.heap.size) := box (Array.getElem?_eq_some_iff.1 Rr_1).1
  have Ra_2 := heap_alloc_last w1 (Obj.cells (rwC q) 36)
  have B2 := btr B1 (bal w1 (Obj.cells (rwC q) 36))
  have Rr_2 := heap_of (bal w1 (Obj.cells (rwC q) 36)) _ _ _ Rr_1
  clear B1 Rr_1 cr_1_0 cr_1_1 cr_1_2 cr_1_3 cr_1_4 cr_1_5 cr_1_6
  obtain ⟨cr_2_0, cr_2_1, cr_2_2, cr_2_3, cr_2_4, cr_2_5, cr_2_6⟩ := rwC_cells Rr_2
  obtain ⟨ca_2_0, ca_2_1, ca_2_2, ca_2_3, ca_2_4, ca_2_5, ca_2_6⟩ := rwC_cells Ra_2
  go_wp2_with fail
  refine (KN.out _ (t24B FF.out B2)).mono ?_
  rintro r w3 ⟨rfl, b3⟩
  have B3 : Below w.heap.size w w3 := btr B2 b3
  have Rr_3 := heap_of b3 _ _ _ Rr_2
  have Ra_3 := heap_of b3 _ _ _ Ra_2
  clear b3 B2 Rr_2 cr_2_0 cr_2_1 cr_2_2 cr_2_3 cr_2_4 cr_2_5 cr_2_6 Ra_2 ca_2_0 ca_2_1 ca_2_2 ca_2_3 ca_2_4 ca_2_5 ca_2_6
  obtain ⟨cr_3_0, cr_3_1, cr_3_2, cr_3_3, cr_3_4, cr_3_5, cr_3_6⟩ := rwC_cells Rr_3
  obtain ⟨ca_3_0, ca_3_1, ca_3_2, ca_3_3, ca_3_4, ca_3_5, ca_3_6⟩ := rwC_cells Ra_3
  go_wp2
  go_ret2
  exact ⟨rfl, B3⟩
theorem ofR_some {o f g k : Int} {p : Nm} (h : ofR24 o f g k = some p) : p ∈ allL ∧ erF o f g k = 0 := by
  unfold ofR24 at h
  split at h
  · cases h
  · rename_i hc
    refine ⟨List.mem_of_find?_eq_some h, ?_⟩
    unfold erF
    rw [if_neg hc, h]
    rfl
theorem ofR_none {o f g k : Int} (h : ofR24 o f g k = none) : erF o f g k = 2 ∨ erF o f g k = 240 := by
  unfold ofR24 at h
  split at h
  · rename_i hc
    left
    unfold erF
    rw [if_pos hc]
  · rename_i hc
    right
    unfold erF
    rw [if_neg hc, h]
    rfl
theorem of_of {p : Nm} (hp : p ∈ allL) : ofR24 p.1.op p.1.form p.1.frm p.1.kind = some p := of_decide_eq_true (List.all_eq_true.1 of_all p hp)
theorem nmR_some {q : Rw} {p : Nm} (h : nmR24 q = some p) : p ∈ allL ∧ p.1 = q := by
  have h' : allL.find? (fun p => decide (p.1 = q)) = some p := h
  have h2 := List.find?_some h'
  exact ⟨List.mem_of_find?_eq_some h', of_decide_eq_true h2⟩
theorem nmR_mem {p : Nm} (hp : p ∈ allL) : ∃ p2, nmR24 p.1 = some p2 := by
  unfold nmR24 fstL
  cases z : allL.find? (fun r => decide (r.1 = p.1)) with
  | some p2 => exact ⟨p2, rfl⟩
  | none => exact absurd (List.find?_eq_none.1 z p hp) (by simp)
theorem k_nameOf {p : Nm} (hp : p ∈ allL) : Box (∀ w, T24 w → Calls Tryd.prog 28 #[.agg (rwC p.1)] w fun r w' => r = .returned (.string ⟨p.2.toArray⟩) ∧ Below w.heap.size w w') := box (fun w hT => by
  obtain ⟨h1, h2, h3, h4, h5⟩ := of_decide_eq_true (List.all_eq_true.1 name_all p hp)
  rw [← h1]
  exact t_nameOf p.1 h2 h3 h4 h5 w hT)
theorem k_name (q : Rw) (hq : RwOk q) (hE : ∀ args w, (callFunc 33 args).run Tryd.prog w = .ok (.enter 33 args) w) : Box (∀ w, T24 w → Calls Tryd.prog 12 #[.agg (rwC q)] w fun r w' => r = .returned (.tuple #[.string ⟨(ndO (nmR24 q)).2.toArray⟩, .int .i64 (erO (nmR24 q))]) ∧ Below w.heap.size w w') := box (fun w hT => by
  have KO := k_of q.op q.form q.frm q.kind hq.1 hE
  cases z : ofR24 q.op q.form q.frm q.kind with
  | none =>
    have e : nmR24 q = none := by
      cases y : nmR24 q with
      | none => rfl
      | some p =>
        obtain ⟨h1, h2⟩ := nmR_some y
        have := of_of h1
        rw [h2, z] at this
        cases this
    rw [e]
    exact t_name_no q _ _ (by rcases ofR_none z with h | h <;> rw [h] <;> rfl) KO w hT
  | some p =>
    obtain ⟨h1, h2⟩ := ofR_some z
    rw [z, h2] at KO
    by_cases hpq : p.1 = q
    · obtain ⟨p2, h3⟩ := nmR_mem h1
      rw [hpq] at h3
      obtain ⟨h4, h5⟩ := nmR_some h3
      rw [h3]
      have KN := k_nameOf h4
      rw [h5] at KN
      have KO2 : Box (∀ w, T24 w → Calls Tryd.prog 21 #[.int .u8 (q.op : Nat), .int .u8 (q.form : Nat), .int .u8 (q.frm : Nat), .int .u8 (q.kind : Nat)] w fun r w' => r = .returned (.tuple #[.agg (rwC q), .int .i64 0]) ∧ Below w.heap.size w w') := by
        rw [← hpq]
        rw [← hpq] at KO
        exact KO
      exact t_name_y q _ (by rw [rwE_is]; exact decide_eq_true rfl) KO2 KN w hT
    · have e : nmR24 q = none := by
        cases y : nmR24 q with
        | none => rfl
        | some p2 =>
          obtain ⟨h4, h5⟩ := nmR_some y
          have := of_of h4
          rw [h5, z] at this
          obtain rfl := Option.some.inj this
          exact absurd h5 hpq
      rw [e]
      exact t_name_ne q p.1 (by rw [rwE_is]; exact decide_eq_false hpq) KO w hT)
attribute [local go_sem] Oper.semAt_some

def mtN (s : ByteArray) (r : Rw) : Prop := (⟨(nameB r).toArray⟩ : ByteArray) = s
theorem noHead_no {nm : List UInt8} {s : ByteArray} {r : Rw} (h : NoHead nm s) (hn : (plN r.op).nm = nm) : ¬ mtN s r := by
  obtain ⟨i, hi, hm, hs⟩ := h
  have e : nameB r = nm.take (i + 1) ++ (nm.drop (i + 1)).flatMap (exB r) := by
    unfold nameB
    rw [hn]
    conv => lhs; rw [← List.take_append_drop (i + 1) nm]
    rw [List.flatMap_append]
    congr 1
    have : ∀ l : List UInt8, (∀ c ∈ l, isMk c.toNat = false) → l.flatMap (exB r) = l := by
      intro l hl
      induction l with
      | nil => rfl
      | cons c l ih =>
        have hc := hl c (List.mem_cons_self ..)
        rw [List.flatMap_cons, ih (fun d hd => hl d (List.mem_cons_of_mem _ hd))]
        unfold exB
        rw [hc]
        rfl
    refine this _ (fun c hc => ?_)
    obtain ⟨j, hj, rfl⟩ := List.mem_iff_getElem.1 hc
    rw [List.length_take] at hj
    rw [List.getElem_take]
    exact hm j (by omega) (by omega)
  intro q
  unfold mtN at q
  subst q
  have hl : i < (nameB r).length := by rw [e, List.length_append, List.length_take]; omega
  have hg : (nameB r)[i]? = some nm[i] := by
    rw [e, List.getElem?_append_left (by rw [List.length_take]; omega), List.getElem?_take_of_lt (by omega), List.getElem?_eq_getElem hi]
  rcases hs with hs | ⟨hs, hne⟩
  · simp [ByteArray.size] at hs
    omega
  · rw [List.getElem?_eq_getElem hl] at hg
    exact hne (by simpa using Option.some.inj hg)
theorem row_op24 {k : Nat} {r : Rw} (hk : k < 32) (h : r ∈ rwsO k) : r.op = k ∧ r.form < 4 ∧ r.frm < 4 ∧ r.kind < 4 := of_decide_eq_true (List.all_eq_true.1 (List.all_eq_true.1 rws_op k (List.mem_range.2 hk)) r h)
theorem named_yes {k : Nat} {s : ByteArray} {x : Rw} (hk : k < 32) (hx : x ∈ rwsO k) (hm : mtN s x) : (ndO (byR24 s)).1 = x ∧ erO (byR24 s) = 0 := by
  obtain ⟨p, hp, e⟩ := preR_mem (k := 32) (Nat.le_refl _) (by
    show x ∈ (List.range 32).flatMap rwsO
    exact List.mem_flatMap.2 ⟨k, List.mem_range.2 hk, hx⟩)
  have hn := (of_decide_eq_true (List.all_eq_true.1 name_all p hp)).1
  have hb := by24 hp
  have es : (⟨p.2.toArray⟩ : ByteArray) = s := by rw [← hn, e]; exact hm
  rw [es, e] at hb
  exact ⟨hb.1, hb.2.1⟩
theorem named_no {s : ByteArray} (h : ∀ r ∈ preR 32, ¬ mtN s r) : byR24 s = none := by
  unfold byR24 fstL
  refine List.find?_eq_none.2 (fun p hp => ?_)
  have hn := (of_decide_eq_true (List.all_eq_true.1 name_all p hp)).1
  have q := h p.1 (by rw [preR_all]; exact List.mem_map.2 ⟨p, hp, rfl⟩)
  unfold mtN at q
  rw [hn] at q
  simp only [beq_iff_eq]
  intro z
  apply q
  have : (⟨p.2.toArray⟩ : ByteArray).data.toList = s.data.toList := by rw [← ByteArray.toList_eq, ← ByteArray.toList_eq]; exact z
  obtain ⟨⟨l⟩⟩ := s
  simp at this
  rw [this]
structure NdK (w : World) (s : ByteArray) (Ds : List Nat) (V : World) : Prop where
  b : Below w.heap.size w V
  d : Marks w.heap.size Ds V
  s : V.heap[w.heap.size]? = some (.cells #[.string s] 9)
  z : V.heap[w.heap.size + 1]? = some (.cells (rwC rwZ) 36)
  e : V.heap[w.heap.size + 1 + 1]? = some (.cells #[.int .i64 0] 27)
theorem NdK.below {w : World} {s : ByteArray} {Ds : List Nat} {V V' : World} (h : NdK w s Ds V) (b : Below V.heap.size V V') : NdK w s Ds V' := ⟨h.b.trans (b.mono h.b.size), h.d.below b, heap_of b _ _ _ h.s, heap_of b _ _ _ h.z, heap_of b _ _ _ h.e⟩
set_option maxRecDepth 100000 in
set_option maxHeartbeats 8000000 in
theorem t_named (s : ByteArray) (hs : s.size ≤ maxLen) (hE : ∀ args w, (callFunc 33 args).run Tryd.prog w = .ok (.enter 33 args) w) (rr : Rw) (er : Int) (hv : (rr, er) = ((ndO (byR24 s)).1, erO (byR24 s))) (w : World) (hT : T24 w) : Calls Tryd.prog 13 #[.string s] w fun r w' => r = .returned (.tuple #[.agg (rwC rr), .int .i64 er]) ∧ Below w.heap.size w w' := by
  have FF := box hT
  have HV := box hv
  clear hv
  refine (callsIn_wide (n := 6)).1 ?_
  refine callsIn_of_wp_marks Tryd.func13 rfl trivial ?_ rfl
  refine wpIn_wide.2 ?_
  simp only [Tryd.ntmps13, List.size_toArray, List.length_cons, List.length_nil, Nat.reduceAdd, Nat.reduceSub, Array.replicate_succ, Array.replicate_zero, List.push_toArray, List.append_toArray, List.nil_append, List.cons_append]
  obtain ⟨Rs_0, Rz_0, Re_0, B0⟩ := opn3 w (Obj.cells #[.string s] 9) (Obj.cells #[.int .u8 0, .int .u8 0, .int .u8 0, .int .u8 0, .int .u32 0, .int .u32 0, .int .u8 0] 36) (Obj.cells #[.int .i64 0] 27)
  obtain ⟨_, _, _, b, a, cap, hsl, hp⟩ := hT
  have HS := cellB B0 hsl
  have HP : Box (∀ V, Below w.heap.size w V → ∀ i, i < 32 → PlAt V b (a + i * 5) (plB (plN i))) := box (fun V hb i hi => let h := hp i hi; ⟨cellB hb h.1, cellB hb h.2.1, cellB hb h.2.2.1, cellB hb h.2.2.2.1, cellB hb h.2.2.2.2⟩)
  have I0 : NdK w s [] _ := ⟨B0, Marks.nil _ _, Rs_0, Rz_0, Re_0⟩
  clear hsl hp B0 Rs_0 Rz_0 Re_0
  go_wp2
  refine wp_loop (fun A V => ∃ (k : Nat) (u4 u5 u6 u10 u11 u12 u13 u14 u15 u16 u17 u18 u19 u20 u21 u22 u23 u24 u25 u26 u27 : Value) (Ds : List Nat), k ≤ 32 ∧ A = { tmps := #[.string s, .pointer (some ⟨w.heap.size, 0, none⟩), .pointer (some ⟨w.heap.size + 1, 0, none⟩), .pointer (some ⟨w.heap.size + 1 + 1, 0, none⟩), u4, u5, u6, .slice (some ⟨b, a, none⟩) 32 cap, .int .i64 32, .int .i64 (k : Nat), u10, u11, u12, u13, u14, u15, u16, u17, u18, u19, u20, u21, u22, u23, u24, u25, u26, u27, undef], defers := Ds.map mkD } ∧ NdK w s Ds V ∧ Box (∀ r ∈ preR k, ¬ mtN s r)) (fun A _ => 32 - (intOf (A.tmps.getD 9 undef)).toNat) ?start ?round
  case start => exact ⟨0, _, _, _, _, _, _, _, _, _, _, _, _, _, _, _, _, _, _, _, _, _, [], by omega, rfl, I0, box (fun r h => by cases h)⟩
  case round =>
    clear I0 HS
    rintro A V ⟨k, u4, u5, u6, u10, u11, u12, u13, u14, u15, u16, u17, u18, u19, u20, u21, u22, u23, u24, u25, u26, u27, Ds, hk, rfl, HI, HN⟩
    by_cases hlt : k < 32
    case neg =>
      have ke : k = 32 := by omega
      subst ke
      have hv := HV.out
      rw [named_no HN.out] at hv
      obtain ⟨rfl, rfl⟩ := hv
      have hzf := rwz_fold
      have hst := rwC_storeG (r := rwZ) HI.z rfl
      have rz := setRow_row (c' := rwC rwZ) HI.z
      have rE := (setRow_other (w := V) (b := w.heap.size + 1) (b' := w.heap.size + 1 + 1) (c' := rwC rwZ) (by omega)).trans HI.e
      have bz : Below w.heap.size w (V.setRow (w.heap.size + 1) (rwC rwZ)) := Below.setRow HI.b (by omega)
      have MD : Marks w.heap.size Ds (V.setRow (w.heap.size + 1) (rwC rwZ)) := HI.d.kept (fun D hl _ hd => (setRow_other (fun e => by subst e; rw [HI.z] at hd; cases hd)).trans hd)
      obtain ⟨VZ, hVZ⟩ : ∃ X, V.setRow (w.heap.size + 1) (rwC rwZ) = X := ⟨_, rfl⟩
      rw [hVZ] at hst rz rE bz MD
      have fe := fz (k := 0) rE
      have ce := pcell24 rE
      have MD2 : Marks w.heap.size Ds (VZ.setCell ⟨w.heap.size + 1 + 1, 0, none⟩ (.int .i64 240)) := MD.kept (fun D hl _ hd => set_cells24 (fun e => by subst e; rw [rE] at hd; cases hd) hd)
      clear hVZ HI
      go_wp2
      refine leaves_re (Ds := Ds) (Tryd.results13) rfl rfl MD2 ?_ ?_ ?_
      · rw [setCell_other (by omega)]; exact rz
      · rw [setCell_row rE]; rfl
      · exact bz.setCell (p := ⟨w.heap.size + 1 + 1, 0, none⟩) (show w.heap.size ≤ w.heap.size + 1 + 1 by omega) _
    have d1 : decide ((k : Int) < 32) = true := decide_eq_true (by omega)
    have d2 : decide ((32 : Int) ≤ (k : Int)) = false := decide_eq_false (by omega)
    have hw1 : IntKind.i64.wrap ((k : Int) + 1) = ((k + 1 : Nat) : Int) := by rw [IntKind.wrap_i64]; omega
    have w8 : (k : Int) % 256 = (k : Int) := by omega
    obtain ⟨P, hP⟩ : ∃ P, plB (plN k) = P := ⟨_, rfl⟩
    obtain ⟨nm, hnm⟩ : ∃ l, (plN k).nm = l := ⟨_, rfl⟩
    have hpl := HP.out V HI.b k hlt
    have hPn : P.nm = ⟨nm.toArray⟩ := by rw [← hP, ← hnm]; rfl
    have hln : nm.length ≤ 8 := by rw [← hnm]; exact of_decide_eq_true (List.all_eq_true.1 len_all k (List.mem_range.2 hlt))
    have KH : Box (∀ W, Calls Tryd.prog 29 #[.agg (plV P), .string s] W fun r w' => ∃ b : Bool, r = .returned (.bool b) ∧ (b = false → NoHead nm s) ∧ Below W.heap.size W w') := box (fun W => t_hasHead P nm s hs hPn hln W)
    rw [hP] at hpl
    obtain ⟨c0, c1, c2, c3, c4⟩ := hpl
    have hfo := plV_fold P
    have hnew := plV_new
    have HIa := HI.below (bal V (.cells (plV P) 67))
    have RPa := last7 V (.cells (plV P) 67)
    obtain ⟨p0, p1, p2, p3, p4⟩ := plV_cells RPa
    have cs := pcell24 HIa.s
    have HNM := box hnm
    clear hP hnm hPn hln
    go_wp2_with fail
    refine (KH.out _).mono ?_
    rintro r w2 ⟨bb, rfl, hbb, b2⟩
    have HI2 := HIa.below b2
    have HBB := box hbb
    clear p0 p1 p2 p3 p4 c0 c1 c2 c3 c4 b2 HI HIa RPa hnew cs hbb hfo
    have HNX := box (preR_next k)
    cases bb
    · have hno : ∀ r ∈ preR (k + 1), ¬ mtN s r := fun r hr => by
        rw [HNX.out] at hr
        rcases List.mem_append.1 hr with h | h
        · exact HN.out r h
        · exact noHead_no (HBB.out rfl) (by rw [(row_op24 hlt h).1]; exact HNM.out)
      have HNO := box hno
      clear hno
      go_wp2
      refine ⟨⟨k + 1, _, _, _, _, _, _, _, _, _, _, _, _, _, _, _, _, _, _, _, _, _, Ds, by omega, rfl, HI2, HNO⟩, ?_⟩
      simp [intOf]
      omega
    · have KE := k_each k (by omega)
      go_wp2_with fail
      refine (KE.out _ (t24B FF.out HI2.b)).mono ?_
      rintro r W0 ⟨lb, B, rfl, hb0, hB1, hB2, seq⟩
      have H0 := HI2.below hb0
      have HD0 : ∀ D ∈ Ds, D < W0.heap.size := H0.d.lt
      have hse := (Array.getElem?_eq_some_iff.1 H0.e).1
      have SEQ := box seq
      clear seq hb0 HI2 KE
      go_wp2_with fail
      refine (wpIn_wide (n := 6)).1 ?_
      refine wp_range_topM (by decide) (gf := 33) (lb := lb) rfl hE (SEQ.out 5 (by decide)) (fun _ => rfl)
        (fun M pre V => Below W0.heap.size W0 V ∧ ∀ r ∈ pre, ¬ mtN s r)
        (fun M c pre V => c = .ret ∧ ∃ p x, pre = p ++ [x] ∧ mtN s x ∧ V.heap[w.heap.size + 1]? = some (.cells (rwC x) 36) ∧ V.heap[w.heap.size + 1 + 1]? = some (.cells #[.int .i64 0] 27) ∧ Below w.heap.size w V ∧ Marks w.heap.size Ds V)
        (fun M pre A B row hs hg hr => ⟨hs.1.grown hg hs.1.size (fun r e => (hr r e).1), hs.2⟩)
        (fun M c pre A B row hs hg hr => ⟨hs.1, by
          obtain ⟨p, x, e1, e2, e4, e5, e6, e7⟩ := hs.2
          exact ⟨p, x, e1, e2, row_grq e4 hg (fun r e => (hr r e).1) (by omega), row_grq e5 hg (fun r e => (hr r e).1) (by omega), e6.grown hg e6.size (fun r e => by have := (hr r e).1; omega), ⟨e7.1, fun D hD => ⟨(e7.2 D hD).1, row_grq (e7.2 D hD).2 hg (fun r e => (hr r e).1) (HD0 D hD)⟩⟩⟩⟩)
        (fun M pre V hv => ⟨t24B FF.out (H0.b.trans (hv.1.mono H0.b.size)), heap_of hv.1 _ _ _ hB2⟩) (fun M hM => ⟨Below.refl _ _, fun r h => by cases h⟩) ?a1 (fun x => Obj.cells (rwC x) 36) ?assign ?body ?done ?stop
      case assign =>
        intro l x W K hK
        have hrn := rwC_new
        obtain ⟨m, hm⟩ : ∃ m, W.heap.size = m := ⟨_, rfl⟩
        have hK := hK (W.alloc (Obj.cells (rwC x) 36)) (World.grownBy_alloc W _ none) (by simp only [size_al]) (last7 W _)
        rw [hm] at hK
        gi_wp2
        exact hK
      case body =>
        rintro M l pre xx mm V hM0 hM1 ⟨hB, hno⟩ hl4 hsp hm0 hm1 hmx
        have hxm : xx ∈ rwsO k := hsp.subset (by simp)
        obtain ⟨ho, hf1, hf2, hf3⟩ := row_op24 hlt hxm
        have KN : Box (∀ W, T24 W → Calls Tryd.prog 28 #[.agg (rwC xx)] W fun r w' => r = .returned (.string ⟨(nameB xx).toArray⟩) ∧ Below W.heap.size W w') := box (fun W hT => t_nameOf xx (by omega) hf1 hf2 hf3 W hT)
        obtain ⟨x0, x1, x2, x3, x4, x5, x6⟩ := rwC_cells hmx
        have hfo := rwC_fold xx
        have HB := box hB
        have HNO := box hno
        have HMX := box hmx
        have cs := pcell24 (heap_of hB _ _ _ H0.s)
        have hV : V.heap.size = mm + 1 := hm1.symm
        have ft : T24 V.drew := t24B FF.out (H0.b.trans ((hB.trans ((Below.refl _ V).drew)).mono H0.b.size))
        have FAC : Box (∀ V2, Below V.heap.size V V2 → V2.cell? ⟨w.heap.size, 0, none⟩ = some (.string s) ∧ (V2.cell? ⟨mm, 0, none⟩ = some (.int .u8 (xx.op : Nat)) ∧ V2.cell? ⟨mm, 1, none⟩ = some (.int .u8 (xx.form : Nat)) ∧ V2.cell? ⟨mm, 2, none⟩ = some (.int .u8 (xx.frm : Nat)) ∧ V2.cell? ⟨mm, 3, none⟩ = some (.int .u8 (xx.kind : Nat)) ∧ V2.cell? ⟨mm, 4, none⟩ = some (.int .u32 (xx.mask : Nat)) ∧ V2.cell? ⟨mm, 5, none⟩ = some (.int .u32 (xx.mtch : Nat)) ∧ V2.cell? ⟨mm, 6, none⟩ = some (.int .u8 (xx.lay : Nat))) ∧ V2.heap[mm]? = some (.cells (rwC xx) 36) ∧ Below W0.heap.size W0 V2 ∧ TopM W0.heap.size M V V2) := box (fun V2 b2 =>
          ⟨pcell24 (heap_of b2 _ _ _ (heap_of HB.out _ _ _ H0.s)), rwC_cells (heap_of b2 _ _ _ HMX.out), heap_of b2 _ _ _ HMX.out, HB.out.trans (b2.mono HB.out.size), TopM.below b2 (by omega)⟩)
        clear hB hno hmx ho hf1 hf2 hf3
        have hfw : ∀ f, Fence.wide.fn f := fun _ => trivial
        obtain ⟨nb, hnb⟩ : ∃ n, (⟨(nameB xx).toArray⟩ : ByteArray) = n := ⟨_, rfl⟩
        have HNB := box hnb
        rw [hnb] at KN
        clear hnb
        gi_wp2_with fail
        apply cut7i
        · intro key
          gi_region_with (first | (gi_at_call 28; refine (CallsIn.inRound l (callsIn_wide.2 (KN.out _ ft))).mono ?_; rintro r w5 ⟨rfl, b5⟩; have b6 : Below V.heap.size V w5 := ((Below.refl V.heap.size V).drew).trans b5; obtain ⟨d0, ⟨d1, d2, d3, d4, d5, d6, d7⟩, fa, fb, fc⟩ := FAC.out w5 b6) | fail)
          all_goals
            clear d0 d1 d2 d3 d4 d5 d6 d7 b6 b5
            have fz9 := And.intro fa (And.intro fb fc)
            clear fa fb fc
            revert w5
            exact key
        · rintro w5 ⟨fa, fb, fc⟩
          obtain ⟨x0, x1, x2, x3, x4, x5, x6⟩ := rwC_cells fa
          have hfo2 := rwC_fold xx
          have s2 := pcell24 (heap_of fb _ _ _ H0.s)
          cases hb : (nb.toList == s.toList)
          · have nm : ¬ mtN s xx := fun h => by
              unfold mtN at h
              rw [HNB.out] at h
              rw [h] at hb
              simp at hb
            gi_wp2
            exact ⟨fc, fb, fun r hr => by
              rcases List.mem_append.1 hr with h | h
              · exact HNO.out r h
              · rw [List.mem_singleton.1 h]; exact nm⟩
          · have nm : mtN s xx := by
              unfold mtN
              rw [HNB.out]
              have h2 : nb.toList = s.toList := by simpa using hb
              rw [ByteArray.toList_eq, ByteArray.toList_eq] at h2
              obtain ⟨⟨l1⟩⟩ := nb
              obtain ⟨⟨l2⟩⟩ := s
              simp at h2
              rw [h2]
            have b0 := H0.b.trans (fb.mono H0.b.size)
            have hst := rwC_storeG (r := xx) (heap_of fb _ _ _ H0.z) rfl
            have rz := setRow_row (c' := rwC xx) (heap_of fb _ _ _ H0.z)
            have rE := (setRow_other (w := w5) (b := w.heap.size + 1) (b' := w.heap.size + 1 + 1) (c' := rwC xx) (by omega)).trans (heap_of fb _ _ _ H0.e)
            have bz : Below w.heap.size w (w5.setRow (w.heap.size + 1) (rwC xx)) := Below.setRow b0 (by omega)
            have tz : TopM W0.heap.size M V (w5.setRow (w.heap.size + 1) (rwC xx)) := fc.trans ⟨bz_size24 _ _ _, fun q a c => setRow_other (by omega)⟩
            have MD : Marks w.heap.size Ds (w5.setRow (w.heap.size + 1) (rwC xx)) := (H0.d.below fb).kept (fun D hl _ hd => (setRow_other (fun e => by subst e; rw [heap_of fb _ _ _ H0.z] at hd; cases hd)).trans hd)
            obtain ⟨VZ, hVZ⟩ : ∃ X, w5.setRow (w.heap.size + 1) (rwC xx) = X := ⟨_, rfl⟩
            rw [hVZ] at hst rz rE bz tz MD
            have fe := fz (k := 0) rE
            have ce := pcell24 rE
            have MD2 : Marks w.heap.size Ds (VZ.setCell ⟨w.heap.size + 1 + 1, 0, none⟩ (.int .i64 0)) := MD.kept (fun D hl _ hd => set_cells24 (fun e => by subst e; rw [rE] at hd; cases hd) hd)
            clear hVZ
            gi_wp2
            refine ⟨tz.trans ⟨((Below.refl 0 VZ).setCell (p := ⟨w.heap.size + 1 + 1, 0, none⟩) (Nat.zero_le _) _).size, fun q a c => setCell_other (by omega)⟩, rfl, pre, xx, rfl, nm, ?_, ?_, ?_, MD2⟩
            · rw [setCell_other (by omega)]; exact rz
            · rw [setCell_row rE]; rfl
            · exact bz.setCell (p := ⟨w.heap.size + 1 + 1, 0, none⟩) (show w.heap.size ≤ w.heap.size + 1 + 1 by omega) _
      case done =>
        rintro M D ys V hM hD rfl ⟨hB, hno⟩ hK
        have H9 := H0.below (hB.mono (Nat.le_refl _))
        have hnx : ∀ r ∈ preR (k + 1), ¬ mtN s r := fun r hr => by
          rw [HNX.out] at hr
          rcases List.mem_append.1 hr with h | h
          · exact HN.out r h
          · exact hno r h
        have HNO := box hnx
        clear hnx hno
        go_wp2
        refine ⟨⟨k + 1, _, _, _, _, _, _, _, _, _, _, _, _, _, _, _, _, _, _, _, _, _, D :: Ds, by omega, rfl, ⟨H9.b, Marks.cons H9.d (by have := H0.b.size; omega) (fun E hE => by have := HD0 E hE; omega) hK, H9.s, H9.z, H9.e⟩, HNO⟩, ?_⟩
        simp [intOf]
        omega
      case stop =>
        rintro M D c pre V hM hD hpre ⟨rfl, p, x, rfl, e2, e4, e5, e6, e7⟩ hK
        have hxm : x ∈ rwsO k := hpre.subset (by simp)
        obtain ⟨q1, q2⟩ := named_yes hlt hxm e2
        have hv := HV.out
        rw [q1, q2] at hv
        obtain ⟨rfl, rfl⟩ := hv
        gi_wp2
        exact leaves_re (Ds := D :: Ds) (Tryd.results13) rfl rfl (Marks.cons e7 (by have := H0.b.size; omega) (fun E hE => by have := HD0 E hE; omega) hK) e4 e5 e6
end Go.Proofs.YtfdhglllmhggkaaDoor
namespace Go.Proofs.YtfdhglllmhggkaaDoor
set_option maxRecDepth 100000
set_option maxHeartbeats 40000000
set_option maxRecDepth 100000
open Go.RowKit Go.Shelf WMath
set_option linter.unusedVariables false
theorem hE24 : ∀ args w, (callFunc 33 args).run Tryd.prog w = .ok (.enter 33 args) w := enters_of Tryd.func33 (by kernel_rfl) rfl
theorem fb24 : Box (∀ {w w' : World}, T24 w → Below w.heap.size w w' → T24 w') := box (fun h b => t24B h b)
theorem cF24 (x : Nat) (hx : x < 4294967296) : Box (∀ w, T24 w → Calls Tryd.prog 15 #[.int .u32 (x : Nat)] w fun r w' => r = .returned (.tuple #[.agg (rwC (ndO (fdL x)).1), .bool (fdL x).isSome]) ∧ Below w.heap.size w w') := box (fun w hT => t_find x hx hE24 _ _ rfl w hT)
theorem cN24 (q : Rw) (hq : RwOk q) : Box (∀ w, T24 w → Calls Tryd.prog 12 #[.agg (rwC q)] w fun r w' => r = .returned (.tuple #[.string ⟨(ndO (nmR24 q)).2.toArray⟩, .int .i64 (erO (nmR24 q))]) ∧ Below w.heap.size w w') := k_name q hq hE24
theorem cD24 (s : ByteArray) (hs : s.size ≤ maxLen) : Box (∀ w, T24 w → Calls Tryd.prog 13 #[.string s] w fun r w' => r = .returned (.tuple #[.agg (rwC (ndO (byR24 s)).1), .int .i64 (erO (byR24 s))]) ∧ Below w.heap.size w w') := box (fun w hT => t_named s hs hE24 _ _ rfl w hT)
theorem cT24 (q : Rw) (hq : RwOk q) (x : Nat) (hx : x < 4294967296) : Box (∀ w, T24 w → Calls Tryd.prog 17 #[.agg (rwC q), .int .u32 (x : Nat)] w fun r w' => r = .returned (.bool (fitsL q x)) ∧ Below w.heap.size w w') := box (fun w _ => (k_fits q hq.2.2.2.2.1 hq.2.2.2.2.2.1 x hx).out w)
theorem live24 : Box (∀ w, T24 w → Calls Tryd.prog 14 #[] w fun r w' => r = .returned (.bool true) ∧ Below w.heap.size w w') := box (fun w hT => lives24 fb24 cF24 cN24 cD24 (k_len hE24) w hT)
theorem one_fin (x : Nat) (hx : x < 4294967296) (w : World) (hT : T24 w) : Calls Tryd.prog 7 #[.int .u32 (x : Nat)] w fun r w' => r = .returned (.bool true) ∧ Below w.heap.size w w' := one24_fin fb24 cF24 cT24 (k_rows hE24) live24 x hx w hT
end Go.Proofs.YtfdhglllmhggkaaDoor
