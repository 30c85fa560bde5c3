/-
  What the function Read of package wide returns.
-/
import Derived.Test.YtfofonnoheijjaaWide3
import Derived.Test.YtfofonnoheijjaaWide7
import Derived.Test.YtfofonnoheijjaaWide8
import Derived.Test.YtfofonnoheijjaaTmath2
namespace Go.Proofs.Ytfofonnoheijjaa
open Go.RowKit WMath

def digs : ByteArray := ⟨#[48, 49, 50, 51, 52, 53, 54, 55, 56, 57, 97, 98, 99, 100, 101, 102]⟩
def dvi (c : UInt8) : Int := match dv c with | some d => (d : Int) | none => -1
theorem first_dvi (c : UInt8) : firstIdx digs c = dvi c := by
  have key : ∀ c : Fin 256, firstIdx digs (UInt8.ofNat c.val) = dvi (UInt8.ofNat c.val) := by decide +kernel
  have := key ⟨c.toNat, c.toNat_lt⟩
  simpa using this

theorem idx2_any (c : UInt8) (w : World) :
    Calls Try.prog 54 #[.string digs, .int .u8 (c.toNat : Int)] w fun e w' => e = .returned (.int .i64 (dvi c)) ∧ w' = w := by
  have hx := run_indexByte_string (P := Try.prog) digs (c.toNat : Int)
  have hc : (c.toNat : Int).toNat.toUInt8 = c := by simp
  rw [hc, first_dvi] at hx
  go_enter Try.func54, Try.ntmps54
  go_wp2
  rw [run_callFunc_extern Try.func59 (by kernel_rfl) (by kernel_rfl) (by kernel_rfl) (e := Extern.BytealgIndexByte.indexByte) (by kernel_rfl), hx]
  simp only [Result.andThen]
  rw [Oper.upon_value]
  go_wp2
  go_ret
  exact ⟨rfl, rfl⟩
theorem idx_any (c : UInt8) (w : World) :
    Calls Try.prog 44 #[.string digs, .int .u8 (c.toNat : Int)] w fun e w' => e = .returned (.int .i64 (dvi c)) ∧ w' = w := by
  go_enter Try.func44, Try.ntmps44
  go_wp2_with (go_at_call 54; refine (idx2_any c _).mono ?_; rintro e w' ⟨rfl, rfl⟩)
  go_ret
  exact ⟨rfl, rfl⟩
theorem idx_is (c : UInt8) (i : Int) (h : dvi c = i) (w : World) :
    Calls Try.prog 44 #[.string ⟨#[48, 49, 50, 51, 52, 53, 54, 55, 56, 57, 97, 98, 99, 100, 101, 102]⟩, .int .u8 (c.toNat : Int)] w fun e w' => e = .returned (.int .i64 i) ∧ w' = w := by
  subst h; exact idx_any c w

theorem wup4 (n v : Nat) (hn : n < Q) (hv : n * 16 = v) (hq : v < Q) (w : World) :
    Calls Try.prog 40 #[.agg (cw 6 n), .int .i64 4] w fun e w' => e = .returned (.agg (cw 6 v)) ∧ Below w.heap.size w w' := by
  have h := wup_any n 4 hn (by omega) w
  rw [show 2 ^ 4 = 16 by decide, hv, Nat.mod_eq_of_lt hq] at h
  exact h
theorem wor_is (n m v : Nat) (hn : n < Q) (hm : m < Q) (hv : n ||| m = v) (w : World) :
    Calls Try.prog 45 #[.agg (cw 6 n), .agg (cw 6 m)] w fun e w' => e = .returned (.agg (cw 6 v)) ∧ Below w.heap.size w w' := by
  subst hv; exact wor_any n m hn hm w

/-- What is read out of a text: the number, and the error. -/
def rd (l : List UInt8) : Nat × Int := if l.length ≤ 96 then (match vals l with | some v => if tx v = l then (v, 0) else (0, 20) | none => (0, 20)) else (0, 20)

theorem rd_long (l : List UInt8) (h : ¬ l.length ≤ 96) : rd l = (0, 20) := by unfold rd; rw [if_neg h]
theorem rd_none (l : List UInt8) (h : vals l = none) : rd l = (0, 20) := by unfold rd; rw [h]; simp
theorem rd_other (l : List UInt8) (v : Nat) (h : vals l = some v) (h2 : tx v ≠ l) : rd l = (0, 20) := by unfold rd; rw [h]; simp [h2]
theorem rd_good (l : List UInt8) (v : Nat) (hl : l.length ≤ 96) (h : vals l = some v) (h2 : tx v = l) : rd l = (v, 0) := by unfold rd; rw [if_pos hl, h]; simp [h2]

set_option maxRecDepth 100000 in
set_option maxHeartbeats 1000000 in
theorem wread_is (s : ByteArray) (l : List UInt8) (V : Nat) (E : Int) (hs : s.size ≤ 9223372036854775807) (hl : s.data.toList = l) (hr : rd l = (V, E)) (w : World) :
    Calls Try.prog 27 #[.string s] w fun e w' => e = .returned (.tuple #[.agg (cw 6 V), .int .i64 E]) ∧ Below w.heap.size w w' := by
  have hat := cw_at 6
  have hz := cw6z
  have hf := cw6f
  have hs0 := st0
  have hsl : s.size = l.length := by rw [← hl, Array.length_toList]; rfl
  by_cases h96 : s.size ≤ 96
  · have HR := box hr
    have HL := box hl
    have HSL := box hsl
    clear hr hl hsl
    have h96i : (s.size : Int) ≤ 96 := by omega
    go_enter Try.func27, Try.ntmps27
    go_wp2
    go_loopw [13] (fun iv wr => ∃ k v : Nat, k ≤ s.size ∧ iv = .int .i64 k ∧ wr.heap[w.heap.size]? = some (.cells (cw 6 0) 26) ∧ wr.heap[w.heap.size + 1]? = some (.cells (cw 6 v) 26) ∧ Below w.heap.size w wr ∧ v < Q ∧ Box (vals (l.take k) = some v)) (fun iv _ => s.size - (intOf iv).toNat)
    case atStart =>
      refine ⟨0, 0, by omega, rfl, ?_, ?_, ((Below.refl _ _).alloc (Nat.le_refl _) _).alloc (by simp) _, Q_pos, box rfl⟩
      · rw [heap_below _ _ _ (by simp only [size_al]; omega)]; exact heap_alloc_last _ _
      · have := heap_alloc_last (w.alloc (.cells (cw 6 0) 26)) (.cells (cw 6 0) 26)
        simpa only [size_al] using this
    case round =>
      obtain ⟨k, v, hk, rfl, r0, r1, hbw, hvQ, HV⟩ := hrel
      by_cases hlt : k < s.size
      · obtain ⟨c, hc⟩ : ∃ c, s[k] = c := ⟨_, rfl⟩
        have hts : l.take (k + 1) = l.take k ++ [c] := by
          have hkl : k < l.length := by rw [← HSL.out]; exact hlt
          rw [List.take_succ_eq_append_getElem hkl]
          congr 2
          rw [← hc]
          have : ∀ h, l[k]'h = s.data.toList[k]'(by rw [HL.out]; exact h) := fun h => by simp [HL.out]
          rw [this]
          rfl
        have HVS : Box (vals (l.take (k + 1)) = vstep (some v) c) := box (by rw [hts, vals_snoc, HV.out])
        clear hts
        cases hd : dv c with
        | none =>
          have hi : dvi c = -1 := by unfold dvi; rw [hd]
          have HI := box hi
          have HN : Box (rd l = (0, 20)) := box (rd_none l (vals_take_none l (k + 1) (by rw [HVS.out]; unfold vstep; rw [hd])))
          clear hi hd
          have e := HR.out
          rw [HN.out] at e
          injection e with e1 e2
          subst e1
          subst e2
          have hst := st_same wr _ 0 r0
          have c0 := row_cell r0
          go_wp2_with fail
          refine (idx_is c (-1) HI.out _).mono ?_
          rintro e w' ⟨rfl, rfl⟩
          go_wp2
          exact bodyPost_ret (v := .tuple #[.agg (cw 6 0), .int .i64 20]) (by simp [results, Try.results27, go_sem, c0, hf]) rfl ⟨rfl, hbw⟩
        | some d =>
          have hi : dvi c = (d : Int) := by unfold dvi; rw [hd]
          have HI := box hi
          obtain ⟨hd16, _, _⟩ := dv_spec c d hd
          have HV2 : Box (vals (l.take (k + 1)) = some (16 * v + d)) := box (by rw [HVS.out]; unfold vstep; rw [hd])
          have hlen : (l.take (k + 1)).length = k + 1 := by rw [List.length_take, ← HSL.out]; omega
          have hvl := vals_lt (k + 1) _ _ hlen HV2.out
          have hpq := pow96 (k + 1) (by omega)
          obtain ⟨x, hx⟩ : ∃ x, v * 16 = x := ⟨_, rfl⟩
          have hor : x ||| d = 16 * v + d := by
            have := or_disj d v 4 hd16
            rw [Nat.or_comm, ← hx, show (16 : Nat) = 2 ^ 4 from rfl, ← this]
            omega
          obtain ⟨v2, hv2⟩ : ∃ v2, v2 = 16 * v + d := ⟨_, rfl⟩
          rw [← hv2] at hor hvl HV2
          have xQ : x < Q := by omega
          have v2Q : v2 < Q := by omega
          have dQ : d < Q := by omega
          have d64 : d < 18446744073709551616 := by omega
          have hwd : IntKind.u64.wrap (d : Int) = (d : Int) := wrap_nat d d64
          have HX := box hx
          have HO := box hor
          clear hi hd hlen hvl hpq hx hor hv2
          have c1 := row_cell r1
          go_wp2_with fail
          refine (idx_is c (d : Int) HI.out _).mono ?_
          rintro e w' ⟨rfl, rfl⟩
          go_wp2_with fail
          refine (wup4 v x hvQ HX.out xQ _).mono ?_
          rintro e w2 ⟨rfl, hb2⟩
          go_wp2_with fail
          refine (wof_al d d64 _).mono ?_
          rintro e w3 ⟨rfl, hb3⟩
          go_wp2_with fail
          refine (wor_is x d v2 xQ dQ HO.out _).mono ?_
          rintro e w4 ⟨rfl, hb4⟩
          have q0 := heap_of hb4 _ _ _ (heap_of hb3 _ _ _ (heap_of hb2 _ _ _ r0))
          have q1 := heap_of hb4 _ _ _ (heap_of hb3 _ _ _ (heap_of hb2 _ _ _ r1))
          have b4 : Below w.heap.size w w4 := by
            have b2 := hbw.trans (hb2.mono hbw.size)
            have b3 := b2.trans (hb3.mono b2.size)
            exact b3.trans (hb4.mono b3.size)
          have hst := st_any w4 _ v2 v q1
          clear hb2 hb3 hb4 r0 r1 hbw c1
          go_wp2
          go_roundw
          case rel => exact ⟨k + 1, v2, by omega, by go_num, by rw [setRow_other (by omega)]; exact q0, setRow_row q1, Below.setRow b4 (by omega), v2Q, HV2⟩
          case measure => simp [intOf] <;> omega
      · have htk : l.take k = l := List.take_of_length_le (by rw [← HSL.out]; omega)
        have HVL : Box (vals l = some v) := box (by rw [← htk]; exact HV.out)
        clear htk
        have c1 := row_cell r1
        go_wp2_with fail
        refine (wtext_any v hvQ _).mono ?_
        rintro e w2 ⟨rfl, hb2⟩
        have q0 := heap_of hb2 _ _ _ r0
        have q1 := heap_of hb2 _ _ _ r1
        have b2 := hbw.trans (hb2.mono hbw.size)
        have d1 := row_cell q1
        have HTL : Box (s.toList = l) := box (by rw [ByteArray.toList_eq]; exact HL.out)
        by_cases ht : tx v = l
        · have e := HR.out
          rw [rd_good l v (by rw [← HSL.out]; exact h96) HVL.out ht] at e
          injection e with e1 e2
          subst e1
          subst e2
          have hst := st_any w2 _ v 0 q0
          have hcmp : (tx v == s.toList) = true := by rw [HTL.out, ht]; simp
          have z0 : (w2.setRow w.heap.size (cw 6 v)).heap[w.heap.size]? = some (.cells (cw 6 v) 26) := setRow_row q0
          have c3 := row_cell z0
          clear ht
          go_wp2
          exact bodyPost_ret (v := .tuple #[.agg (cw 6 v), .int .i64 0]) (by simp [results, Try.results27, go_sem, c3, hf]) rfl ⟨rfl, Below.setRow b2 (Nat.le_refl _)⟩
        · have e := HR.out
          rw [rd_other l v HVL.out ht] at e
          injection e with e1 e2
          subst e1
          subst e2
          have hst := st_same w2 _ 0 q0
          have c3 := row_cell q0
          have hcmp : (tx v == s.toList) = false := by rw [HTL.out]; simpa using ht
          clear ht
          go_wp2
          exact bodyPost_ret (v := .tuple #[.agg (cw 6 0), .int .i64 20]) (by simp [results, Try.results27, go_sem, c3, hf]) rfl ⟨rfl, b2⟩
  · have e := rd_long l (by omega)
    rw [hr] at e
    injection e with e1 e2
    subst e1
    subst e2
    have h96i : ¬ (s.size : Int) ≤ 96 := by omega
    clear hr hl hsl
    go_enter Try.func27, Try.ntmps27
    go_wp2
    exact bodyPost_ret (v := .tuple #[.agg (cw 6 0), .int .i64 20]) (by simp [results, Try.results27, go_sem, hat, hf]) rfl ⟨rfl, (Below.refl _ _).alloc (Nat.le_refl _) _⟩
end Go.Proofs.Ytfofonnoheijjaa
