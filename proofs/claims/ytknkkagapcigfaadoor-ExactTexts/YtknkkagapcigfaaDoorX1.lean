/-
  What the functions Null, odd and May of the document's answer for layer 6 return, and zero, within, odd, apart, Check of package exact.
-/
import Derived.Test.YtknkkagapcigfaaDoorXmath
import Derived.Test.YtknkkagapcigfaaDoorDoor2
import Derived.Test.YtknkkagapcigfaaDoorNat8
import Derived.Test.YtknkkagapcigfaaDoorList6
namespace Go.Proofs.YtknkkagapcigfaaDoor
open Go.RowKit WMath XMath

theorem nb1 : nbA 1 = ⟨#[1]⟩ := by decide +kernel
theorem nl1 : nl 1 ≤ 16384 := by decide +kernel
theorem nl0 : nl 0 ≤ 16384 := by decide +kernel
theorem eq_one (g : Nat) (v : ByteArray) (h : nbA g = v) : (v.toList == [1]) = decide (g = 1) := by
  rw [Bool.eq_iff_iff, beq_iff_eq, decide_eq_true_iff, ByteArray.toList_eq]
  constructor
  · intro e
    apply nbA_inj
    rw [h, nb1]
    obtain ⟨⟨l⟩⟩ := v
    show (⟨⟨l⟩⟩ : ByteArray) = ⟨#[1]⟩
    have : l = [1] := e
    rw [this]
  · intro e
    subst e
    rw [nb1] at h
    rw [← h]
theorem eq_nil (n : Nat) (s : ByteArray) (h : nbA n = s) (h0 : n ≠ 0) : (s.toList == []) = false := by
  rw [eq_empty, decide_eq_false_iff_not, ← h, nbA_size]
  have := nl_pos n h0
  omega

theorem quiet_world {w W : World} (b : Below w.heap.size w W) (n : Nat) : ∃ V, W.drewN n = V ∧ Below w.heap.size w V ∧ V.heap = W.heap := ⟨_, rfl, below_drewN b n, rfl⟩
theorem cells4 {w : World} {g : Nat} {T : TypeId} {c : Array Value} (row : w.heap[g]? = some (.cells c T)) (k : Nat) (v : Value) (h : c[k]? = some v) : w.cell? ⟨g, k, none⟩ = some v := by
  rw [cell_of_row w g k _ _ _ row]
  exact h

theorem set4_below {n : Nat} {w wr : World} {b : Nat} (h : Below n w wr) (hb : n ≤ b) (v0 v1 v2 v3 : Value) : Below n w ((((wr.setCell ⟨b, 0, none⟩ v0).setCell ⟨b, 1, none⟩ v1).setCell ⟨b, 2, none⟩ v2).setCell ⟨b, 3, none⟩ v3) :=
  (((h.setCell hb _).setCell hb _).setCell hb _).setCell hb _
theorem set4_row {w : World} {b : Nat} {c : Array Value} {T : TypeId} (h : w.heap[b]? = some (.cells c T)) (hc : c.size = 4) (v0 v1 v2 v3 : Value) :
    ((((w.setCell ⟨b, 0, none⟩ v0).setCell ⟨b, 1, none⟩ v1).setCell ⟨b, 2, none⟩ v2).setCell ⟨b, 3, none⟩ v3).heap[b]? = some (.cells #[v0, v1, v2, v3] T) := by
  rw [setCell_row (setCell_row (setCell_row (setCell_row h)))]
  obtain ⟨l⟩ := c
  match l, hc with
  | [a, b, c, d], _ => rfl
theorem set4_cells {w : World} {b : Nat} {c : Array Value} {T : TypeId} (h : w.heap[b]? = some (.cells c T)) (hc : c.size = 4) (v0 v1 v2 v3 : Value) :
    ((((w.setCell ⟨b, 0, none⟩ v0).setCell ⟨b, 1, none⟩ v1).setCell ⟨b, 2, none⟩ v2).setCell ⟨b, 3, none⟩ v3).cell? ⟨b, 0, none⟩ = some v0 ∧
    ((((w.setCell ⟨b, 0, none⟩ v0).setCell ⟨b, 1, none⟩ v1).setCell ⟨b, 2, none⟩ v2).setCell ⟨b, 3, none⟩ v3).cell? ⟨b, 1, none⟩ = some v1 ∧
    ((((w.setCell ⟨b, 0, none⟩ v0).setCell ⟨b, 1, none⟩ v1).setCell ⟨b, 2, none⟩ v2).setCell ⟨b, 3, none⟩ v3).cell? ⟨b, 2, none⟩ = some v2 ∧
    ((((w.setCell ⟨b, 0, none⟩ v0).setCell ⟨b, 1, none⟩ v1).setCell ⟨b, 2, none⟩ v2).setCell ⟨b, 3, none⟩ v3).cell? ⟨b, 3, none⟩ = some v3 := by
  have r := set4_row h hc v0 v1 v2 v3
  exact ⟨cells4 r 0 _ rfl, cells4 r 1 _ rfl, cells4 r 2 _ rfl, cells4 r 3 _ rfl⟩

/-- May a number be that is told by strings? -/
def MayX (b : Bool) (s t : ByteArray) (e : Int) : Prop := ∃ n d, nbA n = s ∧ nbA d = t ∧ (XN.mk b n d e).can
/-- Does o tell whether it may be? -/
def IsM (o : Bool) (b : Bool) (s t : ByteArray) (e : Int) : Prop := o = true ↔ MayX b s t e
theorem mayX_iff (b : Bool) (n d : Nat) (s t : ByteArray) (e : Int) (hs : nbA n = s) (ht : nbA d = t) : MayX b s t e ↔ (XN.mk b n d e).can := by
  constructor
  · rintro ⟨n', d', h1, h2, h⟩
    rw [nbA_inj _ _ (h1.trans hs.symm), nbA_inj _ _ (h2.trans ht.symm)] at h
    exact h
  · intro h
    exact ⟨n, d, hs, ht, h⟩
theorem mayX_s (b : Bool) (s t : ByteArray) (e : Int) (h : MayX b s t e) : mayB s = true ∧ mayB t = true := by
  obtain ⟨n, d, rfl, rfl, h⟩ := h
  exact ⟨mayB_nb n h.1, mayB_nb d h.2.1⟩

theorem xnull (w : World) : Calls Tryd.prog 15 #[] w fun r w' => r = .returned (.agg #[.bool false, .string ⟨#[]⟩, .string ⟨#[1]⟩, .int .i64 0]) ∧ Below w.heap.size w w' := by
  go_enter Tryd.func15, Tryd.ntmps15
  go_wp2
  exact bodyPost_ret (v := .agg #[.bool false, .string ⟨#[]⟩, .string ⟨#[1]⟩, .int .i64 0]) (by simp [results, Tryd.results15, go_sem]) rfl ⟨rfl, by first | exact Below.refl _ _ | exact bal _ _⟩
theorem zerox (w : World) : Calls Tryd.prog 27 #[] w fun r w' => r = .returned (.agg #[.bool false, .string ⟨#[]⟩, .string ⟨#[1]⟩, .int .i64 0]) ∧ Below w.heap.size w w' := by
  go_enter Tryd.func27, Tryd.ntmps27
  go_wp2
  exact bodyPost_ret (v := .agg #[.bool false, .string ⟨#[]⟩, .string ⟨#[1]⟩, .int .i64 0]) (by simp [results, Tryd.results27, go_sem]) rfl ⟨rfl, by first | exact Below.refl _ _ | exact bal _ _⟩
theorem withinx (n b : Int) (o : Bool) (hb : 0 ≤ b) (hb2 : b ≤ 9223372036854775807) (ho : (decide (-b ≤ n) && decide (n ≤ b)) = o) (w : World) : Calls Tryd.prog 20 #[.int .i64 n, .int .i64 b] w fun r w' => r = .returned (.bool o) ∧ Below w.heap.size w w' := by
  have n1 : IntKind.i64.wrap (-b) = -b := wrap_i64_is _ (by omega) (by omega)
  by_cases h : -b ≤ n
  · have d1 : decide (-b ≤ n) = true := decide_eq_true h
    rw [d1, Bool.true_and] at ho
    have B0 : Below w.heap.size w w := (Below.refl _ _)
    go_enter Tryd.func20, Tryd.ntmps20
    go_wp2
    go_ret
    exact ⟨rfl, B0⟩
  · have d1 : decide (-b ≤ n) = false := decide_eq_false h
    rw [d1, Bool.false_and] at ho
    subst ho
    have B0 : Below w.heap.size w w := (Below.refl _ _)
    go_enter Tryd.func20, Tryd.ntmps20
    go_wp2
    go_ret
    exact ⟨rfl, B0⟩
theorem and1 (x : Nat) (h : x < 256) : bits .and .u8 (x : Nat) 1 = ((x % 2 : Nat) : Int) := by
  show IntKind.u8.wrap ((BitVec.ofInt 8 (x : Int) &&& BitVec.ofInt 8 1).toNat : Int) = _
  have h1 : (BitVec.ofInt 8 1).toNat = 2 ^ 1 - 1 := by decide
  have h2 : (BitVec.ofInt 8 (x : Int)).toNat = x := by simp; omega
  rw [BitVec.toNat_and, h1, Nat.and_two_pow_sub_one_eq_mod, h2]
  exact wrap_u8_is _ _ (by omega)
theorem rodd (n : Nat) (s : ByteArray) (o : Bool) (hs : nbA n = s) (hl : nl n ≤ 16384) (ho : decide (n % 2 = 1) = o) (w : World) : Calls Tryd.prog 14 #[.string s] w fun r w' => r = .returned (.bool o) ∧ Below w.heap.size w w' := by
  by_cases h0 : n = 0
  · subst h0
    rw [nbA_zero] at hs
    subst hs
    have e : o = false := by rw [← ho]; rfl
    subst e
    clear ho hl
    have B0 : Below w.heap.size w w := (Below.refl _ _)
    go_enter Tryd.func14, Tryd.ntmps14
    go_wp2
    go_ret
    exact ⟨rfl, B0⟩
  · have d0 := eq_nil n s hs h0
    obtain ⟨L, hL⟩ : ∃ L, nl n = L := ⟨_, rfl⟩
    have hz : s.size = L := by rw [← hs, nbA_size, hL]
    have L0 : 0 < L := by rw [← hL]; exact nl_pos n h0
    have hk : L - 1 < s.size := by omega
    obtain ⟨x, hx⟩ : ∃ x, (s[L - 1]'hk).toNat = x := ⟨_, rfl⟩
    have hxd : n % 256 = x := by
      rw [← hx]
      subst hs
      rw [nbA_get, hL, show L - 1 - (L - 1) = 0 by omega]
      unfold d8
      rw [Nat.mul_zero, Nat.pow_zero, Nat.div_one]
    have x256 : x < 256 := by omega
    have hxr := idx_run s (L - 1) ((L : Int) - 1) x (by omega) hk hx
    have n1 : IntKind.i64.wrap ((L : Int) - 1) = (L : Int) - 1 := wrap_i64_is _ (by omega) (by omega)
    have ha := and1 x x256
    obtain ⟨y, hy⟩ : ∃ y, x % 2 = y := ⟨_, rfl⟩
    rw [hy] at ha
    have hc : ((y : Int) == 1) = o := by
      rw [← ho, Bool.eq_iff_iff, beq_iff_eq, decide_eq_true_iff]
      omega
    have hc2 : decide (y = 1) = o := by
      rw [← ho, Bool.eq_iff_iff, decide_eq_true_iff, decide_eq_true_iff]
      omega
    clear hs hL hx hxd hy ho
    have B0 : Below w.heap.size w w := (Below.refl _ _)
    go_enter Tryd.func14, Tryd.ntmps14
    go_wp2
    go_ret
    exact ⟨rfl, B0⟩
theorem oddx (n : Nat) (s : ByteArray) (o : Bool) (hs : nbA n = s) (hl : nl n ≤ 16384) (ho : decide (n % 2 = 1) = o) (w : World) (hT : TabAt w) : Calls Tryd.prog 31 #[.string s] w fun r w' => r = .returned (.bool o) ∧ Below w.heap.size w w' := by
  by_cases h0 : n = 0
  · subst h0
    rw [nbA_zero] at hs
    subst hs
    have e : o = false := by rw [← ho]; rfl
    subst e
    clear ho hl
    have B0 : Below w.heap.size w w := (Below.refl _ _)
    go_enter Tryd.func31, Tryd.ntmps31
    go_wp2
    go_ret
    exact ⟨rfl, B0⟩
  · have d0 := eq_nil n s hs h0
    obtain ⟨t, ht⟩ : ∃ t, tz n = t := ⟨_, rfl⟩
    have HT := box (tz_low n)
    rw [ht] at HT
    have hc : ((t : Int) == 0) = o := by
      rw [← ho, ← ht, Bool.eq_iff_iff, beq_iff_eq, decide_eq_true_iff]
      constructor
      · intro h
        obtain ⟨a, b⟩ := od_is n h0
        have e : tz n = 0 := by omega
        unfold od at b
        rw [e, Nat.pow_zero, Nat.div_one] at b
        exact b
      · intro h
        rw [tz_odd n h]
        rfl
    have hc2 : decide (t = 0) = o := by
      rw [← hc, Bool.eq_iff_iff, beq_iff_eq, decide_eq_true_iff]
      omega
    have HS := box hs
    have HL := box hl
    have TT := box hT
    clear hs hl ht ho hT
    have B0 : Below w.heap.size w w := (Below.refl _ _)
    go_enter Tryd.func31, Tryd.ntmps31
    go_wp2_with fail
    refine (pn_low_ok n t s HS.out HL.out HT.out _ (tabB TT.out B0)).mono ?_
    rintro r w1 ⟨rfl, b1⟩
    have B1 : Below w.heap.size w w1 := btr B0 b1
    clear b1 B0 
    go_wp2
    go_ret
    exact ⟨rfl, B1⟩
end Go.Proofs.YtknkkagapcigfaaDoor
