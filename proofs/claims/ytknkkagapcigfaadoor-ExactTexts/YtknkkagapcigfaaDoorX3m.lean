/-
  What the function mayBe of package exact returns.
-/
import Derived.Test.YtknkkagapcigfaaDoorX3
namespace Go.Proofs.YtknkkagapcigfaaDoor
open Go.RowKit WMath XMath

set_option maxRecDepth 100000 in
set_option maxHeartbeats 4000000 in
theorem xmay1 (b : Bool) (s t : ByteArray) (e : Int) (o : Bool) (hm : IsM o b s t e) (T : TypeId) (w : World) (g : Nat) (hg : w.heap.size = g) (hT : TabAt w) :
    Calls Tryd.prog 10 #[.slice (some ⟨g, 0, none⟩) 1 1] (w.alloc (.cells #[.bool b, .string s, .string t, .int .i64 e] T)) fun r w' => r = .returned (.bool o) ∧ Below w.heap.size w w' := by
  obtain ⟨W, hW⟩ : ∃ W, w.alloc (.cells #[.bool b, .string s, .string t, .int .i64 e] T) = W := ⟨_, rfl⟩
  have row : W.heap[g]? = some (.cells #[.bool b, .string s, .string t, .int .i64 e] T) := by rw [← hW, ← hg]; exact heap_alloc_last _ _
  have B0 : Below w.heap.size w W := by rw [← hW]; exact bal _ _
  have TT : Box (TabAt W) := box (tabB hT B0)
  have ho : o = true ↔ MayX b s t e := hm
  have HO := box ho
  rw [hW]
  rw [hg] at B0 ⊢
  clear hW hT ho hm
  go_enter Tryd.func10, Tryd.ntmps10
  go_wp2
  go_loopw [7] (fun iv wr => (iv = .int .i64 0 ∧ wr = W) ∨ (iv = .int .i64 1 ∧ Below g w wr ∧ o = true)) (fun iv _ => 2 - (intOf iv).toNat)
  case atStart => exact Or.inl ⟨rfl, rfl⟩
  case round =>
    rcases hrel with ⟨rfl, rfl⟩ | ⟨rfl, bw, rfl⟩
    · have c0 := cells4 row 0 _ rfl
      have c1 := cells4 row 1 _ rfl
      have c2 := cells4 row 2 _ rfl
      have c3 := cells4 row 3 _ rfl
      have TA : Box (TabAt (wr.alloc (.cells #[.bool b, .string s, .string t, .int .i64 e] 24))) := box (tabA TT.out _)
      have BA : Below g w (wr.alloc (.cells #[.bool b, .string s, .string t, .int .i64 e] 24)) := by subst hg; exact btr B0 (bal _ _)
      clear row
      cases o
      · go_wp2_with fail
        refine (xcheck b s t e false (by first | exact HO.out | simpa using HO.out) _ TA.out).mono ?_
        rintro r w1 ⟨rfl, b1⟩
        go_wp2
        go_ret
        exact ⟨rfl, by subst hg; exact btr BA b1⟩
      · go_wp2_with fail
        refine (xcheck b s t e true (by first | exact HO.out | simpa using HO.out) _ TA.out).mono ?_
        rintro r w1 ⟨rfl, b1⟩
        go_wp2
        go_roundw
        case rel => exact Or.inr ⟨by go_num, by subst hg; exact btr BA b1, by trivial⟩
        case measure => simp [intOf]
    · go_wp2
      go_ret
      exact ⟨rfl, bw⟩

set_option maxRecDepth 100000 in
set_option maxHeartbeats 4000000 in
theorem xmay2 (b : Bool) (s t : ByteArray) (e : Int) (c : Bool) (u v : ByteArray) (f : Int) (o1 o2 o : Bool) (m1 : IsM o1 b s t e) (m2 : IsM o2 c u v f) (ho : (o1 && o2) = o) (T : TypeId) (w : World) (g : Nat) (hg : w.heap.size = g) (hT : TabAt w) :
    Calls Tryd.prog 10 #[.slice (some ⟨g, 0, none⟩) 2 2] (w.alloc (.cells #[.bool b, .string s, .string t, .int .i64 e, .bool c, .string u, .string v, .int .i64 f] T)) fun r w' => r = .returned (.bool o) ∧ Below w.heap.size w w' := by
  obtain ⟨W, hW⟩ : ∃ W, w.alloc (.cells #[.bool b, .string s, .string t, .int .i64 e, .bool c, .string u, .string v, .int .i64 f] T) = W := ⟨_, rfl⟩
  have row : W.heap[g]? = some (.cells #[.bool b, .string s, .string t, .int .i64 e, .bool c, .string u, .string v, .int .i64 f] T) := by rw [← hW, ← hg]; exact heap_alloc_last _ _
  have B0 : Below w.heap.size w W := by rw [← hW]; exact bal _ _
  have TT : Box (TabAt W) := box (tabB hT B0)
  have h1 : o1 = true ↔ MayX b s t e := m1
  have h2 : o2 = true ↔ MayX c u v f := m2
  have H1 := box h1
  have H2 := box h2
  rw [hW]
  rw [hg] at B0 ⊢
  clear hW hT h1 h2 m1 m2
  go_enter Tryd.func10, Tryd.ntmps10
  go_wp2
  go_loopw [7] (fun iv wr => (iv = .int .i64 0 ∧ wr = W) ∨ (iv = .int .i64 1 ∧ Below W.heap.size W wr ∧ o1 = true) ∨ (iv = .int .i64 2 ∧ Below W.heap.size W wr ∧ o = true)) (fun iv _ => 3 - (intOf iv).toNat)
  case atStart => exact Or.inl ⟨rfl, rfl⟩
  case round =>
    rcases hrel with ⟨rfl, rfl⟩ | ⟨rfl, bw, rfl⟩ | ⟨rfl, bw, rfl⟩
    · have c0 := cells4 row 0 _ rfl
      have c1 := cells4 row 1 _ rfl
      have c2 := cells4 row 2 _ rfl
      have c3 := cells4 row 3 _ rfl
      have TA : Box (TabAt (wr.alloc (.cells #[.bool b, .string s, .string t, .int .i64 e] 24))) := box (tabA TT.out _)
      have BA := bal wr (.cells #[.bool b, .string s, .string t, .int .i64 e] 24)
      clear row
      cases o1
      · obtain rfl : false = o := by simpa using ho
        go_wp2_with fail
        refine (xcheck b s t e false (by first | exact H1.out | simpa using H1.out) _ TA.out).mono ?_
        rintro r w1 ⟨rfl, b1⟩
        go_wp2
        go_ret
        exact ⟨rfl, by subst hg; exact btr B0 (btr BA b1)⟩
      · go_wp2_with fail
        refine (xcheck b s t e true (by first | exact H1.out | simpa using H1.out) _ TA.out).mono ?_
        rintro r w1 ⟨rfl, b1⟩
        go_wp2
        go_roundw
        case rel => exact Or.inr (Or.inl ⟨by go_num, btr BA b1, by trivial⟩)
        case measure => simp [intOf]
    · have row2 := heap_of bw _ _ _ row
      have c0 := cells4 row2 4 _ rfl
      have c1 := cells4 row2 5 _ rfl
      have c2 := cells4 row2 6 _ rfl
      have c3 := cells4 row2 7 _ rfl
      have TA : Box (TabAt (wr.alloc (.cells #[.bool c, .string u, .string v, .int .i64 f] 24))) := box (tabA (tabB TT.out bw) _)
      have BA := bal wr (.cells #[.bool c, .string u, .string v, .int .i64 f] 24)
      obtain rfl : o2 = o := by simpa using ho
      clear row row2 ho
      cases o2
      · go_wp2_with fail
        refine (xcheck c u v f false (by first | exact H2.out | simpa using H2.out) _ TA.out).mono ?_
        rintro r w1 ⟨rfl, b1⟩
        go_wp2
        go_ret
        exact ⟨rfl, by subst hg; exact btr B0 (btr bw (btr BA b1))⟩
      · go_wp2_with fail
        refine (xcheck c u v f true (by first | exact H2.out | simpa using H2.out) _ TA.out).mono ?_
        rintro r w1 ⟨rfl, b1⟩
        go_wp2
        go_roundw
        case rel => exact Or.inr (Or.inr ⟨by go_num, btr bw (btr BA b1), by trivial⟩)
        case measure => simp [intOf]
    · go_wp2
      go_ret
      exact ⟨rfl, by subst hg; exact btr B0 bw⟩
theorem cut_same {G C : Prop} (h : G → C) (k : G) : C := h k
theorem tabD {w : World} (h : TabAt w) : TabAt w.drew := h
theorem xmay1d (b : Bool) (s t : ByteArray) (e : Int) (o : Bool) (hm : IsM o b s t e) (T : TypeId) (w : World) (g : Nat) (hg : w.heap.size = g) (hT : TabAt w) :
    Calls Tryd.prog 10 #[.slice (some ⟨g, 0, none⟩) 1 1] (w.alloc (.cells #[.bool b, .string s, .string t, .int .i64 e] T)).drew fun r w' => r = .returned (.bool o) ∧ Below w.heap.size w w' :=
  (xmay1 b s t e o hm T w.drew g hg (tabD hT)).mono fun _ _ ⟨h1, h2⟩ => ⟨h1, ((Below.refl w.heap.size w).drew).trans h2⟩
theorem xmay2d (b : Bool) (s t : ByteArray) (e : Int) (c : Bool) (u v : ByteArray) (f : Int) (o1 o2 o : Bool) (m1 : IsM o1 b s t e) (m2 : IsM o2 c u v f) (ho : (o1 && o2) = o) (T : TypeId) (w : World) (g : Nat) (hg : w.heap.size = g) (hT : TabAt w) :
    Calls Tryd.prog 10 #[.slice (some ⟨g, 0, none⟩) 2 2] (w.alloc (.cells #[.bool b, .string s, .string t, .int .i64 e, .bool c, .string u, .string v, .int .i64 f] T)).drew fun r w' => r = .returned (.bool o) ∧ Below w.heap.size w w' :=
  (xmay2 b s t e c u v f o1 o2 o m1 m2 ho T w.drew g hg (tabD hT)).mono fun _ _ ⟨h1, h2⟩ => ⟨h1, ((Below.refl w.heap.size w).drew).trans h2⟩
theorem xmayM (b : Bool) (s t : ByteArray) (e : Int) (o : Bool) (ho : IsM o b s t e) (w : World) : Calls Tryd.prog 7 #[.agg #[.bool b, .string s, .string t, .int .i64 e]] w fun r w' => r = .returned (.bool o) ∧ Below w.heap.size w w' := xmay b s t e o ho w
theorem xcheckM (b : Bool) (s t : ByteArray) (e : Int) (o : Bool) (ho : IsM o b s t e) (c : Int) (hc : (if o then 0 else 2) = c) (w : World) (hT : TabAt w) : Calls Tryd.prog 22 #[.agg #[.bool b, .string s, .string t, .int .i64 e]] w fun r w' => r = .returned (.int .i64 c) ∧ Below w.heap.size w w' := by
  subst hc
  exact xcheck b s t e o ho w hT
end Go.Proofs.YtknkkagapcigfaaDoor
