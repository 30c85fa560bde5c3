/-
  The function alive of the statements of layer 2 answers true.
-/
import Derived.Test.YtfofonnoheijjaaDoorWide5
import Derived.Test.YtfofonnoheijjaaDoorWide7
namespace Go.Proofs.YtfofonnoheijjaaDoor
open Go.RowKit WMath

theorem wadd_is (n m v : Nat) (o : Bool) (hn : n < Q) (hm : m < Q) (hv : (n + m) % Q = v) (ho : decide (Q ≤ n + m) = o) (w : World) :
    Calls Tryd.prog 28 #[.agg (cw 6 n), .agg (cw 6 m)] w fun e w' => e = .returned (.tuple #[.agg (cw 6 v), .bool o]) ∧ Below w.heap.size w w' := by
  subst hv; subst ho; exact wadd_any n m hn hm w
theorem wmul_is (n m v : Nat) (o : Bool) (hn : n < Q) (hm : m < Q) (hv : n * m % Q = v) (ho : decide (Q ≤ n * m) = o) (w : World) :
    Calls Tryd.prog 30 #[.agg (cw 6 n), .agg (cw 6 m)] w fun e w' => e = .returned (.tuple #[.agg (cw 6 v), .bool o]) ∧ Below w.heap.size w w' := by
  subst hv; subst ho; exact wmul_any n m hn hm w

theorem Q_big : 1000000 < Q := by
  obtain ⟨L, hL, hQ⟩ := Q_of
  rw [hQ]
  have : 2 ^ 20 ≤ 2 ^ (64 * L) := Nat.pow_le_pow_right (by decide) (by omega)
  have e : (2 : Nat) ^ 20 = 1048576 := by decide
  omega
theorem tx255 : tx 255 = [102, 102] := by
  rw [tx_big 255 (by decide), tx_small (255 / 16) (by decide)]
  decide
theorem wadd_al (w : World) : Calls Tryd.prog 28 #[.agg (cw 6 (Q - 1)), .agg (cw 6 1)] w fun e w' => e = .returned (.tuple #[.agg (cw 6 0), .bool true]) ∧ Below w.heap.size w w' := by
  have hQ := Q_big
  refine (wadd_any (Q - 1) 1 (by omega) (by omega) w).mono ?_
  rintro e w' ⟨rfl, h⟩
  refine ⟨?_, h⟩
  rw [show Q - 1 + 1 = Q by omega, Nat.mod_self, decide_eq_true (Nat.le_refl Q)]
  rfl
theorem wmul_al (w : World) : Calls Tryd.prog 30 #[.agg (cw 6 3), .agg (cw 6 5)] w fun e w' => e = .returned (.tuple #[.agg (cw 6 15), .bool false]) ∧ Below w.heap.size w w' := by
  have hQ := Q_big
  refine (wmul_any 3 5 (by omega) (by omega) w).mono ?_
  rintro e w' ⟨rfl, h⟩
  refine ⟨?_, h⟩
  rw [show 3 * 5 = 15 by decide, Nat.mod_eq_of_lt (by omega), decide_eq_false (by omega)]
  rfl
theorem wof_al (n : Nat) (hn : n < 18446744073709551616) (w : World) : Calls Tryd.prog 29 #[.int .u64 n] w fun e w' => e = .returned (.agg (cw 6 n)) ∧ Below w.heap.size w w' := wof_any n hn w
theorem wtext_al (w : World) : Calls Tryd.prog 31 #[.agg (cw 6 255)] w fun e w' => e = .returned (.string ⟨#[102, 102]⟩) ∧ Below w.heap.size w w' := by
  have hQ := Q_big
  have := wtext_any 255 (by omega) w
  rw [tx255] at this
  exact this
theorem wnot_al (w : World) : Calls Tryd.prog 16 #[.agg (cw 6 0)] w fun e w' => e = .returned (.agg (cw 6 (Q - 1))) ∧ Below w.heap.size w w' := by
  have hQ := Q_big
  have := wnot_any 0 (by omega) w
  rw [Nat.sub_zero] at this
  exact this

set_option maxHeartbeats 1000000 in
theorem walive_any (w : World) : Calls Tryd.prog 18 #[] w fun e w' => e = .returned (.bool true) ∧ Below w.heap.size w w' := by
  have hat := cw_at 6
  have hz := cw6z
  have hf := cw6f
  have hs0 := st0
  have heq := eq6
  have hg := eqg6
  have hcs := cw_size 6
  have hQ := Q_big
  have hw15 : (((wd 15 0 : Nat) : Int) == 15) = true := by decide
  have hQ0 : 0 < Q := by omega
  have hQ15 : 15 < Q := by omega
  go_enter Tryd.func18, Tryd.ntmps18
  go_wp2_with fail
  refine (wnot_al _).mono ?_
  rintro e w1 ⟨rfl, hb1⟩
  go_wp2_with fail
  refine (wof_al 1 (by decide) _).mono ?_
  rintro e w2 ⟨rfl, hb2⟩
  go_wp2_with fail
  refine (wadd_al _).mono ?_
  rintro e w3 ⟨rfl, hb3⟩
  have c3 : Below w.heap.size w w3 := (hb1.trans (hb2.mono hb1.size)).trans (hb3.mono (hb1.trans (hb2.mono hb1.size)).size)
  go_wp2_with fail
  refine (wof_al 3 (by decide) _).mono ?_
  rintro e w4 ⟨rfl, hb4⟩
  go_wp2_with fail
  refine (wof_al 5 (by decide) _).mono ?_
  rintro e w5 ⟨rfl, hb5⟩
  go_wp2_with fail
  refine (wmul_al _).mono ?_
  rintro e w6 ⟨rfl, hb6⟩
  have b6 := (hb4.trans (hb5.mono hb4.size)).trans (hb6.mono (hb4.trans (hb5.mono hb4.size)).size)
  have r6 : w6.heap[w3.heap.size]? = some (.cells (cw 6 0) 24) := heap_of b6 _ _ _ (heap_alloc_last w3 _)
  have c6 : Below w.heap.size w w6 := (c3.alloc c3.size _).trans (b6.mono (by rw [size_al]; have := c3.size; omega))
  have s6 : w3.heap.size < w6.heap.size := (Array.getElem?_eq_some_iff.1 r6).1
  clear hb1 hb2 hb3 hb4 hb5 hb6 b6
  obtain ⟨W, hW⟩ : ∃ W, W = w6.alloc (.cells (cw 6 15) 24) := ⟨_, rfl⟩
  have rW : W.heap[w3.heap.size]? = some (.cells (cw 6 0) 24) := by rw [hW, heap_below _ _ _ s6]; exact r6
  have rV : W.heap[w6.heap.size]? = some (.cells (cw 6 15) 24) := by rw [hW]; exact heap_alloc_last _ _
  have cW : Below w.heap.size w W := by rw [hW]; exact c6.alloc c6.size _
  go_wp2
  rw [← hW]
  clear hW
  obtain ⟨F, hF1, hF2⟩ := below_fun W
  have hFx : ∀ u o, o < 6 → (F u).cell? ⟨w3.heap.size, o, none⟩ = some (.int .u64 (wd 0 o : Nat)) := fun u => row_cell (heap_of (hF1 u) _ _ _ rW)
  have hFy : ∀ u o, o < 6 → (F u).cell? ⟨w6.heap.size, o, none⟩ = some (.int .u64 (wd 15 o : Nat)) := fun u => row_cell (heap_of (hF1 u) _ _ _ rV)
  refine wp_region_below F hF2 (by kernel_rfl) (by kernel_rfl) ?_
  repeat quiet_step (first | (go_at_call 29; exact quietF hF1 hF2 (wof_al 15 (by decide) _)) | (go_at_call 29; exact quietF hF1 hF2 (wof_al 255 (by decide) _)) | (go_at_call 31; exact quietF hF1 hF2 (wtext_al _)))
  refine wpQuiet_nil ?_
  rintro _ ⟨u, rfl⟩
  go_wp2
  go_ret
  exact ⟨rfl, cW.trans ((hF1 u).mono cW.size)⟩
end Go.Proofs.YtfofonnoheijjaaDoor
