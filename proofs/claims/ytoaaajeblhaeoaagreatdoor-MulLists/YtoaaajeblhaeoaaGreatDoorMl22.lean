/-
  What the functions that the statement reaches return: part 22 (D2).
-/
import Derived.Test.YtoaaajeblhaeoaaGreatDoorMl21
namespace Go.Proofs.YtoaaajeblhaeoaaGreatDoor
set_option maxRecDepth 100000
set_option maxHeartbeats 40000000
set_option maxRecDepth 100000
open Go.RowKit WMath
set_option linter.unusedSimpArgs false
set_option linter.unusedVariables false
theorem rmu_nx (f m : Int) (x1 y1 x2 y2 u v : Nat) (w : World) (fl : Int)
  (KF : Box (∀ (T : TypeId) (g : Nat) (w : World), w.heap.size = g → Calls Tryz.prog 77 #[.int .u8 f, .int .u8 m, .slice (some ⟨g, 0, none⟩) 2 2] (w.alloc (.cells #[.int .u64 x1, .int .u64 y1, .int .u64 x2, .int .u64 y2] T)) fun r w' => r = .returned (.bool true) ∧ Below w.heap.size w w'))
  (KN1 : Box (∀ w, Calls Tryz.prog 78 #[.int .u8 f, .agg #[.int .u64 x1, .int .u64 y1]] w fun r w' => r = .returned (.bool true) ∧ Below w.heap.size w w'))
  (KC : Box (∀ (T : TypeId) (g : Nat) (w : World), w.heap.size = g → Calls Tryz.prog 79 #[.int .u8 f, .slice (some ⟨g, 0, none⟩) 2 2] (w.alloc (.cells #[.int .u64 x1, .int .u64 y1, .int .u64 x2, .int .u64 y2] T)) fun r w' => r = .returned (.tuple #[.agg #[.int .u64 u, .int .u64 v], .int .u8 fl]) ∧ Below w.heap.size w w'))
  : Calls Tryz.prog 41 #[.int .u8 f, .int .u8 m, .agg #[.int .u64 x1, .int .u64 y1], .agg #[.int .u64 x2, .int .u64 y2]] w fun r w' => r = .returned (.tuple #[.agg #[.int .u64 u, .int .u64 v], .int .u8 fl, .int .i64 0]) ∧ Below w.heap.size w w' := by
 obtain ⟨Ad, Ae, Ak, B0⟩ := opn3 w (Obj.cells #[.int .u64 x1, .int .u64 y1] 25) (Obj.cells #[.int .u64 x2, .int .u64 y2] 25) (Obj.cells #[.int .u64 0, .int .u64 0] 25)
 go_enter Tryz.func41, Tryz.ntmps41
 obtain ⟨An, Ao⟩ := cells2s Ad
 obtain ⟨Ap, Aq⟩ := cells2s Ae
 go_wp2_with fail
 refine (KF.out _ _ (((w.alloc (Obj.cells #[.int .u64 x1, .int .u64 y1] 25)).alloc (Obj.cells #[.int .u64 x2, .int .u64 y2] 25)).alloc (Obj.cells #[.int .u64 0, .int .u64 0] 25)) (by first | rfl | simp only [size_al])).mono ?_
 rintro r w1 ⟨rfl, b1⟩
 have B1 := btr B0 b1
 obtain ⟨Af, Ag, Al⟩ := rws3 b1 Ad Ae Ak
 clear b1 B0 Ad An Ao Ae Ap Aq Ak
 obtain ⟨Ar, As⟩ := cells2s Af
 obtain ⟨At, Au⟩ := cells2s Ag
 go_wp2_with fail
 refine (KN1.out _).mono ?_
 rintro r w2 ⟨rfl, b2⟩
 have B2 := btr B1 b2
 obtain ⟨Ah, Ai, Am⟩ := rws3 b2 Af Ag Al
 clear b2 B1 Af Ar As Ag At Au Al
 obtain ⟨Av, Aw⟩ := cells2s Ah
 obtain ⟨Ax, Ay⟩ := cells2s Ai
 go_wp2_with fail
 refine (KC.out _ _ w2 (by first | rfl | simp only [size_al])).mono ?_
 rintro r w3 ⟨rfl, b3⟩
 have B3 := btr B2 b3
 obtain ⟨Aa, Ab, Aj⟩ := rws3 b3 Ah Ai Am
 clear b3 B2 Ah Av Aw Ai Ax Ay Am
 obtain ⟨Az, AA⟩ := cells2s Aa
 obtain ⟨AB, AC⟩ := cells2s Ab
 have S4 := box B3.size
 have AD := ltR Aa
 have AE := ltR Ab
 have AF := ltR Aj
 have AG := heap_alloc_last w3 (Obj.cells #[.int .u64 u, .int .u64 v] 25)
 have B4 := btr B3 (bal w3 (Obj.cells #[.int .u64 u, .int .u64 v] 25))
 obtain ⟨AH, AI, Ac⟩ := rws3 (bal w3 (Obj.cells #[.int .u64 u, .int .u64 v] 25)) Aa Ab Aj
 clear B3 Aa Az AA Ab AB AC Aj
 obtain ⟨AJ, AK⟩ := cells2s AH
 obtain ⟨AL, AM⟩ := cells2s AI
 obtain ⟨AN, AO⟩ := cells2s AG
 obtain ⟨AP, AQ⟩ := cells2s Ac
 have q0 := fz (k := 0) Ac
 have q1 := fz (k := 1) Ac
 obtain ⟨E0, E1⟩ := set2_cells Ac (.int .u64 u) (.int .u64 v)
 go_wp2
 exact bodyPost_ret (v := .tuple #[.agg #[.int .u64 u, .int .u64 v], .int .u8 fl, .int .i64 0]) (by simp [results, Tryz.results41, go_sem, E0, E1]) rfl ⟨rfl, set2_below B4 (by first | exact Nat.le_refl _ | omega | (have := S4.out; have := AD.out; have := AE.out; have := AF.out; omega)) _ _⟩
theorem rmu_ny (f m : Int) (x1 y1 x2 y2 u v : Nat) (w : World) (fl : Int)
  (KF : Box (∀ (T : TypeId) (g : Nat) (w : World), w.heap.size = g → Calls Tryz.prog 77 #[.int .u8 f, .int .u8 m, .slice (some ⟨g, 0, none⟩) 2 2] (w.alloc (.cells #[.int .u64 x1, .int .u64 y1, .int .u64 x2, .int .u64 y2] T)) fun r w' => r = .returned (.bool true) ∧ Below w.heap.size w w'))
  (KN1 : Box (∀ w, Calls Tryz.prog 78 #[.int .u8 f, .agg #[.int .u64 x1, .int .u64 y1]] w fun r w' => r = .returned (.bool false) ∧ Below w.heap.size w w'))
  (KN2 : Box (∀ w, Calls Tryz.prog 78 #[.int .u8 f, .agg #[.int .u64 x2, .int .u64 y2]] w fun r w' => r = .returned (.bool true) ∧ Below w.heap.size w w'))
  (KC : Box (∀ (T : TypeId) (g : Nat) (w : World), w.heap.size = g → Calls Tryz.prog 79 #[.int .u8 f, .slice (some ⟨g, 0, none⟩) 2 2] (w.alloc (.cells #[.int .u64 x1, .int .u64 y1, .int .u64 x2, .int .u64 y2] T)) fun r w' => r = .returned (.tuple #[.agg #[.int .u64 u, .int .u64 v], .int .u8 fl]) ∧ Below w.heap.size w w'))
  : Calls Tryz.prog 41 #[.int .u8 f, .int .u8 m, .agg #[.int .u64 x1, .int .u64 y1], .agg #[.int .u64 x2, .int .u64 y2]] w fun r w' => r = .returned (.tuple #[.agg #[.int .u64 u, .int .u64 v], .int .u8 fl, .int .i64 0]) ∧ Below w.heap.size w w' := by
 obtain ⟨Ad, Ae, Am, B0⟩ := opn3 w (Obj.cells #[.int .u64 x1, .int .u64 y1] 25) (Obj.cells #[.int .u64 x2, .int .u64 y2] 25) (Obj.cells #[.int .u64 0, .int .u64 0] 25)
 go_enter Tryz.func41, Tryz.ntmps41
 obtain ⟨Aq, Ar⟩ := cells2s Ad
 obtain ⟨As, At⟩ := cells2s Ae
 go_wp2_with fail
 refine (KF.out _ _ (((w.alloc (Obj.cells #[.int .u64 x1, .int .u64 y1] 25)).alloc (Obj.cells #[.int .u64 x2, .int .u64 y2] 25)).alloc (Obj.cells #[.int .u64 0, .int .u64 0] 25)) (by first | rfl | simp only [size_al])).mono ?_
 rintro r w1 ⟨rfl, b1⟩
 have B1 := btr B0 b1
 obtain ⟨Af, Ag, An⟩ := rws3 b1 Ad Ae Am
 clear b1 B0 Ad Aq Ar Ae As At Am
 obtain ⟨Au, Av⟩ := cells2s Af
 obtain ⟨Aw, Ax⟩ := cells2s Ag
 go_wp2_with fail
 refine (KN1.out _).mono ?_
 rintro r w2 ⟨rfl, b2⟩
 have B2 := btr B1 b2
 obtain ⟨Ah, Ai, Ao⟩ := rws3 b2 Af Ag An
 clear b2 B1 Af Au Av Ag Aw Ax An
 obtain ⟨Ay, Az⟩ := cells2s Ah
 obtain ⟨AA, AB⟩ := cells2s Ai
 go_wp2_with fail
 refine (KN2.out _).mono ?_
 rintro r w3 ⟨rfl, b3⟩
 have B3 := btr B2 b3
 obtain ⟨Aj, Ak, Ap⟩ := rws3 b3 Ah Ai Ao
 clear b3 B2 Ah Ay Az Ai AA AB Ao
 obtain ⟨AC, AD⟩ := cells2s Aj
 obtain ⟨AE, AF⟩ := cells2s Ak
 go_wp2_with fail
 refine (KC.out _ _ w3 (by first | rfl | simp only [size_al])).mono ?_
 rintro r w4 ⟨rfl, b4⟩
 have B4 := btr B3 b4
 obtain ⟨Aa, Ab, Al⟩ := rws3 b4 Aj Ak Ap
 clear b4 B3 Aj AC AD Ak AE AF Ap
 obtain ⟨AG, AH⟩ := cells2s Aa
 obtain ⟨AI, AJ⟩ := cells2s Ab
 have S5 := box B4.size
 have AK := ltR Aa
 have AL := ltR Ab
 have AM := ltR Al
 have AN := heap_alloc_last w4 (Obj.cells #[.int .u64 u, .int .u64 v] 25)
 have B5 := btr B4 (bal w4 (Obj.cells #[.int .u64 u, .int .u64 v] 25))
 obtain ⟨AO, AP, Ac⟩ := rws3 (bal w4 (Obj.cells #[.int .u64 u, .int .u64 v] 25)) Aa Ab Al
 clear B4 Aa AG AH Ab AI AJ Al
 obtain ⟨AQ, AR⟩ := cells2s AO
 obtain ⟨AS, AT⟩ := cells2s AP
 obtain ⟨AU, AV⟩ := cells2s AN
 obtain ⟨AW, AX⟩ := cells2s Ac
 have q0 := fz (k := 0) Ac
 have q1 := fz (k := 1) Ac
 obtain ⟨E0, E1⟩ := set2_cells Ac (.int .u64 u) (.int .u64 v)
 go_wp2
 exact bodyPost_ret (v := .tuple #[.agg #[.int .u64 u, .int .u64 v], .int .u8 fl, .int .i64 0]) (by simp [results, Tryz.results41, go_sem, E0, E1]) rfl ⟨rfl, set2_below B5 (by first | exact Nat.le_refl _ | omega | (have := S5.out; have := AK.out; have := AL.out; have := AM.out; omega)) _ _⟩
theorem rmu_tu (f m : Int) (x1 y1 x2 y2 u v : Nat) (w : World) (s1 s2 neg : Bool) (hng : (!(s1 == s2)) = neg)
  (KF : Box (∀ (T : TypeId) (g : Nat) (w : World), w.heap.size = g → Calls Tryz.prog 77 #[.int .u8 f, .int .u8 m, .slice (some ⟨g, 0, none⟩) 2 2] (w.alloc (.cells #[.int .u64 x1, .int .u64 y1, .int .u64 x2, .int .u64 y2] T)) fun r w' => r = .returned (.bool true) ∧ Below w.heap.size w w'))
  (KN1 : Box (∀ w, Calls Tryz.prog 78 #[.int .u8 f, .agg #[.int .u64 x1, .int .u64 y1]] w fun r w' => r = .returned (.bool false) ∧ Below w.heap.size w w'))
  (KN2 : Box (∀ w, Calls Tryz.prog 78 #[.int .u8 f, .agg #[.int .u64 x2, .int .u64 y2]] w fun r w' => r = .returned (.bool false) ∧ Below w.heap.size w w'))
  (KS1 : Box (∀ w, Calls Tryz.prog 50 #[.int .u8 f, .agg #[.int .u64 x1, .int .u64 y1]] w fun r w' => r = .returned (.bool s1) ∧ Below w.heap.size w w'))
  (KS2 : Box (∀ w, Calls Tryz.prog 50 #[.int .u8 f, .agg #[.int .u64 x2, .int .u64 y2]] w fun r w' => r = .returned (.bool s2) ∧ Below w.heap.size w w'))
  (KI1 : Box (∀ w, Calls Tryz.prog 80 #[.int .u8 f, .agg #[.int .u64 x1, .int .u64 y1]] w fun r w' => r = .returned (.bool true) ∧ Below w.heap.size w w'))
  (KZ1 : Box (∀ w, Calls Tryz.prog 38 #[.int .u8 f, .agg #[.int .u64 x1, .int .u64 y1]] w fun r w' => r = .returned (.bool false) ∧ Below w.heap.size w w'))
  (KZ2 : Box (∀ w, Calls Tryz.prog 38 #[.int .u8 f, .agg #[.int .u64 x2, .int .u64 y2]] w fun r w' => r = .returned (.bool true) ∧ Below w.heap.size w w'))
  (KR : Box (∀ w, Calls Tryz.prog 81 #[.int .u8 f] w fun r w' => r = .returned (.agg #[.int .u64 u, .int .u64 v]) ∧ Below w.heap.size w w'))
  : Calls Tryz.prog 41 #[.int .u8 f, .int .u8 m, .agg #[.int .u64 x1, .int .u64 y1], .agg #[.int .u64 x2, .int .u64 y2]] w fun r w' => r = .returned (.tuple #[.agg #[.int .u64 u, .int .u64 v], .int .u8 16, .int .i64 0]) ∧ Below w.heap.size w w' := by
 obtain ⟨Ab, Ac, Ar, B0⟩ := opn3 w (Obj.cells #[.int .u64 x1, .int .u64 y1] 25) (Obj.cells #[.int .u64 x2, .int .u64 y2] 25) (Obj.cells #[.int .u64 0, .int .u64 0] 25)
 go_enter Tryz.func41, Tryz.ntmps41
 obtain ⟨Az, AA⟩ := cells2s Ab
 obtain ⟨AB, AC⟩ := cells2s Ac
 go_wp2_with fail
 refine (KF.out _ _ (((w.alloc (Obj.cells #[.int .u64 x1, .int .u64 y1] 25)).alloc (Obj.cells #[.int .u64 x2, .int .u64 y2] 25)).alloc (Obj.cells #[.int .u64 0, .int .u64 0] 25)) (by first | rfl | simp only [size_al])).mono ?_
 rintro r w1 ⟨rfl, b1⟩
 have B1 := btr B0 b1
 obtain ⟨Ad, Ae, As⟩ := rws3 b1 Ab Ac Ar
 clear b1 B0 Ab Az AA Ac AB AC Ar
 obtain ⟨AD, AE⟩ := cells2s Ad
 obtain ⟨AF, AG⟩ := cells2s Ae
 go_wp2_with fail
 refine (KN1.out _).mono ?_
 rintro r w2 ⟨rfl, b2⟩
 have B2 := btr B1 b2
 obtain ⟨Af, Ag, At⟩ := rws3 b2 Ad Ae As
 clear b2 B1 Ad AD AE Ae AF AG As
 obtain ⟨AH, AI⟩ := cells2s Af
 obtain ⟨AJ, AK⟩ := cells2s Ag
 go_wp2_with fail
 refine (KN2.out _).mono ?_
 rintro r w3 ⟨rfl, b3⟩
 have B3 := btr B2 b3
 obtain ⟨Ah, Ai, Au⟩ := rws3 b3 Af Ag At
 clear b3 B2 Af AH AI Ag AJ AK At
 obtain ⟨AL, AM⟩ := cells2s Ah
 obtain ⟨AN, AO⟩ := cells2s Ai
 have sS : Box (∀ W W1 : World, (Below w.heap.size w W ∧ W.heap[w.heap.size]? = some (.cells #[.int .u64 x1, .int .u64 y1] 25) ∧ W.heap[w.heap.size + 1]? = some (.cells #[.int .u64 x2, .int .u64 y2] 25) ∧ W.heap[w.heap.size + 1 + 1]? = some (.cells #[.int .u64 0, .int .u64 0] 25)) → Below W.heap.size W W1 → (Below w.heap.size w W1 ∧ W1.heap[w.heap.size]? = some (.cells #[.int .u64 x1, .int .u64 y1] 25) ∧ W1.heap[w.heap.size + 1]? = some (.cells #[.int .u64 x2, .int .u64 y2] 25) ∧ W1.heap[w.heap.size + 1 + 1]? = some (.cells #[.int .u64 0, .int .u64 0] 25))) := box (fun W W1 h b => ⟨btr h.1 b, heap_of b _ _ _ h.2.1, heap_of b _ _ _ h.2.2.1, heap_of b _ _ _ h.2.2.2⟩)
 have sC : Box (∀ W : World, (Below w.heap.size w W ∧ W.heap[w.heap.size]? = some (.cells #[.int .u64 x1, .int .u64 y1] 25) ∧ W.heap[w.heap.size + 1]? = some (.cells #[.int .u64 x2, .int .u64 y2] 25) ∧ W.heap[w.heap.size + 1 + 1]? = some (.cells #[.int .u64 0, .int .u64 0] 25)) → (Below w.heap.size w W ∧ W.heap[w.heap.size]? = some (.cells #[.int .u64 x1, .int .u64 y1] 25) ∧ W.heap[w.heap.size + 1]? = some (.cells #[.int .u64 x2, .int .u64 y2] 25) ∧ W.heap[w.heap.size + 1 + 1]? = some (.cells #[.int .u64 0, .int .u64 0] 25) ∧ W.cell? ⟨w.heap.size, 0, none⟩ = some (.int .u64 x1) ∧ W.cell? ⟨w.heap.size, 1, none⟩ = some (.int .u64 y1) ∧ W.cell? ⟨w.heap.size + 1, 0, none⟩ = some (.int .u64 x2) ∧ W.cell? ⟨w.heap.size + 1, 1, none⟩ = some (.int .u64 y2) ∧ W.cell? ⟨w.heap.size + 1 + 1, 0, none⟩ = some (.int .u64 0) ∧ W.cell? ⟨w.heap.size + 1 + 1, 1, none⟩ = some (.int .u64 0))) := box (fun W h => ⟨h.1, h.2.1, h.2.2.1, h.2.2.2, cell7 (h.2.1) 0 _ rfl, cell7 (h.2.1) 1 _ rfl, cell7 (h.2.2.1) 0 _ rfl, cell7 (h.2.2.1) 1 _ rfl, cell7 (h.2.2.2) 0 _ rfl, cell7 (h.2.2.2) 1 _ rfl⟩)
 have s0 : Below w.heap.size w (w3).drew ∧ (w3).drew.heap[w.heap.size]? = some (.cells #[.int .u64 x1, .int .u64 y1] 25) ∧ (w3).drew.heap[w.heap.size + 1]? = some (.cells #[.int .u64 x2, .int .u64 y2] 25) ∧ (w3).drew.heap[w.heap.size + 1 + 1]? = some (.cells #[.int .u64 0, .int .u64 0] 25) := ⟨B3.drew, Ah, Ai, Au⟩
 go_wp2_with fail
 go_region_held3 (fun W => Below w.heap.size w W ∧ W.heap[w.heap.size]? = some (.cells #[.int .u64 x1, .int .u64 y1] 25) ∧ W.heap[w.heap.size + 1]? = some (.cells #[.int .u64 x2, .int .u64 y2] 25) ∧ W.heap[w.heap.size + 1 + 1]? = some (.cells #[.int .u64 0, .int .u64 0] 25) ∧ W.cell? ⟨w.heap.size, 0, none⟩ = some (.int .u64 x1) ∧ W.cell? ⟨w.heap.size, 1, none⟩ = some (.int .u64 y1) ∧ W.cell? ⟨w.heap.size + 1, 0, none⟩ = some (.int .u64 x2) ∧ W.cell? ⟨w.heap.size + 1, 1, none⟩ = some (.int .u64 y2) ∧ W.cell? ⟨w.heap.size + 1 + 1, 0, none⟩ = some (.int .u64 0) ∧ W.cell? ⟨w.heap.size + 1 + 1, 1, none⟩ = some (.int .u64 0)) (first | exact sC.out _ s1 | exact sC.out _ s0)
  (first | (go_at_call_of 50 (Value.agg #[.int .u64 x1, .int .u64 y1]); (first | refine (KS1.out _).mono ?_ | refine (KS1.out _).mono ?_); rintro r wq ⟨rfl, bq⟩; have s1 := (by first | exact sS.out _ _ s1 bq | exact sS.out _ _ s0 bq); clear bq) | (go_at_call_of 50 (Value.agg #[.int .u64 x2, .int .u64 y2]); (first | refine (KS2.out _).mono ?_ | refine (KS2.out _).mono ?_); rintro r wq ⟨rfl, bq⟩; have s1 := (by first | exact sS.out _ _ s1 bq | exact sS.out _ _ s0 bq); clear bq) | fail)
 have B4 := (And.left s1)
 have Aj := s1.2.1
 have Ak := s1.2.2.1
 have Av := s1.2.2.2
 clear s0 s1 sS sC B3 Ah AL AM Ai AN AO Au
 obtain ⟨AP, AQ⟩ := cells2s Aj
 obtain ⟨AR, AS⟩ := cells2s Ak
 go_wp2_with fail
 refine (KI1.out _).mono ?_
 rintro r w5 ⟨rfl, b5⟩
 have B5 := btr B4 b5
 obtain ⟨Al, Am, Aw⟩ := rws3 b5 Aj Ak Av
 clear b5 B4 Aj AP AQ Ak AR AS Av
 obtain ⟨AT, AU⟩ := cells2s Al
 obtain ⟨AV, AW⟩ := cells2s Am
 go_wp2_with fail
 refine (KZ1.out _).mono ?_
 rintro r w6 ⟨rfl, b6⟩
 have B6 := btr B5 b6
 obtain ⟨An, Ao, Ax⟩ := rws3 b6 Al Am Aw
 clear b6 B5 Al AT AU Am AV AW Aw
 obtain ⟨AX, AY⟩ := cells2s An
 obtain ⟨AZ, A0⟩ := cells2s Ao
 go_wp2_with fail
 refine (KZ2.out _).mono ?_
 rintro r w7 ⟨rfl, b7⟩
 have B7 := btr B6 b7
 obtain ⟨Ap, Aq, Ay⟩ := rws3 b7 An Ao Ax
 clear b7 B6 An AX AY Ao AZ A0 Ax
 obtain ⟨A1, A2⟩ := cells2s Ap
 obtain ⟨A3, A4⟩ := cells2s Aq
 go_wp2_with fail
 refine (KR.out _).mono ?_
 rintro r w8 ⟨rfl, b8⟩
 have B8 := btr B7 b8
 obtain ⟨A5, A6, Aa⟩ := rws3 b8 Ap Aq Ay
 clear b8 B7 Ap A1 A2 Aq A3 A4 Ay
 obtain ⟨A7, A8⟩ := cells2s A5
 obtain ⟨A9, Ba⟩ := cells2s A6
 obtain ⟨Bb, Bc⟩ := cells2s Aa
 have q0 := fz (k := 0) Aa
 have q1 := fz (k := 1) Aa
 obtain ⟨E0, E1⟩ := set2_cells Aa (.int .u64 u) (.int .u64 v)
 go_wp2
 exact bodyPost_ret (v := .tuple #[.agg #[.int .u64 u, .int .u64 v], .int .u8 16, .int .i64 0]) (by simp [results, Tryz.results41, go_sem, E0, E1]) rfl ⟨rfl, set2_below B8 (by first | exact Nat.le_refl _ | omega | (skip; omega)) _ _⟩
theorem rmu_tf (f m : Int) (x1 y1 x2 y2 u v : Nat) (w : World) (s1 s2 neg : Bool) (hng : (!(s1 == s2)) = neg)
  (KF : Box (∀ (T : TypeId) (g : Nat) (w : World), w.heap.size = g → Calls Tryz.prog 77 #[.int .u8 f, .int .u8 m, .slice (some ⟨g, 0, none⟩) 2 2] (w.alloc (.cells #[.int .u64 x1, .int .u64 y1, .int .u64 x2, .int .u64 y2] T)) fun r w' => r = .returned (.bool true) ∧ Below w.heap.size w w'))
  (KN1 : Box (∀ w, Calls Tryz.prog 78 #[.int .u8 f, .agg #[.int .u64 x1, .int .u64 y1]] w fun r w' => r = .returned (.bool false) ∧ Below w.heap.size w w'))
  (KN2 : Box (∀ w, Calls Tryz.prog 78 #[.int .u8 f, .agg #[.int .u64 x2, .int .u64 y2]] w fun r w' => r = .returned (.bool false) ∧ Below w.heap.size w w'))
  (KS1 : Box (∀ w, Calls Tryz.prog 50 #[.int .u8 f, .agg #[.int .u64 x1, .int .u64 y1]] w fun r w' => r = .returned (.bool s1) ∧ Below w.heap.size w w'))
  (KS2 : Box (∀ w, Calls Tryz.prog 50 #[.int .u8 f, .agg #[.int .u64 x2, .int .u64 y2]] w fun r w' => r = .returned (.bool s2) ∧ Below w.heap.size w w'))
  (KI1 : Box (∀ w, Calls Tryz.prog 80 #[.int .u8 f, .agg #[.int .u64 x1, .int .u64 y1]] w fun r w' => r = .returned (.bool true) ∧ Below w.heap.size w w'))
  (KZ1 : Box (∀ w, Calls Tryz.prog 38 #[.int .u8 f, .agg #[.int .u64 x1, .int .u64 y1]] w fun r w' => r = .returned (.bool false) ∧ Below w.heap.size w w'))
  (KZ2 : Box (∀ w, Calls Tryz.prog 38 #[.int .u8 f, .agg #[.int .u64 x2, .int .u64 y2]] w fun r w' => r = .returned (.bool false) ∧ Below w.heap.size w w'))
  (KR : Box (∀ w, Calls Tryz.prog 90 #[.int .u8 f, .bool neg] w fun r w' => r = .returned (.agg #[.int .u64 u, .int .u64 v]) ∧ Below w.heap.size w w'))
  : Calls Tryz.prog 41 #[.int .u8 f, .int .u8 m, .agg #[.int .u64 x1, .int .u64 y1], .agg #[.int .u64 x2, .int .u64 y2]] w fun r w' => r = .returned (.tuple #[.agg #[.int .u64 u, .int .u64 v], .int .u8 0, .int .i64 0]) ∧ Below w.heap.size w w' := by
 obtain ⟨Ab, Ac, Ar, B0⟩ := opn3 w (Obj.cells #[.int .u64 x1, .int .u64 y1] 25) (Obj.cells #[.int .u64 x2, .int .u64 y2] 25) (Obj.cells #[.int .u64 0, .int .u64 0] 25)
 go_enter Tryz.func41, Tryz.ntmps41
 obtain ⟨Az, AA⟩ := cells2s Ab
 obtain ⟨AB, AC⟩ := cells2s Ac
 go_wp2_with fail
 refine (KF.out _ _ (((w.alloc (Obj.cells #[.int .u64 x1, .int .u64 y1] 25)).alloc (Obj.cells #[.int .u64 x2, .int .u64 y2] 25)).alloc (Obj.cells #[.int .u64 0, .int .u64 0] 25)) (by first | rfl | simp only [size_al])).mono ?_
 rintro r w1 ⟨rfl, b1⟩
 have B1 := btr B0 b1
 obtain ⟨Ad, Ae, As⟩ := rws3 b1 Ab Ac Ar
 clear b1 B0 Ab Az AA Ac AB AC Ar
 obtain ⟨AD, AE⟩ := cells2s Ad
 obtain ⟨AF, AG⟩ := cells2s Ae
 go_wp2_with fail
 refine (KN1.out _).mono ?_
 rintro r w2 ⟨rfl, b2⟩
 have B2 := btr B1 b2
 obtain ⟨Af, Ag, At⟩ := rws3 b2 Ad Ae As
 clear b2 B1 Ad AD AE Ae AF AG As
 obtain ⟨AH, AI⟩ := cells2s Af
 obtain ⟨AJ, AK⟩ := cells2s Ag
 go_wp2_with fail
 refine (KN2.out _).mono ?_
 rintro r w3 ⟨rfl, b3⟩
 have B3 := btr B2 b3
 obtain ⟨Ah, Ai, Au⟩ := rws3 b3 Af Ag At
 clear b3 B2 Af AH AI Ag AJ AK At
 obtain ⟨AL, AM⟩ := cells2s Ah
 obtain ⟨AN, AO⟩ := cells2s Ai
 have sS : Box (∀ W W1 : World, (Below w.heap.size w W ∧ W.heap[w.heap.size]? = some (.cells #[.int .u64 x1, .int .u64 y1] 25) ∧ W.heap[w.heap.size + 1]? = some (.cells #[.int .u64 x2, .int .u64 y2] 25) ∧ W.heap[w.heap.size + 1 + 1]? = some (.cells #[.int .u64 0, .int .u64 0] 25)) → Below W.heap.size W W1 → (Below w.heap.size w W1 ∧ W1.heap[w.heap.size]? = some (.cells #[.int .u64 x1, .int .u64 y1] 25) ∧ W1.heap[w.heap.size + 1]? = some (.cells #[.int .u64 x2, .int .u64 y2] 25) ∧ W1.heap[w.heap.size + 1 + 1]? = some (.cells #[.int .u64 0, .int .u64 0] 25))) := box (fun W W1 h b => ⟨btr h.1 b, heap_of b _ _ _ h.2.1, heap_of b _ _ _ h.2.2.1, heap_of b _ _ _ h.2.2.2⟩)
 have sC : Box (∀ W : World, (Below w.heap.size w W ∧ W.heap[w.heap.size]? = some (.cells #[.int .u64 x1, .int .u64 y1] 25) ∧ W.heap[w.heap.size + 1]? = some (.cells #[.int .u64 x2, .int .u64 y2] 25) ∧ W.heap[w.heap.size + 1 + 1]? = some (.cells #[.int .u64 0, .int .u64 0] 25)) → (Below w.heap.size w W ∧ W.heap[w.heap.size]? = some (.cells #[.int .u64 x1, .int .u64 y1] 25) ∧ W.heap[w.heap.size + 1]? = some (.cells #[.int .u64 x2, .int .u64 y2] 25) ∧ W.heap[w.heap.size + 1 + 1]? = some (.cells #[.int .u64 0, .int .u64 0] 25) ∧ W.cell? ⟨w.heap.size, 0, none⟩ = some (.int .u64 x1) ∧ W.cell? ⟨w.heap.size, 1, none⟩ = some (.int .u64 y1) ∧ W.cell? ⟨w.heap.size + 1, 0, none⟩ = some (.int .u64 x2) ∧ W.cell? ⟨w.heap.size + 1, 1, none⟩ = some (.int .u64 y2) ∧ W.cell? ⟨w.heap.size + 1 + 1, 0, none⟩ = some (.int .u64 0) ∧ W.cell? ⟨w.heap.size + 1 + 1, 1, none⟩ = some (.int .u64 0))) := box (fun W h => ⟨h.1, h.2.1, h.2.2.1, h.2.2.2, cell7 (h.2.1) 0 _ rfl, cell7 (h.2.1) 1 _ rfl, cell7 (h.2.2.1) 0 _ rfl, cell7 (h.2.2.1) 1 _ rfl, cell7 (h.2.2.2) 0 _ rfl, cell7 (h.2.2.2) 1 _ rfl⟩)
 have s0 : Below w.heap.size w (w3).drew ∧ (w3).drew.heap[w.heap.size]? = some (.cells #[.int .u64 x1, .int .u64 y1] 25) ∧ (w3).drew.heap[w.heap.size + 1]? = some (.cells #[.int .u64 x2, .int .u64 y2] 25) ∧ (w3).drew.heap[w.heap.size + 1 + 1]? = some (.cells #[.int .u64 0, .int .u64 0] 25) := ⟨B3.drew, Ah, Ai, Au⟩
 go_wp2_with fail
 go_region_held3 (fun W => Below w.heap.size w W ∧ W.heap[w.heap.size]? = some (.cells #[.int .u64 x1, .int .u64 y1] 25) ∧ W.heap[w.heap.size + 1]? = some (.cells #[.int .u64 x2, .int .u64 y2] 25) ∧ W.heap[w.heap.size + 1 + 1]? = some (.cells #[.int .u64 0, .int .u64 0] 25) ∧ W.cell? ⟨w.heap.size, 0, none⟩ = some (.int .u64 x1) ∧ W.cell? ⟨w.heap.size, 1, none⟩ = some (.int .u64 y1) ∧ W.cell? ⟨w.heap.size + 1, 0, none⟩ = some (.int .u64 x2) ∧ W.cell? ⟨w.heap.size + 1, 1, none⟩ = some (.int .u64 y2) ∧ W.cell? ⟨w.heap.size + 1 + 1, 0, none⟩ = some (.int .u64 0) ∧ W.cell? ⟨w.heap.size + 1 + 1, 1, none⟩ = some (.int .u64 0)) (first | exact sC.out _ s1 | exact sC.out _ s0)
  (first | (go_at_call_of 50 (Value.agg #[.int .u64 x1, .int .u64 y1]); (first | refine (KS1.out _).mono ?_ | refine (KS1.out _).mono ?_); rintro r wq ⟨rfl, bq⟩; have s1 := (by first | exact sS.out _ _ s1 bq | exact sS.out _ _ s0 bq); clear bq) | (go_at_call_of 50 (Value.agg #[.int .u64 x2, .int .u64 y2]); (first | refine (KS2.out _).mono ?_ | refine (KS2.out _).mono ?_); rintro r wq ⟨rfl, bq⟩; have s1 := (by first | exact sS.out _ _ s1 bq | exact sS.out _ _ s0 bq); clear bq) | fail)
 have B4 := (And.left s1)
 have Aj := s1.2.1
 have Ak := s1.2.2.1
 have Av := s1.2.2.2
 clear s0 s1 sS sC B3 Ah AL AM Ai AN AO Au
 obtain ⟨AP, AQ⟩ := cells2s Aj
 obtain ⟨AR, AS⟩ := cells2s Ak
 go_wp2_with fail
 refine (KI1.out _).mono ?_
 rintro r w5 ⟨rfl, b5⟩
 have B5 := btr B4 b5
 obtain ⟨Al, Am, Aw⟩ := rws3 b5 Aj Ak Av
 clear b5 B4 Aj AP AQ Ak AR AS Av
 obtain ⟨AT, AU⟩ := cells2s Al
 obtain ⟨AV, AW⟩ := cells2s Am
 go_wp2_with fail
 refine (KZ1.out _).mono ?_
 rintro r w6 ⟨rfl, b6⟩
 have B6 := btr B5 b6
 obtain ⟨An, Ao, Ax⟩ := rws3 b6 Al Am Aw
 clear b6 B5 Al AT AU Am AV AW Aw
 obtain ⟨AX, AY⟩ := cells2s An
 obtain ⟨AZ, A0⟩ := cells2s Ao
 go_wp2_with fail
 refine (KZ2.out _).mono ?_
 rintro r w7 ⟨rfl, b7⟩
 have B7 := btr B6 b7
 obtain ⟨Ap, Aq, Ay⟩ := rws3 b7 An Ao Ax
 clear b7 B6 An AX AY Ao AZ A0 Ax
 obtain ⟨A1, A2⟩ := cells2s Ap
 obtain ⟨A3, A4⟩ := cells2s Aq
 go_wp2_with fail
 refine (KR.out _).mono ?_
 rintro r w8 ⟨rfl, b8⟩
 have B8 := btr B7 b8
 obtain ⟨A5, A6, Aa⟩ := rws3 b8 Ap Aq Ay
 clear b8 B7 Ap A1 A2 Aq A3 A4 Ay
 obtain ⟨A7, A8⟩ := cells2s A5
 obtain ⟨A9, Ba⟩ := cells2s A6
 obtain ⟨Bb, Bc⟩ := cells2s Aa
 have q0 := fz (k := 0) Aa
 have q1 := fz (k := 1) Aa
 obtain ⟨E0, E1⟩ := set2_cells Aa (.int .u64 u) (.int .u64 v)
 go_wp2
 exact bodyPost_ret (v := .tuple #[.agg #[.int .u64 u, .int .u64 v], .int .u8 0, .int .i64 0]) (by simp [results, Tryz.results41, go_sem, E0, E1]) rfl ⟨rfl, set2_below B8 (by first | exact Nat.le_refl _ | omega | (skip; omega)) _ _⟩
theorem rmu_ut (f m : Int) (x1 y1 x2 y2 u v : Nat) (w : World) (s1 s2 neg : Bool) (hng : (!(s1 == s2)) = neg)
  (KF : Box (∀ (T : TypeId) (g : Nat) (w : World), w.heap.size = g → Calls Tryz.prog 77 #[.int .u8 f, .int .u8 m, .slice (some ⟨g, 0, none⟩) 2 2] (w.alloc (.cells #[.int .u64 x1, .int .u64 y1, .int .u64 x2, .int .u64 y2] T)) fun r w' => r = .returned (.bool true) ∧ Below w.heap.size w w'))
  (KN1 : Box (∀ w, Calls Tryz.prog 78 #[.int .u8 f, .agg #[.int .u64 x1, .int .u64 y1]] w fun r w' => r = .returned (.bool false) ∧ Below w.heap.size w w'))
  (KN2 : Box (∀ w, Calls Tryz.prog 78 #[.int .u8 f, .agg #[.int .u64 x2, .int .u64 y2]] w fun r w' => r = .returned (.bool false) ∧ Below w.heap.size w w'))
  (KS1 : Box (∀ w, Calls Tryz.prog 50 #[.int .u8 f, .agg #[.int .u64 x1, .int .u64 y1]] w fun r w' => r = .returned (.bool s1) ∧ Below w.heap.size w w'))
  (KS2 : Box (∀ w, Calls Tryz.prog 50 #[.int .u8 f, .agg #[.int .u64 x2, .int .u64 y2]] w fun r w' => r = .returned (.bool s2) ∧ Below w.heap.size w w'))
  (KI1 : Box (∀ w, Calls Tryz.prog 80 #[.int .u8 f, .agg #[.int .u64 x1, .int .u64 y1]] w fun r w' => r = .returned (.bool false) ∧ Below w.heap.size w w'))
  (KI2 : Box (∀ w, Calls Tryz.prog 80 #[.int .u8 f, .agg #[.int .u64 x2, .int .u64 y2]] w fun r w' => r = .returned (.bool true) ∧ Below w.heap.size w w'))
  (KZ1 : Box (∀ w, Calls Tryz.prog 38 #[.int .u8 f, .agg #[.int .u64 x1, .int .u64 y1]] w fun r w' => r = .returned (.bool true) ∧ Below w.heap.size w w'))
  (KR : Box (∀ w, Calls Tryz.prog 81 #[.int .u8 f] w fun r w' => r = .returned (.agg #[.int .u64 u, .int .u64 v]) ∧ Below w.heap.size w w'))
  : Calls Tryz.prog 41 #[.int .u8 f, .int .u8 m, .agg #[.int .u64 x1, .int .u64 y1], .agg #[.int .u64 x2, .int .u64 y2]] w fun r w' => r = .returned (.tuple #[.agg #[.int .u64 u, .int .u64 v], .int .u8 16, .int .i64 0]) ∧ Below w.heap.size w w' := by
 obtain ⟨Ab, Ac, Ar, B0⟩ := opn3 w (Obj.cells #[.int .u64 x1, .int .u64 y1] 25) (Obj.cells #[.int .u64 x2, .int .u64 y2] 25) (Obj.cells #[.int .u64 0, .int .u64 0] 25)
 go_enter Tryz.func41, Tryz.ntmps41
 obtain ⟨Az, AA⟩ := cells2s Ab
 obtain ⟨AB, AC⟩ := cells2s Ac
 go_wp2_with fail
 refine (KF.out _ _ (((w.alloc (Obj.cells #[.int .u64 x1, .int .u64 y1] 25)).alloc (Obj.cells #[.int .u64 x2, .int .u64 y2] 25)).alloc (Obj.cells #[.int .u64 0, .int .u64 0] 25)) (by first | rfl | simp only [size_al])).mono ?_
 rintro r w1 ⟨rfl, b1⟩
 have B1 := btr B0 b1
 obtain ⟨Ad, Ae, As⟩ := rws3 b1 Ab Ac Ar
 clear b1 B0 Ab Az AA Ac AB AC Ar
 obtain ⟨AD, AE⟩ := cells2s Ad
 obtain ⟨AF, AG⟩ := cells2s Ae
 go_wp2_with fail
 refine (KN1.out _).mono ?_
 rintro r w2 ⟨rfl, b2⟩
 have B2 := btr B1 b2
 obtain ⟨Af, Ag, At⟩ := rws3 b2 Ad Ae As
 clear b2 B1 Ad AD AE Ae AF AG As
 obtain ⟨AH, AI⟩ := cells2s Af
 obtain ⟨AJ, AK⟩ := cells2s Ag
 go_wp2_with fail
 refine (KN2.out _).mono ?_
 rintro r w3 ⟨rfl, b3⟩
 have B3 := btr B2 b3
 obtain ⟨Ah, Ai, Au⟩ := rws3 b3 Af Ag At
 clear b3 B2 Af AH AI Ag AJ AK At
 obtain ⟨AL, AM⟩ := cells2s Ah
 obtain ⟨AN, AO⟩ := cells2s Ai
 have sS : Box (∀ W W1 : World, (Below w.heap.size w W ∧ W.heap[w.heap.size]? = some (.cells #[.int .u64 x1, .int .u64 y1] 25) ∧ W.heap[w.heap.size + 1]? = some (.cells #[.int .u64 x2, .int .u64 y2] 25) ∧ W.heap[w.heap.size + 1 + 1]? = some (.cells #[.int .u64 0, .int .u64 0] 25)) → Below W.heap.size W W1 → (Below w.heap.size w W1 ∧ W1.heap[w.heap.size]? = some (.cells #[.int .u64 x1, .int .u64 y1] 25) ∧ W1.heap[w.heap.size + 1]? = some (.cells #[.int .u64 x2, .int .u64 y2] 25) ∧ W1.heap[w.heap.size + 1 + 1]? = some (.cells #[.int .u64 0, .int .u64 0] 25))) := box (fun W W1 h b => ⟨btr h.1 b, heap_of b _ _ _ h.2.1, heap_of b _ _ _ h.2.2.1, heap_of b _ _ _ h.2.2.2⟩)
 have sC : Box (∀ W : World, (Below w.heap.size w W ∧ W.heap[w.heap.size]? = some (.cells #[.int .u64 x1, .int .u64 y1] 25) ∧ W.heap[w.heap.size + 1]? = some (.cells #[.int .u64 x2, .int .u64 y2] 25) ∧ W.heap[w.heap.size + 1 + 1]? = some (.cells #[.int .u64 0, .int .u64 0] 25)) → (Below w.heap.size w W ∧ W.heap[w.heap.size]? = some (.cells #[.int .u64 x1, .int .u64 y1] 25) ∧ W.heap[w.heap.size + 1]? = some (.cells #[.int .u64 x2, .int .u64 y2] 25) ∧ W.heap[w.heap.size + 1 + 1]? = some (.cells #[.int .u64 0, .int .u64 0] 25) ∧ W.cell? ⟨w.heap.size, 0, none⟩ = some (.int .u64 x1) ∧ W.cell? ⟨w.heap.size, 1, none⟩ = some (.int .u64 y1) ∧ W.cell? ⟨w.heap.size + 1, 0, none⟩ = some (.int .u64 x2) ∧ W.cell? ⟨w.heap.size + 1, 1, none⟩ = some (.int .u64 y2) ∧ W.cell? ⟨w.heap.size + 1 + 1, 0, none⟩ = some (.int .u64 0) ∧ W.cell? ⟨w.heap.size + 1 + 1, 1, none⟩ = some (.int .u64 0))) := box (fun W h => ⟨h.1, h.2.1, h.2.2.1, h.2.2.2, cell7 (h.2.1) 0 _ rfl, cell7 (h.2.1) 1 _ rfl, cell7 (h.2.2.1) 0 _ rfl, cell7 (h.2.2.1) 1 _ rfl, cell7 (h.2.2.2) 0 _ rfl, cell7 (h.2.2.2) 1 _ rfl⟩)
 have s0 : Below w.heap.size w (w3).drew ∧ (w3).drew.heap[w.heap.size]? = some (.cells #[.int .u64 x1, .int .u64 y1] 25) ∧ (w3).drew.heap[w.heap.size + 1]? = some (.cells #[.int .u64 x2, .int .u64 y2] 25) ∧ (w3).drew.heap[w.heap.size + 1 + 1]? = some (.cells #[.int .u64 0, .int .u64 0] 25) := ⟨B3.drew, Ah, Ai, Au⟩
 go_wp2_with fail
 go_region_held3 (fun W => Below w.heap.size w W ∧ W.heap[w.heap.size]? = some (.cells #[.int .u64 x1, .int .u64 y1] 25) ∧ W.heap[w.heap.size + 1]? = some (.cells #[.int .u64 x2, .int .u64 y2] 25) ∧ W.heap[w.heap.size + 1 + 1]? = some (.cells #[.int .u64 0, .int .u64 0] 25) ∧ W.cell? ⟨w.heap.size, 0, none⟩ = some (.int .u64 x1) ∧ W.cell? ⟨w.heap.size, 1, none⟩ = some (.int .u64 y1) ∧ W.cell? ⟨w.heap.size + 1, 0, none⟩ = some (.int .u64 x2) ∧ W.cell? ⟨w.heap.size + 1, 1, none⟩ = some (.int .u64 y2) ∧ W.cell? ⟨w.heap.size + 1 + 1, 0, none⟩ = some (.int .u64 0) ∧ W.cell? ⟨w.heap.size + 1 + 1, 1, none⟩ = some (.int .u64 0)) (first | exact sC.out _ s1 | exact sC.out _ s0)
  (first | (go_at_call_of 50 (Value.agg #[.int .u64 x1, .int .u64 y1]); (first | refine (KS1.out _).mono ?_ | refine (KS1.out _).mono ?_); rintro r wq ⟨rfl, bq⟩; have s1 := (by first | exact sS.out _ _ s1 bq | exact sS.out _ _ s0 bq); clear bq) | (go_at_call_of 50 (Value.agg #[.int .u64 x2, .int .u64 y2]); (first | refine (KS2.out _).mono ?_ | refine (KS2.out _).mono ?_); rintro r wq ⟨rfl, bq⟩; have s1 := (by first | exact sS.out _ _ s1 bq | exact sS.out _ _ s0 bq); clear bq) | fail)
 have B4 := (And.left s1)
 have Aj := s1.2.1
 have Ak := s1.2.2.1
 have Av := s1.2.2.2
 clear s0 s1 sS sC B3 Ah AL AM Ai AN AO Au
 obtain ⟨AP, AQ⟩ := cells2s Aj
 obtain ⟨AR, AS⟩ := cells2s Ak
 go_wp2_with fail
 refine (KI1.out _).mono ?_
 rintro r w5 ⟨rfl, b5⟩
 have B5 := btr B4 b5
 obtain ⟨Al, Am, Aw⟩ := rws3 b5 Aj Ak Av
 clear b5 B4 Aj AP AQ Ak AR AS Av
 obtain ⟨AT, AU⟩ := cells2s Al
 obtain ⟨AV, AW⟩ := cells2s Am
 go_wp2_with fail
 refine (KI2.out _).mono ?_
 rintro r w6 ⟨rfl, b6⟩
 have B6 := btr B5 b6
 obtain ⟨An, Ao, Ax⟩ := rws3 b6 Al Am Aw
 clear b6 B5 Al AT AU Am AV AW Aw
 obtain ⟨AX, AY⟩ := cells2s An
 obtain ⟨AZ, A0⟩ := cells2s Ao
 go_wp2_with fail
 refine (KZ1.out _).mono ?_
 rintro r w7 ⟨rfl, b7⟩
 have B7 := btr B6 b7
 obtain ⟨Ap, Aq, Ay⟩ := rws3 b7 An Ao Ax
 clear b7 B6 An AX AY Ao AZ A0 Ax
 obtain ⟨A1, A2⟩ := cells2s Ap
 obtain ⟨A3, A4⟩ := cells2s Aq
 go_wp2_with fail
 refine (KR.out _).mono ?_
 rintro r w8 ⟨rfl, b8⟩
 have B8 := btr B7 b8
 obtain ⟨A5, A6, Aa⟩ := rws3 b8 Ap Aq Ay
 clear b8 B7 Ap A1 A2 Aq A3 A4 Ay
 obtain ⟨A7, A8⟩ := cells2s A5
 obtain ⟨A9, Ba⟩ := cells2s A6
 obtain ⟨Bb, Bc⟩ := cells2s Aa
 have q0 := fz (k := 0) Aa
 have q1 := fz (k := 1) Aa
 obtain ⟨E0, E1⟩ := set2_cells Aa (.int .u64 u) (.int .u64 v)
 go_wp2
 exact bodyPost_ret (v := .tuple #[.agg #[.int .u64 u, .int .u64 v], .int .u8 16, .int .i64 0]) (by simp [results, Tryz.results41, go_sem, E0, E1]) rfl ⟨rfl, set2_below B8 (by first | exact Nat.le_refl _ | omega | (skip; omega)) _ _⟩
theorem rmu_uf (f m : Int) (x1 y1 x2 y2 u v : Nat) (w : World) (s1 s2 neg : Bool) (hng : (!(s1 == s2)) = neg)
  (KF : Box (∀ (T : TypeId) (g : Nat) (w : World), w.heap.size = g → Calls Tryz.prog 77 #[.int .u8 f, .int .u8 m, .slice (some ⟨g, 0, none⟩) 2 2] (w.alloc (.cells #[.int .u64 x1, .int .u64 y1, .int .u64 x2, .int .u64 y2] T)) fun r w' => r = .returned (.bool true) ∧ Below w.heap.size w w'))
  (KN1 : Box (∀ w, Calls Tryz.prog 78 #[.int .u8 f, .agg #[.int .u64 x1, .int .u64 y1]] w fun r w' => r = .returned (.bool false) ∧ Below w.heap.size w w'))
  (KN2 : Box (∀ w, Calls Tryz.prog 78 #[.int .u8 f, .agg #[.int .u64 x2, .int .u64 y2]] w fun r w' => r = .returned (.bool false) ∧ Below w.heap.size w w'))
  (KS1 : Box (∀ w, Calls Tryz.prog 50 #[.int .u8 f, .agg #[.int .u64 x1, .int .u64 y1]] w fun r w' => r = .returned (.bool s1) ∧ Below w.heap.size w w'))
  (KS2 : Box (∀ w, Calls Tryz.prog 50 #[.int .u8 f, .agg #[.int .u64 x2, .int .u64 y2]] w fun r w' => r = .returned (.bool s2) ∧ Below w.heap.size w w'))
  (KI1 : Box (∀ w, Calls Tryz.prog 80 #[.int .u8 f, .agg #[.int .u64 x1, .int .u64 y1]] w fun r w' => r = .returned (.bool false) ∧ Below w.heap.size w w'))
  (KI2 : Box (∀ w, Calls Tryz.prog 80 #[.int .u8 f, .agg #[.int .u64 x2, .int .u64 y2]] w fun r w' => r = .returned (.bool true) ∧ Below w.heap.size w w'))
  (KZ1 : Box (∀ w, Calls Tryz.prog 38 #[.int .u8 f, .agg #[.int .u64 x1, .int .u64 y1]] w fun r w' => r = .returned (.bool false) ∧ Below w.heap.size w w'))
  (KZ2 : Box (∀ w, Calls Tryz.prog 38 #[.int .u8 f, .agg #[.int .u64 x2, .int .u64 y2]] w fun r w' => r = .returned (.bool false) ∧ Below w.heap.size w w'))
  (KR : Box (∀ w, Calls Tryz.prog 90 #[.int .u8 f, .bool neg] w fun r w' => r = .returned (.agg #[.int .u64 u, .int .u64 v]) ∧ Below w.heap.size w w'))
  : Calls Tryz.prog 41 #[.int .u8 f, .int .u8 m, .agg #[.int .u64 x1, .int .u64 y1], .agg #[.int .u64 x2, .int .u64 y2]] w fun r w' => r = .returned (.tuple #[.agg #[.int .u64 u, .int .u64 v], .int .u8 0, .int .i64 0]) ∧ Below w.heap.size w w' := by
 obtain ⟨Ab, Ac, At, B0⟩ := opn3 w (Obj.cells #[.int .u64 x1, .int .u64 y1] 25) (Obj.cells #[.int .u64 x2, .int .u64 y2] 25) (Obj.cells #[.int .u64 0, .int .u64 0] 25)
 go_enter Tryz.func41, Tryz.ntmps41
 obtain ⟨AC, AD⟩ := cells2s Ab
 obtain ⟨AE, AF⟩ := cells2s Ac
 go_wp2_with fail
 refine (KF.out _ _ (((w.alloc (Obj.cells #[.int .u64 x1, .int .u64 y1] 25)).alloc (Obj.cells #[.int .u64 x2, .int .u64 y2] 25)).alloc (Obj.cells #[.int .u64 0, .int .u64 0] 25)) (by first | rfl | simp only [size_al])).mono ?_
 rintro r w1 ⟨rfl, b1⟩
 have B1 := btr B0 b1
 obtain ⟨Ad, Ae, Au⟩ := rws3 b1 Ab Ac At
 clear b1 B0 Ab AC AD Ac AE AF At
 obtain ⟨AG, AH⟩ := cells2s Ad
 obtain ⟨AI, AJ⟩ := cells2s Ae
 go_wp2_with fail
 refine (KN1.out _).mono ?_
 rintro r w2 ⟨rfl, b2⟩
 have B2 := btr B1 b2
 obtain ⟨Af, Ag, Av⟩ := rws3 b2 Ad Ae Au
 clear b2 B1 Ad AG AH Ae AI AJ Au
 obtain ⟨AK, AL⟩ := cells2s Af
 obtain ⟨AM, AN⟩ := cells2s Ag
 go_wp2_with fail
 refine (KN2.out _).mono ?_
 rintro r w3 ⟨rfl, b3⟩
 have B3 := btr B2 b3
 obtain ⟨Ah, Ai, Aw⟩ := rws3 b3 Af Ag Av
 clear b3 B2 Af AK AL Ag AM AN Av
 obtain ⟨AO, AP⟩ := cells2s Ah
 obtain ⟨AQ, AR⟩ := cells2s Ai
 have sS : Box (∀ W W1 : World, (Below w.heap.size w W ∧ W.heap[w.heap.size]? = some (.cells #[.int .u64 x1, .int .u64 y1] 25) ∧ W.heap[w.heap.size + 1]? = some (.cells #[.int .u64 x2, .int .u64 y2] 25) ∧ W.heap[w.heap.size + 1 + 1]? = some (.cells #[.int .u64 0, .int .u64 0] 25)) → Below W.heap.size W W1 → (Below w.heap.size w W1 ∧ W1.heap[w.heap.size]? = some (.cells #[.int .u64 x1, .int .u64 y1] 25) ∧ W1.heap[w.heap.size + 1]? = some (.cells #[.int .u64 x2, .int .u64 y2] 25) ∧ W1.heap[w.heap.size + 1 + 1]? = some (.cells #[.int .u64 0, .int .u64 0] 25))) := box (fun W W1 h b => ⟨btr h.1 b, heap_of b _ _ _ h.2.1, heap_of b _ _ _ h.2.2.1, heap_of b _ _ _ h.2.2.2⟩)
 have sC : Box (∀ W : World, (Below w.heap.size w W ∧ W.heap[w.heap.size]? = some (.cells #[.int .u64 x1, .int .u64 y1] 25) ∧ W.heap[w.heap.size + 1]? = some (.cells #[.int .u64 x2, .int .u64 y2] 25) ∧ W.heap[w.heap.size + 1 + 1]? = some (.cells #[.int .u64 0, .int .u64 0] 25)) → (Below w.heap.size w W ∧ W.heap[w.heap.size]? = some (.cells #[.int .u64 x1, .int .u64 y1] 25) ∧ W.heap[w.heap.size + 1]? = some (.cells #[.int .u64 x2, .int .u64 y2] 25) ∧ W.heap[w.heap.size + 1 + 1]? = some (.cells #[.int .u64 0, .int .u64 0] 25) ∧ W.cell? ⟨w.heap.size, 0, none⟩ = some (.int .u64 x1) ∧ W.cell? ⟨w.heap.size, 1, none⟩ = some (.int .u64 y1) ∧ W.cell? ⟨w.heap.size + 1, 0, none⟩ = some (.int .u64 x2) ∧ W.cell? ⟨w.heap.size + 1, 1, none⟩ = some (.int .u64 y2) ∧ W.cell? ⟨w.heap.size + 1 + 1, 0, none⟩ = some (.int .u64 0) ∧ W.cell? ⟨w.heap.size + 1 + 1, 1, none⟩ = some (.int .u64 0))) := box (fun W h => ⟨h.1, h.2.1, h.2.2.1, h.2.2.2, cell7 (h.2.1) 0 _ rfl, cell7 (h.2.1) 1 _ rfl, cell7 (h.2.2.1) 0 _ rfl, cell7 (h.2.2.1) 1 _ rfl, cell7 (h.2.2.2) 0 _ rfl, cell7 (h.2.2.2) 1 _ rfl⟩)
 have s0 : Below w.heap.size w (w3).drew ∧ (w3).drew.heap[w.heap.size]? = some (.cells #[.int .u64 x1, .int .u64 y1] 25) ∧ (w3).drew.heap[w.heap.size + 1]? = some (.cells #[.int .u64 x2, .int .u64 y2] 25) ∧ (w3).drew.heap[w.heap.size + 1 + 1]? = some (.cells #[.int .u64 0, .int .u64 0] 25) := ⟨B3.drew, Ah, Ai, Aw⟩
 go_wp2_with fail
 go_region_held3 (fun W => Below w.heap.size w W ∧ W.heap[w.heap.size]? = some (.cells #[.int .u64 x1, .int .u64 y1] 25) ∧ W.heap[w.heap.size + 1]? = some (.cells #[.int .u64 x2, .int .u64 y2] 25) ∧ W.heap[w.heap.size + 1 + 1]? = some (.cells #[.int .u64 0, .int .u64 0] 25) ∧ W.cell? ⟨w.heap.size, 0, none⟩ = some (.int .u64 x1) ∧ W.cell? ⟨w.heap.size, 1, none⟩ = some (.int .u64 y1) ∧ W.cell? ⟨w.heap.size + 1, 0, none⟩ = some (.int .u64 x2) ∧ W.cell? ⟨w.heap.size + 1, 1, none⟩ = some (.int .u64 y2) ∧ W.cell? ⟨w.heap.size + 1 + 1, 0, none⟩ = some (.int .u64 0) ∧ W.cell? ⟨w.heap.size + 1 + 1, 1, none⟩ = some (.int .u64 0)) (first | exact sC.out _ s1 | exact sC.out _ s0)
  (first | (go_at_call_of 50 (Value.agg #[.int .u64 x1, .int .u64 y1]); (first | refine (KS1.out _).mono ?_ | refine (KS1.out _).mono ?_); rintro r wq ⟨rfl, bq⟩; have s1 := (by first | exact sS.out _ _ s1 bq | exact sS.out _ _ s0 bq); clear bq) | (go_at_call_of 50 (Value.agg #[.int .u64 x2, .int .u64 y2]); (first | refine (KS2.out _).mono ?_ | refine (KS2.out _).mono ?_); rintro r wq ⟨rfl, bq⟩; have s1 := (by first | exact sS.out _ _ s1 bq | exact sS.out _ _ s0 bq); clear bq) | fail)
 have B4 := (And.left s1)
 have Aj := s1.2.1
 have Ak := s1.2.2.1
 have Ax := s1.2.2.2
 clear s0 s1 sS sC B3 Ah AO AP Ai AQ AR Aw
 obtain ⟨AS, AT⟩ := cells2s Aj
 obtain ⟨AU, AV⟩ := cells2s Ak
 go_wp2_with fail
 refine (KI1.out _).mono ?_
 rintro r w5 ⟨rfl, b5⟩
 have B5 := btr B4 b5
 obtain ⟨Al, Am, Ay⟩ := rws3 b5 Aj Ak Ax
 clear b5 B4 Aj AS AT Ak AU AV Ax
 obtain ⟨AW, AX⟩ := cells2s Al
 obtain ⟨AY, AZ⟩ := cells2s Am
 go_wp2_with fail
 refine (KI2.out _).mono ?_
 rintro r w6 ⟨rfl, b6⟩
 have B6 := btr B5 b6
 obtain ⟨An, Ao, Az⟩ := rws3 b6 Al Am Ay
 clear b6 B5 Al AW AX Am AY AZ Ay
 obtain ⟨A0, A1⟩ := cells2s An
 obtain ⟨A2, A3⟩ := cells2s Ao
 go_wp2_with fail
 refine (KZ1.out _).mono ?_
 rintro r w7 ⟨rfl, b7⟩
 have B7 := btr B6 b7
 obtain ⟨Ap, Aq, AA⟩ := rws3 b7 An Ao Az
 clear b7 B6 An A0 A1 Ao A2 A3 Az
 obtain ⟨A4, A5⟩ := cells2s Ap
 obtain ⟨A6, A7⟩ := cells2s Aq
 go_wp2_with fail
 refine (KZ2.out _).mono ?_
 rintro r w8 ⟨rfl, b8⟩
 have B8 := btr B7 b8
 obtain ⟨Ar, As, AB⟩ := rws3 b8 Ap Aq AA
 clear b8 B7 Ap A4 A5 Aq A6 A7 AA
 obtain ⟨A8, A9⟩ := cells2s Ar
 obtain ⟨Ba, Bb⟩ := cells2s As
 go_wp2_with fail
 refine (KR.out _).mono ?_
 rintro r w9 ⟨rfl, b9⟩
 have B9 := btr B8 b9
 obtain ⟨Bc, Bd, Aa⟩ := rws3 b9 Ar As AB
 clear b9 B8 Ar A8 A9 As Ba Bb AB
 obtain ⟨Be, Bf⟩ := cells2s Bc
 obtain ⟨Bg, Bh⟩ := cells2s Bd
 obtain ⟨Bi, Bj⟩ := cells2s Aa
 have q0 := fz (k := 0) Aa
 have q1 := fz (k := 1) Aa
 obtain ⟨E0, E1⟩ := set2_cells Aa (.int .u64 u) (.int .u64 v)
 go_wp2
 exact bodyPost_ret (v := .tuple #[.agg #[.int .u64 u, .int .u64 v], .int .u8 0, .int .i64 0]) (by simp [results, Tryz.results41, go_sem, E0, E1]) rfl ⟨rfl, set2_below B9 (by first | exact Nat.le_refl _ | omega | (skip; omega)) _ _⟩
theorem rmu_ft (f m : Int) (x1 y1 x2 y2 u v : Nat) (w : World) (s1 s2 neg : Bool) (hng : (!(s1 == s2)) = neg)
  (KF : Box (∀ (T : TypeId) (g : Nat) (w : World), w.heap.size = g → Calls Tryz.prog 77 #[.int .u8 f, .int .u8 m, .slice (some ⟨g, 0, none⟩) 2 2] (w.alloc (.cells #[.int .u64 x1, .int .u64 y1, .int .u64 x2, .int .u64 y2] T)) fun r w' => r = .returned (.bool true) ∧ Below w.heap.size w w'))
  (KN1 : Box (∀ w, Calls Tryz.prog 78 #[.int .u8 f, .agg #[.int .u64 x1, .int .u64 y1]] w fun r w' => r = .returned (.bool false) ∧ Below w.heap.size w w'))
  (KN2 : Box (∀ w, Calls Tryz.prog 78 #[.int .u8 f, .agg #[.int .u64 x2, .int .u64 y2]] w fun r w' => r = .returned (.bool false) ∧ Below w.heap.size w w'))
  (KS1 : Box (∀ w, Calls Tryz.prog 50 #[.int .u8 f, .agg #[.int .u64 x1, .int .u64 y1]] w fun r w' => r = .returned (.bool s1) ∧ Below w.heap.size w w'))
  (KS2 : Box (∀ w, Calls Tryz.prog 50 #[.int .u8 f, .agg #[.int .u64 x2, .int .u64 y2]] w fun r w' => r = .returned (.bool s2) ∧ Below w.heap.size w w'))
  (KI1 : Box (∀ w, Calls Tryz.prog 80 #[.int .u8 f, .agg #[.int .u64 x1, .int .u64 y1]] w fun r w' => r = .returned (.bool false) ∧ Below w.heap.size w w'))
  (KI2 : Box (∀ w, Calls Tryz.prog 80 #[.int .u8 f, .agg #[.int .u64 x2, .int .u64 y2]] w fun r w' => r = .returned (.bool false) ∧ Below w.heap.size w w'))
  (KZ1 : Box (∀ w, Calls Tryz.prog 38 #[.int .u8 f, .agg #[.int .u64 x1, .int .u64 y1]] w fun r w' => r = .returned (.bool true) ∧ Below w.heap.size w w'))
  (KR : Box (∀ w, Calls Tryz.prog 91 #[.int .u8 f, .bool neg] w fun r w' => r = .returned (.agg #[.int .u64 u, .int .u64 v]) ∧ Below w.heap.size w w'))
  : Calls Tryz.prog 41 #[.int .u8 f, .int .u8 m, .agg #[.int .u64 x1, .int .u64 y1], .agg #[.int .u64 x2, .int .u64 y2]] w fun r w' => r = .returned (.tuple #[.agg #[.int .u64 u, .int .u64 v], .int .u8 0, .int .i64 0]) ∧ Below w.heap.size w w' := by
 obtain ⟨Ab, Ac, Ar, B0⟩ := opn3 w (Obj.cells #[.int .u64 x1, .int .u64 y1] 25) (Obj.cells #[.int .u64 x2, .int .u64 y2] 25) (Obj.cells #[.int .u64 0, .int .u64 0] 25)
 go_enter Tryz.func41, Tryz.ntmps41
 obtain ⟨Az, AA⟩ := cells2s Ab
 obtain ⟨AB, AC⟩ := cells2s Ac
 go_wp2_with fail
 refine (KF.out _ _ (((w.alloc (Obj.cells #[.int .u64 x1, .int .u64 y1] 25)).alloc (Obj.cells #[.int .u64 x2, .int .u64 y2] 25)).alloc (Obj.cells #[.int .u64 0, .int .u64 0] 25)) (by first | rfl | simp only [size_al])).mono ?_
 rintro r w1 ⟨rfl, b1⟩
 have B1 := btr B0 b1
 obtain ⟨Ad, Ae, As⟩ := rws3 b1 Ab Ac Ar
 clear b1 B0 Ab Az AA Ac AB AC Ar
 obtain ⟨AD, AE⟩ := cells2s Ad
 obtain ⟨AF, AG⟩ := cells2s Ae
 go_wp2_with fail
 refine (KN1.out _).mono ?_
 rintro r w2 ⟨rfl, b2⟩
 have B2 := btr B1 b2
 obtain ⟨Af, Ag, At⟩ := rws3 b2 Ad Ae As
 clear b2 B1 Ad AD AE Ae AF AG As
 obtain ⟨AH, AI⟩ := cells2s Af
 obtain ⟨AJ, AK⟩ := cells2s Ag
 go_wp2_with fail
 refine (KN2.out _).mono ?_
 rintro r w3 ⟨rfl, b3⟩
 have B3 := btr B2 b3
 obtain ⟨Ah, Ai, Au⟩ := rws3 b3 Af Ag At
 clear b3 B2 Af AH AI Ag AJ AK At
 obtain ⟨AL, AM⟩ := cells2s Ah
 obtain ⟨AN, AO⟩ := cells2s Ai
 have sS : Box (∀ W W1 : World, (Below w.heap.size w W ∧ W.heap[w.heap.size]? = some (.cells #[.int .u64 x1, .int .u64 y1] 25) ∧ W.heap[w.heap.size + 1]? = some (.cells #[.int .u64 x2, .int .u64 y2] 25) ∧ W.heap[w.heap.size + 1 + 1]? = some (.cells #[.int .u64 0, .int .u64 0] 25)) → Below W.heap.size W W1 → (Below w.heap.size w W1 ∧ W1.heap[w.heap.size]? = some (.cells #[.int .u64 x1, .int .u64 y1] 25) ∧ W1.heap[w.heap.size + 1]? = some (.cells #[.int .u64 x2, .int .u64 y2] 25) ∧ W1.heap[w.heap.size + 1 + 1]? = some (.cells #[.int .u64 0, .int .u64 0] 25))) := box (fun W W1 h b => ⟨btr h.1 b, heap_of b _ _ _ h.2.1, heap_of b _ _ _ h.2.2.1, heap_of b _ _ _ h.2.2.2⟩)
 have sC : Box (∀ W : World, (Below w.heap.size w W ∧ W.heap[w.heap.size]? = some (.cells #[.int .u64 x1, .int .u64 y1] 25) ∧ W.heap[w.heap.size + 1]? = some (.cells #[.int .u64 x2, .int .u64 y2] 25) ∧ W.heap[w.heap.size + 1 + 1]? = some (.cells #[.int .u64 0, .int .u64 0] 25)) → (Below w.heap.size w W ∧ W.heap[w.heap.size]? = some (.cells #[.int .u64 x1, .int .u64 y1] 25) ∧ W.heap[w.heap.size + 1]? = some (.cells #[.int .u64 x2, .int .u64 y2] 25) ∧ W.heap[w.heap.size + 1 + 1]? = some (.cells #[.int .u64 0, .int .u64 0] 25) ∧ W.cell? ⟨w.heap.size, 0, none⟩ = some (.int .u64 x1) ∧ W.cell? ⟨w.heap.size, 1, none⟩ = some (.int .u64 y1) ∧ W.cell? ⟨w.heap.size + 1, 0, none⟩ = some (.int .u64 x2) ∧ W.cell? ⟨w.heap.size + 1, 1, none⟩ = some (.int .u64 y2) ∧ W.cell? ⟨w.heap.size + 1 + 1, 0, none⟩ = some (.int .u64 0) ∧ W.cell? ⟨w.heap.size + 1 + 1, 1, none⟩ = some (.int .u64 0))) := box (fun W h => ⟨h.1, h.2.1, h.2.2.1, h.2.2.2, cell7 (h.2.1) 0 _ rfl, cell7 (h.2.1) 1 _ rfl, cell7 (h.2.2.1) 0 _ rfl, cell7 (h.2.2.1) 1 _ rfl, cell7 (h.2.2.2) 0 _ rfl, cell7 (h.2.2.2) 1 _ rfl⟩)
 have s0 : Below w.heap.size w (w3).drew ∧ (w3).drew.heap[w.heap.size]? = some (.cells #[.int .u64 x1, .int .u64 y1] 25) ∧ (w3).drew.heap[w.heap.size + 1]? = some (.cells #[.int .u64 x2, .int .u64 y2] 25) ∧ (w3).drew.heap[w.heap.size + 1 + 1]? = some (.cells #[.int .u64 0, .int .u64 0] 25) := ⟨B3.drew, Ah, Ai, Au⟩
 go_wp2_with fail
 go_region_held3 (fun W => Below w.heap.size w W ∧ W.heap[w.heap.size]? = some (.cells #[.int .u64 x1, .int .u64 y1] 25) ∧ W.heap[w.heap.size + 1]? = some (.cells #[.int .u64 x2, .int .u64 y2] 25) ∧ W.heap[w.heap.size + 1 + 1]? = some (.cells #[.int .u64 0, .int .u64 0] 25) ∧ W.cell? ⟨w.heap.size, 0, none⟩ = some (.int .u64 x1) ∧ W.cell? ⟨w.heap.size, 1, none⟩ = some (.int .u64 y1) ∧ W.cell? ⟨w.heap.size + 1, 0, none⟩ = some (.int .u64 x2) ∧ W.cell? ⟨w.heap.size + 1, 1, none⟩ = some (.int .u64 y2) ∧ W.cell? ⟨w.heap.size + 1 + 1, 0, none⟩ = some (.int .u64 0) ∧ W.cell? ⟨w.heap.size + 1 + 1, 1, none⟩ = some (.int .u64 0)) (first | exact sC.out _ s1 | exact sC.out _ s0)
  (first | (go_at_call_of 50 (Value.agg #[.int .u64 x1, .int .u64 y1]); (first | refine (KS1.out _).mono ?_ | refine (KS1.out _).mono ?_); rintro r wq ⟨rfl, bq⟩; have s1 := (by first | exact sS.out _ _ s1 bq | exact sS.out _ _ s0 bq); clear bq) | (go_at_call_of 50 (Value.agg #[.int .u64 x2, .int .u64 y2]); (first | refine (KS2.out _).mono ?_ | refine (KS2.out _).mono ?_); rintro r wq ⟨rfl, bq⟩; have s1 := (by first | exact sS.out _ _ s1 bq | exact sS.out _ _ s0 bq); clear bq) | fail)
 have B4 := (And.left s1)
 have Aj := s1.2.1
 have Ak := s1.2.2.1
 have Av := s1.2.2.2
 clear s0 s1 sS sC B3 Ah AL AM Ai AN AO Au
 obtain ⟨AP, AQ⟩ := cells2s Aj
 obtain ⟨AR, AS⟩ := cells2s Ak
 go_wp2_with fail
 refine (KI1.out _).mono ?_
 rintro r w5 ⟨rfl, b5⟩
 have B5 := btr B4 b5
 obtain ⟨Al, Am, Aw⟩ := rws3 b5 Aj Ak Av
 clear b5 B4 Aj AP AQ Ak AR AS Av
 obtain ⟨AT, AU⟩ := cells2s Al
 obtain ⟨AV, AW⟩ := cells2s Am
 go_wp2_with fail
 refine (KI2.out _).mono ?_
 rintro r w6 ⟨rfl, b6⟩
 have B6 := btr B5 b6
 obtain ⟨An, Ao, Ax⟩ := rws3 b6 Al Am Aw
 clear b6 B5 Al AT AU Am AV AW Aw
 obtain ⟨AX, AY⟩ := cells2s An
 obtain ⟨AZ, A0⟩ := cells2s Ao
 go_wp2_with fail
 refine (KZ1.out _).mono ?_
 rintro r w7 ⟨rfl, b7⟩
 have B7 := btr B6 b7
 obtain ⟨Ap, Aq, Ay⟩ := rws3 b7 An Ao Ax
 clear b7 B6 An AX AY Ao AZ A0 Ax
 obtain ⟨A1, A2⟩ := cells2s Ap
 obtain ⟨A3, A4⟩ := cells2s Aq
 go_wp2_with fail
 refine (KR.out _).mono ?_
 rintro r w8 ⟨rfl, b8⟩
 have B8 := btr B7 b8
 obtain ⟨A5, A6, Aa⟩ := rws3 b8 Ap Aq Ay
 clear b8 B7 Ap A1 A2 Aq A3 A4 Ay
 obtain ⟨A7, A8⟩ := cells2s A5
 obtain ⟨A9, Ba⟩ := cells2s A6
 obtain ⟨Bb, Bc⟩ := cells2s Aa
 have q0 := fz (k := 0) Aa
 have q1 := fz (k := 1) Aa
 obtain ⟨E0, E1⟩ := set2_cells Aa (.int .u64 u) (.int .u64 v)
 go_wp2
 exact bodyPost_ret (v := .tuple #[.agg #[.int .u64 u, .int .u64 v], .int .u8 0, .int .i64 0]) (by simp [results, Tryz.results41, go_sem, E0, E1]) rfl ⟨rfl, set2_below B8 (by first | exact Nat.le_refl _ | omega | (skip; omega)) _ _⟩
theorem rmu_fu (f m : Int) (x1 y1 x2 y2 u v : Nat) (w : World) (s1 s2 neg : Bool) (hng : (!(s1 == s2)) = neg)
  (KF : Box (∀ (T : TypeId) (g : Nat) (w : World), w.heap.size = g → Calls Tryz.prog 77 #[.int .u8 f, .int .u8 m, .slice (some ⟨g, 0, none⟩) 2 2] (w.alloc (.cells #[.int .u64 x1, .int .u64 y1, .int .u64 x2, .int .u64 y2] T)) fun r w' => r = .returned (.bool true) ∧ Below w.heap.size w w'))
  (KN1 : Box (∀ w, Calls Tryz.prog 78 #[.int .u8 f, .agg #[.int .u64 x1, .int .u64 y1]] w fun r w' => r = .returned (.bool false) ∧ Below w.heap.size w w'))
  (KN2 : Box (∀ w, Calls Tryz.prog 78 #[.int .u8 f, .agg #[.int .u64 x2, .int .u64 y2]] w fun r w' => r = .returned (.bool false) ∧ Below w.heap.size w w'))
  (KS1 : Box (∀ w, Calls Tryz.prog 50 #[.int .u8 f, .agg #[.int .u64 x1, .int .u64 y1]] w fun r w' => r = .returned (.bool s1) ∧ Below w.heap.size w w'))
  (KS2 : Box (∀ w, Calls Tryz.prog 50 #[.int .u8 f, .agg #[.int .u64 x2, .int .u64 y2]] w fun r w' => r = .returned (.bool s2) ∧ Below w.heap.size w w'))
  (KI1 : Box (∀ w, Calls Tryz.prog 80 #[.int .u8 f, .agg #[.int .u64 x1, .int .u64 y1]] w fun r w' => r = .returned (.bool false) ∧ Below w.heap.size w w'))
  (KI2 : Box (∀ w, Calls Tryz.prog 80 #[.int .u8 f, .agg #[.int .u64 x2, .int .u64 y2]] w fun r w' => r = .returned (.bool false) ∧ Below w.heap.size w w'))
  (KZ1 : Box (∀ w, Calls Tryz.prog 38 #[.int .u8 f, .agg #[.int .u64 x1, .int .u64 y1]] w fun r w' => r = .returned (.bool false) ∧ Below w.heap.size w w'))
  (KZ2 : Box (∀ w, Calls Tryz.prog 38 #[.int .u8 f, .agg #[.int .u64 x2, .int .u64 y2]] w fun r w' => r = .returned (.bool true) ∧ Below w.heap.size w w'))
  (KR : Box (∀ w, Calls Tryz.prog 91 #[.int .u8 f, .bool neg] w fun r w' => r = .returned (.agg #[.int .u64 u, .int .u64 v]) ∧ Below w.heap.size w w'))
  : Calls Tryz.prog 41 #[.int .u8 f, .int .u8 m, .agg #[.int .u64 x1, .int .u64 y1], .agg #[.int .u64 x2, .int .u64 y2]] w fun r w' => r = .returned (.tuple #[.agg #[.int .u64 u, .int .u64 v], .int .u8 0, .int .i64 0]) ∧ Below w.heap.size w w' := by
 obtain ⟨Ab, Ac, At, B0⟩ := opn3 w (Obj.cells #[.int .u64 x1, .int .u64 y1] 25) (Obj.cells #[.int .u64 x2, .int .u64 y2] 25) (Obj.cells #[.int .u64 0, .int .u64 0] 25)
 go_enter Tryz.func41, Tryz.ntmps41
 obtain ⟨AC, AD⟩ := cells2s Ab
 obtain ⟨AE, AF⟩ := cells2s Ac
 go_wp2_with fail
 refine (KF.out _ _ (((w.alloc (Obj.cells #[.int .u64 x1, .int .u64 y1] 25)).alloc (Obj.cells #[.int .u64 x2, .int .u64 y2] 25)).alloc (Obj.cells #[.int .u64 0, .int .u64 0] 25)) (by first | rfl | simp only [size_al])).mono ?_
 rintro r w1 ⟨rfl, b1⟩
 have B1 := btr B0 b1
 obtain ⟨Ad, Ae, Au⟩ := rws3 b1 Ab Ac At
 clear b1 B0 Ab AC AD Ac AE AF At
 obtain ⟨AG, AH⟩ := cells2s Ad
 obtain ⟨AI, AJ⟩ := cells2s Ae
 go_wp2_with fail
 refine (KN1.out _).mono ?_
 rintro r w2 ⟨rfl, b2⟩
 have B2 := btr B1 b2
 obtain ⟨Af, Ag, Av⟩ := rws3 b2 Ad Ae Au
 clear b2 B1 Ad AG AH Ae AI AJ Au
 obtain ⟨AK, AL⟩ := cells2s Af
 obtain ⟨AM, AN⟩ := cells2s Ag
 go_wp2_with fail
 refine (KN2.out _).mono ?_
 rintro r w3 ⟨rfl, b3⟩
 have B3 := btr B2 b3
 obtain ⟨Ah, Ai, Aw⟩ := rws3 b3 Af Ag Av
 clear b3 B2 Af AK AL Ag AM AN Av
 obtain ⟨AO, AP⟩ := cells2s Ah
 obtain ⟨AQ, AR⟩ := cells2s Ai
 have sS : Box (∀ W W1 : World, (Below w.heap.size w W ∧ W.heap[w.heap.size]? = some (.cells #[.int .u64 x1, .int .u64 y1] 25) ∧ W.heap[w.heap.size + 1]? = some (.cells #[.int .u64 x2, .int .u64 y2] 25) ∧ W.heap[w.heap.size + 1 + 1]? = some (.cells #[.int .u64 0, .int .u64 0] 25)) → Below W.heap.size W W1 → (Below w.heap.size w W1 ∧ W1.heap[w.heap.size]? = some (.cells #[.int .u64 x1, .int .u64 y1] 25) ∧ W1.heap[w.heap.size + 1]? = some (.cells #[.int .u64 x2, .int .u64 y2] 25) ∧ W1.heap[w.heap.size + 1 + 1]? = some (.cells #[.int .u64 0, .int .u64 0] 25))) := box (fun W W1 h b => ⟨btr h.1 b, heap_of b _ _ _ h.2.1, heap_of b _ _ _ h.2.2.1, heap_of b _ _ _ h.2.2.2⟩)
 have sC : Box (∀ W : World, (Below w.heap.size w W ∧ W.heap[w.heap.size]? = some (.cells #[.int .u64 x1, .int .u64 y1] 25) ∧ W.heap[w.heap.size + 1]? = some (.cells #[.int .u64 x2, .int .u64 y2] 25) ∧ W.heap[w.heap.size + 1 + 1]? = some (.cells #[.int .u64 0, .int .u64 0] 25)) → (Below w.heap.size w W ∧ W.heap[w.heap.size]? = some (.cells #[.int .u64 x1, .int .u64 y1] 25) ∧ W.heap[w.heap.size + 1]? = some (.cells #[.int .u64 x2, .int .u64 y2] 25) ∧ W.heap[w.heap.size + 1 + 1]? = some (.cells #[.int .u64 0, .int .u64 0] 25) ∧ W.cell? ⟨w.heap.size, 0, none⟩ = some (.int .u64 x1) ∧ W.cell? ⟨w.heap.size, 1, none⟩ = some (.int .u64 y1) ∧ W.cell? ⟨w.heap.size + 1, 0, none⟩ = some (.int .u64 x2) ∧ W.cell? ⟨w.heap.size + 1, 1, none⟩ = some (.int .u64 y2) ∧ W.cell? ⟨w.heap.size + 1 + 1, 0, none⟩ = some (.int .u64 0) ∧ W.cell? ⟨w.heap.size + 1 + 1, 1, none⟩ = some (.int .u64 0))) := box (fun W h => ⟨h.1, h.2.1, h.2.2.1, h.2.2.2, cell7 (h.2.1) 0 _ rfl, cell7 (h.2.1) 1 _ rfl, cell7 (h.2.2.1) 0 _ rfl, cell7 (h.2.2.1) 1 _ rfl, cell7 (h.2.2.2) 0 _ rfl, cell7 (h.2.2.2) 1 _ rfl⟩)
 have s0 : Below w.heap.size w (w3).drew ∧ (w3).drew.heap[w.heap.size]? = some (.cells #[.int .u64 x1, .int .u64 y1] 25) ∧ (w3).drew.heap[w.heap.size + 1]? = some (.cells #[.int .u64 x2, .int .u64 y2] 25) ∧ (w3).drew.heap[w.heap.size + 1 + 1]? = some (.cells #[.int .u64 0, .int .u64 0] 25) := ⟨B3.drew, Ah, Ai, Aw⟩
 go_wp2_with fail
 go_region_held3 (fun W => Below w.heap.size w W ∧ W.heap[w.heap.size]? = some (.cells #[.int .u64 x1, .int .u64 y1] 25) ∧ W.heap[w.heap.size + 1]? = some (.cells #[.int .u64 x2, .int .u64 y2] 25) ∧ W.heap[w.heap.size + 1 + 1]? = some (.cells #[.int .u64 0, .int .u64 0] 25) ∧ W.cell? ⟨w.heap.size, 0, none⟩ = some (.int .u64 x1) ∧ W.cell? ⟨w.heap.size, 1, none⟩ = some (.int .u64 y1) ∧ W.cell? ⟨w.heap.size + 1, 0, none⟩ = some (.int .u64 x2) ∧ W.cell? ⟨w.heap.size + 1, 1, none⟩ = some (.int .u64 y2) ∧ W.cell? ⟨w.heap.size + 1 + 1, 0, none⟩ = some (.int .u64 0) ∧ W.cell? ⟨w.heap.size + 1 + 1, 1, none⟩ = some (.int .u64 0)) (first | exact sC.out _ s1 | exact sC.out _ s0)
  (first | (go_at_call_of 50 (Value.agg #[.int .u64 x1, .int .u64 y1]); (first | refine (KS1.out _).mono ?_ | refine (KS1.out _).mono ?_); rintro r wq ⟨rfl, bq⟩; have s1 := (by first | exact sS.out _ _ s1 bq | exact sS.out _ _ s0 bq); clear bq) | (go_at_call_of 50 (Value.agg #[.int .u64 x2, .int .u64 y2]); (first | refine (KS2.out _).mono ?_ | refine (KS2.out _).mono ?_); rintro r wq ⟨rfl, bq⟩; have s1 := (by first | exact sS.out _ _ s1 bq | exact sS.out _ _ s0 bq); clear bq) | fail)
 have B4 := (And.left s1)
 have Aj := s1.2.1
 have Ak := s1.2.2.1
 have Ax := s1.2.2.2
 clear s0 s1 sS sC B3 Ah AO AP Ai AQ AR Aw
 obtain ⟨AS, AT⟩ := cells2s Aj
 obtain ⟨AU, AV⟩ := cells2s Ak
 go_wp2_with fail
 refine (KI1.out _).mono ?_
 rintro r w5 ⟨rfl, b5⟩
 have B5 := btr B4 b5
 obtain ⟨Al, Am, Ay⟩ := rws3 b5 Aj Ak Ax
 clear b5 B4 Aj AS AT Ak AU AV Ax
 obtain ⟨AW, AX⟩ := cells2s Al
 obtain ⟨AY, AZ⟩ := cells2s Am
 go_wp2_with fail
 refine (KI2.out _).mono ?_
 rintro r w6 ⟨rfl, b6⟩
 have B6 := btr B5 b6
 obtain ⟨An, Ao, Az⟩ := rws3 b6 Al Am Ay
 clear b6 B5 Al AW AX Am AY AZ Ay
 obtain ⟨A0, A1⟩ := cells2s An
 obtain ⟨A2, A3⟩ := cells2s Ao
 go_wp2_with fail
 refine (KZ1.out _).mono ?_
 rintro r w7 ⟨rfl, b7⟩
 have B7 := btr B6 b7
 obtain ⟨Ap, Aq, AA⟩ := rws3 b7 An Ao Az
 clear b7 B6 An A0 A1 Ao A2 A3 Az
 obtain ⟨A4, A5⟩ := cells2s Ap
 obtain ⟨A6, A7⟩ := cells2s Aq
 go_wp2_with fail
 refine (KZ2.out _).mono ?_
 rintro r w8 ⟨rfl, b8⟩
 have B8 := btr B7 b8
 obtain ⟨Ar, As, AB⟩ := rws3 b8 Ap Aq AA
 clear b8 B7 Ap A4 A5 Aq A6 A7 AA
 obtain ⟨A8, A9⟩ := cells2s Ar
 obtain ⟨Ba, Bb⟩ := cells2s As
 go_wp2_with fail
 refine (KR.out _).mono ?_
 rintro r w9 ⟨rfl, b9⟩
 have B9 := btr B8 b9
 obtain ⟨Bc, Bd, Aa⟩ := rws3 b9 Ar As AB
 clear b9 B8 Ar A8 A9 As Ba Bb AB
 obtain ⟨Be, Bf⟩ := cells2s Bc
 obtain ⟨Bg, Bh⟩ := cells2s Bd
 obtain ⟨Bi, Bj⟩ := cells2s Aa
 have q0 := fz (k := 0) Aa
 have q1 := fz (k := 1) Aa
 obtain ⟨E0, E1⟩ := set2_cells Aa (.int .u64 u) (.int .u64 v)
 go_wp2
 exact bodyPost_ret (v := .tuple #[.agg #[.int .u64 u, .int .u64 v], .int .u8 0, .int .i64 0]) (by simp [results, Tryz.results41, go_sem, E0, E1]) rfl ⟨rfl, set2_below B9 (by first | exact Nat.le_refl _ | omega | (skip; omega)) _ _⟩
theorem rmu_ff (f m : Int) (x1 y1 x2 y2 u v : Nat) (w : World) (s1 s2 neg : Bool) (hng : (!(s1 == s2)) = neg) (b1 : Bool) (n1 d1 : ByteArray) (e1 : Int) (b2 : Bool) (n2 d2 : ByteArray) (e2 : Int) (b3 : Bool) (n3 d3 : ByteArray) (e3 g3 fl : Int)
  (KF : Box (∀ (T : TypeId) (g : Nat) (w : World), w.heap.size = g → Calls Tryz.prog 77 #[.int .u8 f, .int .u8 m, .slice (some ⟨g, 0, none⟩) 2 2] (w.alloc (.cells #[.int .u64 x1, .int .u64 y1, .int .u64 x2, .int .u64 y2] T)) fun r w' => r = .returned (.bool true) ∧ Below w.heap.size w w'))
  (KN1 : Box (∀ w, Calls Tryz.prog 78 #[.int .u8 f, .agg #[.int .u64 x1, .int .u64 y1]] w fun r w' => r = .returned (.bool false) ∧ Below w.heap.size w w'))
  (KN2 : Box (∀ w, Calls Tryz.prog 78 #[.int .u8 f, .agg #[.int .u64 x2, .int .u64 y2]] w fun r w' => r = .returned (.bool false) ∧ Below w.heap.size w w'))
  (KS1 : Box (∀ w, Calls Tryz.prog 50 #[.int .u8 f, .agg #[.int .u64 x1, .int .u64 y1]] w fun r w' => r = .returned (.bool s1) ∧ Below w.heap.size w w'))
  (KS2 : Box (∀ w, Calls Tryz.prog 50 #[.int .u8 f, .agg #[.int .u64 x2, .int .u64 y2]] w fun r w' => r = .returned (.bool s2) ∧ Below w.heap.size w w'))
  (KI1 : Box (∀ w, Calls Tryz.prog 80 #[.int .u8 f, .agg #[.int .u64 x1, .int .u64 y1]] w fun r w' => r = .returned (.bool false) ∧ Below w.heap.size w w'))
  (KI2 : Box (∀ w, Calls Tryz.prog 80 #[.int .u8 f, .agg #[.int .u64 x2, .int .u64 y2]] w fun r w' => r = .returned (.bool false) ∧ Below w.heap.size w w'))
  (KZ1 : Box (∀ w, Calls Tryz.prog 38 #[.int .u8 f, .agg #[.int .u64 x1, .int .u64 y1]] w fun r w' => r = .returned (.bool false) ∧ Below w.heap.size w w'))
  (KZ2 : Box (∀ w, Calls Tryz.prog 38 #[.int .u8 f, .agg #[.int .u64 x2, .int .u64 y2]] w fun r w' => r = .returned (.bool false) ∧ Below w.heap.size w w'))
  (KV1 : Box (∀ w, Calls Tryz.prog 83 #[.int .u8 f, .agg #[.int .u64 x1, .int .u64 y1]] w fun r w' => r = .returned (.tuple #[.agg #[.bool b1, .string n1, .string d1, .int .i64 e1], .int .i64 0]) ∧ Below w.heap.size w w'))
  (KV2 : Box (∀ w, Calls Tryz.prog 83 #[.int .u8 f, .agg #[.int .u64 x2, .int .u64 y2]] w fun r w' => r = .returned (.tuple #[.agg #[.bool b2, .string n2, .string d2, .int .i64 e2], .int .i64 0]) ∧ Below w.heap.size w w'))
  (KM : Box (∀ w, Calls Tryz.prog 92 #[.agg #[.bool b1, .string n1, .string d1, .int .i64 e1], .agg #[.bool b2, .string n2, .string d2, .int .i64 e2]] w fun r w' => r = .returned (.tuple #[.agg #[.bool b3, .string n3, .string d3, .int .i64 e3], .int .i64 g3]) ∧ Below w.heap.size w w'))
  (KR : Box (∀ w, Calls Tryz.prog 85 #[.int .u8 f, .int .u8 m, .agg #[.bool b3, .string n3, .string d3, .int .i64 e3]] w fun r w' => r = .returned (.tuple #[.agg #[.int .u64 u, .int .u64 v], .int .u8 fl, .int .i64 0]) ∧ Below w.heap.size w w'))
  : Calls Tryz.prog 41 #[.int .u8 f, .int .u8 m, .agg #[.int .u64 x1, .int .u64 y1], .agg #[.int .u64 x2, .int .u64 y2]] w fun r w' => r = .returned (.tuple #[.agg #[.int .u64 u, .int .u64 v], .int .u8 fl, .int .i64 0]) ∧ Below w.heap.size w w' := by
 obtain ⟨Ak, Al, AR, B0⟩ := opn3 w (Obj.cells #[.int .u64 x1, .int .u64 y1] 25) (Obj.cells #[.int .u64 x2, .int .u64 y2] 25) (Obj.cells #[.int .u64 0, .int .u64 0] 25)
 go_enter Tryz.func41, Tryz.ntmps41
 obtain ⟨A3, A4⟩ := cells2s Ak
 obtain ⟨A5, A6⟩ := cells2s Al
 go_wp2_with fail
 refine (KF.out _ _ (((w.alloc (Obj.cells #[.int .u64 x1, .int .u64 y1] 25)).alloc (Obj.cells #[.int .u64 x2, .int .u64 y2] 25)).alloc (Obj.cells #[.int .u64 0, .int .u64 0] 25)) (by first | rfl | simp only [size_al])).mono ?_
 rintro r w1 ⟨rfl, b1⟩
 have B1 := btr B0 b1
 obtain ⟨Am, An, AS⟩ := rws3 b1 Ak Al AR
 clear b1 B0 Ak A3 A4 Al A5 A6 AR
 obtain ⟨A7, A8⟩ := cells2s Am
 obtain ⟨A9, Ba⟩ := cells2s An
 go_wp2_with fail
 refine (KN1.out _).mono ?_
 rintro r w2 ⟨rfl, b2⟩
 have B2 := btr B1 b2
 obtain ⟨Ao, Ap, AT⟩ := rws3 b2 Am An AS
 clear b2 B1 Am A7 A8 An A9 Ba AS
 obtain ⟨Bb, Bc⟩ := cells2s Ao
 obtain ⟨Bd, Be⟩ := cells2s Ap
 go_wp2_with fail
 refine (KN2.out _).mono ?_
 rintro r w3 ⟨rfl, b3⟩
 have B3 := btr B2 b3
 obtain ⟨Aq, Ar, AU⟩ := rws3 b3 Ao Ap AT
 clear b3 B2 Ao Bb Bc Ap Bd Be AT
 obtain ⟨Bf, Bg⟩ := cells2s Aq
 obtain ⟨Bh, Bi⟩ := cells2s Ar
 have sS : Box (∀ W W1 : World, (Below w.heap.size w W ∧ W.heap[w.heap.size]? = some (.cells #[.int .u64 x1, .int .u64 y1] 25) ∧ W.heap[w.heap.size + 1]? = some (.cells #[.int .u64 x2, .int .u64 y2] 25) ∧ W.heap[w.heap.size + 1 + 1]? = some (.cells #[.int .u64 0, .int .u64 0] 25)) → Below W.heap.size W W1 → (Below w.heap.size w W1 ∧ W1.heap[w.heap.size]? = some (.cells #[.int .u64 x1, .int .u64 y1] 25) ∧ W1.heap[w.heap.size + 1]? = some (.cells #[.int .u64 x2, .int .u64 y2] 25) ∧ W1.heap[w.heap.size + 1 + 1]? = some (.cells #[.int .u64 0, .int .u64 0] 25))) := box (fun W W1 h b => ⟨btr h.1 b, heap_of b _ _ _ h.2.1, heap_of b _ _ _ h.2.2.1, heap_of b _ _ _ h.2.2.2⟩)
 have sC : Box (∀ W : World, (Below w.heap.size w W ∧ W.heap[w.heap.size]? = some (.cells #[.int .u64 x1, .int .u64 y1] 25) ∧ W.heap[w.heap.size + 1]? = some (.cells #[.int .u64 x2, .int .u64 y2] 25) ∧ W.heap[w.heap.size + 1 + 1]? = some (.cells #[.int .u64 0, .int .u64 0] 25)) → (Below w.heap.size w W ∧ W.heap[w.heap.size]? = some (.cells #[.int .u64 x1, .int .u64 y1] 25) ∧ W.heap[w.heap.size + 1]? = some (.cells #[.int .u64 x2, .int .u64 y2] 25) ∧ W.heap[w.heap.size + 1 + 1]? = some (.cells #[.int .u64 0, .int .u64 0] 25) ∧ W.cell? ⟨w.heap.size, 0, none⟩ = some (.int .u64 x1) ∧ W.cell? ⟨w.heap.size, 1, none⟩ = some (.int .u64 y1) ∧ W.cell? ⟨w.heap.size + 1, 0, none⟩ = some (.int .u64 x2) ∧ W.cell? ⟨w.heap.size + 1, 1, none⟩ = some (.int .u64 y2) ∧ W.cell? ⟨w.heap.size + 1 + 1, 0, none⟩ = some (.int .u64 0) ∧ W.cell? ⟨w.heap.size + 1 + 1, 1, none⟩ = some (.int .u64 0))) := box (fun W h => ⟨h.1, h.2.1, h.2.2.1, h.2.2.2, cell7 (h.2.1) 0 _ rfl, cell7 (h.2.1) 1 _ rfl, cell7 (h.2.2.1) 0 _ rfl, cell7 (h.2.2.1) 1 _ rfl, cell7 (h.2.2.2) 0 _ rfl, cell7 (h.2.2.2) 1 _ rfl⟩)
 have s0 : Below w.heap.size w (w3).drew ∧ (w3).drew.heap[w.heap.size]? = some (.cells #[.int .u64 x1, .int .u64 y1] 25) ∧ (w3).drew.heap[w.heap.size + 1]? = some (.cells #[.int .u64 x2, .int .u64 y2] 25) ∧ (w3).drew.heap[w.heap.size + 1 + 1]? = some (.cells #[.int .u64 0, .int .u64 0] 25) := ⟨B3.drew, Aq, Ar, AU⟩
 go_wp2_with fail
 go_region_held3 (fun W => Below w.heap.size w W ∧ W.heap[w.heap.size]? = some (.cells #[.int .u64 x1, .int .u64 y1] 25) ∧ W.heap[w.heap.size + 1]? = some (.cells #[.int .u64 x2, .int .u64 y2] 25) ∧ W.heap[w.heap.size + 1 + 1]? = some (.cells #[.int .u64 0, .int .u64 0] 25) ∧ W.cell? ⟨w.heap.size, 0, none⟩ = some (.int .u64 x1) ∧ W.cell? ⟨w.heap.size, 1, none⟩ = some (.int .u64 y1) ∧ W.cell? ⟨w.heap.size + 1, 0, none⟩ = some (.int .u64 x2) ∧ W.cell? ⟨w.heap.size + 1, 1, none⟩ = some (.int .u64 y2) ∧ W.cell? ⟨w.heap.size + 1 + 1, 0, none⟩ = some (.int .u64 0) ∧ W.cell? ⟨w.heap.size + 1 + 1, 1, none⟩ = some (.int .u64 0)) (first | exact sC.out _ s1 | exact sC.out _ s0)
  (first | (go_at_call_of 50 (Value.agg #[.int .u64 x1, .int .u64 y1]); (first | refine (KS1.out _).mono ?_ | refine (KS1.out _).mono ?_); rintro r wq ⟨rfl, bq⟩; have s1 := (by first | exact sS.out _ _ s1 bq | exact sS.out _ _ s0 bq); clear bq) | (go_at_call_of 50 (Value.agg #[.int .u64 x2, .int .u64 y2]); (first | refine (KS2.out _).mono ?_ | refine (KS2.out _).mono ?_); rintro r wq ⟨rfl, bq⟩; have s1 := (by first | exact sS.out _ _ s1 bq | exact sS.out _ _ s0 bq); clear bq) | fail)
 have B4 := (And.left s1)
 have As := s1.2.1
 have At := s1.2.2.1
 have AV := s1.2.2.2
 clear s0 s1 sS sC B3 Aq Bf Bg Ar Bh Bi AU
 obtain ⟨Bj, Bk⟩ := cells2s As
 obtain ⟨Bl, Bm⟩ := cells2s At
 go_wp2_with fail
 refine (KI1.out _).mono ?_
 rintro r w5 ⟨rfl, b5⟩
 have B5 := btr B4 b5
 obtain ⟨Au, Av, AW⟩ := rws3 b5 As At AV
 clear b5 B4 As Bj Bk At Bl Bm AV
 obtain ⟨Bn, Bo⟩ := cells2s Au
 obtain ⟨Bp, Bq⟩ := cells2s Av
 go_wp2_with fail
 refine (KI2.out _).mono ?_
 rintro r w6 ⟨rfl, b6⟩
 have B6 := btr B5 b6
 obtain ⟨Aw, Ax, AX⟩ := rws3 b6 Au Av AW
 clear b6 B5 Au Bn Bo Av Bp Bq AW
 obtain ⟨Br, Bs⟩ := cells2s Aw
 obtain ⟨Bt, Bu⟩ := cells2s Ax
 go_wp2_with fail
 refine (KZ1.out _).mono ?_
 rintro r w7 ⟨rfl, b7⟩
 have B7 := btr B6 b7
 obtain ⟨Ay, Az, AY⟩ := rws3 b7 Aw Ax AX
 clear b7 B6 Aw Br Bs Ax Bt Bu AX
 obtain ⟨Bv, Bw⟩ := cells2s Ay
 obtain ⟨Bx, By⟩ := cells2s Az
 go_wp2_with fail
 refine (KZ2.out _).mono ?_
 rintro r w8 ⟨rfl, b8⟩
 have B8 := btr B7 b8
 obtain ⟨AA, AB, AZ⟩ := rws3 b8 Ay Az AY
 clear b8 B7 Ay Bv Bw Az Bx By AY
 obtain ⟨Bz, BA⟩ := cells2s AA
 obtain ⟨BB, BC⟩ := cells2s AB
 go_wp2_with fail
 refine (KV1.out _).mono ?_
 rintro r w9 ⟨rfl, b9⟩
 have B9 := btr B8 b9
 obtain ⟨Aa, Ab, AC⟩ := rws3 b9 AA AB AZ
 clear b9 B8 AA Bz BA AB BB BC AZ
 obtain ⟨BD, BE⟩ := cells2s Aa
 obtain ⟨BF, BG⟩ := cells2s Ab
 have S10 := box B9.size
 have BH := ltR Aa
 have BI := ltR Ab
 have BJ := ltR AC
 have AD := heap_alloc_last w9 (Obj.cells #[.bool b1, .string n1, .string d1, .int .i64 e1] 41)
 have B10 := btr B9 (bal w9 (Obj.cells #[.bool b1, .string n1, .string d1, .int .i64 e1] 41))
 obtain ⟨AE, AF, A0⟩ := rws3 (bal w9 (Obj.cells #[.bool b1, .string n1, .string d1, .int .i64 e1] 41)) Aa Ab AC
 clear B9 Aa BD BE Ab BF BG AC
 obtain ⟨BK, BL⟩ := cells2s AE
 obtain ⟨BM, BN⟩ := cells2s AF
 obtain ⟨BO, BP, BQ, BR⟩ := cells4s AD
 go_wp2_with fail
 refine (KV2.out _).mono ?_
 rintro r w11 ⟨rfl, b11⟩
 have B11 := btr B10 b11
 obtain ⟨Ac, Ad, AG, Ae⟩ := rws4 b11 AE AF A0 AD
 clear b11 B10 AE BK BL AF BM BN A0 AD BO BP BQ BR
 obtain ⟨BS, BT⟩ := cells2s Ac
 obtain ⟨BU, BV⟩ := cells2s Ad
 obtain ⟨BW, BX, BY, BZ⟩ := cells4s Ae
 have S12 := box B11.size
 have Ca := ltR Ac
 have Cb := ltR Ad
 have Cc := ltR AG
 have Cd := ltR Ae
 have AH := heap_alloc_last w11 (Obj.cells #[.bool b2, .string n2, .string d2, .int .i64 e2] 41)
 have B12 := btr B11 (bal w11 (Obj.cells #[.bool b2, .string n2, .string d2, .int .i64 e2] 41))
 obtain ⟨AI, AJ, A1, AK⟩ := rws4 (bal w11 (Obj.cells #[.bool b2, .string n2, .string d2, .int .i64 e2] 41)) Ac Ad AG Ae
 clear B11 Ac BS BT Ad BU BV AG Ae BW BX BY BZ
 obtain ⟨Ce, Cf⟩ := cells2s AI
 obtain ⟨Cg, Ch⟩ := cells2s AJ
 obtain ⟨Ci, Cj, Ck, Cl⟩ := cells4s AK
 obtain ⟨Cm, Cn, Co, Cp⟩ := cells4s AH
 go_wp2_with fail
 refine (KM.out _).mono ?_
 rintro r w13 ⟨rfl, b13⟩
 have B13 := btr B12 b13
 obtain ⟨Af, Ag, AL, Ah, Ai⟩ := rws5 b13 AI AJ A1 AK AH
 clear b13 B12 AI Ce Cf AJ Cg Ch A1 AK Ci Cj Ck Cl AH Cm Cn Co Cp
 obtain ⟨Cq, Cr⟩ := cells2s Af
 obtain ⟨Cs, Ct⟩ := cells2s Ag
 obtain ⟨Cu, Cv, Cw, Cx⟩ := cells4s Ah
 obtain ⟨Cy, Cz, CA, CB⟩ := cells4s Ai
 have S14 := box B13.size
 have CC := ltR Af
 have CD := ltR Ag
 have CE := ltR AL
 have CF := ltR Ah
 have CG := ltR Ai
 have AM := heap_alloc_last w13 (Obj.cells #[.bool b3, .string n3, .string d3, .int .i64 e3] 41)
 have B14 := btr B13 (bal w13 (Obj.cells #[.bool b3, .string n3, .string d3, .int .i64 e3] 41))
 obtain ⟨AN, AO, A2, AP, AQ⟩ := rws5 (bal w13 (Obj.cells #[.bool b3, .string n3, .string d3, .int .i64 e3] 41)) Af Ag AL Ah Ai
 clear B13 Af Cq Cr Ag Cs Ct AL Ah Cu Cv Cw Cx Ai Cy Cz CA CB
 obtain ⟨CH, CI⟩ := cells2s AN
 obtain ⟨CJ, CK⟩ := cells2s AO
 obtain ⟨CL, CM, CN, CO⟩ := cells4s AP
 obtain ⟨CP, CQ, CR, CS⟩ := cells4s AQ
 obtain ⟨CT, CU, CV, CW⟩ := cells4s AM
 go_wp2_with fail
 refine (KR.out _).mono ?_
 rintro r w15 ⟨rfl, b15⟩
 have B15 := btr B14 b15
 obtain ⟨CX, CY, Aj, CZ, C0, C1⟩ := rws6 b15 AN AO A2 AP AQ AM
 clear b15 B14 AN CH CI AO CJ CK A2 AP CL CM CN CO AQ CP CQ CR CS AM CT CU CV CW
 obtain ⟨C2, C3⟩ := cells2s CX
 obtain ⟨C4, C5⟩ := cells2s CY
 obtain ⟨C6, C7, C8, C9⟩ := cells4s CZ
 obtain ⟨Da, Db, Dc, Dd⟩ := cells4s C0
 obtain ⟨De, Df, Dg, Dh⟩ := cells4s C1
 obtain ⟨Di, Dj⟩ := cells2s Aj
 have q0 := fz (k := 0) Aj
 have q1 := fz (k := 1) Aj
 obtain ⟨E0, E1⟩ := set2_cells Aj (.int .u64 u) (.int .u64 v)
 go_wp2
 exact bodyPost_ret (v := .tuple #[.agg #[.int .u64 u, .int .u64 v], .int .u8 fl, .int .i64 0]) (by simp [results, Tryz.results41, go_sem, E0, E1]) rfl ⟨rfl, set2_below B15 (by first | exact Nat.le_refl _ | omega | (have := S10.out; have := BH.out; have := BI.out; have := BJ.out; have := S12.out; have := Ca.out; have := Cb.out; have := Cc.out; have := Cd.out; have := S14.out; have := CC.out; have := CD.out; have := CE.out; have := CF.out; have := CG.out; omega)) _ _⟩
end Go.Proofs.YtoaaajeblhaeoaaGreatDoor
