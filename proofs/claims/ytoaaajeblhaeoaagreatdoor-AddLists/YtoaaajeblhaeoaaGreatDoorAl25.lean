/-
  What the functions that the statement reaches return: part 25 (A2, A3).
-/
import Derived.Test.YtoaaajeblhaeoaaGreatDoorAl24
namespace Go.Proofs.YtoaaajeblhaeoaaGreatDoor
set_option maxRecDepth 100000
set_option maxHeartbeats 40000000
open Go.RowKit WMath
set_option linter.unusedSimpArgs false
set_option linter.unusedVariables false
theorem ad_plus_n (f m : Int) (x1 y1 x2 y2 u v na nb : Nat) (c : Int) (c1 m1 : Nat) (X1 : Int) (r1 c2 m2 : Nat) (X2 : Int) (r2 : Nat) (tn : Bool) (ts : Nat) (tx fl : Int) (w : World) (hc : decide (c < 0) = false)
  (KMa : zO (∀ w, yG w → Calls Tryz.prog 156 #[.int .u8 f, .agg #[.int .u64 x1, .int .u64 y1]] w fun r w' => r = .returned (.agg (cw 6 na)) ∧ Below w.heap.size w w'))
  (KMb : zO (∀ w, yG w → Calls Tryz.prog 156 #[.int .u8 f, .agg #[.int .u64 x2, .int .u64 y2]] w fun r w' => r = .returned (.agg (cw 6 nb)) ∧ Below w.heap.size w w'))
  (KC : zO (∀ w, Calls Tryz.prog 155 #[.agg (cw 6 na), .agg (cw 6 nb)] w fun r w' => r = .returned (.int .i64 c) ∧ Below w.heap.size w w'))
  (KU1 : zO (∀ w, yG w → Calls Tryz.prog 45 #[.int .u8 f, .agg #[.int .u64 x1, .int .u64 y1]] w fun r w' => r = .returned (.tuple #[.agg (pt c1 m1 X1 r1), .int .i64 0]) ∧ Below w.heap.size w w'))
  (KU2 : zO (∀ w, yG w → Calls Tryz.prog 45 #[.int .u8 f, .agg #[.int .u64 x2, .int .u64 y2]] w fun r w' => r = .returned (.tuple #[.agg (pt c2 m2 X2 r2), .int .i64 0]) ∧ Below w.heap.size w w'))
  (H : zO ((((c1 : Int) == 8) = true ∧ zO (∀ w, yG w → Calls Tryz.prog 157 #[.int .u8 f] w fun r w' => r = .returned (.agg #[.int .u64 u, .int .u64 v]) ∧ Below w.heap.size w w') ∧ fl = 16) ∨
   (((c1 : Int) == 8) = false ∧ ((c2 : Int) == 8) = true ∧ zO (∀ w, yG w → Calls Tryz.prog 157 #[.int .u8 f] w fun r w' => r = .returned (.agg #[.int .u64 u, .int .u64 v]) ∧ Below w.heap.size w w') ∧ fl = 16) ∨
   (((c1 : Int) == 8) = false ∧ ((c2 : Int) == 8) = false ∧ ((c1 : Int) == 9) = true ∧ zO (∀ w, yG w → Calls Tryz.prog 157 #[.int .u8 f] w fun r w' => r = .returned (.agg #[.int .u64 u, .int .u64 v]) ∧ Below w.heap.size w w') ∧ fl = 0) ∨
   (((c1 : Int) == 8) = false ∧ ((c2 : Int) == 8) = false ∧ ((c1 : Int) == 9) = false ∧ ((c1 : Int) != (c2 : Int)) = true ∧ zO (∀ w, Calls Tryz.prog 158 #[.int .u8 c1] w fun r w' => r = .returned (.bool true) ∧ Below w.heap.size w w') ∧ zO (∀ w, Calls Tryz.prog 158 #[.int .u8 c2] w fun r w' => r = .returned (.bool true) ∧ Below w.heap.size w w') ∧ zO (∀ w, yG w → Calls Tryz.prog 157 #[.int .u8 f] w fun r w' => r = .returned (.agg #[.int .u64 u, .int .u64 v]) ∧ Below w.heap.size w w') ∧ fl = 16) ∨
   (((c1 : Int) == 8) = false ∧ ((c2 : Int) == 8) = false ∧ ((c1 : Int) == 9) = false ∧ ((c1 : Int) != (c2 : Int)) = false ∧ zO (∀ w, Calls Tryz.prog 158 #[.int .u8 c1] w fun r w' => r = .returned (.bool true) ∧ Below w.heap.size w w') ∧ zO (∀ w, Calls Tryz.prog 158 #[.int .u8 c2] w fun r w' => r = .returned (.bool true) ∧ Below w.heap.size w w') ∧ x1 = u ∧ y1 = v ∧ fl = 0) ∨
   (((c1 : Int) == 8) = false ∧ ((c2 : Int) == 8) = false ∧ ((c1 : Int) == 9) = false ∧ zO (∀ w, Calls Tryz.prog 158 #[.int .u8 c1] w fun r w' => r = .returned (.bool true) ∧ Below w.heap.size w w') ∧ zO (∀ w, Calls Tryz.prog 158 #[.int .u8 c2] w fun r w' => r = .returned (.bool false) ∧ Below w.heap.size w w') ∧ x1 = u ∧ y1 = v ∧ fl = 0) ∨
   (((c1 : Int) == 8) = false ∧ ((c2 : Int) == 8) = false ∧ ((c1 : Int) == 9) = false ∧ zO (∀ w, Calls Tryz.prog 158 #[.int .u8 c1] w fun r w' => r = .returned (.bool false) ∧ Below w.heap.size w w') ∧ zO (∀ w, Calls Tryz.prog 159 #[.int .u8 m, .agg (pt c1 m1 X1 r1), .agg (pt c2 m2 X2 r2)] w fun r w' => r = .returned (.agg (rg tn ts tx false)) ∧ Below w.heap.size w w') ∧ zO (∀ w, yG w → Calls Tryz.prog 93 #[.int .u8 f, .int .u8 m, .agg (rg tn ts tx false)] w fun r w' => r = .returned (.tuple #[.agg #[.int .u64 u, .int .u64 v], .int .u8 fl, .int .i64 0]) ∧ Below w.heap.size w w'))))
  (hT : yG w) : Calls Tryz.prog 76 #[.int .u8 f, .int .u8 m, .agg #[.int .u64 x1, .int .u64 y1], .agg #[.int .u64 x2, .int .u64 y2]] w fun r w' => r = .returned (.tuple #[.agg #[.int .u64 u, .int .u64 v], .int .u8 fl, .int .i64 0]) ∧ Below w.heap.size w w' := by
 have FF := zJ hT
 clear hT
 have hat := yB 6
 have hz := yT
 have hff := yQ
 have hs0 := qZ
 have hcs : ∀ x, ((cw 6 x).size = 6) = True := fun x => eq_true (z8 6 x)
 have hp1 := rgf
 have hp5 : ∀ (c : Bool) (s : Nat) (x : Int) (r : Bool), ((rg c s x r).size = 9) = True := fun _ _ _ _ => eq_true rfl
 have CH := ptf
 have CI := ptz
 have CJ := st_p0
 have CK : ∀ (c s : Nat) (x : Int) (r : Nat), ((pt c s x r).size = 14) = True := fun _ _ _ _ => eq_true rfl
 obtain ⟨A1, A2, Ba, B0⟩ := opn3 w (Obj.cells #[.int .u64 x1, .int .u64 y1] 25) (Obj.cells #[.int .u64 x2, .int .u64 y2] 25) (Obj.cells #[.int .u64 0, .int .u64 0] 25)
 go_enter Tryz.func76, Tryz.ntmps76
 obtain ⟨Bl, Bm⟩ := zC A1
 obtain ⟨Bn, Bo⟩ := zC A2
 have sS : zO (∀ W W1 : World, (Below w.heap.size w W ∧ W.heap[w.heap.size]? = some (.cells #[.int .u64 x1, .int .u64 y1] 25) ∧ W.heap[w.heap.size + 1]? = some (.cells #[.int .u64 x2, .int .u64 y2] 25) ∧ W.heap[w.heap.size + 1 + 1]? = some (.cells #[.int .u64 0, .int .u64 0] 25)) → Below W.heap.size W W1 → (Below w.heap.size w W1 ∧ W1.heap[w.heap.size]? = some (.cells #[.int .u64 x1, .int .u64 y1] 25) ∧ W1.heap[w.heap.size + 1]? = some (.cells #[.int .u64 x2, .int .u64 y2] 25) ∧ W1.heap[w.heap.size + 1 + 1]? = some (.cells #[.int .u64 0, .int .u64 0] 25))) := zJ (fun W W1 h b => ⟨zU h.1 b, zA b _ _ _ h.2.1, zA b _ _ _ h.2.2.1, zA b _ _ _ h.2.2.2⟩)
 have sC : zO (∀ W : World, (Below w.heap.size w W ∧ W.heap[w.heap.size]? = some (.cells #[.int .u64 x1, .int .u64 y1] 25) ∧ W.heap[w.heap.size + 1]? = some (.cells #[.int .u64 x2, .int .u64 y2] 25) ∧ W.heap[w.heap.size + 1 + 1]? = some (.cells #[.int .u64 0, .int .u64 0] 25)) → (Below w.heap.size w W ∧ W.heap[w.heap.size]? = some (.cells #[.int .u64 x1, .int .u64 y1] 25) ∧ W.heap[w.heap.size + 1]? = some (.cells #[.int .u64 x2, .int .u64 y2] 25) ∧ W.heap[w.heap.size + 1 + 1]? = some (.cells #[.int .u64 0, .int .u64 0] 25) ∧ W.cell? ⟨w.heap.size, 0, none⟩ = some (.int .u64 x1) ∧ W.cell? ⟨w.heap.size, 1, none⟩ = some (.int .u64 y1) ∧ W.cell? ⟨w.heap.size + 1, 0, none⟩ = some (.int .u64 x2) ∧ W.cell? ⟨w.heap.size + 1, 1, none⟩ = some (.int .u64 y2) ∧ W.cell? ⟨w.heap.size + 1 + 1, 0, none⟩ = some (.int .u64 0) ∧ W.cell? ⟨w.heap.size + 1 + 1, 1, none⟩ = some (.int .u64 0))) := zJ (fun W h => ⟨h.1, h.2.1, h.2.2.1, h.2.2.2, zI (h.2.1) 0 _ rfl, zI (h.2.1) 1 _ rfl, zI (h.2.2.1) 0 _ rfl, zI (h.2.2.1) 1 _ rfl, zI (h.2.2.2) 0 _ rfl, zI (h.2.2.2) 1 _ rfl⟩)
 have s0 : Below w.heap.size w ((((w.alloc (Obj.cells #[.int .u64 x1, .int .u64 y1] 25)).alloc (Obj.cells #[.int .u64 x2, .int .u64 y2] 25)).alloc (Obj.cells #[.int .u64 0, .int .u64 0] 25))).drew ∧ ((((w.alloc (Obj.cells #[.int .u64 x1, .int .u64 y1] 25)).alloc (Obj.cells #[.int .u64 x2, .int .u64 y2] 25)).alloc (Obj.cells #[.int .u64 0, .int .u64 0] 25))).drew.heap[w.heap.size]? = some (.cells #[.int .u64 x1, .int .u64 y1] 25) ∧ ((((w.alloc (Obj.cells #[.int .u64 x1, .int .u64 y1] 25)).alloc (Obj.cells #[.int .u64 x2, .int .u64 y2] 25)).alloc (Obj.cells #[.int .u64 0, .int .u64 0] 25))).drew.heap[w.heap.size + 1]? = some (.cells #[.int .u64 x2, .int .u64 y2] 25) ∧ ((((w.alloc (Obj.cells #[.int .u64 x1, .int .u64 y1] 25)).alloc (Obj.cells #[.int .u64 x2, .int .u64 y2] 25)).alloc (Obj.cells #[.int .u64 0, .int .u64 0] 25))).drew.heap[w.heap.size + 1 + 1]? = some (.cells #[.int .u64 0, .int .u64 0] 25) := ⟨B0.drew, A1, A2, Ba⟩
 go_wp2_with fail
 go_region_held3 (fun W => Below w.heap.size w W ∧ W.heap[w.heap.size]? = some (.cells #[.int .u64 x1, .int .u64 y1] 25) ∧ W.heap[w.heap.size + 1]? = some (.cells #[.int .u64 x2, .int .u64 y2] 25) ∧ W.heap[w.heap.size + 1 + 1]? = some (.cells #[.int .u64 0, .int .u64 0] 25) ∧ W.cell? ⟨w.heap.size, 0, none⟩ = some (.int .u64 x1) ∧ W.cell? ⟨w.heap.size, 1, none⟩ = some (.int .u64 y1) ∧ W.cell? ⟨w.heap.size + 1, 0, none⟩ = some (.int .u64 x2) ∧ W.cell? ⟨w.heap.size + 1, 1, none⟩ = some (.int .u64 y2) ∧ W.cell? ⟨w.heap.size + 1 + 1, 0, none⟩ = some (.int .u64 0) ∧ W.cell? ⟨w.heap.size + 1 + 1, 1, none⟩ = some (.int .u64 0)) (first | exact sC.out _ s1 | exact sC.out _ s0)
  (((first | (go_at_call_of 156 (Value.agg #[.int .u64 x1, .int .u64 y1]); (first | refine (KMa.out _ (zZ FF.out (And.left s1))).mono ?_ | refine (KMa.out _ (zZ FF.out (And.left s0))).mono ?_)) | (go_at_call_of 156 (Value.agg #[.int .u64 x2, .int .u64 y2]); (first | refine (KMb.out _ (zZ FF.out (And.left s1))).mono ?_ | refine (KMb.out _ (zZ FF.out (And.left s0))).mono ?_)) | (go_at_call 155; (first | refine (KC.out _).mono ?_ | refine (KC.out _).mono ?_)) | fail); rintro r wq ⟨rfl, bq⟩; have s1 := (by first | exact sS.out _ _ s1 bq | exact sS.out _ _ s0 bq); clear bq))
 have B1 := (And.left s1)
 have A3 := s1.2.1
 have A4 := s1.2.2.1
 have Bb := s1.2.2.2
 clear s0 s1 sS sC B0 A1 Bl Bm A2 Bn Bo Ba
 obtain ⟨Bp, Bq⟩ := zC A3
 obtain ⟨Br, Bs⟩ := zC A4
 go_wp2_with fail
 refine (KU1.out _ (zZ FF.out B1)).mono ?_
 rintro r w2 ⟨rfl, b2⟩
 have B2 := zU B1 b2
 obtain ⟨AT, AU, A5⟩ := yA b2 A3 A4 Bb
 clear b2 B1 A3 Bp Bq A4 Br Bs Bb
 obtain ⟨Bt, Bu⟩ := zC AT
 obtain ⟨Bv, Bw⟩ := zC AU
 have S3 := zJ B2.size
 have AC := yE AT
 have AD := yE AU
 have AE := yE A5
 have A6 := heap_alloc_last w2 (Obj.cells (pt c1 m1 X1 r1) 73)
 have B3 := zU B2 (yO w2 (Obj.cells (pt c1 m1 X1 r1) 73))
 obtain ⟨A7, A8, Bc⟩ := yA (yO w2 (Obj.cells (pt c1 m1 X1 r1) 73)) AT AU A5
 clear B2 AT Bt Bu AU Bv Bw A5
 obtain ⟨Bx, By⟩ := zC A7
 obtain ⟨Bz, BA⟩ := zC A8
 have BB := (zF A6).1
 go_wp2_with fail
 refine (KU2.out _ (zZ FF.out B3)).mono ?_
 rintro r w4 ⟨rfl, b4⟩
 have B4 := zU B3 b4
 obtain ⟨AV, AW, A9, AX⟩ := qJ b4 A7 A8 Bc A6
 clear b4 B3 A7 Bx By A8 Bz BA Bc A6 BB
 obtain ⟨BC, BD⟩ := zC AV
 obtain ⟨BE, BF⟩ := zC AW
 have BG := (zF AX).1
 have S5 := zJ B4.size
 have AF := yE AV
 have AG := yE AW
 have AH := yE A9
 have AI := yE AX
 have Ai := heap_alloc_last w4 (Obj.cells (pt c2 m2 X2 r2) 73)
 have B5 := zU B4 (yO w4 (Obj.cells (pt c2 m2 X2 r2) 73))
 obtain ⟨Aj, Ak, Ao, Al⟩ := qJ (yO w4 (Obj.cells (pt c2 m2 X2 r2) 73)) AV AW A9 AX
 clear B4 AV BC BD AW BE BF A9 AX BG
 obtain ⟨AJ, AK⟩ := zC Aj
 obtain ⟨AL, AM⟩ := zC Ak
 have AN := (zF Al).1
 have AO := (zF Ai).1
 rcases H.out with ⟨h18, KN, rfl⟩ | ⟨h18, h28, KN, rfl⟩ | ⟨h18, h28, h19, KN, rfl⟩ | ⟨h18, h28, h19, hd, KE1, KE2, KN, rfl⟩ | ⟨h18, h28, h19, hd, KE1, KE2, rfl, rfl, rfl⟩ | ⟨h18, h28, h19, KE1, KE2, rfl, rfl, rfl⟩ | ⟨h18, h28, h19, KE1, KT, KP⟩
 ·
  clear H
  go_wp2_with fail
  refine (KN.out _ (zZ FF.out B5)).mono ?_
  rintro r w6 ⟨rfl, b6⟩
  have B6 := zU B5 b6
  obtain ⟨Ab, Ac, Aa, Ad, Ae⟩ := xO b6 Aj Ak Ao Al Ai
  clear b6 B5 Aj AJ AK Ak AL AM Ao Al AN Ai AO
  obtain ⟨Aq, Ar⟩ := zC Ab
  obtain ⟨As, At⟩ := zC Ac
  have Au := (zF Ad).1
  have Av := (zF Ae).1
  obtain ⟨Bd, Be⟩ := zC Aa
  have q0 := fz (k := 0) Aa
  have q1 := fz (k := 1) Aa
  obtain ⟨E0, E1⟩ := zN Aa (.int .u64 u) (.int .u64 v)
  go_wp2
  exact bodyPost_ret (v := .tuple #[.agg #[.int .u64 u, .int .u64 v], .int .u8 16, .int .i64 0]) (by simp [results, Tryz.results76, go_sem, E0, E1]) rfl ⟨rfl, zM B6 (by first | exact Nat.le_refl _ | omega | (have := S3.out; have := AC.out; have := AD.out; have := AE.out; have := S5.out; have := AF.out; have := AG.out; have := AH.out; have := AI.out; omega)) _ _⟩
 ·
  clear H
  go_wp2_with fail
  refine (KN.out _ (zZ FF.out B5)).mono ?_
  rintro r w6 ⟨rfl, b6⟩
  have B6 := zU B5 b6
  obtain ⟨Ab, Ac, Aa, Ad, Ae⟩ := xO b6 Aj Ak Ao Al Ai
  clear b6 B5 Aj AJ AK Ak AL AM Ao Al AN Ai AO
  obtain ⟨Aq, Ar⟩ := zC Ab
  obtain ⟨As, At⟩ := zC Ac
  have Au := (zF Ad).1
  have Av := (zF Ae).1
  obtain ⟨Bd, Be⟩ := zC Aa
  have q0 := fz (k := 0) Aa
  have q1 := fz (k := 1) Aa
  obtain ⟨E0, E1⟩ := zN Aa (.int .u64 u) (.int .u64 v)
  go_wp2
  exact bodyPost_ret (v := .tuple #[.agg #[.int .u64 u, .int .u64 v], .int .u8 16, .int .i64 0]) (by simp [results, Tryz.results76, go_sem, E0, E1]) rfl ⟨rfl, zM B6 (by first | exact Nat.le_refl _ | omega | (have := S3.out; have := AC.out; have := AD.out; have := AE.out; have := S5.out; have := AF.out; have := AG.out; have := AH.out; have := AI.out; omega)) _ _⟩
 ·
  clear H
  go_wp2_with fail
  refine (KN.out _ (zZ FF.out B5)).mono ?_
  rintro r w6 ⟨rfl, b6⟩
  have B6 := zU B5 b6
  obtain ⟨Ab, Ac, Aa, Ad, Ae⟩ := xO b6 Aj Ak Ao Al Ai
  clear b6 B5 Aj AJ AK Ak AL AM Ao Al AN Ai AO
  obtain ⟨Aq, Ar⟩ := zC Ab
  obtain ⟨As, At⟩ := zC Ac
  have Au := (zF Ad).1
  have Av := (zF Ae).1
  obtain ⟨Bd, Be⟩ := zC Aa
  have q0 := fz (k := 0) Aa
  have q1 := fz (k := 1) Aa
  obtain ⟨E0, E1⟩ := zN Aa (.int .u64 u) (.int .u64 v)
  go_wp2
  exact bodyPost_ret (v := .tuple #[.agg #[.int .u64 u, .int .u64 v], .int .u8 0, .int .i64 0]) (by simp [results, Tryz.results76, go_sem, E0, E1]) rfl ⟨rfl, zM B6 (by first | exact Nat.le_refl _ | omega | (have := S3.out; have := AC.out; have := AD.out; have := AE.out; have := S5.out; have := AF.out; have := AG.out; have := AH.out; have := AI.out; omega)) _ _⟩
 ·
  clear H
  go_wp2_with fail
  refine (KE1.out _).mono ?_
  rintro r w6 ⟨rfl, b6⟩
  have B6 := zU B5 b6
  obtain ⟨Ab, Ac, Aa, Ad, Ae⟩ := xO b6 Aj Ak Ao Al Ai
  clear b6 B5 Aj AJ AK Ak AL AM Ao Al AN Ai AO
  obtain ⟨Aq, Ar⟩ := zC Ab
  obtain ⟨As, At⟩ := zC Ac
  have Au := (zF Ad).1
  have Av := (zF Ae).1
  go_wp2_with fail
  refine (KE2.out _).mono ?_
  rintro r w7 ⟨rfl, b7⟩
  have B7 := zU B6 b7
  obtain ⟨Am, An, Ap, Ag, Ah⟩ := xO b7 Ab Ac Aa Ad Ae
  clear b7 B6 Ab Aq Ar Ac As At Aa Ad Au Ae Av
  obtain ⟨AP, AQ⟩ := zC Am
  obtain ⟨AR, AS⟩ := zC An
  have Ay := (zF Ag).1
  have Az := (zF Ah).1
  go_wp2_with fail
  refine (KN.out _ (zZ FF.out B7)).mono ?_
  rintro r w8 ⟨rfl, b8⟩
  have B8 := zU B7 b8
  obtain ⟨AA, AB, Af, Aw, Ax⟩ := xO b8 Am An Ap Ag Ah
  clear b8 B7 Am AP AQ An AR AS Ap Ag Ay Ah Az
  obtain ⟨Bf, Bg⟩ := zC AA
  obtain ⟨Bh, Bi⟩ := zC AB
  have AY := (zF Aw).1
  have AZ := (zF Ax).1
  obtain ⟨Bj, Bk⟩ := zC Af
  have q0 := fz (k := 0) Af
  have q1 := fz (k := 1) Af
  obtain ⟨E0, E1⟩ := zN Af (.int .u64 u) (.int .u64 v)
  go_wp2
  exact bodyPost_ret (v := .tuple #[.agg #[.int .u64 u, .int .u64 v], .int .u8 16, .int .i64 0]) (by simp [results, Tryz.results76, go_sem, E0, E1]) rfl ⟨rfl, zM B8 (by first | exact Nat.le_refl _ | omega | (have := S3.out; have := AC.out; have := AD.out; have := AE.out; have := S5.out; have := AF.out; have := AG.out; have := AH.out; have := AI.out; omega)) _ _⟩
 ·
  clear H
  go_wp2_with fail
  refine (KE1.out _).mono ?_
  rintro r w6 ⟨rfl, b6⟩
  have B6 := zU B5 b6
  obtain ⟨Ab, Ac, Aa, Ad, Ae⟩ := xO b6 Aj Ak Ao Al Ai
  clear b6 B5 Aj AJ AK Ak AL AM Ao Al AN Ai AO
  obtain ⟨Aq, Ar⟩ := zC Ab
  obtain ⟨As, At⟩ := zC Ac
  have Au := (zF Ad).1
  have Av := (zF Ae).1
  go_wp2_with fail
  refine (KE2.out _).mono ?_
  rintro r w7 ⟨rfl, b7⟩
  have B7 := zU B6 b7
  obtain ⟨Am, An, Ap, Ag, Ah⟩ := xO b7 Ab Ac Aa Ad Ae
  clear b7 B6 Ab Aq Ar Ac As At Aa Ad Au Ae Av
  obtain ⟨AP, AQ⟩ := zC Am
  obtain ⟨AR, AS⟩ := zC An
  have Ay := (zF Ag).1
  have Az := (zF Ah).1
  go_wp2_with fail
  refine (KE1.out _).mono ?_
  rintro r w8 ⟨rfl, b8⟩
  have B8 := zU B7 b8
  obtain ⟨AA, AB, Af, Aw, Ax⟩ := xO b8 Am An Ap Ag Ah
  clear b8 B7 Am AP AQ An AR AS Ap Ag Ay Ah Az
  obtain ⟨Bf, Bg⟩ := zC AA
  obtain ⟨Bh, Bi⟩ := zC AB
  have AY := (zF Aw).1
  have AZ := (zF Ax).1
  obtain ⟨Bj, Bk⟩ := zC Af
  have q0 := fz (k := 0) Af
  have q1 := fz (k := 1) Af
  obtain ⟨E0, E1⟩ := zN Af (.int .u64 x1) (.int .u64 y1)
  go_wp2
  exact bodyPost_ret (v := .tuple #[.agg #[.int .u64 x1, .int .u64 y1], .int .u8 0, .int .i64 0]) (by simp [results, Tryz.results76, go_sem, E0, E1]) rfl ⟨rfl, zM B8 (by first | exact Nat.le_refl _ | omega | (have := S3.out; have := AC.out; have := AD.out; have := AE.out; have := S5.out; have := AF.out; have := AG.out; have := AH.out; have := AI.out; omega)) _ _⟩
 ·
  clear H
  go_wp2_with fail
  refine (KE1.out _).mono ?_
  rintro r w6 ⟨rfl, b6⟩
  have B6 := zU B5 b6
  obtain ⟨Ab, Ac, Aa, Ad, Ae⟩ := xO b6 Aj Ak Ao Al Ai
  clear b6 B5 Aj AJ AK Ak AL AM Ao Al AN Ai AO
  obtain ⟨Aq, Ar⟩ := zC Ab
  obtain ⟨As, At⟩ := zC Ac
  have Au := (zF Ad).1
  have Av := (zF Ae).1
  go_wp2_with fail
  refine (KE2.out _).mono ?_
  rintro r w7 ⟨rfl, b7⟩
  have B7 := zU B6 b7
  obtain ⟨Am, An, Ap, Ag, Ah⟩ := xO b7 Ab Ac Aa Ad Ae
  clear b7 B6 Ab Aq Ar Ac As At Aa Ad Au Ae Av
  obtain ⟨AP, AQ⟩ := zC Am
  obtain ⟨AR, AS⟩ := zC An
  have Ay := (zF Ag).1
  have Az := (zF Ah).1
  go_wp2_with fail
  refine (KE1.out _).mono ?_
  rintro r w8 ⟨rfl, b8⟩
  have B8 := zU B7 b8
  obtain ⟨AA, AB, Af, Aw, Ax⟩ := xO b8 Am An Ap Ag Ah
  clear b8 B7 Am AP AQ An AR AS Ap Ag Ay Ah Az
  obtain ⟨Bf, Bg⟩ := zC AA
  obtain ⟨Bh, Bi⟩ := zC AB
  have AY := (zF Aw).1
  have AZ := (zF Ax).1
  obtain ⟨Bj, Bk⟩ := zC Af
  have q0 := fz (k := 0) Af
  have q1 := fz (k := 1) Af
  obtain ⟨E0, E1⟩ := zN Af (.int .u64 x1) (.int .u64 y1)
  go_wp2
  exact bodyPost_ret (v := .tuple #[.agg #[.int .u64 x1, .int .u64 y1], .int .u8 0, .int .i64 0]) (by simp [results, Tryz.results76, go_sem, E0, E1]) rfl ⟨rfl, zM B8 (by first | exact Nat.le_refl _ | omega | (have := S3.out; have := AC.out; have := AD.out; have := AE.out; have := S5.out; have := AF.out; have := AG.out; have := AH.out; have := AI.out; omega)) _ _⟩
 ·
  clear H
  go_wp2_with fail
  refine (KE1.out _).mono ?_
  rintro r w6 ⟨rfl, b6⟩
  have B6 := zU B5 b6
  obtain ⟨Ab, Ac, Aa, Ad, Ae⟩ := xO b6 Aj Ak Ao Al Ai
  clear b6 B5 Aj AJ AK Ak AL AM Ao Al AN Ai AO
  obtain ⟨Aq, Ar⟩ := zC Ab
  obtain ⟨As, At⟩ := zC Ac
  have Au := (zF Ad).1
  have Av := (zF Ae).1
  go_wp2_with fail
  refine (KE1.out _).mono ?_
  rintro r w7 ⟨rfl, b7⟩
  have B7 := zU B6 b7
  obtain ⟨Am, An, Ap, Ag, Ah⟩ := xO b7 Ab Ac Aa Ad Ae
  clear b7 B6 Ab Aq Ar Ac As At Aa Ad Au Ae Av
  obtain ⟨AP, AQ⟩ := zC Am
  obtain ⟨AR, AS⟩ := zC An
  have Ay := (zF Ag).1
  have Az := (zF Ah).1
  clear AP AQ
  clear AR AS
  obtain ⟨Ay, BH, BI, BJ, BK, BL, BM, BN, BO, BP, BQ, BR, BS, BT⟩ := zF Ag
  obtain ⟨Az, BU, BV, BW, BX, BY, BZ, Ca, Cb, Cc, Cd, Ce, Cf, Cg⟩ := zF Ah
  go_wp2_with fail
  refine (KT.out _).mono ?_
  rintro r w8 ⟨rfl, b8⟩
  have B8 := zU B7 b8
  obtain ⟨AA, AB, Af, Aw, Ax⟩ := xO b8 Am An Ap Ag Ah
  clear b8 B7 Am An Ap Ag Ay BH BI BJ BK BL BM BN BO BP BQ BR BS BT Ah Az BU BV BW BX BY BZ Ca Cb Cc Cd Ce Cf Cg
  obtain ⟨AY, Ch, Ci, Cj, Ck, Cl, Cm, Cn, Co, Cp, Cq, Cr, Cs, Ct⟩ := zF Aw
  obtain ⟨AZ, Cu, Cv, Cw, Cx, Cy, Cz, CA, CB, CC, CD, CE, CF, CG⟩ := zF Ax
  clear AY Ch Ci Cj Ck Cl Cm Cn Co Cp Cq Cr Cs Ct
  clear AZ Cu Cv Cw Cx Cy Cz CA CB CC CD CE CF CG
  go_wp2_with fail
  refine (KP.out _ (zZ FF.out B8)).mono ?_
  rintro r w9 ⟨rfl, b9⟩
  have B9 := zU B8 b9
  obtain ⟨CL, CM, A0, CN, CO⟩ := xO b9 AA AB Af Aw Ax
  clear b9 B8 AA AB Af Aw Ax
  obtain ⟨CP, CQ⟩ := zC A0
  have q0 := fz (k := 0) A0
  have q1 := fz (k := 1) A0
  obtain ⟨E0, E1⟩ := zN A0 (.int .u64 u) (.int .u64 v)
  go_wp2
  exact bodyPost_ret (v := .tuple #[.agg #[.int .u64 u, .int .u64 v], .int .u8 fl, .int .i64 0]) (by simp [results, Tryz.results76, go_sem, E0, E1]) rfl ⟨rfl, zM B9 (by first | exact Nat.le_refl _ | omega | (have := S3.out; have := AC.out; have := AD.out; have := AE.out; have := S5.out; have := AF.out; have := AG.out; have := AH.out; have := AI.out; omega)) _ _⟩
theorem ad_plus_w (f m : Int) (x1 y1 x2 y2 u v na nb : Nat) (c : Int) (c1 m1 : Nat) (X1 : Int) (r1 c2 m2 : Nat) (X2 : Int) (r2 : Nat) (tn : Bool) (ts : Nat) (tx fl : Int) (w : World) (hc : decide (c < 0) = true)
  (KMa : zO (∀ w, yG w → Calls Tryz.prog 156 #[.int .u8 f, .agg #[.int .u64 x1, .int .u64 y1]] w fun r w' => r = .returned (.agg (cw 6 na)) ∧ Below w.heap.size w w'))
  (KMb : zO (∀ w, yG w → Calls Tryz.prog 156 #[.int .u8 f, .agg #[.int .u64 x2, .int .u64 y2]] w fun r w' => r = .returned (.agg (cw 6 nb)) ∧ Below w.heap.size w w'))
  (KC : zO (∀ w, Calls Tryz.prog 155 #[.agg (cw 6 na), .agg (cw 6 nb)] w fun r w' => r = .returned (.int .i64 c) ∧ Below w.heap.size w w'))
  (KU1 : zO (∀ w, yG w → Calls Tryz.prog 45 #[.int .u8 f, .agg #[.int .u64 x2, .int .u64 y2]] w fun r w' => r = .returned (.tuple #[.agg (pt c1 m1 X1 r1), .int .i64 0]) ∧ Below w.heap.size w w'))
  (KU2 : zO (∀ w, yG w → Calls Tryz.prog 45 #[.int .u8 f, .agg #[.int .u64 x1, .int .u64 y1]] w fun r w' => r = .returned (.tuple #[.agg (pt c2 m2 X2 r2), .int .i64 0]) ∧ Below w.heap.size w w'))
  (H : zO ((((c1 : Int) == 8) = true ∧ zO (∀ w, yG w → Calls Tryz.prog 157 #[.int .u8 f] w fun r w' => r = .returned (.agg #[.int .u64 u, .int .u64 v]) ∧ Below w.heap.size w w') ∧ fl = 16) ∨
   (((c1 : Int) == 8) = false ∧ ((c2 : Int) == 8) = true ∧ zO (∀ w, yG w → Calls Tryz.prog 157 #[.int .u8 f] w fun r w' => r = .returned (.agg #[.int .u64 u, .int .u64 v]) ∧ Below w.heap.size w w') ∧ fl = 16) ∨
   (((c1 : Int) == 8) = false ∧ ((c2 : Int) == 8) = false ∧ ((c1 : Int) == 9) = true ∧ zO (∀ w, yG w → Calls Tryz.prog 157 #[.int .u8 f] w fun r w' => r = .returned (.agg #[.int .u64 u, .int .u64 v]) ∧ Below w.heap.size w w') ∧ fl = 0) ∨
   (((c1 : Int) == 8) = false ∧ ((c2 : Int) == 8) = false ∧ ((c1 : Int) == 9) = false ∧ ((c1 : Int) != (c2 : Int)) = true ∧ zO (∀ w, Calls Tryz.prog 158 #[.int .u8 c1] w fun r w' => r = .returned (.bool true) ∧ Below w.heap.size w w') ∧ zO (∀ w, Calls Tryz.prog 158 #[.int .u8 c2] w fun r w' => r = .returned (.bool true) ∧ Below w.heap.size w w') ∧ zO (∀ w, yG w → Calls Tryz.prog 157 #[.int .u8 f] w fun r w' => r = .returned (.agg #[.int .u64 u, .int .u64 v]) ∧ Below w.heap.size w w') ∧ fl = 16) ∨
   (((c1 : Int) == 8) = false ∧ ((c2 : Int) == 8) = false ∧ ((c1 : Int) == 9) = false ∧ ((c1 : Int) != (c2 : Int)) = false ∧ zO (∀ w, Calls Tryz.prog 158 #[.int .u8 c1] w fun r w' => r = .returned (.bool true) ∧ Below w.heap.size w w') ∧ zO (∀ w, Calls Tryz.prog 158 #[.int .u8 c2] w fun r w' => r = .returned (.bool true) ∧ Below w.heap.size w w') ∧ x2 = u ∧ y2 = v ∧ fl = 0) ∨
   (((c1 : Int) == 8) = false ∧ ((c2 : Int) == 8) = false ∧ ((c1 : Int) == 9) = false ∧ zO (∀ w, Calls Tryz.prog 158 #[.int .u8 c1] w fun r w' => r = .returned (.bool true) ∧ Below w.heap.size w w') ∧ zO (∀ w, Calls Tryz.prog 158 #[.int .u8 c2] w fun r w' => r = .returned (.bool false) ∧ Below w.heap.size w w') ∧ x2 = u ∧ y2 = v ∧ fl = 0) ∨
   (((c1 : Int) == 8) = false ∧ ((c2 : Int) == 8) = false ∧ ((c1 : Int) == 9) = false ∧ zO (∀ w, Calls Tryz.prog 158 #[.int .u8 c1] w fun r w' => r = .returned (.bool false) ∧ Below w.heap.size w w') ∧ zO (∀ w, Calls Tryz.prog 159 #[.int .u8 m, .agg (pt c1 m1 X1 r1), .agg (pt c2 m2 X2 r2)] w fun r w' => r = .returned (.agg (rg tn ts tx false)) ∧ Below w.heap.size w w') ∧ zO (∀ w, yG w → Calls Tryz.prog 93 #[.int .u8 f, .int .u8 m, .agg (rg tn ts tx false)] w fun r w' => r = .returned (.tuple #[.agg #[.int .u64 u, .int .u64 v], .int .u8 fl, .int .i64 0]) ∧ Below w.heap.size w w'))))
  (hT : yG w) : Calls Tryz.prog 76 #[.int .u8 f, .int .u8 m, .agg #[.int .u64 x1, .int .u64 y1], .agg #[.int .u64 x2, .int .u64 y2]] w fun r w' => r = .returned (.tuple #[.agg #[.int .u64 u, .int .u64 v], .int .u8 fl, .int .i64 0]) ∧ Below w.heap.size w w' := by
 have FF := zJ hT
 clear hT
 have hat := yB 6
 have hz := yT
 have hff := yQ
 have hs0 := qZ
 have hcs : ∀ x, ((cw 6 x).size = 6) = True := fun x => eq_true (z8 6 x)
 have hp1 := rgf
 have hp5 : ∀ (c : Bool) (s : Nat) (x : Int) (r : Bool), ((rg c s x r).size = 9) = True := fun _ _ _ _ => eq_true rfl
 have CN := ptf
 have CO := ptz
 have CP := st_p0
 have CQ : ∀ (c s : Nat) (x : Int) (r : Nat), ((pt c s x r).size = 14) = True := fun _ _ _ _ => eq_true rfl
 obtain ⟨A3, A4, Bc, B0⟩ := opn3 w (Obj.cells #[.int .u64 x1, .int .u64 y1] 25) (Obj.cells #[.int .u64 x2, .int .u64 y2] 25) (Obj.cells #[.int .u64 0, .int .u64 0] 25)
 go_enter Tryz.func76, Tryz.ntmps76
 obtain ⟨Bp, Bq⟩ := zC A3
 obtain ⟨Br, Bs⟩ := zC A4
 have sS : zO (∀ W W1 : World, (Below w.heap.size w W ∧ W.heap[w.heap.size]? = some (.cells #[.int .u64 x1, .int .u64 y1] 25) ∧ W.heap[w.heap.size + 1]? = some (.cells #[.int .u64 x2, .int .u64 y2] 25) ∧ W.heap[w.heap.size + 1 + 1]? = some (.cells #[.int .u64 0, .int .u64 0] 25)) → Below W.heap.size W W1 → (Below w.heap.size w W1 ∧ W1.heap[w.heap.size]? = some (.cells #[.int .u64 x1, .int .u64 y1] 25) ∧ W1.heap[w.heap.size + 1]? = some (.cells #[.int .u64 x2, .int .u64 y2] 25) ∧ W1.heap[w.heap.size + 1 + 1]? = some (.cells #[.int .u64 0, .int .u64 0] 25))) := zJ (fun W W1 h b => ⟨zU h.1 b, zA b _ _ _ h.2.1, zA b _ _ _ h.2.2.1, zA b _ _ _ h.2.2.2⟩)
 have sC : zO (∀ W : World, (Below w.heap.size w W ∧ W.heap[w.heap.size]? = some (.cells #[.int .u64 x1, .int .u64 y1] 25) ∧ W.heap[w.heap.size + 1]? = some (.cells #[.int .u64 x2, .int .u64 y2] 25) ∧ W.heap[w.heap.size + 1 + 1]? = some (.cells #[.int .u64 0, .int .u64 0] 25)) → (Below w.heap.size w W ∧ W.heap[w.heap.size]? = some (.cells #[.int .u64 x1, .int .u64 y1] 25) ∧ W.heap[w.heap.size + 1]? = some (.cells #[.int .u64 x2, .int .u64 y2] 25) ∧ W.heap[w.heap.size + 1 + 1]? = some (.cells #[.int .u64 0, .int .u64 0] 25) ∧ W.cell? ⟨w.heap.size, 0, none⟩ = some (.int .u64 x1) ∧ W.cell? ⟨w.heap.size, 1, none⟩ = some (.int .u64 y1) ∧ W.cell? ⟨w.heap.size + 1, 0, none⟩ = some (.int .u64 x2) ∧ W.cell? ⟨w.heap.size + 1, 1, none⟩ = some (.int .u64 y2) ∧ W.cell? ⟨w.heap.size + 1 + 1, 0, none⟩ = some (.int .u64 0) ∧ W.cell? ⟨w.heap.size + 1 + 1, 1, none⟩ = some (.int .u64 0))) := zJ (fun W h => ⟨h.1, h.2.1, h.2.2.1, h.2.2.2, zI (h.2.1) 0 _ rfl, zI (h.2.1) 1 _ rfl, zI (h.2.2.1) 0 _ rfl, zI (h.2.2.1) 1 _ rfl, zI (h.2.2.2) 0 _ rfl, zI (h.2.2.2) 1 _ rfl⟩)
 have s0 : Below w.heap.size w ((((w.alloc (Obj.cells #[.int .u64 x1, .int .u64 y1] 25)).alloc (Obj.cells #[.int .u64 x2, .int .u64 y2] 25)).alloc (Obj.cells #[.int .u64 0, .int .u64 0] 25))).drew ∧ ((((w.alloc (Obj.cells #[.int .u64 x1, .int .u64 y1] 25)).alloc (Obj.cells #[.int .u64 x2, .int .u64 y2] 25)).alloc (Obj.cells #[.int .u64 0, .int .u64 0] 25))).drew.heap[w.heap.size]? = some (.cells #[.int .u64 x1, .int .u64 y1] 25) ∧ ((((w.alloc (Obj.cells #[.int .u64 x1, .int .u64 y1] 25)).alloc (Obj.cells #[.int .u64 x2, .int .u64 y2] 25)).alloc (Obj.cells #[.int .u64 0, .int .u64 0] 25))).drew.heap[w.heap.size + 1]? = some (.cells #[.int .u64 x2, .int .u64 y2] 25) ∧ ((((w.alloc (Obj.cells #[.int .u64 x1, .int .u64 y1] 25)).alloc (Obj.cells #[.int .u64 x2, .int .u64 y2] 25)).alloc (Obj.cells #[.int .u64 0, .int .u64 0] 25))).drew.heap[w.heap.size + 1 + 1]? = some (.cells #[.int .u64 0, .int .u64 0] 25) := ⟨B0.drew, A3, A4, Bc⟩
 go_wp2_with fail
 go_region_held3 (fun W => Below w.heap.size w W ∧ W.heap[w.heap.size]? = some (.cells #[.int .u64 x1, .int .u64 y1] 25) ∧ W.heap[w.heap.size + 1]? = some (.cells #[.int .u64 x2, .int .u64 y2] 25) ∧ W.heap[w.heap.size + 1 + 1]? = some (.cells #[.int .u64 0, .int .u64 0] 25) ∧ W.cell? ⟨w.heap.size, 0, none⟩ = some (.int .u64 x1) ∧ W.cell? ⟨w.heap.size, 1, none⟩ = some (.int .u64 y1) ∧ W.cell? ⟨w.heap.size + 1, 0, none⟩ = some (.int .u64 x2) ∧ W.cell? ⟨w.heap.size + 1, 1, none⟩ = some (.int .u64 y2) ∧ W.cell? ⟨w.heap.size + 1 + 1, 0, none⟩ = some (.int .u64 0) ∧ W.cell? ⟨w.heap.size + 1 + 1, 1, none⟩ = some (.int .u64 0)) (first | exact sC.out _ s1 | exact sC.out _ s0)
  (((first | (go_at_call_of 156 (Value.agg #[.int .u64 x1, .int .u64 y1]); (first | refine (KMa.out _ (zZ FF.out (And.left s1))).mono ?_ | refine (KMa.out _ (zZ FF.out (And.left s0))).mono ?_)) | (go_at_call_of 156 (Value.agg #[.int .u64 x2, .int .u64 y2]); (first | refine (KMb.out _ (zZ FF.out (And.left s1))).mono ?_ | refine (KMb.out _ (zZ FF.out (And.left s0))).mono ?_)) | (go_at_call 155; (first | refine (KC.out _).mono ?_ | refine (KC.out _).mono ?_)) | fail); rintro r wq ⟨rfl, bq⟩; have s1 := (by first | exact sS.out _ _ s1 bq | exact sS.out _ _ s0 bq); clear bq))
 have B1 := (And.left s1)
 have AT := s1.2.1
 have Bd := s1.2.2.1
 have Bt := s1.2.2.2
 clear s0 s1 sS sC B0 A3 Bp Bq A4 Br Bs Bc
 obtain ⟨CR, CS⟩ := zC AT
 obtain ⟨CT, CU⟩ := zC Bd
 have q0_2 := fz (k := 0) AT
 have q1_2 := fz (k := 1) AT
 have B2 := zM B1 (show w.heap.size ≤ w.heap.size by first | exact Nat.le_refl _ | omega | (skip; omega)) (.int .u64 x2) (.int .u64 y2)
 have Be : ((wq.setCell ⟨w.heap.size, 0, none⟩ (.int .u64 x2)).setCell ⟨w.heap.size, 1, none⟩ (.int .u64 y2)).heap[w.heap.size]? = some (.cells #[.int .u64 x2, .int .u64 y2] 25) := x6 AT _ _
 have AU : ((wq.setCell ⟨w.heap.size, 0, none⟩ (.int .u64 x2)).setCell ⟨w.heap.size, 1, none⟩ (.int .u64 y2)).heap[w.heap.size + 1]? = some (.cells #[.int .u64 x2, .int .u64 y2] 25) := (zH (by first | omega | (skip; omega))).trans ((zH (by first | omega | (skip; omega))).trans Bd)
 have Bu : ((wq.setCell ⟨w.heap.size, 0, none⟩ (.int .u64 x2)).setCell ⟨w.heap.size, 1, none⟩ (.int .u64 y2)).heap[w.heap.size + 1 + 1]? = some (.cells #[.int .u64 0, .int .u64 0] 25) := (zH (by first | omega | (skip; omega))).trans ((zH (by first | omega | (skip; omega))).trans Bt)
 obtain ⟨CV, CW⟩ := zC Be
 obtain ⟨CX, CY⟩ := zC AU
 have q0_3 := fz (k := 0) AU
 have q1_3 := fz (k := 1) AU
 have B3 := zM B2 (show w.heap.size ≤ w.heap.size + 1 by first | exact Nat.le_refl _ | omega | (skip; omega)) (.int .u64 x1) (.int .u64 y1)
 have A5 : ((((wq.setCell ⟨w.heap.size, 0, none⟩ (.int .u64 x2)).setCell ⟨w.heap.size, 1, none⟩ (.int .u64 y2)).setCell ⟨w.heap.size + 1, 0, none⟩ (.int .u64 x1)).setCell ⟨w.heap.size + 1, 1, none⟩ (.int .u64 y1)).heap[w.heap.size + 1]? = some (.cells #[.int .u64 x1, .int .u64 y1] 25) := x6 AU _ _
 have A6 : ((((wq.setCell ⟨w.heap.size, 0, none⟩ (.int .u64 x2)).setCell ⟨w.heap.size, 1, none⟩ (.int .u64 y2)).setCell ⟨w.heap.size + 1, 0, none⟩ (.int .u64 x1)).setCell ⟨w.heap.size + 1, 1, none⟩ (.int .u64 y1)).heap[w.heap.size]? = some (.cells #[.int .u64 x2, .int .u64 y2] 25) := (zH (by first | omega | (skip; omega))).trans ((zH (by first | omega | (skip; omega))).trans Be)
 have Bf : ((((wq.setCell ⟨w.heap.size, 0, none⟩ (.int .u64 x2)).setCell ⟨w.heap.size, 1, none⟩ (.int .u64 y2)).setCell ⟨w.heap.size + 1, 0, none⟩ (.int .u64 x1)).setCell ⟨w.heap.size + 1, 1, none⟩ (.int .u64 y1)).heap[w.heap.size + 1 + 1]? = some (.cells #[.int .u64 0, .int .u64 0] 25) := (zH (by first | omega | (skip; omega))).trans ((zH (by first | omega | (skip; omega))).trans Bu)
 obtain ⟨Bv, Bw⟩ := zC A6
 obtain ⟨Bx, By⟩ := zC A5
 go_wp2_with fail
 refine (KU1.out _ (zZ FF.out B3)).mono ?_
 rintro r w4 ⟨rfl, b4⟩
 have B4 := zU B3 b4
 obtain ⟨AV, AW, A7⟩ := yA b4 A6 A5 Bf
 clear b4 B3 A6 Bv Bw A5 Bx By Bf
 obtain ⟨Bz, BA⟩ := zC AV
 obtain ⟨BB, BC⟩ := zC AW
 have S5 := zJ B4.size
 have AC := yE AV
 have AD := yE AW
 have AE := yE A7
 have A8 := heap_alloc_last w4 (Obj.cells (pt c1 m1 X1 r1) 73)
 have B5 := zU B4 (yO w4 (Obj.cells (pt c1 m1 X1 r1) 73))
 obtain ⟨A9, Ba, Bg⟩ := yA (yO w4 (Obj.cells (pt c1 m1 X1 r1) 73)) AV AW A7
 clear B4 AV Bz BA AW BB BC A7
 obtain ⟨BD, BE⟩ := zC A9
 obtain ⟨BF, BG⟩ := zC Ba
 have BH := (zF A8).1
 go_wp2_with fail
 refine (KU2.out _ (zZ FF.out B5)).mono ?_
 rintro r w6 ⟨rfl, b6⟩
 have B6 := zU B5 b6
 obtain ⟨AX, AY, Bb, AZ⟩ := qJ b6 A9 Ba Bg A8
 clear b6 B5 A9 BD BE Ba BF BG Bg A8 BH
 obtain ⟨BI, BJ⟩ := zC AX
 obtain ⟨BK, BL⟩ := zC AY
 have BM := (zF AZ).1
 have S7 := zJ B6.size
 have AF := yE AX
 have AG := yE AY
 have AH := yE Bb
 have AI := yE AZ
 have Ai := heap_alloc_last w6 (Obj.cells (pt c2 m2 X2 r2) 73)
 have B7 := zU B6 (yO w6 (Obj.cells (pt c2 m2 X2 r2) 73))
 obtain ⟨Aj, Ak, Ao, Al⟩ := qJ (yO w6 (Obj.cells (pt c2 m2 X2 r2) 73)) AX AY Bb AZ
 clear B6 AX BI BJ AY BK BL Bb AZ BM
 obtain ⟨AJ, AK⟩ := zC Aj
 obtain ⟨AL, AM⟩ := zC Ak
 have AN := (zF Al).1
 have AO := (zF Ai).1
 rcases H.out with ⟨h18, KN, rfl⟩ | ⟨h18, h28, KN, rfl⟩ | ⟨h18, h28, h19, KN, rfl⟩ | ⟨h18, h28, h19, hd, KE1, KE2, KN, rfl⟩ | ⟨h18, h28, h19, hd, KE1, KE2, rfl, rfl, rfl⟩ | ⟨h18, h28, h19, KE1, KE2, rfl, rfl, rfl⟩ | ⟨h18, h28, h19, KE1, KT, KP⟩
 ·
  clear H
  go_wp2_with fail
  refine (KN.out _ (zZ FF.out B7)).mono ?_
  rintro r w8 ⟨rfl, b8⟩
  have B8 := zU B7 b8
  obtain ⟨Ab, Ac, Aa, Ad, Ae⟩ := xO b8 Aj Ak Ao Al Ai
  clear b8 B7 Aj AJ AK Ak AL AM Ao Al AN Ai AO
  obtain ⟨Aq, Ar⟩ := zC Ab
  obtain ⟨As, At⟩ := zC Ac
  have Au := (zF Ad).1
  have Av := (zF Ae).1
  obtain ⟨Bh, Bi⟩ := zC Aa
  have q0 := fz (k := 0) Aa
  have q1 := fz (k := 1) Aa
  obtain ⟨E0, E1⟩ := zN Aa (.int .u64 u) (.int .u64 v)
  go_wp2
  exact bodyPost_ret (v := .tuple #[.agg #[.int .u64 u, .int .u64 v], .int .u8 16, .int .i64 0]) (by simp [results, Tryz.results76, go_sem, E0, E1]) rfl ⟨rfl, zM B8 (by first | exact Nat.le_refl _ | omega | (have := S5.out; have := AC.out; have := AD.out; have := AE.out; have := S7.out; have := AF.out; have := AG.out; have := AH.out; have := AI.out; omega)) _ _⟩
 ·
  clear H
  go_wp2_with fail
  refine (KN.out _ (zZ FF.out B7)).mono ?_
  rintro r w8 ⟨rfl, b8⟩
  have B8 := zU B7 b8
  obtain ⟨Ab, Ac, Aa, Ad, Ae⟩ := xO b8 Aj Ak Ao Al Ai
  clear b8 B7 Aj AJ AK Ak AL AM Ao Al AN Ai AO
  obtain ⟨Aq, Ar⟩ := zC Ab
  obtain ⟨As, At⟩ := zC Ac
  have Au := (zF Ad).1
  have Av := (zF Ae).1
  obtain ⟨Bh, Bi⟩ := zC Aa
  have q0 := fz (k := 0) Aa
  have q1 := fz (k := 1) Aa
  obtain ⟨E0, E1⟩ := zN Aa (.int .u64 u) (.int .u64 v)
  go_wp2
  exact bodyPost_ret (v := .tuple #[.agg #[.int .u64 u, .int .u64 v], .int .u8 16, .int .i64 0]) (by simp [results, Tryz.results76, go_sem, E0, E1]) rfl ⟨rfl, zM B8 (by first | exact Nat.le_refl _ | omega | (have := S5.out; have := AC.out; have := AD.out; have := AE.out; have := S7.out; have := AF.out; have := AG.out; have := AH.out; have := AI.out; omega)) _ _⟩
 ·
  clear H
  go_wp2_with fail
  refine (KN.out _ (zZ FF.out B7)).mono ?_
  rintro r w8 ⟨rfl, b8⟩
  have B8 := zU B7 b8
  obtain ⟨Ab, Ac, Aa, Ad, Ae⟩ := xO b8 Aj Ak Ao Al Ai
  clear b8 B7 Aj AJ AK Ak AL AM Ao Al AN Ai AO
  obtain ⟨Aq, Ar⟩ := zC Ab
  obtain ⟨As, At⟩ := zC Ac
  have Au := (zF Ad).1
  have Av := (zF Ae).1
  obtain ⟨Bh, Bi⟩ := zC Aa
  have q0 := fz (k := 0) Aa
  have q1 := fz (k := 1) Aa
  obtain ⟨E0, E1⟩ := zN Aa (.int .u64 u) (.int .u64 v)
  go_wp2
  exact bodyPost_ret (v := .tuple #[.agg #[.int .u64 u, .int .u64 v], .int .u8 0, .int .i64 0]) (by simp [results, Tryz.results76, go_sem, E0, E1]) rfl ⟨rfl, zM B8 (by first | exact Nat.le_refl _ | omega | (have := S5.out; have := AC.out; have := AD.out; have := AE.out; have := S7.out; have := AF.out; have := AG.out; have := AH.out; have := AI.out; omega)) _ _⟩
 ·
  clear H
  go_wp2_with fail
  refine (KE1.out _).mono ?_
  rintro r w8 ⟨rfl, b8⟩
  have B8 := zU B7 b8
  obtain ⟨Ab, Ac, Aa, Ad, Ae⟩ := xO b8 Aj Ak Ao Al Ai
  clear b8 B7 Aj AJ AK Ak AL AM Ao Al AN Ai AO
  obtain ⟨Aq, Ar⟩ := zC Ab
  obtain ⟨As, At⟩ := zC Ac
  have Au := (zF Ad).1
  have Av := (zF Ae).1
  go_wp2_with fail
  refine (KE2.out _).mono ?_
  rintro r w9 ⟨rfl, b9⟩
  have B9 := zU B8 b9
  obtain ⟨Am, An, Ap, Ag, Ah⟩ := xO b9 Ab Ac Aa Ad Ae
  clear b9 B8 Ab Aq Ar Ac As At Aa Ad Au Ae Av
  obtain ⟨AP, AQ⟩ := zC Am
  obtain ⟨AR, AS⟩ := zC An
  have Ay := (zF Ag).1
  have Az := (zF Ah).1
  go_wp2_with fail
  refine (KN.out _ (zZ FF.out B9)).mono ?_
  rintro r w10 ⟨rfl, b10⟩
  have B10 := zU B9 b10
  obtain ⟨AA, AB, Af, Aw, Ax⟩ := xO b10 Am An Ap Ag Ah
  clear b10 B9 Am AP AQ An AR AS Ap Ag Ay Ah Az
  obtain ⟨Bj, Bk⟩ := zC AA
  obtain ⟨Bl, Bm⟩ := zC AB
  have A0 := (zF Aw).1
  have A1 := (zF Ax).1
  obtain ⟨Bn, Bo⟩ := zC Af
  have q0 := fz (k := 0) Af
  have q1 := fz (k := 1) Af
  obtain ⟨E0, E1⟩ := zN Af (.int .u64 u) (.int .u64 v)
  go_wp2
  exact bodyPost_ret (v := .tuple #[.agg #[.int .u64 u, .int .u64 v], .int .u8 16, .int .i64 0]) (by simp [results, Tryz.results76, go_sem, E0, E1]) rfl ⟨rfl, zM B10 (by first | exact Nat.le_refl _ | omega | (have := S5.out; have := AC.out; have := AD.out; have := AE.out; have := S7.out; have := AF.out; have := AG.out; have := AH.out; have := AI.out; omega)) _ _⟩
 ·
  clear H
  go_wp2_with fail
  refine (KE1.out _).mono ?_
  rintro r w8 ⟨rfl, b8⟩
  have B8 := zU B7 b8
  obtain ⟨Ab, Ac, Aa, Ad, Ae⟩ := xO b8 Aj Ak Ao Al Ai
  clear b8 B7 Aj AJ AK Ak AL AM Ao Al AN Ai AO
  obtain ⟨Aq, Ar⟩ := zC Ab
  obtain ⟨As, At⟩ := zC Ac
  have Au := (zF Ad).1
  have Av := (zF Ae).1
  go_wp2_with fail
  refine (KE2.out _).mono ?_
  rintro r w9 ⟨rfl, b9⟩
  have B9 := zU B8 b9
  obtain ⟨Am, An, Ap, Ag, Ah⟩ := xO b9 Ab Ac Aa Ad Ae
  clear b9 B8 Ab Aq Ar Ac As At Aa Ad Au Ae Av
  obtain ⟨AP, AQ⟩ := zC Am
  obtain ⟨AR, AS⟩ := zC An
  have Ay := (zF Ag).1
  have Az := (zF Ah).1
  go_wp2_with fail
  refine (KE1.out _).mono ?_
  rintro r w10 ⟨rfl, b10⟩
  have B10 := zU B9 b10
  obtain ⟨AA, AB, Af, Aw, Ax⟩ := xO b10 Am An Ap Ag Ah
  clear b10 B9 Am AP AQ An AR AS Ap Ag Ay Ah Az
  obtain ⟨Bj, Bk⟩ := zC AA
  obtain ⟨Bl, Bm⟩ := zC AB
  have A0 := (zF Aw).1
  have A1 := (zF Ax).1
  obtain ⟨Bn, Bo⟩ := zC Af
  have q0 := fz (k := 0) Af
  have q1 := fz (k := 1) Af
  obtain ⟨E0, E1⟩ := zN Af (.int .u64 x2) (.int .u64 y2)
  go_wp2
  exact bodyPost_ret (v := .tuple #[.agg #[.int .u64 x2, .int .u64 y2], .int .u8 0, .int .i64 0]) (by simp [results, Tryz.results76, go_sem, E0, E1]) rfl ⟨rfl, zM B10 (by first | exact Nat.le_refl _ | omega | (have := S5.out; have := AC.out; have := AD.out; have := AE.out; have := S7.out; have := AF.out; have := AG.out; have := AH.out; have := AI.out; omega)) _ _⟩
 ·
  clear H
  go_wp2_with fail
  refine (KE1.out _).mono ?_
  rintro r w8 ⟨rfl, b8⟩
  have B8 := zU B7 b8
  obtain ⟨Ab, Ac, Aa, Ad, Ae⟩ := xO b8 Aj Ak Ao Al Ai
  clear b8 B7 Aj AJ AK Ak AL AM Ao Al AN Ai AO
  obtain ⟨Aq, Ar⟩ := zC Ab
  obtain ⟨As, At⟩ := zC Ac
  have Au := (zF Ad).1
  have Av := (zF Ae).1
  go_wp2_with fail
  refine (KE2.out _).mono ?_
  rintro r w9 ⟨rfl, b9⟩
  have B9 := zU B8 b9
  obtain ⟨Am, An, Ap, Ag, Ah⟩ := xO b9 Ab Ac Aa Ad Ae
  clear b9 B8 Ab Aq Ar Ac As At Aa Ad Au Ae Av
  obtain ⟨AP, AQ⟩ := zC Am
  obtain ⟨AR, AS⟩ := zC An
  have Ay := (zF Ag).1
  have Az := (zF Ah).1
  go_wp2_with fail
  refine (KE1.out _).mono ?_
  rintro r w10 ⟨rfl, b10⟩
  have B10 := zU B9 b10
  obtain ⟨AA, AB, Af, Aw, Ax⟩ := xO b10 Am An Ap Ag Ah
  clear b10 B9 Am AP AQ An AR AS Ap Ag Ay Ah Az
  obtain ⟨Bj, Bk⟩ := zC AA
  obtain ⟨Bl, Bm⟩ := zC AB
  have A0 := (zF Aw).1
  have A1 := (zF Ax).1
  obtain ⟨Bn, Bo⟩ := zC Af
  have q0 := fz (k := 0) Af
  have q1 := fz (k := 1) Af
  obtain ⟨E0, E1⟩ := zN Af (.int .u64 x2) (.int .u64 y2)
  go_wp2
  exact bodyPost_ret (v := .tuple #[.agg #[.int .u64 x2, .int .u64 y2], .int .u8 0, .int .i64 0]) (by simp [results, Tryz.results76, go_sem, E0, E1]) rfl ⟨rfl, zM B10 (by first | exact Nat.le_refl _ | omega | (have := S5.out; have := AC.out; have := AD.out; have := AE.out; have := S7.out; have := AF.out; have := AG.out; have := AH.out; have := AI.out; omega)) _ _⟩
 ·
  clear H
  go_wp2_with fail
  refine (KE1.out _).mono ?_
  rintro r w8 ⟨rfl, b8⟩
  have B8 := zU B7 b8
  obtain ⟨Ab, Ac, Aa, Ad, Ae⟩ := xO b8 Aj Ak Ao Al Ai
  clear b8 B7 Aj AJ AK Ak AL AM Ao Al AN Ai AO
  obtain ⟨Aq, Ar⟩ := zC Ab
  obtain ⟨As, At⟩ := zC Ac
  have Au := (zF Ad).1
  have Av := (zF Ae).1
  go_wp2_with fail
  refine (KE1.out _).mono ?_
  rintro r w9 ⟨rfl, b9⟩
  have B9 := zU B8 b9
  obtain ⟨Am, An, Ap, Ag, Ah⟩ := xO b9 Ab Ac Aa Ad Ae
  clear b9 B8 Ab Aq Ar Ac As At Aa Ad Au Ae Av
  obtain ⟨AP, AQ⟩ := zC Am
  obtain ⟨AR, AS⟩ := zC An
  have Ay := (zF Ag).1
  have Az := (zF Ah).1
  clear AP AQ
  clear AR AS
  obtain ⟨Ay, BN, BO, BP, BQ, BR, BS, BT, BU, BV, BW, BX, BY, BZ⟩ := zF Ag
  obtain ⟨Az, Ca, Cb, Cc, Cd, Ce, Cf, Cg, Ch, Ci, Cj, Ck, Cl, Cm⟩ := zF Ah
  go_wp2_with fail
  refine (KT.out _).mono ?_
  rintro r w10 ⟨rfl, b10⟩
  have B10 := zU B9 b10
  obtain ⟨AA, AB, Af, Aw, Ax⟩ := xO b10 Am An Ap Ag Ah
  clear b10 B9 Am An Ap Ag Ay BN BO BP BQ BR BS BT BU BV BW BX BY BZ Ah Az Ca Cb Cc Cd Ce Cf Cg Ch Ci Cj Ck Cl Cm
  obtain ⟨A0, Cn, Co, Cp, Cq, Cr, Cs, Ct, Cu, Cv, Cw, Cx, Cy, Cz⟩ := zF Aw
  obtain ⟨A1, CA, CB, CC, CD, CE, CF, CG, CH, CI, CJ, CK, CL, CM⟩ := zF Ax
  clear A0 Cn Co Cp Cq Cr Cs Ct Cu Cv Cw Cx Cy Cz
  clear A1 CA CB CC CD CE CF CG CH CI CJ CK CL CM
  go_wp2_with fail
  refine (KP.out _ (zZ FF.out B10)).mono ?_
  rintro r w11 ⟨rfl, b11⟩
  have B11 := zU B10 b11
  obtain ⟨CZ, C0, A2, C1, C2⟩ := xO b11 AA AB Af Aw Ax
  clear b11 B10 AA AB Af Aw Ax
  obtain ⟨C3, C4⟩ := zC A2
  have q0 := fz (k := 0) A2
  have q1 := fz (k := 1) A2
  obtain ⟨E0, E1⟩ := zN A2 (.int .u64 u) (.int .u64 v)
  go_wp2
  exact bodyPost_ret (v := .tuple #[.agg #[.int .u64 u, .int .u64 v], .int .u8 fl, .int .i64 0]) (by simp [results, Tryz.results76, go_sem, E0, E1]) rfl ⟨rfl, zM B11 (by first | exact Nat.le_refl _ | omega | (have := S5.out; have := AC.out; have := AD.out; have := AE.out; have := S7.out; have := AF.out; have := AG.out; have := AH.out; have := AI.out; omega)) _ _⟩
end Go.Proofs.YtoaaajeblhaeoaaGreatDoor
namespace Go.Proofs.YtoaaajeblhaeoaaGreatDoor
set_option maxRecDepth 100000
set_option maxHeartbeats 40000000
open Go.RowKit WMath XMath
set_option linter.unusedSimpArgs false
set_option linter.unusedVariables false
def kM (f : Int) (n : Nat) : Nat := kE f n * 2 ^ pV f + kT f n
theorem kC_all (f : Int) (n : Nat) : (kE f n = oV f ∧ kT f n = 0 ∧ kC f n = if kN f n then 0 else 7) ∨ (kE f n = oV f ∧ kT f n ≠ 0 ∧ kT f n < 2 ^ (pV f - 1) ∧ kC f n = 8) ∨ (kE f n = oV f ∧ 2 ^ (pV f - 1) ≤ kT f n ∧ kC f n = 9) ∨
  (kE f n < oV f ∧ kE f n ≠ 0 ∧ kC f n = if kN f n then 1 else 6) ∨ (kE f n < oV f ∧ kE f n = 0 ∧ kT f n ≠ 0 ∧ kC f n = if kN f n then 2 else 5) ∨ (kE f n < oV f ∧ kE f n = 0 ∧ kT f n = 0 ∧ kC f n = if kN f n then 3 else 4) := by
 have el := kE_le (f := f) n
 have p := Nat.two_pow_pos (pV f - 1)
 unfold kC
 by_cases c1 : kE f n = oV f
 ·
  by_cases c2 : kT f n = 0
  ·
   left
   refine ⟨c1, c2, ?_⟩
   (repeat' split) <;> first | rfl | omega | simp_all
  ·
   by_cases c3 : kT f n < 2 ^ (pV f - 1)
   ·
    right; left
    refine ⟨c1, c2, c3, ?_⟩
    (repeat' split) <;> first | rfl | omega | simp_all
   ·
    right; right; left
    refine ⟨c1, by omega, ?_⟩
    (repeat' split) <;> first | rfl | omega | simp_all
 ·
  by_cases c2 : kE f n = 0
  ·
   by_cases c3 : kT f n = 0
   ·
    right; right; right; right; right
    refine ⟨by omega, c2, c3, ?_⟩
    (repeat' split) <;> first | rfl | omega | simp_all
   ·
    right; right; right; right; left
    refine ⟨by omega, c2, c3, ?_⟩
    (repeat' split) <;> first | rfl | omega | simp_all
  ·
   right; right; right; left
   refine ⟨by omega, c2, ?_⟩
   (repeat' split) <;> first | rfl | omega | simp_all
theorem kM_ord {f : Int} {g l : Nat} (h : kM f l ≤ kM f g) : kE f l ≤ kE f g ∧ (kE f l = kE f g → kT f l ≤ kT f g) := by
 have t1 := kT_lt (f := f) g
 have t2 := kT_lt (f := f) l
 unfold kM at h
 refine ⟨?_, fun e => by rw [e] at h; omega⟩
 rcases Nat.lt_or_ge (kE f g) (kE f l) with c | c
 ·
  exfalso
  have := Nat.mul_le_mul_right (2 ^ pV f) (show kE f g + 1 ≤ kE f l by omega)
  rw [Nat.add_mul, Nat.one_mul] at this
  omega
 ·
  exact c
theorem kM_class {f : Int} {g l : Nat} (h : kM f l ≤ kM f g) : (kC f l = 9 → kC f g = 9) ∧ (kC f l = 0 ∨ kC f l = 7 → kC f g = 0 ∨ kC f g = 7 ∨ kC f g = 8 ∨ kC f g = 9) ∧ (kC f l = 8 → kC f g = 8 ∨ kC f g = 9) := by
 obtain ⟨o1, o2⟩ := kM_ord h
 have pp := Nat.two_pow_pos (pV f - 1)
 have eg := kE_le (f := f) g
 have cl := kC_all f l
 have cg := kC_all f g
 have sl : (if kN f l then (0 : Nat) else 7) = 0 ∨ (if kN f l then (0 : Nat) else 7) = 7 := by cases kN f l <;> simp
 have sg : (if kN f g then (0 : Nat) else 7) = 0 ∨ (if kN f g then (0 : Nat) else 7) = 7 := by cases kN f g <;> simp
 have s2 : (if kN f l then (1 : Nat) else 6) = 1 ∨ (if kN f l then (1 : Nat) else 6) = 6 := by cases kN f l <;> simp
 have s3 : (if kN f l then (2 : Nat) else 5) = 2 ∨ (if kN f l then (2 : Nat) else 5) = 5 := by cases kN f l <;> simp
 have s4 : (if kN f l then (3 : Nat) else 4) = 3 ∨ (if kN f l then (3 : Nat) else 4) = 4 := by cases kN f l <;> simp
 have s5 : (if kN f g then (1 : Nat) else 6) = 1 ∨ (if kN f g then (1 : Nat) else 6) = 6 := by cases kN f g <;> simp
 have s6 : (if kN f g then (2 : Nat) else 5) = 2 ∨ (if kN f g then (2 : Nat) else 5) = 5 := by cases kN f g <;> simp
 have s7 : (if kN f g then (3 : Nat) else 4) = 3 ∨ (if kN f g then (3 : Nat) else 4) = 4 := by cases kN f g <;> simp
 generalize (if kN f l then (0 : Nat) else 7) = a1 at *
 generalize (if kN f g then (0 : Nat) else 7) = a2 at *
 generalize (if kN f l then (1 : Nat) else 6) = a3 at *
 generalize (if kN f l then (2 : Nat) else 5) = a4 at *
 generalize (if kN f l then (3 : Nat) else 4) = a5 at *
 generalize (if kN f g then (1 : Nat) else 6) = a6 at *
 generalize (if kN f g then (2 : Nat) else 5) = a7 at *
 generalize (if kN f g then (3 : Nat) else 4) = a8 at *
 refine ⟨fun q => ?_, fun q => ?_, fun q => ?_⟩ <;> omega
theorem kC_sign {f : Int} (n : Nat) (h : 0 < kC f n ∧ kC f n < 7) : decide (kC f n ≤ 3) = kN f n := by
 have c := kC_all f n
 cases hn : kN f n
 ·
  rw [hn] at c
  rw [decide_eq_false_iff_not]
  simp only [Bool.false_eq_true, if_false] at c
  omega
 ·
  rw [hn] at c
  rw [decide_eq_true_iff]
  simp only [if_true] at c
  omega
theorem kM_dist {f : Int} (hf : yU f) {g l : Nat} (h : kM f l ≤ kM f g) (hg : kC f g = 1 ∨ kC f g = 2 ∨ kC f g = 5 ∨ kC f g = 6) (hl : kC f l = 1 ∨ kC f l = 2 ∨ kC f l = 5 ∨ kC f l = 6) :
  ∃ n : Nat, kX f g = kX f l + (n : Int) ∧ kS f l ≤ kS f g * 2 ^ n ∧ (8 * kS f l % 2 ^ n ≠ 0 → 2 ^ pV f ≤ kS f g) ∧ kS f l < 2 * 2 ^ pV f := by
 obtain ⟨o1, o2⟩ := kM_ord h
 obtain ⟨g1, g2, g3, g4⟩ := k_parts (f := f) g hg
 obtain ⟨l1, l2, l3, l4⟩ := k_parts (f := f) l hl
 have t1 := kT_lt (f := f) g
 have t2 := kT_lt (f := f) l
 rw [g2, g3, l2, l3]
 unfold sV xV
 generalize lx f = x
 generalize 2 ^ pV f = p at *
 generalize kE f g = eg at *
 generalize kE f l = el at *
 generalize kT f g = tg at *
 generalize kT f l = tl at *
 by_cases c0 : eg = 0
 ·
  have c1 : el = 0 := by omega
  rw [if_pos c0, if_pos c0, if_pos c1, if_pos c1]
  exact ⟨0, by omega, by rw [Nat.pow_zero, Nat.mul_one]; exact o2 (by omega), fun q => absurd (by rw [Nat.pow_zero]; exact Nat.mod_one _) q, by omega⟩
 ·
  rw [if_neg c0, if_neg c0]
  have big : ∀ n : Nat, 1 ≤ n → ∀ y, y < 2 * p → y ≤ (p + tg) * 2 ^ n := fun n hn y hy => by
   have : 2 ^ 1 ≤ 2 ^ n := Nat.pow_le_pow_right (by decide) hn
   have := Nat.mul_le_mul_left (p + tg) this
   omega
  by_cases c1 : el = 0
  ·
   rw [if_pos c1, if_pos c1]
   refine ⟨eg - 1, by omega, ?_, fun _ => by omega, by omega⟩
   by_cases c2 : eg = 1
   ·
    rw [c2, Nat.sub_self, Nat.pow_zero, Nat.mul_one]
    omega
   ·
    exact big (eg - 1) (by omega) tl (by omega)
  ·
   rw [if_neg c1, if_neg c1]
   refine ⟨eg - el, by omega, ?_, fun _ => by omega, by omega⟩
   by_cases c2 : el = eg
   ·
    have := o2 c2
    rw [c2, Nat.sub_self, Nat.pow_zero, Nat.mul_one]
    omega
   ·
    exact big (eg - el) (by omega) (p + tl) (by omega)
def adS (f : Int) (g l : Nat) : Nat := if kN f g = kN f l then 8 * kS f g + jr (8 * kS f l) (kX f g - kX f l).toNat else 8 * kS f g - jr (8 * kS f l) (kX f g - kX f l).toNat
def addG (f m : Int) (g l : Nat) : Nat × Int :=
  if kC f g = 8 ∨ kC f l = 8 then (eNaN f, 16)
  else if kC f g = 9 then (eNaN f, 0)
  else if kC f g = 0 ∨ kC f g = 7 then (if (kC f l = 0 ∨ kC f l = 7) ∧ kC f g ≠ kC f l then (eNaN f, 16) else (g, 0))
  else if adS f g l = 0 then (xN f (if kN f g = kN f l then kN f g else decide (m = 2)), 0)
  else dlv f m (kN f g) (kX f g - 3 + (zT (adS f g l) : Int) - 1) (qW (pV f + 1) (adS f g l)) (qM (pV f + 1) (adS f g l) false)
def addR (f m : Int) (a b : Nat) : Nat × Int := if kM f a < kM f b then addG f m b a else addG f m a b
theorem jr_zero (n : Nat) : jr 0 n = 0 := by rw [jr_even 0 n (Nat.zero_mod _), Nat.zero_div]
end Go.Proofs.YtoaaajeblhaeoaaGreatDoor
