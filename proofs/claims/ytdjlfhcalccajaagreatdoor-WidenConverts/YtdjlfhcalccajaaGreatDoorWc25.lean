/-
  What the functions that the statement reaches return: part 25 (G8, GA, G9, GE, GG, W1, W2).
-/
import Derived.Test.YtdjlfhcalccajaaGreatDoorWc24
namespace Go.Proofs.YtdjlfhcalccajaaGreatDoor
set_option maxRecDepth 100000
set_option maxHeartbeats 40000000
set_option maxRecDepth 100000
open Go.RowKit WMath
set_option linter.unusedSimpArgs false
set_option linter.unusedVariables false
set_option maxRecDepth 100000 in
set_option maxHeartbeats 8000000 in
theorem rcv_no1 (t g m:Int)(x1 y1:Nat)(w:World)(KR:Box (∀ w,Calls Tryz.prog 19 #[.int .u8 t] w fun r w'=>r=.returned (.bool false)/\Below w.heap.size w w')):Calls Tryz.prog 6 #[.int .u8 t,.int .u8 g,.int .u8 m,.agg #[.int .u64 (x1:Nat),.int .u64 (y1:Nat)]] w fun r w'=>r=.returned (.tuple #[.agg #[.int .u64 0,.int .u64 0],.int .u8 0,.int .i64 2])/\Below w.heap.size w w':=by
  obtain⟨Ra_0,Rz_0,B0⟩:=opn2 w (Obj.cells #[.int .u64 (x1:Nat),.int .u64 (y1:Nat)] 26) (Obj.cells #[.int .u64 0,.int .u64 0] 26)
  go_enter Tryz.func6,Tryz.ntmps6
  obtain⟨ca_0_0,ca_0_1⟩:=cells2s Ra_0;go_wp2_with fail
  refine (KR.out _).mono ?_;rintro r w1 ⟨rfl,b1⟩;have B1:Below w.heap.size w w1:=btr B0 b1;have Ra_1:=heap_of b1 _ _ _ Ra_0;have Rz_1:=heap_of b1 _ _ _ Rz_0;clear b1 B0 Ra_0 ca_0_0 ca_0_1 Rz_0;obtain⟨ca_1_0,ca_1_1⟩:=cells2s Ra_1;obtain⟨cz_1_0,cz_1_1⟩:=cells2s Rz_1;have q0:=fz (k:=0) Rz_1;have q1:=fz (k:=1) Rz_1;obtain⟨E0,E1⟩:=set2_cells Rz_1 (.int .u64 0) (.int .u64 0);go_wp2
  exact bodyPost_ret (v:=.tuple #[.agg #[.int .u64 0,.int .u64 0],.int .u8 0,.int .i64 2]) (by simp [results,Tryz.results6,go_sem,E0,E1]) rfl ⟨rfl,set2_below B1 (by first|exact Nat.le_refl _|omega|(skip;omega)) _ _⟩
set_option maxRecDepth 100000 in
set_option maxHeartbeats 8000000 in
theorem rcv_no2 (t g m:Int)(x1 y1:Nat)(w:World)(KR:Box (∀ w,Calls Tryz.prog 19 #[.int .u8 t] w fun r w'=>r=.returned (.bool true)/\Below w.heap.size w w'))(KF:Box (∀ w,Calls Tryz.prog 20 #[.int .u8 g,.agg #[.int .u64 (x1:Nat),.int .u64 (y1:Nat)]] w fun r w'=>r=.returned (.bool false)/\Below w.heap.size w w')):Calls Tryz.prog 6 #[.int .u8 t,.int .u8 g,.int .u8 m,.agg #[.int .u64 (x1:Nat),.int .u64 (y1:Nat)]] w fun r w'=>r=.returned (.tuple #[.agg #[.int .u64 0,.int .u64 0],.int .u8 0,.int .i64 2])/\Below w.heap.size w w':=by
  obtain⟨Ra_0,Rz_0,B0⟩:=opn2 w (Obj.cells #[.int .u64 (x1:Nat),.int .u64 (y1:Nat)] 26) (Obj.cells #[.int .u64 0,.int .u64 0] 26)
  go_enter Tryz.func6,Tryz.ntmps6
  obtain⟨ca_0_0,ca_0_1⟩:=cells2s Ra_0;go_wp2_with fail
  refine (KR.out _).mono ?_;rintro r w1 ⟨rfl,b1⟩;have B1:Below w.heap.size w w1:=btr B0 b1;have Ra_1:=heap_of b1 _ _ _ Ra_0;have Rz_1:=heap_of b1 _ _ _ Rz_0;clear b1 B0 Ra_0 ca_0_0 ca_0_1 Rz_0;obtain⟨ca_1_0,ca_1_1⟩:=cells2s Ra_1;go_wp2_with fail
  refine (KF.out _).mono ?_;rintro r w2 ⟨rfl,b2⟩;have B2:Below w.heap.size w w2:=btr B1 b2;have Ra_2:=heap_of b2 _ _ _ Ra_1;have Rz_2:=heap_of b2 _ _ _ Rz_1;clear b2 B1 Ra_1 ca_1_0 ca_1_1 Rz_1;obtain⟨ca_2_0,ca_2_1⟩:=cells2s Ra_2;obtain⟨cz_2_0,cz_2_1⟩:=cells2s Rz_2;have q0:=fz (k:=0) Rz_2;have q1:=fz (k:=1) Rz_2;obtain⟨E0,E1⟩:=set2_cells Rz_2 (.int .u64 0) (.int .u64 0);go_wp2
  exact bodyPost_ret (v:=.tuple #[.agg #[.int .u64 0,.int .u64 0],.int .u8 0,.int .i64 2]) (by simp [results,Tryz.results6,go_sem,E0,E1]) rfl ⟨rfl,set2_below B2 (by first|exact Nat.le_refl _|omega|(skip;omega)) _ _⟩
set_option maxRecDepth 100000 in
set_option maxHeartbeats 8000000 in
theorem rcv_no3 (t g m:Int)(x1 y1:Nat)(w:World)(KR:Box (∀ w,Calls Tryz.prog 19 #[.int .u8 t] w fun r w'=>r=.returned (.bool true)/\Below w.heap.size w w'))(KF:Box (∀ w,Calls Tryz.prog 20 #[.int .u8 g,.agg #[.int .u64 (x1:Nat),.int .u64 (y1:Nat)]] w fun r w'=>r=.returned (.bool true)/\Below w.heap.size w w'))(KM:Box (∀ w,Calls Tryz.prog 21 #[.int .u8 m] w fun r w'=>r=.returned (.bool false)/\Below w.heap.size w w')):Calls Tryz.prog 6 #[.int .u8 t,.int .u8 g,.int .u8 m,.agg #[.int .u64 (x1:Nat),.int .u64 (y1:Nat)]] w fun r w'=>r=.returned (.tuple #[.agg #[.int .u64 0,.int .u64 0],.int .u8 0,.int .i64 2])/\Below w.heap.size w w':=by
  obtain⟨Ra_0,Rz_0,B0⟩:=opn2 w (Obj.cells #[.int .u64 (x1:Nat),.int .u64 (y1:Nat)] 26) (Obj.cells #[.int .u64 0,.int .u64 0] 26)
  go_enter Tryz.func6,Tryz.ntmps6
  obtain⟨ca_0_0,ca_0_1⟩:=cells2s Ra_0;go_wp2_with fail
  refine (KR.out _).mono ?_;rintro r w1 ⟨rfl,b1⟩;have B1:Below w.heap.size w w1:=btr B0 b1;have Ra_1:=heap_of b1 _ _ _ Ra_0;have Rz_1:=heap_of b1 _ _ _ Rz_0;clear b1 B0 Ra_0 ca_0_0 ca_0_1 Rz_0;obtain⟨ca_1_0,ca_1_1⟩:=cells2s Ra_1;go_wp2_with fail
  refine (KF.out _).mono ?_;rintro r w2 ⟨rfl,b2⟩;have B2:Below w.heap.size w w2:=btr B1 b2;have Ra_2:=heap_of b2 _ _ _ Ra_1;have Rz_2:=heap_of b2 _ _ _ Rz_1;clear b2 B1 Ra_1 ca_1_0 ca_1_1 Rz_1;obtain⟨ca_2_0,ca_2_1⟩:=cells2s Ra_2;go_wp2_with fail
  refine (KM.out _).mono ?_;rintro r w3 ⟨rfl,b3⟩;have B3:Below w.heap.size w w3:=btr B2 b3;have Ra_3:=heap_of b3 _ _ _ Ra_2;have Rz_3:=heap_of b3 _ _ _ Rz_2;clear b3 B2 Ra_2 ca_2_0 ca_2_1 Rz_2;obtain⟨ca_3_0,ca_3_1⟩:=cells2s Ra_3;obtain⟨cz_3_0,cz_3_1⟩:=cells2s Rz_3;have q0:=fz (k:=0) Rz_3;have q1:=fz (k:=1) Rz_3;obtain⟨E0,E1⟩:=set2_cells Rz_3 (.int .u64 0) (.int .u64 0);go_wp2
  exact bodyPost_ret (v:=.tuple #[.agg #[.int .u64 0,.int .u64 0],.int .u8 0,.int .i64 2]) (by simp [results,Tryz.results6,go_sem,E0,E1]) rfl ⟨rfl,set2_below B3 (by first|exact Nat.le_refl _|omega|(skip;omega)) _ _⟩
set_option maxRecDepth 100000 in
set_option maxHeartbeats 8000000 in
theorem rcv_sn (t g m:Int)(x1 y1 u v:Nat)(neg:Bool)(w:World)(KR:Box (∀ w,Calls Tryz.prog 19 #[.int .u8 t] w fun r w'=>r=.returned (.bool true)/\Below w.heap.size w w'))(KF:Box (∀ w,Calls Tryz.prog 20 #[.int .u8 g,.agg #[.int .u64 (x1:Nat),.int .u64 (y1:Nat)]] w fun r w'=>r=.returned (.bool true)/\Below w.heap.size w w'))(KM:Box (∀ w,Calls Tryz.prog 21 #[.int .u8 m] w fun r w'=>r=.returned (.bool true)/\Below w.heap.size w w'))(KN:Box (∀ w,Calls Tryz.prog 22 #[.int .u8 g,.agg #[.int .u64 (x1:Nat),.int .u64 (y1:Nat)]] w fun r w'=>r=.returned (.bool true)/\Below w.heap.size w w'))(KS:Box (∀ w,Calls Tryz.prog 23 #[.int .u8 g,.agg #[.int .u64 (x1:Nat),.int .u64 (y1:Nat)]] w fun r w'=>r=.returned (.bool true)/\Below w.heap.size w w'))(KD:Box (∀ w,Calls Tryz.prog 24 #[.int .u8 t] w fun r w'=>r=.returned (.agg #[.int .u64 (u:Nat),.int .u64 (v:Nat)])/\Below w.heap.size w w')):Calls Tryz.prog 6 #[.int .u8 t,.int .u8 g,.int .u8 m,.agg #[.int .u64 (x1:Nat),.int .u64 (y1:Nat)]] w fun r w'=>r=.returned (.tuple #[.agg #[.int .u64 (u:Nat),.int .u64 (v:Nat)],.int .u8 16,.int .i64 0])/\Below w.heap.size w w':=by
  obtain⟨Ra_0,Rz_0,B0⟩:=opn2 w (Obj.cells #[.int .u64 (x1:Nat),.int .u64 (y1:Nat)] 26) (Obj.cells #[.int .u64 0,.int .u64 0] 26)
  go_enter Tryz.func6,Tryz.ntmps6
  obtain⟨ca_0_0,ca_0_1⟩:=cells2s Ra_0;go_wp2_with fail
  refine (KR.out _).mono ?_;rintro r w1 ⟨rfl,b1⟩;have B1:Below w.heap.size w w1:=btr B0 b1;have Ra_1:=heap_of b1 _ _ _ Ra_0;have Rz_1:=heap_of b1 _ _ _ Rz_0;clear b1 B0 Ra_0 ca_0_0 ca_0_1 Rz_0;obtain⟨ca_1_0,ca_1_1⟩:=cells2s Ra_1;go_wp2_with fail
  refine (KF.out _).mono ?_;rintro r w2 ⟨rfl,b2⟩;have B2:Below w.heap.size w w2:=btr B1 b2;have Ra_2:=heap_of b2 _ _ _ Ra_1;have Rz_2:=heap_of b2 _ _ _ Rz_1;clear b2 B1 Ra_1 ca_1_0 ca_1_1 Rz_1;obtain⟨ca_2_0,ca_2_1⟩:=cells2s Ra_2;go_wp2_with fail
  refine (KM.out _).mono ?_;rintro r w3 ⟨rfl,b3⟩;have B3:Below w.heap.size w w3:=btr B2 b3;have Ra_3:=heap_of b3 _ _ _ Ra_2;have Rz_3:=heap_of b3 _ _ _ Rz_2;clear b3 B2 Ra_2 ca_2_0 ca_2_1 Rz_2;obtain⟨ca_3_0,ca_3_1⟩:=cells2s Ra_3;go_wp2_with fail
  refine (KN.out _).mono ?_;rintro r w4 ⟨rfl,b4⟩;have B4:Below w.heap.size w w4:=btr B3 b4;have Ra_4:=heap_of b4 _ _ _ Ra_3;have Rz_4:=heap_of b4 _ _ _ Rz_3;clear b4 B3 Ra_3 ca_3_0 ca_3_1 Rz_3;obtain⟨ca_4_0,ca_4_1⟩:=cells2s Ra_4;go_wp2_with fail
  refine (KS.out _).mono ?_;rintro r w5 ⟨rfl,b5⟩;have B5:Below w.heap.size w w5:=btr B4 b5;have Ra_5:=heap_of b5 _ _ _ Ra_4;have Rz_5:=heap_of b5 _ _ _ Rz_4;clear b5 B4 Ra_4 ca_4_0 ca_4_1 Rz_4;obtain⟨ca_5_0,ca_5_1⟩:=cells2s Ra_5;go_wp2_with fail
  refine (KD.out _).mono ?_;rintro r w6 ⟨rfl,b6⟩;have B6:Below w.heap.size w w6:=btr B5 b6;have Ra_6:=heap_of b6 _ _ _ Ra_5;have Rz_6:=heap_of b6 _ _ _ Rz_5;clear b6 B5 Ra_5 ca_5_0 ca_5_1 Rz_5;obtain⟨ca_6_0,ca_6_1⟩:=cells2s Ra_6;obtain⟨cz_6_0,cz_6_1⟩:=cells2s Rz_6;have q0:=fz (k:=0) Rz_6;have q1:=fz (k:=1) Rz_6;obtain⟨E0,E1⟩:=set2_cells Rz_6 (.int .u64 (u:Nat)) (.int .u64 (v:Nat));go_wp2
  exact bodyPost_ret (v:=.tuple #[.agg #[.int .u64 (u:Nat),.int .u64 (v:Nat)],.int .u8 16,.int .i64 0]) (by simp [results,Tryz.results6,go_sem,E0,E1]) rfl ⟨rfl,set2_below B6 (by first|exact Nat.le_refl _|omega|(skip;omega)) _ _⟩
set_option maxRecDepth 100000 in
set_option maxHeartbeats 8000000 in
theorem rcv_qn (t g m:Int)(x1 y1 u v:Nat)(neg:Bool)(w:World)(KR:Box (∀ w,Calls Tryz.prog 19 #[.int .u8 t] w fun r w'=>r=.returned (.bool true)/\Below w.heap.size w w'))(KF:Box (∀ w,Calls Tryz.prog 20 #[.int .u8 g,.agg #[.int .u64 (x1:Nat),.int .u64 (y1:Nat)]] w fun r w'=>r=.returned (.bool true)/\Below w.heap.size w w'))(KM:Box (∀ w,Calls Tryz.prog 21 #[.int .u8 m] w fun r w'=>r=.returned (.bool true)/\Below w.heap.size w w'))(KN:Box (∀ w,Calls Tryz.prog 22 #[.int .u8 g,.agg #[.int .u64 (x1:Nat),.int .u64 (y1:Nat)]] w fun r w'=>r=.returned (.bool true)/\Below w.heap.size w w'))(KS:Box (∀ w,Calls Tryz.prog 23 #[.int .u8 g,.agg #[.int .u64 (x1:Nat),.int .u64 (y1:Nat)]] w fun r w'=>r=.returned (.bool false)/\Below w.heap.size w w'))(KD:Box (∀ w,Calls Tryz.prog 24 #[.int .u8 t] w fun r w'=>r=.returned (.agg #[.int .u64 (u:Nat),.int .u64 (v:Nat)])/\Below w.heap.size w w')):Calls Tryz.prog 6 #[.int .u8 t,.int .u8 g,.int .u8 m,.agg #[.int .u64 (x1:Nat),.int .u64 (y1:Nat)]] w fun r w'=>r=.returned (.tuple #[.agg #[.int .u64 (u:Nat),.int .u64 (v:Nat)],.int .u8 0,.int .i64 0])/\Below w.heap.size w w':=by
  obtain⟨Ra_0,Rz_0,B0⟩:=opn2 w (Obj.cells #[.int .u64 (x1:Nat),.int .u64 (y1:Nat)] 26) (Obj.cells #[.int .u64 0,.int .u64 0] 26)
  go_enter Tryz.func6,Tryz.ntmps6
  obtain⟨ca_0_0,ca_0_1⟩:=cells2s Ra_0;go_wp2_with fail
  refine (KR.out _).mono ?_;rintro r w1 ⟨rfl,b1⟩;have B1:Below w.heap.size w w1:=btr B0 b1;have Ra_1:=heap_of b1 _ _ _ Ra_0;have Rz_1:=heap_of b1 _ _ _ Rz_0;clear b1 B0 Ra_0 ca_0_0 ca_0_1 Rz_0;obtain⟨ca_1_0,ca_1_1⟩:=cells2s Ra_1;go_wp2_with fail
  refine (KF.out _).mono ?_;rintro r w2 ⟨rfl,b2⟩;have B2:Below w.heap.size w w2:=btr B1 b2;have Ra_2:=heap_of b2 _ _ _ Ra_1;have Rz_2:=heap_of b2 _ _ _ Rz_1;clear b2 B1 Ra_1 ca_1_0 ca_1_1 Rz_1;obtain⟨ca_2_0,ca_2_1⟩:=cells2s Ra_2;go_wp2_with fail
  refine (KM.out _).mono ?_;rintro r w3 ⟨rfl,b3⟩;have B3:Below w.heap.size w w3:=btr B2 b3;have Ra_3:=heap_of b3 _ _ _ Ra_2;have Rz_3:=heap_of b3 _ _ _ Rz_2;clear b3 B2 Ra_2 ca_2_0 ca_2_1 Rz_2;obtain⟨ca_3_0,ca_3_1⟩:=cells2s Ra_3;go_wp2_with fail
  refine (KN.out _).mono ?_;rintro r w4 ⟨rfl,b4⟩;have B4:Below w.heap.size w w4:=btr B3 b4;have Ra_4:=heap_of b4 _ _ _ Ra_3;have Rz_4:=heap_of b4 _ _ _ Rz_3;clear b4 B3 Ra_3 ca_3_0 ca_3_1 Rz_3;obtain⟨ca_4_0,ca_4_1⟩:=cells2s Ra_4;go_wp2_with fail
  refine (KS.out _).mono ?_;rintro r w5 ⟨rfl,b5⟩;have B5:Below w.heap.size w w5:=btr B4 b5;have Ra_5:=heap_of b5 _ _ _ Ra_4;have Rz_5:=heap_of b5 _ _ _ Rz_4;clear b5 B4 Ra_4 ca_4_0 ca_4_1 Rz_4;obtain⟨ca_5_0,ca_5_1⟩:=cells2s Ra_5;go_wp2_with fail
  refine (KD.out _).mono ?_;rintro r w6 ⟨rfl,b6⟩;have B6:Below w.heap.size w w6:=btr B5 b6;have Ra_6:=heap_of b6 _ _ _ Ra_5;have Rz_6:=heap_of b6 _ _ _ Rz_5;clear b6 B5 Ra_5 ca_5_0 ca_5_1 Rz_5;obtain⟨ca_6_0,ca_6_1⟩:=cells2s Ra_6;obtain⟨cz_6_0,cz_6_1⟩:=cells2s Rz_6;have q0:=fz (k:=0) Rz_6;have q1:=fz (k:=1) Rz_6;obtain⟨E0,E1⟩:=set2_cells Rz_6 (.int .u64 (u:Nat)) (.int .u64 (v:Nat));go_wp2
  exact bodyPost_ret (v:=.tuple #[.agg #[.int .u64 (u:Nat),.int .u64 (v:Nat)],.int .u8 0,.int .i64 0]) (by simp [results,Tryz.results6,go_sem,E0,E1]) rfl ⟨rfl,set2_below B6 (by first|exact Nat.le_refl _|omega|(skip;omega)) _ _⟩
set_option maxRecDepth 100000 in
set_option maxHeartbeats 8000000 in
theorem rcv_inf (t g m:Int)(x1 y1 u v:Nat)(neg:Bool)(w:World)(KR:Box (∀ w,Calls Tryz.prog 19 #[.int .u8 t] w fun r w'=>r=.returned (.bool true)/\Below w.heap.size w w'))(KF:Box (∀ w,Calls Tryz.prog 20 #[.int .u8 g,.agg #[.int .u64 (x1:Nat),.int .u64 (y1:Nat)]] w fun r w'=>r=.returned (.bool true)/\Below w.heap.size w w'))(KM:Box (∀ w,Calls Tryz.prog 21 #[.int .u8 m] w fun r w'=>r=.returned (.bool true)/\Below w.heap.size w w'))(KN:Box (∀ w,Calls Tryz.prog 22 #[.int .u8 g,.agg #[.int .u64 (x1:Nat),.int .u64 (y1:Nat)]] w fun r w'=>r=.returned (.bool false)/\Below w.heap.size w w'))(KG:Box (∀ w,Calls Tryz.prog 25 #[.int .u8 g,.agg #[.int .u64 (x1:Nat),.int .u64 (y1:Nat)]] w fun r w'=>r=.returned (.bool neg)/\Below w.heap.size w w'))(KI:Box (∀ w,Calls Tryz.prog 26 #[.int .u8 g,.agg #[.int .u64 (x1:Nat),.int .u64 (y1:Nat)]] w fun r w'=>r=.returned (.bool true)/\Below w.heap.size w w'))(KD:Box (∀ w,Calls Tryz.prog 27 #[.int .u8 t,.bool neg] w fun r w'=>r=.returned (.agg #[.int .u64 (u:Nat),.int .u64 (v:Nat)])/\Below w.heap.size w w')):Calls Tryz.prog 6 #[.int .u8 t,.int .u8 g,.int .u8 m,.agg #[.int .u64 (x1:Nat),.int .u64 (y1:Nat)]] w fun r w'=>r=.returned (.tuple #[.agg #[.int .u64 (u:Nat),.int .u64 (v:Nat)],.int .u8 0,.int .i64 0])/\Below w.heap.size w w':=by
  obtain⟨Ra_0,Rz_0,B0⟩:=opn2 w (Obj.cells #[.int .u64 (x1:Nat),.int .u64 (y1:Nat)] 26) (Obj.cells #[.int .u64 0,.int .u64 0] 26)
  go_enter Tryz.func6,Tryz.ntmps6
  obtain⟨ca_0_0,ca_0_1⟩:=cells2s Ra_0;go_wp2_with fail
  refine (KR.out _).mono ?_;rintro r w1 ⟨rfl,b1⟩;have B1:Below w.heap.size w w1:=btr B0 b1;have Ra_1:=heap_of b1 _ _ _ Ra_0;have Rz_1:=heap_of b1 _ _ _ Rz_0;clear b1 B0 Ra_0 ca_0_0 ca_0_1 Rz_0;obtain⟨ca_1_0,ca_1_1⟩:=cells2s Ra_1;go_wp2_with fail
  refine (KF.out _).mono ?_;rintro r w2 ⟨rfl,b2⟩;have B2:Below w.heap.size w w2:=btr B1 b2;have Ra_2:=heap_of b2 _ _ _ Ra_1;have Rz_2:=heap_of b2 _ _ _ Rz_1;clear b2 B1 Ra_1 ca_1_0 ca_1_1 Rz_1;obtain⟨ca_2_0,ca_2_1⟩:=cells2s Ra_2;go_wp2_with fail
  refine (KM.out _).mono ?_;rintro r w3 ⟨rfl,b3⟩;have B3:Below w.heap.size w w3:=btr B2 b3;have Ra_3:=heap_of b3 _ _ _ Ra_2;have Rz_3:=heap_of b3 _ _ _ Rz_2;clear b3 B2 Ra_2 ca_2_0 ca_2_1 Rz_2;obtain⟨ca_3_0,ca_3_1⟩:=cells2s Ra_3;go_wp2_with fail
  refine (KN.out _).mono ?_;rintro r w4 ⟨rfl,b4⟩;have B4:Below w.heap.size w w4:=btr B3 b4;have Ra_4:=heap_of b4 _ _ _ Ra_3;have Rz_4:=heap_of b4 _ _ _ Rz_3;clear b4 B3 Ra_3 ca_3_0 ca_3_1 Rz_3;obtain⟨ca_4_0,ca_4_1⟩:=cells2s Ra_4;go_wp2_with fail
  refine (KG.out _).mono ?_;rintro r w5 ⟨rfl,b5⟩;have B5:Below w.heap.size w w5:=btr B4 b5;have Ra_5:=heap_of b5 _ _ _ Ra_4;have Rz_5:=heap_of b5 _ _ _ Rz_4;clear b5 B4 Ra_4 ca_4_0 ca_4_1 Rz_4;obtain⟨ca_5_0,ca_5_1⟩:=cells2s Ra_5;go_wp2_with fail
  refine (KI.out _).mono ?_;rintro r w6 ⟨rfl,b6⟩;have B6:Below w.heap.size w w6:=btr B5 b6;have Ra_6:=heap_of b6 _ _ _ Ra_5;have Rz_6:=heap_of b6 _ _ _ Rz_5;clear b6 B5 Ra_5 ca_5_0 ca_5_1 Rz_5;obtain⟨ca_6_0,ca_6_1⟩:=cells2s Ra_6;go_wp2_with fail
  refine (KD.out _).mono ?_;rintro r w7 ⟨rfl,b7⟩;have B7:Below w.heap.size w w7:=btr B6 b7;have Ra_7:=heap_of b7 _ _ _ Ra_6;have Rz_7:=heap_of b7 _ _ _ Rz_6;clear b7 B6 Ra_6 ca_6_0 ca_6_1 Rz_6;obtain⟨ca_7_0,ca_7_1⟩:=cells2s Ra_7;obtain⟨cz_7_0,cz_7_1⟩:=cells2s Rz_7;have q0:=fz (k:=0) Rz_7;have q1:=fz (k:=1) Rz_7;obtain⟨E0,E1⟩:=set2_cells Rz_7 (.int .u64 (u:Nat)) (.int .u64 (v:Nat));go_wp2
  exact bodyPost_ret (v:=.tuple #[.agg #[.int .u64 (u:Nat),.int .u64 (v:Nat)],.int .u8 0,.int .i64 0]) (by simp [results,Tryz.results6,go_sem,E0,E1]) rfl ⟨rfl,set2_below B7 (by first|exact Nat.le_refl _|omega|(skip;omega)) _ _⟩
set_option maxRecDepth 100000 in
set_option maxHeartbeats 8000000 in
theorem rcv_zero (t g m:Int)(x1 y1 u v:Nat)(neg:Bool)(w:World)(KR:Box (∀ w,Calls Tryz.prog 19 #[.int .u8 t] w fun r w'=>r=.returned (.bool true)/\Below w.heap.size w w'))(KF:Box (∀ w,Calls Tryz.prog 20 #[.int .u8 g,.agg #[.int .u64 (x1:Nat),.int .u64 (y1:Nat)]] w fun r w'=>r=.returned (.bool true)/\Below w.heap.size w w'))(KM:Box (∀ w,Calls Tryz.prog 21 #[.int .u8 m] w fun r w'=>r=.returned (.bool true)/\Below w.heap.size w w'))(KN:Box (∀ w,Calls Tryz.prog 22 #[.int .u8 g,.agg #[.int .u64 (x1:Nat),.int .u64 (y1:Nat)]] w fun r w'=>r=.returned (.bool false)/\Below w.heap.size w w'))(KG:Box (∀ w,Calls Tryz.prog 25 #[.int .u8 g,.agg #[.int .u64 (x1:Nat),.int .u64 (y1:Nat)]] w fun r w'=>r=.returned (.bool neg)/\Below w.heap.size w w'))(KI:Box (∀ w,Calls Tryz.prog 26 #[.int .u8 g,.agg #[.int .u64 (x1:Nat),.int .u64 (y1:Nat)]] w fun r w'=>r=.returned (.bool false)/\Below w.heap.size w w'))(KZ:Box (∀ w,Calls Tryz.prog 28 #[.int .u8 g,.agg #[.int .u64 (x1:Nat),.int .u64 (y1:Nat)]] w fun r w'=>r=.returned (.bool true)/\Below w.heap.size w w'))(KD:Box (∀ w,Calls Tryz.prog 29 #[.int .u8 t,.bool neg] w fun r w'=>r=.returned (.agg #[.int .u64 (u:Nat),.int .u64 (v:Nat)])/\Below w.heap.size w w')):Calls Tryz.prog 6 #[.int .u8 t,.int .u8 g,.int .u8 m,.agg #[.int .u64 (x1:Nat),.int .u64 (y1:Nat)]] w fun r w'=>r=.returned (.tuple #[.agg #[.int .u64 (u:Nat),.int .u64 (v:Nat)],.int .u8 0,.int .i64 0])/\Below w.heap.size w w':=by
  obtain⟨Ra_0,Rz_0,B0⟩:=opn2 w (Obj.cells #[.int .u64 (x1:Nat),.int .u64 (y1:Nat)] 26) (Obj.cells #[.int .u64 0,.int .u64 0] 26)
  go_enter Tryz.func6,Tryz.ntmps6
  obtain⟨ca_0_0,ca_0_1⟩:=cells2s Ra_0;go_wp2_with fail
  refine (KR.out _).mono ?_;rintro r w1 ⟨rfl,b1⟩;have B1:Below w.heap.size w w1:=btr B0 b1;have Ra_1:=heap_of b1 _ _ _ Ra_0;have Rz_1:=heap_of b1 _ _ _ Rz_0;clear b1 B0 Ra_0 ca_0_0 ca_0_1 Rz_0;obtain⟨ca_1_0,ca_1_1⟩:=cells2s Ra_1;go_wp2_with fail
  refine (KF.out _).mono ?_;rintro r w2 ⟨rfl,b2⟩;have B2:Below w.heap.size w w2:=btr B1 b2;have Ra_2:=heap_of b2 _ _ _ Ra_1;have Rz_2:=heap_of b2 _ _ _ Rz_1;clear b2 B1 Ra_1 ca_1_0 ca_1_1 Rz_1;obtain⟨ca_2_0,ca_2_1⟩:=cells2s Ra_2;go_wp2_with fail
  refine (KM.out _).mono ?_;rintro r w3 ⟨rfl,b3⟩;have B3:Below w.heap.size w w3:=btr B2 b3;have Ra_3:=heap_of b3 _ _ _ Ra_2;have Rz_3:=heap_of b3 _ _ _ Rz_2;clear b3 B2 Ra_2 ca_2_0 ca_2_1 Rz_2;obtain⟨ca_3_0,ca_3_1⟩:=cells2s Ra_3;go_wp2_with fail
  refine (KN.out _).mono ?_;rintro r w4 ⟨rfl,b4⟩;have B4:Below w.heap.size w w4:=btr B3 b4;have Ra_4:=heap_of b4 _ _ _ Ra_3;have Rz_4:=heap_of b4 _ _ _ Rz_3;clear b4 B3 Ra_3 ca_3_0 ca_3_1 Rz_3;obtain⟨ca_4_0,ca_4_1⟩:=cells2s Ra_4;go_wp2_with fail
  refine (KG.out _).mono ?_;rintro r w5 ⟨rfl,b5⟩;have B5:Below w.heap.size w w5:=btr B4 b5;have Ra_5:=heap_of b5 _ _ _ Ra_4;have Rz_5:=heap_of b5 _ _ _ Rz_4;clear b5 B4 Ra_4 ca_4_0 ca_4_1 Rz_4;obtain⟨ca_5_0,ca_5_1⟩:=cells2s Ra_5;go_wp2_with fail
  refine (KI.out _).mono ?_;rintro r w6 ⟨rfl,b6⟩;have B6:Below w.heap.size w w6:=btr B5 b6;have Ra_6:=heap_of b6 _ _ _ Ra_5;have Rz_6:=heap_of b6 _ _ _ Rz_5;clear b6 B5 Ra_5 ca_5_0 ca_5_1 Rz_5;obtain⟨ca_6_0,ca_6_1⟩:=cells2s Ra_6;go_wp2_with fail
  refine (KZ.out _).mono ?_;rintro r w7 ⟨rfl,b7⟩;have B7:Below w.heap.size w w7:=btr B6 b7;have Ra_7:=heap_of b7 _ _ _ Ra_6;have Rz_7:=heap_of b7 _ _ _ Rz_6;clear b7 B6 Ra_6 ca_6_0 ca_6_1 Rz_6;obtain⟨ca_7_0,ca_7_1⟩:=cells2s Ra_7;go_wp2_with fail
  refine (KD.out _).mono ?_;rintro r w8 ⟨rfl,b8⟩;have B8:Below w.heap.size w w8:=btr B7 b8;have Ra_8:=heap_of b8 _ _ _ Ra_7;have Rz_8:=heap_of b8 _ _ _ Rz_7;clear b8 B7 Ra_7 ca_7_0 ca_7_1 Rz_7;obtain⟨ca_8_0,ca_8_1⟩:=cells2s Ra_8;obtain⟨cz_8_0,cz_8_1⟩:=cells2s Rz_8;have q0:=fz (k:=0) Rz_8;have q1:=fz (k:=1) Rz_8;obtain⟨E0,E1⟩:=set2_cells Rz_8 (.int .u64 (u:Nat)) (.int .u64 (v:Nat));go_wp2
  exact bodyPost_ret (v:=.tuple #[.agg #[.int .u64 (u:Nat),.int .u64 (v:Nat)],.int .u8 0,.int .i64 0]) (by simp [results,Tryz.results6,go_sem,E0,E1]) rfl ⟨rfl,set2_below B8 (by first|exact Nat.le_refl _|omega|(skip;omega)) _ _⟩
set_option maxRecDepth 100000 in
set_option maxHeartbeats 8000000 in
theorem rcv_fin (t g m:Int)(x1 y1 u v:Nat)(neg:Bool)(b3:Bool)(n3 d3:ByteArray)(e3 fl e4:Int)(w:World)(KR:Box (∀ w,Calls Tryz.prog 19 #[.int .u8 t] w fun r w'=>r=.returned (.bool true)/\Below w.heap.size w w'))(KF:Box (∀ w,Calls Tryz.prog 20 #[.int .u8 g,.agg #[.int .u64 (x1:Nat),.int .u64 (y1:Nat)]] w fun r w'=>r=.returned (.bool true)/\Below w.heap.size w w'))(KM:Box (∀ w,Calls Tryz.prog 21 #[.int .u8 m] w fun r w'=>r=.returned (.bool true)/\Below w.heap.size w w'))(KN:Box (∀ w,Calls Tryz.prog 22 #[.int .u8 g,.agg #[.int .u64 (x1:Nat),.int .u64 (y1:Nat)]] w fun r w'=>r=.returned (.bool false)/\Below w.heap.size w w'))(KG:Box (∀ w,Calls Tryz.prog 25 #[.int .u8 g,.agg #[.int .u64 (x1:Nat),.int .u64 (y1:Nat)]] w fun r w'=>r=.returned (.bool neg)/\Below w.heap.size w w'))(KI:Box (∀ w,Calls Tryz.prog 26 #[.int .u8 g,.agg #[.int .u64 (x1:Nat),.int .u64 (y1:Nat)]] w fun r w'=>r=.returned (.bool false)/\Below w.heap.size w w'))(KZ:Box (∀ w,Calls Tryz.prog 28 #[.int .u8 g,.agg #[.int .u64 (x1:Nat),.int .u64 (y1:Nat)]] w fun r w'=>r=.returned (.bool false)/\Below w.heap.size w w'))(KV:Box (∀ w,Calls Tryz.prog 30 #[.int .u8 g,.agg #[.int .u64 (x1:Nat),.int .u64 (y1:Nat)]] w fun r w'=>r=.returned (.tuple #[.agg #[.bool b3,.string n3,.string d3,.int .i64 e3],.int .i64 e4])/\Below w.heap.size w w'))(KD:Box (∀ w,Calls Tryz.prog 31 #[.int .u8 t,.int .u8 m,.agg #[.bool b3,.string n3,.string d3,.int .i64 e3]] w fun r w'=>r=.returned (.tuple #[.agg #[.int .u64 (u:Nat),.int .u64 (v:Nat)],.int .u8 fl,.int .i64 0])/\Below w.heap.size w w')):Calls Tryz.prog 6 #[.int .u8 t,.int .u8 g,.int .u8 m,.agg #[.int .u64 (x1:Nat),.int .u64 (y1:Nat)]] w fun r w'=>r=.returned (.tuple #[.agg #[.int .u64 (u:Nat),.int .u64 (v:Nat)],.int .u8 fl,.int .i64 0])/\Below w.heap.size w w':=by
  obtain⟨Ra_0,Rz_0,B0⟩:=opn2 w (Obj.cells #[.int .u64 (x1:Nat),.int .u64 (y1:Nat)] 26) (Obj.cells #[.int .u64 0,.int .u64 0] 26)
  go_enter Tryz.func6,Tryz.ntmps6
  obtain⟨ca_0_0,ca_0_1⟩:=cells2s Ra_0;go_wp2_with fail
  refine (KR.out _).mono ?_;rintro r w1 ⟨rfl,b1⟩;have B1:Below w.heap.size w w1:=btr B0 b1;have Ra_1:=heap_of b1 _ _ _ Ra_0;have Rz_1:=heap_of b1 _ _ _ Rz_0;clear b1 B0 Ra_0 ca_0_0 ca_0_1 Rz_0;obtain⟨ca_1_0,ca_1_1⟩:=cells2s Ra_1;go_wp2_with fail
  refine (KF.out _).mono ?_;rintro r w2 ⟨rfl,b2⟩;have B2:Below w.heap.size w w2:=btr B1 b2;have Ra_2:=heap_of b2 _ _ _ Ra_1;have Rz_2:=heap_of b2 _ _ _ Rz_1;clear b2 B1 Ra_1 ca_1_0 ca_1_1 Rz_1;obtain⟨ca_2_0,ca_2_1⟩:=cells2s Ra_2;go_wp2_with fail
  refine (KM.out _).mono ?_;rintro r w3 ⟨rfl,b3⟩;have B3:Below w.heap.size w w3:=btr B2 b3;have Ra_3:=heap_of b3 _ _ _ Ra_2;have Rz_3:=heap_of b3 _ _ _ Rz_2;clear b3 B2 Ra_2 ca_2_0 ca_2_1 Rz_2;obtain⟨ca_3_0,ca_3_1⟩:=cells2s Ra_3;go_wp2_with fail
  refine (KN.out _).mono ?_;rintro r w4 ⟨rfl,b4⟩;have B4:Below w.heap.size w w4:=btr B3 b4;have Ra_4:=heap_of b4 _ _ _ Ra_3;have Rz_4:=heap_of b4 _ _ _ Rz_3;clear b4 B3 Ra_3 ca_3_0 ca_3_1 Rz_3;obtain⟨ca_4_0,ca_4_1⟩:=cells2s Ra_4;go_wp2_with fail
  refine (KG.out _).mono ?_;rintro r w5 ⟨rfl,b5⟩;have B5:Below w.heap.size w w5:=btr B4 b5;have Ra_5:=heap_of b5 _ _ _ Ra_4;have Rz_5:=heap_of b5 _ _ _ Rz_4;clear b5 B4 Ra_4 ca_4_0 ca_4_1 Rz_4;obtain⟨ca_5_0,ca_5_1⟩:=cells2s Ra_5;go_wp2_with fail
  refine (KI.out _).mono ?_;rintro r w6 ⟨rfl,b6⟩;have B6:Below w.heap.size w w6:=btr B5 b6;have Ra_6:=heap_of b6 _ _ _ Ra_5;have Rz_6:=heap_of b6 _ _ _ Rz_5;clear b6 B5 Ra_5 ca_5_0 ca_5_1 Rz_5;obtain⟨ca_6_0,ca_6_1⟩:=cells2s Ra_6;go_wp2_with fail
  refine (KZ.out _).mono ?_;rintro r w7 ⟨rfl,b7⟩;have B7:Below w.heap.size w w7:=btr B6 b7;have Ra_7:=heap_of b7 _ _ _ Ra_6;have Rz_7:=heap_of b7 _ _ _ Rz_6;clear b7 B6 Ra_6 ca_6_0 ca_6_1 Rz_6;obtain⟨ca_7_0,ca_7_1⟩:=cells2s Ra_7;go_wp2_with fail
  refine (KV.out _).mono ?_;rintro r w8 ⟨rfl,b8⟩;have B8:Below w.heap.size w w8:=btr B7 b8;have Ra_8:=heap_of b8 _ _ _ Ra_7;have Rz_8:=heap_of b8 _ _ _ Rz_7;clear b8 B7 Ra_7 ca_7_0 ca_7_1 Rz_7;obtain⟨ca_8_0,ca_8_1⟩:=cells2s Ra_8;have S9:=box B8.size;have La_9:Box (w.heap.size<w8.heap.size):=box (Array.getElem?_eq_some_iff.1 Ra_8).1;have Lz_9:Box (w.heap.size+1<w8.heap.size):=box (Array.getElem?_eq_some_iff.1 Rz_8).1;have Rx_9:=heap_alloc_last w8 (Obj.cells #[.bool b3,.string n3,.string d3,.int .i64 e3] 60);have B9:=btr B8 (bal w8 (Obj.cells #[.bool b3,.string n3,.string d3,.int .i64 e3] 60));have Ra_9:=heap_of (bal w8 (Obj.cells #[.bool b3,.string n3,.string d3,.int .i64 e3] 60)) _ _ _ Ra_8;have Rz_9:=heap_of (bal w8 (Obj.cells #[.bool b3,.string n3,.string d3,.int .i64 e3] 60)) _ _ _ Rz_8;clear B8 Ra_8 ca_8_0 ca_8_1 Rz_8;obtain⟨ca_9_0,ca_9_1⟩:=cells2s Ra_9;obtain⟨cx_9_0,cx_9_1,cx_9_2,cx_9_3⟩:=cells4s Rx_9;go_wp2_with fail
  refine (KD.out _).mono ?_;rintro r w10 ⟨rfl,b10⟩;have B10:Below w.heap.size w w10:=btr B9 b10;have Ra_10:=heap_of b10 _ _ _ Ra_9;have Rz_10:=heap_of b10 _ _ _ Rz_9;have Rx_10:=heap_of b10 _ _ _ Rx_9;clear b10 B9 Ra_9 ca_9_0 ca_9_1 Rz_9 Rx_9 cx_9_0 cx_9_1 cx_9_2 cx_9_3;obtain⟨ca_10_0,ca_10_1⟩:=cells2s Ra_10;obtain⟨cx_10_0,cx_10_1,cx_10_2,cx_10_3⟩:=cells4s Rx_10;obtain⟨cz_10_0,cz_10_1⟩:=cells2s Rz_10;have q0:=fz (k:=0) Rz_10;have q1:=fz (k:=1) Rz_10;obtain⟨E0,E1⟩:=set2_cells Rz_10 (.int .u64 (u:Nat)) (.int .u64 (v:Nat));go_wp2
  exact bodyPost_ret (v:=.tuple #[.agg #[.int .u64 (u:Nat),.int .u64 (v:Nat)],.int .u8 fl,.int .i64 0]) (by simp [results,Tryz.results6,go_sem,E0,E1]) rfl ⟨rfl,set2_below B10 (by first|exact Nat.le_refl _|omega|(have:=S9.out;have:=La_9.out;have:=Lz_9.out;omega)) _ _⟩
end Go.Proofs.YtdjlfhcalccajaaGreatDoor
namespace Go.Proofs.YtdjlfhcalccajaaGreatDoor
set_option maxRecDepth 100000
set_option maxHeartbeats 40000000
set_option maxRecDepth 100000
open Go.RowKit WMath XMath
set_option linter.unusedSimpArgs false
set_option linter.unusedVariables false
theorem rConvert_is (t g m:Int)(ht:Is4 t)(hg:Is4 g)(hm:0<=m/\m<=4)(x1 y1 n:Nat)(hx1:x1<18446744073709551616)(hy1:y1<18446744073709551616)(hn:y1+18446744073709551616*x1=n)(ok:okB g n=true)(M:Nat)(fl:Int)(hr:cvR t g m n=(M,fl))(u v:Nat)(hv:bv7 M=(u,v))(w:World):Calls Tryz.prog 6 #[.int .u8 t,.int .u8 g,.int .u8 m,.agg #[.int .u64 (x1:Nat),.int .u64 (y1:Nat)]] w fun r w'=>r=.returned (.tuple #[.agg #[.int .u64 (u:Nat),.int .u64 (v:Nat)],.int .u8 fl,.int .i64 0])/\Below w.heap.size w w':=by
  have fit:=(okB_yes (is4_ok hg).1 ok).2;have t3:t<=3:=by rcases ht with rfl|rfl|rfl|rfl <;> decide
  have KR:Box (∀ w,Calls Tryz.prog 19 #[.int .u8 t] w fun r w'=>r=.returned (.bool true)/\Below w.heap.size w w'):=box (fun w=>bel_same (r_right t true (decide_eq_true t3) w));have KM:Box (∀ w,Calls Tryz.prog 21 #[.int .u8 m] w fun r w'=>r=.returned (.bool true)/\Below w.heap.size w w'):=box (fun w=>bel_same (r_mode m true (decide_eq_true hm.2) w));have KF:Box (∀ w,Calls Tryz.prog 20 #[.int .u8 g,.agg #[.int .u64 (x1:Nat),.int .u64 (y1:Nat)]] w fun r w'=>r=.returned (.bool true)/\Below w.heap.size w w'):=box (fun w=>rk_fits g x1 y1 n true (is4_ok hg).1 hx1 hy1 hn ok w);have KN:∀ o,decide (8<=kC g n)=o->Box (∀ w,Calls Tryz.prog 22 #[.int .u8 g,.agg #[.int .u64 (x1:Nat),.int .u64 (y1:Nat)]] w fun r w'=>r=.returned (.bool o)/\Below w.heap.size w w'):=fun o h=>box (fun w=>rNaN_is g hg x1 y1 n _ o hx1 hy1 hn fit rfl h w);have KS:∀ o,decide (kC g n=8)=o->Box (∀ w,Calls Tryz.prog 23 #[.int .u8 g,.agg #[.int .u64 (x1:Nat),.int .u64 (y1:Nat)]] w fun r w'=>r=.returned (.bool o)/\Below w.heap.size w w'):=fun o h=>box (fun w=>rSig_is g hg x1 y1 n _ o hx1 hy1 hn fit rfl h w);have KG:Box (∀ w,Calls Tryz.prog 25 #[.int .u8 g,.agg #[.int .u64 (x1:Nat),.int .u64 (y1:Nat)]] w fun r w'=>r=.returned (.bool (kN g n))/\Below w.heap.size w w'):=box (fun w=>rSign_yes g hg x1 y1 n _ hx1 hy1 hn ok rfl w);have KI:∀ o,decide (kC g n=0∨kC g n=7)=o->Box (∀ w,Calls Tryz.prog 26 #[.int .u8 g,.agg #[.int .u64 (x1:Nat),.int .u64 (y1:Nat)]] w fun r w'=>r=.returned (.bool o)/\Below w.heap.size w w'):=fun o h=>box (fun w=>rInf_is g hg x1 y1 n _ o hx1 hy1 hn fit rfl (by rw [<-Bool.decide_or];exact h) w);have KZ:∀ o,decide (kC g n=3∨kC g n=4)=o->Box (∀ w,Calls Tryz.prog 28 #[.int .u8 g,.agg #[.int .u64 (x1:Nat),.int .u64 (y1:Nat)]] w fun r w'=>r=.returned (.bool o)/\Below w.heap.size w w'):=fun o h=>box (fun w=>rZero_is g hg x1 y1 n _ o hx1 hy1 hn fit rfl (by rw [<-Bool.decide_or];exact h) w);have lt:=kC_lt g n
  unfold cvR at hr
  by_cases c8:kC g n=8
  . rw [if_pos c8] at hr
    cases hr
    exact rcv_sn t g m x1 y1 u v false w KR KF KM (KN true (decide_eq_true (by omega))) (KS true (decide_eq_true c8)) (box (fun w=>by have:=r_nan t ht _ rfl w;rw [hv] at this;exact this))
  rw [if_neg c8] at hr
  by_cases c9:kC g n=9
  . rw [if_pos c9] at hr
    cases hr
    exact rcv_qn t g m x1 y1 u v false w KR KF KM (KN true (decide_eq_true (by omega))) (KS false (decide_eq_false c8)) (box (fun w=>by have:=r_nan t ht _ rfl w;rw [hv] at this;exact this))
  rw [if_neg c9] at hr;have KN:=KN false (decide_eq_false (by omega))
  by_cases ci:kC g n=0∨kC g n=7
  . rw [if_pos ci] at hr
    cases hr
    exact rcv_inf t g m x1 y1 u v (kN g n) w KR KF KM KN KG (KI true (decide_eq_true ci)) (box (fun w=>by have:=r_inf t (kN g n) ht _ rfl w;rw [hv] at this;exact this))
  rw [if_neg ci] at hr
  by_cases cz:kC g n=3∨kC g n=4
  . rw [if_pos cz] at hr
    cases hr
    exact rcv_zero t g m x1 y1 u v (kN g n) w KR KF KM KN KG (KI false (decide_eq_false ci)) (KZ true (decide_eq_true cz)) (box (fun w=>by have:=r_zero t (kN g n) ht _ rfl w;rw [hv] at this;exact this))
  rw [if_neg cz] at hr;obtain⟨x1',x2',x3',x4',x5'⟩:=fin_x hg fit (by omega) cz;obtain⟨b3,n3,d3,e3,ex⟩:∃ b3 n3 d3 e3,vX g n=⟨b3,n3,d3,e3⟩:=⟨_,_,_,_,rfl⟩;rw [ex] at hr x1' x3' x4';exact rcv_fin t g m x1 y1 u v (kN g n) b3 _ _ e3 fl 0 w KR KF KM KN KG (KI false (decide_eq_false ci)) (KZ false (decide_eq_false cz)) (box (fun w=>rValue_yes g hg x1 y1 n hx1 hy1 hn ok fit (by omega) _ _ _ _ _ _ ex rfl rfl w)) (box (fun w=>rRound_is0 t m ht hm b3 n3 d3 _ _ e3 rfl rfl x1' x4' x3' M fl hr u v hv w))
end Go.Proofs.YtdjlfhcalccajaaGreatDoor
namespace Go.Proofs.YtdjlfhcalccajaaGreatDoor
set_option maxRecDepth 100000
set_option maxHeartbeats 40000000
set_option maxRecDepth 100000
open Go.RowKit WMath
set_option linter.unusedSimpArgs false
set_option linter.unusedVariables false
theorem ebb_sh (a b:Int):ebb a b a b=true:=by unfold ebb;simp
set_option maxRecDepth 100000 in
set_option maxHeartbeats 8000000 in
theorem wc_law (t g m:Int)(x1 y1 u v:Nat)(fl e:Int)(he:IntKind.i64.wrap e=e)(w:World)(K1:Box (∀ w,FAt w->Calls Tryz.prog 5 #[.int .u8 t,.int .u8 g,.int .u8 m,.agg #[.int .u64 (x1:Nat),.int .u64 (y1:Nat)]] w fun r w'=>r=.returned (.tuple #[.agg #[.int .u64 (u:Nat),.int .u64 (v:Nat)],.int .u8 fl,.int .i64 e])/\Below w.heap.size w w'))(R1:Box (∀ w,Calls Tryz.prog 6 #[.int .u8 t,.int .u8 g,.int .u8 m,.agg #[.int .u64 (x1:Nat),.int .u64 (y1:Nat)]] w fun r w'=>r=.returned (.tuple #[.agg #[.int .u64 (u:Nat),.int .u64 (v:Nat)],.int .u8 fl,.int .i64 e])/\Below w.heap.size w w'))(KA:Box (∀ w,FAt w->Calls Tryz.prog 7 #[] w fun r w'=>r=.returned (.bool true)/\Below w.heap.size w w'))(hT:FAt w):Calls Tryz.prog 3 #[.int .u8 t,.int .u8 g,.int .u8 m,.agg #[.int .u64 (x1:Nat),.int .u64 (y1:Nat)]] w fun r w'=>r=.returned (.bool true)/\Below w.heap.size w w':=by
  have FF:=box hT;clear hT;have hE:=eqb;have e1:=ebb_sh (u:Nat) (v:Nat);obtain⟨Ra_0,B0⟩:=opn1 w (Obj.cells #[.int .u64 (x1:Nat),.int .u64 (y1:Nat)] 26)
  go_enter Tryz.func3,Tryz.ntmps3
  obtain⟨ca_0_0,ca_0_1⟩:=cells2s Ra_0;go_wp2_with fail
  refine (K1.out _ (fatB FF.out B0)).mono ?_;rintro r w1 ⟨rfl,b1⟩;have B1:Below w.heap.size w w1:=btr B0 b1;have Ra_1:=heap_of b1 _ _ _ Ra_0;clear b1 B0 Ra_0 ca_0_0 ca_0_1;obtain⟨ca_1_0,ca_1_1⟩:=cells2s Ra_1;have S2:=box B1.size;have La_2:Box (w.heap.size<w1.heap.size):=box (Array.getElem?_eq_some_iff.1 Ra_1).1;have Rx_2:=heap_alloc_last w1 (Obj.cells #[.int .u64 (u:Nat),.int .u64 (v:Nat)] 26);have B2:=btr B1 (bal w1 (Obj.cells #[.int .u64 (u:Nat),.int .u64 (v:Nat)] 26));have Ra_2:=heap_of (bal w1 (Obj.cells #[.int .u64 (u:Nat),.int .u64 (v:Nat)] 26)) _ _ _ Ra_1;clear B1 Ra_1 ca_1_0 ca_1_1;obtain⟨ca_2_0,ca_2_1⟩:=cells2s Ra_2;obtain⟨cx_2_0,cx_2_1⟩:=cells2s Rx_2;go_wp2_with fail
  refine (R1.out _).mono ?_;rintro r w3 ⟨rfl,b3⟩;have B3:Below w.heap.size w w3:=btr B2 b3;have Ra_3:=heap_of b3 _ _ _ Ra_2;have Rx_3:=heap_of b3 _ _ _ Rx_2;clear b3 B2 Ra_2 ca_2_0 ca_2_1 Rx_2 cx_2_0 cx_2_1;obtain⟨ca_3_0,ca_3_1⟩:=cells2s Ra_3;obtain⟨cx_3_0,cx_3_1⟩:=cells2s Rx_3;have S4:=box B3.size;have La_4:Box (w.heap.size<w3.heap.size):=box (Array.getElem?_eq_some_iff.1 Ra_3).1;have Lx_4:Box (w1.heap.size<w3.heap.size):=box (Array.getElem?_eq_some_iff.1 Rx_3).1;have Ry_4:=heap_alloc_last w3 (Obj.cells #[.int .u64 (u:Nat),.int .u64 (v:Nat)] 26);have B4:=btr B3 (bal w3 (Obj.cells #[.int .u64 (u:Nat),.int .u64 (v:Nat)] 26));have Ra_4:=heap_of (bal w3 (Obj.cells #[.int .u64 (u:Nat),.int .u64 (v:Nat)] 26)) _ _ _ Ra_3;have Rx_4:=heap_of (bal w3 (Obj.cells #[.int .u64 (u:Nat),.int .u64 (v:Nat)] 26)) _ _ _ Rx_3;clear B3 Ra_3 ca_3_0 ca_3_1 Rx_3 cx_3_0 cx_3_1;obtain⟨ca_4_0,ca_4_1⟩:=cells2s Ra_4;obtain⟨cx_4_0,cx_4_1⟩:=cells2s Rx_4;obtain⟨cy_4_0,cy_4_1⟩:=cells2s Ry_4;go_wp2_with fail
  refine (KA.out _ (fatB FF.out B4)).mono ?_;rintro r w5 ⟨rfl,b5⟩;have B5:Below w.heap.size w w5:=btr B4 b5;have Ra_5:=heap_of b5 _ _ _ Ra_4;have Rx_5:=heap_of b5 _ _ _ Rx_4;have Ry_5:=heap_of b5 _ _ _ Ry_4;clear b5 B4 Ra_4 ca_4_0 ca_4_1 Rx_4 cx_4_0 cx_4_1 Ry_4 cy_4_0 cy_4_1;obtain⟨ca_5_0,ca_5_1⟩:=cells2s Ra_5;obtain⟨cx_5_0,cx_5_1⟩:=cells2s Rx_5;obtain⟨cy_5_0,cy_5_1⟩:=cells2s Ry_5;go_wp2
  go_ret
  exact⟨rfl,B5⟩
theorem converts_all (t g m:Int)(h0t:0<=t)(h0g:0<=g)(h0m:0<=m)(x1 y1 a:Nat)(hx1:x1<18446744073709551616)(hy1:y1<18446744073709551616)(ha:y1+18446744073709551616*x1=a)
    (KY:Is4 t->Is4 g->0<=m/\m<=4->okB g a=true->∀ M fl,cvR t g m a=(M,fl)->∀ u v,bv7 M=(u,v)->Box (∀ w,FAt w->Calls Tryz.prog 5 #[.int .u8 t,.int .u8 g,.int .u8 m,.agg #[.int .u64 (x1:Nat),.int .u64 (y1:Nat)]] w fun r w'=>r=.returned (.tuple #[.agg #[.int .u64 (u:Nat),.int .u64 (v:Nat)],.int .u8 fl,.int .i64 0])/\Below w.heap.size w w'))
    (KN:¬ (Is4 t/\okB g a=true/\m<=4)->Box (∀ w,FAt w->Calls Tryz.prog 5 #[.int .u8 t,.int .u8 g,.int .u8 m,.agg #[.int .u64 (x1:Nat),.int .u64 (y1:Nat)]] w fun r w'=>r=.returned (.tuple #[.agg #[.int .u64 ((0:Nat):Int),.int .u64 ((0:Nat):Int)],.int .u8 0,.int .i64 2])/\Below w.heap.size w w'))
    (KA:Box (∀ w,FAt w->Calls Tryz.prog 7 #[] w fun r w'=>r=.returned (.bool true)/\Below w.heap.size w w')) (w:World) (hT:FAt w):Calls Tryz.prog 3 #[.int .u8 t,.int .u8 g,.int .u8 m,.agg #[.int .u64 (x1:Nat),.int .u64 (y1:Nat)]] w fun r w'=>r=.returned (.bool true)/\Below w.heap.size w w':=by
  have F:∀ o,okB g a=o->Box (∀ w,Calls Tryz.prog 20 #[.int .u8 g,.agg #[.int .u64 (x1:Nat),.int .u64 (y1:Nat)]] w fun r w'=>r=.returned (.bool o)/\Below w.heap.size w w'):=fun o h=>box (fun w=>rk_fits g x1 y1 a o h0g hx1 hy1 ha h w);have R:∀ o,decide (t<=3)=o->Box (∀ w,Calls Tryz.prog 19 #[.int .u8 t] w fun r w'=>r=.returned (.bool o)/\Below w.heap.size w w'):=fun o h=>box (fun w=>bel_same (r_right t o h w));have MM:∀ o,decide (m<=4)=o->Box (∀ w,Calls Tryz.prog 21 #[.int .u8 m] w fun r w'=>r=.returned (.bool o)/\Below w.heap.size w w'):=fun o h=>box (fun w=>bel_same (r_mode m o h w))
  by_cases l:t<=3
  . have ht:=is4_of h0t l
    cases oa:okB g a
    . exact wc_law t g m x1 y1 0 0 0 2 (by decide) w (KN (by simp [oa])) (box (fun w=>rcv_no2 t g m x1 y1 w (R true (decide_eq_true l)) (F false oa))) KA hT
    . by_cases hm:m<=4
      . obtain⟨hg,_⟩:=okB_yes h0g oa
        obtain⟨M,fl,e1⟩:∃ M fl,cvR t g m a=(M,fl):=⟨_,_,rfl⟩;obtain⟨u,v,e2⟩:∃ u v,bv7 M=(u,v):=⟨_,_,rfl⟩;exact wc_law t g m x1 y1 u v fl 0 (by decide) w (KY ht hg ⟨h0m,hm⟩ oa M fl e1 u v e2) (box (fun w=>rConvert_is t g m ht hg ⟨h0m,hm⟩ x1 y1 a hx1 hy1 ha oa M fl e1 u v e2 w)) KA hT
      . exact wc_law t g m x1 y1 0 0 0 2 (by decide) w (KN (fun q=>hm q.2.2)) (box (fun w=>rcv_no3 t g m x1 y1 w (R true (decide_eq_true l)) (F true oa) (MM false (decide_eq_false hm)))) KA hT
  . have nf:¬ Is4 t:=fun q=>l (by rcases q with rfl|rfl|rfl|rfl <;> decide)
    exact wc_law t g m x1 y1 0 0 0 2 (by decide) w (KN (fun q=>nf q.1)) (box (fun w=>rcv_no1 t g m x1 y1 w (R false (decide_eq_false l)))) KA hT
theorem al18:cvR 0 2 0 15360=(1065353216,0)/\okB 2 15360=true:=by decide +kernel
set_option maxRecDepth 100000 in
set_option maxHeartbeats 8000000 in
theorem r18alive0 (K1:Box (∀ w,FAt w->Calls Tryz.prog 5 #[.int .u8 0,.int .u8 2,.int .u8 0,.agg #[.int .u64 0,.int .u64 15360]] w fun r w'=>r=.returned (.tuple #[.agg #[.int .u64 0,.int .u64 1065353216],.int .u8 0,.int .i64 0])/\Below w.heap.size w w'))(w:World)(hT:FAt w):Calls Tryz.prog 7 #[] w fun r w'=>r=.returned (.bool true)/\Below w.heap.size w w':=by
  have FF:=box hT;clear hT;have B0:Below w.heap.size w w:=(Below.refl _ _)
  go_enter Tryz.func7,Tryz.ntmps7
  go_wp2_with fail
  refine (K1.out _ (fatB FF.out B0)).mono ?_;rintro r w1 ⟨rfl,b1⟩;have B1:Below w.heap.size w w1:=btr B0 b1;clear b1 B0;have S2:=box B1.size;have Rb_2:=heap_alloc_last w1 (Obj.cells #[.int .u64 0,.int .u64 1065353216] 26);have B2:=btr B1 (bal w1 (Obj.cells #[.int .u64 0,.int .u64 1065353216] 26));clear B1;obtain⟨cb_2_0,cb_2_1⟩:=cells2s Rb_2;go_wp2
  go_ret
  exact⟨rfl,B2⟩
end Go.Proofs.YtdjlfhcalccajaaGreatDoor
namespace Go.Proofs.YtdjlfhcalccajaaGreatDoor
set_option maxRecDepth 100000
set_option maxHeartbeats 40000000
set_option maxRecDepth 100000
open Go.RowKit WMath XMath
set_option linter.unusedSimpArgs false
set_option linter.unusedVariables false
theorem two64 (k:Nat)(h:k<=64):2 ^ k*2 ^ (64-k)=18446744073709551616:=by
  rw [<-Nat.pow_add,show k+(64-k)=64 by omega]
end Go.Proofs.YtdjlfhcalccajaaGreatDoor
namespace Go.Proofs.YtdjlfhcalccajaaGreatDoor
set_option maxRecDepth 100000
set_option maxHeartbeats 40000000
set_option maxRecDepth 100000
open Go.RowKit WMath
set_option linter.unusedSimpArgs false
set_option linter.unusedVariables false
theorem pw_nan (c:Nat)(o:Bool)(ho:(decide (c=8) || decide (c=9))=o)(w:World):Calls Tryz.prog 13 #[.int .u8 (c:Nat)] w fun r w'=>r=.returned (.bool o)/\Below w.heap.size w w':=by
  by_cases c0:c=8
  . rw [decide_eq_true c0,Bool.true_or] at ho
    subst ho;have d0:((c:Int) == 8)=true:=by rw [c0];rfl
    clear c0;have B0:Below w.heap.size w w:=(Below.refl _ _)
    go_enter Tryz.func13,Tryz.ntmps13
    go_wp2
    go_ret
    exact⟨rfl,B0⟩
  . rw [decide_eq_false c0,Bool.false_or] at ho
    have d0:((c:Int) == 8)=false:=by rw [beq_eq_false_iff_ne];omega
    have d7:((c:Int) == 9)=o:=by
      rw [<-ho]
      by_cases c7:c=9
      . rw [decide_eq_true c7,c7];rfl
      . rw [decide_eq_false c7,beq_eq_false_iff_ne];omega
    clear ho c0;have B0:Below w.heap.size w w:=(Below.refl _ _)
    go_enter Tryz.func13,Tryz.ntmps13
    go_wp2
    go_ret
    exact⟨rfl,B0⟩
theorem pw_ef (so:Bool)(a b c:Int)(h:(if so=true then a else b)=c)(w:World):Calls Tryz.prog 15 #[.bool so,.int .u8 a,.int .u8 b] w fun r w'=>r=.returned (.int .u8 c)/\Below w.heap.size w w':=by
  subst h
  cases so
  . have B0:Below w.heap.size w w:=(Below.refl _ _)
    go_enter Tryz.func15,Tryz.ntmps15
    go_wp2
    go_ret
    exact⟨rfl,B0⟩
  . have B0:Below w.heap.size w w:=(Below.refl _ _)
    go_enter Tryz.func15,Tryz.ntmps15
    go_wp2
    go_ret
    exact⟨rfl,B0⟩
end Go.Proofs.YtdjlfhcalccajaaGreatDoor
