/-
  What the functions that the statement reaches return: part 12 (KB).
-/
import Derived.Laws.CopyRow
import Derived.Test.YtapikkbifdldfaaGreatDoorFt11
namespace Go.Proofs.YtapikkbifdldfaaGreatDoor
set_option maxRecDepth 100000
set_option maxHeartbeats 40000000
open Go.RowKit WMath
set_option linter.unusedSimpArgs false
set_option linter.unusedVariables false
def pt (c s:Nat)(x:Int)(r:Nat):Array Value:=#[.int .u8 c,.int .u64 (wd s 0),.int .u64 (wd s 1),.int .u64 (wd s 2),.int .u64 (wd s 3),.int .u64 (wd s 4),.int .u64 (wd s 5),.int .i64 x,.int .u64 (wd r 0),.int .u64 (wd r 1),.int .u64 (wd r 2),.int .u64 (wd r 3),.int .u64 (wd r 4),.int .u64 (wd r 5)]
theorem ptf (c s:Nat)(x:Int)(r:Nat):#[Value.int .u8 c,.int .u64 (wd s 0),.int .u64 (wd s 1),.int .u64 (wd s 2),.int .u64 (wd s 3),.int .u64 (wd s 4),.int .u64 (wd s 5),.int .i64 x,.int .u64 (wd r 0),.int .u64 (wd r 1),.int .u64 (wd r 2),.int .u64 (wd r 3),.int .u64 (wd r 4),.int .u64 (wd r 5)]=pt c s x r:=rfl
theorem ptc (c:Nat):#[Value.int .u8 c,.int .u64 0,.int .u64 0,.int .u64 0,.int .u64 0,.int .u64 0,.int .u64 0,.int .i64 0,.int .u64 0,.int .u64 0,.int .u64 0,.int .u64 0,.int .u64 0,.int .u64 0]=pt c 0 0 0:=by unfold pt;simp [wd_zero]
theorem ptz:#[Value.int .u8 0,.int .u64 0,.int .u64 0,.int .u64 0,.int .u64 0,.int .u64 0,.int .u64 0,.int .i64 0,.int .u64 0,.int .u64 0,.int .u64 0,.int .u64 0,.int .u64 0,.int .u64 0]=pt 0 0 0 0:=by unfold pt;simp [wd_zero]
theorem pt_set (c s:Nat)(x:Int)(r c':Nat):(pt c s x r).setIfInBounds 0 (.int .u8 (c':Nat))=pt c' s x r:=rfl
theorem pt_setl (c s:Nat)(x:Int)(r c':Nat):(pt c s x r).toList.set 0 (.int .u8 (c':Nat))=(pt c' s x r).toList:=rfl
theorem pt_size (c s:Nat)(x:Int)(r:Nat):(pt c s x r).size=14:=rfl
theorem cw_one (n:Nat):∀ v ∈ (cw 6 n).toList,v.oneCell'=true:=fun v hv=>(Array.all_eq_true_iff_forall_mem.1 (cw_oneCell 6 n)) v (by simpa using hv)
theorem pt_one (c s:Nat)(x:Int)(r:Nat):∀ v ∈ (pt c s x r).toList,v.oneCell'=true:=by
 intro v hv
 simp only [pt,List.mem_cons,List.not_mem_nil,or_false] at hv
 rcases hv with rfl|rfl|rfl|rfl|rfl|rfl|rfl|rfl|rfl|rfl|rfl|rfl|rfl|rfl <;> rfl
theorem st_p (w:World)(b c s:Nat)(x:Int)(r c0 s0:Nat)(x0:Int)(r0:Nat)(h:w.heap[b]?=some (.cells (pt c0 s0 x0 r0) 54)) :
  (storeCells ⟨b,0,none⟩ (pt c s x r).toList 0).run Tryz.prog w=.ok () (w.setRow b (pt c s x r)):=
 run_storeCells_at (P:=Tryz.prog) b 0 54 (pt c s x r).toList 0 (pt c0 s0 x0 r0) w h (by simp only [Array.length_toList,pt_size];omega) (pt_one c s x r)
theorem st_p0 (w:World)(b c s:Nat)(x:Int)(r c0 s0:Nat)(x0:Int)(r0:Nat)(hb:b=w.heap.size) :
  (storeCells ⟨b,0,none⟩ (pt c s x r).toList 0).run Tryz.prog (w.alloc (.cells (pt c0 s0 x0 r0) 54))=.ok () (w.alloc (.cells (pt c s x r) 54)):=by
 subst hb;rw [st_p _ _ c s x r c0 s0 x0 r0 (heap_alloc_last w _),World.setRow_alloc_new]
theorem st_p8 (w:World)(b c s:Nat)(x:Int)(r t:Nat)(h:w.heap[b]?=some (.cells (pt c s x r) 54)) :
  (storeCells ⟨b,8,none⟩ (cw 6 t).toList 0).run Tryz.prog w=.ok () (w.setRow b (pt c s x t)):=
 run_storeCells_at (P:=Tryz.prog) b 8 54 (cw 6 t).toList 0 (pt c s x r) w h (by simp only [Array.length_toList,pt_size,z8];omega) (cw_one t)
theorem st_p1 (w:World)(b c s:Nat)(x:Int)(r t:Nat)(h:w.heap[b]?=some (.cells (pt c s x r) 54)) :
  (storeCells ⟨b,1,none⟩ (cw 6 t).toList 0).run Tryz.prog w=.ok () (w.setRow b (pt c t x r)):=
 run_storeCells_at (P:=Tryz.prog) b 1 54 (cw 6 t).toList 0 (pt c s x r) w h (by simp only [Array.length_toList,pt_size,z8];omega) (cw_one t)
theorem zH {w:World} {g:Nat} {T:TypeId} {c s:Nat} {x:Int} {r:Nat} (R:w.heap[g]?=some (.cells (pt c s x r) T)):w.cell? ⟨g,0,none⟩=some (.int .u8 c)/\w.cell? ⟨g,1,none⟩=some (.int .u64 (wd s 0))/\w.cell? ⟨g,2,none⟩=some (.int .u64 (wd s 1))/\w.cell? ⟨g,3,none⟩=some (.int .u64 (wd s 2))/\w.cell? ⟨g,4,none⟩=some (.int .u64 (wd s 3))/\w.cell? ⟨g,5,none⟩=some (.int .u64 (wd s 4))/\w.cell? ⟨g,6,none⟩=some (.int .u64 (wd s 5))/\w.cell? ⟨g,7,none⟩=some (.int .i64 x)/\w.cell? ⟨g,8,none⟩=some (.int .u64 (wd r 0))/\w.cell? ⟨g,9,none⟩=some (.int .u64 (wd r 1))/\w.cell? ⟨g,10,none⟩=some (.int .u64 (wd r 2))/\w.cell? ⟨g,11,none⟩=some (.int .u64 (wd r 3))/\w.cell? ⟨g,12,none⟩=some (.int .u64 (wd r 4))/\w.cell? ⟨g,13,none⟩=some (.int .u64 (wd r 5)):=
 ⟨zI R 0 _ rfl,zI R 1 _ rfl,zI R 2 _ rfl,zI R 3 _ rfl,zI R 4 _ rfl,zI R 5 _ rfl,zI R 6 _ rfl,zI R 7 _ rfl,zI R 8 _ rfl,zI R 9 _ rfl,zI R 10 _ rfl,zI R 11 _ rfl,zI R 12 _ rfl,zI R 13 _ rfl⟩
theorem pt_at0 (c s:Nat)(x:Int)(r:Nat)(h:0<(pt c s x r).size):(pt c s x r)[0]'h=.int .u8 c:=rfl
theorem pt_at1 (c s:Nat)(x:Int)(r:Nat)(h:1<(pt c s x r).size):(pt c s x r)[1]'h=.int .u64 (wd s 0):=rfl
theorem pt_at2 (c s:Nat)(x:Int)(r:Nat)(h:2<(pt c s x r).size):(pt c s x r)[2]'h=.int .u64 (wd s 1):=rfl
theorem pt_at3 (c s:Nat)(x:Int)(r:Nat)(h:3<(pt c s x r).size):(pt c s x r)[3]'h=.int .u64 (wd s 2):=rfl
theorem pt_at4 (c s:Nat)(x:Int)(r:Nat)(h:4<(pt c s x r).size):(pt c s x r)[4]'h=.int .u64 (wd s 3):=rfl
theorem pt_at5 (c s:Nat)(x:Int)(r:Nat)(h:5<(pt c s x r).size):(pt c s x r)[5]'h=.int .u64 (wd s 4):=rfl
theorem pt_at6 (c s:Nat)(x:Int)(r:Nat)(h:6<(pt c s x r).size):(pt c s x r)[6]'h=.int .u64 (wd s 5):=rfl
theorem pt_at7 (c s:Nat)(x:Int)(r:Nat)(h:7<(pt c s x r).size):(pt c s x r)[7]'h=.int .i64 x:=rfl
theorem pt_at8 (c s:Nat)(x:Int)(r:Nat)(h:8<(pt c s x r).size):(pt c s x r)[8]'h=.int .u64 (wd r 0):=rfl
theorem pt_at9 (c s:Nat)(x:Int)(r:Nat)(h:9<(pt c s x r).size):(pt c s x r)[9]'h=.int .u64 (wd r 1):=rfl
theorem pt_at10 (c s:Nat)(x:Int)(r:Nat)(h:10<(pt c s x r).size):(pt c s x r)[10]'h=.int .u64 (wd r 2):=rfl
theorem pt_at11 (c s:Nat)(x:Int)(r:Nat)(h:11<(pt c s x r).size):(pt c s x r)[11]'h=.int .u64 (wd r 3):=rfl
theorem pt_at12 (c s:Nat)(x:Int)(r:Nat)(h:12<(pt c s x r).size):(pt c s x r)[12]'h=.int .u64 (wd r 4):=rfl
theorem pt_at13 (c s:Nat)(x:Int)(r:Nat)(h:13<(pt c s x r).size):(pt c s x r)[13]'h=.int .u64 (wd r 5):=rfl
theorem kparts_nan (f:Int)(x y c u v t:Nat)(w:World)
  (KC:xK 123 #[.int .u8 f,.agg #[.int .u64 x,.int .u64 y]] (.int .u8 c))
  (KF:xK 124 #[.int .u8 f,.agg #[.int .u64 x,.int .u64 y]] (.agg #[.int .u64 u,.int .u64 v]))
  (KO:z6 72 #[.agg #[.int .u64 u,.int .u64 v]] (.agg (cw 6 t)))
  (hc:c=8∨c=9) (hT:xG w):Calls Tryz.prog 69 #[.int .u8 f,.agg #[.int .u64 x,.int .u64 y]] w fun r w'=>r=.returned (.agg (pt c 0 0 t))/\Below w.heap.size w w':=by
 have hat:=yD 6;have hz:=yZ;have hff:=yX;have hs0:=jE;have hcs:∀ x,((cw 6 x).size=6)=True:=fun x=>eq_true (z8 6 x);have hp1:=ptf;have hp2:=ptc;have hp3:=ptz;have hp4:=st_p0;have hp6:=pt_set;have hp7:=pt_setl;have hp5:∀ (c s:Nat) (x:Int) (r:Nat),((pt c s x r).size=14)=True:=fun _ _ _ _=>eq_true rfl;have ha0:=pt_at0;have ha1:=pt_at1;have ha2:=pt_at2;have ha3:=pt_at3;have ha4:=pt_at4;have ha5:=pt_at5;have ha6:=pt_at6;have ha7:=pt_at7;have ha8:=pt_at8;have ha9:=pt_at9;have ha10:=pt_at10;have ha11:=pt_at11;have ha12:=pt_at12;have ha13:=pt_at13;have TT:=zJ hT;clear hT
 rcases hc with hc|hc
 ·
  have f8:((c:Int) == 8)=true:=by rw [hc];rfl
  clear hc;obtain⟨As,At,B0⟩:=xU w (Obj.cells #[.int .u64 x,.int .u64 y] 26) (Obj.cells (pt 0 0 0 0) 54)
  go_enter Tryz.func69,Tryz.ntmps69
  go_wp2_with fail
  refine (KC.out _ (z7 TT.out B0)).mono ?_;rintro r w1 ⟨rfl,b1⟩;have B1:Below w.heap.size w w1:=zW B0 b1;obtain⟨Af,Ag⟩:=zZ b1 As At;clear b1 B0 As At;obtain⟨AA,AB⟩:=zM Af;obtain⟨AC,AD,AE,AF,AG,AH,AI,AJ,AK,AL,AM,AN,AO,AP⟩:=zH Ag;have S2:=zJ B1.size;have Aa:=yC Af;have Ab:=yC Ag;have Al:=heap_alloc_last w1 (Obj.cells (pt c 0 0 0) 54);have B2:=zW B1 (z9 w1 (Obj.cells (pt c 0 0 0) 54));obtain⟨Am,An⟩:=zZ (z9 w1 (Obj.cells (pt c 0 0 0) 54)) Af Ag;clear B1 Af AA AB Ag AC AD AE AF AG AH AI AJ AK AL AM AN AO AP;obtain⟨AQ,AR⟩:=zM Am;obtain⟨AS,AT,AU,AV,AW,AX,AY,AZ,A0,A1,A2,A3,A4,A5⟩:=zH An;obtain⟨A6,A7,A8,A9,Ba,Bb,Bc,Bd,Be,Bf,Bg,Bh,Bi,Bj⟩:=zH Al;go_wp2_with fail
  refine (KF.out _ (z7 TT.out B2)).mono ?_;rintro r w3 ⟨rfl,b3⟩;have B3:Below w.heap.size w w3:=zW B2 b3;obtain⟨Ao,Ap,Aq⟩:=yH b3 Am An Al;clear b3 B2 Am AQ AR An AS AT AU AV AW AX AY AZ A0 A1 A2 A3 A4 A5 Al A6 A7 A8 A9 Ba Bb Bc Bd Be Bf Bg Bh Bi Bj;obtain⟨Bk,Bl⟩:=zM Ao;obtain⟨Bm,Bn,Bo,Bp,Bq,Br,Bs,Bt,Bu,Bv,Bw,Bx,By,Bz⟩:=zH Ap;obtain⟨BA,BB,BC,BD,BE,BF,BG,BH,BI,BJ,BK,BL,BM,BN⟩:=zH Aq;go_wp2_with fail
  refine (KO.out _).mono ?_;rintro r w4 ⟨rfl,b4⟩;have B4:Below w.heap.size w w4:=zW B3 b4;obtain⟨Ah,Ai,Aj⟩:=yH b4 Ao Ap Aq;clear b4 B3 Ao Bk Bl Ap Bm Bn Bo Bp Bq Br Bs Bt Bu Bv Bw Bx By Bz Aq BA BB BC BD BE BF BG BH BI BJ BK BL BM BN;obtain⟨BO,BP⟩:=zM Ah;obtain⟨BQ,BR,BS,BT,BU,BV,BW,BX,BY,BZ,B7,B8,B9,Ca⟩:=zH Ai;obtain⟨Cb,Cc,Cd,Ce,Cf,Cg,Ch,Ci,Cj,Ck,Cl,Cm,Cn,Co⟩:=zH Aj;have S5:=zJ B4.size;have Ac:=yC Ah;have Ad:=yC Ai;have Ae:=yC Aj;have Au:=heap_alloc_last w4 (Obj.cells (cw 6 t) 52);have B5:=zW B4 (z9 w4 (Obj.cells (cw 6 t) 52));obtain⟨Av,Aw,Ar⟩:=yH (z9 w4 (Obj.cells (cw 6 t) 52)) Ah Ai Aj;clear B4 Ah BO BP Ai BQ BR BS BT BU BV BW BX BY BZ B7 B8 B9 Ca Aj Cb Cc Cd Ce Cf Cg Ch Ci Cj Ck Cl Cm Cn Co;obtain⟨Cr,Cs⟩:=zM Av;obtain⟨Ct,Cu,Cv,Cw,Cx,Cy,Cz,CA,CB,CC,CD,CE,CF,CG⟩:=zH Aw;obtain⟨CH,CI,CJ,CK,CL,CM,CN,CO,CP,CQ,CR,CS,CT,CU⟩:=zH Ar;have CV:=zG Au;have Cp:=st_p8 (w4.alloc (Obj.cells (cw 6 t) 52)) (w1.heap.size) c 0 0 0 t Ar;have B6:=yA (c:=(pt c 0 0 t)) B5 (show w.heap.size<=w1.heap.size by first|exact Nat.le_refl _|omega|(have:=S2.out;have:=Aa.out;have:=Ab.out;have:=S5.out;have:=Ac.out;have:=Ad.out;have:=Ae.out;omega));have Ax:=zS (c':=(pt c 0 0 t)) Ar;have Ay:((w4.alloc (Obj.cells (cw 6 t) 52)).setRow (w1.heap.size) (pt c 0 0 t)).heap[w.heap.size]?=some (.cells #[.int .u64 x,.int .u64 y] 26):=by rw [zK (by first|omega|(have:=S2.out;have:=Aa.out;have:=Ab.out;have:=S5.out;have:=Ac.out;have:=Ad.out;have:=Ae.out;omega))];exact Av
  have Ak:((w4.alloc (Obj.cells (cw 6 t) 52)).setRow (w1.heap.size) (pt c 0 0 t)).heap[w.heap.size+1]?=some (.cells (pt 0 0 0 0) 54):=by rw [zK (by first|omega|(have:=S2.out;have:=Aa.out;have:=Ab.out;have:=S5.out;have:=Ac.out;have:=Ad.out;have:=Ae.out;omega))];exact Aw
  have Az:((w4.alloc (Obj.cells (cw 6 t) 52)).setRow (w1.heap.size) (pt c 0 0 t)).heap[w4.heap.size]?=some (.cells (cw 6 t) 52):=by rw [zK (by first|omega|(have:=S2.out;have:=Aa.out;have:=Ab.out;have:=S5.out;have:=Ac.out;have:=Ad.out;have:=Ae.out;omega))];exact Au
  obtain⟨w6,Cq⟩:∃ V,(w4.alloc (Obj.cells (cw 6 t) 52)).setRow (w1.heap.size) (pt c 0 0 t)=V:=⟨_,rfl⟩;rw [Cq] at Cp B6 Ay Ak Ax Az;obtain⟨CW,CX⟩:=zM Ay;obtain⟨CY,CZ,C0,C1,C2,C3,C4,C5,C6,C7,C8,C9,Da,Db⟩:=zH Ak;obtain⟨Dc,Dd,De,Df,Dg,Dh,Di,Dj,Dk,Dl,Dm,Dn,Do,Dp⟩:=zH Ax;have Dq:=zG Az;have hstz:=st_p w6 (w.heap.size+1) c 0 0 t 0 0 0 0 Ak;have RZ:=zS (c':=pt c 0 0 t) Ak;obtain⟨dz0,dz1,dz2,dz3,dz4,dz5,dz6,dz7,dz8,dz9,dz10,dz11,dz12,dz13⟩:=zH RZ;have bz:=yA (c:=pt c 0 0 t) B6 (show w.heap.size<=w.heap.size+1 by first|exact Nat.le_refl _|omega|(have:=S2.out;have:=Aa.out;have:=Ab.out;have:=S5.out;have:=Ac.out;have:=Ad.out;have:=Ae.out;omega));go_wp2
  exact bodyPost_ret (v:=.agg (pt c 0 0 t)) (by simp [results,Tryz.results69,go_sem,dz0,dz1,dz2,dz3,dz4,dz5,dz6,dz7,dz8,dz9,dz10,dz11,dz12,dz13,ptf] <;> rfl) rfl ⟨rfl,bz⟩
 ·
  have f8:((c:Int) == 8)=false:=by rw [hc];rfl
  have f9:((c:Int) == 9)=true:=by rw [hc];rfl
  clear hc;obtain⟨As,At,B0⟩:=xU w (Obj.cells #[.int .u64 x,.int .u64 y] 26) (Obj.cells (pt 0 0 0 0) 54)
  go_enter Tryz.func69,Tryz.ntmps69
  go_wp2_with fail
  refine (KC.out _ (z7 TT.out B0)).mono ?_;rintro r w1 ⟨rfl,b1⟩;have B1:Below w.heap.size w w1:=zW B0 b1;obtain⟨Af,Ag⟩:=zZ b1 As At;clear b1 B0 As At;obtain⟨AA,AB⟩:=zM Af;obtain⟨AC,AD,AE,AF,AG,AH,AI,AJ,AK,AL,AM,AN,AO,AP⟩:=zH Ag;have S2:=zJ B1.size;have Aa:=yC Af;have Ab:=yC Ag;have Al:=heap_alloc_last w1 (Obj.cells (pt c 0 0 0) 54);have B2:=zW B1 (z9 w1 (Obj.cells (pt c 0 0 0) 54));obtain⟨Am,An⟩:=zZ (z9 w1 (Obj.cells (pt c 0 0 0) 54)) Af Ag;clear B1 Af AA AB Ag AC AD AE AF AG AH AI AJ AK AL AM AN AO AP;obtain⟨AQ,AR⟩:=zM Am;obtain⟨AS,AT,AU,AV,AW,AX,AY,AZ,A0,A1,A2,A3,A4,A5⟩:=zH An;obtain⟨A6,A7,A8,A9,Ba,Bb,Bc,Bd,Be,Bf,Bg,Bh,Bi,Bj⟩:=zH Al;go_wp2_with fail
  refine (KF.out _ (z7 TT.out B2)).mono ?_;rintro r w3 ⟨rfl,b3⟩;have B3:Below w.heap.size w w3:=zW B2 b3;obtain⟨Ao,Ap,Aq⟩:=yH b3 Am An Al;clear b3 B2 Am AQ AR An AS AT AU AV AW AX AY AZ A0 A1 A2 A3 A4 A5 Al A6 A7 A8 A9 Ba Bb Bc Bd Be Bf Bg Bh Bi Bj;obtain⟨Bk,Bl⟩:=zM Ao;obtain⟨Bm,Bn,Bo,Bp,Bq,Br,Bs,Bt,Bu,Bv,Bw,Bx,By,Bz⟩:=zH Ap;obtain⟨BA,BB,BC,BD,BE,BF,BG,BH,BI,BJ,BK,BL,BM,BN⟩:=zH Aq;go_wp2_with fail
  refine (KO.out _).mono ?_;rintro r w4 ⟨rfl,b4⟩;have B4:Below w.heap.size w w4:=zW B3 b4;obtain⟨Ah,Ai,Aj⟩:=yH b4 Ao Ap Aq;clear b4 B3 Ao Bk Bl Ap Bm Bn Bo Bp Bq Br Bs Bt Bu Bv Bw Bx By Bz Aq BA BB BC BD BE BF BG BH BI BJ BK BL BM BN;obtain⟨BO,BP⟩:=zM Ah;obtain⟨BQ,BR,BS,BT,BU,BV,BW,BX,BY,BZ,B7,B8,B9,Ca⟩:=zH Ai;obtain⟨Cb,Cc,Cd,Ce,Cf,Cg,Ch,Ci,Cj,Ck,Cl,Cm,Cn,Co⟩:=zH Aj;have S5:=zJ B4.size;have Ac:=yC Ah;have Ad:=yC Ai;have Ae:=yC Aj;have Au:=heap_alloc_last w4 (Obj.cells (cw 6 t) 52);have B5:=zW B4 (z9 w4 (Obj.cells (cw 6 t) 52));obtain⟨Av,Aw,Ar⟩:=yH (z9 w4 (Obj.cells (cw 6 t) 52)) Ah Ai Aj;clear B4 Ah BO BP Ai BQ BR BS BT BU BV BW BX BY BZ B7 B8 B9 Ca Aj Cb Cc Cd Ce Cf Cg Ch Ci Cj Ck Cl Cm Cn Co;obtain⟨Cr,Cs⟩:=zM Av;obtain⟨Ct,Cu,Cv,Cw,Cx,Cy,Cz,CA,CB,CC,CD,CE,CF,CG⟩:=zH Aw;obtain⟨CH,CI,CJ,CK,CL,CM,CN,CO,CP,CQ,CR,CS,CT,CU⟩:=zH Ar;have CV:=zG Au;have Cp:=st_p8 (w4.alloc (Obj.cells (cw 6 t) 52)) (w1.heap.size) c 0 0 0 t Ar;have B6:=yA (c:=(pt c 0 0 t)) B5 (show w.heap.size<=w1.heap.size by first|exact Nat.le_refl _|omega|(have:=S2.out;have:=Aa.out;have:=Ab.out;have:=S5.out;have:=Ac.out;have:=Ad.out;have:=Ae.out;omega));have Ax:=zS (c':=(pt c 0 0 t)) Ar;have Ay:((w4.alloc (Obj.cells (cw 6 t) 52)).setRow (w1.heap.size) (pt c 0 0 t)).heap[w.heap.size]?=some (.cells #[.int .u64 x,.int .u64 y] 26):=by rw [zK (by first|omega|(have:=S2.out;have:=Aa.out;have:=Ab.out;have:=S5.out;have:=Ac.out;have:=Ad.out;have:=Ae.out;omega))];exact Av
  have Ak:((w4.alloc (Obj.cells (cw 6 t) 52)).setRow (w1.heap.size) (pt c 0 0 t)).heap[w.heap.size+1]?=some (.cells (pt 0 0 0 0) 54):=by rw [zK (by first|omega|(have:=S2.out;have:=Aa.out;have:=Ab.out;have:=S5.out;have:=Ac.out;have:=Ad.out;have:=Ae.out;omega))];exact Aw
  have Az:((w4.alloc (Obj.cells (cw 6 t) 52)).setRow (w1.heap.size) (pt c 0 0 t)).heap[w4.heap.size]?=some (.cells (cw 6 t) 52):=by rw [zK (by first|omega|(have:=S2.out;have:=Aa.out;have:=Ab.out;have:=S5.out;have:=Ac.out;have:=Ad.out;have:=Ae.out;omega))];exact Au
  obtain⟨w6,Cq⟩:∃ V,(w4.alloc (Obj.cells (cw 6 t) 52)).setRow (w1.heap.size) (pt c 0 0 t)=V:=⟨_,rfl⟩;rw [Cq] at Cp B6 Ay Ak Ax Az;obtain⟨CW,CX⟩:=zM Ay;obtain⟨CY,CZ,C0,C1,C2,C3,C4,C5,C6,C7,C8,C9,Da,Db⟩:=zH Ak;obtain⟨Dc,Dd,De,Df,Dg,Dh,Di,Dj,Dk,Dl,Dm,Dn,Do,Dp⟩:=zH Ax;have Dq:=zG Az;have hstz:=st_p w6 (w.heap.size+1) c 0 0 t 0 0 0 0 Ak;have RZ:=zS (c':=pt c 0 0 t) Ak;obtain⟨dz0,dz1,dz2,dz3,dz4,dz5,dz6,dz7,dz8,dz9,dz10,dz11,dz12,dz13⟩:=zH RZ;have bz:=yA (c:=pt c 0 0 t) B6 (show w.heap.size<=w.heap.size+1 by first|exact Nat.le_refl _|omega|(have:=S2.out;have:=Aa.out;have:=Ab.out;have:=S5.out;have:=Ac.out;have:=Ad.out;have:=Ae.out;omega));go_wp2
  exact bodyPost_ret (v:=.agg (pt c 0 0 t)) (by simp [results,Tryz.results69,go_sem,dz0,dz1,dz2,dz3,dz4,dz5,dz6,dz7,dz8,dz9,dz10,dz11,dz12,dz13,ptf] <;> rfl) rfl ⟨rfl,bz⟩
theorem kparts_none (f:Int)(x y c u v t:Nat)(w:World)
  (KC:xK 123 #[.int .u8 f,.agg #[.int .u64 x,.int .u64 y]] (.int .u8 c))
  (KF:xK 124 #[.int .u8 f,.agg #[.int .u64 x,.int .u64 y]] (.agg #[.int .u64 u,.int .u64 v]))
  (KO:z6 72 #[.agg #[.int .u64 u,.int .u64 v]] (.agg (cw 6 t)))
  (hc:c=0∨c=3∨c=4∨c=7) (hT:xG w):Calls Tryz.prog 69 #[.int .u8 f,.agg #[.int .u64 x,.int .u64 y]] w fun r w'=>r=.returned (.agg (pt c 0 0 0))/\Below w.heap.size w w':=by
 have hat:=yD 6;have hz:=yZ;have hff:=yX;have hs0:=jE;have hcs:∀ x,((cw 6 x).size=6)=True:=fun x=>eq_true (z8 6 x);have hp1:=ptf;have hp2:=ptc;have hp3:=ptz;have hp4:=st_p0;have hp6:=pt_set;have hp7:=pt_setl;have hp5:∀ (c s:Nat) (x:Int) (r:Nat),((pt c s x r).size=14)=True:=fun _ _ _ _=>eq_true rfl;have ha0:=pt_at0;have ha1:=pt_at1;have ha2:=pt_at2;have ha3:=pt_at3;have ha4:=pt_at4;have ha5:=pt_at5;have ha6:=pt_at6;have ha7:=pt_at7;have ha8:=pt_at8;have ha9:=pt_at9;have ha10:=pt_at10;have ha11:=pt_at11;have ha12:=pt_at12;have ha13:=pt_at13;have TT:=zJ hT;clear hT
 rcases hc with hc|hc|hc|hc
 ·
  have f8:((c:Int) == 8)=false:=by rw [hc];rfl
  have f9:((c:Int) == 9)=false:=by rw [hc];rfl
  have f2:((c:Int) == 2)=false:=by rw [hc];rfl
  have f5:((c:Int) == 5)=false:=by rw [hc];rfl
  have f1:((c:Int) == 1)=false:=by rw [hc];rfl
  have f6:((c:Int) == 6)=false:=by rw [hc];rfl
  clear hc;obtain⟨Am,An,B0⟩:=xU w (Obj.cells #[.int .u64 x,.int .u64 y] 26) (Obj.cells (pt 0 0 0 0) 54)
  go_enter Tryz.func69,Tryz.ntmps69
  go_wp2_with fail
  refine (KC.out _ (z7 TT.out B0)).mono ?_;rintro r w1 ⟨rfl,b1⟩;have B1:Below w.heap.size w w1:=zW B0 b1;obtain⟨Aa,Ab⟩:=zZ b1 Am An;clear b1 B0 Am An;obtain⟨Ao,Ap⟩:=zM Aa;obtain⟨Aq,Ar,As,At,Au,Av,Aw,Ax,Ay,Az,AA,AB,AC,AD⟩:=zH Ab;have S2:=zJ B1.size;have AE:=yC Aa;have AF:=yC Ab;have Af:=heap_alloc_last w1 (Obj.cells (pt c 0 0 0) 54);have B2:=zW B1 (z9 w1 (Obj.cells (pt c 0 0 0) 54));obtain⟨Ag,Ah⟩:=zZ (z9 w1 (Obj.cells (pt c 0 0 0) 54)) Aa Ab;clear B1 Aa Ao Ap Ab Aq Ar As At Au Av Aw Ax Ay Az AA AB AC AD;obtain⟨AG,AH⟩:=zM Ag;obtain⟨AI,AJ,AK,AL,AM,AN,AO,AP,AQ,AR,AS,AT,AU,AV⟩:=zH Ah;obtain⟨AW,AX,AY,AZ,A0,A1,A2,A3,A4,A5,A6,A7,A8,A9⟩:=zH Af;go_wp2_with fail
  refine (KF.out _ (z7 TT.out B2)).mono ?_;rintro r w3 ⟨rfl,b3⟩;have B3:Below w.heap.size w w3:=zW B2 b3;obtain⟨Ai,Aj,Ak⟩:=yH b3 Ag Ah Af;clear b3 B2 Ag AG AH Ah AI AJ AK AL AM AN AO AP AQ AR AS AT AU AV Af AW AX AY AZ A0 A1 A2 A3 A4 A5 A6 A7 A8 A9;obtain⟨Ba,Bb⟩:=zM Ai;obtain⟨Bc,Bd,Be,Bf,Bg,Bh,Bi,Bj,Bk,Bl,Bm,Bn,Bo,Bp⟩:=zH Aj;obtain⟨Bq,Br,Bs,Bt,Bu,Bv,Bw,Bx,By,Bz,BA,BB,BC,BD⟩:=zH Ak;go_wp2_with fail
  refine (KO.out _).mono ?_;rintro r w4 ⟨rfl,b4⟩;have B4:Below w.heap.size w w4:=zW B3 b4;obtain⟨Ac,Ad,Ae⟩:=yH b4 Ai Aj Ak;clear b4 B3 Ai Ba Bb Aj Bc Bd Be Bf Bg Bh Bi Bj Bk Bl Bm Bn Bo Bp Ak Bq Br Bs Bt Bu Bv Bw Bx By Bz BA BB BC BD;obtain⟨BE,BF⟩:=zM Ac;obtain⟨BG,BH,BI,BJ,BK,BL,BM,BN,BO,BP,BQ,BR,BS,BT⟩:=zH Ad;obtain⟨BU,BV,BW,BX,BY,BZ,B6,B7,B8,B9,Ca,Cb,Cc,Cd⟩:=zH Ae;have S5:=zJ B4.size;have Ce:=yC Ac;have Cf:=yC Ad;have Cg:=yC Ae;have Ch:=heap_alloc_last w4 (Obj.cells (cw 6 t) 52);have B5:=zW B4 (z9 w4 (Obj.cells (cw 6 t) 52));obtain⟨Ci,Al,Cj⟩:=yH (z9 w4 (Obj.cells (cw 6 t) 52)) Ac Ad Ae;clear B4 Ac BE BF Ad BG BH BI BJ BK BL BM BN BO BP BQ BR BS BT Ae BU BV BW BX BY BZ B6 B7 B8 B9 Ca Cb Cc Cd;obtain⟨Ck,Cl⟩:=zM Ci;obtain⟨Cm,Cn,Co,Cp,Cq,Cr,Cs,Ct,Cu,Cv,Cw,Cx,Cy,Cz⟩:=zH Al;obtain⟨CA,CB,CC,CD,CE,CF,CG,CH,CI,CJ,CK,CL,CM,CN⟩:=zH Cj;have CO:=zG Ch;have hstz:=st_p (w4.alloc (Obj.cells (cw 6 t) 52)) (w.heap.size+1) c 0 0 0 0 0 0 0 Al;have RZ:=zS (c':=pt c 0 0 0) Al;obtain⟨dz0,dz1,dz2,dz3,dz4,dz5,dz6,dz7,dz8,dz9,dz10,dz11,dz12,dz13⟩:=zH RZ;have bz:=yA (c:=pt c 0 0 0) B5 (show w.heap.size<=w.heap.size+1 by first|exact Nat.le_refl _|omega|(have:=S2.out;have:=AE.out;have:=AF.out;have:=S5.out;have:=Ce.out;have:=Cf.out;have:=Cg.out;omega));go_wp2
  exact bodyPost_ret (v:=.agg (pt c 0 0 0)) (by simp [results,Tryz.results69,go_sem,dz0,dz1,dz2,dz3,dz4,dz5,dz6,dz7,dz8,dz9,dz10,dz11,dz12,dz13,ptf] <;> rfl) rfl ⟨rfl,bz⟩
 ·
  have f8:((c:Int) == 8)=false:=by rw [hc];rfl
  have f9:((c:Int) == 9)=false:=by rw [hc];rfl
  have f2:((c:Int) == 2)=false:=by rw [hc];rfl
  have f5:((c:Int) == 5)=false:=by rw [hc];rfl
  have f1:((c:Int) == 1)=false:=by rw [hc];rfl
  have f6:((c:Int) == 6)=false:=by rw [hc];rfl
  clear hc;obtain⟨Am,An,B0⟩:=xU w (Obj.cells #[.int .u64 x,.int .u64 y] 26) (Obj.cells (pt 0 0 0 0) 54)
  go_enter Tryz.func69,Tryz.ntmps69
  go_wp2_with fail
  refine (KC.out _ (z7 TT.out B0)).mono ?_;rintro r w1 ⟨rfl,b1⟩;have B1:Below w.heap.size w w1:=zW B0 b1;obtain⟨Aa,Ab⟩:=zZ b1 Am An;clear b1 B0 Am An;obtain⟨Ao,Ap⟩:=zM Aa;obtain⟨Aq,Ar,As,At,Au,Av,Aw,Ax,Ay,Az,AA,AB,AC,AD⟩:=zH Ab;have S2:=zJ B1.size;have AE:=yC Aa;have AF:=yC Ab;have Af:=heap_alloc_last w1 (Obj.cells (pt c 0 0 0) 54);have B2:=zW B1 (z9 w1 (Obj.cells (pt c 0 0 0) 54));obtain⟨Ag,Ah⟩:=zZ (z9 w1 (Obj.cells (pt c 0 0 0) 54)) Aa Ab;clear B1 Aa Ao Ap Ab Aq Ar As At Au Av Aw Ax Ay Az AA AB AC AD;obtain⟨AG,AH⟩:=zM Ag;obtain⟨AI,AJ,AK,AL,AM,AN,AO,AP,AQ,AR,AS,AT,AU,AV⟩:=zH Ah;obtain⟨AW,AX,AY,AZ,A0,A1,A2,A3,A4,A5,A6,A7,A8,A9⟩:=zH Af;go_wp2_with fail
  refine (KF.out _ (z7 TT.out B2)).mono ?_;rintro r w3 ⟨rfl,b3⟩;have B3:Below w.heap.size w w3:=zW B2 b3;obtain⟨Ai,Aj,Ak⟩:=yH b3 Ag Ah Af;clear b3 B2 Ag AG AH Ah AI AJ AK AL AM AN AO AP AQ AR AS AT AU AV Af AW AX AY AZ A0 A1 A2 A3 A4 A5 A6 A7 A8 A9;obtain⟨Ba,Bb⟩:=zM Ai;obtain⟨Bc,Bd,Be,Bf,Bg,Bh,Bi,Bj,Bk,Bl,Bm,Bn,Bo,Bp⟩:=zH Aj;obtain⟨Bq,Br,Bs,Bt,Bu,Bv,Bw,Bx,By,Bz,BA,BB,BC,BD⟩:=zH Ak;go_wp2_with fail
  refine (KO.out _).mono ?_;rintro r w4 ⟨rfl,b4⟩;have B4:Below w.heap.size w w4:=zW B3 b4;obtain⟨Ac,Ad,Ae⟩:=yH b4 Ai Aj Ak;clear b4 B3 Ai Ba Bb Aj Bc Bd Be Bf Bg Bh Bi Bj Bk Bl Bm Bn Bo Bp Ak Bq Br Bs Bt Bu Bv Bw Bx By Bz BA BB BC BD;obtain⟨BE,BF⟩:=zM Ac;obtain⟨BG,BH,BI,BJ,BK,BL,BM,BN,BO,BP,BQ,BR,BS,BT⟩:=zH Ad;obtain⟨BU,BV,BW,BX,BY,BZ,B6,B7,B8,B9,Ca,Cb,Cc,Cd⟩:=zH Ae;have S5:=zJ B4.size;have Ce:=yC Ac;have Cf:=yC Ad;have Cg:=yC Ae;have Ch:=heap_alloc_last w4 (Obj.cells (cw 6 t) 52);have B5:=zW B4 (z9 w4 (Obj.cells (cw 6 t) 52));obtain⟨Ci,Al,Cj⟩:=yH (z9 w4 (Obj.cells (cw 6 t) 52)) Ac Ad Ae;clear B4 Ac BE BF Ad BG BH BI BJ BK BL BM BN BO BP BQ BR BS BT Ae BU BV BW BX BY BZ B6 B7 B8 B9 Ca Cb Cc Cd;obtain⟨Ck,Cl⟩:=zM Ci;obtain⟨Cm,Cn,Co,Cp,Cq,Cr,Cs,Ct,Cu,Cv,Cw,Cx,Cy,Cz⟩:=zH Al;obtain⟨CA,CB,CC,CD,CE,CF,CG,CH,CI,CJ,CK,CL,CM,CN⟩:=zH Cj;have CO:=zG Ch;have hstz:=st_p (w4.alloc (Obj.cells (cw 6 t) 52)) (w.heap.size+1) c 0 0 0 0 0 0 0 Al;have RZ:=zS (c':=pt c 0 0 0) Al;obtain⟨dz0,dz1,dz2,dz3,dz4,dz5,dz6,dz7,dz8,dz9,dz10,dz11,dz12,dz13⟩:=zH RZ;have bz:=yA (c:=pt c 0 0 0) B5 (show w.heap.size<=w.heap.size+1 by first|exact Nat.le_refl _|omega|(have:=S2.out;have:=AE.out;have:=AF.out;have:=S5.out;have:=Ce.out;have:=Cf.out;have:=Cg.out;omega));go_wp2
  exact bodyPost_ret (v:=.agg (pt c 0 0 0)) (by simp [results,Tryz.results69,go_sem,dz0,dz1,dz2,dz3,dz4,dz5,dz6,dz7,dz8,dz9,dz10,dz11,dz12,dz13,ptf] <;> rfl) rfl ⟨rfl,bz⟩
 ·
  have f8:((c:Int) == 8)=false:=by rw [hc];rfl
  have f9:((c:Int) == 9)=false:=by rw [hc];rfl
  have f2:((c:Int) == 2)=false:=by rw [hc];rfl
  have f5:((c:Int) == 5)=false:=by rw [hc];rfl
  have f1:((c:Int) == 1)=false:=by rw [hc];rfl
  have f6:((c:Int) == 6)=false:=by rw [hc];rfl
  clear hc;obtain⟨Am,An,B0⟩:=xU w (Obj.cells #[.int .u64 x,.int .u64 y] 26) (Obj.cells (pt 0 0 0 0) 54)
  go_enter Tryz.func69,Tryz.ntmps69
  go_wp2_with fail
  refine (KC.out _ (z7 TT.out B0)).mono ?_;rintro r w1 ⟨rfl,b1⟩;have B1:Below w.heap.size w w1:=zW B0 b1;obtain⟨Aa,Ab⟩:=zZ b1 Am An;clear b1 B0 Am An;obtain⟨Ao,Ap⟩:=zM Aa;obtain⟨Aq,Ar,As,At,Au,Av,Aw,Ax,Ay,Az,AA,AB,AC,AD⟩:=zH Ab;have S2:=zJ B1.size;have AE:=yC Aa;have AF:=yC Ab;have Af:=heap_alloc_last w1 (Obj.cells (pt c 0 0 0) 54);have B2:=zW B1 (z9 w1 (Obj.cells (pt c 0 0 0) 54));obtain⟨Ag,Ah⟩:=zZ (z9 w1 (Obj.cells (pt c 0 0 0) 54)) Aa Ab;clear B1 Aa Ao Ap Ab Aq Ar As At Au Av Aw Ax Ay Az AA AB AC AD;obtain⟨AG,AH⟩:=zM Ag;obtain⟨AI,AJ,AK,AL,AM,AN,AO,AP,AQ,AR,AS,AT,AU,AV⟩:=zH Ah;obtain⟨AW,AX,AY,AZ,A0,A1,A2,A3,A4,A5,A6,A7,A8,A9⟩:=zH Af;go_wp2_with fail
  refine (KF.out _ (z7 TT.out B2)).mono ?_;rintro r w3 ⟨rfl,b3⟩;have B3:Below w.heap.size w w3:=zW B2 b3;obtain⟨Ai,Aj,Ak⟩:=yH b3 Ag Ah Af;clear b3 B2 Ag AG AH Ah AI AJ AK AL AM AN AO AP AQ AR AS AT AU AV Af AW AX AY AZ A0 A1 A2 A3 A4 A5 A6 A7 A8 A9;obtain⟨Ba,Bb⟩:=zM Ai;obtain⟨Bc,Bd,Be,Bf,Bg,Bh,Bi,Bj,Bk,Bl,Bm,Bn,Bo,Bp⟩:=zH Aj;obtain⟨Bq,Br,Bs,Bt,Bu,Bv,Bw,Bx,By,Bz,BA,BB,BC,BD⟩:=zH Ak;go_wp2_with fail
  refine (KO.out _).mono ?_;rintro r w4 ⟨rfl,b4⟩;have B4:Below w.heap.size w w4:=zW B3 b4;obtain⟨Ac,Ad,Ae⟩:=yH b4 Ai Aj Ak;clear b4 B3 Ai Ba Bb Aj Bc Bd Be Bf Bg Bh Bi Bj Bk Bl Bm Bn Bo Bp Ak Bq Br Bs Bt Bu Bv Bw Bx By Bz BA BB BC BD;obtain⟨BE,BF⟩:=zM Ac;obtain⟨BG,BH,BI,BJ,BK,BL,BM,BN,BO,BP,BQ,BR,BS,BT⟩:=zH Ad;obtain⟨BU,BV,BW,BX,BY,BZ,B6,B7,B8,B9,Ca,Cb,Cc,Cd⟩:=zH Ae;have S5:=zJ B4.size;have Ce:=yC Ac;have Cf:=yC Ad;have Cg:=yC Ae;have Ch:=heap_alloc_last w4 (Obj.cells (cw 6 t) 52);have B5:=zW B4 (z9 w4 (Obj.cells (cw 6 t) 52));obtain⟨Ci,Al,Cj⟩:=yH (z9 w4 (Obj.cells (cw 6 t) 52)) Ac Ad Ae;clear B4 Ac BE BF Ad BG BH BI BJ BK BL BM BN BO BP BQ BR BS BT Ae BU BV BW BX BY BZ B6 B7 B8 B9 Ca Cb Cc Cd;obtain⟨Ck,Cl⟩:=zM Ci;obtain⟨Cm,Cn,Co,Cp,Cq,Cr,Cs,Ct,Cu,Cv,Cw,Cx,Cy,Cz⟩:=zH Al;obtain⟨CA,CB,CC,CD,CE,CF,CG,CH,CI,CJ,CK,CL,CM,CN⟩:=zH Cj;have CO:=zG Ch;have hstz:=st_p (w4.alloc (Obj.cells (cw 6 t) 52)) (w.heap.size+1) c 0 0 0 0 0 0 0 Al;have RZ:=zS (c':=pt c 0 0 0) Al;obtain⟨dz0,dz1,dz2,dz3,dz4,dz5,dz6,dz7,dz8,dz9,dz10,dz11,dz12,dz13⟩:=zH RZ;have bz:=yA (c:=pt c 0 0 0) B5 (show w.heap.size<=w.heap.size+1 by first|exact Nat.le_refl _|omega|(have:=S2.out;have:=AE.out;have:=AF.out;have:=S5.out;have:=Ce.out;have:=Cf.out;have:=Cg.out;omega));go_wp2
  exact bodyPost_ret (v:=.agg (pt c 0 0 0)) (by simp [results,Tryz.results69,go_sem,dz0,dz1,dz2,dz3,dz4,dz5,dz6,dz7,dz8,dz9,dz10,dz11,dz12,dz13,ptf] <;> rfl) rfl ⟨rfl,bz⟩
 ·
  have f8:((c:Int) == 8)=false:=by rw [hc];rfl
  have f9:((c:Int) == 9)=false:=by rw [hc];rfl
  have f2:((c:Int) == 2)=false:=by rw [hc];rfl
  have f5:((c:Int) == 5)=false:=by rw [hc];rfl
  have f1:((c:Int) == 1)=false:=by rw [hc];rfl
  have f6:((c:Int) == 6)=false:=by rw [hc];rfl
  clear hc;obtain⟨Am,An,B0⟩:=xU w (Obj.cells #[.int .u64 x,.int .u64 y] 26) (Obj.cells (pt 0 0 0 0) 54)
  go_enter Tryz.func69,Tryz.ntmps69
  go_wp2_with fail
  refine (KC.out _ (z7 TT.out B0)).mono ?_;rintro r w1 ⟨rfl,b1⟩;have B1:Below w.heap.size w w1:=zW B0 b1;obtain⟨Aa,Ab⟩:=zZ b1 Am An;clear b1 B0 Am An;obtain⟨Ao,Ap⟩:=zM Aa;obtain⟨Aq,Ar,As,At,Au,Av,Aw,Ax,Ay,Az,AA,AB,AC,AD⟩:=zH Ab;have S2:=zJ B1.size;have AE:=yC Aa;have AF:=yC Ab;have Af:=heap_alloc_last w1 (Obj.cells (pt c 0 0 0) 54);have B2:=zW B1 (z9 w1 (Obj.cells (pt c 0 0 0) 54));obtain⟨Ag,Ah⟩:=zZ (z9 w1 (Obj.cells (pt c 0 0 0) 54)) Aa Ab;clear B1 Aa Ao Ap Ab Aq Ar As At Au Av Aw Ax Ay Az AA AB AC AD;obtain⟨AG,AH⟩:=zM Ag;obtain⟨AI,AJ,AK,AL,AM,AN,AO,AP,AQ,AR,AS,AT,AU,AV⟩:=zH Ah;obtain⟨AW,AX,AY,AZ,A0,A1,A2,A3,A4,A5,A6,A7,A8,A9⟩:=zH Af;go_wp2_with fail
  refine (KF.out _ (z7 TT.out B2)).mono ?_;rintro r w3 ⟨rfl,b3⟩;have B3:Below w.heap.size w w3:=zW B2 b3;obtain⟨Ai,Aj,Ak⟩:=yH b3 Ag Ah Af;clear b3 B2 Ag AG AH Ah AI AJ AK AL AM AN AO AP AQ AR AS AT AU AV Af AW AX AY AZ A0 A1 A2 A3 A4 A5 A6 A7 A8 A9;obtain⟨Ba,Bb⟩:=zM Ai;obtain⟨Bc,Bd,Be,Bf,Bg,Bh,Bi,Bj,Bk,Bl,Bm,Bn,Bo,Bp⟩:=zH Aj;obtain⟨Bq,Br,Bs,Bt,Bu,Bv,Bw,Bx,By,Bz,BA,BB,BC,BD⟩:=zH Ak;go_wp2_with fail
  refine (KO.out _).mono ?_;rintro r w4 ⟨rfl,b4⟩;have B4:Below w.heap.size w w4:=zW B3 b4;obtain⟨Ac,Ad,Ae⟩:=yH b4 Ai Aj Ak;clear b4 B3 Ai Ba Bb Aj Bc Bd Be Bf Bg Bh Bi Bj Bk Bl Bm Bn Bo Bp Ak Bq Br Bs Bt Bu Bv Bw Bx By Bz BA BB BC BD;obtain⟨BE,BF⟩:=zM Ac;obtain⟨BG,BH,BI,BJ,BK,BL,BM,BN,BO,BP,BQ,BR,BS,BT⟩:=zH Ad;obtain⟨BU,BV,BW,BX,BY,BZ,B6,B7,B8,B9,Ca,Cb,Cc,Cd⟩:=zH Ae;have S5:=zJ B4.size;have Ce:=yC Ac;have Cf:=yC Ad;have Cg:=yC Ae;have Ch:=heap_alloc_last w4 (Obj.cells (cw 6 t) 52);have B5:=zW B4 (z9 w4 (Obj.cells (cw 6 t) 52));obtain⟨Ci,Al,Cj⟩:=yH (z9 w4 (Obj.cells (cw 6 t) 52)) Ac Ad Ae;clear B4 Ac BE BF Ad BG BH BI BJ BK BL BM BN BO BP BQ BR BS BT Ae BU BV BW BX BY BZ B6 B7 B8 B9 Ca Cb Cc Cd;obtain⟨Ck,Cl⟩:=zM Ci;obtain⟨Cm,Cn,Co,Cp,Cq,Cr,Cs,Ct,Cu,Cv,Cw,Cx,Cy,Cz⟩:=zH Al;obtain⟨CA,CB,CC,CD,CE,CF,CG,CH,CI,CJ,CK,CL,CM,CN⟩:=zH Cj;have CO:=zG Ch;have hstz:=st_p (w4.alloc (Obj.cells (cw 6 t) 52)) (w.heap.size+1) c 0 0 0 0 0 0 0 Al;have RZ:=zS (c':=pt c 0 0 0) Al;obtain⟨dz0,dz1,dz2,dz3,dz4,dz5,dz6,dz7,dz8,dz9,dz10,dz11,dz12,dz13⟩:=zH RZ;have bz:=yA (c:=pt c 0 0 0) B5 (show w.heap.size<=w.heap.size+1 by first|exact Nat.le_refl _|omega|(have:=S2.out;have:=AE.out;have:=AF.out;have:=S5.out;have:=Ce.out;have:=Cf.out;have:=Cg.out;omega));go_wp2
  exact bodyPost_ret (v:=.agg (pt c 0 0 0)) (by simp [results,Tryz.results69,go_sem,dz0,dz1,dz2,dz3,dz4,dz5,dz6,dz7,dz8,dz9,dz10,dz11,dz12,dz13,ptf] <;> rfl) rfl ⟨rfl,bz⟩
end Go.Proofs.YtapikkbifdldfaaGreatDoor
