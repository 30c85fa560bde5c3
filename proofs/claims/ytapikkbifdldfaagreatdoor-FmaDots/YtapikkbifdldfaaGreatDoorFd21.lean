/-
  What the functions that the statement reaches return: part 21 (R32, R34, R35, R39, SL).
-/
import Derived.Test.YtapikkbifdldfaaGreatDoorRows
import Derived.OpenShut
import Derived.LaidMore
import Derived.Lib.LaidTab
import Derived.Stop.Joined
import Derived.Test.YtapikkbifdldfaaGreatDoorFd20
namespace Go.Proofs.YtapikkbifdldfaaGreatDoor
set_option maxRecDepth 100000
set_option maxHeartbeats 40000000
open Go.RowKit WMath
set_option linter.unusedSimpArgs false
set_option linter.unusedVariables false
theorem gen_round_Pack_9 {X:Act->World->Prop} {R:World->Nat->Prop} {t0 t1 t2 t3 t4 t5 t6 t7 t8 t10 t11 t12 t13 t14 t15 t16 t17 t18 t19 t20 t21 t22 t23 t24 t25 t26 t27 t28 t29 t30 t31 t32 t33 t34 t35 t36 t37 t38 t39 t40 t41 t42 t43 t44 t45 t46 t47 t48 t49 t50 t51 t52 t53 t54 t55 t56 t57 t58 t59 t60 t61 t62 t63 t64 t65 t66 t67 t68 t69 t70 t71 t72:Value} {d:List Deferred} {W:World} {G:Nat}
  (key:∀ w5 g,R w5 g->X ⟨#[t0,t1,t2,t3,t4,t5,t6,t7,t8,.pointer (some ⟨g,0,none⟩),t10,t11,t12,t13,t14,t15,t16,t17,t18,t19,t20,t21,t22,t23,t24,t25,t26,t27,t28,t29,t30,t31,t32,t33,t34,t35,t36,t37,t38,t39,t40,t41,t42,t43,t44,t45,t46,t47,t48,t49,t50,t51,t52,t53,t54,t55,t56,t57,t58,t59,t60,t61,t62,t63,t64,t65,t66,t67,t68,t69,t70,t71,t72],d⟩ w5) (r:R W G):X ⟨#[t0,t1,t2,t3,t4,t5,t6,t7,t8,.pointer (some ⟨G,0,none⟩),t10,t11,t12,t13,t14,t15,t16,t17,t18,t19,t20,t21,t22,t23,t24,t25,t26,t27,t28,t29,t30,t31,t32,t33,t34,t35,t36,t37,t38,t39,t40,t41,t42,t43,t44,t45,t46,t47,t48,t49,t50,t51,t52,t53,t54,t55,t56,t57,t58,t59,t60,t61,t62,t63,t64,t65,t66,t67,t68,t69,t70,t71,t72],d⟩ W:=key W G r

theorem ro_pack (f m:Int)(neg:Bool)(s t:Nat)(x:Int)(more:Bool)(T I st rt E fl:Int)(K:Nat)(ex ov o:Bool)(u v:Nat)(w:World)(hz:(s=0)=False)(hQ:s<Q)
  (KC:zZ 77 #[.int .u8 f,.int .u8 m] (.int .i64 0))
  (KM:xK 78 #[.int .u8 f,.agg (rg neg s x more)] (.bool true))
  (KJ:zZ 79 #[.agg (rg neg s x more)] (.agg (rg neg t x false)))
  (K1:zZ 82 #[.agg (rg neg t x false)] (.int .i64 T))
  (KI:xK 83 #[.int .u8 f] (.int .i64 I))
  (KS:xK 81 #[.int .u8 f,.int .i64 (max T I)] (.int .i64 st))
  (KG:zZ 80 #[.int .u8 m,.agg (rg neg t x false),.int .i64 st] (.tuple #[.agg (rg neg K st false),.bool ex]))
  (KT:zZ 82 #[.agg (rg neg K st false)] (.int .i64 rt))
  (KE:xK 60 #[.int .u8 f] (.int .i64 E))
  (KO:zW (ov=true->∀ w,y6 w->Calls Tryz.prog 76 #[.int .u8 f,.int .u8 m,.bool neg] w fun r w'=>r=.returned (.tuple #[.agg #[.int .u64 u,.int .u64 v],.int .u8 5,.int .i64 0])/\Below w.heap.size w w'))
  (KD:zW (ov=false->∀ w,y6 w->Calls Tryz.prog 85 #[.int .u8 f,.agg (rg neg K st false)] w fun r w'=>r=.returned (.agg #[.int .u64 u,.int .u64 v])/\Below w.heap.size w w'))
  (KN:xK 84 #[.int .u8 f,.int .u8 m,.agg (rg neg t x false)] (.bool o))
  (ho:decide (E<rt)=ov) (hfl:(if ov=true then (5:Int) else if ex=true then 0 else (if o=true then 3 else 1))=fl)
  (hT:y6 w):Calls Tryz.prog 37 #[.int .u8 f,.int .u8 m,.agg (rg neg s x more)] w fun r w'=>r=.returned (.tuple #[.agg #[.int .u64 u,.int .u64 v],.int .u8 fl,.int .i64 0])/\Below w.heap.size w w':=by
 have FF:=zJ hT;have HFL:=zJ hfl;clear hT hfl;have hb1:bits .or .u8 0 1=1:=by decide
 have hb2:bits .or .u8 1 2=3:=by decide
 have hat:=yD 6;have hz:=yZ;have hff:=yY;have hs0:=jD;have hcs:∀ x,((cw 6 x).size=6)=True:=fun x=>eq_true (z8 6 x);have heq:=eq6;have hQ0:=jC;have hg:=eqg6;have hp1:=rgf;have hp3:=rgz;have hp4:=st_r0;have hp5:∀ (c:Bool) (s:Nat) (x:Int) (r:Bool),((rg c s x r).size=9)=True:=fun _ _ _ _=>eq_true rfl;obtain⟨AX,AY,B0⟩:=qD w (Obj.cells (rg neg s x more) 62) (Obj.cells #[.int .u64 0,.int .u64 0] 26)
 go_enter Tryz.func37,Tryz.ntmps37
 obtain⟨Bd,Be,Bf,Bg,Bh,Bi,Bj,Bk,Bl⟩:=zL AX;obtain⟨Bm,Bn⟩:=zC AY;go_wp2_with fail
 refine (KC.out _).mono ?_;rintro r w1 ⟨rfl,b1⟩;have B1:=zS B0 b1;obtain⟨AZ,A0⟩:=z6 b1 AX AY;clear b1 B0 AX Bd Be Bf Bg Bh Bi Bj Bk Bl AY Bm Bn;obtain⟨Bo,Bp,Bq,Br,Bs,Bt,Bu,Bv,Bw⟩:=zL AZ;obtain⟨Bx,By⟩:=zC A0;go_wp2_with fail
 refine (KM.out _ (z7 FF.out B1)).mono ?_;rintro r w2 ⟨rfl,b2⟩;have B2:=zS B1 b2;obtain⟨A1,A2⟩:=z6 b2 AZ A0;clear b2 B1 AZ Bo Bp Bq Br Bs Bt Bu Bv Bw A0 Bx By;obtain⟨Bz,BA,BB,BC,BD,BE,BF,BG,BH⟩:=zL A1;obtain⟨BI,BJ⟩:=zC A2;go_wp2_with fail
 refine (KJ.out _).mono ?_;rintro r w3 ⟨rfl,b3⟩;have B3:=zS B2 b3;obtain⟨A3,Bc⟩:=z6 b3 A1 A2;clear b3 B2 A1 Bz BA BB BC BD BE BF BG BH A2 BI BJ;obtain⟨C5,C6,C7,C8,C9,Da,Db,Dc,Dd⟩:=zL A3;obtain⟨De,Df⟩:=zC Bc;have BK:=st_r w3 (w.heap.size) neg t x false neg s x more A3;have B4:=z9 (c:=(rg neg t x false)) B3 (show w.heap.size<=w.heap.size by first|exact Nat.le_refl _|omega|(skip;omega));have AB:=zT (c':=(rg neg t x false)) A3;have AC:(w3.setRow (w.heap.size) (rg neg t x false)).heap[w.heap.size+1]?=some (.cells #[.int .u64 0,.int .u64 0] 26):=by rw [zK (by first|omega|(skip;omega))];exact Bc
 obtain⟨w4,BL⟩:∃ V,w3.setRow (w.heap.size) (rg neg t x false)=V:=⟨_,rfl⟩;rw [BL] at BK B4 AB AC;obtain⟨BM,BN,BO,BP,BQ,BR,BS,BT,BU⟩:=zL AB;obtain⟨BV,BW⟩:=zC AC;have sS:zW (∀ W W1:World,(Below w.heap.size w W/\W.heap[w.heap.size]?=some (.cells (rg neg t x false) 62)/\W.heap[w.heap.size+1]?=some (.cells #[.int .u64 0,.int .u64 0] 26))->Below W.heap.size W W1->(Below w.heap.size w W1/\W1.heap[w.heap.size]?=some (.cells (rg neg t x false) 62)/\W1.heap[w.heap.size+1]?=some (.cells #[.int .u64 0,.int .u64 0] 26))):=zJ (fun W W1 h b=>⟨zS h.1 b,zA b _ _ _ h.2.1,zA b _ _ _ h.2.2⟩);have sL:zW (∀ W:World,(Below w.heap.size w W/\W.heap[w.heap.size]?=some (.cells (rg neg t x false) 62)/\W.heap[w.heap.size+1]?=some (.cells #[.int .u64 0,.int .u64 0] 26))->(w.heap.size<W.heap.size/\w.heap.size+1<W.heap.size)):=zJ (fun W h=>⟨(Array.getElem?_eq_some_iff.1 h.2.1).1,(Array.getElem?_eq_some_iff.1 h.2.2).1⟩);have sT:zW (∀ (W:World) (gN:Nat) (xA:Array Value),(Below w.heap.size w W/\W.heap[w.heap.size]?=some (.cells (rg neg t x false) 62)/\W.heap[w.heap.size+1]?=some (.cells #[.int .u64 0,.int .u64 0] 26))->(w.heap.size<gN/\w.heap.size+1<gN)->(Below w.heap.size w (W.setRow gN xA)/\(W.setRow gN xA).heap[w.heap.size]?=some (.cells (rg neg t x false) 62)/\(W.setRow gN xA).heap[w.heap.size+1]?=some (.cells #[.int .u64 0,.int .u64 0] 26))):=zJ (fun W gN xA h l=>⟨z9 h.1 (show w.heap.size<=gN by have:=l.1;omega),(zK (by have:=l.1;omega)).trans h.2.1,(zK (by have:=l.2;omega)).trans h.2.2⟩);have sC:zW (∀ W:World,(Below w.heap.size w W/\W.heap[w.heap.size]?=some (.cells (rg neg t x false) 62)/\W.heap[w.heap.size+1]?=some (.cells #[.int .u64 0,.int .u64 0] 26))->(Below w.heap.size w W/\W.heap[w.heap.size]?=some (.cells (rg neg t x false) 62)/\W.heap[w.heap.size+1]?=some (.cells #[.int .u64 0,.int .u64 0] 26)/\W.cell? ⟨w.heap.size,0,none⟩=some (.bool neg)/\W.cell? ⟨w.heap.size,1,none⟩=some (.int .u64 (wd t 0))/\W.cell? ⟨w.heap.size,2,none⟩=some (.int .u64 (wd t 1))/\W.cell? ⟨w.heap.size,3,none⟩=some (.int .u64 (wd t 2))/\W.cell? ⟨w.heap.size,4,none⟩=some (.int .u64 (wd t 3))/\W.cell? ⟨w.heap.size,5,none⟩=some (.int .u64 (wd t 4))/\W.cell? ⟨w.heap.size,6,none⟩=some (.int .u64 (wd t 5))/\W.cell? ⟨w.heap.size,7,none⟩=some (.int .i64 x)/\W.cell? ⟨w.heap.size,8,none⟩=some (.bool false)/\W.cell? ⟨w.heap.size+1,0,none⟩=some (.int .u64 0)/\W.cell? ⟨w.heap.size+1,1,none⟩=some (.int .u64 0))):=zJ (fun W h=>⟨h.1,h.2.1,h.2.2,zI (h.2.1) 0 _ rfl,zI (h.2.1) 1 _ rfl,zI (h.2.1) 2 _ rfl,zI (h.2.1) 3 _ rfl,zI (h.2.1) 4 _ rfl,zI (h.2.1) 5 _ rfl,zI (h.2.1) 6 _ rfl,zI (h.2.1) 7 _ rfl,zI (h.2.1) 8 _ rfl,zI (h.2.2) 0 _ rfl,zI (h.2.2) 1 _ rfl⟩);have s0:Below w.heap.size w (w4).drew/\(w4).drew.heap[w.heap.size]?=some (.cells (rg neg t x false) 62)/\(w4).drew.heap[w.heap.size+1]?=some (.cells #[.int .u64 0,.int .u64 0] 26):=⟨B4.drew,AB,AC⟩;clear B4 AB BM BN BO BP BQ BR BS BT BU AC BV BW;go_wp2_with fail
 apply cut7
 ·
  intro key0;have key:=zJ key0;clear key0
  go_region_held3 (fun W=>Below w.heap.size w W/\W.heap[w.heap.size]?=some (.cells (rg neg t x false) 62)/\W.heap[w.heap.size+1]?=some (.cells #[.int .u64 0,.int .u64 0] 26)/\W.cell? ⟨w.heap.size,0,none⟩=some (.bool neg)/\W.cell? ⟨w.heap.size,1,none⟩=some (.int .u64 (wd t 0))/\W.cell? ⟨w.heap.size,2,none⟩=some (.int .u64 (wd t 1))/\W.cell? ⟨w.heap.size,3,none⟩=some (.int .u64 (wd t 2))/\W.cell? ⟨w.heap.size,4,none⟩=some (.int .u64 (wd t 3))/\W.cell? ⟨w.heap.size,5,none⟩=some (.int .u64 (wd t 4))/\W.cell? ⟨w.heap.size,6,none⟩=some (.int .u64 (wd t 5))/\W.cell? ⟨w.heap.size,7,none⟩=some (.int .i64 x)/\W.cell? ⟨w.heap.size,8,none⟩=some (.bool false)/\W.cell? ⟨w.heap.size+1,0,none⟩=some (.int .u64 0)/\W.cell? ⟨w.heap.size+1,1,none⟩=some (.int .u64 0)) (first|exact sC.out _ s1|exact sC.out _ s0|exact sC.out _ (sS.out _ _ s1 (yK _ _))|exact sC.out _ (sS.out _ _ s0 (yK _ _))|exact sC.out _ (sT.out _ _ _ s1 hl))
   (((first|(go_at_call 82;(first|refine (K1.out _).mono ?_|refine (K1.out _).mono ?_))|(go_at_call 83;(first|refine (KI.out _ (by first|exact z7 FF.out (And.left s1)|exact fat_al (z7 FF.out (And.left s1)) _)).mono ?_|refine (KI.out _ (by first|exact z7 FF.out (And.left s0)|exact fat_al (z7 FF.out (And.left s0)) _)).mono ?_))|(go_at_call 81;(first|refine (KS.out _ (by first|exact z7 FF.out (And.left s1)|exact fat_al (z7 FF.out (And.left s1)) _)).mono ?_|refine (KS.out _ (by first|exact z7 FF.out (And.left s0)|exact fat_al (z7 FF.out (And.left s0)) _)).mono ?_))|(go_at_call 80;(first|refine (KG.out _).mono ?_|refine (KG.out _).mono ?_))|fail);rintro r wq ⟨rfl,bq⟩;(first|(have hg:=zA bq _ _ _ (heap_alloc_last _ _);have hl:=(by first|exact sL.out _ s1|exact sL.out _ s0))|have hg:=zA bq _ _ _ hg|skip);(try simp only [xF,zM] at hg hl);(first|have hst:=st_r _ _ neg K st false false 0 0 false hg|skip);have s2:=(by first|exact sS.out _ _ s1 bq|exact sS.out _ _ s0 bq|exact sS.out _ _ (sS.out _ _ s1 (yK _ _)) bq|exact sS.out _ _ (sS.out _ _ s0 (yK _ _)) bq);(try clear s1);have s1:=s2;clear s2 bq))
  all_goals
   refine gen_round_Pack_9 (R:=fun W gN=>(Below w.heap.size w W/\W.heap[w.heap.size]?=some (.cells (rg neg t x false) 62)/\W.heap[w.heap.size+1]?=some (.cells #[.int .u64 0,.int .u64 0] 26))/\W.heap[gN]?=some (.cells (rg neg K st false) 62)/\(w.heap.size<gN/\w.heap.size+1<gN)) key.out ?_
   first
    | exact⟨(sT.out _ _ _ s1 hl),zT hg,hl⟩
    | exact⟨sS.out _ _ s1 (yK _ _),heap_alloc_last _ _,sL.out _ s1⟩
    | exact⟨sS.out _ _ s0 (yK _ _),heap_alloc_last _ _,sL.out _ s0⟩
 rintro w5 g5 ⟨s1,A4,l5⟩;have B5:=And.left s1;have A5:=s1.2.1;have A6:=s1.2.2;have H5:=zJ l5;clear s0 s1 sS sC sL sT l5;obtain⟨BX,BY,BZ,Ca,Cb,Cc,Cd,Ce,Cf⟩:=zL A5;obtain⟨Cg,Ch⟩:=zC A6;obtain⟨Ci,Cj,Ck,Cl,Cm,Cn,Co,Cp,Cq⟩:=zL A4;go_wp2_with fail
 refine (KT.out _).mono ?_;rintro r w6 ⟨rfl,b6⟩;have B6:=zS B5 b6;obtain⟨A7,A8,A9⟩:=yJ b6 A5 A6 A4;clear b6 B5 A5 BX BY BZ Ca Cb Cc Cd Ce Cf A6 Cg Ch A4 Ci Cj Ck Cl Cm Cn Co Cp Cq;obtain⟨Cr,Cs,Ct,Cu,Cv,Cw,Cx,Cy,Cz⟩:=zL A7;obtain⟨CA,CB⟩:=zC A8;obtain⟨CC,CD,CE,CF,CG,CH,CI,CJ,CK⟩:=zL A9;go_wp2_with fail
 refine (KE.out _ (z7 FF.out B6)).mono ?_;rintro r w7 ⟨rfl,b7⟩;have B7:=zS B6 b7;obtain⟨Ad,Ae,Af⟩:=yJ b7 A7 A8 A9;clear b7 B6 A7 Cr Cs Ct Cu Cv Cw Cx Cy Cz A8 CA CB A9 CC CD CE CF CG CH CI CJ CK;obtain⟨AD,AE,AF,AG,AH,AI,AJ,AK,AL⟩:=zL Ad;obtain⟨AM,AN⟩:=zC Ae;obtain⟨AO,AP,AQ,AR,AS,AT,AU,AV,AW⟩:=zL Af
 cases ov
 ·
  have K5:=zJ (KD.out rfl);clear KO KD
  cases ex
  ·
   skip
   cases o
   ·
    obtain rfl:(1:Int)=fl:=HFL.out;go_wp2_with fail
    refine (KN.out _ (z7 FF.out B7)).mono ?_;rintro r w8 ⟨rfl,b8⟩;have B8:=zS B7 b8;obtain⟨Ab,Aa,Ac⟩:=yJ b8 Ad Ae Af;clear b8 B7 Ad AD AE AF AG AH AI AJ AK AL Ae AM AN Af AO AP AQ AR AS AT AU AV AW;obtain⟨Ah,Ai,Aj,Ak,Al,Am,An,Ao,Ap⟩:=zL Ab;obtain⟨Aq,Ar⟩:=zC Aa;obtain⟨As,At,Au,Av,Aw,Ax,Ay,Az,AA⟩:=zL Ac;go_wp2_with fail
    refine (K5.out _ (z7 FF.out B8)).mono ?_;rintro r w9 ⟨rfl,b9⟩;have B9:=zS B8 b9;obtain⟨Ba,Ag,Bb⟩:=yJ b9 Ab Aa Ac;clear b9 B8 Ab Ah Ai Aj Ak Al Am An Ao Ap Aa Aq Ar Ac As At Au Av Aw Ax Ay Az AA;obtain⟨CL,CM,CN,CO,CP,CQ,CR,CS,CT⟩:=zL Ba;obtain⟨CU,CV⟩:=zC Ag;obtain⟨CW,CX,CY,CZ,C0,C1,C2,C3,C4⟩:=zL Bb;have q0:=fz (k:=0) Ag;have q1:=fz (k:=1) Ag;obtain⟨E0,E1⟩:=zQ Ag (.int .u64 u) (.int .u64 v);go_wp2
    exact bodyPost_ret (v:=.tuple #[.agg #[.int .u64 u,.int .u64 v],.int .u8 1,.int .i64 0]) (by simp [results,Tryz.results37,go_sem,E0,E1]) rfl ⟨rfl,zN B9 (by first|exact Nat.le_refl _|omega|(have:=H5.out;omega)) _ _⟩
   ·
    obtain rfl:(3:Int)=fl:=HFL.out;go_wp2_with fail
    refine (KN.out _ (z7 FF.out B7)).mono ?_;rintro r w8 ⟨rfl,b8⟩;have B8:=zS B7 b8;obtain⟨Ab,Aa,Ac⟩:=yJ b8 Ad Ae Af;clear b8 B7 Ad AD AE AF AG AH AI AJ AK AL Ae AM AN Af AO AP AQ AR AS AT AU AV AW;obtain⟨Ah,Ai,Aj,Ak,Al,Am,An,Ao,Ap⟩:=zL Ab;obtain⟨Aq,Ar⟩:=zC Aa;obtain⟨As,At,Au,Av,Aw,Ax,Ay,Az,AA⟩:=zL Ac;go_wp2_with fail
    refine (K5.out _ (z7 FF.out B8)).mono ?_;rintro r w9 ⟨rfl,b9⟩;have B9:=zS B8 b9;obtain⟨Ba,Ag,Bb⟩:=yJ b9 Ab Aa Ac;clear b9 B8 Ab Ah Ai Aj Ak Al Am An Ao Ap Aa Aq Ar Ac As At Au Av Aw Ax Ay Az AA;obtain⟨CL,CM,CN,CO,CP,CQ,CR,CS,CT⟩:=zL Ba;obtain⟨CU,CV⟩:=zC Ag;obtain⟨CW,CX,CY,CZ,C0,C1,C2,C3,C4⟩:=zL Bb;have q0:=fz (k:=0) Ag;have q1:=fz (k:=1) Ag;obtain⟨E0,E1⟩:=zQ Ag (.int .u64 u) (.int .u64 v);go_wp2
    exact bodyPost_ret (v:=.tuple #[.agg #[.int .u64 u,.int .u64 v],.int .u8 3,.int .i64 0]) (by simp [results,Tryz.results37,go_sem,E0,E1]) rfl ⟨rfl,zN B9 (by first|exact Nat.le_refl _|omega|(have:=H5.out;omega)) _ _⟩
  ·
   obtain rfl:(0:Int)=fl:=HFL.out;go_wp2_with fail
   refine (K5.out _ (z7 FF.out B7)).mono ?_;rintro r w8 ⟨rfl,b8⟩;have B8:=zS B7 b8;obtain⟨Ab,Aa,Ac⟩:=yJ b8 Ad Ae Af;clear b8 B7 Ad AD AE AF AG AH AI AJ AK AL Ae AM AN Af AO AP AQ AR AS AT AU AV AW;obtain⟨Ah,Ai,Aj,Ak,Al,Am,An,Ao,Ap⟩:=zL Ab;obtain⟨Aq,Ar⟩:=zC Aa;obtain⟨As,At,Au,Av,Aw,Ax,Ay,Az,AA⟩:=zL Ac;have q0:=fz (k:=0) Aa;have q1:=fz (k:=1) Aa;obtain⟨E0,E1⟩:=zQ Aa (.int .u64 u) (.int .u64 v);go_wp2
   exact bodyPost_ret (v:=.tuple #[.agg #[.int .u64 u,.int .u64 v],.int .u8 0,.int .i64 0]) (by simp [results,Tryz.results37,go_sem,E0,E1]) rfl ⟨rfl,zN B8 (by first|exact Nat.le_refl _|omega|(have:=H5.out;omega)) _ _⟩
 ·
  have K5:=zJ (KO.out rfl);clear KO KD;obtain rfl:(5:Int)=fl:=HFL.out;go_wp2_with fail
  refine (K5.out _ (z7 FF.out B7)).mono ?_;rintro r w8 ⟨rfl,b8⟩;have B8:=zS B7 b8;obtain⟨Ab,Aa,Ac⟩:=yJ b8 Ad Ae Af;clear b8 B7 Ad AD AE AF AG AH AI AJ AK AL Ae AM AN Af AO AP AQ AR AS AT AU AV AW;obtain⟨Ah,Ai,Aj,Ak,Al,Am,An,Ao,Ap⟩:=zL Ab;obtain⟨Aq,Ar⟩:=zC Aa;obtain⟨As,At,Au,Av,Aw,Ax,Ay,Az,AA⟩:=zL Ac;have q0:=fz (k:=0) Aa;have q1:=fz (k:=1) Aa;obtain⟨E0,E1⟩:=zQ Aa (.int .u64 u) (.int .u64 v);go_wp2
  exact bodyPost_ret (v:=.tuple #[.agg #[.int .u64 u,.int .u64 v],.int .u8 5,.int .i64 0]) (by simp [results,Tryz.results37,go_sem,E0,E1]) rfl ⟨rfl,zN B8 (by first|exact Nat.le_refl _|omega|(have:=H5.out;omega)) _ _⟩
theorem ro_pack_zero (f m:Int)(neg:Bool)(x:Int)(more:Bool)(u v:Nat)(w:World)
  (KC:zZ 77 #[.int .u8 f,.int .u8 m] (.int .i64 0))
  (KM:xK 78 #[.int .u8 f,.agg (rg neg 0 x more)] (.bool true))
  (KZ:xK 21 #[.int .u8 f,.bool neg] (.agg #[.int .u64 u,.int .u64 v]))
  (hT:y6 w):Calls Tryz.prog 37 #[.int .u8 f,.int .u8 m,.agg (rg neg 0 x more)] w fun r w'=>r=.returned (.tuple #[.agg #[.int .u64 u,.int .u64 v],.int .u8 0,.int .i64 0])/\Below w.heap.size w w':=by
 have FF:=zJ hT;clear hT;have hat:=yD 6;have hz:=yZ;have hff:=yY;have hs0:=jD;have hcs:∀ x,((cw 6 x).size=6)=True:=fun x=>eq_true (z8 6 x);have heq:=eq6;have hQ0:=jC;have hg:=eqg6;have hp1:=rgf;have hp3:=rgz;have hp5:∀ (c:Bool) (s:Nat) (x:Int) (r:Bool),((rg c s x r).size=9)=True:=fun _ _ _ _=>eq_true rfl;obtain⟨Ab,Ac,B0⟩:=qD w (Obj.cells (rg neg 0 x more) 62) (Obj.cells #[.int .u64 0,.int .u64 0] 26)
 go_enter Tryz.func37,Tryz.ntmps37
 obtain⟨Ah,Ai,Aj,Ak,Al,Am,An,Ao,Ap⟩:=zL Ab;obtain⟨Aq,Ar⟩:=zC Ac;go_wp2_with fail
 refine (KC.out _).mono ?_;rintro r w1 ⟨rfl,b1⟩;have B1:=zS B0 b1;obtain⟨Ad,Ae⟩:=z6 b1 Ab Ac;clear b1 B0 Ab Ah Ai Aj Ak Al Am An Ao Ap Ac Aq Ar;obtain⟨As,At,Au,Av,Aw,Ax,Ay,Az,AA⟩:=zL Ad;obtain⟨AB,AC⟩:=zC Ae;go_wp2_with fail
 refine (KM.out _ (z7 FF.out B1)).mono ?_;rintro r w2 ⟨rfl,b2⟩;have B2:=zS B1 b2;obtain⟨Af,Ag⟩:=z6 b2 Ad Ae;clear b2 B1 Ad As At Au Av Aw Ax Ay Az AA Ae AB AC;obtain⟨AD,AE,AF,AG,AH,AI,AJ,AK,AL⟩:=zL Af;obtain⟨AM,AN⟩:=zC Ag;go_wp2_with fail
 refine (KZ.out _ (z7 FF.out B2)).mono ?_;rintro r w3 ⟨rfl,b3⟩;have B3:=zS B2 b3;obtain⟨AO,Aa⟩:=z6 b3 Af Ag;clear b3 B2 Af AD AE AF AG AH AI AJ AK AL Ag AM AN;obtain⟨AP,AQ,AR,AS,AT,AU,AV,AW,AX⟩:=zL AO;obtain⟨AY,AZ⟩:=zC Aa;have q0:=fz (k:=0) Aa;have q1:=fz (k:=1) Aa;obtain⟨E0,E1⟩:=zQ Aa (.int .u64 u) (.int .u64 v);go_wp2
 exact bodyPost_ret (v:=.tuple #[.agg #[.int .u64 u,.int .u64 v],.int .u8 0,.int .i64 0]) (by simp [results,Tryz.results37,go_sem,E0,E1]) rfl ⟨rfl,zN B3 (by first|exact Nat.le_refl _|omega|(skip;omega)) _ _⟩
theorem ro_pack_a (f m:Int)(neg:Bool)(s:Nat)(x:Int)(more:Bool)(c:Int)(hc:(c != 0)=true)(w:World)
  (KC:zZ 77 #[.int .u8 f,.int .u8 m] (.int .i64 c)):Calls Tryz.prog 37 #[.int .u8 f,.int .u8 m,.agg (rg neg s x more)] w fun r w'=>r=.returned (.tuple #[.agg #[.int .u64 0,.int .u64 0],.int .u8 0,.int .i64 2])/\Below w.heap.size w w':=by
 have hat:=yD 6;have hz:=yZ;have hff:=yY;have hs0:=jD;have hcs:∀ x,((cw 6 x).size=6)=True:=fun x=>eq_true (z8 6 x);have hp1:=rgf;have hp5:∀ (c:Bool) (s:Nat) (x:Int) (r:Bool),((rg c s x r).size=9)=True:=fun _ _ _ _=>eq_true rfl;obtain⟨Ab,Ac,B0⟩:=qD w (Obj.cells (rg neg s x more) 62) (Obj.cells #[.int .u64 0,.int .u64 0] 26)
 go_enter Tryz.func37,Tryz.ntmps37
 obtain⟨Ad,Ae,Af,Ag,Ah,Ai,Aj,Ak,Al⟩:=zL Ab;obtain⟨Am,An⟩:=zC Ac;go_wp2_with fail
 refine (KC.out _).mono ?_;rintro r w1 ⟨rfl,b1⟩;have B1:=zS B0 b1;obtain⟨Ao,Aa⟩:=z6 b1 Ab Ac;clear b1 B0 Ab Ad Ae Af Ag Ah Ai Aj Ak Al Ac Am An;obtain⟨Ap,Aq,Ar,As,At,Au,Av,Aw,Ax⟩:=zL Ao;obtain⟨Ay,Az⟩:=zC Aa;have q0:=fz (k:=0) Aa;have q1:=fz (k:=1) Aa;obtain⟨E0,E1⟩:=zQ Aa (.int .u64 0) (.int .u64 0);go_wp2
 exact bodyPost_ret (v:=.tuple #[.agg #[.int .u64 0,.int .u64 0],.int .u8 0,.int .i64 2]) (by simp [results,Tryz.results37,go_sem,E0,E1]) rfl ⟨rfl,zN B1 (by first|exact Nat.le_refl _|omega|(skip;omega)) _ _⟩
theorem ro_pack_b (f m:Int)(neg:Bool)(s:Nat)(x:Int)(more:Bool)(w:World)
  (KC:zZ 77 #[.int .u8 f,.int .u8 m] (.int .i64 0))
  (KM:xK 78 #[.int .u8 f,.agg (rg neg s x more)] (.bool false)) (hT:y6 w):Calls Tryz.prog 37 #[.int .u8 f,.int .u8 m,.agg (rg neg s x more)] w fun r w'=>r=.returned (.tuple #[.agg #[.int .u64 0,.int .u64 0],.int .u8 0,.int .i64 2])/\Below w.heap.size w w':=by
 have FF:=zJ hT;clear hT;have hat:=yD 6;have hz:=yZ;have hff:=yY;have hs0:=jD;have hcs:∀ x,((cw 6 x).size=6)=True:=fun x=>eq_true (z8 6 x);have hp1:=rgf;have hp5:∀ (c:Bool) (s:Nat) (x:Int) (r:Bool),((rg c s x r).size=9)=True:=fun _ _ _ _=>eq_true rfl;obtain⟨Ab,Ac,B0⟩:=qD w (Obj.cells (rg neg s x more) 62) (Obj.cells #[.int .u64 0,.int .u64 0] 26)
 go_enter Tryz.func37,Tryz.ntmps37
 obtain⟨Af,Ag,Ah,Ai,Aj,Ak,Al,Am,An⟩:=zL Ab;obtain⟨Ao,Ap⟩:=zC Ac;go_wp2_with fail
 refine (KC.out _).mono ?_;rintro r w1 ⟨rfl,b1⟩;have B1:=zS B0 b1;obtain⟨Ad,Ae⟩:=z6 b1 Ab Ac;clear b1 B0 Ab Af Ag Ah Ai Aj Ak Al Am An Ac Ao Ap;obtain⟨Aq,Ar,As,At,Au,Av,Aw,Ax,Ay⟩:=zL Ad;obtain⟨Az,AA⟩:=zC Ae;go_wp2_with fail
 refine (KM.out _ (z7 FF.out B1)).mono ?_;rintro r w2 ⟨rfl,b2⟩;have B2:=zS B1 b2;obtain⟨AB,Aa⟩:=z6 b2 Ad Ae;clear b2 B1 Ad Aq Ar As At Au Av Aw Ax Ay Ae Az AA;obtain⟨AC,AD,AE,AF,AG,AH,AI,AJ,AK⟩:=zL AB;obtain⟨AL,AM⟩:=zC Aa;have q0:=fz (k:=0) Aa;have q1:=fz (k:=1) Aa;obtain⟨E0,E1⟩:=zQ Aa (.int .u64 0) (.int .u64 0);go_wp2
 exact bodyPost_ret (v:=.tuple #[.agg #[.int .u64 0,.int .u64 0],.int .u8 0,.int .i64 2]) (by simp [results,Tryz.results37,go_sem,E0,E1]) rfl ⟨rfl,zN B2 (by first|exact Nat.le_refl _|omega|(skip;omega)) _ _⟩
theorem wbit0 (n:Nat)(o:Bool)(ho:decide (n % 2=1)=o)(w:World):Calls Tryz.prog 135 #[.agg (cw 6 n),.int .i64 0] w fun r w'=>r=.returned (.bool o)/\Below w.heap.size w w':=by
 have hat:=yD 6;have hf:=yY;obtain⟨d,hd⟩:∃ d,n / 2 ^ 0 % 2 ^ 1=d:=⟨_,rfl⟩
 have e:((d:Int) == 1)=o:=by
  subst hd ho;rw [Nat.pow_zero,Nat.div_one,Nat.pow_one,Bool.eq_iff_iff,decide_eq_true_iff,beq_iff_eq];omega
 have HD:=zJ hd;clear hd ho
 have W1:zW (∀ w:World,Calls Tryz.prog 186 #[.agg (cw 6 n),.int .i64 0,.int .i64 1] w fun r w'=>r=.returned (.int .u64 d)/\Below w.heap.size w w'):=zJ (fun w=>by
  have h:=wfield_any n 0 1 (by decide) (by decide) w;rw [HD.out] at h;exact h)
 go_enter Tryz.func135,Tryz.ntmps135
 go_wp2_with fail
 refine (W1.out _).mono ?_;rintro e w1 ⟨rfl,hb⟩;go_wp2
 go_ret
 exact⟨rfl,((Below.refl _ _).alloc (Nat.le_refl _) _).trans (hb.mono (by simp))⟩
theorem not_no {b:Bool} (h:(!b)=false):b=true:=by cases b <;> simp_all
theorem r1_lt {f:Int} (hf:y7 f) {x:Nat} (h:x<=2*2 ^ pV f):x<Q/\x+1<Q/\zV x<=pV f+2:=by
 obtain⟨g1,g2,g3,g4,g5,g6,g7⟩:=fm hf;have p:=Nat.two_pow_pos (pV f);have k1:(oV f+1)*2 ^ pV f ≥ 4*2 ^ pV f:=Nat.mul_le_mul_right _ (by omega);refine ⟨xX (by omega),xX (by omega),(yM x _).2 (by rw [Nat.pow_succ,Nat.pow_succ];omega)⟩
theorem kgrid (f m:Int)(hf:y7 f)(hm:0<=m/\m<=4)(neg:Bool)(s:Nat)(s0:s≠0)(hs:s<Q)(x st:Int)(more:Bool)(k:Nat)(x1:-1100000<=x)(x2:x<=1100000)(k2:k<=3000000)(hst:st=x+(zV s:Int)-((pV f+1:Nat):Int)+(k:Int))
  (K:Nat) (hK:rG m neg (qW (pV f+1) s) k (qM (pV f+1) s false)=K) (ex:Bool) (hex:(!(rH (qW (pV f+1) s) k || rM (qW (pV f+1) s) k (qM (pV f+1) s false)))=ex) (w:World) :
  Calls Tryz.prog 80 #[.int .u8 m,.agg (rg neg s x more),.int .i64 st] w fun r w'=>r=.returned (.tuple #[.agg (rg neg K st false),.bool ex])/\Below w.heap.size w w':=by
 obtain⟨n1,n2,n3,n4,n5,n6⟩:=nm8 hf;obtain⟨c1,c2,c3,c4⟩:=cut_is (pV f+1) s x st k s0 hs (by omega) hst;have lim:=rS_lim (q_ok (f:=f) s s0) k;obtain⟨Z,hZ,eQ⟩:=Qq384;have bQ:zV s<=Z:=y9 s Z (by rw [<-eQ];exact hs);obtain⟨R,hR⟩:∃ R,s*2 ^ yL (x-st)=R:=⟨_,rfl⟩;rw [hR] at c1 c2 c3 c4;obtain⟨h,hh⟩:∃ h,halfv R (cnt5 (st-x))=h:=⟨_,rfl⟩;obtain⟨lo,hlo⟩:∃ lo,decide (Q<=s*2 ^ yL (x-st))=lo:=⟨_,rfl⟩;obtain⟨od,hod⟩:∃ od,decide (rS (qW (pV f+1) s) k % 2=1)=od:=⟨_,rfl⟩;obtain⟨q1,q2,q3⟩:=r1_lt hf (x:=rS (qW (pV f+1) s) k) (by omega)
 have up:uP m neg od h ex=gO m neg (rO (qW (pV f+1) s) k) (rH (qW (pV f+1) s) k) (rM (qW (pV f+1) s) k (qM (pV f+1) s false)):=by
  rw [<-uP_gO,show rO (qW (pV f+1) s) k=od from hod,hex]
  cases ex
  ·
   rw [<-hh,c4 (not_no hex)]
  ·
   rfl
 rw [hex] at c3;have K1:zZ 126 #[.agg (cw 6 s),.int .i64 (x-st)] (.tuple #[.agg (cw 6 R),.bool lo]):=zJ (fun w=>wleft_is s R (x-st) lo hs (by rw [hR,Nat.mod_eq_of_lt c1]) hlo w);have K2:zZ 134 #[.agg (cw 6 R),.int .i64 (st-x)] (.tuple #[.agg (cw 6 (rS (qW (pV f+1) s) k)),.int .i64 h,.bool ex]):=zJ (fun w=>jcut_is R _ (st-x) h ex c1 c2 hh c3 w);have K3:zZ 135 #[.agg (cw 6 (rS (qW (pV f+1) s) k)),.int .i64 0] (.bool od):=zJ (fun w=>wbit0 _ _ hod w);have w1:IntKind.i64.wrap (x-st)=x-st:=zR _ (by omega) (by omega);have w2:IntKind.i64.wrap (st-x)=st-x:=zR _ (by omega) (by omega)
 unfold rG at hK
 by_cases g:gO m neg (rO (qW (pV f+1) s) k) (rH (qW (pV f+1) s) k) (rM (qW (pV f+1) s) k (qM (pV f+1) s false))=true
 ·
  rw [if_pos g] at hK;subst hK;rw [g] at up;exact ro_grid_up m st neg s x more R _ _ lo false (x-st) (st-x) h ex od w K1 K2 K3 (zJ (fun w=>ro_up m neg od h ex true up w)) (zJ (fun w=>wof_any 1 (by decide) w)) (zJ (fun w=>wadd_is _ 1 _ false q1 (by have:=q2;omega) (Nat.mod_eq_of_lt q2) (decide_eq_false (by omega)) w)) w1 w2
 ·
  rw [if_neg g] at hK;subst hK;rw [Bool.not_eq_true] at g;rw [g] at up;exact ro_grid_no m st neg s x more R _ lo (x-st) (st-x) h ex od w (zJ ⟨c1,q1⟩) K1 K2 K3 (zJ (fun w=>ro_up m neg od h ex false up w)) w1 w2
theorem kotop (neg:Bool)(s:Nat)(hs:s<Q)(x:Int)(more:Bool)(x1:-3000000<=x)(x2:x<=3000000)(v:Int)(hv:x+(zV s:Int)-1=v)(w:World):Calls Tryz.prog 82 #[.agg (rg neg s x more)] w fun r w'=>r=.returned (.int .i64 v)/\Below w.heap.size w w':=by
 obtain⟨Z,hZ,eQ⟩:=Qq384;have bQ:zV s<=Z:=y9 s Z (by rw [<-eQ];exact hs);exact ro_top neg s x more (zV s:Int) (x+(zV s:Int)) v w (zJ (fun w=>wlen_is s _ hs rfl w)) (zR _ (by omega) (by omega)) (by rw [zR _ (by omega) (by omega)];exact hv)
theorem kprec (f:Int)(hf:y7 f)(w:World)(hT:y6 w):Calls Tryz.prog 121 #[.int .u8 f] w fun r w'=>r=.returned (.int .i64 (fP f))/\Below w.heap.size w w':=by
 have f4:=yV hf;refine (s_precision f _ f4.1 f4.2.1 rfl w hT).mono ?_;rintro r w' ⟨rfl,rfl⟩;exact⟨rfl,yB _ _⟩
theorem kemax (f:Int)(hf:y7 f)(w:World)(hT:y6 w):Calls Tryz.prog 60 #[.int .u8 f] w fun r w'=>r=.returned (.int .i64 (fE f))/\Below w.heap.size w w':=by
 have f4:=yV hf;refine (s_emax f _ f4.1 f4.2.1 rfl w hT).mono ?_;rintro r w' ⟨rfl,rfl⟩;exact⟨rfl,yB _ _⟩
theorem kostep (f:Int)(hf:y7 f)(T:Int)(h1:-3000000<=T)(h2:T<=3000000)(v:Int)(hv:T-fP f+1=v)(w:World)(hT:y6 w):Calls Tryz.prog 81 #[.int .u8 f,.int .i64 T] w fun r w'=>r=.returned (.int .i64 v)/\Below w.heap.size w w':=by
 have:=fP_lim (f:=f) rfl
 exact ro_stepAt f T (fP f) (T-fP f) v w (zJ (fun w hT=>kprec f hf w hT)) (zR _ (by omega) (by omega)) (by rw [zR _ (by omega) (by omega)];exact hv) hT
theorem kocheck (f m:Int)(h0:0<=f)(h1:f<=255)(c:Int)(hc:(if f<=3/\m<=4 then (0:Int) else 2)=c)(w:World):Calls Tryz.prog 77 #[.int .u8 f,.int .u8 m] w fun r w'=>r=.returned (.int .i64 c)/\Below w.heap.size w w':=by
 have K1:∀ c,(if f<=3 then (0:Int) else 2)=c->zZ 27 #[.int .u8 f] (.int .i64 c):=fun c hc=>zJ (fun w=>by
  refine xP (xT f c h0 h1 ?_ w);rw [<-hc]
  by_cases h:f<=3
  ·
   rw [if_pos h];exact fC_yes (is4_of h0 h)
  ·
   rw [if_neg h];exact fC_no h0 (by unfold y7;omega))
 have K2:∀ c,(if m<=4 then (0:Int) else 2)=c->zZ 28 #[.int .u8 m] (.int .i64 c):=fun c hc=>zJ (fun w=>by
  subst hc;exact xP (s_checkMode m w))
 by_cases c1:f<=3
 ·
  by_cases c2:m<=4
  ·
   rw [if_pos ⟨c1,c2⟩] at hc;subst hc;exact ro_check_c f m 0 0 w (K1 0 (if_pos c1)) (K2 0 (if_pos c2)) (by decide) (by decide)
  ·
   rw [if_neg (by omega)] at hc;subst hc;exact ro_check_b f m 0 2 w (K1 0 (if_pos c1)) (K2 2 (if_neg c2)) (by decide) (by decide)
 ·
  rw [if_neg (by omega)] at hc;subst hc;exact ro_check_a f m 2 w (K1 2 (if_neg c1)) (by decide)
theorem is4_le {f:Int} (hf:y7 f):f<=3:=by rcases hf with rfl|rfl|rfl|rfl <;> decide
theorem kover (f m:Int)(hf:y7 f)(hm:0<=m/\m<=4)(neg:Bool)(u v:Nat)(hv:qA (ovB f m neg)=(u,v))(w:World)(hT:y6 w):Calls Tryz.prog 76 #[.int .u8 f,.int .u8 m,.bool neg] w fun r w'=>r=.returned (.tuple #[.agg #[.int .u64 u,.int .u64 v],.int .u8 5,.int .i64 0])/\Below w.heap.size w w':=by
 have f4:=yV hf;have KC:zZ 77 #[.int .u8 f,.int .u8 m] (.int .i64 0):=zJ (fun w=>kocheck f m f4.1 f4.2.1 0 (if_pos ⟨is4_le hf,hm.2⟩) w);have up:=uP_gO m neg false true true;obtain⟨i,j,hij⟩:∃ i j,qA (eGreatest f neg)=(i,j):=⟨_,_,rfl⟩
 have KG:xK 132 #[.int .u8 f,.bool neg] (.agg #[.int .u64 i,.int .u64 j]):=zJ (fun w hT=>by
  have:=s_greatest f neg hf _ rfl w hT
  rw [hij] at this;exact this)
 unfold ovB at hv
 by_cases g:gO m neg false true true=true
 ·
  rw [if_pos g] at hv;rw [g] at up;exact ro_over_inf f m neg i j u v w KC KG (zJ (fun w=>ro_up m neg false 1 false true up w)) (zJ (fun w hT=>sk_inf f neg hf u v hv w hT)) hT
 ·
  rw [if_neg g,hij] at hv;injection hv with e1 e2;subst e1 e2;rw [Bool.not_eq_true] at g;rw [g] at up;exact ro_over_gr f m neg i j w KC KG (zJ (fun w=>ro_up m neg false 1 false false up w)) hT
theorem kotiny (f m:Int)(hf:y7 f)(hm:0<=m/\m<=4)(neg:Bool)(s:Nat)(s0:s≠0)(hs:s<Q)(x:Int)(more:Bool)(x1:-1100000<=x)(x2:x<=1100000)(o:Bool)(ho:tnB f m neg (x+(zV s:Int)-1) (qW (pV f+1) s) (qM (pV f+1) s false)=o)(w:World)(hT:y6 w) :
  Calls Tryz.prog 84 #[.int .u8 f,.int .u8 m,.agg (rg neg s x more)] w fun r w'=>r=.returned (.bool o)/\Below w.heap.size w w':=by
 obtain⟨Z,hZ,eQ⟩:=Qq384;have bQ:zV s<=Z:=y9 s Z (by rw [<-eQ];exact hs);have hp:=fp8 hf;obtain⟨n1,n2,n3,n4,n5,n6⟩:=nm8 hf;obtain⟨K,hK⟩:∃ K,rG m neg (qW (pV f+1) s) 0 (qM (pV f+1) s false)=K:=⟨_,rfl⟩;have lim:=rG_lim (q_ok (f:=f) s s0) m neg 0 (qM (pV f+1) s false);rw [hK] at lim;obtain⟨q1,q2,q3⟩:=r1_lt hf lim.1
 unfold tnB at ho
 rw [hK] at ho
 refine ro_tiny f m neg s x more (x+(zV s:Int)-1) (x+(zV s:Int)-1-fP f+1) (x+(zV s:Int)-1-fP f+1+(zV K:Int)-1) (1-fE f) K _ o w (zJ (fun w=>kotop neg s hs x more (by omega) (by omega) _ rfl w)) (zJ (fun w hT=>kostep f hf _ (by omega) (by omega) _ rfl w hT))
  (zJ (fun w=>kgrid f m hf hm neg s s0 hs x _ more 0 x1 x2 (by omega) (by omega) K hK _ rfl w)) (zJ (fun w=>kotop neg K q1 _ false (by omega) (by omega) _ rfl w)) (zJ (fun w hT=>k_emin f hf w hT)) ?_ hT
 rw [<-ho,decide_eq_decide];omega
theorem wd_hi (n k:Nat)(hk:0<k)(h:n<18446744073709551616):wd n k=0:=by
 unfold wd
 rw [Nat.div_eq_of_lt,Nat.zero_mod];refine Nat.lt_of_lt_of_le h ?_;rw [show (18446744073709551616:Nat)=2 ^ 64 by decide];exact Nat.pow_le_pow_right (by decide) (by omega)
theorem wd_hi2 (n k:Nat)(hk:1<k)(h:n<340282366920938463463374607431768211456):wd n k=0:=by
 unfold wd
 rw [Nat.div_eq_of_lt,Nat.zero_mod];refine Nat.lt_of_lt_of_le h ?_;rw [show (340282366920938463463374607431768211456:Nat)=2 ^ 128 by decide];exact Nat.pow_le_pow_right (by decide) (by omega)
theorem enc_lo (S j G:Nat)(h:G+S<18446744073709551616):IntKind.u64.wrap (((wd S 0:Nat):Int)+(G:Int))=((wd (G+S) 0:Nat):Int)/\∀ k,0<k->k<6->wd (G+S) k=wd S k:=by
 constructor
 ·
  rw [IntKind.wrap_u64]
  unfold wd
  rw [Nat.mul_zero,Nat.pow_zero,Nat.div_one,Nat.div_one];omega
 ·
  intro k h1 h2;rw [wd_hi _ k h1 h,wd_hi _ k h1 (by omega)]
theorem enc_hi (S j:Nat)(h:j*5192296858534827628530496329220096+S<340282366920938463463374607431768211456):IntKind.u64.wrap (((wd S 1:Nat):Int)+((j*281474976710656:Nat):Int))=((wd (j*5192296858534827628530496329220096+S) 1:Nat):Int)/\∀ k,k≠1->k<6->wd (j*5192296858534827628530496329220096+S) k=wd S k:=by
 constructor
 ·
  rw [IntKind.wrap_u64]
  unfold wd
  rw [Nat.mul_one,show (2:Nat) ^ 64=18446744073709551616 by decide];omega
 ·
  intro k h1 h2
  by_cases c:k=0
  ·
   subst c
   unfold wd
   rw [Nat.mul_zero,Nat.pow_zero,Nat.div_one,Nat.div_one];omega
  ·
   rw [wd_hi2 _ k (by omega) h,wd_hi2 _ k (by omega) (by omega)]
theorem or_sign (f:Int)(n:Nat)(neg:Bool)(h:n<2 ^ wV f):n ||| xY f neg=n+(if neg then 2 ^ wV f else 0):=by
 unfold xY jH
 rw [Nat.zero_mul,Nat.zero_add]
 cases neg
 ·
  rw [if_neg (by decide),Nat.or_zero,Nat.add_zero]
 ·
  rw [if_pos rfl,Nat.or_comm]
  have:=Nat.two_pow_add_eq_or_of_lt h 1
  rw [Nat.mul_one] at this;omega
theorem ez_lt {f:Int} (hf:y7 f)(neg:Bool):xY f neg<340282366920938463463374607431768211456:=by
 obtain⟨g1,g2,g3,g4,g5,g6,g7⟩:=fm hf
 have:=Nat.two_pow_pos (wV f)
 unfold xY jH
 split <;> omega
theorem kenc (f:Int)(hf:y7 f)(neg:Bool)(j S:Nat)(st:Int)(hst:st=lx f+(j:Int))(hS:S<=2*2 ^ pV f)(hj:j=0∨2 ^ pV f<=S)(ht:lx f+(j:Int)-1+(zV S:Int)<=fE f)(u v:Nat)(hv:qA (eS f neg j S)=(u,v))(w:World)(hT:y6 w) :
  Calls Tryz.prog 85 #[.int .u8 f,.agg (rg neg S st false)] w fun r w'=>r=.returned (.agg #[.int .u64 u,.int .u64 v])/\Below w.heap.size w w':=by
 have lt:=eS_lt hf j S hS hj ht;obtain⟨g1,g2,g3,g4,g5,g6,g7⟩:=fm hf;obtain⟨n1,n2,n3,n4,n5,n6⟩:=nm8 hf;obtain⟨l1,l2,l3⟩:True/\True/\True:=⟨trivial,trivial,trivial⟩;have bl:=x7 S;have hp:=fp8 hf
 have hj2:j<=40000:=by
  have:zV S=0∨0<zV S:=by omega
  rcases hj with h|h
  ·
   omega
  ·
   have p:=Nat.two_pow_pos (pV f)
   have:=(bl (by omega)).1
   omega
 obtain⟨zu,zv,hz⟩:∃ zu zv,qA (xY f neg)=(zu,zv):=⟨_,_,rfl⟩;have e3:eS f neg j S=(j*2 ^ pV f+S) ||| xY f neg:=by rw [or_sign f _ neg lt];rfl
 have z1:zu<18446744073709551616/\zv<18446744073709551616/\zv+18446744073709551616*zu=xY f neg:=by
  have:=ez_lt hf neg
  unfold qA at hz
  injection hz with a b;omega
 have sl:eS f neg j S<340282366920938463463374607431768211456:=by
  unfold eS
  split <;> omega
 obtain⟨ob,KT⟩:=ktobits_one (eS f neg j S) u v (xX sl) (by unfold toB;rw [if_pos sl];exact hv);have KB:zZ 72 #[.agg #[.int .u64 zu,.int .u64 zv]] (.agg (cw 6 (xY f neg))):=zJ (fun w=>wofbits_is zu zv _ z1.1 z1.2.1 z1.2.2 w);have KO:zZ 75 #[.agg (cw 6 (j*2 ^ pV f+S)),.agg (cw 6 (xY f neg))] (.agg (cw 6 (eS f neg j S))):=zJ (fun w=>wor_is _ _ _ (xX (by omega)) (xX (ez_lt hf neg)) e3.symm w);have KZ:xK 21 #[.int .u8 f,.bool neg] (.agg #[.int .u64 zu,.int .u64 zv]):=zJ (fun w hT=>sk_zero f neg hf zu zv hz w hT);have KI:xK 83 #[.int .u8 f] (.int .i64 (1-fE f)):=zJ (fun w hT=>k_emin f hf w hT);have KS:xK 81 #[.int .u8 f,.int .i64 (1-fE f)] (.int .i64 (lx f)):=zJ (fun w hT=>kostep f hf _ (by omega) (by omega) _ (by omega) w hT);have w1:IntKind.i64.wrap (st-lx f)=(j:Int):=by rw [zR _ (by omega) (by omega)];omega
 have w2:IntKind.u64.wrap (j:Int)=(j:Int):=by rw [IntKind.wrap_u64];omega
 have KP:xK 121 #[.int .u8 f] (.int .i64 (fP f)):=zJ (fun w hT=>kprec f hf w hT);clear hv hz z1 sl e3
 rcases hf with rfl|rfl|rfl|rfl
 ·
  rw [show fP 0=24 by decide] at KP;rw [show 2 ^ pV 0=8388608 by decide] at lt KO;rw [show 2 ^ wV 0=2147483648 by decide] at lt;obtain⟨e1,e2⟩:=enc_lo S j (j*8388608) (by omega);exact ro_encv 0 24 23 23 (by decide) (by decide) (by decide) (by decide) neg S _ _ st _ _ _ _ _ u v zu zv _ ob w KP KI KS w1 w2 (by rw [show (2:Int) ^ min 23 64=8388608 by decide,IntKind.wrap_u64];omega) e1 (zJ e2) KZ KB KO (zJ KT) hT
 ·
  rw [show fP 1=53 by decide] at KP;rw [show 2 ^ pV 1=4503599627370496 by decide] at lt KO;rw [show 2 ^ wV 1=9223372036854775808 by decide] at lt;obtain⟨e1,e2⟩:=enc_lo S j (j*4503599627370496) (by omega);exact ro_encv 1 53 52 52 (by decide) (by decide) (by decide) (by decide) neg S _ _ st _ _ _ _ _ u v zu zv _ ob w KP KI KS w1 w2 (by rw [show (2:Int) ^ min 52 64=4503599627370496 by decide,IntKind.wrap_u64];omega) e1 (zJ e2) KZ KB KO (zJ KT) hT
 ·
  rw [show fP 2=11 by decide] at KP;rw [show 2 ^ pV 2=1024 by decide] at lt KO;rw [show 2 ^ wV 2=32768 by decide] at lt;obtain⟨e1,e2⟩:=enc_lo S j (j*1024) (by omega);exact ro_encv 2 11 10 10 (by decide) (by decide) (by decide) (by decide) neg S _ _ st _ _ _ _ _ u v zu zv _ ob w KP KI KS w1 w2 (by rw [show (2:Int) ^ min 10 64=1024 by decide,IntKind.wrap_u64];omega) e1 (zJ e2) KZ KB KO (zJ KT) hT
 ·
  rw [show fP 3=113 by decide] at KP;rw [show 2 ^ pV 3=5192296858534827628530496329220096 by decide] at lt KO;rw [show 2 ^ wV 3=170141183460469231731687303715884105728 by decide] at lt;obtain⟨e1,e2⟩:=enc_hi S j (by omega);exact ro_enc_3 neg S _ _ st _ _ _ _ _ u v zu zv _ ob w KP KI KS w1 w2 (by rw [IntKind.wrap_u64];omega) e1 (zJ e2) KZ KB KO (zJ KT) hT
theorem komay (f:Int)(hf:y7 f)(neg:Bool)(s:Nat)(hs:s<Q)(x:Int)(more:Bool)(o:Bool)(ho:decide (-1048576<=x/\x<=1048576/\(more=true->pV f+3<=zV s))=o)(w:World)(hT:y6 w):Calls Tryz.prog 78 #[.int .u8 f,.agg (rg neg s x more)] w fun r w'=>r=.returned (.bool o)/\Below w.heap.size w w':=by
 have hp:=fp8 hf;obtain⟨n1,n2,n3,n4,n5,n6⟩:=nm8 hf
 by_cases c1:x < -1048576
 ·
  rw [decide_eq_false (by omega)] at ho;subst ho;exact ro_may_lo f neg s x more w (decide_eq_true c1)
 by_cases c2:1048576<x
 ·
  rw [decide_eq_false (by omega)] at ho;subst ho;exact ro_may_hi f neg s x more w (decide_eq_false c1) (decide_eq_true c2)
 cases more
 ·
  rw [decide_eq_true ⟨by omega,by omega,fun h=>Bool.noConfusion h⟩] at ho;subst ho;exact ro_may_no f neg s x w (decide_eq_false c1) (decide_eq_false c2)
 ·
  refine ro_may_more f neg s x (zV s:Int) (fP f) (fP f+2) o w (zJ (fun w=>wlen_is s _ hs rfl w)) (zJ (fun w hT=>kprec f hf w hT)) (decide_eq_false c1) (decide_eq_false c2) (zR _ (by omega) (by omega)) ?_ hT;rw [<-ho,decide_eq_decide]
  constructor
  ·
   exact fun h=>⟨by omega,by omega,fun _=>by omega⟩
  ·
   exact fun h=>by have:=h.2.2 rfl;omega
theorem kPack_is (f m:Int)(hf:y7 f)(hm:0<=m/\m<=4)(neg:Bool)(s:Nat)(hs:s<Q)(s0:s≠0)(x:Int)(more:Bool)(h1:-1048576<=x)(h2:x<=1048576)(hmore:more=true->pV f+3<=zV s)(M:Nat)(fl:Int)(hd:dlv f m neg (x+(zV s:Int)-1) (qW (pV f+1) s) (qM (pV f+1) s more)=(M,fl))(u v:Nat)(hv:qA M=(u,v))(w:World)(hT:y6 w) :
  Calls Tryz.prog 37 #[.int .u8 f,.int .u8 m,.agg (rg neg s x more)] w fun r w'=>r=.returned (.tuple #[.agg #[.int .u64 u,.int .u64 v],.int .u8 fl,.int .i64 0])/\Below w.heap.size w w':=by
 have f4:=yV hf;have hp:=fp8 hf;obtain⟨n1,n2,n3,n4,n5,n6⟩:=nm8 hf;have KC:zZ 77 #[.int .u8 f,.int .u8 m] (.int .i64 0):=zJ (fun w=>kocheck f m f4.1 f4.2.1 0 (if_pos ⟨is4_le hf,hm.2⟩) w);have KM:xK 78 #[.int .u8 f,.agg (rg neg s x more)] (.bool true):=zJ (fun w hT=>komay f hf neg s hs x more true (decide_eq_true ⟨h1,h2,hmore⟩) w hT)
 obtain⟨t,t0,tQ,bt,qt,mt,KJ⟩:∃ t,t≠0/\t<Q/\zV t=zV s/\qW (pV f+1) t=qW (pV f+1) s/\qM (pV f+1) t false=qM (pV f+1) s more/\zZ 79 #[.agg (rg neg s x more)] (.agg (rg neg t x false)):=by
  cases more
  ·
   exact⟨s,s0,hs,rfl,rfl,rfl,zJ (fun w=>ro_jam_no neg s x w)⟩
  ·
   obtain⟨j1,j2,j3,j4⟩:=q_jam (pV f+1) s (by have:=hmore rfl;omega);obtain⟨o1,o2⟩:=or_low s (s / 2*2+1) rfl;refine ⟨s / 2*2+1,by omega,?_,j1,j2,by rw [j3,j4],zJ (fun w=>ro_jam_yes neg s _ x w ?_ (zJ o2))⟩
   ·
    obtain⟨L,hL,eQ⟩:=Qq384;rw [eQ]
    have:=qL (s / 2*2+1)
    have b2:=y9 s L (by rw [<-eQ];exact hs);rw [j1] at this;exact Nat.lt_of_lt_of_le this (Nat.pow_le_pow_right (show 0<2 by decide) b2)
   ·
    rw [o1]
    have:=bits_or_u64_nat (wd s 0) 1 (yU s 0) (by decide)
    rw [jor1] at this;exact this
 obtain⟨Z,hZ,eQ⟩:=Qq384;have bQ:zV t<=Z:=y9 t Z (by rw [<-eQ];exact tQ);rw [<-bt,<-qt,<-mt] at hd;clear hmore bt qt mt;obtain⟨T,hT0⟩:∃ T,x+(zV t:Int)-1=T:=⟨_,rfl⟩;rw [hT0] at hd;obtain⟨W,hW⟩:∃ W,qW (pV f+1) t=W:=⟨_,rfl⟩;obtain⟨mo,hmo⟩:∃ mo,qM (pV f+1) t false=mo:=⟨_,rfl⟩;have wok:Wok f W:=by rw [<-hW];exact q_ok t t0
 rw [hW,hmo] at hd;obtain⟨K,hK⟩:∃ K,rG m neg W (dK f T) mo=K:=⟨_,rfl⟩;have lim:=rG_lim wok m neg (dK f T) mo;rw [hK] at lim;obtain⟨q1,q2,q3⟩:=r1_lt hf lim.1;have sx:=st_lx hf T;have jk1:=jk (f:=f) T;have stl:stE f T=max T (1-fE f):=rfl
 unfold dlv at hd
 rw [hK] at hd
 refine ro_pack f m neg s t x more T (1-fE f) (stE f T-fP f+1) (stE f T-fP f+1+(zV K:Int)-1) (fE f) fl K (!(rH W (dK f T) || rM W (dK f T) mo)) _ (tnB f m neg T W mo) u v w (eq_false s0) hs KC KM KJ
  (zJ (fun w=>kotop neg t tQ x false (by omega) (by omega) _ hT0 w)) (zJ (fun w hT=>k_emin f hf w hT)) (zJ (fun w hT=>kostep f hf _ (by omega) (by omega) _ (by rw [stl]) w hT))
  (zJ (fun w=>kgrid f m hf hm neg t t0 tQ x _ false (dK f T) (by omega) (by omega) (by unfold dK;omega) (by unfold dK;omega) K (by rw [hW,hmo];exact hK) _ (by rw [hW,hmo]) w))
  (zJ (fun w=>kotop neg K q1 _ false (by omega) (by omega) _ rfl w)) (zJ (fun w hT=>kemax f hf w hT)) (zJ (fun o w hT=>?_)) (zJ (fun o w hT=>?_)) (zJ (fun w hT=>kotiny f m hf hm neg t t0 tQ x false (by omega) (by omega) _ (by rw [hT0,hW,hmo]) w hT)) rfl ?_ hT
 ·
  rw [decide_eq_true_iff] at o;rw [if_pos (by omega)] at hd;injection hd with d1 d2;rw [<-d1] at hv;exact kover f m hf hm neg u v hv w hT
 ·
  rw [decide_eq_false_iff_not] at o;rw [if_neg (by omega)] at hd;injection hd with d1 d2;rw [<-d1] at hv;refine kenc f hf neg (dJ f T) K _ sx lim.1 ?_ (by omega) u v hv w hT
  rcases jk1 with h|h
  ·
   exact Or.inl h.1
  ·
   exact Or.inr (lim.2.1 h.1)
 ·
  by_cases c:fE f<stE f T-fP f+(zV K:Int)
  ·
   rw [if_pos c] at hd;injection hd with d1 d2;rw [decide_eq_true (show fE f<stE f T-fP f+1+(zV K:Int)-1 by omega),if_pos rfl];exact d2
  ·
   rw [if_neg c] at hd;injection hd with d1 d2;rw [decide_eq_false (show ¬ fE f<stE f T-fP f+1+(zV K:Int)-1 by omega),if_neg (by decide),<-d2]
   cases (rH W (dK f T) || rM W (dK f T) mo) <;> rfl
theorem kPack_zero (f m:Int)(hf:y7 f)(hm:0<=m/\m<=4)(neg:Bool)(x:Int)(h1:-1048576<=x)(h2:x<=1048576)(u v:Nat)(hv:qA (xY f neg)=(u,v))(w:World)(hT:y6 w) :
  Calls Tryz.prog 37 #[.int .u8 f,.int .u8 m,.agg (rg neg 0 x false)] w fun r w'=>r=.returned (.tuple #[.agg #[.int .u64 u,.int .u64 v],.int .u8 0,.int .i64 0])/\Below w.heap.size w w':=by
 have f4:=yV hf;exact ro_pack_zero f m neg x false u v w (zJ (fun w=>kocheck f m f4.1 f4.2.1 0 (if_pos ⟨is4_le hf,hm.2⟩) w)) (zJ (fun w hT=>komay f hf neg 0 jC x false true (decide_eq_true ⟨h1,h2,fun h=>Bool.noConfusion h⟩) w hT)) (zJ (fun w hT=>sk_zero f neg hf u v hv w hT)) hT
theorem kPack_no (f m:Int)(h0:0<=f)(h1:f<=255)(neg:Bool)(s:Nat)(hs:s<Q)(x:Int)(more:Bool)(h:¬ (f<=3/\m<=4/\-1048576<=x/\x<=1048576/\(more=true->pV f+3<=zV s)))(w:World)(hT:y6 w) :
  Calls Tryz.prog 37 #[.int .u8 f,.int .u8 m,.agg (rg neg s x more)] w fun r w'=>r=.returned (.tuple #[.agg #[.int .u64 0,.int .u64 0],.int .u8 0,.int .i64 2])/\Below w.heap.size w w':=by
 by_cases c:f<=3/\m<=4
 ·
  exact ro_pack_b f m neg s x more w (zJ (fun w=>kocheck f m h0 h1 0 (if_pos c) w)) (zJ (fun w hT=>komay f (is4_of h0 c.1) neg s hs x more false (decide_eq_false (fun q=>h ⟨c.1,c.2,q⟩)) w hT)) hT
 ·
  exact ro_pack_a f m neg s x more 2 (by decide) w (zJ (fun w=>kocheck f m h0 h1 2 (if_neg c) w))
theorem st_r1 (w:World)(b:Nat)(neg:Bool)(s:Nat)(x:Int)(more:Bool)(t:Nat)(h:w.heap[b]?=some (.cells (rg neg s x more) 62)) :
  (storeCells ⟨b,1,none⟩ (cw 6 t).toList 0).run Tryz.prog w=.ok () (w.setRow b (rg neg t x more)):=
 run_storeCells_at (P:=Tryz.prog) b 1 62 (cw 6 t).toList 0 (rg neg s x more) w h (by simp only [Array.length_toList,rg_size,z8];omega) (cw_one t)
end Go.Proofs.YtapikkbifdldfaaGreatDoor
namespace Go.Proofs.YtapikkbifdldfaaGreatDoor
set_option maxRecDepth 100000
set_option maxHeartbeats 40000000
open WMath
open Go.ChangeShapes Go.WideShapes Go.ChangeAt Go.RowKit
theorem trod_row4 {H:Type} {enc:TypeId×Value->H} {P:Program} {w:World} {base:Nat} {spare:Nat->Bool} {held:Bool} {t:TypeId} {f0 f1 f2 f3:Field} {fuel:Nat} {cs:List Value} {x:DataW H×List MemPlace} (ht:P.underlying t=some (.struct #[f0,f1,f2,f3]))(h:DataW.trod enc P w base spare held fuel t cs=some x) :
  ∃ y0 y1 y2 y3 n,x=(.agg [y0.1,y1.1,y2.1,y3.1],y0.2 ++ (y1.2 ++ (y2.2 ++ y3.2)))/\DataW.trod enc P w base spare held n f0.type ((cs.drop f0.offset).take (P.cellsOf f0.type))=some y0 /\
   DataW.trod enc P w base spare held n f1.type ((cs.drop f1.offset).take (P.cellsOf f1.type))=some y1/\DataW.trod enc P w base spare held n f2.type ((cs.drop f2.offset).take (P.cellsOf f2.type))=some y2 /\
   DataW.trod enc P w base spare held n f3.type ((cs.drop f3.offset).take (P.cellsOf f3.type))=some y3:=by
 obtain⟨xs,n,_,rfl,hl,hlen,hf⟩:=DataW.trod_struct ht h
 match xs,hlen with
 | [y0,y1,y2,y3],_=>exact⟨y0,y1,y2,y3,n,by simp,by simpa using hf 0 f0 rfl,by simpa using hf 1 f1 rfl,by simpa using hf 2 f2 rfl,by simpa using hf 3 f3 rfl⟩


theorem list4' {α:Type} (l:List α)(h:l.length=4):∃ a b c d,l=[a,b,c,d]:=by
 match l,h with
 | [a,b,c,d],_=>exact⟨a,b,c,d,rfl⟩

theorem row_read {w:World} {fuel:Nat} {enc:TypeId×Value->Unit} {base:Nat} {spare:Nat->Bool} {held:Bool} {l:List Value} {a b c:Int} {s:List UInt8} {p:List MemPlace}
  (h:DataW.trod enc Tryz.prog w base spare held fuel 134 l=some (.agg [.lit (.int .i64 a),.lit (.int .i64 b),.lit (.int .i64 c),.lit (.string s)],p)) (hl:l.length=4) :
  l=[.int .i64 a,.int .i64 b,.int .i64 c,.string ⟨⟨s⟩⟩]:=by
 have h3:Tryz.prog.cellsOf 3=1:=by kernel_rfl
 have h9:Tryz.prog.cellsOf 9=1:=by kernel_rfl
 obtain⟨c0,c1,c2,c3,rfl⟩:=list4' l hl;obtain⟨y0,y1,y2,y3,n,hx,g0,g1,g2,g3⟩:=trod_row4 Tryz.underlying134 h
 simp only [h3,h9] at g0 g1 g2 g3
 obtain⟨x0,e0,k0,w0⟩:=DataW.trod_int Tryz.underlying3 g0;obtain⟨x1,e1,k1,w1⟩:=DataW.trod_int Tryz.underlying3 g1;obtain⟨x2,e2,k2,w2⟩:=DataW.trod_int Tryz.underlying3 g2;obtain⟨x3,e3,k3,w3⟩:=DataW.trod_string Tryz.underlying9 g3
 simp at e0 e1 e2 e3
 subst e0 e1 e2 e3;rw [k0,k1,k2,k3] at hx
 simp at hx
 obtain⟨⟨rfl,rfl,rfl,rfl⟩,_⟩:=hx
 rfl

def laid7:List (String×DataW Unit):=[("abacus/shape.formats",Rows.laid_abacus_shape_formats)]
theorem gTab7:Tryz.prog.globalNamed "abacus/shape.formats"=some 0:=by kernel_rfl
theorem gType7:(Tryz.prog.globals[0]?).map (·.type)=some 176:=by kernel_rfl

theorem of_laid7 {W:World} (h:laidMetH Tryz.prog laid7 W):y6 W:=by
 have hce:Tryz.prog.cellsOf 134=4:=by kernel_rfl
 have hct:Tryz.prog.cellsOf 176=16:=by kernel_rfl
 rw [MakeChecks.laidMetH_plain _ _ _ (by kernel_rfl)] at h;obtain⟨ps,⟨g',t',cs,fuel,p,q,hg',ht',hvar,hd,_,_⟩,_⟩:=h;obtain rfl:=Option.some.inj (gTab7.symm.trans hg');obtain rfl:=Option.some.inj (gType7.symm.trans ht');obtain⟨xs,m,rfl,hx,hl,hxl,hel⟩:=DataW.trod_array Tryz.underlying176 hd;rw [hce] at hel;rw [hct] at hl;have hl2:cs.size=16:=by simpa using hl
 match xs,hxl with
 | [y0,y1,y2,y3],_=>
  have hx1:=congrArg Prod.fst hx
  simp [Rows.laid_abacus_shape_formats] at hx1
  obtain⟨h0,h1,h2,h3⟩:=hx1;have q0:=hel 0 (by decide);have q1:=hel 1 (by decide);have q2:=hel 2 (by decide);have q3:=hel 3 (by decide)
  simp only [List.getElem?_cons_zero,List.getElem?_cons_succ] at q0 q1 q2 q3
  have z0:=row_read (p:=y0.2) (by rw [q0,h0]) (by simp;omega);have z1:=row_read (p:=y1.2) (by rw [q1,h1]) (by simp;omega);have z2:=row_read (p:=y2.2) (by rw [q2,h2]) (by simp;omega);have z3:=row_read (p:=y3.2) (by rw [q3,h3]) (by simp;omega)
  have hcs:∀ i,i<16->cs.toList[i]?=fcells[i]?:=by
   intro i hi;have e0:cs.toList[i]?=(cs.toList.drop (i / 4*4))[i % 4]?:=by rw [List.getElem?_drop];congr 1;omega
   have e1:(cs.toList.drop (i / 4*4))[i % 4]?=((cs.toList.drop (i / 4*4)).take 4)[i % 4]?:=by rw [List.getElem?_take,if_pos (by omega)]
   rw [e0,e1]
   have:i / 4=0∨i / 4=1∨i / 4=2∨i / 4=3:=by omega
   have hj:i % 4=0∨i % 4=1∨i % 4=2∨i % 4=3:=by omega
   have hi2:i=i / 4*4+i % 4:=by omega
   rcases this with e|e|e|e <;> rw [e] at hi2 ⊢ <;> rcases hj with k|k|k|k <;> rw [k] at hi2 ⊢ <;> subst hi2 <;> first|(rw [z0];rfl)|(rw [z1];rfl)|(rw [z2];rfl)|(rw [z3];rfl)
  intro i hi;rw [World.var?_cell gTab7 hvar i,<-hcs i hi]
  simp

theorem door_met7 (os:Os)(args:Array Value):laidMetH Tryz.prog laid7 ((World.doorLaid Tryz.prog 400 os).forCall (fun _ _=>0) ⟨#[],args,[]⟩).memory:=
 laidMetH_of_parts3 (fuel:=8) (laidMet_of_run' 8 (by kernel_rfl) (by kernel_rfl)) (by kernel_rfl) (by kernel_rfl)
end Go.Proofs.YtapikkbifdldfaaGreatDoor
