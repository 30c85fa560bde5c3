/-
  What the functions that the statement reaches return: part 10 (K6, K7, K8).
-/
import Derived.Deep.RegionHeld3
import Derived.Test.YtapikkbifdldfaaGreatDoorFa09
namespace Go.Proofs.YtapikkbifdldfaaGreatDoor
set_option maxRecDepth 100000
set_option maxHeartbeats 40000000
open Go.RowKit WMath
set_option linter.unusedSimpArgs false
set_option linter.unusedVariables false
theorem einf_k {f:Int} (h:y7 f):kE f (eInf f false)=oV f/\eInf f false<340282366920938463463374607431768211456:=by
 have:=enc_k h false (e:=oV f) (t:=0) (Nat.le_refl _) (Nat.two_pow_pos _)
 refine ⟨this.2.2.1,?_⟩;have h2:=this.1
 unfold Fit at h2
 have:=(fm h).2.2.2.2.2.2
 unfold eInf;omega
theorem sb_of {w W:World} {x y:Value} (b:Below w.heap.size w W)(r:W.heap[w.heap.size]?=some (.cells #[x,y] 26)):Below w.heap.size w W/\W.heap[w.heap.size]?=some (.cells #[x,y] 26)/\W.cell? ⟨w.heap.size,0,none⟩=some x/\W.cell? ⟨w.heap.size,1,none⟩=some y:=⟨b,r,zH r 0 _ rfl,zH r 1 _ rfl⟩
theorem sb_call {w W W':World} {x y:Value} (h:Below w.heap.size w W/\W.heap[w.heap.size]?=some (.cells #[x,y] 26)/\W.cell? ⟨w.heap.size,0,none⟩=some x/\W.cell? ⟨w.heap.size,1,none⟩=some y)(b:Below W.heap.size W W'):Below w.heap.size w W'/\W'.heap[w.heap.size]?=some (.cells #[x,y] 26)/\W'.cell? ⟨w.heap.size,0,none⟩=some x/\W'.cell? ⟨w.heap.size,1,none⟩=some y:=sb_of (zW h.1 b) (zC b _ _ _ h.2.1)
theorem sb_al {w W:World} {x y:Value} (h:Below w.heap.size w W/\W.heap[w.heap.size]?=some (.cells #[x,y] 26)/\W.cell? ⟨w.heap.size,0,none⟩=some x/\W.cell? ⟨w.heap.size,1,none⟩=some y)(o:Obj):Below w.heap.size w (W.alloc o)/\(W.alloc o).heap[w.heap.size]?=some (.cells #[x,y] 26)/\(W.alloc o).cell? ⟨w.heap.size,0,none⟩=some x/\(W.alloc o).cell? ⟨w.heap.size,1,none⟩=some y:=sb_call h (yA _ _)
theorem sb_dr {w W:World} {x y:Value} (h:Below w.heap.size w W/\W.heap[w.heap.size]?=some (.cells #[x,y] 26)/\W.cell? ⟨w.heap.size,0,none⟩=some x/\W.cell? ⟨w.heap.size,1,none⟩=some y):Below w.heap.size w W.drew/\W.drew.heap[w.heap.size]?=some (.cells #[x,y] 26)/\W.drew.cell? ⟨w.heap.size,0,none⟩=some x/\W.drew.cell? ⟨w.heap.size,1,none⟩=some y:=⟨h.1.drew,h.2⟩
theorem xH (W:World):W.drew.heap.size=W.heap.size:=rfl
theorem sb_lt {w W:World} {x y:Value} (h:Below w.heap.size w W/\W.heap[w.heap.size]?=some (.cells #[x,y] 26)/\W.cell? ⟨w.heap.size,0,none⟩=some x/\W.cell? ⟨w.heap.size,1,none⟩=some y):w.heap.size<W.heap.size:=World.block_lt_of_cell? W _ h.2.2.1
theorem sb_set {w W:World} {x y v:Value} {g k:Nat} (h:Below w.heap.size w W/\W.heap[w.heap.size]?=some (.cells #[x,y] 26)/\W.cell? ⟨w.heap.size,0,none⟩=some x/\W.cell? ⟨w.heap.size,1,none⟩=some y)(hg:w.heap.size<g):Below w.heap.size w (W.setCell ⟨g,k,none⟩ v)/\(W.setCell ⟨g,k,none⟩ v).heap[w.heap.size]?=some (.cells #[x,y] 26)/\(W.setCell ⟨g,k,none⟩ v).cell? ⟨w.heap.size,0,none⟩=some x/\(W.setCell ⟨g,k,none⟩ v).cell? ⟨w.heap.size,1,none⟩=some y:=
 sb_of (h.1.setCell (by show w.heap.size<=g;omega) _) (by rw [zA (by omega)];exact h.2.1)
theorem sb_fat {w W:World} {x y:Value} (t:xJ w)(h:Below w.heap.size w W/\W.heap[w.heap.size]?=some (.cells #[x,y] 26)/\W.cell? ⟨w.heap.size,0,none⟩=some x/\W.cell? ⟨w.heap.size,1,none⟩=some y):xJ W:=yC t h.1
def RC (w:World)(x y u v:Nat)(W:World)(g:Nat):Prop:=Below w.heap.size w W/\W.heap[w.heap.size]?=some (.cells #[.int .u64 x,.int .u64 y] 26)/\W.heap[g]?=some (.cells #[.int .u64 u,.int .u64 v] 26)/\w.heap.size<g
theorem rc_al {w W:World} {x' y' u v:Nat} (h:Below w.heap.size w W/\W.heap[w.heap.size]?=some (.cells #[.int .u64 (x':Nat),.int .u64 (y':Nat)] 26)/\W.cell? ⟨w.heap.size,0,none⟩=some (.int .u64 (x':Nat))/\W.cell? ⟨w.heap.size,1,none⟩=some (.int .u64 (y':Nat))):RC w x' y' u v (W.alloc (.cells #[.int .u64 u,.int .u64 v] 26)) W.heap.size:=
 ⟨(sb_al h _).1,(sb_al h _).2.1,heap_alloc_last _ _,sb_lt h⟩
theorem rc_set {w W:World} {x' y' u v g:Nat} {a b:Value} (h:Below w.heap.size w W/\W.heap[w.heap.size]?=some (.cells #[.int .u64 (x':Nat),.int .u64 (y':Nat)] 26)/\W.cell? ⟨w.heap.size,0,none⟩=some (.int .u64 (x':Nat))/\W.cell? ⟨w.heap.size,1,none⟩=some (.int .u64 (y':Nat)))(hr:W.heap[g]?=some (.cells #[a,b] 26))(hg:w.heap.size<g):RC w x' y' u v ((W.setCell ⟨g,0,none⟩ (.int .u64 u)).setCell ⟨g,1,none⟩ (.int .u64 v)) g:=
 ⟨(sb_set (sb_set h hg) hg).1,(sb_set (sb_set h hg) hg).2.1,set2_row hr _ _,hg⟩
theorem gen70 {X:Act->World->Prop} {R:World->Nat->Prop} {t0 t1 t2 t3 t4 t5 t7 t8 t9 t10 t11 t12 t13 t14 t15 t16 t17 t18 t19 t20 t21 t22 t23 t24 t25 t26 t27 t28 t29 t30 t31 t32 t33 t34 t35 t36 t37 t38 t39 t40 t41 t42 t43 t44 t45 t46 t47 t48 t49 t50 t51 t52 t53 t54 t55 t56 t57 t58 t59 t60 t61 t62 t63 t64 t65 t66 t67 t68 t69:Value} {d:List Deferred} {W:World} {G:Nat}
  (key:∀ w5 g,R w5 g->X ⟨#[t0,t1,t2,t3,t4,t5,.pointer (some ⟨g,0,none⟩),t7,t8,t9,t10,t11,t12,t13,t14,t15,t16,t17,t18,t19,t20,t21,t22,t23,t24,t25,t26,t27,t28,t29,t30,t31,t32,t33,t34,t35,t36,t37,t38,t39,t40,t41,t42,t43,t44,t45,t46,t47,t48,t49,t50,t51,t52,t53,t54,t55,t56,t57,t58,t59,t60,t61,t62,t63,t64,t65,t66,t67,t68,t69],d⟩ w5) (r:R W G):X ⟨#[t0,t1,t2,t3,t4,t5,.pointer (some ⟨G,0,none⟩),t7,t8,t9,t10,t11,t12,t13,t14,t15,t16,t17,t18,t19,t20,t21,t22,t23,t24,t25,t26,t27,t28,t29,t30,t31,t32,t33,t34,t35,t36,t37,t38,t39,t40,t41,t42,t43,t44,t45,t46,t47,t48,t49,t50,t51,t52,t53,t54,t55,t56,t57,t58,t59,t60,t61,t62,t63,t64,t65,t66,t67,t68,t69],d⟩ W:=key W G r
def xS (n:FuncId)(a:Array Value)(v:Value):Prop:=zY (∀ w:World,xJ w->Calls Tryz.prog n a w fun r w'=>r=.returned v/\Below w.heap.size w w')
theorem kclass_walk (f:Int)(x y e o p u v i j:Nat)(qb neg:Bool)(c:Int)(w:World)
  (KE:xS 128 #[.int .u8 f,.agg #[.int .u64 x,.int .u64 y]] (.int .u64 e))
  (KF:xS 124 #[.int .u8 f,.agg #[.int .u64 x,.int .u64 y]] (.agg #[.int .u64 u,.int .u64 v]))
  (KI:xS 26 #[.int .u8 f,.bool false] (.agg #[.int .u64 i,.int .u64 j]))
  (KO:xS 128 #[.int .u8 f,.agg #[.int .u64 i,.int .u64 j]] (.int .u64 o))
  (KW:xS 178 #[.int .u8 f] (.int .u64 p))
  (KB:xS 114 #[.agg #[.int .u64 u,.int .u64 v],.int .u64 ((p-1:Nat):Int)] (.bool qb))
  (KS:xS 58 #[.int .u8 f,.agg #[.int .u64 x,.int .u64 y]] (.bool neg))
  (hp:IntKind.u64.wrap ((p:Int)-1)=((p-1:Nat):Int))
  (hc:(((e:Int) == (o:Int))=true/\qb=true/\c=9)
   ∨ (((e:Int) == (o:Int))=true/\qb=false/\(((u:Int) == 0)=false∨(u=0/\((v:Int) == 0)=false))/\c=8)
   ∨ (((e:Int) == (o:Int))=true/\qb=false/\u=0/\v=0/\c=if neg then 0 else 7)
   ∨ (((e:Int) == (o:Int))=false/\((e:Int) != 0)=true/\c=if neg then 1 else 6)
   ∨ (((e:Int) == (o:Int))=false/\((e:Int) != 0)=false/\(((u:Int) == 0)=false∨(u=0/\((v:Int) == 0)=false))/\c=if neg then 2 else 5)
   ∨ (((e:Int) == (o:Int))=false/\((e:Int) != 0)=false/\u=0/\v=0/\c=if neg then 3 else 4))
  (hT:xJ w):Calls Tryz.prog 123 #[.int .u8 f,.agg #[.int .u64 x,.int .u64 y]] w fun r w'=>r=.returned (.int .u8 c)/\Below w.heap.size w w':=by
 have TT:=zK hT;clear hT;obtain⟨Aw,B0⟩:=q9 w (Obj.cells #[.int .u64 x,.int .u64 y] 26)
 go_enter Tryz.func123,Tryz.ntmps123
 have S0:=sb_of B0 Aw;go_wp2_with fail
 apply cut7
 ·
  intro key0;have key:=zK key0;clear key0
  go_region_held3 (fun W=>Below w.heap.size w W/\W.heap[w.heap.size]?=some (.cells #[.int .u64 x,.int .u64 y] 26)/\W.cell? ⟨w.heap.size,0,none⟩=some (.int .u64 x)/\W.cell? ⟨w.heap.size,1,none⟩=some (.int .u64 y)) (first|exact sb_dr S0|assumption|exact sb_al (by assumption) _|exact sb_al (sb_dr S0) _|exact sb_set (sb_set (by assumption) (sb_lt (by assumption))) (sb_lt (by assumption))|exact sb_set (sb_set (by assumption) (Nat.lt_succ_self _)) (Nat.lt_succ_self _))
   (first
   | (go_at_call_of 128 (Value.int IntKind.u64 (x:Int));refine (KE.out _ (sb_fat TT.out (by assumption))).mono ?_;rintro r w1 ⟨rfl,b1⟩;have s1:=sb_call (by assumption) b1;(first|have hg:=zC b1 _ _ _ (heap_alloc_last _ _)|have hg:=zC b1 _ _ _ hg|skip);(try simp only [xH,zL] at hg);(first|(have As:=fz (k:=0) hg;have At:=fz (k:=1) hg;have Au:=zH hg 0 _ rfl;have Av:=zH hg 1 _ rfl)|skip);clear b1)
   | (go_at_call 124;refine (KF.out _ (sb_fat TT.out (by assumption))).mono ?_;rintro r w2 ⟨rfl,b1⟩;have s1:=sb_call (by assumption) b1;(first|have hg:=zC b1 _ _ _ (heap_alloc_last _ _)|have hg:=zC b1 _ _ _ hg|skip);(try simp only [xH,zL] at hg);(first|(have As:=fz (k:=0) hg;have At:=fz (k:=1) hg;have Au:=zH hg 0 _ rfl;have Av:=zH hg 1 _ rfl)|skip);clear b1)
   | (go_at_call 26;refine (KI.out _ (sb_fat TT.out (by assumption))).mono ?_;rintro r w3 ⟨rfl,b1⟩;have s1:=sb_call (by assumption) b1;(first|have hg:=zC b1 _ _ _ (heap_alloc_last _ _)|have hg:=zC b1 _ _ _ hg|skip);(try simp only [xH,zL] at hg);(first|(have As:=fz (k:=0) hg;have At:=fz (k:=1) hg;have Au:=zH hg 0 _ rfl;have Av:=zH hg 1 _ rfl)|skip);clear b1)
   | (go_at_call_of 128 (Value.int IntKind.u64 (i:Int));refine (KO.out _ (sb_fat TT.out (by assumption))).mono ?_;rintro r w4 ⟨rfl,b1⟩;have s1:=sb_call (by assumption) b1;(first|have hg:=zC b1 _ _ _ (heap_alloc_last _ _)|have hg:=zC b1 _ _ _ hg|skip);(try simp only [xH,zL] at hg);(first|(have As:=fz (k:=0) hg;have At:=fz (k:=1) hg;have Au:=zH hg 0 _ rfl;have Av:=zH hg 1 _ rfl)|skip);clear b1))
  all_goals
   refine gen70 (R:=RC w x y u v) key.out ?_
   first
    | exact rc_al s1
    | exact rc_set s1 hg (sb_lt (by assumption))
    | exact rc_set s1 hg (Nat.lt_succ_self _)
 rintro w5 t ⟨B5,Aa,Ab,ht⟩;clear B0 Aw S0;obtain⟨Ak,Al⟩:=zN Aa;obtain⟨Am,An⟩:=zN Ab
 rcases hc with ⟨h1,rfl,rfl⟩|⟨h1,rfl,hz|⟨rfl,hz⟩,rfl⟩|⟨h1,rfl,rfl,rfl,hc⟩|⟨h1,h2,hc⟩|⟨h1,h2,hz|⟨rfl,hz⟩,hc⟩|⟨h1,h2,rfl,rfl,hc⟩
 ·
  go_wp2_with fail
  obtain⟨F,hF1,hF2⟩:=yV w5;have fb_0:=fun u=>zH (zC (hF1 u) _ _ _ Aa) 0 _ rfl;have fb_1:=fun u=>zH (zC (hF1 u) _ _ _ Aa) 1 _ rfl;have ft_0:=fun u=>zH (zC (hF1 u) _ _ _ Ab) 0 _ rfl;have ft_1:=fun u=>zH (zC (hF1 u) _ _ _ Ab) 1 _ rfl;have TF:zY (∀ u,xJ (F u)):=zK (fun u=>yC TT.out (zW B5 (hF1 u)));refine z9 F hF2 (by kernel_rfl) (by kernel_rfl) ?_
  repeat first|go_big_quiet_step (first|(go_at_call 178;exact yH hF1 hF2 (KW.out _ (TF.out _)))|(go_at_call 114;exact yH hF1 hF2 (KB.out _ (TF.out _)))|fail)|quiet_step (first|(go_at_call 178;exact yH hF1 hF2 (KW.out _ (TF.out _)))|(go_at_call 114;exact yH hF1 hF2 (KB.out _ (TF.out _)))|fail)
  refine wpQuiet_nil ?_;rintro _ ⟨uW,rfl⟩;have B6:=zW B5 (hF1 uW);obtain⟨Ac,Ad⟩:=z6 (hF1 uW) Aa Ab;obtain⟨w6,hw⟩:∃ V,F uW=V:=⟨_,rfl⟩;rw [hw] at B6 Ac Ad
  try rw [hw]
  clear hw hF1 hF2 B5 fb_0 fb_1 ft_0 ft_1 Aa Ak Al Ab Am An;clear TF;clear F;obtain⟨Ae,Af⟩:=zN Ac;obtain⟨Ag,Ah⟩:=zN Ad;go_wp2
  go_ret
  exact⟨rfl,B6⟩
 ·
  go_wp2_with fail
  obtain⟨F,hF1,hF2⟩:=yV w5;have fb_0:=fun u=>zH (zC (hF1 u) _ _ _ Aa) 0 _ rfl;have fb_1:=fun u=>zH (zC (hF1 u) _ _ _ Aa) 1 _ rfl;have ft_0:=fun u=>zH (zC (hF1 u) _ _ _ Ab) 0 _ rfl;have ft_1:=fun u=>zH (zC (hF1 u) _ _ _ Ab) 1 _ rfl;have TF:zY (∀ u,xJ (F u)):=zK (fun u=>yC TT.out (zW B5 (hF1 u)));refine z9 F hF2 (by kernel_rfl) (by kernel_rfl) ?_
  repeat first|go_big_quiet_step (first|(go_at_call 178;exact yH hF1 hF2 (KW.out _ (TF.out _)))|(go_at_call 114;exact yH hF1 hF2 (KB.out _ (TF.out _)))|fail)|quiet_step (first|(go_at_call 178;exact yH hF1 hF2 (KW.out _ (TF.out _)))|(go_at_call 114;exact yH hF1 hF2 (KB.out _ (TF.out _)))|fail)
  refine wpQuiet_nil ?_;rintro _ ⟨uW,rfl⟩;have B6:=zW B5 (hF1 uW);obtain⟨Ac,Ad⟩:=z6 (hF1 uW) Aa Ab;obtain⟨w6,hw⟩:∃ V,F uW=V:=⟨_,rfl⟩;rw [hw] at B6 Ac Ad
  try rw [hw]
  clear hw hF1 hF2 B5 fb_0 fb_1 ft_0 ft_1 Aa Ak Al Ab Am An;clear TF;clear F;obtain⟨Ae,Af⟩:=zN Ac;obtain⟨Ag,Ah⟩:=zN Ad;go_wp2
  go_ret
  exact⟨rfl,B6⟩
 ·
  go_wp2_with fail
  obtain⟨F,hF1,hF2⟩:=yV w5;have fb_0:=fun u=>zH (zC (hF1 u) _ _ _ Aa) 0 _ rfl;have fb_1:=fun u=>zH (zC (hF1 u) _ _ _ Aa) 1 _ rfl;have ft_0:=fun u=>zH (zC (hF1 u) _ _ _ Ab) 0 _ rfl;have ft_1:=fun u=>zH (zC (hF1 u) _ _ _ Ab) 1 _ rfl;have TF:zY (∀ u,xJ (F u)):=zK (fun u=>yC TT.out (zW B5 (hF1 u)));refine z9 F hF2 (by kernel_rfl) (by kernel_rfl) ?_
  repeat first|go_big_quiet_step (first|(go_at_call 178;exact yH hF1 hF2 (KW.out _ (TF.out _)))|(go_at_call 114;exact yH hF1 hF2 (KB.out _ (TF.out _)))|fail)|quiet_step (first|(go_at_call 178;exact yH hF1 hF2 (KW.out _ (TF.out _)))|(go_at_call 114;exact yH hF1 hF2 (KB.out _ (TF.out _)))|fail)
  refine wpQuiet_nil ?_;rintro _ ⟨uW,rfl⟩;have B6:=zW B5 (hF1 uW);obtain⟨Ac,Ad⟩:=z6 (hF1 uW) Aa Ab;obtain⟨w6,hw⟩:∃ V,F uW=V:=⟨_,rfl⟩;rw [hw] at B6 Ac Ad
  try rw [hw]
  clear hw hF1 hF2 B5 fb_0 fb_1 ft_0 ft_1 Aa Ak Al Ab Am An;clear TF;clear F;obtain⟨Ae,Af⟩:=zN Ac;obtain⟨Ag,Ah⟩:=zN Ad;go_wp2
  go_ret
  exact⟨rfl,B6⟩
 ·
  go_wp2_with fail
  obtain⟨F,hF1,hF2⟩:=yV w5;have fb_0:=fun u=>zH (zC (hF1 u) _ _ _ Aa) 0 _ rfl;have fb_1:=fun u=>zH (zC (hF1 u) _ _ _ Aa) 1 _ rfl;have ft_0:=fun u=>zH (zC (hF1 u) _ _ _ Ab) 0 _ rfl;have ft_1:=fun u=>zH (zC (hF1 u) _ _ _ Ab) 1 _ rfl;have TF:zY (∀ u,xJ (F u)):=zK (fun u=>yC TT.out (zW B5 (hF1 u)));refine z9 F hF2 (by kernel_rfl) (by kernel_rfl) ?_
  repeat first|go_big_quiet_step (first|(go_at_call 178;exact yH hF1 hF2 (KW.out _ (TF.out _)))|(go_at_call 114;exact yH hF1 hF2 (KB.out _ (TF.out _)))|fail)|quiet_step (first|(go_at_call 178;exact yH hF1 hF2 (KW.out _ (TF.out _)))|(go_at_call 114;exact yH hF1 hF2 (KB.out _ (TF.out _)))|fail)
  refine wpQuiet_nil ?_;rintro _ ⟨uW,rfl⟩;have B6:=zW B5 (hF1 uW);obtain⟨Ac,Ad⟩:=z6 (hF1 uW) Aa Ab;obtain⟨w6,hw⟩:∃ V,F uW=V:=⟨_,rfl⟩;rw [hw] at B6 Ac Ad
  try rw [hw]
  clear hw hF1 hF2 B5 fb_0 fb_1 ft_0 ft_1 Aa Ak Al Ab Am An;clear TF;clear F;obtain⟨Ae,Af⟩:=zN Ac;obtain⟨Ag,Ah⟩:=zN Ad;go_wp2_with fail
  refine (KS.out _ (yC TT.out B6)).mono ?_;rintro r w7 ⟨rfl,b7⟩;have B7:Below w.heap.size w w7:=zW B6 b7;obtain⟨Ai,Aj⟩:=z6 b7 Ac Ad;clear b7 B6 Ac Ae Af Ad Ag Ah;obtain⟨Ao,Ap⟩:=zN Ai;obtain⟨Aq,Ar⟩:=zN Aj
  cases neg
  ·
   subst hc;go_wp2
   go_ret
   exact⟨rfl,B7⟩
  ·
   subst hc;go_wp2
   go_ret
   exact⟨rfl,B7⟩
 ·
  go_wp2_with fail
  obtain⟨F,hF1,hF2⟩:=yV w5;have fb_0:=fun u=>zH (zC (hF1 u) _ _ _ Aa) 0 _ rfl;have fb_1:=fun u=>zH (zC (hF1 u) _ _ _ Aa) 1 _ rfl;have ft_0:=fun u=>zH (zC (hF1 u) _ _ _ Ab) 0 _ rfl;have ft_1:=fun u=>zH (zC (hF1 u) _ _ _ Ab) 1 _ rfl;have TF:zY (∀ u,xJ (F u)):=zK (fun u=>yC TT.out (zW B5 (hF1 u)));refine z9 F hF2 (by kernel_rfl) (by kernel_rfl) ?_
  repeat first|go_big_quiet_step (first|(go_at_call 178;exact yH hF1 hF2 (KW.out _ (TF.out _)))|(go_at_call 114;exact yH hF1 hF2 (KB.out _ (TF.out _)))|fail)|quiet_step (first|(go_at_call 178;exact yH hF1 hF2 (KW.out _ (TF.out _)))|(go_at_call 114;exact yH hF1 hF2 (KB.out _ (TF.out _)))|fail)
  refine wpQuiet_nil ?_;rintro _ ⟨uW,rfl⟩;have B6:=zW B5 (hF1 uW);obtain⟨Ac,Ad⟩:=z6 (hF1 uW) Aa Ab;obtain⟨w6,hw⟩:∃ V,F uW=V:=⟨_,rfl⟩;rw [hw] at B6 Ac Ad
  try rw [hw]
  clear hw hF1 hF2 B5 fb_0 fb_1 ft_0 ft_1 Aa Ak Al Ab Am An;clear TF;clear F;obtain⟨Ae,Af⟩:=zN Ac;obtain⟨Ag,Ah⟩:=zN Ad;go_wp2_with fail
  refine (KS.out _ (yC TT.out B6)).mono ?_;rintro r w7 ⟨rfl,b7⟩;have B7:Below w.heap.size w w7:=zW B6 b7;obtain⟨Ai,Aj⟩:=z6 b7 Ac Ad;clear b7 B6 Ac Ae Af Ad Ag Ah;obtain⟨Ao,Ap⟩:=zN Ai;obtain⟨Aq,Ar⟩:=zN Aj
  cases neg
  ·
   subst hc;go_wp2
   go_ret
   exact⟨rfl,B7⟩
  ·
   subst hc;go_wp2
   go_ret
   exact⟨rfl,B7⟩
 ·
  go_wp2_with fail
  obtain⟨F,hF1,hF2⟩:=yV w5;have fb_0:=fun u=>zH (zC (hF1 u) _ _ _ Aa) 0 _ rfl;have fb_1:=fun u=>zH (zC (hF1 u) _ _ _ Aa) 1 _ rfl;have ft_0:=fun u=>zH (zC (hF1 u) _ _ _ Ab) 0 _ rfl;have ft_1:=fun u=>zH (zC (hF1 u) _ _ _ Ab) 1 _ rfl;have TF:zY (∀ u,xJ (F u)):=zK (fun u=>yC TT.out (zW B5 (hF1 u)));refine z9 F hF2 (by kernel_rfl) (by kernel_rfl) ?_
  repeat first|go_big_quiet_step (first|(go_at_call 178;exact yH hF1 hF2 (KW.out _ (TF.out _)))|(go_at_call 114;exact yH hF1 hF2 (KB.out _ (TF.out _)))|fail)|quiet_step (first|(go_at_call 178;exact yH hF1 hF2 (KW.out _ (TF.out _)))|(go_at_call 114;exact yH hF1 hF2 (KB.out _ (TF.out _)))|fail)
  refine wpQuiet_nil ?_;rintro _ ⟨uW,rfl⟩;have B6:=zW B5 (hF1 uW);obtain⟨Ac,Ad⟩:=z6 (hF1 uW) Aa Ab;obtain⟨w6,hw⟩:∃ V,F uW=V:=⟨_,rfl⟩;rw [hw] at B6 Ac Ad
  try rw [hw]
  clear hw hF1 hF2 B5 fb_0 fb_1 ft_0 ft_1 Aa Ak Al Ab Am An;clear TF;clear F;obtain⟨Ae,Af⟩:=zN Ac;obtain⟨Ag,Ah⟩:=zN Ad;go_wp2_with fail
  refine (KS.out _ (yC TT.out B6)).mono ?_;rintro r w7 ⟨rfl,b7⟩;have B7:Below w.heap.size w w7:=zW B6 b7;obtain⟨Ai,Aj⟩:=z6 b7 Ac Ad;clear b7 B6 Ac Ae Af Ad Ag Ah;obtain⟨Ao,Ap⟩:=zN Ai;obtain⟨Aq,Ar⟩:=zN Aj
  cases neg
  ·
   subst hc;go_wp2
   go_ret
   exact⟨rfl,B7⟩
  ·
   subst hc;go_wp2
   go_ret
   exact⟨rfl,B7⟩
 ·
  go_wp2_with fail
  obtain⟨F,hF1,hF2⟩:=yV w5;have fb_0:=fun u=>zH (zC (hF1 u) _ _ _ Aa) 0 _ rfl;have fb_1:=fun u=>zH (zC (hF1 u) _ _ _ Aa) 1 _ rfl;have ft_0:=fun u=>zH (zC (hF1 u) _ _ _ Ab) 0 _ rfl;have ft_1:=fun u=>zH (zC (hF1 u) _ _ _ Ab) 1 _ rfl;have TF:zY (∀ u,xJ (F u)):=zK (fun u=>yC TT.out (zW B5 (hF1 u)));refine z9 F hF2 (by kernel_rfl) (by kernel_rfl) ?_
  repeat first|go_big_quiet_step (first|(go_at_call 178;exact yH hF1 hF2 (KW.out _ (TF.out _)))|(go_at_call 114;exact yH hF1 hF2 (KB.out _ (TF.out _)))|fail)|quiet_step (first|(go_at_call 178;exact yH hF1 hF2 (KW.out _ (TF.out _)))|(go_at_call 114;exact yH hF1 hF2 (KB.out _ (TF.out _)))|fail)
  refine wpQuiet_nil ?_;rintro _ ⟨uW,rfl⟩;have B6:=zW B5 (hF1 uW);obtain⟨Ac,Ad⟩:=z6 (hF1 uW) Aa Ab;obtain⟨w6,hw⟩:∃ V,F uW=V:=⟨_,rfl⟩;rw [hw] at B6 Ac Ad
  try rw [hw]
  clear hw hF1 hF2 B5 fb_0 fb_1 ft_0 ft_1 Aa Ak Al Ab Am An;clear TF;clear F;obtain⟨Ae,Af⟩:=zN Ac;obtain⟨Ag,Ah⟩:=zN Ad;go_wp2_with fail
  refine (KS.out _ (yC TT.out B6)).mono ?_;rintro r w7 ⟨rfl,b7⟩;have B7:Below w.heap.size w w7:=zW B6 b7;obtain⟨Ai,Aj⟩:=z6 b7 Ac Ad;clear b7 B6 Ac Ae Af Ad Ag Ah;obtain⟨Ao,Ap⟩:=zN Ai;obtain⟨Aq,Ar⟩:=zN Aj
  cases neg
  ·
   subst hc;go_wp2
   go_ret
   exact⟨rfl,B7⟩
  ·
   subst hc;go_wp2
   go_ret
   exact⟨rfl,B7⟩
 ·
  go_wp2_with fail
  obtain⟨F,hF1,hF2⟩:=yV w5;have fb_0:=fun u=>zH (zC (hF1 u) _ _ _ Aa) 0 _ rfl;have fb_1:=fun u=>zH (zC (hF1 u) _ _ _ Aa) 1 _ rfl;have ft_0:=fun u=>zH (zC (hF1 u) _ _ _ Ab) 0 _ rfl;have ft_1:=fun u=>zH (zC (hF1 u) _ _ _ Ab) 1 _ rfl;have TF:zY (∀ u,xJ (F u)):=zK (fun u=>yC TT.out (zW B5 (hF1 u)));refine z9 F hF2 (by kernel_rfl) (by kernel_rfl) ?_
  repeat first|go_big_quiet_step (first|(go_at_call 178;exact yH hF1 hF2 (KW.out _ (TF.out _)))|(go_at_call 114;exact yH hF1 hF2 (KB.out _ (TF.out _)))|fail)|quiet_step (first|(go_at_call 178;exact yH hF1 hF2 (KW.out _ (TF.out _)))|(go_at_call 114;exact yH hF1 hF2 (KB.out _ (TF.out _)))|fail)
  refine wpQuiet_nil ?_;rintro _ ⟨uW,rfl⟩;have B6:=zW B5 (hF1 uW);obtain⟨Ac,Ad⟩:=z6 (hF1 uW) Aa Ab;obtain⟨w6,hw⟩:∃ V,F uW=V:=⟨_,rfl⟩;rw [hw] at B6 Ac Ad
  try rw [hw]
  clear hw hF1 hF2 B5 fb_0 fb_1 ft_0 ft_1 Aa Ak Al Ab Am An;clear TF;clear F;obtain⟨Ae,Af⟩:=zN Ac;obtain⟨Ag,Ah⟩:=zN Ad;go_wp2_with fail
  refine (KS.out _ (yC TT.out B6)).mono ?_;rintro r w7 ⟨rfl,b7⟩;have B7:Below w.heap.size w w7:=zW B6 b7;obtain⟨Ai,Aj⟩:=z6 b7 Ac Ad;clear b7 B6 Ac Ae Af Ad Ag Ah;obtain⟨Ao,Ap⟩:=zN Ai;obtain⟨Aq,Ar⟩:=zN Aj
  cases neg
  ·
   subst hc;go_wp2
   go_ret
   exact⟨rfl,B7⟩
  ·
   subst hc;go_wp2
   go_ret
   exact⟨rfl,B7⟩
theorem bv_lt {n u v:Nat} (hn:n<340282366920938463463374607431768211456)(h:qF n=(u,v)):u<18446744073709551616/\v<18446744073709551616/\v+18446744073709551616*u=n:=by
 unfold qF at h
 injection h with h1 h2;omega
theorem k_lt {x y n:Nat} (hx:x<18446744073709551616)(hy:y<18446744073709551616)(hn:y+18446744073709551616*x=n):n<340282366920938463463374607431768211456:=by omega
theorem kclass_is (f:Int)(hf:y7 f)(x y n c:Nat)(hx:x<18446744073709551616)(hy:y<18446744073709551616)(hn:y+18446744073709551616*x=n)(hc:kC f n=c)(w:World)(hT:xJ w):Calls Tryz.prog 123 #[.int .u8 f,.agg #[.int .u64 x,.int .u64 y]] w fun r w'=>r=.returned (.int .u8 c)/\Below w.heap.size w w':=by
 obtain⟨u,v,huv⟩:∃ u v,qF (kT f n)=(u,v):=⟨_,_,rfl⟩;obtain⟨i,j,hij⟩:∃ u v,qF (eInf f false)=(u,v):=⟨_,_,rfl⟩;obtain⟨f1,f2,f3,f4,f5,f6,f7⟩:=fm hf;have tl:=kT_lt (f:=f) n;have tn:kT f n<340282366920938463463374607431768211456:=by rw [f1,Nat.add_mul] at f7;omega
 obtain⟨u1,v1,t1⟩:=bv_lt tn huv;obtain⟨i1,j1,e1⟩:=bv_lt (einf_k hf).2 hij;obtain⟨_,_,_,p4,_⟩:=pV_lim hf;have p1:IntKind.u64.wrap ((pV f:Int)-1)=((pV f-1:Nat):Int):=by rcases hf with rfl|rfl|rfl|rfl <;> decide +kernel
 refine kclass_walk f x y (kE f n) (oV f) (pV f) u v i j (decide (2 ^ (pV f-1)<=kT f n)) (kN f n) _ w
  (zK (fun w hT=>kfield_is f hf x y n _ hx hy hn rfl w hT)) (zK (fun w hT=>kfraction_is f hf x y n u v hx hy hn huv w hT)) (zK (fun w hT=>sk_inf f false hf i j hij w hT))
  (zK (fun w hT=>kfield_is f hf i j _ _ i1 j1 e1 (einf_k hf).1 w hT)) (zK (fun w hT=>kfw f hf _ rfl w hT)) (zK (fun w _=>kbit_is u v _ (pV f-1) _ u1 v1 t1 (by omega) (quiet_of hf _ tl) w))
  (zK (fun w hT=>ksign_is f hf x y n _ hx hy hn rfl w hT)) p1 ?_ hT
 have z1:(kT f n=0->u=0/\v=0)/\(kT f n≠0->(((u:Int) == 0)=false∨(u=0/\((v:Int) == 0)=false))):=by
  refine ⟨fun h=>by omega,fun h=>?_⟩
  by_cases hu:u=0
  ·
   refine Or.inr ⟨hu,?_⟩;simp;omega
  ·
   refine Or.inl ?_;simp;omega
 subst hc
 unfold kC
 by_cases c1:kE f n=oV f
 ·
  have b1:((kE f n:Int) == (oV f:Int))=true:=by rw [c1];simp
  rw [if_pos c1]
  by_cases c2:kT f n=0
  ·
   rw [if_pos c2];refine Or.inr (Or.inr (Or.inl ⟨b1,?_,(z1.1 c2).1,(z1.1 c2).2,?_⟩))
   ·
    rw [c2];exact decide_eq_false (by omega)
   ·
    cases kN f n <;> rfl
  ·
   rw [if_neg c2]
   by_cases c3:2 ^ (pV f-1)<=kT f n
   ·
    rw [if_pos c3];exact Or.inl ⟨b1,decide_eq_true c3,rfl⟩
   ·
    rw [if_neg c3];exact Or.inr (Or.inl ⟨b1,decide_eq_false c3,z1.2 c2,rfl⟩)
 ·
  have b1:((kE f n:Int) == (oV f:Int))=false:=by simp;omega
  rw [if_neg c1]
  by_cases c2:kE f n=0
  ·
   have b2:((kE f n:Int) != 0)=false:=by rw [c2];rfl
   rw [if_neg (by simpa using c2)]
   by_cases c3:kT f n=0
   ·
    rw [if_neg (by simpa using c3)];refine Or.inr (Or.inr (Or.inr (Or.inr (Or.inr ⟨b1,b2,(z1.1 c3).1,(z1.1 c3).2,?_⟩))))
    cases kN f n <;> rfl
   ·
    rw [if_pos (by simpa using c3)];refine Or.inr (Or.inr (Or.inr (Or.inr (Or.inl ⟨b1,b2,z1.2 c3,?_⟩))))
    cases kN f n <;> rfl
  ·
   have b2:((kE f n:Int) != 0)=true:=by simp;omega
   rw [if_pos (by simpa using c2)];refine Or.inr (Or.inr (Or.inr (Or.inl ⟨b1,b2,?_⟩)))
   cases kN f n <;> rfl

theorem fit_iff {f:Int} (hf:y7 f)(n:Nat):((zU n:Nat):Int)<=fW f↔Fit f n:=by
 have h:=yK n (wV f+1);have e:fW f=((wV f+1:Nat):Int):=by rcases hf with rfl|rfl|rfl|rfl <;> decide +kernel
 unfold Fit
 rw [e,Nat.pow_succ,Nat.mul_comm] at *;omega
def okB (f:Int)(n:Nat):Bool:=decide (f<=3/\n<2*2 ^ wV f)
theorem okB_fits (f:Int)(h0:0<=f)(x y n:Nat)(hn:y+18446744073709551616*x=n):fitsB f (x,y)=okB f n:=by
 unfold fitsB okB
 simp only []
 rw [hn]
 by_cases h:f<=3
 ·
  have k:=fit_iff (is4_of h0 h) n
  by_cases h2:Fit f n
  ·
   rw [decide_eq_true h,decide_eq_true (k.2 h2),decide_eq_true ⟨h,h2⟩];rfl
  ·
   rw [decide_eq_false (fun a=>h2 (k.1 a)),Bool.and_false];exact (decide_eq_false (fun a:f<=3/\n<2*2 ^ wV f=>h2 a.2)).symm
 ·
  rw [decide_eq_false h,Bool.false_and];exact (decide_eq_false (fun a:f<=3/\n<2*2 ^ wV f=>h a.1)).symm
theorem sk_fits (f:Int)(x y n:Nat)(o:Bool)(h0:0<=f)(h1:f<=255)(hx:x<18446744073709551616)(hy:y<18446744073709551616)(hn:y+18446744073709551616*x=n)(ho:okB f n=o)(w:World)(hT:xJ w):Calls Tryz.prog 29 #[.int .u8 f,.agg #[.int .u64 x,.int .u64 y]] w fun r w'=>r=.returned (.bool o)/\Below w.heap.size w w':=
 s_fits_is f (x,y) o h0 h1 hx hy (by rw [okB_fits f h0 x y n hn,ho]) w hT
theorem rk_fits (f:Int)(x y n:Nat)(o:Bool)(h0:0<=f)(hx:x<18446744073709551616)(hy:y<18446744073709551616)(hn:y+18446744073709551616*x=n)(ho:okB f n=o)(w:World):Calls Tryz.prog 90 #[.int .u8 f,.agg #[.int .u64 x,.int .u64 y]] w fun r w'=>r=.returned (.bool o)/\Below w.heap.size w w':=
 r_fits_is f (x,y) o h0 hx hy (by rw [okB_fits f h0 x y n hn,ho]) w
theorem okB_yes {f:Int} {n:Nat} (h0:0<=f)(h:okB f n=true):y7 f/\Fit f n:=by
 have:=of_decide_eq_true h
 exact⟨is4_of h0 this.1,this.2⟩

theorem kClass_yes (f:Int)(hf:y7 f)(x y n c:Nat)(hx:x<18446744073709551616)(hy:y<18446744073709551616)(hn:y+18446744073709551616*x=n)(ho:okB f n=true)(hc:kC f n=c)(w:World)(hT:xJ w):Calls Tryz.prog 68 #[.int .u8 f,.agg #[.int .u64 x,.int .u64 y]] w fun r w'=>r=.returned (.tuple #[.int .u8 c,.int .i64 0])/\Below w.heap.size w w':=by
 have f4:=yW hf;have K1:=zK (sk_fits f x y n true f4.1 f4.2.1 hx hy hn ho);have K2:=zK (kclass_is f hf x y n c hx hy hn hc);have TT:=zK hT;clear hT hf hx hy hn ho hc;obtain⟨Ab,B0⟩:=q9 w (Obj.cells #[.int .u64 x,.int .u64 y] 26)
 go_enter Tryz.func68,Tryz.ntmps68
 go_wp2_with fail
 refine (K1.out _ (yC TT.out B0)).mono ?_;rintro r w1 ⟨rfl,b1⟩;have B1:Below w.heap.size w w1:=zW B0 b1;have Aa:=zC b1 _ _ _ Ab;clear b1 B0 Ab;obtain⟨Ac,Ad⟩:=zN Aa;go_wp2_with fail
 refine (K2.out _ (yC TT.out B1)).mono ?_;rintro r w2 ⟨rfl,b2⟩;have B2:Below w.heap.size w w2:=zW B1 b2;have Ae:=zC b2 _ _ _ Aa;clear b2 B1 Aa Ac Ad;obtain⟨Af,Ag⟩:=zN Ae;go_wp2
 go_ret2
 exact⟨rfl,B2⟩
theorem kClass_no (f:Int)(h0:0<=f)(h1:f<=255)(x y n:Nat)(hx:x<18446744073709551616)(hy:y<18446744073709551616)(hn:y+18446744073709551616*x=n)(ho:okB f n=false)(w:World)(hT:xJ w):Calls Tryz.prog 68 #[.int .u8 f,.agg #[.int .u64 x,.int .u64 y]] w fun r w'=>r=.returned (.tuple #[.int .u8 0,.int .i64 2])/\Below w.heap.size w w':=by
 have K1:=zK (sk_fits f x y n false h0 h1 hx hy hn ho);have TT:=zK hT;clear hT hx hy hn ho;obtain⟨Aa,B0⟩:=q9 w (Obj.cells #[.int .u64 x,.int .u64 y] 26)
 go_enter Tryz.func68,Tryz.ntmps68
 go_wp2_with fail
 refine (K1.out _ (yC TT.out B0)).mono ?_;rintro r w1 ⟨rfl,b1⟩;have B1:Below w.heap.size w w1:=zW B0 b1;have Ab:=zC b1 _ _ _ Aa;clear b1 B0 Aa;obtain⟨Ac,Ad⟩:=zN Ab;go_wp2
 go_ret2
 exact⟨rfl,B1⟩

theorem kSign_yes (f:Int)(hf:y7 f)(x y n:Nat)(o:Bool)(hx:x<18446744073709551616)(hy:y<18446744073709551616)(hn:y+18446744073709551616*x=n)(ho:okB f n=true)(hc:kN f n=o)(w:World)(hT:xJ w):Calls Tryz.prog 22 #[.int .u8 f,.agg #[.int .u64 x,.int .u64 y]] w fun r w'=>r=.returned (.bool o)/\Below w.heap.size w w':=by
 have f4:=yW hf;have K1:=zK (sk_fits f x y n true f4.1 f4.2.1 hx hy hn ho);have K2:=zK (ksign_is f hf x y n o hx hy hn hc);have TT:=zK hT;clear hT hf hx hy hn ho hc;obtain⟨Ab,B0⟩:=q9 w (Obj.cells #[.int .u64 x,.int .u64 y] 26)
 go_enter Tryz.func22,Tryz.ntmps22
 go_wp2_with fail
 refine (K1.out _ (yC TT.out B0)).mono ?_;rintro r w1 ⟨rfl,b1⟩;have B1:Below w.heap.size w w1:=zW B0 b1;have Aa:=zC b1 _ _ _ Ab;clear b1 B0 Ab;obtain⟨Ac,Ad⟩:=zN Aa;go_wp2_with fail
 refine (K2.out _ (yC TT.out B1)).mono ?_;rintro r w2 ⟨rfl,b2⟩;have B2:Below w.heap.size w w2:=zW B1 b2;have Ae:=zC b2 _ _ _ Aa;clear b2 B1 Aa Ac Ad;obtain⟨Af,Ag⟩:=zN Ae;go_wp2
 go_ret
 exact⟨rfl,B2⟩
theorem gen_abacusref07_Fields_9 {X:Act->World->Prop} {R:World->Nat->Prop} {t0 t1 t2 t3 t4 t5 t6 t7 t8 t10 t11 t12 t13 t14 t15 t16 t17 t18 t19 t20 t21 t22 t23 t24 t25 t26 t27 t28 t29 t30 t31 t32 t33 t34 t35 t36 t37 t38 t39 t40:Value} {d:List Deferred} {W:World} {G:Nat}
  (key:∀ w5 g,R w5 g->X ⟨#[t0,t1,t2,t3,t4,t5,t6,t7,t8,.pointer (some ⟨g,0,none⟩),t10,t11,t12,t13,t14,t15,t16,t17,t18,t19,t20,t21,t22,t23,t24,t25,t26,t27,t28,t29,t30,t31,t32,t33,t34,t35,t36,t37,t38,t39,t40],d⟩ w5) (r:R W G):X ⟨#[t0,t1,t2,t3,t4,t5,t6,t7,t8,.pointer (some ⟨G,0,none⟩),t10,t11,t12,t13,t14,t15,t16,t17,t18,t19,t20,t21,t22,t23,t24,t25,t26,t27,t28,t29,t30,t31,t32,t33,t34,t35,t36,t37,t38,t39,t40],d⟩ W:=key W G r
theorem gen_abacusref07_Fields_10 {X:Act->World->Prop} {R:World->Nat->Prop} {t0 t1 t2 t3 t4 t5 t6 t7 t8 t9 t11 t12 t13 t14 t15 t16 t17 t18 t19 t20 t21 t22 t23 t24 t25 t26 t27 t28 t29 t30 t31 t32 t33 t34 t35 t36 t37 t38 t39 t40:Value} {d:List Deferred} {W:World} {G:Nat}
  (key:∀ w5 g,R w5 g->X ⟨#[t0,t1,t2,t3,t4,t5,t6,t7,t8,t9,.pointer (some ⟨g,0,none⟩),t11,t12,t13,t14,t15,t16,t17,t18,t19,t20,t21,t22,t23,t24,t25,t26,t27,t28,t29,t30,t31,t32,t33,t34,t35,t36,t37,t38,t39,t40],d⟩ w5) (r:R W G):X ⟨#[t0,t1,t2,t3,t4,t5,t6,t7,t8,t9,.pointer (some ⟨G,0,none⟩),t11,t12,t13,t14,t15,t16,t17,t18,t19,t20,t21,t22,t23,t24,t25,t26,t27,t28,t29,t30,t31,t32,t33,t34,t35,t36,t37,t38,t39,t40],d⟩ W:=key W G r

theorem cnt_of {i:Nat} (h:i<384):yJ (i:Int)=i:=by unfold yJ;omega
theorem and_i64 (a b:Nat)(ha:a<9223372036854775808)(hb:b<9223372036854775808):bits .and .i64 (a:Int) (b:Int)=((a &&& b:Nat):Int):=by
 have hx:a &&& b<2 ^ 63:=Nat.and_lt_two_pow _ (by omega)
 have h1:(BitVec.ofInt 64 (a:Int)).toNat=a:=by
  rw [BitVec.ofInt_natCast,BitVec.toNat_ofNat];exact Nat.mod_eq_of_lt (by omega)
 have h2:(BitVec.ofInt 64 (b:Int)).toNat=b:=by
  rw [BitVec.ofInt_natCast,BitVec.toNat_ofNat];exact Nat.mod_eq_of_lt (by omega)
 show IntKind.i64.wrap ((BitVec.ofInt 64 (a:Int) &&& BitVec.ofInt 64 (b:Int)).toNat:Int)=_
 rw [BitVec.toNat_and,h1,h2,IntKind.wrap_i64];omega
def zZ (n:FuncId)(a:Array Value)(v:Value):Prop:=zY (∀ w:World,Calls Tryz.prog n a w fun r w'=>r=.returned v/\Below w.heap.size w w')
theorem rk_fields (f:Int)(hf:y7 f)(x y n e t:Nat)(neg:Bool)(hx:x<18446744073709551616)(hy:y<18446744073709551616)(hn:y+18446744073709551616*x=n)(hfit:Fit f n)(h1:kN f n=neg)(h2:kE f n=e)(h3:kT f n=t)(w:World) :
  Calls Tryz.prog 92 #[.int .u8 f,.agg #[.int .u64 x,.int .u64 y]] w fun r w'=>r=.returned (.tuple #[.bool neg,.int .i64 (e:Nat),.agg (cw 6 t)])/\Below w.heap.size w w':=by
 have hat:=yD 6;have hz:=yZ;have hff:=yY;have hs0:=jA;have hcs:∀ x,((cw 6 x).size=6)=True:=fun x=>eq_true (z7 6 x);have hx6:=ix6;have f4:=yW hf;obtain⟨p1,p2,p3,p4,p5,p6,p7,p8⟩:=pV_lim hf;have nQ:n<Q:=xX (k_lt hx hy hn);have K1:=zK (rwofbits_is x y n hx hy hn)
 have K2:zZ 122 #[.agg (cw 6 n),.int .i64 (wV f:Nat)] (.bool neg):=zK (fun w=>by
  have h:=rwbit_any n (wV f) (by omega) w;rw [show n.testBit (wV f)=neg by rw [<-h1,Nat.testBit_eq_decide_div_mod_eq];rfl] at h;exact h)
 have K3:zZ 144 #[.int .i64 (pV f:Nat)] (.agg (cw 6 (2 ^ pV f-1))):=zK (fun w=>rwmask_is _ _ (by rw [cnt_of (by omega)]) w);have K4:zZ 143 #[.agg (cw 6 n),.agg (cw 6 (2 ^ pV f-1))] (.agg (cw 6 t)):=zK (fun w=>rwand_is n _ t nQ (by rw [<-h3,Nat.and_two_pow_sub_one_eq_mod];rfl) w);obtain⟨E,hE⟩:∃ E,n / 2 ^ pV f=E:=⟨_,rfl⟩;obtain⟨o,ho⟩:∃ o,decide (n % 2 ^ pV f≠0)=o:=⟨_,rfl⟩;have K5:zZ 145 #[.agg (cw 6 n),.int .i64 (pV f:Nat)] (.tuple #[.agg (cw 6 E),.bool o]):=zK (fun w=>rwright_is n E _ o nQ (by rw [cnt_of (by omega)];exact hE) (by rw [cnt_of (by omega)];exact ho) w)
 have El:E<65536:=by
  rw [<-hE,Nat.div_lt_iff_lt_mul (Nat.two_pow_pos _)]
  unfold Fit at hfit
  have:=(fm hf).1
  have o6:=(fm hf).2.2.2.2.2.1;rw [this] at hfit;have h5:=Nat.mul_le_mul_right (2 ^ pV f) (show 2*(oV f+1)<=65536 by omega);rw [Nat.mul_assoc] at h5;omega
 have wE:wd E 0=E:=by unfold wd;rw [Nat.mul_zero,Nat.pow_zero,Nat.div_one];omega
 have e1:IntKind.i64.wrap ((wd E 0:Nat):Int)=((E:Nat):Int):=by rw [wE,IntKind.wrap_i64];omega
 have e2:bits .and .i64 ((E:Nat):Int) (oV f:Int)=(e:Int):=by
  rw [and_i64 E (oV f) (by omega) (by have:=(fm hf).2.2.2.2.2.1;omega),<-h2]
  unfold kE
  rw [hE]
  have:oV f+1=2 ^ (fW f-fP f).toNat:=by rcases hf with rfl|rfl|rfl|rfl <;> decide +kernel
  rw [this,show oV f=2 ^ (fW f-fP f).toNat-1 by omega,Nat.and_two_pow_sub_one_eq_mod]
 obtain⟨q,hq⟩:∃ q,fW f=q:=⟨_,rfl⟩;obtain⟨p,hp⟩:∃ q,fP f=q:=⟨_,rfl⟩;obtain⟨m,hm⟩:∃ q,fE f=q:=⟨_,rfl⟩;obtain⟨O,hO⟩:∃ q,oV f=q:=⟨_,rfl⟩;have K6:zY (∀ w,Calls Tryz.prog 97 #[.int .u8 f] w fun r w'=>r=.returned (.int .i64 (O:Nat))/\w'=w):=zK (fun w=>r_ones f m _ f4.1 hm (by rw [<-hO,<-hm];rcases hf with rfl|rfl|rfl|rfl <;> decide +kernel) w);have KW:=zK (r_width f q f4.1 hq);have KP:=zK (x6 f p f4.1 hp);obtain⟨a,ha⟩:∃ a,wV f=a:=⟨_,rfl⟩;obtain⟨b,hb⟩:∃ a,pV f=a:=⟨_,rfl⟩;obtain⟨M,hM⟩:∃ a,2 ^ pV f-1=a:=⟨_,rfl⟩;rw [hp,hb] at p2;rw [hq,ha] at p7;rw [hM] at K3 K4;rw [hb] at K3 K5;rw [ha] at K2;rw [hO] at e2;clear El wE hfit hf hx hy hn h1 h2 h3 p1 p3 p4 p5 p6 p8 nQ hE ho hq hp hm hO ha hb hM f4;obtain⟨Am,An,B0⟩:=x7 w (Obj.cells #[.int .u64 x,.int .u64 y] 26) (Obj.cells (cw 6 0) 52)
 go_enter Tryz.func92,Tryz.ntmps92
 go_wp2_with fail
 refine (K1.out _).mono ?_;rintro r w1 ⟨rfl,b1⟩;have B1:Below w.heap.size w w1:=zW B0 b1;obtain⟨Ab,Ac⟩:=z6 b1 Am An;clear b1 B0 Am An;obtain⟨Av,Aw⟩:=zN Ab;have Ax:=zG Ac;have S2:=zK B1.size;have Ao:=yB Ab;have Ap:=yB Ac;have Ad:=heap_alloc_last w1 (Obj.cells (cw 6 n) 52);have B2:=zW B1 (yA w1 (Obj.cells (cw 6 n) 52));obtain⟨Aa,Ae⟩:=z6 (yA w1 (Obj.cells (cw 6 n) 52)) Ab Ac;clear B1 Ab Av Aw Ac Ax;obtain⟨Ay,Az⟩:=zN Aa;have AA:=zG Ae;have AB:=zG Ad;go_wp2_with fail
 obtain⟨F,hF1,hF2⟩:=yV (w1.alloc (Obj.cells (cw 6 n) 52));have fb_0:=fun u=>zH (zC (hF1 u) _ _ _ Aa) 0 _ rfl;have fb_1:=fun u=>zH (zC (hF1 u) _ _ _ Aa) 1 _ rfl;have fz_0:=fun u=>zG (zC (hF1 u) _ _ _ Ae);have fw_0:=fun u=>zG (zC (hF1 u) _ _ _ Ad);refine z9 F hF2 (by kernel_rfl) (by kernel_rfl) ?_
 repeat first|go_big_quiet_step (first|(go_at_call 142;exact quietF0 (KW.out _))|(go_at_call 122;exact yH hF1 hF2 (K2.out _))|fail)|quiet_step (first|(go_at_call 142;exact quietF0 (KW.out _))|(go_at_call 122;exact yH hF1 hF2 (K2.out _))|fail)
 refine wpQuiet_nil ?_;rintro _ ⟨uW,rfl⟩;have B3:=zW B2 (hF1 uW);obtain⟨Af,Ag,Ah⟩:=yI (hF1 uW) Aa Ae Ad;obtain⟨w3,hw⟩:∃ V,F uW=V:=⟨_,rfl⟩;rw [hw] at B3 Af Ag Ah
 try rw [hw]
 clear hw hF1 hF2 B2 fb_0 fb_1 fz_0 fw_0 Aa Ay Az Ae AA Ad AB;clear F;obtain⟨AC,AD⟩:=zN Af;have AE:=zG Ag;have AF:=zG Ah;have sS:zY (∀ W W1:World,(Below w.heap.size w W/\W.heap[w.heap.size]?=some (.cells #[.int .u64 x,.int .u64 y] 26)/\W.heap[w.heap.size+1]?=some (.cells (cw 6 0) 52)/\W.heap[w1.heap.size]?=some (.cells (cw 6 n) 52))->Below W.heap.size W W1->(Below w.heap.size w W1/\W1.heap[w.heap.size]?=some (.cells #[.int .u64 x,.int .u64 y] 26)/\W1.heap[w.heap.size+1]?=some (.cells (cw 6 0) 52)/\W1.heap[w1.heap.size]?=some (.cells (cw 6 n) 52))):=zK (fun W W1 h b=>⟨zW h.1 b,zC b _ _ _ h.2.1,zC b _ _ _ h.2.2.1,zC b _ _ _ h.2.2.2⟩);have sL:zY (∀ W:World,(Below w.heap.size w W/\W.heap[w.heap.size]?=some (.cells #[.int .u64 x,.int .u64 y] 26)/\W.heap[w.heap.size+1]?=some (.cells (cw 6 0) 52)/\W.heap[w1.heap.size]?=some (.cells (cw 6 n) 52))->(w.heap.size<W.heap.size/\w.heap.size+1<W.heap.size/\w1.heap.size<W.heap.size)):=zK (fun W h=>⟨(Array.getElem?_eq_some_iff.1 h.2.1).1,(Array.getElem?_eq_some_iff.1 h.2.2.1).1,(Array.getElem?_eq_some_iff.1 h.2.2.2).1⟩);have sT:zY (∀ (W:World) (gN:Nat) (xA:Array Value),(Below w.heap.size w W/\W.heap[w.heap.size]?=some (.cells #[.int .u64 x,.int .u64 y] 26)/\W.heap[w.heap.size+1]?=some (.cells (cw 6 0) 52)/\W.heap[w1.heap.size]?=some (.cells (cw 6 n) 52))->(w.heap.size<gN/\w.heap.size+1<gN/\w1.heap.size<gN)->(Below w.heap.size w (W.setRow gN xA)/\(W.setRow gN xA).heap[w.heap.size]?=some (.cells #[.int .u64 x,.int .u64 y] 26)/\(W.setRow gN xA).heap[w.heap.size+1]?=some (.cells (cw 6 0) 52)/\(W.setRow gN xA).heap[w1.heap.size]?=some (.cells (cw 6 n) 52))):=zK (fun W gN xA h l=>⟨z8 h.1 (show w.heap.size<=gN by have:=l.1;omega),(zJ (by have:=l.1;omega)).trans h.2.1,(zJ (by have:=l.2.1;omega)).trans h.2.2.1,(zJ (by have:=l.2.2;omega)).trans h.2.2.2⟩);have sC:zY (∀ W:World,(Below w.heap.size w W/\W.heap[w.heap.size]?=some (.cells #[.int .u64 x,.int .u64 y] 26)/\W.heap[w.heap.size+1]?=some (.cells (cw 6 0) 52)/\W.heap[w1.heap.size]?=some (.cells (cw 6 n) 52))->(Below w.heap.size w W/\W.heap[w.heap.size]?=some (.cells #[.int .u64 x,.int .u64 y] 26)/\W.heap[w.heap.size+1]?=some (.cells (cw 6 0) 52)/\W.heap[w1.heap.size]?=some (.cells (cw 6 n) 52)/\W.cell? ⟨w.heap.size,0,none⟩=some (.int .u64 x)/\W.cell? ⟨w.heap.size,1,none⟩=some (.int .u64 y)/\W.cell? ⟨w.heap.size+1,0,none⟩=some (.int .u64 (wd 0 0))/\W.cell? ⟨w.heap.size+1,1,none⟩=some (.int .u64 (wd 0 1))/\W.cell? ⟨w.heap.size+1,2,none⟩=some (.int .u64 (wd 0 2))/\W.cell? ⟨w.heap.size+1,3,none⟩=some (.int .u64 (wd 0 3))/\W.cell? ⟨w.heap.size+1,4,none⟩=some (.int .u64 (wd 0 4))/\W.cell? ⟨w.heap.size+1,5,none⟩=some (.int .u64 (wd 0 5))/\W.cell? ⟨w1.heap.size,0,none⟩=some (.int .u64 (wd n 0))/\W.cell? ⟨w1.heap.size,1,none⟩=some (.int .u64 (wd n 1))/\W.cell? ⟨w1.heap.size,2,none⟩=some (.int .u64 (wd n 2))/\W.cell? ⟨w1.heap.size,3,none⟩=some (.int .u64 (wd n 3))/\W.cell? ⟨w1.heap.size,4,none⟩=some (.int .u64 (wd n 4))/\W.cell? ⟨w1.heap.size,5,none⟩=some (.int .u64 (wd n 5)))):=zK (fun W h=>⟨h.1,h.2.1,h.2.2.1,h.2.2.2,zH (h.2.1) 0 _ rfl,zH (h.2.1) 1 _ rfl,zG (h.2.2.1) 0 (by decide),zG (h.2.2.1) 1 (by decide),zG (h.2.2.1) 2 (by decide),zG (h.2.2.1) 3 (by decide),zG (h.2.2.1) 4 (by decide),zG (h.2.2.1) 5 (by decide),zG (h.2.2.2) 0 (by decide),zG (h.2.2.2) 1 (by decide),zG (h.2.2.2) 2 (by decide),zG (h.2.2.2) 3 (by decide),zG (h.2.2.2) 4 (by decide),zG (h.2.2.2) 5 (by decide)⟩)
 have s0:Below w.heap.size w (w3).drew/\(w3).drew.heap[w.heap.size]?=some (.cells #[.int .u64 x,.int .u64 y] 26)/\(w3).drew.heap[w.heap.size+1]?=some (.cells (cw 6 0) 52)/\(w3).drew.heap[w1.heap.size]?=some (.cells (cw 6 n) 52):=⟨B3.drew,Af,Ag,Ah⟩;clear B3 Af AC AD Ag AE Ah AF;go_wp2_with fail
 apply cut7
 ·
  intro key0;have key:=zK key0;clear key0
  go_region_held3 (fun W=>Below w.heap.size w W/\W.heap[w.heap.size]?=some (.cells #[.int .u64 x,.int .u64 y] 26)/\W.heap[w.heap.size+1]?=some (.cells (cw 6 0) 52)/\W.heap[w1.heap.size]?=some (.cells (cw 6 n) 52)/\W.cell? ⟨w.heap.size,0,none⟩=some (.int .u64 x)/\W.cell? ⟨w.heap.size,1,none⟩=some (.int .u64 y)/\W.cell? ⟨w.heap.size+1,0,none⟩=some (.int .u64 (wd 0 0))/\W.cell? ⟨w.heap.size+1,1,none⟩=some (.int .u64 (wd 0 1))/\W.cell? ⟨w.heap.size+1,2,none⟩=some (.int .u64 (wd 0 2))/\W.cell? ⟨w.heap.size+1,3,none⟩=some (.int .u64 (wd 0 3))/\W.cell? ⟨w.heap.size+1,4,none⟩=some (.int .u64 (wd 0 4))/\W.cell? ⟨w.heap.size+1,5,none⟩=some (.int .u64 (wd 0 5))/\W.cell? ⟨w1.heap.size,0,none⟩=some (.int .u64 (wd n 0))/\W.cell? ⟨w1.heap.size,1,none⟩=some (.int .u64 (wd n 1))/\W.cell? ⟨w1.heap.size,2,none⟩=some (.int .u64 (wd n 2))/\W.cell? ⟨w1.heap.size,3,none⟩=some (.int .u64 (wd n 3))/\W.cell? ⟨w1.heap.size,4,none⟩=some (.int .u64 (wd n 4))/\W.cell? ⟨w1.heap.size,5,none⟩=some (.int .u64 (wd n 5))) (first|exact sC.out _ s1|exact sC.out _ s0|exact sC.out _ (sS.out _ _ s1 (yA _ _))|exact sC.out _ (sS.out _ _ s0 (yA _ _))|exact sC.out _ (sT.out _ _ _ s1 hl))
   (first|(go_at_call 95;(first|refine (KP.out _).mono ?_|refine (KP.out _).mono ?_);rintro r wz ⟨rfl,rfl⟩)|(go_at_call 144;(first|refine (K3.out _).mono ?_|refine (K3.out _).mono ?_);rintro r wq ⟨rfl,bq⟩;(first|(have hg:=zC bq _ _ _ (heap_alloc_last _ _);have hl:=(by first|exact sL.out _ s1|exact sL.out _ s0))|have hg:=zC bq _ _ _ hg|skip);(try simp only [xH,zL] at hg hl);(first|have hst:=xE _ _ (t) 0 hg|skip);have s2:=(by first|exact sS.out _ _ s1 bq|exact sS.out _ _ s0 bq|exact sS.out _ _ (sS.out _ _ s1 (yA _ _)) bq|exact sS.out _ _ (sS.out _ _ s0 (yA _ _)) bq);(try clear s1);have s1:=s2;clear s2 bq)|(go_at_call 143;(first|refine (K4.out _).mono ?_|refine (K4.out _).mono ?_);rintro r wq ⟨rfl,bq⟩;(first|(have hg:=zC bq _ _ _ (heap_alloc_last _ _);have hl:=(by first|exact sL.out _ s1|exact sL.out _ s0))|have hg:=zC bq _ _ _ hg|skip);(try simp only [xH,zL] at hg hl);(first|have hst:=xE _ _ (t) 0 hg|skip);have s2:=(by first|exact sS.out _ _ s1 bq|exact sS.out _ _ s0 bq|exact sS.out _ _ (sS.out _ _ s1 (yA _ _)) bq|exact sS.out _ _ (sS.out _ _ s0 (yA _ _)) bq);(try clear s1);have s1:=s2;clear s2 bq)|fail)
  all_goals
   refine gen_abacusref07_Fields_9 (R:=fun W gN=>(Below w.heap.size w W/\W.heap[w.heap.size]?=some (.cells #[.int .u64 x,.int .u64 y] 26)/\W.heap[w.heap.size+1]?=some (.cells (cw 6 0) 52)/\W.heap[w1.heap.size]?=some (.cells (cw 6 n) 52))/\W.heap[gN]?=some (.cells (cw 6 t) 52)/\(w.heap.size<gN/\w.heap.size+1<gN/\w1.heap.size<gN)) key.out ?_
   first
    | exact⟨sS.out _ _ s1 (yA _ _),heap_alloc_last _ _,sL.out _ s1⟩
    | exact⟨sS.out _ _ s0 (yA _ _),heap_alloc_last _ _,sL.out _ s0⟩
    | exact⟨(sT.out _ _ _ s1 hl),zT hg,hl⟩
 rintro w4 g4 ⟨s1,Ai,l4⟩;have B4:=And.left s1;have Aj:=s1.2.1;have Ak:=s1.2.2.1;have Al:=s1.2.2.2;have H4:=zK l4;clear s0 s1 sS sC sL sT l4;obtain⟨AG,AH⟩:=zN Aj;have AI:=zG Ak;have AJ:=zG Al;have AK:=zG Ai;have sS:zY (∀ W W1:World,(Below w.heap.size w W/\W.heap[w.heap.size]?=some (.cells #[.int .u64 x,.int .u64 y] 26)/\W.heap[w.heap.size+1]?=some (.cells (cw 6 0) 52)/\W.heap[w1.heap.size]?=some (.cells (cw 6 n) 52)/\W.heap[g4]?=some (.cells (cw 6 t) 52))->Below W.heap.size W W1->(Below w.heap.size w W1/\W1.heap[w.heap.size]?=some (.cells #[.int .u64 x,.int .u64 y] 26)/\W1.heap[w.heap.size+1]?=some (.cells (cw 6 0) 52)/\W1.heap[w1.heap.size]?=some (.cells (cw 6 n) 52)/\W1.heap[g4]?=some (.cells (cw 6 t) 52))):=zK (fun W W1 h b=>⟨zW h.1 b,zC b _ _ _ h.2.1,zC b _ _ _ h.2.2.1,zC b _ _ _ h.2.2.2.1,zC b _ _ _ h.2.2.2.2⟩);have sL:zY (∀ W:World,(Below w.heap.size w W/\W.heap[w.heap.size]?=some (.cells #[.int .u64 x,.int .u64 y] 26)/\W.heap[w.heap.size+1]?=some (.cells (cw 6 0) 52)/\W.heap[w1.heap.size]?=some (.cells (cw 6 n) 52)/\W.heap[g4]?=some (.cells (cw 6 t) 52))->(w.heap.size<W.heap.size/\w.heap.size+1<W.heap.size/\w1.heap.size<W.heap.size/\g4<W.heap.size)):=zK (fun W h=>⟨(Array.getElem?_eq_some_iff.1 h.2.1).1,(Array.getElem?_eq_some_iff.1 h.2.2.1).1,(Array.getElem?_eq_some_iff.1 h.2.2.2.1).1,(Array.getElem?_eq_some_iff.1 h.2.2.2.2).1⟩);have sT:zY (∀ (W:World) (gN:Nat) (xA:Array Value),(Below w.heap.size w W/\W.heap[w.heap.size]?=some (.cells #[.int .u64 x,.int .u64 y] 26)/\W.heap[w.heap.size+1]?=some (.cells (cw 6 0) 52)/\W.heap[w1.heap.size]?=some (.cells (cw 6 n) 52)/\W.heap[g4]?=some (.cells (cw 6 t) 52))->(w.heap.size<gN/\w.heap.size+1<gN/\w1.heap.size<gN/\g4<gN)->(Below w.heap.size w (W.setRow gN xA)/\(W.setRow gN xA).heap[w.heap.size]?=some (.cells #[.int .u64 x,.int .u64 y] 26)/\(W.setRow gN xA).heap[w.heap.size+1]?=some (.cells (cw 6 0) 52)/\(W.setRow gN xA).heap[w1.heap.size]?=some (.cells (cw 6 n) 52)/\(W.setRow gN xA).heap[g4]?=some (.cells (cw 6 t) 52))):=zK (fun W gN xA h l=>⟨z8 h.1 (show w.heap.size<=gN by have:=l.1;omega),(zJ (by have:=l.1;omega)).trans h.2.1,(zJ (by have:=l.2.1;omega)).trans h.2.2.1,(zJ (by have:=l.2.2.1;omega)).trans h.2.2.2.1,(zJ (by have:=l.2.2.2;omega)).trans h.2.2.2.2⟩);have sC:zY (∀ W:World,(Below w.heap.size w W/\W.heap[w.heap.size]?=some (.cells #[.int .u64 x,.int .u64 y] 26)/\W.heap[w.heap.size+1]?=some (.cells (cw 6 0) 52)/\W.heap[w1.heap.size]?=some (.cells (cw 6 n) 52)/\W.heap[g4]?=some (.cells (cw 6 t) 52))->(Below w.heap.size w W/\W.heap[w.heap.size]?=some (.cells #[.int .u64 x,.int .u64 y] 26)/\W.heap[w.heap.size+1]?=some (.cells (cw 6 0) 52)/\W.heap[w1.heap.size]?=some (.cells (cw 6 n) 52)/\W.heap[g4]?=some (.cells (cw 6 t) 52)/\W.cell? ⟨w.heap.size,0,none⟩=some (.int .u64 x)/\W.cell? ⟨w.heap.size,1,none⟩=some (.int .u64 y)/\W.cell? ⟨w.heap.size+1,0,none⟩=some (.int .u64 (wd 0 0))/\W.cell? ⟨w.heap.size+1,1,none⟩=some (.int .u64 (wd 0 1))/\W.cell? ⟨w.heap.size+1,2,none⟩=some (.int .u64 (wd 0 2))/\W.cell? ⟨w.heap.size+1,3,none⟩=some (.int .u64 (wd 0 3))/\W.cell? ⟨w.heap.size+1,4,none⟩=some (.int .u64 (wd 0 4))/\W.cell? ⟨w.heap.size+1,5,none⟩=some (.int .u64 (wd 0 5))/\W.cell? ⟨w1.heap.size,0,none⟩=some (.int .u64 (wd n 0))/\W.cell? ⟨w1.heap.size,1,none⟩=some (.int .u64 (wd n 1))/\W.cell? ⟨w1.heap.size,2,none⟩=some (.int .u64 (wd n 2))/\W.cell? ⟨w1.heap.size,3,none⟩=some (.int .u64 (wd n 3))/\W.cell? ⟨w1.heap.size,4,none⟩=some (.int .u64 (wd n 4))/\W.cell? ⟨w1.heap.size,5,none⟩=some (.int .u64 (wd n 5))/\W.cell? ⟨g4,0,none⟩=some (.int .u64 (wd t 0))/\W.cell? ⟨g4,1,none⟩=some (.int .u64 (wd t 1))/\W.cell? ⟨g4,2,none⟩=some (.int .u64 (wd t 2))/\W.cell? ⟨g4,3,none⟩=some (.int .u64 (wd t 3))/\W.cell? ⟨g4,4,none⟩=some (.int .u64 (wd t 4))/\W.cell? ⟨g4,5,none⟩=some (.int .u64 (wd t 5)))):=zK (fun W h=>⟨h.1,h.2.1,h.2.2.1,h.2.2.2.1,h.2.2.2.2,zH (h.2.1) 0 _ rfl,zH (h.2.1) 1 _ rfl,zG (h.2.2.1) 0 (by decide),zG (h.2.2.1) 1 (by decide),zG (h.2.2.1) 2 (by decide),zG (h.2.2.1) 3 (by decide),zG (h.2.2.1) 4 (by decide),zG (h.2.2.1) 5 (by decide),zG (h.2.2.2.1) 0 (by decide),zG (h.2.2.2.1) 1 (by decide),zG (h.2.2.2.1) 2 (by decide),zG (h.2.2.2.1) 3 (by decide),zG (h.2.2.2.1) 4 (by decide),zG (h.2.2.2.1) 5 (by decide),zG (h.2.2.2.2) 0 (by decide),zG (h.2.2.2.2) 1 (by decide),zG (h.2.2.2.2) 2 (by decide),zG (h.2.2.2.2) 3 (by decide),zG (h.2.2.2.2) 4 (by decide),zG (h.2.2.2.2) 5 (by decide)⟩)
 have s0:Below w.heap.size w (w4).drew/\(w4).drew.heap[w.heap.size]?=some (.cells #[.int .u64 x,.int .u64 y] 26)/\(w4).drew.heap[w.heap.size+1]?=some (.cells (cw 6 0) 52)/\(w4).drew.heap[w1.heap.size]?=some (.cells (cw 6 n) 52)/\(w4).drew.heap[g4]?=some (.cells (cw 6 t) 52):=⟨B4.drew,Aj,Ak,Al,Ai⟩;clear B4 Aj AG AH Ak AI Al AJ Ai AK;go_wp2_with fail
 apply cut7
 ·
  intro key0;have key:=zK key0;clear key0
  go_region_held3 (fun W=>Below w.heap.size w W/\W.heap[w.heap.size]?=some (.cells #[.int .u64 x,.int .u64 y] 26)/\W.heap[w.heap.size+1]?=some (.cells (cw 6 0) 52)/\W.heap[w1.heap.size]?=some (.cells (cw 6 n) 52)/\W.heap[g4]?=some (.cells (cw 6 t) 52)/\W.cell? ⟨w.heap.size,0,none⟩=some (.int .u64 x)/\W.cell? ⟨w.heap.size,1,none⟩=some (.int .u64 y)/\W.cell? ⟨w.heap.size+1,0,none⟩=some (.int .u64 (wd 0 0))/\W.cell? ⟨w.heap.size+1,1,none⟩=some (.int .u64 (wd 0 1))/\W.cell? ⟨w.heap.size+1,2,none⟩=some (.int .u64 (wd 0 2))/\W.cell? ⟨w.heap.size+1,3,none⟩=some (.int .u64 (wd 0 3))/\W.cell? ⟨w.heap.size+1,4,none⟩=some (.int .u64 (wd 0 4))/\W.cell? ⟨w.heap.size+1,5,none⟩=some (.int .u64 (wd 0 5))/\W.cell? ⟨w1.heap.size,0,none⟩=some (.int .u64 (wd n 0))/\W.cell? ⟨w1.heap.size,1,none⟩=some (.int .u64 (wd n 1))/\W.cell? ⟨w1.heap.size,2,none⟩=some (.int .u64 (wd n 2))/\W.cell? ⟨w1.heap.size,3,none⟩=some (.int .u64 (wd n 3))/\W.cell? ⟨w1.heap.size,4,none⟩=some (.int .u64 (wd n 4))/\W.cell? ⟨w1.heap.size,5,none⟩=some (.int .u64 (wd n 5))/\W.cell? ⟨g4,0,none⟩=some (.int .u64 (wd t 0))/\W.cell? ⟨g4,1,none⟩=some (.int .u64 (wd t 1))/\W.cell? ⟨g4,2,none⟩=some (.int .u64 (wd t 2))/\W.cell? ⟨g4,3,none⟩=some (.int .u64 (wd t 3))/\W.cell? ⟨g4,4,none⟩=some (.int .u64 (wd t 4))/\W.cell? ⟨g4,5,none⟩=some (.int .u64 (wd t 5))) (first|exact sC.out _ s1|exact sC.out _ s0|exact sC.out _ (sS.out _ _ s1 (yA _ _))|exact sC.out _ (sS.out _ _ s0 (yA _ _))|exact sC.out _ (sT.out _ _ _ s1 hl))
   (first|(go_at_call 95;(first|refine (KP.out _).mono ?_|refine (KP.out _).mono ?_);rintro r wz ⟨rfl,rfl⟩)|(go_at_call 145;(first|refine (K5.out _).mono ?_|refine (K5.out _).mono ?_);rintro r wq ⟨rfl,bq⟩;(first|(have hg:=zC bq _ _ _ (heap_alloc_last _ _);have hl:=(by first|exact sL.out _ s1|exact sL.out _ s0))|have hg:=zC bq _ _ _ hg|skip);(try simp only [xH,zL] at hg hl);(first|have hst:=xE _ _ (E) 0 hg|skip);have s2:=(by first|exact sS.out _ _ s1 bq|exact sS.out _ _ s0 bq|exact sS.out _ _ (sS.out _ _ s1 (yA _ _)) bq|exact sS.out _ _ (sS.out _ _ s0 (yA _ _)) bq);(try clear s1);have s1:=s2;clear s2 bq)|fail)
  all_goals
   refine gen_abacusref07_Fields_10 (R:=fun W gN=>(Below w.heap.size w W/\W.heap[w.heap.size]?=some (.cells #[.int .u64 x,.int .u64 y] 26)/\W.heap[w.heap.size+1]?=some (.cells (cw 6 0) 52)/\W.heap[w1.heap.size]?=some (.cells (cw 6 n) 52)/\W.heap[g4]?=some (.cells (cw 6 t) 52))/\W.heap[gN]?=some (.cells (cw 6 E) 52)/\(w.heap.size<gN/\w.heap.size+1<gN/\w1.heap.size<gN/\g4<gN)) key.out ?_
   first
    | exact⟨sS.out _ _ s1 (yA _ _),heap_alloc_last _ _,sL.out _ s1⟩
    | exact⟨sS.out _ _ s0 (yA _ _),heap_alloc_last _ _,sL.out _ s0⟩
    | exact⟨(sT.out _ _ _ s1 hl),zT hg,hl⟩
 rintro w5 g5 ⟨s1,Aq,l5⟩;have B5:=And.left s1;have Ar:=s1.2.1;have As:=s1.2.2.1;have At:=s1.2.2.2.1;have Au:=s1.2.2.2.2;have H5:=zK l5;clear s0 s1 sS sC sL sT l5;obtain⟨AL,AM⟩:=zN Ar;have AN:=zG As;have AO:=zG At;have AP:=zG Au;have AQ:=zG Aq;have sS:zY (∀ W W1:World,(Below w.heap.size w W/\W.heap[w.heap.size]?=some (.cells #[.int .u64 x,.int .u64 y] 26)/\W.heap[w1.heap.size]?=some (.cells (cw 6 n) 52)/\W.heap[g4]?=some (.cells (cw 6 t) 52)/\W.heap[g5]?=some (.cells (cw 6 E) 52))->Below W.heap.size W W1->(Below w.heap.size w W1/\W1.heap[w.heap.size]?=some (.cells #[.int .u64 x,.int .u64 y] 26)/\W1.heap[w1.heap.size]?=some (.cells (cw 6 n) 52)/\W1.heap[g4]?=some (.cells (cw 6 t) 52)/\W1.heap[g5]?=some (.cells (cw 6 E) 52))):=zK (fun W W1 h b=>⟨zW h.1 b,zC b _ _ _ h.2.1,zC b _ _ _ h.2.2.1,zC b _ _ _ h.2.2.2.1,zC b _ _ _ h.2.2.2.2⟩);have HH:=zK (And.intro S2.out (And.intro Ao.out (And.intro Ap.out (And.intro H4.out H5.out))));have sT:zY (∀ (W:World) (xA:Array Value),(Below w.heap.size w W/\W.heap[w.heap.size]?=some (.cells #[.int .u64 x,.int .u64 y] 26)/\W.heap[w1.heap.size]?=some (.cells (cw 6 n) 52)/\W.heap[g4]?=some (.cells (cw 6 t) 52)/\W.heap[g5]?=some (.cells (cw 6 E) 52))->(Below w.heap.size w (W.setRow (w.heap.size+1) xA)/\(W.setRow (w.heap.size+1) xA).heap[w.heap.size]?=some (.cells #[.int .u64 x,.int .u64 y] 26)/\(W.setRow (w.heap.size+1) xA).heap[w1.heap.size]?=some (.cells (cw 6 n) 52)/\(W.setRow (w.heap.size+1) xA).heap[g4]?=some (.cells (cw 6 t) 52)/\(W.setRow (w.heap.size+1) xA).heap[g5]?=some (.cells (cw 6 E) 52))):=zK (fun W xA h=>⟨z8 h.1 (show w.heap.size<=w.heap.size+1 by first|exact Nat.le_refl _|omega|(have:=HH.out;omega)),(zJ (by first|omega|(have:=HH.out;omega))).trans h.2.1,(zJ (by first|omega|(have:=HH.out;omega))).trans h.2.2.1,(zJ (by first|omega|(have:=HH.out;omega))).trans h.2.2.2.1,(zJ (by first|omega|(have:=HH.out;omega))).trans h.2.2.2.2⟩);have sC:zY (∀ W:World,(Below w.heap.size w W/\W.heap[w.heap.size]?=some (.cells #[.int .u64 x,.int .u64 y] 26)/\W.heap[w1.heap.size]?=some (.cells (cw 6 n) 52)/\W.heap[g4]?=some (.cells (cw 6 t) 52)/\W.heap[g5]?=some (.cells (cw 6 E) 52))->(Below w.heap.size w W/\W.heap[w.heap.size]?=some (.cells #[.int .u64 x,.int .u64 y] 26)/\W.heap[w1.heap.size]?=some (.cells (cw 6 n) 52)/\W.heap[g4]?=some (.cells (cw 6 t) 52)/\W.heap[g5]?=some (.cells (cw 6 E) 52)/\W.cell? ⟨w.heap.size,0,none⟩=some (.int .u64 x)/\W.cell? ⟨w.heap.size,1,none⟩=some (.int .u64 y)/\W.cell? ⟨w1.heap.size,0,none⟩=some (.int .u64 (wd n 0))/\W.cell? ⟨w1.heap.size,1,none⟩=some (.int .u64 (wd n 1))/\W.cell? ⟨w1.heap.size,2,none⟩=some (.int .u64 (wd n 2))/\W.cell? ⟨w1.heap.size,3,none⟩=some (.int .u64 (wd n 3))/\W.cell? ⟨w1.heap.size,4,none⟩=some (.int .u64 (wd n 4))/\W.cell? ⟨w1.heap.size,5,none⟩=some (.int .u64 (wd n 5))/\W.cell? ⟨g4,0,none⟩=some (.int .u64 (wd t 0))/\W.cell? ⟨g4,1,none⟩=some (.int .u64 (wd t 1))/\W.cell? ⟨g4,2,none⟩=some (.int .u64 (wd t 2))/\W.cell? ⟨g4,3,none⟩=some (.int .u64 (wd t 3))/\W.cell? ⟨g4,4,none⟩=some (.int .u64 (wd t 4))/\W.cell? ⟨g4,5,none⟩=some (.int .u64 (wd t 5))/\W.cell? ⟨g5,0,none⟩=some (.int .u64 (wd E 0))/\W.cell? ⟨g5,1,none⟩=some (.int .u64 (wd E 1))/\W.cell? ⟨g5,2,none⟩=some (.int .u64 (wd E 2))/\W.cell? ⟨g5,3,none⟩=some (.int .u64 (wd E 3))/\W.cell? ⟨g5,4,none⟩=some (.int .u64 (wd E 4))/\W.cell? ⟨g5,5,none⟩=some (.int .u64 (wd E 5)))):=zK (fun W h=>⟨h.1,h.2.1,h.2.2.1,h.2.2.2.1,h.2.2.2.2,zH (h.2.1) 0 _ rfl,zH (h.2.1) 1 _ rfl,zG (h.2.2.1) 0 (by decide),zG (h.2.2.1) 1 (by decide),zG (h.2.2.1) 2 (by decide),zG (h.2.2.1) 3 (by decide),zG (h.2.2.1) 4 (by decide),zG (h.2.2.1) 5 (by decide),zG (h.2.2.2.1) 0 (by decide),zG (h.2.2.2.1) 1 (by decide),zG (h.2.2.2.1) 2 (by decide),zG (h.2.2.2.1) 3 (by decide),zG (h.2.2.2.1) 4 (by decide),zG (h.2.2.2.1) 5 (by decide),zG (h.2.2.2.2) 0 (by decide),zG (h.2.2.2.2) 1 (by decide),zG (h.2.2.2.2) 2 (by decide),zG (h.2.2.2.2) 3 (by decide),zG (h.2.2.2.2) 4 (by decide),zG (h.2.2.2.2) 5 (by decide)⟩)
 have s0:Below w.heap.size w (w5).drew/\(w5).drew.heap[w.heap.size]?=some (.cells #[.int .u64 x,.int .u64 y] 26)/\(w5).drew.heap[w1.heap.size]?=some (.cells (cw 6 n) 52)/\(w5).drew.heap[g4]?=some (.cells (cw 6 t) 52)/\(w5).drew.heap[g5]?=some (.cells (cw 6 E) 52):=⟨B5.drew,Ar,At,Au,Aq⟩;have rz:(w5).drew.heap[w.heap.size+1]?=some (.cells (cw 6 0) 52):=As;have hst:=xE (w5).drew (w.heap.size+1) t 0 rz;go_wp2_with fail
 go_region_held3 (fun W=>Below w.heap.size w W/\W.heap[w.heap.size]?=some (.cells #[.int .u64 x,.int .u64 y] 26)/\W.heap[w1.heap.size]?=some (.cells (cw 6 n) 52)/\W.heap[g4]?=some (.cells (cw 6 t) 52)/\W.heap[g5]?=some (.cells (cw 6 E) 52)/\W.cell? ⟨w.heap.size,0,none⟩=some (.int .u64 x)/\W.cell? ⟨w.heap.size,1,none⟩=some (.int .u64 y)/\W.cell? ⟨w1.heap.size,0,none⟩=some (.int .u64 (wd n 0))/\W.cell? ⟨w1.heap.size,1,none⟩=some (.int .u64 (wd n 1))/\W.cell? ⟨w1.heap.size,2,none⟩=some (.int .u64 (wd n 2))/\W.cell? ⟨w1.heap.size,3,none⟩=some (.int .u64 (wd n 3))/\W.cell? ⟨w1.heap.size,4,none⟩=some (.int .u64 (wd n 4))/\W.cell? ⟨w1.heap.size,5,none⟩=some (.int .u64 (wd n 5))/\W.cell? ⟨g4,0,none⟩=some (.int .u64 (wd t 0))/\W.cell? ⟨g4,1,none⟩=some (.int .u64 (wd t 1))/\W.cell? ⟨g4,2,none⟩=some (.int .u64 (wd t 2))/\W.cell? ⟨g4,3,none⟩=some (.int .u64 (wd t 3))/\W.cell? ⟨g4,4,none⟩=some (.int .u64 (wd t 4))/\W.cell? ⟨g4,5,none⟩=some (.int .u64 (wd t 5))/\W.cell? ⟨g5,0,none⟩=some (.int .u64 (wd E 0))/\W.cell? ⟨g5,1,none⟩=some (.int .u64 (wd E 1))/\W.cell? ⟨g5,2,none⟩=some (.int .u64 (wd E 2))/\W.cell? ⟨g5,3,none⟩=some (.int .u64 (wd E 3))/\W.cell? ⟨g5,4,none⟩=some (.int .u64 (wd E 4))/\W.cell? ⟨g5,5,none⟩=some (.int .u64 (wd E 5))) (first|exact sC.out _ s1|exact sC.out _ s0|exact sC.out _ (sT.out _ _ s1)|exact sC.out _ (sT.out _ _ s0))
  (first|(go_at_call 97;(first|refine (K6.out _).mono ?_|refine (K6.out _).mono ?_);rintro r wz ⟨rfl,rfl⟩)|fail)
 have BZ:=(by first|exact And.left s1|exact And.left s0:Below w.heap.size w _);have dz:=zG (zT (c':=cw 6 t) rz);have bz:=z8 (c:=cw 6 t) BZ (show w.heap.size<=w.heap.size+1 by first|exact Nat.le_refl _|omega|(have:=S2.out;have:=Ao.out;have:=Ap.out;have:=H4.out;have:=H5.out;omega));go_wp2
 exact bodyPost_ret (v:=.tuple #[.bool neg,.int .i64 (e:Nat),.agg (cw 6 t)]) (by simp [results,Tryz.results92,go_sem,dz,hff]) rfl ⟨rfl,bz⟩
end Go.Proofs.YtapikkbifdldfaaGreatDoor
