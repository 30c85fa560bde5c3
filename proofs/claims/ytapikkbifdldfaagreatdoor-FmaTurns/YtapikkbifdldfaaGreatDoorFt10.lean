/-
  What the functions that the statement reaches return: part 10 (K5, K6, K7).
-/
import Derived.Deep.RegionHeld3
import Derived.Test.YtapikkbifdldfaaGreatDoorFt09
namespace Go.Proofs.YtapikkbifdldfaaGreatDoor
set_option maxRecDepth 100000
set_option maxHeartbeats 40000000
open Go.RowKit WMath
set_option linter.unusedSimpArgs false
set_option linter.unusedVariables false
theorem xor_words (n m:Nat):xX (n ^^^ m)=(n / 18446744073709551616 ^^^ m / 18446744073709551616,n % 18446744073709551616 ^^^ m % 18446744073709551616):=by
 unfold xX
 rw [show (18446744073709551616:Nat)=2 ^ 64 by decide,Nat.xor_div_two_pow,Nat.xor_mod_two_pow]
theorem words_of {x y n:Nat} (hy:y<18446744073709551616)(hn:y+18446744073709551616*x=n):n / 18446744073709551616=x/\n % 18446744073709551616=y:=by omega
theorem sk_zero (f:Int)(neg:Bool)(hf:y6 f)(u v:Nat)(hv:xX (x5 f neg)=(u,v))(w:World)(hT:xG w):Calls Tryz.prog 21 #[.int .u8 f,.bool neg] w fun r w'=>r=.returned (.agg #[.int .u64 u,.int .u64 v])/\Below w.heap.size w w':=by
 have:=s_zero f neg hf _ rfl w hT
 rw [hv] at this;exact this
theorem sk_inf (f:Int)(neg:Bool)(hf:y6 f)(u v:Nat)(hv:xX (eInf f neg)=(u,v))(w:World)(hT:xG w):Calls Tryz.prog 26 #[.int .u8 f,.bool neg] w fun r w'=>r=.returned (.agg #[.int .u64 u,.int .u64 v])/\Below w.heap.size w w':=by
 have:=s_inf f neg hf _ rfl w hT
 rw [hv] at this;exact this
theorem ezero_is (f:Int):x5 f true=2 ^ wV f:=by unfold x5 jA;rw [if_pos rfl];simp
theorem ksigned_is (f:Int)(hf:y6 f)(x y n u v:Nat)(neg:Bool)(hx:x<18446744073709551616)(hy:y<18446744073709551616)(hn:y+18446744073709551616*x=n)(hv:xX (sgB f n neg)=(u,v))(w:World)(hT:xG w):Calls Tryz.prog 112 #[.int .u8 f,.agg #[.int .u64 x,.int .u64 y],.bool neg] w fun r w'=>r=.returned (.agg #[.int .u64 u,.int .u64 v])/\Below w.heap.size w w':=by
 obtain⟨n1,n2⟩:=words_of hy hn
 unfold sgB at hv
 cases neg
 ·
  simp only [Bool.false_eq_true,if_false] at hv
  unfold xX at hv
  rw [n1,n2] at hv;injection hv with h1 h2;subst h1 h2;clear hn hT hf hx hy n1 n2;obtain⟨Aa,Ab,B0⟩:=xU w (Obj.cells #[.int .u64 x,.int .u64 y] 26) (Obj.cells #[.int .u64 0,.int .u64 0] 26)
  go_enter Tryz.func112,Tryz.ntmps112
  clear B0 Aa Ab;go_wp2
  exact bodyPost_ret (v:=.agg #[.int .u64 x,.int .u64 y]) (by simp [results,Tryz.results112,go_sem]) rfl ⟨rfl,(((Below.refl _ _).alloc (by first|omega|(simp only [zO];omega)) _).alloc (by first|omega|(simp only [zO];omega)) _)⟩
 ·
  rw [if_pos rfl,xor_words,n1,n2] at hv;injection hv with h1 h2;obtain⟨s,t,hst⟩:∃ s t,xX (x5 f true)=(s,t):=⟨_,_,rfl⟩;have KZ:=zJ (sk_zero f true hf s t hst);rw [ezero_is] at hst
  unfold xX at hst
  injection hst with s1 s2;rw [s1] at h1;rw [s2] at h2
  have hs:s<18446744073709551616/\t<18446744073709551616:=by
   have:=(fm hf).2.2.2.2.2.2
   omega
  have a1:bits .xor .u64 (x:Int) (s:Int)=(u:Int):=by rw [<-h1];exact bits_xor_u64_nat x s hx hs.1
  have a2:bits .xor .u64 (y:Int) (t:Int)=(v:Int):=by rw [<-h2];exact bits_xor_u64_nat y t hy hs.2
  have TT:=zJ hT;clear hn hT hf hx hy n1 n2 s1 s2 h1 h2 hs;obtain⟨Aa,Ab,B0⟩:=xU w (Obj.cells #[.int .u64 x,.int .u64 y] 26) (Obj.cells #[.int .u64 0,.int .u64 0] 26)
  go_enter Tryz.func112,Tryz.ntmps112
  go_wp2_with fail
  refine (KZ.out _ (z7 TT.out B0)).mono ?_;rintro r w1 ⟨rfl,b1⟩;have B1:Below w.heap.size w w1:=zW B0 b1;obtain⟨Ac,Ad⟩:=zZ b1 Aa Ab;clear b1 B0 Aa Ab;obtain⟨Af,Ag⟩:=zM Ac;obtain⟨Ah,Ai⟩:=zM Ad;have S2:=zJ B1.size;have Aj:=yC Ac;have Ak:=yC Ad;have Al:=heap_alloc_last w1 (Obj.cells #[.int .u64 s,.int .u64 t] 26);have B2:=zW B1 (z9 w1 (Obj.cells #[.int .u64 s,.int .u64 t] 26));obtain⟨Am,Ae⟩:=zZ (z9 w1 (Obj.cells #[.int .u64 s,.int .u64 t] 26)) Ac Ad;clear B1 Ac Af Ag Ad Ah Ai;obtain⟨An,Ao⟩:=zM Am;obtain⟨Ap,Aq⟩:=zM Ae;obtain⟨Ar,As⟩:=zM Al;have q0:=fz (k:=0) Ae;have q1:=fz (k:=1) Ae;obtain⟨E0,E1⟩:=zQ Ae (.int .u64 u) (.int .u64 v);go_wp2
  exact bodyPost_ret (v:=.agg #[.int .u64 u,.int .u64 v]) (by simp [results,Tryz.results112,go_sem,E0,E1]) rfl ⟨rfl,zN B2 (by first|exact Nat.le_refl _|omega|(have:=S2.out;have:=Aj.out;have:=Ak.out;omega)) _ _⟩

theorem einf_k {f:Int} (h:y6 f):kE f (eInf f false)=oV f/\eInf f false<340282366920938463463374607431768211456:=by
 have:=enc_k h false (e:=oV f) (t:=0) (Nat.le_refl _) (Nat.two_pow_pos _)
 refine ⟨this.2.2.1,?_⟩;have h2:=this.1
 unfold Fit at h2
 have:=(fm h).2.2.2.2.2.2
 unfold eInf;omega
theorem sb_of {w W:World} {x y:Value} (b:Below w.heap.size w W)(r:W.heap[w.heap.size]?=some (.cells #[x,y] 26)):Below w.heap.size w W/\W.heap[w.heap.size]?=some (.cells #[x,y] 26)/\W.cell? ⟨w.heap.size,0,none⟩=some x/\W.cell? ⟨w.heap.size,1,none⟩=some y:=⟨b,r,zI r 0 _ rfl,zI r 1 _ rfl⟩
theorem sb_call {w W W':World} {x y:Value} (h:Below w.heap.size w W/\W.heap[w.heap.size]?=some (.cells #[x,y] 26)/\W.cell? ⟨w.heap.size,0,none⟩=some x/\W.cell? ⟨w.heap.size,1,none⟩=some y)(b:Below W.heap.size W W'):Below w.heap.size w W'/\W'.heap[w.heap.size]?=some (.cells #[x,y] 26)/\W'.cell? ⟨w.heap.size,0,none⟩=some x/\W'.cell? ⟨w.heap.size,1,none⟩=some y:=sb_of (zW h.1 b) (zE b _ _ _ h.2.1)
theorem sb_al {w W:World} {x y:Value} (h:Below w.heap.size w W/\W.heap[w.heap.size]?=some (.cells #[x,y] 26)/\W.cell? ⟨w.heap.size,0,none⟩=some x/\W.cell? ⟨w.heap.size,1,none⟩=some y)(o:Obj):Below w.heap.size w (W.alloc o)/\(W.alloc o).heap[w.heap.size]?=some (.cells #[x,y] 26)/\(W.alloc o).cell? ⟨w.heap.size,0,none⟩=some x/\(W.alloc o).cell? ⟨w.heap.size,1,none⟩=some y:=sb_call h (z9 _ _)
theorem sb_dr {w W:World} {x y:Value} (h:Below w.heap.size w W/\W.heap[w.heap.size]?=some (.cells #[x,y] 26)/\W.cell? ⟨w.heap.size,0,none⟩=some x/\W.cell? ⟨w.heap.size,1,none⟩=some y):Below w.heap.size w W.drew/\W.drew.heap[w.heap.size]?=some (.cells #[x,y] 26)/\W.drew.cell? ⟨w.heap.size,0,none⟩=some x/\W.drew.cell? ⟨w.heap.size,1,none⟩=some y:=⟨h.1.drew,h.2⟩
theorem xI (W:World):W.drew.heap.size=W.heap.size:=rfl
theorem sb_lt {w W:World} {x y:Value} (h:Below w.heap.size w W/\W.heap[w.heap.size]?=some (.cells #[x,y] 26)/\W.cell? ⟨w.heap.size,0,none⟩=some x/\W.cell? ⟨w.heap.size,1,none⟩=some y):w.heap.size<W.heap.size:=World.block_lt_of_cell? W _ h.2.2.1
theorem sb_set {w W:World} {x y v:Value} {g k:Nat} (h:Below w.heap.size w W/\W.heap[w.heap.size]?=some (.cells #[x,y] 26)/\W.cell? ⟨w.heap.size,0,none⟩=some x/\W.cell? ⟨w.heap.size,1,none⟩=some y)(hg:w.heap.size<g):Below w.heap.size w (W.setCell ⟨g,k,none⟩ v)/\(W.setCell ⟨g,k,none⟩ v).heap[w.heap.size]?=some (.cells #[x,y] 26)/\(W.setCell ⟨g,k,none⟩ v).cell? ⟨w.heap.size,0,none⟩=some x/\(W.setCell ⟨g,k,none⟩ v).cell? ⟨w.heap.size,1,none⟩=some y:=
 sb_of (h.1.setCell (by show w.heap.size<=g;omega) _) (by rw [zC (by omega)];exact h.2.1)
theorem sb_fat {w W:World} {x y:Value} (t:xG w)(h:Below w.heap.size w W/\W.heap[w.heap.size]?=some (.cells #[x,y] 26)/\W.cell? ⟨w.heap.size,0,none⟩=some x/\W.cell? ⟨w.heap.size,1,none⟩=some y):xG W:=z7 t h.1
def RC (w:World)(x y u v:Nat)(W:World)(g:Nat):Prop:=Below w.heap.size w W/\W.heap[w.heap.size]?=some (.cells #[.int .u64 x,.int .u64 y] 26)/\W.heap[g]?=some (.cells #[.int .u64 u,.int .u64 v] 26)/\w.heap.size<g
theorem rc_al {w W:World} {x' y' u v:Nat} (h:Below w.heap.size w W/\W.heap[w.heap.size]?=some (.cells #[.int .u64 (x':Nat),.int .u64 (y':Nat)] 26)/\W.cell? ⟨w.heap.size,0,none⟩=some (.int .u64 (x':Nat))/\W.cell? ⟨w.heap.size,1,none⟩=some (.int .u64 (y':Nat))):RC w x' y' u v (W.alloc (.cells #[.int .u64 u,.int .u64 v] 26)) W.heap.size:=
 ⟨(sb_al h _).1,(sb_al h _).2.1,heap_alloc_last _ _,sb_lt h⟩
theorem rc_set {w W:World} {x' y' u v g:Nat} {a b:Value} (h:Below w.heap.size w W/\W.heap[w.heap.size]?=some (.cells #[.int .u64 (x':Nat),.int .u64 (y':Nat)] 26)/\W.cell? ⟨w.heap.size,0,none⟩=some (.int .u64 (x':Nat))/\W.cell? ⟨w.heap.size,1,none⟩=some (.int .u64 (y':Nat)))(hr:W.heap[g]?=some (.cells #[a,b] 26))(hg:w.heap.size<g):RC w x' y' u v ((W.setCell ⟨g,0,none⟩ (.int .u64 u)).setCell ⟨g,1,none⟩ (.int .u64 v)) g:=
 ⟨(sb_set (sb_set h hg) hg).1,(sb_set (sb_set h hg) hg).2.1,xY hr _ _,hg⟩
theorem gen70 {X:Act->World->Prop} {R:World->Nat->Prop} {t0 t1 t2 t3 t4 t5 t7 t8 t9 t10 t11 t12 t13 t14 t15 t16 t17 t18 t19 t20 t21 t22 t23 t24 t25 t26 t27 t28 t29 t30 t31 t32 t33 t34 t35 t36 t37 t38 t39 t40 t41 t42 t43 t44 t45 t46 t47 t48 t49 t50 t51 t52 t53 t54 t55 t56 t57 t58 t59 t60 t61 t62 t63 t64 t65 t66 t67 t68 t69:Value} {d:List Deferred} {W:World} {G:Nat}
  (key:∀ w5 g,R w5 g->X ⟨#[t0,t1,t2,t3,t4,t5,.pointer (some ⟨g,0,none⟩),t7,t8,t9,t10,t11,t12,t13,t14,t15,t16,t17,t18,t19,t20,t21,t22,t23,t24,t25,t26,t27,t28,t29,t30,t31,t32,t33,t34,t35,t36,t37,t38,t39,t40,t41,t42,t43,t44,t45,t46,t47,t48,t49,t50,t51,t52,t53,t54,t55,t56,t57,t58,t59,t60,t61,t62,t63,t64,t65,t66,t67,t68,t69],d⟩ w5) (r:R W G):X ⟨#[t0,t1,t2,t3,t4,t5,.pointer (some ⟨G,0,none⟩),t7,t8,t9,t10,t11,t12,t13,t14,t15,t16,t17,t18,t19,t20,t21,t22,t23,t24,t25,t26,t27,t28,t29,t30,t31,t32,t33,t34,t35,t36,t37,t38,t39,t40,t41,t42,t43,t44,t45,t46,t47,t48,t49,t50,t51,t52,t53,t54,t55,t56,t57,t58,t59,t60,t61,t62,t63,t64,t65,t66,t67,t68,t69],d⟩ W:=key W G r
def xK (n:FuncId)(a:Array Value)(v:Value):Prop:=zY (∀ w:World,xG w->Calls Tryz.prog n a w fun r w'=>r=.returned v/\Below w.heap.size w w')
theorem kclass_walk (f:Int)(x y e o p u v i j:Nat)(qb neg:Bool)(c:Int)(w:World)
  (KE:xK 128 #[.int .u8 f,.agg #[.int .u64 x,.int .u64 y]] (.int .u64 e))
  (KF:xK 124 #[.int .u8 f,.agg #[.int .u64 x,.int .u64 y]] (.agg #[.int .u64 u,.int .u64 v]))
  (KI:xK 26 #[.int .u8 f,.bool false] (.agg #[.int .u64 i,.int .u64 j]))
  (KO:xK 128 #[.int .u8 f,.agg #[.int .u64 i,.int .u64 j]] (.int .u64 o))
  (KW:xK 178 #[.int .u8 f] (.int .u64 p))
  (KB:xK 114 #[.agg #[.int .u64 u,.int .u64 v],.int .u64 ((p-1:Nat):Int)] (.bool qb))
  (KS:xK 58 #[.int .u8 f,.agg #[.int .u64 x,.int .u64 y]] (.bool neg))
  (hp:IntKind.u64.wrap ((p:Int)-1)=((p-1:Nat):Int))
  (hc:(((e:Int) == (o:Int))=true/\qb=true/\c=9)
   ∨ (((e:Int) == (o:Int))=true/\qb=false/\(((u:Int) == 0)=false∨(u=0/\((v:Int) == 0)=false))/\c=8)
   ∨ (((e:Int) == (o:Int))=true/\qb=false/\u=0/\v=0/\c=if neg then 0 else 7)
   ∨ (((e:Int) == (o:Int))=false/\((e:Int) != 0)=true/\c=if neg then 1 else 6)
   ∨ (((e:Int) == (o:Int))=false/\((e:Int) != 0)=false/\(((u:Int) == 0)=false∨(u=0/\((v:Int) == 0)=false))/\c=if neg then 2 else 5)
   ∨ (((e:Int) == (o:Int))=false/\((e:Int) != 0)=false/\u=0/\v=0/\c=if neg then 3 else 4))
  (hT:xG w):Calls Tryz.prog 123 #[.int .u8 f,.agg #[.int .u64 x,.int .u64 y]] w fun r w'=>r=.returned (.int .u8 c)/\Below w.heap.size w w':=by
 have TT:=zJ hT;clear hT;obtain⟨Aw,B0⟩:=jD w (Obj.cells #[.int .u64 x,.int .u64 y] 26)
 go_enter Tryz.func123,Tryz.ntmps123
 have S0:=sb_of B0 Aw;go_wp2_with fail
 apply cut7
 ·
  intro key0;have key:=zJ key0;clear key0
  go_region_held3 (fun W=>Below w.heap.size w W/\W.heap[w.heap.size]?=some (.cells #[.int .u64 x,.int .u64 y] 26)/\W.cell? ⟨w.heap.size,0,none⟩=some (.int .u64 x)/\W.cell? ⟨w.heap.size,1,none⟩=some (.int .u64 y)) (first|exact sb_dr S0|assumption|exact sb_al (by assumption) _|exact sb_al (sb_dr S0) _|exact sb_set (sb_set (by assumption) (sb_lt (by assumption))) (sb_lt (by assumption))|exact sb_set (sb_set (by assumption) (Nat.lt_succ_self _)) (Nat.lt_succ_self _))
   (first
   | (go_at_call_of 128 (Value.int IntKind.u64 (x:Int));refine (KE.out _ (sb_fat TT.out (by assumption))).mono ?_;rintro r w1 ⟨rfl,b1⟩;have s1:=sb_call (by assumption) b1;(first|have hg:=zE b1 _ _ _ (heap_alloc_last _ _)|have hg:=zE b1 _ _ _ hg|skip);(try simp only [xI,zO] at hg);(first|(have As:=fz (k:=0) hg;have At:=fz (k:=1) hg;have Au:=zI hg 0 _ rfl;have Av:=zI hg 1 _ rfl)|skip);clear b1)
   | (go_at_call 124;refine (KF.out _ (sb_fat TT.out (by assumption))).mono ?_;rintro r w2 ⟨rfl,b1⟩;have s1:=sb_call (by assumption) b1;(first|have hg:=zE b1 _ _ _ (heap_alloc_last _ _)|have hg:=zE b1 _ _ _ hg|skip);(try simp only [xI,zO] at hg);(first|(have As:=fz (k:=0) hg;have At:=fz (k:=1) hg;have Au:=zI hg 0 _ rfl;have Av:=zI hg 1 _ rfl)|skip);clear b1)
   | (go_at_call 26;refine (KI.out _ (sb_fat TT.out (by assumption))).mono ?_;rintro r w3 ⟨rfl,b1⟩;have s1:=sb_call (by assumption) b1;(first|have hg:=zE b1 _ _ _ (heap_alloc_last _ _)|have hg:=zE b1 _ _ _ hg|skip);(try simp only [xI,zO] at hg);(first|(have As:=fz (k:=0) hg;have At:=fz (k:=1) hg;have Au:=zI hg 0 _ rfl;have Av:=zI hg 1 _ rfl)|skip);clear b1)
   | (go_at_call_of 128 (Value.int IntKind.u64 (i:Int));refine (KO.out _ (sb_fat TT.out (by assumption))).mono ?_;rintro r w4 ⟨rfl,b1⟩;have s1:=sb_call (by assumption) b1;(first|have hg:=zE b1 _ _ _ (heap_alloc_last _ _)|have hg:=zE b1 _ _ _ hg|skip);(try simp only [xI,zO] at hg);(first|(have As:=fz (k:=0) hg;have At:=fz (k:=1) hg;have Au:=zI hg 0 _ rfl;have Av:=zI hg 1 _ rfl)|skip);clear b1))
  all_goals
   refine gen70 (R:=RC w x y u v) key.out ?_
   first
    | exact rc_al s1
    | exact rc_set s1 hg (sb_lt (by assumption))
    | exact rc_set s1 hg (Nat.lt_succ_self _)
 rintro w5 t ⟨B5,Aa,Ab,ht⟩;clear B0 Aw S0;obtain⟨Ak,Al⟩:=zM Aa;obtain⟨Am,An⟩:=zM Ab
 rcases hc with ⟨h1,rfl,rfl⟩|⟨h1,rfl,hz|⟨rfl,hz⟩,rfl⟩|⟨h1,rfl,rfl,rfl,hc⟩|⟨h1,h2,hc⟩|⟨h1,h2,hz|⟨rfl,hz⟩,hc⟩|⟨h1,h2,rfl,rfl,hc⟩
 ·
  go_wp2_with fail
  obtain⟨F,hF1,hF2⟩:=yW w5;have fb_0:=fun u=>zI (zE (hF1 u) _ _ _ Aa) 0 _ rfl;have fb_1:=fun u=>zI (zE (hF1 u) _ _ _ Aa) 1 _ rfl;have ft_0:=fun u=>zI (zE (hF1 u) _ _ _ Ab) 0 _ rfl;have ft_1:=fun u=>zI (zE (hF1 u) _ _ _ Ab) 1 _ rfl;have TF:zY (∀ u,xG (F u)):=zJ (fun u=>z7 TT.out (zW B5 (hF1 u)));refine yB F hF2 (by kernel_rfl) (by kernel_rfl) ?_
  repeat first|go_big_quiet_step (first|(go_at_call 178;exact yI hF1 hF2 (KW.out _ (TF.out _)))|(go_at_call 114;exact yI hF1 hF2 (KB.out _ (TF.out _)))|fail)|quiet_step (first|(go_at_call 178;exact yI hF1 hF2 (KW.out _ (TF.out _)))|(go_at_call 114;exact yI hF1 hF2 (KB.out _ (TF.out _)))|fail)
  refine wpQuiet_nil ?_;rintro _ ⟨uW,rfl⟩;have B6:=zW B5 (hF1 uW);obtain⟨Ac,Ad⟩:=zZ (hF1 uW) Aa Ab;obtain⟨w6,hw⟩:∃ V,F uW=V:=⟨_,rfl⟩;rw [hw] at B6 Ac Ad
  try rw [hw]
  clear hw hF1 hF2 B5 fb_0 fb_1 ft_0 ft_1 Aa Ak Al Ab Am An;clear TF;clear F;obtain⟨Ae,Af⟩:=zM Ac;obtain⟨Ag,Ah⟩:=zM Ad;go_wp2
  go_ret
  exact⟨rfl,B6⟩
 ·
  go_wp2_with fail
  obtain⟨F,hF1,hF2⟩:=yW w5;have fb_0:=fun u=>zI (zE (hF1 u) _ _ _ Aa) 0 _ rfl;have fb_1:=fun u=>zI (zE (hF1 u) _ _ _ Aa) 1 _ rfl;have ft_0:=fun u=>zI (zE (hF1 u) _ _ _ Ab) 0 _ rfl;have ft_1:=fun u=>zI (zE (hF1 u) _ _ _ Ab) 1 _ rfl;have TF:zY (∀ u,xG (F u)):=zJ (fun u=>z7 TT.out (zW B5 (hF1 u)));refine yB F hF2 (by kernel_rfl) (by kernel_rfl) ?_
  repeat first|go_big_quiet_step (first|(go_at_call 178;exact yI hF1 hF2 (KW.out _ (TF.out _)))|(go_at_call 114;exact yI hF1 hF2 (KB.out _ (TF.out _)))|fail)|quiet_step (first|(go_at_call 178;exact yI hF1 hF2 (KW.out _ (TF.out _)))|(go_at_call 114;exact yI hF1 hF2 (KB.out _ (TF.out _)))|fail)
  refine wpQuiet_nil ?_;rintro _ ⟨uW,rfl⟩;have B6:=zW B5 (hF1 uW);obtain⟨Ac,Ad⟩:=zZ (hF1 uW) Aa Ab;obtain⟨w6,hw⟩:∃ V,F uW=V:=⟨_,rfl⟩;rw [hw] at B6 Ac Ad
  try rw [hw]
  clear hw hF1 hF2 B5 fb_0 fb_1 ft_0 ft_1 Aa Ak Al Ab Am An;clear TF;clear F;obtain⟨Ae,Af⟩:=zM Ac;obtain⟨Ag,Ah⟩:=zM Ad;go_wp2
  go_ret
  exact⟨rfl,B6⟩
 ·
  go_wp2_with fail
  obtain⟨F,hF1,hF2⟩:=yW w5;have fb_0:=fun u=>zI (zE (hF1 u) _ _ _ Aa) 0 _ rfl;have fb_1:=fun u=>zI (zE (hF1 u) _ _ _ Aa) 1 _ rfl;have ft_0:=fun u=>zI (zE (hF1 u) _ _ _ Ab) 0 _ rfl;have ft_1:=fun u=>zI (zE (hF1 u) _ _ _ Ab) 1 _ rfl;have TF:zY (∀ u,xG (F u)):=zJ (fun u=>z7 TT.out (zW B5 (hF1 u)));refine yB F hF2 (by kernel_rfl) (by kernel_rfl) ?_
  repeat first|go_big_quiet_step (first|(go_at_call 178;exact yI hF1 hF2 (KW.out _ (TF.out _)))|(go_at_call 114;exact yI hF1 hF2 (KB.out _ (TF.out _)))|fail)|quiet_step (first|(go_at_call 178;exact yI hF1 hF2 (KW.out _ (TF.out _)))|(go_at_call 114;exact yI hF1 hF2 (KB.out _ (TF.out _)))|fail)
  refine wpQuiet_nil ?_;rintro _ ⟨uW,rfl⟩;have B6:=zW B5 (hF1 uW);obtain⟨Ac,Ad⟩:=zZ (hF1 uW) Aa Ab;obtain⟨w6,hw⟩:∃ V,F uW=V:=⟨_,rfl⟩;rw [hw] at B6 Ac Ad
  try rw [hw]
  clear hw hF1 hF2 B5 fb_0 fb_1 ft_0 ft_1 Aa Ak Al Ab Am An;clear TF;clear F;obtain⟨Ae,Af⟩:=zM Ac;obtain⟨Ag,Ah⟩:=zM Ad;go_wp2
  go_ret
  exact⟨rfl,B6⟩
 ·
  go_wp2_with fail
  obtain⟨F,hF1,hF2⟩:=yW w5;have fb_0:=fun u=>zI (zE (hF1 u) _ _ _ Aa) 0 _ rfl;have fb_1:=fun u=>zI (zE (hF1 u) _ _ _ Aa) 1 _ rfl;have ft_0:=fun u=>zI (zE (hF1 u) _ _ _ Ab) 0 _ rfl;have ft_1:=fun u=>zI (zE (hF1 u) _ _ _ Ab) 1 _ rfl;have TF:zY (∀ u,xG (F u)):=zJ (fun u=>z7 TT.out (zW B5 (hF1 u)));refine yB F hF2 (by kernel_rfl) (by kernel_rfl) ?_
  repeat first|go_big_quiet_step (first|(go_at_call 178;exact yI hF1 hF2 (KW.out _ (TF.out _)))|(go_at_call 114;exact yI hF1 hF2 (KB.out _ (TF.out _)))|fail)|quiet_step (first|(go_at_call 178;exact yI hF1 hF2 (KW.out _ (TF.out _)))|(go_at_call 114;exact yI hF1 hF2 (KB.out _ (TF.out _)))|fail)
  refine wpQuiet_nil ?_;rintro _ ⟨uW,rfl⟩;have B6:=zW B5 (hF1 uW);obtain⟨Ac,Ad⟩:=zZ (hF1 uW) Aa Ab;obtain⟨w6,hw⟩:∃ V,F uW=V:=⟨_,rfl⟩;rw [hw] at B6 Ac Ad
  try rw [hw]
  clear hw hF1 hF2 B5 fb_0 fb_1 ft_0 ft_1 Aa Ak Al Ab Am An;clear TF;clear F;obtain⟨Ae,Af⟩:=zM Ac;obtain⟨Ag,Ah⟩:=zM Ad;go_wp2_with fail
  refine (KS.out _ (z7 TT.out B6)).mono ?_;rintro r w7 ⟨rfl,b7⟩;have B7:Below w.heap.size w w7:=zW B6 b7;obtain⟨Ai,Aj⟩:=zZ b7 Ac Ad;clear b7 B6 Ac Ae Af Ad Ag Ah;obtain⟨Ao,Ap⟩:=zM Ai;obtain⟨Aq,Ar⟩:=zM Aj
  cases neg
  ·
   subst hc;go_wp2
   go_ret
   exact⟨rfl,B7⟩
  ·
   subst hc;go_wp2
   go_ret
   exact⟨rfl,B7⟩
 ·
  go_wp2_with fail
  obtain⟨F,hF1,hF2⟩:=yW w5;have fb_0:=fun u=>zI (zE (hF1 u) _ _ _ Aa) 0 _ rfl;have fb_1:=fun u=>zI (zE (hF1 u) _ _ _ Aa) 1 _ rfl;have ft_0:=fun u=>zI (zE (hF1 u) _ _ _ Ab) 0 _ rfl;have ft_1:=fun u=>zI (zE (hF1 u) _ _ _ Ab) 1 _ rfl;have TF:zY (∀ u,xG (F u)):=zJ (fun u=>z7 TT.out (zW B5 (hF1 u)));refine yB F hF2 (by kernel_rfl) (by kernel_rfl) ?_
  repeat first|go_big_quiet_step (first|(go_at_call 178;exact yI hF1 hF2 (KW.out _ (TF.out _)))|(go_at_call 114;exact yI hF1 hF2 (KB.out _ (TF.out _)))|fail)|quiet_step (first|(go_at_call 178;exact yI hF1 hF2 (KW.out _ (TF.out _)))|(go_at_call 114;exact yI hF1 hF2 (KB.out _ (TF.out _)))|fail)
  refine wpQuiet_nil ?_;rintro _ ⟨uW,rfl⟩;have B6:=zW B5 (hF1 uW);obtain⟨Ac,Ad⟩:=zZ (hF1 uW) Aa Ab;obtain⟨w6,hw⟩:∃ V,F uW=V:=⟨_,rfl⟩;rw [hw] at B6 Ac Ad
  try rw [hw]
  clear hw hF1 hF2 B5 fb_0 fb_1 ft_0 ft_1 Aa Ak Al Ab Am An;clear TF;clear F;obtain⟨Ae,Af⟩:=zM Ac;obtain⟨Ag,Ah⟩:=zM Ad;go_wp2_with fail
  refine (KS.out _ (z7 TT.out B6)).mono ?_;rintro r w7 ⟨rfl,b7⟩;have B7:Below w.heap.size w w7:=zW B6 b7;obtain⟨Ai,Aj⟩:=zZ b7 Ac Ad;clear b7 B6 Ac Ae Af Ad Ag Ah;obtain⟨Ao,Ap⟩:=zM Ai;obtain⟨Aq,Ar⟩:=zM Aj
  cases neg
  ·
   subst hc;go_wp2
   go_ret
   exact⟨rfl,B7⟩
  ·
   subst hc;go_wp2
   go_ret
   exact⟨rfl,B7⟩
 ·
  go_wp2_with fail
  obtain⟨F,hF1,hF2⟩:=yW w5;have fb_0:=fun u=>zI (zE (hF1 u) _ _ _ Aa) 0 _ rfl;have fb_1:=fun u=>zI (zE (hF1 u) _ _ _ Aa) 1 _ rfl;have ft_0:=fun u=>zI (zE (hF1 u) _ _ _ Ab) 0 _ rfl;have ft_1:=fun u=>zI (zE (hF1 u) _ _ _ Ab) 1 _ rfl;have TF:zY (∀ u,xG (F u)):=zJ (fun u=>z7 TT.out (zW B5 (hF1 u)));refine yB F hF2 (by kernel_rfl) (by kernel_rfl) ?_
  repeat first|go_big_quiet_step (first|(go_at_call 178;exact yI hF1 hF2 (KW.out _ (TF.out _)))|(go_at_call 114;exact yI hF1 hF2 (KB.out _ (TF.out _)))|fail)|quiet_step (first|(go_at_call 178;exact yI hF1 hF2 (KW.out _ (TF.out _)))|(go_at_call 114;exact yI hF1 hF2 (KB.out _ (TF.out _)))|fail)
  refine wpQuiet_nil ?_;rintro _ ⟨uW,rfl⟩;have B6:=zW B5 (hF1 uW);obtain⟨Ac,Ad⟩:=zZ (hF1 uW) Aa Ab;obtain⟨w6,hw⟩:∃ V,F uW=V:=⟨_,rfl⟩;rw [hw] at B6 Ac Ad
  try rw [hw]
  clear hw hF1 hF2 B5 fb_0 fb_1 ft_0 ft_1 Aa Ak Al Ab Am An;clear TF;clear F;obtain⟨Ae,Af⟩:=zM Ac;obtain⟨Ag,Ah⟩:=zM Ad;go_wp2_with fail
  refine (KS.out _ (z7 TT.out B6)).mono ?_;rintro r w7 ⟨rfl,b7⟩;have B7:Below w.heap.size w w7:=zW B6 b7;obtain⟨Ai,Aj⟩:=zZ b7 Ac Ad;clear b7 B6 Ac Ae Af Ad Ag Ah;obtain⟨Ao,Ap⟩:=zM Ai;obtain⟨Aq,Ar⟩:=zM Aj
  cases neg
  ·
   subst hc;go_wp2
   go_ret
   exact⟨rfl,B7⟩
  ·
   subst hc;go_wp2
   go_ret
   exact⟨rfl,B7⟩
 ·
  go_wp2_with fail
  obtain⟨F,hF1,hF2⟩:=yW w5;have fb_0:=fun u=>zI (zE (hF1 u) _ _ _ Aa) 0 _ rfl;have fb_1:=fun u=>zI (zE (hF1 u) _ _ _ Aa) 1 _ rfl;have ft_0:=fun u=>zI (zE (hF1 u) _ _ _ Ab) 0 _ rfl;have ft_1:=fun u=>zI (zE (hF1 u) _ _ _ Ab) 1 _ rfl;have TF:zY (∀ u,xG (F u)):=zJ (fun u=>z7 TT.out (zW B5 (hF1 u)));refine yB F hF2 (by kernel_rfl) (by kernel_rfl) ?_
  repeat first|go_big_quiet_step (first|(go_at_call 178;exact yI hF1 hF2 (KW.out _ (TF.out _)))|(go_at_call 114;exact yI hF1 hF2 (KB.out _ (TF.out _)))|fail)|quiet_step (first|(go_at_call 178;exact yI hF1 hF2 (KW.out _ (TF.out _)))|(go_at_call 114;exact yI hF1 hF2 (KB.out _ (TF.out _)))|fail)
  refine wpQuiet_nil ?_;rintro _ ⟨uW,rfl⟩;have B6:=zW B5 (hF1 uW);obtain⟨Ac,Ad⟩:=zZ (hF1 uW) Aa Ab;obtain⟨w6,hw⟩:∃ V,F uW=V:=⟨_,rfl⟩;rw [hw] at B6 Ac Ad
  try rw [hw]
  clear hw hF1 hF2 B5 fb_0 fb_1 ft_0 ft_1 Aa Ak Al Ab Am An;clear TF;clear F;obtain⟨Ae,Af⟩:=zM Ac;obtain⟨Ag,Ah⟩:=zM Ad;go_wp2_with fail
  refine (KS.out _ (z7 TT.out B6)).mono ?_;rintro r w7 ⟨rfl,b7⟩;have B7:Below w.heap.size w w7:=zW B6 b7;obtain⟨Ai,Aj⟩:=zZ b7 Ac Ad;clear b7 B6 Ac Ae Af Ad Ag Ah;obtain⟨Ao,Ap⟩:=zM Ai;obtain⟨Aq,Ar⟩:=zM Aj
  cases neg
  ·
   subst hc;go_wp2
   go_ret
   exact⟨rfl,B7⟩
  ·
   subst hc;go_wp2
   go_ret
   exact⟨rfl,B7⟩
 ·
  go_wp2_with fail
  obtain⟨F,hF1,hF2⟩:=yW w5;have fb_0:=fun u=>zI (zE (hF1 u) _ _ _ Aa) 0 _ rfl;have fb_1:=fun u=>zI (zE (hF1 u) _ _ _ Aa) 1 _ rfl;have ft_0:=fun u=>zI (zE (hF1 u) _ _ _ Ab) 0 _ rfl;have ft_1:=fun u=>zI (zE (hF1 u) _ _ _ Ab) 1 _ rfl;have TF:zY (∀ u,xG (F u)):=zJ (fun u=>z7 TT.out (zW B5 (hF1 u)));refine yB F hF2 (by kernel_rfl) (by kernel_rfl) ?_
  repeat first|go_big_quiet_step (first|(go_at_call 178;exact yI hF1 hF2 (KW.out _ (TF.out _)))|(go_at_call 114;exact yI hF1 hF2 (KB.out _ (TF.out _)))|fail)|quiet_step (first|(go_at_call 178;exact yI hF1 hF2 (KW.out _ (TF.out _)))|(go_at_call 114;exact yI hF1 hF2 (KB.out _ (TF.out _)))|fail)
  refine wpQuiet_nil ?_;rintro _ ⟨uW,rfl⟩;have B6:=zW B5 (hF1 uW);obtain⟨Ac,Ad⟩:=zZ (hF1 uW) Aa Ab;obtain⟨w6,hw⟩:∃ V,F uW=V:=⟨_,rfl⟩;rw [hw] at B6 Ac Ad
  try rw [hw]
  clear hw hF1 hF2 B5 fb_0 fb_1 ft_0 ft_1 Aa Ak Al Ab Am An;clear TF;clear F;obtain⟨Ae,Af⟩:=zM Ac;obtain⟨Ag,Ah⟩:=zM Ad;go_wp2_with fail
  refine (KS.out _ (z7 TT.out B6)).mono ?_;rintro r w7 ⟨rfl,b7⟩;have B7:Below w.heap.size w w7:=zW B6 b7;obtain⟨Ai,Aj⟩:=zZ b7 Ac Ad;clear b7 B6 Ac Ae Af Ad Ag Ah;obtain⟨Ao,Ap⟩:=zM Ai;obtain⟨Aq,Ar⟩:=zM Aj
  cases neg
  ·
   subst hc;go_wp2
   go_ret
   exact⟨rfl,B7⟩
  ·
   subst hc;go_wp2
   go_ret
   exact⟨rfl,B7⟩
theorem bv_lt {n u v:Nat} (hn:n<340282366920938463463374607431768211456)(h:xX n=(u,v)):u<18446744073709551616/\v<18446744073709551616/\v+18446744073709551616*u=n:=by
 unfold xX at h
 injection h with h1 h2;omega
theorem k_lt {x y n:Nat} (hx:x<18446744073709551616)(hy:y<18446744073709551616)(hn:y+18446744073709551616*x=n):n<340282366920938463463374607431768211456:=by omega
theorem kclass_is (f:Int)(hf:y6 f)(x y n c:Nat)(hx:x<18446744073709551616)(hy:y<18446744073709551616)(hn:y+18446744073709551616*x=n)(hc:kC f n=c)(w:World)(hT:xG w):Calls Tryz.prog 123 #[.int .u8 f,.agg #[.int .u64 x,.int .u64 y]] w fun r w'=>r=.returned (.int .u8 c)/\Below w.heap.size w w':=by
 obtain⟨u,v,huv⟩:∃ u v,xX (kT f n)=(u,v):=⟨_,_,rfl⟩;obtain⟨i,j,hij⟩:∃ u v,xX (eInf f false)=(u,v):=⟨_,_,rfl⟩;obtain⟨f1,f2,f3,f4,f5,f6,f7⟩:=fm hf;have tl:=kT_lt (f:=f) n;have tn:kT f n<340282366920938463463374607431768211456:=by rw [f1,Nat.add_mul] at f7;omega
 obtain⟨u1,v1,t1⟩:=bv_lt tn huv;obtain⟨i1,j1,e1⟩:=bv_lt (einf_k hf).2 hij;obtain⟨_,_,_,p4,_⟩:=pV_lim hf;have p1:IntKind.u64.wrap ((pV f:Int)-1)=((pV f-1:Nat):Int):=by rcases hf with rfl|rfl|rfl|rfl <;> decide +kernel
 refine kclass_walk f x y (kE f n) (oV f) (pV f) u v i j (decide (2 ^ (pV f-1)<=kT f n)) (kN f n) _ w
  (zJ (fun w hT=>kfield_is f hf x y n _ hx hy hn rfl w hT)) (zJ (fun w hT=>kfraction_is f hf x y n u v hx hy hn huv w hT)) (zJ (fun w hT=>sk_inf f false hf i j hij w hT))
  (zJ (fun w hT=>kfield_is f hf i j _ _ i1 j1 e1 (einf_k hf).1 w hT)) (zJ (fun w hT=>kfw f hf _ rfl w hT)) (zJ (fun w _=>kbit_is u v _ (pV f-1) _ u1 v1 t1 (by omega) (quiet_of hf _ tl) w))
  (zJ (fun w hT=>ksign_is f hf x y n _ hx hy hn rfl w hT)) p1 ?_ hT
 have z1:(kT f n=0->u=0/\v=0)/\(kT f n≠0->(((u:Int) == 0)=false∨(u=0/\((v:Int) == 0)=false))):=by
  refine ⟨fun h=>by omega,fun h=>?_⟩
  by_cases hu:u=0
  ·
   refine Or.inr ⟨hu,?_⟩;simp;omega
  ·
   refine Or.inl ?_;simp;omega
 subst hc
 unfold kC
 by_cases c1:kE f n=oV f
 ·
  have b1:((kE f n:Int) == (oV f:Int))=true:=by rw [c1];simp
  rw [if_pos c1]
  by_cases c2:kT f n=0
  ·
   rw [if_pos c2];refine Or.inr (Or.inr (Or.inl ⟨b1,?_,(z1.1 c2).1,(z1.1 c2).2,?_⟩))
   ·
    rw [c2];exact decide_eq_false (by omega)
   ·
    cases kN f n <;> rfl
  ·
   rw [if_neg c2]
   by_cases c3:2 ^ (pV f-1)<=kT f n
   ·
    rw [if_pos c3];exact Or.inl ⟨b1,decide_eq_true c3,rfl⟩
   ·
    rw [if_neg c3];exact Or.inr (Or.inl ⟨b1,decide_eq_false c3,z1.2 c2,rfl⟩)
 ·
  have b1:((kE f n:Int) == (oV f:Int))=false:=by simp;omega
  rw [if_neg c1]
  by_cases c2:kE f n=0
  ·
   have b2:((kE f n:Int) != 0)=false:=by rw [c2];rfl
   rw [if_neg (by simpa using c2)]
   by_cases c3:kT f n=0
   ·
    rw [if_neg (by simpa using c3)];refine Or.inr (Or.inr (Or.inr (Or.inr (Or.inr ⟨b1,b2,(z1.1 c3).1,(z1.1 c3).2,?_⟩))))
    cases kN f n <;> rfl
   ·
    rw [if_pos (by simpa using c3)];refine Or.inr (Or.inr (Or.inr (Or.inr (Or.inl ⟨b1,b2,z1.2 c3,?_⟩))))
    cases kN f n <;> rfl
  ·
   have b2:((kE f n:Int) != 0)=true:=by simp;omega
   rw [if_pos (by simpa using c2)];refine Or.inr (Or.inr (Or.inr (Or.inl ⟨b1,b2,?_⟩)))
   cases kN f n <;> rfl

theorem fit_iff {f:Int} (hf:y6 f)(n:Nat):((zU n:Nat):Int)<=fW f↔Fit f n:=by
 have h:=yK n (wV f+1);have e:fW f=((wV f+1:Nat):Int):=by rcases hf with rfl|rfl|rfl|rfl <;> decide +kernel
 unfold Fit
 rw [e,Nat.pow_succ,Nat.mul_comm] at *;omega
def okB (f:Int)(n:Nat):Bool:=decide (f<=3/\n<2*2 ^ wV f)
theorem okB_fits (f:Int)(h0:0<=f)(x y n:Nat)(hn:y+18446744073709551616*x=n):fitsB f (x,y)=okB f n:=by
 unfold fitsB okB
 simp only []
 rw [hn]
 by_cases h:f<=3
 ·
  have k:=fit_iff (is4_of h0 h) n
  by_cases h2:Fit f n
  ·
   rw [decide_eq_true h,decide_eq_true (k.2 h2),decide_eq_true ⟨h,h2⟩];rfl
  ·
   rw [decide_eq_false (fun a=>h2 (k.1 a)),Bool.and_false];exact (decide_eq_false (fun a:f<=3/\n<2*2 ^ wV f=>h2 a.2)).symm
 ·
  rw [decide_eq_false h,Bool.false_and];exact (decide_eq_false (fun a:f<=3/\n<2*2 ^ wV f=>h a.1)).symm
theorem sk_fits (f:Int)(x y n:Nat)(o:Bool)(h0:0<=f)(h1:f<=255)(hx:x<18446744073709551616)(hy:y<18446744073709551616)(hn:y+18446744073709551616*x=n)(ho:okB f n=o)(w:World)(hT:xG w):Calls Tryz.prog 29 #[.int .u8 f,.agg #[.int .u64 x,.int .u64 y]] w fun r w'=>r=.returned (.bool o)/\Below w.heap.size w w':=
 s_fits_is f (x,y) o h0 h1 hx hy (by rw [okB_fits f h0 x y n hn,ho]) w hT
theorem rk_fits (f:Int)(x y n:Nat)(o:Bool)(h0:0<=f)(hx:x<18446744073709551616)(hy:y<18446744073709551616)(hn:y+18446744073709551616*x=n)(ho:okB f n=o)(w:World):Calls Tryz.prog 90 #[.int .u8 f,.agg #[.int .u64 x,.int .u64 y]] w fun r w'=>r=.returned (.bool o)/\Below w.heap.size w w':=
 r_fits_is f (x,y) o h0 hx hy (by rw [okB_fits f h0 x y n hn,ho]) w
theorem qG {f:Int} {n:Nat} (h0:0<=f)(h:okB f n=true):y6 f/\Fit f n:=by
 have:=of_decide_eq_true h
 exact⟨is4_of h0 this.1,this.2⟩

theorem kClass_yes (f:Int)(hf:y6 f)(x y n c:Nat)(hx:x<18446744073709551616)(hy:y<18446744073709551616)(hn:y+18446744073709551616*x=n)(ho:okB f n=true)(hc:kC f n=c)(w:World)(hT:xG w):Calls Tryz.prog 68 #[.int .u8 f,.agg #[.int .u64 x,.int .u64 y]] w fun r w'=>r=.returned (.tuple #[.int .u8 c,.int .i64 0])/\Below w.heap.size w w':=by
 have f4:=yP hf;have K1:=zJ (sk_fits f x y n true f4.1 f4.2.1 hx hy hn ho);have K2:=zJ (kclass_is f hf x y n c hx hy hn hc);have TT:=zJ hT;clear hT hf hx hy hn ho hc;obtain⟨Ab,B0⟩:=jD w (Obj.cells #[.int .u64 x,.int .u64 y] 26)
 go_enter Tryz.func68,Tryz.ntmps68
 go_wp2_with fail
 refine (K1.out _ (z7 TT.out B0)).mono ?_;rintro r w1 ⟨rfl,b1⟩;have B1:Below w.heap.size w w1:=zW B0 b1;have Aa:=zE b1 _ _ _ Ab;clear b1 B0 Ab;obtain⟨Ac,Ad⟩:=zM Aa;go_wp2_with fail
 refine (K2.out _ (z7 TT.out B1)).mono ?_;rintro r w2 ⟨rfl,b2⟩;have B2:Below w.heap.size w w2:=zW B1 b2;have Ae:=zE b2 _ _ _ Aa;clear b2 B1 Aa Ac Ad;obtain⟨Af,Ag⟩:=zM Ae;go_wp2
 go_ret2
 exact⟨rfl,B2⟩
theorem kClass_no (f:Int)(h0:0<=f)(h1:f<=255)(x y n:Nat)(hx:x<18446744073709551616)(hy:y<18446744073709551616)(hn:y+18446744073709551616*x=n)(ho:okB f n=false)(w:World)(hT:xG w):Calls Tryz.prog 68 #[.int .u8 f,.agg #[.int .u64 x,.int .u64 y]] w fun r w'=>r=.returned (.tuple #[.int .u8 0,.int .i64 2])/\Below w.heap.size w w':=by
 have K1:=zJ (sk_fits f x y n false h0 h1 hx hy hn ho);have TT:=zJ hT;clear hT hx hy hn ho;obtain⟨Aa,B0⟩:=jD w (Obj.cells #[.int .u64 x,.int .u64 y] 26)
 go_enter Tryz.func68,Tryz.ntmps68
 go_wp2_with fail
 refine (K1.out _ (z7 TT.out B0)).mono ?_;rintro r w1 ⟨rfl,b1⟩;have B1:Below w.heap.size w w1:=zW B0 b1;have Ab:=zE b1 _ _ _ Aa;clear b1 B0 Aa;obtain⟨Ac,Ad⟩:=zM Ab;go_wp2
 go_ret2
 exact⟨rfl,B1⟩

theorem kSign_yes (f:Int)(hf:y6 f)(x y n:Nat)(o:Bool)(hx:x<18446744073709551616)(hy:y<18446744073709551616)(hn:y+18446744073709551616*x=n)(ho:okB f n=true)(hc:kN f n=o)(w:World)(hT:xG w):Calls Tryz.prog 22 #[.int .u8 f,.agg #[.int .u64 x,.int .u64 y]] w fun r w'=>r=.returned (.bool o)/\Below w.heap.size w w':=by
 have f4:=yP hf;have K1:=zJ (sk_fits f x y n true f4.1 f4.2.1 hx hy hn ho);have K2:=zJ (ksign_is f hf x y n o hx hy hn hc);have TT:=zJ hT;clear hT hf hx hy hn ho hc;obtain⟨Ab,B0⟩:=jD w (Obj.cells #[.int .u64 x,.int .u64 y] 26)
 go_enter Tryz.func22,Tryz.ntmps22
 go_wp2_with fail
 refine (K1.out _ (z7 TT.out B0)).mono ?_;rintro r w1 ⟨rfl,b1⟩;have B1:Below w.heap.size w w1:=zW B0 b1;have Aa:=zE b1 _ _ _ Ab;clear b1 B0 Ab;obtain⟨Ac,Ad⟩:=zM Aa;go_wp2_with fail
 refine (K2.out _ (z7 TT.out B1)).mono ?_;rintro r w2 ⟨rfl,b2⟩;have B2:Below w.heap.size w w2:=zW B1 b2;have Ae:=zE b2 _ _ _ Aa;clear b2 B1 Aa Ac Ad;obtain⟨Af,Ag⟩:=zM Ae;go_wp2
 go_ret
 exact⟨rfl,B2⟩
theorem kFlip_yes (f:Int)(hf:y6 f)(x y n u v:Nat)(hx:x<18446744073709551616)(hy:y<18446744073709551616)(hn:y+18446744073709551616*x=n)(ho:okB f n=true)(hc:xX (sgB f n true)=(u,v))(w:World)(hT:xG w):Calls Tryz.prog 55 #[.int .u8 f,.agg #[.int .u64 x,.int .u64 y]] w fun r w'=>r=.returned (.agg #[.int .u64 u,.int .u64 v])/\Below w.heap.size w w':=by
 have f4:=yP hf;have K1:=zJ (sk_fits f x y n true f4.1 f4.2.1 hx hy hn ho);have K2:=zJ (ksigned_is f hf x y n u v true hx hy hn hc);have TT:=zJ hT;clear hT hf hx hy hn ho hc;obtain⟨Ad,Ae,B0⟩:=xU w (Obj.cells #[.int .u64 x,.int .u64 y] 26) (Obj.cells #[.int .u64 0,.int .u64 0] 26)
 go_enter Tryz.func55,Tryz.ntmps55
 go_wp2_with fail
 refine (K1.out _ (z7 TT.out B0)).mono ?_;rintro r w1 ⟨rfl,b1⟩;have B1:Below w.heap.size w w1:=zW B0 b1;obtain⟨Ab,Ac⟩:=zZ b1 Ad Ae;clear b1 B0 Ad Ae;obtain⟨Af,Ag⟩:=zM Ab;obtain⟨Ah,Ai⟩:=zM Ac;go_wp2_with fail
 refine (K2.out _ (z7 TT.out B1)).mono ?_;rintro r w2 ⟨rfl,b2⟩;have B2:Below w.heap.size w w2:=zW B1 b2;obtain⟨Aj,Aa⟩:=zZ b2 Ab Ac;clear b2 B1 Ab Af Ag Ac Ah Ai;obtain⟨Ak,Al⟩:=zM Aj;obtain⟨Am,An⟩:=zM Aa;have q0:=fz (k:=0) Aa;have q1:=fz (k:=1) Aa;obtain⟨E0,E1⟩:=zQ Aa (.int .u64 u) (.int .u64 v);go_wp2
 exact bodyPost_ret (v:=.agg #[.int .u64 u,.int .u64 v]) (by simp [results,Tryz.results55,go_sem,E0,E1]) rfl ⟨rfl,zN B2 (by first|exact Nat.le_refl _|omega|(skip;omega)) _ _⟩
end Go.Proofs.YtapikkbifdldfaaGreatDoor
