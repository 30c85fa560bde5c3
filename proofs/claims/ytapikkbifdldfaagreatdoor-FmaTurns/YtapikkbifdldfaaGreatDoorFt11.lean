/-
  What the functions that the statement reaches return: part 11 (K8, K9, KA).
-/
import Derived.Test.YtapikkbifdldfaaGreatDoorFt10
namespace Go.Proofs.YtapikkbifdldfaaGreatDoor
set_option maxRecDepth 100000
set_option maxHeartbeats 40000000
open Go.RowKit WMath
set_option linter.unusedSimpArgs false
set_option linter.unusedVariables false
theorem gen_abacusref07_Fields_9 {X:Act->World->Prop} {R:World->Nat->Prop} {t0 t1 t2 t3 t4 t5 t6 t7 t8 t10 t11 t12 t13 t14 t15 t16 t17 t18 t19 t20 t21 t22 t23 t24 t25 t26 t27 t28 t29 t30 t31 t32 t33 t34 t35 t36 t37 t38 t39 t40:Value} {d:List Deferred} {W:World} {G:Nat}
  (key:∀ w5 g,R w5 g->X ⟨#[t0,t1,t2,t3,t4,t5,t6,t7,t8,.pointer (some ⟨g,0,none⟩),t10,t11,t12,t13,t14,t15,t16,t17,t18,t19,t20,t21,t22,t23,t24,t25,t26,t27,t28,t29,t30,t31,t32,t33,t34,t35,t36,t37,t38,t39,t40],d⟩ w5) (r:R W G):X ⟨#[t0,t1,t2,t3,t4,t5,t6,t7,t8,.pointer (some ⟨G,0,none⟩),t10,t11,t12,t13,t14,t15,t16,t17,t18,t19,t20,t21,t22,t23,t24,t25,t26,t27,t28,t29,t30,t31,t32,t33,t34,t35,t36,t37,t38,t39,t40],d⟩ W:=key W G r
theorem gen_abacusref07_Fields_10 {X:Act->World->Prop} {R:World->Nat->Prop} {t0 t1 t2 t3 t4 t5 t6 t7 t8 t9 t11 t12 t13 t14 t15 t16 t17 t18 t19 t20 t21 t22 t23 t24 t25 t26 t27 t28 t29 t30 t31 t32 t33 t34 t35 t36 t37 t38 t39 t40:Value} {d:List Deferred} {W:World} {G:Nat}
  (key:∀ w5 g,R w5 g->X ⟨#[t0,t1,t2,t3,t4,t5,t6,t7,t8,t9,.pointer (some ⟨g,0,none⟩),t11,t12,t13,t14,t15,t16,t17,t18,t19,t20,t21,t22,t23,t24,t25,t26,t27,t28,t29,t30,t31,t32,t33,t34,t35,t36,t37,t38,t39,t40],d⟩ w5) (r:R W G):X ⟨#[t0,t1,t2,t3,t4,t5,t6,t7,t8,t9,.pointer (some ⟨G,0,none⟩),t11,t12,t13,t14,t15,t16,t17,t18,t19,t20,t21,t22,t23,t24,t25,t26,t27,t28,t29,t30,t31,t32,t33,t34,t35,t36,t37,t38,t39,t40],d⟩ W:=key W G r

theorem cnt_of {i:Nat} (h:i<384):yJ (i:Int)=i:=by unfold yJ;omega
theorem and_i64 (a b:Nat)(ha:a<9223372036854775808)(hb:b<9223372036854775808):bits .and .i64 (a:Int) (b:Int)=((a &&& b:Nat):Int):=by
 have hx:a &&& b<2 ^ 63:=Nat.and_lt_two_pow _ (by omega)
 have h1:(BitVec.ofInt 64 (a:Int)).toNat=a:=by
  rw [BitVec.ofInt_natCast,BitVec.toNat_ofNat];exact Nat.mod_eq_of_lt (by omega)
 have h2:(BitVec.ofInt 64 (b:Int)).toNat=b:=by
  rw [BitVec.ofInt_natCast,BitVec.toNat_ofNat];exact Nat.mod_eq_of_lt (by omega)
 show IntKind.i64.wrap ((BitVec.ofInt 64 (a:Int) &&& BitVec.ofInt 64 (b:Int)).toNat:Int)=_
 rw [BitVec.toNat_and,h1,h2,IntKind.wrap_i64];omega
def z6 (n:FuncId)(a:Array Value)(v:Value):Prop:=zY (∀ w:World,Calls Tryz.prog n a w fun r w'=>r=.returned v/\Below w.heap.size w w')
theorem rk_fields (f:Int)(hf:y6 f)(x y n e t:Nat)(neg:Bool)(hx:x<18446744073709551616)(hy:y<18446744073709551616)(hn:y+18446744073709551616*x=n)(hfit:Fit f n)(h1:kN f n=neg)(h2:kE f n=e)(h3:kT f n=t)(w:World) :
  Calls Tryz.prog 92 #[.int .u8 f,.agg #[.int .u64 x,.int .u64 y]] w fun r w'=>r=.returned (.tuple #[.bool neg,.int .i64 (e:Nat),.agg (cw 6 t)])/\Below w.heap.size w w':=by
 have hat:=yD 6;have hz:=yZ;have hff:=yX;have hs0:=jE;have hcs:∀ x,((cw 6 x).size=6)=True:=fun x=>eq_true (z8 6 x);have hx6:=ix6;have f4:=yP hf;obtain⟨p1,p2,p3,p4,p5,p6,p7,p8⟩:=pV_lim hf;have nQ:n<Q:=x8 (k_lt hx hy hn);have K1:=zJ (rwofbits_is x y n hx hy hn)
 have K2:z6 122 #[.agg (cw 6 n),.int .i64 (wV f:Nat)] (.bool neg):=zJ (fun w=>by
  have h:=rwbit_any n (wV f) (by omega) w;rw [show n.testBit (wV f)=neg by rw [<-h1,Nat.testBit_eq_decide_div_mod_eq];rfl] at h;exact h)
 have K3:z6 144 #[.int .i64 (pV f:Nat)] (.agg (cw 6 (2 ^ pV f-1))):=zJ (fun w=>rwmask_is _ _ (by rw [cnt_of (by omega)]) w);have K4:z6 143 #[.agg (cw 6 n),.agg (cw 6 (2 ^ pV f-1))] (.agg (cw 6 t)):=zJ (fun w=>rwand_is n _ t nQ (by rw [<-h3,Nat.and_two_pow_sub_one_eq_mod];rfl) w);obtain⟨E,hE⟩:∃ E,n / 2 ^ pV f=E:=⟨_,rfl⟩;obtain⟨o,ho⟩:∃ o,decide (n % 2 ^ pV f≠0)=o:=⟨_,rfl⟩;have K5:z6 145 #[.agg (cw 6 n),.int .i64 (pV f:Nat)] (.tuple #[.agg (cw 6 E),.bool o]):=zJ (fun w=>rwright_is n E _ o nQ (by rw [cnt_of (by omega)];exact hE) (by rw [cnt_of (by omega)];exact ho) w)
 have El:E<65536:=by
  rw [<-hE,Nat.div_lt_iff_lt_mul (Nat.two_pow_pos _)]
  unfold Fit at hfit
  have:=(fm hf).1
  have o6:=(fm hf).2.2.2.2.2.1;rw [this] at hfit;have h5:=Nat.mul_le_mul_right (2 ^ pV f) (show 2*(oV f+1)<=65536 by omega);rw [Nat.mul_assoc] at h5;omega
 have wE:wd E 0=E:=by unfold wd;rw [Nat.mul_zero,Nat.pow_zero,Nat.div_one];omega
 have e1:IntKind.i64.wrap ((wd E 0:Nat):Int)=((E:Nat):Int):=by rw [wE,IntKind.wrap_i64];omega
 have e2:bits .and .i64 ((E:Nat):Int) (oV f:Int)=(e:Int):=by
  rw [and_i64 E (oV f) (by omega) (by have:=(fm hf).2.2.2.2.2.1;omega),<-h2]
  unfold kE
  rw [hE]
  have:oV f+1=2 ^ (fW f-fP f).toNat:=by rcases hf with rfl|rfl|rfl|rfl <;> decide +kernel
  rw [this,show oV f=2 ^ (fW f-fP f).toNat-1 by omega,Nat.and_two_pow_sub_one_eq_mod]
 obtain⟨q,hq⟩:∃ q,fW f=q:=⟨_,rfl⟩;obtain⟨p,hp⟩:∃ q,fP f=q:=⟨_,rfl⟩;obtain⟨m,hm⟩:∃ q,fE f=q:=⟨_,rfl⟩;obtain⟨O,hO⟩:∃ q,oV f=q:=⟨_,rfl⟩;have K6:zY (∀ w,Calls Tryz.prog 97 #[.int .u8 f] w fun r w'=>r=.returned (.int .i64 (O:Nat))/\w'=w):=zJ (fun w=>r_ones f m _ f4.1 hm (by rw [<-hO,<-hm];rcases hf with rfl|rfl|rfl|rfl <;> decide +kernel) w);have KW:=zJ (r_width f q f4.1 hq);have KP:=zJ (qD f p f4.1 hp);obtain⟨a,ha⟩:∃ a,wV f=a:=⟨_,rfl⟩;obtain⟨b,hb⟩:∃ a,pV f=a:=⟨_,rfl⟩;obtain⟨M,hM⟩:∃ a,2 ^ pV f-1=a:=⟨_,rfl⟩;rw [hp,hb] at p2;rw [hq,ha] at p7;rw [hM] at K3 K4;rw [hb] at K3 K5;rw [ha] at K2;rw [hO] at e2;clear El wE hfit hf hx hy hn h1 h2 h3 p1 p3 p4 p5 p6 p8 nQ hE ho hq hp hm hO ha hb hM f4;obtain⟨Am,An,B0⟩:=xU w (Obj.cells #[.int .u64 x,.int .u64 y] 26) (Obj.cells (cw 6 0) 52)
 go_enter Tryz.func92,Tryz.ntmps92
 go_wp2_with fail
 refine (K1.out _).mono ?_;rintro r w1 ⟨rfl,b1⟩;have B1:Below w.heap.size w w1:=zW B0 b1;obtain⟨Ab,Ac⟩:=zZ b1 Am An;clear b1 B0 Am An;obtain⟨Av,Aw⟩:=zM Ab;have Ax:=zG Ac;have S2:=zJ B1.size;have Ao:=yC Ab;have Ap:=yC Ac;have Ad:=heap_alloc_last w1 (Obj.cells (cw 6 n) 52);have B2:=zW B1 (z9 w1 (Obj.cells (cw 6 n) 52));obtain⟨Aa,Ae⟩:=zZ (z9 w1 (Obj.cells (cw 6 n) 52)) Ab Ac;clear B1 Ab Av Aw Ac Ax;obtain⟨Ay,Az⟩:=zM Aa;have AA:=zG Ae;have AB:=zG Ad;go_wp2_with fail
 obtain⟨F,hF1,hF2⟩:=yW (w1.alloc (Obj.cells (cw 6 n) 52));have fb_0:=fun u=>zI (zE (hF1 u) _ _ _ Aa) 0 _ rfl;have fb_1:=fun u=>zI (zE (hF1 u) _ _ _ Aa) 1 _ rfl;have fz_0:=fun u=>zG (zE (hF1 u) _ _ _ Ae);have fw_0:=fun u=>zG (zE (hF1 u) _ _ _ Ad);refine yB F hF2 (by kernel_rfl) (by kernel_rfl) ?_
 repeat first|go_big_quiet_step (first|(go_at_call 142;exact quietF0 (KW.out _))|(go_at_call 122;exact yI hF1 hF2 (K2.out _))|fail)|quiet_step (first|(go_at_call 142;exact quietF0 (KW.out _))|(go_at_call 122;exact yI hF1 hF2 (K2.out _))|fail)
 refine wpQuiet_nil ?_;rintro _ ⟨uW,rfl⟩;have B3:=zW B2 (hF1 uW);obtain⟨Af,Ag,Ah⟩:=yH (hF1 uW) Aa Ae Ad;obtain⟨w3,hw⟩:∃ V,F uW=V:=⟨_,rfl⟩;rw [hw] at B3 Af Ag Ah
 try rw [hw]
 clear hw hF1 hF2 B2 fb_0 fb_1 fz_0 fw_0 Aa Ay Az Ae AA Ad AB;clear F;obtain⟨AC,AD⟩:=zM Af;have AE:=zG Ag;have AF:=zG Ah;have sS:zY (∀ W W1:World,(Below w.heap.size w W/\W.heap[w.heap.size]?=some (.cells #[.int .u64 x,.int .u64 y] 26)/\W.heap[w.heap.size+1]?=some (.cells (cw 6 0) 52)/\W.heap[w1.heap.size]?=some (.cells (cw 6 n) 52))->Below W.heap.size W W1->(Below w.heap.size w W1/\W1.heap[w.heap.size]?=some (.cells #[.int .u64 x,.int .u64 y] 26)/\W1.heap[w.heap.size+1]?=some (.cells (cw 6 0) 52)/\W1.heap[w1.heap.size]?=some (.cells (cw 6 n) 52))):=zJ (fun W W1 h b=>⟨zW h.1 b,zE b _ _ _ h.2.1,zE b _ _ _ h.2.2.1,zE b _ _ _ h.2.2.2⟩);have sL:zY (∀ W:World,(Below w.heap.size w W/\W.heap[w.heap.size]?=some (.cells #[.int .u64 x,.int .u64 y] 26)/\W.heap[w.heap.size+1]?=some (.cells (cw 6 0) 52)/\W.heap[w1.heap.size]?=some (.cells (cw 6 n) 52))->(w.heap.size<W.heap.size/\w.heap.size+1<W.heap.size/\w1.heap.size<W.heap.size)):=zJ (fun W h=>⟨(Array.getElem?_eq_some_iff.1 h.2.1).1,(Array.getElem?_eq_some_iff.1 h.2.2.1).1,(Array.getElem?_eq_some_iff.1 h.2.2.2).1⟩);have sT:zY (∀ (W:World) (gN:Nat) (xA:Array Value),(Below w.heap.size w W/\W.heap[w.heap.size]?=some (.cells #[.int .u64 x,.int .u64 y] 26)/\W.heap[w.heap.size+1]?=some (.cells (cw 6 0) 52)/\W.heap[w1.heap.size]?=some (.cells (cw 6 n) 52))->(w.heap.size<gN/\w.heap.size+1<gN/\w1.heap.size<gN)->(Below w.heap.size w (W.setRow gN xA)/\(W.setRow gN xA).heap[w.heap.size]?=some (.cells #[.int .u64 x,.int .u64 y] 26)/\(W.setRow gN xA).heap[w.heap.size+1]?=some (.cells (cw 6 0) 52)/\(W.setRow gN xA).heap[w1.heap.size]?=some (.cells (cw 6 n) 52))):=zJ (fun W gN xA h l=>⟨yA h.1 (show w.heap.size<=gN by have:=l.1;omega),(zK (by have:=l.1;omega)).trans h.2.1,(zK (by have:=l.2.1;omega)).trans h.2.2.1,(zK (by have:=l.2.2;omega)).trans h.2.2.2⟩);have sC:zY (∀ W:World,(Below w.heap.size w W/\W.heap[w.heap.size]?=some (.cells #[.int .u64 x,.int .u64 y] 26)/\W.heap[w.heap.size+1]?=some (.cells (cw 6 0) 52)/\W.heap[w1.heap.size]?=some (.cells (cw 6 n) 52))->(Below w.heap.size w W/\W.heap[w.heap.size]?=some (.cells #[.int .u64 x,.int .u64 y] 26)/\W.heap[w.heap.size+1]?=some (.cells (cw 6 0) 52)/\W.heap[w1.heap.size]?=some (.cells (cw 6 n) 52)/\W.cell? ⟨w.heap.size,0,none⟩=some (.int .u64 x)/\W.cell? ⟨w.heap.size,1,none⟩=some (.int .u64 y)/\W.cell? ⟨w.heap.size+1,0,none⟩=some (.int .u64 (wd 0 0))/\W.cell? ⟨w.heap.size+1,1,none⟩=some (.int .u64 (wd 0 1))/\W.cell? ⟨w.heap.size+1,2,none⟩=some (.int .u64 (wd 0 2))/\W.cell? ⟨w.heap.size+1,3,none⟩=some (.int .u64 (wd 0 3))/\W.cell? ⟨w.heap.size+1,4,none⟩=some (.int .u64 (wd 0 4))/\W.cell? ⟨w.heap.size+1,5,none⟩=some (.int .u64 (wd 0 5))/\W.cell? ⟨w1.heap.size,0,none⟩=some (.int .u64 (wd n 0))/\W.cell? ⟨w1.heap.size,1,none⟩=some (.int .u64 (wd n 1))/\W.cell? ⟨w1.heap.size,2,none⟩=some (.int .u64 (wd n 2))/\W.cell? ⟨w1.heap.size,3,none⟩=some (.int .u64 (wd n 3))/\W.cell? ⟨w1.heap.size,4,none⟩=some (.int .u64 (wd n 4))/\W.cell? ⟨w1.heap.size,5,none⟩=some (.int .u64 (wd n 5)))):=zJ (fun W h=>⟨h.1,h.2.1,h.2.2.1,h.2.2.2,zI (h.2.1) 0 _ rfl,zI (h.2.1) 1 _ rfl,zG (h.2.2.1) 0 (by decide),zG (h.2.2.1) 1 (by decide),zG (h.2.2.1) 2 (by decide),zG (h.2.2.1) 3 (by decide),zG (h.2.2.1) 4 (by decide),zG (h.2.2.1) 5 (by decide),zG (h.2.2.2) 0 (by decide),zG (h.2.2.2) 1 (by decide),zG (h.2.2.2) 2 (by decide),zG (h.2.2.2) 3 (by decide),zG (h.2.2.2) 4 (by decide),zG (h.2.2.2) 5 (by decide)⟩)
 have s0:Below w.heap.size w (w3).drew/\(w3).drew.heap[w.heap.size]?=some (.cells #[.int .u64 x,.int .u64 y] 26)/\(w3).drew.heap[w.heap.size+1]?=some (.cells (cw 6 0) 52)/\(w3).drew.heap[w1.heap.size]?=some (.cells (cw 6 n) 52):=⟨B3.drew,Af,Ag,Ah⟩;clear B3 Af AC AD Ag AE Ah AF;go_wp2_with fail
 apply cut7
 ·
  intro key0;have key:=zJ key0;clear key0
  go_region_held3 (fun W=>Below w.heap.size w W/\W.heap[w.heap.size]?=some (.cells #[.int .u64 x,.int .u64 y] 26)/\W.heap[w.heap.size+1]?=some (.cells (cw 6 0) 52)/\W.heap[w1.heap.size]?=some (.cells (cw 6 n) 52)/\W.cell? ⟨w.heap.size,0,none⟩=some (.int .u64 x)/\W.cell? ⟨w.heap.size,1,none⟩=some (.int .u64 y)/\W.cell? ⟨w.heap.size+1,0,none⟩=some (.int .u64 (wd 0 0))/\W.cell? ⟨w.heap.size+1,1,none⟩=some (.int .u64 (wd 0 1))/\W.cell? ⟨w.heap.size+1,2,none⟩=some (.int .u64 (wd 0 2))/\W.cell? ⟨w.heap.size+1,3,none⟩=some (.int .u64 (wd 0 3))/\W.cell? ⟨w.heap.size+1,4,none⟩=some (.int .u64 (wd 0 4))/\W.cell? ⟨w.heap.size+1,5,none⟩=some (.int .u64 (wd 0 5))/\W.cell? ⟨w1.heap.size,0,none⟩=some (.int .u64 (wd n 0))/\W.cell? ⟨w1.heap.size,1,none⟩=some (.int .u64 (wd n 1))/\W.cell? ⟨w1.heap.size,2,none⟩=some (.int .u64 (wd n 2))/\W.cell? ⟨w1.heap.size,3,none⟩=some (.int .u64 (wd n 3))/\W.cell? ⟨w1.heap.size,4,none⟩=some (.int .u64 (wd n 4))/\W.cell? ⟨w1.heap.size,5,none⟩=some (.int .u64 (wd n 5))) (first|exact sC.out _ s1|exact sC.out _ s0|exact sC.out _ (sS.out _ _ s1 (z9 _ _))|exact sC.out _ (sS.out _ _ s0 (z9 _ _))|exact sC.out _ (sT.out _ _ _ s1 hl))
   (first|(go_at_call 95;(first|refine (KP.out _).mono ?_|refine (KP.out _).mono ?_);rintro r wz ⟨rfl,rfl⟩)|(go_at_call 144;(first|refine (K3.out _).mono ?_|refine (K3.out _).mono ?_);rintro r wq ⟨rfl,bq⟩;(first|(have hg:=zE bq _ _ _ (heap_alloc_last _ _);have hl:=(by first|exact sL.out _ s1|exact sL.out _ s0))|have hg:=zE bq _ _ _ hg|skip);(try simp only [xI,zO] at hg hl);(first|have hst:=xE _ _ (t) 0 hg|skip);have s2:=(by first|exact sS.out _ _ s1 bq|exact sS.out _ _ s0 bq|exact sS.out _ _ (sS.out _ _ s1 (z9 _ _)) bq|exact sS.out _ _ (sS.out _ _ s0 (z9 _ _)) bq);(try clear s1);have s1:=s2;clear s2 bq)|(go_at_call 143;(first|refine (K4.out _).mono ?_|refine (K4.out _).mono ?_);rintro r wq ⟨rfl,bq⟩;(first|(have hg:=zE bq _ _ _ (heap_alloc_last _ _);have hl:=(by first|exact sL.out _ s1|exact sL.out _ s0))|have hg:=zE bq _ _ _ hg|skip);(try simp only [xI,zO] at hg hl);(first|have hst:=xE _ _ (t) 0 hg|skip);have s2:=(by first|exact sS.out _ _ s1 bq|exact sS.out _ _ s0 bq|exact sS.out _ _ (sS.out _ _ s1 (z9 _ _)) bq|exact sS.out _ _ (sS.out _ _ s0 (z9 _ _)) bq);(try clear s1);have s1:=s2;clear s2 bq)|fail)
  all_goals
   refine gen_abacusref07_Fields_9 (R:=fun W gN=>(Below w.heap.size w W/\W.heap[w.heap.size]?=some (.cells #[.int .u64 x,.int .u64 y] 26)/\W.heap[w.heap.size+1]?=some (.cells (cw 6 0) 52)/\W.heap[w1.heap.size]?=some (.cells (cw 6 n) 52))/\W.heap[gN]?=some (.cells (cw 6 t) 52)/\(w.heap.size<gN/\w.heap.size+1<gN/\w1.heap.size<gN)) key.out ?_
   first
    | exact⟨sS.out _ _ s1 (z9 _ _),heap_alloc_last _ _,sL.out _ s1⟩
    | exact⟨sS.out _ _ s0 (z9 _ _),heap_alloc_last _ _,sL.out _ s0⟩
    | exact⟨(sT.out _ _ _ s1 hl),zS hg,hl⟩
 rintro w4 g4 ⟨s1,Ai,l4⟩;have B4:=And.left s1;have Aj:=s1.2.1;have Ak:=s1.2.2.1;have Al:=s1.2.2.2;have H4:=zJ l4;clear s0 s1 sS sC sL sT l4;obtain⟨AG,AH⟩:=zM Aj;have AI:=zG Ak;have AJ:=zG Al;have AK:=zG Ai;have sS:zY (∀ W W1:World,(Below w.heap.size w W/\W.heap[w.heap.size]?=some (.cells #[.int .u64 x,.int .u64 y] 26)/\W.heap[w.heap.size+1]?=some (.cells (cw 6 0) 52)/\W.heap[w1.heap.size]?=some (.cells (cw 6 n) 52)/\W.heap[g4]?=some (.cells (cw 6 t) 52))->Below W.heap.size W W1->(Below w.heap.size w W1/\W1.heap[w.heap.size]?=some (.cells #[.int .u64 x,.int .u64 y] 26)/\W1.heap[w.heap.size+1]?=some (.cells (cw 6 0) 52)/\W1.heap[w1.heap.size]?=some (.cells (cw 6 n) 52)/\W1.heap[g4]?=some (.cells (cw 6 t) 52))):=zJ (fun W W1 h b=>⟨zW h.1 b,zE b _ _ _ h.2.1,zE b _ _ _ h.2.2.1,zE b _ _ _ h.2.2.2.1,zE b _ _ _ h.2.2.2.2⟩);have sL:zY (∀ W:World,(Below w.heap.size w W/\W.heap[w.heap.size]?=some (.cells #[.int .u64 x,.int .u64 y] 26)/\W.heap[w.heap.size+1]?=some (.cells (cw 6 0) 52)/\W.heap[w1.heap.size]?=some (.cells (cw 6 n) 52)/\W.heap[g4]?=some (.cells (cw 6 t) 52))->(w.heap.size<W.heap.size/\w.heap.size+1<W.heap.size/\w1.heap.size<W.heap.size/\g4<W.heap.size)):=zJ (fun W h=>⟨(Array.getElem?_eq_some_iff.1 h.2.1).1,(Array.getElem?_eq_some_iff.1 h.2.2.1).1,(Array.getElem?_eq_some_iff.1 h.2.2.2.1).1,(Array.getElem?_eq_some_iff.1 h.2.2.2.2).1⟩);have sT:zY (∀ (W:World) (gN:Nat) (xA:Array Value),(Below w.heap.size w W/\W.heap[w.heap.size]?=some (.cells #[.int .u64 x,.int .u64 y] 26)/\W.heap[w.heap.size+1]?=some (.cells (cw 6 0) 52)/\W.heap[w1.heap.size]?=some (.cells (cw 6 n) 52)/\W.heap[g4]?=some (.cells (cw 6 t) 52))->(w.heap.size<gN/\w.heap.size+1<gN/\w1.heap.size<gN/\g4<gN)->(Below w.heap.size w (W.setRow gN xA)/\(W.setRow gN xA).heap[w.heap.size]?=some (.cells #[.int .u64 x,.int .u64 y] 26)/\(W.setRow gN xA).heap[w.heap.size+1]?=some (.cells (cw 6 0) 52)/\(W.setRow gN xA).heap[w1.heap.size]?=some (.cells (cw 6 n) 52)/\(W.setRow gN xA).heap[g4]?=some (.cells (cw 6 t) 52))):=zJ (fun W gN xA h l=>⟨yA h.1 (show w.heap.size<=gN by have:=l.1;omega),(zK (by have:=l.1;omega)).trans h.2.1,(zK (by have:=l.2.1;omega)).trans h.2.2.1,(zK (by have:=l.2.2.1;omega)).trans h.2.2.2.1,(zK (by have:=l.2.2.2;omega)).trans h.2.2.2.2⟩);have sC:zY (∀ W:World,(Below w.heap.size w W/\W.heap[w.heap.size]?=some (.cells #[.int .u64 x,.int .u64 y] 26)/\W.heap[w.heap.size+1]?=some (.cells (cw 6 0) 52)/\W.heap[w1.heap.size]?=some (.cells (cw 6 n) 52)/\W.heap[g4]?=some (.cells (cw 6 t) 52))->(Below w.heap.size w W/\W.heap[w.heap.size]?=some (.cells #[.int .u64 x,.int .u64 y] 26)/\W.heap[w.heap.size+1]?=some (.cells (cw 6 0) 52)/\W.heap[w1.heap.size]?=some (.cells (cw 6 n) 52)/\W.heap[g4]?=some (.cells (cw 6 t) 52)/\W.cell? ⟨w.heap.size,0,none⟩=some (.int .u64 x)/\W.cell? ⟨w.heap.size,1,none⟩=some (.int .u64 y)/\W.cell? ⟨w.heap.size+1,0,none⟩=some (.int .u64 (wd 0 0))/\W.cell? ⟨w.heap.size+1,1,none⟩=some (.int .u64 (wd 0 1))/\W.cell? ⟨w.heap.size+1,2,none⟩=some (.int .u64 (wd 0 2))/\W.cell? ⟨w.heap.size+1,3,none⟩=some (.int .u64 (wd 0 3))/\W.cell? ⟨w.heap.size+1,4,none⟩=some (.int .u64 (wd 0 4))/\W.cell? ⟨w.heap.size+1,5,none⟩=some (.int .u64 (wd 0 5))/\W.cell? ⟨w1.heap.size,0,none⟩=some (.int .u64 (wd n 0))/\W.cell? ⟨w1.heap.size,1,none⟩=some (.int .u64 (wd n 1))/\W.cell? ⟨w1.heap.size,2,none⟩=some (.int .u64 (wd n 2))/\W.cell? ⟨w1.heap.size,3,none⟩=some (.int .u64 (wd n 3))/\W.cell? ⟨w1.heap.size,4,none⟩=some (.int .u64 (wd n 4))/\W.cell? ⟨w1.heap.size,5,none⟩=some (.int .u64 (wd n 5))/\W.cell? ⟨g4,0,none⟩=some (.int .u64 (wd t 0))/\W.cell? ⟨g4,1,none⟩=some (.int .u64 (wd t 1))/\W.cell? ⟨g4,2,none⟩=some (.int .u64 (wd t 2))/\W.cell? ⟨g4,3,none⟩=some (.int .u64 (wd t 3))/\W.cell? ⟨g4,4,none⟩=some (.int .u64 (wd t 4))/\W.cell? ⟨g4,5,none⟩=some (.int .u64 (wd t 5)))):=zJ (fun W h=>⟨h.1,h.2.1,h.2.2.1,h.2.2.2.1,h.2.2.2.2,zI (h.2.1) 0 _ rfl,zI (h.2.1) 1 _ rfl,zG (h.2.2.1) 0 (by decide),zG (h.2.2.1) 1 (by decide),zG (h.2.2.1) 2 (by decide),zG (h.2.2.1) 3 (by decide),zG (h.2.2.1) 4 (by decide),zG (h.2.2.1) 5 (by decide),zG (h.2.2.2.1) 0 (by decide),zG (h.2.2.2.1) 1 (by decide),zG (h.2.2.2.1) 2 (by decide),zG (h.2.2.2.1) 3 (by decide),zG (h.2.2.2.1) 4 (by decide),zG (h.2.2.2.1) 5 (by decide),zG (h.2.2.2.2) 0 (by decide),zG (h.2.2.2.2) 1 (by decide),zG (h.2.2.2.2) 2 (by decide),zG (h.2.2.2.2) 3 (by decide),zG (h.2.2.2.2) 4 (by decide),zG (h.2.2.2.2) 5 (by decide)⟩)
 have s0:Below w.heap.size w (w4).drew/\(w4).drew.heap[w.heap.size]?=some (.cells #[.int .u64 x,.int .u64 y] 26)/\(w4).drew.heap[w.heap.size+1]?=some (.cells (cw 6 0) 52)/\(w4).drew.heap[w1.heap.size]?=some (.cells (cw 6 n) 52)/\(w4).drew.heap[g4]?=some (.cells (cw 6 t) 52):=⟨B4.drew,Aj,Ak,Al,Ai⟩;clear B4 Aj AG AH Ak AI Al AJ Ai AK;go_wp2_with fail
 apply cut7
 ·
  intro key0;have key:=zJ key0;clear key0
  go_region_held3 (fun W=>Below w.heap.size w W/\W.heap[w.heap.size]?=some (.cells #[.int .u64 x,.int .u64 y] 26)/\W.heap[w.heap.size+1]?=some (.cells (cw 6 0) 52)/\W.heap[w1.heap.size]?=some (.cells (cw 6 n) 52)/\W.heap[g4]?=some (.cells (cw 6 t) 52)/\W.cell? ⟨w.heap.size,0,none⟩=some (.int .u64 x)/\W.cell? ⟨w.heap.size,1,none⟩=some (.int .u64 y)/\W.cell? ⟨w.heap.size+1,0,none⟩=some (.int .u64 (wd 0 0))/\W.cell? ⟨w.heap.size+1,1,none⟩=some (.int .u64 (wd 0 1))/\W.cell? ⟨w.heap.size+1,2,none⟩=some (.int .u64 (wd 0 2))/\W.cell? ⟨w.heap.size+1,3,none⟩=some (.int .u64 (wd 0 3))/\W.cell? ⟨w.heap.size+1,4,none⟩=some (.int .u64 (wd 0 4))/\W.cell? ⟨w.heap.size+1,5,none⟩=some (.int .u64 (wd 0 5))/\W.cell? ⟨w1.heap.size,0,none⟩=some (.int .u64 (wd n 0))/\W.cell? ⟨w1.heap.size,1,none⟩=some (.int .u64 (wd n 1))/\W.cell? ⟨w1.heap.size,2,none⟩=some (.int .u64 (wd n 2))/\W.cell? ⟨w1.heap.size,3,none⟩=some (.int .u64 (wd n 3))/\W.cell? ⟨w1.heap.size,4,none⟩=some (.int .u64 (wd n 4))/\W.cell? ⟨w1.heap.size,5,none⟩=some (.int .u64 (wd n 5))/\W.cell? ⟨g4,0,none⟩=some (.int .u64 (wd t 0))/\W.cell? ⟨g4,1,none⟩=some (.int .u64 (wd t 1))/\W.cell? ⟨g4,2,none⟩=some (.int .u64 (wd t 2))/\W.cell? ⟨g4,3,none⟩=some (.int .u64 (wd t 3))/\W.cell? ⟨g4,4,none⟩=some (.int .u64 (wd t 4))/\W.cell? ⟨g4,5,none⟩=some (.int .u64 (wd t 5))) (first|exact sC.out _ s1|exact sC.out _ s0|exact sC.out _ (sS.out _ _ s1 (z9 _ _))|exact sC.out _ (sS.out _ _ s0 (z9 _ _))|exact sC.out _ (sT.out _ _ _ s1 hl))
   (first|(go_at_call 95;(first|refine (KP.out _).mono ?_|refine (KP.out _).mono ?_);rintro r wz ⟨rfl,rfl⟩)|(go_at_call 145;(first|refine (K5.out _).mono ?_|refine (K5.out _).mono ?_);rintro r wq ⟨rfl,bq⟩;(first|(have hg:=zE bq _ _ _ (heap_alloc_last _ _);have hl:=(by first|exact sL.out _ s1|exact sL.out _ s0))|have hg:=zE bq _ _ _ hg|skip);(try simp only [xI,zO] at hg hl);(first|have hst:=xE _ _ (E) 0 hg|skip);have s2:=(by first|exact sS.out _ _ s1 bq|exact sS.out _ _ s0 bq|exact sS.out _ _ (sS.out _ _ s1 (z9 _ _)) bq|exact sS.out _ _ (sS.out _ _ s0 (z9 _ _)) bq);(try clear s1);have s1:=s2;clear s2 bq)|fail)
  all_goals
   refine gen_abacusref07_Fields_10 (R:=fun W gN=>(Below w.heap.size w W/\W.heap[w.heap.size]?=some (.cells #[.int .u64 x,.int .u64 y] 26)/\W.heap[w.heap.size+1]?=some (.cells (cw 6 0) 52)/\W.heap[w1.heap.size]?=some (.cells (cw 6 n) 52)/\W.heap[g4]?=some (.cells (cw 6 t) 52))/\W.heap[gN]?=some (.cells (cw 6 E) 52)/\(w.heap.size<gN/\w.heap.size+1<gN/\w1.heap.size<gN/\g4<gN)) key.out ?_
   first
    | exact⟨sS.out _ _ s1 (z9 _ _),heap_alloc_last _ _,sL.out _ s1⟩
    | exact⟨sS.out _ _ s0 (z9 _ _),heap_alloc_last _ _,sL.out _ s0⟩
    | exact⟨(sT.out _ _ _ s1 hl),zS hg,hl⟩
 rintro w5 g5 ⟨s1,Aq,l5⟩;have B5:=And.left s1;have Ar:=s1.2.1;have As:=s1.2.2.1;have At:=s1.2.2.2.1;have Au:=s1.2.2.2.2;have H5:=zJ l5;clear s0 s1 sS sC sL sT l5;obtain⟨AL,AM⟩:=zM Ar;have AN:=zG As;have AO:=zG At;have AP:=zG Au;have AQ:=zG Aq;have sS:zY (∀ W W1:World,(Below w.heap.size w W/\W.heap[w.heap.size]?=some (.cells #[.int .u64 x,.int .u64 y] 26)/\W.heap[w1.heap.size]?=some (.cells (cw 6 n) 52)/\W.heap[g4]?=some (.cells (cw 6 t) 52)/\W.heap[g5]?=some (.cells (cw 6 E) 52))->Below W.heap.size W W1->(Below w.heap.size w W1/\W1.heap[w.heap.size]?=some (.cells #[.int .u64 x,.int .u64 y] 26)/\W1.heap[w1.heap.size]?=some (.cells (cw 6 n) 52)/\W1.heap[g4]?=some (.cells (cw 6 t) 52)/\W1.heap[g5]?=some (.cells (cw 6 E) 52))):=zJ (fun W W1 h b=>⟨zW h.1 b,zE b _ _ _ h.2.1,zE b _ _ _ h.2.2.1,zE b _ _ _ h.2.2.2.1,zE b _ _ _ h.2.2.2.2⟩);have HH:=zJ (And.intro S2.out (And.intro Ao.out (And.intro Ap.out (And.intro H4.out H5.out))));have sT:zY (∀ (W:World) (xA:Array Value),(Below w.heap.size w W/\W.heap[w.heap.size]?=some (.cells #[.int .u64 x,.int .u64 y] 26)/\W.heap[w1.heap.size]?=some (.cells (cw 6 n) 52)/\W.heap[g4]?=some (.cells (cw 6 t) 52)/\W.heap[g5]?=some (.cells (cw 6 E) 52))->(Below w.heap.size w (W.setRow (w.heap.size+1) xA)/\(W.setRow (w.heap.size+1) xA).heap[w.heap.size]?=some (.cells #[.int .u64 x,.int .u64 y] 26)/\(W.setRow (w.heap.size+1) xA).heap[w1.heap.size]?=some (.cells (cw 6 n) 52)/\(W.setRow (w.heap.size+1) xA).heap[g4]?=some (.cells (cw 6 t) 52)/\(W.setRow (w.heap.size+1) xA).heap[g5]?=some (.cells (cw 6 E) 52))):=zJ (fun W xA h=>⟨yA h.1 (show w.heap.size<=w.heap.size+1 by first|exact Nat.le_refl _|omega|(have:=HH.out;omega)),(zK (by first|omega|(have:=HH.out;omega))).trans h.2.1,(zK (by first|omega|(have:=HH.out;omega))).trans h.2.2.1,(zK (by first|omega|(have:=HH.out;omega))).trans h.2.2.2.1,(zK (by first|omega|(have:=HH.out;omega))).trans h.2.2.2.2⟩);have sC:zY (∀ W:World,(Below w.heap.size w W/\W.heap[w.heap.size]?=some (.cells #[.int .u64 x,.int .u64 y] 26)/\W.heap[w1.heap.size]?=some (.cells (cw 6 n) 52)/\W.heap[g4]?=some (.cells (cw 6 t) 52)/\W.heap[g5]?=some (.cells (cw 6 E) 52))->(Below w.heap.size w W/\W.heap[w.heap.size]?=some (.cells #[.int .u64 x,.int .u64 y] 26)/\W.heap[w1.heap.size]?=some (.cells (cw 6 n) 52)/\W.heap[g4]?=some (.cells (cw 6 t) 52)/\W.heap[g5]?=some (.cells (cw 6 E) 52)/\W.cell? ⟨w.heap.size,0,none⟩=some (.int .u64 x)/\W.cell? ⟨w.heap.size,1,none⟩=some (.int .u64 y)/\W.cell? ⟨w1.heap.size,0,none⟩=some (.int .u64 (wd n 0))/\W.cell? ⟨w1.heap.size,1,none⟩=some (.int .u64 (wd n 1))/\W.cell? ⟨w1.heap.size,2,none⟩=some (.int .u64 (wd n 2))/\W.cell? ⟨w1.heap.size,3,none⟩=some (.int .u64 (wd n 3))/\W.cell? ⟨w1.heap.size,4,none⟩=some (.int .u64 (wd n 4))/\W.cell? ⟨w1.heap.size,5,none⟩=some (.int .u64 (wd n 5))/\W.cell? ⟨g4,0,none⟩=some (.int .u64 (wd t 0))/\W.cell? ⟨g4,1,none⟩=some (.int .u64 (wd t 1))/\W.cell? ⟨g4,2,none⟩=some (.int .u64 (wd t 2))/\W.cell? ⟨g4,3,none⟩=some (.int .u64 (wd t 3))/\W.cell? ⟨g4,4,none⟩=some (.int .u64 (wd t 4))/\W.cell? ⟨g4,5,none⟩=some (.int .u64 (wd t 5))/\W.cell? ⟨g5,0,none⟩=some (.int .u64 (wd E 0))/\W.cell? ⟨g5,1,none⟩=some (.int .u64 (wd E 1))/\W.cell? ⟨g5,2,none⟩=some (.int .u64 (wd E 2))/\W.cell? ⟨g5,3,none⟩=some (.int .u64 (wd E 3))/\W.cell? ⟨g5,4,none⟩=some (.int .u64 (wd E 4))/\W.cell? ⟨g5,5,none⟩=some (.int .u64 (wd E 5)))):=zJ (fun W h=>⟨h.1,h.2.1,h.2.2.1,h.2.2.2.1,h.2.2.2.2,zI (h.2.1) 0 _ rfl,zI (h.2.1) 1 _ rfl,zG (h.2.2.1) 0 (by decide),zG (h.2.2.1) 1 (by decide),zG (h.2.2.1) 2 (by decide),zG (h.2.2.1) 3 (by decide),zG (h.2.2.1) 4 (by decide),zG (h.2.2.1) 5 (by decide),zG (h.2.2.2.1) 0 (by decide),zG (h.2.2.2.1) 1 (by decide),zG (h.2.2.2.1) 2 (by decide),zG (h.2.2.2.1) 3 (by decide),zG (h.2.2.2.1) 4 (by decide),zG (h.2.2.2.1) 5 (by decide),zG (h.2.2.2.2) 0 (by decide),zG (h.2.2.2.2) 1 (by decide),zG (h.2.2.2.2) 2 (by decide),zG (h.2.2.2.2) 3 (by decide),zG (h.2.2.2.2) 4 (by decide),zG (h.2.2.2.2) 5 (by decide)⟩)
 have s0:Below w.heap.size w (w5).drew/\(w5).drew.heap[w.heap.size]?=some (.cells #[.int .u64 x,.int .u64 y] 26)/\(w5).drew.heap[w1.heap.size]?=some (.cells (cw 6 n) 52)/\(w5).drew.heap[g4]?=some (.cells (cw 6 t) 52)/\(w5).drew.heap[g5]?=some (.cells (cw 6 E) 52):=⟨B5.drew,Ar,At,Au,Aq⟩;have rz:(w5).drew.heap[w.heap.size+1]?=some (.cells (cw 6 0) 52):=As;have hst:=xE (w5).drew (w.heap.size+1) t 0 rz;go_wp2_with fail
 go_region_held3 (fun W=>Below w.heap.size w W/\W.heap[w.heap.size]?=some (.cells #[.int .u64 x,.int .u64 y] 26)/\W.heap[w1.heap.size]?=some (.cells (cw 6 n) 52)/\W.heap[g4]?=some (.cells (cw 6 t) 52)/\W.heap[g5]?=some (.cells (cw 6 E) 52)/\W.cell? ⟨w.heap.size,0,none⟩=some (.int .u64 x)/\W.cell? ⟨w.heap.size,1,none⟩=some (.int .u64 y)/\W.cell? ⟨w1.heap.size,0,none⟩=some (.int .u64 (wd n 0))/\W.cell? ⟨w1.heap.size,1,none⟩=some (.int .u64 (wd n 1))/\W.cell? ⟨w1.heap.size,2,none⟩=some (.int .u64 (wd n 2))/\W.cell? ⟨w1.heap.size,3,none⟩=some (.int .u64 (wd n 3))/\W.cell? ⟨w1.heap.size,4,none⟩=some (.int .u64 (wd n 4))/\W.cell? ⟨w1.heap.size,5,none⟩=some (.int .u64 (wd n 5))/\W.cell? ⟨g4,0,none⟩=some (.int .u64 (wd t 0))/\W.cell? ⟨g4,1,none⟩=some (.int .u64 (wd t 1))/\W.cell? ⟨g4,2,none⟩=some (.int .u64 (wd t 2))/\W.cell? ⟨g4,3,none⟩=some (.int .u64 (wd t 3))/\W.cell? ⟨g4,4,none⟩=some (.int .u64 (wd t 4))/\W.cell? ⟨g4,5,none⟩=some (.int .u64 (wd t 5))/\W.cell? ⟨g5,0,none⟩=some (.int .u64 (wd E 0))/\W.cell? ⟨g5,1,none⟩=some (.int .u64 (wd E 1))/\W.cell? ⟨g5,2,none⟩=some (.int .u64 (wd E 2))/\W.cell? ⟨g5,3,none⟩=some (.int .u64 (wd E 3))/\W.cell? ⟨g5,4,none⟩=some (.int .u64 (wd E 4))/\W.cell? ⟨g5,5,none⟩=some (.int .u64 (wd E 5))) (first|exact sC.out _ s1|exact sC.out _ s0|exact sC.out _ (sT.out _ _ s1)|exact sC.out _ (sT.out _ _ s0))
  (first|(go_at_call 97;(first|refine (K6.out _).mono ?_|refine (K6.out _).mono ?_);rintro r wz ⟨rfl,rfl⟩)|fail)
 have BZ:=(by first|exact And.left s1|exact And.left s0:Below w.heap.size w _);have dz:=zG (zS (c':=cw 6 t) rz);have bz:=yA (c:=cw 6 t) BZ (show w.heap.size<=w.heap.size+1 by first|exact Nat.le_refl _|omega|(have:=S2.out;have:=Ao.out;have:=Ap.out;have:=H4.out;have:=H5.out;omega));go_wp2
 exact bodyPost_ret (v:=.tuple #[.bool neg,.int .i64 (e:Nat),.agg (cw 6 t)]) (by simp [results,Tryz.results92,go_sem,dz,hff]) rfl ⟨rfl,bz⟩
theorem rk_class (f:Int)(hf:y6 f)(x y n c:Nat)(hx:x<18446744073709551616)(hy:y<18446744073709551616)(hn:y+18446744073709551616*x=n)(hfit:Fit f n)(hc:kC f n=c)(w:World) :
  Calls Tryz.prog 67 #[.int .u8 f,.agg #[.int .u64 x,.int .u64 y]] w fun r w'=>r=.returned (.int .u8 c)/\Below w.heap.size w w':=by
 have hat:=yD 6;have hz:=yZ;have hff:=yX;have hs0:=jE;have hcs:∀ x,((cw 6 x).size=6)=True:=fun x=>eq_true (z8 6 x);have heq:=eq6;have hg:=eqg6;have hQ:=Q_pos;have f4:=yP hf;have tl:=kT_lt (f:=f) n;have el:=kE_le (f:=f) n;obtain⟨g1,g2,g3,g4,g5,g6,g7⟩:=fm hf;obtain⟨p1,p2,p3,p4,p5,p6,p7,p8⟩:=pV_lim hf;have p9:IntKind.i64.wrap (fP f-2)=((pV f-1:Nat):Int):=by rcases hf with rfl|rfl|rfl|rfl <;> decide +kernel
 obtain⟨neg,hneg⟩:∃ q,kN f n=q:=⟨_,rfl⟩;obtain⟨e,he⟩:∃ q,kE f n=q:=⟨_,rfl⟩;obtain⟨t,ht⟩:∃ q,kT f n=q:=⟨_,rfl⟩;have K1:=zJ (rk_fields f hf x y n e t neg hx hy hn hfit hneg he ht);have tQ:t<Q:=by rw [<-ht];exact x8 (by rw [g1,Nat.add_mul] at g7;omega)
 obtain⟨o,ho⟩:∃ q,oV f=q:=⟨_,rfl⟩;obtain⟨m,hm⟩:∃ q,fE f=q:=⟨_,rfl⟩;obtain⟨p,hp⟩:∃ q,fP f=q:=⟨_,rfl⟩;have K2:zY (∀ w,Calls Tryz.prog 97 #[.int .u8 f] w fun r w'=>r=.returned (.int .i64 (o:Nat))/\w'=w):=zJ (fun w=>r_ones f m _ f4.1 hm (by rw [<-ho,<-hm];rcases hf with rfl|rfl|rfl|rfl <;> decide +kernel) w);have KP:=zJ (qD f p f4.1 hp);obtain⟨qb,hqb⟩:∃ q,decide (2 ^ (pV f-1)<=t)=q:=⟨_,rfl⟩
 have K3:z6 122 #[.agg (cw 6 t),.int .i64 ((pV f-1:Nat):Int)] (.bool qb):=zJ (fun w=>by
  have h:=rwbit_any t (pV f-1) (by omega) w
  have e2:t.testBit (pV f-1)=qb:=by
   rw [<-hqb,Nat.testBit_eq_decide_div_mod_eq,decide_eq_decide];rw [ht] at tl;rw [g3] at tl;have hz:=Nat.two_pow_pos (pV f-1)
   by_cases h:2 ^ (pV f-1)<=t
   ·
    have:t / 2 ^ (pV f-1)=1:=by rw [Nat.div_eq_iff hz];omega
    rw [this];simp [h]
   ·
    rw [Nat.div_eq_of_lt (by omega)];simp;omega
  rw [e2] at h;exact h)
 unfold kC at hc
 rw [he,ht,hneg,ho] at hc;have zf:(t=0->decide (t=0)=true)/\(t≠0->decide (t=0)=false):=⟨fun h=>decide_eq_true h,fun h=>decide_eq_false h⟩;obtain⟨pm,hpm⟩:∃ q,pV f-1=q:=⟨_,rfl⟩;rw [hpm] at K3 p9 hqb hc;rw [hp] at p9;clear tl el hf hx hy hn hfit hneg he ht ho hm hp p1 p2 p3 p4 p5 p6 p7 p8 g1 g2 g3 g4 g5 g6 g7 hpm f4
 by_cases c1:e=o
 ·
  have b1:((e:Int) == (o:Int))=true:=by rw [c1];simp
  rw [if_pos c1] at hc
  by_cases c2:t=0
  ·
   rw [if_pos c2] at hc;subst c2
   cases neg
   ·
    subst hc;obtain⟨Ab,B0⟩:=jD w (Obj.cells #[.int .u64 x,.int .u64 y] 26)
    go_enter Tryz.func67,Tryz.ntmps67
    go_wp2_with fail
    refine (K1.out _).mono ?_;rintro r w1 ⟨rfl,b1⟩;have B1:Below w.heap.size w w1:=zW B0 b1;have Aa:=zE b1 _ _ _ Ab;clear b1 B0 Ab;obtain⟨Ae,Af⟩:=zM Aa;have S2:=zJ B1.size;have Aj:=yC Aa;have Ad:=heap_alloc_last w1 (Obj.cells (cw 6 0) 52);have B2:=zW B1 (z9 w1 (Obj.cells (cw 6 0) 52));have Ac:=zE (z9 w1 (Obj.cells (cw 6 0) 52)) _ _ _ Aa;clear B1 Aa Ae Af;obtain⟨Ag,Ah⟩:=zM Ac;have Ai:=zG Ad;go_wp2_with fail
    refine (K2.out _).mono ?_;rintro r w' ⟨rfl,hw'⟩;obtain rfl:=hw'.symm;go_wp2
    go_ret
    exact⟨rfl,B2⟩
   ·
    subst hc;obtain⟨Ab,B0⟩:=jD w (Obj.cells #[.int .u64 x,.int .u64 y] 26)
    go_enter Tryz.func67,Tryz.ntmps67
    go_wp2_with fail
    refine (K1.out _).mono ?_;rintro r w1 ⟨rfl,b1⟩;have B1:Below w.heap.size w w1:=zW B0 b1;have Aa:=zE b1 _ _ _ Ab;clear b1 B0 Ab;obtain⟨Ae,Af⟩:=zM Aa;have S2:=zJ B1.size;have Aj:=yC Aa;have Ad:=heap_alloc_last w1 (Obj.cells (cw 6 0) 52);have B2:=zW B1 (z9 w1 (Obj.cells (cw 6 0) 52));have Ac:=zE (z9 w1 (Obj.cells (cw 6 0) 52)) _ _ _ Aa;clear B1 Aa Ae Af;obtain⟨Ag,Ah⟩:=zM Ac;have Ai:=zG Ad;go_wp2_with fail
    refine (K2.out _).mono ?_;rintro r w' ⟨rfl,hw'⟩;obtain rfl:=hw'.symm;go_wp2
    go_ret
    exact⟨rfl,B2⟩
  ·
   rw [if_neg c2] at hc;have z1:=zf.2 c2
   cases qb
   ·
    rw [if_neg (of_decide_eq_false hqb)] at hc;subst hc;obtain⟨Ab,B0⟩:=jD w (Obj.cells #[.int .u64 x,.int .u64 y] 26)
    go_enter Tryz.func67,Tryz.ntmps67
    go_wp2_with fail
    refine (K1.out _).mono ?_;rintro r w1 ⟨rfl,b1⟩;have B1:Below w.heap.size w w1:=zW B0 b1;have Aa:=zE b1 _ _ _ Ab;clear b1 B0 Ab;obtain⟨Ae,Af⟩:=zM Aa;have S2:=zJ B1.size;have Aj:=yC Aa;have Ad:=heap_alloc_last w1 (Obj.cells (cw 6 t) 52);have B2:=zW B1 (z9 w1 (Obj.cells (cw 6 t) 52));have Ac:=zE (z9 w1 (Obj.cells (cw 6 t) 52)) _ _ _ Aa;clear B1 Aa Ae Af;obtain⟨Ag,Ah⟩:=zM Ac;have Ai:=zG Ad;go_wp2_with fail
    refine (K2.out _).mono ?_;rintro r w' ⟨rfl,hw'⟩;obtain rfl:=hw'.symm;go_wp2_with fail
    obtain⟨F,hF1,hF2⟩:=yW (w1.alloc (Obj.cells (cw 6 t) 52));have fb_0:=fun u=>zI (zE (hF1 u) _ _ _ Ac) 0 _ rfl;have fb_1:=fun u=>zI (zE (hF1 u) _ _ _ Ac) 1 _ rfl;have ft_0:=fun u=>zG (zE (hF1 u) _ _ _ Ad);refine yB F hF2 (by kernel_rfl) (by kernel_rfl) ?_
    repeat first|go_big_quiet_step (first|(go_at_call 95;exact quietF0 (KP.out _))|(go_at_call 122;exact yI hF1 hF2 (K3.out _))|fail)|quiet_step (first|(go_at_call 95;exact quietF0 (KP.out _))|(go_at_call 122;exact yI hF1 hF2 (K3.out _))|fail)
    refine wpQuiet_nil ?_;rintro _ ⟨uW,rfl⟩;have B3:=zW B2 (hF1 uW);obtain⟨Ak,Al⟩:=zZ (hF1 uW) Ac Ad;obtain⟨w3,hw⟩:∃ V,F uW=V:=⟨_,rfl⟩;rw [hw] at B3 Ak Al
    try rw [hw]
    clear hw hF1 hF2 B2 fb_0 fb_1 ft_0 Ac Ag Ah Ad Ai;clear F;obtain⟨Am,An⟩:=zM Ak;have Ao:=zG Al;go_wp2
    go_ret
    exact⟨rfl,B3⟩
   ·
    rw [if_pos (of_decide_eq_true hqb)] at hc;subst hc;obtain⟨Ab,B0⟩:=jD w (Obj.cells #[.int .u64 x,.int .u64 y] 26)
    go_enter Tryz.func67,Tryz.ntmps67
    go_wp2_with fail
    refine (K1.out _).mono ?_;rintro r w1 ⟨rfl,b1⟩;have B1:Below w.heap.size w w1:=zW B0 b1;have Aa:=zE b1 _ _ _ Ab;clear b1 B0 Ab;obtain⟨Ae,Af⟩:=zM Aa;have S2:=zJ B1.size;have Aj:=yC Aa;have Ad:=heap_alloc_last w1 (Obj.cells (cw 6 t) 52);have B2:=zW B1 (z9 w1 (Obj.cells (cw 6 t) 52));have Ac:=zE (z9 w1 (Obj.cells (cw 6 t) 52)) _ _ _ Aa;clear B1 Aa Ae Af;obtain⟨Ag,Ah⟩:=zM Ac;have Ai:=zG Ad;go_wp2_with fail
    refine (K2.out _).mono ?_;rintro r w' ⟨rfl,hw'⟩;obtain rfl:=hw'.symm;go_wp2_with fail
    obtain⟨F,hF1,hF2⟩:=yW (w1.alloc (Obj.cells (cw 6 t) 52));have fb_0:=fun u=>zI (zE (hF1 u) _ _ _ Ac) 0 _ rfl;have fb_1:=fun u=>zI (zE (hF1 u) _ _ _ Ac) 1 _ rfl;have ft_0:=fun u=>zG (zE (hF1 u) _ _ _ Ad);refine yB F hF2 (by kernel_rfl) (by kernel_rfl) ?_
    repeat first|go_big_quiet_step (first|(go_at_call 95;exact quietF0 (KP.out _))|(go_at_call 122;exact yI hF1 hF2 (K3.out _))|fail)|quiet_step (first|(go_at_call 95;exact quietF0 (KP.out _))|(go_at_call 122;exact yI hF1 hF2 (K3.out _))|fail)
    refine wpQuiet_nil ?_;rintro _ ⟨uW,rfl⟩;have B3:=zW B2 (hF1 uW);obtain⟨Ak,Al⟩:=zZ (hF1 uW) Ac Ad;obtain⟨w3,hw⟩:∃ V,F uW=V:=⟨_,rfl⟩;rw [hw] at B3 Ak Al
    try rw [hw]
    clear hw hF1 hF2 B2 fb_0 fb_1 ft_0 Ac Ag Ah Ad Ai;clear F;obtain⟨Am,An⟩:=zM Ak;have Ao:=zG Al;go_wp2
    go_ret
    exact⟨rfl,B3⟩
 ·
  have b1:((e:Int) == (o:Int))=false:=by simp;omega
  rw [if_neg c1] at hc
  by_cases c2:e=0
  ·
   subst c2;rw [if_neg (by simp)] at hc
   by_cases c3:t=0
   ·
    subst c3;rw [if_neg (by simp)] at hc
    cases neg
    ·
     subst hc;obtain⟨Ab,B0⟩:=jD w (Obj.cells #[.int .u64 x,.int .u64 y] 26)
     go_enter Tryz.func67,Tryz.ntmps67
     go_wp2_with fail
     refine (K1.out _).mono ?_;rintro r w1 ⟨rfl,b1⟩;have B1:Below w.heap.size w w1:=zW B0 b1;have Aa:=zE b1 _ _ _ Ab;clear b1 B0 Ab;obtain⟨Ae,Af⟩:=zM Aa;have S2:=zJ B1.size;have Aj:=yC Aa;have Ad:=heap_alloc_last w1 (Obj.cells (cw 6 0) 52);have B2:=zW B1 (z9 w1 (Obj.cells (cw 6 0) 52));have Ac:=zE (z9 w1 (Obj.cells (cw 6 0) 52)) _ _ _ Aa;clear B1 Aa Ae Af;obtain⟨Ag,Ah⟩:=zM Ac;have Ai:=zG Ad;go_wp2_with fail
     refine (K2.out _).mono ?_;rintro r w' ⟨rfl,hw'⟩;obtain rfl:=hw'.symm;go_wp2
     go_ret
     exact⟨rfl,B2⟩
    ·
     subst hc;obtain⟨Ab,B0⟩:=jD w (Obj.cells #[.int .u64 x,.int .u64 y] 26)
     go_enter Tryz.func67,Tryz.ntmps67
     go_wp2_with fail
     refine (K1.out _).mono ?_;rintro r w1 ⟨rfl,b1⟩;have B1:Below w.heap.size w w1:=zW B0 b1;have Aa:=zE b1 _ _ _ Ab;clear b1 B0 Ab;obtain⟨Ae,Af⟩:=zM Aa;have S2:=zJ B1.size;have Aj:=yC Aa;have Ad:=heap_alloc_last w1 (Obj.cells (cw 6 0) 52);have B2:=zW B1 (z9 w1 (Obj.cells (cw 6 0) 52));have Ac:=zE (z9 w1 (Obj.cells (cw 6 0) 52)) _ _ _ Aa;clear B1 Aa Ae Af;obtain⟨Ag,Ah⟩:=zM Ac;have Ai:=zG Ad;go_wp2_with fail
     refine (K2.out _).mono ?_;rintro r w' ⟨rfl,hw'⟩;obtain rfl:=hw'.symm;go_wp2
     go_ret
     exact⟨rfl,B2⟩
   ·
    have z1:=zf.2 c3;rw [if_pos (by simpa using c3)] at hc
    cases neg
    ·
     subst hc;obtain⟨Ab,B0⟩:=jD w (Obj.cells #[.int .u64 x,.int .u64 y] 26)
     go_enter Tryz.func67,Tryz.ntmps67
     go_wp2_with fail
     refine (K1.out _).mono ?_;rintro r w1 ⟨rfl,b1⟩;have B1:Below w.heap.size w w1:=zW B0 b1;have Aa:=zE b1 _ _ _ Ab;clear b1 B0 Ab;obtain⟨Ae,Af⟩:=zM Aa;have S2:=zJ B1.size;have Aj:=yC Aa;have Ad:=heap_alloc_last w1 (Obj.cells (cw 6 t) 52);have B2:=zW B1 (z9 w1 (Obj.cells (cw 6 t) 52));have Ac:=zE (z9 w1 (Obj.cells (cw 6 t) 52)) _ _ _ Aa;clear B1 Aa Ae Af;obtain⟨Ag,Ah⟩:=zM Ac;have Ai:=zG Ad;go_wp2_with fail
     refine (K2.out _).mono ?_;rintro r w' ⟨rfl,hw'⟩;obtain rfl:=hw'.symm;go_wp2
     go_ret
     exact⟨rfl,B2⟩
    ·
     subst hc;obtain⟨Ab,B0⟩:=jD w (Obj.cells #[.int .u64 x,.int .u64 y] 26)
     go_enter Tryz.func67,Tryz.ntmps67
     go_wp2_with fail
     refine (K1.out _).mono ?_;rintro r w1 ⟨rfl,b1⟩;have B1:Below w.heap.size w w1:=zW B0 b1;have Aa:=zE b1 _ _ _ Ab;clear b1 B0 Ab;obtain⟨Ae,Af⟩:=zM Aa;have S2:=zJ B1.size;have Aj:=yC Aa;have Ad:=heap_alloc_last w1 (Obj.cells (cw 6 t) 52);have B2:=zW B1 (z9 w1 (Obj.cells (cw 6 t) 52));have Ac:=zE (z9 w1 (Obj.cells (cw 6 t) 52)) _ _ _ Aa;clear B1 Aa Ae Af;obtain⟨Ag,Ah⟩:=zM Ac;have Ai:=zG Ad;go_wp2_with fail
     refine (K2.out _).mono ?_;rintro r w' ⟨rfl,hw'⟩;obtain rfl:=hw'.symm;go_wp2
     go_ret
     exact⟨rfl,B2⟩
  ·
   have b2:((e:Int) != 0)=true:=by simp;omega
   rw [if_pos (by simpa using c2)] at hc
   cases neg
   ·
    subst hc;obtain⟨Ab,B0⟩:=jD w (Obj.cells #[.int .u64 x,.int .u64 y] 26)
    go_enter Tryz.func67,Tryz.ntmps67
    go_wp2_with fail
    refine (K1.out _).mono ?_;rintro r w1 ⟨rfl,b1⟩;have B1:Below w.heap.size w w1:=zW B0 b1;have Aa:=zE b1 _ _ _ Ab;clear b1 B0 Ab;obtain⟨Ae,Af⟩:=zM Aa;have S2:=zJ B1.size;have Aj:=yC Aa;have Ad:=heap_alloc_last w1 (Obj.cells (cw 6 t) 52);have B2:=zW B1 (z9 w1 (Obj.cells (cw 6 t) 52));have Ac:=zE (z9 w1 (Obj.cells (cw 6 t) 52)) _ _ _ Aa;clear B1 Aa Ae Af;obtain⟨Ag,Ah⟩:=zM Ac;have Ai:=zG Ad;go_wp2_with fail
    refine (K2.out _).mono ?_;rintro r w' ⟨rfl,hw'⟩;obtain rfl:=hw'.symm;go_wp2
    go_ret
    exact⟨rfl,B2⟩
   ·
    subst hc;obtain⟨Ab,B0⟩:=jD w (Obj.cells #[.int .u64 x,.int .u64 y] 26)
    go_enter Tryz.func67,Tryz.ntmps67
    go_wp2_with fail
    refine (K1.out _).mono ?_;rintro r w1 ⟨rfl,b1⟩;have B1:Below w.heap.size w w1:=zW B0 b1;have Aa:=zE b1 _ _ _ Ab;clear b1 B0 Ab;obtain⟨Ae,Af⟩:=zM Aa;have S2:=zJ B1.size;have Aj:=yC Aa;have Ad:=heap_alloc_last w1 (Obj.cells (cw 6 t) 52);have B2:=zW B1 (z9 w1 (Obj.cells (cw 6 t) 52));have Ac:=zE (z9 w1 (Obj.cells (cw 6 t) 52)) _ _ _ Aa;clear B1 Aa Ae Af;obtain⟨Ag,Ah⟩:=zM Ac;have Ai:=zG Ad;go_wp2_with fail
    refine (K2.out _).mono ?_;rintro r w' ⟨rfl,hw'⟩;obtain rfl:=hw'.symm;go_wp2
    go_ret
    exact⟨rfl,B2⟩
theorem rk_enc (f:Int)(neg:Bool)(e T v a b:Nat)(hf:y6 f)(hT:T<2 ^ pV f)(hev:e<=oV f)(hv:jA f neg e T=v)(hab:xX v=(a,b))(w:World) :
  Calls Tryz.prog 96 #[.int .u8 f,.bool neg,.int .i64 (e:Nat),.agg (cw 6 T)] w fun r w'=>r=.returned (.agg #[.int .u64 a,.int .u64 b])/\Below w.heap.size w w':=by
 have h:=r_enc f neg e T v hf (by have:=(fm hf).2.2.2.2.2.1;omega) hT hv hev w;rw [hab] at h;exact h
theorem rSign_yes (f:Int)(hf:y6 f)(x y n:Nat)(o:Bool)(hx:x<18446744073709551616)(hy:y<18446744073709551616)(hn:y+18446744073709551616*x=n)(ho:okB f n=true)(hc:kN f n=o)(w:World):Calls Tryz.prog 43 #[.int .u8 f,.agg #[.int .u64 x,.int .u64 y]] w fun r w'=>r=.returned (.bool o)/\Below w.heap.size w w':=by
 have hat:=yD 6;have hz:=yZ;have hff:=yX;have hs0:=jE;have hcs:∀ x,((cw 6 x).size=6)=True:=fun x=>eq_true (z8 6 x);have f4:=yP hf;have fit:=(qG f4.1 ho).2;have K1:=zJ (rk_fits f x y n true f4.1 hx hy hn ho);have K2:=zJ (rk_fields f hf x y n _ _ o hx hy hn fit hc rfl rfl);clear hf hx hy hn ho hc fit;obtain⟨Ac,B0⟩:=jD w (Obj.cells #[.int .u64 x,.int .u64 y] 26)
 go_enter Tryz.func43,Tryz.ntmps43
 go_wp2_with fail
 refine (K1.out _).mono ?_;rintro r w1 ⟨rfl,b1⟩;have B1:Below w.heap.size w w1:=zW B0 b1;have Ab:=zE b1 _ _ _ Ac;clear b1 B0 Ac;obtain⟨Ad,Ae⟩:=zM Ab;go_wp2_with fail
 refine (K2.out _).mono ?_;rintro r w2 ⟨rfl,b2⟩;have B2:Below w.heap.size w w2:=zW B1 b2;have Aa:=zE b2 _ _ _ Ab;clear b2 B1 Ab Ad Ae;obtain⟨Af,Ag⟩:=zM Aa;have S3:=zJ B2.size;have Aj:=yC Aa;have Ah:=heap_alloc_last w2 (Obj.cells (cw 6 (kT f n)) 52);have B3:=zW B2 (z9 w2 (Obj.cells (cw 6 (kT f n)) 52));have Ai:=zE (z9 w2 (Obj.cells (cw 6 (kT f n)) 52)) _ _ _ Aa;clear B2 Aa Af Ag;obtain⟨Ak,Al⟩:=zM Ai;have Am:=zG Ah;go_wp2
 go_ret
 exact⟨rfl,B3⟩
theorem flip_k {f:Int} (hf:y6 f) {n:Nat} (hfit:Fit f n):sgB f n true=jA f (!kN f n) (kE f n) (kT f n):=by
 rw [<-flip_enc hf _ (kE_le n) (kT_lt n),k_enc hf hfit]
 rfl
theorem rFlip_yes (f:Int)(hf:y6 f)(x y n u v:Nat)(hx:x<18446744073709551616)(hy:y<18446744073709551616)(hn:y+18446744073709551616*x=n)(ho:okB f n=true)(hc:xX (sgB f n true)=(u,v))(w:World):Calls Tryz.prog 56 #[.int .u8 f,.agg #[.int .u64 x,.int .u64 y]] w fun r w'=>r=.returned (.agg #[.int .u64 u,.int .u64 v])/\Below w.heap.size w w':=by
 have hat:=yD 6;have hz:=yZ;have hff:=yX;have hs0:=jE;have hcs:∀ x,((cw 6 x).size=6)=True:=fun x=>eq_true (z8 6 x);have f4:=yP hf;have fit:=(qG f4.1 ho).2;have K1:=zJ (rk_fits f x y n true f4.1 hx hy hn ho);have tl:=kT_lt (f:=f) n;have el:=kE_le (f:=f) n;have fk:=flip_k hf fit;obtain⟨neg,hneg⟩:∃ q,kN f n=q:=⟨_,rfl⟩;obtain⟨e,he⟩:∃ q,kE f n=q:=⟨_,rfl⟩;obtain⟨t,ht⟩:∃ q,kT f n=q:=⟨_,rfl⟩;have K2:=zJ (rk_fields f hf x y n e t neg hx hy hn fit hneg he ht);rw [hneg,he,ht] at fk;rw [he] at el;rw [ht] at tl;have K3:=zJ (rk_enc f (!neg) e t _ u v hf tl el fk.symm hc);clear hf hx hy hn ho hc fit fk el tl hneg he ht
 cases neg
 ·
  obtain⟨Ai,Aj,B0⟩:=xU w (Obj.cells #[.int .u64 x,.int .u64 y] 26) (Obj.cells #[.int .u64 0,.int .u64 0] 26)
  go_enter Tryz.func56,Tryz.ntmps56
  go_wp2_with fail
  refine (K1.out _).mono ?_;rintro r w1 ⟨rfl,b1⟩;have B1:Below w.heap.size w w1:=zW B0 b1;obtain⟨Ad,Ae⟩:=zZ b1 Ai Aj;clear b1 B0 Ai Aj;obtain⟨Ak,Al⟩:=zM Ad;obtain⟨Am,An⟩:=zM Ae;go_wp2_with fail
  refine (K2.out _).mono ?_;rintro r w2 ⟨rfl,b2⟩;have B2:Below w.heap.size w w2:=zW B1 b2;obtain⟨Aa,Ab⟩:=zZ b2 Ad Ae;clear b2 B1 Ad Ak Al Ae Am An;obtain⟨Ao,Ap⟩:=zM Aa;obtain⟨Aq,Ar⟩:=zM Ab;have S3:=zJ B2.size;have As:=yC Aa;have At:=yC Ab;have Af:=heap_alloc_last w2 (Obj.cells (cw 6 t) 52);have B3:=zW B2 (z9 w2 (Obj.cells (cw 6 t) 52));obtain⟨Ag,Ah⟩:=zZ (z9 w2 (Obj.cells (cw 6 t) 52)) Aa Ab;clear B2 Aa Ao Ap Ab Aq Ar;obtain⟨Au,Av⟩:=zM Ag;obtain⟨Aw,Ax⟩:=zM Ah;have Ay:=zG Af;go_wp2_with fail
  refine (K3.out _).mono ?_;rintro r w4 ⟨rfl,b4⟩;have B4:Below w.heap.size w w4:=zW B3 b4;obtain⟨Az,Ac,AA⟩:=yH b4 Ag Ah Af;clear b4 B3 Ag Au Av Ah Aw Ax Af Ay;obtain⟨AB,AC⟩:=zM Az;obtain⟨AD,AE⟩:=zM Ac;have AF:=zG AA;have q0:=fz (k:=0) Ac;have q1:=fz (k:=1) Ac;obtain⟨E0,E1⟩:=zQ Ac (.int .u64 u) (.int .u64 v);go_wp2
  exact bodyPost_ret (v:=.agg #[.int .u64 u,.int .u64 v]) (by simp [results,Tryz.results56,go_sem,E0,E1]) rfl ⟨rfl,zN B4 (by first|exact Nat.le_refl _|omega|(have:=S3.out;have:=As.out;have:=At.out;omega)) _ _⟩
 ·
  obtain⟨Ai,Aj,B0⟩:=xU w (Obj.cells #[.int .u64 x,.int .u64 y] 26) (Obj.cells #[.int .u64 0,.int .u64 0] 26)
  go_enter Tryz.func56,Tryz.ntmps56
  go_wp2_with fail
  refine (K1.out _).mono ?_;rintro r w1 ⟨rfl,b1⟩;have B1:Below w.heap.size w w1:=zW B0 b1;obtain⟨Ad,Ae⟩:=zZ b1 Ai Aj;clear b1 B0 Ai Aj;obtain⟨Ak,Al⟩:=zM Ad;obtain⟨Am,An⟩:=zM Ae;go_wp2_with fail
  refine (K2.out _).mono ?_;rintro r w2 ⟨rfl,b2⟩;have B2:Below w.heap.size w w2:=zW B1 b2;obtain⟨Aa,Ab⟩:=zZ b2 Ad Ae;clear b2 B1 Ad Ak Al Ae Am An;obtain⟨Ao,Ap⟩:=zM Aa;obtain⟨Aq,Ar⟩:=zM Ab;have S3:=zJ B2.size;have As:=yC Aa;have At:=yC Ab;have Af:=heap_alloc_last w2 (Obj.cells (cw 6 t) 52);have B3:=zW B2 (z9 w2 (Obj.cells (cw 6 t) 52));obtain⟨Ag,Ah⟩:=zZ (z9 w2 (Obj.cells (cw 6 t) 52)) Aa Ab;clear B2 Aa Ao Ap Ab Aq Ar;obtain⟨Au,Av⟩:=zM Ag;obtain⟨Aw,Ax⟩:=zM Ah;have Ay:=zG Af;go_wp2_with fail
  refine (K3.out _).mono ?_;rintro r w4 ⟨rfl,b4⟩;have B4:Below w.heap.size w w4:=zW B3 b4;obtain⟨Az,Ac,AA⟩:=yH b4 Ag Ah Af;clear b4 B3 Ag Au Av Ah Aw Ax Af Ay;obtain⟨AB,AC⟩:=zM Az;obtain⟨AD,AE⟩:=zM Ac;have AF:=zG AA;have q0:=fz (k:=0) Ac;have q1:=fz (k:=1) Ac;obtain⟨E0,E1⟩:=zQ Ac (.int .u64 u) (.int .u64 v);go_wp2
  exact bodyPost_ret (v:=.agg #[.int .u64 u,.int .u64 v]) (by simp [results,Tryz.results56,go_sem,E0,E1]) rfl ⟨rfl,zN B4 (by first|exact Nat.le_refl _|omega|(have:=S3.out;have:=As.out;have:=At.out;omega)) _ _⟩
theorem rNaN_is (f:Int)(hf:y6 f)(x y n c:Nat)(o:Bool)(hx:x<18446744073709551616)(hy:y<18446744073709551616)(hn:y+18446744073709551616*x=n)(hfit:Fit f n)(hc:kC f n=c)(ho:decide (8<=c)=o)(w:World):Calls Tryz.prog 41 #[.int .u8 f,.agg #[.int .u64 x,.int .u64 y]] w fun r w'=>r=.returned (.bool o)/\Below w.heap.size w w':=by
 have K1:=zJ (rk_class f hf x y n c hx hy hn hfit hc);have hd:decide ((8:Int)<=(c:Int))=o:=by rw [<-ho,decide_eq_decide];omega
 clear hf hx hy hn hfit hc ho;obtain⟨Aa,B0⟩:=jD w (Obj.cells #[.int .u64 x,.int .u64 y] 26)
 go_enter Tryz.func41,Tryz.ntmps41
 go_wp2_with fail
 refine (K1.out _).mono ?_;rintro r w1 ⟨rfl,b1⟩;have B1:Below w.heap.size w w1:=zW B0 b1;have Ab:=zE b1 _ _ _ Aa;clear b1 B0 Aa;obtain⟨Ac,Ad⟩:=zM Ab;go_wp2
 go_ret
 exact⟨rfl,B1⟩
def qt (f:Int)(n:Nat):Nat:=if kC f n=8 then n+2 ^ (pV f-1) else n
end Go.Proofs.YtapikkbifdldfaaGreatDoor
