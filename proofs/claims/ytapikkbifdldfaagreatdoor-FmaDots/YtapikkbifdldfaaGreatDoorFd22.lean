/-
  What the functions that the statement reaches return: part 22 (R24, O1, D1, D3, M0, M2, O5, A0, A1, A3, A5, Z0, O4).
-/
import Derived.Test.YtapikkbifdldfaaGreatDoorFd21
namespace Go.Proofs.YtapikkbifdldfaaGreatDoor
set_option maxRecDepth 100000
set_option maxHeartbeats 40000000
open Go.RowKit WMath XMath
set_option linter.unusedSimpArgs false
set_option linter.unusedVariables false
def Fnd0 (f:Int)(x:XN)(T:Int)(W:Nat)(more:Bool):Prop:=T=xN x/\∀ k:Nat,T-fP f+(k:Int)<=2000000->flX x (T-fP f+(k:Int))=((W / 2 ^ k,!more && decide (W % 2 ^ k=0)),0)
theorem fnd_x0 {f:Int} (hf:y7 f) {x:XN} (hx:x.can)(n0:x.n≠0)(hd:nl x.d<=8192):Wok f (xW f x)/\Fnd0 f x (xN x) (xW f x) (xM f x):=by
 obtain⟨t1,t2⟩:=top_lim hx;obtain⟨a,b⟩:=x_num hf x hx n0 hd t1 t2;exact⟨a,rfl,b⟩
theorem rfind0 (f:Int)(hf:y7 f)(b:Bool)(n d:Nat)(s t:ByteArray)(e:Int)(hs:yN n=s)(ht:yN d=t)(hc:(XN.mk b n d e).can)(T:Int)(t1:-1300000<=T)(t2:T<=1300000)(W:Nat)(more:Bool)(lw:nl W<=8192)(hF:Fnd0 f ⟨b,n,d,e⟩ T W more)(k:Nat)(A:Int)(hA:T-fP f+1+(k:Int)=A)(hA2:A<=900000)(M:ByteArray)(hM:yN (rS W k)=M)(w:World) :
  Calls Tryz.prog 162 #[.agg #[.bool b,.string s,.string t,.int .i64 e],.bool false,.int .i64 A] w fun r w'=>r=.returned (.agg #[.string M,.int .i64 A,.int .i64 (hfV (rH W k) (rM W k more)),.bool (!(rH W k || rM W k more))])/\Below w.heap.size w w':=by
 have p:=fp8 hf;have n4:=(nm8 hf).2.2.2.1;have d1:nl (W / 2 ^ k)<=8192:=Nat.le_trans (xQ _ _ (Nat.div_le_self _ _)) lw;have KL:zZ 202 #[.string (yN (W / 2 ^ k))] (.bool (rH W k)):=zJ (fun w=>rf_last _ _ _ rfl (by omega) (last_is W k) w);obtain⟨hTx,hF⟩:=hF;have F1:=hF (k+1) (by omega);have F2:=hF k (by omega);rw [cut_two,ex_is,show T-fP f+((k+1:Nat):Int)=A by omega] at F1;rw [wh_is] at F2;have K1:zZ 201 #[.agg #[.bool b,.string s,.string t,.int .i64 e],.int .i64 A] (.tuple #[.string M,.bool (!(rH W k || rM W k more)),.int .i64 0]):=zJ (fun w=>rFloor_ok b n d e s t A _ _ 0 M hs ht hc (by omega) (by omega) F1 hM w);have K2:zZ 201 #[.agg #[.bool b,.string s,.string t,.int .i64 e],.int .i64 (T-fP f+(k:Int))] (.tuple #[.string (yN (W / 2 ^ k)),.bool (!rM W k more),.int .i64 0]):=zJ (fun w=>rFloor_ok b n d e s t _ _ _ 0 _ hs ht hc (by omega) (by omega) F2 rfl w);have a1:IntKind.i64.wrap (A-1)=T-fP f+(k:Int):=by rw [zR _ (by omega) (by omega)];omega
 generalize rH W k=H at *;generalize rM W k more=R at *
 cases H <;> cases R
 ·
  exact rf_find_ex b s t e A A A 0 0 M M M M M M w K1
 ·
  exact rf_find_lo1 b s t e A _ A 0 0 M M _ M M M w K1 K2 KL a1
 ·
  exact rf_find_half b s t e A _ A 0 0 M M _ M M M w K1 K2 KL a1
 ·
  exact rf_find_hi b s t e A _ A 0 0 M M _ M M M w K1 K2 KL a1
theorem rtop0 (f:Int)(b:Bool)(n d:Nat)(s t:ByteArray)(e:Int)(hs:yN n=s)(ht:yN d=t)(hc:(XN.mk b n d e).can)(n0:n≠0)(T:Int)(W:Nat)(more:Bool)(hF:Fnd0 f ⟨b,n,d,e⟩ T W more)(w:World):Calls Tryz.prog 160 #[.agg #[.bool b,.string s,.string t,.int .i64 e],.bool false] w fun r w'=>r=.returned (.int .i64 T)/\Below w.heap.size w w':=by
 obtain⟨t1,t2⟩:=top_lim hc;exact rf_top b s t e T 0 w (zJ (fun w=>rTop_ok b n d e s t T hs ht n0 hc hF.1.symm w))
theorem rtiny0 (f m:Int)(hf:y7 f)(hm:0<=m/\m<=4)(b:Bool)(n d:Nat)(s t:ByteArray)(e:Int)(hs:yN n=s)(ht:yN d=t)(hc:(XN.mk b n d e).can)(n0:n≠0)(T:Int)(t1:-1300000<=T)(t2:T<=1300000)(W:Nat)(more:Bool)(hW:Wok f W)(hF:Fnd0 f ⟨b,n,d,e⟩ T W more)(o:Bool)(ho:tnB f m b T W more=o)(w:World) :
  Calls Tryz.prog 165 #[.int .u8 f,.int .u8 m,.agg #[.bool b,.string s,.string t,.int .i64 e],.bool false] w fun r w'=>r=.returned (.bool o)/\Below w.heap.size w w':=by
 have p:=fp8 hf;obtain⟨n1,n2,n3,n4,n5,n6⟩:=nm8 hf;have KT:zZ 160 #[.agg #[.bool b,.string s,.string t,.int .i64 e],.bool false] (.int .i64 T):=zJ (fun w=>rtop0 f b n d s t e hs ht hc n0 T W more hF w);have KI:zZ 150 #[.int .u8 f] (.int .i64 (1-fE f)):=zJ (fun w=>r_emin_b f hf w);have i1:IntKind.i64.wrap (1-fE f-1)=1-fE f-1:=zR _ (by omega) (by omega)
 by_cases c1:1-fE f<=T
 ·
  rw [tn_hi hf hW m b T more c1] at ho;subst ho;exact rf_tiny_hi f m b s t e false T _ 0 0 0 0 0 s s false false 0 w KT KI (decide_eq_true c1)
 by_cases c2:T<1-fE f-1
 ·
  rw [tn_lo hf hW m b T more c2] at ho;subst ho;exact rf_tiny_lo f m b s t e false T _ _ 0 0 0 0 s s false false 0 w KT KI (decide_eq_false c1) i1 (decide_eq_true c2)
 ·
  rw [tn_mid hf m b T more (by omega)] at ho;have lim:=(rG_lim hW m b 0 more).1
  exact rf_tiny_mid f m b s t e false T _ _ (fP f) (T-fP f) (T-fP f+1) _ (yN (rS W 0)) (yN (rG m b W 0 more)) _ o _ w KT KI (zJ (fun w=>r_prec_b f hf w))
   (zJ (fun w=>rfind0 f hf b n d s t e hs ht hc T t1 t2 W more (nl_W hf hW) hF 0 _ (by omega) (by omega) _ rfl w))
   (zJ (fun w=>rtaken m hm b W 0 more (nl_W hf hW) _ _ _ rfl rfl w))
   (zJ (fun w=>xP (qJ _ _ _ rfl (nl_small hf _ lim) rfl w))) (decide_eq_false c1) i1 (decide_eq_false c2) (zR _ (by omega) (by omega)) (zR _ (by omega) (by omega)) ho
theorem rdeliver0 (f m:Int)(hf:y7 f)(hm:0<=m/\m<=4)(b:Bool)(n d:Nat)(s t:ByteArray)(e:Int)(hs:yN n=s)(ht:yN d=t)(hc:(XN.mk b n d e).can)(n0:n≠0)(T:Int)(t1:-1300000<=T)(t2:T<=1300000)(W:Nat)(more:Bool)(hW:Wok f W)(hF:Fnd0 f ⟨b,n,d,e⟩ T W more)(M:Nat)(fl:Int)(hd:dlv f m b T W more=(M,fl))(u v:Nat)(hv:qA M=(u,v))(w:World) :
  Calls Tryz.prog 104 #[.int .u8 f,.int .u8 m,.agg #[.bool b,.string s,.string t,.int .i64 e],.bool false] w fun r w'=>r=.returned (.tuple #[.agg #[.int .u64 u,.int .u64 v],.int .u8 fl])/\Below w.heap.size w w':=by
 have p:=fp8 hf;obtain⟨n1,n2,n3,n4,n5,n6⟩:=nm8 hf;have KT:zZ 160 #[.agg #[.bool b,.string s,.string t,.int .i64 e],.bool false] (.int .i64 T):=zJ (fun w=>rtop0 f b n d s t e hs ht hc n0 T W more hF w);have KP:zZ 95 #[.int .u8 f] (.int .i64 (fP f)):=zJ (fun w=>r_prec_b f hf w);have KE:zZ 149 #[.int .u8 f] (.int .i64 (fE f)):=zJ (fun w=>r_emax_b f hf w);have KI:zZ 150 #[.int .u8 f] (.int .i64 (1-fE f)):=zJ (fun w=>r_emin_b f hf w)
 by_cases c0:fE f<T
 ·
  rw [dlv_over hf hW m b T more c0] at hd;injection hd with a1 a2;subst a1 a2;exact rf_del_over f m b s t e false T _ _ 0 0 0 0 0 s s false false s s 0 0 u v false w KT KP KE (zJ (fun w=>rover f m hf hm b u v hv w)) (decide_eq_true c0)
 have lim:=rG_lim hW m b (dK f T) more;have sl:=nl_W hf hW;have kk:stE f T-T=(dK f T:Int):=by unfold dK stE;omega
 have stx:=st_lx hf T;obtain⟨S,hS⟩:∃ S,rG m b W (dK f T) more=S:=⟨_,rfl⟩;have nlim:=null_lim hf hW m b (dK f T) more;have kb:dK f T<=1400000:=by unfold dK stE;omega
 have jb:dJ f T<=40000:=by unfold dJ stE;omega
 unfold dlv at hd
 rw [hS] at hd lim nlim
 have hj:dJ f T=0∨2 ^ pV f<=S:=by
  rcases jk (f:=f) T with ⟨a,_⟩|⟨a,_⟩
  ·
   exact Or.inl a
  ·
   exact Or.inr (lim.2.1 a)
 obtain⟨x,hx,xc,xz⟩:∃ x:XN,XMath.mk b S 1 (lx f+(dJ f T:Int))=(x,0)/\x.can/\(x.n=0↔S=0):=by
  by_cases s0:S=0
  ·
   subst s0;exact⟨X0,mk_null _ _ _,x0_can,by decide⟩
  ·
   obtain⟨a,c,d,_⟩:=mk_small hf b (dJ f T) S s0 lim.1 jb;exact⟨_,a,c,⟨fun h=>absurd h d,fun h=>absurd h s0⟩⟩
 obtain⟨xb,xn,xd,xe⟩:=x
 obtain⟨i,j,ok,hij,hok1,hok2,hok3⟩:∃ i j ok,(S≠0->∃ Mx,ofX f ⟨xb,xn,xd,xe⟩=(Mx,ok)/\qA Mx=(i,j))/\(ok=true->i=u/\j=v)/\(ok=true->¬ fE f<stE f T-fP f+(zV S:Int))/\(ok=false->fE f<stE f T-fP f+(zV S:Int)):=by
  by_cases s0:S=0
  ·
   have b0:zV S=0:=by rw [s0];decide
   exact⟨u,v,true,fun h=>absurd s0 h,fun _=>⟨rfl,rfl⟩,fun _=>by rw [b0];unfold stE;omega,fun h=>Bool.noConfusion h⟩
  ·
   obtain⟨a,c,dd,tp⟩:=mk_small hf b (dJ f T) S s0 lim.1 jb;rw [hx] at a;injection a with a1 a2
   by_cases ov:fE f<stE f T-fP f+(zV S:Int)
   ·
    exact⟨0,0,false,fun _=>⟨0,by rw [a1];exact of_over hf b (dJ f T) S s0 lim.1 jb (by omega),rfl⟩,fun h=>Bool.noConfusion h,fun h=>Bool.noConfusion h,fun _=>ov⟩
   ·
    have hd2:=hd;rw [if_neg ov] at hd2;injection hd2 with h1 h2;exact⟨u,v,true,fun _=>⟨M,by rw [a1,<-h1];exact of_rep hf b (dJ f T) S s0 lim.1 hj (by omega),hv⟩,fun _=>⟨rfl,rfl⟩,fun _=>ov,fun h=>Bool.noConfusion h⟩
 have b0:S=0->zV S=0:=fun h=>by rw [h];decide
 have nul0:S=0->M=xY f b/\fl=3:=fun s0=>by
  obtain⟨k3,kl⟩:=nlim s0;have hj0:dJ f T=0:=by have:=Nat.two_pow_pos (pV f);omega
  rw [if_neg (by rw [b0 s0];unfold stE;omega)] at hd;injection hd with h1 h2;rw [if_pos kl,if_pos (tn_lo hf hW m b T more (by rcases jk (f:=f) T with ⟨_,q⟩|⟨q,_⟩ <;> omega))] at h2;refine ⟨?_,h2.symm⟩;rw [<-h1,hj0,s0]
  unfold eS xY jH
  rfl
 have KF:∀ A0,A0=stE f T->zZ 162 #[.agg #[.bool b,.string s,.string t,.int .i64 e],.bool false,.int .i64 (A0-fP f+1)] (.agg #[.string (yN (rS W (dK f T))),.int .i64 (A0-fP f+1),.int .i64 (hfV (rH W (dK f T)) (rM W (dK f T) more)),.bool (!(rH W (dK f T) || rM W (dK f T) more))]):=fun A0 h0=>zJ (fun w=>rfind0 f hf b n d s t e hs ht hc T t1 t2 W more sl hF (dK f T) _ (by omega) (by rw [h0];unfold stE;omega) _ rfl w);have KK:∀ A,zZ 163 #[.int .u8 m,.bool b,.agg #[.string (yN (rS W (dK f T))),.int .i64 A,.int .i64 (hfV (rH W (dK f T)) (rM W (dK f T) more)),.bool (!(rH W (dK f T) || rM W (dK f T) more))]] (.string (yN S)):=fun A=>zJ (fun w=>rtaken m hm b W (dK f T) more sl A _ _ rfl (by rw [hS]) w);have KM:∀ A0,A0=stE f T->zZ 99 #[.bool b,.string (yN S),.string ⟨#[1]⟩,.int .i64 (A0-fP f+1)] (.tuple #[.agg #[.bool xb,.string (yN xn),.string (yN xd),.int .i64 xe],.int .i64 0]):=fun A0 h0=>zJ (fun w=>rmake_ok b S 1 _ _ _ xb xn xd xe 0 _ _ rfl nb1 (nl_small hf S lim.1) nl1 (by decide) (by omega) (by omega) (by rw [h0,stx];exact hx) rfl rfl w);have hn:((yN xn).toList == [])=decide (S=0):=by rw [od_nil xn _ rfl,decide_eq_decide];exact xz
 have hfl:(if decide (S=0)=true then (3:Int) else if ok=true then (if (!(rH W (dK f T) || rM W (dK f T) more))=true then 0 else if tnB f m b T W more=true then 3 else 1) else 5)=fl:=by
  by_cases s0:S=0
  ·
   rw [if_pos (decide_eq_true s0)];exact (nul0 s0).2.symm
  ·
   rw [if_neg (by simpa using s0)]
   cases ok
   ·
    rw [if_neg (by decide)];rw [if_pos (hok3 rfl)] at hd;injection hd
   ·
    rw [if_pos rfl];rw [if_neg (hok2 rfl)] at hd;injection hd with h1 h2;rw [<-h2];generalize (rH W (dK f T) || rM W (dK f T) more)=q
    cases q <;> rfl
 have KZ:zW (decide (S=0)=true->∀ w,Calls Tryz.prog 47 #[.int .u8 f,.bool b] w fun r w'=>r=.returned (.agg #[.int .u64 u,.int .u64 v])/\Below w.heap.size w w'):=zJ (fun h w=>rz_zero f b hf u v (by rw [<-(nul0 (of_decide_eq_true h)).1];exact hv) w)
 have KB:zW (decide (S=0)=false->∀ w,Calls Tryz.prog 164 #[.int .u8 f,.agg #[.bool xb,.string (yN xn),.string (yN xd),.int .i64 xe]] w fun r w'=>r=.returned (.tuple #[.agg #[.int .u64 i,.int .u64 j],.bool ok])/\Below w.heap.size w w'):=zJ (fun h w=>by
  obtain⟨Mx,q1,q2⟩:=hij (of_decide_eq_false h);exact rOf_is f hf xb xn xd _ _ xe rfl rfl xc Mx ok i j q1 q2 w)
 have KO:zW (ok=false->∀ w,Calls Tryz.prog 161 #[.int .u8 f,.int .u8 m,.bool b] w fun r w'=>r=.returned (.agg #[.int .u64 u,.int .u64 v])/\Below w.heap.size w w'):=zJ (fun h w=>rover f m hf hm b u v (by
  rw [if_pos (hok3 h)] at hd;injection hd with h1 h2;rw [h1];exact hv) w)
 have KN:zZ 165 #[.int .u8 f,.int .u8 m,.agg #[.bool b,.string s,.string t,.int .i64 e],.bool false] (.bool (tnB f m b T W more)):=zJ (fun w=>rtiny0 f m hf hm b n d s t e hs ht hc n0 T t1 t2 W more hW hF _ rfl w)
 by_cases lo:T<1-fE f
 ·
  have hst:1-fE f=stE f T:=by unfold stE;omega
  exact rf_deliver_a f m b s t e false T (fE f) (fP f) (1-fE f) (1-fE f) _ (1-fE f-fP f+1) _ fl _ _ _ xb _ _ xe 0 u v i j ok _ _ w KT KP KE KI (KF _ hst) (KK _) (KM _ hst) KZ KB KO hok1 KN (decide_eq_false c0) (decide_eq_true lo) (zR _ (by omega) (by omega)) (zR _ (by omega) (by omega)) rfl hn hfl
 ·
  have hst:T=stE f T:=by unfold stE;omega
  exact rf_deliver_b f m b s t e false T (fE f) (fP f) (1-fE f) T _ (T-fP f+1) _ fl _ _ _ xb _ _ xe 0 u v i j ok _ _ w KT KP KE KI (KF _ hst) (KK _) (KM _ hst) KZ KB KO hok1 KN (decide_eq_false c0) (decide_eq_false lo) (zR _ (by omega) (by omega)) (zR _ (by omega) (by omega)) rfl hn hfl
theorem rRound_is0 (f m:Int)(hf:y7 f)(hm:0<=m/\m<=4)(b:Bool)(n d:Nat)(s t:ByteArray)(e:Int)(hs:yN n=s)(ht:yN d=t)(hc:(XN.mk b n d e).can)(ln:nl n<=8192)(ld:nl d<=8192)(M:Nat)(fl:Int)(hd:rnd f m ⟨b,n,d,e⟩=(M,fl))(u v:Nat)(hv:qA M=(u,v))(w:World) :
  Calls Tryz.prog 50 #[.int .u8 f,.int .u8 m,.agg #[.bool b,.string s,.string t,.int .i64 e]] w fun r w'=>r=.returned (.tuple #[.agg #[.int .u64 u,.int .u64 v],.int .u8 fl,.int .i64 0])/\Below w.heap.size w w':=by
 have KF:zZ 103 #[.int .u8 f,.int .u8 m,.agg #[.bool b,.string s,.string t,.int .i64 e]] (.int .i64 0):=zJ (fun w=>rfault f m b s t e true (may_yes hs ht hc) 0 (flt_ok hf hm hs ht ln ld) w)
 unfold rnd at hd
 rcases x_cases hs ht hc with ⟨n0,rfl,rfl,rfl,rfl,rfl⟩|⟨n0,e0⟩
 ·
  rw [if_pos n0] at hd;injection hd with h1 h2;subst h1 h2;injection hv with h3 h4;subst h3 h4;exact rf_Round_null f m w KF
 ·
  rw [if_neg n0] at hd;obtain⟨t1,t2⟩:=top_lim hc;obtain⟨q1,q2⟩:=fnd_x0 hf hc n0 ld;exact rf_Round_ok f m b s t e u v fl w KF (zJ (fun w=>rdeliver0 f m hf hm b n d s t e hs ht hc n0 _ (by omega) (by omega) _ _ q1 q2 M fl hd u v hv w)) (eq_nil n s hs n0)
end Go.Proofs.YtapikkbifdldfaaGreatDoor
namespace Go.Proofs.YtapikkbifdldfaaGreatDoor
set_option maxRecDepth 100000
set_option maxHeartbeats 40000000
open Go.RowKit WMath
set_option linter.unusedSimpArgs false
set_option linter.unusedVariables false
theorem op_endless (c:Nat)(o:Bool)(ho:(decide (c=0) || decide (c=7))=o)(w:World):Calls Tryz.prog 70 #[.int .u8 c] w fun r w'=>r=.returned (.bool o)/\Below w.heap.size w w':=by
 by_cases c0:c=0
 ·
  rw [decide_eq_true c0,Bool.true_or] at ho;subst ho;have d0:((c:Int) == 0)=true:=by rw [c0];rfl
  clear c0;have B0:Below w.heap.size w w:=(Below.refl _ _)
  go_enter Tryz.func70,Tryz.ntmps70
  go_wp2
  go_ret
  exact⟨rfl,B0⟩
 ·
  rw [decide_eq_false c0,Bool.false_or] at ho;have d0:((c:Int) == 0)=false:=by rw [beq_eq_false_iff_ne];omega
  have d7:((c:Int) == 7)=o:=by
   rw [<-ho]
   by_cases c7:c=7
   ·
    rw [decide_eq_true c7,c7];rfl
   ·
    rw [decide_eq_false c7,beq_eq_false_iff_ne];omega
  clear ho c0;have B0:Below w.heap.size w w:=(Below.refl _ _)
  go_enter Tryz.func70,Tryz.ntmps70
  go_wp2
  go_ret
  exact⟨rfl,B0⟩
theorem op_naught (c:Nat)(o:Bool)(ho:(decide (c=3) || decide (c=4))=o)(w:World):Calls Tryz.prog 71 #[.int .u8 c] w fun r w'=>r=.returned (.bool o)/\Below w.heap.size w w':=by
 by_cases c0:c=3
 ·
  rw [decide_eq_true c0,Bool.true_or] at ho;subst ho;have d0:((c:Int) == 3)=true:=by rw [c0];rfl
  clear c0;have B0:Below w.heap.size w w:=(Below.refl _ _)
  go_enter Tryz.func71,Tryz.ntmps71
  go_wp2
  go_ret
  exact⟨rfl,B0⟩
 ·
  rw [decide_eq_false c0,Bool.false_or] at ho;have d0:((c:Int) == 3)=false:=by rw [beq_eq_false_iff_ne];omega
  have d7:((c:Int) == 4)=o:=by
   rw [<-ho]
   by_cases c7:c=4
   ·
    rw [decide_eq_true c7,c7];rfl
   ·
    rw [decide_eq_false c7,beq_eq_false_iff_ne];omega
  clear ho c0;have B0:Below w.heap.size w w:=(Below.refl _ _)
  go_enter Tryz.func71,Tryz.ntmps71
  go_wp2
  go_ret
  exact⟨rfl,B0⟩
theorem op_inf (f:Int)(neg:Bool)(u v:Nat)(w:World)(KI:xK 76 #[.int .u8 f,.int .u8 0,.bool neg] (.tuple #[.agg #[.int .u64 u,.int .u64 v],.int .u8 5,.int .i64 0]))(hT:y6 w):Calls Tryz.prog 36 #[.int .u8 f,.bool neg] w fun r w'=>r=.returned (.agg #[.int .u64 u,.int .u64 v])/\Below w.heap.size w w':=by
 have FF:=zJ hT;clear hT;obtain⟨Ac,B0⟩:=yR w (Obj.cells #[.int .u64 0,.int .u64 0] 26)
 go_enter Tryz.func36,Tryz.ntmps36
 go_wp2_with fail
 refine (KI.out _ (z7 FF.out B0)).mono ?_;rintro r w1 ⟨rfl,b1⟩;have B1:=zS B0 b1;have Aa:=zA b1 _ _ _ Ac;clear b1 B0 Ac;obtain⟨Ad,Ae⟩:=zC Aa;have S2:=zJ B1.size;have Af:=yC Aa;have Ag:=heap_alloc_last w1 (Obj.cells #[.int .u64 u,.int .u64 v] 26);have B2:=zS B1 (yK w1 (Obj.cells #[.int .u64 u,.int .u64 v] 26));have Ab:=zA (yK w1 (Obj.cells #[.int .u64 u,.int .u64 v] 26)) _ _ _ Aa;clear B1 Aa Ad Ae;obtain⟨Ah,Ai⟩:=zC Ab;obtain⟨Aj,Ak⟩:=zC Ag;have q0:=fz (k:=0) Ab;have q1:=fz (k:=1) Ab;obtain⟨E0,E1⟩:=zQ Ab (.int .u64 u) (.int .u64 v);go_wp2
 exact bodyPost_ret (v:=.agg #[.int .u64 u,.int .u64 v]) (by simp [results,Tryz.results36,go_sem,E0,E1]) rfl ⟨rfl,zN B2 (by first|exact Nat.le_refl _|omega|(have:=S2.out;have:=Af.out;omega)) _ _⟩
theorem op_nan (f:Int)(iu iv a b c u v:Nat)(l o:Bool)(w:World)(KI:xK 36 #[.int .u8 f,.bool false] (.agg #[.int .u64 iu,.int .u64 iv]))
  (KO:zZ 72 #[.agg #[.int .u64 iu,.int .u64 iv]] (.agg (cw 6 a)))
  (KR:zZ 73 #[.agg (cw 6 a),.int .i64 1] (.tuple #[.agg (cw 6 b),.bool l]))
  (KU:zZ 75 #[.agg (cw 6 a),.agg (cw 6 b)] (.agg (cw 6 c)))
  (KT:zZ 74 #[.agg (cw 6 c)] (.tuple #[.agg #[.int .u64 u,.int .u64 v],.bool o])) (hT:y6 w):Calls Tryz.prog 35 #[.int .u8 f] w fun r w'=>r=.returned (.agg #[.int .u64 u,.int .u64 v])/\Below w.heap.size w w':=by
 have FF:=zJ hT;clear hT;have hat:=yD 6;have hz:=yZ;have hff:=yY;have hs0:=jD;have hcs:∀ x,((cw 6 x).size=6)=True:=fun x=>eq_true (z8 6 x);obtain⟨Aq,B0⟩:=yR w (Obj.cells #[.int .u64 0,.int .u64 0] 26)
 go_enter Tryz.func35,Tryz.ntmps35
 go_wp2_with fail
 refine (KI.out _ (z7 FF.out B0)).mono ?_;rintro r w1 ⟨rfl,b1⟩;have B1:=zS B0 b1;have Ah:=zA b1 _ _ _ Aq;clear b1 B0 Aq;obtain⟨Ar,As⟩:=zC Ah;go_wp2_with fail
 refine (KO.out _).mono ?_;rintro r w2 ⟨rfl,b2⟩;have B2:=zS B1 b2;have Aa:=zA b2 _ _ _ Ah;clear b2 B1 Ah Ar As;obtain⟨At,Au⟩:=zC Aa;have S3:=zJ B2.size;have Av:=yC Aa;have Ai:=heap_alloc_last w2 (Obj.cells (cw 6 a) 52);have B3:=zS B2 (yK w2 (Obj.cells (cw 6 a) 52));have Aj:=zA (yK w2 (Obj.cells (cw 6 a) 52)) _ _ _ Aa;clear B2 Aa At Au;obtain⟨Aw,Ax⟩:=zC Aj;have Ay:=zG Ai;go_wp2_with fail
 refine (KR.out _).mono ?_;rintro r w4 ⟨rfl,b4⟩;have B4:=zS B3 b4;obtain⟨Ab,Ac⟩:=z6 b4 Aj Ai;clear b4 B3 Aj Aw Ax Ai Ay;obtain⟨Az,AA⟩:=zC Ab;have AB:=zG Ac;have S5:=zJ B4.size;have AC:=yC Ab;have AD:=yC Ac;have Ak:=heap_alloc_last w4 (Obj.cells (cw 6 b) 52);have B5:=zS B4 (yK w4 (Obj.cells (cw 6 b) 52));obtain⟨Al,Am⟩:=z6 (yK w4 (Obj.cells (cw 6 b) 52)) Ab Ac;clear B4 Ab Az AA Ac AB;obtain⟨AE,AF⟩:=zC Al;have AG:=zG Am;have AH:=zG Ak;go_wp2_with fail
 refine (KU.out _).mono ?_;rintro r w6 ⟨rfl,b6⟩;have B6:=zS B5 b6;obtain⟨An,Ao,Ap⟩:=yJ b6 Al Am Ak;clear b6 B5 Al AE AF Am AG Ak AH;obtain⟨AI,AJ⟩:=zC An;have AK:=zG Ao;have AL:=zG Ap;go_wp2_with fail
 refine (KT.out _).mono ?_;rintro r w7 ⟨rfl,b7⟩;have B7:=zS B6 b7;obtain⟨Ad,Ae,Af⟩:=yJ b7 An Ao Ap;clear b7 B6 An AI AJ Ao AK Ap AL;obtain⟨AM,AN⟩:=zC Ad;have AO:=zG Ae;have AP:=zG Af;have S8:=zJ B7.size;have AQ:=yC Ad;have AR:=yC Ae;have AS:=yC Af;have AT:=heap_alloc_last w7 (Obj.cells #[.int .u64 u,.int .u64 v] 26);have B8:=zS B7 (yK w7 (Obj.cells #[.int .u64 u,.int .u64 v] 26));obtain⟨Ag,AU,AV⟩:=yJ (yK w7 (Obj.cells #[.int .u64 u,.int .u64 v] 26)) Ad Ae Af;clear B7 Ad AM AN Ae AO Af AP;obtain⟨AW,AX⟩:=zC Ag;have AY:=zG AU;have AZ:=zG AV;obtain⟨A0,A1⟩:=zC AT;have q0:=fz (k:=0) Ag;have q1:=fz (k:=1) Ag;obtain⟨E0,E1⟩:=zQ Ag (.int .u64 u) (.int .u64 v);go_wp2
 exact bodyPost_ret (v:=.agg #[.int .u64 u,.int .u64 v]) (by simp [results,Tryz.results35,go_sem,E0,E1]) rfl ⟨rfl,zN B8 (by first|exact Nat.le_refl _|omega|(have:=S3.out;have:=Av.out;have:=S5.out;have:=AC.out;have:=AD.out;have:=S8.out;have:=AQ.out;have:=AR.out;have:=AS.out;omega)) _ _⟩
def bls (l:List (Nat×Nat)):Array Value:=(l.flatMap fun p=>[Value.int .u64 (p.1:Nat),Value.int .u64 (p.2:Nat)]).toArray
def okP (f:Int)(p:Nat×Nat):Bool:=okB f (p.2+18446744073709551616*p.1)
theorem bls_at (l:List (Nat×Nat))(k:Nat)(p:Nat×Nat)(h:l[k]?=some p):(bls l)[k*2]?=some (.int .u64 (p.1:Nat))/\(bls l)[k*2+1]?=some (.int .u64 (p.2:Nat)):=by
 unfold bls
 rw [List.getElem?_toArray,List.getElem?_toArray]
 induction l generalizing k with
 | nil=>simp at h
 | cons a t ih=>
  cases k with
  | zero=>
   simp at h
   subst h
   simp
  | succ k=>
   simp only [List.getElem?_cons_succ] at h
   have:=ih k h
   rw [show (k+1)*2=k*2+1+1 by omega]
   simpa using this
theorem bls_cell {w:World} {g:Nat} {T:TypeId} {l:List (Nat×Nat)} (row:w.heap[g]?=some (.cells (bls l) T))(k:Nat)(p:Nat×Nat)(h:l[k]?=some p):w.cell? ⟨g,k*2,none⟩=some (.int .u64 (p.1:Nat))/\w.cell? ⟨g,k*2+1,none⟩=some (.int .u64 (p.2:Nat)):=by
 obtain⟨a,b⟩:=bls_at l k p h;exact⟨(cell_of_row w g (k*2) _ _ _ row).trans a,(cell_of_row w g (k*2+1) _ _ _ row).trans b⟩
theorem op_may_no (f m:Int)(pu pv:Nat)(fl c:Int)(sl:Value)(hc:(c != 0)=true)(w:World)
  (KP:xK 37 #[.int .u8 f,.int .u8 m,.agg (rg false 0 0 false)] (.tuple #[.agg #[.int .u64 pu,.int .u64 pv],.int .u8 fl,.int .i64 c])) (hT:y6 w):Calls Tryz.prog 32 #[.int .u8 f,.int .u8 m,sl] w fun r w'=>r=.returned (.bool false)/\Below w.heap.size w w':=by
 have FF:=zJ hT;clear hT;have hp3:=rgz;have B0:Below w.heap.size w w:=(Below.refl _ _)
 go_enter Tryz.func32,Tryz.ntmps32
 go_wp2_with fail
 refine (KP.out _ (z7 FF.out B0)).mono ?_;rintro r w1 ⟨rfl,b1⟩;have B1:=zS B0 b1;clear b1 B0;have S2:=zJ B1.size;have Aa:=heap_alloc_last w1 (Obj.cells #[.int .u64 pu,.int .u64 pv] 26);have B2:=zS B1 (yK w1 (Obj.cells #[.int .u64 pu,.int .u64 pv] 26));clear B1;obtain⟨Ab,Ac⟩:=zC Aa;go_wp2
 go_ret
 exact⟨rfl,B2⟩
theorem kClass_any (f:Int)(hf:y7 f)(p:Nat×Nat)(h:p.1<18446744073709551616/\p.2<18446744073709551616)(o:Bool)(ho:okP f p=o):∃ (c e:Int),(e != 0)=(!o)/\xK 68 #[.int .u8 f,.agg #[.int .u64 (p.1:Nat),.int .u64 (p.2:Nat)]] (.tuple #[.int .u8 c,.int .i64 e]):=by
 have h0:0<=f/\f<=255:=by rcases hf with rfl|rfl|rfl|rfl <;> decide
 cases o
 ·
  exact⟨0,2,rfl,zJ (fun w hT=>kClass_no f h0.1 h0.2 p.1 p.2 _ h.1 h.2 rfl ho w hT)⟩
 ·
  exact⟨_,0,rfl,zJ (fun w hT=>kClass_yes f hf p.1 p.2 _ _ h.1 h.2 rfl ho rfl w hT)⟩
theorem op_may (f m:Int)(hf:y7 f)(l:List (Nat×Nat))(L g c:Nat)(T:TypeId)(w:World)(hl:l.length=L)(hL:L<=1000)(hb:zW (∀ p ∈ l,p.1<18446744073709551616/\p.2<18446744073709551616))(row:w.heap[g]?=some (.cells (bls l) T))(pu pv:Nat)(fl:Int)
  (KP:xK 37 #[.int .u8 f,.int .u8 m,.agg (rg false 0 0 false)] (.tuple #[.agg #[.int .u64 pu,.int .u64 pv],.int .u8 fl,.int .i64 0]))
  (o:Bool) (ho:l.all (okP f)=o) (hT:y6 w):Calls Tryz.prog 32 #[.int .u8 f,.int .u8 m,.slice (some ⟨g,0,none⟩) L c] w fun r w'=>r=.returned (.bool o)/\Below w.heap.size w w':=by
 have FF:=zJ hT;have HO:=zJ ho;have HL:=zJ hl;have HF:=zJ hf;clear ho hl hT hf;have hp3:=rgz
 go_enter Tryz.func32,Tryz.ntmps32
 go_wp2_with fail
 refine (KP.out _ FF.out).mono ?_;rintro r w1 ⟨rfl,b1⟩;have BP:=zS b1 (yK w1 (.cells #[.int .u64 pu,.int .u64 pv] 26));obtain⟨V,hV⟩:∃ V,w1.alloc (.cells #[.int .u64 pu,.int .u64 pv] 26)=V:=⟨_,rfl⟩;go_wp2
 rw [hV] at BP;clear b1 KP hV
 go_loopw [26] (fun iv wr=>∃ k:Nat,k<=L/\iv=.int .i64 k/\Below w.heap.size w wr/\zW (∀ j p,j<k->l[j]?=some p->okP f p=true)) (fun iv _=>L-(intOf iv).toNat)
 case atStart=>exact⟨0,by omega,rfl,BP,zJ (fun j s hj=>absurd hj (by omega))⟩
 case round=>
  obtain⟨k,hk,rfl,bw,HA⟩:=hrel
  by_cases hlt:k<L
  ·
   obtain⟨p,hs⟩:∃ p,l[k]?=some p:=⟨_,List.getElem?_eq_getElem (by rw [HL.out];exact hlt)⟩;obtain⟨c1,c2⟩:=bls_cell (zA bw _ _ _ row) k p hs;have dl:decide ((k:Int)<(L:Int))=true:=decide_eq_true (by omega);have HS:=zJ hs;obtain⟨o1,hm⟩:∃ o1,okP f p=o1:=⟨_,rfl⟩;have HM:=zJ hm;obtain⟨cc,ee,hee,KC⟩:=kClass_any f HF.out p (hb.out p (List.mem_of_getElem? hs)) o1 hm;have FA:zW (y6 (wr.alloc (.cells #[.int .u64 (p.1:Nat),.int .u64 (p.2:Nat)] 26))):=zJ (z7 FF.out (zS bw (yK _ _)));have BA:=zS bw (yK wr (.cells #[.int .u64 (p.1:Nat),.int .u64 (p.2:Nat)] 26));clear hs hm
   cases o1
   ·
    have e:o=false:=by
     rw [<-HO.out,Bool.eq_false_iff];intro h;rw [List.all_eq_true] at h
     have:=h p (List.mem_of_getElem? HS.out)
     rw [HM.out] at this;exact absurd this (by decide)
    subst e;go_wp2_with fail
    refine (KC.out _ FA.out).mono ?_;rintro r w2 ⟨rfl,b2⟩;go_wp2
    go_ret
    exact⟨rfl,zS BA b2⟩
   ·
    have NA:zW (∀ j p,j<k+1->l[j]?=some p->okP f p=true):=zJ (fun j p2 hj h2=>by
     by_cases e:j=k
     ·
      subst e;rw [HS.out] at h2
      cases h2
      exact HM.out
     ·
      exact HA.out j p2 (by omega) h2)
    go_wp2_with fail
    refine (KC.out _ FA.out).mono ?_;rintro r w2 ⟨rfl,b2⟩;go_wp2
    go_roundw
    case rel=>exact⟨k+1,by omega,by go_num,zS BA b2,NA⟩
    case measure=>simp [intOf] <;> omega
  ·
   obtain rfl:k=L:=by omega
   have e:o=true:=by
    rw [<-HO.out,List.all_eq_true];intro s hs;obtain⟨j,hj⟩:=List.mem_iff_getElem?.1 hs
    have:=(List.getElem?_eq_some_iff.1 hj).1
    exact HA.out j s (by rw [<-HL.out];exact this) hj
   subst e;have dl:decide ((k:Int)<(k:Int))=false:=by rw [decide_eq_false_iff_not];omega
   go_wp2
   go_ret
   exact⟨rfl,bw⟩
theorem rSig_is (f:Int)(hf:y7 f)(x y n c:Nat)(o:Bool)(hx:x<18446744073709551616)(hy:y<18446744073709551616)(hn:y+18446744073709551616*x=n)(hfit:Fit f n)(hc:kC f n=c)(ho:decide (c=8)=o)(w:World):Calls Tryz.prog 91 #[.int .u8 f,.agg #[.int .u64 x,.int .u64 y]] w fun r w'=>r=.returned (.bool o)/\Below w.heap.size w w':=by
 have K1:=zJ (rk_class f hf x y n c hx hy hn hfit hc)
 have hd:((c:Int) == 8)=o:=by
  rw [<-ho]
  by_cases c7:c=8
  ·
   rw [decide_eq_true c7,c7];rfl
  ·
   rw [decide_eq_false c7,beq_eq_false_iff_ne];omega
 clear hf hx hy hn hfit hc ho;obtain⟨Aa,B0⟩:=yR w (Obj.cells #[.int .u64 x,.int .u64 y] 26)
 go_enter Tryz.func91,Tryz.ntmps91
 go_wp2_with fail
 refine (K1.out _).mono ?_;rintro r w1 ⟨rfl,b1⟩;have B1:=zS B0 b1;have Ab:=zA b1 _ _ _ Aa;clear b1 B0 Aa;obtain⟨Ac,Ad⟩:=zC Ab;go_wp2
 go_ret
 exact⟨rfl,B1⟩
theorem rInf_is (f:Int)(hf:y7 f)(x y n c:Nat)(o:Bool)(hx:x<18446744073709551616)(hy:y<18446744073709551616)(hn:y+18446744073709551616*x=n)(hfit:Fit f n)(hc:kC f n=c)(ho:(decide (c=0) || decide (c=7))=o)(w:World):Calls Tryz.prog 31 #[.int .u8 f,.agg #[.int .u64 x,.int .u64 y]] w fun r w'=>r=.returned (.bool o)/\Below w.heap.size w w':=by
 have K1:=zJ (rk_class f hf x y n c hx hy hn hfit hc);clear hf hx hy hn hfit hc
 by_cases c0:c=0
 ·
  rw [decide_eq_true c0,Bool.true_or] at ho;subst ho;have d0:((c:Int) == 0)=true:=by rw [c0];rfl
  clear c0;obtain⟨Aa,B0⟩:=yR w (Obj.cells #[.int .u64 x,.int .u64 y] 26)
  go_enter Tryz.func31,Tryz.ntmps31
  go_wp2_with fail
  refine (K1.out _).mono ?_;rintro r w1 ⟨rfl,b1⟩;have B1:=zS B0 b1;have Ab:=zA b1 _ _ _ Aa;clear b1 B0 Aa;obtain⟨Ac,Ad⟩:=zC Ab;go_wp2
  go_ret
  exact⟨rfl,B1⟩
 ·
  rw [decide_eq_false c0,Bool.false_or] at ho;have d0:((c:Int) == 0)=false:=by rw [beq_eq_false_iff_ne];omega
  have d7:((c:Int) == 7)=o:=by
   rw [<-ho]
   by_cases c7:c=7
   ·
    rw [decide_eq_true c7,c7];rfl
   ·
    rw [decide_eq_false c7,beq_eq_false_iff_ne];omega
  clear ho c0;obtain⟨Aa,B0⟩:=yR w (Obj.cells #[.int .u64 x,.int .u64 y] 26)
  go_enter Tryz.func31,Tryz.ntmps31
  go_wp2_with fail
  refine (K1.out _).mono ?_;rintro r w1 ⟨rfl,b1⟩;have B1:=zS B0 b1;have Ab:=zA b1 _ _ _ Aa;clear b1 B0 Aa;obtain⟨Ac,Ad⟩:=zC Ab;go_wp2
  go_ret
  exact⟨rfl,B1⟩
theorem rZero_is (f:Int)(hf:y7 f)(x y n c:Nat)(o:Bool)(hx:x<18446744073709551616)(hy:y<18446744073709551616)(hn:y+18446744073709551616*x=n)(hfit:Fit f n)(hc:kC f n=c)(ho:(decide (c=3) || decide (c=4))=o)(w:World):Calls Tryz.prog 44 #[.int .u8 f,.agg #[.int .u64 x,.int .u64 y]] w fun r w'=>r=.returned (.bool o)/\Below w.heap.size w w':=by
 have K1:=zJ (rk_class f hf x y n c hx hy hn hfit hc);clear hf hx hy hn hfit hc
 by_cases c0:c=3
 ·
  rw [decide_eq_true c0,Bool.true_or] at ho;subst ho;have d0:((c:Int) == 3)=true:=by rw [c0];rfl
  clear c0;obtain⟨Aa,B0⟩:=yR w (Obj.cells #[.int .u64 x,.int .u64 y] 26)
  go_enter Tryz.func44,Tryz.ntmps44
  go_wp2_with fail
  refine (K1.out _).mono ?_;rintro r w1 ⟨rfl,b1⟩;have B1:=zS B0 b1;have Ab:=zA b1 _ _ _ Aa;clear b1 B0 Aa;obtain⟨Ac,Ad⟩:=zC Ab;go_wp2
  go_ret
  exact⟨rfl,B1⟩
 ·
  rw [decide_eq_false c0,Bool.false_or] at ho;have d0:((c:Int) == 3)=false:=by rw [beq_eq_false_iff_ne];omega
  have d7:((c:Int) == 4)=o:=by
   rw [<-ho]
   by_cases c7:c=4
   ·
    rw [decide_eq_true c7,c7];rfl
   ·
    rw [decide_eq_false c7,beq_eq_false_iff_ne];omega
  clear ho c0;obtain⟨Aa,B0⟩:=yR w (Obj.cells #[.int .u64 x,.int .u64 y] 26)
  go_enter Tryz.func44,Tryz.ntmps44
  go_wp2_with fail
  refine (K1.out _).mono ?_;rintro r w1 ⟨rfl,b1⟩;have B1:=zS B0 b1;have Ab:=zA b1 _ _ _ Aa;clear b1 B0 Aa;obtain⟨Ac,Ad⟩:=zC Ab;go_wp2
  go_ret
  exact⟨rfl,B1⟩
theorem rf_no (f m:Int)(sl:Value)(w:World)(KR:zZ 88 #[.int .u8 f] (.bool false)):Calls Tryz.prog 40 #[.int .u8 f,.int .u8 m,sl] w fun r w'=>r=.returned (.bool false)/\Below w.heap.size w w':=by
 have B0:Below w.heap.size w w:=(Below.refl _ _)
 go_enter Tryz.func40,Tryz.ntmps40
 go_wp2_with fail
 refine (KR.out _).mono ?_;rintro r w1 ⟨rfl,b1⟩;have B1:=zS B0 b1;clear b1 B0;go_wp2
 go_ret
 exact⟨rfl,B1⟩
theorem rf_nom (f m:Int)(sl:Value)(w:World)(KR:zZ 88 #[.int .u8 f] (.bool true))(KM:zZ 89 #[.int .u8 m] (.bool false)):Calls Tryz.prog 40 #[.int .u8 f,.int .u8 m,sl] w fun r w'=>r=.returned (.bool false)/\Below w.heap.size w w':=by
 have B0:Below w.heap.size w w:=(Below.refl _ _)
 go_enter Tryz.func40,Tryz.ntmps40
 go_wp2_with fail
 refine (KR.out _).mono ?_;rintro r w1 ⟨rfl,b1⟩;have B1:=zS B0 b1;clear b1 B0;go_wp2_with fail
 refine (KM.out _).mono ?_;rintro r w2 ⟨rfl,b2⟩;have B2:=zS B1 b2;clear b2 B1;go_wp2
 go_ret
 exact⟨rfl,B2⟩
theorem rf_list (f m:Int)(h0:0<=f)(l:List (Nat×Nat))(L g c:Nat)(T:TypeId)(w:World)(hl:l.length=L)(hL:L<=1000)(hb:zW (∀ p ∈ l,p.1<18446744073709551616/\p.2<18446744073709551616))(row:w.heap[g]?=some (.cells (bls l) T))
  (KR:zZ 88 #[.int .u8 f] (.bool true)) (KM:zZ 89 #[.int .u8 m] (.bool true))
  (o:Bool) (ho:l.all (okP f)=o):Calls Tryz.prog 40 #[.int .u8 f,.int .u8 m,.slice (some ⟨g,0,none⟩) L c] w fun r w'=>r=.returned (.bool o)/\Below w.heap.size w w':=by
 have HO:=zJ ho;have HL:=zJ hl;have HF:=zJ h0;clear ho hl h0
 go_enter Tryz.func40,Tryz.ntmps40
 go_wp2_with fail
 refine (KR.out _).mono ?_;rintro r w1 ⟨rfl,b1⟩;go_wp2_with fail
 refine (KM.out _).mono ?_;rintro r w2 ⟨rfl,b2⟩;have BP:=zS b1 b2;clear b1 b2 KR KM;go_wp2
 go_loopw [7] (fun iv wr=>∃ k:Nat,k<=L/\iv=.int .i64 k/\Below w.heap.size w wr/\zW (∀ j p,j<k->l[j]?=some p->okP f p=true)) (fun iv _=>L-(intOf iv).toNat)
 case atStart=>exact⟨0,by omega,rfl,BP,zJ (fun j s hj=>absurd hj (by omega))⟩
 case round=>
  obtain⟨k,hk,rfl,bw,HA⟩:=hrel
  by_cases hlt:k<L
  ·
   obtain⟨p,hs⟩:∃ p,l[k]?=some p:=⟨_,List.getElem?_eq_getElem (by rw [HL.out];exact hlt)⟩;obtain⟨c1,c2⟩:=bls_cell (zA bw _ _ _ row) k p hs;have dl:decide ((k:Int)<(L:Int))=true:=decide_eq_true (by omega);have HS:=zJ hs;obtain⟨o1,hm⟩:∃ o1,okP f p=o1:=⟨_,rfl⟩;have HM:=zJ hm;have hp:=hb.out p (List.mem_of_getElem? hs);have KC:zZ 90 #[.int .u8 f,.agg #[.int .u64 (p.1:Nat),.int .u64 (p.2:Nat)]] (.bool o1):=zJ (fun w=>rk_fits f p.1 p.2 _ o1 HF.out hp.1 hp.2 rfl hm w);clear hs hm hp
   cases o1
   ·
    have e:o=false:=by
     rw [<-HO.out,Bool.eq_false_iff];intro h;rw [List.all_eq_true] at h
     have:=h p (List.mem_of_getElem? HS.out)
     rw [HM.out] at this;exact absurd this (by decide)
    subst e;go_wp2_with fail
    refine (KC.out _).mono ?_;rintro r w2 ⟨rfl,b2⟩;go_wp2
    go_ret
    exact⟨rfl,zS bw b2⟩
   ·
    have NA:zW (∀ j p,j<k+1->l[j]?=some p->okP f p=true):=zJ (fun j p2 hj h2=>by
     by_cases e:j=k
     ·
      subst e;rw [HS.out] at h2
      cases h2
      exact HM.out
     ·
      exact HA.out j p2 (by omega) h2)
    go_wp2_with fail
    refine (KC.out _).mono ?_;rintro r w2 ⟨rfl,b2⟩;go_wp2
    go_roundw
    case rel=>exact⟨k+1,by omega,by go_num,zS bw b2,NA⟩
    case measure=>simp [intOf] <;> omega
  ·
   obtain rfl:k=L:=by omega
   have e:o=true:=by
    rw [<-HO.out,List.all_eq_true];intro s hs;obtain⟨j,hj⟩:=List.mem_iff_getElem?.1 hs
    have:=(List.getElem?_eq_some_iff.1 hj).1
    exact HA.out j s (by rw [<-HL.out];exact this) hj
   subst e;have dl:decide ((k:Int)<(k:Int))=false:=by rw [decide_eq_false_iff_not];omega
   go_wp2
   go_ret
   exact⟨rfl,bw⟩
def sgP (f:Int)(p:Nat×Nat):Bool:=decide (kC f (p.2+18446744073709551616*p.1)=8)
theorem any_take {α:Type} (q:α->Bool)(l:List α)(k:Nat)(p:α)(h:l[k]?=some p):(l.take (k+1)).any q=((l.take k).any q || q p):=by
 rw [List.take_add_one,h]
 simp
theorem rc_list (f:Int)(hf:y7 f)(l:List (Nat×Nat))(L g c:Nat)(T:TypeId)(w:World)(hl:l.length=L)(hL:L<=1000)(hb:zW (∀ p ∈ l,p.1<18446744073709551616/\p.2<18446744073709551616))(hfit:zW (∀ p ∈ l,Fit f (p.2+18446744073709551616*p.1)))(row:w.heap[g]?=some (.cells (bls l) T))(u v:Nat)
  (KN:zZ 45 #[.int .u8 f] (.agg #[.int .u64 u,.int .u64 v]))
  (fl:Int) (hfl:(if l.any (sgP f)=true then (16:Int) else 0)=fl):Calls Tryz.prog 42 #[.int .u8 f,.slice (some ⟨g,0,none⟩) L c] w fun r w'=>r=.returned (.tuple #[.agg #[.int .u64 u,.int .u64 v],.int .u8 fl])/\Below w.heap.size w w':=by
 have HO:=zJ hfl;have HL:=zJ hl;have HF:=zJ hf;clear hfl hl hf;obtain⟨Ab,B0⟩:=yR w (Obj.cells #[.int .u64 0,.int .u64 0] 26)
 go_enter Tryz.func42,Tryz.ntmps42
 go_wp2
 obtain⟨V,hV⟩:∃ V,w.alloc (.cells #[.int .u64 0,.int .u64 0] 26)=V:=⟨_,rfl⟩;have rowV:V.heap[g]?=some (.cells (bls l) T):=by rw [<-hV];exact zA (yK w _) _ _ _ row
 rw [hV] at B0 Ab ⊢;clear hV row
 go_loopw [6,7] (fun fv iv wr=>∃ (k:Nat) (e:Int),k<=L/\iv=.int .i64 k/\fv=.int .u8 e/\Below V.heap.size V wr/\zW ((if (l.take k).any (sgP f)=true then (16:Int) else 0)=e)) (fun _ iv _=>L-(intOf iv).toNat)
 case atStart=>exact⟨0,0,by omega,rfl,rfl,Below.refl _ _,zJ (by simp)⟩
 case round=>
  obtain⟨k,e,hk,rfl,rfl,bw,HA⟩:=hrel
  by_cases hlt:k<L
  ·
   obtain⟨p,hs⟩:∃ p,l[k]?=some p:=⟨_,List.getElem?_eq_getElem (by rw [HL.out];exact hlt)⟩;obtain⟨c1,c2⟩:=bls_cell (zA bw _ _ _ rowV) k p hs;have dl:decide ((k:Int)<(L:Int))=true:=decide_eq_true (by omega);obtain⟨o1,hm⟩:∃ o1,sgP f p=o1:=⟨_,rfl⟩;have hp:=hb.out p (List.mem_of_getElem? hs);have KC:zZ 91 #[.int .u8 f,.agg #[.int .u64 (p.1:Nat),.int .u64 (p.2:Nat)]] (.bool o1):=zJ (fun w=>rSig_is f HF.out p.1 p.2 _ _ o1 hp.1 hp.2 rfl (hfit.out p (List.mem_of_getElem? hs)) rfl hm w);have at1:=any_take (sgP f) l k p hs;rw [hm] at at1;have HT:=zJ at1;clear hs hm hp at1
   cases o1
   ·
    have NA:zW ((if (l.take (k+1)).any (sgP f)=true then (16:Int) else 0)=e):=zJ (by rw [HT.out,Bool.or_false];exact HA.out);go_wp2_with fail
    refine (KC.out _).mono ?_;rintro r w2 ⟨rfl,b2⟩;go_wp2
    go_roundw
    case rel=>exact⟨k+1,e,by omega,by go_num,rfl,zS bw b2,NA⟩
    case measure=>simp [intOf] <;> omega
   ·
    have NA:zW ((if (l.take (k+1)).any (sgP f)=true then (16:Int) else 0)=16):=zJ (by rw [HT.out,Bool.or_true,if_pos rfl]);go_wp2_with fail
    refine (KC.out _).mono ?_;rintro r w2 ⟨rfl,b2⟩;go_wp2
    go_roundw
    case rel=>exact⟨k+1,16,by omega,by go_num,rfl,zS bw b2,NA⟩
    case measure=>simp [intOf] <;> omega
  ·
   obtain rfl:k=L:=by omega
   have ee:e=fl:=by
    rw [<-HA.out,<-HO.out,<-HL.out,List.take_length]
   subst ee;have dl:decide ((k:Int)<(k:Int))=false:=by rw [decide_eq_false_iff_not];omega
   have Ac:=zA bw _ _ _ Ab;have B1:=zS B0 bw;clear bw HA Ab B0 rowV;obtain⟨w1,Ad⟩:∃ w1,w1=wr:=⟨_,rfl⟩;subst Ad;obtain⟨Ae,Af⟩:=zC Ac;go_wp2_with fail
   refine (KN.out _).mono ?_;rintro r w2 ⟨rfl,b2⟩;have B2:=zS B1 b2;have Aa:=zA b2 _ _ _ Ac;clear b2 B1 Ac Ae Af;obtain⟨Ag,Ah⟩:=zC Aa;have q0:=fz (k:=0) Aa;have q1:=fz (k:=1) Aa;obtain⟨E0,E1⟩:=zQ Aa (.int .u64 u) (.int .u64 v);go_wp2
   exact bodyPost_ret (v:=.tuple #[.agg #[.int .u64 u,.int .u64 v],.int .u8 e]) (by simp [results,Tryz.results42,go_sem,E0,E1]) rfl ⟨rfl,zN B2 (by first|exact Nat.le_refl _|omega|(skip;omega)) _ _⟩
theorem r_nought (f m:Int)(dn:Bool)(hdn:(m == 2)=dn)(u v:Nat)(w:World)(KZ:zZ 47 #[.int .u8 f,.bool dn] (.agg #[.int .u64 u,.int .u64 v])):Calls Tryz.prog 52 #[.int .u8 f,.int .u8 m] w fun r w'=>r=.returned (.agg #[.int .u64 u,.int .u64 v])/\Below w.heap.size w w':=by
 obtain⟨Ab,B0⟩:=yR w (Obj.cells #[.int .u64 0,.int .u64 0] 26)
 go_enter Tryz.func52,Tryz.ntmps52
 go_wp2_with fail
 refine (KZ.out _).mono ?_;rintro r w1 ⟨rfl,b1⟩;have B1:=zS B0 b1;have Aa:=zA b1 _ _ _ Ab;clear b1 B0 Ab;obtain⟨Ac,Ad⟩:=zC Aa;have q0:=fz (k:=0) Aa;have q1:=fz (k:=1) Aa;obtain⟨E0,E1⟩:=zQ Aa (.int .u64 u) (.int .u64 v);go_wp2
 exact bodyPost_ret (v:=.agg #[.int .u64 u,.int .u64 v]) (by simp [results,Tryz.results52,go_sem,E0,E1]) rfl ⟨rfl,zN B1 (by first|exact Nat.le_refl _|omega|(skip;omega)) _ _⟩
end Go.Proofs.YtapikkbifdldfaaGreatDoor
namespace Go.Proofs.YtapikkbifdldfaaGreatDoor
set_option maxRecDepth 100000
set_option maxHeartbeats 40000000
open Go.RowKit WMath XMath
set_option linter.unusedSimpArgs false
set_option linter.unusedVariables false
theorem blen_prod (A B:Nat)(hA:A<2 ^ 128)(hB:B<2 ^ 128):A*B<2 ^ 256/\zV (A*B)<=256:=by
 have h:A*B<2 ^ 256:=by
  have:=mul_pow_lt A B 128 128 hA hB
  rw [show (256:Nat)=128+128 from rfl];exact this
 exact⟨h,(yM _ _).2 h⟩
theorem od_prod (A B:Nat)(A0:A≠0)(B0:B≠0):A*B=od A*od B*2 ^ (tz A+tz B)/\od A*od B≠0:=by
 obtain⟨a1,a2⟩:=od_is A A0;obtain⟨b1,b2⟩:=od_is B B0;refine ⟨?_,mul_ne (by omega) (by omega)⟩;obtain⟨P,hP⟩:∃ P,od A=P:=⟨_,rfl⟩;obtain⟨R,hR⟩:∃ R,od B=R:=⟨_,rfl⟩;obtain⟨i,hi⟩:∃ i,tz A=i:=⟨_,rfl⟩;obtain⟨j,hj⟩:∃ j,tz B=j:=⟨_,rfl⟩;rw [hP,hi] at a1;rw [hR,hj] at b1;rw [hP,hR,hi,hj,a1,b1,Nat.pow_add]
 simp only [Nat.mul_assoc,Nat.mul_comm,Nat.mul_left_comm]
theorem mul_num {f:Int} (hf:y7 f)(m:Int)(a b:Bool)(A B:Nat)(x y:Int)(A0:A≠0)(B0:B≠0)(hA:A<2 ^ 128)(hB:B<2 ^ 128)(x1:-20000<=x)(x2:x<=20000)(y1:-20000<=y)(y2:y<=20000) :
  ∃ (n:Nat) (e:Int),mulX ⟨a,od A,1,x+(tz A:Int)⟩ ⟨b,od B,1,y+(tz B:Int)⟩=(⟨a != b,n,1,e⟩,0)/\(XN.mk (a != b) n 1 e).can/\nl n<=8192/\n≠0 /\
   rnd f m ⟨a != b,n,1,e⟩=dlv f m (a != b) (x+y+(zV (A*B):Int)-1) (qW (pV f+1) (A*B)) (qM (pV f+1) (A*B) false):=by
 obtain⟨p1,p2⟩:=blen_prod A B hA hB;obtain⟨o1,o2⟩:=od_prod A B A0 B0;have tA:=qU A;have tB:=qU B;have bA:=(yM A 128).2 hA;have bB:=(yM B 128).2 hB;obtain⟨N,hN⟩:∃ N,od A*od B=N:=⟨_,rfl⟩;obtain⟨k,hk⟩:∃ k,tz A+tz B=k:=⟨_,rfl⟩;rw [hN,hk] at o1;rw [hN] at o2;have bs:=xU N k o2;have ql:=q_longer (pV f+1) N k o2;rw [<-o1] at bs ql;obtain⟨w1,w2,w3,w4,w5,w6,w7⟩:=x_whole hf (a != b) N (x+(tz A:Int)+(y+(tz B:Int))) o2 (by omega) (by omega) (by omega);have a0:=(od_is A A0).2;have b0:=(od_is B B0).2;refine ⟨od N,x+(tz A:Int)+(y+(tz B:Int))+(tz N:Int),?_,w2,w4,w3,?_⟩
 ·
  unfold mulX
  have lN:nl N<=16384:=by unfold nl;omega
  rw [if_neg (by show ¬ (od A=0∨od B=0);omega)]
  show (if nl (od A*od B)<=16384/\nl (1*1)<=16384 then mk (a != b) (od A*od B) (1*1) (x+(tz A:Int)+(y+(tz B:Int))) else (XZ,4))=_
  rw [hN,Nat.mul_one,if_pos ⟨lN,nl_1⟩,w1]
 ·
  unfold rnd
  rw [if_neg w3,w5,w6,w7,ql.1,ql.2]
  congr 1
  omega
theorem vX_whole {f:Int} (hf:y7 f)(n:Nat)(h:0<kC f n/\kC f n<7)(h2:¬ (kC f n=3∨kC f n=4)):kS f n≠0/\kS f n<2 ^ 128/\vX f n=⟨kN f n,od (kS f n),1,kX f n+(tz (kS f n):Int)⟩/\(vX f n).can:=by
 obtain⟨l1,l2,l3⟩:=kS_lim hf n;obtain⟨a,b,d,e⟩:=k_parts (f:=f) n (by omega);have l4:kS f n<2 ^ 128:=l1;obtain⟨w1,w2,w3,w4,w5,w6,w7⟩:=x_whole hf (kN f n) (kS f n) (kX f n) e (by have:=(yM (kS f n) 128).2 l4;omega) (by omega) (by omega)
 have:=vX_mk hf n h
 rw [w1] at this;injection this with h3 h4;exact⟨e,l4,h3.symm,by rw [<-h3];exact w2⟩
theorem ov_inf (f:Int)(neg:Bool):ovB f 0 neg=eInf f neg:=by
 unfold ovB
 rw [if_pos (by unfold gO;rw [if_pos rfl];rfl)]
theorem nan_or {f:Int} (hf:y7 f):eInf f false ||| eInf f false / 2=eNaN f/\eInf f false<340282366920938463463374607431768211456/\eNaN f<340282366920938463463374607431768211456:=by
 rcases hf with rfl|rfl|rfl|rfl <;> decide +kernel
theorem kInf_is (f:Int)(hf:y7 f)(neg:Bool)(u v:Nat)(hv:qA (eInf f neg)=(u,v))(w:World)(hT:y6 w):Calls Tryz.prog 36 #[.int .u8 f,.bool neg] w fun r w'=>r=.returned (.agg #[.int .u64 u,.int .u64 v])/\Below w.heap.size w w':=
 op_inf f neg u v w (zJ (fun w hT=>kover f 0 hf (by decide) neg u v (by rw [ov_inf];exact hv) w hT)) hT
theorem kNaN_is (f:Int)(hf:y7 f)(u v:Nat)(hv:qA (eNaN f)=(u,v))(w:World)(hT:y6 w):Calls Tryz.prog 35 #[.int .u8 f] w fun r w'=>r=.returned (.agg #[.int .u64 u,.int .u64 v])/\Below w.heap.size w w':=by
 obtain⟨n1,n2,n3⟩:=nan_or hf;obtain⟨iu,iv,hi⟩:∃ iu iv,qA (eInf f false)=(iu,iv):=⟨_,_,rfl⟩;obtain⟨i1,i2,i3⟩:=bv_lt n2 hi;obtain⟨w0,w1⟩:=wd01 n3;have hQ:=xX n2;have hQ2:=xX n3;have hQ3:eInf f false / 2<Q:=Nat.lt_of_le_of_lt (Nat.div_le_self _ _) hQ
 unfold qA at hv
 injection hv with v1 v2
 have KT:zZ 74 #[.agg (cw 6 (eNaN f))] (.tuple #[.agg #[.int .u64 u,.int .u64 v],.bool true]):=zJ (fun w=>by
  have:=wtobits_yes (eNaN f) hQ2 (by rw [w0,w1];exact Nat.mod_add_div _ _) w
  rw [w0,w1,v1,v2] at this;exact this)
 exact op_nan f iu iv _ _ _ u v _ true w (zJ (fun w hT=>kInf_is f hf false iu iv hi w hT)) (zJ (fun w=>wofbits_is iu iv _ i1 i2 i3 w))
  (zJ (fun w=>wright_is (eInf f false) (eInf f false / 2) 1 _ hQ rfl rfl w)) (zJ (fun w=>wor_is _ _ _ hQ hQ3 n1 w)) KT hT
theorem ieq {c:Nat} {k:Int} (h:(c:Int)=k):((c:Int) == k)=true:=by rw [h];exact beq_self_eq_true k
theorem ine {c:Nat} {k:Int} (h:(c:Int)≠k):((c:Int) == k)=false:=beq_eq_false_iff_ne.2 h
theorem op_plain_e (c:Nat)(KE:zZ 70 #[.int .u8 c] (.bool true))(w:World):Calls Tryz.prog 34 #[.int .u8 c] w fun r w'=>r=.returned (.int .u8 7)/\Below w.heap.size w w':=by
 have B0:Below w.heap.size w w:=(Below.refl _ _)
 go_enter Tryz.func34,Tryz.ntmps34
 go_wp2_with fail
 refine (KE.out _).mono ?_;rintro r w1 ⟨rfl,b1⟩;have B1:=zS B0 b1;clear b1 B0;go_wp2
 go_ret
 exact⟨rfl,B1⟩
theorem op_plain_z (c:Nat)(KE:zZ 70 #[.int .u8 c] (.bool false))(KN:zZ 71 #[.int .u8 c] (.bool true))(w:World):Calls Tryz.prog 34 #[.int .u8 c] w fun r w'=>r=.returned (.int .u8 4)/\Below w.heap.size w w':=by
 have B0:Below w.heap.size w w:=(Below.refl _ _)
 go_enter Tryz.func34,Tryz.ntmps34
 go_wp2_with fail
 refine (KE.out _).mono ?_;rintro r w1 ⟨rfl,b1⟩;have B1:=zS B0 b1;clear b1 B0;go_wp2_with fail
 refine (KN.out _).mono ?_;rintro r w2 ⟨rfl,b2⟩;have B2:=zS B1 b2;clear b2 B1;go_wp2
 go_ret
 exact⟨rfl,B2⟩
theorem op_plain_s (c:Nat)(KE:zZ 70 #[.int .u8 c] (.bool false))(KN:zZ 71 #[.int .u8 c] (.bool false))(h8:((c:Int) == 8)=true)(w:World):Calls Tryz.prog 34 #[.int .u8 c] w fun r w'=>r=.returned (.int .u8 c)/\Below w.heap.size w w':=by
 have B0:Below w.heap.size w w:=(Below.refl _ _)
 go_enter Tryz.func34,Tryz.ntmps34
 go_wp2_with fail
 refine (KE.out _).mono ?_;rintro r w1 ⟨rfl,b1⟩;have B1:=zS B0 b1;clear b1 B0;go_wp2_with fail
 refine (KN.out _).mono ?_;rintro r w2 ⟨rfl,b2⟩;have B2:=zS B1 b2;clear b2 B1;go_wp2
 go_ret
 exact⟨rfl,B2⟩
theorem op_plain_q (c:Nat)(KE:zZ 70 #[.int .u8 c] (.bool false))(KN:zZ 71 #[.int .u8 c] (.bool false))(h8:((c:Int) == 8)=false)(h9:((c:Int) == 9)=true)(w:World):Calls Tryz.prog 34 #[.int .u8 c] w fun r w'=>r=.returned (.int .u8 c)/\Below w.heap.size w w':=by
 have B0:Below w.heap.size w w:=(Below.refl _ _)
 go_enter Tryz.func34,Tryz.ntmps34
 go_wp2_with fail
 refine (KE.out _).mono ?_;rintro r w1 ⟨rfl,b1⟩;have B1:=zS B0 b1;clear b1 B0;go_wp2_with fail
 refine (KN.out _).mono ?_;rintro r w2 ⟨rfl,b2⟩;have B2:=zS B1 b2;clear b2 B1;go_wp2
 go_ret
 exact⟨rfl,B2⟩
theorem op_plain_f (c:Nat)(KE:zZ 70 #[.int .u8 c] (.bool false))(KN:zZ 71 #[.int .u8 c] (.bool false))(h8:((c:Int) == 8)=false)(h9:((c:Int) == 9)=false)(w:World):Calls Tryz.prog 34 #[.int .u8 c] w fun r w'=>r=.returned (.int .u8 6)/\Below w.heap.size w w':=by
 have B0:Below w.heap.size w w:=(Below.refl _ _)
 go_enter Tryz.func34,Tryz.ntmps34
 go_wp2_with fail
 refine (KE.out _).mono ?_;rintro r w1 ⟨rfl,b1⟩;have B1:=zS B0 b1;clear b1 B0;go_wp2_with fail
 refine (KN.out _).mono ?_;rintro r w2 ⟨rfl,b2⟩;have B2:=zS B1 b2;clear b2 B1;go_wp2
 go_ret
 exact⟨rfl,B2⟩
def qH (c:Nat):Int:=if c=0∨c=7 then 7 else if c=3∨c=4 then 4 else if c=8∨c=9 then (c:Int) else 6
theorem yE (c:Nat)(hc:c<=9)(p:Int)(hp:qH c=p):zZ 34 #[.int .u8 c] (.int .u8 p):=by
 have KE:∀ o,decide (c=0∨c=7)=o->zZ 70 #[.int .u8 c] (.bool o):=fun o h=>zJ (fun w=>op_endless c o (by rw [<-Bool.decide_or];exact h) w);have KN:∀ o,decide (c=3∨c=4)=o->zZ 71 #[.int .u8 c] (.bool o):=fun o h=>zJ (fun w=>op_naught c o (by rw [<-Bool.decide_or];exact h) w)
 unfold qH at hp
 by_cases e:c=0∨c=7
 ·
  rw [if_pos e] at hp;subst hp;exact zJ (fun w=>op_plain_e c (KE true (decide_eq_true e)) w)
 rw [if_neg e] at hp;have KE:=KE false (decide_eq_false e)
 by_cases z:c=3∨c=4
 ·
  rw [if_pos z] at hp;subst hp;exact zJ (fun w=>op_plain_z c KE (KN true (decide_eq_true z)) w)
 rw [if_neg z] at hp;have KN:=KN false (decide_eq_false z)
 by_cases n:c=8∨c=9
 ·
  rw [if_pos n] at hp;subst hp
  by_cases n8:c=8
  ·
   exact zJ (fun w=>op_plain_s c KE KN (ieq (by omega)) w)
  ·
   exact zJ (fun w=>op_plain_q c KE KN (ine (by omega)) (ieq (by omega)) w)
 rw [if_neg n] at hp;subst hp;exact zJ (fun w=>op_plain_f c KE KN (ine (by omega)) (ine (by omega)) w)
def sumN (sa sb:Bool)(X Y n:Nat):Nat:=if sa=sb then X*2 ^ n+Y else X*2 ^ n-Y
theorem sum_rat (sa sb:Bool)(X Y n:Nat)(ey:Int)(hg:Y<=X*2 ^ n):sgn sa*((X:Rat) / ((1:Nat):Rat))*(2:Rat) ^ (ey+(n:Int))+sgn sb*((Y:Rat) / ((1:Nat):Rat))*(2:Rat) ^ ey=sgn sa*(((sumN sa sb X Y n:Nat):Rat) / ((1:Nat):Rat))*(2:Rat) ^ ey:=by
 have one:∀ z:Rat,z / ((1:Nat):Rat)=z:=fun z=>by
  rw [show ((1:Nat):Rat)=1 from rfl,Rat.div_def,show (1:Rat)⁻¹=1 by decide +kernel,Rat.mul_one]
 rw [one,one,one,p2add,p2nat];generalize (2:Rat) ^ ey=E
 unfold sumN
 by_cases c:sa=sb
 ·
  subst c;rw [if_pos rfl,Rat.natCast_add,Rat.natCast_mul];generalize ((2 ^ n:Nat):Rat)=H
  grind
 ·
  rw [if_neg c]
  have hs:sgn sb=- sgn sa:=by
   unfold sgn
   cases sa <;> cases sb <;> first|exact absurd rfl c|decide +kernel
  have hN:((X*2 ^ n-Y:Nat):Rat)+(Y:Rat)=(X:Rat)*((2 ^ n:Nat):Rat):=by
   rw [<-Rat.natCast_add,<-Rat.natCast_mul,Nat.sub_add_cancel hg]
  rw [hs];generalize ((2 ^ n:Nat):Rat)=H at *;generalize ((X*2 ^ n-Y:Nat):Rat)=K at *
  grind
theorem bd_whole (b:Bool)(A:Nat)(x:Int)(A0:A≠0)(hA:A<2 ^ 128)(x1:-20000<=x)(x2:x<=20000):Bd ⟨b,od A,1,x+(tz A:Int)⟩ 128 20200:=by
 have tA:=qU A;have bA:=(yM A 128).2 hA;obtain⟨o1,o2⟩:=od_is A A0
 have le:od A<=A:=by
  have p:=Nat.two_pow_pos (tz A)
  have:=Nat.mul_le_mul_left (od A) p
  rw [Nat.mul_one] at this;omega
 exact⟨Nat.lt_of_le_of_lt le hA,by show 1<2 ^ 128;decide,by show -((20200:Nat):Int)<=x+(tz A:Int);omega,by show x+(tz A:Int)<=((20200:Nat):Int);omega⟩
theorem add_num {f:Int} (hf:y7 f)(m:Int)(sa sb:Bool)(X Y n:Nat)(ex ey:Int)(X0:X≠0)(Y0:Y≠0)(hX:X<2 ^ 128)(hY:Y<2 ^ 128)(hn:ex=ey+(n:Int))(hg:Y<=X*2 ^ n)(x1:-20000<=ex)(x2:ex<=20000)(y1:-20000<=ey)(y2:ey<=20000)(N:Nat)(hN:sumN sa sb X Y n=N)(N0:N≠0) :
  ∃ (k:Nat) (e:Int),addX ⟨sa,od X,1,ex+(tz X:Int)⟩ ⟨sb,od Y,1,ey+(tz Y:Int)⟩=(⟨sa,k,1,e⟩,0)/\addX ⟨sb,od Y,1,ey+(tz Y:Int)⟩ ⟨sa,od X,1,ex+(tz X:Int)⟩=(⟨sa,k,1,e⟩,0)/\(XN.mk sa k 1 e).can/\nl k<=8192/\k≠0 /\
   rnd f m ⟨sa,k,1,e⟩=dlv f m sa (ey+(zV N:Int)-1) (qW (pV f+1) N) (qM (pV f+1) N false):=by
 have bX:=(yM X 128).2 hX;have bY:=(yM Y 128).2 hY
 have bN:zV N<=45000:=by
  have:zV N<=128+n+1:=by
   apply y9
   have h1:X*2 ^ n<2 ^ (128+n):=by rw [Nat.pow_add];exact (Nat.mul_lt_mul_right (Nat.two_pow_pos n)).2 hX
   have h2:N<=X*2 ^ n+X*2 ^ n:=by rw [<-hN];unfold sumN;split <;> omega
   rw [Nat.pow_succ];omega
  omega
 obtain⟨w1,w2,w3,w4,w5,w6,w7⟩:=x_whole hf sa N ey N0 bN (by omega) (by omega);obtain⟨u1,u2,u3,u4,u5,u6,u7⟩:=x_whole hf sa X ex X0 (by omega) (by omega) (by omega);obtain⟨v1,v2,v3,v4,v5,v6,v7⟩:=x_whole hf sb Y ey Y0 (by omega) (by omega) (by omega);have wv:=mk_val sa N 1 ey (by decide) (by rw [w1]);have uv:=mk_val sa X 1 ex (by decide) (by rw [u1]);have vv:=mk_val sb Y 1 ey (by decide) (by rw [v1]);rw [w1] at wv;rw [u1] at uv;rw [v1] at vv;have sr:=sum_rat sa sb X Y n ey hg;rw [<-hn,hN] at sr
 have hv:(XN.mk sa (od X) 1 (ex+(tz X:Int))).val+(XN.mk sb (od Y) 1 (ey+(tz Y:Int))).val=(XN.mk sa (od N) 1 (ey+(tz N:Int))).val:=by
  rw [uv,vv,wv];exact sr
 have B1:=bd_whole sa X ex X0 hX x1 x2;have B2:=bd_whole sb Y ey Y0 hY y1 y2;refine ⟨od N,ey+(tz N:Int),addX_is _ _ _ u2 v2 w2 B1 B2 hv,addX_is _ _ _ v2 u2 w2 B2 B1 (by rw [Rat.add_comm];exact hv),w2,w4,w3,?_⟩
 unfold rnd
 rw [if_neg w3,w5,w6,w7]
end Go.Proofs.YtapikkbifdldfaaGreatDoor
namespace Go.Proofs.YtapikkbifdldfaaGreatDoor
set_option maxRecDepth 100000
set_option maxHeartbeats 40000000
open Go.RowKit WMath
set_option linter.unusedSimpArgs false
set_option linter.unusedVariables false
theorem rg_ne (c:Bool)(s:Nat)(x:Int)(r:Bool):(rg c s x r=#[])=False:=eq_false (fun h=>by have:=congrArg Array.size h;exact absurd this (by decide:¬ (9=0)))
theorem rg_lt8 (c:Bool)(s:Nat)(x:Int)(r:Bool):((rg c s x r).size<8)=False:=eq_false (show ¬ (9<8) by decide)
theorem bld_r2 (neg:Bool)(x:Int):((rg false 0 0 false).setIfInBounds 0 (.bool neg)).setIfInBounds 7 (.int .i64 x)=rg neg 0 x false:=rfl
end Go.Proofs.YtapikkbifdldfaaGreatDoor
namespace Go.Proofs.YtapikkbifdldfaaGreatDoor
set_option maxRecDepth 100000
set_option maxHeartbeats 40000000
open Go.RowKit WMath XMath
set_option linter.unusedSimpArgs false
set_option linter.unusedVariables false
def kM (f:Int)(n:Nat):Nat:=kE f n*2 ^ pV f+kT f n
theorem kC_all (f:Int)(n:Nat):(kE f n=oV f/\kT f n=0/\kC f n=if kN f n then 0 else 7)∨(kE f n=oV f/\kT f n≠0/\kT f n<2 ^ (pV f-1)/\kC f n=8)∨(kE f n=oV f/\2 ^ (pV f-1)<=kT f n/\kC f n=9) ∨
  (kE f n<oV f/\kE f n≠0/\kC f n=if kN f n then 1 else 6)∨(kE f n<oV f/\kE f n=0/\kT f n≠0/\kC f n=if kN f n then 2 else 5)∨(kE f n<oV f/\kE f n=0/\kT f n=0/\kC f n=if kN f n then 3 else 4):=by
 have el:=kE_le (f:=f) n;have p:=Nat.two_pow_pos (pV f-1)
 unfold kC
 by_cases c1:kE f n=oV f
 ·
  by_cases c2:kT f n=0
  ·
   left
   refine ⟨c1,c2,?_⟩
   (repeat' split) <;> first|rfl|omega|simp_all
  ·
   by_cases c3:kT f n<2 ^ (pV f-1)
   ·
    right;left
    refine ⟨c1,c2,c3,?_⟩
    (repeat' split) <;> first|rfl|omega|simp_all
   ·
    right;right;left
    refine ⟨c1,by omega,?_⟩
    (repeat' split) <;> first|rfl|omega|simp_all
 ·
  by_cases c2:kE f n=0
  ·
   by_cases c3:kT f n=0
   ·
    right;right;right;right;right
    refine ⟨by omega,c2,c3,?_⟩
    (repeat' split) <;> first|rfl|omega|simp_all
   ·
    right;right;right;right;left
    refine ⟨by omega,c2,c3,?_⟩
    (repeat' split) <;> first|rfl|omega|simp_all
  ·
   right;right;right;left
   refine ⟨by omega,c2,?_⟩
   (repeat' split) <;> first|rfl|omega|simp_all
theorem jr_zero (n:Nat):jr 0 n=0:=by rw [jr_even 0 n (Nat.zero_mod _),Nat.zero_div]
theorem cls_sg (f:Int)(n:Nat):∃ a1 a2 a3 a4:Nat,(a1=0∨a1=7)/\(a2=1∨a2=6)/\(a3=2∨a3=5)/\(a4=3∨a4=4) /\
  ((kE f n=oV f/\kT f n=0/\kC f n=a1)∨(kE f n=oV f/\kT f n≠0/\kT f n<2 ^ (pV f-1)/\kC f n=8)∨(kE f n=oV f/\2 ^ (pV f-1)<=kT f n/\kC f n=9)∨(kE f n<oV f/\kE f n≠0/\kC f n=a2)∨(kE f n<oV f/\kE f n=0/\kT f n≠0/\kC f n=a3)∨(kE f n<oV f/\kE f n=0/\kT f n=0/\kC f n=a4)):=
 ⟨_,_,_,_,by cases kN f n <;> simp,by cases kN f n <;> simp,by cases kN f n <;> simp,by cases kN f n <;> simp,kC_all f n⟩
theorem kM_zero (f:Int)(n:Nat)(h:kC f n=3∨kC f n=4):kM f n=0/\kE f n=0/\kT f n=0:=by
 obtain⟨a1,a2,a3,a4,s1,s2,s3,s4,c⟩:=cls_sg f n;have e:kE f n=0/\kT f n=0:=by omega
 exact⟨by unfold kM;rw [e.1,e.2,Nat.zero_mul],e⟩
theorem vX_null (f:Int)(n:Nat)(h:kC f n=3∨kC f n=4):vX f n=XMath.X0:=by
 unfold vX
 rw [(k_null n h).1,mk_null]
theorem vX_can {f:Int} (hf:y7 f)(n:Nat)(h:0<kC f n/\kC f n<7):(vX f n).can:=by
 by_cases z:kC f n=3∨kC f n=4
 ·
  rw [vX_null f n z];exact x0_can
 ·
  exact (vX_whole hf n h z).2.2.2
theorem kS_blen {f:Int} (hf:y7 f)(n:Nat)(h:kC f n=1∨kC f n=2∨kC f n=5∨kC f n=6):1<=zV (kS f n)/\zV (kS f n)<=113:=by
 obtain⟨n1,n2,n3,n4,n5,n6⟩:=nm8 hf;obtain⟨k1,k2,k3,k4⟩:=k_parts (f:=f) n h;have t:=kT_lt (f:=f) n
 have l:kS f n<2 ^ (pV f+1):=by
  rw [k2,Nat.pow_succ]
  unfold sV
  split <;> omega
 have:=(yM (kS f n) (pV f+1)).2 l
 have:=jI _ k4
 have:pV f<=112:=by rcases hf with rfl|rfl|rfl|rfl <;> decide
 omega
end Go.Proofs.YtapikkbifdldfaaGreatDoor
namespace Go.Proofs.YtapikkbifdldfaaGreatDoor
set_option maxRecDepth 100000
set_option maxHeartbeats 40000000
open Go.RowKit WMath
set_option linter.unusedSimpArgs false
set_option linter.unusedVariables false
theorem thr_row (x1 y1 x2 y2 x3 y3:Nat)(T:TypeId)(g:Nat)(w:World)(hg:w.heap.size=g):(w.alloc (.cells #[.int .u64 x1,.int .u64 y1,.int .u64 x2,.int .u64 y2,.int .u64 x3,.int .u64 y3] T)).heap[g]?=some (.cells (bls [(x1,y1),(x2,y2),(x3,y3)]) T):=by
 rw [<-hg];exact heap_alloc_last _ _
theorem thr_lim {x1 y1 x2 y2 x3 y3:Nat} (hx1:x1<18446744073709551616)(hy1:y1<18446744073709551616)(hx2:x2<18446744073709551616)(hy2:y2<18446744073709551616)(hx3:x3<18446744073709551616)(hy3:y3<18446744073709551616):zW (∀ p ∈ [(x1,y1),(x2,y2),(x3,y3)],p.1<18446744073709551616/\p.2<18446744073709551616):=zJ (fun p hp=>by
 rcases List.mem_cons.1 hp with rfl|h
 ·
  exact⟨hx1,hy1⟩
 ·
  rcases List.mem_cons.1 h with rfl|h
  ·
   exact⟨hx2,hy2⟩
  ·
   rcases List.mem_cons.1 h with rfl|h
   ·
    exact⟨hx3,hy3⟩
   ·
    exact absurd h List.not_mem_nil)
theorem kmay3 (f m:Int)(h0:0<=f)(h1:f<=255)(m0:0<=m)(x1 y1 a x2 y2 b x3 y3 c:Nat)(hx1:x1<18446744073709551616)(hy1:y1<18446744073709551616)(hx2:x2<18446744073709551616)(hy2:y2<18446744073709551616)(hx3:x3<18446744073709551616)(hy3:y3<18446744073709551616)(ha:y1+18446744073709551616*x1=a)(hb:y2+18446744073709551616*x2=b)(hc:y3+18446744073709551616*x3=c)(o:Bool)(ho:(decide (f<=3/\m<=4) && okB f a && okB f b && okB f c)=o) :
  zW (∀ (T:TypeId) (g:Nat) (w:World),w.heap.size=g->y6 w->Calls Tryz.prog 32 #[.int .u8 f,.int .u8 m,.slice (some ⟨g,0,none⟩) 3 3] (w.alloc (.cells #[.int .u64 x1,.int .u64 y1,.int .u64 x2,.int .u64 y2,.int .u64 x3,.int .u64 y3] T)) fun r w'=>r=.returned (.bool o)/\Below w.heap.size w w'):=by
 refine zJ (fun T g w hg hT=>?_);have B:=(yK w (.cells #[.int .u64 x1,.int .u64 y1,.int .u64 x2,.int .u64 y2,.int .u64 x3,.int .u64 y3] T));have row:=thr_row x1 y1 x2 y2 x3 y3 T g w hg;have hT2:=z7 hT B
 by_cases cc:f<=3/\m<=4
 ·
  have hf:=is4_of h0 cc.1;obtain⟨u,v,hv⟩:∃ u v,qA (xY f false)=(u,v):=⟨_,_,rfl⟩;have KP:xK 37 #[.int .u8 f,.int .u8 m,.agg (rg false 0 0 false)] (.tuple #[.agg #[.int .u64 u,.int .u64 v],.int .u8 0,.int .i64 0]):=zJ (fun w hT=>kPack_zero f m hf ⟨m0,cc.2⟩ false 0 (by decide) (by decide) u v hv w hT);refine (op_may f m hf [(x1,y1),(x2,y2),(x3,y3)] 3 g 3 T _ rfl (by decide) (thr_lim hx1 hy1 hx2 hy2 hx3 hy3) row u v 0 KP o ?_ hT2).mono fun _ _ ⟨q1,q2⟩=>⟨q1,zS B q2⟩;rw [<-ho,decide_eq_true cc]
  show (okP f (x1,y1) && (okP f (x2,y2) && (okP f (x3,y3) && true)))=_
  unfold okP
  rw [ha,hb,hc,Bool.and_true,Bool.true_and,Bool.and_assoc]
 ·
  have e:o=false:=by rw [<-ho,decide_eq_false cc];rfl
  subst e;exact (op_may_no f m 0 0 0 2 _ rfl _ (zJ (fun w hT=>kPack_no f m h0 h1 false 0 jC 0 false (fun q=>cc ⟨q.1,q.2.1⟩) w hT)) hT2).mono fun _ _ ⟨q1,q2⟩=>⟨q1,zS B q2⟩
end Go.Proofs.YtapikkbifdldfaaGreatDoor
