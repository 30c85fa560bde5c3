/-
  What the functions that the statement reaches return: part 24 (R18, R24, O1, D1, M0, M2, A0, E2, G7).
-/
import Derived.Test.YtdjlfhcalccajaaGreatDoorWc23
namespace Go.Proofs.YtdjlfhcalccajaaGreatDoor
set_option maxRecDepth 100000
set_option maxHeartbeats 40000000
set_option maxRecDepth 100000
open Go.RowKit WMath XMath
set_option linter.unusedSimpArgs false
set_option linter.unusedVariables false
theorem fin_lt {f:Int} (n:Nat)(hc:0<kC f n/\kC f n<7):kE f n<oV f:=by
  have el:=kE_le (f:=f) n
  rcases Nat.lt_or_ge (kE f n) (oV f) with c|c
  . exact c
  . exfalso
    have e:kE f n=oV f:=by omega
    obtain⟨h1,h2⟩:=hc
    unfold kC at h1 h2
    rw [if_pos e] at h1 h2
    revert h1 h2
    (repeat' split) <;> omega
theorem nl_bd (x p:Nat)(h:x<2 ^ p)(hp:p<=65536):nl x<=8192:=by
  have:=(blen_iff x p).2 h
  unfold nl
  omega
theorem own_round {f:Int} (hf:Is4 f)(m:Int)(n:Nat)(fit:Fit f n)(hc:0<kC f n/\kC f n<7):(vX f n).can/\nl (vX f n).n<=8192/\nl (vX f n).d<=8192/\(((vX f n).n≠0/\rnd f m (vX f n)=(n,0))∨(vX f n=X0)):=by
  have el:=fin_lt n hc;have tl:=kT_lt (f:=f) n;have ke:=k_enc hf fit;have v:=vX_enc hf (kN f n) (kE f n) (kT f n) el tl;rw [ke] at v;obtain⟨v1,v2,v3,v4,v5,v6⟩:=v;obtain⟨w1,w2,w3,w4⟩:=v4;refine ⟨v2,nl_bd _ 128 w1 (by decide),nl_bd _ 128 w2 (by decide),?_⟩
  by_cases z:sV f (kE f n) (kT f n)=0
  . exact Or.inr (v5 z)
  . refine Or.inl ⟨(v6 z).1,?_⟩
    have c4:¬ (kC f n=3∨kC f n=4):=fun c=>by
      have:=vX_mk hf n hc
      rw [(k_null n c).1,mk_null] at this;injection this with h1 h2
      have:=(v6 z).1
      rw [<-h1] at this;exact this rfl
    obtain⟨a,b,d,e⟩:=k_parts (f:=f) n (by omega);have m1:=vX_mk hf n hc;have m2:=(val_of hf (kN f n) (kE f n) (kT f n) el tl z).1;rw [b,d,m2] at m1;injection m1 with h1 h2;rw [<-h1,rnd_own hf m (kN f n) (kE f n) (kT f n) el tl z,ke]
def Fnd0 (f:Int)(x:XN)(T:Int)(W:Nat)(more:Bool):Prop:=T=topX x/\∀ k:Nat,T-fP f+(k:Int)<=2000000->flX x (T-fP f+(k:Int))=((W / 2 ^ k,!more && decide (W % 2 ^ k=0)),0)
theorem fnd_x0 {f:Int} (hf:Is4 f) {x:XN} (hx:x.can)(n0:x.n≠0)(hd:nl x.d<=8192):Wok f (xW f x)/\Fnd0 f x (topX x) (xW f x) (xM f x):=by
  obtain⟨t1,t2⟩:=top_lim hx;obtain⟨a,b⟩:=x_num hf x hx n0 hd t1 t2;exact⟨a,rfl,b⟩
theorem rfind0 (f:Int)(hf:Is4 f)(b:Bool)(n d:Nat)(s t:ByteArray)(e:Int)(hs:nbA n=s)(ht:nbA d=t)(hc:(XN.mk b n d e).can)(T:Int)(t1:-1300000<=T)(t2:T<=1300000)(W:Nat)(more:Bool)(lw:nl W<=8192)(hF:Fnd0 f ⟨b,n,d,e⟩ T W more)(k:Nat)(A:Int)(hA:T-fP f+1+(k:Int)=A)(hA2:A<=900000)(M:ByteArray)(hM:nbA (rS W k)=M)(w:World) :
    Calls Tryz.prog 117 #[.agg #[.bool b,.string s,.string t,.int .i64 e],.bool false,.int .i64 A] w fun r w'=>r=.returned (.agg #[.string M,.int .i64 A,.int .i64 (hfV (rH W k) (rM W k more)),.bool (!(rH W k || rM W k more))])/\Below w.heap.size w w':=by
  have p:=fp8 hf;have n4:=(nm8 hf).2.2.2.1;have d1:nl (W / 2 ^ k)<=8192:=Nat.le_trans (nl_mono _ _ (Nat.div_le_self _ _)) lw;have KL:Box (∀ w,Calls Tryz.prog 150 #[.string (nbA (W / 2 ^ k))] w fun r w'=>r=.returned (.bool (rH W k))/\Below w.heap.size w w'):=box (fun w=>rf_last _ _ _ rfl (by omega) (last_is W k) w);obtain⟨hTx,hF⟩:=hF;have F1:=hF (k+1) (by omega);have F2:=hF k (by omega);rw [cut_two,ex_is,show T-fP f+((k+1:Nat):Int)=A by omega] at F1;rw [wh_is] at F2;have K1:Box (∀ w,Calls Tryz.prog 70 #[.agg #[.bool b,.string s,.string t,.int .i64 e],.int .i64 A] w fun r w'=>r=.returned (.tuple #[.string M,.bool (!(rH W k || rM W k more)),.int .i64 0])/\Below w.heap.size w w'):=box (fun w=>rFloor_ok b n d e s t A _ _ 0 M hs ht hc (by omega) (by omega) F1 hM w);have K2:Box (∀ w,Calls Tryz.prog 70 #[.agg #[.bool b,.string s,.string t,.int .i64 e],.int .i64 (T-fP f+(k:Int))] w fun r w'=>r=.returned (.tuple #[.string (nbA (W / 2 ^ k)),.bool (!rM W k more),.int .i64 0])/\Below w.heap.size w w'):=box (fun w=>rFloor_ok b n d e s t _ _ _ 0 _ hs ht hc (by omega) (by omega) F2 rfl w);have a1:IntKind.i64.wrap (A-1)=T-fP f+(k:Int):=by rw [wrap_i64_is _ (by omega) (by omega)];omega
  generalize rH W k=H at *;generalize rM W k more=R at *
  cases H <;> cases R
  . exact rf_find_ex b s t e A A A 0 0 M M M M M M w K1
  . exact rf_find_lo1 b s t e A _ A 0 0 M M _ M M M w K1 K2 KL a1
  . exact rf_find_half b s t e A _ A 0 0 M M _ M M M w K1 K2 KL a1
  . exact rf_find_hi b s t e A _ A 0 0 M M _ M M M w K1 K2 KL a1
theorem rtop0 (f:Int)(b:Bool)(n d:Nat)(s t:ByteArray)(e:Int)(hs:nbA n=s)(ht:nbA d=t)(hc:(XN.mk b n d e).can)(n0:n≠0)(T:Int)(W:Nat)(more:Bool)(hF:Fnd0 f ⟨b,n,d,e⟩ T W more)(w:World):Calls Tryz.prog 115 #[.agg #[.bool b,.string s,.string t,.int .i64 e],.bool false] w fun r w'=>r=.returned (.int .i64 T)/\Below w.heap.size w w':=by
  obtain⟨t1,t2⟩:=top_lim hc;exact rf_top b s t e T 0 w (box (fun w=>rTop_ok b n d e s t T hs ht n0 hc hF.1.symm w))
theorem rtiny0 (f m:Int)(hf:Is4 f)(hm:0<=m/\m<=4)(b:Bool)(n d:Nat)(s t:ByteArray)(e:Int)(hs:nbA n=s)(ht:nbA d=t)(hc:(XN.mk b n d e).can)(n0:n≠0)(T:Int)(t1:-1300000<=T)(t2:T<=1300000)(W:Nat)(more:Bool)(hW:Wok f W)(hF:Fnd0 f ⟨b,n,d,e⟩ T W more)(o:Bool)(ho:tnB f m b T W more=o)(w:World) :
    Calls Tryz.prog 119 #[.int .u8 f,.int .u8 m,.agg #[.bool b,.string s,.string t,.int .i64 e],.bool false] w fun r w'=>r=.returned (.bool o)/\Below w.heap.size w w':=by
  have p:=fp8 hf;obtain⟨n1,n2,n3,n4,n5,n6⟩:=nm8 hf;have KT:Box (∀ w,Calls Tryz.prog 115 #[.agg #[.bool b,.string s,.string t,.int .i64 e],.bool false] w fun r w'=>r=.returned (.int .i64 T)/\Below w.heap.size w w'):=box (fun w=>rtop0 f b n d s t e hs ht hc n0 T W more hF w);have KI:Box (∀ w,Calls Tryz.prog 69 #[.int .u8 f] w fun r w'=>r=.returned (.int .i64 (1-fE f))/\Below w.heap.size w w'):=box (fun w=>r_emin_b f hf w);have i1:IntKind.i64.wrap (1-fE f-1)=1-fE f-1:=wrap_i64_is _ (by omega) (by omega)
  by_cases c1:1-fE f<=T
  . rw [tn_hi hf hW m b T more c1] at ho
    subst ho;exact rf_tiny_hi f m b s t e false T _ 0 0 0 0 0 s s false false 0 w KT KI (decide_eq_true c1)
  by_cases c2:T<1-fE f-1
  . rw [tn_lo hf hW m b T more c2] at ho
    subst ho;exact rf_tiny_lo f m b s t e false T _ _ 0 0 0 0 s s false false 0 w KT KI (decide_eq_false c1) i1 (decide_eq_true c2)
  . rw [tn_mid hf m b T more (by omega)] at ho
    have lim:=(rG_lim hW m b 0 more).1
    exact rf_tiny_mid f m b s t e false T _ _ (fP f) (T-fP f) (T-fP f+1) _ (nbA (rS W 0)) (nbA (rG m b W 0 more)) _ o _ w KT KI (box (fun w=>r_prec_b f hf w))
      (box (fun w=>rfind0 f hf b n d s t e hs ht hc T t1 t2 W more (nl_W hf hW) hF 0 _ (by omega) (by omega) _ rfl w))
      (box (fun w=>rtaken m hm b W 0 more (nl_W hf hW) _ _ _ rfl rfl w))
      (box (fun w=>bel_same (nat_Len _ _ _ rfl (nl_small hf _ lim) rfl w))) (decide_eq_false c1) i1 (decide_eq_false c2) (wrap_i64_is _ (by omega) (by omega)) (wrap_i64_is _ (by omega) (by omega)) ho
theorem rdeliver0 (f m:Int)(hf:Is4 f)(hm:0<=m/\m<=4)(b:Bool)(n d:Nat)(s t:ByteArray)(e:Int)(hs:nbA n=s)(ht:nbA d=t)(hc:(XN.mk b n d e).can)(n0:n≠0)(T:Int)(t1:-1300000<=T)(t2:T<=1300000)(W:Nat)(more:Bool)(hW:Wok f W)(hF:Fnd0 f ⟨b,n,d,e⟩ T W more)(M:Nat)(fl:Int)(hd:dlv f m b T W more=(M,fl))(u v:Nat)(hv:bv7 M=(u,v))(w:World) :
    Calls Tryz.prog 65 #[.int .u8 f,.int .u8 m,.agg #[.bool b,.string s,.string t,.int .i64 e],.bool false] w fun r w'=>r=.returned (.tuple #[.agg #[.int .u64 (u:Nat),.int .u64 (v:Nat)],.int .u8 fl])/\Below w.heap.size w w':=by
  have p:=fp8 hf;obtain⟨n1,n2,n3,n4,n5,n6⟩:=nm8 hf;have KT:Box (∀ w,Calls Tryz.prog 115 #[.agg #[.bool b,.string s,.string t,.int .i64 e],.bool false] w fun r w'=>r=.returned (.int .i64 T)/\Below w.heap.size w w'):=box (fun w=>rtop0 f b n d s t e hs ht hc n0 T W more hF w);have KP:Box (∀ w,Calls Tryz.prog 57 #[.int .u8 f] w fun r w'=>r=.returned (.int .i64 (fP f))/\Below w.heap.size w w'):=box (fun w=>r_prec_b f hf w);have KE:Box (∀ w,Calls Tryz.prog 68 #[.int .u8 f] w fun r w'=>r=.returned (.int .i64 (fE f))/\Below w.heap.size w w'):=box (fun w=>r_emax_b f hf w);have KI:Box (∀ w,Calls Tryz.prog 69 #[.int .u8 f] w fun r w'=>r=.returned (.int .i64 (1-fE f))/\Below w.heap.size w w'):=box (fun w=>r_emin_b f hf w)
  by_cases c0:fE f<T
  . rw [dlv_over hf hW m b T more c0] at hd
    injection hd with a1 a2;subst a1 a2;exact rf_del_over f m b s t e false T _ _ 0 0 0 0 0 s s false false s s 0 0 u v false w KT KP KE (box (fun w=>rover f m hf hm b u v hv w)) (decide_eq_true c0)
  have lim:=rG_lim hW m b (dK f T) more;have sl:=nl_W hf hW;have kk:stE f T-T=(dK f T:Int):=by unfold dK stE;omega
  have stx:=st_lx hf T;obtain⟨S,hS⟩:∃ S,rG m b W (dK f T) more=S:=⟨_,rfl⟩;have nlim:=null_lim hf hW m b (dK f T) more;have kb:dK f T<=1400000:=by unfold dK stE;omega
  have jb:dJ f T<=40000:=by unfold dJ stE;omega
  unfold dlv at hd
  rw [hS] at hd lim nlim
  have hj:dJ f T=0∨2 ^ pV f<=S:=by
    rcases jk (f:=f) T with ⟨a,_⟩|⟨a,_⟩
    . exact Or.inl a
    . exact Or.inr (lim.2.1 a)
  obtain⟨x,hx,xc,xz⟩:∃ x:XN,XMath.mk b S 1 (lx f+(dJ f T:Int))=(x,0)/\x.can/\(x.n=0↔S=0):=by
    by_cases s0:S=0
    . subst s0
      exact⟨X0,mk_null _ _ _,x0_can,by decide⟩
    . obtain⟨a,c,d,_⟩:=mk_small hf b (dJ f T) S s0 lim.1 jb
      exact⟨_,a,c,⟨fun h=>absurd h d,fun h=>absurd h s0⟩⟩
  obtain⟨xb,xn,xd,xe⟩:=x
  obtain⟨i,j,ok,hij,hok1,hok2,hok3⟩:∃ i j ok,(S≠0->∃ Mx,ofX f ⟨xb,xn,xd,xe⟩=(Mx,ok)/\bv7 Mx=(i,j))/\(ok=true->i=u/\j=v)/\(ok=true->¬ fE f<stE f T-fP f+(blen S:Int))/\(ok=false->fE f<stE f T-fP f+(blen S:Int)):=by
    by_cases s0:S=0
    . have b0:blen S=0:=by rw [s0];decide
      exact⟨u,v,true,fun h=>absurd s0 h,fun _=>⟨rfl,rfl⟩,fun _=>by rw [b0];unfold stE;omega,fun h=>Bool.noConfusion h⟩
    . obtain⟨a,c,dd,tp⟩:=mk_small hf b (dJ f T) S s0 lim.1 jb
      rw [hx] at a;injection a with a1 a2
      by_cases ov:fE f<stE f T-fP f+(blen S:Int)
      . exact⟨0,0,false,fun _=>⟨0,by rw [a1];exact of_over hf b (dJ f T) S s0 lim.1 jb (by omega),rfl⟩,fun h=>Bool.noConfusion h,fun h=>Bool.noConfusion h,fun _=>ov⟩
      . have hd2:=hd
        rw [if_neg ov] at hd2;injection hd2 with h1 h2;exact⟨u,v,true,fun _=>⟨M,by rw [a1,<-h1];exact of_rep hf b (dJ f T) S s0 lim.1 hj (by omega),hv⟩,fun _=>⟨rfl,rfl⟩,fun _=>ov,fun h=>Bool.noConfusion h⟩
  have b0:S=0->blen S=0:=fun h=>by rw [h];decide
  have nul0:S=0->M=eZero f b/\fl=3:=fun s0=>by
    obtain⟨k3,kl⟩:=nlim s0;have hj0:dJ f T=0:=by have:=Nat.two_pow_pos (pV f);omega
    rw [if_neg (by rw [b0 s0];unfold stE;omega)] at hd;injection hd with h1 h2;rw [if_pos kl,if_pos (tn_lo hf hW m b T more (by rcases jk (f:=f) T with ⟨_,q⟩|⟨q,_⟩ <;> omega))] at h2;refine ⟨?_,h2.symm⟩;rw [<-h1,hj0,s0]
    unfold eS eZero enc7
    rfl
  have KF:∀ A0,A0=stE f T->Box (∀ w,Calls Tryz.prog 117 #[.agg #[.bool b,.string s,.string t,.int .i64 e],.bool false,.int .i64 (A0-fP f+1)] w fun r w'=>r=.returned (.agg #[.string (nbA (rS W (dK f T))),.int .i64 (A0-fP f+1),.int .i64 (hfV (rH W (dK f T)) (rM W (dK f T) more)),.bool (!(rH W (dK f T) || rM W (dK f T) more))])/\Below w.heap.size w w'):=fun A0 h0=>box (fun w=>rfind0 f hf b n d s t e hs ht hc T t1 t2 W more sl hF (dK f T) _ (by omega) (by rw [h0];unfold stE;omega) _ rfl w);have KK:∀ A,Box (∀ w,Calls Tryz.prog 118 #[.int .u8 m,.bool b,.agg #[.string (nbA (rS W (dK f T))),.int .i64 A,.int .i64 (hfV (rH W (dK f T)) (rM W (dK f T) more)),.bool (!(rH W (dK f T) || rM W (dK f T) more))]] w fun r w'=>r=.returned (.string (nbA S))/\Below w.heap.size w w'):=fun A=>box (fun w=>rtaken m hm b W (dK f T) more sl A _ _ rfl (by rw [hS]) w);have KM:∀ A0,A0=stE f T->Box (∀ w,Calls Tryz.prog 62 #[.bool b,.string (nbA S),.string ⟨#[1]⟩,.int .i64 (A0-fP f+1)] w fun r w'=>r=.returned (.tuple #[.agg #[.bool xb,.string (nbA xn),.string (nbA xd),.int .i64 xe],.int .i64 0])/\Below w.heap.size w w'):=fun A0 h0=>box (fun w=>rmake_ok b S 1 _ _ _ xb xn xd xe 0 _ _ rfl nb1 (nl_small hf S lim.1) nl1 (by decide) (by omega) (by omega) (by rw [h0,stx];exact hx) rfl rfl w);have hn:((nbA xn).toList == [])=decide (S=0):=by rw [od_nil xn _ rfl,decide_eq_decide];exact xz
  have hfl:(if decide (S=0)=true then (3:Int) else if ok=true then (if (!(rH W (dK f T) || rM W (dK f T) more))=true then 0 else if tnB f m b T W more=true then 3 else 1) else 5)=fl:=by
    by_cases s0:S=0
    . rw [if_pos (decide_eq_true s0)]
      exact (nul0 s0).2.symm
    . rw [if_neg (by simpa using s0)]
      cases ok
      . rw [if_neg (by decide)]
        rw [if_pos (hok3 rfl)] at hd;injection hd
      . rw [if_pos rfl]
        rw [if_neg (hok2 rfl)] at hd;injection hd with h1 h2;rw [<-h2];generalize (rH W (dK f T) || rM W (dK f T) more)=q
        cases q <;> rfl
  have KZ:Box (decide (S=0)=true->∀ w,Calls Tryz.prog 29 #[.int .u8 f,.bool b] w fun r w'=>r=.returned (.agg #[.int .u64 (u:Nat),.int .u64 (v:Nat)])/\Below w.heap.size w w'):=box (fun h w=>rz_zero f b hf u v (by rw [<-(nul0 (of_decide_eq_true h)).1];exact hv) w)
  have KB:Box (decide (S=0)=false->∀ w,Calls Tryz.prog 33 #[.int .u8 f,.agg #[.bool xb,.string (nbA xn),.string (nbA xd),.int .i64 xe]] w fun r w'=>r=.returned (.tuple #[.agg #[.int .u64 (i:Nat),.int .u64 (j:Nat)],.bool ok])/\Below w.heap.size w w'):=box (fun h w=>by
    obtain⟨Mx,q1,q2⟩:=hij (of_decide_eq_false h);exact rOf_is f hf xb xn xd _ _ xe rfl rfl xc Mx ok i j q1 q2 w)
  have KO:Box (ok=false->∀ w,Calls Tryz.prog 116 #[.int .u8 f,.int .u8 m,.bool b] w fun r w'=>r=.returned (.agg #[.int .u64 (u:Nat),.int .u64 (v:Nat)])/\Below w.heap.size w w'):=box (fun h w=>rover f m hf hm b u v (by
    rw [if_pos (hok3 h)] at hd;injection hd with h1 h2;rw [h1];exact hv) w)
  have KN:Box (∀ w,Calls Tryz.prog 119 #[.int .u8 f,.int .u8 m,.agg #[.bool b,.string s,.string t,.int .i64 e],.bool false] w fun r w'=>r=.returned (.bool (tnB f m b T W more))/\Below w.heap.size w w'):=box (fun w=>rtiny0 f m hf hm b n d s t e hs ht hc n0 T t1 t2 W more hW hF _ rfl w)
  by_cases lo:T<1-fE f
  . have hst:1-fE f=stE f T:=by unfold stE;omega
    exact rf_deliver_a f m b s t e false T (fE f) (fP f) (1-fE f) (1-fE f) _ (1-fE f-fP f+1) _ fl _ _ _ xb _ _ xe 0 u v i j ok _ _ w KT KP KE KI (KF _ hst) (KK _) (KM _ hst) KZ KB KO hok1 KN (decide_eq_false c0) (decide_eq_true lo) (wrap_i64_is _ (by omega) (by omega)) (wrap_i64_is _ (by omega) (by omega)) rfl hn hfl
  . have hst:T=stE f T:=by unfold stE;omega
    exact rf_deliver_b f m b s t e false T (fE f) (fP f) (1-fE f) T _ (T-fP f+1) _ fl _ _ _ xb _ _ xe 0 u v i j ok _ _ w KT KP KE KI (KF _ hst) (KK _) (KM _ hst) KZ KB KO hok1 KN (decide_eq_false c0) (decide_eq_false lo) (wrap_i64_is _ (by omega) (by omega)) (wrap_i64_is _ (by omega) (by omega)) rfl hn hfl
theorem rRound_is0 (f m:Int)(hf:Is4 f)(hm:0<=m/\m<=4)(b:Bool)(n d:Nat)(s t:ByteArray)(e:Int)(hs:nbA n=s)(ht:nbA d=t)(hc:(XN.mk b n d e).can)(ln:nl n<=8192)(ld:nl d<=8192)(M:Nat)(fl:Int)(hd:rnd f m ⟨b,n,d,e⟩=(M,fl))(u v:Nat)(hv:bv7 M=(u,v))(w:World) :
    Calls Tryz.prog 31 #[.int .u8 f,.int .u8 m,.agg #[.bool b,.string s,.string t,.int .i64 e]] w fun r w'=>r=.returned (.tuple #[.agg #[.int .u64 (u:Nat),.int .u64 (v:Nat)],.int .u8 fl,.int .i64 0])/\Below w.heap.size w w':=by
  have KF:Box (∀ w,Calls Tryz.prog 64 #[.int .u8 f,.int .u8 m,.agg #[.bool b,.string s,.string t,.int .i64 e]] w fun r w'=>r=.returned (.int .i64 0)/\Below w.heap.size w w'):=box (fun w=>rfault f m b s t e true (may_yes hs ht hc) 0 (flt_ok hf hm hs ht ln ld) w)
  unfold rnd at hd
  rcases x_cases hs ht hc with ⟨n0,rfl,rfl,rfl,rfl,rfl⟩|⟨n0,e0⟩
  . rw [if_pos n0] at hd
    injection hd with h1 h2;subst h1 h2;injection hv with h3 h4;subst h3 h4;exact rf_Round_null f m w KF
  . rw [if_neg n0] at hd
    obtain⟨t1,t2⟩:=top_lim hc;obtain⟨q1,q2⟩:=fnd_x0 hf hc n0 ld;exact rf_Round_ok f m b s t e u v fl w KF (box (fun w=>rdeliver0 f m hf hm b n d s t e hs ht hc n0 _ (by omega) (by omega) _ _ q1 q2 M fl hd u v hv w)) (eq_nil n s hs n0)
end Go.Proofs.YtdjlfhcalccajaaGreatDoor
namespace Go.Proofs.YtdjlfhcalccajaaGreatDoor
set_option maxRecDepth 100000
set_option maxHeartbeats 40000000
set_option maxRecDepth 100000
open Go.RowKit WMath
set_option linter.unusedSimpArgs false
set_option linter.unusedVariables false
theorem op_endless (c:Nat)(o:Bool)(ho:(decide (c=0) || decide (c=7))=o)(w:World):Calls Tryz.prog 16 #[.int .u8 (c:Nat)] w fun r w'=>r=.returned (.bool o)/\Below w.heap.size w w':=by
  by_cases c0:c=0
  . rw [decide_eq_true c0,Bool.true_or] at ho
    subst ho;have d0:((c:Int) == 0)=true:=by rw [c0];rfl
    clear c0;have B0:Below w.heap.size w w:=(Below.refl _ _)
    go_enter Tryz.func16,Tryz.ntmps16
    go_wp2
    go_ret
    exact⟨rfl,B0⟩
  . rw [decide_eq_false c0,Bool.false_or] at ho
    have d0:((c:Int) == 0)=false:=by rw [beq_eq_false_iff_ne];omega
    have d7:((c:Int) == 7)=o:=by
      rw [<-ho]
      by_cases c7:c=7
      . rw [decide_eq_true c7,c7];rfl
      . rw [decide_eq_false c7,beq_eq_false_iff_ne];omega
    clear ho c0;have B0:Below w.heap.size w w:=(Below.refl _ _)
    go_enter Tryz.func16,Tryz.ntmps16
    go_wp2
    go_ret
    exact⟨rfl,B0⟩
set_option maxRecDepth 100000 in
theorem op_inf (f:Int)(neg:Bool)(u v:Nat)(w:World)(KI:Box (∀ w,FAt w->Calls Tryz.prog 39 #[.int .u8 f,.int .u8 0,.bool neg] w fun r w'=>r=.returned (.tuple #[.agg #[.int .u64 (u:Nat),.int .u64 (v:Nat)],.int .u8 5,.int .i64 0])/\Below w.heap.size w w'))(hT:FAt w):Calls Tryz.prog 17 #[.int .u8 f,.bool neg] w fun r w'=>r=.returned (.agg #[.int .u64 (u:Nat),.int .u64 (v:Nat)])/\Below w.heap.size w w':=by
  have FF:=box hT;clear hT;obtain⟨Rz_0,B0⟩:=opn1 w (Obj.cells #[.int .u64 0,.int .u64 0] 26)
  go_enter Tryz.func17,Tryz.ntmps17
  go_wp2_with fail
  refine (KI.out _ (fatB FF.out B0)).mono ?_;rintro r w1 ⟨rfl,b1⟩;have B1:Below w.heap.size w w1:=btr B0 b1;have Rz_1:=heap_of b1 _ _ _ Rz_0;clear b1 B0 Rz_0;obtain⟨cz_1_0,cz_1_1⟩:=cells2s Rz_1;have S2:=box B1.size;have Lz_2:Box (w.heap.size<w1.heap.size):=box (Array.getElem?_eq_some_iff.1 Rz_1).1;have Ri_2:=heap_alloc_last w1 (Obj.cells #[.int .u64 (u:Nat),.int .u64 (v:Nat)] 26);have B2:=btr B1 (bal w1 (Obj.cells #[.int .u64 (u:Nat),.int .u64 (v:Nat)] 26));have Rz_2:=heap_of (bal w1 (Obj.cells #[.int .u64 (u:Nat),.int .u64 (v:Nat)] 26)) _ _ _ Rz_1;clear B1 Rz_1 cz_1_0 cz_1_1;obtain⟨cz_2_0,cz_2_1⟩:=cells2s Rz_2;obtain⟨ci_2_0,ci_2_1⟩:=cells2s Ri_2;have q0:=fz (k:=0) Rz_2;have q1:=fz (k:=1) Rz_2;obtain⟨E0,E1⟩:=set2_cells Rz_2 (.int .u64 (u:Nat)) (.int .u64 (v:Nat));go_wp2
  exact bodyPost_ret (v:=.agg #[.int .u64 (u:Nat),.int .u64 (v:Nat)]) (by simp [results,Tryz.results17,go_sem,E0,E1]) rfl ⟨rfl,set2_below B2 (by first|exact Nat.le_refl _|omega|(have:=S2.out;have:=Lz_2.out;omega)) _ _⟩
set_option maxRecDepth 100000 in
set_option maxHeartbeats 4000000 in
theorem op_nan (f:Int)(iu iv t p q j:Nat)(h1:bits .or .u64 (iv:Int) 1=(t:Int))(h2:bits .andNot .u64 (q:Int) 1=(j:Int))(w:World)(KI:Box (∀ w,FAt w->Calls Tryz.prog 17 #[.int .u8 f,.bool false] w fun r w'=>r=.returned (.agg #[.int .u64 (iu:Nat),.int .u64 (iv:Nat)])/\Below w.heap.size w w'))
    (KQ:Box (∀ w,FAt w->Calls Tryz.prog 38 #[.int .u8 f,.agg #[.int .u64 (iu:Nat),.int .u64 (t:Nat)]] w fun r w'=>r=.returned (.agg #[.int .u64 (p:Nat),.int .u64 (q:Nat)])/\Below w.heap.size w w')) (hT:FAt w):Calls Tryz.prog 14 #[.int .u8 f] w fun r w'=>r=.returned (.agg #[.int .u64 (p:Nat),.int .u64 (j:Nat)])/\Below w.heap.size w w':=by
  have FF:=box hT;clear hT;obtain⟨Rz_0,B0⟩:=opn1 w (Obj.cells #[.int .u64 0,.int .u64 0] 26)
  go_enter Tryz.func14,Tryz.ntmps14
  go_wp2_with fail
  refine (KI.out _ (fatB FF.out B0)).mono ?_;rintro r w1 ⟨rfl,b1⟩;have B1:Below w.heap.size w w1:=btr B0 b1;have Rz_1:=heap_of b1 _ _ _ Rz_0;clear b1 B0 Rz_0;obtain⟨cz_1_0,cz_1_1⟩:=cells2s Rz_1;have S2:=box B1.size;have Lz_2:Box (w.heap.size<w1.heap.size):=box (Array.getElem?_eq_some_iff.1 Rz_1).1;have Rb_2:=heap_alloc_last w1 (Obj.cells #[.int .u64 (iu:Nat),.int .u64 (t:Nat)] 26);have B2:=btr B1 (bal w1 (Obj.cells #[.int .u64 (iu:Nat),.int .u64 (t:Nat)] 26));have Rz_2:=heap_of (bal w1 (Obj.cells #[.int .u64 (iu:Nat),.int .u64 (t:Nat)] 26)) _ _ _ Rz_1;clear B1 Rz_1 cz_1_0 cz_1_1;obtain⟨cz_2_0,cz_2_1⟩:=cells2s Rz_2;obtain⟨cb_2_0,cb_2_1⟩:=cells2s Rb_2;go_wp2_with fail
  refine (KQ.out _ (fatB FF.out B2)).mono ?_;rintro r w3 ⟨rfl,b3⟩;have B3:Below w.heap.size w w3:=btr B2 b3;have Rz_3:=heap_of b3 _ _ _ Rz_2;have Rb_3:=heap_of b3 _ _ _ Rb_2;clear b3 B2 Rz_2 cz_2_0 cz_2_1 Rb_2 cb_2_0 cb_2_1;obtain⟨cz_3_0,cz_3_1⟩:=cells2s Rz_3;obtain⟨cb_3_0,cb_3_1⟩:=cells2s Rb_3;have q0_4:=fz (k:=0) Rb_3;have q1_4:=fz (k:=1) Rb_3;have B4:=set2_below B3 (show w.heap.size<=w1.heap.size by first|exact Nat.le_refl _|omega|(have:=S2.out;have:=Lz_2.out;omega)) (.int .u64 (p:Nat)) (.int .u64 (q:Nat));have Rb_4:((w3.setCell ⟨w1.heap.size,0,none⟩ (.int .u64 (p:Nat))).setCell ⟨w1.heap.size,1,none⟩ (.int .u64 (q:Nat))).heap[w1.heap.size]?=some (Obj.cells #[.int .u64 (p:Nat),.int .u64 (q:Nat)] 26):=set2_row Rb_3 _ _;have Rz_4:((w3.setCell ⟨w1.heap.size,0,none⟩ (.int .u64 (p:Nat))).setCell ⟨w1.heap.size,1,none⟩ (.int .u64 (q:Nat))).heap[w.heap.size]?=some (Obj.cells #[.int .u64 0,.int .u64 0] 26):=(setCell_other (by first|omega|(have:=S2.out;have:=Lz_2.out;omega))).trans ((setCell_other (by first|omega|(have:=S2.out;have:=Lz_2.out;omega))).trans Rz_3);obtain⟨cz_4_0,cz_4_1⟩:=cells2s Rz_4;obtain⟨cb_4_0,cb_4_1⟩:=cells2s Rb_4;have qb_4:=fz (k:=1) Rb_4;have B5:Below w.heap.size w (((w3.setCell ⟨w1.heap.size,0,none⟩ (.int .u64 (p:Nat))).setCell ⟨w1.heap.size,1,none⟩ (.int .u64 (q:Nat))).setCell ⟨w1.heap.size,1,none⟩ (.int .u64 (j:Nat))):=B4.setCell (by first|exact Nat.le_refl _|(have:=S2.out;have:=Lz_2.out;show w.heap.size<=w1.heap.size;omega)) _;have Rb_5:(((w3.setCell ⟨w1.heap.size,0,none⟩ (.int .u64 (p:Nat))).setCell ⟨w1.heap.size,1,none⟩ (.int .u64 (q:Nat))).setCell ⟨w1.heap.size,1,none⟩ (.int .u64 (j:Nat))).heap[w1.heap.size]?=some (Obj.cells #[.int .u64 (p:Nat),.int .u64 (j:Nat)] 26):=by rw [setCell_row Rb_4];rfl
  have Rz_5:(((w3.setCell ⟨w1.heap.size,0,none⟩ (.int .u64 (p:Nat))).setCell ⟨w1.heap.size,1,none⟩ (.int .u64 (q:Nat))).setCell ⟨w1.heap.size,1,none⟩ (.int .u64 (j:Nat))).heap[w.heap.size]?=some (Obj.cells #[.int .u64 0,.int .u64 0] 26):=by rw [setCell_other (by first|omega|(have:=S2.out;have:=Lz_2.out;omega))];exact Rz_4
  obtain⟨cz_5_0,cz_5_1⟩:=cells2s Rz_5;obtain⟨cb_5_0,cb_5_1⟩:=cells2s Rb_5;have q0:=fz (k:=0) Rz_5;have q1:=fz (k:=1) Rz_5;obtain⟨E0,E1⟩:=set2_cells Rz_5 (.int .u64 (p:Nat)) (.int .u64 (j:Nat));go_wp2
  exact bodyPost_ret (v:=.agg #[.int .u64 (p:Nat),.int .u64 (j:Nat)]) (by simp [results,Tryz.results14,go_sem,E0,E1]) rfl ⟨rfl,set2_below B5 (by first|exact Nat.le_refl _|omega|(have:=S2.out;have:=Lz_2.out;omega)) _ _⟩
set_option maxRecDepth 100000 in
set_option maxHeartbeats 8000000 in
theorem op_may_no (f m:Int)(pu pv:Nat)(fl c:Int)(sl:Value)(hc:(c != 0)=true)(w:World)
    (KP:Box (∀ w,FAt w->Calls Tryz.prog 18 #[.int .u8 f,.int .u8 m,.agg (rg false 0 0 false)] w fun r w'=>r=.returned (.tuple #[.agg #[.int .u64 (pu:Nat),.int .u64 (pv:Nat)],.int .u8 fl,.int .i64 c])/\Below w.heap.size w w')) (hT:FAt w):Calls Tryz.prog 11 #[.int .u8 f,.int .u8 m,sl] w fun r w'=>r=.returned (.bool false)/\Below w.heap.size w w':=by
  have FF:=box hT;clear hT;have hp3:=rgz;have B0:Below w.heap.size w w:=(Below.refl _ _)
  go_enter Tryz.func11,Tryz.ntmps11
  go_wp2_with fail
  refine (KP.out _ (fatB FF.out B0)).mono ?_;rintro r w1 ⟨rfl,b1⟩;have B1:Below w.heap.size w w1:=btr B0 b1;clear b1 B0;have S2:=box B1.size;have Rp_2:=heap_alloc_last w1 (Obj.cells #[.int .u64 (pu:Nat),.int .u64 (pv:Nat)] 26);have B2:=btr B1 (bal w1 (Obj.cells #[.int .u64 (pu:Nat),.int .u64 (pv:Nat)] 26));clear B1;obtain⟨cp_2_0,cp_2_1⟩:=cells2s Rp_2;go_wp2
  go_ret
  exact⟨rfl,B2⟩
theorem rSig_is (f:Int)(hf:Is4 f)(x y n c:Nat)(o:Bool)(hx:x<18446744073709551616)(hy:y<18446744073709551616)(hn:y+18446744073709551616*x=n)(hfit:Fit f n)(hc:kC f n=c)(ho:decide (c=8)=o)(w:World):Calls Tryz.prog 23 #[.int .u8 f,.agg #[.int .u64 (x:Nat),.int .u64 (y:Nat)]] w fun r w'=>r=.returned (.bool o)/\Below w.heap.size w w':=by
  have K1:=box (rk_class f hf x y n c hx hy hn hfit hc)
  have hd:((c:Int) == 8)=o:=by
    rw [<-ho]
    by_cases c7:c=8
    . rw [decide_eq_true c7,c7];rfl
    . rw [decide_eq_false c7,beq_eq_false_iff_ne];omega
  clear hf hx hy hn hfit hc ho;obtain⟨Rb_0,B0⟩:=opn1 w (Obj.cells #[.int .u64 (x:Nat),.int .u64 (y:Nat)] 26)
  go_enter Tryz.func23,Tryz.ntmps23
  go_wp2_with fail
  refine (K1.out _).mono ?_;rintro r w1 ⟨rfl,b1⟩;have B1:Below w.heap.size w w1:=btr B0 b1;have Rb_1:=heap_of b1 _ _ _ Rb_0;clear b1 B0 Rb_0;obtain⟨cb_1_0,cb_1_1⟩:=cells2s Rb_1;go_wp2
  go_ret
  exact⟨rfl,B1⟩
theorem rInf_is (f:Int)(hf:Is4 f)(x y n c:Nat)(o:Bool)(hx:x<18446744073709551616)(hy:y<18446744073709551616)(hn:y+18446744073709551616*x=n)(hfit:Fit f n)(hc:kC f n=c)(ho:(decide (c=0) || decide (c=7))=o)(w:World):Calls Tryz.prog 26 #[.int .u8 f,.agg #[.int .u64 (x:Nat),.int .u64 (y:Nat)]] w fun r w'=>r=.returned (.bool o)/\Below w.heap.size w w':=by
  have K1:=box (rk_class f hf x y n c hx hy hn hfit hc);clear hf hx hy hn hfit hc
  by_cases c0:c=0
  . rw [decide_eq_true c0,Bool.true_or] at ho
    subst ho;have d0:((c:Int) == 0)=true:=by rw [c0];rfl
    clear c0;obtain⟨Rb_0,B0⟩:=opn1 w (Obj.cells #[.int .u64 (x:Nat),.int .u64 (y:Nat)] 26)
    go_enter Tryz.func26,Tryz.ntmps26
    go_wp2_with fail
    refine (K1.out _).mono ?_;rintro r w1 ⟨rfl,b1⟩;have B1:Below w.heap.size w w1:=btr B0 b1;have Rb_1:=heap_of b1 _ _ _ Rb_0;clear b1 B0 Rb_0;obtain⟨cb_1_0,cb_1_1⟩:=cells2s Rb_1;go_wp2
    go_ret
    exact⟨rfl,B1⟩
  . rw [decide_eq_false c0,Bool.false_or] at ho
    have d0:((c:Int) == 0)=false:=by rw [beq_eq_false_iff_ne];omega
    have d7:((c:Int) == 7)=o:=by
      rw [<-ho]
      by_cases c7:c=7
      . rw [decide_eq_true c7,c7];rfl
      . rw [decide_eq_false c7,beq_eq_false_iff_ne];omega
    clear ho c0;obtain⟨Rb_0,B0⟩:=opn1 w (Obj.cells #[.int .u64 (x:Nat),.int .u64 (y:Nat)] 26)
    go_enter Tryz.func26,Tryz.ntmps26
    go_wp2_with fail
    refine (K1.out _).mono ?_;rintro r w1 ⟨rfl,b1⟩;have B1:Below w.heap.size w w1:=btr B0 b1;have Rb_1:=heap_of b1 _ _ _ Rb_0;clear b1 B0 Rb_0;obtain⟨cb_1_0,cb_1_1⟩:=cells2s Rb_1;go_wp2
    go_ret
    exact⟨rfl,B1⟩
theorem rZero_is (f:Int)(hf:Is4 f)(x y n c:Nat)(o:Bool)(hx:x<18446744073709551616)(hy:y<18446744073709551616)(hn:y+18446744073709551616*x=n)(hfit:Fit f n)(hc:kC f n=c)(ho:(decide (c=3) || decide (c=4))=o)(w:World):Calls Tryz.prog 28 #[.int .u8 f,.agg #[.int .u64 (x:Nat),.int .u64 (y:Nat)]] w fun r w'=>r=.returned (.bool o)/\Below w.heap.size w w':=by
  have K1:=box (rk_class f hf x y n c hx hy hn hfit hc);clear hf hx hy hn hfit hc
  by_cases c0:c=3
  . rw [decide_eq_true c0,Bool.true_or] at ho
    subst ho;have d0:((c:Int) == 3)=true:=by rw [c0];rfl
    clear c0;obtain⟨Rb_0,B0⟩:=opn1 w (Obj.cells #[.int .u64 (x:Nat),.int .u64 (y:Nat)] 26)
    go_enter Tryz.func28,Tryz.ntmps28
    go_wp2_with fail
    refine (K1.out _).mono ?_;rintro r w1 ⟨rfl,b1⟩;have B1:Below w.heap.size w w1:=btr B0 b1;have Rb_1:=heap_of b1 _ _ _ Rb_0;clear b1 B0 Rb_0;obtain⟨cb_1_0,cb_1_1⟩:=cells2s Rb_1;go_wp2
    go_ret
    exact⟨rfl,B1⟩
  . rw [decide_eq_false c0,Bool.false_or] at ho
    have d0:((c:Int) == 3)=false:=by rw [beq_eq_false_iff_ne];omega
    have d7:((c:Int) == 4)=o:=by
      rw [<-ho]
      by_cases c7:c=4
      . rw [decide_eq_true c7,c7];rfl
      . rw [decide_eq_false c7,beq_eq_false_iff_ne];omega
    clear ho c0;obtain⟨Rb_0,B0⟩:=opn1 w (Obj.cells #[.int .u64 (x:Nat),.int .u64 (y:Nat)] 26)
    go_enter Tryz.func28,Tryz.ntmps28
    go_wp2_with fail
    refine (K1.out _).mono ?_;rintro r w1 ⟨rfl,b1⟩;have B1:Below w.heap.size w w1:=btr B0 b1;have Rb_1:=heap_of b1 _ _ _ Rb_0;clear b1 B0 Rb_0;obtain⟨cb_1_0,cb_1_1⟩:=cells2s Rb_1;go_wp2
    go_ret
    exact⟨rfl,B1⟩
end Go.Proofs.YtdjlfhcalccajaaGreatDoor
namespace Go.Proofs.YtdjlfhcalccajaaGreatDoor
set_option maxRecDepth 100000
set_option maxHeartbeats 40000000
set_option maxRecDepth 100000
open Go.RowKit WMath XMath
set_option linter.unusedSimpArgs false
set_option linter.unusedVariables false
theorem vX_whole {f:Int} (hf:Is4 f)(n:Nat)(h:0<kC f n/\kC f n<7)(h2:¬ (kC f n=3∨kC f n=4)):kS f n≠0/\kS f n<2 ^ 128/\vX f n=⟨kN f n,od (kS f n),1,kX f n+(tz (kS f n):Int)⟩/\(vX f n).can:=by
  obtain⟨l1,l2,l3⟩:=kS_lim hf n;obtain⟨a,b,d,e⟩:=k_parts (f:=f) n (by omega);have l4:kS f n<2 ^ 128:=l1;obtain⟨w1,w2,w3,w4,w5,w6,w7⟩:=x_whole hf (kN f n) (kS f n) (kX f n) e (by have:=(blen_iff (kS f n) 128).2 l4;omega) (by omega) (by omega)
  have:=vX_mk hf n h
  rw [w1] at this;injection this with h3 h4;exact⟨e,l4,h3.symm,by rw [<-h3];exact w2⟩
theorem ov_inf (f:Int)(neg:Bool):ovB f 0 neg=eInf f neg:=by
  unfold ovB
  rw [if_pos (by unfold gO;rw [if_pos rfl];rfl)]
theorem nan_num {f:Int} (hf:Is4 f):bits .or .u64 (((eInf f false % 18446744073709551616:Nat)):Int) 1=(((eInf f false+1) % 18446744073709551616:Nat):Int)/\(eInf f false+1) / 18446744073709551616=eInf f false / 18446744073709551616/\okB f (eInf f false+1)=true/\qt f (eInf f false+1)=eNaN f+1/\bits .andNot .u64 ((((eNaN f+1) % 18446744073709551616:Nat)):Int) 1=((eNaN f % 18446744073709551616:Nat):Int)/\(eNaN f+1) / 18446744073709551616=eNaN f / 18446744073709551616/\eInf f false / 18446744073709551616<18446744073709551616:=by
  rcases hf with rfl|rfl|rfl|rfl <;> decide +kernel
theorem kInf_is (f:Int)(hf:Is4 f)(neg:Bool)(u v:Nat)(hv:bv7 (eInf f neg)=(u,v))(w:World)(hT:FAt w):Calls Tryz.prog 17 #[.int .u8 f,.bool neg] w fun r w'=>r=.returned (.agg #[.int .u64 (u:Nat),.int .u64 (v:Nat)])/\Below w.heap.size w w':=
  op_inf f neg u v w (box (fun w hT=>kover f 0 hf (by decide) neg u v (by rw [ov_inf];exact hv) w hT)) hT
theorem kNaN_is (f:Int)(hf:Is4 f)(u v:Nat)(hv:bv7 (eNaN f)=(u,v))(w:World)(hT:FAt w):Calls Tryz.prog 14 #[.int .u8 f] w fun r w'=>r=.returned (.agg #[.int .u64 (u:Nat),.int .u64 (v:Nat)])/\Below w.heap.size w w':=by
  obtain⟨n1,n2,n3,n4,n5,n6,n7⟩:=nan_num hf
  unfold bv7 at hv
  injection hv with v1 v2;rw [<-v1,<-v2,<-n6];exact op_nan f _ _ _ _ _ _ n1 n5 w (box (fun w hT=>kInf_is f hf false _ _ rfl w hT)) (box (fun w hT=>kQuiet_is f hf _ _ (eInf f false+1) _ _ n7 (Nat.mod_lt _ (by decide)) (by rw [<-n2];exact Nat.mod_add_div _ _) n3 (by rw [n4];rfl) w hT)) hT
theorem ieq {c:Nat} {k:Int} (h:(c:Int)=k):((c:Int) == k)=true:=by rw [h];exact beq_self_eq_true k
theorem ine {c:Nat} {k:Int} (h:(c:Int)≠k):((c:Int) == k)=false:=beq_eq_false_iff_ne.2 h
def sumN (sa sb:Bool)(X Y n:Nat):Nat:=if sa=sb then X*2 ^ n+Y else X*2 ^ n-Y
theorem sum_rat (sa sb:Bool)(X Y n:Nat)(ey:Int)(hg:Y<=X*2 ^ n):sgn sa*((X:Rat) / ((1:Nat):Rat))*(2:Rat) ^ (ey+(n:Int))+sgn sb*((Y:Rat) / ((1:Nat):Rat))*(2:Rat) ^ ey=sgn sa*(((sumN sa sb X Y n:Nat):Rat) / ((1:Nat):Rat))*(2:Rat) ^ ey:=by
  have one:∀ z:Rat,z / ((1:Nat):Rat)=z:=fun z=>by
    rw [show ((1:Nat):Rat)=1 from rfl,Rat.div_def,show (1:Rat)⁻¹=1 by decide +kernel,Rat.mul_one]
  rw [one,one,one,p2add,p2nat];generalize (2:Rat) ^ ey=E
  unfold sumN
  by_cases c:sa=sb
  . subst c
    rw [if_pos rfl,Rat.natCast_add,Rat.natCast_mul];generalize ((2 ^ n:Nat):Rat)=H
    grind
  . rw [if_neg c]
    have hs:sgn sb=- sgn sa:=by
      unfold sgn
      cases sa <;> cases sb <;> first|exact absurd rfl c|decide +kernel
    have hN:((X*2 ^ n-Y:Nat):Rat)+(Y:Rat)=(X:Rat)*((2 ^ n:Nat):Rat):=by
      rw [<-Rat.natCast_add,<-Rat.natCast_mul,Nat.sub_add_cancel hg]
    rw [hs];generalize ((2 ^ n:Nat):Rat)=H at *;generalize ((X*2 ^ n-Y:Nat):Rat)=K at *
    grind
theorem bd_whole (b:Bool)(A:Nat)(x:Int)(A0:A≠0)(hA:A<2 ^ 128)(x1:-20000<=x)(x2:x<=20000):Bd ⟨b,od A,1,x+(tz A:Int)⟩ 128 20200:=by
  have tA:=tz_blen A;have bA:=(blen_iff A 128).2 hA;obtain⟨o1,o2⟩:=od_is A A0
  have le:od A<=A:=by
    have p:=Nat.two_pow_pos (tz A)
    have:=Nat.mul_le_mul_left (od A) p
    rw [Nat.mul_one] at this;omega
  exact⟨Nat.lt_of_le_of_lt le hA,by show 1<2 ^ 128;decide,by show -((20200:Nat):Int)<=x+(tz A:Int);omega,by show x+(tz A:Int)<=((20200:Nat):Int);omega⟩
theorem add_num {f:Int} (hf:Is4 f)(m:Int)(sa sb:Bool)(X Y n:Nat)(ex ey:Int)(X0:X≠0)(Y0:Y≠0)(hX:X<2 ^ 128)(hY:Y<2 ^ 128)(hn:ex=ey+(n:Int))(hg:Y<=X*2 ^ n)(x1:-20000<=ex)(x2:ex<=20000)(y1:-20000<=ey)(y2:ey<=20000)(N:Nat)(hN:sumN sa sb X Y n=N)(N0:N≠0) :
    ∃ (k:Nat) (e:Int),addX ⟨sa,od X,1,ex+(tz X:Int)⟩ ⟨sb,od Y,1,ey+(tz Y:Int)⟩=(⟨sa,k,1,e⟩,0)/\addX ⟨sb,od Y,1,ey+(tz Y:Int)⟩ ⟨sa,od X,1,ex+(tz X:Int)⟩=(⟨sa,k,1,e⟩,0)/\(XN.mk sa k 1 e).can/\nl k<=8192/\k≠0 /\
      rnd f m ⟨sa,k,1,e⟩=dlv f m sa (ey+(blen N:Int)-1) (qW (pV f+1) N) (qM (pV f+1) N false):=by
  have bX:=(blen_iff X 128).2 hX;have bY:=(blen_iff Y 128).2 hY
  have bN:blen N<=45000:=by
    have:blen N<=128+n+1:=by
      apply blen_le_of
      have h1:X*2 ^ n<2 ^ (128+n):=by rw [Nat.pow_add];exact (Nat.mul_lt_mul_right (Nat.two_pow_pos n)).2 hX
      have h2:N<=X*2 ^ n+X*2 ^ n:=by rw [<-hN];unfold sumN;split <;> omega
      rw [Nat.pow_succ];omega
    omega
  obtain⟨w1,w2,w3,w4,w5,w6,w7⟩:=x_whole hf sa N ey N0 bN (by omega) (by omega);obtain⟨u1,u2,u3,u4,u5,u6,u7⟩:=x_whole hf sa X ex X0 (by omega) (by omega) (by omega);obtain⟨v1,v2,v3,v4,v5,v6,v7⟩:=x_whole hf sb Y ey Y0 (by omega) (by omega) (by omega);have wv:=mk_val sa N 1 ey (by decide) (by rw [w1]);have uv:=mk_val sa X 1 ex (by decide) (by rw [u1]);have vv:=mk_val sb Y 1 ey (by decide) (by rw [v1]);rw [w1] at wv;rw [u1] at uv;rw [v1] at vv;have sr:=sum_rat sa sb X Y n ey hg;rw [<-hn,hN] at sr
  have hv:(XN.mk sa (od X) 1 (ex+(tz X:Int))).val+(XN.mk sb (od Y) 1 (ey+(tz Y:Int))).val=(XN.mk sa (od N) 1 (ey+(tz N:Int))).val:=by
    rw [uv,vv,wv];exact sr
  have B1:=bd_whole sa X ex X0 hX x1 x2;have B2:=bd_whole sb Y ey Y0 hY y1 y2;refine ⟨od N,ey+(tz N:Int),addX_is _ _ _ u2 v2 w2 B1 B2 hv,addX_is _ _ _ v2 u2 w2 B2 B1 (by rw [Rat.add_comm];exact hv),w2,w4,w3,?_⟩
  unfold rnd
  rw [if_neg w3,w5,w6,w7]
end Go.Proofs.YtdjlfhcalccajaaGreatDoor
namespace Go.Proofs.YtdjlfhcalccajaaGreatDoor
set_option maxRecDepth 100000
set_option maxHeartbeats 40000000
set_option maxRecDepth 100000
open Go.RowKit WMath
set_option linter.unusedSimpArgs false
set_option linter.unusedVariables false
def ebb (a b c d:Int):Bool:=(a == c) && (b == d)
theorem eqb (a b c d:Int)(w:World) :
    (Op.equalIn 10000 26 (.agg #[.int .u64 a,.int .u64 b]) (.agg #[.int .u64 c,.int .u64 d])).run Tryz.prog w=.ok (ebb a b c d) w:=by
  have q1:∀ (a b:Int),(part 24 #[.int .u64 a,.int .u64 b] 0).run Tryz.prog w=.ok (.int .u64 a) w:=fun a b=>by kernel_rfl
  have q2:∀ (a b:Int),(part 24 #[.int .u64 a,.int .u64 b] 1).run Tryz.prog w=.ok (.int .u64 b) w:=fun a b=>by kernel_rfl
  have i1:(Op.equalIn 9999 24 (.int .u64 a) (.int .u64 c)).run Tryz.prog w=.ok (a == c) w:=run_equalIn_int w 9998 24 .u64 .u64 a c Tryz.underlying24;have i2:(Op.equalIn 9999 24 (.int .u64 b) (.int .u64 d)).run Tryz.prog w=.ok (b == d) w:=run_equalIn_int w 9998 24 .u64 .u64 b d Tryz.underlying24;have n1:("Hi"="_")=False:=by simp
  have n2:("Lo"="_")=False:=by simp
  have st:Tryz.prog.stoodInHeld 26=false:=by kernel_rfl
  rw [show (10000:Nat)=9999+1 from rfl]
  unfold Op.equalIn
  simp only [Sem.run_bind,run_underlying Tryz.underlying26,Result.andThen_ok]
  rw [show (Sem.run Tryz.prog program w)=.ok Tryz.prog w from rfl]
  simp only [Result.andThen_ok,st,Bool.false_eq_true,if_false]
  have fo:∀ (l:List Field) (b:Field->(Option Bool×Unit)->Sem (ForInStep (Option Bool×Unit))),(forIn l.toArray (none,()) b:Sem (Option Bool×Unit))=forIn l (none,()) b:=fun l b=>by simp
  simp only [fo,List.forIn_cons,List.forIn_nil,ne_eq,n1,n2,not_false_eq_true,if_true]
  unfold ebb
  obtain⟨b1,h1⟩:∃ x,(a == c)=x:=⟨_,rfl⟩;obtain⟨b2,h2⟩:∃ x,(b == d)=x:=⟨_,rfl⟩;rw [h1] at i1;rw [h2] at i2;rw [h1,h2]
  cases b1
  . simp only [Sem.run_bind,Sem.run_pure,Result.andThen_ok,q1,i1,Bool.not_false,if_true,Bool.false_and]
  cases b2
  . simp only [Sem.run_bind,Sem.run_pure,Result.andThen_ok,q1,i1,q2,i2,Bool.not_false,Bool.not_true,Bool.false_eq_true,if_false,if_true,Bool.false_and,Bool.true_and]
  . simp only [Sem.run_bind,Sem.run_pure,Result.andThen_ok,q1,i1,q2,i2,Bool.not_false,Bool.not_true,Bool.false_eq_true,if_false,if_true,Bool.false_and,Bool.true_and]
end Go.Proofs.YtdjlfhcalccajaaGreatDoor
namespace Go.Proofs.YtdjlfhcalccajaaGreatDoor
set_option maxRecDepth 100000
set_option maxHeartbeats 40000000
set_option maxRecDepth 100000
open Go.RowKit WMath XMath
set_option linter.unusedSimpArgs false
set_option linter.unusedVariables false
def cvR (t g m:Int)(n:Nat):Nat×Int:=if kC g n=8 then (eNaN t,16) else if kC g n=9 then (eNaN t,0) else if kC g n=0∨kC g n=7 then (eInf t (kN g n),0) else if kC g n=3∨kC g n=4 then (eZero t (kN g n),0) else rnd t m (vX g n)
theorem fin_x {g:Int} (hg:Is4 g) {n:Nat} (fit:Fit g n)(h:0<kC g n/\kC g n<7)(h2:¬ (kC g n=3∨kC g n=4)):(vX g n).can/\(vX g n).n≠0/\nl (vX g n).d<=8192/\nl (vX g n).n<=8192/\∀ m,rnd g m (vX g n)=(n,0):=by
  obtain⟨a,_,v,_⟩:=vX_whole hg n h h2
  have nz:(vX g n).n≠0:=by
    rw [v]
    show od (kS g n)≠0
    have:=(od_is (kS g n) a).2
    omega
  have o:=fun m=>own_round hg m n fit h;refine ⟨(o 0).1,nz,(o 0).2.2.1,(o 0).2.1,fun m=>?_⟩
  rcases (o m).2.2.2 with q|q
  . exact q.2
  . rw [q] at nz
    exact absurd rfl nz
end Go.Proofs.YtdjlfhcalccajaaGreatDoor
