/-
  What the functions that the statement reaches return: part 23 (L1, L3, F0, FJ, F1, FK).
-/
import Derived.Test.YtapikkbifdldfaaGreatDoorFd22
namespace Go.Proofs.YtapikkbifdldfaaGreatDoor
set_option maxRecDepth 100000
set_option maxHeartbeats 40000000
open Go.RowKit WMath
set_option linter.unusedSimpArgs false
set_option linter.unusedVariables false
theorem rfg_list (f m:Int)(h0:0<=f)(l:List (Nat×Nat))(L g z c:Nat)(w:World)(hl:l.length=L)(hL:L<=1000)(hb:zW (∀ p ∈ l,p.1<18446744073709551616/\p.2<18446744073709551616))(HC:zW (∀ W,Below w.heap.size w W->∀ k p,l[k]?=some p->W.cell? ⟨g,z+k*2,none⟩=some (.int .u64 (p.1:Nat))/\W.cell? ⟨g,z+k*2+1,none⟩=some (.int .u64 (p.2:Nat))))
  (KR:zZ 88 #[.int .u8 f] (.bool true)) (KM:zZ 89 #[.int .u8 m] (.bool true))
  (o:Bool) (ho:l.all (okP f)=o):Calls Tryz.prog 40 #[.int .u8 f,.int .u8 m,.slice (some ⟨g,z,none⟩) L c] w fun r w'=>r=.returned (.bool o)/\Below w.heap.size w w':=by
 have HO:=zJ ho;have HL:=zJ hl;have HF:=zJ h0;clear ho hl h0
 go_enter Tryz.func40,Tryz.ntmps40
 go_wp2_with fail
 refine (KR.out _).mono ?_;rintro r w1 ⟨rfl,b1⟩;go_wp2_with fail
 refine (KM.out _).mono ?_;rintro r w2 ⟨rfl,b2⟩;have BP:=zS b1 b2;clear b1 b2 KR KM;go_wp2
 go_loopw [7] (fun iv wr=>∃ k:Nat,k<=L/\iv=.int .i64 k/\Below w.heap.size w wr/\zW (∀ j p,j<k->l[j]?=some p->okP f p=true)) (fun iv _=>L-(intOf iv).toNat)
 case atStart=>exact⟨0,by omega,rfl,BP,zJ (fun j s hj=>absurd hj (by omega))⟩
 case round=>
  obtain⟨k,hk,rfl,bw,HA⟩:=hrel
  by_cases hlt:k<L
  ·
   obtain⟨p,hs⟩:∃ p,l[k]?=some p:=⟨_,List.getElem?_eq_getElem (by rw [HL.out];exact hlt)⟩;obtain⟨c1,c2⟩:=HC.out _ bw k p hs;have dl:decide ((k:Int)<(L:Int))=true:=decide_eq_true (by omega);have HS:=zJ hs;obtain⟨o1,hm⟩:∃ o1,okP f p=o1:=⟨_,rfl⟩;have HM:=zJ hm;have hp:=hb.out p (List.mem_of_getElem? hs);have KC:zZ 90 #[.int .u8 f,.agg #[.int .u64 (p.1:Nat),.int .u64 (p.2:Nat)]] (.bool o1):=zJ (fun w=>rk_fits f p.1 p.2 _ o1 HF.out hp.1 hp.2 rfl hm w);clear hs hm hp
   cases o1
   ·
    have e:o=false:=by
     rw [<-HO.out,Bool.eq_false_iff];intro h;rw [List.all_eq_true] at h
     have:=h p (List.mem_of_getElem? HS.out)
     rw [HM.out] at this;exact absurd this (by decide)
    subst e;go_wp2_with fail
    refine (KC.out _).mono ?_;rintro r w2 ⟨rfl,b2⟩;go_wp2
    go_ret
    exact⟨rfl,zS bw b2⟩
   ·
    have NA:zW (∀ j p,j<k+1->l[j]?=some p->okP f p=true):=zJ (fun j p2 hj h2=>by
     by_cases e:j=k
     ·
      subst e;rw [HS.out] at h2
      cases h2
      exact HM.out
     ·
      exact HA.out j p2 (by omega) h2)
    go_wp2_with fail
    refine (KC.out _).mono ?_;rintro r w2 ⟨rfl,b2⟩;go_wp2
    go_roundw
    case rel=>exact⟨k+1,by omega,by go_num,zS bw b2,NA⟩
    case measure=>simp [intOf] <;> omega
  ·
   obtain rfl:k=L:=by omega
   have e:o=true:=by
    rw [<-HO.out,List.all_eq_true];intro s hs;obtain⟨j,hj⟩:=List.mem_iff_getElem?.1 hs
    have:=(List.getElem?_eq_some_iff.1 hj).1
    exact HA.out j s (by rw [<-HL.out];exact this) hj
   subst e;have dl:decide ((k:Int)<(k:Int))=false:=by rw [decide_eq_false_iff_not];omega
   go_wp2
   go_ret
   exact⟨rfl,bw⟩
theorem opg_may (f m:Int)(hf:y7 f)(l:List (Nat×Nat))(L g z c:Nat)(w:World)(hl:l.length=L)(hL:L<=1000)(hb:zW (∀ p ∈ l,p.1<18446744073709551616/\p.2<18446744073709551616))(HC:zW (∀ W,Below w.heap.size w W->∀ k p,l[k]?=some p->W.cell? ⟨g,z+k*2,none⟩=some (.int .u64 (p.1:Nat))/\W.cell? ⟨g,z+k*2+1,none⟩=some (.int .u64 (p.2:Nat))))(pu pv:Nat)(fl:Int)
  (KP:xK 37 #[.int .u8 f,.int .u8 m,.agg (rg false 0 0 false)] (.tuple #[.agg #[.int .u64 pu,.int .u64 pv],.int .u8 fl,.int .i64 0]))
  (o:Bool) (ho:l.all (okP f)=o) (hT:y6 w):Calls Tryz.prog 32 #[.int .u8 f,.int .u8 m,.slice (some ⟨g,z,none⟩) L c] w fun r w'=>r=.returned (.bool o)/\Below w.heap.size w w':=by
 have FF:=zJ hT;have HO:=zJ ho;have HL:=zJ hl;have HF:=zJ hf;clear ho hl hT hf;have hp3:=rgz
 go_enter Tryz.func32,Tryz.ntmps32
 go_wp2_with fail
 refine (KP.out _ FF.out).mono ?_;rintro r w1 ⟨rfl,b1⟩;have BP:=zS b1 (yK w1 (.cells #[.int .u64 pu,.int .u64 pv] 26));obtain⟨V,hV⟩:∃ V,w1.alloc (.cells #[.int .u64 pu,.int .u64 pv] 26)=V:=⟨_,rfl⟩;go_wp2
 rw [hV] at BP;clear b1 KP hV
 go_loopw [26] (fun iv wr=>∃ k:Nat,k<=L/\iv=.int .i64 k/\Below w.heap.size w wr/\zW (∀ j p,j<k->l[j]?=some p->okP f p=true)) (fun iv _=>L-(intOf iv).toNat)
 case atStart=>exact⟨0,by omega,rfl,BP,zJ (fun j s hj=>absurd hj (by omega))⟩
 case round=>
  obtain⟨k,hk,rfl,bw,HA⟩:=hrel
  by_cases hlt:k<L
  ·
   obtain⟨p,hs⟩:∃ p,l[k]?=some p:=⟨_,List.getElem?_eq_getElem (by rw [HL.out];exact hlt)⟩;obtain⟨c1,c2⟩:=HC.out _ bw k p hs;have dl:decide ((k:Int)<(L:Int))=true:=decide_eq_true (by omega);have HS:=zJ hs;obtain⟨o1,hm⟩:∃ o1,okP f p=o1:=⟨_,rfl⟩;have HM:=zJ hm;obtain⟨cc,ee,hee,KC⟩:=kClass_any f HF.out p (hb.out p (List.mem_of_getElem? hs)) o1 hm;have FA:zW (y6 (wr.alloc (.cells #[.int .u64 (p.1:Nat),.int .u64 (p.2:Nat)] 26))):=zJ (z7 FF.out (zS bw (yK _ _)));have BA:=zS bw (yK wr (.cells #[.int .u64 (p.1:Nat),.int .u64 (p.2:Nat)] 26));clear hs hm
   cases o1
   ·
    have e:o=false:=by
     rw [<-HO.out,Bool.eq_false_iff];intro h;rw [List.all_eq_true] at h
     have:=h p (List.mem_of_getElem? HS.out)
     rw [HM.out] at this;exact absurd this (by decide)
    subst e;go_wp2_with fail
    refine (KC.out _ FA.out).mono ?_;rintro r w2 ⟨rfl,b2⟩;go_wp2
    go_ret
    exact⟨rfl,zS BA b2⟩
   ·
    have NA:zW (∀ j p,j<k+1->l[j]?=some p->okP f p=true):=zJ (fun j p2 hj h2=>by
     by_cases e:j=k
     ·
      subst e;rw [HS.out] at h2
      cases h2
      exact HM.out
     ·
      exact HA.out j p2 (by omega) h2)
    go_wp2_with fail
    refine (KC.out _ FA.out).mono ?_;rintro r w2 ⟨rfl,b2⟩;go_wp2
    go_roundw
    case rel=>exact⟨k+1,by omega,by go_num,zS BA b2,NA⟩
    case measure=>simp [intOf] <;> omega
  ·
   obtain rfl:k=L:=by omega
   have e:o=true:=by
    rw [<-HO.out,List.all_eq_true];intro s hs;obtain⟨j,hj⟩:=List.mem_iff_getElem?.1 hs
    have:=(List.getElem?_eq_some_iff.1 hj).1
    exact HA.out j s (by rw [<-HL.out];exact this) hj
   subst e;have dl:decide ((k:Int)<(k:Int))=false:=by rw [decide_eq_false_iff_not];omega
   go_wp2
   go_ret
   exact⟨rfl,bw⟩
theorem cell_lt {w:World} {g o:Nat} {v:Value} (h:w.cell? ⟨g,o,none⟩=some v):g<w.heap.size:=by
 rcases Nat.lt_or_ge g w.heap.size with c|c
 ·
  exact c
 ·
  unfold World.cell? at h
  rw [Array.getElem?_eq_none c] at h
  simp at h
theorem cellB {w W:World} {g o:Nat} {v:Value} (b:Below w.heap.size w W)(h:w.cell? ⟨g,o,none⟩=some v):W.cell? ⟨g,o,none⟩=some v:=by
 have l:=cell_lt h
 unfold World.cell? at h ⊢
 rw [b.block g l];exact h
theorem cellC {W:World} {g o gN j:Nat} {x v:Value} (hne:g≠gN)(h:W.cell? ⟨g,o,none⟩=some v):(W.setCell ⟨gN,j,none⟩ x).cell? ⟨g,o,none⟩=some v:=by
 unfold World.cell? at h ⊢
 rw [zF (Ne.symm hne)];exact h
end Go.Proofs.YtapikkbifdldfaaGreatDoor
namespace Go.Proofs.YtapikkbifdldfaaGreatDoor
set_option maxRecDepth 100000
set_option maxHeartbeats 40000000
open Go.RowKit WMath XMath
set_option linter.unusedSimpArgs false
set_option linter.unusedVariables false
theorem x_odd2 {f:Int} (hf:y7 f)(b:Bool)(n:Nat)(e:Int)(ho:n % 2=1)(hl:zV n<=60000)(h1:-1200000<=e)(h2:e<=1200000) :
  xW f ⟨b,n,1,e⟩=qW (pV f+1) n/\xM f ⟨b,n,1,e⟩=qM (pV f+1) n false:=by
 have n0:n≠0:=by omega
 obtain⟨n1,n2,n3,n4,n5,n6⟩:=nm8 hf;have hp:=fp8 hf;have tw:=top_whole b n e n0;obtain⟨l1,l2,l3⟩:=x7 n n0
 unfold xW xM qW qM
 obtain⟨a,hA⟩:∃ a,xN ⟨b,n,1,e⟩-fP f=a:=⟨_,rfl⟩;rw [hA]
 by_cases c:a<=e
 ·
  have sh:=xU n (e-a).toNat n0
  have:=fl_yes ⟨b,n,1,e⟩ a n0 rfl c (by omega) (by omega) (by
   show nl (n*2 ^ (e-a).toNat)<=16384
   unfold nl
   omega)
  rw [this]
  simp only
  by_cases c2:pV f+1+1<=zV n
  ·
   have:zV n=pV f+1+1:=by omega
   have z:(e-a).toNat=0:=by omega
   rw [if_pos c2,if_pos c2,this,Nat.sub_self,z,Nat.pow_zero,Nat.div_one,Nat.mul_one,Nat.mod_one];exact⟨rfl,rfl⟩
  ·
   rw [if_neg c2,if_neg c2,show (e-a).toNat=pV f+1+1-zV n by omega];exact⟨rfl,rfl⟩
 ·
  have z:flX ⟨b,n,1,e⟩ a=((n / (1*2 ^ (a-e).toNat),false),0):=by
   unfold flX
   rw [if_neg (by omega),if_neg n0,if_neg c,if_neg (by omega)]
  rw [z,Nat.one_mul,if_pos (by omega),if_pos (by omega),show (a-e).toNat=zV n-(pV f+1+1) by omega];refine ⟨rfl,?_⟩
  have:n % 2 ^ (zV n-(pV f+1+1))≠0:=by
   obtain⟨i,hi⟩:∃ i,zV n-(pV f+1+1)=i+1:=⟨zV n-(pV f+1+1)-1,by omega⟩;rw [hi];intro q
   have:=(qK n 1 i).1 (by rw [Nat.add_comm];exact q)
   omega
  rw [decide_eq_true this]
  rfl
theorem x_whole2 {f:Int} (hf:y7 f)(b:Bool)(N:Nat)(e:Int)(n0:N≠0)(hl:zV N<=60000)(h1:-900000<=e)(h2:e<=900000) :
  mk b N 1 e=(⟨b,od N,1,e+(tz N:Int)⟩,0)/\(XN.mk b (od N) 1 (e+(tz N:Int))).can/\od N≠0/\nl (od N)<=8192/\xN ⟨b,od N,1,e+(tz N:Int)⟩=e+(zV N:Int)-1/\xW f ⟨b,od N,1,e+(tz N:Int)⟩=qW (pV f+1) N/\xM f ⟨b,od N,1,e+(tz N:Int)⟩=qM (pV f+1) N false:=by
 obtain⟨o1,o2⟩:=od_is N n0;have od0:od N≠0:=by omega
 have tl:=qU N;have bs:=xU (od N) (tz N) od0;rw [<-o1] at bs;have m:=mk_whole b N e n0 (by omega) (by omega);have lo:nl (od N)<=8192:=by unfold nl;omega
 have lN:nl N<=16384:=by unfold nl;omega
 obtain⟨x1,x2⟩:=x_odd2 hf b (od N) (e+(tz N:Int)) o2 (by omega) (by omega) (by omega);have ql:=q_longer (pV f+1) (od N) (tz N) od0;rw [<-o1] at ql;refine ⟨m,?_,od0,lo,?_,by rw [x1,ql.1],by rw [x2,ql.2]⟩
 ·
  have:=mk_can b N 1 e lN nl_1 (by decide) (by rw [m])
  rw [m] at this;exact this
 ·
  rw [top_whole b (od N) _ od0];omega
theorem addX_is2 (X Y Z:XN)(hx:X.can)(hy:Y.can)(hz:Z.can)(bx:Bd X 256 40400)(bz:Bd Y 256 40400)(hv:X.val+Y.val=Z.val):addX X Y=(Z,0):=by
 have h1:=add_ok X Y 256 256 40400 40400 81313 162113 hx hy bx bz rfl rfl (by decide) (by decide);have h2:=add_good X Y hx hy h1.1;have h3:=can_inj _ Z h2.1 hz (by rw [h2.2,hv]);exact Prod.ext h3 h1.1
theorem bd_whole2 (b:Bool)(A:Nat)(x:Int)(A0:A≠0)(hA:A<2 ^ 256)(x1:-40000<=x)(x2:x<=40000):Bd ⟨b,od A,1,x+(tz A:Int)⟩ 256 40400:=by
 have tA:=qU A;have bA:=(yM A 256).2 hA;obtain⟨o1,o2⟩:=od_is A A0
 have le:od A<=A:=by
  have p:=Nat.two_pow_pos (tz A)
  have:=Nat.mul_le_mul_left (od A) p
  rw [Nat.mul_one] at this;omega
 exact⟨Nat.lt_of_le_of_lt le hA,by show 1<2 ^ 256;decide,by show -((40400:Nat):Int)<=x+(tz A:Int);omega,by show x+(tz A:Int)<=((40400:Nat):Int);omega⟩
theorem mul_form (a b:Bool)(A B:Nat)(x y:Int)(A0:A≠0)(B0:B≠0)(hA:A<2 ^ 128)(hB:B<2 ^ 128)(x1:-20000<=x)(x2:x<=20000)(y1:-20000<=y)(y2:y<=20000) :
  mulX ⟨a,od A,1,x+(tz A:Int)⟩ ⟨b,od B,1,y+(tz B:Int)⟩=(⟨a != b,od (A*B),1,x+y+(tz (A*B):Int)⟩,0):=by
 have hf:y7 0:=Or.inl rfl;obtain⟨n,e,p1,p2,p3,p4,p5⟩:=mul_num hf 0 a b A B x y A0 B0 hA hB x1 x2 y1 y2;obtain⟨q1,q2⟩:=blen_prod A B hA hB;have N0:A*B≠0:=mul_ne A0 B0;have bA:=(yM A 128).2 hA;have bB:=(yM B 128).2 hB;obtain⟨u1,u2,u3,u4,u5,u6,u7⟩:=x_whole hf a A x A0 (by omega) (by omega) (by omega);obtain⟨v1,v2,v3,v4,v5,v6,v7⟩:=x_whole hf b B y B0 (by omega) (by omega) (by omega);obtain⟨w1,w2,w3,w4,w5,w6,w7⟩:=x_whole hf (a != b) (A*B) (x+y) N0 (by omega) (by omega) (by omega);have g:=mul_good _ _ u2 v2 (by rw [p1]);have uv:=mk_val a A 1 x (by decide) (by rw [u1]);have vv:=mk_val b B 1 y (by decide) (by rw [v1]);have wv:=mk_val (a != b) (A*B) 1 (x+y) (by decide) (by rw [w1]);rw [u1] at uv;rw [v1] at vv;rw [w1] at wv;refine Prod.ext (can_inj _ _ g.1 w2 ?_) (by rw [p1]);rw [g.2,uv,vv,wv,sgn_bne,p2add,Rat.natCast_mul]
 have one:∀ z:Rat,z / ((1:Nat):Rat)=z:=fun z=>by
  rw [show ((1:Nat):Rat)=1 from rfl,Rat.div_def,show (1:Rat)⁻¹=1 by decide +kernel,Rat.mul_one]
 rw [one,one,one]
 grind
def jb (s r:Nat):Nat:=if r=0 then s else s / 2*2+1
theorem ex_jam (P s n r:Nat)(s0:s≠0)(hr:r<2 ^ n)(h:r≠0->P+2<=zV s):zV (jb s r)+n=zV (s*2 ^ n+r)/\qW P (jb s r)=qW P (s*2 ^ n+r)/\qM P (jb s r) false=qM P (s*2 ^ n+r) false:=by
 have b1:=blen_more s n r s0 hr;have q1:=q_more P s n r s0 hr (fun q=>by have:=h q;omega)
 unfold jb
 by_cases z:r=0
 ·
  rw [if_pos z];rw [decide_eq_false (by omega)] at q1;exact⟨by omega,q1.1.symm,q1.2.symm⟩
 ·
  rw [if_neg z];rw [decide_eq_true z] at q1;obtain⟨j1,j2,j3,j4⟩:=q_jam P s (h z);exact⟨by omega,by rw [j2,q1.1],by rw [j3,q1.2,j4]⟩
theorem jam_add (G L n:Nat)(hG:G % 2=0):G+jr L n=jb (G+L / 2 ^ n) (L % 2 ^ n)/\(G+L / 2 ^ n)*2 ^ n+L % 2 ^ n=G*2 ^ n+L:=by
 have dm:=Nat.div_add_mod L (2 ^ n);refine ⟨?_,by rw [Nat.add_mul,Nat.mul_comm (L / 2 ^ n)];omega⟩
 unfold jr jb
 by_cases z:L % 2 ^ n=0
 ·
  rw [if_pos z,if_pos z]
 ·
  rw [if_neg z,if_neg z,jor1];omega
theorem jam_sub (G L n:Nat)(hG:G % 2=0)(hle:L<=G*2 ^ n):∃ s r,r<2 ^ n/\(r=0↔L % 2 ^ n=0)/\G-jr L n=jb s r/\s*2 ^ n+r=G*2 ^ n-L/\s=(if L % 2 ^ n=0 then G-L / 2 ^ n else G-L / 2 ^ n-1):=by
 have dm:=Nat.div_add_mod L (2 ^ n);have p:=Nat.two_pow_pos n;have lt:=Nat.mod_lt L p
 have gl:L / 2 ^ n<=G:=by
  have:=Nat.div_le_div_right (c:=2 ^ n) hle
  rwa [Nat.mul_div_cancel _ p] at this
 obtain⟨q,hq⟩:∃ q,L / 2 ^ n=q:=⟨_,rfl⟩;obtain⟨r,hr⟩:∃ r,L % 2 ^ n=r:=⟨_,rfl⟩;rw [hq,hr,Nat.mul_comm] at dm;rw [hq] at gl;rw [hr] at lt
 unfold jr
 rw [hq,hr];obtain⟨k,hk⟩:∃ k,G=q+k:=⟨G-q,by omega⟩;have e:G*2 ^ n=q*2 ^ n+k*2 ^ n:=by rw [hk,Nat.add_mul]
 by_cases z:r=0
 ·
  refine ⟨G-q,0,p,⟨fun _=>z,fun _=>rfl⟩,?_,?_,?_⟩
  ·
   rw [if_pos z]
   unfold jb
   rw [if_pos rfl]
  ·
   rw [show G-q=k by omega];omega
  ·
   rw [if_pos z]
 ·
  have k0:k≠0:=fun h=>by
   rw [h,Nat.zero_mul] at e;omega
  obtain⟨i,hi⟩:∃ i,k=i+1:=⟨k-1,by omega⟩;rw [hi,Nat.add_mul,Nat.one_mul] at e;refine ⟨G-q-1,2 ^ n-r,by omega,⟨fun h=>by omega,fun h=>absurd h z⟩,?_,?_,?_⟩
  ·
   rw [if_neg z,jor1]
   unfold jb
   rw [if_neg (by omega)];omega
  ·
   rw [show G-q-1=i by omega];omega
  ·
   rw [if_neg z]
theorem kX_lim2 {f:Int} (hf:y7 f)(n:Nat):-16500<=kX f n/\kX f n<=16300:=by
 have e:=kE_le (f:=f) n;have l:-16499<=lx f/\lx f+(oV f:Int)<=16300:=by rcases hf with rfl|rfl|rfl|rfl <;> decide
 unfold kX
 split
 ·
  omega
 split
 ·
  omega
 ·
  omega
theorem one_div (z:Rat):z / ((1:Nat):Rat)=z:=by
 rw [show ((1:Nat):Rat)=1 from rfl,Rat.div_def,show (1:Rat)⁻¹=1 by decide +kernel,Rat.mul_one]
theorem bd_null (p E:Nat)(hp:1<=p):Bd X0 p E:=by
 have h2:=Nat.pow_le_pow_right (show 0<2 by decide) hp;exact⟨by show 0<2 ^ p;omega,by show 1<2 ^ p;omega,by show -(E:Int)<=0;omega,by show (0:Int)<=E;omega⟩
theorem null_val:(X0).val=0:=by
 show sgn false*(((0:Nat):Rat) / ((1:Nat):Rat))*(2:Rat) ^ (0:Int)=0
 rw [one_div,show ((0:Nat):Rat)=0 from rfl,Rat.mul_zero,Rat.zero_mul]
theorem fin_val {f:Int} (hf:y7 f)(n:Nat)(h:0<kC f n/\kC f n<7):(vX f n).can/\(vX f n).val=sgn (kN f n)*((kS f n:Nat):Rat)*(2:Rat) ^ (kX f n)/\Bd (vX f n) 256 40400:=by
 have m:=vX_mk hf n h;have v:=mk_val (kN f n) (kS f n) 1 (kX f n) (by decide) (by rw [m]);rw [m,one_div] at v;refine ⟨vX_can hf n h,v,?_⟩;obtain⟨l1,l2,l3⟩:=kS_lim hf n
 by_cases z:kC f n=3∨kC f n=4
 ·
  rw [vX_null f n z];exact bd_null _ _ (by decide)
 ·
  obtain⟨w1,w2,w3,w4⟩:=vX_whole hf n h z;rw [w3];exact bd_whole2 _ _ _ w1 (Nat.lt_of_lt_of_le w2 (Nat.pow_le_pow_right (by decide) (by decide))) (by omega) (by omega)
theorem prod_val {f:Int} (hf:y7 f)(a b:Nat)(ha:0<kC f a/\kC f a<7)(hb:0<kC f b/\kC f b<7) :
  ∃ P:XN,mulX (vX f a) (vX f b)=(P,0)/\P.can/\P.val=sgn (kN f a != kN f b)*((kS f a*kS f b:Nat):Rat)*(2:Rat) ^ (kX f a+kX f b)/\Bd P 256 40400:=by
 obtain⟨a1,a2,a3⟩:=fin_val hf a ha;obtain⟨b1,b2,b3⟩:=fin_val hf b hb
 have hv:(vX f a).val*(vX f b).val=sgn (kN f a != kN f b)*((kS f a*kS f b:Nat):Rat)*(2:Rat) ^ (kX f a+kX f b):=by
  rw [a2,b2,sgn_bne,p2add,Rat.natCast_mul]
  grind
 have key:∀ P:XN,mulX (vX f a) (vX f b)=(P,0)->Bd P 256 40400->∃ P:XN,mulX (vX f a) (vX f b)=(P,0)/\P.can/\P.val=sgn (kN f a != kN f b)*((kS f a*kS f b:Nat):Rat)*(2:Rat) ^ (kX f a+kX f b)/\Bd P 256 40400:=fun P h k=>by
  have g:=mul_good _ _ a1 b1 (by rw [h]);rw [h] at g;exact⟨P,h,g.1,g.2.trans hv,k⟩
 by_cases z:(kC f a=3∨kC f a=4)∨(kC f b=3∨kC f b=4)
 ·
  refine key X0 ?_ (bd_null _ _ (by decide))
  unfold mulX
  rw [if_pos]
  rcases z with z|z
  ·
   rw [vX_null f a z];exact Or.inl rfl
  ·
   rw [vX_null f b z];exact Or.inr rfl
 ·
  obtain⟨u1,u2,u3,u4⟩:=vX_whole hf a ha (fun q=>z (Or.inl q));obtain⟨v1,v2,v3,v4⟩:=vX_whole hf b hb (fun q=>z (Or.inr q));obtain⟨l1,l2,l3⟩:=kS_lim hf a;obtain⟨k1,k2,k3⟩:=kS_lim hf b;have mf:=mul_form (kN f a) (kN f b) (kS f a) (kS f b) (kX f a) (kX f b) u1 v1 u2 v2 l2 l3 k2 k3;rw [<-u3,<-v3] at mf;exact key _ mf (bd_whole2 _ _ _ (mul_ne u1 v1) (blen_prod _ _ u2 v2).1 (by omega) (by omega))
def sI (b:Bool):Int:=if b then -1 else 1
def fmE (f:Int)(a b c:Nat):Int:=min (kX f a+kX f b) (kX f c)
def fmI (f:Int)(a b c:Nat):Int:=sI (kN f a != kN f b)*((kS f a*kS f b*2 ^ (kX f a+kX f b-fmE f a b c).toNat:Nat):Int)+sI (kN f c)*((kS f c*2 ^ (kX f c-fmE f a b c).toNat:Nat):Int)
def fmD (f m I E:Int):Nat×Int:=if I=0 then (xY f (decide (m=2)),0) else dlv f m (decide (I<0)) (E+(zV I.natAbs:Int)-1) (qW (pV f+1) I.natAbs) (qM (pV f+1) I.natAbs false)
def fmaR (f m:Int)(a b c:Nat):Nat×Int:=
  if (kC f a=0∨kC f a=7∨kC f b=0∨kC f b=7)/\(kC f a=3∨kC f a=4∨kC f b=3∨kC f b=4) then (eNaN f,16)
  else if kC f a=8∨kC f b=8∨kC f c=8 then (eNaN f,16)
  else if kC f a=9∨kC f b=9∨kC f c=9 then (eNaN f,0)
  else if kC f a=0∨kC f a=7∨kC f b=0∨kC f b=7 then (if (kC f c=0∨kC f c=7)/\kN f c≠(kN f a != kN f b) then (eNaN f,16) else (eInf f (kN f a != kN f b),0))
  else if kC f c=0∨kC f c=7 then (c,0)
  else if (kC f a=3∨kC f a=4∨kC f b=3∨kC f b=4)/\(kC f c=3∨kC f c=4) then (if kN f c=(kN f a != kN f b) then (c,0) else (xY f (decide (m=2)),0))
  else fmD f m (fmI f a b c) (fmE f a b c)
theorem sI_rat (b:Bool)(n:Nat):((sI b*(n:Int):Int):Rat)=sgn b*(n:Rat):=by
 cases b
 ·
  show (((1:Int)*(n:Int):Int):Rat)=1*(n:Rat)
  rw [Int.one_mul,Rat.one_mul]
  rfl
 ·
  show (((-1:Int)*(n:Int):Int):Rat)=-1*(n:Rat)
  rw [Rat.intCast_mul]
  rfl
theorem abs_rat (I:Int):sgn (decide (I<0))*((I.natAbs:Nat):Rat)=(I:Rat):=by
 rw [<-sI_rat]
 congr 1
 unfold sI
 by_cases h:I<0
 ·
  rw [decide_eq_true h]
  simp only [if_true]
  omega
 ·
  rw [decide_eq_false h]
  simp only [Bool.false_eq_true,if_false]
  omega
theorem fmI_rat (f:Int)(a b c:Nat):((fmI f a b c:Int):Rat)*(2:Rat) ^ (fmE f a b c)=sgn (kN f a != kN f b)*((kS f a*kS f b:Nat):Rat)*(2:Rat) ^ (kX f a+kX f b)+sgn (kN f c)*((kS f c:Nat):Rat)*(2:Rat) ^ (kX f c):=by
 obtain⟨E,hE⟩:∃ E,fmE f a b c=E:=⟨_,rfl⟩;have e1:kX f a+kX f b=E+(((kX f a+kX f b-E).toNat:Nat):Int):=by unfold fmE at hE;omega
 have e2:kX f c=E+(((kX f c-E).toNat:Nat):Int):=by unfold fmE at hE;omega
 unfold fmI
 rw [hE,Rat.intCast_add,sI_rat,sI_rat,Rat.mul_assoc (sgn (kN f a != kN f b)),Rat.mul_assoc (sgn (kN f c))];have u1:=up1 E (kX f a+kX f b-E).toNat (kS f a*kS f b);have u2:=up1 E (kX f c-E).toNat (kS f c);rw [<-e1] at u1;rw [<-e2] at u2;rw [u1,u2]
 grind
theorem fmI_len {f:Int} (hf:y7 f)(a b c:Nat):zV (fmI f a b c).natAbs<=60000/\-40000<=fmE f a b c/\fmE f a b c<=40000:=by
 obtain⟨a1,a2,a3⟩:=kS_lim hf a;obtain⟨b1,b2,b3⟩:=kS_lim hf b;obtain⟨c1,c2,c3⟩:=kS_lim hf c;obtain⟨p1,p2⟩:=kX_lim2 hf a;obtain⟨q1,q2⟩:=kX_lim2 hf b;obtain⟨r1,r2⟩:=kX_lim2 hf c;have hE:(fmE f a b c=kX f a+kX f b∨fmE f a b c=kX f c)/\fmE f a b c<=kX f a+kX f b/\fmE f a b c<=kX f c:=by unfold fmE;omega
 refine ⟨?_,by omega,by omega⟩;obtain⟨n1,h1⟩:∃ n,(kX f a+kX f b-fmE f a b c).toNat=n:=⟨_,rfl⟩;obtain⟨n2,h2⟩:∃ n,(kX f c-fmE f a b c).toNat=n:=⟨_,rfl⟩;have l1:n1<=59000:=by omega
 have l2:n2<=59000:=by omega
 have pr:=(blen_prod (kS f a) (kS f b) a1 b1).1;obtain⟨K,hK⟩:∃ K:Nat,K=59257:=⟨_,rfl⟩;have t1:kS f a*kS f b*2 ^ n1<2 ^ K:=Nat.lt_of_lt_of_le (mul_pow_lt _ _ 256 (n1+1) pr (Nat.pow_lt_pow_right (by decide) (Nat.lt_succ_self _))) (Nat.pow_le_pow_right (by decide) (by omega));have t2:kS f c*2 ^ n2<2 ^ K:=Nat.lt_of_lt_of_le (mul_pow_lt _ _ 128 (n2+1) c1 (Nat.pow_lt_pow_right (by decide) (Nat.lt_succ_self _))) (Nat.pow_le_pow_right (by decide) (by omega))
 have hI:(fmI f a b c).natAbs<=kS f a*kS f b*2 ^ n1+kS f c*2 ^ n2:=by
  unfold fmI
  rw [h1,h2];generalize kS f a*kS f b*2 ^ n1=X;generalize kS f c*2 ^ n2=Y
  unfold sI
  split <;> split <;> omega
 have:=y9 (fmI f a b c).natAbs (K+1) (by
  rw [Nat.pow_succ]
  omega)
 omega
theorem fm_doc {f:Int} (hf:y7 f)(m:Int)(a b c:Nat)(ha:0<kC f a/\kC f a<7)(hb:0<kC f b/\kC f b<7)(hc:0<kC f c/\kC f c<7) :
  ∃ (P:XN) (zb:Bool) (zn:Nat) (ze:Int),mulX (vX f a) (vX f b)=(P,0)/\P.can/\P.val=(vX f a).val*(vX f b).val/\addX P (vX f c)=(⟨zb,zn,1,ze⟩,0)/\(XN.mk zb zn 1 ze).can/\nl zn<=8192 /\
   ((zn=0/\zb=false/\ze=0/\fmI f a b c=0)∨(zn≠0/\fmI f a b c≠0/\rnd f m ⟨zb,zn,1,ze⟩=fmD f m (fmI f a b c) (fmE f a b c))):=by
 obtain⟨P,p1,p2,p3,p4⟩:=prod_val hf a b ha hb;obtain⟨c1,c2,c3⟩:=fin_val hf c hc;obtain⟨l1,l2,l3⟩:=fmI_len hf a b c;have r:=fmI_rat f a b c;rw [<-p3,<-c2] at r;have pv:=(mul_good _ _ (fin_val hf a ha).1 (fin_val hf b hb).1 (by rw [p1])).2;rw [p1] at pv
 by_cases i0:fmI f a b c=0
 ·
  refine ⟨P,false,0,0,p1,p2,pv,addX_is2 P (vX f c) X0 p2 c1 x0_can p4 c3 ?_,x0_can,Nat.le_trans (Nat.le_of_eq qI) (by decide),Or.inl ⟨rfl,rfl,rfl,i0⟩⟩;rw [<-r,i0,null_val];exact Rat.zero_mul _
 ·
  have N0:(fmI f a b c).natAbs≠0:=by omega
  obtain⟨w1,w2,w3,w4,w5,w6,w7⟩:=x_whole2 hf (decide (fmI f a b c<0)) (fmI f a b c).natAbs (fmE f a b c) N0 l1 (by omega) (by omega);have wv:=mk_val (decide (fmI f a b c<0)) (fmI f a b c).natAbs 1 (fmE f a b c) (by decide) (by rw [w1]);rw [w1,one_div,abs_rat,r] at wv;refine ⟨P,_,_,_,p1,p2,pv,addX_is2 P (vX f c) _ p2 c1 w2 p4 c3 wv.symm,w2,w4,Or.inr ⟨w3,i0,?_⟩⟩
  unfold rnd fmD
  rw [if_neg w3,if_neg i0,w5,w6,w7]
theorem sI_sign (s:Bool)(N:Nat)(N0:N≠0):decide (sI s*(N:Int)<0)=s/\(sI s*(N:Int)).natAbs=N/\sI s*(N:Int)≠0:=by
 unfold sI
 cases s
 ·
  simp only [Bool.false_eq_true,if_false]
  exact⟨decide_eq_false (by omega),by omega,by omega⟩
 ·
  simp only [if_true]
  exact⟨decide_eq_true (by omega),by omega,by omega⟩
theorem fmD_long (f m:Int)(s:Bool)(N k:Nat)(E x:Int)(N0:N≠0)(hx:x=E+(k:Int)):fmD f m (sI s*((N*2 ^ k:Nat):Int)) E=dlv f m s (x+(zV N:Int)-1) (qW (pV f+1) N) (qM (pV f+1) N false):=by
 have p:=Nat.two_pow_pos k;obtain⟨t1,t2,t3⟩:=sI_sign s (N*2 ^ k) (Nat.mul_ne_zero N0 (by omega));obtain⟨q1,q2⟩:=q_longer (pV f+1) N k N0
 unfold fmD
 rw [if_neg t3,t1,t2,q1,q2,xU N k N0]
 congr 1
 omega
theorem fmaR_fit {f:Int} (hf:y7 f)(m:Int)(a b c:Nat)(fc:Fit f c):Fit f (fmaR f m a b c).1:=by
 have p:=Nat.two_pow_pos (pV f);have en:=(enc_k hf false (Nat.le_refl (oV f)) (t:=2 ^ (pV f-1)) (Nat.pow_lt_pow_right (by decide) (by rcases hf with rfl|rfl|rfl|rfl <;> decide))).1;have ei:=fun s=>(enc_k hf s (Nat.le_refl (oV f)) p).1;have ez:=fun s=>(enc_k hf s (Nat.zero_le (oV f)) p).1
 unfold fmaR
 split
 ·
  exact en
 split
 ·
  exact en
 split
 ·
  exact en
 split
 ·
  split
  ·
   exact en
  ·
   exact ei _
 split
 ·
  exact fc
 split
 ·
  split
  ·
   exact fc
  ·
   exact ez _
 ·
  unfold fmD
  split
  ·
   exact ez _
  ·
   rename_i i0
   obtain⟨ee,t,fl,h1,h2,h2b,h3,h4⟩:=dlv_enc hf (q_ok (f:=f) (fmI f a b c).natAbs (by omega)) m (decide (fmI f a b c<0)) (fmE f a b c+(zV (fmI f a b c).natAbs:Int)-1) (qM (pV f+1) (fmI f a b c).natAbs false);rw [h3];exact (enc_k hf _ h1 h2).1
def frmW (A:Nat)(p low:Int):Nat:=jr (A*2 ^ (p-low).toNat) (low-p).toNat
def loF (A:Nat)(p:Int)(C:Nat)(q:Int):Int:=if A=0 then q+(zV C:Int)-383 else if C=0 then p+(zV A:Int)-383 else max (p+(zV A:Int)) (q+(zV C:Int))-383
theorem pow_up (i K:Nat)(h:i<=K):2 ^ i<=2 ^ K:=Nat.pow_le_pow_right (by decide) h
theorem pow_lt (i K:Nat)(h:i<K):2 ^ i<2 ^ K:=Nat.pow_lt_pow_right (by decide) h
theorem jr_none (a:Nat):jr a 0=a:=by
 unfold jr
 rw [Nat.pow_zero,Nat.mod_one,if_pos rfl,Nat.div_one]
theorem frw_up (A:Nat)(p low:Int)(h:low<=p):frmW A p low=A*2 ^ (p-low).toNat:=by
 unfold frmW
 rw [show (low-p).toNat=0 by omega,jr_none]
theorem frw_down (A:Nat)(p low:Int)(h:p<=low):frmW A p low=jr A (low-p).toNat:=by
 unfold frmW
 rw [show (p-low).toNat=0 by omega,Nat.pow_zero,Nat.mul_one]
theorem jr_le1 (a n:Nat):jr a n<=a / 2 ^ n+1:=by
 unfold jr
 split
 ·
  omega
 ·
  rw [jor1];omega
theorem frw_lt (A:Nat)(p low:Int)(hA:zV A<=226)(h:p+(zV A:Int)-low<=383):frmW A p low<2 ^ 383:=by
 have l:=(yM A (zV A)).1 (Nat.le_refl _)
 by_cases c:low<=p
 ·
  rw [frw_up A p low c];have p2:=Nat.two_pow_pos (p-low).toNat
  have:=(Nat.mul_lt_mul_right p2).2 l
  rw [<-Nat.pow_add] at this;exact Nat.lt_of_lt_of_le this (pow_up _ 383 (by omega))
 ·
  rw [frw_down A p low (by omega)];have j:=jr_le1 A (low-p).toNat;have d:=Nat.div_le_self A (2 ^ (low-p).toNat);have u:A<2 ^ 226:=(yM A 226).1 hA;have e:2 ^ 226<2 ^ 383:=pow_lt 226 383 (by decide);omega
theorem fmD_scale (f m I E L:Int)(k:Nat)(hE:E=L+(k:Int)):fmD f m (I*((2 ^ k:Nat):Int)) L=fmD f m I E:=by
 have p:=Nat.two_pow_pos k
 by_cases i0:I=0
 ·
  rw [i0,Int.zero_mul]
  unfold fmD
  rw [if_pos rfl,if_pos rfl]
 ·
  have n0:I.natAbs≠0:=by omega
  have na:(I*((2 ^ k:Nat):Int)).natAbs=I.natAbs*2 ^ k:=by rw [Int.natAbs_mul,Int.natAbs_natCast]
  have q0:I*((2 ^ k:Nat):Int)≠0:=Int.mul_ne_zero i0 (by omega);obtain⟨q1,q2⟩:=q_longer (pV f+1) I.natAbs k n0
  have sg:decide (I*((2 ^ k:Nat):Int)<0)=decide (I<0):=by
   rw [decide_eq_decide];have pp:(0:Int)<((2 ^ k:Nat):Int):=by omega
   constructor
   ·
    intro h
    by_cases c:I<0
    ·
     exact c
    ·
     have:=Int.mul_nonneg (show 0<=I by omega) (Int.le_of_lt pp)
     omega
   ·
    intro h;exact Int.mul_neg_of_neg_of_pos h pp
  unfold fmD
  rw [if_neg q0,if_neg i0,na,q1,q2,xU _ k n0,sg]
  congr 1
  omega
theorem fmD_jam (f m:Int)(s:Bool)(x n r:Nat)(L E:Int)(x0:x≠0)(hr:r<2 ^ n)(hx:pV f+3<=zV x)(hE:L=E+(n:Int)):fmD f m (sI s*((jb x r:Nat):Int)) L=fmD f m (sI s*((x*2 ^ n+r:Nat):Int)) E:=by
 obtain⟨e1,e2,e3⟩:=ex_jam (pV f+1) x n r x0 hr (fun _=>by omega);have p:=Nat.two_pow_pos n
 have j0:jb x r≠0:=by
  unfold jb
  split
  ·
   exact x0
  ·
   omega
 have y0:x*2 ^ n+r≠0:=by
  have:=Nat.mul_ne_zero x0 (show 2 ^ n≠0 by omega)
  omega
 obtain⟨t1,t2,t3⟩:=sI_sign s (jb x r) j0;obtain⟨u1,u2,u3⟩:=sI_sign s (x*2 ^ n+r) y0
 unfold fmD
 rw [if_neg t3,if_neg u3,t1,t2,u1,u2,e2,e3]
 congr 1
 omega
theorem sI_ne {s t:Bool} (h:s≠t):sI t=- sI s:=by cases s <;> cases t <;> first|rfl|exact absurd rfl h
theorem fmD_far (f m:Int)(s t:Bool)(G C n:Nat)(L E:Int)(hG:G % 2=0)(g1:2 ^ 381*2<=G)(hC:C<2 ^ 226)(hp:pV f<=112)(hE:L=E+(n:Int)):fmD f m (sI s*(G:Int)+sI t*((jr C n:Nat):Int)) L=fmD f m (sI s*((G*2 ^ n:Nat):Int)+sI t*(C:Int)) E:=by
 have p:=Nat.two_pow_pos n;have e1:2 ^ 226<=2 ^ 381:=pow_up 226 381 (by decide);have cn:C / 2 ^ n<=C:=Nat.div_le_self _ _;have lt:=Nat.mod_lt C p
 have big:∀ x,2 ^ 381<=x->pV f+3<=zV x/\x≠0:=fun x h=>by
  have:=yM x 381
  have p3:=Nat.two_pow_pos 381;generalize 2 ^ 381=P at *;omega
 obtain⟨P,hP⟩:∃ P,2 ^ 381=P:=⟨_,rfl⟩;rw [hP] at e1 g1 big;clear hP
 by_cases c:s=t
 ·
  subst c;obtain⟨j1,j2⟩:=jam_add G C n hG;obtain⟨b1,b2⟩:=big (G+C / 2 ^ n) (Nat.le_trans (show P<=G by omega) (Nat.le_add_right _ _))
  have:=fmD_jam f m s (G+C / 2 ^ n) n (C % 2 ^ n) L E b2 lt b1 hE
  rw [<-j1,j2] at this;rw [<-Int.mul_add,<-Int.mul_add,<-Int.natCast_add,<-Int.natCast_add];exact this
 ·
  have gl:C<=G*2 ^ n:=Nat.le_trans (show C<=G by omega) (Nat.le_mul_of_pos_right G p);obtain⟨x,r,r1,r2,r3,r4,r5⟩:=jam_sub G C n hG gl
  have xb:P<=x:=by
   rw [r5]
   split <;> omega
  obtain⟨b1,b2⟩:=big x xb
  have:=fmD_jam f m s x n r L E b2 r1 b1 hE
  rw [<-r3,r4] at this;have jl:=jr_le1 C n;rw [sI_ne c,Int.neg_mul,Int.neg_mul,<-Int.sub_eq_add_neg,<-Int.sub_eq_add_neg,<-Int.mul_sub,<-Int.mul_sub,<-Int.ofNat_sub (by omega),<-Int.ofNat_sub gl];exact this
theorem fmD_sum (f m:Int)(s t:Bool)(A C:Nat)(p q E:Int)(hA:zV A<=226)(hC:zV C<=226)(hp:pV f<=112)(hE:E=min p q) :
  fmD f m (sI s*((frmW A p (loF A p C q):Nat):Int)+sI t*((frmW C q (loF A p C q):Nat):Int)) (loF A p C q)=fmD f m (sI s*((A*2 ^ (p-E).toNat:Nat):Int)+sI t*((C*2 ^ (q-E).toNat:Nat):Int)) E:=by
 have fz:∀ x l,frmW 0 x l=0:=fun x l=>by unfold frmW;rw [Nat.zero_mul,jr_zero]
 have za:∀ y:Int,sI s*((0:Nat):Int)+y=y:=fun y=>by rw [show ((0:Nat):Int)=0 from rfl,Int.mul_zero,Int.zero_add]
 have zc:∀ y:Int,y+sI t*((0:Nat):Int)=y:=fun y=>by rw [show ((0:Nat):Int)=0 from rfl,Int.mul_zero,Int.add_zero]
 obtain⟨l,hl⟩:∃ l,loF A p C q=l:=⟨_,rfl⟩;rw [hl]
 unfold loF at hl
 by_cases a0:A=0
 ·
  rw [if_pos a0] at hl;rw [a0,fz,Nat.zero_mul,za,za]
  by_cases c0:C=0
  ·
   rw [c0,fz,Nat.zero_mul];have z0:sI t*((0:Nat):Int)=0:=Int.mul_zero _
   unfold fmD
   rw [if_pos z0,if_pos z0]
  ·
   rw [frw_up C q l (by omega),fmD_long f m t C _ l q c0 (by omega),fmD_long f m t C _ E q c0 (by omega)]
 rw [if_neg a0] at hl
 by_cases c0:C=0
 ·
  rw [if_pos c0] at hl;rw [c0,fz,Nat.zero_mul,zc,zc];rw [frw_up A p l (by omega),fmD_long f m s A _ l p a0 (by omega),fmD_long f m s A _ E p a0 (by omega)]
 rw [if_neg c0] at hl;have la:=x7 A a0;have lc:=x7 C c0;have ua:A<2 ^ 226:=(yM A 226).1 hA;have uc:C<2 ^ 226:=(yM C 226).1 hC
 have far:∀ (s t:Bool) (A C:Nat) (p q:Int),zV A<=226->0<zV A->2 ^ (zV A-1)<=A->C<2 ^ 226->l=p+(zV A:Int)-383->q<l ->
   fmD f m (sI s*((frmW A p l:Nat):Int)+sI t*((frmW C q l:Nat):Int)) l=fmD f m (sI s*((A*2 ^ (p-q).toNat:Nat):Int)+sI t*((C*2 ^ (q-q).toNat:Nat):Int)) q:=fun s t A C p q h1 h2 h3 h4 h5 h6=>by
  rw [frw_up A p l (by omega),frw_down C q l (by omega),show (q-q).toNat=0 by omega,Nat.pow_zero,Nat.mul_one,show (p-q).toNat=(p-l).toNat+(l-q).toNat by omega,Nat.pow_add,<-Nat.mul_assoc];refine fmD_far f m s t (A*2 ^ (p-l).toNat) C (l-q).toNat l q ?_ ?_ h4 hp (by omega)
  ·
   rw [show (p-l).toNat=(p-l).toNat-1+1 by omega,Nat.pow_succ,<-Nat.mul_assoc,Nat.mul_mod_left]
  ·
   have:=Nat.mul_le_mul_right (2 ^ (p-l).toNat) h3
   obtain⟨K,hK⟩:∃ K,K=381:=⟨_,rfl⟩;rw [<-Nat.pow_add,show zV A-1+(p-l).toNat=K+1 by omega,Nat.pow_succ,hK] at this;exact this
 by_cases c1:l<=p
 ·
  by_cases c2:l<=q
  ·
   rw [frw_up A p l c1,frw_up C q l c2]
   have:=fmD_scale f m (sI s*((A*2 ^ (p-E).toNat:Nat):Int)+sI t*((C*2 ^ (q-E).toNat:Nat):Int)) E l (E-l).toNat (by omega)
   rw [<-this,Int.add_mul,Int.mul_assoc,Int.mul_assoc,<-Int.natCast_mul,<-Int.natCast_mul,Nat.mul_assoc,Nat.mul_assoc,<-Nat.pow_add,<-Nat.pow_add,show (p-E).toNat+(E-l).toNat=(p-l).toNat by omega,show (q-E).toNat+(E-l).toNat=(q-l).toNat by omega]
  ·
   rw [show E=q by omega];exact far s t A C p q hA (by omega) la.2.1 uc (by omega) (by omega)
 ·
  rw [show E=p by omega,Int.add_comm,Int.add_comm (sI s*_)];exact far t s C A q p hC (by omega) lc.2.1 ua (by omega) (by omega)
def TotR (m:Int)(s t:Bool)(a c:Nat)(neg:Bool)(S:Nat):Prop:=
  (s=t/\neg=s/\S=a+c)∨(s≠t/\c<a/\neg=s/\S=a-c)∨(s≠t/\a<c/\neg=t/\S=c-a)∨(s≠t/\a=c/\neg=decide (m=2)/\S=0)
theorem totR_some (m:Int)(s t:Bool)(a c:Nat):∃ neg S,TotR m s t a c neg S:=by
 unfold TotR
 by_cases e:s=t
 ·
  exact⟨_,_,Or.inl ⟨e,rfl,rfl⟩⟩
 ·
  rcases Nat.lt_trichotomy a c with h|h|h
  ·
   exact⟨_,_,Or.inr (Or.inr (Or.inl ⟨e,h,rfl,rfl⟩))⟩
  ·
   exact⟨_,_,Or.inr (Or.inr (Or.inr ⟨e,h,rfl,rfl⟩))⟩
  ·
   exact⟨_,_,Or.inr (Or.inl ⟨e,h,rfl,rfl⟩)⟩
theorem totR_D (f m:Int)(s t:Bool)(a c:Nat)(neg:Bool)(S:Nat)(L:Int)(h:TotR m s t a c neg S)(ns:S=0->s≠t):fmD f m (sI s*(a:Int)+sI t*(c:Int)) L=(if S=0 then (xY f neg,0) else dlv f m neg (L+(zV S:Int)-1) (qW (pV f+1) S) (qM (pV f+1) S false)):=by
 have key:∀ (b:Bool) (V:Int),V=sI b*(S:Int)->neg=b->S≠0->fmD f m V L=(if S=0 then (xY f neg,0) else dlv f m neg (L+(zV S:Int)-1) (qW (pV f+1) S) (qM (pV f+1) S false)):=fun b V hV hb S0=>by
  obtain⟨t1,t2,t3⟩:=sI_sign b S S0
  unfold fmD
  rw [hV,if_neg t3,if_neg S0,t1,t2,hb]
 rcases h with ⟨e,n,hS⟩|⟨e,l,n,hS⟩|⟨e,l,n,hS⟩|⟨e,l,n,hS⟩
 ·
  have S0:S≠0:=fun z=>ns z e;refine key s _ ?_ n S0;rw [<-e,hS,<-Int.mul_add,Int.natCast_add]
 ·
  refine key s _ ?_ n (by omega);rw [sI_ne e,hS,Int.ofNat_sub (by omega),Int.neg_mul,Int.mul_sub];omega
 ·
  refine key t _ ?_ n (by omega);rw [sI_ne (Ne.symm e),hS,Int.ofNat_sub (by omega),Int.neg_mul,Int.mul_sub];omega
 ·
  rw [if_pos hS]
  unfold fmD
  rw [if_pos (by rw [sI_ne e,l,Int.neg_mul];omega),n]
end Go.Proofs.YtapikkbifdldfaaGreatDoor
