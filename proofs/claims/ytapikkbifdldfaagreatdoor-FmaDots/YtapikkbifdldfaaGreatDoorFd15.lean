/-
  What the functions that the statement reaches return: part 15 (V1, V2, V7, V8, V9, VA).
-/
import Derived.Deep.RegionHeld3
import Derived.Lib.MinMax
import Derived.Test.YtapikkbifdldfaaGreatDoorFd14
namespace Go.Proofs.YtapikkbifdldfaaGreatDoor
set_option maxRecDepth 100000
set_option maxHeartbeats 40000000
open Go.RowKit WMath XMath
set_option linter.unusedSimpArgs false
set_option linter.unusedVariables false
theorem x7 (n:Nat)(h:n≠0):1<=zV n/\2 ^ (zV n-1)<=n/\n<2 ^ zV n:=by
 have h1:=yM n (zV n-1);have h2:=(yM n (zV n)).1 (Nat.le_refl _);have h3:=yM n 0
 have h4:1<=zV n:=by
  rcases Nat.eq_zero_or_pos (zV n) with e|e
  ·
   have:=h3.1 (by omega)
   rw [Nat.pow_zero] at this;omega
  ·
   exact e
 exact⟨h4,by omega,h2⟩
theorem blen_one:zV 1=1:=by decide
theorem top_whole (b:Bool)(n:Nat)(e:Int)(h:n≠0):xN ⟨b,n,1,e⟩=(zV n:Int)-1+e:=by
 obtain⟨h1,h2,h3⟩:=x7 n h
 unfold xN tA tB qZ
 simp only [blen_one]
 have e1:(max (-((zV n:Int)-((1:Nat):Int))) 0).toNat=0:=by omega
 have e2:(max ((zV n:Int)-((1:Nat):Int)) 0).toNat=zV n-1:=by omega
 rw [e1,e2,Nat.pow_zero,Nat.mul_one,Nat.one_mul,if_neg (by omega)];omega
def ofA (f:Int)(x:XN):Int:=max (xN x) (1-fE f)-(pV f:Int)
def ofX (f:Int)(x:XN):Nat×Bool:=
  if x.n=0 then (0,true)
  else if fE f<xN x then (0,false)
  else if (flX x (ofA f x)).1.2=true then (sgB f (fb f (flX x (ofA f x)).1.1 (ofA f x)) x.b,true) else (0,false)
theorem fl_no (x:XN)(a:Int)(hx:x.can)(n0:x.n≠0)(h:x.d≠1∨x.e<a):(flX x a).1.2=false:=by
 have ho:=hx.odd n0
 unfold flX
 split
 ·
  rfl
 try rw [if_neg n0]
 split
 ·
  rename_i hae
  have hd:x.d≠1:=by omega
  split
  ·
   simp only [decide_eq_false_iff_not]
   intro hm;have h1:x.d∣x.n*2 ^ (x.e-a).toNat:=Nat.dvd_of_mod_eq_zero hm
   have h2:Nat.Coprime x.d (2 ^ (x.e-a).toNat):=by
    apply Nat.Coprime.pow_right
    have:Nat.Coprime 2 x.d:=by
     rw [Nat.coprime_iff_gcd_eq_one,Nat.gcd_comm]
     have:=Nat.gcd_rec 2 x.d
     rw [Nat.gcd_comm,Nat.gcd_rec,ho.2.1]
     rfl
    exact this.symm
   have h3:x.d∣x.n:=h2.dvd_of_dvd_mul_right h1;have h4:x.d∣Nat.gcd x.n x.d:=Nat.dvd_gcd h3 (Nat.dvd_refl _);rw [ho.2.2] at h4;exact hd (Nat.dvd_one.1 h4)
  ·
   rfl
 ·
  split <;> rfl
theorem fl_yes (x:XN)(a:Int)(n0:x.n≠0)(hd:x.d=1)(h:a<=x.e)(h1:-2097152<=a)(h2:a<=2097152)(hl:nl (x.n*2 ^ (x.e-a).toNat)<=16384):flX x a=((x.n*2 ^ (x.e-a).toNat,true),0):=by
 unfold flX
 rw [if_neg (by omega),if_neg n0,if_pos h,if_pos hl,hd,Nat.div_one,Nat.mod_one]
 rfl
theorem nm8 {f:Int} (hf:y7 f):fE f-(pV f:Int)-lx f+1=((oV f-1:Nat):Int)/\1<=oV f/\lx f=1-fE f-(pV f:Int)/\pV f<128/\fE f<=16383/\0<=fE f:=by
 rcases hf with rfl|rfl|rfl|rfl <;> decide +kernel
theorem of_yes {f:Int} (hf:y7 f)(b:Bool)(n:Nat)(e:Int)(n0:n≠0)(ht:xN ⟨b,n,1,e⟩<=fE f)(ha:ofA f ⟨b,n,1,e⟩<=e) :
  ∃ m k t,m=n*2 ^ (e-ofA f ⟨b,n,1,e⟩).toNat/\k<oV f/\t<2 ^ pV f/\ofX f ⟨b,n,1,e⟩=(jH f b k t,true)/\((k=0/\m=t/\ofA f ⟨b,n,1,e⟩=lx f)∨(1<=k/\m=2 ^ pV f+t/\ofA f ⟨b,n,1,e⟩=lx f+(k:Int)-1)):=by
 obtain⟨g1,g2,g3,g4,g5,g6,g7⟩:=fm hf;obtain⟨n1,n2,n3,n4,n5,n6⟩:=nm8 hf;obtain⟨l1,l2,l3⟩:=x7 n n0;have tw:=top_whole b n e n0;obtain⟨a,hA⟩:∃ a,ofA f ⟨b,n,1,e⟩=a:=⟨_,rfl⟩;have hA2:=hA
 unfold ofA at hA2
 rw [hA] at ha ⊢;rw [tw] at ht hA2;obtain⟨j,hj⟩:∃ j:Nat,(e-a).toNat=j:=⟨_,rfl⟩;have hje:e=a+(j:Int):=by omega
 obtain⟨m,hm⟩:∃ m,n*2 ^ j=m:=⟨_,rfl⟩;have m1:2 ^ (zV n-1+j)<=m:=by rw [<-hm,Nat.pow_add];exact Nat.mul_le_mul_right _ l2
 have m2:m<2 ^ (zV n+j):=by rw [<-hm,Nat.pow_add];exact Nat.mul_lt_mul_of_pos_right l3 (Nat.two_pow_pos _)
 have lj:zV n+j<=pV f+1:=by omega
 have m3:m<2*2 ^ pV f:=by
  have:=Nat.pow_le_pow_right (show 0<2 by decide) lj
  rw [Nat.pow_succ] at this;omega
 have hl:nl m<=16384:=nl_pow m (pV f+1) (by rw [Nat.pow_succ];omega) (by omega);obtain⟨k,hk⟩:∃ k:Nat,a=lx f+(k:Int):=⟨(a-lx f).toNat,by omega⟩;have hk2:k+2<=oV f:=by omega
 have hb0:(k+2)*2 ^ pV f<=oV f*2 ^ pV f:=Nat.mul_le_mul_right _ hk2
 have hb1:k*2 ^ pV f+m<2 ^ wV f:=by
  rw [g1,Nat.add_mul,Nat.one_mul];rw [Nat.add_mul] at hb0;omega
 have hfb:fb f m a=k*2 ^ pV f+m:=by rw [hk];exact fb_is hf k m (by omega) hb1
 have hof:ofX f ⟨b,n,1,e⟩=(sgB f (k*2 ^ pV f+m) b,true):=by
  unfold ofX
  rw [hA,fl_yes ⟨b,n,1,e⟩ a n0 rfl ha (by omega) (by omega) (by show nl (n*2 ^ (e-a).toNat)<=16384;rw [hj,hm];exact hl)]
  simp only []
  rw [if_neg n0,if_neg (by rw [tw];omega),if_pos trivial,hj,hm,hfb]
 rw [hj,hm]
 by_cases hs:m<2 ^ pV f
 ·
  have hk0:k=0:=by
   have:zV n-1+j<pV f:=by
    rcases Nat.lt_or_ge (zV n-1+j) (pV f) with q|q
    ·
     exact q
    ·
     have:=Nat.pow_le_pow_right (show 0<2 by decide) q
     omega
   omega
  subst hk0;refine ⟨m,0,m,rfl,by omega,hs,?_,Or.inl ⟨rfl,rfl,by omega⟩⟩;rw [hof,sgB_low hb1]
  unfold jH
  rfl
 ·
  have e1:k*2 ^ pV f+m=(k+1)*2 ^ pV f+(m-2 ^ pV f):=by rw [Nat.add_mul];omega
  refine ⟨m,k+1,m-2 ^ pV f,rfl,by omega,by omega,?_,Or.inr ⟨by omega,by omega,by omega⟩⟩;rw [hof,sgB_low hb1,e1]
  unfold jH
  rfl
theorem of_no {f:Int} (x:XN)(hx:x.can)(n0:x.n≠0)(h:fE f<xN x∨x.d≠1∨x.e<ofA f x):ofX f x=(0,false):=by
 unfold ofX
 rw [if_neg n0]
 by_cases h1:fE f<xN x
 ·
  rw [if_pos h1]
 ·
  rw [if_neg h1,if_neg];rw [fl_no x _ hx n0 (by omega)]
  decide
theorem blen_is (n k:Nat)(h1:2 ^ k<=n)(h2:n<2 ^ (k+1)):zV n=k+1:=by
 have a:=(yM n (k+1)).2 h2;have b:=yM n k;omega
theorem xU (n k:Nat)(h:n≠0):zV (n*2 ^ k)=zV n+k:=by
 obtain⟨l1,l2,l3⟩:=x7 n h
 have:=blen_is (n*2 ^ k) (zV n-1+k) (by rw [Nat.pow_add];exact Nat.mul_le_mul_right _ l2) (by
  rw [show zV n-1+k+1=zV n+k by omega,Nat.pow_add];exact Nat.mul_lt_mul_of_pos_right l3 (Nat.two_pow_pos _))
 omega
theorem mk_whole (neg:Bool)(s:Nat)(x:Int)(s0:s≠0)(h1:-1048576<=x)(h2:x+(tz s:Int)<=1048576):mk neg s 1 x=(⟨neg,od s,1,x+(tz s:Int)⟩,0):=by
 have o1:od 1=1:=od_odd 1 rfl;have t1:tz 1=0:=tz_odd 1 rfl
 unfold mk
 rw [if_neg s0,o1,t1,Nat.gcd_one_right,Nat.div_one,Nat.div_one];rw [if_pos (by omega)]
 congr 2
 omega
def sV (f:Int)(e t:Nat):Nat:=if e=0 then t else 2 ^ pV f+t
def xV (f:Int)(e:Nat):Int:=if e=0 then lx f else lx f+(e:Int)-1
theorem val_of {f:Int} (hf:y7 f)(neg:Bool)(e t:Nat)(he:e<oV f)(ht:t<2 ^ pV f)(nz:sV f e t≠0) :
  mk neg (sV f e t) 1 (xV f e)=(⟨neg,od (sV f e t),1,xV f e+(tz (sV f e t):Int)⟩,0)/\ofX f ⟨neg,od (sV f e t),1,xV f e+(tz (sV f e t):Int)⟩=(jH f neg e t,true)/\ofA f ⟨neg,od (sV f e t),1,xV f e+(tz (sV f e t):Int)⟩=xV f e:=by
 obtain⟨n1,n2,n3,n4,n5,n6⟩:=nm8 hf;have oe:(oV f:Int)=2*fE f+1:=by unfold oV;omega
 obtain⟨s,hs⟩:∃ s,sV f e t=s:=⟨_,rfl⟩;obtain⟨x,hx⟩:∃ x,xV f e=x:=⟨_,rfl⟩;rw [hs] at nz;rw [hs,hx];obtain⟨o1,o2⟩:=od_is s nz;have od0:od s≠0:=by omega
 have bs:zV s=zV (od s)+tz s:=by
  have:=xU (od s) (tz s) od0
  rw [<-o1] at this;exact this
 have tw:=top_whole neg (od s) (x+(tz s:Int)) od0;have tz1:=qU s
 unfold sV at hs
 unfold xV at hx
 have sl:s<2*2 ^ pV f:=by split at hs <;> omega
 have bl:zV s<=pV f+1:=(yM s _).2 (by rw [Nat.pow_succ];omega)
 have A:ofA f ⟨neg,od s,1,x+(tz s:Int)⟩=x/\xN ⟨neg,od s,1,x+(tz s:Int)⟩<=fE f:=by
  unfold ofA
  rw [tw]
  by_cases e0:e=0
  ·
   rw [if_pos e0] at hs hx
   have:zV s<=pV f:=(yM s _).2 (by omega)
   omega
  ·
   rw [if_neg e0] at hs hx
   have:zV s=pV f+1:=blen_is s (pV f) (by omega) (by rw [Nat.pow_succ];omega)
   omega
 have xl:-20000<=x/\x<=20000:=by split at hx <;> omega
 refine ⟨mk_whole neg s x nz (by omega) (by omega),?_,A.1⟩;obtain⟨m,k,t',h1,h2,h3,h4,h5⟩:=of_yes hf neg (od s) (x+(tz s:Int)) od0 A.2 (by rw [A.1];omega);rw [A.1,show (x+(tz s:Int)-x).toNat=tz s by omega,<-o1] at h1;rw [A.1] at h5;rw [h4]
 by_cases e0:e=0
 ·
  rw [if_pos e0] at hs hx
  rcases h5 with ⟨q1,q2,q3⟩|⟨q1,q2,q3⟩
  ·
   rw [q1,e0,show t'=t by omega]
  ·
   omega
 ·
  rw [if_neg e0] at hs hx
  rcases h5 with ⟨q1,q2,q3⟩|⟨q1,q2,q3⟩
  ·
   omega
  ·
   rw [show k=e by omega,show t'=t by omega]
end Go.Proofs.YtapikkbifdldfaaGreatDoor
namespace Go.Proofs.YtapikkbifdldfaaGreatDoor
set_option maxRecDepth 100000
set_option maxHeartbeats 40000000
open Go.RowKit WMath
set_option linter.unusedSimpArgs false
set_option linter.unusedVariables false
theorem gen_abacusref08_Value_7 {X:Act->World->Prop} {R:World->Nat->Prop} {t0 t1 t2 t3 t4 t5 t6 t8 t9 t10 t11 t12 t13 t14 t15 t16 t17 t18 t19 t20 t21 t22 t23 t24 t25 t26 t27 t28 t29 t30 t31 t32:Value} {d:List Deferred} {W:World} {G:Nat}
  (key:∀ w5 g,R w5 g->X ⟨#[t0,t1,t2,t3,t4,t5,t6,.pointer (some ⟨g,0,none⟩),t8,t9,t10,t11,t12,t13,t14,t15,t16,t17,t18,t19,t20,t21,t22,t23,t24,t25,t26,t27,t28,t29,t30,t31,t32],d⟩ w5) (r:R W G):X ⟨#[t0,t1,t2,t3,t4,t5,t6,.pointer (some ⟨G,0,none⟩),t8,t9,t10,t11,t12,t13,t14,t15,t16,t17,t18,t19,t20,t21,t22,t23,t24,t25,t26,t27,t28,t29,t30,t31,t32],d⟩ W:=key W G r

theorem rvalue_yes (f:Int)(x y c s rr:Nat)(X:Int)(neg:Bool)(sg:ByteArray)(rb:Bool)(u v:ByteArray)(re err:Int)(w:World)
  (KU:zZ 98 #[.int .u8 f,.agg #[.int .u64 x,.int .u64 y]] (.agg (pt c s X rr)))
  (KS:zZ 43 #[.int .u8 f,.agg #[.int .u64 x,.int .u64 y]] (.bool neg))
  (KN:zZ 100 #[.agg (cw 6 s)] (.string sg))
  (KM:zZ 99 #[.bool neg,.string sg,.string ⟨#[1]⟩,.int .i64 X] (.tuple #[.agg #[.bool rb,.string u,.string v,.int .i64 re],.int .i64 err]))
  (h8:((c:Int) == 8)=false) (h9:((c:Int) == 9)=false) (h0:((c:Int) == 0)=false) (h7:((c:Int) == 7)=false):Calls Tryz.prog 48 #[.int .u8 f,.agg #[.int .u64 x,.int .u64 y]] w fun r w'=>r=.returned (.tuple #[.agg #[.bool rb,.string u,.string v,.int .i64 re],.int .i64 0])/\Below w.heap.size w w':=by
 have hat:=yD 6;have hz:=yZ;have hff:=yY;have hs0:=jD;have hcs:∀ x,((cw 6 x).size=6)=True:=fun x=>eq_true (z8 6 x);have hp1:=ptf;have hp3:=ptz;have hp4:=st_p0;have hp5:∀ (c s:Nat) (x:Int) (r:Nat),((pt c s x r).size=14)=True:=fun _ _ _ _=>eq_true rfl;obtain⟨Ag,Ah,B0⟩:=qD w (Obj.cells #[.int .u64 x,.int .u64 y] 26) (Obj.cells #[.bool false,.string ⟨#[]⟩,.string ⟨#[]⟩,.int .i64 0] 70)
 go_enter Tryz.func48,Tryz.ntmps48
 go_wp2_with fail
 refine (KU.out _).mono ?_;rintro r w1 ⟨rfl,b1⟩;have B1:=zS B0 b1;obtain⟨Ab,Ac⟩:=z6 b1 Ag Ah;clear b1 B0 Ag Ah;obtain⟨Aq,Ar⟩:=zC Ab;obtain⟨As,At,Au,Av⟩:=zE Ac;have S2:=zJ B1.size;have Aw:=yC Ab;have Ax:=yC Ac;have Ad:=heap_alloc_last w1 (Obj.cells (pt c s X rr) 54);have B2:=zS B1 (yK w1 (Obj.cells (pt c s X rr) 54));obtain⟨Ae,Af⟩:=z6 (yK w1 (Obj.cells (pt c s X rr) 54)) Ab Ac;clear B1 Ab Aq Ar Ac As At Au Av;obtain⟨Ay,Az⟩:=zC Ae;obtain⟨AA,AB,AC,AD⟩:=zE Af;obtain⟨AE,AF,AG,AH,AI,AJ,AK,AL,AM,AN,AO,AP,AQ,AR⟩:=zH Ad;go_wp2_with fail
 have sS:zW (∀ W W1:World,(Below w.heap.size w W/\W.heap[w.heap.size]?=some (.cells #[.int .u64 x,.int .u64 y] 26)/\W.heap[w.heap.size+1]?=some (.cells #[.bool false,.string ⟨#[]⟩,.string ⟨#[]⟩,.int .i64 0] 70)/\W.heap[w1.heap.size]?=some (.cells (pt c s X rr) 54))->Below W.heap.size W W1->(Below w.heap.size w W1/\W1.heap[w.heap.size]?=some (.cells #[.int .u64 x,.int .u64 y] 26)/\W1.heap[w.heap.size+1]?=some (.cells #[.bool false,.string ⟨#[]⟩,.string ⟨#[]⟩,.int .i64 0] 70)/\W1.heap[w1.heap.size]?=some (.cells (pt c s X rr) 54))):=zJ (fun W W1 h b=>⟨zS h.1 b,zA b _ _ _ h.2.1,zA b _ _ _ h.2.2.1,zA b _ _ _ h.2.2.2⟩);have sL:zW (∀ W:World,(Below w.heap.size w W/\W.heap[w.heap.size]?=some (.cells #[.int .u64 x,.int .u64 y] 26)/\W.heap[w.heap.size+1]?=some (.cells #[.bool false,.string ⟨#[]⟩,.string ⟨#[]⟩,.int .i64 0] 70)/\W.heap[w1.heap.size]?=some (.cells (pt c s X rr) 54))->(w.heap.size<W.heap.size/\w.heap.size+1<W.heap.size/\w1.heap.size<W.heap.size)):=zJ (fun W h=>⟨(Array.getElem?_eq_some_iff.1 h.2.1).1,(Array.getElem?_eq_some_iff.1 h.2.2.1).1,(Array.getElem?_eq_some_iff.1 h.2.2.2).1⟩);have sT:zW (∀ (W:World) (gN:Nat) (xA xB xC xD:Value),(Below w.heap.size w W/\W.heap[w.heap.size]?=some (.cells #[.int .u64 x,.int .u64 y] 26)/\W.heap[w.heap.size+1]?=some (.cells #[.bool false,.string ⟨#[]⟩,.string ⟨#[]⟩,.int .i64 0] 70)/\W.heap[w1.heap.size]?=some (.cells (pt c s X rr) 54))->(w.heap.size<gN/\w.heap.size+1<gN/\w1.heap.size<gN)->(Below w.heap.size w ((((W.setCell ⟨gN,0,none⟩ xA).setCell ⟨gN,1,none⟩ xB).setCell ⟨gN,2,none⟩ xC).setCell ⟨gN,3,none⟩ xD)/\((((W.setCell ⟨gN,0,none⟩ xA).setCell ⟨gN,1,none⟩ xB).setCell ⟨gN,2,none⟩ xC).setCell ⟨gN,3,none⟩ xD).heap[w.heap.size]?=some (.cells #[.int .u64 x,.int .u64 y] 26)/\((((W.setCell ⟨gN,0,none⟩ xA).setCell ⟨gN,1,none⟩ xB).setCell ⟨gN,2,none⟩ xC).setCell ⟨gN,3,none⟩ xD).heap[w.heap.size+1]?=some (.cells #[.bool false,.string ⟨#[]⟩,.string ⟨#[]⟩,.int .i64 0] 70)/\((((W.setCell ⟨gN,0,none⟩ xA).setCell ⟨gN,1,none⟩ xB).setCell ⟨gN,2,none⟩ xC).setCell ⟨gN,3,none⟩ xD).heap[w1.heap.size]?=some (.cells (pt c s X rr) 54))):=zJ (fun W gN xA xB xC xD h l=>⟨yG h.1 (show w.heap.size<=gN by have:=l.1;omega) _ _ _ _,(zF (by have:=l.1;omega)).trans ((zF (by have:=l.1;omega)).trans ((zF (by have:=l.1;omega)).trans ((zF (by have:=l.1;omega)).trans h.2.1))),(zF (by have:=l.2.1;omega)).trans ((zF (by have:=l.2.1;omega)).trans ((zF (by have:=l.2.1;omega)).trans ((zF (by have:=l.2.1;omega)).trans h.2.2.1))),(zF (by have:=l.2.2;omega)).trans ((zF (by have:=l.2.2;omega)).trans ((zF (by have:=l.2.2;omega)).trans ((zF (by have:=l.2.2;omega)).trans h.2.2.2)))⟩);have sC:zW (∀ W:World,(Below w.heap.size w W/\W.heap[w.heap.size]?=some (.cells #[.int .u64 x,.int .u64 y] 26)/\W.heap[w.heap.size+1]?=some (.cells #[.bool false,.string ⟨#[]⟩,.string ⟨#[]⟩,.int .i64 0] 70)/\W.heap[w1.heap.size]?=some (.cells (pt c s X rr) 54))->(Below w.heap.size w W/\W.heap[w.heap.size]?=some (.cells #[.int .u64 x,.int .u64 y] 26)/\W.heap[w.heap.size+1]?=some (.cells #[.bool false,.string ⟨#[]⟩,.string ⟨#[]⟩,.int .i64 0] 70)/\W.heap[w1.heap.size]?=some (.cells (pt c s X rr) 54)/\W.cell? ⟨w.heap.size,0,none⟩=some (.int .u64 x)/\W.cell? ⟨w.heap.size,1,none⟩=some (.int .u64 y)/\W.cell? ⟨w.heap.size+1,0,none⟩=some (.bool false)/\W.cell? ⟨w.heap.size+1,1,none⟩=some (.string ⟨#[]⟩)/\W.cell? ⟨w.heap.size+1,2,none⟩=some (.string ⟨#[]⟩)/\W.cell? ⟨w.heap.size+1,3,none⟩=some (.int .i64 0)/\W.cell? ⟨w1.heap.size,0,none⟩=some (.int .u8 c)/\W.cell? ⟨w1.heap.size,1,none⟩=some (.int .u64 (wd s 0))/\W.cell? ⟨w1.heap.size,2,none⟩=some (.int .u64 (wd s 1))/\W.cell? ⟨w1.heap.size,3,none⟩=some (.int .u64 (wd s 2))/\W.cell? ⟨w1.heap.size,4,none⟩=some (.int .u64 (wd s 3))/\W.cell? ⟨w1.heap.size,5,none⟩=some (.int .u64 (wd s 4))/\W.cell? ⟨w1.heap.size,6,none⟩=some (.int .u64 (wd s 5))/\W.cell? ⟨w1.heap.size,7,none⟩=some (.int .i64 X)/\W.cell? ⟨w1.heap.size,8,none⟩=some (.int .u64 (wd rr 0))/\W.cell? ⟨w1.heap.size,9,none⟩=some (.int .u64 (wd rr 1))/\W.cell? ⟨w1.heap.size,10,none⟩=some (.int .u64 (wd rr 2))/\W.cell? ⟨w1.heap.size,11,none⟩=some (.int .u64 (wd rr 3))/\W.cell? ⟨w1.heap.size,12,none⟩=some (.int .u64 (wd rr 4))/\W.cell? ⟨w1.heap.size,13,none⟩=some (.int .u64 (wd rr 5)))):=zJ (fun W h=>⟨h.1,h.2.1,h.2.2.1,h.2.2.2,zI (h.2.1) 0 _ rfl,zI (h.2.1) 1 _ rfl,zI (h.2.2.1) 0 _ rfl,zI (h.2.2.1) 1 _ rfl,zI (h.2.2.1) 2 _ rfl,zI (h.2.2.1) 3 _ rfl,zI (h.2.2.2) 0 _ rfl,zI (h.2.2.2) 1 _ rfl,zI (h.2.2.2) 2 _ rfl,zI (h.2.2.2) 3 _ rfl,zI (h.2.2.2) 4 _ rfl,zI (h.2.2.2) 5 _ rfl,zI (h.2.2.2) 6 _ rfl,zI (h.2.2.2) 7 _ rfl,zI (h.2.2.2) 8 _ rfl,zI (h.2.2.2) 9 _ rfl,zI (h.2.2.2) 10 _ rfl,zI (h.2.2.2) 11 _ rfl,zI (h.2.2.2) 12 _ rfl,zI (h.2.2.2) 13 _ rfl⟩)
 have s0:Below w.heap.size w ((w1.alloc (Obj.cells (pt c s X rr) 54))).drew/\((w1.alloc (Obj.cells (pt c s X rr) 54))).drew.heap[w.heap.size]?=some (.cells #[.int .u64 x,.int .u64 y] 26)/\((w1.alloc (Obj.cells (pt c s X rr) 54))).drew.heap[w.heap.size+1]?=some (.cells #[.bool false,.string ⟨#[]⟩,.string ⟨#[]⟩,.int .i64 0] 70)/\((w1.alloc (Obj.cells (pt c s X rr) 54))).drew.heap[w1.heap.size]?=some (.cells (pt c s X rr) 54):=⟨B2.drew,Ae,Af,Ad⟩;clear B2 Ae Ay Az Af AA AB AC AD Ad AE AF AG AH AI AJ AK AL AM AN AO AP AQ AR;go_wp2_with fail
 apply cut7
 ·
  intro key0;have key:=zJ key0;clear key0
  go_region_held3 (fun W=>Below w.heap.size w W/\W.heap[w.heap.size]?=some (.cells #[.int .u64 x,.int .u64 y] 26)/\W.heap[w.heap.size+1]?=some (.cells #[.bool false,.string ⟨#[]⟩,.string ⟨#[]⟩,.int .i64 0] 70)/\W.heap[w1.heap.size]?=some (.cells (pt c s X rr) 54)/\W.cell? ⟨w.heap.size,0,none⟩=some (.int .u64 x)/\W.cell? ⟨w.heap.size,1,none⟩=some (.int .u64 y)/\W.cell? ⟨w.heap.size+1,0,none⟩=some (.bool false)/\W.cell? ⟨w.heap.size+1,1,none⟩=some (.string ⟨#[]⟩)/\W.cell? ⟨w.heap.size+1,2,none⟩=some (.string ⟨#[]⟩)/\W.cell? ⟨w.heap.size+1,3,none⟩=some (.int .i64 0)/\W.cell? ⟨w1.heap.size,0,none⟩=some (.int .u8 c)/\W.cell? ⟨w1.heap.size,1,none⟩=some (.int .u64 (wd s 0))/\W.cell? ⟨w1.heap.size,2,none⟩=some (.int .u64 (wd s 1))/\W.cell? ⟨w1.heap.size,3,none⟩=some (.int .u64 (wd s 2))/\W.cell? ⟨w1.heap.size,4,none⟩=some (.int .u64 (wd s 3))/\W.cell? ⟨w1.heap.size,5,none⟩=some (.int .u64 (wd s 4))/\W.cell? ⟨w1.heap.size,6,none⟩=some (.int .u64 (wd s 5))/\W.cell? ⟨w1.heap.size,7,none⟩=some (.int .i64 X)/\W.cell? ⟨w1.heap.size,8,none⟩=some (.int .u64 (wd rr 0))/\W.cell? ⟨w1.heap.size,9,none⟩=some (.int .u64 (wd rr 1))/\W.cell? ⟨w1.heap.size,10,none⟩=some (.int .u64 (wd rr 2))/\W.cell? ⟨w1.heap.size,11,none⟩=some (.int .u64 (wd rr 3))/\W.cell? ⟨w1.heap.size,12,none⟩=some (.int .u64 (wd rr 4))/\W.cell? ⟨w1.heap.size,13,none⟩=some (.int .u64 (wd rr 5))) (first|exact sC.out _ s1|exact sC.out _ s0|exact sC.out _ (sS.out _ _ s1 (yK _ _))|exact sC.out _ (sS.out _ _ s0 (yK _ _))|exact sC.out _ (sT.out _ _ _ _ _ _ s1 hl))
   (((first|(go_at_call 43;(first|refine (KS.out _).mono ?_|refine (KS.out _).mono ?_))|(go_at_call 100;(first|refine (KN.out _).mono ?_|refine (KN.out _).mono ?_))|(go_at_call 99;(first|refine (KM.out _).mono ?_|refine (KM.out _).mono ?_))|fail);rintro r wq ⟨rfl,bq⟩;(first|(have hg:=zA bq _ _ _ (heap_alloc_last _ _);have hl:=(by first|exact sL.out _ s1|exact sL.out _ s0))|have hg:=zA bq _ _ _ hg|skip);(try simp only [xF,zM] at hg hl);(first|(have Ai:=fz (k:=0) hg;have Aj:=fz (k:=1) hg;have Ak:=fz (k:=2) hg;have Al:=fz (k:=3) hg;have Am:=zI hg 0 _ rfl;have An:=zI hg 1 _ rfl;have Ao:=zI hg 2 _ rfl;have Ap:=zI hg 3 _ rfl)|skip);have s2:=(by first|exact sS.out _ _ s1 bq|exact sS.out _ _ s0 bq|exact sS.out _ _ (sS.out _ _ s1 (yK _ _)) bq|exact sS.out _ _ (sS.out _ _ s0 (yK _ _)) bq);(try clear s1);have s1:=s2;clear s2 bq))
  all_goals
   refine gen_abacusref08_Value_7 (R:=fun W gN=>(Below w.heap.size w W/\W.heap[w.heap.size]?=some (.cells #[.int .u64 x,.int .u64 y] 26)/\W.heap[w.heap.size+1]?=some (.cells #[.bool false,.string ⟨#[]⟩,.string ⟨#[]⟩,.int .i64 0] 70)/\W.heap[w1.heap.size]?=some (.cells (pt c s X rr) 54))/\W.heap[gN]?=some (.cells #[.bool rb,.string u,.string v,.int .i64 re] 70)/\(w.heap.size<gN/\w.heap.size+1<gN/\w1.heap.size<gN)) key.out ?_
   first
    | exact⟨(sT.out _ _ _ _ _ _ s1 hl),set4_row hg rfl _ _ _ _,hl⟩
    | exact⟨sS.out _ _ s1 (yK _ _),heap_alloc_last _ _,sL.out _ s1⟩
    | exact⟨sS.out _ _ s0 (yK _ _),heap_alloc_last _ _,sL.out _ s0⟩
 rintro w3 g3 ⟨s1,AS,l3⟩;have B3:=And.left s1;have AT:=s1.2.1;have Aa:=s1.2.2.1;have AU:=s1.2.2.2;have H3:=zJ l3;clear s0 s1 sS sC sL sT l3;obtain⟨AV,AW⟩:=zC AT;obtain⟨AX,AY,AZ,A0⟩:=zE Aa;obtain⟨A1,A2,A3,A4,A5,A6,A7,A8,A9,Ba,Bb,Bc,Bd,Be⟩:=zH AU;obtain⟨Bf,Bg,Bh,Bi⟩:=zE AS;have q0:=fz (k:=0) Aa;have q1:=fz (k:=1) Aa;have q2:=fz (k:=2) Aa;have q3:=fz (k:=3) Aa;obtain⟨E0,E1,E2,E3⟩:=yO Aa rfl (.bool rb) (.string u) (.string v) (.int .i64 re);go_wp2
 exact bodyPost_ret (v:=.tuple #[.agg #[.bool rb,.string u,.string v,.int .i64 re],.int .i64 0]) (by simp [results,Tryz.results48,go_sem,E0,E1,E2,E3]) rfl ⟨rfl,yG B3 (by first|exact Nat.le_refl _|omega|(have:=S2.out;have:=Aw.out;have:=Ax.out;have:=H3.out;omega)) _ _ _ _⟩
theorem gen_abacusref08_Of_15 {X:Act->World->Prop} {R:World->Nat->Prop} {t0 t1 t2 t3 t4 t5 t6 t7 t8 t9 t10 t11 t12 t13 t14 t16 t17 t18 t19 t20 t21 t22 t23 t24 t25 t26 t27 t28 t29 t30 t31 t32 t33 t34 t35 t36 t37 t38 t39 t40 t41 t42 t43 t44 t45 t46 t47 t48 t49 t50 t51 t52 t53 t54 t55 t56 t57 t58 t59 t60 t61 t62 t63 t64 t65 t66 t67 t68 t69 t70 t71 t72 t73 t74 t75 t76 t77 t78 t79 t80 t81 t82 t83 t84 t85 t86 t87 t88 t89:Value} {d:List Deferred} {W:World} {G:Nat}
  (key:∀ w5 g,R w5 g->X ⟨#[t0,t1,t2,t3,t4,t5,t6,t7,t8,t9,t10,t11,t12,t13,t14,.pointer (some ⟨g,0,none⟩),t16,t17,t18,t19,t20,t21,t22,t23,t24,t25,t26,t27,t28,t29,t30,t31,t32,t33,t34,t35,t36,t37,t38,t39,t40,t41,t42,t43,t44,t45,t46,t47,t48,t49,t50,t51,t52,t53,t54,t55,t56,t57,t58,t59,t60,t61,t62,t63,t64,t65,t66,t67,t68,t69,t70,t71,t72,t73,t74,t75,t76,t77,t78,t79,t80,t81,t82,t83,t84,t85,t86,t87,t88,t89],d⟩ w5) (r:R W G):X ⟨#[t0,t1,t2,t3,t4,t5,t6,t7,t8,t9,t10,t11,t12,t13,t14,.pointer (some ⟨G,0,none⟩),t16,t17,t18,t19,t20,t21,t22,t23,t24,t25,t26,t27,t28,t29,t30,t31,t32,t33,t34,t35,t36,t37,t38,t39,t40,t41,t42,t43,t44,t45,t46,t47,t48,t49,t50,t51,t52,t53,t54,t55,t56,t57,t58,t59,t60,t61,t62,t63,t64,t65,t66,t67,t68,t69,t70,t71,t72,t73,t74,t75,t76,t77,t78,t79,t80,t81,t82,t83,t84,t85,t86,t87,t88,t89],d⟩ W:=key W G r

theorem rof_zero (f:Int)(b:Bool)(t:ByteArray)(e:Int)(w:World)
  : Calls Tryz.prog 164 #[.int .u8 f,.agg #[.bool b,.string ⟨#[]⟩,.string t,.int .i64 e]] w fun r w'=>r=.returned (.tuple #[.agg #[.int .u64 0,.int .u64 0],.bool true])/\Below w.heap.size w w':=by
 have hat:=yD 6;have hz:=yZ;have hff:=yY;have hs0:=jD;have hcs:∀ x,((cw 6 x).size=6)=True:=fun x=>eq_true (z8 6 x);obtain⟨Aa,Ab,B0⟩:=qD w (Obj.cells #[.bool b,.string ⟨#[]⟩,.string t,.int .i64 e] 70) (Obj.cells #[.int .u64 0,.int .u64 0] 26)
 go_enter Tryz.func164,Tryz.ntmps164
 clear B0 Aa Ab;go_wp2
 exact bodyPost_ret (v:=.tuple #[.agg #[.int .u64 0,.int .u64 0],.bool true]) (by simp [results,Tryz.results164,go_sem]) rfl ⟨rfl,(((Below.refl _ _).alloc (by first|omega|(simp only [zM];omega)) _).alloc (by first|omega|(simp only [zM];omega)) _)⟩
theorem rof_den (f:Int)(b:Bool)(s t:ByteArray)(e:Int)(P T:Int)(w:World)
  (KP:zZ 95 #[.int .u8 f] (.int .i64 P))
  (KT:zZ 199 #[.agg #[.bool b,.string s,.string t,.int .i64 e]] (.tuple #[.int .i64 T,.int .i64 0]))
  (hs:(s.toList == [])=false)
  (ht:(t.toList == [1])=false)
  : Calls Tryz.prog 164 #[.int .u8 f,.agg #[.bool b,.string s,.string t,.int .i64 e]] w fun r w'=>r=.returned (.tuple #[.agg #[.int .u64 0,.int .u64 0],.bool false])/\Below w.heap.size w w':=by
 have hat:=yD 6;have hz:=yZ;have hff:=yY;have hs0:=jD;have hcs:∀ x,((cw 6 x).size=6)=True:=fun x=>eq_true (z8 6 x);obtain⟨Ad,Ae,B0⟩:=qD w (Obj.cells #[.bool b,.string s,.string t,.int .i64 e] 70) (Obj.cells #[.int .u64 0,.int .u64 0] 26)
 go_enter Tryz.func164,Tryz.ntmps164
 go_wp2_with fail
 refine (KP.out _).mono ?_;rintro r w1 ⟨rfl,b1⟩;have B1:=zS B0 b1;obtain⟨Ab,Ac⟩:=z6 b1 Ad Ae;clear b1 B0 Ad Ae;obtain⟨Af,Ag,Ah,Ai⟩:=zE Ab;obtain⟨Aj,Ak⟩:=zC Ac;go_wp2_with fail
 refine (KT.out _).mono ?_;rintro r w2 ⟨rfl,b2⟩;have B2:=zS B1 b2;obtain⟨Al,Aa⟩:=z6 b2 Ab Ac;clear b2 B1 Ab Af Ag Ah Ai Ac Aj Ak;obtain⟨Am,An,Ao,Ap⟩:=zE Al;obtain⟨Aq,Ar⟩:=zC Aa;have q0:=fz (k:=0) Aa;have q1:=fz (k:=1) Aa;obtain⟨E0,E1⟩:=zQ Aa (.int .u64 0) (.int .u64 0);go_wp2
 exact bodyPost_ret (v:=.tuple #[.agg #[.int .u64 0,.int .u64 0],.bool false]) (by simp [results,Tryz.results164,go_sem,E0,E1]) rfl ⟨rfl,zN B2 (by first|exact Nat.le_refl _|omega|(skip;omega)) _ _⟩
theorem rof_over (f:Int)(b:Bool)(s t:ByteArray)(e:Int)(P T E:Int)(w:World)
  (KP:zZ 95 #[.int .u8 f] (.int .i64 P))
  (KT:zZ 199 #[.agg #[.bool b,.string s,.string t,.int .i64 e]] (.tuple #[.int .i64 T,.int .i64 0]))
  (KE:zZ 149 #[.int .u8 f] (.int .i64 E))
  (hs:(s.toList == [])=false)
  (ht:(t.toList == [1])=true)
  (ho:decide (E<T)=true)
  : Calls Tryz.prog 164 #[.int .u8 f,.agg #[.bool b,.string s,.string t,.int .i64 e]] w fun r w'=>r=.returned (.tuple #[.agg #[.int .u64 0,.int .u64 0],.bool false])/\Below w.heap.size w w':=by
 have hat:=yD 6;have hz:=yZ;have hff:=yY;have hs0:=jD;have hcs:∀ x,((cw 6 x).size=6)=True:=fun x=>eq_true (z8 6 x);obtain⟨Af,Ag,B0⟩:=qD w (Obj.cells #[.bool b,.string s,.string t,.int .i64 e] 70) (Obj.cells #[.int .u64 0,.int .u64 0] 26)
 go_enter Tryz.func164,Tryz.ntmps164
 go_wp2_with fail
 refine (KP.out _).mono ?_;rintro r w1 ⟨rfl,b1⟩;have B1:=zS B0 b1;obtain⟨Ab,Ac⟩:=z6 b1 Af Ag;clear b1 B0 Af Ag;obtain⟨Ah,Ai,Aj,Ak⟩:=zE Ab;obtain⟨Al,Am⟩:=zC Ac;go_wp2_with fail
 refine (KT.out _).mono ?_;rintro r w2 ⟨rfl,b2⟩;have B2:=zS B1 b2;obtain⟨Ad,Ae⟩:=z6 b2 Ab Ac;clear b2 B1 Ab Ah Ai Aj Ak Ac Al Am;obtain⟨An,Ao,Ap,Aq⟩:=zE Ad;obtain⟨Ar,As⟩:=zC Ae;go_wp2_with fail
 refine (KE.out _).mono ?_;rintro r w3 ⟨rfl,b3⟩;have B3:=zS B2 b3;obtain⟨At,Aa⟩:=z6 b3 Ad Ae;clear b3 B2 Ad An Ao Ap Aq Ae Ar As;obtain⟨Au,Av,Aw,Ax⟩:=zE At;obtain⟨Ay,Az⟩:=zC Aa;have q0:=fz (k:=0) Aa;have q1:=fz (k:=1) Aa;obtain⟨E0,E1⟩:=zQ Aa (.int .u64 0) (.int .u64 0);go_wp2
 exact bodyPost_ret (v:=.tuple #[.agg #[.int .u64 0,.int .u64 0],.bool false]) (by simp [results,Tryz.results164,go_sem,E0,E1]) rfl ⟨rfl,zN B3 (by first|exact Nat.le_refl _|omega|(skip;omega)) _ _⟩
theorem rof_low (f:Int)(b:Bool)(s t:ByteArray)(e:Int)(P T E I A0 A1 A:Int)(w:World)
  (KP:zZ 95 #[.int .u8 f] (.int .i64 P))
  (KT:zZ 199 #[.agg #[.bool b,.string s,.string t,.int .i64 e]] (.tuple #[.int .i64 T,.int .i64 0]))
  (KE:zZ 149 #[.int .u8 f] (.int .i64 E))
  (KI:zW (∀ w,Calls Tryz.prog 150 #[.int .u8 f] w fun r w'=>r=.returned (.int .i64 I)/\w'=w))
  (hs:(s.toList == [])=false)
  (ht:(t.toList == [1])=true)
  (hI:(decide (T<I)=true/\A0=I)∨(decide (T<I)=false/\A0=T)) (ho:decide (E<T)=false) (h1:IntKind.i64.wrap (A0-P)=A1) (h2:IntKind.i64.wrap (A1+1)=A)
  (hl:decide (e<A)=true)
  : Calls Tryz.prog 164 #[.int .u8 f,.agg #[.bool b,.string s,.string t,.int .i64 e]] w fun r w'=>r=.returned (.tuple #[.agg #[.int .u64 0,.int .u64 0],.bool false])/\Below w.heap.size w w':=by
 have hat:=yD 6;have hz:=yZ;have hff:=yY;have hs0:=jD;have hcs:∀ x,((cw 6 x).size=6)=True:=fun x=>eq_true (z8 6 x)
 rcases hI with ⟨hI,rfl⟩|⟨hI,rfl⟩
 all_goals
  obtain⟨Af,Ag,B0⟩:=qD w (Obj.cells #[.bool b,.string s,.string t,.int .i64 e] 70) (Obj.cells #[.int .u64 0,.int .u64 0] 26)
  go_enter Tryz.func164,Tryz.ntmps164
  go_wp2_with fail
  refine (KP.out _).mono ?_;rintro r w1 ⟨rfl,b1⟩;have B1:=zS B0 b1;obtain⟨Ab,Ac⟩:=z6 b1 Af Ag;clear b1 B0 Af Ag;obtain⟨Ah,Ai,Aj,Ak⟩:=zE Ab;obtain⟨Al,Am⟩:=zC Ac;go_wp2_with fail
  refine (KT.out _).mono ?_;rintro r w2 ⟨rfl,b2⟩;have B2:=zS B1 b2;obtain⟨Ad,Ae⟩:=z6 b2 Ab Ac;clear b2 B1 Ab Ah Ai Aj Ak Ac Al Am;obtain⟨An,Ao,Ap,Aq⟩:=zE Ad;obtain⟨Ar,As⟩:=zC Ae;go_wp2_with fail
  refine (KE.out _).mono ?_;rintro r w3 ⟨rfl,b3⟩;have B3:=zS B2 b3;obtain⟨At,Aa⟩:=z6 b3 Ad Ae;clear b3 B2 Ad An Ao Ap Aq Ae Ar As;obtain⟨Au,Av,Aw,Ax⟩:=zE At;obtain⟨Ay,Az⟩:=zC Aa;go_wp2_with fail
  refine (KI.out _).mono ?_;rintro r w' ⟨rfl,rfl⟩
  try (go_wp2_with fail;refine (KI.out _).mono ?_;rintro r w' ⟨rfl,hw'⟩;obtain rfl:=hw'.symm)
  have q0:=fz (k:=0) Aa;have q1:=fz (k:=1) Aa;obtain⟨E0,E1⟩:=zQ Aa (.int .u64 0) (.int .u64 0);go_wp2
  exact bodyPost_ret (v:=.tuple #[.agg #[.int .u64 0,.int .u64 0],.bool false]) (by simp [results,Tryz.results164,go_sem,E0,E1]) rfl ⟨rfl,zN B3 (by first|exact Nat.le_refl _|omega|(skip;omega)) _ _⟩
theorem rof_sub (f:Int)(b:Bool)(s t:ByteArray)(e:Int)(P T E I A0 A1 A fe:Int)(is:Bool)(m:ByteArray)(M l u v:Nat)(w:World)
  (KP:zZ 95 #[.int .u8 f] (.int .i64 P))
  (KT:zZ 199 #[.agg #[.bool b,.string s,.string t,.int .i64 e]] (.tuple #[.int .i64 T,.int .i64 0]))
  (KE:zZ 149 #[.int .u8 f] (.int .i64 E))
  (KI:zW (∀ w,Calls Tryz.prog 150 #[.int .u8 f] w fun r w'=>r=.returned (.int .i64 I)/\w'=w))
  (KF:zZ 201 #[.agg #[.bool b,.string s,.string t,.int .i64 e],.int .i64 A] (.tuple #[.string m,.bool is,.int .i64 fe]))
  (KW:zZ 205 #[.string m] (.tuple #[.agg (cw 6 M),.bool true]))
  (KL:zZ 140 #[.agg (cw 6 M)] (.int .i64 (l:Nat)))
  (KB:zZ 96 #[.int .u8 f,.bool b,.int .i64 0,.agg (cw 6 M)] (.agg #[.int .u64 u,.int .u64 v]))
  (hs:(s.toList == [])=false)
  (ht:(t.toList == [1])=true)
  (hI:(decide (T<I)=true/\A0=I)∨(decide (T<I)=false/\A0=T)) (ho:decide (E<T)=false) (h1:IntKind.i64.wrap (A0-P)=A1) (h2:IntKind.i64.wrap (A1+1)=A)
  (hl:decide (e<A)=false) (hL:decide ((l:Int)<P)=true)
  : Calls Tryz.prog 164 #[.int .u8 f,.agg #[.bool b,.string s,.string t,.int .i64 e]] w fun r w'=>r=.returned (.tuple #[.agg #[.int .u64 u,.int .u64 v],.bool true])/\Below w.heap.size w w':=by
 have hat:=yD 6;have hz:=yZ;have hff:=yY;have hs0:=jD;have hcs:∀ x,((cw 6 x).size=6)=True:=fun x=>eq_true (z8 6 x)
 rcases hI with ⟨hI,rfl⟩|⟨hI,rfl⟩
 all_goals
  obtain⟨Ar,As,B0⟩:=qD w (Obj.cells #[.bool b,.string s,.string t,.int .i64 e] 70) (Obj.cells #[.int .u64 0,.int .u64 0] 26)
  go_enter Tryz.func164,Tryz.ntmps164
  go_wp2_with fail
  refine (KP.out _).mono ?_;rintro r w1 ⟨rfl,b1⟩;have B1:=zS B0 b1;obtain⟨Ad,Ae⟩:=z6 b1 Ar As;clear b1 B0 Ar As;obtain⟨At,Au,Av,Aw⟩:=zE Ad;obtain⟨Ax,Ay⟩:=zC Ae;go_wp2_with fail
  refine (KT.out _).mono ?_;rintro r w2 ⟨rfl,b2⟩;have B2:=zS B1 b2;obtain⟨Af,Ag⟩:=z6 b2 Ad Ae;clear b2 B1 Ad At Au Av Aw Ae Ax Ay;obtain⟨Az,AA,AB,AC⟩:=zE Af;obtain⟨AD,AE⟩:=zC Ag;go_wp2_with fail
  refine (KE.out _).mono ?_;rintro r w3 ⟨rfl,b3⟩;have B3:=zS B2 b3;obtain⟨Ah,Ai⟩:=z6 b3 Af Ag;clear b3 B2 Af Az AA AB AC Ag AD AE;obtain⟨AF,AG,AH,AI⟩:=zE Ah;obtain⟨AJ,AK⟩:=zC Ai;go_wp2_with fail
  refine (KI.out _).mono ?_;rintro r w' ⟨rfl,rfl⟩
  try (go_wp2_with fail;refine (KI.out _).mono ?_;rintro r w' ⟨rfl,hw'⟩;obtain rfl:=hw'.symm)
  go_wp2_with fail
  refine (KF.out _).mono ?_;rintro r w4 ⟨rfl,b4⟩;have B4:=zS B3 b4;obtain⟨Aj,Ak⟩:=z6 b4 Ah Ai;clear b4 B3 Ah AF AG AH AI Ai AJ AK;obtain⟨AL,AM,AN,AO⟩:=zE Aj;obtain⟨AP,AQ⟩:=zC Ak;go_wp2_with fail
  refine (KW.out _).mono ?_;rintro r w5 ⟨rfl,b5⟩;have B5:=zS B4 b5;obtain⟨Aa,Ab⟩:=z6 b5 Aj Ak;clear b5 B4 Aj AL AM AN AO Ak AP AQ;obtain⟨AR,AS,AT,AU⟩:=zE Aa;obtain⟨AV,AW⟩:=zC Ab;have S6:=zJ B5.size;have AX:=yC Aa;have AY:=yC Ab;have Al:=heap_alloc_last w5 (Obj.cells (cw 6 M) 52);have B6:=zS B5 (yK w5 (Obj.cells (cw 6 M) 52));obtain⟨Am,An⟩:=z6 (yK w5 (Obj.cells (cw 6 M) 52)) Aa Ab;clear B5 Aa AR AS AT AU Ab AV AW;obtain⟨AZ,A2,A3,A4⟩:=zE Am;obtain⟨A5,A6⟩:=zC An;have A7:=zG Al;go_wp2_with fail
  refine (KL.out _).mono ?_;rintro r w7 ⟨rfl,b7⟩;have B7:=zS B6 b7;obtain⟨Ao,Ap,Aq⟩:=yJ b7 Am An Al;clear b7 B6 Am AZ A2 A3 A4 An A5 A6 Al A7;obtain⟨A8,A9,Ba,Bb⟩:=zE Ao;obtain⟨Bc,Bd⟩:=zC Ap;have Be:=zG Aq;go_wp2_with fail
  refine (KB.out _).mono ?_;rintro r w8 ⟨rfl,b8⟩;have B8:=zS B7 b8;obtain⟨Bf,Ac,Bg⟩:=yJ b8 Ao Ap Aq;clear b8 B7 Ao A8 A9 Ba Bb Ap Bc Bd Aq Be;obtain⟨Bh,Bi,Bj,Bk⟩:=zE Bf;obtain⟨Bl,Bm⟩:=zC Ac;have Bn:=zG Bg;have q0:=fz (k:=0) Ac;have q1:=fz (k:=1) Ac;obtain⟨E0,E1⟩:=zQ Ac (.int .u64 u) (.int .u64 v);go_wp2
  exact bodyPost_ret (v:=.tuple #[.agg #[.int .u64 u,.int .u64 v],.bool true]) (by simp [results,Tryz.results164,go_sem,E0,E1]) rfl ⟨rfl,zN B8 (by first|exact Nat.le_refl _|omega|(have:=S6.out;have:=AX.out;have:=AY.out;omega)) _ _⟩
theorem rof_norm (f:Int)(b:Bool)(s t:ByteArray)(e:Int)(P T E I A0 A1 A fe:Int)(is:Bool)(m:ByteArray)(M l u v:Nat)(P1 Q1:Int)(K t1 q:Nat)(w:World)
  (KP:zZ 95 #[.int .u8 f] (.int .i64 P))
  (KT:zZ 199 #[.agg #[.bool b,.string s,.string t,.int .i64 e]] (.tuple #[.int .i64 T,.int .i64 0]))
  (KE:zZ 149 #[.int .u8 f] (.int .i64 E))
  (KI:zW (∀ w,Calls Tryz.prog 150 #[.int .u8 f] w fun r w'=>r=.returned (.int .i64 I)/\w'=w))
  (KF:zZ 201 #[.agg #[.bool b,.string s,.string t,.int .i64 e],.int .i64 A] (.tuple #[.string m,.bool is,.int .i64 fe]))
  (KW:zZ 205 #[.string m] (.tuple #[.agg (cw 6 M),.bool true]))
  (KL:zZ 140 #[.agg (cw 6 M)] (.int .i64 (l:Nat)))
  (KK:zZ 144 #[.int .i64 P1] (.agg (cw 6 K)))
  (KA:zZ 143 #[.agg (cw 6 M),.agg (cw 6 K)] (.agg (cw 6 t1)))
  (KB:zZ 96 #[.int .u8 f,.bool b,.int .i64 (q:Nat),.agg (cw 6 t1)] (.agg #[.int .u64 u,.int .u64 v]))
  (hs:(s.toList == [])=false)
  (ht:(t.toList == [1])=true)
  (hI:(decide (T<I)=true/\A0=I)∨(decide (T<I)=false/\A0=T)) (ho:decide (E<T)=false) (h1:IntKind.i64.wrap (A0-P)=A1) (h2:IntKind.i64.wrap (A1+1)=A)
  (hl:decide (e<A)=false) (hL:decide ((l:Int)<P)=false) (h3:IntKind.i64.wrap (P-1)=P1) (h4:IntKind.i64.wrap (A-I)=Q1) (h5:IntKind.i64.wrap (Q1+P)=(q:Int))
  : Calls Tryz.prog 164 #[.int .u8 f,.agg #[.bool b,.string s,.string t,.int .i64 e]] w fun r w'=>r=.returned (.tuple #[.agg #[.int .u64 u,.int .u64 v],.bool true])/\Below w.heap.size w w':=by
 have hat:=yD 6;have hz:=yZ;have hff:=yY;have hs0:=jD;have hcs:∀ x,((cw 6 x).size=6)=True:=fun x=>eq_true (z8 6 x)
 rcases hI with ⟨hI,rfl⟩|⟨hI,rfl⟩
 all_goals
  obtain⟨Aq,Ar,B0⟩:=qD w (Obj.cells #[.bool b,.string s,.string t,.int .i64 e] 70) (Obj.cells #[.int .u64 0,.int .u64 0] 26)
  go_enter Tryz.func164,Tryz.ntmps164
  go_wp2_with fail
  refine (KP.out _).mono ?_;rintro r w1 ⟨rfl,b1⟩;have B1:=zS B0 b1;obtain⟨Ac,Ad⟩:=z6 b1 Aq Ar;clear b1 B0 Aq Ar;obtain⟨Ay,Az,AA,AB⟩:=zE Ac;obtain⟨AC,AD⟩:=zC Ad;go_wp2_with fail
  refine (KT.out _).mono ?_;rintro r w2 ⟨rfl,b2⟩;have B2:=zS B1 b2;obtain⟨Ae,Af⟩:=z6 b2 Ac Ad;clear b2 B1 Ac Ay Az AA AB Ad AC AD;obtain⟨AE,AF,AG,AH⟩:=zE Ae;obtain⟨AI,AJ⟩:=zC Af;go_wp2_with fail
  refine (KE.out _).mono ?_;rintro r w3 ⟨rfl,b3⟩;have B3:=zS B2 b3;obtain⟨Ag,Ah⟩:=z6 b3 Ae Af;clear b3 B2 Ae AE AF AG AH Af AI AJ;obtain⟨AK,AL,AM,AN⟩:=zE Ag;obtain⟨AO,AP⟩:=zC Ah;go_wp2_with fail
  refine (KI.out _).mono ?_;rintro r w' ⟨rfl,rfl⟩
  try (go_wp2_with fail;refine (KI.out _).mono ?_;rintro r w' ⟨rfl,hw'⟩;obtain rfl:=hw'.symm)
  go_wp2_with fail
  refine (KF.out _).mono ?_;rintro r w4 ⟨rfl,b4⟩;have B4:=zS B3 b4;obtain⟨Ai,Aj⟩:=z6 b4 Ag Ah;clear b4 B3 Ag AK AL AM AN Ah AO AP;obtain⟨AQ,AR,AS,AT⟩:=zE Ai;obtain⟨AU,AV⟩:=zC Aj;go_wp2_with fail
  refine (KW.out _).mono ?_;rintro r w5 ⟨rfl,b5⟩;have B5:=zS B4 b5;obtain⟨Aa,Ab⟩:=z6 b5 Ai Aj;clear b5 B4 Ai AQ AR AS AT Aj AU AV;obtain⟨AW,AX,AY,AZ⟩:=zE Aa;obtain⟨A2,A3⟩:=zC Ab;have S6:=zJ B5.size;have As:=yC Aa;have At:=yC Ab;have Ak:=heap_alloc_last w5 (Obj.cells (cw 6 M) 52);have B6:=zS B5 (yK w5 (Obj.cells (cw 6 M) 52));obtain⟨Al,Am⟩:=z6 (yK w5 (Obj.cells (cw 6 M) 52)) Aa Ab;clear B5 Aa AW AX AY AZ Ab A2 A3;obtain⟨A4,A5,A6,A7⟩:=zE Al;obtain⟨A8,A9⟩:=zC Am;have Ba:=zG Ak;go_wp2_with fail
  refine (KL.out _).mono ?_;rintro r w7 ⟨rfl,b7⟩;have B7:=zS B6 b7;obtain⟨An,Ao,Ap⟩:=yJ b7 Al Am Ak;clear b7 B6 Al A4 A5 A6 A7 Am A8 A9 Ak Ba;obtain⟨Bb,Bc,Bd,Be⟩:=zE An;obtain⟨Bf,Bg⟩:=zC Ao;have Bh:=zG Ap;have sS:zW (∀ W W1:World,(Below w.heap.size w W/\W.heap[w.heap.size]?=some (.cells #[.bool b,.string s,.string t,.int .i64 e] 70)/\W.heap[w.heap.size+1]?=some (.cells #[.int .u64 0,.int .u64 0] 26)/\W.heap[w5.heap.size]?=some (.cells (cw 6 M) 52))->Below W.heap.size W W1->(Below w.heap.size w W1/\W1.heap[w.heap.size]?=some (.cells #[.bool b,.string s,.string t,.int .i64 e] 70)/\W1.heap[w.heap.size+1]?=some (.cells #[.int .u64 0,.int .u64 0] 26)/\W1.heap[w5.heap.size]?=some (.cells (cw 6 M) 52))):=zJ (fun W W1 h b=>⟨zS h.1 b,zA b _ _ _ h.2.1,zA b _ _ _ h.2.2.1,zA b _ _ _ h.2.2.2⟩);have sL:zW (∀ W:World,(Below w.heap.size w W/\W.heap[w.heap.size]?=some (.cells #[.bool b,.string s,.string t,.int .i64 e] 70)/\W.heap[w.heap.size+1]?=some (.cells #[.int .u64 0,.int .u64 0] 26)/\W.heap[w5.heap.size]?=some (.cells (cw 6 M) 52))->(w.heap.size<W.heap.size/\w.heap.size+1<W.heap.size/\w5.heap.size<W.heap.size)):=zJ (fun W h=>⟨(Array.getElem?_eq_some_iff.1 h.2.1).1,(Array.getElem?_eq_some_iff.1 h.2.2.1).1,(Array.getElem?_eq_some_iff.1 h.2.2.2).1⟩);have sT:zW (∀ (W:World) (gN:Nat) (xA:Array Value),(Below w.heap.size w W/\W.heap[w.heap.size]?=some (.cells #[.bool b,.string s,.string t,.int .i64 e] 70)/\W.heap[w.heap.size+1]?=some (.cells #[.int .u64 0,.int .u64 0] 26)/\W.heap[w5.heap.size]?=some (.cells (cw 6 M) 52))->(w.heap.size<gN/\w.heap.size+1<gN/\w5.heap.size<gN)->(Below w.heap.size w (W.setRow gN xA)/\(W.setRow gN xA).heap[w.heap.size]?=some (.cells #[.bool b,.string s,.string t,.int .i64 e] 70)/\(W.setRow gN xA).heap[w.heap.size+1]?=some (.cells #[.int .u64 0,.int .u64 0] 26)/\(W.setRow gN xA).heap[w5.heap.size]?=some (.cells (cw 6 M) 52))):=zJ (fun W gN xA h l=>⟨z9 h.1 (show w.heap.size<=gN by have:=l.1;omega),(zK (by have:=l.1;omega)).trans h.2.1,(zK (by have:=l.2.1;omega)).trans h.2.2.1,(zK (by have:=l.2.2;omega)).trans h.2.2.2⟩);have sC:zW (∀ W:World,(Below w.heap.size w W/\W.heap[w.heap.size]?=some (.cells #[.bool b,.string s,.string t,.int .i64 e] 70)/\W.heap[w.heap.size+1]?=some (.cells #[.int .u64 0,.int .u64 0] 26)/\W.heap[w5.heap.size]?=some (.cells (cw 6 M) 52))->(Below w.heap.size w W/\W.heap[w.heap.size]?=some (.cells #[.bool b,.string s,.string t,.int .i64 e] 70)/\W.heap[w.heap.size+1]?=some (.cells #[.int .u64 0,.int .u64 0] 26)/\W.heap[w5.heap.size]?=some (.cells (cw 6 M) 52)/\W.cell? ⟨w.heap.size,0,none⟩=some (.bool b)/\W.cell? ⟨w.heap.size,1,none⟩=some (.string s)/\W.cell? ⟨w.heap.size,2,none⟩=some (.string t)/\W.cell? ⟨w.heap.size,3,none⟩=some (.int .i64 e)/\W.cell? ⟨w.heap.size+1,0,none⟩=some (.int .u64 0)/\W.cell? ⟨w.heap.size+1,1,none⟩=some (.int .u64 0)/\W.cell? ⟨w5.heap.size,0,none⟩=some (.int .u64 (wd M 0))/\W.cell? ⟨w5.heap.size,1,none⟩=some (.int .u64 (wd M 1))/\W.cell? ⟨w5.heap.size,2,none⟩=some (.int .u64 (wd M 2))/\W.cell? ⟨w5.heap.size,3,none⟩=some (.int .u64 (wd M 3))/\W.cell? ⟨w5.heap.size,4,none⟩=some (.int .u64 (wd M 4))/\W.cell? ⟨w5.heap.size,5,none⟩=some (.int .u64 (wd M 5)))):=zJ (fun W h=>⟨h.1,h.2.1,h.2.2.1,h.2.2.2,zI (h.2.1) 0 _ rfl,zI (h.2.1) 1 _ rfl,zI (h.2.1) 2 _ rfl,zI (h.2.1) 3 _ rfl,zI (h.2.2.1) 0 _ rfl,zI (h.2.2.1) 1 _ rfl,zG (h.2.2.2) 0 (by decide),zG (h.2.2.2) 1 (by decide),zG (h.2.2.2) 2 (by decide),zG (h.2.2.2) 3 (by decide),zG (h.2.2.2) 4 (by decide),zG (h.2.2.2) 5 (by decide)⟩)
  have s0:Below w.heap.size w (w7).drew/\(w7).drew.heap[w.heap.size]?=some (.cells #[.bool b,.string s,.string t,.int .i64 e] 70)/\(w7).drew.heap[w.heap.size+1]?=some (.cells #[.int .u64 0,.int .u64 0] 26)/\(w7).drew.heap[w5.heap.size]?=some (.cells (cw 6 M) 52):=⟨B7.drew,An,Ao,Ap⟩;clear B7 An Bb Bc Bd Be Ao Bf Bg Ap Bh;go_wp2_with fail
  apply cut7
  ·
   intro key0;have key:=zJ key0;clear key0
   go_region_held3 (fun W=>Below w.heap.size w W/\W.heap[w.heap.size]?=some (.cells #[.bool b,.string s,.string t,.int .i64 e] 70)/\W.heap[w.heap.size+1]?=some (.cells #[.int .u64 0,.int .u64 0] 26)/\W.heap[w5.heap.size]?=some (.cells (cw 6 M) 52)/\W.cell? ⟨w.heap.size,0,none⟩=some (.bool b)/\W.cell? ⟨w.heap.size,1,none⟩=some (.string s)/\W.cell? ⟨w.heap.size,2,none⟩=some (.string t)/\W.cell? ⟨w.heap.size,3,none⟩=some (.int .i64 e)/\W.cell? ⟨w.heap.size+1,0,none⟩=some (.int .u64 0)/\W.cell? ⟨w.heap.size+1,1,none⟩=some (.int .u64 0)/\W.cell? ⟨w5.heap.size,0,none⟩=some (.int .u64 (wd M 0))/\W.cell? ⟨w5.heap.size,1,none⟩=some (.int .u64 (wd M 1))/\W.cell? ⟨w5.heap.size,2,none⟩=some (.int .u64 (wd M 2))/\W.cell? ⟨w5.heap.size,3,none⟩=some (.int .u64 (wd M 3))/\W.cell? ⟨w5.heap.size,4,none⟩=some (.int .u64 (wd M 4))/\W.cell? ⟨w5.heap.size,5,none⟩=some (.int .u64 (wd M 5))) (first|exact sC.out _ s1|exact sC.out _ s0|exact sC.out _ (sS.out _ _ s1 (yK _ _))|exact sC.out _ (sS.out _ _ s0 (yK _ _))|exact sC.out _ (sT.out _ _ _ s1 hl))
    (((first|(go_at_call 144;(first|refine (KK.out _).mono ?_|refine (KK.out _).mono ?_))|(go_at_call 143;(first|refine (KA.out _).mono ?_|refine (KA.out _).mono ?_))|fail);rintro r wq ⟨rfl,bq⟩;(first|(have hg:=zA bq _ _ _ (heap_alloc_last _ _);have hl:=(by first|exact sL.out _ s1|exact sL.out _ s0))|have hg:=zA bq _ _ _ hg|skip);(try simp only [xF,zM] at hg hl);(first|have hst:=xG _ _ (t1) 0 hg|skip);have s2:=(by first|exact sS.out _ _ s1 bq|exact sS.out _ _ s0 bq|exact sS.out _ _ (sS.out _ _ s1 (yK _ _)) bq|exact sS.out _ _ (sS.out _ _ s0 (yK _ _)) bq);(try clear s1);have s1:=s2;clear s2 bq))
   all_goals
    refine gen_abacusref08_Of_15 (R:=fun W gN=>(Below w.heap.size w W/\W.heap[w.heap.size]?=some (.cells #[.bool b,.string s,.string t,.int .i64 e] 70)/\W.heap[w.heap.size+1]?=some (.cells #[.int .u64 0,.int .u64 0] 26)/\W.heap[w5.heap.size]?=some (.cells (cw 6 M) 52))/\W.heap[gN]?=some (.cells (cw 6 t1) 52)/\(w.heap.size<gN/\w.heap.size+1<gN/\w5.heap.size<gN)) key.out ?_
    first
     | exact⟨(sT.out _ _ _ s1 hl),zT hg,hl⟩
     | exact⟨sS.out _ _ s1 (yK _ _),heap_alloc_last _ _,sL.out _ s1⟩
     | exact⟨sS.out _ _ s0 (yK _ _),heap_alloc_last _ _,sL.out _ s0⟩
  rintro w8 g8 ⟨s1,Au,l8⟩;have B8:=And.left s1;have Av:=s1.2.1;have Aw:=s1.2.2.1;have Ax:=s1.2.2.2;have H8:=zJ l8;clear s0 s1 sS sC sL sT l8;obtain⟨Bm,Bn,Bo,Bp⟩:=zE Av;obtain⟨Bq,Br⟩:=zC Aw;have Bs:=zG Ax;have Bt:=zG Au;have sS:zW (∀ W W1:World,(Below w.heap.size w W/\W.heap[w.heap.size]?=some (.cells #[.bool b,.string s,.string t,.int .i64 e] 70)/\W.heap[w5.heap.size]?=some (.cells (cw 6 M) 52)/\W.heap[g8]?=some (.cells (cw 6 t1) 52))->Below W.heap.size W W1->(Below w.heap.size w W1/\W1.heap[w.heap.size]?=some (.cells #[.bool b,.string s,.string t,.int .i64 e] 70)/\W1.heap[w5.heap.size]?=some (.cells (cw 6 M) 52)/\W1.heap[g8]?=some (.cells (cw 6 t1) 52))):=zJ (fun W W1 h b=>⟨zS h.1 b,zA b _ _ _ h.2.1,zA b _ _ _ h.2.2.1,zA b _ _ _ h.2.2.2⟩);have HH:=zJ (And.intro S6.out (And.intro As.out (And.intro At.out H8.out)));have sT:zW (∀ (W:World) (xA xB:Value),(Below w.heap.size w W/\W.heap[w.heap.size]?=some (.cells #[.bool b,.string s,.string t,.int .i64 e] 70)/\W.heap[w5.heap.size]?=some (.cells (cw 6 M) 52)/\W.heap[g8]?=some (.cells (cw 6 t1) 52))->(Below w.heap.size w ((W.setCell ⟨w.heap.size+1,0,none⟩ xA).setCell ⟨w.heap.size+1,1,none⟩ xB)/\((W.setCell ⟨w.heap.size+1,0,none⟩ xA).setCell ⟨w.heap.size+1,1,none⟩ xB).heap[w.heap.size]?=some (.cells #[.bool b,.string s,.string t,.int .i64 e] 70)/\((W.setCell ⟨w.heap.size+1,0,none⟩ xA).setCell ⟨w.heap.size+1,1,none⟩ xB).heap[w5.heap.size]?=some (.cells (cw 6 M) 52)/\((W.setCell ⟨w.heap.size+1,0,none⟩ xA).setCell ⟨w.heap.size+1,1,none⟩ xB).heap[g8]?=some (.cells (cw 6 t1) 52))):=zJ (fun W xA xB h=>⟨zN h.1 (by first|exact Nat.le_refl _|omega|(have:=HH.out;omega)) xA xB,((zF (by first|omega|(have:=HH.out;omega))).trans ((zF (by first|omega|(have:=HH.out;omega))).trans h.2.1)),((zF (by first|omega|(have:=HH.out;omega))).trans ((zF (by first|omega|(have:=HH.out;omega))).trans h.2.2.1)),((zF (by first|omega|(have:=HH.out;omega))).trans ((zF (by first|omega|(have:=HH.out;omega))).trans h.2.2.2))⟩);have sC:zW (∀ W:World,(Below w.heap.size w W/\W.heap[w.heap.size]?=some (.cells #[.bool b,.string s,.string t,.int .i64 e] 70)/\W.heap[w5.heap.size]?=some (.cells (cw 6 M) 52)/\W.heap[g8]?=some (.cells (cw 6 t1) 52))->(Below w.heap.size w W/\W.heap[w.heap.size]?=some (.cells #[.bool b,.string s,.string t,.int .i64 e] 70)/\W.heap[w5.heap.size]?=some (.cells (cw 6 M) 52)/\W.heap[g8]?=some (.cells (cw 6 t1) 52)/\W.cell? ⟨w.heap.size,0,none⟩=some (.bool b)/\W.cell? ⟨w.heap.size,1,none⟩=some (.string s)/\W.cell? ⟨w.heap.size,2,none⟩=some (.string t)/\W.cell? ⟨w.heap.size,3,none⟩=some (.int .i64 e)/\W.cell? ⟨w5.heap.size,0,none⟩=some (.int .u64 (wd M 0))/\W.cell? ⟨w5.heap.size,1,none⟩=some (.int .u64 (wd M 1))/\W.cell? ⟨w5.heap.size,2,none⟩=some (.int .u64 (wd M 2))/\W.cell? ⟨w5.heap.size,3,none⟩=some (.int .u64 (wd M 3))/\W.cell? ⟨w5.heap.size,4,none⟩=some (.int .u64 (wd M 4))/\W.cell? ⟨w5.heap.size,5,none⟩=some (.int .u64 (wd M 5))/\W.cell? ⟨g8,0,none⟩=some (.int .u64 (wd t1 0))/\W.cell? ⟨g8,1,none⟩=some (.int .u64 (wd t1 1))/\W.cell? ⟨g8,2,none⟩=some (.int .u64 (wd t1 2))/\W.cell? ⟨g8,3,none⟩=some (.int .u64 (wd t1 3))/\W.cell? ⟨g8,4,none⟩=some (.int .u64 (wd t1 4))/\W.cell? ⟨g8,5,none⟩=some (.int .u64 (wd t1 5)))):=zJ (fun W h=>⟨h.1,h.2.1,h.2.2.1,h.2.2.2,zI (h.2.1) 0 _ rfl,zI (h.2.1) 1 _ rfl,zI (h.2.1) 2 _ rfl,zI (h.2.1) 3 _ rfl,zG (h.2.2.1) 0 (by decide),zG (h.2.2.1) 1 (by decide),zG (h.2.2.1) 2 (by decide),zG (h.2.2.1) 3 (by decide),zG (h.2.2.1) 4 (by decide),zG (h.2.2.1) 5 (by decide),zG (h.2.2.2) 0 (by decide),zG (h.2.2.2) 1 (by decide),zG (h.2.2.2) 2 (by decide),zG (h.2.2.2) 3 (by decide),zG (h.2.2.2) 4 (by decide),zG (h.2.2.2) 5 (by decide)⟩)
  have s0:Below w.heap.size w (w8).drew/\(w8).drew.heap[w.heap.size]?=some (.cells #[.bool b,.string s,.string t,.int .i64 e] 70)/\(w8).drew.heap[w5.heap.size]?=some (.cells (cw 6 M) 52)/\(w8).drew.heap[g8]?=some (.cells (cw 6 t1) 52):=⟨B8.drew,Av,Ax,Au⟩;have rz:(w8).drew.heap[w.heap.size+1]?=some (.cells #[.int .u64 0,.int .u64 0] 26):=Aw;have Bi:=fz (k:=0) rz;have Bj:=fz (k:=1) rz;have Bk:=zI rz 0 _ rfl;have Bl:=zI rz 1 _ rfl;go_wp2_with fail
  go_region_held3 (fun W=>Below w.heap.size w W/\W.heap[w.heap.size]?=some (.cells #[.bool b,.string s,.string t,.int .i64 e] 70)/\W.heap[w5.heap.size]?=some (.cells (cw 6 M) 52)/\W.heap[g8]?=some (.cells (cw 6 t1) 52)/\W.cell? ⟨w.heap.size,0,none⟩=some (.bool b)/\W.cell? ⟨w.heap.size,1,none⟩=some (.string s)/\W.cell? ⟨w.heap.size,2,none⟩=some (.string t)/\W.cell? ⟨w.heap.size,3,none⟩=some (.int .i64 e)/\W.cell? ⟨w5.heap.size,0,none⟩=some (.int .u64 (wd M 0))/\W.cell? ⟨w5.heap.size,1,none⟩=some (.int .u64 (wd M 1))/\W.cell? ⟨w5.heap.size,2,none⟩=some (.int .u64 (wd M 2))/\W.cell? ⟨w5.heap.size,3,none⟩=some (.int .u64 (wd M 3))/\W.cell? ⟨w5.heap.size,4,none⟩=some (.int .u64 (wd M 4))/\W.cell? ⟨w5.heap.size,5,none⟩=some (.int .u64 (wd M 5))/\W.cell? ⟨g8,0,none⟩=some (.int .u64 (wd t1 0))/\W.cell? ⟨g8,1,none⟩=some (.int .u64 (wd t1 1))/\W.cell? ⟨g8,2,none⟩=some (.int .u64 (wd t1 2))/\W.cell? ⟨g8,3,none⟩=some (.int .u64 (wd t1 3))/\W.cell? ⟨g8,4,none⟩=some (.int .u64 (wd t1 4))/\W.cell? ⟨g8,5,none⟩=some (.int .u64 (wd t1 5))) (first|exact sC.out _ s1|exact sC.out _ s0|exact sC.out _ (sT.out _ _ _ s1)|exact sC.out _ (sT.out _ _ _ s0))
   (first|(go_at_call 150;(first|refine (KI.out _).mono ?_|refine (KI.out _).mono ?_);rintro r wz ⟨rfl,rfl⟩)|(go_at_call 96;(first|refine (KB.out _).mono ?_|refine (KB.out _).mono ?_);rintro r wq ⟨rfl,bq⟩;have s1:=(by first|exact sS.out _ _ s1 bq|exact sS.out _ _ s0 bq);have rz:=zA bq _ _ _ rz;have Bi:=fz (k:=0) rz;have Bk:=zI rz 0 _ rfl;have Bj:=fz (k:=1) rz;have Bl:=zI rz 1 _ rfl;clear bq)|fail)
  obtain⟨E0,E1⟩:=zQ rz (.int .u64 u) (.int .u64 v);have BZ:=(by first|exact And.left s1|exact And.left s0:Below w.heap.size w _);go_wp2
  exact bodyPost_ret (v:=.tuple #[.agg #[.int .u64 u,.int .u64 v],.bool true]) (by simp [results,Tryz.results164,go_sem,E0,E1]) rfl ⟨rfl,zN BZ (by first|exact Nat.le_refl _|omega|(have:=S6.out;have:=As.out;have:=At.out;have:=H8.out;omega)) _ _⟩
end Go.Proofs.YtapikkbifdldfaaGreatDoor
namespace Go.Proofs.YtapikkbifdldfaaGreatDoor
set_option maxRecDepth 100000
set_option maxHeartbeats 40000000
open Go.RowKit WMath XMath
set_option linter.unusedSimpArgs false
set_option linter.unusedVariables false
def vX (f:Int)(n:Nat):XN:=(mk (kN f n) (kS f n) 1 (kX f n)).1
theorem kS_lim {f:Int} (hf:y7 f)(n:Nat):kS f n<340282366920938463463374607431768211456/\-20000<=kX f n/\kX f n<=20000:=by
 obtain⟨g1,g2,g3,g4,g5,g6,g7⟩:=fm hf;obtain⟨l1,l2,l3,l4,l5⟩:=lx_lim hf;obtain⟨n1,n2,n3,n4,n5,n6⟩:=nm8 hf;have tl:=kT_lt (f:=f) n;have el:=kE_le (f:=f) n;have oe:(oV f:Int)=2*fE f+1:=by unfold oV;omega
 have pn:2 ^ pV f+kT f n<340282366920938463463374607431768211456:=by rw [g1,Nat.add_mul] at g7;have:=Nat.mul_le_mul_right (2 ^ pV f) g5;omega
 refine ⟨?_,?_,?_⟩
 ·
  unfold kS;split <;> (try split) <;> omega
 ·
  unfold kX;split <;> (try split) <;> omega
 ·
  unfold kX;split <;> (try split) <;> omega
theorem k_parts {f:Int} (n:Nat)(h:kC f n=1∨kC f n=2∨kC f n=5∨kC f n=6):kE f n<oV f/\kS f n=sV f (kE f n) (kT f n)/\kX f n=xV f (kE f n)/\kS f n≠0:=by
 have el:=kE_le (f:=f) n;have p:=Nat.two_pow_pos (pV f);have h2:=h
 unfold kC at h2
 by_cases c1:kE f n=oV f
 ·
  rw [if_pos c1] at h2
  exfalso
  (repeat' split at h2) <;> omega
 ·
  rw [if_neg c1] at h2
  unfold kS kX sV xV
  by_cases c2:kE f n=0
  ·
   rw [if_neg (by omega)] at h2
   by_cases c3:kT f n=0
   ·
    rw [if_neg (by omega)] at h2
    exfalso
    split at h2 <;> omega
   ·
    rw [if_pos c3] at h2
    have hc:kC f n=2∨kC f n=5:=by
     unfold kC
     rw [if_neg c1,if_neg (by omega),if_pos c3]
     cases kN f n <;> simp
    rw [if_pos hc,if_pos hc,if_pos c2,if_pos c2];exact⟨by omega,rfl,rfl,c3⟩
  ·
   have hc:kC f n=1∨kC f n=6:=by
    unfold kC
    rw [if_neg c1,if_pos c2]
    cases kN f n <;> simp
   have hn:¬ (kC f n=2∨kC f n=5):=by omega
   rw [if_neg hn,if_neg hn,if_pos hc,if_pos hc,if_neg c2,if_neg c2];exact⟨by omega,rfl,rfl,by omega⟩
theorem k_null {f:Int} (n:Nat)(h:kC f n=3∨kC f n=4):kS f n=0/\kX f n=0:=by
 unfold kS kX
 rw [if_neg (by omega),if_neg (by omega),if_neg (by omega),if_neg (by omega)];exact⟨rfl,rfl⟩
theorem vX_mk {f:Int} (hf:y7 f)(n:Nat)(h:0<kC f n/\kC f n<7):mk (kN f n) (kS f n) 1 (kX f n)=(vX f n,0):=by
 unfold vX
 by_cases c:kC f n=3∨kC f n=4
 ·
  rw [(k_null n c).1,mk_null]
 ·
  obtain⟨a,b,d,e⟩:=k_parts (f:=f) n (by omega)
  have:=(val_of hf (kN f n) (kE f n) (kT f n) a (kT_lt n) (by rw [<-b];exact e)).1
  rw [b,d,this]
theorem rValue_yes (f:Int)(hf:y7 f)(x y n:Nat)(hx:x<18446744073709551616)(hy:y<18446744073709551616)(hn:y+18446744073709551616*x=n)(ho:okB f n=true)(fit:Fit f n)(hc:0<kC f n/\kC f n<7)(rb:Bool)(rn rd:Nat)(re:Int)(u v:ByteArray)(hv:vX f n=⟨rb,rn,rd,re⟩)(hu1:yN rn=u)(hu2:yN rd=v)(w:World):Calls Tryz.prog 48 #[.int .u8 f,.agg #[.int .u64 x,.int .u64 y]] w fun r w'=>r=.returned (.tuple #[.agg #[.bool rb,.string u,.string v,.int .i64 re],.int .i64 0])/\Below w.heap.size w w':=by
 obtain⟨s1,s2,s3⟩:=kS_lim hf n;have hm:=vX_mk hf n hc;rw [hv] at hm;have ls:nl (kS f n)<=16384:=nl_pow _ 128 (by rw [show (2:Nat) ^ 128=340282366920938463463374607431768211456 by decide];exact s1) (by decide);have ne:∀ k:Nat,(k=0∨7<=k)->(((kC f n:Nat):Int) == (k:Int))=false:=fun k hk=>by rw [beq_eq_false_iff_ne];omega
 exact rvalue_yes f x y (kC f n) (kS f n) (kF f n) (kX f n) (kN f n) _ rb u v re 0 w (zJ (fun w=>rUnpack_is f hf x y n hx hy hn fit w))
  (zJ (fun w=>rSign_yes f hf x y n _ hx hy hn ho rfl w)) (zJ (fun w=>nat_OfWide _ _ (xX s1) rfl w)) (zJ (fun w=>rmake_ok _ _ 1 _ _ _ rb rn rd re 0 u v rfl nb1 ls nl1 (by decide) (by omega) (by omega) hm hu1 hu2 w)) (ne 8 (by omega)) (ne 9 (by omega)) (ne 0 (by omega)) (ne 7 (by omega))

theorem top_lim {x:XN} (hx:x.can):-1200000<=xN x/\xN x<=1200000:=by
 obtain⟨h1,h2,h3,h4,_⟩:=hx
 unfold nl at h1 h2
 unfold xN qZ
 split <;> omega
theorem xP {P:Program} {k:FuncId} {a:Array Value} {w:World} {v:Value} (h:Calls P k a w fun r w'=>r=.returned v/\w'=w):Calls P k a w fun r w'=>r=.returned v/\Below w.heap.size w w':=
 h.mono fun _ _ h=>⟨h.1,by rw [h.2];exact Below.refl _ _⟩
theorem fC_yes {f:Int} (hf:y7 f):fC f=0:=(yV hf).2.2.1
theorem fC_no {f:Int} (h0:0<=f)(hf:¬ y7 f):fC f=2:=by
 unfold y7 at hf
 unfold fC
 rw [if_neg (by omega)]
theorem rOf_is (f:Int)(hf:y7 f)(b:Bool)(n d:Nat)(s t:ByteArray)(e:Int)(hs:yN n=s)(ht:yN d=t)(hc:(XN.mk b n d e).can)(M:Nat)(is:Bool)(u v:Nat)(hr:ofX f ⟨b,n,d,e⟩=(M,is))(hv:qA M=(u,v))(w:World):Calls Tryz.prog 164 #[.int .u8 f,.agg #[.bool b,.string s,.string t,.int .i64 e]] w fun r w'=>r=.returned (.tuple #[.agg #[.int .u64 u,.int .u64 v],.bool is])/\Below w.heap.size w w':=by
 have f4:=yV hf;obtain⟨n1,n2,n3,n4,n5,n6⟩:=nm8 hf;have fp:fP f=(pV f:Int)+1:=(em_lim hf).2.2.2.2.2.2.2.2.1
 by_cases n0:n=0
 ·
  unfold ofX at hr
  rw [if_pos n0] at hr;injection hr with h1 h2;subst h1 h2;injection hv with h3 h4;subst h3 h4
  have:s=⟨#[]⟩:=by rw [<-hs,n0,yX]
  subst this;exact rof_zero f b t e w
 ·
  have es:=eq_nil n s hs n0;have et:=eq_one d t ht;obtain⟨T,hTop⟩:∃ T,xN (XN.mk b n d e)=T:=⟨_,rfl⟩;obtain⟨t1,t2⟩:=top_lim hc;rw [hTop] at t1 t2;have K1:zZ 95 #[.int .u8 f] (.int .i64 (fP f)):=zJ (fun w=>xP (x8 f _ f4.1 rfl w));have K2:zZ 199 #[.agg #[.bool b,.string s,.string t,.int .i64 e]] (.tuple #[.int .i64 T,.int .i64 0]):=zJ (fun w=>rTop_ok b n d e s t T hs ht n0 hc hTop w);have K3:zZ 149 #[.int .u8 f] (.int .i64 (fE f)):=zJ (fun w=>xP (r_emax f _ f4.1 rfl w));have K4:zW (∀ w,Calls Tryz.prog 150 #[.int .u8 f] w fun r w'=>r=.returned (.int .i64 (1-fE f))/\w'=w):=zJ (fun w=>r_emin f _ _ f4.1 rfl (em_lim hf).2.2.2.2.1 w)
  by_cases d1:d=1
  case neg=>
   rw [of_no (XN.mk b n d e) hc n0 (Or.inr (Or.inl d1))] at hr;injection hr with h1 h2;subst h1 h2;injection hv with h3 h4;subst h3 h4;exact rof_den f b s t e _ T w K1 K2 es (by rw [et];exact decide_eq_false d1)
  rw [decide_eq_true d1] at et
  by_cases hE:fE f<T
  ·
   rw [of_no (XN.mk b n d e) hc n0 (Or.inl (by rw [hTop];exact hE))] at hr;injection hr with h1 h2;subst h1 h2;injection hv with h3 h4;subst h3 h4;exact rof_over f b s t e _ T _ w K1 K2 K3 es et (decide_eq_true hE)
  have dE:decide (fE f<T)=false:=decide_eq_false hE;obtain⟨A,hA⟩:∃ A,ofA f (XN.mk b n d e)=A:=⟨_,rfl⟩;have hA2:=hA
  unfold ofA at hA2
  rw [hTop] at hA2
  obtain⟨A0,hI,hA0⟩:∃ A0,((decide (T<1-fE f)=true/\A0=1-fE f)∨(decide (T<1-fE f)=false/\A0=T))/\A0=max T (1-fE f):=by
   by_cases hI:T<1-fE f
   ·
    exact⟨1-fE f,Or.inl ⟨decide_eq_true hI,rfl⟩,by omega⟩
   ·
    exact⟨T,Or.inr ⟨decide_eq_false hI,rfl⟩,by omega⟩
  have a1:IntKind.i64.wrap (A0-fP f)=A0-fP f:=zR _ (by omega) (by omega);have a2:IntKind.i64.wrap (A0-fP f+1)=A:=by rw [zR _ (by omega) (by omega)];omega
  by_cases hl:e<A
  ·
   rw [of_no (XN.mk b n d e) hc n0 (Or.inr (Or.inr (by rw [hA];exact hl)))] at hr;injection hr with h1 h2;subst h1 h2;injection hv with h3 h4;subst h3 h4;exact rof_low f b s t e _ T _ _ A0 _ A w K1 K2 K3 K4 es et hI dE a1 a2 (decide_eq_true hl)
  have dl:decide (e<A)=false:=decide_eq_false hl;subst d1;obtain⟨m,k,tt,q1,q2,q3,q4,q5⟩:=of_yes hf b n e n0 (by rw [hTop];omega) (by rw [hA];omega);rw [hA] at q1 q5;rw [q4] at hr;injection hr with h1 h2;subst h2
  have lim:m<340282366920938463463374607431768211456:=by
   obtain⟨g1,g2,g3,g4,g5,g6,g7⟩:=fm hf;rw [g1,Nat.add_mul] at g7
   have:=Nat.mul_le_mul_right (2 ^ pV f) g5
   rcases q5 with ⟨_,q,_⟩|⟨_,q,_⟩ <;> omega
  have hfl:=fl_yes (XN.mk b n 1 e) A n0 rfl (show A<=e by omega) (by omega) (by omega) (by
   show nl (n*2 ^ (e-A).toNat)<=16384
   rw [<-q1];exact nl_pow _ 128 (by rw [show (2:Nat) ^ 128=340282366920938463463374607431768211456 by decide];exact lim) (by decide))
  have hfl2:flX (XN.mk b n 1 e) A=((m,true),0):=by rw [hfl,q1]
  obtain⟨z,hz⟩:∃ z,yN m=z:=⟨_,rfl⟩;have K5:zZ 201 #[.agg #[.bool b,.string s,.string t,.int .i64 e],.int .i64 A] (.tuple #[.string z,.bool true,.int .i64 0]):=zJ (fun w=>rFloor_ok b n 1 e s t A m true 0 z hs ht hc (by omega) (by omega) hfl2 hz w)
  have K6:zZ 205 #[.string z] (.tuple #[.agg (cw 6 m),.bool true]):=zJ (fun w=>nat_ToWide m z hz (by
   have:=qT m 16 (by rw [show (2:Nat) ^ (8*16)=340282366920938463463374607431768211456 by decide];exact lim)
   omega) w)
  have K7:zZ 140 #[.agg (cw 6 m)] (.int .i64 ((zV m:Nat):Int)):=zJ (fun w=>rwlen_any m (xX lim) w);have bl:=yM m (pV f)
  rcases q5 with ⟨k0,mt,hAl⟩|⟨k1,mt,hAl⟩
  ·
   have dL:decide (((zV m:Nat):Int)<fP f)=true:=decide_eq_true (by have:=bl.2 (by omega);omega);have KB:zZ 96 #[.int .u8 f,.bool b,.int .i64 0,.agg (cw 6 m)] (.agg #[.int .u64 u,.int .u64 v]):=zJ (fun w=>rk_enc f b 0 m _ u v hf (by omega) (by omega) (by rw [<-k0,mt]) (by rw [h1];exact hv) w);exact rof_sub f b s t e _ T _ _ A0 _ A 0 true z m _ u v w K1 K2 K3 K4 K5 K6 K7 KB es et hI dE a1 a2 dl dL
  ·
   have dL:decide (((zV m:Nat):Int)<fP f)=false:=decide_eq_false (by
    intro h
    have:=bl.1 (by omega)
    omega)
   have KK:zZ 144 #[.int .i64 (pV f:Nat)] (.agg (cw 6 (2 ^ pV f-1))):=zJ (fun w=>rwmask_is _ _ (by rw [cnt_k8 (by omega)]) w);have KA:zZ 143 #[.agg (cw 6 m),.agg (cw 6 (2 ^ pV f-1))] (.agg (cw 6 tt)):=zJ (fun w=>rwand_is m _ _ (xX lim) (by rw [Nat.and_two_pow_sub_one_eq_mod,mt,Nat.add_mod_left,Nat.mod_eq_of_lt q3]) w);have KB:zZ 96 #[.int .u8 f,.bool b,.int .i64 (k:Nat),.agg (cw 6 tt)] (.agg #[.int .u64 u,.int .u64 v]):=zJ (fun w=>rk_enc f b k tt _ u v hf q3 (by omega) rfl (by rw [h1];exact hv) w);have p1:IntKind.i64.wrap (fP f-1)=((pV f:Nat):Int):=by rw [zR _ (by omega) (by omega)];omega
   have p2:IntKind.i64.wrap (A-(1-fE f))=A-(1-fE f):=zR _ (by omega) (by omega);have p3:IntKind.i64.wrap (A-(1-fE f)+fP f)=((k:Nat):Int):=by rw [zR _ (by omega) (by omega)];omega
   exact rof_norm f b s t e _ T _ _ A0 _ A 0 true z m _ u v _ _ _ tt k w K1 K2 K3 K4 K5 K6 K7 KK KA KB es et hI dE a1 a2 dl dL p1 p2 p3
theorem addX_is (X Y Z:XN)(hx:X.can)(hy:Y.can)(hz:Z.can)(bx:Bd X 128 20200)(bz:Bd Y 128 20200)(hv:X.val+Y.val=Z.val):addX X Y=(Z,0):=by
 have h1:=add_ok X Y 128 128 20200 20200 40657 81057 hx hy bx bz rfl rfl (by decide) (by decide);have h2:=add_good X Y hx hy h1.1;have h3:=can_inj _ Z h2.1 hz (by rw [h2.2,hv]);exact Prod.ext h3 h1.1
end Go.Proofs.YtapikkbifdldfaaGreatDoor
