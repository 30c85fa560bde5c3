/-
  What the functions that the statement reaches return: part 5 (Nat6, Nat7, Nat8, List0, List2, List6, Door1, Dmath, List16, Xmath).
-/
import Derived.Test.YtapikkbifdldfaaGreatDoorFd04
namespace Go.Proofs.YtapikkbifdldfaaGreatDoor
set_option maxRecDepth 100000
set_option maxHeartbeats 40000000
open Go.RowKit WMath
def lf (a:Nat)(n:Int):ByteArray×Int:=if n<0 then (⟨#[]⟩,2) else lg (a*2 ^ n.toNat)

theorem blen_pow (a n:Nat)(h:a≠0):zV (a*2 ^ n)=zV a+n:=by
 have h1:=blen_le a h;have h2:=qL a;have h3:=jI a h;have h4:=Nat.mul_le_mul_right (2 ^ n) h1;have h5:=Nat.mul_lt_mul_of_pos_right h2 (Nat.two_pow_pos n);rw [<-Nat.pow_add] at h4 h5
 have:=blen_of (a*2 ^ n) (zV a-1+n) h4 (by rw [show zV a-1+n+1=zV a+n by omega];exact h5)
 omega

theorem left_byte (a i n q r p x z X:Nat)(hq:q=n / 8)(hr:r=n % 8)(hp:p=i+q)(hx:d8 a i*2 ^ r=x)(hz:x % 256=z)(hX:X=(a % 2 ^ (8*i))*2 ^ n) :
  X ||| z*2 ^ (8*p)=X+z*2 ^ (8*p)/\X ||| z*2 ^ (8*p)<2 ^ (8*(p+1))/\X+z*2 ^ (8*p)+2 ^ (8*(p+1))*(x / 256)=(a % 2 ^ (8*(i+1)))*2 ^ n:=by
 have r8:r<8:=by omega
 have e0:8*p+r=8*i+n:=by omega
 have hXl:X<2 ^ (8*p+r):=by
  rw [hX,e0,Nat.pow_add];exact Nat.mul_lt_mul_of_pos_right (Nat.mod_lt _ (Nat.two_pow_pos _)) (Nat.two_pow_pos n)
 have ez:z=(d8 a i % 2 ^ (8-r))*2 ^ r:=by
  rw [<-hz,<-hx,<-Nat.mul_mod_mul_right,<-Nat.pow_add,show 8-r+r=8 by omega]
 have e1:z*2 ^ (8*p)=(d8 a i % 2 ^ (8-r))*2 ^ (8*p+r):=by rw [ez,Nat.mul_assoc,<-Nat.pow_add,Nat.add_comm r]
 have e2:X ||| z*2 ^ (8*p)=X+z*2 ^ (8*p):=by rw [e1];exact (or_disj _ _ _ hXl).symm
 have e3:2 ^ (8*p)*x=2 ^ (8*i)*d8 a i*2 ^ n:=by
  rw [<-hx,Nat.mul_left_comm,<-Nat.pow_add,e0,Nat.pow_add,<-Nat.mul_assoc,Nat.mul_comm (d8 a i)]
 refine ⟨e2,?_,?_⟩
 ·
  refine Nat.or_lt_two_pow (Nat.lt_of_lt_of_le hXl (Nat.pow_le_pow_right (by decide) (by omega))) ?_;rw [pow8,Nat.mul_comm];exact Nat.mul_lt_mul_of_pos_left (by omega) (Nat.two_pow_pos _)
 ·
  have:=carry_step X (2 ^ (8*p)) x
  rw [hz,<-pow8,Nat.mul_comm (2 ^ (8*p)) z] at this;rw [this,e3,hX,qY,Nat.add_mul]

theorem nat_left_in (a n:Nat)(s v:ByteArray)(hs:yN a=s)(h0:a≠0)(ha:nl a<=16384)(hn:zV a+n<=131072)(hv:yN (a*2 ^ n)=v)(w:World) :
  Calls Tryz.prog 170 #[.string s,.int .i64 (n:Nat)] w fun r w'=>r=.returned (.tuple #[.string v,.int .i64 0])/\Below w.heap.size w w':=by
 obtain⟨L,hL⟩:∃ L,nl a=L:=⟨_,rfl⟩;have hz:s.size=L:=by rw [<-hs,yF,hL]
 have la:=qO a;rw [hL] at la;have hp:=jG a h0;have d2:=x5 s;rw [decide_eq_false (by omega)] at d2;obtain⟨q,hq⟩:∃ q,q=n / 8:=⟨_,rfl⟩;obtain⟨r,hr⟩:∃ r,r=n % 8:=⟨_,rfl⟩;obtain⟨N,hN⟩:∃ N,L+q+1=N:=⟨_,rfl⟩;obtain⟨l,hl⟩:∃ l,zV a=l:=⟨_,rfl⟩;have q1:(n:Int) / 8=(q:Int):=by omega
 have r1:(n:Int) % 8=(r:Int):=by omega
 have r8:r<8:=by omega
 have n0:IntKind.i64.wrap ((l:Int)+(n:Int))=(l:Int)+(n:Int):=zR _ (by omega) (by omega);have c1:decide ((131072:Int)<(n:Int))=false:=by rw [decide_eq_false_iff_not];omega
 have c2:decide ((131072:Int)<(l:Int)+(n:Int))=false:=by rw [decide_eq_false_iff_not];omega
 have HL:=zJ hl;have HA:=zJ ha;have HS:=zJ hs;have HV:=zJ hv;have LA:=zJ la;have HQ:=zJ hq;have HR:=zJ hr;have NA:zW (nl a<=100000):=zJ (by omega);have hmk:=c8_makeI N ((L:Int)+(q:Int)+1) (by omega) (by omega);have L2:L<=16384:=by omega
 have q2:q<=20000:=by omega
 have XB:zW (a*2 ^ n<2 ^ (8*N)):=zJ (by
  have h1:2 ^ n<=2 ^ (8*(q+1)):=Nat.pow_le_pow_right (by decide) (by omega);have h2:a*2 ^ n<2 ^ (8*L)*2 ^ n:=Nat.mul_lt_mul_of_pos_right la (Nat.two_pow_pos n);have h3:2 ^ (8*L)*2 ^ n<=2 ^ (8*L)*2 ^ (8*(q+1)):=Nat.mul_le_mul_left _ h1;rw [<-Nat.pow_add 2 (8*L) (8*(q+1)),show 8*L+8*(q+1)=8*N by omega] at h3
  omega)
 clear hs hv hL la h0 ha hl hq hr
 go_enter Tryz.func170,Tryz.ntmps170
 go_wp2_with fail
 refine (qJ a l s HS.out HA.out HL.out _).mono ?_;rintro e w' ⟨rfl,hw'⟩;subst hw';go_wp2
 clear hmk c1 c2 d2
 go_loopw [7] (fun iv wr=>∃ i X:Nat,i<=L/\iv=.int .i64 i/\wr.heap[w'.heap.size]?=some (.cells (c8 N X) 5)/\Below w'.heap.size w' wr/\zW (X=(a % 2 ^ (8*i))*2 ^ n)) (fun iv _=>L-(intOf iv).toNat)
 case atStart=>exact⟨0,0,by omega,rfl,heap_alloc_last _ _,(Below.refl _ _).alloc (Nat.le_refl _) _,zJ (by rw [Nat.mul_zero,Nat.pow_zero,Nat.mod_one,Nat.zero_mul])⟩
 case round=>
  obtain⟨i,X,hi,rfl,r0,hbw,HE⟩:=hrel
  by_cases hlt:i<L
  ·
   obtain⟨d,hd⟩:∃ d,d8 a i=d:=⟨_,rfl⟩;have d256:d<256:=by rw [<-hd];exact x6 _ _
   obtain⟨x,hx⟩:∃ x,d*2 ^ r=x:=⟨_,rfl⟩
   have x16:x<32768:=by
    rw [<-hx];have h1:2 ^ r<=2 ^ 7:=Nat.pow_le_pow_right (by decide) (by omega);have h2:d*2 ^ r<=255*2 ^ 7:=Nat.mul_le_mul (by omega) h1;omega
   obtain⟨p,hp2⟩:∃ p,p=i+q:=⟨_,rfl⟩;obtain⟨z,hz2⟩:∃ z,x % 256=z:=⟨_,rfl⟩;obtain⟨g,hg⟩:∃ g,x / 256=g:=⟨_,rfl⟩;have z256:z<256:=by omega
   have g256:g<256:=by omega
   obtain⟨f1,f2,f3⟩:=left_byte a i n q r p x z X HQ.out HR.out hp2 (by rw [hd];exact hx) hz2 HE.out;rw [hg] at f3;have pi:(i:Int)+(q:Int)=(p:Int):=by omega
   have pN:p<N:=by omega
   have pN1:p+1<N:=by omega
   have n1:(d:Int)*2 ^ r=(x:Int):=by rw [pow_cast,<-Int.natCast_mul,hx]
   have n2:IntKind.i64.wrap (x:Int)=(x:Int):=zR _ (by omega) (by omega);have n6:=xL x z hz2;have n7:(x:Int) / 256=(g:Int):=by omega
   have n8:IntKind.u8.wrap (g:Int)=(g:Int):=xL g g (by omega);obtain⟨Y,hY⟩:∃ Y,X ||| z*2 ^ (8*p)=Y:=⟨_,rfl⟩
   have o8:bits .or .u8 (d8 X p:Nat) (z:Nat)=((d8 X p ||| z:Nat):Int):=by
    show IntKind.u8.wrap ((BitVec.ofInt 8 (d8 X p:Int) ||| BitVec.ofInt 8 (z:Int)).toNat:Int)=_
    have h1:(BitVec.ofInt 8 (d8 X p:Int)).toNat=d8 X p:=by have:=x6 X p;simp;omega
    have h2:(BitVec.ofInt 8 (z:Int)).toNat=z:=by simp;omega
    rw [BitVec.toNat_or,h1,h2];exact xL _ _ (Nat.mod_eq_of_lt (or_lt8 _ _ (x6 X p) z256))
   have k1:=qF r0 pN;have k2:=fz (k:=p) r0;obtain⟨W1,hW1⟩:∃ W1,wr.setCell ⟨w'.heap.size,p,none⟩ (.int .u8 ((d8 X p ||| z:Nat):Int))=W1:=⟨_,rfl⟩;have r1':W1.heap[w'.heap.size]?=some (.cells (c8 N Y) 5):=by rw [<-hW1,zY r0,c8_or N X p z Y pN z256 hY.symm]
   have b1:Below w'.heap.size w' W1:=by rw [<-hW1];exact hbw.setCell (Nat.le_refl _) _
   have k3:=qF r1' pN1;have k4:=fz (k:=p+1) r1';have RS:zW ((W1.setCell ⟨w'.heap.size,p+1,none⟩ (.int .u8 (g:Int))).heap[w'.heap.size]?=some (.cells (c8 N (X+z*2 ^ (8*p)+2 ^ (8*(p+1))*g)) 5)):=zJ (by rw [zY r1',c8_push N Y (p+1) g _ pN1 (by rw [<-hY];exact f2) g256 rfl,<-hY,f1]);have NX:=zJ f3;have HD:=zJ hd;have dl:decide (i<L)=true:=decide_eq_true hlt;clear hd hx hp2 hz2 hg f1 f2 f3 hY;go_wp2_with fail
   refine (qX a i d s HS.out HD.out NA.out _).mono ?_;rintro e w2 ⟨rfl,rfl⟩;go_wp2
   go_roundw
   case rel=>exact⟨i+1,_,by omega,by go_num,RS.out,b1.setCell (Nat.le_refl _) _,NX⟩
   case measure=>simp [intOf] <;> omega
  ·
   obtain rfl:i=L:=by omega
   have dl:decide (i<i)=false:=by rw [decide_eq_false_iff_not];omega
   have e2:=HE.out;rw [Nat.mod_eq_of_lt LA.out] at e2;subst e2;clear HE;go_wp2_with fail
   refine (nat_fit N (a*2 ^ n) w'.heap.size N v (by omega) XB.out HV.out _ r0).mono ?_;rintro e w2 ⟨rfl,hb2⟩;go_wp2
   go_ret2
   exact⟨rfl,hbw.trans (hb2.mono hbw.size)⟩

theorem lf_neg (a:Nat)(n:Int)(h:n<0):lf a n=(⟨#[]⟩,2):=by unfold lf;rw [if_pos h]
theorem lf_long (a:Nat)(n:Int)(h:0<=n)(h0:a≠0)(hl:131072<(zV a:Int)+n):lf a n=(⟨#[]⟩,4):=by
 unfold lf lg
 have e:zV (a*2 ^ n.toNat)=zV a+n.toNat:=blen_pow a _ h0;rw [if_neg (by omega),if_neg]
 unfold nl
 omega
theorem lf_in (a n:Nat)(h0:a≠0)(hl:zV a+n<=131072):lf a (n:Int)=(yN (a*2 ^ n),0):=by
 unfold lf lg
 rw [if_neg (by omega),Int.toNat_natCast,if_pos];have e:zV (a*2 ^ n)=zV a+n:=blen_pow a _ h0
 unfold nl
 omega
theorem lf_zero (n:Int)(h:0<=n):lf 0 n=(⟨#[]⟩,0):=by
 unfold lf lg
 rw [if_neg (by omega),Nat.zero_mul,qI,if_pos (by omega),yX]

theorem xO (a:Nat)(n:Int)(s v:ByteArray)(e:Int)(hs:yN a=s)(ha:nl a<=16384)(hn:n<=9223372036854775807)(hr:lf a n=(v,e))(w:World) :
  Calls Tryz.prog 170 #[.string s,.int .i64 n] w fun r w'=>r=.returned (.tuple #[.string v,.int .i64 e])/\Below w.heap.size w w':=by
 have hz:s.size=nl a:=by rw [<-hs,yF]
 have d2:=x5 s
 by_cases h1:n<0
 ·
  rw [lf_neg a n h1] at hr;injection hr with e1 e2;subst e1 e2;have c0:decide (n<0)=true:=decide_eq_true h1;clear h1 hs
  go_enter Tryz.func170,Tryz.ntmps170
  go_wp2
  go_ret2
  exact⟨rfl,Below.refl _ _⟩
 ·
  have c0:decide (n<0)=false:=decide_eq_false h1
  by_cases h0:a=0
  ·
   subst h0;rw [lf_zero n (by omega)] at hr;injection hr with e1 e2;subst e1 e2;rw [decide_eq_true (by rw [hz,qI])] at d2;clear h1 hs hz
   go_enter Tryz.func170,Tryz.ntmps170
   go_wp2
   go_ret2
   exact⟨rfl,Below.refl _ _⟩
  ·
   have hp:=jG a h0
   by_cases hl:131072<(zV a:Int)+n
   ·
    rw [lf_long a n (by omega) h0 hl] at hr;injection hr with e1 e2;subst e1 e2;rw [decide_eq_false (by omega)] at d2;obtain⟨l,hl2⟩:∃ l,zV a=l:=⟨_,rfl⟩;rw [hl2] at hl;have HL:=zJ hl2;have HS:=zJ hs;have HA:=zJ ha
    by_cases hb:131072<n
    ·
     have c1:decide (131072<n)=true:=decide_eq_true hb;clear h1 hs hz hl hl2 h0 ha hp
     go_enter Tryz.func170,Tryz.ntmps170
     go_wp2
     go_ret2
     exact⟨rfl,Below.refl _ _⟩
    ·
     have c1:decide (131072<n)=false:=decide_eq_false hb
     have lb:l<=131072:=by
      have:=ha
      unfold nl at this
      omega
     have n0:IntKind.i64.wrap ((l:Int)+n)=(l:Int)+n:=zR _ (by omega) (by omega);have c2:decide (131072<(l:Int)+n)=true:=decide_eq_true hl;clear h1 hs hz hl hl2 h0 ha hp
     go_enter Tryz.func170,Tryz.ntmps170
     go_wp2_with fail
     refine (qJ a l s HS.out HA.out HL.out _).mono ?_;rintro e w' ⟨rfl,rfl⟩;go_wp2
     go_ret2
     exact⟨rfl,Below.refl _ _⟩
   ·
    obtain⟨m,rfl⟩:∃ m:Nat,n=(m:Int):=⟨n.toNat,by omega⟩;rw [lf_in a m h0 (by omega)] at hr;injection hr with e1 e2;subst e2;exact nat_left_in a m s v hs h0 ha (by omega) e1 w

theorem lost_low (a n t:Nat)(h:LowB a t):(a % 2 ^ n≠0)↔t<n:=by
 constructor
 ·
  intro h1
  rcases Nat.lt_or_ge t n with h2|h2
  ·
   exact h2
  ·
   exfalso
   apply h1
   obtain⟨d,hd⟩:=Nat.dvd_of_mod_eq_zero h.1
   apply Nat.mod_eq_zero_of_dvd
   refine Nat.dvd_trans (Nat.pow_dvd_pow 2 h2) ?_;exact⟨d,hd⟩
 ·
  intro h1 h2;have h3:=Nat.testBit_mod_two_pow a n t;rw [h2,h.2,decide_eq_true h1,Nat.zero_testBit] at h3
  cases h3

theorem right_byte (a i n q r p x y t z:Nat)(hq:q=n / 8)(hr:r=n % 8)(hp:p=i+q)(hx:d8 a p=x)(hy:d8 a (p+1)=y)(ht:x+256*y=t)(hz:t / 2 ^ r % 256=z):d8 (a / 2 ^ n) i=z:=by
 have e1:t=a / 2 ^ (8*p) % 2 ^ 16:=by
  rw [<-ht,<-hx,<-hy]
  unfold d8
  rw [pow8,<-Nat.div_div_eq_div_mul];omega
 have e2:a / 2 ^ n / 2 ^ (8*i)=a / 2 ^ (8*p) / 2 ^ r:=by
  rw [Nat.div_div_eq_div_mul,<-Nat.pow_add,Nat.div_div_eq_div_mul,<-Nat.pow_add]
  congr 2
  omega
 unfold d8
 rw [e2,<-hz,e1];generalize a / 2 ^ (8*p)=A;rw [two8];have e3:A % 2 ^ 16=A % 2 ^ (r+(16-r)):=by congr 2;omega
 rw [e3,Nat.pow_add,Nat.mod_mul_right_div_self,Nat.mod_mod_of_dvd];exact Nat.pow_dvd_pow 2 (by omega)

theorem xS (a:Nat)(n:Int)(s v:ByteArray)(o:Bool)(hs:yN a=s)(ha:nl a<=16384)(h0:0<=n)(hn:n<=9223372036854775807)(hv:yN (a / 2 ^ n.toNat)=v)(ho:decide (a % 2 ^ n.toNat≠0)=o)(w:World) :
  Calls Tryz.prog 153 #[.string s,.int .i64 n] w fun r w'=>r=.returned (.tuple #[.string v,.bool o,.int .i64 0])/\Below w.heap.size w w':=by
 obtain⟨n,rfl⟩:∃ m:Nat,n=(m:Int):=⟨n.toNat,by omega⟩;rw [Int.toNat_natCast] at hv ho;have c0:decide ((n:Int)<0)=false:=by rw [decide_eq_false_iff_not];omega
 obtain⟨L,hL⟩:∃ L,nl a=L:=⟨_,rfl⟩;have hz:s.size=L:=by rw [<-hs,yF,hL]
 have d2:=x5 s
 by_cases ha0:a=0
 ·
  subst ha0;rw [Nat.zero_div,yX] at hv;rw [Nat.zero_mod] at ho;subst hv ho;rw [decide_eq_true (by rw [hz,<-hL,qI])] at d2;clear hs hz hL
  go_enter Tryz.func153,Tryz.ntmps153
  go_wp2
  exact bodyPost_ret (v:=.tuple #[.string ⟨#[]⟩,.bool false,.int .i64 0]) (by simp [results,Tryz.results153,go_sem]) rfl ⟨rfl,Below.refl _ _⟩
 ·
  have hp:=jG a ha0;have la:=qO a;rw [hL] at hp la ha;rw [decide_eq_false (by omega)] at d2;obtain⟨t,ht⟩:=lowB_any a ha0;have hlo:=lost_low a n t ht;have hLN:LowN a t:=Or.inr ⟨ha0,ht⟩;have e1:decide (t<n)=o:=by rw [<-ho];exact decide_eq_decide.2 hlo.symm
  have HS:=zJ hs;have HA:zW (nl a<=16384):=zJ (by omega);have HN:=zJ hLN;have NA:zW (nl a<=100000):=zJ (by omega);have n0:IntKind.i64.wrap (8*(L:Int))=8*(L:Int):=zR _ (by omega) (by omega);have LA:=zJ la
  by_cases hb:8*L<=n
  ·
   have c1:decide (8*(L:Int)<=(n:Int))=true:=by rw [decide_eq_true_iff];omega
   have ev:v=⟨#[]⟩:=by
    rw [<-hv,Nat.div_eq_of_lt (Nat.lt_of_lt_of_le la (Nat.pow_le_pow_right (by decide) hb)),yX]
   subst ev;clear hs hL hv ho ht hlo hLN hb la ha0
   go_enter Tryz.func153,Tryz.ntmps153
   go_wp2_with fail
   refine (qE a t s HS.out HA.out HN.out _).mono ?_;rintro e w' ⟨rfl,rfl⟩;go_wp2
   exact bodyPost_ret (v:=.tuple #[.string ⟨#[]⟩,.bool o,.int .i64 0]) (by simp [results,Tryz.results153,go_sem]) rfl ⟨rfl,Below.refl _ _⟩
  ·
   have c1:decide (8*(L:Int)<=(n:Int))=false:=by rw [decide_eq_false_iff_not];omega
   obtain⟨q,hq⟩:∃ q,q=n / 8:=⟨_,rfl⟩;obtain⟨r,hr⟩:∃ r,r=n % 8:=⟨_,rfl⟩;obtain⟨m,hm⟩:∃ m,L-q=m:=⟨_,rfl⟩;obtain⟨b,hb2⟩:∃ b,a / 2 ^ n=b:=⟨_,rfl⟩;have q1:(n:Int) / 8=(q:Int):=by omega
   have r1:(n:Int) % 8=(r:Int):=by omega
   have r8:r<8:=by omega
   have m1:(L:Int)-(q:Int)=(m:Int):=by omega
   have bm:b<2 ^ (8*m):=by
    rw [<-hb2,Nat.div_lt_iff_lt_mul (Nat.two_pow_pos _),<-Nat.pow_add];exact Nat.lt_of_lt_of_le la (Nat.pow_le_pow_right (by decide) (by omega))
   have HB:=zJ hb2;have BM:=zJ bm;have HQ:=zJ hq;have HR:=zJ hr;rw [hb2] at hv;have HV:=zJ hv;have hmk:=c8_make m (by omega);have m2:m<=16384:=by omega
   have q2:q<=16384:=by omega
   have qm:q+m=L:=by omega
   have L2:L<=16384:=by omega
   clear hs hL hv ho ht hlo hLN hb la ha0 hq hr hm hb2 bm
   go_enter Tryz.func153,Tryz.ntmps153
   go_wp2_with fail
   refine (qE a t s HS.out HA.out HN.out _).mono ?_;rintro e w' ⟨rfl,hw'⟩;subst hw';go_wp2
   clear hmk c0 c1 d2 e1
   go_loopw [10] (fun iv wr=>∃ i:Nat,i<=m/\iv=.int .i64 i/\wr.heap[w'.heap.size]?=some (.cells (c8 m (b % 2 ^ (8*i))) 5)/\Below w'.heap.size w' wr) (fun iv _=>m-(intOf iv).toNat)
   case atStart=>exact⟨0,by omega,rfl,by rw [Nat.mul_zero,Nat.pow_zero,Nat.mod_one];exact heap_alloc_last _ _,(Below.refl _ _).alloc (Nat.le_refl _) _⟩
   case round=>
    obtain⟨i,hi,rfl,r0,hbw⟩:=hrel
    by_cases hlt:i<m
    ·
     obtain⟨p,hp2⟩:∃ p,p=i+q:=⟨_,rfl⟩;obtain⟨p1,hp1⟩:∃ p1,p1=p+1:=⟨_,rfl⟩;obtain⟨x,hx⟩:∃ x,d8 a p=x:=⟨_,rfl⟩;obtain⟨y,hy⟩:∃ y,d8 a p1=y:=⟨_,rfl⟩;have x256:x<256:=by rw [<-hx];exact x6 _ _
     have y256:y<256:=by rw [<-hy];exact x6 _ _
     obtain⟨u,hu⟩:∃ u,x+256*y=u:=⟨_,rfl⟩;obtain⟨z,hz2⟩:∃ z,u / 2 ^ r % 256=z:=⟨_,rfl⟩;have z256:z<256:=by rw [<-hz2];exact Nat.mod_lt _ (by decide)
     have e1:=right_byte a i n q r p x y u z HQ.out HR.out hp2 hx (by rw [<-hp1];exact hy) hu hz2;rw [HB.out] at e1;have pi:(i:Int)+(q:Int)=(p:Int):=by omega
     have pi1:(p:Int)+1=(p1:Int):=by omega
     obtain⟨Y,hY⟩:∃ Y,256*y=Y:=⟨_,rfl⟩;have n3:(y:Int)*256=(Y:Int):=by omega
     have n4:IntKind.i64.wrap (Y:Int)=(Y:Int):=zR _ (by omega) (by omega)
     have n5:bits .or .i64 (x:Int) (Y:Int)=(u:Int):=by
      show IntKind.i64.wrap ((BitVec.ofInt 64 (x:Int) ||| BitVec.ofInt 64 (Y:Int)).toNat:Int)=_
      have h1:(BitVec.ofInt 64 (x:Int)).toNat=x:=by simp;omega
      have h2:(BitVec.ofInt 64 (Y:Int)).toNat=Y:=by simp;omega
      have h3:x ||| Y=x+Y:=by
       have:=or_disj x y 8 (by rw [<-two8];exact x256)
       rw [<-two8,Nat.mul_comm y,hY] at this;exact this.symm
      rw [BitVec.toNat_or,h1,h2,h3,show x+Y=u by omega,zR _ (by omega) (by omega)]
     have n6:IntKind.u8.wrap ((u:Int) / 2 ^ r)=(z:Int):=by
      rw [div_cast];exact xL _ z hz2
     have k1:=qF r0 hlt;have k2:=fz (k:=i) r0;have RS:zW ((wr.setCell ⟨w'.heap.size,i,none⟩ (.int .u8 (z:Int))).heap[w'.heap.size]?=some (.cells (c8 m (b % 2 ^ (8*(i+1)))) 5)):=zJ (by rw [zY r0,c8_push m _ i z _ hlt (Nat.mod_lt _ (Nat.two_pow_pos _)) z256 rfl,qY,e1]);have HX:=zJ hx;have HY:=zJ hy;have dl:decide (i<m)=true:=decide_eq_true hlt;clear hp2 hp1 hx hy hu hz2 e1 hY;go_wp2_with fail
     refine (qX a p x s HS.out HX.out NA.out _).mono ?_;rintro e w2 ⟨rfl,rfl⟩;go_wp2_with fail
     refine (qX a p1 y s HS.out HY.out NA.out _).mono ?_;rintro e w2 ⟨rfl,rfl⟩;go_wp2
     go_roundw
     case rel=>exact⟨i+1,by omega,by go_num,RS.out,hbw.setCell (Nat.le_refl _) _⟩
     case measure=>simp [intOf] <;> omega
    ·
     obtain rfl:i=m:=by omega
     have dl:decide (i<i)=false:=by rw [decide_eq_false_iff_not];omega
     rw [Nat.mod_eq_of_lt BM.out] at r0;go_wp2_with fail
     refine (nat_fit i b w'.heap.size i v (by omega) BM.out HV.out _ r0).mono ?_;rintro e w2 ⟨rfl,hb2⟩;go_wp2
     exact bodyPost_ret (v:=.tuple #[.string v,.bool o,.int .i64 0]) (by simp [results,Tryz.results153,go_sem]) rfl ⟨rfl,hbw.trans (hb2.mono hbw.size)⟩

def NdivSt (a b k q r:Nat):Prop:=a / 2 ^ k=b*(q / 2 ^ k)+r/\r<b/\q % 2 ^ k=0
theorem ndiv_start (a b k r:Nat)(hr:a / 2 ^ k=r)(h:r<b):NdivSt a b k 0 r:=⟨by rw [Nat.zero_div,Nat.mul_zero,Nat.zero_add];exact hr,h,Nat.zero_mod _⟩
theorem ndiv_step (a b k q r x:Nat)(S:NdivSt a b (k+1) q r)(hx:2*r+(a.testBit k).toNat=x) :
  (x<b->NdivSt a b k q x)/\(b<=x->NdivSt a b k (q ||| 2 ^ k) (x-b)):=by
 obtain⟨h1,h2,h3⟩:=S;have hb:=bit_nat a k;rw [h1] at hb;have ht:(a.testBit k).toNat<=1:=by cases a.testBit k <;> decide
 have hd:2 ^ (k+1)∣q:=Nat.dvd_of_mod_eq_zero h3
 have e0:q / 2 ^ k=2*(q / 2 ^ (k+1)):=by
  obtain⟨c,rfl⟩:=hd;rw [Nat.mul_div_cancel_left _ (Nat.two_pow_pos _),Nat.pow_succ,Nat.mul_assoc,Nat.mul_div_cancel_left _ (Nat.two_pow_pos _)]
 have h4:q % 2 ^ k=0:=Nat.mod_eq_zero_of_dvd (Nat.dvd_trans (Nat.pow_dvd_pow 2 (by omega)) hd)
 have e1:2*(b*(q / 2 ^ (k+1))+r)+(a.testBit k).toNat=b*(2*(q / 2 ^ (k+1)))+x:=by
  rw [<-hx,Nat.mul_add,Nat.mul_left_comm];omega
 refine ⟨fun h=>⟨?_,h,h4⟩,fun h=>⟨?_,by omega,?_⟩⟩
 ·
  rw [hb,e1,e0]
 ·
  rw [qor_pow q k hd,Nat.add_div_right _ (Nat.two_pow_pos k),e0,hb,e1,Nat.mul_succ];omega
 ·
  rw [qor_pow q k hd,Nat.add_mod_right];exact h4
theorem ndiv_end (a b q r:Nat)(S:NdivSt a b 0 q r):q=a / b/\r=a % b:=by
 obtain⟨h1,h2,_⟩:=S;rw [Nat.pow_zero,Nat.div_one,Nat.div_one] at h1;have hb:0<b:=by omega
 constructor
 ·
  rw [h1,Nat.mul_add_div hb,Nat.div_eq_of_lt h2,Nat.add_zero]
 ·
  rw [h1,Nat.mul_add_mod,Nat.mod_eq_of_lt h2]

theorem nl_twice (b x:Nat)(h:x<2*b):nl x<=nl b+1:=qT x _ (by
 have:=qO b
 rw [pow8]
 omega)
theorem one_bit8 (k q r:Nat)(hq:q=k / 8)(hr:r=k % 8):2 ^ r*2 ^ (8*q)=2 ^ k:=by
 rw [<-Nat.pow_add];congr 1;omega

theorem nat_div_big (a b:Nat)(s t qv rv:ByteArray)(hs:yN a=s)(ht:yN b=t)(ha:nl a<=16384)(hb0:b≠0)(hba:b<=a)(hq:yN (a / b)=qv)(hr:yN (a % b)=rv)(w:World) :
  Calls Tryz.prog 155 #[.string s,.string t] w fun r w'=>r=.returned (.tuple #[.string qv,.string rv,.int .i64 0])/\Below w.heap.size w w':=by
 obtain⟨L,hL⟩:∃ L,nl a=L:=⟨_,rfl⟩;have hz:s.size=L:=by rw [<-hs,yF,hL]
 have hbl:=xQ b a hba;have e2:=x5 t;have hty:t.size=nl b:=by rw [<-ht,yF]
 have hbp:=jG b hb0;rw [decide_eq_false (by omega)] at e2;obtain⟨c,hc⟩:∃ c,q8 a b=c:=⟨_,rfl⟩
 have dc:decide (c<0)=false:=by
  rw [<-hc];unfold q8
  by_cases e:a=b
  ·
   rw [if_pos e];rfl
  ·
   rw [if_neg e,if_neg (by omega)];rfl
 obtain⟨n,hn⟩:∃ n,zV a=n:=⟨_,rfl⟩;obtain⟨m,hm⟩:∃ m,zV b=m:=⟨_,rfl⟩;have mp:0<m:=by rw [<-hm];exact jI b hb0
 have nm:m<=n:=by
  rw [<-hm,<-hn];exact y9 b _ (Nat.lt_of_le_of_lt hba (qL a))
 have n8:n<=8*L:=by rw [<-hn,<-hL];unfold nl;omega
 obtain⟨K,hK⟩:∃ K:Nat,n-(m-1)=K:=⟨_,rfl⟩;obtain⟨r0,hr0⟩:∃ r0,a / 2 ^ K=r0:=⟨_,rfl⟩
 have r0b:r0<b:=by
  have h1:=qL a;have h2:=blen_le b hb0;rw [hn] at h1;rw [hm] at h2
  have h3:r0<2 ^ (m-1):=by
   rw [<-hr0,Nat.div_lt_iff_lt_mul (Nat.two_pow_pos _),<-Nat.pow_add,show m-1+K=n by omega];exact h1
  omega
 obtain⟨R0,hR0⟩:∃ R0,yN (a / 2 ^ ((K:Int).toNat))=R0:=⟨_,rfl⟩;obtain⟨o,ho⟩:∃ o,decide (a % 2 ^ ((K:Int).toNat)≠0)=o:=⟨_,rfl⟩;have ST0:zW (NdivSt a b K 0 r0):=zJ (ndiv_start a b K r0 hr0 r0b);have HR0:zW (yN r0=R0):=zJ (by rw [<-hR0,Int.toNat_natCast,hr0]);have HR1:=zJ hR0;have HO:=zJ ho;have HC:=zJ hc;have HN:=zJ hn;have HM:=zJ hm;have HS:=zJ hs;have HT:=zJ ht;have HQ:=zJ hq;have HR:=zJ hr;have HA:=zJ ha;have HB:zW (nl b<=16384):=zJ (by omega);have NA:zW (nl a<=100000):=zJ (by omega);obtain⟨N,hN⟩:∃ N,L+1=N:=⟨_,rfl⟩;have L2:L<=16384:=by omega
 have hmk:=c8_makeI N ((L:Int)+1) (by omega) (by omega);have w1:IntKind.i64.wrap ((m:Int)-1)=(m:Int)-1:=zR _ (by omega) (by omega);have w2:IntKind.i64.wrap ((n:Int)-((m:Int)-1))=(K:Int):=by rw [zR _ (by omega) (by omega)];omega
 have KI:zW ((K:Int)<=9223372036854775807):=zJ (by omega);have K8:K<=8*L:=by omega
 have QB:zW (a / b<2 ^ (8*N)):=zJ (Nat.lt_of_le_of_lt (Nat.div_le_self _ _) (Nat.lt_of_lt_of_le (qO a) (pow8_le _ _ (by omega))));clear hs ht hq hr hL hn hm hc hr0 hR0 ho hba hbl hb0 hty ha hK mp nm n8 hbp r0b
 go_enter Tryz.func155,Tryz.ntmps155
 go_wp2_with fail
 refine (qV a b s t c HS.out HT.out HC.out _).mono ?_;rintro e w' ⟨rfl,hw'⟩;subst hw';go_wp2_with fail
 refine (qJ a n s HS.out HA.out HN.out _).mono ?_;rintro e w3 ⟨rfl,Ac⟩;subst Ac;go_wp2_with fail
 refine (qJ b m t HT.out HB.out HM.out _).mono ?_;rintro e w4 ⟨rfl,Ad⟩;subst Ad;go_wp2_with fail
 refine (xS a (K:Int) s R0 o HS.out HA.out (by omega) KI.out HR1.out HO.out _).mono ?_;rintro e w5 ⟨rfl,hb5⟩;go_wp2
 clear hmk w1 w2 dc e2 HR1 HO HC HN HM KI;obtain⟨g,hg⟩:∃ g,w5.heap.size=g:=⟨_,rfl⟩;have g5:w4.heap.size<=g:=by rw [<-hg];exact hb5.size
 have B5:Below w4.heap.size w4 (w5.alloc (.cells (c8 N 0) 5)):=hb5.alloc hb5.size _;have r5:(w5.alloc (.cells (c8 N 0) 5)).heap[g]?=some (.cells (c8 N 0) 5):=by rw [<-hg];exact heap_alloc_last _ _
 rw [hg]
 go_loopw [9,13] (fun rv iv wr=>∃ (k q r:Nat) (R:ByteArray),iv=.int .i64 ((k:Int)-1)/\rv=.string R/\k<=K/\wr.heap[g]?=some (.cells (c8 N q) 5)/\Below w4.heap.size w4 wr/\zW (yN r=R)/\zW (NdivSt a b k q r)) (fun _ iv _=>(intOf iv+1).toNat)
 case atStart=>exact⟨K,0,r0,R0,by first|rfl|go_num,rfl,by omega,r5,B5,HR0,ST0⟩
 case round=>
  clear r5 B5 HR0 ST0 hb5;obtain⟨k,q,r,R,rfl,rfl,hk,row,hbw,HRR,HST⟩:=hrel
  by_cases hk0:k=0
  ·
   subst hk0;obtain⟨e1,e3⟩:=ndiv_end a b q r HST.out;rw [e1] at row;have eR:R=rv:=by rw [<-HRR.out,<-HR.out,e3]
   subst eR;clear e1 e3 HST;go_wp2_with fail
   refine (nat_fit N (a / b) g N qv (by omega) QB.out HQ.out _ row).mono ?_;rintro e w6 ⟨rfl,hb6⟩;go_wp2
   exact bodyPost_ret (v:=.tuple #[.string qv,.string R,.int .i64 0]) (by simp [results,Tryz.results155,go_sem]) rfl ⟨rfl,hbw.trans (hb6.mono hbw.size)⟩
  ·
   obtain⟨j,rfl⟩:∃ j,k=j+1:=⟨k-1,by omega⟩;have ej:(((j+1:Nat):Int)-1)=(j:Int):=by omega
   rw [ej];obtain⟨o1,ho1⟩:∃ o1,(a.testBit j).toNat=o1:=⟨_,rfl⟩;have o2:o1<2:=by rw [<-ho1];cases a.testBit j <;> decide
   obtain⟨x,hx⟩:∃ x,2*r+o1=x:=⟨_,rfl⟩;have ST:=zJ (ndiv_step a b j q r x HST.out (by rw [ho1];exact hx));have rb:=HST.out.2.1;have xb:x<2*b:=by omega
   have HRB:zW (nl r<=20000):=zJ (by have:=xQ r b (by omega);have:=HB.out;omega);have HXB:zW (nl x<=20000):=zJ (by have:=nl_twice b x xb;have:=HB.out;omega);obtain⟨X,hX⟩:∃ X,yN x=X:=⟨_,rfl⟩;have HX:=zJ hX;have HX2:zW (yN (2*r+o1)=X):=zJ (by rw [hx];exact hX);obtain⟨c,hc⟩:∃ c,q8 x b=c:=⟨_,rfl⟩;have HC:=zJ hc;have HO1:=zJ ho1;have jb:j<=10000000:=by omega
   by_cases hlt:x<b
   ·
    have dc:decide (0<=c)=false:=by rw [<-hc];unfold q8;rw [if_neg (by omega),if_pos hlt];rfl
    have NS:=zJ (ST.out.1 hlt);clear hx hX hc ho1 rb xb hlt hg;go_wp2_with fail
    refine (nat_bit a j s o1 HS.out HO1.out NA.out jb _).mono ?_;rintro e w6 ⟨rfl,Aa⟩;subst Aa;go_wp2_with fail
    refine (nat_double r o1 R X HRR.out o2 HX2.out HRB.out _).mono ?_;rintro e w7 ⟨rfl,hb7⟩;have row7:=zA hb7 _ _ _ row;have B7:Below w4.heap.size w4 w7:=hbw.trans (hb7.mono hbw.size);clear hb7 row hbw;go_wp2_with fail
    refine (qV x b X t c HX.out HT.out HC.out _).mono ?_;rintro e w8 ⟨rfl,Ab⟩;subst Ab;go_wp2
    go_roundw
    case rel=>exact⟨j,q,x,X,by first|rfl|go_num,rfl,by omega,row7,B7,HX,NS⟩
    case measure=>simp [intOf] <;> omega
   ·
    have dc:decide (0<=c)=true:=by
     rw [<-hc];unfold q8
     by_cases e:x=b
     ·
      rw [if_pos e];rfl
     ·
      rw [if_neg e,if_neg hlt];rfl
    have NS0:=ST.out.2 (by omega);obtain⟨y,hy⟩:∃ y,x-b=y:=⟨_,rfl⟩;obtain⟨Y,hY⟩:∃ Y,yN (x-b)=Y:=⟨_,rfl⟩;have HY:=zJ hY;have HY2:zW (yN y=Y):=zJ (by rw [<-hy];exact hY);rw [hy] at NS0;have HBX:zW (b<=x):=zJ (by omega);obtain⟨qi,hqi⟩:∃ qi,qi=j / 8:=⟨_,rfl⟩;obtain⟨ri,hri⟩:∃ ri,ri=j % 8:=⟨_,rfl⟩;have q1:(j:Int) / 8=(qi:Int):=by omega
    have r1:(j:Int) % 8=(ri:Int):=by omega
    have r8:ri<8:=by omega
    obtain⟨v,hv⟩:∃ v,v=2 ^ ri:=⟨_,rfl⟩
    have v256:v<256:=by
     rw [hv,two8];exact Nat.pow_lt_pow_right (by decide) r8
    have hv2:IntKind.u8.wrap ((2:Int) ^ ri)=(v:Int):=by rw [pow_cast,<-hv];exact xL v v (Nat.mod_eq_of_lt v256)
    have hv3:IntKind.u8.wrap (1*(2:Int) ^ ri)=(v:Int):=by rw [Int.one_mul];exact hv2
    obtain⟨Z,hZ⟩:∃ Z,q ||| 2 ^ j=Z:=⟨_,rfl⟩;rw [hZ] at NS0;have NS:=zJ NS0;have hZ2:Z=q ||| v*2 ^ (8*qi):=by rw [hv,one_bit8 j qi ri hqi hri,hZ]
    have qN:qi<N:=by omega
    have o8:bits .or .u8 (d8 q qi:Nat) (v:Nat)=((d8 q qi ||| v:Nat):Int):=by
     show IntKind.u8.wrap ((BitVec.ofInt 8 (d8 q qi:Int) ||| BitVec.ofInt 8 (v:Int)).toNat:Int)=_
     have h1:(BitVec.ofInt 8 (d8 q qi:Int)).toNat=d8 q qi:=by have:=x6 q qi;simp;omega
     have h2:(BitVec.ofInt 8 (v:Int)).toNat=v:=by simp;omega
     rw [BitVec.toNat_or,h1,h2];exact xL _ _ (Nat.mod_eq_of_lt (or_lt8 _ _ (x6 q qi) v256))
    have HZ:=zJ (c8_or N q qi v Z qN v256 hZ2);clear hx hX hc ho1 rb xb hlt hg hy hY hqi hri hv hZ hZ2 NS0;go_wp2_with fail
    refine (nat_bit a j s o1 HS.out HO1.out NA.out jb _).mono ?_;rintro e w6 ⟨rfl,Aa⟩;subst Aa;go_wp2_with fail
    refine (nat_double r o1 R X HRR.out o2 HX2.out HRB.out _).mono ?_;rintro e w7 ⟨rfl,hb7⟩;have row7:=zA hb7 _ _ _ row;have B7:Below w4.heap.size w4 w7:=hbw.trans (hb7.mono hbw.size);clear hb7 row hbw;go_wp2_with fail
    refine (qV x b X t c HX.out HT.out HC.out _).mono ?_;rintro e w8 ⟨rfl,Ab⟩;subst Ab;go_wp2_with fail
    refine (nat_sub x b X t Y HX.out HT.out HY.out HBX.out HXB.out _).mono ?_;rintro e w9 ⟨rfl,hb9⟩;have row9:=zA hb9 _ _ _ row7;have B9:Below w4.heap.size w4 w9:=B7.trans (hb9.mono B7.size);clear hb9 row7 B7;have k1:=qF row9 qN;have k2:=fz (k:=qi) row9;have RS:zW ((w9.setCell ⟨g,qi,none⟩ (.int .u8 ((d8 q qi ||| v:Nat):Int))).heap[g]?=some (.cells (c8 N Z) 5)):=zJ (by rw [zY row9,HZ.out]);go_wp2
    go_roundw
    case rel=>exact⟨j,Z,y,Y,by first|rfl|go_num,rfl,by omega,RS.out,B9.setCell (by show w4.heap.size<=g;omega) _,HY2,NS⟩
    case measure=>simp [intOf] <;> omega

theorem nat_Div (a b:Nat)(s t qv rv:ByteArray)(hs:yN a=s)(ht:yN b=t)(ha:nl a<=16384)(hb0:b≠0)(hq:yN (a / b)=qv)(hr:yN (a % b)=rv)(w:World) :
  Calls Tryz.prog 155 #[.string s,.string t] w fun r w'=>r=.returned (.tuple #[.string qv,.string rv,.int .i64 0])/\Below w.heap.size w w':=by
 by_cases hba:b<=a
 ·
  exact nat_div_big a b s t qv rv hs ht ha hb0 hba hq hr w
 ·
  have e2:=x5 t;have hty:t.size=nl b:=by rw [<-ht,yF]
  have hbp:=jG b hb0;rw [decide_eq_false (by omega)] at e2;rw [Nat.div_eq_of_lt (by omega),yX] at hq;rw [Nat.mod_eq_of_lt (by omega),hs] at hr;subst hq hr;have HC:zW (q8 a b=-1):=zJ (by unfold q8;rw [if_neg (by omega),if_pos (by omega)]);clear hba hty hbp ha hb0
  go_enter Tryz.func155,Tryz.ntmps155
  go_wp2_with fail
  refine (qV a b s t (-1) hs ht HC.out _).mono ?_;rintro e w' ⟨rfl,rfl⟩;go_wp2
  exact bodyPost_ret (v:=.tuple #[.string ⟨#[]⟩,.string s,.int .i64 0]) (by simp [results,Tryz.results155,go_sem]) rfl ⟨rfl,Below.refl _ _⟩
def strV (v:Value):Nat:=match v with|.string s=>bvl s.data.toList|_=>0
theorem strV_nb (n:Nat)(s:ByteArray)(h:yN n=s):strV (.string s)=n:=by
 subst h;exact bvl_nbL n

theorem nat_Gcd (a b:Nat)(s t v:ByteArray)(hs:yN a=s)(ht:yN b=t)(ha:nl a<=16384)(hb:nl b<=16384)(hv:yN (Nat.gcd a b)=v)(w:World) :
  Calls Tryz.prog 154 #[.string s,.string t] w fun e w'=>e=.returned (.string v)/\Below w.heap.size w w':=by
 have HS:=zJ hs;have HT:=zJ ht;have HV:=zJ hv;have HA:=zJ ha;have HB:=zJ hb;clear hs ht hv ha hb
 go_enter Tryz.func154,Tryz.ntmps154
 go_wp2
 go_loopw [0,1] (fun av bv wr=>∃ (x y:Nat) (X Y:ByteArray),av=.string X/\bv=.string Y/\Below w.heap.size w wr/\zW (yN x=X)/\zW (yN y=Y)/\zW (nl x<=16384)/\zW (nl y<=16384)/\zW (Nat.gcd x y=Nat.gcd a b)) (fun _ bv _=>strV bv)
 case atStart=>exact⟨a,b,s,t,rfl,rfl,Below.refl _ _,HS,HT,HA,HB,zJ rfl⟩
 case round=>
  obtain⟨x,y,X,Y,rfl,rfl,hbw,HX,HY,LX,LY,HG⟩:=hrel;have e2:=x5 Y;have hz:Y.size=nl y:=by rw [<-HY.out,yF]
  by_cases hy:y=0
  ·
   rw [decide_eq_true (by rw [hz,hy,qI])] at e2
   have eX:X=v:=by
    have h:=HG.out;rw [hy,Nat.gcd_zero_right] at h;rw [<-HX.out,<-HV.out,h]
   subst eX;clear hz hy;go_wp2
   go_ret
   exact⟨rfl,hbw⟩
  ·
   have hp:=jG y hy;rw [decide_eq_false (by omega)] at e2;obtain⟨q,hq⟩:∃ q,yN (x / y)=q:=⟨_,rfl⟩;obtain⟨r,hr⟩:∃ r,x % y=r:=⟨_,rfl⟩;obtain⟨R,hR⟩:∃ R,yN (x % y)=R:=⟨_,rfl⟩;have rl:r<y:=by rw [<-hr];exact Nat.mod_lt _ (by omega)
   have HQ:=zJ hq;have HR:=zJ hR;have HR2:zW (yN r=R):=zJ (by rw [<-hr];exact hR);have HY0:=zJ hy;have LR:zW (nl r<=16384):=zJ (by have:=xQ r y (by omega);have:=LY.out;omega);have NG:zW (Nat.gcd y r=Nat.gcd a b):=zJ (by rw [<-HG.out,<-hr,Nat.gcd_comm y,<-Nat.gcd_rec,Nat.gcd_comm]);have M1:=zJ (strV_nb y Y HY.out);have M2:=zJ (strV_nb r R HR2.out);clear hz hy hq hr hR hp;go_wp2_with fail
   refine (nat_Div x y X Y q R HX.out HY.out LX.out HY0.out HQ.out HR.out _).mono ?_;rintro e w1 ⟨rfl,hb1⟩;go_wp2
   go_roundw
   case rel=>exact⟨y,r,Y,R,rfl,rfl,hbw.trans (hb1.mono hbw.size),HY,HR2,LY,LR,NG⟩
   case measure=>rw [M1.out,M2.out];exact rl
def SL (B:Nat)(w:World)(p:Option Addr)(L c n:Nat):Prop:=n<2 ^ (64*L)/\L<=c/\(0<L->∃ b o,p=some ⟨b,o,none⟩/\b<B/\∀ k,k<L->w.cell? ⟨b,o+k,none⟩=some (.int .u64 (wd n k:Nat)))
theorem SL.mono {B B':Nat} {w:World} {p:Option Addr} {L c n:Nat} (h:SL B w p L c n)(hB:B<=B'):SL B' w p L c n:=
 ⟨h.1,h.2.1,fun hL=>by
  obtain⟨b,o,hp,hlt,hc⟩:=h.2.2 hL;exact⟨b,o,hp,Nat.lt_of_lt_of_le hlt hB,hc⟩⟩
theorem cell_size {w:World} {b o:Nat} {v:Value} (h:w.cell? ⟨b,o,none⟩=some v):b<w.heap.size:=by
 by_cases e:b<w.heap.size
 ·
  exact e
 ·
  exfalso
  have:w.heap[b]?=none:=Array.getElem?_eq_none (by omega)
  simp [World.cell?,this] at h
def Only (g:Nat)(w w':World):Prop:=w'.os=w.os/\w'.tape=w.tape/\w'.output=w.output/\w.heap.size<=w'.heap.size/\∀ k,k<w.heap.size->k≠g->w'.heap[k]?=w.heap[k]?
theorem Only.refl (g:Nat)(w:World):Only g w w:=⟨rfl,rfl,rfl,Nat.le_refl _,fun _ _ _=>rfl⟩
theorem Only.trans {g:Nat} {a b c:World} (h:Only g a b)(k:Only g b c):Only g a c:=
 ⟨k.1.trans h.1,k.2.1.trans h.2.1,k.2.2.1.trans h.2.2.1,Nat.le_trans h.2.2.2.1 k.2.2.2.1,fun i hi hg=>(k.2.2.2.2 i (Nat.lt_of_lt_of_le hi h.2.2.2.1) hg).trans (h.2.2.2.2 i hi hg)⟩
theorem Only.size {g:Nat} {a b:World} (h:Only g a b):a.heap.size<=b.heap.size:=h.2.2.2.1
theorem Only.setCell {g o:Nat} {a w:World} (h:Only g a w)(u:Value):Only g a (w.setCell ⟨g,o,none⟩ u):=
 h.trans ⟨rfl,rfl,rfl,by simp [World.setCell],fun k _ hg=>Below.heap_setCell _ _ _ _ hg⟩
theorem Only.drew {g:Nat} {a w:World} (h:Only g a w):Only g a w.drew:=h.trans ⟨rfl,rfl,rfl,Nat.le_refl _,fun _ _ _=>rfl⟩
theorem Only.row {g b:Nat} {w w':World} {c:Array Value} {t:TypeId} (k:Only g w w')(hb:b≠g)(h:w.heap[b]?=some (.cells c t)):w'.heap[b]?=some (.cells c t):=by
 rw [k.2.2.2.2 b (Array.getElem?_eq_some_iff.1 h).1 hb,h]
theorem SL.only {B g:Nat} {w w':World} {p:Option Addr} {L c n:Nat} (h:SL B w p L c n)(k:Only g w w')(hB:B<=g):SL B w' p L c n:=by
 refine ⟨h.1,h.2.1,fun hL=>?_⟩;obtain⟨b,o,hp,hlt,hc⟩:=h.2.2 hL;refine ⟨b,o,hp,hlt,fun i hi=>?_⟩;have h1:=hc i hi;rw [World.cell?_of_block (w:=w) (k.2.2.2.2 b (cell_size h1) (by omega))];exact h1

theorem SL.cell {B:Nat} {w:World} {b o L c n:Nat} (h:SL B w (some ⟨b,o,none⟩) L c n)(k x:Nat)(hk:k<L)(hx:wd n k=x):w.cell? ⟨b,o+k,none⟩=some (.int .u64 x):=by
 obtain⟨b',o',e,_,hc⟩:=h.2.2 (by omega)
 simp only [Option.some.injEq,Addr.mk.injEq] at e
 obtain⟨rfl,rfl,_⟩:=e;rw [hc k hk,hx]
theorem SL.row {w:World} {b N X c:Nat} {T:TypeId} (r:w.heap[b]?=some (.cells (cw N X) T))(B:Nat)(hB:b<B)(hX:X<2 ^ (64*N))(hc:N<=c):SL B w (some ⟨b,0,none⟩) N c X:=
 ⟨hX,hc,fun _=>⟨b,0,rfl,hB,fun k hk=>by rw [Nat.zero_add,cell_of_row w b k _ _ _ r,yD N X k hk]⟩⟩

theorem yK (w:World)(o:Obj):Below w.heap.size w (w.alloc o):=(Below.refl _ _).alloc (Nat.le_refl _) _
theorem zS {a b c:World} (h:Below a.heap.size a b)(k:Below b.heap.size b c):Below a.heap.size a c:=h.trans (k.mono h.size)

theorem blen_shl (b n:Nat)(hb:b≠0):zV (b*2 ^ n)=zV b+n:=by
 have h1:=blen_le b hb;have h2:=qL b;have h3:=jI b hb;have e:zV b+n=zV b-1+n+1:=by omega
 rw [e]
 apply blen_of
 ·
  rw [Nat.pow_add];exact Nat.mul_le_mul_right _ h1
 ·
  rw [show zV b-1+n+1=zV b+n by omega,Nat.pow_add];exact Nat.mul_lt_mul_of_pos_right h2 (Nat.two_pow_pos _)
end Go.Proofs.YtapikkbifdldfaaGreatDoor
namespace Go.Proofs.YtapikkbifdldfaaGreatDoor.WMath
set_option maxRecDepth 100000
set_option maxHeartbeats 40000000
def gs (hi lo top:Nat):Nat:=if hi<top then (hi*18446744073709551616+lo) / top else 18446744073709551615
end Go.Proofs.YtapikkbifdldfaaGreatDoor.WMath
namespace Go.Proofs.YtapikkbifdldfaaGreatDoor
set_option maxRecDepth 100000
set_option maxHeartbeats 40000000
open Go.RowKit WMath
def tn (r A B:Nat):Value:=.agg #[.int .u64 r,.int .u64 A,.int .u64 B]

end Go.Proofs.YtapikkbifdldfaaGreatDoor
namespace Go.Proofs.YtapikkbifdldfaaGreatDoor.XMath
set_option maxRecDepth 100000
set_option maxHeartbeats 40000000
open WMath
def tz (n:Nat):Nat:=if h:n=0∨n % 2=1 then 0 else tz (n / 2)+1
termination_by n
decreasing_by omega
theorem tz_odd (n:Nat)(h:n % 2=1):tz n=0:=by rw [tz,dif_pos (Or.inr h)]
theorem tz_even (n:Nat)(h0:n≠0)(h:n % 2=0):tz n=tz (n / 2)+1:=by rw [tz,dif_neg (by omega)]
theorem tz_is (n:Nat)(h:n≠0):∃ m,n=m*2 ^ tz n/\m % 2=1:=by
 induction n using Nat.strongRecOn with
 | _ n ih=>
  by_cases h1:n % 2=1
  ·
   exact⟨n,by rw [tz_odd n h1,Nat.pow_zero,Nat.mul_one],h1⟩
  ·
   obtain⟨m,hm,ho⟩:=ih (n / 2) (by omega) (by omega);refine ⟨m,?_,ho⟩;rw [tz_even n h (by omega),Nat.pow_succ,<-Nat.mul_assoc,<-hm];omega
def od (n:Nat):Nat:=n / 2 ^ tz n
theorem od_is (n:Nat)(h:n≠0):n=od n*2 ^ tz n/\od n % 2=1:=by
 obtain⟨m,hm,ho⟩:=tz_is n h
 have e:od n=m:=by
  unfold od
  generalize tz n=k at hm ⊢;rw [hm];exact Nat.mul_div_cancel _ (Nat.two_pow_pos _)
 rw [e];exact⟨hm,ho⟩
theorem od_odd (n:Nat)(h:n % 2=1):od n=n:=by unfold od;rw [tz_odd n h,Nat.pow_zero,Nat.div_one]
theorem od_le (n:Nat):od n<=n:=Nat.div_le_self _ _
theorem tz_low (n:Nat):LowN n (tz n):=by
 by_cases h:n=0
 ·
  left
  exact⟨h,by rw [h,tz,dif_pos (Or.inl rfl)]⟩
 ·
  right
  obtain⟨h1,h2⟩:=od_is n h;refine ⟨h,?_,?_⟩
  ·
   generalize tz n=k at h1;rw [h1,Nat.mul_mod_left]
  ·
   rw [Nat.testBit,Nat.shiftRight_eq_div_pow];have e:n / 2 ^ tz n=od n:=rfl;rw [e]
   simp only [Nat.one_and_eq_mod_two,bne_iff_ne,ne_eq]
   omega
theorem qU (n:Nat):tz n<=zV n:=by
 by_cases h:n=0
 ·
  rw [h,tz,dif_pos (Or.inl rfl)];omega
 ·
  obtain⟨h1,h2⟩:=od_is n h
  have h3:2 ^ tz n<=n:=by
   generalize tz n=k at h1 ⊢;rw [h1];exact Nat.le_mul_of_pos_left _ (by omega)
  have h4:=qL n;exact Nat.le_of_lt ((Nat.pow_lt_pow_iff_right (by decide:1<2)).1 (Nat.lt_of_le_of_lt h3 h4))

structure XN where
  b:Bool
  n:Nat
  d:Nat
  e:Int
def XN.can (x:XN):Prop:=nl x.n<=16384/\nl x.d<=16384/\-1048576<=x.e/\x.e<=1048576/\((x.b=false/\x.n=0/\x.d=1/\x.e=0)∨(x.n % 2=1/\x.d % 2=1/\Nat.gcd x.n x.d=1))
def sgn (b:Bool):Rat:=if b then -1 else 1
def XN.val (x:XN):Rat:=sgn x.b*((x.n:Rat) / (x.d:Rat))*(2:Rat) ^ x.e
def X0:XN:=⟨false,0,1,0⟩
def XZ:XN:=⟨false,0,0,0⟩
theorem XN.can.d {x:XN} (h:x.can):x.d % 2=1:=by rcases h.2.2.2.2 with h|h <;> omega
theorem XN.can.d0 {x:XN} (h:x.can):x.d≠0:=by have:=h.d;omega
theorem XN.can.null {x:XN} (h:x.can)(h0:x.n=0):x=X0:=by
 rcases h.2.2.2.2 with h|h
 ·
  cases x;simp_all [X0]
 ·
  omega
theorem XN.can.odd {x:XN} (h:x.can)(h0:x.n≠0):x.n % 2=1/\x.d % 2=1/\Nat.gcd x.n x.d=1:=by
 rcases h.2.2.2.2 with h|h
 ·
  exact absurd h.2.1 h0
 ·
  exact h
theorem x0_can:X0.can:=⟨Nat.le_trans (xQ 0 1 (by decide)) (Nat.le_trans (qT 1 1 (by decide)) (by decide)),Nat.le_trans (qT 1 1 (by decide)) (by decide),by decide,by decide,Or.inl ⟨rfl,rfl,rfl,rfl⟩⟩

def mk (neg:Bool)(n d:Nat)(e:Int):XN×Int:=
  if n=0 then (X0,0)
  else if -1048576<=e+(tz n:Int)-(tz d:Int)/\e+(tz n:Int)-(tz d:Int)<=1048576 then (⟨neg,od n / Nat.gcd (od n) (od d),od d / Nat.gcd (od n) (od d),e+(tz n:Int)-(tz d:Int)⟩,0)
  else (XZ,4)
theorem mk_null (neg:Bool)(d:Nat)(e:Int):mk neg 0 d e=(X0,0):=by unfold mk;rw [if_pos rfl]
theorem div_odd (a g:Nat)(h:g∣a)(ha:a % 2=1):a / g % 2=1:=by
 obtain⟨k,rfl⟩:=h
 have g0:0<g:=by
  rcases Nat.eq_zero_or_pos g with h|h
  ·
   rw [h,Nat.zero_mul] at ha;omega
  ·
   exact h
 rw [Nat.mul_div_cancel_left _ g0]
 rcases Nat.mod_two_eq_zero_or_one k with h|h
 ·
  rw [Nat.mul_mod,h,Nat.mul_zero] at ha;omega
 ·
  exact h
theorem mul_odd (a b:Nat)(ha:a % 2=1)(hb:b % 2=1):a*b % 2=1:=by rw [Nat.mul_mod,ha,hb]
theorem mk_can (neg:Bool)(n d:Nat)(e:Int)(hn:nl n<=16384)(hd:nl d<=16384)(d0:d≠0)(h:(mk neg n d e).2=0):(mk neg n d e).1.can:=by
 unfold mk at h ⊢
 split
 ·
  exact x0_can
 ·
  rename_i n0
  rw [if_neg n0] at h
  split
  ·
   rename_i hb
   obtain⟨h1,h2⟩:=od_is n n0;obtain⟨h3,h4⟩:=od_is d d0;have g1:=Nat.gcd_dvd_left (od n) (od d);have g2:=Nat.gcd_dvd_right (od n) (od d);refine ⟨Nat.le_trans (xQ _ _ (Nat.le_trans (Nat.div_le_self _ _) (od_le n))) hn,Nat.le_trans (xQ _ _ (Nat.le_trans (Nat.div_le_self _ _) (od_le d))) hd,hb.1,hb.2,Or.inr ⟨div_odd _ _ g1 h2,div_odd _ _ g2 h4,?_⟩⟩
   show Nat.gcd (od n / Nat.gcd (od n) (od d)) (od d / Nat.gcd (od n) (od d))=1
   rw [Nat.gcd_div g1 g2];exact Nat.div_self (Nat.gcd_pos_of_pos_left _ (by omega))
  ·
   rename_i hb
   rw [if_neg hb] at h;exact absurd h (by decide)
theorem p2 (e:Int):(0:Rat)<(2:Rat) ^ e:=Rat.zpow_pos (by decide)
theorem p2ne (e:Int):(2:Rat) ^ e≠0:=Rat.ne_of_gt (p2 e)
theorem p2add (e f:Int):(2:Rat) ^ (e+f)=(2:Rat) ^ e*(2:Rat) ^ f:=Rat.zpow_add (by decide) e f
theorem p2nat (n:Nat):(2:Rat) ^ (n:Int)=((2 ^ n:Nat):Rat):=by rw [Rat.zpow_natCast,Rat.natCast_pow];rfl
theorem p2sub (e f:Int):(2:Rat) ^ (e-f)*(2:Rat) ^ f=(2:Rat) ^ e:=by rw [<-p2add,Int.sub_add_cancel]
theorem mk_val (neg:Bool)(n d:Nat)(e:Int)(d0:d≠0)(h:(mk neg n d e).2=0):(mk neg n d e).1.val=sgn neg*((n:Rat) / (d:Rat))*(2:Rat) ^ e:=by
 unfold mk at h ⊢
 split
 ·
  rename_i n0
  rw [n0]
  show sgn false*(((0:Nat):Rat) / ((1:Nat):Rat))*(2:Rat) ^ (0:Int)=sgn neg*(((0:Nat):Rat) / (d:Rat))*(2:Rat) ^ e
  have:((0:Nat):Rat)=0:=rfl
  rw [this]
  simp [Rat.div_def]
 ·
  rename_i n0
  rw [if_neg n0] at h
  split
  ·
   rename_i hb
   obtain⟨h1,h2⟩:=od_is n n0;obtain⟨h3,h4⟩:=od_is d d0;obtain⟨n',e1⟩:=Nat.gcd_dvd_left (od n) (od d);obtain⟨d',e2⟩:=Nat.gcd_dvd_right (od n) (od d);have g0:0<Nat.gcd (od n) (od d):=Nat.gcd_pos_of_pos_left _ (by omega)
   show sgn neg*(((od n / Nat.gcd (od n) (od d):Nat):Rat) / ((od d / Nat.gcd (od n) (od d):Nat):Rat))*(2:Rat) ^ (e+(tz n:Int)-(tz d:Int))=_
   generalize Nat.gcd (od n) (od d)=g at *;have c1:od n / g=n':=by rw [e1];exact Nat.mul_div_cancel_left _ g0
   have c2:od d / g=d':=by rw [e2];exact Nat.mul_div_cancel_left _ g0
   rw [c1,c2]
   have d'0:d'≠0:=by
    intro hz;rw [hz,Nat.mul_zero] at e2;omega
   rw [e1] at h1;rw [e2] at h3
   have k1:(n:Rat)=(g:Rat)*(n':Rat)*(2:Rat) ^ (tz n:Int):=by
    rw [p2nat,<-Rat.natCast_mul,<-Rat.natCast_mul,<-h1]
   have k2:(d:Rat)=(g:Rat)*(d':Rat)*(2:Rat) ^ (tz d:Int):=by
    rw [p2nat,<-Rat.natCast_mul,<-Rat.natCast_mul,<-h3]
   have k3:=p2sub (e+(tz n:Int)) (tz d:Int);rw [p2add e] at k3;have z1:=p2ne (tz d:Int);have z2:(g:Rat)≠0:=fun h=>by rw [Rat.natCast_eq_zero_iff] at h;omega
   have z3:(d':Rat)≠0:=fun h=>d'0 (Rat.natCast_eq_zero_iff.1 h);rw [k1,k2];generalize (2:Rat) ^ (e+(tz n:Int)-(tz d:Int))=E at *;generalize (2:Rat) ^ (tz d:Int)=D at *;generalize (2:Rat) ^ (tz n:Int)=N at *;generalize (2:Rat) ^ e=F at *
   grind
  ·
   rename_i hb
   rw [if_neg hb] at h;exact absurd h (by decide)

theorem cast_ne {n:Nat} (h:n≠0):(n:Rat)≠0:=fun e=>h (Rat.natCast_eq_zero_iff.1 e)
theorem cast_pos {n:Nat} (h:n≠0):(0:Rat)<(n:Rat):=Rat.natCast_pos.2 (by omega)
theorem sgn_ne (b:Bool):sgn b≠0:=by cases b <;> decide
def XN.mag (x:XN):Rat:=((x.n:Rat) / (x.d:Rat))*(2:Rat) ^ x.e
theorem jF (x:XN):x.val=sgn x.b*x.mag:=by unfold XN.val XN.mag;rw [Rat.mul_assoc]
theorem mag_pos (x:XN)(hn:x.n≠0)(hd:x.d≠0):0<x.mag:=by
 unfold XN.mag
 rw [Rat.div_def];exact Rat.mul_pos (Rat.mul_pos (cast_pos hn) (Rat.inv_pos.2 (cast_pos hd))) (p2 _)
theorem mag_zero (x:XN)(hn:x.n=0):x.mag=0:=by
 unfold XN.mag
 rw [hn]
 have:((0:Nat):Rat)=0:=rfl
 rw [this,Rat.div_def,Rat.zero_mul,Rat.zero_mul]
theorem mag_shift (x y:XN)(dx:x.d≠0)(m:Int)(hm:m<=x.e) :
  x.mag*((x.d*y.d:Nat):Rat)=((x.n*y.d*2 ^ (x.e-m).toNat:Nat):Rat)*(2:Rat) ^ m:=by
 have e1:(2:Rat) ^ x.e=(2:Rat) ^ ((x.e-m).toNat:Int)*(2:Rat) ^ m:=by
  rw [<-p2add]
  congr 1
  omega
 unfold XN.mag
 rw [Rat.natCast_mul,Rat.natCast_mul,Rat.natCast_mul,<-p2nat,e1];have z1:=cast_ne dx;generalize (2:Rat) ^ ((x.e-m).toNat:Int)=A at *;generalize (2:Rat) ^ m=B at *
 grind
theorem mag_one (x y:XN)(hx:x.n % 2=1/\x.d % 2=1/\Nat.gcd x.n x.d=1)(hy:y.n % 2=1/\y.d % 2=1/\Nat.gcd y.n y.d=1)(hle:x.e<=y.e)(h:x.mag=y.mag):x.n=y.n/\x.d=y.d/\x.e=y.e:=by
 have d1:x.d≠0:=by omega
 have d2:y.d≠0:=by omega
 have m1:=mag_shift x y d1 x.e (Int.le_refl _);have m2:=mag_shift y x d2 x.e hle;rw [h,Nat.mul_comm x.d y.d,m2] at m1
 have m3:((y.n*x.d*2 ^ (y.e-x.e).toNat:Nat):Rat)=((x.n*y.d*2 ^ (x.e-x.e).toNat:Nat):Rat):=by
  have z:=p2ne x.e;generalize (2:Rat) ^ x.e=A at *;generalize ((y.n*x.d*2 ^ (y.e-x.e).toNat:Nat):Rat)=B at *;generalize ((x.n*y.d*2 ^ (x.e-x.e).toNat:Nat):Rat)=C at *
  grind
 rw [Rat.natCast_inj,Int.sub_self] at m3;have m4:y.n*x.d*2 ^ (y.e-x.e).toNat=x.n*y.d:=by rw [m3];simp
 have e0:(y.e-x.e).toNat=0:=by
  by_cases hz:(y.e-x.e).toNat=0
  ·
   exact hz
  ·
   exfalso
   obtain⟨k,hk⟩:∃ k,(y.e-x.e).toNat=k+1:=⟨_,(Nat.succ_pred_eq_of_ne_zero hz).symm⟩;rw [hk,Nat.pow_succ,<-Nat.mul_assoc] at m4
   have:=mul_odd _ _ hx.1 hy.2.1
   omega
 rw [e0,Nat.pow_zero,Nat.mul_one] at m4
 have q1:x.n∣y.n:=by
  have:x.n∣y.n*x.d:=⟨y.d,m4⟩
  exact Nat.Coprime.dvd_of_dvd_mul_right hx.2.2 this
 have q2:y.n∣x.n:=by
  have:y.n∣x.n*y.d:=⟨x.d,m4.symm⟩
  exact Nat.Coprime.dvd_of_dvd_mul_right hy.2.2 this
 have q3:=Nat.dvd_antisymm q1 q2;refine ⟨q3,?_,by omega⟩;rw [q3] at m4;exact Nat.eq_of_mul_eq_mul_left (by omega) m4
theorem can_inj (x y:XN)(hx:x.can)(hy:y.can)(h:x.val=y.val):x=y:=by
 rw [jF,jF] at h
 by_cases n1:x.n=0
 ·
  rw [mag_zero x n1,Rat.mul_zero] at h
  by_cases n2:y.n=0
  ·
   rw [hx.null n1,hy.null n2]
  ·
   exfalso
   have p:=mag_pos y n2 hy.d0
   rcases (Rat.mul_eq_zero.1 h.symm) with h|h
   ·
    exact sgn_ne _ h
   ·
    rw [h] at p;exact absurd p Rat.lt_irrefl
 ·
  by_cases n2:y.n=0
  ·
   exfalso
   rw [mag_zero y n2,Rat.mul_zero] at h;have p:=mag_pos x n1 hx.d0
   rcases (Rat.mul_eq_zero.1 h) with h|h
   ·
    exact sgn_ne _ h
   ·
    rw [h] at p;exact absurd p Rat.lt_irrefl
  ·
   have p1:=mag_pos x n1 hx.d0;have p2:=mag_pos y n2 hy.d0
   have hb:x.b=y.b:=by
    cases e1:x.b <;> cases e2:y.b
    ·
     rfl
    ·
     exfalso
     rw [e1,e2] at h
     unfold sgn at h
     simp at h
     grind
    ·
     exfalso
     rw [e1,e2] at h
     unfold sgn at h
     simp at h
     grind
    ·
     rfl
   have hm:x.mag=y.mag:=by
    rw [hb] at h
    have:=sgn_ne y.b
    generalize sgn y.b=s at *
    grind
   have key:x.n=y.n/\x.d=y.d/\x.e=y.e:=by
    by_cases hle:x.e<=y.e
    ·
     exact mag_one x y (hx.odd n1) (hy.odd n2) hle hm
    ·
     obtain⟨a,b,c⟩:=mag_one y x (hy.odd n2) (hx.odd n1) (by omega) hm.symm;exact⟨a.symm,b.symm,c.symm⟩
   obtain⟨k1,k2,k3⟩:=key
   cases x;cases y
   simp_all

def sA (x y:XN):Nat:=x.n*y.d*2 ^ (x.e-min x.e y.e).toNat
def sS (x y:XN):Nat:=if x.b=y.b then sA x y+sA y x else if sA x y<sA y x then sA y x-sA x y else sA x y-sA y x
def sN (x y:XN):Bool:=if x.b=y.b then x.b else if sA x y<sA y x then y.b else x.b
def addX (x y:XN):XN×Int:=
  if x.n=0 then (y,0) else if y.n=0 then (x,0)
  else if nl (sA x y)<=16384/\nl (sA y x)<=16384/\nl (x.d*y.d)<=16384/\nl (sS x y)<=16384 then mk (sN x y) (sS x y) (x.d*y.d) (min x.e y.e) else (XZ,4)
def mulX (x y:XN):XN×Int:=
  if x.n=0∨y.n=0 then (X0,0)
  else if nl (x.n*y.n)<=16384/\nl (x.d*y.d)<=16384 then mk (x.b != y.b) (x.n*y.n) (x.d*y.d) (x.e+y.e) else (XZ,4)
theorem sA_mag (x y:XN)(dx:x.d≠0):x.mag*((x.d*y.d:Nat):Rat)=((sA x y:Nat):Rat)*(2:Rat) ^ (min x.e y.e):=
 mag_shift x y dx _ (Int.min_le_left _ _)
theorem mul_ne {a b:Nat} (ha:a≠0)(hb:b≠0):a*b≠0:=fun h=>by rcases Nat.mul_eq_zero.1 h with h|h <;> contradiction
theorem sS_val (x y:XN):sgn (sN x y)*((sS x y:Nat):Rat)=sgn x.b*((sA x y:Nat):Rat)+sgn y.b*((sA y x:Nat):Rat):=by
 unfold sS sN
 split
 ·
  rename_i h
  rw [h,Rat.natCast_add,Rat.mul_add]
 ·
  rename_i h
  have hs:sgn y.b=- sgn x.b:=by
   cases e1:x.b <;> cases e2:y.b <;> rw [e1,e2] at h <;> first|exact absurd rfl h|decide
  split
  ·
   rename_i hl
   have e:((sA y x-sA x y:Nat):Rat)=((sA y x:Nat):Rat)-((sA x y:Nat):Rat):=by
    have:((sA y x-sA x y:Nat):Rat)+((sA x y:Nat):Rat)=((sA y x:Nat):Rat):=by rw [<-Rat.natCast_add,Nat.sub_add_cancel (Nat.le_of_lt hl)]
    rw [<-this]
    grind
   rw [e,hs]
   grind
  ·
   rename_i hl
   have e:((sA x y-sA y x:Nat):Rat)=((sA x y:Nat):Rat)-((sA y x:Nat):Rat):=by
    have:((sA x y-sA y x:Nat):Rat)+((sA y x:Nat):Rat)=((sA x y:Nat):Rat):=by rw [<-Rat.natCast_add,Nat.sub_add_cancel (by omega)]
    rw [<-this]
    grind
   rw [e,hs]
   grind
theorem add_good (x y:XN)(hx:x.can)(hy:y.can)(h:(addX x y).2=0):(addX x y).1.can/\(addX x y).1.val=x.val+y.val:=by
 unfold addX at h ⊢
 split
 ·
  rename_i n0
  refine ⟨hy,?_⟩;rw [jF x,mag_zero x n0,Rat.mul_zero,Rat.zero_add]
 ·
  rename_i n0
  split
  ·
   rename_i m0
   refine ⟨hx,?_⟩;rw [jF y,mag_zero y m0,Rat.mul_zero,Rat.add_zero]
  ·
   rename_i m0
   rw [if_neg n0,if_neg m0] at h
   split
   ·
    rename_i hl
    rw [if_pos hl] at h;have dz:=mul_ne hx.d0 hy.d0;refine ⟨mk_can _ _ _ _ hl.2.2.2 hl.2.2.1 dz h,?_⟩;rw [mk_val _ _ _ _ dz h,jF x,jF y];have k1:=sA_mag x y hx.d0;have k2:=sA_mag y x hy.d0;have k3:=sS_val x y;rw [Nat.mul_comm y.d x.d,show min y.e x.e=min x.e y.e from Int.min_comm _ _] at k2;have z:=cast_ne dz;generalize (2:Rat) ^ (min x.e y.e)=P at *;generalize ((x.d*y.d:Nat):Rat)=D at *;generalize ((sA x y:Nat):Rat)=A at *;generalize ((sA y x:Nat):Rat)=B at *;generalize ((sS x y:Nat):Rat)=S at *;generalize sgn (sN x y)=s at *;generalize sgn x.b=s1 at *;generalize sgn y.b=s2 at *;generalize x.mag=u at *;generalize y.mag=v at *;have e1:s*(S / D)*P=(s*S)*P / D:=by grind
    rw [e1,k3];have e2:(s1*A+s2*B)*P / D=(s1*(A*P)+s2*(B*P)) / D:=by grind
    rw [e2,<-k1,<-k2]
    grind
   ·
    rename_i hl
    rw [if_neg hl] at h;exact absurd h (by decide)
theorem sgn_bne (b c:Bool):sgn (b != c)=sgn b*sgn c:=by cases b <;> cases c <;> simp [sgn] <;> grind
theorem mul_good (x y:XN)(hx:x.can)(hy:y.can)(h:(mulX x y).2=0):(mulX x y).1.can/\(mulX x y).1.val=x.val*y.val:=by
 unfold mulX at h ⊢
 split
 ·
  rename_i n0
  refine ⟨x0_can,?_⟩;rw [jF X0,mag_zero X0 rfl,Rat.mul_zero,jF x,jF y]
  rcases n0 with h|h
  ·
   rw [mag_zero x h,Rat.mul_zero,Rat.zero_mul]
  ·
   rw [mag_zero y h,Rat.mul_zero,Rat.mul_zero]
 ·
  rename_i n0
  rw [if_neg n0] at h
  split
  ·
   rename_i hl
   rw [if_pos hl] at h;have dz:=mul_ne hx.d0 hy.d0;refine ⟨mk_can _ _ _ _ hl.1 hl.2 dz h,?_⟩;rw [mk_val _ _ _ _ dz h,jF x,jF y,sgn_bne,p2add,Rat.natCast_mul,Rat.natCast_mul]
   unfold XN.mag
   have z1:=cast_ne hx.d0;have z2:=cast_ne hy.d0
   grind
  ·
   rename_i hl
   rw [if_neg hl] at h;exact absurd h (by decide)
def sg (x:XN):Int:=if x.n=0 then 0 else if x.b then -1 else 1
def qZ (x:XN):Int:=(zV x.n:Int)-(zV x.d:Int)
def tA (x:XN):Nat:=x.n*2 ^ (max (-qZ x) 0).toNat
def tB (x:XN):Nat:=x.d*2 ^ (max (qZ x) 0).toNat
def xN (x:XN):Int:=(if tA x<tB x then qZ x-1 else qZ x)+x.e
def flX (x:XN)(e:Int):(Nat×Bool)×Int:=
  if e < -2097152∨2097152<e then ((0,false),2) else if x.n=0 then ((0,true),0)
  else if e<=x.e then (if nl (x.n*2 ^ (x.e-e).toNat)<=16384 then ((x.n*2 ^ (x.e-e).toNat / x.d,decide (x.n*2 ^ (x.e-e).toNat % x.d=0)),0) else ((0,false),4))
  else if xN x<e then ((0,false),0) else ((x.n / (x.d*2 ^ (e-x.e).toNat),false),0)

theorem tA_len (x:XN)(n0:x.n≠0)(d0:x.d≠0):zV (tA x)=zV (tB x)/\tA x≠0/\tB x≠0:=by
 unfold tA tB
 rw [blen_shl _ _ n0,blen_shl _ _ d0];refine ⟨?_,mul_ne n0 (Nat.pos_iff_ne_zero.1 (Nat.two_pow_pos _)),mul_ne d0 (Nat.pos_iff_ne_zero.1 (Nat.two_pow_pos _))⟩
 unfold qZ
 omega
theorem tA_near (x:XN)(n0:x.n≠0)(d0:x.d≠0):tA x<2*tB x/\tB x<2*tA x:=by
 obtain⟨h1,h2,h3⟩:=tA_len x n0 d0;have a1:=qL (tA x);have a2:=blen_le (tA x) h2;have b1:=qL (tB x);have b2:=blen_le (tB x) h3;have p:=jI (tA x) h2;rw [<-h1] at b1 b2;obtain⟨k,hk⟩:∃ k,zV (tA x)=k+1:=⟨_,(Nat.succ_pred_eq_of_ne_zero (Nat.pos_iff_ne_zero.1 p)).symm⟩;rw [hk,Nat.pow_succ] at a1 b1;rw [hk,Nat.add_sub_cancel] at a2 b2;omega
theorem tA_mag (x:XN)(d0:x.d≠0):x.mag*((tB x:Nat):Rat)=((tA x:Nat):Rat)*(2:Rat) ^ (qZ x+x.e):=by
 unfold tA tB XN.mag
 rw [Rat.natCast_mul,Rat.natCast_mul,<-p2nat,<-p2nat,p2add]
 have e:(2:Rat) ^ ((max (qZ x) 0).toNat:Int)=(2:Rat) ^ ((max (-qZ x) 0).toNat:Int)*(2:Rat) ^ (qZ x):=by
  rw [<-p2add]
  congr 1
  omega
 rw [e];have z:=cast_ne d0;generalize (2:Rat) ^ ((max (-qZ x) 0).toNat:Int)=A at *;generalize (2:Rat) ^ (qZ x)=B at *;generalize (2:Rat) ^ x.e=C at *
 grind
theorem p2succ (e:Int):(2:Rat) ^ (e+1)=2*(2:Rat) ^ e:=by rw [p2add,Rat.zpow_one,Rat.mul_comm]
theorem top_good (x:XN)(n0:x.n≠0)(d0:x.d≠0):(2:Rat) ^ (xN x)<=x.mag/\x.mag<(2:Rat) ^ (xN x+1):=by
 obtain⟨h1,h2⟩:=tA_near x n0 d0;have k:=tA_mag x d0;have zB:(0:Rat)<((tB x:Nat):Rat):=cast_pos (tA_len x n0 d0).2.2;have zP:=p2 (qZ x+x.e)
 have c1:((tA x:Nat):Rat)<2*((tB x:Nat):Rat):=by
  have:=Rat.natCast_lt_natCast.2 h1
  rwa [Rat.natCast_mul] at this
 have c2:((tB x:Nat):Rat)<2*((tA x:Nat):Rat):=by
  have:=Rat.natCast_lt_natCast.2 h2
  rwa [Rat.natCast_mul] at this
 unfold xN
 split
 ·
  rename_i hl
  have c3:=Rat.natCast_lt_natCast.2 hl;have e1:=p2succ (qZ x-1+x.e);rw [show qZ x-1+x.e+1=qZ x+x.e by omega] at e1;rw [show qZ x-1+x.e+1=qZ x+x.e by omega];generalize (2:Rat) ^ (qZ x+x.e)=P at *;generalize (2:Rat) ^ (qZ x-1+x.e)=H at *;generalize ((tA x:Nat):Rat)=A at *;generalize ((tB x:Nat):Rat)=B at *
  constructor
  ·
   refine Rat.le_of_mul_le_mul_right (c:=B) ?_ zB;rw [k,e1]
   have:H*B<=H*(2*A):=Rat.mul_le_mul_of_nonneg_left (Rat.le_of_lt c2) (by grind)
   grind
  ·
   refine Rat.lt_of_mul_lt_mul_right (c:=B) ?_ (Rat.le_of_lt zB);rw [k,Rat.mul_comm A P];exact Rat.mul_lt_mul_of_pos_left c3 zP
 ·
  rename_i hl
  have c3:=Rat.natCast_le_natCast.2 (Nat.le_of_not_lt hl);have e1:=p2succ (qZ x+x.e);rw [e1];generalize (2:Rat) ^ (qZ x+x.e)=P at *;generalize ((tA x:Nat):Rat)=A at *;generalize ((tB x:Nat):Rat)=B at *
  constructor
  ·
   refine Rat.le_of_mul_le_mul_right (c:=B) ?_ zB;rw [k,Rat.mul_comm A P];exact Rat.mul_le_mul_of_nonneg_left c3 (Rat.le_of_lt zP)
  ·
   refine Rat.lt_of_mul_lt_mul_right (c:=B) ?_ (Rat.le_of_lt zB);rw [k]
   have:P*A<P*(2*B):=Rat.mul_lt_mul_of_pos_left c1 zP
   grind
theorem quot_good (u:Rat)(N D:Nat)(P:Rat)(hP:0<P)(D0:D≠0)(k:u*(D:Rat)=(N:Rat)*P):((N / D:Nat):Rat)*P<=u/\u<((N / D+1:Nat):Rat)*P/\(N % D=0↔((N / D:Nat):Rat)*P=u):=by
 have zD:=cast_pos D0;have h1:N / D*D<=N:=Nat.div_mul_le_self N D
 have h2:N<(N / D+1)*D:=by
  have:=Nat.div_add_mod N D
  have:=Nat.mod_lt N (Nat.pos_of_ne_zero D0)
  rw [Nat.add_mul,Nat.one_mul,Nat.mul_comm (N / D) D];omega
 have h3:N % D=0↔N / D*D=N:=by
  have:=Nat.div_add_mod N D
  rw [Nat.mul_comm (N / D) D];omega
 have c1:=Rat.natCast_le_natCast.2 h1;have c2:=Rat.natCast_lt_natCast.2 h2;rw [Rat.natCast_mul] at c1 c2;have c3:N / D*D=N↔((N / D:Nat):Rat)*(D:Rat)=(N:Rat):=by rw [<-Rat.natCast_mul,Rat.natCast_inj]
 rw [h3,c3];generalize ((N / D+1:Nat):Rat)=M1 at *;generalize ((N / D:Nat):Rat)=M at *;generalize (N:Rat)=n at *;generalize (D:Rat)=d at *;refine ⟨?_,?_,?_,?_⟩
 ·
  refine Rat.le_of_mul_le_mul_right (c:=d) ?_ zD;rw [k]
  have:=Rat.mul_le_mul_of_nonneg_left c1 (Rat.le_of_lt hP)
  grind
 ·
  refine Rat.lt_of_mul_lt_mul_right (c:=d) ?_ (Rat.le_of_lt zD);rw [k]
  have:=Rat.mul_lt_mul_of_pos_left c2 hP
  grind
 ·
  intro h;rw [<-h] at k
  have:d≠0:=Rat.ne_of_gt zD
  grind
 ·
  intro h;rw [<-h] at k
  have:P≠0:=Rat.ne_of_gt hP
  grind
theorem p2mono (e f:Int)(h:e<=f):(2:Rat) ^ e<=(2:Rat) ^ f:=by
 obtain⟨k,rfl⟩:∃ k:Nat,f=(k:Int)+e:=⟨(f-e).toNat,by omega⟩;rw [p2add (k:Int) e,p2nat];have a:(1:Rat)<=((2 ^ k:Nat):Rat):=Rat.natCast_le_natCast.2 (Nat.one_le_two_pow (n:=k));have b:=Rat.mul_le_mul_of_nonneg_right a (Rat.le_of_lt (p2 e))
 rwa [Rat.one_mul] at b
theorem fl_good (x:XN)(e:Int)(hx:x.can)(n0:x.n≠0)(h:(flX x e).2=0):(((flX x e).1.1:Nat):Rat)*(2:Rat) ^ e<=x.mag/\x.mag<(((flX x e).1.1+1:Nat):Rat)*(2:Rat) ^ e/\((flX x e).1.2=true↔(((flX x e).1.1:Nat):Rat)*(2:Rat) ^ e=x.mag):=by
 have d0:=hx.d0
 unfold flX at h ⊢
 by_cases hr:e < -2097152∨2097152<e
 ·
  rw [if_pos hr] at h;exact absurd h (by decide)
 rw [if_neg hr,if_neg n0] at h ⊢
 by_cases he:e<=x.e
 ·
  rw [if_pos he] at h ⊢
  by_cases hl:nl (x.n*2 ^ (x.e-e).toNat)<=16384
  ·
   rw [if_pos hl]
   have k:x.mag*(x.d:Rat)=((x.n*2 ^ (x.e-e).toNat:Nat):Rat)*(2:Rat) ^ e:=by
    have e1:(2:Rat) ^ x.e=(2:Rat) ^ ((x.e-e).toNat:Int)*(2:Rat) ^ e:=by rw [<-p2add];congr 1;omega
    unfold XN.mag
    rw [Rat.natCast_mul,<-p2nat,e1];have z:=cast_ne d0
    grind
   have:=quot_good _ _ _ _ (p2 e) d0 k
   simp only [decide_eq_true_eq]
   exact this
  ·
   rw [if_neg hl] at h;exact absurd h (by decide)
 ·
  rw [if_neg he] at h ⊢
  have hz:¬ x.n % (x.d*2 ^ (e-x.e).toNat)=0:=by
   intro hm;obtain⟨k,hk⟩:∃ k,(e-x.e).toNat=k+1:=⟨(e-x.e).toNat-1,by omega⟩;rw [hk,Nat.pow_succ,<-Nat.mul_assoc] at hm;obtain⟨q,hq⟩:=Nat.dvd_of_mod_eq_zero hm
   have:=(hx.odd n0).1
   rw [hq,Nat.mul_assoc,Nat.mul_assoc,Nat.mul_left_comm (2 ^ k) 2,Nat.mul_left_comm x.d 2,Nat.mul_mod_right] at this;omega
  have k:x.mag*((x.d*2 ^ (e-x.e).toNat:Nat):Rat)=(x.n:Rat)*(2:Rat) ^ e:=by
   have e1:(2:Rat) ^ e=(2:Rat) ^ ((e-x.e).toNat:Int)*(2:Rat) ^ x.e:=by rw [<-p2add];congr 1;omega
   unfold XN.mag
   rw [Rat.natCast_mul,<-p2nat,e1];have z:=cast_ne d0
   grind
  have D0:x.d*2 ^ (e-x.e).toNat≠0:=mul_ne d0 (Nat.pos_iff_ne_zero.1 (Nat.two_pow_pos _));have q:=quot_good _ _ _ _ (p2 e) D0 k
  by_cases ht:xN x<e
  ·
   rw [if_pos ht];have t2:=(top_good x n0 d0).2
   have:=p2mono (xN x+1) e (by omega)
   have up:x.mag<(2:Rat) ^ e:=by grind
   have p:=mag_pos x n0 d0;have z0:((0:Nat):Rat)=0:=rfl;have z1:((0+1:Nat):Rat)=1:=rfl;refine ⟨?_,?_,?_⟩
   ·
    show ((0:Nat):Rat)*_<=_
    rw [z0,Rat.zero_mul];exact Rat.le_of_lt p
   ·
    show _<((0+1:Nat):Rat)*_
    rw [z1,Rat.one_mul];exact up
   ·
    show false=true↔((0:Nat):Rat)*_=_
    rw [z0,Rat.zero_mul];exact⟨fun h=>absurd h (by decide),fun h=>absurd p (by rw [<-h];exact Rat.lt_irrefl)⟩
  ·
   rw [if_neg ht];refine ⟨q.1,q.2.1,?_⟩;exact⟨fun h=>Bool.noConfusion h,fun h=>absurd (q.2.2.2 h) hz⟩

def Bd (x:XN)(p E:Nat):Prop:=x.n<2 ^ p/\x.d<2 ^ p/\-(E:Int)<=x.e/\x.e<=E
theorem nl_pow (n p:Nat)(h:n<2 ^ p)(hp:p<=131072):nl n<=16384:=by
 have:=y9 n p h
 unfold nl
 omega
theorem mul_pow_lt (a b p q:Nat)(ha:a<2 ^ p)(hb:b<2 ^ q):a*b<2 ^ (p+q):=by
 rw [Nat.pow_add];exact Nat.mul_lt_mul'' ha hb
theorem pow_le2 (p q:Nat)(h:p<=q):(2:Nat) ^ p<=2 ^ q:=Nat.pow_le_pow_right (by decide) h
theorem mk_ok (neg:Bool)(n d:Nat)(e:Int)(P E F:Nat)(hn:n<2 ^ P)(hd:d<2 ^ P)(ho:d % 2=1)(he1:-(E:Int)<=e)(he2:e<=E)(hF:E+P=F)(h:F<=1048576):(mk neg n d e).2=0/\Bd (mk neg n d e).1 P F:=by
 have P1:1<2 ^ P:=by omega
 have t0:=tz_odd d ho;have t1:=Nat.le_trans (qU n) (y9 n P hn)
 unfold mk
 split
 ·
  exact⟨rfl,Nat.two_pow_pos _,P1,by show -(F:Int)<=0;omega,by show (0:Int)<=F;omega⟩
 ·
  rw [t0,if_pos (by omega)];refine ⟨rfl,Nat.lt_of_le_of_lt (Nat.le_trans (Nat.div_le_self _ _) (od_le _)) hn,Nat.lt_of_le_of_lt (Nat.le_trans (Nat.div_le_self _ _) (od_le _)) hd,?_,?_⟩
  ·
   show -(F:Int)<=e+(tz n:Int)-((0:Nat):Int);omega
  ·
   show e+(tz n:Int)-((0:Nat):Int)<=(F:Int);omega
theorem sA_lt (x y:XN)(p q E F:Nat)(hx:Bd x p E)(hy:Bd y q F):sA x y<2 ^ (p+q+(E+F)):=by
 obtain⟨a1,a2,a3,a4⟩:=hx;obtain⟨b1,b2,b3,b4⟩:=hy
 unfold sA
 rw [Nat.pow_add];have h1:=mul_pow_lt _ _ _ _ a1 b2;have h2:(2:Nat) ^ (x.e-min x.e y.e).toNat<=2 ^ (E+F):=pow_le2 _ _ (by omega);exact Nat.lt_of_lt_of_le (Nat.mul_lt_mul_of_pos_right h1 (Nat.two_pow_pos _)) (Nat.mul_le_mul_left _ h2)
theorem add_ok (x y:XN)(p q E F P G:Nat)(hx:x.can)(hy:y.can)(bx:Bd x p E)(bz:Bd y q F)(hP:p+q+(E+F)+1=P)(hG:E+F+P=G)(h1:P<=131072)(h2:G<=1048576):(addX x y).2=0/\Bd (addX x y).1 P G:=by
 have s1:=sA_lt x y p q E F bx bz;have s2:=sA_lt y x q p F E bz bx;rw [show q+p+(F+E)=p+q+(E+F) by omega] at s2;obtain⟨a1,a2,a3,a4⟩:=bx;obtain⟨b1,b2,b3,b4⟩:=bz;have dd:x.d*y.d<2 ^ P:=Nat.lt_of_lt_of_le (mul_pow_lt _ _ _ _ a2 b2) (pow_le2 _ _ (by omega));have e2:2 ^ P=2*2 ^ (p+q+(E+F)):=by rw [<-hP,Nat.pow_succ,Nat.mul_comm]
 have ss:sS x y<2 ^ P:=by
  rw [e2]
  unfold sS
  split
  ·
   omega
  ·
   split <;> omega
 unfold addX
 split
 ·
  exact⟨rfl,Nat.lt_of_lt_of_le b1 (pow_le2 _ _ (by omega)),Nat.lt_of_lt_of_le b2 (pow_le2 _ _ (by omega)),by show -(G:Int)<=y.e;omega,by show y.e<=(G:Int);omega⟩
 ·
  split
  ·
   exact⟨rfl,Nat.lt_of_lt_of_le a1 (pow_le2 _ _ (by omega)),Nat.lt_of_lt_of_le a2 (pow_le2 _ _ (by omega)),by show -(G:Int)<=x.e;omega,by show x.e<=(G:Int);omega⟩
  ·
   rw [if_pos ⟨nl_pow _ P (by omega) h1,nl_pow _ P (by omega) h1,nl_pow _ P dd h1,nl_pow _ P ss h1⟩];exact mk_ok _ _ _ _ P (E+F) G ss dd (mul_odd _ _ hx.d hy.d) (by omega) (by omega) hG h2
end Go.Proofs.YtapikkbifdldfaaGreatDoor.XMath
