/-
  What the functions that the statement reaches return: part 4 (Nat2, Nat3, Nat4, Nat5, Nat6).
-/
import Derived.Deep.RegionWith
import Derived.Test.YtdjlfhcalccajaaGreatDoorWc03
namespace Go.Proofs.YtdjlfhcalccajaaGreatDoor
set_option maxRecDepth 100000
set_option maxHeartbeats 40000000
set_option maxRecDepth 100000
open Go.RowKit WMath
theorem carry_step (S P t:Nat):S+P*(t % 256)+P*256*(t / 256)=S+P*t:=by
  have h:=Nat.div_add_mod t 256
  have:P*t=P*(256*(t / 256)+t % 256):=by rw [h]
  rw [this,Nat.mul_add,Nat.mul_assoc];omega

theorem nadd_step (a b S i c t:Nat)(hE:S+2 ^ (8*i)*c=a % 2 ^ (8*i)+b % 2 ^ (8*i))(ht:c+d8 a i+d8 b i=t) :
    S+2 ^ (8*i)*(t % 256)+2 ^ (8*(i+1))*(t / 256)=a % 2 ^ (8*(i+1))+b % 2 ^ (8*(i+1)):=by
  rw [pow8,carry_step,<-pow8,mod_d8,mod_d8,<-ht,Nat.mul_add,Nat.mul_add];omega
theorem nadd_end (a b S i c:Nat)(ha:a<2 ^ (8*i))(hb:b<2 ^ (8*i))(hab:a+b<2 ^ (8*i))(hE:S+2 ^ (8*i)*c=a % 2 ^ (8*i)+b % 2 ^ (8*i)):S=a+b:=by
  rw [Nat.mod_eq_of_lt ha,Nat.mod_eq_of_lt hb] at hE
  by_cases h:c=0
  . rw [h] at hE;omega
  . have:2 ^ (8*i)*1<=2 ^ (8*i)*c:=Nat.mul_le_mul_left _ (by omega)
    omega
theorem pow8_le (i j:Nat)(h:i<=j):2 ^ (8*i)<=2 ^ (8*j):=Nat.pow_le_pow_right (by decide) (by omega)
theorem wrap_u8_is (t x:Nat)(h:t % 256=x):IntKind.u8.wrap (t:Int)=(x:Int):=by
  rw [<-h,IntKind.wrap_u8];omega

set_option maxHeartbeats 1000000 in
theorem nat_add (a b:Nat)(s t v:ByteArray)(hs:nbA a=s)(ht:nbA b=t)(hv:nbA (a+b)=v)(ha:nl a<=20000)(hb:nl b<=20000)(w:World) :
    Calls Tryz.prog 162 #[.string s,.string t] w fun e w'=>e=.returned (.string v)/\Below w.heap.size w w':=by
  obtain⟨L,hL⟩:∃ L,nl a=L:=⟨_,rfl⟩;obtain⟨M,hM⟩:∃ M,nl b=M:=⟨_,rfl⟩;obtain⟨n,hn⟩:∃ n,max L M=n:=⟨_,rfl⟩;obtain⟨N,hN⟩:∃ N,n+1=N:=⟨_,rfl⟩;have hz:s.size=L:=by rw [<-hs,nbA_size,hL]
  have hy:t.size=M:=by rw [<-ht,nbA_size,hM]
  have la:=nl_lt a;have lb:=nl_lt b;rw [hL] at la ha;rw [hM] at lb hb;have LA:Box (a<2 ^ (8*N)):=box (Nat.lt_of_lt_of_le la (pow8_le _ _ (by omega)));have LB:Box (b<2 ^ (8*N)):=box (Nat.lt_of_lt_of_le lb (pow8_le _ _ (by omega)))
  have LAB:Box (a+b<2 ^ (8*N)):=box (by
    have h1:a<2 ^ (8*n):=Nat.lt_of_lt_of_le la (pow8_le _ _ (by omega));have h2:b<2 ^ (8*n):=Nat.lt_of_lt_of_le lb (pow8_le _ _ (by omega));rw [<-hN,pow8]
    omega)
  have HS:=box hs;have HT:=box ht;have HV:=box hv;have HL:=box hL;have HM:=box hM;have n2:n<=20000:=by omega
  have hmk:=c8_makeI N ((n:Int)+1) (by omega) (by omega)
  have hcase:(decide (L<M)=true/\M=n)∨(decide (L<M)=false/\L=n):=by
    by_cases h:L<M
    . left;exact⟨decide_eq_true h,by omega⟩
    . right;exact⟨decide_eq_false h,by omega⟩
  clear hs ht hv hL hM la lb hn
  rcases hcase with ⟨h1,hn⟩|⟨h1,hn⟩
  all_goals
    subst hn
    go_enter Tryz.func162,Tryz.ntmps162
    go_wp2
    clear hmk h1
    go_loopw [7,8] (fun cv iv wr=>∃ (i c S:Nat),i<=N/\c<2/\cv=.int .i64 c/\iv=.int .i64 i/\wr.heap[w.heap.size]?=some (.cells (c8 N S) 5)/\Below w.heap.size w wr/\Box (S<2 ^ (8*i)/\S+2 ^ (8*i)*c=a % 2 ^ (8*i)+b % 2 ^ (8*i))) (fun _ iv _=>N-(intOf iv).toNat)
    case atStart=>exact⟨0,0,0,by omega,by omega,rfl,rfl,heap_alloc_last _ _,(Below.refl _ _).alloc (Nat.le_refl _) _,box ⟨by decide,by simp [Nat.mod_one]⟩⟩
    case round=>
      obtain⟨i,c,S,hi,hc,rfl,rfl,r0,hbw,HE⟩:=hrel
      by_cases hlt:i<N
      . obtain⟨x,hx⟩:∃ x,d8 a i=x:=⟨_,rfl⟩
        obtain⟨y,hy2⟩:∃ y,d8 b i=y:=⟨_,rfl⟩;have x256:x<256:=by rw [<-hx];exact d8_lt a i
        have y256:y<256:=by rw [<-hy2];exact d8_lt b i
        obtain⟨q,hq⟩:∃ q,c+x+y=q:=⟨_,rfl⟩;obtain⟨z,hz2⟩:∃ z,q % 256=z:=⟨_,rfl⟩;obtain⟨g,hg⟩:∃ g,q / 256=g:=⟨_,rfl⟩;have NE:=nadd_step a b S i c q HE.out.2 (by rw [hx,hy2];exact hq);rw [hz2,hg] at NE;have z256:z<256:=by omega
        have NX:Box (S+2 ^ (8*i)*z<2 ^ (8*(i+1))/\S+2 ^ (8*i)*z+2 ^ (8*(i+1))*g=a % 2 ^ (8*(i+1))+b % 2 ^ (8*(i+1))):=box ⟨push8_lt S i z HE.out.1 z256,NE⟩;have g2:g<2:=by omega
        have n1:IntKind.i64.wrap ((c:Int)+(x:Int))=(c:Int)+(x:Int):=wrap_i64_is _ (by omega) (by omega);have n3:IntKind.i64.wrap ((c:Int)+(x:Int)+(y:Int))=(q:Int):=by rw [wrap_i64_is _ (by omega) (by omega)];omega
        have n4:=wrap_u8_is q z hz2;have n5:(q:Int) / 256=(g:Int):=by omega
        have c1:=c8_cell r0 hlt;have f0:=fz (k:=i) r0;have RS:Box ((wr.setCell ⟨w.heap.size,i,none⟩ (.int .u8 (z:Int))).heap[w.heap.size]?=some (.cells (c8 N (S+2 ^ (8*i)*z)) 5)):=box (by rw [setCell_row r0,c8_push N S i z _ hlt HE.out.1 z256 rfl]);have HX:=box hx;have HY:=box hy2;have NA:Box (nl a<=100000):=box (by rw [HL.out];omega);have NB:Box (nl b<=100000):=box (by rw [HM.out];omega)
        try (have dl:decide (i<=M)=true:=by rw [decide_eq_true_iff];omega)
        try (have dl2:decide (i<=L)=true:=by rw [decide_eq_true_iff];omega)
        clear hx hy2 hq hz2 hg NE;go_wp2_with fail
        refine (nat_at a i x s HS.out HX.out NA.out _).mono ?_;rintro e w' ⟨rfl,rfl⟩;go_wp2_with fail
        refine (nat_at b i y t HT.out HY.out NB.out _).mono ?_;rintro e w' ⟨rfl,rfl⟩;go_wp2
        go_roundw
        case rel=>exact⟨i+1,g,_,by omega,g2,by first|rfl|go_num,by go_num,RS.out,hbw.setCell (Nat.le_refl _) _,NX⟩
        case measure=>simp [intOf] <;> omega
      . obtain rfl:i=N:=by omega
        have e:=nadd_end a b S i c LA.out LB.out LAB.out HE.out.2;subst e;have FX:=box HE.out.1;clear HE
        try (have dl:decide (i<=M)=false:=by rw [decide_eq_false_iff_not];omega)
        try (have dl2:decide (i<=L)=false:=by rw [decide_eq_false_iff_not];omega)
        go_wp2_with fail
        refine (nat_fit i (a+b) w.heap.size i v (by omega) FX.out HV.out _ r0).mono ?_;rintro e w' ⟨rfl,hb2⟩;go_wp2
        go_ret
        exact⟨rfl,hbw.trans (hb2.mono hbw.size)⟩

theorem nsub_step (a b S i c x y z g:Nat)(hE:S+b % 2 ^ (8*i)=a % 2 ^ (8*i)+2 ^ (8*i)*c)(hx:d8 a i=x)(hy:d8 b i=y)(hz:z+y+c=x+256*g) :
    S+2 ^ (8*i)*z+b % 2 ^ (8*(i+1))=a % 2 ^ (8*(i+1))+2 ^ (8*(i+1))*g:=by
  rw [mod_d8,mod_d8,hx,hy,pow8,Nat.mul_assoc];have e:=congrArg (fun t=>2 ^ (8*i)*t) hz
  simp only [Nat.mul_add] at e
  omega
theorem nsub_end (a b S i c:Nat)(hba:b<=a)(ha:a<2 ^ (8*i))(hS:S<2 ^ (8*i))(hE:S+b % 2 ^ (8*i)=a % 2 ^ (8*i)+2 ^ (8*i)*c):S=a-b:=by
  rw [Nat.mod_eq_of_lt ha,Nat.mod_eq_of_lt (show b<2 ^ (8*i) by omega)] at hE
  by_cases h:c=0
  . rw [h] at hE;omega
  . have:2 ^ (8*i)*1<=2 ^ (8*i)*c:=Nat.mul_le_mul_left _ (by omega)
    omega

set_option maxHeartbeats 1000000 in
theorem nat_sub (a b:Nat)(s t v:ByteArray)(hs:nbA a=s)(ht:nbA b=t)(hv:nbA (a-b)=v)(hba:b<=a)(ha:nl a<=20000)(w:World) :
    Calls Tryz.prog 147 #[.string s,.string t] w fun e w'=>e=.returned (.string v)/\Below w.heap.size w w':=by
  obtain⟨L,hL⟩:∃ L,nl a=L:=⟨_,rfl⟩;have hz:s.size=L:=by rw [<-hs,nbA_size,hL]
  have la:=nl_lt a;have hb:=nl_mono b a hba;rw [hL] at la ha hb;have LA:=box la;have HBA:=box hba;have HS:=box hs;have HT:=box ht;have HV:=box hv;have NA:Box (nl a<=100000):=box (by omega);have NB:Box (nl b<=100000):=box (by omega);have hmk:=c8_make L (by omega);clear hs ht hv hL la hba hb
  go_enter Tryz.func147,Tryz.ntmps147
  go_wp2
  clear hmk
  go_loopw [6,7] (fun cv iv wr=>∃ (i c S:Nat),i<=L/\c<2/\cv=.int .i64 c/\iv=.int .i64 i/\wr.heap[w.heap.size]?=some (.cells (c8 L S) 5)/\Below w.heap.size w wr/\Box (S<2 ^ (8*i)/\S+b % 2 ^ (8*i)=a % 2 ^ (8*i)+2 ^ (8*i)*c)) (fun _ iv _=>L-(intOf iv).toNat)
  case atStart=>exact⟨0,0,0,by omega,by omega,rfl,rfl,heap_alloc_last _ _,(Below.refl _ _).alloc (Nat.le_refl _) _,box ⟨by decide,by simp [Nat.mod_one]⟩⟩
  case round=>
    obtain⟨i,c,S,hi,hc,rfl,rfl,r0,hbw,HE⟩:=hrel
    by_cases hlt:i<L
    . obtain⟨x,hx⟩:∃ x,d8 a i=x:=⟨_,rfl⟩
      obtain⟨y,hy2⟩:∃ y,d8 b i=y:=⟨_,rfl⟩;have x256:x<256:=by rw [<-hx];exact d8_lt a i
      have y256:y<256:=by rw [<-hy2];exact d8_lt b i
      obtain⟨q,hq⟩:∃ q:Int,(x:Int)-(y:Int)-(c:Int)=q:=⟨_,rfl⟩;obtain⟨g,hg⟩:∃ g,(if x<y+c then 1 else 0)=g:=⟨_,rfl⟩;obtain⟨z,hz2⟩:∃ z,x+256*g-y-c=z:=⟨_,rfl⟩;have hzz:z+y+c=x+256*g/\z<256/\g<2:=by split at hg <;> omega
      have NE:=nsub_step a b S i c x y z g HE.out.2 hx hy2 hzz.1;have NX:Box (S+2 ^ (8*i)*z<2 ^ (8*(i+1))/\S+2 ^ (8*i)*z+b % 2 ^ (8*(i+1))=a % 2 ^ (8*(i+1))+2 ^ (8*(i+1))*g):=box ⟨push8_lt S i z HE.out.1 hzz.2.1,NE⟩;have n1:IntKind.i64.wrap ((x:Int)-(y:Int))=(x:Int)-(y:Int):=wrap_i64_is _ (by omega) (by omega);have n3:IntKind.i64.wrap ((x:Int)-(y:Int)-(c:Int))=q:=by rw [wrap_i64_is _ (by omega) (by omega)];omega
      have n4:IntKind.u8.wrap q=(z:Int):=by rw [IntKind.wrap_u8];omega
      have c1:=c8_cell r0 hlt;have f0:=fz (k:=i) r0;have z256:=hzz.2.1;have RS:Box ((wr.setCell ⟨w.heap.size,i,none⟩ (.int .u8 (z:Int))).heap[w.heap.size]?=some (.cells (c8 L (S+2 ^ (8*i)*z)) 5)):=box (by rw [setCell_row r0,c8_push L S i z _ hlt HE.out.1 z256 rfl]);have HX:=box hx;have HY:=box hy2;have dl:decide (i<L)=true:=decide_eq_true hlt
      have hcase:(decide (q<0)=true/\g=1)∨(decide (q<0)=false/\g=0):=by
        rw [decide_eq_true_iff,decide_eq_false_iff_not]
        split at hg <;> omega
      clear hx hy2 hq hz2 hg NE hzz
      rcases hcase with ⟨dq,rfl⟩|⟨dq,rfl⟩
      all_goals
        go_wp2_with fail
        refine (nat_at a i x s HS.out HX.out NA.out _).mono ?_;rintro e w' ⟨rfl,rfl⟩;go_wp2_with fail
        refine (nat_at b i y t HT.out HY.out NB.out _).mono ?_;rintro e w' ⟨rfl,rfl⟩;go_wp2
        go_roundw
        case rel=>exact⟨i+1,_,_,by omega,(by first|exact (by decide:1<2)|exact (by decide:0<2)),by first|rfl|go_num,by go_num,RS.out,hbw.setCell (Nat.le_refl _) _,NX⟩
        case measure=>simp [intOf] <;> omega
    . obtain rfl:i=L:=by omega
      have e:=nsub_end a b S i c HBA.out LA.out HE.out.1 HE.out.2;subst e;have FX:=box HE.out.1;clear HE;have dl:decide (i<i)=false:=by rw [decide_eq_false_iff_not];omega
      go_wp2_with fail
      refine (nat_fit i (a-b) w.heap.size i v (by omega) FX.out HV.out _ r0).mono ?_;rintro e w' ⟨rfl,hb2⟩;go_wp2
      go_ret
      exact⟨rfl,hbw.trans (hb2.mono hbw.size)⟩

theorem ndbl_step (a o S i c t:Nat)(hE:S+2 ^ (8*i)*c=2*(a % 2 ^ (8*i))+o)(ht:c+2*d8 a i=t) :
    S+2 ^ (8*i)*(t % 256)+2 ^ (8*(i+1))*(t / 256)=2*(a % 2 ^ (8*(i+1)))+o:=by
  rw [pow8,carry_step,<-pow8,mod_d8,<-ht,Nat.mul_add,Nat.mul_add 2,Nat.mul_left_comm];omega

set_option maxHeartbeats 1000000 in
theorem nat_double (a o:Nat)(s v:ByteArray)(hs:nbA a=s)(ho:o<2)(hv:nbA (2*a+o)=v)(ha:nl a<=20000)(w:World) :
    Calls Tryz.prog 145 #[.string s,.int .i64 (o:Nat)] w fun e w'=>e=.returned (.string v)/\Below w.heap.size w w':=by
  obtain⟨L,hL⟩:∃ L,nl a=L:=⟨_,rfl⟩;obtain⟨N,hN⟩:∃ N,L+1=N:=⟨_,rfl⟩;have hz:s.size=L:=by rw [<-hs,nbA_size,hL]
  have la:=nl_lt a;rw [hL] at la ha;have LA:Box (a<2 ^ (8*N)):=box (Nat.lt_of_lt_of_le la (pow8_le _ _ (by omega)));have LAB:Box (2*a+o<2 ^ (8*N)):=box (by rw [<-hN,pow8];omega);have HS:=box hs;have HV:=box hv;have NA:Box (nl a<=100000):=box (by omega);have hmk:=c8_makeI N ((L:Int)+1) (by omega) (by omega);clear hs hv hL la
  go_enter Tryz.func145,Tryz.ntmps145
  go_wp2
  clear hmk
  go_loopw [6,7] (fun cv iv wr=>∃ (i c S:Nat),i<=N/\c<2/\cv=.int .i64 c/\iv=.int .i64 i/\wr.heap[w.heap.size]?=some (.cells (c8 N S) 5)/\Below w.heap.size w wr/\Box (S<2 ^ (8*i)/\S+2 ^ (8*i)*c=2*(a % 2 ^ (8*i))+o)) (fun _ iv _=>N-(intOf iv).toNat)
  case atStart=>exact⟨0,o,0,by omega,ho,rfl,rfl,heap_alloc_last _ _,(Below.refl _ _).alloc (Nat.le_refl _) _,box ⟨by decide,by simp [Nat.mod_one]⟩⟩
  case round=>
    obtain⟨i,c,S,hi,hc,rfl,rfl,r0,hbw,HE⟩:=hrel
    by_cases hlt:i<N
    . obtain⟨x,hx⟩:∃ x,d8 a i=x:=⟨_,rfl⟩
      have x256:x<256:=by rw [<-hx];exact d8_lt a i
      obtain⟨q,hq⟩:∃ q,c+2*x=q:=⟨_,rfl⟩;obtain⟨z,hz2⟩:∃ z,q % 256=z:=⟨_,rfl⟩;obtain⟨g,hg⟩:∃ g,q / 256=g:=⟨_,rfl⟩;have NE:=ndbl_step a o S i c q HE.out.2 (by rw [hx];exact hq);rw [hz2,hg] at NE;have z256:z<256:=by omega
      have NX:Box (S+2 ^ (8*i)*z<2 ^ (8*(i+1))/\S+2 ^ (8*i)*z+2 ^ (8*(i+1))*g=2*(a % 2 ^ (8*(i+1)))+o):=box ⟨push8_lt S i z HE.out.1 z256,NE⟩;have g2:g<2:=by omega
      have n1:IntKind.i64.wrap (2*(x:Int))=2*(x:Int):=wrap_i64_is _ (by omega) (by omega);have n3:IntKind.i64.wrap ((c:Int)+2*(x:Int))=(q:Int):=by rw [wrap_i64_is _ (by omega) (by omega)];omega
      have n4:=wrap_u8_is q z hz2;have n5:(q:Int) / 256=(g:Int):=by omega
      have c1:=c8_cell r0 hlt;have f0:=fz (k:=i) r0;have RS:Box ((wr.setCell ⟨w.heap.size,i,none⟩ (.int .u8 (z:Int))).heap[w.heap.size]?=some (.cells (c8 N (S+2 ^ (8*i)*z)) 5)):=box (by rw [setCell_row r0,c8_push N S i z _ hlt HE.out.1 z256 rfl]);have HX:=box hx;have dl:decide (i<=L)=true:=by rw [decide_eq_true_iff];omega
      clear hx hq hz2 hg NE;go_wp2_with fail
      refine (nat_at a i x s HS.out HX.out NA.out _).mono ?_;rintro e w' ⟨rfl,rfl⟩;go_wp2
      go_roundw
      case rel=>exact⟨i+1,g,_,by omega,g2,by first|rfl|go_num,by go_num,RS.out,hbw.setCell (Nat.le_refl _) _,NX⟩
      case measure=>simp [intOf] <;> omega
    . obtain rfl:i=N:=by omega
      have e:S=2*a+o:=by
        have h:=HE.out.2;rw [Nat.mod_eq_of_lt LA.out] at h;have h2:=LAB.out
        by_cases hc0:c=0
        . rw [hc0] at h;omega
        . have:2 ^ (8*i)*1<=2 ^ (8*i)*c:=Nat.mul_le_mul_left _ (by omega)
          omega
      subst e;have FX:=box HE.out.1;clear HE;have dl:decide (i<=L)=false:=by rw [decide_eq_false_iff_not];omega
      go_wp2_with fail
      refine (nat_fit i (2*a+o) w.heap.size i v (by omega) FX.out HV.out _ r0).mono ?_;rintro e w' ⟨rfl,hb2⟩;go_wp2
      go_ret
      exact⟨rfl,hbw.trans (hb2.mono hbw.size)⟩

theorem nat_bit (a i:Nat)(s:ByteArray)(o:Nat)(hs:nbA a=s)(ho:(a.testBit i).toNat=o)(ha:nl a<=100000)(hi:i<=10000000)(w:World) :
    Calls Tryz.prog 146 #[.string s,.int .i64 (i:Nat)] w fun e w'=>e=.returned (.int .i64 (o:Nat))/\w'=w:=by
  obtain⟨q,hq⟩:∃ q,q=i / 8:=⟨_,rfl⟩;obtain⟨r,hr⟩:∃ r,r=i % 8:=⟨_,rfl⟩;have q1:(i:Int) / 8=(q:Int):=by omega
  have r1:(i:Int) % 8=(r:Int):=by omega
  have r8:r<8:=by omega
  obtain⟨x,hx⟩:∃ x,d8 a q=x:=⟨_,rfl⟩;have x256:x<256:=by rw [<-hx];exact d8_lt a q
  have e:x / 2 ^ r % 2=o:=by rw [<-ho,<-hx,hq,hr,bit_of_d8,testBit_toNat]
  have hb:bits .and .i64 ((x:Int) / 2 ^ r) 1=(o:Int):=by
    obtain⟨y,hy⟩:∃ y,x / 2 ^ r=y:=⟨_,rfl⟩;have e2:(x:Int) / 2 ^ r=(y:Int):=by rw [<-hy];exact div_cast x r
    have y256:y<256:=by rw [<-hy];exact Nat.lt_of_le_of_lt (Nat.div_le_self _ _) x256
    rw [e2]
    show IntKind.i64.wrap ((BitVec.ofInt 64 (y:Int) &&& BitVec.ofInt 64 1).toNat:Int)=_
    have h1:(BitVec.ofInt 64 1).toNat=2 ^ 1-1:=by decide
    have h2:(BitVec.ofInt 64 (y:Int)).toNat=y:=by simp;omega
    rw [BitVec.toNat_and,h1,Nat.and_two_pow_sub_one_eq_mod,h2,wrap_i64_is _ (by omega) (by omega),<-e,hy]
  have HX:=box hx;clear hq hr hx e ho
  go_enter Tryz.func146,Tryz.ntmps146
  go_wp2_with fail
  refine (nat_at a q x s hs HX.out ha _).mono ?_;rintro e w' ⟨rfl,rfl⟩;go_wp2
  go_ret
  exact⟨rfl,rfl⟩
def lg (x:Nat):ByteArray×Int:=if nl x<=16384 then (nbA x,0) else (⟨#[]⟩,4)
def sb (a b:Nat):ByteArray×Int:=if a<b then (⟨#[]⟩,2) else (nbA (a-b),0)

theorem nat_long (x:Nat)(s v:ByteArray)(e:Int)(hs:nbA x=s)(hr:lg x=(v,e))(w:World) :
    Calls Tryz.prog 164 #[.string s] w fun r w'=>r=.returned (.tuple #[.string v,.int .i64 e])/\w'=w:=by
  have hz:s.size=nl x:=by rw [<-hs,nbA_size]
  unfold lg at hr
  by_cases h:nl x<=16384
  . rw [if_pos h] at hr
    injection hr with h1 h2;subst h2;rw [<-h1,hs];exact nat_long_ok s (by omega) w
  . rw [if_neg h] at hr
    injection hr with h1 h2;subst h2 h1;exact nat_long_no s (by omega) w

theorem nat_Add (a b:Nat)(s t v:ByteArray)(e:Int)(hs:nbA a=s)(ht:nbA b=t)(hr:lg (a+b)=(v,e))(ha:nl a<=20000)(hb:nl b<=20000)(w:World) :
    Calls Tryz.prog 153 #[.string s,.string t] w fun r w'=>r=.returned (.tuple #[.string v,.int .i64 e])/\Below w.heap.size w w':=by
  obtain⟨u,hu⟩:∃ u,nbA (a+b)=u:=⟨_,rfl⟩;have HU:=box hu;have HR:=box hr;clear hu hr
  go_enter Tryz.func153,Tryz.ntmps153
  go_wp2_with fail
  refine (nat_add a b s t u hs ht HU.out ha hb _).mono ?_;rintro r w1 ⟨rfl,hb1⟩;go_wp2_with fail
  refine (nat_long (a+b) u v e HU.out HR.out _).mono ?_;rintro r w' ⟨rfl,rfl⟩;go_wp2
  go_ret2
  exact⟨rfl,hb1⟩

theorem blen_nl (n L x:Nat)(h:n≠0)(hL:nl n=L)(hx:d8 n (L-1)=x):8*(L-1)+blen x=blen n:=by
  have hp:=nl_pos n h;have ht:=nl_top n h;have hl:=nl_lt n;rw [hL] at hp ht hl;rw [hx] at ht;obtain⟨k,rfl⟩:∃ k,L=k+1:=⟨L-1,by omega⟩;rw [Nat.add_sub_cancel] at hx ⊢;have e:=mod_d8 n k;rw [Nat.mod_eq_of_lt hl,hx] at e;rw [e,blen_push _ _ _ (Nat.mod_lt _ (Nat.two_pow_pos _)) ht]

theorem nat_Len (n l:Nat)(s:ByteArray)(hs:nbA n=s)(h:nl n<=16384)(hl:blen n=l)(w:World) :
    Calls Tryz.prog 121 #[.string s] w fun r w'=>r=.returned (.int .i64 (l:Nat))/\w'=w:=by
  obtain⟨L,hL⟩:∃ L,nl n=L:=⟨_,rfl⟩;have hz:s.size=L:=by rw [<-hs,nbA_size,hL]
  have hm:mayB s=true:=by rw [<-hs];exact mayB_nb n h
  have HM:=box hm;have d2:=eq_empty s;rw [hL] at h
  by_cases h0:n=0
  . have e:l=0:=by rw [<-hl,h0];rfl
    have e2:L=0:=by rw [<-hL,h0];exact nl_zero
    subst e;rw [decide_eq_true (by omega)] at d2;clear hs hl hL hm h0
    go_enter Tryz.func121,Tryz.ntmps121
    go_wp2_with fail
    refine (nat_may s true HM.out _).mono ?_;rintro r w' ⟨rfl,rfl⟩;go_wp2
    go_ret
    exact⟨rfl,rfl⟩
  . have hp:=nl_pos n h0
    rw [hL] at hp;rw [decide_eq_false (by omega)] at d2;have hp2:0<s.size:=by omega
    obtain⟨x,hx⟩:∃ x,(s[0]'hp2).toNat=x:=⟨_,rfl⟩
    have hxd:d8 n (L-1)=x:=by
      rw [<-hx];subst hs;rw [nbA_get,hL]
      rfl
    have x256:x<256:=by rw [<-hxd];exact d8_lt _ _
    have hb:=blen_nl n L x h0 hL hxd;obtain⟨y,hy⟩:∃ y,blen x=y:=⟨_,rfl⟩;rw [hy,hl] at hb;have y8:y<=8:=by rw [<-hy];exact blen_le_of x 8 (by rw [<-two8];exact x256)
    have HY:=box hy;have hi:=idx_run s 0 0 x rfl hp2 hx;have n1:IntKind.i64.wrap ((L:Int)-1)=(L:Int)-1:=wrap_i64_is _ (by omega) (by omega);have n2:IntKind.i64.wrap (8*((L:Int)-1))=8*((L:Int)-1):=wrap_i64_is _ (by omega) (by omega);have n3:IntKind.i64.wrap (8*((L:Int)-1)+(y:Int))=(l:Int):=by rw [wrap_i64_is _ (by omega) (by omega)];omega
    have n4:IntKind.u64.wrap (x:Int)=(x:Int):=by rw [IntKind.wrap_u64];omega
    have X64:Box (x<18446744073709551616):=box (by omega);clear hs hl hL hm h0 hxd hb hy hx
    go_enter Tryz.func121,Tryz.ntmps121
    go_wp2_with fail
    refine (nat_may s true HM.out _).mono ?_;rintro r w' ⟨rfl,rfl⟩;go_wp2_with fail
    refine (rlen_is x y X64.out HY.out _).mono ?_;rintro r w' ⟨rfl,rfl⟩;go_wp2
    go_ret
    exact⟨rfl,rfl⟩

def LowB (n t:Nat):Prop:=n % 2 ^ t=0/\n.testBit t=true
theorem lowB_one (n s t:Nat)(h:LowB n s)(g:LowB n t):s=t:=by
  have hlt:∀ a b,LowB n a->LowB n b->¬ a<b:=by
    intro a b ha hb hab;have h1:=Nat.testBit_mod_two_pow n b a;rw [hb.1,ha.2] at h1
    simp [hab] at h1
  have h1:=hlt s t h g;have h2:=hlt t s g h;omega
theorem lowB_ex:∀ (k n:Nat),n≠0->n<2 ^ k->∃ t,t<k/\LowB n t
  | 0,n,h,hn=>by rw [Nat.pow_zero] at hn;omega
  | k+1,n,h,hn=>by
    by_cases h2:n % 2=0
    . obtain⟨t,h3,h4,h5⟩:=lowB_ex k (n / 2) (by omega) (by rw [Nat.pow_succ] at hn;omega)
      refine ⟨t+1,by omega,?_,?_⟩
      . rw [Nat.pow_succ,Nat.mul_comm,Nat.mod_mul,h2,h4]
      . rw [Nat.testBit_succ];exact h5
    . exact⟨0,by omega,by rw [Nat.pow_zero,Nat.mod_one],by rw [Nat.testBit_zero];simp;omega⟩
theorem lowB_any (n:Nat)(h:n≠0):∃ t,LowB n t:=by
  obtain⟨t,_,ht⟩:=lowB_ex _ n h (blen_lt n);exact⟨t,ht⟩
theorem lowB_d8 (n i r:Nat)(h0:n % 2 ^ (8*i)=0)(h:LowB (d8 n i) r)(hr:r<8):LowB n (8*i+r):=by
  have hb:=d8_bit n i r;refine ⟨?_,?_⟩
  . rw [Nat.pow_add,Nat.mod_mul,h0,Nat.zero_add]
    have h1:=h.1
    unfold d8 at h1
    rw [two8,Nat.mod_mod_of_dvd _ (Nat.pow_dvd_pow 2 (by omega:r<=8))] at h1;rw [h1,Nat.mul_zero]
  . rw [h.2,decide_eq_true hr,Bool.true_and] at hb
    exact hb.symm

def LowN (n t:Nat):Prop:=(n=0/\t=0)∨(n≠0/\LowB n t)
theorem nat_Low (n t:Nat)(s:ByteArray)(hs:nbA n=s)(h:nl n<=16384)(ht:LowN n t)(w:World) :
    Calls Tryz.prog 109 #[.string s] w fun r w'=>r=.returned (.int .i64 (t:Nat))/\w'=w:=by
  obtain⟨L,hL⟩:∃ L,nl n=L:=⟨_,rfl⟩;have hz:s.size=L:=by rw [<-hs,nbA_size,hL]
  have hm:mayB s=true:=by rw [<-hs];exact mayB_nb n h
  have HM:=box hm;rw [hL] at h;have HS:=box hs;have HT:=box ht;have HL:=box hL;have NA:Box (nl n<=100000):=box (by omega);clear hs hL hm ht
  go_enter Tryz.func109,Tryz.ntmps109
  go_wp2_with fail
  refine (nat_may s true HM.out _).mono ?_;rintro r w' ⟨rfl,rfl⟩;go_wp2
  go_loop [3] (fun iv=>∃ i:Nat,i<=L/\iv=.int .i64 i/\Box (n % 2 ^ (8*i)=0)) (fun iv=>L-(intOf iv).toNat)
  case atStart=>exact⟨0,by omega,rfl,box (by rw [Nat.mul_zero,Nat.pow_zero,Nat.mod_one])⟩
  case round=>
    obtain⟨i,hi,rfl,HE⟩:=hrel
    by_cases hlt:i<L
    . obtain⟨x,hx⟩:∃ x,d8 n i=x:=⟨_,rfl⟩
      have x256:x<256:=by rw [<-hx];exact d8_lt _ _
      have dl:decide (i<L)=true:=decide_eq_true hlt;have HX:=box hx
      by_cases h0:x=0
      . have y:((x:Int) != 0)=false:=by rw [h0];rfl
        have NX:Box (n % 2 ^ (8*(i+1))=0):=box (by rw [mod_d8,HE.out,hx,h0,Nat.mul_zero]);clear hx h0;go_wp2_with fail
        refine (nat_at n i x s HS.out HX.out NA.out _).mono ?_;rintro r w' ⟨rfl,rfl⟩;go_wp2
        go_round
        case rel=>exact⟨i+1,by omega,by go_num,NX⟩
        case measure=>simp [intOf] <;> omega
      . have y:((x:Int) != 0)=true:=by simp;omega
        obtain⟨r,hr8,hr⟩:=lowB_ex 8 x h0 (by rw [<-two8];exact x256);have LI:Box (LowIs x r):=box ⟨by omega,hr.1,hr.2⟩
        have e:8*i+r=t:=by
          have h1:=lowB_d8 n i r HE.out (by rw [hx];exact hr) hr8
          rcases HT.out with ⟨h2,h3⟩|⟨h2,h3⟩
          . exact absurd (show x=0 by rw [<-hx,h2,d8_zero]) h0
          . exact lowB_one n _ _ h1 h3
        have n2:IntKind.i64.wrap (8*(i:Int))=8*(i:Int):=wrap_i64_is _ (by omega) (by omega);have n3:IntKind.i64.wrap (8*(i:Int)+(r:Int))=(t:Int):=by rw [wrap_i64_is _ (by omega) (by omega)];omega
        have n4:IntKind.u64.wrap (x:Int)=(x:Int):=by rw [IntKind.wrap_u64];omega
        have X64:Box (x<18446744073709551616):=box (by omega);clear hx hr e h0;go_wp2_with fail
        refine (nat_at n i x s HS.out HX.out NA.out _).mono ?_;rintro r w' ⟨rfl,rfl⟩;go_wp2_with fail
        refine (nat_at n i x s HS.out HX.out NA.out _).mono ?_;rintro r w' ⟨rfl,rfl⟩;go_wp2_with fail
        refine (rlow_any x r X64.out LI.out _).mono ?_;rintro r w' ⟨rfl,rfl⟩;go_wp2
        go_ret
        exact⟨rfl,rfl⟩
    . obtain rfl:i=L:=by omega
      have e:t=0:=by
        have h1:=HE.out;rw [Nat.mod_eq_of_lt (by rw [<-HL.out];exact nl_lt n)] at h1
        rcases HT.out with ⟨h2,h3⟩|⟨h2,h3⟩
        . exact h3
        . exact absurd h1 h2
      subst e;have dl:decide (i<i)=false:=by rw [decide_eq_false_iff_not];omega
      go_wp2
      go_ret
      exact⟨rfl,rfl⟩

theorem d8_wd (n i q r:Nat)(hq:q=i / 8)(hr:r=8*(i % 8)):wd n q / 2 ^ r % 256=d8 n i:=by
  rw [two8,field_num n q r 8 (8*i) (by omega) (by omega)]
  unfold d8
  rw [two8]
theorem Q48:∃ L,L=48/\Q=2 ^ (8*L):=by
  obtain⟨L,hL,hQ⟩:=Q_of;exact⟨8*L,by omega,by rw [hQ];congr 1;omega⟩

set_option maxHeartbeats 1000000 in
set_option maxRecDepth 100000 in
theorem nat_OfWide (n:Nat)(v:ByteArray)(hn:n<Q)(hv:nbA n=v)(w:World) :
    Calls Tryz.prog 63 #[.agg (cw 6 n)] w fun r w'=>r=.returned (.string v)/\Below w.heap.size w w':=by
  obtain⟨K,hK,hQ⟩:=Q48;rw [hQ] at hn;have hat:=cw_at 6;have hmk:=c8_makeI K 48 (by omega) (by omega);have HV:=box hv;have HN:=box hn;have k1:K<=48:=by omega
  have k2:48<=K:=by omega
  clear hv hn hQ hK
  go_enter Tryz.func63,Tryz.ntmps63
  go_wp2
  clear hmk
  go_loopw [4] (fun iv wr=>∃ i:Nat,i<=K/\iv=.int .i64 i/\wr.heap[w.heap.size]?=some (.cells (cw 6 n) 42)/\wr.heap[w.heap.size+1]?=some (.cells (c8 K (n % 2 ^ (8*i))) 5)/\Below w.heap.size w wr) (fun iv _=>K-(intOf iv).toNat)
  case atStart=>
    refine ⟨0,by omega,rfl,?_,?_,((Below.refl _ _).alloc (Nat.le_refl _) _).alloc (by simp) _⟩
    . rw [heap_below _ _ _ (by simp)];exact heap_alloc_last _ _
    . rw [Nat.mul_zero,Nat.pow_zero,Nat.mod_one,<-size_al w (.cells (cw 6 n) 42)];exact heap_alloc_last _ _
  case round=>
    obtain⟨i,hi,rfl,r0,r1,hbw⟩:=hrel
    by_cases hlt:i<K
    . obtain⟨q,hq⟩:∃ q,q=i / 8:=⟨_,rfl⟩
      obtain⟨r,hr⟩:∃ r,r=8*(i % 8):=⟨_,rfl⟩;obtain⟨z,hz⟩:∃ z,d8 n i=z:=⟨_,rfl⟩;have z256:z<256:=by rw [<-hz];exact d8_lt n i
      have q1:(i:Int) / 8=(q:Int):=by omega
      have r1':8*((i:Int) % 8)=(r:Int):=by omega
      have q6:q<6:=by omega
      have r64:r<64:=by omega
      have n4:IntKind.u8.wrap ((wd n q:Int) / 2 ^ r)=(z:Int):=by
        rw [div_cast];exact wrap_u8_is _ z (by rw [<-hz];exact d8_wd n i q r hq hr)
      have c0:=row_cell r0 q q6;have c1:=c8_cell r1 hlt;have f0:=fz (k:=i) r1;have RS:Box ((wr.setCell ⟨w.heap.size+1,i,none⟩ (.int .u8 (z:Int))).heap[w.heap.size+1]?=some (.cells (c8 K (n % 2 ^ (8*(i+1)))) 5)):=box (by rw [setCell_row r1,c8_push K _ i z _ hlt (Nat.mod_lt _ (Nat.two_pow_pos _)) z256 rfl,mod_d8,hz]);have dl:decide ((i:Int)<48)=true:=by rw [decide_eq_true_iff];omega
      clear hr hz hq;go_wp2
      go_roundw
      case rel=>exact⟨i+1,by omega,by go_num,(setCell_other (w:=wr) (by omega)).trans r0,RS.out,hbw.setCell (by show w.heap.size<=w.heap.size+1;omega) _⟩
      case measure=>simp [intOf] <;> omega
    . obtain rfl:i=K:=by omega
      rw [Nat.mod_eq_of_lt HN.out] at r1;have dl:decide ((i:Int)<48)=false:=by rw [decide_eq_false_iff_not];omega
      go_wp2_with fail
      refine (nat_fit i n (w.heap.size+1) i v (by omega) HN.out HV.out _ r1).mono ?_;rintro e w' ⟨rfl,hb2⟩;go_wp2
      go_ret
      exact⟨rfl,hbw.trans (hb2.mono hbw.size)⟩

theorem toWide_step (n i q r x:Nat)(hq:q=i / 8)(hr:r=8*(i % 8))(hx:d8 n i=x):n % 2 ^ (8*i) ||| x*2 ^ r*2 ^ (64*q)=n % 2 ^ (8*(i+1)):=by
  rw [Nat.mul_assoc,<-Nat.pow_add,show r+64*q=8*i by omega,mod_d8,hx,Nat.mul_comm (2 ^ (8*i)) x];exact (or_disj _ _ _ (Nat.mod_lt _ (Nat.two_pow_pos _))).symm

theorem trows2 (w:World):RowsL w ((w.alloc (.cells (cw 6 0) 42)).alloc (.cells (cw 6 0) 42)) [0,0]:=rowsL_new (rowsL_new (rowsL_nil w) rfl 0) (by simp) 0

set_option maxHeartbeats 2000000 in
set_option maxRecDepth 100000 in
theorem nat_ToWide (n:Nat)(s:ByteArray)(hs:nbA n=s)(h:nl n<=48)(w:World) :
    Calls Tryz.prog 71 #[.string s] w fun r w'=>r=.returned (.tuple #[.agg (cw 6 n),.bool true])/\Below w.heap.size w w':=by
  have hat:=cw_at 6;have hz:=cw6z;have hf:=cw6f;have hs0:=st0;have hcs:∀ x,((cw 6 x).size=6)=True:=fun x=>eq_true (cw_size 6 x);obtain⟨L,hL⟩:∃ L,nl n=L:=⟨_,rfl⟩;have hsz:s.size=L:=by rw [<-hs,nbA_size,hL]
  have hm:mayB s=true:=by rw [<-hs];exact mayB_nb n (by omega)
  have HM:=box hm;have ln:=nl_lt n;rw [hL] at h ln;have HS:=box hs;have HN:=box ln;have NA:Box (nl n<=100000):=box (by omega);have d1:decide ((48:Int)<(L:Int))=false:=by rw [decide_eq_false_iff_not];omega
  clear hs hL hm ln
  go_enter Tryz.func71,Tryz.ntmps71
  go_wp2_with fail
  refine (nat_may s true HM.out _).mono ?_;rintro r w' ⟨rfl,hw'⟩;have R0:=trows2 w;rw [<-hw'] at R0;clear hw';go_wp2
  go_loopw [5] (fun iv wr=>∃ i:Nat,i<=L/\iv=.int .i64 i/\RowsL w wr [0,n % 2 ^ (8*i)]) (fun iv _=>L-(intOf iv).toNat)
  case atStart=>exact⟨0,by omega,rfl,by rw [Nat.mul_zero,Nat.pow_zero,Nat.mod_one];exact R0⟩
  case round=>
    clear R0;obtain⟨i,hi,rfl,R⟩:=hrel
    by_cases hlt:i<L
    . obtain⟨q,hq⟩:∃ q,q=i / 8:=⟨_,rfl⟩
      obtain⟨r,hr⟩:∃ r,r=8*(i % 8):=⟨_,rfl⟩;obtain⟨x,hx⟩:∃ x,d8 n i=x:=⟨_,rfl⟩;have x256:x<256:=by rw [<-hx];exact d8_lt n i
      have q1:(i:Int) / 8=(q:Int):=by omega
      obtain⟨r0,hr0⟩:∃ r0,i % 8=r0:=⟨_,rfl⟩;have tm:(i:Int).tmod 8=(r0:Int):=by rw [Int.tmod_eq_emod_of_nonneg (by omega)];omega
      have w1:IntKind.i64.wrap (q:Int)=(q:Int):=wrap_i64_is _ (by omega) (by omega);have w2:IntKind.i64.wrap (8*(r0:Int))=(r:Int):=by rw [wrap_i64_is _ (by omega) (by omega)];omega
      have w3:IntKind.u64.wrap (r:Int)=(r:Int):=by rw [IntKind.wrap_u64];omega
      have q6:q<6:=by omega
      have r64:r<64:=by omega
      have qi6:(q:Int)<6:=by omega
      have HST:=box (toWide_step n i q r x hq hr hx);obtain⟨y,hy⟩:∃ y,x*2 ^ r=y:=⟨_,rfl⟩
      have y64:y<18446744073709551616:=by
        rw [<-hy];have h1:x*2 ^ r<256*2 ^ r:=Nat.mul_lt_mul_of_pos_right x256 (Nat.two_pow_pos r);have h2:2 ^ r<=2 ^ 56:=Nat.pow_le_pow_right (by decide) (by omega);have h3:256*2 ^ r<=256*2 ^ 56:=Nat.mul_le_mul_left _ h2;have h4:256*2 ^ 56=18446744073709551616:=by decide
        omega
      have n4:IntKind.u64.wrap (x:Int)=(x:Int):=by rw [IntKind.wrap_u64];omega
      have n5:IntKind.u64.wrap ((x:Int)*2 ^ r)=(y:Int):=by
        rw [pow_cast,<-Int.natCast_mul,hy];exact wrap_nat y y64
      rw [hy] at HST;obtain⟨X,hX⟩:∃ X,n % 2 ^ (8*i)=X:=⟨_,rfl⟩;obtain⟨Y,hY⟩:∃ Y,n % 2 ^ (8*(i+1))=Y:=⟨_,rfl⟩;rw [hX] at R;rw [hX,hY] at HST;have x3:=bor X q y y64;have x4:=cw_or 6 X q y Y q6 y64 HST.out.symm;have R2:RowsL w (wr.setCell ⟨w.heap.size+1,q,none⟩ (.int .u64 ((wd X q ||| y:Nat):Int))) [0,Y]:=rowsL_setCell R 1 X Y _ q _ rfl rfl x4 rfl;have HY:=box hY;have HX:=box hx;have c1:=row_cell (rows1 R) q q6;have f0:=fz (k:=q) (rows1 R);have dl:decide (i<L)=true:=decide_eq_true hlt;clear hr hx hq hy hX hY HST x4 hr0;go_wp2
      go_region_with (go_at_call 125;refine (nat_at n i x s HS.out HX.out NA.out _).mono ?_;rintro r w' ⟨rfl,rfl⟩)
      all_goals go_wp2
      all_goals go_roundw
      all_goals first|(show (_:Nat)<_;simp [intOf];omega)|exact⟨i+1,by omega,by go_num,by rw [HY.out];exact rowsL_drew R2 1⟩
    . obtain rfl:i=L:=by omega
      have dl:decide (i<i)=false:=by rw [decide_eq_false_iff_not];omega
      rw [Nat.mod_eq_of_lt HN.out] at R;have hst:=st_any wr w.heap.size n 0 (rows0 R);have c1:=row_cell (rows1 R);have R2:RowsL w (wr.setRow w.heap.size (cw 6 n)) [n,n]:=rowsL_set R 0 n _ (by simp) rfl rfl;have c2:=row_cell (rows0 R2);go_wp2
      exact bodyPost_ret (v:=.tuple #[.agg (cw 6 n),.bool true]) (by simp [results,Tryz.results71,go_sem,c2,hf]) rfl ⟨rfl,R2.2⟩
theorem lg_ok (n:Nat)(v:ByteArray)(h:nl n<=16384)(hv:nbA n=v):lg n=(v,0):=by unfold lg;rw [if_pos h,hv]

def lf (a:Nat)(n:Int):ByteArray×Int:=if n<0 then (⟨#[]⟩,2) else lg (a*2 ^ n.toNat)

theorem blen_pow (a n:Nat)(h:a≠0):blen (a*2 ^ n)=blen a+n:=by
  have h1:=blen_le a h;have h2:=blen_lt a;have h3:=blen_pos a h;have h4:=Nat.mul_le_mul_right (2 ^ n) h1;have h5:=Nat.mul_lt_mul_of_pos_right h2 (Nat.two_pow_pos n);rw [<-Nat.pow_add] at h4 h5
  have:=blen_of (a*2 ^ n) (blen a-1+n) h4 (by rw [show blen a-1+n+1=blen a+n by omega];exact h5)
  omega

theorem left_byte (a i n q r p x z X:Nat)(hq:q=n / 8)(hr:r=n % 8)(hp:p=i+q)(hx:d8 a i*2 ^ r=x)(hz:x % 256=z)(hX:X=(a % 2 ^ (8*i))*2 ^ n) :
    X ||| z*2 ^ (8*p)=X+z*2 ^ (8*p)/\X ||| z*2 ^ (8*p)<2 ^ (8*(p+1))/\X+z*2 ^ (8*p)+2 ^ (8*(p+1))*(x / 256)=(a % 2 ^ (8*(i+1)))*2 ^ n:=by
  have r8:r<8:=by omega
  have e0:8*p+r=8*i+n:=by omega
  have hXl:X<2 ^ (8*p+r):=by
    rw [hX,e0,Nat.pow_add];exact Nat.mul_lt_mul_of_pos_right (Nat.mod_lt _ (Nat.two_pow_pos _)) (Nat.two_pow_pos n)
  have ez:z=(d8 a i % 2 ^ (8-r))*2 ^ r:=by
    rw [<-hz,<-hx,<-Nat.mul_mod_mul_right,<-Nat.pow_add,show 8-r+r=8 by omega]
  have e1:z*2 ^ (8*p)=(d8 a i % 2 ^ (8-r))*2 ^ (8*p+r):=by rw [ez,Nat.mul_assoc,<-Nat.pow_add,Nat.add_comm r]
  have e2:X ||| z*2 ^ (8*p)=X+z*2 ^ (8*p):=by rw [e1];exact (or_disj _ _ _ hXl).symm
  have e3:2 ^ (8*p)*x=2 ^ (8*i)*d8 a i*2 ^ n:=by
    rw [<-hx,Nat.mul_left_comm,<-Nat.pow_add,e0,Nat.pow_add,<-Nat.mul_assoc,Nat.mul_comm (d8 a i)]
  refine ⟨e2,?_,?_⟩
  . refine Nat.or_lt_two_pow (Nat.lt_of_lt_of_le hXl (Nat.pow_le_pow_right (by decide) (by omega))) ?_
    rw [pow8,Nat.mul_comm];exact Nat.mul_lt_mul_of_pos_left (by omega) (Nat.two_pow_pos _)
  . have:=carry_step X (2 ^ (8*p)) x
    rw [hz,<-pow8,Nat.mul_comm (2 ^ (8*p)) z] at this;rw [this,e3,hX,mod_d8,Nat.add_mul]

set_option maxHeartbeats 2000000 in
set_option maxRecDepth 100000 in
theorem nat_left_in (a n:Nat)(s v:ByteArray)(hs:nbA a=s)(h0:a≠0)(ha:nl a<=16384)(hn:blen a+n<=131072)(hv:nbA (a*2 ^ n)=v)(w:World) :
    Calls Tryz.prog 124 #[.string s,.int .i64 (n:Nat)] w fun r w'=>r=.returned (.tuple #[.string v,.int .i64 0])/\Below w.heap.size w w':=by
  obtain⟨L,hL⟩:∃ L,nl a=L:=⟨_,rfl⟩;have hz:s.size=L:=by rw [<-hs,nbA_size,hL]
  have la:=nl_lt a;rw [hL] at la;have hp:=nl_pos a h0;have d2:=eq_empty s;rw [decide_eq_false (by omega)] at d2;obtain⟨q,hq⟩:∃ q,q=n / 8:=⟨_,rfl⟩;obtain⟨r,hr⟩:∃ r,r=n % 8:=⟨_,rfl⟩;obtain⟨N,hN⟩:∃ N,L+q+1=N:=⟨_,rfl⟩;obtain⟨l,hl⟩:∃ l,blen a=l:=⟨_,rfl⟩;have q1:(n:Int) / 8=(q:Int):=by omega
  have r1:(n:Int) % 8=(r:Int):=by omega
  have r8:r<8:=by omega
  have n0:IntKind.i64.wrap ((l:Int)+(n:Int))=(l:Int)+(n:Int):=wrap_i64_is _ (by omega) (by omega);have c1:decide ((131072:Int)<(n:Int))=false:=by rw [decide_eq_false_iff_not];omega
  have c2:decide ((131072:Int)<(l:Int)+(n:Int))=false:=by rw [decide_eq_false_iff_not];omega
  have HL:=box hl;have HA:=box ha;have HS:=box hs;have HV:=box hv;have LA:=box la;have HQ:=box hq;have HR:=box hr;have NA:Box (nl a<=100000):=box (by omega);have hmk:=c8_makeI N ((L:Int)+(q:Int)+1) (by omega) (by omega);have L2:L<=16384:=by omega
  have q2:q<=20000:=by omega
  have XB:Box (a*2 ^ n<2 ^ (8*N)):=box (by
    have h1:2 ^ n<=2 ^ (8*(q+1)):=Nat.pow_le_pow_right (by decide) (by omega);have h2:a*2 ^ n<2 ^ (8*L)*2 ^ n:=Nat.mul_lt_mul_of_pos_right la (Nat.two_pow_pos n);have h3:2 ^ (8*L)*2 ^ n<=2 ^ (8*L)*2 ^ (8*(q+1)):=Nat.mul_le_mul_left _ h1;rw [<-Nat.pow_add 2 (8*L) (8*(q+1)),show 8*L+8*(q+1)=8*N by omega] at h3
    omega)
  clear hs hv hL la h0 ha hl hq hr
  go_enter Tryz.func124,Tryz.ntmps124
  go_wp2_with fail
  refine (nat_Len a l s HS.out HA.out HL.out _).mono ?_;rintro e w' ⟨rfl,hw'⟩;subst hw';go_wp2
  clear hmk c1 c2 d2
  go_loopw [7] (fun iv wr=>∃ i X:Nat,i<=L/\iv=.int .i64 i/\wr.heap[w'.heap.size]?=some (.cells (c8 N X) 5)/\Below w'.heap.size w' wr/\Box (X=(a % 2 ^ (8*i))*2 ^ n)) (fun iv _=>L-(intOf iv).toNat)
  case atStart=>exact⟨0,0,by omega,rfl,heap_alloc_last _ _,(Below.refl _ _).alloc (Nat.le_refl _) _,box (by rw [Nat.mul_zero,Nat.pow_zero,Nat.mod_one,Nat.zero_mul])⟩
  case round=>
    obtain⟨i,X,hi,rfl,r0,hbw,HE⟩:=hrel
    by_cases hlt:i<L
    . obtain⟨d,hd⟩:∃ d,d8 a i=d:=⟨_,rfl⟩
      have d256:d<256:=by rw [<-hd];exact d8_lt _ _
      obtain⟨x,hx⟩:∃ x,d*2 ^ r=x:=⟨_,rfl⟩
      have x16:x<32768:=by
        rw [<-hx];have h1:2 ^ r<=2 ^ 7:=Nat.pow_le_pow_right (by decide) (by omega);have h2:d*2 ^ r<=255*2 ^ 7:=Nat.mul_le_mul (by omega) h1;omega
      obtain⟨p,hp2⟩:∃ p,p=i+q:=⟨_,rfl⟩;obtain⟨z,hz2⟩:∃ z,x % 256=z:=⟨_,rfl⟩;obtain⟨g,hg⟩:∃ g,x / 256=g:=⟨_,rfl⟩;have z256:z<256:=by omega
      have g256:g<256:=by omega
      obtain⟨f1,f2,f3⟩:=left_byte a i n q r p x z X HQ.out HR.out hp2 (by rw [hd];exact hx) hz2 HE.out;rw [hg] at f3;have pi:(i:Int)+(q:Int)=(p:Int):=by omega
      have pN:p<N:=by omega
      have pN1:p+1<N:=by omega
      have n1:(d:Int)*2 ^ r=(x:Int):=by rw [pow_cast,<-Int.natCast_mul,hx]
      have n2:IntKind.i64.wrap (x:Int)=(x:Int):=wrap_i64_is _ (by omega) (by omega);have n6:=wrap_u8_is x z hz2;have n7:(x:Int) / 256=(g:Int):=by omega
      have n8:IntKind.u8.wrap (g:Int)=(g:Int):=wrap_u8_is g g (by omega);obtain⟨Y,hY⟩:∃ Y,X ||| z*2 ^ (8*p)=Y:=⟨_,rfl⟩
      have o8:bits .or .u8 (d8 X p:Nat) (z:Nat)=((d8 X p ||| z:Nat):Int):=by
        show IntKind.u8.wrap ((BitVec.ofInt 8 (d8 X p:Int) ||| BitVec.ofInt 8 (z:Int)).toNat:Int)=_
        have h1:(BitVec.ofInt 8 (d8 X p:Int)).toNat=d8 X p:=by have:=d8_lt X p;simp;omega
        have h2:(BitVec.ofInt 8 (z:Int)).toNat=z:=by simp;omega
        rw [BitVec.toNat_or,h1,h2];exact wrap_u8_is _ _ (Nat.mod_eq_of_lt (or_lt8 _ _ (d8_lt X p) z256))
      have k1:=c8_cell r0 pN;have k2:=fz (k:=p) r0;obtain⟨W1,hW1⟩:∃ W1,wr.setCell ⟨w'.heap.size,p,none⟩ (.int .u8 ((d8 X p ||| z:Nat):Int))=W1:=⟨_,rfl⟩;have r1':W1.heap[w'.heap.size]?=some (.cells (c8 N Y) 5):=by rw [<-hW1,setCell_row r0,c8_or N X p z Y pN z256 hY.symm]
      have b1:Below w'.heap.size w' W1:=by rw [<-hW1];exact hbw.setCell (Nat.le_refl _) _
      have k3:=c8_cell r1' pN1;have k4:=fz (k:=p+1) r1';have RS:Box ((W1.setCell ⟨w'.heap.size,p+1,none⟩ (.int .u8 (g:Int))).heap[w'.heap.size]?=some (.cells (c8 N (X+z*2 ^ (8*p)+2 ^ (8*(p+1))*g)) 5)):=box (by rw [setCell_row r1',c8_push N Y (p+1) g _ pN1 (by rw [<-hY];exact f2) g256 rfl,<-hY,f1]);have NX:=box f3;have HD:=box hd;have dl:decide (i<L)=true:=decide_eq_true hlt;clear hd hx hp2 hz2 hg f1 f2 f3 hY;go_wp2_with fail
      refine (nat_at a i d s HS.out HD.out NA.out _).mono ?_;rintro e w2 ⟨rfl,rfl⟩;go_wp2
      go_roundw
      case rel=>exact⟨i+1,_,by omega,by go_num,RS.out,b1.setCell (Nat.le_refl _) _,NX⟩
      case measure=>simp [intOf] <;> omega
    . obtain rfl:i=L:=by omega
      have dl:decide (i<i)=false:=by rw [decide_eq_false_iff_not];omega
      have e2:=HE.out;rw [Nat.mod_eq_of_lt LA.out] at e2;subst e2;clear HE;go_wp2_with fail
      refine (nat_fit N (a*2 ^ n) w'.heap.size N v (by omega) XB.out HV.out _ r0).mono ?_;rintro e w2 ⟨rfl,hb2⟩;go_wp2
      go_ret2
      exact⟨rfl,hbw.trans (hb2.mono hbw.size)⟩

theorem lf_neg (a:Nat)(n:Int)(h:n<0):lf a n=(⟨#[]⟩,2):=by unfold lf;rw [if_pos h]
theorem lf_long (a:Nat)(n:Int)(h:0<=n)(h0:a≠0)(hl:131072<(blen a:Int)+n):lf a n=(⟨#[]⟩,4):=by
  unfold lf lg
  have e:blen (a*2 ^ n.toNat)=blen a+n.toNat:=blen_pow a _ h0;rw [if_neg (by omega),if_neg]
  unfold nl
  omega
theorem lf_in (a n:Nat)(h0:a≠0)(hl:blen a+n<=131072):lf a (n:Int)=(nbA (a*2 ^ n),0):=by
  unfold lf lg
  rw [if_neg (by omega),Int.toNat_natCast,if_pos];have e:blen (a*2 ^ n)=blen a+n:=blen_pow a _ h0
  unfold nl
  omega
theorem lf_zero (n:Int)(h:0<=n):lf 0 n=(⟨#[]⟩,0):=by
  unfold lf lg
  rw [if_neg (by omega),Nat.zero_mul,nl_zero,if_pos (by omega),nbA_zero]

theorem nat_Left (a:Nat)(n:Int)(s v:ByteArray)(e:Int)(hs:nbA a=s)(ha:nl a<=16384)(hn:n<=9223372036854775807)(hr:lf a n=(v,e))(w:World) :
    Calls Tryz.prog 124 #[.string s,.int .i64 n] w fun r w'=>r=.returned (.tuple #[.string v,.int .i64 e])/\Below w.heap.size w w':=by
  have hz:s.size=nl a:=by rw [<-hs,nbA_size]
  have d2:=eq_empty s
  by_cases h1:n<0
  . rw [lf_neg a n h1] at hr
    injection hr with e1 e2;subst e1 e2;have c0:decide (n<0)=true:=decide_eq_true h1;clear h1 hs
    go_enter Tryz.func124,Tryz.ntmps124
    go_wp2
    go_ret2
    exact⟨rfl,Below.refl _ _⟩
  . have c0:decide (n<0)=false:=decide_eq_false h1
    by_cases h0:a=0
    . subst h0
      rw [lf_zero n (by omega)] at hr;injection hr with e1 e2;subst e1 e2;rw [decide_eq_true (by rw [hz,nl_zero])] at d2;clear h1 hs hz
      go_enter Tryz.func124,Tryz.ntmps124
      go_wp2
      go_ret2
      exact⟨rfl,Below.refl _ _⟩
    . have hp:=nl_pos a h0
      by_cases hl:131072<(blen a:Int)+n
      . rw [lf_long a n (by omega) h0 hl] at hr
        injection hr with e1 e2;subst e1 e2;rw [decide_eq_false (by omega)] at d2;obtain⟨l,hl2⟩:∃ l,blen a=l:=⟨_,rfl⟩;rw [hl2] at hl;have HL:=box hl2;have HS:=box hs;have HA:=box ha
        by_cases hb:131072<n
        . have c1:decide (131072<n)=true:=decide_eq_true hb
          clear h1 hs hz hl hl2 h0 ha hp
          go_enter Tryz.func124,Tryz.ntmps124
          go_wp2
          go_ret2
          exact⟨rfl,Below.refl _ _⟩
        . have c1:decide (131072<n)=false:=decide_eq_false hb
          have lb:l<=131072:=by
            have:=ha
            unfold nl at this
            omega
          have n0:IntKind.i64.wrap ((l:Int)+n)=(l:Int)+n:=wrap_i64_is _ (by omega) (by omega);have c2:decide (131072<(l:Int)+n)=true:=decide_eq_true hl;clear h1 hs hz hl hl2 h0 ha hp
          go_enter Tryz.func124,Tryz.ntmps124
          go_wp2_with fail
          refine (nat_Len a l s HS.out HA.out HL.out _).mono ?_;rintro e w' ⟨rfl,rfl⟩;go_wp2
          go_ret2
          exact⟨rfl,Below.refl _ _⟩
      . obtain⟨m,rfl⟩:∃ m:Nat,n=(m:Int):=⟨n.toNat,by omega⟩
        rw [lf_in a m h0 (by omega)] at hr;injection hr with e1 e2;subst e2;exact nat_left_in a m s v hs h0 ha (by omega) e1 w

theorem lost_low (a n t:Nat)(h:LowB a t):(a % 2 ^ n≠0)↔t<n:=by
  constructor
  . intro h1
    rcases Nat.lt_or_ge t n with h2|h2
    . exact h2
    . exfalso
      apply h1
      obtain⟨d,hd⟩:=Nat.dvd_of_mod_eq_zero h.1
      apply Nat.mod_eq_zero_of_dvd
      refine Nat.dvd_trans (Nat.pow_dvd_pow 2 h2) ?_;exact⟨d,hd⟩
  . intro h1 h2
    have h3:=Nat.testBit_mod_two_pow a n t;rw [h2,h.2,decide_eq_true h1,Nat.zero_testBit] at h3
    cases h3

theorem right_byte (a i n q r p x y t z:Nat)(hq:q=n / 8)(hr:r=n % 8)(hp:p=i+q)(hx:d8 a p=x)(hy:d8 a (p+1)=y)(ht:x+256*y=t)(hz:t / 2 ^ r % 256=z):d8 (a / 2 ^ n) i=z:=by
  have e1:t=a / 2 ^ (8*p) % 2 ^ 16:=by
    rw [<-ht,<-hx,<-hy]
    unfold d8
    rw [pow8,<-Nat.div_div_eq_div_mul];omega
  have e2:a / 2 ^ n / 2 ^ (8*i)=a / 2 ^ (8*p) / 2 ^ r:=by
    rw [Nat.div_div_eq_div_mul,<-Nat.pow_add,Nat.div_div_eq_div_mul,<-Nat.pow_add]
    congr 2
    omega
  unfold d8
  rw [e2,<-hz,e1];generalize a / 2 ^ (8*p)=A;rw [two8];have e3:A % 2 ^ 16=A % 2 ^ (r+(16-r)):=by congr 2;omega
  rw [e3,Nat.pow_add,Nat.mod_mul_right_div_self,Nat.mod_mod_of_dvd];exact Nat.pow_dvd_pow 2 (by omega)

set_option maxHeartbeats 2000000 in
set_option maxRecDepth 100000 in
theorem nat_Right (a:Nat)(n:Int)(s v:ByteArray)(o:Bool)(hs:nbA a=s)(ha:nl a<=16384)(h0:0<=n)(hn:n<=9223372036854775807)(hv:nbA (a / 2 ^ n.toNat)=v)(ho:decide (a % 2 ^ n.toNat≠0)=o)(w:World) :
    Calls Tryz.prog 110 #[.string s,.int .i64 n] w fun r w'=>r=.returned (.tuple #[.string v,.bool o,.int .i64 0])/\Below w.heap.size w w':=by
  obtain⟨n,rfl⟩:∃ m:Nat,n=(m:Int):=⟨n.toNat,by omega⟩;rw [Int.toNat_natCast] at hv ho;have c0:decide ((n:Int)<0)=false:=by rw [decide_eq_false_iff_not];omega
  obtain⟨L,hL⟩:∃ L,nl a=L:=⟨_,rfl⟩;have hz:s.size=L:=by rw [<-hs,nbA_size,hL]
  have d2:=eq_empty s
  by_cases ha0:a=0
  . subst ha0
    rw [Nat.zero_div,nbA_zero] at hv;rw [Nat.zero_mod] at ho;subst hv ho;rw [decide_eq_true (by rw [hz,<-hL,nl_zero])] at d2;clear hs hz hL
    go_enter Tryz.func110,Tryz.ntmps110
    go_wp2
    exact bodyPost_ret (v:=.tuple #[.string ⟨#[]⟩,.bool false,.int .i64 0]) (by simp [results,Tryz.results110,go_sem]) rfl ⟨rfl,Below.refl _ _⟩
  . have hp:=nl_pos a ha0
    have la:=nl_lt a;rw [hL] at hp la ha;rw [decide_eq_false (by omega)] at d2;obtain⟨t,ht⟩:=lowB_any a ha0;have hlo:=lost_low a n t ht;have hLN:LowN a t:=Or.inr ⟨ha0,ht⟩;have e1:decide (t<n)=o:=by rw [<-ho];exact decide_eq_decide.2 hlo.symm
    have HS:=box hs;have HA:Box (nl a<=16384):=box (by omega);have HN:=box hLN;have NA:Box (nl a<=100000):=box (by omega);have n0:IntKind.i64.wrap (8*(L:Int))=8*(L:Int):=wrap_i64_is _ (by omega) (by omega);have LA:=box la
    by_cases hb:8*L<=n
    . have c1:decide (8*(L:Int)<=(n:Int))=true:=by rw [decide_eq_true_iff];omega
      have ev:v=⟨#[]⟩:=by
        rw [<-hv,Nat.div_eq_of_lt (Nat.lt_of_lt_of_le la (Nat.pow_le_pow_right (by decide) hb)),nbA_zero]
      subst ev;clear hs hL hv ho ht hlo hLN hb la ha0
      go_enter Tryz.func110,Tryz.ntmps110
      go_wp2_with fail
      refine (nat_Low a t s HS.out HA.out HN.out _).mono ?_;rintro e w' ⟨rfl,rfl⟩;go_wp2
      exact bodyPost_ret (v:=.tuple #[.string ⟨#[]⟩,.bool o,.int .i64 0]) (by simp [results,Tryz.results110,go_sem]) rfl ⟨rfl,Below.refl _ _⟩
    . have c1:decide (8*(L:Int)<=(n:Int))=false:=by rw [decide_eq_false_iff_not];omega
      obtain⟨q,hq⟩:∃ q,q=n / 8:=⟨_,rfl⟩;obtain⟨r,hr⟩:∃ r,r=n % 8:=⟨_,rfl⟩;obtain⟨m,hm⟩:∃ m,L-q=m:=⟨_,rfl⟩;obtain⟨b,hb2⟩:∃ b,a / 2 ^ n=b:=⟨_,rfl⟩;have q1:(n:Int) / 8=(q:Int):=by omega
      have r1:(n:Int) % 8=(r:Int):=by omega
      have r8:r<8:=by omega
      have m1:(L:Int)-(q:Int)=(m:Int):=by omega
      have bm:b<2 ^ (8*m):=by
        rw [<-hb2,Nat.div_lt_iff_lt_mul (Nat.two_pow_pos _),<-Nat.pow_add];exact Nat.lt_of_lt_of_le la (Nat.pow_le_pow_right (by decide) (by omega))
      have HB:=box hb2;have BM:=box bm;have HQ:=box hq;have HR:=box hr;rw [hb2] at hv;have HV:=box hv;have hmk:=c8_make m (by omega);have m2:m<=16384:=by omega
      have q2:q<=16384:=by omega
      have qm:q+m=L:=by omega
      have L2:L<=16384:=by omega
      clear hs hL hv ho ht hlo hLN hb la ha0 hq hr hm hb2 bm
      go_enter Tryz.func110,Tryz.ntmps110
      go_wp2_with fail
      refine (nat_Low a t s HS.out HA.out HN.out _).mono ?_;rintro e w' ⟨rfl,hw'⟩;subst hw';go_wp2
      clear hmk c0 c1 d2 e1
      go_loopw [10] (fun iv wr=>∃ i:Nat,i<=m/\iv=.int .i64 i/\wr.heap[w'.heap.size]?=some (.cells (c8 m (b % 2 ^ (8*i))) 5)/\Below w'.heap.size w' wr) (fun iv _=>m-(intOf iv).toNat)
      case atStart=>exact⟨0,by omega,rfl,by rw [Nat.mul_zero,Nat.pow_zero,Nat.mod_one];exact heap_alloc_last _ _,(Below.refl _ _).alloc (Nat.le_refl _) _⟩
      case round=>
        obtain⟨i,hi,rfl,r0,hbw⟩:=hrel
        by_cases hlt:i<m
        . obtain⟨p,hp2⟩:∃ p,p=i+q:=⟨_,rfl⟩
          obtain⟨p1,hp1⟩:∃ p1,p1=p+1:=⟨_,rfl⟩;obtain⟨x,hx⟩:∃ x,d8 a p=x:=⟨_,rfl⟩;obtain⟨y,hy⟩:∃ y,d8 a p1=y:=⟨_,rfl⟩;have x256:x<256:=by rw [<-hx];exact d8_lt _ _
          have y256:y<256:=by rw [<-hy];exact d8_lt _ _
          obtain⟨u,hu⟩:∃ u,x+256*y=u:=⟨_,rfl⟩;obtain⟨z,hz2⟩:∃ z,u / 2 ^ r % 256=z:=⟨_,rfl⟩;have z256:z<256:=by rw [<-hz2];exact Nat.mod_lt _ (by decide)
          have e1:=right_byte a i n q r p x y u z HQ.out HR.out hp2 hx (by rw [<-hp1];exact hy) hu hz2;rw [HB.out] at e1;have pi:(i:Int)+(q:Int)=(p:Int):=by omega
          have pi1:(p:Int)+1=(p1:Int):=by omega
          obtain⟨Y,hY⟩:∃ Y,256*y=Y:=⟨_,rfl⟩;have n3:(y:Int)*256=(Y:Int):=by omega
          have n4:IntKind.i64.wrap (Y:Int)=(Y:Int):=wrap_i64_is _ (by omega) (by omega)
          have n5:bits .or .i64 (x:Int) (Y:Int)=(u:Int):=by
            show IntKind.i64.wrap ((BitVec.ofInt 64 (x:Int) ||| BitVec.ofInt 64 (Y:Int)).toNat:Int)=_
            have h1:(BitVec.ofInt 64 (x:Int)).toNat=x:=by simp;omega
            have h2:(BitVec.ofInt 64 (Y:Int)).toNat=Y:=by simp;omega
            have h3:x ||| Y=x+Y:=by
              have:=or_disj x y 8 (by rw [<-two8];exact x256)
              rw [<-two8,Nat.mul_comm y,hY] at this;exact this.symm
            rw [BitVec.toNat_or,h1,h2,h3,show x+Y=u by omega,wrap_i64_is _ (by omega) (by omega)]
          have n6:IntKind.u8.wrap ((u:Int) / 2 ^ r)=(z:Int):=by
            rw [div_cast];exact wrap_u8_is _ z hz2
          have k1:=c8_cell r0 hlt;have k2:=fz (k:=i) r0;have RS:Box ((wr.setCell ⟨w'.heap.size,i,none⟩ (.int .u8 (z:Int))).heap[w'.heap.size]?=some (.cells (c8 m (b % 2 ^ (8*(i+1)))) 5)):=box (by rw [setCell_row r0,c8_push m _ i z _ hlt (Nat.mod_lt _ (Nat.two_pow_pos _)) z256 rfl,mod_d8,e1]);have HX:=box hx;have HY:=box hy;have dl:decide (i<m)=true:=decide_eq_true hlt;clear hp2 hp1 hx hy hu hz2 e1 hY;go_wp2_with fail
          refine (nat_at a p x s HS.out HX.out NA.out _).mono ?_;rintro e w2 ⟨rfl,rfl⟩;go_wp2_with fail
          refine (nat_at a p1 y s HS.out HY.out NA.out _).mono ?_;rintro e w2 ⟨rfl,rfl⟩;go_wp2
          go_roundw
          case rel=>exact⟨i+1,by omega,by go_num,RS.out,hbw.setCell (Nat.le_refl _) _⟩
          case measure=>simp [intOf] <;> omega
        . obtain rfl:i=m:=by omega
          have dl:decide (i<i)=false:=by rw [decide_eq_false_iff_not];omega
          rw [Nat.mod_eq_of_lt BM.out] at r0;go_wp2_with fail
          refine (nat_fit i b w'.heap.size i v (by omega) BM.out HV.out _ r0).mono ?_;rintro e w2 ⟨rfl,hb2⟩;go_wp2
          exact bodyPost_ret (v:=.tuple #[.string v,.bool o,.int .i64 0]) (by simp [results,Tryz.results110,go_sem]) rfl ⟨rfl,hbw.trans (hb2.mono hbw.size)⟩

end Go.Proofs.YtdjlfhcalccajaaGreatDoor
