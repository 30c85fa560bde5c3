/-
  What the functions that the statement reaches return: part 4 (Nat1, Nat2, Nat3, Nat4, Nat5).
-/
import Derived.Deep.RegionWith
import Derived.Test.YtapikkbifdldfaaGreatDoorFd03
namespace Go.Proofs.YtapikkbifdldfaaGreatDoor
set_option maxRecDepth 100000
set_option maxHeartbeats 40000000
open Go.RowKit WMath
theorem fit_low (X m:Nat)(h:X<2 ^ (8*(m+1)))(hd:d8 X m=0):X<2 ^ (8*m):=by
 have:=qY X m
 rw [Nat.mod_eq_of_lt h,hd,Nat.mul_zero,Nat.add_zero] at this;rw [this];exact Nat.mod_lt _ (Nat.two_pow_pos _)

theorem nat_fit (L X b c:Nat)(v:ByteArray)(hL:L<=100000)(hX:X<2 ^ (8*L))(hv:yN X=v)(w:World)(row:w.heap[b]?=some (.cells (c8 L X) 5)) :
  Calls Tryz.prog 156 #[.slice (some ⟨b,0,none⟩) L c] w fun e w'=>e=.returned (.string v)/\Below w.heap.size w w':=by
 have hb:b<w.heap.size:=(Array.getElem?_eq_some_iff.1 row).1;have HV:=zJ hv;have HX:=zJ hX;clear hv hX
 go_enter Tryz.func156,Tryz.ntmps156
 go_wp2
 go_loop [3] (fun iv=>∃ k:Nat,k<=L/\iv=.int .i64 k/\zW (X<2 ^ (8*k))) (fun iv=>(intOf iv).toNat)
 case atStart=>exact⟨L,by omega,rfl,HX⟩
 case round=>
  obtain⟨m,hm,rfl,HM⟩:=hrel;have hmk:=c8_make m (by omega)
  by_cases hst:m≠0/\d8 X (m-1)=0
  ·
   obtain⟨k,rfl⟩:∃ k,m=k+1:=⟨m-1,by omega⟩;have hd:d8 X k=0:=hst.2;have c0:=qF row (show k<L by omega);rw [hd] at c0;have NX:=zJ (fit_low X k HM.out hd);clear hst hmk;go_wp2
   go_round
   case rel=>exact⟨k,by omega,by go_num,NX⟩
   case measure=>simp [intOf] <;> omega
  ·
   have hnl:nl X=m:=nl_is X m HM.out (by omega);have HN:=zJ hnl
   have hcase:decide (0<m)=false∨(decide (0<m)=true/\0<m/\((d8 X (m-1):Int) == 0)=false):=by
    by_cases e:m=0
    ·
     left;rw [decide_eq_false_iff_not];omega
    ·
     right
     refine ⟨by rw [decide_eq_true_iff];omega,by omega,?_⟩
     simp only [beq_eq_false_iff_ne]
     omega
   clear hst hnl
   rcases hcase with h0|⟨h0,h1,hd⟩
   all_goals
    try (have c0:=qF row (show m-1<L by omega))
    go_wp2
    clear hmk h0
    try (clear hd c0)
    go_loopw [5] (fun iv wr=>∃ (i Y:Nat),i<=m/\iv=.int .i64 i/\wr.heap[w.heap.size]?=some (.cells (c8 m Y) 5)/\Below w.heap.size w wr/\zW (∀ j,j<m->m-1-i<j+1->(i=0->False)->(m-1-j<i)->d8 Y j=d8 X (m-1-j))) (fun iv _=>m-(intOf iv).toNat)
    case atStart=>exact⟨0,0,by omega,rfl,heap_alloc_last _ _,(Below.refl _ _).alloc (Nat.le_refl _) _,zJ (fun j _ _ h=>absurd rfl h)⟩
    case round=>
     obtain⟨i,Y,hi,rfl,r0,hbw,HY⟩:=hrel
     by_cases hlt:i<m
     ·
      have rb:wr.heap[b]?=some (.cells (c8 L X) 5):=by rw [hbw.block b hb];exact row
      have c1:=qF rb (show i<L by omega);have c2:=qF r0 (show m-1-i<m by omega);have f0:=fz (k:=m-1-i) r0;have hx:=x6 X i;have RS:zW ((wr.setCell ⟨w.heap.size,m-1-i,none⟩ (.int .u8 ((d8 X i:Nat):Int))).heap[w.heap.size]?=some (.cells (c8 m (set8 Y (m-1-i) (d8 X i))) 5)):=zJ (by rw [zY r0,c8_seti m Y (m-1-i) _ _ (by omega) hx rfl])
      have NY:zW (∀ j,j<m->m-1-(i+1)<j+1->(i+1=0->False)->(m-1-j<i+1)->d8 (set8 Y (m-1-i) (d8 X i)) j=d8 X (m-1-j)):=zJ (fun j hj _ _ hji=>by
       rw [d8_set8 _ _ _ _ hx]
       by_cases e:j=m-1-i
       ·
        rw [if_pos e,e,show m-1-(m-1-i)=i by omega]
       ·
        rw [if_neg e];exact HY.out j hj (by omega) (by omega) (by omega))
      have t1:((m:Int)-1-(i:Int)).toNat=m-1-i:=by omega
      go_wp2
      go_roundw
      case rel=>exact⟨i+1,_,by omega,by go_num,RS.out,hbw.setCell (Nat.le_refl _) _,NY⟩
      case measure=>simp [intOf] <;> omega
     ·
      obtain rfl:i=m:=by omega
      have hsv:=c8_str (c:=i) v r0 (by rw [<-HV.out,yF];exact HN.out) (fun k hk=>by
       have hz:v.size=i:=by rw [<-HV.out,yF];exact HN.out
       have e:=HY.out k (by omega) (by omega) (by omega) (by omega);rw [e];have hV:=HV.out;subst hV;rw [nbA_get,HN.out])
      go_wp2
      go_ret
      exact⟨rfl,hbw⟩

theorem nat_long_ok (s:ByteArray)(h:s.size<=16384)(w:World) :
  Calls Tryz.prog 158 #[.string s] w fun e w'=>e=.returned (.tuple #[.string s,.int .i64 0])/\w'=w:=by
 have h1:decide ((16384:Int)<(s.size:Int))=false:=by rw [decide_eq_false_iff_not];omega
 have h2:decide (16384<s.size)=false:=by rw [decide_eq_false_iff_not];omega
 clear h
 go_enter Tryz.func158,Tryz.ntmps158
 go_wp2
 go_ret2
 exact⟨rfl,rfl⟩
theorem nat_long_no (s:ByteArray)(h:¬ s.size<=16384)(w:World) :
  Calls Tryz.prog 158 #[.string s] w fun e w'=>e=.returned (.tuple #[.string ⟨#[]⟩,.int .i64 4])/\w'=w:=by
 have h1:decide ((16384:Int)<(s.size:Int))=true:=by rw [decide_eq_true_iff];omega
 have h2:decide (16384<s.size)=true:=by rw [decide_eq_true_iff];omega
 clear h
 go_enter Tryz.func158,Tryz.ntmps158
 go_wp2
 go_ret2
 exact⟨rfl,rfl⟩

def mayB (s:ByteArray):Bool:=decide (s.size<=16384) && (decide (s.size=0) || decide (∃ h:0<s.size,(s[0]'h).toNat≠0))

theorem toList_len (s:ByteArray):s.toList.length=s.size:=by rw [ByteArray.toList_eq,Array.length_toList];rfl
theorem x5 (s:ByteArray):(s.toList == [])=decide (s.size=0):=by
 rw [<-toList_len]
 cases s.toList with
 | nil=>rfl
 | cons x l=>simp

theorem yP (s:ByteArray)(o:Bool)(ho:mayB s=o)(w:World) :
  Calls Tryz.prog 151 #[.string s] w fun e w'=>e=.returned (.bool o)/\w'=w:=by
 have d2:=x5 s
 by_cases h1:s.size<=16384
 ·
  have d1:decide ((s.size:Int)<=16384)=true:=by rw [decide_eq_true_iff];omega
  by_cases h2:s.size=0
  ·
   have e:o=true:=by rw [<-ho];unfold mayB;rw [decide_eq_true h1,decide_eq_true h2];rfl
   subst e;rw [decide_eq_true h2] at d2;clear h1 h2 ho
   go_enter Tryz.func151,Tryz.ntmps151
   go_wp2
   go_ret
   exact⟨rfl,rfl⟩
  ·
   rw [decide_eq_false h2] at d2;have hp:0<s.size:=by omega
   obtain⟨x,hx⟩:∃ x,(s[0]'hp).toNat=x:=⟨_,rfl⟩
   have e:((x:Int) != 0)=o:=by
    rw [<-ho];unfold mayB;rw [decide_eq_true h1,decide_eq_false h2,Bool.true_and,Bool.false_or]
    by_cases h0:x=0
    ·
     rw [decide_eq_false (fun ⟨a,b⟩=>b (hx.trans h0)),h0];rfl
    ·
     rw [decide_eq_true ⟨hp,fun c=>h0 (hx.symm.trans c)⟩]
     simp;omega
   have hi:=idx_run s 0 0 x rfl hp hx;clear h1 h2 ho hx
   go_enter Tryz.func151,Tryz.ntmps151
   go_wp2
   go_ret
   exact⟨rfl,rfl⟩
 ·
  have d1:decide ((s.size:Int)<=16384)=false:=by rw [decide_eq_false_iff_not];omega
  have e:o=false:=by rw [<-ho];unfold mayB;rw [decide_eq_false h1];rfl
  subst e;clear h1 ho d2
  go_enter Tryz.func151,Tryz.ntmps151
  go_wp2
  go_ret
  exact⟨rfl,rfl⟩

theorem mayB_nb (n:Nat)(h:nl n<=16384):mayB (yN n)=true:=by
 have hz:=yF n
 unfold mayB
 rw [show decide ((yN n).size<=16384)=true from decide_eq_true (by omega),Bool.true_and]
 by_cases h0:(yN n).size=0
 ·
  rw [decide_eq_true h0];rfl
 ·
  rw [decide_eq_false h0,Bool.false_or,decide_eq_true];exact⟨by omega,nbA_first n _⟩
theorem mayB_is (s:ByteArray)(h:mayB s=true):∃ n,yN n=s/\nl n<=16384:=by
 unfold mayB at h
 rw [Bool.and_eq_true,Bool.or_eq_true,decide_eq_true_iff,decide_eq_true_iff,decide_eq_true_iff] at h;obtain⟨h1,h2⟩:=h;obtain⟨n,hn⟩:=nbA_of s (h2.imp id (fun ⟨a,b⟩=>⟨a,fun c=>b (by rw [c];rfl)⟩));exact⟨n,hn,by rw [<-yF,hn];exact h1⟩

theorem bless_pre:∀ (x y:List UInt8),x.length=y.length->(Op.bytesLess x y=decide (bvl x<bvl y))
 | [],[],_=>by rfl
 | [],_ :: _,h=>by simp at h
 | _ :: _,[],h=>by simp at h
 | a :: x,b :: y,h=>by
  have hl:x.length=y.length:=by simpa using h
  have ih:=bless_pre x y hl
  have e:∀ (c:UInt8) (z:List UInt8),bvl (c :: z)=c.toNat*2 ^ (8*z.length)+bvl z:=by
   intro c z;refine rev_ind (P:=fun z=>bvl (c :: z)=c.toNat*2 ^ (8*z.length)+bvl z) ?_ (fun l d ih=>?_) z
   ·
    show 256*0+c.toNat=c.toNat*2 ^ (8*0)+0
    simp
   ·
    rw [<-List.cons_append,bvl_snoc,ih,bvl_snoc,List.length_append,List.length_singleton,pow8,Nat.mul_add,<-Nat.mul_assoc (c.toNat)];omega
  have hx:=bvl_lt x;have hy:=bvl_lt y;rw [Op.bytesLess,ih,e a x,e b y,hl];rw [hl] at hx
  rcases Nat.lt_trichotomy a.toNat b.toNat with h1|h1|h1
  ·
   have h2:a<b:=UInt8.lt_iff_toNat_lt.2 h1;have h3:(a.toNat+1)*2 ^ (8*y.length)<=b.toNat*2 ^ (8*y.length):=Nat.mul_le_mul_right _ h1;rw [Nat.add_mul,Nat.one_mul] at h3;rw [decide_eq_true h2,Bool.true_or,decide_eq_true (by omega)]
  ·
   have h2:a=b:=UInt8.toNat_inj.1 h1;subst h2;have h3:¬ a<a:=fun h=>Nat.lt_irrefl _ (UInt8.lt_iff_toNat_lt.1 h);rw [decide_eq_false h3,Bool.false_or,beq_self_eq_true,Bool.true_and];rw [Bool.eq_iff_iff,decide_eq_true_iff,decide_eq_true_iff];omega
  ·
   have h2:¬ a<b:=fun h=>by have:=UInt8.lt_iff_toNat_lt.1 h;omega
   have h3:(b.toNat+1)*2 ^ (8*y.length)<=a.toNat*2 ^ (8*y.length):=Nat.mul_le_mul_right _ h1;rw [Nat.add_mul,Nat.one_mul] at h3;have h4:(a == b)=false:=by simp only [beq_eq_false_iff_ne];intro c;rw [c] at h1;omega
   rw [decide_eq_false h2,Bool.false_or,h4,Bool.false_and,decide_eq_false (by omega)]
theorem bvl_nbL (n:Nat):bvl (nbL n)=n:=by
 have h1:=bvl_lt (nbL n);rw [nbL_len] at h1;refine d8_ext h1 (qO n) (fun k hk=>?_);have h2:=bvl_d8 (nbL n) (nl n-1-k) (by rw [nbL_len];omega);have hk2:(nbL n).length-1-(nl n-1-k)=k:=by rw [nbL_len];omega
 rw [hk2] at h2;rw [h2];have h3:=nbA_get n (nl n-1-k) (by rw [yF];omega);rw [show nl n-1-(nl n-1-k)=k by omega] at h3;exact h3
theorem toList_nb (n:Nat):(yN n).toList=nbL n:=by rw [ByteArray.toList_eq];rfl
theorem bless_nb (a b:Nat)(h:nl a=nl b):Op.bytesLess (yN a).toList (yN b).toList=decide (a<b):=by
 rw [toList_nb,toList_nb,bless_pre _ _ (by rw [nbL_len,nbL_len,h]),bvl_nbL,bvl_nbL]
theorem beq_nb (a b:Nat):((yN a).toList == (yN b).toList)=decide (a=b):=by
 rw [toList_nb,toList_nb,Bool.eq_iff_iff,beq_iff_eq,decide_eq_true_iff]
 constructor
 ·
  intro h;rw [<-bvl_nbL a,h,bvl_nbL]
 ·
  intro h;rw [h]

theorem qV (a b:Nat)(s t:ByteArray)(c:Int)(hs:yN a=s)(ht:yN b=t)(hc:q8 a b=c)(w:World) :
  Calls Tryz.prog 110 #[.string s,.string t] w fun e w'=>e=.returned (.int .i64 c)/\w'=w:=by
 obtain⟨L,hL⟩:∃ L,nl a=L:=⟨_,rfl⟩;obtain⟨M,hM⟩:∃ M,nl b=M:=⟨_,rfl⟩;have hz:s.size=L:=by rw [<-hs,yF,hL]
 have hy:t.size=M:=by rw [<-ht,yF,hM]
 by_cases h:L=M
 ·
  subst h;have e1:=bless_nb a b (by rw [hL,hM]);have e2:=beq_nb a b;rw [hs,ht] at e1 e2;have n1:((L:Int) != (L:Int))=false:=by simp
  unfold q8 at hc
  by_cases h1:a=b
  ·
   rw [if_pos h1] at hc;subst hc;rw [decide_eq_false (by omega)] at e1;rw [decide_eq_true h1] at e2;clear hs ht hL hM h1
   go_enter Tryz.func110,Tryz.ntmps110
   go_wp2
   go_ret
   exact⟨rfl,rfl⟩
  ·
   rw [if_neg h1] at hc;rw [decide_eq_false h1] at e2
   by_cases h2:a<b
   ·
    rw [if_pos h2] at hc;subst hc;rw [decide_eq_true h2] at e1;clear hs ht hL hM h1 h2
    go_enter Tryz.func110,Tryz.ntmps110
    go_wp2
    go_ret
    exact⟨rfl,rfl⟩
   ·
    rw [if_neg h2] at hc;subst hc;rw [decide_eq_false h2] at e1;clear hs ht hL hM h1 h2
    go_enter Tryz.func110,Tryz.ntmps110
    go_wp2
    go_ret
    exact⟨rfl,rfl⟩
 ·
  have n1:((L:Int) != (M:Int))=true:=by simp;omega
  have n2:¬ a=b:=fun e=>h (by rw [<-hL,<-hM,e])
  unfold q8 at hc
  rw [if_neg n2] at hc
  by_cases h2:L<M
  ·
   have h3:a<b:=by
    rcases Nat.lt_or_ge a b with h3|h3
    ·
     exact h3
    ·
     have:=xQ b a h3;omega
   rw [if_pos h3] at hc;subst hc;have n3:decide (L<M)=true:=decide_eq_true h2;clear hs ht hL hM h n2 h2 h3
   go_enter Tryz.func110,Tryz.ntmps110
   go_wp2
   go_ret
   exact⟨rfl,rfl⟩
  ·
   have h3:¬ a<b:=fun e=>by have:=xQ a b (Nat.le_of_lt e);omega
   rw [if_neg h3] at hc;subst hc;have n3:decide (L<M)=false:=decide_eq_false h2;clear hs ht hL hM h n2 h2 h3
   go_enter Tryz.func110,Tryz.ntmps110
   go_wp2
   go_ret
   exact⟨rfl,rfl⟩
theorem carry_step (S P t:Nat):S+P*(t % 256)+P*256*(t / 256)=S+P*t:=by
 have h:=Nat.div_add_mod t 256
 have:P*t=P*(256*(t / 256)+t % 256):=by rw [h]
 rw [this,Nat.mul_add,Nat.mul_assoc];omega

theorem nadd_step (a b S i c t:Nat)(hE:S+2 ^ (8*i)*c=a % 2 ^ (8*i)+b % 2 ^ (8*i))(ht:c+d8 a i+d8 b i=t) :
  S+2 ^ (8*i)*(t % 256)+2 ^ (8*(i+1))*(t / 256)=a % 2 ^ (8*(i+1))+b % 2 ^ (8*(i+1)):=by
 rw [pow8,carry_step,<-pow8,qY,qY,<-ht,Nat.mul_add,Nat.mul_add];omega
theorem nadd_end (a b S i c:Nat)(ha:a<2 ^ (8*i))(hb:b<2 ^ (8*i))(hab:a+b<2 ^ (8*i))(hE:S+2 ^ (8*i)*c=a % 2 ^ (8*i)+b % 2 ^ (8*i)):S=a+b:=by
 rw [Nat.mod_eq_of_lt ha,Nat.mod_eq_of_lt hb] at hE
 by_cases h:c=0
 ·
  rw [h] at hE;omega
 ·
  have:2 ^ (8*i)*1<=2 ^ (8*i)*c:=Nat.mul_le_mul_left _ (by omega)
  omega
theorem pow8_le (i j:Nat)(h:i<=j):2 ^ (8*i)<=2 ^ (8*j):=Nat.pow_le_pow_right (by decide) (by omega)
theorem xL (t x:Nat)(h:t % 256=x):IntKind.u8.wrap (t:Int)=(x:Int):=by
 rw [<-h,IntKind.wrap_u8];omega

theorem nat_add (a b:Nat)(s t v:ByteArray)(hs:yN a=s)(ht:yN b=t)(hv:yN (a+b)=v)(ha:nl a<=20000)(hb:nl b<=20000)(w:World) :
  Calls Tryz.prog 171 #[.string s,.string t] w fun e w'=>e=.returned (.string v)/\Below w.heap.size w w':=by
 obtain⟨L,hL⟩:∃ L,nl a=L:=⟨_,rfl⟩;obtain⟨M,hM⟩:∃ M,nl b=M:=⟨_,rfl⟩;obtain⟨n,hn⟩:∃ n,max L M=n:=⟨_,rfl⟩;obtain⟨N,hN⟩:∃ N,n+1=N:=⟨_,rfl⟩;have hz:s.size=L:=by rw [<-hs,yF,hL]
 have hy:t.size=M:=by rw [<-ht,yF,hM]
 have la:=qO a;have lb:=qO b;rw [hL] at la ha;rw [hM] at lb hb;have LA:zW (a<2 ^ (8*N)):=zJ (Nat.lt_of_lt_of_le la (pow8_le _ _ (by omega)));have LB:zW (b<2 ^ (8*N)):=zJ (Nat.lt_of_lt_of_le lb (pow8_le _ _ (by omega)))
 have LAB:zW (a+b<2 ^ (8*N)):=zJ (by
  have h1:a<2 ^ (8*n):=Nat.lt_of_lt_of_le la (pow8_le _ _ (by omega));have h2:b<2 ^ (8*n):=Nat.lt_of_lt_of_le lb (pow8_le _ _ (by omega));rw [<-hN,pow8]
  omega)
 have HS:=zJ hs;have HT:=zJ ht;have HV:=zJ hv;have HL:=zJ hL;have HM:=zJ hM;have n2:n<=20000:=by omega
 have hmk:=c8_makeI N ((n:Int)+1) (by omega) (by omega)
 have hcase:(decide (L<M)=true/\M=n)∨(decide (L<M)=false/\L=n):=by
  by_cases h:L<M
  ·
   left;exact⟨decide_eq_true h,by omega⟩
  ·
   right;exact⟨decide_eq_false h,by omega⟩
 clear hs ht hv hL hM la lb hn
 rcases hcase with ⟨h1,hn⟩|⟨h1,hn⟩
 all_goals
  subst hn
  go_enter Tryz.func171,Tryz.ntmps171
  go_wp2
  clear hmk h1
  go_loopw [7,8] (fun cv iv wr=>∃ (i c S:Nat),i<=N/\c<2/\cv=.int .i64 c/\iv=.int .i64 i/\wr.heap[w.heap.size]?=some (.cells (c8 N S) 5)/\Below w.heap.size w wr/\zW (S<2 ^ (8*i)/\S+2 ^ (8*i)*c=a % 2 ^ (8*i)+b % 2 ^ (8*i))) (fun _ iv _=>N-(intOf iv).toNat)
  case atStart=>exact⟨0,0,0,by omega,by omega,rfl,rfl,heap_alloc_last _ _,(Below.refl _ _).alloc (Nat.le_refl _) _,zJ ⟨by decide,by simp [Nat.mod_one]⟩⟩
  case round=>
   obtain⟨i,c,S,hi,hc,rfl,rfl,r0,hbw,HE⟩:=hrel
   by_cases hlt:i<N
   ·
    obtain⟨x,hx⟩:∃ x,d8 a i=x:=⟨_,rfl⟩;obtain⟨y,hy2⟩:∃ y,d8 b i=y:=⟨_,rfl⟩;have x256:x<256:=by rw [<-hx];exact x6 a i
    have y256:y<256:=by rw [<-hy2];exact x6 b i
    obtain⟨q,hq⟩:∃ q,c+x+y=q:=⟨_,rfl⟩;obtain⟨z,hz2⟩:∃ z,q % 256=z:=⟨_,rfl⟩;obtain⟨g,hg⟩:∃ g,q / 256=g:=⟨_,rfl⟩;have NE:=nadd_step a b S i c q HE.out.2 (by rw [hx,hy2];exact hq);rw [hz2,hg] at NE;have z256:z<256:=by omega
    have NX:zW (S+2 ^ (8*i)*z<2 ^ (8*(i+1))/\S+2 ^ (8*i)*z+2 ^ (8*(i+1))*g=a % 2 ^ (8*(i+1))+b % 2 ^ (8*(i+1))):=zJ ⟨push8_lt S i z HE.out.1 z256,NE⟩;have g2:g<2:=by omega
    have n1:IntKind.i64.wrap ((c:Int)+(x:Int))=(c:Int)+(x:Int):=zR _ (by omega) (by omega);have n3:IntKind.i64.wrap ((c:Int)+(x:Int)+(y:Int))=(q:Int):=by rw [zR _ (by omega) (by omega)];omega
    have n4:=xL q z hz2;have n5:(q:Int) / 256=(g:Int):=by omega
    have c1:=qF r0 hlt;have f0:=fz (k:=i) r0;have RS:zW ((wr.setCell ⟨w.heap.size,i,none⟩ (.int .u8 (z:Int))).heap[w.heap.size]?=some (.cells (c8 N (S+2 ^ (8*i)*z)) 5)):=zJ (by rw [zY r0,c8_push N S i z _ hlt HE.out.1 z256 rfl]);have HX:=zJ hx;have HY:=zJ hy2;have NA:zW (nl a<=100000):=zJ (by rw [HL.out];omega);have NB:zW (nl b<=100000):=zJ (by rw [HM.out];omega)
    try (have dl:decide (i<=M)=true:=by rw [decide_eq_true_iff];omega)
    try (have dl2:decide (i<=L)=true:=by rw [decide_eq_true_iff];omega)
    clear hx hy2 hq hz2 hg NE;go_wp2_with fail
    refine (qX a i x s HS.out HX.out NA.out _).mono ?_;rintro e w' ⟨rfl,rfl⟩;go_wp2_with fail
    refine (qX b i y t HT.out HY.out NB.out _).mono ?_;rintro e w' ⟨rfl,rfl⟩;go_wp2
    go_roundw
    case rel=>exact⟨i+1,g,_,by omega,g2,by first|rfl|go_num,by go_num,RS.out,hbw.setCell (Nat.le_refl _) _,NX⟩
    case measure=>simp [intOf] <;> omega
   ·
    obtain rfl:i=N:=by omega
    have e:=nadd_end a b S i c LA.out LB.out LAB.out HE.out.2;subst e;have FX:=zJ HE.out.1;clear HE
    try (have dl:decide (i<=M)=false:=by rw [decide_eq_false_iff_not];omega)
    try (have dl2:decide (i<=L)=false:=by rw [decide_eq_false_iff_not];omega)
    go_wp2_with fail
    refine (nat_fit i (a+b) w.heap.size i v (by omega) FX.out HV.out _ r0).mono ?_;rintro e w' ⟨rfl,hb2⟩;go_wp2
    go_ret
    exact⟨rfl,hbw.trans (hb2.mono hbw.size)⟩

theorem nsub_step (a b S i c x y z g:Nat)(hE:S+b % 2 ^ (8*i)=a % 2 ^ (8*i)+2 ^ (8*i)*c)(hx:d8 a i=x)(hy:d8 b i=y)(hz:z+y+c=x+256*g) :
  S+2 ^ (8*i)*z+b % 2 ^ (8*(i+1))=a % 2 ^ (8*(i+1))+2 ^ (8*(i+1))*g:=by
 rw [qY,qY,hx,hy,pow8,Nat.mul_assoc];have e:=congrArg (fun t=>2 ^ (8*i)*t) hz
 simp only [Nat.mul_add] at e
 omega
theorem nsub_end (a b S i c:Nat)(hba:b<=a)(ha:a<2 ^ (8*i))(hS:S<2 ^ (8*i))(hE:S+b % 2 ^ (8*i)=a % 2 ^ (8*i)+2 ^ (8*i)*c):S=a-b:=by
 rw [Nat.mod_eq_of_lt ha,Nat.mod_eq_of_lt (show b<2 ^ (8*i) by omega)] at hE
 by_cases h:c=0
 ·
  rw [h] at hE;omega
 ·
  have:2 ^ (8*i)*1<=2 ^ (8*i)*c:=Nat.mul_le_mul_left _ (by omega)
  omega

theorem nat_sub (a b:Nat)(s t v:ByteArray)(hs:yN a=s)(ht:yN b=t)(hv:yN (a-b)=v)(hba:b<=a)(ha:nl a<=20000)(w:World) :
  Calls Tryz.prog 172 #[.string s,.string t] w fun e w'=>e=.returned (.string v)/\Below w.heap.size w w':=by
 obtain⟨L,hL⟩:∃ L,nl a=L:=⟨_,rfl⟩;have hz:s.size=L:=by rw [<-hs,yF,hL]
 have la:=qO a;have hb:=xQ b a hba;rw [hL] at la ha hb;have LA:=zJ la;have HBA:=zJ hba;have HS:=zJ hs;have HT:=zJ ht;have HV:=zJ hv;have NA:zW (nl a<=100000):=zJ (by omega);have NB:zW (nl b<=100000):=zJ (by omega);have hmk:=c8_make L (by omega);clear hs ht hv hL la hba hb
 go_enter Tryz.func172,Tryz.ntmps172
 go_wp2
 clear hmk
 go_loopw [6,7] (fun cv iv wr=>∃ (i c S:Nat),i<=L/\c<2/\cv=.int .i64 c/\iv=.int .i64 i/\wr.heap[w.heap.size]?=some (.cells (c8 L S) 5)/\Below w.heap.size w wr/\zW (S<2 ^ (8*i)/\S+b % 2 ^ (8*i)=a % 2 ^ (8*i)+2 ^ (8*i)*c)) (fun _ iv _=>L-(intOf iv).toNat)
 case atStart=>exact⟨0,0,0,by omega,by omega,rfl,rfl,heap_alloc_last _ _,(Below.refl _ _).alloc (Nat.le_refl _) _,zJ ⟨by decide,by simp [Nat.mod_one]⟩⟩
 case round=>
  obtain⟨i,c,S,hi,hc,rfl,rfl,r0,hbw,HE⟩:=hrel
  by_cases hlt:i<L
  ·
   obtain⟨x,hx⟩:∃ x,d8 a i=x:=⟨_,rfl⟩;obtain⟨y,hy2⟩:∃ y,d8 b i=y:=⟨_,rfl⟩;have x256:x<256:=by rw [<-hx];exact x6 a i
   have y256:y<256:=by rw [<-hy2];exact x6 b i
   obtain⟨q,hq⟩:∃ q:Int,(x:Int)-(y:Int)-(c:Int)=q:=⟨_,rfl⟩;obtain⟨g,hg⟩:∃ g,(if x<y+c then 1 else 0)=g:=⟨_,rfl⟩;obtain⟨z,hz2⟩:∃ z,x+256*g-y-c=z:=⟨_,rfl⟩;have hzz:z+y+c=x+256*g/\z<256/\g<2:=by split at hg <;> omega
   have NE:=nsub_step a b S i c x y z g HE.out.2 hx hy2 hzz.1;have NX:zW (S+2 ^ (8*i)*z<2 ^ (8*(i+1))/\S+2 ^ (8*i)*z+b % 2 ^ (8*(i+1))=a % 2 ^ (8*(i+1))+2 ^ (8*(i+1))*g):=zJ ⟨push8_lt S i z HE.out.1 hzz.2.1,NE⟩;have n1:IntKind.i64.wrap ((x:Int)-(y:Int))=(x:Int)-(y:Int):=zR _ (by omega) (by omega);have n3:IntKind.i64.wrap ((x:Int)-(y:Int)-(c:Int))=q:=by rw [zR _ (by omega) (by omega)];omega
   have n4:IntKind.u8.wrap q=(z:Int):=by rw [IntKind.wrap_u8];omega
   have c1:=qF r0 hlt;have f0:=fz (k:=i) r0;have z256:=hzz.2.1;have RS:zW ((wr.setCell ⟨w.heap.size,i,none⟩ (.int .u8 (z:Int))).heap[w.heap.size]?=some (.cells (c8 L (S+2 ^ (8*i)*z)) 5)):=zJ (by rw [zY r0,c8_push L S i z _ hlt HE.out.1 z256 rfl]);have HX:=zJ hx;have HY:=zJ hy2;have dl:decide (i<L)=true:=decide_eq_true hlt
   have hcase:(decide (q<0)=true/\g=1)∨(decide (q<0)=false/\g=0):=by
    rw [decide_eq_true_iff,decide_eq_false_iff_not]
    split at hg <;> omega
   clear hx hy2 hq hz2 hg NE hzz
   rcases hcase with ⟨dq,rfl⟩|⟨dq,rfl⟩
   all_goals
    go_wp2_with fail
    refine (qX a i x s HS.out HX.out NA.out _).mono ?_;rintro e w' ⟨rfl,rfl⟩;go_wp2_with fail
    refine (qX b i y t HT.out HY.out NB.out _).mono ?_;rintro e w' ⟨rfl,rfl⟩;go_wp2
    go_roundw
    case rel=>exact⟨i+1,_,_,by omega,(by first|exact (by decide:1<2)|exact (by decide:0<2)),by first|rfl|go_num,by go_num,RS.out,hbw.setCell (Nat.le_refl _) _,NX⟩
    case measure=>simp [intOf] <;> omega
  ·
   obtain rfl:i=L:=by omega
   have e:=nsub_end a b S i c HBA.out LA.out HE.out.1 HE.out.2;subst e;have FX:=zJ HE.out.1;clear HE;have dl:decide (i<i)=false:=by rw [decide_eq_false_iff_not];omega
   go_wp2_with fail
   refine (nat_fit i (a-b) w.heap.size i v (by omega) FX.out HV.out _ r0).mono ?_;rintro e w' ⟨rfl,hb2⟩;go_wp2
   go_ret
   exact⟨rfl,hbw.trans (hb2.mono hbw.size)⟩

theorem ndbl_step (a o S i c t:Nat)(hE:S+2 ^ (8*i)*c=2*(a % 2 ^ (8*i))+o)(ht:c+2*d8 a i=t) :
  S+2 ^ (8*i)*(t % 256)+2 ^ (8*(i+1))*(t / 256)=2*(a % 2 ^ (8*(i+1)))+o:=by
 rw [pow8,carry_step,<-pow8,qY,<-ht,Nat.mul_add,Nat.mul_add 2,Nat.mul_left_comm];omega

theorem nat_double (a o:Nat)(s v:ByteArray)(hs:yN a=s)(ho:o<2)(hv:yN (2*a+o)=v)(ha:nl a<=20000)(w:World) :
  Calls Tryz.prog 196 #[.string s,.int .i64 (o:Nat)] w fun e w'=>e=.returned (.string v)/\Below w.heap.size w w':=by
 obtain⟨L,hL⟩:∃ L,nl a=L:=⟨_,rfl⟩;obtain⟨N,hN⟩:∃ N,L+1=N:=⟨_,rfl⟩;have hz:s.size=L:=by rw [<-hs,yF,hL]
 have la:=qO a;rw [hL] at la ha;have LA:zW (a<2 ^ (8*N)):=zJ (Nat.lt_of_lt_of_le la (pow8_le _ _ (by omega)));have LAB:zW (2*a+o<2 ^ (8*N)):=zJ (by rw [<-hN,pow8];omega);have HS:=zJ hs;have HV:=zJ hv;have NA:zW (nl a<=100000):=zJ (by omega);have hmk:=c8_makeI N ((L:Int)+1) (by omega) (by omega);clear hs hv hL la
 go_enter Tryz.func196,Tryz.ntmps196
 go_wp2
 clear hmk
 go_loopw [6,7] (fun cv iv wr=>∃ (i c S:Nat),i<=N/\c<2/\cv=.int .i64 c/\iv=.int .i64 i/\wr.heap[w.heap.size]?=some (.cells (c8 N S) 5)/\Below w.heap.size w wr/\zW (S<2 ^ (8*i)/\S+2 ^ (8*i)*c=2*(a % 2 ^ (8*i))+o)) (fun _ iv _=>N-(intOf iv).toNat)
 case atStart=>exact⟨0,o,0,by omega,ho,rfl,rfl,heap_alloc_last _ _,(Below.refl _ _).alloc (Nat.le_refl _) _,zJ ⟨by decide,by simp [Nat.mod_one]⟩⟩
 case round=>
  obtain⟨i,c,S,hi,hc,rfl,rfl,r0,hbw,HE⟩:=hrel
  by_cases hlt:i<N
  ·
   obtain⟨x,hx⟩:∃ x,d8 a i=x:=⟨_,rfl⟩;have x256:x<256:=by rw [<-hx];exact x6 a i
   obtain⟨q,hq⟩:∃ q,c+2*x=q:=⟨_,rfl⟩;obtain⟨z,hz2⟩:∃ z,q % 256=z:=⟨_,rfl⟩;obtain⟨g,hg⟩:∃ g,q / 256=g:=⟨_,rfl⟩;have NE:=ndbl_step a o S i c q HE.out.2 (by rw [hx];exact hq);rw [hz2,hg] at NE;have z256:z<256:=by omega
   have NX:zW (S+2 ^ (8*i)*z<2 ^ (8*(i+1))/\S+2 ^ (8*i)*z+2 ^ (8*(i+1))*g=2*(a % 2 ^ (8*(i+1)))+o):=zJ ⟨push8_lt S i z HE.out.1 z256,NE⟩;have g2:g<2:=by omega
   have n1:IntKind.i64.wrap (2*(x:Int))=2*(x:Int):=zR _ (by omega) (by omega);have n3:IntKind.i64.wrap ((c:Int)+2*(x:Int))=(q:Int):=by rw [zR _ (by omega) (by omega)];omega
   have n4:=xL q z hz2;have n5:(q:Int) / 256=(g:Int):=by omega
   have c1:=qF r0 hlt;have f0:=fz (k:=i) r0;have RS:zW ((wr.setCell ⟨w.heap.size,i,none⟩ (.int .u8 (z:Int))).heap[w.heap.size]?=some (.cells (c8 N (S+2 ^ (8*i)*z)) 5)):=zJ (by rw [zY r0,c8_push N S i z _ hlt HE.out.1 z256 rfl]);have HX:=zJ hx;have dl:decide (i<=L)=true:=by rw [decide_eq_true_iff];omega
   clear hx hq hz2 hg NE;go_wp2_with fail
   refine (qX a i x s HS.out HX.out NA.out _).mono ?_;rintro e w' ⟨rfl,rfl⟩;go_wp2
   go_roundw
   case rel=>exact⟨i+1,g,_,by omega,g2,by first|rfl|go_num,by go_num,RS.out,hbw.setCell (Nat.le_refl _) _,NX⟩
   case measure=>simp [intOf] <;> omega
  ·
   obtain rfl:i=N:=by omega
   have e:S=2*a+o:=by
    have h:=HE.out.2;rw [Nat.mod_eq_of_lt LA.out] at h;have h2:=LAB.out
    by_cases hc0:c=0
    ·
     rw [hc0] at h;omega
    ·
     have:2 ^ (8*i)*1<=2 ^ (8*i)*c:=Nat.mul_le_mul_left _ (by omega)
     omega
   subst e;have FX:=zJ HE.out.1;clear HE;have dl:decide (i<=L)=false:=by rw [decide_eq_false_iff_not];omega
   go_wp2_with fail
   refine (nat_fit i (2*a+o) w.heap.size i v (by omega) FX.out HV.out _ r0).mono ?_;rintro e w' ⟨rfl,hb2⟩;go_wp2
   go_ret
   exact⟨rfl,hbw.trans (hb2.mono hbw.size)⟩

theorem nat_bit (a i:Nat)(s:ByteArray)(o:Nat)(hs:yN a=s)(ho:(a.testBit i).toNat=o)(ha:nl a<=100000)(hi:i<=10000000)(w:World) :
  Calls Tryz.prog 197 #[.string s,.int .i64 (i:Nat)] w fun e w'=>e=.returned (.int .i64 (o:Nat))/\w'=w:=by
 obtain⟨q,hq⟩:∃ q,q=i / 8:=⟨_,rfl⟩;obtain⟨r,hr⟩:∃ r,r=i % 8:=⟨_,rfl⟩;have q1:(i:Int) / 8=(q:Int):=by omega
 have r1:(i:Int) % 8=(r:Int):=by omega
 have r8:r<8:=by omega
 obtain⟨x,hx⟩:∃ x,d8 a q=x:=⟨_,rfl⟩;have x256:x<256:=by rw [<-hx];exact x6 a q
 have e:x / 2 ^ r % 2=o:=by rw [<-ho,<-hx,hq,hr,bit_of_d8,testBit_toNat]
 have hb:bits .and .i64 ((x:Int) / 2 ^ r) 1=(o:Int):=by
  obtain⟨y,hy⟩:∃ y,x / 2 ^ r=y:=⟨_,rfl⟩;have e2:(x:Int) / 2 ^ r=(y:Int):=by rw [<-hy];exact div_cast x r
  have y256:y<256:=by rw [<-hy];exact Nat.lt_of_le_of_lt (Nat.div_le_self _ _) x256
  rw [e2]
  show IntKind.i64.wrap ((BitVec.ofInt 64 (y:Int) &&& BitVec.ofInt 64 1).toNat:Int)=_
  have h1:(BitVec.ofInt 64 1).toNat=2 ^ 1-1:=by decide
  have h2:(BitVec.ofInt 64 (y:Int)).toNat=y:=by simp;omega
  rw [BitVec.toNat_and,h1,Nat.and_two_pow_sub_one_eq_mod,h2,zR _ (by omega) (by omega),<-e,hy]
 have HX:=zJ hx;clear hq hr hx e ho
 go_enter Tryz.func197,Tryz.ntmps197
 go_wp2_with fail
 refine (qX a q x s hs HX.out ha _).mono ?_;rintro e w' ⟨rfl,rfl⟩;go_wp2
 go_ret
 exact⟨rfl,rfl⟩
def lg (x:Nat):ByteArray×Int:=if nl x<=16384 then (yN x,0) else (⟨#[]⟩,4)
def sb (a b:Nat):ByteArray×Int:=if a<b then (⟨#[]⟩,2) else (yN (a-b),0)

theorem nat_long (x:Nat)(s v:ByteArray)(e:Int)(hs:yN x=s)(hr:lg x=(v,e))(w:World) :
  Calls Tryz.prog 158 #[.string s] w fun r w'=>r=.returned (.tuple #[.string v,.int .i64 e])/\w'=w:=by
 have hz:s.size=nl x:=by rw [<-hs,yF]
 unfold lg at hr
 by_cases h:nl x<=16384
 ·
  rw [if_pos h] at hr;injection hr with h1 h2;subst h2;rw [<-h1,hs];exact nat_long_ok s (by omega) w
 ·
  rw [if_neg h] at hr;injection hr with h1 h2;subst h2 h1;exact nat_long_no s (by omega) w

theorem nat_Add (a b:Nat)(s t v:ByteArray)(e:Int)(hs:yN a=s)(ht:yN b=t)(hr:lg (a+b)=(v,e))(ha:nl a<=20000)(hb:nl b<=20000)(w:World) :
  Calls Tryz.prog 109 #[.string s,.string t] w fun r w'=>r=.returned (.tuple #[.string v,.int .i64 e])/\Below w.heap.size w w':=by
 obtain⟨u,hu⟩:∃ u,yN (a+b)=u:=⟨_,rfl⟩;have HU:=zJ hu;have HR:=zJ hr;clear hu hr
 go_enter Tryz.func109,Tryz.ntmps109
 go_wp2_with fail
 refine (nat_add a b s t u hs ht HU.out ha hb _).mono ?_;rintro r w1 ⟨rfl,hb1⟩;go_wp2_with fail
 refine (nat_long (a+b) u v e HU.out HR.out _).mono ?_;rintro r w' ⟨rfl,rfl⟩;go_wp2
 go_ret2
 exact⟨rfl,hb1⟩

theorem nat_Sub (a b:Nat)(s t v:ByteArray)(e:Int)(hs:yN a=s)(ht:yN b=t)(hr:sb a b=(v,e))(ha:nl a<=20000)(w:World) :
  Calls Tryz.prog 111 #[.string s,.string t] w fun r w'=>r=.returned (.tuple #[.string v,.int .i64 e])/\Below w.heap.size w w':=by
 obtain⟨c,hc⟩:∃ c,q8 a b=c:=⟨_,rfl⟩
 unfold sb at hr
 have HC:=zJ hc
 by_cases h:a<b
 ·
  rw [if_pos h] at hr;injection hr with h1 h2;subst h1 h2;have d:decide (c<0)=true:=by rw [<-hc];unfold q8;rw [if_neg (by omega),if_pos h];rfl
  clear hc h
  go_enter Tryz.func111,Tryz.ntmps111
  go_wp2_with fail
  refine (qV a b s t c hs ht HC.out _).mono ?_;rintro r w' ⟨rfl,rfl⟩;go_wp2
  go_ret2
  exact⟨rfl,Below.refl _ _⟩
 ·
  rw [if_neg h] at hr;injection hr with h1 h2;subst h2
  have d:decide (c<0)=false:=by
   rw [<-hc];unfold q8
   by_cases e:a=b
   ·
    rw [if_pos e];rfl
   ·
    rw [if_neg e,if_neg h];rfl
  have HD:=zJ h1;have HBA:zW (b<=a):=zJ (by omega);clear hc h h1
  go_enter Tryz.func111,Tryz.ntmps111
  go_wp2_with fail
  refine (qV a b s t c hs ht HC.out _).mono ?_;rintro r w' ⟨rfl,rfl⟩;go_wp2_with fail
  refine (nat_sub a b s t v hs ht HD.out HBA.out ha _).mono ?_;rintro r w1 ⟨rfl,hb1⟩;go_wp2
  go_ret2
  exact⟨rfl,hb1⟩

theorem blen_nl (n L x:Nat)(h:n≠0)(hL:nl n=L)(hx:d8 n (L-1)=x):8*(L-1)+zV x=zV n:=by
 have hp:=jG n h;have ht:=nl_top n h;have hl:=qO n;rw [hL] at hp ht hl;rw [hx] at ht;obtain⟨k,rfl⟩:∃ k,L=k+1:=⟨L-1,by omega⟩;rw [Nat.add_sub_cancel] at hx ⊢;have e:=qY n k;rw [Nat.mod_eq_of_lt hl,hx] at e;rw [e,blen_push _ _ _ (Nat.mod_lt _ (Nat.two_pow_pos _)) ht]

theorem qJ (n l:Nat)(s:ByteArray)(hs:yN n=s)(h:nl n<=16384)(hl:zV n=l)(w:World) :
  Calls Tryz.prog 195 #[.string s] w fun r w'=>r=.returned (.int .i64 (l:Nat))/\w'=w:=by
 obtain⟨L,hL⟩:∃ L,nl n=L:=⟨_,rfl⟩;have hz:s.size=L:=by rw [<-hs,yF,hL]
 have hm:mayB s=true:=by rw [<-hs];exact mayB_nb n h
 have HM:=zJ hm;have d2:=x5 s;rw [hL] at h
 by_cases h0:n=0
 ·
  have e:l=0:=by rw [<-hl,h0];rfl
  have e2:L=0:=by rw [<-hL,h0];exact qI
  subst e;rw [decide_eq_true (by omega)] at d2;clear hs hl hL hm h0
  go_enter Tryz.func195,Tryz.ntmps195
  go_wp2_with fail
  refine (yP s true HM.out _).mono ?_;rintro r w' ⟨rfl,rfl⟩;go_wp2
  go_ret
  exact⟨rfl,rfl⟩
 ·
  have hp:=jG n h0;rw [hL] at hp;rw [decide_eq_false (by omega)] at d2;have hp2:0<s.size:=by omega
  obtain⟨x,hx⟩:∃ x,(s[0]'hp2).toNat=x:=⟨_,rfl⟩
  have hxd:d8 n (L-1)=x:=by
   rw [<-hx];subst hs;rw [nbA_get,hL]
   rfl
  have x256:x<256:=by rw [<-hxd];exact x6 _ _
  have hb:=blen_nl n L x h0 hL hxd;obtain⟨y,hy⟩:∃ y,zV x=y:=⟨_,rfl⟩;rw [hy,hl] at hb;have y8:y<=8:=by rw [<-hy];exact y9 x 8 (by rw [<-two8];exact x256)
  have HY:=zJ hy;have hi:=idx_run s 0 0 x rfl hp2 hx;have n1:IntKind.i64.wrap ((L:Int)-1)=(L:Int)-1:=zR _ (by omega) (by omega);have n2:IntKind.i64.wrap (8*((L:Int)-1))=8*((L:Int)-1):=zR _ (by omega) (by omega);have n3:IntKind.i64.wrap (8*((L:Int)-1)+(y:Int))=(l:Int):=by rw [zR _ (by omega) (by omega)];omega
  have n4:IntKind.u64.wrap (x:Int)=(x:Int):=by rw [IntKind.wrap_u64];omega
  have X64:zW (x<18446744073709551616):=zJ (by omega);clear hs hl hL hm h0 hxd hb hy hx
  go_enter Tryz.func195,Tryz.ntmps195
  go_wp2_with fail
  refine (yP s true HM.out _).mono ?_;rintro r w' ⟨rfl,rfl⟩;go_wp2_with fail
  refine (rlen_is x y X64.out HY.out _).mono ?_;rintro r w' ⟨rfl,rfl⟩;go_wp2
  go_ret
  exact⟨rfl,rfl⟩

def LowB (n t:Nat):Prop:=n % 2 ^ t=0/\n.testBit t=true
theorem lowB_one (n s t:Nat)(h:LowB n s)(g:LowB n t):s=t:=by
 have hlt:∀ a b,LowB n a->LowB n b->¬ a<b:=by
  intro a b ha hb hab;have h1:=Nat.testBit_mod_two_pow n b a;rw [hb.1,ha.2] at h1
  simp [hab] at h1
 have h1:=hlt s t h g;have h2:=hlt t s g h;omega
theorem lowB_ex:∀ (k n:Nat),n≠0->n<2 ^ k->∃ t,t<k/\LowB n t
 | 0,n,h,hn=>by rw [Nat.pow_zero] at hn;omega
 | k+1,n,h,hn=>by
  by_cases h2:n % 2=0
  ·
   obtain⟨t,h3,h4,h5⟩:=lowB_ex k (n / 2) (by omega) (by rw [Nat.pow_succ] at hn;omega);refine ⟨t+1,by omega,?_,?_⟩
   ·
    rw [Nat.pow_succ,Nat.mul_comm,Nat.mod_mul,h2,h4]
   ·
    rw [Nat.testBit_succ];exact h5
  ·
   exact⟨0,by omega,by rw [Nat.pow_zero,Nat.mod_one],by rw [Nat.testBit_zero];simp;omega⟩
theorem lowB_any (n:Nat)(h:n≠0):∃ t,LowB n t:=by
 obtain⟨t,_,ht⟩:=lowB_ex _ n h (qL n);exact⟨t,ht⟩
theorem lowB_d8 (n i r:Nat)(h0:n % 2 ^ (8*i)=0)(h:LowB (d8 n i) r)(hr:r<8):LowB n (8*i+r):=by
 have hb:=d8_bit n i r;refine ⟨?_,?_⟩
 ·
  rw [Nat.pow_add,Nat.mod_mul,h0,Nat.zero_add];have h1:=h.1
  unfold d8 at h1
  rw [two8,Nat.mod_mod_of_dvd _ (Nat.pow_dvd_pow 2 (by omega:r<=8))] at h1;rw [h1,Nat.mul_zero]
 ·
  rw [h.2,decide_eq_true hr,Bool.true_and] at hb;exact hb.symm

def LowN (n t:Nat):Prop:=(n=0/\t=0)∨(n≠0/\LowB n t)
theorem qE (n t:Nat)(s:ByteArray)(hs:yN n=s)(h:nl n<=16384)(ht:LowN n t)(w:World) :
  Calls Tryz.prog 152 #[.string s] w fun r w'=>r=.returned (.int .i64 (t:Nat))/\w'=w:=by
 obtain⟨L,hL⟩:∃ L,nl n=L:=⟨_,rfl⟩;have hz:s.size=L:=by rw [<-hs,yF,hL]
 have hm:mayB s=true:=by rw [<-hs];exact mayB_nb n h
 have HM:=zJ hm;rw [hL] at h;have HS:=zJ hs;have HT:=zJ ht;have HL:=zJ hL;have NA:zW (nl n<=100000):=zJ (by omega);clear hs hL hm ht
 go_enter Tryz.func152,Tryz.ntmps152
 go_wp2_with fail
 refine (yP s true HM.out _).mono ?_;rintro r w' ⟨rfl,rfl⟩;go_wp2
 go_loop [3] (fun iv=>∃ i:Nat,i<=L/\iv=.int .i64 i/\zW (n % 2 ^ (8*i)=0)) (fun iv=>L-(intOf iv).toNat)
 case atStart=>exact⟨0,by omega,rfl,zJ (by rw [Nat.mul_zero,Nat.pow_zero,Nat.mod_one])⟩
 case round=>
  obtain⟨i,hi,rfl,HE⟩:=hrel
  by_cases hlt:i<L
  ·
   obtain⟨x,hx⟩:∃ x,d8 n i=x:=⟨_,rfl⟩;have x256:x<256:=by rw [<-hx];exact x6 _ _
   have dl:decide (i<L)=true:=decide_eq_true hlt;have HX:=zJ hx
   by_cases h0:x=0
   ·
    have y:((x:Int) != 0)=false:=by rw [h0];rfl
    have NX:zW (n % 2 ^ (8*(i+1))=0):=zJ (by rw [qY,HE.out,hx,h0,Nat.mul_zero]);clear hx h0;go_wp2_with fail
    refine (qX n i x s HS.out HX.out NA.out _).mono ?_;rintro r w' ⟨rfl,rfl⟩;go_wp2
    go_round
    case rel=>exact⟨i+1,by omega,by go_num,NX⟩
    case measure=>simp [intOf] <;> omega
   ·
    have y:((x:Int) != 0)=true:=by simp;omega
    obtain⟨r,hr8,hr⟩:=lowB_ex 8 x h0 (by rw [<-two8];exact x256);have LI:zW (LowIs x r):=zJ ⟨by omega,hr.1,hr.2⟩
    have e:8*i+r=t:=by
     have h1:=lowB_d8 n i r HE.out (by rw [hx];exact hr) hr8
     rcases HT.out with ⟨h2,h3⟩|⟨h2,h3⟩
     ·
      exact absurd (show x=0 by rw [<-hx,h2,d8_zero]) h0
     ·
      exact lowB_one n _ _ h1 h3
    have n2:IntKind.i64.wrap (8*(i:Int))=8*(i:Int):=zR _ (by omega) (by omega);have n3:IntKind.i64.wrap (8*(i:Int)+(r:Int))=(t:Int):=by rw [zR _ (by omega) (by omega)];omega
    have n4:IntKind.u64.wrap (x:Int)=(x:Int):=by rw [IntKind.wrap_u64];omega
    have X64:zW (x<18446744073709551616):=zJ (by omega);clear hx hr e h0;go_wp2_with fail
    refine (qX n i x s HS.out HX.out NA.out _).mono ?_;rintro r w' ⟨rfl,rfl⟩;go_wp2_with fail
    refine (qX n i x s HS.out HX.out NA.out _).mono ?_;rintro r w' ⟨rfl,rfl⟩;go_wp2_with fail
    refine (rlow_any x r X64.out LI.out _).mono ?_;rintro r w' ⟨rfl,rfl⟩;go_wp2
    go_ret
    exact⟨rfl,rfl⟩
  ·
   obtain rfl:i=L:=by omega
   have e:t=0:=by
    have h1:=HE.out;rw [Nat.mod_eq_of_lt (by rw [<-HL.out];exact qO n)] at h1
    rcases HT.out with ⟨h2,h3⟩|⟨h2,h3⟩
    ·
     exact h3
    ·
     exact absurd h1 h2
   subst e;have dl:decide (i<i)=false:=by rw [decide_eq_false_iff_not];omega
   go_wp2
   go_ret
   exact⟨rfl,rfl⟩

theorem d8_wd (n i q r:Nat)(hq:q=i / 8)(hr:r=8*(i % 8)):wd n q / 2 ^ r % 256=d8 n i:=by
 rw [two8,field_num n q r 8 (8*i) (by omega) (by omega)]
 unfold d8
 rw [two8]
theorem Q48:∃ L,L=48/\Q=2 ^ (8*L):=by
 obtain⟨L,hL,hQ⟩:=Q_of;exact⟨8*L,by omega,by rw [hQ];congr 1;omega⟩

theorem nat_OfWide (n:Nat)(v:ByteArray)(hn:n<Q)(hv:yN n=v)(w:World) :
  Calls Tryz.prog 100 #[.agg (cw 6 n)] w fun r w'=>r=.returned (.string v)/\Below w.heap.size w w':=by
 obtain⟨K,hK,hQ⟩:=Q48;rw [hQ] at hn;have hat:=yD 6;have hmk:=c8_makeI K 48 (by omega) (by omega);have HV:=zJ hv;have HN:=zJ hn;have k1:K<=48:=by omega
 have k2:48<=K:=by omega
 clear hv hn hQ hK
 go_enter Tryz.func100,Tryz.ntmps100
 go_wp2
 clear hmk
 go_loopw [4] (fun iv wr=>∃ i:Nat,i<=K/\iv=.int .i64 i/\wr.heap[w.heap.size]?=some (.cells (cw 6 n) 52)/\wr.heap[w.heap.size+1]?=some (.cells (c8 K (n % 2 ^ (8*i))) 5)/\Below w.heap.size w wr) (fun iv _=>K-(intOf iv).toNat)
 case atStart=>
  refine ⟨0,by omega,rfl,?_,?_,((Below.refl _ _).alloc (Nat.le_refl _) _).alloc (by simp) _⟩
  ·
   rw [zU _ _ _ (by simp)];exact heap_alloc_last _ _
  ·
   rw [Nat.mul_zero,Nat.pow_zero,Nat.mod_one,<-zM w (.cells (cw 6 n) 52)];exact heap_alloc_last _ _
 case round=>
  obtain⟨i,hi,rfl,r0,r1,hbw⟩:=hrel
  by_cases hlt:i<K
  ·
   obtain⟨q,hq⟩:∃ q,q=i / 8:=⟨_,rfl⟩;obtain⟨r,hr⟩:∃ r,r=8*(i % 8):=⟨_,rfl⟩;obtain⟨z,hz⟩:∃ z,d8 n i=z:=⟨_,rfl⟩;have z256:z<256:=by rw [<-hz];exact x6 n i
   have q1:(i:Int) / 8=(q:Int):=by omega
   have r1':8*((i:Int) % 8)=(r:Int):=by omega
   have q6:q<6:=by omega
   have r64:r<64:=by omega
   have n4:IntKind.u8.wrap ((wd n q:Int) / 2 ^ r)=(z:Int):=by
    rw [div_cast];exact xL _ z (by rw [<-hz];exact d8_wd n i q r hq hr)
   have c0:=zG r0 q q6;have c1:=qF r1 hlt;have f0:=fz (k:=i) r1;have RS:zW ((wr.setCell ⟨w.heap.size+1,i,none⟩ (.int .u8 (z:Int))).heap[w.heap.size+1]?=some (.cells (c8 K (n % 2 ^ (8*(i+1)))) 5)):=zJ (by rw [zY r1,c8_push K _ i z _ hlt (Nat.mod_lt _ (Nat.two_pow_pos _)) z256 rfl,qY,hz]);have dl:decide ((i:Int)<48)=true:=by rw [decide_eq_true_iff];omega
   clear hr hz hq;go_wp2
   go_roundw
   case rel=>exact⟨i+1,by omega,by go_num,(zF (w:=wr) (by omega)).trans r0,RS.out,hbw.setCell (by show w.heap.size<=w.heap.size+1;omega) _⟩
   case measure=>simp [intOf] <;> omega
  ·
   obtain rfl:i=K:=by omega
   rw [Nat.mod_eq_of_lt HN.out] at r1;have dl:decide ((i:Int)<48)=false:=by rw [decide_eq_false_iff_not];omega
   go_wp2_with fail
   refine (nat_fit i n (w.heap.size+1) i v (by omega) HN.out HV.out _ r1).mono ?_;rintro e w' ⟨rfl,hb2⟩;go_wp2
   go_ret
   exact⟨rfl,hbw.trans (hb2.mono hbw.size)⟩

theorem toWide_step (n i q r x:Nat)(hq:q=i / 8)(hr:r=8*(i % 8))(hx:d8 n i=x):n % 2 ^ (8*i) ||| x*2 ^ r*2 ^ (64*q)=n % 2 ^ (8*(i+1)):=by
 rw [Nat.mul_assoc,<-Nat.pow_add,show r+64*q=8*i by omega,qY,hx,Nat.mul_comm (2 ^ (8*i)) x];exact (or_disj _ _ _ (Nat.mod_lt _ (Nat.two_pow_pos _))).symm

theorem trows2 (w:World):qC w ((w.alloc (.cells (cw 6 0) 52)).alloc (.cells (cw 6 0) 52)) [0,0]:=rowsL_new (rowsL_new (rowsL_nil w) rfl 0) (by simp) 0

theorem nat_ToWide (n:Nat)(s:ByteArray)(hs:yN n=s)(h:nl n<=48)(w:World) :
  Calls Tryz.prog 205 #[.string s] w fun r w'=>r=.returned (.tuple #[.agg (cw 6 n),.bool true])/\Below w.heap.size w w':=by
 have hat:=yD 6;have hz:=yZ;have hf:=yY;have hs0:=jD;have hcs:∀ x,((cw 6 x).size=6)=True:=fun x=>eq_true (z8 6 x);obtain⟨L,hL⟩:∃ L,nl n=L:=⟨_,rfl⟩;have hsz:s.size=L:=by rw [<-hs,yF,hL]
 have hm:mayB s=true:=by rw [<-hs];exact mayB_nb n (by omega)
 have HM:=zJ hm;have ln:=qO n;rw [hL] at h ln;have HS:=zJ hs;have HN:=zJ ln;have NA:zW (nl n<=100000):=zJ (by omega);have d1:decide ((48:Int)<(L:Int))=false:=by rw [decide_eq_false_iff_not];omega
 clear hs hL hm ln
 go_enter Tryz.func205,Tryz.ntmps205
 go_wp2_with fail
 refine (yP s true HM.out _).mono ?_;rintro r w' ⟨rfl,hw'⟩;have R0:=trows2 w;rw [<-hw'] at R0;clear hw';go_wp2
 go_loopw [5] (fun iv wr=>∃ i:Nat,i<=L/\iv=.int .i64 i/\qC w wr [0,n % 2 ^ (8*i)]) (fun iv _=>L-(intOf iv).toNat)
 case atStart=>exact⟨0,by omega,rfl,by rw [Nat.mul_zero,Nat.pow_zero,Nat.mod_one];exact R0⟩
 case round=>
  clear R0;obtain⟨i,hi,rfl,R⟩:=hrel
  by_cases hlt:i<L
  ·
   obtain⟨q,hq⟩:∃ q,q=i / 8:=⟨_,rfl⟩;obtain⟨r,hr⟩:∃ r,r=8*(i % 8):=⟨_,rfl⟩;obtain⟨x,hx⟩:∃ x,d8 n i=x:=⟨_,rfl⟩;have x256:x<256:=by rw [<-hx];exact x6 n i
   have q1:(i:Int) / 8=(q:Int):=by omega
   obtain⟨r0,hr0⟩:∃ r0,i % 8=r0:=⟨_,rfl⟩;have tm:(i:Int).tmod 8=(r0:Int):=by rw [Int.tmod_eq_emod_of_nonneg (by omega)];omega
   have w1:IntKind.i64.wrap (q:Int)=(q:Int):=zR _ (by omega) (by omega);have w2:IntKind.i64.wrap (8*(r0:Int))=(r:Int):=by rw [zR _ (by omega) (by omega)];omega
   have w3:IntKind.u64.wrap (r:Int)=(r:Int):=by rw [IntKind.wrap_u64];omega
   have q6:q<6:=by omega
   have r64:r<64:=by omega
   have qi6:(q:Int)<6:=by omega
   have HST:=zJ (toWide_step n i q r x hq hr hx);obtain⟨y,hy⟩:∃ y,x*2 ^ r=y:=⟨_,rfl⟩
   have y64:y<18446744073709551616:=by
    rw [<-hy];have h1:x*2 ^ r<256*2 ^ r:=Nat.mul_lt_mul_of_pos_right x256 (Nat.two_pow_pos r);have h2:2 ^ r<=2 ^ 56:=Nat.pow_le_pow_right (by decide) (by omega);have h3:256*2 ^ r<=256*2 ^ 56:=Nat.mul_le_mul_left _ h2;have h4:256*2 ^ 56=18446744073709551616:=by decide
    omega
   have n4:IntKind.u64.wrap (x:Int)=(x:Int):=by rw [IntKind.wrap_u64];omega
   have n5:IntKind.u64.wrap ((x:Int)*2 ^ r)=(y:Int):=by
    rw [pow_cast,<-Int.natCast_mul,hy];exact wrap_nat y y64
   rw [hy] at HST;obtain⟨X,hX⟩:∃ X,n % 2 ^ (8*i)=X:=⟨_,rfl⟩;obtain⟨Y,hY⟩:∃ Y,n % 2 ^ (8*(i+1))=Y:=⟨_,rfl⟩;rw [hX] at R;rw [hX,hY] at HST;have x3:=bor X q y y64;have x4:=cw_or 6 X q y Y q6 y64 HST.out.symm;have R2:qC w (wr.setCell ⟨w.heap.size+1,q,none⟩ (.int .u64 ((wd X q ||| y:Nat):Int))) [0,Y]:=rowsL_setCell R 1 X Y _ q _ rfl rfl x4 rfl;have HY:=zJ hY;have HX:=zJ hx;have c1:=zG (rows1 R) q q6;have f0:=fz (k:=q) (rows1 R);have dl:decide (i<L)=true:=decide_eq_true hlt;clear hr hx hq hy hX hY HST x4 hr0;go_wp2
   go_region_with (go_at_call 157;refine (qX n i x s HS.out HX.out NA.out _).mono ?_;rintro r w' ⟨rfl,rfl⟩)
   all_goals go_wp2
   all_goals go_roundw
   all_goals first|(show (_:Nat)<_;simp [intOf];omega)|exact⟨i+1,by omega,by go_num,by rw [HY.out];exact rowsL_drew R2 1⟩
  ·
   obtain rfl:i=L:=by omega
   have dl:decide (i<i)=false:=by rw [decide_eq_false_iff_not];omega
   rw [Nat.mod_eq_of_lt HN.out] at R;have hst:=xG wr w.heap.size n 0 (rows0 R);have c1:=zG (rows1 R);have R2:qC w (wr.setRow w.heap.size (cw 6 n)) [n,n]:=rowsL_set R 0 n _ (by simp) rfl rfl;have c2:=zG (rows0 R2);go_wp2
   exact bodyPost_ret (v:=.tuple #[.agg (cw 6 n),.bool true]) (by simp [results,Tryz.results205,go_sem,c2,hf]) rfl ⟨rfl,R2.2⟩
theorem nl_mul (a b:Nat)(ha:a≠0)(hb:b≠0):nl a+nl b<=nl (a*b)+1:=by
 have h1:=nl_le a ha;have h2:=nl_le b hb;have h3:=qO (a*b);have h4:=Nat.mul_le_mul h1 h2;rw [<-Nat.pow_add] at h4;have h5:2 ^ (8*(nl a-1)+8*(nl b-1))<2 ^ (8*nl (a*b)):=Nat.lt_of_le_of_lt h4 h3;have h6:=(Nat.pow_lt_pow_iff_right (by decide:1<2)).1 h5;omega
theorem mul_lt8 (a b L M:Nat)(ha:a<2 ^ (8*L))(hb:b<2 ^ (8*M)):a*b<2 ^ (8*(L+M)):=by
 rw [Nat.mul_add,Nat.pow_add];exact Nat.mul_lt_mul_of_lt_of_le ha (Nat.le_of_lt hb) (Nat.two_pow_pos _)

theorem lg_ok (n:Nat)(v:ByteArray)(h:nl n<=16384)(hv:yN n=v):lg n=(v,0):=by unfold lg;rw [if_pos h,hv]

theorem set8_step (X p c t y z g:Nat)(ht:c+d8 X p+y=t)(hz:t % 256=z)(hg:t / 256=g):set8 X p z+2 ^ (8*(p+1))*g=X+2 ^ (8*p)*(c+y):=by
 have h1:=set8_add X p z;have h2:z+256*g=c+d8 X p+y:=by rw [ht,<-hz,<-hg];omega
 have h3:=congrArg (fun u=>2 ^ (8*p)*u) h2
 simp only [Nat.mul_add] at h3
 rw [pow8,Nat.mul_assoc,Nat.mul_add];omega
theorem mul_round (X V x b i k c y t z g:Nat)(hy:d8 b k=y)(hE:X+2 ^ (8*(i+k))*c=V+2 ^ (8*i)*(x*(b % 2 ^ (8*k))))(ht:c+d8 X (i+k)+x*y=t)(hz:t % 256=z)(hg:t / 256=g) :
  set8 X (i+k) z+2 ^ (8*(i+(k+1)))*g=V+2 ^ (8*i)*(x*(b % 2 ^ (8*(k+1)))):=by
 have h:=set8_step X (i+k) c t (x*y) z g ht hz hg;rw [show i+k+1=i+(k+1) by omega] at h
 have e:2 ^ (8*i)*(x*(b % 2 ^ (8*(k+1))))=2 ^ (8*i)*(x*(b % 2 ^ (8*k)))+2 ^ (8*(i+k))*(x*y):=by
  rw [qY,hy,Nat.mul_add x,Nat.mul_add (2 ^ (8*i)),Nat.mul_add 8 i k,Nat.pow_add,Nat.mul_left_comm x,Nat.mul_assoc (2 ^ (8*i))]
 rw [h,e,Nat.mul_add];omega
theorem mul_row (a b V i x:Nat)(hx:d8 a i=x)(hV:V=(a % 2 ^ (8*i))*b):V+2 ^ (8*i)*(x*b)=(a % 2 ^ (8*(i+1)))*b:=by
 rw [hV,qY,hx,Nat.add_mul,Nat.mul_assoc]
theorem mul_le_of (a b i:Nat):(a % 2 ^ (8*i))*b<=a*b:=Nat.mul_le_mul_right _ (Nat.mod_le _ _)

theorem nat_mul_short (a b:Nat)(s t v:ByteArray)(e:Int)(hs:yN a=s)(ht:yN b=t)(hr:lg (a*b)=(v,e))(hab:nl a+nl b<=16385)(w:World) :
  Calls Tryz.prog 102 #[.string s,.string t] w fun r w'=>r=.returned (.tuple #[.string v,.int .i64 e])/\Below w.heap.size w w':=by
 obtain⟨L,hL⟩:∃ L,nl a=L:=⟨_,rfl⟩;obtain⟨M,hM⟩:∃ M,nl b=M:=⟨_,rfl⟩;have hz:s.size=L:=by rw [<-hs,yF,hL]
 have hy:t.size=M:=by rw [<-ht,yF,hM]
 have la:=qO a;have lb:=qO b;rw [hL] at la hab;rw [hM] at lb hab;obtain⟨N,hN⟩:∃ N,L+M+1=N:=⟨_,rfl⟩;obtain⟨u,hu⟩:∃ u,yN (a*b)=u:=⟨_,rfl⟩;have LAB:zW (a*b<2 ^ (8*(L+M))):=zJ (mul_lt8 a b L M la lb);have LA:=zJ la;have LB:=zJ lb;have HU:=zJ hu;have HS:=zJ hs;have HT:=zJ ht;have HR:=zJ hr;have NA:zW (nl a<=100000):=zJ (by omega);have NB:zW (nl b<=100000):=zJ (by omega);have hmk:=c8_makeI N ((L:Int)+(M:Int)+1) (by omega) (by omega);have n0:IntKind.i64.wrap ((L:Int)+(M:Int))=(L:Int)+(M:Int):=zR _ (by omega) (by omega);have d0:decide ((16385:Int)<(L:Int)+(M:Int))=false:=by rw [decide_eq_false_iff_not];omega
 clear hs ht hr hL hM hu la lb
 go_enter Tryz.func102,Tryz.ntmps102
 go_wp2
 clear hmk d0
 go_loopw [7] (fun iv wr=>∃ i X:Nat,i<=L/\iv=.int .i64 i/\wr.heap[w.heap.size]?=some (.cells (c8 N X) 5)/\Below w.heap.size w wr/\zW (X=(a % 2 ^ (8*i))*b)) (fun iv _=>L-(intOf iv).toNat)
 case atStart=>exact⟨0,0,by omega,rfl,heap_alloc_last _ _,(Below.refl _ _).alloc (Nat.le_refl _) _,zJ (by rw [Nat.mul_zero,Nat.pow_zero,Nat.mod_one,Nat.zero_mul])⟩
 case round=>
  obtain⟨i,V,hi,rfl,r0,hbw,HE⟩:=hrel
  by_cases hlt:i<L
  ·
   obtain⟨x,hx⟩:∃ x,d8 a i=x:=⟨_,rfl⟩;have x256:x<256:=by rw [<-hx];exact x6 _ _
   have HX:=zJ hx;have dl:decide (i<L)=true:=decide_eq_true hlt;have ROW:=zJ (mul_row a b V i x hx HE.out);have TB:zW (V+2 ^ (8*i)*(x*b)<2 ^ (8*(L+M))):=zJ (by rw [ROW.out];exact Nat.lt_of_le_of_lt (mul_le_of a b (i+1)) LAB.out);clear hx;go_wp2_with fail
   refine (qX a i x s HS.out HX.out NA.out _).mono ?_;rintro r w' ⟨rfl,hw'⟩;rw [<-hw'] at r0 hbw;clear hw';go_wp2
   go_loopw [8,10] (fun cv kv wr=>∃ c k X:Nat,c<256/\k<=M/\cv=.int .i64 c/\kv=.int .i64 k/\wr.heap[w.heap.size]?=some (.cells (c8 N X) 5)/\Below w.heap.size w wr/\zW (X+2 ^ (8*(i+k))*c=V+2 ^ (8*i)*(x*(b % 2 ^ (8*k))))) (fun _ kv _=>M-(intOf kv).toNat)
   case atStart=>exact⟨0,0,V,by omega,by omega,rfl,rfl,r0,hbw,zJ (by simp [Nat.mod_one])⟩
   case round=>
    clear r0 hbw;obtain⟨c,k,X,hc,hk,rfl,rfl,r0,hbw,HK⟩:=hrel
    by_cases hlk:k<M
    ·
     obtain⟨y,hy2⟩:∃ y,d8 b k=y:=⟨_,rfl⟩;have y256:y<256:=by rw [<-hy2];exact x6 _ _
     obtain⟨p,hp⟩:∃ p,i+k=p:=⟨_,rfl⟩;obtain⟨d,hd⟩:∃ d,d8 X p=d:=⟨_,rfl⟩;have d256:d<256:=by rw [<-hd];exact x6 _ _
     obtain⟨m,hm⟩:∃ m,x*y=m:=⟨_,rfl⟩
     have m2:m<=65025:=by
      rw [<-hm]
      have:x*y<=255*255:=Nat.mul_le_mul (by omega) (by omega)
      omega
     obtain⟨q,hq⟩:∃ q,c+d+m=q:=⟨_,rfl⟩;obtain⟨z,hz2⟩:∃ z,q % 256=z:=⟨_,rfl⟩;obtain⟨g,hg⟩:∃ g,q / 256=g:=⟨_,rfl⟩;have z256:z<256:=by omega
     have g256:g<256:=by omega
     have NE:=mul_round X V x b i k c y q z g hy2 HK.out (by rw [hp,hd,hm];exact hq) hz2 hg;rw [hp] at NE;have NX:=zJ NE;have p1:(i:Int)+(k:Int)=(p:Int):=by omega
     have pN:p<N:=by omega
     have n1:IntKind.i64.wrap (p:Int)=(p:Int):=zR _ (by omega) (by omega);have n2:(x:Int)*(y:Int)=(m:Int):=by rw [<-hm];exact (Int.natCast_mul x y).symm
     have n3:IntKind.i64.wrap (m:Int)=(m:Int):=zR _ (by omega) (by omega);have n4:IntKind.i64.wrap ((c:Int)+(d:Int))=(c:Int)+(d:Int):=zR _ (by omega) (by omega);have n5:IntKind.i64.wrap ((c:Int)+(d:Int)+(m:Int))=(q:Int):=by rw [zR _ (by omega) (by omega)];omega
     have n6:=xL q z hz2;have n7:(q:Int) / 256=(g:Int):=by omega
     have n8:IntKind.i64.wrap (d:Int)=(d:Int):=zR _ (by omega) (by omega);have HY:=zJ hy2;have dlk:decide (k<M)=true:=decide_eq_true hlk;obtain⟨F,hF1,hF2⟩:=yW wr;have G0:∀ u,(F u).heap[w.heap.size]?=some (.cells (c8 N X) 5):=fun u=>zA (hF1 u) _ _ _ r0;have f0:∀ u,(F u).cell? ⟨w.heap.size,p,none⟩=some (.int .u8 d):=fun u=>by have:=qF (G0 u) pN;rw [hd] at this;exact this
     have pNi:(p:Int)<(N:Int):=by omega
     clear hy2 hp hd hm hq hz2 hg NE;go_wp2
     refine yA F hF2 (by kernel_rfl) (by kernel_rfl) ?_
     repeat quiet_step ((go_at_call 157;exact quietF0 (qX b k y t HT.out HY.out NB.out _)))
     refine wpQuiet_nil ?_;rintro _ ⟨u,rfl⟩;have fz0:=fz (k:=p) (G0 u);have RS:zW (((F u).setCell ⟨w.heap.size,p,none⟩ (.int .u8 (z:Int))).heap[w.heap.size]?=some (.cells (c8 N (set8 X p z)) 5)):=zJ (by rw [zY (G0 u),c8_seti N X p z _ pN z256 rfl]);have BF:Below w.heap.size w (F u):=hbw.trans ((hF1 u).mono hbw.size);go_wp2
     go_roundw
     case rel=>exact⟨g,k+1,_,g256,by omega,by first|rfl|go_num,by go_num,RS.out,BF.setCell (Nat.le_refl _) _,NX⟩
     case measure=>simp [intOf] <;> omega
    ·
     obtain rfl:k=M:=by omega
     have dlk:decide (k<k)=false:=by rw [decide_eq_false_iff_not];omega
     have HK2:zW (X+2 ^ (8*(i+k))*c=V+2 ^ (8*i)*(x*b)):=zJ (by have:=HK.out;rw [Nat.mod_eq_of_lt LB.out] at this;exact this);clear HK;obtain⟨p,hp⟩:∃ p,i+k=p:=⟨_,rfl⟩;have p1:(i:Int)+(k:Int)=(p:Int):=by omega
     rw [hp] at HK2;go_wp2
     go_loopw [8,11] (fun cv pv wr=>∃ c p X:Nat,c<256/\p<=N/\cv=.int .i64 c/\pv=.int .i64 p/\wr.heap[w.heap.size]?=some (.cells (c8 N X) 5)/\Below w.heap.size w wr/\zW (X+2 ^ (8*p)*c=V+2 ^ (8*i)*(x*b))) (fun _ pv _=>N-(intOf pv).toNat)
     case atStart=>exact⟨c,p,X,hc,by omega,rfl,by first|rfl|go_num,r0,hbw,HK2⟩
     case round=>
      clear r0 hbw HK2 hc;obtain⟨c,p,X,hc,hpN,rfl,rfl,r0,hbw,HP⟩:=hrel
      by_cases hc0:0<c
      ·
       have dc:decide (0<c)=true:=decide_eq_true hc0
       have pN:p<N:=by
        have h1:=HP.out;have h2:=TB.out;have h3:2 ^ (8*p)*1<=2 ^ (8*p)*c:=Nat.mul_le_mul_left _ (by omega);have h4:2 ^ (8*p)<2 ^ (8*(L+k)):=by omega
        have h5:=(Nat.pow_lt_pow_iff_right (by decide:1<2)).1 h4;omega
       obtain⟨d,hd⟩:∃ d,d8 X p=d:=⟨_,rfl⟩;have d256:d<256:=by rw [<-hd];exact x6 _ _
       obtain⟨q,hq⟩:∃ q,c+d=q:=⟨_,rfl⟩;obtain⟨z,hz2⟩:∃ z,q % 256=z:=⟨_,rfl⟩;obtain⟨g,hg⟩:∃ g,q / 256=g:=⟨_,rfl⟩;have z256:z<256:=by omega
       have g256:g<256:=by omega
       have NE:=set8_step X p c q 0 z g (by rw [hd];exact hq) hz2 hg;rw [show c+0=c from rfl,HP.out] at NE;have NX:=zJ NE;have n1:IntKind.i64.wrap (d:Int)=(d:Int):=zR _ (by omega) (by omega);have n5:IntKind.i64.wrap ((c:Int)+(d:Int))=(q:Int):=by rw [zR _ (by omega) (by omega)];omega
       have n6:=xL q z hz2;have n7:(q:Int) / 256=(g:Int):=by omega
       have c1:=qF r0 pN;rw [hd] at c1;have f0:=fz (k:=p) r0;have RS:zW ((wr.setCell ⟨w.heap.size,p,none⟩ (.int .u8 (z:Int))).heap[w.heap.size]?=some (.cells (c8 N (set8 X p z)) 5)):=zJ (by rw [zY r0,c8_seti N X p z _ pN z256 rfl]);clear hd hq hz2 hg NE;go_wp2
       go_roundw
       case rel=>exact⟨g,p+1,_,g256,by omega,by first|rfl|go_num,by go_num,RS.out,hbw.setCell (Nat.le_refl _) _,NX⟩
       case measure=>simp [intOf] <;> omega
      ·
       obtain rfl:c=0:=by omega
       have e2:zW (X=(a % 2 ^ (8*(i+1)))*b):=zJ (by have:=HP.out;rw [Nat.mul_zero,Nat.add_zero,ROW.out] at this;exact this);go_wp2
       go_roundw
       case rel=>exact⟨i+1,X,by omega,by go_num,r0,hbw,e2⟩
       case measure=>simp [intOf] <;> omega
  ·
   obtain rfl:i=L:=by omega
   have dl:decide (i<i)=false:=by rw [decide_eq_false_iff_not];omega
   have e2:=HE.out;rw [Nat.mod_eq_of_lt LA.out] at e2;subst e2;have FX:zW (a*b<2 ^ (8*N)):=zJ (Nat.lt_of_lt_of_le LAB.out (pow8_le _ _ (by omega)));go_wp2_with fail
   refine (nat_fit N (a*b) w.heap.size N u (by omega) FX.out HU.out _ r0).mono ?_;rintro r w2 ⟨rfl,hb2⟩;go_wp2_with fail
   refine (nat_long (a*b) u v e HU.out HR.out _).mono ?_;rintro r w' ⟨rfl,rfl⟩;go_wp2
   go_ret2
   exact⟨rfl,hbw.trans (hb2.mono hbw.size)⟩

theorem yS (a b:Nat)(s t v:ByteArray)(e:Int)(hs:yN a=s)(ht:yN b=t)(hr:lg (a*b)=(v,e))(ha:nl a<=20000)(hb:nl b<=20000)(w:World) :
  Calls Tryz.prog 102 #[.string s,.string t] w fun r w'=>r=.returned (.tuple #[.string v,.int .i64 e])/\Below w.heap.size w w':=by
 by_cases hab:nl a+nl b<=16385
 ·
  exact nat_mul_short a b s t v e hs ht hr hab w
 ·
  obtain⟨L,hL⟩:∃ L,nl a=L:=⟨_,rfl⟩;obtain⟨M,hM⟩:∃ M,nl b=M:=⟨_,rfl⟩;have hz:s.size=L:=by rw [<-hs,yF,hL]
  have hy:t.size=M:=by rw [<-ht,yF,hM]
  have n0:IntKind.i64.wrap ((L:Int)+(M:Int))=(L:Int)+(M:Int):=zR _ (by omega) (by omega);have d0:decide ((16385:Int)<(L:Int)+(M:Int))=true:=by rw [decide_eq_true_iff];omega
  have e1:=x5 s;have e2:=x5 t
  have hcase:(decide (s.size=0)=true/\v=⟨#[]⟩/\e=0)∨(decide (s.size=0)=false/\decide (t.size=0)=true/\v=⟨#[]⟩/\e=0)∨(decide (s.size=0)=false/\decide (t.size=0)=false/\v=⟨#[]⟩/\e=4):=by
   have h0:a=0∨b=0->v=⟨#[]⟩/\e=0:=by
    intro h
    have:a*b=0:=by rcases h with h|h <;> rw [h] <;> simp
    rw [this] at hr
    unfold lg at hr
    rw [qI,if_pos (by omega),yX] at hr;injection hr with h1 h2;exact⟨h1.symm,h2.symm⟩
   by_cases ha0:a=0
   ·
    left
    exact⟨decide_eq_true (by rw [hz,<-hL,ha0,qI]),h0 (Or.inl ha0)⟩
   ·
    have hp:=jG a ha0
    by_cases hb0:b=0
    ·
     right;left
     exact⟨decide_eq_false (by omega),decide_eq_true (by rw [hy,<-hM,hb0,qI]),h0 (Or.inr hb0)⟩
    ·
     right;right
     have hq:=jG b hb0;have hm:=nl_mul a b ha0 hb0
     unfold lg at hr
     rw [if_neg (by omega)] at hr;injection hr with h1 h2;exact⟨decide_eq_false (by omega),decide_eq_false (by omega),h1.symm,h2.symm⟩
  clear hr hab hs ht hL hM
  rcases hcase with ⟨h1,rfl,rfl⟩|⟨h1,h2,rfl,rfl⟩|⟨h1,h2,rfl,rfl⟩
  all_goals
   rw [h1] at e1
   try (rw [h2] at e2)
   clear h1
   go_enter Tryz.func102,Tryz.ntmps102
   go_wp2
   go_ret2
   exact⟨rfl,Below.refl _ _⟩
end Go.Proofs.YtapikkbifdldfaaGreatDoor
