/-
  What the functions that the statement reaches return: part 3 (Wide9, Rwide1, Rwide2, Wide12, Frame6, Quot1, Quot2, Rlen, Rquot1, Jmath, Jam1, Jam2, Nat0).
-/
import Derived.RegionTactic
import Derived.Test.YtapikkbifdldfaaGreatDoorRows
import Derived.WalkKit
import Derived.ProofKit
import Derived.OpenShut
import Derived.Laws.IdiomArrays
import Derived.Below
import Derived.Carry
import Derived.Deep.RegionWith
import Derived.Lib.BitFns
import Derived.Laws.Cover1
import Derived.Test.YtapikkbifdldfaaGreatDoorFd02
namespace Go.Proofs.YtapikkbifdldfaaGreatDoor
set_option maxRecDepth 100000
set_option maxHeartbeats 40000000
open Go.RowKit WMath
def xZ (b:Nat×Nat):Value:=.agg #[.int .u64 (b.1:Nat),.int .u64 (b.2:Nat)]

theorem set0 (x:Nat)(hx:x<18446744073709551616):(cw 6 0).setIfInBounds 0 (.int .u64 x)=cw 6 x:=by
 rw [cw_set 6 0 0 x (by omega) hx,setw_low 0 0 x (by decide)];simp
theorem set1 (x y:Nat)(hx:x<18446744073709551616)(hy:y<18446744073709551616):(cw 6 x).setIfInBounds 1 (.int .u64 y)=cw 6 (x+18446744073709551616*y):=by
 rw [cw_set 6 x 1 y (by omega) hy,setw_low x 1 y (by rw [show 2 ^ (64*1)=18446744073709551616 by decide];exact hx)]
theorem bits_ltQ (x y:Nat)(hx:x<18446744073709551616)(hy:y<18446744073709551616):x+18446744073709551616*y<Q:=by
 obtain⟨L,hL,hQ⟩:=Q_of;rw [hQ];have h:=push_lt x 1 y (by rw [show 2 ^ (64*1)=18446744073709551616 by decide];exact hx) hy;have h2:2 ^ (64*(1+1))<=2 ^ (64*L):=Nat.pow_le_pow_right (by decide) (by omega);rw [show 2 ^ (64*1)=18446744073709551616 by decide] at h;omega

theorem wofbits_any (hi lo:Nat)(hh:hi<18446744073709551616)(hl:lo<18446744073709551616)(w:World) :
  Calls Tryz.prog 72 #[.agg #[.int .u64 hi,.int .u64 lo]] w fun e w'=>e=.returned (.agg (cw 6 (lo+18446744073709551616*hi)))/\Below w.heap.size w w':=by
 have hat:=yD 6;have hz:=yZ;have hf:=yY;have hs0:=jD;obtain⟨v,hv⟩:∃ v,v=lo+18446744073709551616*hi:=⟨_,rfl⟩;have h1:=set0 lo hl;have h2:=set1 lo hi hl hh;rw [<-hv] at h2 ⊢;have h3:(cw 6 0).toList.set 0 (.int .u64 lo)=(cw 6 lo).toList:=by rw [<-h1];simp
 have h4:(cw 6 lo).toList.set 1 (.int .u64 hi)=(cw 6 v).toList:=by rw [<-h2];simp
 clear hv
 go_enter Tryz.func72,Tryz.ntmps72
 go_wp2
 exact bodyPost_ret (v:=.agg (cw 6 v)) (by simp [results,Tryz.results72,go_sem,hat,hf]) rfl ⟨rfl,((Below.refl _ _).alloc (Nat.le_refl _) _).alloc (by simp <;> omega) _⟩

theorem rwof_any (n:Nat)(hn:n<18446744073709551616)(w:World) :
  Calls Tryz.prog 94 #[.int .u64 n] w fun e w'=>e=.returned (.agg (cw 6 n))/\Below w.heap.size w w':=by
 have hat:=yD 6;have hz:=yZ;have hf:=yY;have hs1:=st1;have h1:=set0 n hn
 go_enter Tryz.func94,Tryz.ntmps94
 go_wp2
 exact bodyPost_ret (v:=.agg (cw 6 n)) (by simp [results,Tryz.results94,go_sem,hat,hf]) rfl ⟨rfl,((Below.refl _ _).alloc (Nat.le_refl _) _).alloc (by simp <;> omega) _⟩

theorem rwofbits_any (hi lo:Nat)(hh:hi<18446744073709551616)(hl:lo<18446744073709551616)(w:World) :
  Calls Tryz.prog 141 #[.agg #[.int .u64 hi,.int .u64 lo]] w fun e w'=>e=.returned (.agg (cw 6 (lo+18446744073709551616*hi)))/\Below w.heap.size w w':=by
 have hat:=yD 6;have hz:=yZ;have hf:=yY;have hs1:=st1;obtain⟨v,hv⟩:∃ v,v=lo+18446744073709551616*hi:=⟨_,rfl⟩;have h1:=set0 lo hl;have h2:=set1 lo hi hl hh;rw [<-hv] at h2 ⊢;clear hv
 go_enter Tryz.func141,Tryz.ntmps141
 go_wp2
 exact bodyPost_ret (v:=.agg (cw 6 v)) (by simp [results,Tryz.results141,go_sem,hat,hf]) rfl ⟨rfl,(((Below.refl _ _).alloc (Nat.le_refl _) _).alloc (by simp <;> omega) _).alloc (by simp <;> omega) _⟩

def q8 (n m:Nat):Int:=if n=m then 0 else if n<m then -1 else 1

theorem wcmp_any (n m:Nat)(hn:n<Q)(hm:m<Q)(w:World) :
  Calls Tryz.prog 118 #[.agg (cw 6 n),.agg (cw 6 m)] w fun e w'=>e=.returned (.int .i64 (q8 n m))/\Below w.heap.size w w':=by
 have hat:=yD 6;have hz:=yZ;have hf:=yY;have hs0:=jD;have heq:=eq6;have hg:=eqg6
 by_cases h:n=m
 ·
  subst h
  go_enter Tryz.func118,Tryz.ntmps118
  go_wp2
  go_ret
  exact⟨xH (by unfold q8;simp),((Below.refl _ _).alloc (Nat.le_refl _) _).alloc (by simp <;> omega) _⟩
 ·
  obtain⟨d,hd⟩:∃ d,(n+Q-m) % Q=d:=⟨_,rfl⟩;have HD:=zJ hd;have hne:decide (n=m)=false:=decide_eq_false h;clear hd
  by_cases h2:n<m
  ·
   have h3:decide (n<m)=true:=decide_eq_true h2;have H3:=zJ h3;clear h3
   go_enter Tryz.func118,Tryz.ntmps118
   go_wp2_with fail
   refine (wsub_is n m d true hn hm HD.out H3.out _).mono ?_;rintro e w1 ⟨rfl,hb⟩;go_wp2
   go_ret
   exact⟨xH (by unfold q8;rw [if_neg h,if_pos h2]),((((Below.refl _ _).alloc (Nat.le_refl _) _).alloc (by simp) _).trans (hb.mono (by simp <;> omega))).alloc (by have:=hb.size;simp at this;omega) _⟩
  ·
   have h3:decide (n<m)=false:=decide_eq_false h2;have H3:=zJ h3;clear h3
   go_enter Tryz.func118,Tryz.ntmps118
   go_wp2_with fail
   refine (wsub_is n m d false hn hm HD.out H3.out _).mono ?_;rintro e w1 ⟨rfl,hb⟩;go_wp2
   go_ret
   exact⟨xH (by unfold q8;rw [if_neg h,if_neg h2]),((((Below.refl _ _).alloc (Nat.le_refl _) _).alloc (by simp) _).trans (hb.mono (by simp <;> omega))).alloc (by have:=hb.size;simp at this;omega) _⟩

theorem hi_zero (n k:Nat):∀ d,(∀ j,k<=j->j<k+d->wd n j=0)->n % 2 ^ (64*(k+d))=n % 2 ^ (64*k)
 | 0,_=>rfl
 | d+1,h=>by
  rw [<-Nat.add_assoc,mod_wd,h (k+d) (by omega) (by omega),Nat.mul_zero,Nat.add_zero];exact hi_zero n k d (fun j h1 h2=>h j h1 (by omega))
theorem two_words (n:Nat)(hn:n<Q):(wd n 0+18446744073709551616*wd n 1=n)↔(wd n 2=0/\wd n 3=0/\wd n 4=0/\wd n 5=0):=by
 have hp:(2:Nat) ^ (64*1)=18446744073709551616:=by decide
 have h0:∀ a b j,a<18446744073709551616->b<18446744073709551616->2<=j->wd (a+18446744073709551616*b) j=0:=fun a b j ha hb hj=>by
  have:=push_lt a 1 b (by rw [hp];exact ha) hb
  rw [hp] at this;exact wd_high this hj
 constructor
 ·
  intro h;rw [<-h];exact⟨h0 _ _ 2 (yU _ _) (yU _ _) (by omega),h0 _ _ 3 (yU _ _) (yU _ _) (by omega),h0 _ _ 4 (yU _ _) (yU _ _) (by omega),h0 _ _ 5 (yU _ _) (yU _ _) (by omega)⟩
 ·
  rintro ⟨h2,h3,h4,h5⟩;obtain⟨K,hK⟩:∃ K:Nat,K=1:=⟨1,rfl⟩
  have e1:wd n 0+18446744073709551616*wd n 1=n % 2 ^ (64*(K+1)):=by
   rw [mod_wd,hK,hp,show n % 18446744073709551616=wd n 0 by unfold wd;simp]
  have c:=hi_zero n (K+1) 4 (fun j g1 g2=>by
   have:j=2∨j=3∨j=4∨j=5:=by omega
   rcases this with rfl|rfl|rfl|rfl <;> assumption)
  rw [wlow n (K+1+4) hn (by omega)] at c;rw [e1,<-c]

theorem wofbits_is (hi lo v:Nat)(hh:hi<18446744073709551616)(hl:lo<18446744073709551616)(hv:lo+18446744073709551616*hi=v)(w:World) :
  Calls Tryz.prog 72 #[.agg #[.int .u64 hi,.int .u64 lo]] w fun e w'=>e=.returned (.agg (cw 6 v))/\Below w.heap.size w w':=by
 subst hv;exact wofbits_any hi lo hh hl w

theorem wtobits_yes (n:Nat)(hn:n<Q)(hv:wd n 0+18446744073709551616*wd n 1=n)(w:World) :
  Calls Tryz.prog 74 #[.agg (cw 6 n)] w fun e w'=>e=.returned (.tuple #[.agg #[.int .u64 (wd n 1),.int .u64 (wd n 0)],.bool true])/\Below w.heap.size w w':=by
 have hat:=yD 6;have hf:=yY;have heq:=eq6;have hg:=eqg6;have HV:=zJ hv;clear hv;obtain⟨W,hW⟩:∃ W,W=(w.alloc (.cells (cw 6 n) 52)).alloc (.cells #[.int .u64 (wd n 1),.int .u64 (wd n 0)] 26):=⟨_,rfl⟩;have r0:W.heap[w.heap.size]?=some (.cells (cw 6 n) 52):=by rw [hW,zU _ _ _ (by simp only [zM];omega)];exact heap_alloc_last _ _
 have r1:W.heap[w.heap.size+1]?=some (.cells #[.int .u64 (wd n 1),.int .u64 (wd n 0)] 26):=by
  rw [hW]
  have:=heap_alloc_last (w.alloc (.cells (cw 6 n) 52)) (.cells #[.int .u64 (wd n 1),.int .u64 (wd n 0)] 26)
  simpa only [zM] using this
 have bW:Below w.heap.size w W:=by rw [hW];exact ((Below.refl _ _).alloc (Nat.le_refl _) _).alloc (by simp only [zM];omega) _
 obtain⟨F,hF1,hF2⟩:=yW W;have hFn:∀ u o,o<6->(F u).cell? ⟨w.heap.size,o,none⟩=some (.int .u64 (wd n o:Nat)):=fun u=>zG (zA (hF1 u) _ _ _ r0);have hF3:∀ u,(F u).cell? ⟨w.heap.size+1,0,none⟩=some (.int .u64 (wd n 1)):=fun u=>by rw [cell_of_row _ _ _ _ _ _ (zA (hF1 u) _ _ _ r1)];rfl
 have hF4:∀ u,(F u).cell? ⟨w.heap.size+1,1,none⟩=some (.int .u64 (wd n 0)):=fun u=>by rw [cell_of_row _ _ _ _ _ _ (zA (hF1 u) _ _ _ r1)];rfl
 go_enter Tryz.func74,Tryz.ntmps74
 go_wp2
 rw [<-hW];clear hW;refine yA F hF2 (by kernel_rfl) (by kernel_rfl) ?_
 repeat quiet_step ((go_at_call 72;exact yH hF1 hF2 (wofbits_is (wd n 1) (wd n 0) n (yU _ _) (yU _ _) HV.out _)))
 refine wpQuiet_nil ?_;rintro _ ⟨u,rfl⟩;have hz3:=hF3 u;have hz4:=hF4 u;have hz5:∀ o,(F u).frozen? ⟨w.heap.size+1,o,none⟩=false:=fun o=>fz (zA (hF1 u) _ _ _ r1);go_wp2
 exact bodyPost_ret (v:=.tuple #[.agg #[.int .u64 (wd n 1),.int .u64 (wd n 0)],.bool true]) (by simp [results,Tryz.results74,go_sem,hz3,hz4]) rfl ⟨rfl,((bW.trans ((hF1 u).mono bW.size)).setCell (by show w.heap.size<=w.heap.size+1;omega) _).setCell (by show w.heap.size<=w.heap.size+1;omega) _⟩
theorem wtobits_no (n:Nat)(hn:n<Q)(hv:¬ wd n 0+18446744073709551616*wd n 1=n)(w:World) :
  Calls Tryz.prog 74 #[.agg (cw 6 n)] w fun e w'=>e=.returned (.tuple #[.agg #[.int .u64 0,.int .u64 0],.bool false])/\Below w.heap.size w w':=by
 have hat:=yD 6;have hf:=yY;have heq:=eq6;have hg:=eqg6;obtain⟨v,hx⟩:∃ v,wd n 0+18446744073709551616*wd n 1=v:=⟨_,rfl⟩;rw [hx] at hv;have hvQ:v<Q:=by rw [<-hx];exact bits_ltQ _ _ (yU _ _) (yU _ _)
 have HV:=zJ hx;clear hx;obtain⟨W,hW⟩:∃ W,W=(w.alloc (.cells (cw 6 n) 52)).alloc (.cells #[.int .u64 (wd n 1),.int .u64 (wd n 0)] 26):=⟨_,rfl⟩;have r0:W.heap[w.heap.size]?=some (.cells (cw 6 n) 52):=by rw [hW,zU _ _ _ (by simp only [zM];omega)];exact heap_alloc_last _ _
 have r1:W.heap[w.heap.size+1]?=some (.cells #[.int .u64 (wd n 1),.int .u64 (wd n 0)] 26):=by
  rw [hW]
  have:=heap_alloc_last (w.alloc (.cells (cw 6 n) 52)) (.cells #[.int .u64 (wd n 1),.int .u64 (wd n 0)] 26)
  simpa only [zM] using this
 have bW:Below w.heap.size w W:=by rw [hW];exact ((Below.refl _ _).alloc (Nat.le_refl _) _).alloc (by simp only [zM];omega) _
 obtain⟨F,hF1,hF2⟩:=yW W;have hFn:∀ u o,o<6->(F u).cell? ⟨w.heap.size,o,none⟩=some (.int .u64 (wd n o:Nat)):=fun u=>zG (zA (hF1 u) _ _ _ r0);have hF3:∀ u,(F u).cell? ⟨w.heap.size+1,0,none⟩=some (.int .u64 (wd n 1)):=fun u=>by rw [cell_of_row _ _ _ _ _ _ (zA (hF1 u) _ _ _ r1)];rfl
 have hF4:∀ u,(F u).cell? ⟨w.heap.size+1,1,none⟩=some (.int .u64 (wd n 0)):=fun u=>by rw [cell_of_row _ _ _ _ _ _ (zA (hF1 u) _ _ _ r1)];rfl
 go_enter Tryz.func74,Tryz.ntmps74
 go_wp2
 rw [<-hW];clear hW;refine yA F hF2 (by kernel_rfl) (by kernel_rfl) ?_
 repeat quiet_step ((go_at_call 72;exact yH hF1 hF2 (wofbits_is (wd n 1) (wd n 0) v (yU _ _) (yU _ _) HV.out _)))
 refine wpQuiet_nil ?_;rintro _ ⟨u,rfl⟩;have hz3:=hF3 u;have hz4:=hF4 u;have hz5:∀ o,(F u).frozen? ⟨w.heap.size+1,o,none⟩=false:=fun o=>fz (zA (hF1 u) _ _ _ r1);go_wp2
 exact bodyPost_ret (v:=.tuple #[.agg #[.int .u64 0,.int .u64 0],.bool false]) (by simp [results,Tryz.results74,go_sem,hz3,hz4]) rfl ⟨rfl,((bW.trans ((hF1 u).mono bW.size)).setCell (by show w.heap.size<=w.heap.size+1;omega) _).setCell (by show w.heap.size<=w.heap.size+1;omega) _⟩

theorem nz_false {x:Nat} (h:x=0):(((x:Nat):Int) != 0)=false:=by subst h;rfl
theorem rwtobits_yes (n:Nat)(hn:n<Q)(hv:wd n 0+18446744073709551616*wd n 1=n)(w:World) :
  Calls Tryz.prog 148 #[.agg (cw 6 n)] w fun e w'=>e=.returned (.tuple #[.agg #[.int .u64 (wd n 1),.int .u64 (wd n 0)],.bool true])/\Below w.heap.size w w':=by
 have hat:=yD 6;obtain⟨z2,z3,z4,z5⟩:=(two_words n hn).1 hv;have y2:=nz_false z2;have y3:=nz_false z3;have y4:=nz_false z4;have y5:=nz_false z5;clear z2 z3 z4 z5 hv
 go_enter Tryz.func148,Tryz.ntmps148
 go_wp2
 exact bodyPost_ret (v:=.tuple #[.agg #[.int .u64 (wd n 1),.int .u64 (wd n 0)],.bool true]) (by simp [results,Tryz.results148,go_sem]) rfl ⟨rfl,((Below.refl _ _).alloc (Nat.le_refl _) _).alloc (by simp <;> omega) _⟩

theorem rwofbits_is (hi lo v:Nat)(hh:hi<18446744073709551616)(hl:lo<18446744073709551616)(hv:lo+18446744073709551616*hi=v)(w:World) :
  Calls Tryz.prog 141 #[.agg #[.int .u64 hi,.int .u64 lo]] w fun e w'=>e=.returned (.agg (cw 6 v))/\Below w.heap.size w w':=by
 subst hv;exact rwofbits_any hi lo hh hl w
theorem wcmp_is (n m:Nat)(c:Int)(hn:n<Q)(hm:m<Q)(hc:q8 n m=c)(w:World) :
  Calls Tryz.prog 118 #[.agg (cw 6 n),.agg (cw 6 m)] w fun e w'=>e=.returned (.int .i64 c)/\Below w.heap.size w w':=by
 subst hc;exact wcmp_any n m hn hm w
theorem radd_is (a b:Nat)(c:Bool)(s:Nat)(o:Bool)(ha:a<18446744073709551616)(hb:b<18446744073709551616)(hs:(a+b+c.toNat) % 18446744073709551616=s)(ho:decide (18446744073709551616<=a+b+c.toNat)=o)(w:World) :
  Calls Tryz.prog 193 #[.int .u64 a,.int .u64 b,.bool c] w fun e w'=>e=.returned (.tuple #[.int .u64 s,.bool o])/\w'=w:=by
 subst hs;subst ho;exact radd_any a b c ha hb w
theorem add_facts (n m S k:Nat)(C:Bool)(hS:S<2 ^ (64*k))(hE:S+2 ^ (64*k)*C.toNat=n % 2 ^ (64*k)+m % 2 ^ (64*k)) :
  ∃ (x:Nat) (o:Bool),x<18446744073709551616/\zW ((wd n k+wd m k+C.toNat) % 18446744073709551616=x)/\zW (decide (18446744073709551616<=wd n k+wd m k+C.toNat)=o)/\zW (S+2 ^ (64*k)*x<2 ^ (64*(k+1)))/\zW (S+2 ^ (64*k)*x+2 ^ (64*(k+1))*o.toNat=n % 2 ^ (64*(k+1))+m % 2 ^ (64*(k+1))):=
 ⟨_,_,Nat.mod_lt _ (by decide),zJ rfl,zJ rfl,zJ (push_lt S k _ hS (Nat.mod_lt _ (by decide))),zJ (wadd_step n m S k _ C hE rfl)⟩
theorem rwadd_is (n m v:Nat)(o:Bool)(hn:n<Q)(hm:m<Q)(hv:(n+m) % Q=v)(ho:decide (Q<=n+m)=o)(w:World) :
  Calls Tryz.prog 147 #[.agg (cw 6 n),.agg (cw 6 m)] w fun e w'=>e=.returned (.tuple #[.agg (cw 6 v),.bool o])/\Below w.heap.size w w':=by
 have HV:=zJ hv;have HW:=zJ ho;clear hv ho;have hat:=yD 6;have hz:=yZ;have hf:=yY;have hs1:=st1d;have hsc:=sc0d
 go_enter Tryz.func147,Tryz.ntmps147
 go_wp2
 go_loopw [7,8] (fun ov i wr=>∃ (k S d:Nat) (C:Bool),k<=6/\i=.int .i64 k/\ov=.bool C/\wr=((((w.alloc (.cells (cw 6 n) 52)).alloc (.cells (cw 6 m) 52)).alloc (.cells (cw 6 0) 52)).alloc (.cells (cw 6 S) 52)).drewN d/\S<2 ^ (64*k)/\zW (S+2 ^ (64*k)*C.toNat=n % 2 ^ (64*k)+m % 2 ^ (64*k))) (fun _ i _=>6-(intOf i).toNat)
 case atStart=>exact⟨0,0,0,false,by omega,rfl,rfl,rfl,by decide,zJ (by simp [Nat.mod_one])⟩
 case round=>
  obtain⟨k,S,d,C,hk,rfl,rfl,rfl,hS,HE⟩:=hrel
  by_cases hlt:k<6
  ·
   have hki:(k:Int)<6:=by omega
   obtain⟨x,oo,bx,HX,HO,P1,ST⟩:=add_facts n m S k C hS HE.out;have hp:=cw_push 6 S k x _ hlt hS bx rfl;go_wp2
   go_quiet ((go_at_call 193;exact (radd_is _ _ _ x oo (yU _ _) (yU _ _) HX.out HO.out _).mono (fun _ _ h=>⟨h.1,_,h.2⟩)))
   go_wp2
   go_roundw
   case rel=>exact⟨k+1,_,_,oo,by omega,by go_num,rfl,rfl,P1.out,ST⟩
   case measure=>simp [intOf];omega
  ·
   go_wp2
   obtain⟨e1,e2⟩:=wadd_end n m S k C (by omega) hn hm hS HE.out;rw [HV.out] at e1;rw [HW.out] at e2;subst e1;subst e2;exact bodyPost_ret (v:=.tuple #[.agg (cw 6 S),.bool C]) (by simp [results,Tryz.results147,go_sem,hat,hf]) rfl ⟨rfl,below_drewN ((((Below.refl _ _).alloc (Nat.le_refl _) _).alloc (by simp <;> omega) _).alloc (by simp <;> omega) _ |>.alloc (by simp <;> omega) _) _⟩
theorem rwcount_any (n:Int)(w:World) :
  Calls Tryz.prog 146 #[.int .i64 n] w fun e w'=>e=.returned (.int .i64 (yL n:Nat))/\w'=w:=by
 go_enter Tryz.func146,Tryz.ntmps146
 go_wp2
 all_goals go_ret
 all_goals
  refine ⟨xH ?_,rfl⟩
  unfold yL
  omega

theorem rwbit_any (n i:Nat)(hi:i<384)(w:World) :
  Calls Tryz.prog 122 #[.agg (cw 6 n),.int .i64 i] w fun e w'=>e=.returned (.bool (n.testBit i))/\Below w.heap.size w w':=by
 have hat:=yD 6;obtain⟨q,hq⟩:∃ q,q=i / 64:=⟨_,rfl⟩;obtain⟨r,hr⟩:∃ r,r=i % 64:=⟨_,rfl⟩;have Aa:(i:Int) / 64=(q:Int):=by omega
 have hr1:(i:Int) % 64=(r:Int):=by omega
 have Ab:q<6:=by omega
 have hr2:r<64:=by omega
 have hi1:decide ((i:Int)<384)=true:=by simp;omega
 have hi0:decide ((0:Int)<=(i:Int))=true:=by simp
 have HB:=zJ (bit_of_wd n i);rw [<-hq,<-hr] at HB;clear hq hr
 go_enter Tryz.func122,Tryz.ntmps122
 go_wp2_with (go_at_call 177;refine (bit_any (wd n q) r (yU _ _) hr2 _).mono ?_;rintro e w' ⟨rfl,rfl⟩)
 go_ret
 exact⟨by rw [HB.out];rfl,(Below.refl _ _).alloc (Nat.le_refl _) _⟩

theorem rwleft_is (n v:Nat)(s:Int)(o:Bool)(hn:n<Q)(hv:n*2 ^ yL s % Q=v)(ho:decide (Q<=n*2 ^ yL s)=o)(w:World) :
  Calls Tryz.prog 93 #[.agg (cw 6 n),.int .i64 s] w fun e w'=>e=.returned (.tuple #[.agg (cw 6 v),.bool o])/\Below w.heap.size w w':=by
 obtain⟨c,hc⟩:∃ c,c=yL s:=⟨_,rfl⟩;have Aa:c<=384:=by rw [hc];unfold yL;omega
 rw [<-hc] at hv ho;have HV:=zJ hv;have HW:=zJ ho;have HC:=zJ hc;clear hv ho hc;have hat:=yD 6;have hz:=yZ;have hf:=yY
 go_enter Tryz.func93,Tryz.ntmps93
 go_wp2_with fail
 refine (rwcount_any _ _).mono ?_;rw [<-HC.out];rintro e w' ⟨rfl,rfl⟩;go_wp2
 go_loopw [7,8] (fun lv iv wr=>∃ (i B:Nat) (l:Bool),i<=384/\iv=.int .i64 i/\lv=.bool l/\wr.heap[w.heap.size]?=some (.cells (cw 6 n) 52)/\wr.heap[w.heap.size+1]?=some (.cells (cw 6 0) 52)/\wr.heap[w.heap.size+1+1]?=some (.cells (cw 6 B) 52)/\Below w.heap.size w wr/\zW (B=(n % 2 ^ i)*2 ^ c % Q)/\zW (l=decide (Q<=(n % 2 ^ i)*2 ^ c))) (fun _ i _=>384-(intOf i).toNat)
 case atStart=>
  refine ⟨0,0,false,by omega,rfl,rfl,?_,?_,?_,?_,zJ (by simp [Nat.mod_one]),zJ ?_⟩
  ·
   rw [zU _ _ _ (by simp only [zM];omega),zU _ _ _ (by simp only [zM];omega)];exact heap_alloc_last _ _
  ·
   rw [zU _ _ _ (by simp only [zM];omega)]
   have:=heap_alloc_last (w.alloc (.cells (cw 6 n) 52)) (.cells (cw 6 0) 52)
   simpa only [zM] using this
  ·
   have:=heap_alloc_last ((w.alloc (.cells (cw 6 n) 52)).alloc (.cells (cw 6 0) 52)) (.cells (cw 6 0) 52)
   simpa only [zM] using this
  ·
   exact (((Below.refl _ _).alloc (Nat.le_refl _) _).alloc (by simp only [zM];omega) _).alloc (by simp only [zM];omega) _
  ·
   have:=jC
   symm
   rw [decide_eq_false_iff_not]
   simp [Nat.mod_one]
   omega
 case round=>
  obtain⟨i,B,l,hi,rfl,rfl,r0,r1,r2,hbw,HB,HL⟩:=hrel
  by_cases hlt:i<384
  ·
   have c0:=zG r0;go_wp2_with fail
   refine (rwbit_any n i hlt _).mono ?_
   cases hbit:n.testBit i
   ·
    rintro e w2 ⟨rfl,hb2⟩;have HB0:=zJ (left_bit0 n i hbit);go_wp2
    go_roundw
    case rel=>exact⟨i+1,B,l,by omega,by go_num,rfl,zA hb2 _ _ _ r0,zA hb2 _ _ _ r1,zA hb2 _ _ _ r2,hbw.trans (hb2.mono hbw.size),zJ (by rw [HB0.out];exact HB.out),zJ (by rw [HB0.out];exact HL.out)⟩
    case measure=>simp [intOf] <;> omega
   ·
    rintro e w2 ⟨rfl,hb2⟩;have q0:=zA hb2 _ _ _ r0;have q1:=zA hb2 _ _ _ r1;have q2:=zA hb2 _ _ _ r2;have bw2:=hbw.trans (hb2.mono hbw.size);have sz:w.heap.size+1+1<w2.heap.size:=(Array.getElem?_eq_some_iff.1 q2).1;clear hb2 r0 r1 r2 hbw c0
    by_cases hin:i+c<384
    ·
     obtain⟨t,ht⟩:∃ t,t=i+c:=⟨i+c,by omega⟩;obtain⟨q,hq⟩:∃ q,q=t / 64:=⟨_,rfl⟩;obtain⟨r,hr⟩:∃ r,r=t % 64:=⟨_,rfl⟩;have t1:(i:Int)+(c:Int)=(t:Int):=by omega
     have t2:(t:Int) / 64=(q:Int):=by omega
     have t3:(t:Int) % 64=(r:Int):=by omega
     have t4:q<6:=by omega
     have t5:r<64:=by omega
     have t6:t<384:=by omega
     have ST:=zJ (left_in n i c t q r B hbit ht (by omega) (by omega) HB.out);obtain⟨x,hx⟩:∃ x,x=2 ^ r:=⟨_,rfl⟩;have x1:x<18446744073709551616:=by rw [hx];exact v_word r t5
     have x2:IntKind.u64.wrap ((2:Int) ^ r)=(x:Int):=by rw [pow_cast,wrap_nat _ (v_word r t5),hx]
     have x3:=bor B q x x1;have HX:=zJ hx;have C2:=zG q2 q t4;have F2:=fz (k:=q) q2;have HT:=zJ ht;clear hx ht hq hr;go_wp2
     go_roundw
     case rel=>exact⟨i+1,B ||| x*2 ^ (64*q),l,by omega,by go_num,rfl,by rw [zF (by omega)];exact q0,by rw [zF (by omega)];exact q1,by rw [zY q2,cw_or 6 B q x _ t4 x1 rfl],bw2.setCell (by show w.heap.size<=w.heap.size+1+1;omega) _,zJ (by rw [ST.out.1,HX.out]),zJ (by rw [HL.out];rw [decide_eq_false ST.out.2.1,decide_eq_false ST.out.2.2])⟩
     case measure=>simp [intOf] <;> omega
    ·
     have ST:=zJ (left_out n i c (i+c) B hbit rfl (by omega) HB.out);go_wp2
     go_roundw
     case rel=>exact⟨i+1,B,true,by omega,by go_num,rfl,q0,q1,q2,bw2,zJ ST.out.1.symm,zJ (by rw [decide_eq_true ST.out.2])⟩
     case measure=>simp [intOf] <;> omega
  ·
   have c2:=zG r2;have hs:(storeCells ⟨w.heap.size+1,0,none⟩ (cw 6 B).toList 0).run Tryz.prog wr=.ok () (wr.setRow (w.heap.size+1) (cw 6 B)):=xG wr _ B 0 r1;have e1:=HB.out;have e2:=HL.out;rw [mod384 n i hn (by omega)] at e1 e2;rw [HV.out] at e1;rw [HW.out] at e2;subst e1;subst e2;have z1:(wr.setRow (w.heap.size+1) (cw 6 B)).heap[w.heap.size+1]?=some (.cells (cw 6 B) 52):=zT r1;have c3:=zG z1;have bz:Below w.heap.size w (wr.setRow (w.heap.size+1) (cw 6 B)):=Below.setRow hbw (by omega);go_wp2
   exact bodyPost_ret (v:=.tuple #[.agg (cw 6 B),.bool l]) (by simp [results,Tryz.results93,go_sem,c3,hf]) rfl ⟨rfl,bz⟩

theorem rwright_is (n v:Nat)(s:Int)(o:Bool)(hn:n<Q)(hv:n / 2 ^ yL s=v)(ho:decide (n % 2 ^ yL s≠0)=o)(w:World) :
  Calls Tryz.prog 145 #[.agg (cw 6 n),.int .i64 s] w fun e w'=>e=.returned (.tuple #[.agg (cw 6 v),.bool o])/\Below w.heap.size w w':=by
 obtain⟨c,hc⟩:∃ c,c=yL s:=⟨_,rfl⟩;have Aa:c<=384:=by rw [hc];unfold yL;omega
 rw [<-hc] at hv ho;have HV:=zJ hv;have HW:=zJ ho;have HC:=zJ hc;clear hv ho hc;have hat:=yD 6;have hz:=yZ;have hf:=yY
 go_enter Tryz.func145,Tryz.ntmps145
 go_wp2_with fail
 refine (rwcount_any _ _).mono ?_;rw [<-HC.out];rintro e w' ⟨rfl,rfl⟩;go_wp2
 go_loopw [7,8] (fun lv iv wr=>∃ (i B:Nat) (l:Bool),i<=384/\iv=.int .i64 i/\lv=.bool l/\wr.heap[w.heap.size]?=some (.cells (cw 6 n) 52)/\wr.heap[w.heap.size+1]?=some (.cells (cw 6 0) 52)/\wr.heap[w.heap.size+1+1]?=some (.cells (cw 6 B) 52)/\Below w.heap.size w wr/\zW (B=(n % 2 ^ i) / 2 ^ c)/\zW (l=decide ((n % 2 ^ i) % 2 ^ c≠0))) (fun _ i _=>384-(intOf i).toNat)
 case atStart=>
  refine ⟨0,0,false,by omega,rfl,rfl,?_,?_,?_,?_,zJ (by simp [Nat.mod_one]),zJ ?_⟩
  ·
   rw [zU _ _ _ (by simp only [zM];omega),zU _ _ _ (by simp only [zM];omega)];exact heap_alloc_last _ _
  ·
   rw [zU _ _ _ (by simp only [zM];omega)]
   have:=heap_alloc_last (w.alloc (.cells (cw 6 n) 52)) (.cells (cw 6 0) 52)
   simpa only [zM] using this
  ·
   have:=heap_alloc_last ((w.alloc (.cells (cw 6 n) 52)).alloc (.cells (cw 6 0) 52)) (.cells (cw 6 0) 52)
   simpa only [zM] using this
  ·
   exact (((Below.refl _ _).alloc (Nat.le_refl _) _).alloc (by simp only [zM];omega) _).alloc (by simp only [zM];omega) _
  ·
   have:=jC
   symm
   rw [decide_eq_false_iff_not]
   simp [Nat.mod_one]
 case round=>
  obtain⟨i,B,l,hi,rfl,rfl,r0,r1,r2,hbw,HB,HL⟩:=hrel
  by_cases hlt:i<384
  ·
   have c0:=zG r0;go_wp2_with fail
   refine (rwbit_any n i hlt _).mono ?_
   cases hbit:n.testBit i
   ·
    rintro e w2 ⟨rfl,hb2⟩;have HB0:=zJ (left_bit0 n i hbit);go_wp2
    go_roundw
    case rel=>exact⟨i+1,B,l,by omega,by go_num,rfl,zA hb2 _ _ _ r0,zA hb2 _ _ _ r1,zA hb2 _ _ _ r2,hbw.trans (hb2.mono hbw.size),zJ (by rw [HB0.out];exact HB.out),zJ (by rw [HB0.out];exact HL.out)⟩
    case measure=>simp [intOf] <;> omega
   ·
    rintro e w2 ⟨rfl,hb2⟩;have q0:=zA hb2 _ _ _ r0;have q1:=zA hb2 _ _ _ r1;have q2:=zA hb2 _ _ _ r2;have bw2:=hbw.trans (hb2.mono hbw.size);have sz:w.heap.size+1+1<w2.heap.size:=(Array.getElem?_eq_some_iff.1 q2).1;clear hb2 r0 r1 r2 hbw c0
    by_cases hin:c<=i
    ·
     obtain⟨t,ht⟩:∃ t,i=t+c:=⟨i-c,by omega⟩;obtain⟨q,hq⟩:∃ q,q=t / 64:=⟨_,rfl⟩;obtain⟨r,hr⟩:∃ r,r=t % 64:=⟨_,rfl⟩;have t1:(i:Int)-(c:Int)=(t:Int):=by omega
     have t2:(t:Int) / 64=(q:Int):=by omega
     have t3:(t:Int) % 64=(r:Int):=by omega
     have t4:q<6:=by omega
     have t5:r<64:=by omega
     have ST:=zJ (right_in n i c t q r B hbit ht (by omega) HB.out);obtain⟨x,hx⟩:∃ x,x=2 ^ r:=⟨_,rfl⟩;have x1:x<18446744073709551616:=by rw [hx];exact v_word r t5
     have x2:IntKind.u64.wrap ((2:Int) ^ r)=(x:Int):=by rw [pow_cast,wrap_nat _ (v_word r t5),hx]
     have x3:=bor B q x x1;have HX:=zJ hx;have C2:=zG q2 q t4;have F2:=fz (k:=q) q2;have HT:=zJ ht;clear hx ht hq hr;go_wp2
     go_roundw
     case rel=>exact⟨i+1,B ||| x*2 ^ (64*q),l,by omega,by go_num,rfl,by rw [zF (by omega)];exact q0,by rw [zF (by omega)];exact q1,by rw [zY q2,cw_or 6 B q x _ t4 x1 rfl],bw2.setCell (by show w.heap.size<=w.heap.size+1+1;omega) _,zJ (by rw [ST.out.1,HX.out]),zJ (by rw [HL.out];rw [ST.out.2])⟩
     case measure=>simp [intOf] <;> omega
    ·
     have ST:=zJ (right_out n i c B hbit (by omega) HB.out);go_wp2
     go_roundw
     case rel=>exact⟨i+1,B,true,by omega,by go_num,rfl,q0,q1,q2,bw2,zJ ST.out.1.symm,zJ (by rw [decide_eq_true ST.out.2])⟩
     case measure=>simp [intOf] <;> omega
  ·
   have c2:=zG r2;have hs:(storeCells ⟨w.heap.size+1,0,none⟩ (cw 6 B).toList 0).run Tryz.prog wr=.ok () (wr.setRow (w.heap.size+1) (cw 6 B)):=xG wr _ B 0 r1;have e1:=HB.out;have e2:=HL.out;rw [mod384 n i hn (by omega)] at e1 e2;rw [HV.out] at e1;rw [HW.out] at e2;subst e1;subst e2;have z1:(wr.setRow (w.heap.size+1) (cw 6 B)).heap[w.heap.size+1]?=some (.cells (cw 6 B) 52):=zT r1;have c3:=zG z1;have bz:Below w.heap.size w (wr.setRow (w.heap.size+1) (cw 6 B)):=Below.setRow hbw (by omega);go_wp2
   exact bodyPost_ret (v:=.tuple #[.agg (cw 6 B),.bool l]) (by simp [results,Tryz.results145,go_sem,c3,hf]) rfl ⟨rfl,bz⟩
theorem wand_any (n m:Nat)(hn:n<Q)(w:World) :
  Calls Tryz.prog 211 #[.agg (cw 6 n),.agg (cw 6 m)] w fun e w'=>e=.returned (.agg (cw 6 (n &&& m)))/\Below w.heap.size w w':=by
 obtain⟨v,hv⟩:∃ v,n &&& m=v:=⟨_,rfl⟩;have HV:=zJ hv;rw [hv];clear hv;have hat:=yD 6;have hz:=yZ;have hf:=yY;have hx:=ix6;have hs0:=jD
 go_enter Tryz.func211,Tryz.ntmps211
 go_wp2
 go_loopw [8] (fun i wr=>∃ (k X:Nat),k<=6/\i=.int .i64 k/\wr=((w.alloc (.cells (cw 6 X) 52)).alloc (.cells (cw 6 m) 52)).alloc (.cells (cw 6 0) 52)/\zW (Part X n k fun j=>wd n j &&& wd m j)) (fun i _=>6-(intOf i).toNat)
 case atStart=>exact⟨0,n,by omega,rfl,rfl,zJ (part_start n _ hn)⟩
 case round=>
  obtain⟨k,X,hk,rfl,rfl,HE⟩:=hrel
  by_cases hlt:k<6
  ·
   have hw:=part_wd HE.out hlt;have ho:=bits_and_u64_nat (wd n k) (wd m k) (yU _ _) (yU _ _);have hb:wd n k &&& wd m k<18446744073709551616:=Nat.lt_of_le_of_lt Nat.and_le_left (yU n k);go_wp2
   go_roundw
   case rel=>
    exact⟨k+1,_,by omega,by go_num,by rw [cw_seti 6 X k _ _ hlt hb rfl],zJ (part_step HE.out hlt _ hb rfl)⟩
   case measure=>simp [intOf];omega
  ·
   go_wp2
   have e:=part_end HE.out (by omega) (n &&& m) (and_ltQ n m hn) (fun j hj=>wd_and n m j);rw [HV.out] at e;subst e;exact bodyPost_ret (v:=.agg (cw 6 X)) (by simp [results,Tryz.results211,go_sem,hat,hf]) rfl ⟨rfl,(((Below.refl _ _).alloc (Nat.le_refl _) _).alloc (by simp <;> omega) _).alloc (by simp <;> omega) _⟩

theorem rwand_is (n m v:Nat)(hn:n<Q)(hv:n &&& m=v)(w:World) :
  Calls Tryz.prog 143 #[.agg (cw 6 n),.agg (cw 6 m)] w fun e w'=>e=.returned (.agg (cw 6 v))/\Below w.heap.size w w':=by
 have HV:=zJ hv;clear hv;have hat:=yD 6;have hz:=yZ;have hf:=yY
 go_enter Tryz.func143,Tryz.ntmps143
 go_wp2
 go_loopw [5] (fun i wr=>∃ (k X:Nat),k<=6/\i=.int .i64 k/\wr.heap[w.heap.size]?=some (.cells (cw 6 X) 52)/\wr.heap[w.heap.size+1]?=some (.cells (cw 6 m) 52)/\wr.heap[w.heap.size+1+1]?=some (.cells (cw 6 0) 52)/\Below w.heap.size w wr/\zW (Part X n k fun j=>wd n j &&& wd m j)) (fun i _=>6-(intOf i).toNat)
 case atStart=>
  refine ⟨0,n,by omega,rfl,?_,?_,?_,?_,zJ (part_start n _ hn)⟩
  ·
   rw [zU _ _ _ (by simp only [zM];omega),zU _ _ _ (by simp only [zM];omega)];exact heap_alloc_last _ _
  ·
   rw [zU _ _ _ (by simp only [zM];omega)]
   have:=heap_alloc_last (w.alloc (.cells (cw 6 n) 52)) (.cells (cw 6 m) 52)
   simpa only [zM] using this
  ·
   have:=heap_alloc_last ((w.alloc (.cells (cw 6 n) 52)).alloc (.cells (cw 6 m) 52)) (.cells (cw 6 0) 52)
   simpa only [zM] using this
  ·
   exact (((Below.refl _ _).alloc (Nat.le_refl _) _).alloc (by simp only [zM];omega) _).alloc (by simp only [zM];omega) _
 case round=>
  obtain⟨k,X,hk,rfl,r0,r1,r2,hbw,HE⟩:=hrel
  by_cases hlt:k<6
  ·
   have hki:(k:Int)<6:=by omega
   have hw:=part_wd HE.out hlt;have ho:=bits_and_u64_nat (wd n k) (wd m k) (yU _ _) (yU _ _);have hb:wd n k &&& wd m k<18446744073709551616:=Nat.lt_of_le_of_lt Nat.and_le_left (yU n k);have c0:=zG r0 k hlt;rw [hw] at c0;have c1:=zG r1 k hlt;have f0:=fz (k:=k) r0;have PS:=zJ (part_step HE.out hlt _ hb rfl);have RS:zW ((wr.setCell ⟨w.heap.size,k,none⟩ (.int .u64 ((wd n k &&& wd m k:Nat):Int))).heap[w.heap.size]?=some (.cells (cw 6 (setw X k (wd n k &&& wd m k))) 52)):=zJ (by rw [zY r0,cw_seti 6 X k _ _ hlt hb rfl]);clear hw;go_wp2
   go_region
   all_goals go_wp2
   all_goals go_roundw
   all_goals first|(show (_:Nat)<_;simp [intOf];omega)|exact⟨k+1,_,by omega,by go_num,RS.out,(zF (w:=wr) (by omega)).trans r1,(zF (w:=wr) (by omega)).trans r2,(hbw.setCell (by show w.heap.size<=w.heap.size;omega) _).drew,PS⟩
  ·
   have e:=part_end HE.out (by omega) (n &&& m) (and_ltQ n m hn) (fun j hj=>wd_and n m j);rw [HV.out] at e;subst e;have c0:=zG r0;have hst:=xG wr _ X 0 r2;have z2:(wr.setRow (w.heap.size+1+1) (cw 6 X)).heap[w.heap.size+1+1]?=some (.cells (cw 6 X) 52):=zT r2;have c3:=zG z2;go_wp2
   exact bodyPost_ret (v:=.agg (cw 6 X)) (by simp [results,Tryz.results143,go_sem,c3,hf]) rfl ⟨rfl,Below.setRow hbw (by omega)⟩
theorem mask_is (n:Int)(v:Nat)(hv:2 ^ cnt n-1=v)(w:World) :
  Calls Tryz.prog 217 #[.int .i64 n] w fun e w'=>e=.returned (.int .u64 v)/\w'=w:=by
 subst hv;exact mask_any n w

theorem wmask_is (s:Int)(v:Nat)(hv:2 ^ yL s-1=v)(w:World) :
  Calls Tryz.prog 212 #[.int .i64 s] w fun e w'=>e=.returned (.agg (cw 6 v))/\Below w.heap.size w w':=by
 obtain⟨c,hc⟩:∃ c,c=yL s:=⟨_,rfl⟩;have Aa:c<=384:=by rw [hc];unfold yL;omega
 have hci:(c:Int)<=384:=by omega
 rw [<-hc] at hv;have HV:=zJ hv;have HC:=zJ hc;clear hv hc;have hat:=yD 6;have hz:=yZ;have hf:=yY;have hs1:=st1
 go_enter Tryz.func212,Tryz.ntmps212
 go_wp2_with fail
 refine (wcount_any _ _).mono ?_;rw [<-HC.out];rintro e w' ⟨rfl,rfl⟩;go_wp2
 go_loopw [7] (fun i wr=>∃ (k X:Nat),k<=6/\i=.int .i64 k/\wr=(w.alloc (.cells (cw 6 0) 52)).alloc (.cells (cw 6 X) 52)/\zW (Part X 0 k fun j=>2 ^ min (c-64*j) 64-1)) (fun i _=>6-(intOf i).toNat)
 case atStart=>exact⟨0,0,by omega,rfl,rfl,zJ (part_start 0 _ jC)⟩
 case round=>
  obtain⟨k,X,hk,rfl,rfl,HE⟩:=hrel
  by_cases hlt:k<6
  ·
   obtain⟨x,hx⟩:∃ x,2 ^ min (c-64*k) 64-1=x:=⟨_,rfl⟩;have bx:x<18446744073709551616:=by rw [<-hx];exact mask_lt64 _ (by omega)
   have hcn:cnt ((c:Int)-(k:Int)*64)=min (c-64*k) 64:=by unfold cnt;omega
   have HX:zW (2 ^ cnt ((c:Int)-(k:Int)*64)-1=x):=zJ (by rw [hcn,hx]);have PS:=zJ (part_step HE.out hlt x bx hx);clear hx hcn;go_wp2_with fail
   refine (mask_is _ x HX.out _).mono ?_;rintro e w2 ⟨rfl,rfl⟩;go_wp2
   go_roundw
   case rel=>exact⟨k+1,_,by omega,by go_num,by rw [cw_seti 6 X k x _ hlt bx rfl],PS⟩
   case measure=>simp [intOf];omega
  ·
   go_wp2
   have e:=part_end HE.out (by omega) (2 ^ c-1) (mask_ltQ c Aa) (fun j hj=>mask_wd c j _ rfl);rw [HV.out] at e;subst e;exact bodyPost_ret (v:=.agg (cw 6 X)) (by simp [results,Tryz.results212,go_sem,hat,hf]) rfl ⟨rfl,((Below.refl _ _).alloc (Nat.le_refl _) _).alloc (by simp <;> omega) _⟩

theorem rwmask_is (s:Int)(v:Nat)(hv:2 ^ yL s-1=v)(w:World) :
  Calls Tryz.prog 144 #[.int .i64 s] w fun e w'=>e=.returned (.agg (cw 6 v))/\Below w.heap.size w w':=by
 obtain⟨c,hc⟩:∃ c,c=yL s:=⟨_,rfl⟩;have Aa:c<=384:=by rw [hc];unfold yL;omega
 rw [<-hc] at hv;have HV:=zJ hv;have HC:=zJ hc;clear hv hc;have hat:=yD 6;have hz:=yZ;have hf:=yY;have hs1:=st1
 go_enter Tryz.func144,Tryz.ntmps144
 go_wp2_with fail
 refine (rwcount_any _ _).mono ?_;rw [<-HC.out];rintro e w' ⟨rfl,rfl⟩;go_wp2
 go_loopw [4] (fun iv wr=>∃ (i X:Nat),i<=c/\iv=.int .i64 i/\wr=(w.alloc (.cells (cw 6 0) 52)).alloc (.cells (cw 6 X) 52)/\zW (X=2 ^ i-1)) (fun iv _=>c-(intOf iv).toNat)
 case atStart=>exact⟨0,0,by omega,rfl,rfl,zJ rfl⟩
 case round=>
  obtain⟨i,X,hi,rfl,rfl,HE⟩:=hrel
  by_cases hlt:i<c
  ·
   obtain⟨q,hq⟩:∃ q,q=i / 64:=⟨_,rfl⟩;obtain⟨r,hr⟩:∃ r,r=i % 64:=⟨_,rfl⟩;have t2:(i:Int) / 64=(q:Int):=by omega
   have t3:(i:Int) % 64=(r:Int):=by omega
   have t4:q<6:=by omega
   have t5:r<64:=by omega
   obtain⟨x,hx⟩:∃ x,x=2 ^ r:=⟨_,rfl⟩;have x1:x<18446744073709551616:=by rw [hx];exact v_word r t5
   have x2:IntKind.u64.wrap ((2:Int) ^ r)=(x:Int):=by rw [pow_cast,wrap_nat _ (v_word r t5),hx]
   have x3:=bor X q x x1;obtain⟨X2,hX2⟩:∃ X2,X2=X ||| x*2 ^ (64*q):=⟨_,rfl⟩;have x4:=cw_or 6 X q x X2 t4 x1 hX2;have EX:zW (X2=2 ^ (i+1)-1):=zJ (by rw [hX2,hx,HE.out];exact mask_or i q r (by omega));clear hX2 hx hq hr;go_wp2
   go_roundw
   case rel=>exact⟨i+1,X2,by omega,by go_num,rfl,EX⟩
   case measure=>simp [intOf] <;> omega
  ·
   have e:=HE.out;rw [show i=c by omega,HV.out] at e;subst e;go_wp2
   exact bodyPost_ret (v:=.agg (cw 6 X)) (by simp [results,Tryz.results144,go_sem,hat,hf]) rfl ⟨rfl,((Below.refl _ _).alloc (Nat.le_refl _) _).alloc (by simp <;> omega) _⟩
end Go.Proofs.YtapikkbifdldfaaGreatDoor
namespace Go.Proofs.YtapikkbifdldfaaGreatDoor
set_option maxRecDepth 100000
set_option maxHeartbeats 40000000
open WMath
open Go.ChangeShapes Go.WideShapes Go.ChangeAt Go.RowKit
theorem nat_u64 {x:Int} (h:(Lit.int .u64 x).wf=true):∃ n:Nat,n<18446744073709551616/\x=(n:Int):=by
 have hb:=bounds_u64 h;obtain⟨n,rfl⟩:=Int.eq_ofNat_of_zero_le hb.1;exact⟨n,by omega,rfl⟩
end Go.Proofs.YtapikkbifdldfaaGreatDoor
namespace Go.Proofs.YtapikkbifdldfaaGreatDoor
set_option maxRecDepth 100000
set_option maxHeartbeats 40000000
open Go.RowKit WMath
theorem wor_is (n m v:Nat)(hn:n<Q)(hm:m<Q)(hv:n ||| m=v)(w:World) :
  Calls Tryz.prog 75 #[.agg (cw 6 n),.agg (cw 6 m)] w fun e w'=>e=.returned (.agg (cw 6 v))/\Below w.heap.size w w':=by
 subst hv;exact wor_any n m hn hm w
theorem wlen_is (n l:Nat)(hn:n<Q)(hl:zV n=l)(w:World) :
  Calls Tryz.prog 86 #[.agg (cw 6 n)] w fun e w'=>e=.returned (.int .i64 (l:Nat))/\Below w.heap.size w w':=by
 subst hl;exact wlen_any n hn w

theorem rows_two {w w1:World} {n:Nat} (hb:Below ((w.alloc (.cells (cw 6 n) 52)).alloc (.cells (cw 6 0) 52)).heap.size ((w.alloc (.cells (cw 6 n) 52)).alloc (.cells (cw 6 0) 52)) w1) :
  w1.heap[w.heap.size]?=some (.cells (cw 6 n) 52)/\w1.heap[w.heap.size+1]?=some (.cells (cw 6 0) 52)/\Below w.heap.size w w1/\w.heap.size+1<w1.heap.size:=by
 have h1:w1.heap[w.heap.size+1]?=some (.cells (cw 6 0) 52):=zA hb _ _ _ (by rw [<-zM];exact heap_alloc_last _ _)
 exact⟨zA hb _ _ _ (by rw [zU _ _ _ (by simp only [zM];omega)];exact heap_alloc_last w _),h1,
  (((Below.refl _ _).alloc (Nat.le_refl _) _).alloc (by simp only [zM];omega) _).trans (hb.mono (by simp only [zM];omega)),(Array.getElem?_eq_some_iff.1 h1).1⟩

def qC (w wr:World)(l:List Nat):Prop:=(∀ i x,l[i]?=some x->wr.heap[w.heap.size+i]?=some (.cells (cw 6 x) 52))/\Below w.heap.size w wr
theorem rowsL_nil (w:World):qC w w []:=⟨fun i x h=>by simp at h,Below.refl _ _⟩
theorem rowsL_new {w wr:World} {l:List Nat} (h:qC w wr l)(hs:wr.heap.size=w.heap.size+l.length)(x:Nat):qC w (wr.alloc (.cells (cw 6 x) 52)) (l ++ [x]):=by
 refine ⟨fun i y hy=>?_,h.2.alloc (by omega) _⟩;rw [List.getElem?_append] at hy
 split at hy
 ·
  rw [zU _ _ _ (by omega)];exact h.1 i y hy
 ·
  have e:i=l.length:=by
   have:=(List.getElem?_eq_some_iff.1 hy).1
   simp at this;omega
  subst e
  simp at hy
  subst hy;rw [<-hs];exact heap_alloc_last _ _
theorem xR {w wr w2:World} {l:List Nat} (h:qC w wr l)(hb:Below wr.heap.size wr w2):qC w w2 l:=
 ⟨fun i x hx=>zA hb _ _ _ (h.1 i x hx),h.2.trans (hb.mono h.2.size)⟩
theorem rowsL_alloc {w wr:World} {l:List Nat} (h:qC w wr l)(o:Obj):qC w (wr.alloc o) l:=
 xR h ((Below.refl _ _).alloc (Nat.le_refl _) _)
theorem rowsL_drew {w wr:World} {l:List Nat} (h:qC w wr l)(d:Nat):qC w (wr.drewN d) l:=⟨h.1,below_drewN h.2 d⟩
theorem rowsL_set {w wr:World} {l l2:List Nat} (h:qC w wr l)(i x b:Nat)(hi:i<l.length)(hb:b=w.heap.size+i)(hl:l2=l.set i x):qC w (wr.setRow b (cw 6 x)) l2:=by
 subst hb;subst hl;refine ⟨fun j y hy=>?_,Below.setRow h.2 (by omega)⟩
 by_cases e:i=j
 ·
  subst e;rw [List.getElem?_set_self hi] at hy
  cases hy
  exact zT (h.1 i _ (List.getElem?_eq_getElem hi))
 ·
  rw [List.getElem?_set_ne e] at hy;rw [zK (by omega)];exact h.1 j y hy

theorem rows0 {w wr:World} {x:Nat} {l:List Nat} (h:qC w wr (x :: l)):wr.heap[w.heap.size]?=some (.cells (cw 6 x) 52):=h.1 0 _ rfl
theorem rows1 {w wr:World} {x y:Nat} {l:List Nat} (h:qC w wr (x :: y :: l)):wr.heap[w.heap.size+1]?=some (.cells (cw 6 y) 52):=h.1 1 _ rfl
theorem zR (n:Int)(h1:-9223372036854775808<=n)(h2:n<=9223372036854775807):IntKind.i64.wrap n=n:=by
 simp [IntKind.wrap,IntKind.bits,IntKind.signed];omega

theorem rlen_is (x l:Nat)(hx:x<18446744073709551616)(hl:zV x=l)(w:World) :
  Calls Tryz.prog 192 #[.int .u64 x] w fun e w'=>e=.returned (.int .i64 (l:Nat))/\w'=w:=by
 subst hl;rw [<-bitLen_blen x hx];exact rlen_any x hx w

theorem nzf {x:Nat} (h:x=0):(((x:Nat):Int) != 0)=false:=by subst h;rfl
theorem nzt {x:Nat} (h:¬ x=0):(((x:Nat):Int) != 0)=true:=by simp;omega

theorem rwlen_any (n:Nat)(hn:n<Q)(w:World) :
  Calls Tryz.prog 140 #[.agg (cw 6 n)] w fun e w'=>e=.returned (.int .i64 (zV n:Nat))/\Below w.heap.size w w':=by
 have hat:=yD 6;have bz:Below w.heap.size w (w.alloc (.cells (cw 6 n) 52)):=(Below.refl _ _).alloc (Nat.le_refl _) _
 go_enter Tryz.func140,Tryz.ntmps140
 go_wp2
 go_loop [3] (fun iv=>∃ k:Nat,k<=6/\iv=.int .i64 ((k:Int)-1)/\zW (n<2 ^ (64*k))) (fun iv=>(intOf iv+1).toNat)
 case atStart=>exact⟨6,by omega,rfl,zJ (by rw [pwQ 6 rfl];exact hn)⟩
 case round=>
  obtain⟨k,hk,rfl,HE⟩:=hrel
  by_cases h0:k=0
  ·
   subst h0;have e:n=0:=by have:=HE.out;rw [Nat.mul_zero,Nat.pow_zero] at this;omega
   subst e;go_wp2
   go_ret
   exact⟨rfl,bz⟩
  ·
   obtain⟨j,rfl⟩:∃ j,k=j+1:=⟨k-1,by omega⟩;have ej:(((j+1:Nat):Int)-1)=(j:Int):=by omega
   rw [ej];have hj6:j<6:=by omega
   have hji:(j:Int)<6:=by omega
   have ST:=zJ (rlen_step n j HE.out)
   by_cases hw:wd n j=0
   ·
    have y:=nzf hw;have NX:=zJ (ST.out.2 hw);clear hw;go_wp2
    go_round
    case rel=>exact⟨j,by omega,rfl,NX⟩
    case measure=>simp [intOf] <;> omega
   ·
    have y:=nzt hw;obtain⟨b,hb⟩:∃ b,zV (wd n j)=b:=⟨_,rfl⟩;have hb64:b<=64:=by rw [<-hb];exact y9 _ 64 (by rw [<-q9];exact yU n j)
    have EN:zW (zV n=64*j+b):=zJ (by rw [ST.out.1 hw,hb]);have HB:=zJ hb;clear hw hb
    go_wp2_with (go_at_call 192;refine (rlen_is _ b (yU n j) HB.out _).mono ?_;rintro e w' ⟨rfl,rfl⟩)
    go_ret
    exact⟨xH (by rw [EN.out];simp),bz⟩
theorem rowsL_setCell {w wr:World} {l l2:List Nat} (h:qC w wr l)(i x y b o:Nat)(v:Value)(hi:l[i]?=some x)(hb:b=w.heap.size+i)(hv:(cw 6 x).setIfInBounds o v=cw 6 y)(hl:l2=l.set i y):qC w (wr.setCell ⟨b,o,none⟩ v) l2:=by
 subst hb;subst hl;refine ⟨fun j z hz=>?_,h.2.setCell (by show w.heap.size<=w.heap.size+i;omega) _⟩
 by_cases e:i=j
 ·
  subst e;rw [List.getElem?_set_self (List.getElem?_eq_some_iff.1 hi).1] at hz
  cases hz
  rw [zY (h.1 i _ hi),hv]
 ·
  rw [List.getElem?_set_ne e] at hz;rw [zF (by omega)];exact h.1 j z hz
theorem rowsL_size {w wr:World} {l:List Nat} (h:qC w wr l)(i x:Nat)(hi:l[i]?=some x):w.heap.size+i<wr.heap.size:=
 (Array.getElem?_eq_some_iff.1 (h.1 i x hi)).1
def cnt5 (s:Int):Nat:=min s.toNat 385
theorem cnt65 (s:Int):yL ((cnt5 s:Nat):Int)=yL s:=by unfold yL cnt5;omega

def jr (a c:Nat):Nat:=if a % 2 ^ c=0 then a / 2 ^ c else a / 2 ^ c ||| 1

theorem jor1 (x:Nat):x ||| 1=x / 2*2+1:=by
 rcases Nat.mod_two_eq_zero_or_one x with h|h
 ·
  rw [or_one x h];omega
 ·
  obtain⟨y,rfl⟩:∃ y,x=y+1:=⟨x-1,by omega⟩;rw [<-or_one y (by omega),Nat.or_assoc,Nat.or_self,or_one y (by omega)];omega

theorem jand_mask (a c:Nat):a &&& (2 ^ c-1)=a % 2 ^ c:=Nat.and_two_pow_sub_one_eq_mod a c

theorem jr_even (a c:Nat)(h:a % 2 ^ c=0):jr a c=a / 2 ^ c:=by unfold jr;rw [if_pos h]
theorem qK (a n k:Nat):a % 2 ^ (n+k)=0↔a % 2 ^ n=0/\a / 2 ^ n % 2 ^ k=0:=by
 rw [Nat.pow_add,Nat.mod_mul];have hp:=Nat.two_pow_pos n
 constructor
 ·
  intro h;have h1:a % 2 ^ n=0:=by omega
  have h2:2 ^ n*(a / 2 ^ n % 2 ^ k)=0:=by omega
  rcases Nat.mul_eq_zero.1 h2 with h3|h3
  ·
   omega
  ·
   exact⟨h1,h3⟩
 ·
  rintro ⟨h1,h2⟩;rw [h1,h2,Nat.mul_zero]

theorem jr_cnt6 (a:Nat)(s:Int)(ha:a<Q):jr a (yL s)=jr a s.toNat:=by
 by_cases h:s.toNat<=384
 ·
  rw [show yL s=s.toNat by unfold yL;omega]
 ·
  have e:yL s=384:=by unfold yL;omega
  have e1:∀ c,384<=c->a % 2 ^ c=a/\a / 2 ^ c=0:=fun c hc=>⟨mod384 a c ha hc,Nat.div_eq_of_lt (Nat.lt_of_lt_of_le ha (Q384'' c hc))⟩
  unfold jr
  rw [(e1 (yL s) (by omega)).1,(e1 (yL s) (by omega)).2,(e1 s.toNat (by omega)).1,(e1 s.toNat (by omega)).2]

def halfv (a c:Nat):Int:=if c=0∨384<c then -1 else q8 (a % 2 ^ c) (2 ^ (c-1))

theorem halfv_bit (a k:Nat)(hk:k<384):halfv a (k+1)=if a.testBit k then (if a % 2 ^ k=0 then 0 else 1) else -1:=by
 unfold halfv
 rw [if_neg (by omega),Nat.add_sub_cancel,mod_succ];have h:=Nat.mod_lt a (Nat.two_pow_pos k)
 unfold q8
 cases a.testBit k
 ·
  simp only [Bool.toNat_false,Nat.mul_zero,Nat.add_zero]
  rw [if_neg (by omega),if_pos h]
  rfl
 ·
  simp only [Bool.toNat_true,Nat.mul_one]
  by_cases h0:a % 2 ^ k=0
  ·
   simp [h0]
  ·
   rw [if_neg (by omega),if_neg (by omega)]
   simp [h0]

theorem jcount_any (n:Int)(w:World) :
  Calls Tryz.prog 181 #[.int .i64 n] w fun e w'=>e=.returned (.int .i64 (cnt5 n:Nat))/\w'=w:=by
 go_enter Tryz.func181,Tryz.ntmps181
 go_wp2
 all_goals go_ret
 all_goals
  refine ⟨xH ?_,rfl⟩
  unfold cnt5
  omega

theorem jzero_is (n:Nat)(o:Bool)(hn:n<Q)(ho:decide (n=0)=o)(w:World) :
  Calls Tryz.prog 185 #[.agg (cw 6 n)] w fun e w'=>e=.returned (.bool o)/\Below w.heap.size w w':=by
 have hat:=yD 6;have hz:=yZ;have hf:=yY;have heq:=eq6;have hg:=eqg6;have hQ:=jC;have HO:=zJ ho;clear ho
 go_enter Tryz.func185,Tryz.ntmps185
 go_wp2
 go_ret
 exact⟨by rw [HO.out];rfl,(Below.refl _ _).alloc (Nat.le_refl _) _⟩

theorem wand_is (n m v:Nat)(hn:n<Q)(hv:n &&& m=v)(w:World) :
  Calls Tryz.prog 211 #[.agg (cw 6 n),.agg (cw 6 m)] w fun e w'=>e=.returned (.agg (cw 6 v))/\Below w.heap.size w w':=by
 subst hv;exact wand_any n m hn w

theorem jwhole_is (n v:Nat)(s:Int)(hn:n<Q)(hv:n / 2 ^ yL s=v)(w:World) :
  Calls Tryz.prog 183 #[.agg (cw 6 n),.int .i64 s] w fun e w'=>e=.returned (.agg (cw 6 v))/\Below w.heap.size w w':=by
 have hat:=yD 6;have hz:=yZ;have hf:=yY;have hs0:=jD;have hcs:∀ x,((cw 6 x).size=6)=True:=fun x=>eq_true (z8 6 x);have HV:=zJ hv;clear hv
 go_enter Tryz.func183,Tryz.ntmps183
 go_wp2_with fail
 refine (wright_is n v s _ hn HV.out rfl _).mono ?_;rintro e w1 ⟨rfl,hb1⟩;obtain⟨r0,r1,b1,s1⟩:=rows_two hb1;clear hb1;have q1:(w1.alloc (.cells (cw 6 v) 52)).heap[w.heap.size+1]?=some (.cells (cw 6 0) 52):=by rw [zU _ _ _ s1];exact r1
 have hst:=xG (w1.alloc (.cells (cw 6 v) 52)) (w.heap.size+1) v 0 q1;have q2:=zG (zT (c':=cw 6 v) q1);have bz:Below w.heap.size w ((w1.alloc (.cells (cw 6 v) 52)).setRow (w.heap.size+1) (cw 6 v)):=Below.setRow (b1.alloc b1.size _) (by omega);go_wp2
 exact bodyPost_ret (v:=.agg (cw 6 v)) (by simp [results,Tryz.results183,go_sem,q2,hf]) rfl ⟨rfl,bz⟩

theorem jrows2 (w:World)(n:Nat):qC w ((w.alloc (.cells (cw 6 n) 52)).alloc (.cells (cw 6 0) 52)) [n,0]:=rowsL_new (rowsL_new (rowsL_nil w) rfl n) (by simp) 0

theorem jleft_is (n v:Nat)(s:Int)(hn:n<Q)(hv:n % 2 ^ yL s=v)(w:World) :
  Calls Tryz.prog 182 #[.agg (cw 6 n),.int .i64 s] w fun e w'=>e=.returned (.agg (cw 6 v))/\Below w.heap.size w w':=by
 have hat:=yD 6;have hz:=yZ;have hf:=yY;have hs0:=jD;have hcs:∀ x,((cw 6 x).size=6)=True:=fun x=>eq_true (z8 6 x);obtain⟨m,hm⟩:∃ m,2 ^ yL s-1=m:=⟨_,rfl⟩;have HV:zW (n &&& m=v):=zJ (by rw [<-hm,jand_mask,hv]);have HM:=zJ hm;have R:=jrows2 w n;obtain⟨W0,hW0⟩:∃ W0,(w.alloc (.cells (cw 6 n) 52)).alloc (.cells (cw 6 0) 52)=W0:=⟨_,rfl⟩;rw [hW0] at R;have c0:=zG (rows0 R);clear hv hm
 go_enter Tryz.func182,Tryz.ntmps182
 go_wp2
 clear hW0
 go_region_with (first
  | (go_at_call 212;refine (wmask_is s m HM.out _).mono ?_;rintro e w1 ⟨rfl,hb1⟩;have R1:=xR (rowsL_drew R _) hb1;have c1:=zG (rows0 R1))
  | (go_at_call 211;refine (wand_is n m v hn HV.out _).mono ?_;rintro e w2 ⟨rfl,hb2⟩;have R2:=xR R1 hb2;have hst:=xG w2 (w.heap.size+1) v 0 (rows1 R2)))
 all_goals
  have R3:qC w (w2.setRow (w.heap.size+1) (cw 6 v)) [n,v]:=rowsL_set R2 1 v _ (by simp) rfl rfl;have d:=zG (rows1 R3);go_wp2
  exact bodyPost_ret (v:=.agg (cw 6 v)) (by simp [results,Tryz.results182,go_sem,d,hf]) rfl ⟨rfl,R3.2⟩

theorem jhalf_out (r c:Nat)(hc:c=0∨384<c)(w:World) :
  Calls Tryz.prog 184 #[.agg (cw 6 r),.int .i64 (c:Nat)] w fun e w'=>e=.returned (.int .i64 (-1))/\Below w.heap.size w w':=by
 have hat:=yD 6;have hz:=yZ;have hf:=yY
 have hh:((c:Int) == 0)=true∨(((c:Int) == 0)=false/\decide ((384:Int)<(c:Int))=true):=by
  simp only [decide_eq_true_eq,beq_iff_eq,beq_eq_false_iff_ne]
  omega
 clear hc
 rcases hh with h0|⟨h0,h1⟩
 all_goals
  go_enter Tryz.func184,Tryz.ntmps184
  go_wp2
  go_ret
  exact⟨rfl,(Below.refl _ _).alloc (Nat.le_refl _) _⟩

theorem jhalf_in (r k:Nat)(h:Int)(hr:r<Q)(hk:k<384)(hh:q8 r (2 ^ k)=h)(w:World) :
  Calls Tryz.prog 184 #[.agg (cw 6 r),.int .i64 ((k+1:Nat):Int)] w fun e w'=>e=.returned (.int .i64 h)/\Below w.heap.size w w':=by
 have hat:=yD 6;have hz:=yZ;have hf:=yY;have hs0:=jD;have hcs:∀ x,((cw 6 x).size=6)=True:=fun x=>eq_true (z8 6 x);obtain⟨c,hc⟩:∃ c:Int,((k+1:Nat):Int)=c:=⟨_,rfl⟩;obtain⟨p,hp⟩:∃ p,2 ^ k=p:=⟨_,rfl⟩;have d0:(c == 0)=false:=by simp only [beq_eq_false_iff_ne];omega
 have d1:decide ((384:Int)<c)=false:=by rw [decide_eq_false_iff_not];omega
 have n1:IntKind.i64.wrap (c-1)=(k:Int):=by rw [zR _ (by omega) (by omega)];omega
 have pQ:p<Q:=by rw [<-hp];exact pow_ltQ k hk
 have q1:1<Q:=by have:=Q_big;omega
 have HP:zW (1*2 ^ yL (k:Int) % Q=p):=zJ (by rw [show yL (k:Int)=k by unfold yL;omega,Nat.one_mul,hp,Nat.mod_eq_of_lt pQ]);rw [hp] at hh;have HH:=zJ hh;rw [hc];clear hh hp hc
 go_enter Tryz.func184,Tryz.ntmps184
 go_wp2_with fail
 refine (wof_al 1 (by decide) _).mono ?_;rintro e w1 ⟨rfl,hb1⟩;have r1:w1.heap[w.heap.size]?=some (.cells (cw 6 r) 52):=zA hb1 _ _ _ (heap_alloc_last w _);have b1:Below w.heap.size w w1:=((Below.refl _ _).alloc (Nat.le_refl _) _).trans (hb1.mono (by simp));clear hb1;go_wp2_with fail
 refine (wleft_is 1 p (k:Int) _ q1 HP.out rfl _).mono ?_;rintro e w2 ⟨rfl,hb2⟩;have r2:w2.heap[w.heap.size]?=some (.cells (cw 6 r) 52):=zA hb2 _ _ _ r1;have b2:Below w.heap.size w w2:=b1.trans (hb2.mono b1.size);clear hb2 b1 r1;have z2:w.heap.size<w2.heap.size:=(Array.getElem?_eq_some_iff.1 r2).1;have c2:=zG (show (w2.alloc (.cells (cw 6 p) 52)).heap[w.heap.size]?=some (.cells (cw 6 r) 52) by rw [zU _ _ _ z2];exact r2);go_wp2_with fail
 refine (wcmp_is r p h hr pQ HH.out _).mono ?_;rintro e w3 ⟨rfl,hb3⟩;have b3:Below w.heap.size w w3:=(b2.alloc b2.size _).trans (hb3.mono (by have:=b2.size;simp;omega));clear hb3;go_wp2
 go_ret
 exact⟨rfl,b3⟩

theorem jhalf_is (a c r:Nat)(h:Int)(hr:r<Q)(hc:c<=385)(e:a % 2 ^ yL (c:Int)=r)(hh:halfv a c=h)(w:World) :
  Calls Tryz.prog 184 #[.agg (cw 6 r),.int .i64 (c:Nat)] w fun e w'=>e=.returned (.int .i64 h)/\Below w.heap.size w w':=by
 by_cases ho:c=0∨384<c
 ·
  have:h=-1:=by rw [<-hh];unfold halfv;rw [if_pos ho]
  subst this;exact jhalf_out r c ho w
 ·
  obtain⟨k,rfl⟩:∃ k,c=k+1:=⟨c-1,by omega⟩;refine jhalf_in r k h hr (by omega) ?_ w;rw [<-hh,<-e]
  unfold halfv
  rw [if_neg ho,Nat.add_sub_cancel,show yL ((k+1:Nat):Int)=k+1 by unfold yL;omega]

theorem jalign_is (n v:Nat)(s:Int)(o:Bool)(hn:n<Q)(hv:n / 2 ^ yL s=v)(ho:decide (n % 2 ^ yL s≠0)=o)(w:World) :
  Calls Tryz.prog 209 #[.agg (cw 6 n),.int .i64 s] w fun e w'=>e=.returned (.tuple #[.agg (cw 6 v),.bool o])/\Below w.heap.size w w':=by
 have hat:=yD 6;have hz:=yZ;have hf:=yY;have hs0:=jD;have hcs:∀ x,((cw 6 x).size=6)=True:=fun x=>eq_true (z8 6 x);obtain⟨c,hc⟩:∃ c,cnt5 s=c:=⟨_,rfl⟩;have h65:yL (c:Int)=yL s:=by rw [<-hc];exact cnt65 s
 obtain⟨r,hr⟩:∃ r,n % 2 ^ yL (c:Int)=r:=⟨_,rfl⟩;have rQ:r<Q:=by rw [<-hr];exact Nat.lt_of_le_of_lt (Nat.mod_le _ _) hn
 rw [<-h65] at hv ho;rw [hr] at ho;have HV:=zJ hv;have HR:=zJ hr;have HC:=zJ hc;have HO:zW (decide (r=0)=!o):=zJ (by rw [<-ho];by_cases e:r=0 <;> simp [e]);have hoo:(!!o)=o:=by cases o <;> rfl
 have R:=jrows2 w n;obtain⟨W0,hW0⟩:∃ W0,(w.alloc (.cells (cw 6 n) 52)).alloc (.cells (cw 6 0) 52)=W0:=⟨_,rfl⟩;rw [hW0] at R;have c0:=zG (rows0 R);clear hv ho hc hr h65
 go_enter Tryz.func209,Tryz.ntmps209
 go_wp2_with fail
 refine (jcount_any s _).mono ?_;rw [HC.out];rintro e w' ⟨rfl,rfl⟩;go_wp2
 clear hW0
 go_region_with (first
  | (go_at_call 183;refine (jwhole_is n v (c:Int) hn HV.out _).mono ?_;rintro e w1 ⟨rfl,hb1⟩;have R1:=xR (rowsL_drew R _) hb1;have c1:=zG (rows0 R1))
  | (go_at_call 182;refine (jleft_is n r (c:Int) hn HR.out _).mono ?_;rintro e w2 ⟨rfl,hb2⟩;have R2:=xR R1 hb2)
  | (go_at_call 185;refine (jzero_is r (!o) rQ HO.out _).mono ?_;rintro e w3 ⟨rfl,hb3⟩;have R3:=xR R2 hb3;have hst:=xG w3 (w.heap.size+1) v 0 (rows1 R3)))
 all_goals
  have R4:qC w (w3.setRow (w.heap.size+1) (cw 6 v)) [n,v]:=rowsL_set R3 1 v _ (by simp) rfl rfl;have d:=zG (rows1 R4);go_wp2
  exact bodyPost_ret (v:=.tuple #[.agg (cw 6 v),.bool o]) (by simp [results,Tryz.results209,go_sem,d,hf]) rfl ⟨rfl,R4.2⟩

theorem jright_is (n v:Nat)(s:Int)(hn:n<Q)(hv:jr n (yL s)=v)(w:World) :
  Calls Tryz.prog 176 #[.agg (cw 6 n),.int .i64 s] w fun e w'=>e=.returned (.agg (cw 6 v))/\Below w.heap.size w w':=by
 have hat:=yD 6;have hz:=yZ;have hf:=yY;have hs0:=jD;have hcs:∀ x,((cw 6 x).size=6)=True:=fun x=>eq_true (z8 6 x);obtain⟨x,hx⟩:∃ x,n / 2 ^ yL s=x:=⟨_,rfl⟩;obtain⟨o,ho⟩:∃ o,decide (n % 2 ^ yL s≠0)=o:=⟨_,rfl⟩
 have hvo:v=if o then x ||| 1 else x:=by
  rw [<-hv,<-ho,<-hx];unfold jr
  by_cases e:n % 2 ^ yL s=0 <;> simp [e]
 have HX:=zJ hx;have HO:=zJ ho;clear hv hx ho;have x3:bits .or .u64 (wd x 0:Nat) 1=((wd x 0 ||| 1:Nat):Int):=bor x 0 1 (by decide)
 cases o
 ·
  rw [if_neg (by decide)] at hvo;subst hvo
  go_enter Tryz.func176,Tryz.ntmps176
  go_wp2_with fail
  refine (jalign_is n v s _ hn HX.out HO.out _).mono ?_;rintro e w1 ⟨rfl,hb1⟩;obtain⟨r0,r1,b1,s1⟩:=rows_two hb1;clear hb1;have q1:(w1.alloc (.cells (cw 6 v) 52)).heap[w.heap.size+1]?=some (.cells (cw 6 0) 52):=by rw [zU _ _ _ s1];exact r1
  have hst:=xG (w1.alloc (.cells (cw 6 v) 52)) (w.heap.size+1) v 0 q1;have q2:=zG (zT (c':=cw 6 v) q1);have bz:Below w.heap.size w ((w1.alloc (.cells (cw 6 v) 52)).setRow (w.heap.size+1) (cw 6 v)):=Below.setRow (b1.alloc b1.size _) (by omega);go_wp2
  exact bodyPost_ret (v:=.agg (cw 6 v)) (by simp [results,Tryz.results176,go_sem,q2,hf]) rfl ⟨rfl,bz⟩
 ·
  rw [if_pos rfl] at hvo;have x4:(cw 6 x).setIfInBounds 0 (.int .u64 ((wd x 0 ||| 1:Nat):Int))=cw 6 v:=cw_or 6 x 0 1 v (by omega) (by decide) (by rw [hvo]);clear hvo
  go_enter Tryz.func176,Tryz.ntmps176
  go_wp2_with fail
  refine (jalign_is n x s _ hn HX.out HO.out _).mono ?_;rintro e w1 ⟨rfl,hb1⟩;obtain⟨r0,r1,b1,s1⟩:=rows_two hb1;clear hb1;have q1:(w1.alloc (.cells (cw 6 v) 52)).heap[w.heap.size+1]?=some (.cells (cw 6 0) 52):=by rw [zU _ _ _ s1];exact r1
  have hst:=xG (w1.alloc (.cells (cw 6 v) 52)) (w.heap.size+1) v 0 q1;have q2:=zG (zT (c':=cw 6 v) q1);have bz:Below w.heap.size w ((w1.alloc (.cells (cw 6 v) 52)).setRow (w.heap.size+1) (cw 6 v)):=Below.setRow (b1.alloc b1.size _) (by omega);go_wp2
  exact bodyPost_ret (v:=.agg (cw 6 v)) (by simp [results,Tryz.results176,go_sem,q2,hf]) rfl ⟨rfl,bz⟩
theorem jcut_is (n v:Nat)(s h:Int)(o:Bool)(hn:n<Q)(hv:n / 2 ^ yL s=v)(hh:halfv n (cnt5 s)=h)(ho:decide (n % 2 ^ yL s=0)=o)(w:World) :
  Calls Tryz.prog 134 #[.agg (cw 6 n),.int .i64 s] w fun e w'=>e=.returned (.tuple #[.agg (cw 6 v),.int .i64 h,.bool o])/\Below w.heap.size w w':=by
 have hat:=yD 6;have hz:=yZ;have hf:=yY;have hs0:=jD;have hcs:∀ x,((cw 6 x).size=6)=True:=fun x=>eq_true (z8 6 x);obtain⟨c,hc⟩:∃ c,cnt5 s=c:=⟨_,rfl⟩;have c385:c<=385:=by rw [<-hc];unfold cnt5;omega
 have h65:yL (c:Int)=yL s:=by rw [<-hc];exact cnt65 s
 obtain⟨r,hr⟩:∃ r,n % 2 ^ yL (c:Int)=r:=⟨_,rfl⟩;have rQ:r<Q:=by rw [<-hr];exact Nat.lt_of_le_of_lt (Nat.mod_le _ _) hn
 rw [<-h65] at hv ho;rw [hr] at ho;rw [hc] at hh;have HV:=zJ hv;have HR:=zJ hr;have HC:=zJ hc;have HO:=zJ ho;have HH:=zJ hh;have C385:=zJ c385;clear hv ho hc hr h65 hh c385
 go_enter Tryz.func134,Tryz.ntmps134
 go_wp2_with fail
 refine (jcount_any s _).mono ?_;rw [HC.out];rintro e w' ⟨rfl,rfl⟩;go_wp2_with fail
 refine (jleft_is n r (c:Int) hn HR.out _).mono ?_;rintro e w1 ⟨rfl,hb1⟩;have R1:qC w w1 [n,0]:=xR (jrows2 w n) hb1;clear hb1;have z1:=rowsL_size R1 1 _ rfl;have R:=rowsL_alloc R1 (.cells (cw 6 r) 52);have S:(w1.alloc (.cells (cw 6 r) 52)).heap[w1.heap.size]?=some (.cells (cw 6 r) 52):=heap_alloc_last w1 _;obtain⟨W0,hW0⟩:∃ W0,w1.alloc (.cells (cw 6 r) 52)=W0:=⟨_,rfl⟩;rw [hW0] at R S;have c0:=zG (rows0 R);have s0:=zG S;clear R1;go_wp2
 clear hW0
 go_region_with (first
  | (go_at_call 183;refine (jwhole_is n v (c:Int) hn HV.out _).mono ?_;rintro e w2 ⟨rfl,hb2⟩;have R2:=xR (rowsL_drew R _) hb2;have S2:=zA hb2 _ _ _ S;have s2:=zG S2)
  | (go_at_call 184;refine (jhalf_is n c r h rQ C385.out HR.out HH.out _).mono ?_;rintro e w3 ⟨rfl,hb3⟩;have R3:=xR R2 hb3;have s3:=zG (zA hb3 _ _ _ S2))
  | (go_at_call 185;refine (jzero_is r o rQ HO.out _).mono ?_;rintro e w4 ⟨rfl,hb4⟩;have R4:=xR R3 hb4;have hst:=xG w4 (w.heap.size+1) v 0 (rows1 R4)))
 all_goals
  have R5:qC w (w4.setRow (w.heap.size+1) (cw 6 v)) [n,v]:=rowsL_set R4 1 v _ (by simp) rfl rfl;have d:=zG (rows1 R5);go_wp2
  exact bodyPost_ret (v:=.tuple #[.agg (cw 6 v),.int .i64 h,.bool o]) (by simp [results,Tryz.results134,go_sem,d,hf]) rfl ⟨rfl,R5.2⟩

theorem c8_made (L:Nat):madeCells #[.int .u8 0] L=c8 L 0:=by
 apply Array.ext_getElem?
 intro i
 by_cases h:i<L
 ·
  rw [c8_at L 0 i h,d8_zero]
  simp [madeCells,h,Nat.mod_one]
 ·
  rw [Array.getElem?_eq_none (by rw [size_madeCells];omega),Array.getElem?_eq_none (by rw [c8_size];omega)]
theorem qF {w:World} {b k L n:Nat} {t:TypeId} (h:w.heap[b]?=some (.cells (c8 L n) t))(hk:k<L):w.cell? ⟨b,k,none⟩=some (.int .u8 (d8 n k:Nat)):=by
 rw [cell_of_row w b k _ _ _ h,c8_at L n k hk]
theorem c8_make (L:Nat)(h:L<=1000000)(w:World):(Instr.makeSlice 159 (.int .i64 (L:Int)) (.int .i64 (L:Int))).run Tryz.prog w=.ok (.slice (some ⟨w.heap.size,0,none⟩) L L) (w.alloc (.cells (c8 L 0) 5)):=by
 rw [<-c8_made];exact run_make_row' (P:=Tryz.prog) 159 5 (.int .u8 0) 1 Tryz.underlying159 (by kernel_rfl) rfl .i64 .i64 L (by omega) (by omega) w
theorem c8_makeI (L:Nat)(k:Int)(hk:k=(L:Int))(h:L<=1000000)(w:World):(Instr.makeSlice 159 (.int .i64 k) (.int .i64 k)).run Tryz.prog w=.ok (.slice (some ⟨w.heap.size,0,none⟩) L L) (w.alloc (.cells (c8 L 0) 5)):=by
 subst hk;exact c8_make L h w
theorem c8_str {w:World} {b c L X:Nat} {t:TypeId} (v:ByteArray)(h:w.heap[b]?=some (.cells (c8 L X) t))(hL:v.size=L)(hv:∀ (k:Nat) (h1:k<v.size),(v[k]'h1).toNat=d8 X k) :
  (convert 159 9 (.slice (some ⟨b,0,none⟩) L c)).run Tryz.prog w=.ok (.string v) w:=by
 have e:c8 L X=cb v.data.toList:=by
  apply Array.ext_getElem?
  intro i
  by_cases hi:i<L
  ·
   have hi2:i<v.size:=by rw [hL];exact hi
   have hi3:i<v.data.toList.length:=by rw [Array.length_toList];exact hi2
   rw [c8_at L X i hi,cb_at _ i (v[i]'hi2) (by rw [List.getElem?_eq_getElem hi3];rfl),hv i hi2]
  ·
   rw [Array.getElem?_eq_none (by rw [c8_size];omega),Array.getElem?_eq_none (by rw [cb_size,Array.length_toList];show v.size<=i;omega)]
 rw [e] at h
 have:=str_of (c:=c) h
 rw [Array.length_toList,show v.data.size=L from hL] at this
 simpa using this

theorem idx_run (s:ByteArray)(k:Nat)(i:Int)(d:Nat)(hi:i=(k:Int))(hk:k<s.size)(hd:(s[k]'hk).toNat=d)(w:World) :
  (Instr.index 9 (.string s) (.int .i64 i)).run Tryz.prog w=.ok (.int .u8 d) w:=by
 subst hi hd;rw [run_index_string (P:=Tryz.prog) w 9 s _ _ Tryz.underlying9,dif_pos ⟨by omega,by omega⟩]
 simp

theorem qX (n i d:Nat)(s:ByteArray)(hs:yN n=s)(hd:d8 n i=d)(hn:nl n<=100000)(w:World) :
  Calls Tryz.prog 157 #[.string s,.int .i64 (i:Nat)] w fun e w'=>e=.returned (.int .i64 (d:Nat))/\w'=w:=by
 obtain⟨L,hL⟩:∃ L,nl n=L:=⟨_,rfl⟩;have hz:s.size=L:=by rw [<-hs,yF,hL]
 rw [hL] at hn
 by_cases h:L<=i
 ·
  have e:d=0:=by rw [<-hd];exact d8_nl n i (by omega)
  subst e;have h1:decide (L<=i)=true:=by rw [decide_eq_true_iff];omega
  clear hs hd hL h
  go_enter Tryz.func157,Tryz.ntmps157
  go_wp2
  go_ret
  exact⟨rfl,rfl⟩
 ·
  have h1:decide (L<=i)=false:=by rw [decide_eq_false_iff_not];omega
  have hk:L-1-i<s.size:=by omega
  have hg:(s[L-1-i]'hk).toNat=d:=by
   subst hs;rw [nbA_get,hL,show L-1-(L-1-i)=i by omega,hd]
  have hx:=idx_run s (L-1-i) ((L:Int)-1-(i:Int)) d (by omega) hk hg;have n1:IntKind.i64.wrap ((L:Int)-1)=(L:Int)-1:=zR _ (by omega) (by omega);have n2:IntKind.i64.wrap ((L:Int)-1-(i:Int))=(L:Int)-1-(i:Int):=zR _ (by omega) (by omega);have d256:d<256:=by rw [<-hd];exact x6 n i
  clear hs hd hL h hg hk
  go_enter Tryz.func157,Tryz.ntmps157
  go_wp2
  go_ret
  exact⟨rfl,rfl⟩
end Go.Proofs.YtapikkbifdldfaaGreatDoor
