/-
  What the functions that the statement reaches return: part 14 (KD, KF).
-/
import Derived.Test.YtapikkbifdldfaaGreatDoorFt13
namespace Go.Proofs.YtapikkbifdldfaaGreatDoor
set_option maxRecDepth 100000
set_option maxHeartbeats 40000000
open Go.RowKit WMath
set_option linter.unusedSimpArgs false
set_option linter.unusedVariables false
theorem or_bit_lo (t k:Nat)(h:t<2 ^ k):2 ^ k ||| t=2 ^ k+t:=by
 have e:=Nat.two_pow_add_eq_or_of_lt h 1;rw [Nat.mul_one] at e;exact e.symm
theorem cnt_k8 {i:Nat} (h:i<384):yJ (i:Int)=i:=by unfold yJ;omega
theorem kparts_is (f:Int)(hf:y6 f)(x y n:Nat)(hx:x<18446744073709551616)(hy:y<18446744073709551616)(hn:y+18446744073709551616*x=n)(w:World)(hT:xG w) :
  Calls Tryz.prog 69 #[.int .u8 f,.agg #[.int .u64 x,.int .u64 y]] w fun r w'=>r=.returned (.agg (pt (kC f n) (kS f n) (kX f n) (kF f n)))/\Below w.heap.size w w':=by
 have f4:=yP hf;obtain⟨u,v,huv⟩:∃ u v,xX (kT f n)=(u,v):=⟨_,_,rfl⟩;obtain⟨g1,g2,g3,g4,g5,g6,g7⟩:=fm hf;have tl:=kT_lt (f:=f) n;have el:=kE_le (f:=f) n;have tn:kT f n<340282366920938463463374607431768211456:=by rw [g1,Nat.add_mul] at g7;omega
 have pn:2 ^ pV f+kT f n<340282366920938463463374607431768211456:=by rw [g1,Nat.add_mul] at g7;have:=Nat.mul_le_mul_right (2 ^ pV f) g5;omega
 obtain⟨u1,v1,t1⟩:=bv_lt tn huv;obtain⟨p1,p2,p3,p4,_⟩:=pV_lim hf;obtain⟨l1,l2,l3,l4,l5⟩:=lx_lim hf;have KC:xK 123 #[.int .u8 f,.agg #[.int .u64 x,.int .u64 y]] (.int .u8 ((kC f n:Nat):Int)):=zJ (fun w hT=>kclass_is f hf x y n _ hx hy hn rfl w hT);have KF:xK 124 #[.int .u8 f,.agg #[.int .u64 x,.int .u64 y]] (.agg #[.int .u64 u,.int .u64 v]):=zJ (fun w hT=>kfraction_is f hf x y n u v hx hy hn huv w hT);have KO:z6 72 #[.agg #[.int .u64 u,.int .u64 v]] (.agg (cw 6 (kT f n))):=zJ (fun w=>wofbits_is u v _ u1 v1 t1 w);have KL:xK 125 #[.int .u8 f] (.int .i64 (lx f)):=zJ (fun w hT=>kleast_is f hf _ rfl w hT);have cl:=kC_lt f n
 by_cases c1:kC f n=8∨kC f n=9
 ·
  have e1:kS f n=0/\kX f n=0/\kF f n=kT f n:=by
   unfold kS kX kF
   rw [if_neg (by omega),if_neg (by omega),if_neg (by omega),if_neg (by omega),if_pos c1];exact⟨rfl,rfl,rfl⟩
  rw [e1.1,e1.2.1,e1.2.2];exact kparts_nan f x y _ u v _ w KC KF KO c1 hT
 by_cases c2:kC f n=2∨kC f n=5
 ·
  have e1:kS f n=kT f n/\kX f n=lx f/\kF f n=0:=by
   unfold kS kX kF
   rw [if_pos c2,if_pos c2,if_neg c1];exact⟨rfl,rfl,rfl⟩
  rw [e1.1,e1.2.1,e1.2.2];exact kparts_sub f x y _ u v _ _ w KC KF KO KL c2 hT
 by_cases c3:kC f n=1∨kC f n=6
 ·
  have e1:kS f n=2 ^ pV f+kT f n/\kX f n=lx f+(kE f n:Int)-1/\kF f n=0:=by
   unfold kS kX kF
   rw [if_neg c2,if_neg c2,if_neg c1,if_pos c3,if_pos c3];exact⟨rfl,rfl,rfl⟩
  rw [e1.1,e1.2.1,e1.2.2];have pl:2 ^ pV f<Q:=x8 (by omega)
  exact kparts_norm f x y _ u v _ (lx f) (fP f) _ (pV f) (2 ^ pV f) _ (kE f n) w KC KF KO KL
   (zJ (fun w=>wof_al 1 (by decide) w)) (zJ (fun w hT=>kb_precision f _ f4.1 f4.2.1 rfl w hT))
   (zJ (fun w=>wleft_is 1 (2 ^ pV f) _ false (x8 (by omega)) (by rw [cnt_k8 (by omega),Nat.one_mul,Nat.mod_eq_of_lt pl]) (by rw [cnt_k8 (by omega),Nat.one_mul];simp;omega) w))
   (zJ (fun w=>wor_is (2 ^ pV f) (kT f n) _ pl (x8 (by omega)) (or_bit_lo _ _ tl) w))
   (zJ (fun w hT=>kfield_is f hf x y n _ hx hy hn rfl w hT)) p2 (by rw [IntKind.wrap_i64];omega) (by rw [IntKind.wrap_i64];omega) (by rw [IntKind.wrap_i64];omega) c3 hT
 ·
  have e1:kS f n=0/\kX f n=0/\kF f n=0:=by
   unfold kS kX kF
   rw [if_neg c2,if_neg c2,if_neg c1,if_neg c3,if_neg c3];exact⟨rfl,rfl,rfl⟩
  rw [e1.1,e1.2.1,e1.2.2];exact kparts_none f x y _ u v _ w KC KF KO (by omega) hT
theorem kUnpack_yes (f:Int)(hf:y6 f)(x y n c s rr:Nat)(X:Int)(hx:x<18446744073709551616)(hy:y<18446744073709551616)(hn:y+18446744073709551616*x=n)(ho:okB f n=true)(hp:kp f n=(c,s,X,rr))(w:World)(hT:xG w) :
  Calls Tryz.prog 33 #[.int .u8 f,.agg #[.int .u64 x,.int .u64 y]] w fun r w'=>r=.returned (.tuple #[.agg (pt c s X rr),.int .i64 0])/\Below w.heap.size w w':=by
 have f4:=yP hf;have K1:=zJ (sk_fits f x y n true f4.1 f4.2.1 hx hy hn ho);have K2:=zJ (kparts_is f hf x y n hx hy hn)
 unfold kp at hp
 injection hp with h1 h2;injection h2 with h2 h3;injection h3 with h3 h4;rw [h1,h2,h3,h4] at K2;have hat:=yD 6;have hz:=yZ;have hff:=yX;have hs0:=jE;have hcs:∀ x,((cw 6 x).size=6)=True:=fun x=>eq_true (z8 6 x);have hp1:=ptf;have hp3:=ptz;have hp5:∀ (c s:Nat) (x:Int) (r:Nat),((pt c s x r).size=14)=True:=fun _ _ _ _=>eq_true rfl;have TT:=zJ hT;clear hT hf hx hy hn ho h1 h2 h3 h4;obtain⟨Ad,Ae,B0⟩:=xU w (Obj.cells #[.int .u64 x,.int .u64 y] 26) (Obj.cells (pt 0 0 0 0) 54)
 go_enter Tryz.func33,Tryz.ntmps33
 go_wp2_with fail
 refine (K1.out _ (z7 TT.out B0)).mono ?_;rintro r w1 ⟨rfl,b1⟩;have B1:Below w.heap.size w w1:=zW B0 b1;obtain⟨Aa,Ab⟩:=zZ b1 Ad Ae;clear b1 B0 Ad Ae;obtain⟨Af,Ag⟩:=zM Aa;obtain⟨Ah,Ai,Aj,Ak,Al,Am,An,Ao,Ap,Aq,Ar,As,At,Au⟩:=zH Ab;go_wp2_with fail
 refine (K2.out _ (z7 TT.out B1)).mono ?_;rintro r w2 ⟨rfl,b2⟩;have B2:Below w.heap.size w w2:=zW B1 b2;obtain⟨Av,Ac⟩:=zZ b2 Aa Ab;clear b2 B1 Aa Af Ag Ab Ah Ai Aj Ak Al Am An Ao Ap Aq Ar As At Au;obtain⟨Aw,Ax⟩:=zM Av;obtain⟨Ay,Az,AA,AB,AC,AD,AE,AF,AG,AH,AI,AJ,AK,AL⟩:=zH Ac;have hstz:=st_p w2 (w.heap.size+1) c s X rr 0 0 0 0 Ac;have RZ:=zS (c':=pt c s X rr) Ac;obtain⟨dz0,dz1,dz2,dz3,dz4,dz5,dz6,dz7,dz8,dz9,dz10,dz11,dz12,dz13⟩:=zH RZ;have bz:=yA (c:=pt c s X rr) B2 (show w.heap.size<=w.heap.size+1 by first|exact Nat.le_refl _|omega|(skip;omega));go_wp2
 exact bodyPost_ret (v:=.tuple #[.agg (pt c s X rr),.int .i64 0]) (by simp [results,Tryz.results33,go_sem,dz0,dz1,dz2,dz3,dz4,dz5,dz6,dz7,dz8,dz9,dz10,dz11,dz12,dz13,ptf] <;> rfl) rfl ⟨rfl,bz⟩
theorem lt_128 {s:Nat} (hs:s<Q):(wd s 0+18446744073709551616*wd s 1=s)↔s<340282366920938463463374607431768211456:=by
 constructor
 ·
  intro h
  have:=yU s 0
  have:=yU s 1
  omega
 ·
  intro h;rw [(wd01 h).1,(wd01 h).2];omega
theorem ktobits_one (s u v:Nat)(hs:s<Q)(huv:xX (toB s)=(u,v)):∃ o,∀ w,Calls Tryz.prog 74 #[.agg (cw 6 s)] w fun r w'=>r=.returned (.tuple #[.agg #[.int .u64 u,.int .u64 v],.bool o])/\Below w.heap.size w w':=by
 unfold toB xX at huv
 by_cases h:s<340282366920938463463374607431768211456
 ·
  rw [if_pos h] at huv;injection huv with h1 h2;refine ⟨true,fun w=>?_⟩;have k:=wtobits_yes s hs ((lt_128 hs).2 h) w;rw [(wd01 h).1,(wd01 h).2,h1,h2] at k;exact k
 ·
  rw [if_neg h] at huv;injection huv with h1 h2;refine ⟨false,fun w=>?_⟩;have k:=wtobits_no s hs (fun e=>h ((lt_128 hs).1 e)) w;rw [<-h1,<-h2];exact k
end Go.Proofs.YtapikkbifdldfaaGreatDoor
