/-
  What the functions that the statement reaches return: part 28 (FC, FD, FG).
-/
import Derived.Test.YtapikkbifdldfaaGreatDoorFa27
namespace Go.Proofs.YtapikkbifdldfaaGreatDoor
set_option maxRecDepth 100000
set_option maxHeartbeats 40000000
open Go.RowKit WMath XMath
set_option linter.unusedSimpArgs false
set_option linter.unusedVariables false
theorem frw_zero (p low:Int):frmW 0 p low=0:=by unfold frmW;rw [Nat.zero_mul,jr_zero]
theorem frw_pos (A:Nat)(p low:Int)(h:A≠0):frmW A p low≠0:=by
 unfold frmW jr
 have q:=Nat.two_pow_pos (p-low).toNat;have r:=Nat.two_pow_pos (low-p).toNat;have x0:A*2 ^ (p-low).toNat≠0:=Nat.mul_ne_zero h (by omega);generalize A*2 ^ (p-low).toNat=x at *;generalize 2 ^ (low-p).toNat=y at *
 split
 ·
  rename_i e
  have:=Nat.div_add_mod x y
  intro z;rw [z,e,Nat.mul_zero] at this;omega
 ·
  rw [jor1];omega
theorem pos2 (i:Nat):0<2 ^ i:=Nat.two_pow_pos i
theorem p383 {x:Nat} (h:x<2 ^ 383):x<Q:=Nat.lt_trans h (by decide +kernel)
theorem p226 {x:Nat} (h:zU x<=226):x<Q:=Nat.lt_trans ((yK x 226).1 h) (by decide +kernel)
theorem kfrw_is (neg:Bool)(A:Nat)(p low:Int)(hA:zU A<=226)(h:A≠0->p+(zU A:Int)-low<=383)(p1:-100000<=p)(p2:p<=100000)(l1:-100000<=low)(l2:low<=100000)(w:World) :
  frmW A p low<2 ^ 383/\Calls Tryz.prog 167 #[.agg (rg neg A p false),.int .i64 low] w fun r w'=>r=.returned (.agg (cw 6 (frmW A p low)))/\Below w.heap.size w w':=by
 have lt:frmW A p low<2 ^ 383:=by
  by_cases a0:A=0
  ·
   rw [a0,frw_zero];exact pos2 383
  ·
   exact frw_lt A p low hA (h a0)
 have AQ:=p226 hA
 have hR:A*2 ^ yJ (p-low) % Q=A*2 ^ (p-low).toNat/\A*2 ^ (p-low).toNat<Q:=by
  by_cases a0:A=0
  ·
   rw [a0,Nat.zero_mul,Nat.zero_mul];exact⟨Nat.zero_mod _,Q_pos⟩
  ·
   have h2:=h a0;have bl:=(x5 A a0).1;rw [show yJ (p-low)=(p-low).toNat by unfold yJ;omega]
   have lq:A*2 ^ (p-low).toNat<Q:=by
    by_cases c:low<=p
    ·
     rw [frw_up A p low c] at lt;exact p383 lt
    ·
     rw [show (p-low).toNat=0 by omega,Nat.pow_zero,Nat.mul_one];exact AQ
   exact⟨Nat.mod_eq_of_lt lq,lq⟩
 exact⟨lt,fm_from neg A p low (p-low) (low-p) _ _ _ w (zK (fun w=>wleft_is A _ (p-low) _ AQ hR.1 rfl w)) (zK (fun w=>jright_is _ _ (low-p) hR.2 (by rw [jr_cnt6 _ _ hR.2];rfl) w)) (zQ _ (by omega) (by omega)) (zQ _ (by omega) (by omega))⟩
theorem ktop_is (neg:Bool)(A:Nat)(p:Int)(hA:A<Q)(bA:zU A<=1000)(p1:-100000<=p)(p2:p<=100000)(w:World):Calls Tryz.prog 206 #[.agg (rg neg A p false)] w fun r w'=>r=.returned (.int .i64 (p+(zU A:Int)))/\Below w.heap.size w w':=
 fm_top neg A p false (zU A:Nat) _ w (zK (fun w=>wlen_is A _ hA rfl w)) (zQ _ (by omega) (by omega))
theorem klowest_is (n1 n2:Bool)(A C:Nat)(p q:Int)(hA:zU A<=226)(hC:zU C<=226)(p1:-50000<=p)(p2:p<=50000)(q1:-50000<=q)(q2:q<=50000)(w:World):Calls Tryz.prog 166 #[.agg (rg n1 A p false),.agg (rg n2 C q false)] w fun r w'=>r=.returned (.int .i64 (loF A p C q))/\Below w.heap.size w w':=by
 have K1:zZ 206 #[.agg (rg n1 A p false)] (.int .i64 (p+(zU A:Int))):=zK (fun w=>ktop_is n1 A p (p226 hA) (by omega) (by omega) (by omega) w);have K2:zZ 206 #[.agg (rg n2 C q false)] (.int .i64 (q+(zU C:Int))):=zK (fun w=>ktop_is n2 C q (p226 hC) (by omega) (by omega) (by omega) w);refine fm_lowest n1 A p n2 C q _ _ _ _ w (p226 hA) (p226 hC) K1 K2 rfl (zK ?_)
 unfold loF
 by_cases a0:A=0
 ·
  exact Or.inl ⟨eq_true a0,by rw [if_pos a0];exact zQ _ (by omega) (by omega)⟩
 by_cases c0:C=0
 ·
  exact Or.inr (Or.inl ⟨eq_false a0,eq_true c0,by rw [if_neg a0,if_pos c0];exact zQ _ (by omega) (by omega)⟩)
 ·
  exact Or.inr (Or.inr ⟨eq_false a0,eq_false c0,by rw [if_neg a0,if_neg c0];exact zQ _ (by omega) (by omega)⟩)
theorem ktot_is (m:Int)(n1 n2:Bool)(A C:Nat)(p q:Int)(hA:zU A<=226)(hC:zU C<=226)(p1:-50000<=p)(p2:p<=50000)(q1:-50000<=q)(q2:q<=50000)(low:Int)(hl:loF A p C q=low)(neg:Bool)(S:Nat)(h:TotR m n1 n2 (frmW A p low) (frmW C q low) neg S)(w:World) :
  S<Q/\-100000<=low/\low<=100000/\Calls Tryz.prog 106 #[.int .u8 m,.agg (rg n1 A p false),.agg (rg n2 C q false)] w fun r w'=>r=.returned (.agg (rg neg S low false))/\Below w.heap.size w w':=by
 have KL:zZ 166 #[.agg (rg n1 A p false),.agg (rg n2 C q false)] (.int .i64 low):=zK (fun w=>by
  rw [<-hl];exact klowest_is n1 n2 A C p q hA hC p1 p2 q1 q2 w)
 have lb:-100000<=low/\low<=100000/\(A≠0->p+(zU A:Int)-low<=383)/\(C≠0->q+(zU C:Int)-low<=383):=by
  rw [<-hl]
  unfold loF
  by_cases a0:A=0
  ·
   rw [if_pos a0];exact⟨by omega,by omega,fun e=>absurd a0 e,fun _=>by omega⟩
  by_cases c0:C=0
  ·
   rw [if_neg a0,if_pos c0];exact⟨by omega,by omega,fun _=>by omega,fun e=>absurd c0 e⟩
  ·
   rw [if_neg a0,if_neg c0];exact⟨by omega,by omega,fun _=>by omega,fun _=>by omega⟩
 obtain⟨l1,l2,la,lc⟩:=lb;have fa:=fun w=>kfrw_is n1 A p low hA la (by omega) (by omega) l1 l2 w;have fc:=fun w=>kfrw_is n2 C q low hC lc (by omega) (by omega) l1 l2 w;have a3:=(fa w).1;have c3:=(fc w).1;have K1:=zK (fun w=>(fa w).2);have K2:=zK (fun w=>(fc w).2);clear fa fc;generalize frmW A p low=a at *;generalize frmW C q low=c at *;have KC:=zK (fun w=>wcmp_is a c _ (p383 a3) (p383 c3) rfl w);have q2:2 ^ 383+2 ^ 383<=Q:=by decide +kernel
 refine ⟨?_,l1,l2,?_⟩
 ·
  rcases h with ⟨e,n,hS⟩|⟨e,l,n,hS⟩|⟨e,l,n,hS⟩|⟨e,l,n,hS⟩ <;> omega
 ·
  rcases h with ⟨e,n,hS⟩|⟨e,l,n,hS⟩|⟨e,l,n,hS⟩|⟨e,l,n,hS⟩
  ·
   exact fm_total m n1 A p n2 C q low a c S _ false true neg w (by rw [e];cases n2 <;> rfl) KL K1 K2 KC (zK (Or.inl (Or.inl ⟨rfl,zK (fun w=>wadd_is a c S false (p383 a3) (p383 c3) (by rw [hS];exact Nat.mod_eq_of_lt (by omega)) (decide_eq_false (by omega)) w),n.symm⟩)))
  ·
   exact fm_total m n1 A p n2 C q low a c S _ false false neg w (by revert e;cases n1 <;> cases n2 <;> simp) KL K1 K2 KC (zK (Or.inl (Or.inr ⟨rfl,by unfold qZ;rw [if_neg (by omega),if_neg (by omega)];rfl,zK (fun w=>wsub_is a c S false (p383 a3) (p383 c3) (by rw [show a+Q-c=S+Q by omega,Nat.add_mod_right];exact Nat.mod_eq_of_lt (by omega)) (decide_eq_false (by omega)) w),n.symm⟩)))
  ·
   exact fm_total m n1 A p n2 C q low a c S _ false false neg w (by revert e;cases n1 <;> cases n2 <;> simp) KL K1 K2 KC (zK (Or.inr (Or.inl ⟨rfl,by unfold qZ;rw [if_neg (by omega),if_pos l];rfl,by unfold qZ;rw [if_neg (by omega),if_pos l];rfl,zK (fun w=>wsub_is c a S false (p383 c3) (p383 a3) (by rw [show c+Q-a=S+Q by omega,Nat.add_mod_right];exact Nat.mod_eq_of_lt (by omega)) (decide_eq_false (by omega)) w),n.symm⟩)))
  ·
   exact fm_total m n1 A p n2 C q low a c S _ false false neg w (by revert e;cases n1 <;> cases n2 <;> simp) KL K1 K2 KC (zK (Or.inr (Or.inr ⟨rfl,by unfold qZ;rw [if_pos l];rfl,by unfold qZ;rw [if_pos l];rfl,by rw [n];rfl,hS⟩)))
theorem kS_len {f:Int} (hf:y7 f)(n:Nat)(h:0<kC f n/\kC f n<7):zU (kS f n)<=113:=by
 by_cases z:kC f n=3∨kC f n=4
 ·
  rw [(k_null n z).1]
  have:zU 0=0:=by unfold zU;rw [if_pos rfl]
  omega
 ·
  exact (kS_blen hf n (by omega)).2
theorem prod_len {A B:Nat} (hA:zU A<=113)(hB:zU B<=113):zU (A*B)<=226:=by
 have a:=(yK A 113).1 hA;have b:=(yK B 113).1 hB;rw [yK]
 by_cases b0:B=0
 ·
  rw [b0,Nat.mul_zero];exact Nat.two_pow_pos _
 ·
  exact Nat.lt_of_lt_of_le (Nat.mul_lt_mul_of_lt_of_le a (Nat.le_of_lt b) (by omega)) (by rw [<-Nat.pow_add];exact Nat.le_refl _)
theorem bv_back15 {x y n u v:Nat} (hx:x<18446744073709551616)(hy:y<18446744073709551616)(hn:y+18446744073709551616*x=n)(hv:qF n=(u,v)):x=u/\y=v:=by
 unfold qF at hv
 injection hv with h1 h2;omega
theorem qP {p k:Int} (h:p≠k):(p == k)=false:=beq_eq_false_iff_ne.2 h
theorem plC_cases (c:Nat)(hc:c<=9):(qH c=7↔(c=0∨c=7))/\(qH c=4↔(c=3∨c=4))/\(qH c=8↔c=8)/\(qH c=9↔c=9):=by
 unfold qH
 split
 ·
  omega
 split
 ·
  omega
 split
 ·
  omega
 ·
  omega
theorem kfused_is (f m:Int)(hf:y7 f)(hm:0<=m/\m<=4)(x1 y1 a x2 y2 b x3 y3 c:Nat)(hx1:x1<18446744073709551616)(hy1:y1<18446744073709551616)(hx2:x2<18446744073709551616)(hy2:y2<18446744073709551616)(hx3:x3<18446744073709551616)(hy3:y3<18446744073709551616)(ha:y1+18446744073709551616*x1=a)(hb:y2+18446744073709551616*x2=b)(hc:y3+18446744073709551616*x3=c)
  (oa:okB f a=true) (ob:okB f b=true) (oc:okB f c=true) (M:Nat) (fl:Int) (hr:fmaR f m a b c=(M,fl)) (u v:Nat) (hv:qF M=(u,v)) (w:World) (hT:xJ w) :
  Calls Tryz.prog 51 #[.int .u8 f,.int .u8 m,.agg #[.int .u64 x1,.int .u64 y1],.agg #[.int .u64 x2,.int .u64 y2],.agg #[.int .u64 x3,.int .u64 y3]] w fun r w'=>r=.returned (.tuple #[.agg #[.int .u64 u,.int .u64 v],.int .u8 fl,.int .i64 0])/\Below w.heap.size w w':=by
 obtain⟨c1,Aa⟩:∃ k,kC f a=k:=⟨_,rfl⟩;obtain⟨m1,hm1⟩:∃ k,kS f a=k:=⟨_,rfl⟩;obtain⟨X1,hX1⟩:∃ k,kX f a=k:=⟨_,rfl⟩;obtain⟨s1,hs1⟩:∃ k,kN f a=k:=⟨_,rfl⟩;have lc1:c1<=9:=by rw [<-Aa];have:=kC_lt f a;omega
 obtain⟨e17,e14,e18,e19⟩:=plC_cases c1 lc1;obtain⟨c2,Ab⟩:∃ k,kC f b=k:=⟨_,rfl⟩;obtain⟨m2,hm2⟩:∃ k,kS f b=k:=⟨_,rfl⟩;obtain⟨X2,hX2⟩:∃ k,kX f b=k:=⟨_,rfl⟩;obtain⟨s2,hs2⟩:∃ k,kN f b=k:=⟨_,rfl⟩;have lc2:c2<=9:=by rw [<-Ab];have:=kC_lt f b;omega
 obtain⟨e27,e24,e28,e29⟩:=plC_cases c2 lc2;obtain⟨c3,Ac⟩:∃ k,kC f c=k:=⟨_,rfl⟩;obtain⟨m3,hm3⟩:∃ k,kS f c=k:=⟨_,rfl⟩;obtain⟨X3,hX3⟩:∃ k,kX f c=k:=⟨_,rfl⟩;obtain⟨s3,hs3⟩:∃ k,kN f c=k:=⟨_,rfl⟩;have lc3:c3<=9:=by rw [<-Ac];have:=kC_lt f c;omega
 obtain⟨e37,e34,e38,e39⟩:=plC_cases c3 lc3;have KU1:xS 33 #[.int .u8 f,.agg #[.int .u64 x1,.int .u64 y1]] (.tuple #[.agg (pt c1 m1 X1 (kF f a)),.int .i64 0]):=zK (fun w hT=>kUnpack_yes f hf x1 y1 a c1 m1 (kF f a) X1 hx1 hy1 ha oa (by unfold kp;rw [Aa,hm1,hX1]) w hT);have KS1:xS 22 #[.int .u8 f,.agg #[.int .u64 x1,.int .u64 y1]] (.bool s1):=zK (fun w hT=>kSign_yes f hf x1 y1 a s1 hx1 hy1 ha oa hs1 w hT);have KP1:=yE c1 lc1 _ rfl;have KU2:xS 33 #[.int .u8 f,.agg #[.int .u64 x2,.int .u64 y2]] (.tuple #[.agg (pt c2 m2 X2 (kF f b)),.int .i64 0]):=zK (fun w hT=>kUnpack_yes f hf x2 y2 b c2 m2 (kF f b) X2 hx2 hy2 hb ob (by unfold kp;rw [Ab,hm2,hX2]) w hT);have KS2:xS 22 #[.int .u8 f,.agg #[.int .u64 x2,.int .u64 y2]] (.bool s2):=zK (fun w hT=>kSign_yes f hf x2 y2 b s2 hx2 hy2 hb ob hs2 w hT);have KP2:=yE c2 lc2 _ rfl;have KU3:xS 33 #[.int .u8 f,.agg #[.int .u64 x3,.int .u64 y3]] (.tuple #[.agg (pt c3 m3 X3 (kF f c)),.int .i64 0]):=zK (fun w hT=>kUnpack_yes f hf x3 y3 c c3 m3 (kF f c) X3 hx3 hy3 hc oc (by unfold kp;rw [Ac,hm3,hX3]) w hT);have KS3:xS 22 #[.int .u8 f,.agg #[.int .u64 x3,.int .u64 y3]] (.bool s3):=zK (fun w hT=>kSign_yes f hf x3 y3 c s3 hx3 hy3 hc oc hs3 w hT);have KP3:=yE c3 lc3 _ rfl;obtain⟨neg,hng⟩:∃ k,(s1 != s2)=k:=⟨_,rfl⟩
 have KO:zY (∀ (T:TypeId) (g:Nat) (w:World),w.heap.size=g->xJ w->Calls Tryz.prog 105 #[.int .u8 f,.slice (some ⟨g,0,none⟩) 3 3] (w.alloc (.cells #[.int .u64 x1,.int .u64 y1,.int .u64 x2,.int .u64 y2,.int .u64 x3,.int .u64 y3] T)) fun r w'=>∃ gl,r=.returned (.slice (some ⟨gl,0,none⟩) 3 3)/\w'.heap[gl]?=some (.cells (p3v c1 m1 X1 (kF f a) c2 m2 X2 (kF f b) c3 m3 X3 (kF f c)) 54)/\Below w.heap.size w w'):=zK (fun T g w hg hT=>by
  subst hg;have B:=yP w (.cells #[.int .u64 x1,.int .u64 y1,.int .u64 x2,.int .u64 y2,.int .u64 x3,.int .u64 y3] T);exact (fm_opened f x1 y1 x2 y2 x3 y3 c1 m1 X1 _ c2 m2 X2 _ c3 m3 X3 _ w.heap.size T _ (heap_alloc_last w _) KU1 KU2 KU3 (yC hT B)).mono fun _ _ ⟨q1,q2,q3⟩=>⟨_,q1,q2,zV B q3⟩)
 have KN:qF (eNaN f)=(u,v)->xS 35 #[.int .u8 f] (.agg #[.int .u64 u,.int .u64 v]):=fun h=>zK (fun w hT=>kNaN_is f hf u v h w hT);have KI:qF (eInf f neg)=(u,v)->xS 36 #[.int .u8 f,.bool neg] (.agg #[.int .u64 u,.int .u64 v]):=fun h=>zK (fun w hT=>kInf_is f hf neg u v h w hT);have hr0:=hr
 unfold fmaR at hr
 rw [Aa,Ab,Ac,hs1,hs2,hs3,hng] at hr
 by_cases d1:(c1=0∨c1=7∨c2=0∨c2=7)/\(c1=3∨c1=4∨c2=3∨c2=4)
 ·
  rw [if_pos d1] at hr;injection hr with r1 r2;subst r1 r2
  by_cases i1:c1=0∨c1=7
  ·
   exact y9 f m x1 y1 x2 y2 x3 y3 u v c1 m1 X1 _ c2 m2 X2 _ c3 m3 X3 _ s1 s2 s3 neg false 7 4 (qH c3) 0 0 0 0 _ w hng KO KS1 KS2 KS3 (yE c1 lc1 7 (e17.2 (by omega))) (yE c2 lc2 4 (e24.2 (by omega))) (yE c3 lc3 (qH c3) rfl) (zK (Or.inl (Or.inl (⟨rfl,rfl,KN hv,rfl⟩)))) hT
  ·
   exact y9 f m x1 y1 x2 y2 x3 y3 u v c1 m1 X1 _ c2 m2 X2 _ c3 m3 X3 _ s1 s2 s3 neg false 4 7 (qH c3) 0 0 0 0 _ w hng KO KS1 KS2 KS3 (yE c1 lc1 4 (e14.2 (by omega))) (yE c2 lc2 7 (e27.2 (by omega))) (yE c3 lc3 (qH c3) rfl) (zK (Or.inl (Or.inr (Or.inl (⟨rfl,rfl,KN hv,rfl⟩))))) hT
 rw [if_neg d1] at hr
 by_cases d2:c1=8∨c2=8∨c3=8
 ·
  rw [if_pos d2] at hr;injection hr with r1 r2;subst r1 r2
  by_cases i1:c1=8
  ·
   exact y9 f m x1 y1 x2 y2 x3 y3 u v c1 m1 X1 _ c2 m2 X2 _ c3 m3 X3 _ s1 s2 s3 neg false 8 (qH c2) (qH c3) 0 0 0 0 _ w hng KO KS1 KS2 KS3 (yE c1 lc1 8 (e18.2 (by omega))) (yE c2 lc2 (qH c2) rfl) (yE c3 lc3 (qH c3) rfl) (zK (Or.inl (Or.inr (Or.inr (Or.inl (⟨rfl,KN hv,rfl⟩)))))) hT
  by_cases i2:c2=8
  ·
   exact y9 f m x1 y1 x2 y2 x3 y3 u v c1 m1 X1 _ c2 m2 X2 _ c3 m3 X3 _ s1 s2 s3 neg false (qH c1) 8 (qH c3) 0 0 0 0 _ w hng KO KS1 KS2 KS3 (yE c1 lc1 (qH c1) rfl) (yE c2 lc2 8 (e28.2 (by omega))) (yE c3 lc3 (qH c3) rfl) (zK (Or.inl (Or.inr (Or.inr (Or.inr (Or.inl (⟨rfl,qP (fun q=>by have:=e18.1 q;omega),KN hv,rfl⟩))))))) hT
  by_cases i3:c1=0∨c1=7
  ·
   exact y9 f m x1 y1 x2 y2 x3 y3 u v c1 m1 X1 _ c2 m2 X2 _ c3 m3 X3 _ s1 s2 s3 neg false 7 (qH c2) 8 0 0 0 0 _ w hng KO KS1 KS2 KS3 (yE c1 lc1 7 (e17.2 (by omega))) (yE c2 lc2 (qH c2) rfl) (yE c3 lc3 8 (e38.2 (by omega))) (zK (Or.inl (Or.inr (Or.inr (Or.inr (Or.inr (Or.inl (⟨rfl,rfl,qP (fun q=>by have:=e24.1 q;omega),qP (fun q=>by have:=e28.1 q;omega),KN hv,rfl⟩)))))))) hT
  by_cases i4:c1=3∨c1=4
  ·
   exact y9 f m x1 y1 x2 y2 x3 y3 u v c1 m1 X1 _ c2 m2 X2 _ c3 m3 X3 _ s1 s2 s3 neg false 4 (qH c2) 8 0 0 0 0 _ w hng KO KS1 KS2 KS3 (yE c1 lc1 4 (e14.2 (by omega))) (yE c2 lc2 (qH c2) rfl) (yE c3 lc3 8 (e38.2 (by omega))) (zK (Or.inl (Or.inr (Or.inr (Or.inr (Or.inr (Or.inr (Or.inl (⟨rfl,rfl,qP (fun q=>by have:=e27.1 q;omega),qP (fun q=>by have:=e28.1 q;omega),KN hv,rfl⟩))))))))) hT
  ·
   exact y9 f m x1 y1 x2 y2 x3 y3 u v c1 m1 X1 _ c2 m2 X2 _ c3 m3 X3 _ s1 s2 s3 neg false (qH c1) (qH c2) 8 0 0 0 0 _ w hng KO KS1 KS2 KS3 (yE c1 lc1 (qH c1) rfl) (yE c2 lc2 (qH c2) rfl) (yE c3 lc3 8 (e38.2 (by omega))) (zK (Or.inl (Or.inr (Or.inr (Or.inr (Or.inr (Or.inr (Or.inr (Or.inl (⟨rfl,qP (fun q=>by have:=e17.1 q;omega),qP (fun q=>by have:=e14.1 q;omega),qP (fun q=>by have:=e18.1 q;omega),qP (fun q=>by have:=e28.1 q;omega),KN hv,rfl⟩)))))))))) hT
 rw [if_neg d2] at hr
 by_cases d3:c1=9∨c2=9∨c3=9
 ·
  rw [if_pos d3] at hr;injection hr with r1 r2;subst r1 r2
  by_cases i1:c1=9
  ·
   exact y9 f m x1 y1 x2 y2 x3 y3 u v c1 m1 X1 _ c2 m2 X2 _ c3 m3 X3 _ s1 s2 s3 neg false 9 (qH c2) (qH c3) 0 0 0 0 _ w hng KO KS1 KS2 KS3 (yE c1 lc1 9 (e19.2 (by omega))) (yE c2 lc2 (qH c2) rfl) (yE c3 lc3 (qH c3) rfl) (zK (Or.inl (Or.inr (Or.inr (Or.inr (Or.inr (Or.inr (Or.inr (Or.inr (Or.inl (⟨rfl,qP (fun q=>by have:=e28.1 q;omega),qP (fun q=>by have:=e38.1 q;omega),KN hv,rfl⟩))))))))))) hT
  by_cases i2:c2=9
  ·
   exact y9 f m x1 y1 x2 y2 x3 y3 u v c1 m1 X1 _ c2 m2 X2 _ c3 m3 X3 _ s1 s2 s3 neg false (qH c1) 9 (qH c3) 0 0 0 0 _ w hng KO KS1 KS2 KS3 (yE c1 lc1 (qH c1) rfl) (yE c2 lc2 9 (e29.2 (by omega))) (yE c3 lc3 (qH c3) rfl) (zK (Or.inl (Or.inr (Or.inr (Or.inr (Or.inr (Or.inr (Or.inr (Or.inr (Or.inr (Or.inl (⟨rfl,qP (fun q=>by have:=e18.1 q;omega),qP (fun q=>by have:=e38.1 q;omega),qP (fun q=>by have:=e19.1 q;omega),KN hv,rfl⟩)))))))))))) hT
  by_cases i3:c1=0∨c1=7
  ·
   exact y9 f m x1 y1 x2 y2 x3 y3 u v c1 m1 X1 _ c2 m2 X2 _ c3 m3 X3 _ s1 s2 s3 neg false 7 (qH c2) 9 0 0 0 0 _ w hng KO KS1 KS2 KS3 (yE c1 lc1 7 (e17.2 (by omega))) (yE c2 lc2 (qH c2) rfl) (yE c3 lc3 9 (e39.2 (by omega))) (zK (Or.inl (Or.inr (Or.inr (Or.inr (Or.inr (Or.inr (Or.inr (Or.inr (Or.inr (Or.inr (Or.inl (⟨rfl,rfl,qP (fun q=>by have:=e24.1 q;omega),qP (fun q=>by have:=e28.1 q;omega),qP (fun q=>by have:=e29.1 q;omega),KN hv,rfl⟩))))))))))))) hT
  by_cases i4:c1=3∨c1=4
  ·
   exact y9 f m x1 y1 x2 y2 x3 y3 u v c1 m1 X1 _ c2 m2 X2 _ c3 m3 X3 _ s1 s2 s3 neg false 4 (qH c2) 9 0 0 0 0 _ w hng KO KS1 KS2 KS3 (yE c1 lc1 4 (e14.2 (by omega))) (yE c2 lc2 (qH c2) rfl) (yE c3 lc3 9 (e39.2 (by omega))) (zK (Or.inl (Or.inr (Or.inr (Or.inr (Or.inr (Or.inr (Or.inr (Or.inr (Or.inr (Or.inr (Or.inr (Or.inl (⟨rfl,rfl,qP (fun q=>by have:=e27.1 q;omega),qP (fun q=>by have:=e28.1 q;omega),qP (fun q=>by have:=e29.1 q;omega),KN hv,rfl⟩)))))))))))))) hT
  ·
   exact y9 f m x1 y1 x2 y2 x3 y3 u v c1 m1 X1 _ c2 m2 X2 _ c3 m3 X3 _ s1 s2 s3 neg false (qH c1) (qH c2) 9 0 0 0 0 _ w hng KO KS1 KS2 KS3 (yE c1 lc1 (qH c1) rfl) (yE c2 lc2 (qH c2) rfl) (yE c3 lc3 9 (e39.2 (by omega))) (zK (Or.inl (Or.inr (Or.inr (Or.inr (Or.inr (Or.inr (Or.inr (Or.inr (Or.inr (Or.inr (Or.inr (Or.inr (Or.inl (⟨rfl,qP (fun q=>by have:=e17.1 q;omega),qP (fun q=>by have:=e14.1 q;omega),qP (fun q=>by have:=e18.1 q;omega),qP (fun q=>by have:=e28.1 q;omega),qP (fun q=>by have:=e19.1 q;omega),qP (fun q=>by have:=e29.1 q;omega),KN hv,rfl⟩))))))))))))))) hT
 rw [if_neg d3] at hr
 by_cases d4:c1=0∨c1=7∨c2=0∨c2=7
 ·
  rw [if_pos d4] at hr
  by_cases i3:c3=0∨c3=7
  ·
   by_cases sg:s3=neg
   ·
    rw [if_neg (fun q=>q.2 sg)] at hr;injection hr with r1 r2;subst r1 r2
    by_cases i1:c1=0∨c1=7
    ·
     exact y9 f m x1 y1 x2 y2 x3 y3 u v c1 m1 X1 _ c2 m2 X2 _ c3 m3 X3 _ s1 s2 s3 neg false 7 (qH c2) 7 0 0 0 0 _ w hng KO KS1 KS2 KS3 (yE c1 lc1 7 (e17.2 (by omega))) (yE c2 lc2 (qH c2) rfl) (yE c3 lc3 7 (e37.2 (by omega))) (zK (Or.inr (Or.inl (Or.inr (Or.inl (⟨rfl,qP (fun q=>by have:=e24.1 q;omega),qP (fun q=>by have:=e28.1 q;omega),rfl,qP (fun q=>by have:=e29.1 q;omega),rfl,rfl,(by rw [sg];exact beq_self_eq_true neg),KI hv,rfl⟩)))))) hT
    ·
     exact y9 f m x1 y1 x2 y2 x3 y3 u v c1 m1 X1 _ c2 m2 X2 _ c3 m3 X3 _ s1 s2 s3 neg false (qH c1) 7 7 0 0 0 0 _ w hng KO KS1 KS2 KS3 (yE c1 lc1 (qH c1) rfl) (yE c2 lc2 7 (e27.2 (by omega))) (yE c3 lc3 7 (e37.2 (by omega))) (zK (Or.inr (Or.inl (Or.inr (Or.inr (Or.inr (⟨rfl,qP (fun q=>by have:=e14.1 q;omega),qP (fun q=>by have:=e18.1 q;omega),rfl,qP (fun q=>by have:=e19.1 q;omega),rfl,qP (fun q=>by have:=e17.1 q;omega),rfl,(by rw [sg];exact beq_self_eq_true neg),KI hv,rfl⟩))))))) hT
   ·
    rw [if_pos ⟨i3,sg⟩] at hr;injection hr with r1 r2;subst r1 r2
    by_cases i1:c1=0∨c1=7
    ·
     exact y9 f m x1 y1 x2 y2 x3 y3 u v c1 m1 X1 _ c2 m2 X2 _ c3 m3 X3 _ s1 s2 s3 neg false 7 (qH c2) 7 0 0 0 0 _ w hng KO KS1 KS2 KS3 (yE c1 lc1 7 (e17.2 (by omega))) (yE c2 lc2 (qH c2) rfl) (yE c3 lc3 7 (e37.2 (by omega))) (zK (Or.inl (Or.inr (Or.inr (Or.inr (Or.inr (Or.inr (Or.inr (Or.inr (Or.inr (Or.inr (Or.inr (Or.inr (Or.inr (Or.inl (⟨rfl,qP (fun q=>by have:=e24.1 q;omega),qP (fun q=>by have:=e28.1 q;omega),rfl,qP (fun q=>by have:=e29.1 q;omega),rfl,rfl,(by rw [beq_eq_false_iff_ne];exact sg),KN hv,rfl⟩)))))))))))))))) hT
    ·
     exact y9 f m x1 y1 x2 y2 x3 y3 u v c1 m1 X1 _ c2 m2 X2 _ c3 m3 X3 _ s1 s2 s3 neg false (qH c1) 7 7 0 0 0 0 _ w hng KO KS1 KS2 KS3 (yE c1 lc1 (qH c1) rfl) (yE c2 lc2 7 (e27.2 (by omega))) (yE c3 lc3 7 (e37.2 (by omega))) (zK (Or.inl (Or.inr (Or.inr (Or.inr (Or.inr (Or.inr (Or.inr (Or.inr (Or.inr (Or.inr (Or.inr (Or.inr (Or.inr (Or.inr (⟨rfl,qP (fun q=>by have:=e14.1 q;omega),qP (fun q=>by have:=e18.1 q;omega),rfl,qP (fun q=>by have:=e19.1 q;omega),rfl,qP (fun q=>by have:=e17.1 q;omega),rfl,(by rw [beq_eq_false_iff_ne];exact sg),KN hv,rfl⟩)))))))))))))))) hT
  ·
   rw [if_neg (fun q=>i3 q.1)] at hr;injection hr with r1 r2;subst r1 r2
   by_cases i1:c1=0∨c1=7
   ·
    exact y9 f m x1 y1 x2 y2 x3 y3 u v c1 m1 X1 _ c2 m2 X2 _ c3 m3 X3 _ s1 s2 s3 neg false 7 (qH c2) (qH c3) 0 0 0 0 _ w hng KO KS1 KS2 KS3 (yE c1 lc1 7 (e17.2 (by omega))) (yE c2 lc2 (qH c2) rfl) (yE c3 lc3 (qH c3) rfl) (zK (Or.inr (Or.inl (Or.inl (⟨rfl,qP (fun q=>by have:=e24.1 q;omega),qP (fun q=>by have:=e28.1 q;omega),qP (fun q=>by have:=e38.1 q;omega),qP (fun q=>by have:=e29.1 q;omega),qP (fun q=>by have:=e39.1 q;omega),qP (fun q=>by have:=e37.1 q;omega),KI hv,rfl⟩))))) hT
   ·
    exact y9 f m x1 y1 x2 y2 x3 y3 u v c1 m1 X1 _ c2 m2 X2 _ c3 m3 X3 _ s1 s2 s3 neg false (qH c1) 7 (qH c3) 0 0 0 0 _ w hng KO KS1 KS2 KS3 (yE c1 lc1 (qH c1) rfl) (yE c2 lc2 7 (e27.2 (by omega))) (yE c3 lc3 (qH c3) rfl) (zK (Or.inr (Or.inl (Or.inr (Or.inr (Or.inl (⟨rfl,qP (fun q=>by have:=e14.1 q;omega),qP (fun q=>by have:=e18.1 q;omega),qP (fun q=>by have:=e38.1 q;omega),qP (fun q=>by have:=e19.1 q;omega),qP (fun q=>by have:=e39.1 q;omega),qP (fun q=>by have:=e17.1 q;omega),qP (fun q=>by have:=e37.1 q;omega),KI hv,rfl⟩))))))) hT
 rw [if_neg d4] at hr
 by_cases d5:c3=0∨c3=7
 ·
  rw [if_pos d5] at hr;injection hr with r1 r2;subst r1 r2;obtain⟨v1,v2⟩:=bv_back15 hx3 hy3 hc hv;exact y9 f m x1 y1 x2 y2 x3 y3 u v c1 m1 X1 _ c2 m2 X2 _ c3 m3 X3 _ s1 s2 s3 neg false (qH c1) (qH c2) 7 0 0 0 0 _ w hng KO KS1 KS2 KS3 (yE c1 lc1 (qH c1) rfl) (yE c2 lc2 (qH c2) rfl) (yE c3 lc3 7 (e37.2 (by omega))) (zK (Or.inr (Or.inr (Or.inl (⟨qP (fun q=>by have:=e18.1 q;omega),qP (fun q=>by have:=e28.1 q;omega),qP (fun q=>by have:=e19.1 q;omega),qP (fun q=>by have:=e29.1 q;omega),qP (fun q=>by have:=e17.1 q;omega),qP (fun q=>by have:=e27.1 q;omega),rfl,v1,v2,rfl⟩))))) hT
 rw [if_neg d5] at hr;have fa:0<kC f a/\kC f a<7:=by omega
 have fb:0<kC f b/\kC f b<7:=by omega
 have fc:0<kC f c/\kC f c<7:=by omega
 have la:=kS_len hf a fa;have lb:=kS_len hf b fb;have lc:=kS_len hf c fc;obtain⟨xa1,xa2⟩:=kX_lim2 hf a;obtain⟨xb1,xb2⟩:=kX_lim2 hf b;obtain⟨xc1,xc2⟩:=kX_lim2 hf c;have l112:pV f<=112:=by rcases hf with rfl|rfl|rfl|rfl <;> decide
 have sm:=fmD_sum f m neg s3 (kS f a*kS f b) (kS f c) (kX f a+kX f b) (kX f c) (fmE f a b c) (prod_len la lb) (by omega) l112 rfl
 have hI:fmI f a b c=sI neg*((kS f a*kS f b*2 ^ (kX f a+kX f b-fmE f a b c).toNat:Nat):Int)+sI s3*((kS f c*2 ^ (kX f c-fmE f a b c).toNat:Nat):Int):=by
  unfold fmI
  rw [hs1,hs2,hs3,hng]
 rw [<-hI] at sm;rw [hm1,hm2,hm3,hX1,hX2,hX3] at sm;rw [hm1] at la;rw [hm2] at lb;rw [hm3] at lc;rw [hX1] at xa1 xa2;rw [hX2] at xb1 xb2;rw [hX3] at xc1 xc2;have pl:=prod_len la lb;obtain⟨low,hl⟩:∃ k,loF (m1*m2) (X1+X2) m3 X3=k:=⟨_,rfl⟩;rw [hl] at sm;obtain⟨ns,S,tr⟩:=totR_some m neg s3 (frmW (m1*m2) (X1+X2) low) (frmW m3 X3 low);have kt:=fun w=>ktot_is m neg s3 (m1*m2) m3 (X1+X2) X3 pl (by omega) (by omega) (by omega) (by omega) (by omega) low hl ns S tr w;obtain⟨SQ,w1,w2,_⟩:=kt w;have KL:=zK (fun w=>(kt w).2.2.2);clear kt;have Qm1:m1<Q:=p226 (by omega);have Qm2:m2<Q:=p226 (by omega);have KM:zZ 169 #[.agg (cw 6 m1),.agg (cw 6 m2)] (.tuple #[.agg (cw 6 (m1*m2)),.bool false]):=zK (fun w=>wmul_is m1 m2 _ false Qm1 Qm2 (Nat.mod_eq_of_lt (p226 pl)) (decide_eq_false (by have:=p226 pl;omega)) w);have KT:zZ 107 #[.bool neg,.agg (pt c1 m1 X1 (kF f a)),.agg (pt c2 m2 X2 (kF f b))] (.agg (rg neg (m1*m2) (X1+X2) false)):=zK (fun w=>fm_times neg c1 m1 X1 _ c2 m2 X2 _ _ _ false w KM (zQ _ (by omega) (by omega)))
 have KK:xS 37 #[.int .u8 f,.int .u8 m,.agg (rg ns S low false)] (.tuple #[.agg #[.int .u64 u,.int .u64 v],.int .u8 fl,.int .i64 0]):=by
  by_cases zz:(c1=3∨c1=4∨c2=3∨c2=4)/\(c3=3∨c3=4)
  ·
   rw [if_pos zz] at hr;have m3z:m3=0:=by rw [<-hm3];exact (k_null c (by omega)).1
   have mz:m1*m2=0:=by
    by_cases z1:c1=3∨c1=4
    ·
     rw [<-hm1,(k_null a (by omega)).1,Nat.zero_mul]
    ·
     rw [<-hm2,(k_null b (by omega)).1,Nat.mul_zero]
   rw [m3z,mz,frw_zero,frw_zero] at tr;have S0:S=0:=by rcases tr with ⟨e,n,hS⟩|⟨e,l,n,hS⟩|⟨e,l,n,hS⟩|⟨e,l,n,hS⟩ <;> omega
   have hM:x8 f ns=M/\fl=0:=by
    by_cases e:s3=neg
    ·
     rw [if_pos e] at hr;injection hr with r1 r2;refine ⟨?_,r2.symm⟩
     have n1:ns=neg:=by
      rcases tr with ⟨e2,n,hS⟩|⟨e2,l,n,hS⟩|⟨e2,l,n,hS⟩|⟨e2,l,n,hS⟩
      ·
       exact n
      ·
       exact absurd e.symm e2
      ·
       exact absurd e.symm e2
      ·
       exact absurd e.symm e2
     obtain⟨k1,k2,k3⟩:=kM_zero f c (by omega);have ke:=k_enc hf (okB_yes (yW hf).1 oc).2;rw [k2,k3,hs3,e] at ke;rw [n1,<-r1];exact ke
    ·
     rw [if_neg e] at hr;injection hr with r1 r2;refine ⟨?_,r2.symm⟩
     rcases tr with ⟨e2,n,hS⟩|⟨e2,l,n,hS⟩|⟨e2,l,n,hS⟩|⟨e2,l,n,hS⟩
     ·
      exact absurd e2.symm e
     ·
      exact absurd l (by omega)
     ·
      exact absurd l (by omega)
     ·
      rw [n];exact r1
   rw [S0,hM.2];exact zK (fun w hT=>kPack_zero f m hf hm ns low (by omega) (by omega) u v (by rw [hM.1];exact hv) w hT)
  ·
   rw [if_neg zz,<-sm] at hr
   rw [totR_D f m neg s3 _ _ ns S low tr (fun S0 e=>by
    have z2:frmW (m1*m2) (X1+X2) low=0/\frmW m3 X3 low=0:=by rcases tr with ⟨e2,n,hS⟩|⟨e2,l,n,hS⟩|⟨e2,l,n,hS⟩|⟨e2,l,n,hS⟩ <;> first|omega|exact absurd e e2
    have y1:m1*m2=0:=by
     rcases Nat.eq_zero_or_pos (m1*m2) with q|q
     ·
      exact q
     ·
      exact absurd z2.1 (frw_pos _ _ _ (by omega))
    have y2:m3=0:=by
     rcases Nat.eq_zero_or_pos m3 with q|q
     ·
      exact q
     ·
      exact absurd z2.2 (frw_pos _ _ _ (by omega))
    apply zz
    have np:∀ (n:Nat),0<kC f n/\kC f n<7->kS f n=0->kC f n=3∨kC f n=4:=fun n h1 h2=>by
     rcases Nat.lt_or_ge 0 1 with _|q
     ·
      by_cases z:kC f n=3∨kC f n=4
      ·
       exact z
      ·
       exact absurd h2 (k_parts n (by omega)).2.2.2
     ·
      omega
    have z3:=np c fc (by rw [hm3];exact y2)
    rcases Nat.mul_eq_zero.1 y1 with q|q
    ·
     have:=np a fa (by rw [hm1];exact q)
     omega
    ·
     have:=np b fb (by rw [hm2];exact q)
     omega)] at hr
   by_cases S0:S=0
   ·
    rw [if_pos S0] at hr;injection hr with r1 r2;subst r1 r2;rw [S0];exact zK (fun w hT=>kPack_zero f m hf hm ns low (by omega) (by omega) u v hv w hT)
   ·
    rw [if_neg S0] at hr;exact zK (fun w hT=>kPack_is f m hf hm ns S SQ S0 low false (by omega) (by omega) (fun h=>Bool.noConfusion h) M fl hr u v hv w hT)
 exact y9 f m x1 y1 x2 y2 x3 y3 u v c1 m1 X1 _ c2 m2 X2 _ c3 m3 X3 _ s1 s2 s3 neg ns (qH c1) (qH c2) (qH c3) (m1*m2) (X1+X2) S low fl w hng KO KS1 KS2 KS3 (yE c1 lc1 (qH c1) rfl) (yE c2 lc2 (qH c2) rfl) (yE c3 lc3 (qH c3) rfl) (zK (Or.inr (Or.inr (Or.inr ((⟨qP (fun q=>by have:=e18.1 q;omega),qP (fun q=>by have:=e28.1 q;omega),qP (fun q=>by have:=e19.1 q;omega),qP (fun q=>by have:=e29.1 q;omega),qP (fun q=>by have:=e17.1 q;omega),qP (fun q=>by have:=e27.1 q;omega),qP (fun q=>by have:=e38.1 q;omega),qP (fun q=>by have:=e39.1 q;omega),qP (fun q=>by have:=e37.1 q;omega),KT,KL,KK⟩)))))) hT
theorem kFma_is (f m:Int)(hf:y7 f)(hm:0<=m/\m<=4)(x1 y1 a x2 y2 b x3 y3 c:Nat)(hx1:x1<18446744073709551616)(hy1:y1<18446744073709551616)(hx2:x2<18446744073709551616)(hy2:y2<18446744073709551616)(hx3:x3<18446744073709551616)(hy3:y3<18446744073709551616)(ha:y1+18446744073709551616*x1=a)(hb:y2+18446744073709551616*x2=b)(hc:y3+18446744073709551616*x3=c)
  (oa:okB f a=true) (ob:okB f b=true) (oc:okB f c=true) (M:Nat) (fl:Int) (hr:fmaR f m a b c=(M,fl)) (u v:Nat) (hv:qF M=(u,v)) (w:World) (hT:xJ w) :
  Calls Tryz.prog 12 #[.int .u8 f,.int .u8 m,.agg #[.int .u64 x1,.int .u64 y1],.agg #[.int .u64 x2,.int .u64 y2],.agg #[.int .u64 x3,.int .u64 y3]] w fun r w'=>r=.returned (.tuple #[.agg #[.int .u64 u,.int .u64 v],.int .u8 fl,.int .i64 0])/\Below w.heap.size w w':=
 fm_MulAdd_yes f m x1 y1 x2 y2 x3 y3 u v fl w (kmay3 f m (yW hf).1 (yW hf).2.1 hm.1 x1 y1 a x2 y2 b x3 y3 c hx1 hy1 hx2 hy2 hx3 hy3 ha hb hc true (by rw [oa,ob,oc,decide_eq_true (show f<=3/\m<=4 from ⟨is4_le hf,hm.2⟩)];rfl)) (zK (fun w hT=>kfused_is f m hf hm x1 y1 a x2 y2 b x3 y3 c hx1 hy1 hx2 hy2 hx3 hy3 ha hb hc oa ob oc M fl hr u v hv w hT)) hT
theorem al15:fmaR 2 0 16384 16896 48128=(17664,0)/\okB 2 16384=true/\okB 2 16896=true/\okB 2 48128=true:=by decide +kernel
theorem r15alive (w:World)(hT:xJ w):Calls Tryz.prog 14 #[] w fun r w'=>r=.returned (.bool true)/\Below w.heap.size w w':=by
 have FF:=zK hT;have K1:xS 12 #[.int .u8 2,.int .u8 0,.agg #[.int .u64 0,.int .u64 16384],.agg #[.int .u64 0,.int .u64 16896],.agg #[.int .u64 0,.int .u64 48128]] (.tuple #[.agg #[.int .u64 0,.int .u64 17664],.int .u8 0,.int .i64 0]):=zK (fun w hT=>kFma_is 2 0 (by unfold y7;omega) (by decide) 0 16384 16384 0 16896 16896 0 48128 48128 (by decide) (by decide) (by decide) (by decide) (by decide) (by decide) rfl rfl rfl al15.2.1 al15.2.2.1 al15.2.2.2 _ _ al15.1 0 17664 rfl w hT);clear hT;have B0:Below w.heap.size w w:=(Below.refl _ _)
 go_enter Tryz.func14,Tryz.ntmps14
 go_wp2_with fail
 refine (K1.out _ (yC FF.out B0)).mono ?_;rintro r w1 ⟨rfl,b1⟩;have B1:=zV B0 b1;clear b1 B0;have S2:=zK B1.size;have Aa:=heap_alloc_last w1 (Obj.cells #[.int .u64 0,.int .u64 17664] 26);have B2:=zV B1 (yP w1 (Obj.cells #[.int .u64 0,.int .u64 17664] 26));clear B1;obtain⟨Ab,Ac⟩:=zE Aa;go_wp2
 go_ret
 exact⟨rfl,B2⟩
theorem may3_no {f m:Int} {a b c:Nat} (h:¬ ((f<=3/\m<=4)/\okB f a=true/\okB f b=true/\okB f c=true)):(decide (f<=3/\m<=4) && okB f a && okB f b && okB f c)=false:=by
 rw [Bool.eq_false_iff];intro q;rw [Bool.and_eq_true,Bool.and_eq_true,Bool.and_eq_true,decide_eq_true_iff] at q;exact h ⟨q.1.1.1,q.1.1.2,q.1.2,q.2⟩
theorem both_fma (f m:Int)(h0:0<=f)(h1:f<=255)(m0:0<=m)(x1 y1 x2 y2 x3 y3:Nat)(hx1:x1<18446744073709551616)(hy1:y1<18446744073709551616)(hx2:x2<18446744073709551616)(hy2:y2<18446744073709551616)(hx3:x3<18446744073709551616)(hy3:y3<18446744073709551616):∃ (u v:Nat) (fl e:Int),xS 12 #[.int .u8 f,.int .u8 m,.agg #[.int .u64 x1,.int .u64 y1],.agg #[.int .u64 x2,.int .u64 y2],.agg #[.int .u64 x3,.int .u64 y3]] (.tuple #[.agg #[.int .u64 u,.int .u64 v],.int .u8 fl,.int .i64 e])/\zZ 13 #[.int .u8 f,.int .u8 m,.agg #[.int .u64 x1,.int .u64 y1],.agg #[.int .u64 x2,.int .u64 y2],.agg #[.int .u64 x3,.int .u64 y3]] (.tuple #[.agg #[.int .u64 u,.int .u64 v],.int .u8 fl,.int .i64 e])/\IntKind.i64.wrap e=e:=by
 obtain⟨a,ha⟩:∃ a,y1+18446744073709551616*x1=a:=⟨_,rfl⟩;obtain⟨b,hb⟩:∃ b,y2+18446744073709551616*x2=b:=⟨_,rfl⟩;obtain⟨c,hc⟩:∃ c,y3+18446744073709551616*x3=c:=⟨_,rfl⟩
 by_cases h:(f<=3/\m<=4)/\okB f a=true/\okB f b=true/\okB f c=true
 ·
  obtain⟨⟨c1,c2⟩,oa,ob,oc⟩:=h;have hf:=is4_of h0 c1;obtain⟨M,fl,hr⟩:∃ M fl,fmaR f m a b c=(M,fl):=⟨_,_,rfl⟩;obtain⟨u,v,hv⟩:∃ u v,qF M=(u,v):=⟨_,_,rfl⟩;exact⟨u,v,fl,0,zK (fun w hT=>kFma_is f m hf ⟨m0,c2⟩ x1 y1 a x2 y2 b x3 y3 c hx1 hy1 hx2 hy2 hx3 hy3 ha hb hc oa ob oc M fl hr u v hv w hT),zK (fun w=>rFma_is f m hf ⟨m0,c2⟩ x1 y1 a x2 y2 b x3 y3 c hx1 hy1 hx2 hy2 hx3 hy3 ha hb hc oa ob oc M fl hr u v hv w),by decide⟩
 ·
  exact⟨0,0,0,2,zK (fun w hT=>fm_MulAdd_no f m x1 y1 x2 y2 x3 y3 w (kmay3 f m h0 h1 m0 x1 y1 a x2 y2 b x3 y3 c hx1 hy1 hx2 hy2 hx3 hy3 ha hb hc false (may3_no h)) hT),zK (fun w=>rfm_no f m x1 y1 x2 y2 x3 y3 w (rfit3r f m h0 x1 y1 a x2 y2 b x3 y3 c hx1 hy1 hx2 hy2 hx3 hy3 ha hb hc false (may3_no h))),by decide⟩
end Go.Proofs.YtapikkbifdldfaaGreatDoor
