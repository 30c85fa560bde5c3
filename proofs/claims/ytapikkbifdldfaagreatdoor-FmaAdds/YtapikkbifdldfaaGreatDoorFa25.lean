/-
  What the functions that the statement reaches return: part 25 (F3, F8).
-/
import Derived.Test.YtapikkbifdldfaaGreatDoorFa24
namespace Go.Proofs.YtapikkbifdldfaaGreatDoor
set_option maxRecDepth 100000
set_option maxHeartbeats 40000000
open Go.RowKit WMath XMath
set_option linter.unusedSimpArgs false
set_option linter.unusedVariables false
theorem bv_back3 {x y n u v:Nat} (hx:x<18446744073709551616)(hy:y<18446744073709551616)(hn:y+18446744073709551616*x=n)(hv:qF n=(u,v)):x=u/\y=v:=by
 unfold qF at hv
 injection hv with h1 h2;omega
theorem rFma_is (f m:Int)(hf:y7 f)(hm:0<=m/\m<=4)(x1 y1 a x2 y2 b x3 y3 c:Nat)(hx1:x1<18446744073709551616)(hy1:y1<18446744073709551616)(hx2:x2<18446744073709551616)(hy2:y2<18446744073709551616)(hx3:x3<18446744073709551616)(hy3:y3<18446744073709551616)(ha:y1+18446744073709551616*x1=a)(hb:y2+18446744073709551616*x2=b)(hc:y3+18446744073709551616*x3=c)
  (oa:okB f a=true) (ob:okB f b=true) (oc:okB f c=true) (M:Nat) (fl:Int) (hr:fmaR f m a b c=(M,fl)) (u v:Nat) (hv:qF M=(u,v)) (w:World) :
  Calls Tryz.prog 13 #[.int .u8 f,.int .u8 m,.agg #[.int .u64 x1,.int .u64 y1],.agg #[.int .u64 x2,.int .u64 y2],.agg #[.int .u64 x3,.int .u64 y3]] w fun r w'=>r=.returned (.tuple #[.agg #[.int .u64 u,.int .u64 v],.int .u8 fl,.int .i64 0])/\Below w.heap.size w w':=by
 have h0:=(yW hf).1;have fa:=(okB_yes h0 oa).2;have fb:=(okB_yes h0 ob).2;have fc:=(okB_yes h0 oc).2;have KF:=rfit3r f m h0 x1 y1 a x2 y2 b x3 y3 c hx1 hy1 hx2 hy2 hx3 hy3 ha hb hc true (by rw [oa,ob,oc,decide_eq_true (show f<=3/\m<=4 from ⟨is4_le hf,hm.2⟩)];rfl);obtain⟨c1,Aa⟩:∃ q,kC f a=q:=⟨_,rfl⟩;have lc1:c1<=9:=by rw [<-Aa];have:=kC_lt f a;omega
 obtain⟨s1,hs1⟩:∃ q,kN f a=q:=⟨_,rfl⟩;have KN1:∀ o,decide (8<=c1)=o->zZ 41 #[.int .u8 f,.agg #[.int .u64 x1,.int .u64 y1]] (.bool o):=fun o h=>zK (fun w=>rNaN_is f hf x1 y1 a c1 o hx1 hy1 ha fa Aa h w);have KI1:∀ o,decide (c1=0∨c1=7)=o->zZ 31 #[.int .u8 f,.agg #[.int .u64 x1,.int .u64 y1]] (.bool o):=fun o h=>zK (fun w=>rInf_is f hf x1 y1 a c1 o hx1 hy1 ha fa Aa (by rw [<-Bool.decide_or];exact h) w);have KZ1:∀ o,decide (c1=3∨c1=4)=o->zZ 44 #[.int .u8 f,.agg #[.int .u64 x1,.int .u64 y1]] (.bool o):=fun o h=>zK (fun w=>rZero_is f hf x1 y1 a c1 o hx1 hy1 ha fa Aa (by rw [<-Bool.decide_or];exact h) w);have KS1:zZ 43 #[.int .u8 f,.agg #[.int .u64 x1,.int .u64 y1]] (.bool s1):=zK (fun w=>rSign_yes f hf x1 y1 a s1 hx1 hy1 ha oa hs1 w);obtain⟨c2,Ab⟩:∃ q,kC f b=q:=⟨_,rfl⟩;have lc2:c2<=9:=by rw [<-Ab];have:=kC_lt f b;omega
 obtain⟨s2,hs2⟩:∃ q,kN f b=q:=⟨_,rfl⟩;have KN2:∀ o,decide (8<=c2)=o->zZ 41 #[.int .u8 f,.agg #[.int .u64 x2,.int .u64 y2]] (.bool o):=fun o h=>zK (fun w=>rNaN_is f hf x2 y2 b c2 o hx2 hy2 hb fb Ab h w);have KI2:∀ o,decide (c2=0∨c2=7)=o->zZ 31 #[.int .u8 f,.agg #[.int .u64 x2,.int .u64 y2]] (.bool o):=fun o h=>zK (fun w=>rInf_is f hf x2 y2 b c2 o hx2 hy2 hb fb Ab (by rw [<-Bool.decide_or];exact h) w);have KZ2:∀ o,decide (c2=3∨c2=4)=o->zZ 44 #[.int .u8 f,.agg #[.int .u64 x2,.int .u64 y2]] (.bool o):=fun o h=>zK (fun w=>rZero_is f hf x2 y2 b c2 o hx2 hy2 hb fb Ab (by rw [<-Bool.decide_or];exact h) w);have KS2:zZ 43 #[.int .u8 f,.agg #[.int .u64 x2,.int .u64 y2]] (.bool s2):=zK (fun w=>rSign_yes f hf x2 y2 b s2 hx2 hy2 hb ob hs2 w);obtain⟨c3,Ac⟩:∃ q,kC f c=q:=⟨_,rfl⟩;have lc3:c3<=9:=by rw [<-Ac];have:=kC_lt f c;omega
 obtain⟨s3,hs3⟩:∃ q,kN f c=q:=⟨_,rfl⟩;have KN3:∀ o,decide (8<=c3)=o->zZ 41 #[.int .u8 f,.agg #[.int .u64 x3,.int .u64 y3]] (.bool o):=fun o h=>zK (fun w=>rNaN_is f hf x3 y3 c c3 o hx3 hy3 hc fc Ac h w);have KI3:∀ o,decide (c3=0∨c3=7)=o->zZ 31 #[.int .u8 f,.agg #[.int .u64 x3,.int .u64 y3]] (.bool o):=fun o h=>zK (fun w=>rInf_is f hf x3 y3 c c3 o hx3 hy3 hc fc Ac (by rw [<-Bool.decide_or];exact h) w);have KZ3:∀ o,decide (c3=3∨c3=4)=o->zZ 44 #[.int .u8 f,.agg #[.int .u64 x3,.int .u64 y3]] (.bool o):=fun o h=>zK (fun w=>rZero_is f hf x3 y3 c c3 o hx3 hy3 hc fc Ac (by rw [<-Bool.decide_or];exact h) w);have KS3:zZ 43 #[.int .u8 f,.agg #[.int .u64 x3,.int .u64 y3]] (.bool s3):=zK (fun w=>rSign_yes f hf x3 y3 c s3 hx3 hy3 hc oc hs3 w);obtain⟨neg,hng⟩:∃ q,(s1 != s2)=q:=⟨_,rfl⟩
 have KRN:qF (eNaN f)=(u,v)->zZ 45 #[.int .u8 f] (.agg #[.int .u64 u,.int .u64 v]):=fun h=>zK (fun w=>by
  have:=r_nan f hf _ rfl w
  rw [h] at this;exact this)
 have KRI:qF (eInf f neg)=(u,v)->zZ 46 #[.int .u8 f,.bool neg] (.agg #[.int .u64 u,.int .u64 v]):=fun h=>zK (fun w=>by
  have:=r_inf f neg hf _ rfl w
  rw [h] at this;exact this)
 have KNO:qF (x8 f (decide (m=2)))=(u,v)->zZ 52 #[.int .u8 f,.int .u8 m] (.agg #[.int .u64 u,.int .u64 v]):=fun h=>zK (fun w=>r_nought f m (decide (m=2)) rfl u v w (zK (fun w=>by
  have:=r_zero f (decide (m=2)) hf _ rfl w
  rw [h] at this;exact this)))
 have H2I:(c1=0∨c1=7∨c2=0∨c2=7)->zY ((zZ 31 #[.int .u8 f,.agg #[.int .u64 x1,.int .u64 y1]] (.bool true))∨(zZ 31 #[.int .u8 f,.agg #[.int .u64 x1,.int .u64 y1]] (.bool false)/\zZ 31 #[.int .u8 f,.agg #[.int .u64 x2,.int .u64 y2]] (.bool true))):=fun h=>by
  by_cases i:c1=0∨c1=7
  ·
   exact zK (Or.inl (KI1 true (decide_eq_true i)))
  ·
   exact zK (Or.inr ⟨KI1 false (decide_eq_false i),KI2 true (decide_eq_true (by omega))⟩)
 have H2Z:(c1=3∨c1=4∨c2=3∨c2=4)->zY ((zZ 44 #[.int .u8 f,.agg #[.int .u64 x1,.int .u64 y1]] (.bool true))∨(zZ 44 #[.int .u8 f,.agg #[.int .u64 x1,.int .u64 y1]] (.bool false)/\zZ 44 #[.int .u8 f,.agg #[.int .u64 x2,.int .u64 y2]] (.bool true))):=fun h=>by
  by_cases i:c1=3∨c1=4
  ·
   exact zK (Or.inl (KZ1 true (decide_eq_true i)))
  ·
   exact zK (Or.inr ⟨KZ1 false (decide_eq_false i),KZ2 true (decide_eq_true (by omega))⟩)
 unfold fmaR at hr
 rw [Aa,Ab,Ac,hs1,hs2,hs3,hng] at hr
 by_cases d1:(c1=0∨c1=7∨c2=0∨c2=7)/\(c1=3∨c1=4∨c2=3∨c2=4)
 ·
  rw [if_pos d1] at hr;injection hr with r1 r2;subst r1 r2
  by_cases i:c1=0∨c1=7
  ·
   exact rfm_iz f m x1 y1 x2 y2 x3 y3 u v _ w KF (zK (Or.inl ⟨KI1 true (decide_eq_true i),KZ1 false (decide_eq_false (by omega)),KZ2 true (decide_eq_true (by omega)),KRN hv,rfl⟩))
  ·
   exact rfm_iz f m x1 y1 x2 y2 x3 y3 u v _ w KF (zK (Or.inr ⟨KI1 false (decide_eq_false (by omega)),KI2 true (decide_eq_true (by omega)),KZ1 true (decide_eq_true (by omega)),KRN hv,rfl⟩))
 rw [if_neg d1] at hr
 by_cases n0:8<=c1∨8<=c2∨8<=c3
 ·
  have hM:M=eNaN f/\(if c1=8∨c2=8∨c3=8 then (16:Int) else 0)=fl:=by
   by_cases s0:c1=8∨c2=8∨c3=8
   ·
    rw [if_pos s0] at hr ⊢;injection hr with r1 r2;exact⟨r1.symm,r2⟩
   ·
    rw [if_neg s0,if_pos (by omega)] at hr;rw [if_neg s0];injection hr with r1 r2;exact⟨r1.symm,r2⟩
  have KC:=rcan3r f hf x1 y1 a x2 y2 b x3 y3 c hx1 hy1 hx2 hy2 hx3 hy3 ha hb hc fa fb fc fl (by rw [Aa,Ab,Ac];exact hM.2) u v (by rw [<-hM.1];exact hv)
  by_cases gi:c1=0∨c1=7∨c2=0∨c2=7
  ·
   by_cases n1:8<=c1
   ·
    exact rfm_inf f m x1 y1 x2 y2 x3 y3 u v fl s1 s2 s3 neg hng w KF (KZ1 false (decide_eq_false (by omega))) (KZ2 false (decide_eq_false (by omega))) (H2I gi) (zK (Or.inl ⟨KN1 true (decide_eq_true n1),KC⟩))
   by_cases n2:8<=c2
   ·
    exact rfm_inf f m x1 y1 x2 y2 x3 y3 u v fl s1 s2 s3 neg hng w KF (KZ1 false (decide_eq_false (by omega))) (KZ2 false (decide_eq_false (by omega))) (H2I gi) (zK (Or.inr ⟨KN1 false (decide_eq_false (by omega)),zK (Or.inl ⟨KN2 true (decide_eq_true n2),KC⟩)⟩))
   ·
    exact rfm_inf f m x1 y1 x2 y2 x3 y3 u v fl s1 s2 s3 neg hng w KF (KZ1 false (decide_eq_false (by omega))) (KZ2 false (decide_eq_false (by omega))) (H2I gi) (zK (Or.inr ⟨KN1 false (decide_eq_false (by omega)),zK (Or.inr ⟨KN2 false (decide_eq_false (by omega)),zK (Or.inl ⟨KN3 true (decide_eq_true (by omega)),KC⟩)⟩)⟩))
  by_cases gz:c1=3∨c1=4∨c2=3∨c2=4
  ·
   by_cases n1:8<=c1
   ·
    exact rfm_zero f m x1 y1 x2 y2 x3 y3 u v fl s1 s2 s3 neg hng false ⟨#[]⟩ ⟨#[]⟩ 0 false ⟨#[]⟩ ⟨#[]⟩ 0 false ⟨#[]⟩ ⟨#[]⟩ 0 false ⟨#[]⟩ ⟨#[]⟩ 0 false ⟨#[]⟩ ⟨#[]⟩ 0 w KF (KI1 false (decide_eq_false (by omega))) (KI2 false (decide_eq_false (by omega))) (H2Z gz) (zK (Or.inl ⟨KN1 true (decide_eq_true n1),KC⟩))
   by_cases n2:8<=c2
   ·
    exact rfm_zero f m x1 y1 x2 y2 x3 y3 u v fl s1 s2 s3 neg hng false ⟨#[]⟩ ⟨#[]⟩ 0 false ⟨#[]⟩ ⟨#[]⟩ 0 false ⟨#[]⟩ ⟨#[]⟩ 0 false ⟨#[]⟩ ⟨#[]⟩ 0 false ⟨#[]⟩ ⟨#[]⟩ 0 w KF (KI1 false (decide_eq_false (by omega))) (KI2 false (decide_eq_false (by omega))) (H2Z gz) (zK (Or.inr ⟨KN1 false (decide_eq_false (by omega)),zK (Or.inl ⟨KN2 true (decide_eq_true n2),KC⟩)⟩))
   ·
    exact rfm_zero f m x1 y1 x2 y2 x3 y3 u v fl s1 s2 s3 neg hng false ⟨#[]⟩ ⟨#[]⟩ 0 false ⟨#[]⟩ ⟨#[]⟩ 0 false ⟨#[]⟩ ⟨#[]⟩ 0 false ⟨#[]⟩ ⟨#[]⟩ 0 false ⟨#[]⟩ ⟨#[]⟩ 0 w KF (KI1 false (decide_eq_false (by omega))) (KI2 false (decide_eq_false (by omega))) (H2Z gz) (zK (Or.inr ⟨KN1 false (decide_eq_false (by omega)),zK (Or.inr ⟨KN2 false (decide_eq_false (by omega)),zK (Or.inl ⟨KN3 true (decide_eq_true (by omega)),KC⟩)⟩)⟩))
  ·
   by_cases n1:8<=c1
   ·
    exact rfm_fin f m x1 y1 x2 y2 x3 y3 u v fl s1 s2 s3 neg hng false ⟨#[]⟩ ⟨#[]⟩ 0 false ⟨#[]⟩ ⟨#[]⟩ 0 false ⟨#[]⟩ ⟨#[]⟩ 0 false ⟨#[]⟩ ⟨#[]⟩ 0 false ⟨#[]⟩ ⟨#[]⟩ 0 w KF (KI1 false (decide_eq_false (by omega))) (KI2 false (decide_eq_false (by omega))) (KZ1 false (decide_eq_false (by omega))) (KZ2 false (decide_eq_false (by omega))) (zK (Or.inl ⟨KN1 true (decide_eq_true n1),KC⟩))
   by_cases n2:8<=c2
   ·
    exact rfm_fin f m x1 y1 x2 y2 x3 y3 u v fl s1 s2 s3 neg hng false ⟨#[]⟩ ⟨#[]⟩ 0 false ⟨#[]⟩ ⟨#[]⟩ 0 false ⟨#[]⟩ ⟨#[]⟩ 0 false ⟨#[]⟩ ⟨#[]⟩ 0 false ⟨#[]⟩ ⟨#[]⟩ 0 w KF (KI1 false (decide_eq_false (by omega))) (KI2 false (decide_eq_false (by omega))) (KZ1 false (decide_eq_false (by omega))) (KZ2 false (decide_eq_false (by omega))) (zK (Or.inr ⟨KN1 false (decide_eq_false (by omega)),zK (Or.inl ⟨KN2 true (decide_eq_true n2),KC⟩)⟩))
   ·
    exact rfm_fin f m x1 y1 x2 y2 x3 y3 u v fl s1 s2 s3 neg hng false ⟨#[]⟩ ⟨#[]⟩ 0 false ⟨#[]⟩ ⟨#[]⟩ 0 false ⟨#[]⟩ ⟨#[]⟩ 0 false ⟨#[]⟩ ⟨#[]⟩ 0 false ⟨#[]⟩ ⟨#[]⟩ 0 w KF (KI1 false (decide_eq_false (by omega))) (KI2 false (decide_eq_false (by omega))) (KZ1 false (decide_eq_false (by omega))) (KZ2 false (decide_eq_false (by omega))) (zK (Or.inr ⟨KN1 false (decide_eq_false (by omega)),zK (Or.inr ⟨KN2 false (decide_eq_false (by omega)),zK (Or.inl ⟨KN3 true (decide_eq_true (by omega)),KC⟩)⟩)⟩))
 rw [if_neg (by omega),if_neg (by omega)] at hr;have KN1:=KN1 false (decide_eq_false (by omega));have KN2:=KN2 false (decide_eq_false (by omega));have KN3:=KN3 false (decide_eq_false (by omega))
 by_cases gi:c1=0∨c1=7∨c2=0∨c2=7
 ·
  rw [if_pos gi] at hr
  by_cases ci:(c3=0∨c3=7)/\s3≠neg
  ·
   rw [if_pos ci] at hr;injection hr with r1 r2;subst r1 r2;exact rfm_inf f m x1 y1 x2 y2 x3 y3 u v _ s1 s2 s3 neg hng w KF (KZ1 false (decide_eq_false (by omega))) (KZ2 false (decide_eq_false (by omega))) (H2I gi) (zK (Or.inr ⟨KN1,zK (Or.inr ⟨KN2,zK (Or.inr ⟨KN3,KS1,KS2,zK (Or.inl ⟨KI3 true (decide_eq_true ci.1),KS3,by cases s3 <;> cases neg <;> first|rfl|exact absurd rfl ci.2,KRN hv,rfl⟩)⟩)⟩)⟩))
  rw [if_neg ci] at hr;injection hr with r1 r2;subst r1 r2
  by_cases i3:c3=0∨c3=7
  ·
   exact rfm_inf f m x1 y1 x2 y2 x3 y3 u v _ s1 s2 s3 neg hng w KF (KZ1 false (decide_eq_false (by omega))) (KZ2 false (decide_eq_false (by omega))) (H2I gi) (zK (Or.inr ⟨KN1,zK (Or.inr ⟨KN2,zK (Or.inr ⟨KN3,KS1,KS2,zK (Or.inr (Or.inl ⟨KI3 true (decide_eq_true i3),KS3,by cases s3 <;> cases neg <;> first|rfl|exact absurd ⟨i3,by decide⟩ ci,KRI hv,rfl⟩))⟩)⟩)⟩))
  ·
   exact rfm_inf f m x1 y1 x2 y2 x3 y3 u v _ s1 s2 s3 neg hng w KF (KZ1 false (decide_eq_false (by omega))) (KZ2 false (decide_eq_false (by omega))) (H2I gi) (zK (Or.inr ⟨KN1,zK (Or.inr ⟨KN2,zK (Or.inr ⟨KN3,KS1,KS2,zK (Or.inr (Or.inr ⟨KI3 false (decide_eq_false i3),KRI hv,rfl⟩))⟩)⟩)⟩))
 rw [if_neg gi] at hr
 by_cases i3:c3=0∨c3=7
 ·
  rw [if_pos i3] at hr;injection hr with r1 r2;subst r1 r2;obtain⟨v1,v2⟩:=bv_back3 hx3 hy3 hc hv
  by_cases gz:c1=3∨c1=4∨c2=3∨c2=4
  ·
   exact rfm_zero f m x1 y1 x2 y2 x3 y3 u v _ s1 s2 s3 neg hng false ⟨#[]⟩ ⟨#[]⟩ 0 false ⟨#[]⟩ ⟨#[]⟩ 0 false ⟨#[]⟩ ⟨#[]⟩ 0 false ⟨#[]⟩ ⟨#[]⟩ 0 false ⟨#[]⟩ ⟨#[]⟩ 0 w KF (KI1 false (decide_eq_false (by omega))) (KI2 false (decide_eq_false (by omega))) (H2Z gz) (zK (Or.inr ⟨KN1,zK (Or.inr ⟨KN2,zK (Or.inr ⟨KN3,KS1,KS2,zK (Or.inl ⟨KI3 true (decide_eq_true i3),v1,v2,rfl⟩)⟩)⟩)⟩))
  ·
   exact rfm_fin f m x1 y1 x2 y2 x3 y3 u v _ s1 s2 s3 neg hng false ⟨#[]⟩ ⟨#[]⟩ 0 false ⟨#[]⟩ ⟨#[]⟩ 0 false ⟨#[]⟩ ⟨#[]⟩ 0 false ⟨#[]⟩ ⟨#[]⟩ 0 false ⟨#[]⟩ ⟨#[]⟩ 0 w KF (KI1 false (decide_eq_false (by omega))) (KI2 false (decide_eq_false (by omega))) (KZ1 false (decide_eq_false (by omega))) (KZ2 false (decide_eq_false (by omega))) (zK (Or.inr ⟨KN1,zK (Or.inr ⟨KN2,zK (Or.inr ⟨KN3,KS1,KS2,zK (Or.inl ⟨KI3 true (decide_eq_true i3),v1,v2,rfl⟩)⟩)⟩)⟩))
 rw [if_neg i3] at hr;have KI3:=KI3 false (decide_eq_false i3)
 by_cases zz:(c1=3∨c1=4∨c2=3∨c2=4)/\(c3=3∨c3=4)
 ·
  rw [if_pos zz] at hr;have gz:=zz.1
  by_cases e:s3=neg
  ·
   rw [if_pos e] at hr;injection hr with r1 r2;subst r1 r2;obtain⟨v1,v2⟩:=bv_back3 hx3 hy3 hc hv;exact rfm_zero f m x1 y1 x2 y2 x3 y3 u v _ s1 s2 s3 neg hng false ⟨#[]⟩ ⟨#[]⟩ 0 false ⟨#[]⟩ ⟨#[]⟩ 0 false ⟨#[]⟩ ⟨#[]⟩ 0 false ⟨#[]⟩ ⟨#[]⟩ 0 false ⟨#[]⟩ ⟨#[]⟩ 0 w KF (KI1 false (decide_eq_false (by omega))) (KI2 false (decide_eq_false (by omega))) (H2Z gz) (zK (Or.inr ⟨KN1,zK (Or.inr ⟨KN2,zK (Or.inr ⟨KN3,KS1,KS2,zK (Or.inr ⟨KI3,zK (Or.inl ⟨KZ3 true (decide_eq_true zz.2),KS3,by rw [e];cases neg <;> rfl,v1,v2,rfl⟩)⟩)⟩)⟩)⟩))
  ·
   rw [if_neg e] at hr;injection hr with r1 r2;subst r1 r2;exact rfm_zero f m x1 y1 x2 y2 x3 y3 u v _ s1 s2 s3 neg hng false ⟨#[]⟩ ⟨#[]⟩ 0 false ⟨#[]⟩ ⟨#[]⟩ 0 false ⟨#[]⟩ ⟨#[]⟩ 0 false ⟨#[]⟩ ⟨#[]⟩ 0 false ⟨#[]⟩ ⟨#[]⟩ 0 w KF (KI1 false (decide_eq_false (by omega))) (KI2 false (decide_eq_false (by omega))) (H2Z gz) (zK (Or.inr ⟨KN1,zK (Or.inr ⟨KN2,zK (Or.inr ⟨KN3,KS1,KS2,zK (Or.inr ⟨KI3,zK (Or.inr (Or.inl ⟨KZ3 true (decide_eq_true zz.2),KS3,by cases s3 <;> cases neg <;> first|rfl|exact absurd rfl e,KNO hv,rfl⟩))⟩)⟩)⟩)⟩))
 rw [if_neg zz] at hr;obtain⟨P,zb,zn,ze,p1,p2,p3,p4,p5,p6,p7⟩:=fm_doc hf m a b c (by omega) (by omega) (by omega);have va:=(fin_val hf a (by omega)).1;have vb:=(fin_val hf b (by omega)).1;have vc:=(fin_val hf c (by omega)).1;obtain⟨pb,pn,pd,pe⟩:=P;obtain⟨b1,n1,d1',e1,e1'⟩:∃ b1 n1 d1 e1,vX f a=⟨b1,n1,d1,e1⟩:=⟨_,_,_,_,rfl⟩;obtain⟨b2,n2,d2',e2,e2'⟩:∃ b2 n2 d2 e2,vX f b=⟨b2,n2,d2,e2⟩:=⟨_,_,_,_,rfl⟩;obtain⟨b3,n3,d3',e3,e3'⟩:∃ b3 n3 d3 e3,vX f c=⟨b3,n3,d3,e3⟩:=⟨_,_,_,_,rfl⟩;rw [e1',e2'] at p1;rw [e3'] at p4;rw [e1'] at va;rw [e2'] at vb;rw [e3'] at vc;have KV1:zZ 48 #[.int .u8 f,.agg #[.int .u64 x1,.int .u64 y1]] (.tuple #[.agg #[.bool b1,.string (yL n1),.string (yL d1'),.int .i64 e1],.int .i64 0]):=zK (fun w=>rValue_yes f hf x1 y1 a hx1 hy1 ha oa fa (by omega) _ _ _ _ _ _ e1' rfl rfl w);have KV2:zZ 48 #[.int .u8 f,.agg #[.int .u64 x2,.int .u64 y2]] (.tuple #[.agg #[.bool b2,.string (yL n2),.string (yL d2'),.int .i64 e2],.int .i64 0]):=zK (fun w=>rValue_yes f hf x2 y2 b hx2 hy2 hb ob fb (by omega) _ _ _ _ _ _ e2' rfl rfl w);have KV3:zZ 48 #[.int .u8 f,.agg #[.int .u64 x3,.int .u64 y3]] (.tuple #[.agg #[.bool b3,.string (yL n3),.string (yL d3'),.int .i64 e3],.int .i64 0]):=zK (fun w=>rValue_yes f hf x3 y3 c hx3 hy3 hc oc fc (by omega) _ _ _ _ _ _ e3' rfl rfl w);have KM:zZ 53 #[.agg #[.bool b1,.string (yL n1),.string (yL d1'),.int .i64 e1],.agg #[.bool b2,.string (yL n2),.string (yL d2'),.int .i64 e2]] (.tuple #[.agg #[.bool pb,.string (yL pn),.string (yL pd),.int .i64 pe],.int .i64 0]):=zK (fun w=>rMul_ok _ _ _ _ _ _ _ _ _ _ _ _ pb pn pd pe 0 _ _ rfl rfl rfl rfl va vb p1 rfl rfl w);have KA:zZ 54 #[.agg #[.bool pb,.string (yL pn),.string (yL pd),.int .i64 pe],.agg #[.bool b3,.string (yL n3),.string (yL d3'),.int .i64 e3]] (.tuple #[.agg #[.bool zb,.string (yL zn),.string (yL 1),.int .i64 ze],.int .i64 0]):=zK (fun w=>rAdd_ok _ _ _ _ _ _ _ _ _ _ _ _ zb zn 1 ze 0 _ _ rfl rfl rfl rfl p2 vc p4 rfl rfl w)
 rcases p7 with ⟨z1,z2,z3,z4⟩|⟨z1,z2,z3⟩
 ·
  subst z1 z2 z3;rw [z4] at hr
  unfold fmD at hr
  rw [if_pos rfl] at hr;injection hr with r1 r2;subst r1 r2;rw [yX] at KA
  by_cases gz:c1=3∨c1=4∨c2=3∨c2=4
  ·
   exact rfm_zero f m x1 y1 x2 y2 x3 y3 u v _ s1 s2 s3 neg hng b1 _ _ e1 b2 _ _ e2 b3 _ _ e3 pb _ _ pe false _ _ 0 w KF (KI1 false (decide_eq_false (by omega))) (KI2 false (decide_eq_false (by omega))) (H2Z gz) (zK (Or.inr ⟨KN1,zK (Or.inr ⟨KN2,zK (Or.inr ⟨KN3,KS1,KS2,zK (Or.inr ⟨KI3,zK (Or.inr (Or.inr ⟨KZ3 false (decide_eq_false (fun q=>zz ⟨gz,q⟩)),KV1,KV2,KV3,KM,KA,zK (Or.inr ⟨by decide +kernel,KNO hv,rfl⟩)⟩))⟩)⟩)⟩)⟩))
  ·
   exact rfm_fin f m x1 y1 x2 y2 x3 y3 u v _ s1 s2 s3 neg hng b1 _ _ e1 b2 _ _ e2 b3 _ _ e3 pb _ _ pe false _ _ 0 w KF (KI1 false (decide_eq_false (by omega))) (KI2 false (decide_eq_false (by omega))) (KZ1 false (decide_eq_false (by omega))) (KZ2 false (decide_eq_false (by omega))) (zK (Or.inr ⟨KN1,zK (Or.inr ⟨KN2,zK (Or.inr ⟨KN3,KS1,KS2,zK (Or.inr ⟨KI3,KV1,KV2,KV3,KM,KA,zK (Or.inr ⟨by decide +kernel,KNO hv,rfl⟩)⟩)⟩)⟩)⟩))
 ·
  have KR:zZ 50 #[.int .u8 f,.int .u8 m,.agg #[.bool zb,.string (yL zn),.string (yL 1),.int .i64 ze]] (.tuple #[.agg #[.int .u64 u,.int .u64 v],.int .u8 fl,.int .i64 0]):=zK (fun w=>rRound_is0 f m hf hm zb zn 1 _ _ ze rfl rfl p5 p6 (Nat.le_trans (qS 1 1 (by decide)) (by decide)) M fl (by rw [z3];exact hr) u v hv w)
  have he:(yL zn).toList.isEmpty=false:=by
   rcases x_cases (s:=yL zn) (t:=yL 1) rfl rfl p5 with ⟨q,_⟩|⟨_,q⟩
   ·
    exact absurd q z1
   ·
    cases h:(yL zn).toList with
    | nil=>rw [h] at q;exact absurd q (by decide)
    | cons a l=>rfl
  by_cases gz:c1=3∨c1=4∨c2=3∨c2=4
  ·
   exact rfm_zero f m x1 y1 x2 y2 x3 y3 u v fl s1 s2 s3 neg hng b1 _ _ e1 b2 _ _ e2 b3 _ _ e3 pb _ _ pe zb _ _ ze w KF (KI1 false (decide_eq_false (by omega))) (KI2 false (decide_eq_false (by omega))) (H2Z gz) (zK (Or.inr ⟨KN1,zK (Or.inr ⟨KN2,zK (Or.inr ⟨KN3,KS1,KS2,zK (Or.inr ⟨KI3,zK (Or.inr (Or.inr ⟨KZ3 false (decide_eq_false (fun q=>zz ⟨gz,q⟩)),KV1,KV2,KV3,KM,KA,zK (Or.inl ⟨he,KR⟩)⟩))⟩)⟩)⟩)⟩))
  ·
   exact rfm_fin f m x1 y1 x2 y2 x3 y3 u v fl s1 s2 s3 neg hng b1 _ _ e1 b2 _ _ e2 b3 _ _ e3 pb _ _ pe zb _ _ ze w KF (KI1 false (decide_eq_false (by omega))) (KI2 false (decide_eq_false (by omega))) (KZ1 false (decide_eq_false (by omega))) (KZ2 false (decide_eq_false (by omega))) (zK (Or.inr ⟨KN1,zK (Or.inr ⟨KN2,zK (Or.inr ⟨KN3,KS1,KS2,zK (Or.inr ⟨KI3,KV1,KV2,KV3,KM,KA,zK (Or.inl ⟨he,KR⟩)⟩)⟩)⟩)⟩))
end Go.Proofs.YtapikkbifdldfaaGreatDoor
namespace Go.Proofs.YtapikkbifdldfaaGreatDoor
set_option maxRecDepth 100000
set_option maxHeartbeats 40000000
open Go.RowKit WMath
set_option linter.unusedSimpArgs false
set_option linter.unusedVariables false
theorem fa_law (f m:Int)(x1 y1 x2 y2 x3 y3:Nat)(u1 v1:Nat)(fl1 e1:Int)(he1:IntKind.i64.wrap e1=e1)(w:World)
  (K1:xS 12 #[.int .u8 f,.int .u8 m,.agg #[.int .u64 x1,.int .u64 y1],.agg #[.int .u64 x2,.int .u64 y2],.agg #[.int .u64 x3,.int .u64 y3]] (.tuple #[.agg #[.int .u64 u1,.int .u64 v1],.int .u8 fl1,.int .i64 e1]))
  (R1:zZ 13 #[.int .u8 f,.int .u8 m,.agg #[.int .u64 x1,.int .u64 y1],.agg #[.int .u64 x2,.int .u64 y2],.agg #[.int .u64 x3,.int .u64 y3]] (.tuple #[.agg #[.int .u64 u1,.int .u64 v1],.int .u8 fl1,.int .i64 e1]))
  (KA:xS 14 #[] (.bool true)) (hT:xJ w):Calls Tryz.prog 4 #[.int .u8 f,.int .u8 m,.agg #[.int .u64 x1,.int .u64 y1],.agg #[.int .u64 x2,.int .u64 y2],.agg #[.int .u64 x3,.int .u64 y3]] w fun r w'=>r=.returned (.bool true)/\Below w.heap.size w w':=by
 have FF:=zK hT;clear hT;obtain⟨Ah,Ai,Aj,B0⟩:=opn3 w (Obj.cells #[.int .u64 x1,.int .u64 y1] 26) (Obj.cells #[.int .u64 x2,.int .u64 y2] 26) (Obj.cells #[.int .u64 x3,.int .u64 y3] 26)
 go_enter Tryz.func4,Tryz.ntmps4
 obtain⟨At,Au⟩:=zE Ah;obtain⟨Av,Aw⟩:=zE Ai;obtain⟨Ax,Ay⟩:=zE Aj;go_wp2_with fail
 refine (K1.out _ (yC FF.out B0)).mono ?_;rintro r w1 ⟨rfl,b1⟩;have B1:=zV B0 b1;obtain⟨Aa,Ab,Ac⟩:=yI b1 Ah Ai Aj;clear b1 B0 Ah At Au Ai Av Aw Aj Ax Ay;obtain⟨Az,AA⟩:=zE Aa;obtain⟨AB,AC⟩:=zE Ab;obtain⟨AD,AE⟩:=zE Ac;have S2:=zK B1.size;have Ba:=yB Aa;have Bb:=yB Ab;have Bc:=yB Ac;have Ak:=heap_alloc_last w1 (Obj.cells #[.int .u64 u1,.int .u64 v1] 26);have B2:=zV B1 (yP w1 (Obj.cells #[.int .u64 u1,.int .u64 v1] 26));obtain⟨Al,Am,An⟩:=yI (yP w1 (Obj.cells #[.int .u64 u1,.int .u64 v1] 26)) Aa Ab Ac;clear B1 Aa Az AA Ab AB AC Ac AD AE;obtain⟨AF,AG⟩:=zE Al;obtain⟨AH,AI⟩:=zE Am;obtain⟨AJ,AK⟩:=zE An;obtain⟨AL,AM⟩:=zE Ak;go_wp2_with fail
 refine (R1.out _).mono ?_;rintro r w3 ⟨rfl,b3⟩;have B3:=zV B2 b3;obtain⟨Ad,Ae,Af,Ag⟩:=rws4 b3 Al Am An Ak;clear b3 B2 Al AF AG Am AH AI An AJ AK Ak AL AM;obtain⟨AN,AO⟩:=zE Ad;obtain⟨AP,AQ⟩:=zE Ae;obtain⟨AR,AS⟩:=zE Af;obtain⟨AT,AU⟩:=zE Ag;have S4:=zK B3.size;have Bd:=yB Ad;have Be:=yB Ae;have Bf:=yB Af;have Bg:=yB Ag;have Ao:=heap_alloc_last w3 (Obj.cells #[.int .u64 u1,.int .u64 v1] 26);have B4:=zV B3 (yP w3 (Obj.cells #[.int .u64 u1,.int .u64 v1] 26));obtain⟨Ap,Aq,Ar,As⟩:=rws4 (yP w3 (Obj.cells #[.int .u64 u1,.int .u64 v1] 26)) Ad Ae Af Ag;clear B3 Ad AN AO Ae AP AQ Af AR AS Ag AT AU;obtain⟨AV,AW⟩:=zE Ap;obtain⟨AX,AY⟩:=zE Aq;obtain⟨AZ,A0⟩:=zE Ar;obtain⟨A1,A2⟩:=zE As;obtain⟨A3,A4⟩:=zE Ao;go_wp2_with fail
 refine (KA.out _ (yC FF.out B4)).mono ?_;rintro r w5 ⟨rfl,b5⟩;have B5:=zV B4 b5;obtain⟨A5,A6,A7,A8,A9⟩:=yN b5 Ap Aq Ar As Ao;clear b5 B4 Ap AV AW Aq AX AY Ar AZ A0 As A1 A2 Ao A3 A4;obtain⟨Bh,Bi⟩:=zE A5;obtain⟨Bj,Bk⟩:=zE A6;obtain⟨Bl,Bm⟩:=zE A7;obtain⟨Bn,Bo⟩:=zE A8;obtain⟨Bp,Bq⟩:=zE A9;go_wp2
 go_ret
 exact⟨rfl,B5⟩
end Go.Proofs.YtapikkbifdldfaaGreatDoor
