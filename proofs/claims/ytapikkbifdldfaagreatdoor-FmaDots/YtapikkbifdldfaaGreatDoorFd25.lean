/-
  What the functions that the statement reaches return: part 25 (F3, F4, F5).
-/
import Derived.Test.YtapikkbifdldfaaGreatDoorFd24
namespace Go.Proofs.YtapikkbifdldfaaGreatDoor
set_option maxRecDepth 100000
set_option maxHeartbeats 40000000
open Go.RowKit WMath XMath
set_option linter.unusedSimpArgs false
set_option linter.unusedVariables false
theorem bv_back3 {x y n u v:Nat} (hx:x<18446744073709551616)(hy:y<18446744073709551616)(hn:y+18446744073709551616*x=n)(hv:qA n=(u,v)):x=u/\y=v:=by
 unfold qA at hv
 injection hv with h1 h2;omega
theorem rFma_is (f m:Int)(hf:y7 f)(hm:0<=m/\m<=4)(x1 y1 a x2 y2 b x3 y3 c:Nat)(hx1:x1<18446744073709551616)(hy1:y1<18446744073709551616)(hx2:x2<18446744073709551616)(hy2:y2<18446744073709551616)(hx3:x3<18446744073709551616)(hy3:y3<18446744073709551616)(ha:y1+18446744073709551616*x1=a)(hb:y2+18446744073709551616*x2=b)(hc:y3+18446744073709551616*x3=c)
  (oa:okB f a=true) (ob:okB f b=true) (oc:okB f c=true) (M:Nat) (fl:Int) (hr:fmaR f m a b c=(M,fl)) (u v:Nat) (hv:qA M=(u,v)) (w:World) :
  Calls Tryz.prog 13 #[.int .u8 f,.int .u8 m,.agg #[.int .u64 x1,.int .u64 y1],.agg #[.int .u64 x2,.int .u64 y2],.agg #[.int .u64 x3,.int .u64 y3]] w fun r w'=>r=.returned (.tuple #[.agg #[.int .u64 u,.int .u64 v],.int .u8 fl,.int .i64 0])/\Below w.heap.size w w':=by
 have h0:=(yV hf).1;have fa:=(okB_yes h0 oa).2;have fb:=(okB_yes h0 ob).2;have fc:=(okB_yes h0 oc).2;have KF:=rfit3r f m h0 x1 y1 a x2 y2 b x3 y3 c hx1 hy1 hx2 hy2 hx3 hy3 ha hb hc true (by rw [oa,ob,oc,decide_eq_true (show f<=3/\m<=4 from ⟨is4_le hf,hm.2⟩)];rfl);obtain⟨c1,Aa⟩:∃ q,kC f a=q:=⟨_,rfl⟩;have lc1:c1<=9:=by rw [<-Aa];have:=kC_lt f a;omega
 obtain⟨s1,hs1⟩:∃ q,kN f a=q:=⟨_,rfl⟩;have KN1:∀ o,decide (8<=c1)=o->zZ 41 #[.int .u8 f,.agg #[.int .u64 x1,.int .u64 y1]] (.bool o):=fun o h=>zJ (fun w=>rNaN_is f hf x1 y1 a c1 o hx1 hy1 ha fa Aa h w);have KI1:∀ o,decide (c1=0∨c1=7)=o->zZ 31 #[.int .u8 f,.agg #[.int .u64 x1,.int .u64 y1]] (.bool o):=fun o h=>zJ (fun w=>rInf_is f hf x1 y1 a c1 o hx1 hy1 ha fa Aa (by rw [<-Bool.decide_or];exact h) w);have KZ1:∀ o,decide (c1=3∨c1=4)=o->zZ 44 #[.int .u8 f,.agg #[.int .u64 x1,.int .u64 y1]] (.bool o):=fun o h=>zJ (fun w=>rZero_is f hf x1 y1 a c1 o hx1 hy1 ha fa Aa (by rw [<-Bool.decide_or];exact h) w);have KS1:zZ 43 #[.int .u8 f,.agg #[.int .u64 x1,.int .u64 y1]] (.bool s1):=zJ (fun w=>rSign_yes f hf x1 y1 a s1 hx1 hy1 ha oa hs1 w);obtain⟨c2,Ab⟩:∃ q,kC f b=q:=⟨_,rfl⟩;have lc2:c2<=9:=by rw [<-Ab];have:=kC_lt f b;omega
 obtain⟨s2,hs2⟩:∃ q,kN f b=q:=⟨_,rfl⟩;have KN2:∀ o,decide (8<=c2)=o->zZ 41 #[.int .u8 f,.agg #[.int .u64 x2,.int .u64 y2]] (.bool o):=fun o h=>zJ (fun w=>rNaN_is f hf x2 y2 b c2 o hx2 hy2 hb fb Ab h w);have KI2:∀ o,decide (c2=0∨c2=7)=o->zZ 31 #[.int .u8 f,.agg #[.int .u64 x2,.int .u64 y2]] (.bool o):=fun o h=>zJ (fun w=>rInf_is f hf x2 y2 b c2 o hx2 hy2 hb fb Ab (by rw [<-Bool.decide_or];exact h) w);have KZ2:∀ o,decide (c2=3∨c2=4)=o->zZ 44 #[.int .u8 f,.agg #[.int .u64 x2,.int .u64 y2]] (.bool o):=fun o h=>zJ (fun w=>rZero_is f hf x2 y2 b c2 o hx2 hy2 hb fb Ab (by rw [<-Bool.decide_or];exact h) w);have KS2:zZ 43 #[.int .u8 f,.agg #[.int .u64 x2,.int .u64 y2]] (.bool s2):=zJ (fun w=>rSign_yes f hf x2 y2 b s2 hx2 hy2 hb ob hs2 w);obtain⟨c3,Ac⟩:∃ q,kC f c=q:=⟨_,rfl⟩;have lc3:c3<=9:=by rw [<-Ac];have:=kC_lt f c;omega
 obtain⟨s3,hs3⟩:∃ q,kN f c=q:=⟨_,rfl⟩;have KN3:∀ o,decide (8<=c3)=o->zZ 41 #[.int .u8 f,.agg #[.int .u64 x3,.int .u64 y3]] (.bool o):=fun o h=>zJ (fun w=>rNaN_is f hf x3 y3 c c3 o hx3 hy3 hc fc Ac h w);have KI3:∀ o,decide (c3=0∨c3=7)=o->zZ 31 #[.int .u8 f,.agg #[.int .u64 x3,.int .u64 y3]] (.bool o):=fun o h=>zJ (fun w=>rInf_is f hf x3 y3 c c3 o hx3 hy3 hc fc Ac (by rw [<-Bool.decide_or];exact h) w);have KZ3:∀ o,decide (c3=3∨c3=4)=o->zZ 44 #[.int .u8 f,.agg #[.int .u64 x3,.int .u64 y3]] (.bool o):=fun o h=>zJ (fun w=>rZero_is f hf x3 y3 c c3 o hx3 hy3 hc fc Ac (by rw [<-Bool.decide_or];exact h) w);have KS3:zZ 43 #[.int .u8 f,.agg #[.int .u64 x3,.int .u64 y3]] (.bool s3):=zJ (fun w=>rSign_yes f hf x3 y3 c s3 hx3 hy3 hc oc hs3 w);obtain⟨neg,hng⟩:∃ q,(s1 != s2)=q:=⟨_,rfl⟩
 have KRN:qA (eNaN f)=(u,v)->zZ 45 #[.int .u8 f] (.agg #[.int .u64 u,.int .u64 v]):=fun h=>zJ (fun w=>by
  have:=r_nan f hf _ rfl w
  rw [h] at this;exact this)
 have KRI:qA (eInf f neg)=(u,v)->zZ 46 #[.int .u8 f,.bool neg] (.agg #[.int .u64 u,.int .u64 v]):=fun h=>zJ (fun w=>by
  have:=r_inf f neg hf _ rfl w
  rw [h] at this;exact this)
 have KNO:qA (xY f (decide (m=2)))=(u,v)->zZ 52 #[.int .u8 f,.int .u8 m] (.agg #[.int .u64 u,.int .u64 v]):=fun h=>zJ (fun w=>r_nought f m (decide (m=2)) rfl u v w (zJ (fun w=>by
  have:=r_zero f (decide (m=2)) hf _ rfl w
  rw [h] at this;exact this)))
 have H2I:(c1=0∨c1=7∨c2=0∨c2=7)->zW ((zZ 31 #[.int .u8 f,.agg #[.int .u64 x1,.int .u64 y1]] (.bool true))∨(zZ 31 #[.int .u8 f,.agg #[.int .u64 x1,.int .u64 y1]] (.bool false)/\zZ 31 #[.int .u8 f,.agg #[.int .u64 x2,.int .u64 y2]] (.bool true))):=fun h=>by
  by_cases i:c1=0∨c1=7
  ·
   exact zJ (Or.inl (KI1 true (decide_eq_true i)))
  ·
   exact zJ (Or.inr ⟨KI1 false (decide_eq_false i),KI2 true (decide_eq_true (by omega))⟩)
 have H2Z:(c1=3∨c1=4∨c2=3∨c2=4)->zW ((zZ 44 #[.int .u8 f,.agg #[.int .u64 x1,.int .u64 y1]] (.bool true))∨(zZ 44 #[.int .u8 f,.agg #[.int .u64 x1,.int .u64 y1]] (.bool false)/\zZ 44 #[.int .u8 f,.agg #[.int .u64 x2,.int .u64 y2]] (.bool true))):=fun h=>by
  by_cases i:c1=3∨c1=4
  ·
   exact zJ (Or.inl (KZ1 true (decide_eq_true i)))
  ·
   exact zJ (Or.inr ⟨KZ1 false (decide_eq_false i),KZ2 true (decide_eq_true (by omega))⟩)
 unfold fmaR at hr
 rw [Aa,Ab,Ac,hs1,hs2,hs3,hng] at hr
 by_cases d1:(c1=0∨c1=7∨c2=0∨c2=7)/\(c1=3∨c1=4∨c2=3∨c2=4)
 ·
  rw [if_pos d1] at hr;injection hr with r1 r2;subst r1 r2
  by_cases i:c1=0∨c1=7
  ·
   exact rfm_iz f m x1 y1 x2 y2 x3 y3 u v _ w KF (zJ (Or.inl ⟨KI1 true (decide_eq_true i),KZ1 false (decide_eq_false (by omega)),KZ2 true (decide_eq_true (by omega)),KRN hv,rfl⟩))
  ·
   exact rfm_iz f m x1 y1 x2 y2 x3 y3 u v _ w KF (zJ (Or.inr ⟨KI1 false (decide_eq_false (by omega)),KI2 true (decide_eq_true (by omega)),KZ1 true (decide_eq_true (by omega)),KRN hv,rfl⟩))
 rw [if_neg d1] at hr
 by_cases n0:8<=c1∨8<=c2∨8<=c3
 ·
  have hM:M=eNaN f/\(if c1=8∨c2=8∨c3=8 then (16:Int) else 0)=fl:=by
   by_cases s0:c1=8∨c2=8∨c3=8
   ·
    rw [if_pos s0] at hr ⊢;injection hr with r1 r2;exact⟨r1.symm,r2⟩
   ·
    rw [if_neg s0,if_pos (by omega)] at hr;rw [if_neg s0];injection hr with r1 r2;exact⟨r1.symm,r2⟩
  have KC:=rcan3r f hf x1 y1 a x2 y2 b x3 y3 c hx1 hy1 hx2 hy2 hx3 hy3 ha hb hc fa fb fc fl (by rw [Aa,Ab,Ac];exact hM.2) u v (by rw [<-hM.1];exact hv)
  by_cases gi:c1=0∨c1=7∨c2=0∨c2=7
  ·
   by_cases n1:8<=c1
   ·
    exact rfm_inf f m x1 y1 x2 y2 x3 y3 u v fl s1 s2 s3 neg hng w KF (KZ1 false (decide_eq_false (by omega))) (KZ2 false (decide_eq_false (by omega))) (H2I gi) (zJ (Or.inl ⟨KN1 true (decide_eq_true n1),KC⟩))
   by_cases n2:8<=c2
   ·
    exact rfm_inf f m x1 y1 x2 y2 x3 y3 u v fl s1 s2 s3 neg hng w KF (KZ1 false (decide_eq_false (by omega))) (KZ2 false (decide_eq_false (by omega))) (H2I gi) (zJ (Or.inr ⟨KN1 false (decide_eq_false (by omega)),zJ (Or.inl ⟨KN2 true (decide_eq_true n2),KC⟩)⟩))
   ·
    exact rfm_inf f m x1 y1 x2 y2 x3 y3 u v fl s1 s2 s3 neg hng w KF (KZ1 false (decide_eq_false (by omega))) (KZ2 false (decide_eq_false (by omega))) (H2I gi) (zJ (Or.inr ⟨KN1 false (decide_eq_false (by omega)),zJ (Or.inr ⟨KN2 false (decide_eq_false (by omega)),zJ (Or.inl ⟨KN3 true (decide_eq_true (by omega)),KC⟩)⟩)⟩))
  by_cases gz:c1=3∨c1=4∨c2=3∨c2=4
  ·
   by_cases n1:8<=c1
   ·
    exact rfm_zero f m x1 y1 x2 y2 x3 y3 u v fl s1 s2 s3 neg hng false ⟨#[]⟩ ⟨#[]⟩ 0 false ⟨#[]⟩ ⟨#[]⟩ 0 false ⟨#[]⟩ ⟨#[]⟩ 0 false ⟨#[]⟩ ⟨#[]⟩ 0 false ⟨#[]⟩ ⟨#[]⟩ 0 w KF (KI1 false (decide_eq_false (by omega))) (KI2 false (decide_eq_false (by omega))) (H2Z gz) (zJ (Or.inl ⟨KN1 true (decide_eq_true n1),KC⟩))
   by_cases n2:8<=c2
   ·
    exact rfm_zero f m x1 y1 x2 y2 x3 y3 u v fl s1 s2 s3 neg hng false ⟨#[]⟩ ⟨#[]⟩ 0 false ⟨#[]⟩ ⟨#[]⟩ 0 false ⟨#[]⟩ ⟨#[]⟩ 0 false ⟨#[]⟩ ⟨#[]⟩ 0 false ⟨#[]⟩ ⟨#[]⟩ 0 w KF (KI1 false (decide_eq_false (by omega))) (KI2 false (decide_eq_false (by omega))) (H2Z gz) (zJ (Or.inr ⟨KN1 false (decide_eq_false (by omega)),zJ (Or.inl ⟨KN2 true (decide_eq_true n2),KC⟩)⟩))
   ·
    exact rfm_zero f m x1 y1 x2 y2 x3 y3 u v fl s1 s2 s3 neg hng false ⟨#[]⟩ ⟨#[]⟩ 0 false ⟨#[]⟩ ⟨#[]⟩ 0 false ⟨#[]⟩ ⟨#[]⟩ 0 false ⟨#[]⟩ ⟨#[]⟩ 0 false ⟨#[]⟩ ⟨#[]⟩ 0 w KF (KI1 false (decide_eq_false (by omega))) (KI2 false (decide_eq_false (by omega))) (H2Z gz) (zJ (Or.inr ⟨KN1 false (decide_eq_false (by omega)),zJ (Or.inr ⟨KN2 false (decide_eq_false (by omega)),zJ (Or.inl ⟨KN3 true (decide_eq_true (by omega)),KC⟩)⟩)⟩))
  ·
   by_cases n1:8<=c1
   ·
    exact rfm_fin f m x1 y1 x2 y2 x3 y3 u v fl s1 s2 s3 neg hng false ⟨#[]⟩ ⟨#[]⟩ 0 false ⟨#[]⟩ ⟨#[]⟩ 0 false ⟨#[]⟩ ⟨#[]⟩ 0 false ⟨#[]⟩ ⟨#[]⟩ 0 false ⟨#[]⟩ ⟨#[]⟩ 0 w KF (KI1 false (decide_eq_false (by omega))) (KI2 false (decide_eq_false (by omega))) (KZ1 false (decide_eq_false (by omega))) (KZ2 false (decide_eq_false (by omega))) (zJ (Or.inl ⟨KN1 true (decide_eq_true n1),KC⟩))
   by_cases n2:8<=c2
   ·
    exact rfm_fin f m x1 y1 x2 y2 x3 y3 u v fl s1 s2 s3 neg hng false ⟨#[]⟩ ⟨#[]⟩ 0 false ⟨#[]⟩ ⟨#[]⟩ 0 false ⟨#[]⟩ ⟨#[]⟩ 0 false ⟨#[]⟩ ⟨#[]⟩ 0 false ⟨#[]⟩ ⟨#[]⟩ 0 w KF (KI1 false (decide_eq_false (by omega))) (KI2 false (decide_eq_false (by omega))) (KZ1 false (decide_eq_false (by omega))) (KZ2 false (decide_eq_false (by omega))) (zJ (Or.inr ⟨KN1 false (decide_eq_false (by omega)),zJ (Or.inl ⟨KN2 true (decide_eq_true n2),KC⟩)⟩))
   ·
    exact rfm_fin f m x1 y1 x2 y2 x3 y3 u v fl s1 s2 s3 neg hng false ⟨#[]⟩ ⟨#[]⟩ 0 false ⟨#[]⟩ ⟨#[]⟩ 0 false ⟨#[]⟩ ⟨#[]⟩ 0 false ⟨#[]⟩ ⟨#[]⟩ 0 false ⟨#[]⟩ ⟨#[]⟩ 0 w KF (KI1 false (decide_eq_false (by omega))) (KI2 false (decide_eq_false (by omega))) (KZ1 false (decide_eq_false (by omega))) (KZ2 false (decide_eq_false (by omega))) (zJ (Or.inr ⟨KN1 false (decide_eq_false (by omega)),zJ (Or.inr ⟨KN2 false (decide_eq_false (by omega)),zJ (Or.inl ⟨KN3 true (decide_eq_true (by omega)),KC⟩)⟩)⟩))
 rw [if_neg (by omega),if_neg (by omega)] at hr;have KN1:=KN1 false (decide_eq_false (by omega));have KN2:=KN2 false (decide_eq_false (by omega));have KN3:=KN3 false (decide_eq_false (by omega))
 by_cases gi:c1=0∨c1=7∨c2=0∨c2=7
 ·
  rw [if_pos gi] at hr
  by_cases ci:(c3=0∨c3=7)/\s3≠neg
  ·
   rw [if_pos ci] at hr;injection hr with r1 r2;subst r1 r2;exact rfm_inf f m x1 y1 x2 y2 x3 y3 u v _ s1 s2 s3 neg hng w KF (KZ1 false (decide_eq_false (by omega))) (KZ2 false (decide_eq_false (by omega))) (H2I gi) (zJ (Or.inr ⟨KN1,zJ (Or.inr ⟨KN2,zJ (Or.inr ⟨KN3,KS1,KS2,zJ (Or.inl ⟨KI3 true (decide_eq_true ci.1),KS3,by cases s3 <;> cases neg <;> first|rfl|exact absurd rfl ci.2,KRN hv,rfl⟩)⟩)⟩)⟩))
  rw [if_neg ci] at hr;injection hr with r1 r2;subst r1 r2
  by_cases i3:c3=0∨c3=7
  ·
   exact rfm_inf f m x1 y1 x2 y2 x3 y3 u v _ s1 s2 s3 neg hng w KF (KZ1 false (decide_eq_false (by omega))) (KZ2 false (decide_eq_false (by omega))) (H2I gi) (zJ (Or.inr ⟨KN1,zJ (Or.inr ⟨KN2,zJ (Or.inr ⟨KN3,KS1,KS2,zJ (Or.inr (Or.inl ⟨KI3 true (decide_eq_true i3),KS3,by cases s3 <;> cases neg <;> first|rfl|exact absurd ⟨i3,by decide⟩ ci,KRI hv,rfl⟩))⟩)⟩)⟩))
  ·
   exact rfm_inf f m x1 y1 x2 y2 x3 y3 u v _ s1 s2 s3 neg hng w KF (KZ1 false (decide_eq_false (by omega))) (KZ2 false (decide_eq_false (by omega))) (H2I gi) (zJ (Or.inr ⟨KN1,zJ (Or.inr ⟨KN2,zJ (Or.inr ⟨KN3,KS1,KS2,zJ (Or.inr (Or.inr ⟨KI3 false (decide_eq_false i3),KRI hv,rfl⟩))⟩)⟩)⟩))
 rw [if_neg gi] at hr
 by_cases i3:c3=0∨c3=7
 ·
  rw [if_pos i3] at hr;injection hr with r1 r2;subst r1 r2;obtain⟨v1,v2⟩:=bv_back3 hx3 hy3 hc hv
  by_cases gz:c1=3∨c1=4∨c2=3∨c2=4
  ·
   exact rfm_zero f m x1 y1 x2 y2 x3 y3 u v _ s1 s2 s3 neg hng false ⟨#[]⟩ ⟨#[]⟩ 0 false ⟨#[]⟩ ⟨#[]⟩ 0 false ⟨#[]⟩ ⟨#[]⟩ 0 false ⟨#[]⟩ ⟨#[]⟩ 0 false ⟨#[]⟩ ⟨#[]⟩ 0 w KF (KI1 false (decide_eq_false (by omega))) (KI2 false (decide_eq_false (by omega))) (H2Z gz) (zJ (Or.inr ⟨KN1,zJ (Or.inr ⟨KN2,zJ (Or.inr ⟨KN3,KS1,KS2,zJ (Or.inl ⟨KI3 true (decide_eq_true i3),v1,v2,rfl⟩)⟩)⟩)⟩))
  ·
   exact rfm_fin f m x1 y1 x2 y2 x3 y3 u v _ s1 s2 s3 neg hng false ⟨#[]⟩ ⟨#[]⟩ 0 false ⟨#[]⟩ ⟨#[]⟩ 0 false ⟨#[]⟩ ⟨#[]⟩ 0 false ⟨#[]⟩ ⟨#[]⟩ 0 false ⟨#[]⟩ ⟨#[]⟩ 0 w KF (KI1 false (decide_eq_false (by omega))) (KI2 false (decide_eq_false (by omega))) (KZ1 false (decide_eq_false (by omega))) (KZ2 false (decide_eq_false (by omega))) (zJ (Or.inr ⟨KN1,zJ (Or.inr ⟨KN2,zJ (Or.inr ⟨KN3,KS1,KS2,zJ (Or.inl ⟨KI3 true (decide_eq_true i3),v1,v2,rfl⟩)⟩)⟩)⟩))
 rw [if_neg i3] at hr;have KI3:=KI3 false (decide_eq_false i3)
 by_cases zz:(c1=3∨c1=4∨c2=3∨c2=4)/\(c3=3∨c3=4)
 ·
  rw [if_pos zz] at hr;have gz:=zz.1
  by_cases e:s3=neg
  ·
   rw [if_pos e] at hr;injection hr with r1 r2;subst r1 r2;obtain⟨v1,v2⟩:=bv_back3 hx3 hy3 hc hv;exact rfm_zero f m x1 y1 x2 y2 x3 y3 u v _ s1 s2 s3 neg hng false ⟨#[]⟩ ⟨#[]⟩ 0 false ⟨#[]⟩ ⟨#[]⟩ 0 false ⟨#[]⟩ ⟨#[]⟩ 0 false ⟨#[]⟩ ⟨#[]⟩ 0 false ⟨#[]⟩ ⟨#[]⟩ 0 w KF (KI1 false (decide_eq_false (by omega))) (KI2 false (decide_eq_false (by omega))) (H2Z gz) (zJ (Or.inr ⟨KN1,zJ (Or.inr ⟨KN2,zJ (Or.inr ⟨KN3,KS1,KS2,zJ (Or.inr ⟨KI3,zJ (Or.inl ⟨KZ3 true (decide_eq_true zz.2),KS3,by rw [e];cases neg <;> rfl,v1,v2,rfl⟩)⟩)⟩)⟩)⟩))
  ·
   rw [if_neg e] at hr;injection hr with r1 r2;subst r1 r2;exact rfm_zero f m x1 y1 x2 y2 x3 y3 u v _ s1 s2 s3 neg hng false ⟨#[]⟩ ⟨#[]⟩ 0 false ⟨#[]⟩ ⟨#[]⟩ 0 false ⟨#[]⟩ ⟨#[]⟩ 0 false ⟨#[]⟩ ⟨#[]⟩ 0 false ⟨#[]⟩ ⟨#[]⟩ 0 w KF (KI1 false (decide_eq_false (by omega))) (KI2 false (decide_eq_false (by omega))) (H2Z gz) (zJ (Or.inr ⟨KN1,zJ (Or.inr ⟨KN2,zJ (Or.inr ⟨KN3,KS1,KS2,zJ (Or.inr ⟨KI3,zJ (Or.inr (Or.inl ⟨KZ3 true (decide_eq_true zz.2),KS3,by cases s3 <;> cases neg <;> first|rfl|exact absurd rfl e,KNO hv,rfl⟩))⟩)⟩)⟩)⟩))
 rw [if_neg zz] at hr;obtain⟨P,zb,zn,ze,p1,p2,p3,p4,p5,p6,p7⟩:=fm_doc hf m a b c (by omega) (by omega) (by omega);have va:=(fin_val hf a (by omega)).1;have vb:=(fin_val hf b (by omega)).1;have vc:=(fin_val hf c (by omega)).1;obtain⟨pb,pn,pd,pe⟩:=P;obtain⟨b1,n1,d1',e1,e1'⟩:∃ b1 n1 d1 e1,vX f a=⟨b1,n1,d1,e1⟩:=⟨_,_,_,_,rfl⟩;obtain⟨b2,n2,d2',e2,e2'⟩:∃ b2 n2 d2 e2,vX f b=⟨b2,n2,d2,e2⟩:=⟨_,_,_,_,rfl⟩;obtain⟨b3,n3,d3',e3,e3'⟩:∃ b3 n3 d3 e3,vX f c=⟨b3,n3,d3,e3⟩:=⟨_,_,_,_,rfl⟩;rw [e1',e2'] at p1;rw [e3'] at p4;rw [e1'] at va;rw [e2'] at vb;rw [e3'] at vc;have KV1:zZ 48 #[.int .u8 f,.agg #[.int .u64 x1,.int .u64 y1]] (.tuple #[.agg #[.bool b1,.string (yN n1),.string (yN d1'),.int .i64 e1],.int .i64 0]):=zJ (fun w=>rValue_yes f hf x1 y1 a hx1 hy1 ha oa fa (by omega) _ _ _ _ _ _ e1' rfl rfl w);have KV2:zZ 48 #[.int .u8 f,.agg #[.int .u64 x2,.int .u64 y2]] (.tuple #[.agg #[.bool b2,.string (yN n2),.string (yN d2'),.int .i64 e2],.int .i64 0]):=zJ (fun w=>rValue_yes f hf x2 y2 b hx2 hy2 hb ob fb (by omega) _ _ _ _ _ _ e2' rfl rfl w);have KV3:zZ 48 #[.int .u8 f,.agg #[.int .u64 x3,.int .u64 y3]] (.tuple #[.agg #[.bool b3,.string (yN n3),.string (yN d3'),.int .i64 e3],.int .i64 0]):=zJ (fun w=>rValue_yes f hf x3 y3 c hx3 hy3 hc oc fc (by omega) _ _ _ _ _ _ e3' rfl rfl w);have KM:zZ 53 #[.agg #[.bool b1,.string (yN n1),.string (yN d1'),.int .i64 e1],.agg #[.bool b2,.string (yN n2),.string (yN d2'),.int .i64 e2]] (.tuple #[.agg #[.bool pb,.string (yN pn),.string (yN pd),.int .i64 pe],.int .i64 0]):=zJ (fun w=>rMul_ok _ _ _ _ _ _ _ _ _ _ _ _ pb pn pd pe 0 _ _ rfl rfl rfl rfl va vb p1 rfl rfl w);have KA:zZ 54 #[.agg #[.bool pb,.string (yN pn),.string (yN pd),.int .i64 pe],.agg #[.bool b3,.string (yN n3),.string (yN d3'),.int .i64 e3]] (.tuple #[.agg #[.bool zb,.string (yN zn),.string (yN 1),.int .i64 ze],.int .i64 0]):=zJ (fun w=>rAdd_ok _ _ _ _ _ _ _ _ _ _ _ _ zb zn 1 ze 0 _ _ rfl rfl rfl rfl p2 vc p4 rfl rfl w)
 rcases p7 with ⟨z1,z2,z3,z4⟩|⟨z1,z2,z3⟩
 ·
  subst z1 z2 z3;rw [z4] at hr
  unfold fmD at hr
  rw [if_pos rfl] at hr;injection hr with r1 r2;subst r1 r2;rw [yX] at KA
  by_cases gz:c1=3∨c1=4∨c2=3∨c2=4
  ·
   exact rfm_zero f m x1 y1 x2 y2 x3 y3 u v _ s1 s2 s3 neg hng b1 _ _ e1 b2 _ _ e2 b3 _ _ e3 pb _ _ pe false _ _ 0 w KF (KI1 false (decide_eq_false (by omega))) (KI2 false (decide_eq_false (by omega))) (H2Z gz) (zJ (Or.inr ⟨KN1,zJ (Or.inr ⟨KN2,zJ (Or.inr ⟨KN3,KS1,KS2,zJ (Or.inr ⟨KI3,zJ (Or.inr (Or.inr ⟨KZ3 false (decide_eq_false (fun q=>zz ⟨gz,q⟩)),KV1,KV2,KV3,KM,KA,zJ (Or.inr ⟨by decide +kernel,KNO hv,rfl⟩)⟩))⟩)⟩)⟩)⟩))
  ·
   exact rfm_fin f m x1 y1 x2 y2 x3 y3 u v _ s1 s2 s3 neg hng b1 _ _ e1 b2 _ _ e2 b3 _ _ e3 pb _ _ pe false _ _ 0 w KF (KI1 false (decide_eq_false (by omega))) (KI2 false (decide_eq_false (by omega))) (KZ1 false (decide_eq_false (by omega))) (KZ2 false (decide_eq_false (by omega))) (zJ (Or.inr ⟨KN1,zJ (Or.inr ⟨KN2,zJ (Or.inr ⟨KN3,KS1,KS2,zJ (Or.inr ⟨KI3,KV1,KV2,KV3,KM,KA,zJ (Or.inr ⟨by decide +kernel,KNO hv,rfl⟩)⟩)⟩)⟩)⟩))
 ·
  have KR:zZ 50 #[.int .u8 f,.int .u8 m,.agg #[.bool zb,.string (yN zn),.string (yN 1),.int .i64 ze]] (.tuple #[.agg #[.int .u64 u,.int .u64 v],.int .u8 fl,.int .i64 0]):=zJ (fun w=>rRound_is0 f m hf hm zb zn 1 _ _ ze rfl rfl p5 p6 (Nat.le_trans (qT 1 1 (by decide)) (by decide)) M fl (by rw [z3];exact hr) u v hv w)
  have he:(yN zn).toList.isEmpty=false:=by
   rcases x_cases (s:=yN zn) (t:=yN 1) rfl rfl p5 with ⟨q,_⟩|⟨_,q⟩
   ·
    exact absurd q z1
   ·
    cases h:(yN zn).toList with
    | nil=>rw [h] at q;exact absurd q (by decide)
    | cons a l=>rfl
  by_cases gz:c1=3∨c1=4∨c2=3∨c2=4
  ·
   exact rfm_zero f m x1 y1 x2 y2 x3 y3 u v fl s1 s2 s3 neg hng b1 _ _ e1 b2 _ _ e2 b3 _ _ e3 pb _ _ pe zb _ _ ze w KF (KI1 false (decide_eq_false (by omega))) (KI2 false (decide_eq_false (by omega))) (H2Z gz) (zJ (Or.inr ⟨KN1,zJ (Or.inr ⟨KN2,zJ (Or.inr ⟨KN3,KS1,KS2,zJ (Or.inr ⟨KI3,zJ (Or.inr (Or.inr ⟨KZ3 false (decide_eq_false (fun q=>zz ⟨gz,q⟩)),KV1,KV2,KV3,KM,KA,zJ (Or.inl ⟨he,KR⟩)⟩))⟩)⟩)⟩)⟩))
  ·
   exact rfm_fin f m x1 y1 x2 y2 x3 y3 u v fl s1 s2 s3 neg hng b1 _ _ e1 b2 _ _ e2 b3 _ _ e3 pb _ _ pe zb _ _ ze w KF (KI1 false (decide_eq_false (by omega))) (KI2 false (decide_eq_false (by omega))) (KZ1 false (decide_eq_false (by omega))) (KZ2 false (decide_eq_false (by omega))) (zJ (Or.inr ⟨KN1,zJ (Or.inr ⟨KN2,zJ (Or.inr ⟨KN3,KS1,KS2,zJ (Or.inr ⟨KI3,KV1,KV2,KV3,KM,KA,zJ (Or.inl ⟨he,KR⟩)⟩)⟩)⟩)⟩))
theorem fit_okF {f:Int} (hf:y7 f) {n:Nat} (hn:Fit f n):okB f n=true/\n<340282366920938463463374607431768211456:=by
 have:=(fm hf).2.2.2.2.2.2
 have hn2:n<2*2 ^ wV f:=hn;refine ⟨?_,by omega⟩
 unfold okB
 rw [decide_eq_true_iff];exact⟨is4_le hf,hn⟩
end Go.Proofs.YtapikkbifdldfaaGreatDoor
namespace Go.Proofs.YtapikkbifdldfaaGreatDoor
set_option maxRecDepth 100000
set_option maxHeartbeats 40000000
open Go.RowKit WMath
set_option linter.unusedSimpArgs false
set_option linter.unusedVariables false
theorem gen_abacusref15_Dot_14 {X:Act->World->Prop} {R:World->Nat->Prop} {t0 t1 t2 t3 t4 t5 t6 t7 t8 t9 t10 t11 t12 t13 t15 t16 t17 t18 t19 t20 t21 t22 t23 t24 t25 t26 t27 t28 t29 t30 t31 t32 t33 t34 t35 t36 t37 t38 t39 t40 t41 t42 t43 t44 t45 t46 t47 t48 t49 t50 t51 t52 t53 t54 t55 t56 t57 t58 t59 t60 t61 t62 t63 t64:Value} {d:List Deferred} {W:World} {G:Nat}
  (key:∀ w5 g,R w5 g->X ⟨#[t0,t1,t2,t3,t4,t5,t6,t7,t8,t9,t10,t11,t12,t13,.pointer (some ⟨g,0,none⟩),t15,t16,t17,t18,t19,t20,t21,t22,t23,t24,t25,t26,t27,t28,t29,t30,t31,t32,t33,t34,t35,t36,t37,t38,t39,t40,t41,t42,t43,t44,t45,t46,t47,t48,t49,t50,t51,t52,t53,t54,t55,t56,t57,t58,t59,t60,t61,t62,t63,t64],d⟩ w5) (r:R W G):X ⟨#[t0,t1,t2,t3,t4,t5,t6,t7,t8,t9,t10,t11,t12,t13,.pointer (some ⟨G,0,none⟩),t15,t16,t17,t18,t19,t20,t21,t22,t23,t24,t25,t26,t27,t28,t29,t30,t31,t32,t33,t34,t35,t36,t37,t38,t39,t40,t41,t42,t43,t44,t45,t46,t47,t48,t49,t50,t51,t52,t53,t54,t55,t56,t57,t58,t59,t60,t61,t62,t63,t64],d⟩ W:=key W G r

def fZ (T:Nat×Nat->Nat×Nat->Nat×Nat->(Nat×Nat)×Int):Nat×Nat->Int->List ((Nat×Nat)×(Nat×Nat))->(Nat×Nat)×Int
  | p,a,[]=>(p,a)
  | p,a,q :: t=>fZ T (T q.1 q.2 p).1 (bits .or .u8 a (T q.1 q.2 p).2) t
theorem fZ_snoc (T:Nat×Nat->Nat×Nat->Nat×Nat->(Nat×Nat)×Int)(l:List ((Nat×Nat)×(Nat×Nat)))(q:(Nat×Nat)×(Nat×Nat)):∀ (p:Nat×Nat) (a:Int),fZ T p a (l ++ [q])=((T q.1 q.2 (fZ T p a l).1).1,bits .or .u8 (fZ T p a l).2 (T q.1 q.2 (fZ T p a l).1).2):=by
 induction l with
 | nil=>intro p a;rfl
 | cons x t ih=>intro p a;exact ih _ _
theorem fZ_take (T:Nat×Nat->Nat×Nat->Nat×Nat->(Nat×Nat)×Int)(l:List ((Nat×Nat)×(Nat×Nat)))(k:Nat)(q:(Nat×Nat)×(Nat×Nat))(h:l[k]?=some q)(p:Nat×Nat)(a:Int):fZ T p a (l.take (k+1))=((T q.1 q.2 (fZ T p a (l.take k)).1).1,bits .or .u8 (fZ T p a (l.take k)).2 (T q.1 q.2 (fZ T p a (l.take k)).1).2):=by
 rw [List.take_add_one,h];exact fZ_snoc T _ q p a
theorem fZ_ok (T:Nat×Nat->Nat×Nat->Nat×Nat->(Nat×Nat)×Int)(ok:Nat×Nat->Prop)(hs:∀ p q s,ok p->ok q->ok s->ok (T p q s).1)(l:List ((Nat×Nat)×(Nat×Nat))):∀ (p:Nat×Nat) (a:Int),ok p->(∀ q ∈ l,ok q.1/\ok q.2)->ok (fZ T p a l).1:=by
 induction l with
 | nil=>intro p a h _;exact h
 | cons x t ih=>intro p a h hl;exact ih _ _ (hs _ _ _ (hl x (List.mem_cons_self ..)).1 (hl x (List.mem_cons_self ..)).2 h) (fun q hq=>hl q (List.mem_cons_of_mem _ hq))
theorem zip_at (l1 l2:List (Nat×Nat))(k:Nat)(p q:Nat×Nat)(h1:l1[k]?=some p)(h2:l2[k]?=some q):(l1.zip l2)[k]?=some (p,q):=by
 rw [List.getElem?_zip_eq_some];exact⟨h1,h2⟩
theorem zip_len (l1 l2:List (Nat×Nat))(L:Nat)(h1:l1.length=L)(h2:l2.length=L):(l1.zip l2).length=L:=by
 rw [List.length_zip,h1,h2,Nat.min_self]
theorem rdt_list (f m:Int)(T:Nat×Nat->Nat×Nat->Nat×Nat->(Nat×Nat)×Int)(ok:Nat×Nat->Prop)(hs:zW (∀ p q s,ok p->ok q->ok s->ok (T p q s).1))(l1 l2:List (Nat×Nat))(L g1 z1 c1 g2 z2 c2:Nat)(w:World)(hl1:l1.length=L)(hl2:l2.length=L)(hL:L<=1000)(h0:ok (0,0))(hok1:zW (∀ p ∈ l1,ok p))(hok2:zW (∀ p ∈ l2,ok p))
  (HC1:zW (∀ W,Below w.heap.size w W->∀ k p,l1[k]?=some p->W.cell? ⟨g1,z1+k*2,none⟩=some (.int .u64 (p.1:Nat))/\W.cell? ⟨g1,z1+k*2+1,none⟩=some (.int .u64 (p.2:Nat))))
  (HC2:zW (∀ W,Below w.heap.size w W->∀ k p,l2[k]?=some p->W.cell? ⟨g2,z2+k*2,none⟩=some (.int .u64 (p.1:Nat))/\W.cell? ⟨g2,z2+k*2+1,none⟩=some (.int .u64 (p.2:Nat))))
  (KM1:zW (∀ w',Below w.heap.size w w'->Calls Tryz.prog 40 #[.int .u8 f,.int .u8 m,.slice (some ⟨g1,z1,none⟩) L c1] w' fun r w2=>r=.returned (.bool true)/\Below w'.heap.size w' w2))
  (KM2:zW (∀ w',Below w.heap.size w w'->Calls Tryz.prog 40 #[.int .u8 f,.int .u8 m,.slice (some ⟨g2,z2,none⟩) L c2] w' fun r w2=>r=.returned (.bool true)/\Below w'.heap.size w' w2))
  (KT:zW (∀ p q s,ok p->ok q->ok s->∀ w,Calls Tryz.prog 13 #[.int .u8 f,.int .u8 m,.agg #[.int .u64 (p.1:Nat),.int .u64 (p.2:Nat)],.agg #[.int .u64 (q.1:Nat),.int .u64 (q.2:Nat)],.agg #[.int .u64 (s.1:Nat),.int .u64 (s.2:Nat)]] w fun r w'=>r=.returned (.tuple #[.agg #[.int .u64 ((T p q s).1.1:Nat),.int .u64 ((T p q s).1.2:Nat)],.int .u8 (T p q s).2,.int .i64 0])/\Below w.heap.size w w'))
  (rp:Nat×Nat) (ra:Int) (HR:zW (fZ T (0,0) 0 (l1.zip l2)=(rp,ra))):Calls Tryz.prog 20 #[.int .u8 f,.int .u8 m,.slice (some ⟨g1,z1,none⟩) L c1,.slice (some ⟨g2,z2,none⟩) L c2] w fun r w'=>r=.returned (.tuple #[.agg #[.int .u64 (rp.1:Nat),.int .u64 (rp.2:Nat)],.int .u8 ra,.int .i64 0])/\Below w.heap.size w w':=by
 have HL1:=zJ hl1;have HL2:=zJ hl2;have HZ:=zJ (zip_len l1 l2 L hl1 hl2);have H0:=zJ h0;clear hl1 hl2 h0;obtain⟨Ai,B0⟩:=yR w (Obj.cells #[.int .u64 0,.int .u64 0] 26)
 go_enter Tryz.func20,Tryz.ntmps20
 go_wp2_with fail
 refine (KM1.out _ B0).mono ?_;rintro r w1 ⟨rfl,b1⟩;go_wp2_with fail
 refine (KM2.out _ (zS B0 b1)).mono ?_;rintro r w2 ⟨rfl,b2⟩;go_wp2
 have Ag:=zA (zS b1 b2) _ _ _ Ai;have Ac:=heap_alloc_last w2 (.cells #[.int .u64 0,.int .u64 0] 26);have b3:=yK w2 (.cells #[.int .u64 0,.int .u64 0] 26);have Ah:=zA b3 _ _ _ Ag;have B2:=zS (zS (zS B0 b1) b2) b3;have gz:=(Array.getElem?_eq_some_iff.1 Ag).1;obtain⟨gs,hgs⟩:∃ g,w2.heap.size=g:=⟨_,rfl⟩;obtain⟨V,hV⟩:∃ V,w2.alloc (.cells #[.int .u64 0,.int .u64 0] 26)=V:=⟨_,rfl⟩;rw [hV] at Ac Ah B2 ⊢;rw [hgs] at Ac gz ⊢;clear hV hgs Ag b3 b2 b1 B0 Ai KM1 KM2
 go_loopw [12,13] (fun av iv wr=>∃ (k:Nat) (cur:Nat×Nat) (a:Int),k<=L/\iv=.int .i64 (k:Int)/\av=.int .u8 a/\Below w.heap.size w wr/\wr.heap[w.heap.size]?=some (.cells #[.int .u64 0,.int .u64 0] 26)/\wr.heap[gs]?=some (.cells #[.int .u64 (cur.1:Nat),.int .u64 (cur.2:Nat)] 26)/\zW (fZ T (0,0) 0 ((l1.zip l2).take k)=(cur,a))) (fun _ iv _=>L-(intOf iv).toNat)
 case atStart=>exact⟨0,(0,0),0,by omega,rfl,rfl,B2,Ah,Ac,zJ rfl⟩
 case round=>
  obtain⟨k,cur,a,hk,rfl,rfl,B20,Aa,Ab,HA⟩:=hrel;obtain⟨w20,hw⟩:∃ w20,w20=wr:=⟨_,rfl⟩;subst hw;clear Ah Ac B2
  have okc:ok cur:=by
   have:=fZ_ok T ok hs.out ((l1.zip l2).take k) (0,0) 0 H0.out (fun q hq=>by
    have hm:=List.of_mem_zip (List.mem_of_mem_take hq);exact⟨hok1.out _ hm.1,hok2.out _ hm.2⟩)
   rw [HA.out] at this;exact this
  have OC:=zJ okc;clear okc
  by_cases hlt:k<L
  ·
   obtain⟨p,hp⟩:∃ q,l1[k]?=some q:=⟨_,List.getElem?_eq_getElem (by rw [HL1.out];exact hlt)⟩;obtain⟨q,hq⟩:∃ q,l2[k]?=some q:=⟨_,List.getElem?_eq_getElem (by rw [HL2.out];exact hlt)⟩;obtain⟨e0,e1⟩:=HC1.out _ B20 k p hp;obtain⟨e2,e3⟩:=HC2.out _ B20 k q hq;have dl:decide ((k:Int)<(L:Int))=true:=decide_eq_true (by omega);have hb0:((0:Int)<=(k:Int))=True:=eq_true (by omega);have ft:=fZ_take T (l1.zip l2) k (p,q) (zip_at l1 l2 k p q hp hq) (0,0) 0;rw [HA.out] at ft
   simp only at ft
   have KQ:=zJ (KT.out p q cur (hok1.out p (List.mem_of_getElem? hp)) (hok2.out q (List.mem_of_getElem? hq)) OC.out);obtain⟨n1,n2,nf,hn⟩:∃ n1 n2 nf,T p q cur=((n1,n2),nf):=⟨_,_,_,rfl⟩;rw [hn] at ft KQ;have FTK:=zJ ft;clear ft hq hp hn KT;obtain⟨Ad,Ae⟩:=zC Aa;obtain⟨Ad,Ae⟩:=zC Aa;obtain⟨Aj,Ak⟩:=zC Ab;have sS:zW (∀ W W1:World,(Below w.heap.size w W/\W.heap[w.heap.size]?=some (.cells #[.int .u64 0,.int .u64 0] 26)/\W.heap[gs]?=some (.cells #[.int .u64 (cur.1:Nat),.int .u64 (cur.2:Nat)] 26)/\W.cell? ⟨w.heap.size,0,none⟩=some (.int .u64 0)/\W.cell? ⟨w.heap.size,1,none⟩=some (.int .u64 0)/\W.cell? ⟨gs,0,none⟩=some (.int .u64 (cur.1:Nat))/\W.cell? ⟨gs,1,none⟩=some (.int .u64 (cur.2:Nat))/\W.cell? ⟨g1,z1+k*2,none⟩=some (.int .u64 (p.1:Nat))/\W.cell? ⟨g1,z1+k*2+1,none⟩=some (.int .u64 (p.2:Nat))/\W.cell? ⟨g2,z2+k*2,none⟩=some (.int .u64 (q.1:Nat))/\W.cell? ⟨g2,z2+k*2+1,none⟩=some (.int .u64 (q.2:Nat)))->Below W.heap.size W W1->(Below w.heap.size w W1/\W1.heap[w.heap.size]?=some (.cells #[.int .u64 0,.int .u64 0] 26)/\W1.heap[gs]?=some (.cells #[.int .u64 (cur.1:Nat),.int .u64 (cur.2:Nat)] 26)/\W1.cell? ⟨w.heap.size,0,none⟩=some (.int .u64 0)/\W1.cell? ⟨w.heap.size,1,none⟩=some (.int .u64 0)/\W1.cell? ⟨gs,0,none⟩=some (.int .u64 (cur.1:Nat))/\W1.cell? ⟨gs,1,none⟩=some (.int .u64 (cur.2:Nat))/\W1.cell? ⟨g1,z1+k*2,none⟩=some (.int .u64 (p.1:Nat))/\W1.cell? ⟨g1,z1+k*2+1,none⟩=some (.int .u64 (p.2:Nat))/\W1.cell? ⟨g2,z2+k*2,none⟩=some (.int .u64 (q.1:Nat))/\W1.cell? ⟨g2,z2+k*2+1,none⟩=some (.int .u64 (q.2:Nat)))):=zJ (fun W W1 h b=>⟨zS h.1 b,zA b _ _ _ h.2.1,zA b _ _ _ h.2.2.1,zI (zA b _ _ _ h.2.1) 0 _ rfl,zI (zA b _ _ _ h.2.1) 1 _ rfl,zI (zA b _ _ _ h.2.2.1) 0 _ rfl,zI (zA b _ _ _ h.2.2.1) 1 _ rfl,cellB b h.2.2.2.2.2.2.2.1,cellB b h.2.2.2.2.2.2.2.2.1,cellB b h.2.2.2.2.2.2.2.2.2.1,cellB b h.2.2.2.2.2.2.2.2.2.2⟩);have sL:zW (∀ W:World,(Below w.heap.size w W/\W.heap[w.heap.size]?=some (.cells #[.int .u64 0,.int .u64 0] 26)/\W.heap[gs]?=some (.cells #[.int .u64 (cur.1:Nat),.int .u64 (cur.2:Nat)] 26)/\W.cell? ⟨w.heap.size,0,none⟩=some (.int .u64 0)/\W.cell? ⟨w.heap.size,1,none⟩=some (.int .u64 0)/\W.cell? ⟨gs,0,none⟩=some (.int .u64 (cur.1:Nat))/\W.cell? ⟨gs,1,none⟩=some (.int .u64 (cur.2:Nat))/\W.cell? ⟨g1,z1+k*2,none⟩=some (.int .u64 (p.1:Nat))/\W.cell? ⟨g1,z1+k*2+1,none⟩=some (.int .u64 (p.2:Nat))/\W.cell? ⟨g2,z2+k*2,none⟩=some (.int .u64 (q.1:Nat))/\W.cell? ⟨g2,z2+k*2+1,none⟩=some (.int .u64 (q.2:Nat)))->(w.heap.size<W.heap.size/\gs<W.heap.size/\g1<W.heap.size/\g2<W.heap.size)):=zJ (fun W h=>⟨(Array.getElem?_eq_some_iff.1 h.2.1).1,(Array.getElem?_eq_some_iff.1 h.2.2.1).1,cell_lt h.2.2.2.2.2.2.2.1,cell_lt h.2.2.2.2.2.2.2.2.2.1⟩);have sT:zW (∀ (W:World) (gN:Nat) (xA xB:Value),(Below w.heap.size w W/\W.heap[w.heap.size]?=some (.cells #[.int .u64 0,.int .u64 0] 26)/\W.heap[gs]?=some (.cells #[.int .u64 (cur.1:Nat),.int .u64 (cur.2:Nat)] 26)/\W.cell? ⟨w.heap.size,0,none⟩=some (.int .u64 0)/\W.cell? ⟨w.heap.size,1,none⟩=some (.int .u64 0)/\W.cell? ⟨gs,0,none⟩=some (.int .u64 (cur.1:Nat))/\W.cell? ⟨gs,1,none⟩=some (.int .u64 (cur.2:Nat))/\W.cell? ⟨g1,z1+k*2,none⟩=some (.int .u64 (p.1:Nat))/\W.cell? ⟨g1,z1+k*2+1,none⟩=some (.int .u64 (p.2:Nat))/\W.cell? ⟨g2,z2+k*2,none⟩=some (.int .u64 (q.1:Nat))/\W.cell? ⟨g2,z2+k*2+1,none⟩=some (.int .u64 (q.2:Nat)))->(w.heap.size<gN/\gs<gN/\g1<gN/\g2<gN)->(Below w.heap.size w ((W.setCell ⟨gN,0,none⟩ xA).setCell ⟨gN,1,none⟩ xB)/\((W.setCell ⟨gN,0,none⟩ xA).setCell ⟨gN,1,none⟩ xB).heap[w.heap.size]?=some (.cells #[.int .u64 0,.int .u64 0] 26)/\((W.setCell ⟨gN,0,none⟩ xA).setCell ⟨gN,1,none⟩ xB).heap[gs]?=some (.cells #[.int .u64 (cur.1:Nat),.int .u64 (cur.2:Nat)] 26)/\((W.setCell ⟨gN,0,none⟩ xA).setCell ⟨gN,1,none⟩ xB).cell? ⟨w.heap.size,0,none⟩=some (.int .u64 0)/\((W.setCell ⟨gN,0,none⟩ xA).setCell ⟨gN,1,none⟩ xB).cell? ⟨w.heap.size,1,none⟩=some (.int .u64 0)/\((W.setCell ⟨gN,0,none⟩ xA).setCell ⟨gN,1,none⟩ xB).cell? ⟨gs,0,none⟩=some (.int .u64 (cur.1:Nat))/\((W.setCell ⟨gN,0,none⟩ xA).setCell ⟨gN,1,none⟩ xB).cell? ⟨gs,1,none⟩=some (.int .u64 (cur.2:Nat))/\((W.setCell ⟨gN,0,none⟩ xA).setCell ⟨gN,1,none⟩ xB).cell? ⟨g1,z1+k*2,none⟩=some (.int .u64 (p.1:Nat))/\((W.setCell ⟨gN,0,none⟩ xA).setCell ⟨gN,1,none⟩ xB).cell? ⟨g1,z1+k*2+1,none⟩=some (.int .u64 (p.2:Nat))/\((W.setCell ⟨gN,0,none⟩ xA).setCell ⟨gN,1,none⟩ xB).cell? ⟨g2,z2+k*2,none⟩=some (.int .u64 (q.1:Nat))/\((W.setCell ⟨gN,0,none⟩ xA).setCell ⟨gN,1,none⟩ xB).cell? ⟨g2,z2+k*2+1,none⟩=some (.int .u64 (q.2:Nat)))):=zJ (fun W gN xA xB h l=>⟨zN h.1 (show w.heap.size<=gN by have:=l.1;omega) _ _,(zF (by have:=l.1;omega)).trans ((zF (by have:=l.1;omega)).trans h.2.1),(zF (by have:=l.2.1;omega)).trans ((zF (by have:=l.2.1;omega)).trans h.2.2.1),zI ((zF (by have:=l.1;omega)).trans ((zF (by have:=l.1;omega)).trans h.2.1)) 0 _ rfl,zI ((zF (by have:=l.1;omega)).trans ((zF (by have:=l.1;omega)).trans h.2.1)) 1 _ rfl,zI ((zF (by have:=l.2.1;omega)).trans ((zF (by have:=l.2.1;omega)).trans h.2.2.1)) 0 _ rfl,zI ((zF (by have:=l.2.1;omega)).trans ((zF (by have:=l.2.1;omega)).trans h.2.2.1)) 1 _ rfl,(cellC (by have:=l.2.2.1;omega) (cellC (by have:=l.2.2.1;omega) h.2.2.2.2.2.2.2.1)),(cellC (by have:=l.2.2.1;omega) (cellC (by have:=l.2.2.1;omega) h.2.2.2.2.2.2.2.2.1)),(cellC (by have:=l.2.2.2;omega) (cellC (by have:=l.2.2.2;omega) h.2.2.2.2.2.2.2.2.2.1)),(cellC (by have:=l.2.2.2;omega) (cellC (by have:=l.2.2.2;omega) h.2.2.2.2.2.2.2.2.2.2))⟩)
   have s0:Below w.heap.size w (w20).drew/\(w20).drew.heap[w.heap.size]?=some (.cells #[.int .u64 0,.int .u64 0] 26)/\(w20).drew.heap[gs]?=some (.cells #[.int .u64 (cur.1:Nat),.int .u64 (cur.2:Nat)] 26)/\(w20).drew.cell? ⟨w.heap.size,0,none⟩=some (.int .u64 0)/\(w20).drew.cell? ⟨w.heap.size,1,none⟩=some (.int .u64 0)/\(w20).drew.cell? ⟨gs,0,none⟩=some (.int .u64 (cur.1:Nat))/\(w20).drew.cell? ⟨gs,1,none⟩=some (.int .u64 (cur.2:Nat))/\(w20).drew.cell? ⟨g1,z1+k*2,none⟩=some (.int .u64 (p.1:Nat))/\(w20).drew.cell? ⟨g1,z1+k*2+1,none⟩=some (.int .u64 (p.2:Nat))/\(w20).drew.cell? ⟨g2,z2+k*2,none⟩=some (.int .u64 (q.1:Nat))/\(w20).drew.cell? ⟨g2,z2+k*2+1,none⟩=some (.int .u64 (q.2:Nat)):=⟨B20.drew,Aa,Ab,zI (Aa) 0 _ rfl,zI (Aa) 1 _ rfl,zI (Ab) 0 _ rfl,zI (Ab) 1 _ rfl,e0,e1,e2,e3⟩;clear B20 Aa Ad Ae Ab Aj Ak;go_wp2_with fail
   apply cut7
   ·
    intro key0;have key:=zJ key0;clear key0
    go_region_held3 (fun W=>Below w.heap.size w W/\W.heap[w.heap.size]?=some (.cells #[.int .u64 0,.int .u64 0] 26)/\W.heap[gs]?=some (.cells #[.int .u64 (cur.1:Nat),.int .u64 (cur.2:Nat)] 26)/\W.cell? ⟨w.heap.size,0,none⟩=some (.int .u64 0)/\W.cell? ⟨w.heap.size,1,none⟩=some (.int .u64 0)/\W.cell? ⟨gs,0,none⟩=some (.int .u64 (cur.1:Nat))/\W.cell? ⟨gs,1,none⟩=some (.int .u64 (cur.2:Nat))/\W.cell? ⟨g1,z1+k*2,none⟩=some (.int .u64 (p.1:Nat))/\W.cell? ⟨g1,z1+k*2+1,none⟩=some (.int .u64 (p.2:Nat))/\W.cell? ⟨g2,z2+k*2,none⟩=some (.int .u64 (q.1:Nat))/\W.cell? ⟨g2,z2+k*2+1,none⟩=some (.int .u64 (q.2:Nat))) (first|exact s1|exact s0|exact sS.out _ _ s1 (yK _ _)|exact sS.out _ _ s0 (yK _ _)|exact sT.out _ _ _ _ s1 hl)
     (first|(go_at_call 13;(first|refine (KQ.out _).mono ?_|refine (KQ.out _).mono ?_);rintro r wq ⟨rfl,bq⟩;(first|(have hg:=zA bq _ _ _ (heap_alloc_last _ _);have hl:=(by first|exact sL.out _ s1|exact sL.out _ s0))|have hg:=zA bq _ _ _ hg|skip);(try simp only [xF,zM] at hg hl);(first|(have Aq:=fz (k:=0) hg;have Ar:=fz (k:=1) hg;have As:=zI hg 0 _ rfl;have At:=zI hg 1 _ rfl)|skip);have s2:=(by first|exact sS.out _ _ s1 bq|exact sS.out _ _ s0 bq|exact sS.out _ _ (sS.out _ _ s1 (yK _ _)) bq|exact sS.out _ _ (sS.out _ _ s0 (yK _ _)) bq);(try clear s1);have s1:=s2;clear s2 bq)|fail)
    all_goals
     refine gen_abacusref15_Dot_14 (R:=fun W gN=>(Below w.heap.size w W/\W.heap[w.heap.size]?=some (.cells #[.int .u64 0,.int .u64 0] 26)/\W.heap[gs]?=some (.cells #[.int .u64 (cur.1:Nat),.int .u64 (cur.2:Nat)] 26)/\W.cell? ⟨w.heap.size,0,none⟩=some (.int .u64 0)/\W.cell? ⟨w.heap.size,1,none⟩=some (.int .u64 0)/\W.cell? ⟨gs,0,none⟩=some (.int .u64 (cur.1:Nat))/\W.cell? ⟨gs,1,none⟩=some (.int .u64 (cur.2:Nat))/\W.cell? ⟨g1,z1+k*2,none⟩=some (.int .u64 (p.1:Nat))/\W.cell? ⟨g1,z1+k*2+1,none⟩=some (.int .u64 (p.2:Nat))/\W.cell? ⟨g2,z2+k*2,none⟩=some (.int .u64 (q.1:Nat))/\W.cell? ⟨g2,z2+k*2+1,none⟩=some (.int .u64 (q.2:Nat)))/\W.heap[gN]?=some (.cells #[.int .u64 n1,.int .u64 n2] 26)/\(w.heap.size<gN/\gs<gN/\g1<gN/\g2<gN)) key.out ?_
     first
      | exact⟨(sT.out _ _ _ _ s1 hl),qS hg _ _,hl⟩
      | exact⟨sS.out _ _ s1 (yK _ _),heap_alloc_last _ _,sL.out _ s1⟩
      | exact⟨sS.out _ _ s0 (yK _ _),heap_alloc_last _ _,sL.out _ s0⟩
   rintro w21 g21 ⟨s1,Al,l21⟩;have B21:=And.left s1;have Am:=s1.2.1;have Af:=s1.2.2.1;have H21:=zJ l21;clear s0 s1 sS sL sT l21;obtain⟨Au,Av⟩:=zC Am;obtain⟨Aw,Ax⟩:=zC Af;obtain⟨Ay,Az⟩:=zC Al;have q0_22:=fz (k:=0) Af;have q1_22:=fz (k:=1) Af;have B22:=zN B21 (show w.heap.size<=gs by first|exact Nat.le_refl _|omega|(have:=H21.out;omega)) (.int .u64 n1) (.int .u64 n2);have An:((w21.setCell ⟨gs,0,none⟩ (.int .u64 n1)).setCell ⟨gs,1,none⟩ (.int .u64 n2)).heap[gs]?=some (.cells #[.int .u64 n1,.int .u64 n2] 26):=qS Af _ _;have Ao:((w21.setCell ⟨gs,0,none⟩ (.int .u64 n1)).setCell ⟨gs,1,none⟩ (.int .u64 n2)).heap[w.heap.size]?=some (.cells #[.int .u64 0,.int .u64 0] 26):=(zF (by first|omega|(have:=H21.out;omega))).trans ((zF (by first|omega|(have:=H21.out;omega))).trans Am);have Ap:((w21.setCell ⟨gs,0,none⟩ (.int .u64 n1)).setCell ⟨gs,1,none⟩ (.int .u64 n2)).heap[g21]?=some (.cells #[.int .u64 n1,.int .u64 n2] 26):=(zF (by first|omega|(have:=H21.out;omega))).trans ((zF (by first|omega|(have:=H21.out;omega))).trans Al);obtain⟨AA,AB⟩:=zC Ao;obtain⟨AC,AD⟩:=zC An;obtain⟨AE,AF⟩:=zC Ap;go_wp2
   go_roundw
   case rel=>exact⟨k+1,(n1,n2),_,by omega,by go_num,rfl,B22,Ao,An,FTK⟩
   case measure=>simp [intOf] <;> omega
  ·
   obtain rfl:k=L:=by omega
   have e:(cur,a)=(rp,ra):=by rw [<-HR.out,<-HA.out];congr 1;rw [<-HZ.out,List.take_length]
   injection e with ec ea;subst ec ea;have dl:decide ((k:Int)<(k:Int))=false:=by rw [decide_eq_false_iff_not];omega
   clear HA HC1 HC2 KT HR;obtain⟨Ad,Ae⟩:=zC Aa;obtain⟨Ad,Ae⟩:=zC Aa;obtain⟨Aj,Ak⟩:=zC Ab;have q0:=fz (k:=0) Aa;have q1:=fz (k:=1) Aa;obtain⟨E0,E1⟩:=zQ Aa (.int .u64 (cur.1:Nat)) (.int .u64 (cur.2:Nat));go_wp2
   exact bodyPost_ret (v:=.tuple #[.agg #[.int .u64 (cur.1:Nat),.int .u64 (cur.2:Nat)],.int .u8 a,.int .i64 0]) (by simp [results,Tryz.results20,go_sem,E0,E1]) rfl ⟨rfl,zN B20 (by first|exact Nat.le_refl _|omega|(skip;omega)) _ _⟩
end Go.Proofs.YtapikkbifdldfaaGreatDoor
