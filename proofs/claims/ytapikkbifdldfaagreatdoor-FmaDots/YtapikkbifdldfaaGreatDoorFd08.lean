/-
  What the functions that the statement reaches return: part 8 (Y6, S1, S2, S3).
-/
import Derived.Test.YtapikkbifdldfaaGreatDoorFd07
namespace Go.Proofs.YtapikkbifdldfaaGreatDoor
set_option maxRecDepth 100000
set_option maxHeartbeats 40000000
open Go.RowKit WMath XMath
theorem rAdd_ok (b:Bool)(n d:Nat)(e:Int)(s t:ByteArray)(c:Bool)(m f:Nat)(g:Int)(p q:ByteArray)(rb:Bool)(rn rd:Nat)(re err:Int)(u v:ByteArray)
  (hs:yN n=s) (ht:yN d=t) (hp:yN m=p) (hq:yN f=q) (hx:(XN.mk b n d e).can) (hy:(XN.mk c m f g).can) (hr:addX (XN.mk b n d e) (XN.mk c m f g)=(⟨rb,rn,rd,re⟩,err)) (hu:yN rn=u) (hv:yN rd=v) (w:World) :
  Calls Tryz.prog 54 #[.agg #[.bool b,.string s,.string t,.int .i64 e],.agg #[.bool c,.string p,.string q,.int .i64 g]] w fun r w'=>r=.returned (.tuple #[.agg #[.bool rb,.string u,.string v,.int .i64 re],.int .i64 err])/\Below w.heap.size w w':=by
 unfold addX at hr
 rcases x_cases hs ht hx with ⟨n0,rfl,rfl,rfl,rfl,rfl⟩|⟨n0,e0⟩
 ·
  rw [if_pos n0] at hr;injection hr with h1 h2;injection h1 with a1 a2 a3 a4;subst a1 a2 a3 a4 h2;rw [hp] at hu;rw [hq] at hv;subst hu hv;clear hs ht hp hq hx hy n0;obtain⟨Ac,Ad,Ae,B0⟩:=opn3 w (Obj.cells #[.bool false,.string ⟨#[]⟩,.string ⟨#[1]⟩,.int .i64 0] 70) (Obj.cells #[.bool c,.string p,.string q,.int .i64 g] 70) (Obj.cells #[.bool false,.string ⟨#[]⟩,.string ⟨#[]⟩,.int .i64 0] 70)
  go_enter Tryz.func54,Tryz.ntmps54
  clear B0 Ac Ad Ae;go_wp2
  exact bodyPost_ret (v:=.tuple #[.agg #[.bool c,.string p,.string q,.int .i64 g],.int .i64 0]) (by simp [results,Tryz.results54,go_sem]) rfl ⟨rfl,((((Below.refl _ _).alloc (by first|omega|(simp only [zM];omega)) _).alloc (by first|omega|(simp only [zM];omega)) _).alloc (by first|omega|(simp only [zM];omega)) _)⟩
 ·
  rw [if_neg n0] at hr
  rcases x_cases hp hq hy with ⟨m0,rfl,rfl,rfl,rfl,rfl⟩|⟨m0,e1⟩
  ·
   rw [if_pos m0] at hr;injection hr with h1 h2;injection h1 with a1 a2 a3 a4;subst a1 a2 a3 a4 h2;rw [hs] at hu;rw [ht] at hv;subst hu hv;clear hs ht hp hq hx hy n0 m0;obtain⟨Ac,Ad,Ae,B0⟩:=opn3 w (Obj.cells #[.bool b,.string s,.string t,.int .i64 e] 70) (Obj.cells #[.bool false,.string ⟨#[]⟩,.string ⟨#[1]⟩,.int .i64 0] 70) (Obj.cells #[.bool false,.string ⟨#[]⟩,.string ⟨#[]⟩,.int .i64 0] 70)
   go_enter Tryz.func54,Tryz.ntmps54
   clear B0 Ac Ad Ae;go_wp2
   exact bodyPost_ret (v:=.tuple #[.agg #[.bool b,.string s,.string t,.int .i64 e],.int .i64 0]) (by simp [results,Tryz.results54,go_sem]) rfl ⟨rfl,((((Below.refl _ _).alloc (by first|omega|(simp only [zM];omega)) _).alloc (by first|omega|(simp only [zM];omega)) _).alloc (by first|omega|(simp only [zM];omega)) _)⟩
  ·
   rw [if_neg m0] at hr;have ha:-1048576<=e/\e<=1048576/\-1048576<=g/\g<=1048576:=⟨hx.2.2.1,hx.2.2.2.1,hy.2.2.1,hy.2.2.2.1⟩;have l1:nl n<=16384:=hx.1;have l2:nl d<=16384:=hx.2.1;have l3:nl m<=16384:=hy.1;have l4:nl f<=16384:=hy.2.1;have d1:d≠0:=hx.d0;have d2:f≠0:=hy.d0;obtain⟨A,hA⟩:∃ A,XMath.sA (XN.mk b n d e) (XN.mk c m f g)=A:=⟨_,rfl⟩;obtain⟨B,hB⟩:∃ A,XMath.sA (XN.mk c m f g) (XN.mk b n d e)=A:=⟨_,rfl⟩;obtain⟨S,hS⟩:∃ A,sS (XN.mk b n d e) (XN.mk c m f g)=A:=⟨_,rfl⟩;obtain⟨Z,hZ⟩:∃ A,sN (XN.mk b n d e) (XN.mk c m f g)=A:=⟨_,rfl⟩;obtain⟨L,hL⟩:∃ L,min e g=L:=⟨_,rfl⟩;have hS2:S=(if b=c then A+B else if A<B then B-A else A-B):=by rw [<-hS];unfold sS;rw [hA,hB]
   have hZ2:Z=(if b=c then b else if A<B then c else b):=by rw [<-hZ];unfold sN;rw [hA,hB]
   have hr2:(if nl A<=16384/\nl B<=16384/\nl (d*f)<=16384/\nl S<=16384 then XMath.mk Z S (d*f) L else (XZ,4))=(⟨rb,rn,rd,re⟩,err):=by rw [<-hA,<-hB,<-hS,<-hZ,<-hL];exact hr
   have HT2:=zJ ht;have HQ2:=zJ hq;have L2:zW (nl d<=20000):=zJ (by omega);have L4:zW (nl f<=20000):=zJ (by omega)
   by_cases h12:nl A<=16384/\nl B<=16384
   ·
    obtain⟨x,hxa⟩:∃ x,yN A=x:=⟨_,rfl⟩;obtain⟨y,hyb⟩:∃ x,yN B=x:=⟨_,rfl⟩;have K1:=zJ (fun w=>rTwo b n d e s t c m f g p q x y L 0 hs ht hp hq l1 l2 l3 l4 ha (by unfold twX;rw [hA,hB,if_pos h12,hxa,hyb];show ((x,y),(min e g,(0:Int)))=_;rw [hL]) w);have HA:=zJ hxa;have HB:=zJ hyb;have LA:zW (nl A<=20000):=zJ (by omega);have LB:zW (nl B<=20000):=zJ (by omega)
    by_cases h3:nl (d*f)<=16384
    ·
     obtain⟨z,hz⟩:∃ x,yN (d*f)=x:=⟨_,rfl⟩;have HX:=zJ (lg_ok (d*f) z h3 hz)
     by_cases hbc:b=c
     ·
      subst hbc;rw [if_pos rfl] at hS2 hZ2
      by_cases h4:nl S<=16384
      ·
       obtain⟨y2,hy2⟩:∃ x,yN S=x:=⟨_,rfl⟩;rw [if_pos ⟨h12.1,h12.2,h3,h4⟩,hZ2] at hr2;have HS2:zW (lg (A+B)=(y2,0)):=zJ (by rw [<-hS2];exact lg_ok S y2 h4 hy2);have K3:=zJ (fun w=>rmake_ok b S (d*f) L y2 z rb rn rd re err u v hy2 hz h4 h3 (mul_ne d1 d2) (by omega) (by omega) hr2 hu hv w);have eb:(b == b)=true:=by cases b <;> rfl
       clear hs ht hp hq hx hy hr hr2 hu hv n0 m0 l1 l2 l3 l4 d1 d2 hA hB hS hZ hS2 hZ2 h12 h3 h4 hxa hyb hz hy2 ha hL;obtain⟨Ac,Ad,Ae,B0⟩:=opn3 w (Obj.cells #[.bool b,.string s,.string t,.int .i64 e] 70) (Obj.cells #[.bool b,.string p,.string q,.int .i64 g] 70) (Obj.cells #[.bool false,.string ⟨#[]⟩,.string ⟨#[]⟩,.int .i64 0] 70)
       go_enter Tryz.func54,Tryz.ntmps54
       go_wp2_with fail
       refine (K1.out _).mono ?_;rintro r w1 ⟨rfl,b1⟩;have B1:=zS B0 b1;obtain⟨Af,Ag,Aa⟩:=yJ b1 Ac Ad Ae;clear b1 B0 Ac Ad Ae;obtain⟨An,Ao,Ap,Aq⟩:=zE Af;obtain⟨Ar,As,At,Au⟩:=zE Ag;obtain⟨Av,Aw,Ax,Ay⟩:=zE Aa;go_wp2_with fail
       refine (yS d f t q z 0 HT2.out HQ2.out HX.out L2.out L4.out _).mono ?_;rintro r w2 ⟨rfl,b2⟩;have B2:=zS B1 b2;obtain⟨Aj,Ak,Ab⟩:=yJ b2 Af Ag Aa;clear b2 B1 Af An Ao Ap Aq Ag Ar As At Au Aa Av Aw Ax Ay;obtain⟨Az,AA,AB,AC⟩:=zE Aj;obtain⟨AD,AE,AF,AG⟩:=zE Ak;obtain⟨AH,AI,AJ,AK⟩:=zE Ab;go_wp2_with fail
       refine (nat_Add A B x y y2 0 HA.out HB.out HS2.out LA.out LB.out _).mono ?_;rintro r w3 ⟨rfl,b3⟩;have B3:=zS B2 b3;obtain⟨Al,Am,Ai⟩:=yJ b3 Aj Ak Ab;clear b3 B2 Aj Az AA AB AC Ak AD AE AF AG Ab AH AI AJ AK;obtain⟨AL,AM,AN,AO⟩:=zE Al;obtain⟨AP,AQ,AR,AS⟩:=zE Am;obtain⟨AT,AU,AV,AW⟩:=zE Ai;go_wp2_with fail
       refine (K3.out _).mono ?_;rintro r w4 ⟨rfl,b4⟩;have B4:=zS B3 b4;obtain⟨AX,AY,Ah⟩:=yJ b4 Al Am Ai;clear b4 B3 Al AL AM AN AO Am AP AQ AR AS Ai AT AU AV AW;obtain⟨AZ,A0,A1,A2⟩:=zE AX;obtain⟨A3,A4,A5,A6⟩:=zE AY;obtain⟨A7,A8,A9,Ba⟩:=zE Ah;have q0:=fz (k:=0) Ah;have q1:=fz (k:=1) Ah;have q2:=fz (k:=2) Ah;have q3:=fz (k:=3) Ah;obtain⟨E0,E1,E2,E3⟩:=yO Ah rfl (.bool rb) (.string u) (.string v) (.int .i64 re);go_wp2
       exact bodyPost_ret (v:=.tuple #[.agg #[.bool rb,.string u,.string v,.int .i64 re],.int .i64 err]) (by simp [results,Tryz.results54,go_sem,E0,E1,E2,E3]) rfl ⟨rfl,yG B4 (by first|exact Nat.le_refl _|omega|(skip;omega)) _ _ _ _⟩
      ·
       rw [if_neg (fun h=>h4 h.2.2.2)] at hr2;obtain⟨rfl,rfl,rfl,rfl,rfl⟩:=xz_is hr2;rw [yX] at hu hv;subst hu hv;have HS2:zW (lg (A+B)=(⟨#[]⟩,4)):=zJ (by rw [<-hS2];exact lg_no S h4);have eb:(b == b)=true:=by cases b <;> rfl
       clear hs ht hp hq hx hy hr hr2 n0 m0 l1 l2 l3 l4 d1 d2 hA hB hS hZ hS2 hZ2 h12 h3 h4 hxa hyb hz ha hL;obtain⟨Ac,Ad,Ae,B0⟩:=opn3 w (Obj.cells #[.bool b,.string s,.string t,.int .i64 e] 70) (Obj.cells #[.bool b,.string p,.string q,.int .i64 g] 70) (Obj.cells #[.bool false,.string ⟨#[]⟩,.string ⟨#[]⟩,.int .i64 0] 70)
       go_enter Tryz.func54,Tryz.ntmps54
       go_wp2_with fail
       refine (K1.out _).mono ?_;rintro r w1 ⟨rfl,b1⟩;have B1:=zS B0 b1;obtain⟨Af,Ag,Aa⟩:=yJ b1 Ac Ad Ae;clear b1 B0 Ac Ad Ae;obtain⟨An,Ao,Ap,Aq⟩:=zE Af;obtain⟨Ar,As,At,Au⟩:=zE Ag;obtain⟨Av,Aw,Ax,Ay⟩:=zE Aa;go_wp2_with fail
       refine (yS d f t q z 0 HT2.out HQ2.out HX.out L2.out L4.out _).mono ?_;rintro r w2 ⟨rfl,b2⟩;have B2:=zS B1 b2;obtain⟨Aj,Ak,Ab⟩:=yJ b2 Af Ag Aa;clear b2 B1 Af An Ao Ap Aq Ag Ar As At Au Aa Av Aw Ax Ay;obtain⟨Az,AA,AB,AC⟩:=zE Aj;obtain⟨AD,AE,AF,AG⟩:=zE Ak;obtain⟨AH,AI,AJ,AK⟩:=zE Ab;go_wp2_with fail
       refine (nat_Add A B x y _ 4 HA.out HB.out HS2.out LA.out LB.out _).mono ?_;rintro r w3 ⟨rfl,b3⟩;have B3:=zS B2 b3;obtain⟨Al,Am,Ai⟩:=yJ b3 Aj Ak Ab;clear b3 B2 Aj Az AA AB AC Ak AD AE AF AG Ab AH AI AJ AK;obtain⟨AL,AM,AN,AO⟩:=zE Al;obtain⟨AP,AQ,AR,AS⟩:=zE Am;obtain⟨AT,AU,AV,AW⟩:=zE Ai;have q0:=fz (k:=0) Ai;have q1:=fz (k:=1) Ai;have q2:=fz (k:=2) Ai;have q3:=fz (k:=3) Ai;obtain⟨E0,E1,E2,E3⟩:=yO Ai rfl (.bool false) (.string ⟨#[]⟩) (.string ⟨#[]⟩) (.int .i64 0);go_wp2
       exact bodyPost_ret (v:=.tuple #[.agg #[.bool false,.string ⟨#[]⟩,.string ⟨#[]⟩,.int .i64 0],.int .i64 4]) (by simp [results,Tryz.results54,go_sem,E0,E1,E2,E3]) rfl ⟨rfl,yG B3 (by first|exact Nat.le_refl _|omega|(skip;omega)) _ _ _ _⟩
     ·
      have eb:(b == c)=false:=by cases b <;> cases c <;> first|rfl|exact absurd rfl hbc
      have h4:nl S<=16384:=by rw [<-hS];exact sS_nl (XN.mk b n d e) (XN.mk c m f g) (by rw [hA];exact h12.1) (by rw [hB];exact h12.2) hbc
      obtain⟨y2,hy2⟩:∃ x,yN S=x:=⟨_,rfl⟩;rw [if_pos ⟨h12.1,h12.2,h3,h4⟩] at hr2;rw [if_neg hbc] at hS2 hZ2;obtain⟨k,hk⟩:∃ k,q8 A B=k:=⟨_,rfl⟩;have HK:=zJ hk;have K3:=zJ (fun w=>rmake_ok Z S (d*f) L y2 z rb rn rd re err u v hy2 hz h4 h3 (mul_ne d1 d2) (by omega) (by omega) hr2 hu hv w)
      by_cases hl:A<B
      ·
       rw [if_pos hl] at hS2 hZ2;have g0:decide ((0:Int)<=k)=false:=decide_eq_false (by have:=(cmpv_neg A B).2 hl;omega);have HS2:zW (sb B A=(y2,0)):=zJ (by unfold sb;rw [if_neg (by omega),<-hS2,hy2]);subst hZ2;clear hs ht hp hq hx hy hr hr2 hu hv n0 m0 l1 l2 l3 l4 d1 d2 hA hB hS hZ hS2 h12 h3 h4 hxa hyb hz hy2 ha hL hk hl hbc;obtain⟨Ac,Ad,Ae,B0⟩:=opn3 w (Obj.cells #[.bool b,.string s,.string t,.int .i64 e] 70) (Obj.cells #[.bool Z,.string p,.string q,.int .i64 g] 70) (Obj.cells #[.bool false,.string ⟨#[]⟩,.string ⟨#[]⟩,.int .i64 0] 70)
       go_enter Tryz.func54,Tryz.ntmps54
       go_wp2_with fail
       refine (K1.out _).mono ?_;rintro r w1 ⟨rfl,b1⟩;have B1:=zS B0 b1;obtain⟨Af,Ag,Aa⟩:=yJ b1 Ac Ad Ae;clear b1 B0 Ac Ad Ae;obtain⟨An,Ao,Ap,Aq⟩:=zE Af;obtain⟨Ar,As,At,Au⟩:=zE Ag;obtain⟨Av,Aw,Ax,Ay⟩:=zE Aa;go_wp2_with fail
       refine (yS d f t q z 0 HT2.out HQ2.out HX.out L2.out L4.out _).mono ?_;rintro r w2 ⟨rfl,b2⟩;have B2:=zS B1 b2;obtain⟨Aj,Ak,Ab⟩:=yJ b2 Af Ag Aa;clear b2 B1 Af An Ao Ap Aq Ag Ar As At Au Aa Av Aw Ax Ay;obtain⟨Az,AA,AB,AC⟩:=zE Aj;obtain⟨AD,AE,AF,AG⟩:=zE Ak;obtain⟨AH,AI,AJ,AK⟩:=zE Ab;go_wp2_with fail
       refine (qV A B x y k HA.out HB.out HK.out _).mono ?_;rintro r w' ⟨rfl,rfl⟩;go_wp2_with fail
       refine (nat_Sub B A y x y2 0 HB.out HA.out HS2.out LB.out _).mono ?_;rintro r w3 ⟨rfl,b3⟩;have B3:=zS B2 b3;obtain⟨Al,Am,Ai⟩:=yJ b3 Aj Ak Ab;clear b3 B2 Aj Az AA AB AC Ak AD AE AF AG Ab AH AI AJ AK;obtain⟨AL,AM,AN,AO⟩:=zE Al;obtain⟨AP,AQ,AR,AS⟩:=zE Am;obtain⟨AT,AU,AV,AW⟩:=zE Ai;go_wp2_with fail
       refine (K3.out _).mono ?_;rintro r w4 ⟨rfl,b4⟩;have B4:=zS B3 b4;obtain⟨AX,AY,Ah⟩:=yJ b4 Al Am Ai;clear b4 B3 Al AL AM AN AO Am AP AQ AR AS Ai AT AU AV AW;obtain⟨AZ,A0,A1,A2⟩:=zE AX;obtain⟨A3,A4,A5,A6⟩:=zE AY;obtain⟨A7,A8,A9,Ba⟩:=zE Ah;have q0:=fz (k:=0) Ah;have q1:=fz (k:=1) Ah;have q2:=fz (k:=2) Ah;have q3:=fz (k:=3) Ah;obtain⟨E0,E1,E2,E3⟩:=yO Ah rfl (.bool rb) (.string u) (.string v) (.int .i64 re);go_wp2
       exact bodyPost_ret (v:=.tuple #[.agg #[.bool rb,.string u,.string v,.int .i64 re],.int .i64 err]) (by simp [results,Tryz.results54,go_sem,E0,E1,E2,E3]) rfl ⟨rfl,yG B4 (by first|exact Nat.le_refl _|omega|(skip;omega)) _ _ _ _⟩
      ·
       rw [if_neg hl] at hS2 hZ2;have g0:decide ((0:Int)<=k)=true:=decide_eq_true (by have:=mt (cmpv_neg A B).1 hl;omega);have HS2:zW (sb A B=(y2,0)):=zJ (by unfold sb;rw [if_neg hl,<-hS2,hy2]);subst hZ2;clear hs ht hp hq hx hy hr hr2 hu hv n0 m0 l1 l2 l3 l4 d1 d2 hA hB hS hZ hS2 h12 h3 h4 hxa hyb hz hy2 ha hL hk hl hbc;obtain⟨Ac,Ad,Ae,B0⟩:=opn3 w (Obj.cells #[.bool Z,.string s,.string t,.int .i64 e] 70) (Obj.cells #[.bool c,.string p,.string q,.int .i64 g] 70) (Obj.cells #[.bool false,.string ⟨#[]⟩,.string ⟨#[]⟩,.int .i64 0] 70)
       go_enter Tryz.func54,Tryz.ntmps54
       go_wp2_with fail
       refine (K1.out _).mono ?_;rintro r w1 ⟨rfl,b1⟩;have B1:=zS B0 b1;obtain⟨Af,Ag,Aa⟩:=yJ b1 Ac Ad Ae;clear b1 B0 Ac Ad Ae;obtain⟨An,Ao,Ap,Aq⟩:=zE Af;obtain⟨Ar,As,At,Au⟩:=zE Ag;obtain⟨Av,Aw,Ax,Ay⟩:=zE Aa;go_wp2_with fail
       refine (yS d f t q z 0 HT2.out HQ2.out HX.out L2.out L4.out _).mono ?_;rintro r w2 ⟨rfl,b2⟩;have B2:=zS B1 b2;obtain⟨Aj,Ak,Ab⟩:=yJ b2 Af Ag Aa;clear b2 B1 Af An Ao Ap Aq Ag Ar As At Au Aa Av Aw Ax Ay;obtain⟨Az,AA,AB,AC⟩:=zE Aj;obtain⟨AD,AE,AF,AG⟩:=zE Ak;obtain⟨AH,AI,AJ,AK⟩:=zE Ab;go_wp2_with fail
       refine (qV A B x y k HA.out HB.out HK.out _).mono ?_;rintro r w' ⟨rfl,rfl⟩;go_wp2_with fail
       refine (nat_Sub A B x y y2 0 HA.out HB.out HS2.out LA.out _).mono ?_;rintro r w3 ⟨rfl,b3⟩;have B3:=zS B2 b3;obtain⟨Al,Am,Ai⟩:=yJ b3 Aj Ak Ab;clear b3 B2 Aj Az AA AB AC Ak AD AE AF AG Ab AH AI AJ AK;obtain⟨AL,AM,AN,AO⟩:=zE Al;obtain⟨AP,AQ,AR,AS⟩:=zE Am;obtain⟨AT,AU,AV,AW⟩:=zE Ai;go_wp2_with fail
       refine (K3.out _).mono ?_;rintro r w4 ⟨rfl,b4⟩;have B4:=zS B3 b4;obtain⟨AX,AY,Ah⟩:=yJ b4 Al Am Ai;clear b4 B3 Al AL AM AN AO Am AP AQ AR AS Ai AT AU AV AW;obtain⟨AZ,A0,A1,A2⟩:=zE AX;obtain⟨A3,A4,A5,A6⟩:=zE AY;obtain⟨A7,A8,A9,Ba⟩:=zE Ah;have q0:=fz (k:=0) Ah;have q1:=fz (k:=1) Ah;have q2:=fz (k:=2) Ah;have q3:=fz (k:=3) Ah;obtain⟨E0,E1,E2,E3⟩:=yO Ah rfl (.bool rb) (.string u) (.string v) (.int .i64 re);go_wp2
       exact bodyPost_ret (v:=.tuple #[.agg #[.bool rb,.string u,.string v,.int .i64 re],.int .i64 err]) (by simp [results,Tryz.results54,go_sem,E0,E1,E2,E3]) rfl ⟨rfl,yG B4 (by first|exact Nat.le_refl _|omega|(skip;omega)) _ _ _ _⟩
    ·
     have HX:=zJ (lg_no (d*f) h3);rw [if_neg (fun h=>h3 h.2.2.1)] at hr2;obtain⟨rfl,rfl,rfl,rfl,rfl⟩:=xz_is hr2;rw [yX] at hu hv;subst hu hv;clear hs ht hp hq hx hy hr hr2 n0 m0 l1 l2 l3 l4 d1 d2 hA hB hS hZ hS2 hZ2 h12 h3 hxa hyb ha hL;obtain⟨Ac,Ad,Ae,B0⟩:=opn3 w (Obj.cells #[.bool b,.string s,.string t,.int .i64 e] 70) (Obj.cells #[.bool c,.string p,.string q,.int .i64 g] 70) (Obj.cells #[.bool false,.string ⟨#[]⟩,.string ⟨#[]⟩,.int .i64 0] 70)
     go_enter Tryz.func54,Tryz.ntmps54
     go_wp2_with fail
     refine (K1.out _).mono ?_;rintro r w1 ⟨rfl,b1⟩;have B1:=zS B0 b1;obtain⟨Af,Ag,Aa⟩:=yJ b1 Ac Ad Ae;clear b1 B0 Ac Ad Ae;obtain⟨An,Ao,Ap,Aq⟩:=zE Af;obtain⟨Ar,As,At,Au⟩:=zE Ag;obtain⟨Av,Aw,Ax,Ay⟩:=zE Aa;go_wp2_with fail
     refine (yS d f t q _ 4 HT2.out HQ2.out HX.out L2.out L4.out _).mono ?_;rintro r w2 ⟨rfl,b2⟩;have B2:=zS B1 b2;obtain⟨Aj,Ak,Ab⟩:=yJ b2 Af Ag Aa;clear b2 B1 Af An Ao Ap Aq Ag Ar As At Au Aa Av Aw Ax Ay;obtain⟨Az,AA,AB,AC⟩:=zE Aj;obtain⟨AD,AE,AF,AG⟩:=zE Ak;obtain⟨AH,AI,AJ,AK⟩:=zE Ab;have q0:=fz (k:=0) Ab;have q1:=fz (k:=1) Ab;have q2:=fz (k:=2) Ab;have q3:=fz (k:=3) Ab;obtain⟨E0,E1,E2,E3⟩:=yO Ab rfl (.bool false) (.string ⟨#[]⟩) (.string ⟨#[]⟩) (.int .i64 0);go_wp2
     exact bodyPost_ret (v:=.tuple #[.agg #[.bool false,.string ⟨#[]⟩,.string ⟨#[]⟩,.int .i64 0],.int .i64 4]) (by simp [results,Tryz.results54,go_sem,E0,E1,E2,E3]) rfl ⟨rfl,yG B2 (by first|exact Nat.le_refl _|omega|(skip;omega)) _ _ _ _⟩
   ·
    have K1:=zJ (fun w=>rTwo b n d e s t c m f g p q ⟨#[]⟩ ⟨#[]⟩ 0 4 hs ht hp hq l1 l2 l3 l4 ha (by unfold twX;rw [hA,hB,if_neg h12]) w);rw [if_neg (fun h=>h12 ⟨h.1,h.2.1⟩)] at hr2;obtain⟨rfl,rfl,rfl,rfl,rfl⟩:=xz_is hr2;rw [yX] at hu hv;subst hu hv;clear hs ht hp hq hx hy hr hr2 n0 m0 l1 l2 l3 l4 d1 d2 hA hB hS hZ hS2 hZ2 h12 ha hL;obtain⟨Ac,Ad,Ae,B0⟩:=opn3 w (Obj.cells #[.bool b,.string s,.string t,.int .i64 e] 70) (Obj.cells #[.bool c,.string p,.string q,.int .i64 g] 70) (Obj.cells #[.bool false,.string ⟨#[]⟩,.string ⟨#[]⟩,.int .i64 0] 70)
    go_enter Tryz.func54,Tryz.ntmps54
    go_wp2_with fail
    refine (K1.out _).mono ?_;rintro r w1 ⟨rfl,b1⟩;have B1:=zS B0 b1;obtain⟨Af,Ag,Aa⟩:=yJ b1 Ac Ad Ae;clear b1 B0 Ac Ad Ae;obtain⟨An,Ao,Ap,Aq⟩:=zE Af;obtain⟨Ar,As,At,Au⟩:=zE Ag;obtain⟨Av,Aw,Ax,Ay⟩:=zE Aa;have q0:=fz (k:=0) Aa;have q1:=fz (k:=1) Aa;have q2:=fz (k:=2) Aa;have q3:=fz (k:=3) Aa;obtain⟨E0,E1,E2,E3⟩:=yO Aa rfl (.bool false) (.string ⟨#[]⟩) (.string ⟨#[]⟩) (.int .i64 0);go_wp2
    exact bodyPost_ret (v:=.tuple #[.agg #[.bool false,.string ⟨#[]⟩,.string ⟨#[]⟩,.int .i64 0],.int .i64 4]) (by simp [results,Tryz.results54,go_sem,E0,E1,E2,E3]) rfl ⟨rfl,yG B1 (by first|exact Nat.le_refl _|omega|(skip;omega)) _ _ _ _⟩

end Go.Proofs.YtapikkbifdldfaaGreatDoor
namespace Go.Proofs.YtapikkbifdldfaaGreatDoor
set_option maxRecDepth 100000
set_option maxHeartbeats 40000000
open Go.RowKit WMath
theorem yB (w:World)(o:Obj):Below w.heap.size w (w.alloc o):=(Below.refl _ _).alloc (Nat.le_refl _) _
theorem zX {a b c:World} (h:Below a.heap.size a b)(k:Below b.heap.size b c):Below a.heap.size a c:=h.trans (k.mono h.size)

def fcells:Array Value:=#[.int .i64 32,.int .i64 24,.int .i64 127,.string ⟨#[115]⟩,.int .i64 64,.int .i64 53,.int .i64 1023,.string ⟨#[100]⟩,.int .i64 16,.int .i64 11,.int .i64 15,.string ⟨#[104]⟩,.int .i64 128,.int .i64 113,.int .i64 16383,.string ⟨#[113]⟩]
def y6 (w:World):Prop:=∀ i,i<16->w.cell? ⟨0,i,none⟩=fcells[i]?
theorem fc_some (i:Nat)(h:i<16):∃ v,fcells[i]?=some v:=⟨_,Array.getElem?_eq_getElem (show i<fcells.size from h)⟩
theorem z7 {w w':World} (h:y6 w)(hb:Below w.heap.size w w'):y6 w':=fun i hi=>by
 obtain⟨v,hv⟩:=fc_some i hi;rw [hb.cell (p:=⟨0,i,none⟩) (World.block_lt_of_cell? w _ ((h i hi).trans hv))];exact h i hi
theorem qQ {w:World} (h:y6 w)(i:Nat)(v:Value)(hi:i<16)(hv:fcells[i]?=some v):w.cell? ⟨0,i,none⟩=some v:=(h i hi).trans hv

theorem fat_al {w:World} (h:y6 w)(o:Obj):y6 (w.alloc o):=z7 h (yB w o)
theorem fat_dr {w:World} (h:y6 w):y6 w.drew:=h

def fW (f:Int):Int:=if f=0 then 32 else if f=1 then 64 else if f=2 then 16 else if f=3 then 128 else 0
def fP (f:Int):Int:=if f=0 then 24 else if f=1 then 53 else if f=2 then 11 else if f=3 then 113 else 0
def fE (f:Int):Int:=if f=0 then 127 else if f=1 then 1023 else if f=2 then 15 else if f=3 then 16383 else 0
def fN (f:Int):ByteArray:=if f=0 then ⟨#[115]⟩ else if f=1 then ⟨#[100]⟩ else if f=2 then ⟨#[104]⟩ else if f=3 then ⟨#[113]⟩ else ⟨#[]⟩
def fR (f:Int):Array Value:=#[.int .i64 (fW f),.int .i64 (fP f),.int .i64 (fE f),.string (fN f)]
def fC (f:Int):Int:=if f=0∨f=1∨f=2∨f=3 then 0 else 2

theorem f_cases (f:Int)(h0:0<=f):f=0∨f=1∨f=2∨f=3∨4<=f:=by omega

theorem s_check (f:Int)(h0:0<=f)(h1:f<=255)(w:World) :
  Calls Tryz.prog 27 #[.int .u8 f] w fun e w'=>e=.returned (.int .i64 (fC f))/\w'=w:=by
 by_cases h:4<=f
 ·
  have e:fC f=2:=by unfold fC;rw [if_neg (by omega)]
  rw [e];have hd:decide ((4:Int)<=f)=true:=by simp [h]
  go_enter Tryz.func27,Tryz.ntmps27
  go_wp2
  go_ret
  exact⟨rfl,rfl⟩
 ·
  have e:fC f=0:=by unfold fC;rw [if_pos (by omega)]
  rw [e];have hd:decide ((4:Int)<=f)=false:=by simp;omega
  go_enter Tryz.func27,Tryz.ntmps27
  go_wp2
  go_ret
  exact⟨rfl,rfl⟩

theorem xT (f c:Int)(h0:0<=f)(h1:f<=255)(hc:fC f=c)(w:World) :
  Calls Tryz.prog 27 #[.int .u8 f] w fun e w'=>e=.returned (.int .i64 c)/\w'=w:=by
 subst hc;exact s_check f h0 h1 w

theorem s_checkMode (f:Int)(w:World) :
  Calls Tryz.prog 28 #[.int .u8 f] w fun e w'=>e=.returned (.int .i64 (if f<=4 then 0 else 2))/\w'=w:=by
 by_cases h:4<f
 ·
  rw [if_neg (by omega)]
  go_enter Tryz.func28,Tryz.ntmps28
  go_wp2
  go_ret
  exact⟨rfl,rfl⟩
 ·
  rw [if_pos (by omega)]
  go_enter Tryz.func28,Tryz.ntmps28
  go_wp2
  go_ret
  exact⟨rfl,rfl⟩

theorem s_of (f:Int)(h0:0<=f)(h1:f<=255)(w:World)(hT:y6 w) :
  Calls Tryz.prog 117 #[.int .u8 f] w fun e w'=>e=.returned (.agg #[.int .i64 (fW f),.int .i64 (fP f),.int .i64 (fE f),.string (fN f)])/\w'=w.alloc (.cells (fR f) 134):=by
 have hB:=yB w (.cells #[.int .i64 0,.int .i64 0,.int .i64 0,.string ⟨#[]⟩] 134);have T2:=z7 hT hB
 rcases f_cases f h0 with rfl|rfl|rfl|rfl|h
 ·
  have c0:=qQ T2 0 (.int .i64 32) (by decide) rfl;have c1:=qQ T2 1 (.int .i64 24) (by decide) rfl;have c2:=qQ T2 2 (.int .i64 127) (by decide) rfl;have c3:=qQ T2 3 (.string ⟨#[115]⟩) (by decide) rfl;clear T2 hT
  go_enter Tryz.func117,Tryz.ntmps117
  go_wp2_with fail
  refine (xT 0 0 (by omega) (by omega) rfl _).mono ?_;rintro r w' ⟨rfl,rfl⟩;go_wp2
  exact bodyPost_ret (v:=.agg #[.int .i64 32,.int .i64 24,.int .i64 127,.string ⟨#[115]⟩]) (by simp [results,Tryz.results117,go_sem]) rfl ⟨rfl,rfl⟩
 ·
  have c0:=qQ T2 4 (.int .i64 64) (by decide) rfl;have c1:=qQ T2 5 (.int .i64 53) (by decide) rfl;have c2:=qQ T2 6 (.int .i64 1023) (by decide) rfl;have c3:=qQ T2 7 (.string ⟨#[100]⟩) (by decide) rfl;clear T2 hT
  go_enter Tryz.func117,Tryz.ntmps117
  go_wp2_with fail
  refine (xT 1 0 (by omega) (by omega) rfl _).mono ?_;rintro r w' ⟨rfl,rfl⟩;go_wp2
  exact bodyPost_ret (v:=.agg #[.int .i64 64,.int .i64 53,.int .i64 1023,.string ⟨#[100]⟩]) (by simp [results,Tryz.results117,go_sem]) rfl ⟨rfl,rfl⟩
 ·
  have c0:=qQ T2 8 (.int .i64 16) (by decide) rfl;have c1:=qQ T2 9 (.int .i64 11) (by decide) rfl;have c2:=qQ T2 10 (.int .i64 15) (by decide) rfl;have c3:=qQ T2 11 (.string ⟨#[104]⟩) (by decide) rfl;clear T2 hT
  go_enter Tryz.func117,Tryz.ntmps117
  go_wp2_with fail
  refine (xT 2 0 (by omega) (by omega) rfl _).mono ?_;rintro r w' ⟨rfl,rfl⟩;go_wp2
  exact bodyPost_ret (v:=.agg #[.int .i64 16,.int .i64 11,.int .i64 15,.string ⟨#[104]⟩]) (by simp [results,Tryz.results117,go_sem]) rfl ⟨rfl,rfl⟩
 ·
  have c0:=qQ T2 12 (.int .i64 128) (by decide) rfl;have c1:=qQ T2 13 (.int .i64 113) (by decide) rfl;have c2:=qQ T2 14 (.int .i64 16383) (by decide) rfl;have c3:=qQ T2 15 (.string ⟨#[113]⟩) (by decide) rfl;clear T2 hT
  go_enter Tryz.func117,Tryz.ntmps117
  go_wp2_with fail
  refine (xT 3 0 (by omega) (by omega) rfl _).mono ?_;rintro r w' ⟨rfl,rfl⟩;go_wp2
  exact bodyPost_ret (v:=.agg #[.int .i64 128,.int .i64 113,.int .i64 16383,.string ⟨#[113]⟩]) (by simp [results,Tryz.results117,go_sem]) rfl ⟨rfl,rfl⟩
 ·
  have hd:decide ((4:Int)<=f)=true:=by simp [h]
  have e0:fW f=0:=by unfold fW;rw [if_neg (by omega),if_neg (by omega),if_neg (by omega),if_neg (by omega)]
  have e1:fP f=0:=by unfold fP;rw [if_neg (by omega),if_neg (by omega),if_neg (by omega),if_neg (by omega)]
  have e2:fE f=0:=by unfold fE;rw [if_neg (by omega),if_neg (by omega),if_neg (by omega),if_neg (by omega)]
  have e3:fN f=⟨#[]⟩:=by unfold fN;rw [if_neg (by omega),if_neg (by omega),if_neg (by omega),if_neg (by omega)]
  have e4:fC f=2:=by unfold fC;rw [if_neg (by omega)]
  have e5:fR f=#[.int .i64 0,.int .i64 0,.int .i64 0,.string ⟨#[]⟩]:=by unfold fR;rw [e0,e1,e2,e3]
  rw [e0,e1,e2,e3,e5];clear T2 hT e0 e1 e2 e3 e5
  go_enter Tryz.func117,Tryz.ntmps117
  go_wp2_with fail
  refine (xT f 2 (by omega) (by omega) e4 _).mono ?_;rintro r w' ⟨rfl,rfl⟩;go_wp2
  exact bodyPost_ret (v:=.agg #[.int .i64 0,.int .i64 0,.int .i64 0,.string ⟨#[]⟩]) (by simp [results,Tryz.results117,go_sem]) rfl ⟨rfl,rfl⟩

theorem s_of_is (f w0 p0 m0:Int)(n0:ByteArray)(h0:0<=f)(h1:f<=255)(hw:fW f=w0)(hp:fP f=p0)(he:fE f=m0)(hn:fN f=n0)(w:World)(hT:y6 w) :
  Calls Tryz.prog 117 #[.int .u8 f] w fun e w'=>e=.returned (.agg #[.int .i64 w0,.int .i64 p0,.int .i64 m0,.string n0])/\w'=w.alloc (.cells (fR f) 134):=by
 subst hw hp he hn;exact s_of f h0 h1 w hT

theorem fld0 (a b c d:Value)(w:World):(Instr.field 134 (.agg #[a,b,c,d]) 0).run Tryz.prog w=.ok a w:=by kernel_rfl
theorem fld1 (a b c d:Value)(w:World):(Instr.field 134 (.agg #[a,b,c,d]) 1).run Tryz.prog w=.ok b w:=by kernel_rfl
theorem fld2 (a b c d:Value)(w:World):(Instr.field 134 (.agg #[a,b,c,d]) 2).run Tryz.prog w=.ok c w:=by kernel_rfl
theorem s_width (f v:Int)(h0:0<=f)(h1:f<=255)(hv:fW f=v)(w:World)(hT:y6 w) :
  Calls Tryz.prog 64 #[.int .u8 f] w fun e w'=>e=.returned (.int .i64 v)/\w'=w.alloc (.cells (fR f) 134):=by
 have hl:=fld0
 go_enter Tryz.func64,Tryz.ntmps64
 go_wp2_with fail
 refine (s_of_is f v _ _ _ h0 h1 hv rfl rfl rfl _ hT).mono ?_;rintro r w2 ⟨rfl,rfl⟩;go_wp2
 go_ret
 exact⟨rfl,rfl⟩
theorem s_precision (f v:Int)(h0:0<=f)(h1:f<=255)(hv:fP f=v)(w:World)(hT:y6 w) :
  Calls Tryz.prog 121 #[.int .u8 f] w fun e w'=>e=.returned (.int .i64 v)/\w'=w.alloc (.cells (fR f) 134):=by
 have hl:=fld1
 go_enter Tryz.func121,Tryz.ntmps121
 go_wp2_with fail
 refine (s_of_is f _ v _ _ h0 h1 rfl hv rfl rfl _ hT).mono ?_;rintro r w2 ⟨rfl,rfl⟩;go_wp2
 go_ret
 exact⟨rfl,rfl⟩
theorem s_emax (f v:Int)(h0:0<=f)(h1:f<=255)(hv:fE f=v)(w:World)(hT:y6 w) :
  Calls Tryz.prog 60 #[.int .u8 f] w fun e w'=>e=.returned (.int .i64 v)/\w'=w.alloc (.cells (fR f) 134):=by
 have hl:=fld2
 go_enter Tryz.func60,Tryz.ntmps60
 go_wp2_with fail
 refine (s_of_is f _ _ v _ h0 h1 rfl rfl hv rfl _ hT).mono ?_;rintro r w2 ⟨rfl,rfl⟩;go_wp2
 go_ret
 exact⟨rfl,rfl⟩

theorem s_emin (f m v:Int)(h0:0<=f)(h1:f<=255)(hm:fE f=m)(hv:(if fC f=0 then 1-m else 0)=v)(w:World)(hT:y6 w) :
  Calls Tryz.prog 83 #[.int .u8 f] w fun e w'=>e=.returned (.int .i64 v)/\Below w.heap.size w w':=by
 obtain⟨c,hc⟩:∃ c,fC f=c:=⟨_,rfl⟩;rw [hc] at hv;have hm2:0<=m/\m<=16383:=by rw [<-hm];unfold fE;split <;> (try split) <;> (try split) <;> (try split) <;> omega
 by_cases h:c=0
 ·
  rw [if_pos h] at hv;subst h hv;have hw:IntKind.i64.wrap (1-m)=1-m:=by rw [IntKind.wrap_i64];omega
  go_enter Tryz.func83,Tryz.ntmps83
  go_wp2_with fail
  refine (xT f 0 h0 h1 hc _).mono ?_;rintro r w' ⟨rfl,rfl⟩;go_wp2_with fail
  refine (s_emax f m h0 h1 hm _ hT).mono ?_;rintro r w2 ⟨rfl,rfl⟩;go_wp2
  go_ret
  exact⟨rfl,yB _ _⟩
 ·
  have hd:(c != 0)=true:=by simp [h]
  rw [if_neg h] at hv;subst hv
  go_enter Tryz.func83,Tryz.ntmps83
  go_wp2_with fail
  refine (xT f c h0 h1 hc _).mono ?_;rintro r w' ⟨rfl,rfl⟩;go_wp2
  go_ret
  exact⟨rfl,Below.refl _ _⟩

def rHi (x n:Int):Int:=bits .or .u64 (IntKind.u64.wrap (x*2 ^ min (IntKind.u64.wrap (n-64)).toNat 64)) (x / 2 ^ min (IntKind.u64.wrap (64-n)).toNat 64)
def rLo (x n:Int):Int:=IntKind.u64.wrap (x*2 ^ min n.toNat 64)

theorem zI {w:World} {g:Nat} {T:TypeId} {c:Array Value} (row:w.heap[g]?=some (.cells c T))(k:Nat)(v:Value)(h:c[k]?=some v):w.cell? ⟨g,k,none⟩=some v:=by
 simp [World.cell?,row,h]
theorem zN {n:Nat} {w wr:World} {b:Nat} (h:Below n w wr)(hb:n<=b)(v0 v1:Value):Below n w ((wr.setCell ⟨b,0,none⟩ v0).setCell ⟨b,1,none⟩ v1):=(h.setCell (by exact hb) _).setCell (by exact hb) _
theorem qS {w:World} {b:Nat} {c0 c1:Value} {T:TypeId} (h:w.heap[b]?=some (.cells #[c0,c1] T))(v0 v1:Value) :
  ((w.setCell ⟨b,0,none⟩ v0).setCell ⟨b,1,none⟩ v1).heap[b]?=some (.cells #[v0,v1] T):=by
 rw [zY (zY h)];rfl
theorem zQ {w:World} {b:Nat} {c0 c1:Value} {T:TypeId} (h:w.heap[b]?=some (.cells #[c0,c1] T))(v0 v1:Value) :
  ((w.setCell ⟨b,0,none⟩ v0).setCell ⟨b,1,none⟩ v1).cell? ⟨b,0,none⟩=some v0/\((w.setCell ⟨b,0,none⟩ v0).setCell ⟨b,1,none⟩ v1).cell? ⟨b,1,none⟩=some v1:=by
 have r:=qS h v0 v1;exact⟨zI r 0 _ rfl,zI r 1 _ rfl⟩
theorem last7 (w:World)(o:Obj):(w.alloc o).heap[w.heap.size]?=some o:=heap_alloc_last w o

def b2 (a b:Int):Array Value:=#[.int .u64 a,.int .u64 b]

theorem s_raised (x n H L:Int)(h0:0<=n)(h1:n<=18446744073709551615)(hH:rHi x n=H)(hL:rLo x n=L)(w:World) :
  Calls Tryz.prog 65 #[.int .u64 x,.int .u64 n] w fun e w'=>e=.returned (.agg #[.int .u64 H,.int .u64 L])/\w'=w.alloc (.cells #[.int .u64 H,.int .u64 L] 26):=by
 obtain⟨m,rfl⟩:=Int.eq_ofNat_of_zero_le h0;subst hH hL
 go_enter Tryz.func65,Tryz.ntmps65
 go_wp2
 exact bodyPost_ret (v:=.agg #[.int .u64 (rHi x m),.int .u64 (rLo x m)]) (by simp [results,Tryz.results65,go_sem,rHi,rLo]) rfl ⟨rfl,by simp [rHi,rLo]⟩

theorem s_join (a b c d H L:Int)(hH:bits .or .u64 a c=H)(hL:bits .or .u64 b d=L)(w:World) :
  Calls Tryz.prog 113 #[.agg #[.int .u64 a,.int .u64 b],.agg #[.int .u64 c,.int .u64 d]] w fun e w'=>e=.returned (.agg #[.int .u64 H,.int .u64 L])/\w'=((w.alloc (.cells #[.int .u64 a,.int .u64 b] 26)).alloc (.cells #[.int .u64 c,.int .u64 d] 26)).alloc (.cells #[.int .u64 H,.int .u64 L] 26):=by
 go_enter Tryz.func113,Tryz.ntmps113
 go_wp2
 exact bodyPost_ret (v:=.agg #[.int .u64 H,.int .u64 L]) (by simp [results,Tryz.results113,go_sem]) rfl ⟨rfl,rfl⟩

theorem s_ones (n H L:Int)(h0:0<=n)(h1:n<=18446744073709551615)(hH:rHi 1 n=H)(hL:rLo 1 n=L)(K M:Int)(hK:(if L=0 then IntKind.u64.wrap (H-1) else H)=K)(hM:IntKind.u64.wrap (L-1)=M)(w:World) :
  Calls Tryz.prog 63 #[.int .u64 n] w fun e w'=>e=.returned (.agg #[.int .u64 K,.int .u64 M])/\Below w.heap.size w w':=by
 by_cases hz:L=0
 ·
  have hd:(L == 0)=true:=by simp [hz]
  rw [if_pos hz] at hK;subst hz;rw [show (0:Int)-1=-1 by decide] at hM
  go_enter Tryz.func63,Tryz.ntmps63
  go_wp2_with fail
  refine (s_raised 1 n H _ h0 h1 hH hL _).mono ?_;rintro r w2 ⟨rfl,rfl⟩;go_wp2
  exact bodyPost_ret (v:=.agg #[.int .u64 K,.int .u64 M]) (by simp [results,Tryz.results63,go_sem]) rfl ⟨rfl,(((Below.refl _ _).alloc (Nat.le_refl _) _).alloc (by simp only [zM];omega) _).alloc (by simp only [zM];omega) _⟩
 ·
  have hd:(L == 0)=false:=by simp [hz]
  rw [if_neg hz] at hK;subst hK
  go_enter Tryz.func63,Tryz.ntmps63
  go_wp2_with fail
  refine (s_raised 1 n H _ h0 h1 hH hL _).mono ?_;rintro r w2 ⟨rfl,rfl⟩;go_wp2
  exact bodyPost_ret (v:=.agg #[.int .u64 H,.int .u64 M]) (by simp [results,Tryz.results63,go_sem]) rfl ⟨rfl,(((Below.refl _ _).alloc (Nat.le_refl _) _).alloc (by simp only [zM];omega) _).alloc (by simp only [zM];omega) _⟩

theorem s_fraction (f p v:Int)(h0:0<=f)(h1:f<=255)(hp:fP f=p)(hv:IntKind.u64.wrap (p-1)=v)(w:World)(hT:y6 w) :
  Calls Tryz.prog 66 #[.int .u8 f] w fun e w'=>e=.returned (.int .u64 v)/\w'=w.alloc (.cells (fR f) 134):=by
 have hm2:0<=p/\p<=113:=by rw [<-hp];unfold fP;split <;> (try split) <;> (try split) <;> (try split) <;> omega
 have hw:IntKind.i64.wrap (p-1)=p-1:=by rw [IntKind.wrap_i64];omega
 go_enter Tryz.func66,Tryz.ntmps66
 go_wp2_with fail
 refine (s_precision f p h0 h1 hp _ hT).mono ?_;rintro r w2 ⟨rfl,rfl⟩;go_wp2
 go_ret
 exact⟨rfl,rfl⟩

theorem s_top (f q p d v:Int)(h0:0<=f)(h1:f<=255)(hq:fW f=q)(hp:fP f=p)(hd:q-p=d)(h2:0<=d)(hv:IntKind.u64.wrap (IntKind.u64.wrap (2 ^ min d.toNat 64)-1)=v)(w:World)(hT:y6 w) :
  Calls Tryz.prog 62 #[.int .u8 f] w fun e w'=>e=.returned (.int .u64 v)/\Below w.heap.size w w':=by
 have hm1:0<=q/\q<=128:=by rw [<-hq];unfold fW;split <;> (try split) <;> (try split) <;> (try split) <;> omega
 have hm2:0<=p/\p<=113:=by rw [<-hp];unfold fP;split <;> (try split) <;> (try split) <;> (try split) <;> omega
 go_enter Tryz.func62,Tryz.ntmps62
 go_wp2_with fail
 refine (s_width f q h0 h1 hq _ hT).mono ?_;rintro r w2 ⟨rfl,rfl⟩;go_wp2_with fail
 refine (s_precision f p h0 h1 hp _ (z7 hT (yB _ _))).mono ?_;rintro r w3 ⟨rfl,rfl⟩;go_wp2
 go_ret
 exact⟨rfl,zX (yB _ _) (yB _ _)⟩

def pV (f:Int):Nat:=(fP f).toNat-1
def wV (f:Int):Nat:=(fW f).toNat-1
def oV (f:Int):Nat:=2*(fE f).toNat+1
def jH (f:Int)(neg:Bool)(e t:Nat):Nat:=e*2 ^ pV f+t+(if neg then 2 ^ wV f else 0)
def qA (v:Nat):Nat×Nat:=(v / 18446744073709551616,v % 18446744073709551616)
def eNaN (f:Int):Nat:=jH f false (oV f) (2 ^ (pV f-1))
def eInf (f:Int)(neg:Bool):Nat:=jH f neg (oV f) 0
def xY (f:Int)(neg:Bool):Nat:=jH f neg 0 0
def eGreatest (f:Int)(neg:Bool):Nat:=jH f neg (oV f-1) (2 ^ pV f-1)
def y7 (f:Int):Prop:=f=0∨f=1∨f=2∨f=3
theorem yV {f:Int} (h:y7 f):0<=f/\f<=255/\fC f=0/\0<=fW f-fP f:=by
 rcases h with rfl|rfl|rfl|rfl <;> decide +kernel

def R7 (w:World)(I J:Int)(w5:World)(g:Nat):Prop:=Below w.heap.size w w5/\w5.heap[g]?=some (.cells #[.int .u64 I,.int .u64 J] 26)/\w5.heap[w.heap.size+1]?=some (.cells #[.int .u64 0,.int .u64 0] 26)/\w.heap.size+1<g
theorem cut7 {G C:Prop} (h:G->C)(k:G):C:=h k
theorem qR {w W:World} (h:Below w.heap.size w W)(o:Obj):Below w.heap.size w (W.alloc o):=zX h (yB _ _)
theorem bel_dr {w W:World} (h:Below w.heap.size w W):Below w.heap.size w W.drew:=h.drew
theorem xI {W:World} {b:Nat} {o:Obj} (h:W.heap[b]?=some o)(o':Obj):(W.alloc o').heap[b]?=some o:=by
 rw [zU W b o' (Array.getElem?_eq_some_iff.1 h).1];exact h
theorem row_dr {W:World} {b:Nat} {o:Obj} (h:W.heap[b]?=some o):W.drew.heap[b]?=some o:=h
theorem row_last {W:World} {b:Nat} {o:Obj} (h:b=W.heap.size):(W.alloc o).heap[b]?=some o:=by subst h;exact heap_alloc_last W o
theorem gen7 {X:Act->World->Prop} {t0 t1 t2 t3 t4 t5 t6 t7 t8 t10 t11 t12 t13 t14 t15 t16 t17 t18 t19 t20 t21 t22 t23 t24 t25 t26 t27 t28:Value} {d:List Deferred} {w W:World} {I J:Int} {G:Nat}
  (key:∀ w5 g,R7 w I J w5 g->X ⟨#[t0,t1,t2,t3,t4,t5,t6,t7,t8,.pointer (some ⟨g,0,none⟩),t10,t11,t12,t13,t14,t15,t16,t17,t18,t19,t20,t21,t22,t23,t24,t25,t26,t27,t28],d⟩ w5) (r:R7 w I J W G) :
  X ⟨#[t0,t1,t2,t3,t4,t5,t6,t7,t8,.pointer (some ⟨G,0,none⟩),t10,t11,t12,t13,t14,t15,t16,t17,t18,t19,t20,t21,t22,t23,t24,t25,t26,t27,t28],d⟩ W:=key W G r

theorem s_pack_any (f x a b p n H L I J q m M N I' J':Int)(neg:Bool)(h0:0<=f)(h1:f<=255)(hc:fC f=0)(hp:fP f=p)(hn:IntKind.u64.wrap (p-1)=n)(n0:0<=n)(n1:n<=18446744073709551615)
  (hH:rHi x n=H) (hL:rLo x n=L) (hI:bits .or .u64 H a=I) (hJ:bits .or .u64 L b=J) (hq:fW f=q) (hm:q-1=m) (m0:0<=m) (m1:m<=127) (hM:rHi 1 m=M) (hN:rLo 1 m=N) (hI':bits .or .u64 I M=I') (hJ':bits .or .u64 J N=J') (w:World) (hT:y6 w) :
  Calls Tryz.prog 57 #[.int .u8 f,.bool neg,.int .u64 x,.agg #[.int .u64 a,.int .u64 b]] w fun e w'=>e=.returned (.agg #[.int .u64 (if neg then I' else I),.int .u64 (if neg then J' else J)])/\Below w.heap.size w w':=by
 have k1:zW (∀ w:World,y6 w->Calls Tryz.prog 66 #[.int .u8 f] w fun e w'=>e=.returned (.int .u64 n)/\w'=w.alloc (.cells (fR f) 134)):=zJ (fun w hw=>s_fraction f p n h0 h1 hp hn w hw);have k2:=zJ (s_raised x n H L n0 n1 hH hL);have k3:=zJ (s_join H L a b I J hI hJ);have k0:=zJ (xT f 0 h0 h1 hc);have k4:zW (∀ w:World,y6 w->Calls Tryz.prog 64 #[.int .u8 f] w fun e w'=>e=.returned (.int .i64 q)/\w'=w.alloc (.cells (fR f) 134)):=zJ (fun w hw=>s_width f q h0 h1 hq w hw);have k5:=zJ (s_raised 1 m M N m0 (by omega) hM hN);have k6:=zJ (s_join I J M N I' J' hI' hJ');have T0:=zJ hT;have TT:=zJ (z7 hT (zX (yB w (.cells #[.int .u64 a,.int .u64 b] 26)) (yB _ (.cells #[.int .u64 0,.int .u64 0] 26))));have e1:IntKind.i64.wrap (q-1)=m:=by rw [hm,IntKind.wrap_i64];omega
 have e2:IntKind.u64.wrap m=m:=by rw [IntKind.wrap_u64];omega
 have e3:IntKind.i64.wrap m=m:=by rw [IntKind.wrap_i64];omega
 clear hT hp hn hH hL hI hJ hc h0 h1 n0 n1 hq hM hN hI' hJ' m0 m1 hm
 go_enter Tryz.func57,Tryz.ntmps57
 go_wp2_with fail
 refine (k0.out _).mono ?_;rintro r w' ⟨rfl,rfl⟩;go_wp2_with fail
 apply cut7
 ·
  intro key
  go_region_with (first
   | (go_at_call 66;refine (k1.out _ (by repeat (first|exact TT.out|refine fat_al ?_ _|refine fat_dr ?_))).mono ?_;rintro r w2 ⟨rfl,rfl⟩)
   | (go_at_call 65;refine (k2.out _).mono ?_;rintro r w2 ⟨rfl,rfl⟩)
   | (go_at_call 113;refine (k3.out _).mono ?_;rintro r w2 ⟨rfl,rfl⟩))
  all_goals
   refine gen7 (w:=w) (I:=I) (J:=J) key ⟨?_,?_,?_,?_⟩
   ·
    repeat (first|exact Below.refl _ _|refine bel_dr ?_|refine qR ?_ _)
   ·
    repeat (first|refine row_dr ?_|(refine row_last ?_;simp only [zM];done)|refine xI ?_ _)
   ·
    repeat (first|refine row_dr ?_|(refine row_last ?_;simp only [zM];done)|refine xI ?_ _)
   ·
    omega
 rintro w5 g ⟨B5,R5,S5,hg⟩;have F5:=zJ (z7 T0.out B5);have c50:=zI R5 0 _ rfl;have c51:=zI R5 1 _ rfl
 cases neg
 ·
  have q0:=fz (k:=0) S5;have q1:=fz (k:=1) S5;have d0:=zI S5 0 _ rfl;have d1:=zI S5 1 _ rfl;obtain⟨E0,E1⟩:=zQ S5 (.int .u64 I) (.int .u64 J);go_wp2
  exact bodyPost_ret (v:=.agg #[.int .u64 I,.int .u64 J]) (by simp [results,Tryz.results57,go_sem,E0,E1]) rfl ⟨rfl,zN B5 (by omega) _ _⟩
 ·
  have r1:=xI R5 (.cells (fR f) 134);have r2:=xI r1 (.cells #[.int .u64 M,.int .u64 N] 26);have r5:=xI (xI (xI r2 (.cells #[.int .u64 I,.int .u64 J] 26)) (.cells #[.int .u64 M,.int .u64 N] 26)) (.cells #[.int .u64 I',.int .u64 J'] 26);have s5:=xI (xI (xI (xI (xI S5 (.cells (fR f) 134)) (.cells #[.int .u64 M,.int .u64 N] 26)) (.cells #[.int .u64 I,.int .u64 J] 26)) (.cells #[.int .u64 M,.int .u64 N] 26)) (.cells #[.int .u64 I',.int .u64 J'] 26);have Q5:zW (R7 w I' J' _ g):=zJ ⟨zN (qR (qR (qR (qR (qR B5 _) _) _) _) _) (by omega) (.int .u64 I') (.int .u64 J'),qS r5 _ _,by rw [zF (by omega),zF (by omega)];exact s5,hg⟩;have c10:=zI r1 0 _ rfl;have c11:=zI r1 1 _ rfl;have c20:=zI r2 0 _ rfl;have c21:=zI r2 1 _ rfl;have q0:=fz (k:=0) r5;have q1:=fz (k:=1) r5;have e50:=zI r5 0 _ rfl;have e51:=zI r5 1 _ rfl;clear r1 r2 r5 s5;go_wp2_with fail
  apply cut7
  ·
   intro key
   go_region_with (first
    | (go_at_call 64;refine (k4.out _ (by repeat (first|exact F5.out|refine fat_al ?_ _|refine fat_dr ?_))).mono ?_;rintro r w2 ⟨rfl,rfl⟩)
    | (go_at_call 65;refine (k5.out _).mono ?_;rintro r w2 ⟨rfl,rfl⟩)
    | (go_at_call 113;refine (k6.out _).mono ?_;rintro r w2 ⟨rfl,rfl⟩))
   all_goals
    refine gen7 (w:=w) (I:=I') (J:=J') key ?_;exact⟨bel_dr Q5.out.1,row_dr Q5.out.2.1,row_dr Q5.out.2.2.1,hg⟩
  clear R5 S5 F5 c50 c51 c10 c11 c20 c21 q0 q1 e50 e51 B5;rintro w6 g6 ⟨B6,R6,S6,hg6⟩;have c60:=zI R6 0 _ rfl;have c61:=zI R6 1 _ rfl;have q0:=fz (k:=0) S6;have q1:=fz (k:=1) S6;have d0:=zI S6 0 _ rfl;have d1:=zI S6 1 _ rfl;obtain⟨E0,E1⟩:=zQ S6 (.int .u64 I') (.int .u64 J');go_wp2
  exact bodyPost_ret (v:=.agg #[.int .u64 I',.int .u64 J']) (by simp [results,Tryz.results57,go_sem,E0,E1]) rfl ⟨rfl,zN B6 (by omega) _ _⟩
def pkHi (f:Int)(neg:Bool)(x a:Int):Int:=if neg then bits .or .u64 (bits .or .u64 (rHi x (IntKind.u64.wrap (fP f-1))) a) (rHi 1 (fW f-1)) else bits .or .u64 (rHi x (IntKind.u64.wrap (fP f-1))) a
def pkLo (f:Int)(neg:Bool)(x b:Int):Int:=if neg then bits .or .u64 (bits .or .u64 (rLo x (IntKind.u64.wrap (fP f-1))) b) (rLo 1 (fW f-1)) else bits .or .u64 (rLo x (IntKind.u64.wrap (fP f-1))) b

theorem s_pack_is (f x a b I J:Int)(neg:Bool)(hf:y7 f)(hI:pkHi f neg x a=I)(hJ:pkLo f neg x b=J)(w:World)(hT:y6 w) :
  Calls Tryz.prog 57 #[.int .u8 f,.bool neg,.int .u64 x,.agg #[.int .u64 a,.int .u64 b]] w fun e w'=>e=.returned (.agg #[.int .u64 I,.int .u64 J])/\Below w.heap.size w w':=by
 subst hI hJ
 have k:0<=IntKind.u64.wrap (fP f-1)/\IntKind.u64.wrap (fP f-1)<=18446744073709551615/\0<=fW f-1/\fW f-1<=127/\fC f=0/\0<=f/\f<=255:=by
  rcases hf with rfl|rfl|rfl|rfl <;> decide +kernel
 have h:=s_pack_any f x a b _ _ _ _ _ _ _ _ _ _ _ _ neg k.2.2.2.2.2.1 k.2.2.2.2.2.2 k.2.2.2.2.1 rfl rfl k.1 k.2.1 rfl rfl rfl rfl rfl rfl k.2.2.1 k.2.2.2.1 rfl rfl rfl rfl w hT;refine h.mono ?_;rintro r w' ⟨rfl,b⟩;refine ⟨?_,b⟩
 cases neg <;> rfl

theorem top7 {f:Int} (h:y7 f):IntKind.u64.wrap (IntKind.u64.wrap (2 ^ min (fW f-fP f).toNat 64)-1)=(oV f:Int):=by
 rcases h with rfl|rfl|rfl|rfl <;> decide +kernel

theorem s_top_is (f:Int)(hf:y7 f)(w:World)(hT:y6 w) :
  Calls Tryz.prog 62 #[.int .u8 f] w fun e w'=>e=.returned (.int .u64 (oV f:Nat))/\Below w.heap.size w w':=
 s_top f _ _ _ _ (yV hf).1 (yV hf).2.1 rfl rfl rfl (yV hf).2.2.2 (top7 hf) w hT

theorem pk_Inf {f:Int} (h:y7 f)(neg:Bool):pkHi f neg ((oV f:Nat)) (0)=((qA (eInf f neg)).1:Nat)/\pkLo f neg ((oV f:Nat)) (0)=((qA (eInf f neg)).2:Nat):=by
 rcases h with rfl|rfl|rfl|rfl <;> cases neg <;> decide +kernel
theorem pk_Zero {f:Int} (h:y7 f)(neg:Bool):pkHi f neg (0) (0)=((qA (xY f neg)).1:Nat)/\pkLo f neg (0) (0)=((qA (xY f neg)).2:Nat):=by
 rcases h with rfl|rfl|rfl|rfl <;> cases neg <;> decide +kernel
theorem pk_Greatest {f:Int} (h:y7 f)(neg:Bool):pkHi f neg (((oV f:Nat):Int)-1) ((if rLo 1 (fP f-1)=0 then IntKind.u64.wrap (rHi 1 (fP f-1)-1) else rHi 1 (fP f-1)))=((qA (eGreatest f neg)).1:Nat)/\pkLo f neg (((oV f:Nat):Int)-1) (IntKind.u64.wrap (rLo 1 (fP f-1)-1))=((qA (eGreatest f neg)).2:Nat):=by
 rcases h with rfl|rfl|rfl|rfl <;> cases neg <;> decide +kernel

theorem s_inf (f:Int)(neg:Bool)(hf:y7 f)(v:Nat)(hv:eInf f neg=v)(w:World)(hT:y6 w) :
  Calls Tryz.prog 26 #[.int .u8 f,.bool neg] w fun e w'=>e=.returned (xZ (qA v))/\Below w.heap.size w w':=by
 subst hv;have TT:=zJ hT;have P:=zJ (pk_Inf hf neg);obtain⟨x,y,hxy⟩:∃ x y,qA (eInf f neg)=(x,y):=⟨_,_,rfl⟩;rw [hxy] at P ⊢;have e0:xZ (x,y)=.agg #[.int .u64 x,.int .u64 y]:=rfl;rw [e0];have f4:=yV hf;clear hxy hT e0;have R0:(w.alloc (.cells #[.int .u64 0,.int .u64 0] 26)).heap[w.heap.size]?=some (.cells #[.int .u64 0,.int .u64 0] 26):=last7 _ _;have B0:=yB w (.cells #[.int .u64 0,.int .u64 0] 26)
 go_enter Tryz.func26,Tryz.ntmps26
 go_wp2_with fail
 refine (s_top_is f hf _ (z7 TT.out B0)).mono ?_;rintro r w1 ⟨rfl,b1⟩;have B1:=zX B0 b1;have R1:=zA b1 _ _ _ R0;clear B0 R0 b1;go_wp2_with fail
 refine (s_pack_is f _ 0 0 _ _ neg hf P.out.1 P.out.2 _ (z7 TT.out B1)).mono ?_;rintro r w2 ⟨rfl,b2⟩;have B2:=zX B1 b2;have R2:=zA b2 _ _ _ R1;clear B1 R1 b2;have q0:=fz (k:=0) R2;have q1:=fz (k:=1) R2;have d0:=zI R2 0 _ rfl;have d1:=zI R2 1 _ rfl;obtain⟨E0,E1⟩:=zQ R2 (.int .u64 x) (.int .u64 y);go_wp2
 exact bodyPost_ret (v:=.agg #[.int .u64 x,.int .u64 y]) (by simp [results,Tryz.results26,go_sem,E0,E1]) rfl ⟨rfl,zN B2 (by omega) _ _⟩

theorem s_zero (f:Int)(neg:Bool)(hf:y7 f)(v:Nat)(hv:xY f neg=v)(w:World)(hT:y6 w) :
  Calls Tryz.prog 21 #[.int .u8 f,.bool neg] w fun e w'=>e=.returned (xZ (qA v))/\Below w.heap.size w w':=by
 subst hv;have TT:=zJ hT;have P:=zJ (pk_Zero hf neg);obtain⟨x,y,hxy⟩:∃ x y,qA (xY f neg)=(x,y):=⟨_,_,rfl⟩;rw [hxy] at P ⊢;have e0:xZ (x,y)=.agg #[.int .u64 x,.int .u64 y]:=rfl;rw [e0];have f4:=yV hf;clear hxy hT e0;have R0:(w.alloc (.cells #[.int .u64 0,.int .u64 0] 26)).heap[w.heap.size]?=some (.cells #[.int .u64 0,.int .u64 0] 26):=last7 _ _;have B0:=yB w (.cells #[.int .u64 0,.int .u64 0] 26)
 go_enter Tryz.func21,Tryz.ntmps21
 go_wp2_with fail
 refine (s_pack_is f 0 0 0 _ _ neg hf P.out.1 P.out.2 _ (z7 TT.out B0)).mono ?_;rintro r w1 ⟨rfl,b1⟩;have B1:=zX B0 b1;have R1:=zA b1 _ _ _ R0;clear B0 R0 b1;have q0:=fz (k:=0) R1;have q1:=fz (k:=1) R1;have d0:=zI R1 0 _ rfl;have d1:=zI R1 1 _ rfl;obtain⟨E0,E1⟩:=zQ R1 (.int .u64 x) (.int .u64 y);go_wp2
 exact bodyPost_ret (v:=.agg #[.int .u64 x,.int .u64 y]) (by simp [results,Tryz.results21,go_sem,E0,E1]) rfl ⟨rfl,zN B1 (by omega) _ _⟩

theorem s_greatest (f:Int)(neg:Bool)(hf:y7 f)(v:Nat)(hv:eGreatest f neg=v)(w:World)(hT:y6 w) :
  Calls Tryz.prog 132 #[.int .u8 f,.bool neg] w fun e w'=>e=.returned (xZ (qA v))/\Below w.heap.size w w':=by
 subst hv;have TT:=zJ hT;have P:=zJ (pk_Greatest hf neg);obtain⟨x,y,hxy⟩:∃ x y,qA (eGreatest f neg)=(x,y):=⟨_,_,rfl⟩;rw [hxy] at P ⊢;have e0:xZ (x,y)=.agg #[.int .u64 x,.int .u64 y]:=rfl;rw [e0];have f4:=yV hf;clear hxy hT e0;obtain⟨p,hp⟩:∃ p:Int,fP f=p:=⟨_,rfl⟩;obtain⟨n,hn⟩:∃ n:Int,fP f-1=n:=⟨_,rfl⟩;obtain⟨H,hH⟩:∃ n:Int,rHi 1 (fP f-1)=n:=⟨_,rfl⟩;obtain⟨L,hL⟩:∃ n:Int,rLo 1 (fP f-1)=n:=⟨_,rfl⟩;obtain⟨K,hK⟩:∃ n:Int,(if L=0 then IntKind.u64.wrap (H-1) else H)=n:=⟨_,rfl⟩;obtain⟨M,hM⟩:∃ n:Int,IntKind.u64.wrap (L-1)=n:=⟨_,rfl⟩;obtain⟨E,hE⟩:∃ n:Int,((oV f:Nat):Int)-1=n:=⟨_,rfl⟩;have n0:0<=n:=by rw [<-hn];rcases hf with rfl|rfl|rfl|rfl <;> decide +kernel
 have n1:n<=18446744073709551615:=by rw [<-hn];rcases hf with rfl|rfl|rfl|rfl <;> decide +kernel
 have HN:zW (IntKind.u64.wrap (p-1)=n):=zJ (by rw [<-hn,<-hp];rcases hf with rfl|rfl|rfl|rfl <;> decide +kernel);have w1:IntKind.u64.wrap (((oV f:Nat):Int)-1)=E:=by rw [<-hE];rcases hf with rfl|rfl|rfl|rfl <;> decide +kernel
 rw [hL,hH,hK,hM,hE] at P;have HP:=zJ hp;have HH:zW (rHi 1 n=H):=zJ (by rw [<-hn];exact hH);have HL:zW (rLo 1 n=L):=zJ (by rw [<-hn];exact hL);have HK:=zJ hK;have HM:=zJ hM;clear hp hn hH hL hK hM hE;have R0:(w.alloc (.cells #[.int .u64 0,.int .u64 0] 26)).heap[w.heap.size]?=some (.cells #[.int .u64 0,.int .u64 0] 26):=last7 _ _;have B0:=yB w (.cells #[.int .u64 0,.int .u64 0] 26)
 go_enter Tryz.func132,Tryz.ntmps132
 go_wp2_with fail
 refine (s_top_is f hf _ (z7 TT.out B0)).mono ?_;rintro r w1 ⟨rfl,b1⟩;have B1:=zX B0 b1;have R1:=zA b1 _ _ _ R0;clear B0 R0 b1;go_wp2_with fail
 refine (s_fraction f p n f4.1 f4.2.1 HP.out HN.out _ (z7 TT.out B1)).mono ?_;rintro r w' ⟨rfl,rfl⟩;have B2:=qR B1 (.cells (fR f) 134);have R2:=xI R1 (.cells (fR f) 134);clear B1 R1;go_wp2_with fail
 refine (s_ones n H L n0 n1 HH.out HL.out K M HK.out HM.out _).mono ?_;rintro r w3 ⟨rfl,b3⟩;have B3:=zX B2 b3;have R3:=zA b3 _ _ _ R2;clear B2 R2 b3;go_wp2_with fail
 refine (s_pack_is f E K M _ _ neg hf P.out.1 P.out.2 _ (z7 TT.out B3)).mono ?_;rintro r w4 ⟨rfl,b4⟩;have B4:=zX B3 b4;have R4:=zA b4 _ _ _ R3;clear B3 R3 b4;have q0:=fz (k:=0) R4;have q1:=fz (k:=1) R4;have d0:=zI R4 0 _ rfl;have d1:=zI R4 1 _ rfl;obtain⟨E0,E1⟩:=zQ R4 (.int .u64 x) (.int .u64 y);go_wp2
 exact bodyPost_ret (v:=.agg #[.int .u64 x,.int .u64 y]) (by simp [results,Tryz.results132,go_sem,E0,E1]) rfl ⟨rfl,zN B4 (by omega) _ _⟩

end Go.Proofs.YtapikkbifdldfaaGreatDoor
