/-
  What the functions that the statement reaches return: part 7 (Y3, Y4, X11, X12, Y5).
-/
import Derived.Lib.MinMax
import Derived.Test.YtapikkbifdldfaaGreatDoorFt06
namespace Go.Proofs.YtapikkbifdldfaaGreatDoor
set_option maxRecDepth 100000
set_option maxHeartbeats 40000000
open Go.RowKit WMath XMath
theorem lg_no' (n:Nat)(h:¬ nl n<=16384):lg n=(⟨#[]⟩,4):=by unfold lg;rw [if_neg h]
theorem mk_out (neg:Bool)(n d:Nat)(e:Int)(hn:n % 2=1)(hd:d % 2=1)(he:¬ (-1048576<=e/\e<=1048576)):XMath.mk neg n d e=(XZ,4):=by
 unfold XMath.mk
 rw [if_neg (by omega),tz_odd n hn,tz_odd d hd,if_neg (by omega)]

theorem rMul_ok (b:Bool)(n d:Nat)(e:Int)(s t:ByteArray)(c:Bool)(m f:Nat)(g:Int)(p q:ByteArray)(rb:Bool)(rn rd:Nat)(re err:Int)(u v:ByteArray)
  (hs:yL n=s) (ht:yL d=t) (hp:yL m=p) (hq:yL f=q) (hx:(XN.mk b n d e).can) (hy:(XN.mk c m f g).can) (hr:mulX (XN.mk b n d e) (XN.mk c m f g)=(⟨rb,rn,rd,re⟩,err)) (hu:yL rn=u) (hv:yL rd=v) (w:World) :
  Calls Tryz.prog 53 #[.agg #[.bool b,.string s,.string t,.int .i64 e],.agg #[.bool c,.string p,.string q,.int .i64 g]] w fun r w'=>r=.returned (.tuple #[.agg #[.bool rb,.string u,.string v,.int .i64 re],.int .i64 err])/\Below w.heap.size w w':=by
 rcases x_cases hs ht hx with ⟨n0,rfl,rfl,rfl,rfl,rfl⟩|⟨n0,e0⟩
 ·
  obtain⟨rfl,rfl,rfl,rfl,rfl⟩:=x0_is (by rw [<-hr];unfold mulX;rw [if_pos (Or.inl n0)]);rw [yY] at hu;rw [nb1] at hv;subst hu hv;clear hs ht hp hq hx hy hr n0;obtain⟨Ae,Af,Ag,B0⟩:=opn3 w (Obj.cells #[.bool false,.string ⟨#[]⟩,.string ⟨#[1]⟩,.int .i64 0] 70) (Obj.cells #[.bool c,.string p,.string q,.int .i64 g] 70) (Obj.cells #[.bool false,.string ⟨#[]⟩,.string ⟨#[]⟩,.int .i64 0] 70)
  go_enter Tryz.func53,Tryz.ntmps53
  go_wp2_with fail
  refine (xnull _).mono ?_;rintro r w1 ⟨rfl,b1⟩;have B1:=zV B0 b1;obtain⟨Ac,Ad,Aa⟩:=yH b1 Ae Af Ag;clear b1 B0 Ae Af Ag;obtain⟨Ah,Ai,Aj,Ak⟩:=zF Ac;obtain⟨Al,Am,An,Ao⟩:=zF Ad;obtain⟨Ap,Aq,Ar,As⟩:=zF Aa;have q0:=fz (k:=0) Aa;have q1:=fz (k:=1) Aa;have q2:=fz (k:=2) Aa;have q3:=fz (k:=3) Aa;obtain⟨E0,E1,E2,E3⟩:=yM Aa rfl (.bool false) (.string ⟨#[]⟩) (.string ⟨#[1]⟩) (.int .i64 0);go_wp2
  exact bodyPost_ret (v:=.tuple #[.agg #[.bool false,.string ⟨#[]⟩,.string ⟨#[1]⟩,.int .i64 0],.int .i64 0]) (by simp [results,Tryz.results53,go_sem,E0,E1,E2,E3]) rfl ⟨rfl,yG B1 (by first|exact Nat.le_refl _|omega|(skip;omega)) _ _ _ _⟩
 ·
  rcases x_cases hp hq hy with ⟨m0,rfl,rfl,rfl,rfl,rfl⟩|⟨m0,e1⟩
  ·
   obtain⟨rfl,rfl,rfl,rfl,rfl⟩:=x0_is (by rw [<-hr];unfold mulX;rw [if_pos (Or.inr m0)]);rw [yY] at hu;rw [nb1] at hv;subst hu hv;clear hs ht hp hq hx hy hr n0 m0;obtain⟨Ae,Af,Ag,B0⟩:=opn3 w (Obj.cells #[.bool b,.string s,.string t,.int .i64 e] 70) (Obj.cells #[.bool false,.string ⟨#[]⟩,.string ⟨#[1]⟩,.int .i64 0] 70) (Obj.cells #[.bool false,.string ⟨#[]⟩,.string ⟨#[]⟩,.int .i64 0] 70)
   go_enter Tryz.func53,Tryz.ntmps53
   go_wp2_with fail
   refine (xnull _).mono ?_;rintro r w1 ⟨rfl,b1⟩;have B1:=zV B0 b1;obtain⟨Ac,Ad,Aa⟩:=yH b1 Ae Af Ag;clear b1 B0 Ae Af Ag;obtain⟨Ah,Ai,Aj,Ak⟩:=zF Ac;obtain⟨Al,Am,An,Ao⟩:=zF Ad;obtain⟨Ap,Aq,Ar,As⟩:=zF Aa;have q0:=fz (k:=0) Aa;have q1:=fz (k:=1) Aa;have q2:=fz (k:=2) Aa;have q3:=fz (k:=3) Aa;obtain⟨E0,E1,E2,E3⟩:=yM Aa rfl (.bool false) (.string ⟨#[]⟩) (.string ⟨#[1]⟩) (.int .i64 0);go_wp2
   exact bodyPost_ret (v:=.tuple #[.agg #[.bool false,.string ⟨#[]⟩,.string ⟨#[1]⟩,.int .i64 0],.int .i64 0]) (by simp [results,Tryz.results53,go_sem,E0,E1,E2,E3]) rfl ⟨rfl,yG B1 (by first|exact Nat.le_refl _|omega|(skip;omega)) _ _ _ _⟩
  ·
   have h3:-1048576<=e/\e<=1048576:=⟨hx.2.2.1,hx.2.2.2.1⟩;have g3:-1048576<=g/\g<=1048576:=⟨hy.2.2.1,hy.2.2.2.1⟩;obtain⟨o1,o2,_⟩:=hx.odd n0;obtain⟨o3,o4,_⟩:=hy.odd m0;have HS:=zJ hs;have HT:=zJ ht;have HP:=zJ hp;have HQ:=zJ hq;have LN:zY (nl n<=20000):=zJ (by have:nl n<=16384:=hx.1;omega);have LD:zY (nl d<=20000):=zJ (by have:nl d<=16384:=hx.2.1;omega);have LM:zY (nl m<=20000):=zJ (by have:nl m<=16384:=hy.1;omega);have LF:zY (nl f<=20000):=zJ (by have:nl f<=16384:=hy.2.1;omega);obtain⟨E,hE⟩:∃ E,e+g=E:=⟨_,rfl⟩;have n1:IntKind.i64.wrap (e+g)=E:=by rw [zR _ (by omega) (by omega),hE]
   have hr2:(if nl (n*m)<=16384/\nl (d*f)<=16384 then XMath.mk (b != c) (n*m) (d*f) E else (XZ,4))=(⟨rb,rn,rd,re⟩,err):=by
    rw [<-hr,<-hE]
    unfold mulX
    rw [if_neg (show ¬ (n=0∨m=0) by omega)]
   have oa:=mul_odd _ _ o1 o3;have ob:=mul_odd _ _ o2 o4;clear hr hE hx hy hs ht hp hq
   by_cases h1:nl (n*m)<=16384
   ·
    obtain⟨x,hx⟩:∃ x,yL (n*m)=x:=⟨_,rfl⟩;have HX:=zJ (lg_ok (n*m) x h1 hx)
    by_cases h2:nl (d*f)<=16384
    ·
     obtain⟨y,hy⟩:∃ x,yL (d*f)=x:=⟨_,rfl⟩;have HY:=zJ (lg_ok (d*f) y h2 hy);rw [if_pos ⟨h1,h2⟩] at hr2
     by_cases hin:-1048576<=E/\E<=1048576
     ·
      have c1:decide (E < -1048576)=false:=decide_eq_false (by omega);have c2:decide (1048576<E)=false:=decide_eq_false (by omega);have HF:=zJ (fun w=>rmake_ok (b != c) (n*m) (d*f) E x y rb rn rd re err u v hx hy h1 h2 (fun h=>by rw [h] at ob;exact absurd ob (by decide)) hin.1 hin.2 hr2 hu hv w);clear hx hy h1 h2 hin hr2 hu hv oa ob n0 m0 h3 g3 o1 o2 o3 o4;obtain⟨Ae,Af,Ag,B0⟩:=opn3 w (Obj.cells #[.bool b,.string s,.string t,.int .i64 e] 70) (Obj.cells #[.bool c,.string p,.string q,.int .i64 g] 70) (Obj.cells #[.bool false,.string ⟨#[]⟩,.string ⟨#[]⟩,.int .i64 0] 70)
      go_enter Tryz.func53,Tryz.ntmps53
      go_wp2_with fail
      refine (yS n m s p x 0 HS.out HP.out HX.out LN.out LM.out _).mono ?_;rintro r w1 ⟨rfl,b1⟩;have B1:=zV B0 b1;obtain⟨Ac,Ad,Aa⟩:=yH b1 Ae Af Ag;clear b1 B0 Ae Af Ag;obtain⟨Ah,Ai,Aj,Ak⟩:=zF Ac;obtain⟨Al,Am,An,Ao⟩:=zF Ad;obtain⟨Ap,Aq,Ar,As⟩:=zF Aa;go_wp2_with fail
      refine (yS d f t q y 0 HT.out HQ.out HY.out LD.out LF.out _).mono ?_;rintro r w2 ⟨rfl,b2⟩;have B2:=zV B1 b2;obtain⟨At,Au,Ab⟩:=yH b2 Ac Ad Aa;clear b2 B1 Ac Ah Ai Aj Ak Ad Al Am An Ao Aa Ap Aq Ar As;obtain⟨Aw,Ax,Ay,Az⟩:=zF At;obtain⟨AA,AB,AC,AD⟩:=zF Au;obtain⟨AE,AF,AG,AH⟩:=zF Ab;go_wp2_with fail
      refine (HF.out _).mono ?_;rintro r w3 ⟨rfl,b3⟩;have B3:=zV B2 b3;obtain⟨AI,AJ,Av⟩:=yH b3 At Au Ab;clear b3 B2 At Aw Ax Ay Az Au AA AB AC AD Ab AE AF AG AH;obtain⟨AK,AL,AM,AN⟩:=zF AI;obtain⟨AO,AP,AQ,AR⟩:=zF AJ;obtain⟨AS,AT,AU,AV⟩:=zF Av;have q0:=fz (k:=0) Av;have q1:=fz (k:=1) Av;have q2:=fz (k:=2) Av;have q3:=fz (k:=3) Av;obtain⟨E0,E1,E2,E3⟩:=yM Av rfl (.bool rb) (.string u) (.string v) (.int .i64 re);go_wp2
      exact bodyPost_ret (v:=.tuple #[.agg #[.bool rb,.string u,.string v,.int .i64 re],.int .i64 err]) (by simp [results,Tryz.results53,go_sem,E0,E1,E2,E3]) rfl ⟨rfl,yG B3 (by first|exact Nat.le_refl _|omega|(skip;omega)) _ _ _ _⟩
     ·
      rw [mk_out _ _ _ _ oa ob hin] at hr2;obtain⟨rfl,rfl,rfl,rfl,rfl⟩:=xz_is hr2;rw [yY] at hu hv;subst hu hv
      have c12:decide (E < -1048576)=true∨(decide (E < -1048576)=false/\decide (1048576<E)=true):=by
       by_cases hh:E < -1048576
       ·
        exact Or.inl (decide_eq_true hh)
       ·
        exact Or.inr ⟨decide_eq_false hh,decide_eq_true (by omega)⟩
      clear hx hy h1 h2 hin hr2 oa ob n0 m0 h3 g3 o1 o2 o3 o4
      rcases c12 with c1|⟨c1,c2⟩
      ·
       obtain⟨Ae,Af,Ag,B0⟩:=opn3 w (Obj.cells #[.bool b,.string s,.string t,.int .i64 e] 70) (Obj.cells #[.bool c,.string p,.string q,.int .i64 g] 70) (Obj.cells #[.bool false,.string ⟨#[]⟩,.string ⟨#[]⟩,.int .i64 0] 70)
       go_enter Tryz.func53,Tryz.ntmps53
       go_wp2_with fail
       refine (yS n m s p x 0 HS.out HP.out HX.out LN.out LM.out _).mono ?_;rintro r w1 ⟨rfl,b1⟩;have B1:=zV B0 b1;obtain⟨Ac,Ad,Aa⟩:=yH b1 Ae Af Ag;clear b1 B0 Ae Af Ag;obtain⟨Ah,Ai,Aj,Ak⟩:=zF Ac;obtain⟨Al,Am,An,Ao⟩:=zF Ad;obtain⟨Ap,Aq,Ar,As⟩:=zF Aa;go_wp2_with fail
       refine (yS d f t q y 0 HT.out HQ.out HY.out LD.out LF.out _).mono ?_;rintro r w2 ⟨rfl,b2⟩;have B2:=zV B1 b2;obtain⟨At,Au,Ab⟩:=yH b2 Ac Ad Aa;clear b2 B1 Ac Ah Ai Aj Ak Ad Al Am An Ao Aa Ap Aq Ar As;obtain⟨Aw,Ax,Ay,Az⟩:=zF At;obtain⟨AA,AB,AC,AD⟩:=zF Au;obtain⟨AE,AF,AG,AH⟩:=zF Ab;have q0:=fz (k:=0) Ab;have q1:=fz (k:=1) Ab;have q2:=fz (k:=2) Ab;have q3:=fz (k:=3) Ab;obtain⟨E0,E1,E2,E3⟩:=yM Ab rfl (.bool false) (.string ⟨#[]⟩) (.string ⟨#[]⟩) (.int .i64 0);go_wp2
       exact bodyPost_ret (v:=.tuple #[.agg #[.bool false,.string ⟨#[]⟩,.string ⟨#[]⟩,.int .i64 0],.int .i64 4]) (by simp [results,Tryz.results53,go_sem,E0,E1,E2,E3]) rfl ⟨rfl,yG B2 (by first|exact Nat.le_refl _|omega|(skip;omega)) _ _ _ _⟩
      ·
       obtain⟨Ae,Af,Ag,B0⟩:=opn3 w (Obj.cells #[.bool b,.string s,.string t,.int .i64 e] 70) (Obj.cells #[.bool c,.string p,.string q,.int .i64 g] 70) (Obj.cells #[.bool false,.string ⟨#[]⟩,.string ⟨#[]⟩,.int .i64 0] 70)
       go_enter Tryz.func53,Tryz.ntmps53
       go_wp2_with fail
       refine (yS n m s p x 0 HS.out HP.out HX.out LN.out LM.out _).mono ?_;rintro r w1 ⟨rfl,b1⟩;have B1:=zV B0 b1;obtain⟨Ac,Ad,Aa⟩:=yH b1 Ae Af Ag;clear b1 B0 Ae Af Ag;obtain⟨Ah,Ai,Aj,Ak⟩:=zF Ac;obtain⟨Al,Am,An,Ao⟩:=zF Ad;obtain⟨Ap,Aq,Ar,As⟩:=zF Aa;go_wp2_with fail
       refine (yS d f t q y 0 HT.out HQ.out HY.out LD.out LF.out _).mono ?_;rintro r w2 ⟨rfl,b2⟩;have B2:=zV B1 b2;obtain⟨At,Au,Ab⟩:=yH b2 Ac Ad Aa;clear b2 B1 Ac Ah Ai Aj Ak Ad Al Am An Ao Aa Ap Aq Ar As;obtain⟨Aw,Ax,Ay,Az⟩:=zF At;obtain⟨AA,AB,AC,AD⟩:=zF Au;obtain⟨AE,AF,AG,AH⟩:=zF Ab;have q0:=fz (k:=0) Ab;have q1:=fz (k:=1) Ab;have q2:=fz (k:=2) Ab;have q3:=fz (k:=3) Ab;obtain⟨E0,E1,E2,E3⟩:=yM Ab rfl (.bool false) (.string ⟨#[]⟩) (.string ⟨#[]⟩) (.int .i64 0);go_wp2
       exact bodyPost_ret (v:=.tuple #[.agg #[.bool false,.string ⟨#[]⟩,.string ⟨#[]⟩,.int .i64 0],.int .i64 4]) (by simp [results,Tryz.results53,go_sem,E0,E1,E2,E3]) rfl ⟨rfl,yG B2 (by first|exact Nat.le_refl _|omega|(skip;omega)) _ _ _ _⟩
    ·
     have HY:=zJ (lg_no' (d*f) h2);rw [if_neg (fun h=>h2 h.2)] at hr2;obtain⟨rfl,rfl,rfl,rfl,rfl⟩:=xz_is hr2;rw [yY] at hu hv;subst hu hv;clear hx h1 h2 hr2 oa ob n0 m0 h3 g3 o1 o2 o3 o4;obtain⟨Ae,Af,Ag,B0⟩:=opn3 w (Obj.cells #[.bool b,.string s,.string t,.int .i64 e] 70) (Obj.cells #[.bool c,.string p,.string q,.int .i64 g] 70) (Obj.cells #[.bool false,.string ⟨#[]⟩,.string ⟨#[]⟩,.int .i64 0] 70)
     go_enter Tryz.func53,Tryz.ntmps53
     go_wp2_with fail
     refine (yS n m s p x 0 HS.out HP.out HX.out LN.out LM.out _).mono ?_;rintro r w1 ⟨rfl,b1⟩;have B1:=zV B0 b1;obtain⟨Ac,Ad,Aa⟩:=yH b1 Ae Af Ag;clear b1 B0 Ae Af Ag;obtain⟨Ah,Ai,Aj,Ak⟩:=zF Ac;obtain⟨Al,Am,An,Ao⟩:=zF Ad;obtain⟨Ap,Aq,Ar,As⟩:=zF Aa;go_wp2_with fail
     refine (yS d f t q _ 4 HT.out HQ.out HY.out LD.out LF.out _).mono ?_;rintro r w2 ⟨rfl,b2⟩;have B2:=zV B1 b2;obtain⟨At,Au,Ab⟩:=yH b2 Ac Ad Aa;clear b2 B1 Ac Ah Ai Aj Ak Ad Al Am An Ao Aa Ap Aq Ar As;obtain⟨Aw,Ax,Ay,Az⟩:=zF At;obtain⟨AA,AB,AC,AD⟩:=zF Au;obtain⟨AE,AF,AG,AH⟩:=zF Ab;have q0:=fz (k:=0) Ab;have q1:=fz (k:=1) Ab;have q2:=fz (k:=2) Ab;have q3:=fz (k:=3) Ab;obtain⟨E0,E1,E2,E3⟩:=yM Ab rfl (.bool false) (.string ⟨#[]⟩) (.string ⟨#[]⟩) (.int .i64 0);go_wp2
     exact bodyPost_ret (v:=.tuple #[.agg #[.bool false,.string ⟨#[]⟩,.string ⟨#[]⟩,.int .i64 0],.int .i64 4]) (by simp [results,Tryz.results53,go_sem,E0,E1,E2,E3]) rfl ⟨rfl,yG B2 (by first|exact Nat.le_refl _|omega|(skip;omega)) _ _ _ _⟩
   ·
    have HX:=zJ (lg_no' (n*m) h1);obtain⟨y,ff,hy⟩:∃ y ff,lg (d*f)=(y,ff):=⟨_,_,rfl⟩;have HY:=zJ hy;rw [if_neg (fun h=>h1 h.1)] at hr2;obtain⟨rfl,rfl,rfl,rfl,rfl⟩:=xz_is hr2;rw [yY] at hu hv;subst hu hv;clear hy h1 hr2 oa ob n0 m0 h3 g3 o1 o2 o3 o4;obtain⟨Ae,Af,Ag,B0⟩:=opn3 w (Obj.cells #[.bool b,.string s,.string t,.int .i64 e] 70) (Obj.cells #[.bool c,.string p,.string q,.int .i64 g] 70) (Obj.cells #[.bool false,.string ⟨#[]⟩,.string ⟨#[]⟩,.int .i64 0] 70)
    go_enter Tryz.func53,Tryz.ntmps53
    go_wp2_with fail
    refine (yS n m s p _ 4 HS.out HP.out HX.out LN.out LM.out _).mono ?_;rintro r w1 ⟨rfl,b1⟩;have B1:=zV B0 b1;obtain⟨Ac,Ad,Aa⟩:=yH b1 Ae Af Ag;clear b1 B0 Ae Af Ag;obtain⟨Ah,Ai,Aj,Ak⟩:=zF Ac;obtain⟨Al,Am,An,Ao⟩:=zF Ad;obtain⟨Ap,Aq,Ar,As⟩:=zF Aa;go_wp2_with fail
    refine (yS d f t q y ff HT.out HQ.out HY.out LD.out LF.out _).mono ?_;rintro r w2 ⟨rfl,b2⟩;have B2:=zV B1 b2;obtain⟨At,Au,Ab⟩:=yH b2 Ac Ad Aa;clear b2 B1 Ac Ah Ai Aj Ak Ad Al Am An Ao Aa Ap Aq Ar As;obtain⟨Aw,Ax,Ay,Az⟩:=zF At;obtain⟨AA,AB,AC,AD⟩:=zF Au;obtain⟨AE,AF,AG,AH⟩:=zF Ab;have q0:=fz (k:=0) Ab;have q1:=fz (k:=1) Ab;have q2:=fz (k:=2) Ab;have q3:=fz (k:=3) Ab;obtain⟨E0,E1,E2,E3⟩:=yM Ab rfl (.bool false) (.string ⟨#[]⟩) (.string ⟨#[]⟩) (.int .i64 0);go_wp2
    exact bodyPost_ret (v:=.tuple #[.agg #[.bool false,.string ⟨#[]⟩,.string ⟨#[]⟩,.int .i64 0],.int .i64 4]) (by simp [results,Tryz.results53,go_sem,E0,E1,E2,E3]) rfl ⟨rfl,yG B2 (by first|exact Nat.le_refl _|omega|(skip;omega)) _ _ _ _⟩

theorem below_top (x:XN)(k:Int)(i:Nat)(hx:x.can)(hk:x.e+(i:Int)=k)(h:(2:Rat) ^ k<=x.mag):x.d*2 ^ i<=x.n:=by
 have d0:=hx.d0;have m:=Rat.mul_le_mul_of_nonneg_right h (Rat.le_of_lt (cast_pos d0))
 have e1:x.mag*(x.d:Rat)=(x.n:Rat)*(2:Rat) ^ x.e:=by
  unfold XN.mag
  have z:=cast_ne d0
  grind
 have e2:(2:Rat) ^ k*(x.d:Rat)=((x.d*2 ^ i:Nat):Rat)*(2:Rat) ^ x.e:=by
  rw [<-hk,p2add,Rat.natCast_mul,<-p2nat]
  grind
 rw [e1,e2] at m;have m2:=Rat.le_of_mul_le_mul_right m (p2 x.e);exact Rat.natCast_le_natCast.1 m2
theorem rshifted (a k:Nat)(s v:ByteArray)(hs:yL a=s)(ha:nl a<=16384)(k2:k<=1000000)(h:nl (a*2 ^ k)<=16384)(hv:yL (a*2 ^ k)=v)(w:World):Calls Tryz.prog 214 #[.string s,.int .i64 (k:Int)] w fun r w'=>r=.returned (.string v)/\Below w.heap.size w w':=by
 have F1:=zJ (lf_up a k v h hv);have HS:=zJ hs;have HA:=zJ ha;clear hs ha h hv;have B0:Below w.heap.size w w:=(Below.refl _ _)
 go_enter Tryz.func214,Tryz.ntmps214
 go_wp2_with fail
 refine (xP a (k:Int) s v 0 HS.out HA.out (by omega) F1.out _).mono ?_;rintro r w1 ⟨rfl,b1⟩;have B1:=zV B0 b1;clear b1 B0;go_wp2
 go_ret
 exact⟨rfl,B1⟩

theorem rTop_ok (b:Bool)(n d:Nat)(e:Int)(s t:ByteArray)(T:Int)(hs:yL n=s)(ht:yL d=t)(n0:n≠0)(hc:(XN.mk b n d e).can)(hr:xO (XN.mk b n d e)=T)(w:World):Calls Tryz.prog 199 #[.agg #[.bool b,.string s,.string t,.int .i64 e]] w fun r w'=>r=.returned (.tuple #[.int .i64 T,.int .i64 0])/\Below w.heap.size w w':=by
 have e0:=eq_nil n s hs n0;have d0:d≠0:=hc.d0;have ln:nl n<=16384:=hc.1;have ld:nl d<=16384:=hc.2.1;have he:-1048576<=e/\e<=1048576:=⟨hc.2.2.1,hc.2.2.2.1⟩;obtain⟨l1,l2⟩:=tAB_nl (XN.mk b n d e) n0 d0 ln ld;obtain⟨x,hx⟩:∃ x,zU n=x:=⟨_,rfl⟩;obtain⟨y,hy⟩:∃ x,zU d=x:=⟨_,rfl⟩;have x2:x<=131072:=by unfold nl at ln;omega
 have y2:y<=131072:=by unfold nl at ld;omega
 have HS:=zJ hs;have HT:=zJ ht;have LN:=zJ ln;have LD:=zJ ld;have HX:=zJ hx;have HY:=zJ hy
 by_cases hk0:y<=x
 ·
  obtain⟨k,hk⟩:∃ k:Nat,x-y=k:=⟨_,rfl⟩;have hlen:q9 (XN.mk b n d e)=(k:Int):=by unfold q9;show (zU n:Int)-(zU d:Int)=k;rw [hx,hy];omega
  have eA:tA (XN.mk b n d e)=n:=by unfold tA;rw [hlen,show (max (-(k:Int)) 0).toNat=0 by omega,Nat.pow_zero,Nat.mul_one]
  have eB:tB (XN.mk b n d e)=d*2 ^ k:=by unfold tB;rw [hlen,show (max (k:Int) 0).toNat=k by omega]
  rw [eB] at l2;obtain⟨q,hq⟩:∃ p,yL (d*2 ^ k)=p:=⟨_,rfl⟩;obtain⟨c,hcm⟩:∃ c,jB n (d*2 ^ k)=c:=⟨_,rfl⟩;have HF:=zJ (fun w=>rshifted d k t q ht ld (by omega) l2 hq w);have HQ:=zJ hq;have HC:=zJ hcm;have m1:IntKind.i64.wrap ((x:Int)-(y:Int))=(k:Int):=by rw [zR _ (by omega) (by omega)];omega
  have m5:IntKind.i64.wrap ((k:Int)-1)=(k:Int)-1:=zR _ (by omega) (by omega);have m6:IntKind.i64.wrap ((k:Int)-1+e)=(k:Int)-1+e:=zR _ (by omega) (by omega);have m7:IntKind.i64.wrap ((k:Int)+e)=(k:Int)+e:=zR _ (by omega) (by omega);have g0:decide ((0:Int)<=(k:Int))=true:=decide_eq_true (by omega);have hT2:T=(if n<d*2 ^ k then (k:Int)-1 else (k:Int))+e:=by rw [<-hr];unfold xO;rw [eA,eB,hlen]
  by_cases hl:n<d*2 ^ k
  ·
   rw [if_pos hl] at hT2;have g1:decide ((0:Int)<=c)=false:=decide_eq_false (by have:=(cmpv_neg n (d*2 ^ k)).2 hl;omega);subst hT2;clear hs ht hc hr n0 d0 ln ld he l1 l2 hx hy hk0 hk hlen eA eB hq hcm hl;obtain⟨Ab,B0⟩:=yV w (Obj.cells #[.bool b,.string s,.string t,.int .i64 e] 70)
   go_enter Tryz.func199,Tryz.ntmps199
   go_wp2_with fail
   go_quiet (fail)
   obtain⟨w1,hw,B1,hh⟩:=yR B0 nq;rw [hw];have Aa:w1.heap[w.heap.size]?=some (.cells #[.bool b,.string s,.string t,.int .i64 e] 70):=by rw [hh];exact Ab
   clear hw hh B0 Ab;obtain⟨Ac,Ad,Ae,Af⟩:=zF Aa;go_wp2_with fail
   refine (qO n x s HS.out LN.out HX.out _).mono ?_;rintro r w' ⟨rfl,rfl⟩;go_wp2_with fail
   refine (qO d y t HT.out LD.out HY.out _).mono ?_;rintro r w' ⟨rfl,rfl⟩;go_wp2_with fail
   refine (HF.out _).mono ?_;rintro r w2 ⟨rfl,b2⟩;have B2:=zV B1 b2;have Ag:=zE b2 _ _ _ Aa;clear b2 B1 Aa Ac Ad Ae Af;obtain⟨Ah,Ai,Aj,Ak⟩:=zF Ag;go_wp2_with fail
   refine (qY n (d*2 ^ k) s q c HS.out HQ.out HC.out _).mono ?_;rintro r w' ⟨rfl,rfl⟩;go_wp2
   go_ret2
   exact⟨rfl,B2⟩
  ·
   rw [if_neg hl] at hT2;have g1:decide ((0:Int)<=c)=true:=decide_eq_true (by have:=mt (cmpv_neg n (d*2 ^ k)).1 hl;omega);subst hT2;clear hs ht hc hr n0 d0 ln ld he l1 l2 hx hy hk0 hk hlen eA eB hq hcm hl;obtain⟨Ab,B0⟩:=yV w (Obj.cells #[.bool b,.string s,.string t,.int .i64 e] 70)
   go_enter Tryz.func199,Tryz.ntmps199
   go_wp2_with fail
   go_quiet (fail)
   obtain⟨w1,hw,B1,hh⟩:=yR B0 nq;rw [hw];have Aa:w1.heap[w.heap.size]?=some (.cells #[.bool b,.string s,.string t,.int .i64 e] 70):=by rw [hh];exact Ab
   clear hw hh B0 Ab;obtain⟨Ac,Ad,Ae,Af⟩:=zF Aa;go_wp2_with fail
   refine (qO n x s HS.out LN.out HX.out _).mono ?_;rintro r w' ⟨rfl,rfl⟩;go_wp2_with fail
   refine (qO d y t HT.out LD.out HY.out _).mono ?_;rintro r w' ⟨rfl,rfl⟩;go_wp2_with fail
   refine (HF.out _).mono ?_;rintro r w2 ⟨rfl,b2⟩;have B2:=zV B1 b2;have Ag:=zE b2 _ _ _ Aa;clear b2 B1 Aa Ac Ad Ae Af;obtain⟨Ah,Ai,Aj,Ak⟩:=zF Ag;go_wp2_with fail
   refine (qY n (d*2 ^ k) s q c HS.out HQ.out HC.out _).mono ?_;rintro r w' ⟨rfl,rfl⟩;go_wp2
   go_ret2
   exact⟨rfl,B2⟩
 ·
  obtain⟨k,hk⟩:∃ k:Nat,y-x=k:=⟨_,rfl⟩;have k1:1<=k:=by omega
  have hlen:q9 (XN.mk b n d e)=-(k:Int):=by unfold q9;show (zU n:Int)-(zU d:Int)=-(k:Int);rw [hx,hy];omega
  have eA:tA (XN.mk b n d e)=n*2 ^ k:=by unfold tA;rw [hlen,show (max (- -(k:Int)) 0).toNat=k by omega]
  have eB:tB (XN.mk b n d e)=d:=by unfold tB;rw [hlen,show (max (-(k:Int)) 0).toNat=0 by omega,Nat.pow_zero,Nat.mul_one]
  rw [eA] at l1;obtain⟨q,hq⟩:∃ p,yL (n*2 ^ k)=p:=⟨_,rfl⟩;obtain⟨c,hcm⟩:∃ c,jB (n*2 ^ k) d=c:=⟨_,rfl⟩;have HF:=zJ (fun w=>rshifted n k s q hs ln (by omega) l1 hq w);have HQ:=zJ hq;have HC:=zJ hcm;obtain⟨K,hK⟩:∃ K:Int,-(k:Int)=K:=⟨_,rfl⟩;have m1:IntKind.i64.wrap ((x:Int)-(y:Int))=K:=by rw [zR _ (by omega) (by omega)];omega
  have m2:IntKind.i64.wrap (-K)=(k:Int):=by rw [zR _ (by omega) (by omega)];omega
  have m5:IntKind.i64.wrap (K-1)=K-1:=zR _ (by omega) (by omega);have m6:IntKind.i64.wrap (K-1+e)=K-1+e:=zR _ (by omega) (by omega);have m7:IntKind.i64.wrap (K+e)=K+e:=zR _ (by omega) (by omega);have g0:decide ((0:Int)<=K)=false:=decide_eq_false (by omega);have hT2:T=(if n*2 ^ k<d then K-1 else K)+e:=by rw [<-hr];unfold xO;rw [eA,eB,hlen,hK]
  by_cases hl:n*2 ^ k<d
  ·
   rw [if_pos hl] at hT2;have g1:decide ((0:Int)<=c)=false:=decide_eq_false (by have:=(cmpv_neg (n*2 ^ k) d).2 hl;omega);subst hT2;clear hs ht hc hr n0 d0 ln ld he l1 l2 hx hy hk0 hk hlen eA eB hq hcm hl hK;obtain⟨Ab,B0⟩:=yV w (Obj.cells #[.bool b,.string s,.string t,.int .i64 e] 70)
   go_enter Tryz.func199,Tryz.ntmps199
   go_wp2_with fail
   go_quiet (fail)
   obtain⟨w1,hw,B1,hh⟩:=yR B0 nq;rw [hw];have Aa:w1.heap[w.heap.size]?=some (.cells #[.bool b,.string s,.string t,.int .i64 e] 70):=by rw [hh];exact Ab
   clear hw hh B0 Ab;obtain⟨Ac,Ad,Ae,Af⟩:=zF Aa;go_wp2_with fail
   refine (qO n x s HS.out LN.out HX.out _).mono ?_;rintro r w' ⟨rfl,rfl⟩;go_wp2_with fail
   refine (qO d y t HT.out LD.out HY.out _).mono ?_;rintro r w' ⟨rfl,rfl⟩;go_wp2_with fail
   refine (HF.out _).mono ?_;rintro r w2 ⟨rfl,b2⟩;have B2:=zV B1 b2;have Ag:=zE b2 _ _ _ Aa;clear b2 B1 Aa Ac Ad Ae Af;obtain⟨Ah,Ai,Aj,Ak⟩:=zF Ag;go_wp2_with fail
   refine (qY (n*2 ^ k) d q t c HQ.out HT.out HC.out _).mono ?_;rintro r w' ⟨rfl,rfl⟩;go_wp2
   go_ret2
   exact⟨rfl,B2⟩
  ·
   rw [if_neg hl] at hT2;have g1:decide ((0:Int)<=c)=true:=decide_eq_true (by have:=mt (cmpv_neg (n*2 ^ k) d).1 hl;omega);subst hT2;clear hs ht hc hr n0 d0 ln ld he l1 l2 hx hy hk0 hk hlen eA eB hq hcm hl hK;obtain⟨Ab,B0⟩:=yV w (Obj.cells #[.bool b,.string s,.string t,.int .i64 e] 70)
   go_enter Tryz.func199,Tryz.ntmps199
   go_wp2_with fail
   go_quiet (fail)
   obtain⟨w1,hw,B1,hh⟩:=yR B0 nq;rw [hw];have Aa:w1.heap[w.heap.size]?=some (.cells #[.bool b,.string s,.string t,.int .i64 e] 70):=by rw [hh];exact Ab
   clear hw hh B0 Ab;obtain⟨Ac,Ad,Ae,Af⟩:=zF Aa;go_wp2_with fail
   refine (qO n x s HS.out LN.out HX.out _).mono ?_;rintro r w' ⟨rfl,rfl⟩;go_wp2_with fail
   refine (qO d y t HT.out LD.out HY.out _).mono ?_;rintro r w' ⟨rfl,rfl⟩;go_wp2_with fail
   refine (HF.out _).mono ?_;rintro r w2 ⟨rfl,b2⟩;have B2:=zV B1 b2;have Ag:=zE b2 _ _ _ Aa;clear b2 B1 Aa Ac Ad Ae Af;obtain⟨Ah,Ai,Aj,Ak⟩:=zF Ag;go_wp2_with fail
   refine (qY (n*2 ^ k) d q t c HQ.out HT.out HC.out _).mono ?_;rintro r w' ⟨rfl,rfl⟩;go_wp2
   go_ret2
   exact⟨rfl,B2⟩
theorem rFloor_ok (b:Bool)(n d:Nat)(e:Int)(s t:ByteArray)(k:Int)(m:Nat)(is:Bool)(err:Int)(v:ByteArray)(hs:yL n=s)(ht:yL d=t)(hc:(XN.mk b n d e).can)(k1:-9223372036854775808<=k)(k2:k<=9223372036854775807)
  (hr:flX (XN.mk b n d e) k=((m,is),err)) (hv:yL m=v) (w:World):Calls Tryz.prog 201 #[.agg #[.bool b,.string s,.string t,.int .i64 e],.int .i64 k] w fun r w'=>r=.returned (.tuple #[.string v,.bool is,.int .i64 err])/\Below w.heap.size w w':=by
 unfold flX at hr
 by_cases hk:k < -2097152∨2097152<k
 ·
  rw [if_pos hk] at hr
  cases hr
  rw [yY] at hv;subst hv
  have c12:decide (k < -2097152)=true∨(decide (k < -2097152)=false/\decide (2097152<k)=true):=by
   by_cases hh:k < -2097152
   ·
    exact Or.inl (decide_eq_true hh)
   ·
    exact Or.inr ⟨decide_eq_false hh,decide_eq_true (by omega)⟩
  clear hs ht hc k1 k2 hk
  rcases c12 with c1|⟨c1,c2⟩
  ·
   obtain⟨Ab,B0⟩:=yV w (Obj.cells #[.bool b,.string s,.string t,.int .i64 e] 70)
   go_enter Tryz.func201,Tryz.ntmps201
   go_wp2
   go_ret3
   exact⟨rfl,B0⟩
  ·
   obtain⟨Ab,B0⟩:=yV w (Obj.cells #[.bool b,.string s,.string t,.int .i64 e] 70)
   go_enter Tryz.func201,Tryz.ntmps201
   go_wp2
   go_ret3
   exact⟨rfl,B0⟩
 rw [if_neg hk] at hr;have c1:decide (k < -2097152)=false:=decide_eq_false (by omega);have c2:decide (2097152<k)=false:=decide_eq_false (by omega)
 rcases x_cases hs ht hc with ⟨n0,rfl,rfl,rfl,rfl,rfl⟩|⟨n0,e0⟩
 ·
  rw [if_pos n0] at hr
  cases hr
  rw [yY] at hv;subst hv;clear hs ht hc k1 k2 hk n0;obtain⟨Ab,B0⟩:=yV w (Obj.cells #[.bool false,.string ⟨#[]⟩,.string ⟨#[1]⟩,.int .i64 0] 70)
  go_enter Tryz.func201,Tryz.ntmps201
  go_wp2
  go_ret3
  exact⟨rfl,B0⟩
 rw [if_neg n0] at hr;have he:-1048576<=e/\e<=1048576:=⟨hc.2.2.1,hc.2.2.2.1⟩;have HS:=zJ hs;have HT:=zJ ht;have LN:=zJ hc.1;have LD:=zJ hc.2.1;have D0:=zJ hc.d0
 by_cases hek:k<=e
 ·
  rw [if_pos hek] at hr;obtain⟨i,hi⟩:∃ i,(e-k).toNat=i:=⟨_,rfl⟩;have m1:IntKind.i64.wrap (e-k)=(i:Int):=by rw [zR _ (by omega) (by omega)];omega
  have hr2:(if nl (n*2 ^ i)<=16384 then ((n*2 ^ i / d,decide (n*2 ^ i % d=0)),(0:Int)) else ((0,false),4))=((m,is),err):=by rw [<-hi];exact hr
  have d2:decide (k<=e)=true:=decide_eq_true hek;have i2:i<=100000000:=by omega
  by_cases hl:nl (n*2 ^ i)<=16384
  ·
   rw [if_pos hl] at hr2
   cases hr2
   obtain⟨p,hp⟩:∃ p,yL (n*2 ^ i)=p:=⟨_,rfl⟩;obtain⟨y,hy⟩:∃ y,yL (n*2 ^ i % d)=y:=⟨_,rfl⟩;have F1:=zJ (lf_up n i p hl hp)
   have e3:(y.toList == [])=decide (n*2 ^ i % d=0):=by
    rw [x9,<-hy,yF,Bool.eq_iff_iff,decide_eq_true_iff,decide_eq_true_iff];exact⟨nl_eq0 _,fun h=>by rw [h];exact qL⟩
   obtain⟨o,ho⟩:∃ o,decide (n*2 ^ i % d=0)=o:=⟨_,rfl⟩;rw [ho] at e3 ⊢;have HP:=zJ hp;have HY:=zJ hy;have HL:=zJ hl;have HV:=zJ hv;clear hs ht hc k1 k2 hk n0 he hek hi hr hp hy hl ho hv;obtain⟨Ab,B0⟩:=yV w (Obj.cells #[.bool b,.string s,.string t,.int .i64 e] 70)
   go_enter Tryz.func201,Tryz.ntmps201
   go_wp2_with fail
   go_quiet (fail)
   obtain⟨w1,hw,B1,hh⟩:=yR B0 nq;rw [hw];have Aa:w1.heap[w.heap.size]?=some (.cells #[.bool b,.string s,.string t,.int .i64 e] 70):=by rw [hh];exact Ab
   clear hw hh B0 Ab;obtain⟨Ad,Ae,Af,Ag⟩:=zF Aa;go_wp2_with fail
   refine (xP n (i:Int) s p 0 HS.out LN.out (by omega) F1.out _).mono ?_;rintro r w2 ⟨rfl,b2⟩;have B2:=zV B1 b2;have Ac:=zE b2 _ _ _ Aa;clear b2 B1 Aa Ad Ae Af Ag;obtain⟨Ah,Ai,Aj,Ak⟩:=zF Ac;go_wp2_with fail
   refine (nat_Div (n*2 ^ i) d p t v y HP.out HT.out HL.out D0.out HV.out HY.out _).mono ?_;rintro r w3 ⟨rfl,b3⟩;have B3:=zV B2 b3;have Al:=zE b3 _ _ _ Ac;clear b3 B2 Ac Ah Ai Aj Ak;obtain⟨Am,An,Ao,Ap⟩:=zF Al;go_wp2
   go_ret3
   exact⟨rfl,B3⟩
  ·
   rw [if_neg hl] at hr2
   cases hr2
   rw [yY] at hv;subst hv;have F1:zY (lf n (i:Int)=(⟨#[]⟩,4)):=zJ (by unfold lf;rw [if_neg (by omega),Int.toNat_natCast];exact lg_no _ hl);clear hs ht hc k1 k2 hk n0 he hek hi hr hl;obtain⟨Ab,B0⟩:=yV w (Obj.cells #[.bool b,.string s,.string t,.int .i64 e] 70)
   go_enter Tryz.func201,Tryz.ntmps201
   go_wp2_with fail
   go_quiet (fail)
   obtain⟨w1,hw,B1,hh⟩:=yR B0 nq;rw [hw];have Aa:w1.heap[w.heap.size]?=some (.cells #[.bool b,.string s,.string t,.int .i64 e] 70):=by rw [hh];exact Ab
   clear hw hh B0 Ab;obtain⟨Ad,Ae,Af,Ag⟩:=zF Aa;go_wp2_with fail
   refine (xP n (i:Int) s _ 4 HS.out LN.out (by omega) F1.out _).mono ?_;rintro r w2 ⟨rfl,b2⟩;have B2:=zV B1 b2;have Ac:=zE b2 _ _ _ Aa;clear b2 B1 Aa Ad Ae Af Ag;obtain⟨Ah,Ai,Aj,Ak⟩:=zF Ac;go_wp2
   go_ret3
   exact⟨rfl,B2⟩
 ·
  rw [if_neg hek] at hr;have d2:decide (k<=e)=false:=decide_eq_false hek;obtain⟨T,hTop⟩:∃ T,xO (XN.mk b n d e)=T:=⟨_,rfl⟩;have HF:=zJ (fun w=>rTop_ok b n d e s t T hs ht n0 hc hTop w);have ht2:=top_good (XN.mk b n d e) n0 hc.d0;rw [hTop] at hr ht2
  by_cases hlt:T<k
  ·
   rw [if_pos hlt] at hr
   cases hr
   rw [yY] at hv;subst hv;have d1:decide (T<k)=true:=decide_eq_true hlt;clear hs ht hc k1 k2 hk n0 he hek hTop hlt ht2;obtain⟨Ab,B0⟩:=yV w (Obj.cells #[.bool b,.string s,.string t,.int .i64 e] 70)
   go_enter Tryz.func201,Tryz.ntmps201
   go_wp2_with fail
   go_quiet (fail)
   obtain⟨w1,hw,B1,hh⟩:=yR B0 nq;rw [hw];have Aa:w1.heap[w.heap.size]?=some (.cells #[.bool b,.string s,.string t,.int .i64 e] 70):=by rw [hh];exact Ab
   clear hw hh B0 Ab;obtain⟨Ad,Ae,Af,Ag⟩:=zF Aa;go_wp2_with fail
   refine (HF.out _).mono ?_;rintro r w2 ⟨rfl,b2⟩;have B2:=zV B1 b2;have Ac:=zE b2 _ _ _ Aa;clear b2 B1 Aa Ad Ae Af Ag;obtain⟨Ah,Ai,Aj,Ak⟩:=zF Ac;go_wp2
   go_ret3
   exact⟨rfl,B2⟩
  ·
   rw [if_neg hlt] at hr
   cases hr
   obtain⟨i,hi⟩:∃ i,(k-e).toNat=i:=⟨_,rfl⟩;have hv2:yL (n / (d*2 ^ i))=v:=by rw [<-hi];exact hv
   have m1:IntKind.i64.wrap (k-e)=(i:Int):=by rw [zR _ (by omega) (by omega)];omega
   have i2:i<=100000000:=by omega
   have hle:=below_top (XN.mk b n d e) k i hc (by show e+(i:Int)=k;omega) (by
    have h1:=ht2.1;exact Rat.le_trans (p2mono k T (by omega)) h1)
   have hle2:d*2 ^ i<=n:=hle;have L3:nl (d*2 ^ i)<=16384:=Nat.le_trans (xQ _ _ hle2) hc.1;obtain⟨p,hp⟩:∃ p,yL (d*2 ^ i)=p:=⟨_,rfl⟩;obtain⟨y,hy⟩:∃ y,yL (n % (d*2 ^ i))=y:=⟨_,rfl⟩;have F1:=zJ (lf_up d i p L3 hp);have i1:1<=i:=by omega
   have hz:n % (d*2 ^ i)≠0:=by
    intro hm;obtain⟨z,hz⟩:∃ z,i=z+1:=⟨i-1,by omega⟩;rw [hz,Nat.pow_succ,<-Nat.mul_assoc] at hm;obtain⟨q,hq⟩:=Nat.dvd_of_mod_eq_zero hm
    have:n % 2=1:=(hc.odd n0).1
    rw [hq,Nat.mul_assoc,Nat.mul_assoc,Nat.mul_left_comm (2 ^ z) 2,Nat.mul_left_comm d 2,Nat.mul_mod_right] at this;omega
   have e3:=eq_nil _ y hy hz;have d1:decide (T<k)=false:=decide_eq_false hlt;have HP:=zJ hp;have HY:=zJ hy;have HV:=zJ hv2;have D3:zY (d*2 ^ i≠0):=zJ (mul_ne hc.d0 (Nat.pos_iff_ne_zero.1 (Nat.two_pow_pos _)));clear hs ht hc k1 k2 hk n0 he hek hTop hlt ht2 hi hv hv2 hle hle2 L3 hp hy hz;obtain⟨Ab,B0⟩:=yV w (Obj.cells #[.bool b,.string s,.string t,.int .i64 e] 70)
   go_enter Tryz.func201,Tryz.ntmps201
   go_wp2_with fail
   go_quiet (fail)
   obtain⟨w1,hw,B1,hh⟩:=yR B0 nq;rw [hw];have Aa:w1.heap[w.heap.size]?=some (.cells #[.bool b,.string s,.string t,.int .i64 e] 70):=by rw [hh];exact Ab
   clear hw hh B0 Ab;obtain⟨Ad,Ae,Af,Ag⟩:=zF Aa;go_wp2_with fail
   refine (HF.out _).mono ?_;rintro r w2 ⟨rfl,b2⟩;have B2:=zV B1 b2;have Ac:=zE b2 _ _ _ Aa;clear b2 B1 Aa Ad Ae Af Ag;obtain⟨Ah,Ai,Aj,Ak⟩:=zF Ac;go_wp2_with fail
   refine (xP d (i:Int) t p 0 HT.out LD.out (by omega) F1.out _).mono ?_;rintro r w3 ⟨rfl,b3⟩;have B3:=zV B2 b3;have Al:=zE b3 _ _ _ Ac;clear b3 B2 Ac Ah Ai Aj Ak;obtain⟨Am,An,Ao,Ap⟩:=zF Al;go_wp2_with fail
   refine (nat_Div n (d*2 ^ i) s p v y HS.out HP.out LN.out D3.out HV.out HY.out _).mono ?_;rintro r w4 ⟨rfl,b4⟩;have B4:=zV B3 b4;have Aq:=zE b4 _ _ _ Al;clear b4 B3 Al Am An Ao Ap;obtain⟨Ar,As,At,Au⟩:=zF Aq;go_wp2
   go_ret3
   exact⟨rfl,B4⟩
theorem mul_pow_le (a k:Nat):a<=a*2 ^ k:=Nat.le_mul_of_pos_right _ (Nat.two_pow_pos _)
theorem sS_nl (x y:XN)(hx:nl (XMath.sA x y)<=16384)(hy:nl (XMath.sA y x)<=16384)(hb:x.b≠y.b):nl (sS x y)<=16384:=by
 unfold sS
 rw [if_neg hb]
 split
 ·
  exact Nat.le_trans (xQ _ _ (Nat.sub_le _ _)) hy
 ·
  exact Nat.le_trans (xQ _ _ (Nat.sub_le _ _)) hx

theorem xJ {fn:Func} {t u v x:Tmp} (h:fn.results=#[.tmp t,.tmp u,.tmp v,.tmp x])(tmps:Array Value)(P:Program)(w:World) :
  (results fn tmps).run P w=.ok (.tuple #[tmps.getD t undef,tmps.getD u undef,tmps.getD v undef,tmps.getD x undef]) w:=by
 simp [results,h]
def twX (x y:XN):(ByteArray×ByteArray)×(Int×Int):=if nl (XMath.sA x y)<=16384/\nl (XMath.sA y x)<=16384 then ((yL (XMath.sA x y),yL (XMath.sA y x)),(min x.e y.e,0)) else ((⟨#[]⟩,⟨#[]⟩),(0,4))
theorem lf_is (a k:Nat)(v:ByteArray)(er:Int)(h:lg (a*2 ^ k)=(v,er)):lf a (k:Int)=(v,er):=by
 unfold lf
 rw [if_neg (by omega),Int.toNat_natCast];exact h
theorem lg_err (n:Nat)(v:ByteArray)(er:Int)(h:lg n=(v,er)):(nl n<=16384/\yL n=v/\er=0)∨(¬ nl n<=16384/\v=⟨#[]⟩/\er=4):=by
 unfold lg at h
 split at h
 ·
  cases h
  exact Or.inl ⟨by assumption,rfl,rfl⟩
 ·
  cases h
  exact Or.inr ⟨by assumption,rfl,rfl⟩

theorem rTwo (b:Bool)(n d:Nat)(e:Int)(s t:ByteArray)(c:Bool)(m f:Nat)(g:Int)(p q:ByteArray)(u v:ByteArray)(L er:Int)
  (hs:yL n=s) (ht:yL d=t) (hp:yL m=p) (hq:yL f=q) (ln:nl n<=16384) (ld:nl d<=16384) (lm:nl m<=16384) (lf:nl f<=16384) (he:-1048576<=e/\e<=1048576/\-1048576<=g/\g<=1048576)
  (hr:twX (XN.mk b n d e) (XN.mk c m f g)=((u,v),(L,er))) (w:World) :
  Calls Tryz.prog 108 #[.agg #[.bool b,.string s,.string t,.int .i64 e],.agg #[.bool c,.string p,.string q,.int .i64 g]] w fun r w'=>r=.returned (.tuple #[.string u,.string v,.int .i64 L,.int .i64 er])/\Below w.heap.size w w':=by
 obtain⟨K,hK⟩:∃ K,min e g=K:=⟨_,rfl⟩;obtain⟨i,hi⟩:∃ i,(e-K).toNat=i:=⟨_,rfl⟩;obtain⟨j,hj⟩:∃ i,(g-K).toNat=i:=⟨_,rfl⟩;have eA:XMath.sA (XN.mk b n d e) (XN.mk c m f g)=n*f*2 ^ i:=by unfold XMath.sA;show n*f*2 ^ (e-min e g).toNat=_;rw [hK,hi]
 have eB:XMath.sA (XN.mk c m f g) (XN.mk b n d e)=m*d*2 ^ j:=by unfold XMath.sA;show m*d*2 ^ (g-min g e).toNat=_;rw [Int.min_comm g e,hK,hj]
 unfold twX at hr
 rw [eA,eB] at hr;have hr2:(if nl (n*f*2 ^ i)<=16384/\nl (m*d*2 ^ j)<=16384 then ((yL (n*f*2 ^ i),yL (m*d*2 ^ j)),(K,(0:Int))) else ((⟨#[]⟩,⟨#[]⟩),(0,4)))=((u,v),(L,er)):=by rw [<-hK];exact hr
 clear hr eA eB;have n1:IntKind.i64.wrap (e-K)=(i:Int):=by rw [zR _ (by omega) (by omega)];omega
 have n2:IntKind.i64.wrap (g-K)=(j:Int):=by rw [zR _ (by omega) (by omega)];omega
 have i2:i<=100000000:=by omega
 have j2:j<=100000000:=by omega
 have HS:=zJ hs;have HT:=zJ ht;have HP:=zJ hp;have HQ:=zJ hq;have LN:zY (nl n<=20000):=zJ (by omega);have LD:zY (nl d<=20000):=zJ (by omega);have LM:zY (nl m<=20000):=zJ (by omega);have LF:zY (nl f<=20000):=zJ (by omega)
 have hk:(g=K/\decide (g<e)=true/\j=0)∨(e=K/\decide (g<e)=false/\i=0):=by
  by_cases h:g<e
  ·
   exact Or.inl ⟨by omega,decide_eq_true h,by omega⟩
  ·
   exact Or.inr ⟨by omega,decide_eq_false h,by omega⟩
 obtain⟨x,ex,hx⟩:∃ x ex,lg (n*f)=(x,ex):=⟨_,_,rfl⟩;obtain⟨y,ey,hy⟩:∃ x ex,lg (m*d)=(x,ex):=⟨_,_,rfl⟩;have HX:=zJ hx;have HY:=zJ hy
 rcases lg_err _ _ _ hx with ⟨l1,hx1,rfl⟩|⟨l1,rfl,rfl⟩
 ·
  rcases lg_err _ _ _ hy with ⟨l2,hy1,rfl⟩|⟨l2,rfl,rfl⟩
  ·
   obtain⟨x',ex',hx'⟩:∃ x ex,lg (n*f*2 ^ i)=(x,ex):=⟨_,_,rfl⟩;obtain⟨y',ey',hy'⟩:∃ x ex,lg (m*d*2 ^ j)=(x,ex):=⟨_,_,rfl⟩;have F1:=zJ (lf_is _ _ _ _ hx');have F2:=zJ (lf_is _ _ _ _ hy');have H1:=zJ hx1;have H2:=zJ hy1;have L1:=zJ l1;have L2:=zJ l2
   rcases lg_err _ _ _ hx' with ⟨l3,hx3,rfl⟩|⟨l3,rfl,rfl⟩
   ·
    rcases lg_err _ _ _ hy' with ⟨l4,hy3,rfl⟩|⟨l4,rfl,rfl⟩
    ·
     rw [if_pos ⟨l3,l4⟩,hx3,hy3] at hr2
     cases hr2
     clear hs ht hp hq ln ld lm lf he hK hi hj hx hy l1 l2 l3 l4 hx1 hy1 hx3 hy3 hx' hy'
     rcases hk with ⟨rfl,dk,rfl⟩|⟨rfl,dk,rfl⟩
     ·
      skip
      obtain⟨Ae,Af,B0⟩:=qF w (Obj.cells #[.bool b,.string s,.string t,.int .i64 e] 70) (Obj.cells #[.bool c,.string p,.string q,.int .i64 g] 70)
      go_enter Tryz.func108,Tryz.ntmps108
      go_wp2_with fail
      refine (yS n f s q x 0 HS.out HQ.out HX.out LN.out LF.out _).mono ?_;rintro r w1 ⟨rfl,b1⟩;have B1:=zV B0 b1;obtain⟨Aa,Ab⟩:=zZ b1 Ae Af;clear b1 B0 Ae Af;obtain⟨Ai,Aj,Ak,Al⟩:=zF Aa;obtain⟨Am,An,Ao,Ap⟩:=zF Ab;go_wp2_with fail
      refine (yS m d p t y 0 HP.out HT.out HY.out LM.out LD.out _).mono ?_;rintro r w2 ⟨rfl,b2⟩;have B2:=zV B1 b2;obtain⟨Ac,Ad⟩:=zZ b2 Aa Ab;clear b2 B1 Aa Ai Aj Ak Al Ab Am An Ao Ap;obtain⟨Aq,Ar,As,At⟩:=zF Ac;obtain⟨Au,Av,Aw,Ax⟩:=zF Ad;go_wp2_with fail
      refine (xP (n*f) (i:Int) x u 0 H1.out L1.out (by omega) F1.out _).mono ?_;rintro r w3 ⟨rfl,b3⟩;have B3:=zV B2 b3;obtain⟨Ag,Ah⟩:=zZ b3 Ac Ad;clear b3 B2 Ac Aq Ar As At Ad Au Av Aw Ax;obtain⟨Ay,Az,AA,AB⟩:=zF Ag;obtain⟨AC,AD,AE,AF⟩:=zF Ah;go_wp2_with fail
      refine (xP (m*d) 0 y v 0 H2.out L2.out (by omega) (show lf (m*d) 0=_ from F2.out) _).mono ?_;rintro r w4 ⟨rfl,b4⟩;have B4:=zV B3 b4;obtain⟨AG,AH⟩:=zZ b4 Ag Ah;clear b4 B3 Ag Ay Az AA AB Ah AC AD AE AF;obtain⟨AI,AJ,AK,AL⟩:=zF AG;obtain⟨AM,AN,AO,AP⟩:=zF AH;go_wp2
      try simp only [Exit.inBlock,Exit.then]
      refine bodyPost_ret (xJ rfl _ _ _) rfl ?_;exact⟨rfl,B4⟩
     ·
      skip
      obtain⟨Ae,Af,B0⟩:=qF w (Obj.cells #[.bool b,.string s,.string t,.int .i64 e] 70) (Obj.cells #[.bool c,.string p,.string q,.int .i64 g] 70)
      go_enter Tryz.func108,Tryz.ntmps108
      go_wp2_with fail
      refine (yS n f s q x 0 HS.out HQ.out HX.out LN.out LF.out _).mono ?_;rintro r w1 ⟨rfl,b1⟩;have B1:=zV B0 b1;obtain⟨Aa,Ab⟩:=zZ b1 Ae Af;clear b1 B0 Ae Af;obtain⟨Ai,Aj,Ak,Al⟩:=zF Aa;obtain⟨Am,An,Ao,Ap⟩:=zF Ab;go_wp2_with fail
      refine (yS m d p t y 0 HP.out HT.out HY.out LM.out LD.out _).mono ?_;rintro r w2 ⟨rfl,b2⟩;have B2:=zV B1 b2;obtain⟨Ac,Ad⟩:=zZ b2 Aa Ab;clear b2 B1 Aa Ai Aj Ak Al Ab Am An Ao Ap;obtain⟨Aq,Ar,As,At⟩:=zF Ac;obtain⟨Au,Av,Aw,Ax⟩:=zF Ad;go_wp2_with fail
      refine (xP (n*f) 0 x u 0 H1.out L1.out (by omega) (show lf (n*f) 0=_ from F1.out) _).mono ?_;rintro r w3 ⟨rfl,b3⟩;have B3:=zV B2 b3;obtain⟨Ag,Ah⟩:=zZ b3 Ac Ad;clear b3 B2 Ac Aq Ar As At Ad Au Av Aw Ax;obtain⟨Ay,Az,AA,AB⟩:=zF Ag;obtain⟨AC,AD,AE,AF⟩:=zF Ah;go_wp2_with fail
      refine (xP (m*d) (j:Int) y v 0 H2.out L2.out (by omega) F2.out _).mono ?_;rintro r w4 ⟨rfl,b4⟩;have B4:=zV B3 b4;obtain⟨AG,AH⟩:=zZ b4 Ag Ah;clear b4 B3 Ag Ay Az AA AB Ah AC AD AE AF;obtain⟨AI,AJ,AK,AL⟩:=zF AG;obtain⟨AM,AN,AO,AP⟩:=zF AH;go_wp2
      try simp only [Exit.inBlock,Exit.then]
      refine bodyPost_ret (xJ rfl _ _ _) rfl ?_;exact⟨rfl,B4⟩
    ·
     rw [if_neg (fun h=>l4 h.2)] at hr2
     cases hr2
     clear hs ht hp hq ln ld lm lf he hK hi hj hx hy l1 l2 l3 l4 hx1 hy1 hx3 hx' hy'
     rcases hk with ⟨rfl,dk,rfl⟩|⟨rfl,dk,rfl⟩
     ·
      skip
      obtain⟨Ae,Af,B0⟩:=qF w (Obj.cells #[.bool b,.string s,.string t,.int .i64 e] 70) (Obj.cells #[.bool c,.string p,.string q,.int .i64 g] 70)
      go_enter Tryz.func108,Tryz.ntmps108
      go_wp2_with fail
      refine (yS n f s q x 0 HS.out HQ.out HX.out LN.out LF.out _).mono ?_;rintro r w1 ⟨rfl,b1⟩;have B1:=zV B0 b1;obtain⟨Aa,Ab⟩:=zZ b1 Ae Af;clear b1 B0 Ae Af;obtain⟨Ai,Aj,Ak,Al⟩:=zF Aa;obtain⟨Am,An,Ao,Ap⟩:=zF Ab;go_wp2_with fail
      refine (yS m d p t y 0 HP.out HT.out HY.out LM.out LD.out _).mono ?_;rintro r w2 ⟨rfl,b2⟩;have B2:=zV B1 b2;obtain⟨Ac,Ad⟩:=zZ b2 Aa Ab;clear b2 B1 Aa Ai Aj Ak Al Ab Am An Ao Ap;obtain⟨Aq,Ar,As,At⟩:=zF Ac;obtain⟨Au,Av,Aw,Ax⟩:=zF Ad;go_wp2_with fail
      refine (xP (n*f) (i:Int) x x' 0 H1.out L1.out (by omega) F1.out _).mono ?_;rintro r w3 ⟨rfl,b3⟩;have B3:=zV B2 b3;obtain⟨Ag,Ah⟩:=zZ b3 Ac Ad;clear b3 B2 Ac Aq Ar As At Ad Au Av Aw Ax;obtain⟨Ay,Az,AA,AB⟩:=zF Ag;obtain⟨AC,AD,AE,AF⟩:=zF Ah;go_wp2_with fail
      refine (xP (m*d) 0 y _ 4 H2.out L2.out (by omega) (show lf (m*d) 0=_ from F2.out) _).mono ?_;rintro r w4 ⟨rfl,b4⟩;have B4:=zV B3 b4;obtain⟨AG,AH⟩:=zZ b4 Ag Ah;clear b4 B3 Ag Ay Az AA AB Ah AC AD AE AF;obtain⟨AI,AJ,AK,AL⟩:=zF AG;obtain⟨AM,AN,AO,AP⟩:=zF AH;go_wp2
      try simp only [Exit.inBlock,Exit.then]
      refine bodyPost_ret (xJ rfl _ _ _) rfl ?_;exact⟨rfl,B4⟩
     ·
      skip
      obtain⟨Ae,Af,B0⟩:=qF w (Obj.cells #[.bool b,.string s,.string t,.int .i64 e] 70) (Obj.cells #[.bool c,.string p,.string q,.int .i64 g] 70)
      go_enter Tryz.func108,Tryz.ntmps108
      go_wp2_with fail
      refine (yS n f s q x 0 HS.out HQ.out HX.out LN.out LF.out _).mono ?_;rintro r w1 ⟨rfl,b1⟩;have B1:=zV B0 b1;obtain⟨Aa,Ab⟩:=zZ b1 Ae Af;clear b1 B0 Ae Af;obtain⟨Ai,Aj,Ak,Al⟩:=zF Aa;obtain⟨Am,An,Ao,Ap⟩:=zF Ab;go_wp2_with fail
      refine (yS m d p t y 0 HP.out HT.out HY.out LM.out LD.out _).mono ?_;rintro r w2 ⟨rfl,b2⟩;have B2:=zV B1 b2;obtain⟨Ac,Ad⟩:=zZ b2 Aa Ab;clear b2 B1 Aa Ai Aj Ak Al Ab Am An Ao Ap;obtain⟨Aq,Ar,As,At⟩:=zF Ac;obtain⟨Au,Av,Aw,Ax⟩:=zF Ad;go_wp2_with fail
      refine (xP (n*f) 0 x x' 0 H1.out L1.out (by omega) (show lf (n*f) 0=_ from F1.out) _).mono ?_;rintro r w3 ⟨rfl,b3⟩;have B3:=zV B2 b3;obtain⟨Ag,Ah⟩:=zZ b3 Ac Ad;clear b3 B2 Ac Aq Ar As At Ad Au Av Aw Ax;obtain⟨Ay,Az,AA,AB⟩:=zF Ag;obtain⟨AC,AD,AE,AF⟩:=zF Ah;go_wp2_with fail
      refine (xP (m*d) (j:Int) y _ 4 H2.out L2.out (by omega) F2.out _).mono ?_;rintro r w4 ⟨rfl,b4⟩;have B4:=zV B3 b4;obtain⟨AG,AH⟩:=zZ b4 Ag Ah;clear b4 B3 Ag Ay Az AA AB Ah AC AD AE AF;obtain⟨AI,AJ,AK,AL⟩:=zF AG;obtain⟨AM,AN,AO,AP⟩:=zF AH;go_wp2
      try simp only [Exit.inBlock,Exit.then]
      refine bodyPost_ret (xJ rfl _ _ _) rfl ?_;exact⟨rfl,B4⟩
   ·
    rw [if_neg (fun h=>l3 h.1)] at hr2
    cases hr2
    clear hs ht hp hq ln ld lm lf he hK hi hj hx hy l1 l2 l3 hx1 hy1 hx' hy'
    rcases hk with ⟨rfl,dk,rfl⟩|⟨rfl,dk,rfl⟩
    ·
     skip
     obtain⟨Ae,Af,B0⟩:=qF w (Obj.cells #[.bool b,.string s,.string t,.int .i64 e] 70) (Obj.cells #[.bool c,.string p,.string q,.int .i64 g] 70)
     go_enter Tryz.func108,Tryz.ntmps108
     go_wp2_with fail
     refine (yS n f s q x 0 HS.out HQ.out HX.out LN.out LF.out _).mono ?_;rintro r w1 ⟨rfl,b1⟩;have B1:=zV B0 b1;obtain⟨Aa,Ab⟩:=zZ b1 Ae Af;clear b1 B0 Ae Af;obtain⟨Ai,Aj,Ak,Al⟩:=zF Aa;obtain⟨Am,An,Ao,Ap⟩:=zF Ab;go_wp2_with fail
     refine (yS m d p t y 0 HP.out HT.out HY.out LM.out LD.out _).mono ?_;rintro r w2 ⟨rfl,b2⟩;have B2:=zV B1 b2;obtain⟨Ac,Ad⟩:=zZ b2 Aa Ab;clear b2 B1 Aa Ai Aj Ak Al Ab Am An Ao Ap;obtain⟨Aq,Ar,As,At⟩:=zF Ac;obtain⟨Au,Av,Aw,Ax⟩:=zF Ad;go_wp2_with fail
     refine (xP (n*f) (i:Int) x _ 4 H1.out L1.out (by omega) F1.out _).mono ?_;rintro r w3 ⟨rfl,b3⟩;have B3:=zV B2 b3;obtain⟨Ag,Ah⟩:=zZ b3 Ac Ad;clear b3 B2 Ac Aq Ar As At Ad Au Av Aw Ax;obtain⟨Ay,Az,AA,AB⟩:=zF Ag;obtain⟨AC,AD,AE,AF⟩:=zF Ah;go_wp2_with fail
     refine (xP (m*d) 0 y y' ey' H2.out L2.out (by omega) (show lf (m*d) 0=_ from F2.out) _).mono ?_;rintro r w4 ⟨rfl,b4⟩;have B4:=zV B3 b4;obtain⟨AG,AH⟩:=zZ b4 Ag Ah;clear b4 B3 Ag Ay Az AA AB Ah AC AD AE AF;obtain⟨AI,AJ,AK,AL⟩:=zF AG;obtain⟨AM,AN,AO,AP⟩:=zF AH;go_wp2
     try simp only [Exit.inBlock,Exit.then]
     refine bodyPost_ret (xJ rfl _ _ _) rfl ?_;exact⟨rfl,B4⟩
    ·
     skip
     obtain⟨Ae,Af,B0⟩:=qF w (Obj.cells #[.bool b,.string s,.string t,.int .i64 e] 70) (Obj.cells #[.bool c,.string p,.string q,.int .i64 g] 70)
     go_enter Tryz.func108,Tryz.ntmps108
     go_wp2_with fail
     refine (yS n f s q x 0 HS.out HQ.out HX.out LN.out LF.out _).mono ?_;rintro r w1 ⟨rfl,b1⟩;have B1:=zV B0 b1;obtain⟨Aa,Ab⟩:=zZ b1 Ae Af;clear b1 B0 Ae Af;obtain⟨Ai,Aj,Ak,Al⟩:=zF Aa;obtain⟨Am,An,Ao,Ap⟩:=zF Ab;go_wp2_with fail
     refine (yS m d p t y 0 HP.out HT.out HY.out LM.out LD.out _).mono ?_;rintro r w2 ⟨rfl,b2⟩;have B2:=zV B1 b2;obtain⟨Ac,Ad⟩:=zZ b2 Aa Ab;clear b2 B1 Aa Ai Aj Ak Al Ab Am An Ao Ap;obtain⟨Aq,Ar,As,At⟩:=zF Ac;obtain⟨Au,Av,Aw,Ax⟩:=zF Ad;go_wp2_with fail
     refine (xP (n*f) 0 x _ 4 H1.out L1.out (by omega) (show lf (n*f) 0=_ from F1.out) _).mono ?_;rintro r w3 ⟨rfl,b3⟩;have B3:=zV B2 b3;obtain⟨Ag,Ah⟩:=zZ b3 Ac Ad;clear b3 B2 Ac Aq Ar As At Ad Au Av Aw Ax;obtain⟨Ay,Az,AA,AB⟩:=zF Ag;obtain⟨AC,AD,AE,AF⟩:=zF Ah;go_wp2_with fail
     refine (xP (m*d) (j:Int) y y' ey' H2.out L2.out (by omega) F2.out _).mono ?_;rintro r w4 ⟨rfl,b4⟩;have B4:=zV B3 b4;obtain⟨AG,AH⟩:=zZ b4 Ag Ah;clear b4 B3 Ag Ay Az AA AB Ah AC AD AE AF;obtain⟨AI,AJ,AK,AL⟩:=zF AG;obtain⟨AM,AN,AO,AP⟩:=zF AH;go_wp2
     try simp only [Exit.inBlock,Exit.then]
     refine bodyPost_ret (xJ rfl _ _ _) rfl ?_;exact⟨rfl,B4⟩
  ·
   rw [if_neg (fun h=>l2 (Nat.le_trans (xQ _ _ (mul_pow_le _ _)) h.2))] at hr2
   cases hr2
   clear hs ht hp hq ln ld lm lf he hK hi hj hx hy l1 l2 hx1
   rcases hk with ⟨rfl,dk,rfl⟩|⟨rfl,dk,rfl⟩
   ·
    skip
    obtain⟨Ae,Af,B0⟩:=qF w (Obj.cells #[.bool b,.string s,.string t,.int .i64 e] 70) (Obj.cells #[.bool c,.string p,.string q,.int .i64 g] 70)
    go_enter Tryz.func108,Tryz.ntmps108
    go_wp2_with fail
    refine (yS n f s q x 0 HS.out HQ.out HX.out LN.out LF.out _).mono ?_;rintro r w1 ⟨rfl,b1⟩;have B1:=zV B0 b1;obtain⟨Aa,Ab⟩:=zZ b1 Ae Af;clear b1 B0 Ae Af;obtain⟨Ai,Aj,Ak,Al⟩:=zF Aa;obtain⟨Am,An,Ao,Ap⟩:=zF Ab;go_wp2_with fail
    refine (yS m d p t _ 4 HP.out HT.out HY.out LM.out LD.out _).mono ?_;rintro r w2 ⟨rfl,b2⟩;have B2:=zV B1 b2;obtain⟨Ac,Ad⟩:=zZ b2 Aa Ab;clear b2 B1 Aa Ai Aj Ak Al Ab Am An Ao Ap;obtain⟨Aq,Ar,As,At⟩:=zF Ac;obtain⟨Au,Av,Aw,Ax⟩:=zF Ad;go_wp2
    try simp only [Exit.inBlock,Exit.then]
    refine bodyPost_ret (xJ rfl _ _ _) rfl ?_;exact⟨rfl,B2⟩
   ·
    skip
    obtain⟨Ae,Af,B0⟩:=qF w (Obj.cells #[.bool b,.string s,.string t,.int .i64 e] 70) (Obj.cells #[.bool c,.string p,.string q,.int .i64 g] 70)
    go_enter Tryz.func108,Tryz.ntmps108
    go_wp2_with fail
    refine (yS n f s q x 0 HS.out HQ.out HX.out LN.out LF.out _).mono ?_;rintro r w1 ⟨rfl,b1⟩;have B1:=zV B0 b1;obtain⟨Aa,Ab⟩:=zZ b1 Ae Af;clear b1 B0 Ae Af;obtain⟨Ai,Aj,Ak,Al⟩:=zF Aa;obtain⟨Am,An,Ao,Ap⟩:=zF Ab;go_wp2_with fail
    refine (yS m d p t _ 4 HP.out HT.out HY.out LM.out LD.out _).mono ?_;rintro r w2 ⟨rfl,b2⟩;have B2:=zV B1 b2;obtain⟨Ac,Ad⟩:=zZ b2 Aa Ab;clear b2 B1 Aa Ai Aj Ak Al Ab Am An Ao Ap;obtain⟨Aq,Ar,As,At⟩:=zF Ac;obtain⟨Au,Av,Aw,Ax⟩:=zF Ad;go_wp2
    try simp only [Exit.inBlock,Exit.then]
    refine bodyPost_ret (xJ rfl _ _ _) rfl ?_;exact⟨rfl,B2⟩
 ·
  rw [if_neg (fun h=>l1 (Nat.le_trans (xQ _ _ (mul_pow_le _ _)) h.1))] at hr2
  cases hr2
  clear hs ht hp hq ln ld lm lf he hK hi hj hx hy l1
  rcases hk with ⟨rfl,dk,rfl⟩|⟨rfl,dk,rfl⟩
  ·
   skip
   obtain⟨Ae,Af,B0⟩:=qF w (Obj.cells #[.bool b,.string s,.string t,.int .i64 e] 70) (Obj.cells #[.bool c,.string p,.string q,.int .i64 g] 70)
   go_enter Tryz.func108,Tryz.ntmps108
   go_wp2_with fail
   refine (yS n f s q _ 4 HS.out HQ.out HX.out LN.out LF.out _).mono ?_;rintro r w1 ⟨rfl,b1⟩;have B1:=zV B0 b1;obtain⟨Aa,Ab⟩:=zZ b1 Ae Af;clear b1 B0 Ae Af;obtain⟨Ai,Aj,Ak,Al⟩:=zF Aa;obtain⟨Am,An,Ao,Ap⟩:=zF Ab;go_wp2_with fail
   refine (yS m d p t y ey HP.out HT.out HY.out LM.out LD.out _).mono ?_;rintro r w2 ⟨rfl,b2⟩;have B2:=zV B1 b2;obtain⟨Ac,Ad⟩:=zZ b2 Aa Ab;clear b2 B1 Aa Ai Aj Ak Al Ab Am An Ao Ap;obtain⟨Aq,Ar,As,At⟩:=zF Ac;obtain⟨Au,Av,Aw,Ax⟩:=zF Ad;go_wp2
   try simp only [Exit.inBlock,Exit.then]
   refine bodyPost_ret (xJ rfl _ _ _) rfl ?_;exact⟨rfl,B2⟩
  ·
   skip
   obtain⟨Ae,Af,B0⟩:=qF w (Obj.cells #[.bool b,.string s,.string t,.int .i64 e] 70) (Obj.cells #[.bool c,.string p,.string q,.int .i64 g] 70)
   go_enter Tryz.func108,Tryz.ntmps108
   go_wp2_with fail
   refine (yS n f s q _ 4 HS.out HQ.out HX.out LN.out LF.out _).mono ?_;rintro r w1 ⟨rfl,b1⟩;have B1:=zV B0 b1;obtain⟨Aa,Ab⟩:=zZ b1 Ae Af;clear b1 B0 Ae Af;obtain⟨Ai,Aj,Ak,Al⟩:=zF Aa;obtain⟨Am,An,Ao,Ap⟩:=zF Ab;go_wp2_with fail
   refine (yS m d p t y ey HP.out HT.out HY.out LM.out LD.out _).mono ?_;rintro r w2 ⟨rfl,b2⟩;have B2:=zV B1 b2;obtain⟨Ac,Ad⟩:=zZ b2 Aa Ab;clear b2 B1 Aa Ai Aj Ak Al Ab Am An Ao Ap;obtain⟨Aq,Ar,As,At⟩:=zF Ac;obtain⟨Au,Av,Aw,Ax⟩:=zF Ad;go_wp2
   try simp only [Exit.inBlock,Exit.then]
   refine bodyPost_ret (xJ rfl _ _ _) rfl ?_;exact⟨rfl,B2⟩
end Go.Proofs.YtapikkbifdldfaaGreatDoor
