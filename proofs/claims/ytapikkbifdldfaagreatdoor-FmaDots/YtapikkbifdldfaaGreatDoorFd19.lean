/-
  What the functions that the statement reaches return: part 19 (RD, RE, R10, R12, R13).
-/
import Derived.Lib.MinMax
import Derived.Deep.RegionHeld3
import Derived.Test.YtapikkbifdldfaaGreatDoorFd18
namespace Go.Proofs.YtapikkbifdldfaaGreatDoor
set_option maxRecDepth 100000
set_option maxHeartbeats 40000000
open Go.RowKit WMath
set_option linter.unusedSimpArgs false
set_option linter.unusedVariables false
theorem rf_fault_a (f m:Int)(b:Bool)(s t:ByteArray)(e:Int)(o1 o2 o3:Bool)(w:World)
  (K1:zZ 88 #[.int .u8 f] (.bool o1))
  (K2:zZ 89 #[.int .u8 m] (.bool o2))
  (K3:zZ 159 #[.agg #[.bool b,.string s,.string t,.int .i64 e]] (.bool o3))
  (h1:o1=false)
  : Calls Tryz.prog 103 #[.int .u8 f,.int .u8 m,.agg #[.bool b,.string s,.string t,.int .i64 e]] w fun r w'=>r=.returned (.int .i64 2)/\Below w.heap.size w w':=by
 subst h1;obtain⟨Aa,B0⟩:=yR w (Obj.cells #[.bool b,.string s,.string t,.int .i64 e] 70)
 go_enter Tryz.func103,Tryz.ntmps103
 go_wp2_with fail
 refine (K1.out _).mono ?_;rintro r w1 ⟨rfl,b1⟩;have B1:=zS B0 b1;have Ab:=zA b1 _ _ _ Aa;clear b1 B0 Aa;obtain⟨Ac,Ad,Ae,Af⟩:=zE Ab;go_wp2
 go_ret
 exact⟨rfl,B1⟩
theorem rf_fault_b (f m:Int)(b:Bool)(s t:ByteArray)(e:Int)(o1 o2 o3:Bool)(w:World)
  (K1:zZ 88 #[.int .u8 f] (.bool o1))
  (K2:zZ 89 #[.int .u8 m] (.bool o2))
  (K3:zZ 159 #[.agg #[.bool b,.string s,.string t,.int .i64 e]] (.bool o3))
  (h1:o1=true) (h2:o2=false)
  : Calls Tryz.prog 103 #[.int .u8 f,.int .u8 m,.agg #[.bool b,.string s,.string t,.int .i64 e]] w fun r w'=>r=.returned (.int .i64 2)/\Below w.heap.size w w':=by
 subst h1 h2;obtain⟨Ab,B0⟩:=yR w (Obj.cells #[.bool b,.string s,.string t,.int .i64 e] 70)
 go_enter Tryz.func103,Tryz.ntmps103
 go_wp2_with fail
 refine (K1.out _).mono ?_;rintro r w1 ⟨rfl,b1⟩;have B1:=zS B0 b1;have Aa:=zA b1 _ _ _ Ab;clear b1 B0 Ab;obtain⟨Ac,Ad,Ae,Af⟩:=zE Aa;go_wp2_with fail
 refine (K2.out _).mono ?_;rintro r w2 ⟨rfl,b2⟩;have B2:=zS B1 b2;have Ag:=zA b2 _ _ _ Aa;clear b2 B1 Aa Ac Ad Ae Af;obtain⟨Ah,Ai,Aj,Ak⟩:=zE Ag;go_wp2
 go_ret
 exact⟨rfl,B2⟩
theorem rf_fault_c (f m:Int)(b:Bool)(s t:ByteArray)(e:Int)(o1 o2 o3:Bool)(w:World)
  (K1:zZ 88 #[.int .u8 f] (.bool o1))
  (K2:zZ 89 #[.int .u8 m] (.bool o2))
  (K3:zZ 159 #[.agg #[.bool b,.string s,.string t,.int .i64 e]] (.bool o3))
  (h1:o1=true) (h2:o2=true) (h3:o3=false)
  : Calls Tryz.prog 103 #[.int .u8 f,.int .u8 m,.agg #[.bool b,.string s,.string t,.int .i64 e]] w fun r w'=>r=.returned (.int .i64 2)/\Below w.heap.size w w':=by
 subst h1 h2 h3;obtain⟨Ac,B0⟩:=yR w (Obj.cells #[.bool b,.string s,.string t,.int .i64 e] 70)
 go_enter Tryz.func103,Tryz.ntmps103
 go_wp2_with fail
 refine (K1.out _).mono ?_;rintro r w1 ⟨rfl,b1⟩;have B1:=zS B0 b1;have Aa:=zA b1 _ _ _ Ac;clear b1 B0 Ac;obtain⟨Ad,Ae,Af,Ag⟩:=zE Aa;go_wp2_with fail
 refine (K2.out _).mono ?_;rintro r w2 ⟨rfl,b2⟩;have B2:=zS B1 b2;have Ab:=zA b2 _ _ _ Aa;clear b2 B1 Aa Ad Ae Af Ag;obtain⟨Ah,Ai,Aj,Ak⟩:=zE Ab;go_wp2_with fail
 refine (K3.out _).mono ?_;rintro r w3 ⟨rfl,b3⟩;have B3:=zS B2 b3;have Al:=zA b3 _ _ _ Ab;clear b3 B2 Ab Ah Ai Aj Ak;obtain⟨Am,An,Ao,Ap⟩:=zE Al;go_wp2
 go_ret
 exact⟨rfl,B3⟩
theorem rf_fault_d (f m:Int)(b:Bool)(s t:ByteArray)(e:Int)(o1 o2 o3:Bool)(w:World)
  (K1:zZ 88 #[.int .u8 f] (.bool o1))
  (K2:zZ 89 #[.int .u8 m] (.bool o2))
  (K3:zZ 159 #[.agg #[.bool b,.string s,.string t,.int .i64 e]] (.bool o3))
  (h1:o1=true) (h2:o2=true) (h3:o3=true) (h4:decide ((8192:Int)<(s.size:Int))=true)
  : Calls Tryz.prog 103 #[.int .u8 f,.int .u8 m,.agg #[.bool b,.string s,.string t,.int .i64 e]] w fun r w'=>r=.returned (.int .i64 4)/\Below w.heap.size w w':=by
 subst h1 h2 h3;obtain⟨Ac,B0⟩:=yR w (Obj.cells #[.bool b,.string s,.string t,.int .i64 e] 70)
 go_enter Tryz.func103,Tryz.ntmps103
 go_wp2_with fail
 refine (K1.out _).mono ?_;rintro r w1 ⟨rfl,b1⟩;have B1:=zS B0 b1;have Aa:=zA b1 _ _ _ Ac;clear b1 B0 Ac;obtain⟨Ad,Ae,Af,Ag⟩:=zE Aa;go_wp2_with fail
 refine (K2.out _).mono ?_;rintro r w2 ⟨rfl,b2⟩;have B2:=zS B1 b2;have Ab:=zA b2 _ _ _ Aa;clear b2 B1 Aa Ad Ae Af Ag;obtain⟨Ah,Ai,Aj,Ak⟩:=zE Ab;go_wp2_with fail
 refine (K3.out _).mono ?_;rintro r w3 ⟨rfl,b3⟩;have B3:=zS B2 b3;have Al:=zA b3 _ _ _ Ab;clear b3 B2 Ab Ah Ai Aj Ak;obtain⟨Am,An,Ao,Ap⟩:=zE Al;go_wp2
 go_ret
 exact⟨rfl,B3⟩
theorem rf_fault_e (f m:Int)(b:Bool)(s t:ByteArray)(e:Int)(o1 o2 o3:Bool)(w:World)
  (K1:zZ 88 #[.int .u8 f] (.bool o1))
  (K2:zZ 89 #[.int .u8 m] (.bool o2))
  (K3:zZ 159 #[.agg #[.bool b,.string s,.string t,.int .i64 e]] (.bool o3))
  (h1:o1=true) (h2:o2=true) (h3:o3=true) (h4:decide ((8192:Int)<(s.size:Int))=false) (h5:decide ((8192:Int)<(t.size:Int))=true)
  : Calls Tryz.prog 103 #[.int .u8 f,.int .u8 m,.agg #[.bool b,.string s,.string t,.int .i64 e]] w fun r w'=>r=.returned (.int .i64 4)/\Below w.heap.size w w':=by
 subst h1 h2 h3;obtain⟨Ac,B0⟩:=yR w (Obj.cells #[.bool b,.string s,.string t,.int .i64 e] 70)
 go_enter Tryz.func103,Tryz.ntmps103
 go_wp2_with fail
 refine (K1.out _).mono ?_;rintro r w1 ⟨rfl,b1⟩;have B1:=zS B0 b1;have Aa:=zA b1 _ _ _ Ac;clear b1 B0 Ac;obtain⟨Ad,Ae,Af,Ag⟩:=zE Aa;go_wp2_with fail
 refine (K2.out _).mono ?_;rintro r w2 ⟨rfl,b2⟩;have B2:=zS B1 b2;have Ab:=zA b2 _ _ _ Aa;clear b2 B1 Aa Ad Ae Af Ag;obtain⟨Ah,Ai,Aj,Ak⟩:=zE Ab;go_wp2_with fail
 refine (K3.out _).mono ?_;rintro r w3 ⟨rfl,b3⟩;have B3:=zS B2 b3;have Al:=zA b3 _ _ _ Ab;clear b3 B2 Ab Ah Ai Aj Ak;obtain⟨Am,An,Ao,Ap⟩:=zE Al;go_wp2
 go_ret
 exact⟨rfl,B3⟩
theorem rf_fault_f (f m:Int)(b:Bool)(s t:ByteArray)(e:Int)(o1 o2 o3:Bool)(w:World)
  (K1:zZ 88 #[.int .u8 f] (.bool o1))
  (K2:zZ 89 #[.int .u8 m] (.bool o2))
  (K3:zZ 159 #[.agg #[.bool b,.string s,.string t,.int .i64 e]] (.bool o3))
  (h1:o1=true) (h2:o2=true) (h3:o3=true) (h4:decide ((8192:Int)<(s.size:Int))=false) (h5:decide ((8192:Int)<(t.size:Int))=false)
  : Calls Tryz.prog 103 #[.int .u8 f,.int .u8 m,.agg #[.bool b,.string s,.string t,.int .i64 e]] w fun r w'=>r=.returned (.int .i64 0)/\Below w.heap.size w w':=by
 subst h1 h2 h3;obtain⟨Ac,B0⟩:=yR w (Obj.cells #[.bool b,.string s,.string t,.int .i64 e] 70)
 go_enter Tryz.func103,Tryz.ntmps103
 go_wp2_with fail
 refine (K1.out _).mono ?_;rintro r w1 ⟨rfl,b1⟩;have B1:=zS B0 b1;have Aa:=zA b1 _ _ _ Ac;clear b1 B0 Ac;obtain⟨Ad,Ae,Af,Ag⟩:=zE Aa;go_wp2_with fail
 refine (K2.out _).mono ?_;rintro r w2 ⟨rfl,b2⟩;have B2:=zS B1 b2;have Ab:=zA b2 _ _ _ Aa;clear b2 B1 Aa Ad Ae Af Ag;obtain⟨Ah,Ai,Aj,Ak⟩:=zE Ab;go_wp2_with fail
 refine (K3.out _).mono ?_;rintro r w3 ⟨rfl,b3⟩;have B3:=zS B2 b3;have Al:=zA b3 _ _ _ Ab;clear b3 B2 Ab Ah Ai Aj Ak;obtain⟨Am,An,Ao,Ap⟩:=zE Al;go_wp2
 go_ret
 exact⟨rfl,B3⟩
theorem rf_Round_null (f m:Int)(w:World)
  (KF:zZ 103 #[.int .u8 f,.int .u8 m,.agg #[.bool false,.string ⟨#[]⟩,.string ⟨#[1]⟩,.int .i64 0]] (.int .i64 0))
  : Calls Tryz.prog 50 #[.int .u8 f,.int .u8 m,.agg #[.bool false,.string ⟨#[]⟩,.string ⟨#[1]⟩,.int .i64 0]] w fun r w'=>r=.returned (.tuple #[.agg #[.int .u64 0,.int .u64 0],.int .u8 0,.int .i64 0])/\Below w.heap.size w w':=by
 obtain⟨Ab,Ac,B0⟩:=qD w (Obj.cells #[.bool false,.string ⟨#[]⟩,.string ⟨#[1]⟩,.int .i64 0] 70) (Obj.cells #[.int .u64 0,.int .u64 0] 26)
 go_enter Tryz.func50,Tryz.ntmps50
 go_wp2_with fail
 refine (KF.out _).mono ?_;rintro r w1 ⟨rfl,b1⟩;have B1:=zS B0 b1;obtain⟨Ad,Aa⟩:=z6 b1 Ab Ac;clear b1 B0 Ab Ac;obtain⟨Ae,Af,Ag,Ah⟩:=zE Ad;obtain⟨Ai,Aj⟩:=zC Aa;have q0:=fz (k:=0) Aa;have q1:=fz (k:=1) Aa;obtain⟨E0,E1⟩:=zQ Aa (.int .u64 0) (.int .u64 0);go_wp2
 exact bodyPost_ret (v:=.tuple #[.agg #[.int .u64 0,.int .u64 0],.int .u8 0,.int .i64 0]) (by simp [results,Tryz.results50,go_sem,E0,E1]) rfl ⟨rfl,zN B1 (by first|exact Nat.le_refl _|omega|(skip;omega)) _ _⟩
theorem rf_Round_ok (f m:Int)(b:Bool)(s t:ByteArray)(e:Int)(u v:Nat)(fl:Int)(w:World)
  (KF:zZ 103 #[.int .u8 f,.int .u8 m,.agg #[.bool b,.string s,.string t,.int .i64 e]] (.int .i64 0))
  (KD:zZ 104 #[.int .u8 f,.int .u8 m,.agg #[.bool b,.string s,.string t,.int .i64 e],.bool false] (.tuple #[.agg #[.int .u64 u,.int .u64 v],.int .u8 fl]))
  (hs:(s.toList == [])=false):Calls Tryz.prog 50 #[.int .u8 f,.int .u8 m,.agg #[.bool b,.string s,.string t,.int .i64 e]] w fun r w'=>r=.returned (.tuple #[.agg #[.int .u64 u,.int .u64 v],.int .u8 fl,.int .i64 0])/\Below w.heap.size w w':=by
 obtain⟨Af,Ag,B0⟩:=qD w (Obj.cells #[.bool b,.string s,.string t,.int .i64 e] 70) (Obj.cells #[.int .u64 0,.int .u64 0] 26)
 go_enter Tryz.func50,Tryz.ntmps50
 go_wp2_with fail
 refine (KF.out _).mono ?_;rintro r w1 ⟨rfl,b1⟩;have B1:=zS B0 b1;obtain⟨Ad,Ae⟩:=z6 b1 Af Ag;clear b1 B0 Af Ag;obtain⟨Ah,Ai,Aj,Ak⟩:=zE Ad;obtain⟨Al,Am⟩:=zC Ae;go_wp2_with fail
 refine (KD.out _).mono ?_;rintro r w2 ⟨rfl,b2⟩;have B2:=zS B1 b2;obtain⟨Aa,Ab⟩:=z6 b2 Ad Ae;clear b2 B1 Ad Ah Ai Aj Ak Ae Al Am;obtain⟨An,Ao,Ap,Aq⟩:=zE Aa;obtain⟨Ar,As⟩:=zC Ab;have S3:=zJ B2.size;have At:=yC Aa;have Au:=yC Ab;have Av:=heap_alloc_last w2 (Obj.cells #[.int .u64 u,.int .u64 v] 26);have B3:=zS B2 (yK w2 (Obj.cells #[.int .u64 u,.int .u64 v] 26));obtain⟨Aw,Ac⟩:=z6 (yK w2 (Obj.cells #[.int .u64 u,.int .u64 v] 26)) Aa Ab;clear B2 Aa An Ao Ap Aq Ab Ar As;obtain⟨Ax,Ay,Az,AA⟩:=zE Aw;obtain⟨AB,AC⟩:=zC Ac;obtain⟨AD,AE⟩:=zC Av;have q0:=fz (k:=0) Ac;have q1:=fz (k:=1) Ac;obtain⟨E0,E1⟩:=zQ Ac (.int .u64 u) (.int .u64 v);go_wp2
 exact bodyPost_ret (v:=.tuple #[.agg #[.int .u64 u,.int .u64 v],.int .u8 fl,.int .i64 0]) (by simp [results,Tryz.results50,go_sem,E0,E1]) rfl ⟨rfl,zN B3 (by first|exact Nat.le_refl _|omega|(have:=S3.out;have:=At.out;have:=Au.out;omega)) _ _⟩
end Go.Proofs.YtapikkbifdldfaaGreatDoor
namespace Go.Proofs.YtapikkbifdldfaaGreatDoor
set_option maxRecDepth 100000
set_option maxHeartbeats 40000000
open Go.RowKit WMath XMath
set_option linter.unusedSimpArgs false
set_option linter.unusedVariables false
def flt (f m:Int)(may:Bool)(s t:ByteArray):Int:=if f<=3/\m<=4/\may=true then (if 8192<s.size∨8192<t.size then 4 else 0) else 2
theorem rfault (f m:Int)(b:Bool)(s t:ByteArray)(e:Int)(may:Bool)(hm:IsM may b s t e)(c:Int)(hc:flt f m may s t=c)(w:World):Calls Tryz.prog 103 #[.int .u8 f,.int .u8 m,.agg #[.bool b,.string s,.string t,.int .i64 e]] w fun r w'=>r=.returned (.int .i64 c)/\Below w.heap.size w w':=by
 have K1:zZ 88 #[.int .u8 f] (.bool (decide (f<=3))):=zJ (fun w=>xP (r_right f _ rfl w));have K2:zZ 89 #[.int .u8 m] (.bool (decide (m<=4))):=zJ (fun w=>xP (r_mode m _ rfl w));have K3:zZ 159 #[.agg #[.bool b,.string s,.string t,.int .i64 e]] (.bool may):=zJ (fun w=>xmayM b s t e may hm w)
 unfold flt at hc
 by_cases c1:f<=3
 ·
  by_cases c2:m<=4
  ·
   cases may
   ·
    rw [if_neg (by simp)] at hc;subst hc;exact rf_fault_c f m b s t e _ _ false w K1 K2 K3 (decide_eq_true c1) (decide_eq_true c2) rfl
   ·
    rw [if_pos ⟨c1,c2,rfl⟩] at hc
    by_cases c4:8192<s.size
    ·
     rw [if_pos (Or.inl c4)] at hc;subst hc;exact rf_fault_d f m b s t e _ _ _ w K1 K2 K3 (decide_eq_true c1) (decide_eq_true c2) rfl (decide_eq_true (by omega))
    ·
     by_cases c5:8192<t.size
     ·
      rw [if_pos (Or.inr c5)] at hc;subst hc;exact rf_fault_e f m b s t e _ _ _ w K1 K2 K3 (decide_eq_true c1) (decide_eq_true c2) rfl (decide_eq_false (by omega)) (decide_eq_true (by omega))
     ·
      rw [if_neg (by omega)] at hc;subst hc;exact rf_fault_f f m b s t e _ _ _ w K1 K2 K3 (decide_eq_true c1) (decide_eq_true c2) rfl (decide_eq_false (by omega)) (decide_eq_false (by omega))
  ·
   rw [if_neg (by omega)] at hc;subst hc;exact rf_fault_b f m b s t e _ _ _ w K1 K2 K3 (decide_eq_true c1) (decide_eq_false c2)
 ·
  rw [if_neg (by omega)] at hc;subst hc;exact rf_fault_a f m b s t e _ _ _ w K1 K2 K3 (decide_eq_false c1)
theorem flt_ok {f m:Int} (hf:y7 f)(hm:0<=m/\m<=4) {n d:Nat} {s t:ByteArray} (hs:yN n=s)(ht:yN d=t)(ln:nl n<=8192)(ld:nl d<=8192):flt f m true s t=0:=by
 have a:s.size=nl n:=by rw [<-hs,yF]
 have c:t.size=nl d:=by rw [<-ht,yF]
 have f3:f<=3:=by rcases hf with rfl|rfl|rfl|rfl <;> decide
 unfold flt
 rw [if_pos ⟨f3,hm.2,rfl⟩,if_neg (by omega)]
def rnd (f m:Int)(x:XN):Nat×Int:=if x.n=0 then (0,0) else dlv f m x.b (xN x) (xW f x) (xM f x)
def tmo (m:Int):Int:=if m=2 then 3 else if m=3 then 2 else m
theorem gO_turn (m:Int)(neg o h mo:Bool):gO (tmo m) (!neg) o h mo=gO m neg o h mo:=by
 unfold gO tmo
 by_cases c2:m=2
 ·
  subst c2;simp
 by_cases c3:m=3
 ·
  subst c3;simp
 rw [if_neg c2,if_neg c3,if_neg c2,if_neg c3,if_neg c2,if_neg c3]
theorem rG_turn (m:Int)(neg:Bool)(W k:Nat)(more:Bool):rG (tmo m) (!neg) W k more=rG m neg W k more:=by unfold rG;rw [gO_turn]
theorem eS_enc {f:Int} (hf:y7 f)(j S:Nat)(hS:S<=2*2 ^ pV f)(hj:j=0∨2 ^ pV f<=S)(ht:lx f+(j:Int)-1+(zV S:Int)<=fE f):∃ e t,e<oV f/\t<2 ^ pV f/\∀ neg,eS f neg j S=jH f neg e t:=by
 by_cases s0:S=0
 ·
  obtain rfl:j=0:=by have:=Nat.two_pow_pos (pV f);omega
  subst s0;exact⟨0,0,(nm8 hf).2.1,Nat.two_pow_pos _,fun neg=>rfl⟩
 ·
  obtain⟨e,t,he,ht,_,h,_⟩:=rep hf j S s0 hS hj ht;exact⟨e,t,he,ht,fun neg=>(h neg).symm⟩
theorem dlv_enc {f:Int} (hf:y7 f) {W:Nat} (hW:Wok f W)(m:Int)(neg:Bool)(T:Int)(more:Bool):∃ e t fl,e<=oV f/\t<2 ^ pV f/\(e=oV f->t=0)/\dlv f m neg T W more=(jH f neg e t,fl)/\dlv f (tmo m) (!neg) T W more=(jH f (!neg) e t,fl):=by
 have lim:=rG_lim hW m neg (dK f T) more;have stx:=st_lx hf T;have p:=Nat.two_pow_pos (pV f);obtain⟨n1,n2,n3,n4,n5,n6⟩:=nm8 hf;have tt:tnB f (tmo m) (!neg) T W more=tnB f m neg T W more:=by unfold tnB;rw [rG_turn]
 unfold dlv
 rw [rG_turn,tt]
 by_cases c:fE f<stE f T-fP f+(zV (rG m neg W (dK f T) more):Int)
 ·
  rw [if_pos c,if_pos c]
  unfold ovB
  rw [gO_turn]
  by_cases g:gO m neg false true true=true
  ·
   rw [if_pos g,if_pos g];exact⟨oV f,0,5,Nat.le_refl _,p,fun _=>rfl,rfl,rfl⟩
  ·
   rw [if_neg g,if_neg g];exact⟨oV f-1,2 ^ pV f-1,5,by omega,by omega,fun h=>by omega,rfl,rfl⟩
 ·
  rw [if_neg c,if_neg c]
  have hj:dJ f T=0∨2 ^ pV f<=rG m neg W (dK f T) more:=by
   rcases jk (f:=f) T with ⟨a,_⟩|⟨a,_⟩
   ·
    exact Or.inl a
   ·
    exact Or.inr (lim.2.1 a)
  obtain⟨e,t,he,ht,h⟩:=eS_enc hf (dJ f T) _ lim.1 hj (by omega);exact⟨e,t,_,by omega,ht,fun q=>by omega,by rw [h],by rw [h]⟩
end Go.Proofs.YtapikkbifdldfaaGreatDoor
namespace Go.Proofs.YtapikkbifdldfaaGreatDoor
set_option maxRecDepth 100000
set_option maxHeartbeats 40000000
open Go.RowKit WMath
set_option linter.unusedSimpArgs false
set_option linter.unusedVariables false
def rg (neg:Bool)(s:Nat)(x:Int)(more:Bool):Array Value:=#[.bool neg,.int .u64 (wd s 0),.int .u64 (wd s 1),.int .u64 (wd s 2),.int .u64 (wd s 3),.int .u64 (wd s 4),.int .u64 (wd s 5),.int .i64 x,.bool more]
theorem rgf (neg:Bool)(s:Nat)(x:Int)(more:Bool):#[Value.bool neg,.int .u64 (wd s 0),.int .u64 (wd s 1),.int .u64 (wd s 2),.int .u64 (wd s 3),.int .u64 (wd s 4),.int .u64 (wd s 5),.int .i64 x,.bool more]=rg neg s x more:=rfl
theorem rgz:#[Value.bool false,.int .u64 0,.int .u64 0,.int .u64 0,.int .u64 0,.int .u64 0,.int .u64 0,.int .i64 0,.bool false]=rg false 0 0 false:=by unfold rg;simp [wd_zero]
theorem rg_size (neg:Bool)(s:Nat)(x:Int)(more:Bool):(rg neg s x more).size=9:=rfl
theorem rg_one (neg:Bool)(s:Nat)(x:Int)(more:Bool):∀ v ∈ (rg neg s x more).toList,v.oneCell'=true:=by
 intro v hv
 simp only [rg,List.mem_cons,List.not_mem_nil,or_false] at hv
 rcases hv with rfl|rfl|rfl|rfl|rfl|rfl|rfl|rfl|rfl <;> rfl
theorem st_r (w:World)(b:Nat)(neg:Bool)(s:Nat)(x:Int)(more neg0:Bool)(s0:Nat)(x0:Int)(more0:Bool)(h:w.heap[b]?=some (.cells (rg neg0 s0 x0 more0) 62)) :
  (storeCells ⟨b,0,none⟩ (rg neg s x more).toList 0).run Tryz.prog w=.ok () (w.setRow b (rg neg s x more)):=
 run_storeCells_at (P:=Tryz.prog) b 0 62 (rg neg s x more).toList 0 (rg neg0 s0 x0 more0) w h (by simp only [Array.length_toList,rg_size];omega) (rg_one neg s x more)
theorem st_r0 (w:World)(b:Nat)(neg:Bool)(s:Nat)(x:Int)(more neg0:Bool)(s0:Nat)(x0:Int)(more0:Bool)(hb:b=w.heap.size) :
  (storeCells ⟨b,0,none⟩ (rg neg s x more).toList 0).run Tryz.prog (w.alloc (.cells (rg neg0 s0 x0 more0) 62))=.ok () (w.alloc (.cells (rg neg s x more) 62)):=by
 subst hb;rw [st_r _ _ neg s x more neg0 s0 x0 more0 (heap_alloc_last w _),World.setRow_alloc_new]
theorem zL {w:World} {g:Nat} {T:TypeId} {neg:Bool} {s:Nat} {x:Int} {more:Bool} (R:w.heap[g]?=some (.cells (rg neg s x more) T)):w.cell? ⟨g,0,none⟩=some (.bool neg)/\w.cell? ⟨g,1,none⟩=some (.int .u64 (wd s 0))/\w.cell? ⟨g,2,none⟩=some (.int .u64 (wd s 1))/\w.cell? ⟨g,3,none⟩=some (.int .u64 (wd s 2))/\w.cell? ⟨g,4,none⟩=some (.int .u64 (wd s 3))/\w.cell? ⟨g,5,none⟩=some (.int .u64 (wd s 4))/\w.cell? ⟨g,6,none⟩=some (.int .u64 (wd s 5))/\w.cell? ⟨g,7,none⟩=some (.int .i64 x)/\w.cell? ⟨g,8,none⟩=some (.bool more):=
 ⟨yT R 0 _ rfl,yT R 1 _ rfl,yT R 2 _ rfl,yT R 3 _ rfl,yT R 4 _ rfl,yT R 5 _ rfl,yT R 6 _ rfl,yT R 7 _ rfl,yT R 8 _ rfl⟩
theorem rg_set1 (neg:Bool)(s t:Nat)(x:Int)(more:Bool)(h:∀ k,0<k->k<6->wd t k=wd s k):(rg neg s x more).setIfInBounds 1 (.int .u64 (wd t 0))=rg neg t x more:=by
 have h1:=h 1 (by decide) (by decide);have h2:=h 2 (by decide) (by decide);have h3:=h 3 (by decide) (by decide);have h4:=h 4 (by decide) (by decide);have h5:=h 5 (by decide) (by decide)
 unfold rg
 rw [h1,h2,h3,h4,h5]
 rfl
theorem rg_set8 (neg:Bool)(s:Nat)(x:Int)(more m2:Bool):(rg neg s x more).setIfInBounds 8 (.bool m2)=rg neg s x m2:=rfl
theorem ro_stepAt (f T P A1 v:Int)(w:World)
  (KP:xK 121 #[.int .u8 f] (.int .i64 P))
  (h1:IntKind.i64.wrap (T-P)=A1) (h2:IntKind.i64.wrap (A1+1)=v) (hT:y6 w):Calls Tryz.prog 81 #[.int .u8 f,.int .i64 T] w fun r w'=>r=.returned (.int .i64 v)/\Below w.heap.size w w':=by
 have FF:=zJ hT;clear hT;have B0:Below w.heap.size w w:=(Below.refl _ _)
 go_enter Tryz.func81,Tryz.ntmps81
 go_wp2_with fail
 refine (KP.out _ (z7 FF.out B0)).mono ?_;rintro r w1 ⟨rfl,b1⟩;have B1:=zS B0 b1;clear b1 B0;go_wp2
 go_ret
 exact⟨rfl,B1⟩
theorem ro_top (neg:Bool)(s:Nat)(x:Int)(more:Bool)(l A1 v:Int)(w:World)
  (KL:zZ 86 #[.agg (cw 6 s)] (.int .i64 l))
  (h1:IntKind.i64.wrap (x+l)=A1) (h2:IntKind.i64.wrap (A1-1)=v):Calls Tryz.prog 82 #[.agg (rg neg s x more)] w fun r w'=>r=.returned (.int .i64 v)/\Below w.heap.size w w':=by
 have hat:=yD 6;have hz:=yZ;have hff:=yY;have hs0:=jD;have hcs:∀ x,((cw 6 x).size=6)=True:=fun x=>eq_true (z8 6 x);obtain⟨Aa,B0⟩:=yR w (Obj.cells (rg neg s x more) 62)
 go_enter Tryz.func82,Tryz.ntmps82
 have sS:zW (∀ W W1:World,(Below w.heap.size w W/\W.heap[w.heap.size]?=some (.cells (rg neg s x more) 62))->Below W.heap.size W W1->(Below w.heap.size w W1/\W1.heap[w.heap.size]?=some (.cells (rg neg s x more) 62))):=zJ (fun W W1 h b=>⟨zS h.1 b,zA b _ _ _ h.2⟩);have sC:zW (∀ W:World,(Below w.heap.size w W/\W.heap[w.heap.size]?=some (.cells (rg neg s x more) 62))->(Below w.heap.size w W/\W.heap[w.heap.size]?=some (.cells (rg neg s x more) 62)/\W.cell? ⟨w.heap.size,0,none⟩=some (.bool neg)/\W.cell? ⟨w.heap.size,1,none⟩=some (.int .u64 (wd s 0))/\W.cell? ⟨w.heap.size,2,none⟩=some (.int .u64 (wd s 1))/\W.cell? ⟨w.heap.size,3,none⟩=some (.int .u64 (wd s 2))/\W.cell? ⟨w.heap.size,4,none⟩=some (.int .u64 (wd s 3))/\W.cell? ⟨w.heap.size,5,none⟩=some (.int .u64 (wd s 4))/\W.cell? ⟨w.heap.size,6,none⟩=some (.int .u64 (wd s 5))/\W.cell? ⟨w.heap.size,7,none⟩=some (.int .i64 x)/\W.cell? ⟨w.heap.size,8,none⟩=some (.bool more))):=zJ (fun W h=>⟨h.1,h.2,zI (h.2) 0 _ rfl,zI (h.2) 1 _ rfl,zI (h.2) 2 _ rfl,zI (h.2) 3 _ rfl,zI (h.2) 4 _ rfl,zI (h.2) 5 _ rfl,zI (h.2) 6 _ rfl,zI (h.2) 7 _ rfl,zI (h.2) 8 _ rfl⟩);have s0:Below w.heap.size w ((w.alloc (Obj.cells (rg neg s x more) 62))).drew/\((w.alloc (Obj.cells (rg neg s x more) 62))).drew.heap[w.heap.size]?=some (.cells (rg neg s x more) 62):=⟨B0.drew,Aa⟩;go_wp2_with fail
 go_region_held3 (fun W=>Below w.heap.size w W/\W.heap[w.heap.size]?=some (.cells (rg neg s x more) 62)/\W.cell? ⟨w.heap.size,0,none⟩=some (.bool neg)/\W.cell? ⟨w.heap.size,1,none⟩=some (.int .u64 (wd s 0))/\W.cell? ⟨w.heap.size,2,none⟩=some (.int .u64 (wd s 1))/\W.cell? ⟨w.heap.size,3,none⟩=some (.int .u64 (wd s 2))/\W.cell? ⟨w.heap.size,4,none⟩=some (.int .u64 (wd s 3))/\W.cell? ⟨w.heap.size,5,none⟩=some (.int .u64 (wd s 4))/\W.cell? ⟨w.heap.size,6,none⟩=some (.int .u64 (wd s 5))/\W.cell? ⟨w.heap.size,7,none⟩=some (.int .i64 x)/\W.cell? ⟨w.heap.size,8,none⟩=some (.bool more)) (first|exact sC.out _ s1|exact sC.out _ s0)
  (first|(go_at_call 86;(first|refine (KL.out _).mono ?_|refine (KL.out _).mono ?_);rintro r wq ⟨rfl,bq⟩;have s1:=(by first|exact sS.out _ _ s1 bq|exact sS.out _ _ s0 bq);clear bq)|fail)
 have B1:=(And.left s1);have Ab:=s1.2;clear s0 s1 sS sC B0 Aa;obtain⟨Ac,Ad,Ae,Af,Ag,Ah,Ai,Aj,Ak⟩:=zL Ab;go_wp2
 go_ret
 exact⟨rfl,B1⟩
theorem ro_check_a (f m c1:Int)(w:World)(K1:zZ 27 #[.int .u8 f] (.int .i64 c1))(h1:(c1 != 0)=true):Calls Tryz.prog 77 #[.int .u8 f,.int .u8 m] w fun r w'=>r=.returned (.int .i64 2)/\Below w.heap.size w w':=by
 have B0:Below w.heap.size w w:=(Below.refl _ _)
 go_enter Tryz.func77,Tryz.ntmps77
 go_wp2_with fail
 refine (K1.out _).mono ?_;rintro r w1 ⟨rfl,b1⟩;have B1:=zS B0 b1;clear b1 B0;go_wp2
 go_ret
 exact⟨rfl,B1⟩
theorem ro_check_b (f m c1 c2:Int)(w:World)(K1:zZ 27 #[.int .u8 f] (.int .i64 c1))(K2:zZ 28 #[.int .u8 m] (.int .i64 c2))(h1:(c1 != 0)=false)(h2:(c2 != 0)=true):Calls Tryz.prog 77 #[.int .u8 f,.int .u8 m] w fun r w'=>r=.returned (.int .i64 2)/\Below w.heap.size w w':=by
 have B0:Below w.heap.size w w:=(Below.refl _ _)
 go_enter Tryz.func77,Tryz.ntmps77
 go_wp2_with fail
 refine (K1.out _).mono ?_;rintro r w1 ⟨rfl,b1⟩;have B1:=zS B0 b1;clear b1 B0;go_wp2_with fail
 refine (K2.out _).mono ?_;rintro r w2 ⟨rfl,b2⟩;have B2:=zS B1 b2;clear b2 B1;go_wp2
 go_ret
 exact⟨rfl,B2⟩
theorem ro_check_c (f m c1 c2:Int)(w:World)(K1:zZ 27 #[.int .u8 f] (.int .i64 c1))(K2:zZ 28 #[.int .u8 m] (.int .i64 c2))(h1:(c1 != 0)=false)(h2:(c2 != 0)=false):Calls Tryz.prog 77 #[.int .u8 f,.int .u8 m] w fun r w'=>r=.returned (.int .i64 0)/\Below w.heap.size w w':=by
 have B0:Below w.heap.size w w:=(Below.refl _ _)
 go_enter Tryz.func77,Tryz.ntmps77
 go_wp2_with fail
 refine (K1.out _).mono ?_;rintro r w1 ⟨rfl,b1⟩;have B1:=zS B0 b1;clear b1 B0;go_wp2_with fail
 refine (K2.out _).mono ?_;rintro r w2 ⟨rfl,b2⟩;have B2:=zS B1 b2;clear b2 B1;go_wp2
 go_ret
 exact⟨rfl,B2⟩
theorem ro_may_lo (f:Int)(neg:Bool)(s:Nat)(x:Int)(more:Bool)(w:World)(h:decide (x < -1048576)=true):Calls Tryz.prog 78 #[.int .u8 f,.agg (rg neg s x more)] w fun r w'=>r=.returned (.bool false)/\Below w.heap.size w w':=by
 have hat:=yD 6;have hz:=yZ;have hff:=yY;have hs0:=jD;have hcs:∀ x,((cw 6 x).size=6)=True:=fun x=>eq_true (z8 6 x);obtain⟨Aa,B0⟩:=yR w (Obj.cells (rg neg s x more) 62)
 go_enter Tryz.func78,Tryz.ntmps78
 obtain⟨Ab,Ac,Ad,Ae,Af,Ag,Ah,Ai,Aj⟩:=zL Aa;go_wp2
 go_ret
 exact⟨rfl,B0⟩
theorem ro_may_hi (f:Int)(neg:Bool)(s:Nat)(x:Int)(more:Bool)(w:World)(h:decide (x < -1048576)=false)(h2:decide (1048576<x)=true):Calls Tryz.prog 78 #[.int .u8 f,.agg (rg neg s x more)] w fun r w'=>r=.returned (.bool false)/\Below w.heap.size w w':=by
 have hat:=yD 6;have hz:=yZ;have hff:=yY;have hs0:=jD;have hcs:∀ x,((cw 6 x).size=6)=True:=fun x=>eq_true (z8 6 x);obtain⟨Aa,B0⟩:=yR w (Obj.cells (rg neg s x more) 62)
 go_enter Tryz.func78,Tryz.ntmps78
 obtain⟨Ab,Ac,Ad,Ae,Af,Ag,Ah,Ai,Aj⟩:=zL Aa;go_wp2
 go_ret
 exact⟨rfl,B0⟩
theorem ro_may_no (f:Int)(neg:Bool)(s:Nat)(x:Int)(w:World)(h:decide (x < -1048576)=false)(h2:decide (1048576<x)=false):Calls Tryz.prog 78 #[.int .u8 f,.agg (rg neg s x false)] w fun r w'=>r=.returned (.bool true)/\Below w.heap.size w w':=by
 have hat:=yD 6;have hz:=yZ;have hff:=yY;have hs0:=jD;have hcs:∀ x,((cw 6 x).size=6)=True:=fun x=>eq_true (z8 6 x);obtain⟨Aa,B0⟩:=yR w (Obj.cells (rg neg s x false) 62)
 go_enter Tryz.func78,Tryz.ntmps78
 obtain⟨Ab,Ac,Ad,Ae,Af,Ag,Ah,Ai,Aj⟩:=zL Aa;go_wp2
 go_ret
 exact⟨rfl,B0⟩
theorem ro_may_more (f:Int)(neg:Bool)(s:Nat)(x:Int)(l P A1:Int)(o:Bool)(w:World)
  (KL:zZ 86 #[.agg (cw 6 s)] (.int .i64 l))
  (KP:xK 121 #[.int .u8 f] (.int .i64 P))
  (h:decide (x < -1048576)=false) (h2:decide (1048576<x)=false) (h3:IntKind.i64.wrap (P+2)=A1) (ho:decide (A1<=l)=o) (hT:y6 w):Calls Tryz.prog 78 #[.int .u8 f,.agg (rg neg s x true)] w fun r w'=>r=.returned (.bool o)/\Below w.heap.size w w':=by
 have FF:=zJ hT;clear hT;have hat:=yD 6;have hz:=yZ;have hff:=yY;have hs0:=jD;have hcs:∀ x,((cw 6 x).size=6)=True:=fun x=>eq_true (z8 6 x);obtain⟨Aa,B0⟩:=yR w (Obj.cells (rg neg s x true) 62)
 go_enter Tryz.func78,Tryz.ntmps78
 obtain⟨Ac,Ad,Ae,Af,Ag,Ah,Ai,Aj,Ak⟩:=zL Aa;go_wp2_with fail
 refine (KL.out _).mono ?_;rintro r w1 ⟨rfl,b1⟩;have B1:=zS B0 b1;have Ab:=zA b1 _ _ _ Aa;clear b1 B0 Aa Ac Ad Ae Af Ag Ah Ai Aj Ak;obtain⟨Al,Am,An,Ao,Ap,Aq,Ar,As,At⟩:=zL Ab;go_wp2_with fail
 refine (KP.out _ (z7 FF.out B1)).mono ?_;rintro r w2 ⟨rfl,b2⟩;have B2:=zS B1 b2;have Au:=zA b2 _ _ _ Ab;clear b2 B1 Ab Al Am An Ao Ap Aq Ar As At;obtain⟨Av,Aw,Ax,Ay,Az,AA,AB,AC,AD⟩:=zL Au;go_wp2
 go_ret
 exact⟨rfl,B2⟩
def uP (m:Int)(neg odd:Bool)(h:Int)(ex:Bool):Bool:=if ex then false else if m=2 then neg else if m=3 then !neg else if m=0 then (decide (0<h) || (decide (h=0) && odd)) else if m=4 then decide (0<=h) else false
theorem uP_gO (m:Int)(neg odd half more:Bool):uP m neg odd (hfV half more) (!(half || more))=gO m neg odd half more:=by
 unfold uP gO hfV
 by_cases c0:m=0
 ·
  subst c0;cases half <;> cases more <;> cases odd <;> rfl
 by_cases c2:m=2
 ·
  subst c2;cases half <;> cases more <;> cases neg <;> rfl
 by_cases c3:m=3
 ·
  subst c3;cases half <;> cases more <;> cases neg <;> rfl
 by_cases c4:m=4
 ·
  subst c4;cases half <;> cases more <;> rfl
 rw [if_neg c2,if_neg c3,if_neg c0,if_neg c4,if_neg c0,if_neg c4,if_neg c2,if_neg c3]
 split <;> rfl
theorem ro_up (m:Int)(neg odd:Bool)(h:Int)(ex o:Bool)(ho:uP m neg odd h ex=o)(w:World):Calls Tryz.prog 133 #[.int .u8 m,.bool neg,.bool odd,.int .i64 h,.bool ex] w fun r w'=>r=.returned (.bool o)/\Below w.heap.size w w':=by
 subst ho
 cases ex
 case true=>
  have B0:Below w.heap.size w w:=(Below.refl _ _)
  go_enter Tryz.func133,Tryz.ntmps133
  go_wp2
  go_ret
  exact⟨rfl,B0⟩
 unfold uP
 rw [if_neg (by decide)]
 by_cases c2:m=2
 ·
  subst c2;rw [if_pos rfl]
  cases neg
  all_goals
   go_enter Tryz.func133,Tryz.ntmps133
   go_wp2
   go_ret
   exact⟨rfl,Below.refl _ _⟩
 rw [if_neg c2]
 by_cases c3:m=3
 ·
  subst c3;rw [if_pos rfl]
  cases neg
  all_goals
   go_enter Tryz.func133,Tryz.ntmps133
   go_wp2
   go_ret
   exact⟨rfl,Below.refl _ _⟩
 rw [if_neg c3];have e2:(m == 2)=false:=by simpa using c2
 have e3:(m == 3)=false:=by simpa using c3
 by_cases c0:m=0
 ·
  subst c0;rw [if_pos rfl]
  by_cases p:0<h
  ·
   rw [decide_eq_true p,Bool.true_or];have d1:decide (0<h)=true:=decide_eq_true p
   go_enter Tryz.func133,Tryz.ntmps133
   go_wp2
   go_ret
   exact⟨rfl,Below.refl _ _⟩
  ·
   rw [decide_eq_false p,Bool.false_or];have d1:decide (0<h)=false:=decide_eq_false p
   by_cases z:h=0
   ·
    subst z;rw [decide_eq_true rfl,Bool.true_and]
    cases odd
    all_goals
     go_enter Tryz.func133,Tryz.ntmps133
     go_wp2
     go_ret
     exact⟨rfl,Below.refl _ _⟩
   ·
    rw [decide_eq_false z,Bool.false_and];have d2:(h == 0)=false:=by simpa using z
    go_enter Tryz.func133,Tryz.ntmps133
    go_wp2
    go_ret
    exact⟨rfl,Below.refl _ _⟩
 rw [if_neg c0];have e0:(m == 0)=false:=by simpa using c0
 by_cases c4:m=4
 ·
  subst c4;rw [if_pos rfl]
  by_cases p:0<h
  ·
   rw [decide_eq_true (show 0<=h by omega)];have d1:decide (0<h)=true:=decide_eq_true p
   go_enter Tryz.func133,Tryz.ntmps133
   go_wp2
   go_ret
   exact⟨rfl,Below.refl _ _⟩
  ·
   have d1:decide (0<h)=false:=decide_eq_false p
   by_cases z:h=0
   ·
    subst z;rw [decide_eq_true (by decide)]
    cases odd
    all_goals
     go_enter Tryz.func133,Tryz.ntmps133
     go_wp2
     go_ret
     exact⟨rfl,Below.refl _ _⟩
   ·
    rw [decide_eq_false (show ¬ 0<=h by omega)];have d2:(h == 0)=false:=by simpa using z
    go_enter Tryz.func133,Tryz.ntmps133
    go_wp2
    go_ret
    exact⟨rfl,Below.refl _ _⟩
 rw [if_neg c4];have e4:(m == 4)=false:=by simpa using c4
 go_enter Tryz.func133,Tryz.ntmps133
 go_wp2
 go_ret
 exact⟨rfl,Below.refl _ _⟩
theorem gen_round_tiny_7 {X:Act->World->Prop} {R:World->Nat->Prop} {t0 t1 t2 t3 t4 t5 t6 t8 t9 t10 t11 t12 t13 t14 t15 t16 t17 t18 t19 t20 t21 t22 t23:Value} {d:List Deferred} {W:World} {G:Nat}
  (key:∀ w5 g,R w5 g->X ⟨#[t0,t1,t2,t3,t4,t5,t6,.pointer (some ⟨g,0,none⟩),t8,t9,t10,t11,t12,t13,t14,t15,t16,t17,t18,t19,t20,t21,t22,t23],d⟩ w5) (r:R W G):X ⟨#[t0,t1,t2,t3,t4,t5,t6,.pointer (some ⟨G,0,none⟩),t8,t9,t10,t11,t12,t13,t14,t15,t16,t17,t18,t19,t20,t21,t22,t23],d⟩ W:=key W G r

theorem or_low (s t:Nat)(h:s / 2*2+1=t):wd t 0=wd s 0 / 2*2+1/\∀ k,0<k->k<6->wd t k=wd s k:=by
 have e:t / 2=s / 2:=by omega
 constructor
 ·
  unfold wd
  rw [Nat.mul_zero,Nat.pow_zero,Nat.div_one,Nat.div_one];omega
 ·
  intro k h1 h2
  unfold wd
  obtain⟨i,hi⟩:∃ i,64*k=i+1:=⟨64*k-1,by omega⟩;rw [hi,Nat.pow_succ,Nat.mul_comm (2 ^ i) 2,<-Nat.div_div_eq_div_mul,<-Nat.div_div_eq_div_mul,e]
theorem ro_jam_no (neg:Bool)(s:Nat)(x:Int)(w:World):Calls Tryz.prog 79 #[.agg (rg neg s x false)] w fun r w'=>r=.returned (.agg (rg neg s x false))/\Below w.heap.size w w':=by
 have hat:=yD 6;have hz:=yZ;have hff:=yY;have hs0:=jD;have hcs:∀ x,((cw 6 x).size=6)=True:=fun x=>eq_true (z8 6 x);have hp1:=rgf;have hp3:=rgz;have hp5:∀ (c:Bool) (s:Nat) (x:Int) (r:Bool),((rg c s x r).size=9)=True:=fun _ _ _ _=>eq_true rfl;obtain⟨Ab,Aa,B0⟩:=qD w (Obj.cells (rg neg s x false) 62) (Obj.cells (rg false 0 0 false) 62)
 go_enter Tryz.func79,Tryz.ntmps79
 obtain⟨Ac,Ad,Ae,Af,Ag,Ah,Ai,Aj,Ak⟩:=zL Ab;obtain⟨Al,Am,An,Ao,Ap,Aq,Ar,As,At⟩:=zL Aa;have hstz:=st_r ((w.alloc (Obj.cells (rg neg s x false) 62)).alloc (Obj.cells (rg false 0 0 false) 62)) (w.heap.size+1) neg s x false false 0 0 false Aa;have RZ:=zT (c':=rg neg s x false) Aa;obtain⟨dz0,dz1,dz2,dz3,dz4,dz5,dz6,dz7,dz8⟩:=zL RZ;have bz:=z9 (c:=rg neg s x false) B0 (show w.heap.size<=w.heap.size+1 by first|exact Nat.le_refl _|omega|(skip;omega));go_wp2
 exact bodyPost_ret (v:=.agg (rg neg s x false)) (by simp [results,Tryz.results79,go_sem,dz0,dz1,dz2,dz3,dz4,dz5,dz6,dz7,dz8,rgf] <;> rfl) rfl ⟨rfl,bz⟩
theorem ro_jam_yes (neg:Bool)(s t:Nat)(x:Int)(w:World)(hor:bits .or .u64 ((wd s 0:Nat):Int) 1=((wd t 0:Nat):Int))(ht:zW (∀ k,0<k->k<6->wd t k=wd s k)):Calls Tryz.prog 79 #[.agg (rg neg s x true)] w fun r w'=>r=.returned (.agg (rg neg t x false))/\Below w.heap.size w w':=by
 have hat:=yD 6;have hz:=yZ;have hff:=yY;have hs0:=jD;have hcs:∀ x,((cw 6 x).size=6)=True:=fun x=>eq_true (z8 6 x);have hp1:=rgf;have hp3:=rgz;have hp5:∀ (c:Bool) (s:Nat) (x:Int) (r:Bool),((rg c s x r).size=9)=True:=fun _ _ _ _=>eq_true rfl;obtain⟨Aa,Ab,B0⟩:=qD w (Obj.cells (rg neg s x true) 62) (Obj.cells (rg false 0 0 false) 62)
 go_enter Tryz.func79,Tryz.ntmps79
 obtain⟨Ac,Ad,Ae,Af,Ag,Ah,Ai,Aj,Ak⟩:=zL Aa;obtain⟨Al,Am,An,Ao,Ap,Aq,Ar,As,At⟩:=zL Ab;have hs1:=rg_set1 neg s t x true ht.out;have hs8:=rg_set8 neg t x true false;have fx:=fz (k:=1) Aa;obtain⟨Px,Pz,PB⟩:=qD w (Obj.cells (rg neg t x true) 62) (Obj.cells (rg false 0 0 false) 62);obtain⟨pp0,pp1,pp2,pp3,pp4,pp5,pp6,pp7,pp8⟩:=zL Px;have pf:=fz (k:=8) Px;obtain⟨Ux,Uz,UB⟩:=qD w (Obj.cells (rg neg t x false) 62) (Obj.cells (rg false 0 0 false) 62);obtain⟨uu0,uu1,uu2,uu3,uu4,uu5,uu6,uu7,uu8⟩:=zL Ux;have hstz:=st_r _ (w.heap.size+1) neg t x false false 0 0 false Uz;have RZ:=zT (c':=rg neg t x false) Uz;obtain⟨dz0,dz1,dz2,dz3,dz4,dz5,dz6,dz7,dz8⟩:=zL RZ;have bz:=z9 (c:=rg neg t x false) UB (show w.heap.size<=w.heap.size+1 by omega);clear Px Pz PB;go_wp2
 exact bodyPost_ret (v:=.agg (rg neg t x false)) (by simp [results,Tryz.results79,go_sem,dz0,dz1,dz2,dz3,dz4,dz5,dz6,dz7,dz8,rgf] <;> rfl) rfl ⟨rfl,bz⟩
theorem ro_tiny (f m:Int)(neg:Bool)(s:Nat)(x:Int)(more:Bool)(T st rt I:Int)(K:Nat)(ex o:Bool)(w:World)
  (K1:zZ 82 #[.agg (rg neg s x more)] (.int .i64 T))
  (K2:xK 81 #[.int .u8 f,.int .i64 T] (.int .i64 st))
  (K3:zZ 80 #[.int .u8 m,.agg (rg neg s x more),.int .i64 st] (.tuple #[.agg (rg neg K st false),.bool ex]))
  (K4:zZ 82 #[.agg (rg neg K st false)] (.int .i64 rt))
  (K5:xK 83 #[.int .u8 f] (.int .i64 I))
  (ho:decide (rt<I)=o) (hT:y6 w):Calls Tryz.prog 84 #[.int .u8 f,.int .u8 m,.agg (rg neg s x more)] w fun r w'=>r=.returned (.bool o)/\Below w.heap.size w w':=by
 have FF:=zJ hT;clear hT;have hat:=yD 6;have hz:=yZ;have hff:=yY;have hs0:=jD;have hcs:∀ x,((cw 6 x).size=6)=True:=fun x=>eq_true (z8 6 x);have hp1:=rgf;have hp3:=rgz;have hp4:=st_r0;have hp5:∀ (c:Bool) (s:Nat) (x:Int) (r:Bool),((rg c s x r).size=9)=True:=fun _ _ _ _=>eq_true rfl;obtain⟨Ae,B0⟩:=yR w (Obj.cells (rg neg s x more) 62)
 go_enter Tryz.func84,Tryz.ntmps84
 have sS:zW (∀ W W1:World,(Below w.heap.size w W/\W.heap[w.heap.size]?=some (.cells (rg neg s x more) 62))->Below W.heap.size W W1->(Below w.heap.size w W1/\W1.heap[w.heap.size]?=some (.cells (rg neg s x more) 62))):=zJ (fun W W1 h b=>⟨zS h.1 b,zA b _ _ _ h.2⟩);have sL:zW (∀ W:World,(Below w.heap.size w W/\W.heap[w.heap.size]?=some (.cells (rg neg s x more) 62))->(w.heap.size<W.heap.size)):=zJ (fun W h=>(Array.getElem?_eq_some_iff.1 h.2).1);have sT:zW (∀ (W:World) (gN:Nat) (xA:Array Value),(Below w.heap.size w W/\W.heap[w.heap.size]?=some (.cells (rg neg s x more) 62))->(w.heap.size<gN)->(Below w.heap.size w (W.setRow gN xA)/\(W.setRow gN xA).heap[w.heap.size]?=some (.cells (rg neg s x more) 62))):=zJ (fun W gN xA h l=>⟨z9 h.1 (show w.heap.size<=gN by have:=l;omega),(zK (by have:=l;omega)).trans h.2⟩);have sC:zW (∀ W:World,(Below w.heap.size w W/\W.heap[w.heap.size]?=some (.cells (rg neg s x more) 62))->(Below w.heap.size w W/\W.heap[w.heap.size]?=some (.cells (rg neg s x more) 62)/\W.cell? ⟨w.heap.size,0,none⟩=some (.bool neg)/\W.cell? ⟨w.heap.size,1,none⟩=some (.int .u64 (wd s 0))/\W.cell? ⟨w.heap.size,2,none⟩=some (.int .u64 (wd s 1))/\W.cell? ⟨w.heap.size,3,none⟩=some (.int .u64 (wd s 2))/\W.cell? ⟨w.heap.size,4,none⟩=some (.int .u64 (wd s 3))/\W.cell? ⟨w.heap.size,5,none⟩=some (.int .u64 (wd s 4))/\W.cell? ⟨w.heap.size,6,none⟩=some (.int .u64 (wd s 5))/\W.cell? ⟨w.heap.size,7,none⟩=some (.int .i64 x)/\W.cell? ⟨w.heap.size,8,none⟩=some (.bool more))):=zJ (fun W h=>⟨h.1,h.2,zI (h.2) 0 _ rfl,zI (h.2) 1 _ rfl,zI (h.2) 2 _ rfl,zI (h.2) 3 _ rfl,zI (h.2) 4 _ rfl,zI (h.2) 5 _ rfl,zI (h.2) 6 _ rfl,zI (h.2) 7 _ rfl,zI (h.2) 8 _ rfl⟩);have s0:Below w.heap.size w ((w.alloc (Obj.cells (rg neg s x more) 62))).drew/\((w.alloc (Obj.cells (rg neg s x more) 62))).drew.heap[w.heap.size]?=some (.cells (rg neg s x more) 62):=⟨B0.drew,Ae⟩;clear B0 Ae;go_wp2_with fail
 apply cut7
 ·
  intro key0;have key:=zJ key0;clear key0
  go_region_held3 (fun W=>Below w.heap.size w W/\W.heap[w.heap.size]?=some (.cells (rg neg s x more) 62)/\W.cell? ⟨w.heap.size,0,none⟩=some (.bool neg)/\W.cell? ⟨w.heap.size,1,none⟩=some (.int .u64 (wd s 0))/\W.cell? ⟨w.heap.size,2,none⟩=some (.int .u64 (wd s 1))/\W.cell? ⟨w.heap.size,3,none⟩=some (.int .u64 (wd s 2))/\W.cell? ⟨w.heap.size,4,none⟩=some (.int .u64 (wd s 3))/\W.cell? ⟨w.heap.size,5,none⟩=some (.int .u64 (wd s 4))/\W.cell? ⟨w.heap.size,6,none⟩=some (.int .u64 (wd s 5))/\W.cell? ⟨w.heap.size,7,none⟩=some (.int .i64 x)/\W.cell? ⟨w.heap.size,8,none⟩=some (.bool more)) (first|exact sC.out _ s1|exact sC.out _ s0|exact sC.out _ (sS.out _ _ s1 (yK _ _))|exact sC.out _ (sS.out _ _ s0 (yK _ _))|exact sC.out _ (sT.out _ _ _ s1 hl))
   (((first|(go_at_call 82;(first|refine (K1.out _).mono ?_|refine (K1.out _).mono ?_))|(go_at_call 81;(first|refine (K2.out _ (by first|exact z7 FF.out (And.left s1)|exact fat_al (z7 FF.out (And.left s1)) _)).mono ?_|refine (K2.out _ (by first|exact z7 FF.out (And.left s0)|exact fat_al (z7 FF.out (And.left s0)) _)).mono ?_))|(go_at_call 80;(first|refine (K3.out _).mono ?_|refine (K3.out _).mono ?_))|fail);rintro r wq ⟨rfl,bq⟩;(first|(have hg:=zA bq _ _ _ (heap_alloc_last _ _);have hl:=(by first|exact sL.out _ s1|exact sL.out _ s0))|have hg:=zA bq _ _ _ hg|skip);(try simp only [xF,zM] at hg hl);(first|have hst:=st_r _ _ neg K st false false 0 0 false hg|skip);have s2:=(by first|exact sS.out _ _ s1 bq|exact sS.out _ _ s0 bq|exact sS.out _ _ (sS.out _ _ s1 (yK _ _)) bq|exact sS.out _ _ (sS.out _ _ s0 (yK _ _)) bq);(try clear s1);have s1:=s2;clear s2 bq))
  all_goals
   refine gen_round_tiny_7 (R:=fun W gN=>(Below w.heap.size w W/\W.heap[w.heap.size]?=some (.cells (rg neg s x more) 62))/\W.heap[gN]?=some (.cells (rg neg K st false) 62)/\(w.heap.size<gN)) key.out ?_
   first
    | exact⟨(sT.out _ _ _ s1 hl),zT hg,hl⟩
    | exact⟨sS.out _ _ s1 (yK _ _),heap_alloc_last _ _,sL.out _ s1⟩
    | exact⟨sS.out _ _ s0 (yK _ _),heap_alloc_last _ _,sL.out _ s0⟩
 rintro w1 g1 ⟨s1,Aa,l1⟩;have B1:=And.left s1;have Ab:=s1.2;have H1:=zJ l1;clear s0 s1 sS sC sL sT l1;obtain⟨Af,Ag,Ah,Ai,Aj,Ak,Al,Am,An⟩:=zL Ab;obtain⟨Ao,Ap,Aq,Ar,As,At,Au,Av,Aw⟩:=zL Aa;go_wp2_with fail
 refine (K4.out _).mono ?_;rintro r w2 ⟨rfl,b2⟩;have B2:=zS B1 b2;obtain⟨Ac,Ad⟩:=z6 b2 Ab Aa;clear b2 B1 Ab Af Ag Ah Ai Aj Ak Al Am An Aa Ao Ap Aq Ar As At Au Av Aw;obtain⟨Ax,Ay,Az,AA,AB,AC,AD,AE,AF⟩:=zL Ac;obtain⟨AG,AH,AI,AJ,AK,AL,AM,AN,AO⟩:=zL Ad;go_wp2_with fail
 refine (K5.out _ (z7 FF.out B2)).mono ?_;rintro r w3 ⟨rfl,b3⟩;have B3:=zS B2 b3;obtain⟨AP,AQ⟩:=z6 b3 Ac Ad;clear b3 B2 Ac Ax Ay Az AA AB AC AD AE AF Ad AG AH AI AJ AK AL AM AN AO;obtain⟨AR,AS,AT,AU,AV,AW,AX,AY,AZ⟩:=zL AP;obtain⟨A0,A1,A2,A3,A4,A5,A6,A7,A8⟩:=zL AQ;go_wp2
 go_ret
 exact⟨rfl,B3⟩
theorem ro_over_gr (f m:Int)(neg:Bool)(u v:Nat)(w:World)(KC:zZ 77 #[.int .u8 f,.int .u8 m] (.int .i64 0))
  (KG:xK 132 #[.int .u8 f,.bool neg] (.agg #[.int .u64 u,.int .u64 v]))
  (KU:zZ 133 #[.int .u8 m,.bool neg,.bool false,.int .i64 1,.bool false] (.bool false)) (hT:y6 w):Calls Tryz.prog 76 #[.int .u8 f,.int .u8 m,.bool neg] w fun r w'=>r=.returned (.tuple #[.agg #[.int .u64 u,.int .u64 v],.int .u8 5,.int .i64 0])/\Below w.heap.size w w':=by
 have FF:=zJ hT;clear hT;obtain⟨Af,B0⟩:=yR w (Obj.cells #[.int .u64 0,.int .u64 0] 26)
 go_enter Tryz.func76,Tryz.ntmps76
 go_wp2_with fail
 refine (KC.out _).mono ?_;rintro r w1 ⟨rfl,b1⟩;have B1:=zS B0 b1;have Ac:=zA b1 _ _ _ Af;clear b1 B0 Af;obtain⟨Ag,Ah⟩:=zC Ac;go_wp2_with fail
 refine (KG.out _ (z7 FF.out B1)).mono ?_;rintro r w2 ⟨rfl,b2⟩;have B2:=zS B1 b2;have Aa:=zA b2 _ _ _ Ac;clear b2 B1 Ac Ag Ah;obtain⟨Ai,Aj⟩:=zC Aa;have S3:=zJ B2.size;have Ak:=yC Aa;have Ad:=heap_alloc_last w2 (Obj.cells #[.int .u64 u,.int .u64 v] 26);have B3:=zS B2 (yK w2 (Obj.cells #[.int .u64 u,.int .u64 v] 26));have Ae:=zA (yK w2 (Obj.cells #[.int .u64 u,.int .u64 v] 26)) _ _ _ Aa;clear B2 Aa Ai Aj;obtain⟨Al,Am⟩:=zC Ae;obtain⟨An,Ao⟩:=zC Ad;go_wp2_with fail
 refine (KU.out _).mono ?_;rintro r w4 ⟨rfl,b4⟩;have B4:=zS B3 b4;obtain⟨Ab,Ap⟩:=z6 b4 Ae Ad;clear b4 B3 Ae Al Am Ad An Ao;obtain⟨Aq,Ar⟩:=zC Ab;obtain⟨As,At⟩:=zC Ap;have q0:=fz (k:=0) Ab;have q1:=fz (k:=1) Ab;obtain⟨E0,E1⟩:=zQ Ab (.int .u64 u) (.int .u64 v);go_wp2
 exact bodyPost_ret (v:=.tuple #[.agg #[.int .u64 u,.int .u64 v],.int .u8 5,.int .i64 0]) (by simp [results,Tryz.results76,go_sem,E0,E1]) rfl ⟨rfl,zN B4 (by first|exact Nat.le_refl _|omega|(have:=S3.out;have:=Ak.out;omega)) _ _⟩
theorem ro_over_inf (f m:Int)(neg:Bool)(i j u v:Nat)(w:World)(KC:zZ 77 #[.int .u8 f,.int .u8 m] (.int .i64 0))
  (KG:xK 132 #[.int .u8 f,.bool neg] (.agg #[.int .u64 i,.int .u64 j]))
  (KU:zZ 133 #[.int .u8 m,.bool neg,.bool false,.int .i64 1,.bool false] (.bool true))
  (KI:xK 26 #[.int .u8 f,.bool neg] (.agg #[.int .u64 u,.int .u64 v])) (hT:y6 w):Calls Tryz.prog 76 #[.int .u8 f,.int .u8 m,.bool neg] w fun r w'=>r=.returned (.tuple #[.agg #[.int .u64 u,.int .u64 v],.int .u8 5,.int .i64 0])/\Below w.heap.size w w':=by
 have FF:=zJ hT;clear hT;obtain⟨Aj,B0⟩:=yR w (Obj.cells #[.int .u64 0,.int .u64 0] 26)
 go_enter Tryz.func76,Tryz.ntmps76
 go_wp2_with fail
 refine (KC.out _).mono ?_;rintro r w1 ⟨rfl,b1⟩;have B1:=zS B0 b1;have Ae:=zA b1 _ _ _ Aj;clear b1 B0 Aj;obtain⟨Al,Am⟩:=zC Ae;go_wp2_with fail
 refine (KG.out _ (z7 FF.out B1)).mono ?_;rintro r w2 ⟨rfl,b2⟩;have B2:=zS B1 b2;have Aa:=zA b2 _ _ _ Ae;clear b2 B1 Ae Al Am;obtain⟨An,Ao⟩:=zC Aa;have S3:=zJ B2.size;have Ab:=yC Aa;have Af:=heap_alloc_last w2 (Obj.cells #[.int .u64 i,.int .u64 j] 26);have B3:=zS B2 (yK w2 (Obj.cells #[.int .u64 i,.int .u64 j] 26));have Ag:=zA (yK w2 (Obj.cells #[.int .u64 i,.int .u64 j] 26)) _ _ _ Aa;clear B2 Aa An Ao;obtain⟨Ap,Aq⟩:=zC Ag;obtain⟨Ar,As⟩:=zC Af;go_wp2_with fail
 refine (KU.out _).mono ?_;rintro r w4 ⟨rfl,b4⟩;have B4:=zS B3 b4;obtain⟨Ah,Ai⟩:=z6 b4 Ag Af;clear b4 B3 Ag Ap Aq Af Ar As;obtain⟨At,Au⟩:=zC Ah;obtain⟨Av,Aw⟩:=zC Ai;go_wp2_with fail
 refine (KI.out _ (z7 FF.out B4)).mono ?_;rintro r w5 ⟨rfl,b5⟩;have B5:=zS B4 b5;obtain⟨Ak,Ac⟩:=z6 b5 Ah Ai;clear b5 B4 Ah At Au Ai Av Aw;obtain⟨Ay,Az⟩:=zC Ak;obtain⟨AA,AB⟩:=zC Ac;have q0_6:=fz (k:=0) Ac;have q1_6:=fz (k:=1) Ac;have B6:=zN B5 (show w.heap.size<=w2.heap.size by first|exact Nat.le_refl _|omega|(have:=S3.out;have:=Ab.out;omega)) (.int .u64 u) (.int .u64 v);have Ax:((w5.setCell ⟨w2.heap.size,0,none⟩ (.int .u64 u)).setCell ⟨w2.heap.size,1,none⟩ (.int .u64 v)).heap[w2.heap.size]?=some (.cells #[.int .u64 u,.int .u64 v] 26):=qS Ac _ _;have Ad:((w5.setCell ⟨w2.heap.size,0,none⟩ (.int .u64 u)).setCell ⟨w2.heap.size,1,none⟩ (.int .u64 v)).heap[w.heap.size]?=some (.cells #[.int .u64 0,.int .u64 0] 26):=(zF (by first|omega|(have:=S3.out;have:=Ab.out;omega))).trans ((zF (by first|omega|(have:=S3.out;have:=Ab.out;omega))).trans Ak);obtain⟨AC,AD⟩:=zC Ad;obtain⟨AE,AF⟩:=zC Ax;have q0:=fz (k:=0) Ad;have q1:=fz (k:=1) Ad;obtain⟨E0,E1⟩:=zQ Ad (.int .u64 u) (.int .u64 v);go_wp2
 exact bodyPost_ret (v:=.tuple #[.agg #[.int .u64 u,.int .u64 v],.int .u8 5,.int .i64 0]) (by simp [results,Tryz.results76,go_sem,E0,E1]) rfl ⟨rfl,zN B6 (by first|exact Nat.le_refl _|omega|(have:=S3.out;have:=Ab.out;omega)) _ _⟩
end Go.Proofs.YtapikkbifdldfaaGreatDoor
