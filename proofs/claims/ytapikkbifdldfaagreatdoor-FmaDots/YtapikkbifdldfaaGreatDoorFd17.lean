/-
  What the functions that the statement reaches return: part 17 (R8).
-/
import Derived.Deep.RegionHeld3
import Derived.Test.YtapikkbifdldfaaGreatDoorFd16
namespace Go.Proofs.YtapikkbifdldfaaGreatDoor
set_option maxRecDepth 100000
set_option maxHeartbeats 40000000
open Go.RowKit WMath XMath
set_option linter.unusedSimpArgs false
set_option linter.unusedVariables false
theorem rf_last (n:Nat)(s:ByteArray)(o:Bool)(hs:yN n=s)(hl:nl n<=16384)(ho:decide (n % 2=1)=o)(w:World):Calls Tryz.prog 202 #[.string s] w fun r w'=>r=.returned (.bool o)/\Below w.heap.size w w':=by
 by_cases h0:n=0
 ·
  subst h0;rw [yX] at hs;subst hs;have e:o=false:=by rw [<-ho];rfl
  subst e;clear ho hl;have B0:Below w.heap.size w w:=(Below.refl _ _)
  go_enter Tryz.func202,Tryz.ntmps202
  go_wp2
  go_ret
  exact⟨rfl,B0⟩
 ·
  have d0:=eq_nil n s hs h0;obtain⟨L,hL⟩:∃ L,nl n=L:=⟨_,rfl⟩;have hz:s.size=L:=by rw [<-hs,yF,hL]
  have L0:0<L:=by rw [<-hL];exact jG n h0
  have hk:L-1<s.size:=by omega
  obtain⟨x,hx⟩:∃ x,(s[L-1]'hk).toNat=x:=⟨_,rfl⟩
  have hxd:n % 256=x:=by
   rw [<-hx];subst hs;rw [nbA_get,hL,show L-1-(L-1)=0 by omega]
   unfold d8
   rw [Nat.mul_zero,Nat.pow_zero,Nat.div_one]
  have x256:x<256:=by omega
  have hxr:=idx_run s (L-1) ((L:Int)-1) x (by omega) hk hx;have n1:IntKind.i64.wrap ((L:Int)-1)=(L:Int)-1:=zR _ (by omega) (by omega);have ha:=and1 x x256;obtain⟨y,hy⟩:∃ y,x % 2=y:=⟨_,rfl⟩;rw [hy] at ha
  have hc:((y:Int) == 1)=o:=by
   rw [<-ho,Bool.eq_iff_iff,beq_iff_eq,decide_eq_true_iff];omega
  have Aa:decide (y=1)=o:=by
   rw [<-ho,Bool.eq_iff_iff,decide_eq_true_iff,decide_eq_true_iff];omega
  clear hs hL hx hxd hy ho;have B0:Below w.heap.size w w:=(Below.refl _ _)
  go_enter Tryz.func202,Tryz.ntmps202
  go_wp2
  go_ret
  exact⟨rfl,B0⟩
theorem rf_find_ex (b:Bool)(s t:ByteArray)(e A A2 A3 e1 e2:Int)(n1 m fi n2 q1 q2:ByteArray)(w:World)
  (K1:zZ 201 #[.agg #[.bool b,.string s,.string t,.int .i64 e],.int .i64 A] (.tuple #[.string m,.bool true,.int .i64 e1]))
  : Calls Tryz.prog 162 #[.agg #[.bool b,.string s,.string t,.int .i64 e],.bool false,.int .i64 A] w fun r w'=>r=.returned (.agg #[.string m,.int .i64 A,.int .i64 (-1),.bool true])/\Below w.heap.size w w':=by
 obtain⟨Ad,Ae,Af,B0⟩:=opn3 w (Obj.cells #[.bool b,.string s,.string t,.int .i64 e] 70) (Obj.cells #[.string ⟨#[]⟩,.int .i64 0,.int .i64 0,.bool false] 167) (Obj.cells #[.string ⟨#[]⟩,.int .i64 A,.int .i64 (-1),.bool false] 167)
 go_enter Tryz.func162,Tryz.ntmps162
 go_wp2_with fail
 refine (K1.out _).mono ?_;rintro r w1 ⟨rfl,b1⟩;have B1:=zS B0 b1;obtain⟨Ag,Ah,Ab⟩:=yJ b1 Ad Ae Af;clear b1 B0 Ad Ae Af;obtain⟨Am,An,Ao,Ap⟩:=zE Ag;obtain⟨Aq,Ar,As,At⟩:=zE Ah;obtain⟨Au,Av,Aw,Ax⟩:=zE Ab;have qo_1:=fz (k:=0) Ab;have B2:Below w.heap.size w (w1.setCell ⟨w.heap.size+1+1,0,none⟩ (.string m)):=B1.setCell (by first|exact Nat.le_refl _|(skip;show w.heap.size<=w.heap.size+1+1;omega)) _;have Ac:(w1.setCell ⟨w.heap.size+1+1,0,none⟩ (.string m)).heap[w.heap.size+1+1]?=some (.cells #[.string m,.int .i64 A,.int .i64 (-1),.bool false] 167):=by rw [zY Ab];rfl
 have Ai:(w1.setCell ⟨w.heap.size+1+1,0,none⟩ (.string m)).heap[w.heap.size]?=some (.cells #[.bool b,.string s,.string t,.int .i64 e] 70):=by rw [zF (by first|omega|(skip;omega))];exact Ag
 have Aj:(w1.setCell ⟨w.heap.size+1+1,0,none⟩ (.string m)).heap[w.heap.size+1]?=some (.cells #[.string ⟨#[]⟩,.int .i64 0,.int .i64 0,.bool false] 167):=by rw [zF (by first|omega|(skip;omega))];exact Ah
 obtain⟨Ay,Az,AA,AB⟩:=zE Ai;obtain⟨AC,AD,AE,AF⟩:=zE Aj;obtain⟨AG,AH,AI,AJ⟩:=zE Ac;have qo_2:=fz (k:=3) Ac;have B3:Below w.heap.size w ((w1.setCell ⟨w.heap.size+1+1,0,none⟩ (.string m)).setCell ⟨w.heap.size+1+1,3,none⟩ (.bool true)):=B2.setCell (by first|exact Nat.le_refl _|(skip;show w.heap.size<=w.heap.size+1+1;omega)) _;have Ak:((w1.setCell ⟨w.heap.size+1+1,0,none⟩ (.string m)).setCell ⟨w.heap.size+1+1,3,none⟩ (.bool true)).heap[w.heap.size+1+1]?=some (.cells #[.string m,.int .i64 A,.int .i64 (-1),.bool true] 167):=by rw [zY Ac];rfl
 have Al:((w1.setCell ⟨w.heap.size+1+1,0,none⟩ (.string m)).setCell ⟨w.heap.size+1+1,3,none⟩ (.bool true)).heap[w.heap.size]?=some (.cells #[.bool b,.string s,.string t,.int .i64 e] 70):=by rw [zF (by first|omega|(skip;omega))];exact Ai
 have Aa:((w1.setCell ⟨w.heap.size+1+1,0,none⟩ (.string m)).setCell ⟨w.heap.size+1+1,3,none⟩ (.bool true)).heap[w.heap.size+1]?=some (.cells #[.string ⟨#[]⟩,.int .i64 0,.int .i64 0,.bool false] 167):=by rw [zF (by first|omega|(skip;omega))];exact Aj
 obtain⟨AK,AL,AM,AN⟩:=zE Al;obtain⟨AO,AP,AQ,AR⟩:=zE Aa;obtain⟨AS,AT,AU,AV⟩:=zE Ak;have q0:=fz (k:=0) Aa;have q1:=fz (k:=1) Aa;have q2:=fz (k:=2) Aa;have q3:=fz (k:=3) Aa;obtain⟨E0,E1,E2,E3⟩:=yO Aa rfl (.string m) (.int .i64 A) (.int .i64 (-1)) (.bool true);go_wp2
 exact bodyPost_ret (v:=.agg #[.string m,.int .i64 A,.int .i64 (-1),.bool true]) (by simp [results,Tryz.results162,go_sem,E0,E1,E2,E3]) rfl ⟨rfl,yG B3 (by first|exact Nat.le_refl _|omega|(skip;omega)) _ _ _ _⟩
theorem rf_find_lo1 (b:Bool)(s t:ByteArray)(e A A2 A3 e1 e2:Int)(n1 m fi n2 q1 q2:ByteArray)(w:World)
  (K1:zZ 201 #[.agg #[.bool b,.string s,.string t,.int .i64 e],.int .i64 A] (.tuple #[.string m,.bool false,.int .i64 e1]))
  (K2:zZ 201 #[.agg #[.bool b,.string s,.string t,.int .i64 e],.int .i64 A2] (.tuple #[.string fi,.bool false,.int .i64 e2]))
  (KL:zZ 202 #[.string fi] (.bool false))
  (h1:IntKind.i64.wrap (A-1)=A2)
  : Calls Tryz.prog 162 #[.agg #[.bool b,.string s,.string t,.int .i64 e],.bool false,.int .i64 A] w fun r w'=>r=.returned (.agg #[.string m,.int .i64 A,.int .i64 (-1),.bool false])/\Below w.heap.size w w':=by
 obtain⟨Aj,Ak,Al,B0⟩:=opn3 w (Obj.cells #[.bool b,.string s,.string t,.int .i64 e] 70) (Obj.cells #[.string ⟨#[]⟩,.int .i64 0,.int .i64 0,.bool false] 167) (Obj.cells #[.string ⟨#[]⟩,.int .i64 A,.int .i64 (-1),.bool false] 167)
 go_enter Tryz.func162,Tryz.ntmps162
 go_wp2_with fail
 refine (K1.out _).mono ?_;rintro r w1 ⟨rfl,b1⟩;have B1:=zS B0 b1;obtain⟨Am,An,Ab⟩:=yJ b1 Aj Ak Al;clear b1 B0 Aj Ak Al;obtain⟨AQ,AR,AS,AT⟩:=zE Am;obtain⟨AU,AV,AW,AX⟩:=zE An;obtain⟨AY,AZ,A0,A1⟩:=zE Ab;have qo_1:=fz (k:=0) Ab;have B2:Below w.heap.size w (w1.setCell ⟨w.heap.size+1+1,0,none⟩ (.string m)):=B1.setCell (by first|exact Nat.le_refl _|(skip;show w.heap.size<=w.heap.size+1+1;omega)) _;have Ac:(w1.setCell ⟨w.heap.size+1+1,0,none⟩ (.string m)).heap[w.heap.size+1+1]?=some (.cells #[.string m,.int .i64 A,.int .i64 (-1),.bool false] 167):=by rw [zY Ab];rfl
 have Ao:(w1.setCell ⟨w.heap.size+1+1,0,none⟩ (.string m)).heap[w.heap.size]?=some (.cells #[.bool b,.string s,.string t,.int .i64 e] 70):=by rw [zF (by first|omega|(skip;omega))];exact Am
 have Ap:(w1.setCell ⟨w.heap.size+1+1,0,none⟩ (.string m)).heap[w.heap.size+1]?=some (.cells #[.string ⟨#[]⟩,.int .i64 0,.int .i64 0,.bool false] 167):=by rw [zF (by first|omega|(skip;omega))];exact An
 obtain⟨A4,A5,A6,A7⟩:=zE Ao;obtain⟨A8,A9,Ba,Bb⟩:=zE Ap;obtain⟨Bc,Bd,Be,Bf⟩:=zE Ac;have qo_2:=fz (k:=3) Ac;have B3:Below w.heap.size w ((w1.setCell ⟨w.heap.size+1+1,0,none⟩ (.string m)).setCell ⟨w.heap.size+1+1,3,none⟩ (.bool false)):=B2.setCell (by first|exact Nat.le_refl _|(skip;show w.heap.size<=w.heap.size+1+1;omega)) _;have Ad:((w1.setCell ⟨w.heap.size+1+1,0,none⟩ (.string m)).setCell ⟨w.heap.size+1+1,3,none⟩ (.bool false)).heap[w.heap.size+1+1]?=some (.cells #[.string m,.int .i64 A,.int .i64 (-1),.bool false] 167):=by rw [zY Ac];rfl
 have Ae:((w1.setCell ⟨w.heap.size+1+1,0,none⟩ (.string m)).setCell ⟨w.heap.size+1+1,3,none⟩ (.bool false)).heap[w.heap.size]?=some (.cells #[.bool b,.string s,.string t,.int .i64 e] 70):=by rw [zF (by first|omega|(skip;omega))];exact Ao
 have Af:((w1.setCell ⟨w.heap.size+1+1,0,none⟩ (.string m)).setCell ⟨w.heap.size+1+1,3,none⟩ (.bool false)).heap[w.heap.size+1]?=some (.cells #[.string ⟨#[]⟩,.int .i64 0,.int .i64 0,.bool false] 167):=by rw [zF (by first|omega|(skip;omega))];exact Ap
 obtain⟨Aq,Ar,As,At⟩:=zE Ae;obtain⟨Au,Av,Aw,Ax⟩:=zE Af;obtain⟨Ay,Az,AA,AB⟩:=zE Ad;go_wp2_with fail
 refine (K2.out _).mono ?_;rintro r w4 ⟨rfl,b4⟩;have B4:=zS B3 b4;obtain⟨Ag,Ah,Ai⟩:=yJ b4 Ae Af Ad;clear b4 B3 Ae Aq Ar As At Af Au Av Aw Ax Ad Ay Az AA AB;obtain⟨AC,AD,AE,AF⟩:=zE Ag;obtain⟨AG,AH,AI,AJ⟩:=zE Ah;obtain⟨AK,AL,AM,AN⟩:=zE Ai;go_wp2_with fail
 refine (KL.out _).mono ?_;rintro r w5 ⟨rfl,b5⟩;have B5:=zS B4 b5;obtain⟨AO,Aa,AP⟩:=yJ b5 Ag Ah Ai;clear b5 B4 Ag AC AD AE AF Ah AG AH AI AJ Ai AK AL AM AN;obtain⟨Bg,Bh,Bi,Bj⟩:=zE AO;obtain⟨Bk,Bl,Bm,Bn⟩:=zE Aa;obtain⟨Bo,Bp,Bq,Br⟩:=zE AP;have q0:=fz (k:=0) Aa;have q1:=fz (k:=1) Aa;have q2:=fz (k:=2) Aa;have q3:=fz (k:=3) Aa;obtain⟨E0,E1,E2,E3⟩:=yO Aa rfl (.string m) (.int .i64 A) (.int .i64 (-1)) (.bool false);go_wp2
 exact bodyPost_ret (v:=.agg #[.string m,.int .i64 A,.int .i64 (-1),.bool false]) (by simp [results,Tryz.results162,go_sem,E0,E1,E2,E3]) rfl ⟨rfl,yG B5 (by first|exact Nat.le_refl _|omega|(skip;omega)) _ _ _ _⟩
theorem rf_find_half (b:Bool)(s t:ByteArray)(e A A2 A3 e1 e2:Int)(n1 m fi n2 q1 q2:ByteArray)(w:World)
  (K1:zZ 201 #[.agg #[.bool b,.string s,.string t,.int .i64 e],.int .i64 A] (.tuple #[.string m,.bool false,.int .i64 e1]))
  (K2:zZ 201 #[.agg #[.bool b,.string s,.string t,.int .i64 e],.int .i64 A2] (.tuple #[.string fi,.bool true,.int .i64 e2]))
  (KL:zZ 202 #[.string fi] (.bool true))
  (h1:IntKind.i64.wrap (A-1)=A2)
  : Calls Tryz.prog 162 #[.agg #[.bool b,.string s,.string t,.int .i64 e],.bool false,.int .i64 A] w fun r w'=>r=.returned (.agg #[.string m,.int .i64 A,.int .i64 0,.bool false])/\Below w.heap.size w w':=by
 obtain⟨Al,Am,An,B0⟩:=opn3 w (Obj.cells #[.bool b,.string s,.string t,.int .i64 e] 70) (Obj.cells #[.string ⟨#[]⟩,.int .i64 0,.int .i64 0,.bool false] 167) (Obj.cells #[.string ⟨#[]⟩,.int .i64 A,.int .i64 (-1),.bool false] 167)
 go_enter Tryz.func162,Tryz.ntmps162
 go_wp2_with fail
 refine (K1.out _).mono ?_;rintro r w1 ⟨rfl,b1⟩;have B1:=zS B0 b1;obtain⟨Ao,Ap,Ab⟩:=yJ b1 Al Am An;clear b1 B0 Al Am An;obtain⟨AW,AX,AY,AZ⟩:=zE Ao;obtain⟨A0,A1,A4,A5⟩:=zE Ap;obtain⟨A6,A7,A8,A9⟩:=zE Ab;have qo_1:=fz (k:=0) Ab;have B2:Below w.heap.size w (w1.setCell ⟨w.heap.size+1+1,0,none⟩ (.string m)):=B1.setCell (by first|exact Nat.le_refl _|(skip;show w.heap.size<=w.heap.size+1+1;omega)) _;have Ac:(w1.setCell ⟨w.heap.size+1+1,0,none⟩ (.string m)).heap[w.heap.size+1+1]?=some (.cells #[.string m,.int .i64 A,.int .i64 (-1),.bool false] 167):=by rw [zY Ab];rfl
 have Aq:(w1.setCell ⟨w.heap.size+1+1,0,none⟩ (.string m)).heap[w.heap.size]?=some (.cells #[.bool b,.string s,.string t,.int .i64 e] 70):=by rw [zF (by first|omega|(skip;omega))];exact Ao
 have Ar:(w1.setCell ⟨w.heap.size+1+1,0,none⟩ (.string m)).heap[w.heap.size+1]?=some (.cells #[.string ⟨#[]⟩,.int .i64 0,.int .i64 0,.bool false] 167):=by rw [zF (by first|omega|(skip;omega))];exact Ap
 obtain⟨Ba,Bb,Bc,Bd⟩:=zE Aq;obtain⟨Be,Bf,Bg,Bh⟩:=zE Ar;obtain⟨Bi,Bj,Bk,Bl⟩:=zE Ac;have qo_2:=fz (k:=3) Ac;have B3:Below w.heap.size w ((w1.setCell ⟨w.heap.size+1+1,0,none⟩ (.string m)).setCell ⟨w.heap.size+1+1,3,none⟩ (.bool false)):=B2.setCell (by first|exact Nat.le_refl _|(skip;show w.heap.size<=w.heap.size+1+1;omega)) _;have Ad:((w1.setCell ⟨w.heap.size+1+1,0,none⟩ (.string m)).setCell ⟨w.heap.size+1+1,3,none⟩ (.bool false)).heap[w.heap.size+1+1]?=some (.cells #[.string m,.int .i64 A,.int .i64 (-1),.bool false] 167):=by rw [zY Ac];rfl
 have Ae:((w1.setCell ⟨w.heap.size+1+1,0,none⟩ (.string m)).setCell ⟨w.heap.size+1+1,3,none⟩ (.bool false)).heap[w.heap.size]?=some (.cells #[.bool b,.string s,.string t,.int .i64 e] 70):=by rw [zF (by first|omega|(skip;omega))];exact Aq
 have Af:((w1.setCell ⟨w.heap.size+1+1,0,none⟩ (.string m)).setCell ⟨w.heap.size+1+1,3,none⟩ (.bool false)).heap[w.heap.size+1]?=some (.cells #[.string ⟨#[]⟩,.int .i64 0,.int .i64 0,.bool false] 167):=by rw [zF (by first|omega|(skip;omega))];exact Ar
 obtain⟨Aw,Ax,Ay,Az⟩:=zE Ae;obtain⟨AA,AB,AC,AD⟩:=zE Af;obtain⟨AE,AF,AG,AH⟩:=zE Ad;go_wp2_with fail
 refine (K2.out _).mono ?_;rintro r w4 ⟨rfl,b4⟩;have B4:=zS B3 b4;obtain⟨Ag,Ah,Ai⟩:=yJ b4 Ae Af Ad;clear b4 B3 Ae Aw Ax Ay Az Af AA AB AC AD Ad AE AF AG AH;obtain⟨AI,AJ,AK,AL⟩:=zE Ag;obtain⟨AM,AN,AO,AP⟩:=zE Ah;obtain⟨AQ,AR,AS,AT⟩:=zE Ai;go_wp2_with fail
 refine (KL.out _).mono ?_;rintro r w5 ⟨rfl,b5⟩;have B5:=zS B4 b5;obtain⟨As,At,Aj⟩:=yJ b5 Ag Ah Ai;clear b5 B4 Ag AI AJ AK AL Ah AM AN AO AP Ai AQ AR AS AT;obtain⟨Bm,Bn,Bo,Bp⟩:=zE As;obtain⟨Bq,Br,Bs,Bt⟩:=zE At;obtain⟨Bu,Bv,Bw,Bx⟩:=zE Aj;have qo_5:=fz (k:=2) Aj;have B6:Below w.heap.size w (w5.setCell ⟨w.heap.size+1+1,2,none⟩ (.int .i64 1)):=B5.setCell (by first|exact Nat.le_refl _|(skip;show w.heap.size<=w.heap.size+1+1;omega)) _;have Ak:(w5.setCell ⟨w.heap.size+1+1,2,none⟩ (.int .i64 1)).heap[w.heap.size+1+1]?=some (.cells #[.string m,.int .i64 A,.int .i64 1,.bool false] 167):=by rw [zY Aj];rfl
 have Au:(w5.setCell ⟨w.heap.size+1+1,2,none⟩ (.int .i64 1)).heap[w.heap.size]?=some (.cells #[.bool b,.string s,.string t,.int .i64 e] 70):=by rw [zF (by first|omega|(skip;omega))];exact As
 have Av:(w5.setCell ⟨w.heap.size+1+1,2,none⟩ (.int .i64 1)).heap[w.heap.size+1]?=some (.cells #[.string ⟨#[]⟩,.int .i64 0,.int .i64 0,.bool false] 167):=by rw [zF (by first|omega|(skip;omega))];exact At
 obtain⟨By,Bz,BA,BB⟩:=zE Au;obtain⟨BC,BD,BE,BF⟩:=zE Av;obtain⟨BG,BH,BI,BJ⟩:=zE Ak;have qo_6:=fz (k:=2) Ak;have B7:Below w.heap.size w ((w5.setCell ⟨w.heap.size+1+1,2,none⟩ (.int .i64 1)).setCell ⟨w.heap.size+1+1,2,none⟩ (.int .i64 0)):=B6.setCell (by first|exact Nat.le_refl _|(skip;show w.heap.size<=w.heap.size+1+1;omega)) _;have AU:((w5.setCell ⟨w.heap.size+1+1,2,none⟩ (.int .i64 1)).setCell ⟨w.heap.size+1+1,2,none⟩ (.int .i64 0)).heap[w.heap.size+1+1]?=some (.cells #[.string m,.int .i64 A,.int .i64 0,.bool false] 167):=by rw [zY Ak];rfl
 have AV:((w5.setCell ⟨w.heap.size+1+1,2,none⟩ (.int .i64 1)).setCell ⟨w.heap.size+1+1,2,none⟩ (.int .i64 0)).heap[w.heap.size]?=some (.cells #[.bool b,.string s,.string t,.int .i64 e] 70):=by rw [zF (by first|omega|(skip;omega))];exact Au
 have Aa:((w5.setCell ⟨w.heap.size+1+1,2,none⟩ (.int .i64 1)).setCell ⟨w.heap.size+1+1,2,none⟩ (.int .i64 0)).heap[w.heap.size+1]?=some (.cells #[.string ⟨#[]⟩,.int .i64 0,.int .i64 0,.bool false] 167):=by rw [zF (by first|omega|(skip;omega))];exact Av
 obtain⟨BK,BL,BM,BN⟩:=zE AV;obtain⟨BO,BP,BQ,BR⟩:=zE Aa;obtain⟨BS,BT,BU,BV⟩:=zE AU;have q0:=fz (k:=0) Aa;have q1:=fz (k:=1) Aa;have q2:=fz (k:=2) Aa;have q3:=fz (k:=3) Aa;obtain⟨E0,E1,E2,E3⟩:=yO Aa rfl (.string m) (.int .i64 A) (.int .i64 0) (.bool false);go_wp2
 exact bodyPost_ret (v:=.agg #[.string m,.int .i64 A,.int .i64 0,.bool false]) (by simp [results,Tryz.results162,go_sem,E0,E1,E2,E3]) rfl ⟨rfl,yG B7 (by first|exact Nat.le_refl _|omega|(skip;omega)) _ _ _ _⟩
theorem rf_find_hi (b:Bool)(s t:ByteArray)(e A A2 A3 e1 e2:Int)(n1 m fi n2 q1 q2:ByteArray)(w:World)
  (K1:zZ 201 #[.agg #[.bool b,.string s,.string t,.int .i64 e],.int .i64 A] (.tuple #[.string m,.bool false,.int .i64 e1]))
  (K2:zZ 201 #[.agg #[.bool b,.string s,.string t,.int .i64 e],.int .i64 A2] (.tuple #[.string fi,.bool false,.int .i64 e2]))
  (KL:zZ 202 #[.string fi] (.bool true))
  (h1:IntKind.i64.wrap (A-1)=A2)
  : Calls Tryz.prog 162 #[.agg #[.bool b,.string s,.string t,.int .i64 e],.bool false,.int .i64 A] w fun r w'=>r=.returned (.agg #[.string m,.int .i64 A,.int .i64 1,.bool false])/\Below w.heap.size w w':=by
 obtain⟨Ak,Al,Am,B0⟩:=opn3 w (Obj.cells #[.bool b,.string s,.string t,.int .i64 e] 70) (Obj.cells #[.string ⟨#[]⟩,.int .i64 0,.int .i64 0,.bool false] 167) (Obj.cells #[.string ⟨#[]⟩,.int .i64 A,.int .i64 (-1),.bool false] 167)
 go_enter Tryz.func162,Tryz.ntmps162
 go_wp2_with fail
 refine (K1.out _).mono ?_;rintro r w1 ⟨rfl,b1⟩;have B1:=zS B0 b1;obtain⟨An,Ao,Ab⟩:=yJ b1 Ak Al Am;clear b1 B0 Ak Al Am;obtain⟨AT,AU,AV,AW⟩:=zE An;obtain⟨AX,AY,AZ,A0⟩:=zE Ao;obtain⟨A1,A4,A5,A6⟩:=zE Ab;have qo_1:=fz (k:=0) Ab;have B2:Below w.heap.size w (w1.setCell ⟨w.heap.size+1+1,0,none⟩ (.string m)):=B1.setCell (by first|exact Nat.le_refl _|(skip;show w.heap.size<=w.heap.size+1+1;omega)) _;have Ac:(w1.setCell ⟨w.heap.size+1+1,0,none⟩ (.string m)).heap[w.heap.size+1+1]?=some (.cells #[.string m,.int .i64 A,.int .i64 (-1),.bool false] 167):=by rw [zY Ab];rfl
 have Ap:(w1.setCell ⟨w.heap.size+1+1,0,none⟩ (.string m)).heap[w.heap.size]?=some (.cells #[.bool b,.string s,.string t,.int .i64 e] 70):=by rw [zF (by first|omega|(skip;omega))];exact An
 have Aq:(w1.setCell ⟨w.heap.size+1+1,0,none⟩ (.string m)).heap[w.heap.size+1]?=some (.cells #[.string ⟨#[]⟩,.int .i64 0,.int .i64 0,.bool false] 167):=by rw [zF (by first|omega|(skip;omega))];exact Ao
 obtain⟨A7,A8,A9,Ba⟩:=zE Ap;obtain⟨Bb,Bc,Bd,Be⟩:=zE Aq;obtain⟨Bf,Bg,Bh,Bi⟩:=zE Ac;have qo_2:=fz (k:=3) Ac;have B3:Below w.heap.size w ((w1.setCell ⟨w.heap.size+1+1,0,none⟩ (.string m)).setCell ⟨w.heap.size+1+1,3,none⟩ (.bool false)):=B2.setCell (by first|exact Nat.le_refl _|(skip;show w.heap.size<=w.heap.size+1+1;omega)) _;have Ad:((w1.setCell ⟨w.heap.size+1+1,0,none⟩ (.string m)).setCell ⟨w.heap.size+1+1,3,none⟩ (.bool false)).heap[w.heap.size+1+1]?=some (.cells #[.string m,.int .i64 A,.int .i64 (-1),.bool false] 167):=by rw [zY Ac];rfl
 have Ae:((w1.setCell ⟨w.heap.size+1+1,0,none⟩ (.string m)).setCell ⟨w.heap.size+1+1,3,none⟩ (.bool false)).heap[w.heap.size]?=some (.cells #[.bool b,.string s,.string t,.int .i64 e] 70):=by rw [zF (by first|omega|(skip;omega))];exact Ap
 have Af:((w1.setCell ⟨w.heap.size+1+1,0,none⟩ (.string m)).setCell ⟨w.heap.size+1+1,3,none⟩ (.bool false)).heap[w.heap.size+1]?=some (.cells #[.string ⟨#[]⟩,.int .i64 0,.int .i64 0,.bool false] 167):=by rw [zF (by first|omega|(skip;omega))];exact Aq
 obtain⟨At,Au,Av,Aw⟩:=zE Ae;obtain⟨Ax,Ay,Az,AA⟩:=zE Af;obtain⟨AB,AC,AD,AE⟩:=zE Ad;go_wp2_with fail
 refine (K2.out _).mono ?_;rintro r w4 ⟨rfl,b4⟩;have B4:=zS B3 b4;obtain⟨Ag,Ah,Ai⟩:=yJ b4 Ae Af Ad;clear b4 B3 Ae At Au Av Aw Af Ax Ay Az AA Ad AB AC AD AE;obtain⟨AF,AG,AH,AI⟩:=zE Ag;obtain⟨AJ,AK,AL,AM⟩:=zE Ah;obtain⟨AN,AO,AP,AQ⟩:=zE Ai;go_wp2_with fail
 refine (KL.out _).mono ?_;rintro r w5 ⟨rfl,b5⟩;have B5:=zS B4 b5;obtain⟨Ar,As,Aj⟩:=yJ b5 Ag Ah Ai;clear b5 B4 Ag AF AG AH AI Ah AJ AK AL AM Ai AN AO AP AQ;obtain⟨Bj,Bk,Bl,Bm⟩:=zE Ar;obtain⟨Bn,Bo,Bp,Bq⟩:=zE As;obtain⟨Br,Bs,Bt,Bu⟩:=zE Aj;have qo_5:=fz (k:=2) Aj;have B6:Below w.heap.size w (w5.setCell ⟨w.heap.size+1+1,2,none⟩ (.int .i64 1)):=B5.setCell (by first|exact Nat.le_refl _|(skip;show w.heap.size<=w.heap.size+1+1;omega)) _;have AR:(w5.setCell ⟨w.heap.size+1+1,2,none⟩ (.int .i64 1)).heap[w.heap.size+1+1]?=some (.cells #[.string m,.int .i64 A,.int .i64 1,.bool false] 167):=by rw [zY Aj];rfl
 have AS:(w5.setCell ⟨w.heap.size+1+1,2,none⟩ (.int .i64 1)).heap[w.heap.size]?=some (.cells #[.bool b,.string s,.string t,.int .i64 e] 70):=by rw [zF (by first|omega|(skip;omega))];exact Ar
 have Aa:(w5.setCell ⟨w.heap.size+1+1,2,none⟩ (.int .i64 1)).heap[w.heap.size+1]?=some (.cells #[.string ⟨#[]⟩,.int .i64 0,.int .i64 0,.bool false] 167):=by rw [zF (by first|omega|(skip;omega))];exact As
 obtain⟨Bv,Bw,Bx,By⟩:=zE AS;obtain⟨Bz,BA,BB,BC⟩:=zE Aa;obtain⟨BD,BE,BF,BG⟩:=zE AR;have q0:=fz (k:=0) Aa;have q1:=fz (k:=1) Aa;have q2:=fz (k:=2) Aa;have q3:=fz (k:=3) Aa;obtain⟨E0,E1,E2,E3⟩:=yO Aa rfl (.string m) (.int .i64 A) (.int .i64 1) (.bool false);go_wp2
 exact bodyPost_ret (v:=.agg #[.string m,.int .i64 A,.int .i64 1,.bool false]) (by simp [results,Tryz.results162,go_sem,E0,E1,E2,E3]) rfl ⟨rfl,yG B6 (by first|exact Nat.le_refl _|omega|(skip;omega)) _ _ _ _⟩
theorem rf_up (m:Int)(hm:0<=m/\m<=4)(neg odd half more o:Bool)(M:ByteArray)(A H:Int)(ex:Bool)(hH:hfV half more=H)(hx:(!(half || more))=ex)(ho:gO m neg odd half more=o)(w:World)
  (KL:zZ 202 #[.string M] (.bool odd)):Calls Tryz.prog 204 #[.int .u8 m,.bool neg,.agg #[.string M,.int .i64 A,.int .i64 H,.bool ex]] w fun r w'=>r=.returned (.bool o)/\Below w.heap.size w w':=by
 subst hH hx ho;have c:m=0∨m=1∨m=2∨m=3∨m=4:=by omega
 clear hm
 cases half <;> cases more
 ·
  clear KL;have e0:gO m neg odd false false=false:=by rcases c with rfl|rfl|rfl|rfl|rfl <;> rfl
  rw [e0]
  show Calls Tryz.prog 204 #[.int .u8 m,.bool neg,.agg #[.string M,.int .i64 A,.int .i64 (-1),.bool true]] w fun r w'=>r=.returned (.bool false)/\Below w.heap.size w w'
  obtain⟨Aa,B0⟩:=yR w (Obj.cells #[.string M,.int .i64 A,.int .i64 (-1),.bool true] 167)
  go_enter Tryz.func204,Tryz.ntmps204
  go_wp2
  go_ret
  exact⟨rfl,B0⟩
 ·
  rcases c with rfl|rfl|rfl|rfl|rfl
  ·
   show Calls Tryz.prog 204 #[.int .u8 0,.bool neg,.agg #[.string M,.int .i64 A,.int .i64 (-1),.bool false]] w fun r w'=>r=.returned (.bool false)/\Below w.heap.size w w'
   obtain⟨Aa,B0⟩:=yR w (Obj.cells #[.string M,.int .i64 A,.int .i64 (-1),.bool false] 167)
   go_enter Tryz.func204,Tryz.ntmps204
   go_wp2
   go_ret
   exact⟨rfl,B0⟩
  ·
   show Calls Tryz.prog 204 #[.int .u8 1,.bool neg,.agg #[.string M,.int .i64 A,.int .i64 (-1),.bool false]] w fun r w'=>r=.returned (.bool false)/\Below w.heap.size w w'
   obtain⟨Aa,B0⟩:=yR w (Obj.cells #[.string M,.int .i64 A,.int .i64 (-1),.bool false] 167)
   go_enter Tryz.func204,Tryz.ntmps204
   go_wp2
   go_ret
   exact⟨rfl,B0⟩
  ·
   show Calls Tryz.prog 204 #[.int .u8 2,.bool neg,.agg #[.string M,.int .i64 A,.int .i64 (-1),.bool false]] w fun r w'=>r=.returned (.bool neg)/\Below w.heap.size w w'
   obtain⟨Aa,B0⟩:=yR w (Obj.cells #[.string M,.int .i64 A,.int .i64 (-1),.bool false] 167)
   go_enter Tryz.func204,Tryz.ntmps204
   go_wp2
   go_ret
   exact⟨rfl,B0⟩
  ·
   show Calls Tryz.prog 204 #[.int .u8 3,.bool neg,.agg #[.string M,.int .i64 A,.int .i64 (-1),.bool false]] w fun r w'=>r=.returned (.bool (!neg))/\Below w.heap.size w w'
   obtain⟨Aa,B0⟩:=yR w (Obj.cells #[.string M,.int .i64 A,.int .i64 (-1),.bool false] 167)
   go_enter Tryz.func204,Tryz.ntmps204
   go_wp2
   go_ret
   exact⟨rfl,B0⟩
  ·
   show Calls Tryz.prog 204 #[.int .u8 4,.bool neg,.agg #[.string M,.int .i64 A,.int .i64 (-1),.bool false]] w fun r w'=>r=.returned (.bool false)/\Below w.heap.size w w'
   obtain⟨Aa,B0⟩:=yR w (Obj.cells #[.string M,.int .i64 A,.int .i64 (-1),.bool false] 167)
   go_enter Tryz.func204,Tryz.ntmps204
   go_wp2
   go_ret
   exact⟨rfl,B0⟩
 ·
  rcases c with rfl|rfl|rfl|rfl|rfl
  ·
   show Calls Tryz.prog 204 #[.int .u8 0,.bool neg,.agg #[.string M,.int .i64 A,.int .i64 0,.bool false]] w fun r w'=>r=.returned (.bool odd)/\Below w.heap.size w w'
   obtain⟨Aa,B0⟩:=yR w (Obj.cells #[.string M,.int .i64 A,.int .i64 0,.bool false] 167)
   go_enter Tryz.func204,Tryz.ntmps204
   go_wp2_with fail
   refine (KL.out _).mono ?_;rintro r w1 ⟨rfl,b1⟩;have B1:=zS B0 b1;have Ab:=zA b1 _ _ _ Aa;clear b1 B0 Aa;obtain⟨Ac,Ad,Ae,Af⟩:=zE Ab;go_wp2
   go_ret
   exact⟨rfl,B1⟩
  ·
   show Calls Tryz.prog 204 #[.int .u8 1,.bool neg,.agg #[.string M,.int .i64 A,.int .i64 0,.bool false]] w fun r w'=>r=.returned (.bool false)/\Below w.heap.size w w'
   obtain⟨Aa,B0⟩:=yR w (Obj.cells #[.string M,.int .i64 A,.int .i64 0,.bool false] 167)
   go_enter Tryz.func204,Tryz.ntmps204
   go_wp2
   go_ret
   exact⟨rfl,B0⟩
  ·
   show Calls Tryz.prog 204 #[.int .u8 2,.bool neg,.agg #[.string M,.int .i64 A,.int .i64 0,.bool false]] w fun r w'=>r=.returned (.bool neg)/\Below w.heap.size w w'
   obtain⟨Aa,B0⟩:=yR w (Obj.cells #[.string M,.int .i64 A,.int .i64 0,.bool false] 167)
   go_enter Tryz.func204,Tryz.ntmps204
   go_wp2
   go_ret
   exact⟨rfl,B0⟩
  ·
   show Calls Tryz.prog 204 #[.int .u8 3,.bool neg,.agg #[.string M,.int .i64 A,.int .i64 0,.bool false]] w fun r w'=>r=.returned (.bool (!neg))/\Below w.heap.size w w'
   obtain⟨Aa,B0⟩:=yR w (Obj.cells #[.string M,.int .i64 A,.int .i64 0,.bool false] 167)
   go_enter Tryz.func204,Tryz.ntmps204
   go_wp2
   go_ret
   exact⟨rfl,B0⟩
  ·
   show Calls Tryz.prog 204 #[.int .u8 4,.bool neg,.agg #[.string M,.int .i64 A,.int .i64 0,.bool false]] w fun r w'=>r=.returned (.bool true)/\Below w.heap.size w w'
   obtain⟨Aa,B0⟩:=yR w (Obj.cells #[.string M,.int .i64 A,.int .i64 0,.bool false] 167)
   go_enter Tryz.func204,Tryz.ntmps204
   go_wp2
   go_ret
   exact⟨rfl,B0⟩
 ·
  rcases c with rfl|rfl|rfl|rfl|rfl
  ·
   show Calls Tryz.prog 204 #[.int .u8 0,.bool neg,.agg #[.string M,.int .i64 A,.int .i64 1,.bool false]] w fun r w'=>r=.returned (.bool true)/\Below w.heap.size w w'
   obtain⟨Aa,B0⟩:=yR w (Obj.cells #[.string M,.int .i64 A,.int .i64 1,.bool false] 167)
   go_enter Tryz.func204,Tryz.ntmps204
   go_wp2
   go_ret
   exact⟨rfl,B0⟩
  ·
   show Calls Tryz.prog 204 #[.int .u8 1,.bool neg,.agg #[.string M,.int .i64 A,.int .i64 1,.bool false]] w fun r w'=>r=.returned (.bool false)/\Below w.heap.size w w'
   obtain⟨Aa,B0⟩:=yR w (Obj.cells #[.string M,.int .i64 A,.int .i64 1,.bool false] 167)
   go_enter Tryz.func204,Tryz.ntmps204
   go_wp2
   go_ret
   exact⟨rfl,B0⟩
  ·
   show Calls Tryz.prog 204 #[.int .u8 2,.bool neg,.agg #[.string M,.int .i64 A,.int .i64 1,.bool false]] w fun r w'=>r=.returned (.bool neg)/\Below w.heap.size w w'
   obtain⟨Aa,B0⟩:=yR w (Obj.cells #[.string M,.int .i64 A,.int .i64 1,.bool false] 167)
   go_enter Tryz.func204,Tryz.ntmps204
   go_wp2
   go_ret
   exact⟨rfl,B0⟩
  ·
   show Calls Tryz.prog 204 #[.int .u8 3,.bool neg,.agg #[.string M,.int .i64 A,.int .i64 1,.bool false]] w fun r w'=>r=.returned (.bool (!neg))/\Below w.heap.size w w'
   obtain⟨Aa,B0⟩:=yR w (Obj.cells #[.string M,.int .i64 A,.int .i64 1,.bool false] 167)
   go_enter Tryz.func204,Tryz.ntmps204
   go_wp2
   go_ret
   exact⟨rfl,B0⟩
  ·
   show Calls Tryz.prog 204 #[.int .u8 4,.bool neg,.agg #[.string M,.int .i64 A,.int .i64 1,.bool false]] w fun r w'=>r=.returned (.bool true)/\Below w.heap.size w w'
   obtain⟨Aa,B0⟩:=yR w (Obj.cells #[.string M,.int .i64 A,.int .i64 1,.bool false] 167)
   go_enter Tryz.func204,Tryz.ntmps204
   go_wp2
   go_ret
   exact⟨rfl,B0⟩
theorem rf_taken (m:Int)(neg o:Bool)(M M' rs:ByteArray)(A H e1:Int)(ex:Bool)(w:World)
  (KU:zZ 204 #[.int .u8 m,.bool neg,.agg #[.string M,.int .i64 A,.int .i64 H,.bool ex]] (.bool o))
  (KA:zW (o=true->∀ w,Calls Tryz.prog 109 #[.string M,.string ⟨#[1]⟩] w fun r w'=>r=.returned (.tuple #[.string M',.int .i64 e1])/\Below w.heap.size w w'))
  (hr:(if o=true then M' else M)=rs):Calls Tryz.prog 163 #[.int .u8 m,.bool neg,.agg #[.string M,.int .i64 A,.int .i64 H,.bool ex]] w fun r w'=>r=.returned (.string rs)/\Below w.heap.size w w':=by
 cases o
 ·
  rw [if_neg (by decide)] at hr;subst hr;clear KA;obtain⟨Aa,B0⟩:=yR w (Obj.cells #[.string M,.int .i64 A,.int .i64 H,.bool ex] 167)
  go_enter Tryz.func163,Tryz.ntmps163
  go_wp2_with fail
  refine (KU.out _).mono ?_;rintro r w1 ⟨rfl,b1⟩;have B1:=zS B0 b1;have Ab:=zA b1 _ _ _ Aa;clear b1 B0 Aa;obtain⟨Ac,Ad,Ae,Af⟩:=zE Ab;go_wp2
  go_ret
  exact⟨rfl,B1⟩
 ·
  rw [if_pos rfl] at hr;subst hr;have K5:=zJ (KA.out rfl);clear KA;obtain⟨Aa,B0⟩:=yR w (Obj.cells #[.string M,.int .i64 A,.int .i64 H,.bool ex] 167)
  go_enter Tryz.func163,Tryz.ntmps163
  go_wp2_with fail
  refine (KU.out _).mono ?_;rintro r w1 ⟨rfl,b1⟩;have B1:=zS B0 b1;have Ab:=zA b1 _ _ _ Aa;clear b1 B0 Aa;obtain⟨Ac,Ad,Ae,Af⟩:=zE Ab;go_wp2_with fail
  refine (K5.out _).mono ?_;rintro r w2 ⟨rfl,b2⟩;have B2:=zS B1 b2;have Ag:=zA b2 _ _ _ Ab;clear b2 B1 Ab Ac Ad Ae Af;obtain⟨Ah,Ai,Aj,Ak⟩:=zE Ag;go_wp2
  go_ret
  exact⟨rfl,B2⟩
theorem rf_top (b:Bool)(s t:ByteArray)(e T err:Int)(w:World)
  (KT:zZ 199 #[.agg #[.bool b,.string s,.string t,.int .i64 e]] (.tuple #[.int .i64 T,.int .i64 err])):Calls Tryz.prog 160 #[.agg #[.bool b,.string s,.string t,.int .i64 e],.bool false] w fun r w'=>r=.returned (.int .i64 T)/\Below w.heap.size w w':=by
 obtain⟨Aa,B0⟩:=yR w (Obj.cells #[.bool b,.string s,.string t,.int .i64 e] 70)
 go_enter Tryz.func160,Tryz.ntmps160
 go_wp2_with fail
 refine (KT.out _).mono ?_;rintro r w1 ⟨rfl,b1⟩;have B1:=zS B0 b1;have Ab:=zA b1 _ _ _ Aa;clear b1 B0 Aa;obtain⟨Ac,Ad,Ae,Af⟩:=zE Ab;go_wp2
 go_ret
 exact⟨rfl,B1⟩
theorem rf_over (f m:Int)(hm:0<=m/\m<=4)(neg:Bool)(u v:Nat)(w:World)
  (KI:zW (gO m neg false true true=true->∀ w,Calls Tryz.prog 46 #[.int .u8 f,.bool neg] w fun r w'=>r=.returned (.agg #[.int .u64 u,.int .u64 v])/\Below w.heap.size w w'))
  (KG:zW (gO m neg false true true=false->∀ w,Calls Tryz.prog 200 #[.int .u8 f,.bool neg] w fun r w'=>r=.returned (.agg #[.int .u64 u,.int .u64 v])/\Below w.heap.size w w'))
  : Calls Tryz.prog 161 #[.int .u8 f,.int .u8 m,.bool neg] w fun r w'=>r=.returned (.agg #[.int .u64 u,.int .u64 v])/\Below w.heap.size w w':=by
 have c:m=0∨m=1∨m=2∨m=3∨m=4:=by omega
 clear hm
 rcases c with rfl|rfl|rfl|rfl|rfl <;> cases neg
 ·
  have K5:=zJ (KI.out rfl);clear KI KG;obtain⟨Ab,B0⟩:=yR w (Obj.cells #[.int .u64 0,.int .u64 0] 26)
  go_enter Tryz.func161,Tryz.ntmps161
  go_wp2_with fail
  refine (K5.out _).mono ?_;rintro r w1 ⟨rfl,b1⟩;have B1:=zS B0 b1;have Aa:=zA b1 _ _ _ Ab;clear b1 B0 Ab;obtain⟨Ac,Ad⟩:=zC Aa;have q0:=fz (k:=0) Aa;have q1:=fz (k:=1) Aa;obtain⟨E0,E1⟩:=zQ Aa (.int .u64 u) (.int .u64 v);go_wp2
  exact bodyPost_ret (v:=.agg #[.int .u64 u,.int .u64 v]) (by simp [results,Tryz.results161,go_sem,E0,E1]) rfl ⟨rfl,zN B1 (by first|exact Nat.le_refl _|omega|(skip;omega)) _ _⟩
 ·
  have K5:=zJ (KI.out rfl);clear KI KG;obtain⟨Ab,B0⟩:=yR w (Obj.cells #[.int .u64 0,.int .u64 0] 26)
  go_enter Tryz.func161,Tryz.ntmps161
  go_wp2_with fail
  refine (K5.out _).mono ?_;rintro r w1 ⟨rfl,b1⟩;have B1:=zS B0 b1;have Aa:=zA b1 _ _ _ Ab;clear b1 B0 Ab;obtain⟨Ac,Ad⟩:=zC Aa;have q0:=fz (k:=0) Aa;have q1:=fz (k:=1) Aa;obtain⟨E0,E1⟩:=zQ Aa (.int .u64 u) (.int .u64 v);go_wp2
  exact bodyPost_ret (v:=.agg #[.int .u64 u,.int .u64 v]) (by simp [results,Tryz.results161,go_sem,E0,E1]) rfl ⟨rfl,zN B1 (by first|exact Nat.le_refl _|omega|(skip;omega)) _ _⟩
 ·
  have K5:=zJ (KG.out rfl);clear KI KG;obtain⟨Ab,B0⟩:=yR w (Obj.cells #[.int .u64 0,.int .u64 0] 26)
  go_enter Tryz.func161,Tryz.ntmps161
  go_wp2_with fail
  refine (K5.out _).mono ?_;rintro r w1 ⟨rfl,b1⟩;have B1:=zS B0 b1;have Aa:=zA b1 _ _ _ Ab;clear b1 B0 Ab;obtain⟨Ac,Ad⟩:=zC Aa;have q0:=fz (k:=0) Aa;have q1:=fz (k:=1) Aa;obtain⟨E0,E1⟩:=zQ Aa (.int .u64 u) (.int .u64 v);go_wp2
  exact bodyPost_ret (v:=.agg #[.int .u64 u,.int .u64 v]) (by simp [results,Tryz.results161,go_sem,E0,E1]) rfl ⟨rfl,zN B1 (by first|exact Nat.le_refl _|omega|(skip;omega)) _ _⟩
 ·
  have K5:=zJ (KG.out rfl);clear KI KG;obtain⟨Ab,B0⟩:=yR w (Obj.cells #[.int .u64 0,.int .u64 0] 26)
  go_enter Tryz.func161,Tryz.ntmps161
  go_wp2_with fail
  refine (K5.out _).mono ?_;rintro r w1 ⟨rfl,b1⟩;have B1:=zS B0 b1;have Aa:=zA b1 _ _ _ Ab;clear b1 B0 Ab;obtain⟨Ac,Ad⟩:=zC Aa;have q0:=fz (k:=0) Aa;have q1:=fz (k:=1) Aa;obtain⟨E0,E1⟩:=zQ Aa (.int .u64 u) (.int .u64 v);go_wp2
  exact bodyPost_ret (v:=.agg #[.int .u64 u,.int .u64 v]) (by simp [results,Tryz.results161,go_sem,E0,E1]) rfl ⟨rfl,zN B1 (by first|exact Nat.le_refl _|omega|(skip;omega)) _ _⟩
 ·
  have K5:=zJ (KG.out rfl);clear KI KG;obtain⟨Ab,B0⟩:=yR w (Obj.cells #[.int .u64 0,.int .u64 0] 26)
  go_enter Tryz.func161,Tryz.ntmps161
  go_wp2_with fail
  refine (K5.out _).mono ?_;rintro r w1 ⟨rfl,b1⟩;have B1:=zS B0 b1;have Aa:=zA b1 _ _ _ Ab;clear b1 B0 Ab;obtain⟨Ac,Ad⟩:=zC Aa;have q0:=fz (k:=0) Aa;have q1:=fz (k:=1) Aa;obtain⟨E0,E1⟩:=zQ Aa (.int .u64 u) (.int .u64 v);go_wp2
  exact bodyPost_ret (v:=.agg #[.int .u64 u,.int .u64 v]) (by simp [results,Tryz.results161,go_sem,E0,E1]) rfl ⟨rfl,zN B1 (by first|exact Nat.le_refl _|omega|(skip;omega)) _ _⟩
 ·
  have K5:=zJ (KI.out rfl);clear KI KG;obtain⟨Ab,B0⟩:=yR w (Obj.cells #[.int .u64 0,.int .u64 0] 26)
  go_enter Tryz.func161,Tryz.ntmps161
  go_wp2_with fail
  refine (K5.out _).mono ?_;rintro r w1 ⟨rfl,b1⟩;have B1:=zS B0 b1;have Aa:=zA b1 _ _ _ Ab;clear b1 B0 Ab;obtain⟨Ac,Ad⟩:=zC Aa;have q0:=fz (k:=0) Aa;have q1:=fz (k:=1) Aa;obtain⟨E0,E1⟩:=zQ Aa (.int .u64 u) (.int .u64 v);go_wp2
  exact bodyPost_ret (v:=.agg #[.int .u64 u,.int .u64 v]) (by simp [results,Tryz.results161,go_sem,E0,E1]) rfl ⟨rfl,zN B1 (by first|exact Nat.le_refl _|omega|(skip;omega)) _ _⟩
 ·
  have K5:=zJ (KI.out rfl);clear KI KG;obtain⟨Ab,B0⟩:=yR w (Obj.cells #[.int .u64 0,.int .u64 0] 26)
  go_enter Tryz.func161,Tryz.ntmps161
  go_wp2_with fail
  refine (K5.out _).mono ?_;rintro r w1 ⟨rfl,b1⟩;have B1:=zS B0 b1;have Aa:=zA b1 _ _ _ Ab;clear b1 B0 Ab;obtain⟨Ac,Ad⟩:=zC Aa;have q0:=fz (k:=0) Aa;have q1:=fz (k:=1) Aa;obtain⟨E0,E1⟩:=zQ Aa (.int .u64 u) (.int .u64 v);go_wp2
  exact bodyPost_ret (v:=.agg #[.int .u64 u,.int .u64 v]) (by simp [results,Tryz.results161,go_sem,E0,E1]) rfl ⟨rfl,zN B1 (by first|exact Nat.le_refl _|omega|(skip;omega)) _ _⟩
 ·
  have K5:=zJ (KG.out rfl);clear KI KG;obtain⟨Ab,B0⟩:=yR w (Obj.cells #[.int .u64 0,.int .u64 0] 26)
  go_enter Tryz.func161,Tryz.ntmps161
  go_wp2_with fail
  refine (K5.out _).mono ?_;rintro r w1 ⟨rfl,b1⟩;have B1:=zS B0 b1;have Aa:=zA b1 _ _ _ Ab;clear b1 B0 Ab;obtain⟨Ac,Ad⟩:=zC Aa;have q0:=fz (k:=0) Aa;have q1:=fz (k:=1) Aa;obtain⟨E0,E1⟩:=zQ Aa (.int .u64 u) (.int .u64 v);go_wp2
  exact bodyPost_ret (v:=.agg #[.int .u64 u,.int .u64 v]) (by simp [results,Tryz.results161,go_sem,E0,E1]) rfl ⟨rfl,zN B1 (by first|exact Nat.le_refl _|omega|(skip;omega)) _ _⟩
 ·
  have K5:=zJ (KI.out rfl);clear KI KG;obtain⟨Ab,B0⟩:=yR w (Obj.cells #[.int .u64 0,.int .u64 0] 26)
  go_enter Tryz.func161,Tryz.ntmps161
  go_wp2_with fail
  refine (K5.out _).mono ?_;rintro r w1 ⟨rfl,b1⟩;have B1:=zS B0 b1;have Aa:=zA b1 _ _ _ Ab;clear b1 B0 Ab;obtain⟨Ac,Ad⟩:=zC Aa;have q0:=fz (k:=0) Aa;have q1:=fz (k:=1) Aa;obtain⟨E0,E1⟩:=zQ Aa (.int .u64 u) (.int .u64 v);go_wp2
  exact bodyPost_ret (v:=.agg #[.int .u64 u,.int .u64 v]) (by simp [results,Tryz.results161,go_sem,E0,E1]) rfl ⟨rfl,zN B1 (by first|exact Nat.le_refl _|omega|(skip;omega)) _ _⟩
 ·
  have K5:=zJ (KI.out rfl);clear KI KG;obtain⟨Ab,B0⟩:=yR w (Obj.cells #[.int .u64 0,.int .u64 0] 26)
  go_enter Tryz.func161,Tryz.ntmps161
  go_wp2_with fail
  refine (K5.out _).mono ?_;rintro r w1 ⟨rfl,b1⟩;have B1:=zS B0 b1;have Aa:=zA b1 _ _ _ Ab;clear b1 B0 Ab;obtain⟨Ac,Ad⟩:=zC Aa;have q0:=fz (k:=0) Aa;have q1:=fz (k:=1) Aa;obtain⟨E0,E1⟩:=zQ Aa (.int .u64 u) (.int .u64 v);go_wp2
  exact bodyPost_ret (v:=.agg #[.int .u64 u,.int .u64 v]) (by simp [results,Tryz.results161,go_sem,E0,E1]) rfl ⟨rfl,zN B1 (by first|exact Nat.le_refl _|omega|(skip;omega)) _ _⟩
end Go.Proofs.YtapikkbifdldfaaGreatDoor
