/-
  What the functions that the statement reaches return: part 19 (R9, RA, RC).
-/
import Derived.Deep.RegionHeld3
import Derived.Test.YtapikkbifdldfaaGreatDoorFt18
namespace Go.Proofs.YtapikkbifdldfaaGreatDoor
set_option maxRecDepth 100000
set_option maxHeartbeats 40000000
open Go.RowKit WMath XMath
set_option linter.unusedSimpArgs false
set_option linter.unusedVariables false
theorem gen_abacusref09_tiny_11 {X:Act->World->Prop} {R:World->Nat->Prop} {t0 t1 t2 t3 t4 t5 t6 t7 t8 t9 t10 t12 t13 t14 t15 t16 t17 t18 t19 t20 t21 t22 t23 t24 t25 t26 t27 t28 t29 t30 t31 t32 t33 t34 t35 t36 t37 t38 t39 t40:Value} {d:List Deferred} {W:World} {G:Nat}
  (key:∀ w5 g,R w5 g->X ⟨#[t0,t1,t2,t3,t4,t5,t6,t7,t8,t9,t10,.pointer (some ⟨g,0,none⟩),t12,t13,t14,t15,t16,t17,t18,t19,t20,t21,t22,t23,t24,t25,t26,t27,t28,t29,t30,t31,t32,t33,t34,t35,t36,t37,t38,t39,t40],d⟩ w5) (r:R W G):X ⟨#[t0,t1,t2,t3,t4,t5,t6,t7,t8,t9,t10,.pointer (some ⟨G,0,none⟩),t12,t13,t14,t15,t16,t17,t18,t19,t20,t21,t22,t23,t24,t25,t26,t27,t28,t29,t30,t31,t32,t33,t34,t35,t36,t37,t38,t39,t40],d⟩ W:=key W G r
theorem qJ {X:Act->World->Prop} {R:World->Nat->Prop} {t0 t1 t2 t3 t4 t5 t6 t7 t8 t9 t10 t11 t12 t13 t15 t16 t17 t18 t19 t20 t21 t22 t23 t24 t25 t26 t27 t28 t29 t30 t31 t32 t33 t34 t35 t36 t37 t38 t39 t40 t41 t42 t43 t44 t45 t46 t47 t48 t49 t50 t51 t52 t53 t54 t55 t56 t57 t58 t59 t60 t61 t62 t63 t64 t65 t66 t67 t68 t69 t70 t71 t72 t73 t74 t75 t76 t77 t78 t79 t80 t81 t82 t83 t84 t85 t86 t87 t88:Value} {d:List Deferred} {W:World} {G:Nat}
  (key:∀ w5 g,R w5 g->X ⟨#[t0,t1,t2,t3,t4,t5,t6,t7,t8,t9,t10,t11,t12,t13,.pointer (some ⟨g,0,none⟩),t15,t16,t17,t18,t19,t20,t21,t22,t23,t24,t25,t26,t27,t28,t29,t30,t31,t32,t33,t34,t35,t36,t37,t38,t39,t40,t41,t42,t43,t44,t45,t46,t47,t48,t49,t50,t51,t52,t53,t54,t55,t56,t57,t58,t59,t60,t61,t62,t63,t64,t65,t66,t67,t68,t69,t70,t71,t72,t73,t74,t75,t76,t77,t78,t79,t80,t81,t82,t83,t84,t85,t86,t87,t88],d⟩ w5) (r:R W G):X ⟨#[t0,t1,t2,t3,t4,t5,t6,t7,t8,t9,t10,t11,t12,t13,.pointer (some ⟨G,0,none⟩),t15,t16,t17,t18,t19,t20,t21,t22,t23,t24,t25,t26,t27,t28,t29,t30,t31,t32,t33,t34,t35,t36,t37,t38,t39,t40,t41,t42,t43,t44,t45,t46,t47,t48,t49,t50,t51,t52,t53,t54,t55,t56,t57,t58,t59,t60,t61,t62,t63,t64,t65,t66,t67,t68,t69,t70,t71,t72,t73,t74,t75,t76,t77,t78,t79,t80,t81,t82,t83,t84,t85,t86,t87,t88],d⟩ W:=key W G r

theorem rf_tiny_hi (f m:Int)(b:Bool)(s t:ByteArray)(e:Int)(rt:Bool)(T I I1 P A1 A H:Int)(M rs:ByteArray)(ex o:Bool)(l:Int)(w:World)
  (KT:z6 160 #[.agg #[.bool b,.string s,.string t,.int .i64 e],.bool rt] (.int .i64 T))
  (KI:z6 150 #[.int .u8 f] (.int .i64 I))
  (h1:decide (I<=T)=true)
  : Calls Tryz.prog 165 #[.int .u8 f,.int .u8 m,.agg #[.bool b,.string s,.string t,.int .i64 e],.bool rt] w fun r w'=>r=.returned (.bool false)/\Below w.heap.size w w':=by
 obtain⟨Ab,B0⟩:=yV w (Obj.cells #[.bool b,.string s,.string t,.int .i64 e] 70)
 go_enter Tryz.func165,Tryz.ntmps165
 go_wp2_with fail
 refine (KT.out _).mono ?_;rintro r w1 ⟨rfl,b1⟩;have B1:=zV B0 b1;have Aa:=zE b1 _ _ _ Ab;clear b1 B0 Ab;obtain⟨Ac,Ad,Ae,Af⟩:=zF Aa;go_wp2_with fail
 refine (KI.out _).mono ?_;rintro r w2 ⟨rfl,b2⟩;have B2:=zV B1 b2;have Ag:=zE b2 _ _ _ Aa;clear b2 B1 Aa Ac Ad Ae Af;obtain⟨Ah,Ai,Aj,Ak⟩:=zF Ag;go_wp2
 go_ret
 exact⟨rfl,B2⟩
theorem rf_tiny_lo (f m:Int)(b:Bool)(s t:ByteArray)(e:Int)(rt:Bool)(T I I1 P A1 A H:Int)(M rs:ByteArray)(ex o:Bool)(l:Int)(w:World)
  (KT:z6 160 #[.agg #[.bool b,.string s,.string t,.int .i64 e],.bool rt] (.int .i64 T))
  (KI:z6 150 #[.int .u8 f] (.int .i64 I))
  (h1:decide (I<=T)=false) (h2:IntKind.i64.wrap (I-1)=I1) (h3:decide (T<I1)=true)
  : Calls Tryz.prog 165 #[.int .u8 f,.int .u8 m,.agg #[.bool b,.string s,.string t,.int .i64 e],.bool rt] w fun r w'=>r=.returned (.bool true)/\Below w.heap.size w w':=by
 obtain⟨Ab,B0⟩:=yV w (Obj.cells #[.bool b,.string s,.string t,.int .i64 e] 70)
 go_enter Tryz.func165,Tryz.ntmps165
 go_wp2_with fail
 refine (KT.out _).mono ?_;rintro r w1 ⟨rfl,b1⟩;have B1:=zV B0 b1;have Aa:=zE b1 _ _ _ Ab;clear b1 B0 Ab;obtain⟨Ac,Ad,Ae,Af⟩:=zF Aa;go_wp2_with fail
 refine (KI.out _).mono ?_;rintro r w2 ⟨rfl,b2⟩;have B2:=zV B1 b2;have Ag:=zE b2 _ _ _ Aa;clear b2 B1 Aa Ac Ad Ae Af;obtain⟨Ah,Ai,Aj,Ak⟩:=zF Ag;go_wp2
 go_ret
 exact⟨rfl,B2⟩
theorem rf_tiny_mid (f m:Int)(b:Bool)(s t:ByteArray)(e:Int)(rt:Bool)(T I I1 P A1 A H:Int)(M rs:ByteArray)(ex o:Bool)(l:Int)(w:World)
  (KT:z6 160 #[.agg #[.bool b,.string s,.string t,.int .i64 e],.bool rt] (.int .i64 T))
  (KI:z6 150 #[.int .u8 f] (.int .i64 I))
  (KP:z6 95 #[.int .u8 f] (.int .i64 P))
  (KF:z6 162 #[.agg #[.bool b,.string s,.string t,.int .i64 e],.bool rt,.int .i64 A] (.agg #[.string M,.int .i64 A,.int .i64 H,.bool ex]))
  (KK:z6 163 #[.int .u8 m,.bool b,.agg #[.string M,.int .i64 A,.int .i64 H,.bool ex]] (.string rs))
  (KL:z6 195 #[.string rs] (.int .i64 l))
  (h1:decide (I<=T)=false) (h2:IntKind.i64.wrap (I-1)=I1) (h3:decide (T<I1)=false) (h4:IntKind.i64.wrap (T-P)=A1) (h5:IntKind.i64.wrap (A1+1)=A) (ho:decide (l<=P)=o)
  : Calls Tryz.prog 165 #[.int .u8 f,.int .u8 m,.agg #[.bool b,.string s,.string t,.int .i64 e],.bool rt] w fun r w'=>r=.returned (.bool o)/\Below w.heap.size w w':=by
 obtain⟨Ai,B0⟩:=yV w (Obj.cells #[.bool b,.string s,.string t,.int .i64 e] 70)
 go_enter Tryz.func165,Tryz.ntmps165
 go_wp2_with fail
 refine (KT.out _).mono ?_;rintro r w1 ⟨rfl,b1⟩;have B1:=zV B0 b1;have Aa:=zE b1 _ _ _ Ai;clear b1 B0 Ai;obtain⟨Aj,Ak,Al,Am⟩:=zF Aa;go_wp2_with fail
 refine (KI.out _).mono ?_;rintro r w2 ⟨rfl,b2⟩;have B2:=zV B1 b2;have Ab:=zE b2 _ _ _ Aa;clear b2 B1 Aa Aj Ak Al Am;obtain⟨An,Ao,Ap,Aq⟩:=zF Ab;have sS:zY (∀ W W1:World,(Below w.heap.size w W/\W.heap[w.heap.size]?=some (.cells #[.bool b,.string s,.string t,.int .i64 e] 70))->Below W.heap.size W W1->(Below w.heap.size w W1/\W1.heap[w.heap.size]?=some (.cells #[.bool b,.string s,.string t,.int .i64 e] 70))):=zJ (fun W W1 h b=>⟨zV h.1 b,zE b _ _ _ h.2⟩);have sL:zY (∀ W:World,(Below w.heap.size w W/\W.heap[w.heap.size]?=some (.cells #[.bool b,.string s,.string t,.int .i64 e] 70))->(w.heap.size<W.heap.size)):=zJ (fun W h=>(Array.getElem?_eq_some_iff.1 h.2).1);have sT:zY (∀ (W:World) (gN:Nat) (xA xB xC xD:Value),(Below w.heap.size w W/\W.heap[w.heap.size]?=some (.cells #[.bool b,.string s,.string t,.int .i64 e] 70))->(w.heap.size<gN)->(Below w.heap.size w ((((W.setCell ⟨gN,0,none⟩ xA).setCell ⟨gN,1,none⟩ xB).setCell ⟨gN,2,none⟩ xC).setCell ⟨gN,3,none⟩ xD)/\((((W.setCell ⟨gN,0,none⟩ xA).setCell ⟨gN,1,none⟩ xB).setCell ⟨gN,2,none⟩ xC).setCell ⟨gN,3,none⟩ xD).heap[w.heap.size]?=some (.cells #[.bool b,.string s,.string t,.int .i64 e] 70))):=zJ (fun W gN xA xB xC xD h l=>⟨yG h.1 (show w.heap.size<=gN by have:=l;omega) _ _ _ _,(zC (by have:=l;omega)).trans ((zC (by have:=l;omega)).trans ((zC (by have:=l;omega)).trans ((zC (by have:=l;omega)).trans h.2)))⟩);have sC:zY (∀ W:World,(Below w.heap.size w W/\W.heap[w.heap.size]?=some (.cells #[.bool b,.string s,.string t,.int .i64 e] 70))->(Below w.heap.size w W/\W.heap[w.heap.size]?=some (.cells #[.bool b,.string s,.string t,.int .i64 e] 70)/\W.cell? ⟨w.heap.size,0,none⟩=some (.bool b)/\W.cell? ⟨w.heap.size,1,none⟩=some (.string s)/\W.cell? ⟨w.heap.size,2,none⟩=some (.string t)/\W.cell? ⟨w.heap.size,3,none⟩=some (.int .i64 e))):=zJ (fun W h=>⟨h.1,h.2,zI (h.2) 0 _ rfl,zI (h.2) 1 _ rfl,zI (h.2) 2 _ rfl,zI (h.2) 3 _ rfl⟩);have s0:Below w.heap.size w (w2).drew/\(w2).drew.heap[w.heap.size]?=some (.cells #[.bool b,.string s,.string t,.int .i64 e] 70):=⟨B2.drew,Ab⟩;clear B2 Ab An Ao Ap Aq;go_wp2_with fail
 apply cut7
 ·
  intro key0;have key:=zJ key0;clear key0
  go_region_held3 (fun W=>Below w.heap.size w W/\W.heap[w.heap.size]?=some (.cells #[.bool b,.string s,.string t,.int .i64 e] 70)/\W.cell? ⟨w.heap.size,0,none⟩=some (.bool b)/\W.cell? ⟨w.heap.size,1,none⟩=some (.string s)/\W.cell? ⟨w.heap.size,2,none⟩=some (.string t)/\W.cell? ⟨w.heap.size,3,none⟩=some (.int .i64 e)) (first|exact sC.out _ s1|exact sC.out _ s0|exact sC.out _ (sS.out _ _ s1 (yQ _ _))|exact sC.out _ (sS.out _ _ s0 (yQ _ _))|exact sC.out _ (sT.out _ _ _ _ _ _ s1 hl))
   (((first|(go_at_call 95;(first|refine (KP.out _).mono ?_|refine (KP.out _).mono ?_))|(go_at_call 162;(first|refine (KF.out _).mono ?_|refine (KF.out _).mono ?_))|fail);rintro r wq ⟨rfl,bq⟩;(first|(have hg:=zE bq _ _ _ (heap_alloc_last _ _);have hl:=(by first|exact sL.out _ s1|exact sL.out _ s0))|have hg:=zE bq _ _ _ hg|skip);(try simp only [xI,zO] at hg hl);(first|(have Ar:=fz (k:=0) hg;have As:=fz (k:=1) hg;have At:=fz (k:=2) hg;have Au:=fz (k:=3) hg;have Av:=zI hg 0 _ rfl;have Aw:=zI hg 1 _ rfl;have Ax:=zI hg 2 _ rfl;have Ay:=zI hg 3 _ rfl)|skip);have s2:=(by first|exact sS.out _ _ s1 bq|exact sS.out _ _ s0 bq|exact sS.out _ _ (sS.out _ _ s1 (yQ _ _)) bq|exact sS.out _ _ (sS.out _ _ s0 (yQ _ _)) bq);(try clear s1);have s1:=s2;clear s2 bq))
  all_goals
   refine gen_abacusref09_tiny_11 (R:=fun W gN=>(Below w.heap.size w W/\W.heap[w.heap.size]?=some (.cells #[.bool b,.string s,.string t,.int .i64 e] 70))/\W.heap[gN]?=some (.cells #[.string M,.int .i64 A,.int .i64 H,.bool ex] 167)/\(w.heap.size<gN)) key.out ?_
   first
    | exact⟨(sT.out _ _ _ _ _ _ s1 hl),set4_row hg rfl _ _ _ _,hl⟩
    | exact⟨sS.out _ _ s1 (yQ _ _),heap_alloc_last _ _,sL.out _ s1⟩
    | exact⟨sS.out _ _ s0 (yQ _ _),heap_alloc_last _ _,sL.out _ s0⟩
 rintro w3 g3 ⟨s1,Ac,l3⟩;have B3:=And.left s1;have Ad:=s1.2;have H3:=zJ l3;clear s0 s1 sS sC sL sT l3;obtain⟨Az,AA,AB,AC⟩:=zF Ad;obtain⟨AD,AE,AF,AG⟩:=zF Ac;go_wp2_with fail
 refine (KK.out _).mono ?_;rintro r w4 ⟨rfl,b4⟩;have B4:=zV B3 b4;obtain⟨Ae,Af⟩:=zZ b4 Ad Ac;clear b4 B3 Ad Az AA AB AC Ac AD AE AF AG;obtain⟨AH,AI,AJ,AK⟩:=zF Ae;obtain⟨AL,AM,AN,AO⟩:=zF Af;go_wp2_with fail
 refine (KL.out _).mono ?_;rintro r w5 ⟨rfl,b5⟩;have B5:=zV B4 b5;obtain⟨Ag,Ah⟩:=zZ b5 Ae Af;clear b5 B4 Ae AH AI AJ AK Af AL AM AN AO;obtain⟨AP,AQ,AR,AS⟩:=zF Ag;obtain⟨AT,AU,AV,AW⟩:=zF Ah;go_wp2_with fail
 refine (KP.out _).mono ?_;rintro r w6 ⟨rfl,b6⟩;have B6:=zV B5 b6;obtain⟨AX,AY⟩:=zZ b6 Ag Ah;clear b6 B5 Ag AP AQ AR AS Ah AT AU AV AW;obtain⟨AZ,A0,A2,A3⟩:=zF AX;obtain⟨A4,A5,A6,A7⟩:=zF AY;go_wp2
 go_ret
 exact⟨rfl,B6⟩
theorem rf_del_over (f m:Int)(b:Bool)(s t:ByteArray)(e:Int)(rt:Bool)(T E P I A0 A1 A H:Int)(M rs:ByteArray)(ex:Bool)(rb:Bool)(ru rv:ByteArray)(re me:Int)(u v:Nat)(ok:Bool)(w:World)
  (KT:z6 160 #[.agg #[.bool b,.string s,.string t,.int .i64 e],.bool rt] (.int .i64 T))
  (KP:z6 95 #[.int .u8 f] (.int .i64 P))
  (KE:z6 149 #[.int .u8 f] (.int .i64 E))
  (KO:z6 161 #[.int .u8 f,.int .u8 m,.bool b] (.agg #[.int .u64 u,.int .u64 v]))
  (h1:decide (E<T)=true)
  : Calls Tryz.prog 104 #[.int .u8 f,.int .u8 m,.agg #[.bool b,.string s,.string t,.int .i64 e],.bool rt] w fun r w'=>r=.returned (.tuple #[.agg #[.int .u64 u,.int .u64 v],.int .u8 5])/\Below w.heap.size w w':=by
 obtain⟨Ah,Ai,B0⟩:=qF w (Obj.cells #[.bool b,.string s,.string t,.int .i64 e] 70) (Obj.cells #[.int .u64 0,.int .u64 0] 26)
 go_enter Tryz.func104,Tryz.ntmps104
 go_wp2_with fail
 refine (KT.out _).mono ?_;rintro r w1 ⟨rfl,b1⟩;have B1:=zV B0 b1;obtain⟨Ab,Ac⟩:=zZ b1 Ah Ai;clear b1 B0 Ah Ai;obtain⟨Aj,Ak,Al,Am⟩:=zF Ab;obtain⟨An,Ao⟩:=zA Ac;go_wp2_with fail
 refine (KP.out _).mono ?_;rintro r w2 ⟨rfl,b2⟩;have B2:=zV B1 b2;obtain⟨Ad,Ae⟩:=zZ b2 Ab Ac;clear b2 B1 Ab Aj Ak Al Am Ac An Ao;obtain⟨Ap,Aq,Ar,As⟩:=zF Ad;obtain⟨At,Au⟩:=zA Ae;go_wp2_with fail
 refine (KE.out _).mono ?_;rintro r w3 ⟨rfl,b3⟩;have B3:=zV B2 b3;obtain⟨Af,Ag⟩:=zZ b3 Ad Ae;clear b3 B2 Ad Ap Aq Ar As Ae At Au;obtain⟨Av,Aw,Ax,Ay⟩:=zF Af;obtain⟨Az,AA⟩:=zA Ag;go_wp2_with fail
 refine (KO.out _).mono ?_;rintro r w4 ⟨rfl,b4⟩;have B4:=zV B3 b4;obtain⟨AB,Aa⟩:=zZ b4 Af Ag;clear b4 B3 Af Av Aw Ax Ay Ag Az AA;obtain⟨AC,AD,AE,AF⟩:=zF AB;obtain⟨AG,AH⟩:=zA Aa;have q0:=fz (k:=0) Aa;have q1:=fz (k:=1) Aa;obtain⟨E0,E1⟩:=zQ Aa (.int .u64 u) (.int .u64 v);go_wp2
 exact bodyPost_ret (v:=.tuple #[.agg #[.int .u64 u,.int .u64 v],.int .u8 5]) (by simp [results,Tryz.results104,go_sem,E0,E1]) rfl ⟨rfl,zN B4 (by first|exact Nat.le_refl _|omega|(skip;omega)) _ _⟩
theorem rf_deliver_a (f m:Int)(b:Bool)(s t:ByteArray)(e:Int)(rt:Bool)(T E P I A0 A1 A H fl:Int)(M rs:ByteArray)(ex:Bool)(rb:Bool)(ru rv:ByteArray)(re me:Int)(u v i j:Nat)(ok nul o:Bool)(w:World)
  (KT:z6 160 #[.agg #[.bool b,.string s,.string t,.int .i64 e],.bool rt] (.int .i64 T))
  (KP:z6 95 #[.int .u8 f] (.int .i64 P))
  (KE:z6 149 #[.int .u8 f] (.int .i64 E))
  (KI:z6 150 #[.int .u8 f] (.int .i64 I))
  (KF:z6 162 #[.agg #[.bool b,.string s,.string t,.int .i64 e],.bool rt,.int .i64 A] (.agg #[.string M,.int .i64 A,.int .i64 H,.bool ex]))
  (KK:z6 163 #[.int .u8 m,.bool b,.agg #[.string M,.int .i64 A,.int .i64 H,.bool ex]] (.string rs))
  (KM:z6 99 #[.bool b,.string rs,.string ⟨#[1]⟩,.int .i64 A] (.tuple #[.agg #[.bool rb,.string ru,.string rv,.int .i64 re],.int .i64 me]))
  (KZ:zY (nul=true->∀ w,Calls Tryz.prog 47 #[.int .u8 f,.bool b] w fun r w'=>r=.returned (.agg #[.int .u64 u,.int .u64 v])/\Below w.heap.size w w'))
  (KB:zY (nul=false->∀ w,Calls Tryz.prog 164 #[.int .u8 f,.agg #[.bool rb,.string ru,.string rv,.int .i64 re]] w fun r w'=>r=.returned (.tuple #[.agg #[.int .u64 i,.int .u64 j],.bool ok])/\Below w.heap.size w w'))
  (KO:zY (ok=false->∀ w,Calls Tryz.prog 161 #[.int .u8 f,.int .u8 m,.bool b] w fun r w'=>r=.returned (.agg #[.int .u64 u,.int .u64 v])/\Below w.heap.size w w'))
  (hij:ok=true->i=u/\j=v)
  (KN:z6 165 #[.int .u8 f,.int .u8 m,.agg #[.bool b,.string s,.string t,.int .i64 e],.bool rt] (.bool o))
  (h1:decide (E<T)=false) (hI:decide (T<I)=true) (h2:IntKind.i64.wrap (A0-P)=A1) (h3:IntKind.i64.wrap (A1+1)=A) (hA0:A0=I)
  (hn:(ru.toList == [])=nul) (hfl:(if nul=true then (3:Int) else if ok=true then (if ex=true then 0 else if o=true then 3 else 1) else 5)=fl)
  : Calls Tryz.prog 104 #[.int .u8 f,.int .u8 m,.agg #[.bool b,.string s,.string t,.int .i64 e],.bool rt] w fun r w'=>r=.returned (.tuple #[.agg #[.int .u64 u,.int .u64 v],.int .u8 fl])/\Below w.heap.size w w':=by
 subst hA0;have HFL:=zJ hfl;have HIJ:=zJ hij;clear hfl hij;obtain⟨A5,A6,B0⟩:=qF w (Obj.cells #[.bool b,.string s,.string t,.int .i64 e] 70) (Obj.cells #[.int .u64 0,.int .u64 0] 26)
 go_enter Tryz.func104,Tryz.ntmps104
 go_wp2_with fail
 refine (KT.out _).mono ?_;rintro r w1 ⟨rfl,b1⟩;have B1:=zV B0 b1;obtain⟨AA,AB⟩:=zZ b1 A5 A6;clear b1 B0 A5 A6;obtain⟨BP,BQ,BR,BS⟩:=zF AA;obtain⟨BT,BU⟩:=zA AB;go_wp2_with fail
 refine (KP.out _).mono ?_;rintro r w2 ⟨rfl,b2⟩;have B2:=zV B1 b2;obtain⟨AC,AD⟩:=zZ b2 AA AB;clear b2 B1 AA BP BQ BR BS AB BT BU;obtain⟨BV,BW,BX,BY⟩:=zF AC;obtain⟨BZ,Ca⟩:=zA AD;go_wp2_with fail
 refine (KE.out _).mono ?_;rintro r w3 ⟨rfl,b3⟩;have B3:=zV B2 b3;obtain⟨AE,AF⟩:=zZ b3 AC AD;clear b3 B2 AC BV BW BX BY AD BZ Ca;obtain⟨Cb,Cc,Cd,Ce⟩:=zF AE;obtain⟨Cf,Cg⟩:=zA AF;go_wp2_with fail
 refine (KI.out _).mono ?_;rintro r w4 ⟨rfl,b4⟩;have B4:=zV B3 b4;obtain⟨AG,AH⟩:=zZ b4 AE AF;clear b4 B3 AE Cb Cc Cd Ce AF Cf Cg;obtain⟨Ch,Ci,Cj,Ck⟩:=zF AG;obtain⟨Cl,Cm⟩:=zA AH;go_wp2_with fail
 refine (KI.out _).mono ?_;rintro r w5 ⟨rfl,b5⟩;have B5:=zV B4 b5;obtain⟨AI,AJ⟩:=zZ b5 AG AH;clear b5 B4 AG Ch Ci Cj Ck AH Cl Cm;obtain⟨Cn,Co,Cp,Cq⟩:=zF AI;obtain⟨Cr,Cs⟩:=zA AJ;go_wp2_with fail
 refine (KF.out _).mono ?_;rintro r w6 ⟨rfl,b6⟩;have B6:=zV B5 b6;obtain⟨Au,Av⟩:=zZ b6 AI AJ;clear b6 B5 AI Cn Co Cp Cq AJ Cr Cs;obtain⟨Ct,Cu,Cv,Cw⟩:=zF Au;obtain⟨Cx,Cy⟩:=zA Av;have S7:=zJ B6.size;have Ak:=yC Au;have Al:=yC Av;have AK:=heap_alloc_last w6 (Obj.cells #[.string M,.int .i64 A,.int .i64 H,.bool ex] 167);have B7:=zV B6 (yQ w6 (Obj.cells #[.string M,.int .i64 A,.int .i64 H,.bool ex] 167));obtain⟨AL,AM⟩:=zZ (yQ w6 (Obj.cells #[.string M,.int .i64 A,.int .i64 H,.bool ex] 167)) Au Av;clear B6 Au Ct Cu Cv Cw Av Cx Cy;obtain⟨Cz,CA,CB,CC⟩:=zF AL;obtain⟨CD,CE⟩:=zA AM;obtain⟨CF,CG,CH,CI⟩:=zF AK;have sS:zY (∀ W W1:World,(Below w.heap.size w W/\W.heap[w.heap.size]?=some (.cells #[.bool b,.string s,.string t,.int .i64 e] 70)/\W.heap[w.heap.size+1]?=some (.cells #[.int .u64 0,.int .u64 0] 26)/\W.heap[w6.heap.size]?=some (.cells #[.string M,.int .i64 A,.int .i64 H,.bool ex] 167))->Below W.heap.size W W1->(Below w.heap.size w W1/\W1.heap[w.heap.size]?=some (.cells #[.bool b,.string s,.string t,.int .i64 e] 70)/\W1.heap[w.heap.size+1]?=some (.cells #[.int .u64 0,.int .u64 0] 26)/\W1.heap[w6.heap.size]?=some (.cells #[.string M,.int .i64 A,.int .i64 H,.bool ex] 167))):=zJ (fun W W1 h b=>⟨zV h.1 b,zE b _ _ _ h.2.1,zE b _ _ _ h.2.2.1,zE b _ _ _ h.2.2.2⟩);have sL:zY (∀ W:World,(Below w.heap.size w W/\W.heap[w.heap.size]?=some (.cells #[.bool b,.string s,.string t,.int .i64 e] 70)/\W.heap[w.heap.size+1]?=some (.cells #[.int .u64 0,.int .u64 0] 26)/\W.heap[w6.heap.size]?=some (.cells #[.string M,.int .i64 A,.int .i64 H,.bool ex] 167))->(w.heap.size<W.heap.size/\w.heap.size+1<W.heap.size/\w6.heap.size<W.heap.size)):=zJ (fun W h=>⟨(Array.getElem?_eq_some_iff.1 h.2.1).1,(Array.getElem?_eq_some_iff.1 h.2.2.1).1,(Array.getElem?_eq_some_iff.1 h.2.2.2).1⟩);have sT:zY (∀ (W:World) (gN:Nat) (xA xB xC xD:Value),(Below w.heap.size w W/\W.heap[w.heap.size]?=some (.cells #[.bool b,.string s,.string t,.int .i64 e] 70)/\W.heap[w.heap.size+1]?=some (.cells #[.int .u64 0,.int .u64 0] 26)/\W.heap[w6.heap.size]?=some (.cells #[.string M,.int .i64 A,.int .i64 H,.bool ex] 167))->(w.heap.size<gN/\w.heap.size+1<gN/\w6.heap.size<gN)->(Below w.heap.size w ((((W.setCell ⟨gN,0,none⟩ xA).setCell ⟨gN,1,none⟩ xB).setCell ⟨gN,2,none⟩ xC).setCell ⟨gN,3,none⟩ xD)/\((((W.setCell ⟨gN,0,none⟩ xA).setCell ⟨gN,1,none⟩ xB).setCell ⟨gN,2,none⟩ xC).setCell ⟨gN,3,none⟩ xD).heap[w.heap.size]?=some (.cells #[.bool b,.string s,.string t,.int .i64 e] 70)/\((((W.setCell ⟨gN,0,none⟩ xA).setCell ⟨gN,1,none⟩ xB).setCell ⟨gN,2,none⟩ xC).setCell ⟨gN,3,none⟩ xD).heap[w.heap.size+1]?=some (.cells #[.int .u64 0,.int .u64 0] 26)/\((((W.setCell ⟨gN,0,none⟩ xA).setCell ⟨gN,1,none⟩ xB).setCell ⟨gN,2,none⟩ xC).setCell ⟨gN,3,none⟩ xD).heap[w6.heap.size]?=some (.cells #[.string M,.int .i64 A,.int .i64 H,.bool ex] 167))):=zJ (fun W gN xA xB xC xD h l=>⟨yG h.1 (show w.heap.size<=gN by have:=l.1;omega) _ _ _ _,(zC (by have:=l.1;omega)).trans ((zC (by have:=l.1;omega)).trans ((zC (by have:=l.1;omega)).trans ((zC (by have:=l.1;omega)).trans h.2.1))),(zC (by have:=l.2.1;omega)).trans ((zC (by have:=l.2.1;omega)).trans ((zC (by have:=l.2.1;omega)).trans ((zC (by have:=l.2.1;omega)).trans h.2.2.1))),(zC (by have:=l.2.2;omega)).trans ((zC (by have:=l.2.2;omega)).trans ((zC (by have:=l.2.2;omega)).trans ((zC (by have:=l.2.2;omega)).trans h.2.2.2)))⟩)
 have sC:zY (∀ W:World,(Below w.heap.size w W/\W.heap[w.heap.size]?=some (.cells #[.bool b,.string s,.string t,.int .i64 e] 70)/\W.heap[w.heap.size+1]?=some (.cells #[.int .u64 0,.int .u64 0] 26)/\W.heap[w6.heap.size]?=some (.cells #[.string M,.int .i64 A,.int .i64 H,.bool ex] 167))->(Below w.heap.size w W/\W.heap[w.heap.size]?=some (.cells #[.bool b,.string s,.string t,.int .i64 e] 70)/\W.heap[w.heap.size+1]?=some (.cells #[.int .u64 0,.int .u64 0] 26)/\W.heap[w6.heap.size]?=some (.cells #[.string M,.int .i64 A,.int .i64 H,.bool ex] 167)/\W.cell? ⟨w.heap.size,0,none⟩=some (.bool b)/\W.cell? ⟨w.heap.size,1,none⟩=some (.string s)/\W.cell? ⟨w.heap.size,2,none⟩=some (.string t)/\W.cell? ⟨w.heap.size,3,none⟩=some (.int .i64 e)/\W.cell? ⟨w.heap.size+1,0,none⟩=some (.int .u64 0)/\W.cell? ⟨w.heap.size+1,1,none⟩=some (.int .u64 0)/\W.cell? ⟨w6.heap.size,0,none⟩=some (.string M)/\W.cell? ⟨w6.heap.size,1,none⟩=some (.int .i64 A)/\W.cell? ⟨w6.heap.size,2,none⟩=some (.int .i64 H)/\W.cell? ⟨w6.heap.size,3,none⟩=some (.bool ex))):=zJ (fun W h=>⟨h.1,h.2.1,h.2.2.1,h.2.2.2,zI (h.2.1) 0 _ rfl,zI (h.2.1) 1 _ rfl,zI (h.2.1) 2 _ rfl,zI (h.2.1) 3 _ rfl,zI (h.2.2.1) 0 _ rfl,zI (h.2.2.1) 1 _ rfl,zI (h.2.2.2) 0 _ rfl,zI (h.2.2.2) 1 _ rfl,zI (h.2.2.2) 2 _ rfl,zI (h.2.2.2) 3 _ rfl⟩);have s0:Below w.heap.size w ((w6.alloc (Obj.cells #[.string M,.int .i64 A,.int .i64 H,.bool ex] 167))).drew/\((w6.alloc (Obj.cells #[.string M,.int .i64 A,.int .i64 H,.bool ex] 167))).drew.heap[w.heap.size]?=some (.cells #[.bool b,.string s,.string t,.int .i64 e] 70)/\((w6.alloc (Obj.cells #[.string M,.int .i64 A,.int .i64 H,.bool ex] 167))).drew.heap[w.heap.size+1]?=some (.cells #[.int .u64 0,.int .u64 0] 26)/\((w6.alloc (Obj.cells #[.string M,.int .i64 A,.int .i64 H,.bool ex] 167))).drew.heap[w6.heap.size]?=some (.cells #[.string M,.int .i64 A,.int .i64 H,.bool ex] 167):=⟨B7.drew,AL,AM,AK⟩;clear B7 AL Cz CA CB CC AM CD CE AK CF CG CH CI;go_wp2_with fail
 apply cut7
 ·
  intro key0;have key:=zJ key0;clear key0
  go_region_held3 (fun W=>Below w.heap.size w W/\W.heap[w.heap.size]?=some (.cells #[.bool b,.string s,.string t,.int .i64 e] 70)/\W.heap[w.heap.size+1]?=some (.cells #[.int .u64 0,.int .u64 0] 26)/\W.heap[w6.heap.size]?=some (.cells #[.string M,.int .i64 A,.int .i64 H,.bool ex] 167)/\W.cell? ⟨w.heap.size,0,none⟩=some (.bool b)/\W.cell? ⟨w.heap.size,1,none⟩=some (.string s)/\W.cell? ⟨w.heap.size,2,none⟩=some (.string t)/\W.cell? ⟨w.heap.size,3,none⟩=some (.int .i64 e)/\W.cell? ⟨w.heap.size+1,0,none⟩=some (.int .u64 0)/\W.cell? ⟨w.heap.size+1,1,none⟩=some (.int .u64 0)/\W.cell? ⟨w6.heap.size,0,none⟩=some (.string M)/\W.cell? ⟨w6.heap.size,1,none⟩=some (.int .i64 A)/\W.cell? ⟨w6.heap.size,2,none⟩=some (.int .i64 H)/\W.cell? ⟨w6.heap.size,3,none⟩=some (.bool ex)) (first|exact sC.out _ s1|exact sC.out _ s0|exact sC.out _ (sS.out _ _ s1 (yQ _ _))|exact sC.out _ (sS.out _ _ s0 (yQ _ _))|exact sC.out _ (sT.out _ _ _ _ _ _ s1 hl))
   (((first|(go_at_call 163;(first|refine (KK.out _).mono ?_|refine (KK.out _).mono ?_))|(go_at_call 99;(first|refine (KM.out _).mono ?_|refine (KM.out _).mono ?_))|fail);rintro r wq ⟨rfl,bq⟩;(first|(have hg:=zE bq _ _ _ (heap_alloc_last _ _);have hl:=(by first|exact sL.out _ s1|exact sL.out _ s0))|have hg:=zE bq _ _ _ hg|skip);(try simp only [xI,zO] at hg hl);(first|(have CJ:=fz (k:=0) hg;have CK:=fz (k:=1) hg;have CL:=fz (k:=2) hg;have CM:=fz (k:=3) hg;have CN:=zI hg 0 _ rfl;have CO:=zI hg 1 _ rfl;have CP:=zI hg 2 _ rfl;have CQ:=zI hg 3 _ rfl)|skip);have s2:=(by first|exact sS.out _ _ s1 bq|exact sS.out _ _ s0 bq|exact sS.out _ _ (sS.out _ _ s1 (yQ _ _)) bq|exact sS.out _ _ (sS.out _ _ s0 (yQ _ _)) bq);(try clear s1);have s1:=s2;clear s2 bq))
  all_goals
   refine qJ (R:=fun W gN=>(Below w.heap.size w W/\W.heap[w.heap.size]?=some (.cells #[.bool b,.string s,.string t,.int .i64 e] 70)/\W.heap[w.heap.size+1]?=some (.cells #[.int .u64 0,.int .u64 0] 26)/\W.heap[w6.heap.size]?=some (.cells #[.string M,.int .i64 A,.int .i64 H,.bool ex] 167))/\W.heap[gN]?=some (.cells #[.bool rb,.string ru,.string rv,.int .i64 re] 70)/\(w.heap.size<gN/\w.heap.size+1<gN/\w6.heap.size<gN)) key.out ?_
   first
    | exact⟨(sT.out _ _ _ _ _ _ s1 hl),set4_row hg rfl _ _ _ _,hl⟩
    | exact⟨sS.out _ _ s1 (yQ _ _),heap_alloc_last _ _,sL.out _ s1⟩
    | exact⟨sS.out _ _ s0 (yQ _ _),heap_alloc_last _ _,sL.out _ s0⟩
 rintro w8 g8 ⟨s1,Am,l8⟩;have B8:=And.left s1;have An:=s1.2.1;have Ao:=s1.2.2.1;have Ap:=s1.2.2.2;have H8:=zJ l8;clear s0 s1 sS sC sL sT l8;obtain⟨A7,A8,A9,Ba⟩:=zF An;obtain⟨Bb,Bc⟩:=zA Ao;obtain⟨Bd,Be,Bf,Bg⟩:=zF Ap;obtain⟨Bh,Bi,Bj,Bk⟩:=zF Am
 cases nul
 ·
  have K5:=zJ (KB.out rfl);clear KZ KB;go_wp2_with fail
  refine (K5.out _).mono ?_;rintro r w9 ⟨rfl,b9⟩;have B9:=zV B8 b9;obtain⟨Ah,Ac,Ai,Aj⟩:=xZ b9 An Ao Ap Am;clear b9 B8 An A7 A8 A9 Ba Ao Bb Bc Ap Bd Be Bf Bg Am Bh Bi Bj Bk;obtain⟨Bl,Bm,Bn,Bo⟩:=zF Ah;obtain⟨Bp,Bq⟩:=zA Ac;obtain⟨Br,Bs,Bt,Bu⟩:=zF Ai;obtain⟨Bv,Bw,Bx,By⟩:=zF Aj;have S10:=zJ B9.size;have Aw:=yC Ah;have Ax:=yC Ac;have Ay:=yC Ai;have Az:=yC Aj;have Ad:=heap_alloc_last w9 (Obj.cells #[.int .u64 i,.int .u64 j] 26);have B10:=zV B9 (yQ w9 (Obj.cells #[.int .u64 i,.int .u64 j] 26));obtain⟨Ae,Ab,Af,Ag⟩:=xZ (yQ w9 (Obj.cells #[.int .u64 i,.int .u64 j] 26)) Ah Ac Ai Aj;clear B9 Ah Bl Bm Bn Bo Ac Bp Bq Ai Br Bs Bt Bu Aj Bv Bw Bx By;obtain⟨AN,AO,AP,AQ⟩:=zF Ae;obtain⟨AR,AS⟩:=zA Ab;obtain⟨AT,AU,AV,AW⟩:=zF Af;obtain⟨AX,AY,AZ,A2⟩:=zF Ag;obtain⟨A3,A4⟩:=zA Ad
  cases ok
  ·
   have K6:=zJ (KO.out rfl);clear KO;obtain rfl:(5:Int)=fl:=HFL.out;go_wp2_with fail
   refine (K6.out _).mono ?_;rintro r w11 ⟨rfl,b11⟩;have B11:=zV B10 b11;obtain⟨Aq,Aa,Ar,As,At⟩:=yN b11 Ae Ab Af Ag Ad;clear b11 B10 Ae AN AO AP AQ Ab AR AS Af AT AU AV AW Ag AX AY AZ A2 Ad A3 A4;obtain⟨Bz,BA,BB,BC⟩:=zF Aq;obtain⟨BD,BE⟩:=zA Aa;obtain⟨BF,BG,BH,BI⟩:=zF Ar;obtain⟨BJ,BK,BL,BM⟩:=zF As;obtain⟨BN,BO⟩:=zA At;have q0:=fz (k:=0) Aa;have q1:=fz (k:=1) Aa;obtain⟨E0,E1⟩:=zQ Aa (.int .u64 u) (.int .u64 v);go_wp2
   exact bodyPost_ret (v:=.tuple #[.agg #[.int .u64 u,.int .u64 v],.int .u8 5]) (by simp [results,Tryz.results104,go_sem,E0,E1]) rfl ⟨rfl,zN B11 (by first|exact Nat.le_refl _|omega|(have:=S7.out;have:=Ak.out;have:=Al.out;have:=H8.out;have:=S10.out;have:=Aw.out;have:=Ax.out;have:=Ay.out;have:=Az.out;omega)) _ _⟩
  ·
   obtain⟨rfl,rfl⟩:=HIJ.out rfl;clear KO
   cases ex
   ·
    cases o
    ·
     obtain rfl:(1:Int)=fl:=HFL.out;go_wp2_with fail
     refine (KN.out _).mono ?_;rintro r w11 ⟨rfl,b11⟩;have B11:=zV B10 b11;obtain⟨Aq,Aa,Ar,As,At⟩:=yN b11 Ae Ab Af Ag Ad;clear b11 B10 Ae AN AO AP AQ Ab AR AS Af AT AU AV AW Ag AX AY AZ A2 Ad A3 A4;obtain⟨Bz,BA,BB,BC⟩:=zF Aq;obtain⟨BD,BE⟩:=zA Aa;obtain⟨BF,BG,BH,BI⟩:=zF Ar;obtain⟨BJ,BK,BL,BM⟩:=zF As;obtain⟨BN,BO⟩:=zA At;have q0:=fz (k:=0) Aa;have q1:=fz (k:=1) Aa;obtain⟨E0,E1⟩:=zQ Aa (.int .u64 i) (.int .u64 j);go_wp2
     exact bodyPost_ret (v:=.tuple #[.agg #[.int .u64 i,.int .u64 j],.int .u8 1]) (by simp [results,Tryz.results104,go_sem,E0,E1]) rfl ⟨rfl,zN B11 (by first|exact Nat.le_refl _|omega|(have:=S7.out;have:=Ak.out;have:=Al.out;have:=H8.out;have:=S10.out;have:=Aw.out;have:=Ax.out;have:=Ay.out;have:=Az.out;omega)) _ _⟩
    ·
     obtain rfl:(3:Int)=fl:=HFL.out;go_wp2_with fail
     refine (KN.out _).mono ?_;rintro r w11 ⟨rfl,b11⟩;have B11:=zV B10 b11;obtain⟨Aq,Aa,Ar,As,At⟩:=yN b11 Ae Ab Af Ag Ad;clear b11 B10 Ae AN AO AP AQ Ab AR AS Af AT AU AV AW Ag AX AY AZ A2 Ad A3 A4;obtain⟨Bz,BA,BB,BC⟩:=zF Aq;obtain⟨BD,BE⟩:=zA Aa;obtain⟨BF,BG,BH,BI⟩:=zF Ar;obtain⟨BJ,BK,BL,BM⟩:=zF As;obtain⟨BN,BO⟩:=zA At;have q0:=fz (k:=0) Aa;have q1:=fz (k:=1) Aa;obtain⟨E0,E1⟩:=zQ Aa (.int .u64 i) (.int .u64 j);go_wp2
     exact bodyPost_ret (v:=.tuple #[.agg #[.int .u64 i,.int .u64 j],.int .u8 3]) (by simp [results,Tryz.results104,go_sem,E0,E1]) rfl ⟨rfl,zN B11 (by first|exact Nat.le_refl _|omega|(have:=S7.out;have:=Ak.out;have:=Al.out;have:=H8.out;have:=S10.out;have:=Aw.out;have:=Ax.out;have:=Ay.out;have:=Az.out;omega)) _ _⟩
   ·
    obtain rfl:(0:Int)=fl:=HFL.out;have q0:=fz (k:=0) Ab;have q1:=fz (k:=1) Ab;obtain⟨E0,E1⟩:=zQ Ab (.int .u64 i) (.int .u64 j);go_wp2
    exact bodyPost_ret (v:=.tuple #[.agg #[.int .u64 i,.int .u64 j],.int .u8 0]) (by simp [results,Tryz.results104,go_sem,E0,E1]) rfl ⟨rfl,zN B10 (by first|exact Nat.le_refl _|omega|(have:=S7.out;have:=Ak.out;have:=Al.out;have:=H8.out;have:=S10.out;have:=Aw.out;have:=Ax.out;have:=Ay.out;have:=Az.out;omega)) _ _⟩
 ·
  have K5:=zJ (KZ.out rfl);clear KZ KB;obtain rfl:(3:Int)=fl:=HFL.out;go_wp2_with fail
  refine (K5.out _).mono ?_;rintro r w9 ⟨rfl,b9⟩;have B9:=zV B8 b9;obtain⟨Ah,Ac,Ai,Aj⟩:=xZ b9 An Ao Ap Am;clear b9 B8 An A7 A8 A9 Ba Ao Bb Bc Ap Bd Be Bf Bg Am Bh Bi Bj Bk;obtain⟨Bl,Bm,Bn,Bo⟩:=zF Ah;obtain⟨Bp,Bq⟩:=zA Ac;obtain⟨Br,Bs,Bt,Bu⟩:=zF Ai;obtain⟨Bv,Bw,Bx,By⟩:=zF Aj;have q0:=fz (k:=0) Ac;have q1:=fz (k:=1) Ac;obtain⟨E0,E1⟩:=zQ Ac (.int .u64 u) (.int .u64 v);go_wp2
  exact bodyPost_ret (v:=.tuple #[.agg #[.int .u64 u,.int .u64 v],.int .u8 3]) (by simp [results,Tryz.results104,go_sem,E0,E1]) rfl ⟨rfl,zN B9 (by first|exact Nat.le_refl _|omega|(have:=S7.out;have:=Ak.out;have:=Al.out;have:=H8.out;omega)) _ _⟩
theorem rf_deliver_b (f m:Int)(b:Bool)(s t:ByteArray)(e:Int)(rt:Bool)(T E P I A0 A1 A H fl:Int)(M rs:ByteArray)(ex:Bool)(rb:Bool)(ru rv:ByteArray)(re me:Int)(u v i j:Nat)(ok nul o:Bool)(w:World)
  (KT:z6 160 #[.agg #[.bool b,.string s,.string t,.int .i64 e],.bool rt] (.int .i64 T))
  (KP:z6 95 #[.int .u8 f] (.int .i64 P))
  (KE:z6 149 #[.int .u8 f] (.int .i64 E))
  (KI:z6 150 #[.int .u8 f] (.int .i64 I))
  (KF:z6 162 #[.agg #[.bool b,.string s,.string t,.int .i64 e],.bool rt,.int .i64 A] (.agg #[.string M,.int .i64 A,.int .i64 H,.bool ex]))
  (KK:z6 163 #[.int .u8 m,.bool b,.agg #[.string M,.int .i64 A,.int .i64 H,.bool ex]] (.string rs))
  (KM:z6 99 #[.bool b,.string rs,.string ⟨#[1]⟩,.int .i64 A] (.tuple #[.agg #[.bool rb,.string ru,.string rv,.int .i64 re],.int .i64 me]))
  (KZ:zY (nul=true->∀ w,Calls Tryz.prog 47 #[.int .u8 f,.bool b] w fun r w'=>r=.returned (.agg #[.int .u64 u,.int .u64 v])/\Below w.heap.size w w'))
  (KB:zY (nul=false->∀ w,Calls Tryz.prog 164 #[.int .u8 f,.agg #[.bool rb,.string ru,.string rv,.int .i64 re]] w fun r w'=>r=.returned (.tuple #[.agg #[.int .u64 i,.int .u64 j],.bool ok])/\Below w.heap.size w w'))
  (KO:zY (ok=false->∀ w,Calls Tryz.prog 161 #[.int .u8 f,.int .u8 m,.bool b] w fun r w'=>r=.returned (.agg #[.int .u64 u,.int .u64 v])/\Below w.heap.size w w'))
  (hij:ok=true->i=u/\j=v)
  (KN:z6 165 #[.int .u8 f,.int .u8 m,.agg #[.bool b,.string s,.string t,.int .i64 e],.bool rt] (.bool o))
  (h1:decide (E<T)=false) (hI:decide (T<I)=false) (h2:IntKind.i64.wrap (A0-P)=A1) (h3:IntKind.i64.wrap (A1+1)=A) (hA0:A0=T)
  (hn:(ru.toList == [])=nul) (hfl:(if nul=true then (3:Int) else if ok=true then (if ex=true then 0 else if o=true then 3 else 1) else 5)=fl)
  : Calls Tryz.prog 104 #[.int .u8 f,.int .u8 m,.agg #[.bool b,.string s,.string t,.int .i64 e],.bool rt] w fun r w'=>r=.returned (.tuple #[.agg #[.int .u64 u,.int .u64 v],.int .u8 fl])/\Below w.heap.size w w':=by
 subst hA0;have HFL:=zJ hfl;have HIJ:=zJ hij;clear hfl hij;obtain⟨A3,A4,B0⟩:=qF w (Obj.cells #[.bool b,.string s,.string t,.int .i64 e] 70) (Obj.cells #[.int .u64 0,.int .u64 0] 26)
 go_enter Tryz.func104,Tryz.ntmps104
 go_wp2_with fail
 refine (KT.out _).mono ?_;rintro r w1 ⟨rfl,b1⟩;have B1:=zV B0 b1;obtain⟨AA,AB⟩:=zZ b1 A3 A4;clear b1 B0 A3 A4;obtain⟨BN,BO,BP,BQ⟩:=zF AA;obtain⟨BR,BS⟩:=zA AB;go_wp2_with fail
 refine (KP.out _).mono ?_;rintro r w2 ⟨rfl,b2⟩;have B2:=zV B1 b2;obtain⟨AC,AD⟩:=zZ b2 AA AB;clear b2 B1 AA BN BO BP BQ AB BR BS;obtain⟨BT,BU,BV,BW⟩:=zF AC;obtain⟨BX,BY⟩:=zA AD;go_wp2_with fail
 refine (KE.out _).mono ?_;rintro r w3 ⟨rfl,b3⟩;have B3:=zV B2 b3;obtain⟨AE,AF⟩:=zZ b3 AC AD;clear b3 B2 AC BT BU BV BW AD BX BY;obtain⟨BZ,Ca,Cb,Cc⟩:=zF AE;obtain⟨Cd,Ce⟩:=zA AF;go_wp2_with fail
 refine (KI.out _).mono ?_;rintro r w4 ⟨rfl,b4⟩;have B4:=zV B3 b4;obtain⟨AG,AH⟩:=zZ b4 AE AF;clear b4 B3 AE BZ Ca Cb Cc AF Cd Ce;obtain⟨Cf,Cg,Ch,Ci⟩:=zF AG;obtain⟨Cj,Ck⟩:=zA AH;go_wp2_with fail
 refine (KF.out _).mono ?_;rintro r w5 ⟨rfl,b5⟩;have B5:=zV B4 b5;obtain⟨Au,Av⟩:=zZ b5 AG AH;clear b5 B4 AG Cf Cg Ch Ci AH Cj Ck;obtain⟨Cl,Cm,Cn,Co⟩:=zF Au;obtain⟨Cp,Cq⟩:=zA Av;have S6:=zJ B5.size;have Ak:=yC Au;have Al:=yC Av;have AI:=heap_alloc_last w5 (Obj.cells #[.string M,.int .i64 A,.int .i64 H,.bool ex] 167);have B6:=zV B5 (yQ w5 (Obj.cells #[.string M,.int .i64 A,.int .i64 H,.bool ex] 167));obtain⟨AJ,AK⟩:=zZ (yQ w5 (Obj.cells #[.string M,.int .i64 A,.int .i64 H,.bool ex] 167)) Au Av;clear B5 Au Cl Cm Cn Co Av Cp Cq;obtain⟨Cr,Cs,Ct,Cu⟩:=zF AJ;obtain⟨Cv,Cw⟩:=zA AK;obtain⟨Cx,Cy,Cz,CA⟩:=zF AI;have sS:zY (∀ W W1:World,(Below w.heap.size w W/\W.heap[w.heap.size]?=some (.cells #[.bool b,.string s,.string t,.int .i64 e] 70)/\W.heap[w.heap.size+1]?=some (.cells #[.int .u64 0,.int .u64 0] 26)/\W.heap[w5.heap.size]?=some (.cells #[.string M,.int .i64 A,.int .i64 H,.bool ex] 167))->Below W.heap.size W W1->(Below w.heap.size w W1/\W1.heap[w.heap.size]?=some (.cells #[.bool b,.string s,.string t,.int .i64 e] 70)/\W1.heap[w.heap.size+1]?=some (.cells #[.int .u64 0,.int .u64 0] 26)/\W1.heap[w5.heap.size]?=some (.cells #[.string M,.int .i64 A,.int .i64 H,.bool ex] 167))):=zJ (fun W W1 h b=>⟨zV h.1 b,zE b _ _ _ h.2.1,zE b _ _ _ h.2.2.1,zE b _ _ _ h.2.2.2⟩);have sL:zY (∀ W:World,(Below w.heap.size w W/\W.heap[w.heap.size]?=some (.cells #[.bool b,.string s,.string t,.int .i64 e] 70)/\W.heap[w.heap.size+1]?=some (.cells #[.int .u64 0,.int .u64 0] 26)/\W.heap[w5.heap.size]?=some (.cells #[.string M,.int .i64 A,.int .i64 H,.bool ex] 167))->(w.heap.size<W.heap.size/\w.heap.size+1<W.heap.size/\w5.heap.size<W.heap.size)):=zJ (fun W h=>⟨(Array.getElem?_eq_some_iff.1 h.2.1).1,(Array.getElem?_eq_some_iff.1 h.2.2.1).1,(Array.getElem?_eq_some_iff.1 h.2.2.2).1⟩);have sT:zY (∀ (W:World) (gN:Nat) (xA xB xC xD:Value),(Below w.heap.size w W/\W.heap[w.heap.size]?=some (.cells #[.bool b,.string s,.string t,.int .i64 e] 70)/\W.heap[w.heap.size+1]?=some (.cells #[.int .u64 0,.int .u64 0] 26)/\W.heap[w5.heap.size]?=some (.cells #[.string M,.int .i64 A,.int .i64 H,.bool ex] 167))->(w.heap.size<gN/\w.heap.size+1<gN/\w5.heap.size<gN)->(Below w.heap.size w ((((W.setCell ⟨gN,0,none⟩ xA).setCell ⟨gN,1,none⟩ xB).setCell ⟨gN,2,none⟩ xC).setCell ⟨gN,3,none⟩ xD)/\((((W.setCell ⟨gN,0,none⟩ xA).setCell ⟨gN,1,none⟩ xB).setCell ⟨gN,2,none⟩ xC).setCell ⟨gN,3,none⟩ xD).heap[w.heap.size]?=some (.cells #[.bool b,.string s,.string t,.int .i64 e] 70)/\((((W.setCell ⟨gN,0,none⟩ xA).setCell ⟨gN,1,none⟩ xB).setCell ⟨gN,2,none⟩ xC).setCell ⟨gN,3,none⟩ xD).heap[w.heap.size+1]?=some (.cells #[.int .u64 0,.int .u64 0] 26)/\((((W.setCell ⟨gN,0,none⟩ xA).setCell ⟨gN,1,none⟩ xB).setCell ⟨gN,2,none⟩ xC).setCell ⟨gN,3,none⟩ xD).heap[w5.heap.size]?=some (.cells #[.string M,.int .i64 A,.int .i64 H,.bool ex] 167))):=zJ (fun W gN xA xB xC xD h l=>⟨yG h.1 (show w.heap.size<=gN by have:=l.1;omega) _ _ _ _,(zC (by have:=l.1;omega)).trans ((zC (by have:=l.1;omega)).trans ((zC (by have:=l.1;omega)).trans ((zC (by have:=l.1;omega)).trans h.2.1))),(zC (by have:=l.2.1;omega)).trans ((zC (by have:=l.2.1;omega)).trans ((zC (by have:=l.2.1;omega)).trans ((zC (by have:=l.2.1;omega)).trans h.2.2.1))),(zC (by have:=l.2.2;omega)).trans ((zC (by have:=l.2.2;omega)).trans ((zC (by have:=l.2.2;omega)).trans ((zC (by have:=l.2.2;omega)).trans h.2.2.2)))⟩)
 have sC:zY (∀ W:World,(Below w.heap.size w W/\W.heap[w.heap.size]?=some (.cells #[.bool b,.string s,.string t,.int .i64 e] 70)/\W.heap[w.heap.size+1]?=some (.cells #[.int .u64 0,.int .u64 0] 26)/\W.heap[w5.heap.size]?=some (.cells #[.string M,.int .i64 A,.int .i64 H,.bool ex] 167))->(Below w.heap.size w W/\W.heap[w.heap.size]?=some (.cells #[.bool b,.string s,.string t,.int .i64 e] 70)/\W.heap[w.heap.size+1]?=some (.cells #[.int .u64 0,.int .u64 0] 26)/\W.heap[w5.heap.size]?=some (.cells #[.string M,.int .i64 A,.int .i64 H,.bool ex] 167)/\W.cell? ⟨w.heap.size,0,none⟩=some (.bool b)/\W.cell? ⟨w.heap.size,1,none⟩=some (.string s)/\W.cell? ⟨w.heap.size,2,none⟩=some (.string t)/\W.cell? ⟨w.heap.size,3,none⟩=some (.int .i64 e)/\W.cell? ⟨w.heap.size+1,0,none⟩=some (.int .u64 0)/\W.cell? ⟨w.heap.size+1,1,none⟩=some (.int .u64 0)/\W.cell? ⟨w5.heap.size,0,none⟩=some (.string M)/\W.cell? ⟨w5.heap.size,1,none⟩=some (.int .i64 A)/\W.cell? ⟨w5.heap.size,2,none⟩=some (.int .i64 H)/\W.cell? ⟨w5.heap.size,3,none⟩=some (.bool ex))):=zJ (fun W h=>⟨h.1,h.2.1,h.2.2.1,h.2.2.2,zI (h.2.1) 0 _ rfl,zI (h.2.1) 1 _ rfl,zI (h.2.1) 2 _ rfl,zI (h.2.1) 3 _ rfl,zI (h.2.2.1) 0 _ rfl,zI (h.2.2.1) 1 _ rfl,zI (h.2.2.2) 0 _ rfl,zI (h.2.2.2) 1 _ rfl,zI (h.2.2.2) 2 _ rfl,zI (h.2.2.2) 3 _ rfl⟩);have s0:Below w.heap.size w ((w5.alloc (Obj.cells #[.string M,.int .i64 A,.int .i64 H,.bool ex] 167))).drew/\((w5.alloc (Obj.cells #[.string M,.int .i64 A,.int .i64 H,.bool ex] 167))).drew.heap[w.heap.size]?=some (.cells #[.bool b,.string s,.string t,.int .i64 e] 70)/\((w5.alloc (Obj.cells #[.string M,.int .i64 A,.int .i64 H,.bool ex] 167))).drew.heap[w.heap.size+1]?=some (.cells #[.int .u64 0,.int .u64 0] 26)/\((w5.alloc (Obj.cells #[.string M,.int .i64 A,.int .i64 H,.bool ex] 167))).drew.heap[w5.heap.size]?=some (.cells #[.string M,.int .i64 A,.int .i64 H,.bool ex] 167):=⟨B6.drew,AJ,AK,AI⟩;clear B6 AJ Cr Cs Ct Cu AK Cv Cw AI Cx Cy Cz CA;go_wp2_with fail
 apply cut7
 ·
  intro key0;have key:=zJ key0;clear key0
  go_region_held3 (fun W=>Below w.heap.size w W/\W.heap[w.heap.size]?=some (.cells #[.bool b,.string s,.string t,.int .i64 e] 70)/\W.heap[w.heap.size+1]?=some (.cells #[.int .u64 0,.int .u64 0] 26)/\W.heap[w5.heap.size]?=some (.cells #[.string M,.int .i64 A,.int .i64 H,.bool ex] 167)/\W.cell? ⟨w.heap.size,0,none⟩=some (.bool b)/\W.cell? ⟨w.heap.size,1,none⟩=some (.string s)/\W.cell? ⟨w.heap.size,2,none⟩=some (.string t)/\W.cell? ⟨w.heap.size,3,none⟩=some (.int .i64 e)/\W.cell? ⟨w.heap.size+1,0,none⟩=some (.int .u64 0)/\W.cell? ⟨w.heap.size+1,1,none⟩=some (.int .u64 0)/\W.cell? ⟨w5.heap.size,0,none⟩=some (.string M)/\W.cell? ⟨w5.heap.size,1,none⟩=some (.int .i64 A)/\W.cell? ⟨w5.heap.size,2,none⟩=some (.int .i64 H)/\W.cell? ⟨w5.heap.size,3,none⟩=some (.bool ex)) (first|exact sC.out _ s1|exact sC.out _ s0|exact sC.out _ (sS.out _ _ s1 (yQ _ _))|exact sC.out _ (sS.out _ _ s0 (yQ _ _))|exact sC.out _ (sT.out _ _ _ _ _ _ s1 hl))
   (((first|(go_at_call 163;(first|refine (KK.out _).mono ?_|refine (KK.out _).mono ?_))|(go_at_call 99;(first|refine (KM.out _).mono ?_|refine (KM.out _).mono ?_))|fail);rintro r wq ⟨rfl,bq⟩;(first|(have hg:=zE bq _ _ _ (heap_alloc_last _ _);have hl:=(by first|exact sL.out _ s1|exact sL.out _ s0))|have hg:=zE bq _ _ _ hg|skip);(try simp only [xI,zO] at hg hl);(first|(have CB:=fz (k:=0) hg;have CC:=fz (k:=1) hg;have CD:=fz (k:=2) hg;have CE:=fz (k:=3) hg;have CF:=zI hg 0 _ rfl;have CG:=zI hg 1 _ rfl;have CH:=zI hg 2 _ rfl;have CI:=zI hg 3 _ rfl)|skip);have s2:=(by first|exact sS.out _ _ s1 bq|exact sS.out _ _ s0 bq|exact sS.out _ _ (sS.out _ _ s1 (yQ _ _)) bq|exact sS.out _ _ (sS.out _ _ s0 (yQ _ _)) bq);(try clear s1);have s1:=s2;clear s2 bq))
  all_goals
   refine qJ (R:=fun W gN=>(Below w.heap.size w W/\W.heap[w.heap.size]?=some (.cells #[.bool b,.string s,.string t,.int .i64 e] 70)/\W.heap[w.heap.size+1]?=some (.cells #[.int .u64 0,.int .u64 0] 26)/\W.heap[w5.heap.size]?=some (.cells #[.string M,.int .i64 A,.int .i64 H,.bool ex] 167))/\W.heap[gN]?=some (.cells #[.bool rb,.string ru,.string rv,.int .i64 re] 70)/\(w.heap.size<gN/\w.heap.size+1<gN/\w5.heap.size<gN)) key.out ?_
   first
    | exact⟨(sT.out _ _ _ _ _ _ s1 hl),set4_row hg rfl _ _ _ _,hl⟩
    | exact⟨sS.out _ _ s1 (yQ _ _),heap_alloc_last _ _,sL.out _ s1⟩
    | exact⟨sS.out _ _ s0 (yQ _ _),heap_alloc_last _ _,sL.out _ s0⟩
 rintro w7 g7 ⟨s1,Am,l7⟩;have B7:=And.left s1;have An:=s1.2.1;have Ao:=s1.2.2.1;have Ap:=s1.2.2.2;have H7:=zJ l7;clear s0 s1 sS sC sL sT l7;obtain⟨A5,A6,A7,A8⟩:=zF An;obtain⟨A9,Ba⟩:=zA Ao;obtain⟨Bb,Bc,Bd,Be⟩:=zF Ap;obtain⟨Bf,Bg,Bh,Bi⟩:=zF Am
 cases nul
 ·
  have K5:=zJ (KB.out rfl);clear KZ KB;go_wp2_with fail
  refine (K5.out _).mono ?_;rintro r w8 ⟨rfl,b8⟩;have B8:=zV B7 b8;obtain⟨Ah,Ac,Ai,Aj⟩:=xZ b8 An Ao Ap Am;clear b8 B7 An A5 A6 A7 A8 Ao A9 Ba Ap Bb Bc Bd Be Am Bf Bg Bh Bi;obtain⟨Bj,Bk,Bl,Bm⟩:=zF Ah;obtain⟨Bn,Bo⟩:=zA Ac;obtain⟨Bp,Bq,Br,Bs⟩:=zF Ai;obtain⟨Bt,Bu,Bv,Bw⟩:=zF Aj;have S9:=zJ B8.size;have Aw:=yC Ah;have Ax:=yC Ac;have Ay:=yC Ai;have Az:=yC Aj;have Ad:=heap_alloc_last w8 (Obj.cells #[.int .u64 i,.int .u64 j] 26);have B9:=zV B8 (yQ w8 (Obj.cells #[.int .u64 i,.int .u64 j] 26));obtain⟨Ae,Ab,Af,Ag⟩:=xZ (yQ w8 (Obj.cells #[.int .u64 i,.int .u64 j] 26)) Ah Ac Ai Aj;clear B8 Ah Bj Bk Bl Bm Ac Bn Bo Ai Bp Bq Br Bs Aj Bt Bu Bv Bw;obtain⟨AL,AM,AN,AO⟩:=zF Ae;obtain⟨AP,AQ⟩:=zA Ab;obtain⟨AR,AS,AT,AU⟩:=zF Af;obtain⟨AV,AW,AX,AY⟩:=zF Ag;obtain⟨AZ,A2⟩:=zA Ad
  cases ok
  ·
   have K6:=zJ (KO.out rfl);clear KO;obtain rfl:(5:Int)=fl:=HFL.out;go_wp2_with fail
   refine (K6.out _).mono ?_;rintro r w10 ⟨rfl,b10⟩;have B10:=zV B9 b10;obtain⟨Aq,Aa,Ar,As,At⟩:=yN b10 Ae Ab Af Ag Ad;clear b10 B9 Ae AL AM AN AO Ab AP AQ Af AR AS AT AU Ag AV AW AX AY Ad AZ A2;obtain⟨Bx,By,Bz,BA⟩:=zF Aq;obtain⟨BB,BC⟩:=zA Aa;obtain⟨BD,BE,BF,BG⟩:=zF Ar;obtain⟨BH,BI,BJ,BK⟩:=zF As;obtain⟨BL,BM⟩:=zA At;have q0:=fz (k:=0) Aa;have q1:=fz (k:=1) Aa;obtain⟨E0,E1⟩:=zQ Aa (.int .u64 u) (.int .u64 v);go_wp2
   exact bodyPost_ret (v:=.tuple #[.agg #[.int .u64 u,.int .u64 v],.int .u8 5]) (by simp [results,Tryz.results104,go_sem,E0,E1]) rfl ⟨rfl,zN B10 (by first|exact Nat.le_refl _|omega|(have:=S6.out;have:=Ak.out;have:=Al.out;have:=H7.out;have:=S9.out;have:=Aw.out;have:=Ax.out;have:=Ay.out;have:=Az.out;omega)) _ _⟩
  ·
   obtain⟨rfl,rfl⟩:=HIJ.out rfl;clear KO
   cases ex
   ·
    cases o
    ·
     obtain rfl:(1:Int)=fl:=HFL.out;go_wp2_with fail
     refine (KN.out _).mono ?_;rintro r w10 ⟨rfl,b10⟩;have B10:=zV B9 b10;obtain⟨Aq,Aa,Ar,As,At⟩:=yN b10 Ae Ab Af Ag Ad;clear b10 B9 Ae AL AM AN AO Ab AP AQ Af AR AS AT AU Ag AV AW AX AY Ad AZ A2;obtain⟨Bx,By,Bz,BA⟩:=zF Aq;obtain⟨BB,BC⟩:=zA Aa;obtain⟨BD,BE,BF,BG⟩:=zF Ar;obtain⟨BH,BI,BJ,BK⟩:=zF As;obtain⟨BL,BM⟩:=zA At;have q0:=fz (k:=0) Aa;have q1:=fz (k:=1) Aa;obtain⟨E0,E1⟩:=zQ Aa (.int .u64 i) (.int .u64 j);go_wp2
     exact bodyPost_ret (v:=.tuple #[.agg #[.int .u64 i,.int .u64 j],.int .u8 1]) (by simp [results,Tryz.results104,go_sem,E0,E1]) rfl ⟨rfl,zN B10 (by first|exact Nat.le_refl _|omega|(have:=S6.out;have:=Ak.out;have:=Al.out;have:=H7.out;have:=S9.out;have:=Aw.out;have:=Ax.out;have:=Ay.out;have:=Az.out;omega)) _ _⟩
    ·
     obtain rfl:(3:Int)=fl:=HFL.out;go_wp2_with fail
     refine (KN.out _).mono ?_;rintro r w10 ⟨rfl,b10⟩;have B10:=zV B9 b10;obtain⟨Aq,Aa,Ar,As,At⟩:=yN b10 Ae Ab Af Ag Ad;clear b10 B9 Ae AL AM AN AO Ab AP AQ Af AR AS AT AU Ag AV AW AX AY Ad AZ A2;obtain⟨Bx,By,Bz,BA⟩:=zF Aq;obtain⟨BB,BC⟩:=zA Aa;obtain⟨BD,BE,BF,BG⟩:=zF Ar;obtain⟨BH,BI,BJ,BK⟩:=zF As;obtain⟨BL,BM⟩:=zA At;have q0:=fz (k:=0) Aa;have q1:=fz (k:=1) Aa;obtain⟨E0,E1⟩:=zQ Aa (.int .u64 i) (.int .u64 j);go_wp2
     exact bodyPost_ret (v:=.tuple #[.agg #[.int .u64 i,.int .u64 j],.int .u8 3]) (by simp [results,Tryz.results104,go_sem,E0,E1]) rfl ⟨rfl,zN B10 (by first|exact Nat.le_refl _|omega|(have:=S6.out;have:=Ak.out;have:=Al.out;have:=H7.out;have:=S9.out;have:=Aw.out;have:=Ax.out;have:=Ay.out;have:=Az.out;omega)) _ _⟩
   ·
    obtain rfl:(0:Int)=fl:=HFL.out;have q0:=fz (k:=0) Ab;have q1:=fz (k:=1) Ab;obtain⟨E0,E1⟩:=zQ Ab (.int .u64 i) (.int .u64 j);go_wp2
    exact bodyPost_ret (v:=.tuple #[.agg #[.int .u64 i,.int .u64 j],.int .u8 0]) (by simp [results,Tryz.results104,go_sem,E0,E1]) rfl ⟨rfl,zN B9 (by first|exact Nat.le_refl _|omega|(have:=S6.out;have:=Ak.out;have:=Al.out;have:=H7.out;have:=S9.out;have:=Aw.out;have:=Ax.out;have:=Ay.out;have:=Az.out;omega)) _ _⟩
 ·
  have K5:=zJ (KZ.out rfl);clear KZ KB;obtain rfl:(3:Int)=fl:=HFL.out;go_wp2_with fail
  refine (K5.out _).mono ?_;rintro r w8 ⟨rfl,b8⟩;have B8:=zV B7 b8;obtain⟨Ah,Ac,Ai,Aj⟩:=xZ b8 An Ao Ap Am;clear b8 B7 An A5 A6 A7 A8 Ao A9 Ba Ap Bb Bc Bd Be Am Bf Bg Bh Bi;obtain⟨Bj,Bk,Bl,Bm⟩:=zF Ah;obtain⟨Bn,Bo⟩:=zA Ac;obtain⟨Bp,Bq,Br,Bs⟩:=zF Ai;obtain⟨Bt,Bu,Bv,Bw⟩:=zF Aj;have q0:=fz (k:=0) Ac;have q1:=fz (k:=1) Ac;obtain⟨E0,E1⟩:=zQ Ac (.int .u64 u) (.int .u64 v);go_wp2
  exact bodyPost_ret (v:=.tuple #[.agg #[.int .u64 u,.int .u64 v],.int .u8 3]) (by simp [results,Tryz.results104,go_sem,E0,E1]) rfl ⟨rfl,zN B8 (by first|exact Nat.le_refl _|omega|(have:=S6.out;have:=Ak.out;have:=Al.out;have:=H7.out;omega)) _ _⟩
theorem lg_is (x:Nat)(h:nl x<=16384):lg x=(yL x,0):=by unfold lg;rw [if_pos h]
theorem nl_W {f:Int} (hf:y6 f) {W:Nat} (h:Wok f W):nl W<=8192:=by
 obtain⟨n1,n2,n3,n4,n5,n6⟩:=nm8 hf
 have:=qV W 17 (by
  have a:=h.2;have b:2 ^ pV f<=2 ^ 127:=Nat.pow_le_pow_right (by decide) (by omega);rw [show (2:Nat) ^ (8*17)=4*2 ^ 127*128 by decide]
  omega)
 omega
theorem k_emin (f:Int)(hf:y6 f)(w:World)(hT:xG w):Calls Tryz.prog 83 #[.int .u8 f] w fun r w'=>r=.returned (.int .i64 (1-fE f))/\Below w.heap.size w w':=
 s_emin f _ _ (yP hf).1 (yP hf).2.1 rfl (em_lim hf).2.2.2.2.1 w hT
theorem eS_lt {f:Int} (hf:y6 f)(j S:Nat)(hS:S<=2*2 ^ pV f)(hj:j=0∨2 ^ pV f<=S)(ht:lx f+(j:Int)-1+(zU S:Int)<=fE f):j*2 ^ pV f+S<2 ^ wV f:=by
 obtain⟨g1,g2,g3,g4,g5,g6,g7⟩:=fm hf;have p:=Nat.two_pow_pos (pV f)
 by_cases s0:S=0
 ·
  obtain rfl:j=0:=by omega
  subst s0;rw [Nat.zero_mul];exact Nat.two_pow_pos _
 obtain⟨e,t,he,htt,nz,h1,h2⟩:=rep hf j S s0 hS hj ht
 have:=h1 false
 unfold jA eS at this
 rw [if_neg (by decide),Nat.add_zero,Nat.add_zero] at this;rw [<-this,g1]
 have:=Nat.mul_le_mul_right (2 ^ pV f) (show e+1<=oV f+1 by omega)
 rw [Nat.add_mul,Nat.one_mul] at this;omega
theorem rz_inf (f:Int)(neg:Bool)(hf:y6 f)(u v:Nat)(hv:xX (eInf f neg)=(u,v))(w:World):Calls Tryz.prog 46 #[.int .u8 f,.bool neg] w fun r w'=>r=.returned (.agg #[.int .u64 u,.int .u64 v])/\Below w.heap.size w w':=by
 have:=r_inf f neg hf _ rfl w
 rw [hv] at this;exact this
theorem rz_zero (f:Int)(neg:Bool)(hf:y6 f)(u v:Nat)(hv:xX (x5 f neg)=(u,v))(w:World):Calls Tryz.prog 47 #[.int .u8 f,.bool neg] w fun r w'=>r=.returned (.agg #[.int .u64 u,.int .u64 v])/\Below w.heap.size w w':=by
 have:=r_zero f neg hf _ rfl w
 rw [hv] at this;exact this
theorem cut_two (W k:Nat):W / 2 ^ (k+1)=rS W k:=by unfold rS;rw [Nat.pow_succ,<-Nat.div_div_eq_div_mul]
theorem ex_is (W k:Nat)(more:Bool):(!more && decide (W % 2 ^ (k+1)=0))=!(rH W k || rM W k more):=by
 have e:W % 2 ^ (k+1)=0↔W % 2 ^ k=0/\W / 2 ^ k % 2=0:=by
  have h:=Nat.mod_pow_succ (x:=W) (b:=2) (k:=k);have p:=Nat.two_pow_pos k;rw [h]
  constructor
  ·
   intro q;have a:W % 2 ^ k=0:=by omega
   have b:2 ^ k*(W / 2 ^ k % 2)=0:=by omega
   exact⟨a,by rcases Nat.mul_eq_zero.1 b with c|c;omega;exact c⟩
  ·
   rintro ⟨a,b⟩;rw [a,b,Nat.mul_zero]
 unfold rH rM
 rw [Bool.eq_iff_iff]
 simp only [Bool.and_eq_true,Bool.not_eq_true',decide_eq_true_iff,Bool.or_eq_false_iff,decide_eq_false_iff_not,e,Decidable.not_not]
 constructor
 ·
  rintro ⟨a,b,c⟩;exact⟨by omega,b,a⟩
 ·
  rintro ⟨a,b,c⟩;exact⟨c,b,by omega⟩
theorem wh_is (W k:Nat)(more:Bool):(!more && decide (W % 2 ^ k=0))=!rM W k more:=by
 unfold rM
 rw [Bool.eq_iff_iff]
 simp only [Bool.and_eq_true,Bool.not_eq_true',decide_eq_true_iff,Bool.or_eq_false_iff,decide_eq_false_iff_not,Decidable.not_not]
 exact⟨fun h=>⟨h.2,h.1⟩,fun h=>⟨h.2,h.1⟩⟩
theorem last_is (W k:Nat):decide (W / 2 ^ k % 2=1)=rH W k:=rfl
theorem rtaken (m:Int)(hm:0<=m/\m<=4)(neg:Bool)(W k:Nat)(more:Bool)(lw:nl W<=8192)(A:Int)(M rs:ByteArray)(hM:yL (rS W k)=M)(hr:yL (rG m neg W k more)=rs)(w:World) :
  Calls Tryz.prog 163 #[.int .u8 m,.bool neg,.agg #[.string M,.int .i64 A,.int .i64 (hfV (rH W k) (rM W k more)),.bool (!(rH W k || rM W k more))]] w fun r w'=>r=.returned (.string rs)/\Below w.heap.size w w':=by
 have d1:nl (W / 2 ^ k)<=8192:=Nat.le_trans (xQ _ _ (Nat.div_le_self _ _)) lw;have d2:nl (rS W k)<=8192:=Nat.le_trans (xQ _ _ (Nat.div_le_self _ _)) d1
 have d3:nl (rS W k+1)<=16384:=by
  have q:zU (rS W k+1)<=zU (rS W k)+1:=(yK _ _).2 (by
   have a:=(yK (rS W k) _).1 (Nat.le_refl _);have b:=Nat.two_pow_pos (zU (rS W k));rw [Nat.pow_succ]
   omega)
  unfold nl at d2 ⊢
  omega
 refine rf_taken m neg (gO m neg (rO W k) (rH W k) (rM W k more)) M (yL (rS W k+1)) rs A _ 0 _ w
  (zJ (fun w=>rf_up m hm neg (rO W k) _ _ _ M A _ _ rfl rfl rfl w (zJ (fun w=>rf_last (rS W k) M _ hM (by omega) rfl w))))
  (zJ (fun _ w=>nat_Add (rS W k) 1 _ _ _ 0 hM nb1 (lg_is _ d3) (by omega) (Nat.le_trans nl1 (by decide)) w)) ?_
 rw [<-hr,<-hM]
 unfold rG
 split <;> rfl
theorem r_emin_b (f:Int)(hf:y6 f)(w:World):Calls Tryz.prog 150 #[.int .u8 f] w fun r w'=>r=.returned (.int .i64 (1-fE f))/\Below w.heap.size w w':=x6 (r_emin f _ _ (yP hf).1 rfl (em_lim hf).2.2.2.2.1 w)
theorem r_emax_b (f:Int)(hf:y6 f)(w:World):Calls Tryz.prog 149 #[.int .u8 f] w fun r w'=>r=.returned (.int .i64 (fE f))/\Below w.heap.size w w':=x6 (r_emax f _ (yP hf).1 rfl w)
theorem r_prec_b (f:Int)(hf:y6 f)(w:World):Calls Tryz.prog 95 #[.int .u8 f] w fun r w'=>r=.returned (.int .i64 (fP f))/\Below w.heap.size w w':=x6 (qD f _ (yP hf).1 rfl w)
theorem rover (f m:Int)(hf:y6 f)(hm:0<=m/\m<=4)(neg:Bool)(u v:Nat)(hv:xX (ovB f m neg)=(u,v))(w:World):Calls Tryz.prog 161 #[.int .u8 f,.int .u8 m,.bool neg] w fun r w'=>r=.returned (.agg #[.int .u64 u,.int .u64 v])/\Below w.heap.size w w':=by
 refine rf_over f m hm neg u v w (zJ (fun h w=>rz_inf f neg hf u v ?_ w)) (zJ (fun h w=>?_))
 ·
  unfold ovB at hv;rw [if_pos h] at hv;exact hv
 ·
  unfold ovB at hv
  rw [if_neg (by rw [h];decide)] at hv
  have:=r_greatest f neg hf _ rfl w
  rw [hv] at this;exact this
theorem od_nil (S:Nat)(s:ByteArray)(hs:yL S=s):(s.toList == [])=decide (S=0):=by
 rw [x9,<-hs,yF,Bool.eq_iff_iff,decide_eq_true_iff,decide_eq_true_iff];exact⟨nl_eq0 _,fun h=>by rw [h];exact qL⟩
end Go.Proofs.YtapikkbifdldfaaGreatDoor
