/-
  What the functions that the statement reaches return: part 11 (K9, KA, KB).
-/
import Derived.Laws.CopyRow
import Derived.Test.YtapikkbifdldfaaGreatDoorFd10
namespace Go.Proofs.YtapikkbifdldfaaGreatDoor
set_option maxRecDepth 100000
set_option maxHeartbeats 40000000
open Go.RowKit WMath
set_option linter.unusedSimpArgs false
set_option linter.unusedVariables false
theorem rk_class (f:Int)(hf:y7 f)(x y n c:Nat)(hx:x<18446744073709551616)(hy:y<18446744073709551616)(hn:y+18446744073709551616*x=n)(hfit:Fit f n)(hc:kC f n=c)(w:World) :
  Calls Tryz.prog 67 #[.int .u8 f,.agg #[.int .u64 x,.int .u64 y]] w fun r w'=>r=.returned (.int .u8 c)/\Below w.heap.size w w':=by
 have hat:=yD 6;have hz:=yZ;have hff:=yY;have hs0:=jD;have hcs:∀ x,((cw 6 x).size=6)=True:=fun x=>eq_true (z8 6 x);have heq:=eq6;have hg:=eqg6;have hQ:=jC;have f4:=yV hf;have tl:=kT_lt (f:=f) n;have el:=kE_le (f:=f) n;obtain⟨g1,g2,g3,g4,g5,g6,g7⟩:=fm hf;obtain⟨p1,p2,p3,p4,p5,p6,p7,p8⟩:=pV_lim hf;have p9:IntKind.i64.wrap (fP f-2)=((pV f-1:Nat):Int):=by rcases hf with rfl|rfl|rfl|rfl <;> decide +kernel
 obtain⟨neg,hneg⟩:∃ q,kN f n=q:=⟨_,rfl⟩;obtain⟨e,he⟩:∃ q,kE f n=q:=⟨_,rfl⟩;obtain⟨t,ht⟩:∃ q,kT f n=q:=⟨_,rfl⟩;have K1:=zJ (rk_fields f hf x y n e t neg hx hy hn hfit hneg he ht);have tQ:t<Q:=by rw [<-ht];exact xX (by rw [g1,Nat.add_mul] at g7;omega)
 obtain⟨o,ho⟩:∃ q,oV f=q:=⟨_,rfl⟩;obtain⟨m,hm⟩:∃ q,fE f=q:=⟨_,rfl⟩;obtain⟨p,hp⟩:∃ q,fP f=q:=⟨_,rfl⟩;have K2:zW (∀ w,Calls Tryz.prog 97 #[.int .u8 f] w fun r w'=>r=.returned (.int .i64 (o:Nat))/\w'=w):=zJ (fun w=>r_ones f m _ f4.1 hm (by rw [<-ho,<-hm];rcases hf with rfl|rfl|rfl|rfl <;> decide +kernel) w);have KP:=zJ (x8 f p f4.1 hp);obtain⟨qb,hqb⟩:∃ q,decide (2 ^ (pV f-1)<=t)=q:=⟨_,rfl⟩
 have K3:zZ 122 #[.agg (cw 6 t),.int .i64 ((pV f-1:Nat):Int)] (.bool qb):=zJ (fun w=>by
  have h:=rwbit_any t (pV f-1) (by omega) w
  have e2:t.testBit (pV f-1)=qb:=by
   rw [<-hqb,Nat.testBit_eq_decide_div_mod_eq,decide_eq_decide];rw [ht] at tl;rw [g3] at tl;have hz:=Nat.two_pow_pos (pV f-1)
   by_cases h:2 ^ (pV f-1)<=t
   ·
    have:t / 2 ^ (pV f-1)=1:=by rw [Nat.div_eq_iff hz];omega
    rw [this];simp [h]
   ·
    rw [Nat.div_eq_of_lt (by omega)];simp;omega
  rw [e2] at h;exact h)
 unfold kC at hc
 rw [he,ht,hneg,ho] at hc;have zf:(t=0->decide (t=0)=true)/\(t≠0->decide (t=0)=false):=⟨fun h=>decide_eq_true h,fun h=>decide_eq_false h⟩;obtain⟨pm,hpm⟩:∃ q,pV f-1=q:=⟨_,rfl⟩;rw [hpm] at K3 p9 hqb hc;rw [hp] at p9;clear tl el hf hx hy hn hfit hneg he ht ho hm hp p1 p2 p3 p4 p5 p6 p7 p8 g1 g2 g3 g4 g5 g6 g7 hpm f4
 by_cases c1:e=o
 ·
  have b1:((e:Int) == (o:Int))=true:=by rw [c1];simp
  rw [if_pos c1] at hc
  by_cases c2:t=0
  ·
   rw [if_pos c2] at hc;subst c2
   cases neg
   ·
    subst hc;obtain⟨Ab,B0⟩:=jA w (Obj.cells #[.int .u64 x,.int .u64 y] 26)
    go_enter Tryz.func67,Tryz.ntmps67
    go_wp2_with fail
    refine (K1.out _).mono ?_;rintro r w1 ⟨rfl,b1⟩;have B1:Below w.heap.size w w1:=zX B0 b1;have Aa:=zA b1 _ _ _ Ab;clear b1 B0 Ab;obtain⟨Ae,Af⟩:=zO Aa;have S2:=zJ B1.size;have Aj:=yC Aa;have Ad:=heap_alloc_last w1 (Obj.cells (cw 6 0) 52);have B2:=zX B1 (yB w1 (Obj.cells (cw 6 0) 52));have Ac:=zA (yB w1 (Obj.cells (cw 6 0) 52)) _ _ _ Aa;clear B1 Aa Ae Af;obtain⟨Ag,Ah⟩:=zO Ac;have Ai:=zG Ad;go_wp2_with fail
    refine (K2.out _).mono ?_;rintro r w' ⟨rfl,hw'⟩;obtain rfl:=hw'.symm;go_wp2
    go_ret
    exact⟨rfl,B2⟩
   ·
    subst hc;obtain⟨Ab,B0⟩:=jA w (Obj.cells #[.int .u64 x,.int .u64 y] 26)
    go_enter Tryz.func67,Tryz.ntmps67
    go_wp2_with fail
    refine (K1.out _).mono ?_;rintro r w1 ⟨rfl,b1⟩;have B1:Below w.heap.size w w1:=zX B0 b1;have Aa:=zA b1 _ _ _ Ab;clear b1 B0 Ab;obtain⟨Ae,Af⟩:=zO Aa;have S2:=zJ B1.size;have Aj:=yC Aa;have Ad:=heap_alloc_last w1 (Obj.cells (cw 6 0) 52);have B2:=zX B1 (yB w1 (Obj.cells (cw 6 0) 52));have Ac:=zA (yB w1 (Obj.cells (cw 6 0) 52)) _ _ _ Aa;clear B1 Aa Ae Af;obtain⟨Ag,Ah⟩:=zO Ac;have Ai:=zG Ad;go_wp2_with fail
    refine (K2.out _).mono ?_;rintro r w' ⟨rfl,hw'⟩;obtain rfl:=hw'.symm;go_wp2
    go_ret
    exact⟨rfl,B2⟩
  ·
   rw [if_neg c2] at hc;have z1:=zf.2 c2
   cases qb
   ·
    rw [if_neg (of_decide_eq_false hqb)] at hc;subst hc;obtain⟨Ab,B0⟩:=jA w (Obj.cells #[.int .u64 x,.int .u64 y] 26)
    go_enter Tryz.func67,Tryz.ntmps67
    go_wp2_with fail
    refine (K1.out _).mono ?_;rintro r w1 ⟨rfl,b1⟩;have B1:Below w.heap.size w w1:=zX B0 b1;have Aa:=zA b1 _ _ _ Ab;clear b1 B0 Ab;obtain⟨Ae,Af⟩:=zO Aa;have S2:=zJ B1.size;have Aj:=yC Aa;have Ad:=heap_alloc_last w1 (Obj.cells (cw 6 t) 52);have B2:=zX B1 (yB w1 (Obj.cells (cw 6 t) 52));have Ac:=zA (yB w1 (Obj.cells (cw 6 t) 52)) _ _ _ Aa;clear B1 Aa Ae Af;obtain⟨Ag,Ah⟩:=zO Ac;have Ai:=zG Ad;go_wp2_with fail
    refine (K2.out _).mono ?_;rintro r w' ⟨rfl,hw'⟩;obtain rfl:=hw'.symm;go_wp2_with fail
    obtain⟨F,hF1,hF2⟩:=yW (w1.alloc (Obj.cells (cw 6 t) 52));have fb_0:=fun u=>zI (zA (hF1 u) _ _ _ Ac) 0 _ rfl;have fb_1:=fun u=>zI (zA (hF1 u) _ _ _ Ac) 1 _ rfl;have ft_0:=fun u=>zG (zA (hF1 u) _ _ _ Ad);refine yA F hF2 (by kernel_rfl) (by kernel_rfl) ?_
    repeat first|go_big_quiet_step (first|(go_at_call 95;exact quietF0 (KP.out _))|(go_at_call 122;exact yH hF1 hF2 (K3.out _))|fail)|quiet_step (first|(go_at_call 95;exact quietF0 (KP.out _))|(go_at_call 122;exact yH hF1 hF2 (K3.out _))|fail)
    refine wpQuiet_nil ?_;rintro _ ⟨uW,rfl⟩;have B3:=zX B2 (hF1 uW);obtain⟨Ak,Al⟩:=z6 (hF1 uW) Ac Ad;obtain⟨w3,hw⟩:∃ V,F uW=V:=⟨_,rfl⟩;rw [hw] at B3 Ak Al
    try rw [hw]
    clear hw hF1 hF2 B2 fb_0 fb_1 ft_0 Ac Ag Ah Ad Ai;clear F;obtain⟨Am,An⟩:=zO Ak;have Ao:=zG Al;go_wp2
    go_ret
    exact⟨rfl,B3⟩
   ·
    rw [if_pos (of_decide_eq_true hqb)] at hc;subst hc;obtain⟨Ab,B0⟩:=jA w (Obj.cells #[.int .u64 x,.int .u64 y] 26)
    go_enter Tryz.func67,Tryz.ntmps67
    go_wp2_with fail
    refine (K1.out _).mono ?_;rintro r w1 ⟨rfl,b1⟩;have B1:Below w.heap.size w w1:=zX B0 b1;have Aa:=zA b1 _ _ _ Ab;clear b1 B0 Ab;obtain⟨Ae,Af⟩:=zO Aa;have S2:=zJ B1.size;have Aj:=yC Aa;have Ad:=heap_alloc_last w1 (Obj.cells (cw 6 t) 52);have B2:=zX B1 (yB w1 (Obj.cells (cw 6 t) 52));have Ac:=zA (yB w1 (Obj.cells (cw 6 t) 52)) _ _ _ Aa;clear B1 Aa Ae Af;obtain⟨Ag,Ah⟩:=zO Ac;have Ai:=zG Ad;go_wp2_with fail
    refine (K2.out _).mono ?_;rintro r w' ⟨rfl,hw'⟩;obtain rfl:=hw'.symm;go_wp2_with fail
    obtain⟨F,hF1,hF2⟩:=yW (w1.alloc (Obj.cells (cw 6 t) 52));have fb_0:=fun u=>zI (zA (hF1 u) _ _ _ Ac) 0 _ rfl;have fb_1:=fun u=>zI (zA (hF1 u) _ _ _ Ac) 1 _ rfl;have ft_0:=fun u=>zG (zA (hF1 u) _ _ _ Ad);refine yA F hF2 (by kernel_rfl) (by kernel_rfl) ?_
    repeat first|go_big_quiet_step (first|(go_at_call 95;exact quietF0 (KP.out _))|(go_at_call 122;exact yH hF1 hF2 (K3.out _))|fail)|quiet_step (first|(go_at_call 95;exact quietF0 (KP.out _))|(go_at_call 122;exact yH hF1 hF2 (K3.out _))|fail)
    refine wpQuiet_nil ?_;rintro _ ⟨uW,rfl⟩;have B3:=zX B2 (hF1 uW);obtain⟨Ak,Al⟩:=z6 (hF1 uW) Ac Ad;obtain⟨w3,hw⟩:∃ V,F uW=V:=⟨_,rfl⟩;rw [hw] at B3 Ak Al
    try rw [hw]
    clear hw hF1 hF2 B2 fb_0 fb_1 ft_0 Ac Ag Ah Ad Ai;clear F;obtain⟨Am,An⟩:=zO Ak;have Ao:=zG Al;go_wp2
    go_ret
    exact⟨rfl,B3⟩
 ·
  have b1:((e:Int) == (o:Int))=false:=by simp;omega
  rw [if_neg c1] at hc
  by_cases c2:e=0
  ·
   subst c2;rw [if_neg (by simp)] at hc
   by_cases c3:t=0
   ·
    subst c3;rw [if_neg (by simp)] at hc
    cases neg
    ·
     subst hc;obtain⟨Ab,B0⟩:=jA w (Obj.cells #[.int .u64 x,.int .u64 y] 26)
     go_enter Tryz.func67,Tryz.ntmps67
     go_wp2_with fail
     refine (K1.out _).mono ?_;rintro r w1 ⟨rfl,b1⟩;have B1:Below w.heap.size w w1:=zX B0 b1;have Aa:=zA b1 _ _ _ Ab;clear b1 B0 Ab;obtain⟨Ae,Af⟩:=zO Aa;have S2:=zJ B1.size;have Aj:=yC Aa;have Ad:=heap_alloc_last w1 (Obj.cells (cw 6 0) 52);have B2:=zX B1 (yB w1 (Obj.cells (cw 6 0) 52));have Ac:=zA (yB w1 (Obj.cells (cw 6 0) 52)) _ _ _ Aa;clear B1 Aa Ae Af;obtain⟨Ag,Ah⟩:=zO Ac;have Ai:=zG Ad;go_wp2_with fail
     refine (K2.out _).mono ?_;rintro r w' ⟨rfl,hw'⟩;obtain rfl:=hw'.symm;go_wp2
     go_ret
     exact⟨rfl,B2⟩
    ·
     subst hc;obtain⟨Ab,B0⟩:=jA w (Obj.cells #[.int .u64 x,.int .u64 y] 26)
     go_enter Tryz.func67,Tryz.ntmps67
     go_wp2_with fail
     refine (K1.out _).mono ?_;rintro r w1 ⟨rfl,b1⟩;have B1:Below w.heap.size w w1:=zX B0 b1;have Aa:=zA b1 _ _ _ Ab;clear b1 B0 Ab;obtain⟨Ae,Af⟩:=zO Aa;have S2:=zJ B1.size;have Aj:=yC Aa;have Ad:=heap_alloc_last w1 (Obj.cells (cw 6 0) 52);have B2:=zX B1 (yB w1 (Obj.cells (cw 6 0) 52));have Ac:=zA (yB w1 (Obj.cells (cw 6 0) 52)) _ _ _ Aa;clear B1 Aa Ae Af;obtain⟨Ag,Ah⟩:=zO Ac;have Ai:=zG Ad;go_wp2_with fail
     refine (K2.out _).mono ?_;rintro r w' ⟨rfl,hw'⟩;obtain rfl:=hw'.symm;go_wp2
     go_ret
     exact⟨rfl,B2⟩
   ·
    have z1:=zf.2 c3;rw [if_pos (by simpa using c3)] at hc
    cases neg
    ·
     subst hc;obtain⟨Ab,B0⟩:=jA w (Obj.cells #[.int .u64 x,.int .u64 y] 26)
     go_enter Tryz.func67,Tryz.ntmps67
     go_wp2_with fail
     refine (K1.out _).mono ?_;rintro r w1 ⟨rfl,b1⟩;have B1:Below w.heap.size w w1:=zX B0 b1;have Aa:=zA b1 _ _ _ Ab;clear b1 B0 Ab;obtain⟨Ae,Af⟩:=zO Aa;have S2:=zJ B1.size;have Aj:=yC Aa;have Ad:=heap_alloc_last w1 (Obj.cells (cw 6 t) 52);have B2:=zX B1 (yB w1 (Obj.cells (cw 6 t) 52));have Ac:=zA (yB w1 (Obj.cells (cw 6 t) 52)) _ _ _ Aa;clear B1 Aa Ae Af;obtain⟨Ag,Ah⟩:=zO Ac;have Ai:=zG Ad;go_wp2_with fail
     refine (K2.out _).mono ?_;rintro r w' ⟨rfl,hw'⟩;obtain rfl:=hw'.symm;go_wp2
     go_ret
     exact⟨rfl,B2⟩
    ·
     subst hc;obtain⟨Ab,B0⟩:=jA w (Obj.cells #[.int .u64 x,.int .u64 y] 26)
     go_enter Tryz.func67,Tryz.ntmps67
     go_wp2_with fail
     refine (K1.out _).mono ?_;rintro r w1 ⟨rfl,b1⟩;have B1:Below w.heap.size w w1:=zX B0 b1;have Aa:=zA b1 _ _ _ Ab;clear b1 B0 Ab;obtain⟨Ae,Af⟩:=zO Aa;have S2:=zJ B1.size;have Aj:=yC Aa;have Ad:=heap_alloc_last w1 (Obj.cells (cw 6 t) 52);have B2:=zX B1 (yB w1 (Obj.cells (cw 6 t) 52));have Ac:=zA (yB w1 (Obj.cells (cw 6 t) 52)) _ _ _ Aa;clear B1 Aa Ae Af;obtain⟨Ag,Ah⟩:=zO Ac;have Ai:=zG Ad;go_wp2_with fail
     refine (K2.out _).mono ?_;rintro r w' ⟨rfl,hw'⟩;obtain rfl:=hw'.symm;go_wp2
     go_ret
     exact⟨rfl,B2⟩
  ·
   have b2:((e:Int) != 0)=true:=by simp;omega
   rw [if_pos (by simpa using c2)] at hc
   cases neg
   ·
    subst hc;obtain⟨Ab,B0⟩:=jA w (Obj.cells #[.int .u64 x,.int .u64 y] 26)
    go_enter Tryz.func67,Tryz.ntmps67
    go_wp2_with fail
    refine (K1.out _).mono ?_;rintro r w1 ⟨rfl,b1⟩;have B1:Below w.heap.size w w1:=zX B0 b1;have Aa:=zA b1 _ _ _ Ab;clear b1 B0 Ab;obtain⟨Ae,Af⟩:=zO Aa;have S2:=zJ B1.size;have Aj:=yC Aa;have Ad:=heap_alloc_last w1 (Obj.cells (cw 6 t) 52);have B2:=zX B1 (yB w1 (Obj.cells (cw 6 t) 52));have Ac:=zA (yB w1 (Obj.cells (cw 6 t) 52)) _ _ _ Aa;clear B1 Aa Ae Af;obtain⟨Ag,Ah⟩:=zO Ac;have Ai:=zG Ad;go_wp2_with fail
    refine (K2.out _).mono ?_;rintro r w' ⟨rfl,hw'⟩;obtain rfl:=hw'.symm;go_wp2
    go_ret
    exact⟨rfl,B2⟩
   ·
    subst hc;obtain⟨Ab,B0⟩:=jA w (Obj.cells #[.int .u64 x,.int .u64 y] 26)
    go_enter Tryz.func67,Tryz.ntmps67
    go_wp2_with fail
    refine (K1.out _).mono ?_;rintro r w1 ⟨rfl,b1⟩;have B1:Below w.heap.size w w1:=zX B0 b1;have Aa:=zA b1 _ _ _ Ab;clear b1 B0 Ab;obtain⟨Ae,Af⟩:=zO Aa;have S2:=zJ B1.size;have Aj:=yC Aa;have Ad:=heap_alloc_last w1 (Obj.cells (cw 6 t) 52);have B2:=zX B1 (yB w1 (Obj.cells (cw 6 t) 52));have Ac:=zA (yB w1 (Obj.cells (cw 6 t) 52)) _ _ _ Aa;clear B1 Aa Ae Af;obtain⟨Ag,Ah⟩:=zO Ac;have Ai:=zG Ad;go_wp2_with fail
    refine (K2.out _).mono ?_;rintro r w' ⟨rfl,hw'⟩;obtain rfl:=hw'.symm;go_wp2
    go_ret
    exact⟨rfl,B2⟩
theorem rk_enc (f:Int)(neg:Bool)(e T v a b:Nat)(hf:y7 f)(hT:T<2 ^ pV f)(hev:e<=oV f)(hv:jH f neg e T=v)(hab:qA v=(a,b))(w:World) :
  Calls Tryz.prog 96 #[.int .u8 f,.bool neg,.int .i64 (e:Nat),.agg (cw 6 T)] w fun r w'=>r=.returned (.agg #[.int .u64 a,.int .u64 b])/\Below w.heap.size w w':=by
 have h:=r_enc f neg e T v hf (by have:=(fm hf).2.2.2.2.2.1;omega) hT hv hev w;rw [hab] at h;exact h
theorem rSign_yes (f:Int)(hf:y7 f)(x y n:Nat)(o:Bool)(hx:x<18446744073709551616)(hy:y<18446744073709551616)(hn:y+18446744073709551616*x=n)(ho:okB f n=true)(hc:kN f n=o)(w:World):Calls Tryz.prog 43 #[.int .u8 f,.agg #[.int .u64 x,.int .u64 y]] w fun r w'=>r=.returned (.bool o)/\Below w.heap.size w w':=by
 have hat:=yD 6;have hz:=yZ;have hff:=yY;have hs0:=jD;have hcs:∀ x,((cw 6 x).size=6)=True:=fun x=>eq_true (z8 6 x);have f4:=yV hf;have fit:=(okB_yes f4.1 ho).2;have K1:=zJ (rk_fits f x y n true f4.1 hx hy hn ho);have K2:=zJ (rk_fields f hf x y n _ _ o hx hy hn fit hc rfl rfl);clear hf hx hy hn ho hc fit;obtain⟨Ac,B0⟩:=jA w (Obj.cells #[.int .u64 x,.int .u64 y] 26)
 go_enter Tryz.func43,Tryz.ntmps43
 go_wp2_with fail
 refine (K1.out _).mono ?_;rintro r w1 ⟨rfl,b1⟩;have B1:Below w.heap.size w w1:=zX B0 b1;have Ab:=zA b1 _ _ _ Ac;clear b1 B0 Ac;obtain⟨Ad,Ae⟩:=zO Ab;go_wp2_with fail
 refine (K2.out _).mono ?_;rintro r w2 ⟨rfl,b2⟩;have B2:Below w.heap.size w w2:=zX B1 b2;have Aa:=zA b2 _ _ _ Ab;clear b2 B1 Ab Ad Ae;obtain⟨Af,Ag⟩:=zO Aa;have S3:=zJ B2.size;have Aj:=yC Aa;have Ah:=heap_alloc_last w2 (Obj.cells (cw 6 (kT f n)) 52);have B3:=zX B2 (yB w2 (Obj.cells (cw 6 (kT f n)) 52));have Ai:=zA (yB w2 (Obj.cells (cw 6 (kT f n)) 52)) _ _ _ Aa;clear B2 Aa Af Ag;obtain⟨Ak,Al⟩:=zO Ai;have Am:=zG Ah;go_wp2
 go_ret
 exact⟨rfl,B3⟩
theorem rNaN_is (f:Int)(hf:y7 f)(x y n c:Nat)(o:Bool)(hx:x<18446744073709551616)(hy:y<18446744073709551616)(hn:y+18446744073709551616*x=n)(hfit:Fit f n)(hc:kC f n=c)(ho:decide (8<=c)=o)(w:World):Calls Tryz.prog 41 #[.int .u8 f,.agg #[.int .u64 x,.int .u64 y]] w fun r w'=>r=.returned (.bool o)/\Below w.heap.size w w':=by
 have K1:=zJ (rk_class f hf x y n c hx hy hn hfit hc);have hd:decide ((8:Int)<=(c:Int))=o:=by rw [<-ho,decide_eq_decide];omega
 clear hf hx hy hn hfit hc ho;obtain⟨Aa,B0⟩:=jA w (Obj.cells #[.int .u64 x,.int .u64 y] 26)
 go_enter Tryz.func41,Tryz.ntmps41
 go_wp2_with fail
 refine (K1.out _).mono ?_;rintro r w1 ⟨rfl,b1⟩;have B1:Below w.heap.size w w1:=zX B0 b1;have Ab:=zA b1 _ _ _ Aa;clear b1 B0 Aa;obtain⟨Ac,Ad⟩:=zO Ab;go_wp2
 go_ret
 exact⟨rfl,B1⟩
def qt (f:Int)(n:Nat):Nat:=if kC f n=8 then n+2 ^ (pV f-1) else n
def pt (c s:Nat)(x:Int)(r:Nat):Array Value:=#[.int .u8 c,.int .u64 (wd s 0),.int .u64 (wd s 1),.int .u64 (wd s 2),.int .u64 (wd s 3),.int .u64 (wd s 4),.int .u64 (wd s 5),.int .i64 x,.int .u64 (wd r 0),.int .u64 (wd r 1),.int .u64 (wd r 2),.int .u64 (wd r 3),.int .u64 (wd r 4),.int .u64 (wd r 5)]
theorem ptf (c s:Nat)(x:Int)(r:Nat):#[Value.int .u8 c,.int .u64 (wd s 0),.int .u64 (wd s 1),.int .u64 (wd s 2),.int .u64 (wd s 3),.int .u64 (wd s 4),.int .u64 (wd s 5),.int .i64 x,.int .u64 (wd r 0),.int .u64 (wd r 1),.int .u64 (wd r 2),.int .u64 (wd r 3),.int .u64 (wd r 4),.int .u64 (wd r 5)]=pt c s x r:=rfl
theorem ptc (c:Nat):#[Value.int .u8 c,.int .u64 0,.int .u64 0,.int .u64 0,.int .u64 0,.int .u64 0,.int .u64 0,.int .i64 0,.int .u64 0,.int .u64 0,.int .u64 0,.int .u64 0,.int .u64 0,.int .u64 0]=pt c 0 0 0:=by unfold pt;simp [wd_zero]
theorem ptz:#[Value.int .u8 0,.int .u64 0,.int .u64 0,.int .u64 0,.int .u64 0,.int .u64 0,.int .u64 0,.int .i64 0,.int .u64 0,.int .u64 0,.int .u64 0,.int .u64 0,.int .u64 0,.int .u64 0]=pt 0 0 0 0:=by unfold pt;simp [wd_zero]
theorem pt_set (c s:Nat)(x:Int)(r c':Nat):(pt c s x r).setIfInBounds 0 (.int .u8 (c':Nat))=pt c' s x r:=rfl
theorem pt_setl (c s:Nat)(x:Int)(r c':Nat):(pt c s x r).toList.set 0 (.int .u8 (c':Nat))=(pt c' s x r).toList:=rfl
theorem pt_size (c s:Nat)(x:Int)(r:Nat):(pt c s x r).size=14:=rfl
theorem cw_one (n:Nat):∀ v ∈ (cw 6 n).toList,v.oneCell'=true:=fun v hv=>(Array.all_eq_true_iff_forall_mem.1 (cw_oneCell 6 n)) v (by simpa using hv)
theorem pt_one (c s:Nat)(x:Int)(r:Nat):∀ v ∈ (pt c s x r).toList,v.oneCell'=true:=by
 intro v hv
 simp only [pt,List.mem_cons,List.not_mem_nil,or_false] at hv
 rcases hv with rfl|rfl|rfl|rfl|rfl|rfl|rfl|rfl|rfl|rfl|rfl|rfl|rfl|rfl <;> rfl
theorem st_p (w:World)(b c s:Nat)(x:Int)(r c0 s0:Nat)(x0:Int)(r0:Nat)(h:w.heap[b]?=some (.cells (pt c0 s0 x0 r0) 54)) :
  (storeCells ⟨b,0,none⟩ (pt c s x r).toList 0).run Tryz.prog w=.ok () (w.setRow b (pt c s x r)):=
 run_storeCells_at (P:=Tryz.prog) b 0 54 (pt c s x r).toList 0 (pt c0 s0 x0 r0) w h (by simp only [Array.length_toList,pt_size];omega) (pt_one c s x r)
theorem st_p0 (w:World)(b c s:Nat)(x:Int)(r c0 s0:Nat)(x0:Int)(r0:Nat)(hb:b=w.heap.size) :
  (storeCells ⟨b,0,none⟩ (pt c s x r).toList 0).run Tryz.prog (w.alloc (.cells (pt c0 s0 x0 r0) 54))=.ok () (w.alloc (.cells (pt c s x r) 54)):=by
 subst hb;rw [st_p _ _ c s x r c0 s0 x0 r0 (heap_alloc_last w _),World.setRow_alloc_new]
theorem st_p8 (w:World)(b c s:Nat)(x:Int)(r t:Nat)(h:w.heap[b]?=some (.cells (pt c s x r) 54)) :
  (storeCells ⟨b,8,none⟩ (cw 6 t).toList 0).run Tryz.prog w=.ok () (w.setRow b (pt c s x t)):=
 run_storeCells_at (P:=Tryz.prog) b 8 54 (cw 6 t).toList 0 (pt c s x r) w h (by simp only [Array.length_toList,pt_size,z8];omega) (cw_one t)
theorem st_p1 (w:World)(b c s:Nat)(x:Int)(r t:Nat)(h:w.heap[b]?=some (.cells (pt c s x r) 54)) :
  (storeCells ⟨b,1,none⟩ (cw 6 t).toList 0).run Tryz.prog w=.ok () (w.setRow b (pt c t x r)):=
 run_storeCells_at (P:=Tryz.prog) b 1 54 (cw 6 t).toList 0 (pt c s x r) w h (by simp only [Array.length_toList,pt_size,z8];omega) (cw_one t)
theorem zH {w:World} {g:Nat} {T:TypeId} {c s:Nat} {x:Int} {r:Nat} (R:w.heap[g]?=some (.cells (pt c s x r) T)):w.cell? ⟨g,0,none⟩=some (.int .u8 c)/\w.cell? ⟨g,1,none⟩=some (.int .u64 (wd s 0))/\w.cell? ⟨g,2,none⟩=some (.int .u64 (wd s 1))/\w.cell? ⟨g,3,none⟩=some (.int .u64 (wd s 2))/\w.cell? ⟨g,4,none⟩=some (.int .u64 (wd s 3))/\w.cell? ⟨g,5,none⟩=some (.int .u64 (wd s 4))/\w.cell? ⟨g,6,none⟩=some (.int .u64 (wd s 5))/\w.cell? ⟨g,7,none⟩=some (.int .i64 x)/\w.cell? ⟨g,8,none⟩=some (.int .u64 (wd r 0))/\w.cell? ⟨g,9,none⟩=some (.int .u64 (wd r 1))/\w.cell? ⟨g,10,none⟩=some (.int .u64 (wd r 2))/\w.cell? ⟨g,11,none⟩=some (.int .u64 (wd r 3))/\w.cell? ⟨g,12,none⟩=some (.int .u64 (wd r 4))/\w.cell? ⟨g,13,none⟩=some (.int .u64 (wd r 5)):=
 ⟨zI R 0 _ rfl,zI R 1 _ rfl,zI R 2 _ rfl,zI R 3 _ rfl,zI R 4 _ rfl,zI R 5 _ rfl,zI R 6 _ rfl,zI R 7 _ rfl,zI R 8 _ rfl,zI R 9 _ rfl,zI R 10 _ rfl,zI R 11 _ rfl,zI R 12 _ rfl,zI R 13 _ rfl⟩
theorem pt_at0 (c s:Nat)(x:Int)(r:Nat)(h:0<(pt c s x r).size):(pt c s x r)[0]'h=.int .u8 c:=rfl
theorem pt_at1 (c s:Nat)(x:Int)(r:Nat)(h:1<(pt c s x r).size):(pt c s x r)[1]'h=.int .u64 (wd s 0):=rfl
theorem pt_at2 (c s:Nat)(x:Int)(r:Nat)(h:2<(pt c s x r).size):(pt c s x r)[2]'h=.int .u64 (wd s 1):=rfl
theorem pt_at3 (c s:Nat)(x:Int)(r:Nat)(h:3<(pt c s x r).size):(pt c s x r)[3]'h=.int .u64 (wd s 2):=rfl
theorem pt_at4 (c s:Nat)(x:Int)(r:Nat)(h:4<(pt c s x r).size):(pt c s x r)[4]'h=.int .u64 (wd s 3):=rfl
theorem pt_at5 (c s:Nat)(x:Int)(r:Nat)(h:5<(pt c s x r).size):(pt c s x r)[5]'h=.int .u64 (wd s 4):=rfl
theorem pt_at6 (c s:Nat)(x:Int)(r:Nat)(h:6<(pt c s x r).size):(pt c s x r)[6]'h=.int .u64 (wd s 5):=rfl
theorem pt_at7 (c s:Nat)(x:Int)(r:Nat)(h:7<(pt c s x r).size):(pt c s x r)[7]'h=.int .i64 x:=rfl
theorem pt_at8 (c s:Nat)(x:Int)(r:Nat)(h:8<(pt c s x r).size):(pt c s x r)[8]'h=.int .u64 (wd r 0):=rfl
theorem pt_at9 (c s:Nat)(x:Int)(r:Nat)(h:9<(pt c s x r).size):(pt c s x r)[9]'h=.int .u64 (wd r 1):=rfl
theorem pt_at10 (c s:Nat)(x:Int)(r:Nat)(h:10<(pt c s x r).size):(pt c s x r)[10]'h=.int .u64 (wd r 2):=rfl
theorem pt_at11 (c s:Nat)(x:Int)(r:Nat)(h:11<(pt c s x r).size):(pt c s x r)[11]'h=.int .u64 (wd r 3):=rfl
theorem pt_at12 (c s:Nat)(x:Int)(r:Nat)(h:12<(pt c s x r).size):(pt c s x r)[12]'h=.int .u64 (wd r 4):=rfl
theorem pt_at13 (c s:Nat)(x:Int)(r:Nat)(h:13<(pt c s x r).size):(pt c s x r)[13]'h=.int .u64 (wd r 5):=rfl
theorem kparts_nan (f:Int)(x y c u v t:Nat)(w:World)
  (KC:xK 123 #[.int .u8 f,.agg #[.int .u64 x,.int .u64 y]] (.int .u8 c))
  (KF:xK 124 #[.int .u8 f,.agg #[.int .u64 x,.int .u64 y]] (.agg #[.int .u64 u,.int .u64 v]))
  (KO:zZ 72 #[.agg #[.int .u64 u,.int .u64 v]] (.agg (cw 6 t)))
  (hc:c=8∨c=9) (hT:y6 w):Calls Tryz.prog 69 #[.int .u8 f,.agg #[.int .u64 x,.int .u64 y]] w fun r w'=>r=.returned (.agg (pt c 0 0 t))/\Below w.heap.size w w':=by
 have hat:=yD 6;have hz:=yZ;have hff:=yY;have hs0:=jD;have hcs:∀ x,((cw 6 x).size=6)=True:=fun x=>eq_true (z8 6 x);have hp1:=ptf;have hp2:=ptc;have hp3:=ptz;have hp4:=st_p0;have hp6:=pt_set;have hp7:=pt_setl;have hp5:∀ (c s:Nat) (x:Int) (r:Nat),((pt c s x r).size=14)=True:=fun _ _ _ _=>eq_true rfl;have ha0:=pt_at0;have ha1:=pt_at1;have ha2:=pt_at2;have ha3:=pt_at3;have ha4:=pt_at4;have ha5:=pt_at5;have ha6:=pt_at6;have ha7:=pt_at7;have ha8:=pt_at8;have ha9:=pt_at9;have ha10:=pt_at10;have ha11:=pt_at11;have ha12:=pt_at12;have ha13:=pt_at13;have TT:=zJ hT;clear hT
 rcases hc with hc|hc
 ·
  have f8:((c:Int) == 8)=true:=by rw [hc];rfl
  clear hc;obtain⟨As,At,B0⟩:=x9 w (Obj.cells #[.int .u64 x,.int .u64 y] 26) (Obj.cells (pt 0 0 0 0) 54)
  go_enter Tryz.func69,Tryz.ntmps69
  go_wp2_with fail
  refine (KC.out _ (z7 TT.out B0)).mono ?_;rintro r w1 ⟨rfl,b1⟩;have B1:Below w.heap.size w w1:=zX B0 b1;obtain⟨Af,Ag⟩:=z6 b1 As At;clear b1 B0 As At;obtain⟨AA,AB⟩:=zO Af;obtain⟨AC,AD,AE,AF,AG,AH,AI,AJ,AK,AL,AM,AN,AO,AP⟩:=zH Ag;have S2:=zJ B1.size;have Aa:=yC Af;have Ab:=yC Ag;have Al:=heap_alloc_last w1 (Obj.cells (pt c 0 0 0) 54);have B2:=zX B1 (yB w1 (Obj.cells (pt c 0 0 0) 54));obtain⟨Am,An⟩:=z6 (yB w1 (Obj.cells (pt c 0 0 0) 54)) Af Ag;clear B1 Af AA AB Ag AC AD AE AF AG AH AI AJ AK AL AM AN AO AP;obtain⟨AQ,AR⟩:=zO Am;obtain⟨AS,AT,AU,AV,AW,AX,AY,AZ,A0,A1,A2,A3,A4,A5⟩:=zH An;obtain⟨A6,A7,A8,A9,Ba,Bb,Bc,Bd,Be,Bf,Bg,Bh,Bi,Bj⟩:=zH Al;go_wp2_with fail
  refine (KF.out _ (z7 TT.out B2)).mono ?_;rintro r w3 ⟨rfl,b3⟩;have B3:Below w.heap.size w w3:=zX B2 b3;obtain⟨Ao,Ap,Aq⟩:=yJ b3 Am An Al;clear b3 B2 Am AQ AR An AS AT AU AV AW AX AY AZ A0 A1 A2 A3 A4 A5 Al A6 A7 A8 A9 Ba Bb Bc Bd Be Bf Bg Bh Bi Bj;obtain⟨Bk,Bl⟩:=zO Ao;obtain⟨Bm,Bn,Bo,Bp,Bq,Br,Bs,Bt,Bu,Bv,Bw,Bx,By,Bz⟩:=zH Ap;obtain⟨BA,BB,BC,BD,BE,BF,BG,BH,BI,BJ,BK,BL,BM,BN⟩:=zH Aq;go_wp2_with fail
  refine (KO.out _).mono ?_;rintro r w4 ⟨rfl,b4⟩;have B4:Below w.heap.size w w4:=zX B3 b4;obtain⟨Ah,Ai,Aj⟩:=yJ b4 Ao Ap Aq;clear b4 B3 Ao Bk Bl Ap Bm Bn Bo Bp Bq Br Bs Bt Bu Bv Bw Bx By Bz Aq BA BB BC BD BE BF BG BH BI BJ BK BL BM BN;obtain⟨BO,BP⟩:=zO Ah;obtain⟨BQ,BR,BS,BT,BU,BV,BW,BX,BY,BZ,B7,B8,B9,Ca⟩:=zH Ai;obtain⟨Cb,Cc,Cd,Ce,Cf,Cg,Ch,Ci,Cj,Ck,Cl,Cm,Cn,Co⟩:=zH Aj;have S5:=zJ B4.size;have Ac:=yC Ah;have Ad:=yC Ai;have Ae:=yC Aj;have Au:=heap_alloc_last w4 (Obj.cells (cw 6 t) 52);have B5:=zX B4 (yB w4 (Obj.cells (cw 6 t) 52));obtain⟨Av,Aw,Ar⟩:=yJ (yB w4 (Obj.cells (cw 6 t) 52)) Ah Ai Aj;clear B4 Ah BO BP Ai BQ BR BS BT BU BV BW BX BY BZ B7 B8 B9 Ca Aj Cb Cc Cd Ce Cf Cg Ch Ci Cj Ck Cl Cm Cn Co;obtain⟨Cr,Cs⟩:=zO Av;obtain⟨Ct,Cu,Cv,Cw,Cx,Cy,Cz,CA,CB,CC,CD,CE,CF,CG⟩:=zH Aw;obtain⟨CH,CI,CJ,CK,CL,CM,CN,CO,CP,CQ,CR,CS,CT,CU⟩:=zH Ar;have CV:=zG Au;have Cp:=st_p8 (w4.alloc (Obj.cells (cw 6 t) 52)) (w1.heap.size) c 0 0 0 t Ar;have B6:=z9 (c:=(pt c 0 0 t)) B5 (show w.heap.size<=w1.heap.size by first|exact Nat.le_refl _|omega|(have:=S2.out;have:=Aa.out;have:=Ab.out;have:=S5.out;have:=Ac.out;have:=Ad.out;have:=Ae.out;omega));have Ax:=zT (c':=(pt c 0 0 t)) Ar;have Ay:((w4.alloc (Obj.cells (cw 6 t) 52)).setRow (w1.heap.size) (pt c 0 0 t)).heap[w.heap.size]?=some (.cells #[.int .u64 x,.int .u64 y] 26):=by rw [zK (by first|omega|(have:=S2.out;have:=Aa.out;have:=Ab.out;have:=S5.out;have:=Ac.out;have:=Ad.out;have:=Ae.out;omega))];exact Av
  have Ak:((w4.alloc (Obj.cells (cw 6 t) 52)).setRow (w1.heap.size) (pt c 0 0 t)).heap[w.heap.size+1]?=some (.cells (pt 0 0 0 0) 54):=by rw [zK (by first|omega|(have:=S2.out;have:=Aa.out;have:=Ab.out;have:=S5.out;have:=Ac.out;have:=Ad.out;have:=Ae.out;omega))];exact Aw
  have Az:((w4.alloc (Obj.cells (cw 6 t) 52)).setRow (w1.heap.size) (pt c 0 0 t)).heap[w4.heap.size]?=some (.cells (cw 6 t) 52):=by rw [zK (by first|omega|(have:=S2.out;have:=Aa.out;have:=Ab.out;have:=S5.out;have:=Ac.out;have:=Ad.out;have:=Ae.out;omega))];exact Au
  obtain⟨w6,Cq⟩:∃ V,(w4.alloc (Obj.cells (cw 6 t) 52)).setRow (w1.heap.size) (pt c 0 0 t)=V:=⟨_,rfl⟩;rw [Cq] at Cp B6 Ay Ak Ax Az;obtain⟨CW,CX⟩:=zO Ay;obtain⟨CY,CZ,C0,C1,C2,C3,C4,C5,C6,C7,C8,C9,Da,Db⟩:=zH Ak;obtain⟨Dc,Dd,De,Df,Dg,Dh,Di,Dj,Dk,Dl,Dm,Dn,Do,Dp⟩:=zH Ax;have Dq:=zG Az;have hstz:=st_p w6 (w.heap.size+1) c 0 0 t 0 0 0 0 Ak;have RZ:=zT (c':=pt c 0 0 t) Ak;obtain⟨dz0,dz1,dz2,dz3,dz4,dz5,dz6,dz7,dz8,dz9,dz10,dz11,dz12,dz13⟩:=zH RZ;have bz:=z9 (c:=pt c 0 0 t) B6 (show w.heap.size<=w.heap.size+1 by first|exact Nat.le_refl _|omega|(have:=S2.out;have:=Aa.out;have:=Ab.out;have:=S5.out;have:=Ac.out;have:=Ad.out;have:=Ae.out;omega));go_wp2
  exact bodyPost_ret (v:=.agg (pt c 0 0 t)) (by simp [results,Tryz.results69,go_sem,dz0,dz1,dz2,dz3,dz4,dz5,dz6,dz7,dz8,dz9,dz10,dz11,dz12,dz13,ptf] <;> rfl) rfl ⟨rfl,bz⟩
 ·
  have f8:((c:Int) == 8)=false:=by rw [hc];rfl
  have f9:((c:Int) == 9)=true:=by rw [hc];rfl
  clear hc;obtain⟨As,At,B0⟩:=x9 w (Obj.cells #[.int .u64 x,.int .u64 y] 26) (Obj.cells (pt 0 0 0 0) 54)
  go_enter Tryz.func69,Tryz.ntmps69
  go_wp2_with fail
  refine (KC.out _ (z7 TT.out B0)).mono ?_;rintro r w1 ⟨rfl,b1⟩;have B1:Below w.heap.size w w1:=zX B0 b1;obtain⟨Af,Ag⟩:=z6 b1 As At;clear b1 B0 As At;obtain⟨AA,AB⟩:=zO Af;obtain⟨AC,AD,AE,AF,AG,AH,AI,AJ,AK,AL,AM,AN,AO,AP⟩:=zH Ag;have S2:=zJ B1.size;have Aa:=yC Af;have Ab:=yC Ag;have Al:=heap_alloc_last w1 (Obj.cells (pt c 0 0 0) 54);have B2:=zX B1 (yB w1 (Obj.cells (pt c 0 0 0) 54));obtain⟨Am,An⟩:=z6 (yB w1 (Obj.cells (pt c 0 0 0) 54)) Af Ag;clear B1 Af AA AB Ag AC AD AE AF AG AH AI AJ AK AL AM AN AO AP;obtain⟨AQ,AR⟩:=zO Am;obtain⟨AS,AT,AU,AV,AW,AX,AY,AZ,A0,A1,A2,A3,A4,A5⟩:=zH An;obtain⟨A6,A7,A8,A9,Ba,Bb,Bc,Bd,Be,Bf,Bg,Bh,Bi,Bj⟩:=zH Al;go_wp2_with fail
  refine (KF.out _ (z7 TT.out B2)).mono ?_;rintro r w3 ⟨rfl,b3⟩;have B3:Below w.heap.size w w3:=zX B2 b3;obtain⟨Ao,Ap,Aq⟩:=yJ b3 Am An Al;clear b3 B2 Am AQ AR An AS AT AU AV AW AX AY AZ A0 A1 A2 A3 A4 A5 Al A6 A7 A8 A9 Ba Bb Bc Bd Be Bf Bg Bh Bi Bj;obtain⟨Bk,Bl⟩:=zO Ao;obtain⟨Bm,Bn,Bo,Bp,Bq,Br,Bs,Bt,Bu,Bv,Bw,Bx,By,Bz⟩:=zH Ap;obtain⟨BA,BB,BC,BD,BE,BF,BG,BH,BI,BJ,BK,BL,BM,BN⟩:=zH Aq;go_wp2_with fail
  refine (KO.out _).mono ?_;rintro r w4 ⟨rfl,b4⟩;have B4:Below w.heap.size w w4:=zX B3 b4;obtain⟨Ah,Ai,Aj⟩:=yJ b4 Ao Ap Aq;clear b4 B3 Ao Bk Bl Ap Bm Bn Bo Bp Bq Br Bs Bt Bu Bv Bw Bx By Bz Aq BA BB BC BD BE BF BG BH BI BJ BK BL BM BN;obtain⟨BO,BP⟩:=zO Ah;obtain⟨BQ,BR,BS,BT,BU,BV,BW,BX,BY,BZ,B7,B8,B9,Ca⟩:=zH Ai;obtain⟨Cb,Cc,Cd,Ce,Cf,Cg,Ch,Ci,Cj,Ck,Cl,Cm,Cn,Co⟩:=zH Aj;have S5:=zJ B4.size;have Ac:=yC Ah;have Ad:=yC Ai;have Ae:=yC Aj;have Au:=heap_alloc_last w4 (Obj.cells (cw 6 t) 52);have B5:=zX B4 (yB w4 (Obj.cells (cw 6 t) 52));obtain⟨Av,Aw,Ar⟩:=yJ (yB w4 (Obj.cells (cw 6 t) 52)) Ah Ai Aj;clear B4 Ah BO BP Ai BQ BR BS BT BU BV BW BX BY BZ B7 B8 B9 Ca Aj Cb Cc Cd Ce Cf Cg Ch Ci Cj Ck Cl Cm Cn Co;obtain⟨Cr,Cs⟩:=zO Av;obtain⟨Ct,Cu,Cv,Cw,Cx,Cy,Cz,CA,CB,CC,CD,CE,CF,CG⟩:=zH Aw;obtain⟨CH,CI,CJ,CK,CL,CM,CN,CO,CP,CQ,CR,CS,CT,CU⟩:=zH Ar;have CV:=zG Au;have Cp:=st_p8 (w4.alloc (Obj.cells (cw 6 t) 52)) (w1.heap.size) c 0 0 0 t Ar;have B6:=z9 (c:=(pt c 0 0 t)) B5 (show w.heap.size<=w1.heap.size by first|exact Nat.le_refl _|omega|(have:=S2.out;have:=Aa.out;have:=Ab.out;have:=S5.out;have:=Ac.out;have:=Ad.out;have:=Ae.out;omega));have Ax:=zT (c':=(pt c 0 0 t)) Ar;have Ay:((w4.alloc (Obj.cells (cw 6 t) 52)).setRow (w1.heap.size) (pt c 0 0 t)).heap[w.heap.size]?=some (.cells #[.int .u64 x,.int .u64 y] 26):=by rw [zK (by first|omega|(have:=S2.out;have:=Aa.out;have:=Ab.out;have:=S5.out;have:=Ac.out;have:=Ad.out;have:=Ae.out;omega))];exact Av
  have Ak:((w4.alloc (Obj.cells (cw 6 t) 52)).setRow (w1.heap.size) (pt c 0 0 t)).heap[w.heap.size+1]?=some (.cells (pt 0 0 0 0) 54):=by rw [zK (by first|omega|(have:=S2.out;have:=Aa.out;have:=Ab.out;have:=S5.out;have:=Ac.out;have:=Ad.out;have:=Ae.out;omega))];exact Aw
  have Az:((w4.alloc (Obj.cells (cw 6 t) 52)).setRow (w1.heap.size) (pt c 0 0 t)).heap[w4.heap.size]?=some (.cells (cw 6 t) 52):=by rw [zK (by first|omega|(have:=S2.out;have:=Aa.out;have:=Ab.out;have:=S5.out;have:=Ac.out;have:=Ad.out;have:=Ae.out;omega))];exact Au
  obtain⟨w6,Cq⟩:∃ V,(w4.alloc (Obj.cells (cw 6 t) 52)).setRow (w1.heap.size) (pt c 0 0 t)=V:=⟨_,rfl⟩;rw [Cq] at Cp B6 Ay Ak Ax Az;obtain⟨CW,CX⟩:=zO Ay;obtain⟨CY,CZ,C0,C1,C2,C3,C4,C5,C6,C7,C8,C9,Da,Db⟩:=zH Ak;obtain⟨Dc,Dd,De,Df,Dg,Dh,Di,Dj,Dk,Dl,Dm,Dn,Do,Dp⟩:=zH Ax;have Dq:=zG Az;have hstz:=st_p w6 (w.heap.size+1) c 0 0 t 0 0 0 0 Ak;have RZ:=zT (c':=pt c 0 0 t) Ak;obtain⟨dz0,dz1,dz2,dz3,dz4,dz5,dz6,dz7,dz8,dz9,dz10,dz11,dz12,dz13⟩:=zH RZ;have bz:=z9 (c:=pt c 0 0 t) B6 (show w.heap.size<=w.heap.size+1 by first|exact Nat.le_refl _|omega|(have:=S2.out;have:=Aa.out;have:=Ab.out;have:=S5.out;have:=Ac.out;have:=Ad.out;have:=Ae.out;omega));go_wp2
  exact bodyPost_ret (v:=.agg (pt c 0 0 t)) (by simp [results,Tryz.results69,go_sem,dz0,dz1,dz2,dz3,dz4,dz5,dz6,dz7,dz8,dz9,dz10,dz11,dz12,dz13,ptf] <;> rfl) rfl ⟨rfl,bz⟩
theorem kparts_none (f:Int)(x y c u v t:Nat)(w:World)
  (KC:xK 123 #[.int .u8 f,.agg #[.int .u64 x,.int .u64 y]] (.int .u8 c))
  (KF:xK 124 #[.int .u8 f,.agg #[.int .u64 x,.int .u64 y]] (.agg #[.int .u64 u,.int .u64 v]))
  (KO:zZ 72 #[.agg #[.int .u64 u,.int .u64 v]] (.agg (cw 6 t)))
  (hc:c=0∨c=3∨c=4∨c=7) (hT:y6 w):Calls Tryz.prog 69 #[.int .u8 f,.agg #[.int .u64 x,.int .u64 y]] w fun r w'=>r=.returned (.agg (pt c 0 0 0))/\Below w.heap.size w w':=by
 have hat:=yD 6;have hz:=yZ;have hff:=yY;have hs0:=jD;have hcs:∀ x,((cw 6 x).size=6)=True:=fun x=>eq_true (z8 6 x);have hp1:=ptf;have hp2:=ptc;have hp3:=ptz;have hp4:=st_p0;have hp6:=pt_set;have hp7:=pt_setl;have hp5:∀ (c s:Nat) (x:Int) (r:Nat),((pt c s x r).size=14)=True:=fun _ _ _ _=>eq_true rfl;have ha0:=pt_at0;have ha1:=pt_at1;have ha2:=pt_at2;have ha3:=pt_at3;have ha4:=pt_at4;have ha5:=pt_at5;have ha6:=pt_at6;have ha7:=pt_at7;have ha8:=pt_at8;have ha9:=pt_at9;have ha10:=pt_at10;have ha11:=pt_at11;have ha12:=pt_at12;have ha13:=pt_at13;have TT:=zJ hT;clear hT
 rcases hc with hc|hc|hc|hc
 ·
  have f8:((c:Int) == 8)=false:=by rw [hc];rfl
  have f9:((c:Int) == 9)=false:=by rw [hc];rfl
  have f2:((c:Int) == 2)=false:=by rw [hc];rfl
  have f5:((c:Int) == 5)=false:=by rw [hc];rfl
  have f1:((c:Int) == 1)=false:=by rw [hc];rfl
  have f6:((c:Int) == 6)=false:=by rw [hc];rfl
  clear hc;obtain⟨Am,An,B0⟩:=x9 w (Obj.cells #[.int .u64 x,.int .u64 y] 26) (Obj.cells (pt 0 0 0 0) 54)
  go_enter Tryz.func69,Tryz.ntmps69
  go_wp2_with fail
  refine (KC.out _ (z7 TT.out B0)).mono ?_;rintro r w1 ⟨rfl,b1⟩;have B1:Below w.heap.size w w1:=zX B0 b1;obtain⟨Aa,Ab⟩:=z6 b1 Am An;clear b1 B0 Am An;obtain⟨Ao,Ap⟩:=zO Aa;obtain⟨Aq,Ar,As,At,Au,Av,Aw,Ax,Ay,Az,AA,AB,AC,AD⟩:=zH Ab;have S2:=zJ B1.size;have AE:=yC Aa;have AF:=yC Ab;have Af:=heap_alloc_last w1 (Obj.cells (pt c 0 0 0) 54);have B2:=zX B1 (yB w1 (Obj.cells (pt c 0 0 0) 54));obtain⟨Ag,Ah⟩:=z6 (yB w1 (Obj.cells (pt c 0 0 0) 54)) Aa Ab;clear B1 Aa Ao Ap Ab Aq Ar As At Au Av Aw Ax Ay Az AA AB AC AD;obtain⟨AG,AH⟩:=zO Ag;obtain⟨AI,AJ,AK,AL,AM,AN,AO,AP,AQ,AR,AS,AT,AU,AV⟩:=zH Ah;obtain⟨AW,AX,AY,AZ,A0,A1,A2,A3,A4,A5,A6,A7,A8,A9⟩:=zH Af;go_wp2_with fail
  refine (KF.out _ (z7 TT.out B2)).mono ?_;rintro r w3 ⟨rfl,b3⟩;have B3:Below w.heap.size w w3:=zX B2 b3;obtain⟨Ai,Aj,Ak⟩:=yJ b3 Ag Ah Af;clear b3 B2 Ag AG AH Ah AI AJ AK AL AM AN AO AP AQ AR AS AT AU AV Af AW AX AY AZ A0 A1 A2 A3 A4 A5 A6 A7 A8 A9;obtain⟨Ba,Bb⟩:=zO Ai;obtain⟨Bc,Bd,Be,Bf,Bg,Bh,Bi,Bj,Bk,Bl,Bm,Bn,Bo,Bp⟩:=zH Aj;obtain⟨Bq,Br,Bs,Bt,Bu,Bv,Bw,Bx,By,Bz,BA,BB,BC,BD⟩:=zH Ak;go_wp2_with fail
  refine (KO.out _).mono ?_;rintro r w4 ⟨rfl,b4⟩;have B4:Below w.heap.size w w4:=zX B3 b4;obtain⟨Ac,Ad,Ae⟩:=yJ b4 Ai Aj Ak;clear b4 B3 Ai Ba Bb Aj Bc Bd Be Bf Bg Bh Bi Bj Bk Bl Bm Bn Bo Bp Ak Bq Br Bs Bt Bu Bv Bw Bx By Bz BA BB BC BD;obtain⟨BE,BF⟩:=zO Ac;obtain⟨BG,BH,BI,BJ,BK,BL,BM,BN,BO,BP,BQ,BR,BS,BT⟩:=zH Ad;obtain⟨BU,BV,BW,BX,BY,BZ,B6,B7,B8,B9,Ca,Cb,Cc,Cd⟩:=zH Ae;have S5:=zJ B4.size;have Ce:=yC Ac;have Cf:=yC Ad;have Cg:=yC Ae;have Ch:=heap_alloc_last w4 (Obj.cells (cw 6 t) 52);have B5:=zX B4 (yB w4 (Obj.cells (cw 6 t) 52));obtain⟨Ci,Al,Cj⟩:=yJ (yB w4 (Obj.cells (cw 6 t) 52)) Ac Ad Ae;clear B4 Ac BE BF Ad BG BH BI BJ BK BL BM BN BO BP BQ BR BS BT Ae BU BV BW BX BY BZ B6 B7 B8 B9 Ca Cb Cc Cd;obtain⟨Ck,Cl⟩:=zO Ci;obtain⟨Cm,Cn,Co,Cp,Cq,Cr,Cs,Ct,Cu,Cv,Cw,Cx,Cy,Cz⟩:=zH Al;obtain⟨CA,CB,CC,CD,CE,CF,CG,CH,CI,CJ,CK,CL,CM,CN⟩:=zH Cj;have CO:=zG Ch;have hstz:=st_p (w4.alloc (Obj.cells (cw 6 t) 52)) (w.heap.size+1) c 0 0 0 0 0 0 0 Al;have RZ:=zT (c':=pt c 0 0 0) Al;obtain⟨dz0,dz1,dz2,dz3,dz4,dz5,dz6,dz7,dz8,dz9,dz10,dz11,dz12,dz13⟩:=zH RZ;have bz:=z9 (c:=pt c 0 0 0) B5 (show w.heap.size<=w.heap.size+1 by first|exact Nat.le_refl _|omega|(have:=S2.out;have:=AE.out;have:=AF.out;have:=S5.out;have:=Ce.out;have:=Cf.out;have:=Cg.out;omega));go_wp2
  exact bodyPost_ret (v:=.agg (pt c 0 0 0)) (by simp [results,Tryz.results69,go_sem,dz0,dz1,dz2,dz3,dz4,dz5,dz6,dz7,dz8,dz9,dz10,dz11,dz12,dz13,ptf] <;> rfl) rfl ⟨rfl,bz⟩
 ·
  have f8:((c:Int) == 8)=false:=by rw [hc];rfl
  have f9:((c:Int) == 9)=false:=by rw [hc];rfl
  have f2:((c:Int) == 2)=false:=by rw [hc];rfl
  have f5:((c:Int) == 5)=false:=by rw [hc];rfl
  have f1:((c:Int) == 1)=false:=by rw [hc];rfl
  have f6:((c:Int) == 6)=false:=by rw [hc];rfl
  clear hc;obtain⟨Am,An,B0⟩:=x9 w (Obj.cells #[.int .u64 x,.int .u64 y] 26) (Obj.cells (pt 0 0 0 0) 54)
  go_enter Tryz.func69,Tryz.ntmps69
  go_wp2_with fail
  refine (KC.out _ (z7 TT.out B0)).mono ?_;rintro r w1 ⟨rfl,b1⟩;have B1:Below w.heap.size w w1:=zX B0 b1;obtain⟨Aa,Ab⟩:=z6 b1 Am An;clear b1 B0 Am An;obtain⟨Ao,Ap⟩:=zO Aa;obtain⟨Aq,Ar,As,At,Au,Av,Aw,Ax,Ay,Az,AA,AB,AC,AD⟩:=zH Ab;have S2:=zJ B1.size;have AE:=yC Aa;have AF:=yC Ab;have Af:=heap_alloc_last w1 (Obj.cells (pt c 0 0 0) 54);have B2:=zX B1 (yB w1 (Obj.cells (pt c 0 0 0) 54));obtain⟨Ag,Ah⟩:=z6 (yB w1 (Obj.cells (pt c 0 0 0) 54)) Aa Ab;clear B1 Aa Ao Ap Ab Aq Ar As At Au Av Aw Ax Ay Az AA AB AC AD;obtain⟨AG,AH⟩:=zO Ag;obtain⟨AI,AJ,AK,AL,AM,AN,AO,AP,AQ,AR,AS,AT,AU,AV⟩:=zH Ah;obtain⟨AW,AX,AY,AZ,A0,A1,A2,A3,A4,A5,A6,A7,A8,A9⟩:=zH Af;go_wp2_with fail
  refine (KF.out _ (z7 TT.out B2)).mono ?_;rintro r w3 ⟨rfl,b3⟩;have B3:Below w.heap.size w w3:=zX B2 b3;obtain⟨Ai,Aj,Ak⟩:=yJ b3 Ag Ah Af;clear b3 B2 Ag AG AH Ah AI AJ AK AL AM AN AO AP AQ AR AS AT AU AV Af AW AX AY AZ A0 A1 A2 A3 A4 A5 A6 A7 A8 A9;obtain⟨Ba,Bb⟩:=zO Ai;obtain⟨Bc,Bd,Be,Bf,Bg,Bh,Bi,Bj,Bk,Bl,Bm,Bn,Bo,Bp⟩:=zH Aj;obtain⟨Bq,Br,Bs,Bt,Bu,Bv,Bw,Bx,By,Bz,BA,BB,BC,BD⟩:=zH Ak;go_wp2_with fail
  refine (KO.out _).mono ?_;rintro r w4 ⟨rfl,b4⟩;have B4:Below w.heap.size w w4:=zX B3 b4;obtain⟨Ac,Ad,Ae⟩:=yJ b4 Ai Aj Ak;clear b4 B3 Ai Ba Bb Aj Bc Bd Be Bf Bg Bh Bi Bj Bk Bl Bm Bn Bo Bp Ak Bq Br Bs Bt Bu Bv Bw Bx By Bz BA BB BC BD;obtain⟨BE,BF⟩:=zO Ac;obtain⟨BG,BH,BI,BJ,BK,BL,BM,BN,BO,BP,BQ,BR,BS,BT⟩:=zH Ad;obtain⟨BU,BV,BW,BX,BY,BZ,B6,B7,B8,B9,Ca,Cb,Cc,Cd⟩:=zH Ae;have S5:=zJ B4.size;have Ce:=yC Ac;have Cf:=yC Ad;have Cg:=yC Ae;have Ch:=heap_alloc_last w4 (Obj.cells (cw 6 t) 52);have B5:=zX B4 (yB w4 (Obj.cells (cw 6 t) 52));obtain⟨Ci,Al,Cj⟩:=yJ (yB w4 (Obj.cells (cw 6 t) 52)) Ac Ad Ae;clear B4 Ac BE BF Ad BG BH BI BJ BK BL BM BN BO BP BQ BR BS BT Ae BU BV BW BX BY BZ B6 B7 B8 B9 Ca Cb Cc Cd;obtain⟨Ck,Cl⟩:=zO Ci;obtain⟨Cm,Cn,Co,Cp,Cq,Cr,Cs,Ct,Cu,Cv,Cw,Cx,Cy,Cz⟩:=zH Al;obtain⟨CA,CB,CC,CD,CE,CF,CG,CH,CI,CJ,CK,CL,CM,CN⟩:=zH Cj;have CO:=zG Ch;have hstz:=st_p (w4.alloc (Obj.cells (cw 6 t) 52)) (w.heap.size+1) c 0 0 0 0 0 0 0 Al;have RZ:=zT (c':=pt c 0 0 0) Al;obtain⟨dz0,dz1,dz2,dz3,dz4,dz5,dz6,dz7,dz8,dz9,dz10,dz11,dz12,dz13⟩:=zH RZ;have bz:=z9 (c:=pt c 0 0 0) B5 (show w.heap.size<=w.heap.size+1 by first|exact Nat.le_refl _|omega|(have:=S2.out;have:=AE.out;have:=AF.out;have:=S5.out;have:=Ce.out;have:=Cf.out;have:=Cg.out;omega));go_wp2
  exact bodyPost_ret (v:=.agg (pt c 0 0 0)) (by simp [results,Tryz.results69,go_sem,dz0,dz1,dz2,dz3,dz4,dz5,dz6,dz7,dz8,dz9,dz10,dz11,dz12,dz13,ptf] <;> rfl) rfl ⟨rfl,bz⟩
 ·
  have f8:((c:Int) == 8)=false:=by rw [hc];rfl
  have f9:((c:Int) == 9)=false:=by rw [hc];rfl
  have f2:((c:Int) == 2)=false:=by rw [hc];rfl
  have f5:((c:Int) == 5)=false:=by rw [hc];rfl
  have f1:((c:Int) == 1)=false:=by rw [hc];rfl
  have f6:((c:Int) == 6)=false:=by rw [hc];rfl
  clear hc;obtain⟨Am,An,B0⟩:=x9 w (Obj.cells #[.int .u64 x,.int .u64 y] 26) (Obj.cells (pt 0 0 0 0) 54)
  go_enter Tryz.func69,Tryz.ntmps69
  go_wp2_with fail
  refine (KC.out _ (z7 TT.out B0)).mono ?_;rintro r w1 ⟨rfl,b1⟩;have B1:Below w.heap.size w w1:=zX B0 b1;obtain⟨Aa,Ab⟩:=z6 b1 Am An;clear b1 B0 Am An;obtain⟨Ao,Ap⟩:=zO Aa;obtain⟨Aq,Ar,As,At,Au,Av,Aw,Ax,Ay,Az,AA,AB,AC,AD⟩:=zH Ab;have S2:=zJ B1.size;have AE:=yC Aa;have AF:=yC Ab;have Af:=heap_alloc_last w1 (Obj.cells (pt c 0 0 0) 54);have B2:=zX B1 (yB w1 (Obj.cells (pt c 0 0 0) 54));obtain⟨Ag,Ah⟩:=z6 (yB w1 (Obj.cells (pt c 0 0 0) 54)) Aa Ab;clear B1 Aa Ao Ap Ab Aq Ar As At Au Av Aw Ax Ay Az AA AB AC AD;obtain⟨AG,AH⟩:=zO Ag;obtain⟨AI,AJ,AK,AL,AM,AN,AO,AP,AQ,AR,AS,AT,AU,AV⟩:=zH Ah;obtain⟨AW,AX,AY,AZ,A0,A1,A2,A3,A4,A5,A6,A7,A8,A9⟩:=zH Af;go_wp2_with fail
  refine (KF.out _ (z7 TT.out B2)).mono ?_;rintro r w3 ⟨rfl,b3⟩;have B3:Below w.heap.size w w3:=zX B2 b3;obtain⟨Ai,Aj,Ak⟩:=yJ b3 Ag Ah Af;clear b3 B2 Ag AG AH Ah AI AJ AK AL AM AN AO AP AQ AR AS AT AU AV Af AW AX AY AZ A0 A1 A2 A3 A4 A5 A6 A7 A8 A9;obtain⟨Ba,Bb⟩:=zO Ai;obtain⟨Bc,Bd,Be,Bf,Bg,Bh,Bi,Bj,Bk,Bl,Bm,Bn,Bo,Bp⟩:=zH Aj;obtain⟨Bq,Br,Bs,Bt,Bu,Bv,Bw,Bx,By,Bz,BA,BB,BC,BD⟩:=zH Ak;go_wp2_with fail
  refine (KO.out _).mono ?_;rintro r w4 ⟨rfl,b4⟩;have B4:Below w.heap.size w w4:=zX B3 b4;obtain⟨Ac,Ad,Ae⟩:=yJ b4 Ai Aj Ak;clear b4 B3 Ai Ba Bb Aj Bc Bd Be Bf Bg Bh Bi Bj Bk Bl Bm Bn Bo Bp Ak Bq Br Bs Bt Bu Bv Bw Bx By Bz BA BB BC BD;obtain⟨BE,BF⟩:=zO Ac;obtain⟨BG,BH,BI,BJ,BK,BL,BM,BN,BO,BP,BQ,BR,BS,BT⟩:=zH Ad;obtain⟨BU,BV,BW,BX,BY,BZ,B6,B7,B8,B9,Ca,Cb,Cc,Cd⟩:=zH Ae;have S5:=zJ B4.size;have Ce:=yC Ac;have Cf:=yC Ad;have Cg:=yC Ae;have Ch:=heap_alloc_last w4 (Obj.cells (cw 6 t) 52);have B5:=zX B4 (yB w4 (Obj.cells (cw 6 t) 52));obtain⟨Ci,Al,Cj⟩:=yJ (yB w4 (Obj.cells (cw 6 t) 52)) Ac Ad Ae;clear B4 Ac BE BF Ad BG BH BI BJ BK BL BM BN BO BP BQ BR BS BT Ae BU BV BW BX BY BZ B6 B7 B8 B9 Ca Cb Cc Cd;obtain⟨Ck,Cl⟩:=zO Ci;obtain⟨Cm,Cn,Co,Cp,Cq,Cr,Cs,Ct,Cu,Cv,Cw,Cx,Cy,Cz⟩:=zH Al;obtain⟨CA,CB,CC,CD,CE,CF,CG,CH,CI,CJ,CK,CL,CM,CN⟩:=zH Cj;have CO:=zG Ch;have hstz:=st_p (w4.alloc (Obj.cells (cw 6 t) 52)) (w.heap.size+1) c 0 0 0 0 0 0 0 Al;have RZ:=zT (c':=pt c 0 0 0) Al;obtain⟨dz0,dz1,dz2,dz3,dz4,dz5,dz6,dz7,dz8,dz9,dz10,dz11,dz12,dz13⟩:=zH RZ;have bz:=z9 (c:=pt c 0 0 0) B5 (show w.heap.size<=w.heap.size+1 by first|exact Nat.le_refl _|omega|(have:=S2.out;have:=AE.out;have:=AF.out;have:=S5.out;have:=Ce.out;have:=Cf.out;have:=Cg.out;omega));go_wp2
  exact bodyPost_ret (v:=.agg (pt c 0 0 0)) (by simp [results,Tryz.results69,go_sem,dz0,dz1,dz2,dz3,dz4,dz5,dz6,dz7,dz8,dz9,dz10,dz11,dz12,dz13,ptf] <;> rfl) rfl ⟨rfl,bz⟩
 ·
  have f8:((c:Int) == 8)=false:=by rw [hc];rfl
  have f9:((c:Int) == 9)=false:=by rw [hc];rfl
  have f2:((c:Int) == 2)=false:=by rw [hc];rfl
  have f5:((c:Int) == 5)=false:=by rw [hc];rfl
  have f1:((c:Int) == 1)=false:=by rw [hc];rfl
  have f6:((c:Int) == 6)=false:=by rw [hc];rfl
  clear hc;obtain⟨Am,An,B0⟩:=x9 w (Obj.cells #[.int .u64 x,.int .u64 y] 26) (Obj.cells (pt 0 0 0 0) 54)
  go_enter Tryz.func69,Tryz.ntmps69
  go_wp2_with fail
  refine (KC.out _ (z7 TT.out B0)).mono ?_;rintro r w1 ⟨rfl,b1⟩;have B1:Below w.heap.size w w1:=zX B0 b1;obtain⟨Aa,Ab⟩:=z6 b1 Am An;clear b1 B0 Am An;obtain⟨Ao,Ap⟩:=zO Aa;obtain⟨Aq,Ar,As,At,Au,Av,Aw,Ax,Ay,Az,AA,AB,AC,AD⟩:=zH Ab;have S2:=zJ B1.size;have AE:=yC Aa;have AF:=yC Ab;have Af:=heap_alloc_last w1 (Obj.cells (pt c 0 0 0) 54);have B2:=zX B1 (yB w1 (Obj.cells (pt c 0 0 0) 54));obtain⟨Ag,Ah⟩:=z6 (yB w1 (Obj.cells (pt c 0 0 0) 54)) Aa Ab;clear B1 Aa Ao Ap Ab Aq Ar As At Au Av Aw Ax Ay Az AA AB AC AD;obtain⟨AG,AH⟩:=zO Ag;obtain⟨AI,AJ,AK,AL,AM,AN,AO,AP,AQ,AR,AS,AT,AU,AV⟩:=zH Ah;obtain⟨AW,AX,AY,AZ,A0,A1,A2,A3,A4,A5,A6,A7,A8,A9⟩:=zH Af;go_wp2_with fail
  refine (KF.out _ (z7 TT.out B2)).mono ?_;rintro r w3 ⟨rfl,b3⟩;have B3:Below w.heap.size w w3:=zX B2 b3;obtain⟨Ai,Aj,Ak⟩:=yJ b3 Ag Ah Af;clear b3 B2 Ag AG AH Ah AI AJ AK AL AM AN AO AP AQ AR AS AT AU AV Af AW AX AY AZ A0 A1 A2 A3 A4 A5 A6 A7 A8 A9;obtain⟨Ba,Bb⟩:=zO Ai;obtain⟨Bc,Bd,Be,Bf,Bg,Bh,Bi,Bj,Bk,Bl,Bm,Bn,Bo,Bp⟩:=zH Aj;obtain⟨Bq,Br,Bs,Bt,Bu,Bv,Bw,Bx,By,Bz,BA,BB,BC,BD⟩:=zH Ak;go_wp2_with fail
  refine (KO.out _).mono ?_;rintro r w4 ⟨rfl,b4⟩;have B4:Below w.heap.size w w4:=zX B3 b4;obtain⟨Ac,Ad,Ae⟩:=yJ b4 Ai Aj Ak;clear b4 B3 Ai Ba Bb Aj Bc Bd Be Bf Bg Bh Bi Bj Bk Bl Bm Bn Bo Bp Ak Bq Br Bs Bt Bu Bv Bw Bx By Bz BA BB BC BD;obtain⟨BE,BF⟩:=zO Ac;obtain⟨BG,BH,BI,BJ,BK,BL,BM,BN,BO,BP,BQ,BR,BS,BT⟩:=zH Ad;obtain⟨BU,BV,BW,BX,BY,BZ,B6,B7,B8,B9,Ca,Cb,Cc,Cd⟩:=zH Ae;have S5:=zJ B4.size;have Ce:=yC Ac;have Cf:=yC Ad;have Cg:=yC Ae;have Ch:=heap_alloc_last w4 (Obj.cells (cw 6 t) 52);have B5:=zX B4 (yB w4 (Obj.cells (cw 6 t) 52));obtain⟨Ci,Al,Cj⟩:=yJ (yB w4 (Obj.cells (cw 6 t) 52)) Ac Ad Ae;clear B4 Ac BE BF Ad BG BH BI BJ BK BL BM BN BO BP BQ BR BS BT Ae BU BV BW BX BY BZ B6 B7 B8 B9 Ca Cb Cc Cd;obtain⟨Ck,Cl⟩:=zO Ci;obtain⟨Cm,Cn,Co,Cp,Cq,Cr,Cs,Ct,Cu,Cv,Cw,Cx,Cy,Cz⟩:=zH Al;obtain⟨CA,CB,CC,CD,CE,CF,CG,CH,CI,CJ,CK,CL,CM,CN⟩:=zH Cj;have CO:=zG Ch;have hstz:=st_p (w4.alloc (Obj.cells (cw 6 t) 52)) (w.heap.size+1) c 0 0 0 0 0 0 0 Al;have RZ:=zT (c':=pt c 0 0 0) Al;obtain⟨dz0,dz1,dz2,dz3,dz4,dz5,dz6,dz7,dz8,dz9,dz10,dz11,dz12,dz13⟩:=zH RZ;have bz:=z9 (c:=pt c 0 0 0) B5 (show w.heap.size<=w.heap.size+1 by first|exact Nat.le_refl _|omega|(have:=S2.out;have:=AE.out;have:=AF.out;have:=S5.out;have:=Ce.out;have:=Cf.out;have:=Cg.out;omega));go_wp2
  exact bodyPost_ret (v:=.agg (pt c 0 0 0)) (by simp [results,Tryz.results69,go_sem,dz0,dz1,dz2,dz3,dz4,dz5,dz6,dz7,dz8,dz9,dz10,dz11,dz12,dz13,ptf] <;> rfl) rfl ⟨rfl,bz⟩
end Go.Proofs.YtapikkbifdldfaaGreatDoor
