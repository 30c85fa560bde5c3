/-
  What the functions that the statement reaches return: part 6 (X2, X3m, X4, X5, X7, X9, Y1).
-/
import Derived.Lib.MinMax
import Derived.Test.YtdjlfhcalccajaaGreatDoorWc05
namespace Go.Proofs.YtdjlfhcalccajaaGreatDoor
set_option maxRecDepth 100000
set_option maxHeartbeats 40000000
set_option maxRecDepth 100000
open Go.RowKit WMath XMath
theorem can_parts (b:Bool)(n d:Nat)(e:Int)(hn:nl n<=16384)(hd:nl d<=16384):(XN.mk b n d e).can↔(-1048576<=e/\e<=1048576/\((b=false/\n=0/\d=1/\e=0)∨(n % 2=1/\d % 2=1/\Nat.gcd n d=1))):=by
  unfold XN.can
  exact⟨fun h=>h.2.2,fun h=>⟨hn,hd,h⟩⟩

set_option maxRecDepth 100000 in
theorem xmay (b:Bool)(s t:ByteArray)(e:Int)(o:Bool)(ho:o=true↔MayX b s t e)(w:World):Calls Tryz.prog 114 #[.agg #[.bool b,.string s,.string t,.int .i64 e]] w fun r w'=>r=.returned (.bool o)/\Below w.heap.size w w':=by
  cases hm1:mayB s
  . have eo:o=false:=by
      cases o
      . rfl
      . have:=(mayX_s b s t e (ho.1 rfl)).1
        rw [hm1] at this;exact absurd this (by decide)
    subst eo;have H1:=box hm1;clear hm1 ho;obtain⟨Rx_0,B0⟩:=opn1 w (Obj.cells #[.bool b,.string s,.string t,.int .i64 e] 60)
    go_enter Tryz.func114,Tryz.ntmps114
    go_wp2_with fail
    go_quiet (fail)
    obtain⟨w1,hw,B1,hh⟩:=quiet_world B0 nq;rw [hw];have Rx_1:w1.heap[w.heap.size]?=some (Obj.cells #[.bool b,.string s,.string t,.int .i64 e] 60):=by rw [hh];exact Rx_0
    clear hw hh B0 Rx_0;obtain⟨cx_1_0,cx_1_1,cx_1_2,cx_1_3⟩:=cells4s Rx_1;go_wp2_with fail
    refine (nat_may s false H1.out _).mono ?_;rintro r w' ⟨rfl,rfl⟩;go_wp2
    go_ret
    exact⟨rfl,B1⟩
  cases hm2:mayB t
  . have eo:o=false:=by
      cases o
      . rfl
      . have:=(mayX_s b s t e (ho.1 rfl)).2
        rw [hm2] at this;exact absurd this (by decide)
    subst eo;have H1:=box hm1;have H2:=box hm2;clear hm1 hm2 ho;obtain⟨Rx_0,B0⟩:=opn1 w (Obj.cells #[.bool b,.string s,.string t,.int .i64 e] 60)
    go_enter Tryz.func114,Tryz.ntmps114
    go_wp2_with fail
    go_quiet (fail)
    obtain⟨w1,hw,B1,hh⟩:=quiet_world B0 nq;rw [hw];have Rx_1:w1.heap[w.heap.size]?=some (Obj.cells #[.bool b,.string s,.string t,.int .i64 e] 60):=by rw [hh];exact Rx_0
    clear hw hh B0 Rx_0;obtain⟨cx_1_0,cx_1_1,cx_1_2,cx_1_3⟩:=cells4s Rx_1;go_wp2_with fail
    refine (nat_may s true H1.out _).mono ?_;rintro r w' ⟨rfl,rfl⟩;go_wp2_with fail
    refine (nat_may t false H2.out _).mono ?_;rintro r w' ⟨rfl,rfl⟩;go_wp2
    go_ret
    exact⟨rfl,B1⟩
  obtain⟨n,hs,ln⟩:=mayB_is s hm1;obtain⟨d,ht,ld⟩:=mayB_is t hm2;rw [mayX_iff b n d s t e hs ht,can_parts b n d e ln ld] at ho;have H1:=box hm1;have H2:=box hm2;have HS:=box hs;have HT:=box ht;have LN:=box ln;have LD:=box ld;clear hm1 hm2
  by_cases hd:d % 2=1
  . have D1:Box (decide (d % 2=1)=true):=box (decide_eq_true hd)
    by_cases h1:e < -1048576
    . have eo:o=false:=by cases o;rfl;have:=ho.1 rfl;omega
      subst eo;have k1:decide (e < -1048576)=true:=decide_eq_true h1;clear ho hs ht ln ld hd;obtain⟨Rx_0,B0⟩:=opn1 w (Obj.cells #[.bool b,.string s,.string t,.int .i64 e] 60)
      go_enter Tryz.func114,Tryz.ntmps114
      go_wp2_with fail
      go_quiet (fail)
      obtain⟨w1,hw,B1,hh⟩:=quiet_world B0 nq;rw [hw];have Rx_1:w1.heap[w.heap.size]?=some (Obj.cells #[.bool b,.string s,.string t,.int .i64 e] 60):=by rw [hh];exact Rx_0
      clear hw hh B0 Rx_0;obtain⟨cx_1_0,cx_1_1,cx_1_2,cx_1_3⟩:=cells4s Rx_1;go_wp2_with fail
      refine (nat_may s true H1.out _).mono ?_;rintro r w' ⟨rfl,rfl⟩;go_wp2_with fail
      refine (nat_may t true H2.out _).mono ?_;rintro r w' ⟨rfl,rfl⟩;go_wp2_with fail
      refine (rodd d t true HT.out LD.out D1.out _).mono ?_;rintro r w2 ⟨rfl,b2⟩;have B2:Below w.heap.size w w2:=btr B1 b2;have Rx_2:=heap_of b2 _ _ _ Rx_1;clear b2 B1 Rx_1 cx_1_0 cx_1_1 cx_1_2 cx_1_3;obtain⟨cx_2_0,cx_2_1,cx_2_2,cx_2_3⟩:=cells4s Rx_2;go_wp2
      go_ret
      exact⟨rfl,B2⟩
    have k1:decide (e < -1048576)=false:=decide_eq_false h1
    by_cases h2:1048576<e
    . have eo:o=false:=by cases o;rfl;have:=ho.1 rfl;omega
      subst eo;have k2:decide (1048576<e)=true:=decide_eq_true h2;clear ho hs ht ln ld hd;obtain⟨Rx_0,B0⟩:=opn1 w (Obj.cells #[.bool b,.string s,.string t,.int .i64 e] 60)
      go_enter Tryz.func114,Tryz.ntmps114
      go_wp2_with fail
      go_quiet (fail)
      obtain⟨w1,hw,B1,hh⟩:=quiet_world B0 nq;rw [hw];have Rx_1:w1.heap[w.heap.size]?=some (Obj.cells #[.bool b,.string s,.string t,.int .i64 e] 60):=by rw [hh];exact Rx_0
      clear hw hh B0 Rx_0;obtain⟨cx_1_0,cx_1_1,cx_1_2,cx_1_3⟩:=cells4s Rx_1;go_wp2_with fail
      refine (nat_may s true H1.out _).mono ?_;rintro r w' ⟨rfl,rfl⟩;go_wp2_with fail
      refine (nat_may t true H2.out _).mono ?_;rintro r w' ⟨rfl,rfl⟩;go_wp2_with fail
      refine (rodd d t true HT.out LD.out D1.out _).mono ?_;rintro r w2 ⟨rfl,b2⟩;have B2:Below w.heap.size w w2:=btr B1 b2;have Rx_2:=heap_of b2 _ _ _ Rx_1;clear b2 B1 Rx_1 cx_1_0 cx_1_1 cx_1_2 cx_1_3;obtain⟨cx_2_0,cx_2_1,cx_2_2,cx_2_3⟩:=cells4s Rx_2;go_wp2
      go_ret
      exact⟨rfl,B2⟩
    have k2:decide (1048576<e)=false:=decide_eq_false h2
    by_cases h0:n=0
    . subst h0
      rw [nbA_zero] at hs;have hs2:=hs;clear hs;subst hs2;have e1:=eq_one d t ht;have ez:(e == 0)=decide (e=0):=by rw [Bool.eq_iff_iff,beq_iff_eq,decide_eq_true_iff]
      have ho2:o=true↔(b=false/\d=1/\e=0):=by rw [ho];exact⟨fun h=>by rcases h.2.2 with h|h;exact⟨h.1,h.2.2⟩;omega,fun h=>⟨by omega,by omega,Or.inl ⟨h.1,rfl,h.2⟩⟩⟩
      clear ho ht ln ld hd h1 h2
      cases b
      . by_cases d1:d=1
        . rw [decide_eq_true d1] at e1
          by_cases z:e=0
          . have eo:o=true:=ho2.2 ⟨rfl,d1,z⟩
            subst eo;rw [decide_eq_true z] at ez;clear ho2 d1;subst z;obtain⟨Rx_0,B0⟩:=opn1 w (Obj.cells #[.bool false,.string ⟨#[]⟩,.string t,.int .i64 0] 60)
            go_enter Tryz.func114,Tryz.ntmps114
            go_wp2_with fail
            go_quiet (fail)
            obtain⟨w1,hw,B1,hh⟩:=quiet_world B0 nq;rw [hw];have Rx_1:w1.heap[w.heap.size]?=some (Obj.cells #[.bool false,.string ⟨#[]⟩,.string t,.int .i64 0] 60):=by rw [hh];exact Rx_0
            clear hw hh B0 Rx_0;obtain⟨cx_1_0,cx_1_1,cx_1_2,cx_1_3⟩:=cells4s Rx_1;go_wp2_with fail
            refine (nat_may _ true H1.out _).mono ?_;rintro r w' ⟨rfl,rfl⟩;go_wp2_with fail
            refine (nat_may t true H2.out _).mono ?_;rintro r w' ⟨rfl,rfl⟩;go_wp2_with fail
            refine (rodd d t true HT.out LD.out D1.out _).mono ?_;rintro r w2 ⟨rfl,b2⟩;have B2:Below w.heap.size w w2:=btr B1 b2;have Rx_2:=heap_of b2 _ _ _ Rx_1;clear b2 B1 Rx_1 cx_1_0 cx_1_1 cx_1_2 cx_1_3;obtain⟨cx_2_0,cx_2_1,cx_2_2,cx_2_3⟩:=cells4s Rx_2;go_wp2_with fail
            obtain⟨F,hF1,hF2⟩:=below_fun w2;have fx_0:=fun u=>cells4 (heap_of (hF1 u) _ _ _ Rx_2) 0 _ rfl;have fx_1:=fun u=>cells4 (heap_of (hF1 u) _ _ _ Rx_2) 1 _ rfl;have fx_2:=fun u=>cells4 (heap_of (hF1 u) _ _ _ Rx_2) 2 _ rfl;have fx_3:=fun u=>cells4 (heap_of (hF1 u) _ _ _ Rx_2) 3 _ rfl;refine wp_region_below F hF2 (by kernel_rfl) (by kernel_rfl) ?_
            repeat first|go_big_quiet_step (first|(go_at_call 108;exact quietF hF1 hF2 (xnull _))|fail)|quiet_step (first|(go_at_call 108;exact quietF hF1 hF2 (xnull _))|fail)
            refine wpQuiet_nil ?_;rintro _ ⟨uW,rfl⟩;have B3:=btr B2 (hF1 uW);have Rx_3:=heap_of (hF1 uW) _ _ _ Rx_2;obtain⟨w3,hw⟩:∃ V,F uW=V:=⟨_,rfl⟩;rw [hw] at B3 Rx_3
            try rw [hw]
            clear hw hF1 hF2 B2 fx_0 fx_1 fx_2 fx_3 Rx_2 cx_2_0 cx_2_1 cx_2_2 cx_2_3;clear F;obtain⟨cx_3_0,cx_3_1,cx_3_2,cx_3_3⟩:=cells4s Rx_3;go_wp2
            go_ret
            exact⟨rfl,B3⟩
          . have eo:o=false:=by cases o;rfl;exact absurd (ho2.1 rfl).2.2 z
            subst eo;rw [decide_eq_false z] at ez;clear ho2 d1;obtain⟨Rx_0,B0⟩:=opn1 w (Obj.cells #[.bool false,.string ⟨#[]⟩,.string t,.int .i64 e] 60)
            go_enter Tryz.func114,Tryz.ntmps114
            go_wp2_with fail
            go_quiet (fail)
            obtain⟨w1,hw,B1,hh⟩:=quiet_world B0 nq;rw [hw];have Rx_1:w1.heap[w.heap.size]?=some (Obj.cells #[.bool false,.string ⟨#[]⟩,.string t,.int .i64 e] 60):=by rw [hh];exact Rx_0
            clear hw hh B0 Rx_0;obtain⟨cx_1_0,cx_1_1,cx_1_2,cx_1_3⟩:=cells4s Rx_1;go_wp2_with fail
            refine (nat_may _ true H1.out _).mono ?_;rintro r w' ⟨rfl,rfl⟩;go_wp2_with fail
            refine (nat_may t true H2.out _).mono ?_;rintro r w' ⟨rfl,rfl⟩;go_wp2_with fail
            refine (rodd d t true HT.out LD.out D1.out _).mono ?_;rintro r w2 ⟨rfl,b2⟩;have B2:Below w.heap.size w w2:=btr B1 b2;have Rx_2:=heap_of b2 _ _ _ Rx_1;clear b2 B1 Rx_1 cx_1_0 cx_1_1 cx_1_2 cx_1_3;obtain⟨cx_2_0,cx_2_1,cx_2_2,cx_2_3⟩:=cells4s Rx_2;go_wp2_with fail
            obtain⟨F,hF1,hF2⟩:=below_fun w2;have fx_0:=fun u=>cells4 (heap_of (hF1 u) _ _ _ Rx_2) 0 _ rfl;have fx_1:=fun u=>cells4 (heap_of (hF1 u) _ _ _ Rx_2) 1 _ rfl;have fx_2:=fun u=>cells4 (heap_of (hF1 u) _ _ _ Rx_2) 2 _ rfl;have fx_3:=fun u=>cells4 (heap_of (hF1 u) _ _ _ Rx_2) 3 _ rfl;refine wp_region_below F hF2 (by kernel_rfl) (by kernel_rfl) ?_
            repeat first|go_big_quiet_step (first|(go_at_call 108;exact quietF hF1 hF2 (xnull _))|fail)|quiet_step (first|(go_at_call 108;exact quietF hF1 hF2 (xnull _))|fail)
            refine wpQuiet_nil ?_;rintro _ ⟨uW,rfl⟩;have B3:=btr B2 (hF1 uW);have Rx_3:=heap_of (hF1 uW) _ _ _ Rx_2;obtain⟨w3,hw⟩:∃ V,F uW=V:=⟨_,rfl⟩;rw [hw] at B3 Rx_3
            try rw [hw]
            clear hw hF1 hF2 B2 fx_0 fx_1 fx_2 fx_3 Rx_2 cx_2_0 cx_2_1 cx_2_2 cx_2_3;clear F;obtain⟨cx_3_0,cx_3_1,cx_3_2,cx_3_3⟩:=cells4s Rx_3;go_wp2
            go_ret
            exact⟨rfl,B3⟩
        . have eo:o=false:=by cases o;rfl;exact absurd (ho2.1 rfl).2.1 d1
          subst eo;rw [decide_eq_false d1] at e1;clear ho2 d1 ez;obtain⟨Rx_0,B0⟩:=opn1 w (Obj.cells #[.bool false,.string ⟨#[]⟩,.string t,.int .i64 e] 60)
          go_enter Tryz.func114,Tryz.ntmps114
          go_wp2_with fail
          go_quiet (fail)
          obtain⟨w1,hw,B1,hh⟩:=quiet_world B0 nq;rw [hw];have Rx_1:w1.heap[w.heap.size]?=some (Obj.cells #[.bool false,.string ⟨#[]⟩,.string t,.int .i64 e] 60):=by rw [hh];exact Rx_0
          clear hw hh B0 Rx_0;obtain⟨cx_1_0,cx_1_1,cx_1_2,cx_1_3⟩:=cells4s Rx_1;go_wp2_with fail
          refine (nat_may _ true H1.out _).mono ?_;rintro r w' ⟨rfl,rfl⟩;go_wp2_with fail
          refine (nat_may t true H2.out _).mono ?_;rintro r w' ⟨rfl,rfl⟩;go_wp2_with fail
          refine (rodd d t true HT.out LD.out D1.out _).mono ?_;rintro r w2 ⟨rfl,b2⟩;have B2:Below w.heap.size w w2:=btr B1 b2;have Rx_2:=heap_of b2 _ _ _ Rx_1;clear b2 B1 Rx_1 cx_1_0 cx_1_1 cx_1_2 cx_1_3;obtain⟨cx_2_0,cx_2_1,cx_2_2,cx_2_3⟩:=cells4s Rx_2;go_wp2_with fail
          obtain⟨F,hF1,hF2⟩:=below_fun w2;have fx_0:=fun u=>cells4 (heap_of (hF1 u) _ _ _ Rx_2) 0 _ rfl;have fx_1:=fun u=>cells4 (heap_of (hF1 u) _ _ _ Rx_2) 1 _ rfl;have fx_2:=fun u=>cells4 (heap_of (hF1 u) _ _ _ Rx_2) 2 _ rfl;have fx_3:=fun u=>cells4 (heap_of (hF1 u) _ _ _ Rx_2) 3 _ rfl;refine wp_region_below F hF2 (by kernel_rfl) (by kernel_rfl) ?_
          repeat first|go_big_quiet_step (first|(go_at_call 108;exact quietF hF1 hF2 (xnull _))|fail)|quiet_step (first|(go_at_call 108;exact quietF hF1 hF2 (xnull _))|fail)
          refine wpQuiet_nil ?_;rintro _ ⟨uW,rfl⟩;have B3:=btr B2 (hF1 uW);have Rx_3:=heap_of (hF1 uW) _ _ _ Rx_2;obtain⟨w3,hw⟩:∃ V,F uW=V:=⟨_,rfl⟩;rw [hw] at B3 Rx_3
          try rw [hw]
          clear hw hF1 hF2 B2 fx_0 fx_1 fx_2 fx_3 Rx_2 cx_2_0 cx_2_1 cx_2_2 cx_2_3;clear F;obtain⟨cx_3_0,cx_3_1,cx_3_2,cx_3_3⟩:=cells4s Rx_3;go_wp2
          go_ret
          exact⟨rfl,B3⟩
      . have eo:o=false:=by cases o;rfl;exact absurd (ho2.1 rfl).1 (by decide)
        subst eo;clear ho2 e1 ez;obtain⟨Rx_0,B0⟩:=opn1 w (Obj.cells #[.bool true,.string ⟨#[]⟩,.string t,.int .i64 e] 60)
        go_enter Tryz.func114,Tryz.ntmps114
        go_wp2_with fail
        go_quiet (fail)
        obtain⟨w1,hw,B1,hh⟩:=quiet_world B0 nq;rw [hw];have Rx_1:w1.heap[w.heap.size]?=some (Obj.cells #[.bool true,.string ⟨#[]⟩,.string t,.int .i64 e] 60):=by rw [hh];exact Rx_0
        clear hw hh B0 Rx_0;obtain⟨cx_1_0,cx_1_1,cx_1_2,cx_1_3⟩:=cells4s Rx_1;go_wp2_with fail
        refine (nat_may _ true H1.out _).mono ?_;rintro r w' ⟨rfl,rfl⟩;go_wp2_with fail
        refine (nat_may t true H2.out _).mono ?_;rintro r w' ⟨rfl,rfl⟩;go_wp2_with fail
        refine (rodd d t true HT.out LD.out D1.out _).mono ?_;rintro r w2 ⟨rfl,b2⟩;have B2:Below w.heap.size w w2:=btr B1 b2;have Rx_2:=heap_of b2 _ _ _ Rx_1;clear b2 B1 Rx_1 cx_1_0 cx_1_1 cx_1_2 cx_1_3;obtain⟨cx_2_0,cx_2_1,cx_2_2,cx_2_3⟩:=cells4s Rx_2;go_wp2_with fail
        obtain⟨F,hF1,hF2⟩:=below_fun w2;have fx_0:=fun u=>cells4 (heap_of (hF1 u) _ _ _ Rx_2) 0 _ rfl;have fx_1:=fun u=>cells4 (heap_of (hF1 u) _ _ _ Rx_2) 1 _ rfl;have fx_2:=fun u=>cells4 (heap_of (hF1 u) _ _ _ Rx_2) 2 _ rfl;have fx_3:=fun u=>cells4 (heap_of (hF1 u) _ _ _ Rx_2) 3 _ rfl;refine wp_region_below F hF2 (by kernel_rfl) (by kernel_rfl) ?_
        repeat first|go_big_quiet_step (first|(go_at_call 108;exact quietF hF1 hF2 (xnull _))|fail)|quiet_step (first|(go_at_call 108;exact quietF hF1 hF2 (xnull _))|fail)
        refine wpQuiet_nil ?_;rintro _ ⟨uW,rfl⟩;have B3:=btr B2 (hF1 uW);have Rx_3:=heap_of (hF1 uW) _ _ _ Rx_2;obtain⟨w3,hw⟩:∃ V,F uW=V:=⟨_,rfl⟩;rw [hw] at B3 Rx_3
        try rw [hw]
        clear hw hF1 hF2 B2 fx_0 fx_1 fx_2 fx_3 Rx_2 cx_2_0 cx_2_1 cx_2_2 cx_2_3;clear F;obtain⟨cx_3_0,cx_3_1,cx_3_2,cx_3_3⟩:=cells4s Rx_3;go_wp2
        go_ret
        exact⟨rfl,B3⟩
    . have e0:=eq_nil n s hs h0
      have ho2:o=true↔(n % 2=1/\Nat.gcd n d=1):=by rw [ho];exact⟨fun h=>by rcases h.2.2 with h|h;exact absurd h.2.1 h0;exact⟨h.1,h.2.2⟩,fun h=>⟨by omega,by omega,Or.inr ⟨h.1,hd,h.2⟩⟩⟩
      obtain⟨p,hp⟩:∃ p,decide (n % 2=1)=p:=⟨_,rfl⟩;obtain⟨v,hv⟩:∃ v,nbA (Nat.gcd n d)=v:=⟨_,rfl⟩;have e1:=eq_one _ v hv;have HP:=box hp;have HV:=box hv;clear ho hs ht ln ld hd h1 h2 h0
      cases p
      . have eo:o=false:=by cases o;rfl;rw [decide_eq_true (ho2.1 rfl).1] at hp;exact hp
        subst eo;clear ho2 hp hv e1;obtain⟨Rx_0,B0⟩:=opn1 w (Obj.cells #[.bool b,.string s,.string t,.int .i64 e] 60)
        go_enter Tryz.func114,Tryz.ntmps114
        go_wp2_with fail
        go_quiet (fail)
        obtain⟨w1,hw,B1,hh⟩:=quiet_world B0 nq;rw [hw];have Rx_1:w1.heap[w.heap.size]?=some (Obj.cells #[.bool b,.string s,.string t,.int .i64 e] 60):=by rw [hh];exact Rx_0
        clear hw hh B0 Rx_0;obtain⟨cx_1_0,cx_1_1,cx_1_2,cx_1_3⟩:=cells4s Rx_1;go_wp2_with fail
        refine (nat_may _ true H1.out _).mono ?_;rintro r w' ⟨rfl,rfl⟩;go_wp2_with fail
        refine (nat_may t true H2.out _).mono ?_;rintro r w' ⟨rfl,rfl⟩;go_wp2_with fail
        refine (rodd d t true HT.out LD.out D1.out _).mono ?_;rintro r w2 ⟨rfl,b2⟩;have B2:Below w.heap.size w w2:=btr B1 b2;have Rx_2:=heap_of b2 _ _ _ Rx_1;clear b2 B1 Rx_1 cx_1_0 cx_1_1 cx_1_2 cx_1_3;obtain⟨cx_2_0,cx_2_1,cx_2_2,cx_2_3⟩:=cells4s Rx_2;go_wp2_with fail
        refine (rodd n s false HS.out LN.out HP.out _).mono ?_;rintro r w3 ⟨rfl,b3⟩;have B3:Below w.heap.size w w3:=btr B2 b3;have Rx_3:=heap_of b3 _ _ _ Rx_2;clear b3 B2 Rx_2 cx_2_0 cx_2_1 cx_2_2 cx_2_3;obtain⟨cx_3_0,cx_3_1,cx_3_2,cx_3_3⟩:=cells4s Rx_3;go_wp2
        go_ret
        exact⟨rfl,B3⟩
      . have eo:decide (Nat.gcd n d=1)=o:=by
          rw [Bool.eq_iff_iff,ho2,decide_eq_true_iff];exact⟨fun h=>⟨of_decide_eq_true hp,h⟩,fun h=>h.2⟩
        rw [eo] at e1;clear ho2 hp hv eo;obtain⟨Rx_0,B0⟩:=opn1 w (Obj.cells #[.bool b,.string s,.string t,.int .i64 e] 60)
        go_enter Tryz.func114,Tryz.ntmps114
        go_wp2_with fail
        go_quiet (fail)
        obtain⟨w1,hw,B1,hh⟩:=quiet_world B0 nq;rw [hw];have Rx_1:w1.heap[w.heap.size]?=some (Obj.cells #[.bool b,.string s,.string t,.int .i64 e] 60):=by rw [hh];exact Rx_0
        clear hw hh B0 Rx_0;obtain⟨cx_1_0,cx_1_1,cx_1_2,cx_1_3⟩:=cells4s Rx_1;go_wp2_with fail
        refine (nat_may _ true H1.out _).mono ?_;rintro r w' ⟨rfl,rfl⟩;go_wp2_with fail
        refine (nat_may t true H2.out _).mono ?_;rintro r w' ⟨rfl,rfl⟩;go_wp2_with fail
        refine (rodd d t true HT.out LD.out D1.out _).mono ?_;rintro r w2 ⟨rfl,b2⟩;have B2:Below w.heap.size w w2:=btr B1 b2;have Rx_2:=heap_of b2 _ _ _ Rx_1;clear b2 B1 Rx_1 cx_1_0 cx_1_1 cx_1_2 cx_1_3;obtain⟨cx_2_0,cx_2_1,cx_2_2,cx_2_3⟩:=cells4s Rx_2;go_wp2_with fail
        refine (rodd n s true HS.out LN.out HP.out _).mono ?_;rintro r w3 ⟨rfl,b3⟩;have B3:Below w.heap.size w w3:=btr B2 b3;have Rx_3:=heap_of b3 _ _ _ Rx_2;clear b3 B2 Rx_2 cx_2_0 cx_2_1 cx_2_2 cx_2_3;obtain⟨cx_3_0,cx_3_1,cx_3_2,cx_3_3⟩:=cells4s Rx_3;go_wp2_with fail
        refine (nat_Gcd n d s t v HS.out HT.out LN.out LD.out HV.out _).mono ?_;rintro r w4 ⟨rfl,b4⟩;have B4:Below w.heap.size w w4:=btr B3 b4;have Rx_4:=heap_of b4 _ _ _ Rx_3;clear b4 B3 Rx_3 cx_3_0 cx_3_1 cx_3_2 cx_3_3;obtain⟨cx_4_0,cx_4_1,cx_4_2,cx_4_3⟩:=cells4s Rx_4;go_wp2
        go_ret
        exact⟨rfl,B4⟩
  . have D1:Box (decide (d % 2=1)=false):=box (decide_eq_false hd)
    have eo:o=false:=by cases o;rfl;have:=ho.1 rfl;omega
    subst eo;clear ho hs ht ln ld hd;obtain⟨Rx_0,B0⟩:=opn1 w (Obj.cells #[.bool b,.string s,.string t,.int .i64 e] 60)
    go_enter Tryz.func114,Tryz.ntmps114
    go_wp2_with fail
    go_quiet (fail)
    obtain⟨w1,hw,B1,hh⟩:=quiet_world B0 nq;rw [hw];have Rx_1:w1.heap[w.heap.size]?=some (Obj.cells #[.bool b,.string s,.string t,.int .i64 e] 60):=by rw [hh];exact Rx_0
    clear hw hh B0 Rx_0;obtain⟨cx_1_0,cx_1_1,cx_1_2,cx_1_3⟩:=cells4s Rx_1;go_wp2_with fail
    refine (nat_may s true H1.out _).mono ?_;rintro r w' ⟨rfl,rfl⟩;go_wp2_with fail
    refine (nat_may t true H2.out _).mono ?_;rintro r w' ⟨rfl,rfl⟩;go_wp2_with fail
    refine (rodd d t false HT.out LD.out D1.out _).mono ?_;rintro r w2 ⟨rfl,b2⟩;have B2:Below w.heap.size w w2:=btr B1 b2;have Rx_2:=heap_of b2 _ _ _ Rx_1;clear b2 B1 Rx_1 cx_1_0 cx_1_1 cx_1_2 cx_1_3;obtain⟨cx_2_0,cx_2_1,cx_2_2,cx_2_3⟩:=cells4s Rx_2;go_wp2
    go_ret
    exact⟨rfl,B2⟩
theorem xmayM (b:Bool)(s t:ByteArray)(e:Int)(o:Bool)(ho:IsM o b s t e)(w:World):Calls Tryz.prog 114 #[.agg #[.bool b,.string s,.string t,.int .i64 e]] w fun r w'=>r=.returned (.bool o)/\Below w.heap.size w w':=xmay b s t e o ho w
theorem mk_cases (neg:Bool)(n d:Nat)(e:Int)(rb:Bool)(rn rd:Nat)(re err:Int)(n0:n≠0)(hr:XMath.mk neg n d e=(⟨rb,rn,rd,re⟩,err)) :
    ((-1048576<=e+(tz n:Int)-(tz d:Int)/\e+(tz n:Int)-(tz d:Int)<=1048576)/\rb=neg/\rn=od n / Nat.gcd (od n) (od d)/\rd=od d / Nat.gcd (od n) (od d)/\re=e+(tz n:Int)-(tz d:Int)/\err=0) ∨
    (¬ (-1048576<=e+(tz n:Int)-(tz d:Int)/\e+(tz n:Int)-(tz d:Int)<=1048576)/\rb=false/\rn=0/\rd=0/\re=0/\err=4):=by
  unfold XMath.mk at hr
  rw [if_neg n0] at hr
  by_cases h:-1048576<=e+(tz n:Int)-(tz d:Int)/\e+(tz n:Int)-(tz d:Int)<=1048576
  . rw [if_pos h] at hr
    injection hr with h1 h2;injection h1 with a b c d;exact Or.inl ⟨h,a.symm,b.symm,c.symm,d.symm,h2.symm⟩
  . rw [if_neg h] at hr
    injection hr with h1 h2
    unfold XZ at h1
    injection h1 with a b c d;exact Or.inr ⟨h,a.symm,b.symm,c.symm,d.symm,h2.symm⟩

theorem may_yes {b:Bool} {n d:Nat} {s t:ByteArray} {e:Int} (hs:nbA n=s)(ht:nbA d=t)(hc:(XN.mk b n d e).can):IsM true b s t e:=⟨fun _=>⟨n,d,hs,ht,hc⟩,fun _=>rfl⟩
theorem can_null {b:Bool} {n d:Nat} {e:Int} (hc:(XN.mk b n d e).can)(h0:n=0):b=false/\d=1/\e=0:=by
  have h:=hc.null h0
  unfold X0 at h
  injection h with h1 h2 h3 h4;exact⟨h1,h3,h4⟩

theorem x_cases {b:Bool} {n d:Nat} {e:Int} {s t:ByteArray} (hs:nbA n=s)(ht:nbA d=t)(hc:(XN.mk b n d e).can):(n=0/\b=false/\s=⟨#[]⟩/\t=⟨#[1]⟩/\d=1/\e=0)∨(n≠0/\(s.toList == [])=false):=by
  by_cases h0:n=0
  . obtain⟨h1,h2,h3⟩:=can_null hc h0
    subst h0 h2;exact Or.inl ⟨rfl,h1,by rw [<-hs,nbA_zero],by rw [<-ht,nb1],rfl,h3⟩
  . exact Or.inr ⟨h0,eq_nil n s hs h0⟩

theorem lg_no (n:Nat)(h:¬ nl n<=16384):lg n=(⟨#[]⟩,4):=by unfold lg;rw [if_neg h]
theorem cmpv_neg (a b:Nat):cmpv a b<0↔a<b:=by
  unfold cmpv
  split
  . exact⟨fun h=>absurd h (by decide),fun h=>by omega⟩
  . split
    . exact⟨fun _=>by assumption,fun _=>by decide⟩
    . exact⟨fun h=>absurd h (by decide),fun h=>by omega⟩
theorem lf_up (a:Nat)(k:Nat)(v:ByteArray)(h:nl (a*2 ^ k)<=16384)(hv:nbA (a*2 ^ k)=v):lf a (k:Int)=(v,0):=by
  unfold lf
  rw [if_neg (by omega),Int.toNat_natCast];exact lg_ok _ v h hv
theorem nl_blen (a b:Nat)(h:blen a=blen b)(hb:nl b<=16384):nl a<=16384:=by unfold nl at hb ⊢;rw [h];exact hb
theorem tAB_nl (x:XN)(n0:x.n≠0)(d0:x.d≠0)(ln:nl x.n<=16384)(ld:nl x.d<=16384):nl (tA x)<=16384/\nl (tB x)<=16384:=by
  obtain⟨h1,_,_⟩:=tA_len x n0 d0
  by_cases h:0<=lenD x
  . have e:tA x=x.n:=by unfold tA;rw [show (max (-lenD x) 0).toNat=0 by omega,Nat.pow_zero,Nat.mul_one]
    have k:nl (tA x)<=16384:=by rw [e];exact ln
    exact⟨k,nl_blen _ _ h1.symm k⟩
  . have e:tB x=x.d:=by unfold tB;rw [show (max (lenD x) 0).toNat=0 by omega,Nat.pow_zero,Nat.mul_one]
    have k:nl (tB x)<=16384:=by rw [e];exact ld
    exact⟨nl_blen _ _ h1 k,k⟩

end Go.Proofs.YtdjlfhcalccajaaGreatDoor
namespace Go.Proofs.YtdjlfhcalccajaaGreatDoor
set_option maxRecDepth 100000
set_option maxHeartbeats 40000000
set_option maxRecDepth 100000
open Go.RowKit WMath XMath
set_option maxRecDepth 100000 in
set_option maxHeartbeats 1000000 in
theorem rmake_ok (neg:Bool)(n d:Nat)(e:Int)(s t:ByteArray)(rb:Bool)(rn rd:Nat)(re err:Int)(u v:ByteArray)(hs:nbA n=s)(ht:nbA d=t)(ln:nl n<=16384)(ld:nl d<=16384)(d0:d≠0)(he1:-1048576<=e)(he2:e<=1048576)
    (hr:XMath.mk neg n d e=(⟨rb,rn,rd,re⟩,err)) (hu:nbA rn=u) (hv:nbA rd=v) (w:World) :
    Calls Tryz.prog 62 #[.bool neg,.string s,.string t,.int .i64 e] w fun r w'=>r=.returned (.tuple #[.agg #[.bool rb,.string u,.string v,.int .i64 re],.int .i64 err])/\Below w.heap.size w w':=by
  have e0:=eq_nil d t ht d0;have H1:Box (mayB s=true):=box (by rw [<-hs];exact mayB_nb n ln);have H2:Box (mayB t=true):=box (by rw [<-ht];exact mayB_nb d ld);have g1:decide (e < -1048576)=false:=decide_eq_false (by omega);have g2:decide (1048576<e)=false:=decide_eq_false (by omega)
  by_cases n0:n=0
  . subst n0
    rw [mk_null] at hr;injection hr with h1 h2
    unfold X0 at h1
    injection h1 with a b c d;subst a b c d h2;rw [nbA_zero] at hs hu;rw [nb1] at hv;subst hs hu hv;clear ht ln ld d0;obtain⟨Rz_0,B0⟩:=opn1 w (Obj.cells #[.bool false,.string ⟨#[]⟩,.string ⟨#[]⟩,.int .i64 0] 60)
    go_enter Tryz.func62,Tryz.ntmps62
    go_wp2_with fail
    refine (nat_may _ true H1.out _).mono ?_;rintro r w' ⟨rfl,rfl⟩;go_wp2_with fail
    refine (nat_may t true H2.out _).mono ?_;rintro r w' ⟨rfl,rfl⟩;go_wp2_with fail
    refine (xnull _).mono ?_;rintro r w1 ⟨rfl,b1⟩;have B1:Below w.heap.size w w1:=btr B0 b1;have Rz_1:=heap_of b1 _ _ _ Rz_0;clear b1 B0 Rz_0;obtain⟨cz_1_0,cz_1_1,cz_1_2,cz_1_3⟩:=cells4s Rz_1;have q0:=fz (k:=0) Rz_1;have q1:=fz (k:=1) Rz_1;have q2:=fz (k:=2) Rz_1;have q3:=fz (k:=3) Rz_1;obtain⟨E0,E1,E2,E3⟩:=set4_cells Rz_1 rfl (.bool false) (.string ⟨#[]⟩) (.string ⟨#[1]⟩) (.int .i64 0);go_wp2
    exact bodyPost_ret (v:=.tuple #[.agg #[.bool false,.string ⟨#[]⟩,.string ⟨#[1]⟩,.int .i64 0],.int .i64 0]) (by simp [results,Tryz.results62,go_sem,E0,E1,E2,E3]) rfl ⟨rfl,set4_below B1 (by first|exact Nat.le_refl _|omega|(skip;omega)) _ _ _ _⟩
  . have e1:=eq_nil n s hs n0
    obtain⟨x,hx⟩:∃ x,tz n=x:=⟨_,rfl⟩;obtain⟨y,hy⟩:∃ x,tz d=x:=⟨_,rfl⟩;have LX:=box (tz_low n);have LY:=box (tz_low d);have x2:x<=131072:=by have:=tz_blen n;rw [hx] at this;unfold nl at ln;omega
    have y2:y<=131072:=by have:=tz_blen d;rw [hy] at this;unfold nl at ld;omega
    have hc:=mk_cases neg n d e rb rn rd re err n0 hr;rw [hx,hy] at hc;rw [hx] at LX;rw [hy] at LY;have HS:=box hs;have HT:=box ht;have LN:=box ln;have LD:=box ld;obtain⟨E,hE⟩:∃ E,e+(x:Int)-(y:Int)=E:=⟨_,rfl⟩;rw [hE] at hc;have k1:IntKind.i64.wrap (e+(x:Int))=e+(x:Int):=wrap_i64_is _ (by omega) (by omega);have k2:IntKind.i64.wrap (e+(x:Int)-(y:Int))=E:=by rw [wrap_i64_is _ (by omega) (by omega)];omega
    obtain⟨o1,o2⟩:=od_is n n0;obtain⟨o3,o4⟩:=od_is d d0;obtain⟨p,hp⟩:∃ p,nbA (od n)=p:=⟨_,rfl⟩;obtain⟨q,hq⟩:∃ p,nbA (od d)=p:=⟨_,rfl⟩;have L1:Box (nl (od n)<=16384):=box (Nat.le_trans (nl_mono _ _ (od_le n)) ln);have L2:Box (nl (od d)<=16384):=box (Nat.le_trans (nl_mono _ _ (od_le d)) ld);have HP:=box hp;have HQ:=box hq;have P1:Box (nbA (n / 2 ^ (x:Int).toNat)=p):=box (by rw [Int.toNat_natCast,<-hx];exact hp);have Q1:Box (nbA (d / 2 ^ (y:Int).toNat)=q):=box (by rw [Int.toNat_natCast,<-hy];exact hq);obtain⟨b1,hb1⟩:∃ o,decide (n % 2 ^ (x:Int).toNat≠0)=o:=⟨_,rfl⟩;obtain⟨b2,hb2⟩:∃ o,decide (d % 2 ^ (y:Int).toNat≠0)=o:=⟨_,rfl⟩;have O1:=box hb1;have O2:=box hb2;obtain⟨gg,hgg⟩:∃ g,Nat.gcd (od n) (od d)=g:=⟨_,rfl⟩;obtain⟨h,hh⟩:∃ h,nbA gg=h:=⟨_,rfl⟩;have HG:Box (nbA (Nat.gcd (od n) (od d))=h):=box (by rw [hgg];exact hh);have HH:=box hh;have eo:=eq_one gg h hh;have G0:Box (gg≠0):=box (by rw [<-hgg];exact Nat.pos_iff_ne_zero.1 (Nat.gcd_pos_of_pos_left _ (by omega)));rw [hgg] at hc;obtain⟨un,hun⟩:∃ u,nbA (od n / gg)=u:=⟨_,rfl⟩;obtain⟨ud,hud⟩:∃ u,nbA (od d / gg)=u:=⟨_,rfl⟩;obtain⟨vn,hvn⟩:∃ u,nbA (od n % gg)=u:=⟨_,rfl⟩;obtain⟨vd,hvd⟩:∃ u,nbA (od d % gg)=u:=⟨_,rfl⟩;have U1:=box hun;have U2:=box hud;have U3:=box hvn;have U4:=box hvd
    by_cases g1':gg=1
    . rw [decide_eq_true g1'] at eo
      have en:un=p:=by rw [<-hun,g1',Nat.div_one,hp]
      have ed:ud=q:=by rw [<-hud,g1',Nat.div_one,hq]
      rcases hc with ⟨hc,rfl,rfl,rfl,rfl,rfl⟩|⟨hc,rfl,rfl,rfl,rfl,rfl⟩
      . rw [hun] at hu
        rw [hud] at hv;subst hu hv;subst en ed;have c1:decide (re < -1048576)=false:=decide_eq_false (by omega);have c2:decide (1048576<re)=false:=decide_eq_false (by omega);clear hs ht ln ld hr hx hy hE hc o1 o2 o3 o4 hp hq n0 d0 hb1 hb2 hgg hh hun hud hvn hvd g1' U1 U2 U3 U4;obtain⟨Rz_0,B0⟩:=opn1 w (Obj.cells #[.bool false,.string ⟨#[]⟩,.string ⟨#[]⟩,.int .i64 0] 60)
        go_enter Tryz.func62,Tryz.ntmps62
        go_wp2_with fail
        refine (nat_may s true H1.out _).mono ?_;rintro r w' ⟨rfl,rfl⟩;go_wp2_with fail
        refine (nat_may t true H2.out _).mono ?_;rintro r w' ⟨rfl,rfl⟩;go_wp2_with fail
        refine (nat_Low n x s HS.out LN.out LX.out _).mono ?_;rintro r w' ⟨rfl,rfl⟩;go_wp2_with fail
        refine (nat_Low d y t HT.out LD.out LY.out _).mono ?_;rintro r w' ⟨rfl,rfl⟩;go_wp2_with fail
        refine (nat_Right n (x:Int) s un b1 HS.out LN.out (by omega) (by omega) P1.out O1.out _).mono ?_;rintro r w1 ⟨rfl,b1⟩;have B1:Below w.heap.size w w1:=btr B0 b1;have Rz_1:=heap_of b1 _ _ _ Rz_0;clear b1 B0 Rz_0;obtain⟨cz_1_0,cz_1_1,cz_1_2,cz_1_3⟩:=cells4s Rz_1;go_wp2_with fail
        refine (nat_Right d (y:Int) t ud b2 HT.out LD.out (by omega) (by omega) Q1.out O2.out _).mono ?_;rintro r w2 ⟨rfl,b2⟩;have B2:Below w.heap.size w w2:=btr B1 b2;have Rz_2:=heap_of b2 _ _ _ Rz_1;clear b2 B1 Rz_1 cz_1_0 cz_1_1 cz_1_2 cz_1_3;obtain⟨cz_2_0,cz_2_1,cz_2_2,cz_2_3⟩:=cells4s Rz_2;go_wp2_with fail
        refine (nat_Gcd (od n) (od d) un ud h HP.out HQ.out L1.out L2.out HG.out _).mono ?_;rintro r w3 ⟨rfl,b3⟩;have B3:Below w.heap.size w w3:=btr B2 b3;have Rz_3:=heap_of b3 _ _ _ Rz_2;clear b3 B2 Rz_2 cz_2_0 cz_2_1 cz_2_2 cz_2_3;obtain⟨cz_3_0,cz_3_1,cz_3_2,cz_3_3⟩:=cells4s Rz_3;have q0:=fz (k:=0) Rz_3;have q1:=fz (k:=1) Rz_3;have q2:=fz (k:=2) Rz_3;have q3:=fz (k:=3) Rz_3;obtain⟨E0,E1,E2,E3⟩:=set4_cells Rz_3 rfl (.bool rb) (.string un) (.string ud) (.int .i64 re);go_wp2
        exact bodyPost_ret (v:=.tuple #[.agg #[.bool rb,.string un,.string ud,.int .i64 re],.int .i64 0]) (by simp [results,Tryz.results62,go_sem,E0,E1,E2,E3]) rfl ⟨rfl,set4_below B3 (by first|exact Nat.le_refl _|omega|(skip;omega)) _ _ _ _⟩
      . rw [nbA_zero] at hu hv
        subst hu hv;have c0:E < -1048576∨1048576<E:=by omega
        have c12:decide (E < -1048576)=true∨(decide (E < -1048576)=false/\decide (1048576<E)=true):=by
          by_cases hh:E < -1048576
          . exact Or.inl (decide_eq_true hh)
          . exact Or.inr ⟨decide_eq_false hh,decide_eq_true (by omega)⟩
        clear hs ht ln ld hr hx hy hE hc o1 o2 o3 o4 hp hq n0 d0 hb1 hb2 hgg hh hun hud hvn hvd g1' U1 U2 U3 U4 en ed c0
        rcases c12 with c1|⟨c1,c2⟩
        . obtain⟨Rz_0,B0⟩:=opn1 w (Obj.cells #[.bool false,.string ⟨#[]⟩,.string ⟨#[]⟩,.int .i64 0] 60)
          go_enter Tryz.func62,Tryz.ntmps62
          go_wp2_with fail
          refine (nat_may s true H1.out _).mono ?_;rintro r w' ⟨rfl,rfl⟩;go_wp2_with fail
          refine (nat_may t true H2.out _).mono ?_;rintro r w' ⟨rfl,rfl⟩;go_wp2_with fail
          refine (nat_Low n x s HS.out LN.out LX.out _).mono ?_;rintro r w' ⟨rfl,rfl⟩;go_wp2_with fail
          refine (nat_Low d y t HT.out LD.out LY.out _).mono ?_;rintro r w' ⟨rfl,rfl⟩;go_wp2_with fail
          refine (nat_Right n (x:Int) s p b1 HS.out LN.out (by omega) (by omega) P1.out O1.out _).mono ?_;rintro r w1 ⟨rfl,b1⟩;have B1:Below w.heap.size w w1:=btr B0 b1;have Rz_1:=heap_of b1 _ _ _ Rz_0;clear b1 B0 Rz_0;obtain⟨cz_1_0,cz_1_1,cz_1_2,cz_1_3⟩:=cells4s Rz_1;go_wp2_with fail
          refine (nat_Right d (y:Int) t q b2 HT.out LD.out (by omega) (by omega) Q1.out O2.out _).mono ?_;rintro r w2 ⟨rfl,b2⟩;have B2:Below w.heap.size w w2:=btr B1 b2;have Rz_2:=heap_of b2 _ _ _ Rz_1;clear b2 B1 Rz_1 cz_1_0 cz_1_1 cz_1_2 cz_1_3;obtain⟨cz_2_0,cz_2_1,cz_2_2,cz_2_3⟩:=cells4s Rz_2;go_wp2_with fail
          refine (nat_Gcd (od n) (od d) p q h HP.out HQ.out L1.out L2.out HG.out _).mono ?_;rintro r w3 ⟨rfl,b3⟩;have B3:Below w.heap.size w w3:=btr B2 b3;have Rz_3:=heap_of b3 _ _ _ Rz_2;clear b3 B2 Rz_2 cz_2_0 cz_2_1 cz_2_2 cz_2_3;obtain⟨cz_3_0,cz_3_1,cz_3_2,cz_3_3⟩:=cells4s Rz_3;have q0:=fz (k:=0) Rz_3;have q1:=fz (k:=1) Rz_3;have q2:=fz (k:=2) Rz_3;have q3:=fz (k:=3) Rz_3;obtain⟨E0,E1,E2,E3⟩:=set4_cells Rz_3 rfl (.bool false) (.string ⟨#[]⟩) (.string ⟨#[]⟩) (.int .i64 0);go_wp2
          exact bodyPost_ret (v:=.tuple #[.agg #[.bool false,.string ⟨#[]⟩,.string ⟨#[]⟩,.int .i64 0],.int .i64 4]) (by simp [results,Tryz.results62,go_sem,E0,E1,E2,E3]) rfl ⟨rfl,set4_below B3 (by first|exact Nat.le_refl _|omega|(skip;omega)) _ _ _ _⟩
        . obtain⟨Rz_0,B0⟩:=opn1 w (Obj.cells #[.bool false,.string ⟨#[]⟩,.string ⟨#[]⟩,.int .i64 0] 60)
          go_enter Tryz.func62,Tryz.ntmps62
          go_wp2_with fail
          refine (nat_may s true H1.out _).mono ?_;rintro r w' ⟨rfl,rfl⟩;go_wp2_with fail
          refine (nat_may t true H2.out _).mono ?_;rintro r w' ⟨rfl,rfl⟩;go_wp2_with fail
          refine (nat_Low n x s HS.out LN.out LX.out _).mono ?_;rintro r w' ⟨rfl,rfl⟩;go_wp2_with fail
          refine (nat_Low d y t HT.out LD.out LY.out _).mono ?_;rintro r w' ⟨rfl,rfl⟩;go_wp2_with fail
          refine (nat_Right n (x:Int) s p b1 HS.out LN.out (by omega) (by omega) P1.out O1.out _).mono ?_;rintro r w1 ⟨rfl,b1⟩;have B1:Below w.heap.size w w1:=btr B0 b1;have Rz_1:=heap_of b1 _ _ _ Rz_0;clear b1 B0 Rz_0;obtain⟨cz_1_0,cz_1_1,cz_1_2,cz_1_3⟩:=cells4s Rz_1;go_wp2_with fail
          refine (nat_Right d (y:Int) t q b2 HT.out LD.out (by omega) (by omega) Q1.out O2.out _).mono ?_;rintro r w2 ⟨rfl,b2⟩;have B2:Below w.heap.size w w2:=btr B1 b2;have Rz_2:=heap_of b2 _ _ _ Rz_1;clear b2 B1 Rz_1 cz_1_0 cz_1_1 cz_1_2 cz_1_3;obtain⟨cz_2_0,cz_2_1,cz_2_2,cz_2_3⟩:=cells4s Rz_2;go_wp2_with fail
          refine (nat_Gcd (od n) (od d) p q h HP.out HQ.out L1.out L2.out HG.out _).mono ?_;rintro r w3 ⟨rfl,b3⟩;have B3:Below w.heap.size w w3:=btr B2 b3;have Rz_3:=heap_of b3 _ _ _ Rz_2;clear b3 B2 Rz_2 cz_2_0 cz_2_1 cz_2_2 cz_2_3;obtain⟨cz_3_0,cz_3_1,cz_3_2,cz_3_3⟩:=cells4s Rz_3;have q0:=fz (k:=0) Rz_3;have q1:=fz (k:=1) Rz_3;have q2:=fz (k:=2) Rz_3;have q3:=fz (k:=3) Rz_3;obtain⟨E0,E1,E2,E3⟩:=set4_cells Rz_3 rfl (.bool false) (.string ⟨#[]⟩) (.string ⟨#[]⟩) (.int .i64 0);go_wp2
          exact bodyPost_ret (v:=.tuple #[.agg #[.bool false,.string ⟨#[]⟩,.string ⟨#[]⟩,.int .i64 0],.int .i64 4]) (by simp [results,Tryz.results62,go_sem,E0,E1,E2,E3]) rfl ⟨rfl,set4_below B3 (by first|exact Nat.le_refl _|omega|(skip;omega)) _ _ _ _⟩
    . rw [decide_eq_false g1'] at eo
      rcases hc with ⟨hc,rfl,rfl,rfl,rfl,rfl⟩|⟨hc,rfl,rfl,rfl,rfl,rfl⟩
      . rw [hun] at hu
        rw [hud] at hv;subst hu hv;have c1:decide (re < -1048576)=false:=decide_eq_false (by omega);have c2:decide (1048576<re)=false:=decide_eq_false (by omega);clear hs ht ln ld hr hx hy hE hc o1 o2 o3 o4 hp hq n0 d0 hb1 hb2 hgg hh hun hud hvn hvd g1';obtain⟨Rz_0,B0⟩:=opn1 w (Obj.cells #[.bool false,.string ⟨#[]⟩,.string ⟨#[]⟩,.int .i64 0] 60)
        go_enter Tryz.func62,Tryz.ntmps62
        go_wp2_with fail
        refine (nat_may s true H1.out _).mono ?_;rintro r w' ⟨rfl,rfl⟩;go_wp2_with fail
        refine (nat_may t true H2.out _).mono ?_;rintro r w' ⟨rfl,rfl⟩;go_wp2_with fail
        refine (nat_Low n x s HS.out LN.out LX.out _).mono ?_;rintro r w' ⟨rfl,rfl⟩;go_wp2_with fail
        refine (nat_Low d y t HT.out LD.out LY.out _).mono ?_;rintro r w' ⟨rfl,rfl⟩;go_wp2_with fail
        refine (nat_Right n (x:Int) s p b1 HS.out LN.out (by omega) (by omega) P1.out O1.out _).mono ?_;rintro r w1 ⟨rfl,b1⟩;have B1:Below w.heap.size w w1:=btr B0 b1;have Rz_1:=heap_of b1 _ _ _ Rz_0;clear b1 B0 Rz_0;obtain⟨cz_1_0,cz_1_1,cz_1_2,cz_1_3⟩:=cells4s Rz_1;go_wp2_with fail
        refine (nat_Right d (y:Int) t q b2 HT.out LD.out (by omega) (by omega) Q1.out O2.out _).mono ?_;rintro r w2 ⟨rfl,b2⟩;have B2:Below w.heap.size w w2:=btr B1 b2;have Rz_2:=heap_of b2 _ _ _ Rz_1;clear b2 B1 Rz_1 cz_1_0 cz_1_1 cz_1_2 cz_1_3;obtain⟨cz_2_0,cz_2_1,cz_2_2,cz_2_3⟩:=cells4s Rz_2;go_wp2_with fail
        refine (nat_Gcd (od n) (od d) p q h HP.out HQ.out L1.out L2.out HG.out _).mono ?_;rintro r w3 ⟨rfl,b3⟩;have B3:Below w.heap.size w w3:=btr B2 b3;have Rz_3:=heap_of b3 _ _ _ Rz_2;clear b3 B2 Rz_2 cz_2_0 cz_2_1 cz_2_2 cz_2_3;obtain⟨cz_3_0,cz_3_1,cz_3_2,cz_3_3⟩:=cells4s Rz_3;go_wp2_with fail
        refine (nat_Div (od n) gg p h un vn HP.out HH.out L1.out G0.out U1.out U3.out _).mono ?_;rintro r w4 ⟨rfl,b4⟩;have B4:Below w.heap.size w w4:=btr B3 b4;have Rz_4:=heap_of b4 _ _ _ Rz_3;clear b4 B3 Rz_3 cz_3_0 cz_3_1 cz_3_2 cz_3_3;obtain⟨cz_4_0,cz_4_1,cz_4_2,cz_4_3⟩:=cells4s Rz_4;go_wp2_with fail
        refine (nat_Div (od d) gg q h ud vd HQ.out HH.out L2.out G0.out U2.out U4.out _).mono ?_;rintro r w5 ⟨rfl,b5⟩;have B5:Below w.heap.size w w5:=btr B4 b5;have Rz_5:=heap_of b5 _ _ _ Rz_4;clear b5 B4 Rz_4 cz_4_0 cz_4_1 cz_4_2 cz_4_3;obtain⟨cz_5_0,cz_5_1,cz_5_2,cz_5_3⟩:=cells4s Rz_5;have q0:=fz (k:=0) Rz_5;have q1:=fz (k:=1) Rz_5;have q2:=fz (k:=2) Rz_5;have q3:=fz (k:=3) Rz_5;obtain⟨E0,E1,E2,E3⟩:=set4_cells Rz_5 rfl (.bool rb) (.string un) (.string ud) (.int .i64 re);go_wp2
        exact bodyPost_ret (v:=.tuple #[.agg #[.bool rb,.string un,.string ud,.int .i64 re],.int .i64 0]) (by simp [results,Tryz.results62,go_sem,E0,E1,E2,E3]) rfl ⟨rfl,set4_below B5 (by first|exact Nat.le_refl _|omega|(skip;omega)) _ _ _ _⟩
      . rw [nbA_zero] at hu hv
        subst hu hv;have c0:E < -1048576∨1048576<E:=by omega
        have c12:decide (E < -1048576)=true∨(decide (E < -1048576)=false/\decide (1048576<E)=true):=by
          by_cases hh:E < -1048576
          . exact Or.inl (decide_eq_true hh)
          . exact Or.inr ⟨decide_eq_false hh,decide_eq_true (by omega)⟩
        clear hs ht ln ld hr hx hy hE hc o1 o2 o3 o4 hp hq n0 d0 hb1 hb2 hgg hh hun hud hvn hvd g1' c0
        rcases c12 with c1|⟨c1,c2⟩
        . obtain⟨Rz_0,B0⟩:=opn1 w (Obj.cells #[.bool false,.string ⟨#[]⟩,.string ⟨#[]⟩,.int .i64 0] 60)
          go_enter Tryz.func62,Tryz.ntmps62
          go_wp2_with fail
          refine (nat_may s true H1.out _).mono ?_;rintro r w' ⟨rfl,rfl⟩;go_wp2_with fail
          refine (nat_may t true H2.out _).mono ?_;rintro r w' ⟨rfl,rfl⟩;go_wp2_with fail
          refine (nat_Low n x s HS.out LN.out LX.out _).mono ?_;rintro r w' ⟨rfl,rfl⟩;go_wp2_with fail
          refine (nat_Low d y t HT.out LD.out LY.out _).mono ?_;rintro r w' ⟨rfl,rfl⟩;go_wp2_with fail
          refine (nat_Right n (x:Int) s p b1 HS.out LN.out (by omega) (by omega) P1.out O1.out _).mono ?_;rintro r w1 ⟨rfl,b1⟩;have B1:Below w.heap.size w w1:=btr B0 b1;have Rz_1:=heap_of b1 _ _ _ Rz_0;clear b1 B0 Rz_0;obtain⟨cz_1_0,cz_1_1,cz_1_2,cz_1_3⟩:=cells4s Rz_1;go_wp2_with fail
          refine (nat_Right d (y:Int) t q b2 HT.out LD.out (by omega) (by omega) Q1.out O2.out _).mono ?_;rintro r w2 ⟨rfl,b2⟩;have B2:Below w.heap.size w w2:=btr B1 b2;have Rz_2:=heap_of b2 _ _ _ Rz_1;clear b2 B1 Rz_1 cz_1_0 cz_1_1 cz_1_2 cz_1_3;obtain⟨cz_2_0,cz_2_1,cz_2_2,cz_2_3⟩:=cells4s Rz_2;go_wp2_with fail
          refine (nat_Gcd (od n) (od d) p q h HP.out HQ.out L1.out L2.out HG.out _).mono ?_;rintro r w3 ⟨rfl,b3⟩;have B3:Below w.heap.size w w3:=btr B2 b3;have Rz_3:=heap_of b3 _ _ _ Rz_2;clear b3 B2 Rz_2 cz_2_0 cz_2_1 cz_2_2 cz_2_3;obtain⟨cz_3_0,cz_3_1,cz_3_2,cz_3_3⟩:=cells4s Rz_3;go_wp2_with fail
          refine (nat_Div (od n) gg p h un vn HP.out HH.out L1.out G0.out U1.out U3.out _).mono ?_;rintro r w4 ⟨rfl,b4⟩;have B4:Below w.heap.size w w4:=btr B3 b4;have Rz_4:=heap_of b4 _ _ _ Rz_3;clear b4 B3 Rz_3 cz_3_0 cz_3_1 cz_3_2 cz_3_3;obtain⟨cz_4_0,cz_4_1,cz_4_2,cz_4_3⟩:=cells4s Rz_4;go_wp2_with fail
          refine (nat_Div (od d) gg q h ud vd HQ.out HH.out L2.out G0.out U2.out U4.out _).mono ?_;rintro r w5 ⟨rfl,b5⟩;have B5:Below w.heap.size w w5:=btr B4 b5;have Rz_5:=heap_of b5 _ _ _ Rz_4;clear b5 B4 Rz_4 cz_4_0 cz_4_1 cz_4_2 cz_4_3;obtain⟨cz_5_0,cz_5_1,cz_5_2,cz_5_3⟩:=cells4s Rz_5;have q0:=fz (k:=0) Rz_5;have q1:=fz (k:=1) Rz_5;have q2:=fz (k:=2) Rz_5;have q3:=fz (k:=3) Rz_5;obtain⟨E0,E1,E2,E3⟩:=set4_cells Rz_5 rfl (.bool false) (.string ⟨#[]⟩) (.string ⟨#[]⟩) (.int .i64 0);go_wp2
          exact bodyPost_ret (v:=.tuple #[.agg #[.bool false,.string ⟨#[]⟩,.string ⟨#[]⟩,.int .i64 0],.int .i64 4]) (by simp [results,Tryz.results62,go_sem,E0,E1,E2,E3]) rfl ⟨rfl,set4_below B5 (by first|exact Nat.le_refl _|omega|(skip;omega)) _ _ _ _⟩
        . obtain⟨Rz_0,B0⟩:=opn1 w (Obj.cells #[.bool false,.string ⟨#[]⟩,.string ⟨#[]⟩,.int .i64 0] 60)
          go_enter Tryz.func62,Tryz.ntmps62
          go_wp2_with fail
          refine (nat_may s true H1.out _).mono ?_;rintro r w' ⟨rfl,rfl⟩;go_wp2_with fail
          refine (nat_may t true H2.out _).mono ?_;rintro r w' ⟨rfl,rfl⟩;go_wp2_with fail
          refine (nat_Low n x s HS.out LN.out LX.out _).mono ?_;rintro r w' ⟨rfl,rfl⟩;go_wp2_with fail
          refine (nat_Low d y t HT.out LD.out LY.out _).mono ?_;rintro r w' ⟨rfl,rfl⟩;go_wp2_with fail
          refine (nat_Right n (x:Int) s p b1 HS.out LN.out (by omega) (by omega) P1.out O1.out _).mono ?_;rintro r w1 ⟨rfl,b1⟩;have B1:Below w.heap.size w w1:=btr B0 b1;have Rz_1:=heap_of b1 _ _ _ Rz_0;clear b1 B0 Rz_0;obtain⟨cz_1_0,cz_1_1,cz_1_2,cz_1_3⟩:=cells4s Rz_1;go_wp2_with fail
          refine (nat_Right d (y:Int) t q b2 HT.out LD.out (by omega) (by omega) Q1.out O2.out _).mono ?_;rintro r w2 ⟨rfl,b2⟩;have B2:Below w.heap.size w w2:=btr B1 b2;have Rz_2:=heap_of b2 _ _ _ Rz_1;clear b2 B1 Rz_1 cz_1_0 cz_1_1 cz_1_2 cz_1_3;obtain⟨cz_2_0,cz_2_1,cz_2_2,cz_2_3⟩:=cells4s Rz_2;go_wp2_with fail
          refine (nat_Gcd (od n) (od d) p q h HP.out HQ.out L1.out L2.out HG.out _).mono ?_;rintro r w3 ⟨rfl,b3⟩;have B3:Below w.heap.size w w3:=btr B2 b3;have Rz_3:=heap_of b3 _ _ _ Rz_2;clear b3 B2 Rz_2 cz_2_0 cz_2_1 cz_2_2 cz_2_3;obtain⟨cz_3_0,cz_3_1,cz_3_2,cz_3_3⟩:=cells4s Rz_3;go_wp2_with fail
          refine (nat_Div (od n) gg p h un vn HP.out HH.out L1.out G0.out U1.out U3.out _).mono ?_;rintro r w4 ⟨rfl,b4⟩;have B4:Below w.heap.size w w4:=btr B3 b4;have Rz_4:=heap_of b4 _ _ _ Rz_3;clear b4 B3 Rz_3 cz_3_0 cz_3_1 cz_3_2 cz_3_3;obtain⟨cz_4_0,cz_4_1,cz_4_2,cz_4_3⟩:=cells4s Rz_4;go_wp2_with fail
          refine (nat_Div (od d) gg q h ud vd HQ.out HH.out L2.out G0.out U2.out U4.out _).mono ?_;rintro r w5 ⟨rfl,b5⟩;have B5:Below w.heap.size w w5:=btr B4 b5;have Rz_5:=heap_of b5 _ _ _ Rz_4;clear b5 B4 Rz_4 cz_4_0 cz_4_1 cz_4_2 cz_4_3;obtain⟨cz_5_0,cz_5_1,cz_5_2,cz_5_3⟩:=cells4s Rz_5;have q0:=fz (k:=0) Rz_5;have q1:=fz (k:=1) Rz_5;have q2:=fz (k:=2) Rz_5;have q3:=fz (k:=3) Rz_5;obtain⟨E0,E1,E2,E3⟩:=set4_cells Rz_5 rfl (.bool false) (.string ⟨#[]⟩) (.string ⟨#[]⟩) (.int .i64 0);go_wp2
          exact bodyPost_ret (v:=.tuple #[.agg #[.bool false,.string ⟨#[]⟩,.string ⟨#[]⟩,.int .i64 0],.int .i64 4]) (by simp [results,Tryz.results62,go_sem,E0,E1,E2,E3]) rfl ⟨rfl,set4_below B5 (by first|exact Nat.le_refl _|omega|(skip;omega)) _ _ _ _⟩

end Go.Proofs.YtdjlfhcalccajaaGreatDoor
