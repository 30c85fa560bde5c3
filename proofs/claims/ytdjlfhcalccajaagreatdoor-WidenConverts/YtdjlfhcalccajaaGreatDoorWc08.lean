/-
  What the functions that the statement reaches return: part 8 (S4, S5, S6, K1, K2, K3).
-/
import Derived.Test.YtdjlfhcalccajaaGreatDoorWc07
namespace Go.Proofs.YtdjlfhcalccajaaGreatDoor
set_option maxRecDepth 100000
set_option maxHeartbeats 40000000
set_option maxRecDepth 100000
open Go.RowKit WMath
theorem r_right (f:Int)(o:Bool)(ho:decide (f<=3)=o)(w:World) :
    Calls Tryz.prog 19 #[.int .u8 f] w fun e w'=>e=.returned (.bool o)/\w'=w:=by
  go_enter Tryz.func19,Tryz.ntmps19
  go_wp2
  go_ret
  exact⟨rfl,rfl⟩
theorem r_mode (f:Int)(o:Bool)(ho:decide (f<=4)=o)(w:World) :
    Calls Tryz.prog 21 #[.int .u8 f] w fun e w'=>e=.returned (.bool o)/\w'=w:=by
  go_enter Tryz.func21,Tryz.ntmps21
  go_wp2
  go_ret
  exact⟨rfl,rfl⟩
theorem r_width (f v:Int)(h0:0<=f)(hv:fW f=v)(w:World) :
    Calls Tryz.prog 53 #[.int .u8 f] w fun e w'=>e=.returned (.int .i64 v)/\w'=w:=by
  subst hv
  rcases f_cases f h0 with rfl|rfl|rfl|rfl|h
  . go_enter Tryz.func53,Tryz.ntmps53
    go_wp2
    go_ret
    exact⟨rfl,rfl⟩
  . go_enter Tryz.func53,Tryz.ntmps53
    go_wp2
    go_ret
    exact⟨rfl,rfl⟩
  . go_enter Tryz.func53,Tryz.ntmps53
    go_wp2
    go_ret
    exact⟨rfl,rfl⟩
  . go_enter Tryz.func53,Tryz.ntmps53
    go_wp2
    go_ret
    exact⟨rfl,rfl⟩
  . have e0:fW f=0:=by unfold fW;rw [if_neg (by omega),if_neg (by omega),if_neg (by omega),if_neg (by omega)]
    rw [e0];have d0:(f == 0)=false:=by simp;omega
    have d1:(f == 1)=false:=by simp;omega
    have d2:(f == 2)=false:=by simp;omega
    have d3:(f == 3)=false:=by simp;omega
    go_enter Tryz.func53,Tryz.ntmps53
    go_wp2
    go_ret
    exact⟨rfl,rfl⟩
theorem r_precision (f v:Int)(h0:0<=f)(hv:fP f=v)(w:World) :
    Calls Tryz.prog 57 #[.int .u8 f] w fun e w'=>e=.returned (.int .i64 v)/\w'=w:=by
  subst hv
  rcases f_cases f h0 with rfl|rfl|rfl|rfl|h
  . go_enter Tryz.func57,Tryz.ntmps57
    go_wp2
    go_ret
    exact⟨rfl,rfl⟩
  . go_enter Tryz.func57,Tryz.ntmps57
    go_wp2
    go_ret
    exact⟨rfl,rfl⟩
  . go_enter Tryz.func57,Tryz.ntmps57
    go_wp2
    go_ret
    exact⟨rfl,rfl⟩
  . go_enter Tryz.func57,Tryz.ntmps57
    go_wp2
    go_ret
    exact⟨rfl,rfl⟩
  . have e0:fP f=0:=by unfold fP;rw [if_neg (by omega),if_neg (by omega),if_neg (by omega),if_neg (by omega)]
    rw [e0];have d0:(f == 0)=false:=by simp;omega
    have d1:(f == 1)=false:=by simp;omega
    have d2:(f == 2)=false:=by simp;omega
    have d3:(f == 3)=false:=by simp;omega
    go_enter Tryz.func57,Tryz.ntmps57
    go_wp2
    go_ret
    exact⟨rfl,rfl⟩
theorem r_emax (f v:Int)(h0:0<=f)(hv:fE f=v)(w:World) :
    Calls Tryz.prog 68 #[.int .u8 f] w fun e w'=>e=.returned (.int .i64 v)/\w'=w:=by
  subst hv
  rcases f_cases f h0 with rfl|rfl|rfl|rfl|h
  . go_enter Tryz.func68,Tryz.ntmps68
    go_wp2
    go_ret
    exact⟨rfl,rfl⟩
  . go_enter Tryz.func68,Tryz.ntmps68
    go_wp2
    go_ret
    exact⟨rfl,rfl⟩
  . go_enter Tryz.func68,Tryz.ntmps68
    go_wp2
    go_ret
    exact⟨rfl,rfl⟩
  . go_enter Tryz.func68,Tryz.ntmps68
    go_wp2
    go_ret
    exact⟨rfl,rfl⟩
  . have e0:fE f=0:=by unfold fE;rw [if_neg (by omega),if_neg (by omega),if_neg (by omega),if_neg (by omega)]
    rw [e0];have d0:(f == 0)=false:=by simp;omega
    have d1:(f == 1)=false:=by simp;omega
    have d2:(f == 2)=false:=by simp;omega
    have d3:(f == 3)=false:=by simp;omega
    go_enter Tryz.func68,Tryz.ntmps68
    go_wp2
    go_ret
    exact⟨rfl,rfl⟩

theorem fE_lim {f m:Int} (h:fE f=m):0<=m/\m<=16383:=by rw [<-h];unfold fE;split <;> (try split) <;> (try split) <;> (try split) <;> omega
theorem fP_lim {f m:Int} (h:fP f=m):0<=m/\m<=113:=by rw [<-h];unfold fP;split <;> (try split) <;> (try split) <;> (try split) <;> omega
theorem fW_lim {f m:Int} (h:fW f=m):0<=m/\m<=128:=by rw [<-h];unfold fW;split <;> (try split) <;> (try split) <;> (try split) <;> omega

theorem r_emin (f m v:Int)(h0:0<=f)(hm:fE f=m)(hv:(if fC f=0 then 1-m else 0)=v)(w:World) :
    Calls Tryz.prog 69 #[.int .u8 f] w fun e w'=>e=.returned (.int .i64 v)/\w'=w:=by
  have hm2:=fE_lim hm
  by_cases h:f<=3
  . have hc:fC f=0:=by unfold fC;rw [if_pos (by omega)]
    rw [if_pos hc] at hv;subst hv;have hw:IntKind.i64.wrap (1-m)=1-m:=by rw [IntKind.wrap_i64];omega
    go_enter Tryz.func69,Tryz.ntmps69
    go_wp2_with fail
    refine (r_right f true (by simp [h]) _).mono ?_;rintro r w' ⟨rfl,rfl⟩;go_wp2_with fail
    refine (r_emax f m h0 hm _).mono ?_;rintro r w' ⟨rfl,rfl⟩;go_wp2
    go_ret
    exact⟨rfl,rfl⟩
  . have hc:¬ fC f=0:=by unfold fC;rw [if_neg (by omega)];decide
    rw [if_neg hc] at hv;subst hv
    go_enter Tryz.func69,Tryz.ntmps69
    go_wp2_with fail
    refine (r_right f false (by simp;omega) _).mono ?_;rintro r w' ⟨rfl,rfl⟩;go_wp2
    go_ret
    exact⟨rfl,rfl⟩

theorem r_ones (f m v:Int)(h0:0<=f)(hm:fE f=m)(hv:2*m+1=v)(w:World) :
    Calls Tryz.prog 59 #[.int .u8 f] w fun e w'=>e=.returned (.int .i64 v)/\w'=w:=by
  have hm2:=fE_lim hm;have h1:IntKind.i64.wrap (2*m)=2*m:=by rw [IntKind.wrap_i64];omega
  have h2:IntKind.i64.wrap (2*m+1)=v:=by rw [IntKind.wrap_i64];omega
  go_enter Tryz.func59,Tryz.ntmps59
  go_wp2_with fail
  refine (r_emax f m h0 hm _).mono ?_;rintro r w' ⟨rfl,rfl⟩;go_wp2
  go_ret
  exact⟨rfl,rfl⟩

theorem r_fits_no (f:Int)(b:Nat×Nat)(h:¬ f<=3)(w:World) :
    Calls Tryz.prog 20 #[.int .u8 f,bitsV b] w fun e w'=>e=.returned (.bool false)/\Below w.heap.size w w':=by
  unfold bitsV
  go_enter Tryz.func20,Tryz.ntmps20
  go_wp2_with fail
  refine (r_right f false (by simp;omega) _).mono ?_;rintro r w' ⟨rfl,rfl⟩;go_wp2
  go_ret
  exact⟨rfl,bal7 _ _⟩

theorem r_fits (f q:Int)(b:Nat×Nat)(n l:Nat)(o:Bool)(h0:0<=f)(h:f<=3)(hq:fW f=q)(hb1:b.1<18446744073709551616)(hb2:b.2<18446744073709551616)(hn:b.2+18446744073709551616*b.1=n)(hl:blen n=l)(ho:decide ((l:Int)<=q)=o)(w:World) :
    Calls Tryz.prog 20 #[.int .u8 f,bitsV b] w fun e w'=>e=.returned (.bool o)/\Below w.heap.size w w':=by
  unfold bitsV
  go_enter Tryz.func20,Tryz.ntmps20
  go_wp2_with fail
  refine (r_right f true (by simp [h]) _).mono ?_;rintro r w' ⟨rfl,rfl⟩;go_wp2_with fail
  refine (rwofbits_is b.1 b.2 n hb1 hb2 hn _).mono ?_;rintro r w2 ⟨rfl,b2⟩;go_wp2_with fail
  refine (rwlen_any n (by rw [<-hn];exact bits_ltQ _ _ hb2 hb1) _).mono ?_;rintro r w3 ⟨rfl,b3⟩;go_wp2_with fail
  refine (r_width f q h0 hq _).mono ?_;rintro r w' ⟨rfl,rfl⟩;go_wp2
  go_ret
  exact⟨rfl,btr7 (btr7 (bal7 _ _) b2) b3⟩

theorem lt_Q7 {v:Nat} (h:v<340282366920938463463374607431768211456):v<Q:=by
  have:=bits_ltQ (v % 18446744073709551616) (v / 18446744073709551616) (Nat.mod_lt _ (by decide)) (by omega)
  omega
theorem wd01 {v:Nat} (h:v<340282366920938463463374607431768211456):wd v 0=v % 18446744073709551616/\wd v 1=v / 18446744073709551616:=by
  constructor
  . unfold wd;rw [Nat.mul_zero,Nat.pow_zero,Nat.div_one]
  . unfold wd;rw [show 2 ^ (64*1)=18446744073709551616 by decide,Nat.mod_eq_of_lt (by omega)]

theorem bel_set {w W:World} {b:Nat} {c:Array Value} (h:Below w.heap.size w W)(hb:w.heap.size<=b):Below w.heap.size w (W.setRow b c):=Below.setRow h hb

set_option maxHeartbeats 2000000 in
theorem r_build (f p q:Int)(neg:Bool)(e T A B C v pn qn:Nat)(hf:Is4 f)(hp:fP f=p)(hq:fW f=q)(hpn:p-1=(pn:Int))(hqn:q-1=(qn:Int))(he:e<65536)(hT:T<Q)
    (hA:e*2 ^ pn=A) (lA:A<Q) (hB:A+T=B) (lB:B<340282366920938463463374607431768211456) (hC:1*2 ^ qn=C) (lC:C<Q) (hv:B+(if neg then C else 0)=v) (lv:v<340282366920938463463374607431768211456) (w:World) :
    Calls Tryz.prog 58 #[.int .u8 f,.bool neg,.int .i64 (e:Nat),.agg (cw 6 T)] w fun r w'=>r=.returned (bitsV (bv7 v))/\Below w.heap.size w w':=by
  have hat:=cw_at 6;have hz:=cw6z;have hff:=cw6f;have hs0:=st0;have hcs:∀ x,((cw 6 x).size=6)=True:=fun x=>eq_true (cw_size 6 x);have f4:=is4_ok hf;have p2:=fP_lim hp;have q2:=fW_lim hq;have f3:f<=3:=by rcases hf with rfl|rfl|rfl|rfl <;> decide
  have e1:IntKind.i64.wrap (p-1)=(pn:Int):=by rw [<-hpn,IntKind.wrap_i64];omega
  have e3:IntKind.i64.wrap (q-1)=(qn:Int):=by rw [<-hqn,IntKind.wrap_i64];omega
  have e2:IntKind.u64.wrap (e:Int)=(e:Int):=by rw [IntKind.wrap_u64];omega
  have lBQ:=lt_Q7 lB;have lvQ:=lt_Q7 lv;have cp:cnt6 (pn:Int)=pn:=by unfold cnt6;omega
  have cq:cnt6 (qn:Int)=qn:=by unfold cnt6;omega
  have KA:Box (∀ w:World,Calls Tryz.prog 55 #[.agg (cw 6 e),.int .i64 (pn:Nat)] w fun r w'=>r=.returned (.tuple #[.agg (cw 6 A),.bool false])/\Below w.heap.size w w'):=box (fun w=>rwleft_is e A pn false (lt_Q7 (by omega)) (by rw [cp,hA,Nat.mod_eq_of_lt lA]) (by rw [cp,hA];simp;omega) w);have KB:Box (∀ w:World,Calls Tryz.prog 104 #[.agg (cw 6 A),.agg (cw 6 T)] w fun r w'=>r=.returned (.tuple #[.agg (cw 6 B),.bool false])/\Below w.heap.size w w'):=box (fun w=>rwadd_is A T B false lA hT (by rw [hB,Nat.mod_eq_of_lt lBQ]) (by rw [hB];simp;omega) w);have KC:Box (∀ w:World,Calls Tryz.prog 55 #[.agg (cw 6 1),.int .i64 (qn:Nat)] w fun r w'=>r=.returned (.tuple #[.agg (cw 6 C),.bool false])/\Below w.heap.size w w'):=box (fun w=>rwleft_is 1 C qn false (lt_Q7 (by omega)) (by rw [cq,hC,Nat.mod_eq_of_lt lC]) (by rw [cq,hC];simp;omega) w)
  have KD:Box (neg=true->∀ w:World,Calls Tryz.prog 104 #[.agg (cw 6 B),.agg (cw 6 C)] w fun r w'=>r=.returned (.tuple #[.agg (cw 6 v),.bool false])/\Below w.heap.size w w'):=box (fun hn w=>by
    subst hn;have hv':B+C=v:=by simpa using hv
    exact rwadd_is B C v false lBQ lC (by rw [hv',Nat.mod_eq_of_lt lvQ]) (by rw [hv'];simp;omega) w)
  have W01:=wd01 lv
  have KE:Box (∀ w:World,Calls Tryz.prog 105 #[.agg (cw 6 v)] w fun r w'=>r=.returned (.tuple #[.agg #[.int .u64 (v / 18446744073709551616:Nat),.int .u64 (v % 18446744073709551616:Nat)],.bool true])/\Below w.heap.size w w'):=box (fun w=>by
    have h:=rwtobits_yes v lvQ (by rw [W01.1,W01.2];omega) w;rw [W01.1,W01.2] at h;exact h)
  have KR:=box (r_right f true (by simp [f3]));have KP:=box (r_precision f p f4.1 hp);have KW:=box (r_width f q f4.1 hq);have KO:Box (∀ w:World,Calls Tryz.prog 56 #[.int .u64 (e:Nat)] w fun r w'=>r=.returned (.agg (cw 6 e))/\Below w.heap.size w w'):=box (fun w=>rwof_any e (by omega) w);have K1:Box (∀ w:World,Calls Tryz.prog 56 #[.int .u64 1] w fun r w'=>r=.returned (.agg (cw 6 1))/\Below w.heap.size w w'):=box (fun w=>rwof_any 1 (by omega) w);obtain⟨vh,hvh⟩:∃ x:Nat,v / 18446744073709551616=x:=⟨_,rfl⟩;obtain⟨vl,hvl⟩:∃ x:Nat,v % 18446744073709551616=x:=⟨_,rfl⟩;have eR:bitsV (bv7 v)=.agg #[.int .u64 (vh:Nat),.int .u64 (vl:Nat)]:=by unfold bitsV bv7;rw [hvh,hvl]
  rw [eR];rw [hvh,hvl] at KE;have RT:((w.alloc (.cells (cw 6 T) 42)).alloc (.cells #[.int .u64 0,.int .u64 0] 26)).heap[w.heap.size]?=some (.cells (cw 6 T) 42):=row_al (last7 _ _) _;have RR:((w.alloc (.cells (cw 6 T) 42)).alloc (.cells #[.int .u64 0,.int .u64 0] 26)).heap[w.heap.size+1]?=some (.cells #[.int .u64 0,.int .u64 0] 26):=row_last (by simp only [size_al]);have B0:Below w.heap.size w ((w.alloc (.cells (cw 6 T) 42)).alloc (.cells #[.int .u64 0,.int .u64 0] 26)):=btr7 (bal7 _ _) (bal7 _ _);have HV:Box (B+(if neg then C else 0)=v):=box hv;have HL:=box lB;have HCL:=box lC;have HVL:=box lvQ;clear hA lA hB lB hC lC hv lv hT he hpn hqn f4 p2 q2 f3 hp hq cp cq W01 lBQ lvQ hvh hvl eR hf
  go_enter Tryz.func58,Tryz.ntmps58
  go_wp2_with fail
  refine (KR.out _).mono ?_;rintro r w' ⟨rfl,rfl⟩;go_wp2_with fail
  refine (KO.out _).mono ?_;rintro r w1 ⟨rfl,b1⟩;have B1:=btr7 B0 b1;have RT1:=heap_of b1 _ _ _ RT;have RR1:=heap_of b1 _ _ _ RR;clear B0 RT RR b1;go_wp2_with fail
  refine (KP.out _).mono ?_;rintro r w' ⟨rfl,rfl⟩;go_wp2_with fail
  refine (KA.out _).mono ?_;rintro r w2 ⟨rfl,b2⟩;have B2:=btr7 B1 b2;have RT2:=heap_of b2 _ _ _ RT1;have RR2:=heap_of b2 _ _ _ RR1;clear B1 RT1 RR1 b2;have S2:=B2.size;have ZT:=(Array.getElem?_eq_some_iff.1 RR2).1;have RT3:=row_al RT2 (.cells (cw 6 A) 42);have RR3:=row_al RR2 (.cells (cw 6 A) 42);have RW3:(w2.alloc (.cells (cw 6 A) 42)).heap[w2.heap.size]?=some (.cells (cw 6 A) 42):=last7 _ _;have B3:=bel_al B2 (.cells (cw 6 A) 42);have c0:=row_cell RT3;go_wp2_with fail
  refine (KB.out _).mono ?_;rintro r w4 ⟨rfl,b4⟩;have B4:=btr7 B3 b4;have RR4:=heap_of b4 _ _ _ RR3;have RW4:=heap_of b4 _ _ _ RW3;clear B3 RR3 RW3 RT3 RT2 RR2 B2 b4 c0;obtain⟨g,hg⟩:∃ g,w2.heap.size=g:=⟨_,rfl⟩;rw [hg] at RW4 ZT S2 ⊢;clear hg;have hst:=st_any w4 g B A RW4;have B5:Below w.heap.size w (w4.setRow g (cw 6 B)):=bel_set B4 S2;have RW5:(w4.setRow g (cw 6 B)).heap[g]?=some (.cells (cw 6 B) 42):=setRow_row RW4;have RR5:(w4.setRow g (cw 6 B)).heap[w.heap.size+1]?=some (.cells #[.int .u64 0,.int .u64 0] 26):=by rw [setRow_other (by omega)];exact RR4
  obtain⟨w5,hw5⟩:∃ w5,w4.setRow g (cw 6 B)=w5:=⟨_,rfl⟩;rw [hw5] at B5 RW5 RR5 hst;clear B4 RW4 RR4;have c5:=row_cell RW5;have fin:Box (∀ (w6:World) (b:Below w.heap.size w w6),w6.heap[w.heap.size+1]?=some (.cells #[.int .u64 0,.int .u64 0] 26)->True):=box (fun _ _ _=>trivial)
  cases neg
  . have e5:B=v:=by have:=HV.out;simpa using this
    subst e5;clear fin;go_wp2_with fail
    refine (KE.out _).mono ?_;rintro r w6 ⟨rfl,b6⟩;have B6:=btr7 B5 b6;have RR6:=row_al (heap_of b6 _ _ _ RR5) (.cells #[.int .u64 vh,.int .u64 vl] 26);have RB6:(w6.alloc (.cells #[.int .u64 vh,.int .u64 vl] 26)).heap[w6.heap.size]?=some (.cells #[.int .u64 vh,.int .u64 vl] 26):=last7 _ _;have B7:=bel_al B6 (.cells #[.int .u64 vh,.int .u64 vl] 26);clear hst hw5 c5 RW5 RR5 B5 b6 B6;have q0:=fz (k:=0) RR6;have q1:=fz (k:=1) RR6;have d0:=cell7 RR6 0 _ rfl;have d1:=cell7 RR6 1 _ rfl;obtain⟨E0,E1⟩:=set2_cells RR6 (.int .u64 vh) (.int .u64 vl);go_wp2
    exact bodyPost_ret (v:=.agg #[.int .u64 vh,.int .u64 vl]) (by simp [results,Tryz.results58,go_sem,E0,E1]) rfl ⟨rfl,set2_below B7 (by omega) _ _⟩
  . go_wp2_with fail
    refine (K1.out _).mono ?_;rintro r w6 ⟨rfl,b6⟩;have B6:=btr7 B5 b6;have RR6:=heap_of b6 _ _ _ RR5;have RW6:=heap_of b6 _ _ _ RW5;clear B5 RR5 RW5 c5 hst hw5 b6;go_wp2_with fail
    refine (KW.out _).mono ?_;rintro r w' ⟨rfl,rfl⟩;go_wp2_with fail
    refine (KC.out _).mono ?_;rintro r w7 ⟨rfl,b7⟩;have B7:=bel_al (btr7 B6 b7) (.cells (cw 6 C) 42);have RR7:=row_al (heap_of b7 _ _ _ RR6) (.cells (cw 6 C) 42);have RW7:=row_al (heap_of b7 _ _ _ RW6) (.cells (cw 6 C) 42);clear B6 RR6 RW6 b7;have c7:=row_cell RW7;go_wp2_with fail
    refine (KD.out (by simp) _).mono ?_;rintro r w9 ⟨rfl,b9⟩;have B9:=btr7 B7 b9;have RR9:=heap_of b9 _ _ _ RR7;have RW9:=heap_of b9 _ _ _ RW7;clear B7 RR7 RW7 b9 c7;have hst9:=st_any w9 g v B RW9;have B10:Below w.heap.size w (w9.setRow g (cw 6 v)):=bel_set B9 S2;have RW10:(w9.setRow g (cw 6 v)).heap[g]?=some (.cells (cw 6 v) 42):=setRow_row RW9;have RR10:(w9.setRow g (cw 6 v)).heap[w.heap.size+1]?=some (.cells #[.int .u64 0,.int .u64 0] 26):=by rw [setRow_other (by omega)];exact RR9
    obtain⟨w10,hw10⟩:∃ w10,w9.setRow g (cw 6 v)=w10:=⟨_,rfl⟩;rw [hw10] at B10 RW10 RR10 hst9;clear B9 RW9 RR9;have c10:=row_cell RW10;go_wp2_with fail
    refine (KE.out _).mono ?_;rintro r w11 ⟨rfl,b11⟩;have B11:=btr7 B10 b11;have RR11:=row_al (heap_of b11 _ _ _ RR10) (.cells #[.int .u64 vh,.int .u64 vl] 26);have RB11:(w11.alloc (.cells #[.int .u64 vh,.int .u64 vl] 26)).heap[w11.heap.size]?=some (.cells #[.int .u64 vh,.int .u64 vl] 26):=last7 _ _;have B12:=bel_al B11 (.cells #[.int .u64 vh,.int .u64 vl] 26);clear hst9 hw10 c10 RW10 RR10 B10 b11 B11;have q0:=fz (k:=0) RR11;have q1:=fz (k:=1) RR11;have d0:=cell7 RR11 0 _ rfl;have d1:=cell7 RR11 1 _ rfl;obtain⟨E0,E1⟩:=set2_cells RR11 (.int .u64 vh) (.int .u64 vl);go_wp2
    exact bodyPost_ret (v:=.agg #[.int .u64 vh,.int .u64 vl]) (by simp [results,Tryz.results58,go_sem,E0,E1]) rfl ⟨rfl,set2_below B12 (by omega) _ _⟩

theorem r_enc (f:Int)(neg:Bool)(e T v:Nat)(hf:Is4 f)(he:e<32768)(hT:T<2 ^ pV f)(hv:enc7 f neg e T=v)(hev:e<=oV f)(w:World) :
    Calls Tryz.prog 58 #[.int .u8 f,.bool neg,.int .i64 (e:Nat),.agg (cw 6 T)] w fun r w'=>r=.returned (bitsV (bv7 v))/\Below w.heap.size w w':=by
  subst hv
  have k:fP f-1=(pV f:Int)/\fW f-1=(wV f:Int)/\2 ^ wV f<=170141183460469231731687303715884105728/\2 ^ pV f<=5192296858534827628530496329220096/\(oV f+1)*2 ^ pV f<=2 ^ wV f:=by
    rcases hf with rfl|rfl|rfl|rfl <;> decide +kernel
  obtain⟨k1,k2,k3,k4,k5⟩:=k
  unfold enc7
  obtain⟨P,hP⟩:∃ P,2 ^ pV f=P:=⟨_,rfl⟩;obtain⟨C,hC⟩:∃ C,2 ^ wV f=C:=⟨_,rfl⟩;rw [hP] at k4 k5 hT;rw [hC] at k3 k5;rw [hP,hC];have h1:e*P<=oV f*P:=Nat.mul_le_mul_right _ hev;have h2:(oV f+1)*P=oV f*P+P:=by rw [Nat.add_mul,Nat.one_mul]
  have h3:(if neg=true then C else 0)<=C:=by split <;> omega
  refine r_build f _ _ neg e T (e*P) (e*P+T) C _ (pV f) (wV f) hf rfl rfl k1 k2 (by omega) (lt_Q7 (by omega)) (by rw [hP]) (lt_Q7 (by omega)) rfl (by omega) (by rw [hC,Nat.one_mul]) (lt_Q7 (by omega)) rfl (by omega) w



set_option maxHeartbeats 1000000 in
theorem r_inf (f:Int)(neg:Bool)(hf:Is4 f)(v:Nat)(hv:eInf f neg=v)(w:World) :
    Calls Tryz.prog 27 #[.int .u8 f,.bool neg] w fun r w'=>r=.returned (bitsV (bv7 v))/\Below w.heap.size w w':=by
  have f4:=is4_ok hf;have hz:=cw6z;have hff:=cw6f;obtain⟨x,y,hxy⟩:∃ x y,bv7 v=(x,y):=⟨_,_,rfl⟩;have e0:bitsV (bv7 v)=.agg #[.int .u64 (x:Nat),.int .u64 (y:Nat)]:=by rw [hxy];rfl
  obtain⟨E,hE⟩:∃ E:Nat,oV f=E:=⟨_,rfl⟩;obtain⟨T,hT⟩:∃ T:Nat,0=T:=⟨_,rfl⟩;have k:=r_enc f neg E T v hf (by rw [<-hE];rcases hf with rfl|rfl|rfl|rfl <;> decide +kernel) (by rw [<-hT];rcases hf with rfl|rfl|rfl|rfl <;> decide +kernel) (by rw [<-hE,<-hT];exact hv) (by rw [<-hE];rcases hf with rfl|rfl|rfl|rfl <;> decide +kernel);rw [e0];rw [e0] at k;have KB:=box k;clear k hv e0 hxy;subst hT;have HE:=box hE;clear hE;have R0:(w.alloc (.cells #[.int .u64 0,.int .u64 0] 26)).heap[w.heap.size]?=some (.cells #[.int .u64 0,.int .u64 0] 26):=last7 _ _;have B0:=bal7 w (.cells #[.int .u64 0,.int .u64 0] 26)
  go_enter Tryz.func27,Tryz.ntmps27
  go_wp2_with fail
  refine (r_ones f _ (E:Int) f4.1 rfl (by rw [<-HE.out];rcases hf with rfl|rfl|rfl|rfl <;> decide +kernel) _).mono ?_;rintro r w' ⟨rfl,rfl⟩;go_wp2_with fail
  refine (KB.out _).mono ?_;rintro r w1 ⟨rfl,b1⟩;have B1:=btr7 B0 b1;have R1:=heap_of b1 _ _ _ R0;clear B0 R0 b1;have q0:=fz (k:=0) R1;have q1:=fz (k:=1) R1;have d0:=cell7 R1 0 _ rfl;have d1:=cell7 R1 1 _ rfl;obtain⟨E0,E1⟩:=set2_cells R1 (.int .u64 x) (.int .u64 y);go_wp2
  exact bodyPost_ret (v:=.agg #[.int .u64 x,.int .u64 y]) (by simp [results,Tryz.results27,go_sem,E0,E1]) rfl ⟨rfl,set2_below B1 (by omega) _ _⟩

set_option maxHeartbeats 1000000 in
theorem r_zero (f:Int)(neg:Bool)(hf:Is4 f)(v:Nat)(hv:eZero f neg=v)(w:World) :
    Calls Tryz.prog 29 #[.int .u8 f,.bool neg] w fun r w'=>r=.returned (bitsV (bv7 v))/\Below w.heap.size w w':=by
  have f4:=is4_ok hf;have hz:=cw6z;have hff:=cw6f;obtain⟨x,y,hxy⟩:∃ x y,bv7 v=(x,y):=⟨_,_,rfl⟩;have e0:bitsV (bv7 v)=.agg #[.int .u64 (x:Nat),.int .u64 (y:Nat)]:=by rw [hxy];rfl
  obtain⟨E,hE⟩:∃ E:Nat,0=E:=⟨_,rfl⟩;obtain⟨T,hT⟩:∃ T:Nat,0=T:=⟨_,rfl⟩;have k:=r_enc f neg E T v hf (by rw [<-hE];rcases hf with rfl|rfl|rfl|rfl <;> decide +kernel) (by rw [<-hT];rcases hf with rfl|rfl|rfl|rfl <;> decide +kernel) (by rw [<-hE,<-hT];exact hv) (by rw [<-hE];rcases hf with rfl|rfl|rfl|rfl <;> decide +kernel);rw [e0];rw [e0] at k;have KB:=box k;clear k hv e0 hxy;subst hT;subst hE;have R0:(w.alloc (.cells #[.int .u64 0,.int .u64 0] 26)).heap[w.heap.size]?=some (.cells #[.int .u64 0,.int .u64 0] 26):=last7 _ _;have B0:=bal7 w (.cells #[.int .u64 0,.int .u64 0] 26)
  go_enter Tryz.func29,Tryz.ntmps29
  go_wp2_with fail
  refine (KB.out _).mono ?_;rintro r w1 ⟨rfl,b1⟩;have B1:=btr7 B0 b1;have R1:=heap_of b1 _ _ _ R0;clear B0 R0 b1;have q0:=fz (k:=0) R1;have q1:=fz (k:=1) R1;have d0:=cell7 R1 0 _ rfl;have d1:=cell7 R1 1 _ rfl;obtain⟨E0,E1⟩:=set2_cells R1 (.int .u64 x) (.int .u64 y);go_wp2
  exact bodyPost_ret (v:=.agg #[.int .u64 x,.int .u64 y]) (by simp [results,Tryz.results29,go_sem,E0,E1]) rfl ⟨rfl,set2_below B1 (by omega) _ _⟩

set_option maxHeartbeats 1000000 in
theorem r_greatest (f:Int)(neg:Bool)(hf:Is4 f)(v:Nat)(hv:eGreatest f neg=v)(w:World) :
    Calls Tryz.prog 149 #[.int .u8 f,.bool neg] w fun r w'=>r=.returned (bitsV (bv7 v))/\Below w.heap.size w w':=by
  have f4:=is4_ok hf;have hz:=cw6z;have hff:=cw6f;obtain⟨x,y,hxy⟩:∃ x y,bv7 v=(x,y):=⟨_,_,rfl⟩;have e0:bitsV (bv7 v)=.agg #[.int .u64 (x:Nat),.int .u64 (y:Nat)]:=by rw [hxy];rfl
  obtain⟨E,hE⟩:∃ E:Nat,oV f-1=E:=⟨_,rfl⟩;obtain⟨T,hT⟩:∃ T:Nat,2 ^ pV f-1=T:=⟨_,rfl⟩;have k:=r_enc f neg E T v hf (by rw [<-hE];rcases hf with rfl|rfl|rfl|rfl <;> decide +kernel) (by rw [<-hT];rcases hf with rfl|rfl|rfl|rfl <;> decide +kernel) (by rw [<-hE,<-hT];exact hv) (by rw [<-hE];rcases hf with rfl|rfl|rfl|rfl <;> decide +kernel);rw [e0];rw [e0] at k;have KB:=box k;clear k hv e0 hxy;obtain⟨pn,hpn⟩:∃ pn:Nat,pV f=pn:=⟨_,rfl⟩;obtain⟨M,hM⟩:∃ M:Int,2*fE f+1=M:=⟨_,rfl⟩;obtain⟨p,hp⟩:∃ p:Int,fP f=p:=⟨_,rfl⟩;have w1:IntKind.i64.wrap (M-1)=(E:Int):=by rw [<-hE,<-hM];rcases hf with rfl|rfl|rfl|rfl <;> decide +kernel
  have w2':IntKind.i64.wrap (p-1)=(pn:Int):=by rw [<-hpn,<-hp];rcases hf with rfl|rfl|rfl|rfl <;> decide +kernel
  have HK:Box (2 ^ cnt6 (pn:Int)-1=T):=box (by rw [<-hT,<-hpn];rcases hf with rfl|rfl|rfl|rfl <;> decide +kernel);have HM:=box hM;have HP:=box hp;clear hM hp hpn;have HE:=box hE;clear hE;have HT:=box hT;clear hT;have R0:(w.alloc (.cells #[.int .u64 0,.int .u64 0] 26)).heap[w.heap.size]?=some (.cells #[.int .u64 0,.int .u64 0] 26):=last7 _ _;have B0:=bal7 w (.cells #[.int .u64 0,.int .u64 0] 26)
  go_enter Tryz.func149,Tryz.ntmps149
  go_wp2_with fail
  refine (r_ones f _ M f4.1 rfl HM.out _).mono ?_;rintro r w' ⟨rfl,rfl⟩;go_wp2_with fail
  refine (r_precision f p f4.1 HP.out _).mono ?_;rintro r w' ⟨rfl,rfl⟩;go_wp2_with fail
  refine (rwmask_is (pn:Int) T HK.out _).mono ?_;rintro r w1 ⟨rfl,b1⟩;have B1:=btr7 B0 b1;have R1:=heap_of b1 _ _ _ R0;clear B0 R0 b1;go_wp2_with fail
  refine (KB.out _).mono ?_;rintro r w2 ⟨rfl,b2⟩;have B2:=btr7 B1 b2;have R2:=heap_of b2 _ _ _ R1;clear B1 R1 b2;have q0:=fz (k:=0) R2;have q1:=fz (k:=1) R2;have d0:=cell7 R2 0 _ rfl;have d1:=cell7 R2 1 _ rfl;obtain⟨E0,E1⟩:=set2_cells R2 (.int .u64 x) (.int .u64 y);go_wp2
  exact bodyPost_ret (v:=.agg #[.int .u64 x,.int .u64 y]) (by simp [results,Tryz.results149,go_sem,E0,E1]) rfl ⟨rfl,set2_below B2 (by omega) _ _⟩

set_option maxHeartbeats 1000000 in
theorem r_nan (f:Int)(hf:Is4 f)(v:Nat)(hv:eNaN f=v)(w:World) :
    Calls Tryz.prog 24 #[.int .u8 f] w fun r w'=>r=.returned (bitsV (bv7 v))/\Below w.heap.size w w':=by
  have f4:=is4_ok hf;have hz:=cw6z;have hff:=cw6f;obtain⟨x,y,hxy⟩:∃ x y,bv7 v=(x,y):=⟨_,_,rfl⟩;have e0:bitsV (bv7 v)=.agg #[.int .u64 (x:Nat),.int .u64 (y:Nat)]:=by rw [hxy];rfl
  obtain⟨E,hE⟩:∃ E:Nat,oV f=E:=⟨_,rfl⟩;obtain⟨T,hT⟩:∃ T:Nat,2 ^ (pV f-1)=T:=⟨_,rfl⟩;have k:=r_enc f false E T v hf (by rw [<-hE];rcases hf with rfl|rfl|rfl|rfl <;> decide +kernel) (by rw [<-hT];rcases hf with rfl|rfl|rfl|rfl <;> decide +kernel) (by rw [<-hE,<-hT];exact hv) (by rw [<-hE];rcases hf with rfl|rfl|rfl|rfl <;> decide +kernel);rw [e0];rw [e0] at k;have KB:=box k;clear k hv e0 hxy;have hs0:=st0;have hat:=cw_at 6;have hcs:∀ x,((cw 6 x).size=6)=True:=fun x=>eq_true (cw_size 6 x);have HO:Box (2*fE f+1=(E:Int)):=box (by rw [<-hE];rcases hf with rfl|rfl|rfl|rfl <;> decide +kernel);obtain⟨pn,hpn⟩:∃ pn:Nat,pV f-1=pn:=⟨_,rfl⟩;obtain⟨p,hp⟩:∃ p:Int,fP f=p:=⟨_,rfl⟩;have w2':IntKind.i64.wrap (p-2)=(pn:Int):=by rw [<-hpn,<-hp];rcases hf with rfl|rfl|rfl|rfl <;> decide +kernel
  have HK:Box (1*2 ^ cnt6 (pn:Int) % Q=T/\decide (Q<=1*2 ^ cnt6 (pn:Int))=false):=box (by
    have l:1*2 ^ cnt6 (pn:Int)=T/\T<340282366920938463463374607431768211456:=by rw [<-hT,<-hpn];rcases hf with rfl|rfl|rfl|rfl <;> decide +kernel
    have l2:=lt_Q7 l.2;rw [l.1];exact⟨Nat.mod_eq_of_lt l2,by simp;omega⟩)
  have HP:=box hp;clear hp hpn;have HE:=box hE;clear hE;have HT:=box hT;clear hT;have R0:(w.alloc (.cells #[.int .u64 0,.int .u64 0] 26)).heap[w.heap.size]?=some (.cells #[.int .u64 0,.int .u64 0] 26):=last7 _ _;have B0:=bal7 w (.cells #[.int .u64 0,.int .u64 0] 26)
  go_enter Tryz.func24,Tryz.ntmps24
  go_wp2_with fail
  refine (rwof_any 1 (by decide) _).mono ?_;rintro r w1 ⟨rfl,b1⟩;have B1:=btr7 B0 b1;have R1:=heap_of b1 _ _ _ R0;clear B0 R0 b1;go_wp2_with fail
  refine (r_precision f p f4.1 HP.out _).mono ?_;rintro r w' ⟨rfl,rfl⟩;go_wp2_with fail
  refine (rwleft_is 1 T (pn:Int) false (lt_Q7 (by decide)) HK.out.1 HK.out.2 _).mono ?_;rintro r w2 ⟨rfl,b2⟩;have B2:=btr7 B1 b2;have R2:=heap_of b2 _ _ _ R1;clear B1 R1 b2;have B3:=bel_al B2 (.cells (cw 6 T) 42);have R3:=row_al R2 (.cells (cw 6 T) 42);have ct:=row_cell (last7 w2 (.cells (cw 6 T) 42));clear B2 R2;go_wp2_with fail
  go_region_with (first
    | (go_at_call 59;refine (r_ones f _ (E:Int) f4.1 rfl HO.out _).mono ?_;rintro r w2 ⟨rfl,rfl⟩)
    | (go_at_call 58;refine (KB.out _).mono ?_;rintro r w9 ⟨rfl,b9⟩;have B9:Below w.heap.size w w9:=(by first|exact btr7 B3 b9|exact btr7 (bel_dr B3) b9|exact btr7 (bel_dr (bel_dr B3)) b9);have R9:w9.heap[w.heap.size]?=some (.cells #[.int .u64 0,.int .u64 0] 26):=heap_of b9 _ _ _ R3;have q0:=fz (k:=0) R9;have q1:=fz (k:=1) R9;have d0:=cell7 R9 0 _ rfl;have d1:=cell7 R9 1 _ rfl;obtain⟨E0,E1⟩:=set2_cells R9 (.int .u64 x) (.int .u64 y)))
  all_goals
    go_wp2
    exact bodyPost_ret (v:=.agg #[.int .u64 x,.int .u64 y]) (by simp [results,Tryz.results24,go_sem,E0,E1]) rfl ⟨rfl,set2_below (by first|exact B9|exact bel_dr B9) (by omega) _ _⟩
end Go.Proofs.YtdjlfhcalccajaaGreatDoor
namespace Go.Proofs.YtdjlfhcalccajaaGreatDoor
set_option maxRecDepth 100000
set_option maxHeartbeats 40000000
set_option maxRecDepth 100000
open Go.RowKit WMath
set_option linter.unusedVariables false
theorem andnot7 (x c m:Nat)(hx:x<18446744073709551616)(hc:c<=64)(hm:2 ^ c-1=m):(bits .andNot .u64 (x:Int) (m:Int) == 0)=decide (x<2 ^ c):=by
  have e:bits .andNot .u64 (x:Int) (m:Int)=(((BitVec.ofNat 64 x &&& ~~~ BitVec.ofNat 64 m).toNat:Nat):Int):=by
    show IntKind.u64.wrap ((BitVec.ofInt 64 (x:Int) &&& ~~~ BitVec.ofInt 64 (m:Int)).toNat:Int)=_
    rw [BitVec.ofInt_natCast,BitVec.ofInt_natCast,IntKind.wrap_u64]
    have:=(BitVec.ofNat 64 x &&& ~~~ BitVec.ofNat 64 m).isLt
    generalize (BitVec.ofNat 64 x &&& ~~~ BitVec.ofNat 64 m).toNat=t at *;omega
  rw [e]
  by_cases h:x<2 ^ c
  . rw [decide_eq_true h]
    have z:BitVec.ofNat 64 x &&& ~~~ BitVec.ofNat 64 m=0#64:=by
      apply BitVec.eq_of_getLsbD_eq
      intro i hi
      simp only [BitVec.getLsbD_and,BitVec.getLsbD_not,BitVec.getLsbD_ofNat,hi,decide_true,Bool.true_and]
      rw [<-hm,Nat.testBit_two_pow_sub_one]
      by_cases hic:i<c
      . simp [hic]
      . rw [Nat.testBit_lt_two_pow (Nat.lt_of_lt_of_le h (Nat.pow_le_pow_right (by decide) (by omega)))]
        simp
    rw [z]
    rfl
  . rw [decide_eq_false h]
    simp only [beq_eq_false_iff_ne,ne_eq]
    intro z
    apply h
    apply Nat.lt_pow_two_of_testBit
    intro i hi
    by_cases h6:i<64
    . have z2:(BitVec.ofNat 64 x &&& ~~~ BitVec.ofNat 64 m).getLsbD i=false:=by
        have:BitVec.ofNat 64 x &&& ~~~ BitVec.ofNat 64 m=0#64:=BitVec.eq_of_toNat_eq (by simpa using (by omega:(BitVec.ofNat 64 x &&& ~~~ BitVec.ofNat 64 m).toNat=0))
        rw [this];simp
      simp only [BitVec.getLsbD_and,BitVec.getLsbD_not,BitVec.getLsbD_ofNat,h6,decide_true,Bool.true_and] at z2
      rw [<-hm,Nat.testBit_two_pow_sub_one] at z2
      have:decide (i<c)=false:=by simp;omega
      rw [this] at z2
      simpa using z2
    . exact Nat.testBit_lt_two_pow (Nat.lt_of_lt_of_le hx (by rw [show 18446744073709551616=2 ^ 64 by decide];exact Nat.pow_le_pow_right (by decide) (by omega)))

def oHi (f:Int):Int:=if rLo 1 (fW f)=0 then IntKind.u64.wrap (rHi 1 (fW f)-1) else rHi 1 (fW f)
def oLo (f:Int):Int:=IntKind.u64.wrap (rLo 1 (fW f)-1)

theorem s_fits_no (f:Int)(b:Nat×Nat)(h0:0<=f)(h1:f<=255)(hc:fC f=2)(w:World)(hT:FAt w) :
    Calls Tryz.prog 34 #[.int .u8 f,bitsV b] w fun e w'=>e=.returned (.bool false)/\Below w.heap.size w w':=by
  have hq:fW f=0:=by
    unfold fC at hc
    unfold fW
    split at hc
    . simp at hc
    . rename_i h;rw [if_neg (fun e=>h (Or.inl e)),if_neg (fun e=>h (Or.inr (Or.inl e))),if_neg (fun e=>h (Or.inr (Or.inr (Or.inl e)))),if_neg (fun e=>h (Or.inr (Or.inr (Or.inr e))))]
  have TT:=box hT
  unfold bitsV
  have B0:=bal7 w (.cells #[.int .u64 b.1,.int .u64 b.2] 26)
  go_enter Tryz.func34,Tryz.ntmps34
  go_wp2_with fail
  refine (s_width f 0 h0 h1 hq _ (fatB TT.out B0)).mono ?_;rintro r w' ⟨rfl,rfl⟩;have B1:=bel_al B0 (.cells (fR f) 121);clear B0;go_wp2_with fail
  refine (s_ones 0 0 1 (by decide) (by decide) rfl rfl 0 0 rfl rfl _).mono ?_;rintro r w2 ⟨rfl,b2⟩;have B2:=bel_al (btr7 B1 b2) (.cells #[.int .u64 0,.int .u64 0] 26);clear B1 b2;go_wp2_with fail
  refine (s_check_is f 2 h0 h1 hc _).mono ?_;rintro r w' ⟨rfl,rfl⟩;go_wp2
  go_ret
  exact⟨rfl,B2⟩

set_option maxHeartbeats 1000000 in
theorem s_fits (f:Int)(b:Nat×Nat)(o:Bool)(hf:Is4 f)(hb1:b.1<18446744073709551616)(hb2:b.2<18446744073709551616)(p q:Bool)(hp:(bits .andNot .u64 (b.1:Int) (oHi f) == 0)=p)(hq:(bits .andNot .u64 (b.2:Int) (oLo f) == 0)=q)(ho:(p && q)=o)(w:World)(hT:FAt w) :
    Calls Tryz.prog 34 #[.int .u8 f,bitsV b] w fun e w'=>e=.returned (.bool o)/\Below w.heap.size w w':=by
  have TT:=box hT;have f4:=is4_ok hf
  unfold bitsV
  obtain⟨b1,b2⟩:=b
  simp only at hb1 hb2 hp hq
  obtain⟨W,hW⟩:∃ W:Int,fW f=W:=⟨_,rfl⟩;obtain⟨K,hK⟩:∃ W:Int,oHi f=W:=⟨_,rfl⟩;obtain⟨M,hM⟩:∃ W:Int,oLo f=W:=⟨_,rfl⟩;rw [hK] at hp;rw [hM] at hq;have w0:IntKind.u64.wrap W=W:=by rw [<-hW];rcases hf with rfl|rfl|rfl|rfl <;> decide +kernel
  have wl:=fW_lim hW;have KO:Box (∀ w:World,Calls Tryz.prog 74 #[.int .u64 W] w fun e w'=>e=.returned (.agg #[.int .u64 K,.int .u64 M])/\Below w.heap.size w w'):=box (fun w=>s_ones W _ _ (by omega) (by omega) rfl rfl K M (by rw [<-hK,<-hW];rfl) (by rw [<-hM,<-hW];rfl) w);have R0:(w.alloc (.cells #[.int .u64 b1,.int .u64 b2] 26)).heap[w.heap.size]?=some (.cells #[.int .u64 b1,.int .u64 b2] 26):=last7 _ _;have B0:=bal7 w (.cells #[.int .u64 b1,.int .u64 b2] 26);have HW:=box hW;clear hT hW hK hM hb1 hb2 hf wl
  go_enter Tryz.func34,Tryz.ntmps34
  go_wp2_with fail
  refine (s_width f W f4.1 f4.2.1 HW.out _ (fatB TT.out B0)).mono ?_;rintro r w' ⟨rfl,rfl⟩;have B1:=bel_al B0 (.cells (fR f) 121);have R1:=row_al R0 (.cells (fR f) 121);clear B0 R0;go_wp2_with fail
  refine (KO.out _).mono ?_;rintro r w2 ⟨rfl,b2'⟩;have R2:=row_al (heap_of b2' _ _ _ R1) (.cells #[.int .u64 K,.int .u64 M] 26);have B2:=bel_al (btr7 B1 b2') (.cells #[.int .u64 K,.int .u64 M] 26);have c0:=cell7 R2 0 _ rfl;have c1:=cell7 R2 1 _ rfl;clear B1 b2' R1;go_wp2_with fail
  refine (s_check_is f 0 f4.1 f4.2.1 f4.2.2.1 _).mono ?_;rintro r w' ⟨rfl,rfl⟩
  cases p <;> cases q <;> subst ho
  . go_wp2
    go_ret
    exact⟨rfl,B2⟩
  . go_wp2
    go_ret
    exact⟨rfl,B2⟩
  . go_wp2
    go_ret
    exact⟨rfl,B2⟩
  . go_wp2
    go_ret
    exact⟨rfl,B2⟩
theorem no7 {f:Int} (h:3<f):fC f=2/\fW f=0/\fP f=0/\fE f=0:=by
  refine ⟨?_,?_,?_,?_⟩
  . unfold fC;rw [if_neg (by omega)]
  . unfold fW;rw [if_neg (by omega),if_neg (by omega),if_neg (by omega),if_neg (by omega)]
  . unfold fP;rw [if_neg (by omega),if_neg (by omega),if_neg (by omega),if_neg (by omega)]
  . unfold fE;rw [if_neg (by omega),if_neg (by omega),if_neg (by omega),if_neg (by omega)]
theorem is4_of {f:Int} (h0:0<=f)(h:f<=3):Is4 f:=by unfold Is4;omega


theorem blen_iff (n W:Nat):blen n<=W↔n<2 ^ W:=by
  constructor
  . intro h
    exact Nat.lt_of_lt_of_le (blen_lt n) (Nat.pow_le_pow_right (by decide) h)
  . exact blen_le_of n W

theorem fit7 (f:Int)(hf:Is4 f)(b1 b2:Nat)(hb1:b1<18446744073709551616)(hb2:b2<18446744073709551616) :
    ((bits .andNot .u64 (b1:Int) (oHi f) == 0) && (bits .andNot .u64 (b2:Int) (oLo f) == 0))=decide (((blen (b2+18446744073709551616*b1):Nat):Int)<=fW f):=by
  have key:∀ (c d W:Nat) (K M:Nat),c<=64->d<=64->2 ^ c-1=K->2 ^ d-1=M->oHi f=(K:Int)->oLo f=(M:Int)->fW f=(W:Int) ->
      ((b1<2 ^ c/\b2<2 ^ d)↔b2+18446744073709551616*b1<2 ^ W)->((bits .andNot .u64 (b1:Int) (oHi f) == 0) && (bits .andNot .u64 (b2:Int) (oLo f) == 0))=decide (((blen (b2+18446744073709551616*b1):Nat):Int)<=fW f):=by
    intro c d W K M hc hd hK hM e1 e2 e3 h;rw [e1,e2,e3,andnot7 b1 c K hb1 hc hK,andnot7 b2 d M hb2 hd hM]
    have h2:(((blen (b2+18446744073709551616*b1):Nat):Int)<=(W:Int))↔(b1<2 ^ c/\b2<2 ^ d):=by
      rw [h,<-blen_iff];omega
    rw [<-Bool.decide_and];exact decide_eq_decide.2 h2.symm
  rcases hf with rfl|rfl|rfl|rfl
  . exact key 0 32 32 0 4294967295 (by decide) (by decide) (by decide) (by decide) (by decide +kernel) (by decide +kernel) (by decide +kernel) (by simp only [Nat.reducePow];omega)
  . exact key 0 64 64 0 18446744073709551615 (by decide) (by decide) (by decide) (by decide) (by decide +kernel) (by decide +kernel) (by decide +kernel) (by simp only [Nat.reducePow];omega)
  . exact key 0 16 16 0 65535 (by decide) (by decide) (by decide) (by decide) (by decide +kernel) (by decide +kernel) (by decide +kernel) (by simp only [Nat.reducePow];omega)
  . exact key 64 64 128 18446744073709551615 18446744073709551615 (by decide) (by decide) (by decide) (by decide) (by decide +kernel) (by decide +kernel) (by decide +kernel) (by simp only [Nat.reducePow];omega)

def fitsB (f:Int)(b:Nat×Nat):Bool:=decide (f<=3) && decide (((blen (b.2+18446744073709551616*b.1):Nat):Int)<=fW f)
theorem s_fits_is (f:Int)(b:Nat×Nat)(o:Bool)(h0:0<=f)(h1:f<=255)(hb1:b.1<18446744073709551616)(hb2:b.2<18446744073709551616)(ho:fitsB f b=o)(w:World)(hT:FAt w) :
    Calls Tryz.prog 34 #[.int .u8 f,bitsV b] w fun e w'=>e=.returned (.bool o)/\Below w.heap.size w w':=by
  by_cases h:f<=3
  . refine s_fits f b o (is4_of h0 h) hb1 hb2 _ _ rfl rfl ?_ w hT
    rw [fit7 f (is4_of h0 h) b.1 b.2 hb1 hb2,<-ho]
    unfold fitsB
    rw [decide_eq_true h,Bool.true_and]
  . have e:o=false:=by rw [<-ho];unfold fitsB;rw [decide_eq_false h,Bool.false_and]
    subst e;exact s_fits_no f b h0 h1 (no7 (by omega)).1 w hT
theorem r_fits_is (f:Int)(b:Nat×Nat)(o:Bool)(h0:0<=f)(hb1:b.1<18446744073709551616)(hb2:b.2<18446744073709551616)(ho:fitsB f b=o)(w:World) :
    Calls Tryz.prog 20 #[.int .u8 f,bitsV b] w fun e w'=>e=.returned (.bool o)/\Below w.heap.size w w':=by
  by_cases h:f<=3
  . refine r_fits f _ b _ _ o h0 h rfl hb1 hb2 rfl rfl ?_ w
    rw [<-ho]
    unfold fitsB
    rw [decide_eq_true h,Bool.true_and]
  . have e:o=false:=by rw [<-ho];unfold fitsB;rw [decide_eq_false h,Bool.false_and]
    subst e;exact r_fits_no f b h w

def R9 (w:World)(gl gk gs:Nat)(cl ck:Array Value)(S M:Nat)(g:Nat)(w5:World):Prop:=
  Below w.heap.size w w5/\w5.heap[gl]?=some (.cells cl 26)/\w5.heap[gk]?=some (.cells ck 26)/\w5.heap[gs]?=some (.cells (cw 6 S) 42)/\w5.heap[g]?=some (.cells (cw 6 M) 42)
end Go.Proofs.YtdjlfhcalccajaaGreatDoor
namespace Go.Proofs.YtdjlfhcalccajaaGreatDoor
set_option maxRecDepth 100000
set_option maxHeartbeats 40000000
set_option maxRecDepth 100000
open Go.RowKit WMath
def kN (f:Int)(n:Nat):Bool:=decide (n / 2 ^ wV f % 2=1)
def kE (f:Int)(n:Nat):Nat:=n / 2 ^ pV f % (oV f+1)
def kT (f:Int)(n:Nat):Nat:=n % 2 ^ pV f
def kC (f:Int)(n:Nat):Nat:=
  if kE f n=oV f then (if kT f n=0 then (if kN f n then 0 else 7) else if 2 ^ (pV f-1)<=kT f n then 9 else 8)
  else if kE f n≠0 then (if kN f n then 1 else 6)
  else if kT f n≠0 then (if kN f n then 2 else 5) else (if kN f n then 3 else 4)
def lx (f:Int):Int:=1-fE f-pV f
def kS (f:Int)(n:Nat):Nat:=if kC f n=2∨kC f n=5 then kT f n else if kC f n=1∨kC f n=6 then 2 ^ pV f+kT f n else 0
def kX (f:Int)(n:Nat):Int:=if kC f n=2∨kC f n=5 then lx f else if kC f n=1∨kC f n=6 then lx f+(kE f n:Int)-1 else 0
def kF (f:Int)(n:Nat):Nat:=if kC f n=8∨kC f n=9 then kT f n else 0
def Fit (f:Int)(n:Nat):Prop:=n<2*2 ^ wV f
theorem fm {f:Int} (h:Is4 f):2 ^ wV f=(oV f+1)*2 ^ pV f/\2<=pV f/\2 ^ pV f=2*2 ^ (pV f-1)/\2 ^ (pV f-1) ≥ 2/\3<=oV f/\oV f<32768/\2*2 ^ wV f<=340282366920938463463374607431768211456:=by
  rcases h with rfl|rfl|rfl|rfl <;> decide +kernel
theorem kT_lt {f:Int} (n:Nat):kT f n<2 ^ pV f:=Nat.mod_lt _ (Nat.two_pow_pos _)
theorem kE_le {f:Int} (n:Nat):kE f n<=oV f:=Nat.le_of_lt_succ (Nat.mod_lt _ (Nat.succ_pos _))
theorem kC_lt (f:Int)(n:Nat):kC f n<10:=by unfold kC;repeat' split <;> first|decide|skip
theorem k_enc {f:Int} (h:Is4 f) {n:Nat} (hn:Fit f n):enc7 f (kN f n) (kE f n) (kT f n)=n:=by
  unfold Fit at hn
  unfold enc7 kN kE kT
  rcases h with rfl|rfl|rfl|rfl
  all_goals
    simp only [show pV 0=23 by decide,show wV 0=31 by decide,show oV 0=255 by decide,show pV 1=52 by decide,show wV 1=63 by decide,show oV 1=2047 by decide,show pV 2=10 by decide,show wV 2=15 by decide,show oV 2=31 by decide,show pV 3=112 by decide,show wV 3=127 by decide,show oV 3=32767 by decide] at hn ⊢
    simp only [Nat.reducePow,Nat.reduceAdd,decide_eq_true_eq] at hn ⊢
    split <;> omega
theorem enc_k {f:Int} (h:Is4 f)(neg:Bool) {e t:Nat} (he:e<=oV f)(ht:t<2 ^ pV f):Fit f (enc7 f neg e t)/\kN f (enc7 f neg e t)=neg/\kE f (enc7 f neg e t)=e/\kT f (enc7 f neg e t)=t:=by
  unfold Fit enc7 kN kE kT
  rcases h with rfl|rfl|rfl|rfl
  all_goals
    simp only [show pV 0=23 by decide,show wV 0=31 by decide,show oV 0=255 by decide,show pV 1=52 by decide,show wV 1=63 by decide,show oV 1=2047 by decide,show pV 2=10 by decide,show wV 2=15 by decide,show oV 2=31 by decide,show pV 3=112 by decide,show wV 3=127 by decide,show oV 3=32767 by decide] at he ht ⊢
    simp only [Nat.reducePow,Nat.reduceAdd] at ht ⊢
    cases neg
    . simp only [Bool.false_eq_true,if_false,decide_eq_false_iff_not]
      omega
    . simp only [if_true,decide_eq_true_eq]
      omega
theorem kC_cases {f:Int} (h:Is4 f)(neg:Bool)(e t:Nat)(he:e<=oV f)(ht:t<2 ^ pV f):kC f (enc7 f neg e t)=
  (if e=oV f then (if t=0 then (if neg then 0 else 7) else if 2 ^ (pV f-1)<=t then 9 else 8)
  else if e≠0 then (if neg then 1 else 6)
  else if t≠0 then (if neg then 2 else 5) else (if neg then 3 else 4)):=by
  obtain⟨_,a,b,c⟩:=enc_k h neg he ht
  unfold kC
  rw [a,b,c]
def kp (f:Int)(n:Nat):Nat×Nat×Int×Nat:=(kC f n,kS f n,kX f n,kF f n)
theorem xor_two (a b:Nat):(a ^^^ b) % 2=(a+b) % 2:=by
  have:=@Nat.xor_mod_two_eq_one a b
  omega
theorem xor_bit:∀ (k a:Nat),a ^^^ 2 ^ k=if a / 2 ^ k % 2=1 then a-2 ^ k else a+2 ^ k
  | 0,a=>by
    have h1:(a ^^^ 1) / 2=a / 2:=by rw [Nat.xor_div_two];simp
    have h2:(a ^^^ 1) % 2=(a+1) % 2:=by rw [xor_two]
    rw [Nat.pow_zero,Nat.div_one]
    split <;> omega
  | k+1,a=>by
    have ih:=xor_bit k (a / 2);have h1:(a ^^^ 2 ^ (k+1)) / 2=a / 2 ^^^ 2 ^ k:=by rw [Nat.xor_div_two,Nat.pow_succ,Nat.mul_div_cancel _ (by decide)]
    have h2:(a ^^^ 2 ^ (k+1)) % 2=a % 2:=by rw [xor_two,Nat.pow_succ];omega
    have h3:a / 2 / 2 ^ k=a / 2 ^ (k+1):=by rw [Nat.div_div_eq_div_mul,Nat.pow_succ,Nat.mul_comm]
    rw [ih,h3] at h1
    have h4:a / 2 ^ (k+1) % 2=1->2 ^ k<=a / 2:=fun h=>by
      rw [<-h3] at h
      by_cases c:2 ^ k<=a / 2
      . exact c
      . rw [Nat.div_eq_of_lt (by omega)] at h;exact absurd h (by decide)
    rw [Nat.pow_succ] at h1 h2 h4 ⊢
    split at h1
    . rename_i c
      have:=h4 c
      rw [if_pos c];omega
    . rename_i c
      rw [if_neg c];omega
def sgB (f:Int)(n:Nat)(neg:Bool):Nat:=if neg then n ^^^ 2 ^ wV f else n
theorem sgB_low {f:Int} {n:Nat} (hn:n<2 ^ wV f)(neg:Bool):sgB f n neg=n+(if neg then 2 ^ wV f else 0):=by
  unfold sgB
  cases neg
  . rfl
  . rw [if_pos rfl,xor_bit,Nat.div_eq_of_lt hn,if_neg (by decide),if_pos rfl]
def toB (s:Nat):Nat:=if s<340282366920938463463374607431768211456 then s else 0
def plN (f:Int)(u:Nat):Nat:=u*2 ^ pV f % (if f=3 then 340282366920938463463374607431768211456 else 18446744073709551616)
def u64w (x:Int):Nat:=(x % 18446744073709551616).toNat
def fb (f:Int)(s:Nat)(x:Int):Nat:=(plN f (u64w (x-lx f))+toB s) % 340282366920938463463374607431768211456
def eb (f:Int)(r:Nat):Nat:=(eInf f false+toB r) % 340282366920938463463374607431768211456
def mg (f:Int)(c s:Nat)(x:Int)(r:Nat):Nat:=if c=3∨c=4 then 0 else if c=1∨c=2∨c=5∨c=6 then fb f s x else eb f r
def gP (f:Int)(p:Nat×Nat×Int×Nat):Nat:=sgB f (mg f p.1 p.2.1 p.2.2.1 p.2.2.2) (decide (p.1<=3))
theorem fb_is {f:Int} (h:Is4 f)(k s:Nat)(hk:k<=oV f)(hs:k*2 ^ pV f+s<2 ^ wV f):fb f s (lx f+k)=k*2 ^ pV f+s:=by
  obtain⟨f1,f2,f3,f4,f5,f6,f7⟩:=fm h
  have e1:u64w (lx f+k-lx f)=k:=by
    unfold u64w
    rw [show lx f+(k:Int)-lx f=k by omega];omega
  have e2:toB s=s:=by unfold toB;rw [if_pos (by omega)]
  have e3:plN f k=k*2 ^ pV f:=by
    unfold plN
    refine Nat.mod_eq_of_lt ?_;have h2:k*2 ^ pV f<2 ^ wV f:=by omega
    have h3:2 ^ wV f<=(if f=3 then 340282366920938463463374607431768211456 else 18446744073709551616):=by
      rcases h with rfl|rfl|rfl|rfl <;> decide +kernel
    omega
  unfold fb
  rw [e1,e2,e3,Nat.mod_eq_of_lt (by omega)]
def pk (f:Int)(p:Nat×Nat×Int×Nat):Nat×Int:=if kp f (gP f p)=p then (gP f p,0) else (0,80)
theorem cell7t {w:World} {g:Nat} {T:TypeId} {a b:Value} (R:w.heap[g]?=some (.cells #[a,b] T)):w.cell? ⟨g,0,none⟩=some a/\w.cell? ⟨g,1,none⟩=some b:=⟨cell7 R 0 _ rfl,cell7 R 1 _ rfl⟩
theorem kopn1 (w:World)(o:Obj):(w.alloc o).heap[w.heap.size]?=some o/\Below w.heap.size w (w.alloc o):=⟨heap_alloc_last _ _,(Below.refl _ _).alloc (Nat.le_refl _) _⟩
theorem kopn2 (w:World)(o1 o2:Obj):((w.alloc o1).alloc o2).heap[w.heap.size]?=some o1/\((w.alloc o1).alloc o2).heap[w.heap.size+1]?=some o2/\Below w.heap.size w ((w.alloc o1).alloc o2):=by
  obtain⟨r0,b⟩:=kopn1 w o1;have z:(w.alloc o1).heap.size=w.heap.size+1:=by simp only [size_al]
  exact⟨by rw [heap_below _ _ _ (by omega)];exact r0,by rw [<-z];exact heap_alloc_last _ _,b.alloc (by omega) _⟩
theorem k_from (x y pl:Nat)(v:Int)(hv:bits .or .u64 ((y:Int) / 2 ^ min pl 64) ((x:Int) / 2 ^ min (IntKind.u64.wrap ((pl:Int)-64)).toNat 64)=v)(w:World) :
    Calls Tryz.prog 130 #[.agg #[.int .u64 (x:Nat),.int .u64 (y:Nat)],.int .u64 (pl:Nat)] w fun e w'=>e=.returned (.int .u64 v)/\Below w.heap.size w w':=by
  subst hv
  go_enter Tryz.func130,Tryz.ntmps130
  go_wp2
  go_ret
  exact⟨rfl,bal7 _ _⟩

theorem k_placed (x pl:Nat)(H L:Int)(hH:IntKind.u64.wrap ((x:Int)*2 ^ min (IntKind.u64.wrap ((pl:Int)-64)).toNat 64)=H)(hL:IntKind.u64.wrap ((x:Int)*2 ^ min pl 64)=L)(w:World) :
    Calls Tryz.prog 88 #[.int .u64 (x:Nat),.int .u64 (pl:Nat)] w fun e w'=>e=.returned (.agg #[.int .u64 H,.int .u64 L])/\Below w.heap.size w w':=by
  subst hH hL
  go_enter Tryz.func88,Tryz.ntmps88
  go_wp2
  exact bodyPost_ret (v:=.agg #[.int .u64 _,.int .u64 _]) (by simp [results,Tryz.results88,go_sem];exact⟨rfl,rfl⟩) rfl ⟨by simp,bal7 _ _⟩

theorem k_plus (a b c d H L K:Int)(hH:IntKind.u64.wrap (a+c)=H)(hL:IntKind.u64.wrap (b+d)=L)(hK:(if L<b then IntKind.u64.wrap (H+1) else H)=K)(w:World) :
    Calls Tryz.prog 87 #[.agg #[.int .u64 a,.int .u64 b],.agg #[.int .u64 c,.int .u64 d]] w fun e w'=>e=.returned (.agg #[.int .u64 K,.int .u64 L])/\Below w.heap.size w w':=by
  by_cases h:L<b
  . rw [if_pos h] at hK
    have hd:decide (L<b)=true:=decide_eq_true h
    go_enter Tryz.func87,Tryz.ntmps87
    go_wp2
    exact bodyPost_ret (v:=.agg #[.int .u64 K,.int .u64 L]) (by simp [results,Tryz.results87,go_sem]) rfl ⟨rfl,btr7 (bal7 _ _) (btr7 (bal7 _ _) (btr7 (bal7 _ _) (bal7 _ _)))⟩
  . rw [if_neg h] at hK
    subst hK;have hd:decide (L<b)=false:=decide_eq_false h
    go_enter Tryz.func87,Tryz.ntmps87
    go_wp2
    exact bodyPost_ret (v:=.agg #[.int .u64 H,.int .u64 L]) (by simp [results,Tryz.results87,go_sem]) rfl ⟨rfl,btr7 (bal7 _ _) (btr7 (bal7 _ _) (btr7 (bal7 _ _) (bal7 _ _)))⟩
theorem kb_width (f v:Int)(h0:0<=f)(h1:f<=255)(hv:fW f=v)(w:World)(hT:FAt w) :
    Calls Tryz.prog 75 #[.int .u8 f] w fun e w'=>e=.returned (.int .i64 v)/\Below w.heap.size w w':=
  (s_width f v h0 h1 hv w hT).mono fun _ _ h=>⟨h.1,by rw [h.2];exact bal7 _ _⟩
theorem kb_precision (f v:Int)(h0:0<=f)(h1:f<=255)(hv:fP f=v)(w:World)(hT:FAt w) :
    Calls Tryz.prog 83 #[.int .u8 f] w fun e w'=>e=.returned (.int .i64 v)/\Below w.heap.size w w':=
  (s_precision f v h0 h1 hv w hT).mono fun _ _ h=>⟨h.1,by rw [h.2];exact bal7 _ _⟩
end Go.Proofs.YtdjlfhcalccajaaGreatDoor
namespace Go.Proofs.YtdjlfhcalccajaaGreatDoor
set_option maxRecDepth 100000
set_option maxHeartbeats 40000000
set_option maxRecDepth 100000
open Go.RowKit WMath
set_option linter.unusedSimpArgs false
set_option linter.unusedVariables false
def frm (n pl:Nat):Nat:=if pl<64 then n % 18446744073709551616 / 2 ^ pl else n / 2 ^ pl
theorem or0 (a:Nat)(h:a<18446744073709551616):bits .or .u64 (a:Int) 0=(a:Int):=by
  have:=bits_or_u64_nat a 0 h (by decide)
  simpa using this
theorem or1 (a:Nat)(h:a<18446744073709551616):bits .or .u64 0 (a:Int)=(a:Int):=by
  have:=bits_or_u64_nat 0 a (by decide) h
  simpa using this
theorem pow64 (k:Nat):((2:Int) ^ k)=((2 ^ k:Nat):Int):=by norm_cast
theorem from_is (x y n pl:Nat)(hx:x<18446744073709551616)(hy:y<18446744073709551616)(hn:y+18446744073709551616*x=n)(hp:pl<128) :
    bits .or .u64 ((y:Int) / 2 ^ min pl 64) ((x:Int) / 2 ^ min (IntKind.u64.wrap ((pl:Int)-64)).toNat 64)=(frm n pl:Int):=by
  unfold frm
  rw [IntKind.wrap_u64]
  by_cases h:pl<64
  . have e1:min (((pl:Int)-64) % 18446744073709551616).toNat 64=64:=by omega
    have e2:min pl 64=pl:=by omega
    have e3:((x:Int) / 2 ^ 64)=0:=by
      rw [show ((2:Int) ^ 64)=18446744073709551616 by decide];omega
    have e4:n % 18446744073709551616=y:=by omega
    rw [e1,e2,e3,if_pos h,e4,pow64,<-Int.natCast_ediv];exact or0 _ (Nat.lt_of_le_of_lt (Nat.div_le_self _ _) hy)
  . have e1:min (((pl:Int)-64) % 18446744073709551616).toNat 64=pl-64:=by omega
    have e2:min pl 64=64:=by omega
    have e3:((y:Int) / 2 ^ 64)=0:=by
      rw [show ((2:Int) ^ 64)=18446744073709551616 by decide];omega
    have e4:n / 2 ^ pl=x / 2 ^ (pl-64):=by
      rw [show (2:Nat) ^ pl=18446744073709551616*2 ^ (pl-64) by rw [show (18446744073709551616:Nat)=2 ^ 64 by decide,<-Nat.pow_add];congr 1;omega,<-Nat.div_div_eq_div_mul]
      congr 1;omega
    rw [e1,e2,e3,if_neg h,e4,pow64,<-Int.natCast_ediv];exact or1 _ (Nat.lt_of_le_of_lt (Nat.div_le_self _ _) hx)
theorem kfrom_is (x y n pl v:Nat)(hx:x<18446744073709551616)(hy:y<18446744073709551616)(hn:y+18446744073709551616*x=n)(hp:pl<128)(hv:frm n pl=v)(w:World):Calls Tryz.prog 130 #[.agg #[.int .u64 (x:Nat),.int .u64 (y:Nat)],.int .u64 (pl:Nat)] w fun r w'=>r=.returned (.int .u64 (v:Nat))/\Below w.heap.size w w':=by
  subst hv;exact k_from x y pl _ (from_is x y n pl hx hy hn hp) w

theorem and_one (a:Nat)(h:a<18446744073709551616):bits .and .u64 (a:Int) 1=((a % 2:Nat):Int):=and_mask a 1 h (by decide)
theorem frm_lt (n pl:Nat)(hn:n<340282366920938463463374607431768211456):frm n pl<18446744073709551616:=by
  unfold frm
  split
  . exact Nat.lt_of_le_of_lt (Nat.div_le_self _ _) (Nat.mod_lt _ (by decide))
  . rename_i h
    have:(2:Nat) ^ 64<=2 ^ pl:=Nat.pow_le_pow_right (by decide) (by omega)
    rw [Nat.div_lt_iff_lt_mul (Nat.two_pow_pos _)];rw [show (2:Nat) ^ 64=18446744073709551616 by decide] at this;have h2:=Nat.mul_le_mul_left 18446744073709551616 this;omega
theorem kbit_is (x y n pl:Nat)(o:Bool)(hx:x<18446744073709551616)(hy:y<18446744073709551616)(hn:y+18446744073709551616*x=n)(hp:pl<128)(ho:decide (frm n pl % 2=1)=o)(w:World):Calls Tryz.prog 86 #[.agg #[.int .u64 (x:Nat),.int .u64 (y:Nat)],.int .u64 (pl:Nat)] w fun r w'=>r=.returned (.bool o)/\Below w.heap.size w w':=by
  obtain⟨v,hv⟩:∃ v,frm n pl=v:=⟨_,rfl⟩;rw [hv] at ho;have KF:=box (kfrom_is x y n pl v hx hy hn hp hv);have vl:=frm_lt n pl (by omega);rw [hv] at vl;have ha:=and_one v vl;have hd:(((v % 2:Nat):Int) == 1)=o:=by rw [<-ho];by_cases h:v % 2=1 <;> simp [h] <;> omega
  obtain⟨u,hu⟩:∃ u,v % 2=u:=⟨_,rfl⟩;rw [hu] at ha hd;clear ho hv hn hx hy hp hu vl;obtain⟨Rb_0,B0⟩:=kopn1 w (Obj.cells #[.int .u64 (x:Nat),.int .u64 (y:Nat)] 26)
  go_enter Tryz.func86,Tryz.ntmps86
  go_wp2_with fail
  refine (KF.out _).mono ?_;rintro r w1 ⟨rfl,b1⟩;have B1:Below w.heap.size w w1:=btr7 B0 b1;have Rb_1:=heap_of b1 _ _ _ Rb_0;clear b1 B0 Rb_0;obtain⟨cb_1_0,cb_1_1⟩:=cell7t Rb_1;go_wp2
  go_ret
  exact⟨rfl,B1⟩

theorem pV_lim {f:Int} (h:Is4 f):fP f-1=(pV f:Int)/\IntKind.i64.wrap (fP f-1)=(pV f:Int)/\IntKind.u64.wrap ((pV f:Nat):Int)=(pV f:Int)/\pV f<128/\wV f<128/\fW f-1=(wV f:Int)/\IntKind.i64.wrap (fW f-1)=(wV f:Int)/\IntKind.u64.wrap ((wV f:Nat):Int)=(wV f:Int):=by
  rcases h with rfl|rfl|rfl|rfl <;> decide +kernel

theorem kfw (f:Int)(hf:Is4 f)(p:Nat)(hp:pV f=p)(w:World)(hT:FAt w):Calls Tryz.prog 89 #[.int .u8 f] w fun r w'=>r=.returned (.int .u64 (p:Nat))/\Below w.heap.size w w':=by
  subst hp;have f4:=is4_ok hf;obtain⟨_,a2,a3,_⟩:=pV_lim hf;obtain⟨P,hP⟩:∃ P,fP f=P:=⟨_,rfl⟩;rw [hP] at a2;obtain⟨p,hp⟩:∃ p,pV f=p:=⟨_,rfl⟩;rw [hp] at a2 a3 ⊢;have TT:=box hT;have HP:=box hP;clear hT hf hp hP;have B0:Below w.heap.size w w:=(Below.refl _ _)
  go_enter Tryz.func89,Tryz.ntmps89
  go_wp2_with fail
  refine ((kb_precision f P f4.1 f4.2.1 HP.out _ (fatB TT.out B0))).mono ?_;rintro r w1 ⟨rfl,b1⟩;have B1:Below w.heap.size w w1:=btr7 B0 b1;clear b1 B0;go_wp2
  go_ret
  exact⟨rfl,B1⟩

theorem field_of {f:Int} (h:Is4 f)(n:Nat):frm n (pV f) % (oV f+1)=kE f n:=by
  unfold frm kE
  rcases h with rfl|rfl|rfl|rfl
  all_goals
    simp only [show pV 0=23 by decide,show wV 0=31 by decide,show oV 0=255 by decide,show pV 1=52 by decide,show wV 1=63 by decide,show oV 1=2047 by decide,show pV 2=10 by decide,show wV 2=15 by decide,show oV 2=31 by decide,show pV 3=112 by decide,show wV 3=127 by decide,show oV 3=32767 by decide]
    simp only [Nat.reducePow,Nat.reduceAdd,Nat.reduceLT,if_true,if_false]
    try omega
theorem sign_of {f:Int} (h:Is4 f)(n:Nat):decide (frm n (wV f) % 2=1)=kN f n:=by
  unfold frm kN
  rcases h with rfl|rfl|rfl|rfl
  all_goals
    simp only [show wV 0=31 by decide,show wV 1=63 by decide,show wV 2=15 by decide,show wV 3=127 by decide]
    simp only [Nat.reducePow,Nat.reduceAdd,Nat.reduceLT,if_true,if_false,decide_eq_decide]
    try omega
theorem quiet_of {f:Int} (h:Is4 f)(t:Nat)(ht:t<2 ^ pV f):decide (frm t (pV f-1) % 2=1)=decide (2 ^ (pV f-1)<=t):=by
  unfold frm
  rcases h with rfl|rfl|rfl|rfl
  all_goals
    simp only [show pV 0=23 by decide,show pV 1=52 by decide,show pV 2=10 by decide,show pV 3=112 by decide] at ht ⊢
    simp only [Nat.reducePow,Nat.reduceAdd,Nat.reduceSub,Nat.reduceLT,if_true,if_false,decide_eq_decide] at ht ⊢
    omega
theorem top_mask {f:Int} (h:Is4 f):IntKind.i64.wrap (fW f-fP f)=fW f-fP f/\0<=fW f-fP f/\IntKind.u64.wrap (IntKind.u64.wrap (2 ^ min (fW f-fP f).toNat 64)-1)=(oV f:Int)/\oV f=2 ^ (fW f-fP f).toNat-1/\(fW f-fP f).toNat<=64:=by
  rcases h with rfl|rfl|rfl|rfl <;> decide +kernel
set_option maxHeartbeats 1000000 in
theorem kfield_is (f:Int)(hf:Is4 f)(x y n e:Nat)(hx:x<18446744073709551616)(hy:y<18446744073709551616)(hn:y+18446744073709551616*x=n)(he:kE f n=e)(w:World)(hT:FAt w):Calls Tryz.prog 85 #[.int .u8 f,.agg #[.int .u64 (x:Nat),.int .u64 (y:Nat)]] w fun r w'=>r=.returned (.int .u64 (e:Nat))/\Below w.heap.size w w':=by
  have f4:=is4_ok hf;obtain⟨_,_,_,a4,_⟩:=pV_lim hf;obtain⟨t1,t2,t3,t4,t5⟩:=top_mask hf;obtain⟨v,hv⟩:∃ v,frm n (pV f)=v:=⟨_,rfl⟩;have KF:=box (kfrom_is x y n (pV f) v hx hy hn a4 hv);have vl:=frm_lt n (pV f) (by omega);rw [hv] at vl
  have ha:bits .and .u64 (v:Int) (oV f:Int)=(e:Int):=by
    have:=and_mask v (fW f-fP f).toNat vl t5
    rw [<-t4] at this;rw [this,<-he,<-field_of hf,hv,t4]
    have:=Nat.two_pow_pos (fW f-fP f).toNat
    rw [Nat.sub_add_cancel this]
  obtain⟨q,hq⟩:∃ q,fW f=q:=⟨_,rfl⟩;obtain⟨p,hp⟩:∃ q,fP f=q:=⟨_,rfl⟩;obtain⟨k,hk⟩:∃ q,pV f=q:=⟨_,rfl⟩;obtain⟨o,ho⟩:∃ q,oV f=q:=⟨_,rfl⟩;rw [hq,hp] at t1 t2 t3;rw [ho] at t3 ha;rw [hk] at KF;obtain⟨d,hd⟩:∃ d,q-p=d:=⟨_,rfl⟩;rw [hd] at t2 t3;have t1':IntKind.i64.wrap (q-p)=d:=t1.trans hd;obtain⟨m,rfl⟩:=Int.eq_ofNat_of_zero_le t2;rw [Int.toNat_natCast] at t3;have TT:=box hT;have HQ:=box hq;have HP:=box hp;have HK:=box hk;have HF:=box hf;clear hT hf hq hp hk ho hv hn hx hy he vl t1 t2 t4 t5 a4 hd;obtain⟨Rb_0,B0⟩:=kopn1 w (Obj.cells #[.int .u64 (x:Nat),.int .u64 (y:Nat)] 26)
  go_enter Tryz.func85,Tryz.ntmps85
  go_wp2_with fail
  refine (kb_width f q f4.1 f4.2.1 HQ.out _ (fatB TT.out B0)).mono ?_;rintro r w1 ⟨rfl,b1⟩;have B1:Below w.heap.size w w1:=btr7 B0 b1;have Rb_1:=heap_of b1 _ _ _ Rb_0;clear b1 B0 Rb_0;obtain⟨cb_1_0,cb_1_1⟩:=cell7t Rb_1;go_wp2_with fail
  refine (kb_precision f p f4.1 f4.2.1 HP.out _ (fatB TT.out B1)).mono ?_;rintro r w2 ⟨rfl,b2⟩;have B2:Below w.heap.size w w2:=btr7 B1 b2;have Rb_2:=heap_of b2 _ _ _ Rb_1;clear b2 B1 Rb_1 cb_1_0 cb_1_1;obtain⟨cb_2_0,cb_2_1⟩:=cell7t Rb_2;go_wp2_with fail
  obtain⟨F,hF1,hF2⟩:=below_fun w2;have fb_0:=fun u=>cell7 (heap_of (hF1 u) _ _ _ Rb_2) 0 _ rfl;have fb_1:=fun u=>cell7 (heap_of (hF1 u) _ _ _ Rb_2) 1 _ rfl;have TF:Box (∀ u,FAt (F u)):=box (fun u=>fatB TT.out (btr7 B2 (hF1 u)));refine wp_region_below F hF2 (by kernel_rfl) (by kernel_rfl) ?_
  repeat first|go_big_quiet_step (first|(go_at_call 89;exact quietF hF1 hF2 (kfw f HF.out k HK.out _ (TF.out _)))|(go_at_call 130;exact quietF hF1 hF2 (KF.out _))|fail)|quiet_step (first|(go_at_call 89;exact quietF hF1 hF2 (kfw f HF.out k HK.out _ (TF.out _)))|(go_at_call 130;exact quietF hF1 hF2 (KF.out _))|fail)
  refine wpQuiet_nil ?_;rintro _ ⟨uW,rfl⟩;have B3:=btr7 B2 (hF1 uW);have Rb_3:=heap_of (hF1 uW) _ _ _ Rb_2;obtain⟨w3,hw⟩:∃ V,F uW=V:=⟨_,rfl⟩;rw [hw] at B3 Rb_3
  try rw [hw]
  clear hw hF1 hF2 B2 fb_0 fb_1 Rb_2 cb_2_0 cb_2_1;clear TF;clear F;obtain⟨cb_3_0,cb_3_1⟩:=cell7t Rb_3;go_wp2
  go_ret
  exact⟨rfl,B3⟩
end Go.Proofs.YtdjlfhcalccajaaGreatDoor
