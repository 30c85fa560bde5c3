/-
  What the functions that the statement reaches return: part 6 (X1, X2, X3m, X4, X5, X7, X9, Y1).
-/
import Derived.Lib.MinMax
import Derived.Test.YtapikkbifdldfaaGreatDoorFd05
namespace Go.Proofs.YtapikkbifdldfaaGreatDoor
set_option maxRecDepth 100000
set_option maxHeartbeats 40000000
open Go.RowKit WMath XMath
theorem nb1:yN 1=⟨#[1]⟩:=by decide +kernel
theorem nl1:nl 1<=16384:=by decide +kernel
theorem eq_one (g:Nat)(v:ByteArray)(h:yN g=v):(v.toList == [1])=decide (g=1):=by
 rw [Bool.eq_iff_iff,beq_iff_eq,decide_eq_true_iff,ByteArray.toList_eq]
 constructor
 ·
  intro e
  apply nbA_inj
  rw [h,nb1];obtain⟨⟨l⟩⟩:=v
  show (⟨⟨l⟩⟩:ByteArray)=⟨#[1]⟩
  have:l=[1]:=e
  rw [this]
 ·
  intro e;subst e;rw [nb1] at h;rw [<-h]
theorem eq_nil (n:Nat)(s:ByteArray)(h:yN n=s)(h0:n≠0):(s.toList == [])=false:=by
 rw [x5,decide_eq_false_iff_not,<-h,yF]
 have:=jG n h0
 omega

theorem yI {w W:World} (b:Below w.heap.size w W)(n:Nat):∃ V,W.drewN n=V/\Below w.heap.size w V/\V.heap=W.heap:=⟨_,rfl,below_drewN b n,rfl⟩
theorem yT {w:World} {g:Nat} {T:TypeId} {c:Array Value} (row:w.heap[g]?=some (.cells c T))(k:Nat)(v:Value)(h:c[k]?=some v):w.cell? ⟨g,k,none⟩=some v:=by
 rw [cell_of_row w g k _ _ _ row];exact h

theorem zE {w:World} {g:Nat} {T:TypeId} {a b c d:Value} (R:w.heap[g]?=some (.cells #[a,b,c,d] T)):w.cell? ⟨g,0,none⟩=some a/\w.cell? ⟨g,1,none⟩=some b/\w.cell? ⟨g,2,none⟩=some c/\w.cell? ⟨g,3,none⟩=some d:=⟨yT R 0 _ rfl,yT R 1 _ rfl,yT R 2 _ rfl,yT R 3 _ rfl⟩
theorem zC {w:World} {g:Nat} {T:TypeId} {a b:Value} (R:w.heap[g]?=some (.cells #[a,b] T)):w.cell? ⟨g,0,none⟩=some a/\w.cell? ⟨g,1,none⟩=some b:=⟨yT R 0 _ rfl,yT R 1 _ rfl⟩
theorem z6 {w W:World} (h:Below w.heap.size w W) {b1 b2:Nat} {c1 c2:Array Value} {t1 t2:TypeId} (r1:w.heap[b1]?=some (.cells c1 t1))(r2:w.heap[b2]?=some (.cells c2 t2)):W.heap[b1]?=some (.cells c1 t1)/\W.heap[b2]?=some (.cells c2 t2):=⟨zA h _ _ _ r1,zA h _ _ _ r2⟩
theorem yJ {w W:World} (h:Below w.heap.size w W) {b1 b2 b3:Nat} {c1 c2 c3:Array Value} {t1 t2 t3:TypeId} (r1:w.heap[b1]?=some (.cells c1 t1))(r2:w.heap[b2]?=some (.cells c2 t2))(r3:w.heap[b3]?=some (.cells c3 t3)):W.heap[b1]?=some (.cells c1 t1)/\W.heap[b2]?=some (.cells c2 t2)/\W.heap[b3]?=some (.cells c3 t3):=⟨zA h _ _ _ r1,zA h _ _ _ r2,zA h _ _ _ r3⟩
theorem rws4 {w W:World} (h:Below w.heap.size w W) {b1 b2 b3 b4:Nat} {c1 c2 c3 c4:Array Value} {t1 t2 t3 t4:TypeId} (r1:w.heap[b1]?=some (.cells c1 t1))(r2:w.heap[b2]?=some (.cells c2 t2))(r3:w.heap[b3]?=some (.cells c3 t3))(r4:w.heap[b4]?=some (.cells c4 t4)):W.heap[b1]?=some (.cells c1 t1)/\W.heap[b2]?=some (.cells c2 t2)/\W.heap[b3]?=some (.cells c3 t3)/\W.heap[b4]?=some (.cells c4 t4):=⟨zA h _ _ _ r1,zA h _ _ _ r2,zA h _ _ _ r3,zA h _ _ _ r4⟩
theorem yQ {w W:World} (h:Below w.heap.size w W) {b1 b2 b3 b4 b5:Nat} {c1 c2 c3 c4 c5:Array Value} {t1 t2 t3 t4 t5:TypeId} (r1:w.heap[b1]?=some (.cells c1 t1))(r2:w.heap[b2]?=some (.cells c2 t2))(r3:w.heap[b3]?=some (.cells c3 t3))(r4:w.heap[b4]?=some (.cells c4 t4))(r5:w.heap[b5]?=some (.cells c5 t5)):W.heap[b1]?=some (.cells c1 t1)/\W.heap[b2]?=some (.cells c2 t2)/\W.heap[b3]?=some (.cells c3 t3)/\W.heap[b4]?=some (.cells c4 t4)/\W.heap[b5]?=some (.cells c5 t5):=⟨zA h _ _ _ r1,zA h _ _ _ r2,zA h _ _ _ r3,zA h _ _ _ r4,zA h _ _ _ r5⟩
theorem rws6 {w W:World} (h:Below w.heap.size w W) {b1 b2 b3 b4 b5 b6:Nat} {c1 c2 c3 c4 c5 c6:Array Value} {t1 t2 t3 t4 t5 t6:TypeId} (r1:w.heap[b1]?=some (.cells c1 t1))(r2:w.heap[b2]?=some (.cells c2 t2))(r3:w.heap[b3]?=some (.cells c3 t3))(r4:w.heap[b4]?=some (.cells c4 t4))(r5:w.heap[b5]?=some (.cells c5 t5))(r6:w.heap[b6]?=some (.cells c6 t6)):W.heap[b1]?=some (.cells c1 t1)/\W.heap[b2]?=some (.cells c2 t2)/\W.heap[b3]?=some (.cells c3 t3)/\W.heap[b4]?=some (.cells c4 t4)/\W.heap[b5]?=some (.cells c5 t5)/\W.heap[b6]?=some (.cells c6 t6):=⟨zA h _ _ _ r1,zA h _ _ _ r2,zA h _ _ _ r3,zA h _ _ _ r4,zA h _ _ _ r5,zA h _ _ _ r6⟩
theorem rws7 {w W:World} (h:Below w.heap.size w W) {b1 b2 b3 b4 b5 b6 b7:Nat} {c1 c2 c3 c4 c5 c6 c7:Array Value} {t1 t2 t3 t4 t5 t6 t7:TypeId} (r1:w.heap[b1]?=some (.cells c1 t1))(r2:w.heap[b2]?=some (.cells c2 t2))(r3:w.heap[b3]?=some (.cells c3 t3))(r4:w.heap[b4]?=some (.cells c4 t4))(r5:w.heap[b5]?=some (.cells c5 t5))(r6:w.heap[b6]?=some (.cells c6 t6))(r7:w.heap[b7]?=some (.cells c7 t7)):W.heap[b1]?=some (.cells c1 t1)/\W.heap[b2]?=some (.cells c2 t2)/\W.heap[b3]?=some (.cells c3 t3)/\W.heap[b4]?=some (.cells c4 t4)/\W.heap[b5]?=some (.cells c5 t5)/\W.heap[b6]?=some (.cells c6 t6)/\W.heap[b7]?=some (.cells c7 t7):=⟨zA h _ _ _ r1,zA h _ _ _ r2,zA h _ _ _ r3,zA h _ _ _ r4,zA h _ _ _ r5,zA h _ _ _ r6,zA h _ _ _ r7⟩
theorem rws8 {w W:World} (h:Below w.heap.size w W) {b1 b2 b3 b4 b5 b6 b7 b8:Nat} {c1 c2 c3 c4 c5 c6 c7 c8:Array Value} {t1 t2 t3 t4 t5 t6 t7 t8:TypeId} (r1:w.heap[b1]?=some (.cells c1 t1))(r2:w.heap[b2]?=some (.cells c2 t2))(r3:w.heap[b3]?=some (.cells c3 t3))(r4:w.heap[b4]?=some (.cells c4 t4))(r5:w.heap[b5]?=some (.cells c5 t5))(r6:w.heap[b6]?=some (.cells c6 t6))(r7:w.heap[b7]?=some (.cells c7 t7))(r8:w.heap[b8]?=some (.cells c8 t8)):W.heap[b1]?=some (.cells c1 t1)/\W.heap[b2]?=some (.cells c2 t2)/\W.heap[b3]?=some (.cells c3 t3)/\W.heap[b4]?=some (.cells c4 t4)/\W.heap[b5]?=some (.cells c5 t5)/\W.heap[b6]?=some (.cells c6 t6)/\W.heap[b7]?=some (.cells c7 t7)/\W.heap[b8]?=some (.cells c8 t8):=⟨zA h _ _ _ r1,zA h _ _ _ r2,zA h _ _ _ r3,zA h _ _ _ r4,zA h _ _ _ r5,zA h _ _ _ r6,zA h _ _ _ r7,zA h _ _ _ r8⟩
theorem rws9 {w W:World} (h:Below w.heap.size w W) {b1 b2 b3 b4 b5 b6 b7 b8 b9:Nat} {c1 c2 c3 c4 c5 c6 c7 c8 c9:Array Value} {t1 t2 t3 t4 t5 t6 t7 t8 t9:TypeId} (r1:w.heap[b1]?=some (.cells c1 t1))(r2:w.heap[b2]?=some (.cells c2 t2))(r3:w.heap[b3]?=some (.cells c3 t3))(r4:w.heap[b4]?=some (.cells c4 t4))(r5:w.heap[b5]?=some (.cells c5 t5))(r6:w.heap[b6]?=some (.cells c6 t6))(r7:w.heap[b7]?=some (.cells c7 t7))(r8:w.heap[b8]?=some (.cells c8 t8))(r9:w.heap[b9]?=some (.cells c9 t9)):W.heap[b1]?=some (.cells c1 t1)/\W.heap[b2]?=some (.cells c2 t2)/\W.heap[b3]?=some (.cells c3 t3)/\W.heap[b4]?=some (.cells c4 t4)/\W.heap[b5]?=some (.cells c5 t5)/\W.heap[b6]?=some (.cells c6 t6)/\W.heap[b7]?=some (.cells c7 t7)/\W.heap[b8]?=some (.cells c8 t8)/\W.heap[b9]?=some (.cells c9 t9):=⟨zA h _ _ _ r1,zA h _ _ _ r2,zA h _ _ _ r3,zA h _ _ _ r4,zA h _ _ _ r5,zA h _ _ _ r6,zA h _ _ _ r7,zA h _ _ _ r8,zA h _ _ _ r9⟩
theorem yC {w:World} {b:Nat} {o:Obj} (h:w.heap[b]?=some o):zW (b<w.heap.size):=zJ (Array.getElem?_eq_some_iff.1 h).1
theorem yR (w:World)(o:Obj):(w.alloc o).heap[w.heap.size]?=some o/\Below w.heap.size w (w.alloc o):=⟨heap_alloc_last _ _,(Below.refl _ _).alloc (Nat.le_refl _) _⟩
theorem qD (w:World)(o1 o2:Obj):((w.alloc o1).alloc o2).heap[w.heap.size]?=some o1/\((w.alloc o1).alloc o2).heap[w.heap.size+1]?=some o2/\Below w.heap.size w ((w.alloc o1).alloc o2):=by
 obtain⟨r0,b⟩:=yR w o1;have z:(w.alloc o1).heap.size=w.heap.size+1:=by simp only [zM]
 exact⟨by rw [zU _ _ _ (by omega)];exact r0,by rw [<-z];exact heap_alloc_last _ _,b.alloc (by omega) _⟩
theorem opn3 (w:World)(o1 o2 o3:Obj):(((w.alloc o1).alloc o2).alloc o3).heap[w.heap.size]?=some o1/\(((w.alloc o1).alloc o2).alloc o3).heap[w.heap.size+1]?=some o2/\(((w.alloc o1).alloc o2).alloc o3).heap[w.heap.size+1+1]?=some o3/\Below w.heap.size w (((w.alloc o1).alloc o2).alloc o3):=by
 obtain⟨r0,r1,b⟩:=qD w o1 o2;have z:((w.alloc o1).alloc o2).heap.size=w.heap.size+1+1:=by simp only [zM]
 exact⟨by rw [zU _ _ _ (by omega)];exact r0,by rw [zU _ _ _ (by omega)];exact r1,by rw [<-z];exact heap_alloc_last _ _,b.alloc (by omega) _⟩
theorem opn4 (w:World)(o1 o2 o3 o4:Obj):((((w.alloc o1).alloc o2).alloc o3).alloc o4).heap[w.heap.size]?=some o1/\((((w.alloc o1).alloc o2).alloc o3).alloc o4).heap[w.heap.size+1]?=some o2/\((((w.alloc o1).alloc o2).alloc o3).alloc o4).heap[w.heap.size+1+1]?=some o3/\((((w.alloc o1).alloc o2).alloc o3).alloc o4).heap[w.heap.size+1+1+1]?=some o4/\Below w.heap.size w ((((w.alloc o1).alloc o2).alloc o3).alloc o4):=by
 obtain⟨r0,r1,r2,b⟩:=opn3 w o1 o2 o3;have z:(((w.alloc o1).alloc o2).alloc o3).heap.size=w.heap.size+1+1+1:=by simp only [zM]
 exact⟨by rw [zU _ _ _ (by omega)];exact r0,by rw [zU _ _ _ (by omega)];exact r1,by rw [zU _ _ _ (by omega)];exact r2,by rw [<-z];exact heap_alloc_last _ _,b.alloc (by omega) _⟩

theorem yG {n:Nat} {w wr:World} {b:Nat} (h:Below n w wr)(hb:n<=b)(v0 v1 v2 v3:Value):Below n w ((((wr.setCell ⟨b,0,none⟩ v0).setCell ⟨b,1,none⟩ v1).setCell ⟨b,2,none⟩ v2).setCell ⟨b,3,none⟩ v3):=
 (((h.setCell hb _).setCell hb _).setCell hb _).setCell hb _
theorem set4_row {w:World} {b:Nat} {c:Array Value} {T:TypeId} (h:w.heap[b]?=some (.cells c T))(hc:c.size=4)(v0 v1 v2 v3:Value) :
  ((((w.setCell ⟨b,0,none⟩ v0).setCell ⟨b,1,none⟩ v1).setCell ⟨b,2,none⟩ v2).setCell ⟨b,3,none⟩ v3).heap[b]?=some (.cells #[v0,v1,v2,v3] T):=by
 rw [zY (zY (zY (zY h)))];obtain⟨l⟩:=c
 match l,hc with
 | [a,b,c,d],_=>rfl
theorem yO {w:World} {b:Nat} {c:Array Value} {T:TypeId} (h:w.heap[b]?=some (.cells c T))(hc:c.size=4)(v0 v1 v2 v3:Value) :
  ((((w.setCell ⟨b,0,none⟩ v0).setCell ⟨b,1,none⟩ v1).setCell ⟨b,2,none⟩ v2).setCell ⟨b,3,none⟩ v3).cell? ⟨b,0,none⟩=some v0 /\
  ((((w.setCell ⟨b,0,none⟩ v0).setCell ⟨b,1,none⟩ v1).setCell ⟨b,2,none⟩ v2).setCell ⟨b,3,none⟩ v3).cell? ⟨b,1,none⟩=some v1 /\
  ((((w.setCell ⟨b,0,none⟩ v0).setCell ⟨b,1,none⟩ v1).setCell ⟨b,2,none⟩ v2).setCell ⟨b,3,none⟩ v3).cell? ⟨b,2,none⟩=some v2 /\
  ((((w.setCell ⟨b,0,none⟩ v0).setCell ⟨b,1,none⟩ v1).setCell ⟨b,2,none⟩ v2).setCell ⟨b,3,none⟩ v3).cell? ⟨b,3,none⟩=some v3:=by
 have r:=set4_row h hc v0 v1 v2 v3;exact⟨yT r 0 _ rfl,yT r 1 _ rfl,yT r 2 _ rfl,yT r 3 _ rfl⟩

def MayX (b:Bool)(s t:ByteArray)(e:Int):Prop:=∃ n d,yN n=s/\yN d=t/\(XN.mk b n d e).can
def IsM (o:Bool)(b:Bool)(s t:ByteArray)(e:Int):Prop:=o=true↔MayX b s t e
theorem mayX_iff (b:Bool)(n d:Nat)(s t:ByteArray)(e:Int)(hs:yN n=s)(ht:yN d=t):MayX b s t e↔(XN.mk b n d e).can:=by
 constructor
 ·
  rintro ⟨n',d',h1,h2,h⟩;rw [nbA_inj _ _ (h1.trans hs.symm),nbA_inj _ _ (h2.trans ht.symm)] at h;exact h
 ·
  intro h;exact⟨n,d,hs,ht,h⟩
theorem mayX_s (b:Bool)(s t:ByteArray)(e:Int)(h:MayX b s t e):mayB s=true/\mayB t=true:=by
 obtain⟨n,d,rfl,rfl,h⟩:=h;exact⟨mayB_nb n h.1,mayB_nb d h.2.1⟩

theorem xnull (w:World):Calls Tryz.prog 101 #[] w fun r w'=>r=.returned (.agg #[.bool false,.string ⟨#[]⟩,.string ⟨#[1]⟩,.int .i64 0])/\Below w.heap.size w w':=by
 go_enter Tryz.func101,Tryz.ntmps101
 go_wp2
 exact bodyPost_ret (v:=.agg #[.bool false,.string ⟨#[]⟩,.string ⟨#[1]⟩,.int .i64 0]) (by simp [results,Tryz.results101,go_sem]) rfl ⟨rfl,by first|exact Below.refl _ _|exact yK _ _⟩
theorem and1 (x:Nat)(h:x<256):bits .and .u8 (x:Nat) 1=((x % 2:Nat):Int):=by
 show IntKind.u8.wrap ((BitVec.ofInt 8 (x:Int) &&& BitVec.ofInt 8 1).toNat:Int)=_
 have h1:(BitVec.ofInt 8 1).toNat=2 ^ 1-1:=by decide
 have h2:(BitVec.ofInt 8 (x:Int)).toNat=x:=by simp;omega
 rw [BitVec.toNat_and,h1,Nat.and_two_pow_sub_one_eq_mod,h2];exact xL _ _ (by omega)
theorem rodd (n:Nat)(s:ByteArray)(o:Bool)(hs:yN n=s)(hl:nl n<=16384)(ho:decide (n % 2=1)=o)(w:World):Calls Tryz.prog 198 #[.string s] w fun r w'=>r=.returned (.bool o)/\Below w.heap.size w w':=by
 by_cases h0:n=0
 ·
  subst h0;rw [yX] at hs;subst hs;have e:o=false:=by rw [<-ho];rfl
  subst e;clear ho hl;have B0:Below w.heap.size w w:=(Below.refl _ _)
  go_enter Tryz.func198,Tryz.ntmps198
  go_wp2
  go_ret
  exact⟨rfl,B0⟩
 ·
  have d0:=eq_nil n s hs h0;obtain⟨L,hL⟩:∃ L,nl n=L:=⟨_,rfl⟩;have hz:s.size=L:=by rw [<-hs,yF,hL]
  have L0:0<L:=by rw [<-hL];exact jG n h0
  have hk:L-1<s.size:=by omega
  obtain⟨x,hx⟩:∃ x,(s[L-1]'hk).toNat=x:=⟨_,rfl⟩
  have hxd:n % 256=x:=by
   rw [<-hx];subst hs;rw [nbA_get,hL,show L-1-(L-1)=0 by omega]
   unfold d8
   rw [Nat.mul_zero,Nat.pow_zero,Nat.div_one]
  have x256:x<256:=by omega
  have hxr:=idx_run s (L-1) ((L:Int)-1) x (by omega) hk hx;have n1:IntKind.i64.wrap ((L:Int)-1)=(L:Int)-1:=zR _ (by omega) (by omega);have ha:=and1 x x256;obtain⟨y,hy⟩:∃ y,x % 2=y:=⟨_,rfl⟩;rw [hy] at ha
  have hc:((y:Int) == 1)=o:=by
   rw [<-ho,Bool.eq_iff_iff,beq_iff_eq,decide_eq_true_iff];omega
  have Aa:decide (y=1)=o:=by
   rw [<-ho,Bool.eq_iff_iff,decide_eq_true_iff,decide_eq_true_iff];omega
  clear hs hL hx hxd hy ho;have B0:Below w.heap.size w w:=(Below.refl _ _)
  go_enter Tryz.func198,Tryz.ntmps198
  go_wp2
  go_ret
  exact⟨rfl,B0⟩
theorem can_parts (b:Bool)(n d:Nat)(e:Int)(hn:nl n<=16384)(hd:nl d<=16384):(XN.mk b n d e).can↔(-1048576<=e/\e<=1048576/\((b=false/\n=0/\d=1/\e=0)∨(n % 2=1/\d % 2=1/\Nat.gcd n d=1))):=by
 unfold XN.can
 exact⟨fun h=>h.2.2,fun h=>⟨hn,hd,h⟩⟩

theorem xmay (b:Bool)(s t:ByteArray)(e:Int)(o:Bool)(ho:o=true↔MayX b s t e)(w:World):Calls Tryz.prog 159 #[.agg #[.bool b,.string s,.string t,.int .i64 e]] w fun r w'=>r=.returned (.bool o)/\Below w.heap.size w w':=by
 cases hm1:mayB s
 ·
  have eo:o=false:=by
   cases o
   ·
    rfl
   ·
    have:=(mayX_s b s t e (ho.1 rfl)).1
    rw [hm1] at this;exact absurd this (by decide)
  subst eo;have H1:=zJ hm1;clear hm1 ho;obtain⟨Ac,B0⟩:=yR w (Obj.cells #[.bool b,.string s,.string t,.int .i64 e] 70)
  go_enter Tryz.func159,Tryz.ntmps159
  go_wp2_with fail
  go_quiet (fail)
  obtain⟨w1,hw,B1,hh⟩:=yI B0 nq;rw [hw];have Ab:w1.heap[w.heap.size]?=some (.cells #[.bool b,.string s,.string t,.int .i64 e] 70):=by rw [hh];exact Ac
  clear hw hh B0 Ac;obtain⟨Ad,Ae,Af,Ag⟩:=zE Ab;go_wp2_with fail
  refine (yP s false H1.out _).mono ?_;rintro r w' ⟨rfl,rfl⟩;go_wp2
  go_ret
  exact⟨rfl,B1⟩
 cases hm2:mayB t
 ·
  have eo:o=false:=by
   cases o
   ·
    rfl
   ·
    have:=(mayX_s b s t e (ho.1 rfl)).2
    rw [hm2] at this;exact absurd this (by decide)
  subst eo;have H1:=zJ hm1;have H2:=zJ hm2;clear hm1 hm2 ho;obtain⟨Ac,B0⟩:=yR w (Obj.cells #[.bool b,.string s,.string t,.int .i64 e] 70)
  go_enter Tryz.func159,Tryz.ntmps159
  go_wp2_with fail
  go_quiet (fail)
  obtain⟨w1,hw,B1,hh⟩:=yI B0 nq;rw [hw];have Ab:w1.heap[w.heap.size]?=some (.cells #[.bool b,.string s,.string t,.int .i64 e] 70):=by rw [hh];exact Ac
  clear hw hh B0 Ac;obtain⟨Ad,Ae,Af,Ag⟩:=zE Ab;go_wp2_with fail
  refine (yP s true H1.out _).mono ?_;rintro r w' ⟨rfl,rfl⟩;go_wp2_with fail
  refine (yP t false H2.out _).mono ?_;rintro r w' ⟨rfl,rfl⟩;go_wp2
  go_ret
  exact⟨rfl,B1⟩
 obtain⟨n,hs,ln⟩:=mayB_is s hm1;obtain⟨d,ht,ld⟩:=mayB_is t hm2;rw [mayX_iff b n d s t e hs ht,can_parts b n d e ln ld] at ho;have H1:=zJ hm1;have H2:=zJ hm2;have HS:=zJ hs;have HT:=zJ ht;have LN:=zJ ln;have LD:=zJ ld;clear hm1 hm2
 by_cases hd:d % 2=1
 ·
  have D1:zW (decide (d % 2=1)=true):=zJ (decide_eq_true hd)
  by_cases h1:e < -1048576
  ·
   have eo:o=false:=by cases o;rfl;have:=ho.1 rfl;omega
   subst eo;have k1:decide (e < -1048576)=true:=decide_eq_true h1;clear ho hs ht ln ld hd;obtain⟨Ac,B0⟩:=yR w (Obj.cells #[.bool b,.string s,.string t,.int .i64 e] 70)
   go_enter Tryz.func159,Tryz.ntmps159
   go_wp2_with fail
   go_quiet (fail)
   obtain⟨w1,hw,B1,hh⟩:=yI B0 nq;rw [hw];have Ab:w1.heap[w.heap.size]?=some (.cells #[.bool b,.string s,.string t,.int .i64 e] 70):=by rw [hh];exact Ac
   clear hw hh B0 Ac;obtain⟨Ad,Ae,Af,Ag⟩:=zE Ab;go_wp2_with fail
   refine (yP s true H1.out _).mono ?_;rintro r w' ⟨rfl,rfl⟩;go_wp2_with fail
   refine (yP t true H2.out _).mono ?_;rintro r w' ⟨rfl,rfl⟩;go_wp2_with fail
   refine (rodd d t true HT.out LD.out D1.out _).mono ?_;rintro r w2 ⟨rfl,b2⟩;have B2:=zS B1 b2;have Aa:=zA b2 _ _ _ Ab;clear b2 B1 Ab Ad Ae Af Ag;obtain⟨Ai,Aj,Ak,Al⟩:=zE Aa;go_wp2
   go_ret
   exact⟨rfl,B2⟩
  have k1:decide (e < -1048576)=false:=decide_eq_false h1
  by_cases h2:1048576<e
  ·
   have eo:o=false:=by cases o;rfl;have:=ho.1 rfl;omega
   subst eo;have k2:decide (1048576<e)=true:=decide_eq_true h2;clear ho hs ht ln ld hd;obtain⟨Ac,B0⟩:=yR w (Obj.cells #[.bool b,.string s,.string t,.int .i64 e] 70)
   go_enter Tryz.func159,Tryz.ntmps159
   go_wp2_with fail
   go_quiet (fail)
   obtain⟨w1,hw,B1,hh⟩:=yI B0 nq;rw [hw];have Ab:w1.heap[w.heap.size]?=some (.cells #[.bool b,.string s,.string t,.int .i64 e] 70):=by rw [hh];exact Ac
   clear hw hh B0 Ac;obtain⟨Ad,Ae,Af,Ag⟩:=zE Ab;go_wp2_with fail
   refine (yP s true H1.out _).mono ?_;rintro r w' ⟨rfl,rfl⟩;go_wp2_with fail
   refine (yP t true H2.out _).mono ?_;rintro r w' ⟨rfl,rfl⟩;go_wp2_with fail
   refine (rodd d t true HT.out LD.out D1.out _).mono ?_;rintro r w2 ⟨rfl,b2⟩;have B2:=zS B1 b2;have Aa:=zA b2 _ _ _ Ab;clear b2 B1 Ab Ad Ae Af Ag;obtain⟨Ai,Aj,Ak,Al⟩:=zE Aa;go_wp2
   go_ret
   exact⟨rfl,B2⟩
  have k2:decide (1048576<e)=false:=decide_eq_false h2
  by_cases h0:n=0
  ·
   subst h0;rw [yX] at hs;have hs2:=hs;clear hs;subst hs2;have e1:=eq_one d t ht;have ez:(e == 0)=decide (e=0):=by rw [Bool.eq_iff_iff,beq_iff_eq,decide_eq_true_iff]
   have ho2:o=true↔(b=false/\d=1/\e=0):=by rw [ho];exact⟨fun h=>by rcases h.2.2 with h|h;exact⟨h.1,h.2.2⟩;omega,fun h=>⟨by omega,by omega,Or.inl ⟨h.1,rfl,h.2⟩⟩⟩
   clear ho ht ln ld hd h1 h2
   cases b
   ·
    by_cases d1:d=1
    ·
     rw [decide_eq_true d1] at e1
     by_cases z:e=0
     ·
      have eo:o=true:=ho2.2 ⟨rfl,d1,z⟩;subst eo;rw [decide_eq_true z] at ez;clear ho2 d1;subst z;obtain⟨Ac,B0⟩:=yR w (Obj.cells #[.bool false,.string ⟨#[]⟩,.string t,.int .i64 0] 70)
      go_enter Tryz.func159,Tryz.ntmps159
      go_wp2_with fail
      go_quiet (fail)
      obtain⟨w1,hw,B1,hh⟩:=yI B0 nq;rw [hw];have Ab:w1.heap[w.heap.size]?=some (.cells #[.bool false,.string ⟨#[]⟩,.string t,.int .i64 0] 70):=by rw [hh];exact Ac
      clear hw hh B0 Ac;obtain⟨Ad,Ae,Af,Ag⟩:=zE Ab;go_wp2_with fail
      refine (yP _ true H1.out _).mono ?_;rintro r w' ⟨rfl,rfl⟩;go_wp2_with fail
      refine (yP t true H2.out _).mono ?_;rintro r w' ⟨rfl,rfl⟩;go_wp2_with fail
      refine (rodd d t true HT.out LD.out D1.out _).mono ?_;rintro r w2 ⟨rfl,b2⟩;have B2:=zS B1 b2;have Aa:=zA b2 _ _ _ Ab;clear b2 B1 Ab Ad Ae Af Ag;obtain⟨Ai,Aj,Ak,Al⟩:=zE Aa;go_wp2_with fail
      obtain⟨F,hF1,hF2⟩:=yW w2;have fx_0:=fun u=>yT (zA (hF1 u) _ _ _ Aa) 0 _ rfl;have fx_1:=fun u=>yT (zA (hF1 u) _ _ _ Aa) 1 _ rfl;have fx_2:=fun u=>yT (zA (hF1 u) _ _ _ Aa) 2 _ rfl;have fx_3:=fun u=>yT (zA (hF1 u) _ _ _ Aa) 3 _ rfl;refine yA F hF2 (by kernel_rfl) (by kernel_rfl) ?_
      repeat first|go_big_quiet_step (first|(go_at_call 101;exact yH hF1 hF2 (xnull _))|fail)|quiet_step (first|(go_at_call 101;exact yH hF1 hF2 (xnull _))|fail)
      refine wpQuiet_nil ?_;rintro _ ⟨uW,rfl⟩;have B3:=zS B2 (hF1 uW);have Ah:=zA (hF1 uW) _ _ _ Aa;obtain⟨w3,hw⟩:∃ V,F uW=V:=⟨_,rfl⟩;rw [hw] at B3 Ah
      try rw [hw]
      clear hw hF1 hF2 B2 fx_0 fx_1 fx_2 fx_3 Aa Ai Aj Ak Al;clear F;obtain⟨Am,An,Ao,Ap⟩:=zE Ah;go_wp2
      go_ret
      exact⟨rfl,B3⟩
     ·
      have eo:o=false:=by cases o;rfl;exact absurd (ho2.1 rfl).2.2 z
      subst eo;rw [decide_eq_false z] at ez;clear ho2 d1;obtain⟨Ac,B0⟩:=yR w (Obj.cells #[.bool false,.string ⟨#[]⟩,.string t,.int .i64 e] 70)
      go_enter Tryz.func159,Tryz.ntmps159
      go_wp2_with fail
      go_quiet (fail)
      obtain⟨w1,hw,B1,hh⟩:=yI B0 nq;rw [hw];have Ab:w1.heap[w.heap.size]?=some (.cells #[.bool false,.string ⟨#[]⟩,.string t,.int .i64 e] 70):=by rw [hh];exact Ac
      clear hw hh B0 Ac;obtain⟨Ad,Ae,Af,Ag⟩:=zE Ab;go_wp2_with fail
      refine (yP _ true H1.out _).mono ?_;rintro r w' ⟨rfl,rfl⟩;go_wp2_with fail
      refine (yP t true H2.out _).mono ?_;rintro r w' ⟨rfl,rfl⟩;go_wp2_with fail
      refine (rodd d t true HT.out LD.out D1.out _).mono ?_;rintro r w2 ⟨rfl,b2⟩;have B2:=zS B1 b2;have Aa:=zA b2 _ _ _ Ab;clear b2 B1 Ab Ad Ae Af Ag;obtain⟨Ai,Aj,Ak,Al⟩:=zE Aa;go_wp2_with fail
      obtain⟨F,hF1,hF2⟩:=yW w2;have fx_0:=fun u=>yT (zA (hF1 u) _ _ _ Aa) 0 _ rfl;have fx_1:=fun u=>yT (zA (hF1 u) _ _ _ Aa) 1 _ rfl;have fx_2:=fun u=>yT (zA (hF1 u) _ _ _ Aa) 2 _ rfl;have fx_3:=fun u=>yT (zA (hF1 u) _ _ _ Aa) 3 _ rfl;refine yA F hF2 (by kernel_rfl) (by kernel_rfl) ?_
      repeat first|go_big_quiet_step (first|(go_at_call 101;exact yH hF1 hF2 (xnull _))|fail)|quiet_step (first|(go_at_call 101;exact yH hF1 hF2 (xnull _))|fail)
      refine wpQuiet_nil ?_;rintro _ ⟨uW,rfl⟩;have B3:=zS B2 (hF1 uW);have Ah:=zA (hF1 uW) _ _ _ Aa;obtain⟨w3,hw⟩:∃ V,F uW=V:=⟨_,rfl⟩;rw [hw] at B3 Ah
      try rw [hw]
      clear hw hF1 hF2 B2 fx_0 fx_1 fx_2 fx_3 Aa Ai Aj Ak Al;clear F;obtain⟨Am,An,Ao,Ap⟩:=zE Ah;go_wp2
      go_ret
      exact⟨rfl,B3⟩
    ·
     have eo:o=false:=by cases o;rfl;exact absurd (ho2.1 rfl).2.1 d1
     subst eo;rw [decide_eq_false d1] at e1;clear ho2 d1 ez;obtain⟨Ac,B0⟩:=yR w (Obj.cells #[.bool false,.string ⟨#[]⟩,.string t,.int .i64 e] 70)
     go_enter Tryz.func159,Tryz.ntmps159
     go_wp2_with fail
     go_quiet (fail)
     obtain⟨w1,hw,B1,hh⟩:=yI B0 nq;rw [hw];have Ab:w1.heap[w.heap.size]?=some (.cells #[.bool false,.string ⟨#[]⟩,.string t,.int .i64 e] 70):=by rw [hh];exact Ac
     clear hw hh B0 Ac;obtain⟨Ad,Ae,Af,Ag⟩:=zE Ab;go_wp2_with fail
     refine (yP _ true H1.out _).mono ?_;rintro r w' ⟨rfl,rfl⟩;go_wp2_with fail
     refine (yP t true H2.out _).mono ?_;rintro r w' ⟨rfl,rfl⟩;go_wp2_with fail
     refine (rodd d t true HT.out LD.out D1.out _).mono ?_;rintro r w2 ⟨rfl,b2⟩;have B2:=zS B1 b2;have Aa:=zA b2 _ _ _ Ab;clear b2 B1 Ab Ad Ae Af Ag;obtain⟨Ai,Aj,Ak,Al⟩:=zE Aa;go_wp2_with fail
     obtain⟨F,hF1,hF2⟩:=yW w2;have fx_0:=fun u=>yT (zA (hF1 u) _ _ _ Aa) 0 _ rfl;have fx_1:=fun u=>yT (zA (hF1 u) _ _ _ Aa) 1 _ rfl;have fx_2:=fun u=>yT (zA (hF1 u) _ _ _ Aa) 2 _ rfl;have fx_3:=fun u=>yT (zA (hF1 u) _ _ _ Aa) 3 _ rfl;refine yA F hF2 (by kernel_rfl) (by kernel_rfl) ?_
     repeat first|go_big_quiet_step (first|(go_at_call 101;exact yH hF1 hF2 (xnull _))|fail)|quiet_step (first|(go_at_call 101;exact yH hF1 hF2 (xnull _))|fail)
     refine wpQuiet_nil ?_;rintro _ ⟨uW,rfl⟩;have B3:=zS B2 (hF1 uW);have Ah:=zA (hF1 uW) _ _ _ Aa;obtain⟨w3,hw⟩:∃ V,F uW=V:=⟨_,rfl⟩;rw [hw] at B3 Ah
     try rw [hw]
     clear hw hF1 hF2 B2 fx_0 fx_1 fx_2 fx_3 Aa Ai Aj Ak Al;clear F;obtain⟨Am,An,Ao,Ap⟩:=zE Ah;go_wp2
     go_ret
     exact⟨rfl,B3⟩
   ·
    have eo:o=false:=by cases o;rfl;exact absurd (ho2.1 rfl).1 (by decide)
    subst eo;clear ho2 e1 ez;obtain⟨Ac,B0⟩:=yR w (Obj.cells #[.bool true,.string ⟨#[]⟩,.string t,.int .i64 e] 70)
    go_enter Tryz.func159,Tryz.ntmps159
    go_wp2_with fail
    go_quiet (fail)
    obtain⟨w1,hw,B1,hh⟩:=yI B0 nq;rw [hw];have Ab:w1.heap[w.heap.size]?=some (.cells #[.bool true,.string ⟨#[]⟩,.string t,.int .i64 e] 70):=by rw [hh];exact Ac
    clear hw hh B0 Ac;obtain⟨Ad,Ae,Af,Ag⟩:=zE Ab;go_wp2_with fail
    refine (yP _ true H1.out _).mono ?_;rintro r w' ⟨rfl,rfl⟩;go_wp2_with fail
    refine (yP t true H2.out _).mono ?_;rintro r w' ⟨rfl,rfl⟩;go_wp2_with fail
    refine (rodd d t true HT.out LD.out D1.out _).mono ?_;rintro r w2 ⟨rfl,b2⟩;have B2:=zS B1 b2;have Aa:=zA b2 _ _ _ Ab;clear b2 B1 Ab Ad Ae Af Ag;obtain⟨Ai,Aj,Ak,Al⟩:=zE Aa;go_wp2_with fail
    obtain⟨F,hF1,hF2⟩:=yW w2;have fx_0:=fun u=>yT (zA (hF1 u) _ _ _ Aa) 0 _ rfl;have fx_1:=fun u=>yT (zA (hF1 u) _ _ _ Aa) 1 _ rfl;have fx_2:=fun u=>yT (zA (hF1 u) _ _ _ Aa) 2 _ rfl;have fx_3:=fun u=>yT (zA (hF1 u) _ _ _ Aa) 3 _ rfl;refine yA F hF2 (by kernel_rfl) (by kernel_rfl) ?_
    repeat first|go_big_quiet_step (first|(go_at_call 101;exact yH hF1 hF2 (xnull _))|fail)|quiet_step (first|(go_at_call 101;exact yH hF1 hF2 (xnull _))|fail)
    refine wpQuiet_nil ?_;rintro _ ⟨uW,rfl⟩;have B3:=zS B2 (hF1 uW);have Ah:=zA (hF1 uW) _ _ _ Aa;obtain⟨w3,hw⟩:∃ V,F uW=V:=⟨_,rfl⟩;rw [hw] at B3 Ah
    try rw [hw]
    clear hw hF1 hF2 B2 fx_0 fx_1 fx_2 fx_3 Aa Ai Aj Ak Al;clear F;obtain⟨Am,An,Ao,Ap⟩:=zE Ah;go_wp2
    go_ret
    exact⟨rfl,B3⟩
  ·
   have e0:=eq_nil n s hs h0;have ho2:o=true↔(n % 2=1/\Nat.gcd n d=1):=by rw [ho];exact⟨fun h=>by rcases h.2.2 with h|h;exact absurd h.2.1 h0;exact⟨h.1,h.2.2⟩,fun h=>⟨by omega,by omega,Or.inr ⟨h.1,hd,h.2⟩⟩⟩
   obtain⟨p,hp⟩:∃ p,decide (n % 2=1)=p:=⟨_,rfl⟩;obtain⟨v,hv⟩:∃ v,yN (Nat.gcd n d)=v:=⟨_,rfl⟩;have e1:=eq_one _ v hv;have HP:=zJ hp;have HV:=zJ hv;clear ho hs ht ln ld hd h1 h2 h0
   cases p
   ·
    have eo:o=false:=by cases o;rfl;rw [decide_eq_true (ho2.1 rfl).1] at hp;exact hp
    subst eo;clear ho2 hp hv e1;obtain⟨Ac,B0⟩:=yR w (Obj.cells #[.bool b,.string s,.string t,.int .i64 e] 70)
    go_enter Tryz.func159,Tryz.ntmps159
    go_wp2_with fail
    go_quiet (fail)
    obtain⟨w1,hw,B1,hh⟩:=yI B0 nq;rw [hw];have Ab:w1.heap[w.heap.size]?=some (.cells #[.bool b,.string s,.string t,.int .i64 e] 70):=by rw [hh];exact Ac
    clear hw hh B0 Ac;obtain⟨Ad,Ae,Af,Ag⟩:=zE Ab;go_wp2_with fail
    refine (yP _ true H1.out _).mono ?_;rintro r w' ⟨rfl,rfl⟩;go_wp2_with fail
    refine (yP t true H2.out _).mono ?_;rintro r w' ⟨rfl,rfl⟩;go_wp2_with fail
    refine (rodd d t true HT.out LD.out D1.out _).mono ?_;rintro r w2 ⟨rfl,b2⟩;have B2:=zS B1 b2;have Aa:=zA b2 _ _ _ Ab;clear b2 B1 Ab Ad Ae Af Ag;obtain⟨Ai,Aj,Ak,Al⟩:=zE Aa;go_wp2_with fail
    refine (rodd n s false HS.out LN.out HP.out _).mono ?_;rintro r w3 ⟨rfl,b3⟩;have B3:=zS B2 b3;have Ah:=zA b3 _ _ _ Aa;clear b3 B2 Aa Ai Aj Ak Al;obtain⟨Am,An,Ao,Ap⟩:=zE Ah;go_wp2
    go_ret
    exact⟨rfl,B3⟩
   ·
    have eo:decide (Nat.gcd n d=1)=o:=by
     rw [Bool.eq_iff_iff,ho2,decide_eq_true_iff];exact⟨fun h=>⟨of_decide_eq_true hp,h⟩,fun h=>h.2⟩
    rw [eo] at e1;clear ho2 hp hv eo;obtain⟨Ac,B0⟩:=yR w (Obj.cells #[.bool b,.string s,.string t,.int .i64 e] 70)
    go_enter Tryz.func159,Tryz.ntmps159
    go_wp2_with fail
    go_quiet (fail)
    obtain⟨w1,hw,B1,hh⟩:=yI B0 nq;rw [hw];have Ab:w1.heap[w.heap.size]?=some (.cells #[.bool b,.string s,.string t,.int .i64 e] 70):=by rw [hh];exact Ac
    clear hw hh B0 Ac;obtain⟨Ad,Ae,Af,Ag⟩:=zE Ab;go_wp2_with fail
    refine (yP _ true H1.out _).mono ?_;rintro r w' ⟨rfl,rfl⟩;go_wp2_with fail
    refine (yP t true H2.out _).mono ?_;rintro r w' ⟨rfl,rfl⟩;go_wp2_with fail
    refine (rodd d t true HT.out LD.out D1.out _).mono ?_;rintro r w2 ⟨rfl,b2⟩;have B2:=zS B1 b2;have Aa:=zA b2 _ _ _ Ab;clear b2 B1 Ab Ad Ae Af Ag;obtain⟨Ai,Aj,Ak,Al⟩:=zE Aa;go_wp2_with fail
    refine (rodd n s true HS.out LN.out HP.out _).mono ?_;rintro r w3 ⟨rfl,b3⟩;have B3:=zS B2 b3;have Ah:=zA b3 _ _ _ Aa;clear b3 B2 Aa Ai Aj Ak Al;obtain⟨Am,An,Ao,Ap⟩:=zE Ah;go_wp2_with fail
    refine (nat_Gcd n d s t v HS.out HT.out LN.out LD.out HV.out _).mono ?_;rintro r w4 ⟨rfl,b4⟩;have B4:=zS B3 b4;have Aq:=zA b4 _ _ _ Ah;clear b4 B3 Ah Am An Ao Ap;obtain⟨Ar,As,At,Au⟩:=zE Aq;go_wp2
    go_ret
    exact⟨rfl,B4⟩
 ·
  have D1:zW (decide (d % 2=1)=false):=zJ (decide_eq_false hd);have eo:o=false:=by cases o;rfl;have:=ho.1 rfl;omega
  subst eo;clear ho hs ht ln ld hd;obtain⟨Ac,B0⟩:=yR w (Obj.cells #[.bool b,.string s,.string t,.int .i64 e] 70)
  go_enter Tryz.func159,Tryz.ntmps159
  go_wp2_with fail
  go_quiet (fail)
  obtain⟨w1,hw,B1,hh⟩:=yI B0 nq;rw [hw];have Ab:w1.heap[w.heap.size]?=some (.cells #[.bool b,.string s,.string t,.int .i64 e] 70):=by rw [hh];exact Ac
  clear hw hh B0 Ac;obtain⟨Ad,Ae,Af,Ag⟩:=zE Ab;go_wp2_with fail
  refine (yP s true H1.out _).mono ?_;rintro r w' ⟨rfl,rfl⟩;go_wp2_with fail
  refine (yP t true H2.out _).mono ?_;rintro r w' ⟨rfl,rfl⟩;go_wp2_with fail
  refine (rodd d t false HT.out LD.out D1.out _).mono ?_;rintro r w2 ⟨rfl,b2⟩;have B2:=zS B1 b2;have Aa:=zA b2 _ _ _ Ab;clear b2 B1 Ab Ad Ae Af Ag;obtain⟨Ai,Aj,Ak,Al⟩:=zE Aa;go_wp2
  go_ret
  exact⟨rfl,B2⟩
theorem xmayM (b:Bool)(s t:ByteArray)(e:Int)(o:Bool)(ho:IsM o b s t e)(w:World):Calls Tryz.prog 159 #[.agg #[.bool b,.string s,.string t,.int .i64 e]] w fun r w'=>r=.returned (.bool o)/\Below w.heap.size w w':=xmay b s t e o ho w
theorem mk_cases (neg:Bool)(n d:Nat)(e:Int)(rb:Bool)(rn rd:Nat)(re err:Int)(n0:n≠0)(hr:XMath.mk neg n d e=(⟨rb,rn,rd,re⟩,err)) :
  ((-1048576<=e+(tz n:Int)-(tz d:Int)/\e+(tz n:Int)-(tz d:Int)<=1048576)/\rb=neg/\rn=od n / Nat.gcd (od n) (od d)/\rd=od d / Nat.gcd (od n) (od d)/\re=e+(tz n:Int)-(tz d:Int)/\err=0) ∨
  (¬ (-1048576<=e+(tz n:Int)-(tz d:Int)/\e+(tz n:Int)-(tz d:Int)<=1048576)/\rb=false/\rn=0/\rd=0/\re=0/\err=4):=by
 unfold XMath.mk at hr
 rw [if_neg n0] at hr
 by_cases h:-1048576<=e+(tz n:Int)-(tz d:Int)/\e+(tz n:Int)-(tz d:Int)<=1048576
 ·
  rw [if_pos h] at hr;injection hr with h1 h2;injection h1 with a b c d;exact Or.inl ⟨h,a.symm,b.symm,c.symm,d.symm,h2.symm⟩
 ·
  rw [if_neg h] at hr;injection hr with h1 h2
  unfold XZ at h1
  injection h1 with a b c d;exact Or.inr ⟨h,a.symm,b.symm,c.symm,d.symm,h2.symm⟩

theorem may_yes {b:Bool} {n d:Nat} {s t:ByteArray} {e:Int} (hs:yN n=s)(ht:yN d=t)(hc:(XN.mk b n d e).can):IsM true b s t e:=⟨fun _=>⟨n,d,hs,ht,hc⟩,fun _=>rfl⟩
theorem can_null {b:Bool} {n d:Nat} {e:Int} (hc:(XN.mk b n d e).can)(h0:n=0):b=false/\d=1/\e=0:=by
 have h:=hc.null h0
 unfold X0 at h
 injection h with h1 h2 h3 h4;exact⟨h1,h3,h4⟩

theorem xz_is {rb:Bool} {rn rd:Nat} {re err:Int} (h:((XZ,4):XN×Int)=(⟨rb,rn,rd,re⟩,err)):rb=false/\rn=0/\rd=0/\re=0/\err=4:=by
 injection h with h1 h2
 unfold XZ at h1
 injection h1 with a b c d;exact⟨a.symm,b.symm,c.symm,d.symm,h2.symm⟩

theorem x0_is {rb:Bool} {rn rd:Nat} {re err:Int} (h:((X0,0):XN×Int)=(⟨rb,rn,rd,re⟩,err)):rb=false/\rn=0/\rd=1/\re=0/\err=0:=by
 injection h with h1 h2
 unfold X0 at h1
 injection h1 with a b c d;exact⟨a.symm,b.symm,c.symm,d.symm,h2.symm⟩
theorem x_cases {b:Bool} {n d:Nat} {e:Int} {s t:ByteArray} (hs:yN n=s)(ht:yN d=t)(hc:(XN.mk b n d e).can):(n=0/\b=false/\s=⟨#[]⟩/\t=⟨#[1]⟩/\d=1/\e=0)∨(n≠0/\(s.toList == [])=false):=by
 by_cases h0:n=0
 ·
  obtain⟨h1,h2,h3⟩:=can_null hc h0;subst h0 h2;exact Or.inl ⟨rfl,h1,by rw [<-hs,yX],by rw [<-ht,nb1],rfl,h3⟩
 ·
  exact Or.inr ⟨h0,eq_nil n s hs h0⟩

theorem lg_no (n:Nat)(h:¬ nl n<=16384):lg n=(⟨#[]⟩,4):=by unfold lg;rw [if_neg h]
theorem cmpv_neg (a b:Nat):q8 a b<0↔a<b:=by
 unfold q8
 split
 ·
  exact⟨fun h=>absurd h (by decide),fun h=>by omega⟩
 ·
  split
  ·
   exact⟨fun _=>by assumption,fun _=>by decide⟩
  ·
   exact⟨fun h=>absurd h (by decide),fun h=>by omega⟩
theorem lf_up (a:Nat)(k:Nat)(v:ByteArray)(h:nl (a*2 ^ k)<=16384)(hv:yN (a*2 ^ k)=v):lf a (k:Int)=(v,0):=by
 unfold lf
 rw [if_neg (by omega),Int.toNat_natCast];exact lg_ok _ v h hv
theorem nl_blen (a b:Nat)(h:zV a=zV b)(hb:nl b<=16384):nl a<=16384:=by unfold nl at hb ⊢;rw [h];exact hb
theorem tAB_nl (x:XN)(n0:x.n≠0)(d0:x.d≠0)(ln:nl x.n<=16384)(ld:nl x.d<=16384):nl (tA x)<=16384/\nl (tB x)<=16384:=by
 obtain⟨h1,_,_⟩:=tA_len x n0 d0
 by_cases h:0<=qZ x
 ·
  have e:tA x=x.n:=by unfold tA;rw [show (max (-qZ x) 0).toNat=0 by omega,Nat.pow_zero,Nat.mul_one]
  have k:nl (tA x)<=16384:=by rw [e];exact ln
  exact⟨k,nl_blen _ _ h1.symm k⟩
 ·
  have e:tB x=x.d:=by unfold tB;rw [show (max (qZ x) 0).toNat=0 by omega,Nat.pow_zero,Nat.mul_one]
  have k:nl (tB x)<=16384:=by rw [e];exact ld
  exact⟨nl_blen _ _ h1 k,k⟩

theorem rmake_ok (neg:Bool)(n d:Nat)(e:Int)(s t:ByteArray)(rb:Bool)(rn rd:Nat)(re err:Int)(u v:ByteArray)(hs:yN n=s)(ht:yN d=t)(ln:nl n<=16384)(ld:nl d<=16384)(d0:d≠0)(he1:-1048576<=e)(he2:e<=1048576)
  (hr:XMath.mk neg n d e=(⟨rb,rn,rd,re⟩,err)) (hu:yN rn=u) (hv:yN rd=v) (w:World) :
  Calls Tryz.prog 99 #[.bool neg,.string s,.string t,.int .i64 e] w fun r w'=>r=.returned (.tuple #[.agg #[.bool rb,.string u,.string v,.int .i64 re],.int .i64 err])/\Below w.heap.size w w':=by
 have e0:=eq_nil d t ht d0;have H1:zW (mayB s=true):=zJ (by rw [<-hs];exact mayB_nb n ln);have H2:zW (mayB t=true):=zJ (by rw [<-ht];exact mayB_nb d ld);have g1:decide (e < -1048576)=false:=decide_eq_false (by omega);have g2:decide (1048576<e)=false:=decide_eq_false (by omega)
 by_cases n0:n=0
 ·
  subst n0;rw [mk_null] at hr;injection hr with h1 h2
  unfold X0 at h1
  injection h1 with a b c d;subst a b c d h2;rw [yX] at hs hu;rw [nb1] at hv;subst hs hu hv;clear ht ln ld d0;obtain⟨Ad,B0⟩:=yR w (Obj.cells #[.bool false,.string ⟨#[]⟩,.string ⟨#[]⟩,.int .i64 0] 70)
  go_enter Tryz.func99,Tryz.ntmps99
  go_wp2_with fail
  refine (yP _ true H1.out _).mono ?_;rintro r w' ⟨rfl,rfl⟩;go_wp2_with fail
  refine (yP t true H2.out _).mono ?_;rintro r w' ⟨rfl,rfl⟩;go_wp2_with fail
  refine (xnull _).mono ?_;rintro r w1 ⟨rfl,b1⟩;have B1:=zS B0 b1;have Ab:=zA b1 _ _ _ Ad;clear b1 B0 Ad;obtain⟨Af,Ag,Ah,Ai⟩:=zE Ab;have q0:=fz (k:=0) Ab;have q1:=fz (k:=1) Ab;have q2:=fz (k:=2) Ab;have q3:=fz (k:=3) Ab;obtain⟨E0,E1,E2,E3⟩:=yO Ab rfl (.bool false) (.string ⟨#[]⟩) (.string ⟨#[1]⟩) (.int .i64 0);go_wp2
  exact bodyPost_ret (v:=.tuple #[.agg #[.bool false,.string ⟨#[]⟩,.string ⟨#[1]⟩,.int .i64 0],.int .i64 0]) (by simp [results,Tryz.results99,go_sem,E0,E1,E2,E3]) rfl ⟨rfl,yG B1 (by first|exact Nat.le_refl _|omega|(skip;omega)) _ _ _ _⟩
 ·
  have e1:=eq_nil n s hs n0;obtain⟨x,hx⟩:∃ x,tz n=x:=⟨_,rfl⟩;obtain⟨y,hy⟩:∃ x,tz d=x:=⟨_,rfl⟩;have LX:=zJ (tz_low n);have LY:=zJ (tz_low d);have x2:x<=131072:=by have:=qU n;rw [hx] at this;unfold nl at ln;omega
  have y2:y<=131072:=by have:=qU d;rw [hy] at this;unfold nl at ld;omega
  have hc:=mk_cases neg n d e rb rn rd re err n0 hr;rw [hx,hy] at hc;rw [hx] at LX;rw [hy] at LY;have HS:=zJ hs;have HT:=zJ ht;have LN:=zJ ln;have LD:=zJ ld;obtain⟨E,hE⟩:∃ E,e+(x:Int)-(y:Int)=E:=⟨_,rfl⟩;rw [hE] at hc;have k1:IntKind.i64.wrap (e+(x:Int))=e+(x:Int):=zR _ (by omega) (by omega);have k2:IntKind.i64.wrap (e+(x:Int)-(y:Int))=E:=by rw [zR _ (by omega) (by omega)];omega
  obtain⟨o1,o2⟩:=od_is n n0;obtain⟨o3,o4⟩:=od_is d d0;obtain⟨p,hp⟩:∃ p,yN (od n)=p:=⟨_,rfl⟩;obtain⟨q,hq⟩:∃ p,yN (od d)=p:=⟨_,rfl⟩;have L1:zW (nl (od n)<=16384):=zJ (Nat.le_trans (xQ _ _ (od_le n)) ln);have L2:zW (nl (od d)<=16384):=zJ (Nat.le_trans (xQ _ _ (od_le d)) ld);have HP:=zJ hp;have HQ:=zJ hq;have P1:zW (yN (n / 2 ^ (x:Int).toNat)=p):=zJ (by rw [Int.toNat_natCast,<-hx];exact hp);have Q1:zW (yN (d / 2 ^ (y:Int).toNat)=q):=zJ (by rw [Int.toNat_natCast,<-hy];exact hq);obtain⟨b1,hb1⟩:∃ o,decide (n % 2 ^ (x:Int).toNat≠0)=o:=⟨_,rfl⟩;obtain⟨b2,hb2⟩:∃ o,decide (d % 2 ^ (y:Int).toNat≠0)=o:=⟨_,rfl⟩;have O1:=zJ hb1;have O2:=zJ hb2;obtain⟨gg,hgg⟩:∃ g,Nat.gcd (od n) (od d)=g:=⟨_,rfl⟩;obtain⟨h,hh⟩:∃ h,yN gg=h:=⟨_,rfl⟩;have HG:zW (yN (Nat.gcd (od n) (od d))=h):=zJ (by rw [hgg];exact hh);have HH:=zJ hh;have eo:=eq_one gg h hh;have G0:zW (gg≠0):=zJ (by rw [<-hgg];exact Nat.pos_iff_ne_zero.1 (Nat.gcd_pos_of_pos_left _ (by omega)));rw [hgg] at hc;obtain⟨un,hun⟩:∃ u,yN (od n / gg)=u:=⟨_,rfl⟩;obtain⟨ud,hud⟩:∃ u,yN (od d / gg)=u:=⟨_,rfl⟩;obtain⟨vn,hvn⟩:∃ u,yN (od n % gg)=u:=⟨_,rfl⟩;obtain⟨vd,hvd⟩:∃ u,yN (od d % gg)=u:=⟨_,rfl⟩;have U1:=zJ hun;have U2:=zJ hud;have U3:=zJ hvn;have U4:=zJ hvd
  by_cases g1':gg=1
  ·
   rw [decide_eq_true g1'] at eo;have en:un=p:=by rw [<-hun,g1',Nat.div_one,hp]
   have ed:ud=q:=by rw [<-hud,g1',Nat.div_one,hq]
   rcases hc with ⟨hc,rfl,rfl,rfl,rfl,rfl⟩|⟨hc,rfl,rfl,rfl,rfl,rfl⟩
   ·
    rw [hun] at hu;rw [hud] at hv;subst hu hv;subst en ed;have c1:decide (re < -1048576)=false:=decide_eq_false (by omega);have c2:decide (1048576<re)=false:=decide_eq_false (by omega);clear hs ht ln ld hr hx hy hE hc o1 o2 o3 o4 hp hq n0 d0 hb1 hb2 hgg hh hun hud hvn hvd g1' U1 U2 U3 U4;obtain⟨Ad,B0⟩:=yR w (Obj.cells #[.bool false,.string ⟨#[]⟩,.string ⟨#[]⟩,.int .i64 0] 70)
    go_enter Tryz.func99,Tryz.ntmps99
    go_wp2_with fail
    refine (yP s true H1.out _).mono ?_;rintro r w' ⟨rfl,rfl⟩;go_wp2_with fail
    refine (yP t true H2.out _).mono ?_;rintro r w' ⟨rfl,rfl⟩;go_wp2_with fail
    refine (qE n x s HS.out LN.out LX.out _).mono ?_;rintro r w' ⟨rfl,rfl⟩;go_wp2_with fail
    refine (qE d y t HT.out LD.out LY.out _).mono ?_;rintro r w' ⟨rfl,rfl⟩;go_wp2_with fail
    refine (xS n (x:Int) s un b1 HS.out LN.out (by omega) (by omega) P1.out O1.out _).mono ?_;rintro r w1 ⟨rfl,b1⟩;have B1:=zS B0 b1;have Ab:=zA b1 _ _ _ Ad;clear b1 B0 Ad;obtain⟨Af,Ag,Ah,Ai⟩:=zE Ab;go_wp2_with fail
    refine (xS d (y:Int) t ud b2 HT.out LD.out (by omega) (by omega) Q1.out O2.out _).mono ?_;rintro r w2 ⟨rfl,b2⟩;have B2:=zS B1 b2;have Ac:=zA b2 _ _ _ Ab;clear b2 B1 Ab Af Ag Ah Ai;obtain⟨Aj,Ak,Al,Am⟩:=zE Ac;go_wp2_with fail
    refine (nat_Gcd (od n) (od d) un ud h HP.out HQ.out L1.out L2.out HG.out _).mono ?_;rintro r w3 ⟨rfl,b3⟩;have B3:=zS B2 b3;have Aa:=zA b3 _ _ _ Ac;clear b3 B2 Ac Aj Ak Al Am;obtain⟨Ao,Ap,Aq,Ar⟩:=zE Aa;have q0:=fz (k:=0) Aa;have q1:=fz (k:=1) Aa;have q2:=fz (k:=2) Aa;have q3:=fz (k:=3) Aa;obtain⟨E0,E1,E2,E3⟩:=yO Aa rfl (.bool rb) (.string un) (.string ud) (.int .i64 re);go_wp2
    exact bodyPost_ret (v:=.tuple #[.agg #[.bool rb,.string un,.string ud,.int .i64 re],.int .i64 0]) (by simp [results,Tryz.results99,go_sem,E0,E1,E2,E3]) rfl ⟨rfl,yG B3 (by first|exact Nat.le_refl _|omega|(skip;omega)) _ _ _ _⟩
   ·
    rw [yX] at hu hv;subst hu hv;have c0:E < -1048576∨1048576<E:=by omega
    have c12:decide (E < -1048576)=true∨(decide (E < -1048576)=false/\decide (1048576<E)=true):=by
     by_cases hh:E < -1048576
     ·
      exact Or.inl (decide_eq_true hh)
     ·
      exact Or.inr ⟨decide_eq_false hh,decide_eq_true (by omega)⟩
    clear hs ht ln ld hr hx hy hE hc o1 o2 o3 o4 hp hq n0 d0 hb1 hb2 hgg hh hun hud hvn hvd g1' U1 U2 U3 U4 en ed c0
    rcases c12 with c1|⟨c1,c2⟩
    ·
     obtain⟨Ad,B0⟩:=yR w (Obj.cells #[.bool false,.string ⟨#[]⟩,.string ⟨#[]⟩,.int .i64 0] 70)
     go_enter Tryz.func99,Tryz.ntmps99
     go_wp2_with fail
     refine (yP s true H1.out _).mono ?_;rintro r w' ⟨rfl,rfl⟩;go_wp2_with fail
     refine (yP t true H2.out _).mono ?_;rintro r w' ⟨rfl,rfl⟩;go_wp2_with fail
     refine (qE n x s HS.out LN.out LX.out _).mono ?_;rintro r w' ⟨rfl,rfl⟩;go_wp2_with fail
     refine (qE d y t HT.out LD.out LY.out _).mono ?_;rintro r w' ⟨rfl,rfl⟩;go_wp2_with fail
     refine (xS n (x:Int) s p b1 HS.out LN.out (by omega) (by omega) P1.out O1.out _).mono ?_;rintro r w1 ⟨rfl,b1⟩;have B1:=zS B0 b1;have Ab:=zA b1 _ _ _ Ad;clear b1 B0 Ad;obtain⟨Af,Ag,Ah,Ai⟩:=zE Ab;go_wp2_with fail
     refine (xS d (y:Int) t q b2 HT.out LD.out (by omega) (by omega) Q1.out O2.out _).mono ?_;rintro r w2 ⟨rfl,b2⟩;have B2:=zS B1 b2;have Ac:=zA b2 _ _ _ Ab;clear b2 B1 Ab Af Ag Ah Ai;obtain⟨Aj,Ak,Al,Am⟩:=zE Ac;go_wp2_with fail
     refine (nat_Gcd (od n) (od d) p q h HP.out HQ.out L1.out L2.out HG.out _).mono ?_;rintro r w3 ⟨rfl,b3⟩;have B3:=zS B2 b3;have Aa:=zA b3 _ _ _ Ac;clear b3 B2 Ac Aj Ak Al Am;obtain⟨Ao,Ap,Aq,Ar⟩:=zE Aa;have q0:=fz (k:=0) Aa;have q1:=fz (k:=1) Aa;have q2:=fz (k:=2) Aa;have q3:=fz (k:=3) Aa;obtain⟨E0,E1,E2,E3⟩:=yO Aa rfl (.bool false) (.string ⟨#[]⟩) (.string ⟨#[]⟩) (.int .i64 0);go_wp2
     exact bodyPost_ret (v:=.tuple #[.agg #[.bool false,.string ⟨#[]⟩,.string ⟨#[]⟩,.int .i64 0],.int .i64 4]) (by simp [results,Tryz.results99,go_sem,E0,E1,E2,E3]) rfl ⟨rfl,yG B3 (by first|exact Nat.le_refl _|omega|(skip;omega)) _ _ _ _⟩
    ·
     obtain⟨Ad,B0⟩:=yR w (Obj.cells #[.bool false,.string ⟨#[]⟩,.string ⟨#[]⟩,.int .i64 0] 70)
     go_enter Tryz.func99,Tryz.ntmps99
     go_wp2_with fail
     refine (yP s true H1.out _).mono ?_;rintro r w' ⟨rfl,rfl⟩;go_wp2_with fail
     refine (yP t true H2.out _).mono ?_;rintro r w' ⟨rfl,rfl⟩;go_wp2_with fail
     refine (qE n x s HS.out LN.out LX.out _).mono ?_;rintro r w' ⟨rfl,rfl⟩;go_wp2_with fail
     refine (qE d y t HT.out LD.out LY.out _).mono ?_;rintro r w' ⟨rfl,rfl⟩;go_wp2_with fail
     refine (xS n (x:Int) s p b1 HS.out LN.out (by omega) (by omega) P1.out O1.out _).mono ?_;rintro r w1 ⟨rfl,b1⟩;have B1:=zS B0 b1;have Ab:=zA b1 _ _ _ Ad;clear b1 B0 Ad;obtain⟨Af,Ag,Ah,Ai⟩:=zE Ab;go_wp2_with fail
     refine (xS d (y:Int) t q b2 HT.out LD.out (by omega) (by omega) Q1.out O2.out _).mono ?_;rintro r w2 ⟨rfl,b2⟩;have B2:=zS B1 b2;have Ac:=zA b2 _ _ _ Ab;clear b2 B1 Ab Af Ag Ah Ai;obtain⟨Aj,Ak,Al,Am⟩:=zE Ac;go_wp2_with fail
     refine (nat_Gcd (od n) (od d) p q h HP.out HQ.out L1.out L2.out HG.out _).mono ?_;rintro r w3 ⟨rfl,b3⟩;have B3:=zS B2 b3;have Aa:=zA b3 _ _ _ Ac;clear b3 B2 Ac Aj Ak Al Am;obtain⟨Ao,Ap,Aq,Ar⟩:=zE Aa;have q0:=fz (k:=0) Aa;have q1:=fz (k:=1) Aa;have q2:=fz (k:=2) Aa;have q3:=fz (k:=3) Aa;obtain⟨E0,E1,E2,E3⟩:=yO Aa rfl (.bool false) (.string ⟨#[]⟩) (.string ⟨#[]⟩) (.int .i64 0);go_wp2
     exact bodyPost_ret (v:=.tuple #[.agg #[.bool false,.string ⟨#[]⟩,.string ⟨#[]⟩,.int .i64 0],.int .i64 4]) (by simp [results,Tryz.results99,go_sem,E0,E1,E2,E3]) rfl ⟨rfl,yG B3 (by first|exact Nat.le_refl _|omega|(skip;omega)) _ _ _ _⟩
  ·
   rw [decide_eq_false g1'] at eo
   rcases hc with ⟨hc,rfl,rfl,rfl,rfl,rfl⟩|⟨hc,rfl,rfl,rfl,rfl,rfl⟩
   ·
    rw [hun] at hu;rw [hud] at hv;subst hu hv;have c1:decide (re < -1048576)=false:=decide_eq_false (by omega);have c2:decide (1048576<re)=false:=decide_eq_false (by omega);clear hs ht ln ld hr hx hy hE hc o1 o2 o3 o4 hp hq n0 d0 hb1 hb2 hgg hh hun hud hvn hvd g1';obtain⟨Ad,B0⟩:=yR w (Obj.cells #[.bool false,.string ⟨#[]⟩,.string ⟨#[]⟩,.int .i64 0] 70)
    go_enter Tryz.func99,Tryz.ntmps99
    go_wp2_with fail
    refine (yP s true H1.out _).mono ?_;rintro r w' ⟨rfl,rfl⟩;go_wp2_with fail
    refine (yP t true H2.out _).mono ?_;rintro r w' ⟨rfl,rfl⟩;go_wp2_with fail
    refine (qE n x s HS.out LN.out LX.out _).mono ?_;rintro r w' ⟨rfl,rfl⟩;go_wp2_with fail
    refine (qE d y t HT.out LD.out LY.out _).mono ?_;rintro r w' ⟨rfl,rfl⟩;go_wp2_with fail
    refine (xS n (x:Int) s p b1 HS.out LN.out (by omega) (by omega) P1.out O1.out _).mono ?_;rintro r w1 ⟨rfl,b1⟩;have B1:=zS B0 b1;have Ab:=zA b1 _ _ _ Ad;clear b1 B0 Ad;obtain⟨Af,Ag,Ah,Ai⟩:=zE Ab;go_wp2_with fail
    refine (xS d (y:Int) t q b2 HT.out LD.out (by omega) (by omega) Q1.out O2.out _).mono ?_;rintro r w2 ⟨rfl,b2⟩;have B2:=zS B1 b2;have Ac:=zA b2 _ _ _ Ab;clear b2 B1 Ab Af Ag Ah Ai;obtain⟨Aj,Ak,Al,Am⟩:=zE Ac;go_wp2_with fail
    refine (nat_Gcd (od n) (od d) p q h HP.out HQ.out L1.out L2.out HG.out _).mono ?_;rintro r w3 ⟨rfl,b3⟩;have B3:=zS B2 b3;have Aa:=zA b3 _ _ _ Ac;clear b3 B2 Ac Aj Ak Al Am;obtain⟨Ao,Ap,Aq,Ar⟩:=zE Aa;go_wp2_with fail
    refine (nat_Div (od n) gg p h un vn HP.out HH.out L1.out G0.out U1.out U3.out _).mono ?_;rintro r w4 ⟨rfl,b4⟩;have B4:=zS B3 b4;have An:=zA b4 _ _ _ Aa;clear b4 B3 Aa Ao Ap Aq Ar;obtain⟨As,At,Au,Av⟩:=zE An;go_wp2_with fail
    refine (nat_Div (od d) gg q h ud vd HQ.out HH.out L2.out G0.out U2.out U4.out _).mono ?_;rintro r w5 ⟨rfl,b5⟩;have B5:=zS B4 b5;have Ae:=zA b5 _ _ _ An;clear b5 B4 An As At Au Av;obtain⟨Aw,Ax,Ay,Az⟩:=zE Ae;have q0:=fz (k:=0) Ae;have q1:=fz (k:=1) Ae;have q2:=fz (k:=2) Ae;have q3:=fz (k:=3) Ae;obtain⟨E0,E1,E2,E3⟩:=yO Ae rfl (.bool rb) (.string un) (.string ud) (.int .i64 re);go_wp2
    exact bodyPost_ret (v:=.tuple #[.agg #[.bool rb,.string un,.string ud,.int .i64 re],.int .i64 0]) (by simp [results,Tryz.results99,go_sem,E0,E1,E2,E3]) rfl ⟨rfl,yG B5 (by first|exact Nat.le_refl _|omega|(skip;omega)) _ _ _ _⟩
   ·
    rw [yX] at hu hv;subst hu hv;have c0:E < -1048576∨1048576<E:=by omega
    have c12:decide (E < -1048576)=true∨(decide (E < -1048576)=false/\decide (1048576<E)=true):=by
     by_cases hh:E < -1048576
     ·
      exact Or.inl (decide_eq_true hh)
     ·
      exact Or.inr ⟨decide_eq_false hh,decide_eq_true (by omega)⟩
    clear hs ht ln ld hr hx hy hE hc o1 o2 o3 o4 hp hq n0 d0 hb1 hb2 hgg hh hun hud hvn hvd g1' c0
    rcases c12 with c1|⟨c1,c2⟩
    ·
     obtain⟨Ad,B0⟩:=yR w (Obj.cells #[.bool false,.string ⟨#[]⟩,.string ⟨#[]⟩,.int .i64 0] 70)
     go_enter Tryz.func99,Tryz.ntmps99
     go_wp2_with fail
     refine (yP s true H1.out _).mono ?_;rintro r w' ⟨rfl,rfl⟩;go_wp2_with fail
     refine (yP t true H2.out _).mono ?_;rintro r w' ⟨rfl,rfl⟩;go_wp2_with fail
     refine (qE n x s HS.out LN.out LX.out _).mono ?_;rintro r w' ⟨rfl,rfl⟩;go_wp2_with fail
     refine (qE d y t HT.out LD.out LY.out _).mono ?_;rintro r w' ⟨rfl,rfl⟩;go_wp2_with fail
     refine (xS n (x:Int) s p b1 HS.out LN.out (by omega) (by omega) P1.out O1.out _).mono ?_;rintro r w1 ⟨rfl,b1⟩;have B1:=zS B0 b1;have Ab:=zA b1 _ _ _ Ad;clear b1 B0 Ad;obtain⟨Af,Ag,Ah,Ai⟩:=zE Ab;go_wp2_with fail
     refine (xS d (y:Int) t q b2 HT.out LD.out (by omega) (by omega) Q1.out O2.out _).mono ?_;rintro r w2 ⟨rfl,b2⟩;have B2:=zS B1 b2;have Ac:=zA b2 _ _ _ Ab;clear b2 B1 Ab Af Ag Ah Ai;obtain⟨Aj,Ak,Al,Am⟩:=zE Ac;go_wp2_with fail
     refine (nat_Gcd (od n) (od d) p q h HP.out HQ.out L1.out L2.out HG.out _).mono ?_;rintro r w3 ⟨rfl,b3⟩;have B3:=zS B2 b3;have Aa:=zA b3 _ _ _ Ac;clear b3 B2 Ac Aj Ak Al Am;obtain⟨Ao,Ap,Aq,Ar⟩:=zE Aa;go_wp2_with fail
     refine (nat_Div (od n) gg p h un vn HP.out HH.out L1.out G0.out U1.out U3.out _).mono ?_;rintro r w4 ⟨rfl,b4⟩;have B4:=zS B3 b4;have An:=zA b4 _ _ _ Aa;clear b4 B3 Aa Ao Ap Aq Ar;obtain⟨As,At,Au,Av⟩:=zE An;go_wp2_with fail
     refine (nat_Div (od d) gg q h ud vd HQ.out HH.out L2.out G0.out U2.out U4.out _).mono ?_;rintro r w5 ⟨rfl,b5⟩;have B5:=zS B4 b5;have Ae:=zA b5 _ _ _ An;clear b5 B4 An As At Au Av;obtain⟨Aw,Ax,Ay,Az⟩:=zE Ae;have q0:=fz (k:=0) Ae;have q1:=fz (k:=1) Ae;have q2:=fz (k:=2) Ae;have q3:=fz (k:=3) Ae;obtain⟨E0,E1,E2,E3⟩:=yO Ae rfl (.bool false) (.string ⟨#[]⟩) (.string ⟨#[]⟩) (.int .i64 0);go_wp2
     exact bodyPost_ret (v:=.tuple #[.agg #[.bool false,.string ⟨#[]⟩,.string ⟨#[]⟩,.int .i64 0],.int .i64 4]) (by simp [results,Tryz.results99,go_sem,E0,E1,E2,E3]) rfl ⟨rfl,yG B5 (by first|exact Nat.le_refl _|omega|(skip;omega)) _ _ _ _⟩
    ·
     obtain⟨Ad,B0⟩:=yR w (Obj.cells #[.bool false,.string ⟨#[]⟩,.string ⟨#[]⟩,.int .i64 0] 70)
     go_enter Tryz.func99,Tryz.ntmps99
     go_wp2_with fail
     refine (yP s true H1.out _).mono ?_;rintro r w' ⟨rfl,rfl⟩;go_wp2_with fail
     refine (yP t true H2.out _).mono ?_;rintro r w' ⟨rfl,rfl⟩;go_wp2_with fail
     refine (qE n x s HS.out LN.out LX.out _).mono ?_;rintro r w' ⟨rfl,rfl⟩;go_wp2_with fail
     refine (qE d y t HT.out LD.out LY.out _).mono ?_;rintro r w' ⟨rfl,rfl⟩;go_wp2_with fail
     refine (xS n (x:Int) s p b1 HS.out LN.out (by omega) (by omega) P1.out O1.out _).mono ?_;rintro r w1 ⟨rfl,b1⟩;have B1:=zS B0 b1;have Ab:=zA b1 _ _ _ Ad;clear b1 B0 Ad;obtain⟨Af,Ag,Ah,Ai⟩:=zE Ab;go_wp2_with fail
     refine (xS d (y:Int) t q b2 HT.out LD.out (by omega) (by omega) Q1.out O2.out _).mono ?_;rintro r w2 ⟨rfl,b2⟩;have B2:=zS B1 b2;have Ac:=zA b2 _ _ _ Ab;clear b2 B1 Ab Af Ag Ah Ai;obtain⟨Aj,Ak,Al,Am⟩:=zE Ac;go_wp2_with fail
     refine (nat_Gcd (od n) (od d) p q h HP.out HQ.out L1.out L2.out HG.out _).mono ?_;rintro r w3 ⟨rfl,b3⟩;have B3:=zS B2 b3;have Aa:=zA b3 _ _ _ Ac;clear b3 B2 Ac Aj Ak Al Am;obtain⟨Ao,Ap,Aq,Ar⟩:=zE Aa;go_wp2_with fail
     refine (nat_Div (od n) gg p h un vn HP.out HH.out L1.out G0.out U1.out U3.out _).mono ?_;rintro r w4 ⟨rfl,b4⟩;have B4:=zS B3 b4;have An:=zA b4 _ _ _ Aa;clear b4 B3 Aa Ao Ap Aq Ar;obtain⟨As,At,Au,Av⟩:=zE An;go_wp2_with fail
     refine (nat_Div (od d) gg q h ud vd HQ.out HH.out L2.out G0.out U2.out U4.out _).mono ?_;rintro r w5 ⟨rfl,b5⟩;have B5:=zS B4 b5;have Ae:=zA b5 _ _ _ An;clear b5 B4 An As At Au Av;obtain⟨Aw,Ax,Ay,Az⟩:=zE Ae;have q0:=fz (k:=0) Ae;have q1:=fz (k:=1) Ae;have q2:=fz (k:=2) Ae;have q3:=fz (k:=3) Ae;obtain⟨E0,E1,E2,E3⟩:=yO Ae rfl (.bool false) (.string ⟨#[]⟩) (.string ⟨#[]⟩) (.int .i64 0);go_wp2
     exact bodyPost_ret (v:=.tuple #[.agg #[.bool false,.string ⟨#[]⟩,.string ⟨#[]⟩,.int .i64 0],.int .i64 4]) (by simp [results,Tryz.results99,go_sem,E0,E1,E2,E3]) rfl ⟨rfl,yG B5 (by first|exact Nat.le_refl _|omega|(skip;omega)) _ _ _ _⟩

end Go.Proofs.YtapikkbifdldfaaGreatDoor
