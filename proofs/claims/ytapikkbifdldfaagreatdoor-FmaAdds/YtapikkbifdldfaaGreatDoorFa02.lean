/-
  What the functions that the statement reaches return: part 2 (Rlow, Wide0, Wide1, Wide2, Wide3, Quiet2, Wide4, Wide5, Wide6, Wide7, Wide8).
-/
import Derived.Lib.BitFns
import Derived.Deep.WholeRow
import Derived.Below
import Derived.Lib.TrailingZeros
import Derived.Deep.RegionWith
import Derived.Deep.QuietTactic
import Derived.BigQuiet
import Derived.ChangeKeysEq
import Derived.Deep.RegionLaw
import Derived.Laws.CopyOwn
import Derived.Deep.OwnRows
import Derived.Laws.BytesString
import Derived.Test.YtapikkbifdldfaaGreatDoorFa01
namespace Go.Proofs.YtapikkbifdldfaaGreatDoor
set_option maxRecDepth 100000
set_option maxHeartbeats 40000000
open Go.RowKit WMath
def LowIs (x t:Nat):Prop:=t<64/\x % 2 ^ t=0/\x.testBit t=true
theorem rlow_any (x t:Nat)(hx:x<18446744073709551616)(ht:LowIs x t)(w:World) :
  Calls Tryz.prog 194 #[.int .u64 x] w fun e w'=>e=.returned (.int .i64 t)/\w'=w:=by
 have ht0:=ht.1;have hT:=hide ht;clear ht
 go_enter Tryz.func194,Tryz.ntmps194
 go_wp2
 go_loop [3] (fun i=>∃ k:Nat,k<=t/\i=.int .i64 k) (fun i=>64-(intOf i).toNat)
 case atStart=>exact⟨0,by omega,rfl⟩
 case round=>
  obtain⟨k,hk,rfl⟩:=hrel;have hlt:k<64:=by omega
  by_cases he:k<t
  ·
   have hb:x.testBit k=false:=by
    have h1:=Nat.testBit_mod_two_pow x t k;rw [hT.out.2.1] at h1
    simpa [he] using h1.symm
   go_wp2_with (go_at_call 177;refine (bit_any _ _ ?_ ?_ _).mono ?_;assumption;assumption;rintro e w' ⟨rfl,rfl⟩)
   go_round
   case rel=>exact⟨k+1,by omega,by go_num⟩
   case measure=>simp [intOf];omega
  ·
   obtain rfl:k=t:=by omega
   have hb:x.testBit k=true:=hT.out.2.2
   go_wp2_with (go_at_call 177;refine (bit_any _ _ ?_ ?_ _).mono ?_;assumption;assumption;rintro e w' ⟨rfl,rfl⟩)
   go_ret
   exact⟨rfl,rfl⟩
theorem setRow_below (w:World)(b:Nat)(c:Array Value)(o:Obj)(h:b<w.heap.size):(w.alloc o).setRow b c=(w.setRow b c).alloc o:=by
 simp only [World.setRow,World.alloc]
 congr 1
 apply Array.ext_getElem?
 intro i;rw [Array.getElem?_modify,Array.getElem?_push,Array.getElem?_push,Array.size_modify,Array.getElem?_modify]
 by_cases e:i=w.heap.size
 ·
  subst e;rw [if_pos rfl,if_pos rfl,if_neg (by omega)]
 ·
  rw [if_neg e,if_neg e]

theorem zS (w:World)(b:Nat)(o:Obj)(h:b<w.heap.size):(w.alloc o).heap[b]?=w.heap[b]?:=Below.heap_alloc w o b h
theorem zL (w:World)(o:Obj):(w.alloc o).heap.size=w.heap.size+1:=by
 show (w.heap.push o).size=_
 simp

theorem xE (w:World)(b x y:Nat)(h:w.heap[b]?=some (.cells (cw 6 y) 52)) :
  (storeCells ⟨b,0,none⟩ (cw 6 x).toList 0).run Tryz.prog w=.ok () (w.setRow b (cw 6 x)):=by
 have:=run_storeCells_from (P:=Tryz.prog) b 52 (cw 6 x).toList 0 (cw 6 y) w h (by simp [z7]) (fun v hv=>(Array.all_eq_true_iff_forall_mem.1 (cw_oneCell 6 x)) v (by simpa using hv))
 simpa using this

theorem ix6 (n k:Nat)(w:World)(h:k<6):(Instr.index 52 (.agg (cw 6 n)) (.int .i64 k)).run Tryz.prog w=.ok (.int .u64 (wd n k:Nat)) w:=by
 have h2:(0:Int)<=k/\(k:Int)<(6:Nat):=by omega
 simp [Instr.index,run_underlying Tryz.underlying52,asIntOf,h2,go_sem]
 rw [if_pos h,yD 6 n k h]
 rfl

theorem jA (w:World)(b x y:Nat)(hb:b=w.heap.size) :
  (storeCells ⟨b,0,none⟩ (cw 6 x).toList 0).run Tryz.prog (w.alloc (.cells (cw 6 y) 52))=.ok () (w.alloc (.cells (cw 6 x) 52)):=by
 subst hb;rw [xE _ _ x y (heap_alloc_last w _),World.setRow_alloc_new]
theorem st1 (w:World)(b x y:Nat)(o:Obj)(hb:b=w.heap.size) :
  (storeCells ⟨b,0,none⟩ (cw 6 x).toList 0).run Tryz.prog ((w.alloc (.cells (cw 6 y) 52)).alloc o)=.ok () ((w.alloc (.cells (cw 6 x) 52)).alloc o):=by
 subst hb;have h0:w.heap.size<(w.alloc (.cells (cw 6 y) 52)).heap.size:=by rw [zL];omega
 rw [xE _ _ x y (by rw [zS _ _ _ h0];exact heap_alloc_last w _),setRow_below _ _ _ _ h0,World.setRow_alloc_new]
theorem sc0d (w:World)(b t d:Nat)(c:Array Value)(T:TypeId)(v:Value)(hb:b=w.heap.size) :
  ((w.alloc (.cells c T)).drewN d).setCell ⟨b,t,none⟩ v=(w.alloc (.cells (c.setIfInBounds t v) T)).drewN d:=by
 rw [<-World.setCell_alloc_at (w:=w) c T b t v hb]
 rfl
theorem st_drew (w w2:World)(b x d:Nat)(h:(storeCells ⟨b,0,none⟩ (cw 6 x).toList 0).run Tryz.prog w=.ok () w2)(y:Nat)(hy:w.heap[b]?=some (.cells (cw 6 y) 52)) :
  (storeCells ⟨b,0,none⟩ (cw 6 x).toList 0).run Tryz.prog (w.drewN d)=.ok () (w2.drewN d):=by
 rw [xE w b x y hy] at h;rw [xE (w.drewN d) b x y hy];injection h with _ h;rw [<-h]
 rfl
theorem st0d (w:World)(b x y d:Nat)(hb:b=w.heap.size) :
  (storeCells ⟨b,0,none⟩ (cw 6 x).toList 0).run Tryz.prog ((w.alloc (.cells (cw 6 y) 52)).drewN d)=.ok () ((w.alloc (.cells (cw 6 x) 52)).drewN d):=
 st_drew _ _ b x d (jA w b x y hb) y (by rw [hb];exact heap_alloc_last w _)
theorem st1d (w:World)(b x y d:Nat)(o:Obj)(hb:b=w.heap.size) :
  (storeCells ⟨b,0,none⟩ (cw 6 x).toList 0).run Tryz.prog (((w.alloc (.cells (cw 6 y) 52)).alloc o).drewN d)=.ok () (((w.alloc (.cells (cw 6 x) 52)).alloc o).drewN d):=by
 refine st_drew _ _ b x d (st1 w b x y o hb) y ?_;have h0:b<(w.alloc (.cells (cw 6 y) 52)).heap.size:=by rw [zL];omega
 rw [zS _ _ _ h0,hb];exact heap_alloc_last w _
theorem al_eq {w:World} {c c':Array Value} {t:TypeId} (h:c=c'):w.alloc (.cells c t)=w.alloc (.cells c' t):=by rw [h]

theorem wadd_any (n m:Nat)(hn:n<Q)(hm:m<Q)(w:World) :
  Calls Tryz.prog 136 #[W n,W m] w fun e w'=>e=.returned (.tuple #[W ((n+m) % Q),.bool (decide (Q<=n+m))])/\Below w.heap.size w w':=by
 unfold W
 have hat:=yD 6;have hz:=yZ;have hf:=yY;have hx:=ix6;have hs0:=jA
 go_enter Tryz.func136,Tryz.ntmps136
 go_wp2
 go_loopw [5,9] (fun ov i wr=>∃ (k S:Nat) (C:Bool),k<=6/\i=.int .i64 k/\ov=.bool C/\wr=((w.alloc (.cells (cw 6 n) 52)).alloc (.cells (cw 6 m) 52)).alloc (.cells (cw 6 S) 52)/\S<2 ^ (64*k)/\Hid (S+2 ^ (64*k)*C.toNat=n % 2 ^ (64*k)+m % 2 ^ (64*k))) (fun _ i _=>6-(intOf i).toNat)
 case atStart=>exact⟨0,0,false,by omega,rfl,rfl,rfl,by decide,hide (by simp [Nat.mod_one])⟩
 case round=>
  obtain⟨k,S,C,hk,rfl,rfl,rfl,hS,HE⟩:=hrel
  by_cases hlt:k<6
  ·
   go_wp2_with (go_at_call 187;refine (add_any _ _ _ (yT _ _) (yT _ _) _).mono ?_;rintro e w' ⟨rfl,rfl⟩)
   go_roundw
   case rel=>
    exact⟨k+1,_,_,by omega,by go_num,rfl,al_eq (cw_push 6 S k _ _ hlt hS (Nat.mod_lt _ (by decide)) (by omega)),push_lt S k _ hS (Nat.mod_lt _ (by decide)),hide (wadd_step n m S k _ C HE.out rfl)⟩
   case measure=>simp [intOf];omega
  ·
   go_wp2
   obtain⟨rfl,rfl⟩:=wadd_end n m S k C (by omega) hn hm hS HE.out;exact bodyPost_ret (v:=.tuple #[.agg (cw 6 ((n+m) % Q)),.bool (decide (Q<=n+m))]) (by simp [results,Tryz.results136,go_sem,hat,hf]) rfl ⟨rfl,(((Below.refl _ _).alloc (Nat.le_refl _) _).alloc (by simp <;> omega) _).alloc (by simp <;> omega) _⟩
theorem wsub_any (n m:Nat)(hn:n<Q)(hm:m<Q)(w:World) :
  Calls Tryz.prog 168 #[W n,W m] w fun e w'=>e=.returned (.tuple #[W ((n+Q-m) % Q),.bool (decide (n<m))])/\Below w.heap.size w w':=by
 unfold W
 have hat:=yD 6;have hz:=yZ;have hf:=yY;have hx:=ix6;have hs0:=jA
 go_enter Tryz.func168,Tryz.ntmps168
 go_wp2
 go_loopw [5,9] (fun ov i wr=>∃ (k S:Nat) (C:Bool),k<=6/\i=.int .i64 k/\ov=.bool C/\wr=((w.alloc (.cells (cw 6 n) 52)).alloc (.cells (cw 6 m) 52)).alloc (.cells (cw 6 S) 52)/\S<2 ^ (64*k)/\Hid (S+m % 2 ^ (64*k)=n % 2 ^ (64*k)+2 ^ (64*k)*C.toNat)) (fun _ i _=>6-(intOf i).toNat)
 case atStart=>exact⟨0,0,false,by omega,rfl,rfl,rfl,by decide,hide (by simp [Nat.mod_one])⟩
 case round=>
  obtain⟨k,S,C,hk,rfl,rfl,rfl,hS,HE⟩:=hrel
  by_cases hlt:k<6
  ·
   go_wp2_with (go_at_call 207;refine (sub_any _ _ _ (yT _ _) (yT _ _) _).mono ?_;rintro e w' ⟨rfl,rfl⟩)
   go_roundw
   case rel=>
    exact⟨k+1,_,_,by omega,by go_num,rfl,al_eq (cw_push 6 S k _ _ hlt hS (Nat.mod_lt _ (by decide)) (by omega)),push_lt S k _ hS (Nat.mod_lt _ (by decide)),hide (wsub_step n m S k _ C HE.out rfl)⟩
   case measure=>simp [intOf];omega
  ·
   go_wp2
   obtain⟨rfl,rfl⟩:=wsub_end n m S k C (by omega) hn hm hS HE.out;exact bodyPost_ret (v:=.tuple #[.agg (cw 6 ((n+Q-m) % Q)),.bool (decide (n<m))]) (by simp [results,Tryz.results168,go_sem,hat,hf]) rfl ⟨rfl,(((Below.refl _ _).alloc (Nat.le_refl _) _).alloc (by simp <;> omega) _).alloc (by simp <;> omega) _⟩

theorem wof_any (n:Nat)(hn:n<18446744073709551616)(w:World) :
  Calls Tryz.prog 127 #[.int .u64 n] w fun e w'=>e=.returned (W n)/\Below w.heap.size w w':=by
 unfold W
 have hat:=yD 6;have hz:=yZ;have hf:=yY;have hs0:=jA
 have h1:(cw 6 0).setIfInBounds 0 (.int .u64 n)=cw 6 n:=by
  rw [cw_set 6 0 0 n (by omega) hn,setw_low 0 0 n (by decide)];simp
 have h2:(cw 6 0).toList.set 0 (.int .u64 n)=(cw 6 n).toList:=by rw [<-h1];simp
 go_enter Tryz.func127,Tryz.ntmps127
 go_wp2
 exact bodyPost_ret (v:=.agg (cw 6 n)) (by simp [results,Tryz.results127,go_sem,hat,hf]) rfl ⟨rfl,(Below.refl _ _).alloc (Nat.le_refl _) _⟩

theorem wor_any (n m:Nat)(hn:n<Q)(hm:m<Q)(w:World) :
  Calls Tryz.prog 75 #[W n,W m] w fun e w'=>e=.returned (W (n ||| m))/\Below w.heap.size w w':=by
 unfold W
 have hat:=yD 6;have hz:=yZ;have hf:=yY;have hx:=ix6;have hs0:=jA
 go_enter Tryz.func75,Tryz.ntmps75
 go_wp2
 go_loopw [8] (fun i wr=>∃ (k X:Nat),k<=6/\i=.int .i64 k/\wr=((w.alloc (.cells (cw 6 X) 52)).alloc (.cells (cw 6 m) 52)).alloc (.cells (cw 6 0) 52)/\Hid (Part X n k fun j=>wd n j ||| wd m j)) (fun i _=>6-(intOf i).toNat)
 case atStart=>exact⟨0,n,by omega,rfl,rfl,hide (part_start n _ hn)⟩
 case round=>
  obtain⟨k,X,hk,rfl,rfl,HE⟩:=hrel
  by_cases hlt:k<6
  ·
   have hw:=part_wd HE.out hlt;have ho:=bits_or_u64_nat (wd n k) (wd m k) (yT _ _) (yT _ _);go_wp2
   go_roundw
   case rel=>
    exact⟨k+1,_,by omega,by go_num,by rw [cw_seti 6 X k _ _ hlt (or_lt64 _ _ (yT n k) (yT m k)) rfl],hide (part_step HE.out hlt _ (or_lt64 _ _ (yT n k) (yT m k)) rfl)⟩
   case measure=>simp [intOf];omega
  ·
   go_wp2
   obtain rfl:=part_end HE.out (by omega) (n ||| m) (or_ltQ n m hn hm) (fun j hj=>wd_or n m j);exact bodyPost_ret (v:=.agg (cw 6 (n ||| m))) (by simp [results,Tryz.results75,go_sem,hat,hf]) rfl ⟨rfl,(((Below.refl _ _).alloc (Nat.le_refl _) _).alloc (by simp <;> omega) _).alloc (by simp <;> omega) _⟩

def yJ (n:Int):Nat:=min n.toNat 384
theorem wcount_any (n:Int)(w:World) :
  Calls Tryz.prog 129 #[.int .i64 n] w fun e w'=>e=.returned (.int .i64 (yJ n:Nat))/\w'=w:=by
 go_enter Tryz.func129,Tryz.ntmps129
 go_wp2
 all_goals go_ret
 all_goals
  refine ⟨xF ?_,rfl⟩
  unfold yJ
  omega

theorem left_is (x:Nat)(n:Int)(v:Nat)(h:x*2 ^ cnt n % 18446744073709551616=v)(w:World) :
  Calls Tryz.prog 180 #[.int .u64 x,.int .i64 n] w fun e w'=>e=.returned (.int .u64 v)/\w'=w:=by
 subst h;exact left_any x n w
theorem right_is (x:Nat)(n:Int)(v:Nat)(h:x / 2 ^ cnt n=v)(w:World) :
  Calls Tryz.prog 179 #[.int .u64 x,.int .i64 n] w fun e w'=>e=.returned (.int .u64 v)/\w'=w:=by
 subst h;exact right_any x n w

theorem wup_any (n s:Nat)(hn:n<Q)(hs:s<=384)(w:World) :
  Calls Tryz.prog 131 #[W n,.int .i64 s] w fun e w'=>e=.returned (W (n*2 ^ s % Q))/\Below w.heap.size w w':=by
 unfold W
 have hat:=yD 6;have hz:=yZ;have hf:=yY;have hx:=ix6;have hs0:=st0d;have hsc:=sc0d;obtain⟨q,hq⟩:∃ q,q=s / 64:=⟨_,rfl⟩;obtain⟨r,hr⟩:∃ r,r=s % 64:=⟨_,rfl⟩;have Ac:(s:Int) / 64=(q:Int):=by omega
 have HR:zY ((s:Int) % 64=(r:Int)):=zK (by omega);have hr2:r<64:=by omega
 have Ad:q<=6:=by omega
 have HS:zY (s=64*q+r):=zK (by omega);have hwr:IntKind.i64.wrap (64-(s:Int) % 64)=64-(s:Int) % 64:=by rw [IntKind.wrap_i64];omega
 clear hq hr
 go_enter Tryz.func131,Tryz.ntmps131
 go_wp2
 go_loopw [16] (fun i wr=>∃ (k X:Nat),k<=6/\i=.int .i64 k/\(∃ d,wr=((w.alloc (.cells (cw 6 n) 52)).alloc (.cells (cw 6 X) 52)).drewN d)/\zY (X=(n % 2 ^ (64*k))*2 ^ s % Q)) (fun i _=>6-(intOf i).toNat)
 case atStart=>exact⟨0,0,by omega,rfl,⟨0,rfl⟩,zK (by simp [Nat.mod_one])⟩
 case round=>
  obtain⟨k,X,hk,rfl,⟨d,rfl⟩,HE⟩:=hrel
  by_cases hlt:k<6
  ·
   obtain⟨t,ht⟩:∃ t,t=k+q:=⟨_,rfl⟩;have ht1:(k:Int)+(q:Int)=(t:Int):=by omega
   obtain⟨lo,hlo⟩:∃ lo,wd n k*2 ^ r % 18446744073709551616=lo:=⟨_,rfl⟩;obtain⟨hi,hhi⟩:∃ hi,wd n k / 2 ^ (64-r)=hi:=⟨_,rfl⟩;have hlo2:lo<18446744073709551616:=by rw [<-hlo];exact Nat.mod_lt _ (by decide)
   have hhi2:hi<18446744073709551616:=by rw [<-hhi];exact Nat.lt_of_le_of_lt (Nat.div_le_self _ _) (yT n k)
   have ST:=zK (up_step n k s q r t X lo hi HS.out hr2 ht HE.out hlo hhi);have HLO:=zK hlo;have HHI:=zK hhi;have HT:=zK ht;clear hlo hhi ht;have Aa:cnt ((s:Int) % 64)=r:=by rw [HR.out];exact cnt_small r hr2
   have Ab:cnt (64-(s:Int) % 64)=64-r:=by rw [HR.out];unfold cnt;omega
   by_cases h1:t<6
   ·
    obtain⟨X1,hX1⟩:∃ X1,X1=X ||| lo*2 ^ (64*t):=⟨_,rfl⟩;have hb1:=bor X t lo hlo2;have Ae:=cw_or 6 X t lo X1 h1 hlo2 hX1;have HX1:=zK hX1;clear hX1;have e1:lo*2 ^ (64*t) % Q=lo*2 ^ (64*t):=Nat.mod_eq_of_lt (sh_small lo t hlo2 h1);have E1:=zK e1;clear e1
    by_cases h2:t+1<6
    ·
     obtain⟨X2,hX2⟩:∃ X2,X2=X1 ||| hi*2 ^ (64*(t+1)):=⟨_,rfl⟩;have hb2:=bor X1 (t+1) hi hhi2;have Af:=cw_or 6 X1 (t+1) hi X2 h2 hhi2 hX2;have HX2:=zK hX2;clear hX2;have E2:=zK (Nat.mod_eq_of_lt (sh_small hi (t+1) hhi2 h2));go_wp2
     go_region_with (go_at_call 180;refine (left_is _ _ lo (by rw [Aa];exact HLO.out) _).mono ?_;rintro e w' ⟨rfl,rfl⟩)
     all_goals go_wp2
     all_goals go_region_with (go_at_call 179;refine (right_is _ _ hi (by rw [Ab];exact HHI.out) _).mono ?_;rintro e w' ⟨rfl,rfl⟩)
     all_goals go_wp2
     all_goals go_roundw
     all_goals first|(show (_:Nat)<_;simp [intOf];omega)|exact⟨k+1,X2,by omega,by go_num,⟨_,rfl⟩,zK (by rw [ST.out,E1.out,E2.out,HX2.out,HX1.out,Nat.or_assoc])⟩
    ·
     have E2:=zK (sh_big hi (t+1) (by omega));go_wp2
     go_region_with (go_at_call 180;refine (left_is _ _ lo (by rw [Aa];exact HLO.out) _).mono ?_;rintro e w' ⟨rfl,rfl⟩)
     all_goals go_wp2
     all_goals go_roundw
     all_goals first|(show (_:Nat)<_;simp [intOf];omega)|exact⟨k+1,X1,by omega,by go_num,⟨_,rfl⟩,zK (by rw [ST.out,E1.out,E2.out,HX1.out,Nat.or_zero])⟩
   ·
    have E1:=zK (sh_big lo t (by omega));have E2:=zK (sh_big hi (t+1) (by omega));have h3:¬ t+1<6:=by omega
    go_wp2
    go_roundw
    case rel=>exact⟨k+1,X,by omega,by go_num,⟨_,rfl⟩,zK (by rw [ST.out,E1.out,E2.out,Nat.or_zero,Nat.or_zero])⟩
    case measure=>simp [intOf];omega
  ·
   go_wp2
   have e:=HE.out;rw [wlow n k hn (by omega)] at e;subst e;exact bodyPost_ret (v:=.agg (cw 6 (n*2 ^ s % Q))) (by simp [results,Tryz.results131,go_sem,hat,hf]) rfl ⟨rfl,below_drewN (((Below.refl _ _).alloc (Nat.le_refl _) _).alloc (by simp <;> omega) _) _⟩

theorem wdown_any (n s:Nat)(hn:n<Q)(hs:s<=384)(w:World) :
  Calls Tryz.prog 130 #[W n,.int .i64 s] w fun e w'=>e=.returned (W (n / 2 ^ s))/\Below w.heap.size w w':=by
 unfold W
 have hat:=yD 6;have hz:=yZ;have hf:=yY;have hx:=ix6;have hs0:=st0d;have hsc:=sc0d;obtain⟨q,hq⟩:∃ q,q=s / 64:=⟨_,rfl⟩;obtain⟨r,hr⟩:∃ r,r=s % 64:=⟨_,rfl⟩;have Ac:(s:Int) / 64=(q:Int):=by omega
 have HR:zY ((s:Int) % 64=(r:Int)):=zK (by omega);have hr2:r<64:=by omega
 have Ad:q<=6:=by omega
 have HS:zY (s=64*q+r):=zK (by omega);have hwr:IntKind.i64.wrap (64-(s:Int) % 64)=64-(s:Int) % 64:=by rw [IntKind.wrap_i64];omega
 clear hq hr
 go_enter Tryz.func130,Tryz.ntmps130
 go_wp2
 go_loopw [16] (fun i wr=>∃ (k X:Nat),k<=6/\i=.int .i64 k/\(∃ d,wr=((w.alloc (.cells (cw 6 n) 52)).alloc (.cells (cw 6 X) 52)).drewN d)/\zY (X=(n % 2 ^ (64*k)) / 2 ^ s)) (fun i _=>6-(intOf i).toNat)
 case atStart=>exact⟨0,0,by omega,rfl,⟨0,rfl⟩,zK (by simp [Nat.mod_one])⟩
 case round=>
  obtain⟨k,X,hk,rfl,⟨d,rfl⟩,HE⟩:=hrel
  by_cases hlt:k<6
  ·
   obtain⟨lo,hlo⟩:∃ lo,wd n k*2 ^ (64-r) % 18446744073709551616=lo:=⟨_,rfl⟩;obtain⟨hi,hhi⟩:∃ hi,wd n k / 2 ^ r=hi:=⟨_,rfl⟩;have hlo2:lo<18446744073709551616:=by rw [<-hlo];exact Nat.mod_lt _ (by decide)
   have hhi2:hi<18446744073709551616:=by rw [<-hhi];exact Nat.lt_of_le_of_lt (Nat.div_le_self _ _) (yT n k)
   have ST:=zK (down_step n k s q r X lo hi HS.out hr2 HE.out hlo hhi);have HLO:=zK hlo;have HHI:=zK hhi;clear hlo hhi;have Aa:cnt ((s:Int) % 64)=r:=by rw [HR.out];exact cnt_small r hr2
   have Ab:cnt (64-(s:Int) % 64)=64-r:=by rw [HR.out];unfold cnt;omega
   by_cases h1:q<=k
   ·
    obtain⟨t,ht⟩:∃ t,t=k-q:=⟨_,rfl⟩;have ht1:(k:Int)-(q:Int)=(t:Int):=by omega
    have ht6:t<6:=by omega
    have HT:=zK ht;obtain⟨X1,hX1⟩:∃ X1,X1=X ||| hi*2 ^ (64*t):=⟨_,rfl⟩;have hb1:=bor X t hi hhi2;have Ae:=cw_or 6 X t hi X1 ht6 hhi2 hX1;have HX1:=zK hX1;clear hX1
    by_cases h2:1<=t
    ·
     obtain⟨u,hu⟩:∃ u,u=t-1:=⟨_,rfl⟩;have hu1:(t:Int)-1=(u:Int):=by omega
     have hu6:u<6:=by omega
     have hu3:(0:Int)<=(u:Int):=by omega
     have E:zY (X ||| (hi*2 ^ (64*(k-q)) ||| lo*2 ^ (64*(k-q-1)))=X1 ||| lo*2 ^ (64*u)):=zK (by rw [HX1.out,show k-q-1=u by omega,show k-q=t by omega,Nat.or_assoc]);have hqk:q<k:=by omega
     clear ht hu;obtain⟨X2,hX2⟩:∃ X2,X2=X1 ||| lo*2 ^ (64*u):=⟨_,rfl⟩;have hb2:=bor X1 u lo hlo2;have Af:=cw_or 6 X1 u lo X2 hu6 hlo2 hX2;have HX2:=zK hX2;clear hX2;go_wp2
     go_region_with (go_at_call 179;refine (right_is _ _ hi (by rw [Aa];exact HHI.out) _).mono ?_;rintro e w' ⟨rfl,rfl⟩)
     all_goals go_wp2
     all_goals go_region_with (go_at_call 180;refine (left_is _ _ lo (by rw [Ab];exact HLO.out) _).mono ?_;rintro e w' ⟨rfl,rfl⟩)
     all_goals go_wp2
     all_goals go_roundw
     all_goals first|(show (_:Nat)<_;simp [intOf];omega)|exact⟨k+1,X2,by omega,by go_num,⟨_,rfl⟩,zK (by rw [ST.out,if_pos hqk,E.out,HX2.out])⟩
    ·
     obtain rfl:q=k:=by omega
     obtain rfl:t=0:=by omega
     have E:zY (X1=X ||| hi):=zK (by rw [HX1.out];simp);clear ht;go_wp2
     go_region_with (go_at_call 179;refine (right_is _ _ hi (by rw [Aa];exact HHI.out) _).mono ?_;rintro e w' ⟨rfl,rfl⟩)
     all_goals go_wp2
     all_goals go_roundw
     all_goals first|(show (_:Nat)<_;simp [intOf];omega)|exact⟨q+1,X1,by omega,by go_num,⟨_,rfl⟩,zK (by rw [ST.out,E.out];simp)⟩
   ·
    have h4:¬ (0:Int)<=(k:Int)-(q:Int):=by omega
    have h5:¬ (0:Int)<=(k:Int)-(q:Int)-1:=by omega
    go_wp2
    go_roundw
    case rel=>exact⟨k+1,X,by omega,by go_num,⟨_,rfl⟩,zK (by rw [ST.out,if_neg (by omega),if_neg (by omega)])⟩
    case measure=>simp [intOf];omega
  ·
   go_wp2
   have e:=HE.out;rw [wlow n k hn (by omega)] at e;subst e;exact bodyPost_ret (v:=.agg (cw 6 (n / 2 ^ s))) (by simp [results,Tryz.results130,go_sem,hat,hf]) rfl ⟨rfl,below_drewN (((Below.refl _ _).alloc (Nat.le_refl _) _).alloc (by simp <;> omega) _) _⟩
theorem yV (W:World):∃ F:World->World,(∀ u,Below W.heap.size W (F u))/\(∀ u,Below W.heap.size W u->F u=u):=by
 classical
 refine ⟨fun u=>if Below W.heap.size W u then u else W,fun u=>?_,fun u h=>if_pos h⟩
 by_cases h:Below W.heap.size W u
 ·
  simp only [h,if_true]
 ·
  simp only [h,if_false];exact Below.refl _ _

theorem z9 {P:Program} {id:Nat} {Q:Exit->Act->World->Prop} {a:Act} {W:World} {l:List Oper} (F:World->World)(hF:∀ u,Below W.heap.size W u->F u=u)
  (hm:P.follows .mixedOrders=true) (hB:Region.lexB .any l.toArray=true)
  (h:wpQuiet P l.toArray (fun w'=>∃ u,w'=F u) (fun a'=>∀ w',(∃ u,w'=F u)->Q .normal a' w') l a):(Code.region id l.toArray true).wp P Q a W:=
 wp_region_quiet (C:=fun w'=>∃ u,w'=F u) hm hB ⟨W.drew,(hF _ ((Below.refl _ _).drew)).symm⟩ (by simpa using h)

theorem yH {P:Program} {f:Nat} {args:Array Value} {v:Value} {W:World} {F:World->World} (h1:∀ u,Below W.heap.size W (F u))(h2:∀ u,Below W.heap.size W u->F u=u) {u:World}
  (h:Calls P f args (F u) fun e w'=>e=.returned v/\Below (F u).heap.size (F u) w'):Calls P f args (F u) fun e w''=>e=.returned v/\∃ u',w''=F u':=
 h.mono fun _ w' ⟨he,hm⟩=>⟨he,w',(h2 _ ((h1 u).trans (hm.mono (h1 u).size))).symm⟩
theorem quietF0 {P:Program} {f:Nat} {args:Array Value} {v:Value} {F:World->World} {u:World}
  (h:Calls P f args (F u) fun e w'=>e=.returned v/\w'=F u):Calls P f args (F u) fun e w''=>e=.returned v/\∃ u',w''=F u':=
 h.mono fun _ _ ⟨he,hm⟩=>⟨he,u,hm⟩

theorem zC {W w1:World} (hb:Below W.heap.size W w1)(b:Nat)(c:Array Value)(t:TypeId)(h:W.heap[b]?=some (.cells c t)):w1.heap[b]?=some (.cells c t):=by
 rw [hb.block b (Array.getElem?_eq_some_iff.1 h).1,h]

theorem zG {w:World} {b n:Nat} (h:w.heap[b]?=some (.cells (cw 6 n) 52))(o:Nat)(ho:o<6):w.cell? ⟨b,o,none⟩=some (.int .u64 (wd n o:Nat)):=by
 rw [cell_of_row w b o _ _ _ h,yD 6 n o ho]
theorem zT {w:World} {b:Nat} {c c':Array Value} {t:TypeId} (h:w.heap[b]?=some (.cells c t)):(w.setRow b c').heap[b]?=some (.cells c' t):=by
 simp [World.setRow,Array.getElem?_modify,h]
theorem zJ {w:World} {b b':Nat} {c':Array Value} (h:b≠b'):(w.setRow b c').heap[b']?=w.heap[b']?:=by
 simp [World.setRow,Array.getElem?_modify,h]
theorem setRow_size {w:World} {b:Nat} {c':Array Value}:(w.setRow b c').heap.size=w.heap.size:=by
 simp [World.setRow]
theorem Below.setRow {B:Nat} {w w1:World} {b:Nat} {c:Array Value} (h:Below B w w1)(hb:B<=b):Below B w (w1.setRow b c):=
 ⟨h.os,h.tape,h.output,by rw [setRow_size];exact h.size,fun k hk=>by rw [zJ (by omega)];exact h.block k hk⟩

theorem st_same (w:World)(b x:Nat)(h:w.heap[b]?=some (.cells (cw 6 x) 52)) :
  (storeCells ⟨b,0,none⟩ (cw 6 x).toList 0).run Tryz.prog w=.ok () w:=by
 rw [xE w b x x h,setRow_self w b _ _ _ h]

theorem eqItems6 (d x y:Nat)(w:World):∀ is:List Nat,(∀ i ∈ is,i<6)->(Op.eqItems (d+1) 24 1 (cw 6 x) (cw 6 y) is).run Tryz.prog w=.ok (is.all fun i=>wd x i == wd y i) w
 | [],_=>rfl
 | i :: is,h=>by
  have hi:=h i (by simp);have ih:=eqItems6 d x y w is (fun j hj=>h j (by simp [hj]))
  have p1:∀ z:Nat,(part 24 (cw 6 z) (i*1)).run Tryz.prog w=.ok (.int .u64 (wd z i:Nat)) w:=fun z=>by
   simp [part,yD 6 z i hi,go_sem]
  have e:((wd x i:Int) == (wd y i:Int))=(wd x i == wd y i):=by rw [Bool.eq_iff_iff];simp only [beq_iff_eq];omega
  simp only [Op.eqItems,Sem.run_bind,p1,Result.andThen_ok,run_equalIn_int _ d 24 .u64 .u64 _ _ Tryz.underlying24,e]
  cases he:wd x i == wd y i
  ·
   simp [he]
  ·
   simp [he,ih]

theorem eq6 (x y:Nat)(hx:x<Q)(hy:y<Q)(w:World):(Op.equalIn 10000 52 (.agg (cw 6 x)) (.agg (cw 6 y))).run Tryz.prog w=.ok (decide (x=y)) w:=by
 obtain⟨i,hi⟩:∃ i,Tryz.prog.info? 24=some i:=by
  have:(Tryz.prog.info? 24).isSome=true:=by kernel_rfl
  exact Option.isSome_iff_exists.1 this
 have hc:Tryz.prog.cellsOf 24=1:=by kernel_rfl
 rw [run_equalIn_array w 9999 (cw 6 x) (cw 6 y) Tryz.underlying52 hi,hc,eqItems6 9998 x y w (List.range 6) (fun i h=>by simpa using h)]
 congr 1
 rw [Bool.eq_iff_iff,List.all_eq_true,decide_eq_true_iff]
 constructor
 ·
  intro h;obtain⟨L,hL,hQ⟩:=Q_of;rw [hQ] at hx hy;exact wd_ext hx hy (fun k hk=>by simpa using h k (by rw [hL] at hk;simpa using hk))
 ·
  rintro rfl i _
  simp
theorem eqg6:Tryz.prog.eqGuardType Tryz.prog.depth 52=false:=by kernel_rfl
theorem left_lost (n c x:Nat)(hx:x=n*2 ^ c % Q):(!decide (x / 2 ^ c=n))=decide (Q<=n*2 ^ c):=by
 by_cases h:n*2 ^ c<Q
 ·
  rw [hx,Nat.mod_eq_of_lt h,Nat.mul_div_cancel _ (Nat.two_pow_pos c),decide_eq_false (show ¬ Q<=n*2 ^ c by omega)]
  simp
 ·
  have h1:x<Q:=by rw [hx];exact Nat.mod_lt _ Q_pos
  have h2:x / 2 ^ c≠n:=by
   intro e
   have:=Nat.div_mul_le_self x (2 ^ c)
   rw [e] at this;omega
  rw [decide_eq_true (show Q<=n*2 ^ c by omega),decide_eq_false h2]
  rfl
theorem right_lost (n c:Nat)(hn:n<Q):(!decide (n / 2 ^ c*2 ^ c % Q=n))=decide (n % 2 ^ c≠0):=by
 have h1:=Nat.div_add_mod' n (2 ^ c);rw [Nat.mod_eq_of_lt (by omega)]
 by_cases h:n % 2 ^ c=0
 ·
  rw [decide_eq_true (show n / 2 ^ c*2 ^ c=n by omega),decide_eq_false (by omega)];rfl
 ·
  rw [decide_eq_false (show ¬ n / 2 ^ c*2 ^ c=n by omega),decide_eq_true h];rfl

theorem wleft_any (n:Nat)(s:Int)(hn:n<Q)(w:World) :
  Calls Tryz.prog 126 #[W n,.int .i64 s] w fun e w'=>e=.returned (.tuple #[W (n*2 ^ yJ s % Q),.bool (decide (Q<=n*2 ^ yJ s))])/\Below w.heap.size w w':=by
 have hs6:yJ s<=384:=by unfold yJ;omega
 obtain⟨x,hx⟩:∃ x,x=n*2 ^ yJ s % Q:=⟨_,rfl⟩;have hxQ:x<Q:=by rw [hx];exact Nat.mod_lt _ Q_pos
 unfold W
 have hat:=yD 6;have hz:=yZ;have hf:=yY;have hW:∀ x,W x=.agg (cw 6 x):=fun _=>rfl;have heq:=eq6;have hg:=eqg6;have hdQ:x / 2 ^ yJ s<Q:=Nat.lt_of_le_of_lt (Nat.div_le_self _ _) hxQ;rw [<-hx];have HX:=zK hx;clear hx
 go_enter Tryz.func126,Tryz.ntmps126
 go_wp2_with (first|(go_at_call 129;refine (wcount_any _ _).mono ?_;rintro e w' ⟨rfl,rfl⟩))
 refine (wup_any n (yJ s) hn hs6 _).mono ?_;rintro e w1 ⟨rfl,hb1⟩;rw [<-HX.out]
 unfold W
 have hr0:w1.heap[w.heap.size]?=some (.cells (cw 6 n) 52):=zC hb1 _ _ _ (by rw [zS _ _ _ (by simp)];exact heap_alloc_last w _);have hr1:w1.heap[w.heap.size+1]?=some (.cells (cw 6 0) 52):=zC hb1 _ _ _ (by rw [<-zL];exact heap_alloc_last _ _);obtain⟨w2,Aa⟩:∃ w2,w2=w1.setRow (w.heap.size+1) (cw 6 x):=⟨_,rfl⟩;have hst:(storeCells ⟨w.heap.size+1,0,none⟩ (cw 6 x).toList 0).run Tryz.prog w1=.ok () w2:=by rw [Aa];exact xE w1 _ x 0 hr1
 have Ac:w2.heap[w.heap.size]?=some (.cells (cw 6 n) 52):=by rw [Aa,zJ (by omega)];exact hr0
 have Ab:w2.heap[w.heap.size+1]?=some (.cells (cw 6 x) 52):=by rw [Aa];exact zT hr1
 have hbw:Below w.heap.size w w2:=by
  rw [Aa];exact Below.setRow ((((Below.refl _ _).alloc (Nat.le_refl _) _).alloc (by simp) _).trans (hb1.mono (by simp <;> omega))) (by omega)
 have hs2:w.heap.size+1<w2.heap.size:=(Array.getElem?_eq_some_iff.1 Ab).1;clear hb1 hr0 hr1 Aa;obtain⟨F,hF1,hF2⟩:=yV w2;have hFn:∀ u o,o<6->(F u).cell? ⟨w.heap.size,o,none⟩=some (.int .u64 (wd n o:Nat)):=fun u=>zG (zC (hF1 u) _ _ _ Ac);have hFx:∀ u o,o<6->(F u).cell? ⟨w.heap.size+1,o,none⟩=some (.int .u64 (wd x o:Nat)):=fun u=>zG (zC (hF1 u) _ _ _ Ab);have hFs:∀ u,(storeCells ⟨w.heap.size+1,0,none⟩ (cw 6 x).toList 0).run Tryz.prog (F u)=.ok () (F u):=fun u=>st_same _ _ _ (zC (hF1 u) _ _ _ Ab);go_wp2
 refine z9 F hF2 (by kernel_rfl) (by kernel_rfl) ?_
 repeat quiet_step ((go_at_call 130;exact yH hF1 hF2 (wdown_any x (yJ s) hxQ hs6 _)))
 refine wpQuiet_nil ?_;rintro _ ⟨u,rfl⟩;go_wp2
 exact bodyPost_ret (v:=.tuple #[.agg (cw 6 x),.bool (!decide (x / 2 ^ yJ s=n))]) (by simp [results,Tryz.results126,go_sem,hFx,hf]) rfl ⟨by rw [left_lost n _ x HX.out],hbw.trans ((hF1 u).mono (by omega))⟩
theorem wright_any (n:Nat)(s:Int)(hn:n<Q)(w:World) :
  Calls Tryz.prog 73 #[W n,.int .i64 s] w fun e w'=>e=.returned (.tuple #[W (n / 2 ^ yJ s),.bool (decide (n % 2 ^ yJ s≠0))])/\Below w.heap.size w w':=by
 have hs6:yJ s<=384:=by unfold yJ;omega
 obtain⟨x,hx⟩:∃ x,x=n / 2 ^ yJ s:=⟨_,rfl⟩;have hxQ:x<Q:=by rw [hx];exact Nat.lt_of_le_of_lt (Nat.div_le_self _ _) hn
 unfold W
 have hat:=yD 6;have hz:=yZ;have hf:=yY;have hW:∀ x,W x=.agg (cw 6 x):=fun _=>rfl;have heq:=eq6;have hg:=eqg6;have hdQ:x*2 ^ yJ s % Q<Q:=Nat.mod_lt _ Q_pos;rw [<-hx];have HX:=zK hx;clear hx
 go_enter Tryz.func73,Tryz.ntmps73
 go_wp2_with (first|(go_at_call 129;refine (wcount_any _ _).mono ?_;rintro e w' ⟨rfl,rfl⟩))
 refine (wdown_any n (yJ s) hn hs6 _).mono ?_;rintro e w1 ⟨rfl,hb1⟩;rw [<-HX.out]
 unfold W
 have hr0:w1.heap[w.heap.size]?=some (.cells (cw 6 n) 52):=zC hb1 _ _ _ (by rw [zS _ _ _ (by simp)];exact heap_alloc_last w _);have hr1:w1.heap[w.heap.size+1]?=some (.cells (cw 6 0) 52):=zC hb1 _ _ _ (by rw [<-zL];exact heap_alloc_last _ _);obtain⟨w2,Aa⟩:∃ w2,w2=w1.setRow (w.heap.size+1) (cw 6 x):=⟨_,rfl⟩;have hst:(storeCells ⟨w.heap.size+1,0,none⟩ (cw 6 x).toList 0).run Tryz.prog w1=.ok () w2:=by rw [Aa];exact xE w1 _ x 0 hr1
 have Ac:w2.heap[w.heap.size]?=some (.cells (cw 6 n) 52):=by rw [Aa,zJ (by omega)];exact hr0
 have Ab:w2.heap[w.heap.size+1]?=some (.cells (cw 6 x) 52):=by rw [Aa];exact zT hr1
 have hbw:Below w.heap.size w w2:=by
  rw [Aa];exact Below.setRow ((((Below.refl _ _).alloc (Nat.le_refl _) _).alloc (by simp) _).trans (hb1.mono (by simp <;> omega))) (by omega)
 have hs2:w.heap.size+1<w2.heap.size:=(Array.getElem?_eq_some_iff.1 Ab).1;clear hb1 hr0 hr1 Aa;obtain⟨F,hF1,hF2⟩:=yV w2;have hFn:∀ u o,o<6->(F u).cell? ⟨w.heap.size,o,none⟩=some (.int .u64 (wd n o:Nat)):=fun u=>zG (zC (hF1 u) _ _ _ Ac);have hFx:∀ u o,o<6->(F u).cell? ⟨w.heap.size+1,o,none⟩=some (.int .u64 (wd x o:Nat)):=fun u=>zG (zC (hF1 u) _ _ _ Ab);have hFs:∀ u,(storeCells ⟨w.heap.size+1,0,none⟩ (cw 6 x).toList 0).run Tryz.prog (F u)=.ok () (F u):=fun u=>st_same _ _ _ (zC (hF1 u) _ _ _ Ab);go_wp2
 refine z9 F hF2 (by kernel_rfl) (by kernel_rfl) ?_
 repeat quiet_step ((go_at_call 131;exact yH hF1 hF2 (wup_any x (yJ s) hxQ hs6 _)))
 refine wpQuiet_nil ?_;rintro _ ⟨u,rfl⟩;go_wp2
 exact bodyPost_ret (v:=.tuple #[.agg (cw 6 x),.bool (!decide (x*2 ^ yJ s % Q=n))]) (by simp [results,Tryz.results73,go_sem,hFx,hf]) rfl ⟨by rw [HX.out,right_lost n _ hn],hbw.trans ((hF1 u).mono (by omega))⟩
theorem wleft_is (n v:Nat)(s:Int)(o:Bool)(hn:n<Q)(hv:n*2 ^ yJ s % Q=v)(ho:decide (Q<=n*2 ^ yJ s)=o)(w:World) :
  Calls Tryz.prog 126 #[.agg (cw 6 n),.int .i64 s] w fun e w'=>e=.returned (.tuple #[.agg (cw 6 v),.bool o])/\Below w.heap.size w w':=by
 subst hv;subst ho;exact wleft_any n s hn w
theorem wright_is (n v:Nat)(s:Int)(o:Bool)(hn:n<Q)(hv:n / 2 ^ yJ s=v)(ho:decide (n % 2 ^ yJ s≠0)=o)(w:World) :
  Calls Tryz.prog 73 #[.agg (cw 6 n),.int .i64 s] w fun e w'=>e=.returned (.tuple #[.agg (cw 6 v),.bool o])/\Below w.heap.size w w':=by
 subst hv;subst ho;exact wright_any n s hn w
theorem add_is (a b:Nat)(c:Bool)(s:Nat)(o:Bool)(ha:a<18446744073709551616)(hb:b<18446744073709551616)(hs:(a+b+c.toNat) % 18446744073709551616=s)(ho:decide (18446744073709551616<=a+b+c.toNat)=o)(w:World) :
  Calls Tryz.prog 187 #[.int .u64 a,.int .u64 b,.bool c] w fun e w'=>e=.returned (.tuple #[.int .u64 s,.bool o])/\w'=w:=by
 subst hs;subst ho;exact add_any a b c ha hb w
theorem mul_is (x y h l:Nat)(hx:x<18446744073709551616)(hy:y<18446744073709551616)(hh:x*y / 18446744073709551616=h)(hl:x*y % 18446744073709551616=l)(w:World) :
  Calls Tryz.prog 216 #[.int .u64 x,.int .u64 y] w fun e w'=>e=.returned (.tuple #[.int .u64 h,.int .u64 l])/\w'=w:=by
 subst hh;subst hl;exact mul_any x y hx hy w

theorem mulAdd_any (x y u v:Nat)(hx:x<18446744073709551616)(hy:y<18446744073709551616)(hu:u<18446744073709551616)(hv:v<18446744073709551616)(w:World) :
  Calls Tryz.prog 208 #[.int .u64 x,.int .u64 y,.int .u64 u,.int .u64 v] w fun e w'=>e=.returned (.tuple #[.int .u64 ((x*y+u+v) % 18446744073709551616:Nat),.int .u64 ((x*y+u+v) / 18446744073709551616:Nat)])/\w'=w:=by
 obtain⟨H,hH⟩:∃ H,x*y / 18446744073709551616=H:=⟨_,rfl⟩;obtain⟨L,hL⟩:∃ L,x*y % 18446744073709551616=L:=⟨_,rfl⟩;obtain⟨l1,hl1⟩:∃ l1,(L+u+false.toNat) % 18446744073709551616=l1:=⟨_,rfl⟩;obtain⟨c1,Aa⟩:∃ c1,decide (18446744073709551616<=L+u+false.toNat)=c1:=⟨_,rfl⟩;obtain⟨h1,hh1⟩:∃ h1,(H+0+c1.toNat) % 18446744073709551616=h1:=⟨_,rfl⟩;obtain⟨d1,hd1⟩:∃ d1,decide (18446744073709551616<=H+0+c1.toNat)=d1:=⟨_,rfl⟩;obtain⟨l2,hl2⟩:∃ l2,(l1+v+false.toNat) % 18446744073709551616=l2:=⟨_,rfl⟩;obtain⟨c2,Ab⟩:∃ c2,decide (18446744073709551616<=l1+v+false.toNat)=c2:=⟨_,rfl⟩;obtain⟨h2,hh2⟩:∃ h2,(h1+0+c2.toNat) % 18446744073709551616=h2:=⟨_,rfl⟩;obtain⟨d2,hd2⟩:∃ d2,decide (18446744073709551616<=h1+0+c2.toNat)=d2:=⟨_,rfl⟩;have bL:L<18446744073709551616:=by rw [<-hL];exact Nat.mod_lt _ (by decide)
 have bH:H<18446744073709551616:=by rw [<-hH];exact Nat.lt_of_le_of_lt (Nat.div_le_div_right (Nat.mul_le_mul (Nat.le_of_lt hx) (Nat.le_of_lt_succ (show y<18446744073709551615+1 by omega)))) (by decide)
 have e1:=carry_num L u l1 false c1 bL hu hl1 Aa;have e2:=carry_num l1 v l2 false c2 e1.2 hv hl2 Ab;have b1:h1<18446744073709551616:=by rw [<-hh1];exact Nat.mod_lt _ (by decide)
 have fin:=mulAdd_num x y u v H L l1 c1.toNat h1 l2 c2.toNat h2 hx hy hu hv hH.symm hL.symm (by simpa using e1.1) (by rw [<-hh1];simp) (by simpa using e2.1) (by rw [<-hh2];simp) e1.2 e2.2;have F1:=zK fin;have A1:=zK hH;have A2:=zK hL;have A3:=zK hl1;have A4:=zK Aa;have A5:=zK hh1;have A6:=zK hd1;have A7:=zK hl2;have A8:=zK Ab;have A9:=zK hh2;have A10:=zK hd2;have E1:=zK e1;clear fin hH hL hl1 Aa hh1 hd1 hl2 Ab hh2 hd2 e1 e2
 go_enter Tryz.func208,Tryz.ntmps208
 go_wp2_with fail
 refine (mul_is x y H L hx hy A1.out A2.out _).mono ?_;rintro e w' ⟨rfl,rfl⟩;go_wp2_with fail
 refine (add_is L u false l1 c1 bL hu A3.out A4.out _).mono ?_;rintro e w' ⟨rfl,rfl⟩;go_wp2_with fail
 refine (add_is H 0 c1 h1 d1 bH (by decide) A5.out A6.out _).mono ?_;rintro e w' ⟨rfl,rfl⟩;go_wp2_with fail
 refine (add_is l1 v false l2 c2 E1.out.2 hv A7.out A8.out _).mono ?_;rintro e w' ⟨rfl,rfl⟩;go_wp2_with fail
 refine (add_is h1 0 c2 h2 d2 b1 (by decide) A9.out A10.out _).mono ?_;rintro e w' ⟨rfl,rfl⟩;go_wp2
 go_ret2
 exact⟨ret_ii (by rw [F1.out.1]) (by rw [F1.out.2]),rfl⟩

theorem cw12z:#[Value.int .u64 0,.int .u64 0,.int .u64 0,.int .u64 0,.int .u64 0,.int .u64 0,.int .u64 0,.int .u64 0,.int .u64 0,.int .u64 0,.int .u64 0,.int .u64 0]=cw 12 0:=by
 show _=#[_,_,_,_,_,_,_,_,_,_,_,_]
 simp [wd_zero]

theorem mul_over (n m P x2:Nat)(hP:P=n*m)(h2:x2=P / Q):(!decide (x2=0))=decide (Q<=n*m):=by
 have:=Q_pos
 by_cases h:Q<=n*m
 ·
  have:0<P / Q:=Nat.div_pos (by omega) Q_pos
  rw [decide_eq_true h,decide_eq_false (by omega)];rfl
 ·
  rw [h2,hP,Nat.div_eq_of_lt (by omega),decide_eq_false h];rfl

theorem cw_take (S L o x:Nat)(hf:o+6<=S)(hx:∀ j,j<6->wd x j=wd L (o+j))(j:Nat)(v:Value)(hv:(cw 6 x).toList[j]?=some v):(cw S L)[o+j]?=some v:=by
 have hj:j<6:=by
  have:=(List.getElem?_eq_some_iff.1 hv).1
  simpa [z7] using this
 rw [yD S L (o+j) (by omega),<-hx j hj,<-yD 6 x j hj,<-hv]
 simp

theorem step_copy6 {P:Program} {ops:Array Oper} {o:Oper} {a:Act} {w:World} {K:Act->World->Prop} {Q:Exit->Act->World->Prop} {E:Prop} (hgd:o.guard=none)(d s:Operand)(dT sT:TypeId)
  (ho:o.op=.call { callee:=.builtin .copy,args:=#[d,s],argTypes:=#[dT,sT] }) (elem:TypeId) (hu:P.underlying dT=some (.slice elem)) (hsz:(P.info? elem).map (·.size)=some 1)
  (g gs offs sCap:Nat) (hd:a.eval d=.slice (some ⟨g,0,none⟩) 6 6) (hs:a.eval s=.slice (some ⟨gs,offs,none⟩) 6 sCap)
  (y L x S:Nat) (t t':TypeId) (hg:w.heap[g]?=some (.cells (cw 6 y) t)) (hsrc:w.heap[gs]?=some (.cells (cw S L) t')) (fit:offs+6<=S) (hx:∀ j,j<6->wd x j=wd L (offs+j))
  (h:∀ w',w'=w.setRow g (cw 6 x)->K (a.put o.dst (goInt 6)) w') :
  if Region.wanted o (yielded ops a.tmps)=true then Oper.wp P o a w K Q else E:=by
 have hw:Region.wanted o (yielded ops a.tmps)=true:=by simp [Region.wanted,hgd]
 rw [if_pos hw];have hlen:(cw 6 x).toList.length=6:=by simp [z7]
 have hadd:∀ j,(⟨gs,offs,none⟩:Addr).add j=⟨gs,offs+j,none⟩:=fun j=>by unfold Addr.add;split <;> simp_all
 have hrun:=run_copy_row (P:=P) w dT sT o.type elem g 0 6 6 ⟨gs,offs,none⟩ 6 sCap (cw 6 y) t (cw 6 x).toList hu hsz hg (by rw [hlen];rfl)
  (fun j v hv=>by rw [hadd,cell_of_row w gs (offs+j) _ _ _ hsrc];exact cw_take S L offs x fit hx j v hv) (by rw [hlen,z7];decide)
  (fun v hv=>(Array.all_eq_true_iff_forall_mem.1 (cw_oneCell 6 x)) v (by simpa using hv))
 rw [hlen] at hrun;have e0:(cw 6 y).toList.drop (0+6)=[]:=List.drop_eq_nil_of_le (by simp [z7]);rw [e0,List.take_zero,List.nil_append,List.append_nil,Array.toArray_toList] at hrun
 unfold Oper.wp
 simp [execOp,ho,resolve,invoke,builtin,hd,hs,hrun,Result.andThen]
 exact h _ rfl

theorem wmul_any (n m:Nat)(hn:n<Q)(hm:m<Q)(w:World) :
  Calls Tryz.prog 169 #[W n,W m] w fun e w'=>e=.returned (.tuple #[W (n*m % Q),.bool (decide (Q<=n*m))])/\Below w.heap.size w w':=by
 unfold W
 have hat:=yD 6;have hat12:=yD 12;have hz:=yZ;have hz12:=cw12z;have hf:=yY;have hx:=ix6;have hs0:=jA
 go_enter Tryz.func169,Tryz.ntmps169
 go_wp2
 go_loopw [14] (fun i wr=>∃ (k L:Nat),k<=6/\i=.int .i64 k/\wr=(((w.alloc (.cells (cw 6 n) 52)).alloc (.cells (cw 6 m) 52)).alloc (.cells (cw 6 0) 52)).alloc (.cells (cw 12 L) 193)/\zY (L=(n % 2 ^ (64*k))*m)) (fun i _=>6-(intOf i).toNat)
 case atStart=>exact⟨0,0,by omega,rfl,rfl,zK (by simp [Nat.mod_one])⟩
 case round=>
  obtain⟨k,L0,hk,rfl,rfl,HE⟩:=hrel
  by_cases hlt:k<6
  ·
   have hL0:zY (L0<2 ^ (64*(k+6))):=zK (by rw [HE.out];exact mul_bd n m k hm);have hdk:decide ((k:Int)<6)=true:=by simp;omega
   go_wp2
   go_loopw [9,19] (fun cv i wr=>∃ (j L c:Nat),j<=6/\i=.int .i64 j/\cv=.int .u64 c/\c<18446744073709551616/\wr=(((w.alloc (.cells (cw 6 n) 52)).alloc (.cells (cw 6 m) 52)).alloc (.cells (cw 6 0) 52)).alloc (.cells (cw 12 L) 193)/\zY (L<2 ^ (64*(k+6)))/\zY (L+2 ^ (64*(k+j))*c=(n % 2 ^ (64*k))*m+wd n k*2 ^ (64*k)*(m % 2 ^ (64*j)))) (fun _ i _=>6-(intOf i).toNat)
   case atStart=>exact⟨0,L0,0,by omega,rfl,rfl,by decide,rfl,hL0,zK (by rw [HE.out];simp [Nat.mod_one])⟩
   case round=>
    obtain⟨j,L,c,hj,rfl,rfl,hc,rfl,hL,HI⟩:=hrel
    by_cases hlj:j<6
    ·
     obtain⟨p,hp⟩:∃ p,p=k+j:=⟨_,rfl⟩;have hp1:(k:Int)+(j:Int)=(p:Int):=by omega
     have hp2:p<12:=by omega
     have hp3:p<k+6:=by omega
     have HP:=zK hp;obtain⟨lo,hlo⟩:∃ lo,(wd n k*wd m j+wd L p+c) % 18446744073709551616=lo:=⟨_,rfl⟩;obtain⟨hi,hhi⟩:∃ hi,(wd n k*wd m j+wd L p+c) / 18446744073709551616=hi:=⟨_,rfl⟩;have hsum:lo+18446744073709551616*hi=wd n k*wd m j+wd L p+c:=by rw [<-hlo,<-hhi];omega
     have blo:lo<18446744073709551616:=by rw [<-hlo];exact Nat.mod_lt _ (by decide)
     have bhi:hi<18446744073709551616:=by rw [<-hhi];exact mul_lt128 _ _ _ _ (yT _ _) (yT _ _) (yT _ _) hc
     have hset:=cw_set 12 L p lo hp2 blo;have ST:=zK (mul_in_step n m L _ k j p c lo hi hp (by rw [hp];exact HI.out) rfl hsum);have BD:=zK (setw_lt L p lo (k+6) hL.out hp3 blo);have HLO:=zK hlo;have HHI:=zK hhi;clear hp hlo hhi hsum;go_wp2_with fail
     refine ((mulAdd_any (wd n k) (wd m j) (wd L p) c (yT _ _) (yT _ _) (yT _ _) hc _).mono ?_);rw [HLO.out,HHI.out];rintro e w' ⟨rfl,rfl⟩;go_wp2
     go_roundw
     case rel=>exact⟨j+1,setw L p lo,hi,by omega,by go_num,rfl,bhi,rfl,BD,zK (by rw [<-ST.out,HP.out];rfl)⟩
     case measure=>simp [intOf];omega
    ·
     have hk6:k+6<12:=by omega
     have hset:=cw_set 12 L (k+6) c hk6 hc;go_wp2
     go_roundw
     case rel=>
      have:=mul_out n m L k c j (by omega) hm hL.out HI.out
      exact⟨k+1,_,by omega,by go_num,rfl,zK this⟩
     case measure=>simp [intOf];omega
  ·
   obtain⟨P,hP⟩:∃ P,P=n*m:=⟨_,rfl⟩;obtain rfl:L0=P:=by rw [HE.out,wlow n k hn (by omega),hP]
   have HP:=zK hP;clear hP;obtain⟨x1,hx1⟩:∃ x,x=L0 % Q:=⟨_,rfl⟩;obtain⟨x2,hx2⟩:∃ x,x=L0 / Q:=⟨_,rfl⟩
   have q1:∀ j,j<6->wd x1 j=wd L0 (0+j):=fun j hj=>by
    obtain⟨S,hS,hQ⟩:=Q_of;rw [hx1,hQ,wd_mod _ _ _ (by omega),Nat.zero_add]
   have q2:∀ j,j<6->wd x2 j=wd L0 (6+j):=fun j hj=>by
    obtain⟨S,hS,hQ⟩:=Q_of;rw [hx2,hQ,wd_div,hS]
   have l1:x1<Q:=by rw [hx1];exact Nat.mod_lt _ Q_pos
   have l2:x2<Q:=by rw [hx2,HP.out];exact Nat.div_lt_of_lt_mul (Nat.mul_lt_mul'' hn hm)
   have Q1:=zK q1;have Q2:=zK q2;have HX1:=zK hx1;have HX2:=zK hx2;clear q1 q2 hx1 hx2;go_wp2
   obtain⟨W0,hW0⟩:∃ W0,W0=((((w.alloc (.cells (cw 6 n) 52)).alloc (.cells (cw 6 m) 52)).alloc (.cells (cw 6 0) 52)).alloc (.cells (cw 12 L0) 193)).alloc (.cells (cw 6 0) 52):=⟨_,rfl⟩;rw [<-hW0]
   have g2:W0.heap[w.heap.size+1+1]?=some (.cells (cw 6 0) 52):=by
    rw [hW0,zS _ _ _ (by simp only [zL];omega),zS _ _ _ (by simp only [zL];omega)]
    have:=heap_alloc_last ((w.alloc (.cells (cw 6 n) 52)).alloc (.cells (cw 6 m) 52)) (.cells (cw 6 0) 52)
    simpa only [zL] using this
   have g3:W0.heap[w.heap.size+1+1+1]?=some (.cells (cw 12 L0) 193):=by
    rw [hW0,zS _ _ _ (by simp only [zL];omega)]
    have:=heap_alloc_last (((w.alloc (.cells (cw 6 n) 52)).alloc (.cells (cw 6 m) 52)).alloc (.cells (cw 6 0) 52)) (.cells (cw 12 L0) 193)
    simpa only [zL] using this
   have g4:W0.heap[w.heap.size+1+1+1+1]?=some (.cells (cw 6 0) 52):=by
    rw [hW0]
    have:=heap_alloc_last ((((w.alloc (.cells (cw 6 n) 52)).alloc (.cells (cw 6 m) 52)).alloc (.cells (cw 6 0) 52)).alloc (.cells (cw 12 L0) 193)) (.cells (cw 6 0) 52)
    simpa only [zL] using this
   have b0:Below w.heap.size w W0:=by
    rw [hW0];exact (((((Below.refl _ _).alloc (Nat.le_refl _) _).alloc (by simp only [zL];omega) _).alloc (by simp only [zL];omega) _).alloc (by simp only [zL];omega) _).alloc (by simp only [zL];omega) _
   clear hW0
   go_region_law ((refine step_copy6 rfl (.tmp 45) (.tmp 46) 196 196 rfl 24 Tryz.underlying196 (by kernel_rfl) (w.heap.size+1+1) (w.heap.size+1+1+1) 0 12 (by simp [Act.eval,Act.put]) (by simp [Act.eval,Act.put]) 0 L0 x1 12 52 193 g2 g3 (by omega) Q1.out ?_;intro w1 Aa))
   all_goals
    obtain⟨w1,Aa⟩:∃ w1,w1=W0.drew.setRow (w.heap.size+1+1) (cw 6 x1):=⟨_,rfl⟩;rw [<-Aa];have b1:Below w.heap.size w w1:=by rw [Aa];exact Below.setRow b0.drew (by omega)
    have k2:w1.heap[w.heap.size+1+1]?=some (.cells (cw 6 x1) 52):=by rw [Aa];exact zT (w:=W0.drew) g2
    have k3:w1.heap[w.heap.size+1+1+1]?=some (.cells (cw 12 L0) 193):=by rw [Aa,zJ (by omega)];exact g3
    have k4:w1.heap[w.heap.size+1+1+1+1]?=some (.cells (cw 6 0) 52):=by rw [Aa,zJ (by omega)];exact g4
    clear Aa g2 g3 g4 b0;go_wp2
    go_region_law ((refine step_copy6 rfl (.tmp 48) (.tmp 49) 196 196 rfl 24 Tryz.underlying196 (by kernel_rfl) (w.heap.size+1+1+1+1) (w.heap.size+1+1+1) 6 6 (by simp [Act.eval,Act.put]) (by simp [Act.eval,Act.put]) 0 L0 x2 12 52 193 k4 k3 (by omega) Q2.out ?_;intro w2 Ab))
    all_goals
     obtain⟨w2,Ab⟩:∃ w2,w2=w1.drew.setRow (w.heap.size+1+1+1+1) (cw 6 x2):=⟨_,rfl⟩;rw [<-Ab];have b2:Below w.heap.size w w2:=by rw [Ab];exact Below.setRow b1.drew (by omega)
     have j2:w2.heap[w.heap.size+1+1]?=some (.cells (cw 6 x1) 52):=by rw [Ab,zJ (by omega)];exact k2
     have j4:w2.heap[w.heap.size+1+1+1+1]?=some (.cells (cw 6 x2) 52):=by rw [Ab];exact zT (w:=w1.drew) k4
     have hsz:w.heap.size<=w2.heap.size:=b2.size;clear Ab k2 k3 k4 b1;obtain⟨F,hF1,hF2⟩:=yV w2;have hFx:∀ u o,o<6->(F u).cell? ⟨w.heap.size+1+1,o,none⟩=some (.int .u64 (wd x1 o:Nat)):=fun u=>zG (zC (hF1 u) _ _ _ j2);have hFy:∀ u o,o<6->(F u).cell? ⟨w.heap.size+1+1+1+1,o,none⟩=some (.int .u64 (wd x2 o:Nat)):=fun u=>zG (zC (hF1 u) _ _ _ j4);have hFs:∀ u,(storeCells ⟨w.heap.size+1+1,0,none⟩ (cw 6 x1).toList 0).run Tryz.prog (F u)=.ok () (F u):=fun u=>st_same _ _ _ (zC (hF1 u) _ _ _ j2);have heq:=eq6;have hg:=eqg6;have hQ0:=Q_pos;have hcs:=z7 6;go_wp2
     refine z9 F hF2 (by kernel_rfl) (by kernel_rfl) ?_
     repeat quiet_step (fail)
     refine wpQuiet_nil ?_;rintro _ ⟨u,rfl⟩;go_wp2
     exact bodyPost_ret (v:=.tuple #[.agg (cw 6 x1),.bool (!decide (x2=0))]) (by simp [results,Tryz.results169,go_sem,hFx,hf]) rfl ⟨by rw [mul_over n m L0 x2 HP.out HX2.out,HX1.out,HP.out],b2.trans ((hF1 u).mono hsz)⟩
theorem len_is (x l:Nat)(hx:x<18446744073709551616)(hl:zU x=l)(w:World) :
  Calls Tryz.prog 137 #[.int .u64 x] w fun e w'=>e=.returned (.int .i64 (l:Nat))/\w'=w:=by
 subst hl;rw [<-bitLen_blen x hx];exact len_any x hx w

theorem wlen_any (n:Nat)(hn:n<Q)(w:World) :
  Calls Tryz.prog 86 #[W n] w fun e w'=>e=.returned (.int .i64 (zU n:Nat))/\Below w.heap.size w w':=by
 unfold W
 have hat:=yD 6;have hf:=yY;have hx:=ix6
 go_enter Tryz.func86,Tryz.ntmps86
 go_wp2
 go_loop [3,7] (fun r i=>∃ (k l:Nat),k<=6/\i=.int .i64 k/\r=.int .i64 l/\zY (l=zU (n % 2 ^ (64*k)))) (fun _ i=>6-(intOf i).toNat)
 case atStart=>exact⟨0,0,by omega,rfl,rfl,zK (by rw [Nat.mul_zero,Nat.pow_zero,Nat.mod_one,blen_zero])⟩
 case round=>
  obtain⟨k,l,hk,rfl,rfl,HE⟩:=hrel
  by_cases hlt:k<6
  ·
   have ST:=zK (blen_step n k);obtain⟨x,hxe⟩:∃ x,wd n k=x:=⟨_,rfl⟩;have hx2:x<18446744073709551616:=by rw [<-hxe];exact yT n k
   have hbl:zU x<=64:=y6 x 64 (by rw [<-q8];exact hx2);obtain⟨b,hb⟩:∃ b,zU x=b:=⟨_,rfl⟩;rw [hb] at hbl;have HB:=zK hb;have HX:=zK hxe;clear hb
   by_cases h0:x=0
   ·
    subst h0;go_wp2
    go_round
    case rel=>exact⟨k+1,l,by omega,by go_num,rfl,zK (by rw [ST.out,HX.out,if_pos rfl];exact HE.out)⟩
    case measure=>simp [intOf];omega
   ·
    go_wp2_with (go_at_call 137;refine (len_is x b hx2 HB.out _).mono ?_;rintro e w' ⟨rfl,rfl⟩)
    go_round
    case rel=>exact⟨k+1,64*k+b,by omega,by go_num,by go_num,zK (by rw [ST.out,HX.out,if_neg h0,HB.out])⟩
    case measure=>simp [intOf];omega
  ·
   go_wp2
   go_ret
   exact⟨xF (by rw [HE.out,wlow n k hn (by omega)]),(Below.refl _ _).alloc (Nat.le_refl _) _⟩

theorem wfield_any (n low c:Nat)(hl:low<384)(hc:low % 64+c<=64)(w:World) :
  Calls Tryz.prog 186 #[W n,.int .i64 low,.int .i64 c] w fun e w'=>e=.returned (.int .u64 (n / 2 ^ low % 2 ^ c:Nat))/\Below w.heap.size w w':=by
 unfold W
 have hat:=yD 6;obtain⟨q,hq⟩:∃ q,q=low / 64:=⟨_,rfl⟩;obtain⟨r,hr⟩:∃ r,r=low % 64:=⟨_,rfl⟩;have Aa:(low:Int) / 64=(q:Int):=by omega
 have Ab:q<6:=by omega
 have HR:zY ((low:Int) % 64=(r:Int)):=zK (by omega);have hr2:r<64:=by omega
 have hrc:r+c<=64:=by omega
 have HF:=zK (field_num n q r c low (by omega) hrc);clear hq hr hc
 go_enter Tryz.func186,Tryz.ntmps186
 go_wp2_with (go_at_call 213;refine (field_any (wd n q) _ _ (yT _ _) _).mono ?_;rintro e w' ⟨rfl,rfl⟩)
 go_ret
 refine ⟨xF ?_,(Below.refl _ _).alloc (Nat.le_refl _) _⟩;rw [<-HF.out];have e1:cnt ((low:Int) % 64)=r:=by rw [HR.out];exact cnt_small r hr2
 have e2:cnt (c:Int)=c:=by unfold cnt;omega
 rw [e1,e2]
 simp
def cb (l:List UInt8):Array Value:=(l.map fun b=>Value.int .u8 (b.toNat:Int)).toArray

theorem cb_at (l:List UInt8)(k:Nat)(b:UInt8)(h:l[k]?=some b):(cb l)[k]?=some (.int .u8 (b.toNat:Int)):=by simp [cb,h]
theorem cb_size (l:List UInt8):(cb l).size=l.length:=by simp [cb]
theorem fz {w:World} {b k:Nat} {c:Array Value} {t:TypeId} (h:w.heap[b]?=some (.cells c t)):w.frozen? ⟨b,k,none⟩=false:=by simp [World.frozen?,h]
theorem zX {w:World} {b k:Nat} {c:Array Value} {t:TypeId} {v:Value} (h:w.heap[b]?=some (.cells c t)):(w.setCell ⟨b,k,none⟩ v).heap[b]?=some (.cells (c.setIfInBounds k v) t):=by
 simp [World.setCell,Array.getElem?_modify,h]
theorem zA {w:World} {b b' k:Nat} {v:Value} (h:b≠b'):(w.setCell ⟨b,k,none⟩ v).heap[b']?=w.heap[b']?:=by
 simp [World.setCell,Array.getElem?_modify,h]
theorem fold_bytes:∀ (l:List UInt8) (a:Array UInt8),((l.map fun b=>(b.toNat:Int)).foldl (fun r n=>r.push (UInt8.ofNat n.toNat)) (⟨a⟩:ByteArray))=⟨a ++ l.toArray⟩
 | [],a=>by simp
 | x :: l,a=>by
  have:=fold_bytes l (a.push x)
  simp only [List.map_cons,List.foldl_cons,Int.toNat_natCast,UInt8.ofNat_toNat]
  rw [show (ByteArray.mk a).push x=⟨a.push x⟩ from rfl,this]
  simp
theorem str_of {w:World} {b c:Nat} {l:List UInt8} {t:TypeId} (h:w.heap[b]?=some (.cells (cb l) t)) :
  (convert 159 9 (.slice (some ⟨b,0,none⟩) l.length c)).run Tryz.prog w=.ok (.string ⟨l.toArray⟩) w:=by
 rw [run_convert_bytes_string w 159 9 5 _ _ _ Tryz.underlying159 Tryz.underlying5 Tryz.underlying9]
 have hl:=run_loadCells_list (P:=Tryz.prog) w ⟨b,0,none⟩ (l.map fun x=>Value.int .u8 (x.toNat:Int)) (fun j v hv=>by
  have hadd:(⟨b,0,none⟩:Addr).add j=⟨b,j,none⟩:=by unfold Addr.add;split <;> simp_all
  rw [hadd,cell_of_row w b j _ _ _ h]
  simpa [cb] using hv)
 rw [List.length_map] at hl;rw [run_bytesToString (P:=Tryz.prog) w ⟨b,0,none⟩ l.length c (l.map fun x=>(x.toNat:Int)) (by rw [hl];simp),show ByteArray.empty=⟨#[]⟩ from rfl,fold_bytes]
 simp

theorem wadd_is (n m v:Nat)(o:Bool)(hn:n<Q)(hm:m<Q)(hv:(n+m) % Q=v)(ho:decide (Q<=n+m)=o)(w:World) :
  Calls Tryz.prog 136 #[.agg (cw 6 n),.agg (cw 6 m)] w fun e w'=>e=.returned (.tuple #[.agg (cw 6 v),.bool o])/\Below w.heap.size w w':=by
 subst hv;subst ho;exact wadd_any n m hn hm w
theorem wsub_is (n m v:Nat)(o:Bool)(hn:n<Q)(hm:m<Q)(hv:(n+Q-m) % Q=v)(ho:decide (n<m)=o)(w:World) :
  Calls Tryz.prog 168 #[.agg (cw 6 n),.agg (cw 6 m)] w fun e w'=>e=.returned (.tuple #[.agg (cw 6 v),.bool o])/\Below w.heap.size w w':=by
 subst hv;subst ho;exact wsub_any n m hn hm w
theorem wmul_is (n m v:Nat)(o:Bool)(hn:n<Q)(hm:m<Q)(hv:n*m % Q=v)(ho:decide (Q<=n*m)=o)(w:World) :
  Calls Tryz.prog 169 #[.agg (cw 6 n),.agg (cw 6 m)] w fun e w'=>e=.returned (.tuple #[.agg (cw 6 v),.bool o])/\Below w.heap.size w w':=by
 subst hv;subst ho;exact wmul_any n m hn hm w

theorem Q_big:1000000<Q:=by
 obtain⟨L,hL,hQ⟩:=Q_of;rw [hQ]
 have:2 ^ 20<=2 ^ (64*L):=Nat.pow_le_pow_right (by decide) (by omega)
 have e:(2:Nat) ^ 20=1048576:=by decide
 omega
theorem wof_al (n:Nat)(hn:n<18446744073709551616)(w:World):Calls Tryz.prog 127 #[.int .u64 n] w fun e w'=>e=.returned (.agg (cw 6 n))/\Below w.heap.size w w':=wof_any n hn w
end Go.Proofs.YtapikkbifdldfaaGreatDoor
