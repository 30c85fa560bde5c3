/-
  What the functions that the statement reaches return: part 26 (F6, F7).
-/
import Derived.ArgAppend
import Derived.Test.YtapikkbifdldfaaGreatDoorFd25
namespace Go.Proofs.YtapikkbifdldfaaGreatDoor
set_option maxRecDepth 100000
set_option maxHeartbeats 40000000
open Go.RowKit WMath
set_option linter.unusedSimpArgs false
set_option linter.unusedVariables false
theorem blsF_len (l:List (Nat×Nat)):(l.flatMap fun p=>[Value.int .u64 (p.1:Nat),Value.int .u64 (p.2:Nat)]).length=l.length*2:=by
 induction l with
 | nil=>rfl
 | cons a t ih=>simp only [List.flatMap_cons,List.length_append,List.length_cons,List.length_nil];omega
theorem blsF_cell (l:List (Nat×Nat))(j:Nat)(u:Value)(h:(l.flatMap fun p=>[Value.int .u64 (p.1:Nat),Value.int .u64 (p.2:Nat)])[j]?=some u):∃ p,l[j / 2]?=some p/\u=if j % 2=0 then .int .u64 (p.1:Nat) else .int .u64 (p.2:Nat):=by
 induction l generalizing j with
 | nil=>simp at h
 | cons a t ih=>
  match j,h with
  | 0,h=>simp at h;exact⟨a,rfl,h.symm⟩
  | 1,h=>simp at h;exact⟨a,rfl,h.symm⟩
  | j+2,h=>
   have:=ih j (by simpa using h)
   rw [show (j+2) / 2=j / 2+1 by omega,show (j+2) % 2=j % 2 by omega,List.getElem?_cons_succ];exact this
def SV (l:List (Nat×Nat))(L:Nat)(s:Value)(W:World):Prop:=
  (∃ o c,L=0/\s=.slice o 0 c)∨(∃ g z c,1<=L/\L<=c/\s=.slice (some ⟨g,z,none⟩) L c/\∀ V,Below W.heap.size W V->∀ k p,l[k]?=some p->V.cell? ⟨g,z+k*2,none⟩=some (.int .u64 (p.1:Nat))/\V.cell? ⟨g,z+k*2+1,none⟩=some (.int .u64 (p.2:Nat)))
theorem jB {w':World} {l:List (Nat×Nat)} {L gk:Nat} {cur:Array Value} {T:TypeId} (hl:l.length=L)(rowk:w'.heap[gk]?=some (.cells cur T))(htk:List.take (L*2) cur.toList=l.flatMap fun p=>[Value.int .u64 (p.1:Nat),Value.int .u64 (p.2:Nat)]):zW (∀ W,Below w'.heap.size w' W->∀ k p,l[k]?=some p->W.cell? ⟨gk,0+k*2,none⟩=some (.int .u64 (p.1:Nat))/\W.cell? ⟨gk,0+k*2+1,none⟩=some (.int .u64 (p.2:Nat))):=zJ (fun W bW k p hp=>by
 have r2:=zA bW _ _ _ rowk;obtain⟨a1,a2⟩:=bls_at l k p hp
 unfold bls at a1 a2
 rw [List.getElem?_toArray] at a1 a2
 have kl:k<L:=by
  rw [<-hl];exact (List.getElem?_eq_some_iff.1 hp).1
 have tk:∀ j v,j<L*2->(l.flatMap fun p=>[Value.int .u64 (p.1:Nat),Value.int .u64 (p.2:Nat)])[j]?=some v->cur[j]?=some v:=fun j v hj hv=>by
  rw [<-htk,List.getElem?_take_of_lt hj] at hv;rw [<-Array.getElem?_toList];exact hv
 rw [Nat.zero_add];exact⟨(cell_of_row W gk (k*2) _ _ _ r2).trans (tk _ _ (by omega) a1),(cell_of_row W gk (k*2+1) _ _ _ r2).trans (tk _ _ (by omega) a2)⟩)
theorem fd_NN (f m:Int)(l1 l2:List (Nat×Nat))(L1 L2:Nat)(w:World)(g1 z1 c1:Nat)(hl1:l1.length=L1)(p1:1<=L1)(q1:L1<=40)(hc1:L1<=c1)
  (HC1:zW (∀ W,Below w.heap.size w W->∀ k p,l1[k]?=some p->W.cell? ⟨g1,z1+k*2,none⟩=some (.int .u64 (p.1:Nat))/\W.cell? ⟨g1,z1+k*2+1,none⟩=some (.int .u64 (p.2:Nat)))) (g2 z2 c2:Nat) (hl2:l2.length=L2) (p2:1<=L2) (q2:L2<=40) (hc2:L2<=c2)
  (HC2:zW (∀ W,Below w.heap.size w W->∀ k p,l2[k]?=some p->W.cell? ⟨g2,z2+k*2,none⟩=some (.int .u64 (p.1:Nat))/\W.cell? ⟨g2,z2+k*2+1,none⟩=some (.int .u64 (p.2:Nat))))
  (u v:Nat) (fl e:Int) (he:IntKind.i64.wrap e=e)
  (KP:zW (∀ (W:World) (s1 s2:Value),y6 W->SV l1 L1 s1 W->SV l2 L2 s2 W->Calls Tryz.prog 19 #[.int .u8 f,.int .u8 m,s1,s2] W fun r w'=>r=.returned (.tuple #[.agg #[.int .u64 u,.int .u64 v],.int .u8 fl,.int .i64 e])/\Below W.heap.size W w'))
  (KQ:zW (∀ (W:World) (s1 s2:Value),SV l1 L1 s1 W->SV l2 L2 s2 W->Calls Tryz.prog 20 #[.int .u8 f,.int .u8 m,s1,s2] W fun r w'=>r=.returned (.tuple #[.agg #[.int .u64 u,.int .u64 v],.int .u8 fl,.int .i64 e])/\Below W.heap.size W w'))
  (KA:xK 14 #[] (.bool true)) (hT:y6 w):Calls Tryz.prog 6 #[.int .u8 f,.int .u8 m,.slice (some ⟨g1,z1,none⟩) L1 c1,.slice (some ⟨g2,z2,none⟩) L2 c2] w fun r w'=>r=.returned (.bool true)/\Below w.heap.size w w':=by
 have FF:=zJ hT;clear hT;have HL1:=zJ hl1;clear hl1;have d1:decide ((40:Int)<(L1:Int))=false:=decide_eq_false (by omega);have hlen1:=blsF_len l1;rw [HL1.out] at hlen1;have hb1:=fun j u (h:(l1.flatMap fun p=>[Value.int .u64 (p.1:Nat),Value.int .u64 (p.2:Nat)])[j]?=some u)=>blsF_cell l1 j u h;have HL2:=zJ hl2;clear hl2;have d2:decide ((40:Int)<(L2:Int))=false:=decide_eq_false (by omega);have hlen2:=blsF_len l2;rw [HL2.out] at hlen2;have hb2:=fun j u (h:(l2.flatMap fun p=>[Value.int .u64 (p.1:Nat),Value.int .u64 (p.2:Nat)])[j]?=some u)=>blsF_cell l2 j u h;have info:(Tryz.prog.info? 26).map (fun i=>(i.zero,i.size,i.bytes))=some (some (.agg #[.int .u64 0,.int .u64 0]),2,16):=by kernel_rfl
 obtain⟨i0,hi,hz0,hz1,hz2⟩:=info_parts info
 go_enter Tryz.func6,Tryz.ntmps6
 go_wp2_with (at_builtin;refine wpList_append_grows _ rfl (.const (.slice none 0 0)) (.tmp 28) 39 rfl 26 i0 (.agg #[.int .u64 0,.int .u64 0]) 2 16 Tryz.underlying39 hi hz0 hz1 hz2 rfl (by decide) none 0 0 [] rfl (fun _=>⟨rfl,rfl⟩) rfl (by intro _ _ _ _ h;simp at h) ⟨g1,z1,none⟩ L1 c1 (l1.flatMap fun p=>[Value.int .u64 (p.1:Nat),Value.int .u64 (p.2:Nat)]) rfl hlen1 ?c1 ?c2 ?full ?b1 ?b2 ?grow)
 case c1=>
  intro j u hj;obtain⟨p,hp,rfl⟩:=hb1 j u hj;obtain⟨q0,q1⟩:=HC1.out w (Below.refl _ _) (j / 2) p hp;rw [show ({ block:=g1,off:=z1,spot:=none }:Addr).add j=⟨g1,z1+j,none⟩ by simp [Addr.add]]
  by_cases c0:j % 2=0
  ·
   rw [if_pos c0,show z1+j=z1+j / 2*2 by omega];exact q0
  ·
   rw [if_neg c0,show z1+j=z1+j / 2*2+1 by omega];exact q1
 case c2=>
  intro u hu;obtain⟨j,hj⟩:=List.mem_iff_getElem?.1 hu;obtain⟨p,hp,rfl⟩:=hb1 j u hj
  split <;> rfl
 case full=>omega
 case b1=>unfold maxLen;omega
 case b2=>omega
 case grow=>
  intro v' wg1 hown hgrow;obtain⟨_,⟨_,hn0⟩|⟨gk1,ck1,cur,rfl,hgk,rowk,hck1,_,hsz,htk⟩⟩:=hown
  ·
   omega
  have bi1:Below w.heap.size w wg1:=(Below.refl _ _).grown hgrow (Nat.le_refl _) (fun k h=>by cases h);have bg1:=zS (Below.refl _ _) bi1;have HK1:=jB HL1.out rowk htk;clear hgrow hsz htk rowk hgk
  go_wp2_with (at_builtin;refine wpList_append_grows _ rfl (.const (.slice none 0 0)) (.tmp 30) 39 rfl 26 i0 (.agg #[.int .u64 0,.int .u64 0]) 2 16 Tryz.underlying39 hi hz0 hz1 hz2 rfl (by decide) none 0 0 [] rfl (fun _=>⟨rfl,rfl⟩) rfl (by intro _ _ _ _ h;simp at h) ⟨g2,z2,none⟩ L2 c2 (l2.flatMap fun p=>[Value.int .u64 (p.1:Nat),Value.int .u64 (p.2:Nat)]) rfl hlen2 ?c1 ?c2 ?full ?b1 ?b2 ?grow)
  case c1=>
   intro j u hj;obtain⟨p,hp,rfl⟩:=hb2 j u hj;obtain⟨q0,q1⟩:=HC2.out wg1 bg1 (j / 2) p hp;rw [show ({ block:=g2,off:=z2,spot:=none }:Addr).add j=⟨g2,z2+j,none⟩ by simp [Addr.add]]
   by_cases c0:j % 2=0
   ·
    rw [if_pos c0,show z2+j=z2+j / 2*2 by omega];exact q0
   ·
    rw [if_neg c0,show z2+j=z2+j / 2*2+1 by omega];exact q1
  case c2=>
   intro u hu;obtain⟨j,hj⟩:=List.mem_iff_getElem?.1 hu;obtain⟨p,hp,rfl⟩:=hb2 j u hj
   split <;> rfl
  case full=>omega
  case b1=>unfold maxLen;omega
  case b2=>omega
  case grow=>
   intro v' wg2 hown hgrow;obtain⟨_,⟨_,hn0⟩|⟨gk2,ck2,cur,rfl,hgk,rowk,hck2,_,hsz,htk⟩⟩:=hown
   ·
    omega
   have bi2:Below wg1.heap.size wg1 wg2:=(Below.refl _ _).grown hgrow (Nat.le_refl _) (fun k h=>by cases h);have bg2:=zS bg1 bi2;have HK2:=jB HL2.out rowk htk;clear hgrow hsz htk rowk hgk;go_wp2_with fail
   refine (KP.out wg2 _ _ (z7 FF.out bg2) (Or.inr ⟨gk1,0,ck1,p1,hck1,rfl,fun V bV=>HK1.out V (zS bi2 bV)⟩) (Or.inr ⟨gk2,0,ck2,p2,hck2,rfl,fun V bV=>HK2.out V bV⟩)).mono ?_;rintro r w1 ⟨rfl,b1⟩;have b2:=yK w1 (.cells #[.int .u64 u,.int .u64 v] 26);have Aa:=heap_alloc_last w1 (.cells #[.int .u64 u,.int .u64 v] 26);have bx:=zS b1 b2;have bq:=zS bg2 bx;go_wp2_with fail
   refine (KQ.out _ _ _ (Or.inr ⟨g1,z1,c1,p1,hc1,rfl,fun V bV=>HC1.out V (zS bq bV)⟩) (Or.inr ⟨g2,z2,c2,p2,hc2,rfl,fun V bV=>HC2.out V (zS bq bV)⟩)).mono ?_;rintro r w3 ⟨rfl,b3⟩;have Ab:=zA b3 _ _ _ Aa;have b4:=yK w3 (.cells #[.int .u64 u,.int .u64 v] 26);have Ac:=heap_alloc_last w3 (.cells #[.int .u64 u,.int .u64 v] 26);have Ad:=zA b4 _ _ _ Ab;have by4:=zS bx (zS b3 b4);have B4:=zS bg2 by4;have bk1:=zS bi2 by4;have bk2:=by4;obtain⟨V,hV⟩:∃ V,w3.alloc (.cells #[.int .u64 u,.int .u64 v] 26)=V:=⟨_,rfl⟩;go_wp2
   rw [hV] at Ad Ac by4 B4 bk1 bk2;clear hV Ab Aa b4 b3 b2 b1 bx bq KP KQ hlen1 hb1 hlen2 hb2 info hi hz0 hz1 hz2
   go_loopw [17] (fun iv wr=>∃ k:Nat,k<=L1/\iv=.int .i64 k/\Below V.heap.size V wr) (fun iv _=>L1-(intOf iv).toNat)
   case atStart=>exact⟨0,by omega,rfl,(Below.refl _ _)⟩
   case round=>
    obtain⟨k,hk,rfl,B21⟩:=hrel
    by_cases hlt:k<L1
    ·
     obtain⟨p,hp⟩:∃ p,l1[k]?=some p:=⟨_,List.getElem?_eq_getElem (by rw [HL1.out];exact hlt)⟩;obtain⟨a0,a1⟩:=HK1.out _ (zS bk1 B21) k p hp;obtain⟨q0,q1⟩:=HC1.out _ (zS B4 B21) k p hp;rw [Nat.zero_add] at a0 a1;have dl:decide ((k:Int)<(L1:Int))=true:=decide_eq_true (by omega);have hb0:(0:Int)<=(k:Int):=by omega
     have hb1:(k:Int)<(L1:Int):=by omega
     clear hp;go_wp2_with fail
     go_quiet (fail)
     obtain⟨w21,hw,B31,hh⟩:=yI B21 nq;rw [hw];go_wp2
     go_roundw
     case rel=>exact⟨k+1,by omega,by go_num,B31⟩
     case measure=>simp [intOf] <;> omega
    ·
     obtain rfl:k=L1:=by omega
     have dl:decide ((k:Int)<(k:Int))=false:=by rw [decide_eq_false_iff_not];omega
     go_wp2
     go_loopw [18] (fun iv wr=>∃ k:Nat,k<=L2/\iv=.int .i64 k/\Below V.heap.size V wr) (fun iv _=>L2-(intOf iv).toNat)
     case atStart=>exact⟨0,by omega,rfl,B21⟩
     case round=>
      obtain⟨k,hk,rfl,B22⟩:=hrel
      by_cases hlt:k<L2
      ·
       obtain⟨p,hp⟩:∃ p,l2[k]?=some p:=⟨_,List.getElem?_eq_getElem (by rw [HL2.out];exact hlt)⟩;obtain⟨a0,a1⟩:=HK2.out _ (zS bk2 B22) k p hp;obtain⟨q0,q1⟩:=HC2.out _ (zS B4 B22) k p hp;rw [Nat.zero_add] at a0 a1;have dl:decide ((k:Int)<(L2:Int))=true:=decide_eq_true (by omega);have hb0:(0:Int)<=(k:Int):=by omega
       have hb1:(k:Int)<(L2:Int):=by omega
       clear hp;go_wp2_with fail
       go_quiet (fail)
       obtain⟨w21,hw,B31,hh⟩:=yI B22 nq;rw [hw];go_wp2
       go_roundw
       case rel=>exact⟨k+1,by omega,by go_num,B31⟩
       case measure=>simp [intOf] <;> omega
      ·
       obtain rfl:k=L2:=by omega
       have dl:decide ((k:Int)<(k:Int))=false:=by rw [decide_eq_false_iff_not];omega
       obtain⟨x0,x1⟩:=zC (zA B22 _ _ _ Ad);obtain⟨y0,y1⟩:=zC (zA B22 _ _ _ Ac);go_wp2_with fail
       refine (KA.out _ (z7 FF.out (zS B4 B22))).mono ?_;rintro r w5 ⟨rfl,b5⟩;go_wp2
       go_ret
       exact⟨rfl,zS (zS B4 B22) b5⟩
theorem fd_NZ (f m:Int)(l1 l2:List (Nat×Nat))(L1 L2:Nat)(w:World)(g1 z1 c1:Nat)(hl1:l1.length=L1)(p1:1<=L1)(q1:L1<=40)(hc1:L1<=c1)
  (HC1:zW (∀ W,Below w.heap.size w W->∀ k p,l1[k]?=some p->W.cell? ⟨g1,z1+k*2,none⟩=some (.int .u64 (p.1:Nat))/\W.cell? ⟨g1,z1+k*2+1,none⟩=some (.int .u64 (p.2:Nat)))) (hl2:L2=0)
  (u v:Nat) (fl e:Int) (he:IntKind.i64.wrap e=e)
  (KP:zW (∀ (W:World) (s1 s2:Value),y6 W->SV l1 L1 s1 W->SV l2 L2 s2 W->Calls Tryz.prog 19 #[.int .u8 f,.int .u8 m,s1,s2] W fun r w'=>r=.returned (.tuple #[.agg #[.int .u64 u,.int .u64 v],.int .u8 fl,.int .i64 e])/\Below W.heap.size W w'))
  (KQ:zW (∀ (W:World) (s1 s2:Value),SV l1 L1 s1 W->SV l2 L2 s2 W->Calls Tryz.prog 20 #[.int .u8 f,.int .u8 m,s1,s2] W fun r w'=>r=.returned (.tuple #[.agg #[.int .u64 u,.int .u64 v],.int .u8 fl,.int .i64 e])/\Below W.heap.size W w'))
  (KA:xK 14 #[] (.bool true)) (hT:y6 w):Calls Tryz.prog 6 #[.int .u8 f,.int .u8 m,.slice (some ⟨g1,z1,none⟩) L1 c1,.slice none 0 0] w fun r w'=>r=.returned (.bool true)/\Below w.heap.size w w':=by
 have FF:=zJ hT;clear hT;have HL1:=zJ hl1;clear hl1;have d1:decide ((40:Int)<(L1:Int))=false:=decide_eq_false (by omega);have hlen1:=blsF_len l1;rw [HL1.out] at hlen1;have hb1:=fun j u (h:(l1.flatMap fun p=>[Value.int .u64 (p.1:Nat),Value.int .u64 (p.2:Nat)])[j]?=some u)=>blsF_cell l1 j u h;have HZ2:=zJ hl2;clear hl2;have info:(Tryz.prog.info? 26).map (fun i=>(i.zero,i.size,i.bytes))=some (some (.agg #[.int .u64 0,.int .u64 0]),2,16):=by kernel_rfl
 obtain⟨i0,hi,hz0,hz1,hz2⟩:=info_parts info
 go_enter Tryz.func6,Tryz.ntmps6
 go_wp2_with (at_builtin;refine wpList_append_grows _ rfl (.const (.slice none 0 0)) (.tmp 28) 39 rfl 26 i0 (.agg #[.int .u64 0,.int .u64 0]) 2 16 Tryz.underlying39 hi hz0 hz1 hz2 rfl (by decide) none 0 0 [] rfl (fun _=>⟨rfl,rfl⟩) rfl (by intro _ _ _ _ h;simp at h) ⟨g1,z1,none⟩ L1 c1 (l1.flatMap fun p=>[Value.int .u64 (p.1:Nat),Value.int .u64 (p.2:Nat)]) rfl hlen1 ?c1 ?c2 ?full ?b1 ?b2 ?grow)
 case c1=>
  intro j u hj;obtain⟨p,hp,rfl⟩:=hb1 j u hj;obtain⟨q0,q1⟩:=HC1.out w (Below.refl _ _) (j / 2) p hp;rw [show ({ block:=g1,off:=z1,spot:=none }:Addr).add j=⟨g1,z1+j,none⟩ by simp [Addr.add]]
  by_cases c0:j % 2=0
  ·
   rw [if_pos c0,show z1+j=z1+j / 2*2 by omega];exact q0
  ·
   rw [if_neg c0,show z1+j=z1+j / 2*2+1 by omega];exact q1
 case c2=>
  intro u hu;obtain⟨j,hj⟩:=List.mem_iff_getElem?.1 hu;obtain⟨p,hp,rfl⟩:=hb1 j u hj
  split <;> rfl
 case full=>omega
 case b1=>unfold maxLen;omega
 case b2=>omega
 case grow=>
  intro v' wg1 hown hgrow;obtain⟨_,⟨_,hn0⟩|⟨gk1,ck1,cur,rfl,hgk,rowk,hck1,_,hsz,htk⟩⟩:=hown
  ·
   omega
  have bi1:Below w.heap.size w wg1:=(Below.refl _ _).grown hgrow (Nat.le_refl _) (fun k h=>by cases h);have bg1:=zS (Below.refl _ _) bi1;have HK1:=jB HL1.out rowk htk;clear hgrow hsz htk rowk hgk;go_wp2_with fail
  refine (KP.out wg1 _ _ (z7 FF.out bg1) (Or.inr ⟨gk1,0,ck1,p1,hck1,rfl,fun V bV=>HK1.out V bV⟩) (Or.inl ⟨_,_,HZ2.out,rfl⟩)).mono ?_;rintro r w1 ⟨rfl,b1⟩;have b2:=yK w1 (.cells #[.int .u64 u,.int .u64 v] 26);have Aa:=heap_alloc_last w1 (.cells #[.int .u64 u,.int .u64 v] 26);have bx:=zS b1 b2;have bq:=zS bg1 bx;go_wp2_with fail
  refine (KQ.out _ _ _ (Or.inr ⟨g1,z1,c1,p1,hc1,rfl,fun V bV=>HC1.out V (zS bq bV)⟩) (Or.inl ⟨_,_,HZ2.out,rfl⟩)).mono ?_;rintro r w3 ⟨rfl,b3⟩;have Ab:=zA b3 _ _ _ Aa;have b4:=yK w3 (.cells #[.int .u64 u,.int .u64 v] 26);have Ac:=heap_alloc_last w3 (.cells #[.int .u64 u,.int .u64 v] 26);have Ad:=zA b4 _ _ _ Ab;have by4:=zS bx (zS b3 b4);have B4:=zS bg1 by4;have bk1:=by4;obtain⟨V,hV⟩:∃ V,w3.alloc (.cells #[.int .u64 u,.int .u64 v] 26)=V:=⟨_,rfl⟩;go_wp2
  rw [hV] at Ad Ac by4 B4 bk1;clear hV Ab Aa b4 b3 b2 b1 bx bq KP KQ hlen1 hb1 info hi hz0 hz1 hz2
  go_loopw [17] (fun iv wr=>∃ k:Nat,k<=L1/\iv=.int .i64 k/\Below V.heap.size V wr) (fun iv _=>L1-(intOf iv).toNat)
  case atStart=>exact⟨0,by omega,rfl,(Below.refl _ _)⟩
  case round=>
   obtain⟨k,hk,rfl,B21⟩:=hrel
   by_cases hlt:k<L1
   ·
    obtain⟨p,hp⟩:∃ p,l1[k]?=some p:=⟨_,List.getElem?_eq_getElem (by rw [HL1.out];exact hlt)⟩;obtain⟨a0,a1⟩:=HK1.out _ (zS bk1 B21) k p hp;obtain⟨q0,q1⟩:=HC1.out _ (zS B4 B21) k p hp;rw [Nat.zero_add] at a0 a1;have dl:decide ((k:Int)<(L1:Int))=true:=decide_eq_true (by omega);have hb0:(0:Int)<=(k:Int):=by omega
    have hb1:(k:Int)<(L1:Int):=by omega
    clear hp;go_wp2_with fail
    go_quiet (fail)
    obtain⟨w21,hw,B31,hh⟩:=yI B21 nq;rw [hw];go_wp2
    go_roundw
    case rel=>exact⟨k+1,by omega,by go_num,B31⟩
    case measure=>simp [intOf] <;> omega
   ·
    obtain rfl:k=L1:=by omega
    have dl:decide ((k:Int)<(k:Int))=false:=by rw [decide_eq_false_iff_not];omega
    go_wp2
    go_loopw [18] (fun iv wr=>iv=.int .i64 0/\Below V.heap.size V wr) (fun _ _=>0)
    case atStart=>exact⟨rfl,B21⟩
    case round=>
     obtain⟨rfl,B22⟩:=hrel;obtain⟨x0,x1⟩:=zC (zA B22 _ _ _ Ad);obtain⟨y0,y1⟩:=zC (zA B22 _ _ _ Ac);go_wp2_with fail
     refine (KA.out _ (z7 FF.out (zS B4 B22))).mono ?_;rintro r w5 ⟨rfl,b5⟩;go_wp2
     go_ret
     exact⟨rfl,zS (zS B4 B22) b5⟩
theorem fd_NS (f m:Int)(l1 l2:List (Nat×Nat))(L1 L2:Nat)(w:World)(g1 z1 c1:Nat)(hl1:l1.length=L1)(p1:1<=L1)(q1:L1<=40)(hc1:L1<=c1)
  (HC1:zW (∀ W,Below w.heap.size w W->∀ k p,l1[k]?=some p->W.cell? ⟨g1,z1+k*2,none⟩=some (.int .u64 (p.1:Nat))/\W.cell? ⟨g1,z1+k*2+1,none⟩=some (.int .u64 (p.2:Nat)))) (o2:Addr) (c2:Nat) (hl2:L2=0)
  (u v:Nat) (fl e:Int) (he:IntKind.i64.wrap e=e)
  (KP:zW (∀ (W:World) (s1 s2:Value),y6 W->SV l1 L1 s1 W->SV l2 L2 s2 W->Calls Tryz.prog 19 #[.int .u8 f,.int .u8 m,s1,s2] W fun r w'=>r=.returned (.tuple #[.agg #[.int .u64 u,.int .u64 v],.int .u8 fl,.int .i64 e])/\Below W.heap.size W w'))
  (KQ:zW (∀ (W:World) (s1 s2:Value),SV l1 L1 s1 W->SV l2 L2 s2 W->Calls Tryz.prog 20 #[.int .u8 f,.int .u8 m,s1,s2] W fun r w'=>r=.returned (.tuple #[.agg #[.int .u64 u,.int .u64 v],.int .u8 fl,.int .i64 e])/\Below W.heap.size W w'))
  (KA:xK 14 #[] (.bool true)) (hT:y6 w):Calls Tryz.prog 6 #[.int .u8 f,.int .u8 m,.slice (some ⟨g1,z1,none⟩) L1 c1,.slice (some o2) 0 c2] w fun r w'=>r=.returned (.bool true)/\Below w.heap.size w w':=by
 have FF:=zJ hT;clear hT;have HL1:=zJ hl1;clear hl1;have d1:decide ((40:Int)<(L1:Int))=false:=decide_eq_false (by omega);have hlen1:=blsF_len l1;rw [HL1.out] at hlen1;have hb1:=fun j u (h:(l1.flatMap fun p=>[Value.int .u64 (p.1:Nat),Value.int .u64 (p.2:Nat)])[j]?=some u)=>blsF_cell l1 j u h;have HZ2:=zJ hl2;clear hl2;have info:(Tryz.prog.info? 26).map (fun i=>(i.zero,i.size,i.bytes))=some (some (.agg #[.int .u64 0,.int .u64 0]),2,16):=by kernel_rfl
 obtain⟨i0,hi,hz0,hz1,hz2⟩:=info_parts info
 go_enter Tryz.func6,Tryz.ntmps6
 go_wp2_with (at_builtin;refine wpList_append_grows _ rfl (.const (.slice none 0 0)) (.tmp 28) 39 rfl 26 i0 (.agg #[.int .u64 0,.int .u64 0]) 2 16 Tryz.underlying39 hi hz0 hz1 hz2 rfl (by decide) none 0 0 [] rfl (fun _=>⟨rfl,rfl⟩) rfl (by intro _ _ _ _ h;simp at h) ⟨g1,z1,none⟩ L1 c1 (l1.flatMap fun p=>[Value.int .u64 (p.1:Nat),Value.int .u64 (p.2:Nat)]) rfl hlen1 ?c1 ?c2 ?full ?b1 ?b2 ?grow)
 case c1=>
  intro j u hj;obtain⟨p,hp,rfl⟩:=hb1 j u hj;obtain⟨q0,q1⟩:=HC1.out w (Below.refl _ _) (j / 2) p hp;rw [show ({ block:=g1,off:=z1,spot:=none }:Addr).add j=⟨g1,z1+j,none⟩ by simp [Addr.add]]
  by_cases c0:j % 2=0
  ·
   rw [if_pos c0,show z1+j=z1+j / 2*2 by omega];exact q0
  ·
   rw [if_neg c0,show z1+j=z1+j / 2*2+1 by omega];exact q1
 case c2=>
  intro u hu;obtain⟨j,hj⟩:=List.mem_iff_getElem?.1 hu;obtain⟨p,hp,rfl⟩:=hb1 j u hj
  split <;> rfl
 case full=>omega
 case b1=>unfold maxLen;omega
 case b2=>omega
 case grow=>
  intro v' wg1 hown hgrow;obtain⟨_,⟨_,hn0⟩|⟨gk1,ck1,cur,rfl,hgk,rowk,hck1,_,hsz,htk⟩⟩:=hown
  ·
   omega
  have bi1:Below w.heap.size w wg1:=(Below.refl _ _).grown hgrow (Nat.le_refl _) (fun k h=>by cases h);have bg1:=zS (Below.refl _ _) bi1;have HK1:=jB HL1.out rowk htk;clear hgrow hsz htk rowk hgk;go_wp2_with fail
  refine (KP.out wg1 _ _ (z7 FF.out bg1) (Or.inr ⟨gk1,0,ck1,p1,hck1,rfl,fun V bV=>HK1.out V bV⟩) (Or.inl ⟨_,_,HZ2.out,rfl⟩)).mono ?_;rintro r w1 ⟨rfl,b1⟩;have b2:=yK w1 (.cells #[.int .u64 u,.int .u64 v] 26);have Aa:=heap_alloc_last w1 (.cells #[.int .u64 u,.int .u64 v] 26);have bx:=zS b1 b2;have bq:=zS bg1 bx;go_wp2_with fail
  refine (KQ.out _ _ _ (Or.inr ⟨g1,z1,c1,p1,hc1,rfl,fun V bV=>HC1.out V (zS bq bV)⟩) (Or.inl ⟨_,_,HZ2.out,rfl⟩)).mono ?_;rintro r w3 ⟨rfl,b3⟩;have Ab:=zA b3 _ _ _ Aa;have b4:=yK w3 (.cells #[.int .u64 u,.int .u64 v] 26);have Ac:=heap_alloc_last w3 (.cells #[.int .u64 u,.int .u64 v] 26);have Ad:=zA b4 _ _ _ Ab;have by4:=zS bx (zS b3 b4);have B4:=zS bg1 by4;have bk1:=by4;obtain⟨V,hV⟩:∃ V,w3.alloc (.cells #[.int .u64 u,.int .u64 v] 26)=V:=⟨_,rfl⟩;go_wp2
  rw [hV] at Ad Ac by4 B4 bk1;clear hV Ab Aa b4 b3 b2 b1 bx bq KP KQ hlen1 hb1 info hi hz0 hz1 hz2
  go_loopw [17] (fun iv wr=>∃ k:Nat,k<=L1/\iv=.int .i64 k/\Below V.heap.size V wr) (fun iv _=>L1-(intOf iv).toNat)
  case atStart=>exact⟨0,by omega,rfl,(Below.refl _ _)⟩
  case round=>
   obtain⟨k,hk,rfl,B21⟩:=hrel
   by_cases hlt:k<L1
   ·
    obtain⟨p,hp⟩:∃ p,l1[k]?=some p:=⟨_,List.getElem?_eq_getElem (by rw [HL1.out];exact hlt)⟩;obtain⟨a0,a1⟩:=HK1.out _ (zS bk1 B21) k p hp;obtain⟨q0,q1⟩:=HC1.out _ (zS B4 B21) k p hp;rw [Nat.zero_add] at a0 a1;have dl:decide ((k:Int)<(L1:Int))=true:=decide_eq_true (by omega);have hb0:(0:Int)<=(k:Int):=by omega
    have hb1:(k:Int)<(L1:Int):=by omega
    clear hp;go_wp2_with fail
    go_quiet (fail)
    obtain⟨w21,hw,B31,hh⟩:=yI B21 nq;rw [hw];go_wp2
    go_roundw
    case rel=>exact⟨k+1,by omega,by go_num,B31⟩
    case measure=>simp [intOf] <;> omega
   ·
    obtain rfl:k=L1:=by omega
    have dl:decide ((k:Int)<(k:Int))=false:=by rw [decide_eq_false_iff_not];omega
    go_wp2
    go_loopw [18] (fun iv wr=>iv=.int .i64 0/\Below V.heap.size V wr) (fun _ _=>0)
    case atStart=>exact⟨rfl,B21⟩
    case round=>
     obtain⟨rfl,B22⟩:=hrel;obtain⟨x0,x1⟩:=zC (zA B22 _ _ _ Ad);obtain⟨y0,y1⟩:=zC (zA B22 _ _ _ Ac);go_wp2_with fail
     refine (KA.out _ (z7 FF.out (zS B4 B22))).mono ?_;rintro r w5 ⟨rfl,b5⟩;go_wp2
     go_ret
     exact⟨rfl,zS (zS B4 B22) b5⟩
theorem fd_ZN (f m:Int)(l1 l2:List (Nat×Nat))(L1 L2:Nat)(w:World)(hl1:L1=0)(g2 z2 c2:Nat)(hl2:l2.length=L2)(p2:1<=L2)(q2:L2<=40)(hc2:L2<=c2)
  (HC2:zW (∀ W,Below w.heap.size w W->∀ k p,l2[k]?=some p->W.cell? ⟨g2,z2+k*2,none⟩=some (.int .u64 (p.1:Nat))/\W.cell? ⟨g2,z2+k*2+1,none⟩=some (.int .u64 (p.2:Nat))))
  (u v:Nat) (fl e:Int) (he:IntKind.i64.wrap e=e)
  (KP:zW (∀ (W:World) (s1 s2:Value),y6 W->SV l1 L1 s1 W->SV l2 L2 s2 W->Calls Tryz.prog 19 #[.int .u8 f,.int .u8 m,s1,s2] W fun r w'=>r=.returned (.tuple #[.agg #[.int .u64 u,.int .u64 v],.int .u8 fl,.int .i64 e])/\Below W.heap.size W w'))
  (KQ:zW (∀ (W:World) (s1 s2:Value),SV l1 L1 s1 W->SV l2 L2 s2 W->Calls Tryz.prog 20 #[.int .u8 f,.int .u8 m,s1,s2] W fun r w'=>r=.returned (.tuple #[.agg #[.int .u64 u,.int .u64 v],.int .u8 fl,.int .i64 e])/\Below W.heap.size W w'))
  (KA:xK 14 #[] (.bool true)) (hT:y6 w):Calls Tryz.prog 6 #[.int .u8 f,.int .u8 m,.slice none 0 0,.slice (some ⟨g2,z2,none⟩) L2 c2] w fun r w'=>r=.returned (.bool true)/\Below w.heap.size w w':=by
 have FF:=zJ hT;clear hT;have HZ1:=zJ hl1;clear hl1;have HL2:=zJ hl2;clear hl2;have d2:decide ((40:Int)<(L2:Int))=false:=decide_eq_false (by omega);have hlen2:=blsF_len l2;rw [HL2.out] at hlen2;have hb2:=fun j u (h:(l2.flatMap fun p=>[Value.int .u64 (p.1:Nat),Value.int .u64 (p.2:Nat)])[j]?=some u)=>blsF_cell l2 j u h;have info:(Tryz.prog.info? 26).map (fun i=>(i.zero,i.size,i.bytes))=some (some (.agg #[.int .u64 0,.int .u64 0]),2,16):=by kernel_rfl
 obtain⟨i0,hi,hz0,hz1,hz2⟩:=info_parts info
 go_enter Tryz.func6,Tryz.ntmps6
 go_wp2_with (at_builtin;refine wpList_append_grows _ rfl (.const (.slice none 0 0)) (.tmp 30) 39 rfl 26 i0 (.agg #[.int .u64 0,.int .u64 0]) 2 16 Tryz.underlying39 hi hz0 hz1 hz2 rfl (by decide) none 0 0 [] rfl (fun _=>⟨rfl,rfl⟩) rfl (by intro _ _ _ _ h;simp at h) ⟨g2,z2,none⟩ L2 c2 (l2.flatMap fun p=>[Value.int .u64 (p.1:Nat),Value.int .u64 (p.2:Nat)]) rfl hlen2 ?c1 ?c2 ?full ?b1 ?b2 ?grow)
 case c1=>
  intro j u hj;obtain⟨p,hp,rfl⟩:=hb2 j u hj;obtain⟨q0,q1⟩:=HC2.out w (Below.refl _ _) (j / 2) p hp;rw [show ({ block:=g2,off:=z2,spot:=none }:Addr).add j=⟨g2,z2+j,none⟩ by simp [Addr.add]]
  by_cases c0:j % 2=0
  ·
   rw [if_pos c0,show z2+j=z2+j / 2*2 by omega];exact q0
  ·
   rw [if_neg c0,show z2+j=z2+j / 2*2+1 by omega];exact q1
 case c2=>
  intro u hu;obtain⟨j,hj⟩:=List.mem_iff_getElem?.1 hu;obtain⟨p,hp,rfl⟩:=hb2 j u hj
  split <;> rfl
 case full=>omega
 case b1=>unfold maxLen;omega
 case b2=>omega
 case grow=>
  intro v' wg2 hown hgrow;obtain⟨_,⟨_,hn0⟩|⟨gk2,ck2,cur,rfl,hgk,rowk,hck2,_,hsz,htk⟩⟩:=hown
  ·
   omega
  have bi2:Below w.heap.size w wg2:=(Below.refl _ _).grown hgrow (Nat.le_refl _) (fun k h=>by cases h);have bg2:=zS (Below.refl _ _) bi2;have HK2:=jB HL2.out rowk htk;clear hgrow hsz htk rowk hgk;go_wp2_with fail
  refine (KP.out wg2 _ _ (z7 FF.out bg2) (Or.inl ⟨_,_,HZ1.out,rfl⟩) (Or.inr ⟨gk2,0,ck2,p2,hck2,rfl,fun V bV=>HK2.out V bV⟩)).mono ?_;rintro r w1 ⟨rfl,b1⟩;have b2:=yK w1 (.cells #[.int .u64 u,.int .u64 v] 26);have Aa:=heap_alloc_last w1 (.cells #[.int .u64 u,.int .u64 v] 26);have bx:=zS b1 b2;have bq:=zS bg2 bx;go_wp2_with fail
  refine (KQ.out _ _ _ (Or.inl ⟨_,_,HZ1.out,rfl⟩) (Or.inr ⟨g2,z2,c2,p2,hc2,rfl,fun V bV=>HC2.out V (zS bq bV)⟩)).mono ?_;rintro r w3 ⟨rfl,b3⟩;have Ab:=zA b3 _ _ _ Aa;have b4:=yK w3 (.cells #[.int .u64 u,.int .u64 v] 26);have Ac:=heap_alloc_last w3 (.cells #[.int .u64 u,.int .u64 v] 26);have Ad:=zA b4 _ _ _ Ab;have by4:=zS bx (zS b3 b4);have B4:=zS bg2 by4;have bk2:=by4;obtain⟨V,hV⟩:∃ V,w3.alloc (.cells #[.int .u64 u,.int .u64 v] 26)=V:=⟨_,rfl⟩;go_wp2
  rw [hV] at Ad Ac by4 B4 bk2;clear hV Ab Aa b4 b3 b2 b1 bx bq KP KQ hlen2 hb2 info hi hz0 hz1 hz2
  go_loopw [17] (fun iv wr=>iv=.int .i64 0/\Below V.heap.size V wr) (fun _ _=>0)
  case atStart=>exact⟨rfl,(Below.refl _ _)⟩
  case round=>
   obtain⟨rfl,B21⟩:=hrel;go_wp2
   go_loopw [18] (fun iv wr=>∃ k:Nat,k<=L2/\iv=.int .i64 k/\Below V.heap.size V wr) (fun iv _=>L2-(intOf iv).toNat)
   case atStart=>exact⟨0,by omega,rfl,B21⟩
   case round=>
    obtain⟨k,hk,rfl,B22⟩:=hrel
    by_cases hlt:k<L2
    ·
     obtain⟨p,hp⟩:∃ p,l2[k]?=some p:=⟨_,List.getElem?_eq_getElem (by rw [HL2.out];exact hlt)⟩;obtain⟨a0,a1⟩:=HK2.out _ (zS bk2 B22) k p hp;obtain⟨q0,q1⟩:=HC2.out _ (zS B4 B22) k p hp;rw [Nat.zero_add] at a0 a1;have dl:decide ((k:Int)<(L2:Int))=true:=decide_eq_true (by omega);have hb0:(0:Int)<=(k:Int):=by omega
     have hb1:(k:Int)<(L2:Int):=by omega
     clear hp;go_wp2_with fail
     go_quiet (fail)
     obtain⟨w21,hw,B31,hh⟩:=yI B22 nq;rw [hw];go_wp2
     go_roundw
     case rel=>exact⟨k+1,by omega,by go_num,B31⟩
     case measure=>simp [intOf] <;> omega
    ·
     obtain rfl:k=L2:=by omega
     have dl:decide ((k:Int)<(k:Int))=false:=by rw [decide_eq_false_iff_not];omega
     obtain⟨x0,x1⟩:=zC (zA B22 _ _ _ Ad);obtain⟨y0,y1⟩:=zC (zA B22 _ _ _ Ac);go_wp2_with fail
     refine (KA.out _ (z7 FF.out (zS B4 B22))).mono ?_;rintro r w5 ⟨rfl,b5⟩;go_wp2
     go_ret
     exact⟨rfl,zS (zS B4 B22) b5⟩
theorem fd_ZZ (f m:Int)(l1 l2:List (Nat×Nat))(L1 L2:Nat)(w:World)(hl1:L1=0)(hl2:L2=0)
  (u v:Nat) (fl e:Int) (he:IntKind.i64.wrap e=e)
  (KP:zW (∀ (W:World) (s1 s2:Value),y6 W->SV l1 L1 s1 W->SV l2 L2 s2 W->Calls Tryz.prog 19 #[.int .u8 f,.int .u8 m,s1,s2] W fun r w'=>r=.returned (.tuple #[.agg #[.int .u64 u,.int .u64 v],.int .u8 fl,.int .i64 e])/\Below W.heap.size W w'))
  (KQ:zW (∀ (W:World) (s1 s2:Value),SV l1 L1 s1 W->SV l2 L2 s2 W->Calls Tryz.prog 20 #[.int .u8 f,.int .u8 m,s1,s2] W fun r w'=>r=.returned (.tuple #[.agg #[.int .u64 u,.int .u64 v],.int .u8 fl,.int .i64 e])/\Below W.heap.size W w'))
  (KA:xK 14 #[] (.bool true)) (hT:y6 w):Calls Tryz.prog 6 #[.int .u8 f,.int .u8 m,.slice none 0 0,.slice none 0 0] w fun r w'=>r=.returned (.bool true)/\Below w.heap.size w w':=by
 have FF:=zJ hT;clear hT;have HZ1:=zJ hl1;clear hl1;have HZ2:=zJ hl2;clear hl2
 go_enter Tryz.func6,Tryz.ntmps6
 go_wp2_with fail
 refine (KP.out w _ _ (z7 FF.out (Below.refl _ _)) (Or.inl ⟨_,_,HZ1.out,rfl⟩) (Or.inl ⟨_,_,HZ2.out,rfl⟩)).mono ?_;rintro r w1 ⟨rfl,b1⟩;have b2:=yK w1 (.cells #[.int .u64 u,.int .u64 v] 26);have Aa:=heap_alloc_last w1 (.cells #[.int .u64 u,.int .u64 v] 26);have bx:=zS b1 b2;have bq:=zS (Below.refl _ _) bx;go_wp2_with fail
 refine (KQ.out _ _ _ (Or.inl ⟨_,_,HZ1.out,rfl⟩) (Or.inl ⟨_,_,HZ2.out,rfl⟩)).mono ?_;rintro r w3 ⟨rfl,b3⟩;have Ab:=zA b3 _ _ _ Aa;have b4:=yK w3 (.cells #[.int .u64 u,.int .u64 v] 26);have Ac:=heap_alloc_last w3 (.cells #[.int .u64 u,.int .u64 v] 26);have Ad:=zA b4 _ _ _ Ab;have by4:=zS bx (zS b3 b4);have B4:=zS (Below.refl _ _) by4;obtain⟨V,hV⟩:∃ V,w3.alloc (.cells #[.int .u64 u,.int .u64 v] 26)=V:=⟨_,rfl⟩;go_wp2
 rw [hV] at Ad Ac by4 B4;clear hV Ab Aa b4 b3 b2 b1 bx bq KP KQ
 go_loopw [17] (fun iv wr=>iv=.int .i64 0/\Below V.heap.size V wr) (fun _ _=>0)
 case atStart=>exact⟨rfl,(Below.refl _ _)⟩
 case round=>
  obtain⟨rfl,B21⟩:=hrel;go_wp2
  go_loopw [18] (fun iv wr=>iv=.int .i64 0/\Below V.heap.size V wr) (fun _ _=>0)
  case atStart=>exact⟨rfl,B21⟩
  case round=>
   obtain⟨rfl,B22⟩:=hrel;obtain⟨x0,x1⟩:=zC (zA B22 _ _ _ Ad);obtain⟨y0,y1⟩:=zC (zA B22 _ _ _ Ac);go_wp2_with fail
   refine (KA.out _ (z7 FF.out (zS B4 B22))).mono ?_;rintro r w5 ⟨rfl,b5⟩;go_wp2
   go_ret
   exact⟨rfl,zS (zS B4 B22) b5⟩
theorem fd_ZS (f m:Int)(l1 l2:List (Nat×Nat))(L1 L2:Nat)(w:World)(hl1:L1=0)(o2:Addr)(c2:Nat)(hl2:L2=0)
  (u v:Nat) (fl e:Int) (he:IntKind.i64.wrap e=e)
  (KP:zW (∀ (W:World) (s1 s2:Value),y6 W->SV l1 L1 s1 W->SV l2 L2 s2 W->Calls Tryz.prog 19 #[.int .u8 f,.int .u8 m,s1,s2] W fun r w'=>r=.returned (.tuple #[.agg #[.int .u64 u,.int .u64 v],.int .u8 fl,.int .i64 e])/\Below W.heap.size W w'))
  (KQ:zW (∀ (W:World) (s1 s2:Value),SV l1 L1 s1 W->SV l2 L2 s2 W->Calls Tryz.prog 20 #[.int .u8 f,.int .u8 m,s1,s2] W fun r w'=>r=.returned (.tuple #[.agg #[.int .u64 u,.int .u64 v],.int .u8 fl,.int .i64 e])/\Below W.heap.size W w'))
  (KA:xK 14 #[] (.bool true)) (hT:y6 w):Calls Tryz.prog 6 #[.int .u8 f,.int .u8 m,.slice none 0 0,.slice (some o2) 0 c2] w fun r w'=>r=.returned (.bool true)/\Below w.heap.size w w':=by
 have FF:=zJ hT;clear hT;have HZ1:=zJ hl1;clear hl1;have HZ2:=zJ hl2;clear hl2
 go_enter Tryz.func6,Tryz.ntmps6
 go_wp2_with fail
 refine (KP.out w _ _ (z7 FF.out (Below.refl _ _)) (Or.inl ⟨_,_,HZ1.out,rfl⟩) (Or.inl ⟨_,_,HZ2.out,rfl⟩)).mono ?_;rintro r w1 ⟨rfl,b1⟩;have b2:=yK w1 (.cells #[.int .u64 u,.int .u64 v] 26);have Aa:=heap_alloc_last w1 (.cells #[.int .u64 u,.int .u64 v] 26);have bx:=zS b1 b2;have bq:=zS (Below.refl _ _) bx;go_wp2_with fail
 refine (KQ.out _ _ _ (Or.inl ⟨_,_,HZ1.out,rfl⟩) (Or.inl ⟨_,_,HZ2.out,rfl⟩)).mono ?_;rintro r w3 ⟨rfl,b3⟩;have Ab:=zA b3 _ _ _ Aa;have b4:=yK w3 (.cells #[.int .u64 u,.int .u64 v] 26);have Ac:=heap_alloc_last w3 (.cells #[.int .u64 u,.int .u64 v] 26);have Ad:=zA b4 _ _ _ Ab;have by4:=zS bx (zS b3 b4);have B4:=zS (Below.refl _ _) by4;obtain⟨V,hV⟩:∃ V,w3.alloc (.cells #[.int .u64 u,.int .u64 v] 26)=V:=⟨_,rfl⟩;go_wp2
 rw [hV] at Ad Ac by4 B4;clear hV Ab Aa b4 b3 b2 b1 bx bq KP KQ
 go_loopw [17] (fun iv wr=>iv=.int .i64 0/\Below V.heap.size V wr) (fun _ _=>0)
 case atStart=>exact⟨rfl,(Below.refl _ _)⟩
 case round=>
  obtain⟨rfl,B21⟩:=hrel;go_wp2
  go_loopw [18] (fun iv wr=>iv=.int .i64 0/\Below V.heap.size V wr) (fun _ _=>0)
  case atStart=>exact⟨rfl,B21⟩
  case round=>
   obtain⟨rfl,B22⟩:=hrel;obtain⟨x0,x1⟩:=zC (zA B22 _ _ _ Ad);obtain⟨y0,y1⟩:=zC (zA B22 _ _ _ Ac);go_wp2_with fail
   refine (KA.out _ (z7 FF.out (zS B4 B22))).mono ?_;rintro r w5 ⟨rfl,b5⟩;go_wp2
   go_ret
   exact⟨rfl,zS (zS B4 B22) b5⟩
theorem fd_SN (f m:Int)(l1 l2:List (Nat×Nat))(L1 L2:Nat)(w:World)(o1:Addr)(c1:Nat)(hl1:L1=0)(g2 z2 c2:Nat)(hl2:l2.length=L2)(p2:1<=L2)(q2:L2<=40)(hc2:L2<=c2)
  (HC2:zW (∀ W,Below w.heap.size w W->∀ k p,l2[k]?=some p->W.cell? ⟨g2,z2+k*2,none⟩=some (.int .u64 (p.1:Nat))/\W.cell? ⟨g2,z2+k*2+1,none⟩=some (.int .u64 (p.2:Nat))))
  (u v:Nat) (fl e:Int) (he:IntKind.i64.wrap e=e)
  (KP:zW (∀ (W:World) (s1 s2:Value),y6 W->SV l1 L1 s1 W->SV l2 L2 s2 W->Calls Tryz.prog 19 #[.int .u8 f,.int .u8 m,s1,s2] W fun r w'=>r=.returned (.tuple #[.agg #[.int .u64 u,.int .u64 v],.int .u8 fl,.int .i64 e])/\Below W.heap.size W w'))
  (KQ:zW (∀ (W:World) (s1 s2:Value),SV l1 L1 s1 W->SV l2 L2 s2 W->Calls Tryz.prog 20 #[.int .u8 f,.int .u8 m,s1,s2] W fun r w'=>r=.returned (.tuple #[.agg #[.int .u64 u,.int .u64 v],.int .u8 fl,.int .i64 e])/\Below W.heap.size W w'))
  (KA:xK 14 #[] (.bool true)) (hT:y6 w):Calls Tryz.prog 6 #[.int .u8 f,.int .u8 m,.slice (some o1) 0 c1,.slice (some ⟨g2,z2,none⟩) L2 c2] w fun r w'=>r=.returned (.bool true)/\Below w.heap.size w w':=by
 have FF:=zJ hT;clear hT;have HZ1:=zJ hl1;clear hl1;have HL2:=zJ hl2;clear hl2;have d2:decide ((40:Int)<(L2:Int))=false:=decide_eq_false (by omega);have hlen2:=blsF_len l2;rw [HL2.out] at hlen2;have hb2:=fun j u (h:(l2.flatMap fun p=>[Value.int .u64 (p.1:Nat),Value.int .u64 (p.2:Nat)])[j]?=some u)=>blsF_cell l2 j u h;have info:(Tryz.prog.info? 26).map (fun i=>(i.zero,i.size,i.bytes))=some (some (.agg #[.int .u64 0,.int .u64 0]),2,16):=by kernel_rfl
 obtain⟨i0,hi,hz0,hz1,hz2⟩:=info_parts info
 go_enter Tryz.func6,Tryz.ntmps6
 go_wp2_with (at_builtin;refine wpList_append_grows _ rfl (.const (.slice none 0 0)) (.tmp 30) 39 rfl 26 i0 (.agg #[.int .u64 0,.int .u64 0]) 2 16 Tryz.underlying39 hi hz0 hz1 hz2 rfl (by decide) none 0 0 [] rfl (fun _=>⟨rfl,rfl⟩) rfl (by intro _ _ _ _ h;simp at h) ⟨g2,z2,none⟩ L2 c2 (l2.flatMap fun p=>[Value.int .u64 (p.1:Nat),Value.int .u64 (p.2:Nat)]) rfl hlen2 ?c1 ?c2 ?full ?b1 ?b2 ?grow)
 case c1=>
  intro j u hj;obtain⟨p,hp,rfl⟩:=hb2 j u hj;obtain⟨q0,q1⟩:=HC2.out w (Below.refl _ _) (j / 2) p hp;rw [show ({ block:=g2,off:=z2,spot:=none }:Addr).add j=⟨g2,z2+j,none⟩ by simp [Addr.add]]
  by_cases c0:j % 2=0
  ·
   rw [if_pos c0,show z2+j=z2+j / 2*2 by omega];exact q0
  ·
   rw [if_neg c0,show z2+j=z2+j / 2*2+1 by omega];exact q1
 case c2=>
  intro u hu;obtain⟨j,hj⟩:=List.mem_iff_getElem?.1 hu;obtain⟨p,hp,rfl⟩:=hb2 j u hj
  split <;> rfl
 case full=>omega
 case b1=>unfold maxLen;omega
 case b2=>omega
 case grow=>
  intro v' wg2 hown hgrow;obtain⟨_,⟨_,hn0⟩|⟨gk2,ck2,cur,rfl,hgk,rowk,hck2,_,hsz,htk⟩⟩:=hown
  ·
   omega
  have bi2:Below w.heap.size w wg2:=(Below.refl _ _).grown hgrow (Nat.le_refl _) (fun k h=>by cases h);have bg2:=zS (Below.refl _ _) bi2;have HK2:=jB HL2.out rowk htk;clear hgrow hsz htk rowk hgk;go_wp2_with fail
  refine (KP.out wg2 _ _ (z7 FF.out bg2) (Or.inl ⟨_,_,HZ1.out,rfl⟩) (Or.inr ⟨gk2,0,ck2,p2,hck2,rfl,fun V bV=>HK2.out V bV⟩)).mono ?_;rintro r w1 ⟨rfl,b1⟩;have b2:=yK w1 (.cells #[.int .u64 u,.int .u64 v] 26);have Aa:=heap_alloc_last w1 (.cells #[.int .u64 u,.int .u64 v] 26);have bx:=zS b1 b2;have bq:=zS bg2 bx;go_wp2_with fail
  refine (KQ.out _ _ _ (Or.inl ⟨_,_,HZ1.out,rfl⟩) (Or.inr ⟨g2,z2,c2,p2,hc2,rfl,fun V bV=>HC2.out V (zS bq bV)⟩)).mono ?_;rintro r w3 ⟨rfl,b3⟩;have Ab:=zA b3 _ _ _ Aa;have b4:=yK w3 (.cells #[.int .u64 u,.int .u64 v] 26);have Ac:=heap_alloc_last w3 (.cells #[.int .u64 u,.int .u64 v] 26);have Ad:=zA b4 _ _ _ Ab;have by4:=zS bx (zS b3 b4);have B4:=zS bg2 by4;have bk2:=by4;obtain⟨V,hV⟩:∃ V,w3.alloc (.cells #[.int .u64 u,.int .u64 v] 26)=V:=⟨_,rfl⟩;go_wp2
  rw [hV] at Ad Ac by4 B4 bk2;clear hV Ab Aa b4 b3 b2 b1 bx bq KP KQ hlen2 hb2 info hi hz0 hz1 hz2
  go_loopw [17] (fun iv wr=>iv=.int .i64 0/\Below V.heap.size V wr) (fun _ _=>0)
  case atStart=>exact⟨rfl,(Below.refl _ _)⟩
  case round=>
   obtain⟨rfl,B21⟩:=hrel;go_wp2
   go_loopw [18] (fun iv wr=>∃ k:Nat,k<=L2/\iv=.int .i64 k/\Below V.heap.size V wr) (fun iv _=>L2-(intOf iv).toNat)
   case atStart=>exact⟨0,by omega,rfl,B21⟩
   case round=>
    obtain⟨k,hk,rfl,B22⟩:=hrel
    by_cases hlt:k<L2
    ·
     obtain⟨p,hp⟩:∃ p,l2[k]?=some p:=⟨_,List.getElem?_eq_getElem (by rw [HL2.out];exact hlt)⟩;obtain⟨a0,a1⟩:=HK2.out _ (zS bk2 B22) k p hp;obtain⟨q0,q1⟩:=HC2.out _ (zS B4 B22) k p hp;rw [Nat.zero_add] at a0 a1;have dl:decide ((k:Int)<(L2:Int))=true:=decide_eq_true (by omega);have hb0:(0:Int)<=(k:Int):=by omega
     have hb1:(k:Int)<(L2:Int):=by omega
     clear hp;go_wp2_with fail
     go_quiet (fail)
     obtain⟨w21,hw,B31,hh⟩:=yI B22 nq;rw [hw];go_wp2
     go_roundw
     case rel=>exact⟨k+1,by omega,by go_num,B31⟩
     case measure=>simp [intOf] <;> omega
    ·
     obtain rfl:k=L2:=by omega
     have dl:decide ((k:Int)<(k:Int))=false:=by rw [decide_eq_false_iff_not];omega
     obtain⟨x0,x1⟩:=zC (zA B22 _ _ _ Ad);obtain⟨y0,y1⟩:=zC (zA B22 _ _ _ Ac);go_wp2_with fail
     refine (KA.out _ (z7 FF.out (zS B4 B22))).mono ?_;rintro r w5 ⟨rfl,b5⟩;go_wp2
     go_ret
     exact⟨rfl,zS (zS B4 B22) b5⟩
theorem fd_SZ (f m:Int)(l1 l2:List (Nat×Nat))(L1 L2:Nat)(w:World)(o1:Addr)(c1:Nat)(hl1:L1=0)(hl2:L2=0)
  (u v:Nat) (fl e:Int) (he:IntKind.i64.wrap e=e)
  (KP:zW (∀ (W:World) (s1 s2:Value),y6 W->SV l1 L1 s1 W->SV l2 L2 s2 W->Calls Tryz.prog 19 #[.int .u8 f,.int .u8 m,s1,s2] W fun r w'=>r=.returned (.tuple #[.agg #[.int .u64 u,.int .u64 v],.int .u8 fl,.int .i64 e])/\Below W.heap.size W w'))
  (KQ:zW (∀ (W:World) (s1 s2:Value),SV l1 L1 s1 W->SV l2 L2 s2 W->Calls Tryz.prog 20 #[.int .u8 f,.int .u8 m,s1,s2] W fun r w'=>r=.returned (.tuple #[.agg #[.int .u64 u,.int .u64 v],.int .u8 fl,.int .i64 e])/\Below W.heap.size W w'))
  (KA:xK 14 #[] (.bool true)) (hT:y6 w):Calls Tryz.prog 6 #[.int .u8 f,.int .u8 m,.slice (some o1) 0 c1,.slice none 0 0] w fun r w'=>r=.returned (.bool true)/\Below w.heap.size w w':=by
 have FF:=zJ hT;clear hT;have HZ1:=zJ hl1;clear hl1;have HZ2:=zJ hl2;clear hl2
 go_enter Tryz.func6,Tryz.ntmps6
 go_wp2_with fail
 refine (KP.out w _ _ (z7 FF.out (Below.refl _ _)) (Or.inl ⟨_,_,HZ1.out,rfl⟩) (Or.inl ⟨_,_,HZ2.out,rfl⟩)).mono ?_;rintro r w1 ⟨rfl,b1⟩;have b2:=yK w1 (.cells #[.int .u64 u,.int .u64 v] 26);have Aa:=heap_alloc_last w1 (.cells #[.int .u64 u,.int .u64 v] 26);have bx:=zS b1 b2;have bq:=zS (Below.refl _ _) bx;go_wp2_with fail
 refine (KQ.out _ _ _ (Or.inl ⟨_,_,HZ1.out,rfl⟩) (Or.inl ⟨_,_,HZ2.out,rfl⟩)).mono ?_;rintro r w3 ⟨rfl,b3⟩;have Ab:=zA b3 _ _ _ Aa;have b4:=yK w3 (.cells #[.int .u64 u,.int .u64 v] 26);have Ac:=heap_alloc_last w3 (.cells #[.int .u64 u,.int .u64 v] 26);have Ad:=zA b4 _ _ _ Ab;have by4:=zS bx (zS b3 b4);have B4:=zS (Below.refl _ _) by4;obtain⟨V,hV⟩:∃ V,w3.alloc (.cells #[.int .u64 u,.int .u64 v] 26)=V:=⟨_,rfl⟩;go_wp2
 rw [hV] at Ad Ac by4 B4;clear hV Ab Aa b4 b3 b2 b1 bx bq KP KQ
 go_loopw [17] (fun iv wr=>iv=.int .i64 0/\Below V.heap.size V wr) (fun _ _=>0)
 case atStart=>exact⟨rfl,(Below.refl _ _)⟩
 case round=>
  obtain⟨rfl,B21⟩:=hrel;go_wp2
  go_loopw [18] (fun iv wr=>iv=.int .i64 0/\Below V.heap.size V wr) (fun _ _=>0)
  case atStart=>exact⟨rfl,B21⟩
  case round=>
   obtain⟨rfl,B22⟩:=hrel;obtain⟨x0,x1⟩:=zC (zA B22 _ _ _ Ad);obtain⟨y0,y1⟩:=zC (zA B22 _ _ _ Ac);go_wp2_with fail
   refine (KA.out _ (z7 FF.out (zS B4 B22))).mono ?_;rintro r w5 ⟨rfl,b5⟩;go_wp2
   go_ret
   exact⟨rfl,zS (zS B4 B22) b5⟩
theorem fd_SS (f m:Int)(l1 l2:List (Nat×Nat))(L1 L2:Nat)(w:World)(o1:Addr)(c1:Nat)(hl1:L1=0)(o2:Addr)(c2:Nat)(hl2:L2=0)
  (u v:Nat) (fl e:Int) (he:IntKind.i64.wrap e=e)
  (KP:zW (∀ (W:World) (s1 s2:Value),y6 W->SV l1 L1 s1 W->SV l2 L2 s2 W->Calls Tryz.prog 19 #[.int .u8 f,.int .u8 m,s1,s2] W fun r w'=>r=.returned (.tuple #[.agg #[.int .u64 u,.int .u64 v],.int .u8 fl,.int .i64 e])/\Below W.heap.size W w'))
  (KQ:zW (∀ (W:World) (s1 s2:Value),SV l1 L1 s1 W->SV l2 L2 s2 W->Calls Tryz.prog 20 #[.int .u8 f,.int .u8 m,s1,s2] W fun r w'=>r=.returned (.tuple #[.agg #[.int .u64 u,.int .u64 v],.int .u8 fl,.int .i64 e])/\Below W.heap.size W w'))
  (KA:xK 14 #[] (.bool true)) (hT:y6 w):Calls Tryz.prog 6 #[.int .u8 f,.int .u8 m,.slice (some o1) 0 c1,.slice (some o2) 0 c2] w fun r w'=>r=.returned (.bool true)/\Below w.heap.size w w':=by
 have FF:=zJ hT;clear hT;have HZ1:=zJ hl1;clear hl1;have HZ2:=zJ hl2;clear hl2
 go_enter Tryz.func6,Tryz.ntmps6
 go_wp2_with fail
 refine (KP.out w _ _ (z7 FF.out (Below.refl _ _)) (Or.inl ⟨_,_,HZ1.out,rfl⟩) (Or.inl ⟨_,_,HZ2.out,rfl⟩)).mono ?_;rintro r w1 ⟨rfl,b1⟩;have b2:=yK w1 (.cells #[.int .u64 u,.int .u64 v] 26);have Aa:=heap_alloc_last w1 (.cells #[.int .u64 u,.int .u64 v] 26);have bx:=zS b1 b2;have bq:=zS (Below.refl _ _) bx;go_wp2_with fail
 refine (KQ.out _ _ _ (Or.inl ⟨_,_,HZ1.out,rfl⟩) (Or.inl ⟨_,_,HZ2.out,rfl⟩)).mono ?_;rintro r w3 ⟨rfl,b3⟩;have Ab:=zA b3 _ _ _ Aa;have b4:=yK w3 (.cells #[.int .u64 u,.int .u64 v] 26);have Ac:=heap_alloc_last w3 (.cells #[.int .u64 u,.int .u64 v] 26);have Ad:=zA b4 _ _ _ Ab;have by4:=zS bx (zS b3 b4);have B4:=zS (Below.refl _ _) by4;obtain⟨V,hV⟩:∃ V,w3.alloc (.cells #[.int .u64 u,.int .u64 v] 26)=V:=⟨_,rfl⟩;go_wp2
 rw [hV] at Ad Ac by4 B4;clear hV Ab Aa b4 b3 b2 b1 bx bq KP KQ
 go_loopw [17] (fun iv wr=>iv=.int .i64 0/\Below V.heap.size V wr) (fun _ _=>0)
 case atStart=>exact⟨rfl,(Below.refl _ _)⟩
 case round=>
  obtain⟨rfl,B21⟩:=hrel;go_wp2
  go_loopw [18] (fun iv wr=>iv=.int .i64 0/\Below V.heap.size V wr) (fun _ _=>0)
  case atStart=>exact⟨rfl,B21⟩
  case round=>
   obtain⟨rfl,B22⟩:=hrel;obtain⟨x0,x1⟩:=zC (zA B22 _ _ _ Ad);obtain⟨y0,y1⟩:=zC (zA B22 _ _ _ Ac);go_wp2_with fail
   refine (KA.out _ (z7 FF.out (zS B4 B22))).mono ?_;rintro r w5 ⟨rfl,b5⟩;go_wp2
   go_ret
   exact⟨rfl,zS (zS B4 B22) b5⟩
theorem fd_long1 (f m:Int)(o1 o2:Option Addr)(L1 c1 L2 c2:Nat)(w:World)(h:40<L1)(KA:xK 14 #[] (.bool true))(hT:y6 w):Calls Tryz.prog 6 #[.int .u8 f,.int .u8 m,.slice o1 L1 c1,.slice o2 L2 c2] w fun r w'=>r=.returned (.bool true)/\Below w.heap.size w w':=by
 have FF:=zJ hT;have d1:decide ((40:Int)<(L1:Int))=true:=decide_eq_true (by omega);clear hT h;have B0:Below w.heap.size w w:=(Below.refl _ _)
 go_enter Tryz.func6,Tryz.ntmps6
 go_wp2_with fail
 refine (KA.out _ (z7 FF.out B0)).mono ?_;rintro r w1 ⟨rfl,b1⟩;have B1:=zS B0 b1;clear b1 B0;go_wp2
 go_ret
 exact⟨rfl,B1⟩
theorem fd_long2 (f m:Int)(o1 o2:Option Addr)(L1 c1 L2 c2:Nat)(w:World)(h1:L1<=40)(h:40<L2)(KA:xK 14 #[] (.bool true))(hT:y6 w):Calls Tryz.prog 6 #[.int .u8 f,.int .u8 m,.slice o1 L1 c1,.slice o2 L2 c2] w fun r w'=>r=.returned (.bool true)/\Below w.heap.size w w':=by
 have FF:=zJ hT;have d1:decide ((40:Int)<(L1:Int))=false:=decide_eq_false (by omega);have d2:decide ((40:Int)<(L2:Int))=true:=decide_eq_true (by omega);clear hT h h1;have B0:Below w.heap.size w w:=(Below.refl _ _)
 go_enter Tryz.func6,Tryz.ntmps6
 go_wp2_with fail
 refine (KA.out _ (z7 FF.out B0)).mono ?_;rintro r w1 ⟨rfl,b1⟩;have B1:=zS B0 b1;clear b1 B0;go_wp2
 go_ret
 exact⟨rfl,B1⟩
end Go.Proofs.YtapikkbifdldfaaGreatDoor
namespace Go.Proofs.YtapikkbifdldfaaGreatDoor
set_option maxRecDepth 100000
set_option maxHeartbeats 40000000
open Go.RowKit WMath XMath
set_option linter.unusedSimpArgs false
set_option linter.unusedVariables false
theorem fitsZ (f m:Int)(ao:Option Addr)(c:Nat)(w:World)(KR:zZ 88 #[.int .u8 f] (.bool true))(KM:zZ 89 #[.int .u8 m] (.bool true)):Calls Tryz.prog 40 #[.int .u8 f,.int .u8 m,.slice ao 0 c] w fun r w'=>r=.returned (.bool true)/\Below w.heap.size w w':=by
 go_enter Tryz.func40,Tryz.ntmps40
 go_wp2_with fail
 refine (KR.out _).mono ?_;rintro r w1 ⟨rfl,b1⟩;go_wp2_with fail
 refine (KM.out _).mono ?_;rintro r w2 ⟨rfl,b2⟩;have BP:=zS b1 b2;clear b1 b2 KR KM;go_wp2
 go_loopw [7] (fun iv wr=>iv=.int .i64 0/\wr=w2) (fun _ _=>0)
 case atStart=>exact⟨rfl,rfl⟩
 case round=>
  obtain⟨rfl,rfl⟩:=hrel;go_wp2
  go_ret
  exact⟨rfl,BP⟩
theorem rfitZ (f m:Int)(ao:Option Addr)(c:Nat)(o:Bool)(ho:decide (f<=3/\m<=4)=o)(w:World):Calls Tryz.prog 40 #[.int .u8 f,.int .u8 m,.slice ao 0 c] w fun r w'=>r=.returned (.bool o)/\Below w.heap.size w w':=by
 have KR:zZ 88 #[.int .u8 f] (.bool (decide (f<=3))):=zJ (fun w=>xP (r_right f _ rfl w));have KM:zZ 89 #[.int .u8 m] (.bool (decide (m<=4))):=zJ (fun w=>xP (r_mode m _ rfl w))
 by_cases c1:f<=3
 ·
  rw [decide_eq_true c1] at KR
  by_cases c2:m<=4
  ·
   rw [decide_eq_true c2] at KM;rw [decide_eq_true (show f<=3/\m<=4 from ⟨c1,c2⟩)] at ho;subst ho;exact fitsZ f m ao c w KR KM
  ·
   rw [decide_eq_false c2] at KM;have e:o=false:=by rw [<-ho,decide_eq_false (fun q=>c2 q.2)]
   subst e;exact rf_nom f m _ _ KR KM
 ·
  rw [decide_eq_false c1] at KR;have e:o=false:=by rw [<-ho,decide_eq_false (fun q=>c1 q.1)]
  subst e;exact rf_no f m _ _ KR
theorem rfitN (f m:Int)(h0:0<=f)(l:List (Nat×Nat))(L g z c:Nat)(w:World)(hl:l.length=L)(hL:L<=1000)(hb:zW (∀ p ∈ l,p.1<18446744073709551616/\p.2<18446744073709551616))
  (HC:zW (∀ W,Below w.heap.size w W->∀ k p,l[k]?=some p->W.cell? ⟨g,z+k*2,none⟩=some (.int .u64 (p.1:Nat))/\W.cell? ⟨g,z+k*2+1,none⟩=some (.int .u64 (p.2:Nat)))) (o:Bool) (ho:(decide (f<=3/\m<=4) && l.all (okP f))=o) :
  Calls Tryz.prog 40 #[.int .u8 f,.int .u8 m,.slice (some ⟨g,z,none⟩) L c] w fun r w'=>r=.returned (.bool o)/\Below w.heap.size w w':=by
 have KR:zZ 88 #[.int .u8 f] (.bool (decide (f<=3))):=zJ (fun w=>xP (r_right f _ rfl w));have KM:zZ 89 #[.int .u8 m] (.bool (decide (m<=4))):=zJ (fun w=>xP (r_mode m _ rfl w))
 by_cases c1:f<=3
 ·
  rw [decide_eq_true c1] at KR
  by_cases c2:m<=4
  ·
   rw [decide_eq_true c2] at KM;exact rfg_list f m h0 l L g z c w hl hL hb HC KR KM o (by rw [<-ho,decide_eq_true (show f<=3/\m<=4 from ⟨c1,c2⟩),Bool.true_and])
  ·
   rw [decide_eq_false c2] at KM;have e:o=false:=by rw [<-ho,decide_eq_false (fun q=>c2 q.2)];rfl
   subst e;exact rf_nom f m _ _ KR KM
 ·
  rw [decide_eq_false c1] at KR;have e:o=false:=by rw [<-ho,decide_eq_false (fun q=>c1 q.1)];rfl
  subst e;exact rf_no f m _ _ KR
theorem sv_later {l:List (Nat×Nat)} {L:Nat} {s:Value} {W V:World} (h:SV l L s W)(b:Below W.heap.size W V):SV l L s V:=by
 rcases h with h|⟨g,z,c,h1,h2,h3,h4⟩
 ·
  exact Or.inl h
 ·
  exact Or.inr ⟨g,z,c,h1,h2,h3,fun U bU=>h4 U (zS b bU)⟩
theorem sv_slice {l:List (Nat×Nat)} {L:Nat} {s:Value} {W:World} (h:SV l L s W):∃ o c,s=.slice o L c:=by
 rcases h with ⟨o,c,rfl,rfl⟩|⟨g,z,c,h1,h2,rfl,h4⟩
 ·
  exact⟨_,_,rfl⟩
 ·
  exact⟨_,_,rfl⟩
theorem rfitS (f m:Int)(h0:0<=f)(l:List (Nat×Nat))(L:Nat)(s:Value)(w:World)(hl:l.length=L)(hL:L<=1000)(hb:zW (∀ p ∈ l,p.1<18446744073709551616/\p.2<18446744073709551616))(h:SV l L s w)(o:Bool)(ho:(decide (f<=3/\m<=4) && l.all (okP f))=o) :
  Calls Tryz.prog 40 #[.int .u8 f,.int .u8 m,s] w fun r w'=>r=.returned (.bool o)/\Below w.heap.size w w':=by
 rcases h with ⟨q,c,z,rfl⟩|⟨g,z,c,h1,h2,rfl,h4⟩
 ·
  obtain rfl:l=[]:=List.eq_nil_of_length_eq_zero (hl.trans z);exact rfitZ f m q c o (by rw [<-ho];exact (Bool.and_true _).symm) w
 ·
  exact rfitN f m h0 l L g z c w hl hL hb (zJ h4) o ho
theorem rdt_no1 (f m:Int)(s1 s2:Value)(w:World)(K1:zW (∀ W,Below w.heap.size w W->Calls Tryz.prog 40 #[.int .u8 f,.int .u8 m,s1] W fun r w'=>r=.returned (.bool false)/\Below W.heap.size W w')):Calls Tryz.prog 20 #[.int .u8 f,.int .u8 m,s1,s2] w fun r w'=>r=.returned (.tuple #[.agg #[.int .u64 0,.int .u64 0],.int .u8 0,.int .i64 2])/\Below w.heap.size w w':=by
 obtain⟨Ab,B0⟩:=yR w (Obj.cells #[.int .u64 0,.int .u64 0] 26)
 go_enter Tryz.func20,Tryz.ntmps20
 go_wp2_with fail
 refine (K1.out _ B0).mono ?_;rintro r w1 ⟨rfl,b1⟩;have B1:=zS B0 b1;have Aa:=zA b1 _ _ _ Ab;clear b1 B0 Ab;obtain⟨Ac,Ad⟩:=zC Aa;have q0:=fz (k:=0) Aa;have q1:=fz (k:=1) Aa;obtain⟨E0,E1⟩:=zQ Aa (.int .u64 0) (.int .u64 0);go_wp2
 exact bodyPost_ret (v:=.tuple #[.agg #[.int .u64 0,.int .u64 0],.int .u8 0,.int .i64 2]) (by simp [results,Tryz.results20,go_sem,E0,E1]) rfl ⟨rfl,zN B1 (by first|exact Nat.le_refl _|omega|(skip;omega)) _ _⟩
theorem rdt_no2 (f m:Int)(s1 s2:Value)(w:World)(K1:zW (∀ W,Below w.heap.size w W->Calls Tryz.prog 40 #[.int .u8 f,.int .u8 m,s1] W fun r w'=>r=.returned (.bool true)/\Below W.heap.size W w'))(K2:zW (∀ W,Below w.heap.size w W->Calls Tryz.prog 40 #[.int .u8 f,.int .u8 m,s2] W fun r w'=>r=.returned (.bool false)/\Below W.heap.size W w')):Calls Tryz.prog 20 #[.int .u8 f,.int .u8 m,s1,s2] w fun r w'=>r=.returned (.tuple #[.agg #[.int .u64 0,.int .u64 0],.int .u8 0,.int .i64 2])/\Below w.heap.size w w':=by
 obtain⟨Ac,B0⟩:=yR w (Obj.cells #[.int .u64 0,.int .u64 0] 26)
 go_enter Tryz.func20,Tryz.ntmps20
 go_wp2_with fail
 refine (K1.out _ B0).mono ?_;rintro r w1 ⟨rfl,b1⟩;have B1:=zS B0 b1;have Ab:=zA b1 _ _ _ Ac;clear b1 B0 Ac;obtain⟨Ad,Ae⟩:=zC Ab;go_wp2_with fail
 refine (K2.out _ B1).mono ?_;rintro r w2 ⟨rfl,b2⟩;have B2:=zS B1 b2;have Aa:=zA b2 _ _ _ Ab;clear b2 B1 Ab Ad Ae;obtain⟨Af,Ag⟩:=zC Aa;have q0:=fz (k:=0) Aa;have q1:=fz (k:=1) Aa;obtain⟨E0,E1⟩:=zQ Aa (.int .u64 0) (.int .u64 0);go_wp2
 exact bodyPost_ret (v:=.tuple #[.agg #[.int .u64 0,.int .u64 0],.int .u8 0,.int .i64 2]) (by simp [results,Tryz.results20,go_sem,E0,E1]) rfl ⟨rfl,zN B2 (by first|exact Nat.le_refl _|omega|(skip;omega)) _ _⟩
theorem rdt_no3 (f m:Int)(o1 o2:Option Addr)(L1 c1 L2 c2:Nat)(w:World)(hne:(((L1:Nat):Int) == ((L2:Nat):Int))=false)(K1:zW (∀ W,Below w.heap.size w W->Calls Tryz.prog 40 #[.int .u8 f,.int .u8 m,.slice o1 L1 c1] W fun r w'=>r=.returned (.bool true)/\Below W.heap.size W w'))(K2:zW (∀ W,Below w.heap.size w W->Calls Tryz.prog 40 #[.int .u8 f,.int .u8 m,.slice o2 L2 c2] W fun r w'=>r=.returned (.bool true)/\Below W.heap.size W w')):Calls Tryz.prog 20 #[.int .u8 f,.int .u8 m,.slice o1 L1 c1,.slice o2 L2 c2] w fun r w'=>r=.returned (.tuple #[.agg #[.int .u64 0,.int .u64 0],.int .u8 0,.int .i64 2])/\Below w.heap.size w w':=by
 obtain⟨Ac,B0⟩:=yR w (Obj.cells #[.int .u64 0,.int .u64 0] 26)
 go_enter Tryz.func20,Tryz.ntmps20
 go_wp2_with fail
 refine (K1.out _ B0).mono ?_;rintro r w1 ⟨rfl,b1⟩;have B1:=zS B0 b1;have Ab:=zA b1 _ _ _ Ac;clear b1 B0 Ac;obtain⟨Ad,Ae⟩:=zC Ab;go_wp2_with fail
 refine (K2.out _ B1).mono ?_;rintro r w2 ⟨rfl,b2⟩;have B2:=zS B1 b2;have Aa:=zA b2 _ _ _ Ab;clear b2 B1 Ab Ad Ae;obtain⟨Af,Ag⟩:=zC Aa;have q0:=fz (k:=0) Aa;have q1:=fz (k:=1) Aa;obtain⟨E0,E1⟩:=zQ Aa (.int .u64 0) (.int .u64 0);go_wp2
 exact bodyPost_ret (v:=.tuple #[.agg #[.int .u64 0,.int .u64 0],.int .u8 0,.int .i64 2]) (by simp [results,Tryz.results20,go_sem,E0,E1]) rfl ⟨rfl,zN B2 (by first|exact Nat.le_refl _|omega|(skip;omega)) _ _⟩
theorem rdt_zero (f m:Int)(o1 o2:Option Addr)(c1 c2:Nat)(w:World)(K1:zW (∀ W,Below w.heap.size w W->Calls Tryz.prog 40 #[.int .u8 f,.int .u8 m,.slice o1 0 c1] W fun r w'=>r=.returned (.bool true)/\Below W.heap.size W w'))(K2:zW (∀ W,Below w.heap.size w W->Calls Tryz.prog 40 #[.int .u8 f,.int .u8 m,.slice o2 0 c2] W fun r w'=>r=.returned (.bool true)/\Below W.heap.size W w')):Calls Tryz.prog 20 #[.int .u8 f,.int .u8 m,.slice o1 0 c1,.slice o2 0 c2] w fun r w'=>r=.returned (.tuple #[.agg #[.int .u64 0,.int .u64 0],.int .u8 0,.int .i64 0])/\Below w.heap.size w w':=by
 obtain⟨Af,B0⟩:=yR w (Obj.cells #[.int .u64 0,.int .u64 0] 26)
 go_enter Tryz.func20,Tryz.ntmps20
 go_wp2_with fail
 refine (K1.out _ B0).mono ?_;rintro r w1 ⟨rfl,b1⟩;have B1:=zS B0 b1;have Ae:=zA b1 _ _ _ Af;clear b1 B0 Af;obtain⟨Ag,Ah⟩:=zC Ae;go_wp2_with fail
 refine (K2.out _ B1).mono ?_;rintro r w2 ⟨rfl,b2⟩;have B2:=zS B1 b2;have Ab:=zA b2 _ _ _ Ae;clear b2 B1 Ae Ag Ah;obtain⟨Ai,Aj⟩:=zC Ab;have S3:=zJ B2.size;have An:=yC Ab;have Ac:=heap_alloc_last w2 (Obj.cells #[.int .u64 0,.int .u64 0] 26);have B3:=zS B2 (yK w2 (Obj.cells #[.int .u64 0,.int .u64 0] 26));have Ad:=zA (yK w2 (Obj.cells #[.int .u64 0,.int .u64 0] 26)) _ _ _ Ab;clear B2 Ab Ai Aj;obtain⟨Ao,Ap⟩:=zC Ad;obtain⟨Aq,Ar⟩:=zC Ac;obtain⟨V,hV⟩:∃ V,w2.alloc (.cells #[.int .u64 0,.int .u64 0] 26)=V:=⟨_,rfl⟩;go_wp2
 rw [hV] at Ac Ad B3
 go_loopw [12,13] (fun av iv wr=>iv=.int .i64 0/\av=.int .u8 0/\wr=V) (fun _ _ _=>0)
 case atStart=>exact⟨rfl,rfl,rfl⟩
 case round=>
  obtain⟨rfl,rfl,rfl⟩:=hrel;clear hV;obtain⟨gs,hgs⟩:∃ g,w2.heap.size=g:=⟨_,rfl⟩;have lz:=(Array.getElem?_eq_some_iff.1 Ad).1;rw [hgs] at Ac ⊢;obtain⟨w20,hw⟩:∃ w20,w20=wr:=⟨_,rfl⟩;subst hw;have B20:=B3;have Aa:=Ad;have Ak:=Ac;obtain⟨Al,Am⟩:=zC Aa;obtain⟨Al,Am⟩:=zC Aa;obtain⟨As,At⟩:=zC Ak;have q0:=fz (k:=0) Aa;have q1:=fz (k:=1) Aa;obtain⟨E0,E1⟩:=zQ Aa (.int .u64 0) (.int .u64 0);go_wp2
  exact bodyPost_ret (v:=.tuple #[.agg #[.int .u64 0,.int .u64 0],.int .u8 0,.int .i64 0]) (by simp [results,Tryz.results20,go_sem,E0,E1]) rfl ⟨rfl,zN B20 (by first|exact Nat.le_refl _|omega|(skip;omega)) _ _⟩
def nQ (p:Nat×Nat):Nat:=p.2+18446744073709551616*p.1
def okQ (f:Int)(p:Nat×Nat):Prop:=p.1<18446744073709551616/\p.2<18446744073709551616/\okB f (nQ p)=true
def st3 (R:Nat->Nat->Nat->Nat×Int)(p q s:Nat×Nat):(Nat×Nat)×Int:=(qA (R (nQ p) (nQ q) (nQ s)).1,(R (nQ p) (nQ q) (nQ s)).2)
theorem st3_ok {f:Int} (hf:y7 f)(m:Int)(p q s:Nat×Nat)(hs:okQ f s):okQ f (st3 (fmaR f m) p q s).1:=by
 obtain⟨o1,o2⟩:=fit_okF hf (fmaR_fit hf m (nQ p) (nQ q) (nQ s) (okB_yes (yV hf).1 hs.2.2).2);obtain⟨i1,i2,i3⟩:=bv_lt o2 (rfl:qA (fmaR f m (nQ p) (nQ q) (nQ s)).1=((qA (fmaR f m (nQ p) (nQ q) (nQ s)).1).1,(qA (fmaR f m (nQ p) (nQ q) (nQ s)).1).2));have e:nQ (st3 (fmaR f m) p q s).1=(fmaR f m (nQ p) (nQ q) (nQ s)).1:=i3;exact⟨i1,i2,by rw [e];exact o1⟩
def dtB (f m:Int)(l1 l2:List (Nat×Nat)):Bool:=(decide (f<=3/\m<=4) && l1.all (okP f)) && (decide (f<=3/\m<=4) && l2.all (okP f)) && decide (l1.length=l2.length)
def dtR (f m:Int)(l1 l2:List (Nat×Nat)):(Nat×Nat)×Int:=if dtB f m l1 l2 then fZ (st3 (fmaR f m)) (0,0) 0 (l1.zip l2) else ((0,0),0)
theorem zero_okQ {f:Int} (hf:y7 f):okQ f (0,0):=⟨by decide,by decide,(fit_okF hf (show Fit f 0 by unfold Fit;have:=Nat.two_pow_pos (wV f);omega)).1⟩
theorem rDot_is (f m:Int)(h0:0<=f)(m0:0<=m)(l1 l2:List (Nat×Nat))(L1 L2:Nat)(hl1:l1.length=L1)(hl2:l2.length=L2)(q1:L1<=1000)(q2:L2<=1000)(hb1:zW (∀ p ∈ l1,p.1<18446744073709551616/\p.2<18446744073709551616))(hb2:zW (∀ p ∈ l2,p.1<18446744073709551616/\p.2<18446744073709551616))(rp:Nat×Nat)(ra:Int)(hr:dtR f m l1 l2=(rp,ra))(s1 s2:Value)(w:World)(v1:SV l1 L1 s1 w)(v2:SV l2 L2 s2 w) :
  Calls Tryz.prog 20 #[.int .u8 f,.int .u8 m,s1,s2] w fun r w'=>r=.returned (.tuple #[.agg #[.int .u64 (rp.1:Nat),.int .u64 (rp.2:Nat)],.int .u8 ra,.int .i64 (if dtB f m l1 l2 then 0 else 2)])/\Below w.heap.size w w':=by
 have K1:∀ o,(decide (f<=3/\m<=4) && l1.all (okP f))=o->zW (∀ W,Below w.heap.size w W->Calls Tryz.prog 40 #[.int .u8 f,.int .u8 m,s1] W fun r w'=>r=.returned (.bool o)/\Below W.heap.size W w'):=fun o ho=>zJ (fun W b=>rfitS f m h0 l1 L1 s1 W hl1 q1 hb1 (sv_later v1 b) o ho);have K2:∀ o,(decide (f<=3/\m<=4) && l2.all (okP f))=o->zW (∀ W,Below w.heap.size w W->Calls Tryz.prog 40 #[.int .u8 f,.int .u8 m,s2] W fun r w'=>r=.returned (.bool o)/\Below W.heap.size W w'):=fun o ho=>zJ (fun W b=>rfitS f m h0 l2 L2 s2 W hl2 q2 hb2 (sv_later v2 b) o ho)
 have no:dtB f m l1 l2=false->(rp,ra)=(((0,0):Nat×Nat),(0:Int)):=fun h=>by
  rw [<-hr]
  unfold dtR
  rw [h]
  rfl
 cases a1:(decide (f<=3/\m<=4) && l1.all (okP f))
 ·
  have d:dtB f m l1 l2=false:=by unfold dtB;rw [a1];rfl
  injection no d with e1 e2;subst e1 e2;rw [d];exact rdt_no1 f m s1 s2 w (K1 false a1)
 cases a2:(decide (f<=3/\m<=4) && l2.all (okP f))
 ·
  have d:dtB f m l1 l2=false:=by unfold dtB;rw [a1,a2];rfl
  injection no d with e1 e2;subst e1 e2;rw [d];exact rdt_no2 f m s1 s2 w (K1 true a1) (K2 false a2)
 by_cases a3:L1=L2
 case neg=>
  have d:dtB f m l1 l2=false:=by unfold dtB;rw [a1,a2,hl1,hl2,decide_eq_false a3];rfl
  injection no d with e1 e2;subst e1 e2;rw [d];obtain⟨o1,c1,rfl⟩:=sv_slice v1;obtain⟨o2,c2,rfl⟩:=sv_slice v2;exact rdt_no3 f m o1 o2 L1 c1 L2 c2 w (beq_eq_false_iff_ne.2 (by omega)) (K1 true a1) (K2 true a2)
 subst a3;have d:dtB f m l1 l2=true:=by unfold dtB;rw [a1,a2,hl1,hl2,decide_eq_true rfl];rfl
 unfold dtR at hr
 rw [d,if_pos rfl] at hr;rw [d];have g1:=a1;have g2:=a2;rw [Bool.and_eq_true,decide_eq_true_iff,List.all_eq_true] at g1 g2;obtain⟨⟨c1,c2⟩,hall1⟩:=g1;have hall2:=g2.2;have hf:=is4_of h0 c1;have hm:0<=m/\m<=4:=⟨m0,c2⟩;have hok1:∀ p ∈ l1,okQ f p:=fun p hp=>⟨(hb1.out p hp).1,(hb1.out p hp).2,hall1 p hp⟩;have hok2:∀ p ∈ l2,okQ f p:=fun p hp=>⟨(hb2.out p hp).1,(hb2.out p hp).2,hall2 p hp⟩
 rcases v1 with ⟨o1,c1,z1,rfl⟩|⟨j1,z1,c1,h11,h12,rfl,h14⟩
 ·
  subst z1;obtain rfl:l1=[]:=List.eq_nil_of_length_eq_zero hl1;injection hr with e1 e2;subst e1 e2
  rcases v2 with ⟨o2,c2,z2,rfl⟩|⟨j2,z2,c2,h21,h22,rfl,h24⟩
  ·
   exact rdt_zero f m o1 o2 c1 c2 w (K1 true a1) (K2 true a2)
  ·
   exact absurd h21 (by decide)
 ·
  rcases v2 with ⟨o2,c2,z2,rfl⟩|⟨j2,z2,c2,h21,h22,rfl,h24⟩
  ·
   omega
  ·
   exact rdt_list f m (st3 (fmaR f m)) (okQ f) (zJ (fun p q s hp hq hs=>st3_ok hf m p q s hs)) l1 l2 L1 j1 z1 c1 j2 z2 c2 w hl1 hl2 q1 (zero_okQ hf) (zJ hok1) (zJ hok2) (zJ h14) (zJ h24) (K1 true a1) (K2 true a2)
    (zJ (fun p q s hp hq hs w=>rFma_is f m hf hm p.1 p.2 (nQ p) q.1 q.2 (nQ q) s.1 s.2 (nQ s) hp.1 hp.2.1 hq.1 hq.2.1 hs.1 hs.2.1 rfl rfl rfl hp.2.2 hq.2.2 hs.2.2 _ _ rfl _ _ rfl w)) rp ra (zJ hr)
end Go.Proofs.YtapikkbifdldfaaGreatDoor
