/-
  What the functions that the statement reaches return: part 30 (FE, FH).
-/
import Derived.Test.YtapikkbifdldfaaGreatDoorFd29
namespace Go.Proofs.YtapikkbifdldfaaGreatDoor
set_option maxRecDepth 100000
set_option maxHeartbeats 40000000
open Go.RowKit WMath XMath
set_option linter.unusedSimpArgs false
set_option linter.unusedVariables false
theorem gen_fma_Dot_14 {X:Act->World->Prop} {R:World->Nat->Prop} {t0 t1 t2 t3 t4 t5 t6 t7 t8 t9 t10 t11 t12 t13 t15 t16 t17 t18 t19 t20 t21 t22 t23 t24 t25 t26 t27 t28 t29 t30 t31 t32 t33 t34 t35 t36 t37 t38 t39 t40 t41 t42 t43 t44 t45 t46 t47 t48 t49 t50 t51 t52 t53 t54 t55 t56 t57 t58 t59 t60 t61 t62 t63 t64 t65:Value} {d:List Deferred} {W:World} {G:Nat}
  (key:∀ w5 g,R w5 g->X ⟨#[t0,t1,t2,t3,t4,t5,t6,t7,t8,t9,t10,t11,t12,t13,.pointer (some ⟨g,0,none⟩),t15,t16,t17,t18,t19,t20,t21,t22,t23,t24,t25,t26,t27,t28,t29,t30,t31,t32,t33,t34,t35,t36,t37,t38,t39,t40,t41,t42,t43,t44,t45,t46,t47,t48,t49,t50,t51,t52,t53,t54,t55,t56,t57,t58,t59,t60,t61,t62,t63,t64,t65],d⟩ w5) (r:R W G):X ⟨#[t0,t1,t2,t3,t4,t5,t6,t7,t8,t9,t10,t11,t12,t13,.pointer (some ⟨G,0,none⟩),t15,t16,t17,t18,t19,t20,t21,t22,t23,t24,t25,t26,t27,t28,t29,t30,t31,t32,t33,t34,t35,t36,t37,t38,t39,t40,t41,t42,t43,t44,t45,t46,t47,t48,t49,t50,t51,t52,t53,t54,t55,t56,t57,t58,t59,t60,t61,t62,t63,t64,t65],d⟩ W:=key W G r

theorem kdt_list (f m:Int)(T:Nat×Nat->Nat×Nat->Nat×Nat->(Nat×Nat)×Int)(ok:Nat×Nat->Prop)(hs:zW (∀ p q s,ok p->ok q->ok s->ok (T p q s).1))(l1 l2:List (Nat×Nat))(L g1 z1 c1 g2 z2 c2:Nat)(w:World)(hl1:l1.length=L)(hl2:l2.length=L)(hL:L<=1000)(h0:ok (0,0))(hok1:zW (∀ p ∈ l1,ok p))(hok2:zW (∀ p ∈ l2,ok p))
  (HC1:zW (∀ W,Below w.heap.size w W->∀ k p,l1[k]?=some p->W.cell? ⟨g1,z1+k*2,none⟩=some (.int .u64 (p.1:Nat))/\W.cell? ⟨g1,z1+k*2+1,none⟩=some (.int .u64 (p.2:Nat))))
  (HC2:zW (∀ W,Below w.heap.size w W->∀ k p,l2[k]?=some p->W.cell? ⟨g2,z2+k*2,none⟩=some (.int .u64 (p.1:Nat))/\W.cell? ⟨g2,z2+k*2+1,none⟩=some (.int .u64 (p.2:Nat))))
  (KM1:zW (∀ w',y6 w'->Below w.heap.size w w'->Calls Tryz.prog 32 #[.int .u8 f,.int .u8 m,.slice (some ⟨g1,z1,none⟩) L c1] w' fun r w2=>r=.returned (.bool true)/\Below w'.heap.size w' w2))
  (KM2:zW (∀ w',y6 w'->Below w.heap.size w w'->Calls Tryz.prog 32 #[.int .u8 f,.int .u8 m,.slice (some ⟨g2,z2,none⟩) L c2] w' fun r w2=>r=.returned (.bool true)/\Below w'.heap.size w' w2))
  (KT:zW (∀ p q s,ok p->ok q->ok s->∀ w,y6 w->Calls Tryz.prog 51 #[.int .u8 f,.int .u8 m,.agg #[.int .u64 (p.1:Nat),.int .u64 (p.2:Nat)],.agg #[.int .u64 (q.1:Nat),.int .u64 (q.2:Nat)],.agg #[.int .u64 (s.1:Nat),.int .u64 (s.2:Nat)]] w fun r w'=>r=.returned (.tuple #[.agg #[.int .u64 ((T p q s).1.1:Nat),.int .u64 ((T p q s).1.2:Nat)],.int .u8 (T p q s).2,.int .i64 0])/\Below w.heap.size w w'))
  (rp:Nat×Nat) (ra:Int) (HR:zW (fZ T (0,0) 0 (l1.zip l2)=(rp,ra))) (hT:y6 w):Calls Tryz.prog 19 #[.int .u8 f,.int .u8 m,.slice (some ⟨g1,z1,none⟩) L c1,.slice (some ⟨g2,z2,none⟩) L c2] w fun r w'=>r=.returned (.tuple #[.agg #[.int .u64 (rp.1:Nat),.int .u64 (rp.2:Nat)],.int .u8 ra,.int .i64 0])/\Below w.heap.size w w':=by
 have FF:=zJ hT;have HL1:=zJ hl1;have HL2:=zJ hl2;have HZ:=zJ (zip_len l1 l2 L hl1 hl2);have H0:=zJ h0;clear hl1 hl2 h0 hT;obtain⟨Ai,B0⟩:=yR w (Obj.cells #[.int .u64 0,.int .u64 0] 26)
 go_enter Tryz.func19,Tryz.ntmps19
 go_wp2_with fail
 refine (KM1.out _ (z7 FF.out B0) B0).mono ?_;rintro r w1 ⟨rfl,b1⟩;go_wp2_with fail
 refine (KM2.out _ (z7 FF.out (zS B0 b1)) (zS B0 b1)).mono ?_;rintro r w2 ⟨rfl,b2⟩;go_wp2
 have Ag:=zA (zS b1 b2) _ _ _ Ai;have Ac:=heap_alloc_last w2 (.cells #[.int .u64 0,.int .u64 0] 26);have b3:=yK w2 (.cells #[.int .u64 0,.int .u64 0] 26);have Ah:=zA b3 _ _ _ Ag;have B2:=zS (zS (zS B0 b1) b2) b3;have gz:=(Array.getElem?_eq_some_iff.1 Ag).1;obtain⟨gs,hgs⟩:∃ g,w2.heap.size=g:=⟨_,rfl⟩;obtain⟨V,hV⟩:∃ V,w2.alloc (.cells #[.int .u64 0,.int .u64 0] 26)=V:=⟨_,rfl⟩;rw [hV] at Ac Ah B2 ⊢;rw [hgs] at Ac gz ⊢;clear hV hgs Ag b3 b2 b1 B0 Ai KM1 KM2
 go_loopw [12,40] (fun av iv wr=>∃ (k:Nat) (cur:Nat×Nat) (a:Int),k<=L/\iv=.int .i64 (k:Int)/\av=.int .u8 a/\Below w.heap.size w wr/\wr.heap[w.heap.size]?=some (.cells #[.int .u64 0,.int .u64 0] 26)/\wr.heap[gs]?=some (.cells #[.int .u64 (cur.1:Nat),.int .u64 (cur.2:Nat)] 26)/\zW (fZ T (0,0) 0 ((l1.zip l2).take k)=(cur,a))) (fun _ iv _=>L-(intOf iv).toNat)
 case atStart=>exact⟨0,(0,0),0,by omega,rfl,rfl,B2,Ah,Ac,zJ rfl⟩
 case round=>
  obtain⟨k,cur,a,hk,rfl,rfl,B20,Aa,Ab,HA⟩:=hrel;obtain⟨w20,hw⟩:∃ w20,w20=wr:=⟨_,rfl⟩;subst hw;clear Ah Ac B2
  have okc:ok cur:=by
   have:=fZ_ok T ok hs.out ((l1.zip l2).take k) (0,0) 0 H0.out (fun q hq=>by
    have hm:=List.of_mem_zip (List.mem_of_mem_take hq);exact⟨hok1.out _ hm.1,hok2.out _ hm.2⟩)
   rw [HA.out] at this;exact this
  have OC:=zJ okc;clear okc
  by_cases hlt:k<L
  ·
   obtain⟨p,hp⟩:∃ q,l1[k]?=some q:=⟨_,List.getElem?_eq_getElem (by rw [HL1.out];exact hlt)⟩;obtain⟨q,hq⟩:∃ q,l2[k]?=some q:=⟨_,List.getElem?_eq_getElem (by rw [HL2.out];exact hlt)⟩;obtain⟨e0,e1⟩:=HC1.out _ B20 k p hp;obtain⟨e2,e3⟩:=HC2.out _ B20 k q hq;have dl:decide ((k:Int)<(L:Int))=true:=decide_eq_true (by omega);have hb0:((0:Int)<=(k:Int))=True:=eq_true (by omega);have ft:=fZ_take T (l1.zip l2) k (p,q) (zip_at l1 l2 k p q hp hq) (0,0) 0;rw [HA.out] at ft
   simp only at ft
   have KQ:=zJ (KT.out p q cur (hok1.out p (List.mem_of_getElem? hp)) (hok2.out q (List.mem_of_getElem? hq)) OC.out);obtain⟨n1,n2,nf,hn⟩:∃ n1 n2 nf,T p q cur=((n1,n2),nf):=⟨_,_,_,rfl⟩;rw [hn] at ft KQ;have FTK:=zJ ft;clear ft hq hp hn KT;obtain⟨Ad,Ae⟩:=zC Aa;obtain⟨Ad,Ae⟩:=zC Aa;obtain⟨Aj,Ak⟩:=zC Ab;have sS:zW (∀ W W1:World,(Below w.heap.size w W/\W.heap[w.heap.size]?=some (.cells #[.int .u64 0,.int .u64 0] 26)/\W.heap[gs]?=some (.cells #[.int .u64 (cur.1:Nat),.int .u64 (cur.2:Nat)] 26)/\W.cell? ⟨w.heap.size,0,none⟩=some (.int .u64 0)/\W.cell? ⟨w.heap.size,1,none⟩=some (.int .u64 0)/\W.cell? ⟨gs,0,none⟩=some (.int .u64 (cur.1:Nat))/\W.cell? ⟨gs,1,none⟩=some (.int .u64 (cur.2:Nat))/\W.cell? ⟨g1,z1+k*2,none⟩=some (.int .u64 (p.1:Nat))/\W.cell? ⟨g1,z1+k*2+1,none⟩=some (.int .u64 (p.2:Nat))/\W.cell? ⟨g2,z2+k*2,none⟩=some (.int .u64 (q.1:Nat))/\W.cell? ⟨g2,z2+k*2+1,none⟩=some (.int .u64 (q.2:Nat)))->Below W.heap.size W W1->(Below w.heap.size w W1/\W1.heap[w.heap.size]?=some (.cells #[.int .u64 0,.int .u64 0] 26)/\W1.heap[gs]?=some (.cells #[.int .u64 (cur.1:Nat),.int .u64 (cur.2:Nat)] 26)/\W1.cell? ⟨w.heap.size,0,none⟩=some (.int .u64 0)/\W1.cell? ⟨w.heap.size,1,none⟩=some (.int .u64 0)/\W1.cell? ⟨gs,0,none⟩=some (.int .u64 (cur.1:Nat))/\W1.cell? ⟨gs,1,none⟩=some (.int .u64 (cur.2:Nat))/\W1.cell? ⟨g1,z1+k*2,none⟩=some (.int .u64 (p.1:Nat))/\W1.cell? ⟨g1,z1+k*2+1,none⟩=some (.int .u64 (p.2:Nat))/\W1.cell? ⟨g2,z2+k*2,none⟩=some (.int .u64 (q.1:Nat))/\W1.cell? ⟨g2,z2+k*2+1,none⟩=some (.int .u64 (q.2:Nat)))):=zJ (fun W W1 h b=>⟨zS h.1 b,zA b _ _ _ h.2.1,zA b _ _ _ h.2.2.1,zI (zA b _ _ _ h.2.1) 0 _ rfl,zI (zA b _ _ _ h.2.1) 1 _ rfl,zI (zA b _ _ _ h.2.2.1) 0 _ rfl,zI (zA b _ _ _ h.2.2.1) 1 _ rfl,cellB b h.2.2.2.2.2.2.2.1,cellB b h.2.2.2.2.2.2.2.2.1,cellB b h.2.2.2.2.2.2.2.2.2.1,cellB b h.2.2.2.2.2.2.2.2.2.2⟩);have sL:zW (∀ W:World,(Below w.heap.size w W/\W.heap[w.heap.size]?=some (.cells #[.int .u64 0,.int .u64 0] 26)/\W.heap[gs]?=some (.cells #[.int .u64 (cur.1:Nat),.int .u64 (cur.2:Nat)] 26)/\W.cell? ⟨w.heap.size,0,none⟩=some (.int .u64 0)/\W.cell? ⟨w.heap.size,1,none⟩=some (.int .u64 0)/\W.cell? ⟨gs,0,none⟩=some (.int .u64 (cur.1:Nat))/\W.cell? ⟨gs,1,none⟩=some (.int .u64 (cur.2:Nat))/\W.cell? ⟨g1,z1+k*2,none⟩=some (.int .u64 (p.1:Nat))/\W.cell? ⟨g1,z1+k*2+1,none⟩=some (.int .u64 (p.2:Nat))/\W.cell? ⟨g2,z2+k*2,none⟩=some (.int .u64 (q.1:Nat))/\W.cell? ⟨g2,z2+k*2+1,none⟩=some (.int .u64 (q.2:Nat)))->(w.heap.size<W.heap.size/\gs<W.heap.size/\g1<W.heap.size/\g2<W.heap.size)):=zJ (fun W h=>⟨(Array.getElem?_eq_some_iff.1 h.2.1).1,(Array.getElem?_eq_some_iff.1 h.2.2.1).1,cell_lt h.2.2.2.2.2.2.2.1,cell_lt h.2.2.2.2.2.2.2.2.2.1⟩);have sT:zW (∀ (W:World) (gN:Nat) (xA xB:Value),(Below w.heap.size w W/\W.heap[w.heap.size]?=some (.cells #[.int .u64 0,.int .u64 0] 26)/\W.heap[gs]?=some (.cells #[.int .u64 (cur.1:Nat),.int .u64 (cur.2:Nat)] 26)/\W.cell? ⟨w.heap.size,0,none⟩=some (.int .u64 0)/\W.cell? ⟨w.heap.size,1,none⟩=some (.int .u64 0)/\W.cell? ⟨gs,0,none⟩=some (.int .u64 (cur.1:Nat))/\W.cell? ⟨gs,1,none⟩=some (.int .u64 (cur.2:Nat))/\W.cell? ⟨g1,z1+k*2,none⟩=some (.int .u64 (p.1:Nat))/\W.cell? ⟨g1,z1+k*2+1,none⟩=some (.int .u64 (p.2:Nat))/\W.cell? ⟨g2,z2+k*2,none⟩=some (.int .u64 (q.1:Nat))/\W.cell? ⟨g2,z2+k*2+1,none⟩=some (.int .u64 (q.2:Nat)))->(w.heap.size<gN/\gs<gN/\g1<gN/\g2<gN)->(Below w.heap.size w ((W.setCell ⟨gN,0,none⟩ xA).setCell ⟨gN,1,none⟩ xB)/\((W.setCell ⟨gN,0,none⟩ xA).setCell ⟨gN,1,none⟩ xB).heap[w.heap.size]?=some (.cells #[.int .u64 0,.int .u64 0] 26)/\((W.setCell ⟨gN,0,none⟩ xA).setCell ⟨gN,1,none⟩ xB).heap[gs]?=some (.cells #[.int .u64 (cur.1:Nat),.int .u64 (cur.2:Nat)] 26)/\((W.setCell ⟨gN,0,none⟩ xA).setCell ⟨gN,1,none⟩ xB).cell? ⟨w.heap.size,0,none⟩=some (.int .u64 0)/\((W.setCell ⟨gN,0,none⟩ xA).setCell ⟨gN,1,none⟩ xB).cell? ⟨w.heap.size,1,none⟩=some (.int .u64 0)/\((W.setCell ⟨gN,0,none⟩ xA).setCell ⟨gN,1,none⟩ xB).cell? ⟨gs,0,none⟩=some (.int .u64 (cur.1:Nat))/\((W.setCell ⟨gN,0,none⟩ xA).setCell ⟨gN,1,none⟩ xB).cell? ⟨gs,1,none⟩=some (.int .u64 (cur.2:Nat))/\((W.setCell ⟨gN,0,none⟩ xA).setCell ⟨gN,1,none⟩ xB).cell? ⟨g1,z1+k*2,none⟩=some (.int .u64 (p.1:Nat))/\((W.setCell ⟨gN,0,none⟩ xA).setCell ⟨gN,1,none⟩ xB).cell? ⟨g1,z1+k*2+1,none⟩=some (.int .u64 (p.2:Nat))/\((W.setCell ⟨gN,0,none⟩ xA).setCell ⟨gN,1,none⟩ xB).cell? ⟨g2,z2+k*2,none⟩=some (.int .u64 (q.1:Nat))/\((W.setCell ⟨gN,0,none⟩ xA).setCell ⟨gN,1,none⟩ xB).cell? ⟨g2,z2+k*2+1,none⟩=some (.int .u64 (q.2:Nat)))):=zJ (fun W gN xA xB h l=>⟨zN h.1 (show w.heap.size<=gN by have:=l.1;omega) _ _,(zF (by have:=l.1;omega)).trans ((zF (by have:=l.1;omega)).trans h.2.1),(zF (by have:=l.2.1;omega)).trans ((zF (by have:=l.2.1;omega)).trans h.2.2.1),zI ((zF (by have:=l.1;omega)).trans ((zF (by have:=l.1;omega)).trans h.2.1)) 0 _ rfl,zI ((zF (by have:=l.1;omega)).trans ((zF (by have:=l.1;omega)).trans h.2.1)) 1 _ rfl,zI ((zF (by have:=l.2.1;omega)).trans ((zF (by have:=l.2.1;omega)).trans h.2.2.1)) 0 _ rfl,zI ((zF (by have:=l.2.1;omega)).trans ((zF (by have:=l.2.1;omega)).trans h.2.2.1)) 1 _ rfl,(cellC (by have:=l.2.2.1;omega) (cellC (by have:=l.2.2.1;omega) h.2.2.2.2.2.2.2.1)),(cellC (by have:=l.2.2.1;omega) (cellC (by have:=l.2.2.1;omega) h.2.2.2.2.2.2.2.2.1)),(cellC (by have:=l.2.2.2;omega) (cellC (by have:=l.2.2.2;omega) h.2.2.2.2.2.2.2.2.2.1)),(cellC (by have:=l.2.2.2;omega) (cellC (by have:=l.2.2.2;omega) h.2.2.2.2.2.2.2.2.2.2))⟩)
   have s0:Below w.heap.size w (w20).drew/\(w20).drew.heap[w.heap.size]?=some (.cells #[.int .u64 0,.int .u64 0] 26)/\(w20).drew.heap[gs]?=some (.cells #[.int .u64 (cur.1:Nat),.int .u64 (cur.2:Nat)] 26)/\(w20).drew.cell? ⟨w.heap.size,0,none⟩=some (.int .u64 0)/\(w20).drew.cell? ⟨w.heap.size,1,none⟩=some (.int .u64 0)/\(w20).drew.cell? ⟨gs,0,none⟩=some (.int .u64 (cur.1:Nat))/\(w20).drew.cell? ⟨gs,1,none⟩=some (.int .u64 (cur.2:Nat))/\(w20).drew.cell? ⟨g1,z1+k*2,none⟩=some (.int .u64 (p.1:Nat))/\(w20).drew.cell? ⟨g1,z1+k*2+1,none⟩=some (.int .u64 (p.2:Nat))/\(w20).drew.cell? ⟨g2,z2+k*2,none⟩=some (.int .u64 (q.1:Nat))/\(w20).drew.cell? ⟨g2,z2+k*2+1,none⟩=some (.int .u64 (q.2:Nat)):=⟨B20.drew,Aa,Ab,zI (Aa) 0 _ rfl,zI (Aa) 1 _ rfl,zI (Ab) 0 _ rfl,zI (Ab) 1 _ rfl,e0,e1,e2,e3⟩;clear B20 Aa Ad Ae Ab Aj Ak;go_wp2_with fail
   apply cut7
   ·
    intro key0;have key:=zJ key0;clear key0
    go_region_held3 (fun W=>Below w.heap.size w W/\W.heap[w.heap.size]?=some (.cells #[.int .u64 0,.int .u64 0] 26)/\W.heap[gs]?=some (.cells #[.int .u64 (cur.1:Nat),.int .u64 (cur.2:Nat)] 26)/\W.cell? ⟨w.heap.size,0,none⟩=some (.int .u64 0)/\W.cell? ⟨w.heap.size,1,none⟩=some (.int .u64 0)/\W.cell? ⟨gs,0,none⟩=some (.int .u64 (cur.1:Nat))/\W.cell? ⟨gs,1,none⟩=some (.int .u64 (cur.2:Nat))/\W.cell? ⟨g1,z1+k*2,none⟩=some (.int .u64 (p.1:Nat))/\W.cell? ⟨g1,z1+k*2+1,none⟩=some (.int .u64 (p.2:Nat))/\W.cell? ⟨g2,z2+k*2,none⟩=some (.int .u64 (q.1:Nat))/\W.cell? ⟨g2,z2+k*2+1,none⟩=some (.int .u64 (q.2:Nat))) (first|exact s1|exact s0|exact sS.out _ _ s1 (yK _ _)|exact sS.out _ _ s0 (yK _ _)|exact sT.out _ _ _ _ s1 hl)
     (first|(go_at_call 51;(first|refine (KQ.out _ (by first|exact z7 FF.out (And.left s1)|exact fat_al (z7 FF.out (And.left s1)) _)).mono ?_|refine (KQ.out _ (by first|exact z7 FF.out (And.left s0)|exact fat_al (z7 FF.out (And.left s0)) _)).mono ?_);rintro r wq ⟨rfl,bq⟩;(first|(have hg:=zA bq _ _ _ (heap_alloc_last _ _);have hl:=(by first|exact sL.out _ s1|exact sL.out _ s0))|have hg:=zA bq _ _ _ hg|skip);(try simp only [xF,zM] at hg hl);(first|(have Aq:=fz (k:=0) hg;have Ar:=fz (k:=1) hg;have As:=zI hg 0 _ rfl;have At:=zI hg 1 _ rfl)|skip);have s2:=(by first|exact sS.out _ _ s1 bq|exact sS.out _ _ s0 bq|exact sS.out _ _ (sS.out _ _ s1 (yK _ _)) bq|exact sS.out _ _ (sS.out _ _ s0 (yK _ _)) bq);(try clear s1);have s1:=s2;clear s2 bq)|fail)
    all_goals
     refine gen_fma_Dot_14 (R:=fun W gN=>(Below w.heap.size w W/\W.heap[w.heap.size]?=some (.cells #[.int .u64 0,.int .u64 0] 26)/\W.heap[gs]?=some (.cells #[.int .u64 (cur.1:Nat),.int .u64 (cur.2:Nat)] 26)/\W.cell? ⟨w.heap.size,0,none⟩=some (.int .u64 0)/\W.cell? ⟨w.heap.size,1,none⟩=some (.int .u64 0)/\W.cell? ⟨gs,0,none⟩=some (.int .u64 (cur.1:Nat))/\W.cell? ⟨gs,1,none⟩=some (.int .u64 (cur.2:Nat))/\W.cell? ⟨g1,z1+k*2,none⟩=some (.int .u64 (p.1:Nat))/\W.cell? ⟨g1,z1+k*2+1,none⟩=some (.int .u64 (p.2:Nat))/\W.cell? ⟨g2,z2+k*2,none⟩=some (.int .u64 (q.1:Nat))/\W.cell? ⟨g2,z2+k*2+1,none⟩=some (.int .u64 (q.2:Nat)))/\W.heap[gN]?=some (.cells #[.int .u64 n1,.int .u64 n2] 26)/\(w.heap.size<gN/\gs<gN/\g1<gN/\g2<gN)) key.out ?_
     first
      | exact⟨(sT.out _ _ _ _ s1 hl),qS hg _ _,hl⟩
      | exact⟨sS.out _ _ s1 (yK _ _),heap_alloc_last _ _,sL.out _ s1⟩
      | exact⟨sS.out _ _ s0 (yK _ _),heap_alloc_last _ _,sL.out _ s0⟩
   rintro w21 g21 ⟨s1,Al,l21⟩;have B21:=And.left s1;have Am:=s1.2.1;have Af:=s1.2.2.1;have H21:=zJ l21;clear s0 s1 sS sL sT l21;obtain⟨Au,Av⟩:=zC Am;obtain⟨Aw,Ax⟩:=zC Af;obtain⟨Ay,Az⟩:=zC Al;have q0_22:=fz (k:=0) Af;have q1_22:=fz (k:=1) Af;have B22:=zN B21 (show w.heap.size<=gs by first|exact Nat.le_refl _|omega|(have:=H21.out;omega)) (.int .u64 n1) (.int .u64 n2);have An:((w21.setCell ⟨gs,0,none⟩ (.int .u64 n1)).setCell ⟨gs,1,none⟩ (.int .u64 n2)).heap[gs]?=some (.cells #[.int .u64 n1,.int .u64 n2] 26):=qS Af _ _;have Ao:((w21.setCell ⟨gs,0,none⟩ (.int .u64 n1)).setCell ⟨gs,1,none⟩ (.int .u64 n2)).heap[w.heap.size]?=some (.cells #[.int .u64 0,.int .u64 0] 26):=(zF (by first|omega|(have:=H21.out;omega))).trans ((zF (by first|omega|(have:=H21.out;omega))).trans Am);have Ap:((w21.setCell ⟨gs,0,none⟩ (.int .u64 n1)).setCell ⟨gs,1,none⟩ (.int .u64 n2)).heap[g21]?=some (.cells #[.int .u64 n1,.int .u64 n2] 26):=(zF (by first|omega|(have:=H21.out;omega))).trans ((zF (by first|omega|(have:=H21.out;omega))).trans Al);obtain⟨AA,AB⟩:=zC Ao;obtain⟨AC,AD⟩:=zC An;obtain⟨AE,AF⟩:=zC Ap;go_wp2
   go_roundw
   case rel=>exact⟨k+1,(n1,n2),_,by omega,by go_num,rfl,B22,Ao,An,FTK⟩
   case measure=>simp [intOf] <;> omega
  ·
   obtain rfl:k=L:=by omega
   have e:(cur,a)=(rp,ra):=by rw [<-HR.out,<-HA.out];congr 1;rw [<-HZ.out,List.take_length]
   injection e with ec ea;subst ec ea;have dl:decide ((k:Int)<(k:Int))=false:=by rw [decide_eq_false_iff_not];omega
   clear HA HC1 HC2 KT HR;obtain⟨Ad,Ae⟩:=zC Aa;obtain⟨Ad,Ae⟩:=zC Aa;obtain⟨Aj,Ak⟩:=zC Ab;have q0:=fz (k:=0) Aa;have q1:=fz (k:=1) Aa;obtain⟨E0,E1⟩:=zQ Aa (.int .u64 (cur.1:Nat)) (.int .u64 (cur.2:Nat));go_wp2
   exact bodyPost_ret (v:=.tuple #[.agg #[.int .u64 (cur.1:Nat),.int .u64 (cur.2:Nat)],.int .u8 a,.int .i64 0]) (by simp [results,Tryz.results19,go_sem,E0,E1]) rfl ⟨rfl,zN B20 (by first|exact Nat.le_refl _|omega|(skip;omega)) _ _⟩
theorem may_nilA (f m:Int)(ao:Option Addr)(cz:Nat)(pu pv:Nat)(fl:Int)(w:World)(KP:xK 37 #[.int .u8 f,.int .u8 m,.agg (rg false 0 0 false)] (.tuple #[.agg #[.int .u64 pu,.int .u64 pv],.int .u8 fl,.int .i64 0]))(hT:y6 w):Calls Tryz.prog 32 #[.int .u8 f,.int .u8 m,.slice ao 0 cz] w fun r w'=>r=.returned (.bool true)/\Below w.heap.size w w':=by
 have FF:=zJ hT;clear hT;have hp3:=rgz
 go_enter Tryz.func32,Tryz.ntmps32
 go_wp2_with fail
 refine (KP.out _ FF.out).mono ?_;rintro r w1 ⟨rfl,b1⟩;have BP:=zS b1 (yK w1 (.cells #[.int .u64 pu,.int .u64 pv] 26));obtain⟨V,hV⟩:∃ V,w1.alloc (.cells #[.int .u64 pu,.int .u64 pv] 26)=V:=⟨_,rfl⟩;go_wp2
 rw [hV] at BP;clear b1 KP hV
 go_loopw [26] (fun iv wr=>iv=.int .i64 0/\wr=V) (fun _ _=>0)
 case atStart=>exact⟨rfl,rfl⟩
 case round=>
  obtain⟨rfl,rfl⟩:=hrel;go_wp2
  go_ret
  exact⟨rfl,BP⟩

theorem kmayN (f m:Int)(h0:0<=f)(h1:f<=255)(m0:0<=m)(l:List (Nat×Nat))(L g z c:Nat)(w:World)(hl:l.length=L)(hL:L<=1000)(hb:zW (∀ p ∈ l,p.1<18446744073709551616/\p.2<18446744073709551616))
  (HC:zW (∀ W,Below w.heap.size w W->∀ k p,l[k]?=some p->W.cell? ⟨g,z+k*2,none⟩=some (.int .u64 (p.1:Nat))/\W.cell? ⟨g,z+k*2+1,none⟩=some (.int .u64 (p.2:Nat)))) (o:Bool) (ho:(decide (f<=3/\m<=4) && l.all (okP f))=o) (hT:y6 w) :
  Calls Tryz.prog 32 #[.int .u8 f,.int .u8 m,.slice (some ⟨g,z,none⟩) L c] w fun r w'=>r=.returned (.bool o)/\Below w.heap.size w w':=by
 by_cases cc:f<=3/\m<=4
 ·
  have hf:=is4_of h0 cc.1;obtain⟨u,v,hv⟩:∃ u v,qA (xY f false)=(u,v):=⟨_,_,rfl⟩;exact opg_may f m hf l L g z c w hl hL hb HC u v 0 (zJ (fun w hT=>kPack_zero f m hf ⟨m0,cc.2⟩ false 0 (by decide) (by decide) u v hv w hT)) o (by rw [<-ho,decide_eq_true cc,Bool.true_and]) hT
 ·
  have e:o=false:=by rw [<-ho,decide_eq_false cc];rfl
  subst e;exact op_may_no f m 0 0 0 2 _ rfl _ (zJ (fun w hT=>kPack_no f m h0 h1 false 0 jC 0 false (fun q=>cc ⟨q.1,q.2.1⟩) w hT)) hT
theorem kmayZ (f m:Int)(h0:0<=f)(h1:f<=255)(m0:0<=m)(ao:Option Addr)(c:Nat)(o:Bool)(ho:decide (f<=3/\m<=4)=o)(w:World)(hT:y6 w):Calls Tryz.prog 32 #[.int .u8 f,.int .u8 m,.slice ao 0 c] w fun r w'=>r=.returned (.bool o)/\Below w.heap.size w w':=by
 by_cases cc:f<=3/\m<=4
 ·
  have hf:=is4_of h0 cc.1;obtain⟨u,v,hv⟩:∃ u v,qA (xY f false)=(u,v):=⟨_,_,rfl⟩;rw [decide_eq_true cc] at ho;subst ho;exact may_nilA f m ao c u v 0 w (zJ (fun w hT=>kPack_zero f m hf ⟨m0,cc.2⟩ false 0 (by decide) (by decide) u v hv w hT)) hT
 ·
  rw [decide_eq_false cc] at ho;subst ho;exact op_may_no f m 0 0 0 2 _ rfl _ (zJ (fun w hT=>kPack_no f m h0 h1 false 0 jC 0 false (fun q=>cc ⟨q.1,q.2.1⟩) w hT)) hT
theorem kmayS (f m:Int)(h0:0<=f)(h1:f<=255)(m0:0<=m)(l:List (Nat×Nat))(L:Nat)(s:Value)(w:World)(hl:l.length=L)(hL:L<=1000)(hb:zW (∀ p ∈ l,p.1<18446744073709551616/\p.2<18446744073709551616))(h:SV l L s w)(o:Bool)(ho:(decide (f<=3/\m<=4) && l.all (okP f))=o)(hT:y6 w) :
  Calls Tryz.prog 32 #[.int .u8 f,.int .u8 m,s] w fun r w'=>r=.returned (.bool o)/\Below w.heap.size w w':=by
 rcases h with ⟨q,c,z,rfl⟩|⟨g,z,c,h1',h2,rfl,h4⟩
 ·
  obtain rfl:l=[]:=List.eq_nil_of_length_eq_zero (hl.trans z);exact kmayZ f m h0 h1 m0 q c o (by rw [<-ho];exact (Bool.and_true _).symm) w hT
 ·
  exact kmayN f m h0 h1 m0 l L g z c w hl hL hb (zJ h4) o ho hT
theorem kdt_no3 (f m:Int)(o1 o2:Option Addr)(L1 c1 L2 c2:Nat)(w:World)(hne:(((L1:Nat):Int) == ((L2:Nat):Int))=false)(hn2:(((L1:Nat):Int)=((L2:Nat):Int))=False)(hn3:(L1=L2)=False)(hn4:(((L1:Nat):Int) != ((L2:Nat):Int))=true)(hT:y6 w):Calls Tryz.prog 19 #[.int .u8 f,.int .u8 m,.slice o1 L1 c1,.slice o2 L2 c2] w fun r w'=>r=.returned (.tuple #[.agg #[.int .u64 0,.int .u64 0],.int .u8 0,.int .i64 2])/\Below w.heap.size w w':=by
 have FF:=zJ hT;clear hT;obtain⟨Aa,B0⟩:=yR w (Obj.cells #[.int .u64 0,.int .u64 0] 26)
 go_enter Tryz.func19,Tryz.ntmps19
 clear B0 Aa;go_wp2
 exact bodyPost_ret (v:=.tuple #[.agg #[.int .u64 0,.int .u64 0],.int .u8 0,.int .i64 2]) (by simp [results,Tryz.results19,go_sem]) rfl ⟨rfl,((Below.refl _ _).alloc (by first|omega|(simp only [zM];omega)) _)⟩
theorem kdt_no1 (f m:Int)(o1 o2:Option Addr)(L1 c1 c2:Nat)(w:World)(K1:zW (∀ W,y6 W->Below w.heap.size w W->Calls Tryz.prog 32 #[.int .u8 f,.int .u8 m,.slice o1 L1 c1] W fun r w'=>r=.returned (.bool false)/\Below W.heap.size W w'))(hT:y6 w):Calls Tryz.prog 19 #[.int .u8 f,.int .u8 m,.slice o1 L1 c1,.slice o2 L1 c2] w fun r w'=>r=.returned (.tuple #[.agg #[.int .u64 0,.int .u64 0],.int .u8 0,.int .i64 2])/\Below w.heap.size w w':=by
 have FF:=zJ hT;clear hT;obtain⟨Ab,B0⟩:=yR w (Obj.cells #[.int .u64 0,.int .u64 0] 26)
 go_enter Tryz.func19,Tryz.ntmps19
 go_wp2_with fail
 refine (K1.out _ (z7 FF.out B0) B0).mono ?_;rintro r w1 ⟨rfl,b1⟩;have B1:=zS B0 b1;have Aa:=zA b1 _ _ _ Ab;clear b1 B0 Ab;obtain⟨Ac,Ad⟩:=zC Aa;have q0:=fz (k:=0) Aa;have q1:=fz (k:=1) Aa;obtain⟨E0,E1⟩:=zQ Aa (.int .u64 0) (.int .u64 0);go_wp2
 exact bodyPost_ret (v:=.tuple #[.agg #[.int .u64 0,.int .u64 0],.int .u8 0,.int .i64 2]) (by simp [results,Tryz.results19,go_sem,E0,E1]) rfl ⟨rfl,zN B1 (by first|exact Nat.le_refl _|omega|(skip;omega)) _ _⟩
theorem kdt_no2 (f m:Int)(o1 o2:Option Addr)(L1 c1 c2:Nat)(w:World)(K1:zW (∀ W,y6 W->Below w.heap.size w W->Calls Tryz.prog 32 #[.int .u8 f,.int .u8 m,.slice o1 L1 c1] W fun r w'=>r=.returned (.bool true)/\Below W.heap.size W w'))(K2:zW (∀ W,y6 W->Below w.heap.size w W->Calls Tryz.prog 32 #[.int .u8 f,.int .u8 m,.slice o2 L1 c2] W fun r w'=>r=.returned (.bool false)/\Below W.heap.size W w'))(hT:y6 w):Calls Tryz.prog 19 #[.int .u8 f,.int .u8 m,.slice o1 L1 c1,.slice o2 L1 c2] w fun r w'=>r=.returned (.tuple #[.agg #[.int .u64 0,.int .u64 0],.int .u8 0,.int .i64 2])/\Below w.heap.size w w':=by
 have FF:=zJ hT;clear hT;obtain⟨Ac,B0⟩:=yR w (Obj.cells #[.int .u64 0,.int .u64 0] 26)
 go_enter Tryz.func19,Tryz.ntmps19
 go_wp2_with fail
 refine (K1.out _ (z7 FF.out B0) B0).mono ?_;rintro r w1 ⟨rfl,b1⟩;have B1:=zS B0 b1;have Ab:=zA b1 _ _ _ Ac;clear b1 B0 Ac;obtain⟨Ad,Ae⟩:=zC Ab;go_wp2_with fail
 refine (K2.out _ (z7 FF.out B1) B1).mono ?_;rintro r w2 ⟨rfl,b2⟩;have B2:=zS B1 b2;have Aa:=zA b2 _ _ _ Ab;clear b2 B1 Ab Ad Ae;obtain⟨Af,Ag⟩:=zC Aa;have q0:=fz (k:=0) Aa;have q1:=fz (k:=1) Aa;obtain⟨E0,E1⟩:=zQ Aa (.int .u64 0) (.int .u64 0);go_wp2
 exact bodyPost_ret (v:=.tuple #[.agg #[.int .u64 0,.int .u64 0],.int .u8 0,.int .i64 2]) (by simp [results,Tryz.results19,go_sem,E0,E1]) rfl ⟨rfl,zN B2 (by first|exact Nat.le_refl _|omega|(skip;omega)) _ _⟩
theorem kdt_zero (f m:Int)(o1 o2:Option Addr)(c1 c2:Nat)(w:World)(K1:zW (∀ W,y6 W->Below w.heap.size w W->Calls Tryz.prog 32 #[.int .u8 f,.int .u8 m,.slice o1 0 c1] W fun r w'=>r=.returned (.bool true)/\Below W.heap.size W w'))(K2:zW (∀ W,y6 W->Below w.heap.size w W->Calls Tryz.prog 32 #[.int .u8 f,.int .u8 m,.slice o2 0 c2] W fun r w'=>r=.returned (.bool true)/\Below W.heap.size W w'))(hT:y6 w):Calls Tryz.prog 19 #[.int .u8 f,.int .u8 m,.slice o1 0 c1,.slice o2 0 c2] w fun r w'=>r=.returned (.tuple #[.agg #[.int .u64 0,.int .u64 0],.int .u8 0,.int .i64 0])/\Below w.heap.size w w':=by
 have FF:=zJ hT;clear hT;obtain⟨Ae,B0⟩:=yR w (Obj.cells #[.int .u64 0,.int .u64 0] 26)
 go_enter Tryz.func19,Tryz.ntmps19
 go_wp2_with fail
 refine (K1.out _ (z7 FF.out B0) B0).mono ?_;rintro r w1 ⟨rfl,b1⟩;go_wp2_with fail
 refine (K2.out _ (z7 FF.out (zS B0 b1)) (zS B0 b1)).mono ?_;rintro r w2 ⟨rfl,b2⟩;go_wp2
 have Ac:=zA (zS b1 b2) _ _ _ Ae;have Ab:=heap_alloc_last w2 (.cells #[.int .u64 0,.int .u64 0] 26);have b3:=yK w2 (.cells #[.int .u64 0,.int .u64 0] 26);have Ad:=zA b3 _ _ _ Ac;have B2:=zS (zS (zS B0 b1) b2) b3;have gz:=(Array.getElem?_eq_some_iff.1 Ac).1;obtain⟨gs,hgs⟩:∃ g,w2.heap.size=g:=⟨_,rfl⟩;obtain⟨V,hV⟩:∃ V,w2.alloc (.cells #[.int .u64 0,.int .u64 0] 26)=V:=⟨_,rfl⟩;rw [hV] at Ab Ad B2 ⊢;rw [hgs] at Ab gz ⊢;clear hV hgs Ac b3 b2 b1 B0 Ae K1 K2
 go_loopw [12,40] (fun av iv wr=>iv=.int .i64 0/\av=.int .u8 0/\wr=V) (fun _ _ _=>0)
 case atStart=>exact⟨rfl,rfl,rfl⟩
 case round=>
  obtain⟨rfl,rfl,rfl⟩:=hrel;obtain⟨w20,hw⟩:∃ w20,w20=wr:=⟨_,rfl⟩;subst hw;have B20:=B2;have Aa:=Ad;have Af:=Ab;clear B2 Ad Ab;obtain⟨Ag,Ah⟩:=zC Aa;obtain⟨Ag,Ah⟩:=zC Aa;obtain⟨Ai,Aj⟩:=zC Af;have q0:=fz (k:=0) Aa;have q1:=fz (k:=1) Aa;obtain⟨E0,E1⟩:=zQ Aa (.int .u64 0) (.int .u64 0);go_wp2
  exact bodyPost_ret (v:=.tuple #[.agg #[.int .u64 0,.int .u64 0],.int .u8 0,.int .i64 0]) (by simp [results,Tryz.results19,go_sem,E0,E1]) rfl ⟨rfl,zN B20 (by first|exact Nat.le_refl _|omega|(skip;omega)) _ _⟩
theorem kDot_is (f m:Int)(h0:0<=f)(h1:f<=255)(m0:0<=m)(l1 l2:List (Nat×Nat))(L1 L2:Nat)(hl1:l1.length=L1)(hl2:l2.length=L2)(q1:L1<=1000)(q2:L2<=1000)(hb1:zW (∀ p ∈ l1,p.1<18446744073709551616/\p.2<18446744073709551616))(hb2:zW (∀ p ∈ l2,p.1<18446744073709551616/\p.2<18446744073709551616))(rp:Nat×Nat)(ra:Int)(hr:dtR f m l1 l2=(rp,ra))(s1 s2:Value)(w:World)(v1:SV l1 L1 s1 w)(v2:SV l2 L2 s2 w)(hT:y6 w) :
  Calls Tryz.prog 19 #[.int .u8 f,.int .u8 m,s1,s2] w fun r w'=>r=.returned (.tuple #[.agg #[.int .u64 (rp.1:Nat),.int .u64 (rp.2:Nat)],.int .u8 ra,.int .i64 (if dtB f m l1 l2 then 0 else 2)])/\Below w.heap.size w w':=by
 have K1:∀ o,(decide (f<=3/\m<=4) && l1.all (okP f))=o->zW (∀ W,y6 W->Below w.heap.size w W->Calls Tryz.prog 32 #[.int .u8 f,.int .u8 m,s1] W fun r w'=>r=.returned (.bool o)/\Below W.heap.size W w'):=fun o ho=>zJ (fun W hT b=>kmayS f m h0 h1 m0 l1 L1 s1 W hl1 q1 hb1 (sv_later v1 b) o ho hT);have K2:∀ o,(decide (f<=3/\m<=4) && l2.all (okP f))=o->zW (∀ W,y6 W->Below w.heap.size w W->Calls Tryz.prog 32 #[.int .u8 f,.int .u8 m,s2] W fun r w'=>r=.returned (.bool o)/\Below W.heap.size W w'):=fun o ho=>zJ (fun W hT b=>kmayS f m h0 h1 m0 l2 L2 s2 W hl2 q2 hb2 (sv_later v2 b) o ho hT)
 have no:dtB f m l1 l2=false->(rp,ra)=(((0,0):Nat×Nat),(0:Int)):=fun h=>by
  rw [<-hr]
  unfold dtR
  rw [h]
  rfl
 have key:L1=L2∨L1≠L2:=by omega
 rcases key with a3|a3
 case inr=>
  have d:dtB f m l1 l2=false:=by unfold dtB;rw [hl1,hl2,decide_eq_false a3,Bool.and_false]
  injection no d with e1 e2;subst e1 e2;rw [d];obtain⟨o1,c1,rfl⟩:=sv_slice v1;obtain⟨o2,c2,rfl⟩:=sv_slice v2;exact kdt_no3 f m o1 o2 L1 c1 L2 c2 w (beq_eq_false_iff_ne.2 (by omega)) (eq_false (by omega)) (eq_false a3) (bne_iff_ne.2 (by omega)) hT
 cases a1:(decide (f<=3/\m<=4) && l1.all (okP f))
 ·
  have d:dtB f m l1 l2=false:=by unfold dtB;rw [a1];rfl
  injection no d with e1 e2;subst e1 e2;rw [d];obtain⟨o1,c1,rfl⟩:=sv_slice v1;obtain⟨o2,c2,rfl⟩:=sv_slice v2;subst a3;exact kdt_no1 f m o1 o2 L1 c1 c2 w (K1 false a1) hT
 cases a2:(decide (f<=3/\m<=4) && l2.all (okP f))
 ·
  have d:dtB f m l1 l2=false:=by unfold dtB;rw [a1,a2];rfl
  injection no d with e1 e2;subst e1 e2;rw [d];obtain⟨o1,c1,rfl⟩:=sv_slice v1;obtain⟨o2,c2,rfl⟩:=sv_slice v2;subst a3;exact kdt_no2 f m o1 o2 L1 c1 c2 w (K1 true a1) (K2 false a2) hT
 subst a3;have d:dtB f m l1 l2=true:=by unfold dtB;rw [a1,a2,hl1,hl2,decide_eq_true rfl];rfl
 unfold dtR at hr
 rw [d,if_pos rfl] at hr;rw [d];have g1:=a1;have g2:=a2;rw [Bool.and_eq_true,decide_eq_true_iff,List.all_eq_true] at g1 g2;obtain⟨⟨c1,c2⟩,hall1⟩:=g1;have hall2:=g2.2;have hf:=is4_of h0 c1;have hm:0<=m/\m<=4:=⟨m0,c2⟩;have hok1:∀ p ∈ l1,okQ f p:=fun p hp=>⟨(hb1.out p hp).1,(hb1.out p hp).2,hall1 p hp⟩;have hok2:∀ p ∈ l2,okQ f p:=fun p hp=>⟨(hb2.out p hp).1,(hb2.out p hp).2,hall2 p hp⟩
 rcases v1 with ⟨o1,c1,z1,rfl⟩|⟨j1,z1,c1,h11,h12,rfl,h14⟩
 ·
  subst z1;obtain rfl:l1=[]:=List.eq_nil_of_length_eq_zero hl1;injection hr with e1 e2;subst e1 e2
  rcases v2 with ⟨o2,c2,z2,rfl⟩|⟨j2,z2,c2,h21,h22,rfl,h24⟩
  ·
   exact kdt_zero f m o1 o2 c1 c2 w (K1 true a1) (K2 true a2) hT
  ·
   exact absurd h21 (by decide)
 ·
  rcases v2 with ⟨o2,c2,z2,rfl⟩|⟨j2,z2,c2,h21,h22,rfl,h24⟩
  ·
   omega
  ·
   exact kdt_list f m (st3 (fmaR f m)) (okQ f) (zJ (fun p q s hp hq hs=>st3_ok hf m p q s hs)) l1 l2 L1 j1 z1 c1 j2 z2 c2 w hl1 hl2 q1 (zero_okQ hf) (zJ hok1) (zJ hok2) (zJ h14) (zJ h24) (K1 true a1) (K2 true a2)
    (zJ (fun p q s hp hq hs w hT=>kfused_is f m hf hm p.1 p.2 (nQ p) q.1 q.2 (nQ q) s.1 s.2 (nQ s) hp.1 hp.2.1 hq.1 hq.2.1 hs.1 hs.2.1 rfl rfl rfl hp.2.2 hq.2.2 hs.2.2 _ _ rfl _ _ rfl w hT)) rp ra (zJ hr) hT
theorem lat_cases {w:World} {v:Value} (h:LAt w v):∃ (l:List (Nat×Nat)) (L:Nat),l.length=L/\(∀ p ∈ l,p.1<18446744073709551616/\p.2<18446744073709551616)/\((L=0/\v=.slice none 0 0)∨(∃ (o:Addr) (c:Nat),L=0/\v=.slice (some o) 0 c)∨(∃ (g z c:Nat),1<=L/\L<=c/\v=.slice (some ⟨g,z,none⟩) L c/\zW (∀ W,Below w.heap.size w W->∀ k p,l[k]?=some p->W.cell? ⟨g,z+k*2,none⟩=some (.int .u64 (p.1:Nat))/\W.cell? ⟨g,z+k*2+1,none⟩=some (.int .u64 (p.2:Nat))))):=by
 rcases h with rfl|⟨a,l,L,c,rfl,hl,hc,ha,hb,HC⟩
 ·
  exact⟨[],0,rfl,fun p hp=>absurd hp List.not_mem_nil,Or.inl ⟨rfl,rfl⟩⟩
 ·
  refine ⟨l,L,hl,hb,Or.inr ?_⟩
  rcases Nat.eq_zero_or_pos L with z|z
  ·
   subst z;exact Or.inl ⟨a,c,rfl,rfl⟩
  ·
   obtain⟨g,o,sp⟩:=a;obtain rfl:sp=none:=ha.resolve_left (by omega);exact Or.inr ⟨g,o,c,z,hc,rfl,zJ (fun W bW k p hk=>⟨cellB bW (HC k p hk).1,cellB bW (HC k p hk).2⟩)⟩
theorem dots_all (f m:Int)(hf:(Lit.int .u8 f).wf=true)(hm:(Lit.int .u8 m).wf=true)(v1 v2:Value)(w:World)(h1:LAt w v1)(h2:LAt w v2)(hT:y6 w):Calls Tryz.prog 6 #[.int .u8 f,.int .u8 m,v1,v2] w fun r w'=>r=.returned (.bool true)/\Below w.heap.size w w':=by
 have b0:=bounds_u8 hf;have b1:=bounds_u8 hm;have KA:=zJ r15alive;obtain⟨l1,L1,hl1,hb1,k1⟩:=lat_cases h1;obtain⟨l2,L2,hl2,hb2,k2⟩:=lat_cases h2;obtain⟨rp,ra,hr⟩:∃ rp ra,dtR f m l1 l2=(rp,ra):=⟨_,_,rfl⟩
 by_cases g1:40<L1
 ·
  have e1:∃ o c,v1=.slice o L1 c:=by
   rcases k1 with ⟨e,_⟩|⟨o,c,e,_⟩|⟨g,z,c,_,_,e,_⟩
   ·
    omega
   ·
    omega
   ·
    exact⟨_,_,e⟩
  have e2:∃ o c,v2=.slice o L2 c:=by
   rcases k2 with ⟨e,q⟩|⟨o,c,e,q⟩|⟨g,z,c,_,_,q,_⟩
   ·
    subst e;exact⟨_,_,q⟩
   ·
    subst e;exact⟨_,_,q⟩
   ·
    exact⟨_,_,q⟩
  obtain⟨o1,c1,rfl⟩:=e1;obtain⟨o2,c2,rfl⟩:=e2;exact fd_long1 f m o1 o2 L1 c1 L2 c2 w g1 KA hT
 by_cases g2:40<L2
 ·
  have e1:∃ o c,v1=.slice o L1 c:=by
   rcases k1 with ⟨e,q⟩|⟨o,c,e,q⟩|⟨g,z,c,_,_,q,_⟩
   ·
    subst e;exact⟨_,_,q⟩
   ·
    subst e;exact⟨_,_,q⟩
   ·
    exact⟨_,_,q⟩
  have e2:∃ o c,v2=.slice o L2 c:=by
   rcases k2 with ⟨e,_⟩|⟨o,c,e,_⟩|⟨g,z,c,_,_,e,_⟩
   ·
    omega
   ·
    omega
   ·
    exact⟨_,_,e⟩
  obtain⟨o1,c1,rfl⟩:=e1;obtain⟨o2,c2,rfl⟩:=e2;exact fd_long2 f m o1 o2 L1 c1 L2 c2 w (by omega) g2 KA hT
 have KP:zW (∀ (W:World) (s1 s2:Value),y6 W->SV l1 L1 s1 W->SV l2 L2 s2 W->Calls Tryz.prog 19 #[.int .u8 f,.int .u8 m,s1,s2] W fun r w'=>r=.returned (.tuple #[.agg #[.int .u64 (rp.1:Nat),.int .u64 (rp.2:Nat)],.int .u8 ra,.int .i64 (if dtB f m l1 l2 then 0 else 2)])/\Below W.heap.size W w'):=zJ (fun W s1 s2 hT q1 q2=>kDot_is f m b0.1 b0.2 b1.1 l1 l2 L1 L2 hl1 hl2 (by omega) (by omega) (zJ hb1) (zJ hb2) rp ra hr s1 s2 W q1 q2 hT);have KQ:zW (∀ (W:World) (s1 s2:Value),SV l1 L1 s1 W->SV l2 L2 s2 W->Calls Tryz.prog 20 #[.int .u8 f,.int .u8 m,s1,s2] W fun r w'=>r=.returned (.tuple #[.agg #[.int .u64 (rp.1:Nat),.int .u64 (rp.2:Nat)],.int .u8 ra,.int .i64 (if dtB f m l1 l2 then 0 else 2)])/\Below W.heap.size W w'):=zJ (fun W s1 s2 q1 q2=>rDot_is f m b0.1 b1.1 l1 l2 L1 L2 hl1 hl2 (by omega) (by omega) (zJ hb1) (zJ hb2) rp ra hr s1 s2 W q1 q2);have he:IntKind.i64.wrap (if dtB f m l1 l2 then 0 else 2)=(if dtB f m l1 l2 then 0 else 2):=by cases dtB f m l1 l2 <;> decide
 generalize (if dtB f m l1 l2 then (0:Int) else 2)=e at KP KQ he
 rcases k1 with ⟨z1,rfl⟩|⟨a1,c1,z1,rfl⟩|⟨j1,y1,c1,p1,p2,rfl,HC1⟩
 ·
  rcases k2 with ⟨z2,rfl⟩|⟨a2,c2,z2,rfl⟩|⟨j2,y2,c2,p3,p4,rfl,HC2⟩
  ·
   exact fd_ZZ f m l1 l2 L1 L2 w z1 z2 rp.1 rp.2 ra e he KP KQ KA hT
  ·
   exact fd_ZS f m l1 l2 L1 L2 w z1 a2 c2 z2 rp.1 rp.2 ra e he KP KQ KA hT
  ·
   exact fd_ZN f m l1 l2 L1 L2 w z1 j2 y2 c2 hl2 p3 (by omega) p4 HC2 rp.1 rp.2 ra e he KP KQ KA hT
 ·
  rcases k2 with ⟨z2,rfl⟩|⟨a2,c2,z2,rfl⟩|⟨j2,y2,c2,p3,p4,rfl,HC2⟩
  ·
   exact fd_SZ f m l1 l2 L1 L2 w a1 c1 z1 z2 rp.1 rp.2 ra e he KP KQ KA hT
  ·
   exact fd_SS f m l1 l2 L1 L2 w a1 c1 z1 a2 c2 z2 rp.1 rp.2 ra e he KP KQ KA hT
  ·
   exact fd_SN f m l1 l2 L1 L2 w a1 c1 z1 j2 y2 c2 hl2 p3 (by omega) p4 HC2 rp.1 rp.2 ra e he KP KQ KA hT
 ·
  rcases k2 with ⟨z2,rfl⟩|⟨a2,c2,z2,rfl⟩|⟨j2,y2,c2,p3,p4,rfl,HC2⟩
  ·
   exact fd_NZ f m l1 l2 L1 L2 w j1 y1 c1 hl1 p1 (by omega) p2 HC1 z2 rp.1 rp.2 ra e he KP KQ KA hT
  ·
   exact fd_NS f m l1 l2 L1 L2 w j1 y1 c1 hl1 p1 (by omega) p2 HC1 a2 c2 z2 rp.1 rp.2 ra e he KP KQ KA hT
  ·
   exact fd_NN f m l1 l2 L1 L2 w j1 y1 c1 hl1 p1 (by omega) p2 HC1 j2 y2 c2 hl2 p3 (by omega) p4 HC2 rp.1 rp.2 ra e he KP KQ KA hT
end Go.Proofs.YtapikkbifdldfaaGreatDoor
