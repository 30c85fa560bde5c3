/-
  What the functions that the statement reaches return: part 9 (DG, DH, DI, DJ).
-/
import Derived.Maps.OwnIn
import Derived.DeepKeys4
import Derived.Maps.OwnSet
import Derived.Stop.RegionWithIn
import Derived.Deep.RegionWith
import Derived.Laws.IdiomStrings
import Derived.Lib.AppendStr
import Derived.Test.YtfdhglllmhggkaaDoorRa08
namespace Go.Proofs.YtfdhglllmhggkaaDoor
set_option maxRecDepth 100000
set_option maxHeartbeats 40000000
set_option maxRecDepth 100000
open Go.RowKit Go.Shelf WMath
set_option linter.unusedVariables false
set_option linter.unusedSimpArgs false
attribute [local go_sem] Oper.semAt_some

theorem own_grown24 {W W' : World} {base : Nat} {e : TypeId} {size n : Nat} {v : Value} {xs : List Value} {row : Option Nat} (h : W.ownsRow base e size v n xs) (hg : W.grownBy W' row) (hr : ∀ r, row = some r → ∃ o : Obj, W.heap[r]? = some o ∧ o.isCells = false) : W'.ownsRow base e size v n xs := by
  refine h.kept hg ?_
  by_cases z : v.ownBlock = none
  · exact .inl z
  · right
    intro q
    rcases h.2 with ⟨a, _⟩ | ⟨g, cap, cur, a1, a2, a3, _⟩
    · exact z (by rw [a]; rfl)
    · have hv : v.ownBlock = some g := by rw [a1]; rfl
      obtain ⟨o, h1, h2⟩ := hr g (by rw [← q, hv])
      rw [a3] at h1
      cases h1
      exact absurd h2 (by simp [Obj.isCells])
theorem own_below24 {W W' : World} {base : Nat} {e : TypeId} {size n : Nat} {v : Value} {xs : List Value} (h : W.ownsRow base e size v n xs) (hb : Below W.heap.size W W') : W'.ownsRow base e size v n xs :=
  own_grown24 h (below_grown24 hb) (fun r e => by cases e)
theorem own_slice24 {w : World} {base : Nat} {e : TypeId} {size n : Nat} {v : Value} {xs : List Value} (h : w.ownsRow base e size v n xs) (hn : 0 < n) : ∃ g cap, v = .slice (some ⟨g, 0, none⟩) n cap := by
  rcases h.2 with ⟨_, q⟩ | ⟨g, cap, cur, h1, _⟩
  · omega
  · exact ⟨g, cap, h1⟩
theorem own_rws24 {w : World} {base : Nat} {v : Value} {l : List Rw} (h : w.ownsRow base 36 7 v l.length (rwsC l)) (hl : 0 < l.length) : ∃ g cap cur, v = .slice (some ⟨g, 0, none⟩) l.length cap ∧ base ≤ g ∧ w.heap[g]? = some (.cells cur 36) ∧ ∀ k p, l[k]? = some p → ∀ j u, j < 7 → (rwC p)[j]? = some u → cur[k * 7 + j]? = some u := by
  rcases h.2 with ⟨_, q⟩ | ⟨g, cap, cur, h1, h2, h3, h4, h5, h6, h7⟩
  · omega
  · refine ⟨g, cap, cur, h1, h2, h3, fun k p hp j u hj hu => ?_⟩
    have hk : k < l.length := (List.getElem?_eq_some_iff.1 hp).1
    have hlt : k * 7 + j < l.length * 7 := by omega
    have a := rwsC_at l k j p hp hj
    have hu2 : (rwC p).toList[j]? = some u := by simpa using hu
    rw [hu2, ← h7, List.getElem?_take_of_lt hlt] at a
    simpa using a
def preR (k : Nat) : List Rw := (List.range k).flatMap rwsO
theorem preR_next (k : Nat) : preR (k + 1) = preR k ++ rwsO k := by simp [preR, List.range_succ]
theorem preR_all : preR 32 = allL.map (·.1) := rwsO_all
theorem preR_len {k : Nat} (h : k ≤ 32) : (preR k).length ≤ 136 := by
  have q : preR k <+: preR 32 := fm_pre _ (range_pre h)
  have := q.length_le
  rw [preR_all, List.length_map, allL_len] at this
  exact this
theorem rws_OwnsRws {w V : World} {v : Value} (hb : Below w.heap.size w V) (ho : V.ownsRow (w.heap.size + 1) 36 7 v (preR 32).length (rwsC (preR 32))) : OwnsRws w V v := by
  have hl : (preR 32).length = 136 := by rw [preR_all, List.length_map, allL_len]
  obtain ⟨g, cap, cur, h1, h2, h3, h4⟩ := own_rws24 ho (by rw [hl]; decide)
  refine ⟨g, cap, by rw [h1, hl], by omega, ⟨cur, h3, fun k p _ hp j u hj hu => h4 k p.1 ?_ j u hj hu⟩, hb⟩
  rw [preR_all, List.getElem?_map, hp]
  rfl
theorem OwnsRws.put {w V : World} {v : Value} {D : Nat} {l : Option (List Deferred)} {o : Obj} (h : OwnsRws w V v) (hD : w.heap.size ≤ D) (hd : V.heap[D]? = some (.deferred l)) : OwnsRws w (V.putObj D o) v := by
  obtain ⟨g, cap, h1, h2, ⟨cur, h3, h4⟩, h5⟩ := h
  exact ⟨g, cap, h1, h2, ⟨cur, put_cells24 hd h3, h4⟩, below_put24 h5 hD⟩
structure RwK (w : World) (L : List Rw) (Ds : List Nat) (V : World) : Prop where
  b : Below w.heap.size w V
  d : Marks w.heap.size Ds V
  o : ∃ v, V.heap[w.heap.size]? = some (.cells #[v] 24) ∧ V.ownsRow (w.heap.size + 1) 36 7 v L.length (rwsC L)
theorem RwK.below {w V W : World} {L : List Rw} {Ds : List Nat} (h : RwK w L Ds V) (hb : Below V.heap.size V W) : RwK w L Ds W := by
  obtain ⟨v, h1, h2⟩ := h.o
  exact ⟨h.b.trans (hb.mono h.b.size), h.d.below hb, v, heap_of hb _ _ _ h1, own_below24 h2 hb⟩
structure RwM (w W0 : World) (k B M : Nat) (L : List Rw) (Ds : List Nat) (V : World) : Prop where
  b : Below w.heap.size w V
  d : Marks w.heap.size Ds V
  z : W0.heap.size ≤ V.heap.size
  e : V.heap[B]? = some (.cells #[.int .u8 (k : Nat)] 30)
  o : ∃ v, V.heap[w.heap.size]? = some (.cells #[v] 24) ∧ V.ownsRow (w.heap.size + 1) 36 7 v L.length (rwsC L) ∧ (∀ E, v.ownBlock = some E → E < W0.heap.size ∨ M ≤ E) ∧ v.ownBlock ≠ some B
theorem RwM.start {w W0 : World} {k B M : Nat} {L : List Rw} {Ds : List Nat} (h : RwK w L Ds W0) (hB : W0.heap[B]? = some (.cells #[.int .u8 (k : Nat)] 30)) (hv : ∀ v, W0.heap[w.heap.size]? = some (.cells #[v] 24) → v.ownBlock ≠ some B) (hM : W0.heap.size ≤ M) : RwM w W0 k B M L Ds W0 := by
  obtain ⟨v, h1, h2⟩ := h.o
  exact ⟨h.b, h.d, Nat.le_refl _, hB, v, h1, h2, fun E hE => .inl (h2.lt E hE).2, hv v h1⟩
theorem RwM.grown {w W0 : World} {k B' M : Nat} {L : List Rw} {Ds : List Nat} {A B : World} {row : Option Nat} (h : RwM w W0 k B' M L Ds A) (hD : ∀ D ∈ Ds, D < W0.heap.size) (h0 : w.heap.size < W0.heap.size) (hB : B' < W0.heap.size) (hg : A.grownBy B row) (hr : ∀ r, row = some r → W0.heap.size ≤ r ∧ ∃ o : Obj, A.heap[r]? = some o ∧ o.isCells = false) : RwM w W0 k B' M L Ds B := by
  obtain ⟨v, h1, h2, h3, h4⟩ := h.o
  refine ⟨h.b.grown hg h.b.size (fun r e => by have := (hr r e).1; omega), ⟨h.d.1, fun D hDm => ⟨(h.d.2 D hDm).1, row_grq (h.d.2 D hDm).2 hg (fun r e => (hr r e).1) (hD D hDm)⟩⟩, Nat.le_trans h.z hg.size, row_grq h.e hg (fun r e => (hr r e).1) hB, v, row_grq h1 hg (fun r e => (hr r e).1) h0, own_grown24 h2 hg (fun r e => (hr r e).2), h3, h4⟩
theorem RwM.step {w W0 : World} {k B M : Nat} {L : List Rw} {x : Rw} {Ds : List Nat} {V W6 : World} {v v' : Value} (h : RwM w W0 k B M L Ds V) (hv : V.heap[w.heap.size]? = some (.cells #[v] 24)) (hM : M ≤ V.heap.size) (h0 : w.heap.size < W0.heap.size) (hM0 : W0.heap.size ≤ M) (hB0 : w.heap.size < B)
    (own : W6.ownsRow (w.heap.size + 1) 36 7 v' (L.length + 1) (rwsC L ++ (rwC x).toList)) (gr : (V.alloc (.cells (rwC x) 36)).grownBy W6 v.ownBlock) (blk : v'.ownBlock = v.ownBlock ∨ v'.ownBlock = some (V.alloc (.cells (rwC x) 36)).heap.size) :
    TopM W0.heap.size M V (W6.setCell ⟨w.heap.size, 0, none⟩ v') ∧ RwM w W0 k B M (L ++ [x]) Ds (W6.setCell ⟨w.heap.size, 0, none⟩ v') := by
  obtain ⟨u, h1, h2, h3, h4⟩ := h.o
  rw [hv] at h1
  simp only [Option.some.injEq, Obj.cells.injEq, Array.mk.injEq, List.cons.injEq, and_true] at h1
  obtain rfl := h1
  have sz : (V.alloc (.cells (rwC x) 36)).heap.size = V.heap.size + 1 := by simp only [size_al]
  have s6 := gr.size
  rw [sz] at s6 blk
  -- a block of V that is not the row's own stands as it stood
  have keep : ∀ q, q < V.heap.size → v.ownBlock ≠ some q → W6.heap[q]? = V.heap[q]? := fun q hq hn => (gr.block q (by omega) (fun e => hn e.symm)).trans (Below.heap_alloc V _ q hq)
  have keepO : ∀ q o, V.heap[q]? = some o → v.ownBlock ≠ some q → W6.heap[q]? = some o := fun q o hq hn => (keep q (Array.getElem?_eq_some_iff.1 hq).1 hn).trans hq
  have hg0 : v.ownBlock ≠ some w.heap.size := fun e => by have := (h2.lt _ e).1; omega
  have r6 := keepO _ _ hv hg0
  have hbs := h.b.size
  refine ⟨⟨by have := ((Below.refl 0 W6).setCell (p := ⟨w.heap.size, 0, none⟩) (Nat.zero_le _) v').size; omega, fun q a b => ?_⟩, ⟨?_, ?_, ?_, ?_, v', ?_, ?_, ?_, ?_⟩⟩
  · rw [setCell_other (by omega)]
    refine keep q (by omega) (fun e => ?_)
    rcases h3 q e with z | z <;> omega
  · refine Below.setCell (p := ⟨w.heap.size, 0, none⟩) ?_ (Nat.le_refl _) _
    exact ((h.b.trans ((bal V (.cells (rwC x) 36)).mono hbs)).grown gr (by omega) (fun q e => by have := (h2.lt q e).1; omega))
  · refine ⟨h.d.1, fun D hD => ⟨(h.d.2 D hD).1, ?_⟩⟩
    have hd := (h.d.2 D hD).2
    rw [setCell_other (fun e => by subst e; rw [hv] at hd; cases hd)]
    refine keepO D _ hd (fun e => ?_)
    rcases h2.2 with ⟨a, _⟩ | ⟨g, cap, cur, a1, a2, a3, _⟩
    · rw [a] at e; cases e
    · have hvv : v.ownBlock = some g := by rw [a1]; rfl
      rw [hvv] at e
      cases e
      rw [a3] at hd
      cases hd
  · have := ((Below.refl 0 W6).setCell (p := ⟨w.heap.size, 0, none⟩) (Nat.zero_le _) v').size
    have := h.z
    omega
  · rw [setCell_other (by omega)]
    exact keepO B _ h.e h4
  · rw [setCell_row r6]; rfl
  · have e : rwsC (L ++ [x]) = rwsC L ++ (rwC x).toList := by rw [rwsC_app]; simp [rwsC]
    rw [e, List.length_append]
    exact own_setq own (by omega)
  · intro E hE
    rcases blk with z | z
    · rw [z] at hE; exact h3 E hE
    · rw [z] at hE; cases hE; right; omega
  · rcases blk with z | z
    · rw [z]; exact h4
    · rw [z]
      intro e
      cases e
      have := (Array.getElem?_eq_some_iff.1 h.e).1
      omega
theorem wplIn_rw24 {F : Fence} {n : Nat} {ops : Array Oper} {rest : List Oper} {o : Oper} {a : Act} {w : World} {Q : Exit → Act → World → Prop} (hg : o.guard = none) (parts : Array (Nat × Operand)) (ho : o.op = .buildSlice 24 1 parts) (x : Operand) (hp : parts = #[(0, x)]) (r : Rw) (hx : a.eval x = .agg (rwC r))
    (h : wpListIn F n Tryd.prog ops Q rest (a.put o.dst (.slice (some ⟨w.heap.size, 0, none⟩) 1 1)) (w.alloc (.cells (rwC r) 36))) : wpListIn F n Tryd.prog ops Q (o :: rest) a w := by
  obtain ⟨i0, hi, hz0, hz1, hz2⟩ := info_parts (show (Tryd.prog.info? 36).map (fun i => (i.zero, i.size, i.bytes)) = some (some (.agg #[.int .u8 0, .int .u8 0, .int .u8 0, .int .u8 0, .int .u32 0, .int .u32 0, .int .u8 0]), 7, 16) by kernel_rfl)
  subst hp
  refine wpListIn_plain hg fun K hK => ?_
  have hrun := run_buildSlice (P := Tryd.prog) w 24 36 1 (#[(0, x)].map fun (i, x) => (i, a.eval x)) (rwC r) i0 _ Tryd.underlying24 hi hz0 (by rw [hz1]; decide) (by rw [hz1]; decide) (by
    rw [hz1]
    simp only [List.map_toArray, List.map_cons, List.map_nil, hx]
    kernel_rfl)
  unfold Oper.wpIn
  refine ⟨?_, ?_⟩
  · simp [Oper.about, ho]
  · rw [Oper.semAt_plain F _ _ (by rw [ho]; intro c hc'; cases hc')]
    simp only [execOp, ho, Sem.run_bind, hrun, Result.andThen_ok]
    exact hK _ _ h
set_option maxRecDepth 100000 in
set_option maxHeartbeats 8000000 in
theorem t_rows (hE : ∀ args w, (callFunc 33 args).run Tryd.prog w = .ok (.enter 33 args) w) (w : World) (hT : T24 w) : Calls Tryd.prog 10 #[] w fun r w' => ∃ v, r = .returned v ∧ OwnsRws w w' v := by
  have FF := box hT
  refine (callsIn_wide (n := 6)).1 ?_
  refine callsIn_of_wp_marks Tryd.func10 rfl trivial ?_ rfl
  refine wpIn_wide.2 ?_
  simp only [Tryd.ntmps10, List.size_toArray, List.length_cons, List.length_nil, Nat.reduceAdd, Nat.reduceSub, Array.replicate_succ, Array.replicate_zero, List.push_toArray, List.append_toArray, List.nil_append, List.cons_append]
  have B0 := bal w (.cells #[.slice none 0 0] 24)
  have R0 := last7 w (.cells #[.slice none 0 0] 24)
  obtain ⟨_, _, _, b, a, cap, hs, _⟩ := t24B hT B0
  have I0 : RwK w [] [] (w.alloc (.cells #[.slice none 0 0] 24)) := ⟨B0, Marks.nil _ _, _, R0, World.ownsRow_nil _ _ _ _⟩
  clear hT B0 R0
  go_wp2
  refine wp_loop (fun A V => ∃ (k : Nat) (u2 u3 u7 u8 u9 u10 u11 u12 u13 u14 u15 u16 u17 : Value) (Ds : List Nat), k ≤ 32 ∧ A = { tmps := #[.slice none 0 0, .pointer (some ⟨w.heap.size, 0, none⟩), u2, u3, .slice (some ⟨b, a, none⟩) 32 cap, .int .i64 32, .int .i64 (k : Nat), u7, u8, u9, u10, u11, u12, u13, u14, u15, u16, u17, undef], defers := Ds.map mkD } ∧ RwK w (preR k) Ds V) (fun A _ => 32 - (intOf (A.tmps.getD 6 undef)).toNat) ?start ?round
  case start => exact ⟨0, _, _, _, _, _, _, _, _, _, _, _, _, _, [], by omega, rfl, I0⟩
  case round =>
    clear I0 hs
    rintro A V ⟨k, u2, u3, u7, u8, u9, u10, u11, u12, u13, u14, u15, u16, u17, Ds, hk, rfl, HI⟩
    by_cases hlt : k < 32
    case neg =>
      have ke : k = 32 := by omega
      subst ke
      obtain ⟨v, h1, h2⟩ := HI.o
      have cv := pcell24 h1
      have OW := rws_OwnsRws HI.b h2
      have MD := HI.d
      clear h1 h2 HI
      go_wp2
      exact leaves_marks (base := w.heap.size) (fun V => OwnsRws w V v) (fun V D hv hD hd => hv.put hD hd) (fun V hv => ⟨v, by simp [results, Tryd.results10, go_sem], v, rfl, hv⟩) Ds V MD OW
    have d1 : decide ((k : Int) < 32) = true := decide_eq_true (by omega)
    have w8 : (k : Int) % 256 = (k : Int) := by omega
    have KE := k_each k (by omega)
    go_wp2_with fail
    refine (KE.out _ (t24B FF.out HI.b)).mono ?_
    rintro r W0 ⟨lb, B, rfl, hb0, hB1, hB2, seq⟩
    have hBs : w.heap.size < B := by obtain ⟨v, h1, _⟩ := HI.o; have := (Array.getElem?_eq_some_iff.1 h1).1; omega
    have hBlt := (Array.getElem?_eq_some_iff.1 hB2).1
    have hvB : ∀ v, W0.heap[w.heap.size]? = some (.cells #[v] 24) → v.ownBlock ≠ some B := by
      intro v hv e
      obtain ⟨v2, h1, h2⟩ := HI.o
      have q := heap_of hb0 _ _ _ h1
      rw [hv] at q
      simp only [Option.some.injEq, Obj.cells.injEq, Array.mk.injEq, List.cons.injEq, and_true] at q
      obtain rfl := q
      have := (h2.lt B e).2
      omega
    have H0 := HI.below hb0
    have HD0 : ∀ D ∈ Ds, D < W0.heap.size := H0.d.lt
    have hs0 : w.heap.size < W0.heap.size := by obtain ⟨v, h1, _⟩ := H0.o; exact (Array.getElem?_eq_some_iff.1 h1).1
    have SEQ := box seq
    clear seq hb0 HI KE
    go_wp2_with fail
    obtain ⟨L, hL⟩ : ∃ L, preR k = L := ⟨_, rfl⟩
    have hnx := preR_next k
    have hlen : L.length ≤ 136 := by rw [← hL]; exact preR_len hk
    have hlen2 : (L ++ rwsO k).length ≤ 136 := by rw [← hL, ← hnx]; exact preR_len hlt
    rw [hL] at H0 hnx
    have HNX := box hnx
    have HLEN := box hlen
    have HLEN2 := box hlen2
    clear hnx hL hlen hlen2
    refine (wpIn_wide (n := 6)).1 ?_
    refine wp_range_topM (by decide) (gf := 33) (lb := lb) rfl hE (SEQ.out 5 (by decide)) (fun _ => rfl)
      (fun M pre V => RwM w W0 k B M (L ++ pre) Ds V)
      (fun M c pre V => False)
      (fun M pre A B row hs hg hr => hs.grown HD0 hs0 hBlt hg hr)
      (fun M c s A B row hs hg hr => hs)
      (fun M pre V hv => ⟨t24B FF.out hv.b, hv.e⟩) (fun M hM => by rw [List.append_nil]; exact RwM.start H0 hB2 hvB hM) ?a1 (fun x => Obj.cells (rwC x) 36) ?assign ?body ?done ?stop
    case assign =>
      intro l x W K hK
      have hrn := rwC_new
      obtain ⟨m, hm⟩ : ∃ m, W.heap.size = m := ⟨_, rfl⟩
      have hK := hK (W.alloc (Obj.cells (rwC x) 36)) (World.grownBy_alloc W _ none) (by simp only [size_al]) (last7 W _)
      rw [hm] at hK
      gi_wp2
      exact hK
    case body =>
      rintro M l pre xx mm V hM0 hM1 HK hl4 hsp hm0 hm1 hmx
      obtain ⟨Lp, hLp⟩ : ∃ X, L ++ pre = X := ⟨_, rfl⟩
      have HK : RwM w W0 k B M Lp Ds V := by rw [← hLp]; exact HK
      have HLP := box hLp
      have hl5 : Lp.length < 272 := by rw [← hLp, List.length_append]; have := HLEN.out; omega
      clear hLp
      obtain ⟨v, g1, g2, g3⟩ := HK.o
      have cv := pcell24 g1
      have hvsz := (Array.getElem?_eq_some_iff.1 g1).1
      obtain ⟨x0, x1, x2, x3, x4, x5, x6⟩ := rwC_cells hmx
      have hfo := rwC_fold xx
      have r5 : ∀ W6, (V.alloc (.cells (rwC xx) 36)).grownBy W6 v.ownBlock → W6.heap[w.heap.size]? = some (.cells #[v] 24) := fun W6 gr => (gr.block _ (by simp only [size_al]; omega) (fun e => by have := (g2.lt _ e.symm).1; omega)).trans ((Below.heap_alloc V _ _ hvsz).trans g1)
      have R5 := box r5
      have HKB := box HK
      have G1 := box g1
      have G2 := box g2
      clear r5 HK g1 g2 g3
      obtain ⟨i0, hi, hz0, hz1, hz2⟩ := info_parts (show (Tryd.prog.info? 36).map (fun i => (i.zero, i.size, i.bytes)) = some (some (.agg #[.int .u8 0, .int .u8 0, .int .u8 0, .int .u8 0, .int .u32 0, .int .u32 0, .int .u8 0]), 7, 16) by kernel_rfl)
      gi_wp2_with (first | (refine wplIn_rw24 rfl _ rfl _ rfl xx rfl ?_) | (gi_at_builtin; refine wpListIn_append_own_at _ rfl _ _ 24 rfl (w.heap.size + 1) 36 i0 (.agg #[.int .u8 0, .int .u8 0, .int .u8 0, .int .u8 0, .int .u32 0, .int .u32 0, .int .u8 0]) 7 16 Tryd.underlying24 hi hz0 hz1 hz2 rfl (by decide) _ _ _ rfl (G2.out.alloc _) ⟨V.heap.size, 0, none⟩ 1 1 (rwC xx).toList rfl rfl (new_cells24 _ (rwC xx) _) (rw_oneq xx) (by unfold maxLen; omega) (by omega) (by simp only [size_al]; omega) ?_; intro v9 w6 hown9 hgrow9 hnil9 hblk9; obtain ⟨g9, cap9, e9⟩ := own_slice24 hown9 (Nat.succ_pos _); subst e9; have c9 := pcell24 (R5.out w6 hgrow9); have f9 := fz (k := 0) (R5.out w6 hgrow9)))
      obtain ⟨tk, st⟩ := RwM.step HKB.out G1.out (by omega) hs0 hM0 hBs hown9 hgrow9 hblk9
      refine ⟨tk, ?_⟩
      show RwM w W0 k B M (L ++ (pre ++ [xx])) Ds _
      rw [← List.append_assoc, HLP.out]
      exact st
    case done =>
      rintro M D ys V hM hD rfl HK hK
      go_wp2
      obtain ⟨v, h1, h2, _⟩ := HK.o
      refine ⟨⟨k + 1, _, _, _, _, _, _, _, _, _, _, _, _, _, D :: Ds, by omega, rfl, HK.b, Marks.cons HK.d (by omega) (fun E hE => by have := HD0 E hE; omega) hK, v, h1, by rw [HNX.out]; exact h2⟩, ?_⟩
      simp [intOf]
      omega
    case stop =>
      rintro M D c pre V hM hD hpre hf hK
      exact hf.elim
theorem k_rows (hE : ∀ args w, (callFunc 33 args).run Tryd.prog w = .ok (.enter 33 args) w) : Box (∀ w, T24 w → Calls Tryd.prog 10 #[] w fun r w' => ∃ v, r = .returned v ∧ OwnsRws w w' v) := box (fun w hT => t_rows hE w hT)
set_option maxRecDepth 100000 in
set_option maxHeartbeats 4000000 in
theorem k_len (hE : ∀ args w, (callFunc 33 args).run Tryd.prog w = .ok (.enter 33 args) w) : Box (∀ w, T24 w → Calls Tryd.prog 11 #[] w fun r w' => r = .returned (.int .i64 136) ∧ Below w.heap.size w w') := box (fun w hT => by
  have KR := k_rows hE
  go_enter Tryd.func11, Tryd.ntmps11
  go_wp2_with fail
  refine (KR.out w hT).mono ?_
  rintro r w' ⟨v, rfl, g, cap, rfl, _, _, hb⟩
  go_wp2
  go_ret
  exact ⟨rfl, hb⟩)
end Go.Proofs.YtfdhglllmhggkaaDoor
namespace Go.Proofs.YtfdhglllmhggkaaDoor
set_option maxRecDepth 100000
set_option maxHeartbeats 40000000
set_option maxRecDepth 100000
open Go.RowKit Go.Shelf WMath
open Go.Maps (Keyed)
set_option linter.unusedVariables false
set_option linter.unusedSimpArgs false
attribute [local go_sem] Oper.semAt_some

theorem laid24 : laidOutB Tryd.prog = true := by kernel_rfl
theorem rowF24 : (72 : TypeId) < Tryd.prog.types.size := of_decide_eq_true (by kernel_rfl)
theorem wideF24 : (match Tryd.prog.underlying 72 with | some (.array _ _) | some (.struct _) => true | _ => false) = true := by rw [Tryd.underlying72]
theorem keyF24 : Keyed Tryd.prog 72 := Keyed.of_law (deep_law_laid laid24 (m := 2) (by omega) rowF24 (by kernel_rfl) wideF24)
def FdsOk (F : FdS) : Prop := F.opc < 256 ∧ F.rm < 256 ∧ F.rs2 < 256 ∧ F.form < 256 ∧ F.rs3 < 256
theorem fdC_inj {F G : FdS} (h : Value.agg (fdC F) = .agg (fdC G)) : F = G := by
  obtain ⟨a, b, c, d, e⟩ := F
  obtain ⟨a', b', c', d', e'⟩ := G
  simp only [fdC, Value.agg.injEq, Array.mk.injEq, List.cons.injEq, Value.int.injEq, true_and, and_true] at h
  obtain ⟨h1, h2, h3, h4, h5⟩ := h
  simp only [FdS.mk.injEq]
  omega
theorem key_fd (F : FdS) (h : FdsOk F) : ∃ kl, keyOf Tryd.prog 72 (.agg (fdC F)) = some kl := by
  obtain ⟨h0, h1, h2, h3, h4⟩ := h
  have hk : Tryd.prog.keyType 72 = true := by kernel_rfl
  have hc : Tryd.prog.cellsOf 72 = 5 := by kernel_rfl
  have hc5 : Tryd.prog.cellsOf 5 = 1 := by kernel_rfl
  have hf : (Value.agg (fdC F)).formed Tryd.prog 72 = true := by simp [Value.formed, Tryd.underlying72, hc, fdC]
  have hn : ∃ m, Tryd.prog.types.size + 1 = m + 2 := ⟨Tryd.prog.types.size - 1, by have h : (72 : Nat) < Tryd.prog.types.size := rowF24; omega⟩
  obtain ⟨m, hm⟩ := hn
  have w : ∀ a : Nat, a < 256 → (Lit.int .u8 (a : Int)).wf = true := fun a ha => by
    have e1 : IntKind.u8.min = 0 := by decide
    have e2 : IntKind.u8.max = 255 := by decide
    show (decide (IntKind.u8.min ≤ (a : Int)) && decide ((a : Int) ≤ IntKind.u8.max)) = true
    rw [e1, e2, decide_eq_true (by omega), decide_eq_true (by omega)]
    rfl
  have q : ∃ ls, Tryd.prog.keyLits (m + 2) 72 (fdC F).toList = some ls := by
    simp [Program.keyLits, Tryd.underlying72, Tryd.underlying5, hc, hc5, fdC, w _ h0, w _ h1, w _ h2, w _ h3, w _ h4]
  obtain ⟨ls, q⟩ := q
  refine ⟨.string (keyBytes ls), ?_⟩
  unfold keyOf
  rw [Tryd.underlying72, hk, hf, hm]
  simp only [Bool.and_self, if_true]
  show (Tryd.prog.keyLits (m + 2) 72 (fdC F).toList).map _ = _
  rw [q]
  rfl
def datR (r : Rw) : DataW Unit := .agg [.lit (.int .u8 (r.op : Nat)), .lit (.int .u8 (r.form : Nat)), .lit (.int .u8 (r.frm : Nat)), .lit (.int .u8 (r.kind : Nat)), .lit (.int .u32 (r.mask : Nat)), .lit (.int .u32 (r.mtch : Nat)), .lit (.int .u8 (r.lay : Nat))]
def R24 (v : Value) : Option (DataW Unit × List MemPlace) := match v with
  | .agg ⟨[.int .u8 a, .int .u8 b, .int .u8 c, .int .u8 d, .int .u32 e, .int .u32 f, .int .u8 g]⟩ => some (.agg [.lit (.int .u8 a), .lit (.int .u8 b), .lit (.int .u8 c), .lit (.int .u8 d), .lit (.int .u32 e), .lit (.int .u32 f), .lit (.int .u8 g)], [])
  | _ => none
theorem R24_of (r : Rw) : R24 (.agg (rwC r)) = some (datR r, []) := rfl
theorem R24_inv {v : Value} {r : Rw} {ps : List MemPlace} (h : R24 v = some (datR r, ps)) : v = .agg (rwC r) := by
  unfold R24 at h
  split at h
  · rename_i a b c d e f g
    simp only [datR, Option.some.injEq, Prod.mk.injEq, DataW.agg.injEq, List.cons.injEq, DataW.lit.injEq, Lit.int.injEq, true_and, and_true] at h
    obtain ⟨⟨h0, h1, h2, h3, h4, h5, h6⟩, _⟩ := h
    rw [h0, h1, h2, h3, h4, h5, h6]
    rfl
  · cases h
def keyR (r : Rw) : FdS := fdB (cutF r.mtch)
def lastR (L : List Rw) (F : FdS) : Option Rw := L.reverse.find? fun r => decide (keyR r = F)
theorem lastR_next (L : List Rw) (r : Rw) (F : FdS) : lastR (L ++ [r]) F = if keyR r = F then some r else lastR L F := by
  unfold lastR
  rw [List.reverse_append]
  by_cases h : keyR r = F
  · simp [h]
  · simp [h]
theorem keyR_ok (r : Rw) : FdsOk (keyR r) := by
  refine ⟨?_, ?_, ?_, ?_, ?_⟩ <;> simp only [keyR, fdB, cutF] <;> omega
def MapR (V : World) (b : Nat) (L : List Rw) : Prop := ∃ n D, V.ownsMap Tryd.prog 72 R24 b n D ∧ n ≤ L.length ∧ Maps.IsMap D ∧ ∀ F kl, keyOf Tryd.prog 72 (.agg (fdC F)) = some kl → Maps.has D kl = (lastR L F).isSome ∧ D.atKey kl (datR rwZ) = datR ((lastR L F).getD rwZ)
theorem MapR.start (w : World) : MapR (w.alloc (.map #[] 0)) w.heap.size [] := ⟨0, .map [], World.ownsMap_made w _ _ _, Nat.le_refl _, Maps.isMap_empty, fun F kl h => ⟨rfl, rfl⟩⟩
theorem MapR.kept {V V' : World} {b : Nat} {L : List Rw} {row : Option Nat} (h : MapR V b L) (hg : V.grownBy V' row) (hne : some b ≠ row) : MapR V' b L := by
  obtain ⟨n, D, h1, h2, h3, h4⟩ := h
  exact ⟨n, D, h1.kept hg hne, h2, h3, h4⟩
theorem MapR.below {V V' : World} {b : Nat} {L : List Rw} (h : MapR V b L) (hb : Below V.heap.size V V') : MapR V' b L := h.kept (below_grown24 hb) (by simp)
theorem MapR.lt {V : World} {b : Nat} {L : List Rw} (h : MapR V b L) : b < V.heap.size := by
  obtain ⟨n, D, h1, _⟩ := h
  exact h1.lt
theorem MapR.drew {V : World} {b : Nat} {L : List Rw} (h : MapR V b L) : MapR V.drew b L := h
theorem MapR.look {V : World} {b : Nat} {L : List Rw} (h : MapR V b L) (F : FdS) (hF : FdsOk F) : (Instr.lookup 69 (.map (some b)) (.agg (fdC F)) true).run Tryd.prog V = .ok (.tuple #[.agg (rwC ((lastR L F).getD rwZ)), .bool (lastR L F).isSome]) V := by
  obtain ⟨n, D, h1, h2, h3, h4⟩ := h
  obtain ⟨kl, hk⟩ := key_fd F hF
  have hz : (zeroValue 36).run Tryd.prog V = .ok (.agg (rwC rwZ)) V := by kernel_rfl
  obtain ⟨v, ps, hrun, hv⟩ := h1.look_ok keyF24 Tryd.underlying69 hz (R24_of rwZ) hk
  obtain ⟨q1, q2⟩ := h4 F kl hk
  rw [q2] at hv
  rw [hrun, q1, R24_inv hv]
theorem MapR.put {V : World} {b : Nat} {L : List Rw} (h : MapR V b L) (hl : L.length < 1000) (r : Rw) : ∃ V', (Instr.mapUpdate 69 (.map (some b)) (.agg (fdC (keyR r))) (.agg (rwC r))).run Tryd.prog V = .ok () V' ∧ MapR V' b (L ++ [r]) ∧ V.grownBy V' (some b) := by
  obtain ⟨n, D, h1, h2, h3, h4⟩ := h
  obtain ⟨kl, hk⟩ := key_fd (keyR r) (keyR_ok r)
  obtain ⟨V', hrun, o1, g1⟩ := h1.update keyF24 Tryd.underlying69 (by unfold maxLen; omega) hk (R24_of r)
  refine ⟨V', hrun, ⟨n + 1, D.put kl (datR r), o1, by simp; omega, h3.put _ _, fun F kl' hk' => ?_⟩, g1⟩
  rw [lastR_next]
  by_cases e : keyR r = F
  · subst e
    obtain rfl : kl = kl' := Option.some.inj (hk.symm.trans hk')
    rw [if_pos rfl]
    exact ⟨Maps.has_put_same h3 (keyF24.key hk) _, Maps.atKey_put_same h3 (keyF24.key hk) _ _⟩
  · have hne : kl' ≠ kl := fun z => e (fdC_inj (keyF24.inj hk (z ▸ hk')))
    rw [if_neg e, Maps.has_put_other hne, Maps.atKey_put_other hne]
    exact h4 F kl' hk'
structure BfK (w W0 : World) (o gm bm B : Nat) (pre : List Rw) (V : World) : Prop where
  b : Below w.heap.size w V
  z : W0.heap.size ≤ V.heap.size
  g : V.heap[gm]? = some (.cells #[.map (some bm)] 69)
  m : MapR V bm pre
  e : V.heap[B]? = some (.cells #[.int .u8 (o : Nat)] 30)
theorem BfK.grown {w W0 : World} {o gm bm B : Nat} {pre : List Rw} {X Y : World} {row : Option Nat} (h : BfK w W0 o gm bm B pre X) (hg0 : gm < W0.heap.size) (hB0 : B < W0.heap.size) (hb0 : bm < W0.heap.size) (hw : w.heap.size ≤ W0.heap.size) (hg : X.grownBy Y row) (hr : ∀ r, row = some r → W0.heap.size ≤ r ∧ ∃ o : Obj, X.heap[r]? = some o ∧ o.isCells = false) : BfK w W0 o gm bm B pre Y :=
  ⟨h.b.grown hg h.b.size (fun r e => by have := (hr r e).1; omega), Nat.le_trans h.z hg.size, row_grq h.g hg (fun r e => (hr r e).1) hg0, h.m.kept hg (fun e => by have := (hr bm e.symm).1; omega), row_grq h.e hg (fun r e => (hr r e).1) hB0⟩
theorem BfK.step {w W0 : World} {o bm B M : Nat} {pre : List Rw} {x : Rw} {V V2 V' : World} (h : BfK w W0 o (bm + 1) bm B pre V) (hM : M ≤ V.heap.size) (hM0 : W0.heap.size ≤ M) (b2 : Below V.heap.size V V2) (mp : MapR V' bm (pre ++ [x])) (gr : V2.grownBy V' (some bm)) (hb0 : bm < W0.heap.size) (hw : w.heap.size ≤ bm) (hB : B ≠ bm) (hV : W0.heap.size ≤ V.heap.size) :
    TopM W0.heap.size M V V' ∧ BfK w W0 o (bm + 1) bm B (pre ++ [x]) V' := by
  have s1 := b2.size
  have s2 := gr.size
  have keep : ∀ q o, V.heap[q]? = some o → q ≠ bm → V'.heap[q]? = some o := fun q o hq hn => (gr.block q (Nat.lt_of_lt_of_le (Array.getElem?_eq_some_iff.1 hq).1 s1) (fun e => hn (Option.some.inj e))).trans ((b2.block q (Array.getElem?_eq_some_iff.1 hq).1).trans hq)
  refine ⟨⟨by omega, fun q a b => ?_⟩, ⟨?_, ?_, keep _ _ h.g (by omega), mp, keep _ _ h.e hB⟩⟩
  · rw [gr.block q (by omega) (fun e => by have := Option.some.inj e; omega), b2.block q (by omega)]
  · exact (h.b.trans (b2.mono h.b.size)).grown gr (by have := h.b.size; omega) (fun k e => by cases e; omega)
  · omega
theorem mt_all : ((List.range 32).all fun o => (rwsO o).all fun r => decide (r.mtch < 4294967296 ∧ r.mask < 4294967296)) = true := by decide +kernel
theorem mtch24 {o : Nat} {pre : List Rw} {x : Rw} (h : pre ++ [x] <+: rwsO o) : x.mtch < 4294967296 := by
  have hx : x ∈ rwsO o := h.subset (by simp)
  by_cases ho : o < 32
  · exact (of_decide_eq_true (List.all_eq_true.1 (List.all_eq_true.1 mt_all o (List.mem_range.2 ho)) x hx)).1
  · rw [rwsO_out (by omega)] at hx
    cases hx
theorem MapR.put24 {V : World} {b D : Nat} {L : List Rw} {o : Obj} (h : MapR V b L) (hd : V.heap[D]? = some (.deferred (some []))) : MapR (V.putObj D o) b L := h.kept (grownBy_putObj' V D o) (fun e => by
  injection e with e
  obtain ⟨n, D2, h1, _⟩ := h
  obtain ⟨es, clock, hb, _⟩ := h1
  rw [e, hd] at hb
  cases hb)
set_option maxRecDepth 100000 in
set_option maxHeartbeats 8000000 in
theorem t_byFields (o : Nat) (ho : o < 256) (hE : ∀ args w, (callFunc 33 args).run Tryd.prog w = .ok (.enter 33 args) w) (w : World) (hT : T24 w) : Calls Tryd.prog 31 #[.int .u8 (o : Nat)] w fun r w' => ∃ b, r = .returned (.map (some b)) ∧ MapR w' b (rwsO o) ∧ Below w.heap.size w w' ∧ w.heap.size ≤ b := by
  have FF := box hT
  have KE := k_each o ho
  have KC := k_counts o ho
  obtain ⟨c1, hc1⟩ : ∃ c, (cnQ o).1 = c := ⟨_, rfl⟩
  obtain ⟨c2, hc2⟩ : ∃ c, (cnQ o).2.1 = c := ⟨_, rfl⟩
  obtain ⟨c3, hc3⟩ : ∃ c, (cnQ o).2.2 = c := ⟨_, rfl⟩
  rw [hc1, hc2, hc3] at KC
  clear hc1 hc2 hc3
  refine (callsIn_wide (n := 6)).1 ?_
  refine callsIn_of_wp_marks Tryd.func31 rfl trivial ?_ rfl
  refine wpIn_wide.2 ?_
  simp only [Tryd.ntmps31, List.size_toArray, List.length_cons, List.length_nil, Nat.reduceAdd, Nat.reduceSub, Array.replicate_succ, Array.replicate_zero, List.push_toArray, List.append_toArray, List.nil_append, List.cons_append]
  go_wp2_with fail
  refine (KC.out w hT).mono ?_
  rintro r w1 ⟨rfl, b1⟩
  have hmk : ∀ (z : Int) (V : World), (Instr.makeMap 69 (some (.int .i64 z))).run Tryd.prog V = .ok (.map (some V.heap.size)) (V.alloc (.map #[] 0)) := fun z V => by first | rfl | kernel_rfl
  have M0 := MapR.start w1
  have B1 := (bal w1 (.map #[] 0))
  have B2 := (bal (w1.alloc (.map #[] 0)) (.cells #[.map (some w1.heap.size)] 69))
  have R2 := last7 (w1.alloc (.map #[] 0)) (.cells #[.map (some w1.heap.size)] 69)
  have M2 := M0.below B2
  have BB := b1.trans ((B1.trans (B2.mono B1.size)).mono b1.size)
  have hsz : (w1.alloc (.map #[] 0)).heap.size = w1.heap.size + 1 := by simp only [size_al]
  have hbm := b1.size
  rw [hsz] at R2
  clear B1 B2 M0 hsz b1
  go_wp2_with fail
  refine (KE.out _ (t24B FF.out BB)).mono ?_
  rintro r W0 ⟨lb, B, rfl, hb0, hB1, hB2, seq⟩
  have RM0 := heap_of hb0 _ _ _ R2
  have MM0 := M2.below hb0
  have BW0 := BB.trans (hb0.mono BB.size)
  have hlg := (Array.getElem?_eq_some_iff.1 RM0).1
  have hlB := (Array.getElem?_eq_some_iff.1 hB2).1
  have hBg : B ≠ w1.heap.size ∧ B ≠ w1.heap.size + 1 := by
    have := (Array.getElem?_eq_some_iff.1 R2).1
    omega
  obtain ⟨bm, hbmE⟩ : ∃ x, w1.heap.size = x := ⟨_, rfl⟩
  rw [hbmE] at RM0 MM0 hlg hBg hbm
  rw [hbmE]
  have SEQ := box seq
  clear seq hb0 M2 R2 BB hmk hbmE
  go_wp2_with fail
  refine (wpIn_wide (n := 6)).1 ?_
  refine wp_range_topM (by decide) (gf := 33) (lb := lb) rfl hE (SEQ.out 5 (by decide)) (fun _ => rfl)
    (fun M pre V => BfK w W0 o (bm + 1) bm B pre V)
    (fun M c pre V => False)
    (fun M pre X Y row hs hg hr => hs.grown hlg hlB (by omega) (by omega) hg hr)
    (fun M c s X Y row hs hg hr => hs)
    (fun M pre V hv => ⟨t24B FF.out hv.b, hv.e⟩) (fun M hM => ⟨BW0, Nat.le_refl _, RM0, MM0, hB2⟩) ?a1 (fun x => Obj.cells (rwC x) 36) ?assign ?body ?done ?stop
  case assign =>
    intro l x W K hK
    have hrn := rwC_new
    obtain ⟨m, hm⟩ : ∃ m, W.heap.size = m := ⟨_, rfl⟩
    have hK := hK (W.alloc (Obj.cells (rwC x) 36)) (World.grownBy_alloc W _ none) (by simp only [size_al]) (last7 W _)
    rw [hm] at hK
    gi_wp2
    exact hK
  case body =>
    rintro M l pre xx mm V hM0 hM1 HK hl4 hsp hm0 hm1 hmx
    have hx32 : xx.mtch < 4294967296 := mtch24 hsp
    have KU : Box (∀ W, Calls Tryd.prog 32 #[.int .u32 (xx.mtch : Nat)] W fun r w' => r = .returned (.agg (fdC (keyR xx))) ∧ Below W.heap.size W w') := box (fun W => t_cut xx.mtch hx32 _ rfl W)
    have cg := pcell24 HK.g
    obtain ⟨x0, x1, x2, x3, x4, x5, x6⟩ := rwC_cells hmx
    have hfo := rwC_fold xx
    have HKB := box HK
    have HMX := box hmx
    have UPD : Box (∀ V2, Below V.heap.size V V2 → V2.cell? ⟨bm + 1, 0, none⟩ = some (.map (some bm)) ∧ (V2.cell? ⟨mm, 0, none⟩ = some (.int .u8 (xx.op : Nat)) ∧ V2.cell? ⟨mm, 1, none⟩ = some (.int .u8 (xx.form : Nat)) ∧ V2.cell? ⟨mm, 2, none⟩ = some (.int .u8 (xx.frm : Nat)) ∧ V2.cell? ⟨mm, 3, none⟩ = some (.int .u8 (xx.kind : Nat)) ∧ V2.cell? ⟨mm, 4, none⟩ = some (.int .u32 (xx.mask : Nat)) ∧ V2.cell? ⟨mm, 5, none⟩ = some (.int .u32 (xx.mtch : Nat)) ∧ V2.cell? ⟨mm, 6, none⟩ = some (.int .u8 (xx.lay : Nat))) ∧ ∃ V', (Instr.mapUpdate 69 (.map (some bm)) (.agg (fdC (keyR xx))) (.agg (rwC xx))).run Tryd.prog V2 = .ok () V' ∧ TopM W0.heap.size M V V' ∧ BfK w W0 o (bm + 1) bm B (pre ++ [xx]) V') := box (fun V2 b2 => by
      refine ⟨pcell24 (heap_of b2 _ _ _ HKB.out.g), rwC_cells (heap_of b2 _ _ _ HMX.out), ?_⟩
      obtain ⟨V', hrun, mp, gr⟩ := (HKB.out.m.below b2).put (by omega) xx
      exact ⟨V', hrun, HKB.out.step (by omega) (by omega) b2 mp gr (by omega) (by omega) (by omega) (by omega)⟩)
    clear HK hmx
    have hfw : ∀ f, Fence.wide.fn f := fun _ => trivial
    gi_wp2_with fail
    gi_region_with (first | (gi_at_call 32; refine (CallsIn.inRound l (callsIn_wide.2 (KU.out _))).mono ?_; rintro r w5 ⟨rfl, b5⟩; have b6 : Below V.heap.size V w5 := ((Below.refl V.heap.size V).drew).trans b5; obtain ⟨d0, ⟨d1, d2, d3, d4, d5, d6, d7⟩, w7, hup, tk, st⟩ := UPD.out w5 b6) | fail)
    all_goals first | exact ⟨tk, st⟩ | (gi_wp2; exact ⟨tk, st⟩)
  case done =>
    rintro M D ys V hM hD rfl HK hK
    have cg := pcell24 HK.g
    go_wp2
    refine leaves_marks (base := w.heap.size) (fun V => MapR V bm (rwsO o) ∧ Below w.heap.size w V) (fun V D hv hD hd => ⟨hv.1.put24 hd, below_put24 hv.2 hD⟩) (fun V hv => ⟨.map (some bm), by simp [results, Tryd.results31, go_sem], bm, rfl, hv.1, hv.2, by omega⟩) [D] V (Marks.cons (Marks.nil _ _) (by omega) (fun E h => by cases h) hK) ⟨HK.m, HK.b⟩
  case stop =>
    rintro M D c pre V hM hD hpre hf hK
    exact hf.elim
end Go.Proofs.YtfdhglllmhggkaaDoor
namespace Go.Proofs.YtfdhglllmhggkaaDoor
set_option maxRecDepth 100000
set_option maxHeartbeats 40000000
set_option maxRecDepth 100000
open Go.RowKit Go.Shelf WMath
set_option linter.unusedVariables false
set_option linter.unusedSimpArgs false
def leadsP (k x : Nat) : Bool := decide (x % 128 = (plN k).opc) && (decide ((cutF (x &&& fxN (plN k).lay)).rs3 = (plN k).rs3) && (decide ((cutF (x &&& fxN (plN k).lay)).rm = (plN k).rm) || (decide ((plN k).lay = 1) || decide ((plN k).lay = 2))))
theorem k_leads (k x : Nat) (hk : k < 32) (hx : x < 4294967296) : Box (∀ w, T24 w → Calls Tryd.prog 30 #[.agg (plV (plB (plN k))), .int .u32 (x : Nat)] w fun r w' => r = .returned (.bool (leadsP k x)) ∧ Below w.heap.size w w') := box (fun w hT => by
  unfold leadsP
  have hf := fxLt (plOk hk).1
  have hy : x &&& fxN (plN k).lay < 4294967296 := Nat.lt_of_le_of_lt Nat.and_le_left hx
  by_cases h : x % 128 = (plN k).opc
  · rw [decide_eq_true h, Bool.true_and]
    have hne : (((x % 128 : Nat) : Int) != ((plN k).opc : Nat)) = false := by rw [bne, beqN24, decide_eq_true h]; rfl
    exact t_leads_y (plB (plN k)) x (x &&& fxN (plN k).lay) (fxN (plN k).lay) (fdB (cutF x)) (fdB (cutF (x &&& fxN (plN k).lay))) _ _ _ rfl (plOk hk).1 hne (and32t x _ hx hf) (beqN24 _ _) (beqN24 _ _) (box (fun w => t_cut x hx _ rfl w)) (box (fun w => t_cut _ hy _ rfl w)) (k_isMem k) w hT
  · rw [decide_eq_false h, Bool.false_and]
    have hne : (((x % 128 : Nat) : Int) != ((plN k).opc : Nat)) = true := by rw [bne, beqN24, decide_eq_false h]; rfl
    exact t_leads_n (plB (plN k)) x (fdB (cutF x)) hne (box (fun w => t_cut x hx _ rfl w)) w)
theorem fd_all : ((List.range 32).all fun k => (rwsO k).all fun r => decide (r.mask = fxN (plN k).lay ∧ r.mtch &&& r.mask = r.mtch ∧ r.mask % 128 = 127 ∧ r.mtch % 128 = (plN k).opc ∧ (cutF r.mtch).rs3 = (plN k).rs3 ∧ ((cutF r.mtch).rm = (plN k).rm ∨ (plN k).lay = 1 ∨ (plN k).lay = 2) ∧ lastR (rwsO k) (keyR r) = some r)) = true := by decide +kernel
theorem fd_row {k x : Nat} {r : Rw} (hk : k < 32) (hr : r ∈ rwsO k) (hf : fitsL r x = true) : leadsP k x = true ∧ lastR (rwsO k) (fdB (cutF (x &&& fxN (plN k).lay))) = some r := by
  obtain ⟨h1, h2, h3, h4, h5, h6, h7⟩ := of_decide_eq_true (List.all_eq_true.1 (List.all_eq_true.1 fd_all k (List.mem_range.2 hk)) r hr)
  have hm : x &&& r.mask = r.mtch := by
    unfold fitsL at hf
    simp only [Bool.and_eq_true, decide_eq_true_eq] at hf
    rw [hf.1.1, h2]
  rw [← h1, hm]
  refine ⟨?_, h7⟩
  unfold leadsP
  rw [← h1, hm, decide_eq_true h5, Bool.true_and]
  have hx : x % 128 = (plN k).opc := by
    have q : (x &&& r.mask) % 2 ^ 7 = x % 2 ^ 7 &&& r.mask % 2 ^ 7 := Nat.and_mod_two_pow
    rw [hm] at q
    have q1 : r.mask % 2 ^ 7 = 2 ^ 7 - 1 := h3
    rw [q1, Nat.and_two_pow_sub_one_eq_mod] at q
    have q2 : r.mtch % 2 ^ 7 = x % 2 ^ 7 % 2 ^ 7 := q
    have q3 : r.mtch % 128 = x % 128 % 128 := q2
    omega
  rw [decide_eq_true hx, Bool.true_and]
  rcases h6 with h | h | h <;> simp [h]
theorem preR_mem {k : Nat} {r : Rw} (hk : k ≤ 32) (h : r ∈ preR k) : ∃ p ∈ allL, p.1 = r := by
  have q : r ∈ preR 32 := (fm_pre rwsO (range_pre hk)).subset h
  rw [preR_all] at q
  obtain ⟨p, hp, e⟩ := List.mem_map.1 q
  exact ⟨p, hp, e⟩
theorem one_fit24 {x : Nat} {p q : Nm} (hp : p ∈ allL) (hq : q ∈ allL) (h1 : fitsL p.1 x = true) (h2 : fitsL q.1 x = true) : p.1 = q.1 := by
  obtain ⟨j, hj⟩ := List.mem_iff_getElem?.1 hp
  obtain ⟨k, hk⟩ := List.mem_iff_getElem?.1 hq
  have e := one24 hj hk h1 h2
  subst e
  rw [hj] at hk
  cases hk
  rfl
theorem res_rb {fn : Func} {z y : Tmp} (h : fn.results = #[.cell z 36, .tmp y]) {tmps : Array Value} {w : World} {b : Nat} {r : Rw} {v : Bool} {T : TypeId} (hz : tmps.getD z undef = .pointer (some ⟨b, 0, none⟩)) (hy : tmps.getD y undef = .bool v)
    (hr : w.heap[b]? = some (.cells (rwC r) T)) : (results fn tmps).run Tryd.prog w = .ok (.tuple #[.agg (rwC r), .bool v]) w := by
  have q := rwC_lv hr
  have hz2 : tmps[z]?.getD undef = .pointer (some ⟨b, 0, none⟩) := by rw [← Array.getD_eq_getD_getElem?]; exact hz
  have hy2 : tmps[y]?.getD undef = .bool v := by rw [← Array.getD_eq_getD_getElem?]; exact hy
  simp [results, h, hz2, hy2, asAddr, q, Result.andThen]
theorem fdk_some {x : Nat} {p : Nm} (hp : p ∈ allL) (hf : fitsL p.1 x = true) : ∃ s, fdL x = some (p.1, s) := by
  unfold fdL fstL
  cases z : allL.find? (fun p => fitsL p.1 x) with
  | none => exact absurd hf (by have := List.find?_eq_none.1 z p hp; simpa using this)
  | some q =>
    have hq := List.find?_some z
    have hm := List.mem_of_find?_eq_some z
    obtain ⟨q1, q2⟩ := q
    have e : q1 = p.1 := one_fit24 hm hp hq hf
    exact ⟨q2, by rw [e]⟩
theorem fdk_none {x : Nat} (h : ∀ r ∈ preR 32, fitsL r x = false) : fdL x = none := by
  unfold fdL fstL
  refine List.find?_eq_none.2 (fun p hp => ?_)
  rw [h p.1 (by rw [preR_all]; exact List.mem_map.2 ⟨p, hp, rfl⟩)]
  decide
theorem cut7i {G C : Prop} (h : G → C) (k : G) : C := h k
structure FdK (w : World) (r : Rw) (V : World) : Prop where
  b : Below w.heap.size w V
  z : V.heap[w.heap.size]? = some (.cells (rwC r) 36)
theorem FdK.below {w : World} {r : Rw} {V V' : World} (h : FdK w r V) (b : Below V.heap.size V V') : FdK w r V' := ⟨h.b.trans (b.mono h.b.size), heap_of b _ _ _ h.z⟩
set_option maxRecDepth 100000 in
set_option maxHeartbeats 8000000 in
theorem t_find (x : Nat) (hx : x < 4294967296) (hE : ∀ args w, (callFunc 33 args).run Tryd.prog w = .ok (.enter 33 args) w) (rr : Rw) (ok : Bool) (hv : (rr, ok) = ((ndO (fdL x)).1, (fdL x).isSome)) (w : World) (hT : T24 w) : Calls Tryd.prog 15 #[.int .u32 (x : Nat)] w fun r w' => r = .returned (.tuple #[.agg (rwC rr), .bool ok]) ∧ Below w.heap.size w w' := by
  have FF := box hT
  have HV := box hv
  have HX := box hx
  clear hv
  have B0 := bal w (.cells #[.int .u8 0, .int .u8 0, .int .u8 0, .int .u8 0, .int .u32 0, .int .u32 0, .int .u8 0] 36)
  have R0 := last7 w (.cells #[.int .u8 0, .int .u8 0, .int .u8 0, .int .u8 0, .int .u32 0, .int .u32 0, .int .u8 0] 36)
  have I0 : FdK w rwZ (w.alloc (.cells #[.int .u8 0, .int .u8 0, .int .u8 0, .int .u8 0, .int .u32 0, .int .u32 0, .int .u8 0] 36)) := ⟨B0, R0⟩
  obtain ⟨_, _, _, b, a, cap, hs, hp⟩ := hT
  have HS : Box (∀ V, Below w.heap.size w V → V.cell? ⟨0, 0, none⟩ = some (.slice (some ⟨b, a, none⟩) 32 cap)) := box (fun V hb => cellB hb hs)
  have HP : Box (∀ V, Below w.heap.size w V → ∀ i, i < 32 → PlAt V b (a + i * 5) (plB (plN i))) := box (fun V hb i hi => let h := hp i hi; ⟨cellB hb h.1, cellB hb h.2.1, cellB hb h.2.2.1, cellB hb h.2.2.2.1, cellB hb h.2.2.2.2⟩)
  have hs0 := HS.out _ B0
  clear hs hp B0 R0
  go_enter Tryd.func15, Tryd.ntmps15
  go_wp2
  go_loopw [8] (fun kv wr => ∃ (k : Nat) (q : Rw), k ≤ 32 ∧ kv = .int .i64 (k : Int) ∧ FdK w q wr ∧ Box (∀ r ∈ preR k, fitsL r x = false)) (fun kv _ => 32 - (intOf kv).toNat)
  case atStart => exact ⟨0, rwZ, by omega, rfl, I0, box (fun r h => by cases h)⟩
  case round =>
    clear I0 hs0
    obtain ⟨k, q, hk, rfl, HI, HN⟩ := hrel
    obtain ⟨wo, rfl⟩ : ∃ wo, wo = wr := ⟨_, rfl⟩
    by_cases hlt : k < 32
    case neg =>
      have ke : k = 32 := by omega
      subst ke
      have hv := HV.out
      rw [fdk_none HN.out] at hv
      obtain ⟨rfl, rfl⟩ := hv
      have hzf := rwz_fold
      have hst := rwC_storeG (r := rwZ) HI.z rfl
      have rz := setRow_row (c' := rwC rwZ) HI.z
      have bz : Below w.heap.size w (wo.setRow w.heap.size (rwC rwZ)) := Below.setRow HI.b (Nat.le_refl _)
      obtain ⟨VZ, hVZ⟩ : ∃ X, wo.setRow w.heap.size (rwC rwZ) = X := ⟨_, rfl⟩
      rw [hVZ] at hst rz bz
      clear hVZ
      go_wp2
      exact bodyPost_ret (v := .tuple #[.agg (rwC rwZ), .bool false]) (res_rb Tryd.results15 rfl rfl rz) rfl ⟨rfl, bz⟩
    have d1 : decide ((k : Int) < 32) = true := decide_eq_true (by omega)
    have d2 : decide ((32 : Int) ≤ (k : Int)) = false := decide_eq_false (by omega)
    have hw1 : IntKind.i64.wrap ((k : Int) + 1) = ((k + 1 : Nat) : Int) := by rw [IntKind.wrap_i64]; omega
    have w8 : (k : Int) % 256 = (k : Int) := by omega
    have w8b : IntKind.u8.wrap (k : Int) = (k : Int) := by rw [IntKind.wrap_u8]; omega
    obtain ⟨P, hP⟩ : ∃ P, plB (plN k) = P := ⟨_, rfl⟩
    have hpl := HP.out wo HI.b k hlt
    have KL := k_leads k x hlt HX.out
    rw [hP] at hpl KL
    obtain ⟨c0, c1, c2, c3, c4⟩ := hpl
    have hfo := plV_fold P
    have hnew := plV_new
    have HIa := HI.below (bal wo (.cells (plV P) 67))
    have RPa := last7 wo (.cells (plV P) 67)
    obtain ⟨p0, p1, p2, p3, p4⟩ := plV_cells RPa
    go_wp2_with fail
    refine (KL.out _ (t24B FF.out HIa.b)).mono ?_
    rintro r w2 ⟨rfl, b2⟩
    have HI2 := HIa.below b2
    have RP2 := heap_of b2 _ _ _ RPa
    obtain ⟨p0', p1', p2', p3', p4'⟩ := plV_cells RP2
    clear p0 p1 p2 p3 p4 c0 c1 c2 c3 c4 b2 HI HIa RPa hnew
    have HNX := box (preR_next k)
    cases hld : leadsP k x
    · go_wp2
      go_roundw
      case rel => exact ⟨k + 1, q, by omega, by first | rfl | (simp; done) | (simp; omega), HI2, box (fun r hr => by
        rw [HNX.out] at hr
        rcases List.mem_append.1 hr with h | h
        · exact HN.out r h
        · cases hf : fitsL r x
          · rfl
          · rw [(fd_row hlt h hf).1] at hld; cases hld)⟩
      case measure => simp [intOf]; omega
    · go_wp2_with fail
      obtain ⟨Y, hY⟩ : ∃ Y, x &&& fxN (plN k).lay = Y := ⟨_, rfl⟩
      have hYl : Y < 4294967296 := by rw [← hY]; exact Nat.lt_of_le_of_lt Nat.and_le_left HX.out
      obtain ⟨Fk, hFk⟩ : ∃ F, fdB (cutF Y) = F := ⟨_, rfl⟩
      have hFo : FdsOk Fk := by rw [← hFk]; refine ⟨?_, ?_, ?_, ?_, ?_⟩ <;> simp only [fdB, cutF] <;> omega
      have KB : Box (∀ W, T24 W → Calls Tryd.prog 31 #[.int .u8 (k : Nat)] W fun r w' => ∃ b, r = .returned (.map (some b)) ∧ MapR w' b (rwsO k) ∧ Below W.heap.size W w' ∧ W.heap.size ≤ b) := box (fun W h => t_byFields k (by omega) hE W h)
      have KU : Box (∀ W, Calls Tryd.prog 32 #[.int .u32 (Y : Nat)] W fun r w' => r = .returned (.agg (fdC Fk)) ∧ Below W.heap.size W w') := box (fun W => t_cut Y hYl Fk hFk W)
      obtain ⟨rk, hrk⟩ : ∃ r, (lastR (rwsO k) Fk).getD rwZ = r := ⟨_, rfl⟩
      obtain ⟨bk, hbk⟩ : ∃ b, (lastR (rwsO k) Fk).isSome = b := ⟨_, rfl⟩
      have hlay : P.lay < 10 := by rw [← hP]; exact (plOk hlt).1
      have hlay2 : P.lay = (plN k).lay := by rw [← hP]; rfl
      have e1 : decide (((P.lay : Nat) : Int) < 10) = true := decide_eq_true (by omega)
      have e2 : decide ((10 : Int) ≤ ((P.lay : Nat) : Int)) = false := decide_eq_false (by omega)
      have hia : ∀ V : World, (Instr.indexAt 74 (.pointer (some ⟨1, 0, none⟩)) (.int .u8 ((P.lay : Nat) : Int))).run Tryd.prog V = .ok (.pointer (some ⟨1, P.lay, none⟩)) V := fun V => by
        rcases (show P.lay = 0 ∨ P.lay = 1 ∨ P.lay = 2 ∨ P.lay = 3 ∨ P.lay = 4 ∨ P.lay = 5 ∨ P.lay = 6 ∨ P.lay = 7 ∨ P.lay = 8 ∨ P.lay = 9 by omega) with h | h | h | h | h | h | h | h | h | h <;> rw [h] <;> kernel_rfl
      have hM : bits .and .u32 (x : Int) ((fxN P.lay : Nat) : Int) = (Y : Nat) := by rw [hlay2, and32t x _ HX.out (fxLt (by omega)), hY]
      have HFx : Box (∀ V2, Below w2.heap.size w2 V2 → (V2.cell? ⟨1, P.lay, none⟩ = some (.int .u32 (fxN P.lay : Nat)) ∧ V2.cell? ⟨wo.heap.size, 4, none⟩ = some (.int .u8 (P.lay : Nat)) ∧ T24 V2) ∧ (storeCells ⟨w.heap.size, 0, none⟩ (rwC rk).toList 0).run Tryd.prog V2 = .ok () (V2.setRow w.heap.size (rwC rk)) ∧ FdK w rk (V2.setRow w.heap.size (rwC rk))) := box (fun V2 b2 => by
        have h2 := HI2.below b2
        have t2 := t24B FF.out h2.b
        obtain ⟨_, _, _, _, q4⟩ := plV_cells (heap_of b2 _ _ _ RP2)
        exact ⟨⟨t2.fx _ hlay, q4, t2⟩, rwC_storeG (r := rk) h2.z rfl, ⟨Below.setRow h2.b (Nat.le_refl _), setRow_row h2.z⟩⟩)
      have HMk : Box (∀ V2 bm, MapR V2 bm (rwsO k) → (Instr.lookup 69 (.map (some bm)) (.agg (fdC Fk)) true).run Tryd.prog V2 = .ok (.tuple #[.agg (rwC rk), .bool bk]) V2) := box (fun V2 bm hm => by rw [hm.look Fk hFo, hrk, hbk])
      obtain ⟨⟨f0, f1, ft⟩, f2, f3⟩ := HFx.out w2 (Below.refl _ _)
      have HLR : Box (∀ r ∈ rwsO k, fitsL r x = true → bk = true ∧ rk = r) := box (fun r hr hf => by
        have q := (fd_row hlt hr hf).2
        rw [hY, hFk] at q
        rw [q] at hrk hbk
        exact ⟨hbk.symm, hrk.symm⟩)
      have HRK : Box (bk = true → rk ∈ rwsO k) := box (fun h => by
        rw [h] at hbk
        obtain ⟨r9, h9⟩ := Option.isSome_iff_exists.1 hbk
        rw [h9] at hrk
        obtain rfl : r9 = rk := hrk
        have := List.mem_of_find?_eq_some h9
        exact List.mem_reverse.1 this)
      clear hY hYl hFk hFo hrk hbk hlay2 hld HI2 RP2 p0' p1' p2' p3' p4' hfo
      apply cut7i
      · intro key
        have bq : Below w2.heap.size w2 w2.drew := (Below.refl _ _).drew
        have ftq : T24 w2.drew := t24B ft bq
        have hrs : (rwC rk).size = 7 := rfl
        go_region_with (first
          | (go_at_call 31; refine (KB.out _ ftq).mono ?_; rintro r wq ⟨bm, rfl, mp, bz, _⟩; have bq := bq.trans (bz.mono bq.size); obtain ⟨⟨f0, f1, ftq⟩, f2, f3⟩ := HFx.out wq bq; have lk := HMk.out wq bm mp)
          | (go_at_call 32; refine (KU.out _).mono ?_; rintro r wq ⟨rfl, bz⟩; have bq := bq.trans (bz.mono bq.size); obtain ⟨⟨f0, f1, ftq⟩, f2, f3⟩ := HFx.out wq bq; (first | (have mp := mp.below bz; have lk := HMk.out wq bm mp) | skip))
          | fail)
        all_goals
          clear f2
          obtain ⟨W9, hW9⟩ : ∃ X, wq.setRow w.heap.size (rwC rk) = X := ⟨_, rfl⟩
          rw [hW9] at f3 ⊢
          clear hW9
          obtain ⟨vm, hvm⟩ : ∃ v, Value.map (some bm) = v := ⟨_, rfl⟩
          rw [hvm]
          clear hvm
          revert W9 vm
          exact key
      · intro W9 f3 vm
        clear f0 f1 ft f2
        obtain ⟨x0, x1, x2, x3, x4, x5, x6⟩ := rwC_cells f3.z
        have hfr := rwC_fold rk
        have no : (bk = true → fitsL rk x = false) → ∀ r ∈ preR (k + 1), fitsL r x = false := fun h r hr => by
          rw [HNX.out] at hr
          rcases List.mem_append.1 hr with h1 | h1
          · exact HN.out r h1
          · cases hf : fitsL r x
            · rfl
            · obtain ⟨g1, g2⟩ := HLR.out r h1 hf
              have := h g1
              rw [g2, hf] at this
              cases this
        have NO := box no
        clear no
        cases hb : bk
        · go_wp2
          go_roundw
          case rel => exact ⟨k + 1, rk, by omega, by first | rfl | (simp; done) | (simp; omega), f3, box (NO.out (fun h => by rw [hb] at h; cases h))⟩
          case measure => simp [intOf]; omega
        · have hmem := HRK.out hb
          obtain ⟨pp, hpp, hpe⟩ := preR_mem (k := k + 1) (by omega) (show rk ∈ preR (k + 1) by rw [HNX.out]; exact List.mem_append_right _ hmem)
          have hok := ok24 hpp
          rw [hpe] at hok
          have KF := k_fits rk hok.2.2.2.2.1 hok.2.2.2.2.2.1 x HX.out
          have HPP := box hpp
          have HPE := box hpe
          clear hmem hpp hpe hok
          go_wp2_with fail
          refine (KF.out _).mono ?_
          rintro r w10 ⟨rfl, b10⟩
          have f10 := f3.below b10
          clear x0 x1 x2 x3 x4 x5 x6
          obtain ⟨x0, x1, x2, x3, x4, x5, x6⟩ := rwC_cells f10.z
          cases hff : fitsL rk x
          · go_wp2
            go_roundw
            case rel => exact ⟨k + 1, rk, by omega, by first | rfl | (simp; done) | (simp; omega), f10, box (NO.out (fun _ => hff))⟩
            case measure => simp [intOf]; omega
          · have hv := HV.out
            obtain ⟨s9, hs9⟩ := fdk_some HPP.out (by rw [HPE.out]; exact hff)
            rw [hs9, HPE.out] at hv
            obtain ⟨rfl, rfl⟩ := hv
            have hst := rwC_storeG (r := rk) f10.z rfl
            have rz := setRow_row (c' := rwC rk) f10.z
            have bz : Below w.heap.size w (w10.setRow w.heap.size (rwC rk)) := Below.setRow f10.b (Nat.le_refl _)
            obtain ⟨VZ, hVZ⟩ : ∃ X, w10.setRow w.heap.size (rwC rk) = X := ⟨_, rfl⟩
            rw [hVZ] at hst rz bz
            clear hVZ
            go_wp2
            exact bodyPost_ret (v := .tuple #[.agg (rwC rk), .bool true]) (res_rb Tryd.results15 rfl rfl rz) rfl ⟨rfl, bz⟩
def exB (r : Rw) (c : UInt8) : List UInt8 := if isMk c.toNat then partP c.toNat r else [c]
def nameB (r : Rw) : List UInt8 := (plN r.op).nm.flatMap (exB r)
theorem name_all : (allL.all fun p => decide (nameB p.1 = p.2 ∧ p.1.op < 32 ∧ p.1.form < 4 ∧ p.1.frm < 4 ∧ p.1.kind < 4)) = true := by decide +kernel
theorem marks_all : ((List.range 32).all fun o => (plN o).nm.all fun c => decide (isMk c.toNat = true → c.toNat = 70 ∨ c.toNat = 71 ∨ c.toNat = 77 ∨ c.toNat = 75) && decide ((plN o).nm.length ≤ 8)) = true := by decide +kernel
theorem len_all : ((List.range 32).all fun o => decide ((plN o).nm.length ≤ 8)) = true := by decide +kernel
theorem k_part (c : Nat) (q : Rw) (hc : c = 70 ∨ c = 71 ∨ c = 77 ∨ c = 75) (h1 : q.form < 4) (h2 : q.frm < 4) (h3 : q.kind < 4) : Box (∀ w, T24 w → Calls Tryd.prog 42 #[.int .u8 (c : Nat), .agg (rwC q)] w fun r w' => r = .returned (.string ⟨(partP c q).toArray⟩) ∧ Below w.heap.size w w') := box (fun w hT => by
  rcases hc with rfl | rfl | rfl | rfl
  · exact t_partF q h1 w
  · exact t_partG q h2 w
  · exact t_partM q h1 w
  · exact t_partK q h3 w hT)
def bcs (L : List UInt8) : List Value := L.map fun b => Value.int .u8 (b.toNat : Int)
theorem bcs_app (L M : List UInt8) : bcs (L ++ M) = bcs L ++ bcs M := by simp [bcs]
theorem bcs_str (L : List UInt8) : Go.Lib.strCells ⟨L.toArray⟩ = bcs L := by simp [Go.Lib.strCells, bcs]
theorem part_len (c : Nat) (q : Rw) : (partP c q).length ≤ 2 := by
  unfold partP
  split
  · unfold letL; repeat' split
    all_goals decide
  · split
    · unfold letL; repeat' split
      all_goals decide
    · split
      · unfold szL; repeat' split
        all_goals decide
      · unfold knL; repeat' split
        all_goals decide
theorem ex_len (q : Rw) (c : UInt8) : (exB q c).length ≤ 2 := by
  unfold exB
  split
  · exact part_len _ _
  · simp
theorem exs_len (q : Rw) (l : List UInt8) : (l.flatMap (exB q)).length ≤ 2 * l.length := by
  induction l with
  | nil => simp
  | cons c l ih =>
    rw [List.flatMap_cons, List.length_append, List.length_cons]
    have := ex_len q c
    omega
theorem cell_same24 {V V' : World} {g i : Nat} (h : V'.heap[g]? = V.heap[g]?) : V'.cell? ⟨g, i, none⟩ = V.cell? ⟨g, i, none⟩ := by
  simp only [World.cell?, h]
structure NmK (w : World) (q : Rw) (g : Nat) (nm : List UInt8) (v : Value) (L : List UInt8) (V : World) : Prop where
  b : Below w.heap.size w V
  r : V.heap[w.heap.size]? = some (.cells (rwC q) 36)
  c : ∀ i (h : i < nm.length), V.cell? ⟨g, i, none⟩ = some (.int .u8 (nm[i].toNat : Int))
  l : g < V.heap.size
  o : V.ownsRow (g + 1) 5 1 v L.length (bcs L)
theorem NmK.start {w w1 : World} {q : Rw} {nm : List UInt8} {cp : Nat} (B : Below w.heap.size w w1) (R : w1.heap[w.heap.size]? = some (.cells (rwC q) 36)) : NmK w q w1.heap.size nm (.slice none 0 0) [] (w1.drew.alloc (.cells (bytesRow ⟨nm.toArray⟩ cp) 5 ((bytesRow ⟨nm.toArray⟩ cp).size, (bytesRow ⟨nm.toArray⟩ cp).size + 1))) := by
  have hb : Below w1.heap.size w1 (w1.drew.alloc (.cells (bytesRow ⟨nm.toArray⟩ cp) 5 ((bytesRow ⟨nm.toArray⟩ cp).size, (bytesRow ⟨nm.toArray⟩ cp).size + 1))) := ((Below.refl _ w1).drew).alloc (Nat.le_refl _) _
  have hl : (w1.drew.alloc (.cells (bytesRow ⟨nm.toArray⟩ cp) 5 ((bytesRow ⟨nm.toArray⟩ cp).size, (bytesRow ⟨nm.toArray⟩ cp).size + 1))).heap[w1.heap.size]? = some (.cells (bytesRow ⟨nm.toArray⟩ cp) 5 ((bytesRow ⟨nm.toArray⟩ cp).size, (bytesRow ⟨nm.toArray⟩ cp).size + 1)) := heap_alloc_last w1.drew _
  refine ⟨B.trans (hb.mono B.size), heap_of hb _ _ _ R, fun i hi => ?_, (Array.getElem?_eq_some_iff.1 hl).1, World.ownsRow_nil _ _ _ _⟩
  have hx := bytesRow_at ⟨nm.toArray⟩ cp i (by simpa using hi)
  simp only [World.cell?, hl]
  simpa using hx
theorem NmK.below {w : World} {q : Rw} {g : Nat} {nm : List UInt8} {v : Value} {L : List UInt8} {V V' : World} (h : NmK w q g nm v L V) (b : Below V.heap.size V V') : NmK w q g nm v L V' :=
  ⟨h.b.trans (b.mono h.b.size), heap_of b _ _ _ h.r, fun i hi => cellB b (h.c i hi), Nat.lt_of_lt_of_le h.l b.size, own_below24 h.o b⟩
theorem NmK.str {w : World} {q : Rw} {g : Nat} {nm : List UInt8} {v : Value} {L : List UInt8} {V : World} (h : NmK w q g nm v L V) : (convert 85 9 v).run Tryd.prog V = .ok (.string ⟨L.toArray⟩) V := by
  rcases h.o.2 with ⟨rfl, hn⟩ | ⟨g2, cap, cur, rfl, _⟩
  · have : L = [] := List.length_eq_zero_iff.1 hn
    subst this
    rw [run_convert_bytes_string V 85 9 5 none 0 0 Tryd.underlying85 Tryd.underlying5 Tryd.underlying9]
    rfl
  · refine run_convert_bytes_back V 85 9 5 ⟨g2, 0, none⟩ cap L Tryd.underlying85 Tryd.underlying5 Tryd.underlying9 (fun j hj => ?_)
    exact h.o.cells (g := g2) rfl j _ (by simp [bcs, hj])
theorem NmK.grown {w : World} {q : Rw} {g : Nat} {nm : List UInt8} {v v' : Value} {L L' : List UInt8} {V V' : World} (h : NmK w q g nm v L V) (hg : w.heap.size < g) (gr : V.grownBy V' v.ownBlock) (o : V'.ownsRow (g + 1) 5 1 v' L'.length (bcs L')) : NmK w q g nm v' L' V' := by
  have hne : ∀ k, k < g + 1 → some k ≠ v.ownBlock := fun k hk e => by have := (h.o.lt k e.symm).1; omega
  refine ⟨h.b.grown gr h.b.size (fun k e => by have := (h.o.lt k e).1; omega), (gr.block _ (Array.getElem?_eq_some_iff.1 h.r).1 (hne _ (by omega))).trans h.r, fun i hi => ?_, Nat.lt_of_lt_of_le h.l gr.size, o⟩
  rw [← h.c i hi]
  exact cell_same24 (gr.block g h.l (hne g (by omega)))
set_option maxRecDepth 100000 in
set_option maxHeartbeats 8000000 in
theorem t_nameOf (q : Rw) (hop : q.op < 32) (h1 : q.form < 4) (h2 : q.frm < 4) (h3 : q.kind < 4) (w : World) (hT : T24 w) : Calls Tryd.prog 28 #[.agg (rwC q)] w fun r w' => r = .returned (.string ⟨(nameB q).toArray⟩) ∧ Below w.heap.size w w' := by
  have FF := box hT
  have KP := k_planOf q.op (by omega)
  obtain ⟨nm, hnm⟩ : ∃ l, (plN q.op).nm = l := ⟨_, rfl⟩
  obtain ⟨P, hP⟩ : ∃ P, plB (plN q.op) = P := ⟨_, rfl⟩
  have hPn : P.nm = ⟨nm.toArray⟩ := by rw [← hP, ← hnm]; rfl
  have hlen : nm.length ≤ 8 := by rw [← hnm]; exact of_decide_eq_true (List.all_eq_true.1 len_all q.op (List.mem_range.2 hop))
  have HMK : Box (∀ c ∈ nm, isMk c.toNat = true → c.toNat = 70 ∨ c.toNat = 71 ∨ c.toNat = 77 ∨ c.toNat = 75) := box (fun c hc => by
    have := List.all_eq_true.1 (List.all_eq_true.1 marks_all q.op (List.mem_range.2 hop)) c (by rw [hnm]; exact hc)
    simp only [Bool.and_eq_true, decide_eq_true_eq] at this
    exact this.1)
  have HNB : Box (nameB q = nm.flatMap (exB q)) := box (by unfold nameB; rw [hnm])
  rw [hP] at KP
  have hfl : ∀ V : World, (Instr.field 67 (.agg (plV P)) 0).run Tryd.prog V = .ok (.string ⟨nm.toArray⟩) V := fun V => by rw [← hPn]; kernel_rfl
  have hcv : ∀ V : World, (convert 9 85 (.string ⟨nm.toArray⟩)).run Tryd.prog V = .ok (.slice (some ⟨V.heap.size, 0, none⟩) nm.length (grownCap V nm.length 0 5)) (V.drew.alloc (.cells (bytesRow ⟨nm.toArray⟩ (grownCap V nm.length 0 5)) 5 ((bytesRow ⟨nm.toArray⟩ (grownCap V nm.length 0 5)).size, (bytesRow ⟨nm.toArray⟩ (grownCap V nm.length 0 5)).size + 1))) := fun V => run_bytes_of_string V 9 85 5 ⟨nm.toArray⟩ Tryd.underlying9 Tryd.underlying85 Tryd.underlying5
  clear hT hnm hP hPn
  obtain ⟨Rr_0, B0⟩ := opn1 w (Obj.cells (rwC q) 36)
  go_enter Tryd.func28, Tryd.ntmps28
  obtain ⟨cr_0_0, cr_0_1, cr_0_2, cr_0_3, cr_0_4, cr_0_5, cr_0_6⟩ := rwC_cells Rr_0
  go_wp2_with fail
  refine (KP.out _ (t24B FF.out B0)).mono ?_
  rintro r w1 ⟨rfl, b1⟩
  have B1 : Below w.heap.size w w1 := btr B0 b1
  have Rr_1 := heap_of b1 _ _ _ Rr_0
  clear b1 B0 Rr_0 cr_0_0 cr_0_1 cr_0_2 cr_0_3 cr_0_4 cr_0_5 cr_0_6
  obtain ⟨cr_1_0, cr_1_1, cr_1_2, cr_1_3, cr_1_4, cr_1_5, cr_1_6⟩ := rwC_cells Rr_1
  obtain ⟨cp, hcp⟩ : ∃ c, grownCap w1 nm.length 0 5 = c := ⟨_, rfl⟩
  have hcv1 := hcv w1
  rw [hcp] at hcv1
  have I0 := NmK.start (q := q) (nm := nm) (cp := cp) B1 Rr_1
  have hg1 : w.heap.size < w1.heap.size := (Array.getElem?_eq_some_iff.1 Rr_1).1
  obtain ⟨g, hg⟩ : ∃ g, w1.heap.size = g := ⟨_, rfl⟩
  rw [hg] at hcv1 I0 hg1
  obtain ⟨wb, hwb⟩ : ∃ V, w1.drew.alloc (.cells (bytesRow ⟨nm.toArray⟩ cp) 5 ((bytesRow ⟨nm.toArray⟩ cp).size, (bytesRow ⟨nm.toArray⟩ cp).size + 1)) = V := ⟨_, rfl⟩
  rw [hwb] at hcv1 I0
  clear hwb hcv hcp hg B1 Rr_1 cr_1_0 cr_1_1 cr_1_2 cr_1_3 cr_1_4 cr_1_5 cr_1_6
  go_wp2
  go_loopw [3, 12] (fun vv iv wr => ∃ i : Nat, i ≤ nm.length ∧ iv = .int .i64 (i : Int) ∧ NmK w q g nm vv ((nm.take i).flatMap (exB q)) wr) (fun _ iv _ => nm.length - (intOf iv).toNat)
  case atStart => exact ⟨0, Nat.zero_le _, rfl, I0⟩
  case round =>
    clear I0 hcv1
    obtain ⟨i, hi, rfl, HI⟩ := hrel
    obtain ⟨wo, rfl⟩ : ∃ wo, wo = wr := ⟨_, rfl⟩
    by_cases hlt : i < nm.length
    case neg =>
      have ie : i = nm.length := by omega
      have d1 : decide ((i : Int) < (nm.length : Int)) = false := decide_eq_false (by omega)
      have e : (nm.take i).flatMap (exB q) = nameB q := by rw [HNB.out, ie, List.take_length]
      rw [e] at HI
      have hbk := HI.str
      have HB := HI.b
      clear HI e
      go_wp2
      go_ret
      exact ⟨rfl, HB⟩
    have d1 : decide ((i : Int) < (nm.length : Int)) = true := decide_eq_true (by omega)
    have d2 : decide ((nm.length : Int) ≤ (i : Int)) = false := decide_eq_false (by omega)
    have w1' : IntKind.i64.wrap ((i : Int) + 1) = ((i + 1 : Nat) : Int) := by rw [IntKind.wrap_i64]; omega
    obtain ⟨c, hcE⟩ : ∃ c, nm[i] = c := ⟨_, rfl⟩
    have cg := HI.c i hlt
    have HMc := HMK.out nm[i] (List.getElem_mem hlt)
    have hnx : (nm.take (i + 1)).flatMap (exB q) = (nm.take i).flatMap (exB q) ++ exB q c := by
      rw [List.take_add_one, List.getElem?_eq_getElem hlt, hcE]
      simp
    rw [hcE] at cg HMc
    obtain ⟨L, hL⟩ : ∃ L, (nm.take i).flatMap (exB q) = L := ⟨_, rfl⟩
    have hLl : L.length ≤ 16 := by
      rw [← hL]
      have := exs_len q (nm.take i)
      have := List.length_take_le i nm
      omega
    rw [hL] at HI hnx
    have HNX := box hnx
    clear hcE hnx hL
    have KM := k_isMark c.toNat
    have hcw : c.toNat < 256 := c.toNat_lt
    obtain ⟨i0, hi0, hz0, hz1, hz2⟩ := info_parts (show (Tryd.prog.info? 5).map (fun i => (i.zero, i.size, i.bytes)) = some (some (.int .u8 0), 1, 1) by kernel_rfl)
    go_wp2_with fail
    refine (KM.out _).mono ?_
    rintro r w2 ⟨rfl, b2⟩
    have H2 := HI.below b2
    clear HI cg b2
    cases hmk : isMk c.toNat
    · have he : exB q c = [c] := by unfold exB; rw [hmk]; rfl
      have O2 := H2.o
      go_wp2_with (first | (at_builtin; refine wpList_append_own_at _ rfl _ _ 85 rfl (g + 1) 5 i0 (.int .u8 0) 1 1 Tryd.underlying85 hi0 hz0 hz1 hz2 rfl (by decide) _ _ _ rfl (O2.alloc _) ⟨w2.heap.size, 0, none⟩ 1 1 [Value.int .u8 (c.toNat : Int)] rfl rfl (new_cells24 _ #[Value.int .u8 (c.toNat : Int)] _) (fun u hu => by simp at hu; subst hu; rfl) (by unfold maxLen; omega) (by omega) (by have := H2.l; simp only [size_al]; omega) ?_; intro v9 w6 hown9 hgrow9 hnil9 hblk9) | fail)
      have H6 : NmK w q g nm v9 (L ++ [c]) w6 := (H2.below (bal w2 _)).grown hg1 hgrow9 (by rw [bcs_app, List.length_append]; exact hown9)
      go_roundw
      case rel => exact ⟨i + 1, by omega, by first | rfl | (simp; done) | (simp; omega), by rw [HNX.out, he]; exact H6⟩
      case measure => simp [intOf]; omega
    · have he : exB q c = partP c.toNat q := by unfold exB; rw [hmk]; rfl
      have KQ := k_part c.toNat q (HMc hmk) h1 h2 h3
      obtain ⟨x0, x1, x2, x3, x4, x5, x6⟩ := rwC_cells H2.r
      have hfr := rwC_fold q
      go_wp2_with fail
      refine (KQ.out _ (t24B FF.out H2.b)).mono ?_
      rintro r w3 ⟨rfl, b3⟩
      have H3 := H2.below b3
      have O3 := H3.o
      have hpl := part_len c.toNat q
      clear x0 x1 x2 x3 x4 x5 x6 H2 b3
      obtain ⟨M, hM⟩ : ∃ M, partP c.toNat q = M := ⟨_, rfl⟩
      rw [hM] at hpl he ⊢
      have hsz : (⟨M.toArray⟩ : ByteArray).size = M.length := by simp [ByteArray.size]
      go_wp2_with (first | (at_builtin; refine Go.Lib.wpList_append_own_string _ rfl _ _ 85 9 rfl (g + 1) 5 i0 Tryd.underlying85 Tryd.underlying9 hi0 hz0 hz1 hz2 _ _ _ rfl O3 ⟨M.toArray⟩ rfl (by rw [hsz]; unfold maxLen; omega) (by rw [hsz]; omega) (by have := H3.l; omega) ?_; intro v9 w6 hown9 hgrow9 hnil9) | fail)
      have H6 : NmK w q g nm v9 (L ++ M) w6 := H3.grown hg1 hgrow9 (by rw [bcs_app, List.length_append]; rw [hsz, bcs_str] at hown9; exact hown9)
      go_roundw
      case rel => exact ⟨i + 1, by omega, by first | rfl | (simp; done) | (simp; omega), by rw [HNX.out, he]; exact H6⟩
      case measure => simp [intOf]; omega
end Go.Proofs.YtfdhglllmhggkaaDoor
