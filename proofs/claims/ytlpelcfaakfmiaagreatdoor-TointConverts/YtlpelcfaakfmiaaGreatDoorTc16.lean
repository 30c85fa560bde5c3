/-
  What the functions that the statement reaches return: part 16 (GP, GO, GQ, O6, NA).
-/
import Derived.Test.YtlpelcfaakfmiaaGreatDoorTc15
namespace Go.Proofs.YtlpelcfaakfmiaaGreatDoor
set_option maxRecDepth 100000
set_option maxHeartbeats 40000000
set_option maxRecDepth 100000
open Go.RowKit WMath
set_option linter.unusedSimpArgs false
set_option linter.unusedVariables false
set_option maxRecDepth 100000 in
set_option maxHeartbeats 8000000 in
theorem tc_law (k f m : Int) (x1 y1 : Nat) (t fl e : Int) (he : IntKind.i64.wrap e = e) (w : World) (K1 : Box (∀ w, FAt w → Calls Tryz.prog 5 #[.int .u8 k, .int .u8 f, .int .u8 m, .agg #[.int .u64 (x1 : Nat), .int .u64 (y1 : Nat)]] w fun r w' => r = .returned (.tuple #[.int .u64 t, .int .u8 fl, .int .i64 e]) ∧ Below w.heap.size w w')) (R1 : Box (∀ w, Calls Tryz.prog 6 #[.int .u8 k, .int .u8 f, .int .u8 m, .agg #[.int .u64 (x1 : Nat), .int .u64 (y1 : Nat)]] w fun r w' => r = .returned (.tuple #[.int .u64 t, .int .u8 fl, .int .i64 e]) ∧ Below w.heap.size w w')) (KA : Box (∀ w, FAt w → Calls Tryz.prog 7 #[] w fun r w' => r = .returned (.bool true) ∧ Below w.heap.size w w')) (hT : FAt w) : Calls Tryz.prog 3 #[.int .u8 k, .int .u8 f, .int .u8 m, .agg #[.int .u64 (x1 : Nat), .int .u64 (y1 : Nat)]] w fun r w' => r = .returned (.bool true) ∧ Below w.heap.size w w' := by
  have FF := box hT
  clear hT
  obtain ⟨Ra_0, B0⟩ := opn1 w (Obj.cells #[.int .u64 (x1 : Nat), .int .u64 (y1 : Nat)] 27)
  go_enter Tryz.func3, Tryz.ntmps3
  obtain ⟨ca_0_0, ca_0_1⟩ := cells2s Ra_0
  go_wp2_with fail
  refine (K1.out _ (fatB FF.out B0)).mono ?_
  rintro r w1 ⟨rfl, b1⟩
  have B1 : Below w.heap.size w w1 := btr B0 b1
  have Ra_1 := heap_of b1 _ _ _ Ra_0
  clear b1 B0 Ra_0 ca_0_0 ca_0_1
  obtain ⟨ca_1_0, ca_1_1⟩ := cells2s Ra_1
  go_wp2_with fail
  refine (R1.out _).mono ?_
  rintro r w2 ⟨rfl, b2⟩
  have B2 : Below w.heap.size w w2 := btr B1 b2
  have Ra_2 := heap_of b2 _ _ _ Ra_1
  clear b2 B1 Ra_1 ca_1_0 ca_1_1
  obtain ⟨ca_2_0, ca_2_1⟩ := cells2s Ra_2
  go_wp2_with fail
  refine (KA.out _ (fatB FF.out B2)).mono ?_
  rintro r w3 ⟨rfl, b3⟩
  have B3 : Below w.heap.size w w3 := btr B2 b3
  have Ra_3 := heap_of b3 _ _ _ Ra_2
  clear b3 B2 Ra_2 ca_2_0 ca_2_1
  obtain ⟨ca_3_0, ca_3_1⟩ := cells2s Ra_3
  go_wp2
  go_ret
  exact ⟨rfl, B3⟩
set_option maxRecDepth 100000 in
set_option maxHeartbeats 8000000 in
theorem r19alive0 (K : Box (∀ w, FAt w → Calls Tryz.prog 5 #[.int .u8 0, .int .u8 2, .int .u8 1, .agg #[.int .u64 0, .int .u64 48128]] w fun r w' => r = .returned (.tuple #[.int .u64 18446744073709551615, .int .u8 0, .int .i64 0]) ∧ Below w.heap.size w w')) (w : World) (hT : FAt w) : Calls Tryz.prog 7 #[] w fun r w' => r = .returned (.bool true) ∧ Below w.heap.size w w' := by
  have FF := box hT
  clear hT
  have B0 : Below w.heap.size w w := (Below.refl _ _)
  go_enter Tryz.func7, Tryz.ntmps7
  go_wp2_with fail
  refine (K.out _ (fatB FF.out B0)).mono ?_
  rintro r w1 ⟨rfl, b1⟩
  have B1 : Below w.heap.size w w1 := btr B0 b1
  clear b1 B0 
  go_wp2
  go_ret
  exact ⟨rfl, B1⟩
end Go.Proofs.YtlpelcfaakfmiaaGreatDoor
namespace Go.Proofs.YtlpelcfaakfmiaaGreatDoor
set_option maxRecDepth 100000
set_option maxHeartbeats 40000000
set_option maxRecDepth 100000
open Go.RowKit WMath XMath
set_option linter.unusedSimpArgs false
set_option linter.unusedVariables false
theorem bel_so {P : Program} {k : FuncId} {a : Array Value} {w : World} {v : Value} (h : Calls P k a w fun r w' => r = .returned v ∧ w' = w) : Calls P k a w fun r w' => r = .returned v ∧ Below w.heap.size w w' := h.mono fun _ _ q => ⟨q.1, by rw [q.2]; exact Below.refl _ _⟩
theorem low_odd {n t : Nat} (n0 : n ≠ 0) (h : LowN n t) : (((t : Nat) : Int) == 0) = decide (n % 2 = 1) := by
  rcases h with h | ⟨_, h1, h2⟩
  · exact absurd h.1 n0
  · by_cases z : t = 0
    · subst z
      rw [Nat.testBit_zero] at h2
      rw [h2]
      rfl
    · have : n % 2 = 0 := by
        obtain ⟨i, rfl⟩ : ∃ i, t = 1 + i := ⟨t - 1, by omega⟩
        have := ((mod_pow_zero n 1 i).1 h1).1
        omega
      rw [decide_eq_false (by omega), beq_eq_false_iff_ne]
      omega
theorem low_none : LowN 0 0 := Or.inl ⟨rfl, rfl⟩
theorem rRounded_is (f m : Int) (hf : Is4 f) (x1 y1 n : Nat) (hx : x1 < 18446744073709551616) (hy : y1 < 18446744073709551616) (hn : y1 + 18446744073709551616 * x1 = n) (ok : okB f n = true) (fin : 0 < kC f n ∧ kC f n < 7) (N : Nat) (ex : Bool) (hr : tiR f m n = (N, ex)) (s : ByteArray) (hs : nbA N = s) (w : World) : Calls Tryz.prog 25 #[.int .u8 f, .int .u8 m, .agg #[.int .u64 (x1 : Nat), .int .u64 (y1 : Nat)]] w fun r w' => r = .returned (.tuple #[.string s, .bool ex]) ∧ Below w.heap.size w w' := by
  have fit := (okB_yes (is4_ok hf).1 ok).2
  have nlT := tiS_nl hf m n
  rw [← tiR_parts hf m n fin, hr] at nlT
  obtain ⟨b3, n3, d3, e3, hv⟩ : ∃ b n3 d e, vX f n = ⟨b, n3, d, e⟩ := ⟨_, _, _, _, rfl⟩
  have can := vX_can hf n fin
  rw [hv] at can
  have KV := box (fun w => rValue_yes f hf x1 y1 n hx hy hn ok fit fin b3 n3 d3 e3 _ _ hv rfl rfl w)
  obtain ⟨N0, i0, h0⟩ : ∃ N i, flS (kS f n) (kX f n) 0 = (N, i) := ⟨_, _, rfl⟩
  obtain ⟨N1, i1, h1⟩ : ∃ N i, flS (kS f n) (kX f n) (-1) = (N, i) := ⟨_, _, rfl⟩
  have p0 := fl_parts hf n fin 0 (by decide) (by decide)
  have p1 := fl_parts hf n fin (-1) (by decide) (by decide)
  rw [h0, hv] at p0
  rw [h1, hv] at p1
  have F0 : ∀ v, nbA N0 = v → Box (∀ w, Calls Tryz.prog 51 #[.agg #[.bool b3, .string (nbA n3), .string (nbA d3), .int .i64 e3], .int .i64 (0)] w fun r w' => r = .returned (.tuple #[.string v, .bool i0, .int .i64 0]) ∧ Below w.heap.size w w') := fun v h => box (fun w => rFloor_ok b3 n3 d3 e3 _ _ (0) N0 i0 0 _ rfl rfl can (by decide) (by decide) p0 h w)
  have F1 : ∀ v, nbA N1 = v → Box (∀ w, Calls Tryz.prog 51 #[.agg #[.bool b3, .string (nbA n3), .string (nbA d3), .int .i64 e3], .int .i64 (-1)] w fun r w' => r = .returned (.tuple #[.string v, .bool i1, .int .i64 0]) ∧ Below w.heap.size w w') := fun v h => box (fun w => rFloor_ok b3 n3 d3 e3 _ _ (-1) N1 i1 0 _ rfl rfl can (by decide) (by decide) p1 h w)
  have l0 : nl N0 ≤ 16384 := nl_fl p0 can
  have l1 : nl N1 ≤ 16384 := nl_fl p1 can
  unfold tiR at hr
  rw [hv, p0] at hr
  dsimp only at hr
  have hh : hfR ⟨b3, n3, d3, e3⟩ = if N1 % 2 = 1 then (if i1 then 0 else 1) else -1 := by unfold hfR; rw [p1]
  rw [hh] at hr
  clear hh
  cases i0
  case true =>
    rw [if_pos rfl] at hr
    cases hr
    exact rrd_ex f m x1 y1 b3 _ _ e3 0 0 0 s s s w KV (F0 s hs)
  rw [if_neg (by decide)] at hr
  obtain ⟨o, ho⟩ : ∃ o, uP m b3 (decide (N0 % 2 = 1)) (if N1 % 2 = 1 then (if i1 then 0 else 1) else -1) false = o := ⟨_, rfl⟩
  rw [ho] at hr
  obtain ⟨t0, L0⟩ := lowN_any N0
  obtain ⟨t1, L1⟩ := lowN_any N1
  have P : o = true → Box (∀ w, Calls Tryz.prog 54 #[.string (nbA N0), .string ⟨#[1]⟩] w fun r w' => r = .returned (.tuple #[.string s, .int .i64 0]) ∧ Below w.heap.size w w') := by
    intro q
    rw [q, if_pos rfl] at hr
    cases hr
    have nlT : nl (N0 + 1) ≤ 2600 := nlT
    refine box (fun w => nat_Add N0 1 _ _ s 0 rfl nb1 ?_ (by omega) (by decide) w)
    unfold lg
    rw [if_pos (by omega), hs]
  have S : o = false → nbA N0 = s := by
    intro q
    rw [q, if_neg (by decide), Nat.add_zero] at hr
    cases hr
    exact hs
  have xf : ex = false := by cases hr; rfl
  subst xf
  have U := fun (od : Bool) (h : Int) (k : uP m b3 od h false = o) => box (fun w => rh_up m b3 od h false o k w)
  by_cases z1 : N1 = 0
  · rw [z1, if_neg (by decide)] at ho
    by_cases z0 : N0 = 0
    · have e0 : nbA N0 = ⟨#[]⟩ := by rw [z0, nbA_zero]
      rw [z0] at ho
      cases o
      · have e := S rfl
        rw [e0] at e
        subst e
        exact rrd_eef f m x1 y1 b3 _ _ e3 0 0 0 ⟨#[]⟩ ⟨#[]⟩ ⟨#[]⟩ i1 false 0 0 0   w KV (F0 _ e0) (F1 _ (by rw [z1, nbA_zero])) (box (fun w => bel_so (nat_Low 0 0 _ nbA_zero (by decide) low_none w)))  (U false (-1) ho)
      · exact rrd_eet f m x1 y1 b3 _ _ e3 0 0 0 ⟨#[]⟩ ⟨#[]⟩ s i1 false 0 0 0   w KV (F0 _ e0) (F1 _ (by rw [z1, nbA_zero])) (box (fun w => bel_so (nat_Low 0 0 _ nbA_zero (by decide) low_none w)))  (U false (-1) ho) (by have q := P rfl; rw [e0] at q; exact q)
    · have q0 := eq_nil N0 _ rfl z0
      cases o
      · have e := S rfl
        subst e
        exact rrd_eff f m x1 y1 b3 _ _ e3 0 0 0 (nbA N0) ⟨#[]⟩ ⟨#[]⟩ i1 (decide (N0 % 2 = 1)) ((t0 : Nat) : Int) 0 0  q0 (low_odd z0 L0) w KV (F0 _ rfl) (F1 _ (by rw [z1, nbA_zero])) (box (fun w => bel_so (nat_Low 0 0 _ nbA_zero (by decide) low_none w))) (box (fun w => bel_so (nat_Low N0 t0 _ rfl l0 L0 w))) (U (decide (N0 % 2 = 1)) (-1) ho)
      · exact rrd_eft f m x1 y1 b3 _ _ e3 0 0 0 (nbA N0) ⟨#[]⟩ s i1 (decide (N0 % 2 = 1)) ((t0 : Nat) : Int) 0 0  q0 (low_odd z0 L0) w KV (F0 _ rfl) (F1 _ (by rw [z1, nbA_zero])) (box (fun w => bel_so (nat_Low 0 0 _ nbA_zero (by decide) low_none w))) (box (fun w => bel_so (nat_Low N0 t0 _ rfl l0 L0 w))) (U (decide (N0 % 2 = 1)) (-1) ho) (P rfl)
  · have q1 := eq_nil N1 _ rfl z1
    have g := low_odd z1 L1
    by_cases c1 : N1 % 2 = 1
    · rw [if_pos c1] at ho
      rw [decide_eq_true c1] at g
      have K1 : Box (∀ w, Calls Tryz.prog 52 #[.string (nbA N1)] w fun r w' => r = .returned (.int .i64 0) ∧ Below w.heap.size w w') := by
        have t0 : ((t1 : Nat) : Int) = 0 := beq_iff_eq.1 g
        have := box (fun w => bel_so (nat_Low N1 t1 _ rfl l1 L1 w))
        rw [t0] at this
        exact this
      cases i1
      · rw [if_neg (by decide)] at ho
        by_cases z0 : N0 = 0
        · have e0 : nbA N0 = ⟨#[]⟩ := by rw [z0, nbA_zero]
          rw [z0] at ho
          cases o
          · have e := S rfl
            rw [e0] at e
            subst e
            exact rrd_pef f m x1 y1 b3 _ _ e3 0 0 0 ⟨#[]⟩ (nbA N1) ⟨#[]⟩ false false 0 0 0 q1  w KV (F0 _ e0) (F1 _ rfl) (K1)  (U false 1 ho)
          · exact rrd_pet f m x1 y1 b3 _ _ e3 0 0 0 ⟨#[]⟩ (nbA N1) s false false 0 0 0 q1  w KV (F0 _ e0) (F1 _ rfl) (K1)  (U false 1 ho) (by have q := P rfl; rw [e0] at q; exact q)
        · have q0 := eq_nil N0 _ rfl z0
          cases o
          · have e := S rfl
            subst e
            exact rrd_pff f m x1 y1 b3 _ _ e3 0 0 0 (nbA N0) (nbA N1) ⟨#[]⟩ false (decide (N0 % 2 = 1)) ((t0 : Nat) : Int) 0 0 q1 q0 (low_odd z0 L0) w KV (F0 _ rfl) (F1 _ rfl) (K1) (box (fun w => bel_so (nat_Low N0 t0 _ rfl l0 L0 w))) (U (decide (N0 % 2 = 1)) 1 ho)
          · exact rrd_pft f m x1 y1 b3 _ _ e3 0 0 0 (nbA N0) (nbA N1) s false (decide (N0 % 2 = 1)) ((t0 : Nat) : Int) 0 0 q1 q0 (low_odd z0 L0) w KV (F0 _ rfl) (F1 _ rfl) (K1) (box (fun w => bel_so (nat_Low N0 t0 _ rfl l0 L0 w))) (U (decide (N0 % 2 = 1)) 1 ho) (P rfl)
      · rw [if_pos rfl] at ho
        by_cases z0 : N0 = 0
        · have e0 : nbA N0 = ⟨#[]⟩ := by rw [z0, nbA_zero]
          rw [z0] at ho
          cases o
          · have e := S rfl
            rw [e0] at e
            subst e
            exact rrd_zef f m x1 y1 b3 _ _ e3 0 0 0 ⟨#[]⟩ (nbA N1) ⟨#[]⟩ true false 0 0 0 q1  w KV (F0 _ e0) (F1 _ rfl) (K1)  (U false 0 ho)
          · exact rrd_zet f m x1 y1 b3 _ _ e3 0 0 0 ⟨#[]⟩ (nbA N1) s true false 0 0 0 q1  w KV (F0 _ e0) (F1 _ rfl) (K1)  (U false 0 ho) (by have q := P rfl; rw [e0] at q; exact q)
        · have q0 := eq_nil N0 _ rfl z0
          cases o
          · have e := S rfl
            subst e
            exact rrd_zff f m x1 y1 b3 _ _ e3 0 0 0 (nbA N0) (nbA N1) ⟨#[]⟩ true (decide (N0 % 2 = 1)) ((t0 : Nat) : Int) 0 0 q1 q0 (low_odd z0 L0) w KV (F0 _ rfl) (F1 _ rfl) (K1) (box (fun w => bel_so (nat_Low N0 t0 _ rfl l0 L0 w))) (U (decide (N0 % 2 = 1)) 0 ho)
          · exact rrd_zft f m x1 y1 b3 _ _ e3 0 0 0 (nbA N0) (nbA N1) s true (decide (N0 % 2 = 1)) ((t0 : Nat) : Int) 0 0 q1 q0 (low_odd z0 L0) w KV (F0 _ rfl) (F1 _ rfl) (K1) (box (fun w => bel_so (nat_Low N0 t0 _ rfl l0 L0 w))) (U (decide (N0 % 2 = 1)) 0 ho) (P rfl)
    · rw [if_neg c1] at ho
      rw [decide_eq_false c1] at g
      have g1 := g
      by_cases z0 : N0 = 0
      · have e0 : nbA N0 = ⟨#[]⟩ := by rw [z0, nbA_zero]
        rw [z0] at ho
        cases o
        · have e := S rfl
          rw [e0] at e
          subst e
          exact rrd_oef f m x1 y1 b3 _ _ e3 0 0 0 ⟨#[]⟩ (nbA N1) ⟨#[]⟩ i1 false 0 ((t1 : Nat) : Int) 0 g1  w KV (F0 _ e0) (F1 _ rfl) (box (fun w => bel_so (nat_Low N1 t1 _ rfl l1 L1 w)))  (U false (-1) ho)
        · exact rrd_oet f m x1 y1 b3 _ _ e3 0 0 0 ⟨#[]⟩ (nbA N1) s i1 false 0 ((t1 : Nat) : Int) 0 g1  w KV (F0 _ e0) (F1 _ rfl) (box (fun w => bel_so (nat_Low N1 t1 _ rfl l1 L1 w)))  (U false (-1) ho) (by have q := P rfl; rw [e0] at q; exact q)
      · have q0 := eq_nil N0 _ rfl z0
        cases o
        · have e := S rfl
          subst e
          exact rrd_off f m x1 y1 b3 _ _ e3 0 0 0 (nbA N0) (nbA N1) ⟨#[]⟩ i1 (decide (N0 % 2 = 1)) ((t0 : Nat) : Int) ((t1 : Nat) : Int) 0 g1 q0 (low_odd z0 L0) w KV (F0 _ rfl) (F1 _ rfl) (box (fun w => bel_so (nat_Low N1 t1 _ rfl l1 L1 w))) (box (fun w => bel_so (nat_Low N0 t0 _ rfl l0 L0 w))) (U (decide (N0 % 2 = 1)) (-1) ho)
        · exact rrd_oft f m x1 y1 b3 _ _ e3 0 0 0 (nbA N0) (nbA N1) s i1 (decide (N0 % 2 = 1)) ((t0 : Nat) : Int) ((t1 : Nat) : Int) 0 g1 q0 (low_odd z0 L0) w KV (F0 _ rfl) (F1 _ rfl) (box (fun w => bel_so (nat_Low N1 t1 _ rfl l1 L1 w))) (box (fun w => bel_so (nat_Low N0 t0 _ rfl l0 L0 w))) (U (decide (N0 % 2 = 1)) (-1) ho) (P rfl)
theorem r19_least (k : Int) (w : World) : Calls Tryz.prog 10 #[.int .u8 k] w fun r w' => r = .returned (.int .u64 ((leW k : Nat) : Int)) ∧ Below w.heap.size w w' := by
  unfold leW
  by_cases c0 : k = 0
  · subst c0; exact r19_Least_0 w
  · by_cases c2 : k = 2
    · subst c2; exact r19_Least_2 w
    · rw [if_neg c0, if_neg c2]
      exact r19_Least_n k (beq_eq_false_iff_ne.2 c0) (beq_eq_false_iff_ne.2 c2) w
theorem r19_greatest (k : Int) (w : World) : Calls Tryz.prog 11 #[.int .u8 k] w fun r w' => r = .returned (.int .u64 ((grW k : Nat) : Int)) ∧ Below w.heap.size w w' := by
  unfold grW
  by_cases c0 : k = 0
  · subst c0; exact r19_Greatest_0 w
  · by_cases c2 : k = 2
    · subst c2; exact r19_Greatest_2 w
    · rw [if_neg c0, if_neg c2]
      exact r19_Greatest_n k (beq_eq_false_iff_ne.2 c0) (beq_eq_false_iff_ne.2 c2) w
theorem r19_ends (k : Int) (w : World) : Calls Tryz.prog 26 #[.int .u8 k] w fun r w' => r = .returned (.tuple #[.int .u64 ((loM k : Nat) : Int), .int .u64 ((hiM k : Nat) : Int)]) ∧ Below w.heap.size w w' := by
  unfold loM hiM
  by_cases c0 : k = 0
  · subst c0; exact r19_ends_0 w
  · by_cases c1 : k = 1
    · subst c1; exact r19_ends_1 w
    · by_cases c2 : k = 2
      · subst c2; exact r19_ends_2 w
      · rw [if_neg c0, if_neg c2, if_neg c0, if_neg c1, if_neg c2]
        exact r19_ends_n k (beq_eq_false_iff_ne.2 c0) (beq_eq_false_iff_ne.2 c1) (beq_eq_false_iff_ne.2 c2) w
theorem loM_lt (k : Int) : loM k < 18446744073709551616 := by unfold loM; (repeat' split) <;> decide
theorem hiM_lt (k : Int) : hiM k < 18446744073709551616 := by unfold hiM; (repeat' split) <;> decide
theorem cmp_gt (a b : Nat) : decide ((0 : Int) < cmpv a b) = decide (b < a) := by
  unfold cmpv
  by_cases e : a = b
  · rw [if_pos e, decide_eq_false (by decide), decide_eq_false (by omega)]
  · rw [if_neg e]
    by_cases l : a < b
    · rw [if_pos l, decide_eq_false (by decide), decide_eq_false (by omega)]
    · rw [if_neg l, decide_eq_true (by decide), decide_eq_true (by omega)]
theorem kN_inf0 {f : Int} {n : Nat} (h : kC f n = 0) : kN f n = true := by
  cases g : kN f n
  · unfold kC at h
    rw [g] at h
    revert h
    repeat' split
    all_goals (intro h; first | (exact absurd h (by decide)) | simp_all)
  · rfl
theorem kN_inf7 {f : Int} {n : Nat} (h : kC f n = 7) : kN f n = false := by
  cases g : kN f n
  · rfl
  · unfold kC at h
    rw [g] at h
    revert h
    repeat' split
    all_goals (intro h; first | (exact absurd h (by decide)) | simp_all)
theorem nl_48 {N : Nat} (h : N ≤ 18446744073709551616) : nl N ≤ 48 := by
  have : blen N ≤ 65 := (blen_iff N 65).2 (Nat.lt_of_le_of_lt h (by decide))
  unfold nl
  omega
theorem neg_w (N : Nat) : IntKind.u64.wrap (-((wd N 0 : Nat) : Int)) = (((18446744073709551616 - N % 18446744073709551616) % 18446744073709551616 : Nat) : Int) := by
  have : wd N 0 = N % 18446744073709551616 := by unfold wd; rw [show 64 * 0 = 0 from rfl, Nat.pow_zero, Nat.div_one]
  rw [this, show ∀ x : Int, IntKind.u64.wrap x = x % 18446744073709551616 from fun _ => rfl]
  omega
theorem rgW_f (k : Int) (N : Nat) : rgW k false N = if k = 0 ∨ k = 1 then sx (wd N 0) 32 else wd N 0 := by
  have : wd N 0 = N % 18446744073709551616 := by unfold wd; rw [show 64 * 0 = 0 from rfl, Nat.pow_zero, Nat.div_one]
  unfold rgW
  rw [this]
  simp
theorem rgW_t (k : Int) (N : Nat) : rgW k true N = if k = 0 ∨ k = 1 then sx ((18446744073709551616 - N % 18446744073709551616) % 18446744073709551616) 32 else (18446744073709551616 - N % 18446744073709551616) % 18446744073709551616 := by
  unfold rgW
  simp
theorem rTo_no (k f m : Int) (h0 : 0 ≤ f) (x1 y1 n : Nat) (hx : x1 < 18446744073709551616) (hy : y1 < 18446744073709551616) (hn : y1 + 18446744073709551616 * x1 = n) (no : ¬ (k ≤ 3 ∧ okB f n = true ∧ m ≤ 4)) (w : World) : Calls Tryz.prog 6 #[.int .u8 k, .int .u8 f, .int .u8 m, .agg #[.int .u64 (x1 : Nat), .int .u64 (y1 : Nat)]] w fun r w' => r = .returned (.tuple #[.int .u64 0, .int .u8 0, .int .i64 2]) ∧ Below w.heap.size w w' := by
  by_cases hk : 3 < k
  · exact rti_no1 k f m x1 y1 (decide_eq_true hk) w
  · have hk := decide_eq_false hk
    have T := fun o h => box (fun w => rk_fits f x1 y1 n o h0 hx hy hn h w)
    cases ok : okB f n
    · exact rti_no2 k f m x1 y1 hk w (T false ok)
    · exact rti_no3 k f m x1 y1 hk w (T true ok) (box (fun w => bel_so (r_mode m false (decide_eq_false (fun q => no ⟨by have := of_decide_eq_false hk; omega, ok, q⟩)) w)))
theorem rTo_is (k : Int) (k0 : 0 ≤ k) (k3 : k ≤ 3) (f m : Int) (hf : Is4 f) (x1 y1 n : Nat) (hx : x1 < 18446744073709551616) (hy : y1 < 18446744073709551616) (hn : y1 + 18446744073709551616 * x1 = n) (ok : okB f n = true) (m4 : m ≤ 4) (t : Nat) (fl : Int) (hr : tiX k f m n = (t, fl)) (w : World) : Calls Tryz.prog 6 #[.int .u8 k, .int .u8 f, .int .u8 m, .agg #[.int .u64 (x1 : Nat), .int .u64 (y1 : Nat)]] w fun r w' => r = .returned (.tuple #[.int .u64 (t : Nat), .int .u8 fl, .int .i64 0]) ∧ Below w.heap.size w w' := by
  have fit := (okB_yes (is4_ok hf).1 ok).2
  have hk : decide (3 < k) = false := decide_eq_false (by omega)
  have T := box (fun w => rk_fits f x1 y1 n true (is4_ok hf).1 hx hy hn ok w)
  have M := box (fun w => bel_so (r_mode m true (decide_eq_true m4) w))
  have G := fun o h => box (fun w => rSign_yes f hf x1 y1 n o hx hy hn ok h w)
  have NN := fun o h => box (fun w => rNaN_is f hf x1 y1 n _ o hx hy hn fit rfl h w)
  have I := fun o h => box (fun w => rInf_is f hf x1 y1 n _ o hx hy hn fit rfl h w)
  have GR := box (fun w => r19_greatest k w)
  have LE := box (fun w => r19_least k w)
  unfold tiX at hr
  by_cases c8 : 8 ≤ kC f n
  · rw [if_pos c8] at hr
    cases hr
    exact rti_nan k f m x1 y1 _ _ hk w T M (G _ rfl) (NN true (decide_eq_true c8)) GR
  have NF := NN false (decide_eq_false c8)
  rw [if_neg c8] at hr
  by_cases c0 : kC f n = 0
  · rw [if_pos c0] at hr
    cases hr
    exact rti_inf_t k f m x1 y1 _ hk w T M (G true (kN_inf0 c0)) NF (I true (by rw [c0]; rfl)) LE
  rw [if_neg c0] at hr
  by_cases c7 : kC f n = 7
  · rw [if_pos c7] at hr
    cases hr
    exact rti_inf_f k f m x1 y1 _ hk w T M (G false (kN_inf7 c7)) NF (I true (by rw [c7]; rfl)) GR
  rw [if_neg c7] at hr
  have IF := I false (by rw [decide_eq_false c0, decide_eq_false c7]; rfl)
  have fin : 0 < kC f n ∧ kC f n < 7 := by omega
  obtain ⟨N, ex, hN⟩ : ∃ N e, tiR f m n = (N, e) := ⟨_, _, rfl⟩
  rw [hN] at hr
  have R : ∀ e, ex = e → Box (∀ w, Calls Tryz.prog 25 #[.int .u8 f, .int .u8 m, .agg #[.int .u64 (x1 : Nat), .int .u64 (y1 : Nat)]] w fun r w' => r = .returned (.tuple #[.string (nbA N), .bool e]) ∧ Below w.heap.size w w') := fun e h => box (fun w => rRounded_is f m hf x1 y1 n hx hy hn ok fin N e (by rw [hN, h]) _ rfl w)
  have E := box (fun w => r19_ends k w)
  have OL := box (fun w => nat_Of (loM k) _ (loM_lt k) rfl w)
  have OH := box (fun w => nat_Of (hiM k) _ (hiM_lt k) rfl w)
  have CL := box (fun w => bel_so (nat_cmp N (loM k) _ _ _ rfl rfl rfl w))
  have CH := box (fun w => bel_so (nat_cmp N (hiM k) _ _ _ rfl rfl rfl w))
  dsimp only at hr
  unfold tiC at hr
  have wN : wd N 0 = N % 18446744073709551616 := by unfold wd; rw [show 64 * 0 = 0 from rfl, Nat.pow_zero, Nat.div_one]
  cases g : kN f n
  · rw [g, if_neg (fun q => absurd q.1 (by decide))] at hr
    by_cases c : hiM k < N
    · rw [if_pos ⟨rfl, c⟩] at hr
      cases hr
      exact rti_hi k f m x1 y1 ex _ _ _ _ _ _ hk (by rw [cmp_gt]; exact decide_eq_true c) w T M (G false g) NF IF (R ex rfl) E OH CH GR
    · rw [if_neg (fun q => c q.2)] at hr
      cases hr
      have hc : decide ((0 : Int) < cmpv N (hiM k)) = false := by rw [cmp_gt]; exact decide_eq_false c
      have W := box (fun w => nat_ToWide N _ rfl (nl_48 (by have := hiM_lt k; omega)) w)
      rw [rgW_f]
      have wl : wd N 0 < 18446744073709551616 := by rw [wN]; exact Nat.mod_lt _ (by decide)
      have X := box (fun w => bel_so (rextend_any (wd N 0) 32 wl w))
      rw [show ext 32 = 32 from by decide] at X
      cases ex
      · by_cases q0 : k = 0
        · rw [if_pos (Or.inl q0)]
          exact rti_ok_fwf k f m x1 y1 _ _ _ _ _ _ N true hk (beq_iff_eq.2 q0) hc w T M (G false g) NF IF (R false rfl) E OH CH W X
        · by_cases q1 : k = 1
          · rw [if_pos (Or.inr q1)]
            exact rti_ok_fuf k f m x1 y1 _ _ _ _ _ _ N true hk (beq_eq_false_iff_ne.2 q0) (beq_iff_eq.2 q1) hc w T M (G false g) NF IF (R false rfl) E OH CH W X
          · rw [if_neg (fun q => q.elim q0 q1)]
            exact rti_ok_flf k f m x1 y1 _ _ _ _ _ 0 N true hk (beq_eq_false_iff_ne.2 q0) (beq_eq_false_iff_ne.2 q1) hc w T M (G false g) NF IF (R false rfl) E OH CH W
      · by_cases q0 : k = 0
        · rw [if_pos (Or.inl q0)]
          exact rti_ok_fwt k f m x1 y1 _ _ _ _ _ _ N true hk (beq_iff_eq.2 q0) hc w T M (G false g) NF IF (R true rfl) E OH CH W X
        · by_cases q1 : k = 1
          · rw [if_pos (Or.inr q1)]
            exact rti_ok_fut k f m x1 y1 _ _ _ _ _ _ N true hk (beq_eq_false_iff_ne.2 q0) (beq_iff_eq.2 q1) hc w T M (G false g) NF IF (R true rfl) E OH CH W X
          · rw [if_neg (fun q => q.elim q0 q1)]
            exact rti_ok_flt k f m x1 y1 _ _ _ _ _ 0 N true hk (beq_eq_false_iff_ne.2 q0) (beq_eq_false_iff_ne.2 q1) hc w T M (G false g) NF IF (R true rfl) E OH CH W
  · rw [g] at hr
    by_cases c : loM k < N
    · rw [if_pos ⟨rfl, c⟩] at hr
      cases hr
      exact rti_lo k f m x1 y1 ex _ _ _ _ _ _ hk (by rw [cmp_gt]; exact decide_eq_true c) w T M (G true g) NF IF (R ex rfl) E OL CL LE
    · rw [if_neg (fun q => c q.2), if_neg (fun q => absurd q.1 (by decide))] at hr
      cases hr
      have hc : decide ((0 : Int) < cmpv N (loM k)) = false := by rw [cmp_gt]; exact decide_eq_false c
      have W := box (fun w => nat_ToWide N _ rfl (nl_48 (by have := loM_lt k; omega)) w)
      rw [rgW_t]
      have X := box (fun w => bel_so (rextend_any ((18446744073709551616 - N % 18446744073709551616) % 18446744073709551616) 32 (Nat.mod_lt _ (by decide)) w))
      rw [show ext 32 = 32 from by decide, ← neg_w] at X
      cases ex
      · by_cases q0 : k = 0
        · rw [if_pos (Or.inl q0)]
          exact rti_ok_twf k f m x1 y1 _ _ _ _ _ _ N true hk (beq_iff_eq.2 q0) hc w T M (G true g) NF IF (R false rfl) E OL CL W X
        · by_cases q1 : k = 1
          · rw [if_pos (Or.inr q1)]
            exact rti_ok_tuf k f m x1 y1 _ _ _ _ _ _ N true hk (beq_eq_false_iff_ne.2 q0) (beq_iff_eq.2 q1) hc w T M (G true g) NF IF (R false rfl) E OL CL W X
          · rw [if_neg (fun q => q.elim q0 q1)]
            rw [← neg_w]
            exact rti_ok_tlf k f m x1 y1 _ _ _ _ _ 0 N true hk (beq_eq_false_iff_ne.2 q0) (beq_eq_false_iff_ne.2 q1) hc w T M (G true g) NF IF (R false rfl) E OL CL W
      · by_cases q0 : k = 0
        · rw [if_pos (Or.inl q0)]
          exact rti_ok_twt k f m x1 y1 _ _ _ _ _ _ N true hk (beq_iff_eq.2 q0) hc w T M (G true g) NF IF (R true rfl) E OL CL W X
        · by_cases q1 : k = 1
          · rw [if_pos (Or.inr q1)]
            exact rti_ok_tut k f m x1 y1 _ _ _ _ _ _ N true hk (beq_eq_false_iff_ne.2 q0) (beq_iff_eq.2 q1) hc w T M (G true g) NF IF (R true rfl) E OL CL W X
          · rw [if_neg (fun q => q.elim q0 q1)]
            rw [← neg_w]
            exact rti_ok_tlt k f m x1 y1 _ _ _ _ _ 0 N true hk (beq_eq_false_iff_ne.2 q0) (beq_eq_false_iff_ne.2 q1) hc w T M (G true g) NF IF (R true rfl) E OL CL W
def whX (f m : Int) (n : Nat) : (Bool × Nat) × (Bool × Int) :=
  if ¬ (0 < kC f n ∧ kC f n < 7) then ((false, 0), (false, 80)) else if 384 < blen (tiR f m n).1 then ((false, 0), (false, 4)) else ((kN f n && decide ((tiR f m n).1 ≠ 0), (tiR f m n).1), ((tiR f m n).2, 0))
theorem toints_all (k f m : Int) (k0 : 0 ≤ k) (h0 : 0 ≤ f) (x1 y1 a : Nat) (hx : x1 < 18446744073709551616) (hy : y1 < 18446744073709551616) (hn : y1 + 18446744073709551616 * x1 = a)
    (C1 : k ≤ 3 → (okB f a = true → m ≤ 4 → ∀ (t : Nat) (fl : Int), tiX k f m a = (t, fl) → Box (∀ w, FAt w → Calls Tryz.prog 5 #[.int .u8 k, .int .u8 f, .int .u8 m, .agg #[.int .u64 (x1 : Nat), .int .u64 (y1 : Nat)]] w fun r w' => r = .returned (.tuple #[.int .u64 (t : Nat), .int .u8 fl, .int .i64 0]) ∧ Below w.heap.size w w'))) (C0 : ¬ (k ≤ 3 ∧ okB f a = true ∧ m ≤ 4) → Box (∀ w, FAt w → Calls Tryz.prog 5 #[.int .u8 k, .int .u8 f, .int .u8 m, .agg #[.int .u64 (x1 : Nat), .int .u64 (y1 : Nat)]] w fun r w' => r = .returned (.tuple #[.int .u64 0, .int .u8 0, .int .i64 2]) ∧ Below w.heap.size w w')) (KA : Box (∀ w, FAt w → Calls Tryz.prog 7 #[] w fun r w' => r = .returned (.bool true) ∧ Below w.heap.size w w')) (w : World) (hT : FAt w) : Calls Tryz.prog 3 #[.int .u8 k, .int .u8 f, .int .u8 m, .agg #[.int .u64 (x1 : Nat), .int .u64 (y1 : Nat)]] w fun r w' => r = .returned (.bool true) ∧ Below w.heap.size w w' := by
  by_cases c : k ≤ 3 ∧ okB f a = true ∧ m ≤ 4
  · obtain ⟨t, fl, h⟩ : ∃ t fl, tiX k f m a = (t, fl) := ⟨_, _, rfl⟩
    exact tc_law k f m x1 y1 _ fl 0 (by decide) w (C1 c.1 c.2.1 c.2.2 t fl h) (box (fun w => rTo_is k k0 c.1 f m (okB_yes h0 c.2.1).1 x1 y1 a hx hy hn c.2.1 c.2.2 t fl h w)) KA hT
  · exact tc_law k f m x1 y1 0 0 2 (by decide) w (C0 c) (box (fun w => rTo_no k f m h0 x1 y1 a hx hy hn c w)) KA hT
theorem whX_lim (f m : Int) (n : Nat) (o : Bool) (N : Nat) (ex : Bool) (e : Int) (h : whX f m n = ((o, N), (ex, e))) : N < Q ∧ IntKind.i64.wrap e = e ∧ (e = 0 ∨ e = 80 ∨ e = 4) := by
  obtain ⟨Z, hZ, eQ⟩ := Qq384
  unfold whX at h
  split at h
  · cases h; exact ⟨Q_pos, by decide, Or.inr (Or.inl rfl)⟩
  · split at h
    · cases h; exact ⟨Q_pos, by decide, Or.inr (Or.inr rfl)⟩
    · rename_i c
      cases h
      refine ⟨?_, by decide, Or.inl rfl⟩
      rw [eQ]
      exact (blen_iff _ Z).1 (by omega)
end Go.Proofs.YtlpelcfaakfmiaaGreatDoor
namespace Go.Proofs.YtlpelcfaakfmiaaGreatDoor
set_option maxRecDepth 100000
set_option maxHeartbeats 40000000
set_option maxRecDepth 100000
open Go.RowKit WMath
set_option linter.unusedSimpArgs false
set_option linter.unusedVariables false
theorem one_row (x1 y1 : Nat) (T : TypeId) (g : Nat) (w : World) (hg : w.heap.size = g) : (w.alloc (.cells #[.int .u64 (x1 : Nat), .int .u64 (y1 : Nat)] T)).heap[g]? = some (.cells (bls [(x1, y1)]) T) := by
  rw [← hg]
  exact heap_alloc_last _ _
theorem one_lim {x1 y1 : Nat} (hx1 : x1 < 18446744073709551616) (hy1 : y1 < 18446744073709551616) : Box (∀ p ∈ [(x1, y1)], p.1 < 18446744073709551616 ∧ p.2 < 18446744073709551616) := box (fun p hp => by
  rcases List.mem_cons.1 hp with rfl | h
  · exact ⟨hx1, hy1⟩
  · exact absurd h List.not_mem_nil)
theorem kmay1 (f m : Int) (h0 : 0 ≤ f) (h1 : f ≤ 255) (m0 : 0 ≤ m) (x1 y1 a : Nat) (hx1 : x1 < 18446744073709551616) (hy1 : y1 < 18446744073709551616) (ha : y1 + 18446744073709551616 * x1 = a) (o : Bool) (ho : (decide (f ≤ 3 ∧ m ≤ 4) && okB f a) = o) :
    Box (∀ (T : TypeId) (g : Nat) (w : World), w.heap.size = g → FAt w → Calls Tryz.prog 31 #[.int .u8 f, .int .u8 m, .slice (some ⟨g, 0, none⟩) 1 1] (w.alloc (.cells #[.int .u64 (x1 : Nat), .int .u64 (y1 : Nat)] T)) fun r w' => r = .returned (.bool o) ∧ Below w.heap.size w w') := by
  refine box (fun T g w hg hT => ?_)
  have B := (bal w (.cells #[.int .u64 (x1 : Nat), .int .u64 (y1 : Nat)] T))
  have row := one_row x1 y1 T g w hg
  have hT2 := fatB hT B
  by_cases cc : f ≤ 3 ∧ m ≤ 4
  · have hf := is4_of h0 cc.1
    obtain ⟨u, v, hv⟩ : ∃ u v, bv7 (eZero f false) = (u, v) := ⟨_, _, rfl⟩
    have KP : Box (∀ w, FAt w → Calls Tryz.prog 61 #[.int .u8 f, .int .u8 m, .agg (rg false 0 0 false)] w fun r w' => r = .returned (.tuple #[.agg #[.int .u64 (u : Nat), .int .u64 (v : Nat)], .int .u8 0, .int .i64 0]) ∧ Below w.heap.size w w') := box (fun w hT => kPack_zero f m hf ⟨m0, cc.2⟩ false 0 (by decide) (by decide) u v hv w hT)
    refine (op_may f m hf [(x1, y1)] 1 g 1 T _ rfl (by decide) (one_lim hx1 hy1) row u v 0 KP o ?_ hT2).mono fun _ _ ⟨q1, q2⟩ => ⟨q1, btr B q2⟩
    rw [← ho, decide_eq_true cc]
    show (okP f (x1, y1) && true) = _
    unfold okP
    rw [ha, Bool.and_true, Bool.true_and]
  · have e : o = false := by rw [← ho, decide_eq_false cc]; rfl
    subst e
    exact (op_may_no f m 0 0 0 2 _ rfl _ (box (fun w hT => kPack_no f m h0 h1 false 0 Q_pos 0 false (fun q => cc ⟨q.1, q.2.1⟩) w hT)) hT2).mono fun _ _ ⟨q1, q2⟩ => ⟨q1, btr B q2⟩
theorem pq_kind (k : Int) (hk : IntKind.i64.wrap k = k) (o : Bool) (ho : decide (k < 4) = o) (w : World) : Calls Tryz.prog 14 #[.int .u8 k] w fun r w' => r = .returned (.bool o) ∧ Below w.heap.size w w' := by
  have B0 : Below w.heap.size w w := (Below.refl _ _)
  go_enter Tryz.func14, Tryz.ntmps14
  go_wp2
  go_ret
  exact ⟨rfl, B0⟩
theorem pq_fin (c : Nat) (o : Bool) (ho : decide (0 < c ∧ c < 7) = o) (w : World) : Calls Tryz.prog 33 #[.int .u8 (c : Nat)] w fun r w' => r = .returned (.bool o) ∧ Below w.heap.size w w' := by
  by_cases c0 : 0 < c
  · have d0 : decide ((0 : Int) < (c : Int)) = true := decide_eq_true (by omega)
    have d7 : decide ((c : Int) < 7) = o := by
      rw [← ho]
      exact decide_eq_decide.2 (by omega)
    clear ho
    have B0 : Below w.heap.size w w := (Below.refl _ _)
    go_enter Tryz.func33, Tryz.ntmps33
    go_wp2
    go_ret
    exact ⟨rfl, B0⟩
  · have d0 : decide ((0 : Int) < (c : Int)) = false := decide_eq_false (by omega)
    rw [decide_eq_false (by omega)] at ho
    subst ho
    have B0 : Below w.heap.size w w := (Below.refl _ _)
    go_enter Tryz.func33, Tryz.ntmps33
    go_wp2
    go_ret
    exact ⟨rfl, B0⟩
set_option maxRecDepth 100000 in
set_option maxHeartbeats 8000000 in
theorem pq_below (f : Int) (x1 y1 c : Nat) (o : Bool) (ho : decide ((c : Int) ≤ 3) = o) (w : World) (KC : Box (∀ w, FAt w → Calls Tryz.prog 43 #[.int .u8 f, .agg #[.int .u64 (x1 : Nat), .int .u64 (y1 : Nat)]] w fun r w' => r = .returned (.tuple #[.int .u8 (c : Nat), .int .i64 0]) ∧ Below w.heap.size w w')) (hT : FAt w) : Calls Tryz.prog 18 #[.int .u8 f, .agg #[.int .u64 (x1 : Nat), .int .u64 (y1 : Nat)]] w fun r w' => r = .returned (.bool o) ∧ Below w.heap.size w w' := by
  have FF := box hT
  clear hT
  obtain ⟨Ra_0, B0⟩ := opn1 w (Obj.cells #[.int .u64 (x1 : Nat), .int .u64 (y1 : Nat)] 27)
  go_enter Tryz.func18, Tryz.ntmps18
  obtain ⟨ca_0_0, ca_0_1⟩ := cells2s Ra_0
  go_wp2_with fail
  refine (KC.out _ (fatB FF.out B0)).mono ?_
  rintro r w1 ⟨rfl, b1⟩
  have B1 : Below w.heap.size w w1 := btr B0 b1
  have Ra_1 := heap_of b1 _ _ _ Ra_0
  clear b1 B0 Ra_0 ca_0_0 ca_0_1
  obtain ⟨ca_1_0, ca_1_1⟩ := cells2s Ra_1
  go_wp2
  go_ret
  exact ⟨rfl, B1⟩
set_option maxRecDepth 100000 in
set_option maxHeartbeats 8000000 in
theorem pq_reach00 (w : World) (hT : FAt w) : Calls Tryz.prog 16 #[.int .u8 0, .bool true] w fun r w' => r = .returned (.agg (cw 6 2147483648)) ∧ Below w.heap.size w w' := by
  have hat := cw_at 6
  have hz := cw6z
  have hff := cw6f
  have hs0 := st0
  have hcs : ∀ x, ((cw 6 x).size = 6) = True := fun x => eq_true (cw_size 6 x)
  obtain ⟨Rz_0, B0⟩ := opn1 w (Obj.cells (cw 6 0) 40)
  go_enter Tryz.func16, Tryz.ntmps16
  have T2 := fatB hT B0
  have c0 := fat_x T2 0 0 0 (.int .u64 2147483648) rfl
  have c1 := fat_x T2 1 0 1 (.int .u64 0) rfl
  have c2 := fat_x T2 2 0 2 (.int .u64 0) rfl
  have c3 := fat_x T2 3 0 3 (.int .u64 0) rfl
  have c4 := fat_x T2 4 0 4 (.int .u64 0) rfl
  have c5 := fat_x T2 5 0 5 (.int .u64 0) rfl
  have hl : #[Value.int .u64 2147483648, Value.int .u64 0, Value.int .u64 0, Value.int .u64 0, Value.int .u64 0, Value.int .u64 0] = cw 6 2147483648 := by kernel_rfl
  clear T2 hT
  have dz := row_cell (heap_alloc_last w (.cells (cw 6 2147483648) 40))
  go_wp2
  exact bodyPost_ret (v := .agg (cw 6 2147483648)) (by simp [results, Tryz.results16, go_sem, dz, hff]) rfl ⟨rfl, bal w _⟩
set_option maxRecDepth 100000 in
set_option maxHeartbeats 8000000 in
theorem pq_reach01 (w : World) (hT : FAt w) : Calls Tryz.prog 16 #[.int .u8 1, .bool true] w fun r w' => r = .returned (.agg (cw 6 0)) ∧ Below w.heap.size w w' := by
  have hat := cw_at 6
  have hz := cw6z
  have hff := cw6f
  have hs0 := st0
  have hcs : ∀ x, ((cw 6 x).size = 6) = True := fun x => eq_true (cw_size 6 x)
  obtain ⟨Rz_0, B0⟩ := opn1 w (Obj.cells (cw 6 0) 40)
  go_enter Tryz.func16, Tryz.ntmps16
  have T2 := fatB hT B0
  have c0 := fat_x T2 6 0 6 (.int .u64 0) rfl
  have c1 := fat_x T2 7 0 7 (.int .u64 0) rfl
  have c2 := fat_x T2 8 0 8 (.int .u64 0) rfl
  have c3 := fat_x T2 9 0 9 (.int .u64 0) rfl
  have c4 := fat_x T2 10 0 10 (.int .u64 0) rfl
  have c5 := fat_x T2 11 0 11 (.int .u64 0) rfl
  have hl : #[Value.int .u64 0, Value.int .u64 0, Value.int .u64 0, Value.int .u64 0, Value.int .u64 0, Value.int .u64 0] = cw 6 0 := by kernel_rfl
  clear T2 hT
  have dz := row_cell (heap_alloc_last w (.cells (cw 6 0) 40))
  go_wp2
  exact bodyPost_ret (v := .agg (cw 6 0)) (by simp [results, Tryz.results16, go_sem, dz, hff]) rfl ⟨rfl, bal w _⟩
set_option maxRecDepth 100000 in
set_option maxHeartbeats 8000000 in
theorem pq_reach02 (w : World) (hT : FAt w) : Calls Tryz.prog 16 #[.int .u8 2, .bool true] w fun r w' => r = .returned (.agg (cw 6 9223372036854775808)) ∧ Below w.heap.size w w' := by
  have hat := cw_at 6
  have hz := cw6z
  have hff := cw6f
  have hs0 := st0
  have hcs : ∀ x, ((cw 6 x).size = 6) = True := fun x => eq_true (cw_size 6 x)
  obtain ⟨Rz_0, B0⟩ := opn1 w (Obj.cells (cw 6 0) 40)
  go_enter Tryz.func16, Tryz.ntmps16
  have T2 := fatB hT B0
  have c0 := fat_x T2 12 0 12 (.int .u64 9223372036854775808) rfl
  have c1 := fat_x T2 13 0 13 (.int .u64 0) rfl
  have c2 := fat_x T2 14 0 14 (.int .u64 0) rfl
  have c3 := fat_x T2 15 0 15 (.int .u64 0) rfl
  have c4 := fat_x T2 16 0 16 (.int .u64 0) rfl
  have c5 := fat_x T2 17 0 17 (.int .u64 0) rfl
  have hl : #[Value.int .u64 9223372036854775808, Value.int .u64 0, Value.int .u64 0, Value.int .u64 0, Value.int .u64 0, Value.int .u64 0] = cw 6 9223372036854775808 := by kernel_rfl
  clear T2 hT
  have dz := row_cell (heap_alloc_last w (.cells (cw 6 9223372036854775808) 40))
  go_wp2
  exact bodyPost_ret (v := .agg (cw 6 9223372036854775808)) (by simp [results, Tryz.results16, go_sem, dz, hff]) rfl ⟨rfl, bal w _⟩
set_option maxRecDepth 100000 in
set_option maxHeartbeats 8000000 in
theorem pq_reach03 (w : World) (hT : FAt w) : Calls Tryz.prog 16 #[.int .u8 3, .bool true] w fun r w' => r = .returned (.agg (cw 6 0)) ∧ Below w.heap.size w w' := by
  have hat := cw_at 6
  have hz := cw6z
  have hff := cw6f
  have hs0 := st0
  have hcs : ∀ x, ((cw 6 x).size = 6) = True := fun x => eq_true (cw_size 6 x)
  obtain ⟨Rz_0, B0⟩ := opn1 w (Obj.cells (cw 6 0) 40)
  go_enter Tryz.func16, Tryz.ntmps16
  have T2 := fatB hT B0
  have c0 := fat_x T2 18 0 18 (.int .u64 0) rfl
  have c1 := fat_x T2 19 0 19 (.int .u64 0) rfl
  have c2 := fat_x T2 20 0 20 (.int .u64 0) rfl
  have c3 := fat_x T2 21 0 21 (.int .u64 0) rfl
  have c4 := fat_x T2 22 0 22 (.int .u64 0) rfl
  have c5 := fat_x T2 23 0 23 (.int .u64 0) rfl
  have hl : #[Value.int .u64 0, Value.int .u64 0, Value.int .u64 0, Value.int .u64 0, Value.int .u64 0, Value.int .u64 0] = cw 6 0 := by kernel_rfl
  clear T2 hT
  have dz := row_cell (heap_alloc_last w (.cells (cw 6 0) 40))
  go_wp2
  exact bodyPost_ret (v := .agg (cw 6 0)) (by simp [results, Tryz.results16, go_sem, dz, hff]) rfl ⟨rfl, bal w _⟩
set_option maxRecDepth 100000 in
set_option maxHeartbeats 8000000 in
theorem pq_reach10 (w : World) (hT : FAt w) : Calls Tryz.prog 16 #[.int .u8 0, .bool false] w fun r w' => r = .returned (.agg (cw 6 2147483647)) ∧ Below w.heap.size w w' := by
  have hat := cw_at 6
  have hz := cw6z
  have hff := cw6f
  have hs0 := st0
  have hcs : ∀ x, ((cw 6 x).size = 6) = True := fun x => eq_true (cw_size 6 x)
  obtain ⟨Rz_0, B0⟩ := opn1 w (Obj.cells (cw 6 0) 40)
  go_enter Tryz.func16, Tryz.ntmps16
  have T2 := fatB hT B0
  have c0 := fat_x T2 24 1 0 (.int .u64 2147483647) rfl
  have c1 := fat_x T2 25 1 1 (.int .u64 0) rfl
  have c2 := fat_x T2 26 1 2 (.int .u64 0) rfl
  have c3 := fat_x T2 27 1 3 (.int .u64 0) rfl
  have c4 := fat_x T2 28 1 4 (.int .u64 0) rfl
  have c5 := fat_x T2 29 1 5 (.int .u64 0) rfl
  have hl : #[Value.int .u64 2147483647, Value.int .u64 0, Value.int .u64 0, Value.int .u64 0, Value.int .u64 0, Value.int .u64 0] = cw 6 2147483647 := by kernel_rfl
  clear T2 hT
  have dz := row_cell (heap_alloc_last w (.cells (cw 6 2147483647) 40))
  go_wp2
  exact bodyPost_ret (v := .agg (cw 6 2147483647)) (by simp [results, Tryz.results16, go_sem, dz, hff]) rfl ⟨rfl, bal w _⟩
set_option maxRecDepth 100000 in
set_option maxHeartbeats 8000000 in
theorem pq_reach11 (w : World) (hT : FAt w) : Calls Tryz.prog 16 #[.int .u8 1, .bool false] w fun r w' => r = .returned (.agg (cw 6 4294967295)) ∧ Below w.heap.size w w' := by
  have hat := cw_at 6
  have hz := cw6z
  have hff := cw6f
  have hs0 := st0
  have hcs : ∀ x, ((cw 6 x).size = 6) = True := fun x => eq_true (cw_size 6 x)
  obtain ⟨Rz_0, B0⟩ := opn1 w (Obj.cells (cw 6 0) 40)
  go_enter Tryz.func16, Tryz.ntmps16
  have T2 := fatB hT B0
  have c0 := fat_x T2 30 1 6 (.int .u64 4294967295) rfl
  have c1 := fat_x T2 31 1 7 (.int .u64 0) rfl
  have c2 := fat_x T2 32 1 8 (.int .u64 0) rfl
  have c3 := fat_x T2 33 1 9 (.int .u64 0) rfl
  have c4 := fat_x T2 34 1 10 (.int .u64 0) rfl
  have c5 := fat_x T2 35 1 11 (.int .u64 0) rfl
  have hl : #[Value.int .u64 4294967295, Value.int .u64 0, Value.int .u64 0, Value.int .u64 0, Value.int .u64 0, Value.int .u64 0] = cw 6 4294967295 := by kernel_rfl
  clear T2 hT
  have dz := row_cell (heap_alloc_last w (.cells (cw 6 4294967295) 40))
  go_wp2
  exact bodyPost_ret (v := .agg (cw 6 4294967295)) (by simp [results, Tryz.results16, go_sem, dz, hff]) rfl ⟨rfl, bal w _⟩
set_option maxRecDepth 100000 in
set_option maxHeartbeats 8000000 in
theorem pq_reach12 (w : World) (hT : FAt w) : Calls Tryz.prog 16 #[.int .u8 2, .bool false] w fun r w' => r = .returned (.agg (cw 6 9223372036854775807)) ∧ Below w.heap.size w w' := by
  have hat := cw_at 6
  have hz := cw6z
  have hff := cw6f
  have hs0 := st0
  have hcs : ∀ x, ((cw 6 x).size = 6) = True := fun x => eq_true (cw_size 6 x)
  obtain ⟨Rz_0, B0⟩ := opn1 w (Obj.cells (cw 6 0) 40)
  go_enter Tryz.func16, Tryz.ntmps16
  have T2 := fatB hT B0
  have c0 := fat_x T2 36 1 12 (.int .u64 9223372036854775807) rfl
  have c1 := fat_x T2 37 1 13 (.int .u64 0) rfl
  have c2 := fat_x T2 38 1 14 (.int .u64 0) rfl
  have c3 := fat_x T2 39 1 15 (.int .u64 0) rfl
  have c4 := fat_x T2 40 1 16 (.int .u64 0) rfl
  have c5 := fat_x T2 41 1 17 (.int .u64 0) rfl
  have hl : #[Value.int .u64 9223372036854775807, Value.int .u64 0, Value.int .u64 0, Value.int .u64 0, Value.int .u64 0, Value.int .u64 0] = cw 6 9223372036854775807 := by kernel_rfl
  clear T2 hT
  have dz := row_cell (heap_alloc_last w (.cells (cw 6 9223372036854775807) 40))
  go_wp2
  exact bodyPost_ret (v := .agg (cw 6 9223372036854775807)) (by simp [results, Tryz.results16, go_sem, dz, hff]) rfl ⟨rfl, bal w _⟩
set_option maxRecDepth 100000 in
set_option maxHeartbeats 8000000 in
theorem pq_reach13 (w : World) (hT : FAt w) : Calls Tryz.prog 16 #[.int .u8 3, .bool false] w fun r w' => r = .returned (.agg (cw 6 18446744073709551615)) ∧ Below w.heap.size w w' := by
  have hat := cw_at 6
  have hz := cw6z
  have hff := cw6f
  have hs0 := st0
  have hcs : ∀ x, ((cw 6 x).size = 6) = True := fun x => eq_true (cw_size 6 x)
  obtain ⟨Rz_0, B0⟩ := opn1 w (Obj.cells (cw 6 0) 40)
  go_enter Tryz.func16, Tryz.ntmps16
  have T2 := fatB hT B0
  have c0 := fat_x T2 42 1 18 (.int .u64 18446744073709551615) rfl
  have c1 := fat_x T2 43 1 19 (.int .u64 0) rfl
  have c2 := fat_x T2 44 1 20 (.int .u64 0) rfl
  have c3 := fat_x T2 45 1 21 (.int .u64 0) rfl
  have c4 := fat_x T2 46 1 22 (.int .u64 0) rfl
  have c5 := fat_x T2 47 1 23 (.int .u64 0) rfl
  have hl : #[Value.int .u64 18446744073709551615, Value.int .u64 0, Value.int .u64 0, Value.int .u64 0, Value.int .u64 0, Value.int .u64 0] = cw 6 18446744073709551615 := by kernel_rfl
  clear T2 hT
  have dz := row_cell (heap_alloc_last w (.cells (cw 6 18446744073709551615) 40))
  go_wp2
  exact bodyPost_ret (v := .agg (cw 6 18446744073709551615)) (by simp [results, Tryz.results16, go_sem, dz, hff]) rfl ⟨rfl, bal w _⟩
set_option maxRecDepth 100000 in
set_option maxHeartbeats 8000000 in
theorem pq_reg_s_true (k n v : Int) (hk : (k == 0) = true ∨ ((k == 0) = false ∧ (k == 1) = true)) (hr : IntKind.u64.wrap (wrap64 (wrap32 (wrap64 (-wrap64 n) % 4294967296))) = v) (w : World) : Calls Tryz.prog 19 #[.int .u8 k, .bool true, .int .u64 n] w fun r w' => r = .returned (.int .u64 v) ∧ Below w.heap.size w w' := by
  subst hr
  rcases hk with hk | ⟨hk, hk2⟩
  · have B0 : Below w.heap.size w w := (Below.refl _ _)
    go_enter Tryz.func19, Tryz.ntmps19
    go_wp2
    go_ret
    exact ⟨rfl, B0⟩
  · have B0 : Below w.heap.size w w := (Below.refl _ _)
    go_enter Tryz.func19, Tryz.ntmps19
    go_wp2
    go_ret
    exact ⟨rfl, B0⟩
set_option maxRecDepth 100000 in
set_option maxHeartbeats 8000000 in
theorem pq_reg_s_false (k n v : Int) (hk : (k == 0) = true ∨ ((k == 0) = false ∧ (k == 1) = true)) (hr : IntKind.u64.wrap (wrap64 (wrap32 (wrap64 n % 4294967296))) = v) (w : World) : Calls Tryz.prog 19 #[.int .u8 k, .bool false, .int .u64 n] w fun r w' => r = .returned (.int .u64 v) ∧ Below w.heap.size w w' := by
  subst hr
  rcases hk with hk | ⟨hk, hk2⟩
  · have B0 : Below w.heap.size w w := (Below.refl _ _)
    go_enter Tryz.func19, Tryz.ntmps19
    go_wp2
    go_ret
    exact ⟨rfl, B0⟩
  · have B0 : Below w.heap.size w w := (Below.refl _ _)
    go_enter Tryz.func19, Tryz.ntmps19
    go_wp2
    go_ret
    exact ⟨rfl, B0⟩
set_option maxRecDepth 100000 in
set_option maxHeartbeats 8000000 in
theorem pq_reg_l_true (k n v : Int) (hk : (k == 0) = false ∧ (k == 1) = false) (hr : IntKind.u64.wrap (wrap64 (-wrap64 n)) = v) (w : World) : Calls Tryz.prog 19 #[.int .u8 k, .bool true, .int .u64 n] w fun r w' => r = .returned (.int .u64 v) ∧ Below w.heap.size w w' := by
  subst hr
  obtain ⟨hk, hk2⟩ := hk
  have B0 : Below w.heap.size w w := (Below.refl _ _)
  go_enter Tryz.func19, Tryz.ntmps19
  go_wp2
  go_ret
  exact ⟨rfl, B0⟩
set_option maxRecDepth 100000 in
set_option maxHeartbeats 8000000 in
theorem pq_reg_l_false (k n v : Int) (hk : (k == 0) = false ∧ (k == 1) = false) (hr : IntKind.u64.wrap (wrap64 n) = v) (w : World) : Calls Tryz.prog 19 #[.int .u8 k, .bool false, .int .u64 n] w fun r w' => r = .returned (.int .u64 v) ∧ Below w.heap.size w w' := by
  subst hr
  obtain ⟨hk, hk2⟩ := hk
  have B0 : Below w.heap.size w w := (Below.refl _ _)
  go_enter Tryz.func19, Tryz.ntmps19
  go_wp2
  go_ret
  exact ⟨rfl, B0⟩
set_option maxRecDepth 100000 in
set_option maxHeartbeats 8000000 in
theorem pq_end (k : Int) (neg : Bool) (T : Nat) (v : Int) (w : World) (KR : Box (∀ w, FAt w → Calls Tryz.prog 16 #[.int .u8 k, .bool neg] w fun r w' => r = .returned (.agg (cw 6 T)) ∧ Below w.heap.size w w')) (KI : Box (∀ w, Calls Tryz.prog 19 #[.int .u8 k, .bool neg, .int .u64 ((wd T 0 : Nat) : Int)] w fun r w' => r = .returned (.int .u64 v) ∧ Below w.heap.size w w')) (hT : FAt w) : Calls Tryz.prog 17 #[.int .u8 k, .bool neg] w fun r w' => r = .returned (.int .u64 v) ∧ Below w.heap.size w w' := by
  have FF := box hT
  clear hT
  have hat := cw_at 6
  have hz := cw6z
  have hff := cw6f
  have hs0 := st0
  have hcs : ∀ x, ((cw 6 x).size = 6) = True := fun x => eq_true (cw_size 6 x)
  have hx0 : ∀ (n : Nat) (w : World), (Instr.index 40 (.agg (cw 6 n)) (.int .i64 0)).run Tryz.prog w = .ok (.int .u64 ((wd n 0 : Nat) : Int)) w := fun n w => ix6 n 0 w (by decide)
  have B0 : Below w.heap.size w w := (Below.refl _ _)
  go_enter Tryz.func17, Tryz.ntmps17
  go_wp2_with fail
  refine (KR.out _ (fatB FF.out B0)).mono ?_
  rintro r w1 ⟨rfl, b1⟩
  have B1 : Below w.heap.size w w1 := btr B0 b1
  clear b1 B0 
  go_wp2_with fail
  refine (KI.out _).mono ?_
  rintro r w2 ⟨rfl, b2⟩
  have B2 : Below w.heap.size w w2 := btr B1 b2
  clear b2 B1 
  go_wp2
  go_ret
  exact ⟨rfl, B2⟩
end Go.Proofs.YtlpelcfaakfmiaaGreatDoor
