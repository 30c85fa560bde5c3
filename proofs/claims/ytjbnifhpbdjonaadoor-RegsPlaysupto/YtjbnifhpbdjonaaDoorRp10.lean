/-
  What the functions that the statement reaches return: part 10 (CF, CI, CJ, CK, CL, FrameRF, FrameCh, FrameLc, FrameSt, Shelf, TA, EA).
-/
import Derived.DataBytes
import Derived.ChangeOld
import Derived.Test.YtjbnifhpbdjonaaDoorRows
import Derived.Shelf.Strconv.Itoa3
import Derived.Shelf.Strconv.ErrVarAll
import Derived.Shelf.Small.Wraps
import Derived.Shelf.Strings.Prefix
import Derived.Ground.NamesProg
import Derived.Test.YtjbnifhpbdjonaaDoorProg
import Derived.Deep.MidRow
import Derived.Test.YtjbnifhpbdjonaaDoorRp09
namespace Go.Proofs.YtjbnifhpbdjonaaDoor
set_option maxRecDepth 100000
set_option maxHeartbeats 40000000
set_option maxRecDepth 100000
open Go.RowKit WMath
set_option linter.unusedSimpArgs false
set_option linter.unusedVariables false
theorem bnd_zero : Bnd (fun _ => 0) := ⟨fun _ => (by decide : (0 : Nat) < 18446744073709551616), rfl⟩
set_option maxRecDepth 100000 in
set_option maxHeartbeats 8000000 in
theorem lives23 {T : World → Prop} (FB : Box (∀ {w w' : World}, T w → Below w.heap.size w w' → T w')) (rg : (Nat → Nat) → Array Value) (tg : TypeId) (PX : Box (∀ (R : Nat → Nat) (b : Nat) (n : Int) w, Bnd R → T w → w.heap[b]? = some (.cells (rg R) tg) → Calls Tryd.prog 20 #[.pointer (some ⟨b, 0, none⟩), .int .i64 n] w fun r w' => r = .returned (.tuple #[.int .u64 ((xV R n).1 : Nat), .int .i64 (xV R n).2]) ∧ Below w.heap.size w w')) (PF : Box (∀ (R : Nat → Nat) (b : Nat) (n : Int) w, Bnd R → T w → w.heap[b]? = some (.cells (rg R) tg) → Calls Tryd.prog 21 #[.pointer (some ⟨b, 0, none⟩), .int .i64 n] w fun r w' => r = .returned (.tuple #[.agg #[.int .u64 ((fV R n).1 : Nat), .int .u64 ((fV R n).2.1 : Nat)], .int .i64 (fV R n).2.2]) ∧ Below w.heap.size w w')) (PSX : Box (∀ (R : Nat → Nat) (b : Nat) (n : Int) (x : Nat) w, Bnd R → x < 18446744073709551616 → T w → w.heap[b]? = some (.cells (rg R) tg) → Calls Tryd.prog 25 #[.pointer (some ⟨b, 0, none⟩), .int .i64 n, .int .u64 (x : Nat)] w fun r w' => r = .returned (.int .i64 (sxV R n x).2) ∧ w'.heap[b]? = some (.cells (rg (sxV R n x).1) tg) ∧ Only b w w')) (PP : Box (∀ (R : Nat → Nat) (b : Nat) (f n : Int) (u v : Nat) w, Bnd R → 0 ≤ f → f ≤ 255 → u < 18446744073709551616 → v < 18446744073709551616 → T w → w.heap[b]? = some (.cells (rg R) tg) → Calls Tryd.prog 27 #[.pointer (some ⟨b, 0, none⟩), .int .u8 f, .int .i64 n, .agg #[.int .u64 (u : Nat), .int .u64 (v : Nat)]] w fun r w' => r = .returned (.int .i64 (ptV R f n u v).2) ∧ w'.heap[b]? = some (.cells (rg (ptV R f n u v).1) tg) ∧ Only b w w'))
    (PN : Box (∀ w, T w → Calls Tryd.prog 24 #[] w fun r w' => ∃ b, r = .returned (.pointer (some ⟨b, 0, none⟩)) ∧ w.heap.size ≤ b ∧ w'.heap[b]? = some (.cells (rg fun _ => 0) tg) ∧ Below w.heap.size w w'))
    (PM : Box (∀ w, T w → Calls Tryd.prog 18 #[.string ⟨#[102, 51, 49]⟩] w fun r w' => r = .returned (.tuple #[.bool true, .int .i64 31, .int .i64 0]) ∧ Below w.heap.size w w'))
    (w : World) (hT : T w) : Calls Tryd.prog 9 #[] w fun r w' => r = .returned (.bool true) ∧ Below w.heap.size w w' := by
  have FF := box hT
  clear hT
  have a1 : sxV (fun _ => 0) 0 7 = ((fun _ => 0), 0) := rfl
  have a2 : xV (fun _ => 0) 0 = (0, 0) := rfl
  have a3 : sxV (fun _ => 0) 5 7 = ((up (fun _ => 0) 5 7), 0) := rfl
  have a4 : xV (up (fun _ => 0) 5 7) 5 = (7, 0) := rfl
  have a5 : xV (up (fun _ => 0) 5 7) 32 = (0, 2) := rfl
  have a6 : ptV (up (fun _ => 0) 5 7) 2 3 0 15360 = ((up (up (up (fun _ => 0) 5 7) 38 18446744073709551615) 39 18446744073709501440), 0) := by
    have e : bv7 (15360 + 18446744073709551616 * 0 + abN 2) = (18446744073709551615, 18446744073709501440) := by decide +kernel
    have q : (inR 3 && fitN 2 (15360 + 18446744073709551616 * 0)) = true := by decide +kernel
    unfold ptV
    rw [if_pos q, e]
    rfl
  have a7 : fV (up (up (up (fun _ => 0) 5 7) 38 18446744073709551615) 39 18446744073709501440) 3 = (18446744073709551615, 18446744073709501440, 0) := rfl
  have b0 := bnd_zero
  have b1 : Bnd (up (fun _ => 0) 5 7) := bnd_up b0 (by decide) (by decide)
  have b2 : Bnd (up (up (up (fun _ => 0) 5 7) 38 18446744073709551615) 39 18446744073709501440) := bnd_up (bnd_up b1 (by decide) (by decide)) (by decide) (by decide)
  obtain ⟨S1, hS1⟩ : ∃ S, (up (fun _ => 0) 5 7) = S := ⟨_, rfl⟩
  rw [hS1] at a3 a4 a5 a6 a7 b1 b2
  obtain ⟨S2, hS2⟩ : ∃ S, (up (up S1 38 18446744073709551615) 39 18446744073709501440) = S := ⟨_, rfl⟩
  rw [hS2] at a6 a7 b2
  have Q0 := fun b w hT hr => PSX.out (fun _ => 0) b 0 7 w b0 (by decide) hT hr
  have Q1 := fun b w hT hr => PX.out (fun _ => 0) b 0 w b0 hT hr
  have Q2 := fun b w hT hr => PSX.out (fun _ => 0) b 5 7 w b0 (by decide) hT hr
  have Q3 := fun b w hT hr => PX.out S1 b 5 w b1 hT hr
  have Q4 := fun b w hT hr => PX.out S1 b 32 w b1 hT hr
  have Q5 := fun b w hT hr => PP.out S1 b 2 3 0 15360 w b1 (by decide) (by decide) (by decide) (by decide) hT hr
  have Q6 := fun b w hT hr => PF.out S2 b 3 w b2 hT hr
  rw [a1] at Q0
  rw [a2] at Q1
  rw [a3] at Q2
  rw [a4] at Q3
  rw [a5] at Q4
  rw [a6] at Q5
  rw [a7] at Q6
  have QQ := box (And.intro Q0 (And.intro Q1 (And.intro Q2 (And.intro Q3 (And.intro Q4 (And.intro Q5 Q6))))))
  clear Q0 Q1 Q2 Q3 Q4 Q5 Q6 a1 a2 a3 a4 a5 a6 a7 b0 b1 b2 hS1 hS2
  go_enter Tryd.func9, Tryd.ntmps9
  go_wp2_with fail
  refine (PN.out _ FF.out).mono ?_
  rintro r w1 ⟨b, rfl, gb, r1, B1⟩
  have hgb := box gb
  clear gb
  go_wp2_with fail
  refine (QQ.out.1 b _ (FB.out FF.out B1) r1).mono ?_
  rintro r w2 ⟨rfl, r2, o2⟩
  have B2 := Only.toBelow B1 o2 hgb.out B1.size
  clear B1 r1 o2
  go_wp2_with fail
  refine (QQ.out.2.1 b _ (FB.out FF.out B2) r2).mono ?_
  rintro r w3 ⟨rfl, q3⟩
  have B3 := btr B2 q3
  have r3 := heap_of q3 _ _ _ r2
  clear B2 r2 q3
  go_wp2_with fail
  refine (QQ.out.2.2.1 b _ (FB.out FF.out B3) r3).mono ?_
  rintro r w4 ⟨rfl, r4, o4⟩
  have B4 := Only.toBelow B3 o4 hgb.out B3.size
  clear B3 r3 o4
  go_wp2_with fail
  refine (QQ.out.2.2.2.1 b _ (FB.out FF.out B4) r4).mono ?_
  rintro r w5 ⟨rfl, q5⟩
  have B5 := btr B4 q5
  have r5 := heap_of q5 _ _ _ r4
  clear B4 r4 q5
  go_wp2_with fail
  refine (QQ.out.2.2.2.2.1 b _ (FB.out FF.out B5) r5).mono ?_
  rintro r w6 ⟨rfl, q6⟩
  have B6 := btr B5 q6
  have r6 := heap_of q6 _ _ _ r5
  clear B5 r5 q6
  go_wp2_with fail
  refine (QQ.out.2.2.2.2.2.1 b _ (FB.out FF.out B6) r6).mono ?_
  rintro r w7 ⟨rfl, r7, o7⟩
  have B7 := Only.toBelow B6 o7 hgb.out B6.size
  clear B6 r6 o7
  go_wp2_with fail
  refine (QQ.out.2.2.2.2.2.2 b _ (FB.out FF.out B7) r7).mono ?_
  rintro r w8 ⟨rfl, q8⟩
  have B8 := btr B7 q8
  have B9 := btr B8 (bal w8 (.cells #[.int .u64 18446744073709551615, .int .u64 18446744073709501440] 25))
  have Rn9 := heap_alloc_last w8 (.cells #[.int .u64 18446744073709551615, .int .u64 18446744073709501440] 25)
  clear B7 r7 q8
  go_wp2_with fail
  refine (PM.out _ (FB.out FF.out B9)).mono ?_
  rintro r w10 ⟨rfl, q10⟩
  have B10 := btr B9 q10
  obtain ⟨c0, c1⟩ := cells2s (heap_of q10 _ _ _ Rn9)
  clear B8 B9 Rn9 q10
  go_wp2
  go_ret
  exact ⟨rfl, B10⟩
def NoR (z0 : Array Value) (tg : TypeId) (p : Option Addr) (w : World) : Prop := p = none ∨ ∃ b, p = some ⟨b, 0, none⟩ ∧ w.heap[b]? = some (.cells z0 tg)
theorem NoR.mono {z0 : Array Value} {tg : TypeId} {p : Option Addr} {w w' : World} (h : NoR z0 tg p w) (b : Below w.heap.size w w') : NoR z0 tg p w' := h.imp id (fun ⟨g, e, r⟩ => ⟨g, e, heap_of b _ _ _ r⟩)
theorem wd_three {f : Int} (h : 0 < wdF f) : 0 ≤ f ∧ f ≤ 3 := by
  unfold wdF at h
  (repeat' split at h) <;> omega
def CLw (w : World) (sv : Value) (l : List Chg) : Prop := (sv = .slice none 0 0 ∧ l = []) ∨ ∃ (ad : Addr) (L cv : Nat), sv = .slice (some ad) L cv ∧ l.length = L ∧ L ≤ cv ∧ (L = 0 ∨ (ad.spot = none ∧ ad.block < w.heap.size)) ∧ ∀ j u, (chsC l)[j]? = some u → w.cell? (ad.add j) = some u
def StOk (w : World) (s : Stp) : Prop := s.X < 18446744073709551616 ∧ s.u < 18446744073709551616 ∧ s.v < 18446744073709551616 ∧ 0 ≤ s.fm ∧ s.fm ≤ 255 ∧ ∃ l, ChOk l ∧ l.length ≤ 1000000 ∧ CLw w s.sv l
theorem CLw.at {w W : World} {b : Nat} {sv : Value} {l : List Chg} (h : CLw w sv l) (q : Below w.heap.size w W) (hb : w.heap.size ≤ b) : CLt W b sv l := by
  rcases h with h | ⟨ad, L, cv, e, hl, hc, hs, hr⟩
  · exact Or.inl h
  · refine Or.inr ⟨ad, L, cv, e, hl, hc, hs.imp id (fun h => ⟨h.1, Nat.lt_of_lt_of_le h.2 q.size⟩), box (fun W' o j u hj => ?_)⟩
    rcases hs with h0 | ⟨sp, hg⟩
    · have : l = [] := List.length_eq_zero_iff.1 (by omega)
      subst this
      simp [chsC] at hj
    · have hh := hr j u hj
      obtain ⟨g, z, s⟩ := ad
      dsimp only at sp hg
      subst sp
      have hadd : (⟨g, z, none⟩ : Addr).add j = ⟨g, z + j, none⟩ := by unfold Addr.add; split <;> simp_all
      rw [hadd] at hh ⊢
      exact only_cell o (by omega) (Nat.lt_of_lt_of_le hg q.size) (below_cell q hg hh)
theorem plays23 {T : World → Prop} (FB : Box (∀ {w w' : World}, T w → Below w.heap.size w w' → T w')) (rg : (Nat → Nat) → Array Value) (tg : TypeId) (A C : Nat → Nat) (hA : ∀ k, A k < 18446744073709551616) (hC : ∀ k, C k < 18446744073709551616)
    (KF : Box (∀ R : Nat → Nat, (∀ k, R k < 18446744073709551616) → ∀ w, T w → Calls Tryd.prog 7 #[.agg (rf R)] w fun r w' => ∃ b, r = .returned (.pointer (some ⟨b, 0, none⟩)) ∧ w.heap.size ≤ b ∧ w'.heap[b]? = some (.cells (rg (up R 0 0)) tg) ∧ Below w.heap.size w w'))
    (KL : Box (∀ w, T w → Calls Tryd.prog 9 #[] w fun r w' => r = .returned (.bool true) ∧ Below w.heap.size w w'))
    (KC : Box (∀ (R : Nat → Nat) (b : Nat) w, Bnd R → T w → w.heap[b]? = some (.cells (rg R) tg) → Calls Tryd.prog 10 #[.pointer (some ⟨b, 0, none⟩)] w fun r w' => ∃ b', r = .returned (.pointer (some ⟨b', 0, none⟩)) ∧ w.heap.size ≤ b' ∧ w'.heap[b']? = some (.cells (rg R) tg) ∧ Below w.heap.size w w'))
    (KT : Box (∀ (R : Nat → Nat) (b : Nat) w, Bnd R → T w → w.heap[b]? = some (.cells (rg R) tg) → Calls Tryd.prog 12 #[.pointer (some ⟨b, 0, none⟩)] w fun r w' => r = .returned (.agg (rf R)) ∧ Below w.heap.size w w'))
    (KS : Box (∀ (R S : Nat → Nat) (b c : Nat) w, Bnd R → Bnd S → T w → w.heap[b]? = some (.cells (rg R) tg) → w.heap[c]? = some (.cells (rg S) tg) → Calls Tryd.prog 13 #[.pointer (some ⟨b, 0, none⟩), .pointer (some ⟨c, 0, none⟩)] w fun r w' => r = .returned (.bool (rfE R S)) ∧ Below w.heap.size w w'))
    (KH : Box (∀ (R S : Nat → Nat) (b c : Nat) w, Bnd R → Bnd S → T w → w.heap[b]? = some (.cells (rg R) tg) → w.heap[c]? = some (.cells (rg S) tg) → Calls Tryd.prog 14 #[.pointer (some ⟨b, 0, none⟩), .pointer (some ⟨c, 0, none⟩)] w fun r w' => ∃ v, r = .returned (.tuple #[v, .int .i64 0]) ∧ CS w' v (chgs R S) ∧ Below w.heap.size w w'))
    (PX : Box (∀ (R : Nat → Nat) (b : Nat) (n : Int) w, Bnd R → T w → w.heap[b]? = some (.cells (rg R) tg) → Calls Tryd.prog 20 #[.pointer (some ⟨b, 0, none⟩), .int .i64 n] w fun r w' => r = .returned (.tuple #[.int .u64 ((xV R n).1 : Nat), .int .i64 (xV R n).2]) ∧ Below w.heap.size w w'))
    (PF : Box (∀ (R : Nat → Nat) (b : Nat) (n : Int) w, Bnd R → T w → w.heap[b]? = some (.cells (rg R) tg) → Calls Tryd.prog 21 #[.pointer (some ⟨b, 0, none⟩), .int .i64 n] w fun r w' => r = .returned (.tuple #[.agg #[.int .u64 ((fV R n).1 : Nat), .int .u64 ((fV R n).2.1 : Nat)], .int .i64 (fV R n).2.2]) ∧ Below w.heap.size w w'))
    (PG : Box (∀ (R : Nat → Nat) (b : Nat) (f n : Int) w, Bnd R → 0 ≤ f → f ≤ 255 → T w → w.heap[b]? = some (.cells (rg R) tg) → Calls Tryd.prog 22 #[.pointer (some ⟨b, 0, none⟩), .int .u8 f, .int .i64 n] w fun r w' => r = .returned (.tuple #[.agg #[.int .u64 ((gtV R f n).1 : Nat), .int .u64 ((gtV R f n).2.1 : Nat)], .int .i64 (gtV R f n).2.2]) ∧ Below w.heap.size w w'))
    (PL : Box (∀ (R : Nat → Nat) (b : Nat) (f n : Int) w, Bnd R → 0 ≤ f → f ≤ 255 → T w → w.heap[b]? = some (.cells (rg R) tg) → Calls Tryd.prog 23 #[.pointer (some ⟨b, 0, none⟩), .int .u8 f, .int .i64 n] w fun r w' => r = .returned (.tuple #[.agg #[.int .u64 ((lwV R f n).1 : Nat), .int .u64 ((lwV R f n).2.1 : Nat)], .int .i64 (lwV R f n).2.2]) ∧ Below w.heap.size w w'))
    (PSX : Box (∀ (R : Nat → Nat) (b : Nat) (n : Int) (x : Nat) w, Bnd R → x < 18446744073709551616 → T w → w.heap[b]? = some (.cells (rg R) tg) → Calls Tryd.prog 25 #[.pointer (some ⟨b, 0, none⟩), .int .i64 n, .int .u64 (x : Nat)] w fun r w' => r = .returned (.int .i64 (sxV R n x).2) ∧ w'.heap[b]? = some (.cells (rg (sxV R n x).1) tg) ∧ Only b w w'))
    (PSF : Box (∀ (R : Nat → Nat) (b : Nat) (n : Int) (u v : Nat) w, Bnd R → u < 18446744073709551616 → v < 18446744073709551616 → T w → w.heap[b]? = some (.cells (rg R) tg) → Calls Tryd.prog 26 #[.pointer (some ⟨b, 0, none⟩), .int .i64 n, .agg #[.int .u64 (u : Nat), .int .u64 (v : Nat)]] w fun r w' => r = .returned (.int .i64 (sfV R n u v).2) ∧ w'.heap[b]? = some (.cells (rg (sfV R n u v).1) tg) ∧ Only b w w'))
    (PP : Box (∀ (R : Nat → Nat) (b : Nat) (f n : Int) (u v : Nat) w, Bnd R → 0 ≤ f → f ≤ 255 → u < 18446744073709551616 → v < 18446744073709551616 → T w → w.heap[b]? = some (.cells (rg R) tg) → Calls Tryd.prog 27 #[.pointer (some ⟨b, 0, none⟩), .int .u8 f, .int .i64 n, .agg #[.int .u64 (u : Nat), .int .u64 (v : Nat)]] w fun r w' => r = .returned (.int .i64 (ptV R f n u v).2) ∧ w'.heap[b]? = some (.cells (rg (ptV R f n u v).1) tg) ∧ Only b w w'))
    (PC : Box (∀ (R : Nat → Nat) (b : Nat) (l : List Chg) (s1 : Value) w, Bnd R → ChOk l → l.length ≤ 1000000 → T w → w.heap[b]? = some (.cells (rg R) tg) → CS w s1 l → Calls Tryd.prog 28 #[.pointer (some ⟨b, 0, none⟩), s1] w fun r w' => r = .returned (.int .i64 (chgR R l).2) ∧ w'.heap[b]? = some (.cells (rg (chgR R l).1) tg) ∧ Only b w w'))
    (ao : Option Addr) (L cv : Nat) (ls : List Stp) (hls : ls.length = L) (w : World)
    (HS : Box (ls ≠ [] → ∃ g z, ao = some ⟨g, z, none⟩ ∧ ∀ i s, ls[i]? = some s → ∀ j u, (stA s)[j]? = some u → w.cell? ⟨g, z + (i * 8 + j), none⟩ = some u))
    (HG : Box (ls ≠ [] → ∀ g z, ao = some ⟨g, z, none⟩ → g < w.heap.size)) (HO : Box (∀ s ∈ ls, StOk w s))
    (hT : T w) : Calls Tryd.prog 3 #[.agg (rf A), .agg (rf C), .slice ao L cv] w fun r w' => r = .returned (.bool true) ∧ Below w.heap.size w w' := by
  refine rp_1 FB rg tg A C hA hC KF (box (fun R w => r23_from R w)) KL KC KT KS KH ao L cv ls hls w (box (fun W q i s hi => ?_)) HG (box (fun s hs _ R b W hR q hb hTW hrow => ?_)) hT
  · obtain ⟨g, z, e, hc⟩ := HS.out (by rintro rfl; simp at hi)
    exact ⟨g, z, e, fun j u hj => below_cell q (HG.out (by rintro rfl; simp at hi) g z e) (hc i s hi j u hj)⟩
  · obtain ⟨h1, h2, h3, h4, h5, l, h6, h7, h8⟩ := HO.out s hs
    exact both_all FB rg tg PX PF PG PL PSX PSF PP PC R b s.how s.on s.n s.fm s.X s.u s.v s.sv l hR h1 h2 h3 h4 h5 h6 h7 W (h8.at q hb) hTW hrow
def nmV (fl : Bool) (n : Int) : ByteArray × Int := if (decide (0 ≤ n) && decide (n < 32)) = true then (nmB fl n.toNat, 0) else (⟨#[]⟩, 2)
end Go.Proofs.YtjbnifhpbdjonaaDoor
namespace Go.Proofs.YtjbnifhpbdjonaaDoor
set_option maxRecDepth 100000
set_option maxHeartbeats 40000000
set_option maxRecDepth 100000
open WMath
open Go.ChangeShapes Go.WideShapes Go.ChangeAt Go.RowKit
def dRF (H : Type) (R : Nat → Nat) : DataW H := .agg [.agg ((List.range 32).map fun i => .lit (.int .u64 (R i : Nat))), .agg ((List.range 32).map fun i => dB H (R (32 + i * 2), R (32 + i * 2 + 1)))]
def wdC (v : Value) : Nat := match v with
  | .int .u64 n => n.toNat
  | _ => 0
theorem one_at {α : Type} {l : List α} {i : Nat} {x : α} (h : (l.drop i).take 1 = [x]) : l[i]? = some x := by
  have := congrArg (fun l => l[0]?) h
  simpa [List.getElem?_take, List.getElem?_drop] using this
theorem two_at {α : Type} {l : List α} {i : Nat} {x y : α} (h : (l.drop i).take 2 = [x, y]) : l[i]? = some x ∧ l[i + 1]? = some y := by
  have h0 := congrArg (fun l => l[0]?) h
  have h1 := congrArg (fun l => l[1]?) h
  exact ⟨by simpa [List.getElem?_take, List.getElem?_drop] using h0, by simpa [List.getElem?_take, List.getElem?_drop] using h1⟩
theorem rd_bits {H : Type} {enc : TypeId × Value → H} {w : World} {base : Nat} {spare : Nat → Bool} {held : Bool} {fuel : Nat} {cs : List Value} {x : DataW H × List MemPlace}
    (h : DataW.trod enc Tryd.prog w base spare held fuel 25 cs = some x) : ∃ a b : Nat, a < 18446744073709551616 ∧ b < 18446744073709551616 ∧ cs = [.int .u64 (a : Nat), .int .u64 (b : Nat)] ∧ x = (dB H (a, b), []) := by
  have hc : Tryd.prog.cellsOf 25 = 2 := by kernel_rfl
  have hce : Tryd.prog.cellsOf 22 = 1 := by kernel_rfl
  have hl : cs.length = 2 := by
    obtain ⟨_, _, _, _, hl, _⟩ := DataW.trod_struct Tryd.underlying25 h
    rw [hl, hc]
  obtain ⟨c0, c1, rfl⟩ := list2 cs (by simpa using hl)
  obtain ⟨y0, y1, n, hx, _, h0, h1⟩ := trod_struct2 Tryd.underlying25 h
  simp only [hce] at h0 h1
  obtain ⟨x0, e0, g0, w0⟩ := DataW.trod_int Tryd.underlying22 h0
  obtain ⟨x1, e1, g1, w1⟩ := DataW.trod_int Tryd.underlying22 h1
  simp at e0 e1
  subst e0 e1
  obtain ⟨a0, b0, rfl⟩ := nat_u64 w0
  obtain ⟨a1, b1, rfl⟩ := nat_u64 w1
  refine ⟨a0, a1, b0, b1, rfl, ?_⟩
  rw [hx, g0, g1]
  rfl
set_option maxRecDepth 100000 in
theorem open_rf {H : Type} {enc : TypeId × Value → H} {w : World} {base b : Nat} {spare : Nat → Bool} {held : Bool} {v : Value} {d : DataW H} {p : List MemPlace}
    (hok : Value.okWide Tryd.prog w .any base 28 v) (h : DataW.Trod enc Tryd.prog w b spare held 28 v d p) : ∃ R : Nat → Nat, (∀ k, R k < 18446744073709551616) ∧ v = .agg (rf R) ∧ d = dRF H R ∧ p = [] := by
  have hc : Tryd.prog.cellsOf 28 = 96 := by kernel_rfl
  have hcx : Tryd.prog.cellsOf 23 = 32 := by kernel_rfl
  have hcf : Tryd.prog.cellsOf 26 = 64 := by kernel_rfl
  have hcb : Tryd.prog.cellsOf 25 = 2 := by kernel_rfl
  have hce : Tryd.prog.cellsOf 22 = 1 := by kernel_rfl
  obtain ⟨cs, rfl, hsz⟩ := okWide_struct Tryd.underlying28 hok
  rw [hc] at hsz
  obtain ⟨l⟩ := cs
  obtain ⟨fuel, hf⟩ := h
  obtain ⟨y0, y1, n, hx, _, h0, h1⟩ := trod_struct2 Tryd.underlying28 hf
  simp only [hcx, hcf, Value.cells] at h0 h1
  obtain ⟨xs, m, _, ex, _, lx, gx⟩ := DataW.trod_array Tryd.underlying23 h0
  obtain ⟨ys, m', _, ey, _, ly, gy⟩ := DataW.trod_array Tryd.underlying26 h1
  simp only [hce, hcb] at gx gy
  have hl : l.length = 96 := hsz
  have ax : ∀ i, i < 32 → ∃ a : Nat, a < 18446744073709551616 ∧ l[i]? = some (.int .u64 (a : Nat)) ∧ xs[i]? = some (.lit (.int .u64 (a : Nat)), []) := fun i hi => by
    have g := gx i hi
    obtain ⟨x, hx⟩ : ∃ x, xs[i]? = some x := ⟨xs[i], List.getElem?_eq_getElem (by omega)⟩
    rw [hx] at g
    obtain ⟨x0, e0, g0, w0⟩ := DataW.trod_int Tryd.underlying22 g
    obtain ⟨a0, b0, rfl⟩ := nat_u64 w0
    have := one_at e0
    rw [Nat.mul_one, List.getElem?_take, if_pos hi] at this
    exact ⟨a0, b0, by simpa using this, by rw [hx, g0]⟩
  have ay : ∀ i, i < 32 → ∃ a c : Nat, a < 18446744073709551616 ∧ c < 18446744073709551616 ∧ l[32 + i * 2]? = some (.int .u64 (a : Nat)) ∧ l[32 + i * 2 + 1]? = some (.int .u64 (c : Nat)) ∧ ys[i]? = some (dB H (a, c), []) := fun i hi => by
    have g := gy i hi
    obtain ⟨x, hx⟩ : ∃ x, ys[i]? = some x := ⟨ys[i], List.getElem?_eq_getElem (by omega)⟩
    rw [hx] at g
    obtain ⟨a, c, ha, hc, e, g0⟩ := rd_bits g
    obtain ⟨t0, t1⟩ := two_at e
    rw [List.getElem?_take, if_pos (by omega), List.getElem?_drop] at t0 t1
    exact ⟨a, c, ha, hc, t0, by rw [Nat.add_assoc]; exact t1, by rw [hx, g0]⟩
  refine ⟨fun k => ((l[k]?).map wdC).getD 0, ?_, ?_, ?_, ?_⟩
  · intro k
    by_cases k0 : k < 32
    · obtain ⟨a, ha, e, _⟩ := ax k k0
      simp only [e, Option.map_some, Option.getD_some, wdC, Int.toNat_natCast]
      exact ha
    · by_cases k1 : k < 96
      · obtain ⟨a, c, ha, hc, e0, e1, _⟩ := ay ((k - 32) / 2) (by omega)
        rcases (show k = 32 + (k - 32) / 2 * 2 ∨ k = 32 + (k - 32) / 2 * 2 + 1 by omega) with q | q <;> rw [q] <;> simp only [e0, e1, Option.map_some, Option.getD_some, wdC, Int.toNat_natCast] <;> assumption
      · simp [List.getElem?_eq_none (by omega : l.length ≤ k)]
  · congr 1
    apply Array.ext
    · rw [rf_size]; exact hsz
    · intro k hk hk'
      have hk : k < 96 := by rw [rf_size] at hk'; exact hk'
      have e := rf_at (fun k => ((l[k]?).map wdC).getD 0) k hk
      rw [Array.getElem?_eq_getElem hk'] at e
      rw [Option.some.inj e]
      by_cases k0 : k < 32
      · obtain ⟨a, ha, e, _⟩ := ax k k0
        simp only [e, Option.map_some, Option.getD_some, wdC, Int.toNat_natCast]
        rw [List.getElem?_eq_getElem (by omega)] at e
        exact Option.some.inj e
      · obtain ⟨a, c, ha, hc, e0, e1, _⟩ := ay ((k - 32) / 2) (by omega)
        rcases (show 32 + (k - 32) / 2 * 2 = k ∨ 32 + (k - 32) / 2 * 2 + 1 = k by omega) with q | q
        · rw [q] at e0
          simp only [e0, Option.map_some, Option.getD_some, wdC, Int.toNat_natCast]
          rw [List.getElem?_eq_getElem (by omega)] at e0
          exact Option.some.inj e0
        · rw [q] at e1
          simp only [e1, Option.map_some, Option.getD_some, wdC, Int.toNat_natCast]
          rw [List.getElem?_eq_getElem (by omega)] at e1
          exact Option.some.inj e1
  · simp only [Prod.mk.injEq] at hx
    rw [hx.1, ex, ey]
    have q0 : xs.map (·.1) = (List.range 32).map fun i => (DataW.lit (.int .u64 (((l[i]?).map wdC).getD 0 : Nat)) : DataW H) := by
      apply List.ext_getElem?
      intro i
      by_cases hi : i < 32
      · obtain ⟨a, ha, e, ex⟩ := ax i hi
        simp [List.getElem?_map, ex, hi, e, wdC]
      · simp [List.getElem?_map, List.getElem?_eq_none (by omega : xs.length ≤ i), hi]
    have q1 : ys.map (·.1) = (List.range 32).map fun i => dB H (((l[32 + i * 2]?).map wdC).getD 0, ((l[32 + i * 2 + 1]?).map wdC).getD 0) := by
      apply List.ext_getElem?
      intro i
      by_cases hi : i < 32
      · obtain ⟨a, c, ha, hc, e0, e1, ey⟩ := ay i hi
        simp [List.getElem?_map, ey, hi, e0, e1, wdC]
      · simp [List.getElem?_map, List.getElem?_eq_none (by omega : ys.length ≤ i), hi]
    dsimp only
    rw [q0, q1]
    rfl
  · simp only [Prod.mk.injEq] at hx
    rw [hx.2, ex, ey]
    have z : ∀ zs : List (DataW H × List MemPlace), (∀ i, i < zs.length → ∃ q, zs[i]? = some (q, [])) → zs.flatMap (·.2) = [] := fun zs hz => by
      rw [List.flatMap_eq_nil_iff]
      intro x hx
      obtain ⟨i, hi, rfl⟩ := List.getElem_of_mem hx
      obtain ⟨q, e⟩ := hz i hi
      rw [List.getElem?_eq_getElem hi] at e
      rw [Option.some.inj e]
    rw [z xs (fun i hi => by obtain ⟨a, _, _, e⟩ := ax i (by omega); exact ⟨_, e⟩), z ys (fun i hi => by obtain ⟨a, c, _, _, _, _, e⟩ := ay i (by omega); exact ⟨_, e⟩)]
    rfl
theorem rf_list (R : Nat → Nat) (k : Nat) (hk : k < 96) : (rf R).toList[k]? = some (.int .u64 (R k : Nat)) := by
  have := rf_at R k hk
  simpa using this
set_option maxRecDepth 100000 in
theorem shut_rf {H : Type} {enc : TypeId × Value → H} {w : World} {b : Nat} {spare : Nat → Bool} {held : Bool} (R : Nat → Nat) (h : ∀ k, R k < 18446744073709551616) : DataW.Trod enc Tryd.prog w b spare held 28 (.agg (rf R)) (dRF H R) [] := by
  have hc : Tryd.prog.cellsOf 28 = 96 := by kernel_rfl
  have hcx : Tryd.prog.cellsOf 23 = 32 := by kernel_rfl
  have hcf : Tryd.prog.cellsOf 26 = 64 := by kernel_rfl
  have hcb : Tryd.prog.cellsOf 25 = 2 := by kernel_rfl
  have hce : Tryd.prog.cellsOf 22 = 1 := by kernel_rfl
  have hl : (rf R).toList.length = 96 := by rw [Array.length_toList, rf_size]
  have tu : ∀ n k, k < 96 → DataW.trod enc Tryd.prog w b spare held (n + 1) 22 [.int .u64 (R k : Nat)] = some (.lit (.int .u64 (R k : Nat)), []) := fun n k _ => by
    have := u64_nat _ (h k)
    simp [DataW.trod, Tryd.underlying22, this]
  have one : ∀ k, k < 96 → ((rf R).toList.drop k).take 1 = [.int .u64 (R k : Nat)] := fun k hk => by
    apply List.ext_getElem?
    intro i
    rw [List.getElem?_take]
    split
    · obtain rfl : i = 0 := by omega
      rw [List.getElem?_drop, Nat.add_zero, rf_list R k hk]
      rfl
    · rw [List.getElem?_eq_none (by simp; omega)]
  have two : ∀ k, k + 1 < 96 → ((rf R).toList.drop k).take 2 = [.int .u64 (R k : Nat), .int .u64 (R (k + 1) : Nat)] := fun k hk => by
    apply List.ext_getElem?
    intro i
    rw [List.getElem?_take]
    split
    · rcases (show i = 0 ∨ i = 1 by omega) with rfl | rfl
      · rw [List.getElem?_drop, Nat.add_zero, rf_list R k (by omega)]
        rfl
      · rw [List.getElem?_drop, rf_list R (k + 1) hk]
        rfl
    · rw [List.getElem?_eq_none (by simp; omega)]
  have tx : DataW.trod enc Tryd.prog w b spare held 3 23 (((rf R).toList.drop 0).take 32) = some (.agg ((List.range 32).map fun i => .lit (.int .u64 (R i : Nat))), []) := by
    unfold DataW.trod
    rw [Tryd.underlying23]
    simp only [hcx, hce]
    rw [if_pos (by rw [List.length_take, List.length_drop, hl]; rfl), mapM_some_of_forall (g := fun i => (DataW.lit (.int .u64 (R i : Nat)), [])) _ (fun i hi => by
      have hi := List.mem_range.1 hi
      rw [List.drop_zero, Nat.mul_one, List.drop_take, List.take_take, show min 1 (32 - i) = 1 by omega, one i (by omega)]
      exact tu 1 i (by omega))]
    simp [List.flatMap_map, Function.comp_def]
  have tb : ∀ k, k + 1 < 96 → DataW.trod enc Tryd.prog w b spare held 2 25 [.int .u64 (R k : Nat), .int .u64 (R (k + 1) : Nat)] = some (dB H (R k, R (k + 1)), []) := fun k _ => by
    have k0 := u64_nat _ (h k)
    have k1 := u64_nat _ (h (k + 1))
    simp [DataW.trod, Tryd.underlying25, Tryd.underlying22, hcb, hce, k0, k1, dB]
  have ty : DataW.trod enc Tryd.prog w b spare held 3 26 (((rf R).toList.drop 32).take 64) = some (.agg ((List.range 32).map fun i => dB H (R (32 + i * 2), R (32 + i * 2 + 1))), []) := by
    unfold DataW.trod
    rw [Tryd.underlying26]
    simp only [hcf, hcb]
    rw [if_pos (by rw [List.length_take, List.length_drop, hl]; rfl), mapM_some_of_forall (g := fun i => (dB H (R (32 + i * 2), R (32 + i * 2 + 1)), [])) _ (fun i hi => by
      have hi := List.mem_range.1 hi
      rw [List.drop_take, List.take_take, show min 2 (64 - i * 2) = 2 by omega, List.drop_drop, two (32 + i * 2) (by omega)]
      exact tb _ (by omega))]
    simp [List.flatMap_map, Function.comp_def]
  refine ⟨4, ?_⟩
  show DataW.trod enc Tryd.prog w b spare held 4 28 (rf R).toList = _
  unfold DataW.trod
  rw [Tryd.underlying28]
  simp only [hc, hl, if_pos]
  simp only [List.mapM_cons, List.mapM_nil, hcx, hcf, tx, ty]
  rfl
def dCh (H : Type) (c : Chg) : DataW H := .agg [.lit (.bool c.fl), .lit (.int .i64 c.n), .lit (.int .u64 (c.wd : Nat)), dB H (c.hi, c.lo)]
def ChB (c : Chg) : Prop := (Lit.int .i64 c.n).wf = true ∧ c.wd < 18446744073709551616 ∧ c.hi < 18446744073709551616 ∧ c.lo < 18446744073709551616
theorem list5c {α : Type} (l : List α) (h : l.length = 5) : ∃ a0 a1 a2 a3 a4, l = [a0, a1, a2, a3, a4] := by
  match l, h with
  | [a0, a1, a2, a3, a4], _ => exact ⟨a0, a1, a2, a3, a4, rfl⟩
theorem trod_st4c {H : Type} {enc : TypeId × Value → H} {P : Program} {w : World} {base : Nat} {spare : Nat → Bool} {held : Bool} {t : TypeId} {f0 f1 f2 f3 : Field} {fuel : Nat} {cs : List Value} {x : DataW H × List MemPlace} (ht : P.underlying t = some (.struct #[f0, f1, f2, f3])) (h : DataW.trod enc P w base spare held fuel t cs = some x) :
    ∃ y0 y1 y2 y3 n, x = (.agg [y0.1, y1.1, y2.1, y3.1], y0.2 ++ (y1.2 ++ (y2.2 ++ y3.2))) ∧ cs.length = P.cellsOf t ∧ DataW.trod enc P w base spare held n f0.type ((cs.drop f0.offset).take (P.cellsOf f0.type)) = some y0 ∧
      DataW.trod enc P w base spare held n f1.type ((cs.drop f1.offset).take (P.cellsOf f1.type)) = some y1 ∧ DataW.trod enc P w base spare held n f2.type ((cs.drop f2.offset).take (P.cellsOf f2.type)) = some y2 ∧
      DataW.trod enc P w base spare held n f3.type ((cs.drop f3.offset).take (P.cellsOf f3.type)) = some y3 := by
  obtain ⟨xs, n, _, rfl, hl, hlen, hf⟩ := DataW.trod_struct ht h
  match xs, hlen with
  | [y0, y1, y2, y3], _ => exact ⟨y0, y1, y2, y3, n, by simp, hl, by simpa using hf 0 f0 rfl, by simpa using hf 1 f1 rfl, by simpa using hf 2 f2 rfl, by simpa using hf 3 f3 rfl⟩
theorem rd_ch {H : Type} {enc : TypeId × Value → H} {w : World} {base : Nat} {spare : Nat → Bool} {held : Bool} {fuel : Nat} {cs : List Value} {x : DataW H × List MemPlace}
    (h : DataW.trod enc Tryd.prog w base spare held fuel 50 cs = some x) : ∃ c : Chg, ChB c ∧ cs = chC c ∧ x = (dCh H c, []) := by
  have hc : Tryd.prog.cellsOf 50 = 5 := by kernel_rfl
  have hcb : Tryd.prog.cellsOf 25 = 2 := by kernel_rfl
  have hce : Tryd.prog.cellsOf 22 = 1 := by kernel_rfl
  have hb1 : Tryd.prog.cellsOf 4 = 1 := by kernel_rfl
  have hi1 : Tryd.prog.cellsOf 3 = 1 := by kernel_rfl
  obtain ⟨y0, y1, y2, y3, n, hx, hl, h0, h1, h2, h3⟩ := trod_st4c Tryd.underlying50 h
  rw [hc] at hl
  obtain ⟨c0, c1, c2, c3, c4, rfl⟩ := list5c cs hl
  simp only [hcb, hce, hb1, hi1, List.drop_succ_cons, List.drop_zero, List.take_succ_cons, List.take_zero] at h0 h1 h2 h3
  obtain ⟨b0, e0, g0⟩ := DataW.trod_bool Tryd.underlying4 h0
  obtain ⟨x1, e1, g1, w1⟩ := DataW.trod_int Tryd.underlying3 h1
  obtain ⟨x2, e2, g2, w2⟩ := DataW.trod_int Tryd.underlying22 h2
  obtain ⟨a, c, ha, hc', e3, g3⟩ := rd_bits h3
  obtain ⟨a2, b2, rfl⟩ := nat_u64 w2
  simp at e0 e1 e2 e3
  obtain ⟨rfl, rfl⟩ := e3
  subst e0 e1 e2
  refine ⟨⟨b0, x1, a2, a, c⟩, ⟨w1, b2, ha, hc'⟩, rfl, ?_⟩
  rw [hx, g0, g1, g2, g3]
  rfl
theorem chC_len (c : Chg) : (chC c).length = 5 := rfl
theorem chsC_at : ∀ (l : List Chg) (j : Nat) (u : Value), (chsC l)[j]? = some u → ∃ c, l[j / 5]? = some c ∧ (chC c)[j % 5]? = some u
  | [], j, u, h => by simp [chsC] at h
  | c :: l, j, u, h => by
    rw [show chsC (c :: l) = chC c ++ chsC l from rfl] at h
    by_cases hj : j < 5
    · rw [List.getElem?_append_left (by rw [chC_len]; exact hj)] at h
      exact ⟨c, by rw [Nat.div_eq_of_lt hj]; rfl, by rw [Nat.mod_eq_of_lt hj]; exact h⟩
    · rw [List.getElem?_append_right (by rw [chC_len]; omega), chC_len] at h
      obtain ⟨d, e1, e2⟩ := chsC_at l (j - 5) u h
      refine ⟨d, ?_, ?_⟩
      · rw [show j / 5 = (j - 5) / 5 + 1 by omega]
        exact e1
      · rw [show j % 5 = (j - 5) % 5 by omega]
        exact e2
theorem add_add (a : Addr) (i j : Nat) : (a.add i).add j = a.add (i + j) := by
  obtain ⟨b, o, s⟩ := a
  unfold Addr.add
  by_cases hi : i = 0 <;> by_cases hj : j = 0 <;> simp [hi, hj, Nat.add_assoc]
end Go.Proofs.YtjbnifhpbdjonaaDoor
namespace Go.Proofs.YtjbnifhpbdjonaaDoor
set_option maxRecDepth 100000
set_option maxHeartbeats 40000000
set_option maxRecDepth 100000
open WMath
open Go.ChangeShapes Go.WideShapes Go.ChangeAt Go.RowKit
set_option linter.unusedVariables false
theorem bulk_mem {H : Type} {d : DataW H} : ∀ {ds : List (DataW H)}, d ∈ ds → Rows.uptoBulk d ≤ Rows.uptoBulkAll ds
  | [], h => by cases h
  | e :: ds, h => by
    rw [Rows.uptoBulkAll]
    rcases List.mem_cons.1 h with rfl | h
    · omega
    · have := bulk_mem h
      omega
theorem bulk_chs {H : Type} : ∀ l : List Chg, Rows.uptoBulkAll (l.map (dCh H)) = l.length * 7
  | [] => by simp [Rows.uptoBulkAll]
  | c :: l => by
    rw [List.map_cons, Rows.uptoBulkAll, bulk_chs l, List.length_cons]
    have : Rows.uptoBulk (dCh H c) = 7 := by simp [dCh, dB, Rows.uptoBulk, Rows.uptoBulkAll]
    omega
theorem rd_slice {H : Type} {enc : TypeId × Value → H} {P : Program} {w : World} {base : Nat} {spare : Nat → Bool} {held : Bool} {fuel : Nat} {v : Value} {x : DataW H × List MemPlace} {t e : TypeId} (ht : P.underlying t = some (.slice e))
    (h : DataW.trod enc P w base spare held fuel t [v] = some x) :
    (v = .slice none 0 0 ∧ x.1 = .nil) ∨ ∃ (ad : Addr) (L cv m : Nat) (es : List (DataW H × List MemPlace)) (sp : List (DataW H)), v = .slice (some ad) L cv ∧ L ≤ cv ∧ cv ≤ maxLen ∧ x.1 = .slice (es.map (·.1)) sp ∧ es.length = L ∧
      ∀ i, i < L → ∃ cs, w.cells? base (ad.add (i * P.cellsOf e)) (P.cellsOf e) = some cs ∧ DataW.trod enc P w base spare held m e cs = es[i]? := by
  cases fuel with
  | zero => simp [DataW.trod] at h
  | succ m =>
    unfold DataW.trod at h
    rw [ht] at h
    cases v <;> try (simp at h; done)
    case slice p L cv =>
      cases p with
      | none =>
        refine Or.inl ?_
        cases L <;> cases cv <;> simp at h
        rw [← h]
        exact ⟨rfl, rfl⟩
      | some ad =>
        dsimp only at h
        split at h
        · rename_i hb
          obtain ⟨elems, he, hx⟩ := Option.bind_eq_some_iff.1 h
          obtain ⟨rest, _, hx⟩ := Option.map_eq_some_iff.1 hx
          have hlen := mapM_some_length he
          rw [List.length_range] at hlen
          refine Or.inr ⟨ad, L, cv, m, elems, _, rfl, hb.2.1, hb.2.2, by rw [← hx], hlen, fun i hi => ?_⟩
          have g := mapM_some_get he i i (by rw [List.getElem?_range hi])
          rw [List.getElem?_eq_getElem (by omega)] at g ⊢
          obtain ⟨cs, hcs, ht⟩ := Option.bind_eq_some_iff.1 g
          exact ⟨cs, hcs, ht⟩
        · cases h
theorem rd_chl {H : Type} {enc : TypeId × Value → H} {w : World} {base : Nat} {spare : Nat → Bool} {held : Bool} {fuel : Nat} {v : Value} {x : DataW H × List MemPlace}
    (h : DataW.trod enc Tryd.prog w base spare held fuel 37 [v] = some x) :
    (∃ ao L cv, v = .slice ao L cv) ∧ ∃ l : List Chg, ChOk l ∧ CLw w v l ∧ l.length * 7 ≤ Rows.uptoBulk x.1 := by
  have hc : Tryd.prog.cellsOf 50 = 5 := by kernel_rfl
  rcases rd_slice Tryd.underlying37 h with ⟨rfl, _⟩ | ⟨ad, L, cv, m, es, sp, rfl, hL, hm, hx, hl, he⟩
  · exact ⟨⟨_, _, _, rfl⟩, [], (fun _ h => by cases h), Or.inl ⟨rfl, rfl⟩, by simp⟩
  · rw [hc] at he
    have each : ∀ i, i < L → ∃ c : Chg, ChB c ∧ (∀ j, j < 5 → w.cell? (ad.add (i * 5 + j)) = (chC c)[j]?) ∧ es[i]? = some (dCh H c, []) := fun i hi => by
      obtain ⟨cs, hcs, ht⟩ := he i hi
      rw [List.getElem?_eq_getElem (by omega)] at ht ⊢
      obtain ⟨c, hC, rfl, hq⟩ := rd_ch ht
      exact ⟨c, hC, fun j hj => by rw [← add_add]; exact (World.cells?_some hcs).2.2 j hj, by rw [hq]⟩
    obtain ⟨f, hf⟩ : ∃ f : Nat → Chg, ∀ i, i < L → ChB (f i) ∧ (∀ j, j < 5 → w.cell? (ad.add (i * 5 + j)) = (chC (f i))[j]?) ∧ es[i]? = some (dCh H (f i), []) :=
      ⟨fun i => if hi : i < L then (each i hi).choose else ⟨false, 0, 0, 0, 0⟩, fun i hi => by dsimp only; rw [dif_pos hi]; exact (each i hi).choose_spec⟩
    have cells : ∀ j u, (chsC ((List.range L).map f))[j]? = some u → w.cell? (ad.add j) = some u := fun j u hj => by
      obtain ⟨c, e1, e2⟩ := chsC_at _ j u hj
      have hi : j / 5 < L := by
        have := (List.getElem?_eq_some_iff.1 e1).1
        simpa using this
      rw [List.getElem?_map, List.getElem?_range hi] at e1
      cases e1
      have := (hf _ hi).2.1 (j % 5) (by omega)
      rw [show j / 5 * 5 + j % 5 = j by omega] at this
      rw [this, e2]
    refine ⟨⟨_, _, _, rfl⟩, (List.range L).map f, fun c hc => ?_, Or.inr ⟨ad, L, cv, rfl, by simp, hL, ?_, cells⟩, ?_⟩
    · obtain ⟨i, hi, rfl⟩ := List.mem_map.1 hc
      exact (hf i (List.mem_range.1 hi)).1.2
    · by_cases z : L = 0
      · exact Or.inl z
      · refine Or.inr ?_
        have g := (hf 0 (by omega)).2.1 0 (by omega)
        rw [show ad.add (0 * 5 + 0) = ad from rfl] at g
        have g2 : w.cell? ad = some (.bool (f 0).fl) := g
        exact ⟨World.cell?_spot g2, World.block_lt_of_cell? w _ g2⟩
    · rw [hx, Rows.uptoBulk]
      have e : es.map (·.1) = ((List.range L).map f).map (dCh H) := by
        apply List.ext_getElem?
        intro i
        by_cases hi : i < L
        · rw [List.getElem?_map, (hf i hi).2.2, List.getElem?_map, List.getElem?_map, List.getElem?_range hi]
          rfl
        · rw [List.getElem?_eq_none (by simp; omega), List.getElem?_eq_none (by simp; omega)]
      rw [e, bulk_chs]
      simp only [List.length_map, List.length_range]
      omega
theorem list8s {α : Type} (l : List α) (h : l.length = 8) : ∃ a0 a1 a2 a3 a4 a5 a6 a7, l = [a0, a1, a2, a3, a4, a5, a6, a7] := by
  match l, h with
  | [a0, a1, a2, a3, a4, a5, a6, a7], _ => exact ⟨a0, a1, a2, a3, a4, a5, a6, a7, rfl⟩
theorem trod_st7 {H : Type} {enc : TypeId × Value → H} {P : Program} {w : World} {base : Nat} {spare : Nat → Bool} {held : Bool} {t : TypeId} {f0 f1 f2 f3 f4 f5 f6 : Field} {fuel : Nat} {cs : List Value} {x : DataW H × List MemPlace} (ht : P.underlying t = some (.struct #[f0, f1, f2, f3, f4, f5, f6])) (h : DataW.trod enc P w base spare held fuel t cs = some x) :
    ∃ y0 y1 y2 y3 y4 y5 y6 n, x.1 = .agg [y0.1, y1.1, y2.1, y3.1, y4.1, y5.1, y6.1] ∧ cs.length = P.cellsOf t ∧ DataW.trod enc P w base spare held n f0.type ((cs.drop f0.offset).take (P.cellsOf f0.type)) = some y0 ∧
      DataW.trod enc P w base spare held n f1.type ((cs.drop f1.offset).take (P.cellsOf f1.type)) = some y1 ∧ DataW.trod enc P w base spare held n f2.type ((cs.drop f2.offset).take (P.cellsOf f2.type)) = some y2 ∧
      DataW.trod enc P w base spare held n f3.type ((cs.drop f3.offset).take (P.cellsOf f3.type)) = some y3 ∧ DataW.trod enc P w base spare held n f4.type ((cs.drop f4.offset).take (P.cellsOf f4.type)) = some y4 ∧
      DataW.trod enc P w base spare held n f5.type ((cs.drop f5.offset).take (P.cellsOf f5.type)) = some y5 ∧ DataW.trod enc P w base spare held n f6.type ((cs.drop f6.offset).take (P.cellsOf f6.type)) = some y6 := by
  obtain ⟨xs, n, _, rfl, hl, hlen, hf⟩ := DataW.trod_struct ht h
  match xs, hlen with
  | [y0, y1, y2, y3, y4, y5, y6], _ => exact ⟨y0, y1, y2, y3, y4, y5, y6, n, by simp, hl, by simpa using hf 0 f0 rfl, by simpa using hf 1 f1 rfl, by simpa using hf 2 f2 rfl, by simpa using hf 3 f3 rfl, by simpa using hf 4 f4 rfl, by simpa using hf 5 f5 rfl, by simpa using hf 6 f6 rfl⟩
theorem u8_lim {f : Int} (h : (Lit.int .u8 f).wf = true) : 0 ≤ f ∧ f ≤ 255 := bounds_u8 h
theorem rd_st {H : Type} {enc : TypeId × Value → H} {w : World} {base : Nat} {spare : Nat → Bool} {held : Bool} {fuel : Nat} {cs : List Value} {x : DataW H × List MemPlace}
    (h : DataW.trod enc Tryd.prog w base spare held fuel 39 cs = some x) :
    ∃ s : Stp, cs = (stA s).toList ∧ s.X < 18446744073709551616 ∧ s.u < 18446744073709551616 ∧ s.v < 18446744073709551616 ∧ 0 ≤ s.fm ∧ s.fm ≤ 255 ∧ (∃ ao L cv, s.sv = .slice ao L cv) ∧ ∃ l, ChOk l ∧ CLw w s.sv l ∧ l.length * 7 ≤ Rows.uptoBulk x.1 := by
  have hc : Tryd.prog.cellsOf 39 = 8 := by kernel_rfl
  have hcb : Tryd.prog.cellsOf 25 = 2 := by kernel_rfl
  have hce : Tryd.prog.cellsOf 22 = 1 := by kernel_rfl
  have hcf : Tryd.prog.cellsOf 36 = 1 := by kernel_rfl
  have hi1 : Tryd.prog.cellsOf 3 = 1 := by kernel_rfl
  have hcl : Tryd.prog.cellsOf 37 = 1 := by kernel_rfl
  obtain ⟨y0, y1, y2, y3, y4, y5, y6, n, hx, hl, h0, h1, h2, h3, h4, h5, h6⟩ := trod_st7 Tryd.underlying39 h
  rw [hc] at hl
  obtain ⟨c0, c1, c2, c3, c4, c5, c6, c7, rfl⟩ := list8s cs hl
  simp only [hcb, hce, hcf, hi1, hcl, List.drop_succ_cons, List.drop_zero, List.take_succ_cons, List.take_zero] at h0 h1 h2 h3 h4 h5 h6
  obtain ⟨x0, e0, g0, w0⟩ := DataW.trod_int Tryd.underlying3 h0
  obtain ⟨x1, e1, g1, w1⟩ := DataW.trod_int Tryd.underlying3 h1
  obtain ⟨x2, e2, g2, w2⟩ := DataW.trod_int Tryd.underlying3 h2
  obtain ⟨x3, e3, g3, w3⟩ := DataW.trod_int Tryd.underlying22 h3
  obtain ⟨a, c, ha, hc', e4, g4⟩ := rd_bits h4
  obtain ⟨x5, e5, g5, w5⟩ := DataW.trod_int Tryd.underlying36 h5
  obtain ⟨a3, b3, rfl⟩ := nat_u64 w3
  obtain ⟨hs, l, k1, k2, k3⟩ := rd_chl h6
  simp at e0 e1 e2 e3 e4 e5
  obtain ⟨rfl, rfl⟩ := e4
  subst e0 e1 e2 e3 e5
  refine ⟨⟨x0, x1, x2, a3, a, c, x5, c7⟩, rfl, b3, ha, hc', (u8_lim w5).1, (u8_lim w5).2, hs, l, k1, k2, Nat.le_trans k3 ?_⟩
  rw [hx, Rows.uptoBulk]
  have := bulk_mem (d := y6.1) (ds := [y0.1, y1.1, y2.1, y3.1, y4.1, y5.1, y6.1]) (by simp)
  omega
def LStAt (w : World) (v : Value) : Prop := ∃ (ao : Option Addr) (L cv : Nat) (ls : List Stp), v = .slice ao L cv ∧ ls.length = L ∧ (ls ≠ [] → ∃ g z, ao = some ⟨g, z, none⟩ ∧ ∀ i s, ls[i]? = some s → ∀ j u, (stA s)[j]? = some u → w.cell? ⟨g, z + (i * 8 + j), none⟩ = some u) ∧ (ls ≠ [] → ∀ g z, ao = some ⟨g, z, none⟩ → g < w.heap.size) ∧ ∀ s ∈ ls, StOk w s
theorem open_lst {H : Type} {enc : TypeId × Value → H} {w : World} {base b : Nat} {spare : Nat → Bool} {held : Bool} {v : Value} {d : DataW H} {p : List MemPlace}
    (hok : Value.okWide Tryd.prog w .any base 29 v) (h : DataW.Trod enc Tryd.prog w b spare held 29 v d p) (hk : Rows.uptoBulk d ≤ 1048576) : LStAt w v := by
  have hc : Tryd.prog.cellsOf 39 = 8 := by kernel_rfl
  obtain ⟨ao, len0, cap0, rfl⟩ := okWide_slice Tryd.underlying29 hok
  obtain ⟨fuel, hf⟩ := h
  rcases rd_slice Tryd.underlying29 (v := .slice ao len0 cap0) (by simpa [Value.cells] using hf) with ⟨e, _⟩ | ⟨ad, L, cv, m, es, sp, e, hL, hm, hx, hl, he⟩
  · rw [e]
    exact ⟨none, 0, 0, [], rfl, rfl, fun h => absurd rfl h, fun h => absurd rfl h, fun s hs => by cases hs⟩
  · rw [hc] at he
    have each : ∀ i, i < L → ∃ s : Stp, (∀ j, j < 8 → w.cell? (ad.add (i * 8 + j)) = (stA s)[j]?) ∧ StOk w s := fun i hi => by
      obtain ⟨cs, hcs, ht⟩ := he i hi
      rw [List.getElem?_eq_getElem (by omega)] at ht
      obtain ⟨s, rfl, h1, h2, h3, h4, h5, _, l, k1, k2, k3⟩ := rd_st ht
      refine ⟨s, fun j hj => by rw [← add_add]; exact ((World.cells?_some hcs).2.2 j hj).trans (by simp), h1, h2, h3, h4, h5, l, k1, ?_, k2⟩
      have q1 := bulk_mem (d := (es[i]'(by omega)).1) (ds := es.map (·.1)) (List.mem_map.2 ⟨_, List.getElem_mem _, rfl⟩)
      rw [show d = _ from hx, Rows.uptoBulk] at hk
      omega
    obtain ⟨f, hf⟩ : ∃ f : Nat → Stp, ∀ i, i < L → (∀ j, j < 8 → w.cell? (ad.add (i * 8 + j)) = (stA (f i))[j]?) ∧ StOk w (f i) :=
      ⟨fun i => if hi : i < L then (each i hi).choose else ⟨0, 0, 0, 0, 0, 0, 0, .slice none 0 0⟩, fun i hi => by dsimp only; rw [dif_pos hi]; exact (each i hi).choose_spec⟩
    rw [e]
    have first : L ≠ 0 → ad.spot = none ∧ ad.block < w.heap.size := fun z => by
      have g := (hf 0 (by omega)).1 0 (by omega)
      have g2 : w.cell? ad = some (.int .i64 (f 0).how) := g
      exact ⟨World.cell?_spot g2, World.block_lt_of_cell? w _ g2⟩
    refine ⟨some ad, L, cv, (List.range L).map f, rfl, by simp, fun hne => ?_, fun hne g z eq => ?_, fun s hs => ?_⟩
    · have z : L ≠ 0 := fun z => hne (by subst z; rfl)
      obtain ⟨sp0, _⟩ := first z
      obtain ⟨g, o, s0⟩ := ad
      dsimp only at sp0
      subst sp0
      refine ⟨g, o, rfl, fun i s hi j u hj => ?_⟩
      have hi' : i < L := by have := (List.getElem?_eq_some_iff.1 hi).1; simpa using this
      rw [List.getElem?_map, List.getElem?_range hi'] at hi
      cases hi
      have hj8 : j < 8 := by have := (Array.getElem?_eq_some_iff.1 hj).1; simpa [stA] using this
      have := (hf i hi').1 j hj8
      rw [hj] at this
      rw [show (⟨g, o, none⟩ : Addr).add (i * 8 + j) = ⟨g, o + (i * 8 + j), none⟩ from by unfold Addr.add; split <;> simp_all] at this
      exact this
    · have z : L ≠ 0 := fun z => hne (by subst z; rfl)
      have := (first z).2
      cases eq
      exact this
    · obtain ⟨i, hi, rfl⟩ := List.mem_map.1 hs
      exact (hf i (List.mem_range.1 hi)).2
end Go.Proofs.YtjbnifhpbdjonaaDoor
namespace Go.Proofs
open Go.Shelf
def Tryd.laysItoa_ren : Go.Shelf.Ren := ⟨fun | 171 => 39 | 243 => 57 | 246 => 73 | 283 => 86 | 284 => 87 | 285 => 88 | 286 => 89 | 129 => 97 | 317 => 96 | 318 => 98 | 319 => 99 | 320 => 100 | 337 => 103 | 338 => 104 | n => n, fun | 3 => 3 | 9 => 9 | 2 => 2 | 4 => 4 | 171 => 123 | 0 => 0 | 53 => 22 | 37 => 99 | 5 => 5 | 173 => 126 | 212 => 139 | 51 => 140 | 20 => 20 | 213 => 141 | 46 => 120 | 232 => 151 | 233 => 152 | n => n, fun | 17 => 3 | 18 => 5 | 19 => 6 | n => n⟩
theorem Tryd.laysItoa : Go.Proofs.LaysM.n171 Tryd.prog Tryd.laysItoa_ren := {
  mixed := by kernel_rfl
  f129 := Tryd.func97.trans (congrArg some (by kernel_rfl))
  f171 := Tryd.func39.trans (congrArg some (by kernel_rfl))
  f243 := Tryd.func57.trans (congrArg some (by kernel_rfl))
  f246 := Tryd.func73.trans (congrArg some (by kernel_rfl))
  f283 := Tryd.func86.trans (congrArg some (by kernel_rfl))
  f284 := Tryd.func87.trans (congrArg some (by kernel_rfl))
  f285 := Tryd.func88.trans (congrArg some (by kernel_rfl))
  f286 := Tryd.func89.trans (congrArg some (by kernel_rfl))
  f317 := Tryd.func96.trans (congrArg some (by kernel_rfl))
  f318 := Tryd.func98.trans (congrArg some (by kernel_rfl))
  f319 := Tryd.func99.trans (congrArg some (by kernel_rfl))
  f320 := Tryd.func100.trans (congrArg some (by kernel_rfl))
  f337 := Tryd.func103.trans (congrArg some (by kernel_rfl))
  f338 := Tryd.func104.trans (congrArg some (by kernel_rfl))
  t0 := Tryd.underlying0
  a0 := Tryd.isAgg0
  z0 := Tryd.sizeOf0
  v0 := Tryd.zeroValue0
  t2 := Tryd.underlying2
  a2 := Tryd.isAgg2
  z2 := Tryd.sizeOf2
  v2 := Tryd.zeroValue2
  t3 := Tryd.underlying3
  a3 := Tryd.isAgg3
  z3 := Tryd.sizeOf3
  v3 := Tryd.zeroValue3
  t4 := Tryd.underlying4
  a4 := Tryd.isAgg4
  z4 := Tryd.sizeOf4
  v4 := Tryd.zeroValue4
  t5 := Tryd.underlying5
  a5 := Tryd.isAgg5
  z5 := Tryd.sizeOf5
  v5 := Tryd.zeroValue5
  t9 := Tryd.underlying9
  a9 := Tryd.isAgg9
  z9 := Tryd.sizeOf9
  v9 := Tryd.zeroValue9
  t20 := Tryd.underlying20
  a20 := Tryd.isAgg20
  z20 := Tryd.sizeOf20
  v20 := Tryd.zeroValue20
  t37 := Tryd.underlying99
  a37 := Tryd.isAgg99
  z37 := Tryd.sizeOf99
  v37 := Tryd.zeroValue99
  t46 := Tryd.underlying120
  a46 := Tryd.isAgg120
  z46 := Tryd.sizeOf120
  v46 := Tryd.zeroValue120
  t51 := Tryd.underlying140
  a51 := Tryd.isAgg140
  z51 := Tryd.sizeOf140
  v51 := Tryd.zeroValue140
  t53 := Tryd.underlying22
  a53 := Tryd.isAgg22
  z53 := Tryd.sizeOf22
  v53 := Tryd.zeroValue22
  t171 := Tryd.underlying123
  a171 := Tryd.isAgg123
  z171 := Tryd.sizeOf123
  v171 := Tryd.zeroValue123
  t173 := Tryd.underlying126
  a173 := Tryd.isAgg126
  z173 := Tryd.sizeOf126
  v173 := Tryd.zeroValue126
  t212 := Tryd.underlying139
  a212 := Tryd.isAgg139
  z212 := Tryd.sizeOf139
  v212 := Tryd.zeroValue139
  t213 := Tryd.underlying141
  a213 := Tryd.isAgg141
  z213 := Tryd.sizeOf141
  t232 := Tryd.underlying151
  a232 := Tryd.isAgg151
  z232 := Tryd.sizeOf151
  v232 := Tryd.zeroValue151
  t233 := Tryd.underlying152
  a233 := Tryd.isAgg152
  z233 := Tryd.sizeOf152
  v233 := Tryd.zeroValue152
  g17 := by kernel_rfl
  g18 := by kernel_rfl
  g19 := by kernel_rfl
  i0 := by kernel_rfl
  i2 := by kernel_rfl
  i3 := by kernel_rfl
  i4 := by kernel_rfl
  i5 := by kernel_rfl
  i9 := by kernel_rfl
  i20 := by kernel_rfl
  i37 := by kernel_rfl
  i46 := by kernel_rfl
  i51 := by kernel_rfl
  i53 := by kernel_rfl
  i171 := by kernel_rfl
  i173 := by kernel_rfl
  i212 := by kernel_rfl
  i232 := by kernel_rfl
  i233 := by kernel_rfl
  m17 := by kernel_rfl
  m18 := by kernel_rfl
  m19 := by kernel_rfl }
def Tryd.laysAtoi_ren : Go.Shelf.Ren := ⟨fun | 172 => 44 | 244 => 60 | 245 => 61 | 247 => 75 | 279 => 76 | 280 => 77 | 281 => 78 | 282 => 79 | 287 => 90 | 316 => 91 | 171 => 39 | 205 => 92 | 321 => 101 | 322 => 102 | 243 => 57 | 246 => 73 | 283 => 86 | 284 => 87 | 285 => 88 | 286 => 89 | 129 => 97 | 317 => 96 | 318 => 98 | 319 => 99 | 320 => 100 | 337 => 103 | 338 => 104 | n => n, fun | 9 => 9 | 3 => 3 | 75 => 84 | 76 => 85 | 4 => 4 | 5 => 5 | 167 => 111 | 37 => 99 | 0 => 0 | 85 => 112 | 2 => 2 | 168 => 114 | 53 => 22 | 175 => 128 | 46 => 120 | 210 => 132 | 127 => 145 | 145 => 148 | 143 => 146 | 21 => 21 | 171 => 123 | 173 => 126 | 212 => 139 | 51 => 140 | 20 => 20 | 213 => 141 | 232 => 151 | 233 => 152 | 80 => 153 | n => n, fun | 15 => 1 | 16 => 2 | 17 => 3 | 18 => 5 | 19 => 6 | n => n⟩
theorem Tryd.laysAtoi : Go.Proofs.LaysC.n172 Tryd.prog Tryd.laysAtoi_ren := {
  mixed := by kernel_rfl
  f129 := Tryd.func97.trans (congrArg some (by kernel_rfl))
  f171 := Tryd.func39.trans (congrArg some (by kernel_rfl))
  f172 := Tryd.func44.trans (congrArg some (by kernel_rfl))
  f205 := Tryd.func92.trans (congrArg some (by kernel_rfl))
  f243 := Tryd.func57.trans (congrArg some (by kernel_rfl))
  f244 := Tryd.func60.trans (congrArg some (by kernel_rfl))
  f245 := Tryd.func61.trans (congrArg some (by kernel_rfl))
  f246 := Tryd.func73.trans (congrArg some (by kernel_rfl))
  f247 := Tryd.func75.trans (congrArg some (by kernel_rfl))
  f279 := Tryd.func76.trans (congrArg some (by kernel_rfl))
  f280 := Tryd.func77.trans (congrArg some (by kernel_rfl))
  f281 := Tryd.func78.trans (congrArg some (by kernel_rfl))
  f282 := Tryd.func79.trans (congrArg some (by kernel_rfl))
  f283 := Tryd.func86.trans (congrArg some (by kernel_rfl))
  f284 := Tryd.func87.trans (congrArg some (by kernel_rfl))
  f285 := Tryd.func88.trans (congrArg some (by kernel_rfl))
  f286 := Tryd.func89.trans (congrArg some (by kernel_rfl))
  f287 := Tryd.func90.trans (congrArg some (by kernel_rfl))
  f316 := Tryd.func91.trans (congrArg some (by kernel_rfl))
  f317 := Tryd.func96.trans (congrArg some (by kernel_rfl))
  f318 := Tryd.func98.trans (congrArg some (by kernel_rfl))
  f319 := Tryd.func99.trans (congrArg some (by kernel_rfl))
  f320 := Tryd.func100.trans (congrArg some (by kernel_rfl))
  f321 := Tryd.func101.trans (congrArg some (by kernel_rfl))
  f322 := Tryd.func102.trans (congrArg some (by kernel_rfl))
  f337 := Tryd.func103.trans (congrArg some (by kernel_rfl))
  f338 := Tryd.func104.trans (congrArg some (by kernel_rfl))
  t0 := Tryd.underlying0
  a0 := Tryd.isAgg0
  z0 := Tryd.sizeOf0
  v0 := Tryd.zeroValue0
  t2 := Tryd.underlying2
  a2 := Tryd.isAgg2
  z2 := Tryd.sizeOf2
  v2 := Tryd.zeroValue2
  t3 := Tryd.underlying3
  a3 := Tryd.isAgg3
  z3 := Tryd.sizeOf3
  v3 := Tryd.zeroValue3
  t4 := Tryd.underlying4
  a4 := Tryd.isAgg4
  z4 := Tryd.sizeOf4
  v4 := Tryd.zeroValue4
  t5 := Tryd.underlying5
  a5 := Tryd.isAgg5
  z5 := Tryd.sizeOf5
  v5 := Tryd.zeroValue5
  t9 := Tryd.underlying9
  a9 := Tryd.isAgg9
  z9 := Tryd.sizeOf9
  v9 := Tryd.zeroValue9
  t20 := Tryd.underlying20
  a20 := Tryd.isAgg20
  z20 := Tryd.sizeOf20
  v20 := Tryd.zeroValue20
  t21 := Tryd.underlying21
  a21 := Tryd.isAgg21
  z21 := Tryd.sizeOf21
  v21 := Tryd.zeroValue21
  t37 := Tryd.underlying99
  a37 := Tryd.isAgg99
  z37 := Tryd.sizeOf99
  v37 := Tryd.zeroValue99
  t46 := Tryd.underlying120
  a46 := Tryd.isAgg120
  z46 := Tryd.sizeOf120
  v46 := Tryd.zeroValue120
  t51 := Tryd.underlying140
  a51 := Tryd.isAgg140
  z51 := Tryd.sizeOf140
  v51 := Tryd.zeroValue140
  t53 := Tryd.underlying22
  a53 := Tryd.isAgg22
  z53 := Tryd.sizeOf22
  v53 := Tryd.zeroValue22
  t75 := Tryd.underlying84
  a75 := Tryd.isAgg84
  z75 := Tryd.sizeOf84
  v75 := Tryd.zeroValue84
  t76 := Tryd.underlying85
  a76 := Tryd.isAgg85
  z76 := Tryd.sizeOf85
  v76 := Tryd.zeroValue85
  t85 := Tryd.underlying112
  a85 := Tryd.isAgg112
  z85 := Tryd.sizeOf112
  v85 := Tryd.zeroValue112
  t127 := Tryd.underlying145
  a127 := Tryd.isAgg145
  z127 := Tryd.sizeOf145
  v127 := Tryd.zeroValue145
  t143 := Tryd.underlying146
  a143 := Tryd.isAgg146
  z143 := Tryd.sizeOf146
  v143 := Tryd.zeroValue146
  t145 := Tryd.underlying148
  a145 := Tryd.isAgg148
  z145 := Tryd.sizeOf148
  v145 := Tryd.zeroValue148
  t167 := Tryd.underlying111
  a167 := Tryd.isAgg111
  z167 := Tryd.sizeOf111
  v167 := Tryd.zeroValue111
  t168 := Tryd.underlying114
  a168 := Tryd.isAgg114
  z168 := Tryd.sizeOf114
  v168 := Tryd.zeroValue114
  t171 := Tryd.underlying123
  a171 := Tryd.isAgg123
  z171 := Tryd.sizeOf123
  v171 := Tryd.zeroValue123
  t173 := Tryd.underlying126
  a173 := Tryd.isAgg126
  z173 := Tryd.sizeOf126
  v173 := Tryd.zeroValue126
  t175 := Tryd.underlying128
  a175 := Tryd.isAgg128
  z175 := Tryd.sizeOf128
  v175 := Tryd.zeroValue128
  t210 := Tryd.underlying132
  a210 := Tryd.isAgg132
  z210 := Tryd.sizeOf132
  v210 := Tryd.zeroValue132
  t212 := Tryd.underlying139
  a212 := Tryd.isAgg139
  z212 := Tryd.sizeOf139
  v212 := Tryd.zeroValue139
  t213 := Tryd.underlying141
  a213 := Tryd.isAgg141
  z213 := Tryd.sizeOf141
  t232 := Tryd.underlying151
  a232 := Tryd.isAgg151
  z232 := Tryd.sizeOf151
  v232 := Tryd.zeroValue151
  t233 := Tryd.underlying152
  a233 := Tryd.isAgg152
  z233 := Tryd.sizeOf152
  v233 := Tryd.zeroValue152
  g15 := by kernel_rfl
  g16 := by kernel_rfl
  g17 := by kernel_rfl
  g18 := by kernel_rfl
  g19 := by kernel_rfl
  t80 := Tryd.underlying153
  a80 := Tryd.isAgg153
  z80 := Tryd.sizeOf153
  v80 := Tryd.zeroValue153
  i0 := by kernel_rfl
  i2 := by kernel_rfl
  i3 := by kernel_rfl
  i4 := by kernel_rfl
  i5 := by kernel_rfl
  i9 := by kernel_rfl
  i20 := by kernel_rfl
  i21 := by kernel_rfl
  i37 := by kernel_rfl
  i46 := by kernel_rfl
  i51 := by kernel_rfl
  i53 := by kernel_rfl
  i75 := by kernel_rfl
  i76 := by kernel_rfl
  i80 := by kernel_rfl
  i85 := by kernel_rfl
  i127 := by kernel_rfl
  i143 := by kernel_rfl
  i145 := by kernel_rfl
  i167 := by kernel_rfl
  i168 := by kernel_rfl
  i171 := by kernel_rfl
  i173 := by kernel_rfl
  i175 := by kernel_rfl
  i210 := by kernel_rfl
  i212 := by kernel_rfl
  i232 := by kernel_rfl
  i233 := by kernel_rfl
  m15 := by kernel_rfl
  m16 := by kernel_rfl
  m17 := by kernel_rfl
  m18 := by kernel_rfl
  m19 := by kernel_rfl
  c0 := by kernel_rfl
  c2 := by kernel_rfl
  c3 := by kernel_rfl
  c4 := by kernel_rfl
  c5 := by kernel_rfl
  c9 := by kernel_rfl
  c20 := by kernel_rfl
  c21 := by kernel_rfl
  c37 := by kernel_rfl
  c46 := by kernel_rfl
  c51 := by kernel_rfl
  c53 := by kernel_rfl
  c75 := by kernel_rfl
  c76 := by kernel_rfl
  c80 := by kernel_rfl
  c85 := by kernel_rfl
  c127 := by kernel_rfl
  c143 := by kernel_rfl
  c145 := by kernel_rfl
  c167 := by kernel_rfl
  c168 := by kernel_rfl
  c171 := by kernel_rfl
  c173 := by kernel_rfl
  c175 := by kernel_rfl
  c210 := by kernel_rfl
  c212 := by kernel_rfl
  c213 := by kernel_rfl
  c232 := by kernel_rfl
  c233 := by kernel_rfl }
def Tryd.laysCutPrefix_ren : Go.Shelf.Ren := ⟨fun | 103 => 42 | 210 => 58 | 206 => 74 | n => n, fun | 9 => 9 | 4 => 4 | 24 => 80 | 3 => 3 | n => n, fun | n => n⟩
theorem Tryd.laysCutPrefix : Go.Proofs.Lays.n103 Tryd.prog Tryd.laysCutPrefix_ren := {
  mixed := by kernel_rfl
  f103 := Tryd.func42.trans (congrArg some (by kernel_rfl))
  f206 := Tryd.func74.trans (congrArg some (by kernel_rfl))
  f210 := Tryd.func58.trans (congrArg some (by kernel_rfl))
  t3 := Tryd.underlying3
  a3 := Tryd.isAgg3
  z3 := Tryd.sizeOf3
  v3 := Tryd.zeroValue3
  t4 := Tryd.underlying4
  a4 := Tryd.isAgg4
  z4 := Tryd.sizeOf4
  v4 := Tryd.zeroValue4
  t9 := Tryd.underlying9
  a9 := Tryd.isAgg9
  z9 := Tryd.sizeOf9
  v9 := Tryd.zeroValue9
  t24 := Tryd.underlying80
  a24 := Tryd.isAgg80
  z24 := Tryd.sizeOf80
  v24 := Tryd.zeroValue80 }
def Tryd.laysTrimPrefix_ren : Go.Shelf.Ren := ⟨fun | 101 => 43 | 208 => 59 | 206 => 74 | n => n, fun | 9 => 9 | 4 => 4 | 3 => 3 | n => n, fun | n => n⟩
theorem Tryd.laysTrimPrefix : Go.Proofs.Lays.n101 Tryd.prog Tryd.laysTrimPrefix_ren := {
  mixed := by kernel_rfl
  f101 := Tryd.func43.trans (congrArg some (by kernel_rfl))
  f206 := Tryd.func74.trans (congrArg some (by kernel_rfl))
  f208 := Tryd.func59.trans (congrArg some (by kernel_rfl))
  t3 := Tryd.underlying3
  a3 := Tryd.isAgg3
  z3 := Tryd.sizeOf3
  v3 := Tryd.zeroValue3
  t4 := Tryd.underlying4
  a4 := Tryd.isAgg4
  z4 := Tryd.sizeOf4
  v4 := Tryd.zeroValue4
  t9 := Tryd.underlying9
  a9 := Tryd.isAgg9
  z9 := Tryd.sizeOf9
  v9 := Tryd.zeroValue9 }
end Go.Proofs
namespace Go.Proofs.YtjbnifhpbdjonaaDoor
set_option maxRecDepth 100000
set_option maxHeartbeats 40000000
set_option maxRecDepth 100000
open Go.RowKit WMath
def P10 (w : World) : Prop := Lib.TabIs Tryd.prog w "internal/strconv.uint64pow10" .u64 Lib.pow10Tab
theorem gP10 : Tryd.prog.globalNamed "internal/strconv.uint64pow10" = some 3 := by kernel_rfl
theorem p10B {w w' : World} (h : P10 w) (hb : Below w.heap.size w w') : P10 w' := by
  unfold P10 Lib.TabIs World.var? at h ⊢
  rw [gP10] at h ⊢
  simp only [Option.bind_some] at h ⊢
  have h0 : 3 < w.heap.size := by
    rcases Nat.lt_or_ge 3 w.heap.size with e | e
    · exact e
    · have : w.heap[3]? = none := Array.getElem?_eq_none e
      rw [this] at h
      cases h
  rw [hb.block 3 h0]
  exact h
theorem t_itoa (e : Int) (v : ByteArray) (h0 : -1000000000 ≤ e) (h1 : e ≤ 1000000000) (hv : (⟨(Lib.itoa e).toArray⟩ : ByteArray) = v) (w : World) (hP : P10 w) :
    Calls Tryd.prog 39 #[.int .i64 e] w fun r w' => r = .returned (.string v) ∧ Below w.heap.size w w' := by
  have h := Any.strconv_Itoa Tryd.laysItoa e (by omega) (by omega) w hP
  refine h.mono ?_
  rintro r w' ⟨rfl, k, os, rfl⟩
  rw [hv]
  refine ⟨rfl, rfl, rfl, rfl, ?_, ?_⟩
  · simp [Sort.grow, World.drewN]
  · intro j hj
    simp only [Sort.grow, World.drewN]
    exact Array.getElem?_append_left hj
end Go.Proofs.YtjbnifhpbdjonaaDoor
namespace Go.Proofs.YtjbnifhpbdjonaaDoor
set_option maxRecDepth 100000
set_option maxHeartbeats 40000000
set_option maxRecDepth 100000
open Go.RowKit WMath
set_option linter.unusedSimpArgs false
set_option linter.unusedVariables false
def rh (o : Bool) (R : Nat → Nat) : Array Value := #[Value.bool o] ++ rf R
theorem rh_size (o : Bool) (R : Nat → Nat) : (rh o R).size = 97 := by simp [rh, rf_size]
theorem rh_at0 (o : Bool) (R : Nat → Nat) : (rh o R)[0]? = some (.bool o) := by
  unfold rh
  rw [Array.getElem?_append_left (by simp)]
  rfl
theorem rh_at (o : Bool) (R : Nat → Nat) (k : Nat) (h : k < 96) : (rh o R)[1 + k]? = some (.int .u64 (R k : Nat)) := by
  unfold rh
  rw [Array.getElem?_append_right (by simp), show 1 + k - (#[Value.bool o] : Array Value).size = k by simp, rf_at R k h]
theorem rh_one (o : Bool) (R : Nat → Nat) : (rh o R).all (·.oneCell') = true := by
  unfold rh
  rw [Array.all_append, rf_one, Bool.and_true, Array.all_eq_true_iff_forall_mem]
  intro v hv
  simp only [List.mem_toArray, List.mem_singleton] at hv
  subst hv
  rfl
theorem rh_set (o : Bool) (R : Nat → Nat) (k v : Nat) (hk : k < 96) : (rh o R).setIfInBounds (1 + k) (.int .u64 (v : Nat)) = rh o (up R k v) := by
  apply Array.ext_getElem?
  intro j
  rw [Array.getElem?_setIfInBounds, rh_size]
  by_cases e : 1 + k = j
  · subst e
    rw [if_pos rfl, if_pos (by omega), rh_at _ _ _ hk]
    unfold up
    rw [if_pos rfl]
  · rw [if_neg e]
    rcases Nat.eq_zero_or_pos j with q | q
    · subst q
      rw [rh_at0, rh_at0]
    · obtain ⟨i, rfl⟩ : ∃ i, j = 1 + i := ⟨j - 1, by omega⟩
      by_cases hj : i < 96
      · rw [rh_at _ _ _ hj, rh_at _ _ _ hj]
        unfold up
        rw [if_neg (by omega)]
      · rw [Array.getElem?_eq_none (by rw [rh_size]; omega), Array.getElem?_eq_none (by rw [rh_size]; omega)]
theorem rh_set0 (o : Bool) (R : Nat → Nat) (k : Nat) (hk : k < 96) : (rh o R).setIfInBounds (1 + k) (.int .u64 0) = rh o (up R k 0) := rh_set o R k 0 hk
theorem rh_cell0 {w : World} {b : Nat} {o : Bool} {R : Nat → Nat} {T : TypeId} (h : w.heap[b]? = some (.cells (rh o R) T)) : w.cell? ⟨b, 0, none⟩ = some (.bool o) := cell7 h 0 _ (rh_at0 o R)
theorem rh_cell {w : World} {b : Nat} {o : Bool} {R : Nat → Nat} {T : TypeId} (h : w.heap[b]? = some (.cells (rh o R) T)) (k : Nat) (hk : k < 96) : w.cell? ⟨b, 1 + k, none⟩ = some (.int .u64 (R k : Nat)) := cell7 h (1 + k) _ (rh_at o R k hk)
theorem rh_load {w : World} {b : Nat} {o : Bool} {R : Nat → Nat} {T : TypeId} (h : w.heap[b]? = some (.cells (rh o R) T)) : (loadCellsFrom ⟨b, 0, none⟩ 0 97 #[]).run Tryd.prog w = .ok (rh o R) w := by
  have := run_loadCells_list (P := Tryd.prog) w ⟨b, 0, none⟩ (rh o R).toList (fun j v hv => by
    have hadd : (⟨b, 0, none⟩ : Addr).add j = ⟨b, j, none⟩ := by unfold Addr.add; split <;> simp_all
    rw [hadd]
    exact cell7 h j v (by simpa using hv))
  rw [Array.length_toList, rh_size] at this
  simpa [loadCells] using this
theorem rh_store {w : World} {b : Nat} {o p : Bool} {R S : Nat → Nat} {T : TypeId} (h : w.heap[b]? = some (.cells (rh p S) T)) : (storeCells ⟨b, 0, none⟩ (rh o R).toList 0).run Tryd.prog w = .ok () (w.setRow b (rh o R)) := by
  have := run_storeCells_from (P := Tryd.prog) b T (rh o R).toList 0 (rh p S) w h (by simp [rh_size]) (fun v hv => (Array.all_eq_true_iff_forall_mem.1 (rh_one o R)) v (by simpa using hv))
  have e : List.drop 97 (rh p S).toList = [] := List.drop_eq_nil_of_le (by rw [Array.length_toList, rh_size]; exact Nat.le_refl _)
  simpa [rh_size, e] using this
theorem rh_zero (w : World) : (zeroValue 58).run Tryd.prog w = .ok (.agg (rh false fun _ => 0)) w := (zero_of_info (v := .agg (rh false fun _ => 0)) (n := 97) (by kernel_rfl)).1 w
theorem rh_agg (w : World) : (isAgg 58).run Tryd.prog w = .ok true w := by kernel_rfl
theorem rh_sz (w : World) : (sizeOf 58).run Tryd.prog w = .ok 97 w := by kernel_rfl
theorem rh_lv {w : World} {b : Nat} {o : Bool} {R : Nat → Nat} {T : TypeId} (h : w.heap[b]? = some (.cells (rh o R) T)) : (loadVar 58 ⟨b, 0, none⟩).run Tryd.prog w = .ok (.agg (rh o R)) w := by
  simp only [Sem.run_bind, Sem.run_pure, Result.andThen, loadVar, rh_agg, rh_sz, if_true]
  have q := rh_load h
  simp only [loadCells, Sem.run_map, q, Result.andThen]
theorem rh_la {w : World} {b : Nat} {o : Bool} {R : Nat → Nat} {T : TypeId} (h : w.heap[b]? = some (.cells (rh o R) T)) : (Instr.loadAt 58 (.pointer (some ⟨b, 0, none⟩))).run Tryd.prog w = .ok (.agg (rh o R)) w := by
  simp only [Instr.loadAt, Instr.sureAddr, Sem.run_bind, Sem.run_pure, Result.andThen]
  exact rh_lv h
theorem wp_rh {w : World} {o : Oper} {a : Act} {K : Act → World → Prop} {Q : Exit → Act → World → Prop} (x : Operand) (hop : o.op = Op.load 58 x) {b : Nat} {m : Bool} {R : Nat → Nat} {T : TypeId} (hx : a.eval x = .pointer (some ⟨b, 0, none⟩)) (hr : w.heap[b]? = some (.cells (rh m R) T)) (hK : K (a.put o.dst (.agg (rh m R))) w) : o.wp Tryd.prog a w K Q := by
  have q := rh_la hr
  unfold Oper.wp
  simp [execOp, hop, hx, q, Result.andThen]
  exact hK
theorem wpl_rh {w : World} {ops : Array Oper} {rest : List Oper} {o : Oper} {a : Act} {Q : Exit → Act → World → Prop} (hg : o.guard = none) (x : Operand) (hop : o.op = Op.load 58 x) {b : Nat} {m : Bool} {R : Nat → Nat} {T : TypeId} (hx : a.eval x = .pointer (some ⟨b, 0, none⟩)) (hr : w.heap[b]? = some (.cells (rh m R) T)) (hK : wpList Tryd.prog ops Q rest (a.put o.dst (.agg (rh m R))) w) : wpList Tryd.prog ops Q (o :: rest) a w :=
  wpList_plain hg fun K hK' => wp_rh x hop hx hr (hK' _ _ hK)
theorem rh_range {w : World} {b : Nat} {o : Bool} {R : Nat → Nat} {T : TypeId} (h : w.heap[b]? = some (.cells (rh o R) T)) : w.rangeAt b 1 (rf R).toList := fun j v hv => by
  have hj : j < 96 := by have := (List.getElem?_eq_some_iff.1 hv).1; rw [Array.length_toList, rf_size] at this; exact this
  rw [Array.getElem?_toList, rf_at R j hj] at hv
  exact cell7 h (1 + j) v ((rh_at o R j hj).trans hv)
theorem wp_rhf {w : World} {o : Oper} {a : Act} {K : Act → World → Prop} {Q : Exit → Act → World → Prop} (x : Operand) (hop : o.op = Op.load 28 x) {b : Nat} {m : Bool} {R : Nat → Nat} {T : TypeId} (hx : a.eval x = .pointer (some ⟨b, 1, none⟩)) (hr : w.heap[b]? = some (.cells (rh m R) T)) (hK : K (a.put o.dst (.agg (rf R))) w) : o.wp Tryd.prog a w K Q := by
  refine wp_load_mid 28 x hop b 1 hx (rf R).toList _ (rh_range hr) Tryd.underlying28 rfl (by rw [Array.length_toList, rf_size]; kernel_rfl) ?_
  simpa using hK
theorem wpl_rhf {w : World} {ops : Array Oper} {rest : List Oper} {o : Oper} {a : Act} {Q : Exit → Act → World → Prop} (hg : o.guard = none) (x : Operand) (hop : o.op = Op.load 28 x) {b : Nat} {m : Bool} {R : Nat → Nat} {T : TypeId} (hx : a.eval x = .pointer (some ⟨b, 1, none⟩)) (hr : w.heap[b]? = some (.cells (rh m R) T)) (hK : wpList Tryd.prog ops Q rest (a.put o.dst (.agg (rf R))) w) : wpList Tryd.prog ops Q (o :: rest) a w :=
  wpList_plain hg fun K hK' => wp_rhf x hop hx hr (hK' _ _ hK)
theorem rh_stn (w : World) (o p : Bool) (x y : Nat → Nat) : (storeCells ⟨w.heap.size, 0, none⟩ (rh o x).toList 0).run Tryd.prog (w.alloc (.cells (rh p y) 58)) = .ok () (w.alloc (.cells (rh o x) 58)) :=
  run_storeCells_new (P := Tryd.prog) w 58 (rh p y) (rh o x) (by rw [rh_size]; kernel_rfl) (by rw [rh_size, rh_size]) (rh_one o x)
set_option maxRecDepth 100000 in
theorem rh_build (o : Bool) (R : Nat → Nat) (w : World) : (Instr.build 58 #[(0, .bool o), (1, .agg (rf R))]).run Tryd.prog w = .ok (.agg (rh o R)) w := by kernel_rfl
theorem wp_rhb {w : World} {o : Oper} {a : Act} {K : Act → World → Prop} {Q : Exit → Act → World → Prop} (x y : Operand) (hop : o.op = Op.build 58 #[(0, x), (1, y)]) {m : Bool} {R : Nat → Nat} (hx : a.eval x = .bool m) (hy : a.eval y = .agg (rf R)) (hK : K (a.put o.dst (.agg (rh m R))) w) : o.wp Tryd.prog a w K Q := by
  have q := rh_build m R w
  unfold Oper.wp
  simp [execOp, hop, hx, hy, q, Result.andThen]
  exact hK
theorem wpl_rhb {w : World} {ops : Array Oper} {rest : List Oper} {o : Oper} {a : Act} {Q : Exit → Act → World → Prop} (hg : o.guard = none) (x y : Operand) (hop : o.op = Op.build 58 #[(0, x), (1, y)]) {m : Bool} {R : Nat → Nat} (hx : a.eval x = .bool m) (hy : a.eval y = .agg (rf R)) (hK : wpList Tryd.prog ops Q rest (a.put o.dst (.agg (rh m R))) w) : wpList Tryd.prog ops Q (o :: rest) a w :=
  wpList_plain hg fun K hK' => wp_rhb x y hop hx hy (hK' _ _ hK)
end Go.Proofs.YtjbnifhpbdjonaaDoor
