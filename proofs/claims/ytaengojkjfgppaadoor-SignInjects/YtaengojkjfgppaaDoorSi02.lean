/-
  What the functions that the statement reaches return: part 2 (FrameB, Rlen, List0, List2, List6, Xmath, X1, S1, S2, S3, S4, S5, S6).
-/
import Derived.Lib.BitFns
import Derived.Deep.RegionWith
import Derived.Laws.Cover1
import Derived.Test.YtaengojkjfgppaaDoorSi01
namespace Go.Proofs.YtaengojkjfgppaaDoor
set_option maxRecDepth 100000
set_option maxHeartbeats 40000000
set_option maxRecDepth 100000
open WMath
open Go.ChangeShapes Go.WideShapes Go.ChangeAt Go.RowKit
def dB (H : Type) (b : Nat × Nat) : DataW H := .agg [.lit (.int .u64 (b.1 : Nat)), .lit (.int .u64 (b.2 : Nat))]

theorem list2 {α : Type} (l : List α) (h : (⟨l⟩ : Array α).size = 2) : ∃ a b, l = [a, b] := by
  match l, h with
  | [a, b], _ => exact ⟨a, b, rfl⟩

theorem open_bits {H : Type} {enc : TypeId × Value → H} {w : World} {base b : Nat} {spare : Nat → Bool} {held : Bool} {v : Value} {d : DataW H} {p : List MemPlace}
    (hok : Value.okWide Tryd.prog w .any base 25 v) (h : DataW.Trod enc Tryd.prog w b spare held 25 v d p) : ∃ a : Nat × Nat, (a.1 < 18446744073709551616 ∧ a.2 < 18446744073709551616) ∧ v = bitsV a ∧ d = dB H a ∧ p = [] := by
  have hc : Tryd.prog.cellsOf 25 = 2 := by kernel_rfl
  have hce : Tryd.prog.cellsOf 23 = 1 := by kernel_rfl
  obtain ⟨cs, rfl, hsz⟩ := okWide_struct Tryd.underlying25 hok
  rw [hc] at hsz
  obtain ⟨l⟩ := cs
  obtain ⟨c0, c1, rfl⟩ := list2 l hsz
  obtain ⟨fuel, hf⟩ := h
  obtain ⟨y0, y1, n, hx, _, h0, h1⟩ := trod_struct2 Tryd.underlying25 hf
  simp only [hce] at h0 h1
  obtain ⟨x0, e0, g0, w0⟩ := DataW.trod_int Tryd.underlying23 h0
  obtain ⟨x1, e1, g1, w1⟩ := DataW.trod_int Tryd.underlying23 h1
  simp [Value.cells] at e0 e1
  subst e0 e1
  obtain ⟨a0, b0, rfl⟩ := nat_u64 w0
  obtain ⟨a1, b1, rfl⟩ := nat_u64 w1
  simp only [Prod.mk.injEq] at hx
  refine ⟨(a0, a1), ⟨b0, b1⟩, rfl, ?_, ?_⟩
  · rw [hx.1, g0, g1]; rfl
  · rw [hx.2, g0, g1]; rfl

theorem shut_bits {H : Type} {enc : TypeId × Value → H} {w : World} {b : Nat} {spare : Nat → Bool} {held : Bool} (a : Nat × Nat) (h : a.1 < 18446744073709551616 ∧ a.2 < 18446744073709551616) : DataW.Trod enc Tryd.prog w b spare held 25 (bitsV a) (dB H a) [] := by
  have hc : Tryd.prog.cellsOf 25 = 2 := by kernel_rfl
  have hce : Tryd.prog.cellsOf 23 = 1 := by kernel_rfl
  have k0 := u64_nat _ h.1
  have k1 := u64_nat _ h.2
  refine ⟨2, ?_⟩
  simp [DataW.trod, Value.cells, bitsV, Tryd.underlying25, Tryd.underlying23, hc, hce, k0, k1, dB]

end Go.Proofs.YtaengojkjfgppaaDoor
namespace Go.Proofs.YtaengojkjfgppaaDoor
set_option maxRecDepth 100000
set_option maxHeartbeats 40000000
set_option maxRecDepth 100000
open Go.RowKit WMath
theorem rlen_is (x l : Nat) (hx : x < 18446744073709551616) (hl : blen x = l) (w : World) :
    Calls Tryd.prog 42 #[.int .u64 x] w fun e w' => e = .returned (.int .i64 (l : Nat)) ∧ w' = w := by
  subst hl; rw [← bitLen_blen x hx]; exact rlen_any x hx w

theorem nzf {x : Nat} (h : x = 0) : (((x : Nat) : Int) != 0) = false := by subst h; rfl
theorem nzt {x : Nat} (h : ¬ x = 0) : (((x : Nat) : Int) != 0) = true := by simp; omega

theorem rwlen_any (n : Nat) (hn : n < Q) (w : World) :
    Calls Tryd.prog 25 #[.agg (cw 6 n)] w fun e w' => e = .returned (.int .i64 (blen n : Nat)) ∧ Below w.heap.size w w' := by
  have hat := cw_at 6
  have bz : Below w.heap.size w (w.alloc (.cells (cw 6 n) 48)) := (Below.refl _ _).alloc (Nat.le_refl _) _
  go_enter Tryd.func25, Tryd.ntmps25
  go_wp2
  go_loop [3] (fun iv => ∃ k : Nat, k ≤ 6 ∧ iv = .int .i64 ((k : Int) - 1) ∧ Box (n < 2 ^ (64 * k))) (fun iv => (intOf iv + 1).toNat)
  case atStart => exact ⟨6, by omega, rfl, box (by rw [pwQ 6 rfl]; exact hn)⟩
  case round =>
    obtain ⟨k, hk, rfl, HE⟩ := hrel
    by_cases h0 : k = 0
    · subst h0
      have e : n = 0 := by have := HE.out; rw [Nat.mul_zero, Nat.pow_zero] at this; omega
      subst e
      go_wp2
      go_ret
      exact ⟨rfl, bz⟩
    · obtain ⟨j, rfl⟩ : ∃ j, k = j + 1 := ⟨k - 1, by omega⟩
      have ej : (((j + 1 : Nat) : Int) - 1) = (j : Int) := by omega
      rw [ej]
      have hj6 : j < 6 := by omega
      have hji : (j : Int) < 6 := by omega
      have ST := box (rlen_step n j HE.out)
      by_cases hw : wd n j = 0
      · have y := nzf hw
        have NX := box (ST.out.2 hw)
        clear hw
        go_wp2
        go_round
        case rel => exact ⟨j, by omega, rfl, NX⟩
        case measure => simp [intOf] <;> omega
      · have y := nzt hw
        obtain ⟨b, hb⟩ : ∃ b, blen (wd n j) = b := ⟨_, rfl⟩
        have hb64 : b ≤ 64 := by rw [← hb]; exact blen_le_of _ 64 (by rw [← two64]; exact wd_lt n j)
        have EN : Box (blen n = 64 * j + b) := box (by rw [ST.out.1 hw, hb])
        have HB := box hb
        clear hw hb
        go_wp2_with (go_at_call 42; refine (rlen_is _ b (wd_lt n j) HB.out _).mono ?_; rintro e w' ⟨rfl, rfl⟩)
        go_ret
        exact ⟨ret_int (by rw [EN.out]; simp), bz⟩
def SL (B : Nat) (w : World) (p : Option Addr) (L c n : Nat) : Prop := n < 2 ^ (64 * L) ∧ L ≤ c ∧ (0 < L → ∃ b o, p = some ⟨b, o, none⟩ ∧ b < B ∧ ∀ k, k < L → w.cell? ⟨b, o + k, none⟩ = some (.int .u64 (wd n k : Nat)))
theorem SL.mono {B B' : Nat} {w : World} {p : Option Addr} {L c n : Nat} (h : SL B w p L c n) (hB : B ≤ B') : SL B' w p L c n :=
  ⟨h.1, h.2.1, fun hL => by
    obtain ⟨b, o, hp, hlt, hc⟩ := h.2.2 hL
    exact ⟨b, o, hp, Nat.lt_of_lt_of_le hlt hB, hc⟩⟩
theorem cell_size {w : World} {b o : Nat} {v : Value} (h : w.cell? ⟨b, o, none⟩ = some v) : b < w.heap.size := by
  by_cases e : b < w.heap.size
  · exact e
  · exfalso
    have : w.heap[b]? = none := Array.getElem?_eq_none (by omega)
    simp [World.cell?, this] at h
def Only (g : Nat) (w w' : World) : Prop := w'.os = w.os ∧ w'.tape = w.tape ∧ w'.output = w.output ∧ w.heap.size ≤ w'.heap.size ∧ ∀ k, k < w.heap.size → k ≠ g → w'.heap[k]? = w.heap[k]?
theorem Only.refl (g : Nat) (w : World) : Only g w w := ⟨rfl, rfl, rfl, Nat.le_refl _, fun _ _ _ => rfl⟩
theorem Only.trans {g : Nat} {a b c : World} (h : Only g a b) (k : Only g b c) : Only g a c :=
  ⟨k.1.trans h.1, k.2.1.trans h.2.1, k.2.2.1.trans h.2.2.1, Nat.le_trans h.2.2.2.1 k.2.2.2.1, fun i hi hg => (k.2.2.2.2 i (Nat.lt_of_lt_of_le hi h.2.2.2.1) hg).trans (h.2.2.2.2 i hi hg)⟩
theorem Only.size {g : Nat} {a b : World} (h : Only g a b) : a.heap.size ≤ b.heap.size := h.2.2.2.1
theorem Only.setCell {g o : Nat} {a w : World} (h : Only g a w) (u : Value) : Only g a (w.setCell ⟨g, o, none⟩ u) :=
  h.trans ⟨rfl, rfl, rfl, by simp [World.setCell], fun k _ hg => Below.heap_setCell _ _ _ _ hg⟩
theorem Only.drew {g : Nat} {a w : World} (h : Only g a w) : Only g a w.drew := h.trans ⟨rfl, rfl, rfl, Nat.le_refl _, fun _ _ _ => rfl⟩
theorem Only.row {g b : Nat} {w w' : World} {c : Array Value} {t : TypeId} (k : Only g w w') (hb : b ≠ g) (h : w.heap[b]? = some (.cells c t)) : w'.heap[b]? = some (.cells c t) := by
  rw [k.2.2.2.2 b (Array.getElem?_eq_some_iff.1 h).1 hb, h]
theorem SL.only {B g : Nat} {w w' : World} {p : Option Addr} {L c n : Nat} (h : SL B w p L c n) (k : Only g w w') (hB : B ≤ g) : SL B w' p L c n := by
  refine ⟨h.1, h.2.1, fun hL => ?_⟩
  obtain ⟨b, o, hp, hlt, hc⟩ := h.2.2 hL
  refine ⟨b, o, hp, hlt, fun i hi => ?_⟩
  have h1 := hc i hi
  rw [World.cell?_of_block (w := w) (k.2.2.2.2 b (cell_size h1) (by omega))]
  exact h1

theorem SL.cell {B : Nat} {w : World} {b o L c n : Nat} (h : SL B w (some ⟨b, o, none⟩) L c n) (k x : Nat) (hk : k < L) (hx : wd n k = x) : w.cell? ⟨b, o + k, none⟩ = some (.int .u64 (x : Nat)) := by
  obtain ⟨b', o', e, _, hc⟩ := h.2.2 (by omega)
  simp only [Option.some.injEq, Addr.mk.injEq] at e
  obtain ⟨rfl, rfl, _⟩ := e
  rw [hc k hk, hx]
theorem SL.row {w : World} {b N X c : Nat} {T : TypeId} (r : w.heap[b]? = some (.cells (cw N X) T)) (B : Nat) (hB : b < B) (hX : X < 2 ^ (64 * N)) (hc : N ≤ c) : SL B w (some ⟨b, 0, none⟩) N c X :=
  ⟨hX, hc, fun _ => ⟨b, 0, rfl, hB, fun k hk => by rw [Nat.zero_add, cell_of_row w b k _ _ _ r, cw_at N X k hk]⟩⟩

theorem bal (w : World) (o : Obj) : Below w.heap.size w (w.alloc o) := (Below.refl _ _).alloc (Nat.le_refl _) _
theorem btr {a b c : World} (h : Below a.heap.size a b) (k : Below b.heap.size b c) : Below a.heap.size a c := h.trans (k.mono h.size)

end Go.Proofs.YtaengojkjfgppaaDoor
namespace Go.Proofs.YtaengojkjfgppaaDoor.XMath
set_option maxRecDepth 100000
set_option maxHeartbeats 40000000
set_option maxRecDepth 100000
open WMath
def tz (n : Nat) : Nat := if h : n = 0 ∨ n % 2 = 1 then 0 else tz (n / 2) + 1
termination_by n
decreasing_by omega
def od (n : Nat) : Nat := n / 2 ^ tz n
structure XN where
  b : Bool
  n : Nat
  d : Nat
  e : Int
def XN.can (x : XN) : Prop := nl x.n ≤ 16384 ∧ nl x.d ≤ 16384 ∧ -1048576 ≤ x.e ∧ x.e ≤ 1048576 ∧ ((x.b = false ∧ x.n = 0 ∧ x.d = 1 ∧ x.e = 0) ∨ (x.n % 2 = 1 ∧ x.d % 2 = 1 ∧ Nat.gcd x.n x.d = 1))
def sgn (b : Bool) : Rat := if b then -1 else 1
def XN.val (x : XN) : Rat := sgn x.b * ((x.n : Rat) / (x.d : Rat)) * (2 : Rat) ^ x.e
def X0 : XN := ⟨false, 0, 1, 0⟩
def XZ : XN := ⟨false, 0, 0, 0⟩
theorem XN.can.d {x : XN} (h : x.can) : x.d % 2 = 1 := by rcases h.2.2.2.2 with h | h <;> omega
theorem XN.can.d0 {x : XN} (h : x.can) : x.d ≠ 0 := by have := h.d; omega
def mk (neg : Bool) (n d : Nat) (e : Int) : XN × Int :=
  if n = 0 then (X0, 0)
  else if -1048576 ≤ e + (tz n : Int) - (tz d : Int) ∧ e + (tz n : Int) - (tz d : Int) ≤ 1048576 then (⟨neg, od n / Nat.gcd (od n) (od d), od d / Nat.gcd (od n) (od d), e + (tz n : Int) - (tz d : Int)⟩, 0)
  else (XZ, 4)
theorem p2 (e : Int) : (0 : Rat) < (2 : Rat) ^ e := Rat.zpow_pos (by decide)
def sA (x y : XN) : Nat := x.n * y.d * 2 ^ (x.e - min x.e y.e).toNat
def sS (x y : XN) : Nat := if x.b = y.b then sA x y + sA y x else if sA x y < sA y x then sA y x - sA x y else sA x y - sA y x
end Go.Proofs.YtaengojkjfgppaaDoor.XMath
namespace Go.Proofs.YtaengojkjfgppaaDoor
set_option maxRecDepth 100000
set_option maxHeartbeats 40000000
set_option maxRecDepth 100000
open Go.RowKit WMath XMath
theorem cells4 {w : World} {g : Nat} {T : TypeId} {c : Array Value} (row : w.heap[g]? = some (.cells c T)) (k : Nat) (v : Value) (h : c[k]? = some v) : w.cell? ⟨g, k, none⟩ = some v := by
  rw [cell_of_row w g k _ _ _ row]
  exact h

theorem cells2s {w : World} {g : Nat} {T : TypeId} {a b : Value} (R : w.heap[g]? = some (.cells #[a, b] T)) : w.cell? ⟨g, 0, none⟩ = some a ∧ w.cell? ⟨g, 1, none⟩ = some b := ⟨cells4 R 0 _ rfl, cells4 R 1 _ rfl⟩
theorem opn1 (w : World) (o : Obj) : (w.alloc o).heap[w.heap.size]? = some o ∧ Below w.heap.size w (w.alloc o) := ⟨heap_alloc_last _ _, (Below.refl _ _).alloc (Nat.le_refl _) _⟩
theorem opn2 (w : World) (o1 o2 : Obj) : ((w.alloc o1).alloc o2).heap[w.heap.size]? = some o1 ∧ ((w.alloc o1).alloc o2).heap[w.heap.size + 1]? = some o2 ∧ Below w.heap.size w ((w.alloc o1).alloc o2) := by
  obtain ⟨r0, b⟩ := opn1 w o1
  have z : (w.alloc o1).heap.size = w.heap.size + 1 := by simp only [size_al]
  exact ⟨by rw [heap_below _ _ _ (by omega)]; exact r0, by rw [← z]; exact heap_alloc_last _ _, b.alloc (by omega) _⟩
theorem opn3 (w : World) (o1 o2 o3 : Obj) : (((w.alloc o1).alloc o2).alloc o3).heap[w.heap.size]? = some o1 ∧ (((w.alloc o1).alloc o2).alloc o3).heap[w.heap.size + 1]? = some o2 ∧ (((w.alloc o1).alloc o2).alloc o3).heap[w.heap.size + 1 + 1]? = some o3 ∧ Below w.heap.size w (((w.alloc o1).alloc o2).alloc o3) := by
  obtain ⟨r0, r1, b⟩ := opn2 w o1 o2
  have z : ((w.alloc o1).alloc o2).heap.size = w.heap.size + 1 + 1 := by simp only [size_al]
  exact ⟨by rw [heap_below _ _ _ (by omega)]; exact r0, by rw [heap_below _ _ _ (by omega)]; exact r1, by rw [← z]; exact heap_alloc_last _ _, b.alloc (by omega) _⟩
end Go.Proofs.YtaengojkjfgppaaDoor
namespace Go.Proofs.YtaengojkjfgppaaDoor
set_option maxRecDepth 100000
set_option maxHeartbeats 40000000
set_option maxRecDepth 100000
open Go.RowKit WMath
theorem bal7 (w : World) (o : Obj) : Below w.heap.size w (w.alloc o) := (Below.refl _ _).alloc (Nat.le_refl _) _
theorem btr7 {a b c : World} (h : Below a.heap.size a b) (k : Below b.heap.size b c) : Below a.heap.size a c := h.trans (k.mono h.size)

def fcells : Array Value := #[.int .i64 32, .int .i64 24, .int .i64 127, .string ⟨#[115]⟩, .int .i64 64, .int .i64 53, .int .i64 1023, .string ⟨#[100]⟩, .int .i64 16, .int .i64 11, .int .i64 15, .string ⟨#[104]⟩, .int .i64 128, .int .i64 113, .int .i64 16383, .string ⟨#[113]⟩]
def FAt (w : World) : Prop := ∀ i, i < 16 → w.cell? ⟨0, i, none⟩ = fcells[i]?
theorem fc_some (i : Nat) (h : i < 16) : ∃ v, fcells[i]? = some v := ⟨_, Array.getElem?_eq_getElem (show i < fcells.size from h)⟩
theorem fatB {w w' : World} (h : FAt w) (hb : Below w.heap.size w w') : FAt w' := fun i hi => by
  obtain ⟨v, hv⟩ := fc_some i hi
  rw [hb.cell (p := ⟨0, i, none⟩) (World.block_lt_of_cell? w _ ((h i hi).trans hv))]
  exact h i hi
theorem fat_at {w : World} (h : FAt w) (i : Nat) (v : Value) (hi : i < 16) (hv : fcells[i]? = some v) : w.cell? ⟨0, i, none⟩ = some v := (h i hi).trans hv

theorem fat_al {w : World} (h : FAt w) (o : Obj) : FAt (w.alloc o) := fatB h (bal7 w o)
theorem fat_dr {w : World} (h : FAt w) : FAt w.drew := h

def fW (f : Int) : Int := if f = 0 then 32 else if f = 1 then 64 else if f = 2 then 16 else if f = 3 then 128 else 0
def fP (f : Int) : Int := if f = 0 then 24 else if f = 1 then 53 else if f = 2 then 11 else if f = 3 then 113 else 0
def fE (f : Int) : Int := if f = 0 then 127 else if f = 1 then 1023 else if f = 2 then 15 else if f = 3 then 16383 else 0
def fN (f : Int) : ByteArray := if f = 0 then ⟨#[115]⟩ else if f = 1 then ⟨#[100]⟩ else if f = 2 then ⟨#[104]⟩ else if f = 3 then ⟨#[113]⟩ else ⟨#[]⟩
def fR (f : Int) : Array Value := #[.int .i64 (fW f), .int .i64 (fP f), .int .i64 (fE f), .string (fN f)]
def fC (f : Int) : Int := if f = 0 ∨ f = 1 ∨ f = 2 ∨ f = 3 then 0 else 2

theorem f_cases (f : Int) (h0 : 0 ≤ f) : f = 0 ∨ f = 1 ∨ f = 2 ∨ f = 3 ∨ 4 ≤ f := by omega

theorem s_check (f : Int) (h0 : 0 ≤ f) (h1 : f ≤ 255) (w : World) :
    Calls Tryd.prog 49 #[.int .u8 f] w fun e w' => e = .returned (.int .i64 (fC f)) ∧ w' = w := by
  by_cases h : 4 ≤ f
  · have e : fC f = 2 := by unfold fC; rw [if_neg (by omega)]
    rw [e]
    have hd : decide ((4 : Int) ≤ f) = true := by simp [h]
    go_enter Tryd.func49, Tryd.ntmps49
    go_wp2
    go_ret
    exact ⟨rfl, rfl⟩
  · have e : fC f = 0 := by unfold fC; rw [if_pos (by omega)]
    rw [e]
    have hd : decide ((4 : Int) ≤ f) = false := by simp; omega
    go_enter Tryd.func49, Tryd.ntmps49
    go_wp2
    go_ret
    exact ⟨rfl, rfl⟩

theorem s_check_is (f c : Int) (h0 : 0 ≤ f) (h1 : f ≤ 255) (hc : fC f = c) (w : World) :
    Calls Tryd.prog 49 #[.int .u8 f] w fun e w' => e = .returned (.int .i64 c) ∧ w' = w := by
  subst hc; exact s_check f h0 h1 w

theorem s_of (f : Int) (h0 : 0 ≤ f) (h1 : f ≤ 255) (w : World) (hT : FAt w) :
    Calls Tryd.prog 66 #[.int .u8 f] w fun e w' => e = .returned (.agg #[.int .i64 (fW f), .int .i64 (fP f), .int .i64 (fE f), .string (fN f)]) ∧ w' = w.alloc (.cells (fR f) 79) := by
  have hB := bal7 w (.cells #[.int .i64 0, .int .i64 0, .int .i64 0, .string ⟨#[]⟩] 79)
  have T2 := fatB hT hB
  rcases f_cases f h0 with rfl | rfl | rfl | rfl | h
  · have c0 := fat_at T2 0 (.int .i64 32) (by decide) rfl
    have c1 := fat_at T2 1 (.int .i64 24) (by decide) rfl
    have c2 := fat_at T2 2 (.int .i64 127) (by decide) rfl
    have c3 := fat_at T2 3 (.string ⟨#[115]⟩) (by decide) rfl
    clear T2 hT
    go_enter Tryd.func66, Tryd.ntmps66
    go_wp2_with fail
    refine (s_check_is 0 0 (by omega) (by omega) rfl _).mono ?_
    rintro r w' ⟨rfl, rfl⟩
    go_wp2
    exact bodyPost_ret (v := .agg #[.int .i64 32, .int .i64 24, .int .i64 127, .string ⟨#[115]⟩]) (by simp [results, Tryd.results66, go_sem]) rfl ⟨rfl, rfl⟩
  · have c0 := fat_at T2 4 (.int .i64 64) (by decide) rfl
    have c1 := fat_at T2 5 (.int .i64 53) (by decide) rfl
    have c2 := fat_at T2 6 (.int .i64 1023) (by decide) rfl
    have c3 := fat_at T2 7 (.string ⟨#[100]⟩) (by decide) rfl
    clear T2 hT
    go_enter Tryd.func66, Tryd.ntmps66
    go_wp2_with fail
    refine (s_check_is 1 0 (by omega) (by omega) rfl _).mono ?_
    rintro r w' ⟨rfl, rfl⟩
    go_wp2
    exact bodyPost_ret (v := .agg #[.int .i64 64, .int .i64 53, .int .i64 1023, .string ⟨#[100]⟩]) (by simp [results, Tryd.results66, go_sem]) rfl ⟨rfl, rfl⟩
  · have c0 := fat_at T2 8 (.int .i64 16) (by decide) rfl
    have c1 := fat_at T2 9 (.int .i64 11) (by decide) rfl
    have c2 := fat_at T2 10 (.int .i64 15) (by decide) rfl
    have c3 := fat_at T2 11 (.string ⟨#[104]⟩) (by decide) rfl
    clear T2 hT
    go_enter Tryd.func66, Tryd.ntmps66
    go_wp2_with fail
    refine (s_check_is 2 0 (by omega) (by omega) rfl _).mono ?_
    rintro r w' ⟨rfl, rfl⟩
    go_wp2
    exact bodyPost_ret (v := .agg #[.int .i64 16, .int .i64 11, .int .i64 15, .string ⟨#[104]⟩]) (by simp [results, Tryd.results66, go_sem]) rfl ⟨rfl, rfl⟩
  · have c0 := fat_at T2 12 (.int .i64 128) (by decide) rfl
    have c1 := fat_at T2 13 (.int .i64 113) (by decide) rfl
    have c2 := fat_at T2 14 (.int .i64 16383) (by decide) rfl
    have c3 := fat_at T2 15 (.string ⟨#[113]⟩) (by decide) rfl
    clear T2 hT
    go_enter Tryd.func66, Tryd.ntmps66
    go_wp2_with fail
    refine (s_check_is 3 0 (by omega) (by omega) rfl _).mono ?_
    rintro r w' ⟨rfl, rfl⟩
    go_wp2
    exact bodyPost_ret (v := .agg #[.int .i64 128, .int .i64 113, .int .i64 16383, .string ⟨#[113]⟩]) (by simp [results, Tryd.results66, go_sem]) rfl ⟨rfl, rfl⟩
  · have hd : decide ((4 : Int) ≤ f) = true := by simp [h]
    have e0 : fW f = 0 := by unfold fW; rw [if_neg (by omega), if_neg (by omega), if_neg (by omega), if_neg (by omega)]
    have e1 : fP f = 0 := by unfold fP; rw [if_neg (by omega), if_neg (by omega), if_neg (by omega), if_neg (by omega)]
    have e2 : fE f = 0 := by unfold fE; rw [if_neg (by omega), if_neg (by omega), if_neg (by omega), if_neg (by omega)]
    have e3 : fN f = ⟨#[]⟩ := by unfold fN; rw [if_neg (by omega), if_neg (by omega), if_neg (by omega), if_neg (by omega)]
    have e4 : fC f = 2 := by unfold fC; rw [if_neg (by omega)]
    have e5 : fR f = #[.int .i64 0, .int .i64 0, .int .i64 0, .string ⟨#[]⟩] := by unfold fR; rw [e0, e1, e2, e3]
    rw [e0, e1, e2, e3, e5]
    clear T2 hT e0 e1 e2 e3 e5
    go_enter Tryd.func66, Tryd.ntmps66
    go_wp2_with fail
    refine (s_check_is f 2 (by omega) (by omega) e4 _).mono ?_
    rintro r w' ⟨rfl, rfl⟩
    go_wp2
    exact bodyPost_ret (v := .agg #[.int .i64 0, .int .i64 0, .int .i64 0, .string ⟨#[]⟩]) (by simp [results, Tryd.results66, go_sem]) rfl ⟨rfl, rfl⟩

theorem s_of_is (f w0 p0 m0 : Int) (n0 : ByteArray) (h0 : 0 ≤ f) (h1 : f ≤ 255) (hw : fW f = w0) (hp : fP f = p0) (he : fE f = m0) (hn : fN f = n0) (w : World) (hT : FAt w) :
    Calls Tryd.prog 66 #[.int .u8 f] w fun e w' => e = .returned (.agg #[.int .i64 w0, .int .i64 p0, .int .i64 m0, .string n0]) ∧ w' = w.alloc (.cells (fR f) 79) := by
  subst hw hp he hn
  exact s_of f h0 h1 w hT

theorem fld0 (a b c d : Value) (w : World) : (Instr.field 79 (.agg #[a, b, c, d]) 0).run Tryd.prog w = .ok a w := by kernel_rfl
theorem fld1 (a b c d : Value) (w : World) : (Instr.field 79 (.agg #[a, b, c, d]) 1).run Tryd.prog w = .ok b w := by kernel_rfl
theorem s_width (f v : Int) (h0 : 0 ≤ f) (h1 : f ≤ 255) (hv : fW f = v) (w : World) (hT : FAt w) :
    Calls Tryd.prog 50 #[.int .u8 f] w fun e w' => e = .returned (.int .i64 v) ∧ w' = w.alloc (.cells (fR f) 79) := by
  have hl := fld0
  go_enter Tryd.func50, Tryd.ntmps50
  go_wp2_with fail
  refine (s_of_is f v _ _ _ h0 h1 hv rfl rfl rfl _ hT).mono ?_
  rintro r w2 ⟨rfl, rfl⟩
  go_wp2
  go_ret
  exact ⟨rfl, rfl⟩
theorem s_precision (f v : Int) (h0 : 0 ≤ f) (h1 : f ≤ 255) (hv : fP f = v) (w : World) (hT : FAt w) :
    Calls Tryd.prog 71 #[.int .u8 f] w fun e w' => e = .returned (.int .i64 v) ∧ w' = w.alloc (.cells (fR f) 79) := by
  have hl := fld1
  go_enter Tryd.func71, Tryd.ntmps71
  go_wp2_with fail
  refine (s_of_is f _ v _ _ h0 h1 rfl hv rfl rfl _ hT).mono ?_
  rintro r w2 ⟨rfl, rfl⟩
  go_wp2
  go_ret
  exact ⟨rfl, rfl⟩
def rHi (x n : Int) : Int := bits .or .u64 (IntKind.u64.wrap (x * 2 ^ min (IntKind.u64.wrap (n - 64)).toNat 64)) (x / 2 ^ min (IntKind.u64.wrap (64 - n)).toNat 64)
def rLo (x n : Int) : Int := IntKind.u64.wrap (x * 2 ^ min n.toNat 64)

theorem cell7 {w : World} {g : Nat} {T : TypeId} {c : Array Value} (row : w.heap[g]? = some (.cells c T)) (k : Nat) (v : Value) (h : c[k]? = some v) : w.cell? ⟨g, k, none⟩ = some v := by
  simp [World.cell?, row, h]
theorem set2_below {n : Nat} {w wr : World} {b : Nat} (h : Below n w wr) (hb : n ≤ b) (v0 v1 : Value) : Below n w ((wr.setCell ⟨b, 0, none⟩ v0).setCell ⟨b, 1, none⟩ v1) := (h.setCell (by exact hb) _).setCell (by exact hb) _
theorem set2_row {w : World} {b : Nat} {c0 c1 : Value} {T : TypeId} (h : w.heap[b]? = some (.cells #[c0, c1] T)) (v0 v1 : Value) :
    ((w.setCell ⟨b, 0, none⟩ v0).setCell ⟨b, 1, none⟩ v1).heap[b]? = some (.cells #[v0, v1] T) := by
  rw [setCell_row (setCell_row h)]; rfl
theorem set2_cells {w : World} {b : Nat} {c0 c1 : Value} {T : TypeId} (h : w.heap[b]? = some (.cells #[c0, c1] T)) (v0 v1 : Value) :
    ((w.setCell ⟨b, 0, none⟩ v0).setCell ⟨b, 1, none⟩ v1).cell? ⟨b, 0, none⟩ = some v0 ∧ ((w.setCell ⟨b, 0, none⟩ v0).setCell ⟨b, 1, none⟩ v1).cell? ⟨b, 1, none⟩ = some v1 := by
  have r := set2_row h v0 v1
  exact ⟨cell7 r 0 _ rfl, cell7 r 1 _ rfl⟩
theorem last7 (w : World) (o : Obj) : (w.alloc o).heap[w.heap.size]? = some o := heap_alloc_last w o

def b2 (a b : Int) : Array Value := #[.int .u64 a, .int .u64 b]

theorem s_raised (x n H L : Int) (h0 : 0 ≤ n) (h1 : n ≤ 18446744073709551615) (hH : rHi x n = H) (hL : rLo x n = L) (w : World) :
    Calls Tryd.prog 67 #[.int .u64 x, .int .u64 n] w fun e w' => e = .returned (.agg #[.int .u64 H, .int .u64 L]) ∧ w' = w.alloc (.cells #[.int .u64 H, .int .u64 L] 25) := by
  obtain ⟨m, rfl⟩ := Int.eq_ofNat_of_zero_le h0
  subst hH hL
  go_enter Tryd.func67, Tryd.ntmps67
  go_wp2
  exact bodyPost_ret (v := .agg #[.int .u64 (rHi x m), .int .u64 (rLo x m)]) (by simp [results, Tryd.results67, go_sem, rHi, rLo]) rfl ⟨rfl, by simp [rHi, rLo]⟩

theorem s_join (a b c d H L : Int) (hH : bits .or .u64 a c = H) (hL : bits .or .u64 b d = L) (w : World) :
    Calls Tryd.prog 74 #[.agg #[.int .u64 a, .int .u64 b], .agg #[.int .u64 c, .int .u64 d]] w fun e w' => e = .returned (.agg #[.int .u64 H, .int .u64 L]) ∧ w' = ((w.alloc (.cells #[.int .u64 a, .int .u64 b] 25)).alloc (.cells #[.int .u64 c, .int .u64 d] 25)).alloc (.cells #[.int .u64 H, .int .u64 L] 25) := by
  go_enter Tryd.func74, Tryd.ntmps74
  go_wp2
  exact bodyPost_ret (v := .agg #[.int .u64 H, .int .u64 L]) (by simp [results, Tryd.results74, go_sem]) rfl ⟨rfl, rfl⟩

theorem s_ones (n H L : Int) (h0 : 0 ≤ n) (h1 : n ≤ 18446744073709551615) (hH : rHi 1 n = H) (hL : rLo 1 n = L) (K M : Int) (hK : (if L = 0 then IntKind.u64.wrap (H - 1) else H) = K) (hM : IntKind.u64.wrap (L - 1) = M) (w : World) :
    Calls Tryd.prog 51 #[.int .u64 n] w fun e w' => e = .returned (.agg #[.int .u64 K, .int .u64 M]) ∧ Below w.heap.size w w' := by
  by_cases hz : L = 0
  · have hd : (L == 0) = true := by simp [hz]
    rw [if_pos hz] at hK
    subst hz
    rw [show (0 : Int) - 1 = -1 by decide] at hM
    go_enter Tryd.func51, Tryd.ntmps51
    go_wp2_with fail
    refine (s_raised 1 n H _ h0 h1 hH hL _).mono ?_
    rintro r w2 ⟨rfl, rfl⟩
    go_wp2
    exact bodyPost_ret (v := .agg #[.int .u64 K, .int .u64 M]) (by simp [results, Tryd.results51, go_sem]) rfl ⟨rfl, (((Below.refl _ _).alloc (Nat.le_refl _) _).alloc (by simp only [size_al]; omega) _).alloc (by simp only [size_al]; omega) _⟩
  · have hd : (L == 0) = false := by simp [hz]
    rw [if_neg hz] at hK
    subst hK
    go_enter Tryd.func51, Tryd.ntmps51
    go_wp2_with fail
    refine (s_raised 1 n H _ h0 h1 hH hL _).mono ?_
    rintro r w2 ⟨rfl, rfl⟩
    go_wp2
    exact bodyPost_ret (v := .agg #[.int .u64 H, .int .u64 M]) (by simp [results, Tryd.results51, go_sem]) rfl ⟨rfl, (((Below.refl _ _).alloc (Nat.le_refl _) _).alloc (by simp only [size_al]; omega) _).alloc (by simp only [size_al]; omega) _⟩

theorem s_fraction (f p v : Int) (h0 : 0 ≤ f) (h1 : f ≤ 255) (hp : fP f = p) (hv : IntKind.u64.wrap (p - 1) = v) (w : World) (hT : FAt w) :
    Calls Tryd.prog 75 #[.int .u8 f] w fun e w' => e = .returned (.int .u64 v) ∧ w' = w.alloc (.cells (fR f) 79) := by
  have hm2 : 0 ≤ p ∧ p ≤ 113 := by rw [← hp]; unfold fP; split <;> (try split) <;> (try split) <;> (try split) <;> omega
  have hw : IntKind.i64.wrap (p - 1) = p - 1 := by rw [IntKind.wrap_i64]; omega
  go_enter Tryd.func75, Tryd.ntmps75
  go_wp2_with fail
  refine (s_precision f p h0 h1 hp _ hT).mono ?_
  rintro r w2 ⟨rfl, rfl⟩
  go_wp2
  go_ret
  exact ⟨rfl, rfl⟩

theorem s_top (f q p d v : Int) (h0 : 0 ≤ f) (h1 : f ≤ 255) (hq : fW f = q) (hp : fP f = p) (hd : q - p = d) (h2 : 0 ≤ d) (hv : IntKind.u64.wrap (IntKind.u64.wrap (2 ^ min d.toNat 64) - 1) = v) (w : World) (hT : FAt w) :
    Calls Tryd.prog 73 #[.int .u8 f] w fun e w' => e = .returned (.int .u64 v) ∧ Below w.heap.size w w' := by
  have hm1 : 0 ≤ q ∧ q ≤ 128 := by rw [← hq]; unfold fW; split <;> (try split) <;> (try split) <;> (try split) <;> omega
  have hm2 : 0 ≤ p ∧ p ≤ 113 := by rw [← hp]; unfold fP; split <;> (try split) <;> (try split) <;> (try split) <;> omega
  go_enter Tryd.func73, Tryd.ntmps73
  go_wp2_with fail
  refine (s_width f q h0 h1 hq _ hT).mono ?_
  rintro r w2 ⟨rfl, rfl⟩
  go_wp2_with fail
  refine (s_precision f p h0 h1 hp _ (fatB hT (bal7 _ _))).mono ?_
  rintro r w3 ⟨rfl, rfl⟩
  go_wp2
  go_ret
  exact ⟨rfl, btr7 (bal7 _ _) (bal7 _ _)⟩

def pV (f : Int) : Nat := (fP f).toNat - 1
def wV (f : Int) : Nat := (fW f).toNat - 1
def oV (f : Int) : Nat := 2 * (fE f).toNat + 1
def enc7 (f : Int) (neg : Bool) (e t : Nat) : Nat := e * 2 ^ pV f + t + (if neg then 2 ^ wV f else 0)
def bv7 (v : Nat) : Nat × Nat := (v / 18446744073709551616, v % 18446744073709551616)
def eInf (f : Int) (neg : Bool) : Nat := enc7 f neg (oV f) 0
def eZero (f : Int) (neg : Bool) : Nat := enc7 f neg 0 0
def Is4 (f : Int) : Prop := f = 0 ∨ f = 1 ∨ f = 2 ∨ f = 3
theorem is4_ok {f : Int} (h : Is4 f) : 0 ≤ f ∧ f ≤ 255 ∧ fC f = 0 ∧ 0 ≤ fW f - fP f := by
  rcases h with rfl | rfl | rfl | rfl <;> decide +kernel

def R7 (w : World) (I J : Int) (w5 : World) (g : Nat) : Prop := Below w.heap.size w w5 ∧ w5.heap[g]? = some (.cells #[.int .u64 I, .int .u64 J] 25) ∧ w5.heap[w.heap.size + 1]? = some (.cells #[.int .u64 0, .int .u64 0] 25) ∧ w.heap.size + 1 < g
theorem cut7 {G C : Prop} (h : G → C) (k : G) : C := h k
theorem bel_al {w W : World} (h : Below w.heap.size w W) (o : Obj) : Below w.heap.size w (W.alloc o) := btr7 h (bal7 _ _)
theorem bel_dr {w W : World} (h : Below w.heap.size w W) : Below w.heap.size w W.drew := h.drew
theorem row_al {W : World} {b : Nat} {o : Obj} (h : W.heap[b]? = some o) (o' : Obj) : (W.alloc o').heap[b]? = some o := by
  rw [heap_below W b o' (Array.getElem?_eq_some_iff.1 h).1]; exact h
theorem row_dr {W : World} {b : Nat} {o : Obj} (h : W.heap[b]? = some o) : W.drew.heap[b]? = some o := h
theorem row_last {W : World} {b : Nat} {o : Obj} (h : b = W.heap.size) : (W.alloc o).heap[b]? = some o := by subst h; exact heap_alloc_last W o
theorem gen7 {X : Act → World → Prop} {t0 t1 t2 t3 t4 t5 t6 t7 t8 t10 t11 t12 t13 t14 t15 t16 t17 t18 t19 t20 t21 t22 t23 t24 t25 t26 t27 t28 : Value} {d : List Deferred} {w W : World} {I J : Int} {G : Nat}
    (key : ∀ w5 g, R7 w I J w5 g → X ⟨#[t0, t1, t2, t3, t4, t5, t6, t7, t8, .pointer (some ⟨g, 0, none⟩), t10, t11, t12, t13, t14, t15, t16, t17, t18, t19, t20, t21, t22, t23, t24, t25, t26, t27, t28], d⟩ w5) (r : R7 w I J W G) :
    X ⟨#[t0, t1, t2, t3, t4, t5, t6, t7, t8, .pointer (some ⟨G, 0, none⟩), t10, t11, t12, t13, t14, t15, t16, t17, t18, t19, t20, t21, t22, t23, t24, t25, t26, t27, t28], d⟩ W := key W G r

set_option maxHeartbeats 40000000 in
theorem s_pack_any (f x a b p n H L I J q m M N I' J' : Int) (neg : Bool) (h0 : 0 ≤ f) (h1 : f ≤ 255) (hc : fC f = 0) (hp : fP f = p) (hn : IntKind.u64.wrap (p - 1) = n) (n0 : 0 ≤ n) (n1 : n ≤ 18446744073709551615)
    (hH : rHi x n = H) (hL : rLo x n = L) (hI : bits .or .u64 H a = I) (hJ : bits .or .u64 L b = J) (hq : fW f = q) (hm : q - 1 = m) (m0 : 0 ≤ m) (m1 : m ≤ 127) (hM : rHi 1 m = M) (hN : rLo 1 m = N) (hI' : bits .or .u64 I M = I') (hJ' : bits .or .u64 J N = J') (w : World) (hT : FAt w) :
    Calls Tryd.prog 69 #[.int .u8 f, .bool neg, .int .u64 x, .agg #[.int .u64 a, .int .u64 b]] w fun e w' => e = .returned (.agg #[.int .u64 (if neg then I' else I), .int .u64 (if neg then J' else J)]) ∧ Below w.heap.size w w' := by
  have k1 : Box (∀ w : World, FAt w → Calls Tryd.prog 75 #[.int .u8 f] w fun e w' => e = .returned (.int .u64 n) ∧ w' = w.alloc (.cells (fR f) 79)) := box (fun w hw => s_fraction f p n h0 h1 hp hn w hw)
  have k2 := box (s_raised x n H L n0 n1 hH hL)
  have k3 := box (s_join H L a b I J hI hJ)
  have k0 := box (s_check_is f 0 h0 h1 hc)
  have k4 : Box (∀ w : World, FAt w → Calls Tryd.prog 50 #[.int .u8 f] w fun e w' => e = .returned (.int .i64 q) ∧ w' = w.alloc (.cells (fR f) 79)) := box (fun w hw => s_width f q h0 h1 hq w hw)
  have k5 := box (s_raised 1 m M N m0 (by omega) hM hN)
  have k6 := box (s_join I J M N I' J' hI' hJ')
  have T0 := box hT
  have TT := box (fatB hT (btr7 (bal7 w (.cells #[.int .u64 a, .int .u64 b] 25)) (bal7 _ (.cells #[.int .u64 0, .int .u64 0] 25))))
  have e1 : IntKind.i64.wrap (q - 1) = m := by rw [hm, IntKind.wrap_i64]; omega
  have e2 : IntKind.u64.wrap m = m := by rw [IntKind.wrap_u64]; omega
  have e3 : IntKind.i64.wrap m = m := by rw [IntKind.wrap_i64]; omega
  clear hT hp hn hH hL hI hJ hc h0 h1 n0 n1 hq hM hN hI' hJ' m0 m1 hm
  go_enter Tryd.func69, Tryd.ntmps69
  go_wp2_with fail
  refine (k0.out _).mono ?_
  rintro r w' ⟨rfl, rfl⟩
  go_wp2_with fail
  apply cut7
  · intro key
    go_region_with (first
      | (go_at_call 75; refine (k1.out _ (by repeat (first | exact TT.out | refine fat_al ?_ _ | refine fat_dr ?_))).mono ?_; rintro r w2 ⟨rfl, rfl⟩)
      | (go_at_call 67; refine (k2.out _).mono ?_; rintro r w2 ⟨rfl, rfl⟩)
      | (go_at_call 74; refine (k3.out _).mono ?_; rintro r w2 ⟨rfl, rfl⟩))
    all_goals
      refine gen7 (w := w) (I := I) (J := J) key ⟨?_, ?_, ?_, ?_⟩
      · repeat (first | exact Below.refl _ _ | refine bel_dr ?_ | refine bel_al ?_ _)
      · repeat (first | refine row_dr ?_ | (refine row_last ?_; simp only [size_al]; done) | refine row_al ?_ _)
      · repeat (first | refine row_dr ?_ | (refine row_last ?_; simp only [size_al]; done) | refine row_al ?_ _)
      · omega
  rintro w5 g ⟨B5, R5, S5, hg⟩
  have F5 := box (fatB T0.out B5)
  have c50 := cell7 R5 0 _ rfl
  have c51 := cell7 R5 1 _ rfl
  cases neg
  · have q0 := fz (k := 0) S5
    have q1 := fz (k := 1) S5
    have d0 := cell7 S5 0 _ rfl
    have d1 := cell7 S5 1 _ rfl
    obtain ⟨E0, E1⟩ := set2_cells S5 (.int .u64 I) (.int .u64 J)
    go_wp2
    exact bodyPost_ret (v := .agg #[.int .u64 I, .int .u64 J]) (by simp [results, Tryd.results69, go_sem, E0, E1]) rfl ⟨rfl, set2_below B5 (by omega) _ _⟩
  · have r1 := row_al R5 (.cells (fR f) 79)
    have r2 := row_al r1 (.cells #[.int .u64 M, .int .u64 N] 25)
    have r5 := row_al (row_al (row_al r2 (.cells #[.int .u64 I, .int .u64 J] 25)) (.cells #[.int .u64 M, .int .u64 N] 25)) (.cells #[.int .u64 I', .int .u64 J'] 25)
    have s5 := row_al (row_al (row_al (row_al (row_al S5 (.cells (fR f) 79)) (.cells #[.int .u64 M, .int .u64 N] 25)) (.cells #[.int .u64 I, .int .u64 J] 25)) (.cells #[.int .u64 M, .int .u64 N] 25)) (.cells #[.int .u64 I', .int .u64 J'] 25)
    have Q5 : Box (R7 w I' J' _ g) := box ⟨set2_below (bel_al (bel_al (bel_al (bel_al (bel_al B5 _) _) _) _) _) (by omega) (.int .u64 I') (.int .u64 J'), set2_row r5 _ _, by rw [setCell_other (by omega), setCell_other (by omega)]; exact s5, hg⟩
    have c10 := cell7 r1 0 _ rfl
    have c11 := cell7 r1 1 _ rfl
    have c20 := cell7 r2 0 _ rfl
    have c21 := cell7 r2 1 _ rfl
    have q0 := fz (k := 0) r5
    have q1 := fz (k := 1) r5
    have e50 := cell7 r5 0 _ rfl
    have e51 := cell7 r5 1 _ rfl
    clear r1 r2 r5 s5
    go_wp2_with fail
    apply cut7
    · intro key
      go_region_with (first
        | (go_at_call 50; refine (k4.out _ (by repeat (first | exact F5.out | refine fat_al ?_ _ | refine fat_dr ?_))).mono ?_; rintro r w2 ⟨rfl, rfl⟩)
        | (go_at_call 67; refine (k5.out _).mono ?_; rintro r w2 ⟨rfl, rfl⟩)
        | (go_at_call 74; refine (k6.out _).mono ?_; rintro r w2 ⟨rfl, rfl⟩))
      all_goals
        refine gen7 (w := w) (I := I') (J := J') key ?_
        exact ⟨bel_dr Q5.out.1, row_dr Q5.out.2.1, row_dr Q5.out.2.2.1, hg⟩
    clear R5 S5 F5 c50 c51 c10 c11 c20 c21 q0 q1 e50 e51 B5
    rintro w6 g6 ⟨B6, R6, S6, hg6⟩
    have c60 := cell7 R6 0 _ rfl
    have c61 := cell7 R6 1 _ rfl
    have q0 := fz (k := 0) S6
    have q1 := fz (k := 1) S6
    have d0 := cell7 S6 0 _ rfl
    have d1 := cell7 S6 1 _ rfl
    obtain ⟨E0, E1⟩ := set2_cells S6 (.int .u64 I') (.int .u64 J')
    go_wp2
    exact bodyPost_ret (v := .agg #[.int .u64 I', .int .u64 J']) (by simp [results, Tryd.results69, go_sem, E0, E1]) rfl ⟨rfl, set2_below B6 (by omega) _ _⟩
def pkHi (f : Int) (neg : Bool) (x a : Int) : Int := if neg then bits .or .u64 (bits .or .u64 (rHi x (IntKind.u64.wrap (fP f - 1))) a) (rHi 1 (fW f - 1)) else bits .or .u64 (rHi x (IntKind.u64.wrap (fP f - 1))) a
def pkLo (f : Int) (neg : Bool) (x b : Int) : Int := if neg then bits .or .u64 (bits .or .u64 (rLo x (IntKind.u64.wrap (fP f - 1))) b) (rLo 1 (fW f - 1)) else bits .or .u64 (rLo x (IntKind.u64.wrap (fP f - 1))) b

theorem s_pack_is (f x a b I J : Int) (neg : Bool) (hf : Is4 f) (hI : pkHi f neg x a = I) (hJ : pkLo f neg x b = J) (w : World) (hT : FAt w) :
    Calls Tryd.prog 69 #[.int .u8 f, .bool neg, .int .u64 x, .agg #[.int .u64 a, .int .u64 b]] w fun e w' => e = .returned (.agg #[.int .u64 I, .int .u64 J]) ∧ Below w.heap.size w w' := by
  subst hI hJ
  have k : 0 ≤ IntKind.u64.wrap (fP f - 1) ∧ IntKind.u64.wrap (fP f - 1) ≤ 18446744073709551615 ∧ 0 ≤ fW f - 1 ∧ fW f - 1 ≤ 127 ∧ fC f = 0 ∧ 0 ≤ f ∧ f ≤ 255 := by
    rcases hf with rfl | rfl | rfl | rfl <;> decide +kernel
  have h := s_pack_any f x a b _ _ _ _ _ _ _ _ _ _ _ _ neg k.2.2.2.2.2.1 k.2.2.2.2.2.2 k.2.2.2.2.1 rfl rfl k.1 k.2.1 rfl rfl rfl rfl rfl rfl k.2.2.1 k.2.2.2.1 rfl rfl rfl rfl w hT
  refine h.mono ?_
  rintro r w' ⟨rfl, b⟩
  refine ⟨?_, b⟩
  cases neg <;> rfl

theorem top7 {f : Int} (h : Is4 f) : IntKind.u64.wrap (IntKind.u64.wrap (2 ^ min (fW f - fP f).toNat 64) - 1) = (oV f : Int) := by
  rcases h with rfl | rfl | rfl | rfl <;> decide +kernel

theorem s_top_is (f : Int) (hf : Is4 f) (w : World) (hT : FAt w) :
    Calls Tryd.prog 73 #[.int .u8 f] w fun e w' => e = .returned (.int .u64 (oV f : Nat)) ∧ Below w.heap.size w w' :=
  s_top f _ _ _ _ (is4_ok hf).1 (is4_ok hf).2.1 rfl rfl rfl (is4_ok hf).2.2.2 (top7 hf) w hT

theorem pk_Inf {f : Int} (h : Is4 f) (neg : Bool) : pkHi f neg ((oV f : Nat)) (0) = ((bv7 (eInf f neg)).1 : Nat) ∧ pkLo f neg ((oV f : Nat)) (0) = ((bv7 (eInf f neg)).2 : Nat) := by
  rcases h with rfl | rfl | rfl | rfl <;> cases neg <;> decide +kernel
theorem pk_Zero {f : Int} (h : Is4 f) (neg : Bool) : pkHi f neg (0) (0) = ((bv7 (eZero f neg)).1 : Nat) ∧ pkLo f neg (0) (0) = ((bv7 (eZero f neg)).2 : Nat) := by
  rcases h with rfl | rfl | rfl | rfl <;> cases neg <;> decide +kernel
set_option maxHeartbeats 1000000 in
theorem s_inf (f : Int) (neg : Bool) (hf : Is4 f) (v : Nat) (hv : eInf f neg = v) (w : World) (hT : FAt w) :
    Calls Tryd.prog 63 #[.int .u8 f, .bool neg] w fun e w' => e = .returned (bitsV (bv7 v)) ∧ Below w.heap.size w w' := by
  subst hv
  have TT := box hT
  have P := box (pk_Inf hf neg)
  obtain ⟨x, y, hxy⟩ : ∃ x y, bv7 (eInf f neg) = (x, y) := ⟨_, _, rfl⟩
  rw [hxy] at P ⊢
  have e0 : bitsV (x, y) = .agg #[.int .u64 (x : Nat), .int .u64 (y : Nat)] := rfl
  rw [e0]
  have f4 := is4_ok hf
  clear hxy hT e0
  have R0 : (w.alloc (.cells #[.int .u64 0, .int .u64 0] 25)).heap[w.heap.size]? = some (.cells #[.int .u64 0, .int .u64 0] 25) := last7 _ _
  have B0 := bal7 w (.cells #[.int .u64 0, .int .u64 0] 25)
  go_enter Tryd.func63, Tryd.ntmps63
  go_wp2_with fail
  refine (s_top_is f hf _ (fatB TT.out B0)).mono ?_
  rintro r w1 ⟨rfl, b1⟩
  have B1 := btr7 B0 b1
  have R1 := heap_of b1 _ _ _ R0
  clear B0 R0 b1
  go_wp2_with fail
  refine (s_pack_is f _ 0 0 _ _ neg hf P.out.1 P.out.2 _ (fatB TT.out B1)).mono ?_
  rintro r w2 ⟨rfl, b2⟩
  have B2 := btr7 B1 b2
  have R2 := heap_of b2 _ _ _ R1
  clear B1 R1 b2
  have q0 := fz (k := 0) R2
  have q1 := fz (k := 1) R2
  have d0 := cell7 R2 0 _ rfl
  have d1 := cell7 R2 1 _ rfl
  obtain ⟨E0, E1⟩ := set2_cells R2 (.int .u64 x) (.int .u64 y)
  go_wp2
  exact bodyPost_ret (v := .agg #[.int .u64 x, .int .u64 y]) (by simp [results, Tryd.results63, go_sem, E0, E1]) rfl ⟨rfl, set2_below B2 (by omega) _ _⟩

set_option maxHeartbeats 1000000 in
theorem s_zero (f : Int) (neg : Bool) (hf : Is4 f) (v : Nat) (hv : eZero f neg = v) (w : World) (hT : FAt w) :
    Calls Tryd.prog 56 #[.int .u8 f, .bool neg] w fun e w' => e = .returned (bitsV (bv7 v)) ∧ Below w.heap.size w w' := by
  subst hv
  have TT := box hT
  have P := box (pk_Zero hf neg)
  obtain ⟨x, y, hxy⟩ : ∃ x y, bv7 (eZero f neg) = (x, y) := ⟨_, _, rfl⟩
  rw [hxy] at P ⊢
  have e0 : bitsV (x, y) = .agg #[.int .u64 (x : Nat), .int .u64 (y : Nat)] := rfl
  rw [e0]
  have f4 := is4_ok hf
  clear hxy hT e0
  have R0 : (w.alloc (.cells #[.int .u64 0, .int .u64 0] 25)).heap[w.heap.size]? = some (.cells #[.int .u64 0, .int .u64 0] 25) := last7 _ _
  have B0 := bal7 w (.cells #[.int .u64 0, .int .u64 0] 25)
  go_enter Tryd.func56, Tryd.ntmps56
  go_wp2_with fail
  refine (s_pack_is f 0 0 0 _ _ neg hf P.out.1 P.out.2 _ (fatB TT.out B0)).mono ?_
  rintro r w1 ⟨rfl, b1⟩
  have B1 := btr7 B0 b1
  have R1 := heap_of b1 _ _ _ R0
  clear B0 R0 b1
  have q0 := fz (k := 0) R1
  have q1 := fz (k := 1) R1
  have d0 := cell7 R1 0 _ rfl
  have d1 := cell7 R1 1 _ rfl
  obtain ⟨E0, E1⟩ := set2_cells R1 (.int .u64 x) (.int .u64 y)
  go_wp2
  exact bodyPost_ret (v := .agg #[.int .u64 x, .int .u64 y]) (by simp [results, Tryd.results56, go_sem, E0, E1]) rfl ⟨rfl, set2_below B1 (by omega) _ _⟩

theorem r_right (f : Int) (o : Bool) (ho : decide (f ≤ 3) = o) (w : World) :
    Calls Tryd.prog 24 #[.int .u8 f] w fun e w' => e = .returned (.bool o) ∧ w' = w := by
  go_enter Tryd.func24, Tryd.ntmps24
  go_wp2
  go_ret
  exact ⟨rfl, rfl⟩
theorem r_width (f v : Int) (h0 : 0 ≤ f) (hv : fW f = v) (w : World) :
    Calls Tryd.prog 27 #[.int .u8 f] w fun e w' => e = .returned (.int .i64 v) ∧ w' = w := by
  subst hv
  rcases f_cases f h0 with rfl | rfl | rfl | rfl | h
  · go_enter Tryd.func27, Tryd.ntmps27
    go_wp2
    go_ret
    exact ⟨rfl, rfl⟩
  · go_enter Tryd.func27, Tryd.ntmps27
    go_wp2
    go_ret
    exact ⟨rfl, rfl⟩
  · go_enter Tryd.func27, Tryd.ntmps27
    go_wp2
    go_ret
    exact ⟨rfl, rfl⟩
  · go_enter Tryd.func27, Tryd.ntmps27
    go_wp2
    go_ret
    exact ⟨rfl, rfl⟩
  · have e0 : fW f = 0 := by unfold fW; rw [if_neg (by omega), if_neg (by omega), if_neg (by omega), if_neg (by omega)]
    rw [e0]
    have d0 : (f == 0) = false := by simp; omega
    have d1 : (f == 1) = false := by simp; omega
    have d2 : (f == 2) = false := by simp; omega
    have d3 : (f == 3) = false := by simp; omega
    go_enter Tryd.func27, Tryd.ntmps27
    go_wp2
    go_ret
    exact ⟨rfl, rfl⟩
theorem r_precision (f v : Int) (h0 : 0 ≤ f) (hv : fP f = v) (w : World) :
    Calls Tryd.prog 44 #[.int .u8 f] w fun e w' => e = .returned (.int .i64 v) ∧ w' = w := by
  subst hv
  rcases f_cases f h0 with rfl | rfl | rfl | rfl | h
  · go_enter Tryd.func44, Tryd.ntmps44
    go_wp2
    go_ret
    exact ⟨rfl, rfl⟩
  · go_enter Tryd.func44, Tryd.ntmps44
    go_wp2
    go_ret
    exact ⟨rfl, rfl⟩
  · go_enter Tryd.func44, Tryd.ntmps44
    go_wp2
    go_ret
    exact ⟨rfl, rfl⟩
  · go_enter Tryd.func44, Tryd.ntmps44
    go_wp2
    go_ret
    exact ⟨rfl, rfl⟩
  · have e0 : fP f = 0 := by unfold fP; rw [if_neg (by omega), if_neg (by omega), if_neg (by omega), if_neg (by omega)]
    rw [e0]
    have d0 : (f == 0) = false := by simp; omega
    have d1 : (f == 1) = false := by simp; omega
    have d2 : (f == 2) = false := by simp; omega
    have d3 : (f == 3) = false := by simp; omega
    go_enter Tryd.func44, Tryd.ntmps44
    go_wp2
    go_ret
    exact ⟨rfl, rfl⟩
theorem r_emax (f v : Int) (h0 : 0 ≤ f) (hv : fE f = v) (w : World) :
    Calls Tryd.prog 58 #[.int .u8 f] w fun e w' => e = .returned (.int .i64 v) ∧ w' = w := by
  subst hv
  rcases f_cases f h0 with rfl | rfl | rfl | rfl | h
  · go_enter Tryd.func58, Tryd.ntmps58
    go_wp2
    go_ret
    exact ⟨rfl, rfl⟩
  · go_enter Tryd.func58, Tryd.ntmps58
    go_wp2
    go_ret
    exact ⟨rfl, rfl⟩
  · go_enter Tryd.func58, Tryd.ntmps58
    go_wp2
    go_ret
    exact ⟨rfl, rfl⟩
  · go_enter Tryd.func58, Tryd.ntmps58
    go_wp2
    go_ret
    exact ⟨rfl, rfl⟩
  · have e0 : fE f = 0 := by unfold fE; rw [if_neg (by omega), if_neg (by omega), if_neg (by omega), if_neg (by omega)]
    rw [e0]
    have d0 : (f == 0) = false := by simp; omega
    have d1 : (f == 1) = false := by simp; omega
    have d2 : (f == 2) = false := by simp; omega
    have d3 : (f == 3) = false := by simp; omega
    go_enter Tryd.func58, Tryd.ntmps58
    go_wp2
    go_ret
    exact ⟨rfl, rfl⟩

theorem fE_lim {f m : Int} (h : fE f = m) : 0 ≤ m ∧ m ≤ 16383 := by rw [← h]; unfold fE; split <;> (try split) <;> (try split) <;> (try split) <;> omega
theorem fP_lim {f m : Int} (h : fP f = m) : 0 ≤ m ∧ m ≤ 113 := by rw [← h]; unfold fP; split <;> (try split) <;> (try split) <;> (try split) <;> omega
theorem fW_lim {f m : Int} (h : fW f = m) : 0 ≤ m ∧ m ≤ 128 := by rw [← h]; unfold fW; split <;> (try split) <;> (try split) <;> (try split) <;> omega

theorem r_ones (f m v : Int) (h0 : 0 ≤ f) (hm : fE f = m) (hv : 2 * m + 1 = v) (w : World) :
    Calls Tryd.prog 46 #[.int .u8 f] w fun e w' => e = .returned (.int .i64 v) ∧ w' = w := by
  have hm2 := fE_lim hm
  have h1 : IntKind.i64.wrap (2 * m) = 2 * m := by rw [IntKind.wrap_i64]; omega
  have h2 : IntKind.i64.wrap (2 * m + 1) = v := by rw [IntKind.wrap_i64]; omega
  go_enter Tryd.func46, Tryd.ntmps46
  go_wp2_with fail
  refine (r_emax f m h0 hm _).mono ?_
  rintro r w' ⟨rfl, rfl⟩
  go_wp2
  go_ret
  exact ⟨rfl, rfl⟩

theorem r_fits_no (f : Int) (b : Nat × Nat) (h : ¬ f ≤ 3) (w : World) :
    Calls Tryd.prog 9 #[.int .u8 f, bitsV b] w fun e w' => e = .returned (.bool false) ∧ Below w.heap.size w w' := by
  unfold bitsV
  go_enter Tryd.func9, Tryd.ntmps9
  go_wp2_with fail
  refine (r_right f false (by simp; omega) _).mono ?_
  rintro r w' ⟨rfl, rfl⟩
  go_wp2
  go_ret
  exact ⟨rfl, bal7 _ _⟩

theorem r_fits (f q : Int) (b : Nat × Nat) (n l : Nat) (o : Bool) (h0 : 0 ≤ f) (h : f ≤ 3) (hq : fW f = q) (hb1 : b.1 < 18446744073709551616) (hb2 : b.2 < 18446744073709551616) (hn : b.2 + 18446744073709551616 * b.1 = n) (hl : blen n = l) (ho : decide ((l : Int) ≤ q) = o) (w : World) :
    Calls Tryd.prog 9 #[.int .u8 f, bitsV b] w fun e w' => e = .returned (.bool o) ∧ Below w.heap.size w w' := by
  unfold bitsV
  go_enter Tryd.func9, Tryd.ntmps9
  go_wp2_with fail
  refine (r_right f true (by simp [h]) _).mono ?_
  rintro r w' ⟨rfl, rfl⟩
  go_wp2_with fail
  refine (rwofbits_is b.1 b.2 n hb1 hb2 hn _).mono ?_
  rintro r w2 ⟨rfl, b2⟩
  go_wp2_with fail
  refine (rwlen_any n (by rw [← hn]; exact bits_ltQ _ _ hb2 hb1) _).mono ?_
  rintro r w3 ⟨rfl, b3⟩
  go_wp2_with fail
  refine (r_width f q h0 hq _).mono ?_
  rintro r w' ⟨rfl, rfl⟩
  go_wp2
  go_ret
  exact ⟨rfl, btr7 (btr7 (bal7 _ _) b2) b3⟩

theorem lt_Q7 {v : Nat} (h : v < 340282366920938463463374607431768211456) : v < Q := by
  have := bits_ltQ (v % 18446744073709551616) (v / 18446744073709551616) (Nat.mod_lt _ (by decide)) (by omega)
  omega
theorem wd01 {v : Nat} (h : v < 340282366920938463463374607431768211456) : wd v 0 = v % 18446744073709551616 ∧ wd v 1 = v / 18446744073709551616 := by
  constructor
  · unfold wd; rw [Nat.mul_zero, Nat.pow_zero, Nat.div_one]
  · unfold wd; rw [show 2 ^ (64 * 1) = 18446744073709551616 by decide, Nat.mod_eq_of_lt (by omega)]

theorem bel_set {w W : World} {b : Nat} {c : Array Value} (h : Below w.heap.size w W) (hb : w.heap.size ≤ b) : Below w.heap.size w (W.setRow b c) := Below.setRow h hb

set_option maxHeartbeats 2000000 in
theorem r_build (f p q : Int) (neg : Bool) (e T A B C v pn qn : Nat) (hf : Is4 f) (hp : fP f = p) (hq : fW f = q) (hpn : p - 1 = (pn : Int)) (hqn : q - 1 = (qn : Int)) (he : e < 65536) (hT : T < Q)
    (hA : e * 2 ^ pn = A) (lA : A < Q) (hB : A + T = B) (lB : B < 340282366920938463463374607431768211456) (hC : 1 * 2 ^ qn = C) (lC : C < Q) (hv : B + (if neg then C else 0) = v) (lv : v < 340282366920938463463374607431768211456) (w : World) :
    Calls Tryd.prog 47 #[.int .u8 f, .bool neg, .int .i64 (e : Nat), .agg (cw 6 T)] w fun r w' => r = .returned (bitsV (bv7 v)) ∧ Below w.heap.size w w' := by
  have hat := cw_at 6
  have hz := cw6z
  have hff := cw6f
  have hs0 := st0
  have hcs : ∀ x, ((cw 6 x).size = 6) = True := fun x => eq_true (cw_size 6 x)
  have f4 := is4_ok hf
  have p2 := fP_lim hp
  have q2 := fW_lim hq
  have f3 : f ≤ 3 := by rcases hf with rfl | rfl | rfl | rfl <;> decide
  have e1 : IntKind.i64.wrap (p - 1) = (pn : Int) := by rw [← hpn, IntKind.wrap_i64]; omega
  have e3 : IntKind.i64.wrap (q - 1) = (qn : Int) := by rw [← hqn, IntKind.wrap_i64]; omega
  have e2 : IntKind.u64.wrap (e : Int) = (e : Int) := by rw [IntKind.wrap_u64]; omega
  have lBQ := lt_Q7 lB
  have lvQ := lt_Q7 lv
  have cp : cnt6 (pn : Int) = pn := by unfold cnt6; omega
  have cq : cnt6 (qn : Int) = qn := by unfold cnt6; omega
  have KA : Box (∀ w : World, Calls Tryd.prog 59 #[.agg (cw 6 e), .int .i64 (pn : Nat)] w fun r w' => r = .returned (.tuple #[.agg (cw 6 A), .bool false]) ∧ Below w.heap.size w w') := box (fun w => rwleft_is e A pn false (lt_Q7 (by omega)) (by rw [cp, hA, Nat.mod_eq_of_lt lA]) (by rw [cp, hA]; simp; omega) w)
  have KB : Box (∀ w : World, Calls Tryd.prog 60 #[.agg (cw 6 A), .agg (cw 6 T)] w fun r w' => r = .returned (.tuple #[.agg (cw 6 B), .bool false]) ∧ Below w.heap.size w w') := box (fun w => rwadd_is A T B false lA hT (by rw [hB, Nat.mod_eq_of_lt lBQ]) (by rw [hB]; simp; omega) w)
  have KC : Box (∀ w : World, Calls Tryd.prog 59 #[.agg (cw 6 1), .int .i64 (qn : Nat)] w fun r w' => r = .returned (.tuple #[.agg (cw 6 C), .bool false]) ∧ Below w.heap.size w w') := box (fun w => rwleft_is 1 C qn false (lt_Q7 (by omega)) (by rw [cq, hC, Nat.mod_eq_of_lt lC]) (by rw [cq, hC]; simp; omega) w)
  have KD : Box (neg = true → ∀ w : World, Calls Tryd.prog 60 #[.agg (cw 6 B), .agg (cw 6 C)] w fun r w' => r = .returned (.tuple #[.agg (cw 6 v), .bool false]) ∧ Below w.heap.size w w') := box (fun hn w => by
    subst hn
    have hv' : B + C = v := by simpa using hv
    exact rwadd_is B C v false lBQ lC (by rw [hv', Nat.mod_eq_of_lt lvQ]) (by rw [hv']; simp; omega) w)
  have W01 := wd01 lv
  have KE : Box (∀ w : World, Calls Tryd.prog 36 #[.agg (cw 6 v)] w fun r w' => r = .returned (.tuple #[.agg #[.int .u64 (v / 18446744073709551616 : Nat), .int .u64 (v % 18446744073709551616 : Nat)], .bool true]) ∧ Below w.heap.size w w') := box (fun w => by
    have h := rwtobits_yes v lvQ (by rw [W01.1, W01.2]; omega) w
    rw [W01.1, W01.2] at h
    exact h)
  have KR := box (r_right f true (by simp [f3]))
  have KP := box (r_precision f p f4.1 hp)
  have KW := box (r_width f q f4.1 hq)
  have KO : Box (∀ w : World, Calls Tryd.prog 38 #[.int .u64 (e : Nat)] w fun r w' => r = .returned (.agg (cw 6 e)) ∧ Below w.heap.size w w') := box (fun w => rwof_any e (by omega) w)
  have K1 : Box (∀ w : World, Calls Tryd.prog 38 #[.int .u64 1] w fun r w' => r = .returned (.agg (cw 6 1)) ∧ Below w.heap.size w w') := box (fun w => rwof_any 1 (by omega) w)
  obtain ⟨vh, hvh⟩ : ∃ x : Nat, v / 18446744073709551616 = x := ⟨_, rfl⟩
  obtain ⟨vl, hvl⟩ : ∃ x : Nat, v % 18446744073709551616 = x := ⟨_, rfl⟩
  have eR : bitsV (bv7 v) = .agg #[.int .u64 (vh : Nat), .int .u64 (vl : Nat)] := by unfold bitsV bv7; rw [hvh, hvl]
  rw [eR]
  rw [hvh, hvl] at KE
  have RT : ((w.alloc (.cells (cw 6 T) 48)).alloc (.cells #[.int .u64 0, .int .u64 0] 25)).heap[w.heap.size]? = some (.cells (cw 6 T) 48) := row_al (last7 _ _) _
  have RR : ((w.alloc (.cells (cw 6 T) 48)).alloc (.cells #[.int .u64 0, .int .u64 0] 25)).heap[w.heap.size + 1]? = some (.cells #[.int .u64 0, .int .u64 0] 25) := row_last (by simp only [size_al])
  have B0 : Below w.heap.size w ((w.alloc (.cells (cw 6 T) 48)).alloc (.cells #[.int .u64 0, .int .u64 0] 25)) := btr7 (bal7 _ _) (bal7 _ _)
  have HV : Box (B + (if neg then C else 0) = v) := box hv
  have HL := box lB
  have HCL := box lC
  have HVL := box lvQ
  clear hA lA hB lB hC lC hv lv hT he hpn hqn f4 p2 q2 f3 hp hq cp cq W01 lBQ lvQ hvh hvl eR hf
  go_enter Tryd.func47, Tryd.ntmps47
  go_wp2_with fail
  refine (KR.out _).mono ?_
  rintro r w' ⟨rfl, rfl⟩
  go_wp2_with fail
  refine (KO.out _).mono ?_
  rintro r w1 ⟨rfl, b1⟩
  have B1 := btr7 B0 b1
  have RT1 := heap_of b1 _ _ _ RT
  have RR1 := heap_of b1 _ _ _ RR
  clear B0 RT RR b1
  go_wp2_with fail
  refine (KP.out _).mono ?_
  rintro r w' ⟨rfl, rfl⟩
  go_wp2_with fail
  refine (KA.out _).mono ?_
  rintro r w2 ⟨rfl, b2⟩
  have B2 := btr7 B1 b2
  have RT2 := heap_of b2 _ _ _ RT1
  have RR2 := heap_of b2 _ _ _ RR1
  clear B1 RT1 RR1 b2
  have S2 := B2.size
  have ZT := (Array.getElem?_eq_some_iff.1 RR2).1
  have RT3 := row_al RT2 (.cells (cw 6 A) 48)
  have RR3 := row_al RR2 (.cells (cw 6 A) 48)
  have RW3 : (w2.alloc (.cells (cw 6 A) 48)).heap[w2.heap.size]? = some (.cells (cw 6 A) 48) := last7 _ _
  have B3 := bel_al B2 (.cells (cw 6 A) 48)
  have c0 := row_cell RT3
  go_wp2_with fail
  refine (KB.out _).mono ?_
  rintro r w4 ⟨rfl, b4⟩
  have B4 := btr7 B3 b4
  have RR4 := heap_of b4 _ _ _ RR3
  have RW4 := heap_of b4 _ _ _ RW3
  clear B3 RR3 RW3 RT3 RT2 RR2 B2 b4 c0
  obtain ⟨g, hg⟩ : ∃ g, w2.heap.size = g := ⟨_, rfl⟩
  rw [hg] at RW4 ZT S2 ⊢
  clear hg
  have hst := st_any w4 g B A RW4
  have B5 : Below w.heap.size w (w4.setRow g (cw 6 B)) := bel_set B4 S2
  have RW5 : (w4.setRow g (cw 6 B)).heap[g]? = some (.cells (cw 6 B) 48) := setRow_row RW4
  have RR5 : (w4.setRow g (cw 6 B)).heap[w.heap.size + 1]? = some (.cells #[.int .u64 0, .int .u64 0] 25) := by rw [setRow_other (by omega)]; exact RR4
  obtain ⟨w5, hw5⟩ : ∃ w5, w4.setRow g (cw 6 B) = w5 := ⟨_, rfl⟩
  rw [hw5] at B5 RW5 RR5 hst
  clear B4 RW4 RR4
  have c5 := row_cell RW5
  have fin : Box (∀ (w6 : World) (b : Below w.heap.size w w6), w6.heap[w.heap.size + 1]? = some (.cells #[.int .u64 0, .int .u64 0] 25) → True) := box (fun _ _ _ => trivial)
  cases neg
  · have e5 : B = v := by have := HV.out; simpa using this
    subst e5
    clear fin
    go_wp2_with fail
    refine (KE.out _).mono ?_
    rintro r w6 ⟨rfl, b6⟩
    have B6 := btr7 B5 b6
    have RR6 := row_al (heap_of b6 _ _ _ RR5) (.cells #[.int .u64 vh, .int .u64 vl] 25)
    have RB6 : (w6.alloc (.cells #[.int .u64 vh, .int .u64 vl] 25)).heap[w6.heap.size]? = some (.cells #[.int .u64 vh, .int .u64 vl] 25) := last7 _ _
    have B7 := bel_al B6 (.cells #[.int .u64 vh, .int .u64 vl] 25)
    clear hst hw5 c5 RW5 RR5 B5 b6 B6
    have q0 := fz (k := 0) RR6
    have q1 := fz (k := 1) RR6
    have d0 := cell7 RR6 0 _ rfl
    have d1 := cell7 RR6 1 _ rfl
    obtain ⟨E0, E1⟩ := set2_cells RR6 (.int .u64 vh) (.int .u64 vl)
    go_wp2
    exact bodyPost_ret (v := .agg #[.int .u64 vh, .int .u64 vl]) (by simp [results, Tryd.results47, go_sem, E0, E1]) rfl ⟨rfl, set2_below B7 (by omega) _ _⟩
  · go_wp2_with fail
    refine (K1.out _).mono ?_
    rintro r w6 ⟨rfl, b6⟩
    have B6 := btr7 B5 b6
    have RR6 := heap_of b6 _ _ _ RR5
    have RW6 := heap_of b6 _ _ _ RW5
    clear B5 RR5 RW5 c5 hst hw5 b6
    go_wp2_with fail
    refine (KW.out _).mono ?_
    rintro r w' ⟨rfl, rfl⟩
    go_wp2_with fail
    refine (KC.out _).mono ?_
    rintro r w7 ⟨rfl, b7⟩
    have B7 := bel_al (btr7 B6 b7) (.cells (cw 6 C) 48)
    have RR7 := row_al (heap_of b7 _ _ _ RR6) (.cells (cw 6 C) 48)
    have RW7 := row_al (heap_of b7 _ _ _ RW6) (.cells (cw 6 C) 48)
    clear B6 RR6 RW6 b7
    have c7 := row_cell RW7
    go_wp2_with fail
    refine (KD.out (by simp) _).mono ?_
    rintro r w9 ⟨rfl, b9⟩
    have B9 := btr7 B7 b9
    have RR9 := heap_of b9 _ _ _ RR7
    have RW9 := heap_of b9 _ _ _ RW7
    clear B7 RR7 RW7 b9 c7
    have hst9 := st_any w9 g v B RW9
    have B10 : Below w.heap.size w (w9.setRow g (cw 6 v)) := bel_set B9 S2
    have RW10 : (w9.setRow g (cw 6 v)).heap[g]? = some (.cells (cw 6 v) 48) := setRow_row RW9
    have RR10 : (w9.setRow g (cw 6 v)).heap[w.heap.size + 1]? = some (.cells #[.int .u64 0, .int .u64 0] 25) := by rw [setRow_other (by omega)]; exact RR9
    obtain ⟨w10, hw10⟩ : ∃ w10, w9.setRow g (cw 6 v) = w10 := ⟨_, rfl⟩
    rw [hw10] at B10 RW10 RR10 hst9
    clear B9 RW9 RR9
    have c10 := row_cell RW10
    go_wp2_with fail
    refine (KE.out _).mono ?_
    rintro r w11 ⟨rfl, b11⟩
    have B11 := btr7 B10 b11
    have RR11 := row_al (heap_of b11 _ _ _ RR10) (.cells #[.int .u64 vh, .int .u64 vl] 25)
    have RB11 : (w11.alloc (.cells #[.int .u64 vh, .int .u64 vl] 25)).heap[w11.heap.size]? = some (.cells #[.int .u64 vh, .int .u64 vl] 25) := last7 _ _
    have B12 := bel_al B11 (.cells #[.int .u64 vh, .int .u64 vl] 25)
    clear hst9 hw10 c10 RW10 RR10 B10 b11 B11
    have q0 := fz (k := 0) RR11
    have q1 := fz (k := 1) RR11
    have d0 := cell7 RR11 0 _ rfl
    have d1 := cell7 RR11 1 _ rfl
    obtain ⟨E0, E1⟩ := set2_cells RR11 (.int .u64 vh) (.int .u64 vl)
    go_wp2
    exact bodyPost_ret (v := .agg #[.int .u64 vh, .int .u64 vl]) (by simp [results, Tryd.results47, go_sem, E0, E1]) rfl ⟨rfl, set2_below B12 (by omega) _ _⟩

theorem r_enc (f : Int) (neg : Bool) (e T v : Nat) (hf : Is4 f) (he : e < 32768) (hT : T < 2 ^ pV f) (hv : enc7 f neg e T = v) (hev : e ≤ oV f) (w : World) :
    Calls Tryd.prog 47 #[.int .u8 f, .bool neg, .int .i64 (e : Nat), .agg (cw 6 T)] w fun r w' => r = .returned (bitsV (bv7 v)) ∧ Below w.heap.size w w' := by
  subst hv
  have k : fP f - 1 = (pV f : Int) ∧ fW f - 1 = (wV f : Int) ∧ 2 ^ wV f ≤ 170141183460469231731687303715884105728 ∧ 2 ^ pV f ≤ 5192296858534827628530496329220096 ∧ (oV f + 1) * 2 ^ pV f ≤ 2 ^ wV f := by
    rcases hf with rfl | rfl | rfl | rfl <;> decide +kernel
  obtain ⟨k1, k2, k3, k4, k5⟩ := k
  unfold enc7
  obtain ⟨P, hP⟩ : ∃ P, 2 ^ pV f = P := ⟨_, rfl⟩
  obtain ⟨C, hC⟩ : ∃ C, 2 ^ wV f = C := ⟨_, rfl⟩
  rw [hP] at k4 k5 hT
  rw [hC] at k3 k5
  rw [hP, hC]
  have h1 : e * P ≤ oV f * P := Nat.mul_le_mul_right _ hev
  have h2 : (oV f + 1) * P = oV f * P + P := by rw [Nat.add_mul, Nat.one_mul]
  have h3 : (if neg = true then C else 0) ≤ C := by split <;> omega
  refine r_build f _ _ neg e T (e * P) (e * P + T) C _ (pV f) (wV f) hf rfl rfl k1 k2 (by omega) (lt_Q7 (by omega)) (by rw [hP]) (lt_Q7 (by omega)) rfl (by omega) (by rw [hC, Nat.one_mul]) (lt_Q7 (by omega)) rfl (by omega) w



end Go.Proofs.YtaengojkjfgppaaDoor
namespace Go.Proofs.YtaengojkjfgppaaDoor
set_option maxRecDepth 100000
set_option maxHeartbeats 40000000
set_option maxRecDepth 100000
open Go.RowKit WMath
set_option linter.unusedVariables false
theorem andnot7 (x c m : Nat) (hx : x < 18446744073709551616) (hc : c ≤ 64) (hm : 2 ^ c - 1 = m) : (bits .andNot .u64 (x : Int) (m : Int) == 0) = decide (x < 2 ^ c) := by
  have e : bits .andNot .u64 (x : Int) (m : Int) = (((BitVec.ofNat 64 x &&& ~~~ BitVec.ofNat 64 m).toNat : Nat) : Int) := by
    show IntKind.u64.wrap ((BitVec.ofInt 64 (x : Int) &&& ~~~ BitVec.ofInt 64 (m : Int)).toNat : Int) = _
    rw [BitVec.ofInt_natCast, BitVec.ofInt_natCast, IntKind.wrap_u64]
    have := (BitVec.ofNat 64 x &&& ~~~ BitVec.ofNat 64 m).isLt
    generalize (BitVec.ofNat 64 x &&& ~~~ BitVec.ofNat 64 m).toNat = t at *
    omega
  rw [e]
  by_cases h : x < 2 ^ c
  · rw [decide_eq_true h]
    have z : BitVec.ofNat 64 x &&& ~~~ BitVec.ofNat 64 m = 0#64 := by
      apply BitVec.eq_of_getLsbD_eq
      intro i hi
      simp only [BitVec.getLsbD_and, BitVec.getLsbD_not, BitVec.getLsbD_ofNat, hi, decide_true, Bool.true_and]
      rw [← hm, Nat.testBit_two_pow_sub_one]
      by_cases hic : i < c
      · simp [hic]
      · rw [Nat.testBit_lt_two_pow (Nat.lt_of_lt_of_le h (Nat.pow_le_pow_right (by decide) (by omega)))]
        simp
    rw [z]
    rfl
  · rw [decide_eq_false h]
    simp only [beq_eq_false_iff_ne, ne_eq]
    intro z
    apply h
    apply Nat.lt_pow_two_of_testBit
    intro i hi
    by_cases h6 : i < 64
    · have z2 : (BitVec.ofNat 64 x &&& ~~~ BitVec.ofNat 64 m).getLsbD i = false := by
        have : BitVec.ofNat 64 x &&& ~~~ BitVec.ofNat 64 m = 0#64 := BitVec.eq_of_toNat_eq (by simpa using (by omega : (BitVec.ofNat 64 x &&& ~~~ BitVec.ofNat 64 m).toNat = 0))
        rw [this]; simp
      simp only [BitVec.getLsbD_and, BitVec.getLsbD_not, BitVec.getLsbD_ofNat, h6, decide_true, Bool.true_and] at z2
      rw [← hm, Nat.testBit_two_pow_sub_one] at z2
      have : decide (i < c) = false := by simp; omega
      rw [this] at z2
      simpa using z2
    · exact Nat.testBit_lt_two_pow (Nat.lt_of_lt_of_le hx (by rw [show 18446744073709551616 = 2 ^ 64 by decide]; exact Nat.pow_le_pow_right (by decide) (by omega)))

def oHi (f : Int) : Int := if rLo 1 (fW f) = 0 then IntKind.u64.wrap (rHi 1 (fW f) - 1) else rHi 1 (fW f)
def oLo (f : Int) : Int := IntKind.u64.wrap (rLo 1 (fW f) - 1)

theorem s_fits_no (f : Int) (b : Nat × Nat) (h0 : 0 ≤ f) (h1 : f ≤ 255) (hc : fC f = 2) (w : World) (hT : FAt w) :
    Calls Tryd.prog 33 #[.int .u8 f, bitsV b] w fun e w' => e = .returned (.bool false) ∧ Below w.heap.size w w' := by
  have hq : fW f = 0 := by
    unfold fC at hc
    unfold fW
    split at hc
    · simp at hc
    · rename_i h; rw [if_neg (fun e => h (Or.inl e)), if_neg (fun e => h (Or.inr (Or.inl e))), if_neg (fun e => h (Or.inr (Or.inr (Or.inl e)))), if_neg (fun e => h (Or.inr (Or.inr (Or.inr e))))]
  have TT := box hT
  unfold bitsV
  have B0 := bal7 w (.cells #[.int .u64 b.1, .int .u64 b.2] 25)
  go_enter Tryd.func33, Tryd.ntmps33
  go_wp2_with fail
  refine (s_width f 0 h0 h1 hq _ (fatB TT.out B0)).mono ?_
  rintro r w' ⟨rfl, rfl⟩
  have B1 := bel_al B0 (.cells (fR f) 79)
  clear B0
  go_wp2_with fail
  refine (s_ones 0 0 1 (by decide) (by decide) rfl rfl 0 0 rfl rfl _).mono ?_
  rintro r w2 ⟨rfl, b2⟩
  have B2 := bel_al (btr7 B1 b2) (.cells #[.int .u64 0, .int .u64 0] 25)
  clear B1 b2
  go_wp2_with fail
  refine (s_check_is f 2 h0 h1 hc _).mono ?_
  rintro r w' ⟨rfl, rfl⟩
  go_wp2
  go_ret
  exact ⟨rfl, B2⟩

set_option maxHeartbeats 1000000 in
theorem s_fits (f : Int) (b : Nat × Nat) (o : Bool) (hf : Is4 f) (hb1 : b.1 < 18446744073709551616) (hb2 : b.2 < 18446744073709551616) (p q : Bool) (hp : (bits .andNot .u64 (b.1 : Int) (oHi f) == 0) = p) (hq : (bits .andNot .u64 (b.2 : Int) (oLo f) == 0) = q) (ho : (p && q) = o) (w : World) (hT : FAt w) :
    Calls Tryd.prog 33 #[.int .u8 f, bitsV b] w fun e w' => e = .returned (.bool o) ∧ Below w.heap.size w w' := by
  have TT := box hT
  have f4 := is4_ok hf
  unfold bitsV
  obtain ⟨b1, b2⟩ := b
  simp only at hb1 hb2 hp hq
  obtain ⟨W, hW⟩ : ∃ W : Int, fW f = W := ⟨_, rfl⟩
  obtain ⟨K, hK⟩ : ∃ W : Int, oHi f = W := ⟨_, rfl⟩
  obtain ⟨M, hM⟩ : ∃ W : Int, oLo f = W := ⟨_, rfl⟩
  rw [hK] at hp
  rw [hM] at hq
  have w0 : IntKind.u64.wrap W = W := by rw [← hW]; rcases hf with rfl | rfl | rfl | rfl <;> decide +kernel
  have wl := fW_lim hW
  have KO : Box (∀ w : World, Calls Tryd.prog 51 #[.int .u64 W] w fun e w' => e = .returned (.agg #[.int .u64 K, .int .u64 M]) ∧ Below w.heap.size w w') := box (fun w => s_ones W _ _ (by omega) (by omega) rfl rfl K M (by rw [← hK, ← hW]; rfl) (by rw [← hM, ← hW]; rfl) w)
  have R0 : (w.alloc (.cells #[.int .u64 b1, .int .u64 b2] 25)).heap[w.heap.size]? = some (.cells #[.int .u64 b1, .int .u64 b2] 25) := last7 _ _
  have B0 := bal7 w (.cells #[.int .u64 b1, .int .u64 b2] 25)
  have HW := box hW
  clear hT hW hK hM hb1 hb2 hf wl
  go_enter Tryd.func33, Tryd.ntmps33
  go_wp2_with fail
  refine (s_width f W f4.1 f4.2.1 HW.out _ (fatB TT.out B0)).mono ?_
  rintro r w' ⟨rfl, rfl⟩
  have B1 := bel_al B0 (.cells (fR f) 79)
  have R1 := row_al R0 (.cells (fR f) 79)
  clear B0 R0
  go_wp2_with fail
  refine (KO.out _).mono ?_
  rintro r w2 ⟨rfl, b2'⟩
  have R2 := row_al (heap_of b2' _ _ _ R1) (.cells #[.int .u64 K, .int .u64 M] 25)
  have B2 := bel_al (btr7 B1 b2') (.cells #[.int .u64 K, .int .u64 M] 25)
  have c0 := cell7 R2 0 _ rfl
  have c1 := cell7 R2 1 _ rfl
  clear B1 b2' R1
  go_wp2_with fail
  refine (s_check_is f 0 f4.1 f4.2.1 f4.2.2.1 _).mono ?_
  rintro r w' ⟨rfl, rfl⟩
  cases p <;> cases q <;> subst ho
  · go_wp2
    go_ret
    exact ⟨rfl, B2⟩
  · go_wp2
    go_ret
    exact ⟨rfl, B2⟩
  · go_wp2
    go_ret
    exact ⟨rfl, B2⟩
  · go_wp2
    go_ret
    exact ⟨rfl, B2⟩
theorem no7 {f : Int} (h : 3 < f) : fC f = 2 ∧ fW f = 0 ∧ fP f = 0 ∧ fE f = 0 := by
  refine ⟨?_, ?_, ?_, ?_⟩
  · unfold fC; rw [if_neg (by omega)]
  · unfold fW; rw [if_neg (by omega), if_neg (by omega), if_neg (by omega), if_neg (by omega)]
  · unfold fP; rw [if_neg (by omega), if_neg (by omega), if_neg (by omega), if_neg (by omega)]
  · unfold fE; rw [if_neg (by omega), if_neg (by omega), if_neg (by omega), if_neg (by omega)]
theorem is4_of {f : Int} (h0 : 0 ≤ f) (h : f ≤ 3) : Is4 f := by unfold Is4; omega


theorem blen_iff (n W : Nat) : blen n ≤ W ↔ n < 2 ^ W := by
  constructor
  · intro h
    exact Nat.lt_of_lt_of_le (blen_lt n) (Nat.pow_le_pow_right (by decide) h)
  · exact blen_le_of n W

theorem fit7 (f : Int) (hf : Is4 f) (b1 b2 : Nat) (hb1 : b1 < 18446744073709551616) (hb2 : b2 < 18446744073709551616) :
    ((bits .andNot .u64 (b1 : Int) (oHi f) == 0) && (bits .andNot .u64 (b2 : Int) (oLo f) == 0)) = decide (((blen (b2 + 18446744073709551616 * b1) : Nat) : Int) ≤ fW f) := by
  have key : ∀ (c d W : Nat) (K M : Nat), c ≤ 64 → d ≤ 64 → 2 ^ c - 1 = K → 2 ^ d - 1 = M → oHi f = (K : Int) → oLo f = (M : Int) → fW f = (W : Int) →
      ((b1 < 2 ^ c ∧ b2 < 2 ^ d) ↔ b2 + 18446744073709551616 * b1 < 2 ^ W) → ((bits .andNot .u64 (b1 : Int) (oHi f) == 0) && (bits .andNot .u64 (b2 : Int) (oLo f) == 0)) = decide (((blen (b2 + 18446744073709551616 * b1) : Nat) : Int) ≤ fW f) := by
    intro c d W K M hc hd hK hM e1 e2 e3 h
    rw [e1, e2, e3, andnot7 b1 c K hb1 hc hK, andnot7 b2 d M hb2 hd hM]
    have h2 : (((blen (b2 + 18446744073709551616 * b1) : Nat) : Int) ≤ (W : Int)) ↔ (b1 < 2 ^ c ∧ b2 < 2 ^ d) := by
      rw [h, ← blen_iff]; omega
    rw [← Bool.decide_and]
    exact decide_eq_decide.2 h2.symm
  rcases hf with rfl | rfl | rfl | rfl
  · exact key 0 32 32 0 4294967295 (by decide) (by decide) (by decide) (by decide) (by decide +kernel) (by decide +kernel) (by decide +kernel) (by simp only [Nat.reducePow]; omega)
  · exact key 0 64 64 0 18446744073709551615 (by decide) (by decide) (by decide) (by decide) (by decide +kernel) (by decide +kernel) (by decide +kernel) (by simp only [Nat.reducePow]; omega)
  · exact key 0 16 16 0 65535 (by decide) (by decide) (by decide) (by decide) (by decide +kernel) (by decide +kernel) (by decide +kernel) (by simp only [Nat.reducePow]; omega)
  · exact key 64 64 128 18446744073709551615 18446744073709551615 (by decide) (by decide) (by decide) (by decide) (by decide +kernel) (by decide +kernel) (by decide +kernel) (by simp only [Nat.reducePow]; omega)

def fitsB (f : Int) (b : Nat × Nat) : Bool := decide (f ≤ 3) && decide (((blen (b.2 + 18446744073709551616 * b.1) : Nat) : Int) ≤ fW f)
theorem s_fits_is (f : Int) (b : Nat × Nat) (o : Bool) (h0 : 0 ≤ f) (h1 : f ≤ 255) (hb1 : b.1 < 18446744073709551616) (hb2 : b.2 < 18446744073709551616) (ho : fitsB f b = o) (w : World) (hT : FAt w) :
    Calls Tryd.prog 33 #[.int .u8 f, bitsV b] w fun e w' => e = .returned (.bool o) ∧ Below w.heap.size w w' := by
  by_cases h : f ≤ 3
  · refine s_fits f b o (is4_of h0 h) hb1 hb2 _ _ rfl rfl ?_ w hT
    rw [fit7 f (is4_of h0 h) b.1 b.2 hb1 hb2, ← ho]
    unfold fitsB
    rw [decide_eq_true h, Bool.true_and]
  · have e : o = false := by rw [← ho]; unfold fitsB; rw [decide_eq_false h, Bool.false_and]
    subst e
    exact s_fits_no f b h0 h1 (no7 (by omega)).1 w hT
theorem r_fits_is (f : Int) (b : Nat × Nat) (o : Bool) (h0 : 0 ≤ f) (hb1 : b.1 < 18446744073709551616) (hb2 : b.2 < 18446744073709551616) (ho : fitsB f b = o) (w : World) :
    Calls Tryd.prog 9 #[.int .u8 f, bitsV b] w fun e w' => e = .returned (.bool o) ∧ Below w.heap.size w w' := by
  by_cases h : f ≤ 3
  · refine r_fits f _ b _ _ o h0 h rfl hb1 hb2 rfl rfl ?_ w
    rw [← ho]
    unfold fitsB
    rw [decide_eq_true h, Bool.true_and]
  · have e : o = false := by rw [← ho]; unfold fitsB; rw [decide_eq_false h, Bool.false_and]
    subst e
    exact r_fits_no f b h w

end Go.Proofs.YtaengojkjfgppaaDoor
