/-
  Names of formats: the program's and the document's.
-/
import Derived.Test.YtjbefkceieklmaaDoorN1
namespace Go.Proofs.YtjbefkceieklmaaDoor
open Go.RowKit WMath
set_option linter.unusedVariables false

theorem s_name (f c : Int) (v : ByteArray) (h0 : 0 ≤ f) (h1 : f ≤ 255) (hv : fN f = v) (hc : fC f = c) (w : World) (hT : FAt w) :
    Calls Tryd.prog 36 #[.int .u8 f] w fun e w' => e = .returned (.tuple #[.string v, .int .i64 c]) ∧ Below w.heap.size w w' := by
  have hl := fld3
  go_enter Tryd.func36, Tryd.ntmps36
  go_wp2_with fail
  refine (s_of_is f _ _ _ v h0 h1 rfl rfl rfl hv _ hT).mono ?_
  rintro r w2 ⟨rfl, rfl⟩
  go_wp2_with fail
  refine (s_check_is f c h0 h1 hc _).mono ?_
  rintro r w' ⟨rfl, rfl⟩
  go_wp2
  go_ret2
  exact ⟨rfl, bal7 _ _⟩

theorem r_name (f c : Int) (v : ByteArray) (h0 : 0 ≤ f) (hv : fN f = v) (hc : fC f = c) (w : World) :
    Calls Tryd.prog 37 #[.int .u8 f] w fun e w' => e = .returned (.tuple #[.string v, .int .i64 c]) ∧ w' = w := by
  subst hv hc
  rcases f_cases f h0 with rfl | rfl | rfl | rfl | h
  · go_enter Tryd.func37, Tryd.ntmps37
    go_wp2
    go_ret2
    exact ⟨rfl, rfl⟩
  · go_enter Tryd.func37, Tryd.ntmps37
    go_wp2
    go_ret2
    exact ⟨rfl, rfl⟩
  · go_enter Tryd.func37, Tryd.ntmps37
    go_wp2
    go_ret2
    exact ⟨rfl, rfl⟩
  · go_enter Tryd.func37, Tryd.ntmps37
    go_wp2
    go_ret2
    exact ⟨rfl, rfl⟩
  · have e0 : fN f = ⟨#[]⟩ := by unfold fN; rw [if_neg (by omega), if_neg (by omega), if_neg (by omega), if_neg (by omega)]
    have e1 : fC f = 2 := (no7 (by omega)).1
    rw [e0, e1]
    have d0 : (f == 0) = false := by simp; omega
    have d1 : (f == 1) = false := by simp; omega
    have d2 : (f == 2) = false := by simp; omega
    have d3 : (f == 3) = false := by simp; omega
    go_enter Tryd.func37, Tryd.ntmps37
    go_wp2
    go_ret2
    exact ⟨rfl, rfl⟩

def lst7 : Array Value := #[.int .u8 2, .int .u8 0, .int .u8 1, .int .u8 3]
theorem r_all (w : World) :
    Calls Tryd.prog 40 #[] w fun e w' => e = .returned (.slice (some ⟨w.heap.size, 0, none⟩) 4 4) ∧ w' = w.alloc (.cells lst7 22) := by
  go_enter Tryd.func40, Tryd.ntmps40
  go_wp2
  go_ret
  exact ⟨rfl, rfl⟩

theorem r_named (s : ByteArray) (x0 e0 : Int) (hv : nV s = (x0, e0)) (w : World) :
    Calls Tryd.prog 39 #[.string s] w fun e w' => e = .returned (.tuple #[.int .u8 x0, .int .i64 e0]) ∧ Below w.heap.size w w' := by
  go_enter Tryd.func39, Tryd.ntmps39
  go_wp2_with fail
  refine (r_all _).mono ?_
  rintro r w' ⟨rfl, rfl⟩
  have RW : (w.alloc (.cells lst7 22)).heap[w.heap.size]? = some (.cells lst7 22) := last7 _ _
  have hB := bal7 w (.cells lst7 22)
  go_wp2
  go_loopw [5] (fun i wr => ∃ k : Nat, k ≤ 4 ∧ i = .int .i64 (k : Nat) ∧ Below w.heap.size w wr ∧ wr.heap[w.heap.size]? = some (.cells lst7 22) ∧ ∀ y ∈ fL.take k, ¬ fN y.1 = s) (fun i _ => 4 - (intOf i).toNat)
  case atStart => exact ⟨0, by omega, rfl, hB, RW, fun y hy => by simp at hy⟩
  case round =>
    clear hB RW
    obtain ⟨k, hk, rfl, hB, RW, hp⟩ := hrel
    by_cases hlt : k < 4
    · have h4 : k = 0 ∨ k = 1 ∨ k = 2 ∨ k = 3 := by omega
      rcases h4 with rfl | rfl | rfl | rfl
      · by_cases hs : fN 2 = s
        · have hb : ([104] == s.toList) = true := by rw [beq7]; exact decide_eq_true hs
          rw [nV_some ⟨2, Or.inr (Or.inr (Or.inl rfl))⟩ s hs] at hv
          injection hv with v1 v2
          subst v1 v2
          have c0 := cell7 RW 0 _ rfl
          go_wp2_with fail
          refine (r_name 2 0 ⟨#[104]⟩ (by decide) rfl rfl _).mono ?_
          rintro r w' ⟨rfl, hw'⟩
          obtain rfl := hw'.symm
          go_wp2
          go_ret2
          exact ⟨rfl, hB⟩
        · have hb : ([104] == s.toList) = false := nbeq7 _ _ hs
          have c0 := cell7 RW 0 _ rfl
          go_wp2_with fail
          refine (r_name 2 0 ⟨#[104]⟩ (by decide) rfl rfl _).mono ?_
          rintro r w' ⟨rfl, hw'⟩
          obtain rfl := hw'.symm
          go_wp2
          go_roundw
          case rel => exact ⟨1, by omega, rfl, hB, RW, fun y hy => by
            have : y ∈ fL.take 0 ∨ y = ⟨2, Or.inr (Or.inr (Or.inl rfl))⟩ := by
              have e : fL.take 1 = fL.take 0 ++ [⟨2, Or.inr (Or.inr (Or.inl rfl))⟩] := rfl
              rw [e] at hy
              simpa using hy
            rcases this with h | h
            · exact hp y h
            · subst h; exact hs⟩
          case measure => simp [intOf]
      · by_cases hs : fN 0 = s
        · have hb : ([115] == s.toList) = true := by rw [beq7]; exact decide_eq_true hs
          rw [nV_some ⟨0, Or.inl rfl⟩ s hs] at hv
          injection hv with v1 v2
          subst v1 v2
          have c0 := cell7 RW 1 _ rfl
          go_wp2_with fail
          refine (r_name 0 0 ⟨#[115]⟩ (by decide) rfl rfl _).mono ?_
          rintro r w' ⟨rfl, hw'⟩
          obtain rfl := hw'.symm
          go_wp2
          go_ret2
          exact ⟨rfl, hB⟩
        · have hb : ([115] == s.toList) = false := nbeq7 _ _ hs
          have c0 := cell7 RW 1 _ rfl
          go_wp2_with fail
          refine (r_name 0 0 ⟨#[115]⟩ (by decide) rfl rfl _).mono ?_
          rintro r w' ⟨rfl, hw'⟩
          obtain rfl := hw'.symm
          go_wp2
          go_roundw
          case rel => exact ⟨2, by omega, rfl, hB, RW, fun y hy => by
            have : y ∈ fL.take 1 ∨ y = ⟨0, Or.inl rfl⟩ := by
              have e : fL.take 2 = fL.take 1 ++ [⟨0, Or.inl rfl⟩] := rfl
              rw [e] at hy
              simpa using hy
            rcases this with h | h
            · exact hp y h
            · subst h; exact hs⟩
          case measure => simp [intOf]
      · by_cases hs : fN 1 = s
        · have hb : ([100] == s.toList) = true := by rw [beq7]; exact decide_eq_true hs
          rw [nV_some ⟨1, Or.inr (Or.inl rfl)⟩ s hs] at hv
          injection hv with v1 v2
          subst v1 v2
          have c0 := cell7 RW 2 _ rfl
          go_wp2_with fail
          refine (r_name 1 0 ⟨#[100]⟩ (by decide) rfl rfl _).mono ?_
          rintro r w' ⟨rfl, hw'⟩
          obtain rfl := hw'.symm
          go_wp2
          go_ret2
          exact ⟨rfl, hB⟩
        · have hb : ([100] == s.toList) = false := nbeq7 _ _ hs
          have c0 := cell7 RW 2 _ rfl
          go_wp2_with fail
          refine (r_name 1 0 ⟨#[100]⟩ (by decide) rfl rfl _).mono ?_
          rintro r w' ⟨rfl, hw'⟩
          obtain rfl := hw'.symm
          go_wp2
          go_roundw
          case rel => exact ⟨3, by omega, rfl, hB, RW, fun y hy => by
            have : y ∈ fL.take 2 ∨ y = ⟨1, Or.inr (Or.inl rfl)⟩ := by
              have e : fL.take 3 = fL.take 2 ++ [⟨1, Or.inr (Or.inl rfl)⟩] := rfl
              rw [e] at hy
              simpa using hy
            rcases this with h | h
            · exact hp y h
            · subst h; exact hs⟩
          case measure => simp [intOf]
      · by_cases hs : fN 3 = s
        · have hb : ([113] == s.toList) = true := by rw [beq7]; exact decide_eq_true hs
          rw [nV_some ⟨3, Or.inr (Or.inr (Or.inr rfl))⟩ s hs] at hv
          injection hv with v1 v2
          subst v1 v2
          have c0 := cell7 RW 3 _ rfl
          go_wp2_with fail
          refine (r_name 3 0 ⟨#[113]⟩ (by decide) rfl rfl _).mono ?_
          rintro r w' ⟨rfl, hw'⟩
          obtain rfl := hw'.symm
          go_wp2
          go_ret2
          exact ⟨rfl, hB⟩
        · have hb : ([113] == s.toList) = false := nbeq7 _ _ hs
          have c0 := cell7 RW 3 _ rfl
          go_wp2_with fail
          refine (r_name 3 0 ⟨#[113]⟩ (by decide) rfl rfl _).mono ?_
          rintro r w' ⟨rfl, hw'⟩
          obtain rfl := hw'.symm
          go_wp2
          go_roundw
          case rel => exact ⟨4, by omega, rfl, hB, RW, fun y hy => by
            have : y ∈ fL.take 3 ∨ y = ⟨3, Or.inr (Or.inr (Or.inr rfl))⟩ := by
              have e : fL.take 4 = fL.take 3 ++ [⟨3, Or.inr (Or.inr (Or.inr rfl))⟩] := rfl
              rw [e] at hy
              simpa using hy
            rcases this with h | h
            · exact hp y h
            · subst h; exact hs⟩
          case measure => simp [intOf]
    · obtain rfl : k = 4 := by omega
      rw [nV_none s hp] at hv
      injection hv with v1 v2
      subst v1 v2
      go_wp2
      go_ret2
      exact ⟨rfl, hB⟩
end Go.Proofs.YtjbefkceieklmaaDoor
