/- The contracts of the sums of words, package mix's and the document's own: the list is read, not changed. -/
import Derived.Test.YteikjkfeadpdhaaMixTexts
namespace Go.Proofs.Yteikjkfeadpdhaa
open Go.RowKit

/-- v is a list that reads as these words -/
def WordsAt (w : World) (v : Value) (ys : List Nat) : Prop :=
  ∃ (a : Option Addr) (cap b o : Nat), v = .slice a ys.length cap ∧ (0 < ys.length → a = some ⟨b, o, none⟩) ∧ (∀ j, j < ys.length → w.cell? ⟨b, o + j, none⟩ = some (.int .u64 (ys.getD j 0 : Nat))) ∧
    (∀ n ∈ ys, n < 18446744073709551616) ∧ ys.length ≤ maxLen

theorem getD_lt {ys : List Nat} (h : ∀ n ∈ ys, n < 18446744073709551616) (k : Nat) : ys.getD k 0 < 18446744073709551616 := by
  rw [List.getD_eq_getElem?_getD]
  cases e : ys[k]? with
  | none => exact Nat.zero_lt_succ _
  | some x => exact h x (List.mem_of_getElem? e)

theorem mix_Words_none (seed : Nat) (a : Option Addr) (cap : Nat) (hseed : seed < 18446744073709551616) (w : World) :
    Calls Try.prog 14 #[.int .u64 (seed : Int), .slice a 0 cap] w fun e w' => e = .returned (.int .u64 (wordsN seed [] : Nat)) ∧ w = w' := by
  have H0 := Lib.hid (fun w => mix_Step seed 0 hseed (by decide) w)
  have HE := Lib.hid (fun w => mix_End (stepN seed 0) (stepN_lt _ _) w)
  clear hseed
  go_enter Try.func14, Try.ntmps14
  go_wp2_with fail
  refine (H0.out w).mono ?_
  rintro e w1 ⟨rfl, rfl⟩
  go_wp2_with fail
  go_loop [5, 14] (fun v n => n = .int .i64 0 ∧ v = .int .u64 (stepN seed 0 : Nat)) (fun _ _ => 0)
  case atStart => exact ⟨rfl, rfl⟩
  case round =>
    obtain ⟨rfl, rfl⟩ := hrel
    go_wp2_with fail
    refine (HE.out _).mono ?_
    rintro e w1 ⟨rfl, rfl⟩
    go_wp2_with fail
    go_ret
    exact ⟨rfl, rfl⟩

set_option maxHeartbeats 1000000 in
theorem mix_Words (seed : Nat) (v : Value) (ys : List Nat) (hseed : seed < 18446744073709551616) (w : World) (hv : WordsAt w v ys) :
    Calls Try.prog 14 #[.int .u64 (seed : Int), v] w fun e w' => e = .returned (.int .u64 (wordsN seed ys : Nat)) ∧ w = w' := by
  obtain ⟨a, cap, b, o, rfl, ha, hc, hw, hm⟩ := hv
  by_cases h0 : ys.length = 0
  · obtain rfl := List.eq_nil_of_length_eq_zero h0
    exact mix_Words_none seed a cap hseed w
  obtain rfl := ha (by omega)
  unfold maxLen at hm
  obtain ⟨len, hlen⟩ : ∃ len, len = ys.length := ⟨_, rfl⟩
  have H0 := Lib.hid (fun w => mix_Step seed ys.length hseed (by omega) w)
  rw [← hlen] at hm H0 hc h0 ⊢
  have hcv : IntKind.u64.wrap (len : Int) = (len : Int) := by rw [IntKind.wrap_u64]; omega
  have HC := Lib.hid hc
  have HW := Lib.hid hw
  have HL := Lib.hid hlen
  clear hseed hc hw ha hlen
  go_enter Try.func14, Try.ntmps14
  go_wp2_with fail
  refine (H0.out w).mono ?_
  rintro e w1 ⟨rfl, rfl⟩
  go_wp2_with fail
  go_loop [5, 14] (fun v n => ∃ k : Nat, k ≤ len ∧ n = .int .i64 k ∧ v = .int .u64 (ws seed ys k : Nat)) (fun _ n => len - (intOf n).toNat)
  case atStart => exact ⟨0, Nat.zero_le _, rfl, by rw [ws, HL.out]⟩
  case round =>
    obtain ⟨k, hk, rfl, rfl⟩ := hrel
    by_cases h1 : k < len
    · have hcell : w.cell? ⟨b, o + k, none⟩ = some (.int .u64 (ys.getD k 0 : Nat)) := HC.out k h1
      obtain ⟨x, hx⟩ : ∃ x, x = ys.getD k 0 := ⟨_, rfl⟩
      have hxl : x < 18446744073709551616 := by rw [hx]; exact getD_lt HW.out k
      rw [← hx] at hcell
      have HX := Lib.hid hx
      have HS := Lib.hid (fun w => mix_Step (ws seed ys k) x (ws_lt _ _ _) hxl w)
      clear hx hxl
      go_wp2_with fail
      refine (HS.out _).mono ?_
      rintro e w1 ⟨rfl, rfl⟩
      go_wp2_with fail
      go_round
      case rel => exact ⟨k + 1, by omega, by go_num, by rw [HX.out]; rfl⟩
      case measure => simp [intOf]; omega
    · have HE := Lib.hid (fun w => mix_End (ws seed ys k) (ws_lt _ _ _) w)
      have e : Hid (k = ys.length) := by show _ = _; rw [← HL.out]; omega
      go_wp2_with fail
      refine (HE.out _).mono ?_
      rintro e w1 ⟨rfl, rfl⟩
      go_wp2_with fail
      go_ret
      exact ⟨ret_u64 (by rw [e.out]; rfl), rfl⟩

theorem ref_Words_none (seed : Nat) (a : Option Addr) (cap : Nat) (hseed : seed < 18446744073709551616) (w : World) :
    Calls Try.prog 15 #[.int .u64 (seed : Int), .slice a 0 cap] w fun e w' => e = .returned (.int .u64 (wordsN seed [] : Nat)) ∧ w = w' := by
  have H0 := Lib.hid (fun w => ref_Step seed 0 hseed (by decide) w)
  have HE := Lib.hid (fun w => ref_End (stepN seed 0) (stepN_lt _ _) w)
  clear hseed
  go_enter Try.func15, Try.ntmps15
  go_wp2_with fail
  refine (H0.out w).mono ?_
  rintro e w1 ⟨rfl, rfl⟩
  go_wp2_with fail
  go_loop [5, 15] (fun v n => n = .int .i64 0 ∧ v = .int .u64 (stepN seed 0 : Nat)) (fun _ _ => 0)
  case atStart => exact ⟨rfl, rfl⟩
  case round =>
    obtain ⟨rfl, rfl⟩ := hrel
    go_wp2_with fail
    refine (HE.out _).mono ?_
    rintro e w1 ⟨rfl, rfl⟩
    go_wp2_with fail
    go_ret
    exact ⟨rfl, rfl⟩

set_option maxHeartbeats 1000000 in
theorem ref_Words (seed : Nat) (v : Value) (ys : List Nat) (hseed : seed < 18446744073709551616) (w : World) (hv : WordsAt w v ys) :
    Calls Try.prog 15 #[.int .u64 (seed : Int), v] w fun e w' => e = .returned (.int .u64 (wordsN seed ys : Nat)) ∧ w = w' := by
  obtain ⟨a, cap, b, o, rfl, ha, hc, hw, hm⟩ := hv
  by_cases h0 : ys.length = 0
  · obtain rfl := List.eq_nil_of_length_eq_zero h0
    exact ref_Words_none seed a cap hseed w
  obtain rfl := ha (by omega)
  unfold maxLen at hm
  obtain ⟨len, hlen⟩ : ∃ len, len = ys.length := ⟨_, rfl⟩
  have H0 := Lib.hid (fun w => ref_Step seed ys.length hseed (by omega) w)
  rw [← hlen] at hm H0 hc h0 ⊢
  have hcv : IntKind.u64.wrap (len : Int) = (len : Int) := by rw [IntKind.wrap_u64]; omega
  have HC := Lib.hid hc
  have HW := Lib.hid hw
  have HL := Lib.hid hlen
  clear hseed hc hw ha hlen
  go_enter Try.func15, Try.ntmps15
  go_wp2_with fail
  refine (H0.out w).mono ?_
  rintro e w1 ⟨rfl, rfl⟩
  go_wp2_with fail
  go_loop [5, 15] (fun v n => ∃ k : Nat, k ≤ len ∧ n = .int .i64 k ∧ v = .int .u64 (ws seed ys k : Nat)) (fun _ n => len - (intOf n).toNat)
  case atStart => exact ⟨0, Nat.zero_le _, rfl, by rw [ws, HL.out]⟩
  case round =>
    obtain ⟨k, hk, rfl, rfl⟩ := hrel
    by_cases h1 : k < len
    · have hcell : w.cell? ⟨b, o + k, none⟩ = some (.int .u64 (ys.getD k 0 : Nat)) := HC.out k h1
      obtain ⟨x, hx⟩ : ∃ x, x = ys.getD k 0 := ⟨_, rfl⟩
      have hxl : x < 18446744073709551616 := by rw [hx]; exact getD_lt HW.out k
      rw [← hx] at hcell
      have HX := Lib.hid hx
      have HS := Lib.hid (fun w => ref_Step (ws seed ys k) x (ws_lt _ _ _) hxl w)
      clear hx hxl
      go_wp2_with fail
      refine (HS.out _).mono ?_
      rintro e w1 ⟨rfl, rfl⟩
      go_wp2_with fail
      go_round
      case rel => exact ⟨k + 1, by omega, by go_num, by rw [HX.out]; rfl⟩
      case measure => simp [intOf]; omega
    · have HE := Lib.hid (fun w => ref_End (ws seed ys k) (ws_lt _ _ _) w)
      have e : Hid (k = ys.length) := by show _ = _; rw [← HL.out]; omega
      go_wp2_with fail
      refine (HE.out _).mono ?_
      rintro e w1 ⟨rfl, rfl⟩
      go_wp2_with fail
      go_ret
      exact ⟨ret_u64 (by rw [e.out]; rfl), rfl⟩
end Go.Proofs.Yteikjkfeadpdhaa
