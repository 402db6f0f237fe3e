/- The contracts of package num's sums, products and quotients: each returns the checked number; the world is as it was. -/
import Derived.Test.YtjfnodpchjkkmaaDoorChecked
import Derived.Test.YtjfnodpchjkkmaaDoorNumPure
import Derived.WalkKit
import Derived.WalkSpells
import Derived.Outline
import Derived.Lib.Hide
import Derived.Lib.MinMax
namespace Go.Proofs.YtjfnodpchjkkmaaDoor
open Go.RowKit

theorem ret_bool {x y : Bool} (h : x = y) : Ending.returned (.bool x) = .returned (.bool y) := by rw [h]
theorem ret_two {x y : Int × Int} (h : x = y) : Ending.returned (.tuple #[.int .i64 x.1, .int .i64 x.2]) = .returned (.tuple #[.int .i64 y.1, .int .i64 y.2]) := by rw [h]
abbrev two (x : Int × Int) : Value := .tuple #[.int .i64 x.1, .int .i64 x.2]

set_option maxHeartbeats 400000 in
theorem num_Add (a b : Int) (w : World) (ha : InR a) (hb : InR b) : Calls Tryd.prog 10 #[.int .i64 a, .int .i64 b] w fun e w' => e = .returned (.tuple #[.int .i64 (addS a b).1, .int .i64 (addS a b).2]) ∧ w = w' := by
  have ht := add_test a b ha hb
  have H := Lib.hid ht; clear ht
  go_enter Tryd.func10, Tryd.ntmps10
  go_wp2
  · go_ret2
    exact ⟨by rw [addS_out (H.out.1 (by assumption))]; rfl, rfl⟩
  · go_ret2
    exact ⟨by rw [addS_in (Classical.not_not.1 fun h => by have := H.out.2 h; omega)]; rfl, rfl⟩

set_option maxHeartbeats 400000 in
theorem num_Sub (a b : Int) (w : World) (ha : InR a) (hb : InR b) : Calls Tryd.prog 12 #[.int .i64 a, .int .i64 b] w fun e w' => e = .returned (.tuple #[.int .i64 (subS a b).1, .int .i64 (subS a b).2]) ∧ w = w' := by
  have ht := sub_test a b ha hb
  have H := Lib.hid ht; clear ht
  go_enter Tryd.func12, Tryd.ntmps12
  go_wp2
  · go_ret2
    exact ⟨by rw [subS_out (H.out.1 (by assumption))]; rfl, rfl⟩
  · go_ret2
    exact ⟨by rw [subS_in (Classical.not_not.1 fun h => by have := H.out.2 h; omega)]; rfl, rfl⟩

theorem num_pastMost (a b : Int) (w : World) : Calls Tryd.prog 33 #[.int .i64 a, .int .i64 b] w fun e w' => e = .returned (.bool (pm a b)) ∧ w = w' := by
  by_cases h1 : a = -9223372036854775808
  · subst h1
    by_cases h2 : b = -1
    · subst h2
      go_enter Tryd.func33, Tryd.ntmps33
      go_wp2
      go_ret
      exact ⟨rfl, rfl⟩
    · have hp : pm (-9223372036854775808) b = false := by simp [pm, h2]
      have H := Lib.hid hp; clear hp
      have hb : (b == -1) = false := beq_eq_false_iff_ne.2 h2
      clear h2
      go_enter Tryd.func33, Tryd.ntmps33
      go_wp2
      go_ret
      exact ⟨by rw [H.out]; rfl, rfl⟩
  · have hp : pm a b = false := by simp [pm, h1]
    have H := Lib.hid hp; clear hp
    have ha : (a == -9223372036854775808) = false := beq_eq_false_iff_ne.2 h1
    clear h1
    go_enter Tryd.func33, Tryd.ntmps33
    go_wp2
    all_goals
      go_ret
      exact ⟨by rw [H.out]; rfl, rfl⟩

theorem num_unlikeSigns (a b : Int) (w : World) : Calls Tryd.prog 34 #[.int .i64 a, .int .i64 b] w fun e w' => e = .returned (.bool (us a b)) ∧ w = w' := by
  go_enter Tryd.func34, Tryd.ntmps34
  go_wp2
  all_goals
    go_ret
    refine ⟨ret_bool ?_, rfl⟩
    unfold us
    first
      | exact (decide_eq_true (by omega)).symm
      | exact (decide_eq_false (by omega)).symm
      | (rw [Bool.eq_iff_iff]; simp; omega)

set_option maxHeartbeats 400000 in
theorem num_Mul (a b : Int) (w : World) (ha : InR a) (hb : InR b) : Calls Tryd.prog 15 #[.int .i64 a, .int .i64 b] w fun e w' => e = .returned (.tuple #[.int .i64 (mulS a b).1, .int .i64 (mulS a b).2]) ∧ w = w' := by
  by_cases h0 : b = 0
  · subst h0
    have H := Lib.hid (mulS_zero a)
    go_enter Tryd.func15, Tryd.ntmps15
    go_wp2
    go_ret2
    exact ⟨by rw [H.out]; rfl, rfl⟩
  · have hb0 : (b == 0) = false := beq_eq_false_iff_ne.2 h0
    go_enter Tryd.func15, Tryd.ntmps15
    go_wp2_with (go_at_call 33; refine (num_pastMost _ _ _).mono ?_; rintro e w' ⟨rfl, rfl⟩)
    · go_ret2
      exact ⟨by rw [mulS_pm (by assumption)]; rfl, rfl⟩
    · go_ret2
      exact ⟨by rw [mulS_bad ha hb h0 (Bool.eq_false_iff.2 ‹_›) (by assumption)]; rfl, rfl⟩
    · go_ret2
      exact ⟨by rw [mulS_good ha hb h0 (Bool.eq_false_iff.2 ‹_›) (by assumption)]; rfl, rfl⟩

set_option maxHeartbeats 400000 in
theorem num_Div (a b : Int) (w : World) (ha : InR a) (hb : InR b) : Calls Tryd.prog 17 #[.int .i64 a, .int .i64 b] w fun e w' => e = .returned (.tuple #[.int .i64 (divS a b).1, .int .i64 (divS a b).2]) ∧ w = w' := by
  by_cases h0 : b = 0
  · subst h0
    have H := Lib.hid (divS_zero a)
    go_enter Tryd.func17, Tryd.ntmps17
    go_wp2
    go_ret2
    exact ⟨by rw [H.out]; rfl, rfl⟩
  · have hb0 : (b == 0) = false := beq_eq_false_iff_ne.2 h0
    go_enter Tryd.func17, Tryd.ntmps17
    go_wp2_with (first
      | (go_at_call 33; refine (num_pastMost _ _ _).mono ?_; rintro e w' ⟨rfl, rfl⟩)
      | (go_at_call 34; refine (num_unlikeSigns _ _ _).mono ?_; rintro e w' ⟨rfl, rfl⟩))
    · go_ret2
      exact ⟨by rw [divS_pm (by assumption)]; rfl, rfl⟩
    · go_ret2
      exact ⟨by rw [divS_us ha h0 (by assumption) (by assumption)]; rfl, rfl⟩
    · go_ret2
      exact ⟨by rw [divS_like ha h0 (by assumption) (by assumption)]; rfl, rfl⟩

set_option maxHeartbeats 400000 in
theorem num_Mod (a b : Int) (w : World) (hb : InR b) : Calls Tryd.prog 19 #[.int .i64 a, .int .i64 b] w fun e w' => e = .returned (.tuple #[.int .i64 (modS a b).1, .int .i64 (modS a b).2]) ∧ w = w' := by
  by_cases h0 : b = 0
  · subst h0
    have H := Lib.hid (modS_zero a)
    go_enter Tryd.func19, Tryd.ntmps19
    go_wp2
    go_ret2
    exact ⟨by rw [H.out]; rfl, rfl⟩
  · have hb0 : (b == 0) = false := beq_eq_false_iff_ne.2 h0
    go_enter Tryd.func19, Tryd.ntmps19
    go_wp2_with (first
      | (go_at_call 34; refine (num_unlikeSigns _ _ _).mono ?_; rintro e w' ⟨rfl, rfl⟩))
    · go_ret2
      exact ⟨by rw [modS_us hb h0 (by assumption)]; rfl, rfl⟩
    · go_ret2
      exact ⟨by rw [modS_like h0 (by assumption)]; rfl, rfl⟩

def plS (i n : Int) : Int × Bool := if 0 ≤ i ∧ i < n then (i, true) else if i < 0 ∧ 0 < n ∧ -n ≤ i then (n + i, true) else (0, false)
def edS (i n : Int) : Int := if i < 0 then max (n + i) 0 else min i n
def cutS (lo hi n : Int) : Int × Int := (edS lo (max n 0), max (edS lo (max n 0)) (edS hi (max n 0)))
theorem ret_place {x y : Int × Bool} (h : x = y) : Ending.returned (.tuple #[.int .i64 x.1, .bool x.2]) = .returned (.tuple #[.int .i64 y.1, .bool y.2]) := by rw [h]
theorem ret_int {x y : Int} (h : x = y) : Ending.returned (.int .i64 x) = .returned (.int .i64 y) := by rw [h]

set_option maxHeartbeats 400000 in
theorem num_Place (i n : Int) (w : World) (hi : InR i) (hn : InR n) : Calls Tryd.prog 29 #[.int .i64 i, .int .i64 n] w fun e w' => e = .returned (.tuple #[.int .i64 (plS i n).1, .bool (plS i n).2]) ∧ w = w' := by
  obtain ⟨hi1, hi2⟩ := hi
  obtain ⟨hn1, hn2⟩ := hn
  by_cases h1 : 0 ≤ i ∧ i < n
  · have H := Lib.hid (show plS i n = (i, true) from if_pos h1)
    obtain ⟨h1, h2⟩ := h1
    go_enter Tryd.func29, Tryd.ntmps29
    go_wp2
    go_ret2
    exact ⟨by rw [H.out]; rfl, rfl⟩
  · by_cases h2 : i < 0 ∧ 0 < n ∧ -n ≤ i
    · have H := Lib.hid (show plS i n = (n + i, true) from by unfold plS; rw [if_neg h1, if_pos h2])
      obtain ⟨h2, h3, h4⟩ := h2
      clear h1
      go_enter Tryd.func29, Tryd.ntmps29
      go_wp2
      go_ret2
      exact ⟨by rw [H.out]; rfl, rfl⟩
    · have H := Lib.hid (show plS i n = (0, false) from by unfold plS; rw [if_neg h1, if_neg h2])
      by_cases hi0 : 0 ≤ i
      · have h3 : n ≤ i := by omega
        clear h1 h2
        go_enter Tryd.func29, Tryd.ntmps29
        go_wp2
        go_ret2
        exact ⟨by rw [H.out]; rfl, rfl⟩
      · by_cases hn0 : 0 < n
        · have h3 : i < -n := by omega
          have h4 : i < 0 := by omega
          clear h1 h2
          go_enter Tryd.func29, Tryd.ntmps29
          go_wp2
          go_ret2
          exact ⟨by rw [H.out]; rfl, rfl⟩
        · have h4 : i < 0 := by omega
          have h5 : n ≤ 0 := by omega
          clear h1 h2
          go_enter Tryd.func29, Tryd.ntmps29
          go_wp2
          go_ret2
          exact ⟨by rw [H.out]; rfl, rfl⟩

set_option maxHeartbeats 400000 in
theorem num_bound (i n : Int) (w : World) (hi : InR i) (hn : InR n) (h0 : 0 ≤ n) : Calls Tryd.prog 39 #[.int .i64 i, .int .i64 n] w fun e w' => e = .returned (.int .i64 (edS i n)) ∧ w = w' := by
  obtain ⟨hi1, hi2⟩ := hi
  obtain ⟨hn1, hn2⟩ := hn
  by_cases h1 : i < 0
  · have H := Lib.hid (show edS i n = max (n + i) 0 from if_pos h1)
    go_enter Tryd.func39, Tryd.ntmps39
    go_wp2
    go_ret
    exact ⟨by rw [H.out]; rfl, rfl⟩
  · have H := Lib.hid (show edS i n = min i n from if_neg h1)
    go_enter Tryd.func39, Tryd.ntmps39
    go_wp2
    go_ret
    exact ⟨by rw [H.out]; rfl, rfl⟩
theorem edS_in (i n : Int) (h0 : 0 ≤ n) : 0 ≤ edS i n ∧ edS i n ≤ n := by unfold edS; split <;> omega

set_option maxHeartbeats 400000 in
theorem num_Cut (lo hi n : Int) (w : World) (hl : InR lo) (hh : InR hi) (hn : InR n) : Calls Tryd.prog 31 #[.int .i64 lo, .int .i64 hi, .int .i64 n] w fun e w' => e = .returned (.tuple #[.int .i64 (cutS lo hi n).1, .int .i64 (cutS lo hi n).2]) ∧ w = w' := by
  have hn' : InR (max n 0) := by unfold InR at *; omega
  have h0 : 0 ≤ max n 0 := by omega
  have H := Lib.hid (show cutS lo hi n = (edS lo (max n 0), max (edS lo (max n 0)) (edS hi (max n 0))) from rfl)
  go_enter Tryd.func31, Tryd.ntmps31
  go_wp2_with (first
    | (go_at_call 39; refine (num_bound _ _ _ (by assumption) hn' h0).mono ?_; rintro e w' ⟨rfl, rfl⟩))
  go_ret2
  exact ⟨by rw [H.out]; rfl, rfl⟩
end Go.Proofs.YtjfnodpchjkkmaaDoor
