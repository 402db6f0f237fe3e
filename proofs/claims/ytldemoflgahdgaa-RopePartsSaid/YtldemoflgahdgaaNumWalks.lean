/- The contracts of package num's sums, products and quotients: each returns the checked number; the world is as it was. -/
import Derived.Test.YtldemoflgahdgaaChecked
import Derived.Test.YtldemoflgahdgaaNumPure
import Derived.WalkKit
import Derived.WalkSpells
import Derived.Outline
import Derived.Lib.Hide
import Derived.Lib.MinMax
namespace Go.Proofs.Ytldemoflgahdgaa
open Go.RowKit

theorem ret_bool {x y : Bool} (h : x = y) : Ending.returned (.bool x) = .returned (.bool y) := by rw [h]
theorem ret_two {x y : Int × Int} (h : x = y) : Ending.returned (.tuple #[.int .i64 x.1, .int .i64 x.2]) = .returned (.tuple #[.int .i64 y.1, .int .i64 y.2]) := by rw [h]
abbrev two (x : Int × Int) : Value := .tuple #[.int .i64 x.1, .int .i64 x.2]








def plS (i n : Int) : Int × Bool := if 0 ≤ i ∧ i < n then (i, true) else if i < 0 ∧ 0 < n ∧ -n ≤ i then (n + i, true) else (0, false)
def edS (i n : Int) : Int := if i < 0 then max (n + i) 0 else min i n
def cutS (lo hi n : Int) : Int × Int := (edS lo (max n 0), max (edS lo (max n 0)) (edS hi (max n 0)))
theorem ret_place {x y : Int × Bool} (h : x = y) : Ending.returned (.tuple #[.int .i64 x.1, .bool x.2]) = .returned (.tuple #[.int .i64 y.1, .bool y.2]) := by rw [h]
theorem ret_int {x y : Int} (h : x = y) : Ending.returned (.int .i64 x) = .returned (.int .i64 y) := by rw [h]


set_option maxHeartbeats 400000 in
theorem num_bound (i n : Int) (w : World) (hi : InR i) (hn : InR n) (h0 : 0 ≤ n) : Calls Try.prog 47 #[.int .i64 i, .int .i64 n] w fun e w' => e = .returned (.int .i64 (edS i n)) ∧ w = w' := by
  obtain ⟨hi1, hi2⟩ := hi
  obtain ⟨hn1, hn2⟩ := hn
  by_cases h1 : i < 0
  · have H := Lib.hid (show edS i n = max (n + i) 0 from if_pos h1)
    go_enter Try.func47, Try.ntmps47
    go_wp2
    go_ret
    exact ⟨by rw [H.out]; rfl, rfl⟩
  · have H := Lib.hid (show edS i n = min i n from if_neg h1)
    go_enter Try.func47, Try.ntmps47
    go_wp2
    go_ret
    exact ⟨by rw [H.out]; rfl, rfl⟩
theorem edS_in (i n : Int) (h0 : 0 ≤ n) : 0 ≤ edS i n ∧ edS i n ≤ n := by unfold edS; split <;> omega

set_option maxHeartbeats 400000 in
theorem num_Cut (lo hi n : Int) (w : World) (hl : InR lo) (hh : InR hi) (hn : InR n) : Calls Try.prog 36 #[.int .i64 lo, .int .i64 hi, .int .i64 n] w fun e w' => e = .returned (.tuple #[.int .i64 (cutS lo hi n).1, .int .i64 (cutS lo hi n).2]) ∧ w = w' := by
  have hn' : InR (max n 0) := by unfold InR at *; omega
  have h0 : 0 ≤ max n 0 := by omega
  have H := Lib.hid (show cutS lo hi n = (edS lo (max n 0), max (edS lo (max n 0)) (edS hi (max n 0))) from rfl)
  go_enter Try.func36, Try.ntmps36
  go_wp2_with (first
    | (go_at_call 47; refine (num_bound _ _ _ (by assumption) hn' h0).mono ?_; rintro e w' ⟨rfl, rfl⟩))
  go_ret2
  exact ⟨by rw [H.out]; rfl, rfl⟩
end Go.Proofs.Ytldemoflgahdgaa
