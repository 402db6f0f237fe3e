/- The contracts of package num's sums, products and quotients: each returns the checked number; the world is as it was. -/
import Derived.Test.YtjefaibnlhnaiaaChecked
import Derived.Test.YtjefaibnlhnaiaaNumPure
import Derived.WalkKit
import Derived.WalkSpells
import Derived.Outline
import Derived.Lib.Hide
import Derived.Lib.MinMax
namespace Go.Proofs.Ytjefaibnlhnaiaa
open Go.RowKit

theorem ret_bool {x y : Bool} (h : x = y) : Ending.returned (.bool x) = .returned (.bool y) := by rw [h]
theorem ret_two {x y : Int × Int} (h : x = y) : Ending.returned (.tuple #[.int .i64 x.1, .int .i64 x.2]) = .returned (.tuple #[.int .i64 y.1, .int .i64 y.2]) := by rw [h]
abbrev two (x : Int × Int) : Value := .tuple #[.int .i64 x.1, .int .i64 x.2]








def plS (i n : Int) : Int × Bool := if 0 ≤ i ∧ i < n then (i, true) else if i < 0 ∧ 0 < n ∧ -n ≤ i then (n + i, true) else (0, false)
def edS (i n : Int) : Int := if i < 0 then max (n + i) 0 else min i n
def cutS (lo hi n : Int) : Int × Int := (edS lo (max n 0), max (edS lo (max n 0)) (edS hi (max n 0)))
theorem ret_place {x y : Int × Bool} (h : x = y) : Ending.returned (.tuple #[.int .i64 x.1, .bool x.2]) = .returned (.tuple #[.int .i64 y.1, .bool y.2]) := by rw [h]
theorem ret_int {x y : Int} (h : x = y) : Ending.returned (.int .i64 x) = .returned (.int .i64 y) := by rw [h]


theorem edS_in (i n : Int) (h0 : 0 ≤ n) : 0 ≤ edS i n ∧ edS i n ≤ n := by unfold edS; split <;> omega

end Go.Proofs.Ytjefaibnlhnaiaa
