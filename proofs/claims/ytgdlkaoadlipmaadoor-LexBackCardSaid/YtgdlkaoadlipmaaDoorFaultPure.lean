/- Layer 4 in plain words: the text of an error. -/
import Derived.Test.YtgdlkaoadlipmaaDoorPkB
import Derived.Lib.ItoaLen
namespace Go.Proofs.YtgdlkaoadlipmaaDoor
open Go.RowKit

/-- ' at 7' -/
def atS (n : Int) : List UInt8 := [32, 97, 116, 32] ++ Lib.itoa n
/-- The text of these places. -/
def atsS (l : List Int) : List UInt8 := l.flatMap atS
/-- The text of an error of this code at these places. -/
def errS (c : Int) (l : List Int) : List UInt8 := [101, 114, 114, 111, 114, 32] ++ Lib.itoa c ++ atsS l
theorem atsS_nil : atsS [] = [] := rfl
theorem atsS_app (l r : List Int) : atsS (l ++ r) = atsS l ++ atsS r := by simp [atsS]
theorem atsS_one (n : Int) : atsS [n] = atS n := by simp [atsS]
theorem take_snocI (l : List Int) (k : Nat) (h : k < l.length) : l.take (k + 1) = l.take k ++ [l.getD k 0] := by
  rw [List.take_add_one, List.getElem?_eq_getElem h, List.getD_eq_getElem?_getD, List.getElem?_eq_getElem h]; rfl
theorem atsS_take (l : List Int) (k : Nat) (h : k < l.length) : atsS (l.take (k + 1)) = atsS (l.take k) ++ atS (l.getD k 0) := by
  rw [take_snocI l k h, atsS_app, atsS_one]
theorem itoa_len (n : Int) (h : InR n) : (Lib.itoa n).length ≤ 21 := Lib.itoa_length_le n h.1 h.2
theorem atS_len (n : Int) (h : InR n) : (atS n).length ≤ 25 := by
  have := itoa_len n h
  simp [atS]; omega
theorem atsS_len (l : List Int) (h : ∀ n ∈ l, InR n) : (atsS l).length ≤ 25 * l.length := by
  induction l with
  | nil => simp [atsS]
  | cons a l ih =>
    have h1 := atS_len a (h a (by simp))
    have h2 := ih (fun n hn => h n (by simp [hn]))
    rw [show a :: l = [a] ++ l from rfl, atsS_app, atsS_one, List.length_append, List.length_append]
    simp only [List.length_singleton]
    omega
end Go.Proofs.YtgdlkaoadlipmaaDoor
