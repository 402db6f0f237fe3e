/- The contract of num.Digits: the decimal numeral, by the library's own contract of strconv.FormatInt; the table of powers of ten is a premise. -/
import Derived.Test.YtlgjmmhofklneaaDoorNumText
import Derived.Test.YtlgjmmhofklneaaDoorNumBytes
import Derived.Test.YtlgjmmhofklneaaDoorShelf
import Derived.Test.YtlgjmmhofklneaaDoorRows
import Derived.Lib.AppendIntMem
import Derived.Lib.ItoaLen
namespace Go.Proofs.YtlgjmmhofklneaaDoor
open Go.RowKit

/-- The table's name, as the given row has it. -/
def tabN : String := Rows.faultAsksRow.named.getD 1 (String.ofList [])
def Tab (w : World) : Prop := Lib.TabIs Tryd.prog w tabN .u64 Lib.pow10Tab
theorem Tab.below {w w' : World} (h : Tab w) (hb : Below w.heap.size w w') : Tab w' := Lib.tabBelow_of_tabIs h w' hb

set_option maxHeartbeats 1000000 in
theorem num_Digits (n : Int) (w : World) (hn : InR n) (htab : Tab w) : Calls Tryd.prog 28 #[.int .i64 n] w fun e w' => e = .returned (.string ⟨(Lib.itoa n).toArray⟩) ∧ Below w.heap.size w w' := by
  have hb : Hid (∀ k os, Below w.heap.size w (Go.Sort.grow (w.drewN k) os)) := fun k os => Lib.below_grow _ _ (Nat.le_refl _) _ _
  obtain ⟨h0, h1⟩ := hn
  go_enter Tryd.func28, Tryd.ntmps28
  go_wp2_with (go_at_call 38; refine (Any.strconv_FormatInt_10 Tryd.laysM173 n h0 h1 _ htab).mono ?_; rintro e w' ⟨rfl, k, os, rfl⟩)
  go_ret
  exact ⟨rfl, hb.out _ _⟩
end Go.Proofs.YtlgjmmhofklneaaDoor
