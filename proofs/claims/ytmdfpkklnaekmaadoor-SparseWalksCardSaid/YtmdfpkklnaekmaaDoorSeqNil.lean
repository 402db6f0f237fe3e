/- A function value is not nil. -/
import Derived.Test.YtmdfpkklnaekmaaDoorChecked
import Derived.WalkKit
import Derived.KernelRfl
namespace Go.Proofs.YtmdfpkklnaekmaaDoor
open Go.RowKit
theorem seq_nil (g : Nat) (lb : Array Value) (w : World) : (binOp .eql 44 (.func (.func g) #[] lb) .nilFunc).run Tryd.prog w = .ok (.bool false) w := by
  have hu := run_underlying (w := w) Tryd.underlying44
  have hm : Op.maxDepth = (Op.maxDepth - 1) + 1 := by decide
  unfold binOp
  simp only []
  unfold Op.equal
  rw [hm]
  unfold Op.equalIn
  simp [Sem.run_bind, hu, Result.andThen]
end Go.Proofs.YtmdfpkklnaekmaaDoor
