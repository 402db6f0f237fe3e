/- A function value is not nil. -/
import Derived.Test.YtldemoflgahdgaaChecked
import Derived.WalkKit
import Derived.KernelRfl
namespace Go.Proofs.Ytldemoflgahdgaa
open Go.RowKit
theorem seq_nil (g : Nat) (lb : Array Value) (w : World) : (binOp .eql 45 (.func (.func g) #[] lb) .nilFunc).run Try.prog w = .ok (.bool false) w := by
  have hu := run_underlying (w := w) Try.underlying45
  have hm : Op.maxDepth = (Op.maxDepth - 1) + 1 := by decide
  unfold binOp
  simp only []
  unfold Op.equal
  rw [hm]
  unfold Op.equalIn
  simp [Sem.run_bind, hu, Result.andThen]
end Go.Proofs.Ytldemoflgahdgaa
