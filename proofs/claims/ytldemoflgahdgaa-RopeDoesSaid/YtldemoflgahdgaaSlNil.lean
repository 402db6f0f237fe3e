/- Whether a list is nil. -/
import Derived.Test.YtldemoflgahdgaaChecked
import Derived.WalkKit
import Derived.KernelRfl
namespace Go.Proofs.Ytldemoflgahdgaa
open Go.RowKit
theorem nodes_some (p : Addr) (n c : Nat) (w : World) : (binOp .eql 30 (.slice (some p) n c) (.slice none 0 0)).run Try.prog w = .ok (.bool false) w := by
  have hu := run_underlying (w := w) Try.underlying30
  have hm : Op.maxDepth = (Op.maxDepth - 1) + 1 := by decide
  unfold binOp
  simp only []
  unfold Op.equal
  rw [hm]
  unfold Op.equalIn
  simp [Sem.run_bind, hu, Result.andThen]
theorem nodes_none (w : World) : (binOp .eql 30 (.slice none 0 0) (.slice none 0 0)).run Try.prog w = .ok (.bool true) w := by
  have hu := run_underlying (w := w) Try.underlying30
  have hm : Op.maxDepth = (Op.maxDepth - 1) + 1 := by decide
  unfold binOp
  simp only []
  unfold Op.equal
  rw [hm]
  unfold Op.equalIn
  simp [Sem.run_bind, hu, Result.andThen]
theorem nodes_some' (p : Addr) (n c : Nat) (w : World) : (binOp .neq 30 (.slice (some p) n c) (.slice none 0 0)).run Try.prog w = .ok (.bool true) w := by
  have hu := run_underlying (w := w) Try.underlying30
  have hm : Op.maxDepth = (Op.maxDepth - 1) + 1 := by decide
  unfold binOp
  simp only []
  unfold Op.equal
  rw [hm]
  unfold Op.equalIn
  simp [Sem.run_bind, hu, Result.andThen]
theorem nodes_none' (w : World) : (binOp .neq 30 (.slice none 0 0) (.slice none 0 0)).run Try.prog w = .ok (.bool false) w := by
  have hu := run_underlying (w := w) Try.underlying30
  have hm : Op.maxDepth = (Op.maxDepth - 1) + 1 := by decide
  unfold binOp
  simp only []
  unfold Op.equal
  rw [hm]
  unfold Op.equalIn
  simp [Sem.run_bind, hu, Result.andThen]
theorem ints_some (p : Addr) (n c : Nat) (w : World) : (binOp .eql 31 (.slice (some p) n c) (.slice none 0 0)).run Try.prog w = .ok (.bool false) w := by
  have hu := run_underlying (w := w) Try.underlying31
  have hm : Op.maxDepth = (Op.maxDepth - 1) + 1 := by decide
  unfold binOp
  simp only []
  unfold Op.equal
  rw [hm]
  unfold Op.equalIn
  simp [Sem.run_bind, hu, Result.andThen]
end Go.Proofs.Ytldemoflgahdgaa
