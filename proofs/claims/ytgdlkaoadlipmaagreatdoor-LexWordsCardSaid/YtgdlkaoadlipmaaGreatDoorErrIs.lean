/- errors.Is of an Errno: over a link, and over a chain itself. -/
import Derived.Test.YtgdlkaoadlipmaaGreatDoorErrChain
namespace Go.Proofs.YtgdlkaoadlipmaaGreatDoor
open Go.RowKit Go.Extern.Stop Go.Stop Go.Extern
set_option maxRecDepth 1000000

theorem comparable_c (w : World) : (callFunc 112 #[.agg #[.pointer (some ⟨7, 39, none⟩)]]).run Tryz.prog w = .ok (.value (.bool true)) w :=
  (@run_callFunc_extern Tryz.prog 112 _ (Extern.ReflectliteType.method fun t => do Extern.Rtype.noPackHeld "Comparable" t; pure (.bool (← typeInfo t).comparable)) Tryz.func112 (by kernel_rfl) (by kernel_rfl) (by kernel_rfl) (by kernel_rfl) _ w).trans (by kernel_rfl)
theorem comp_c : (Tryz.prog.info? 39).map (·.comparable) = some true := by kernel_rfl

/-- What errors.Is answers. -/
def IsPost (w : World) (c : Option Int) (d : Int) (e : Ending) (w' : World) : Prop := e = .returned (.bool (c == some d)) ∧ Below w.heap.size w w'

end Go.Proofs.YtgdlkaoadlipmaaGreatDoor
