/- errors.Is of an Errno: over a link, and over a chain itself. -/
import Derived.Test.YtgdlkaoadlipmaaDoorErrChain
namespace Go.Proofs.YtgdlkaoadlipmaaDoor
open Go.RowKit Go.Extern.Stop Go.Stop Go.Extern
set_option maxRecDepth 1000000

theorem comparable_c (w : World) : (callFunc 121 #[.agg #[.pointer (some ⟨7, 29, none⟩)]]).run Tryd.prog w = .ok (.value (.bool true)) w :=
  (@run_callFunc_extern Tryd.prog 121 _ (Extern.ReflectliteType.method fun t => do Extern.Rtype.noPackHeld "Comparable" t; pure (.bool (← typeInfo t).comparable)) Tryd.func121 (by kernel_rfl) (by kernel_rfl) (by kernel_rfl) (by kernel_rfl) _ w).trans (by kernel_rfl)
theorem comp_c : (Tryd.prog.info? 29).map (·.comparable) = some true := by kernel_rfl

/-- What errors.Is answers. -/
def IsPost (w : World) (c : Option Int) (d : Int) (e : Ending) (w' : World) : Prop := e = .returned (.bool (c == some d)) ∧ Below w.heap.size w w'

end Go.Proofs.YtgdlkaoadlipmaaDoor
