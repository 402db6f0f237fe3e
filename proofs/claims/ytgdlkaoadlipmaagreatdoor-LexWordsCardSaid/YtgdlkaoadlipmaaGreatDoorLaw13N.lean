/- Law LexNext. (written by tools/gen13/law13.py) -/
import Derived.Test.YtgdlkaoadlipmaaGreatDoorLaw13L
import Derived.Handy
import Derived.Deep.Cut
namespace Go.Proofs.YtgdlkaoadlipmaaGreatDoor
open Go.RowKit
set_option maxRecDepth 1000000
set_option linter.unusedSimpArgs false

theorem eq_tok (c : Tok) (w : World) : (binOp .eql 25 (.agg (tokC c)) (.agg (tokC c))).run Tryz.prog w = .ok (.bool true) w := by
  have hu : Tryz.prog.underlying 25 = some (.struct (Tryz.prog.fieldsOf 25)) := by kernel_rfl
  have hp : Tryz.prog.stoodInHeld 25 = false := by kernel_rfl
  rw [run_eql_struct, run_equalIn_agg w 9999 _ _ _ hu hp]
  simp [Program.fieldsOf, Tryz.underlying25, Op.eqFields, tokC, go_sem]
end Go.Proofs.YtgdlkaoadlipmaaGreatDoor
