/- What layer 13's laws want of the world: the table of escapes and the handle of errors as they are laid; the document's comparison of two lists of texts. -/
import Derived.Test.YtgdlkaoadlipmaaDoorLaw13A
import Derived.Test.YtgdlkaoadlipmaaDoorPkH
import Derived.Test.YtgdlkaoadlipmaaDoorSg
import Derived.Test.YtgdlkaoadlipmaaDoorEsc
import Derived.Deep.QuietTactic
namespace Go.Proofs.YtgdlkaoadlipmaaDoor
open Go.RowKit
set_option maxRecDepth 1000000
set_option linter.unusedSimpArgs false

/-- What each of the laws wants: the table of escapes, the handle of errors, the table of signs. -/
def T13 (w : World) : Prop := Esc w ∧ ET w ∧ Sg w
theorem T13.below {w w' : World} (h : T13 w) (hb : Below w.heap.size w w') : T13 w' := ⟨h.1.below hb, h.2.1.below hb, h.2.2.below hb⟩
theorem T13.et {w : World} (h : T13 w) : ET w := h.2.1
theorem T13.sg {w : World} (h : T13 w) : Sg w := h.2.2
def signsB : List ByteArray := signsS.map fun x => ⟨x.toArray⟩
end Go.Proofs.YtgdlkaoadlipmaaDoor
