/- Layer 7's law PvecDoes over package pvec as it landed. -/
import Derived.Test.YtpjbhdplginbaaaLaw07At
import Derived.Test.YtpjbhdplginbaaaLaw07Does
namespace Go.Proofs.Ytpjbhdplginbaaa
open Go.RowKit

theorem pvecDoes_walk (v : Value) (l : List Op7) (ask : Int) (_ : (Lit.int .i64 ask).wf = true) (w : World) (hl : Ops7 w v l) : Calls Try.prog 3 #[v, .int .i64 ask] w fun e w' => e = .returned (.bool true) ∧ Below w.heap.size w w' := pvecDoes_of v l ask w hl
end Go.Proofs.Ytpjbhdplginbaaa
