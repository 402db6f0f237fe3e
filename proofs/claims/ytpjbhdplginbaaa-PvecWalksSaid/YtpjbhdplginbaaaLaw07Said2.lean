/- Layer 7's law PvecWalks over package pvec as it landed. -/
import Derived.Test.YtpjbhdplginbaaaLaw07At
import Derived.Test.YtpjbhdplginbaaaLaw07Walks
namespace Go.Proofs.Ytpjbhdplginbaaa
open Go.RowKit

theorem pvecWalks_walk (n most : Int) (_ : (Lit.int .i64 n).wf = true) (_ : (Lit.int .i64 most).wf = true) (w : World) : Calls Try.prog 5 #[.int .i64 n, .int .i64 most] w fun e w' => e = .returned (.bool true) ∧ Below w.heap.size w w' := pvecWalks_of n most w
end Go.Proofs.Ytpjbhdplginbaaa
