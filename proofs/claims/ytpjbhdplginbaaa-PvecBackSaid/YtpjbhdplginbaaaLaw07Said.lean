/- Layer 7's laws over package pvec as it landed: PvecBack, PvecFlat, PvecBranches. -/
import Derived.Test.YtpjbhdplginbaaaLaw07At
import Derived.Test.YtpjbhdplginbaaaLaw07Back
import Derived.Test.YtpjbhdplginbaaaLaw07Flat
import Derived.Test.YtpjbhdplginbaaaLaw07Branches
namespace Go.Proofs.Ytpjbhdplginbaaa
open Go.RowKit

theorem pvecBack_walk (n more : Int) (_ : (Lit.int .i64 n).wf = true) (_ : (Lit.int .i64 more).wf = true) (w : World) : Calls Try.prog 6 #[.int .i64 n, .int .i64 more] w fun e w' => e = .returned (.bool true) ∧ Below w.heap.size w w' := pvecBack_of n more w
theorem pvecFlat_walk (v : Value) (l : List Op7) (w : World) (hl : Ops7 w v l) : Calls Try.prog 7 #[v] w fun e w' => e = .returned (.bool true) ∧ Below w.heap.size w w' := pvecFlat_of v l w hl
theorem pvecBranches_walk (v : Value) (l : List Op7) (va : Value) (la : List Op7) (vb : Value) (lb : List Op7) (w : World) (hl : Ops7 w v l) (hla : Ops7 w va la) (hlb : Ops7 w vb lb) : Calls Try.prog 4 #[v, va, vb] w fun e w' => e = .returned (.bool true) ∧ Below w.heap.size w w' := pvecBranches_of v va vb l la lb w hl hla hlb
end Go.Proofs.Ytpjbhdplginbaaa
