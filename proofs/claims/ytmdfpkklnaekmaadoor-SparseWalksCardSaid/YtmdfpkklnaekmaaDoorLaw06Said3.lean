/- Layer 6's law SparseWalks over package sparse as it landed. -/
import Derived.Test.YtmdfpkklnaekmaaDoorLaw06Walks
namespace Go.Proofs.YtmdfpkklnaekmaaDoor
open Go.RowKit Go.ChangeShapes Go.WideShapes

theorem sparseWalks_walk (v : Value) (l : List Opr) (most : Int) (_ : (Lit.int .i64 most).wf = true) (w : World) (hl : OpsAt w v l) (hT : Tab6 w) :
    Calls Tryd.prog 5 #[v, .int .i64 most] w fun e w' => e = .returned (.bool true) ∧ Below w.heap.size w w' := sparseWalks_of v l most w hl hT
end Go.Proofs.YtmdfpkklnaekmaaDoor
