/- Layer 6's law SparseMaps over package sparse as it landed. -/
import Derived.Test.YtmdfpkklnaekmaaDoorLaw06At
import Derived.Test.YtmdfpkklnaekmaaDoorLaw06Maps
namespace Go.Proofs.YtmdfpkklnaekmaaDoor
open Go.RowKit Go.ChangeShapes Go.WideShapes

theorem mapspec6 : MapSpec Tab6 At6 where
  map W R c h hT fb g fnum hent hf hg := sp_Map W R c h hT fb g fnum hent hf hg
theorem sparseMaps_walk (v : Value) (l : List Opr) (k : Int) (_ : (Lit.int .i64 k).wf = true) (w : World) (hl : OpsAt w v l) (hT : Tab6 w) :
    Calls Tryd.prog 6 #[v, .int .i64 k] w fun e w' => e = .returned (.bool true) ∧ Below w.heap.size w w' := sparseMaps_of rspec6 mapspec6 v l k w hl hT
end Go.Proofs.YtmdfpkklnaekmaaDoor
