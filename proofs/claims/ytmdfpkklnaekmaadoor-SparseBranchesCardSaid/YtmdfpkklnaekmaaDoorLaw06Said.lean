/- Layer 6's laws over package sparse as it landed. -/
import Derived.Test.YtmdfpkklnaekmaaDoorLaw06At
import Derived.Test.YtmdfpkklnaekmaaDoorLaw06Does
import Derived.Test.YtmdfpkklnaekmaaDoorLaw06Branches
import Derived.Test.YtmdfpkklnaekmaaDoorLaw06Order
import Derived.Test.YtmdfpkklnaekmaaDoorLaw06Made
import Derived.Test.YtmdfpkklnaekmaaDoorLawKitI
namespace Go.Proofs.YtmdfpkklnaekmaaDoor
open Go.RowKit Go.ChangeShapes Go.WideShapes

theorem ofspec6 : OfSpec At6 where
  of W b v zs hb hv hl := sp_Of W b v zs hb hv hl
theorem nat_of_u32 {n : Int} (h : (Lit.int .u32 n).wf = true) : ∃ m : Nat, n = (m : Int) ∧ m < 4294967296 := by
  have h2 := Bool.and_eq_true_iff.1 (show (decide (IntKind.u32.min ≤ n) && decide (n ≤ IntKind.u32.max)) = true from h)
  have h3 : (0 : Int) ≤ n := of_decide_eq_true h2.1
  have h4 : n ≤ 4294967295 := of_decide_eq_true h2.2
  exact ⟨n.toNat, by omega, by omega⟩
theorem sparseDoes_walk (v : Value) (l : List Opr) (ask : Int) (ha : (Lit.int .i64 ask).wf = true) (w : World) (hl : OpsAt w v l) (hT : Tab6 w) :
    Calls Tryd.prog 3 #[v, .int .i64 ask] w fun e w' => e = .returned (.bool true) ∧ Below w.heap.size w w' := sparseDoes_of rspec6 v l ask (op_in ha) w hl hT
theorem sparseBranches_walk (v : Value) (l : List Opr) (va : Value) (la : List Opr) (vb : Value) (lb : List Opr) (w : World) (hl : OpsAt w v l) (hla : OpsAt w va la) (hlb : OpsAt w vb lb) (hT : Tab6 w) :
    Calls Tryd.prog 4 #[v, va, vb] w fun e w' => e = .returned (.bool true) ∧ Below w.heap.size w w' := sparseBranches_of rspec6 v va vb l la lb w hl hla hlb hT
theorem sparseOrder_walk (v : Value) (l : List Opr) (a b : Opr) (ha : In64 a.1 ∧ In64 a.2.1) (hb : In64 b.1 ∧ In64 b.2.1) (w : World) (hl : OpsAt w v l) (hT : Tab6 w) :
    Calls Tryd.prog 8 #[v, .agg (opC a), .agg (opC b)] w fun e w' => e = .returned (.bool true) ∧ Below w.heap.size w w' := sparseOrder_of rspec6 v l a b ha hb w hl hT
theorem sparseMade_walk (b : Int) (v : Value) (zs : List Int) (hb : (Lit.int .u32 b).wf = true) (w : World) (hv : IntsAt w v zs) (hT : Tab6 w) :
    Calls Tryd.prog 7 #[.int .u32 b, v] w fun e w' => e = .returned (.bool true) ∧ Below w.heap.size w w' := by
  obtain ⟨m, rfl, hm⟩ := nat_of_u32 hb
  exact sparseMade_of rspec6 ofspec6 m hm v zs w hv hT
end Go.Proofs.YtmdfpkklnaekmaaDoor
