/- Package rope: node.slice, at every height. (written by tools/gen08/slice8.py) -/
import Derived.Test.YtldemoflgahdgaaRp11
namespace Go.Proofs.Ytldemoflgahdgaa
open Go.RowKit
set_option maxRecDepth 1000000
set_option linter.unusedSimpArgs false
theorem piece_none (l : List Int) (i : Nat) : pieceL l i i = [] := by
  unfold pieceL
  rw [List.drop_of_length_le (by rw [List.length_take]; omega)]
theorem sli_step (h : Nat) (ih : ∀ h', h = h' + 1 → SliDoes h') : SliDoes h := by
  intro S W p lo hi hp hr h1 h2 hN
  rcases Nat.lt_or_ge lo hi with hlt | hge
  · by_cases hw : hi - lo = p.l.length
    · exact sli_whole h S W p lo hi hp hr hlt h2 hN hw
    · cases h with
      | zero => exact sli_leaf S W p lo hi hp hlt h2 hN hw
      | succ h => exact sli_inner h (ih h rfl) S W p lo hi hp hlt h2 hN hw
  · obtain rfl : lo = hi := by omega
    rw [piece_none]
    exact sli_none S W _ lo
theorem rp_slice : ∀ h, SliDoes h
  | 0 => sli_step 0 fun _ e => (by cases e)
  | h + 1 => sli_step (h + 1) fun h' e => (by cases e; exact rp_slice h)
end Go.Proofs.Ytldemoflgahdgaa
