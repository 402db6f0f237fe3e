/-
  NARROWER THAN 'FOR EVERY INPUT', by the rows' own cells (each row's printed sentence says how): DictAsks: laid · DictEnds: laid · DictJoins: laid · DictChanges: laid · DictApplies: laid · DictBack: laid · DictParts: laid · DictSteps: laid.
  DERIVED. THE GIVEN ROWS OF THIS SEAT. 8 by the template 'for every input the law returns true; each argument reads behind the call as it read before'; 0 by the template 'total and deterministic' (their statements: YtnnlfgfgfegjkaaDoorTotals.lean).
  GIVEN WITH THE SEED: the statements are not yours to turn. If you find one false, say at which input.
  Laid BY PROGRAM, IN A SANDBOX (cutbox-rows.mjs): the forced cells as the released guide's own fill.sh prints them over the translation 3fd56f11422d3240… (all of the seat's roots in one cut). By AI agents, Wed Nov 11 2026. No macro, syntax, notation, axiom, sorry.
-/
import Derived.Test.YtnnlfgfgfegjkaaDoorChecked
import GoSem.Claim
import GoSem.ClaimJoined
import GoSem.ClaimMapViews
import Derived.JoinedTies
import Derived.KernelRfl
namespace Go.Proofs.YtnnlfgfgfegjkaaDoor
/- THE CELL 'sum', in the pinned program and in every row, IS THE sha256 OF THE DUMP (.gsa) THAT YtnnlfgfgfegjkaaDoorProg.lean LOADS. Nothing in Lean hashes anything: it is a label: what it is worth is what the hold of that sum in a sandbox is worth. -/
noncomputable def Tryd.pinned : Pinned := { name := "ytnnlfgfgfegjkaadoor", sum := "3fd56f11422d3240472471585e22116b0fed39d8a25becbe87ae70c4671b6519", checked := Tryd.checked }
namespace Rows
def none {H : Type} : Left H := { results := [], args := [] }

/- WHAT THE LISTED PACKAGE-LEVEL VARIABLES READ AS WHEN THE CALL BEGINS. Each datum BY PROGRAM (the guide's laid-datum.mjs) off the statement by which the dump's own 'gosem.cut.vars' lays the variable. In a bare row this is a premise. The card (YtnnlfgfgfegjkaaDoorCards.lean) ties it to the program's text. -/
def laid_math_bits_deBruijn32tab {H : Type} : DataW H := .agg [.lit (.int .u8 0), .lit (.int .u8 1), .lit (.int .u8 28), .lit (.int .u8 2), .lit (.int .u8 29), .lit (.int .u8 14), .lit (.int .u8 24), .lit (.int .u8 3), .lit (.int .u8 30), .lit (.int .u8 22), .lit (.int .u8 20), .lit (.int .u8 15), .lit (.int .u8 25), .lit (.int .u8 17), .lit (.int .u8 4), .lit (.int .u8 8), .lit (.int .u8 31), .lit (.int .u8 27), .lit (.int .u8 13), .lit (.int .u8 23), .lit (.int .u8 21), .lit (.int .u8 19), .lit (.int .u8 16), .lit (.int .u8 7), .lit (.int .u8 26), .lit (.int .u8 12), .lit (.int .u8 18), .lit (.int .u8 6), .lit (.int .u8 11), .lit (.int .u8 5), .lit (.int .u8 10), .lit (.int .u8 9)]

/-- 'placketlaw10.DictAsks': WHATEVER THE INPUT: true; the input reads as it did. -/
def dictAsksSpec : ChangeSpec := { name := "dictAsks", fn := fun _ => fun
  | [d1, d2, d3, d4] => { results := [.lit (.bool true)], args := [d1, d2, d3, d4] }
  | _ => none }
def dictAsksRow : OpenClaim := { program := "ytnnlfgfgfegjkaadoor", sum := "3fd56f11422d3240472471585e22116b0fed39d8a25becbe87ae70c4671b6519", func := "placket/placketlaw10.DictAsks", spec := "dictAsks", inPlace := ["internal/bytealg.abigen_runtime_cmpstring"], unfollowed := true, recurses := true, named := ["math/bits.deBruijn32tab"], apart := false, laid := [("math/bits.deBruijn32tab", laid_math_bits_deBruijn32tab)] }
def DictAsksSaid : Prop := dictAsksRow.holds Tryd.pinned (OpenSpec.ofChange dictAsksSpec)

/-- ITS FALSE NEIGHBOUR: 'it returns false'. Refute it at one input. -/
def dictAsksWrong : ChangeSpec := { name := "dictAsks", fn := fun _ => fun
  | [d1, d2, d3, d4] => { results := [.lit (.bool false)], args := [d1, d2, d3, d4] }
  | _ => none }
def DictAsksWrongFalsely : Prop := dictAsksRow.holds Tryd.pinned (OpenSpec.ofChange dictAsksWrong)

/-- 'placketlaw10.DictEnds': WHATEVER THE INPUT: true; the input reads as it did. -/
def dictEndsSpec : ChangeSpec := { name := "dictEnds", fn := fun _ => fun
  | [d1, d2] => { results := [.lit (.bool true)], args := [d1, d2] }
  | _ => none }
def dictEndsRow : OpenClaim := { program := "ytnnlfgfgfegjkaadoor", sum := "3fd56f11422d3240472471585e22116b0fed39d8a25becbe87ae70c4671b6519", func := "placket/placketlaw10.DictEnds", spec := "dictEnds", inPlace := ["internal/bytealg.abigen_runtime_cmpstring"], unfollowed := true, recurses := true, named := ["math/bits.deBruijn32tab"], apart := false, laid := [("math/bits.deBruijn32tab", laid_math_bits_deBruijn32tab)] }
def DictEndsSaid : Prop := dictEndsRow.holds Tryd.pinned (OpenSpec.ofChange dictEndsSpec)

/-- ITS FALSE NEIGHBOUR: 'it returns false'. Refute it at one input. -/
def dictEndsWrong : ChangeSpec := { name := "dictEnds", fn := fun _ => fun
  | [d1, d2] => { results := [.lit (.bool false)], args := [d1, d2] }
  | _ => none }
def DictEndsWrongFalsely : Prop := dictEndsRow.holds Tryd.pinned (OpenSpec.ofChange dictEndsWrong)

/-- 'placketlaw10.DictJoins': WHATEVER THE INPUT: true; the input reads as it did. -/
def dictJoinsSpec : ChangeSpec := { name := "dictJoins", fn := fun _ => fun
  | [d1, d2, d3, d4, d5, d6] => { results := [.lit (.bool true)], args := [d1, d2, d3, d4, d5, d6] }
  | _ => none }
def dictJoinsRow : OpenClaim := { program := "ytnnlfgfgfegjkaadoor", sum := "3fd56f11422d3240472471585e22116b0fed39d8a25becbe87ae70c4671b6519", func := "placket/placketlaw10.DictJoins", spec := "dictJoins", inPlace := ["internal/bytealg.abigen_runtime_cmpstring"], unfollowed := true, recurses := true, named := ["math/bits.deBruijn32tab"], apart := false, laid := [("math/bits.deBruijn32tab", laid_math_bits_deBruijn32tab)] }
def DictJoinsSaid : Prop := dictJoinsRow.holds Tryd.pinned (OpenSpec.ofChange dictJoinsSpec)

/-- ITS FALSE NEIGHBOUR: 'it returns false'. Refute it at one input. -/
def dictJoinsWrong : ChangeSpec := { name := "dictJoins", fn := fun _ => fun
  | [d1, d2, d3, d4, d5, d6] => { results := [.lit (.bool false)], args := [d1, d2, d3, d4, d5, d6] }
  | _ => none }
def DictJoinsWrongFalsely : Prop := dictJoinsRow.holds Tryd.pinned (OpenSpec.ofChange dictJoinsWrong)

/-- 'placketlaw10.DictChanges': WHATEVER THE INPUT: true; the input reads as it did. -/
def dictChangesSpec : ChangeSpec := { name := "dictChanges", fn := fun _ => fun
  | [d1, d2, d3, d4, d5] => { results := [.lit (.bool true)], args := [d1, d2, d3, d4, d5] }
  | _ => none }
def dictChangesRow : OpenClaim := { program := "ytnnlfgfgfegjkaadoor", sum := "3fd56f11422d3240472471585e22116b0fed39d8a25becbe87ae70c4671b6519", func := "placket/placketlaw10.DictChanges", spec := "dictChanges", inPlace := ["internal/bytealg.abigen_runtime_cmpstring"], unfollowed := true, recurses := true, named := ["math/bits.deBruijn32tab"], apart := false, laid := [("math/bits.deBruijn32tab", laid_math_bits_deBruijn32tab)] }
def DictChangesSaid : Prop := dictChangesRow.holds Tryd.pinned (OpenSpec.ofChange dictChangesSpec)

/-- ITS FALSE NEIGHBOUR: 'it returns false'. Refute it at one input. -/
def dictChangesWrong : ChangeSpec := { name := "dictChanges", fn := fun _ => fun
  | [d1, d2, d3, d4, d5] => { results := [.lit (.bool false)], args := [d1, d2, d3, d4, d5] }
  | _ => none }
def DictChangesWrongFalsely : Prop := dictChangesRow.holds Tryd.pinned (OpenSpec.ofChange dictChangesWrong)

/-- 'placketlaw10.DictApplies': WHATEVER THE INPUT: true; the input reads as it did. -/
def dictAppliesSpec : ChangeSpec := { name := "dictApplies", fn := fun _ => fun
  | [d1, d2, d3] => { results := [.lit (.bool true)], args := [d1, d2, d3] }
  | _ => none }
def dictAppliesRow : OpenClaim := { program := "ytnnlfgfgfegjkaadoor", sum := "3fd56f11422d3240472471585e22116b0fed39d8a25becbe87ae70c4671b6519", func := "placket/placketlaw10.DictApplies", spec := "dictApplies", inPlace := ["internal/bytealg.abigen_runtime_cmpstring"], unfollowed := true, recurses := true, named := ["math/bits.deBruijn32tab"], apart := false, laid := [("math/bits.deBruijn32tab", laid_math_bits_deBruijn32tab)] }
def DictAppliesSaid : Prop := dictAppliesRow.holds Tryd.pinned (OpenSpec.ofChange dictAppliesSpec)

/-- ITS FALSE NEIGHBOUR: 'it returns false'. Refute it at one input. -/
def dictAppliesWrong : ChangeSpec := { name := "dictApplies", fn := fun _ => fun
  | [d1, d2, d3] => { results := [.lit (.bool false)], args := [d1, d2, d3] }
  | _ => none }
def DictAppliesWrongFalsely : Prop := dictAppliesRow.holds Tryd.pinned (OpenSpec.ofChange dictAppliesWrong)

/-- 'placketlaw10.DictBack': WHATEVER THE INPUT: true; the input reads as it did. -/
def dictBackSpec : ChangeSpec := { name := "dictBack", fn := fun _ => fun
  | [d1, d2, d3, d4, d5] => { results := [.lit (.bool true)], args := [d1, d2, d3, d4, d5] }
  | _ => none }
def dictBackRow : OpenClaim := { program := "ytnnlfgfgfegjkaadoor", sum := "3fd56f11422d3240472471585e22116b0fed39d8a25becbe87ae70c4671b6519", func := "placket/placketlaw10.DictBack", spec := "dictBack", inPlace := ["internal/bytealg.abigen_runtime_cmpstring"], unfollowed := true, recurses := true, named := ["math/bits.deBruijn32tab"], apart := false, laid := [("math/bits.deBruijn32tab", laid_math_bits_deBruijn32tab)] }
def DictBackSaid : Prop := dictBackRow.holds Tryd.pinned (OpenSpec.ofChange dictBackSpec)

/-- ITS FALSE NEIGHBOUR: 'it returns false'. Refute it at one input. -/
def dictBackWrong : ChangeSpec := { name := "dictBack", fn := fun _ => fun
  | [d1, d2, d3, d4, d5] => { results := [.lit (.bool false)], args := [d1, d2, d3, d4, d5] }
  | _ => none }
def DictBackWrongFalsely : Prop := dictBackRow.holds Tryd.pinned (OpenSpec.ofChange dictBackWrong)

/-- 'placketlaw10.DictParts': WHATEVER THE INPUT: true; the input reads as it did. -/
def dictPartsSpec : ChangeSpec := { name := "dictParts", fn := fun _ => fun
  | [d1, d2, d3, d4] => { results := [.lit (.bool true)], args := [d1, d2, d3, d4] }
  | _ => none }
def dictPartsRow : OpenClaim := { program := "ytnnlfgfgfegjkaadoor", sum := "3fd56f11422d3240472471585e22116b0fed39d8a25becbe87ae70c4671b6519", func := "placket/placketlaw10.DictParts", spec := "dictParts", inPlace := ["internal/bytealg.abigen_runtime_cmpstring"], unfollowed := true, recurses := true, named := ["math/bits.deBruijn32tab"], apart := false, laid := [("math/bits.deBruijn32tab", laid_math_bits_deBruijn32tab)] }
def DictPartsSaid : Prop := dictPartsRow.holds Tryd.pinned (OpenSpec.ofChange dictPartsSpec)

/-- ITS FALSE NEIGHBOUR: 'it returns false'. Refute it at one input. -/
def dictPartsWrong : ChangeSpec := { name := "dictParts", fn := fun _ => fun
  | [d1, d2, d3, d4] => { results := [.lit (.bool false)], args := [d1, d2, d3, d4] }
  | _ => none }
def DictPartsWrongFalsely : Prop := dictPartsRow.holds Tryd.pinned (OpenSpec.ofChange dictPartsWrong)

/-- 'placketlaw10.DictSteps': WHATEVER THE INPUT: true; the input reads as it did. -/
def dictStepsSpec : ChangeSpec := { name := "dictSteps", fn := fun _ => fun
  | [d1, d2] => { results := [.lit (.bool true)], args := [d1, d2] }
  | _ => none }
def dictStepsRow : OpenClaim := { program := "ytnnlfgfgfegjkaadoor", sum := "3fd56f11422d3240472471585e22116b0fed39d8a25becbe87ae70c4671b6519", func := "placket/placketlaw10.DictSteps", spec := "dictSteps", inPlace := ["internal/bytealg.abigen_runtime_cmpstring"], unfollowed := true, recurses := true, named := ["math/bits.deBruijn32tab"], apart := false, laid := [("math/bits.deBruijn32tab", laid_math_bits_deBruijn32tab)] }
def DictStepsSaid : Prop := dictStepsRow.holds Tryd.pinned (OpenSpec.ofChange dictStepsSpec)

/-- ITS FALSE NEIGHBOUR: 'it returns false'. Refute it at one input. -/
def dictStepsWrong : ChangeSpec := { name := "dictSteps", fn := fun _ => fun
  | [d1, d2] => { results := [.lit (.bool false)], args := [d1, d2] }
  | _ => none }
def DictStepsWrongFalsely : Prop := dictStepsRow.holds Tryd.pinned (OpenSpec.ofChange dictStepsWrong)

/- THE SECOND FORM. 'bulk': how many values and letters a reading holds, each counted each time it is reached (what is shared counts as often as it is met; a slice's spare places count too). A statement '..UptoSaid' is the law's where the arguments, and the package variables that the reading takes, are together of bulk at most 1048576: NARROWER than '..Said'. Prove '..Said' where nothing that the law and all that it calls make is longer than what came in: it says more and counts as full. Else prove '..UptoSaid'. A law counts once. -/
mutual
def uptoBulk {H : Type} : DataW H → Nat
  | .lit (.string bytes) => bytes.length + 1
  | .lit _ => 1
  | .nil => 1
  | .ptr d => uptoBulk d + 1
  | .slice elems spare => uptoBulkAll elems + uptoBulkAll spare + 1
  | .agg parts => uptoBulkAll parts + 1
  | .iface _ d => uptoBulk d + 1
  | .map entries => uptoBulkEntries entries + 1
  | .held _ => 1
def uptoBulkAll {H : Type} : List (DataW H) → Nat
  | [] => 0
  | d :: r => uptoBulk d + uptoBulkAll r
def uptoBulkEntries {H : Type} : List (Lit × DataW H) → Nat
  | [] => 0
  | x :: r => uptoBulkEntry x + uptoBulkEntries r
def uptoBulkEntry {H : Type} : Lit × DataW H → Nat
  | (.string bytes, d) => bytes.length + uptoBulk d + 1
  | (_, d) => uptoBulk d + 1
 end
def uptoSmall : (H : Type) → List (DataW H) → Bool := fun _ ds => decide (uptoBulkAll ds ≤ 1048576)
def OpenSpec.upto (s : _root_.Go.ChangeSpec) : _root_.Go.OpenSpec := { _root_.Go.OpenSpec.ofChange s with cond := some uptoSmall }

/-- 'placketlaw10.DictAsks', WHERE WHAT IT READS IS OF BULK AT MOST 1048576: true; the input reads as it did. -/
def dictAsksUptoRow : OpenClaim := { program := "ytnnlfgfgfegjkaadoor", sum := "3fd56f11422d3240472471585e22116b0fed39d8a25becbe87ae70c4671b6519", func := "placket/placketlaw10.DictAsks", spec := "dictAsks", inPlace := ["internal/bytealg.abigen_runtime_cmpstring"], unfollowed := true, recurses := true, named := ["math/bits.deBruijn32tab"], apart := false, laid := [("math/bits.deBruijn32tab", laid_math_bits_deBruijn32tab)], narrowed := true }
def DictAsksUptoSaid : Prop := dictAsksUptoRow.holds Tryd.pinned (OpenSpec.upto dictAsksSpec)

/-- 'placketlaw10.DictEnds', WHERE WHAT IT READS IS OF BULK AT MOST 1048576: true; the input reads as it did. -/
def dictEndsUptoRow : OpenClaim := { program := "ytnnlfgfgfegjkaadoor", sum := "3fd56f11422d3240472471585e22116b0fed39d8a25becbe87ae70c4671b6519", func := "placket/placketlaw10.DictEnds", spec := "dictEnds", inPlace := ["internal/bytealg.abigen_runtime_cmpstring"], unfollowed := true, recurses := true, named := ["math/bits.deBruijn32tab"], apart := false, laid := [("math/bits.deBruijn32tab", laid_math_bits_deBruijn32tab)], narrowed := true }
def DictEndsUptoSaid : Prop := dictEndsUptoRow.holds Tryd.pinned (OpenSpec.upto dictEndsSpec)

/-- 'placketlaw10.DictJoins', WHERE WHAT IT READS IS OF BULK AT MOST 1048576: true; the input reads as it did. -/
def dictJoinsUptoRow : OpenClaim := { program := "ytnnlfgfgfegjkaadoor", sum := "3fd56f11422d3240472471585e22116b0fed39d8a25becbe87ae70c4671b6519", func := "placket/placketlaw10.DictJoins", spec := "dictJoins", inPlace := ["internal/bytealg.abigen_runtime_cmpstring"], unfollowed := true, recurses := true, named := ["math/bits.deBruijn32tab"], apart := false, laid := [("math/bits.deBruijn32tab", laid_math_bits_deBruijn32tab)], narrowed := true }
def DictJoinsUptoSaid : Prop := dictJoinsUptoRow.holds Tryd.pinned (OpenSpec.upto dictJoinsSpec)

/-- 'placketlaw10.DictChanges', WHERE WHAT IT READS IS OF BULK AT MOST 1048576: true; the input reads as it did. -/
def dictChangesUptoRow : OpenClaim := { program := "ytnnlfgfgfegjkaadoor", sum := "3fd56f11422d3240472471585e22116b0fed39d8a25becbe87ae70c4671b6519", func := "placket/placketlaw10.DictChanges", spec := "dictChanges", inPlace := ["internal/bytealg.abigen_runtime_cmpstring"], unfollowed := true, recurses := true, named := ["math/bits.deBruijn32tab"], apart := false, laid := [("math/bits.deBruijn32tab", laid_math_bits_deBruijn32tab)], narrowed := true }
def DictChangesUptoSaid : Prop := dictChangesUptoRow.holds Tryd.pinned (OpenSpec.upto dictChangesSpec)

/-- 'placketlaw10.DictApplies', WHERE WHAT IT READS IS OF BULK AT MOST 1048576: true; the input reads as it did. -/
def dictAppliesUptoRow : OpenClaim := { program := "ytnnlfgfgfegjkaadoor", sum := "3fd56f11422d3240472471585e22116b0fed39d8a25becbe87ae70c4671b6519", func := "placket/placketlaw10.DictApplies", spec := "dictApplies", inPlace := ["internal/bytealg.abigen_runtime_cmpstring"], unfollowed := true, recurses := true, named := ["math/bits.deBruijn32tab"], apart := false, laid := [("math/bits.deBruijn32tab", laid_math_bits_deBruijn32tab)], narrowed := true }
def DictAppliesUptoSaid : Prop := dictAppliesUptoRow.holds Tryd.pinned (OpenSpec.upto dictAppliesSpec)

/-- 'placketlaw10.DictBack', WHERE WHAT IT READS IS OF BULK AT MOST 1048576: true; the input reads as it did. -/
def dictBackUptoRow : OpenClaim := { program := "ytnnlfgfgfegjkaadoor", sum := "3fd56f11422d3240472471585e22116b0fed39d8a25becbe87ae70c4671b6519", func := "placket/placketlaw10.DictBack", spec := "dictBack", inPlace := ["internal/bytealg.abigen_runtime_cmpstring"], unfollowed := true, recurses := true, named := ["math/bits.deBruijn32tab"], apart := false, laid := [("math/bits.deBruijn32tab", laid_math_bits_deBruijn32tab)], narrowed := true }
def DictBackUptoSaid : Prop := dictBackUptoRow.holds Tryd.pinned (OpenSpec.upto dictBackSpec)

/-- 'placketlaw10.DictParts', WHERE WHAT IT READS IS OF BULK AT MOST 1048576: true; the input reads as it did. -/
def dictPartsUptoRow : OpenClaim := { program := "ytnnlfgfgfegjkaadoor", sum := "3fd56f11422d3240472471585e22116b0fed39d8a25becbe87ae70c4671b6519", func := "placket/placketlaw10.DictParts", spec := "dictParts", inPlace := ["internal/bytealg.abigen_runtime_cmpstring"], unfollowed := true, recurses := true, named := ["math/bits.deBruijn32tab"], apart := false, laid := [("math/bits.deBruijn32tab", laid_math_bits_deBruijn32tab)], narrowed := true }
def DictPartsUptoSaid : Prop := dictPartsUptoRow.holds Tryd.pinned (OpenSpec.upto dictPartsSpec)

/-- 'placketlaw10.DictSteps', WHERE WHAT IT READS IS OF BULK AT MOST 1048576: true; the input reads as it did. -/
def dictStepsUptoRow : OpenClaim := { program := "ytnnlfgfgfegjkaadoor", sum := "3fd56f11422d3240472471585e22116b0fed39d8a25becbe87ae70c4671b6519", func := "placket/placketlaw10.DictSteps", spec := "dictSteps", inPlace := ["internal/bytealg.abigen_runtime_cmpstring"], unfollowed := true, recurses := true, named := ["math/bits.deBruijn32tab"], apart := false, laid := [("math/bits.deBruijn32tab", laid_math_bits_deBruijn32tab)], narrowed := true }
def DictStepsUptoSaid : Prop := dictStepsUptoRow.holds Tryd.pinned (OpenSpec.upto dictStepsSpec)

end Rows
end Go.Proofs.YtnnlfgfgfegjkaaDoor
