/-
  NARROWER THAN 'FOR EVERY INPUT', by the rows' own cells (each row's printed sentence says how): QuoteOrders: laid · QuoteTotal: laid · QuoteQuotes: laid · QuoteReads: laid · QuoteNames: laid · QuoteBack: laid · QuoteApart: laid.
  DERIVED. THE GIVEN ROWS OF THIS SEAT. 7 by the template 'for every input the law returns true; each argument reads behind the call as it read before'; 0 by the template 'total and deterministic' (their statements: YtdepgbolabepoaaDoorTotals.lean).
  GIVEN WITH THE SEED: the statements are not yours to turn. If you find one false, say at which input.
  Laid BY PROGRAM, IN A SANDBOX (cutbox-rows.mjs): the forced cells as the released guide's own fill.sh prints them over the translation 70e1bda3ac7c5e8f… (all of the seat's roots in one cut). By AI agents, Wed Nov 11 2026. No macro, syntax, notation, axiom, sorry.
-/
import Derived.Test.YtdepgbolabepoaaDoorChecked
import GoSem.Claim
import GoSem.ClaimJoined
import GoSem.ClaimMapViews
import Derived.JoinedTies
import Derived.KernelRfl
namespace Go.Proofs.YtdepgbolabepoaaDoor
/- THE CELL 'sum', in the pinned program and in every row, IS THE sha256 OF THE DUMP (.gsa) THAT YtdepgbolabepoaaDoorProg.lean LOADS. Nothing in Lean hashes anything: it is a label: what it is worth is what the hold of that sum in a sandbox is worth. -/
noncomputable def Tryd.pinned : Pinned := { name := "ytdepgbolabepoaadoor", sum := "70e1bda3ac7c5e8f8172ae95f6f9368f7b7c19c098800003a3754e94a2315acb", checked := Tryd.checked }
namespace Rows
def none {H : Type} : Left H := { results := [], args := [] }

/- WHAT THE LISTED PACKAGE-LEVEL VARIABLES READ AS WHEN THE CALL BEGINS. Each datum BY PROGRAM (the guide's laid-datum.mjs) off the statement by which the dump's own 'gosem.cut.vars' lays the variable. In a bare row this is a premise. The card (YtdepgbolabepoaaDoorCards.lean) ties it to the program's text. -/
def laid_placket_quote_escapes {H : Type} : DataW H := .agg [.agg [.lit (.int .u8 34), .lit (.int .u8 34), .lit (.bool true)], .agg [.lit (.int .u8 92), .lit (.int .u8 92), .lit (.bool true)], .agg [.lit (.int .u8 110), .lit (.int .u8 10), .lit (.bool true)], .agg [.lit (.int .u8 116), .lit (.int .u8 9), .lit (.bool true)], .agg [.lit (.int .u8 114), .lit (.int .u8 13), .lit (.bool true)], .agg [.lit (.int .u8 47), .lit (.int .u8 47), .lit (.bool false)]]

/-- 'placketlaw02.QuoteOrders': WHATEVER THE INPUT: true; the input reads as it did. -/
def quoteOrdersSpec : ChangeSpec := { name := "quoteOrders", fn := fun _ => fun
  | [d1, d2] => { results := [.lit (.bool true)], args := [d1, d2] }
  | _ => none }
def quoteOrdersRow : OpenClaim := { program := "ytdepgbolabepoaadoor", sum := "70e1bda3ac7c5e8f8172ae95f6f9368f7b7c19c098800003a3754e94a2315acb", func := "placket/placketlaw02.QuoteOrders", spec := "quoteOrders", inPlace := ["internal/bytealg.IndexByteString", "internal/bytealg.abigen_runtime_cmpstring"], named := ["placket/quote.escapes"], apart := false, laid := [("placket/quote.escapes", laid_placket_quote_escapes)] }
def QuoteOrdersSaid : Prop := quoteOrdersRow.holds Tryd.pinned (OpenSpec.ofChange quoteOrdersSpec)

/-- ITS FALSE NEIGHBOUR: 'it returns false'. Refute it at one input. -/
def quoteOrdersWrong : ChangeSpec := { name := "quoteOrders", fn := fun _ => fun
  | [d1, d2] => { results := [.lit (.bool false)], args := [d1, d2] }
  | _ => none }
def QuoteOrdersWrongFalsely : Prop := quoteOrdersRow.holds Tryd.pinned (OpenSpec.ofChange quoteOrdersWrong)

/-- 'placketlaw02.QuoteTotal': WHATEVER THE INPUT: true; the input reads as it did. -/
def quoteTotalSpec : ChangeSpec := { name := "quoteTotal", fn := fun _ => fun
  | [d1, d2, d3] => { results := [.lit (.bool true)], args := [d1, d2, d3] }
  | _ => none }
def quoteTotalRow : OpenClaim := { program := "ytdepgbolabepoaadoor", sum := "70e1bda3ac7c5e8f8172ae95f6f9368f7b7c19c098800003a3754e94a2315acb", func := "placket/placketlaw02.QuoteTotal", spec := "quoteTotal", inPlace := ["internal/bytealg.IndexByteString", "internal/bytealg.abigen_runtime_cmpstring"], named := ["placket/quote.escapes"], apart := false, laid := [("placket/quote.escapes", laid_placket_quote_escapes)] }
def QuoteTotalSaid : Prop := quoteTotalRow.holds Tryd.pinned (OpenSpec.ofChange quoteTotalSpec)

/-- ITS FALSE NEIGHBOUR: 'it returns false'. Refute it at one input. -/
def quoteTotalWrong : ChangeSpec := { name := "quoteTotal", fn := fun _ => fun
  | [d1, d2, d3] => { results := [.lit (.bool false)], args := [d1, d2, d3] }
  | _ => none }
def QuoteTotalWrongFalsely : Prop := quoteTotalRow.holds Tryd.pinned (OpenSpec.ofChange quoteTotalWrong)

/-- 'placketlaw02.QuoteQuotes': WHATEVER THE INPUT: true; the input reads as it did. -/
def quoteQuotesSpec : ChangeSpec := { name := "quoteQuotes", fn := fun _ => fun
  | [d] => { results := [.lit (.bool true)], args := [d] }
  | _ => none }
def quoteQuotesRow : OpenClaim := { program := "ytdepgbolabepoaadoor", sum := "70e1bda3ac7c5e8f8172ae95f6f9368f7b7c19c098800003a3754e94a2315acb", func := "placket/placketlaw02.QuoteQuotes", spec := "quoteQuotes", inPlace := ["internal/bytealg.IndexByteString", "internal/bytealg.abigen_runtime_cmpstring"], named := ["placket/quote.escapes"], apart := false, laid := [("placket/quote.escapes", laid_placket_quote_escapes)] }
def QuoteQuotesSaid : Prop := quoteQuotesRow.holds Tryd.pinned (OpenSpec.ofChange quoteQuotesSpec)

/-- ITS FALSE NEIGHBOUR: 'it returns false'. Refute it at one input. -/
def quoteQuotesWrong : ChangeSpec := { name := "quoteQuotes", fn := fun _ => fun
  | [d] => { results := [.lit (.bool false)], args := [d] }
  | _ => none }
def QuoteQuotesWrongFalsely : Prop := quoteQuotesRow.holds Tryd.pinned (OpenSpec.ofChange quoteQuotesWrong)

/-- 'placketlaw02.QuoteReads': WHATEVER THE INPUT: true; the input reads as it did. -/
def quoteReadsSpec : ChangeSpec := { name := "quoteReads", fn := fun _ => fun
  | [d] => { results := [.lit (.bool true)], args := [d] }
  | _ => none }
def quoteReadsRow : OpenClaim := { program := "ytdepgbolabepoaadoor", sum := "70e1bda3ac7c5e8f8172ae95f6f9368f7b7c19c098800003a3754e94a2315acb", func := "placket/placketlaw02.QuoteReads", spec := "quoteReads", inPlace := ["internal/bytealg.IndexByteString", "internal/bytealg.abigen_runtime_cmpstring"], named := ["placket/quote.escapes"], apart := false, laid := [("placket/quote.escapes", laid_placket_quote_escapes)] }
def QuoteReadsSaid : Prop := quoteReadsRow.holds Tryd.pinned (OpenSpec.ofChange quoteReadsSpec)

/-- ITS FALSE NEIGHBOUR: 'it returns false'. Refute it at one input. -/
def quoteReadsWrong : ChangeSpec := { name := "quoteReads", fn := fun _ => fun
  | [d] => { results := [.lit (.bool false)], args := [d] }
  | _ => none }
def QuoteReadsWrongFalsely : Prop := quoteReadsRow.holds Tryd.pinned (OpenSpec.ofChange quoteReadsWrong)

/-- 'placketlaw02.QuoteNames': WHATEVER THE INPUT: true; the input reads as it did. -/
def quoteNamesSpec : ChangeSpec := { name := "quoteNames", fn := fun _ => fun
  | [d] => { results := [.lit (.bool true)], args := [d] }
  | _ => none }
def quoteNamesRow : OpenClaim := { program := "ytdepgbolabepoaadoor", sum := "70e1bda3ac7c5e8f8172ae95f6f9368f7b7c19c098800003a3754e94a2315acb", func := "placket/placketlaw02.QuoteNames", spec := "quoteNames", inPlace := ["internal/bytealg.IndexByteString", "internal/bytealg.abigen_runtime_cmpstring"], named := ["placket/quote.escapes"], apart := false, laid := [("placket/quote.escapes", laid_placket_quote_escapes)] }
def QuoteNamesSaid : Prop := quoteNamesRow.holds Tryd.pinned (OpenSpec.ofChange quoteNamesSpec)

/-- ITS FALSE NEIGHBOUR: 'it returns false'. Refute it at one input. -/
def quoteNamesWrong : ChangeSpec := { name := "quoteNames", fn := fun _ => fun
  | [d] => { results := [.lit (.bool false)], args := [d] }
  | _ => none }
def QuoteNamesWrongFalsely : Prop := quoteNamesRow.holds Tryd.pinned (OpenSpec.ofChange quoteNamesWrong)

/-- 'placketlaw02.QuoteBack': WHATEVER THE INPUT: true; the input reads as it did. -/
def quoteBackSpec : ChangeSpec := { name := "quoteBack", fn := fun _ => fun
  | [d1, d2] => { results := [.lit (.bool true)], args := [d1, d2] }
  | _ => none }
def quoteBackRow : OpenClaim := { program := "ytdepgbolabepoaadoor", sum := "70e1bda3ac7c5e8f8172ae95f6f9368f7b7c19c098800003a3754e94a2315acb", func := "placket/placketlaw02.QuoteBack", spec := "quoteBack", inPlace := ["internal/bytealg.IndexByteString", "internal/bytealg.abigen_runtime_cmpstring"], named := ["placket/quote.escapes"], apart := false, laid := [("placket/quote.escapes", laid_placket_quote_escapes)] }
def QuoteBackSaid : Prop := quoteBackRow.holds Tryd.pinned (OpenSpec.ofChange quoteBackSpec)

/-- ITS FALSE NEIGHBOUR: 'it returns false'. Refute it at one input. -/
def quoteBackWrong : ChangeSpec := { name := "quoteBack", fn := fun _ => fun
  | [d1, d2] => { results := [.lit (.bool false)], args := [d1, d2] }
  | _ => none }
def QuoteBackWrongFalsely : Prop := quoteBackRow.holds Tryd.pinned (OpenSpec.ofChange quoteBackWrong)

/-- 'placketlaw02.QuoteApart': WHATEVER THE INPUT: true; the input reads as it did. -/
def quoteApartSpec : ChangeSpec := { name := "quoteApart", fn := fun _ => fun
  | [d1, d2, d3] => { results := [.lit (.bool true)], args := [d1, d2, d3] }
  | _ => none }
def quoteApartRow : OpenClaim := { program := "ytdepgbolabepoaadoor", sum := "70e1bda3ac7c5e8f8172ae95f6f9368f7b7c19c098800003a3754e94a2315acb", func := "placket/placketlaw02.QuoteApart", spec := "quoteApart", inPlace := ["internal/bytealg.IndexByteString", "internal/bytealg.abigen_runtime_cmpstring"], named := ["placket/quote.escapes"], apart := false, laid := [("placket/quote.escapes", laid_placket_quote_escapes)] }
def QuoteApartSaid : Prop := quoteApartRow.holds Tryd.pinned (OpenSpec.ofChange quoteApartSpec)

/-- ITS FALSE NEIGHBOUR: 'it returns false'. Refute it at one input. -/
def quoteApartWrong : ChangeSpec := { name := "quoteApart", fn := fun _ => fun
  | [d1, d2, d3] => { results := [.lit (.bool false)], args := [d1, d2, d3] }
  | _ => none }
def QuoteApartWrongFalsely : Prop := quoteApartRow.holds Tryd.pinned (OpenSpec.ofChange quoteApartWrong)

/- THE SECOND FORM. 'bulk': how many values and letters a reading holds, each counted each time it is reached (what is shared counts as often as it is met; a slice's spare places count too). A statement '..UptoSaid' is the law's where the arguments, and the package variables that the reading takes, are together of bulk at most 1048576: NARROWER than '..Said'. Prove '..Said' where nothing that the law and all that it calls make is longer than what came in: it says more and counts as full. Else prove '..UptoSaid'. A law counts once. -/
mutual
def uptoBulk {H : Type} : DataW H → Nat
  | .lit (.string bytes) => bytes.length + 1
  | .lit _ => 1
  | .nil => 1
  | .ptr d => uptoBulk d + 1
  | .slice elems spare => uptoBulkAll elems + uptoBulkAll spare + 1
  | .agg parts => uptoBulkAll parts + 1
  | .iface _ d => uptoBulk d + 1
  | .map entries => uptoBulkEntries entries + 1
  | .held _ => 1
def uptoBulkAll {H : Type} : List (DataW H) → Nat
  | [] => 0
  | d :: r => uptoBulk d + uptoBulkAll r
def uptoBulkEntries {H : Type} : List (Lit × DataW H) → Nat
  | [] => 0
  | x :: r => uptoBulkEntry x + uptoBulkEntries r
def uptoBulkEntry {H : Type} : Lit × DataW H → Nat
  | (.string bytes, d) => bytes.length + uptoBulk d + 1
  | (_, d) => uptoBulk d + 1
 end
def uptoSmall : (H : Type) → List (DataW H) → Bool := fun _ ds => decide (uptoBulkAll ds ≤ 1048576)
def OpenSpec.upto (s : _root_.Go.ChangeSpec) : _root_.Go.OpenSpec := { _root_.Go.OpenSpec.ofChange s with cond := some uptoSmall }

/-- 'placketlaw02.QuoteOrders', WHERE WHAT IT READS IS OF BULK AT MOST 1048576: true; the input reads as it did. -/
def quoteOrdersUptoRow : OpenClaim := { program := "ytdepgbolabepoaadoor", sum := "70e1bda3ac7c5e8f8172ae95f6f9368f7b7c19c098800003a3754e94a2315acb", func := "placket/placketlaw02.QuoteOrders", spec := "quoteOrders", inPlace := ["internal/bytealg.IndexByteString", "internal/bytealg.abigen_runtime_cmpstring"], named := ["placket/quote.escapes"], apart := false, laid := [("placket/quote.escapes", laid_placket_quote_escapes)], narrowed := true }
def QuoteOrdersUptoSaid : Prop := quoteOrdersUptoRow.holds Tryd.pinned (OpenSpec.upto quoteOrdersSpec)

/-- 'placketlaw02.QuoteTotal', WHERE WHAT IT READS IS OF BULK AT MOST 1048576: true; the input reads as it did. -/
def quoteTotalUptoRow : OpenClaim := { program := "ytdepgbolabepoaadoor", sum := "70e1bda3ac7c5e8f8172ae95f6f9368f7b7c19c098800003a3754e94a2315acb", func := "placket/placketlaw02.QuoteTotal", spec := "quoteTotal", inPlace := ["internal/bytealg.IndexByteString", "internal/bytealg.abigen_runtime_cmpstring"], named := ["placket/quote.escapes"], apart := false, laid := [("placket/quote.escapes", laid_placket_quote_escapes)], narrowed := true }
def QuoteTotalUptoSaid : Prop := quoteTotalUptoRow.holds Tryd.pinned (OpenSpec.upto quoteTotalSpec)

/-- 'placketlaw02.QuoteQuotes', WHERE WHAT IT READS IS OF BULK AT MOST 1048576: true; the input reads as it did. -/
def quoteQuotesUptoRow : OpenClaim := { program := "ytdepgbolabepoaadoor", sum := "70e1bda3ac7c5e8f8172ae95f6f9368f7b7c19c098800003a3754e94a2315acb", func := "placket/placketlaw02.QuoteQuotes", spec := "quoteQuotes", inPlace := ["internal/bytealg.IndexByteString", "internal/bytealg.abigen_runtime_cmpstring"], named := ["placket/quote.escapes"], apart := false, laid := [("placket/quote.escapes", laid_placket_quote_escapes)], narrowed := true }
def QuoteQuotesUptoSaid : Prop := quoteQuotesUptoRow.holds Tryd.pinned (OpenSpec.upto quoteQuotesSpec)

/-- 'placketlaw02.QuoteReads', WHERE WHAT IT READS IS OF BULK AT MOST 1048576: true; the input reads as it did. -/
def quoteReadsUptoRow : OpenClaim := { program := "ytdepgbolabepoaadoor", sum := "70e1bda3ac7c5e8f8172ae95f6f9368f7b7c19c098800003a3754e94a2315acb", func := "placket/placketlaw02.QuoteReads", spec := "quoteReads", inPlace := ["internal/bytealg.IndexByteString", "internal/bytealg.abigen_runtime_cmpstring"], named := ["placket/quote.escapes"], apart := false, laid := [("placket/quote.escapes", laid_placket_quote_escapes)], narrowed := true }
def QuoteReadsUptoSaid : Prop := quoteReadsUptoRow.holds Tryd.pinned (OpenSpec.upto quoteReadsSpec)

/-- 'placketlaw02.QuoteNames', WHERE WHAT IT READS IS OF BULK AT MOST 1048576: true; the input reads as it did. -/
def quoteNamesUptoRow : OpenClaim := { program := "ytdepgbolabepoaadoor", sum := "70e1bda3ac7c5e8f8172ae95f6f9368f7b7c19c098800003a3754e94a2315acb", func := "placket/placketlaw02.QuoteNames", spec := "quoteNames", inPlace := ["internal/bytealg.IndexByteString", "internal/bytealg.abigen_runtime_cmpstring"], named := ["placket/quote.escapes"], apart := false, laid := [("placket/quote.escapes", laid_placket_quote_escapes)], narrowed := true }
def QuoteNamesUptoSaid : Prop := quoteNamesUptoRow.holds Tryd.pinned (OpenSpec.upto quoteNamesSpec)

/-- 'placketlaw02.QuoteBack', WHERE WHAT IT READS IS OF BULK AT MOST 1048576: true; the input reads as it did. -/
def quoteBackUptoRow : OpenClaim := { program := "ytdepgbolabepoaadoor", sum := "70e1bda3ac7c5e8f8172ae95f6f9368f7b7c19c098800003a3754e94a2315acb", func := "placket/placketlaw02.QuoteBack", spec := "quoteBack", inPlace := ["internal/bytealg.IndexByteString", "internal/bytealg.abigen_runtime_cmpstring"], named := ["placket/quote.escapes"], apart := false, laid := [("placket/quote.escapes", laid_placket_quote_escapes)], narrowed := true }
def QuoteBackUptoSaid : Prop := quoteBackUptoRow.holds Tryd.pinned (OpenSpec.upto quoteBackSpec)

/-- 'placketlaw02.QuoteApart', WHERE WHAT IT READS IS OF BULK AT MOST 1048576: true; the input reads as it did. -/
def quoteApartUptoRow : OpenClaim := { program := "ytdepgbolabepoaadoor", sum := "70e1bda3ac7c5e8f8172ae95f6f9368f7b7c19c098800003a3754e94a2315acb", func := "placket/placketlaw02.QuoteApart", spec := "quoteApart", inPlace := ["internal/bytealg.IndexByteString", "internal/bytealg.abigen_runtime_cmpstring"], named := ["placket/quote.escapes"], apart := false, laid := [("placket/quote.escapes", laid_placket_quote_escapes)], narrowed := true }
def QuoteApartUptoSaid : Prop := quoteApartUptoRow.holds Tryd.pinned (OpenSpec.upto quoteApartSpec)

end Rows
end Go.Proofs.YtdepgbolabepoaaDoor
