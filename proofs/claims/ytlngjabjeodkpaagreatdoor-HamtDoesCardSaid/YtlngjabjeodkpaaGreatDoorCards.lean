/-
  DERIVED. GIVEN WITH THE SEED: THE CARDS: each row of YtlngjabjeodkpaaGreatDoorRows.lean that lists a variable, with what it lists TIED to the program's text (the seventh form; the later family's looks); each row that meets fmt, with fmt's text TOLD by the authors' own Lean function (tested against real Go, not proved from fmt's source: count such statements apart). THE CARD IS WHAT COUNTS. Prove the row's statement (the work); the ties are given (YtlngjabjeodkpaaGreatDoorTie.lean); close each card by the builder's one call (the guide's Derived/Test/ToyasCard.lean, 'card_holds'). Laid BY PROGRAM, IN A SANDBOX (cutbox-door.mjs). By AI agents, Wed Nov 11 2026. No macro, syntax, notation, axiom, sorry.
-/
import Derived.Test.YtlngjabjeodkpaaGreatDoorRows
import GoSem.ClaimSeven
namespace Go.Proofs.YtlngjabjeodkpaaGreatDoor
namespace Rows

/-- THE TIED CARD OF 'placketlaw09.HamtDoes'. -/
def hamtDoesCard : Claim7 := { stood := { row := hamtDoesRow, standIns := [], harness := (true, "1e1e4cd0221f45585ec9ffc32cb836998264478de305eb5cd92244f3611f92a6"), looks := false }, kinds := [], alts := [], laidByText := true, laidKinds := [.data, .data, .data], laidTests := true, laidLooks := .later }
def HamtDoesCardSaid : Prop := Claim7.holds Tryz.pinned (.plain (OpenSpec.ofChange hamtDoesSpec)) hamtDoesCard

/-- THE TIED CARD OF 'placketlaw09.HamtShapes'. -/
def hamtShapesCard : Claim7 := { stood := { row := hamtShapesRow, standIns := [], harness := (true, "1e1e4cd0221f45585ec9ffc32cb836998264478de305eb5cd92244f3611f92a6"), looks := false }, kinds := [], alts := [], laidByText := true, laidKinds := [.data, .data, .data], laidTests := true, laidLooks := .later }
def HamtShapesCardSaid : Prop := Claim7.holds Tryz.pinned (.plain (OpenSpec.ofChange hamtShapesSpec)) hamtShapesCard

/-- THE SECOND FORM's CARD OF 'placketlaw09.HamtDoes'. -/
def hamtDoesUptoCard : Claim7 := { stood := { row := hamtDoesUptoRow, standIns := [], harness := (true, "1e1e4cd0221f45585ec9ffc32cb836998264478de305eb5cd92244f3611f92a6"), looks := false }, kinds := [], alts := [], laidByText := true, laidKinds := [.data, .data, .data], laidTests := true, laidLooks := .later }
def HamtDoesUptoCardSaid : Prop := Claim7.holds Tryz.pinned (.plain (OpenSpec.upto hamtDoesSpec)) hamtDoesUptoCard

/-- THE SECOND FORM's CARD OF 'placketlaw09.HamtShapes'. -/
def hamtShapesUptoCard : Claim7 := { stood := { row := hamtShapesUptoRow, standIns := [], harness := (true, "1e1e4cd0221f45585ec9ffc32cb836998264478de305eb5cd92244f3611f92a6"), looks := false }, kinds := [], alts := [], laidByText := true, laidKinds := [.data, .data, .data], laidTests := true, laidLooks := .later }
def HamtShapesUptoCardSaid : Prop := Claim7.holds Tryz.pinned (.plain (OpenSpec.upto hamtShapesSpec)) hamtShapesUptoCard
end Rows
end Go.Proofs.YtlngjabjeodkpaaGreatDoor
