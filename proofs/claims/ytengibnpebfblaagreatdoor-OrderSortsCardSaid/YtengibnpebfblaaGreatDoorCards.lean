/-
  DERIVED. GIVEN WITH THE SEED: THE CARDS: each row of YtengibnpebfblaaGreatDoorRows.lean that lists a variable, with what it lists TIED to the program's text (the seventh form; the later family's looks); each row that meets fmt, with fmt's text TOLD by the authors' own Lean function (tested against real Go, not proved from fmt's source: count such statements apart). THE CARD IS WHAT COUNTS. Prove the row's statement (the work); the ties are given (YtengibnpebfblaaGreatDoorTie.lean); close each card by the builder's one call (the guide's Derived/Test/ToyasCard.lean, 'card_holds'). Laid BY PROGRAM, IN A SANDBOX (cutbox-door.mjs). By AI agents, Wed Nov 11 2026. No macro, syntax, notation, axiom, sorry.
-/
import Derived.Test.YtengibnpebfblaaGreatDoorRows
import GoSem.ClaimSeven
namespace Go.Proofs.YtengibnpebfblaaGreatDoor
namespace Rows

/-- THE TIED CARD OF 'placketlaw12.OrderTwo'. -/
def orderTwoCard : Claim7 := { stood := { row := orderTwoRow, standIns := [], harness := (true, "da5be4d45a62b1f0ded6f885f65cd1eb61beb18d507e78677aa1d59d3bb14a0c"), looks := false }, kinds := [], alts := [], laidByText := true, laidKinds := [.data], laidTests := true, laidLooks := .later }
def OrderTwoCardSaid : Prop := Claim7.holds Tryz.pinned (.plain (OpenSpec.ofChange orderTwoSpec)) orderTwoCard

/-- THE TIED CARD OF 'placketlaw12.OrderTotal'. -/
def orderTotalCard : Claim7 := { stood := { row := orderTotalRow, standIns := [], harness := (true, "da5be4d45a62b1f0ded6f885f65cd1eb61beb18d507e78677aa1d59d3bb14a0c"), looks := false }, kinds := [], alts := [], laidByText := true, laidKinds := [.data], laidTests := true, laidLooks := .later }
def OrderTotalCardSaid : Prop := Claim7.holds Tryz.pinned (.plain (OpenSpec.ofChange orderTotalSpec)) orderTotalCard

/-- THE TIED CARD OF 'placketlaw12.OrderParts'. -/
def orderPartsCard : Claim7 := { stood := { row := orderPartsRow, standIns := [], harness := (true, "da5be4d45a62b1f0ded6f885f65cd1eb61beb18d507e78677aa1d59d3bb14a0c"), looks := false }, kinds := [], alts := [], laidByText := true, laidKinds := [.data], laidTests := true, laidLooks := .later }
def OrderPartsCardSaid : Prop := Claim7.holds Tryz.pinned (.plain (OpenSpec.ofChange orderPartsSpec)) orderPartsCard

/-- THE TIED CARD OF 'placketlaw12.OrderSorts'. -/
def orderSortsCard : Claim7 := { stood := { row := orderSortsRow, standIns := [], harness := (true, "da5be4d45a62b1f0ded6f885f65cd1eb61beb18d507e78677aa1d59d3bb14a0c"), looks := false }, kinds := [], alts := [], laidByText := true, laidKinds := [.data], laidTests := true, laidLooks := .later }
def OrderSortsCardSaid : Prop := Claim7.holds Tryz.pinned (.plain (OpenSpec.ofChange orderSortsSpec)) orderSortsCard

/-- THE TIED CARD OF 'placketlaw12.OrderMerges'. -/
def orderMergesCard : Claim7 := { stood := { row := orderMergesRow, standIns := [], harness := (true, "da5be4d45a62b1f0ded6f885f65cd1eb61beb18d507e78677aa1d59d3bb14a0c"), looks := false }, kinds := [], alts := [], laidByText := true, laidKinds := [.data], laidTests := true, laidLooks := .later }
def OrderMergesCardSaid : Prop := Claim7.holds Tryz.pinned (.plain (OpenSpec.ofChange orderMergesSpec)) orderMergesCard

/-- THE TIED CARD OF 'placketlaw12.OrderWithin'. -/
def orderWithinCard : Claim7 := { stood := { row := orderWithinRow, standIns := [], harness := (true, "da5be4d45a62b1f0ded6f885f65cd1eb61beb18d507e78677aa1d59d3bb14a0c"), looks := false }, kinds := [], alts := [], laidByText := true, laidKinds := [.data], laidTests := true, laidLooks := .later }
def OrderWithinCardSaid : Prop := Claim7.holds Tryz.pinned (.plain (OpenSpec.ofChange orderWithinSpec)) orderWithinCard

/-- THE SECOND FORM's CARD OF 'placketlaw12.OrderTwo'. -/
def orderTwoUptoCard : Claim7 := { stood := { row := orderTwoUptoRow, standIns := [], harness := (true, "da5be4d45a62b1f0ded6f885f65cd1eb61beb18d507e78677aa1d59d3bb14a0c"), looks := false }, kinds := [], alts := [], laidByText := true, laidKinds := [.data], laidTests := true, laidLooks := .later }
def OrderTwoUptoCardSaid : Prop := Claim7.holds Tryz.pinned (.plain (OpenSpec.upto orderTwoSpec)) orderTwoUptoCard

/-- THE SECOND FORM's CARD OF 'placketlaw12.OrderTotal'. -/
def orderTotalUptoCard : Claim7 := { stood := { row := orderTotalUptoRow, standIns := [], harness := (true, "da5be4d45a62b1f0ded6f885f65cd1eb61beb18d507e78677aa1d59d3bb14a0c"), looks := false }, kinds := [], alts := [], laidByText := true, laidKinds := [.data], laidTests := true, laidLooks := .later }
def OrderTotalUptoCardSaid : Prop := Claim7.holds Tryz.pinned (.plain (OpenSpec.upto orderTotalSpec)) orderTotalUptoCard

/-- THE SECOND FORM's CARD OF 'placketlaw12.OrderParts'. -/
def orderPartsUptoCard : Claim7 := { stood := { row := orderPartsUptoRow, standIns := [], harness := (true, "da5be4d45a62b1f0ded6f885f65cd1eb61beb18d507e78677aa1d59d3bb14a0c"), looks := false }, kinds := [], alts := [], laidByText := true, laidKinds := [.data], laidTests := true, laidLooks := .later }
def OrderPartsUptoCardSaid : Prop := Claim7.holds Tryz.pinned (.plain (OpenSpec.upto orderPartsSpec)) orderPartsUptoCard

/-- THE SECOND FORM's CARD OF 'placketlaw12.OrderSorts'. -/
def orderSortsUptoCard : Claim7 := { stood := { row := orderSortsUptoRow, standIns := [], harness := (true, "da5be4d45a62b1f0ded6f885f65cd1eb61beb18d507e78677aa1d59d3bb14a0c"), looks := false }, kinds := [], alts := [], laidByText := true, laidKinds := [.data], laidTests := true, laidLooks := .later }
def OrderSortsUptoCardSaid : Prop := Claim7.holds Tryz.pinned (.plain (OpenSpec.upto orderSortsSpec)) orderSortsUptoCard

/-- THE SECOND FORM's CARD OF 'placketlaw12.OrderMerges'. -/
def orderMergesUptoCard : Claim7 := { stood := { row := orderMergesUptoRow, standIns := [], harness := (true, "da5be4d45a62b1f0ded6f885f65cd1eb61beb18d507e78677aa1d59d3bb14a0c"), looks := false }, kinds := [], alts := [], laidByText := true, laidKinds := [.data], laidTests := true, laidLooks := .later }
def OrderMergesUptoCardSaid : Prop := Claim7.holds Tryz.pinned (.plain (OpenSpec.upto orderMergesSpec)) orderMergesUptoCard

/-- THE SECOND FORM's CARD OF 'placketlaw12.OrderWithin'. -/
def orderWithinUptoCard : Claim7 := { stood := { row := orderWithinUptoRow, standIns := [], harness := (true, "da5be4d45a62b1f0ded6f885f65cd1eb61beb18d507e78677aa1d59d3bb14a0c"), looks := false }, kinds := [], alts := [], laidByText := true, laidKinds := [.data], laidTests := true, laidLooks := .later }
def OrderWithinUptoCardSaid : Prop := Claim7.holds Tryz.pinned (.plain (OpenSpec.upto orderWithinSpec)) orderWithinUptoCard
end Rows
end Go.Proofs.YtengibnpebfblaaGreatDoor
