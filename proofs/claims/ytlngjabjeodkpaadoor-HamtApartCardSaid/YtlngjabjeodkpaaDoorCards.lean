/-
  DERIVED. GIVEN WITH THE SEED: THE CARDS: each row of YtlngjabjeodkpaaDoorRows.lean that lists a variable, with what it lists TIED to the program's text (the seventh form; the later family's looks); each row that meets fmt, with fmt's text TOLD by the authors' own Lean function (tested against real Go, not proved from fmt's source: count such statements apart). THE CARD IS WHAT COUNTS. Prove the row's statement (the work); the ties are given (YtlngjabjeodkpaaDoorTie.lean); close each card by the builder's one call (the guide's Derived/Test/ToyasCard.lean, 'card_holds'). Laid BY PROGRAM, IN A SANDBOX (cutbox-door.mjs). By AI agents, Wed Nov 11 2026. No macro, syntax, notation, axiom, sorry.
-/
import Derived.Test.YtlngjabjeodkpaaDoorRows
import GoSem.ClaimSeven
namespace Go.Proofs.YtlngjabjeodkpaaDoor
namespace Rows

/-- THE TIED CARD OF 'placketlaw09.HamtBranches'. -/
def hamtBranchesCard : Claim7 := { stood := { row := hamtBranchesRow, standIns := [], harness := (true, "85c6b165022ae44385d1d9f35d177b4fe89c9428b8292f23f6c9a706781b38d6"), looks := false }, kinds := [], alts := [], laidByText := true, laidKinds := [.data, .data, .data], laidTests := true, laidLooks := .later }
def HamtBranchesCardSaid : Prop := Claim7.holds Tryd.pinned (.plain (OpenSpec.ofChange hamtBranchesSpec)) hamtBranchesCard

/-- THE TIED CARD OF 'placketlaw09.HamtWalks'. -/
def hamtWalksCard : Claim7 := { stood := { row := hamtWalksRow, standIns := [], harness := (true, "85c6b165022ae44385d1d9f35d177b4fe89c9428b8292f23f6c9a706781b38d6"), looks := false }, kinds := [], alts := [], laidByText := true, laidKinds := [.data, .data, .data], laidTests := true, laidLooks := .later }
def HamtWalksCardSaid : Prop := Claim7.holds Tryd.pinned (.plain (OpenSpec.ofChange hamtWalksSpec)) hamtWalksCard

/-- THE TIED CARD OF 'placketlaw09.HamtOneShape'. -/
def hamtOneShapeCard : Claim7 := { stood := { row := hamtOneShapeRow, standIns := [], harness := (true, "85c6b165022ae44385d1d9f35d177b4fe89c9428b8292f23f6c9a706781b38d6"), looks := false }, kinds := [], alts := [], laidByText := true, laidKinds := [.data, .data, .data], laidTests := true, laidLooks := .later }
def HamtOneShapeCardSaid : Prop := Claim7.holds Tryd.pinned (.plain (OpenSpec.ofChange hamtOneShapeSpec)) hamtOneShapeCard

/-- THE TIED CARD OF 'placketlaw09.HamtApart'. -/
def hamtApartCard : Claim7 := { stood := { row := hamtApartRow, standIns := [], harness := (true, "85c6b165022ae44385d1d9f35d177b4fe89c9428b8292f23f6c9a706781b38d6"), looks := false }, kinds := [], alts := [], laidByText := true, laidKinds := [.data, .data, .data], laidTests := true, laidLooks := .later }
def HamtApartCardSaid : Prop := Claim7.holds Tryd.pinned (.plain (OpenSpec.ofChange hamtApartSpec)) hamtApartCard

/-- THE SECOND FORM's CARD OF 'placketlaw09.HamtBranches'. -/
def hamtBranchesUptoCard : Claim7 := { stood := { row := hamtBranchesUptoRow, standIns := [], harness := (true, "85c6b165022ae44385d1d9f35d177b4fe89c9428b8292f23f6c9a706781b38d6"), looks := false }, kinds := [], alts := [], laidByText := true, laidKinds := [.data, .data, .data], laidTests := true, laidLooks := .later }
def HamtBranchesUptoCardSaid : Prop := Claim7.holds Tryd.pinned (.plain (OpenSpec.upto hamtBranchesSpec)) hamtBranchesUptoCard

/-- THE SECOND FORM's CARD OF 'placketlaw09.HamtWalks'. -/
def hamtWalksUptoCard : Claim7 := { stood := { row := hamtWalksUptoRow, standIns := [], harness := (true, "85c6b165022ae44385d1d9f35d177b4fe89c9428b8292f23f6c9a706781b38d6"), looks := false }, kinds := [], alts := [], laidByText := true, laidKinds := [.data, .data, .data], laidTests := true, laidLooks := .later }
def HamtWalksUptoCardSaid : Prop := Claim7.holds Tryd.pinned (.plain (OpenSpec.upto hamtWalksSpec)) hamtWalksUptoCard

/-- THE SECOND FORM's CARD OF 'placketlaw09.HamtOneShape'. -/
def hamtOneShapeUptoCard : Claim7 := { stood := { row := hamtOneShapeUptoRow, standIns := [], harness := (true, "85c6b165022ae44385d1d9f35d177b4fe89c9428b8292f23f6c9a706781b38d6"), looks := false }, kinds := [], alts := [], laidByText := true, laidKinds := [.data, .data, .data], laidTests := true, laidLooks := .later }
def HamtOneShapeUptoCardSaid : Prop := Claim7.holds Tryd.pinned (.plain (OpenSpec.upto hamtOneShapeSpec)) hamtOneShapeUptoCard

/-- THE SECOND FORM's CARD OF 'placketlaw09.HamtApart'. -/
def hamtApartUptoCard : Claim7 := { stood := { row := hamtApartUptoRow, standIns := [], harness := (true, "85c6b165022ae44385d1d9f35d177b4fe89c9428b8292f23f6c9a706781b38d6"), looks := false }, kinds := [], alts := [], laidByText := true, laidKinds := [.data, .data, .data], laidTests := true, laidLooks := .later }
def HamtApartUptoCardSaid : Prop := Claim7.holds Tryd.pinned (.plain (OpenSpec.upto hamtApartSpec)) hamtApartUptoCard
end Rows
end Go.Proofs.YtlngjabjeodkpaaDoor
