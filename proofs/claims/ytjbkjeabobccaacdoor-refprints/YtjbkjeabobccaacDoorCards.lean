/-
  DERIVED. GIVEN WITH THE SEED: THE CARDS: each row of YtjbkjeabobccaacDoorRows.lean that lists a variable, with what it lists TIED to the program's text (the seventh form; the later family's looks); each row that meets fmt, with fmt's text TOLD by the authors' own Lean function (tested against real Go, not proved from fmt's source: count such statements apart). THE CARD IS WHAT COUNTS. Prove the row's statement (the work); the ties are given (YtjbkjeabobccaacDoorTie.lean); close each card by the builder's one call (the guide's Derived/Test/ToyasCard.lean, 'card_holds'). Laid BY PROGRAM, IN A SANDBOX (cutbox-door.mjs). By AI agents, Wed Nov 11 2026. No macro, syntax, notation, axiom, sorry.
-/
import Derived.Test.YtjbkjeabobccaacDoorRows
import GoSem.ClaimSeven
namespace Go.Proofs.YtjbkjeabobccaacDoor
namespace Rows

/-- THE TIED CARD OF 'sheetlaw03.RefParses'. -/
def refParsesCard : Claim7 := { stood := { row := refParsesRow, standIns := [], harness := (true, "ad8834cac4721b4e9c19e82759e1855edf89738527f35c6369b6a73ddb752990"), looks := false }, kinds := [], alts := [], laidByText := true, laidKinds := [.data, .data, .data], laidTests := true, laidLooks := .later }
def RefParsesCardSaid : Prop := Claim7.holds Tryd.pinned (.plain (OpenSpec.ofChange refParsesSpec)) refParsesCard

/-- THE TIED CARD OF 'sheetlaw03.RefPrints'. -/
def refPrintsCard : Claim7 := { stood := { row := refPrintsRow, standIns := [], harness := (true, "ad8834cac4721b4e9c19e82759e1855edf89738527f35c6369b6a73ddb752990"), looks := false }, kinds := [], alts := [], laidByText := true, laidKinds := [.data, .data, .data], laidTests := true, laidLooks := .later }
def RefPrintsCardSaid : Prop := Claim7.holds Tryd.pinned (.plain (OpenSpec.ofChange refPrintsSpec)) refPrintsCard

/-- THE TIED CARD OF 'sheetlaw03.RefBounds'. -/
def refBoundsCard : Claim7 := { stood := { row := refBoundsRow, standIns := [], harness := (true, "ad8834cac4721b4e9c19e82759e1855edf89738527f35c6369b6a73ddb752990"), looks := false }, kinds := [], alts := [], laidByText := true, laidKinds := [.data, .data, .data], laidTests := true, laidLooks := .later }
def RefBoundsCardSaid : Prop := Claim7.holds Tryd.pinned (.plain (OpenSpec.ofChange refBoundsSpec)) refBoundsCard

/-- THE TIED CARD OF 'sheetlaw03.RefCopied'. -/
def refCopiedCard : Claim7 := { stood := { row := refCopiedRow, standIns := [], harness := (true, "ad8834cac4721b4e9c19e82759e1855edf89738527f35c6369b6a73ddb752990"), looks := false }, kinds := [], alts := [], laidByText := true, laidKinds := [.data, .data, .data], laidTests := true, laidLooks := .later }
def RefCopiedCardSaid : Prop := Claim7.holds Tryd.pinned (.plain (OpenSpec.ofChange refCopiedSpec)) refCopiedCard

/-- THE TIED CARD OF 'sheetlaw03.RefMoved'. -/
def refMovedCard : Claim7 := { stood := { row := refMovedRow, standIns := [], harness := (true, "ad8834cac4721b4e9c19e82759e1855edf89738527f35c6369b6a73ddb752990"), looks := false }, kinds := [], alts := [], laidByText := true, laidKinds := [.data, .data, .data], laidTests := true, laidLooks := .later }
def RefMovedCardSaid : Prop := Claim7.holds Tryd.pinned (.plain (OpenSpec.ofChange refMovedSpec)) refMovedCard

/-- THE SECOND FORM's CARD OF 'sheetlaw03.RefParses'. -/
def refParsesUptoCard : Claim7 := { stood := { row := refParsesUptoRow, standIns := [], harness := (true, "ad8834cac4721b4e9c19e82759e1855edf89738527f35c6369b6a73ddb752990"), looks := false }, kinds := [], alts := [], laidByText := true, laidKinds := [.data, .data, .data], laidTests := true, laidLooks := .later }
def RefParsesUptoCardSaid : Prop := Claim7.holds Tryd.pinned (.plain (OpenSpec.upto refParsesSpec)) refParsesUptoCard

/-- THE SECOND FORM's CARD OF 'sheetlaw03.RefPrints'. -/
def refPrintsUptoCard : Claim7 := { stood := { row := refPrintsUptoRow, standIns := [], harness := (true, "ad8834cac4721b4e9c19e82759e1855edf89738527f35c6369b6a73ddb752990"), looks := false }, kinds := [], alts := [], laidByText := true, laidKinds := [.data, .data, .data], laidTests := true, laidLooks := .later }
def RefPrintsUptoCardSaid : Prop := Claim7.holds Tryd.pinned (.plain (OpenSpec.upto refPrintsSpec)) refPrintsUptoCard

/-- THE SECOND FORM's CARD OF 'sheetlaw03.RefBounds'. -/
def refBoundsUptoCard : Claim7 := { stood := { row := refBoundsUptoRow, standIns := [], harness := (true, "ad8834cac4721b4e9c19e82759e1855edf89738527f35c6369b6a73ddb752990"), looks := false }, kinds := [], alts := [], laidByText := true, laidKinds := [.data, .data, .data], laidTests := true, laidLooks := .later }
def RefBoundsUptoCardSaid : Prop := Claim7.holds Tryd.pinned (.plain (OpenSpec.upto refBoundsSpec)) refBoundsUptoCard

/-- THE SECOND FORM's CARD OF 'sheetlaw03.RefCopied'. -/
def refCopiedUptoCard : Claim7 := { stood := { row := refCopiedUptoRow, standIns := [], harness := (true, "ad8834cac4721b4e9c19e82759e1855edf89738527f35c6369b6a73ddb752990"), looks := false }, kinds := [], alts := [], laidByText := true, laidKinds := [.data, .data, .data], laidTests := true, laidLooks := .later }
def RefCopiedUptoCardSaid : Prop := Claim7.holds Tryd.pinned (.plain (OpenSpec.upto refCopiedSpec)) refCopiedUptoCard

/-- THE SECOND FORM's CARD OF 'sheetlaw03.RefMoved'. -/
def refMovedUptoCard : Claim7 := { stood := { row := refMovedUptoRow, standIns := [], harness := (true, "ad8834cac4721b4e9c19e82759e1855edf89738527f35c6369b6a73ddb752990"), looks := false }, kinds := [], alts := [], laidByText := true, laidKinds := [.data, .data, .data], laidTests := true, laidLooks := .later }
def RefMovedUptoCardSaid : Prop := Claim7.holds Tryd.pinned (.plain (OpenSpec.upto refMovedSpec)) refMovedUptoCard
end Rows
end Go.Proofs.YtjbkjeabobccaacDoor
