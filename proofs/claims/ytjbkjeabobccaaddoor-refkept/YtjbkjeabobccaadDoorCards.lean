/-
  DERIVED. GIVEN WITH THE SEED: THE CARDS: each row of YtjbkjeabobccaadDoorRows.lean that lists a variable, with what it lists TIED to the program's text (the seventh form; the later family's looks); each row that meets fmt, with fmt's text TOLD by the authors' own Lean function (tested against real Go, not proved from fmt's source: count such statements apart). THE CARD IS WHAT COUNTS. Prove the row's statement (the work); the ties are given (YtjbkjeabobccaadDoorTie.lean); close each card by the builder's one call (the guide's Derived/Test/ToyasCard.lean, 'card_holds'). Laid BY PROGRAM, IN A SANDBOX (cutbox-door.mjs). By AI agents, Wed Nov 11 2026. No macro, syntax, notation, axiom, sorry.
-/
import Derived.Test.YtjbkjeabobccaadDoorRows
import GoSem.ClaimSeven
namespace Go.Proofs.YtjbkjeabobccaadDoor
namespace Rows

/-- THE TIED CARD OF 'sheetlaw03.RefKept'. -/
def refKeptCard : Claim7 := { stood := { row := refKeptRow, standIns := [], harness := (true, "c47a49e8584aa11c318bb457e4839d4ade303d3a26a72355042cc9a4b004410d"), looks := false }, kinds := [], alts := [], laidByText := true, laidKinds := [.data, .data, .data], laidTests := true, laidLooks := .later }
def RefKeptCardSaid : Prop := Claim7.holds Tryd.pinned (.plain (OpenSpec.ofChange refKeptSpec)) refKeptCard

/-- THE SECOND FORM's CARD OF 'sheetlaw03.RefKept'. -/
def refKeptUptoCard : Claim7 := { stood := { row := refKeptUptoRow, standIns := [], harness := (true, "c47a49e8584aa11c318bb457e4839d4ade303d3a26a72355042cc9a4b004410d"), looks := false }, kinds := [], alts := [], laidByText := true, laidKinds := [.data, .data, .data], laidTests := true, laidLooks := .later }
def RefKeptUptoCardSaid : Prop := Claim7.holds Tryd.pinned (.plain (OpenSpec.upto refKeptSpec)) refKeptUptoCard
end Rows
end Go.Proofs.YtjbkjeabobccaadDoor
