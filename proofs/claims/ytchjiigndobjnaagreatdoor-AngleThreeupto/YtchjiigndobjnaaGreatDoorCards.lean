/-
  DERIVED. GIVEN WITH THE SEED: THE CARDS: each row of YtchjiigndobjnaaGreatDoorRows.lean that lists a variable, with what it lists TIED to the program's text (the seventh form; the later family's looks); each row that meets fmt, with fmt's text TOLD by the authors' own Lean function (tested against real Go, not proved from fmt's source: count such statements apart). THE CARD IS WHAT COUNTS. Prove the row's statement (the work); the ties are given (YtchjiigndobjnaaGreatDoorTie.lean); close each card by the builder's one call (the guide's Derived/Test/ToyasCard.lean, 'card_holds'). Laid BY PROGRAM, IN A SANDBOX (cutbox-door.mjs). By AI agents, Wed Nov 11 2026. No macro, syntax, notation, axiom, sorry.
-/
import Derived.Test.YtchjiigndobjnaaGreatDoorRows
import GoSem.ClaimSeven
namespace Go.Proofs.YtchjiigndobjnaaGreatDoor
namespace Rows

/-- THE TIED CARD OF 'compasslaw.AngleThree'. -/
def angleThreeCard : Claim7 := { stood := { row := angleThreeRow, standIns := [], harness := (true, "cf1bd6c6578bc4b56fe873add2b968ce6e37b2a35f83a983c97b221bfdc69a72"), looks := false }, kinds := [], alts := [], laidByText := true, laidKinds := [.data, .data, .data, .data, .pinned], laidTests := true, laidLooks := .later }
def AngleThreeCardSaid : Prop := Claim7.holds Tryz.pinned (.plain (OpenSpec.ofChange angleThreeSpec)) angleThreeCard

/-- THE SECOND FORM's CARD OF 'compasslaw.AngleThree'. -/
def angleThreeUptoCard : Claim7 := { stood := { row := angleThreeUptoRow, standIns := [], harness := (true, "cf1bd6c6578bc4b56fe873add2b968ce6e37b2a35f83a983c97b221bfdc69a72"), looks := false }, kinds := [], alts := [], laidByText := true, laidKinds := [.data, .data, .data, .data, .pinned], laidTests := true, laidLooks := .later }
def AngleThreeUptoCardSaid : Prop := Claim7.holds Tryz.pinned (.plain (OpenSpec.upto angleThreeSpec)) angleThreeUptoCard
end Rows
end Go.Proofs.YtchjiigndobjnaaGreatDoor
