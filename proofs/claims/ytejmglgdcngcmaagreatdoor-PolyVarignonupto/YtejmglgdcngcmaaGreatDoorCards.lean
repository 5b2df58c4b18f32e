/-
  DERIVED. GIVEN WITH THE SEED: THE CARDS: each row of YtejmglgdcngcmaaGreatDoorRows.lean that lists a variable, with what it lists TIED to the program's text (the seventh form; the later family's looks); each row that meets fmt, with fmt's text TOLD by the authors' own Lean function (tested against real Go, not proved from fmt's source: count such statements apart). THE CARD IS WHAT COUNTS. Prove the row's statement (the work); the ties are given (YtejmglgdcngcmaaGreatDoorTie.lean); close each card by the builder's one call (the guide's Derived/Test/ToyasCard.lean, 'card_holds'). Laid BY PROGRAM, IN A SANDBOX (cutbox-door.mjs). By AI agents, Wed Nov 11 2026. No macro, syntax, notation, axiom, sorry.
-/
import Derived.Test.YtejmglgdcngcmaaGreatDoorRows
import GoSem.ClaimSeven
namespace Go.Proofs.YtejmglgdcngcmaaGreatDoor
namespace Rows

/-- THE TIED CARD OF 'compasslaw.PolyVarignon'. -/
def polyVarignonCard : Claim7 := { stood := { row := polyVarignonRow, standIns := [], harness := (true, "e754c872046f88b4e3fbc880dd72b1ff39d2e2596efdc37176d821b4d1098414"), looks := false }, kinds := [], alts := [], laidByText := true, laidKinds := [.data, .data, .data, .data, .pinned], laidTests := true, laidLooks := .later }
def PolyVarignonCardSaid : Prop := Claim7.holds Tryz.pinned (.plain (OpenSpec.ofChange polyVarignonSpec)) polyVarignonCard

/-- THE SECOND FORM's CARD OF 'compasslaw.PolyVarignon'. -/
def polyVarignonUptoCard : Claim7 := { stood := { row := polyVarignonUptoRow, standIns := [], harness := (true, "e754c872046f88b4e3fbc880dd72b1ff39d2e2596efdc37176d821b4d1098414"), looks := false }, kinds := [], alts := [], laidByText := true, laidKinds := [.data, .data, .data, .data, .pinned], laidTests := true, laidLooks := .later }
def PolyVarignonUptoCardSaid : Prop := Claim7.holds Tryz.pinned (.plain (OpenSpec.upto polyVarignonSpec)) polyVarignonUptoCard
end Rows
end Go.Proofs.YtejmglgdcngcmaaGreatDoor
