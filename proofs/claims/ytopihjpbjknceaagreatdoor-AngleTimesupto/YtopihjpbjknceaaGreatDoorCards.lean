/-
  DERIVED. GIVEN WITH THE SEED: THE CARDS: each row of YtopihjpbjknceaaGreatDoorRows.lean that lists a variable, with what it lists TIED to the program's text (the seventh form; the later family's looks); each row that meets fmt, with fmt's text TOLD by the authors' own Lean function (tested against real Go, not proved from fmt's source: count such statements apart). THE CARD IS WHAT COUNTS. Prove the row's statement (the work); the ties are given (YtopihjpbjknceaaGreatDoorTie.lean); close each card by the builder's one call (the guide's Derived/Test/ToyasCard.lean, 'card_holds'). Laid BY PROGRAM, IN A SANDBOX (cutbox-door.mjs). By AI agents, Wed Nov 11 2026. No macro, syntax, notation, axiom, sorry.
-/
import Derived.Test.YtopihjpbjknceaaGreatDoorRows
import GoSem.ClaimSeven
namespace Go.Proofs.YtopihjpbjknceaaGreatDoor
namespace Rows

/-- THE TIED CARD OF 'compasslaw.AngleTimes'. -/
def angleTimesCard : Claim7 := { stood := { row := angleTimesRow, standIns := [], harness := (true, "7f19f0f3f3ad440f74d917c070e70a9debf5838eed19daa637ddce0abd6fca04"), looks := false }, kinds := [], alts := [], laidByText := true, laidKinds := [.data, .data, .data, .data, .pinned], laidTests := true, laidLooks := .later }
def AngleTimesCardSaid : Prop := Claim7.holds Tryz.pinned (.plain (OpenSpec.ofChange angleTimesSpec)) angleTimesCard

/-- THE SECOND FORM's CARD OF 'compasslaw.AngleTimes'. -/
def angleTimesUptoCard : Claim7 := { stood := { row := angleTimesUptoRow, standIns := [], harness := (true, "7f19f0f3f3ad440f74d917c070e70a9debf5838eed19daa637ddce0abd6fca04"), looks := false }, kinds := [], alts := [], laidByText := true, laidKinds := [.data, .data, .data, .data, .pinned], laidTests := true, laidLooks := .later }
def AngleTimesUptoCardSaid : Prop := Claim7.holds Tryz.pinned (.plain (OpenSpec.upto angleTimesSpec)) angleTimesUptoCard
end Rows
end Go.Proofs.YtopihjpbjknceaaGreatDoor
