/-
  DERIVED. GIVEN WITH THE SEED: THE CARDS: each row of YtoilidbpmjohmaaGreatDoorRows.lean that lists a variable, with what it lists TIED to the program's text (the seventh form; the later family's looks); each row that meets fmt, with fmt's text TOLD by the authors' own Lean function (tested against real Go, not proved from fmt's source: count such statements apart). THE CARD IS WHAT COUNTS. Prove the row's statement (the work); the ties are given (YtoilidbpmjohmaaGreatDoorTie.lean); close each card by the builder's one call (the guide's Derived/Test/ToyasCard.lean, 'card_holds'). Laid BY PROGRAM, IN A SANDBOX (cutbox-door.mjs). By AI agents, Wed Nov 11 2026. No macro, syntax, notation, axiom, sorry.
-/
import Derived.Test.YtoilidbpmjohmaaGreatDoorRows
import GoSem.ClaimSeven
namespace Go.Proofs.YtoilidbpmjohmaaGreatDoor
namespace Rows

/-- THE TIED CARD OF 'compasslaw.PlaneFar'. -/
def planeFarCard : Claim7 := { stood := { row := planeFarRow, standIns := [], harness := (true, "9b08f1aad1f682485d6964d5a1f0a3df4c17e2c6c38c9ac8de331247e21a3ba4"), looks := false }, kinds := [], alts := [], laidByText := true, laidKinds := [.data, .data, .data, .data, .pinned], laidTests := true, laidLooks := .later }
def PlaneFarCardSaid : Prop := Claim7.holds Tryz.pinned (.plain (OpenSpec.ofChange planeFarSpec)) planeFarCard

/-- THE SECOND FORM's CARD OF 'compasslaw.PlaneFar'. -/
def planeFarUptoCard : Claim7 := { stood := { row := planeFarUptoRow, standIns := [], harness := (true, "9b08f1aad1f682485d6964d5a1f0a3df4c17e2c6c38c9ac8de331247e21a3ba4"), looks := false }, kinds := [], alts := [], laidByText := true, laidKinds := [.data, .data, .data, .data, .pinned], laidTests := true, laidLooks := .later }
def PlaneFarUptoCardSaid : Prop := Claim7.holds Tryz.pinned (.plain (OpenSpec.upto planeFarSpec)) planeFarUptoCard
end Rows
end Go.Proofs.YtoilidbpmjohmaaGreatDoor
