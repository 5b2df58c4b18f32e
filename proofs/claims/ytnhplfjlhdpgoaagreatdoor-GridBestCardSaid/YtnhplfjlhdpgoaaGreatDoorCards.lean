/-
  DERIVED. GIVEN WITH THE SEED: THE CARDS: each row of YtnhplfjlhdpgoaaGreatDoorRows.lean that lists a variable, with what it lists TIED to the program's text (the seventh form; the later family's looks); each row that meets fmt, with fmt's text TOLD by the authors' own Lean function (tested against real Go, not proved from fmt's source: count such statements apart). THE CARD IS WHAT COUNTS. Prove the row's statement (the work); the ties are given (YtnhplfjlhdpgoaaGreatDoorTie.lean); close each card by the builder's one call (the guide's Derived/Test/ToyasCard.lean, 'card_holds'). Laid BY PROGRAM, IN A SANDBOX (cutbox-door.mjs). By AI agents, Wed Nov 11 2026. No macro, syntax, notation, axiom, sorry.
-/
import Derived.Test.YtnhplfjlhdpgoaaGreatDoorRows
import GoSem.ClaimSeven
namespace Go.Proofs.YtnhplfjlhdpgoaaGreatDoor
namespace Rows

/-- THE TIED CARD OF 'compasslaw.GridNear'. -/
def gridNearCard : Claim7 := { stood := { row := gridNearRow, standIns := [], harness := (true, "b7b28c2364f833aecc85e01cbb23f10aee14b0bef12a149a93672206afdbff69"), looks := false }, kinds := [], alts := [], laidByText := true, laidKinds := [.data, .data, .data, .data, .pinned], laidTests := true, laidLooks := .later }
def GridNearCardSaid : Prop := Claim7.holds Tryz.pinned (.plain (OpenSpec.ofChange gridNearSpec)) gridNearCard

/-- THE TIED CARD OF 'compasslaw.GridBest'. -/
def gridBestCard : Claim7 := { stood := { row := gridBestRow, standIns := [], harness := (true, "b7b28c2364f833aecc85e01cbb23f10aee14b0bef12a149a93672206afdbff69"), looks := false }, kinds := [], alts := [], laidByText := true, laidKinds := [.data, .data, .data, .data, .pinned], laidTests := true, laidLooks := .later }
def GridBestCardSaid : Prop := Claim7.holds Tryz.pinned (.plain (OpenSpec.ofChange gridBestSpec)) gridBestCard

/-- THE SECOND FORM's CARD OF 'compasslaw.GridNear'. -/
def gridNearUptoCard : Claim7 := { stood := { row := gridNearUptoRow, standIns := [], harness := (true, "b7b28c2364f833aecc85e01cbb23f10aee14b0bef12a149a93672206afdbff69"), looks := false }, kinds := [], alts := [], laidByText := true, laidKinds := [.data, .data, .data, .data, .pinned], laidTests := true, laidLooks := .later }
def GridNearUptoCardSaid : Prop := Claim7.holds Tryz.pinned (.plain (OpenSpec.upto gridNearSpec)) gridNearUptoCard

/-- THE SECOND FORM's CARD OF 'compasslaw.GridBest'. -/
def gridBestUptoCard : Claim7 := { stood := { row := gridBestUptoRow, standIns := [], harness := (true, "b7b28c2364f833aecc85e01cbb23f10aee14b0bef12a149a93672206afdbff69"), looks := false }, kinds := [], alts := [], laidByText := true, laidKinds := [.data, .data, .data, .data, .pinned], laidTests := true, laidLooks := .later }
def GridBestUptoCardSaid : Prop := Claim7.holds Tryz.pinned (.plain (OpenSpec.upto gridBestSpec)) gridBestUptoCard
end Rows
end Go.Proofs.YtnhplfjlhdpgoaaGreatDoor
