/-
  DERIVED. GIVEN WITH THE SEED: THE CARDS: each row of YthhnabccdehmgaaGreatDoorRows.lean that lists a variable, with what it lists TIED to the program's text (the seventh form; the later family's looks); each row that meets fmt, with fmt's text TOLD by the authors' own Lean function (tested against real Go, not proved from fmt's source: count such statements apart). THE CARD IS WHAT COUNTS. Prove the row's statement (the work); the ties are given (YthhnabccdehmgaaGreatDoorTie.lean); close each card by the builder's one call (the guide's Derived/Test/ToyasCard.lean, 'card_holds'). Laid BY PROGRAM, IN A SANDBOX (cutbox-door.mjs). By AI agents, Wed Nov 11 2026. No macro, syntax, notation, axiom, sorry.
-/
import Derived.Test.YthhnabccdehmgaaGreatDoorRows
import GoSem.ClaimSeven
namespace Go.Proofs.YthhnabccdehmgaaGreatDoor
namespace Rows

/-- THE TIED CARD OF 'compasslaw.GridStand'. -/
def gridStandCard : Claim7 := { stood := { row := gridStandRow, standIns := [], harness := (true, "983851f4e3fba1606ca5423afb3cafb3da76dd70ceabafd7043e2c89cacc8a2a"), looks := false }, kinds := [], alts := [], laidByText := true, laidKinds := [.data, .data, .data, .data, .pinned], laidTests := true, laidLooks := .later }
def GridStandCardSaid : Prop := Claim7.holds Tryz.pinned (.plain (OpenSpec.ofChange gridStandSpec)) gridStandCard

/-- THE TIED CARD OF 'compasslaw.GridFord'. -/
def gridFordCard : Claim7 := { stood := { row := gridFordRow, standIns := [], harness := (true, "983851f4e3fba1606ca5423afb3cafb3da76dd70ceabafd7043e2c89cacc8a2a"), looks := false }, kinds := [], alts := [], laidByText := true, laidKinds := [.data, .data, .data, .data, .pinned], laidTests := true, laidLooks := .later }
def GridFordCardSaid : Prop := Claim7.holds Tryz.pinned (.plain (OpenSpec.ofChange gridFordSpec)) gridFordCard

/-- THE SECOND FORM's CARD OF 'compasslaw.GridStand'. -/
def gridStandUptoCard : Claim7 := { stood := { row := gridStandUptoRow, standIns := [], harness := (true, "983851f4e3fba1606ca5423afb3cafb3da76dd70ceabafd7043e2c89cacc8a2a"), looks := false }, kinds := [], alts := [], laidByText := true, laidKinds := [.data, .data, .data, .data, .pinned], laidTests := true, laidLooks := .later }
def GridStandUptoCardSaid : Prop := Claim7.holds Tryz.pinned (.plain (OpenSpec.upto gridStandSpec)) gridStandUptoCard

/-- THE SECOND FORM's CARD OF 'compasslaw.GridFord'. -/
def gridFordUptoCard : Claim7 := { stood := { row := gridFordUptoRow, standIns := [], harness := (true, "983851f4e3fba1606ca5423afb3cafb3da76dd70ceabafd7043e2c89cacc8a2a"), looks := false }, kinds := [], alts := [], laidByText := true, laidKinds := [.data, .data, .data, .data, .pinned], laidTests := true, laidLooks := .later }
def GridFordUptoCardSaid : Prop := Claim7.holds Tryz.pinned (.plain (OpenSpec.upto gridFordSpec)) gridFordUptoCard
end Rows
end Go.Proofs.YthhnabccdehmgaaGreatDoor
