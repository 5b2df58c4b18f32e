/-
  DERIVED. GIVEN WITH THE SEED: THE CARDS: each row of YtibifijaanjekaaGreatDoorRows.lean that lists a variable, with what it lists TIED to the program's text (the seventh form; the later family's looks); each row that meets fmt, with fmt's text TOLD by the authors' own Lean function (tested against real Go, not proved from fmt's source: count such statements apart). THE CARD IS WHAT COUNTS. Prove the row's statement (the work); the ties are given (YtibifijaanjekaaGreatDoorTie.lean); close each card by the builder's one call (the guide's Derived/Test/ToyasCard.lean, 'card_holds'). Laid BY PROGRAM, IN A SANDBOX (cutbox-door.mjs). By AI agents, Wed Nov 11 2026. No macro, syntax, notation, axiom, sorry.
-/
import Derived.Test.YtibifijaanjekaaGreatDoorRows
import GoSem.ClaimSeven
namespace Go.Proofs.YtibifijaanjekaaGreatDoor
namespace Rows

/-- THE TIED CARD OF 'compasslaw.TriangleCentre'. -/
def triangleCentreCard : Claim7 := { stood := { row := triangleCentreRow, standIns := [], harness := (true, "36ad7ab95ecdd9dc9f6fb63eccea2f0d51143c6f89e1ed7629d64b1ca31f4026"), looks := false }, kinds := [], alts := [], laidByText := true, laidKinds := [.data, .data, .data, .data, .pinned], laidTests := true, laidLooks := .later }
def TriangleCentreCardSaid : Prop := Claim7.holds Tryz.pinned (.plain (OpenSpec.ofChange triangleCentreSpec)) triangleCentreCard

/-- THE TIED CARD OF 'compasslaw.TurnKeeps'. -/
def turnKeepsCard : Claim7 := { stood := { row := turnKeepsRow, standIns := [], harness := (true, "36ad7ab95ecdd9dc9f6fb63eccea2f0d51143c6f89e1ed7629d64b1ca31f4026"), looks := false }, kinds := [], alts := [], laidByText := true, laidKinds := [.data, .data, .data, .data, .pinned], laidTests := true, laidLooks := .later }
def TurnKeepsCardSaid : Prop := Claim7.holds Tryz.pinned (.plain (OpenSpec.ofChange turnKeepsSpec)) turnKeepsCard

/-- THE SECOND FORM's CARD OF 'compasslaw.TriangleCentre'. -/
def triangleCentreUptoCard : Claim7 := { stood := { row := triangleCentreUptoRow, standIns := [], harness := (true, "36ad7ab95ecdd9dc9f6fb63eccea2f0d51143c6f89e1ed7629d64b1ca31f4026"), looks := false }, kinds := [], alts := [], laidByText := true, laidKinds := [.data, .data, .data, .data, .pinned], laidTests := true, laidLooks := .later }
def TriangleCentreUptoCardSaid : Prop := Claim7.holds Tryz.pinned (.plain (OpenSpec.upto triangleCentreSpec)) triangleCentreUptoCard

/-- THE SECOND FORM's CARD OF 'compasslaw.TurnKeeps'. -/
def turnKeepsUptoCard : Claim7 := { stood := { row := turnKeepsUptoRow, standIns := [], harness := (true, "36ad7ab95ecdd9dc9f6fb63eccea2f0d51143c6f89e1ed7629d64b1ca31f4026"), looks := false }, kinds := [], alts := [], laidByText := true, laidKinds := [.data, .data, .data, .data, .pinned], laidTests := true, laidLooks := .later }
def TurnKeepsUptoCardSaid : Prop := Claim7.holds Tryz.pinned (.plain (OpenSpec.upto turnKeepsSpec)) turnKeepsUptoCard
end Rows
end Go.Proofs.YtibifijaanjekaaGreatDoor
