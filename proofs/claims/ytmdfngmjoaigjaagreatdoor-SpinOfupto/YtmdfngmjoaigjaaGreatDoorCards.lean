/-
  DERIVED. GIVEN WITH THE SEED: THE CARDS: each row of YtmdfngmjoaigjaaGreatDoorRows.lean that lists a variable, with what it lists TIED to the program's text (the seventh form; the later family's looks); each row that meets fmt, with fmt's text TOLD by the authors' own Lean function (tested against real Go, not proved from fmt's source: count such statements apart). THE CARD IS WHAT COUNTS. Prove the row's statement (the work); the ties are given (YtmdfngmjoaigjaaGreatDoorTie.lean); close each card by the builder's one call (the guide's Derived/Test/ToyasCard.lean, 'card_holds'). Laid BY PROGRAM, IN A SANDBOX (cutbox-door.mjs). By AI agents, Wed Nov 11 2026. No macro, syntax, notation, axiom, sorry.
-/
import Derived.Test.YtmdfngmjoaigjaaGreatDoorRows
import GoSem.ClaimSeven
namespace Go.Proofs.YtmdfngmjoaigjaaGreatDoor
namespace Rows

/-- THE TIED CARD OF 'compasslaw.SpinBall'. -/
def spinBallCard : Claim7 := { stood := { row := spinBallRow, standIns := [], harness := (true, "d3f8dff1c82f02361b6c6bcd9f68e969f623fa5acbaef8ad6a1fba065599f965"), looks := false }, kinds := [], alts := [], laidByText := true, laidKinds := [.data, .data, .data, .data, .pinned], laidTests := true, laidLooks := .later }
def SpinBallCardSaid : Prop := Claim7.holds Tryz.pinned (.plain (OpenSpec.ofChange spinBallSpec)) spinBallCard

/-- THE TIED CARD OF 'compasslaw.SpinOf'. -/
def spinOfCard : Claim7 := { stood := { row := spinOfRow, standIns := [], harness := (true, "d3f8dff1c82f02361b6c6bcd9f68e969f623fa5acbaef8ad6a1fba065599f965"), looks := false }, kinds := [], alts := [], laidByText := true, laidKinds := [.data, .data, .data, .data, .pinned], laidTests := true, laidLooks := .later }
def SpinOfCardSaid : Prop := Claim7.holds Tryz.pinned (.plain (OpenSpec.ofChange spinOfSpec)) spinOfCard

/-- THE TIED CARD OF 'compasslaw.SpinKeeps'. -/
def spinKeepsCard : Claim7 := { stood := { row := spinKeepsRow, standIns := [], harness := (true, "d3f8dff1c82f02361b6c6bcd9f68e969f623fa5acbaef8ad6a1fba065599f965"), looks := false }, kinds := [], alts := [], laidByText := true, laidKinds := [.data, .data, .data, .data, .pinned], laidTests := true, laidLooks := .later }
def SpinKeepsCardSaid : Prop := Claim7.holds Tryz.pinned (.plain (OpenSpec.ofChange spinKeepsSpec)) spinKeepsCard

/-- THE TIED CARD OF 'compasslaw.SpinAxis'. -/
def spinAxisCard : Claim7 := { stood := { row := spinAxisRow, standIns := [], harness := (true, "d3f8dff1c82f02361b6c6bcd9f68e969f623fa5acbaef8ad6a1fba065599f965"), looks := false }, kinds := [], alts := [], laidByText := true, laidKinds := [.data, .data, .data, .data, .pinned], laidTests := true, laidLooks := .later }
def SpinAxisCardSaid : Prop := Claim7.holds Tryz.pinned (.plain (OpenSpec.ofChange spinAxisSpec)) spinAxisCard

/-- THE TIED CARD OF 'compasslaw.SpinCircles'. -/
def spinCirclesCard : Claim7 := { stood := { row := spinCirclesRow, standIns := [], harness := (true, "d3f8dff1c82f02361b6c6bcd9f68e969f623fa5acbaef8ad6a1fba065599f965"), looks := false }, kinds := [], alts := [], laidByText := true, laidKinds := [.data, .data, .data, .data, .pinned], laidTests := true, laidLooks := .later }
def SpinCirclesCardSaid : Prop := Claim7.holds Tryz.pinned (.plain (OpenSpec.ofChange spinCirclesSpec)) spinCirclesCard

/-- THE SECOND FORM's CARD OF 'compasslaw.SpinBall'. -/
def spinBallUptoCard : Claim7 := { stood := { row := spinBallUptoRow, standIns := [], harness := (true, "d3f8dff1c82f02361b6c6bcd9f68e969f623fa5acbaef8ad6a1fba065599f965"), looks := false }, kinds := [], alts := [], laidByText := true, laidKinds := [.data, .data, .data, .data, .pinned], laidTests := true, laidLooks := .later }
def SpinBallUptoCardSaid : Prop := Claim7.holds Tryz.pinned (.plain (OpenSpec.upto spinBallSpec)) spinBallUptoCard

/-- THE SECOND FORM's CARD OF 'compasslaw.SpinOf'. -/
def spinOfUptoCard : Claim7 := { stood := { row := spinOfUptoRow, standIns := [], harness := (true, "d3f8dff1c82f02361b6c6bcd9f68e969f623fa5acbaef8ad6a1fba065599f965"), looks := false }, kinds := [], alts := [], laidByText := true, laidKinds := [.data, .data, .data, .data, .pinned], laidTests := true, laidLooks := .later }
def SpinOfUptoCardSaid : Prop := Claim7.holds Tryz.pinned (.plain (OpenSpec.upto spinOfSpec)) spinOfUptoCard

/-- THE SECOND FORM's CARD OF 'compasslaw.SpinKeeps'. -/
def spinKeepsUptoCard : Claim7 := { stood := { row := spinKeepsUptoRow, standIns := [], harness := (true, "d3f8dff1c82f02361b6c6bcd9f68e969f623fa5acbaef8ad6a1fba065599f965"), looks := false }, kinds := [], alts := [], laidByText := true, laidKinds := [.data, .data, .data, .data, .pinned], laidTests := true, laidLooks := .later }
def SpinKeepsUptoCardSaid : Prop := Claim7.holds Tryz.pinned (.plain (OpenSpec.upto spinKeepsSpec)) spinKeepsUptoCard

/-- THE SECOND FORM's CARD OF 'compasslaw.SpinAxis'. -/
def spinAxisUptoCard : Claim7 := { stood := { row := spinAxisUptoRow, standIns := [], harness := (true, "d3f8dff1c82f02361b6c6bcd9f68e969f623fa5acbaef8ad6a1fba065599f965"), looks := false }, kinds := [], alts := [], laidByText := true, laidKinds := [.data, .data, .data, .data, .pinned], laidTests := true, laidLooks := .later }
def SpinAxisUptoCardSaid : Prop := Claim7.holds Tryz.pinned (.plain (OpenSpec.upto spinAxisSpec)) spinAxisUptoCard

/-- THE SECOND FORM's CARD OF 'compasslaw.SpinCircles'. -/
def spinCirclesUptoCard : Claim7 := { stood := { row := spinCirclesUptoRow, standIns := [], harness := (true, "d3f8dff1c82f02361b6c6bcd9f68e969f623fa5acbaef8ad6a1fba065599f965"), looks := false }, kinds := [], alts := [], laidByText := true, laidKinds := [.data, .data, .data, .data, .pinned], laidTests := true, laidLooks := .later }
def SpinCirclesUptoCardSaid : Prop := Claim7.holds Tryz.pinned (.plain (OpenSpec.upto spinCirclesSpec)) spinCirclesUptoCard
end Rows
end Go.Proofs.YtmdfngmjoaigjaaGreatDoor
