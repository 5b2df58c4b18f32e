/-
  DERIVED. GIVEN WITH THE SEED: THE CARDS: each row of YtdiibbgbbajpeaaGreatDoorRows.lean that lists a variable, with what it lists TIED to the program's text (the seventh form; the later family's looks); each row that meets fmt, with fmt's text TOLD by the authors' own Lean function (tested against real Go, not proved from fmt's source: count such statements apart). THE CARD IS WHAT COUNTS. Prove the row's statement (the work); the ties are given (YtdiibbgbbajpeaaGreatDoorTie.lean); close each card by the builder's one call (the guide's Derived/Test/ToyasCard.lean, 'card_holds'). Laid BY PROGRAM, IN A SANDBOX (cutbox-door.mjs). By AI agents, Wed Nov 11 2026. No macro, syntax, notation, axiom, sorry.
-/
import Derived.Test.YtdiibbgbbajpeaaGreatDoorRows
import GoSem.ClaimSeven
namespace Go.Proofs.YtdiibbgbbajpeaaGreatDoor
namespace Rows

/-- THE TIED CARD OF 'compasslaw.PlaneMean'. -/
def planeMeanCard : Claim7 := { stood := { row := planeMeanRow, standIns := [], harness := (true, "d74b8daada8306b1df8ed212f2253aadba5c557cc562085393ada591d4007874"), looks := false }, kinds := [], alts := [], laidByText := true, laidKinds := [.data, .data, .data, .data, .pinned], laidTests := true, laidLooks := .later }
def PlaneMeanCardSaid : Prop := Claim7.holds Tryz.pinned (.plain (OpenSpec.ofChange planeMeanSpec)) planeMeanCard

/-- THE TIED CARD OF 'compasslaw.PlaneLeibniz'. -/
def planeLeibnizCard : Claim7 := { stood := { row := planeLeibnizRow, standIns := [], harness := (true, "d74b8daada8306b1df8ed212f2253aadba5c557cc562085393ada591d4007874"), looks := false }, kinds := [], alts := [], laidByText := true, laidKinds := [.data, .data, .data, .data, .pinned], laidTests := true, laidLooks := .later }
def PlaneLeibnizCardSaid : Prop := Claim7.holds Tryz.pinned (.plain (OpenSpec.ofChange planeLeibnizSpec)) planeLeibnizCard

/-- THE SECOND FORM's CARD OF 'compasslaw.PlaneMean'. -/
def planeMeanUptoCard : Claim7 := { stood := { row := planeMeanUptoRow, standIns := [], harness := (true, "d74b8daada8306b1df8ed212f2253aadba5c557cc562085393ada591d4007874"), looks := false }, kinds := [], alts := [], laidByText := true, laidKinds := [.data, .data, .data, .data, .pinned], laidTests := true, laidLooks := .later }
def PlaneMeanUptoCardSaid : Prop := Claim7.holds Tryz.pinned (.plain (OpenSpec.upto planeMeanSpec)) planeMeanUptoCard

/-- THE SECOND FORM's CARD OF 'compasslaw.PlaneLeibniz'. -/
def planeLeibnizUptoCard : Claim7 := { stood := { row := planeLeibnizUptoRow, standIns := [], harness := (true, "d74b8daada8306b1df8ed212f2253aadba5c557cc562085393ada591d4007874"), looks := false }, kinds := [], alts := [], laidByText := true, laidKinds := [.data, .data, .data, .data, .pinned], laidTests := true, laidLooks := .later }
def PlaneLeibnizUptoCardSaid : Prop := Claim7.holds Tryz.pinned (.plain (OpenSpec.upto planeLeibnizSpec)) planeLeibnizUptoCard
end Rows
end Go.Proofs.YtdiibbgbbajpeaaGreatDoor
