/-
  DERIVED. GIVEN WITH THE SEED: THE CARDS: each row of YtcjmbkcodigpdaaGreatDoorRows.lean that lists a variable, with what it lists TIED to the program's text (the seventh form; the later family's looks); each row that meets fmt, with fmt's text TOLD by the authors' own Lean function (tested against real Go, not proved from fmt's source: count such statements apart). THE CARD IS WHAT COUNTS. Prove the row's statement (the work); the ties are given (YtcjmbkcodigpdaaGreatDoorTie.lean); close each card by the builder's one call (the guide's Derived/Test/ToyasCard.lean, 'card_holds'). Laid BY PROGRAM, IN A SANDBOX (cutbox-door.mjs). By AI agents, Wed Nov 11 2026. No macro, syntax, notation, axiom, sorry.
-/
import Derived.Test.YtcjmbkcodigpdaaGreatDoorRows
import GoSem.ClaimSeven
namespace Go.Proofs.YtcjmbkcodigpdaaGreatDoor
namespace Rows

/-- THE TIED CARD OF 'compasslaw.ConicThrough'. -/
def conicThroughCard : Claim7 := { stood := { row := conicThroughRow, standIns := [], harness := (true, "1ed14fac444234a339042f5861f908e3f931193abec79d506ec670d7570cebcb"), looks := false }, kinds := [], alts := [], laidByText := true, laidKinds := [.data, .data, .data, .data, .pinned], laidTests := true, laidLooks := .later }
def ConicThroughCardSaid : Prop := Claim7.holds Tryz.pinned (.plain (OpenSpec.ofChange conicThroughSpec)) conicThroughCard

/-- THE TIED CARD OF 'compasslaw.TurnCarry'. -/
def turnCarryCard : Claim7 := { stood := { row := turnCarryRow, standIns := [], harness := (true, "1ed14fac444234a339042f5861f908e3f931193abec79d506ec670d7570cebcb"), looks := false }, kinds := [], alts := [], laidByText := true, laidKinds := [.data, .data, .data, .data, .pinned], laidTests := true, laidLooks := .later }
def TurnCarryCardSaid : Prop := Claim7.holds Tryz.pinned (.plain (OpenSpec.ofChange turnCarrySpec)) turnCarryCard

/-- THE TIED CARD OF 'compasslaw.TurnPtolemy'. -/
def turnPtolemyCard : Claim7 := { stood := { row := turnPtolemyRow, standIns := [], harness := (true, "1ed14fac444234a339042f5861f908e3f931193abec79d506ec670d7570cebcb"), looks := false }, kinds := [], alts := [], laidByText := true, laidKinds := [.data, .data, .data, .data, .pinned], laidTests := true, laidLooks := .later }
def TurnPtolemyCardSaid : Prop := Claim7.holds Tryz.pinned (.plain (OpenSpec.ofChange turnPtolemySpec)) turnPtolemyCard

/-- THE TIED CARD OF 'compasslaw.TurnPoint'. -/
def turnPointCard : Claim7 := { stood := { row := turnPointRow, standIns := [], harness := (true, "1ed14fac444234a339042f5861f908e3f931193abec79d506ec670d7570cebcb"), looks := false }, kinds := [], alts := [], laidByText := true, laidKinds := [.data, .data, .data, .data, .pinned], laidTests := true, laidLooks := .later }
def TurnPointCardSaid : Prop := Claim7.holds Tryz.pinned (.plain (OpenSpec.ofChange turnPointSpec)) turnPointCard

/-- THE SECOND FORM's CARD OF 'compasslaw.ConicThrough'. -/
def conicThroughUptoCard : Claim7 := { stood := { row := conicThroughUptoRow, standIns := [], harness := (true, "1ed14fac444234a339042f5861f908e3f931193abec79d506ec670d7570cebcb"), looks := false }, kinds := [], alts := [], laidByText := true, laidKinds := [.data, .data, .data, .data, .pinned], laidTests := true, laidLooks := .later }
def ConicThroughUptoCardSaid : Prop := Claim7.holds Tryz.pinned (.plain (OpenSpec.upto conicThroughSpec)) conicThroughUptoCard

/-- THE SECOND FORM's CARD OF 'compasslaw.TurnCarry'. -/
def turnCarryUptoCard : Claim7 := { stood := { row := turnCarryUptoRow, standIns := [], harness := (true, "1ed14fac444234a339042f5861f908e3f931193abec79d506ec670d7570cebcb"), looks := false }, kinds := [], alts := [], laidByText := true, laidKinds := [.data, .data, .data, .data, .pinned], laidTests := true, laidLooks := .later }
def TurnCarryUptoCardSaid : Prop := Claim7.holds Tryz.pinned (.plain (OpenSpec.upto turnCarrySpec)) turnCarryUptoCard

/-- THE SECOND FORM's CARD OF 'compasslaw.TurnPtolemy'. -/
def turnPtolemyUptoCard : Claim7 := { stood := { row := turnPtolemyUptoRow, standIns := [], harness := (true, "1ed14fac444234a339042f5861f908e3f931193abec79d506ec670d7570cebcb"), looks := false }, kinds := [], alts := [], laidByText := true, laidKinds := [.data, .data, .data, .data, .pinned], laidTests := true, laidLooks := .later }
def TurnPtolemyUptoCardSaid : Prop := Claim7.holds Tryz.pinned (.plain (OpenSpec.upto turnPtolemySpec)) turnPtolemyUptoCard

/-- THE SECOND FORM's CARD OF 'compasslaw.TurnPoint'. -/
def turnPointUptoCard : Claim7 := { stood := { row := turnPointUptoRow, standIns := [], harness := (true, "1ed14fac444234a339042f5861f908e3f931193abec79d506ec670d7570cebcb"), looks := false }, kinds := [], alts := [], laidByText := true, laidKinds := [.data, .data, .data, .data, .pinned], laidTests := true, laidLooks := .later }
def TurnPointUptoCardSaid : Prop := Claim7.holds Tryz.pinned (.plain (OpenSpec.upto turnPointSpec)) turnPointUptoCard
end Rows
end Go.Proofs.YtcjmbkcodigpdaaGreatDoor
