/-
  DERIVED. GIVEN WITH THE SEED: THE CARDS: each row of YthagmklephpnhaaGreatDoorRows.lean that lists a variable, with what it lists TIED to the program's text (the seventh form; the later family's looks); each row that meets fmt, with fmt's text TOLD by the authors' own Lean function (tested against real Go, not proved from fmt's source: count such statements apart). THE CARD IS WHAT COUNTS. Prove the row's statement (the work); the ties are given (YthagmklephpnhaaGreatDoorTie.lean); close each card by the builder's one call (the guide's Derived/Test/ToyasCard.lean, 'card_holds'). Laid BY PROGRAM, IN A SANDBOX (cutbox-door.mjs). By AI agents, Wed Nov 11 2026. No macro, syntax, notation, axiom, sorry.
-/
import Derived.Test.YthagmklephpnhaaGreatDoorRows
import GoSem.ClaimSeven
namespace Go.Proofs.YthagmklephpnhaaGreatDoor
namespace Rows

/-- THE TIED CARD OF 'compasslaw.SpinTimes'. -/
def spinTimesCard : Claim7 := { stood := { row := spinTimesRow, standIns := [], harness := (true, "161ea14bc1b2ab8762113075307022e0a87148f37e3cca2cd8be3095fca5d88f"), looks := false }, kinds := [], alts := [], laidByText := true, laidKinds := [.data, .data, .data, .data, .pinned], laidTests := true, laidLooks := .later }
def SpinTimesCardSaid : Prop := Claim7.holds Tryz.pinned (.plain (OpenSpec.ofChange spinTimesSpec)) spinTimesCard

/-- THE TIED CARD OF 'compasslaw.SpinHamilton'. -/
def spinHamiltonCard : Claim7 := { stood := { row := spinHamiltonRow, standIns := [], harness := (true, "161ea14bc1b2ab8762113075307022e0a87148f37e3cca2cd8be3095fca5d88f"), looks := false }, kinds := [], alts := [], laidByText := true, laidKinds := [.data, .data, .data, .data, .pinned], laidTests := true, laidLooks := .later }
def SpinHamiltonCardSaid : Prop := Claim7.holds Tryz.pinned (.plain (OpenSpec.ofChange spinHamiltonSpec)) spinHamiltonCard

/-- THE TIED CARD OF 'compasslaw.SpinTurn'. -/
def spinTurnCard : Claim7 := { stood := { row := spinTurnRow, standIns := [], harness := (true, "161ea14bc1b2ab8762113075307022e0a87148f37e3cca2cd8be3095fca5d88f"), looks := false }, kinds := [], alts := [], laidByText := true, laidKinds := [.data, .data, .data, .data, .pinned], laidTests := true, laidLooks := .later }
def SpinTurnCardSaid : Prop := Claim7.holds Tryz.pinned (.plain (OpenSpec.ofChange spinTurnSpec)) spinTurnCard

/-- THE TIED CARD OF 'compasslaw.SpaceGua'. -/
def spaceGuaCard : Claim7 := { stood := { row := spaceGuaRow, standIns := [], harness := (true, "161ea14bc1b2ab8762113075307022e0a87148f37e3cca2cd8be3095fca5d88f"), looks := false }, kinds := [], alts := [], laidByText := true, laidKinds := [.data, .data, .data, .data, .pinned], laidTests := true, laidLooks := .later }
def SpaceGuaCardSaid : Prop := Claim7.holds Tryz.pinned (.plain (OpenSpec.ofChange spaceGuaSpec)) spaceGuaCard

/-- THE TIED CARD OF 'compasslaw.SpaceMeet'. -/
def spaceMeetCard : Claim7 := { stood := { row := spaceMeetRow, standIns := [], harness := (true, "161ea14bc1b2ab8762113075307022e0a87148f37e3cca2cd8be3095fca5d88f"), looks := false }, kinds := [], alts := [], laidByText := true, laidKinds := [.data, .data, .data, .data, .pinned], laidTests := true, laidLooks := .later }
def SpaceMeetCardSaid : Prop := Claim7.holds Tryz.pinned (.plain (OpenSpec.ofChange spaceMeetSpec)) spaceMeetCard

/-- THE SECOND FORM's CARD OF 'compasslaw.SpinTimes'. -/
def spinTimesUptoCard : Claim7 := { stood := { row := spinTimesUptoRow, standIns := [], harness := (true, "161ea14bc1b2ab8762113075307022e0a87148f37e3cca2cd8be3095fca5d88f"), looks := false }, kinds := [], alts := [], laidByText := true, laidKinds := [.data, .data, .data, .data, .pinned], laidTests := true, laidLooks := .later }
def SpinTimesUptoCardSaid : Prop := Claim7.holds Tryz.pinned (.plain (OpenSpec.upto spinTimesSpec)) spinTimesUptoCard

/-- THE SECOND FORM's CARD OF 'compasslaw.SpinHamilton'. -/
def spinHamiltonUptoCard : Claim7 := { stood := { row := spinHamiltonUptoRow, standIns := [], harness := (true, "161ea14bc1b2ab8762113075307022e0a87148f37e3cca2cd8be3095fca5d88f"), looks := false }, kinds := [], alts := [], laidByText := true, laidKinds := [.data, .data, .data, .data, .pinned], laidTests := true, laidLooks := .later }
def SpinHamiltonUptoCardSaid : Prop := Claim7.holds Tryz.pinned (.plain (OpenSpec.upto spinHamiltonSpec)) spinHamiltonUptoCard

/-- THE SECOND FORM's CARD OF 'compasslaw.SpinTurn'. -/
def spinTurnUptoCard : Claim7 := { stood := { row := spinTurnUptoRow, standIns := [], harness := (true, "161ea14bc1b2ab8762113075307022e0a87148f37e3cca2cd8be3095fca5d88f"), looks := false }, kinds := [], alts := [], laidByText := true, laidKinds := [.data, .data, .data, .data, .pinned], laidTests := true, laidLooks := .later }
def SpinTurnUptoCardSaid : Prop := Claim7.holds Tryz.pinned (.plain (OpenSpec.upto spinTurnSpec)) spinTurnUptoCard

/-- THE SECOND FORM's CARD OF 'compasslaw.SpaceGua'. -/
def spaceGuaUptoCard : Claim7 := { stood := { row := spaceGuaUptoRow, standIns := [], harness := (true, "161ea14bc1b2ab8762113075307022e0a87148f37e3cca2cd8be3095fca5d88f"), looks := false }, kinds := [], alts := [], laidByText := true, laidKinds := [.data, .data, .data, .data, .pinned], laidTests := true, laidLooks := .later }
def SpaceGuaUptoCardSaid : Prop := Claim7.holds Tryz.pinned (.plain (OpenSpec.upto spaceGuaSpec)) spaceGuaUptoCard

/-- THE SECOND FORM's CARD OF 'compasslaw.SpaceMeet'. -/
def spaceMeetUptoCard : Claim7 := { stood := { row := spaceMeetUptoRow, standIns := [], harness := (true, "161ea14bc1b2ab8762113075307022e0a87148f37e3cca2cd8be3095fca5d88f"), looks := false }, kinds := [], alts := [], laidByText := true, laidKinds := [.data, .data, .data, .data, .pinned], laidTests := true, laidLooks := .later }
def SpaceMeetUptoCardSaid : Prop := Claim7.holds Tryz.pinned (.plain (OpenSpec.upto spaceMeetSpec)) spaceMeetUptoCard
end Rows
end Go.Proofs.YthagmklephpnhaaGreatDoor
