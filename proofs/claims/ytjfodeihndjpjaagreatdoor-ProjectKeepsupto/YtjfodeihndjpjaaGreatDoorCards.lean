/-
  DERIVED. GIVEN WITH THE SEED: THE CARDS: each row of YtjfodeihndjpjaaGreatDoorRows.lean that lists a variable, with what it lists TIED to the program's text (the seventh form; the later family's looks); each row that meets fmt, with fmt's text TOLD by the authors' own Lean function (tested against real Go, not proved from fmt's source: count such statements apart). THE CARD IS WHAT COUNTS. Prove the row's statement (the work); the ties are given (YtjfodeihndjpjaaGreatDoorTie.lean); close each card by the builder's one call (the guide's Derived/Test/ToyasCard.lean, 'card_holds'). Laid BY PROGRAM, IN A SANDBOX (cutbox-door.mjs). By AI agents, Wed Nov 11 2026. No macro, syntax, notation, axiom, sorry.
-/
import Derived.Test.YtjfodeihndjpjaaGreatDoorRows
import GoSem.ClaimSeven
namespace Go.Proofs.YtjfodeihndjpjaaGreatDoor
namespace Rows

/-- THE TIED CARD OF 'compasslaw.TurnRound'. -/
def turnRoundCard : Claim7 := { stood := { row := turnRoundRow, standIns := [], harness := (true, "5d72df0e5f852be8b31893fb18689c1f217ffbf28c7f5abe0589160d23ccc203"), looks := false }, kinds := [], alts := [], laidByText := true, laidKinds := [.data, .data, .data, .data, .pinned], laidTests := true, laidLooks := .later }
def TurnRoundCardSaid : Prop := Claim7.holds Tryz.pinned (.plain (OpenSpec.ofChange turnRoundSpec)) turnRoundCard

/-- THE TIED CARD OF 'compasslaw.ConicFour'. -/
def conicFourCard : Claim7 := { stood := { row := conicFourRow, standIns := [], harness := (true, "5d72df0e5f852be8b31893fb18689c1f217ffbf28c7f5abe0589160d23ccc203"), looks := false }, kinds := [], alts := [], laidByText := true, laidKinds := [.data, .data, .data, .data, .pinned], laidTests := true, laidLooks := .later }
def ConicFourCardSaid : Prop := Claim7.holds Tryz.pinned (.plain (OpenSpec.ofChange conicFourSpec)) conicFourCard

/-- THE TIED CARD OF 'compasslaw.ConicSteiner'. -/
def conicSteinerCard : Claim7 := { stood := { row := conicSteinerRow, standIns := [], harness := (true, "5d72df0e5f852be8b31893fb18689c1f217ffbf28c7f5abe0589160d23ccc203"), looks := false }, kinds := [], alts := [], laidByText := true, laidKinds := [.data, .data, .data, .data, .pinned], laidTests := true, laidLooks := .later }
def ConicSteinerCardSaid : Prop := Claim7.holds Tryz.pinned (.plain (OpenSpec.ofChange conicSteinerSpec)) conicSteinerCard

/-- THE TIED CARD OF 'compasslaw.ProjectKeeps'. -/
def projectKeepsCard : Claim7 := { stood := { row := projectKeepsRow, standIns := [], harness := (true, "5d72df0e5f852be8b31893fb18689c1f217ffbf28c7f5abe0589160d23ccc203"), looks := false }, kinds := [], alts := [], laidByText := true, laidKinds := [.data, .data, .data, .data, .pinned], laidTests := true, laidLooks := .later }
def ProjectKeepsCardSaid : Prop := Claim7.holds Tryz.pinned (.plain (OpenSpec.ofChange projectKeepsSpec)) projectKeepsCard

/-- THE SECOND FORM's CARD OF 'compasslaw.TurnRound'. -/
def turnRoundUptoCard : Claim7 := { stood := { row := turnRoundUptoRow, standIns := [], harness := (true, "5d72df0e5f852be8b31893fb18689c1f217ffbf28c7f5abe0589160d23ccc203"), looks := false }, kinds := [], alts := [], laidByText := true, laidKinds := [.data, .data, .data, .data, .pinned], laidTests := true, laidLooks := .later }
def TurnRoundUptoCardSaid : Prop := Claim7.holds Tryz.pinned (.plain (OpenSpec.upto turnRoundSpec)) turnRoundUptoCard

/-- THE SECOND FORM's CARD OF 'compasslaw.ConicFour'. -/
def conicFourUptoCard : Claim7 := { stood := { row := conicFourUptoRow, standIns := [], harness := (true, "5d72df0e5f852be8b31893fb18689c1f217ffbf28c7f5abe0589160d23ccc203"), looks := false }, kinds := [], alts := [], laidByText := true, laidKinds := [.data, .data, .data, .data, .pinned], laidTests := true, laidLooks := .later }
def ConicFourUptoCardSaid : Prop := Claim7.holds Tryz.pinned (.plain (OpenSpec.upto conicFourSpec)) conicFourUptoCard

/-- THE SECOND FORM's CARD OF 'compasslaw.ConicSteiner'. -/
def conicSteinerUptoCard : Claim7 := { stood := { row := conicSteinerUptoRow, standIns := [], harness := (true, "5d72df0e5f852be8b31893fb18689c1f217ffbf28c7f5abe0589160d23ccc203"), looks := false }, kinds := [], alts := [], laidByText := true, laidKinds := [.data, .data, .data, .data, .pinned], laidTests := true, laidLooks := .later }
def ConicSteinerUptoCardSaid : Prop := Claim7.holds Tryz.pinned (.plain (OpenSpec.upto conicSteinerSpec)) conicSteinerUptoCard

/-- THE SECOND FORM's CARD OF 'compasslaw.ProjectKeeps'. -/
def projectKeepsUptoCard : Claim7 := { stood := { row := projectKeepsUptoRow, standIns := [], harness := (true, "5d72df0e5f852be8b31893fb18689c1f217ffbf28c7f5abe0589160d23ccc203"), looks := false }, kinds := [], alts := [], laidByText := true, laidKinds := [.data, .data, .data, .data, .pinned], laidTests := true, laidLooks := .later }
def ProjectKeepsUptoCardSaid : Prop := Claim7.holds Tryz.pinned (.plain (OpenSpec.upto projectKeepsSpec)) projectKeepsUptoCard
end Rows
end Go.Proofs.YtjfodeihndjpjaaGreatDoor
