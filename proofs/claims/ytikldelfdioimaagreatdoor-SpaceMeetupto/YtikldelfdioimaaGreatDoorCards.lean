/-
  DERIVED. GIVEN WITH THE SEED: THE CARDS: each row of YtikldelfdioimaaGreatDoorRows.lean that lists a variable, with what it lists TIED to the program's text (the seventh form; the later family's looks); each row that meets fmt, with fmt's text TOLD by the authors' own Lean function (tested against real Go, not proved from fmt's source: count such statements apart). THE CARD IS WHAT COUNTS. Prove the row's statement (the work); the ties are given (YtikldelfdioimaaGreatDoorTie.lean); close each card by the builder's one call (the guide's Derived/Test/ToyasCard.lean, 'card_holds'). Laid BY PROGRAM, IN A SANDBOX (cutbox-door.mjs). By AI agents, Wed Nov 11 2026. No macro, syntax, notation, axiom, sorry.
-/
import Derived.Test.YtikldelfdioimaaGreatDoorRows
import GoSem.ClaimSeven
namespace Go.Proofs.YtikldelfdioimaaGreatDoor
namespace Rows

/-- THE TIED CARD OF 'compasslaw.SpaceMeet'. -/
def spaceMeetCard : Claim7 := { stood := { row := spaceMeetRow, standIns := [], harness := (true, "454eb79efb2ea9817243ff39e5e114518c4f6b9840b7354bc2c1fc194897b9ea"), looks := false }, kinds := [], alts := [], laidByText := true, laidKinds := [.data, .data, .data, .data, .pinned], laidTests := true, laidLooks := .later }
def SpaceMeetCardSaid : Prop := Claim7.holds Tryz.pinned (.plain (OpenSpec.ofChange spaceMeetSpec)) spaceMeetCard

/-- THE TIED CARD OF 'compasslaw.SpaceAround'. -/
def spaceAroundCard : Claim7 := { stood := { row := spaceAroundRow, standIns := [], harness := (true, "454eb79efb2ea9817243ff39e5e114518c4f6b9840b7354bc2c1fc194897b9ea"), looks := false }, kinds := [], alts := [], laidByText := true, laidKinds := [.data, .data, .data, .data, .pinned], laidTests := true, laidLooks := .later }
def SpaceAroundCardSaid : Prop := Claim7.holds Tryz.pinned (.plain (OpenSpec.ofChange spaceAroundSpec)) spaceAroundCard

/-- THE TIED CARD OF 'compasslaw.SpaceApart'. -/
def spaceApartCard : Claim7 := { stood := { row := spaceApartRow, standIns := [], harness := (true, "454eb79efb2ea9817243ff39e5e114518c4f6b9840b7354bc2c1fc194897b9ea"), looks := false }, kinds := [], alts := [], laidByText := true, laidKinds := [.data, .data, .data, .data, .pinned], laidTests := true, laidLooks := .later }
def SpaceApartCardSaid : Prop := Claim7.holds Tryz.pinned (.plain (OpenSpec.ofChange spaceApartSpec)) spaceApartCard

/-- THE TIED CARD OF 'compasslaw.SpaceMonge'. -/
def spaceMongeCard : Claim7 := { stood := { row := spaceMongeRow, standIns := [], harness := (true, "454eb79efb2ea9817243ff39e5e114518c4f6b9840b7354bc2c1fc194897b9ea"), looks := false }, kinds := [], alts := [], laidByText := true, laidKinds := [.data, .data, .data, .data, .pinned], laidTests := true, laidLooks := .later }
def SpaceMongeCardSaid : Prop := Claim7.holds Tryz.pinned (.plain (OpenSpec.ofChange spaceMongeSpec)) spaceMongeCard

/-- THE TIED CARD OF 'compasslaw.SpaceDesargues'. -/
def spaceDesarguesCard : Claim7 := { stood := { row := spaceDesarguesRow, standIns := [], harness := (true, "454eb79efb2ea9817243ff39e5e114518c4f6b9840b7354bc2c1fc194897b9ea"), looks := false }, kinds := [], alts := [], laidByText := true, laidKinds := [.data, .data, .data, .data, .pinned], laidTests := true, laidLooks := .later }
def SpaceDesarguesCardSaid : Prop := Claim7.holds Tryz.pinned (.plain (OpenSpec.ofChange spaceDesarguesSpec)) spaceDesarguesCard

/-- THE SECOND FORM's CARD OF 'compasslaw.SpaceMeet'. -/
def spaceMeetUptoCard : Claim7 := { stood := { row := spaceMeetUptoRow, standIns := [], harness := (true, "454eb79efb2ea9817243ff39e5e114518c4f6b9840b7354bc2c1fc194897b9ea"), looks := false }, kinds := [], alts := [], laidByText := true, laidKinds := [.data, .data, .data, .data, .pinned], laidTests := true, laidLooks := .later }
def SpaceMeetUptoCardSaid : Prop := Claim7.holds Tryz.pinned (.plain (OpenSpec.upto spaceMeetSpec)) spaceMeetUptoCard

/-- THE SECOND FORM's CARD OF 'compasslaw.SpaceAround'. -/
def spaceAroundUptoCard : Claim7 := { stood := { row := spaceAroundUptoRow, standIns := [], harness := (true, "454eb79efb2ea9817243ff39e5e114518c4f6b9840b7354bc2c1fc194897b9ea"), looks := false }, kinds := [], alts := [], laidByText := true, laidKinds := [.data, .data, .data, .data, .pinned], laidTests := true, laidLooks := .later }
def SpaceAroundUptoCardSaid : Prop := Claim7.holds Tryz.pinned (.plain (OpenSpec.upto spaceAroundSpec)) spaceAroundUptoCard

/-- THE SECOND FORM's CARD OF 'compasslaw.SpaceApart'. -/
def spaceApartUptoCard : Claim7 := { stood := { row := spaceApartUptoRow, standIns := [], harness := (true, "454eb79efb2ea9817243ff39e5e114518c4f6b9840b7354bc2c1fc194897b9ea"), looks := false }, kinds := [], alts := [], laidByText := true, laidKinds := [.data, .data, .data, .data, .pinned], laidTests := true, laidLooks := .later }
def SpaceApartUptoCardSaid : Prop := Claim7.holds Tryz.pinned (.plain (OpenSpec.upto spaceApartSpec)) spaceApartUptoCard

/-- THE SECOND FORM's CARD OF 'compasslaw.SpaceMonge'. -/
def spaceMongeUptoCard : Claim7 := { stood := { row := spaceMongeUptoRow, standIns := [], harness := (true, "454eb79efb2ea9817243ff39e5e114518c4f6b9840b7354bc2c1fc194897b9ea"), looks := false }, kinds := [], alts := [], laidByText := true, laidKinds := [.data, .data, .data, .data, .pinned], laidTests := true, laidLooks := .later }
def SpaceMongeUptoCardSaid : Prop := Claim7.holds Tryz.pinned (.plain (OpenSpec.upto spaceMongeSpec)) spaceMongeUptoCard

/-- THE SECOND FORM's CARD OF 'compasslaw.SpaceDesargues'. -/
def spaceDesarguesUptoCard : Claim7 := { stood := { row := spaceDesarguesUptoRow, standIns := [], harness := (true, "454eb79efb2ea9817243ff39e5e114518c4f6b9840b7354bc2c1fc194897b9ea"), looks := false }, kinds := [], alts := [], laidByText := true, laidKinds := [.data, .data, .data, .data, .pinned], laidTests := true, laidLooks := .later }
def SpaceDesarguesUptoCardSaid : Prop := Claim7.holds Tryz.pinned (.plain (OpenSpec.upto spaceDesarguesSpec)) spaceDesarguesUptoCard
end Rows
end Go.Proofs.YtikldelfdioimaaGreatDoor
