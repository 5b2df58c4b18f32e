/-
  DERIVED. GIVEN WITH THE SEED: THE CARDS: each row of YtnjaoobohkmjkaaGreatDoorRows.lean that lists a variable, with what it lists TIED to the program's text (the seventh form; the later family's looks); each row that meets fmt, with fmt's text TOLD by the authors' own Lean function (tested against real Go, not proved from fmt's source: count such statements apart). THE CARD IS WHAT COUNTS. Prove the row's statement (the work); the ties are given (YtnjaoobohkmjkaaGreatDoorTie.lean); close each card by the builder's one call (the guide's Derived/Test/ToyasCard.lean, 'card_holds'). Laid BY PROGRAM, IN A SANDBOX (cutbox-door.mjs). By AI agents, Wed Nov 11 2026. No macro, syntax, notation, axiom, sorry.
-/
import Derived.Test.YtnjaoobohkmjkaaGreatDoorRows
import GoSem.ClaimSeven
namespace Go.Proofs.YtnjaoobohkmjkaaGreatDoor
namespace Rows

/-- THE TIED CARD OF 'compasslaw.SpaceFar'. -/
def spaceFarCard : Claim7 := { stood := { row := spaceFarRow, standIns := [], harness := (true, "6c5f238e3e0fd1044bf47db017479247cffd480f95b0ced17d33580ebeae4d8a"), looks := false }, kinds := [], alts := [], laidByText := true, laidKinds := [.data, .data, .data, .data, .pinned], laidTests := true, laidLooks := .later }
def SpaceFarCardSaid : Prop := Claim7.holds Tryz.pinned (.plain (OpenSpec.ofChange spaceFarSpec)) spaceFarCard

/-- THE TIED CARD OF 'compasslaw.SpaceThrough'. -/
def spaceThroughCard : Claim7 := { stood := { row := spaceThroughRow, standIns := [], harness := (true, "6c5f238e3e0fd1044bf47db017479247cffd480f95b0ced17d33580ebeae4d8a"), looks := false }, kinds := [], alts := [], laidByText := true, laidKinds := [.data, .data, .data, .data, .pinned], laidTests := true, laidLooks := .later }
def SpaceThroughCardSaid : Prop := Claim7.holds Tryz.pinned (.plain (OpenSpec.ofChange spaceThroughSpec)) spaceThroughCard

/-- THE TIED CARD OF 'compasslaw.SpaceSide'. -/
def spaceSideCard : Claim7 := { stood := { row := spaceSideRow, standIns := [], harness := (true, "6c5f238e3e0fd1044bf47db017479247cffd480f95b0ced17d33580ebeae4d8a"), looks := false }, kinds := [], alts := [], laidByText := true, laidKinds := [.data, .data, .data, .data, .pinned], laidTests := true, laidLooks := .later }
def SpaceSideCardSaid : Prop := Claim7.holds Tryz.pinned (.plain (OpenSpec.ofChange spaceSideSpec)) spaceSideCard

/-- THE TIED CARD OF 'compasslaw.SpaceFoot'. -/
def spaceFootCard : Claim7 := { stood := { row := spaceFootRow, standIns := [], harness := (true, "6c5f238e3e0fd1044bf47db017479247cffd480f95b0ced17d33580ebeae4d8a"), looks := false }, kinds := [], alts := [], laidByText := true, laidKinds := [.data, .data, .data, .data, .pinned], laidTests := true, laidLooks := .later }
def SpaceFootCardSaid : Prop := Claim7.holds Tryz.pinned (.plain (OpenSpec.ofChange spaceFootSpec)) spaceFootCard

/-- THE TIED CARD OF 'compasslaw.SpacePierce'. -/
def spacePierceCard : Claim7 := { stood := { row := spacePierceRow, standIns := [], harness := (true, "6c5f238e3e0fd1044bf47db017479247cffd480f95b0ced17d33580ebeae4d8a"), looks := false }, kinds := [], alts := [], laidByText := true, laidKinds := [.data, .data, .data, .data, .pinned], laidTests := true, laidLooks := .later }
def SpacePierceCardSaid : Prop := Claim7.holds Tryz.pinned (.plain (OpenSpec.ofChange spacePierceSpec)) spacePierceCard

/-- THE SECOND FORM's CARD OF 'compasslaw.SpaceFar'. -/
def spaceFarUptoCard : Claim7 := { stood := { row := spaceFarUptoRow, standIns := [], harness := (true, "6c5f238e3e0fd1044bf47db017479247cffd480f95b0ced17d33580ebeae4d8a"), looks := false }, kinds := [], alts := [], laidByText := true, laidKinds := [.data, .data, .data, .data, .pinned], laidTests := true, laidLooks := .later }
def SpaceFarUptoCardSaid : Prop := Claim7.holds Tryz.pinned (.plain (OpenSpec.upto spaceFarSpec)) spaceFarUptoCard

/-- THE SECOND FORM's CARD OF 'compasslaw.SpaceThrough'. -/
def spaceThroughUptoCard : Claim7 := { stood := { row := spaceThroughUptoRow, standIns := [], harness := (true, "6c5f238e3e0fd1044bf47db017479247cffd480f95b0ced17d33580ebeae4d8a"), looks := false }, kinds := [], alts := [], laidByText := true, laidKinds := [.data, .data, .data, .data, .pinned], laidTests := true, laidLooks := .later }
def SpaceThroughUptoCardSaid : Prop := Claim7.holds Tryz.pinned (.plain (OpenSpec.upto spaceThroughSpec)) spaceThroughUptoCard

/-- THE SECOND FORM's CARD OF 'compasslaw.SpaceSide'. -/
def spaceSideUptoCard : Claim7 := { stood := { row := spaceSideUptoRow, standIns := [], harness := (true, "6c5f238e3e0fd1044bf47db017479247cffd480f95b0ced17d33580ebeae4d8a"), looks := false }, kinds := [], alts := [], laidByText := true, laidKinds := [.data, .data, .data, .data, .pinned], laidTests := true, laidLooks := .later }
def SpaceSideUptoCardSaid : Prop := Claim7.holds Tryz.pinned (.plain (OpenSpec.upto spaceSideSpec)) spaceSideUptoCard

/-- THE SECOND FORM's CARD OF 'compasslaw.SpaceFoot'. -/
def spaceFootUptoCard : Claim7 := { stood := { row := spaceFootUptoRow, standIns := [], harness := (true, "6c5f238e3e0fd1044bf47db017479247cffd480f95b0ced17d33580ebeae4d8a"), looks := false }, kinds := [], alts := [], laidByText := true, laidKinds := [.data, .data, .data, .data, .pinned], laidTests := true, laidLooks := .later }
def SpaceFootUptoCardSaid : Prop := Claim7.holds Tryz.pinned (.plain (OpenSpec.upto spaceFootSpec)) spaceFootUptoCard

/-- THE SECOND FORM's CARD OF 'compasslaw.SpacePierce'. -/
def spacePierceUptoCard : Claim7 := { stood := { row := spacePierceUptoRow, standIns := [], harness := (true, "6c5f238e3e0fd1044bf47db017479247cffd480f95b0ced17d33580ebeae4d8a"), looks := false }, kinds := [], alts := [], laidByText := true, laidKinds := [.data, .data, .data, .data, .pinned], laidTests := true, laidLooks := .later }
def SpacePierceUptoCardSaid : Prop := Claim7.holds Tryz.pinned (.plain (OpenSpec.upto spacePierceSpec)) spacePierceUptoCard
end Rows
end Go.Proofs.YtnjaoobohkmjkaaGreatDoor
