/-
  DERIVED. GIVEN WITH THE SEED: THE CARDS: each row of YtobmjfjkpodhmaaGreatDoorRows.lean that lists a variable, with what it lists TIED to the program's text (the seventh form; the later family's looks); each row that meets fmt, with fmt's text TOLD by the authors' own Lean function (tested against real Go, not proved from fmt's source: count such statements apart). THE CARD IS WHAT COUNTS. Prove the row's statement (the work); the ties are given (YtobmjfjkpodhmaaGreatDoorTie.lean); close each card by the builder's one call (the guide's Derived/Test/ToyasCard.lean, 'card_holds'). Laid BY PROGRAM, IN A SANDBOX (cutbox-door.mjs). By AI agents, Wed Nov 11 2026. No macro, syntax, notation, axiom, sorry.
-/
import Derived.Test.YtobmjfjkpodhmaaGreatDoorRows
import GoSem.ClaimSeven
namespace Go.Proofs.YtobmjfjkpodhmaaGreatDoor
namespace Rows

/-- THE TIED CARD OF 'compasslaw.TurnAfter'. -/
def turnAfterCard : Claim7 := { stood := { row := turnAfterRow, standIns := [], harness := (true, "bfb4d82ecc22f9c08784fe012df8c94c13091fdf61b6f9fe2cc490db27938f95"), looks := false }, kinds := [], alts := [], laidByText := true, laidKinds := [.data, .data, .data, .data, .pinned], laidTests := true, laidLooks := .later }
def TurnAfterCardSaid : Prop := Claim7.holds Tryz.pinned (.plain (OpenSpec.ofChange turnAfterSpec)) turnAfterCard

/-- THE TIED CARD OF 'compasslaw.TurnThree'. -/
def turnThreeCard : Claim7 := { stood := { row := turnThreeRow, standIns := [], harness := (true, "bfb4d82ecc22f9c08784fe012df8c94c13091fdf61b6f9fe2cc490db27938f95"), looks := false }, kinds := [], alts := [], laidByText := true, laidKinds := [.data, .data, .data, .data, .pinned], laidTests := true, laidLooks := .later }
def TurnThreeCardSaid : Prop := Claim7.holds Tryz.pinned (.plain (OpenSpec.ofChange turnThreeSpec)) turnThreeCard

/-- THE TIED CARD OF 'compasslaw.TurnGroup'. -/
def turnGroupCard : Claim7 := { stood := { row := turnGroupRow, standIns := [], harness := (true, "bfb4d82ecc22f9c08784fe012df8c94c13091fdf61b6f9fe2cc490db27938f95"), looks := false }, kinds := [], alts := [], laidByText := true, laidKinds := [.data, .data, .data, .data, .pinned], laidTests := true, laidLooks := .later }
def TurnGroupCardSaid : Prop := Claim7.holds Tryz.pinned (.plain (OpenSpec.ofChange turnGroupSpec)) turnGroupCard

/-- THE TIED CARD OF 'compasslaw.MoveMirrors'. -/
def moveMirrorsCard : Claim7 := { stood := { row := moveMirrorsRow, standIns := [], harness := (true, "bfb4d82ecc22f9c08784fe012df8c94c13091fdf61b6f9fe2cc490db27938f95"), looks := false }, kinds := [], alts := [], laidByText := true, laidKinds := [.data, .data, .data, .data, .pinned], laidTests := true, laidLooks := .later }
def MoveMirrorsCardSaid : Prop := Claim7.holds Tryz.pinned (.plain (OpenSpec.ofChange moveMirrorsSpec)) moveMirrorsCard

/-- THE SECOND FORM's CARD OF 'compasslaw.TurnAfter'. -/
def turnAfterUptoCard : Claim7 := { stood := { row := turnAfterUptoRow, standIns := [], harness := (true, "bfb4d82ecc22f9c08784fe012df8c94c13091fdf61b6f9fe2cc490db27938f95"), looks := false }, kinds := [], alts := [], laidByText := true, laidKinds := [.data, .data, .data, .data, .pinned], laidTests := true, laidLooks := .later }
def TurnAfterUptoCardSaid : Prop := Claim7.holds Tryz.pinned (.plain (OpenSpec.upto turnAfterSpec)) turnAfterUptoCard

/-- THE SECOND FORM's CARD OF 'compasslaw.TurnThree'. -/
def turnThreeUptoCard : Claim7 := { stood := { row := turnThreeUptoRow, standIns := [], harness := (true, "bfb4d82ecc22f9c08784fe012df8c94c13091fdf61b6f9fe2cc490db27938f95"), looks := false }, kinds := [], alts := [], laidByText := true, laidKinds := [.data, .data, .data, .data, .pinned], laidTests := true, laidLooks := .later }
def TurnThreeUptoCardSaid : Prop := Claim7.holds Tryz.pinned (.plain (OpenSpec.upto turnThreeSpec)) turnThreeUptoCard

/-- THE SECOND FORM's CARD OF 'compasslaw.TurnGroup'. -/
def turnGroupUptoCard : Claim7 := { stood := { row := turnGroupUptoRow, standIns := [], harness := (true, "bfb4d82ecc22f9c08784fe012df8c94c13091fdf61b6f9fe2cc490db27938f95"), looks := false }, kinds := [], alts := [], laidByText := true, laidKinds := [.data, .data, .data, .data, .pinned], laidTests := true, laidLooks := .later }
def TurnGroupUptoCardSaid : Prop := Claim7.holds Tryz.pinned (.plain (OpenSpec.upto turnGroupSpec)) turnGroupUptoCard

/-- THE SECOND FORM's CARD OF 'compasslaw.MoveMirrors'. -/
def moveMirrorsUptoCard : Claim7 := { stood := { row := moveMirrorsUptoRow, standIns := [], harness := (true, "bfb4d82ecc22f9c08784fe012df8c94c13091fdf61b6f9fe2cc490db27938f95"), looks := false }, kinds := [], alts := [], laidByText := true, laidKinds := [.data, .data, .data, .data, .pinned], laidTests := true, laidLooks := .later }
def MoveMirrorsUptoCardSaid : Prop := Claim7.holds Tryz.pinned (.plain (OpenSpec.upto moveMirrorsSpec)) moveMirrorsUptoCard
end Rows
end Go.Proofs.YtobmjfjkpodhmaaGreatDoor
