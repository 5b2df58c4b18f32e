/-
  DERIVED. GIVEN WITH THE SEED: THE CARDS: each row of YtpalknbmejachabGreatDoorRows.lean that lists a variable, with what it lists TIED to the program's text (the seventh form; the later family's looks); each row that meets fmt, with fmt's text TOLD by the authors' own Lean function (tested against real Go, not proved from fmt's source: count such statements apart). THE CARD IS WHAT COUNTS. Prove the row's statement (the work); the ties are given (YtpalknbmejachabGreatDoorTie.lean); close each card by the builder's one call (the guide's Derived/Test/ToyasCard.lean, 'card_holds'). Laid BY PROGRAM, IN A SANDBOX (cutbox-door.mjs). By AI agents, Wed Nov 11 2026. No macro, syntax, notation, axiom, sorry.
-/
import Derived.Test.YtpalknbmejachabGreatDoorRows
import GoSem.ClaimSeven
namespace Go.Proofs.YtpalknbmejachabGreatDoor
namespace Rows

/-- THE TIED CARD OF 'compasslaw.LineThales'. -/
def lineThalesCard : Claim7 := { stood := { row := lineThalesRow, standIns := [], harness := (true, "470c093503022d17dc803bae6ab5fb3fb05dd768ae9260e76154739c427e54e8"), looks := false }, kinds := [], alts := [], laidByText := true, laidKinds := [.data, .data, .data, .data, .pinned], laidTests := true, laidLooks := .later }
def LineThalesCardSaid : Prop := Claim7.holds Tryz.pinned (.plain (OpenSpec.ofChange lineThalesSpec)) lineThalesCard

/-- THE TIED CARD OF 'compasslaw.LineThrough'. -/
def lineThroughCard : Claim7 := { stood := { row := lineThroughRow, standIns := [], harness := (true, "470c093503022d17dc803bae6ab5fb3fb05dd768ae9260e76154739c427e54e8"), looks := false }, kinds := [], alts := [], laidByText := true, laidKinds := [.data, .data, .data, .data, .pinned], laidTests := true, laidLooks := .later }
def LineThroughCardSaid : Prop := Claim7.holds Tryz.pinned (.plain (OpenSpec.ofChange lineThroughSpec)) lineThroughCard

/-- THE SECOND FORM's CARD OF 'compasslaw.LineThales'. -/
def lineThalesUptoCard : Claim7 := { stood := { row := lineThalesUptoRow, standIns := [], harness := (true, "470c093503022d17dc803bae6ab5fb3fb05dd768ae9260e76154739c427e54e8"), looks := false }, kinds := [], alts := [], laidByText := true, laidKinds := [.data, .data, .data, .data, .pinned], laidTests := true, laidLooks := .later }
def LineThalesUptoCardSaid : Prop := Claim7.holds Tryz.pinned (.plain (OpenSpec.upto lineThalesSpec)) lineThalesUptoCard

/-- THE SECOND FORM's CARD OF 'compasslaw.LineThrough'. -/
def lineThroughUptoCard : Claim7 := { stood := { row := lineThroughUptoRow, standIns := [], harness := (true, "470c093503022d17dc803bae6ab5fb3fb05dd768ae9260e76154739c427e54e8"), looks := false }, kinds := [], alts := [], laidByText := true, laidKinds := [.data, .data, .data, .data, .pinned], laidTests := true, laidLooks := .later }
def LineThroughUptoCardSaid : Prop := Claim7.holds Tryz.pinned (.plain (OpenSpec.upto lineThroughSpec)) lineThroughUptoCard
end Rows
end Go.Proofs.YtpalknbmejachabGreatDoor
