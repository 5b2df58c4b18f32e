/-
  DERIVED. GIVEN WITH THE SEED: THE CARDS: each row of YtdchineebfdkcaaGreatDoorRows.lean that lists a variable, with what it lists TIED to the program's text (the seventh form; the later family's looks); each row that meets fmt, with fmt's text TOLD by the authors' own Lean function (tested against real Go, not proved from fmt's source: count such statements apart). THE CARD IS WHAT COUNTS. Prove the row's statement (the work); the ties are given (YtdchineebfdkcaaGreatDoorTie.lean); close each card by the builder's one call (the guide's Derived/Test/ToyasCard.lean, 'card_holds'). Laid BY PROGRAM, IN A SANDBOX (cutbox-door.mjs). By AI agents, Wed Nov 11 2026. No macro, syntax, notation, axiom, sorry.
-/
import Derived.Test.YtdchineebfdkcaaGreatDoorRows
import GoSem.ClaimSeven
namespace Go.Proofs.YtdchineebfdkcaaGreatDoor
namespace Rows

/-- THE TIED CARD OF 'compasslaw.TriangleNine'. -/
def triangleNineCard : Claim7 := { stood := { row := triangleNineRow, standIns := [], harness := (true, "ab18107174674eaf8bbc7992bb5cff62f9f7fee79b6c3e669e55deab05aa49b4"), looks := false }, kinds := [], alts := [], laidByText := true, laidKinds := [.data, .data, .data, .data, .pinned], laidTests := true, laidLooks := .later }
def TriangleNineCardSaid : Prop := Claim7.holds Tryz.pinned (.plain (OpenSpec.ofChange triangleNineSpec)) triangleNineCard

/-- THE TIED CARD OF 'compasslaw.TriangleFour'. -/
def triangleFourCard : Claim7 := { stood := { row := triangleFourRow, standIns := [], harness := (true, "ab18107174674eaf8bbc7992bb5cff62f9f7fee79b6c3e669e55deab05aa49b4"), looks := false }, kinds := [], alts := [], laidByText := true, laidKinds := [.data, .data, .data, .data, .pinned], laidTests := true, laidLooks := .later }
def TriangleFourCardSaid : Prop := Claim7.holds Tryz.pinned (.plain (OpenSpec.ofChange triangleFourSpec)) triangleFourCard

/-- THE TIED CARD OF 'compasslaw.TriangleTwice'. -/
def triangleTwiceCard : Claim7 := { stood := { row := triangleTwiceRow, standIns := [], harness := (true, "ab18107174674eaf8bbc7992bb5cff62f9f7fee79b6c3e669e55deab05aa49b4"), looks := false }, kinds := [], alts := [], laidByText := true, laidKinds := [.data, .data, .data, .data, .pinned], laidTests := true, laidLooks := .later }
def TriangleTwiceCardSaid : Prop := Claim7.holds Tryz.pinned (.plain (OpenSpec.ofChange triangleTwiceSpec)) triangleTwiceCard

/-- THE TIED CARD OF 'compasslaw.CircleButterfly'. -/
def circleButterflyCard : Claim7 := { stood := { row := circleButterflyRow, standIns := [], harness := (true, "ab18107174674eaf8bbc7992bb5cff62f9f7fee79b6c3e669e55deab05aa49b4"), looks := false }, kinds := [], alts := [], laidByText := true, laidKinds := [.data, .data, .data, .data, .pinned], laidTests := true, laidLooks := .later }
def CircleButterflyCardSaid : Prop := Claim7.holds Tryz.pinned (.plain (OpenSpec.ofChange circleButterflySpec)) circleButterflyCard

/-- THE SECOND FORM's CARD OF 'compasslaw.TriangleNine'. -/
def triangleNineUptoCard : Claim7 := { stood := { row := triangleNineUptoRow, standIns := [], harness := (true, "ab18107174674eaf8bbc7992bb5cff62f9f7fee79b6c3e669e55deab05aa49b4"), looks := false }, kinds := [], alts := [], laidByText := true, laidKinds := [.data, .data, .data, .data, .pinned], laidTests := true, laidLooks := .later }
def TriangleNineUptoCardSaid : Prop := Claim7.holds Tryz.pinned (.plain (OpenSpec.upto triangleNineSpec)) triangleNineUptoCard

/-- THE SECOND FORM's CARD OF 'compasslaw.TriangleFour'. -/
def triangleFourUptoCard : Claim7 := { stood := { row := triangleFourUptoRow, standIns := [], harness := (true, "ab18107174674eaf8bbc7992bb5cff62f9f7fee79b6c3e669e55deab05aa49b4"), looks := false }, kinds := [], alts := [], laidByText := true, laidKinds := [.data, .data, .data, .data, .pinned], laidTests := true, laidLooks := .later }
def TriangleFourUptoCardSaid : Prop := Claim7.holds Tryz.pinned (.plain (OpenSpec.upto triangleFourSpec)) triangleFourUptoCard

/-- THE SECOND FORM's CARD OF 'compasslaw.TriangleTwice'. -/
def triangleTwiceUptoCard : Claim7 := { stood := { row := triangleTwiceUptoRow, standIns := [], harness := (true, "ab18107174674eaf8bbc7992bb5cff62f9f7fee79b6c3e669e55deab05aa49b4"), looks := false }, kinds := [], alts := [], laidByText := true, laidKinds := [.data, .data, .data, .data, .pinned], laidTests := true, laidLooks := .later }
def TriangleTwiceUptoCardSaid : Prop := Claim7.holds Tryz.pinned (.plain (OpenSpec.upto triangleTwiceSpec)) triangleTwiceUptoCard

/-- THE SECOND FORM's CARD OF 'compasslaw.CircleButterfly'. -/
def circleButterflyUptoCard : Claim7 := { stood := { row := circleButterflyUptoRow, standIns := [], harness := (true, "ab18107174674eaf8bbc7992bb5cff62f9f7fee79b6c3e669e55deab05aa49b4"), looks := false }, kinds := [], alts := [], laidByText := true, laidKinds := [.data, .data, .data, .data, .pinned], laidTests := true, laidLooks := .later }
def CircleButterflyUptoCardSaid : Prop := Claim7.holds Tryz.pinned (.plain (OpenSpec.upto circleButterflySpec)) circleButterflyUptoCard
end Rows
end Go.Proofs.YtdchineebfdkcaaGreatDoor
