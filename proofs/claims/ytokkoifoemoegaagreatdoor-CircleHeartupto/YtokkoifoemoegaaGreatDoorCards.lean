/-
  DERIVED. GIVEN WITH THE SEED: THE CARDS: each row of YtokkoifoemoegaaGreatDoorRows.lean that lists a variable, with what it lists TIED to the program's text (the seventh form; the later family's looks); each row that meets fmt, with fmt's text TOLD by the authors' own Lean function (tested against real Go, not proved from fmt's source: count such statements apart). THE CARD IS WHAT COUNTS. Prove the row's statement (the work); the ties are given (YtokkoifoemoegaaGreatDoorTie.lean); close each card by the builder's one call (the guide's Derived/Test/ToyasCard.lean, 'card_holds'). Laid BY PROGRAM, IN A SANDBOX (cutbox-door.mjs). By AI agents, Wed Nov 11 2026. No macro, syntax, notation, axiom, sorry.
-/
import Derived.Test.YtokkoifoemoegaaGreatDoorRows
import GoSem.ClaimSeven
namespace Go.Proofs.YtokkoifoemoegaaGreatDoor
namespace Rows

/-- THE TIED CARD OF 'compasslaw.LinePlain'. -/
def linePlainCard : Claim7 := { stood := { row := linePlainRow, standIns := [], harness := (true, "8cea5baecc6fae4f9d5d59057f2913800a5b760f535bd7b0859d4ecbe0921d7e"), looks := false }, kinds := [], alts := [], laidByText := true, laidKinds := [.data, .data, .data, .data, .pinned], laidTests := true, laidLooks := .later }
def LinePlainCardSaid : Prop := Claim7.holds Tryz.pinned (.plain (OpenSpec.ofChange linePlainSpec)) linePlainCard

/-- THE TIED CARD OF 'compasslaw.LineMeet'. -/
def lineMeetCard : Claim7 := { stood := { row := lineMeetRow, standIns := [], harness := (true, "8cea5baecc6fae4f9d5d59057f2913800a5b760f535bd7b0859d4ecbe0921d7e"), looks := false }, kinds := [], alts := [], laidByText := true, laidKinds := [.data, .data, .data, .data, .pinned], laidTests := true, laidLooks := .later }
def LineMeetCardSaid : Prop := Claim7.holds Tryz.pinned (.plain (OpenSpec.ofChange lineMeetSpec)) lineMeetCard

/-- THE TIED CARD OF 'compasslaw.LineBeside'. -/
def lineBesideCard : Claim7 := { stood := { row := lineBesideRow, standIns := [], harness := (true, "8cea5baecc6fae4f9d5d59057f2913800a5b760f535bd7b0859d4ecbe0921d7e"), looks := false }, kinds := [], alts := [], laidByText := true, laidKinds := [.data, .data, .data, .data, .pinned], laidTests := true, laidLooks := .later }
def LineBesideCardSaid : Prop := Claim7.holds Tryz.pinned (.plain (OpenSpec.ofChange lineBesideSpec)) lineBesideCard

/-- THE TIED CARD OF 'compasslaw.AnglePlain'. -/
def anglePlainCard : Claim7 := { stood := { row := anglePlainRow, standIns := [], harness := (true, "8cea5baecc6fae4f9d5d59057f2913800a5b760f535bd7b0859d4ecbe0921d7e"), looks := false }, kinds := [], alts := [], laidByText := true, laidKinds := [.data, .data, .data, .data, .pinned], laidTests := true, laidLooks := .later }
def AnglePlainCardSaid : Prop := Claim7.holds Tryz.pinned (.plain (OpenSpec.ofChange anglePlainSpec)) anglePlainCard

/-- THE TIED CARD OF 'compasslaw.CircleAxis'. -/
def circleAxisCard : Claim7 := { stood := { row := circleAxisRow, standIns := [], harness := (true, "8cea5baecc6fae4f9d5d59057f2913800a5b760f535bd7b0859d4ecbe0921d7e"), looks := false }, kinds := [], alts := [], laidByText := true, laidKinds := [.data, .data, .data, .data, .pinned], laidTests := true, laidLooks := .later }
def CircleAxisCardSaid : Prop := Claim7.holds Tryz.pinned (.plain (OpenSpec.ofChange circleAxisSpec)) circleAxisCard

/-- THE TIED CARD OF 'compasslaw.CircleHeart'. -/
def circleHeartCard : Claim7 := { stood := { row := circleHeartRow, standIns := [], harness := (true, "8cea5baecc6fae4f9d5d59057f2913800a5b760f535bd7b0859d4ecbe0921d7e"), looks := false }, kinds := [], alts := [], laidByText := true, laidKinds := [.data, .data, .data, .data, .pinned], laidTests := true, laidLooks := .later }
def CircleHeartCardSaid : Prop := Claim7.holds Tryz.pinned (.plain (OpenSpec.ofChange circleHeartSpec)) circleHeartCard

/-- THE TIED CARD OF 'compasslaw.CircleLie'. -/
def circleLieCard : Claim7 := { stood := { row := circleLieRow, standIns := [], harness := (true, "8cea5baecc6fae4f9d5d59057f2913800a5b760f535bd7b0859d4ecbe0921d7e"), looks := false }, kinds := [], alts := [], laidByText := true, laidKinds := [.data, .data, .data, .data, .pinned], laidTests := true, laidLooks := .later }
def CircleLieCardSaid : Prop := Claim7.holds Tryz.pinned (.plain (OpenSpec.ofChange circleLieSpec)) circleLieCard

/-- THE TIED CARD OF 'compasslaw.TurnApply'. -/
def turnApplyCard : Claim7 := { stood := { row := turnApplyRow, standIns := [], harness := (true, "8cea5baecc6fae4f9d5d59057f2913800a5b760f535bd7b0859d4ecbe0921d7e"), looks := false }, kinds := [], alts := [], laidByText := true, laidKinds := [.data, .data, .data, .data, .pinned], laidTests := true, laidLooks := .later }
def TurnApplyCardSaid : Prop := Claim7.holds Tryz.pinned (.plain (OpenSpec.ofChange turnApplySpec)) turnApplyCard

/-- THE SECOND FORM's CARD OF 'compasslaw.LinePlain'. -/
def linePlainUptoCard : Claim7 := { stood := { row := linePlainUptoRow, standIns := [], harness := (true, "8cea5baecc6fae4f9d5d59057f2913800a5b760f535bd7b0859d4ecbe0921d7e"), looks := false }, kinds := [], alts := [], laidByText := true, laidKinds := [.data, .data, .data, .data, .pinned], laidTests := true, laidLooks := .later }
def LinePlainUptoCardSaid : Prop := Claim7.holds Tryz.pinned (.plain (OpenSpec.upto linePlainSpec)) linePlainUptoCard

/-- THE SECOND FORM's CARD OF 'compasslaw.LineMeet'. -/
def lineMeetUptoCard : Claim7 := { stood := { row := lineMeetUptoRow, standIns := [], harness := (true, "8cea5baecc6fae4f9d5d59057f2913800a5b760f535bd7b0859d4ecbe0921d7e"), looks := false }, kinds := [], alts := [], laidByText := true, laidKinds := [.data, .data, .data, .data, .pinned], laidTests := true, laidLooks := .later }
def LineMeetUptoCardSaid : Prop := Claim7.holds Tryz.pinned (.plain (OpenSpec.upto lineMeetSpec)) lineMeetUptoCard

/-- THE SECOND FORM's CARD OF 'compasslaw.LineBeside'. -/
def lineBesideUptoCard : Claim7 := { stood := { row := lineBesideUptoRow, standIns := [], harness := (true, "8cea5baecc6fae4f9d5d59057f2913800a5b760f535bd7b0859d4ecbe0921d7e"), looks := false }, kinds := [], alts := [], laidByText := true, laidKinds := [.data, .data, .data, .data, .pinned], laidTests := true, laidLooks := .later }
def LineBesideUptoCardSaid : Prop := Claim7.holds Tryz.pinned (.plain (OpenSpec.upto lineBesideSpec)) lineBesideUptoCard

/-- THE SECOND FORM's CARD OF 'compasslaw.AnglePlain'. -/
def anglePlainUptoCard : Claim7 := { stood := { row := anglePlainUptoRow, standIns := [], harness := (true, "8cea5baecc6fae4f9d5d59057f2913800a5b760f535bd7b0859d4ecbe0921d7e"), looks := false }, kinds := [], alts := [], laidByText := true, laidKinds := [.data, .data, .data, .data, .pinned], laidTests := true, laidLooks := .later }
def AnglePlainUptoCardSaid : Prop := Claim7.holds Tryz.pinned (.plain (OpenSpec.upto anglePlainSpec)) anglePlainUptoCard

/-- THE SECOND FORM's CARD OF 'compasslaw.CircleAxis'. -/
def circleAxisUptoCard : Claim7 := { stood := { row := circleAxisUptoRow, standIns := [], harness := (true, "8cea5baecc6fae4f9d5d59057f2913800a5b760f535bd7b0859d4ecbe0921d7e"), looks := false }, kinds := [], alts := [], laidByText := true, laidKinds := [.data, .data, .data, .data, .pinned], laidTests := true, laidLooks := .later }
def CircleAxisUptoCardSaid : Prop := Claim7.holds Tryz.pinned (.plain (OpenSpec.upto circleAxisSpec)) circleAxisUptoCard

/-- THE SECOND FORM's CARD OF 'compasslaw.CircleHeart'. -/
def circleHeartUptoCard : Claim7 := { stood := { row := circleHeartUptoRow, standIns := [], harness := (true, "8cea5baecc6fae4f9d5d59057f2913800a5b760f535bd7b0859d4ecbe0921d7e"), looks := false }, kinds := [], alts := [], laidByText := true, laidKinds := [.data, .data, .data, .data, .pinned], laidTests := true, laidLooks := .later }
def CircleHeartUptoCardSaid : Prop := Claim7.holds Tryz.pinned (.plain (OpenSpec.upto circleHeartSpec)) circleHeartUptoCard

/-- THE SECOND FORM's CARD OF 'compasslaw.CircleLie'. -/
def circleLieUptoCard : Claim7 := { stood := { row := circleLieUptoRow, standIns := [], harness := (true, "8cea5baecc6fae4f9d5d59057f2913800a5b760f535bd7b0859d4ecbe0921d7e"), looks := false }, kinds := [], alts := [], laidByText := true, laidKinds := [.data, .data, .data, .data, .pinned], laidTests := true, laidLooks := .later }
def CircleLieUptoCardSaid : Prop := Claim7.holds Tryz.pinned (.plain (OpenSpec.upto circleLieSpec)) circleLieUptoCard

/-- THE SECOND FORM's CARD OF 'compasslaw.TurnApply'. -/
def turnApplyUptoCard : Claim7 := { stood := { row := turnApplyUptoRow, standIns := [], harness := (true, "8cea5baecc6fae4f9d5d59057f2913800a5b760f535bd7b0859d4ecbe0921d7e"), looks := false }, kinds := [], alts := [], laidByText := true, laidKinds := [.data, .data, .data, .data, .pinned], laidTests := true, laidLooks := .later }
def TurnApplyUptoCardSaid : Prop := Claim7.holds Tryz.pinned (.plain (OpenSpec.upto turnApplySpec)) turnApplyUptoCard
end Rows
end Go.Proofs.YtokkoifoemoegaaGreatDoor
