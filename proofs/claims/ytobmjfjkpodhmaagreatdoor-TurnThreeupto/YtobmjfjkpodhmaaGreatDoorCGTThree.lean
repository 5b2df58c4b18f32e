/- A closed fact of the row of TurnThree. -/
import Derived.Test.YtobmjfjkpodhmaaGreatDoorRows
import Derived.Test.YtobmjfjkpodhmaaGreatDoorChecked
import Derived.SevenTiedAt
import Derived.KernelRfl
namespace Go.Proofs.YtobmjfjkpodhmaaGreatDoor

set_option maxRecDepth 100000 in
theorem goes_by : false = Rows.turnThreeUptoRow.goesBy Tryz.pinned.checked.prog := by kernel_rfl
end Go.Proofs.YtobmjfjkpodhmaaGreatDoor
