/- A closed fact of the row of TurnPtolemy. -/
import Derived.Test.YtcjmbkcodigpdaaGreatDoorRows
import Derived.Test.YtcjmbkcodigpdaaGreatDoorChecked
import Derived.SevenTiedAt
import Derived.KernelRfl
namespace Go.Proofs.YtcjmbkcodigpdaaGreatDoor

set_option maxRecDepth 100000 in
theorem goes_by : false = Rows.turnPtolemyUptoRow.goesBy Tryz.pinned.checked.prog := by kernel_rfl
end Go.Proofs.YtcjmbkcodigpdaaGreatDoor
