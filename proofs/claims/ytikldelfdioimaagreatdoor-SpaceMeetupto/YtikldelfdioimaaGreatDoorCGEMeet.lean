/- A closed fact of the row of SpaceMeet. -/
import Derived.Test.YtikldelfdioimaaGreatDoorRows
import Derived.Test.YtikldelfdioimaaGreatDoorChecked
import Derived.SevenTiedAt
import Derived.KernelRfl
namespace Go.Proofs.YtikldelfdioimaaGreatDoor

set_option maxRecDepth 100000 in
theorem goes_by : false = Rows.spaceMeetUptoRow.goesBy Tryz.pinned.checked.prog := by kernel_rfl
end Go.Proofs.YtikldelfdioimaaGreatDoor
