/- A closed fact of the row of GridStand. -/
import Derived.Test.YthhnabccdehmgaaGreatDoorRows
import Derived.Test.YthhnabccdehmgaaGreatDoorChecked
import Derived.SevenTiedAt
import Derived.KernelRfl
namespace Go.Proofs.YthhnabccdehmgaaGreatDoor

set_option maxRecDepth 100000 in
theorem goes_by : false = Rows.gridStandRow.goesBy Tryz.pinned.checked.prog := by kernel_rfl
end Go.Proofs.YthhnabccdehmgaaGreatDoor
