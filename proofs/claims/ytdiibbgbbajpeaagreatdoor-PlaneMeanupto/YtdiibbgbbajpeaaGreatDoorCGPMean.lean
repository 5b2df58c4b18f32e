/- A closed fact of the row of PlaneMean. -/
import Derived.Test.YtdiibbgbbajpeaaGreatDoorRows
import Derived.Test.YtdiibbgbbajpeaaGreatDoorChecked
import Derived.SevenTiedAt
import Derived.KernelRfl
namespace Go.Proofs.YtdiibbgbbajpeaaGreatDoor

set_option maxRecDepth 100000 in
theorem goes_by : false = Rows.planeMeanUptoRow.goesBy Tryz.pinned.checked.prog := by kernel_rfl
end Go.Proofs.YtdiibbgbbajpeaaGreatDoor
