/- A closed fact of the row of PlaneLeibniz. -/
import Derived.Test.YtiiaejmkkflpgaaGreatDoorRows
import Derived.Test.YtiiaejmkkflpgaaGreatDoorChecked
import Derived.SevenTiedAt
import Derived.KernelRfl
namespace Go.Proofs.YtiiaejmkkflpgaaGreatDoor

set_option maxRecDepth 100000 in
theorem goes_by : false = Rows.planeLeibnizUptoRow.goesBy Tryz.pinned.checked.prog := by kernel_rfl
end Go.Proofs.YtiiaejmkkflpgaaGreatDoor
