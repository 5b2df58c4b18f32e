/- A closed fact of the row of ConicBrianchon. -/
import Derived.Test.YtgkjeoeliehihaaGreatDoorRows
import Derived.Test.YtgkjeoeliehihaaGreatDoorChecked
import Derived.SevenTiedAt
import Derived.KernelRfl
namespace Go.Proofs.YtgkjeoeliehihaaGreatDoor

set_option maxRecDepth 100000 in
theorem goes_by : false = Rows.conicBrianchonUptoRow.goesBy Tryz.pinned.checked.prog := by kernel_rfl
end Go.Proofs.YtgkjeoeliehihaaGreatDoor
