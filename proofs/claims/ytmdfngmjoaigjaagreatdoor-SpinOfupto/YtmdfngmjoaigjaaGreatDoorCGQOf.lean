/- A closed fact of the row of SpinOf. -/
import Derived.Test.YtmdfngmjoaigjaaGreatDoorRows
import Derived.Test.YtmdfngmjoaigjaaGreatDoorChecked
import Derived.SevenTiedAt
import Derived.KernelRfl
namespace Go.Proofs.YtmdfngmjoaigjaaGreatDoor

set_option maxRecDepth 100000 in
theorem goes_by : false = Rows.spinOfUptoRow.goesBy Tryz.pinned.checked.prog := by kernel_rfl
end Go.Proofs.YtmdfngmjoaigjaaGreatDoor
