/- A closed fact of the row of PolyVarignon. -/
import Derived.Test.YtejmglgdcngcmaaGreatDoorRows
import Derived.Test.YtejmglgdcngcmaaGreatDoorChecked
import Derived.SevenTiedAt
import Derived.KernelRfl
namespace Go.Proofs.YtejmglgdcngcmaaGreatDoor

set_option maxRecDepth 100000 in
theorem goes_by : false = Rows.polyVarignonUptoRow.goesBy Tryz.pinned.checked.prog := by kernel_rfl
end Go.Proofs.YtejmglgdcngcmaaGreatDoor
