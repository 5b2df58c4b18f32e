/- A closed fact of the row of CirclePtolemy. -/
import Derived.Test.YtgemmepbdmbmfaaGreatDoorRows
import Derived.Test.YtgemmepbdmbmfaaGreatDoorChecked
import Derived.SevenTiedAt
import Derived.KernelRfl
namespace Go.Proofs.YtgemmepbdmbmfaaGreatDoor

set_option maxRecDepth 100000 in
theorem goes_by : false = Rows.circlePtolemyUptoRow.goesBy Tryz.pinned.checked.prog := by kernel_rfl
end Go.Proofs.YtgemmepbdmbmfaaGreatDoor
