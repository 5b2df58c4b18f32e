/- A closed fact of the row of SpaceGua. -/
import Derived.Test.YthagmklephpnhaaGreatDoorRows
import Derived.Test.YthagmklephpnhaaGreatDoorChecked
import Derived.SevenTiedAt
import Derived.KernelRfl
namespace Go.Proofs.YthagmklephpnhaaGreatDoor

set_option maxRecDepth 100000 in
theorem goes_by : false = Rows.spaceGuaUptoRow.goesBy Tryz.pinned.checked.prog := by kernel_rfl
end Go.Proofs.YthagmklephpnhaaGreatDoor
