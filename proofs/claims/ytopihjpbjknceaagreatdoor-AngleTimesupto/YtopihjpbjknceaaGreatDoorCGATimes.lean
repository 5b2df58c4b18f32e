/- A closed fact of the row of AngleTimes. -/
import Derived.Test.YtopihjpbjknceaaGreatDoorRows
import Derived.Test.YtopihjpbjknceaaGreatDoorChecked
import Derived.SevenTiedAt
import Derived.KernelRfl
namespace Go.Proofs.YtopihjpbjknceaaGreatDoor

set_option maxRecDepth 100000 in
theorem goes_by : false = Rows.angleTimesUptoRow.goesBy Tryz.pinned.checked.prog := by kernel_rfl
end Go.Proofs.YtopihjpbjknceaaGreatDoor
