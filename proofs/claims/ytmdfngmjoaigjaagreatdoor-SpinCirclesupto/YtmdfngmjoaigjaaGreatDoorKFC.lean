/- Closed facts of the program that every row asks for: its main. -/
import Derived.Test.YtmdfngmjoaigjaaGreatDoorRows
import Derived.Test.YtmdfngmjoaigjaaGreatDoorChecked
import Derived.JoinedOf
import Derived.KernelRfl
namespace Go.Proofs.YtmdfngmjoaigjaaGreatDoor

set_option maxRecDepth 100000 in
theorem main_is : Tryz.pinned.checked.prog.mainIs = some (true, "d3f8dff1c82f02361b6c6bcd9f68e969f623fa5acbaef8ad6a1fba065599f965".toList) := by kernel_rfl
end Go.Proofs.YtmdfngmjoaigjaaGreatDoor
