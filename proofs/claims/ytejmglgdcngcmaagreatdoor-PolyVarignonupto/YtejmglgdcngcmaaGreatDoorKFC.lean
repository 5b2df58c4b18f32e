/- Closed facts of the program that every row asks for: its main. -/
import Derived.Test.YtejmglgdcngcmaaGreatDoorRows
import Derived.Test.YtejmglgdcngcmaaGreatDoorChecked
import Derived.JoinedOf
import Derived.KernelRfl
namespace Go.Proofs.YtejmglgdcngcmaaGreatDoor

set_option maxRecDepth 100000 in
theorem main_is : Tryz.pinned.checked.prog.mainIs = some (true, "e754c872046f88b4e3fbc880dd72b1ff39d2e2596efdc37176d821b4d1098414".toList) := by kernel_rfl
end Go.Proofs.YtejmglgdcngcmaaGreatDoor
