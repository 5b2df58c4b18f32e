/- Closed facts of the program that every row asks for: its main. -/
import Derived.Test.YtldhbbignahgeaaGreatDoorRows
import Derived.Test.YtldhbbignahgeaaGreatDoorChecked
import Derived.JoinedOf
import Derived.KernelRfl
namespace Go.Proofs.YtldhbbignahgeaaGreatDoor

set_option maxRecDepth 100000 in
theorem main_is : Tryz.pinned.checked.prog.mainIs = some (true, "ef8c9761056efaa9f3b81e151a0c7ccc4a053412c77711df4fbe0795179751f3".toList) := by kernel_rfl
end Go.Proofs.YtldhbbignahgeaaGreatDoor
