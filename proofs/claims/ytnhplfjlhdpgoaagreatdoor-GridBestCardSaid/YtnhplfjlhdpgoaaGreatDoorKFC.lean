/- Closed facts of the program that every row asks for: its main. -/
import Derived.Test.YtnhplfjlhdpgoaaGreatDoorRows
import Derived.Test.YtnhplfjlhdpgoaaGreatDoorChecked
import Derived.JoinedOf
import Derived.KernelRfl
namespace Go.Proofs.YtnhplfjlhdpgoaaGreatDoor

set_option maxRecDepth 100000 in
theorem main_is : Tryz.pinned.checked.prog.mainIs = some (true, "b7b28c2364f833aecc85e01cbb23f10aee14b0bef12a149a93672206afdbff69".toList) := by kernel_rfl
end Go.Proofs.YtnhplfjlhdpgoaaGreatDoor
