/- Closed facts of the program that every row asks for: its main. -/
import Derived.Test.YtkcikcnimkofkaaGreatDoorRows
import Derived.Test.YtkcikcnimkofkaaGreatDoorChecked
import Derived.JoinedOf
import Derived.KernelRfl
namespace Go.Proofs.YtkcikcnimkofkaaGreatDoor

set_option maxRecDepth 100000 in
theorem main_is : Tryz.pinned.checked.prog.mainIs = some (true, "4ed2f14a428e5c2d85b7917256d34114f1d6ca9eda67e88be19c6e3dac9d080d".toList) := by kernel_rfl
end Go.Proofs.YtkcikcnimkofkaaGreatDoor
