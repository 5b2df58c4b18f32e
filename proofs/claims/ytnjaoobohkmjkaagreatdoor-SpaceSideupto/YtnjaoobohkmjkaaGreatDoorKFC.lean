/- Closed facts of the program that every row asks for: its main. -/
import Derived.Test.YtnjaoobohkmjkaaGreatDoorRows
import Derived.Test.YtnjaoobohkmjkaaGreatDoorChecked
import Derived.JoinedOf
import Derived.KernelRfl
namespace Go.Proofs.YtnjaoobohkmjkaaGreatDoor

set_option maxRecDepth 100000 in
theorem main_is : Tryz.pinned.checked.prog.mainIs = some (true, "6c5f238e3e0fd1044bf47db017479247cffd480f95b0ced17d33580ebeae4d8a".toList) := by kernel_rfl
end Go.Proofs.YtnjaoobohkmjkaaGreatDoor
