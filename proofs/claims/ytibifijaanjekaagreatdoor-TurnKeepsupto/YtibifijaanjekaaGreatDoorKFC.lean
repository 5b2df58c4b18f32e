/- Closed facts of the program that every row asks for: its main. -/
import Derived.Test.YtibifijaanjekaaGreatDoorRows
import Derived.Test.YtibifijaanjekaaGreatDoorChecked
import Derived.JoinedOf
import Derived.KernelRfl
namespace Go.Proofs.YtibifijaanjekaaGreatDoor

set_option maxRecDepth 100000 in
theorem main_is : Tryz.pinned.checked.prog.mainIs = some (true, "36ad7ab95ecdd9dc9f6fb63eccea2f0d51143c6f89e1ed7629d64b1ca31f4026".toList) := by kernel_rfl
end Go.Proofs.YtibifijaanjekaaGreatDoor
