/- Closed facts of the program that every row asks for: its main. -/
import Derived.Test.YtopihjpbjknceaaGreatDoorRows
import Derived.Test.YtopihjpbjknceaaGreatDoorChecked
import Derived.JoinedOf
import Derived.KernelRfl
namespace Go.Proofs.YtopihjpbjknceaaGreatDoor

set_option maxRecDepth 100000 in
theorem main_is : Tryz.pinned.checked.prog.mainIs = some (true, "7f19f0f3f3ad440f74d917c070e70a9debf5838eed19daa637ddce0abd6fca04".toList) := by kernel_rfl
end Go.Proofs.YtopihjpbjknceaaGreatDoor
