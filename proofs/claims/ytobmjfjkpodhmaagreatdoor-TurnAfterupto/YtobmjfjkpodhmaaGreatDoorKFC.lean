/- Closed facts of the program that every row asks for: its main. -/
import Derived.Test.YtobmjfjkpodhmaaGreatDoorRows
import Derived.Test.YtobmjfjkpodhmaaGreatDoorChecked
import Derived.JoinedOf
import Derived.KernelRfl
namespace Go.Proofs.YtobmjfjkpodhmaaGreatDoor

set_option maxRecDepth 100000 in
theorem main_is : Tryz.pinned.checked.prog.mainIs = some (true, "bfb4d82ecc22f9c08784fe012df8c94c13091fdf61b6f9fe2cc490db27938f95".toList) := by kernel_rfl
end Go.Proofs.YtobmjfjkpodhmaaGreatDoor
