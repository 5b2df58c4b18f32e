/- Closed facts of the program that every row asks for: its main. -/
import Derived.Test.YtioacnhbiinjbaaGreatDoorRows
import Derived.Test.YtioacnhbiinjbaaGreatDoorChecked
import Derived.JoinedOf
import Derived.KernelRfl
namespace Go.Proofs.YtioacnhbiinjbaaGreatDoor

set_option maxRecDepth 100000 in
theorem main_is : Tryz.pinned.checked.prog.mainIs = some (true, "16934264d1aac71ce0e46fe3a17f04fb863a3ea41dcfa3ab7419d517924895a5".toList) := by kernel_rfl
end Go.Proofs.YtioacnhbiinjbaaGreatDoor
