/- Closed facts of the program that every row asks for: its main. -/
import Derived.Test.YtdiibbgbbajpeaaGreatDoorRows
import Derived.Test.YtdiibbgbbajpeaaGreatDoorChecked
import Derived.JoinedOf
import Derived.KernelRfl
namespace Go.Proofs.YtdiibbgbbajpeaaGreatDoor

set_option maxRecDepth 100000 in
theorem main_is : Tryz.pinned.checked.prog.mainIs = some (true, "d74b8daada8306b1df8ed212f2253aadba5c557cc562085393ada591d4007874".toList) := by kernel_rfl
end Go.Proofs.YtdiibbgbbajpeaaGreatDoor
