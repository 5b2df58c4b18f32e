/- Runs of the law, part 6. -/
import Derived.Test.YtgkjeoeliehihaaGreatDoorLMBRA
set_option maxHeartbeats 16000000
set_option maxRecDepth 100000
namespace Go.Proofs.YtgkjeoeliehihaaGreatDoor
open Go.RowKit Cx
theorem bR_r30 : (callD (sx Tryz.prog bR_N bR_H30 [] bR_L bR_C bR_Z (prC [6])) bR_cs (bR_O :: bR_G) 7 [] 3 bR_A [] 0).map (·.1)=some (kB true) := by kernel_rfl
theorem bR_r19 : (callD (sx Tryz.prog bR_N bR_H19 [] bR_L bR_C bR_Z (prC [6])) bR_cs (bR_O :: bR_G) 7 [] 3 bR_A [] 0).map (·.1)=some (kB true) := by kernel_rfl
theorem bR_r14 : (callD (sx Tryz.prog bR_N bR_H14 [] bR_L bR_C bR_Z (prC [6])) bR_cs (bR_O :: bR_G) 7 [] 3 bR_A [] 0).map (·.1)=some (kB true) := by kernel_rfl
theorem bR_r9 : (callD (sx Tryz.prog bR_N bR_H9 [] bR_L bR_C bR_Z (prC [6])) bR_cs (bR_O :: bR_G) 7 [] 3 bR_A [] 0).map (·.1)=some (kB true) := by kernel_rfl
theorem bR_r4 : (callD (sx Tryz.prog bR_N bR_H4 [] bR_L bR_C bR_Z (prC [6])) bR_cs (bR_O :: bR_G) 7 [] 3 bR_A [] 0).map (·.1)=some (kB true) := by kernel_rfl
theorem bR_r40 : (callD (sx Tryz.prog bR_N bR_H40 [] bR_L bR_C bR_Z (prC [6])) bR_cs bR_M40 6 [] 3 bR_A [] 0).map (·.1)=some (kB true) := by kernel_rfl
theorem bR_r35 : (callD (sx Tryz.prog bR_N bR_H35 [] bR_L bR_C bR_Z (prC [6])) bR_cs bR_M35 6 [] 3 bR_A [] 0).map (·.1)=some (kB true) := by kernel_rfl
end Go.Proofs.YtgkjeoeliehihaaGreatDoor
