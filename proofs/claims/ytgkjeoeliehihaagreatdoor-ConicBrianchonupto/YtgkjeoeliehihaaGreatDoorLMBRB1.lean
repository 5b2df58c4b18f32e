/- Runs of the law, part 1. -/
import Derived.Test.YtgkjeoeliehihaaGreatDoorLMBRA
set_option maxHeartbeats 16000000
set_option maxRecDepth 100000
namespace Go.Proofs.YtgkjeoeliehihaaGreatDoor
open Go.RowKit Cx
theorem bR_r0 : (callD (sx Tryz.prog bR_N bR_H0 [] bR_L bR_C bR_Z (prC [6])) bR_cs (bR_O :: bR_G) 7 [] 3 bR_A [] 0).map (·.1)=some (kB true) := by kernel_rfl
theorem bR_r36 : (callD (sx Tryz.prog bR_N bR_H36 [] bR_L bR_C bR_Z (prC [6])) bR_cs bR_M36 6 [] 3 bR_A [] 0).map (·.1)=some (kB true) := by kernel_rfl
theorem bR_r25 : (callD (sx Tryz.prog bR_N bR_H25 [] bR_L bR_C bR_Z (prC [6])) bR_cs (bR_O :: bR_G) 7 [] 3 bR_A [] 0).map (·.1)=some (kB true) := by kernel_rfl
theorem bR_r20 : (callD (sx Tryz.prog bR_N bR_H20 [] bR_L bR_C bR_Z (prC [6])) bR_cs (bR_O :: bR_G) 7 [] 3 bR_A [] 0).map (·.1)=some (kB true) := by kernel_rfl
theorem bR_r15 : (callD (sx Tryz.prog bR_N bR_H15 [] bR_L bR_C bR_Z (prC [6])) bR_cs (bR_O :: bR_G) 7 [] 3 bR_A [] 0).map (·.1)=some (kB true) := by kernel_rfl
theorem bR_r10 : (callD (sx Tryz.prog bR_N bR_H10 [] bR_L bR_C bR_Z (prC [6])) bR_cs (bR_O :: bR_G) 7 [] 3 bR_A [] 0).map (·.1)=some (kB true) := by kernel_rfl
theorem bR_r5 : (callD (sx Tryz.prog bR_N bR_H5 [] bR_L bR_C bR_Z (prC [6])) bR_cs (bR_O :: bR_G) 7 [] 3 bR_A [] 0).map (·.1)=some (kB true) := by kernel_rfl
theorem bR_r41 : (callD (sx Tryz.prog bR_N bR_H41 [] bR_L bR_C bR_Z (prC [6])) bR_cs bR_M41 6 [] 3 bR_A [] 0).map (·.1)=some (kB true) := by kernel_rfl
end Go.Proofs.YtgkjeoeliehihaaGreatDoor
