/- Runs of the law, part 5. -/
import Derived.Test.YtgkjeoeliehihaaGreatDoorLMBRA
set_option maxHeartbeats 16000000
set_option maxRecDepth 100000
namespace Go.Proofs.YtgkjeoeliehihaaGreatDoor
open Go.RowKit Cx
theorem bR_r24 : (callD (sx Tryz.prog bR_N bR_H24 [] bR_L bR_C bR_Z (prC [6])) bR_cs (bR_O :: bR_G) 7 [] 3 bR_A [] 0).map (·.1)=some (kB true) := by kernel_rfl
theorem bR_r13 : (callD (sx Tryz.prog bR_N bR_H13 [] bR_L bR_C bR_Z (prC [6])) bR_cs (bR_O :: bR_G) 7 [] 3 bR_A [] 0).map (·.1)=some (kB true) := by kernel_rfl
theorem bR_r8 : (callD (sx Tryz.prog bR_N bR_H8 [] bR_L bR_C bR_Z (prC [6])) bR_cs (bR_O :: bR_G) 7 [] 3 bR_A [] 0).map (·.1)=some (kB true) := by kernel_rfl
theorem bR_r3 : (callD (sx Tryz.prog bR_N bR_H3 [] bR_L bR_C bR_Z (prC [6])) bR_cs (bR_O :: bR_G) 7 [] 3 bR_A [] 0).map (·.1)=some (kB true) := by kernel_rfl
theorem bR_r39 : (callD (sx Tryz.prog bR_N bR_H39 [] bR_L bR_C bR_Z (prC [6])) bR_cs bR_M39 6 [] 3 bR_A [] 0).map (·.1)=some (kB true) := by kernel_rfl
theorem bR_r34 : (callD (sx Tryz.prog bR_N bR_H34 [] bR_L bR_C bR_Z (prC [6])) bR_cs bR_M34 6 [] 3 bR_A [] 0).map (·.1)=some (kB true) := by kernel_rfl
theorem bR_r29 : (callD (sx Tryz.prog bR_N bR_H29 [] bR_L bR_C bR_Z (prC [6])) bR_cs (bR_O :: bR_G) 7 [] 3 bR_A [] 0).map (·.1)=some (kB true) := by kernel_rfl
end Go.Proofs.YtgkjeoeliehihaaGreatDoor
