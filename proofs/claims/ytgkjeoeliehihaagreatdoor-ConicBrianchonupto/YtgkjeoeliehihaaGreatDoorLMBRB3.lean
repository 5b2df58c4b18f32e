/- Runs of the law, part 3. -/
import Derived.Test.YtgkjeoeliehihaaGreatDoorLMBRA
set_option maxHeartbeats 16000000
set_option maxRecDepth 100000
namespace Go.Proofs.YtgkjeoeliehihaaGreatDoor
open Go.RowKit Cx
theorem bR_r12 : (callD (sx Tryz.prog bR_N bR_H12 [] bR_L bR_C bR_Z (prC [6])) bR_cs (bR_O :: bR_G) 7 [] 3 bR_A [] 0).map (·.1)=some (kB true) := by kernel_rfl
theorem bR_r1 : (callD (sx Tryz.prog bR_N bR_H1 [] bR_L bR_C bR_Z (prC [6])) bR_cs (bR_O :: bR_G) 7 [] 3 bR_A [] 0).map (·.1)=some (kB true) := by kernel_rfl
theorem bR_r37 : (callD (sx Tryz.prog bR_N bR_H37 [] bR_L bR_C bR_Z (prC [6])) bR_cs bR_M37 6 [] 3 bR_A [] 0).map (·.1)=some (kB true) := by kernel_rfl
theorem bR_r32 : (callD (sx Tryz.prog bR_N bR_H32 [] bR_L bR_C bR_Z (prC [6])) bR_cs (bR_O :: bR_G) 7 [] 3 bR_A [] 0).map (·.1)=some (kB true) := by kernel_rfl
theorem bR_r27 : (callD (sx Tryz.prog bR_N bR_H27 [] bR_L bR_C bR_Z (prC [6])) bR_cs (bR_O :: bR_G) 7 [] 3 bR_A [] 0).map (·.1)=some (kB true) := by kernel_rfl
theorem bR_r22 : (callD (sx Tryz.prog bR_N bR_H22 [] bR_L bR_C bR_Z (prC [6])) bR_cs (bR_O :: bR_G) 7 [] 3 bR_A [] 0).map (·.1)=some (kB true) := by kernel_rfl
theorem bR_r17 : (callD (sx Tryz.prog bR_N bR_H17 [] bR_L bR_C bR_Z (prC [6])) bR_cs (bR_O :: bR_G) 7 [] 3 bR_A [] 0).map (·.1)=some (kB true) := by kernel_rfl
end Go.Proofs.YtgkjeoeliehihaaGreatDoor
