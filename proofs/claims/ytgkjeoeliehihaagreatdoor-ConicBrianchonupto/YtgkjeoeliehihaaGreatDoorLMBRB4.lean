/- Runs of the law, part 4. -/
import Derived.Test.YtgkjeoeliehihaaGreatDoorLMBRA
set_option maxHeartbeats 16000000
set_option maxRecDepth 100000
namespace Go.Proofs.YtgkjeoeliehihaaGreatDoor
open Go.RowKit Cx
theorem bR_r18 : (callD (sx Tryz.prog bR_N bR_H18 [] bR_L bR_C bR_Z (prC [6])) bR_cs (bR_O :: bR_G) 7 [] 3 bR_A [] 0).map (·.1)=some (kB true) := by kernel_rfl
theorem bR_r7 : (callD (sx Tryz.prog bR_N bR_H7 [] bR_L bR_C bR_Z (prC [6])) bR_cs (bR_O :: bR_G) 7 [] 3 bR_A [] 0).map (·.1)=some (kB true) := by kernel_rfl
theorem bR_r2 : (callD (sx Tryz.prog bR_N bR_H2 [] bR_L bR_C bR_Z (prC [6])) bR_cs (bR_O :: bR_G) 7 [] 3 bR_A [] 0).map (·.1)=some (kB true) := by kernel_rfl
theorem bR_r38 : (callD (sx Tryz.prog bR_N bR_H38 [] bR_L bR_C bR_Z (prC [6])) bR_cs bR_M38 6 [] 3 bR_A [] 0).map (·.1)=some (kB true) := by kernel_rfl
theorem bR_r33 : (callD (sx Tryz.prog bR_N bR_H33 [] bR_L bR_C bR_Z (prC [6])) bR_cs bR_M33 6 [] 3 bR_A [] 0).map (·.1)=some (kB true) := by kernel_rfl
theorem bR_r28 : (callD (sx Tryz.prog bR_N bR_H28 [] bR_L bR_C bR_Z (prC [6])) bR_cs (bR_O :: bR_G) 7 [] 3 bR_A [] 0).map (·.1)=some (kB true) := by kernel_rfl
theorem bR_r23 : (callD (sx Tryz.prog bR_N bR_H23 [] bR_L bR_C bR_Z (prC [6])) bR_cs (bR_O :: bR_G) 7 [] 3 bR_A [] 0).map (·.1)=some (kB true) := by kernel_rfl
end Go.Proofs.YtgkjeoeliehihaaGreatDoor
