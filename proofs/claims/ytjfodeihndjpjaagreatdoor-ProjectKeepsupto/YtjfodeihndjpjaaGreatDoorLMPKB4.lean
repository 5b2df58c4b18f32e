/- Runs of the law, part 4. -/
import Derived.Test.YtjfodeihndjpjaaGreatDoorLMPKA
set_option maxHeartbeats 16000000
set_option maxRecDepth 100000
namespace Go.Proofs.YtjfodeihndjpjaaGreatDoor
open Go.RowKit Cx
theorem pK_r3 : (callD (sx Tryz.prog pK_N pK_H3 [] pK_L pK_C pK_Z (prC [43])) pK_cs pK_G 7 [] 6 pK_A [] 0).map (·.1)=some (kB true) := by kernel_rfl
theorem pK_r7 : (callD (sx Tryz.prog pK_N pK_H7 [] pK_L pK_C pK_Z (prC [43])) pK_cs pK_G 7 [] 6 pK_A [] 0).map (·.1)=some (kB true) := by kernel_rfl
theorem pK_r11 : (callD (sx Tryz.prog pK_N pK_H11 [] pK_L pK_C pK_Z (prC [43])) pK_cs pK_G 7 [] 6 pK_A [] 0).map (·.1)=some (kB true) := by kernel_rfl
theorem pK_r15 : (callD (sx Tryz.prog pK_N pK_H15 [] pK_L pK_C pK_Z (prC [43])) pK_cs pK_G 7 [] 6 pK_A [] 0).map (·.1)=some (kB true) := by kernel_rfl
theorem pK_r19 : (callD (sx Tryz.prog pK_N pK_H19 [] pK_L pK_C pK_Z (prC [43])) pK_cs pK_G 7 [] 6 pK_A [] 0).map (·.1)=some (kB true) := by kernel_rfl
theorem pK_r23 : (callD (sx Tryz.prog pK_N pK_H23 [] pK_L pK_C pK_Z (prC [43])) pK_cs pK_G 7 [] 6 pK_A [] 0).map (·.1)=some (kB true) := by kernel_rfl
theorem pK_r27 : (callD (sx Tryz.prog pK_N pK_H27 [] pK_L pK_C pK_Z (prC [43])) pK_cs pK_M27 7 [] 6 pK_A [] 0).map (·.1)=some (kB true) := by kernel_rfl
theorem pK_r31 : (callD (sx Tryz.prog pK_N pK_H31 [] pK_L pK_C pK_Z (prC [43])) pK_cs pK_M31 7 [] 6 pK_A [] 0).map (·.1)=some (kB true) := by kernel_rfl
theorem pK_r35 : (callD (sx Tryz.prog pK_N pK_H35 [] pK_L pK_C pK_Z (prC [43])) pK_cs pK_M35 7 [] 6 pK_A [] 0).map (·.1)=some (kB true) := by kernel_rfl
theorem pK_r39 : (callD (sx Tryz.prog pK_N pK_H39 [] pK_L pK_C pK_Z (prC [43])) pK_cs pK_M39 7 [] 6 pK_A [] 0).map (·.1)=some (kB true) := by kernel_rfl
end Go.Proofs.YtjfodeihndjpjaaGreatDoor
