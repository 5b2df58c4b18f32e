/- Runs of the law, part 2. -/
import Derived.Test.YtjfodeihndjpjaaGreatDoorLMPKA
set_option maxHeartbeats 16000000
set_option maxRecDepth 100000
namespace Go.Proofs.YtjfodeihndjpjaaGreatDoor
open Go.RowKit Cx
theorem pK_r1 : (callD (sx Tryz.prog pK_N pK_H1 [] pK_L pK_C pK_Z (prC [43])) pK_cs pK_G 7 [] 6 pK_A [] 0).map (·.1)=some (kB true) := by kernel_rfl
theorem pK_r5 : (callD (sx Tryz.prog pK_N pK_H5 [] pK_L pK_C pK_Z (prC [43])) pK_cs pK_G 7 [] 6 pK_A [] 0).map (·.1)=some (kB true) := by kernel_rfl
theorem pK_r9 : (callD (sx Tryz.prog pK_N pK_H9 [] pK_L pK_C pK_Z (prC [43])) pK_cs pK_G 7 [] 6 pK_A [] 0).map (·.1)=some (kB true) := by kernel_rfl
theorem pK_r13 : (callD (sx Tryz.prog pK_N pK_H13 [] pK_L pK_C pK_Z (prC [43])) pK_cs pK_G 7 [] 6 pK_A [] 0).map (·.1)=some (kB true) := by kernel_rfl
theorem pK_r17 : (callD (sx Tryz.prog pK_N pK_H17 [] pK_L pK_C pK_Z (prC [43])) pK_cs pK_G 7 [] 6 pK_A [] 0).map (·.1)=some (kB true) := by kernel_rfl
theorem pK_r21 : (callD (sx Tryz.prog pK_N pK_H21 [] pK_L pK_C pK_Z (prC [43])) pK_cs pK_G 7 [] 6 pK_A [] 0).map (·.1)=some (kB true) := by kernel_rfl
theorem pK_r25 : (callD (sx Tryz.prog pK_N pK_H25 [] pK_L pK_C pK_Z (prC [43])) pK_cs pK_G 7 [] 6 pK_A [] 0).map (·.1)=some (kB true) := by kernel_rfl
theorem pK_r29 : (callD (sx Tryz.prog pK_N pK_H29 [] pK_L pK_C pK_Z (prC [43])) pK_cs pK_G 7 [] 6 pK_A [] 0).map (·.1)=some (kB true) := by kernel_rfl
theorem pK_r33 : (callD (sx Tryz.prog pK_N pK_H33 [] pK_L pK_C pK_Z (prC [43])) pK_cs pK_G 7 [] 6 pK_A [] 0).map (·.1)=some (kB true) := by kernel_rfl
theorem pK_r37 : (callD (sx Tryz.prog pK_N pK_H37 [] pK_L pK_C pK_Z (prC [43])) pK_cs pK_M37 7 [] 6 pK_A [] 0).map (·.1)=some (kB true) := by kernel_rfl
end Go.Proofs.YtjfodeihndjpjaaGreatDoor
