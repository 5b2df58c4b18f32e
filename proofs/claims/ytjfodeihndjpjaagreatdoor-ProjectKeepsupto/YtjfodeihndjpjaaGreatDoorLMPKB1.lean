/- Runs of the law, part 1. -/
import Derived.Test.YtjfodeihndjpjaaGreatDoorLMPKA
set_option maxHeartbeats 16000000
set_option maxRecDepth 100000
namespace Go.Proofs.YtjfodeihndjpjaaGreatDoor
open Go.RowKit Cx
theorem pK_r0 : (callD (sx Tryz.prog pK_N pK_H0 [] pK_L pK_C pK_Z (prC [43])) pK_cs pK_G 7 [] 6 pK_A [] 0).map (·.1)=some (kB true) := by kernel_rfl
theorem pK_r4 : (callD (sx Tryz.prog pK_N pK_H4 [] pK_L pK_C pK_Z (prC [43])) pK_cs pK_G 7 [] 6 pK_A [] 0).map (·.1)=some (kB true) := by kernel_rfl
theorem pK_r8 : (callD (sx Tryz.prog pK_N pK_H8 [] pK_L pK_C pK_Z (prC [43])) pK_cs pK_G 7 [] 6 pK_A [] 0).map (·.1)=some (kB true) := by kernel_rfl
theorem pK_r12 : (callD (sx Tryz.prog pK_N pK_H12 [] pK_L pK_C pK_Z (prC [43])) pK_cs pK_G 7 [] 6 pK_A [] 0).map (·.1)=some (kB true) := by kernel_rfl
theorem pK_r16 : (callD (sx Tryz.prog pK_N pK_H16 [] pK_L pK_C pK_Z (prC [43])) pK_cs pK_G 7 [] 6 pK_A [] 0).map (·.1)=some (kB true) := by kernel_rfl
theorem pK_r20 : (callD (sx Tryz.prog pK_N pK_H20 [] pK_L pK_C pK_Z (prC [43])) pK_cs pK_G 7 [] 6 pK_A [] 0).map (·.1)=some (kB true) := by kernel_rfl
theorem pK_r24 : (callD (sx Tryz.prog pK_N pK_H24 [] pK_L pK_C pK_Z (prC [43])) pK_cs pK_G 7 [] 6 pK_A [] 0).map (·.1)=some (kB true) := by kernel_rfl
theorem pK_r28 : (callD (sx Tryz.prog pK_N pK_H28 [] pK_L pK_C pK_Z (prC [43])) pK_cs pK_G 7 [] 6 pK_A [] 0).map (·.1)=some (kB true) := by kernel_rfl
theorem pK_r32 : (callD (sx Tryz.prog pK_N pK_H32 [] pK_L pK_C pK_Z (prC [43])) pK_cs pK_G 7 [] 6 pK_A [] 0).map (·.1)=some (kB true) := by kernel_rfl
theorem pK_r36 : (callD (sx Tryz.prog pK_N pK_H36 [] pK_L pK_C pK_Z (prC [43])) pK_cs pK_G 7 [] 6 pK_A [] 0).map (·.1)=some (kB true) := by kernel_rfl
end Go.Proofs.YtjfodeihndjpjaaGreatDoor
