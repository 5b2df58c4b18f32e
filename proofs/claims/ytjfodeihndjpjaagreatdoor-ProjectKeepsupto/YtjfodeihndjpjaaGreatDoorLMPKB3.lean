/- Runs of the law, part 3. -/
import Derived.Test.YtjfodeihndjpjaaGreatDoorLMPKA
set_option maxHeartbeats 16000000
set_option maxRecDepth 100000
namespace Go.Proofs.YtjfodeihndjpjaaGreatDoor
open Go.RowKit Cx
theorem pK_r2 : (callD (sx Tryz.prog pK_N pK_H2 [] pK_L pK_C pK_Z (prC [43])) pK_cs pK_G 7 [] 6 pK_A [] 0).map (·.1)=some (kB true) := by kernel_rfl
theorem pK_r6 : (callD (sx Tryz.prog pK_N pK_H6 [] pK_L pK_C pK_Z (prC [43])) pK_cs pK_G 7 [] 6 pK_A [] 0).map (·.1)=some (kB true) := by kernel_rfl
theorem pK_r10 : (callD (sx Tryz.prog pK_N pK_H10 [] pK_L pK_C pK_Z (prC [43])) pK_cs pK_G 7 [] 6 pK_A [] 0).map (·.1)=some (kB true) := by kernel_rfl
theorem pK_r14 : (callD (sx Tryz.prog pK_N pK_H14 [] pK_L pK_C pK_Z (prC [43])) pK_cs pK_G 7 [] 6 pK_A [] 0).map (·.1)=some (kB true) := by kernel_rfl
theorem pK_r18 : (callD (sx Tryz.prog pK_N pK_H18 [] pK_L pK_C pK_Z (prC [43])) pK_cs pK_G 7 [] 6 pK_A [] 0).map (·.1)=some (kB true) := by kernel_rfl
theorem pK_r22 : (callD (sx Tryz.prog pK_N pK_H22 [] pK_L pK_C pK_Z (prC [43])) pK_cs pK_G 7 [] 6 pK_A [] 0).map (·.1)=some (kB true) := by kernel_rfl
theorem pK_r26 : (callD (sx Tryz.prog pK_N pK_H26 [] pK_L pK_C pK_Z (prC [43])) pK_cs pK_M26 7 [] 6 pK_A [] 0).map (·.1)=some (kB true) := by kernel_rfl
theorem pK_r30 : (callD (sx Tryz.prog pK_N pK_H30 [] pK_L pK_C pK_Z (prC [43])) pK_cs pK_M30 7 [] 6 pK_A [] 0).map (·.1)=some (kB true) := by kernel_rfl
theorem pK_r34 : (callD (sx Tryz.prog pK_N pK_H34 [] pK_L pK_C pK_Z (prC [43])) pK_cs pK_M34 7 [] 6 pK_A [] 0).map (·.1)=some (kB true) := by kernel_rfl
theorem pK_r38 : (callD (sx Tryz.prog pK_N pK_H38 [] pK_L pK_C pK_Z (prC [43])) pK_cs pK_M38 7 [] 6 pK_A [] 0).map (·.1)=some (kB true) := by kernel_rfl
end Go.Proofs.YtjfodeihndjpjaaGreatDoor
