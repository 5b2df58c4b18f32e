/- Runs of the law, part 1. -/
import Derived.Test.YtkafcpodhflhpaaGreatDoorLMKUA
set_option maxHeartbeats 16000000
set_option maxRecDepth 100000
namespace Go.Proofs.YtkafcpodhflhpaaGreatDoor
open Go.RowKit Cx
theorem kU_b0 : mxChkJ (sx Tryz.prog kU_N [] kU_KK kU_L kU_C kU_Z (prC [14])) kU_cs [] 13 7 2 (kU_B.drop 0)=true := by kernel_rfl
theorem kU_b15 : mxChkJ (sx Tryz.prog kU_N [] kU_KK kU_L kU_C kU_Z (prC [14])) kU_cs [] 13 7 2 (kU_B.drop 18)=true := by kernel_rfl
theorem kU_r0 : (callJ (sx Tryz.prog kU_N [(0,149,0,1),(0,346,0,1),(0,460,0,1),(0,528,0,1),(0,567,0,1),(0,589,0,1),(0,601,0,1)] kU_KK kU_L kU_C kU_Z (prC [14])) kU_cs kU_G kU_B 13 5 [] 3 kU_A [] 0).map (·.1)=some (kB true) := by kernel_rfl
theorem kU_b11 : mxChkJ (sx Tryz.prog kU_N [] kU_KK kU_L kU_C kU_Z (prC [14])) kU_cs [] 13 7 1 (kU_B.drop 14)=true := by kernel_rfl
theorem kU_b26 : mxChkJ (sx Tryz.prog kU_N [] kU_KK kU_L kU_C kU_Z (prC [14])) kU_cs [] 13 7 1 (kU_B.drop 32)=true := by kernel_rfl
end Go.Proofs.YtkafcpodhflhpaaGreatDoor
