/- Runs of the law, part 5. -/
import Derived.Test.YtkafcpodhflhpaaGreatDoorLMKUA
set_option maxHeartbeats 16000000
set_option maxRecDepth 100000
namespace Go.Proofs.YtkafcpodhflhpaaGreatDoor
open Go.RowKit Cx
theorem kU_b28 : mxChkJ (sx Tryz.prog kU_N [] kU_KK kU_L kU_C kU_Z (prC [14])) kU_cs [] 13 7 1 (kU_B.drop 34)=true := by kernel_rfl
theorem kU_b9 : mxChkJ (sx Tryz.prog kU_N [] kU_KK kU_L kU_C kU_Z (prC [14])) kU_cs [] 13 7 1 (kU_B.drop 11)=true := by kernel_rfl
theorem kU_b24 : mxChkJ (sx Tryz.prog kU_N [] kU_KK kU_L kU_C kU_Z (prC [14])) kU_cs [] 13 7 1 (kU_B.drop 29)=true := by kernel_rfl
theorem kU_b5 : mxChkJ (sx Tryz.prog kU_N [] kU_KK kU_L kU_C kU_Z (prC [14])) kU_cs [] 13 7 2 (kU_B.drop 6)=true := by kernel_rfl
theorem kU_b20 : mxChkJ (sx Tryz.prog kU_N [] kU_KK kU_L kU_C kU_Z (prC [14])) kU_cs [] 13 7 2 (kU_B.drop 24)=true := by kernel_rfl
end Go.Proofs.YtkafcpodhflhpaaGreatDoor
