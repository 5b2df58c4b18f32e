/- Runs of the law, part 5. -/
import Derived.Test.YthagmklephpnhaaGreatDoorLMEMA
set_option maxHeartbeats 16000000
set_option maxRecDepth 100000
namespace Go.Proofs.YthagmklephpnhaaGreatDoor
open Go.RowKit Cx
theorem eM_r24 : (Ql (sx Tryz.prog eM_N eM_H24 [(153,[]),(44,[]),(45,[.inr (3,97,0,0,0)])] QP QT QQ (prC [32])) Qu eM_G 7 [] 7 Za [] 0).map (·.1)=some (kB true) := by kernel_rfl
theorem eM_r72 : (Ql (sx Tryz.prog eM_N eM_H72 [(153,[]),(44,[]),(45,[.inr (3,87,0,0,0)])] QP QT QQ (prC [32])) Qu eM_G 7 [] 7 Za [] 0).map (·.1)=some (kB true) := by kernel_rfl
theorem eM_r25 : (Ql (sx Tryz.prog eM_N eM_H25 [(153,[]),(44,[]),(45,[.inr (3,97,0,0,0)])] QP QT QQ (prC [32])) Qu eM_G 7 [] 7 Za [] 0).map (·.1)=some (kB true) := by kernel_rfl
theorem eM_r73 : (Ql (sx Tryz.prog eM_N eM_H73 [(153,[]),(44,[]),(45,[.inr (3,87,0,0,0)])] QP QT QQ (prC [32])) Qu eM_G 7 [] 7 Za [] 0).map (·.1)=some (kB true) := by kernel_rfl
theorem eM_r26 : (Ql (sx Tryz.prog eM_N eM_H26 [(153,[]),(44,[]),(45,[.inr (3,97,0,0,0)])] QP QT QQ (prC [32])) Qu eM_G 7 [] 7 Za [] 0).map (·.1)=some (kB true) := by kernel_rfl
theorem eM_r74 : (Ql (sx Tryz.prog eM_N eM_H74 [(153,[]),(44,[]),(45,[.inr (3,87,0,0,0)])] QP QT QQ (prC [32])) Qu eM_G 7 [] 7 Za [] 0).map (·.1)=some (kB true) := by kernel_rfl
theorem eM_r27 : (Ql (sx Tryz.prog eM_N eM_H27 [(153,[]),(44,[]),(45,[.inr (3,103,0,0,0)])] QP QT QQ (prC [32])) Qu eM_G 7 [] 7 Za [] 0).map (·.1)=some (kB true) := by kernel_rfl
theorem eM_r75 : (Ql (sx Tryz.prog eM_N eM_H75 [(153,[]),(44,[]),(45,[.inr (3,87,0,0,0)])] QP QT QQ (prC [32])) Qu eM_G 7 [] 7 Za [] 0).map (·.1)=some (kB true) := by kernel_rfl
theorem eM_r28 : (Ql (sx Tryz.prog eM_N eM_H28 [(153,[]),(44,[]),(45,[.inr (3,103,0,0,0)])] QP QT QQ (prC [32])) Qu eM_G 7 [] 7 Za [] 0).map (·.1)=some (kB true) := by kernel_rfl
theorem eM_r76 : (Ql (sx Tryz.prog eM_N eM_H76 [(153,[]),(44,[]),(45,[.inr (3,87,0,0,0)])] QP QT QQ (prC [32])) Qu eM_G 7 [] 7 Za [] 0).map (·.1)=some (kB true) := by kernel_rfl
theorem eM_r35 : (Ql (sx Tryz.prog eM_N eM_H35 [(153,[]),(44,[]),(45,[.inr (3,103,0,0,0)])] QP QT QQ (prC [32])) Qu eM_G 7 [] 7 Za [] 0).map (·.1)=some (kB true) := by kernel_rfl
theorem eM_r83 : (Ql (sx Tryz.prog eM_N eM_H83 [(153,[]),(44,[]),(45,[.inr (3,87,0,0,0)])] QP QT QQ (prC [32])) Qu eM_G 7 [] 7 Za [] 0).map (·.1)=some (kB true) := by kernel_rfl
end Go.Proofs.YthagmklephpnhaaGreatDoor
