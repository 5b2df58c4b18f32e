/- Runs of the law, part 4. -/
import Derived.Test.YthagmklephpnhaaGreatDoorLMEMA
set_option maxHeartbeats 16000000
set_option maxRecDepth 100000
namespace Go.Proofs.YthagmklephpnhaaGreatDoor
open Go.RowKit Cx
theorem eM_r18 : (Ql (sx Tryz.prog eM_N eM_H18 [(153,[]),(44,[]),(45,[.inr (3,97,0,0,0)])] QP QT QQ (prC [32])) Qu eM_G 7 [] 7 Za [] 0).map (·.1)=some (kB true) := by kernel_rfl
theorem eM_r66 : (Ql (sx Tryz.prog eM_N eM_H66 [(153,[]),(44,[]),(45,[.inr (3,87,0,0,0)])] QP QT QQ (prC [32])) Qu eM_G 7 [] 7 Za [] 0).map (·.1)=some (kB true) := by kernel_rfl
theorem eM_r19 : (Ql (sx Tryz.prog eM_N eM_H19 [(153,[]),(44,[]),(45,[.inr (3,97,0,0,0)])] QP QT QQ (prC [32])) Qu eM_G 7 [] 7 Za [] 0).map (·.1)=some (kB true) := by kernel_rfl
theorem eM_r67 : (Ql (sx Tryz.prog eM_N eM_H67 [(153,[]),(44,[]),(45,[.inr (3,87,0,0,0)])] QP QT QQ (prC [32])) Qu eM_G 7 [] 7 Za [] 0).map (·.1)=some (kB true) := by kernel_rfl
theorem eM_r20 : (Ql (sx Tryz.prog eM_N eM_H20 [(153,[]),(44,[]),(45,[.inr (3,97,0,0,0)])] QP QT QQ (prC [32])) Qu eM_G 7 [] 7 Za [] 0).map (·.1)=some (kB true) := by kernel_rfl
theorem eM_r68 : (Ql (sx Tryz.prog eM_N eM_H68 [(153,[]),(44,[]),(45,[.inr (3,87,0,0,0)])] QP QT QQ (prC [32])) Qu eM_G 7 [] 7 Za [] 0).map (·.1)=some (kB true) := by kernel_rfl
theorem eM_r21 : (Ql (sx Tryz.prog eM_N eM_H21 [(153,[]),(44,[]),(45,[.inr (3,97,0,0,0)])] QP QT QQ (prC [32])) Qu eM_G 7 [] 7 Za [] 0).map (·.1)=some (kB true) := by kernel_rfl
theorem eM_r69 : (Ql (sx Tryz.prog eM_N eM_H69 [(153,[]),(44,[]),(45,[.inr (3,87,0,0,0)])] QP QT QQ (prC [32])) Qu eM_G 7 [] 7 Za [] 0).map (·.1)=some (kB true) := by kernel_rfl
theorem eM_r22 : (Ql (sx Tryz.prog eM_N eM_H22 [(153,[]),(44,[]),(45,[.inr (3,97,0,0,0)])] QP QT QQ (prC [32])) Qu eM_G 7 [] 7 Za [] 0).map (·.1)=some (kB true) := by kernel_rfl
theorem eM_r70 : (Ql (sx Tryz.prog eM_N eM_H70 [(153,[]),(44,[]),(45,[.inr (3,87,0,0,0)])] QP QT QQ (prC [32])) Qu eM_G 7 [] 7 Za [] 0).map (·.1)=some (kB true) := by kernel_rfl
theorem eM_r29 : (Ql (sx Tryz.prog eM_N eM_H29 [(153,[]),(44,[]),(45,[.inr (3,103,0,0,0)])] QP QT QQ (prC [32])) Qu eM_G 7 [] 7 Za [] 0).map (·.1)=some (kB true) := by kernel_rfl
theorem eM_r77 : (Ql (sx Tryz.prog eM_N eM_H77 [(153,[]),(44,[]),(45,[.inr (3,87,0,0,0)])] QP QT QQ (prC [32])) Qu eM_G 7 [] 7 Za [] 0).map (·.1)=some (kB true) := by kernel_rfl
end Go.Proofs.YthagmklephpnhaaGreatDoor
