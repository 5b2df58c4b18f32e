/- Runs of the law, part 8. -/
import Derived.Test.YthagmklephpnhaaGreatDoorLMEMA
set_option maxHeartbeats 16000000
set_option maxRecDepth 100000
namespace Go.Proofs.YthagmklephpnhaaGreatDoor
open Go.RowKit Cx
theorem eM_r42 : (Ql (sx Tryz.prog eM_N eM_H42 [(153,[]),(44,[]),(45,[.inr (3,99,0,0,0)])] QP QT QQ (prC [32])) Qu eM_G 7 [] 7 Za [] 0).map (·.1)=some (kB true) := by kernel_rfl
theorem eM_r90 : (Ql (sx Tryz.prog eM_N eM_H90 [(153,[]),(44,[]),(45,[.inr (3,87,0,0,0)])] QP QT QQ (prC [32])) Qu eM_G 7 [] 7 Za [] 0).map (·.1)=some (kB true) := by kernel_rfl
theorem eM_r43 : (Ql (sx Tryz.prog eM_N eM_H43 [(153,[]),(44,[]),(45,[.inr (3,99,0,0,0)])] QP QT QQ (prC [32])) Qu eM_G 7 [] 7 Za [] 0).map (·.1)=some (kB true) := by kernel_rfl
theorem eM_r91 : (Ql (sx Tryz.prog eM_N eM_H91 [(153,[]),(44,[]),(45,[.inr (3,87,0,0,0)])] QP QT QQ (prC [32])) Qu eM_G 7 [] 7 Za [] 0).map (·.1)=some (kB true) := by kernel_rfl
theorem eM_r44 : (Ql (sx Tryz.prog eM_N eM_H44 [(153,[]),(44,[]),(45,[.inr (3,99,0,0,0)])] QP QT QQ (prC [32])) Qu eM_G 7 [] 7 Za [] 0).map (·.1)=some (kB true) := by kernel_rfl
theorem eM_r92 : (Ql (sx Tryz.prog eM_N eM_H92 [(153,[]),(44,[]),(45,[.inr (3,87,0,0,0)])] QP QT QQ (prC [32])) Qu eM_G 7 [] 7 Za [] 0).map (·.1)=some (kB true) := by kernel_rfl
theorem eM_r45 : (Ql (sx Tryz.prog eM_N eM_H45 [(153,[]),(44,[]),(45,[.inr (3,99,0,0,0)])] QP QT QQ (prC [32])) Qu eM_G 7 [] 7 Za [] 0).map (·.1)=some (kB true) := by kernel_rfl
theorem eM_r93 : (Ql (sx Tryz.prog eM_N eM_H93 [(153,[])] QP QT QQ (prC [32])) Qu eM_G 7 [] 7 Za [] 0).map (·.1)=some (kB true) := by kernel_rfl
theorem eM_r46 : (Ql (sx Tryz.prog eM_N eM_H46 [(153,[]),(44,[]),(45,[.inr (3,99,0,0,0)])] QP QT QQ (prC [32])) Qu eM_G 7 [] 7 Za [] 0).map (·.1)=some (kB true) := by kernel_rfl
theorem eM_r5 : (Ql (sx Tryz.prog eM_N eM_H5 [(153,[]),(44,[]),(45,[.inr (3,107,0,0,0)])] QP QT QQ (prC [32])) Qu eM_G 7 [] 7 Za [] 0).map (·.1)=some (kB true) := by kernel_rfl
theorem eM_r53 : (Ql (sx Tryz.prog eM_N eM_H53 [(153,[]),(44,[]),(45,[.inr (3,99,0,0,0)])] QP QT QQ (prC [32])) Qu eM_G 7 [] 7 Za [] 0).map (·.1)=some (kB true) := by kernel_rfl
end Go.Proofs.YthagmklephpnhaaGreatDoor
