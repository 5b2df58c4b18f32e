/- Runs of the law, part 1. -/
import Derived.Test.YtopihjpbjknceaaGreatDoorLMATA
set_option maxHeartbeats 16000000
set_option maxRecDepth 100000
namespace Go.Proofs.YtopihjpbjknceaaGreatDoor
open Go.RowKit Cx
theorem at_r1060 : (callD (sx Tryz.prog (at_N 6 1 427 431) (at_H 60) [] [] [] at_Z (prC [5])) at_cs at_Gn 5 [] 3 (at_A (-60)) [] 0).map (·.1)=some (kB true) := by kernel_rfl
theorem at_r1033 : (callD (sx Tryz.prog (at_N 6 1 238 242) (at_H 33) [] [] [] at_Z (prC [5])) at_cs at_Gn 5 [] 3 (at_A (-33)) [] 0).map (·.1)=some (kB true) := by kernel_rfl
theorem at_r1011 : (callD (sx Tryz.prog (at_N 6 1 84 88) (at_H 11) [] [] [] at_Z (prC [5])) at_cs at_Gn 5 [] 3 (at_A (-11)) [] 0).map (·.1)=some (kB true) := by kernel_rfl
theorem at_r1046 : (callD (sx Tryz.prog (at_N 6 1 329 333) (at_H 46) [] [] [] at_Z (prC [5])) at_cs at_Gn 5 [] 3 (at_A (-46)) [] 0).map (·.1)=some (kB true) := by kernel_rfl
theorem at_r1024 : (callD (sx Tryz.prog (at_N 6 1 175 179) (at_H 24) [] [] [] at_Z (prC [5])) at_cs at_Gn 5 [] 3 (at_A (-24)) [] 0).map (·.1)=some (kB true) := by kernel_rfl
theorem at_r3 : (callD (sx Tryz.prog (at_N 1 6 28 32) (at_H 3) [] [] [] at_Z (prC [5])) at_cs at_Gp 5 [] 3 (at_A (3)) [] 0).map (·.1)=some (kB true) := by kernel_rfl
theorem at_r42 : (callD (sx Tryz.prog (at_N 1 6 301 305) (at_H 42) [] [] [] at_Z (prC [5])) at_cs at_Gp 5 [] 3 (at_A (42)) [] 0).map (·.1)=some (kB true) := by kernel_rfl
theorem at_r1013 : (callD (sx Tryz.prog (at_N 6 1 98 102) (at_H 13) [] [] [] at_Z (prC [5])) at_cs at_Gn 5 [] 3 (at_A (-13)) [] 0).map (·.1)=some (kB true) := by kernel_rfl
theorem at_r1045 : (callD (sx Tryz.prog (at_N 6 1 322 326) (at_H 45) [] [] [] at_Z (prC [5])) at_cs at_Gn 5 [] 3 (at_A (-45)) [] 0).map (·.1)=some (kB true) := by kernel_rfl
theorem at_r28 : (callD (sx Tryz.prog (at_N 1 6 203 207) (at_H 28) [] [] [] at_Z (prC [5])) at_cs at_Gp 5 [] 3 (at_A (28)) [] 0).map (·.1)=some (kB true) := by kernel_rfl
theorem at_r2 : (callD (sx Tryz.prog (at_N 1 6 21 25) (at_H 2) [] [] [] at_Z (prC [5])) at_cs at_Gp 5 [] 3 (at_A (2)) [] 0).map (·.1)=some (kB true) := by kernel_rfl
theorem at_r1034 : (callD (sx Tryz.prog (at_N 6 1 245 249) (at_H 34) [] [] [] at_Z (prC [5])) at_cs at_Gn 5 [] 3 (at_A (-34)) [] 0).map (·.1)=some (kB true) := by kernel_rfl
theorem at_r1012 : (callD (sx Tryz.prog (at_N 6 1 91 95) (at_H 12) [] [] [] at_Z (prC [5])) at_cs at_Gn 5 [] 3 (at_A (-12)) [] 0).map (·.1)=some (kB true) := by kernel_rfl
theorem at_r53 : (callD (sx Tryz.prog (at_N 1 6 378 382) (at_H 53) [] [] [] at_Z (prC [5])) at_cs at_Gp 5 [] 3 (at_A (53)) [] 0).map (·.1)=some (kB true) := by kernel_rfl
theorem at_r27 : (callD (sx Tryz.prog (at_N 1 6 196 200) (at_H 27) [] [] [] at_Z (prC [5])) at_cs at_Gp 5 [] 3 (at_A (27)) [] 0).map (·.1)=some (kB true) := by kernel_rfl
theorem at_r1 : (callD (sx Tryz.prog (at_N 1 6 14 18) (at_H 1) [] [] [] at_Z (prC [5])) at_cs at_Gp 5 [] 3 (at_A (1)) [] 0).map (·.1)=some (kB true) := by kernel_rfl
end Go.Proofs.YtopihjpbjknceaaGreatDoor
