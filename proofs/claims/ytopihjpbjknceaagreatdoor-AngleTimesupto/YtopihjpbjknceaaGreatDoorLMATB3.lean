/- Runs of the law, part 3. -/
import Derived.Test.YtopihjpbjknceaaGreatDoorLMATA
set_option maxHeartbeats 16000000
set_option maxRecDepth 100000
namespace Go.Proofs.YtopihjpbjknceaaGreatDoor
open Go.RowKit Cx
theorem at_r59 : (callD (sx Tryz.prog (at_N 1 6 420 424) (at_H 59) [] [] [] at_Z (prC [5])) at_cs at_Gp 5 [] 3 (at_A (59)) [] 0).map (·.1)=some (kB true) := by kernel_rfl
theorem at_r33 : (callD (sx Tryz.prog (at_N 1 6 238 242) (at_H 33) [] [] [] at_Z (prC [5])) at_cs at_Gp 5 [] 3 (at_A (33)) [] 0).map (·.1)=some (kB true) := by kernel_rfl
theorem at_r7 : (callD (sx Tryz.prog (at_N 1 6 56 60) (at_H 7) [] [] [] at_Z (prC [5])) at_cs at_Gp 5 [] 3 (at_A (7)) [] 0).map (·.1)=some (kB true) := by kernel_rfl
theorem at_r49 : (callD (sx Tryz.prog (at_N 1 6 350 354) (at_H 49) [] [] [] at_Z (prC [5])) at_cs at_Gp 5 [] 3 (at_A (49)) [] 0).map (·.1)=some (kB true) := by kernel_rfl
theorem at_r23 : (callD (sx Tryz.prog (at_N 1 6 168 172) (at_H 23) [] [] [] at_Z (prC [5])) at_cs at_Gp 5 [] 3 (at_A (23)) [] 0).map (·.1)=some (kB true) := by kernel_rfl
theorem at_r1052 : (callD (sx Tryz.prog (at_N 6 1 371 375) (at_H 52) [] [] [] at_Z (prC [5])) at_cs at_Gn 5 [] 3 (at_A (-52)) [] 0).map (·.1)=some (kB true) := by kernel_rfl
theorem at_r1029 : (callD (sx Tryz.prog (at_N 6 1 210 214) (at_H 29) [] [] [] at_Z (prC [5])) at_cs at_Gn 5 [] 3 (at_A (-29)) [] 0).map (·.1)=some (kB true) := by kernel_rfl
theorem at_r9 : (callD (sx Tryz.prog (at_N 1 6 70 74) (at_H 9) [] [] [] at_Z (prC [5])) at_cs at_Gp 5 [] 3 (at_A (9)) [] 0).map (·.1)=some (kB true) := by kernel_rfl
theorem at_r48 : (callD (sx Tryz.prog (at_N 1 6 343 347) (at_H 48) [] [] [] at_Z (prC [5])) at_cs at_Gp 5 [] 3 (at_A (48)) [] 0).map (·.1)=some (kB true) := by kernel_rfl
theorem at_r1018 : (callD (sx Tryz.prog (at_N 6 1 133 137) (at_H 18) [] [] [] at_Z (prC [5])) at_cs at_Gn 5 [] 3 (at_A (-18)) [] 0).map (·.1)=some (kB true) := by kernel_rfl
theorem at_r1050 : (callD (sx Tryz.prog (at_N 6 1 357 361) (at_H 50) [] [] [] at_Z (prC [5])) at_cs at_Gn 5 [] 3 (at_A (-50)) [] 0).map (·.1)=some (kB true) := by kernel_rfl
theorem at_r34 : (callD (sx Tryz.prog (at_N 1 6 245 249) (at_H 34) [] [] [] at_Z (prC [5])) at_cs at_Gp 5 [] 3 (at_A (34)) [] 0).map (·.1)=some (kB true) := by kernel_rfl
theorem at_r8 : (callD (sx Tryz.prog (at_N 1 6 63 67) (at_H 8) [] [] [] at_Z (prC [5])) at_cs at_Gp 5 [] 3 (at_A (8)) [] 0).map (·.1)=some (kB true) := by kernel_rfl
theorem at_r1039 : (callD (sx Tryz.prog (at_N 6 1 280 284) (at_H 39) [] [] [] at_Z (prC [5])) at_cs at_Gn 5 [] 3 (at_A (-39)) [] 0).map (·.1)=some (kB true) := by kernel_rfl
theorem at_r1017 : (callD (sx Tryz.prog (at_N 6 1 126 130) (at_H 17) [] [] [] at_Z (prC [5])) at_cs at_Gn 5 [] 3 (at_A (-17)) [] 0).map (·.1)=some (kB true) := by kernel_rfl
end Go.Proofs.YtopihjpbjknceaaGreatDoor
