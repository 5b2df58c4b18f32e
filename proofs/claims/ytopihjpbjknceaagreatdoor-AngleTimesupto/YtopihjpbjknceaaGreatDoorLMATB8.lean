/- Runs of the law, part 8. -/
import Derived.Test.YtopihjpbjknceaaGreatDoorLMATA
set_option maxHeartbeats 16000000
set_option maxRecDepth 100000
namespace Go.Proofs.YtopihjpbjknceaaGreatDoor
open Go.RowKit Cx
theorem at_r43 : (callD (sx Tryz.prog (at_N 1 6 308 312) (at_H 43) [] [] [] at_Z (prC [5])) at_cs at_Gp 5 [] 3 (at_A (43)) [] 0).map (·.1)=some (kB true) := by kernel_rfl
theorem at_r17 : (callD (sx Tryz.prog (at_N 1 6 126 130) (at_H 17) [] [] [] at_Z (prC [5])) at_cs at_Gp 5 [] 3 (at_A (17)) [] 0).map (·.1)=some (kB true) := by kernel_rfl
theorem at_r1049 : (callD (sx Tryz.prog (at_N 6 1 350 354) (at_H 49) [] [] [] at_Z (prC [5])) at_cs at_Gn 5 [] 3 (at_A (-49)) [] 0).map (·.1)=some (kB true) := by kernel_rfl
theorem at_r1027 : (callD (sx Tryz.prog (at_N 6 1 196 200) (at_H 27) [] [] [] at_Z (prC [5])) at_cs at_Gn 5 [] 3 (at_A (-27)) [] 0).map (·.1)=some (kB true) := by kernel_rfl
theorem at_r1005 : (callD (sx Tryz.prog (at_N 6 1 42 46) (at_H 5) [] [] [] at_Z (prC [5])) at_cs at_Gn 5 [] 3 (at_A (-5)) [] 0).map (·.1)=some (kB true) := by kernel_rfl
theorem at_r45 : (callD (sx Tryz.prog (at_N 1 6 322 326) (at_H 45) [] [] [] at_Z (prC [5])) at_cs at_Gp 5 [] 3 (at_A (45)) [] 0).map (·.1)=some (kB true) := by kernel_rfl
theorem at_r19 : (callD (sx Tryz.prog (at_N 1 6 140 144) (at_H 19) [] [] [] at_Z (prC [5])) at_cs at_Gp 5 [] 3 (at_A (19)) [] 0).map (·.1)=some (kB true) := by kernel_rfl
theorem at_r1048 : (callD (sx Tryz.prog (at_N 6 1 343 347) (at_H 48) [] [] [] at_Z (prC [5])) at_cs at_Gn 5 [] 3 (at_A (-48)) [] 0).map (·.1)=some (kB true) := by kernel_rfl
theorem at_r1026 : (callD (sx Tryz.prog (at_N 6 1 189 193) (at_H 26) [] [] [] at_Z (prC [5])) at_cs at_Gn 5 [] 3 (at_A (-26)) [] 0).map (·.1)=some (kB true) := by kernel_rfl
theorem at_r1004 : (callD (sx Tryz.prog (at_N 6 1 35 39) (at_H 4) [] [] [] at_Z (prC [5])) at_cs at_Gn 5 [] 3 (at_A (-4)) [] 0).map (·.1)=some (kB true) := by kernel_rfl
theorem at_r44 : (callD (sx Tryz.prog (at_N 1 6 315 319) (at_H 44) [] [] [] at_Z (prC [5])) at_cs at_Gp 5 [] 3 (at_A (44)) [] 0).map (·.1)=some (kB true) := by kernel_rfl
theorem at_r18 : (callD (sx Tryz.prog (at_N 1 6 133 137) (at_H 18) [] [] [] at_Z (prC [5])) at_cs at_Gp 5 [] 3 (at_A (18)) [] 0).map (·.1)=some (kB true) := by kernel_rfl
theorem at_r1047 : (callD (sx Tryz.prog (at_N 6 1 336 340) (at_H 47) [] [] [] at_Z (prC [5])) at_cs at_Gn 5 [] 3 (at_A (-47)) [] 0).map (·.1)=some (kB true) := by kernel_rfl
theorem at_r1025 : (callD (sx Tryz.prog (at_N 6 1 182 186) (at_H 25) [] [] [] at_Z (prC [5])) at_cs at_Gn 5 [] 3 (at_A (-25)) [] 0).map (·.1)=some (kB true) := by kernel_rfl
theorem at_r1003 : (callD (sx Tryz.prog (at_N 6 1 28 32) (at_H 3) [] [] [] at_Z (prC [5])) at_cs at_Gn 5 [] 3 (at_A (-3)) [] 0).map (·.1)=some (kB true) := by kernel_rfl
end Go.Proofs.YtopihjpbjknceaaGreatDoor
