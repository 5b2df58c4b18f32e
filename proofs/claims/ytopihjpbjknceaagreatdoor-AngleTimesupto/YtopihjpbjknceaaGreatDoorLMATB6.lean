/- Runs of the law, part 6. -/
import Derived.Test.YtopihjpbjknceaaGreatDoorLMATA
set_option maxHeartbeats 16000000
set_option maxRecDepth 100000
namespace Go.Proofs.YtopihjpbjknceaaGreatDoor
open Go.RowKit Cx
theorem at_r1041 : (callD (sx Tryz.prog (at_N 6 1 294 298) (at_H 41) [] [] [] at_Z (prC [5])) at_cs at_Gn 5 [] 3 (at_A (-41)) [] 0).map (·.1)=some (kB true) := by kernel_rfl
theorem at_r1019 : (callD (sx Tryz.prog (at_N 6 1 140 144) (at_H 19) [] [] [] at_Z (prC [5])) at_cs at_Gn 5 [] 3 (at_A (-19)) [] 0).map (·.1)=some (kB true) := by kernel_rfl
theorem at_r1059 : (callD (sx Tryz.prog (at_N 6 1 420 424) (at_H 59) [] [] [] at_Z (prC [5])) at_cs at_Gn 5 [] 3 (at_A (-59)) [] 0).map (·.1)=some (kB true) := by kernel_rfl
theorem at_r39 : (callD (sx Tryz.prog (at_N 1 6 280 284) (at_H 39) [] [] [] at_Z (prC [5])) at_cs at_Gp 5 [] 3 (at_A (39)) [] 0).map (·.1)=some (kB true) := by kernel_rfl
theorem at_r13 : (callD (sx Tryz.prog (at_N 1 6 98 102) (at_H 13) [] [] [] at_Z (prC [5])) at_cs at_Gp 5 [] 3 (at_A (13)) [] 0).map (·.1)=some (kB true) := by kernel_rfl
theorem at_r1043 : (callD (sx Tryz.prog (at_N 6 1 308 312) (at_H 43) [] [] [] at_Z (prC [5])) at_cs at_Gn 5 [] 3 (at_A (-43)) [] 0).map (·.1)=some (kB true) := by kernel_rfl
theorem at_r1021 : (callD (sx Tryz.prog (at_N 6 1 154 158) (at_H 21) [] [] [] at_Z (prC [5])) at_cs at_Gn 5 [] 3 (at_A (-21)) [] 0).map (·.1)=some (kB true) := by kernel_rfl
theorem at_r1057 : (callD (sx Tryz.prog (at_N 6 1 406 410) (at_H 57) [] [] [] at_Z (prC [5])) at_cs at_Gn 5 [] 3 (at_A (-57)) [] 0).map (·.1)=some (kB true) := by kernel_rfl
theorem at_r38 : (callD (sx Tryz.prog (at_N 1 6 273 277) (at_H 38) [] [] [] at_Z (prC [5])) at_cs at_Gp 5 [] 3 (at_A (38)) [] 0).map (·.1)=some (kB true) := by kernel_rfl
theorem at_r12 : (callD (sx Tryz.prog (at_N 1 6 91 95) (at_H 12) [] [] [] at_Z (prC [5])) at_cs at_Gp 5 [] 3 (at_A (12)) [] 0).map (·.1)=some (kB true) := by kernel_rfl
theorem at_r1042 : (callD (sx Tryz.prog (at_N 6 1 301 305) (at_H 42) [] [] [] at_Z (prC [5])) at_cs at_Gn 5 [] 3 (at_A (-42)) [] 0).map (·.1)=some (kB true) := by kernel_rfl
theorem at_r1020 : (callD (sx Tryz.prog (at_N 6 1 147 151) (at_H 20) [] [] [] at_Z (prC [5])) at_cs at_Gn 5 [] 3 (at_A (-20)) [] 0).map (·.1)=some (kB true) := by kernel_rfl
theorem at_r1055 : (callD (sx Tryz.prog (at_N 6 1 392 396) (at_H 55) [] [] [] at_Z (prC [5])) at_cs at_Gn 5 [] 3 (at_A (-55)) [] 0).map (·.1)=some (kB true) := by kernel_rfl
theorem at_r37 : (callD (sx Tryz.prog (at_N 1 6 266 270) (at_H 37) [] [] [] at_Z (prC [5])) at_cs at_Gp 5 [] 3 (at_A (37)) [] 0).map (·.1)=some (kB true) := by kernel_rfl
theorem at_r11 : (callD (sx Tryz.prog (at_N 1 6 84 88) (at_H 11) [] [] [] at_Z (prC [5])) at_cs at_Gp 5 [] 3 (at_A (11)) [] 0).map (·.1)=some (kB true) := by kernel_rfl
end Go.Proofs.YtopihjpbjknceaaGreatDoor
