/- Runs of the law, part 3. -/
import Derived.Test.YtjfodeihndjpjaaGreatDoorLMTRA
set_option maxHeartbeats 16000000
set_option maxRecDepth 100000
namespace Go.Proofs.YtjfodeihndjpjaaGreatDoor
open Go.RowKit Cx
theorem tR_r2 : (callD (sx Tryz.prog tR_N tR_H2 [(120,[.inr (3,28,0,0,0),.inr (3,38,0,0,0)]),(70,[])] tR_L tR_C tR_Z (prC [8])) tR_cs tR_G 7 [] 3 tR_A [] 0).map (·.1)=some (kB true) := by kernel_rfl
theorem tR_r5 : (callD (sx Tryz.prog tR_N tR_H5 [(120,[.inr (3,28,0,0,0),.inr (3,38,0,0,0)]),(70,[])] tR_L tR_C tR_Z (prC [8])) tR_cs tR_G 7 [] 3 tR_A [] 0).map (·.1)=some (kB true) := by kernel_rfl
theorem tR_r8 : (callD (sx Tryz.prog tR_N tR_H8 [(120,[.inr (3,28,0,0,0),.inr (3,38,0,0,0)]),(70,[])] tR_L tR_C tR_Z (prC [8])) tR_cs tR_G 7 [] 3 tR_A [] 0).map (·.1)=some (kB true) := by kernel_rfl
theorem tR_r11 : (callD (sx Tryz.prog tR_N tR_H11 [(120,[.inr (3,28,0,0,0),.inr (3,38,0,0,0)]),(70,[])] tR_L tR_C tR_Z (prC [8])) tR_cs tR_G 7 [] 3 tR_A [] 0).map (·.1)=some (kB true) := by kernel_rfl
theorem tR_r14 : (callD (sx Tryz.prog tR_N tR_H14 [(120,[.inr (3,28,0,0,0),.inr (3,38,0,0,0)]),(70,[])] tR_L tR_C tR_Z (prC [8])) tR_cs tR_G 7 [] 3 tR_A [] 0).map (·.1)=some (kB true) := by kernel_rfl
theorem tR_r17 : (callD (sx Tryz.prog tR_N tR_H17 [(120,[.inr (3,28,0,0,0),.inr (3,38,0,0,0)]),(70,[])] tR_L tR_C tR_Z (prC [8])) tR_cs tR_G 7 [] 3 tR_A [] 0).map (·.1)=some (kB true) := by kernel_rfl
theorem tR_r20 : (callD (sx Tryz.prog tR_N tR_H20 [(120,[.inr (3,28,0,0,0),.inr (3,38,0,0,0)]),(70,[])] tR_L tR_C tR_Z (prC [8])) tR_cs tR_G 7 [] 3 tR_A [] 0).map (·.1)=some (kB true) := by kernel_rfl
theorem tR_r23 : (callD (sx Tryz.prog tR_N tR_H23 [(120,[.inr (3,28,0,0,0),.inr (3,38,0,0,0)]),(70,[])] tR_L tR_C tR_Z (prC [8])) tR_cs tR_G 7 [] 3 tR_A [] 0).map (·.1)=some (kB true) := by kernel_rfl
theorem tR_r26 : (callD (sx Tryz.prog tR_N tR_H26 [(120,[.inr (3,28,0,0,0),.inr (3,38,0,0,0)]),(70,[])] tR_L tR_C tR_Z (prC [8])) tR_cs tR_G 7 [] 3 tR_A [] 0).map (·.1)=some (kB true) := by kernel_rfl
theorem tR_r29 : (callD (sx Tryz.prog tR_N tR_H29 [(120,[.inr (3,28,0,0,0),.inr (3,38,0,0,0)]),(70,[])] tR_L tR_C tR_Z (prC [8])) tR_cs tR_G 7 [] 3 tR_A [] 0).map (·.1)=some (kB true) := by kernel_rfl
theorem tR_r32 : (callD (sx Tryz.prog tR_N tR_H32 [(120,[.inr (3,28,0,0,0),.inr (3,38,0,0,0)]),(70,[])] tR_L tR_C tR_Z (prC [8])) tR_cs tR_G 7 [] 3 tR_A [] 0).map (·.1)=some (kB true) := by kernel_rfl
theorem tR_r35 : (callD (sx Tryz.prog tR_N tR_H35 [] tR_L tR_C tR_Z (prC [8])) tR_cs tR_G 6 [] 3 tR_A [] 0).map (·.1)=some (kB true) := by kernel_rfl
end Go.Proofs.YtjfodeihndjpjaaGreatDoor
