/- Runs of the law, part 2. -/
import Derived.Test.YtjfodeihndjpjaaGreatDoorLMTRA
set_option maxHeartbeats 16000000
set_option maxRecDepth 100000
namespace Go.Proofs.YtjfodeihndjpjaaGreatDoor
open Go.RowKit Cx
theorem tR_r1 : (callD (sx Tryz.prog tR_N tR_H1 [(120,[.inr (3,28,0,0,0),.inr (3,38,0,0,0)]),(70,[])] tR_L tR_C tR_Z (prC [8])) tR_cs tR_G 7 [] 3 tR_A [] 0).map (·.1)=some (kB true) := by kernel_rfl
theorem tR_r4 : (callD (sx Tryz.prog tR_N tR_H4 [(120,[.inr (3,28,0,0,0),.inr (3,38,0,0,0)]),(70,[])] tR_L tR_C tR_Z (prC [8])) tR_cs tR_G 7 [] 3 tR_A [] 0).map (·.1)=some (kB true) := by kernel_rfl
theorem tR_r7 : (callD (sx Tryz.prog tR_N tR_H7 [(120,[.inr (3,28,0,0,0),.inr (3,38,0,0,0)]),(70,[])] tR_L tR_C tR_Z (prC [8])) tR_cs tR_G 7 [] 3 tR_A [] 0).map (·.1)=some (kB true) := by kernel_rfl
theorem tR_r10 : (callD (sx Tryz.prog tR_N tR_H10 [(120,[.inr (3,28,0,0,0),.inr (3,38,0,0,0)]),(70,[])] tR_L tR_C tR_Z (prC [8])) tR_cs tR_G 7 [] 3 tR_A [] 0).map (·.1)=some (kB true) := by kernel_rfl
theorem tR_r13 : (callD (sx Tryz.prog tR_N tR_H13 [(120,[.inr (3,28,0,0,0),.inr (3,38,0,0,0)]),(70,[])] tR_L tR_C tR_Z (prC [8])) tR_cs tR_G 7 [] 3 tR_A [] 0).map (·.1)=some (kB true) := by kernel_rfl
theorem tR_r16 : (callD (sx Tryz.prog tR_N tR_H16 [(120,[.inr (3,28,0,0,0),.inr (3,38,0,0,0)]),(70,[])] tR_L tR_C tR_Z (prC [8])) tR_cs tR_G 7 [] 3 tR_A [] 0).map (·.1)=some (kB true) := by kernel_rfl
theorem tR_r19 : (callD (sx Tryz.prog tR_N tR_H19 [(120,[.inr (3,28,0,0,0),.inr (3,38,0,0,0)]),(70,[])] tR_L tR_C tR_Z (prC [8])) tR_cs tR_G 7 [] 3 tR_A [] 0).map (·.1)=some (kB true) := by kernel_rfl
theorem tR_r22 : (callD (sx Tryz.prog tR_N tR_H22 [(120,[.inr (3,28,0,0,0),.inr (3,38,0,0,0)]),(70,[])] tR_L tR_C tR_Z (prC [8])) tR_cs tR_G 7 [] 3 tR_A [] 0).map (·.1)=some (kB true) := by kernel_rfl
theorem tR_r25 : (callD (sx Tryz.prog tR_N tR_H25 [(120,[.inr (3,28,0,0,0),.inr (3,38,0,0,0)]),(70,[])] tR_L tR_C tR_Z (prC [8])) tR_cs tR_G 7 [] 3 tR_A [] 0).map (·.1)=some (kB true) := by kernel_rfl
theorem tR_r28 : (callD (sx Tryz.prog tR_N tR_H28 [(120,[.inr (3,28,0,0,0),.inr (3,38,0,0,0)]),(70,[])] tR_L tR_C tR_Z (prC [8])) tR_cs tR_G 7 [] 3 tR_A [] 0).map (·.1)=some (kB true) := by kernel_rfl
theorem tR_r31 : (callD (sx Tryz.prog tR_N tR_H31 [(120,[.inr (3,28,0,0,0),.inr (3,38,0,0,0)]),(70,[])] tR_L tR_C tR_Z (prC [8])) tR_cs tR_G 7 [] 3 tR_A [] 0).map (·.1)=some (kB true) := by kernel_rfl
theorem tR_r34 : (callD (sx Tryz.prog tR_N tR_H34 [] tR_L tR_C tR_Z (prC [8])) tR_cs tR_G 6 [] 3 tR_A [] 0).map (·.1)=some (kB true) := by kernel_rfl
end Go.Proofs.YtjfodeihndjpjaaGreatDoor
