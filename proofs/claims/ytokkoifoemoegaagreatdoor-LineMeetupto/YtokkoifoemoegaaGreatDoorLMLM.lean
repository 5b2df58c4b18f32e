/- Part 13 of the walks and of the mathematics under them: CFlined MLM. -/
import Derived.Test.YtokkoifoemoegaaGreatDoorA12
set_option maxHeartbeats 16000000
set_option maxRecDepth 100000
/- CFlined -/
namespace Go.Proofs.YtokkoifoemoegaaGreatDoor
open Go.RowKit Cx
theorem closed_lined : Closed 13 :=
 closed_told (N := [(0,[0,0,1]),(0,[0,1,1]),(0,[0,3,1]),(3,[1,0]),(3,[2,1]),(5,[4]),(4,[5,0]),(4,[3,1]),(2,[6,7]),(5,[8]),(8,[0,5,3,9]),(8,[1,5,3,9]),(8,[2,5,3,9]),(0,[1,5,1]),(4,[10,1]),(4,[11,0]),(3,[14,15]),(4,[0,12]),(4,[1,12]),(4,[10,13]),(4,[11,13]),(3,[17,19]),(3,[18,20]),(5,[22]),(6,[23,16]),(6,[21,16]),(4,[1,1]),(4,[1,0]),(2,[26,27]),(2,[28,0]),(5,[29]),(4,[1,30]),(2,[26,26]),(6,[31,32]),(4,[33,1]),(2,[0,1]),(2,[0,0]),(2,[35,34]),(2,[36,34]),(0,[0,2,1]),(0,[1,1,1]),(0,[0,5,1]),(0,[0,1,2]),(0,[1,1,2])]) (H := [(0,5,0,0),(0,10,0,0),(0,0,0,1),(0,1,0,0),(0,16,0,0),(4,10,39,1),(4,11,40,1),(4,12,1,1),(4,24,39,1),(4,25,41,1),(4,37,42,1),(4,38,43,1)]) (K := []) (L := [([48],0),([49],1),([51],2),([45,53],13),([50],39),([45,49],40),([53],41),([49,47,50],42),([45,49,47,50],43)]) (C := [([50],39),([45,49],40),([49],1),([53],41),([49,47,50],42),([45,49,47,50],43)]) (Z := [2,2,3,5,6,6,8,7,16,16,65,65,65,4,67,67,135,67,67,69,69,137,137,137,272,272,4,4,9,12,12,14,9,23,25,5,5,31,31,3,2,4,3,3]) (cl := []) 6 (fun _ h => by cases h) (by kernel_rfl) (by kernel_rfl) (by kernel_rfl) (by kernel_rfl) (by kernel_rfl) (by kernel_rfl) (by kernel_rfl)
end Go.Proofs.YtokkoifoemoegaaGreatDoor
/- MLM -/
namespace Go.Proofs.YtokkoifoemoegaaGreatDoor
open Go.RowKit Cx
def lineMeet_N : List Nd := [(1,[0]),(1,[1]),(1,[2]),(1,[3]),(1,[4]),(1,[5]),(4,[0,4]),(4,[1,3]),(3,[6,7]),(4,[3,2]),(4,[4,2]),(4,[0,5]),(4,[1,5]),(3,[9,11]),(3,[10,12]),(4,[2,3]),(4,[2,4]),(5,[14]),(6,[17,8]),(6,[13,8]),(4,[0,18]),(4,[1,19]),(2,[20,21]),(2,[22,2]),(4,[3,18]),(4,[4,19]),(2,[24,25]),(2,[26,5])]
def lineMeet_L : List (List Nat × Nat) := []
def lineMeet_C : List (List Nat × Nat) := []
def lineMeet_Z : List Nat := [4194309,4194309,4194309,4194309,4194309,4194309,8388618,8388618,16777237,8388618,8388618,8388618,8388618,16777237,16777237,8388618,8388618,16777237,33554474,33554474,37748783,37748783,75497567,79691877,37748783,37748783,75497567,79691877]
theorem lineMeet_wf : wfB 0 lineMeet_N=true := by kernel_rfl
theorem lineMeet_sz : szB lineMeet_Z lineMeet_N lineMeet_Z=true := by kernel_rfl
theorem lineMeet_lt : litB lineMeet_N lineMeet_L=true := by kernel_rfl
theorem lineMeet_cn : canB lineMeet_N lineMeet_C=true := by kernel_rfl
def lineMeet_A : List AV := [(false,[(true,[.inr (2,0,0,0,0),.inr (2,1,0,0,0),.inr (2,2,0,0,0)])]),(false,[(true,[.inr (2,3,0,0,0),.inr (2,4,0,0,0),.inr (2,5,0,0,0)])])]
theorem lineMeet_f0 (z0 z1 z3 z4 z6 z7 z8 : Rat) : z6=z0*z4→z7=z1*z3→z8=z6-z7→(z0=0)→(¬ (z1=0))→(z3=0)→(¬ (z4=0))→z8=0 := by
 intro e6 e7 e8 u0 u1 u2 u3
 subst_vars; grind
theorem lineMeet_f1 (z0 z1 z2 z3 z4 z5 z9 z11 z13 : Rat) : z9=z3*z2→z11=z0*z5→z13=z9-z11→(z0=0)→(¬ (z1=0))→(z3=0)→(¬ (z4=0))→z13=0 := by
 intro e9 e11 e13 u0 u1 u2 u3
 subst_vars; grind
theorem lineMeet_f2 (z0 z1 z2 z3 z4 z5 z6 z7 z10 z12 z14 : Rat) : z6=z0*z4→z7=z1*z3→z10=z4*z2→z12=z1*z5→z14=z10-z12→(z0=0)→(¬ (z1=0))→(z3=0)→(¬ (z4=0))→(z14=0)→z7=z6 := by
 intro e6 e7 e10 e12 e14 u0 u1 u2 u3 u4
 rw [u4] at e14
 subst_vars; grind
theorem lineMeet_f3 (z0 z1 z2 z3 z4 z5 z10 z11 z12 z14 z15 : Rat) : z10=z4*z2→z11=z0*z5→z12=z1*z5→z14=z10-z12→z15=z2*z3→(z0=0)→(¬ (z1=0))→(z3=0)→(¬ (z4=0))→(z14=0)→z15=z11 := by
 intro e10 e11 e12 e14 e15 u0 u1 u2 u3 u4
 rw [u4] at e14
 subst_vars; grind
theorem lineMeet_f4 (z0 z1 z2 z3 z4 z5 z10 z12 z14 z16 : Rat) : z10=z4*z2→z12=z1*z5→z14=z10-z12→z16=z2*z4→(z0=0)→(¬ (z1=0))→(z3=0)→(¬ (z4=0))→(z14=0)→z16=z12 := by
 intro e10 e12 e14 e16 u0 u1 u2 u3 u4
 rw [u4] at e14
 subst_vars; grind
theorem lineMeet_f5 (z0 z1 z2 z3 z4 z5 z6 z7 z10 z12 z14 : Rat) : z6=z0*z4→z7=z1*z3→z10=z4*z2→z12=z1*z5→z14=z10-z12→(z0=0)→(¬ (z1=0))→(z3=0)→(¬ (z4=0))→(¬ (z14=0))→z7=z6 := by
 intro e6 e7 e10 e12 e14 u0 u1 u2 u3 u4
 subst_vars; grind
theorem lineMeet_f6 (z0 z1 z2 z3 z4 z5 z10 z11 z12 z14 z15 : Rat) : z10=z4*z2→z11=z0*z5→z12=z1*z5→z14=z10-z12→z15=z2*z3→(z0=0)→(¬ (z1=0))→(z3=0)→(¬ (z4=0))→(¬ (z14=0))→z15=z11 := by
 intro e10 e11 e12 e14 e15 u0 u1 u2 u3 u4
 subst_vars; grind
theorem lineMeet_f7 (z0 z1 z2 z3 z4 z5 z10 z12 z14 z16 : Rat) : z10=z4*z2→z12=z1*z5→z14=z10-z12→z16=z2*z4→(z0=0)→(¬ (z1=0))→(z3=0)→(¬ (z4=0))→(¬ (z14=0))→¬ (z16=z12) := by
 intro e10 e12 e14 e16 u0 u1 u2 u3 u4
 subst_vars; grind
theorem lineMeet_f8 (z0 z1 z3 z4 z6 z7 z8 : Rat) : z6=z0*z4→z7=z1*z3→z8=z6-z7→(z0=0)→(¬ (z1=0))→(¬ (z3=0))→¬ (z8=0) := by
 intro e6 e7 e8 u0 u1 u2
 subst_vars; grind
theorem lineMeet_f9 (z0 z1 z3 z4 z6 z7 : Rat) : z6=z0*z4→z7=z1*z3→(z0=0)→(¬ (z1=0))→(¬ (z3=0))→¬ (z7=z6) := by
 intro e6 e7 u0 u1 u2
 subst_vars; grind
theorem lineMeet_f10 (z0 z1 z2 z3 z4 z5 z6 z7 z8 z9 z10 z11 z12 z13 z14 z17 z18 z19 z20 z21 z22 z23 : Rat) : z6=z0*z4→z7=z1*z3→z8=z6-z7→z9=z3*z2→z10=z4*z2→z11=z0*z5→z12=z1*z5→z13=z9-z11→z14=z10-z12→z17=-z14→z18=z17/z8→z19=z13/z8→z20=z0*z18→z21=z1*z19→z22=z20+z21→z23=z22+z2→(z0=0)→(¬ (z1=0))→(¬ (z3=0))→z23=0 := by
 intro e6 e7 e8 e9 e10 e11 e12 e13 e14 e17 e18 e19 e20 e21 e22 e23 u0 u1 u2
 have n8 : z8 ≠ 0 := by grind
 subst_vars; grind
theorem lineMeet_f11 (z0 z1 z2 z3 z4 z5 z6 z7 z8 z9 z10 z11 z12 z13 z14 z17 z18 z19 z24 z25 z26 z27 : Rat) : z6=z0*z4→z7=z1*z3→z8=z6-z7→z9=z3*z2→z10=z4*z2→z11=z0*z5→z12=z1*z5→z13=z9-z11→z14=z10-z12→z17=-z14→z18=z17/z8→z19=z13/z8→z24=z3*z18→z25=z4*z19→z26=z24+z25→z27=z26+z5→(z0=0)→(¬ (z1=0))→(¬ (z3=0))→z27=0 := by
 intro e6 e7 e8 e9 e10 e11 e12 e13 e14 e17 e18 e19 e24 e25 e26 e27 u0 u1 u2
 have n8 : z8 ≠ 0 := by grind
 subst_vars; grind
theorem lineMeet_f12 (z0 z1 z3 z4 z6 z7 z8 : Rat) : z6=z0*z4→z7=z1*z3→z8=z6-z7→(¬ (z0=0))→(z3=0)→(¬ (z4=0))→¬ (z8=0) := by
 intro e6 e7 e8 u0 u1 u2
 subst_vars; grind
theorem lineMeet_f13 (z0 z1 z3 z4 z6 z7 : Rat) : z6=z0*z4→z7=z1*z3→(¬ (z0=0))→(z3=0)→(¬ (z4=0))→¬ (z7=z6) := by
 intro e6 e7 u0 u1 u2
 subst_vars; grind
theorem lineMeet_f14 (z0 z1 z2 z3 z4 z5 z6 z7 z8 z9 z10 z11 z12 z13 z14 z17 z18 z19 z20 z21 z22 z23 : Rat) : z6=z0*z4→z7=z1*z3→z8=z6-z7→z9=z3*z2→z10=z4*z2→z11=z0*z5→z12=z1*z5→z13=z9-z11→z14=z10-z12→z17=-z14→z18=z17/z8→z19=z13/z8→z20=z0*z18→z21=z1*z19→z22=z20+z21→z23=z22+z2→(¬ (z0=0))→(z3=0)→(¬ (z4=0))→z23=0 := by
 intro e6 e7 e8 e9 e10 e11 e12 e13 e14 e17 e18 e19 e20 e21 e22 e23 u0 u1 u2
 have n8 : z8 ≠ 0 := by grind
 subst_vars; grind
theorem lineMeet_f15 (z0 z1 z2 z3 z4 z5 z6 z7 z8 z9 z10 z11 z12 z13 z14 z17 z18 z19 z24 z25 z26 z27 : Rat) : z6=z0*z4→z7=z1*z3→z8=z6-z7→z9=z3*z2→z10=z4*z2→z11=z0*z5→z12=z1*z5→z13=z9-z11→z14=z10-z12→z17=-z14→z18=z17/z8→z19=z13/z8→z24=z3*z18→z25=z4*z19→z26=z24+z25→z27=z26+z5→(¬ (z0=0))→(z3=0)→(¬ (z4=0))→z27=0 := by
 intro e6 e7 e8 e9 e10 e11 e12 e13 e14 e17 e18 e19 e24 e25 e26 e27 u0 u1 u2
 have n8 : z8 ≠ 0 := by grind
 subst_vars; grind
theorem lineMeet_f16 (z0 z1 z2 z3 z4 z5 z6 z7 z8 z9 z10 z11 z12 z13 z14 : Rat) : z6=z0*z4→z7=z1*z3→z8=z6-z7→z9=z3*z2→z10=z4*z2→z11=z0*z5→z12=z1*z5→z13=z9-z11→z14=z10-z12→(¬ (z0=0))→(¬ (z3=0))→(z8=0)→(z13=0)→z14=0 := by
 intro e6 e7 e8 e9 e10 e11 e12 e13 e14 u0 u1 u2 u3
 rw [u2] at e8
 rw [u3] at e13
 subst_vars; grind
theorem lineMeet_f17 (z0 z1 z2 z3 z4 z5 z6 z7 z8 z9 z11 z13 : Rat) : z6=z0*z4→z7=z1*z3→z8=z6-z7→z9=z3*z2→z11=z0*z5→z13=z9-z11→(¬ (z0=0))→(¬ (z3=0))→(z8=0)→(z13=0)→z7=z6 := by
 intro e6 e7 e8 e9 e11 e13 u0 u1 u2 u3
 rw [u2] at e8
 rw [u3] at e13
 subst_vars; grind
theorem lineMeet_f18 (z0 z1 z2 z3 z4 z5 z6 z7 z8 z9 z11 z13 z15 : Rat) : z6=z0*z4→z7=z1*z3→z8=z6-z7→z9=z3*z2→z11=z0*z5→z13=z9-z11→z15=z2*z3→(¬ (z0=0))→(¬ (z3=0))→(z8=0)→(z13=0)→z15=z11 := by
 intro e6 e7 e8 e9 e11 e13 e15 u0 u1 u2 u3
 rw [u2] at e8
 rw [u3] at e13
 subst_vars; grind
theorem lineMeet_f19 (z0 z1 z2 z3 z4 z5 z6 z7 z8 z9 z11 z12 z13 z16 : Rat) : z6=z0*z4→z7=z1*z3→z8=z6-z7→z9=z3*z2→z11=z0*z5→z12=z1*z5→z13=z9-z11→z16=z2*z4→(¬ (z0=0))→(¬ (z3=0))→(z8=0)→(z13=0)→z16=z12 := by
 intro e6 e7 e8 e9 e11 e12 e13 e16 u0 u1 u2 u3
 rw [u2] at e8
 rw [u3] at e13
 subst_vars; grind
theorem lineMeet_f20 (z0 z1 z2 z3 z4 z5 z6 z7 z8 z9 z11 z13 : Rat) : z6=z0*z4→z7=z1*z3→z8=z6-z7→z9=z3*z2→z11=z0*z5→z13=z9-z11→(¬ (z0=0))→(¬ (z3=0))→(z8=0)→(¬ (z13=0))→z7=z6 := by
 intro e6 e7 e8 e9 e11 e13 u0 u1 u2 u3
 rw [u2] at e8
 subst_vars; grind
theorem lineMeet_f21 (z0 z1 z2 z3 z4 z5 z6 z7 z8 z9 z11 z13 z15 : Rat) : z6=z0*z4→z7=z1*z3→z8=z6-z7→z9=z3*z2→z11=z0*z5→z13=z9-z11→z15=z2*z3→(¬ (z0=0))→(¬ (z3=0))→(z8=0)→(¬ (z13=0))→¬ (z15=z11) := by
 intro e6 e7 e8 e9 e11 e13 e15 u0 u1 u2 u3
 rw [u2] at e8
 subst_vars; grind
theorem lineMeet_f22 (z0 z1 z3 z4 z6 z7 z8 : Rat) : z6=z0*z4→z7=z1*z3→z8=z6-z7→(¬ (z0=0))→(¬ (z3=0))→(¬ (z8=0))→¬ (z7=z6) := by
 intro e6 e7 e8 u0 u1 u2
 subst_vars; grind
theorem lineMeet_f23 (z0 z1 z2 z3 z4 z5 z6 z7 z8 z9 z10 z11 z12 z13 z14 z17 z18 z19 z20 z21 z22 z23 : Rat) : z6=z0*z4→z7=z1*z3→z8=z6-z7→z9=z3*z2→z10=z4*z2→z11=z0*z5→z12=z1*z5→z13=z9-z11→z14=z10-z12→z17=-z14→z18=z17/z8→z19=z13/z8→z20=z0*z18→z21=z1*z19→z22=z20+z21→z23=z22+z2→(¬ (z0=0))→(¬ (z3=0))→(¬ (z8=0))→z23=0 := by
 intro e6 e7 e8 e9 e10 e11 e12 e13 e14 e17 e18 e19 e20 e21 e22 e23 u0 u1 u2
 have n8 : z8 ≠ 0 := by grind
 subst_vars; grind
theorem lineMeet_f24 (z0 z1 z2 z3 z4 z5 z6 z7 z8 z9 z10 z11 z12 z13 z14 z17 z18 z19 z24 z25 z26 z27 : Rat) : z6=z0*z4→z7=z1*z3→z8=z6-z7→z9=z3*z2→z10=z4*z2→z11=z0*z5→z12=z1*z5→z13=z9-z11→z14=z10-z12→z17=-z14→z18=z17/z8→z19=z13/z8→z24=z3*z18→z25=z4*z19→z26=z24+z25→z27=z26+z5→(¬ (z0=0))→(¬ (z3=0))→(¬ (z8=0))→z27=0 := by
 intro e6 e7 e8 e9 e10 e11 e12 e13 e14 e17 e18 e19 e24 e25 e26 e27 u0 u1 u2
 have n8 : z8 ≠ 0 := by grind
 subst_vars; grind
theorem lineMeet_r0 : (callB (sx Tryz.prog lineMeet_N [(0,0,0,1),(0,1,0,1)] [] lineMeet_L lineMeet_C lineMeet_Z (prC [13])) 5 4 lineMeet_A [] 0).map (·.1)=some (kB true) := by kernel_rfl
theorem lineMeet_r1 : (callB (sx Tryz.prog lineMeet_N [(0,0,0,1),(0,1,0,0),(0,3,0,1),(0,4,0,1)] [] lineMeet_L lineMeet_C lineMeet_Z (prC [13])) 5 4 lineMeet_A [] 0).map (·.1)=some (kB true) := by kernel_rfl
theorem lineMeet_r2 : (callB (sx Tryz.prog lineMeet_N [(0,0,0,1),(0,1,0,0),(0,3,0,1),(0,4,0,0),(0,8,0,1),(0,13,0,1),(0,14,0,1),(3,7,6,1),(3,15,11,1),(3,16,12,1)] [] lineMeet_L lineMeet_C lineMeet_Z (prC [13])) 5 4 lineMeet_A [] 0).map (·.1)=some (kB true) := by kernel_rfl
theorem lineMeet_r3 : (callB (sx Tryz.prog lineMeet_N [(0,0,0,1),(0,1,0,0),(0,3,0,1),(0,4,0,0),(0,8,0,1),(0,13,0,1),(0,14,0,0),(3,7,6,1),(3,15,11,1),(3,16,12,0)] [] lineMeet_L lineMeet_C lineMeet_Z (prC [13])) 5 4 lineMeet_A [] 0).map (·.1)=some (kB true) := by kernel_rfl
theorem lineMeet_r4 : (callB (sx Tryz.prog lineMeet_N [(0,0,0,1),(0,1,0,0),(0,3,0,0),(0,8,0,0),(3,7,6,0),(0,23,0,1),(0,27,0,1)] [] lineMeet_L lineMeet_C lineMeet_Z (prC [13])) 5 4 lineMeet_A [] 0).map (·.1)=some (kB true) := by kernel_rfl
theorem lineMeet_r5 : (callB (sx Tryz.prog lineMeet_N [(0,0,0,0),(0,3,0,1),(0,4,0,1)] [] lineMeet_L lineMeet_C lineMeet_Z (prC [13])) 5 4 lineMeet_A [] 0).map (·.1)=some (kB true) := by kernel_rfl
theorem lineMeet_r6 : (callB (sx Tryz.prog lineMeet_N [(0,0,0,0),(0,3,0,1),(0,4,0,0),(0,8,0,0),(3,7,6,0),(0,23,0,1),(0,27,0,1)] [] lineMeet_L lineMeet_C lineMeet_Z (prC [13])) 5 4 lineMeet_A [] 0).map (·.1)=some (kB true) := by kernel_rfl
theorem lineMeet_r7 : (callB (sx Tryz.prog lineMeet_N [(0,0,0,0),(0,3,0,0),(0,8,0,1),(0,13,0,1),(0,14,0,1),(3,7,6,1),(3,15,11,1),(3,16,12,1)] [] lineMeet_L lineMeet_C lineMeet_Z (prC [13])) 5 4 lineMeet_A [] 0).map (·.1)=some (kB true) := by kernel_rfl
theorem lineMeet_r8 : (callB (sx Tryz.prog lineMeet_N [(0,0,0,0),(0,3,0,0),(0,8,0,1),(0,13,0,0),(3,7,6,1),(3,15,11,0)] [] lineMeet_L lineMeet_C lineMeet_Z (prC [13])) 5 4 lineMeet_A [] 0).map (·.1)=some (kB true) := by kernel_rfl
theorem lineMeet_r9 : (callB (sx Tryz.prog lineMeet_N [(0,0,0,0),(0,3,0,0),(0,8,0,0),(3,7,6,0),(0,23,0,1),(0,27,0,1)] [] lineMeet_L lineMeet_C lineMeet_Z (prC [13])) 5 4 lineMeet_A [] 0).map (·.1)=some (kB true) := by kernel_rfl
theorem lineMeet_An {a b : Prop} (x : a) (y : b) : a∧b := ⟨x,y⟩
theorem lineMeet_leaf {H : List (Nat × Nat × Nat × Nat)} {K : List (FuncId × List AC)} {k : Nat} {q : Nat→Rat} {σ : Nat→ByteArray} {args : List AV} {vs : List Value} {w : World} (hr : (callB (sx Tryz.prog lineMeet_N H K lineMeet_L lineMeet_C lineMeet_Z (prC [13])) k 4 args [] 0).map (·.1)=some (kB true)) (hσ : ∀ j,(σ j).size≤1048576) (hq : ∀ (a : Nat) nd,lineMeet_N[a]? = some nd→q a=valN σ q nd) (h0 : ∀ a,lineMeet_N.length≤a→q a=0) (hH : hAll q H) (hp : PreS w) (hA : ∀ K,A2 (avOn (cOn (evS q σ) K (fun _ => none) w)) args vs) : Calls Tryz.prog 4 vs.toArray w fun e w' => Below w.heap.size w w'∧e=.returned (.bool true) :=
 run_told' k (hy_of hσ lineMeet_wf lineMeet_sz lineMeet_lt lineMeet_cn hq h0 hH) (by simp [closed_lined]) (by kernel_rfl) hr hp (hA K)
theorem lineMeet_walk {w : World} {la lb lc ka kb kc : ByteArray}  (sla : la.size≤1048576) (slb : lb.size≤1048576) (slc : lc.size≤1048576) (ska : ka.size≤1048576) (skb : kb.size≤1048576) (skc : kc.size≤1048576) (tab : Tab w) (mx : MaxL w) :
  Calls Tryz.prog 4 #[.agg #[.string la,.string lb,.string lc],.agg #[.string ka,.string kb,.string kc]] w fun e w' => Below w.heap.size w w'∧e=.returned (.bool true) := by
 have hσ : ∀ j,(sgOf [la,lb,lc,ka,kb,kc] j).size≤1048576 := sgOf_size (by simp [sla,slb,slc,ska,skb,skc])
 obtain ⟨q,hq,h0⟩ := nodes_exist (sgOf [la,lb,lc,ka,kb,kc]) lineMeet_N lineMeet_wf
 have hA : ∀ K,A2 (avOn (cOn (evS q (sgOf [la,lb,lc,ka,kb,kc])) K (fun _ => none) w)) [(false,[(true,[.inr (2,0,0,0,0),.inr (2,1,0,0,0),.inr (2,2,0,0,0)])]),(false,[(true,[.inr (2,3,0,0,0),.inr (2,4,0,0,0),.inr (2,5,0,0,0)])])] [.agg #[.string la,.string lb,.string lc],.agg #[.string ka,.string kb,.string kc]] := fun K => ⟨⟨⟨[.string la,.string lb,.string lc],rfl,rfl,rfl,rfl,trivial⟩,trivial⟩,⟨⟨[.string ka,.string kb,.string kc],rfl,rfl,rfl,rfl,trivial⟩,trivial⟩,trivial⟩
 by_cases b0 : q 0=0
 ·
  by_cases b1 : q 1=0
  ·
   exact lineMeet_leaf lineMeet_r0 hσ hq h0 (lineMeet_An (hT b0) (lineMeet_An (hT b1) trivial)) ⟨tab,mx⟩ hA
  ·
   by_cases b3 : q 3=0
   ·
    by_cases b4 : q 4=0
    ·
     exact lineMeet_leaf lineMeet_r1 hσ hq h0 (lineMeet_An (hT b0) (lineMeet_An (hF b1) (lineMeet_An (hT b3) (lineMeet_An (hT b4) trivial)))) ⟨tab,mx⟩ hA
    ·
     have b8 : q 8=0 := lineMeet_f0 (q 0) (q 1) (q 3) (q 4) (q 6) (q 7) (q 8) (hq 6 _ rfl) (hq 7 _ rfl) (hq 8 _ rfl) b0 b1 b3 b4
     have b13 : q 13=0 := lineMeet_f1 (q 0) (q 1) (q 2) (q 3) (q 4) (q 5) (q 9) (q 11) (q 13) (hq 9 _ rfl) (hq 11 _ rfl) (hq 13 _ rfl) b0 b1 b3 b4
     by_cases b14 : q 14=0
     ·
      have a_3_7_6 : q 7=q 6 := lineMeet_f2 (q 0) (q 1) (q 2) (q 3) (q 4) (q 5) (q 6) (q 7) (q 10) (q 12) (q 14) (hq 6 _ rfl) (hq 7 _ rfl) (hq 10 _ rfl) (hq 12 _ rfl) (hq 14 _ rfl) b0 b1 b3 b4 b14
      have a_3_15_11 : q 15=q 11 := lineMeet_f3 (q 0) (q 1) (q 2) (q 3) (q 4) (q 5) (q 10) (q 11) (q 12) (q 14) (q 15) (hq 10 _ rfl) (hq 11 _ rfl) (hq 12 _ rfl) (hq 14 _ rfl) (hq 15 _ rfl) b0 b1 b3 b4 b14
      have a_3_16_12 : q 16=q 12 := lineMeet_f4 (q 0) (q 1) (q 2) (q 3) (q 4) (q 5) (q 10) (q 12) (q 14) (q 16) (hq 10 _ rfl) (hq 12 _ rfl) (hq 14 _ rfl) (hq 16 _ rfl) b0 b1 b3 b4 b14
      exact lineMeet_leaf lineMeet_r2 hσ hq h0 (lineMeet_An (hT b0) (lineMeet_An (hF b1) (lineMeet_An (hT b3) (lineMeet_An (hF b4) (lineMeet_An (hT b8) (lineMeet_An (hT b13) (lineMeet_An (hT b14) (lineMeet_An (hT a_3_7_6) (lineMeet_An (hT a_3_15_11) (lineMeet_An (hT a_3_16_12) trivial)))))))))) ⟨tab,mx⟩ hA
     ·
      have a_3_7_6 : q 7=q 6 := lineMeet_f5 (q 0) (q 1) (q 2) (q 3) (q 4) (q 5) (q 6) (q 7) (q 10) (q 12) (q 14) (hq 6 _ rfl) (hq 7 _ rfl) (hq 10 _ rfl) (hq 12 _ rfl) (hq 14 _ rfl) b0 b1 b3 b4 b14
      have a_3_15_11 : q 15=q 11 := lineMeet_f6 (q 0) (q 1) (q 2) (q 3) (q 4) (q 5) (q 10) (q 11) (q 12) (q 14) (q 15) (hq 10 _ rfl) (hq 11 _ rfl) (hq 12 _ rfl) (hq 14 _ rfl) (hq 15 _ rfl) b0 b1 b3 b4 b14
      have a_3_16_12 : ¬ (q 16=q 12) := lineMeet_f7 (q 0) (q 1) (q 2) (q 3) (q 4) (q 5) (q 10) (q 12) (q 14) (q 16) (hq 10 _ rfl) (hq 12 _ rfl) (hq 14 _ rfl) (hq 16 _ rfl) b0 b1 b3 b4 b14
      exact lineMeet_leaf lineMeet_r3 hσ hq h0 (lineMeet_An (hT b0) (lineMeet_An (hF b1) (lineMeet_An (hT b3) (lineMeet_An (hF b4) (lineMeet_An (hT b8) (lineMeet_An (hT b13) (lineMeet_An (hF b14) (lineMeet_An (hT a_3_7_6) (lineMeet_An (hT a_3_15_11) (lineMeet_An (hF a_3_16_12) trivial)))))))))) ⟨tab,mx⟩ hA
   ·
    have b8 : ¬ (q 8=0) := lineMeet_f8 (q 0) (q 1) (q 3) (q 4) (q 6) (q 7) (q 8) (hq 6 _ rfl) (hq 7 _ rfl) (hq 8 _ rfl) b0 b1 b3
    have a_3_7_6 : ¬ (q 7=q 6) := lineMeet_f9 (q 0) (q 1) (q 3) (q 4) (q 6) (q 7) (hq 6 _ rfl) (hq 7 _ rfl) b0 b1 b3
    have b23 : q 23=0 := lineMeet_f10 (q 0) (q 1) (q 2) (q 3) (q 4) (q 5) (q 6) (q 7) (q 8) (q 9) (q 10) (q 11) (q 12) (q 13) (q 14) (q 17) (q 18) (q 19) (q 20) (q 21) (q 22) (q 23) (hq 6 _ rfl) (hq 7 _ rfl) (hq 8 _ rfl) (hq 9 _ rfl) (hq 10 _ rfl) (hq 11 _ rfl) (hq 12 _ rfl) (hq 13 _ rfl) (hq 14 _ rfl) (hq 17 _ rfl) (hq 18 _ rfl) (hq 19 _ rfl) (hq 20 _ rfl) (hq 21 _ rfl) (hq 22 _ rfl) (hq 23 _ rfl) b0 b1 b3
    have b27 : q 27=0 := lineMeet_f11 (q 0) (q 1) (q 2) (q 3) (q 4) (q 5) (q 6) (q 7) (q 8) (q 9) (q 10) (q 11) (q 12) (q 13) (q 14) (q 17) (q 18) (q 19) (q 24) (q 25) (q 26) (q 27) (hq 6 _ rfl) (hq 7 _ rfl) (hq 8 _ rfl) (hq 9 _ rfl) (hq 10 _ rfl) (hq 11 _ rfl) (hq 12 _ rfl) (hq 13 _ rfl) (hq 14 _ rfl) (hq 17 _ rfl) (hq 18 _ rfl) (hq 19 _ rfl) (hq 24 _ rfl) (hq 25 _ rfl) (hq 26 _ rfl) (hq 27 _ rfl) b0 b1 b3
    exact lineMeet_leaf lineMeet_r4 hσ hq h0 (lineMeet_An (hT b0) (lineMeet_An (hF b1) (lineMeet_An (hF b3) (lineMeet_An (hF b8) (lineMeet_An (hF a_3_7_6) (lineMeet_An (hT b23) (lineMeet_An (hT b27) trivial))))))) ⟨tab,mx⟩ hA
 ·
  by_cases b3 : q 3=0
  ·
   by_cases b4 : q 4=0
   ·
    exact lineMeet_leaf lineMeet_r5 hσ hq h0 (lineMeet_An (hF b0) (lineMeet_An (hT b3) (lineMeet_An (hT b4) trivial))) ⟨tab,mx⟩ hA
   ·
    have b8 : ¬ (q 8=0) := lineMeet_f12 (q 0) (q 1) (q 3) (q 4) (q 6) (q 7) (q 8) (hq 6 _ rfl) (hq 7 _ rfl) (hq 8 _ rfl) b0 b3 b4
    have a_3_7_6 : ¬ (q 7=q 6) := lineMeet_f13 (q 0) (q 1) (q 3) (q 4) (q 6) (q 7) (hq 6 _ rfl) (hq 7 _ rfl) b0 b3 b4
    have b23 : q 23=0 := lineMeet_f14 (q 0) (q 1) (q 2) (q 3) (q 4) (q 5) (q 6) (q 7) (q 8) (q 9) (q 10) (q 11) (q 12) (q 13) (q 14) (q 17) (q 18) (q 19) (q 20) (q 21) (q 22) (q 23) (hq 6 _ rfl) (hq 7 _ rfl) (hq 8 _ rfl) (hq 9 _ rfl) (hq 10 _ rfl) (hq 11 _ rfl) (hq 12 _ rfl) (hq 13 _ rfl) (hq 14 _ rfl) (hq 17 _ rfl) (hq 18 _ rfl) (hq 19 _ rfl) (hq 20 _ rfl) (hq 21 _ rfl) (hq 22 _ rfl) (hq 23 _ rfl) b0 b3 b4
    have b27 : q 27=0 := lineMeet_f15 (q 0) (q 1) (q 2) (q 3) (q 4) (q 5) (q 6) (q 7) (q 8) (q 9) (q 10) (q 11) (q 12) (q 13) (q 14) (q 17) (q 18) (q 19) (q 24) (q 25) (q 26) (q 27) (hq 6 _ rfl) (hq 7 _ rfl) (hq 8 _ rfl) (hq 9 _ rfl) (hq 10 _ rfl) (hq 11 _ rfl) (hq 12 _ rfl) (hq 13 _ rfl) (hq 14 _ rfl) (hq 17 _ rfl) (hq 18 _ rfl) (hq 19 _ rfl) (hq 24 _ rfl) (hq 25 _ rfl) (hq 26 _ rfl) (hq 27 _ rfl) b0 b3 b4
    exact lineMeet_leaf lineMeet_r6 hσ hq h0 (lineMeet_An (hF b0) (lineMeet_An (hT b3) (lineMeet_An (hF b4) (lineMeet_An (hF b8) (lineMeet_An (hF a_3_7_6) (lineMeet_An (hT b23) (lineMeet_An (hT b27) trivial))))))) ⟨tab,mx⟩ hA
  ·
   by_cases b8 : q 8=0
   ·
    by_cases b13 : q 13=0
    ·
     have b14 : q 14=0 := lineMeet_f16 (q 0) (q 1) (q 2) (q 3) (q 4) (q 5) (q 6) (q 7) (q 8) (q 9) (q 10) (q 11) (q 12) (q 13) (q 14) (hq 6 _ rfl) (hq 7 _ rfl) (hq 8 _ rfl) (hq 9 _ rfl) (hq 10 _ rfl) (hq 11 _ rfl) (hq 12 _ rfl) (hq 13 _ rfl) (hq 14 _ rfl) b0 b3 b8 b13
     have a_3_7_6 : q 7=q 6 := lineMeet_f17 (q 0) (q 1) (q 2) (q 3) (q 4) (q 5) (q 6) (q 7) (q 8) (q 9) (q 11) (q 13) (hq 6 _ rfl) (hq 7 _ rfl) (hq 8 _ rfl) (hq 9 _ rfl) (hq 11 _ rfl) (hq 13 _ rfl) b0 b3 b8 b13
     have a_3_15_11 : q 15=q 11 := lineMeet_f18 (q 0) (q 1) (q 2) (q 3) (q 4) (q 5) (q 6) (q 7) (q 8) (q 9) (q 11) (q 13) (q 15) (hq 6 _ rfl) (hq 7 _ rfl) (hq 8 _ rfl) (hq 9 _ rfl) (hq 11 _ rfl) (hq 13 _ rfl) (hq 15 _ rfl) b0 b3 b8 b13
     have a_3_16_12 : q 16=q 12 := lineMeet_f19 (q 0) (q 1) (q 2) (q 3) (q 4) (q 5) (q 6) (q 7) (q 8) (q 9) (q 11) (q 12) (q 13) (q 16) (hq 6 _ rfl) (hq 7 _ rfl) (hq 8 _ rfl) (hq 9 _ rfl) (hq 11 _ rfl) (hq 12 _ rfl) (hq 13 _ rfl) (hq 16 _ rfl) b0 b3 b8 b13
     exact lineMeet_leaf lineMeet_r7 hσ hq h0 (lineMeet_An (hF b0) (lineMeet_An (hF b3) (lineMeet_An (hT b8) (lineMeet_An (hT b13) (lineMeet_An (hT b14) (lineMeet_An (hT a_3_7_6) (lineMeet_An (hT a_3_15_11) (lineMeet_An (hT a_3_16_12) trivial)))))))) ⟨tab,mx⟩ hA
    ·
     have a_3_7_6 : q 7=q 6 := lineMeet_f20 (q 0) (q 1) (q 2) (q 3) (q 4) (q 5) (q 6) (q 7) (q 8) (q 9) (q 11) (q 13) (hq 6 _ rfl) (hq 7 _ rfl) (hq 8 _ rfl) (hq 9 _ rfl) (hq 11 _ rfl) (hq 13 _ rfl) b0 b3 b8 b13
     have a_3_15_11 : ¬ (q 15=q 11) := lineMeet_f21 (q 0) (q 1) (q 2) (q 3) (q 4) (q 5) (q 6) (q 7) (q 8) (q 9) (q 11) (q 13) (q 15) (hq 6 _ rfl) (hq 7 _ rfl) (hq 8 _ rfl) (hq 9 _ rfl) (hq 11 _ rfl) (hq 13 _ rfl) (hq 15 _ rfl) b0 b3 b8 b13
     exact lineMeet_leaf lineMeet_r8 hσ hq h0 (lineMeet_An (hF b0) (lineMeet_An (hF b3) (lineMeet_An (hT b8) (lineMeet_An (hF b13) (lineMeet_An (hT a_3_7_6) (lineMeet_An (hF a_3_15_11) trivial)))))) ⟨tab,mx⟩ hA
   ·
    have a_3_7_6 : ¬ (q 7=q 6) := lineMeet_f22 (q 0) (q 1) (q 3) (q 4) (q 6) (q 7) (q 8) (hq 6 _ rfl) (hq 7 _ rfl) (hq 8 _ rfl) b0 b3 b8
    have b23 : q 23=0 := lineMeet_f23 (q 0) (q 1) (q 2) (q 3) (q 4) (q 5) (q 6) (q 7) (q 8) (q 9) (q 10) (q 11) (q 12) (q 13) (q 14) (q 17) (q 18) (q 19) (q 20) (q 21) (q 22) (q 23) (hq 6 _ rfl) (hq 7 _ rfl) (hq 8 _ rfl) (hq 9 _ rfl) (hq 10 _ rfl) (hq 11 _ rfl) (hq 12 _ rfl) (hq 13 _ rfl) (hq 14 _ rfl) (hq 17 _ rfl) (hq 18 _ rfl) (hq 19 _ rfl) (hq 20 _ rfl) (hq 21 _ rfl) (hq 22 _ rfl) (hq 23 _ rfl) b0 b3 b8
    have b27 : q 27=0 := lineMeet_f24 (q 0) (q 1) (q 2) (q 3) (q 4) (q 5) (q 6) (q 7) (q 8) (q 9) (q 10) (q 11) (q 12) (q 13) (q 14) (q 17) (q 18) (q 19) (q 24) (q 25) (q 26) (q 27) (hq 6 _ rfl) (hq 7 _ rfl) (hq 8 _ rfl) (hq 9 _ rfl) (hq 10 _ rfl) (hq 11 _ rfl) (hq 12 _ rfl) (hq 13 _ rfl) (hq 14 _ rfl) (hq 17 _ rfl) (hq 18 _ rfl) (hq 19 _ rfl) (hq 24 _ rfl) (hq 25 _ rfl) (hq 26 _ rfl) (hq 27 _ rfl) b0 b3 b8
    exact lineMeet_leaf lineMeet_r9 hσ hq h0 (lineMeet_An (hF b0) (lineMeet_An (hF b3) (lineMeet_An (hF b8) (lineMeet_An (hF a_3_7_6) (lineMeet_An (hT b23) (lineMeet_An (hT b27) trivial)))))) ⟨tab,mx⟩ hA
end Go.Proofs.YtokkoifoemoegaaGreatDoor
