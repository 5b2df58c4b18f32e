/- Part 13 of the walks and of the mathematics under them: CFlined MLP. -/
import Derived.Test.YtdgpmheeiaajkaaGreatDoorA12
set_option maxHeartbeats 16000000
set_option maxRecDepth 100000
/- CFlined -/
namespace Go.Proofs.YtdgpmheeiaajkaaGreatDoor
open Go.RowKit Cx
theorem closed_lined : Closed 62 :=
 closed_told (N := [(0,[0,0,1]),(0,[0,1,1]),(0,[0,3,1]),(3,[1,0]),(3,[2,1]),(5,[4]),(4,[5,0]),(4,[3,1]),(2,[6,7]),(5,[8]),(8,[0,5,3,9]),(8,[1,5,3,9]),(8,[2,5,3,9]),(0,[1,5,1]),(4,[10,1]),(4,[11,0]),(3,[14,15]),(4,[0,12]),(4,[1,12]),(4,[10,13]),(4,[11,13]),(3,[17,19]),(3,[18,20]),(5,[22]),(6,[23,16]),(6,[21,16]),(4,[1,1]),(4,[1,0]),(2,[26,27]),(2,[28,0]),(5,[29]),(4,[1,30]),(2,[26,26]),(6,[31,32]),(4,[33,1]),(2,[0,1]),(2,[0,0]),(2,[35,34]),(2,[36,34]),(0,[0,2,1]),(0,[1,1,1]),(0,[0,5,1]),(0,[0,1,2]),(0,[1,1,2])]) (H := [(0,5,0,0),(0,10,0,0),(0,0,0,1),(0,1,0,0),(0,16,0,0),(4,10,39,1),(4,11,40,1),(4,12,1,1),(4,24,39,1),(4,25,41,1),(4,37,42,1),(4,38,43,1)]) (K := []) (L := [([48],0),([49],1),([51],2),([45,53],13),([50],39),([45,49],40),([53],41),([49,47,50],42),([45,49,47,50],43)]) (C := [([50],39),([45,49],40),([49],1),([53],41),([49,47,50],42),([45,49,47,50],43)]) (Z := [2,2,3,5,6,6,8,7,16,16,65,65,65,4,67,67,135,67,67,69,69,137,137,137,272,272,4,4,9,12,12,14,9,23,25,5,5,31,31,3,2,4,3,3]) (cl := []) 6 (fun _ h => by cases h) (by kernel_rfl) (by kernel_rfl) (by kernel_rfl) (by kernel_rfl) (by kernel_rfl) (by kernel_rfl) (by kernel_rfl)
end Go.Proofs.YtdgpmheeiaajkaaGreatDoor
/- MLP -/
namespace Go.Proofs.YtdgpmheeiaajkaaGreatDoor
open Go.RowKit Cx
def linePlain_N : List Nd := [(1,[0]),(1,[1]),(1,[2]),(8,[0,0,1,2]),(8,[1,0,1,2]),(8,[2,0,1,2]),(1,[3]),(1,[4]),(4,[0,6]),(4,[1,7]),(2,[8,9]),(2,[10,2]),(4,[1,3]),(4,[0,4]),(4,[2,3]),(4,[0,5]),(4,[2,4]),(4,[1,5]),(4,[3,6]),(4,[4,7]),(2,[18,19]),(2,[20,5])]
def linePlain_L : List (List Nat × Nat) := []
def linePlain_C : List (List Nat × Nat) := []
def linePlain_Z : List Nat := [4194309,4194309,4194309,16777237,16777237,16777237,4194309,4194309,8388618,8388618,16777237,20971547,20971546,20971546,20971546,20971546,20971546,20971546,20971546,20971546,41943093,58720331]
theorem linePlain_wf : wfB 0 linePlain_N=true := by kernel_rfl
theorem linePlain_sz : szB linePlain_Z linePlain_N linePlain_Z=true := by kernel_rfl
theorem linePlain_lt : litB linePlain_N linePlain_L=true := by kernel_rfl
theorem linePlain_cn : canB linePlain_N linePlain_C=true := by kernel_rfl
theorem linePlain_f0 (z0 z1 z2 z6 z7 z8 z9 z10 z11 : Rat) : z8=z0*z6→z9=z1*z7→z10=z8+z9→z11=z10+z2→(z0 < 0)→(z11 < 0)→¬ (z0=0) := by
 intro e8 e9 e10 e11 u0 u1
 subst_vars; grind
theorem linePlain_f1 (z0 z1 z2 z3 z6 z7 z8 z9 z10 z11 : Rat) : z3=z0*fac [z0,z1,z2]→z8=z0*z6→z9=z1*z7→z10=z8+z9→z11=z10+z2→(z0 < 0)→(z11 < 0)→¬ (z3=0) := by
 intro e3 e8 e9 e10 e11 u0 u1
 have k0_0 : fac [z0,z1,z2]=0→z0=0 := fac_zero (by simp)
 have k0_1 : fac [z0,z1,z2]=0→z1=0 := fac_zero (by simp)
 have k0_2 : fac [z0,z1,z2]=0→z2=0 := fac_zero (by simp)
 generalize fac [z0,z1,z2]=g0 at *
 subst_vars; grind
theorem linePlain_f2 (z0 z1 z2 z3 z4 z6 z7 z8 z9 z10 z11 z12 z13 : Rat) : z3=z0*fac [z0,z1,z2]→z4=z1*fac [z0,z1,z2]→z8=z0*z6→z9=z1*z7→z10=z8+z9→z11=z10+z2→z12=z1*z3→z13=z0*z4→(z0 < 0)→(z11 < 0)→z12=z13 := by
 intro e3 e4 e8 e9 e10 e11 e12 e13 u0 u1
 have k0_0 : fac [z0,z1,z2]=0→z0=0 := fac_zero (by simp)
 have k0_1 : fac [z0,z1,z2]=0→z1=0 := fac_zero (by simp)
 have k0_2 : fac [z0,z1,z2]=0→z2=0 := fac_zero (by simp)
 generalize fac [z0,z1,z2]=g0 at *
 subst_vars; grind
theorem linePlain_f3 (z0 z1 z2 z3 z5 z6 z7 z8 z9 z10 z11 z14 z15 : Rat) : z3=z0*fac [z0,z1,z2]→z5=z2*fac [z0,z1,z2]→z8=z0*z6→z9=z1*z7→z10=z8+z9→z11=z10+z2→z14=z2*z3→z15=z0*z5→(z0 < 0)→(z11 < 0)→z14=z15 := by
 intro e3 e5 e8 e9 e10 e11 e14 e15 u0 u1
 have k0_0 : fac [z0,z1,z2]=0→z0=0 := fac_zero (by simp)
 have k0_1 : fac [z0,z1,z2]=0→z1=0 := fac_zero (by simp)
 have k0_2 : fac [z0,z1,z2]=0→z2=0 := fac_zero (by simp)
 generalize fac [z0,z1,z2]=g0 at *
 subst_vars; grind
theorem linePlain_f4 (z0 z1 z2 z4 z5 z6 z7 z8 z9 z10 z11 z16 z17 : Rat) : z4=z1*fac [z0,z1,z2]→z5=z2*fac [z0,z1,z2]→z8=z0*z6→z9=z1*z7→z10=z8+z9→z11=z10+z2→z16=z2*z4→z17=z1*z5→(z0 < 0)→(z11 < 0)→z16=z17 := by
 intro e4 e5 e8 e9 e10 e11 e16 e17 u0 u1
 have k0_0 : fac [z0,z1,z2]=0→z0=0 := fac_zero (by simp)
 have k0_1 : fac [z0,z1,z2]=0→z1=0 := fac_zero (by simp)
 have k0_2 : fac [z0,z1,z2]=0→z2=0 := fac_zero (by simp)
 generalize fac [z0,z1,z2]=g0 at *
 subst_vars; grind
theorem linePlain_f5 (z0 z1 z2 z3 z4 z5 z6 z7 z8 z9 z10 z11 z18 z19 z20 z21 : Rat) : z3=z0*fac [z0,z1,z2]→z4=z1*fac [z0,z1,z2]→z5=z2*fac [z0,z1,z2]→z8=z0*z6→z9=z1*z7→z10=z8+z9→z11=z10+z2→z18=z3*z6→z19=z4*z7→z20=z18+z19→z21=z20+z5→(z0 < 0)→(z11 < 0)→0 < z21 := by
 intro e3 e4 e5 e8 e9 e10 e11 e18 e19 e20 e21 u0 u1
 have k0_0 : fac [z0,z1,z2]=0→z0=0 := fac_zero (by simp)
 have k0_1 : fac [z0,z1,z2]=0→z1=0 := fac_zero (by simp)
 have k0_2 : fac [z0,z1,z2]=0→z2=0 := fac_zero (by simp)
 have l0_0 : z0 ≠ 0→0 < z0*fac [z0,z1,z2] := fac_lead0
 have l0_1 : z0=0→z1 ≠ 0→0 < z1*fac [z0,z1,z2] := fac_lead1
 generalize fac [z0,z1,z2]=g0 at *
 have q0 := prod_sgn z0 g0
 have q1 := prod_sgn z1 g0
 have qq10 := prod_sgn z10 g0
 have qq11 := prod_sgn z11 g0
 have qq20 := prod_sgn z20 g0
 have qq21 := prod_sgn z21 g0
 subst_vars; grind
theorem linePlain_f6 (z0 z1 z2 z6 z7 z8 z9 z10 z11 : Rat) : z8=z0*z6→z9=z1*z7→z10=z8+z9→z11=z10+z2→(z0 < 0)→(z11=0)→¬ (z0=0) := by
 intro e8 e9 e10 e11 u0 u1
 rw [u1] at e11
 subst_vars; grind
theorem linePlain_f7 (z0 z1 z2 z3 z6 z7 z8 z9 z10 z11 : Rat) : z3=z0*fac [z0,z1,z2]→z8=z0*z6→z9=z1*z7→z10=z8+z9→z11=z10+z2→(z0 < 0)→(z11=0)→¬ (z3=0) := by
 intro e3 e8 e9 e10 e11 u0 u1
 rw [u1] at e11
 have k0_0 : fac [z0,z1,z2]=0→z0=0 := fac_zero (by simp)
 have k0_1 : fac [z0,z1,z2]=0→z1=0 := fac_zero (by simp)
 have k0_2 : fac [z0,z1,z2]=0→z2=0 := fac_zero (by simp)
 generalize fac [z0,z1,z2]=g0 at *
 subst_vars; grind
theorem linePlain_f8 (z0 z1 z2 z3 z4 z6 z7 z8 z9 z10 z11 z12 z13 : Rat) : z3=z0*fac [z0,z1,z2]→z4=z1*fac [z0,z1,z2]→z8=z0*z6→z9=z1*z7→z10=z8+z9→z11=z10+z2→z12=z1*z3→z13=z0*z4→(z0 < 0)→(z11=0)→z12=z13 := by
 intro e3 e4 e8 e9 e10 e11 e12 e13 u0 u1
 rw [u1] at e11
 have k0_0 : fac [z0,z1,z2]=0→z0=0 := fac_zero (by simp)
 have k0_1 : fac [z0,z1,z2]=0→z1=0 := fac_zero (by simp)
 have k0_2 : fac [z0,z1,z2]=0→z2=0 := fac_zero (by simp)
 generalize fac [z0,z1,z2]=g0 at *
 subst_vars; grind
theorem linePlain_f9 (z0 z1 z2 z3 z5 z6 z7 z8 z9 z10 z11 z14 z15 : Rat) : z3=z0*fac [z0,z1,z2]→z5=z2*fac [z0,z1,z2]→z8=z0*z6→z9=z1*z7→z10=z8+z9→z11=z10+z2→z14=z2*z3→z15=z0*z5→(z0 < 0)→(z11=0)→z14=z15 := by
 intro e3 e5 e8 e9 e10 e11 e14 e15 u0 u1
 rw [u1] at e11
 have k0_0 : fac [z0,z1,z2]=0→z0=0 := fac_zero (by simp)
 have k0_1 : fac [z0,z1,z2]=0→z1=0 := fac_zero (by simp)
 have k0_2 : fac [z0,z1,z2]=0→z2=0 := fac_zero (by simp)
 generalize fac [z0,z1,z2]=g0 at *
 subst_vars; grind
theorem linePlain_f10 (z0 z1 z2 z4 z5 z6 z7 z8 z9 z10 z11 z16 z17 : Rat) : z4=z1*fac [z0,z1,z2]→z5=z2*fac [z0,z1,z2]→z8=z0*z6→z9=z1*z7→z10=z8+z9→z11=z10+z2→z16=z2*z4→z17=z1*z5→(z0 < 0)→(z11=0)→z16=z17 := by
 intro e4 e5 e8 e9 e10 e11 e16 e17 u0 u1
 rw [u1] at e11
 have k0_0 : fac [z0,z1,z2]=0→z0=0 := fac_zero (by simp)
 have k0_1 : fac [z0,z1,z2]=0→z1=0 := fac_zero (by simp)
 have k0_2 : fac [z0,z1,z2]=0→z2=0 := fac_zero (by simp)
 generalize fac [z0,z1,z2]=g0 at *
 subst_vars; grind
theorem linePlain_f11 (z0 z1 z2 z3 z4 z5 z6 z7 z8 z9 z10 z11 z18 z19 z20 z21 : Rat) : z3=z0*fac [z0,z1,z2]→z4=z1*fac [z0,z1,z2]→z5=z2*fac [z0,z1,z2]→z8=z0*z6→z9=z1*z7→z10=z8+z9→z11=z10+z2→z18=z3*z6→z19=z4*z7→z20=z18+z19→z21=z20+z5→(z0 < 0)→(z11=0)→z21=0 := by
 intro e3 e4 e5 e8 e9 e10 e11 e18 e19 e20 e21 u0 u1
 rw [u1] at e11
 have k0_0 : fac [z0,z1,z2]=0→z0=0 := fac_zero (by simp)
 have k0_1 : fac [z0,z1,z2]=0→z1=0 := fac_zero (by simp)
 have k0_2 : fac [z0,z1,z2]=0→z2=0 := fac_zero (by simp)
 have l0_0 : z0 ≠ 0→0 < z0*fac [z0,z1,z2] := fac_lead0
 have l0_1 : z0=0→z1 ≠ 0→0 < z1*fac [z0,z1,z2] := fac_lead1
 generalize fac [z0,z1,z2]=g0 at *
 have q0 := prod_sgn z0 g0
 have q1 := prod_sgn z1 g0
 have qq10 := prod_sgn z10 g0
 have qq11 := prod_sgn z11 g0
 have qq20 := prod_sgn z20 g0
 have qq21 := prod_sgn z21 g0
 subst_vars; grind
theorem linePlain_f12 (z0 z1 z2 z6 z7 z8 z9 z10 z11 : Rat) : z8=z0*z6→z9=z1*z7→z10=z8+z9→z11=z10+z2→(z0 < 0)→(0 < z11)→¬ (z0=0) := by
 intro e8 e9 e10 e11 u0 u1
 subst_vars; grind
theorem linePlain_f13 (z0 z1 z2 z3 z6 z7 z8 z9 z10 z11 : Rat) : z3=z0*fac [z0,z1,z2]→z8=z0*z6→z9=z1*z7→z10=z8+z9→z11=z10+z2→(z0 < 0)→(0 < z11)→¬ (z3=0) := by
 intro e3 e8 e9 e10 e11 u0 u1
 have k0_0 : fac [z0,z1,z2]=0→z0=0 := fac_zero (by simp)
 have k0_1 : fac [z0,z1,z2]=0→z1=0 := fac_zero (by simp)
 have k0_2 : fac [z0,z1,z2]=0→z2=0 := fac_zero (by simp)
 generalize fac [z0,z1,z2]=g0 at *
 subst_vars; grind
theorem linePlain_f14 (z0 z1 z2 z3 z4 z6 z7 z8 z9 z10 z11 z12 z13 : Rat) : z3=z0*fac [z0,z1,z2]→z4=z1*fac [z0,z1,z2]→z8=z0*z6→z9=z1*z7→z10=z8+z9→z11=z10+z2→z12=z1*z3→z13=z0*z4→(z0 < 0)→(0 < z11)→z12=z13 := by
 intro e3 e4 e8 e9 e10 e11 e12 e13 u0 u1
 have k0_0 : fac [z0,z1,z2]=0→z0=0 := fac_zero (by simp)
 have k0_1 : fac [z0,z1,z2]=0→z1=0 := fac_zero (by simp)
 have k0_2 : fac [z0,z1,z2]=0→z2=0 := fac_zero (by simp)
 generalize fac [z0,z1,z2]=g0 at *
 subst_vars; grind
theorem linePlain_f15 (z0 z1 z2 z3 z5 z6 z7 z8 z9 z10 z11 z14 z15 : Rat) : z3=z0*fac [z0,z1,z2]→z5=z2*fac [z0,z1,z2]→z8=z0*z6→z9=z1*z7→z10=z8+z9→z11=z10+z2→z14=z2*z3→z15=z0*z5→(z0 < 0)→(0 < z11)→z14=z15 := by
 intro e3 e5 e8 e9 e10 e11 e14 e15 u0 u1
 have k0_0 : fac [z0,z1,z2]=0→z0=0 := fac_zero (by simp)
 have k0_1 : fac [z0,z1,z2]=0→z1=0 := fac_zero (by simp)
 have k0_2 : fac [z0,z1,z2]=0→z2=0 := fac_zero (by simp)
 generalize fac [z0,z1,z2]=g0 at *
 subst_vars; grind
theorem linePlain_f16 (z0 z1 z2 z4 z5 z6 z7 z8 z9 z10 z11 z16 z17 : Rat) : z4=z1*fac [z0,z1,z2]→z5=z2*fac [z0,z1,z2]→z8=z0*z6→z9=z1*z7→z10=z8+z9→z11=z10+z2→z16=z2*z4→z17=z1*z5→(z0 < 0)→(0 < z11)→z16=z17 := by
 intro e4 e5 e8 e9 e10 e11 e16 e17 u0 u1
 have k0_0 : fac [z0,z1,z2]=0→z0=0 := fac_zero (by simp)
 have k0_1 : fac [z0,z1,z2]=0→z1=0 := fac_zero (by simp)
 have k0_2 : fac [z0,z1,z2]=0→z2=0 := fac_zero (by simp)
 generalize fac [z0,z1,z2]=g0 at *
 subst_vars; grind
theorem linePlain_f17 (z0 z1 z2 z3 z4 z5 z6 z7 z8 z9 z10 z11 z18 z19 z20 z21 : Rat) : z3=z0*fac [z0,z1,z2]→z4=z1*fac [z0,z1,z2]→z5=z2*fac [z0,z1,z2]→z8=z0*z6→z9=z1*z7→z10=z8+z9→z11=z10+z2→z18=z3*z6→z19=z4*z7→z20=z18+z19→z21=z20+z5→(z0 < 0)→(0 < z11)→z21 < 0 := by
 intro e3 e4 e5 e8 e9 e10 e11 e18 e19 e20 e21 u0 u1
 have k0_0 : fac [z0,z1,z2]=0→z0=0 := fac_zero (by simp)
 have k0_1 : fac [z0,z1,z2]=0→z1=0 := fac_zero (by simp)
 have k0_2 : fac [z0,z1,z2]=0→z2=0 := fac_zero (by simp)
 have l0_0 : z0 ≠ 0→0 < z0*fac [z0,z1,z2] := fac_lead0
 have l0_1 : z0=0→z1 ≠ 0→0 < z1*fac [z0,z1,z2] := fac_lead1
 generalize fac [z0,z1,z2]=g0 at *
 have q0 := prod_sgn z0 g0
 have q1 := prod_sgn z1 g0
 have qq10 := prod_sgn z10 g0
 have qq11 := prod_sgn z11 g0
 have qq20 := prod_sgn z20 g0
 have qq21 := prod_sgn z21 g0
 subst_vars; grind
theorem linePlain_f18 (z0 z1 z2 z6 z7 z8 z9 z10 z11 : Rat) : z8=z0*z6→z9=z1*z7→z10=z8+z9→z11=z10+z2→(z0=0)→(z1 < 0)→(z11 < 0)→z0=0 := by
 intro e8 e9 e10 e11 u0 u1 u2
 subst_vars; grind
theorem linePlain_f19 (z0 z1 z2 z6 z7 z8 z9 z10 z11 : Rat) : z8=z0*z6→z9=z1*z7→z10=z8+z9→z11=z10+z2→(z0=0)→(z1 < 0)→(z11 < 0)→¬ (z1=0) := by
 intro e8 e9 e10 e11 u0 u1 u2
 subst_vars; grind
theorem linePlain_f20 (z0 z1 z2 z3 z6 z7 z8 z9 z10 z11 : Rat) : z3=z0*fac [z0,z1,z2]→z8=z0*z6→z9=z1*z7→z10=z8+z9→z11=z10+z2→(z0=0)→(z1 < 0)→(z11 < 0)→z3=0 := by
 intro e3 e8 e9 e10 e11 u0 u1 u2
 have k0_0 : fac [z0,z1,z2]=0→z0=0 := fac_zero (by simp)
 have k0_1 : fac [z0,z1,z2]=0→z1=0 := fac_zero (by simp)
 have k0_2 : fac [z0,z1,z2]=0→z2=0 := fac_zero (by simp)
 generalize fac [z0,z1,z2]=g0 at *
 subst_vars; grind
theorem linePlain_f21 (z0 z1 z2 z4 z6 z7 z8 z9 z10 z11 : Rat) : z4=z1*fac [z0,z1,z2]→z8=z0*z6→z9=z1*z7→z10=z8+z9→z11=z10+z2→(z0=0)→(z1 < 0)→(z11 < 0)→¬ (z4=0) := by
 intro e4 e8 e9 e10 e11 u0 u1 u2
 have k0_0 : fac [z0,z1,z2]=0→z0=0 := fac_zero (by simp)
 have k0_1 : fac [z0,z1,z2]=0→z1=0 := fac_zero (by simp)
 have k0_2 : fac [z0,z1,z2]=0→z2=0 := fac_zero (by simp)
 generalize fac [z0,z1,z2]=g0 at *
 subst_vars; grind
theorem linePlain_f22 (z0 z1 z2 z3 z4 z6 z7 z8 z9 z10 z11 z12 z13 : Rat) : z3=z0*fac [z0,z1,z2]→z4=z1*fac [z0,z1,z2]→z8=z0*z6→z9=z1*z7→z10=z8+z9→z11=z10+z2→z12=z1*z3→z13=z0*z4→(z0=0)→(z1 < 0)→(z11 < 0)→z12=z13 := by
 intro e3 e4 e8 e9 e10 e11 e12 e13 u0 u1 u2
 have k0_0 : fac [z0,z1,z2]=0→z0=0 := fac_zero (by simp)
 have k0_1 : fac [z0,z1,z2]=0→z1=0 := fac_zero (by simp)
 have k0_2 : fac [z0,z1,z2]=0→z2=0 := fac_zero (by simp)
 generalize fac [z0,z1,z2]=g0 at *
 subst_vars; grind
theorem linePlain_f23 (z0 z1 z2 z3 z5 z6 z7 z8 z9 z10 z11 z14 z15 : Rat) : z3=z0*fac [z0,z1,z2]→z5=z2*fac [z0,z1,z2]→z8=z0*z6→z9=z1*z7→z10=z8+z9→z11=z10+z2→z14=z2*z3→z15=z0*z5→(z0=0)→(z1 < 0)→(z11 < 0)→z14=z15 := by
 intro e3 e5 e8 e9 e10 e11 e14 e15 u0 u1 u2
 have k0_0 : fac [z0,z1,z2]=0→z0=0 := fac_zero (by simp)
 have k0_1 : fac [z0,z1,z2]=0→z1=0 := fac_zero (by simp)
 have k0_2 : fac [z0,z1,z2]=0→z2=0 := fac_zero (by simp)
 generalize fac [z0,z1,z2]=g0 at *
 subst_vars; grind
theorem linePlain_f24 (z0 z1 z2 z4 z5 z6 z7 z8 z9 z10 z11 z16 z17 : Rat) : z4=z1*fac [z0,z1,z2]→z5=z2*fac [z0,z1,z2]→z8=z0*z6→z9=z1*z7→z10=z8+z9→z11=z10+z2→z16=z2*z4→z17=z1*z5→(z0=0)→(z1 < 0)→(z11 < 0)→z16=z17 := by
 intro e4 e5 e8 e9 e10 e11 e16 e17 u0 u1 u2
 have k0_0 : fac [z0,z1,z2]=0→z0=0 := fac_zero (by simp)
 have k0_1 : fac [z0,z1,z2]=0→z1=0 := fac_zero (by simp)
 have k0_2 : fac [z0,z1,z2]=0→z2=0 := fac_zero (by simp)
 generalize fac [z0,z1,z2]=g0 at *
 subst_vars; grind
theorem linePlain_f25 (z0 z1 z2 z3 z4 z5 z6 z7 z8 z9 z10 z11 z18 z19 z20 z21 : Rat) : z3=z0*fac [z0,z1,z2]→z4=z1*fac [z0,z1,z2]→z5=z2*fac [z0,z1,z2]→z8=z0*z6→z9=z1*z7→z10=z8+z9→z11=z10+z2→z18=z3*z6→z19=z4*z7→z20=z18+z19→z21=z20+z5→(z0=0)→(z1 < 0)→(z11 < 0)→0 < z21 := by
 intro e3 e4 e5 e8 e9 e10 e11 e18 e19 e20 e21 u0 u1 u2
 have k0_0 : fac [z0,z1,z2]=0→z0=0 := fac_zero (by simp)
 have k0_1 : fac [z0,z1,z2]=0→z1=0 := fac_zero (by simp)
 have k0_2 : fac [z0,z1,z2]=0→z2=0 := fac_zero (by simp)
 have l0_0 : z0 ≠ 0→0 < z0*fac [z0,z1,z2] := fac_lead0
 have l0_1 : z0=0→z1 ≠ 0→0 < z1*fac [z0,z1,z2] := fac_lead1
 generalize fac [z0,z1,z2]=g0 at *
 have q0 := prod_sgn z0 g0
 have q1 := prod_sgn z1 g0
 have qq10 := prod_sgn z10 g0
 have qq11 := prod_sgn z11 g0
 have qq20 := prod_sgn z20 g0
 have qq21 := prod_sgn z21 g0
 subst_vars; grind
theorem linePlain_f26 (z0 z1 z2 z6 z7 z8 z9 z10 z11 : Rat) : z8=z0*z6→z9=z1*z7→z10=z8+z9→z11=z10+z2→(z0=0)→(z1 < 0)→(z11=0)→z0=0 := by
 intro e8 e9 e10 e11 u0 u1 u2
 rw [u2] at e11
 subst_vars; grind
theorem linePlain_f27 (z0 z1 z2 z6 z7 z8 z9 z10 z11 : Rat) : z8=z0*z6→z9=z1*z7→z10=z8+z9→z11=z10+z2→(z0=0)→(z1 < 0)→(z11=0)→¬ (z1=0) := by
 intro e8 e9 e10 e11 u0 u1 u2
 rw [u2] at e11
 subst_vars; grind
theorem linePlain_f28 (z0 z1 z2 z3 z6 z7 z8 z9 z10 z11 : Rat) : z3=z0*fac [z0,z1,z2]→z8=z0*z6→z9=z1*z7→z10=z8+z9→z11=z10+z2→(z0=0)→(z1 < 0)→(z11=0)→z3=0 := by
 intro e3 e8 e9 e10 e11 u0 u1 u2
 rw [u2] at e11
 have k0_0 : fac [z0,z1,z2]=0→z0=0 := fac_zero (by simp)
 have k0_1 : fac [z0,z1,z2]=0→z1=0 := fac_zero (by simp)
 have k0_2 : fac [z0,z1,z2]=0→z2=0 := fac_zero (by simp)
 generalize fac [z0,z1,z2]=g0 at *
 subst_vars; grind
theorem linePlain_f29 (z0 z1 z2 z4 z6 z7 z8 z9 z10 z11 : Rat) : z4=z1*fac [z0,z1,z2]→z8=z0*z6→z9=z1*z7→z10=z8+z9→z11=z10+z2→(z0=0)→(z1 < 0)→(z11=0)→¬ (z4=0) := by
 intro e4 e8 e9 e10 e11 u0 u1 u2
 rw [u2] at e11
 have k0_0 : fac [z0,z1,z2]=0→z0=0 := fac_zero (by simp)
 have k0_1 : fac [z0,z1,z2]=0→z1=0 := fac_zero (by simp)
 have k0_2 : fac [z0,z1,z2]=0→z2=0 := fac_zero (by simp)
 generalize fac [z0,z1,z2]=g0 at *
 subst_vars; grind
theorem linePlain_f30 (z0 z1 z2 z3 z4 z6 z7 z8 z9 z10 z11 z12 z13 : Rat) : z3=z0*fac [z0,z1,z2]→z4=z1*fac [z0,z1,z2]→z8=z0*z6→z9=z1*z7→z10=z8+z9→z11=z10+z2→z12=z1*z3→z13=z0*z4→(z0=0)→(z1 < 0)→(z11=0)→z12=z13 := by
 intro e3 e4 e8 e9 e10 e11 e12 e13 u0 u1 u2
 rw [u2] at e11
 have k0_0 : fac [z0,z1,z2]=0→z0=0 := fac_zero (by simp)
 have k0_1 : fac [z0,z1,z2]=0→z1=0 := fac_zero (by simp)
 have k0_2 : fac [z0,z1,z2]=0→z2=0 := fac_zero (by simp)
 generalize fac [z0,z1,z2]=g0 at *
 subst_vars; grind
theorem linePlain_f31 (z0 z1 z2 z3 z5 z6 z7 z8 z9 z10 z11 z14 z15 : Rat) : z3=z0*fac [z0,z1,z2]→z5=z2*fac [z0,z1,z2]→z8=z0*z6→z9=z1*z7→z10=z8+z9→z11=z10+z2→z14=z2*z3→z15=z0*z5→(z0=0)→(z1 < 0)→(z11=0)→z14=z15 := by
 intro e3 e5 e8 e9 e10 e11 e14 e15 u0 u1 u2
 rw [u2] at e11
 have k0_0 : fac [z0,z1,z2]=0→z0=0 := fac_zero (by simp)
 have k0_1 : fac [z0,z1,z2]=0→z1=0 := fac_zero (by simp)
 have k0_2 : fac [z0,z1,z2]=0→z2=0 := fac_zero (by simp)
 generalize fac [z0,z1,z2]=g0 at *
 subst_vars; grind
theorem linePlain_f32 (z0 z1 z2 z4 z5 z6 z7 z8 z9 z10 z11 z16 z17 : Rat) : z4=z1*fac [z0,z1,z2]→z5=z2*fac [z0,z1,z2]→z8=z0*z6→z9=z1*z7→z10=z8+z9→z11=z10+z2→z16=z2*z4→z17=z1*z5→(z0=0)→(z1 < 0)→(z11=0)→z16=z17 := by
 intro e4 e5 e8 e9 e10 e11 e16 e17 u0 u1 u2
 rw [u2] at e11
 have k0_0 : fac [z0,z1,z2]=0→z0=0 := fac_zero (by simp)
 have k0_1 : fac [z0,z1,z2]=0→z1=0 := fac_zero (by simp)
 have k0_2 : fac [z0,z1,z2]=0→z2=0 := fac_zero (by simp)
 generalize fac [z0,z1,z2]=g0 at *
 subst_vars; grind
theorem linePlain_f33 (z0 z1 z2 z3 z4 z5 z6 z7 z8 z9 z10 z11 z18 z19 z20 z21 : Rat) : z3=z0*fac [z0,z1,z2]→z4=z1*fac [z0,z1,z2]→z5=z2*fac [z0,z1,z2]→z8=z0*z6→z9=z1*z7→z10=z8+z9→z11=z10+z2→z18=z3*z6→z19=z4*z7→z20=z18+z19→z21=z20+z5→(z0=0)→(z1 < 0)→(z11=0)→z21=0 := by
 intro e3 e4 e5 e8 e9 e10 e11 e18 e19 e20 e21 u0 u1 u2
 rw [u2] at e11
 have k0_0 : fac [z0,z1,z2]=0→z0=0 := fac_zero (by simp)
 have k0_1 : fac [z0,z1,z2]=0→z1=0 := fac_zero (by simp)
 have k0_2 : fac [z0,z1,z2]=0→z2=0 := fac_zero (by simp)
 have l0_0 : z0 ≠ 0→0 < z0*fac [z0,z1,z2] := fac_lead0
 have l0_1 : z0=0→z1 ≠ 0→0 < z1*fac [z0,z1,z2] := fac_lead1
 generalize fac [z0,z1,z2]=g0 at *
 have q0 := prod_sgn z0 g0
 have q1 := prod_sgn z1 g0
 have qq10 := prod_sgn z10 g0
 have qq11 := prod_sgn z11 g0
 have qq20 := prod_sgn z20 g0
 have qq21 := prod_sgn z21 g0
 subst_vars; grind
theorem linePlain_f34 (z0 z1 z2 z6 z7 z8 z9 z10 z11 : Rat) : z8=z0*z6→z9=z1*z7→z10=z8+z9→z11=z10+z2→(z0=0)→(z1 < 0)→(0 < z11)→z0=0 := by
 intro e8 e9 e10 e11 u0 u1 u2
 subst_vars; grind
theorem linePlain_f35 (z0 z1 z2 z6 z7 z8 z9 z10 z11 : Rat) : z8=z0*z6→z9=z1*z7→z10=z8+z9→z11=z10+z2→(z0=0)→(z1 < 0)→(0 < z11)→¬ (z1=0) := by
 intro e8 e9 e10 e11 u0 u1 u2
 subst_vars; grind
theorem linePlain_f36 (z0 z1 z2 z3 z6 z7 z8 z9 z10 z11 : Rat) : z3=z0*fac [z0,z1,z2]→z8=z0*z6→z9=z1*z7→z10=z8+z9→z11=z10+z2→(z0=0)→(z1 < 0)→(0 < z11)→z3=0 := by
 intro e3 e8 e9 e10 e11 u0 u1 u2
 have k0_0 : fac [z0,z1,z2]=0→z0=0 := fac_zero (by simp)
 have k0_1 : fac [z0,z1,z2]=0→z1=0 := fac_zero (by simp)
 have k0_2 : fac [z0,z1,z2]=0→z2=0 := fac_zero (by simp)
 generalize fac [z0,z1,z2]=g0 at *
 subst_vars; grind
theorem linePlain_f37 (z0 z1 z2 z4 z6 z7 z8 z9 z10 z11 : Rat) : z4=z1*fac [z0,z1,z2]→z8=z0*z6→z9=z1*z7→z10=z8+z9→z11=z10+z2→(z0=0)→(z1 < 0)→(0 < z11)→¬ (z4=0) := by
 intro e4 e8 e9 e10 e11 u0 u1 u2
 have k0_0 : fac [z0,z1,z2]=0→z0=0 := fac_zero (by simp)
 have k0_1 : fac [z0,z1,z2]=0→z1=0 := fac_zero (by simp)
 have k0_2 : fac [z0,z1,z2]=0→z2=0 := fac_zero (by simp)
 generalize fac [z0,z1,z2]=g0 at *
 subst_vars; grind
theorem linePlain_f38 (z0 z1 z2 z3 z4 z6 z7 z8 z9 z10 z11 z12 z13 : Rat) : z3=z0*fac [z0,z1,z2]→z4=z1*fac [z0,z1,z2]→z8=z0*z6→z9=z1*z7→z10=z8+z9→z11=z10+z2→z12=z1*z3→z13=z0*z4→(z0=0)→(z1 < 0)→(0 < z11)→z12=z13 := by
 intro e3 e4 e8 e9 e10 e11 e12 e13 u0 u1 u2
 have k0_0 : fac [z0,z1,z2]=0→z0=0 := fac_zero (by simp)
 have k0_1 : fac [z0,z1,z2]=0→z1=0 := fac_zero (by simp)
 have k0_2 : fac [z0,z1,z2]=0→z2=0 := fac_zero (by simp)
 generalize fac [z0,z1,z2]=g0 at *
 subst_vars; grind
theorem linePlain_f39 (z0 z1 z2 z3 z5 z6 z7 z8 z9 z10 z11 z14 z15 : Rat) : z3=z0*fac [z0,z1,z2]→z5=z2*fac [z0,z1,z2]→z8=z0*z6→z9=z1*z7→z10=z8+z9→z11=z10+z2→z14=z2*z3→z15=z0*z5→(z0=0)→(z1 < 0)→(0 < z11)→z14=z15 := by
 intro e3 e5 e8 e9 e10 e11 e14 e15 u0 u1 u2
 have k0_0 : fac [z0,z1,z2]=0→z0=0 := fac_zero (by simp)
 have k0_1 : fac [z0,z1,z2]=0→z1=0 := fac_zero (by simp)
 have k0_2 : fac [z0,z1,z2]=0→z2=0 := fac_zero (by simp)
 generalize fac [z0,z1,z2]=g0 at *
 subst_vars; grind
theorem linePlain_f40 (z0 z1 z2 z4 z5 z6 z7 z8 z9 z10 z11 z16 z17 : Rat) : z4=z1*fac [z0,z1,z2]→z5=z2*fac [z0,z1,z2]→z8=z0*z6→z9=z1*z7→z10=z8+z9→z11=z10+z2→z16=z2*z4→z17=z1*z5→(z0=0)→(z1 < 0)→(0 < z11)→z16=z17 := by
 intro e4 e5 e8 e9 e10 e11 e16 e17 u0 u1 u2
 have k0_0 : fac [z0,z1,z2]=0→z0=0 := fac_zero (by simp)
 have k0_1 : fac [z0,z1,z2]=0→z1=0 := fac_zero (by simp)
 have k0_2 : fac [z0,z1,z2]=0→z2=0 := fac_zero (by simp)
 generalize fac [z0,z1,z2]=g0 at *
 subst_vars; grind
theorem linePlain_f41 (z0 z1 z2 z3 z4 z5 z6 z7 z8 z9 z10 z11 z18 z19 z20 z21 : Rat) : z3=z0*fac [z0,z1,z2]→z4=z1*fac [z0,z1,z2]→z5=z2*fac [z0,z1,z2]→z8=z0*z6→z9=z1*z7→z10=z8+z9→z11=z10+z2→z18=z3*z6→z19=z4*z7→z20=z18+z19→z21=z20+z5→(z0=0)→(z1 < 0)→(0 < z11)→z21 < 0 := by
 intro e3 e4 e5 e8 e9 e10 e11 e18 e19 e20 e21 u0 u1 u2
 have k0_0 : fac [z0,z1,z2]=0→z0=0 := fac_zero (by simp)
 have k0_1 : fac [z0,z1,z2]=0→z1=0 := fac_zero (by simp)
 have k0_2 : fac [z0,z1,z2]=0→z2=0 := fac_zero (by simp)
 have l0_0 : z0 ≠ 0→0 < z0*fac [z0,z1,z2] := fac_lead0
 have l0_1 : z0=0→z1 ≠ 0→0 < z1*fac [z0,z1,z2] := fac_lead1
 generalize fac [z0,z1,z2]=g0 at *
 have q0 := prod_sgn z0 g0
 have q1 := prod_sgn z1 g0
 have qq10 := prod_sgn z10 g0
 have qq11 := prod_sgn z11 g0
 have qq20 := prod_sgn z20 g0
 have qq21 := prod_sgn z21 g0
 subst_vars; grind
theorem linePlain_f42 (z0 z1 : Rat) : (z0=0)→(z1=0)→z0=0 := by
 intro u0 u1
 subst_vars; grind
theorem linePlain_f43 (z0 z1 : Rat) : (z0=0)→(z1=0)→z1=0 := by
 intro u0 u1
 subst_vars; grind
theorem linePlain_f44 (z0 z1 z2 z6 z7 z8 z9 z10 z11 : Rat) : z8=z0*z6→z9=z1*z7→z10=z8+z9→z11=z10+z2→(z0=0)→(0 < z1)→(z11 < 0)→z0=0 := by
 intro e8 e9 e10 e11 u0 u1 u2
 subst_vars; grind
theorem linePlain_f45 (z0 z1 z2 z6 z7 z8 z9 z10 z11 : Rat) : z8=z0*z6→z9=z1*z7→z10=z8+z9→z11=z10+z2→(z0=0)→(0 < z1)→(z11 < 0)→¬ (z1=0) := by
 intro e8 e9 e10 e11 u0 u1 u2
 subst_vars; grind
theorem linePlain_f46 (z0 z1 z2 z3 z6 z7 z8 z9 z10 z11 : Rat) : z3=z0*fac [z0,z1,z2]→z8=z0*z6→z9=z1*z7→z10=z8+z9→z11=z10+z2→(z0=0)→(0 < z1)→(z11 < 0)→z3=0 := by
 intro e3 e8 e9 e10 e11 u0 u1 u2
 have k0_0 : fac [z0,z1,z2]=0→z0=0 := fac_zero (by simp)
 have k0_1 : fac [z0,z1,z2]=0→z1=0 := fac_zero (by simp)
 have k0_2 : fac [z0,z1,z2]=0→z2=0 := fac_zero (by simp)
 generalize fac [z0,z1,z2]=g0 at *
 subst_vars; grind
theorem linePlain_f47 (z0 z1 z2 z4 z6 z7 z8 z9 z10 z11 : Rat) : z4=z1*fac [z0,z1,z2]→z8=z0*z6→z9=z1*z7→z10=z8+z9→z11=z10+z2→(z0=0)→(0 < z1)→(z11 < 0)→¬ (z4=0) := by
 intro e4 e8 e9 e10 e11 u0 u1 u2
 have k0_0 : fac [z0,z1,z2]=0→z0=0 := fac_zero (by simp)
 have k0_1 : fac [z0,z1,z2]=0→z1=0 := fac_zero (by simp)
 have k0_2 : fac [z0,z1,z2]=0→z2=0 := fac_zero (by simp)
 generalize fac [z0,z1,z2]=g0 at *
 subst_vars; grind
theorem linePlain_f48 (z0 z1 z2 z3 z4 z6 z7 z8 z9 z10 z11 z12 z13 : Rat) : z3=z0*fac [z0,z1,z2]→z4=z1*fac [z0,z1,z2]→z8=z0*z6→z9=z1*z7→z10=z8+z9→z11=z10+z2→z12=z1*z3→z13=z0*z4→(z0=0)→(0 < z1)→(z11 < 0)→z12=z13 := by
 intro e3 e4 e8 e9 e10 e11 e12 e13 u0 u1 u2
 have k0_0 : fac [z0,z1,z2]=0→z0=0 := fac_zero (by simp)
 have k0_1 : fac [z0,z1,z2]=0→z1=0 := fac_zero (by simp)
 have k0_2 : fac [z0,z1,z2]=0→z2=0 := fac_zero (by simp)
 generalize fac [z0,z1,z2]=g0 at *
 subst_vars; grind
theorem linePlain_f49 (z0 z1 z2 z3 z5 z6 z7 z8 z9 z10 z11 z14 z15 : Rat) : z3=z0*fac [z0,z1,z2]→z5=z2*fac [z0,z1,z2]→z8=z0*z6→z9=z1*z7→z10=z8+z9→z11=z10+z2→z14=z2*z3→z15=z0*z5→(z0=0)→(0 < z1)→(z11 < 0)→z14=z15 := by
 intro e3 e5 e8 e9 e10 e11 e14 e15 u0 u1 u2
 have k0_0 : fac [z0,z1,z2]=0→z0=0 := fac_zero (by simp)
 have k0_1 : fac [z0,z1,z2]=0→z1=0 := fac_zero (by simp)
 have k0_2 : fac [z0,z1,z2]=0→z2=0 := fac_zero (by simp)
 generalize fac [z0,z1,z2]=g0 at *
 subst_vars; grind
theorem linePlain_f50 (z0 z1 z2 z4 z5 z6 z7 z8 z9 z10 z11 z16 z17 : Rat) : z4=z1*fac [z0,z1,z2]→z5=z2*fac [z0,z1,z2]→z8=z0*z6→z9=z1*z7→z10=z8+z9→z11=z10+z2→z16=z2*z4→z17=z1*z5→(z0=0)→(0 < z1)→(z11 < 0)→z16=z17 := by
 intro e4 e5 e8 e9 e10 e11 e16 e17 u0 u1 u2
 have k0_0 : fac [z0,z1,z2]=0→z0=0 := fac_zero (by simp)
 have k0_1 : fac [z0,z1,z2]=0→z1=0 := fac_zero (by simp)
 have k0_2 : fac [z0,z1,z2]=0→z2=0 := fac_zero (by simp)
 generalize fac [z0,z1,z2]=g0 at *
 subst_vars; grind
theorem linePlain_f51 (z0 z1 z2 z3 z4 z5 z6 z7 z8 z9 z10 z11 z18 z19 z20 z21 : Rat) : z3=z0*fac [z0,z1,z2]→z4=z1*fac [z0,z1,z2]→z5=z2*fac [z0,z1,z2]→z8=z0*z6→z9=z1*z7→z10=z8+z9→z11=z10+z2→z18=z3*z6→z19=z4*z7→z20=z18+z19→z21=z20+z5→(z0=0)→(0 < z1)→(z11 < 0)→z21 < 0 := by
 intro e3 e4 e5 e8 e9 e10 e11 e18 e19 e20 e21 u0 u1 u2
 have k0_0 : fac [z0,z1,z2]=0→z0=0 := fac_zero (by simp)
 have k0_1 : fac [z0,z1,z2]=0→z1=0 := fac_zero (by simp)
 have k0_2 : fac [z0,z1,z2]=0→z2=0 := fac_zero (by simp)
 have l0_0 : z0 ≠ 0→0 < z0*fac [z0,z1,z2] := fac_lead0
 have l0_1 : z0=0→z1 ≠ 0→0 < z1*fac [z0,z1,z2] := fac_lead1
 generalize fac [z0,z1,z2]=g0 at *
 have q0 := prod_sgn z0 g0
 have q1 := prod_sgn z1 g0
 have qq10 := prod_sgn z10 g0
 have qq11 := prod_sgn z11 g0
 have qq20 := prod_sgn z20 g0
 have qq21 := prod_sgn z21 g0
 subst_vars; grind
theorem linePlain_f52 (z0 z1 z2 z6 z7 z8 z9 z10 z11 : Rat) : z8=z0*z6→z9=z1*z7→z10=z8+z9→z11=z10+z2→(z0=0)→(0 < z1)→(z11=0)→z0=0 := by
 intro e8 e9 e10 e11 u0 u1 u2
 rw [u2] at e11
 subst_vars; grind
theorem linePlain_f53 (z0 z1 z2 z6 z7 z8 z9 z10 z11 : Rat) : z8=z0*z6→z9=z1*z7→z10=z8+z9→z11=z10+z2→(z0=0)→(0 < z1)→(z11=0)→¬ (z1=0) := by
 intro e8 e9 e10 e11 u0 u1 u2
 rw [u2] at e11
 subst_vars; grind
theorem linePlain_f54 (z0 z1 z2 z3 z6 z7 z8 z9 z10 z11 : Rat) : z3=z0*fac [z0,z1,z2]→z8=z0*z6→z9=z1*z7→z10=z8+z9→z11=z10+z2→(z0=0)→(0 < z1)→(z11=0)→z3=0 := by
 intro e3 e8 e9 e10 e11 u0 u1 u2
 rw [u2] at e11
 have k0_0 : fac [z0,z1,z2]=0→z0=0 := fac_zero (by simp)
 have k0_1 : fac [z0,z1,z2]=0→z1=0 := fac_zero (by simp)
 have k0_2 : fac [z0,z1,z2]=0→z2=0 := fac_zero (by simp)
 generalize fac [z0,z1,z2]=g0 at *
 subst_vars; grind
theorem linePlain_f55 (z0 z1 z2 z4 z6 z7 z8 z9 z10 z11 : Rat) : z4=z1*fac [z0,z1,z2]→z8=z0*z6→z9=z1*z7→z10=z8+z9→z11=z10+z2→(z0=0)→(0 < z1)→(z11=0)→¬ (z4=0) := by
 intro e4 e8 e9 e10 e11 u0 u1 u2
 rw [u2] at e11
 have k0_0 : fac [z0,z1,z2]=0→z0=0 := fac_zero (by simp)
 have k0_1 : fac [z0,z1,z2]=0→z1=0 := fac_zero (by simp)
 have k0_2 : fac [z0,z1,z2]=0→z2=0 := fac_zero (by simp)
 generalize fac [z0,z1,z2]=g0 at *
 subst_vars; grind
theorem linePlain_f56 (z0 z1 z2 z3 z4 z6 z7 z8 z9 z10 z11 z12 z13 : Rat) : z3=z0*fac [z0,z1,z2]→z4=z1*fac [z0,z1,z2]→z8=z0*z6→z9=z1*z7→z10=z8+z9→z11=z10+z2→z12=z1*z3→z13=z0*z4→(z0=0)→(0 < z1)→(z11=0)→z12=z13 := by
 intro e3 e4 e8 e9 e10 e11 e12 e13 u0 u1 u2
 rw [u2] at e11
 have k0_0 : fac [z0,z1,z2]=0→z0=0 := fac_zero (by simp)
 have k0_1 : fac [z0,z1,z2]=0→z1=0 := fac_zero (by simp)
 have k0_2 : fac [z0,z1,z2]=0→z2=0 := fac_zero (by simp)
 generalize fac [z0,z1,z2]=g0 at *
 subst_vars; grind
theorem linePlain_f57 (z0 z1 z2 z3 z5 z6 z7 z8 z9 z10 z11 z14 z15 : Rat) : z3=z0*fac [z0,z1,z2]→z5=z2*fac [z0,z1,z2]→z8=z0*z6→z9=z1*z7→z10=z8+z9→z11=z10+z2→z14=z2*z3→z15=z0*z5→(z0=0)→(0 < z1)→(z11=0)→z14=z15 := by
 intro e3 e5 e8 e9 e10 e11 e14 e15 u0 u1 u2
 rw [u2] at e11
 have k0_0 : fac [z0,z1,z2]=0→z0=0 := fac_zero (by simp)
 have k0_1 : fac [z0,z1,z2]=0→z1=0 := fac_zero (by simp)
 have k0_2 : fac [z0,z1,z2]=0→z2=0 := fac_zero (by simp)
 generalize fac [z0,z1,z2]=g0 at *
 subst_vars; grind
theorem linePlain_f58 (z0 z1 z2 z4 z5 z6 z7 z8 z9 z10 z11 z16 z17 : Rat) : z4=z1*fac [z0,z1,z2]→z5=z2*fac [z0,z1,z2]→z8=z0*z6→z9=z1*z7→z10=z8+z9→z11=z10+z2→z16=z2*z4→z17=z1*z5→(z0=0)→(0 < z1)→(z11=0)→z16=z17 := by
 intro e4 e5 e8 e9 e10 e11 e16 e17 u0 u1 u2
 rw [u2] at e11
 have k0_0 : fac [z0,z1,z2]=0→z0=0 := fac_zero (by simp)
 have k0_1 : fac [z0,z1,z2]=0→z1=0 := fac_zero (by simp)
 have k0_2 : fac [z0,z1,z2]=0→z2=0 := fac_zero (by simp)
 generalize fac [z0,z1,z2]=g0 at *
 subst_vars; grind
theorem linePlain_f59 (z0 z1 z2 z3 z4 z5 z6 z7 z8 z9 z10 z11 z18 z19 z20 z21 : Rat) : z3=z0*fac [z0,z1,z2]→z4=z1*fac [z0,z1,z2]→z5=z2*fac [z0,z1,z2]→z8=z0*z6→z9=z1*z7→z10=z8+z9→z11=z10+z2→z18=z3*z6→z19=z4*z7→z20=z18+z19→z21=z20+z5→(z0=0)→(0 < z1)→(z11=0)→z21=0 := by
 intro e3 e4 e5 e8 e9 e10 e11 e18 e19 e20 e21 u0 u1 u2
 rw [u2] at e11
 have k0_0 : fac [z0,z1,z2]=0→z0=0 := fac_zero (by simp)
 have k0_1 : fac [z0,z1,z2]=0→z1=0 := fac_zero (by simp)
 have k0_2 : fac [z0,z1,z2]=0→z2=0 := fac_zero (by simp)
 have l0_0 : z0 ≠ 0→0 < z0*fac [z0,z1,z2] := fac_lead0
 have l0_1 : z0=0→z1 ≠ 0→0 < z1*fac [z0,z1,z2] := fac_lead1
 generalize fac [z0,z1,z2]=g0 at *
 have q0 := prod_sgn z0 g0
 have q1 := prod_sgn z1 g0
 have qq10 := prod_sgn z10 g0
 have qq11 := prod_sgn z11 g0
 have qq20 := prod_sgn z20 g0
 have qq21 := prod_sgn z21 g0
 subst_vars; grind
theorem linePlain_f60 (z0 z1 z2 z6 z7 z8 z9 z10 z11 : Rat) : z8=z0*z6→z9=z1*z7→z10=z8+z9→z11=z10+z2→(z0=0)→(0 < z1)→(0 < z11)→z0=0 := by
 intro e8 e9 e10 e11 u0 u1 u2
 subst_vars; grind
theorem linePlain_f61 (z0 z1 z2 z6 z7 z8 z9 z10 z11 : Rat) : z8=z0*z6→z9=z1*z7→z10=z8+z9→z11=z10+z2→(z0=0)→(0 < z1)→(0 < z11)→¬ (z1=0) := by
 intro e8 e9 e10 e11 u0 u1 u2
 subst_vars; grind
theorem linePlain_f62 (z0 z1 z2 z3 z6 z7 z8 z9 z10 z11 : Rat) : z3=z0*fac [z0,z1,z2]→z8=z0*z6→z9=z1*z7→z10=z8+z9→z11=z10+z2→(z0=0)→(0 < z1)→(0 < z11)→z3=0 := by
 intro e3 e8 e9 e10 e11 u0 u1 u2
 have k0_0 : fac [z0,z1,z2]=0→z0=0 := fac_zero (by simp)
 have k0_1 : fac [z0,z1,z2]=0→z1=0 := fac_zero (by simp)
 have k0_2 : fac [z0,z1,z2]=0→z2=0 := fac_zero (by simp)
 generalize fac [z0,z1,z2]=g0 at *
 subst_vars; grind
theorem linePlain_f63 (z0 z1 z2 z4 z6 z7 z8 z9 z10 z11 : Rat) : z4=z1*fac [z0,z1,z2]→z8=z0*z6→z9=z1*z7→z10=z8+z9→z11=z10+z2→(z0=0)→(0 < z1)→(0 < z11)→¬ (z4=0) := by
 intro e4 e8 e9 e10 e11 u0 u1 u2
 have k0_0 : fac [z0,z1,z2]=0→z0=0 := fac_zero (by simp)
 have k0_1 : fac [z0,z1,z2]=0→z1=0 := fac_zero (by simp)
 have k0_2 : fac [z0,z1,z2]=0→z2=0 := fac_zero (by simp)
 generalize fac [z0,z1,z2]=g0 at *
 subst_vars; grind
theorem linePlain_f64 (z0 z1 z2 z3 z4 z6 z7 z8 z9 z10 z11 z12 z13 : Rat) : z3=z0*fac [z0,z1,z2]→z4=z1*fac [z0,z1,z2]→z8=z0*z6→z9=z1*z7→z10=z8+z9→z11=z10+z2→z12=z1*z3→z13=z0*z4→(z0=0)→(0 < z1)→(0 < z11)→z12=z13 := by
 intro e3 e4 e8 e9 e10 e11 e12 e13 u0 u1 u2
 have k0_0 : fac [z0,z1,z2]=0→z0=0 := fac_zero (by simp)
 have k0_1 : fac [z0,z1,z2]=0→z1=0 := fac_zero (by simp)
 have k0_2 : fac [z0,z1,z2]=0→z2=0 := fac_zero (by simp)
 generalize fac [z0,z1,z2]=g0 at *
 subst_vars; grind
theorem linePlain_f65 (z0 z1 z2 z3 z5 z6 z7 z8 z9 z10 z11 z14 z15 : Rat) : z3=z0*fac [z0,z1,z2]→z5=z2*fac [z0,z1,z2]→z8=z0*z6→z9=z1*z7→z10=z8+z9→z11=z10+z2→z14=z2*z3→z15=z0*z5→(z0=0)→(0 < z1)→(0 < z11)→z14=z15 := by
 intro e3 e5 e8 e9 e10 e11 e14 e15 u0 u1 u2
 have k0_0 : fac [z0,z1,z2]=0→z0=0 := fac_zero (by simp)
 have k0_1 : fac [z0,z1,z2]=0→z1=0 := fac_zero (by simp)
 have k0_2 : fac [z0,z1,z2]=0→z2=0 := fac_zero (by simp)
 generalize fac [z0,z1,z2]=g0 at *
 subst_vars; grind
theorem linePlain_f66 (z0 z1 z2 z4 z5 z6 z7 z8 z9 z10 z11 z16 z17 : Rat) : z4=z1*fac [z0,z1,z2]→z5=z2*fac [z0,z1,z2]→z8=z0*z6→z9=z1*z7→z10=z8+z9→z11=z10+z2→z16=z2*z4→z17=z1*z5→(z0=0)→(0 < z1)→(0 < z11)→z16=z17 := by
 intro e4 e5 e8 e9 e10 e11 e16 e17 u0 u1 u2
 have k0_0 : fac [z0,z1,z2]=0→z0=0 := fac_zero (by simp)
 have k0_1 : fac [z0,z1,z2]=0→z1=0 := fac_zero (by simp)
 have k0_2 : fac [z0,z1,z2]=0→z2=0 := fac_zero (by simp)
 generalize fac [z0,z1,z2]=g0 at *
 subst_vars; grind
theorem linePlain_f67 (z0 z1 z2 z3 z4 z5 z6 z7 z8 z9 z10 z11 z18 z19 z20 z21 : Rat) : z3=z0*fac [z0,z1,z2]→z4=z1*fac [z0,z1,z2]→z5=z2*fac [z0,z1,z2]→z8=z0*z6→z9=z1*z7→z10=z8+z9→z11=z10+z2→z18=z3*z6→z19=z4*z7→z20=z18+z19→z21=z20+z5→(z0=0)→(0 < z1)→(0 < z11)→0 < z21 := by
 intro e3 e4 e5 e8 e9 e10 e11 e18 e19 e20 e21 u0 u1 u2
 have k0_0 : fac [z0,z1,z2]=0→z0=0 := fac_zero (by simp)
 have k0_1 : fac [z0,z1,z2]=0→z1=0 := fac_zero (by simp)
 have k0_2 : fac [z0,z1,z2]=0→z2=0 := fac_zero (by simp)
 have l0_0 : z0 ≠ 0→0 < z0*fac [z0,z1,z2] := fac_lead0
 have l0_1 : z0=0→z1 ≠ 0→0 < z1*fac [z0,z1,z2] := fac_lead1
 generalize fac [z0,z1,z2]=g0 at *
 have q0 := prod_sgn z0 g0
 have q1 := prod_sgn z1 g0
 have qq10 := prod_sgn z10 g0
 have qq11 := prod_sgn z11 g0
 have qq20 := prod_sgn z20 g0
 have qq21 := prod_sgn z21 g0
 subst_vars; grind
theorem linePlain_f68 (z0 z1 z2 z6 z7 z8 z9 z10 z11 : Rat) : z8=z0*z6→z9=z1*z7→z10=z8+z9→z11=z10+z2→(0 < z0)→(z11 < 0)→¬ (z0=0) := by
 intro e8 e9 e10 e11 u0 u1
 subst_vars; grind
theorem linePlain_f69 (z0 z1 z2 z3 z6 z7 z8 z9 z10 z11 : Rat) : z3=z0*fac [z0,z1,z2]→z8=z0*z6→z9=z1*z7→z10=z8+z9→z11=z10+z2→(0 < z0)→(z11 < 0)→¬ (z3=0) := by
 intro e3 e8 e9 e10 e11 u0 u1
 have k0_0 : fac [z0,z1,z2]=0→z0=0 := fac_zero (by simp)
 have k0_1 : fac [z0,z1,z2]=0→z1=0 := fac_zero (by simp)
 have k0_2 : fac [z0,z1,z2]=0→z2=0 := fac_zero (by simp)
 generalize fac [z0,z1,z2]=g0 at *
 subst_vars; grind
theorem linePlain_f70 (z0 z1 z2 z3 z4 z6 z7 z8 z9 z10 z11 z12 z13 : Rat) : z3=z0*fac [z0,z1,z2]→z4=z1*fac [z0,z1,z2]→z8=z0*z6→z9=z1*z7→z10=z8+z9→z11=z10+z2→z12=z1*z3→z13=z0*z4→(0 < z0)→(z11 < 0)→z12=z13 := by
 intro e3 e4 e8 e9 e10 e11 e12 e13 u0 u1
 have k0_0 : fac [z0,z1,z2]=0→z0=0 := fac_zero (by simp)
 have k0_1 : fac [z0,z1,z2]=0→z1=0 := fac_zero (by simp)
 have k0_2 : fac [z0,z1,z2]=0→z2=0 := fac_zero (by simp)
 generalize fac [z0,z1,z2]=g0 at *
 subst_vars; grind
theorem linePlain_f71 (z0 z1 z2 z3 z5 z6 z7 z8 z9 z10 z11 z14 z15 : Rat) : z3=z0*fac [z0,z1,z2]→z5=z2*fac [z0,z1,z2]→z8=z0*z6→z9=z1*z7→z10=z8+z9→z11=z10+z2→z14=z2*z3→z15=z0*z5→(0 < z0)→(z11 < 0)→z14=z15 := by
 intro e3 e5 e8 e9 e10 e11 e14 e15 u0 u1
 have k0_0 : fac [z0,z1,z2]=0→z0=0 := fac_zero (by simp)
 have k0_1 : fac [z0,z1,z2]=0→z1=0 := fac_zero (by simp)
 have k0_2 : fac [z0,z1,z2]=0→z2=0 := fac_zero (by simp)
 generalize fac [z0,z1,z2]=g0 at *
 subst_vars; grind
theorem linePlain_f72 (z0 z1 z2 z4 z5 z6 z7 z8 z9 z10 z11 z16 z17 : Rat) : z4=z1*fac [z0,z1,z2]→z5=z2*fac [z0,z1,z2]→z8=z0*z6→z9=z1*z7→z10=z8+z9→z11=z10+z2→z16=z2*z4→z17=z1*z5→(0 < z0)→(z11 < 0)→z16=z17 := by
 intro e4 e5 e8 e9 e10 e11 e16 e17 u0 u1
 have k0_0 : fac [z0,z1,z2]=0→z0=0 := fac_zero (by simp)
 have k0_1 : fac [z0,z1,z2]=0→z1=0 := fac_zero (by simp)
 have k0_2 : fac [z0,z1,z2]=0→z2=0 := fac_zero (by simp)
 generalize fac [z0,z1,z2]=g0 at *
 subst_vars; grind
theorem linePlain_f73 (z0 z1 z2 z3 z4 z5 z6 z7 z8 z9 z10 z11 z18 z19 z20 z21 : Rat) : z3=z0*fac [z0,z1,z2]→z4=z1*fac [z0,z1,z2]→z5=z2*fac [z0,z1,z2]→z8=z0*z6→z9=z1*z7→z10=z8+z9→z11=z10+z2→z18=z3*z6→z19=z4*z7→z20=z18+z19→z21=z20+z5→(0 < z0)→(z11 < 0)→z21 < 0 := by
 intro e3 e4 e5 e8 e9 e10 e11 e18 e19 e20 e21 u0 u1
 have k0_0 : fac [z0,z1,z2]=0→z0=0 := fac_zero (by simp)
 have k0_1 : fac [z0,z1,z2]=0→z1=0 := fac_zero (by simp)
 have k0_2 : fac [z0,z1,z2]=0→z2=0 := fac_zero (by simp)
 have l0_0 : z0 ≠ 0→0 < z0*fac [z0,z1,z2] := fac_lead0
 have l0_1 : z0=0→z1 ≠ 0→0 < z1*fac [z0,z1,z2] := fac_lead1
 generalize fac [z0,z1,z2]=g0 at *
 have q0 := prod_sgn z0 g0
 have q1 := prod_sgn z1 g0
 have qq10 := prod_sgn z10 g0
 have qq11 := prod_sgn z11 g0
 have qq20 := prod_sgn z20 g0
 have qq21 := prod_sgn z21 g0
 subst_vars; grind
theorem linePlain_f74 (z0 z1 z2 z6 z7 z8 z9 z10 z11 : Rat) : z8=z0*z6→z9=z1*z7→z10=z8+z9→z11=z10+z2→(0 < z0)→(z11=0)→¬ (z0=0) := by
 intro e8 e9 e10 e11 u0 u1
 rw [u1] at e11
 subst_vars; grind
theorem linePlain_f75 (z0 z1 z2 z3 z6 z7 z8 z9 z10 z11 : Rat) : z3=z0*fac [z0,z1,z2]→z8=z0*z6→z9=z1*z7→z10=z8+z9→z11=z10+z2→(0 < z0)→(z11=0)→¬ (z3=0) := by
 intro e3 e8 e9 e10 e11 u0 u1
 rw [u1] at e11
 have k0_0 : fac [z0,z1,z2]=0→z0=0 := fac_zero (by simp)
 have k0_1 : fac [z0,z1,z2]=0→z1=0 := fac_zero (by simp)
 have k0_2 : fac [z0,z1,z2]=0→z2=0 := fac_zero (by simp)
 generalize fac [z0,z1,z2]=g0 at *
 subst_vars; grind
theorem linePlain_f76 (z0 z1 z2 z3 z4 z6 z7 z8 z9 z10 z11 z12 z13 : Rat) : z3=z0*fac [z0,z1,z2]→z4=z1*fac [z0,z1,z2]→z8=z0*z6→z9=z1*z7→z10=z8+z9→z11=z10+z2→z12=z1*z3→z13=z0*z4→(0 < z0)→(z11=0)→z12=z13 := by
 intro e3 e4 e8 e9 e10 e11 e12 e13 u0 u1
 rw [u1] at e11
 have k0_0 : fac [z0,z1,z2]=0→z0=0 := fac_zero (by simp)
 have k0_1 : fac [z0,z1,z2]=0→z1=0 := fac_zero (by simp)
 have k0_2 : fac [z0,z1,z2]=0→z2=0 := fac_zero (by simp)
 generalize fac [z0,z1,z2]=g0 at *
 subst_vars; grind
theorem linePlain_f77 (z0 z1 z2 z3 z5 z6 z7 z8 z9 z10 z11 z14 z15 : Rat) : z3=z0*fac [z0,z1,z2]→z5=z2*fac [z0,z1,z2]→z8=z0*z6→z9=z1*z7→z10=z8+z9→z11=z10+z2→z14=z2*z3→z15=z0*z5→(0 < z0)→(z11=0)→z14=z15 := by
 intro e3 e5 e8 e9 e10 e11 e14 e15 u0 u1
 rw [u1] at e11
 have k0_0 : fac [z0,z1,z2]=0→z0=0 := fac_zero (by simp)
 have k0_1 : fac [z0,z1,z2]=0→z1=0 := fac_zero (by simp)
 have k0_2 : fac [z0,z1,z2]=0→z2=0 := fac_zero (by simp)
 generalize fac [z0,z1,z2]=g0 at *
 subst_vars; grind
theorem linePlain_f78 (z0 z1 z2 z4 z5 z6 z7 z8 z9 z10 z11 z16 z17 : Rat) : z4=z1*fac [z0,z1,z2]→z5=z2*fac [z0,z1,z2]→z8=z0*z6→z9=z1*z7→z10=z8+z9→z11=z10+z2→z16=z2*z4→z17=z1*z5→(0 < z0)→(z11=0)→z16=z17 := by
 intro e4 e5 e8 e9 e10 e11 e16 e17 u0 u1
 rw [u1] at e11
 have k0_0 : fac [z0,z1,z2]=0→z0=0 := fac_zero (by simp)
 have k0_1 : fac [z0,z1,z2]=0→z1=0 := fac_zero (by simp)
 have k0_2 : fac [z0,z1,z2]=0→z2=0 := fac_zero (by simp)
 generalize fac [z0,z1,z2]=g0 at *
 subst_vars; grind
theorem linePlain_f79 (z0 z1 z2 z3 z4 z5 z6 z7 z8 z9 z10 z11 z18 z19 z20 z21 : Rat) : z3=z0*fac [z0,z1,z2]→z4=z1*fac [z0,z1,z2]→z5=z2*fac [z0,z1,z2]→z8=z0*z6→z9=z1*z7→z10=z8+z9→z11=z10+z2→z18=z3*z6→z19=z4*z7→z20=z18+z19→z21=z20+z5→(0 < z0)→(z11=0)→z21=0 := by
 intro e3 e4 e5 e8 e9 e10 e11 e18 e19 e20 e21 u0 u1
 rw [u1] at e11
 have k0_0 : fac [z0,z1,z2]=0→z0=0 := fac_zero (by simp)
 have k0_1 : fac [z0,z1,z2]=0→z1=0 := fac_zero (by simp)
 have k0_2 : fac [z0,z1,z2]=0→z2=0 := fac_zero (by simp)
 have l0_0 : z0 ≠ 0→0 < z0*fac [z0,z1,z2] := fac_lead0
 have l0_1 : z0=0→z1 ≠ 0→0 < z1*fac [z0,z1,z2] := fac_lead1
 generalize fac [z0,z1,z2]=g0 at *
 have q0 := prod_sgn z0 g0
 have q1 := prod_sgn z1 g0
 have qq10 := prod_sgn z10 g0
 have qq11 := prod_sgn z11 g0
 have qq20 := prod_sgn z20 g0
 have qq21 := prod_sgn z21 g0
 subst_vars; grind
theorem linePlain_f80 (z0 z1 z2 z6 z7 z8 z9 z10 z11 : Rat) : z8=z0*z6→z9=z1*z7→z10=z8+z9→z11=z10+z2→(0 < z0)→(0 < z11)→¬ (z0=0) := by
 intro e8 e9 e10 e11 u0 u1
 subst_vars; grind
theorem linePlain_f81 (z0 z1 z2 z3 z6 z7 z8 z9 z10 z11 : Rat) : z3=z0*fac [z0,z1,z2]→z8=z0*z6→z9=z1*z7→z10=z8+z9→z11=z10+z2→(0 < z0)→(0 < z11)→¬ (z3=0) := by
 intro e3 e8 e9 e10 e11 u0 u1
 have k0_0 : fac [z0,z1,z2]=0→z0=0 := fac_zero (by simp)
 have k0_1 : fac [z0,z1,z2]=0→z1=0 := fac_zero (by simp)
 have k0_2 : fac [z0,z1,z2]=0→z2=0 := fac_zero (by simp)
 generalize fac [z0,z1,z2]=g0 at *
 subst_vars; grind
theorem linePlain_f82 (z0 z1 z2 z3 z4 z6 z7 z8 z9 z10 z11 z12 z13 : Rat) : z3=z0*fac [z0,z1,z2]→z4=z1*fac [z0,z1,z2]→z8=z0*z6→z9=z1*z7→z10=z8+z9→z11=z10+z2→z12=z1*z3→z13=z0*z4→(0 < z0)→(0 < z11)→z12=z13 := by
 intro e3 e4 e8 e9 e10 e11 e12 e13 u0 u1
 have k0_0 : fac [z0,z1,z2]=0→z0=0 := fac_zero (by simp)
 have k0_1 : fac [z0,z1,z2]=0→z1=0 := fac_zero (by simp)
 have k0_2 : fac [z0,z1,z2]=0→z2=0 := fac_zero (by simp)
 generalize fac [z0,z1,z2]=g0 at *
 subst_vars; grind
theorem linePlain_f83 (z0 z1 z2 z3 z5 z6 z7 z8 z9 z10 z11 z14 z15 : Rat) : z3=z0*fac [z0,z1,z2]→z5=z2*fac [z0,z1,z2]→z8=z0*z6→z9=z1*z7→z10=z8+z9→z11=z10+z2→z14=z2*z3→z15=z0*z5→(0 < z0)→(0 < z11)→z14=z15 := by
 intro e3 e5 e8 e9 e10 e11 e14 e15 u0 u1
 have k0_0 : fac [z0,z1,z2]=0→z0=0 := fac_zero (by simp)
 have k0_1 : fac [z0,z1,z2]=0→z1=0 := fac_zero (by simp)
 have k0_2 : fac [z0,z1,z2]=0→z2=0 := fac_zero (by simp)
 generalize fac [z0,z1,z2]=g0 at *
 subst_vars; grind
theorem linePlain_f84 (z0 z1 z2 z4 z5 z6 z7 z8 z9 z10 z11 z16 z17 : Rat) : z4=z1*fac [z0,z1,z2]→z5=z2*fac [z0,z1,z2]→z8=z0*z6→z9=z1*z7→z10=z8+z9→z11=z10+z2→z16=z2*z4→z17=z1*z5→(0 < z0)→(0 < z11)→z16=z17 := by
 intro e4 e5 e8 e9 e10 e11 e16 e17 u0 u1
 have k0_0 : fac [z0,z1,z2]=0→z0=0 := fac_zero (by simp)
 have k0_1 : fac [z0,z1,z2]=0→z1=0 := fac_zero (by simp)
 have k0_2 : fac [z0,z1,z2]=0→z2=0 := fac_zero (by simp)
 generalize fac [z0,z1,z2]=g0 at *
 subst_vars; grind
theorem linePlain_f85 (z0 z1 z2 z3 z4 z5 z6 z7 z8 z9 z10 z11 z18 z19 z20 z21 : Rat) : z3=z0*fac [z0,z1,z2]→z4=z1*fac [z0,z1,z2]→z5=z2*fac [z0,z1,z2]→z8=z0*z6→z9=z1*z7→z10=z8+z9→z11=z10+z2→z18=z3*z6→z19=z4*z7→z20=z18+z19→z21=z20+z5→(0 < z0)→(0 < z11)→0 < z21 := by
 intro e3 e4 e5 e8 e9 e10 e11 e18 e19 e20 e21 u0 u1
 have k0_0 : fac [z0,z1,z2]=0→z0=0 := fac_zero (by simp)
 have k0_1 : fac [z0,z1,z2]=0→z1=0 := fac_zero (by simp)
 have k0_2 : fac [z0,z1,z2]=0→z2=0 := fac_zero (by simp)
 have l0_0 : z0 ≠ 0→0 < z0*fac [z0,z1,z2] := fac_lead0
 have l0_1 : z0=0→z1 ≠ 0→0 < z1*fac [z0,z1,z2] := fac_lead1
 generalize fac [z0,z1,z2]=g0 at *
 have q0 := prod_sgn z0 g0
 have q1 := prod_sgn z1 g0
 have qq10 := prod_sgn z10 g0
 have qq11 := prod_sgn z11 g0
 have qq20 := prod_sgn z20 g0
 have qq21 := prod_sgn z21 g0
 subst_vars; grind
theorem linePlain_r0 : (callB (sx Tryz.prog linePlain_N [(5,0,0,0),(5,11,0,0),(0,0,0,0),(0,3,0,0),(3,12,13,1),(3,14,15,1),(3,16,17,1),(5,21,0,2)] [] linePlain_L linePlain_C linePlain_Z (prC [62])) 5 8 [(false,[(true,[.inr (2,0,0,0,0),.inr (2,1,0,0,0),.inr (2,2,0,0,0)])]),(false,[(true,[.inr (2,3,0,0,0),.inr (2,4,0,0,0)])])] [] 0).map (·.1)=some (kB true) := by kernel_rfl
theorem linePlain_r1 : (callB (sx Tryz.prog linePlain_N [(5,0,0,0),(5,11,0,1),(0,0,0,0),(0,3,0,0),(3,12,13,1),(3,14,15,1),(3,16,17,1),(5,21,0,1)] [] linePlain_L linePlain_C linePlain_Z (prC [62])) 5 8 [(false,[(true,[.inr (2,0,0,0,0),.inr (2,1,0,0,0),.inr (2,2,0,0,0)])]),(false,[(true,[.inr (2,3,0,0,0),.inr (2,4,0,0,0)])])] [] 0).map (·.1)=some (kB true) := by kernel_rfl
theorem linePlain_r2 : (callB (sx Tryz.prog linePlain_N [(5,0,0,0),(5,11,0,2),(0,0,0,0),(0,3,0,0),(3,12,13,1),(3,14,15,1),(3,16,17,1),(5,21,0,0)] [] linePlain_L linePlain_C linePlain_Z (prC [62])) 5 8 [(false,[(true,[.inr (2,0,0,0,0),.inr (2,1,0,0,0),.inr (2,2,0,0,0)])]),(false,[(true,[.inr (2,3,0,0,0),.inr (2,4,0,0,0)])])] [] 0).map (·.1)=some (kB true) := by kernel_rfl
theorem linePlain_r3 : (callB (sx Tryz.prog linePlain_N [(5,0,0,1),(5,1,0,0),(5,11,0,0),(0,0,0,1),(0,1,0,0),(0,3,0,1),(0,4,0,0),(3,12,13,1),(3,14,15,1),(3,16,17,1),(5,21,0,2)] [] linePlain_L linePlain_C linePlain_Z (prC [62])) 5 8 [(false,[(true,[.inr (2,0,0,0,0),.inr (2,1,0,0,0),.inr (2,2,0,0,0)])]),(false,[(true,[.inr (2,3,0,0,0),.inr (2,4,0,0,0)])])] [] 0).map (·.1)=some (kB true) := by kernel_rfl
theorem linePlain_r4 : (callB (sx Tryz.prog linePlain_N [(5,0,0,1),(5,1,0,0),(5,11,0,1),(0,0,0,1),(0,1,0,0),(0,3,0,1),(0,4,0,0),(3,12,13,1),(3,14,15,1),(3,16,17,1),(5,21,0,1)] [] linePlain_L linePlain_C linePlain_Z (prC [62])) 5 8 [(false,[(true,[.inr (2,0,0,0,0),.inr (2,1,0,0,0),.inr (2,2,0,0,0)])]),(false,[(true,[.inr (2,3,0,0,0),.inr (2,4,0,0,0)])])] [] 0).map (·.1)=some (kB true) := by kernel_rfl
theorem linePlain_r5 : (callB (sx Tryz.prog linePlain_N [(5,0,0,1),(5,1,0,0),(5,11,0,2),(0,0,0,1),(0,1,0,0),(0,3,0,1),(0,4,0,0),(3,12,13,1),(3,14,15,1),(3,16,17,1),(5,21,0,0)] [] linePlain_L linePlain_C linePlain_Z (prC [62])) 5 8 [(false,[(true,[.inr (2,0,0,0,0),.inr (2,1,0,0,0),.inr (2,2,0,0,0)])]),(false,[(true,[.inr (2,3,0,0,0),.inr (2,4,0,0,0)])])] [] 0).map (·.1)=some (kB true) := by kernel_rfl
theorem linePlain_r6 : (callB (sx Tryz.prog linePlain_N [(5,0,0,1),(5,1,0,1),(0,0,0,1),(0,1,0,1)] [] linePlain_L linePlain_C linePlain_Z (prC [62])) 5 8 [(false,[(true,[.inr (2,0,0,0,0),.inr (2,1,0,0,0),.inr (2,2,0,0,0)])]),(false,[(true,[.inr (2,3,0,0,0),.inr (2,4,0,0,0)])])] [] 0).map (·.1)=some (kB true) := by kernel_rfl
theorem linePlain_r7 : (callB (sx Tryz.prog linePlain_N [(5,0,0,1),(5,1,0,2),(5,11,0,0),(0,0,0,1),(0,1,0,0),(0,3,0,1),(0,4,0,0),(3,12,13,1),(3,14,15,1),(3,16,17,1),(5,21,0,0)] [] linePlain_L linePlain_C linePlain_Z (prC [62])) 5 8 [(false,[(true,[.inr (2,0,0,0,0),.inr (2,1,0,0,0),.inr (2,2,0,0,0)])]),(false,[(true,[.inr (2,3,0,0,0),.inr (2,4,0,0,0)])])] [] 0).map (·.1)=some (kB true) := by kernel_rfl
theorem linePlain_r8 : (callB (sx Tryz.prog linePlain_N [(5,0,0,1),(5,1,0,2),(5,11,0,1),(0,0,0,1),(0,1,0,0),(0,3,0,1),(0,4,0,0),(3,12,13,1),(3,14,15,1),(3,16,17,1),(5,21,0,1)] [] linePlain_L linePlain_C linePlain_Z (prC [62])) 5 8 [(false,[(true,[.inr (2,0,0,0,0),.inr (2,1,0,0,0),.inr (2,2,0,0,0)])]),(false,[(true,[.inr (2,3,0,0,0),.inr (2,4,0,0,0)])])] [] 0).map (·.1)=some (kB true) := by kernel_rfl
theorem linePlain_r9 : (callB (sx Tryz.prog linePlain_N [(5,0,0,1),(5,1,0,2),(5,11,0,2),(0,0,0,1),(0,1,0,0),(0,3,0,1),(0,4,0,0),(3,12,13,1),(3,14,15,1),(3,16,17,1),(5,21,0,2)] [] linePlain_L linePlain_C linePlain_Z (prC [62])) 5 8 [(false,[(true,[.inr (2,0,0,0,0),.inr (2,1,0,0,0),.inr (2,2,0,0,0)])]),(false,[(true,[.inr (2,3,0,0,0),.inr (2,4,0,0,0)])])] [] 0).map (·.1)=some (kB true) := by kernel_rfl
theorem linePlain_r10 : (callB (sx Tryz.prog linePlain_N [(5,0,0,2),(5,11,0,0),(0,0,0,0),(0,3,0,0),(3,12,13,1),(3,14,15,1),(3,16,17,1),(5,21,0,0)] [] linePlain_L linePlain_C linePlain_Z (prC [62])) 5 8 [(false,[(true,[.inr (2,0,0,0,0),.inr (2,1,0,0,0),.inr (2,2,0,0,0)])]),(false,[(true,[.inr (2,3,0,0,0),.inr (2,4,0,0,0)])])] [] 0).map (·.1)=some (kB true) := by kernel_rfl
theorem linePlain_r11 : (callB (sx Tryz.prog linePlain_N [(5,0,0,2),(5,11,0,1),(0,0,0,0),(0,3,0,0),(3,12,13,1),(3,14,15,1),(3,16,17,1),(5,21,0,1)] [] linePlain_L linePlain_C linePlain_Z (prC [62])) 5 8 [(false,[(true,[.inr (2,0,0,0,0),.inr (2,1,0,0,0),.inr (2,2,0,0,0)])]),(false,[(true,[.inr (2,3,0,0,0),.inr (2,4,0,0,0)])])] [] 0).map (·.1)=some (kB true) := by kernel_rfl
theorem linePlain_r12 : (callB (sx Tryz.prog linePlain_N [(5,0,0,2),(5,11,0,2),(0,0,0,0),(0,3,0,0),(3,12,13,1),(3,14,15,1),(3,16,17,1),(5,21,0,2)] [] linePlain_L linePlain_C linePlain_Z (prC [62])) 5 8 [(false,[(true,[.inr (2,0,0,0,0),.inr (2,1,0,0,0),.inr (2,2,0,0,0)])]),(false,[(true,[.inr (2,3,0,0,0),.inr (2,4,0,0,0)])])] [] 0).map (·.1)=some (kB true) := by kernel_rfl
theorem linePlain_An {a b : Prop} (x : a) (y : b) : a∧b := ⟨x,y⟩
theorem linePlain_leaf {H : List (Nat × Nat × Nat × Nat)} {K : List (FuncId × List AC)} {k : Nat} {q : Nat→Rat} {σ : Nat→ByteArray} {args : List AV} {vs : List Value} {w : World} (hr : (callB (sx Tryz.prog linePlain_N H K linePlain_L linePlain_C linePlain_Z (prC [62])) k 8 args [] 0).map (·.1)=some (kB true)) (hσ : ∀ j,(σ j).size≤1048576) (hq : ∀ (a : Nat) nd,linePlain_N[a]? = some nd→q a=valN σ q nd) (h0 : ∀ a,linePlain_N.length≤a→q a=0) (hH : hAll q H) (hp : PreS w) (hA : ∀ K,A2 (avOn (cOn (evS q σ) K (fun _ => none) w)) args vs) : Calls Tryz.prog 8 vs.toArray w fun e w' => Below w.heap.size w w'∧e=.returned (.bool true) :=
 run_told' k (hy_of hσ linePlain_wf linePlain_sz linePlain_lt linePlain_cn hq h0 hH) (by simp [closed_lined]) (by kernel_rfl) hr hp (hA K)
theorem linePlain_walk {w : World} {la lb lc px pz : ByteArray} (sla : la.size≤1048576) (slb : lb.size≤1048576) (slc : lc.size≤1048576) (spx : px.size≤1048576) (spz : pz.size≤1048576) (tab : Tab w) (mx : MaxL w) :
  Calls Tryz.prog 8 #[.agg #[.string la,.string lb,.string lc],.agg #[.string px,.string pz]] w fun e w' => Below w.heap.size w w'∧e=.returned (.bool true) := by
 have hσ : ∀ j,(sgOf [la,lb,lc,px,pz] j).size≤1048576 := sgOf_size (by simp [sla,slb,slc,spx,spz])
 obtain ⟨q,hq,h0⟩ := nodes_exist (sgOf [la,lb,lc,px,pz]) linePlain_N linePlain_wf
 have hA : ∀ K,A2 (avOn (cOn (evS q (sgOf [la,lb,lc,px,pz])) K (fun _ => none) w)) [(false,[(true,[.inr (2,0,0,0,0),.inr (2,1,0,0,0),.inr (2,2,0,0,0)])]),(false,[(true,[.inr (2,3,0,0,0),.inr (2,4,0,0,0)])])] [.agg #[.string la,.string lb,.string lc],.agg #[.string px,.string pz]] := fun K => ⟨⟨⟨[.string la,.string lb,.string lc],rfl,rfl,rfl,rfl,trivial⟩,trivial⟩,⟨⟨[.string px,.string pz],rfl,rfl,rfl,trivial⟩,trivial⟩,trivial⟩
 rcases tri (q 0) with a_5_0_0 | a_5_0_0 | a_5_0_0
 ·
  rcases tri (q 11) with a_5_11_0 | a_5_11_0 | a_5_11_0
  ·
   have b0 : ¬ (q 0=0) := linePlain_f0 (q 0) (q 1) (q 2) (q 6) (q 7) (q 8) (q 9) (q 10) (q 11) (hq 8 _ rfl) (hq 9 _ rfl) (hq 10 _ rfl) (hq 11 _ rfl) a_5_0_0 a_5_11_0
   have b3 : ¬ (q 3=0) := linePlain_f1 (q 0) (q 1) (q 2) (q 3) (q 6) (q 7) (q 8) (q 9) (q 10) (q 11) (hq 3 _ rfl) (hq 8 _ rfl) (hq 9 _ rfl) (hq 10 _ rfl) (hq 11 _ rfl) a_5_0_0 a_5_11_0
   have a_3_12_13 : q 12=q 13 := linePlain_f2 (q 0) (q 1) (q 2) (q 3) (q 4) (q 6) (q 7) (q 8) (q 9) (q 10) (q 11) (q 12) (q 13) (hq 3 _ rfl) (hq 4 _ rfl) (hq 8 _ rfl) (hq 9 _ rfl) (hq 10 _ rfl) (hq 11 _ rfl) (hq 12 _ rfl) (hq 13 _ rfl) a_5_0_0 a_5_11_0
   have a_3_14_15 : q 14=q 15 := linePlain_f3 (q 0) (q 1) (q 2) (q 3) (q 5) (q 6) (q 7) (q 8) (q 9) (q 10) (q 11) (q 14) (q 15) (hq 3 _ rfl) (hq 5 _ rfl) (hq 8 _ rfl) (hq 9 _ rfl) (hq 10 _ rfl) (hq 11 _ rfl) (hq 14 _ rfl) (hq 15 _ rfl) a_5_0_0 a_5_11_0
   have a_3_16_17 : q 16=q 17 := linePlain_f4 (q 0) (q 1) (q 2) (q 4) (q 5) (q 6) (q 7) (q 8) (q 9) (q 10) (q 11) (q 16) (q 17) (hq 4 _ rfl) (hq 5 _ rfl) (hq 8 _ rfl) (hq 9 _ rfl) (hq 10 _ rfl) (hq 11 _ rfl) (hq 16 _ rfl) (hq 17 _ rfl) a_5_0_0 a_5_11_0
   have a_5_21_0 : 0 < q 21 := linePlain_f5 (q 0) (q 1) (q 2) (q 3) (q 4) (q 5) (q 6) (q 7) (q 8) (q 9) (q 10) (q 11) (q 18) (q 19) (q 20) (q 21) (hq 3 _ rfl) (hq 4 _ rfl) (hq 5 _ rfl) (hq 8 _ rfl) (hq 9 _ rfl) (hq 10 _ rfl) (hq 11 _ rfl) (hq 18 _ rfl) (hq 19 _ rfl) (hq 20 _ rfl) (hq 21 _ rfl) a_5_0_0 a_5_11_0
   exact linePlain_leaf linePlain_r0 hσ hq h0 (linePlain_An (h50 a_5_0_0) (linePlain_An (h50 a_5_11_0) (linePlain_An (hF b0) (linePlain_An (hF b3) (linePlain_An (hT a_3_12_13) (linePlain_An (hT a_3_14_15) (linePlain_An (hT a_3_16_17) (linePlain_An (h52 a_5_21_0) trivial)))))))) ⟨tab,mx⟩ hA
  ·
   have b0 : ¬ (q 0=0) := linePlain_f6 (q 0) (q 1) (q 2) (q 6) (q 7) (q 8) (q 9) (q 10) (q 11) (hq 8 _ rfl) (hq 9 _ rfl) (hq 10 _ rfl) (hq 11 _ rfl) a_5_0_0 a_5_11_0
   have b3 : ¬ (q 3=0) := linePlain_f7 (q 0) (q 1) (q 2) (q 3) (q 6) (q 7) (q 8) (q 9) (q 10) (q 11) (hq 3 _ rfl) (hq 8 _ rfl) (hq 9 _ rfl) (hq 10 _ rfl) (hq 11 _ rfl) a_5_0_0 a_5_11_0
   have a_3_12_13 : q 12=q 13 := linePlain_f8 (q 0) (q 1) (q 2) (q 3) (q 4) (q 6) (q 7) (q 8) (q 9) (q 10) (q 11) (q 12) (q 13) (hq 3 _ rfl) (hq 4 _ rfl) (hq 8 _ rfl) (hq 9 _ rfl) (hq 10 _ rfl) (hq 11 _ rfl) (hq 12 _ rfl) (hq 13 _ rfl) a_5_0_0 a_5_11_0
   have a_3_14_15 : q 14=q 15 := linePlain_f9 (q 0) (q 1) (q 2) (q 3) (q 5) (q 6) (q 7) (q 8) (q 9) (q 10) (q 11) (q 14) (q 15) (hq 3 _ rfl) (hq 5 _ rfl) (hq 8 _ rfl) (hq 9 _ rfl) (hq 10 _ rfl) (hq 11 _ rfl) (hq 14 _ rfl) (hq 15 _ rfl) a_5_0_0 a_5_11_0
   have a_3_16_17 : q 16=q 17 := linePlain_f10 (q 0) (q 1) (q 2) (q 4) (q 5) (q 6) (q 7) (q 8) (q 9) (q 10) (q 11) (q 16) (q 17) (hq 4 _ rfl) (hq 5 _ rfl) (hq 8 _ rfl) (hq 9 _ rfl) (hq 10 _ rfl) (hq 11 _ rfl) (hq 16 _ rfl) (hq 17 _ rfl) a_5_0_0 a_5_11_0
   have a_5_21_0 : q 21=0 := linePlain_f11 (q 0) (q 1) (q 2) (q 3) (q 4) (q 5) (q 6) (q 7) (q 8) (q 9) (q 10) (q 11) (q 18) (q 19) (q 20) (q 21) (hq 3 _ rfl) (hq 4 _ rfl) (hq 5 _ rfl) (hq 8 _ rfl) (hq 9 _ rfl) (hq 10 _ rfl) (hq 11 _ rfl) (hq 18 _ rfl) (hq 19 _ rfl) (hq 20 _ rfl) (hq 21 _ rfl) a_5_0_0 a_5_11_0
   exact linePlain_leaf linePlain_r1 hσ hq h0 (linePlain_An (h50 a_5_0_0) (linePlain_An (h51 a_5_11_0) (linePlain_An (hF b0) (linePlain_An (hF b3) (linePlain_An (hT a_3_12_13) (linePlain_An (hT a_3_14_15) (linePlain_An (hT a_3_16_17) (linePlain_An (h51 a_5_21_0) trivial)))))))) ⟨tab,mx⟩ hA
  ·
   have b0 : ¬ (q 0=0) := linePlain_f12 (q 0) (q 1) (q 2) (q 6) (q 7) (q 8) (q 9) (q 10) (q 11) (hq 8 _ rfl) (hq 9 _ rfl) (hq 10 _ rfl) (hq 11 _ rfl) a_5_0_0 a_5_11_0
   have b3 : ¬ (q 3=0) := linePlain_f13 (q 0) (q 1) (q 2) (q 3) (q 6) (q 7) (q 8) (q 9) (q 10) (q 11) (hq 3 _ rfl) (hq 8 _ rfl) (hq 9 _ rfl) (hq 10 _ rfl) (hq 11 _ rfl) a_5_0_0 a_5_11_0
   have a_3_12_13 : q 12=q 13 := linePlain_f14 (q 0) (q 1) (q 2) (q 3) (q 4) (q 6) (q 7) (q 8) (q 9) (q 10) (q 11) (q 12) (q 13) (hq 3 _ rfl) (hq 4 _ rfl) (hq 8 _ rfl) (hq 9 _ rfl) (hq 10 _ rfl) (hq 11 _ rfl) (hq 12 _ rfl) (hq 13 _ rfl) a_5_0_0 a_5_11_0
   have a_3_14_15 : q 14=q 15 := linePlain_f15 (q 0) (q 1) (q 2) (q 3) (q 5) (q 6) (q 7) (q 8) (q 9) (q 10) (q 11) (q 14) (q 15) (hq 3 _ rfl) (hq 5 _ rfl) (hq 8 _ rfl) (hq 9 _ rfl) (hq 10 _ rfl) (hq 11 _ rfl) (hq 14 _ rfl) (hq 15 _ rfl) a_5_0_0 a_5_11_0
   have a_3_16_17 : q 16=q 17 := linePlain_f16 (q 0) (q 1) (q 2) (q 4) (q 5) (q 6) (q 7) (q 8) (q 9) (q 10) (q 11) (q 16) (q 17) (hq 4 _ rfl) (hq 5 _ rfl) (hq 8 _ rfl) (hq 9 _ rfl) (hq 10 _ rfl) (hq 11 _ rfl) (hq 16 _ rfl) (hq 17 _ rfl) a_5_0_0 a_5_11_0
   have a_5_21_0 : q 21 < 0 := linePlain_f17 (q 0) (q 1) (q 2) (q 3) (q 4) (q 5) (q 6) (q 7) (q 8) (q 9) (q 10) (q 11) (q 18) (q 19) (q 20) (q 21) (hq 3 _ rfl) (hq 4 _ rfl) (hq 5 _ rfl) (hq 8 _ rfl) (hq 9 _ rfl) (hq 10 _ rfl) (hq 11 _ rfl) (hq 18 _ rfl) (hq 19 _ rfl) (hq 20 _ rfl) (hq 21 _ rfl) a_5_0_0 a_5_11_0
   exact linePlain_leaf linePlain_r2 hσ hq h0 (linePlain_An (h50 a_5_0_0) (linePlain_An (h52 a_5_11_0) (linePlain_An (hF b0) (linePlain_An (hF b3) (linePlain_An (hT a_3_12_13) (linePlain_An (hT a_3_14_15) (linePlain_An (hT a_3_16_17) (linePlain_An (h50 a_5_21_0) trivial)))))))) ⟨tab,mx⟩ hA
 ·
  rcases tri (q 1) with a_5_1_0 | a_5_1_0 | a_5_1_0
  ·
   rcases tri (q 11) with a_5_11_0 | a_5_11_0 | a_5_11_0
   ·
    have b0 : q 0=0 := linePlain_f18 (q 0) (q 1) (q 2) (q 6) (q 7) (q 8) (q 9) (q 10) (q 11) (hq 8 _ rfl) (hq 9 _ rfl) (hq 10 _ rfl) (hq 11 _ rfl) a_5_0_0 a_5_1_0 a_5_11_0
    have b1 : ¬ (q 1=0) := linePlain_f19 (q 0) (q 1) (q 2) (q 6) (q 7) (q 8) (q 9) (q 10) (q 11) (hq 8 _ rfl) (hq 9 _ rfl) (hq 10 _ rfl) (hq 11 _ rfl) a_5_0_0 a_5_1_0 a_5_11_0
    have b3 : q 3=0 := linePlain_f20 (q 0) (q 1) (q 2) (q 3) (q 6) (q 7) (q 8) (q 9) (q 10) (q 11) (hq 3 _ rfl) (hq 8 _ rfl) (hq 9 _ rfl) (hq 10 _ rfl) (hq 11 _ rfl) a_5_0_0 a_5_1_0 a_5_11_0
    have b4 : ¬ (q 4=0) := linePlain_f21 (q 0) (q 1) (q 2) (q 4) (q 6) (q 7) (q 8) (q 9) (q 10) (q 11) (hq 4 _ rfl) (hq 8 _ rfl) (hq 9 _ rfl) (hq 10 _ rfl) (hq 11 _ rfl) a_5_0_0 a_5_1_0 a_5_11_0
    have a_3_12_13 : q 12=q 13 := linePlain_f22 (q 0) (q 1) (q 2) (q 3) (q 4) (q 6) (q 7) (q 8) (q 9) (q 10) (q 11) (q 12) (q 13) (hq 3 _ rfl) (hq 4 _ rfl) (hq 8 _ rfl) (hq 9 _ rfl) (hq 10 _ rfl) (hq 11 _ rfl) (hq 12 _ rfl) (hq 13 _ rfl) a_5_0_0 a_5_1_0 a_5_11_0
    have a_3_14_15 : q 14=q 15 := linePlain_f23 (q 0) (q 1) (q 2) (q 3) (q 5) (q 6) (q 7) (q 8) (q 9) (q 10) (q 11) (q 14) (q 15) (hq 3 _ rfl) (hq 5 _ rfl) (hq 8 _ rfl) (hq 9 _ rfl) (hq 10 _ rfl) (hq 11 _ rfl) (hq 14 _ rfl) (hq 15 _ rfl) a_5_0_0 a_5_1_0 a_5_11_0
    have a_3_16_17 : q 16=q 17 := linePlain_f24 (q 0) (q 1) (q 2) (q 4) (q 5) (q 6) (q 7) (q 8) (q 9) (q 10) (q 11) (q 16) (q 17) (hq 4 _ rfl) (hq 5 _ rfl) (hq 8 _ rfl) (hq 9 _ rfl) (hq 10 _ rfl) (hq 11 _ rfl) (hq 16 _ rfl) (hq 17 _ rfl) a_5_0_0 a_5_1_0 a_5_11_0
    have a_5_21_0 : 0 < q 21 := linePlain_f25 (q 0) (q 1) (q 2) (q 3) (q 4) (q 5) (q 6) (q 7) (q 8) (q 9) (q 10) (q 11) (q 18) (q 19) (q 20) (q 21) (hq 3 _ rfl) (hq 4 _ rfl) (hq 5 _ rfl) (hq 8 _ rfl) (hq 9 _ rfl) (hq 10 _ rfl) (hq 11 _ rfl) (hq 18 _ rfl) (hq 19 _ rfl) (hq 20 _ rfl) (hq 21 _ rfl) a_5_0_0 a_5_1_0 a_5_11_0
    exact linePlain_leaf linePlain_r3 hσ hq h0 (linePlain_An (h51 a_5_0_0) (linePlain_An (h50 a_5_1_0) (linePlain_An (h50 a_5_11_0) (linePlain_An (hT b0) (linePlain_An (hF b1) (linePlain_An (hT b3) (linePlain_An (hF b4) (linePlain_An (hT a_3_12_13) (linePlain_An (hT a_3_14_15) (linePlain_An (hT a_3_16_17) (linePlain_An (h52 a_5_21_0) trivial))))))))))) ⟨tab,mx⟩ hA
   ·
    have b0 : q 0=0 := linePlain_f26 (q 0) (q 1) (q 2) (q 6) (q 7) (q 8) (q 9) (q 10) (q 11) (hq 8 _ rfl) (hq 9 _ rfl) (hq 10 _ rfl) (hq 11 _ rfl) a_5_0_0 a_5_1_0 a_5_11_0
    have b1 : ¬ (q 1=0) := linePlain_f27 (q 0) (q 1) (q 2) (q 6) (q 7) (q 8) (q 9) (q 10) (q 11) (hq 8 _ rfl) (hq 9 _ rfl) (hq 10 _ rfl) (hq 11 _ rfl) a_5_0_0 a_5_1_0 a_5_11_0
    have b3 : q 3=0 := linePlain_f28 (q 0) (q 1) (q 2) (q 3) (q 6) (q 7) (q 8) (q 9) (q 10) (q 11) (hq 3 _ rfl) (hq 8 _ rfl) (hq 9 _ rfl) (hq 10 _ rfl) (hq 11 _ rfl) a_5_0_0 a_5_1_0 a_5_11_0
    have b4 : ¬ (q 4=0) := linePlain_f29 (q 0) (q 1) (q 2) (q 4) (q 6) (q 7) (q 8) (q 9) (q 10) (q 11) (hq 4 _ rfl) (hq 8 _ rfl) (hq 9 _ rfl) (hq 10 _ rfl) (hq 11 _ rfl) a_5_0_0 a_5_1_0 a_5_11_0
    have a_3_12_13 : q 12=q 13 := linePlain_f30 (q 0) (q 1) (q 2) (q 3) (q 4) (q 6) (q 7) (q 8) (q 9) (q 10) (q 11) (q 12) (q 13) (hq 3 _ rfl) (hq 4 _ rfl) (hq 8 _ rfl) (hq 9 _ rfl) (hq 10 _ rfl) (hq 11 _ rfl) (hq 12 _ rfl) (hq 13 _ rfl) a_5_0_0 a_5_1_0 a_5_11_0
    have a_3_14_15 : q 14=q 15 := linePlain_f31 (q 0) (q 1) (q 2) (q 3) (q 5) (q 6) (q 7) (q 8) (q 9) (q 10) (q 11) (q 14) (q 15) (hq 3 _ rfl) (hq 5 _ rfl) (hq 8 _ rfl) (hq 9 _ rfl) (hq 10 _ rfl) (hq 11 _ rfl) (hq 14 _ rfl) (hq 15 _ rfl) a_5_0_0 a_5_1_0 a_5_11_0
    have a_3_16_17 : q 16=q 17 := linePlain_f32 (q 0) (q 1) (q 2) (q 4) (q 5) (q 6) (q 7) (q 8) (q 9) (q 10) (q 11) (q 16) (q 17) (hq 4 _ rfl) (hq 5 _ rfl) (hq 8 _ rfl) (hq 9 _ rfl) (hq 10 _ rfl) (hq 11 _ rfl) (hq 16 _ rfl) (hq 17 _ rfl) a_5_0_0 a_5_1_0 a_5_11_0
    have a_5_21_0 : q 21=0 := linePlain_f33 (q 0) (q 1) (q 2) (q 3) (q 4) (q 5) (q 6) (q 7) (q 8) (q 9) (q 10) (q 11) (q 18) (q 19) (q 20) (q 21) (hq 3 _ rfl) (hq 4 _ rfl) (hq 5 _ rfl) (hq 8 _ rfl) (hq 9 _ rfl) (hq 10 _ rfl) (hq 11 _ rfl) (hq 18 _ rfl) (hq 19 _ rfl) (hq 20 _ rfl) (hq 21 _ rfl) a_5_0_0 a_5_1_0 a_5_11_0
    exact linePlain_leaf linePlain_r4 hσ hq h0 (linePlain_An (h51 a_5_0_0) (linePlain_An (h50 a_5_1_0) (linePlain_An (h51 a_5_11_0) (linePlain_An (hT b0) (linePlain_An (hF b1) (linePlain_An (hT b3) (linePlain_An (hF b4) (linePlain_An (hT a_3_12_13) (linePlain_An (hT a_3_14_15) (linePlain_An (hT a_3_16_17) (linePlain_An (h51 a_5_21_0) trivial))))))))))) ⟨tab,mx⟩ hA
   ·
    have b0 : q 0=0 := linePlain_f34 (q 0) (q 1) (q 2) (q 6) (q 7) (q 8) (q 9) (q 10) (q 11) (hq 8 _ rfl) (hq 9 _ rfl) (hq 10 _ rfl) (hq 11 _ rfl) a_5_0_0 a_5_1_0 a_5_11_0
    have b1 : ¬ (q 1=0) := linePlain_f35 (q 0) (q 1) (q 2) (q 6) (q 7) (q 8) (q 9) (q 10) (q 11) (hq 8 _ rfl) (hq 9 _ rfl) (hq 10 _ rfl) (hq 11 _ rfl) a_5_0_0 a_5_1_0 a_5_11_0
    have b3 : q 3=0 := linePlain_f36 (q 0) (q 1) (q 2) (q 3) (q 6) (q 7) (q 8) (q 9) (q 10) (q 11) (hq 3 _ rfl) (hq 8 _ rfl) (hq 9 _ rfl) (hq 10 _ rfl) (hq 11 _ rfl) a_5_0_0 a_5_1_0 a_5_11_0
    have b4 : ¬ (q 4=0) := linePlain_f37 (q 0) (q 1) (q 2) (q 4) (q 6) (q 7) (q 8) (q 9) (q 10) (q 11) (hq 4 _ rfl) (hq 8 _ rfl) (hq 9 _ rfl) (hq 10 _ rfl) (hq 11 _ rfl) a_5_0_0 a_5_1_0 a_5_11_0
    have a_3_12_13 : q 12=q 13 := linePlain_f38 (q 0) (q 1) (q 2) (q 3) (q 4) (q 6) (q 7) (q 8) (q 9) (q 10) (q 11) (q 12) (q 13) (hq 3 _ rfl) (hq 4 _ rfl) (hq 8 _ rfl) (hq 9 _ rfl) (hq 10 _ rfl) (hq 11 _ rfl) (hq 12 _ rfl) (hq 13 _ rfl) a_5_0_0 a_5_1_0 a_5_11_0
    have a_3_14_15 : q 14=q 15 := linePlain_f39 (q 0) (q 1) (q 2) (q 3) (q 5) (q 6) (q 7) (q 8) (q 9) (q 10) (q 11) (q 14) (q 15) (hq 3 _ rfl) (hq 5 _ rfl) (hq 8 _ rfl) (hq 9 _ rfl) (hq 10 _ rfl) (hq 11 _ rfl) (hq 14 _ rfl) (hq 15 _ rfl) a_5_0_0 a_5_1_0 a_5_11_0
    have a_3_16_17 : q 16=q 17 := linePlain_f40 (q 0) (q 1) (q 2) (q 4) (q 5) (q 6) (q 7) (q 8) (q 9) (q 10) (q 11) (q 16) (q 17) (hq 4 _ rfl) (hq 5 _ rfl) (hq 8 _ rfl) (hq 9 _ rfl) (hq 10 _ rfl) (hq 11 _ rfl) (hq 16 _ rfl) (hq 17 _ rfl) a_5_0_0 a_5_1_0 a_5_11_0
    have a_5_21_0 : q 21 < 0 := linePlain_f41 (q 0) (q 1) (q 2) (q 3) (q 4) (q 5) (q 6) (q 7) (q 8) (q 9) (q 10) (q 11) (q 18) (q 19) (q 20) (q 21) (hq 3 _ rfl) (hq 4 _ rfl) (hq 5 _ rfl) (hq 8 _ rfl) (hq 9 _ rfl) (hq 10 _ rfl) (hq 11 _ rfl) (hq 18 _ rfl) (hq 19 _ rfl) (hq 20 _ rfl) (hq 21 _ rfl) a_5_0_0 a_5_1_0 a_5_11_0
    exact linePlain_leaf linePlain_r5 hσ hq h0 (linePlain_An (h51 a_5_0_0) (linePlain_An (h50 a_5_1_0) (linePlain_An (h52 a_5_11_0) (linePlain_An (hT b0) (linePlain_An (hF b1) (linePlain_An (hT b3) (linePlain_An (hF b4) (linePlain_An (hT a_3_12_13) (linePlain_An (hT a_3_14_15) (linePlain_An (hT a_3_16_17) (linePlain_An (h50 a_5_21_0) trivial))))))))))) ⟨tab,mx⟩ hA
  ·
   have b0 : q 0=0 := linePlain_f42 (q 0) (q 1) a_5_0_0 a_5_1_0
   have b1 : q 1=0 := linePlain_f43 (q 0) (q 1) a_5_0_0 a_5_1_0
   exact linePlain_leaf linePlain_r6 hσ hq h0 (linePlain_An (h51 a_5_0_0) (linePlain_An (h51 a_5_1_0) (linePlain_An (hT b0) (linePlain_An (hT b1) trivial)))) ⟨tab,mx⟩ hA
  ·
   rcases tri (q 11) with a_5_11_0 | a_5_11_0 | a_5_11_0
   ·
    have b0 : q 0=0 := linePlain_f44 (q 0) (q 1) (q 2) (q 6) (q 7) (q 8) (q 9) (q 10) (q 11) (hq 8 _ rfl) (hq 9 _ rfl) (hq 10 _ rfl) (hq 11 _ rfl) a_5_0_0 a_5_1_0 a_5_11_0
    have b1 : ¬ (q 1=0) := linePlain_f45 (q 0) (q 1) (q 2) (q 6) (q 7) (q 8) (q 9) (q 10) (q 11) (hq 8 _ rfl) (hq 9 _ rfl) (hq 10 _ rfl) (hq 11 _ rfl) a_5_0_0 a_5_1_0 a_5_11_0
    have b3 : q 3=0 := linePlain_f46 (q 0) (q 1) (q 2) (q 3) (q 6) (q 7) (q 8) (q 9) (q 10) (q 11) (hq 3 _ rfl) (hq 8 _ rfl) (hq 9 _ rfl) (hq 10 _ rfl) (hq 11 _ rfl) a_5_0_0 a_5_1_0 a_5_11_0
    have b4 : ¬ (q 4=0) := linePlain_f47 (q 0) (q 1) (q 2) (q 4) (q 6) (q 7) (q 8) (q 9) (q 10) (q 11) (hq 4 _ rfl) (hq 8 _ rfl) (hq 9 _ rfl) (hq 10 _ rfl) (hq 11 _ rfl) a_5_0_0 a_5_1_0 a_5_11_0
    have a_3_12_13 : q 12=q 13 := linePlain_f48 (q 0) (q 1) (q 2) (q 3) (q 4) (q 6) (q 7) (q 8) (q 9) (q 10) (q 11) (q 12) (q 13) (hq 3 _ rfl) (hq 4 _ rfl) (hq 8 _ rfl) (hq 9 _ rfl) (hq 10 _ rfl) (hq 11 _ rfl) (hq 12 _ rfl) (hq 13 _ rfl) a_5_0_0 a_5_1_0 a_5_11_0
    have a_3_14_15 : q 14=q 15 := linePlain_f49 (q 0) (q 1) (q 2) (q 3) (q 5) (q 6) (q 7) (q 8) (q 9) (q 10) (q 11) (q 14) (q 15) (hq 3 _ rfl) (hq 5 _ rfl) (hq 8 _ rfl) (hq 9 _ rfl) (hq 10 _ rfl) (hq 11 _ rfl) (hq 14 _ rfl) (hq 15 _ rfl) a_5_0_0 a_5_1_0 a_5_11_0
    have a_3_16_17 : q 16=q 17 := linePlain_f50 (q 0) (q 1) (q 2) (q 4) (q 5) (q 6) (q 7) (q 8) (q 9) (q 10) (q 11) (q 16) (q 17) (hq 4 _ rfl) (hq 5 _ rfl) (hq 8 _ rfl) (hq 9 _ rfl) (hq 10 _ rfl) (hq 11 _ rfl) (hq 16 _ rfl) (hq 17 _ rfl) a_5_0_0 a_5_1_0 a_5_11_0
    have a_5_21_0 : q 21 < 0 := linePlain_f51 (q 0) (q 1) (q 2) (q 3) (q 4) (q 5) (q 6) (q 7) (q 8) (q 9) (q 10) (q 11) (q 18) (q 19) (q 20) (q 21) (hq 3 _ rfl) (hq 4 _ rfl) (hq 5 _ rfl) (hq 8 _ rfl) (hq 9 _ rfl) (hq 10 _ rfl) (hq 11 _ rfl) (hq 18 _ rfl) (hq 19 _ rfl) (hq 20 _ rfl) (hq 21 _ rfl) a_5_0_0 a_5_1_0 a_5_11_0
    exact linePlain_leaf linePlain_r7 hσ hq h0 (linePlain_An (h51 a_5_0_0) (linePlain_An (h52 a_5_1_0) (linePlain_An (h50 a_5_11_0) (linePlain_An (hT b0) (linePlain_An (hF b1) (linePlain_An (hT b3) (linePlain_An (hF b4) (linePlain_An (hT a_3_12_13) (linePlain_An (hT a_3_14_15) (linePlain_An (hT a_3_16_17) (linePlain_An (h50 a_5_21_0) trivial))))))))))) ⟨tab,mx⟩ hA
   ·
    have b0 : q 0=0 := linePlain_f52 (q 0) (q 1) (q 2) (q 6) (q 7) (q 8) (q 9) (q 10) (q 11) (hq 8 _ rfl) (hq 9 _ rfl) (hq 10 _ rfl) (hq 11 _ rfl) a_5_0_0 a_5_1_0 a_5_11_0
    have b1 : ¬ (q 1=0) := linePlain_f53 (q 0) (q 1) (q 2) (q 6) (q 7) (q 8) (q 9) (q 10) (q 11) (hq 8 _ rfl) (hq 9 _ rfl) (hq 10 _ rfl) (hq 11 _ rfl) a_5_0_0 a_5_1_0 a_5_11_0
    have b3 : q 3=0 := linePlain_f54 (q 0) (q 1) (q 2) (q 3) (q 6) (q 7) (q 8) (q 9) (q 10) (q 11) (hq 3 _ rfl) (hq 8 _ rfl) (hq 9 _ rfl) (hq 10 _ rfl) (hq 11 _ rfl) a_5_0_0 a_5_1_0 a_5_11_0
    have b4 : ¬ (q 4=0) := linePlain_f55 (q 0) (q 1) (q 2) (q 4) (q 6) (q 7) (q 8) (q 9) (q 10) (q 11) (hq 4 _ rfl) (hq 8 _ rfl) (hq 9 _ rfl) (hq 10 _ rfl) (hq 11 _ rfl) a_5_0_0 a_5_1_0 a_5_11_0
    have a_3_12_13 : q 12=q 13 := linePlain_f56 (q 0) (q 1) (q 2) (q 3) (q 4) (q 6) (q 7) (q 8) (q 9) (q 10) (q 11) (q 12) (q 13) (hq 3 _ rfl) (hq 4 _ rfl) (hq 8 _ rfl) (hq 9 _ rfl) (hq 10 _ rfl) (hq 11 _ rfl) (hq 12 _ rfl) (hq 13 _ rfl) a_5_0_0 a_5_1_0 a_5_11_0
    have a_3_14_15 : q 14=q 15 := linePlain_f57 (q 0) (q 1) (q 2) (q 3) (q 5) (q 6) (q 7) (q 8) (q 9) (q 10) (q 11) (q 14) (q 15) (hq 3 _ rfl) (hq 5 _ rfl) (hq 8 _ rfl) (hq 9 _ rfl) (hq 10 _ rfl) (hq 11 _ rfl) (hq 14 _ rfl) (hq 15 _ rfl) a_5_0_0 a_5_1_0 a_5_11_0
    have a_3_16_17 : q 16=q 17 := linePlain_f58 (q 0) (q 1) (q 2) (q 4) (q 5) (q 6) (q 7) (q 8) (q 9) (q 10) (q 11) (q 16) (q 17) (hq 4 _ rfl) (hq 5 _ rfl) (hq 8 _ rfl) (hq 9 _ rfl) (hq 10 _ rfl) (hq 11 _ rfl) (hq 16 _ rfl) (hq 17 _ rfl) a_5_0_0 a_5_1_0 a_5_11_0
    have a_5_21_0 : q 21=0 := linePlain_f59 (q 0) (q 1) (q 2) (q 3) (q 4) (q 5) (q 6) (q 7) (q 8) (q 9) (q 10) (q 11) (q 18) (q 19) (q 20) (q 21) (hq 3 _ rfl) (hq 4 _ rfl) (hq 5 _ rfl) (hq 8 _ rfl) (hq 9 _ rfl) (hq 10 _ rfl) (hq 11 _ rfl) (hq 18 _ rfl) (hq 19 _ rfl) (hq 20 _ rfl) (hq 21 _ rfl) a_5_0_0 a_5_1_0 a_5_11_0
    exact linePlain_leaf linePlain_r8 hσ hq h0 (linePlain_An (h51 a_5_0_0) (linePlain_An (h52 a_5_1_0) (linePlain_An (h51 a_5_11_0) (linePlain_An (hT b0) (linePlain_An (hF b1) (linePlain_An (hT b3) (linePlain_An (hF b4) (linePlain_An (hT a_3_12_13) (linePlain_An (hT a_3_14_15) (linePlain_An (hT a_3_16_17) (linePlain_An (h51 a_5_21_0) trivial))))))))))) ⟨tab,mx⟩ hA
   ·
    have b0 : q 0=0 := linePlain_f60 (q 0) (q 1) (q 2) (q 6) (q 7) (q 8) (q 9) (q 10) (q 11) (hq 8 _ rfl) (hq 9 _ rfl) (hq 10 _ rfl) (hq 11 _ rfl) a_5_0_0 a_5_1_0 a_5_11_0
    have b1 : ¬ (q 1=0) := linePlain_f61 (q 0) (q 1) (q 2) (q 6) (q 7) (q 8) (q 9) (q 10) (q 11) (hq 8 _ rfl) (hq 9 _ rfl) (hq 10 _ rfl) (hq 11 _ rfl) a_5_0_0 a_5_1_0 a_5_11_0
    have b3 : q 3=0 := linePlain_f62 (q 0) (q 1) (q 2) (q 3) (q 6) (q 7) (q 8) (q 9) (q 10) (q 11) (hq 3 _ rfl) (hq 8 _ rfl) (hq 9 _ rfl) (hq 10 _ rfl) (hq 11 _ rfl) a_5_0_0 a_5_1_0 a_5_11_0
    have b4 : ¬ (q 4=0) := linePlain_f63 (q 0) (q 1) (q 2) (q 4) (q 6) (q 7) (q 8) (q 9) (q 10) (q 11) (hq 4 _ rfl) (hq 8 _ rfl) (hq 9 _ rfl) (hq 10 _ rfl) (hq 11 _ rfl) a_5_0_0 a_5_1_0 a_5_11_0
    have a_3_12_13 : q 12=q 13 := linePlain_f64 (q 0) (q 1) (q 2) (q 3) (q 4) (q 6) (q 7) (q 8) (q 9) (q 10) (q 11) (q 12) (q 13) (hq 3 _ rfl) (hq 4 _ rfl) (hq 8 _ rfl) (hq 9 _ rfl) (hq 10 _ rfl) (hq 11 _ rfl) (hq 12 _ rfl) (hq 13 _ rfl) a_5_0_0 a_5_1_0 a_5_11_0
    have a_3_14_15 : q 14=q 15 := linePlain_f65 (q 0) (q 1) (q 2) (q 3) (q 5) (q 6) (q 7) (q 8) (q 9) (q 10) (q 11) (q 14) (q 15) (hq 3 _ rfl) (hq 5 _ rfl) (hq 8 _ rfl) (hq 9 _ rfl) (hq 10 _ rfl) (hq 11 _ rfl) (hq 14 _ rfl) (hq 15 _ rfl) a_5_0_0 a_5_1_0 a_5_11_0
    have a_3_16_17 : q 16=q 17 := linePlain_f66 (q 0) (q 1) (q 2) (q 4) (q 5) (q 6) (q 7) (q 8) (q 9) (q 10) (q 11) (q 16) (q 17) (hq 4 _ rfl) (hq 5 _ rfl) (hq 8 _ rfl) (hq 9 _ rfl) (hq 10 _ rfl) (hq 11 _ rfl) (hq 16 _ rfl) (hq 17 _ rfl) a_5_0_0 a_5_1_0 a_5_11_0
    have a_5_21_0 : 0 < q 21 := linePlain_f67 (q 0) (q 1) (q 2) (q 3) (q 4) (q 5) (q 6) (q 7) (q 8) (q 9) (q 10) (q 11) (q 18) (q 19) (q 20) (q 21) (hq 3 _ rfl) (hq 4 _ rfl) (hq 5 _ rfl) (hq 8 _ rfl) (hq 9 _ rfl) (hq 10 _ rfl) (hq 11 _ rfl) (hq 18 _ rfl) (hq 19 _ rfl) (hq 20 _ rfl) (hq 21 _ rfl) a_5_0_0 a_5_1_0 a_5_11_0
    exact linePlain_leaf linePlain_r9 hσ hq h0 (linePlain_An (h51 a_5_0_0) (linePlain_An (h52 a_5_1_0) (linePlain_An (h52 a_5_11_0) (linePlain_An (hT b0) (linePlain_An (hF b1) (linePlain_An (hT b3) (linePlain_An (hF b4) (linePlain_An (hT a_3_12_13) (linePlain_An (hT a_3_14_15) (linePlain_An (hT a_3_16_17) (linePlain_An (h52 a_5_21_0) trivial))))))))))) ⟨tab,mx⟩ hA
 ·
  rcases tri (q 11) with a_5_11_0 | a_5_11_0 | a_5_11_0
  ·
   have b0 : ¬ (q 0=0) := linePlain_f68 (q 0) (q 1) (q 2) (q 6) (q 7) (q 8) (q 9) (q 10) (q 11) (hq 8 _ rfl) (hq 9 _ rfl) (hq 10 _ rfl) (hq 11 _ rfl) a_5_0_0 a_5_11_0
   have b3 : ¬ (q 3=0) := linePlain_f69 (q 0) (q 1) (q 2) (q 3) (q 6) (q 7) (q 8) (q 9) (q 10) (q 11) (hq 3 _ rfl) (hq 8 _ rfl) (hq 9 _ rfl) (hq 10 _ rfl) (hq 11 _ rfl) a_5_0_0 a_5_11_0
   have a_3_12_13 : q 12=q 13 := linePlain_f70 (q 0) (q 1) (q 2) (q 3) (q 4) (q 6) (q 7) (q 8) (q 9) (q 10) (q 11) (q 12) (q 13) (hq 3 _ rfl) (hq 4 _ rfl) (hq 8 _ rfl) (hq 9 _ rfl) (hq 10 _ rfl) (hq 11 _ rfl) (hq 12 _ rfl) (hq 13 _ rfl) a_5_0_0 a_5_11_0
   have a_3_14_15 : q 14=q 15 := linePlain_f71 (q 0) (q 1) (q 2) (q 3) (q 5) (q 6) (q 7) (q 8) (q 9) (q 10) (q 11) (q 14) (q 15) (hq 3 _ rfl) (hq 5 _ rfl) (hq 8 _ rfl) (hq 9 _ rfl) (hq 10 _ rfl) (hq 11 _ rfl) (hq 14 _ rfl) (hq 15 _ rfl) a_5_0_0 a_5_11_0
   have a_3_16_17 : q 16=q 17 := linePlain_f72 (q 0) (q 1) (q 2) (q 4) (q 5) (q 6) (q 7) (q 8) (q 9) (q 10) (q 11) (q 16) (q 17) (hq 4 _ rfl) (hq 5 _ rfl) (hq 8 _ rfl) (hq 9 _ rfl) (hq 10 _ rfl) (hq 11 _ rfl) (hq 16 _ rfl) (hq 17 _ rfl) a_5_0_0 a_5_11_0
   have a_5_21_0 : q 21 < 0 := linePlain_f73 (q 0) (q 1) (q 2) (q 3) (q 4) (q 5) (q 6) (q 7) (q 8) (q 9) (q 10) (q 11) (q 18) (q 19) (q 20) (q 21) (hq 3 _ rfl) (hq 4 _ rfl) (hq 5 _ rfl) (hq 8 _ rfl) (hq 9 _ rfl) (hq 10 _ rfl) (hq 11 _ rfl) (hq 18 _ rfl) (hq 19 _ rfl) (hq 20 _ rfl) (hq 21 _ rfl) a_5_0_0 a_5_11_0
   exact linePlain_leaf linePlain_r10 hσ hq h0 (linePlain_An (h52 a_5_0_0) (linePlain_An (h50 a_5_11_0) (linePlain_An (hF b0) (linePlain_An (hF b3) (linePlain_An (hT a_3_12_13) (linePlain_An (hT a_3_14_15) (linePlain_An (hT a_3_16_17) (linePlain_An (h50 a_5_21_0) trivial)))))))) ⟨tab,mx⟩ hA
  ·
   have b0 : ¬ (q 0=0) := linePlain_f74 (q 0) (q 1) (q 2) (q 6) (q 7) (q 8) (q 9) (q 10) (q 11) (hq 8 _ rfl) (hq 9 _ rfl) (hq 10 _ rfl) (hq 11 _ rfl) a_5_0_0 a_5_11_0
   have b3 : ¬ (q 3=0) := linePlain_f75 (q 0) (q 1) (q 2) (q 3) (q 6) (q 7) (q 8) (q 9) (q 10) (q 11) (hq 3 _ rfl) (hq 8 _ rfl) (hq 9 _ rfl) (hq 10 _ rfl) (hq 11 _ rfl) a_5_0_0 a_5_11_0
   have a_3_12_13 : q 12=q 13 := linePlain_f76 (q 0) (q 1) (q 2) (q 3) (q 4) (q 6) (q 7) (q 8) (q 9) (q 10) (q 11) (q 12) (q 13) (hq 3 _ rfl) (hq 4 _ rfl) (hq 8 _ rfl) (hq 9 _ rfl) (hq 10 _ rfl) (hq 11 _ rfl) (hq 12 _ rfl) (hq 13 _ rfl) a_5_0_0 a_5_11_0
   have a_3_14_15 : q 14=q 15 := linePlain_f77 (q 0) (q 1) (q 2) (q 3) (q 5) (q 6) (q 7) (q 8) (q 9) (q 10) (q 11) (q 14) (q 15) (hq 3 _ rfl) (hq 5 _ rfl) (hq 8 _ rfl) (hq 9 _ rfl) (hq 10 _ rfl) (hq 11 _ rfl) (hq 14 _ rfl) (hq 15 _ rfl) a_5_0_0 a_5_11_0
   have a_3_16_17 : q 16=q 17 := linePlain_f78 (q 0) (q 1) (q 2) (q 4) (q 5) (q 6) (q 7) (q 8) (q 9) (q 10) (q 11) (q 16) (q 17) (hq 4 _ rfl) (hq 5 _ rfl) (hq 8 _ rfl) (hq 9 _ rfl) (hq 10 _ rfl) (hq 11 _ rfl) (hq 16 _ rfl) (hq 17 _ rfl) a_5_0_0 a_5_11_0
   have a_5_21_0 : q 21=0 := linePlain_f79 (q 0) (q 1) (q 2) (q 3) (q 4) (q 5) (q 6) (q 7) (q 8) (q 9) (q 10) (q 11) (q 18) (q 19) (q 20) (q 21) (hq 3 _ rfl) (hq 4 _ rfl) (hq 5 _ rfl) (hq 8 _ rfl) (hq 9 _ rfl) (hq 10 _ rfl) (hq 11 _ rfl) (hq 18 _ rfl) (hq 19 _ rfl) (hq 20 _ rfl) (hq 21 _ rfl) a_5_0_0 a_5_11_0
   exact linePlain_leaf linePlain_r11 hσ hq h0 (linePlain_An (h52 a_5_0_0) (linePlain_An (h51 a_5_11_0) (linePlain_An (hF b0) (linePlain_An (hF b3) (linePlain_An (hT a_3_12_13) (linePlain_An (hT a_3_14_15) (linePlain_An (hT a_3_16_17) (linePlain_An (h51 a_5_21_0) trivial)))))))) ⟨tab,mx⟩ hA
  ·
   have b0 : ¬ (q 0=0) := linePlain_f80 (q 0) (q 1) (q 2) (q 6) (q 7) (q 8) (q 9) (q 10) (q 11) (hq 8 _ rfl) (hq 9 _ rfl) (hq 10 _ rfl) (hq 11 _ rfl) a_5_0_0 a_5_11_0
   have b3 : ¬ (q 3=0) := linePlain_f81 (q 0) (q 1) (q 2) (q 3) (q 6) (q 7) (q 8) (q 9) (q 10) (q 11) (hq 3 _ rfl) (hq 8 _ rfl) (hq 9 _ rfl) (hq 10 _ rfl) (hq 11 _ rfl) a_5_0_0 a_5_11_0
   have a_3_12_13 : q 12=q 13 := linePlain_f82 (q 0) (q 1) (q 2) (q 3) (q 4) (q 6) (q 7) (q 8) (q 9) (q 10) (q 11) (q 12) (q 13) (hq 3 _ rfl) (hq 4 _ rfl) (hq 8 _ rfl) (hq 9 _ rfl) (hq 10 _ rfl) (hq 11 _ rfl) (hq 12 _ rfl) (hq 13 _ rfl) a_5_0_0 a_5_11_0
   have a_3_14_15 : q 14=q 15 := linePlain_f83 (q 0) (q 1) (q 2) (q 3) (q 5) (q 6) (q 7) (q 8) (q 9) (q 10) (q 11) (q 14) (q 15) (hq 3 _ rfl) (hq 5 _ rfl) (hq 8 _ rfl) (hq 9 _ rfl) (hq 10 _ rfl) (hq 11 _ rfl) (hq 14 _ rfl) (hq 15 _ rfl) a_5_0_0 a_5_11_0
   have a_3_16_17 : q 16=q 17 := linePlain_f84 (q 0) (q 1) (q 2) (q 4) (q 5) (q 6) (q 7) (q 8) (q 9) (q 10) (q 11) (q 16) (q 17) (hq 4 _ rfl) (hq 5 _ rfl) (hq 8 _ rfl) (hq 9 _ rfl) (hq 10 _ rfl) (hq 11 _ rfl) (hq 16 _ rfl) (hq 17 _ rfl) a_5_0_0 a_5_11_0
   have a_5_21_0 : 0 < q 21 := linePlain_f85 (q 0) (q 1) (q 2) (q 3) (q 4) (q 5) (q 6) (q 7) (q 8) (q 9) (q 10) (q 11) (q 18) (q 19) (q 20) (q 21) (hq 3 _ rfl) (hq 4 _ rfl) (hq 5 _ rfl) (hq 8 _ rfl) (hq 9 _ rfl) (hq 10 _ rfl) (hq 11 _ rfl) (hq 18 _ rfl) (hq 19 _ rfl) (hq 20 _ rfl) (hq 21 _ rfl) a_5_0_0 a_5_11_0
   exact linePlain_leaf linePlain_r12 hσ hq h0 (linePlain_An (h52 a_5_0_0) (linePlain_An (h52 a_5_11_0) (linePlain_An (hF b0) (linePlain_An (hF b3) (linePlain_An (hT a_3_12_13) (linePlain_An (hT a_3_14_15) (linePlain_An (hT a_3_16_17) (linePlain_An (h52 a_5_21_0) trivial)))))))) ⟨tab,mx⟩ hA
end Go.Proofs.YtdgpmheeiaajkaaGreatDoor
