/- Part 13 of the walks and of the mathematics under them: CFlined MLP. -/
import Derived.Test.YtokkoifoemoegaaGreatDoorA12
set_option maxHeartbeats 16000000
set_option maxRecDepth 100000
/- CFlined -/
namespace Go.Proofs.YtokkoifoemoegaaGreatDoor
open Go.RowKit Cx
theorem closed_lined : Closed 13 :=
 closed_told (N := [(0,[0,0,1]),(0,[0,1,1]),(0,[0,3,1]),(3,[1,0]),(3,[2,1]),(5,[4]),(4,[5,0]),(4,[3,1]),(2,[6,7]),(5,[8]),(8,[0,5,3,9]),(8,[1,5,3,9]),(8,[2,5,3,9]),(0,[1,5,1]),(4,[10,1]),(4,[11,0]),(3,[14,15]),(4,[0,12]),(4,[1,12]),(4,[10,13]),(4,[11,13]),(3,[17,19]),(3,[18,20]),(5,[22]),(6,[23,16]),(6,[21,16]),(4,[1,1]),(4,[1,0]),(2,[26,27]),(2,[28,0]),(5,[29]),(4,[1,30]),(2,[26,26]),(6,[31,32]),(4,[33,1]),(2,[0,1]),(2,[0,0]),(2,[35,34]),(2,[36,34]),(0,[0,2,1]),(0,[1,1,1]),(0,[0,5,1]),(0,[0,1,2]),(0,[1,1,2])]) (H := [(0,5,0,0),(0,10,0,0),(0,0,0,1),(0,1,0,0),(0,16,0,0),(4,10,39,1),(4,11,40,1),(4,12,1,1),(4,24,39,1),(4,25,41,1),(4,37,42,1),(4,38,43,1)]) (K := []) (L := [([48],0),([49],1),([51],2),([45,53],13),([50],39),([45,49],40),([53],41),([49,47,50],42),([45,49,47,50],43)]) (C := [([50],39),([45,49],40),([49],1),([53],41),([49,47,50],42),([45,49,47,50],43)]) (Z := [2,2,3,5,6,6,8,7,16,16,65,65,65,4,67,67,135,67,67,69,69,137,137,137,272,272,4,4,9,12,12,14,9,23,25,5,5,31,31,3,2,4,3,3]) (cl := []) 6 (fun _ h => by cases h) (by kernel_rfl) (by kernel_rfl) (by kernel_rfl) (by kernel_rfl) (by kernel_rfl) (by kernel_rfl) (by kernel_rfl)
end Go.Proofs.YtokkoifoemoegaaGreatDoor
/- MLP -/
namespace Go.Proofs.YtokkoifoemoegaaGreatDoor
open Go.RowKit Cx
def linePlain_N : List Nd := [(1,[0]),(1,[1]),(1,[2]),(8,[0,0,1,2]),(8,[1,0,1,2]),(8,[2,0,1,2]),(1,[3]),(1,[4]),(4,[0,6]),(4,[1,7]),(2,[8,9]),(2,[10,2]),(4,[1,11]),(4,[1,3]),(4,[0,4]),(4,[2,3]),(4,[0,5]),(4,[2,4]),(4,[1,5]),(4,[3,6]),(4,[4,7]),(2,[19,20]),(2,[21,5]),(4,[0,11])]
def linePlain_L : List (List Nat × Nat) := []
def linePlain_C : List (List Nat × Nat) := []
def linePlain_Z : List Nat := [4194309,4194309,4194309,16777237,16777237,16777237,4194309,4194309,8388618,8388618,16777237,20971547,25165856,20971546,20971546,20971546,20971546,20971546,20971546,20971546,20971546,41943093,58720331,25165856]
theorem linePlain_wf : wfB 0 linePlain_N=true := by kernel_rfl
theorem linePlain_sz : szB linePlain_Z linePlain_N linePlain_Z=true := by kernel_rfl
theorem linePlain_lt : litB linePlain_N linePlain_L=true := by kernel_rfl
theorem linePlain_cn : canB linePlain_N linePlain_C=true := by kernel_rfl
def linePlain_A : List AV := [(false,[(true,[.inr (2,0,0,0,0),.inr (2,1,0,0,0),.inr (2,2,0,0,0)])]),(false,[(true,[.inr (2,3,0,0,0),.inr (2,4,0,0,0)])])]
theorem sg_lead {x g y p v : Rat} (h : 0 < x*g) (hp : p=x*y) (hv : v=y*g) : (p < 0 ↔ v < 0)∧(p=0 ↔ v=0)∧(0 < p ↔ 0 < v) := by
 have hx : x ≠ 0 := fun e => by rw [e,Rat.zero_mul] at h; exact absurd h (by decide)
 have e : v*(x*x)=p*(x*g) := by rw [hp,hv]; grind
 have a := prod_sgn v (x*x)
 have b := prod_sgn p (x*g)
 have s := sq1_pos hx
 have tv := tri v
 have tp := tri p
 have z1 : v=0→v*(x*x)=0 := fun q => by rw [q,Rat.zero_mul]
 have z2 : p=0→p*(x*g)=0 := fun q => by rw [q,Rat.zero_mul]
 clear hp hv hx
 generalize x*x=X at *
 generalize x*g=G at *
 grind
theorem linePlain_f1 (z0 z1 z2 z3 z6 z7 z8 z9 z10 z11 z12 : Rat) : z3=z0*fac [z0,z1,z2]→z8=z0*z6→z9=z1*z7→z10=z8+z9→z11=z10+z2→z12=z1*z11→(z0=0)→(¬ (z1=0))→(z12 < 0)→z3=0 := by
 intro e3 e8 e9 e10 e11 e12 u0 u1 u2
 have k0_0 : fac [z0,z1,z2]=0→z0=0 := fac_zero (by simp)
 have k0_1 : fac [z0,z1,z2]=0→z1=0 := fac_zero (by simp)
 have k0_2 : fac [z0,z1,z2]=0→z2=0 := fac_zero (by simp)
 generalize fac [z0,z1,z2]=g0 at *
 subst_vars; grind
theorem linePlain_f2 (z0 z1 z2 z4 z6 z7 z8 z9 z10 z11 z12 : Rat) : z4=z1*fac [z0,z1,z2]→z8=z0*z6→z9=z1*z7→z10=z8+z9→z11=z10+z2→z12=z1*z11→(z0=0)→(¬ (z1=0))→(z12 < 0)→¬ (z4=0) := by
 intro e4 e8 e9 e10 e11 e12 u0 u1 u2
 have k0_0 : fac [z0,z1,z2]=0→z0=0 := fac_zero (by simp)
 have k0_1 : fac [z0,z1,z2]=0→z1=0 := fac_zero (by simp)
 have k0_2 : fac [z0,z1,z2]=0→z2=0 := fac_zero (by simp)
 generalize fac [z0,z1,z2]=g0 at *
 subst_vars; grind
theorem linePlain_f3 (z0 z1 z2 z3 z4 z6 z7 z8 z9 z10 z11 z12 z13 z14 : Rat) : z3=z0*fac [z0,z1,z2]→z4=z1*fac [z0,z1,z2]→z8=z0*z6→z9=z1*z7→z10=z8+z9→z11=z10+z2→z12=z1*z11→z13=z1*z3→z14=z0*z4→(z0=0)→(¬ (z1=0))→(z12 < 0)→z13=z14 := by
 intro e3 e4 e8 e9 e10 e11 e12 e13 e14 u0 u1 u2
 have k0_0 : fac [z0,z1,z2]=0→z0=0 := fac_zero (by simp)
 have k0_1 : fac [z0,z1,z2]=0→z1=0 := fac_zero (by simp)
 have k0_2 : fac [z0,z1,z2]=0→z2=0 := fac_zero (by simp)
 generalize fac [z0,z1,z2]=g0 at *
 subst_vars; grind
theorem linePlain_f4 (z0 z1 z2 z3 z5 z6 z7 z8 z9 z10 z11 z12 z15 z16 : Rat) : z3=z0*fac [z0,z1,z2]→z5=z2*fac [z0,z1,z2]→z8=z0*z6→z9=z1*z7→z10=z8+z9→z11=z10+z2→z12=z1*z11→z15=z2*z3→z16=z0*z5→(z0=0)→(¬ (z1=0))→(z12 < 0)→z15=z16 := by
 intro e3 e5 e8 e9 e10 e11 e12 e15 e16 u0 u1 u2
 have k0_0 : fac [z0,z1,z2]=0→z0=0 := fac_zero (by simp)
 have k0_1 : fac [z0,z1,z2]=0→z1=0 := fac_zero (by simp)
 have k0_2 : fac [z0,z1,z2]=0→z2=0 := fac_zero (by simp)
 generalize fac [z0,z1,z2]=g0 at *
 subst_vars; grind
theorem linePlain_f5 (z0 z1 z2 z4 z5 z6 z7 z8 z9 z10 z11 z12 z17 z18 : Rat) : z4=z1*fac [z0,z1,z2]→z5=z2*fac [z0,z1,z2]→z8=z0*z6→z9=z1*z7→z10=z8+z9→z11=z10+z2→z12=z1*z11→z17=z2*z4→z18=z1*z5→(z0=0)→(¬ (z1=0))→(z12 < 0)→z17=z18 := by
 intro e4 e5 e8 e9 e10 e11 e12 e17 e18 u0 u1 u2
 have k0_0 : fac [z0,z1,z2]=0→z0=0 := fac_zero (by simp)
 have k0_1 : fac [z0,z1,z2]=0→z1=0 := fac_zero (by simp)
 have k0_2 : fac [z0,z1,z2]=0→z2=0 := fac_zero (by simp)
 generalize fac [z0,z1,z2]=g0 at *
 subst_vars; grind
theorem linePlain_f6 (z0 z1 z2 z3 z4 z5 z6 z7 z8 z9 z10 z11 z12 z19 z20 z21 z22 : Rat) : z3=z0*fac [z0,z1,z2]→z4=z1*fac [z0,z1,z2]→z5=z2*fac [z0,z1,z2]→z8=z0*z6→z9=z1*z7→z10=z8+z9→z11=z10+z2→z12=z1*z11→z19=z3*z6→z20=z4*z7→z21=z19+z20→z22=z21+z5→(z0=0)→(¬ (z1=0))→(z12 < 0)→z22 < 0 := by
 intro e3 e4 e5 e8 e9 e10 e11 e12 e19 e20 e21 e22 u0 u1 u2
 have k0_0 : fac [z0,z1,z2]=0→z0=0 := fac_zero (by simp)
 have k0_1 : fac [z0,z1,z2]=0→z1=0 := fac_zero (by simp)
 have k0_2 : fac [z0,z1,z2]=0→z2=0 := fac_zero (by simp)
 have l0_0 : z0 ≠ 0→0 < z0*fac [z0,z1,z2] := fac_lead0
 have l0_1 : z0=0→z1 ≠ 0→0 < z1*fac [z0,z1,z2] := fac_lead1
 generalize fac [z0,z1,z2]=g0 at *
 have hv : z22=z11*g0 := by
  clear e12; subst_vars; grind
 have s1 := fun (h0 : z0=0) (h : z1 ≠ 0) => sg_lead (l0_1 h0 h) e12 hv
 clear e3 e4 e5 e8 e9 e10 e11 e12 e19 e20 e21 e22
 grind
theorem linePlain_f7 (z0 z1 z2 z3 z6 z7 z8 z9 z10 z11 z12 : Rat) : z3=z0*fac [z0,z1,z2]→z8=z0*z6→z9=z1*z7→z10=z8+z9→z11=z10+z2→z12=z1*z11→(z0=0)→(¬ (z1=0))→(z12=0)→z3=0 := by
 intro e3 e8 e9 e10 e11 e12 u0 u1 u2
 rw [u2] at e12
 have k0_0 : fac [z0,z1,z2]=0→z0=0 := fac_zero (by simp)
 have k0_1 : fac [z0,z1,z2]=0→z1=0 := fac_zero (by simp)
 have k0_2 : fac [z0,z1,z2]=0→z2=0 := fac_zero (by simp)
 generalize fac [z0,z1,z2]=g0 at *
 subst_vars; grind
theorem linePlain_f8 (z0 z1 z2 z4 z6 z7 z8 z9 z10 z11 z12 : Rat) : z4=z1*fac [z0,z1,z2]→z8=z0*z6→z9=z1*z7→z10=z8+z9→z11=z10+z2→z12=z1*z11→(z0=0)→(¬ (z1=0))→(z12=0)→¬ (z4=0) := by
 intro e4 e8 e9 e10 e11 e12 u0 u1 u2
 rw [u2] at e12
 have k0_0 : fac [z0,z1,z2]=0→z0=0 := fac_zero (by simp)
 have k0_1 : fac [z0,z1,z2]=0→z1=0 := fac_zero (by simp)
 have k0_2 : fac [z0,z1,z2]=0→z2=0 := fac_zero (by simp)
 generalize fac [z0,z1,z2]=g0 at *
 subst_vars; grind
theorem linePlain_f9 (z0 z1 z2 z3 z4 z6 z7 z8 z9 z10 z11 z12 z13 z14 : Rat) : z3=z0*fac [z0,z1,z2]→z4=z1*fac [z0,z1,z2]→z8=z0*z6→z9=z1*z7→z10=z8+z9→z11=z10+z2→z12=z1*z11→z13=z1*z3→z14=z0*z4→(z0=0)→(¬ (z1=0))→(z12=0)→z13=z14 := by
 intro e3 e4 e8 e9 e10 e11 e12 e13 e14 u0 u1 u2
 rw [u2] at e12
 have k0_0 : fac [z0,z1,z2]=0→z0=0 := fac_zero (by simp)
 have k0_1 : fac [z0,z1,z2]=0→z1=0 := fac_zero (by simp)
 have k0_2 : fac [z0,z1,z2]=0→z2=0 := fac_zero (by simp)
 generalize fac [z0,z1,z2]=g0 at *
 subst_vars; grind
theorem linePlain_f10 (z0 z1 z2 z3 z5 z6 z7 z8 z9 z10 z11 z12 z15 z16 : Rat) : z3=z0*fac [z0,z1,z2]→z5=z2*fac [z0,z1,z2]→z8=z0*z6→z9=z1*z7→z10=z8+z9→z11=z10+z2→z12=z1*z11→z15=z2*z3→z16=z0*z5→(z0=0)→(¬ (z1=0))→(z12=0)→z15=z16 := by
 intro e3 e5 e8 e9 e10 e11 e12 e15 e16 u0 u1 u2
 rw [u2] at e12
 have k0_0 : fac [z0,z1,z2]=0→z0=0 := fac_zero (by simp)
 have k0_1 : fac [z0,z1,z2]=0→z1=0 := fac_zero (by simp)
 have k0_2 : fac [z0,z1,z2]=0→z2=0 := fac_zero (by simp)
 generalize fac [z0,z1,z2]=g0 at *
 subst_vars; grind
theorem linePlain_f11 (z0 z1 z2 z4 z5 z6 z7 z8 z9 z10 z11 z12 z17 z18 : Rat) : z4=z1*fac [z0,z1,z2]→z5=z2*fac [z0,z1,z2]→z8=z0*z6→z9=z1*z7→z10=z8+z9→z11=z10+z2→z12=z1*z11→z17=z2*z4→z18=z1*z5→(z0=0)→(¬ (z1=0))→(z12=0)→z17=z18 := by
 intro e4 e5 e8 e9 e10 e11 e12 e17 e18 u0 u1 u2
 rw [u2] at e12
 have k0_0 : fac [z0,z1,z2]=0→z0=0 := fac_zero (by simp)
 have k0_1 : fac [z0,z1,z2]=0→z1=0 := fac_zero (by simp)
 have k0_2 : fac [z0,z1,z2]=0→z2=0 := fac_zero (by simp)
 generalize fac [z0,z1,z2]=g0 at *
 subst_vars; grind
theorem linePlain_f12 (z0 z1 z2 z3 z4 z5 z6 z7 z8 z9 z10 z11 z12 z19 z20 z21 z22 : Rat) : z3=z0*fac [z0,z1,z2]→z4=z1*fac [z0,z1,z2]→z5=z2*fac [z0,z1,z2]→z8=z0*z6→z9=z1*z7→z10=z8+z9→z11=z10+z2→z12=z1*z11→z19=z3*z6→z20=z4*z7→z21=z19+z20→z22=z21+z5→(z0=0)→(¬ (z1=0))→(z12=0)→z22=0 := by
 intro e3 e4 e5 e8 e9 e10 e11 e12 e19 e20 e21 e22 u0 u1 u2
 rw [u2] at e12
 have k0_0 : fac [z0,z1,z2]=0→z0=0 := fac_zero (by simp)
 have k0_1 : fac [z0,z1,z2]=0→z1=0 := fac_zero (by simp)
 have k0_2 : fac [z0,z1,z2]=0→z2=0 := fac_zero (by simp)
 have l0_0 : z0 ≠ 0→0 < z0*fac [z0,z1,z2] := fac_lead0
 have l0_1 : z0=0→z1 ≠ 0→0 < z1*fac [z0,z1,z2] := fac_lead1
 generalize fac [z0,z1,z2]=g0 at *
 have hv : z22=z11*g0 := by
  clear e12; subst_vars; grind
 have s1 := fun (h0 : z0=0) (h : z1 ≠ 0) => sg_lead (l0_1 h0 h) e12 hv
 clear e3 e4 e5 e8 e9 e10 e11 e12 e19 e20 e21 e22
 grind
theorem linePlain_f13 (z0 z1 z2 z3 z6 z7 z8 z9 z10 z11 z12 : Rat) : z3=z0*fac [z0,z1,z2]→z8=z0*z6→z9=z1*z7→z10=z8+z9→z11=z10+z2→z12=z1*z11→(z0=0)→(¬ (z1=0))→(0 < z12)→z3=0 := by
 intro e3 e8 e9 e10 e11 e12 u0 u1 u2
 have k0_0 : fac [z0,z1,z2]=0→z0=0 := fac_zero (by simp)
 have k0_1 : fac [z0,z1,z2]=0→z1=0 := fac_zero (by simp)
 have k0_2 : fac [z0,z1,z2]=0→z2=0 := fac_zero (by simp)
 generalize fac [z0,z1,z2]=g0 at *
 subst_vars; grind
theorem linePlain_f14 (z0 z1 z2 z4 z6 z7 z8 z9 z10 z11 z12 : Rat) : z4=z1*fac [z0,z1,z2]→z8=z0*z6→z9=z1*z7→z10=z8+z9→z11=z10+z2→z12=z1*z11→(z0=0)→(¬ (z1=0))→(0 < z12)→¬ (z4=0) := by
 intro e4 e8 e9 e10 e11 e12 u0 u1 u2
 have k0_0 : fac [z0,z1,z2]=0→z0=0 := fac_zero (by simp)
 have k0_1 : fac [z0,z1,z2]=0→z1=0 := fac_zero (by simp)
 have k0_2 : fac [z0,z1,z2]=0→z2=0 := fac_zero (by simp)
 generalize fac [z0,z1,z2]=g0 at *
 subst_vars; grind
theorem linePlain_f15 (z0 z1 z2 z3 z4 z6 z7 z8 z9 z10 z11 z12 z13 z14 : Rat) : z3=z0*fac [z0,z1,z2]→z4=z1*fac [z0,z1,z2]→z8=z0*z6→z9=z1*z7→z10=z8+z9→z11=z10+z2→z12=z1*z11→z13=z1*z3→z14=z0*z4→(z0=0)→(¬ (z1=0))→(0 < z12)→z13=z14 := by
 intro e3 e4 e8 e9 e10 e11 e12 e13 e14 u0 u1 u2
 have k0_0 : fac [z0,z1,z2]=0→z0=0 := fac_zero (by simp)
 have k0_1 : fac [z0,z1,z2]=0→z1=0 := fac_zero (by simp)
 have k0_2 : fac [z0,z1,z2]=0→z2=0 := fac_zero (by simp)
 generalize fac [z0,z1,z2]=g0 at *
 subst_vars; grind
theorem linePlain_f16 (z0 z1 z2 z3 z5 z6 z7 z8 z9 z10 z11 z12 z15 z16 : Rat) : z3=z0*fac [z0,z1,z2]→z5=z2*fac [z0,z1,z2]→z8=z0*z6→z9=z1*z7→z10=z8+z9→z11=z10+z2→z12=z1*z11→z15=z2*z3→z16=z0*z5→(z0=0)→(¬ (z1=0))→(0 < z12)→z15=z16 := by
 intro e3 e5 e8 e9 e10 e11 e12 e15 e16 u0 u1 u2
 have k0_0 : fac [z0,z1,z2]=0→z0=0 := fac_zero (by simp)
 have k0_1 : fac [z0,z1,z2]=0→z1=0 := fac_zero (by simp)
 have k0_2 : fac [z0,z1,z2]=0→z2=0 := fac_zero (by simp)
 generalize fac [z0,z1,z2]=g0 at *
 subst_vars; grind
theorem linePlain_f17 (z0 z1 z2 z4 z5 z6 z7 z8 z9 z10 z11 z12 z17 z18 : Rat) : z4=z1*fac [z0,z1,z2]→z5=z2*fac [z0,z1,z2]→z8=z0*z6→z9=z1*z7→z10=z8+z9→z11=z10+z2→z12=z1*z11→z17=z2*z4→z18=z1*z5→(z0=0)→(¬ (z1=0))→(0 < z12)→z17=z18 := by
 intro e4 e5 e8 e9 e10 e11 e12 e17 e18 u0 u1 u2
 have k0_0 : fac [z0,z1,z2]=0→z0=0 := fac_zero (by simp)
 have k0_1 : fac [z0,z1,z2]=0→z1=0 := fac_zero (by simp)
 have k0_2 : fac [z0,z1,z2]=0→z2=0 := fac_zero (by simp)
 generalize fac [z0,z1,z2]=g0 at *
 subst_vars; grind
theorem linePlain_f18 (z0 z1 z2 z3 z4 z5 z6 z7 z8 z9 z10 z11 z12 z19 z20 z21 z22 : Rat) : z3=z0*fac [z0,z1,z2]→z4=z1*fac [z0,z1,z2]→z5=z2*fac [z0,z1,z2]→z8=z0*z6→z9=z1*z7→z10=z8+z9→z11=z10+z2→z12=z1*z11→z19=z3*z6→z20=z4*z7→z21=z19+z20→z22=z21+z5→(z0=0)→(¬ (z1=0))→(0 < z12)→0 < z22 := by
 intro e3 e4 e5 e8 e9 e10 e11 e12 e19 e20 e21 e22 u0 u1 u2
 have k0_0 : fac [z0,z1,z2]=0→z0=0 := fac_zero (by simp)
 have k0_1 : fac [z0,z1,z2]=0→z1=0 := fac_zero (by simp)
 have k0_2 : fac [z0,z1,z2]=0→z2=0 := fac_zero (by simp)
 have l0_0 : z0 ≠ 0→0 < z0*fac [z0,z1,z2] := fac_lead0
 have l0_1 : z0=0→z1 ≠ 0→0 < z1*fac [z0,z1,z2] := fac_lead1
 generalize fac [z0,z1,z2]=g0 at *
 have hv : z22=z11*g0 := by
  clear e12; subst_vars; grind
 have s1 := fun (h0 : z0=0) (h : z1 ≠ 0) => sg_lead (l0_1 h0 h) e12 hv
 clear e3 e4 e5 e8 e9 e10 e11 e12 e19 e20 e21 e22
 grind
theorem linePlain_f19 (z0 z1 z2 z3 z6 z7 z8 z9 z10 z11 z23 : Rat) : z3=z0*fac [z0,z1,z2]→z8=z0*z6→z9=z1*z7→z10=z8+z9→z11=z10+z2→z23=z0*z11→(¬ (z0=0))→(z23 < 0)→¬ (z3=0) := by
 intro e3 e8 e9 e10 e11 e23 u0 u1
 have k0_0 : fac [z0,z1,z2]=0→z0=0 := fac_zero (by simp)
 have k0_1 : fac [z0,z1,z2]=0→z1=0 := fac_zero (by simp)
 have k0_2 : fac [z0,z1,z2]=0→z2=0 := fac_zero (by simp)
 generalize fac [z0,z1,z2]=g0 at *
 subst_vars; grind
theorem linePlain_f20 (z0 z1 z2 z3 z4 z6 z7 z8 z9 z10 z11 z13 z14 z23 : Rat) : z3=z0*fac [z0,z1,z2]→z4=z1*fac [z0,z1,z2]→z8=z0*z6→z9=z1*z7→z10=z8+z9→z11=z10+z2→z13=z1*z3→z14=z0*z4→z23=z0*z11→(¬ (z0=0))→(z23 < 0)→z13=z14 := by
 intro e3 e4 e8 e9 e10 e11 e13 e14 e23 u0 u1
 have k0_0 : fac [z0,z1,z2]=0→z0=0 := fac_zero (by simp)
 have k0_1 : fac [z0,z1,z2]=0→z1=0 := fac_zero (by simp)
 have k0_2 : fac [z0,z1,z2]=0→z2=0 := fac_zero (by simp)
 generalize fac [z0,z1,z2]=g0 at *
 subst_vars; grind
theorem linePlain_f21 (z0 z1 z2 z3 z5 z6 z7 z8 z9 z10 z11 z15 z16 z23 : Rat) : z3=z0*fac [z0,z1,z2]→z5=z2*fac [z0,z1,z2]→z8=z0*z6→z9=z1*z7→z10=z8+z9→z11=z10+z2→z15=z2*z3→z16=z0*z5→z23=z0*z11→(¬ (z0=0))→(z23 < 0)→z15=z16 := by
 intro e3 e5 e8 e9 e10 e11 e15 e16 e23 u0 u1
 have k0_0 : fac [z0,z1,z2]=0→z0=0 := fac_zero (by simp)
 have k0_1 : fac [z0,z1,z2]=0→z1=0 := fac_zero (by simp)
 have k0_2 : fac [z0,z1,z2]=0→z2=0 := fac_zero (by simp)
 generalize fac [z0,z1,z2]=g0 at *
 subst_vars; grind
theorem linePlain_f22 (z0 z1 z2 z4 z5 z6 z7 z8 z9 z10 z11 z17 z18 z23 : Rat) : z4=z1*fac [z0,z1,z2]→z5=z2*fac [z0,z1,z2]→z8=z0*z6→z9=z1*z7→z10=z8+z9→z11=z10+z2→z17=z2*z4→z18=z1*z5→z23=z0*z11→(¬ (z0=0))→(z23 < 0)→z17=z18 := by
 intro e4 e5 e8 e9 e10 e11 e17 e18 e23 u0 u1
 have k0_0 : fac [z0,z1,z2]=0→z0=0 := fac_zero (by simp)
 have k0_1 : fac [z0,z1,z2]=0→z1=0 := fac_zero (by simp)
 have k0_2 : fac [z0,z1,z2]=0→z2=0 := fac_zero (by simp)
 generalize fac [z0,z1,z2]=g0 at *
 subst_vars; grind
theorem linePlain_f23 (z0 z1 z2 z3 z4 z5 z6 z7 z8 z9 z10 z11 z19 z20 z21 z22 z23 : Rat) : z3=z0*fac [z0,z1,z2]→z4=z1*fac [z0,z1,z2]→z5=z2*fac [z0,z1,z2]→z8=z0*z6→z9=z1*z7→z10=z8+z9→z11=z10+z2→z19=z3*z6→z20=z4*z7→z21=z19+z20→z22=z21+z5→z23=z0*z11→(¬ (z0=0))→(z23 < 0)→z22 < 0 := by
 intro e3 e4 e5 e8 e9 e10 e11 e19 e20 e21 e22 e23 u0 u1
 have k0_0 : fac [z0,z1,z2]=0→z0=0 := fac_zero (by simp)
 have k0_1 : fac [z0,z1,z2]=0→z1=0 := fac_zero (by simp)
 have k0_2 : fac [z0,z1,z2]=0→z2=0 := fac_zero (by simp)
 have l0_0 : z0 ≠ 0→0 < z0*fac [z0,z1,z2] := fac_lead0
 have l0_1 : z0=0→z1 ≠ 0→0 < z1*fac [z0,z1,z2] := fac_lead1
 generalize fac [z0,z1,z2]=g0 at *
 have hv : z22=z11*g0 := by
  clear e23; subst_vars; grind
 have s0 := fun h : z0 ≠ 0 => sg_lead (l0_0 h) e23 hv
 clear e3 e4 e5 e8 e9 e10 e11 e19 e20 e21 e22 e23
 grind
theorem linePlain_f24 (z0 z1 z2 z3 z6 z7 z8 z9 z10 z11 z23 : Rat) : z3=z0*fac [z0,z1,z2]→z8=z0*z6→z9=z1*z7→z10=z8+z9→z11=z10+z2→z23=z0*z11→(¬ (z0=0))→(z23=0)→¬ (z3=0) := by
 intro e3 e8 e9 e10 e11 e23 u0 u1
 rw [u1] at e23
 have k0_0 : fac [z0,z1,z2]=0→z0=0 := fac_zero (by simp)
 have k0_1 : fac [z0,z1,z2]=0→z1=0 := fac_zero (by simp)
 have k0_2 : fac [z0,z1,z2]=0→z2=0 := fac_zero (by simp)
 generalize fac [z0,z1,z2]=g0 at *
 subst_vars; grind
theorem linePlain_f25 (z0 z1 z2 z3 z4 z6 z7 z8 z9 z10 z11 z13 z14 z23 : Rat) : z3=z0*fac [z0,z1,z2]→z4=z1*fac [z0,z1,z2]→z8=z0*z6→z9=z1*z7→z10=z8+z9→z11=z10+z2→z13=z1*z3→z14=z0*z4→z23=z0*z11→(¬ (z0=0))→(z23=0)→z13=z14 := by
 intro e3 e4 e8 e9 e10 e11 e13 e14 e23 u0 u1
 rw [u1] at e23
 have k0_0 : fac [z0,z1,z2]=0→z0=0 := fac_zero (by simp)
 have k0_1 : fac [z0,z1,z2]=0→z1=0 := fac_zero (by simp)
 have k0_2 : fac [z0,z1,z2]=0→z2=0 := fac_zero (by simp)
 generalize fac [z0,z1,z2]=g0 at *
 subst_vars; grind
theorem linePlain_f26 (z0 z1 z2 z3 z5 z6 z7 z8 z9 z10 z11 z15 z16 z23 : Rat) : z3=z0*fac [z0,z1,z2]→z5=z2*fac [z0,z1,z2]→z8=z0*z6→z9=z1*z7→z10=z8+z9→z11=z10+z2→z15=z2*z3→z16=z0*z5→z23=z0*z11→(¬ (z0=0))→(z23=0)→z15=z16 := by
 intro e3 e5 e8 e9 e10 e11 e15 e16 e23 u0 u1
 rw [u1] at e23
 have k0_0 : fac [z0,z1,z2]=0→z0=0 := fac_zero (by simp)
 have k0_1 : fac [z0,z1,z2]=0→z1=0 := fac_zero (by simp)
 have k0_2 : fac [z0,z1,z2]=0→z2=0 := fac_zero (by simp)
 generalize fac [z0,z1,z2]=g0 at *
 subst_vars; grind
theorem linePlain_f27 (z0 z1 z2 z4 z5 z6 z7 z8 z9 z10 z11 z17 z18 z23 : Rat) : z4=z1*fac [z0,z1,z2]→z5=z2*fac [z0,z1,z2]→z8=z0*z6→z9=z1*z7→z10=z8+z9→z11=z10+z2→z17=z2*z4→z18=z1*z5→z23=z0*z11→(¬ (z0=0))→(z23=0)→z17=z18 := by
 intro e4 e5 e8 e9 e10 e11 e17 e18 e23 u0 u1
 rw [u1] at e23
 have k0_0 : fac [z0,z1,z2]=0→z0=0 := fac_zero (by simp)
 have k0_1 : fac [z0,z1,z2]=0→z1=0 := fac_zero (by simp)
 have k0_2 : fac [z0,z1,z2]=0→z2=0 := fac_zero (by simp)
 generalize fac [z0,z1,z2]=g0 at *
 subst_vars; grind
theorem linePlain_f28 (z0 z1 z2 z3 z4 z5 z6 z7 z8 z9 z10 z11 z19 z20 z21 z22 z23 : Rat) : z3=z0*fac [z0,z1,z2]→z4=z1*fac [z0,z1,z2]→z5=z2*fac [z0,z1,z2]→z8=z0*z6→z9=z1*z7→z10=z8+z9→z11=z10+z2→z19=z3*z6→z20=z4*z7→z21=z19+z20→z22=z21+z5→z23=z0*z11→(¬ (z0=0))→(z23=0)→z22=0 := by
 intro e3 e4 e5 e8 e9 e10 e11 e19 e20 e21 e22 e23 u0 u1
 rw [u1] at e23
 have k0_0 : fac [z0,z1,z2]=0→z0=0 := fac_zero (by simp)
 have k0_1 : fac [z0,z1,z2]=0→z1=0 := fac_zero (by simp)
 have k0_2 : fac [z0,z1,z2]=0→z2=0 := fac_zero (by simp)
 have l0_0 : z0 ≠ 0→0 < z0*fac [z0,z1,z2] := fac_lead0
 have l0_1 : z0=0→z1 ≠ 0→0 < z1*fac [z0,z1,z2] := fac_lead1
 generalize fac [z0,z1,z2]=g0 at *
 have hv : z22=z11*g0 := by
  clear e23; subst_vars; grind
 have s0 := fun h : z0 ≠ 0 => sg_lead (l0_0 h) e23 hv
 clear e3 e4 e5 e8 e9 e10 e11 e19 e20 e21 e22 e23
 grind
theorem linePlain_f29 (z0 z1 z2 z3 z6 z7 z8 z9 z10 z11 z23 : Rat) : z3=z0*fac [z0,z1,z2]→z8=z0*z6→z9=z1*z7→z10=z8+z9→z11=z10+z2→z23=z0*z11→(¬ (z0=0))→(0 < z23)→¬ (z3=0) := by
 intro e3 e8 e9 e10 e11 e23 u0 u1
 have k0_0 : fac [z0,z1,z2]=0→z0=0 := fac_zero (by simp)
 have k0_1 : fac [z0,z1,z2]=0→z1=0 := fac_zero (by simp)
 have k0_2 : fac [z0,z1,z2]=0→z2=0 := fac_zero (by simp)
 generalize fac [z0,z1,z2]=g0 at *
 subst_vars; grind
theorem linePlain_f30 (z0 z1 z2 z3 z4 z6 z7 z8 z9 z10 z11 z13 z14 z23 : Rat) : z3=z0*fac [z0,z1,z2]→z4=z1*fac [z0,z1,z2]→z8=z0*z6→z9=z1*z7→z10=z8+z9→z11=z10+z2→z13=z1*z3→z14=z0*z4→z23=z0*z11→(¬ (z0=0))→(0 < z23)→z13=z14 := by
 intro e3 e4 e8 e9 e10 e11 e13 e14 e23 u0 u1
 have k0_0 : fac [z0,z1,z2]=0→z0=0 := fac_zero (by simp)
 have k0_1 : fac [z0,z1,z2]=0→z1=0 := fac_zero (by simp)
 have k0_2 : fac [z0,z1,z2]=0→z2=0 := fac_zero (by simp)
 generalize fac [z0,z1,z2]=g0 at *
 subst_vars; grind
theorem linePlain_f31 (z0 z1 z2 z3 z5 z6 z7 z8 z9 z10 z11 z15 z16 z23 : Rat) : z3=z0*fac [z0,z1,z2]→z5=z2*fac [z0,z1,z2]→z8=z0*z6→z9=z1*z7→z10=z8+z9→z11=z10+z2→z15=z2*z3→z16=z0*z5→z23=z0*z11→(¬ (z0=0))→(0 < z23)→z15=z16 := by
 intro e3 e5 e8 e9 e10 e11 e15 e16 e23 u0 u1
 have k0_0 : fac [z0,z1,z2]=0→z0=0 := fac_zero (by simp)
 have k0_1 : fac [z0,z1,z2]=0→z1=0 := fac_zero (by simp)
 have k0_2 : fac [z0,z1,z2]=0→z2=0 := fac_zero (by simp)
 generalize fac [z0,z1,z2]=g0 at *
 subst_vars; grind
theorem linePlain_f32 (z0 z1 z2 z4 z5 z6 z7 z8 z9 z10 z11 z17 z18 z23 : Rat) : z4=z1*fac [z0,z1,z2]→z5=z2*fac [z0,z1,z2]→z8=z0*z6→z9=z1*z7→z10=z8+z9→z11=z10+z2→z17=z2*z4→z18=z1*z5→z23=z0*z11→(¬ (z0=0))→(0 < z23)→z17=z18 := by
 intro e4 e5 e8 e9 e10 e11 e17 e18 e23 u0 u1
 have k0_0 : fac [z0,z1,z2]=0→z0=0 := fac_zero (by simp)
 have k0_1 : fac [z0,z1,z2]=0→z1=0 := fac_zero (by simp)
 have k0_2 : fac [z0,z1,z2]=0→z2=0 := fac_zero (by simp)
 generalize fac [z0,z1,z2]=g0 at *
 subst_vars; grind
theorem linePlain_f33 (z0 z1 z2 z3 z4 z5 z6 z7 z8 z9 z10 z11 z19 z20 z21 z22 z23 : Rat) : z3=z0*fac [z0,z1,z2]→z4=z1*fac [z0,z1,z2]→z5=z2*fac [z0,z1,z2]→z8=z0*z6→z9=z1*z7→z10=z8+z9→z11=z10+z2→z19=z3*z6→z20=z4*z7→z21=z19+z20→z22=z21+z5→z23=z0*z11→(¬ (z0=0))→(0 < z23)→0 < z22 := by
 intro e3 e4 e5 e8 e9 e10 e11 e19 e20 e21 e22 e23 u0 u1
 have k0_0 : fac [z0,z1,z2]=0→z0=0 := fac_zero (by simp)
 have k0_1 : fac [z0,z1,z2]=0→z1=0 := fac_zero (by simp)
 have k0_2 : fac [z0,z1,z2]=0→z2=0 := fac_zero (by simp)
 have l0_0 : z0 ≠ 0→0 < z0*fac [z0,z1,z2] := fac_lead0
 have l0_1 : z0=0→z1 ≠ 0→0 < z1*fac [z0,z1,z2] := fac_lead1
 generalize fac [z0,z1,z2]=g0 at *
 have hv : z22=z11*g0 := by
  clear e23; subst_vars; grind
 have s0 := fun h : z0 ≠ 0 => sg_lead (l0_0 h) e23 hv
 clear e3 e4 e5 e8 e9 e10 e11 e19 e20 e21 e22 e23
 grind
theorem linePlain_r0 : (callB (sx Tryz.prog linePlain_N [(0,0,0,1),(0,1,0,1)] [] linePlain_L linePlain_C linePlain_Z (prC [13])) 5 3 linePlain_A [] 0).map (·.1)=some (kB true) := by kernel_rfl
theorem linePlain_r1 : (callB (sx Tryz.prog linePlain_N [(0,0,0,1),(0,1,0,0),(5,12,0,0),(0,3,0,1),(0,4,0,0),(3,13,14,1),(3,15,16,1),(3,17,18,1),(5,22,0,0)] [] linePlain_L linePlain_C linePlain_Z (prC [13])) 5 3 linePlain_A [] 0).map (·.1)=some (kB true) := by kernel_rfl
theorem linePlain_r2 : (callB (sx Tryz.prog linePlain_N [(0,0,0,1),(0,1,0,0),(5,12,0,1),(0,3,0,1),(0,4,0,0),(3,13,14,1),(3,15,16,1),(3,17,18,1),(5,22,0,1)] [] linePlain_L linePlain_C linePlain_Z (prC [13])) 5 3 linePlain_A [] 0).map (·.1)=some (kB true) := by kernel_rfl
theorem linePlain_r3 : (callB (sx Tryz.prog linePlain_N [(0,0,0,1),(0,1,0,0),(5,12,0,2),(0,3,0,1),(0,4,0,0),(3,13,14,1),(3,15,16,1),(3,17,18,1),(5,22,0,2)] [] linePlain_L linePlain_C linePlain_Z (prC [13])) 5 3 linePlain_A [] 0).map (·.1)=some (kB true) := by kernel_rfl
theorem linePlain_r4 : (callB (sx Tryz.prog linePlain_N [(0,0,0,0),(5,23,0,0),(0,3,0,0),(3,13,14,1),(3,15,16,1),(3,17,18,1),(5,22,0,0)] [] linePlain_L linePlain_C linePlain_Z (prC [13])) 5 3 linePlain_A [] 0).map (·.1)=some (kB true) := by kernel_rfl
theorem linePlain_r5 : (callB (sx Tryz.prog linePlain_N [(0,0,0,0),(5,23,0,1),(0,3,0,0),(3,13,14,1),(3,15,16,1),(3,17,18,1),(5,22,0,1)] [] linePlain_L linePlain_C linePlain_Z (prC [13])) 5 3 linePlain_A [] 0).map (·.1)=some (kB true) := by kernel_rfl
theorem linePlain_r6 : (callB (sx Tryz.prog linePlain_N [(0,0,0,0),(5,23,0,2),(0,3,0,0),(3,13,14,1),(3,15,16,1),(3,17,18,1),(5,22,0,2)] [] linePlain_L linePlain_C linePlain_Z (prC [13])) 5 3 linePlain_A [] 0).map (·.1)=some (kB true) := by kernel_rfl
theorem linePlain_An {a b : Prop} (x : a) (y : b) : a∧b := ⟨x,y⟩
theorem linePlain_leaf {H : List (Nat × Nat × Nat × Nat)} {K : List (FuncId × List AC)} {k : Nat} {q : Nat→Rat} {σ : Nat→ByteArray} {args : List AV} {vs : List Value} {w : World} (hr : (callB (sx Tryz.prog linePlain_N H K linePlain_L linePlain_C linePlain_Z (prC [13])) k 3 args [] 0).map (·.1)=some (kB true)) (hσ : ∀ j,(σ j).size≤1048576) (hq : ∀ (a : Nat) nd,linePlain_N[a]? = some nd→q a=valN σ q nd) (h0 : ∀ a,linePlain_N.length≤a→q a=0) (hH : hAll q H) (hp : PreS w) (hA : ∀ K,A2 (avOn (cOn (evS q σ) K (fun _ => none) w)) args vs) : Calls Tryz.prog 3 vs.toArray w fun e w' => Below w.heap.size w w'∧e=.returned (.bool true) :=
 run_told' k (hy_of hσ linePlain_wf linePlain_sz linePlain_lt linePlain_cn hq h0 hH) (by simp [closed_lined]) (by kernel_rfl) hr hp (hA K)
theorem linePlain_walk {w : World} {la lb lc px pz : ByteArray}  (sla : la.size≤1048576) (slb : lb.size≤1048576) (slc : lc.size≤1048576) (spx : px.size≤1048576) (spz : pz.size≤1048576) (tab : Tab w) (mx : MaxL w) :
  Calls Tryz.prog 3 #[.agg #[.string la,.string lb,.string lc],.agg #[.string px,.string pz]] w fun e w' => Below w.heap.size w w'∧e=.returned (.bool true) := by
 have hσ : ∀ j,(sgOf [la,lb,lc,px,pz] j).size≤1048576 := sgOf_size (by simp [sla,slb,slc,spx,spz])
 obtain ⟨q,hq,h0⟩ := nodes_exist (sgOf [la,lb,lc,px,pz]) linePlain_N linePlain_wf
 have hA : ∀ K,A2 (avOn (cOn (evS q (sgOf [la,lb,lc,px,pz])) K (fun _ => none) w)) [(false,[(true,[.inr (2,0,0,0,0),.inr (2,1,0,0,0),.inr (2,2,0,0,0)])]),(false,[(true,[.inr (2,3,0,0,0),.inr (2,4,0,0,0)])])] [.agg #[.string la,.string lb,.string lc],.agg #[.string px,.string pz]] := fun K => ⟨⟨⟨[.string la,.string lb,.string lc],rfl,rfl,rfl,rfl,trivial⟩,trivial⟩,⟨⟨[.string px,.string pz],rfl,rfl,rfl,trivial⟩,trivial⟩,trivial⟩
 by_cases b0 : q 0=0
 ·
  by_cases b1 : q 1=0
  ·
   exact linePlain_leaf linePlain_r0 hσ hq h0 (linePlain_An (hT b0) (linePlain_An (hT b1) trivial)) ⟨tab,mx⟩ hA
  ·
   rcases tri (q 12) with a_5_12_0 | a_5_12_0 | a_5_12_0
   ·
    have b3 : q 3=0 := linePlain_f1 (q 0) (q 1) (q 2) (q 3) (q 6) (q 7) (q 8) (q 9) (q 10) (q 11) (q 12) (hq 3 _ rfl) (hq 8 _ rfl) (hq 9 _ rfl) (hq 10 _ rfl) (hq 11 _ rfl) (hq 12 _ rfl) b0 b1 a_5_12_0
    have b4 : ¬ (q 4=0) := linePlain_f2 (q 0) (q 1) (q 2) (q 4) (q 6) (q 7) (q 8) (q 9) (q 10) (q 11) (q 12) (hq 4 _ rfl) (hq 8 _ rfl) (hq 9 _ rfl) (hq 10 _ rfl) (hq 11 _ rfl) (hq 12 _ rfl) b0 b1 a_5_12_0
    have a_3_13_14 : q 13=q 14 := linePlain_f3 (q 0) (q 1) (q 2) (q 3) (q 4) (q 6) (q 7) (q 8) (q 9) (q 10) (q 11) (q 12) (q 13) (q 14) (hq 3 _ rfl) (hq 4 _ rfl) (hq 8 _ rfl) (hq 9 _ rfl) (hq 10 _ rfl) (hq 11 _ rfl) (hq 12 _ rfl) (hq 13 _ rfl) (hq 14 _ rfl) b0 b1 a_5_12_0
    have a_3_15_16 : q 15=q 16 := linePlain_f4 (q 0) (q 1) (q 2) (q 3) (q 5) (q 6) (q 7) (q 8) (q 9) (q 10) (q 11) (q 12) (q 15) (q 16) (hq 3 _ rfl) (hq 5 _ rfl) (hq 8 _ rfl) (hq 9 _ rfl) (hq 10 _ rfl) (hq 11 _ rfl) (hq 12 _ rfl) (hq 15 _ rfl) (hq 16 _ rfl) b0 b1 a_5_12_0
    have a_3_17_18 : q 17=q 18 := linePlain_f5 (q 0) (q 1) (q 2) (q 4) (q 5) (q 6) (q 7) (q 8) (q 9) (q 10) (q 11) (q 12) (q 17) (q 18) (hq 4 _ rfl) (hq 5 _ rfl) (hq 8 _ rfl) (hq 9 _ rfl) (hq 10 _ rfl) (hq 11 _ rfl) (hq 12 _ rfl) (hq 17 _ rfl) (hq 18 _ rfl) b0 b1 a_5_12_0
    have a_5_22_0 : q 22 < 0 := linePlain_f6 (q 0) (q 1) (q 2) (q 3) (q 4) (q 5) (q 6) (q 7) (q 8) (q 9) (q 10) (q 11) (q 12) (q 19) (q 20) (q 21) (q 22) (hq 3 _ rfl) (hq 4 _ rfl) (hq 5 _ rfl) (hq 8 _ rfl) (hq 9 _ rfl) (hq 10 _ rfl) (hq 11 _ rfl) (hq 12 _ rfl) (hq 19 _ rfl) (hq 20 _ rfl) (hq 21 _ rfl) (hq 22 _ rfl) b0 b1 a_5_12_0
    exact linePlain_leaf linePlain_r1 hσ hq h0 (linePlain_An (hT b0) (linePlain_An (hF b1) (linePlain_An (h50 a_5_12_0) (linePlain_An (hT b3) (linePlain_An (hF b4) (linePlain_An (hT a_3_13_14) (linePlain_An (hT a_3_15_16) (linePlain_An (hT a_3_17_18) (linePlain_An (h50 a_5_22_0) trivial))))))))) ⟨tab,mx⟩ hA
   ·
    have b3 : q 3=0 := linePlain_f7 (q 0) (q 1) (q 2) (q 3) (q 6) (q 7) (q 8) (q 9) (q 10) (q 11) (q 12) (hq 3 _ rfl) (hq 8 _ rfl) (hq 9 _ rfl) (hq 10 _ rfl) (hq 11 _ rfl) (hq 12 _ rfl) b0 b1 a_5_12_0
    have b4 : ¬ (q 4=0) := linePlain_f8 (q 0) (q 1) (q 2) (q 4) (q 6) (q 7) (q 8) (q 9) (q 10) (q 11) (q 12) (hq 4 _ rfl) (hq 8 _ rfl) (hq 9 _ rfl) (hq 10 _ rfl) (hq 11 _ rfl) (hq 12 _ rfl) b0 b1 a_5_12_0
    have a_3_13_14 : q 13=q 14 := linePlain_f9 (q 0) (q 1) (q 2) (q 3) (q 4) (q 6) (q 7) (q 8) (q 9) (q 10) (q 11) (q 12) (q 13) (q 14) (hq 3 _ rfl) (hq 4 _ rfl) (hq 8 _ rfl) (hq 9 _ rfl) (hq 10 _ rfl) (hq 11 _ rfl) (hq 12 _ rfl) (hq 13 _ rfl) (hq 14 _ rfl) b0 b1 a_5_12_0
    have a_3_15_16 : q 15=q 16 := linePlain_f10 (q 0) (q 1) (q 2) (q 3) (q 5) (q 6) (q 7) (q 8) (q 9) (q 10) (q 11) (q 12) (q 15) (q 16) (hq 3 _ rfl) (hq 5 _ rfl) (hq 8 _ rfl) (hq 9 _ rfl) (hq 10 _ rfl) (hq 11 _ rfl) (hq 12 _ rfl) (hq 15 _ rfl) (hq 16 _ rfl) b0 b1 a_5_12_0
    have a_3_17_18 : q 17=q 18 := linePlain_f11 (q 0) (q 1) (q 2) (q 4) (q 5) (q 6) (q 7) (q 8) (q 9) (q 10) (q 11) (q 12) (q 17) (q 18) (hq 4 _ rfl) (hq 5 _ rfl) (hq 8 _ rfl) (hq 9 _ rfl) (hq 10 _ rfl) (hq 11 _ rfl) (hq 12 _ rfl) (hq 17 _ rfl) (hq 18 _ rfl) b0 b1 a_5_12_0
    have a_5_22_0 : q 22=0 := linePlain_f12 (q 0) (q 1) (q 2) (q 3) (q 4) (q 5) (q 6) (q 7) (q 8) (q 9) (q 10) (q 11) (q 12) (q 19) (q 20) (q 21) (q 22) (hq 3 _ rfl) (hq 4 _ rfl) (hq 5 _ rfl) (hq 8 _ rfl) (hq 9 _ rfl) (hq 10 _ rfl) (hq 11 _ rfl) (hq 12 _ rfl) (hq 19 _ rfl) (hq 20 _ rfl) (hq 21 _ rfl) (hq 22 _ rfl) b0 b1 a_5_12_0
    exact linePlain_leaf linePlain_r2 hσ hq h0 (linePlain_An (hT b0) (linePlain_An (hF b1) (linePlain_An (h51 a_5_12_0) (linePlain_An (hT b3) (linePlain_An (hF b4) (linePlain_An (hT a_3_13_14) (linePlain_An (hT a_3_15_16) (linePlain_An (hT a_3_17_18) (linePlain_An (h51 a_5_22_0) trivial))))))))) ⟨tab,mx⟩ hA
   ·
    have b3 : q 3=0 := linePlain_f13 (q 0) (q 1) (q 2) (q 3) (q 6) (q 7) (q 8) (q 9) (q 10) (q 11) (q 12) (hq 3 _ rfl) (hq 8 _ rfl) (hq 9 _ rfl) (hq 10 _ rfl) (hq 11 _ rfl) (hq 12 _ rfl) b0 b1 a_5_12_0
    have b4 : ¬ (q 4=0) := linePlain_f14 (q 0) (q 1) (q 2) (q 4) (q 6) (q 7) (q 8) (q 9) (q 10) (q 11) (q 12) (hq 4 _ rfl) (hq 8 _ rfl) (hq 9 _ rfl) (hq 10 _ rfl) (hq 11 _ rfl) (hq 12 _ rfl) b0 b1 a_5_12_0
    have a_3_13_14 : q 13=q 14 := linePlain_f15 (q 0) (q 1) (q 2) (q 3) (q 4) (q 6) (q 7) (q 8) (q 9) (q 10) (q 11) (q 12) (q 13) (q 14) (hq 3 _ rfl) (hq 4 _ rfl) (hq 8 _ rfl) (hq 9 _ rfl) (hq 10 _ rfl) (hq 11 _ rfl) (hq 12 _ rfl) (hq 13 _ rfl) (hq 14 _ rfl) b0 b1 a_5_12_0
    have a_3_15_16 : q 15=q 16 := linePlain_f16 (q 0) (q 1) (q 2) (q 3) (q 5) (q 6) (q 7) (q 8) (q 9) (q 10) (q 11) (q 12) (q 15) (q 16) (hq 3 _ rfl) (hq 5 _ rfl) (hq 8 _ rfl) (hq 9 _ rfl) (hq 10 _ rfl) (hq 11 _ rfl) (hq 12 _ rfl) (hq 15 _ rfl) (hq 16 _ rfl) b0 b1 a_5_12_0
    have a_3_17_18 : q 17=q 18 := linePlain_f17 (q 0) (q 1) (q 2) (q 4) (q 5) (q 6) (q 7) (q 8) (q 9) (q 10) (q 11) (q 12) (q 17) (q 18) (hq 4 _ rfl) (hq 5 _ rfl) (hq 8 _ rfl) (hq 9 _ rfl) (hq 10 _ rfl) (hq 11 _ rfl) (hq 12 _ rfl) (hq 17 _ rfl) (hq 18 _ rfl) b0 b1 a_5_12_0
    have a_5_22_0 : 0 < q 22 := linePlain_f18 (q 0) (q 1) (q 2) (q 3) (q 4) (q 5) (q 6) (q 7) (q 8) (q 9) (q 10) (q 11) (q 12) (q 19) (q 20) (q 21) (q 22) (hq 3 _ rfl) (hq 4 _ rfl) (hq 5 _ rfl) (hq 8 _ rfl) (hq 9 _ rfl) (hq 10 _ rfl) (hq 11 _ rfl) (hq 12 _ rfl) (hq 19 _ rfl) (hq 20 _ rfl) (hq 21 _ rfl) (hq 22 _ rfl) b0 b1 a_5_12_0
    exact linePlain_leaf linePlain_r3 hσ hq h0 (linePlain_An (hT b0) (linePlain_An (hF b1) (linePlain_An (h52 a_5_12_0) (linePlain_An (hT b3) (linePlain_An (hF b4) (linePlain_An (hT a_3_13_14) (linePlain_An (hT a_3_15_16) (linePlain_An (hT a_3_17_18) (linePlain_An (h52 a_5_22_0) trivial))))))))) ⟨tab,mx⟩ hA
 ·
  rcases tri (q 23) with a_5_23_0 | a_5_23_0 | a_5_23_0
  ·
   have b3 : ¬ (q 3=0) := linePlain_f19 (q 0) (q 1) (q 2) (q 3) (q 6) (q 7) (q 8) (q 9) (q 10) (q 11) (q 23) (hq 3 _ rfl) (hq 8 _ rfl) (hq 9 _ rfl) (hq 10 _ rfl) (hq 11 _ rfl) (hq 23 _ rfl) b0 a_5_23_0
   have a_3_13_14 : q 13=q 14 := linePlain_f20 (q 0) (q 1) (q 2) (q 3) (q 4) (q 6) (q 7) (q 8) (q 9) (q 10) (q 11) (q 13) (q 14) (q 23) (hq 3 _ rfl) (hq 4 _ rfl) (hq 8 _ rfl) (hq 9 _ rfl) (hq 10 _ rfl) (hq 11 _ rfl) (hq 13 _ rfl) (hq 14 _ rfl) (hq 23 _ rfl) b0 a_5_23_0
   have a_3_15_16 : q 15=q 16 := linePlain_f21 (q 0) (q 1) (q 2) (q 3) (q 5) (q 6) (q 7) (q 8) (q 9) (q 10) (q 11) (q 15) (q 16) (q 23) (hq 3 _ rfl) (hq 5 _ rfl) (hq 8 _ rfl) (hq 9 _ rfl) (hq 10 _ rfl) (hq 11 _ rfl) (hq 15 _ rfl) (hq 16 _ rfl) (hq 23 _ rfl) b0 a_5_23_0
   have a_3_17_18 : q 17=q 18 := linePlain_f22 (q 0) (q 1) (q 2) (q 4) (q 5) (q 6) (q 7) (q 8) (q 9) (q 10) (q 11) (q 17) (q 18) (q 23) (hq 4 _ rfl) (hq 5 _ rfl) (hq 8 _ rfl) (hq 9 _ rfl) (hq 10 _ rfl) (hq 11 _ rfl) (hq 17 _ rfl) (hq 18 _ rfl) (hq 23 _ rfl) b0 a_5_23_0
   have a_5_22_0 : q 22 < 0 := linePlain_f23 (q 0) (q 1) (q 2) (q 3) (q 4) (q 5) (q 6) (q 7) (q 8) (q 9) (q 10) (q 11) (q 19) (q 20) (q 21) (q 22) (q 23) (hq 3 _ rfl) (hq 4 _ rfl) (hq 5 _ rfl) (hq 8 _ rfl) (hq 9 _ rfl) (hq 10 _ rfl) (hq 11 _ rfl) (hq 19 _ rfl) (hq 20 _ rfl) (hq 21 _ rfl) (hq 22 _ rfl) (hq 23 _ rfl) b0 a_5_23_0
   exact linePlain_leaf linePlain_r4 hσ hq h0 (linePlain_An (hF b0) (linePlain_An (h50 a_5_23_0) (linePlain_An (hF b3) (linePlain_An (hT a_3_13_14) (linePlain_An (hT a_3_15_16) (linePlain_An (hT a_3_17_18) (linePlain_An (h50 a_5_22_0) trivial))))))) ⟨tab,mx⟩ hA
  ·
   have b3 : ¬ (q 3=0) := linePlain_f24 (q 0) (q 1) (q 2) (q 3) (q 6) (q 7) (q 8) (q 9) (q 10) (q 11) (q 23) (hq 3 _ rfl) (hq 8 _ rfl) (hq 9 _ rfl) (hq 10 _ rfl) (hq 11 _ rfl) (hq 23 _ rfl) b0 a_5_23_0
   have a_3_13_14 : q 13=q 14 := linePlain_f25 (q 0) (q 1) (q 2) (q 3) (q 4) (q 6) (q 7) (q 8) (q 9) (q 10) (q 11) (q 13) (q 14) (q 23) (hq 3 _ rfl) (hq 4 _ rfl) (hq 8 _ rfl) (hq 9 _ rfl) (hq 10 _ rfl) (hq 11 _ rfl) (hq 13 _ rfl) (hq 14 _ rfl) (hq 23 _ rfl) b0 a_5_23_0
   have a_3_15_16 : q 15=q 16 := linePlain_f26 (q 0) (q 1) (q 2) (q 3) (q 5) (q 6) (q 7) (q 8) (q 9) (q 10) (q 11) (q 15) (q 16) (q 23) (hq 3 _ rfl) (hq 5 _ rfl) (hq 8 _ rfl) (hq 9 _ rfl) (hq 10 _ rfl) (hq 11 _ rfl) (hq 15 _ rfl) (hq 16 _ rfl) (hq 23 _ rfl) b0 a_5_23_0
   have a_3_17_18 : q 17=q 18 := linePlain_f27 (q 0) (q 1) (q 2) (q 4) (q 5) (q 6) (q 7) (q 8) (q 9) (q 10) (q 11) (q 17) (q 18) (q 23) (hq 4 _ rfl) (hq 5 _ rfl) (hq 8 _ rfl) (hq 9 _ rfl) (hq 10 _ rfl) (hq 11 _ rfl) (hq 17 _ rfl) (hq 18 _ rfl) (hq 23 _ rfl) b0 a_5_23_0
   have a_5_22_0 : q 22=0 := linePlain_f28 (q 0) (q 1) (q 2) (q 3) (q 4) (q 5) (q 6) (q 7) (q 8) (q 9) (q 10) (q 11) (q 19) (q 20) (q 21) (q 22) (q 23) (hq 3 _ rfl) (hq 4 _ rfl) (hq 5 _ rfl) (hq 8 _ rfl) (hq 9 _ rfl) (hq 10 _ rfl) (hq 11 _ rfl) (hq 19 _ rfl) (hq 20 _ rfl) (hq 21 _ rfl) (hq 22 _ rfl) (hq 23 _ rfl) b0 a_5_23_0
   exact linePlain_leaf linePlain_r5 hσ hq h0 (linePlain_An (hF b0) (linePlain_An (h51 a_5_23_0) (linePlain_An (hF b3) (linePlain_An (hT a_3_13_14) (linePlain_An (hT a_3_15_16) (linePlain_An (hT a_3_17_18) (linePlain_An (h51 a_5_22_0) trivial))))))) ⟨tab,mx⟩ hA
  ·
   have b3 : ¬ (q 3=0) := linePlain_f29 (q 0) (q 1) (q 2) (q 3) (q 6) (q 7) (q 8) (q 9) (q 10) (q 11) (q 23) (hq 3 _ rfl) (hq 8 _ rfl) (hq 9 _ rfl) (hq 10 _ rfl) (hq 11 _ rfl) (hq 23 _ rfl) b0 a_5_23_0
   have a_3_13_14 : q 13=q 14 := linePlain_f30 (q 0) (q 1) (q 2) (q 3) (q 4) (q 6) (q 7) (q 8) (q 9) (q 10) (q 11) (q 13) (q 14) (q 23) (hq 3 _ rfl) (hq 4 _ rfl) (hq 8 _ rfl) (hq 9 _ rfl) (hq 10 _ rfl) (hq 11 _ rfl) (hq 13 _ rfl) (hq 14 _ rfl) (hq 23 _ rfl) b0 a_5_23_0
   have a_3_15_16 : q 15=q 16 := linePlain_f31 (q 0) (q 1) (q 2) (q 3) (q 5) (q 6) (q 7) (q 8) (q 9) (q 10) (q 11) (q 15) (q 16) (q 23) (hq 3 _ rfl) (hq 5 _ rfl) (hq 8 _ rfl) (hq 9 _ rfl) (hq 10 _ rfl) (hq 11 _ rfl) (hq 15 _ rfl) (hq 16 _ rfl) (hq 23 _ rfl) b0 a_5_23_0
   have a_3_17_18 : q 17=q 18 := linePlain_f32 (q 0) (q 1) (q 2) (q 4) (q 5) (q 6) (q 7) (q 8) (q 9) (q 10) (q 11) (q 17) (q 18) (q 23) (hq 4 _ rfl) (hq 5 _ rfl) (hq 8 _ rfl) (hq 9 _ rfl) (hq 10 _ rfl) (hq 11 _ rfl) (hq 17 _ rfl) (hq 18 _ rfl) (hq 23 _ rfl) b0 a_5_23_0
   have a_5_22_0 : 0 < q 22 := linePlain_f33 (q 0) (q 1) (q 2) (q 3) (q 4) (q 5) (q 6) (q 7) (q 8) (q 9) (q 10) (q 11) (q 19) (q 20) (q 21) (q 22) (q 23) (hq 3 _ rfl) (hq 4 _ rfl) (hq 5 _ rfl) (hq 8 _ rfl) (hq 9 _ rfl) (hq 10 _ rfl) (hq 11 _ rfl) (hq 19 _ rfl) (hq 20 _ rfl) (hq 21 _ rfl) (hq 22 _ rfl) (hq 23 _ rfl) b0 a_5_23_0
   exact linePlain_leaf linePlain_r6 hσ hq h0 (linePlain_An (hF b0) (linePlain_An (h52 a_5_23_0) (linePlain_An (hF b3) (linePlain_An (hT a_3_13_14) (linePlain_An (hT a_3_15_16) (linePlain_An (hT a_3_17_18) (linePlain_An (h52 a_5_22_0) trivial))))))) ⟨tab,mx⟩ hA
end Go.Proofs.YtokkoifoemoegaaGreatDoor
