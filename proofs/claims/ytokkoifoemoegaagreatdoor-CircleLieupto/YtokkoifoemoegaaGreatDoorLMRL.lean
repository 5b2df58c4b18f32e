/- Part 13 of the walks and of the mathematics under them: CFrounded MRL. -/
import Derived.Test.YtokkoifoemoegaaGreatDoorA12
set_option maxHeartbeats 16000000
set_option maxRecDepth 100000
/- CFrounded -/
namespace Go.Proofs.YtokkoifoemoegaaGreatDoor
open Go.RowKit Cx
theorem closed_rounded : Closed 38 :=
 closed_told (N := [(0,[0,0,1]),(0,[0,25,1]),(0,[0,3,1]),(0,[0,4,1]),(3,[2,0]),(3,[3,0]),(4,[4,4]),(4,[5,5]),(2,[6,7]),(3,[8,1]),(3,[0,2]),(3,[3,3]),(0,[1,2,1]),(4,[4,10]),(4,[5,11]),(2,[13,14]),(4,[12,15]),(4,[10,10]),(4,[11,11]),(2,[17,18]),(6,[16,19]),(4,[10,20]),(4,[11,20]),(2,[2,21]),(2,[3,22]),(4,[4,0]),(4,[5,0]),(2,[25,26]),(5,[27]),(3,[28,1]),(8,[0,4,5,29]),(8,[1,4,5,29]),(8,[2,4,5,29]),(0,[0,10,1]),(3,[33,0]),(3,[0,0]),(4,[34,34]),(4,[35,35]),(2,[36,37]),(5,[1]),(2,[38,39]),(2,[40,39]),(4,[41,41]),(4,[3,1]),(4,[43,1]),(3,[42,44]),(0,[1,3,1]),(0,[1,25,1])]) (H := [(2,1,0,1),(0,9,0,1),(0,10,0,0),(0,34,0,0),(5,45,0,1),(1,41,0,0),(4,9,0,1),(4,23,46,1),(4,24,3,1),(4,30,2,1),(4,31,3,1),(4,32,47,1)]) (K := []) (L := [([48],0),([50,53],1),([51],2),([52],3),([49,48],33),([45,51],46),([45,50,53],47)]) (C := [([48],0),([45,51],46),([52],3),([51],2),([45,50,53],47)]) (Z := [2,6,3,4,6,7,12,14,27,34,6,9,3,12,16,29,32,12,18,31,63,69,72,73,77,8,9,18,18,25,101,101,101,5,8,5,16,10,27,6,34,41,82,10,16,99,3,6]) (cl := []) 7 (fun _ h => by cases h) (by kernel_rfl) (by kernel_rfl) (by kernel_rfl) (by kernel_rfl) (by kernel_rfl) (by kernel_rfl) (by kernel_rfl)
end Go.Proofs.YtokkoifoemoegaaGreatDoor
/- MRL -/
namespace Go.Proofs.YtokkoifoemoegaaGreatDoor
open Go.RowKit Cx
def cLie_N : List Nd := [(1,[0]),(1,[1]),(1,[2]),(1,[3]),(1,[4]),(1,[5]),(3,[3,0]),(3,[4,1]),(3,[2,5]),(4,[6,6]),(4,[7,7]),(2,[9,10]),(5,[2]),(5,[5]),(2,[11,12]),(2,[14,13]),(3,[0,3]),(3,[1,4]),(4,[16,16]),(4,[17,17]),(2,[18,19]),(2,[2,5]),(4,[15,15]),(0,[0,4,1]),(4,[23,2]),(4,[24,5]),(3,[22,25]),(2,[20,2]),(2,[27,13]),(4,[23,20]),(4,[29,2]),(4,[28,28]),(3,[30,31]),(3,[5,2]),(3,[20,5]),(3,[20,2])]
def cLie_L : List (List Nat × Nat) := []
def cLie_C : List (List Nat × Nat) := []
def cLie_Z : List Nat := [4194309,4194309,4194309,4194309,4194309,4194309,8388619,8388619,8388619,16777238,16777238,33554477,4194309,4194309,37748787,41943097,8388619,8388619,16777238,16777238,33554477,8388619,83886194,4,4194313,8388622,92274817,37748787,41943097,33554481,37748790,83886194,121634985,8388619,37748787,37748787]
theorem cLie_wf : wfB 0 cLie_N=true := by kernel_rfl
theorem cLie_sz : szB cLie_Z cLie_N cLie_Z=true := by kernel_rfl
theorem cLie_lt : litB cLie_N cLie_L=true := by kernel_rfl
theorem cLie_cn : canB cLie_N cLie_C=true := by kernel_rfl
theorem cLie_c23 : cst 0 4 1=(4 : Rat) := by decide +kernel
def cLie_A : List AV := [(false,[(true,[.inr (2,0,0,0,0),.inr (2,1,0,0,0),.inr (2,2,0,0,0)])]),(false,[(true,[.inr (2,3,0,0,0),.inr (2,4,0,0,0),.inr (2,5,0,0,0)])])]
theorem cLie_f0 {z0 z1 z2 z3 z4 z5 z6 z7 z8 z9 z10 z11 z12 z13 z14 z15 : Rat} : z6=z3-z0→z7=z4-z1→z8=z2-z5→z9=z6*z6→z10=z7*z7→z11=z9+z10→z12=-z2→z13=-z5→z14=z11+z12→z15=z14+z13→(0 < z2)→(0 < z5)→(z6=0∧z7=0)→(z8=0)→¬ (z15=0) := by
 intro e6 e7 e8 e9 e10 e11 e12 e13 e14 e15 u0 u1 u2 u3
 clear e6
 clear e7
 have ⟨q1,q2,q3,q4,q5,q6,q7,q8,q9,qa,qb⟩ := lie_facts (z6*z6+z7*z7) z2 z5
 obtain ⟨ua2,ub2⟩ := u2
 subst ua2
 subst ub2
 subst_vars; grind
theorem cLie_f1 {z0 z1 z2 z3 z4 z5 z6 z7 z8 z16 z17 z18 z19 z20 z21 : Rat} : z6=z3-z0→z7=z4-z1→z8=z2-z5→z16=z0-z3→z17=z1-z4→z18=z16*z16→z19=z17*z17→z20=z18+z19→z21=z2+z5→(0 < z2)→(0 < z5)→(z6=0∧z7=0)→(z8=0)→¬ (z20=z21) := by
 intro e6 e7 e8 e16 e17 e18 e19 e20 e21 u0 u1 u2 u3
 have x16 : z16=-z6 := by rw [e16,e6]; grind
 clear e16 e6
 have x17 : z17=-z7 := by rw [e17,e7]; grind
 clear e17 e7
 have ⟨q1,q2,q3,q4,q5,q6,q7,q8,q9,qa,qb⟩ := lie_facts (z6*z6+z7*z7) z2 z5
 obtain ⟨ua2,ub2⟩ := u2
 subst ua2
 subst ub2
 subst_vars; grind
theorem cLie_f2 {z0 z1 z2 z3 z4 z5 z6 z7 z8 z16 : Rat} : z6=z3-z0→z7=z4-z1→z8=z2-z5→z16=z0-z3→(0 < z2)→(0 < z5)→(z6=0∧z7=0)→(z8=0)→z16=0 := by
 intro e6 e7 e8 e16 u0 u1 u2 u3
 have x16 : z16=-z6 := by rw [e16,e6]; grind
 clear e16 e6
 clear e7
 obtain ⟨ua2,ub2⟩ := u2
 subst ua2
 subst ub2
 subst_vars; grind
theorem cLie_f3 {z0 z1 z2 z3 z4 z5 z6 z7 z8 z17 : Rat} : z6=z3-z0→z7=z4-z1→z8=z2-z5→z17=z1-z4→(0 < z2)→(0 < z5)→(z6=0∧z7=0)→(z8=0)→z17=0 := by
 intro e6 e7 e8 e17 u0 u1 u2 u3
 clear e6
 have x17 : z17=-z7 := by rw [e17,e7]; grind
 clear e17 e7
 obtain ⟨ua2,ub2⟩ := u2
 subst ua2
 subst ub2
 subst_vars; grind
theorem cLie_f4 {z0 z1 z2 z3 z4 z5 z6 z7 z8 : Rat} : z6=z3-z0→z7=z4-z1→z8=z2-z5→(0 < z2)→(0 < z5)→(z6=0∧z7=0)→(z8=0)→z2=z5 := by
 intro e6 e7 e8 u0 u1 u2 u3
 obtain ⟨ua2,ub2⟩ := u2
 subst ua2
 subst ub2
 subst_vars; grind
theorem cLie_f5 {z0 z1 z2 z3 z4 z5 z6 z7 z8 z9 z10 z11 z12 z13 z14 z15 z22 z23 z24 z25 z26 : Rat} : z6=z3-z0→z7=z4-z1→z8=z2-z5→z9=z6*z6→z10=z7*z7→z11=z9+z10→z12=-z2→z13=-z5→z14=z11+z12→z15=z14+z13→z22=z15*z15→z23=4→z24=z23*z2→z25=z24*z5→z26=z22-z25→(0 < z2)→(0 < z5)→(z6=0∧z7=0)→(¬ (z8=0))→0 < z26 := by
 intro e6 e7 e8 e9 e10 e11 e12 e13 e14 e15 e22 e23 e24 e25 e26 u0 u1 u2 u3
 clear e6
 clear e7
 have ⟨q1,q2,q3,q4,q5,q6,q7,q8,q9,qa,qb⟩ := lie_facts (z6*z6+z7*z7) z2 z5
 obtain ⟨ua2,ub2⟩ := u2
 subst ua2
 subst ub2
 subst_vars; grind
theorem cLie_f6 {z0 z1 z2 z3 z4 z5 z6 z7 z8 z9 z10 z11 z12 z13 z14 z15 : Rat} : z6=z3-z0→z7=z4-z1→z8=z2-z5→z9=z6*z6→z10=z7*z7→z11=z9+z10→z12=-z2→z13=-z5→z14=z11+z12→z15=z14+z13→(0 < z2)→(0 < z5)→(z6=0∧z7=0)→(¬ (z8=0))→z15 < 0 := by
 intro e6 e7 e8 e9 e10 e11 e12 e13 e14 e15 u0 u1 u2 u3
 clear e6
 clear e7
 have ⟨q1,q2,q3,q4,q5,q6,q7,q8,q9,qa,qb⟩ := lie_facts (z6*z6+z7*z7) z2 z5
 obtain ⟨ua2,ub2⟩ := u2
 subst ua2
 subst ub2
 subst_vars; grind
theorem cLie_f7 {z0 z1 z2 z3 z4 z5 z6 z7 z8 z9 z10 z11 z12 z13 z14 z15 : Rat} : z6=z3-z0→z7=z4-z1→z8=z2-z5→z9=z6*z6→z10=z7*z7→z11=z9+z10→z12=-z2→z13=-z5→z14=z11+z12→z15=z14+z13→(0 < z2)→(0 < z5)→(z6=0∧z7=0)→(¬ (z8=0))→¬ (z15=0) := by
 intro e6 e7 e8 e9 e10 e11 e12 e13 e14 e15 u0 u1 u2 u3
 clear e6
 clear e7
 have ⟨q1,q2,q3,q4,q5,q6,q7,q8,q9,qa,qb⟩ := lie_facts (z6*z6+z7*z7) z2 z5
 obtain ⟨ua2,ub2⟩ := u2
 subst ua2
 subst ub2
 subst_vars; grind
theorem cLie_f8 {z0 z1 z2 z3 z4 z5 z6 z7 z8 z16 z17 z18 z19 z20 z21 : Rat} : z6=z3-z0→z7=z4-z1→z8=z2-z5→z16=z0-z3→z17=z1-z4→z18=z16*z16→z19=z17*z17→z20=z18+z19→z21=z2+z5→(0 < z2)→(0 < z5)→(z6=0∧z7=0)→(¬ (z8=0))→¬ (z20=z21) := by
 intro e6 e7 e8 e16 e17 e18 e19 e20 e21 u0 u1 u2 u3
 have x16 : z16=-z6 := by rw [e16,e6]; grind
 clear e16 e6
 have x17 : z17=-z7 := by rw [e17,e7]; grind
 clear e17 e7
 have ⟨q1,q2,q3,q4,q5,q6,q7,q8,q9,qa,qb⟩ := lie_facts (z6*z6+z7*z7) z2 z5
 obtain ⟨ua2,ub2⟩ := u2
 subst ua2
 subst ub2
 subst_vars; grind
theorem cLie_f9 {z0 z1 z2 z3 z4 z5 z6 z7 z8 z16 : Rat} : z6=z3-z0→z7=z4-z1→z8=z2-z5→z16=z0-z3→(0 < z2)→(0 < z5)→(z6=0∧z7=0)→(¬ (z8=0))→z16=0 := by
 intro e6 e7 e8 e16 u0 u1 u2 u3
 have x16 : z16=-z6 := by rw [e16,e6]; grind
 clear e16 e6
 clear e7
 obtain ⟨ua2,ub2⟩ := u2
 subst ua2
 subst ub2
 subst_vars; grind
theorem cLie_f10 {z0 z1 z2 z3 z4 z5 z6 z7 z8 z17 : Rat} : z6=z3-z0→z7=z4-z1→z8=z2-z5→z17=z1-z4→(0 < z2)→(0 < z5)→(z6=0∧z7=0)→(¬ (z8=0))→z17=0 := by
 intro e6 e7 e8 e17 u0 u1 u2 u3
 clear e6
 have x17 : z17=-z7 := by rw [e17,e7]; grind
 clear e17 e7
 obtain ⟨ua2,ub2⟩ := u2
 subst ua2
 subst ub2
 subst_vars; grind
theorem cLie_f11 {z0 z1 z2 z3 z4 z5 z6 z7 z8 : Rat} : z6=z3-z0→z7=z4-z1→z8=z2-z5→(0 < z2)→(0 < z5)→(z6=0∧z7=0)→(¬ (z8=0))→¬ (z2=z5) := by
 intro e6 e7 e8 u0 u1 u2 u3
 obtain ⟨ua2,ub2⟩ := u2
 subst ua2
 subst ub2
 subst_vars; grind
theorem cLie_f12 {z0 z1 z2 z3 z4 z5 z6 z7 z8 z16 z17 z18 z19 z20 : Rat} : z6=z3-z0→z7=z4-z1→z8=z2-z5→z16=z0-z3→z17=z1-z4→z18=z16*z16→z19=z17*z17→z20=z18+z19→(0 < z2)→(0 < z5)→(z6=0∧z7=0)→(¬ (z8=0))→z20=0 := by
 intro e6 e7 e8 e16 e17 e18 e19 e20 u0 u1 u2 u3
 have x16 : z16=-z6 := by rw [e16,e6]; grind
 clear e16 e6
 have x17 : z17=-z7 := by rw [e17,e7]; grind
 clear e17 e7
 obtain ⟨ua2,ub2⟩ := u2
 subst ua2
 subst ub2
 subst_vars; grind
theorem cLie_f13 {z0 z1 z2 z3 z4 z5 z6 z7 z9 z10 z11 z12 z13 z14 z15 z22 z23 z24 z25 z26 : Rat} : z6=z3-z0→z7=z4-z1→z9=z6*z6→z10=z7*z7→z11=z9+z10→z12=-z2→z13=-z5→z14=z11+z12→z15=z14+z13→z22=z15*z15→z23=4→z24=z23*z2→z25=z24*z5→z26=z22-z25→(0 < z2)→(0 < z5)→(¬ (z6=0∧z7=0))→(z26 < 0)→(z15 < 0)→¬ (z15=0) := by
 intro e6 e7 e9 e10 e11 e12 e13 e14 e15 e22 e23 e24 e25 e26 u0 u1 u2 u3 u4
 clear e6
 clear e7
 have ⟨q1,q2,q3,q4,q5,q6,q7,q8,q9,qa,qb⟩ := lie_facts (z6*z6+z7*z7) z2 z5
 subst_vars; grind
theorem cLie_f14 {z0 z1 z2 z3 z4 z5 z6 z7 z9 z10 z11 z12 z13 z14 z15 z16 z17 z18 z19 z20 z21 z22 z23 z24 z25 z26 : Rat} : z6=z3-z0→z7=z4-z1→z9=z6*z6→z10=z7*z7→z11=z9+z10→z12=-z2→z13=-z5→z14=z11+z12→z15=z14+z13→z16=z0-z3→z17=z1-z4→z18=z16*z16→z19=z17*z17→z20=z18+z19→z21=z2+z5→z22=z15*z15→z23=4→z24=z23*z2→z25=z24*z5→z26=z22-z25→(0 < z2)→(0 < z5)→(¬ (z6=0∧z7=0))→(z26 < 0)→(z15 < 0)→¬ (z20=z21) := by
 intro e6 e7 e9 e10 e11 e12 e13 e14 e15 e16 e17 e18 e19 e20 e21 e22 e23 e24 e25 e26 u0 u1 u2 u3 u4
 have x16 : z16=-z6 := by rw [e16,e6]; grind
 clear e16 e6
 have x17 : z17=-z7 := by rw [e17,e7]; grind
 clear e17 e7
 have ⟨q1,q2,q3,q4,q5,q6,q7,q8,q9,qa,qb⟩ := lie_facts (z6*z6+z7*z7) z2 z5
 subst_vars; grind
theorem cLie_f15 {z0 z1 z2 z3 z4 z5 z6 z7 z9 z10 z11 z12 z13 z14 z15 z16 z17 z22 z23 z24 z25 z26 : Rat} : z6=z3-z0→z7=z4-z1→z9=z6*z6→z10=z7*z7→z11=z9+z10→z12=-z2→z13=-z5→z14=z11+z12→z15=z14+z13→z16=z0-z3→z17=z1-z4→z22=z15*z15→z23=4→z24=z23*z2→z25=z24*z5→z26=z22-z25→(0 < z2)→(0 < z5)→(¬ (z6=0∧z7=0))→(z26 < 0)→(z15 < 0)→¬ (z16=0∧z17=0) := by
 intro e6 e7 e9 e10 e11 e12 e13 e14 e15 e16 e17 e22 e23 e24 e25 e26 u0 u1 u2 u3 u4
 have x16 : z16=-z6 := by rw [e16,e6]; grind
 clear e16 e6
 have x17 : z17=-z7 := by rw [e17,e7]; grind
 clear e17 e7
 have ⟨q1,q2,q3,q4,q5,q6,q7,q8,q9,qa,qb⟩ := lie_facts (z6*z6+z7*z7) z2 z5
 subst_vars; grind
theorem cLie_f16 {z0 z1 z2 z3 z4 z5 z6 z7 z9 z10 z11 z12 z13 z14 z15 z16 z17 z18 z19 z20 z22 z23 z24 z25 z26 : Rat} : z6=z3-z0→z7=z4-z1→z9=z6*z6→z10=z7*z7→z11=z9+z10→z12=-z2→z13=-z5→z14=z11+z12→z15=z14+z13→z16=z0-z3→z17=z1-z4→z18=z16*z16→z19=z17*z17→z20=z18+z19→z22=z15*z15→z23=4→z24=z23*z2→z25=z24*z5→z26=z22-z25→(0 < z2)→(0 < z5)→(¬ (z6=0∧z7=0))→(z26 < 0)→(z15 < 0)→¬ (z20=0) := by
 intro e6 e7 e9 e10 e11 e12 e13 e14 e15 e16 e17 e18 e19 e20 e22 e23 e24 e25 e26 u0 u1 u2 u3 u4
 have x16 : z16=-z6 := by rw [e16,e6]; grind
 clear e16 e6
 have x17 : z17=-z7 := by rw [e17,e7]; grind
 clear e17 e7
 have ⟨q1,q2,q3,q4,q5,q6,q7,q8,q9,qa,qb⟩ := lie_facts (z6*z6+z7*z7) z2 z5
 have hp := sq_pos (x := z16) (y := z17) (by grind)
 subst_vars; grind
theorem cLie_f17 {z0 z1 z2 z3 z4 z5 z6 z7 z9 z10 z11 z12 z13 z14 z15 z16 z17 z18 z19 z20 z22 z23 z24 z25 z26 z27 z28 z29 z30 z31 z32 z33 : Rat} : z6=z3-z0→z7=z4-z1→z9=z6*z6→z10=z7*z7→z11=z9+z10→z12=-z2→z13=-z5→z14=z11+z12→z15=z14+z13→z16=z0-z3→z17=z1-z4→z18=z16*z16→z19=z17*z17→z20=z18+z19→z22=z15*z15→z23=4→z24=z23*z2→z25=z24*z5→z26=z22-z25→z27=z20+z2→z28=z27+z13→z29=z23*z20→z30=z29*z2→z31=z28*z28→z32=z30-z31→z33=z5-z2→(0 < z2)→(0 < z5)→(¬ (z6=0∧z7=0))→(z26 < 0)→(z15 < 0)→(0 < z33)→0 < z32 := by
 intro e6 e7 e9 e10 e11 e12 e13 e14 e15 e16 e17 e18 e19 e20 e22 e23 e24 e25 e26 e27 e28 e29 e30 e31 e32 e33 u0 u1 u2 u3 u4 u5
 have rr3 : z32=(-1)*z26 := by
  clear u0 u1 u2 u3 u4 u5
  subst_vars; grind
 have x16 : z16=-z6 := by rw [e16,e6]; grind
 clear e16 e6
 have x17 : z17=-z7 := by rw [e17,e7]; grind
 clear e17 e7
 have ⟨q1,q2,q3,q4,q5,q6,q7,q8,q9,qa,qb⟩ := lie_facts (z6*z6+z7*z7) z2 z5
 first | (clear e9 e10 e11 e12 e13 e14 e15 e18 e19 e20 e22 e23 e24 e25 e26 e27 e28 e29 e30 e31 e32 e33; grind) | (subst_vars; grind)
theorem cLie_f18 {z0 z1 z2 z3 z4 z5 z6 z7 z9 z10 z11 z12 z13 z14 z15 z16 z17 z18 z19 z20 z22 z23 z24 z25 z26 z27 z28 z29 z30 z31 z32 z33 : Rat} : z6=z3-z0→z7=z4-z1→z9=z6*z6→z10=z7*z7→z11=z9+z10→z12=-z2→z13=-z5→z14=z11+z12→z15=z14+z13→z16=z0-z3→z17=z1-z4→z18=z16*z16→z19=z17*z17→z20=z18+z19→z22=z15*z15→z23=4→z24=z23*z2→z25=z24*z5→z26=z22-z25→z27=z20+z2→z28=z27+z13→z29=z23*z20→z30=z29*z2→z31=z28*z28→z32=z30-z31→z33=z5-z2→(0 < z2)→(0 < z5)→(¬ (z6=0∧z7=0))→(z26 < 0)→(z15 < 0)→(¬ (0 < z33))→0 < z32 := by
 intro e6 e7 e9 e10 e11 e12 e13 e14 e15 e16 e17 e18 e19 e20 e22 e23 e24 e25 e26 e27 e28 e29 e30 e31 e32 e33 u0 u1 u2 u3 u4 u5
 have rr3 : z32=(-1)*z26 := by
  clear u0 u1 u2 u3 u4 u5
  subst_vars; grind
 have x16 : z16=-z6 := by rw [e16,e6]; grind
 clear e16 e6
 have x17 : z17=-z7 := by rw [e17,e7]; grind
 clear e17 e7
 have ⟨q1,q2,q3,q4,q5,q6,q7,q8,q9,qa,qb⟩ := lie_facts (z6*z6+z7*z7) z2 z5
 first | (clear e9 e10 e11 e12 e13 e14 e15 e18 e19 e20 e22 e23 e24 e25 e26 e27 e28 e29 e30 e31 e32 e33; grind) | (subst_vars; grind)
theorem cLie_f19 {z0 z1 z2 z3 z4 z5 z6 z7 z9 z10 z11 z12 z13 z14 z15 z16 z17 z18 z19 z20 z21 z22 z23 z24 z25 z26 : Rat} : z6=z3-z0→z7=z4-z1→z9=z6*z6→z10=z7*z7→z11=z9+z10→z12=-z2→z13=-z5→z14=z11+z12→z15=z14+z13→z16=z0-z3→z17=z1-z4→z18=z16*z16→z19=z17*z17→z20=z18+z19→z21=z2+z5→z22=z15*z15→z23=4→z24=z23*z2→z25=z24*z5→z26=z22-z25→(0 < z2)→(0 < z5)→(¬ (z6=0∧z7=0))→(z26 < 0)→(¬ (z15 < 0))→(z15=0)→z20=z21 := by
 intro e6 e7 e9 e10 e11 e12 e13 e14 e15 e16 e17 e18 e19 e20 e21 e22 e23 e24 e25 e26 u0 u1 u2 u3 u4 u5
 have x16 : z16=-z6 := by rw [e16,e6]; grind
 clear e16 e6
 have x17 : z17=-z7 := by rw [e17,e7]; grind
 clear e17 e7
 subst_vars; grind
theorem cLie_f20 {z0 z1 z2 z3 z4 z5 z6 z7 z9 z10 z11 z12 z13 z14 z15 z16 z17 z22 z23 z24 z25 z26 : Rat} : z6=z3-z0→z7=z4-z1→z9=z6*z6→z10=z7*z7→z11=z9+z10→z12=-z2→z13=-z5→z14=z11+z12→z15=z14+z13→z16=z0-z3→z17=z1-z4→z22=z15*z15→z23=4→z24=z23*z2→z25=z24*z5→z26=z22-z25→(0 < z2)→(0 < z5)→(¬ (z6=0∧z7=0))→(z26 < 0)→(¬ (z15 < 0))→(z15=0)→¬ (z16=0∧z17=0) := by
 intro e6 e7 e9 e10 e11 e12 e13 e14 e15 e16 e17 e22 e23 e24 e25 e26 u0 u1 u2 u3 u4 u5
 have ua5 : z15≤0 := by rw [u5]; exact Rat.le_refl
 have ub5 : 0≤z15 := by rw [u5]; exact Rat.le_refl
 clear u5
 have x16 : z16=-z6 := by rw [e16,e6]; grind
 clear e16 e6
 have x17 : z17=-z7 := by rw [e17,e7]; grind
 clear e17 e7
 have ⟨q1,q2,q3,q4,q5,q6,q7,q8,q9,qa,qb⟩ := lie_facts (z6*z6+z7*z7) z2 z5
 subst_vars; grind
theorem cLie_f21 {z0 z1 z2 z3 z4 z5 z6 z7 z9 z10 z11 z12 z13 z14 z15 z16 z17 z18 z19 z20 z22 z23 z24 z25 z26 : Rat} : z6=z3-z0→z7=z4-z1→z9=z6*z6→z10=z7*z7→z11=z9+z10→z12=-z2→z13=-z5→z14=z11+z12→z15=z14+z13→z16=z0-z3→z17=z1-z4→z18=z16*z16→z19=z17*z17→z20=z18+z19→z22=z15*z15→z23=4→z24=z23*z2→z25=z24*z5→z26=z22-z25→(0 < z2)→(0 < z5)→(¬ (z6=0∧z7=0))→(z26 < 0)→(¬ (z15 < 0))→(z15=0)→¬ (z20=0) := by
 intro e6 e7 e9 e10 e11 e12 e13 e14 e15 e16 e17 e18 e19 e20 e22 e23 e24 e25 e26 u0 u1 u2 u3 u4 u5
 have ua5 : z15≤0 := by rw [u5]; exact Rat.le_refl
 have ub5 : 0≤z15 := by rw [u5]; exact Rat.le_refl
 clear u5
 have x16 : z16=-z6 := by rw [e16,e6]; grind
 clear e16 e6
 have x17 : z17=-z7 := by rw [e17,e7]; grind
 clear e17 e7
 have ⟨q1,q2,q3,q4,q5,q6,q7,q8,q9,qa,qb⟩ := lie_facts (z6*z6+z7*z7) z2 z5
 have hp := sq_pos (x := z16) (y := z17) (by grind)
 subst_vars; grind
theorem cLie_f22 {z0 z1 z2 z3 z4 z5 z6 z7 z9 z10 z11 z12 z13 z14 z15 z16 z17 z18 z19 z20 z22 z23 z24 z25 z26 z27 z28 z29 z30 z31 z32 z33 : Rat} : z6=z3-z0→z7=z4-z1→z9=z6*z6→z10=z7*z7→z11=z9+z10→z12=-z2→z13=-z5→z14=z11+z12→z15=z14+z13→z16=z0-z3→z17=z1-z4→z18=z16*z16→z19=z17*z17→z20=z18+z19→z22=z15*z15→z23=4→z24=z23*z2→z25=z24*z5→z26=z22-z25→z27=z20+z2→z28=z27+z13→z29=z23*z20→z30=z29*z2→z31=z28*z28→z32=z30-z31→z33=z5-z2→(0 < z2)→(0 < z5)→(¬ (z6=0∧z7=0))→(z26 < 0)→(¬ (z15 < 0))→(z15=0)→(0 < z33)→0 < z32 := by
 intro e6 e7 e9 e10 e11 e12 e13 e14 e15 e16 e17 e18 e19 e20 e22 e23 e24 e25 e26 e27 e28 e29 e30 e31 e32 e33 u0 u1 u2 u3 u4 u5 u6
 have rr3 : z32=(-1)*z26 := by
  clear u0 u1 u2 u3 u4 u5 u6
  subst_vars; grind
 have ua5 : z15≤0 := by rw [u5]; exact Rat.le_refl
 have ub5 : 0≤z15 := by rw [u5]; exact Rat.le_refl
 clear u5
 have x16 : z16=-z6 := by rw [e16,e6]; grind
 clear e16 e6
 have x17 : z17=-z7 := by rw [e17,e7]; grind
 clear e17 e7
 have ⟨q1,q2,q3,q4,q5,q6,q7,q8,q9,qa,qb⟩ := lie_facts (z6*z6+z7*z7) z2 z5
 first | (clear e9 e10 e11 e12 e13 e14 e15 e18 e19 e20 e22 e23 e24 e25 e26 e27 e28 e29 e30 e31 e32 e33; grind) | (subst_vars; grind)
theorem cLie_f23 {z0 z1 z2 z3 z4 z5 z6 z7 z9 z10 z11 z12 z13 z14 z15 z16 z17 z18 z19 z20 z22 z23 z24 z25 z26 z27 z28 z29 z30 z31 z32 z33 : Rat} : z6=z3-z0→z7=z4-z1→z9=z6*z6→z10=z7*z7→z11=z9+z10→z12=-z2→z13=-z5→z14=z11+z12→z15=z14+z13→z16=z0-z3→z17=z1-z4→z18=z16*z16→z19=z17*z17→z20=z18+z19→z22=z15*z15→z23=4→z24=z23*z2→z25=z24*z5→z26=z22-z25→z27=z20+z2→z28=z27+z13→z29=z23*z20→z30=z29*z2→z31=z28*z28→z32=z30-z31→z33=z5-z2→(0 < z2)→(0 < z5)→(¬ (z6=0∧z7=0))→(z26 < 0)→(¬ (z15 < 0))→(z15=0)→(¬ (0 < z33))→0 < z32 := by
 intro e6 e7 e9 e10 e11 e12 e13 e14 e15 e16 e17 e18 e19 e20 e22 e23 e24 e25 e26 e27 e28 e29 e30 e31 e32 e33 u0 u1 u2 u3 u4 u5 u6
 have rr3 : z32=(-1)*z26 := by
  clear u0 u1 u2 u3 u4 u5 u6
  subst_vars; grind
 have ua5 : z15≤0 := by rw [u5]; exact Rat.le_refl
 have ub5 : 0≤z15 := by rw [u5]; exact Rat.le_refl
 clear u5
 have x16 : z16=-z6 := by rw [e16,e6]; grind
 clear e16 e6
 have x17 : z17=-z7 := by rw [e17,e7]; grind
 clear e17 e7
 have ⟨q1,q2,q3,q4,q5,q6,q7,q8,q9,qa,qb⟩ := lie_facts (z6*z6+z7*z7) z2 z5
 first | (clear e9 e10 e11 e12 e13 e14 e15 e18 e19 e20 e22 e23 e24 e25 e26 e27 e28 e29 e30 e31 e32 e33; grind) | (subst_vars; grind)
theorem cLie_f24 {z0 z1 z2 z3 z4 z5 z6 z7 z9 z10 z11 z12 z13 z14 z15 z16 z17 z18 z19 z20 z21 z22 z23 z24 z25 z26 : Rat} : z6=z3-z0→z7=z4-z1→z9=z6*z6→z10=z7*z7→z11=z9+z10→z12=-z2→z13=-z5→z14=z11+z12→z15=z14+z13→z16=z0-z3→z17=z1-z4→z18=z16*z16→z19=z17*z17→z20=z18+z19→z21=z2+z5→z22=z15*z15→z23=4→z24=z23*z2→z25=z24*z5→z26=z22-z25→(0 < z2)→(0 < z5)→(¬ (z6=0∧z7=0))→(z26 < 0)→(¬ (z15 < 0))→(¬ (z15=0))→¬ (z20=z21) := by
 intro e6 e7 e9 e10 e11 e12 e13 e14 e15 e16 e17 e18 e19 e20 e21 e22 e23 e24 e25 e26 u0 u1 u2 u3 u4 u5
 have x16 : z16=-z6 := by rw [e16,e6]; grind
 clear e16 e6
 have x17 : z17=-z7 := by rw [e17,e7]; grind
 clear e17 e7
 have ⟨q1,q2,q3,q4,q5,q6,q7,q8,q9,qa,qb⟩ := lie_facts (z6*z6+z7*z7) z2 z5
 subst_vars; grind
theorem cLie_f25 {z0 z1 z2 z3 z4 z5 z6 z7 z9 z10 z11 z12 z13 z14 z15 z16 z17 z22 z23 z24 z25 z26 : Rat} : z6=z3-z0→z7=z4-z1→z9=z6*z6→z10=z7*z7→z11=z9+z10→z12=-z2→z13=-z5→z14=z11+z12→z15=z14+z13→z16=z0-z3→z17=z1-z4→z22=z15*z15→z23=4→z24=z23*z2→z25=z24*z5→z26=z22-z25→(0 < z2)→(0 < z5)→(¬ (z6=0∧z7=0))→(z26 < 0)→(¬ (z15 < 0))→(¬ (z15=0))→¬ (z16=0∧z17=0) := by
 intro e6 e7 e9 e10 e11 e12 e13 e14 e15 e16 e17 e22 e23 e24 e25 e26 u0 u1 u2 u3 u4 u5
 have x16 : z16=-z6 := by rw [e16,e6]; grind
 clear e16 e6
 have x17 : z17=-z7 := by rw [e17,e7]; grind
 clear e17 e7
 have ⟨q1,q2,q3,q4,q5,q6,q7,q8,q9,qa,qb⟩ := lie_facts (z6*z6+z7*z7) z2 z5
 subst_vars; grind
theorem cLie_f26 {z0 z1 z2 z3 z4 z5 z6 z7 z9 z10 z11 z12 z13 z14 z15 z16 z17 z18 z19 z20 z22 z23 z24 z25 z26 : Rat} : z6=z3-z0→z7=z4-z1→z9=z6*z6→z10=z7*z7→z11=z9+z10→z12=-z2→z13=-z5→z14=z11+z12→z15=z14+z13→z16=z0-z3→z17=z1-z4→z18=z16*z16→z19=z17*z17→z20=z18+z19→z22=z15*z15→z23=4→z24=z23*z2→z25=z24*z5→z26=z22-z25→(0 < z2)→(0 < z5)→(¬ (z6=0∧z7=0))→(z26 < 0)→(¬ (z15 < 0))→(¬ (z15=0))→¬ (z20=0) := by
 intro e6 e7 e9 e10 e11 e12 e13 e14 e15 e16 e17 e18 e19 e20 e22 e23 e24 e25 e26 u0 u1 u2 u3 u4 u5
 have x16 : z16=-z6 := by rw [e16,e6]; grind
 clear e16 e6
 have x17 : z17=-z7 := by rw [e17,e7]; grind
 clear e17 e7
 have ⟨q1,q2,q3,q4,q5,q6,q7,q8,q9,qa,qb⟩ := lie_facts (z6*z6+z7*z7) z2 z5
 have hp := sq_pos (x := z16) (y := z17) (by grind)
 subst_vars; grind
theorem cLie_f27 {z0 z1 z2 z3 z4 z5 z6 z7 z9 z10 z11 z12 z13 z14 z15 z16 z17 z18 z19 z20 z22 z23 z24 z25 z26 z27 z28 z29 z30 z31 z32 z33 : Rat} : z6=z3-z0→z7=z4-z1→z9=z6*z6→z10=z7*z7→z11=z9+z10→z12=-z2→z13=-z5→z14=z11+z12→z15=z14+z13→z16=z0-z3→z17=z1-z4→z18=z16*z16→z19=z17*z17→z20=z18+z19→z22=z15*z15→z23=4→z24=z23*z2→z25=z24*z5→z26=z22-z25→z27=z20+z2→z28=z27+z13→z29=z23*z20→z30=z29*z2→z31=z28*z28→z32=z30-z31→z33=z5-z2→(0 < z2)→(0 < z5)→(¬ (z6=0∧z7=0))→(z26 < 0)→(¬ (z15 < 0))→(¬ (z15=0))→(0 < z33)→0 < z32 := by
 intro e6 e7 e9 e10 e11 e12 e13 e14 e15 e16 e17 e18 e19 e20 e22 e23 e24 e25 e26 e27 e28 e29 e30 e31 e32 e33 u0 u1 u2 u3 u4 u5 u6
 have rr3 : z32=(-1)*z26 := by
  clear u0 u1 u2 u3 u4 u5 u6
  subst_vars; grind
 have x16 : z16=-z6 := by rw [e16,e6]; grind
 clear e16 e6
 have x17 : z17=-z7 := by rw [e17,e7]; grind
 clear e17 e7
 have ⟨q1,q2,q3,q4,q5,q6,q7,q8,q9,qa,qb⟩ := lie_facts (z6*z6+z7*z7) z2 z5
 first | (clear e9 e10 e11 e12 e13 e14 e15 e18 e19 e20 e22 e23 e24 e25 e26 e27 e28 e29 e30 e31 e32 e33; grind) | (subst_vars; grind)
theorem cLie_f28 {z0 z1 z2 z3 z4 z5 z6 z7 z9 z10 z11 z12 z13 z14 z15 z16 z17 z18 z19 z20 z22 z23 z24 z25 z26 z27 z28 z29 z30 z31 z32 z33 : Rat} : z6=z3-z0→z7=z4-z1→z9=z6*z6→z10=z7*z7→z11=z9+z10→z12=-z2→z13=-z5→z14=z11+z12→z15=z14+z13→z16=z0-z3→z17=z1-z4→z18=z16*z16→z19=z17*z17→z20=z18+z19→z22=z15*z15→z23=4→z24=z23*z2→z25=z24*z5→z26=z22-z25→z27=z20+z2→z28=z27+z13→z29=z23*z20→z30=z29*z2→z31=z28*z28→z32=z30-z31→z33=z5-z2→(0 < z2)→(0 < z5)→(¬ (z6=0∧z7=0))→(z26 < 0)→(¬ (z15 < 0))→(¬ (z15=0))→(¬ (0 < z33))→0 < z32 := by
 intro e6 e7 e9 e10 e11 e12 e13 e14 e15 e16 e17 e18 e19 e20 e22 e23 e24 e25 e26 e27 e28 e29 e30 e31 e32 e33 u0 u1 u2 u3 u4 u5 u6
 have rr3 : z32=(-1)*z26 := by
  clear u0 u1 u2 u3 u4 u5 u6
  subst_vars; grind
 have x16 : z16=-z6 := by rw [e16,e6]; grind
 clear e16 e6
 have x17 : z17=-z7 := by rw [e17,e7]; grind
 clear e17 e7
 have ⟨q1,q2,q3,q4,q5,q6,q7,q8,q9,qa,qb⟩ := lie_facts (z6*z6+z7*z7) z2 z5
 first | (clear e9 e10 e11 e12 e13 e14 e15 e18 e19 e20 e22 e23 e24 e25 e26 e27 e28 e29 e30 e31 e32 e33; grind) | (subst_vars; grind)
theorem cLie_f29 {z0 z1 z2 z3 z4 z5 z6 z7 z9 z10 z11 z12 z13 z14 z15 z22 z23 z24 z25 z26 : Rat} : z6=z3-z0→z7=z4-z1→z9=z6*z6→z10=z7*z7→z11=z9+z10→z12=-z2→z13=-z5→z14=z11+z12→z15=z14+z13→z22=z15*z15→z23=4→z24=z23*z2→z25=z24*z5→z26=z22-z25→(0 < z2)→(0 < z5)→(¬ (z6=0∧z7=0))→(z26=0)→(z15 < 0)→¬ (z15=0) := by
 intro e6 e7 e9 e10 e11 e12 e13 e14 e15 e22 e23 e24 e25 e26 u0 u1 u2 u3 u4
 have ua3 : z26≤0 := by rw [u3]; exact Rat.le_refl
 have ub3 : 0≤z26 := by rw [u3]; exact Rat.le_refl
 clear u3
 clear e6
 clear e7
 have ⟨q1,q2,q3,q4,q5,q6,q7,q8,q9,qa,qb⟩ := lie_facts (z6*z6+z7*z7) z2 z5
 subst_vars; grind
theorem cLie_f30 {z0 z1 z2 z3 z4 z5 z6 z7 z9 z10 z11 z12 z13 z14 z15 z16 z17 z18 z19 z20 z21 z22 z23 z24 z25 z26 : Rat} : z6=z3-z0→z7=z4-z1→z9=z6*z6→z10=z7*z7→z11=z9+z10→z12=-z2→z13=-z5→z14=z11+z12→z15=z14+z13→z16=z0-z3→z17=z1-z4→z18=z16*z16→z19=z17*z17→z20=z18+z19→z21=z2+z5→z22=z15*z15→z23=4→z24=z23*z2→z25=z24*z5→z26=z22-z25→(0 < z2)→(0 < z5)→(¬ (z6=0∧z7=0))→(z26=0)→(z15 < 0)→¬ (z20=z21) := by
 intro e6 e7 e9 e10 e11 e12 e13 e14 e15 e16 e17 e18 e19 e20 e21 e22 e23 e24 e25 e26 u0 u1 u2 u3 u4
 have ua3 : z26≤0 := by rw [u3]; exact Rat.le_refl
 have ub3 : 0≤z26 := by rw [u3]; exact Rat.le_refl
 clear u3
 have x16 : z16=-z6 := by rw [e16,e6]; grind
 clear e16 e6
 have x17 : z17=-z7 := by rw [e17,e7]; grind
 clear e17 e7
 have ⟨q1,q2,q3,q4,q5,q6,q7,q8,q9,qa,qb⟩ := lie_facts (z6*z6+z7*z7) z2 z5
 subst_vars; grind
theorem cLie_f31 {z0 z1 z2 z3 z4 z5 z6 z7 z9 z10 z11 z12 z13 z14 z15 z16 z17 z22 z23 z24 z25 z26 : Rat} : z6=z3-z0→z7=z4-z1→z9=z6*z6→z10=z7*z7→z11=z9+z10→z12=-z2→z13=-z5→z14=z11+z12→z15=z14+z13→z16=z0-z3→z17=z1-z4→z22=z15*z15→z23=4→z24=z23*z2→z25=z24*z5→z26=z22-z25→(0 < z2)→(0 < z5)→(¬ (z6=0∧z7=0))→(z26=0)→(z15 < 0)→¬ (z16=0∧z17=0) := by
 intro e6 e7 e9 e10 e11 e12 e13 e14 e15 e16 e17 e22 e23 e24 e25 e26 u0 u1 u2 u3 u4
 have ua3 : z26≤0 := by rw [u3]; exact Rat.le_refl
 have ub3 : 0≤z26 := by rw [u3]; exact Rat.le_refl
 clear u3
 have x16 : z16=-z6 := by rw [e16,e6]; grind
 clear e16 e6
 have x17 : z17=-z7 := by rw [e17,e7]; grind
 clear e17 e7
 have ⟨q1,q2,q3,q4,q5,q6,q7,q8,q9,qa,qb⟩ := lie_facts (z6*z6+z7*z7) z2 z5
 subst_vars; grind
theorem cLie_f32 {z0 z1 z2 z3 z4 z5 z6 z7 z9 z10 z11 z12 z13 z14 z15 z16 z17 z18 z19 z20 z22 z23 z24 z25 z26 : Rat} : z6=z3-z0→z7=z4-z1→z9=z6*z6→z10=z7*z7→z11=z9+z10→z12=-z2→z13=-z5→z14=z11+z12→z15=z14+z13→z16=z0-z3→z17=z1-z4→z18=z16*z16→z19=z17*z17→z20=z18+z19→z22=z15*z15→z23=4→z24=z23*z2→z25=z24*z5→z26=z22-z25→(0 < z2)→(0 < z5)→(¬ (z6=0∧z7=0))→(z26=0)→(z15 < 0)→¬ (z20=0) := by
 intro e6 e7 e9 e10 e11 e12 e13 e14 e15 e16 e17 e18 e19 e20 e22 e23 e24 e25 e26 u0 u1 u2 u3 u4
 have ua3 : z26≤0 := by rw [u3]; exact Rat.le_refl
 have ub3 : 0≤z26 := by rw [u3]; exact Rat.le_refl
 clear u3
 have x16 : z16=-z6 := by rw [e16,e6]; grind
 clear e16 e6
 have x17 : z17=-z7 := by rw [e17,e7]; grind
 clear e17 e7
 have ⟨q1,q2,q3,q4,q5,q6,q7,q8,q9,qa,qb⟩ := lie_facts (z6*z6+z7*z7) z2 z5
 have hp := sq_pos (x := z16) (y := z17) (by grind)
 subst_vars; grind
theorem cLie_f33 {z0 z1 z2 z3 z4 z5 z6 z7 z9 z10 z11 z12 z13 z14 z15 z16 z17 z18 z19 z20 z22 z23 z24 z25 z26 z27 z28 z29 z30 z31 z32 z33 : Rat} : z6=z3-z0→z7=z4-z1→z9=z6*z6→z10=z7*z7→z11=z9+z10→z12=-z2→z13=-z5→z14=z11+z12→z15=z14+z13→z16=z0-z3→z17=z1-z4→z18=z16*z16→z19=z17*z17→z20=z18+z19→z22=z15*z15→z23=4→z24=z23*z2→z25=z24*z5→z26=z22-z25→z27=z20+z2→z28=z27+z13→z29=z23*z20→z30=z29*z2→z31=z28*z28→z32=z30-z31→z33=z5-z2→(0 < z2)→(0 < z5)→(¬ (z6=0∧z7=0))→(z26=0)→(z15 < 0)→(0 < z33)→¬ (0 < z32) := by
 intro e6 e7 e9 e10 e11 e12 e13 e14 e15 e16 e17 e18 e19 e20 e22 e23 e24 e25 e26 e27 e28 e29 e30 e31 e32 e33 u0 u1 u2 u3 u4 u5
 have rr3 : z32=(-1)*z26 := by
  clear u0 u1 u2 u3 u4 u5
  subst_vars; grind
 have ua3 : z26≤0 := by rw [u3]; exact Rat.le_refl
 have ub3 : 0≤z26 := by rw [u3]; exact Rat.le_refl
 clear u3
 have x16 : z16=-z6 := by rw [e16,e6]; grind
 clear e16 e6
 have x17 : z17=-z7 := by rw [e17,e7]; grind
 clear e17 e7
 have ⟨q1,q2,q3,q4,q5,q6,q7,q8,q9,qa,qb⟩ := lie_facts (z6*z6+z7*z7) z2 z5
 first | (clear e9 e10 e11 e12 e13 e14 e15 e18 e19 e20 e22 e23 e24 e25 e26 e27 e28 e29 e30 e31 e32 e33; grind) | (subst_vars; grind)
theorem cLie_f34 {z0 z1 z2 z3 z4 z5 z6 z7 z9 z10 z11 z12 z13 z14 z15 z16 z17 z18 z19 z20 z22 z23 z24 z25 z26 z27 z28 z29 z30 z31 z32 z33 : Rat} : z6=z3-z0→z7=z4-z1→z9=z6*z6→z10=z7*z7→z11=z9+z10→z12=-z2→z13=-z5→z14=z11+z12→z15=z14+z13→z16=z0-z3→z17=z1-z4→z18=z16*z16→z19=z17*z17→z20=z18+z19→z22=z15*z15→z23=4→z24=z23*z2→z25=z24*z5→z26=z22-z25→z27=z20+z2→z28=z27+z13→z29=z23*z20→z30=z29*z2→z31=z28*z28→z32=z30-z31→z33=z5-z2→(0 < z2)→(0 < z5)→(¬ (z6=0∧z7=0))→(z26=0)→(z15 < 0)→(0 < z33)→z32=0 := by
 intro e6 e7 e9 e10 e11 e12 e13 e14 e15 e16 e17 e18 e19 e20 e22 e23 e24 e25 e26 e27 e28 e29 e30 e31 e32 e33 u0 u1 u2 u3 u4 u5
 have x16 : z16=-z6 := by rw [e16,e6]; grind
 clear e16 e6
 have x17 : z17=-z7 := by rw [e17,e7]; grind
 clear e17 e7
 subst_vars; grind
theorem cLie_f35 {z0 z1 z2 z3 z4 z5 z6 z7 z9 z10 z11 z12 z13 z14 z15 z16 z17 z18 z19 z20 z22 z23 z24 z25 z26 z33 z34 : Rat} : z6=z3-z0→z7=z4-z1→z9=z6*z6→z10=z7*z7→z11=z9+z10→z12=-z2→z13=-z5→z14=z11+z12→z15=z14+z13→z16=z0-z3→z17=z1-z4→z18=z16*z16→z19=z17*z17→z20=z18+z19→z22=z15*z15→z23=4→z24=z23*z2→z25=z24*z5→z26=z22-z25→z33=z5-z2→z34=z20-z5→(0 < z2)→(0 < z5)→(¬ (z6=0∧z7=0))→(z26=0)→(z15 < 0)→(0 < z33)→¬ (0 < z34) := by
 intro e6 e7 e9 e10 e11 e12 e13 e14 e15 e16 e17 e18 e19 e20 e22 e23 e24 e25 e26 e33 e34 u0 u1 u2 u3 u4 u5
 have ua3 : z26≤0 := by rw [u3]; exact Rat.le_refl
 have ub3 : 0≤z26 := by rw [u3]; exact Rat.le_refl
 clear u3
 have x16 : z16=-z6 := by rw [e16,e6]; grind
 clear e16 e6
 have x17 : z17=-z7 := by rw [e17,e7]; grind
 clear e17 e7
 have ⟨q1,q2,q3,q4,q5,q6,q7,q8,q9,qa,qb⟩ := lie_facts (z6*z6+z7*z7) z2 z5
 subst_vars; grind
theorem cLie_f36 {z0 z1 z2 z3 z4 z5 z6 z7 z9 z10 z11 z12 z13 z14 z15 z16 z17 z18 z19 z20 z22 z23 z24 z25 z26 z27 z28 z29 z30 z31 z32 z33 : Rat} : z6=z3-z0→z7=z4-z1→z9=z6*z6→z10=z7*z7→z11=z9+z10→z12=-z2→z13=-z5→z14=z11+z12→z15=z14+z13→z16=z0-z3→z17=z1-z4→z18=z16*z16→z19=z17*z17→z20=z18+z19→z22=z15*z15→z23=4→z24=z23*z2→z25=z24*z5→z26=z22-z25→z27=z20+z2→z28=z27+z13→z29=z23*z20→z30=z29*z2→z31=z28*z28→z32=z30-z31→z33=z5-z2→(0 < z2)→(0 < z5)→(¬ (z6=0∧z7=0))→(z26=0)→(z15 < 0)→(¬ (0 < z33))→¬ (0 < z32) := by
 intro e6 e7 e9 e10 e11 e12 e13 e14 e15 e16 e17 e18 e19 e20 e22 e23 e24 e25 e26 e27 e28 e29 e30 e31 e32 e33 u0 u1 u2 u3 u4 u5
 have rr3 : z32=(-1)*z26 := by
  clear u0 u1 u2 u3 u4 u5
  subst_vars; grind
 have ua3 : z26≤0 := by rw [u3]; exact Rat.le_refl
 have ub3 : 0≤z26 := by rw [u3]; exact Rat.le_refl
 clear u3
 have x16 : z16=-z6 := by rw [e16,e6]; grind
 clear e16 e6
 have x17 : z17=-z7 := by rw [e17,e7]; grind
 clear e17 e7
 have ⟨q1,q2,q3,q4,q5,q6,q7,q8,q9,qa,qb⟩ := lie_facts (z6*z6+z7*z7) z2 z5
 first | (clear e9 e10 e11 e12 e13 e14 e15 e18 e19 e20 e22 e23 e24 e25 e26 e27 e28 e29 e30 e31 e32 e33; grind) | (subst_vars; grind)
theorem cLie_f37 {z0 z1 z2 z3 z4 z5 z6 z7 z9 z10 z11 z12 z13 z14 z15 z16 z17 z18 z19 z20 z22 z23 z24 z25 z26 z27 z28 z29 z30 z31 z32 z33 : Rat} : z6=z3-z0→z7=z4-z1→z9=z6*z6→z10=z7*z7→z11=z9+z10→z12=-z2→z13=-z5→z14=z11+z12→z15=z14+z13→z16=z0-z3→z17=z1-z4→z18=z16*z16→z19=z17*z17→z20=z18+z19→z22=z15*z15→z23=4→z24=z23*z2→z25=z24*z5→z26=z22-z25→z27=z20+z2→z28=z27+z13→z29=z23*z20→z30=z29*z2→z31=z28*z28→z32=z30-z31→z33=z5-z2→(0 < z2)→(0 < z5)→(¬ (z6=0∧z7=0))→(z26=0)→(z15 < 0)→(¬ (0 < z33))→z32=0 := by
 intro e6 e7 e9 e10 e11 e12 e13 e14 e15 e16 e17 e18 e19 e20 e22 e23 e24 e25 e26 e27 e28 e29 e30 e31 e32 e33 u0 u1 u2 u3 u4 u5
 have x16 : z16=-z6 := by rw [e16,e6]; grind
 clear e16 e6
 have x17 : z17=-z7 := by rw [e17,e7]; grind
 clear e17 e7
 subst_vars; grind
theorem cLie_f38 {z0 z1 z2 z3 z4 z5 z6 z7 z9 z10 z11 z12 z13 z14 z15 z16 z17 z18 z19 z20 z22 z23 z24 z25 z26 z33 z35 : Rat} : z6=z3-z0→z7=z4-z1→z9=z6*z6→z10=z7*z7→z11=z9+z10→z12=-z2→z13=-z5→z14=z11+z12→z15=z14+z13→z16=z0-z3→z17=z1-z4→z18=z16*z16→z19=z17*z17→z20=z18+z19→z22=z15*z15→z23=4→z24=z23*z2→z25=z24*z5→z26=z22-z25→z33=z5-z2→z35=z20-z2→(0 < z2)→(0 < z5)→(¬ (z6=0∧z7=0))→(z26=0)→(z15 < 0)→(¬ (0 < z33))→¬ (0 < z35) := by
 intro e6 e7 e9 e10 e11 e12 e13 e14 e15 e16 e17 e18 e19 e20 e22 e23 e24 e25 e26 e33 e35 u0 u1 u2 u3 u4 u5
 have ua3 : z26≤0 := by rw [u3]; exact Rat.le_refl
 have ub3 : 0≤z26 := by rw [u3]; exact Rat.le_refl
 clear u3
 have x16 : z16=-z6 := by rw [e16,e6]; grind
 clear e16 e6
 have x17 : z17=-z7 := by rw [e17,e7]; grind
 clear e17 e7
 have ⟨q1,q2,q3,q4,q5,q6,q7,q8,q9,qa,qb⟩ := lie_facts (z6*z6+z7*z7) z2 z5
 subst_vars; grind
theorem cLie_f39 {z0 z1 z2 z3 z4 z5 z6 z7 z9 z10 z11 z12 z13 z14 z15 z22 z23 z24 z25 z26 : Rat} : z6=z3-z0→z7=z4-z1→z9=z6*z6→z10=z7*z7→z11=z9+z10→z12=-z2→z13=-z5→z14=z11+z12→z15=z14+z13→z22=z15*z15→z23=4→z24=z23*z2→z25=z24*z5→z26=z22-z25→(0 < z2)→(0 < z5)→(¬ (z6=0∧z7=0))→(z26=0)→(¬ (z15 < 0))→¬ (z15=0) := by
 intro e6 e7 e9 e10 e11 e12 e13 e14 e15 e22 e23 e24 e25 e26 u0 u1 u2 u3 u4
 have ua3 : z26≤0 := by rw [u3]; exact Rat.le_refl
 have ub3 : 0≤z26 := by rw [u3]; exact Rat.le_refl
 clear u3
 clear e6
 clear e7
 have ⟨q1,q2,q3,q4,q5,q6,q7,q8,q9,qa,qb⟩ := lie_facts (z6*z6+z7*z7) z2 z5
 subst_vars; grind
theorem cLie_f40 {z0 z1 z2 z3 z4 z5 z6 z7 z9 z10 z11 z12 z13 z14 z15 z16 z17 z18 z19 z20 z21 z22 z23 z24 z25 z26 : Rat} : z6=z3-z0→z7=z4-z1→z9=z6*z6→z10=z7*z7→z11=z9+z10→z12=-z2→z13=-z5→z14=z11+z12→z15=z14+z13→z16=z0-z3→z17=z1-z4→z18=z16*z16→z19=z17*z17→z20=z18+z19→z21=z2+z5→z22=z15*z15→z23=4→z24=z23*z2→z25=z24*z5→z26=z22-z25→(0 < z2)→(0 < z5)→(¬ (z6=0∧z7=0))→(z26=0)→(¬ (z15 < 0))→¬ (z20=z21) := by
 intro e6 e7 e9 e10 e11 e12 e13 e14 e15 e16 e17 e18 e19 e20 e21 e22 e23 e24 e25 e26 u0 u1 u2 u3 u4
 have ua3 : z26≤0 := by rw [u3]; exact Rat.le_refl
 have ub3 : 0≤z26 := by rw [u3]; exact Rat.le_refl
 clear u3
 have x16 : z16=-z6 := by rw [e16,e6]; grind
 clear e16 e6
 have x17 : z17=-z7 := by rw [e17,e7]; grind
 clear e17 e7
 have ⟨q1,q2,q3,q4,q5,q6,q7,q8,q9,qa,qb⟩ := lie_facts (z6*z6+z7*z7) z2 z5
 subst_vars; grind
theorem cLie_f41 {z0 z1 z2 z3 z4 z5 z6 z7 z9 z10 z11 z12 z13 z14 z15 z16 z17 z22 z23 z24 z25 z26 : Rat} : z6=z3-z0→z7=z4-z1→z9=z6*z6→z10=z7*z7→z11=z9+z10→z12=-z2→z13=-z5→z14=z11+z12→z15=z14+z13→z16=z0-z3→z17=z1-z4→z22=z15*z15→z23=4→z24=z23*z2→z25=z24*z5→z26=z22-z25→(0 < z2)→(0 < z5)→(¬ (z6=0∧z7=0))→(z26=0)→(¬ (z15 < 0))→¬ (z16=0∧z17=0) := by
 intro e6 e7 e9 e10 e11 e12 e13 e14 e15 e16 e17 e22 e23 e24 e25 e26 u0 u1 u2 u3 u4
 have ua3 : z26≤0 := by rw [u3]; exact Rat.le_refl
 have ub3 : 0≤z26 := by rw [u3]; exact Rat.le_refl
 clear u3
 have x16 : z16=-z6 := by rw [e16,e6]; grind
 clear e16 e6
 have x17 : z17=-z7 := by rw [e17,e7]; grind
 clear e17 e7
 have ⟨q1,q2,q3,q4,q5,q6,q7,q8,q9,qa,qb⟩ := lie_facts (z6*z6+z7*z7) z2 z5
 subst_vars; grind
theorem cLie_f42 {z0 z1 z2 z3 z4 z5 z6 z7 z9 z10 z11 z12 z13 z14 z15 z16 z17 z18 z19 z20 z22 z23 z24 z25 z26 : Rat} : z6=z3-z0→z7=z4-z1→z9=z6*z6→z10=z7*z7→z11=z9+z10→z12=-z2→z13=-z5→z14=z11+z12→z15=z14+z13→z16=z0-z3→z17=z1-z4→z18=z16*z16→z19=z17*z17→z20=z18+z19→z22=z15*z15→z23=4→z24=z23*z2→z25=z24*z5→z26=z22-z25→(0 < z2)→(0 < z5)→(¬ (z6=0∧z7=0))→(z26=0)→(¬ (z15 < 0))→¬ (z20=0) := by
 intro e6 e7 e9 e10 e11 e12 e13 e14 e15 e16 e17 e18 e19 e20 e22 e23 e24 e25 e26 u0 u1 u2 u3 u4
 have ua3 : z26≤0 := by rw [u3]; exact Rat.le_refl
 have ub3 : 0≤z26 := by rw [u3]; exact Rat.le_refl
 clear u3
 have x16 : z16=-z6 := by rw [e16,e6]; grind
 clear e16 e6
 have x17 : z17=-z7 := by rw [e17,e7]; grind
 clear e17 e7
 have ⟨q1,q2,q3,q4,q5,q6,q7,q8,q9,qa,qb⟩ := lie_facts (z6*z6+z7*z7) z2 z5
 have hp := sq_pos (x := z16) (y := z17) (by grind)
 subst_vars; grind
theorem cLie_f43 {z0 z1 z2 z3 z4 z5 z6 z7 z9 z10 z11 z12 z13 z14 z15 z16 z17 z18 z19 z20 z22 z23 z24 z25 z26 z27 z28 z29 z30 z31 z32 z33 : Rat} : z6=z3-z0→z7=z4-z1→z9=z6*z6→z10=z7*z7→z11=z9+z10→z12=-z2→z13=-z5→z14=z11+z12→z15=z14+z13→z16=z0-z3→z17=z1-z4→z18=z16*z16→z19=z17*z17→z20=z18+z19→z22=z15*z15→z23=4→z24=z23*z2→z25=z24*z5→z26=z22-z25→z27=z20+z2→z28=z27+z13→z29=z23*z20→z30=z29*z2→z31=z28*z28→z32=z30-z31→z33=z5-z2→(0 < z2)→(0 < z5)→(¬ (z6=0∧z7=0))→(z26=0)→(¬ (z15 < 0))→(0 < z33)→¬ (0 < z32) := by
 intro e6 e7 e9 e10 e11 e12 e13 e14 e15 e16 e17 e18 e19 e20 e22 e23 e24 e25 e26 e27 e28 e29 e30 e31 e32 e33 u0 u1 u2 u3 u4 u5
 have rr3 : z32=(-1)*z26 := by
  clear u0 u1 u2 u3 u4 u5
  subst_vars; grind
 have ua3 : z26≤0 := by rw [u3]; exact Rat.le_refl
 have ub3 : 0≤z26 := by rw [u3]; exact Rat.le_refl
 clear u3
 have x16 : z16=-z6 := by rw [e16,e6]; grind
 clear e16 e6
 have x17 : z17=-z7 := by rw [e17,e7]; grind
 clear e17 e7
 have ⟨q1,q2,q3,q4,q5,q6,q7,q8,q9,qa,qb⟩ := lie_facts (z6*z6+z7*z7) z2 z5
 first | (clear e9 e10 e11 e12 e13 e14 e15 e18 e19 e20 e22 e23 e24 e25 e26 e27 e28 e29 e30 e31 e32 e33; grind) | (subst_vars; grind)
theorem cLie_f44 {z0 z1 z2 z3 z4 z5 z6 z7 z9 z10 z11 z12 z13 z14 z15 z16 z17 z18 z19 z20 z22 z23 z24 z25 z26 z27 z28 z29 z30 z31 z32 z33 : Rat} : z6=z3-z0→z7=z4-z1→z9=z6*z6→z10=z7*z7→z11=z9+z10→z12=-z2→z13=-z5→z14=z11+z12→z15=z14+z13→z16=z0-z3→z17=z1-z4→z18=z16*z16→z19=z17*z17→z20=z18+z19→z22=z15*z15→z23=4→z24=z23*z2→z25=z24*z5→z26=z22-z25→z27=z20+z2→z28=z27+z13→z29=z23*z20→z30=z29*z2→z31=z28*z28→z32=z30-z31→z33=z5-z2→(0 < z2)→(0 < z5)→(¬ (z6=0∧z7=0))→(z26=0)→(¬ (z15 < 0))→(0 < z33)→z32=0 := by
 intro e6 e7 e9 e10 e11 e12 e13 e14 e15 e16 e17 e18 e19 e20 e22 e23 e24 e25 e26 e27 e28 e29 e30 e31 e32 e33 u0 u1 u2 u3 u4 u5
 have x16 : z16=-z6 := by rw [e16,e6]; grind
 clear e16 e6
 have x17 : z17=-z7 := by rw [e17,e7]; grind
 clear e17 e7
 subst_vars; grind
theorem cLie_f45 {z0 z1 z2 z3 z4 z5 z6 z7 z9 z10 z11 z12 z13 z14 z15 z16 z17 z18 z19 z20 z22 z23 z24 z25 z26 z33 z34 : Rat} : z6=z3-z0→z7=z4-z1→z9=z6*z6→z10=z7*z7→z11=z9+z10→z12=-z2→z13=-z5→z14=z11+z12→z15=z14+z13→z16=z0-z3→z17=z1-z4→z18=z16*z16→z19=z17*z17→z20=z18+z19→z22=z15*z15→z23=4→z24=z23*z2→z25=z24*z5→z26=z22-z25→z33=z5-z2→z34=z20-z5→(0 < z2)→(0 < z5)→(¬ (z6=0∧z7=0))→(z26=0)→(¬ (z15 < 0))→(0 < z33)→0 < z34 := by
 intro e6 e7 e9 e10 e11 e12 e13 e14 e15 e16 e17 e18 e19 e20 e22 e23 e24 e25 e26 e33 e34 u0 u1 u2 u3 u4 u5
 have ua3 : z26≤0 := by rw [u3]; exact Rat.le_refl
 have ub3 : 0≤z26 := by rw [u3]; exact Rat.le_refl
 clear u3
 have x16 : z16=-z6 := by rw [e16,e6]; grind
 clear e16 e6
 have x17 : z17=-z7 := by rw [e17,e7]; grind
 clear e17 e7
 have ⟨q1,q2,q3,q4,q5,q6,q7,q8,q9,qa,qb⟩ := lie_facts (z6*z6+z7*z7) z2 z5
 subst_vars; grind
theorem cLie_f46 {z0 z1 z2 z3 z4 z5 z6 z7 z9 z10 z11 z12 z13 z14 z15 z16 z17 z18 z19 z20 z22 z23 z24 z25 z26 z27 z28 z29 z30 z31 z32 z33 : Rat} : z6=z3-z0→z7=z4-z1→z9=z6*z6→z10=z7*z7→z11=z9+z10→z12=-z2→z13=-z5→z14=z11+z12→z15=z14+z13→z16=z0-z3→z17=z1-z4→z18=z16*z16→z19=z17*z17→z20=z18+z19→z22=z15*z15→z23=4→z24=z23*z2→z25=z24*z5→z26=z22-z25→z27=z20+z2→z28=z27+z13→z29=z23*z20→z30=z29*z2→z31=z28*z28→z32=z30-z31→z33=z5-z2→(0 < z2)→(0 < z5)→(¬ (z6=0∧z7=0))→(z26=0)→(¬ (z15 < 0))→(¬ (0 < z33))→¬ (0 < z32) := by
 intro e6 e7 e9 e10 e11 e12 e13 e14 e15 e16 e17 e18 e19 e20 e22 e23 e24 e25 e26 e27 e28 e29 e30 e31 e32 e33 u0 u1 u2 u3 u4 u5
 have rr3 : z32=(-1)*z26 := by
  clear u0 u1 u2 u3 u4 u5
  subst_vars; grind
 have ua3 : z26≤0 := by rw [u3]; exact Rat.le_refl
 have ub3 : 0≤z26 := by rw [u3]; exact Rat.le_refl
 clear u3
 have x16 : z16=-z6 := by rw [e16,e6]; grind
 clear e16 e6
 have x17 : z17=-z7 := by rw [e17,e7]; grind
 clear e17 e7
 have ⟨q1,q2,q3,q4,q5,q6,q7,q8,q9,qa,qb⟩ := lie_facts (z6*z6+z7*z7) z2 z5
 first | (clear e9 e10 e11 e12 e13 e14 e15 e18 e19 e20 e22 e23 e24 e25 e26 e27 e28 e29 e30 e31 e32 e33; grind) | (subst_vars; grind)
theorem cLie_f47 {z0 z1 z2 z3 z4 z5 z6 z7 z9 z10 z11 z12 z13 z14 z15 z16 z17 z18 z19 z20 z22 z23 z24 z25 z26 z27 z28 z29 z30 z31 z32 z33 : Rat} : z6=z3-z0→z7=z4-z1→z9=z6*z6→z10=z7*z7→z11=z9+z10→z12=-z2→z13=-z5→z14=z11+z12→z15=z14+z13→z16=z0-z3→z17=z1-z4→z18=z16*z16→z19=z17*z17→z20=z18+z19→z22=z15*z15→z23=4→z24=z23*z2→z25=z24*z5→z26=z22-z25→z27=z20+z2→z28=z27+z13→z29=z23*z20→z30=z29*z2→z31=z28*z28→z32=z30-z31→z33=z5-z2→(0 < z2)→(0 < z5)→(¬ (z6=0∧z7=0))→(z26=0)→(¬ (z15 < 0))→(¬ (0 < z33))→z32=0 := by
 intro e6 e7 e9 e10 e11 e12 e13 e14 e15 e16 e17 e18 e19 e20 e22 e23 e24 e25 e26 e27 e28 e29 e30 e31 e32 e33 u0 u1 u2 u3 u4 u5
 have x16 : z16=-z6 := by rw [e16,e6]; grind
 clear e16 e6
 have x17 : z17=-z7 := by rw [e17,e7]; grind
 clear e17 e7
 subst_vars; grind
theorem cLie_f48 {z0 z1 z2 z3 z4 z5 z6 z7 z9 z10 z11 z12 z13 z14 z15 z16 z17 z18 z19 z20 z22 z23 z24 z25 z26 z33 z35 : Rat} : z6=z3-z0→z7=z4-z1→z9=z6*z6→z10=z7*z7→z11=z9+z10→z12=-z2→z13=-z5→z14=z11+z12→z15=z14+z13→z16=z0-z3→z17=z1-z4→z18=z16*z16→z19=z17*z17→z20=z18+z19→z22=z15*z15→z23=4→z24=z23*z2→z25=z24*z5→z26=z22-z25→z33=z5-z2→z35=z20-z2→(0 < z2)→(0 < z5)→(¬ (z6=0∧z7=0))→(z26=0)→(¬ (z15 < 0))→(¬ (0 < z33))→0 < z35 := by
 intro e6 e7 e9 e10 e11 e12 e13 e14 e15 e16 e17 e18 e19 e20 e22 e23 e24 e25 e26 e33 e35 u0 u1 u2 u3 u4 u5
 have ua3 : z26≤0 := by rw [u3]; exact Rat.le_refl
 have ub3 : 0≤z26 := by rw [u3]; exact Rat.le_refl
 clear u3
 have x16 : z16=-z6 := by rw [e16,e6]; grind
 clear e16 e6
 have x17 : z17=-z7 := by rw [e17,e7]; grind
 clear e17 e7
 have ⟨q1,q2,q3,q4,q5,q6,q7,q8,q9,qa,qb⟩ := lie_facts (z6*z6+z7*z7) z2 z5
 subst_vars; grind
theorem cLie_f49 {z0 z1 z2 z3 z4 z5 z6 z7 z9 z10 z11 z12 z13 z14 z15 z22 z23 z24 z25 z26 : Rat} : z6=z3-z0→z7=z4-z1→z9=z6*z6→z10=z7*z7→z11=z9+z10→z12=-z2→z13=-z5→z14=z11+z12→z15=z14+z13→z22=z15*z15→z23=4→z24=z23*z2→z25=z24*z5→z26=z22-z25→(0 < z2)→(0 < z5)→(¬ (z6=0∧z7=0))→(0 < z26)→(z15 < 0)→¬ (z15=0) := by
 intro e6 e7 e9 e10 e11 e12 e13 e14 e15 e22 e23 e24 e25 e26 u0 u1 u2 u3 u4
 clear e6
 clear e7
 have ⟨q1,q2,q3,q4,q5,q6,q7,q8,q9,qa,qb⟩ := lie_facts (z6*z6+z7*z7) z2 z5
 subst_vars; grind
theorem cLie_f50 {z0 z1 z2 z3 z4 z5 z6 z7 z9 z10 z11 z12 z13 z14 z15 z16 z17 z18 z19 z20 z21 z22 z23 z24 z25 z26 : Rat} : z6=z3-z0→z7=z4-z1→z9=z6*z6→z10=z7*z7→z11=z9+z10→z12=-z2→z13=-z5→z14=z11+z12→z15=z14+z13→z16=z0-z3→z17=z1-z4→z18=z16*z16→z19=z17*z17→z20=z18+z19→z21=z2+z5→z22=z15*z15→z23=4→z24=z23*z2→z25=z24*z5→z26=z22-z25→(0 < z2)→(0 < z5)→(¬ (z6=0∧z7=0))→(0 < z26)→(z15 < 0)→¬ (z20=z21) := by
 intro e6 e7 e9 e10 e11 e12 e13 e14 e15 e16 e17 e18 e19 e20 e21 e22 e23 e24 e25 e26 u0 u1 u2 u3 u4
 have x16 : z16=-z6 := by rw [e16,e6]; grind
 clear e16 e6
 have x17 : z17=-z7 := by rw [e17,e7]; grind
 clear e17 e7
 have ⟨q1,q2,q3,q4,q5,q6,q7,q8,q9,qa,qb⟩ := lie_facts (z6*z6+z7*z7) z2 z5
 subst_vars; grind
theorem cLie_f51 {z0 z1 z2 z3 z4 z5 z6 z7 z9 z10 z11 z12 z13 z14 z15 z16 z17 z22 z23 z24 z25 z26 : Rat} : z6=z3-z0→z7=z4-z1→z9=z6*z6→z10=z7*z7→z11=z9+z10→z12=-z2→z13=-z5→z14=z11+z12→z15=z14+z13→z16=z0-z3→z17=z1-z4→z22=z15*z15→z23=4→z24=z23*z2→z25=z24*z5→z26=z22-z25→(0 < z2)→(0 < z5)→(¬ (z6=0∧z7=0))→(0 < z26)→(z15 < 0)→¬ (z16=0∧z17=0) := by
 intro e6 e7 e9 e10 e11 e12 e13 e14 e15 e16 e17 e22 e23 e24 e25 e26 u0 u1 u2 u3 u4
 have x16 : z16=-z6 := by rw [e16,e6]; grind
 clear e16 e6
 have x17 : z17=-z7 := by rw [e17,e7]; grind
 clear e17 e7
 have ⟨q1,q2,q3,q4,q5,q6,q7,q8,q9,qa,qb⟩ := lie_facts (z6*z6+z7*z7) z2 z5
 subst_vars; grind
theorem cLie_f52 {z0 z1 z2 z3 z4 z5 z6 z7 z9 z10 z11 z12 z13 z14 z15 z16 z17 z18 z19 z20 z22 z23 z24 z25 z26 : Rat} : z6=z3-z0→z7=z4-z1→z9=z6*z6→z10=z7*z7→z11=z9+z10→z12=-z2→z13=-z5→z14=z11+z12→z15=z14+z13→z16=z0-z3→z17=z1-z4→z18=z16*z16→z19=z17*z17→z20=z18+z19→z22=z15*z15→z23=4→z24=z23*z2→z25=z24*z5→z26=z22-z25→(0 < z2)→(0 < z5)→(¬ (z6=0∧z7=0))→(0 < z26)→(z15 < 0)→¬ (z20=0) := by
 intro e6 e7 e9 e10 e11 e12 e13 e14 e15 e16 e17 e18 e19 e20 e22 e23 e24 e25 e26 u0 u1 u2 u3 u4
 have x16 : z16=-z6 := by rw [e16,e6]; grind
 clear e16 e6
 have x17 : z17=-z7 := by rw [e17,e7]; grind
 clear e17 e7
 have ⟨q1,q2,q3,q4,q5,q6,q7,q8,q9,qa,qb⟩ := lie_facts (z6*z6+z7*z7) z2 z5
 have hp := sq_pos (x := z16) (y := z17) (by grind)
 subst_vars; grind
theorem cLie_f53 {z0 z1 z2 z3 z4 z5 z6 z7 z9 z10 z11 z12 z13 z14 z15 z16 z17 z18 z19 z20 z22 z23 z24 z25 z26 z27 z28 z29 z30 z31 z32 z33 : Rat} : z6=z3-z0→z7=z4-z1→z9=z6*z6→z10=z7*z7→z11=z9+z10→z12=-z2→z13=-z5→z14=z11+z12→z15=z14+z13→z16=z0-z3→z17=z1-z4→z18=z16*z16→z19=z17*z17→z20=z18+z19→z22=z15*z15→z23=4→z24=z23*z2→z25=z24*z5→z26=z22-z25→z27=z20+z2→z28=z27+z13→z29=z23*z20→z30=z29*z2→z31=z28*z28→z32=z30-z31→z33=z5-z2→(0 < z2)→(0 < z5)→(¬ (z6=0∧z7=0))→(0 < z26)→(z15 < 0)→(0 < z33)→¬ (0 < z32) := by
 intro e6 e7 e9 e10 e11 e12 e13 e14 e15 e16 e17 e18 e19 e20 e22 e23 e24 e25 e26 e27 e28 e29 e30 e31 e32 e33 u0 u1 u2 u3 u4 u5
 have rr3 : z32=(-1)*z26 := by
  clear u0 u1 u2 u3 u4 u5
  subst_vars; grind
 have x16 : z16=-z6 := by rw [e16,e6]; grind
 clear e16 e6
 have x17 : z17=-z7 := by rw [e17,e7]; grind
 clear e17 e7
 have ⟨q1,q2,q3,q4,q5,q6,q7,q8,q9,qa,qb⟩ := lie_facts (z6*z6+z7*z7) z2 z5
 first | (clear e9 e10 e11 e12 e13 e14 e15 e18 e19 e20 e22 e23 e24 e25 e26 e27 e28 e29 e30 e31 e32 e33; grind) | (subst_vars; grind)
theorem cLie_f54 {z0 z1 z2 z3 z4 z5 z6 z7 z9 z10 z11 z12 z13 z14 z15 z16 z17 z18 z19 z20 z22 z23 z24 z25 z26 z27 z28 z29 z30 z31 z32 z33 : Rat} : z6=z3-z0→z7=z4-z1→z9=z6*z6→z10=z7*z7→z11=z9+z10→z12=-z2→z13=-z5→z14=z11+z12→z15=z14+z13→z16=z0-z3→z17=z1-z4→z18=z16*z16→z19=z17*z17→z20=z18+z19→z22=z15*z15→z23=4→z24=z23*z2→z25=z24*z5→z26=z22-z25→z27=z20+z2→z28=z27+z13→z29=z23*z20→z30=z29*z2→z31=z28*z28→z32=z30-z31→z33=z5-z2→(0 < z2)→(0 < z5)→(¬ (z6=0∧z7=0))→(0 < z26)→(z15 < 0)→(0 < z33)→¬ (z32=0) := by
 intro e6 e7 e9 e10 e11 e12 e13 e14 e15 e16 e17 e18 e19 e20 e22 e23 e24 e25 e26 e27 e28 e29 e30 e31 e32 e33 u0 u1 u2 u3 u4 u5
 have x16 : z16=-z6 := by rw [e16,e6]; grind
 clear e16 e6
 have x17 : z17=-z7 := by rw [e17,e7]; grind
 clear e17 e7
 have ⟨q1,q2,q3,q4,q5,q6,q7,q8,q9,qa,qb⟩ := lie_facts (z6*z6+z7*z7) z2 z5
 subst_vars; grind
theorem cLie_f55 {z0 z1 z2 z3 z4 z5 z6 z7 z9 z10 z11 z12 z13 z14 z15 z16 z17 z18 z19 z20 z22 z23 z24 z25 z26 z33 z34 : Rat} : z6=z3-z0→z7=z4-z1→z9=z6*z6→z10=z7*z7→z11=z9+z10→z12=-z2→z13=-z5→z14=z11+z12→z15=z14+z13→z16=z0-z3→z17=z1-z4→z18=z16*z16→z19=z17*z17→z20=z18+z19→z22=z15*z15→z23=4→z24=z23*z2→z25=z24*z5→z26=z22-z25→z33=z5-z2→z34=z20-z5→(0 < z2)→(0 < z5)→(¬ (z6=0∧z7=0))→(0 < z26)→(z15 < 0)→(0 < z33)→¬ (0 < z34) := by
 intro e6 e7 e9 e10 e11 e12 e13 e14 e15 e16 e17 e18 e19 e20 e22 e23 e24 e25 e26 e33 e34 u0 u1 u2 u3 u4 u5
 have x16 : z16=-z6 := by rw [e16,e6]; grind
 clear e16 e6
 have x17 : z17=-z7 := by rw [e17,e7]; grind
 clear e17 e7
 have ⟨q1,q2,q3,q4,q5,q6,q7,q8,q9,qa,qb⟩ := lie_facts (z6*z6+z7*z7) z2 z5
 subst_vars; grind
theorem cLie_f56 {z0 z1 z2 z3 z4 z5 z6 z7 z9 z10 z11 z12 z13 z14 z15 z16 z17 z18 z19 z20 z22 z23 z24 z25 z26 z27 z28 z29 z30 z31 z32 z33 : Rat} : z6=z3-z0→z7=z4-z1→z9=z6*z6→z10=z7*z7→z11=z9+z10→z12=-z2→z13=-z5→z14=z11+z12→z15=z14+z13→z16=z0-z3→z17=z1-z4→z18=z16*z16→z19=z17*z17→z20=z18+z19→z22=z15*z15→z23=4→z24=z23*z2→z25=z24*z5→z26=z22-z25→z27=z20+z2→z28=z27+z13→z29=z23*z20→z30=z29*z2→z31=z28*z28→z32=z30-z31→z33=z5-z2→(0 < z2)→(0 < z5)→(¬ (z6=0∧z7=0))→(0 < z26)→(z15 < 0)→(¬ (0 < z33))→¬ (0 < z32) := by
 intro e6 e7 e9 e10 e11 e12 e13 e14 e15 e16 e17 e18 e19 e20 e22 e23 e24 e25 e26 e27 e28 e29 e30 e31 e32 e33 u0 u1 u2 u3 u4 u5
 have rr3 : z32=(-1)*z26 := by
  clear u0 u1 u2 u3 u4 u5
  subst_vars; grind
 have x16 : z16=-z6 := by rw [e16,e6]; grind
 clear e16 e6
 have x17 : z17=-z7 := by rw [e17,e7]; grind
 clear e17 e7
 have ⟨q1,q2,q3,q4,q5,q6,q7,q8,q9,qa,qb⟩ := lie_facts (z6*z6+z7*z7) z2 z5
 first | (clear e9 e10 e11 e12 e13 e14 e15 e18 e19 e20 e22 e23 e24 e25 e26 e27 e28 e29 e30 e31 e32 e33; grind) | (subst_vars; grind)
theorem cLie_f57 {z0 z1 z2 z3 z4 z5 z6 z7 z9 z10 z11 z12 z13 z14 z15 z16 z17 z18 z19 z20 z22 z23 z24 z25 z26 z27 z28 z29 z30 z31 z32 z33 : Rat} : z6=z3-z0→z7=z4-z1→z9=z6*z6→z10=z7*z7→z11=z9+z10→z12=-z2→z13=-z5→z14=z11+z12→z15=z14+z13→z16=z0-z3→z17=z1-z4→z18=z16*z16→z19=z17*z17→z20=z18+z19→z22=z15*z15→z23=4→z24=z23*z2→z25=z24*z5→z26=z22-z25→z27=z20+z2→z28=z27+z13→z29=z23*z20→z30=z29*z2→z31=z28*z28→z32=z30-z31→z33=z5-z2→(0 < z2)→(0 < z5)→(¬ (z6=0∧z7=0))→(0 < z26)→(z15 < 0)→(¬ (0 < z33))→¬ (z32=0) := by
 intro e6 e7 e9 e10 e11 e12 e13 e14 e15 e16 e17 e18 e19 e20 e22 e23 e24 e25 e26 e27 e28 e29 e30 e31 e32 e33 u0 u1 u2 u3 u4 u5
 have x16 : z16=-z6 := by rw [e16,e6]; grind
 clear e16 e6
 have x17 : z17=-z7 := by rw [e17,e7]; grind
 clear e17 e7
 have ⟨q1,q2,q3,q4,q5,q6,q7,q8,q9,qa,qb⟩ := lie_facts (z6*z6+z7*z7) z2 z5
 subst_vars; grind
theorem cLie_f58 {z0 z1 z2 z3 z4 z5 z6 z7 z9 z10 z11 z12 z13 z14 z15 z16 z17 z18 z19 z20 z22 z23 z24 z25 z26 z33 z35 : Rat} : z6=z3-z0→z7=z4-z1→z9=z6*z6→z10=z7*z7→z11=z9+z10→z12=-z2→z13=-z5→z14=z11+z12→z15=z14+z13→z16=z0-z3→z17=z1-z4→z18=z16*z16→z19=z17*z17→z20=z18+z19→z22=z15*z15→z23=4→z24=z23*z2→z25=z24*z5→z26=z22-z25→z33=z5-z2→z35=z20-z2→(0 < z2)→(0 < z5)→(¬ (z6=0∧z7=0))→(0 < z26)→(z15 < 0)→(¬ (0 < z33))→¬ (0 < z35) := by
 intro e6 e7 e9 e10 e11 e12 e13 e14 e15 e16 e17 e18 e19 e20 e22 e23 e24 e25 e26 e33 e35 u0 u1 u2 u3 u4 u5
 have x16 : z16=-z6 := by rw [e16,e6]; grind
 clear e16 e6
 have x17 : z17=-z7 := by rw [e17,e7]; grind
 clear e17 e7
 have ⟨q1,q2,q3,q4,q5,q6,q7,q8,q9,qa,qb⟩ := lie_facts (z6*z6+z7*z7) z2 z5
 subst_vars; grind
theorem cLie_f59 {z0 z1 z2 z3 z4 z5 z6 z7 z9 z10 z11 z12 z13 z14 z15 z22 z23 z24 z25 z26 : Rat} : z6=z3-z0→z7=z4-z1→z9=z6*z6→z10=z7*z7→z11=z9+z10→z12=-z2→z13=-z5→z14=z11+z12→z15=z14+z13→z22=z15*z15→z23=4→z24=z23*z2→z25=z24*z5→z26=z22-z25→(0 < z2)→(0 < z5)→(¬ (z6=0∧z7=0))→(0 < z26)→(¬ (z15 < 0))→¬ (z15=0) := by
 intro e6 e7 e9 e10 e11 e12 e13 e14 e15 e22 e23 e24 e25 e26 u0 u1 u2 u3 u4
 clear e6
 clear e7
 have ⟨q1,q2,q3,q4,q5,q6,q7,q8,q9,qa,qb⟩ := lie_facts (z6*z6+z7*z7) z2 z5
 subst_vars; grind
theorem cLie_f60 {z0 z1 z2 z3 z4 z5 z6 z7 z9 z10 z11 z12 z13 z14 z15 z16 z17 z18 z19 z20 z21 z22 z23 z24 z25 z26 : Rat} : z6=z3-z0→z7=z4-z1→z9=z6*z6→z10=z7*z7→z11=z9+z10→z12=-z2→z13=-z5→z14=z11+z12→z15=z14+z13→z16=z0-z3→z17=z1-z4→z18=z16*z16→z19=z17*z17→z20=z18+z19→z21=z2+z5→z22=z15*z15→z23=4→z24=z23*z2→z25=z24*z5→z26=z22-z25→(0 < z2)→(0 < z5)→(¬ (z6=0∧z7=0))→(0 < z26)→(¬ (z15 < 0))→¬ (z20=z21) := by
 intro e6 e7 e9 e10 e11 e12 e13 e14 e15 e16 e17 e18 e19 e20 e21 e22 e23 e24 e25 e26 u0 u1 u2 u3 u4
 have x16 : z16=-z6 := by rw [e16,e6]; grind
 clear e16 e6
 have x17 : z17=-z7 := by rw [e17,e7]; grind
 clear e17 e7
 have ⟨q1,q2,q3,q4,q5,q6,q7,q8,q9,qa,qb⟩ := lie_facts (z6*z6+z7*z7) z2 z5
 subst_vars; grind
theorem cLie_f61 {z0 z1 z2 z3 z4 z5 z6 z7 z9 z10 z11 z12 z13 z14 z15 z16 z17 z22 z23 z24 z25 z26 : Rat} : z6=z3-z0→z7=z4-z1→z9=z6*z6→z10=z7*z7→z11=z9+z10→z12=-z2→z13=-z5→z14=z11+z12→z15=z14+z13→z16=z0-z3→z17=z1-z4→z22=z15*z15→z23=4→z24=z23*z2→z25=z24*z5→z26=z22-z25→(0 < z2)→(0 < z5)→(¬ (z6=0∧z7=0))→(0 < z26)→(¬ (z15 < 0))→¬ (z16=0∧z17=0) := by
 intro e6 e7 e9 e10 e11 e12 e13 e14 e15 e16 e17 e22 e23 e24 e25 e26 u0 u1 u2 u3 u4
 have x16 : z16=-z6 := by rw [e16,e6]; grind
 clear e16 e6
 have x17 : z17=-z7 := by rw [e17,e7]; grind
 clear e17 e7
 have ⟨q1,q2,q3,q4,q5,q6,q7,q8,q9,qa,qb⟩ := lie_facts (z6*z6+z7*z7) z2 z5
 subst_vars; grind
theorem cLie_f62 {z0 z1 z2 z3 z4 z5 z6 z7 z9 z10 z11 z12 z13 z14 z15 z16 z17 z18 z19 z20 z22 z23 z24 z25 z26 : Rat} : z6=z3-z0→z7=z4-z1→z9=z6*z6→z10=z7*z7→z11=z9+z10→z12=-z2→z13=-z5→z14=z11+z12→z15=z14+z13→z16=z0-z3→z17=z1-z4→z18=z16*z16→z19=z17*z17→z20=z18+z19→z22=z15*z15→z23=4→z24=z23*z2→z25=z24*z5→z26=z22-z25→(0 < z2)→(0 < z5)→(¬ (z6=0∧z7=0))→(0 < z26)→(¬ (z15 < 0))→¬ (z20=0) := by
 intro e6 e7 e9 e10 e11 e12 e13 e14 e15 e16 e17 e18 e19 e20 e22 e23 e24 e25 e26 u0 u1 u2 u3 u4
 have x16 : z16=-z6 := by rw [e16,e6]; grind
 clear e16 e6
 have x17 : z17=-z7 := by rw [e17,e7]; grind
 clear e17 e7
 have ⟨q1,q2,q3,q4,q5,q6,q7,q8,q9,qa,qb⟩ := lie_facts (z6*z6+z7*z7) z2 z5
 have hp := sq_pos (x := z16) (y := z17) (by grind)
 subst_vars; grind
theorem cLie_f63 {z0 z1 z2 z3 z4 z5 z6 z7 z9 z10 z11 z12 z13 z14 z15 z16 z17 z18 z19 z20 z22 z23 z24 z25 z26 z27 z28 z29 z30 z31 z32 z33 : Rat} : z6=z3-z0→z7=z4-z1→z9=z6*z6→z10=z7*z7→z11=z9+z10→z12=-z2→z13=-z5→z14=z11+z12→z15=z14+z13→z16=z0-z3→z17=z1-z4→z18=z16*z16→z19=z17*z17→z20=z18+z19→z22=z15*z15→z23=4→z24=z23*z2→z25=z24*z5→z26=z22-z25→z27=z20+z2→z28=z27+z13→z29=z23*z20→z30=z29*z2→z31=z28*z28→z32=z30-z31→z33=z5-z2→(0 < z2)→(0 < z5)→(¬ (z6=0∧z7=0))→(0 < z26)→(¬ (z15 < 0))→(0 < z33)→¬ (0 < z32) := by
 intro e6 e7 e9 e10 e11 e12 e13 e14 e15 e16 e17 e18 e19 e20 e22 e23 e24 e25 e26 e27 e28 e29 e30 e31 e32 e33 u0 u1 u2 u3 u4 u5
 have rr3 : z32=(-1)*z26 := by
  clear u0 u1 u2 u3 u4 u5
  subst_vars; grind
 have x16 : z16=-z6 := by rw [e16,e6]; grind
 clear e16 e6
 have x17 : z17=-z7 := by rw [e17,e7]; grind
 clear e17 e7
 have ⟨q1,q2,q3,q4,q5,q6,q7,q8,q9,qa,qb⟩ := lie_facts (z6*z6+z7*z7) z2 z5
 first | (clear e9 e10 e11 e12 e13 e14 e15 e18 e19 e20 e22 e23 e24 e25 e26 e27 e28 e29 e30 e31 e32 e33; grind) | (subst_vars; grind)
theorem cLie_f64 {z0 z1 z2 z3 z4 z5 z6 z7 z9 z10 z11 z12 z13 z14 z15 z16 z17 z18 z19 z20 z22 z23 z24 z25 z26 z27 z28 z29 z30 z31 z32 z33 : Rat} : z6=z3-z0→z7=z4-z1→z9=z6*z6→z10=z7*z7→z11=z9+z10→z12=-z2→z13=-z5→z14=z11+z12→z15=z14+z13→z16=z0-z3→z17=z1-z4→z18=z16*z16→z19=z17*z17→z20=z18+z19→z22=z15*z15→z23=4→z24=z23*z2→z25=z24*z5→z26=z22-z25→z27=z20+z2→z28=z27+z13→z29=z23*z20→z30=z29*z2→z31=z28*z28→z32=z30-z31→z33=z5-z2→(0 < z2)→(0 < z5)→(¬ (z6=0∧z7=0))→(0 < z26)→(¬ (z15 < 0))→(0 < z33)→¬ (z32=0) := by
 intro e6 e7 e9 e10 e11 e12 e13 e14 e15 e16 e17 e18 e19 e20 e22 e23 e24 e25 e26 e27 e28 e29 e30 e31 e32 e33 u0 u1 u2 u3 u4 u5
 have x16 : z16=-z6 := by rw [e16,e6]; grind
 clear e16 e6
 have x17 : z17=-z7 := by rw [e17,e7]; grind
 clear e17 e7
 have ⟨q1,q2,q3,q4,q5,q6,q7,q8,q9,qa,qb⟩ := lie_facts (z6*z6+z7*z7) z2 z5
 subst_vars; grind
theorem cLie_f65 {z0 z1 z2 z3 z4 z5 z6 z7 z9 z10 z11 z12 z13 z14 z15 z16 z17 z18 z19 z20 z22 z23 z24 z25 z26 z33 z34 : Rat} : z6=z3-z0→z7=z4-z1→z9=z6*z6→z10=z7*z7→z11=z9+z10→z12=-z2→z13=-z5→z14=z11+z12→z15=z14+z13→z16=z0-z3→z17=z1-z4→z18=z16*z16→z19=z17*z17→z20=z18+z19→z22=z15*z15→z23=4→z24=z23*z2→z25=z24*z5→z26=z22-z25→z33=z5-z2→z34=z20-z5→(0 < z2)→(0 < z5)→(¬ (z6=0∧z7=0))→(0 < z26)→(¬ (z15 < 0))→(0 < z33)→0 < z34 := by
 intro e6 e7 e9 e10 e11 e12 e13 e14 e15 e16 e17 e18 e19 e20 e22 e23 e24 e25 e26 e33 e34 u0 u1 u2 u3 u4 u5
 have x16 : z16=-z6 := by rw [e16,e6]; grind
 clear e16 e6
 have x17 : z17=-z7 := by rw [e17,e7]; grind
 clear e17 e7
 have ⟨q1,q2,q3,q4,q5,q6,q7,q8,q9,qa,qb⟩ := lie_facts (z6*z6+z7*z7) z2 z5
 subst_vars; grind
theorem cLie_f66 {z0 z1 z2 z3 z4 z5 z6 z7 z9 z10 z11 z12 z13 z14 z15 z16 z17 z18 z19 z20 z22 z23 z24 z25 z26 z27 z28 z29 z30 z31 z32 z33 : Rat} : z6=z3-z0→z7=z4-z1→z9=z6*z6→z10=z7*z7→z11=z9+z10→z12=-z2→z13=-z5→z14=z11+z12→z15=z14+z13→z16=z0-z3→z17=z1-z4→z18=z16*z16→z19=z17*z17→z20=z18+z19→z22=z15*z15→z23=4→z24=z23*z2→z25=z24*z5→z26=z22-z25→z27=z20+z2→z28=z27+z13→z29=z23*z20→z30=z29*z2→z31=z28*z28→z32=z30-z31→z33=z5-z2→(0 < z2)→(0 < z5)→(¬ (z6=0∧z7=0))→(0 < z26)→(¬ (z15 < 0))→(¬ (0 < z33))→¬ (0 < z32) := by
 intro e6 e7 e9 e10 e11 e12 e13 e14 e15 e16 e17 e18 e19 e20 e22 e23 e24 e25 e26 e27 e28 e29 e30 e31 e32 e33 u0 u1 u2 u3 u4 u5
 have rr3 : z32=(-1)*z26 := by
  clear u0 u1 u2 u3 u4 u5
  subst_vars; grind
 have x16 : z16=-z6 := by rw [e16,e6]; grind
 clear e16 e6
 have x17 : z17=-z7 := by rw [e17,e7]; grind
 clear e17 e7
 have ⟨q1,q2,q3,q4,q5,q6,q7,q8,q9,qa,qb⟩ := lie_facts (z6*z6+z7*z7) z2 z5
 first | (clear e9 e10 e11 e12 e13 e14 e15 e18 e19 e20 e22 e23 e24 e25 e26 e27 e28 e29 e30 e31 e32 e33; grind) | (subst_vars; grind)
theorem cLie_f67 {z0 z1 z2 z3 z4 z5 z6 z7 z9 z10 z11 z12 z13 z14 z15 z16 z17 z18 z19 z20 z22 z23 z24 z25 z26 z27 z28 z29 z30 z31 z32 z33 : Rat} : z6=z3-z0→z7=z4-z1→z9=z6*z6→z10=z7*z7→z11=z9+z10→z12=-z2→z13=-z5→z14=z11+z12→z15=z14+z13→z16=z0-z3→z17=z1-z4→z18=z16*z16→z19=z17*z17→z20=z18+z19→z22=z15*z15→z23=4→z24=z23*z2→z25=z24*z5→z26=z22-z25→z27=z20+z2→z28=z27+z13→z29=z23*z20→z30=z29*z2→z31=z28*z28→z32=z30-z31→z33=z5-z2→(0 < z2)→(0 < z5)→(¬ (z6=0∧z7=0))→(0 < z26)→(¬ (z15 < 0))→(¬ (0 < z33))→¬ (z32=0) := by
 intro e6 e7 e9 e10 e11 e12 e13 e14 e15 e16 e17 e18 e19 e20 e22 e23 e24 e25 e26 e27 e28 e29 e30 e31 e32 e33 u0 u1 u2 u3 u4 u5
 have x16 : z16=-z6 := by rw [e16,e6]; grind
 clear e16 e6
 have x17 : z17=-z7 := by rw [e17,e7]; grind
 clear e17 e7
 have ⟨q1,q2,q3,q4,q5,q6,q7,q8,q9,qa,qb⟩ := lie_facts (z6*z6+z7*z7) z2 z5
 subst_vars; grind
theorem cLie_f68 {z0 z1 z2 z3 z4 z5 z6 z7 z9 z10 z11 z12 z13 z14 z15 z16 z17 z18 z19 z20 z22 z23 z24 z25 z26 z33 z35 : Rat} : z6=z3-z0→z7=z4-z1→z9=z6*z6→z10=z7*z7→z11=z9+z10→z12=-z2→z13=-z5→z14=z11+z12→z15=z14+z13→z16=z0-z3→z17=z1-z4→z18=z16*z16→z19=z17*z17→z20=z18+z19→z22=z15*z15→z23=4→z24=z23*z2→z25=z24*z5→z26=z22-z25→z33=z5-z2→z35=z20-z2→(0 < z2)→(0 < z5)→(¬ (z6=0∧z7=0))→(0 < z26)→(¬ (z15 < 0))→(¬ (0 < z33))→0 < z35 := by
 intro e6 e7 e9 e10 e11 e12 e13 e14 e15 e16 e17 e18 e19 e20 e22 e23 e24 e25 e26 e33 e35 u0 u1 u2 u3 u4 u5
 have x16 : z16=-z6 := by rw [e16,e6]; grind
 clear e16 e6
 have x17 : z17=-z7 := by rw [e17,e7]; grind
 clear e17 e7
 have ⟨q1,q2,q3,q4,q5,q6,q7,q8,q9,qa,qb⟩ := lie_facts (z6*z6+z7*z7) z2 z5
 subst_vars; grind
theorem cLie_r0 : (callB (sx Tryz.prog cLie_N [(2,2,0,1),(2,5,0,1),(6,6,7,1),(0,8,0,1),(0,15,0,0),(3,20,21,0),(6,16,17,1),(3,2,5,1)] [] cLie_L cLie_C cLie_Z (prQ [38])) 7 9 cLie_A [] 0).map (·.1)=some (kB true) := by kernel_rfl
theorem cLie_r1 : (callB (sx Tryz.prog cLie_N [(2,2,0,1),(2,5,0,1),(6,6,7,1),(0,8,0,0),(5,26,0,2),(1,15,0,1),(0,15,0,0),(3,20,21,0),(6,16,17,1),(3,2,5,0),(0,20,0,1)] [] cLie_L cLie_C cLie_Z (prQ [38])) 7 9 cLie_A [] 0).map (·.1)=some (kB true) := by kernel_rfl
theorem cLie_r2 : (callB (sx Tryz.prog cLie_N [(2,2,0,1),(2,5,0,1),(6,6,7,0),(5,26,0,0),(1,15,0,1),(0,15,0,0),(3,20,21,0),(6,16,17,0),(0,20,0,0),(2,33,0,1),(2,32,0,1)] [] cLie_L cLie_C cLie_Z (prQ [38])) 7 9 cLie_A [] 0).map (·.1)=some (kB true) := by kernel_rfl
theorem cLie_r3 : (callB (sx Tryz.prog cLie_N [(2,2,0,1),(2,5,0,1),(6,6,7,0),(5,26,0,0),(1,15,0,1),(0,15,0,0),(3,20,21,0),(6,16,17,0),(0,20,0,0),(2,33,0,0),(2,32,0,1)] [] cLie_L cLie_C cLie_Z (prQ [38])) 7 9 cLie_A [] 0).map (·.1)=some (kB true) := by kernel_rfl
theorem cLie_r4 : (callB (sx Tryz.prog cLie_N [(2,2,0,1),(2,5,0,1),(6,6,7,0),(5,26,0,0),(1,15,0,0),(0,15,0,1),(3,20,21,1),(6,16,17,0),(0,20,0,0),(2,33,0,1),(2,32,0,1)] [] cLie_L cLie_C cLie_Z (prQ [38])) 7 9 cLie_A [] 0).map (·.1)=some (kB true) := by kernel_rfl
theorem cLie_r5 : (callB (sx Tryz.prog cLie_N [(2,2,0,1),(2,5,0,1),(6,6,7,0),(5,26,0,0),(1,15,0,0),(0,15,0,1),(3,20,21,1),(6,16,17,0),(0,20,0,0),(2,33,0,0),(2,32,0,1)] [] cLie_L cLie_C cLie_Z (prQ [38])) 7 9 cLie_A [] 0).map (·.1)=some (kB true) := by kernel_rfl
theorem cLie_r6 : (callB (sx Tryz.prog cLie_N [(2,2,0,1),(2,5,0,1),(6,6,7,0),(5,26,0,0),(1,15,0,0),(0,15,0,0),(3,20,21,0),(6,16,17,0),(0,20,0,0),(2,33,0,1),(2,32,0,1)] [] cLie_L cLie_C cLie_Z (prQ [38])) 7 9 cLie_A [] 0).map (·.1)=some (kB true) := by kernel_rfl
theorem cLie_r7 : (callB (sx Tryz.prog cLie_N [(2,2,0,1),(2,5,0,1),(6,6,7,0),(5,26,0,0),(1,15,0,0),(0,15,0,0),(3,20,21,0),(6,16,17,0),(0,20,0,0),(2,33,0,0),(2,32,0,1)] [] cLie_L cLie_C cLie_Z (prQ [38])) 7 9 cLie_A [] 0).map (·.1)=some (kB true) := by kernel_rfl
theorem cLie_r8 : (callB (sx Tryz.prog cLie_N [(2,2,0,1),(2,5,0,1),(6,6,7,0),(5,26,0,1),(1,15,0,1),(0,15,0,0),(3,20,21,0),(6,16,17,0),(0,20,0,0),(2,33,0,1),(2,32,0,0),(0,32,0,1),(2,34,0,0)] [] cLie_L cLie_C cLie_Z (prQ [38])) 7 9 cLie_A [] 0).map (·.1)=some (kB true) := by kernel_rfl
theorem cLie_r9 : (callB (sx Tryz.prog cLie_N [(2,2,0,1),(2,5,0,1),(6,6,7,0),(5,26,0,1),(1,15,0,1),(0,15,0,0),(3,20,21,0),(6,16,17,0),(0,20,0,0),(2,33,0,0),(2,32,0,0),(0,32,0,1),(2,35,0,0)] [] cLie_L cLie_C cLie_Z (prQ [38])) 7 9 cLie_A [] 0).map (·.1)=some (kB true) := by kernel_rfl
theorem cLie_r10 : (callB (sx Tryz.prog cLie_N [(2,2,0,1),(2,5,0,1),(6,6,7,0),(5,26,0,1),(1,15,0,0),(0,15,0,0),(3,20,21,0),(6,16,17,0),(0,20,0,0),(2,33,0,1),(2,32,0,0),(0,32,0,1),(2,34,0,1)] [] cLie_L cLie_C cLie_Z (prQ [38])) 7 9 cLie_A [] 0).map (·.1)=some (kB true) := by kernel_rfl
theorem cLie_r11 : (callB (sx Tryz.prog cLie_N [(2,2,0,1),(2,5,0,1),(6,6,7,0),(5,26,0,1),(1,15,0,0),(0,15,0,0),(3,20,21,0),(6,16,17,0),(0,20,0,0),(2,33,0,0),(2,32,0,0),(0,32,0,1),(2,35,0,1)] [] cLie_L cLie_C cLie_Z (prQ [38])) 7 9 cLie_A [] 0).map (·.1)=some (kB true) := by kernel_rfl
theorem cLie_r12 : (callB (sx Tryz.prog cLie_N [(2,2,0,1),(2,5,0,1),(6,6,7,0),(5,26,0,2),(1,15,0,1),(0,15,0,0),(3,20,21,0),(6,16,17,0),(0,20,0,0),(2,33,0,1),(2,32,0,0),(0,32,0,0),(2,34,0,0)] [] cLie_L cLie_C cLie_Z (prQ [38])) 7 9 cLie_A [] 0).map (·.1)=some (kB true) := by kernel_rfl
theorem cLie_r13 : (callB (sx Tryz.prog cLie_N [(2,2,0,1),(2,5,0,1),(6,6,7,0),(5,26,0,2),(1,15,0,1),(0,15,0,0),(3,20,21,0),(6,16,17,0),(0,20,0,0),(2,33,0,0),(2,32,0,0),(0,32,0,0),(2,35,0,0)] [] cLie_L cLie_C cLie_Z (prQ [38])) 7 9 cLie_A [] 0).map (·.1)=some (kB true) := by kernel_rfl
theorem cLie_r14 : (callB (sx Tryz.prog cLie_N [(2,2,0,1),(2,5,0,1),(6,6,7,0),(5,26,0,2),(1,15,0,0),(0,15,0,0),(3,20,21,0),(6,16,17,0),(0,20,0,0),(2,33,0,1),(2,32,0,0),(0,32,0,0),(2,34,0,1)] [] cLie_L cLie_C cLie_Z (prQ [38])) 7 9 cLie_A [] 0).map (·.1)=some (kB true) := by kernel_rfl
theorem cLie_r15 : (callB (sx Tryz.prog cLie_N [(2,2,0,1),(2,5,0,1),(6,6,7,0),(5,26,0,2),(1,15,0,0),(0,15,0,0),(3,20,21,0),(6,16,17,0),(0,20,0,0),(2,33,0,0),(2,32,0,0),(0,32,0,0),(2,35,0,1)] [] cLie_L cLie_C cLie_Z (prQ [38])) 7 9 cLie_A [] 0).map (·.1)=some (kB true) := by kernel_rfl
theorem cLie_r16 : (callB (sx Tryz.prog cLie_N [(2,2,0,1),(2,5,0,0)] [] cLie_L cLie_C cLie_Z (prQ [38])) 7 9 cLie_A [] 0).map (·.1)=some (kB true) := by kernel_rfl
theorem cLie_r17 : (callB (sx Tryz.prog cLie_N [(2,2,0,0)] [] cLie_L cLie_C cLie_Z (prQ [38])) 7 9 cLie_A [] 0).map (·.1)=some (kB true) := by kernel_rfl
theorem cLie_An {a b : Prop} (x : a) (y : b) : a∧b := ⟨x,y⟩
theorem cLie_leaf {H : List (Nat × Nat × Nat × Nat)} {K : List (FuncId × List AC)} {k : Nat} {q : Nat→Rat} {σ : Nat→ByteArray} {args : List AV} {vs : List Value} {w : World} (hr : (callB (sx Tryz.prog cLie_N H K cLie_L cLie_C cLie_Z (prQ [38])) k 9 args [] 0).map (·.1)=some (kB true)) (hσ : ∀ j,(σ j).size≤1048576) (hq : ∀ (a : Nat) nd,cLie_N[a]? = some nd→q a=valN σ q nd) (h0 : ∀ a,cLie_N.length≤a→q a=0) (hH : hAll q H) (hp : PreS w) (hA : ∀ K,A2 (avOn (cOn (evS q σ) K (fun _ => none) w)) args vs) : Calls Tryz.prog 9 vs.toArray w fun e w' => Below w.heap.size w w'∧e=.returned (.bool true) :=
 run_toldQ' k (hy_of hσ cLie_wf cLie_sz cLie_lt cLie_cn hq h0 hH) (by simp [closed_rounded]) (by kernel_rfl) hr hp (hA K)
theorem cLie_walk {w : World} {cx cz cr dx dz dr : ByteArray}  (scx : cx.size≤1048576) (scz : cz.size≤1048576) (scr : cr.size≤1048576) (sdx : dx.size≤1048576) (sdz : dz.size≤1048576) (sdr : dr.size≤1048576) (tab : Tab w) (mx : MaxL w) :
  Calls Tryz.prog 9 #[.agg #[.string cx,.string cz,.string cr],.agg #[.string dx,.string dz,.string dr]] w fun e w' => Below w.heap.size w w'∧e=.returned (.bool true) := by
 have hσ : ∀ j,(sgOf [cx,cz,cr,dx,dz,dr] j).size≤1048576 := sgOf_size (by simp [scx,scz,scr,sdx,sdz,sdr])
 obtain ⟨q,hq,h0⟩ := nodes_exist (sgOf [cx,cz,cr,dx,dz,dr]) cLie_N cLie_wf
 have hA : ∀ K,A2 (avOn (cOn (evS q (sgOf [cx,cz,cr,dx,dz,dr])) K (fun _ => none) w)) [(false,[(true,[.inr (2,0,0,0,0),.inr (2,1,0,0,0),.inr (2,2,0,0,0)])]),(false,[(true,[.inr (2,3,0,0,0),.inr (2,4,0,0,0),.inr (2,5,0,0,0)])])] [.agg #[.string cx,.string cz,.string cr],.agg #[.string dx,.string dz,.string dr]] := fun K => ⟨⟨⟨[.string cx,.string cz,.string cr],rfl,rfl,rfl,rfl,trivial⟩,trivial⟩,⟨⟨[.string dx,.string dz,.string dr],rfl,rfl,rfl,rfl,trivial⟩,trivial⟩,trivial⟩
 have E6 : q 6=q 3 - q 0 := hq 6 _ rfl
 have E7 : q 7=q 4 - q 1 := hq 7 _ rfl
 have E8 : q 8=q 2 - q 5 := hq 8 _ rfl
 have E9 : q 9=q 6*q 6 := hq 9 _ rfl
 have E10 : q 10=q 7*q 7 := hq 10 _ rfl
 have E11 : q 11=q 9+q 10 := hq 11 _ rfl
 have E12 : q 12=-q 2 := hq 12 _ rfl
 have E13 : q 13=-q 5 := hq 13 _ rfl
 have E14 : q 14=q 11+q 12 := hq 14 _ rfl
 have E15 : q 15=q 14+q 13 := hq 15 _ rfl
 have E16 : q 16=q 0 - q 3 := hq 16 _ rfl
 have E17 : q 17=q 1 - q 4 := hq 17 _ rfl
 have E18 : q 18=q 16*q 16 := hq 18 _ rfl
 have E19 : q 19=q 17*q 17 := hq 19 _ rfl
 have E20 : q 20=q 18+q 19 := hq 20 _ rfl
 have E21 : q 21=q 2+q 5 := hq 21 _ rfl
 have E22 : q 22=q 15*q 15 := hq 22 _ rfl
 have E23 : q 23=4 := (hq 23 _ rfl).trans cLie_c23
 have E24 : q 24=q 23*q 2 := hq 24 _ rfl
 have E25 : q 25=q 24*q 5 := hq 25 _ rfl
 have E26 : q 26=q 22 - q 25 := hq 26 _ rfl
 have E27 : q 27=q 20+q 2 := hq 27 _ rfl
 have E28 : q 28=q 27+q 13 := hq 28 _ rfl
 have E29 : q 29=q 23*q 20 := hq 29 _ rfl
 have E30 : q 30=q 29*q 2 := hq 30 _ rfl
 have E31 : q 31=q 28*q 28 := hq 31 _ rfl
 have E32 : q 32=q 30 - q 31 := hq 32 _ rfl
 have E33 : q 33=q 5 - q 2 := hq 33 _ rfl
 have E34 : q 34=q 20 - q 5 := hq 34 _ rfl
 have E35 : q 35=q 20 - q 2 := hq 35 _ rfl
 by_cases a_2_2_0 : 0 < q 2
 ·
  by_cases a_2_5_0 : 0 < q 5
  ·
   by_cases a_6_6_7 : q 6=0∧q 7=0
   ·
    by_cases b8 : q 8=0
    ·
     have b15 : ¬ (q 15=0) := cLie_f0 E6 E7 E8 E9 E10 E11 E12 E13 E14 E15 a_2_2_0 a_2_5_0 a_6_6_7 b8
     have a_3_20_21 : ¬ (q 20=q 21) := cLie_f1 E6 E7 E8 E16 E17 E18 E19 E20 E21 a_2_2_0 a_2_5_0 a_6_6_7 b8
     have a_6_16_17 : q 16=0∧q 17=0 := And.intro (cLie_f2 E6 E7 E8 E16 a_2_2_0 a_2_5_0 a_6_6_7 b8) (cLie_f3 E6 E7 E8 E17 a_2_2_0 a_2_5_0 a_6_6_7 b8)
     have a_3_2_5 : q 2=q 5 := cLie_f4 E6 E7 E8 a_2_2_0 a_2_5_0 a_6_6_7 b8
     exact cLie_leaf cLie_r0 hσ hq h0 (cLie_An (hT a_2_2_0) (cLie_An (hT a_2_5_0) (cLie_An (hT a_6_6_7) (cLie_An (hT b8) (cLie_An (hF b15) (cLie_An (hF a_3_20_21) (cLie_An (hT a_6_16_17) (cLie_An (hT a_3_2_5) trivial)))))))) ⟨tab,mx⟩ hA
    ·
     have a_5_26_0 : 0 < q 26 := cLie_f5 E6 E7 E8 E9 E10 E11 E12 E13 E14 E15 E22 E23 E24 E25 E26 a_2_2_0 a_2_5_0 a_6_6_7 b8
     have a_1_15_0 : q 15 < 0 := cLie_f6 E6 E7 E8 E9 E10 E11 E12 E13 E14 E15 a_2_2_0 a_2_5_0 a_6_6_7 b8
     have b15 : ¬ (q 15=0) := cLie_f7 E6 E7 E8 E9 E10 E11 E12 E13 E14 E15 a_2_2_0 a_2_5_0 a_6_6_7 b8
     have a_3_20_21 : ¬ (q 20=q 21) := cLie_f8 E6 E7 E8 E16 E17 E18 E19 E20 E21 a_2_2_0 a_2_5_0 a_6_6_7 b8
     have a_6_16_17 : q 16=0∧q 17=0 := And.intro (cLie_f9 E6 E7 E8 E16 a_2_2_0 a_2_5_0 a_6_6_7 b8) (cLie_f10 E6 E7 E8 E17 a_2_2_0 a_2_5_0 a_6_6_7 b8)
     have a_3_2_5 : ¬ (q 2=q 5) := cLie_f11 E6 E7 E8 a_2_2_0 a_2_5_0 a_6_6_7 b8
     have b20 : q 20=0 := cLie_f12 E6 E7 E8 E16 E17 E18 E19 E20 a_2_2_0 a_2_5_0 a_6_6_7 b8
     exact cLie_leaf cLie_r1 hσ hq h0 (cLie_An (hT a_2_2_0) (cLie_An (hT a_2_5_0) (cLie_An (hT a_6_6_7) (cLie_An (hF b8) (cLie_An (h52 a_5_26_0) (cLie_An (hT a_1_15_0) (cLie_An (hF b15) (cLie_An (hF a_3_20_21) (cLie_An (hT a_6_16_17) (cLie_An (hF a_3_2_5) (cLie_An (hT b20) trivial))))))))))) ⟨tab,mx⟩ hA
   ·
    rcases tri (q 26) with a_5_26_0 | a_5_26_0 | a_5_26_0
    ·
     by_cases a_1_15_0 : q 15 < 0
     ·
      have b15 : ¬ (q 15=0) := cLie_f13 E6 E7 E9 E10 E11 E12 E13 E14 E15 E22 E23 E24 E25 E26 a_2_2_0 a_2_5_0 a_6_6_7 a_5_26_0 a_1_15_0
      have a_3_20_21 : ¬ (q 20=q 21) := cLie_f14 E6 E7 E9 E10 E11 E12 E13 E14 E15 E16 E17 E18 E19 E20 E21 E22 E23 E24 E25 E26 a_2_2_0 a_2_5_0 a_6_6_7 a_5_26_0 a_1_15_0
      have a_6_16_17 : ¬ (q 16=0∧q 17=0) := cLie_f15 E6 E7 E9 E10 E11 E12 E13 E14 E15 E16 E17 E22 E23 E24 E25 E26 a_2_2_0 a_2_5_0 a_6_6_7 a_5_26_0 a_1_15_0
      have b20 : ¬ (q 20=0) := cLie_f16 E6 E7 E9 E10 E11 E12 E13 E14 E15 E16 E17 E18 E19 E20 E22 E23 E24 E25 E26 a_2_2_0 a_2_5_0 a_6_6_7 a_5_26_0 a_1_15_0
      by_cases a_2_33_0 : 0 < q 33
      ·
       have a_2_32_0 : 0 < q 32 := cLie_f17 E6 E7 E9 E10 E11 E12 E13 E14 E15 E16 E17 E18 E19 E20 E22 E23 E24 E25 E26 E27 E28 E29 E30 E31 E32 E33 a_2_2_0 a_2_5_0 a_6_6_7 a_5_26_0 a_1_15_0 a_2_33_0
       exact cLie_leaf cLie_r2 hσ hq h0 (cLie_An (hT a_2_2_0) (cLie_An (hT a_2_5_0) (cLie_An (hF a_6_6_7) (cLie_An (h50 a_5_26_0) (cLie_An (hT a_1_15_0) (cLie_An (hF b15) (cLie_An (hF a_3_20_21) (cLie_An (hF a_6_16_17) (cLie_An (hF b20) (cLie_An (hT a_2_33_0) (cLie_An (hT a_2_32_0) trivial))))))))))) ⟨tab,mx⟩ hA
      ·
       have a_2_32_0 : 0 < q 32 := cLie_f18 E6 E7 E9 E10 E11 E12 E13 E14 E15 E16 E17 E18 E19 E20 E22 E23 E24 E25 E26 E27 E28 E29 E30 E31 E32 E33 a_2_2_0 a_2_5_0 a_6_6_7 a_5_26_0 a_1_15_0 a_2_33_0
       exact cLie_leaf cLie_r3 hσ hq h0 (cLie_An (hT a_2_2_0) (cLie_An (hT a_2_5_0) (cLie_An (hF a_6_6_7) (cLie_An (h50 a_5_26_0) (cLie_An (hT a_1_15_0) (cLie_An (hF b15) (cLie_An (hF a_3_20_21) (cLie_An (hF a_6_16_17) (cLie_An (hF b20) (cLie_An (hF a_2_33_0) (cLie_An (hT a_2_32_0) trivial))))))))))) ⟨tab,mx⟩ hA
     ·
      by_cases b15 : q 15=0
      ·
       have a_3_20_21 : q 20=q 21 := cLie_f19 E6 E7 E9 E10 E11 E12 E13 E14 E15 E16 E17 E18 E19 E20 E21 E22 E23 E24 E25 E26 a_2_2_0 a_2_5_0 a_6_6_7 a_5_26_0 a_1_15_0 b15
       have a_6_16_17 : ¬ (q 16=0∧q 17=0) := cLie_f20 E6 E7 E9 E10 E11 E12 E13 E14 E15 E16 E17 E22 E23 E24 E25 E26 a_2_2_0 a_2_5_0 a_6_6_7 a_5_26_0 a_1_15_0 b15
       have b20 : ¬ (q 20=0) := cLie_f21 E6 E7 E9 E10 E11 E12 E13 E14 E15 E16 E17 E18 E19 E20 E22 E23 E24 E25 E26 a_2_2_0 a_2_5_0 a_6_6_7 a_5_26_0 a_1_15_0 b15
       by_cases a_2_33_0 : 0 < q 33
       ·
        have a_2_32_0 : 0 < q 32 := cLie_f22 E6 E7 E9 E10 E11 E12 E13 E14 E15 E16 E17 E18 E19 E20 E22 E23 E24 E25 E26 E27 E28 E29 E30 E31 E32 E33 a_2_2_0 a_2_5_0 a_6_6_7 a_5_26_0 a_1_15_0 b15 a_2_33_0
        exact cLie_leaf cLie_r4 hσ hq h0 (cLie_An (hT a_2_2_0) (cLie_An (hT a_2_5_0) (cLie_An (hF a_6_6_7) (cLie_An (h50 a_5_26_0) (cLie_An (hF a_1_15_0) (cLie_An (hT b15) (cLie_An (hT a_3_20_21) (cLie_An (hF a_6_16_17) (cLie_An (hF b20) (cLie_An (hT a_2_33_0) (cLie_An (hT a_2_32_0) trivial))))))))))) ⟨tab,mx⟩ hA
       ·
        have a_2_32_0 : 0 < q 32 := cLie_f23 E6 E7 E9 E10 E11 E12 E13 E14 E15 E16 E17 E18 E19 E20 E22 E23 E24 E25 E26 E27 E28 E29 E30 E31 E32 E33 a_2_2_0 a_2_5_0 a_6_6_7 a_5_26_0 a_1_15_0 b15 a_2_33_0
        exact cLie_leaf cLie_r5 hσ hq h0 (cLie_An (hT a_2_2_0) (cLie_An (hT a_2_5_0) (cLie_An (hF a_6_6_7) (cLie_An (h50 a_5_26_0) (cLie_An (hF a_1_15_0) (cLie_An (hT b15) (cLie_An (hT a_3_20_21) (cLie_An (hF a_6_16_17) (cLie_An (hF b20) (cLie_An (hF a_2_33_0) (cLie_An (hT a_2_32_0) trivial))))))))))) ⟨tab,mx⟩ hA
      ·
       have a_3_20_21 : ¬ (q 20=q 21) := cLie_f24 E6 E7 E9 E10 E11 E12 E13 E14 E15 E16 E17 E18 E19 E20 E21 E22 E23 E24 E25 E26 a_2_2_0 a_2_5_0 a_6_6_7 a_5_26_0 a_1_15_0 b15
       have a_6_16_17 : ¬ (q 16=0∧q 17=0) := cLie_f25 E6 E7 E9 E10 E11 E12 E13 E14 E15 E16 E17 E22 E23 E24 E25 E26 a_2_2_0 a_2_5_0 a_6_6_7 a_5_26_0 a_1_15_0 b15
       have b20 : ¬ (q 20=0) := cLie_f26 E6 E7 E9 E10 E11 E12 E13 E14 E15 E16 E17 E18 E19 E20 E22 E23 E24 E25 E26 a_2_2_0 a_2_5_0 a_6_6_7 a_5_26_0 a_1_15_0 b15
       by_cases a_2_33_0 : 0 < q 33
       ·
        have a_2_32_0 : 0 < q 32 := cLie_f27 E6 E7 E9 E10 E11 E12 E13 E14 E15 E16 E17 E18 E19 E20 E22 E23 E24 E25 E26 E27 E28 E29 E30 E31 E32 E33 a_2_2_0 a_2_5_0 a_6_6_7 a_5_26_0 a_1_15_0 b15 a_2_33_0
        exact cLie_leaf cLie_r6 hσ hq h0 (cLie_An (hT a_2_2_0) (cLie_An (hT a_2_5_0) (cLie_An (hF a_6_6_7) (cLie_An (h50 a_5_26_0) (cLie_An (hF a_1_15_0) (cLie_An (hF b15) (cLie_An (hF a_3_20_21) (cLie_An (hF a_6_16_17) (cLie_An (hF b20) (cLie_An (hT a_2_33_0) (cLie_An (hT a_2_32_0) trivial))))))))))) ⟨tab,mx⟩ hA
       ·
        have a_2_32_0 : 0 < q 32 := cLie_f28 E6 E7 E9 E10 E11 E12 E13 E14 E15 E16 E17 E18 E19 E20 E22 E23 E24 E25 E26 E27 E28 E29 E30 E31 E32 E33 a_2_2_0 a_2_5_0 a_6_6_7 a_5_26_0 a_1_15_0 b15 a_2_33_0
        exact cLie_leaf cLie_r7 hσ hq h0 (cLie_An (hT a_2_2_0) (cLie_An (hT a_2_5_0) (cLie_An (hF a_6_6_7) (cLie_An (h50 a_5_26_0) (cLie_An (hF a_1_15_0) (cLie_An (hF b15) (cLie_An (hF a_3_20_21) (cLie_An (hF a_6_16_17) (cLie_An (hF b20) (cLie_An (hF a_2_33_0) (cLie_An (hT a_2_32_0) trivial))))))))))) ⟨tab,mx⟩ hA
    ·
     by_cases a_1_15_0 : q 15 < 0
     ·
      have b15 : ¬ (q 15=0) := cLie_f29 E6 E7 E9 E10 E11 E12 E13 E14 E15 E22 E23 E24 E25 E26 a_2_2_0 a_2_5_0 a_6_6_7 a_5_26_0 a_1_15_0
      have a_3_20_21 : ¬ (q 20=q 21) := cLie_f30 E6 E7 E9 E10 E11 E12 E13 E14 E15 E16 E17 E18 E19 E20 E21 E22 E23 E24 E25 E26 a_2_2_0 a_2_5_0 a_6_6_7 a_5_26_0 a_1_15_0
      have a_6_16_17 : ¬ (q 16=0∧q 17=0) := cLie_f31 E6 E7 E9 E10 E11 E12 E13 E14 E15 E16 E17 E22 E23 E24 E25 E26 a_2_2_0 a_2_5_0 a_6_6_7 a_5_26_0 a_1_15_0
      have b20 : ¬ (q 20=0) := cLie_f32 E6 E7 E9 E10 E11 E12 E13 E14 E15 E16 E17 E18 E19 E20 E22 E23 E24 E25 E26 a_2_2_0 a_2_5_0 a_6_6_7 a_5_26_0 a_1_15_0
      by_cases a_2_33_0 : 0 < q 33
      ·
       have a_2_32_0 : ¬ (0 < q 32) := cLie_f33 E6 E7 E9 E10 E11 E12 E13 E14 E15 E16 E17 E18 E19 E20 E22 E23 E24 E25 E26 E27 E28 E29 E30 E31 E32 E33 a_2_2_0 a_2_5_0 a_6_6_7 a_5_26_0 a_1_15_0 a_2_33_0
       have b32 : q 32=0 := cLie_f34 E6 E7 E9 E10 E11 E12 E13 E14 E15 E16 E17 E18 E19 E20 E22 E23 E24 E25 E26 E27 E28 E29 E30 E31 E32 E33 a_2_2_0 a_2_5_0 a_6_6_7 a_5_26_0 a_1_15_0 a_2_33_0
       have a_2_34_0 : ¬ (0 < q 34) := cLie_f35 E6 E7 E9 E10 E11 E12 E13 E14 E15 E16 E17 E18 E19 E20 E22 E23 E24 E25 E26 E33 E34 a_2_2_0 a_2_5_0 a_6_6_7 a_5_26_0 a_1_15_0 a_2_33_0
       exact cLie_leaf cLie_r8 hσ hq h0 (cLie_An (hT a_2_2_0) (cLie_An (hT a_2_5_0) (cLie_An (hF a_6_6_7) (cLie_An (h51 a_5_26_0) (cLie_An (hT a_1_15_0) (cLie_An (hF b15) (cLie_An (hF a_3_20_21) (cLie_An (hF a_6_16_17) (cLie_An (hF b20) (cLie_An (hT a_2_33_0) (cLie_An (hF a_2_32_0) (cLie_An (hT b32) (cLie_An (hF a_2_34_0) trivial))))))))))))) ⟨tab,mx⟩ hA
      ·
       have a_2_32_0 : ¬ (0 < q 32) := cLie_f36 E6 E7 E9 E10 E11 E12 E13 E14 E15 E16 E17 E18 E19 E20 E22 E23 E24 E25 E26 E27 E28 E29 E30 E31 E32 E33 a_2_2_0 a_2_5_0 a_6_6_7 a_5_26_0 a_1_15_0 a_2_33_0
       have b32 : q 32=0 := cLie_f37 E6 E7 E9 E10 E11 E12 E13 E14 E15 E16 E17 E18 E19 E20 E22 E23 E24 E25 E26 E27 E28 E29 E30 E31 E32 E33 a_2_2_0 a_2_5_0 a_6_6_7 a_5_26_0 a_1_15_0 a_2_33_0
       have a_2_35_0 : ¬ (0 < q 35) := cLie_f38 E6 E7 E9 E10 E11 E12 E13 E14 E15 E16 E17 E18 E19 E20 E22 E23 E24 E25 E26 E33 E35 a_2_2_0 a_2_5_0 a_6_6_7 a_5_26_0 a_1_15_0 a_2_33_0
       exact cLie_leaf cLie_r9 hσ hq h0 (cLie_An (hT a_2_2_0) (cLie_An (hT a_2_5_0) (cLie_An (hF a_6_6_7) (cLie_An (h51 a_5_26_0) (cLie_An (hT a_1_15_0) (cLie_An (hF b15) (cLie_An (hF a_3_20_21) (cLie_An (hF a_6_16_17) (cLie_An (hF b20) (cLie_An (hF a_2_33_0) (cLie_An (hF a_2_32_0) (cLie_An (hT b32) (cLie_An (hF a_2_35_0) trivial))))))))))))) ⟨tab,mx⟩ hA
     ·
      have b15 : ¬ (q 15=0) := cLie_f39 E6 E7 E9 E10 E11 E12 E13 E14 E15 E22 E23 E24 E25 E26 a_2_2_0 a_2_5_0 a_6_6_7 a_5_26_0 a_1_15_0
      have a_3_20_21 : ¬ (q 20=q 21) := cLie_f40 E6 E7 E9 E10 E11 E12 E13 E14 E15 E16 E17 E18 E19 E20 E21 E22 E23 E24 E25 E26 a_2_2_0 a_2_5_0 a_6_6_7 a_5_26_0 a_1_15_0
      have a_6_16_17 : ¬ (q 16=0∧q 17=0) := cLie_f41 E6 E7 E9 E10 E11 E12 E13 E14 E15 E16 E17 E22 E23 E24 E25 E26 a_2_2_0 a_2_5_0 a_6_6_7 a_5_26_0 a_1_15_0
      have b20 : ¬ (q 20=0) := cLie_f42 E6 E7 E9 E10 E11 E12 E13 E14 E15 E16 E17 E18 E19 E20 E22 E23 E24 E25 E26 a_2_2_0 a_2_5_0 a_6_6_7 a_5_26_0 a_1_15_0
      by_cases a_2_33_0 : 0 < q 33
      ·
       have a_2_32_0 : ¬ (0 < q 32) := cLie_f43 E6 E7 E9 E10 E11 E12 E13 E14 E15 E16 E17 E18 E19 E20 E22 E23 E24 E25 E26 E27 E28 E29 E30 E31 E32 E33 a_2_2_0 a_2_5_0 a_6_6_7 a_5_26_0 a_1_15_0 a_2_33_0
       have b32 : q 32=0 := cLie_f44 E6 E7 E9 E10 E11 E12 E13 E14 E15 E16 E17 E18 E19 E20 E22 E23 E24 E25 E26 E27 E28 E29 E30 E31 E32 E33 a_2_2_0 a_2_5_0 a_6_6_7 a_5_26_0 a_1_15_0 a_2_33_0
       have a_2_34_0 : 0 < q 34 := cLie_f45 E6 E7 E9 E10 E11 E12 E13 E14 E15 E16 E17 E18 E19 E20 E22 E23 E24 E25 E26 E33 E34 a_2_2_0 a_2_5_0 a_6_6_7 a_5_26_0 a_1_15_0 a_2_33_0
       exact cLie_leaf cLie_r10 hσ hq h0 (cLie_An (hT a_2_2_0) (cLie_An (hT a_2_5_0) (cLie_An (hF a_6_6_7) (cLie_An (h51 a_5_26_0) (cLie_An (hF a_1_15_0) (cLie_An (hF b15) (cLie_An (hF a_3_20_21) (cLie_An (hF a_6_16_17) (cLie_An (hF b20) (cLie_An (hT a_2_33_0) (cLie_An (hF a_2_32_0) (cLie_An (hT b32) (cLie_An (hT a_2_34_0) trivial))))))))))))) ⟨tab,mx⟩ hA
      ·
       have a_2_32_0 : ¬ (0 < q 32) := cLie_f46 E6 E7 E9 E10 E11 E12 E13 E14 E15 E16 E17 E18 E19 E20 E22 E23 E24 E25 E26 E27 E28 E29 E30 E31 E32 E33 a_2_2_0 a_2_5_0 a_6_6_7 a_5_26_0 a_1_15_0 a_2_33_0
       have b32 : q 32=0 := cLie_f47 E6 E7 E9 E10 E11 E12 E13 E14 E15 E16 E17 E18 E19 E20 E22 E23 E24 E25 E26 E27 E28 E29 E30 E31 E32 E33 a_2_2_0 a_2_5_0 a_6_6_7 a_5_26_0 a_1_15_0 a_2_33_0
       have a_2_35_0 : 0 < q 35 := cLie_f48 E6 E7 E9 E10 E11 E12 E13 E14 E15 E16 E17 E18 E19 E20 E22 E23 E24 E25 E26 E33 E35 a_2_2_0 a_2_5_0 a_6_6_7 a_5_26_0 a_1_15_0 a_2_33_0
       exact cLie_leaf cLie_r11 hσ hq h0 (cLie_An (hT a_2_2_0) (cLie_An (hT a_2_5_0) (cLie_An (hF a_6_6_7) (cLie_An (h51 a_5_26_0) (cLie_An (hF a_1_15_0) (cLie_An (hF b15) (cLie_An (hF a_3_20_21) (cLie_An (hF a_6_16_17) (cLie_An (hF b20) (cLie_An (hF a_2_33_0) (cLie_An (hF a_2_32_0) (cLie_An (hT b32) (cLie_An (hT a_2_35_0) trivial))))))))))))) ⟨tab,mx⟩ hA
    ·
     by_cases a_1_15_0 : q 15 < 0
     ·
      have b15 : ¬ (q 15=0) := cLie_f49 E6 E7 E9 E10 E11 E12 E13 E14 E15 E22 E23 E24 E25 E26 a_2_2_0 a_2_5_0 a_6_6_7 a_5_26_0 a_1_15_0
      have a_3_20_21 : ¬ (q 20=q 21) := cLie_f50 E6 E7 E9 E10 E11 E12 E13 E14 E15 E16 E17 E18 E19 E20 E21 E22 E23 E24 E25 E26 a_2_2_0 a_2_5_0 a_6_6_7 a_5_26_0 a_1_15_0
      have a_6_16_17 : ¬ (q 16=0∧q 17=0) := cLie_f51 E6 E7 E9 E10 E11 E12 E13 E14 E15 E16 E17 E22 E23 E24 E25 E26 a_2_2_0 a_2_5_0 a_6_6_7 a_5_26_0 a_1_15_0
      have b20 : ¬ (q 20=0) := cLie_f52 E6 E7 E9 E10 E11 E12 E13 E14 E15 E16 E17 E18 E19 E20 E22 E23 E24 E25 E26 a_2_2_0 a_2_5_0 a_6_6_7 a_5_26_0 a_1_15_0
      by_cases a_2_33_0 : 0 < q 33
      ·
       have a_2_32_0 : ¬ (0 < q 32) := cLie_f53 E6 E7 E9 E10 E11 E12 E13 E14 E15 E16 E17 E18 E19 E20 E22 E23 E24 E25 E26 E27 E28 E29 E30 E31 E32 E33 a_2_2_0 a_2_5_0 a_6_6_7 a_5_26_0 a_1_15_0 a_2_33_0
       have b32 : ¬ (q 32=0) := cLie_f54 E6 E7 E9 E10 E11 E12 E13 E14 E15 E16 E17 E18 E19 E20 E22 E23 E24 E25 E26 E27 E28 E29 E30 E31 E32 E33 a_2_2_0 a_2_5_0 a_6_6_7 a_5_26_0 a_1_15_0 a_2_33_0
       have a_2_34_0 : ¬ (0 < q 34) := cLie_f55 E6 E7 E9 E10 E11 E12 E13 E14 E15 E16 E17 E18 E19 E20 E22 E23 E24 E25 E26 E33 E34 a_2_2_0 a_2_5_0 a_6_6_7 a_5_26_0 a_1_15_0 a_2_33_0
       exact cLie_leaf cLie_r12 hσ hq h0 (cLie_An (hT a_2_2_0) (cLie_An (hT a_2_5_0) (cLie_An (hF a_6_6_7) (cLie_An (h52 a_5_26_0) (cLie_An (hT a_1_15_0) (cLie_An (hF b15) (cLie_An (hF a_3_20_21) (cLie_An (hF a_6_16_17) (cLie_An (hF b20) (cLie_An (hT a_2_33_0) (cLie_An (hF a_2_32_0) (cLie_An (hF b32) (cLie_An (hF a_2_34_0) trivial))))))))))))) ⟨tab,mx⟩ hA
      ·
       have a_2_32_0 : ¬ (0 < q 32) := cLie_f56 E6 E7 E9 E10 E11 E12 E13 E14 E15 E16 E17 E18 E19 E20 E22 E23 E24 E25 E26 E27 E28 E29 E30 E31 E32 E33 a_2_2_0 a_2_5_0 a_6_6_7 a_5_26_0 a_1_15_0 a_2_33_0
       have b32 : ¬ (q 32=0) := cLie_f57 E6 E7 E9 E10 E11 E12 E13 E14 E15 E16 E17 E18 E19 E20 E22 E23 E24 E25 E26 E27 E28 E29 E30 E31 E32 E33 a_2_2_0 a_2_5_0 a_6_6_7 a_5_26_0 a_1_15_0 a_2_33_0
       have a_2_35_0 : ¬ (0 < q 35) := cLie_f58 E6 E7 E9 E10 E11 E12 E13 E14 E15 E16 E17 E18 E19 E20 E22 E23 E24 E25 E26 E33 E35 a_2_2_0 a_2_5_0 a_6_6_7 a_5_26_0 a_1_15_0 a_2_33_0
       exact cLie_leaf cLie_r13 hσ hq h0 (cLie_An (hT a_2_2_0) (cLie_An (hT a_2_5_0) (cLie_An (hF a_6_6_7) (cLie_An (h52 a_5_26_0) (cLie_An (hT a_1_15_0) (cLie_An (hF b15) (cLie_An (hF a_3_20_21) (cLie_An (hF a_6_16_17) (cLie_An (hF b20) (cLie_An (hF a_2_33_0) (cLie_An (hF a_2_32_0) (cLie_An (hF b32) (cLie_An (hF a_2_35_0) trivial))))))))))))) ⟨tab,mx⟩ hA
     ·
      have b15 : ¬ (q 15=0) := cLie_f59 E6 E7 E9 E10 E11 E12 E13 E14 E15 E22 E23 E24 E25 E26 a_2_2_0 a_2_5_0 a_6_6_7 a_5_26_0 a_1_15_0
      have a_3_20_21 : ¬ (q 20=q 21) := cLie_f60 E6 E7 E9 E10 E11 E12 E13 E14 E15 E16 E17 E18 E19 E20 E21 E22 E23 E24 E25 E26 a_2_2_0 a_2_5_0 a_6_6_7 a_5_26_0 a_1_15_0
      have a_6_16_17 : ¬ (q 16=0∧q 17=0) := cLie_f61 E6 E7 E9 E10 E11 E12 E13 E14 E15 E16 E17 E22 E23 E24 E25 E26 a_2_2_0 a_2_5_0 a_6_6_7 a_5_26_0 a_1_15_0
      have b20 : ¬ (q 20=0) := cLie_f62 E6 E7 E9 E10 E11 E12 E13 E14 E15 E16 E17 E18 E19 E20 E22 E23 E24 E25 E26 a_2_2_0 a_2_5_0 a_6_6_7 a_5_26_0 a_1_15_0
      by_cases a_2_33_0 : 0 < q 33
      ·
       have a_2_32_0 : ¬ (0 < q 32) := cLie_f63 E6 E7 E9 E10 E11 E12 E13 E14 E15 E16 E17 E18 E19 E20 E22 E23 E24 E25 E26 E27 E28 E29 E30 E31 E32 E33 a_2_2_0 a_2_5_0 a_6_6_7 a_5_26_0 a_1_15_0 a_2_33_0
       have b32 : ¬ (q 32=0) := cLie_f64 E6 E7 E9 E10 E11 E12 E13 E14 E15 E16 E17 E18 E19 E20 E22 E23 E24 E25 E26 E27 E28 E29 E30 E31 E32 E33 a_2_2_0 a_2_5_0 a_6_6_7 a_5_26_0 a_1_15_0 a_2_33_0
       have a_2_34_0 : 0 < q 34 := cLie_f65 E6 E7 E9 E10 E11 E12 E13 E14 E15 E16 E17 E18 E19 E20 E22 E23 E24 E25 E26 E33 E34 a_2_2_0 a_2_5_0 a_6_6_7 a_5_26_0 a_1_15_0 a_2_33_0
       exact cLie_leaf cLie_r14 hσ hq h0 (cLie_An (hT a_2_2_0) (cLie_An (hT a_2_5_0) (cLie_An (hF a_6_6_7) (cLie_An (h52 a_5_26_0) (cLie_An (hF a_1_15_0) (cLie_An (hF b15) (cLie_An (hF a_3_20_21) (cLie_An (hF a_6_16_17) (cLie_An (hF b20) (cLie_An (hT a_2_33_0) (cLie_An (hF a_2_32_0) (cLie_An (hF b32) (cLie_An (hT a_2_34_0) trivial))))))))))))) ⟨tab,mx⟩ hA
      ·
       have a_2_32_0 : ¬ (0 < q 32) := cLie_f66 E6 E7 E9 E10 E11 E12 E13 E14 E15 E16 E17 E18 E19 E20 E22 E23 E24 E25 E26 E27 E28 E29 E30 E31 E32 E33 a_2_2_0 a_2_5_0 a_6_6_7 a_5_26_0 a_1_15_0 a_2_33_0
       have b32 : ¬ (q 32=0) := cLie_f67 E6 E7 E9 E10 E11 E12 E13 E14 E15 E16 E17 E18 E19 E20 E22 E23 E24 E25 E26 E27 E28 E29 E30 E31 E32 E33 a_2_2_0 a_2_5_0 a_6_6_7 a_5_26_0 a_1_15_0 a_2_33_0
       have a_2_35_0 : 0 < q 35 := cLie_f68 E6 E7 E9 E10 E11 E12 E13 E14 E15 E16 E17 E18 E19 E20 E22 E23 E24 E25 E26 E33 E35 a_2_2_0 a_2_5_0 a_6_6_7 a_5_26_0 a_1_15_0 a_2_33_0
       exact cLie_leaf cLie_r15 hσ hq h0 (cLie_An (hT a_2_2_0) (cLie_An (hT a_2_5_0) (cLie_An (hF a_6_6_7) (cLie_An (h52 a_5_26_0) (cLie_An (hF a_1_15_0) (cLie_An (hF b15) (cLie_An (hF a_3_20_21) (cLie_An (hF a_6_16_17) (cLie_An (hF b20) (cLie_An (hF a_2_33_0) (cLie_An (hF a_2_32_0) (cLie_An (hF b32) (cLie_An (hT a_2_35_0) trivial))))))))))))) ⟨tab,mx⟩ hA
  ·
   exact cLie_leaf cLie_r16 hσ hq h0 (cLie_An (hT a_2_2_0) (cLie_An (hF a_2_5_0) trivial)) ⟨tab,mx⟩ hA
 ·
  exact cLie_leaf cLie_r17 hσ hq h0 (cLie_An (hF a_2_2_0) trivial) ⟨tab,mx⟩ hA
end Go.Proofs.YtokkoifoemoegaaGreatDoor
