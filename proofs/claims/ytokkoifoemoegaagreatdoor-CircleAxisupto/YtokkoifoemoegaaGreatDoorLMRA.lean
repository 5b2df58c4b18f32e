/- Part 13 of the walks and of the mathematics under them: CFrounded MRA. -/
import Derived.Test.YtokkoifoemoegaaGreatDoorA12
set_option maxHeartbeats 16000000
set_option maxRecDepth 100000
/- CFrounded -/
namespace Go.Proofs.YtokkoifoemoegaaGreatDoor
open Go.RowKit Cx
theorem closed_rounded : Closed 38 :=
 closed_told (N := [(0,[0,0,1]),(0,[0,25,1]),(0,[0,3,1]),(0,[0,4,1]),(3,[2,0]),(3,[3,0]),(4,[4,4]),(4,[5,5]),(2,[6,7]),(3,[8,1]),(3,[0,2]),(3,[3,3]),(0,[1,2,1]),(4,[4,10]),(4,[5,11]),(2,[13,14]),(4,[12,15]),(4,[10,10]),(4,[11,11]),(2,[17,18]),(6,[16,19]),(4,[10,20]),(4,[11,20]),(2,[2,21]),(2,[3,22]),(4,[4,0]),(4,[5,0]),(2,[25,26]),(5,[27]),(3,[28,1]),(8,[0,4,5,29]),(8,[1,4,5,29]),(8,[2,4,5,29]),(0,[0,10,1]),(3,[33,0]),(3,[0,0]),(4,[34,34]),(4,[35,35]),(2,[36,37]),(5,[1]),(2,[38,39]),(2,[40,39]),(4,[41,41]),(4,[3,1]),(4,[43,1]),(3,[42,44]),(0,[1,3,1]),(0,[1,25,1])]) (H := [(2,1,0,1),(0,9,0,1),(0,10,0,0),(0,34,0,0),(5,45,0,1),(1,41,0,0),(4,9,0,1),(4,23,46,1),(4,24,3,1),(4,30,2,1),(4,31,3,1),(4,32,47,1)]) (K := []) (L := [([48],0),([50,53],1),([51],2),([52],3),([49,48],33),([45,51],46),([45,50,53],47)]) (C := [([48],0),([45,51],46),([52],3),([51],2),([45,50,53],47)]) (Z := [2,6,3,4,6,7,12,14,27,34,6,9,3,12,16,29,32,12,18,31,63,69,72,73,77,8,9,18,18,25,101,101,101,5,8,5,16,10,27,6,34,41,82,10,16,99,3,6]) (cl := []) 7 (fun _ h => by cases h) (by kernel_rfl) (by kernel_rfl) (by kernel_rfl) (by kernel_rfl) (by kernel_rfl) (by kernel_rfl) (by kernel_rfl)
end Go.Proofs.YtokkoifoemoegaaGreatDoor
/- MRA -/
namespace Go.Proofs.YtokkoifoemoegaaGreatDoor
open Go.RowKit Cx
def circleAxis_N : List Nd := [(1,[0]),(1,[1]),(1,[2]),(1,[3]),(1,[4]),(1,[5]),(3,[3,0]),(3,[4,1]),(3,[2,5]),(0,[0,2,1]),(4,[6,9]),(4,[7,9]),(0,[0,0,1]),(3,[12,0]),(3,[12,1]),(4,[13,13]),(4,[14,14]),(2,[15,16]),(3,[17,2]),(3,[12,3]),(3,[12,4]),(4,[19,19]),(4,[20,20]),(2,[21,22]),(3,[23,5]),(3,[18,24]),(8,[0,10,11,25]),(8,[1,10,11,25]),(8,[2,10,11,25]),(5,[28]),(4,[26,26]),(4,[27,27]),(2,[30,31]),(6,[29,32]),(4,[26,33]),(4,[27,33]),(5,[27]),(2,[34,36]),(2,[35,26]),(3,[34,0]),(3,[35,1]),(4,[39,39]),(4,[40,40]),(2,[41,42]),(3,[43,2]),(3,[34,3]),(3,[35,4]),(4,[45,45]),(4,[46,46]),(2,[47,48]),(3,[49,5]),(3,[37,0]),(3,[38,1]),(4,[51,51]),(4,[52,52]),(2,[53,54]),(3,[55,2]),(3,[37,3]),(3,[38,4]),(4,[57,57]),(4,[58,58]),(2,[59,60]),(3,[61,5])]
def circleAxis_L : List (List Nat × Nat) := []
def circleAxis_C : List (List Nat × Nat) := []
def circleAxis_Z : List Nat := [4194309,4194309,4194309,4194309,4194309,4194309,8388619,8388619,8388619,3,8388622,8388622,2,4194312,4194312,8388624,8388624,16777249,20971559,4194312,4194312,8388624,8388624,16777249,20971559,41943119,167772477,167772477,167772477,167772477,335544954,335544954,671089909,838862386,1006634863,1006634863,167772477,1174407341,1174407341,1010829173,1010829173,2021658346,2021658346,4043316693,4047511003,1010829173,1010829173,2021658346,2021658346,4043316693,4047511003,1178601651,1178601651,2357203302,2357203302,4714406605,4718600915,1178601651,1178601651,2357203302,2357203302,4714406605,4718600915]
theorem circleAxis_wf : wfB 0 circleAxis_N=true := by kernel_rfl
theorem circleAxis_sz : szB circleAxis_Z circleAxis_N circleAxis_Z=true := by kernel_rfl
theorem circleAxis_lt : litB circleAxis_N circleAxis_L=true := by kernel_rfl
theorem circleAxis_cn : canB circleAxis_N circleAxis_C=true := by kernel_rfl
theorem circleAxis_c9 : cst 0 2 1=(2 : Rat) := by decide +kernel
theorem circleAxis_c12 : cst 0 0 1=(0 : Rat) := by decide +kernel
def circleAxis_A : List AV := [(false,[(true,[.inr (2,0,0,0,0),.inr (2,1,0,0,0),.inr (2,2,0,0,0)])]),(false,[(true,[.inr (2,3,0,0,0),.inr (2,4,0,0,0),.inr (2,5,0,0,0)])])]
theorem circleAxis_f0 (z0 z1 z2 z3 z4 z5 z6 z7 z8 : Rat) : z6=z3-z0→z7=z4-z1→z8=z2-z5→(0 < z2)→(0 < z5)→(z6=0)→(z7=0)→(z8=0)→z0=z3 := by
 intro e6 e7 e8 u0 u1 u2 u3 u4
 rw [u2] at e6
 rw [u3] at e7
 rw [u4] at e8
 subst_vars; grind
theorem circleAxis_f1 (z0 z1 z2 z3 z4 z5 z6 z7 z8 : Rat) : z6=z3-z0→z7=z4-z1→z8=z2-z5→(0 < z2)→(0 < z5)→(z6=0)→(z7=0)→(z8=0)→z1=z4 := by
 intro e6 e7 e8 u0 u1 u2 u3 u4
 rw [u2] at e6
 rw [u3] at e7
 rw [u4] at e8
 subst_vars; grind
theorem circleAxis_f2 (z0 z1 z2 z3 z4 z5 z6 z7 z8 : Rat) : z6=z3-z0→z7=z4-z1→z8=z2-z5→(0 < z2)→(0 < z5)→(z6=0)→(z7=0)→(z8=0)→z2=z5 := by
 intro e6 e7 e8 u0 u1 u2 u3 u4
 rw [u2] at e6
 rw [u3] at e7
 rw [u4] at e8
 subst_vars; grind
theorem circleAxis_f3 (z0 z1 z2 z3 z4 z5 z6 z7 z8 : Rat) : z6=z3-z0→z7=z4-z1→z8=z2-z5→(0 < z2)→(0 < z5)→(z6=0)→(z7=0)→(¬ (z8=0))→z0=z3 := by
 intro e6 e7 e8 u0 u1 u2 u3 u4
 rw [u2] at e6
 rw [u3] at e7
 subst_vars; grind
theorem circleAxis_f4 (z0 z1 z2 z3 z4 z5 z6 z7 z8 : Rat) : z6=z3-z0→z7=z4-z1→z8=z2-z5→(0 < z2)→(0 < z5)→(z6=0)→(z7=0)→(¬ (z8=0))→z1=z4 := by
 intro e6 e7 e8 u0 u1 u2 u3 u4
 rw [u2] at e6
 rw [u3] at e7
 subst_vars; grind
theorem circleAxis_f5 (z0 z1 z2 z3 z4 z5 z6 z7 z8 : Rat) : z6=z3-z0→z7=z4-z1→z8=z2-z5→(0 < z2)→(0 < z5)→(z6=0)→(z7=0)→(¬ (z8=0))→¬ (z2=z5) := by
 intro e6 e7 e8 u0 u1 u2 u3 u4
 rw [u2] at e6
 rw [u3] at e7
 subst_vars; grind
theorem circleAxis_f6 (z0 z1 z2 z3 z4 z5 z6 z7 : Rat) : z6=z3-z0→z7=z4-z1→(0 < z2)→(0 < z5)→(z6=0)→(¬ (z7=0))→z0=z3 := by
 intro e6 e7 u0 u1 u2 u3
 rw [u2] at e6
 subst_vars; grind
theorem circleAxis_f7 (z0 z1 z2 z3 z4 z5 z6 z7 : Rat) : z6=z3-z0→z7=z4-z1→(0 < z2)→(0 < z5)→(z6=0)→(¬ (z7=0))→¬ (z1=z4) := by
 intro e6 e7 u0 u1 u2 u3
 rw [u2] at e6
 subst_vars; grind
theorem circleAxis_f8 (z0 z1 z2 z3 z4 z5 z6 z7 z9 z10 z11 z12 z13 z14 z15 z16 z17 z18 z19 z20 z21 z22 z23 z24 z25 z26 : Rat) : z6=z3-z0→z7=z4-z1→z9=2→z10=z6*z9→z11=z7*z9→z12=0→z13=z12-z0→z14=z12-z1→z15=z13*z13→z16=z14*z14→z17=z15+z16→z18=z17-z2→z19=z12-z3→z20=z12-z4→z21=z19*z19→z22=z20*z20→z23=z21+z22→z24=z23-z5→z25=z18-z24→z26=z10*fac [z10,z11,z25]→(0 < z2)→(0 < z5)→(z6=0)→(¬ (z7=0))→z26=0 := by
 intro e6 e7 e9 e10 e11 e12 e13 e14 e15 e16 e17 e18 e19 e20 e21 e22 e23 e24 e25 e26 u0 u1 u2 u3
 rw [u2] at e6
 have k0_10 : fac [z10,z11,z25]=0→z10=0 := fac_zero (by simp)
 have k0_11 : fac [z10,z11,z25]=0→z11=0 := fac_zero (by simp)
 have k0_25 : fac [z10,z11,z25]=0→z25=0 := fac_zero (by simp)
 generalize fac [z10,z11,z25]=g0 at *
 subst_vars; grind
theorem circleAxis_f9 (z0 z1 z2 z3 z4 z5 z6 z7 z9 z10 z11 z12 z13 z14 z15 z16 z17 z18 z19 z20 z21 z22 z23 z24 z25 z27 : Rat) : z6=z3-z0→z7=z4-z1→z9=2→z10=z6*z9→z11=z7*z9→z12=0→z13=z12-z0→z14=z12-z1→z15=z13*z13→z16=z14*z14→z17=z15+z16→z18=z17-z2→z19=z12-z3→z20=z12-z4→z21=z19*z19→z22=z20*z20→z23=z21+z22→z24=z23-z5→z25=z18-z24→z27=z11*fac [z10,z11,z25]→(0 < z2)→(0 < z5)→(z6=0)→(¬ (z7=0))→¬ (z27=0) := by
 intro e6 e7 e9 e10 e11 e12 e13 e14 e15 e16 e17 e18 e19 e20 e21 e22 e23 e24 e25 e27 u0 u1 u2 u3
 rw [u2] at e6
 have k0_10 : fac [z10,z11,z25]=0→z10=0 := fac_zero (by simp)
 have k0_11 : fac [z10,z11,z25]=0→z11=0 := fac_zero (by simp)
 have k0_25 : fac [z10,z11,z25]=0→z25=0 := fac_zero (by simp)
 generalize fac [z10,z11,z25]=g0 at *
 subst_vars; grind
theorem circleAxis_f10 (z0 z1 z2 z3 z4 z5 z6 z7 z9 z10 : Rat) : z6=z3-z0→z7=z4-z1→z9=2→z10=z6*z9→(0 < z2)→(0 < z5)→(z6=0)→(¬ (z7=0))→z10=0 := by
 intro e6 e7 e9 e10 u0 u1 u2 u3
 rw [u2] at e6
 subst_vars; grind
theorem circleAxis_f11 (z0 z1 z2 z3 z4 z5 z6 z7 z9 z11 : Rat) : z6=z3-z0→z7=z4-z1→z9=2→z11=z7*z9→(0 < z2)→(0 < z5)→(z6=0)→(¬ (z7=0))→¬ (z11=0) := by
 intro e6 e7 e9 e11 u0 u1 u2 u3
 rw [u2] at e6
 subst_vars; grind
theorem circleAxis_f12 (z0 z1 z2 z3 z4 z5 z6 z7 z9 z10 z11 z12 z13 z14 z15 z16 z17 z18 z19 z20 z21 z22 z23 z24 z25 z26 z27 z28 z29 z30 z31 z32 z33 z34 z35 z39 z40 z41 z42 z43 z44 z45 z46 z47 z48 z49 z50 : Rat) : z6=z3-z0→z7=z4-z1→z9=2→z10=z6*z9→z11=z7*z9→z12=0→z13=z12-z0→z14=z12-z1→z15=z13*z13→z16=z14*z14→z17=z15+z16→z18=z17-z2→z19=z12-z3→z20=z12-z4→z21=z19*z19→z22=z20*z20→z23=z21+z22→z24=z23-z5→z25=z18-z24→z26=z10*fac [z10,z11,z25]→z27=z11*fac [z10,z11,z25]→z28=z25*fac [z10,z11,z25]→z29=-z28→z30=z26*z26→z31=z27*z27→z32=z30+z31→z33=z29/z32→z34=z26*z33→z35=z27*z33→z39=z34-z0→z40=z35-z1→z41=z39*z39→z42=z40*z40→z43=z41+z42→z44=z43-z2→z45=z34-z3→z46=z35-z4→z47=z45*z45→z48=z46*z46→z49=z47+z48→z50=z49-z5→(0 < z2)→(0 < z5)→(z6=0)→(¬ (z7=0))→z44=z50 := by
 intro e6 e7 e9 e10 e11 e12 e13 e14 e15 e16 e17 e18 e19 e20 e21 e22 e23 e24 e25 e26 e27 e28 e29 e30 e31 e32 e33 e34 e35 e39 e40 e41 e42 e43 e44 e45 e46 e47 e48 e49 e50 u0 u1 u2 u3
 rw [u2] at e6
 have k0_10 : fac [z10,z11,z25]=0→z10=0 := fac_zero (by simp)
 have k0_11 : fac [z10,z11,z25]=0→z11=0 := fac_zero (by simp)
 have k0_25 : fac [z10,z11,z25]=0→z25=0 := fac_zero (by simp)
 generalize fac [z10,z11,z25]=g0 at *
 have n32 : z32 ≠ 0 := by (have hp := sq_pos (x := z26) (y := z27) (by grind)); grind
 subst_vars; grind
theorem circleAxis_f13 (z0 z1 z2 z3 z4 z5 z6 z7 z9 z10 z11 z12 z13 z14 z15 z16 z17 z18 z19 z20 z21 z22 z23 z24 z25 z26 z27 z28 z29 z30 z31 z32 z33 z34 z35 z36 z37 z38 z51 z52 z53 z54 z55 z56 z57 z58 z59 z60 z61 z62 : Rat) : z6=z3-z0→z7=z4-z1→z9=2→z10=z6*z9→z11=z7*z9→z12=0→z13=z12-z0→z14=z12-z1→z15=z13*z13→z16=z14*z14→z17=z15+z16→z18=z17-z2→z19=z12-z3→z20=z12-z4→z21=z19*z19→z22=z20*z20→z23=z21+z22→z24=z23-z5→z25=z18-z24→z26=z10*fac [z10,z11,z25]→z27=z11*fac [z10,z11,z25]→z28=z25*fac [z10,z11,z25]→z29=-z28→z30=z26*z26→z31=z27*z27→z32=z30+z31→z33=z29/z32→z34=z26*z33→z35=z27*z33→z36=-z27→z37=z34+z36→z38=z35+z26→z51=z37-z0→z52=z38-z1→z53=z51*z51→z54=z52*z52→z55=z53+z54→z56=z55-z2→z57=z37-z3→z58=z38-z4→z59=z57*z57→z60=z58*z58→z61=z59+z60→z62=z61-z5→(0 < z2)→(0 < z5)→(z6=0)→(¬ (z7=0))→z56=z62 := by
 intro e6 e7 e9 e10 e11 e12 e13 e14 e15 e16 e17 e18 e19 e20 e21 e22 e23 e24 e25 e26 e27 e28 e29 e30 e31 e32 e33 e34 e35 e36 e37 e38 e51 e52 e53 e54 e55 e56 e57 e58 e59 e60 e61 e62 u0 u1 u2 u3
 rw [u2] at e6
 have k0_10 : fac [z10,z11,z25]=0→z10=0 := fac_zero (by simp)
 have k0_11 : fac [z10,z11,z25]=0→z11=0 := fac_zero (by simp)
 have k0_25 : fac [z10,z11,z25]=0→z25=0 := fac_zero (by simp)
 generalize fac [z10,z11,z25]=g0 at *
 have n32 : z32 ≠ 0 := by (have hp := sq_pos (x := z26) (y := z27) (by grind)); grind
 subst_vars; grind
theorem circleAxis_f14 (z0 z2 z3 z5 z6 : Rat) : z6=z3-z0→(0 < z2)→(0 < z5)→(¬ (z6=0))→¬ (z0=z3) := by
 intro e6 u0 u1 u2
 subst_vars; grind
theorem circleAxis_f15 (z0 z1 z2 z3 z4 z5 z6 z7 z9 z10 z11 z12 z13 z14 z15 z16 z17 z18 z19 z20 z21 z22 z23 z24 z25 z26 : Rat) : z6=z3-z0→z7=z4-z1→z9=2→z10=z6*z9→z11=z7*z9→z12=0→z13=z12-z0→z14=z12-z1→z15=z13*z13→z16=z14*z14→z17=z15+z16→z18=z17-z2→z19=z12-z3→z20=z12-z4→z21=z19*z19→z22=z20*z20→z23=z21+z22→z24=z23-z5→z25=z18-z24→z26=z10*fac [z10,z11,z25]→(0 < z2)→(0 < z5)→(¬ (z6=0))→¬ (z26=0) := by
 intro e6 e7 e9 e10 e11 e12 e13 e14 e15 e16 e17 e18 e19 e20 e21 e22 e23 e24 e25 e26 u0 u1 u2
 have k0_10 : fac [z10,z11,z25]=0→z10=0 := fac_zero (by simp)
 have k0_11 : fac [z10,z11,z25]=0→z11=0 := fac_zero (by simp)
 have k0_25 : fac [z10,z11,z25]=0→z25=0 := fac_zero (by simp)
 generalize fac [z10,z11,z25]=g0 at *
 subst_vars; grind
theorem circleAxis_f16 (z0 z2 z3 z5 z6 z9 z10 : Rat) : z6=z3-z0→z9=2→z10=z6*z9→(0 < z2)→(0 < z5)→(¬ (z6=0))→¬ (z10=0) := by
 intro e6 e9 e10 u0 u1 u2
 subst_vars; grind
theorem circleAxis_f17 (z0 z1 z2 z3 z4 z5 z6 z7 z9 z10 z11 z12 z13 z14 z15 z16 z17 z18 z19 z20 z21 z22 z23 z24 z25 z26 z27 z28 z29 z30 z31 z32 z33 z34 z35 z39 z40 z41 z42 z43 z44 z45 z46 z47 z48 z49 z50 : Rat) : z6=z3-z0→z7=z4-z1→z9=2→z10=z6*z9→z11=z7*z9→z12=0→z13=z12-z0→z14=z12-z1→z15=z13*z13→z16=z14*z14→z17=z15+z16→z18=z17-z2→z19=z12-z3→z20=z12-z4→z21=z19*z19→z22=z20*z20→z23=z21+z22→z24=z23-z5→z25=z18-z24→z26=z10*fac [z10,z11,z25]→z27=z11*fac [z10,z11,z25]→z28=z25*fac [z10,z11,z25]→z29=-z28→z30=z26*z26→z31=z27*z27→z32=z30+z31→z33=z29/z32→z34=z26*z33→z35=z27*z33→z39=z34-z0→z40=z35-z1→z41=z39*z39→z42=z40*z40→z43=z41+z42→z44=z43-z2→z45=z34-z3→z46=z35-z4→z47=z45*z45→z48=z46*z46→z49=z47+z48→z50=z49-z5→(0 < z2)→(0 < z5)→(¬ (z6=0))→z44=z50 := by
 intro e6 e7 e9 e10 e11 e12 e13 e14 e15 e16 e17 e18 e19 e20 e21 e22 e23 e24 e25 e26 e27 e28 e29 e30 e31 e32 e33 e34 e35 e39 e40 e41 e42 e43 e44 e45 e46 e47 e48 e49 e50 u0 u1 u2
 have k0_10 : fac [z10,z11,z25]=0→z10=0 := fac_zero (by simp)
 have k0_11 : fac [z10,z11,z25]=0→z11=0 := fac_zero (by simp)
 have k0_25 : fac [z10,z11,z25]=0→z25=0 := fac_zero (by simp)
 generalize fac [z10,z11,z25]=g0 at *
 have n32 : z32 ≠ 0 := by (have hp := sq_pos (x := z26) (y := z27) (by grind)); grind
 subst_vars; grind
theorem circleAxis_f18 (z0 z1 z2 z3 z4 z5 z6 z7 z9 z10 z11 z12 z13 z14 z15 z16 z17 z18 z19 z20 z21 z22 z23 z24 z25 z26 z27 z28 z29 z30 z31 z32 z33 z34 z35 z36 z37 z38 z51 z52 z53 z54 z55 z56 z57 z58 z59 z60 z61 z62 : Rat) : z6=z3-z0→z7=z4-z1→z9=2→z10=z6*z9→z11=z7*z9→z12=0→z13=z12-z0→z14=z12-z1→z15=z13*z13→z16=z14*z14→z17=z15+z16→z18=z17-z2→z19=z12-z3→z20=z12-z4→z21=z19*z19→z22=z20*z20→z23=z21+z22→z24=z23-z5→z25=z18-z24→z26=z10*fac [z10,z11,z25]→z27=z11*fac [z10,z11,z25]→z28=z25*fac [z10,z11,z25]→z29=-z28→z30=z26*z26→z31=z27*z27→z32=z30+z31→z33=z29/z32→z34=z26*z33→z35=z27*z33→z36=-z27→z37=z34+z36→z38=z35+z26→z51=z37-z0→z52=z38-z1→z53=z51*z51→z54=z52*z52→z55=z53+z54→z56=z55-z2→z57=z37-z3→z58=z38-z4→z59=z57*z57→z60=z58*z58→z61=z59+z60→z62=z61-z5→(0 < z2)→(0 < z5)→(¬ (z6=0))→z56=z62 := by
 intro e6 e7 e9 e10 e11 e12 e13 e14 e15 e16 e17 e18 e19 e20 e21 e22 e23 e24 e25 e26 e27 e28 e29 e30 e31 e32 e33 e34 e35 e36 e37 e38 e51 e52 e53 e54 e55 e56 e57 e58 e59 e60 e61 e62 u0 u1 u2
 have k0_10 : fac [z10,z11,z25]=0→z10=0 := fac_zero (by simp)
 have k0_11 : fac [z10,z11,z25]=0→z11=0 := fac_zero (by simp)
 have k0_25 : fac [z10,z11,z25]=0→z25=0 := fac_zero (by simp)
 generalize fac [z10,z11,z25]=g0 at *
 have n32 : z32 ≠ 0 := by (have hp := sq_pos (x := z26) (y := z27) (by grind)); grind
 subst_vars; grind
theorem circleAxis_r0 : (callB (sx Tryz.prog circleAxis_N [(2,2,0,1),(2,5,0,1),(0,6,0,1),(0,7,0,1),(0,8,0,1),(3,0,3,1),(3,1,4,1),(3,2,5,1)] [] circleAxis_L circleAxis_C circleAxis_Z (prC [38])) 7 7 circleAxis_A [] 0).map (·.1)=some (kB true) := by kernel_rfl
theorem circleAxis_r1 : (callB (sx Tryz.prog circleAxis_N [(2,2,0,1),(2,5,0,1),(0,6,0,1),(0,7,0,1),(0,8,0,0),(3,0,3,1),(3,1,4,1),(3,2,5,0)] [] circleAxis_L circleAxis_C circleAxis_Z (prC [38])) 7 7 circleAxis_A [] 0).map (·.1)=some (kB true) := by kernel_rfl
theorem circleAxis_r2 : (callB (sx Tryz.prog circleAxis_N [(2,2,0,1),(2,5,0,1),(0,6,0,1),(0,7,0,0),(3,0,3,1),(3,1,4,0),(0,26,0,1),(0,27,0,0),(0,10,0,1),(0,11,0,0),(3,44,50,1),(3,56,62,1)] [] circleAxis_L circleAxis_C circleAxis_Z (prC [38])) 7 7 circleAxis_A [] 0).map (·.1)=some (kB true) := by kernel_rfl
theorem circleAxis_r3 : (callB (sx Tryz.prog circleAxis_N [(2,2,0,1),(2,5,0,1),(0,6,0,0),(3,0,3,0),(0,26,0,0),(0,10,0,0),(3,44,50,1),(3,56,62,1)] [] circleAxis_L circleAxis_C circleAxis_Z (prC [38])) 7 7 circleAxis_A [] 0).map (·.1)=some (kB true) := by kernel_rfl
theorem circleAxis_r4 : (callB (sx Tryz.prog circleAxis_N [(2,2,0,1),(2,5,0,0)] [] circleAxis_L circleAxis_C circleAxis_Z (prC [38])) 7 7 circleAxis_A [] 0).map (·.1)=some (kB true) := by kernel_rfl
theorem circleAxis_r5 : (callB (sx Tryz.prog circleAxis_N [(2,2,0,0)] [] circleAxis_L circleAxis_C circleAxis_Z (prC [38])) 7 7 circleAxis_A [] 0).map (·.1)=some (kB true) := by kernel_rfl
theorem circleAxis_An {a b : Prop} (x : a) (y : b) : a∧b := ⟨x,y⟩
theorem circleAxis_leaf {H : List (Nat × Nat × Nat × Nat)} {K : List (FuncId × List AC)} {k : Nat} {q : Nat→Rat} {σ : Nat→ByteArray} {args : List AV} {vs : List Value} {w : World} (hr : (callB (sx Tryz.prog circleAxis_N H K circleAxis_L circleAxis_C circleAxis_Z (prC [38])) k 7 args [] 0).map (·.1)=some (kB true)) (hσ : ∀ j,(σ j).size≤1048576) (hq : ∀ (a : Nat) nd,circleAxis_N[a]? = some nd→q a=valN σ q nd) (h0 : ∀ a,circleAxis_N.length≤a→q a=0) (hH : hAll q H) (hp : PreS w) (hA : ∀ K,A2 (avOn (cOn (evS q σ) K (fun _ => none) w)) args vs) : Calls Tryz.prog 7 vs.toArray w fun e w' => Below w.heap.size w w'∧e=.returned (.bool true) :=
 run_told' k (hy_of hσ circleAxis_wf circleAxis_sz circleAxis_lt circleAxis_cn hq h0 hH) (by simp [closed_rounded]) (by kernel_rfl) hr hp (hA K)
theorem circleAxis_walk {w : World} {cx cz cr dx dz dr : ByteArray}  (scx : cx.size≤1048576) (scz : cz.size≤1048576) (scr : cr.size≤1048576) (sdx : dx.size≤1048576) (sdz : dz.size≤1048576) (sdr : dr.size≤1048576) (tab : Tab w) (mx : MaxL w) :
  Calls Tryz.prog 7 #[.agg #[.string cx,.string cz,.string cr],.agg #[.string dx,.string dz,.string dr]] w fun e w' => Below w.heap.size w w'∧e=.returned (.bool true) := by
 have hσ : ∀ j,(sgOf [cx,cz,cr,dx,dz,dr] j).size≤1048576 := sgOf_size (by simp [scx,scz,scr,sdx,sdz,sdr])
 obtain ⟨q,hq,h0⟩ := nodes_exist (sgOf [cx,cz,cr,dx,dz,dr]) circleAxis_N circleAxis_wf
 have hA : ∀ K,A2 (avOn (cOn (evS q (sgOf [cx,cz,cr,dx,dz,dr])) K (fun _ => none) w)) [(false,[(true,[.inr (2,0,0,0,0),.inr (2,1,0,0,0),.inr (2,2,0,0,0)])]),(false,[(true,[.inr (2,3,0,0,0),.inr (2,4,0,0,0),.inr (2,5,0,0,0)])])] [.agg #[.string cx,.string cz,.string cr],.agg #[.string dx,.string dz,.string dr]] := fun K => ⟨⟨⟨[.string cx,.string cz,.string cr],rfl,rfl,rfl,rfl,trivial⟩,trivial⟩,⟨⟨[.string dx,.string dz,.string dr],rfl,rfl,rfl,rfl,trivial⟩,trivial⟩,trivial⟩
 by_cases a_2_2_0 : 0 < q 2
 ·
  by_cases a_2_5_0 : 0 < q 5
  ·
   by_cases b6 : q 6=0
   ·
    by_cases b7 : q 7=0
    ·
     by_cases b8 : q 8=0
     ·
      have a_3_0_3 : q 0=q 3 := circleAxis_f0 (q 0) (q 1) (q 2) (q 3) (q 4) (q 5) (q 6) (q 7) (q 8) (hq 6 _ rfl) (hq 7 _ rfl) (hq 8 _ rfl) a_2_2_0 a_2_5_0 b6 b7 b8
      have a_3_1_4 : q 1=q 4 := circleAxis_f1 (q 0) (q 1) (q 2) (q 3) (q 4) (q 5) (q 6) (q 7) (q 8) (hq 6 _ rfl) (hq 7 _ rfl) (hq 8 _ rfl) a_2_2_0 a_2_5_0 b6 b7 b8
      have a_3_2_5 : q 2=q 5 := circleAxis_f2 (q 0) (q 1) (q 2) (q 3) (q 4) (q 5) (q 6) (q 7) (q 8) (hq 6 _ rfl) (hq 7 _ rfl) (hq 8 _ rfl) a_2_2_0 a_2_5_0 b6 b7 b8
      exact circleAxis_leaf circleAxis_r0 hσ hq h0 (circleAxis_An (hT a_2_2_0) (circleAxis_An (hT a_2_5_0) (circleAxis_An (hT b6) (circleAxis_An (hT b7) (circleAxis_An (hT b8) (circleAxis_An (hT a_3_0_3) (circleAxis_An (hT a_3_1_4) (circleAxis_An (hT a_3_2_5) trivial)))))))) ⟨tab,mx⟩ hA
     ·
      have a_3_0_3 : q 0=q 3 := circleAxis_f3 (q 0) (q 1) (q 2) (q 3) (q 4) (q 5) (q 6) (q 7) (q 8) (hq 6 _ rfl) (hq 7 _ rfl) (hq 8 _ rfl) a_2_2_0 a_2_5_0 b6 b7 b8
      have a_3_1_4 : q 1=q 4 := circleAxis_f4 (q 0) (q 1) (q 2) (q 3) (q 4) (q 5) (q 6) (q 7) (q 8) (hq 6 _ rfl) (hq 7 _ rfl) (hq 8 _ rfl) a_2_2_0 a_2_5_0 b6 b7 b8
      have a_3_2_5 : ¬ (q 2=q 5) := circleAxis_f5 (q 0) (q 1) (q 2) (q 3) (q 4) (q 5) (q 6) (q 7) (q 8) (hq 6 _ rfl) (hq 7 _ rfl) (hq 8 _ rfl) a_2_2_0 a_2_5_0 b6 b7 b8
      exact circleAxis_leaf circleAxis_r1 hσ hq h0 (circleAxis_An (hT a_2_2_0) (circleAxis_An (hT a_2_5_0) (circleAxis_An (hT b6) (circleAxis_An (hT b7) (circleAxis_An (hF b8) (circleAxis_An (hT a_3_0_3) (circleAxis_An (hT a_3_1_4) (circleAxis_An (hF a_3_2_5) trivial)))))))) ⟨tab,mx⟩ hA
    ·
     have a_3_0_3 : q 0=q 3 := circleAxis_f6 (q 0) (q 1) (q 2) (q 3) (q 4) (q 5) (q 6) (q 7) (hq 6 _ rfl) (hq 7 _ rfl) a_2_2_0 a_2_5_0 b6 b7
     have a_3_1_4 : ¬ (q 1=q 4) := circleAxis_f7 (q 0) (q 1) (q 2) (q 3) (q 4) (q 5) (q 6) (q 7) (hq 6 _ rfl) (hq 7 _ rfl) a_2_2_0 a_2_5_0 b6 b7
     have b26 : q 26=0 := circleAxis_f8 (q 0) (q 1) (q 2) (q 3) (q 4) (q 5) (q 6) (q 7) (q 9) (q 10) (q 11) (q 12) (q 13) (q 14) (q 15) (q 16) (q 17) (q 18) (q 19) (q 20) (q 21) (q 22) (q 23) (q 24) (q 25) (q 26) (hq 6 _ rfl) (hq 7 _ rfl) ((hq 9 _ rfl).trans circleAxis_c9) (hq 10 _ rfl) (hq 11 _ rfl) ((hq 12 _ rfl).trans circleAxis_c12) (hq 13 _ rfl) (hq 14 _ rfl) (hq 15 _ rfl) (hq 16 _ rfl) (hq 17 _ rfl) (hq 18 _ rfl) (hq 19 _ rfl) (hq 20 _ rfl) (hq 21 _ rfl) (hq 22 _ rfl) (hq 23 _ rfl) (hq 24 _ rfl) (hq 25 _ rfl) (hq 26 _ rfl) a_2_2_0 a_2_5_0 b6 b7
     have b27 : ¬ (q 27=0) := circleAxis_f9 (q 0) (q 1) (q 2) (q 3) (q 4) (q 5) (q 6) (q 7) (q 9) (q 10) (q 11) (q 12) (q 13) (q 14) (q 15) (q 16) (q 17) (q 18) (q 19) (q 20) (q 21) (q 22) (q 23) (q 24) (q 25) (q 27) (hq 6 _ rfl) (hq 7 _ rfl) ((hq 9 _ rfl).trans circleAxis_c9) (hq 10 _ rfl) (hq 11 _ rfl) ((hq 12 _ rfl).trans circleAxis_c12) (hq 13 _ rfl) (hq 14 _ rfl) (hq 15 _ rfl) (hq 16 _ rfl) (hq 17 _ rfl) (hq 18 _ rfl) (hq 19 _ rfl) (hq 20 _ rfl) (hq 21 _ rfl) (hq 22 _ rfl) (hq 23 _ rfl) (hq 24 _ rfl) (hq 25 _ rfl) (hq 27 _ rfl) a_2_2_0 a_2_5_0 b6 b7
     have b10 : q 10=0 := circleAxis_f10 (q 0) (q 1) (q 2) (q 3) (q 4) (q 5) (q 6) (q 7) (q 9) (q 10) (hq 6 _ rfl) (hq 7 _ rfl) ((hq 9 _ rfl).trans circleAxis_c9) (hq 10 _ rfl) a_2_2_0 a_2_5_0 b6 b7
     have b11 : ¬ (q 11=0) := circleAxis_f11 (q 0) (q 1) (q 2) (q 3) (q 4) (q 5) (q 6) (q 7) (q 9) (q 11) (hq 6 _ rfl) (hq 7 _ rfl) ((hq 9 _ rfl).trans circleAxis_c9) (hq 11 _ rfl) a_2_2_0 a_2_5_0 b6 b7
     have a_3_44_50 : q 44=q 50 := circleAxis_f12 (q 0) (q 1) (q 2) (q 3) (q 4) (q 5) (q 6) (q 7) (q 9) (q 10) (q 11) (q 12) (q 13) (q 14) (q 15) (q 16) (q 17) (q 18) (q 19) (q 20) (q 21) (q 22) (q 23) (q 24) (q 25) (q 26) (q 27) (q 28) (q 29) (q 30) (q 31) (q 32) (q 33) (q 34) (q 35) (q 39) (q 40) (q 41) (q 42) (q 43) (q 44) (q 45) (q 46) (q 47) (q 48) (q 49) (q 50) (hq 6 _ rfl) (hq 7 _ rfl) ((hq 9 _ rfl).trans circleAxis_c9) (hq 10 _ rfl) (hq 11 _ rfl) ((hq 12 _ rfl).trans circleAxis_c12) (hq 13 _ rfl) (hq 14 _ rfl) (hq 15 _ rfl) (hq 16 _ rfl) (hq 17 _ rfl) (hq 18 _ rfl) (hq 19 _ rfl) (hq 20 _ rfl) (hq 21 _ rfl) (hq 22 _ rfl) (hq 23 _ rfl) (hq 24 _ rfl) (hq 25 _ rfl) (hq 26 _ rfl) (hq 27 _ rfl) (hq 28 _ rfl) (hq 29 _ rfl) (hq 30 _ rfl) (hq 31 _ rfl) (hq 32 _ rfl) (hq 33 _ rfl) (hq 34 _ rfl) (hq 35 _ rfl) (hq 39 _ rfl) (hq 40 _ rfl) (hq 41 _ rfl) (hq 42 _ rfl) (hq 43 _ rfl) (hq 44 _ rfl) (hq 45 _ rfl) (hq 46 _ rfl) (hq 47 _ rfl) (hq 48 _ rfl) (hq 49 _ rfl) (hq 50 _ rfl) a_2_2_0 a_2_5_0 b6 b7
     have a_3_56_62 : q 56=q 62 := circleAxis_f13 (q 0) (q 1) (q 2) (q 3) (q 4) (q 5) (q 6) (q 7) (q 9) (q 10) (q 11) (q 12) (q 13) (q 14) (q 15) (q 16) (q 17) (q 18) (q 19) (q 20) (q 21) (q 22) (q 23) (q 24) (q 25) (q 26) (q 27) (q 28) (q 29) (q 30) (q 31) (q 32) (q 33) (q 34) (q 35) (q 36) (q 37) (q 38) (q 51) (q 52) (q 53) (q 54) (q 55) (q 56) (q 57) (q 58) (q 59) (q 60) (q 61) (q 62) (hq 6 _ rfl) (hq 7 _ rfl) ((hq 9 _ rfl).trans circleAxis_c9) (hq 10 _ rfl) (hq 11 _ rfl) ((hq 12 _ rfl).trans circleAxis_c12) (hq 13 _ rfl) (hq 14 _ rfl) (hq 15 _ rfl) (hq 16 _ rfl) (hq 17 _ rfl) (hq 18 _ rfl) (hq 19 _ rfl) (hq 20 _ rfl) (hq 21 _ rfl) (hq 22 _ rfl) (hq 23 _ rfl) (hq 24 _ rfl) (hq 25 _ rfl) (hq 26 _ rfl) (hq 27 _ rfl) (hq 28 _ rfl) (hq 29 _ rfl) (hq 30 _ rfl) (hq 31 _ rfl) (hq 32 _ rfl) (hq 33 _ rfl) (hq 34 _ rfl) (hq 35 _ rfl) (hq 36 _ rfl) (hq 37 _ rfl) (hq 38 _ rfl) (hq 51 _ rfl) (hq 52 _ rfl) (hq 53 _ rfl) (hq 54 _ rfl) (hq 55 _ rfl) (hq 56 _ rfl) (hq 57 _ rfl) (hq 58 _ rfl) (hq 59 _ rfl) (hq 60 _ rfl) (hq 61 _ rfl) (hq 62 _ rfl) a_2_2_0 a_2_5_0 b6 b7
     exact circleAxis_leaf circleAxis_r2 hσ hq h0 (circleAxis_An (hT a_2_2_0) (circleAxis_An (hT a_2_5_0) (circleAxis_An (hT b6) (circleAxis_An (hF b7) (circleAxis_An (hT a_3_0_3) (circleAxis_An (hF a_3_1_4) (circleAxis_An (hT b26) (circleAxis_An (hF b27) (circleAxis_An (hT b10) (circleAxis_An (hF b11) (circleAxis_An (hT a_3_44_50) (circleAxis_An (hT a_3_56_62) trivial)))))))))))) ⟨tab,mx⟩ hA
   ·
    have a_3_0_3 : ¬ (q 0=q 3) := circleAxis_f14 (q 0) (q 2) (q 3) (q 5) (q 6) (hq 6 _ rfl) a_2_2_0 a_2_5_0 b6
    have b26 : ¬ (q 26=0) := circleAxis_f15 (q 0) (q 1) (q 2) (q 3) (q 4) (q 5) (q 6) (q 7) (q 9) (q 10) (q 11) (q 12) (q 13) (q 14) (q 15) (q 16) (q 17) (q 18) (q 19) (q 20) (q 21) (q 22) (q 23) (q 24) (q 25) (q 26) (hq 6 _ rfl) (hq 7 _ rfl) ((hq 9 _ rfl).trans circleAxis_c9) (hq 10 _ rfl) (hq 11 _ rfl) ((hq 12 _ rfl).trans circleAxis_c12) (hq 13 _ rfl) (hq 14 _ rfl) (hq 15 _ rfl) (hq 16 _ rfl) (hq 17 _ rfl) (hq 18 _ rfl) (hq 19 _ rfl) (hq 20 _ rfl) (hq 21 _ rfl) (hq 22 _ rfl) (hq 23 _ rfl) (hq 24 _ rfl) (hq 25 _ rfl) (hq 26 _ rfl) a_2_2_0 a_2_5_0 b6
    have b10 : ¬ (q 10=0) := circleAxis_f16 (q 0) (q 2) (q 3) (q 5) (q 6) (q 9) (q 10) (hq 6 _ rfl) ((hq 9 _ rfl).trans circleAxis_c9) (hq 10 _ rfl) a_2_2_0 a_2_5_0 b6
    have a_3_44_50 : q 44=q 50 := circleAxis_f17 (q 0) (q 1) (q 2) (q 3) (q 4) (q 5) (q 6) (q 7) (q 9) (q 10) (q 11) (q 12) (q 13) (q 14) (q 15) (q 16) (q 17) (q 18) (q 19) (q 20) (q 21) (q 22) (q 23) (q 24) (q 25) (q 26) (q 27) (q 28) (q 29) (q 30) (q 31) (q 32) (q 33) (q 34) (q 35) (q 39) (q 40) (q 41) (q 42) (q 43) (q 44) (q 45) (q 46) (q 47) (q 48) (q 49) (q 50) (hq 6 _ rfl) (hq 7 _ rfl) ((hq 9 _ rfl).trans circleAxis_c9) (hq 10 _ rfl) (hq 11 _ rfl) ((hq 12 _ rfl).trans circleAxis_c12) (hq 13 _ rfl) (hq 14 _ rfl) (hq 15 _ rfl) (hq 16 _ rfl) (hq 17 _ rfl) (hq 18 _ rfl) (hq 19 _ rfl) (hq 20 _ rfl) (hq 21 _ rfl) (hq 22 _ rfl) (hq 23 _ rfl) (hq 24 _ rfl) (hq 25 _ rfl) (hq 26 _ rfl) (hq 27 _ rfl) (hq 28 _ rfl) (hq 29 _ rfl) (hq 30 _ rfl) (hq 31 _ rfl) (hq 32 _ rfl) (hq 33 _ rfl) (hq 34 _ rfl) (hq 35 _ rfl) (hq 39 _ rfl) (hq 40 _ rfl) (hq 41 _ rfl) (hq 42 _ rfl) (hq 43 _ rfl) (hq 44 _ rfl) (hq 45 _ rfl) (hq 46 _ rfl) (hq 47 _ rfl) (hq 48 _ rfl) (hq 49 _ rfl) (hq 50 _ rfl) a_2_2_0 a_2_5_0 b6
    have a_3_56_62 : q 56=q 62 := circleAxis_f18 (q 0) (q 1) (q 2) (q 3) (q 4) (q 5) (q 6) (q 7) (q 9) (q 10) (q 11) (q 12) (q 13) (q 14) (q 15) (q 16) (q 17) (q 18) (q 19) (q 20) (q 21) (q 22) (q 23) (q 24) (q 25) (q 26) (q 27) (q 28) (q 29) (q 30) (q 31) (q 32) (q 33) (q 34) (q 35) (q 36) (q 37) (q 38) (q 51) (q 52) (q 53) (q 54) (q 55) (q 56) (q 57) (q 58) (q 59) (q 60) (q 61) (q 62) (hq 6 _ rfl) (hq 7 _ rfl) ((hq 9 _ rfl).trans circleAxis_c9) (hq 10 _ rfl) (hq 11 _ rfl) ((hq 12 _ rfl).trans circleAxis_c12) (hq 13 _ rfl) (hq 14 _ rfl) (hq 15 _ rfl) (hq 16 _ rfl) (hq 17 _ rfl) (hq 18 _ rfl) (hq 19 _ rfl) (hq 20 _ rfl) (hq 21 _ rfl) (hq 22 _ rfl) (hq 23 _ rfl) (hq 24 _ rfl) (hq 25 _ rfl) (hq 26 _ rfl) (hq 27 _ rfl) (hq 28 _ rfl) (hq 29 _ rfl) (hq 30 _ rfl) (hq 31 _ rfl) (hq 32 _ rfl) (hq 33 _ rfl) (hq 34 _ rfl) (hq 35 _ rfl) (hq 36 _ rfl) (hq 37 _ rfl) (hq 38 _ rfl) (hq 51 _ rfl) (hq 52 _ rfl) (hq 53 _ rfl) (hq 54 _ rfl) (hq 55 _ rfl) (hq 56 _ rfl) (hq 57 _ rfl) (hq 58 _ rfl) (hq 59 _ rfl) (hq 60 _ rfl) (hq 61 _ rfl) (hq 62 _ rfl) a_2_2_0 a_2_5_0 b6
    exact circleAxis_leaf circleAxis_r3 hσ hq h0 (circleAxis_An (hT a_2_2_0) (circleAxis_An (hT a_2_5_0) (circleAxis_An (hF b6) (circleAxis_An (hF a_3_0_3) (circleAxis_An (hF b26) (circleAxis_An (hF b10) (circleAxis_An (hT a_3_44_50) (circleAxis_An (hT a_3_56_62) trivial)))))))) ⟨tab,mx⟩ hA
  ·
   exact circleAxis_leaf circleAxis_r4 hσ hq h0 (circleAxis_An (hT a_2_2_0) (circleAxis_An (hF a_2_5_0) trivial)) ⟨tab,mx⟩ hA
 ·
  exact circleAxis_leaf circleAxis_r5 hσ hq h0 (circleAxis_An (hF a_2_2_0) trivial) ⟨tab,mx⟩ hA
end Go.Proofs.YtokkoifoemoegaaGreatDoor
