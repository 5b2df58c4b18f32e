/- Part 13 of the walks and of the mathematics under them: CFturned MTQ. -/
import Derived.Test.YtcjmbkcodigpdaaGreatDoorA12
set_option maxHeartbeats 16000000
set_option maxRecDepth 100000
/- CFturned -/
namespace Go.Proofs.YtcjmbkcodigpdaaGreatDoor
open Go.RowKit Cx
theorem Zw : Closed 19 :=
 UC (N := [(0,[0,0,1]),(0,[0,1,1]),(0,[0,2,1]),(3,[2,0]),(3,[0,0]),(4,[3,3]),(4,[4,4]),(2,[5,6]),(6,[1,7]),(4,[3,8]),(4,[4,8]),(2,[0,9]),(2,[0,10]),(0,[1,2,1]),(4,[1,1]),(4,[0,0]),(2,[14,15]),(0,[0,4,1]),(4,[17,0]),(4,[18,13]),(3,[16,19]),(5,[0]),(2,[6,6]),(3,[22,1]),(5,[23]),(5,[21]),(5,[24]),(5,[1]),(4,[21,0]),(4,[25,0]),(4,[28,2]),(4,[29,2]),(4,[27,1]),(4,[21,25]),(2,[32,33]),(4,[27,21]),(4,[25,1]),(3,[35,36]),(2,[0,30]),(2,[0,31]),(2,[38,34]),(2,[39,37]),(5,[25]),(5,[42]),(4,[40,21]),(4,[41,43]),(2,[44,45]),(5,[41]),(4,[40,42]),(4,[47,21]),(3,[48,49]),(4,[21,1]),(4,[25,42]),(2,[51,52]),(4,[42,1]),(3,[33,54]),(4,[27,13]),(4,[21,13]),(4,[56,2]),(4,[57,2]),(2,[0,53]),(2,[0,55]),(2,[60,58]),(2,[61,59]),(4,[62,27]),(4,[63,42]),(2,[64,65]),(5,[63]),(4,[62,25]),(4,[67,27]),(3,[68,69]),(2,[46,66]),(2,[50,70]),(4,[26,0]),(4,[73,2]),(4,[0,1]),(4,[0,25]),(2,[75,76]),(4,[0,21]),(3,[78,51]),(2,[0,74]),(2,[80,77]),(2,[38,79]),(4,[81,21]),(4,[82,43]),(2,[83,84]),(5,[82]),(4,[81,42]),(4,[86,21]),(3,[87,88]),(4,[26,1]),(4,[21,42]),(2,[90,91]),(4,[26,25]),(3,[93,36]),(4,[0,13]),(4,[95,2]),(2,[0,92]),(2,[0,94]),(2,[97,96]),(2,[98,96]),(4,[99,27]),(4,[100,42]),(2,[101,102]),(5,[100]),(4,[99,25]),(4,[104,27]),(3,[105,106]),(2,[85,103]),(2,[89,107]),(4,[108,2]),(4,[109,2]),(4,[81,26]),(4,[82,42]),(2,[112,113]),(4,[81,25]),(4,[86,26]),(3,[115,116]),(4,[99,0]),(4,[100,25]),(2,[118,119]),(4,[99,21]),(4,[104,0]),(3,[121,122]),(2,[114,120]),(2,[117,123]),(8,[0,71,110,111,124]),(8,[1,71,110,111,124]),(8,[2,71,110,111,124]),(8,[3,71,110,111,124]),(3,[1,0]),(3,[0,1]),(4,[130,0]),(4,[131,21]),(2,[132,133]),(5,[131]),(4,[135,0]),(3,[132,136]),(5,[134]),(5,[137]),(4,[4,27]),(2,[132,140]),(5,[4]),(4,[130,1]),(4,[142,0]),(3,[143,144]),(5,[141]),(5,[145]),(5,[138]),(5,[139]),(5,[130]),(4,[146,130]),(4,[147,135]),(2,[151,152]),(5,[147]),(4,[146,131]),(4,[154,130]),(3,[155,156]),(4,[148,130]),(4,[149,142]),(2,[158,159]),(5,[149]),(4,[148,4]),(4,[161,130]),(3,[162,163]),(2,[153,160]),(2,[157,164]),(4,[146,138]),(4,[147,149]),(2,[167,168]),(4,[146,139]),(4,[154,138]),(3,[170,171]),(4,[148,146]),(4,[149,154]),(2,[173,174]),(4,[148,147]),(4,[161,146]),(3,[176,177]),(2,[169,175]),(2,[172,178]),(4,[150,130]),(4,[142,135]),(2,[181,182]),(5,[142]),(4,[150,131]),(4,[184,130]),(3,[185,186]),(4,[130,130]),(4,[131,142]),(2,[188,189]),(4,[130,4]),(4,[135,130]),(3,[191,192]),(2,[183,190]),(2,[187,193]),(4,[150,138]),(4,[142,149]),(2,[196,197]),(4,[150,139]),(4,[184,138]),(3,[199,200]),(4,[130,146]),(4,[131,154]),(2,[202,203]),(4,[130,147]),(4,[135,146]),(3,[205,206]),(2,[198,204]),(2,[201,207]),(5,[166]),(5,[210]),(4,[165,165]),(4,[166,211]),(2,[212,213]),(4,[165,210]),(4,[210,165]),(3,[215,216]),(4,[166,166]),(2,[212,218]),(6,[214,219]),(6,[217,219]),(4,[179,165]),(4,[180,211]),(2,[222,223]),(5,[180]),(4,[179,210]),(4,[225,165]),(3,[226,227]),(6,[224,219]),(6,[228,219]),(4,[194,165]),(4,[195,211]),(2,[231,232]),(5,[195]),(4,[194,210]),(4,[234,165]),(3,[235,236]),(6,[233,219]),(6,[237,219]),(4,[208,165]),(4,[209,211]),(2,[240,241]),(5,[209]),(4,[208,210]),(4,[243,165]),(3,[244,245]),(6,[242,219]),(6,[246,219]),(0,[0,1,2]),(0,[1,1,1])]) (H := [(2,1,0,1),(0,3,0,0),(2,20,0,1),(0,130,0,0),(0,4,0,1),(0,131,0,0),(0,165,0,0),(4,11,249,1),(4,12,0,1),(4,126,2,1),(4,127,250,1),(4,128,0,1),(4,129,0,1),(4,220,1,1),(4,221,0,1),(4,229,0,1),(4,230,0,1),(4,238,0,1),(4,239,0,1),(4,247,1,1),(4,248,0,1)]) (K := [(123,[.inr (3,76,0,0,0),.inr (3,86,0,0,0)]),(189,[.inr (3,560,0,0,0),.inr (3,561,0,0,0)]),(190,[.inr (3,691,0,0,0),.inr (3,693,0,0,0)])]) (L := [([48],0),([49],1),([50],2),([45,50],13),([49,47,50],249),([45,49],250)]) (C := [([49,47,50],249),([48],0),([50],2),([45,49],250),([49],1)]) (Z := [2,2,3,6,5,12,10,23,25,31,30,34,33,3,4,4,9,4,6,9,19,2,21,24,24,2,24,2,4,4,7,7,4,4,9,4,4,9,10,10,20,20,2,2,22,22,45,20,22,22,45,4,4,9,4,9,5,5,8,8,12,12,21,21,23,23,47,21,23,23,47,93,93,26,29,4,4,9,4,9,32,42,20,44,22,67,20,44,22,67,26,4,31,26,31,5,8,34,34,43,43,45,45,91,43,45,45,91,159,159,162,162,66,22,89,44,44,89,45,45,91,45,45,91,181,181,906,906,906,906,5,5,7,7,15,5,7,15,15,15,7,15,5,7,7,15,15,15,15,15,5,20,20,41,15,20,20,41,20,20,41,15,20,20,41,83,83,30,30,61,30,30,61,30,30,61,30,30,61,123,123,10,10,21,5,10,10,21,10,10,21,10,10,21,43,43,20,20,41,20,20,41,20,20,41,20,20,41,83,83,83,83,166,166,333,166,166,333,166,333,666,666,206,206,413,123,206,206,413,746,746,126,126,253,43,126,126,253,586,586,166,166,333,83,166,166,333,666,666,3,2]) (cl := []) 8 (fun _ h => by cases h) (by kernel_rfl) (by kernel_rfl) (by kernel_rfl) (by kernel_rfl) (by kernel_rfl) (by kernel_rfl) (by kernel_rfl)
end Go.Proofs.YtcjmbkcodigpdaaGreatDoor
/- MTQ -/
namespace Go.Proofs.YtcjmbkcodigpdaaGreatDoor
open Go.RowKit Cx
def turnPtolemy_N : List Nd := [(1,[0]),(1,[1]),(1,[2]),(1,[3]),(1,[4]),(1,[5]),(1,[6]),(1,[7]),(3,[2,0]),(3,[3,1]),(3,[4,0]),(3,[5,1]),(3,[4,2]),(3,[5,3]),(3,[2,4]),(3,[3,5]),(3,[6,0]),(3,[7,1]),(3,[6,2]),(3,[7,3]),(3,[6,4]),(3,[7,5]),(3,[0,4]),(3,[1,5]),(3,[2,6]),(3,[3,7]),(5,[25]),(4,[22,24]),(4,[23,26]),(2,[27,28]),(5,[23]),(4,[22,25]),(4,[30,24]),(3,[31,32]),(3,[0,6]),(3,[1,7]),(5,[15]),(4,[34,14]),(4,[35,36]),(2,[37,38]),(5,[35]),(4,[34,15]),(4,[40,14]),(3,[41,42]),(5,[43]),(5,[44]),(4,[29,39]),(4,[33,45]),(2,[46,47]),(5,[33]),(4,[29,44]),(4,[49,39]),(3,[50,51]),(4,[39,39]),(4,[43,43]),(2,[53,54]),(6,[48,55]),(6,[52,55]),(3,[0,2]),(3,[1,3]),(3,[4,6]),(3,[5,7]),(5,[61]),(4,[58,60]),(4,[59,62]),(2,[63,64]),(5,[59]),(4,[58,61]),(4,[66,60]),(3,[67,68]),(5,[13]),(4,[34,12]),(4,[35,70]),(2,[71,72]),(4,[34,13]),(4,[40,12]),(3,[74,75]),(5,[76]),(5,[77]),(4,[65,73]),(4,[69,78]),(2,[79,80]),(5,[69]),(4,[65,77]),(4,[82,73]),(3,[83,84]),(4,[73,73]),(4,[76,76]),(2,[86,87]),(6,[81,88]),(6,[85,88]),(2,[56,89]),(2,[57,90]),(0,[0,1,1]),(0,[0,0,1]),(3,[91,93]),(3,[92,94])]
def Zk : List (List Nat × Nat) := []
def Zj : List (List Nat × Nat) := []
def QY : List Nat := [4194309,4194309,4194309,4194309,4194309,4194309,4194309,4194309,8388619,8388619,8388619,8388619,8388619,8388619,8388619,8388619,8388619,8388619,8388619,8388619,8388619,8388619,8388619,8388619,8388619,8388619,8388619,16777238,16777238,33554477,8388619,16777238,16777238,33554477,8388619,8388619,8388619,16777238,16777238,33554477,8388619,16777238,16777238,33554477,33554477,33554477,67108954,67108954,134217909,33554477,67108954,67108954,134217909,67108954,67108954,134217909,268435818,268435818,8388619,8388619,8388619,8388619,8388619,16777238,16777238,33554477,8388619,16777238,16777238,33554477,8388619,16777238,16777238,33554477,16777238,16777238,33554477,33554477,33554477,67108954,67108954,134217909,33554477,67108954,67108954,134217909,67108954,67108954,134217909,268435818,268435818,536871637,536871637,2,2,536871640,536871640]
theorem Uj : wfB 0 turnPtolemy_N=true := by kernel_rfl
theorem Tp : szB QY turnPtolemy_N QY=true := by kernel_rfl
theorem Tq : FV turnPtolemy_N Zk=true := by kernel_rfl
theorem KG : Sh turnPtolemy_N Zj=true := by kernel_rfl
theorem RO : cst 0 1 1=(1 : Rat) := by decide +kernel
theorem RW : cst 0 0 1=(0 : Rat) := by decide +kernel
def ZD : List AV := [(false,[(true,[.inr (2,0,0,0,0),.inr (2,1,0,0,0)])]),(false,[(true,[.inr (2,2,0,0,0),.inr (2,3,0,0,0)])]),(false,[(true,[.inr (2,4,0,0,0),.inr (2,5,0,0,0)])]),(false,[(true,[.inr (2,6,0,0,0),.inr (2,7,0,0,0)])])]
theorem Tu (z0 z1 z2 z3 z4 z5 z8 z9 z10 z11 z12 z13 z14 : Rat) : z8=z2-z0→z9=z3-z1→z10=z4-z0→z11=z5-z1→z12=z4-z2→z13=z5-z3→z14=z2-z4→(¬ (z8=0∧z9=0))→(¬ (z10=0∧z11=0))→(z12=0∧z13=0)→z14=0 := by
 intro e8 e9 e10 e11 e12 e13 e14 u0 u1 u2
 rw [u2.1] at e12
 rw [u2.2] at e13
 subst_vars; grind
theorem Tn (z0 z1 z2 z3 z4 z5 z8 z9 z10 z11 z12 z13 z15 : Rat) : z8=z2-z0→z9=z3-z1→z10=z4-z0→z11=z5-z1→z12=z4-z2→z13=z5-z3→z15=z3-z5→(¬ (z8=0∧z9=0))→(¬ (z10=0∧z11=0))→(z12=0∧z13=0)→z15=0 := by
 intro e8 e9 e10 e11 e12 e13 e15 u0 u1 u2
 rw [u2.1] at e12
 rw [u2.2] at e13
 subst_vars; grind
theorem TI (z0 z1 z2 z3 z4 z5 z6 z7 z8 z9 z10 z11 z12 z13 z14 z15 z16 z17 : Rat) : z8=z2-z0→z9=z3-z1→z10=z4-z0→z11=z5-z1→z12=z4-z2→z13=z5-z3→z14=z2-z4→z15=z3-z5→z16=z6-z0→z17=z7-z1→(¬ (z8=0∧z9=0))→(¬ (z10=0∧z11=0))→(¬ (z12=0∧z13=0))→(z16=0∧z17=0)→¬ (z14=0∧z15=0) := by
 intro e8 e9 e10 e11 e12 e13 e14 e15 e16 e17 u0 u1 u2 u3
 rw [u3.1] at e16
 rw [u3.2] at e17
 subst_vars; grind
theorem Kd (z0 z1 z2 z3 z4 z5 z6 z7 z8 z9 z10 z11 z12 z13 z14 z15 z16 z17 z18 z19 : Rat) : z8=z2-z0→z9=z3-z1→z10=z4-z0→z11=z5-z1→z12=z4-z2→z13=z5-z3→z14=z2-z4→z15=z3-z5→z16=z6-z0→z17=z7-z1→z18=z6-z2→z19=z7-z3→(¬ (z8=0∧z9=0))→(¬ (z10=0∧z11=0))→(¬ (z12=0∧z13=0))→(¬ (z16=0∧z17=0))→(z18=0∧z19=0)→¬ (z14=0∧z15=0) := by
 intro e8 e9 e10 e11 e12 e13 e14 e15 e16 e17 e18 e19 u0 u1 u2 u3 u4
 rw [u4.1] at e18
 rw [u4.2] at e19
 subst_vars; grind
theorem Kq (z0 z1 z2 z3 z4 z5 z6 z7 z8 z9 z10 z11 z12 z13 z16 z17 z18 z19 z20 z21 : Rat) : z8=z2-z0→z9=z3-z1→z10=z4-z0→z11=z5-z1→z12=z4-z2→z13=z5-z3→z16=z6-z0→z17=z7-z1→z18=z6-z2→z19=z7-z3→z20=z6-z4→z21=z7-z5→(¬ (z8=0∧z9=0))→(¬ (z10=0∧z11=0))→(¬ (z12=0∧z13=0))→(¬ (z16=0∧z17=0))→(z18=0∧z19=0)→¬ (z20=0∧z21=0) := by
 intro e8 e9 e10 e11 e12 e13 e16 e17 e18 e19 e20 e21 u0 u1 u2 u3 u4
 rw [u4.1] at e18
 rw [u4.2] at e19
 subst_vars; grind
theorem KF (z0 z1 z2 z3 z4 z5 z6 z7 z8 z9 z10 z11 z12 z13 z14 z15 z16 z17 z18 z19 z20 z21 : Rat) : z8=z2-z0→z9=z3-z1→z10=z4-z0→z11=z5-z1→z12=z4-z2→z13=z5-z3→z14=z2-z4→z15=z3-z5→z16=z6-z0→z17=z7-z1→z18=z6-z2→z19=z7-z3→z20=z6-z4→z21=z7-z5→(¬ (z8=0∧z9=0))→(¬ (z10=0∧z11=0))→(¬ (z12=0∧z13=0))→(¬ (z16=0∧z17=0))→(¬ (z18=0∧z19=0))→(z20=0∧z21=0)→¬ (z14=0∧z15=0) := by
 intro e8 e9 e10 e11 e12 e13 e14 e15 e16 e17 e18 e19 e20 e21 u0 u1 u2 u3 u4 u5
 rw [u5.1] at e20
 rw [u5.2] at e21
 subst_vars; grind
theorem TU (z0 z1 z2 z3 z4 z5 z6 z7 z8 z9 z10 z11 z12 z13 z14 z15 z16 z17 z18 z19 z20 z21 : Rat) : z8=z2-z0→z9=z3-z1→z10=z4-z0→z11=z5-z1→z12=z4-z2→z13=z5-z3→z14=z2-z4→z15=z3-z5→z16=z6-z0→z17=z7-z1→z18=z6-z2→z19=z7-z3→z20=z6-z4→z21=z7-z5→(¬ (z8=0∧z9=0))→(¬ (z10=0∧z11=0))→(¬ (z12=0∧z13=0))→(¬ (z16=0∧z17=0))→(¬ (z18=0∧z19=0))→(¬ (z20=0∧z21=0))→¬ (z14=0∧z15=0) := by
 intro e8 e9 e10 e11 e12 e13 e14 e15 e16 e17 e18 e19 e20 e21 u0 u1 u2 u3 u4 u5
 subst_vars; grind
theorem KR (z0 z1 z2 z3 z4 z5 z6 z7 z8 z9 z10 z11 z12 z13 z14 z15 z16 z17 z18 z19 z20 z21 z22 z23 z24 z25 z26 z27 z28 z29 z30 z31 z32 z33 z34 z35 z36 z37 z38 z39 z40 z41 z42 z43 z44 z45 z46 z47 z48 z53 z54 z55 z56 z58 z59 z60 z61 z62 z63 z64 z65 z66 z67 z68 z69 z70 z71 z72 z73 z74 z75 z76 z77 z78 z79 z80 z81 z86 z87 z88 z89 z91 z93 z95 : Rat) : z8=z2-z0→z9=z3-z1→z10=z4-z0→z11=z5-z1→z12=z4-z2→z13=z5-z3→z14=z2-z4→z15=z3-z5→z16=z6-z0→z17=z7-z1→z18=z6-z2→z19=z7-z3→z20=z6-z4→z21=z7-z5→z22=z0-z4→z23=z1-z5→z24=z2-z6→z25=z3-z7→z26=-z25→z27=z22*z24→z28=z23*z26→z29=z27+z28→z30=-z23→z31=z22*z25→z32=z30*z24→z33=z31-z32→z34=z0-z6→z35=z1-z7→z36=-z15→z37=z34*z14→z38=z35*z36→z39=z37+z38→z40=-z35→z41=z34*z15→z42=z40*z14→z43=z41-z42→z44=-z43→z45=-z44→z46=z29*z39→z47=z33*z45→z48=z46+z47→z53=z39*z39→z54=z43*z43→z55=z53+z54→z56=z48/z55→z58=z0-z2→z59=z1-z3→z60=z4-z6→z61=z5-z7→z62=-z61→z63=z58*z60→z64=z59*z62→z65=z63+z64→z66=-z59→z67=z58*z61→z68=z66*z60→z69=z67-z68→z70=-z13→z71=z34*z12→z72=z35*z70→z73=z71+z72→z74=z34*z13→z75=z40*z12→z76=z74-z75→z77=-z76→z78=-z77→z79=z65*z73→z80=z69*z78→z81=z79+z80→z86=z73*z73→z87=z76*z76→z88=z86+z87→z89=z81/z88→z91=z56+z89→z93=1→z95=z91-z93→(¬ (z8=0∧z9=0))→(¬ (z10=0∧z11=0))→(¬ (z12=0∧z13=0))→(¬ (z16=0∧z17=0))→(¬ (z18=0∧z19=0))→(¬ (z20=0∧z21=0))→z95=0 := by
 intro e8 e9 e10 e11 e12 e13 e14 e15 e16 e17 e18 e19 e20 e21 e22 e23 e24 e25 e26 e27 e28 e29 e30 e31 e32 e33 e34 e35 e36 e37 e38 e39 e40 e41 e42 e43 e44 e45 e46 e47 e48 e53 e54 e55 e56 e58 e59 e60 e61 e62 e63 e64 e65 e66 e67 e68 e69 e70 e71 e72 e73 e74 e75 e76 e77 e78 e79 e80 e81 e86 e87 e88 e89 e91 e93 e95 u0 u1 u2 u3 u4 u5
 have n55 : z55 ≠ 0 := by
  have hp := Xs (x := z39) (y := z43) (Ii (a := z34) (b := z35) (c := z14) (d := z15) (by grind) (by grind) (by grind) (by grind))
  grind
 have n88 : z88 ≠ 0 := by
  have hp := Xs (x := z73) (y := z76) (Ii (a := z34) (b := z35) (c := z12) (d := z13) (by grind) (by grind) (by grind) (by grind))
  grind
 have w55 : z55 ≠ 0 := n55
 have w88 : z88 ≠ 0 := n88
 have h56 : z56*z55=z48 := by rw [e56]; exact Rat.div_mul_cancel n55
 obtain ⟨m56,hm56⟩ : ∃ m,m=z48 := ⟨_,rfl⟩
 have d56 : z56*z55=m56 := by
  have q : z56*z55=z56*z55 := by grind
  rw [q,h56,hm56]
 clear h56 e56
 have h89 : z89*z88=z81 := by rw [e89]; exact Rat.div_mul_cancel n88
 obtain ⟨m89,hm89⟩ : ∃ m,m=z81 := ⟨_,rfl⟩
 have d89 : z89*z88=m89 := by
  have q : z89*z88=z89*z88 := by grind
  rw [q,h89,hm89]
 clear h89 e89
 obtain ⟨m91,hm91⟩ : ∃ m,m=m56*z88+m89*z55 := ⟨_,rfl⟩
 have d91 : z91*(z55*z88)=m91 := by
  have q : z91*(z55*z88)=(z56*z55)*z88+(z89*z88)*z55 := by rw [e91]; grind
  rw [q,d56,d89,hm91]
 clear e91
 obtain ⟨m95,hm95⟩ : ∃ m,m=m91*1 - z93*(z55*z88) := ⟨_,rfl⟩
 have d95 : z95*(z55*z88)=m95 := by
  have q : z95*(z55*z88)=(z91*(z55*z88))*1 - z93*(z55*z88) := by rw [e95]; grind
  rw [q,d91,hm95]
 clear e95
 have hpoly : m95=0 := by
  clear d56 d89 d91 d95
  have c2 : z2=z8+z0 := by rw [e8]; grind
  clear e8
  subst c2
  have c4 : z4=z10+z0 := by rw [e10]; grind
  clear e10
  subst c4
  have c6 : z6=z16+z0 := by rw [e16]; grind
  clear e16
  subst c6
  have c3 : z3=z9+z1 := by rw [e9]; grind
  clear e9
  subst c3
  have c5 : z5=z11+z1 := by rw [e11]; grind
  clear e11
  subst c5
  have c7 : z7=z17+z1 := by rw [e17]; grind
  clear e17
  subst c7
  subst_vars; grind
 have hgoal : z95=0 := (Rat.mul_eq_zero.1 (d95.trans hpoly)).resolve_right (Dk w55 w88)
 exact hgoal
theorem KA (z0 z1 z2 z3 z4 z5 z6 z7 z8 z9 z10 z11 z12 z13 z14 z15 z16 z17 z18 z19 z20 z21 z22 z23 z24 z25 z26 z27 z28 z29 z30 z31 z32 z33 z34 z35 z36 z37 z38 z39 z40 z41 z42 z43 z44 z49 z50 z51 z52 z53 z54 z55 z57 z58 z59 z60 z61 z62 z63 z64 z65 z66 z67 z68 z69 z70 z71 z72 z73 z74 z75 z76 z77 z82 z83 z84 z85 z86 z87 z88 z90 z92 z94 z96 : Rat) : z8=z2-z0→z9=z3-z1→z10=z4-z0→z11=z5-z1→z12=z4-z2→z13=z5-z3→z14=z2-z4→z15=z3-z5→z16=z6-z0→z17=z7-z1→z18=z6-z2→z19=z7-z3→z20=z6-z4→z21=z7-z5→z22=z0-z4→z23=z1-z5→z24=z2-z6→z25=z3-z7→z26=-z25→z27=z22*z24→z28=z23*z26→z29=z27+z28→z30=-z23→z31=z22*z25→z32=z30*z24→z33=z31-z32→z34=z0-z6→z35=z1-z7→z36=-z15→z37=z34*z14→z38=z35*z36→z39=z37+z38→z40=-z35→z41=z34*z15→z42=z40*z14→z43=z41-z42→z44=-z43→z49=-z33→z50=z29*z44→z51=z49*z39→z52=z50-z51→z53=z39*z39→z54=z43*z43→z55=z53+z54→z57=z52/z55→z58=z0-z2→z59=z1-z3→z60=z4-z6→z61=z5-z7→z62=-z61→z63=z58*z60→z64=z59*z62→z65=z63+z64→z66=-z59→z67=z58*z61→z68=z66*z60→z69=z67-z68→z70=-z13→z71=z34*z12→z72=z35*z70→z73=z71+z72→z74=z34*z13→z75=z40*z12→z76=z74-z75→z77=-z76→z82=-z69→z83=z65*z77→z84=z82*z73→z85=z83-z84→z86=z73*z73→z87=z76*z76→z88=z86+z87→z90=z85/z88→z92=z57+z90→z94=0→z96=z92-z94→(¬ (z8=0∧z9=0))→(¬ (z10=0∧z11=0))→(¬ (z12=0∧z13=0))→(¬ (z16=0∧z17=0))→(¬ (z18=0∧z19=0))→(¬ (z20=0∧z21=0))→z96=0 := by
 intro e8 e9 e10 e11 e12 e13 e14 e15 e16 e17 e18 e19 e20 e21 e22 e23 e24 e25 e26 e27 e28 e29 e30 e31 e32 e33 e34 e35 e36 e37 e38 e39 e40 e41 e42 e43 e44 e49 e50 e51 e52 e53 e54 e55 e57 e58 e59 e60 e61 e62 e63 e64 e65 e66 e67 e68 e69 e70 e71 e72 e73 e74 e75 e76 e77 e82 e83 e84 e85 e86 e87 e88 e90 e92 e94 e96 u0 u1 u2 u3 u4 u5
 have n55 : z55 ≠ 0 := by
  have hp := Xs (x := z39) (y := z43) (Ii (a := z34) (b := z35) (c := z14) (d := z15) (by grind) (by grind) (by grind) (by grind))
  grind
 have n88 : z88 ≠ 0 := by
  have hp := Xs (x := z73) (y := z76) (Ii (a := z34) (b := z35) (c := z12) (d := z13) (by grind) (by grind) (by grind) (by grind))
  grind
 have w55 : z55 ≠ 0 := n55
 have w88 : z88 ≠ 0 := n88
 have h57 : z57*z55=z52 := by rw [e57]; exact Rat.div_mul_cancel n55
 obtain ⟨m57,hm57⟩ : ∃ m,m=z52 := ⟨_,rfl⟩
 have d57 : z57*z55=m57 := by
  have q : z57*z55=z57*z55 := by grind
  rw [q,h57,hm57]
 clear h57 e57
 have h90 : z90*z88=z85 := by rw [e90]; exact Rat.div_mul_cancel n88
 obtain ⟨m90,hm90⟩ : ∃ m,m=z85 := ⟨_,rfl⟩
 have d90 : z90*z88=m90 := by
  have q : z90*z88=z90*z88 := by grind
  rw [q,h90,hm90]
 clear h90 e90
 obtain ⟨m92,hm92⟩ : ∃ m,m=m57*z88+m90*z55 := ⟨_,rfl⟩
 have d92 : z92*(z55*z88)=m92 := by
  have q : z92*(z55*z88)=(z57*z55)*z88+(z90*z88)*z55 := by rw [e92]; grind
  rw [q,d57,d90,hm92]
 clear e92
 obtain ⟨m96,hm96⟩ : ∃ m,m=m92*1 - z94*(z55*z88) := ⟨_,rfl⟩
 have d96 : z96*(z55*z88)=m96 := by
  have q : z96*(z55*z88)=(z92*(z55*z88))*1 - z94*(z55*z88) := by rw [e96]; grind
  rw [q,d92,hm96]
 clear e96
 have hpoly : m96=0 := by
  clear d57 d90 d92 d96
  have c2 : z2=z8+z0 := by rw [e8]; grind
  clear e8
  subst c2
  have c4 : z4=z10+z0 := by rw [e10]; grind
  clear e10
  subst c4
  have c6 : z6=z16+z0 := by rw [e16]; grind
  clear e16
  subst c6
  have c3 : z3=z9+z1 := by rw [e9]; grind
  clear e9
  subst c3
  have c5 : z5=z11+z1 := by rw [e11]; grind
  clear e11
  subst c5
  have c7 : z7=z17+z1 := by rw [e17]; grind
  clear e17
  subst c7
  subst_vars; grind
 have hgoal : z96=0 := (Rat.mul_eq_zero.1 (d96.trans hpoly)).resolve_right (Dk w55 w88)
 exact hgoal
theorem Kf : (JB (sx Tryz.prog turnPtolemy_N [(6,8,9,1),(6,10,11,1)] [] Zk Zj QY (prQ [19])) 5 5 ZD [] 0).map (·.1)=some (kB true) := by kernel_rfl
theorem Kl : (JB (sx Tryz.prog turnPtolemy_N [(6,8,9,1),(6,10,11,0)] [] Zk Zj QY (prQ [19])) 5 5 ZD [] 0).map (·.1)=some (kB true) := by kernel_rfl
theorem Kc : (JB (sx Tryz.prog turnPtolemy_N [(6,8,9,0),(6,10,11,1)] [] Zk Zj QY (prQ [19])) 5 5 ZD [] 0).map (·.1)=some (kB true) := by kernel_rfl
theorem Kx : (JB (sx Tryz.prog turnPtolemy_N [(6,8,9,0),(6,10,11,0),(6,12,13,1),(6,14,15,1)] [] Zk Zj QY (prQ [19])) 5 5 ZD [] 0).map (·.1)=some (kB true) := by kernel_rfl
theorem KH : (JB (sx Tryz.prog turnPtolemy_N [(6,8,9,0),(6,10,11,0),(6,12,13,0),(6,16,17,1),(6,14,15,0)] [] Zk Zj QY (prQ [19])) 5 5 ZD [] 0).map (·.1)=some (kB true) := by kernel_rfl
theorem To : (JB (sx Tryz.prog turnPtolemy_N [(6,8,9,0),(6,10,11,0),(6,12,13,0),(6,16,17,0),(6,18,19,1),(6,14,15,0),(6,20,21,0)] [] Zk Zj QY (prQ [19])) 5 5 ZD [] 0).map (·.1)=some (kB true) := by kernel_rfl
theorem KJ : (JB (sx Tryz.prog turnPtolemy_N [(6,8,9,0),(6,10,11,0),(6,12,13,0),(6,16,17,0),(6,18,19,0),(6,20,21,1),(6,14,15,0)] [] Zk Zj QY (prQ [19])) 5 5 ZD [] 0).map (·.1)=some (kB true) := by kernel_rfl
theorem Ko : (JB (sx Tryz.prog turnPtolemy_N [(6,8,9,0),(6,10,11,0),(6,12,13,0),(6,16,17,0),(6,18,19,0),(6,20,21,0),(6,14,15,0),(6,95,96,1)] [(74,[.inr (3,17,0,0,0)]),(74,[.inr (3,130,0,0,0)])] Zk Zj QY (prQ [19])) 6 5 ZD [] 0).map (·.1)=some (kB true) := by kernel_rfl
theorem Qi {a b : Prop} (x : a) (y : b) : a∧b := ⟨x,y⟩
theorem Zg {H : List (Nat × Nat × Nat × Nat)} {K : List (FuncId × List AC)} {k : Nat} {q : Nat→Rat} {σ : Nat→ByteArray} {args : List AV} {vs : List Value} {w : World} (hr : (JB (sx Tryz.prog turnPtolemy_N H K Zk Zj QY (prQ [19])) k 5 args [] 0).map (·.1)=some (kB true)) (hσ : ∀ j,(σ j).size≤1048576) (hq : ∀ (a : Nat) nd,turnPtolemy_N[a]? = some nd→q a=Jj σ q nd) (h0 : ∀ a,turnPtolemy_N.length≤a→q a=0) (hH : XM q H) (hp : QK w) (hA : ∀ K,A2 (avOn (cOn (evS q σ) K (fun _ => none) w)) args vs) : Calls Tryz.prog 5 vs.toArray w fun e w' => Below w.heap.size w w'∧e=.returned (.bool true) :=
 Ms k (Af hσ Uj Tp Tq KG hq h0 hH) (by simp [Zw]) (by kernel_rfl) hr hp (hA K)
theorem II {w : World} {ax az bx bz cx cz dx dz : ByteArray}  (sax : ax.size≤1048576) (saz : az.size≤1048576) (sbx : bx.size≤1048576) (sbz : bz.size≤1048576) (scx : cx.size≤1048576) (scz : cz.size≤1048576) (sdx : dx.size≤1048576) (sdz : dz.size≤1048576) (tab : Tab w) (mx : MaxL w) :
  Calls Tryz.prog 5 #[.agg #[.string ax,.string az],.agg #[.string bx,.string bz],.agg #[.string cx,.string cz],.agg #[.string dx,.string dz]] w fun e w' => Below w.heap.size w w'∧e=.returned (.bool true) := by
 have hσ : ∀ j,(TT [ax,az,bx,bz,cx,cz,dx,dz] j).size≤1048576 := It (by simp [sax,saz,sbx,sbz,scx,scz,sdx,sdz])
 obtain ⟨q,hq,h0⟩ := Um (TT [ax,az,bx,bz,cx,cz,dx,dz]) turnPtolemy_N Uj
 have hA : ∀ K,A2 (avOn (cOn (evS q (TT [ax,az,bx,bz,cx,cz,dx,dz])) K (fun _ => none) w)) [(false,[(true,[.inr (2,0,0,0,0),.inr (2,1,0,0,0)])]),(false,[(true,[.inr (2,2,0,0,0),.inr (2,3,0,0,0)])]),(false,[(true,[.inr (2,4,0,0,0),.inr (2,5,0,0,0)])]),(false,[(true,[.inr (2,6,0,0,0),.inr (2,7,0,0,0)])])] [.agg #[.string ax,.string az],.agg #[.string bx,.string bz],.agg #[.string cx,.string cz],.agg #[.string dx,.string dz]] := fun K => ⟨⟨⟨[.string ax,.string az],rfl,rfl,rfl,trivial⟩,trivial⟩,⟨⟨[.string bx,.string bz],rfl,rfl,rfl,trivial⟩,trivial⟩,⟨⟨[.string cx,.string cz],rfl,rfl,rfl,trivial⟩,trivial⟩,⟨⟨[.string dx,.string dz],rfl,rfl,rfl,trivial⟩,trivial⟩,trivial⟩
 by_cases a_6_8_9 : q 8=0∧q 9=0
 ·
  by_cases a_6_10_11 : q 10=0∧q 11=0
  ·
   exact Zg Kf hσ hq h0 (Qi (hT a_6_8_9) (Qi (hT a_6_10_11) trivial)) ⟨tab,mx⟩ hA
  ·
   exact Zg Kl hσ hq h0 (Qi (hT a_6_8_9) (Qi (hF a_6_10_11) trivial)) ⟨tab,mx⟩ hA
 ·
  by_cases a_6_10_11 : q 10=0∧q 11=0
  ·
   exact Zg Kc hσ hq h0 (Qi (hF a_6_8_9) (Qi (hT a_6_10_11) trivial)) ⟨tab,mx⟩ hA
  ·
   by_cases a_6_12_13 : q 12=0∧q 13=0
   ·
    have a_6_14_15 : q 14=0∧q 15=0 := And.intro (Tu (q 0) (q 1) (q 2) (q 3) (q 4) (q 5) (q 8) (q 9) (q 10) (q 11) (q 12) (q 13) (q 14) (hq 8 _ rfl) (hq 9 _ rfl) (hq 10 _ rfl) (hq 11 _ rfl) (hq 12 _ rfl) (hq 13 _ rfl) (hq 14 _ rfl) a_6_8_9 a_6_10_11 a_6_12_13) (Tn (q 0) (q 1) (q 2) (q 3) (q 4) (q 5) (q 8) (q 9) (q 10) (q 11) (q 12) (q 13) (q 15) (hq 8 _ rfl) (hq 9 _ rfl) (hq 10 _ rfl) (hq 11 _ rfl) (hq 12 _ rfl) (hq 13 _ rfl) (hq 15 _ rfl) a_6_8_9 a_6_10_11 a_6_12_13)
    exact Zg Kx hσ hq h0 (Qi (hF a_6_8_9) (Qi (hF a_6_10_11) (Qi (hT a_6_12_13) (Qi (hT a_6_14_15) trivial)))) ⟨tab,mx⟩ hA
   ·
    by_cases a_6_16_17 : q 16=0∧q 17=0
    ·
     have a_6_14_15 : ¬ (q 14=0∧q 15=0) := TI (q 0) (q 1) (q 2) (q 3) (q 4) (q 5) (q 6) (q 7) (q 8) (q 9) (q 10) (q 11) (q 12) (q 13) (q 14) (q 15) (q 16) (q 17) (hq 8 _ rfl) (hq 9 _ rfl) (hq 10 _ rfl) (hq 11 _ rfl) (hq 12 _ rfl) (hq 13 _ rfl) (hq 14 _ rfl) (hq 15 _ rfl) (hq 16 _ rfl) (hq 17 _ rfl) a_6_8_9 a_6_10_11 a_6_12_13 a_6_16_17
     exact Zg KH hσ hq h0 (Qi (hF a_6_8_9) (Qi (hF a_6_10_11) (Qi (hF a_6_12_13) (Qi (hT a_6_16_17) (Qi (hF a_6_14_15) trivial))))) ⟨tab,mx⟩ hA
    ·
     by_cases a_6_18_19 : q 18=0∧q 19=0
     ·
      have a_6_14_15 : ¬ (q 14=0∧q 15=0) := Kd (q 0) (q 1) (q 2) (q 3) (q 4) (q 5) (q 6) (q 7) (q 8) (q 9) (q 10) (q 11) (q 12) (q 13) (q 14) (q 15) (q 16) (q 17) (q 18) (q 19) (hq 8 _ rfl) (hq 9 _ rfl) (hq 10 _ rfl) (hq 11 _ rfl) (hq 12 _ rfl) (hq 13 _ rfl) (hq 14 _ rfl) (hq 15 _ rfl) (hq 16 _ rfl) (hq 17 _ rfl) (hq 18 _ rfl) (hq 19 _ rfl) a_6_8_9 a_6_10_11 a_6_12_13 a_6_16_17 a_6_18_19
      have a_6_20_21 : ¬ (q 20=0∧q 21=0) := Kq (q 0) (q 1) (q 2) (q 3) (q 4) (q 5) (q 6) (q 7) (q 8) (q 9) (q 10) (q 11) (q 12) (q 13) (q 16) (q 17) (q 18) (q 19) (q 20) (q 21) (hq 8 _ rfl) (hq 9 _ rfl) (hq 10 _ rfl) (hq 11 _ rfl) (hq 12 _ rfl) (hq 13 _ rfl) (hq 16 _ rfl) (hq 17 _ rfl) (hq 18 _ rfl) (hq 19 _ rfl) (hq 20 _ rfl) (hq 21 _ rfl) a_6_8_9 a_6_10_11 a_6_12_13 a_6_16_17 a_6_18_19
      exact Zg To hσ hq h0 (Qi (hF a_6_8_9) (Qi (hF a_6_10_11) (Qi (hF a_6_12_13) (Qi (hF a_6_16_17) (Qi (hT a_6_18_19) (Qi (hF a_6_14_15) (Qi (hF a_6_20_21) trivial))))))) ⟨tab,mx⟩ hA
     ·
      by_cases a_6_20_21 : q 20=0∧q 21=0
      ·
       have a_6_14_15 : ¬ (q 14=0∧q 15=0) := KF (q 0) (q 1) (q 2) (q 3) (q 4) (q 5) (q 6) (q 7) (q 8) (q 9) (q 10) (q 11) (q 12) (q 13) (q 14) (q 15) (q 16) (q 17) (q 18) (q 19) (q 20) (q 21) (hq 8 _ rfl) (hq 9 _ rfl) (hq 10 _ rfl) (hq 11 _ rfl) (hq 12 _ rfl) (hq 13 _ rfl) (hq 14 _ rfl) (hq 15 _ rfl) (hq 16 _ rfl) (hq 17 _ rfl) (hq 18 _ rfl) (hq 19 _ rfl) (hq 20 _ rfl) (hq 21 _ rfl) a_6_8_9 a_6_10_11 a_6_12_13 a_6_16_17 a_6_18_19 a_6_20_21
       exact Zg KJ hσ hq h0 (Qi (hF a_6_8_9) (Qi (hF a_6_10_11) (Qi (hF a_6_12_13) (Qi (hF a_6_16_17) (Qi (hF a_6_18_19) (Qi (hT a_6_20_21) (Qi (hF a_6_14_15) trivial))))))) ⟨tab,mx⟩ hA
      ·
       have a_6_14_15 : ¬ (q 14=0∧q 15=0) := TU (q 0) (q 1) (q 2) (q 3) (q 4) (q 5) (q 6) (q 7) (q 8) (q 9) (q 10) (q 11) (q 12) (q 13) (q 14) (q 15) (q 16) (q 17) (q 18) (q 19) (q 20) (q 21) (hq 8 _ rfl) (hq 9 _ rfl) (hq 10 _ rfl) (hq 11 _ rfl) (hq 12 _ rfl) (hq 13 _ rfl) (hq 14 _ rfl) (hq 15 _ rfl) (hq 16 _ rfl) (hq 17 _ rfl) (hq 18 _ rfl) (hq 19 _ rfl) (hq 20 _ rfl) (hq 21 _ rfl) a_6_8_9 a_6_10_11 a_6_12_13 a_6_16_17 a_6_18_19 a_6_20_21
       have a_6_95_96 : q 95=0∧q 96=0 := And.intro (KR (q 0) (q 1) (q 2) (q 3) (q 4) (q 5) (q 6) (q 7) (q 8) (q 9) (q 10) (q 11) (q 12) (q 13) (q 14) (q 15) (q 16) (q 17) (q 18) (q 19) (q 20) (q 21) (q 22) (q 23) (q 24) (q 25) (q 26) (q 27) (q 28) (q 29) (q 30) (q 31) (q 32) (q 33) (q 34) (q 35) (q 36) (q 37) (q 38) (q 39) (q 40) (q 41) (q 42) (q 43) (q 44) (q 45) (q 46) (q 47) (q 48) (q 53) (q 54) (q 55) (q 56) (q 58) (q 59) (q 60) (q 61) (q 62) (q 63) (q 64) (q 65) (q 66) (q 67) (q 68) (q 69) (q 70) (q 71) (q 72) (q 73) (q 74) (q 75) (q 76) (q 77) (q 78) (q 79) (q 80) (q 81) (q 86) (q 87) (q 88) (q 89) (q 91) (q 93) (q 95) (hq 8 _ rfl) (hq 9 _ rfl) (hq 10 _ rfl) (hq 11 _ rfl) (hq 12 _ rfl) (hq 13 _ rfl) (hq 14 _ rfl) (hq 15 _ rfl) (hq 16 _ rfl) (hq 17 _ rfl) (hq 18 _ rfl) (hq 19 _ rfl) (hq 20 _ rfl) (hq 21 _ rfl) (hq 22 _ rfl) (hq 23 _ rfl) (hq 24 _ rfl) (hq 25 _ rfl) (hq 26 _ rfl) (hq 27 _ rfl) (hq 28 _ rfl) (hq 29 _ rfl) (hq 30 _ rfl) (hq 31 _ rfl) (hq 32 _ rfl) (hq 33 _ rfl) (hq 34 _ rfl) (hq 35 _ rfl) (hq 36 _ rfl) (hq 37 _ rfl) (hq 38 _ rfl) (hq 39 _ rfl) (hq 40 _ rfl) (hq 41 _ rfl) (hq 42 _ rfl) (hq 43 _ rfl) (hq 44 _ rfl) (hq 45 _ rfl) (hq 46 _ rfl) (hq 47 _ rfl) (hq 48 _ rfl) (hq 53 _ rfl) (hq 54 _ rfl) (hq 55 _ rfl) (hq 56 _ rfl) (hq 58 _ rfl) (hq 59 _ rfl) (hq 60 _ rfl) (hq 61 _ rfl) (hq 62 _ rfl) (hq 63 _ rfl) (hq 64 _ rfl) (hq 65 _ rfl) (hq 66 _ rfl) (hq 67 _ rfl) (hq 68 _ rfl) (hq 69 _ rfl) (hq 70 _ rfl) (hq 71 _ rfl) (hq 72 _ rfl) (hq 73 _ rfl) (hq 74 _ rfl) (hq 75 _ rfl) (hq 76 _ rfl) (hq 77 _ rfl) (hq 78 _ rfl) (hq 79 _ rfl) (hq 80 _ rfl) (hq 81 _ rfl) (hq 86 _ rfl) (hq 87 _ rfl) (hq 88 _ rfl) (hq 89 _ rfl) (hq 91 _ rfl) ((hq 93 _ rfl).trans RO) (hq 95 _ rfl) a_6_8_9 a_6_10_11 a_6_12_13 a_6_16_17 a_6_18_19 a_6_20_21) (KA (q 0) (q 1) (q 2) (q 3) (q 4) (q 5) (q 6) (q 7) (q 8) (q 9) (q 10) (q 11) (q 12) (q 13) (q 14) (q 15) (q 16) (q 17) (q 18) (q 19) (q 20) (q 21) (q 22) (q 23) (q 24) (q 25) (q 26) (q 27) (q 28) (q 29) (q 30) (q 31) (q 32) (q 33) (q 34) (q 35) (q 36) (q 37) (q 38) (q 39) (q 40) (q 41) (q 42) (q 43) (q 44) (q 49) (q 50) (q 51) (q 52) (q 53) (q 54) (q 55) (q 57) (q 58) (q 59) (q 60) (q 61) (q 62) (q 63) (q 64) (q 65) (q 66) (q 67) (q 68) (q 69) (q 70) (q 71) (q 72) (q 73) (q 74) (q 75) (q 76) (q 77) (q 82) (q 83) (q 84) (q 85) (q 86) (q 87) (q 88) (q 90) (q 92) (q 94) (q 96) (hq 8 _ rfl) (hq 9 _ rfl) (hq 10 _ rfl) (hq 11 _ rfl) (hq 12 _ rfl) (hq 13 _ rfl) (hq 14 _ rfl) (hq 15 _ rfl) (hq 16 _ rfl) (hq 17 _ rfl) (hq 18 _ rfl) (hq 19 _ rfl) (hq 20 _ rfl) (hq 21 _ rfl) (hq 22 _ rfl) (hq 23 _ rfl) (hq 24 _ rfl) (hq 25 _ rfl) (hq 26 _ rfl) (hq 27 _ rfl) (hq 28 _ rfl) (hq 29 _ rfl) (hq 30 _ rfl) (hq 31 _ rfl) (hq 32 _ rfl) (hq 33 _ rfl) (hq 34 _ rfl) (hq 35 _ rfl) (hq 36 _ rfl) (hq 37 _ rfl) (hq 38 _ rfl) (hq 39 _ rfl) (hq 40 _ rfl) (hq 41 _ rfl) (hq 42 _ rfl) (hq 43 _ rfl) (hq 44 _ rfl) (hq 49 _ rfl) (hq 50 _ rfl) (hq 51 _ rfl) (hq 52 _ rfl) (hq 53 _ rfl) (hq 54 _ rfl) (hq 55 _ rfl) (hq 57 _ rfl) (hq 58 _ rfl) (hq 59 _ rfl) (hq 60 _ rfl) (hq 61 _ rfl) (hq 62 _ rfl) (hq 63 _ rfl) (hq 64 _ rfl) (hq 65 _ rfl) (hq 66 _ rfl) (hq 67 _ rfl) (hq 68 _ rfl) (hq 69 _ rfl) (hq 70 _ rfl) (hq 71 _ rfl) (hq 72 _ rfl) (hq 73 _ rfl) (hq 74 _ rfl) (hq 75 _ rfl) (hq 76 _ rfl) (hq 77 _ rfl) (hq 82 _ rfl) (hq 83 _ rfl) (hq 84 _ rfl) (hq 85 _ rfl) (hq 86 _ rfl) (hq 87 _ rfl) (hq 88 _ rfl) (hq 90 _ rfl) (hq 92 _ rfl) ((hq 94 _ rfl).trans RW) (hq 96 _ rfl) a_6_8_9 a_6_10_11 a_6_12_13 a_6_16_17 a_6_18_19 a_6_20_21)
       exact Zg Ko hσ hq h0 (Qi (hF a_6_8_9) (Qi (hF a_6_10_11) (Qi (hF a_6_12_13) (Qi (hF a_6_16_17) (Qi (hF a_6_18_19) (Qi (hF a_6_20_21) (Qi (hF a_6_14_15) (Qi (hT a_6_95_96) trivial)))))))) ⟨tab,mx⟩ hA
end Go.Proofs.YtcjmbkcodigpdaaGreatDoor
