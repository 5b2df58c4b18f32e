/- Part 13 of the walks and of the mathematics under them: CFcornered MGN. -/
import Derived.Test.YtdchineebfdkcaaGreatDoorA12
set_option maxHeartbeats 16000000
set_option maxRecDepth 100000
/- CFcornered -/
namespace Go.Proofs.YtdchineebfdkcaaGreatDoor
open Go.RowKit Cx
theorem closed_cornered : Closed 8 :=
 closed_told (N := [(0,[0,0,1]),(0,[0,4,1]),(0,[0,3,1]),(3,[1,0]),(3,[0,0]),(3,[2,0]),(4,[3,5]),(4,[4,4]),(3,[6,7]),(3,[0,1]),(4,[9,9]),(4,[5,5]),(2,[10,11]),(3,[0,2]),(4,[13,13]),(2,[7,14]),(4,[3,3]),(2,[16,7]),(5,[12]),(2,[15,17]),(2,[19,18]),(4,[12,20]),(5,[15]),(2,[17,12]),(2,[23,22]),(4,[15,24]),(5,[17]),(2,[12,15]),(2,[27,26]),(4,[17,28]),(2,[21,25]),(2,[30,29]),(4,[0,21]),(2,[0,32]),(4,[1,25]),(4,[0,25]),(2,[33,34]),(2,[33,35]),(4,[0,29]),(4,[2,29]),(2,[36,38]),(2,[37,39]),(6,[40,31]),(6,[41,31]),(2,[12,17]),(2,[44,22]),(4,[28,45]),(2,[15,12]),(2,[47,26]),(4,[20,48]),(2,[17,15]),(2,[50,18]),(4,[24,51]),(2,[46,49]),(2,[53,52]),(4,[0,46]),(2,[0,55]),(4,[1,49]),(4,[0,49]),(2,[56,57]),(2,[56,58]),(4,[0,52]),(4,[2,52]),(2,[59,61]),(2,[60,62]),(6,[63,54]),(6,[64,54]),(0,[0,2,1]),(0,[0,3,2]),(0,[0,25,1]),(0,[0,9,1]),(0,[0,16,1])]) (H := [(0,8,0,0),(0,31,0,0),(0,54,0,0),(4,42,67,1),(4,43,68,1),(4,65,0,1),(4,66,0,1),(4,12,69,1),(4,15,70,1),(4,17,71,1)]) (K := [(45,[]),(154,[]),(156,[]),(117,[]),(43,[])]) (L := [([48],0),([52],1),([51],2),([50],67),([51,47,50],68),([50,53],69),([57],70),([49,54],71)]) (C := [([50],67),([51,47,50],68),([48],0),([50,53],69),([57],70),([49,54],71)]) (Z := [2,4,3,7,5,6,13,10,24,7,14,12,27,6,12,23,14,25,27,49,77,104,23,53,77,100,25,51,77,102,205,308,106,109,104,102,214,212,104,105,319,318,627,626,53,77,154,51,77,154,49,77,154,309,464,156,159,158,156,318,316,156,157,475,474,939,938,3,3,6,5,6]) (cl := []) 8 (fun _ h => by cases h) (by kernel_rfl) (by kernel_rfl) (by kernel_rfl) (by kernel_rfl) (by kernel_rfl) (by kernel_rfl) (by kernel_rfl)
end Go.Proofs.YtdchineebfdkcaaGreatDoor
/- MGN -/
namespace Go.Proofs.YtdchineebfdkcaaGreatDoor
open Go.RowKit Cx
def triangleNine_N : List Nd := [(1,[0]),(1,[1]),(1,[2]),(1,[3]),(1,[4]),(1,[5]),(3,[2,0]),(3,[3,1]),(3,[4,0]),(3,[5,1]),(4,[6,9]),(4,[7,8]),(3,[10,11]),(0,[0,4,1]),(0,[0,16,1]),(3,[4,2]),(3,[5,3]),(4,[15,15]),(4,[16,16]),(2,[17,18]),(3,[0,4]),(3,[1,5]),(4,[20,20]),(4,[21,21]),(2,[22,23]),(4,[6,6]),(4,[7,7]),(2,[25,26]),(5,[19]),(2,[24,27]),(2,[29,28]),(4,[19,30]),(5,[27]),(2,[19,24]),(2,[33,32]),(5,[24]),(2,[19,27]),(2,[36,35]),(4,[34,37]),(2,[31,38]),(2,[27,19]),(2,[40,35]),(4,[24,41]),(2,[24,19]),(2,[43,32]),(4,[30,44]),(2,[42,45]),(4,[27,34]),(2,[27,24]),(2,[48,28]),(4,[41,49]),(2,[47,50]),(2,[39,46]),(2,[52,51]),(4,[0,39]),(4,[1,39]),(0,[0,0,1]),(2,[56,54]),(2,[56,55]),(4,[2,46]),(4,[3,46]),(2,[57,59]),(2,[58,60]),(4,[4,51]),(4,[5,51]),(2,[61,63]),(2,[62,64]),(6,[65,53]),(6,[66,53]),(4,[19,24]),(4,[69,27]),(4,[12,12]),(6,[70,71]),(6,[72,14]),(2,[38,45]),(2,[74,50]),(4,[0,38]),(4,[1,38]),(2,[56,76]),(2,[56,77]),(4,[2,45]),(4,[3,45]),(2,[78,80]),(2,[79,81]),(4,[4,50]),(4,[5,50]),(2,[82,84]),(2,[83,85]),(6,[86,75]),(6,[87,75]),(5,[16]),(4,[90,2]),(4,[15,3]),(2,[91,92]),(5,[93]),(4,[90,88]),(4,[15,89]),(2,[95,96]),(2,[97,94]),(5,[98]),(4,[90,99]),(4,[15,99]),(4,[90,90]),(2,[102,17]),(6,[100,103]),(6,[101,103]),(2,[88,104]),(2,[89,105]),(5,[21]),(4,[108,4]),(4,[20,5]),(2,[109,110]),(5,[111]),(4,[108,88]),(4,[20,89]),(2,[113,114]),(2,[115,112]),(5,[116]),(4,[108,117]),(4,[20,117]),(4,[108,108]),(2,[120,22]),(6,[118,121]),(6,[119,121]),(2,[88,122]),(2,[89,123]),(5,[7]),(4,[126,0]),(4,[6,1]),(2,[127,128]),(5,[129]),(4,[126,88]),(4,[6,89]),(2,[131,132]),(2,[133,130]),(5,[134]),(4,[126,135]),(4,[6,135]),(4,[126,126]),(2,[138,25]),(6,[136,139]),(6,[137,139]),(2,[88,140]),(2,[89,141]),(3,[106,67]),(3,[107,68]),(4,[144,144]),(4,[145,145]),(2,[146,147]),(3,[148,73]),(0,[0,1,2]),(3,[88,0]),(3,[89,1]),(4,[151,150]),(4,[152,150]),(2,[0,153]),(2,[1,154]),(3,[155,67]),(3,[156,68]),(4,[157,157]),(4,[158,158]),(2,[159,160]),(3,[161,73]),(4,[6,150]),(4,[7,150]),(2,[0,163]),(2,[1,164]),(3,[165,67]),(3,[166,68]),(4,[167,167]),(4,[168,168]),(2,[169,170]),(3,[171,73]),(3,[124,67]),(3,[125,68]),(4,[173,173]),(4,[174,174]),(2,[175,176]),(3,[177,73]),(3,[88,2]),(3,[89,3]),(4,[179,150]),(4,[180,150]),(2,[2,181]),(2,[3,182]),(3,[183,67]),(3,[184,68]),(4,[185,185]),(4,[186,186]),(2,[187,188]),(3,[189,73]),(4,[15,150]),(4,[16,150]),(2,[2,191]),(2,[3,192]),(3,[193,67]),(3,[194,68]),(4,[195,195]),(4,[196,196]),(2,[197,198]),(3,[199,73]),(3,[142,67]),(3,[143,68]),(4,[201,201]),(4,[202,202]),(2,[203,204]),(3,[205,73]),(3,[88,4]),(3,[89,5]),(4,[207,150]),(4,[208,150]),(2,[4,209]),(2,[5,210]),(3,[211,67]),(3,[212,68]),(4,[213,213]),(4,[214,214]),(2,[215,216]),(3,[217,73]),(4,[20,150]),(4,[21,150]),(2,[4,219]),(2,[5,220]),(3,[221,67]),(3,[222,68]),(4,[223,223]),(4,[224,224]),(2,[225,226]),(3,[227,73])]
def triangleNine_L : List (List Nat × Nat) := []
def triangleNine_C : List (List Nat × Nat) := []
def triangleNine_Z : List Nat := [4194309,4194309,4194309,4194309,4194309,4194309,8388619,8388619,8388619,8388619,16777238,16777238,33554477,4,6,8388619,8388619,16777238,16777238,33554477,8388619,8388619,16777238,16777238,33554477,16777238,16777238,33554477,33554477,67108955,100663433,134217910,33554477,67108955,100663433,33554477,67108955,100663433,201326866,335544777,67108955,100663433,134217910,67108955,100663433,201326866,335544777,134217910,67108955,100663433,201326866,335544777,671089555,1006634333,339739086,339739086,2,339739089,339739089,339739086,339739086,679478176,679478176,339739086,339739086,1019217263,1019217263,2025851596,2025851596,67108954,100663431,67108954,167772385,167772391,402653733,603980600,205521175,205521175,205521178,205521178,205521175,205521175,411042354,411042354,205521175,205521175,616563530,616563530,1220544130,1220544130,8388619,12582928,12582928,25165857,25165857,1228932749,1228932749,2457865499,2483031357,2483031357,2491419976,2491419976,16777238,33554477,2524974453,2524974453,3745518584,3745518584,8388619,12582928,12582928,25165857,25165857,1228932749,1228932749,2457865499,2483031357,2483031357,2491419976,2491419976,16777238,33554477,2524974453,2524974453,3745518584,3745518584,8388619,12582928,12582928,25165857,25165857,1228932749,1228932749,2457865499,2483031357,2483031357,2491419976,2491419976,16777238,33554477,2524974453,2524974453,3745518584,3745518584,5771370181,5771370181,11542740362,11542740362,23085480725,23253253117,3,1224738440,1224738440,1224738443,1224738443,1228932753,1228932753,3254784350,3254784350,6509568700,6509568700,13019137401,13186909793,8388622,8388622,12582932,12582932,2038434529,2038434529,4076869058,4076869058,8153738117,8321510509,5771370181,5771370181,11542740362,11542740362,23085480725,23253253117,1224738440,1224738440,1224738443,1224738443,1228932753,1228932753,3254784350,3254784350,6509568700,6509568700,13019137401,13186909793,8388622,8388622,12582932,12582932,2038434529,2038434529,4076869058,4076869058,8153738117,8321510509,5771370181,5771370181,11542740362,11542740362,23085480725,23253253117,1224738440,1224738440,1224738443,1224738443,1228932753,1228932753,3254784350,3254784350,6509568700,6509568700,13019137401,13186909793,8388622,8388622,12582932,12582932,2038434529,2038434529,4076869058,4076869058,8153738117,8321510509]
theorem triangleNine_wf : wfB 0 triangleNine_N=true := by kernel_rfl
theorem triangleNine_sz : szB triangleNine_Z triangleNine_N triangleNine_Z=true := by kernel_rfl
theorem triangleNine_lt : litB triangleNine_N triangleNine_L=true := by kernel_rfl
theorem triangleNine_cn : canB triangleNine_N triangleNine_C=true := by kernel_rfl
theorem triangleNine_c13 : cst 0 4 1=(4 : Rat) := by decide +kernel
theorem triangleNine_c14 : cst 0 16 1=(16 : Rat) := by decide +kernel
theorem triangleNine_c56 : cst 0 0 1=(0 : Rat) := by decide +kernel
theorem triangleNine_c150 : cst 0 1 2=((1 / 2) : Rat) := by decide +kernel
def triangleNine_A : List AV := [(false,[(true,[.inr (2,0,0,0,0),.inr (2,1,0,0,0),.inr (2,2,0,0,0),.inr (2,3,0,0,0),.inr (2,4,0,0,0),.inr (2,5,0,0,0)])])]
theorem triangleNine_f0 {z0 z1 z2 z3 z4 z5 z6 z7 z8 z9 z10 z11 z12 z15 z16 z17 z18 z19 z20 z21 z22 z23 z24 z25 z26 z27 z28 z29 z30 z31 z32 z33 z34 z35 z36 z37 z38 z39 z40 z41 z42 z43 z44 z45 z46 z47 z48 z49 z50 z51 z52 z53 : Rat} : z6=z2-z0→z7=z3-z1→z8=z4-z0→z9=z5-z1→z10=z6*z9→z11=z7*z8→z12=z10-z11→z15=z4-z2→z16=z5-z3→z17=z15*z15→z18=z16*z16→z19=z17+z18→z20=z0-z4→z21=z1-z5→z22=z20*z20→z23=z21*z21→z24=z22+z23→z25=z6*z6→z26=z7*z7→z27=z25+z26→z28=-z19→z29=z24+z27→z30=z29+z28→z31=z19*z30→z32=-z27→z33=z19+z24→z34=z33+z32→z35=-z24→z36=z19+z27→z37=z36+z35→z38=z34*z37→z39=z31+z38→z40=z27+z19→z41=z40+z35→z42=z24*z41→z43=z24+z19→z44=z43+z32→z45=z30*z44→z46=z42+z45→z47=z27*z34→z48=z27+z24→z49=z48+z28→z50=z41*z49→z51=z47+z50→z52=z39+z46→z53=z52+z51→(¬ (z12=0))→¬ (z53=0) := by
 intro e6 e7 e8 e9 e10 e11 e12 e15 e16 e17 e18 e19 e20 e21 e22 e23 e24 e25 e26 e27 e28 e29 e30 e31 e32 e33 e34 e35 e36 e37 e38 e39 e40 e41 e42 e43 e44 e45 e46 e47 e48 e49 e50 e51 e52 e53 u0
 subst_vars; grind
theorem triangleNine_f1 {z0 z1 z2 z3 z4 z5 z6 z7 z8 z9 z10 z11 z12 z15 z16 z17 z18 z19 z20 z21 z22 z23 z24 z25 z26 z27 z28 z29 z30 z32 z33 z34 z35 z36 z37 z38 z40 z41 z43 z44 z45 z48 z49 z50 z74 z75 : Rat} : z6=z2-z0→z7=z3-z1→z8=z4-z0→z9=z5-z1→z10=z6*z9→z11=z7*z8→z12=z10-z11→z15=z4-z2→z16=z5-z3→z17=z15*z15→z18=z16*z16→z19=z17+z18→z20=z0-z4→z21=z1-z5→z22=z20*z20→z23=z21*z21→z24=z22+z23→z25=z6*z6→z26=z7*z7→z27=z25+z26→z28=-z19→z29=z24+z27→z30=z29+z28→z32=-z27→z33=z19+z24→z34=z33+z32→z35=-z24→z36=z19+z27→z37=z36+z35→z38=z34*z37→z40=z27+z19→z41=z40+z35→z43=z24+z19→z44=z43+z32→z45=z30*z44→z48=z27+z24→z49=z48+z28→z50=z41*z49→z74=z38+z45→z75=z74+z50→(¬ (z12=0))→¬ (z75=0) := by
 intro e6 e7 e8 e9 e10 e11 e12 e15 e16 e17 e18 e19 e20 e21 e22 e23 e24 e25 e26 e27 e28 e29 e30 e32 e33 e34 e35 e36 e37 e38 e40 e41 e43 e44 e45 e48 e49 e50 e74 e75 u0
 subst_vars; grind
theorem triangleNine_f2 {z0 z1 z2 z3 z4 z5 z6 z7 z8 z9 z10 z11 z12 z14 z15 z16 z17 z18 z19 z20 z21 z22 z23 z24 z25 z26 z27 z28 z29 z30 z31 z32 z33 z34 z35 z36 z37 z38 z39 z40 z41 z42 z43 z44 z45 z46 z47 z48 z49 z50 z51 z52 z53 z54 z55 z56 z57 z58 z59 z60 z61 z62 z63 z64 z65 z66 z67 z68 z69 z70 z71 z72 z73 z74 z75 z76 z77 z78 z79 z80 z81 z82 z83 z84 z85 z86 z87 z88 z89 z90 z91 z92 z93 z94 z95 z96 z97 z98 z99 z100 z101 z102 z103 z104 z105 z106 z107 z144 z145 z146 z147 z148 z149 : Rat} : z6=z2-z0→z7=z3-z1→z8=z4-z0→z9=z5-z1→z10=z6*z9→z11=z7*z8→z12=z10-z11→z14=16→z15=z4-z2→z16=z5-z3→z17=z15*z15→z18=z16*z16→z19=z17+z18→z20=z0-z4→z21=z1-z5→z22=z20*z20→z23=z21*z21→z24=z22+z23→z25=z6*z6→z26=z7*z7→z27=z25+z26→z28=-z19→z29=z24+z27→z30=z29+z28→z31=z19*z30→z32=-z27→z33=z19+z24→z34=z33+z32→z35=-z24→z36=z19+z27→z37=z36+z35→z38=z34*z37→z39=z31+z38→z40=z27+z19→z41=z40+z35→z42=z24*z41→z43=z24+z19→z44=z43+z32→z45=z30*z44→z46=z42+z45→z47=z27*z34→z48=z27+z24→z49=z48+z28→z50=z41*z49→z51=z47+z50→z52=z39+z46→z53=z52+z51→z54=z0*z39→z55=z1*z39→z56=0→z57=z56+z54→z58=z56+z55→z59=z2*z46→z60=z3*z46→z61=z57+z59→z62=z58+z60→z63=z4*z51→z64=z5*z51→z65=z61+z63→z66=z62+z64→z67=z65/z53→z68=z66/z53→z69=z19*z24→z70=z69*z27→z71=z12*z12→z72=z70/z71→z73=z72/z14→z74=z38+z45→z75=z74+z50→z76=z0*z38→z77=z1*z38→z78=z56+z76→z79=z56+z77→z80=z2*z45→z81=z3*z45→z82=z78+z80→z83=z79+z81→z84=z4*z50→z85=z5*z50→z86=z82+z84→z87=z83+z85→z88=z86/z75→z89=z87/z75→z90=-z16→z91=z90*z2→z92=z15*z3→z93=z91+z92→z94=-z93→z95=z90*z88→z96=z15*z89→z97=z95+z96→z98=z97+z94→z99=-z98→z100=z90*z99→z101=z15*z99→z102=z90*z90→z103=z102+z17→z104=z100/z103→z105=z101/z103→z106=z88+z104→z107=z89+z105→z144=z106-z67→z145=z107-z68→z146=z144*z144→z147=z145*z145→z148=z146+z147→z149=z148-z73→(¬ (z12=0))→z149=0 := by
 intro e6 e7 e8 e9 e10 e11 e12 e14 e15 e16 e17 e18 e19 e20 e21 e22 e23 e24 e25 e26 e27 e28 e29 e30 e31 e32 e33 e34 e35 e36 e37 e38 e39 e40 e41 e42 e43 e44 e45 e46 e47 e48 e49 e50 e51 e52 e53 e54 e55 e56 e57 e58 e59 e60 e61 e62 e63 e64 e65 e66 e67 e68 e69 e70 e71 e72 e73 e74 e75 e76 e77 e78 e79 e80 e81 e82 e83 e84 e85 e86 e87 e88 e89 e90 e91 e92 e93 e94 e95 e96 e97 e98 e99 e100 e101 e102 e103 e104 e105 e106 e107 e144 e145 e146 e147 e148 e149 u0
 have f53 : z53=(z12*(z12*8)) := by
  have c2 : z2=z6+z0 := by rw [e6]; grind
  clear e6
  subst c2
  have c4 : z4=z8+z0 := by rw [e8]; grind
  clear e8
  subst c4
  have c3 : z3=z7+z1 := by rw [e7]; grind
  clear e7
  subst c3
  have c5 : z5=z9+z1 := by rw [e9]; grind
  clear e9
  subst c5
  subst_vars; grind
 have f75 : z75=(z12*(z12*4)) := by
  have c2 : z2=z6+z0 := by rw [e6]; grind
  clear e6
  subst c2
  have c4 : z4=z8+z0 := by rw [e8]; grind
  clear e8
  subst c4
  have c3 : z3=z7+z1 := by rw [e7]; grind
  clear e7
  subst c3
  have c5 : z5=z9+z1 := by rw [e9]; grind
  clear e9
  subst c5
  subst_vars; grind
 have w14 : z14 ≠ 0 := by rw [e14]; decide
 have w12 : z12 ≠ 0 := by first | assumption | grind
 have w103 : z103 ≠ 0 := by (have hp := sq_pos (x := z90) (y := z15) (by grind)); grind
 have n53 : z53 ≠ 0 := by rw [f53]; exact (mul_ne w12 (mul_ne w12 (by decide)))
 have n71 : z71 ≠ 0 := by rw [e71]; exact (mul_ne w12 w12)
 have n75 : z75 ≠ 0 := by rw [f75]; exact (mul_ne w12 (mul_ne w12 (by decide)))
 have n103 : z103 ≠ 0 := w103
 have h67 : z67*z53=z65 := by rw [e67]; exact Rat.div_mul_cancel n53
 rw [f53] at h67
 obtain ⟨m67,hm67⟩ : ∃ m,m=z65 := ⟨_,rfl⟩
 have d67 : z67*(z12*(z12*8))=m67 := by
  have q : z67*(z12*(z12*8))=z67*(z12*(z12*8)) := by grind
  rw [q,h67,hm67]
 clear h67 e67
 have h68 : z68*z53=z66 := by rw [e68]; exact Rat.div_mul_cancel n53
 rw [f53] at h68
 obtain ⟨m68,hm68⟩ : ∃ m,m=z66 := ⟨_,rfl⟩
 have d68 : z68*(z12*(z12*8))=m68 := by
  have q : z68*(z12*(z12*8))=z68*(z12*(z12*8)) := by grind
  rw [q,h68,hm68]
 clear h68 e68
 have h72 : z72*z71=z70 := by rw [e72]; exact Rat.div_mul_cancel n71
 rw [e71] at h72
 obtain ⟨m72,hm72⟩ : ∃ m,m=z70 := ⟨_,rfl⟩
 have d72 : z72*(z12*z12)=m72 := by
  have q : z72*(z12*z12)=z72*(z12*z12) := by grind
  rw [q,h72,hm72]
 clear h72 e72
 have h73 : z73*z14=z72 := by rw [e73]; exact Rat.div_mul_cancel (by rw [e14]; decide)
 obtain ⟨m73,hm73⟩ : ∃ m,m=m72 := ⟨_,rfl⟩
 have d73 : z73*(z12*(z12*z14))=m73 := by
  have q : z73*(z12*(z12*z14))=(z73*z14)*(z12*z12) := by grind
  rw [q,h73,d72,hm73]
 clear h73 e73
 have h88 : z88*z75=z86 := by rw [e88]; exact Rat.div_mul_cancel n75
 rw [f75] at h88
 obtain ⟨m88,hm88⟩ : ∃ m,m=z86 := ⟨_,rfl⟩
 have d88 : z88*(z12*(z12*4))=m88 := by
  have q : z88*(z12*(z12*4))=z88*(z12*(z12*4)) := by grind
  rw [q,h88,hm88]
 clear h88 e88
 have h89 : z89*z75=z87 := by rw [e89]; exact Rat.div_mul_cancel n75
 rw [f75] at h89
 obtain ⟨m89,hm89⟩ : ∃ m,m=z87 := ⟨_,rfl⟩
 have d89 : z89*(z12*(z12*4))=m89 := by
  have q : z89*(z12*(z12*4))=z89*(z12*(z12*4)) := by grind
  rw [q,h89,hm89]
 clear h89 e89
 obtain ⟨m95,hm95⟩ : ∃ m,m=z90*m88 := ⟨_,rfl⟩
 have d95 : z95*(z12*(z12*4))=m95 := by
  have q : z95*(z12*(z12*4))=z90*(z88*(z12*(z12*4))) := by rw [e95]; grind
  rw [q,d88,hm95]
 clear e95
 obtain ⟨m96,hm96⟩ : ∃ m,m=z15*m89 := ⟨_,rfl⟩
 have d96 : z96*(z12*(z12*4))=m96 := by
  have q : z96*(z12*(z12*4))=z15*(z89*(z12*(z12*4))) := by rw [e96]; grind
  rw [q,d89,hm96]
 clear e96
 obtain ⟨m97,hm97⟩ : ∃ m,m=m95*1+m96*1 := ⟨_,rfl⟩
 have d97 : z97*(z12*(z12*4))=m97 := by
  have q : z97*(z12*(z12*4))=(z95*(z12*(z12*4)))*1+(z96*(z12*(z12*4)))*1 := by rw [e97]; grind
  rw [q,d95,d96,hm97]
 clear e97
 obtain ⟨m98,hm98⟩ : ∃ m,m=m97*1+z94*(z12*(z12*4)) := ⟨_,rfl⟩
 have d98 : z98*(z12*(z12*4))=m98 := by
  have q : z98*(z12*(z12*4))=(z97*(z12*(z12*4)))*1+z94*(z12*(z12*4)) := by rw [e98]; grind
  rw [q,d97,hm98]
 clear e98
 obtain ⟨m99,hm99⟩ : ∃ m,m=-m98 := ⟨_,rfl⟩
 have d99 : z99*(z12*(z12*4))=m99 := by
  have q : z99*(z12*(z12*4))=-(z98*(z12*(z12*4))) := by rw [e99]; grind
  rw [q,d98,hm99]
 clear e99
 obtain ⟨m100,hm100⟩ : ∃ m,m=z90*m99 := ⟨_,rfl⟩
 have d100 : z100*(z12*(z12*4))=m100 := by
  have q : z100*(z12*(z12*4))=z90*(z99*(z12*(z12*4))) := by rw [e100]; grind
  rw [q,d99,hm100]
 clear e100
 obtain ⟨m101,hm101⟩ : ∃ m,m=z15*m99 := ⟨_,rfl⟩
 have d101 : z101*(z12*(z12*4))=m101 := by
  have q : z101*(z12*(z12*4))=z15*(z99*(z12*(z12*4))) := by rw [e101]; grind
  rw [q,d99,hm101]
 clear e101
 have h104 : z104*z103=z100 := by rw [e104]; exact Rat.div_mul_cancel n103
 obtain ⟨m104,hm104⟩ : ∃ m,m=m100 := ⟨_,rfl⟩
 have d104 : z104*(z103*(z12*(z12*4)))=m104 := by
  have q : z104*(z103*(z12*(z12*4)))=(z104*z103)*(z12*(z12*4)) := by grind
  rw [q,h104,d100,hm104]
 clear h104 e104
 have h105 : z105*z103=z101 := by rw [e105]; exact Rat.div_mul_cancel n103
 obtain ⟨m105,hm105⟩ : ∃ m,m=m101 := ⟨_,rfl⟩
 have d105 : z105*(z103*(z12*(z12*4)))=m105 := by
  have q : z105*(z103*(z12*(z12*4)))=(z105*z103)*(z12*(z12*4)) := by grind
  rw [q,h105,d101,hm105]
 clear h105 e105
 obtain ⟨m106,hm106⟩ : ∃ m,m=m88*z103+m104*1 := ⟨_,rfl⟩
 have d106 : z106*(z103*(z12*(z12*4)))=m106 := by
  have q : z106*(z103*(z12*(z12*4)))=(z88*(z12*(z12*4)))*z103+(z104*(z103*(z12*(z12*4))))*1 := by rw [e106]; grind
  rw [q,d88,d104,hm106]
 clear e106
 obtain ⟨m107,hm107⟩ : ∃ m,m=m89*z103+m105*1 := ⟨_,rfl⟩
 have d107 : z107*(z103*(z12*(z12*4)))=m107 := by
  have q : z107*(z103*(z12*(z12*4)))=(z89*(z12*(z12*4)))*z103+(z105*(z103*(z12*(z12*4))))*1 := by rw [e107]; grind
  rw [q,d89,d105,hm107]
 clear e107
 obtain ⟨m144,hm144⟩ : ∃ m,m=m106*8 - m67*(z103*4) := ⟨_,rfl⟩
 have d144 : z144*(z103*(z12*(z12*(4*8))))=m144 := by
  have q : z144*(z103*(z12*(z12*(4*8))))=(z106*(z103*(z12*(z12*4))))*8 - (z67*(z12*(z12*8)))*(z103*4) := by rw [e144]; grind
  rw [q,d106,d67,hm144]
 clear e144
 obtain ⟨m145,hm145⟩ : ∃ m,m=m107*8 - m68*(z103*4) := ⟨_,rfl⟩
 have d145 : z145*(z103*(z12*(z12*(4*8))))=m145 := by
  have q : z145*(z103*(z12*(z12*(4*8))))=(z107*(z103*(z12*(z12*4))))*8 - (z68*(z12*(z12*8)))*(z103*4) := by rw [e145]; grind
  rw [q,d107,d68,hm145]
 clear e145
 obtain ⟨m146,hm146⟩ : ∃ m,m=m144*m144 := ⟨_,rfl⟩
 have d146 : z146*(z103*(z103*(z12*(z12*(z12*(z12*(4*(4*(8*8)))))))))=m146 := by
  have q : z146*(z103*(z103*(z12*(z12*(z12*(z12*(4*(4*(8*8)))))))))=(z144*(z103*(z12*(z12*(4*8)))))*(z144*(z103*(z12*(z12*(4*8))))) := by rw [e146]; grind
  rw [q,d144,hm146]
 clear e146
 obtain ⟨m147,hm147⟩ : ∃ m,m=m145*m145 := ⟨_,rfl⟩
 have d147 : z147*(z103*(z103*(z12*(z12*(z12*(z12*(4*(4*(8*8)))))))))=m147 := by
  have q : z147*(z103*(z103*(z12*(z12*(z12*(z12*(4*(4*(8*8)))))))))=(z145*(z103*(z12*(z12*(4*8)))))*(z145*(z103*(z12*(z12*(4*8))))) := by rw [e147]; grind
  rw [q,d145,hm147]
 clear e147
 obtain ⟨m148,hm148⟩ : ∃ m,m=m146*1+m147*1 := ⟨_,rfl⟩
 have d148 : z148*(z103*(z103*(z12*(z12*(z12*(z12*(4*(4*(8*8)))))))))=m148 := by
  have q : z148*(z103*(z103*(z12*(z12*(z12*(z12*(4*(4*(8*8)))))))))=(z146*(z103*(z103*(z12*(z12*(z12*(z12*(4*(4*(8*8))))))))))*1+(z147*(z103*(z103*(z12*(z12*(z12*(z12*(4*(4*(8*8))))))))))*1 := by rw [e148]; grind
  rw [q,d146,d147,hm148]
 clear e148
 obtain ⟨m149,hm149⟩ : ∃ m,m=m148*z14 - m73*(z103*(z103*(z12*(z12*(4*(4*(8*8))))))) := ⟨_,rfl⟩
 have d149 : z149*(z103*(z103*(z12*(z12*(z12*(z12*(z14*(4*(4*(8*8))))))))))=m149 := by
  have q : z149*(z103*(z103*(z12*(z12*(z12*(z12*(z14*(4*(4*(8*8))))))))))=(z148*(z103*(z103*(z12*(z12*(z12*(z12*(4*(4*(8*8))))))))))*z14 - (z73*(z12*(z12*z14)))*(z103*(z103*(z12*(z12*(4*(4*(8*8))))))) := by rw [e149]; grind
  rw [q,d148,d73,hm149]
 clear e149
 have hpoly : m149=0 := by
  clear d67 d68 d72 d73 d88 d89 d95 d96 d97 d98 d99 d100 d101 d104 d105 d106 d107 d144 d145 d146 d147 d148 d149
  have c2 : z2=z6+z0 := by rw [e6]; grind
  clear e6
  subst c2
  have c4 : z4=z8+z0 := by rw [e8]; grind
  clear e8
  subst c4
  have c3 : z3=z7+z1 := by rw [e7]; grind
  clear e7
  subst c3
  have c5 : z5=z9+z1 := by rw [e9]; grind
  clear e9
  subst c5
  subst_vars; grind
 have hgoal : z149=0 := (Rat.mul_eq_zero.1 (d149.trans hpoly)).resolve_right (mul_ne w103 (mul_ne w103 (mul_ne w12 (mul_ne w12 (mul_ne w12 (mul_ne w12 (mul_ne w14 (mul_ne (by decide) (mul_ne (by decide) (mul_ne (by decide) (by decide)))))))))))
 exact hgoal
theorem triangleNine_f3 {z0 z1 z2 z3 z4 z5 z6 z7 z8 z9 z10 z11 z12 z14 z15 z16 z17 z18 z19 z20 z21 z22 z23 z24 z25 z26 z27 z28 z29 z30 z31 z32 z33 z34 z35 z36 z37 z38 z39 z40 z41 z42 z43 z44 z45 z46 z47 z48 z49 z50 z51 z52 z53 z54 z55 z56 z57 z58 z59 z60 z61 z62 z63 z64 z65 z66 z67 z68 z69 z70 z71 z72 z73 z74 z75 z76 z77 z78 z79 z80 z81 z82 z83 z84 z85 z86 z87 z88 z89 z150 z151 z152 z153 z154 z155 z156 z157 z158 z159 z160 z161 z162 : Rat} : z6=z2-z0→z7=z3-z1→z8=z4-z0→z9=z5-z1→z10=z6*z9→z11=z7*z8→z12=z10-z11→z14=16→z15=z4-z2→z16=z5-z3→z17=z15*z15→z18=z16*z16→z19=z17+z18→z20=z0-z4→z21=z1-z5→z22=z20*z20→z23=z21*z21→z24=z22+z23→z25=z6*z6→z26=z7*z7→z27=z25+z26→z28=-z19→z29=z24+z27→z30=z29+z28→z31=z19*z30→z32=-z27→z33=z19+z24→z34=z33+z32→z35=-z24→z36=z19+z27→z37=z36+z35→z38=z34*z37→z39=z31+z38→z40=z27+z19→z41=z40+z35→z42=z24*z41→z43=z24+z19→z44=z43+z32→z45=z30*z44→z46=z42+z45→z47=z27*z34→z48=z27+z24→z49=z48+z28→z50=z41*z49→z51=z47+z50→z52=z39+z46→z53=z52+z51→z54=z0*z39→z55=z1*z39→z56=0→z57=z56+z54→z58=z56+z55→z59=z2*z46→z60=z3*z46→z61=z57+z59→z62=z58+z60→z63=z4*z51→z64=z5*z51→z65=z61+z63→z66=z62+z64→z67=z65/z53→z68=z66/z53→z69=z19*z24→z70=z69*z27→z71=z12*z12→z72=z70/z71→z73=z72/z14→z74=z38+z45→z75=z74+z50→z76=z0*z38→z77=z1*z38→z78=z56+z76→z79=z56+z77→z80=z2*z45→z81=z3*z45→z82=z78+z80→z83=z79+z81→z84=z4*z50→z85=z5*z50→z86=z82+z84→z87=z83+z85→z88=z86/z75→z89=z87/z75→z150=(1/2)→z151=z88-z0→z152=z89-z1→z153=z151*z150→z154=z152*z150→z155=z0+z153→z156=z1+z154→z157=z155-z67→z158=z156-z68→z159=z157*z157→z160=z158*z158→z161=z159+z160→z162=z161-z73→(¬ (z12=0))→z162=0 := by
 intro e6 e7 e8 e9 e10 e11 e12 e14 e15 e16 e17 e18 e19 e20 e21 e22 e23 e24 e25 e26 e27 e28 e29 e30 e31 e32 e33 e34 e35 e36 e37 e38 e39 e40 e41 e42 e43 e44 e45 e46 e47 e48 e49 e50 e51 e52 e53 e54 e55 e56 e57 e58 e59 e60 e61 e62 e63 e64 e65 e66 e67 e68 e69 e70 e71 e72 e73 e74 e75 e76 e77 e78 e79 e80 e81 e82 e83 e84 e85 e86 e87 e88 e89 e150 e151 e152 e153 e154 e155 e156 e157 e158 e159 e160 e161 e162 u0
 have f53 : z53=(z12*(z12*8)) := by
  have c2 : z2=z6+z0 := by rw [e6]; grind
  clear e6
  subst c2
  have c4 : z4=z8+z0 := by rw [e8]; grind
  clear e8
  subst c4
  have c3 : z3=z7+z1 := by rw [e7]; grind
  clear e7
  subst c3
  have c5 : z5=z9+z1 := by rw [e9]; grind
  clear e9
  subst c5
  subst_vars; grind
 have f75 : z75=(z12*(z12*4)) := by
  have c2 : z2=z6+z0 := by rw [e6]; grind
  clear e6
  subst c2
  have c4 : z4=z8+z0 := by rw [e8]; grind
  clear e8
  subst c4
  have c3 : z3=z7+z1 := by rw [e7]; grind
  clear e7
  subst c3
  have c5 : z5=z9+z1 := by rw [e9]; grind
  clear e9
  subst c5
  subst_vars; grind
 have w14 : z14 ≠ 0 := by rw [e14]; decide
 have w12 : z12 ≠ 0 := by first | assumption | grind
 have n53 : z53 ≠ 0 := by rw [f53]; exact (mul_ne w12 (mul_ne w12 (by decide)))
 have n71 : z71 ≠ 0 := by rw [e71]; exact (mul_ne w12 w12)
 have n75 : z75 ≠ 0 := by rw [f75]; exact (mul_ne w12 (mul_ne w12 (by decide)))
 have h67 : z67*z53=z65 := by rw [e67]; exact Rat.div_mul_cancel n53
 rw [f53] at h67
 obtain ⟨m67,hm67⟩ : ∃ m,m=z65 := ⟨_,rfl⟩
 have d67 : z67*(z12*(z12*8))=m67 := by
  have q : z67*(z12*(z12*8))=z67*(z12*(z12*8)) := by grind
  rw [q,h67,hm67]
 clear h67 e67
 have h68 : z68*z53=z66 := by rw [e68]; exact Rat.div_mul_cancel n53
 rw [f53] at h68
 obtain ⟨m68,hm68⟩ : ∃ m,m=z66 := ⟨_,rfl⟩
 have d68 : z68*(z12*(z12*8))=m68 := by
  have q : z68*(z12*(z12*8))=z68*(z12*(z12*8)) := by grind
  rw [q,h68,hm68]
 clear h68 e68
 have h72 : z72*z71=z70 := by rw [e72]; exact Rat.div_mul_cancel n71
 rw [e71] at h72
 obtain ⟨m72,hm72⟩ : ∃ m,m=z70 := ⟨_,rfl⟩
 have d72 : z72*(z12*z12)=m72 := by
  have q : z72*(z12*z12)=z72*(z12*z12) := by grind
  rw [q,h72,hm72]
 clear h72 e72
 have h73 : z73*z14=z72 := by rw [e73]; exact Rat.div_mul_cancel (by rw [e14]; decide)
 obtain ⟨m73,hm73⟩ : ∃ m,m=m72 := ⟨_,rfl⟩
 have d73 : z73*(z12*(z12*z14))=m73 := by
  have q : z73*(z12*(z12*z14))=(z73*z14)*(z12*z12) := by grind
  rw [q,h73,d72,hm73]
 clear h73 e73
 have h88 : z88*z75=z86 := by rw [e88]; exact Rat.div_mul_cancel n75
 rw [f75] at h88
 obtain ⟨m88,hm88⟩ : ∃ m,m=z86 := ⟨_,rfl⟩
 have d88 : z88*(z12*(z12*4))=m88 := by
  have q : z88*(z12*(z12*4))=z88*(z12*(z12*4)) := by grind
  rw [q,h88,hm88]
 clear h88 e88
 have h89 : z89*z75=z87 := by rw [e89]; exact Rat.div_mul_cancel n75
 rw [f75] at h89
 obtain ⟨m89,hm89⟩ : ∃ m,m=z87 := ⟨_,rfl⟩
 have d89 : z89*(z12*(z12*4))=m89 := by
  have q : z89*(z12*(z12*4))=z89*(z12*(z12*4)) := by grind
  rw [q,h89,hm89]
 clear h89 e89
 obtain ⟨m151,hm151⟩ : ∃ m,m=m88*1 - z0*(z12*(z12*4)) := ⟨_,rfl⟩
 have d151 : z151*(z12*(z12*4))=m151 := by
  have q : z151*(z12*(z12*4))=(z88*(z12*(z12*4)))*1 - z0*(z12*(z12*4)) := by rw [e151]; grind
  rw [q,d88,hm151]
 clear e151
 obtain ⟨m152,hm152⟩ : ∃ m,m=m89*1 - z1*(z12*(z12*4)) := ⟨_,rfl⟩
 have d152 : z152*(z12*(z12*4))=m152 := by
  have q : z152*(z12*(z12*4))=(z89*(z12*(z12*4)))*1 - z1*(z12*(z12*4)) := by rw [e152]; grind
  rw [q,d89,hm152]
 clear e152
 obtain ⟨m153,hm153⟩ : ∃ m,m=m151*z150 := ⟨_,rfl⟩
 have d153 : z153*(z12*(z12*4))=m153 := by
  have q : z153*(z12*(z12*4))=(z151*(z12*(z12*4)))*z150 := by rw [e153]; grind
  rw [q,d151,hm153]
 clear e153
 obtain ⟨m154,hm154⟩ : ∃ m,m=m152*z150 := ⟨_,rfl⟩
 have d154 : z154*(z12*(z12*4))=m154 := by
  have q : z154*(z12*(z12*4))=(z152*(z12*(z12*4)))*z150 := by rw [e154]; grind
  rw [q,d152,hm154]
 clear e154
 obtain ⟨m155,hm155⟩ : ∃ m,m=z0*(z12*(z12*4))+m153*1 := ⟨_,rfl⟩
 have d155 : z155*(z12*(z12*4))=m155 := by
  have q : z155*(z12*(z12*4))=z0*(z12*(z12*4))+(z153*(z12*(z12*4)))*1 := by rw [e155]; grind
  rw [q,d153,hm155]
 clear e155
 obtain ⟨m156,hm156⟩ : ∃ m,m=z1*(z12*(z12*4))+m154*1 := ⟨_,rfl⟩
 have d156 : z156*(z12*(z12*4))=m156 := by
  have q : z156*(z12*(z12*4))=z1*(z12*(z12*4))+(z154*(z12*(z12*4)))*1 := by rw [e156]; grind
  rw [q,d154,hm156]
 clear e156
 obtain ⟨m157,hm157⟩ : ∃ m,m=m155*8 - m67*4 := ⟨_,rfl⟩
 have d157 : z157*(z12*(z12*(4*8)))=m157 := by
  have q : z157*(z12*(z12*(4*8)))=(z155*(z12*(z12*4)))*8 - (z67*(z12*(z12*8)))*4 := by rw [e157]; grind
  rw [q,d155,d67,hm157]
 clear e157
 obtain ⟨m158,hm158⟩ : ∃ m,m=m156*8 - m68*4 := ⟨_,rfl⟩
 have d158 : z158*(z12*(z12*(4*8)))=m158 := by
  have q : z158*(z12*(z12*(4*8)))=(z156*(z12*(z12*4)))*8 - (z68*(z12*(z12*8)))*4 := by rw [e158]; grind
  rw [q,d156,d68,hm158]
 clear e158
 obtain ⟨m159,hm159⟩ : ∃ m,m=m157*m157 := ⟨_,rfl⟩
 have d159 : z159*(z12*(z12*(z12*(z12*(4*(4*(8*8)))))))=m159 := by
  have q : z159*(z12*(z12*(z12*(z12*(4*(4*(8*8)))))))=(z157*(z12*(z12*(4*8))))*(z157*(z12*(z12*(4*8)))) := by rw [e159]; grind
  rw [q,d157,hm159]
 clear e159
 obtain ⟨m160,hm160⟩ : ∃ m,m=m158*m158 := ⟨_,rfl⟩
 have d160 : z160*(z12*(z12*(z12*(z12*(4*(4*(8*8)))))))=m160 := by
  have q : z160*(z12*(z12*(z12*(z12*(4*(4*(8*8)))))))=(z158*(z12*(z12*(4*8))))*(z158*(z12*(z12*(4*8)))) := by rw [e160]; grind
  rw [q,d158,hm160]
 clear e160
 obtain ⟨m161,hm161⟩ : ∃ m,m=m159*1+m160*1 := ⟨_,rfl⟩
 have d161 : z161*(z12*(z12*(z12*(z12*(4*(4*(8*8)))))))=m161 := by
  have q : z161*(z12*(z12*(z12*(z12*(4*(4*(8*8)))))))=(z159*(z12*(z12*(z12*(z12*(4*(4*(8*8))))))))*1+(z160*(z12*(z12*(z12*(z12*(4*(4*(8*8))))))))*1 := by rw [e161]; grind
  rw [q,d159,d160,hm161]
 clear e161
 obtain ⟨m162,hm162⟩ : ∃ m,m=m161*z14 - m73*(z12*(z12*(4*(4*(8*8))))) := ⟨_,rfl⟩
 have d162 : z162*(z12*(z12*(z12*(z12*(z14*(4*(4*(8*8))))))))=m162 := by
  have q : z162*(z12*(z12*(z12*(z12*(z14*(4*(4*(8*8))))))))=(z161*(z12*(z12*(z12*(z12*(4*(4*(8*8))))))))*z14 - (z73*(z12*(z12*z14)))*(z12*(z12*(4*(4*(8*8))))) := by rw [e162]; grind
  rw [q,d161,d73,hm162]
 clear e162
 have hpoly : m162=0 := by
  clear d67 d68 d72 d73 d88 d89 d151 d152 d153 d154 d155 d156 d157 d158 d159 d160 d161 d162
  have c2 : z2=z6+z0 := by rw [e6]; grind
  clear e6
  subst c2
  have c4 : z4=z8+z0 := by rw [e8]; grind
  clear e8
  subst c4
  have c3 : z3=z7+z1 := by rw [e7]; grind
  clear e7
  subst c3
  have c5 : z5=z9+z1 := by rw [e9]; grind
  clear e9
  subst c5
  subst_vars; grind
 have hgoal : z162=0 := (Rat.mul_eq_zero.1 (d162.trans hpoly)).resolve_right (mul_ne w12 (mul_ne w12 (mul_ne w12 (mul_ne w12 (mul_ne w14 (mul_ne (by decide) (mul_ne (by decide) (mul_ne (by decide) (by decide)))))))))
 exact hgoal
theorem triangleNine_f4 {z0 z1 z2 z3 z4 z5 z6 z7 z8 z9 z10 z11 z12 z14 z15 z16 z17 z18 z19 z20 z21 z22 z23 z24 z25 z26 z27 z28 z29 z30 z31 z32 z33 z34 z35 z36 z37 z38 z39 z40 z41 z42 z43 z44 z45 z46 z47 z48 z49 z50 z51 z52 z53 z54 z55 z56 z57 z58 z59 z60 z61 z62 z63 z64 z65 z66 z67 z68 z69 z70 z71 z72 z73 z150 z163 z164 z165 z166 z167 z168 z169 z170 z171 z172 : Rat} : z6=z2-z0→z7=z3-z1→z8=z4-z0→z9=z5-z1→z10=z6*z9→z11=z7*z8→z12=z10-z11→z14=16→z15=z4-z2→z16=z5-z3→z17=z15*z15→z18=z16*z16→z19=z17+z18→z20=z0-z4→z21=z1-z5→z22=z20*z20→z23=z21*z21→z24=z22+z23→z25=z6*z6→z26=z7*z7→z27=z25+z26→z28=-z19→z29=z24+z27→z30=z29+z28→z31=z19*z30→z32=-z27→z33=z19+z24→z34=z33+z32→z35=-z24→z36=z19+z27→z37=z36+z35→z38=z34*z37→z39=z31+z38→z40=z27+z19→z41=z40+z35→z42=z24*z41→z43=z24+z19→z44=z43+z32→z45=z30*z44→z46=z42+z45→z47=z27*z34→z48=z27+z24→z49=z48+z28→z50=z41*z49→z51=z47+z50→z52=z39+z46→z53=z52+z51→z54=z0*z39→z55=z1*z39→z56=0→z57=z56+z54→z58=z56+z55→z59=z2*z46→z60=z3*z46→z61=z57+z59→z62=z58+z60→z63=z4*z51→z64=z5*z51→z65=z61+z63→z66=z62+z64→z67=z65/z53→z68=z66/z53→z69=z19*z24→z70=z69*z27→z71=z12*z12→z72=z70/z71→z73=z72/z14→z150=(1/2)→z163=z6*z150→z164=z7*z150→z165=z0+z163→z166=z1+z164→z167=z165-z67→z168=z166-z68→z169=z167*z167→z170=z168*z168→z171=z169+z170→z172=z171-z73→(¬ (z12=0))→z172=0 := by
 intro e6 e7 e8 e9 e10 e11 e12 e14 e15 e16 e17 e18 e19 e20 e21 e22 e23 e24 e25 e26 e27 e28 e29 e30 e31 e32 e33 e34 e35 e36 e37 e38 e39 e40 e41 e42 e43 e44 e45 e46 e47 e48 e49 e50 e51 e52 e53 e54 e55 e56 e57 e58 e59 e60 e61 e62 e63 e64 e65 e66 e67 e68 e69 e70 e71 e72 e73 e150 e163 e164 e165 e166 e167 e168 e169 e170 e171 e172 u0
 have f53 : z53=(z12*(z12*8)) := by
  have c2 : z2=z6+z0 := by rw [e6]; grind
  clear e6
  subst c2
  have c4 : z4=z8+z0 := by rw [e8]; grind
  clear e8
  subst c4
  have c3 : z3=z7+z1 := by rw [e7]; grind
  clear e7
  subst c3
  have c5 : z5=z9+z1 := by rw [e9]; grind
  clear e9
  subst c5
  subst_vars; grind
 have w14 : z14 ≠ 0 := by rw [e14]; decide
 have w12 : z12 ≠ 0 := by first | assumption | grind
 have n53 : z53 ≠ 0 := by rw [f53]; exact (mul_ne w12 (mul_ne w12 (by decide)))
 have n71 : z71 ≠ 0 := by rw [e71]; exact (mul_ne w12 w12)
 have h67 : z67*z53=z65 := by rw [e67]; exact Rat.div_mul_cancel n53
 rw [f53] at h67
 obtain ⟨m67,hm67⟩ : ∃ m,m=z65 := ⟨_,rfl⟩
 have d67 : z67*(z12*(z12*8))=m67 := by
  have q : z67*(z12*(z12*8))=z67*(z12*(z12*8)) := by grind
  rw [q,h67,hm67]
 clear h67 e67
 have h68 : z68*z53=z66 := by rw [e68]; exact Rat.div_mul_cancel n53
 rw [f53] at h68
 obtain ⟨m68,hm68⟩ : ∃ m,m=z66 := ⟨_,rfl⟩
 have d68 : z68*(z12*(z12*8))=m68 := by
  have q : z68*(z12*(z12*8))=z68*(z12*(z12*8)) := by grind
  rw [q,h68,hm68]
 clear h68 e68
 have h72 : z72*z71=z70 := by rw [e72]; exact Rat.div_mul_cancel n71
 rw [e71] at h72
 obtain ⟨m72,hm72⟩ : ∃ m,m=z70 := ⟨_,rfl⟩
 have d72 : z72*(z12*z12)=m72 := by
  have q : z72*(z12*z12)=z72*(z12*z12) := by grind
  rw [q,h72,hm72]
 clear h72 e72
 have h73 : z73*z14=z72 := by rw [e73]; exact Rat.div_mul_cancel (by rw [e14]; decide)
 obtain ⟨m73,hm73⟩ : ∃ m,m=m72 := ⟨_,rfl⟩
 have d73 : z73*(z12*(z12*z14))=m73 := by
  have q : z73*(z12*(z12*z14))=(z73*z14)*(z12*z12) := by grind
  rw [q,h73,d72,hm73]
 clear h73 e73
 obtain ⟨m167,hm167⟩ : ∃ m,m=z165*(z12*(z12*8)) - m67*1 := ⟨_,rfl⟩
 have d167 : z167*(z12*(z12*8))=m167 := by
  have q : z167*(z12*(z12*8))=z165*(z12*(z12*8)) - (z67*(z12*(z12*8)))*1 := by rw [e167]; grind
  rw [q,d67,hm167]
 clear e167
 obtain ⟨m168,hm168⟩ : ∃ m,m=z166*(z12*(z12*8)) - m68*1 := ⟨_,rfl⟩
 have d168 : z168*(z12*(z12*8))=m168 := by
  have q : z168*(z12*(z12*8))=z166*(z12*(z12*8)) - (z68*(z12*(z12*8)))*1 := by rw [e168]; grind
  rw [q,d68,hm168]
 clear e168
 obtain ⟨m169,hm169⟩ : ∃ m,m=m167*m167 := ⟨_,rfl⟩
 have d169 : z169*(z12*(z12*(z12*(z12*(8*8)))))=m169 := by
  have q : z169*(z12*(z12*(z12*(z12*(8*8)))))=(z167*(z12*(z12*8)))*(z167*(z12*(z12*8))) := by rw [e169]; grind
  rw [q,d167,hm169]
 clear e169
 obtain ⟨m170,hm170⟩ : ∃ m,m=m168*m168 := ⟨_,rfl⟩
 have d170 : z170*(z12*(z12*(z12*(z12*(8*8)))))=m170 := by
  have q : z170*(z12*(z12*(z12*(z12*(8*8)))))=(z168*(z12*(z12*8)))*(z168*(z12*(z12*8))) := by rw [e170]; grind
  rw [q,d168,hm170]
 clear e170
 obtain ⟨m171,hm171⟩ : ∃ m,m=m169*1+m170*1 := ⟨_,rfl⟩
 have d171 : z171*(z12*(z12*(z12*(z12*(8*8)))))=m171 := by
  have q : z171*(z12*(z12*(z12*(z12*(8*8)))))=(z169*(z12*(z12*(z12*(z12*(8*8))))))*1+(z170*(z12*(z12*(z12*(z12*(8*8))))))*1 := by rw [e171]; grind
  rw [q,d169,d170,hm171]
 clear e171
 obtain ⟨m172,hm172⟩ : ∃ m,m=m171*z14 - m73*(z12*(z12*(8*8))) := ⟨_,rfl⟩
 have d172 : z172*(z12*(z12*(z12*(z12*(z14*(8*8))))))=m172 := by
  have q : z172*(z12*(z12*(z12*(z12*(z14*(8*8))))))=(z171*(z12*(z12*(z12*(z12*(8*8))))))*z14 - (z73*(z12*(z12*z14)))*(z12*(z12*(8*8))) := by rw [e172]; grind
  rw [q,d171,d73,hm172]
 clear e172
 have hpoly : m172=0 := by
  clear d67 d68 d72 d73 d167 d168 d169 d170 d171 d172
  have c2 : z2=z6+z0 := by rw [e6]; grind
  clear e6
  subst c2
  have c4 : z4=z8+z0 := by rw [e8]; grind
  clear e8
  subst c4
  have c3 : z3=z7+z1 := by rw [e7]; grind
  clear e7
  subst c3
  have c5 : z5=z9+z1 := by rw [e9]; grind
  clear e9
  subst c5
  subst_vars; grind
 have hgoal : z172=0 := (Rat.mul_eq_zero.1 (d172.trans hpoly)).resolve_right (mul_ne w12 (mul_ne w12 (mul_ne w12 (mul_ne w12 (mul_ne w14 (mul_ne (by decide) (by decide)))))))
 exact hgoal
theorem triangleNine_f5 {z0 z1 z2 z3 z4 z5 z6 z7 z8 z9 z10 z11 z12 z14 z15 z16 z17 z18 z19 z20 z21 z22 z23 z24 z25 z26 z27 z28 z29 z30 z31 z32 z33 z34 z35 z36 z37 z38 z39 z40 z41 z42 z43 z44 z45 z46 z47 z48 z49 z50 z51 z52 z53 z54 z55 z56 z57 z58 z59 z60 z61 z62 z63 z64 z65 z66 z67 z68 z69 z70 z71 z72 z73 z74 z75 z76 z77 z78 z79 z80 z81 z82 z83 z84 z85 z86 z87 z88 z89 z108 z109 z110 z111 z112 z113 z114 z115 z116 z117 z118 z119 z120 z121 z122 z123 z124 z125 z173 z174 z175 z176 z177 z178 : Rat} : z6=z2-z0→z7=z3-z1→z8=z4-z0→z9=z5-z1→z10=z6*z9→z11=z7*z8→z12=z10-z11→z14=16→z15=z4-z2→z16=z5-z3→z17=z15*z15→z18=z16*z16→z19=z17+z18→z20=z0-z4→z21=z1-z5→z22=z20*z20→z23=z21*z21→z24=z22+z23→z25=z6*z6→z26=z7*z7→z27=z25+z26→z28=-z19→z29=z24+z27→z30=z29+z28→z31=z19*z30→z32=-z27→z33=z19+z24→z34=z33+z32→z35=-z24→z36=z19+z27→z37=z36+z35→z38=z34*z37→z39=z31+z38→z40=z27+z19→z41=z40+z35→z42=z24*z41→z43=z24+z19→z44=z43+z32→z45=z30*z44→z46=z42+z45→z47=z27*z34→z48=z27+z24→z49=z48+z28→z50=z41*z49→z51=z47+z50→z52=z39+z46→z53=z52+z51→z54=z0*z39→z55=z1*z39→z56=0→z57=z56+z54→z58=z56+z55→z59=z2*z46→z60=z3*z46→z61=z57+z59→z62=z58+z60→z63=z4*z51→z64=z5*z51→z65=z61+z63→z66=z62+z64→z67=z65/z53→z68=z66/z53→z69=z19*z24→z70=z69*z27→z71=z12*z12→z72=z70/z71→z73=z72/z14→z74=z38+z45→z75=z74+z50→z76=z0*z38→z77=z1*z38→z78=z56+z76→z79=z56+z77→z80=z2*z45→z81=z3*z45→z82=z78+z80→z83=z79+z81→z84=z4*z50→z85=z5*z50→z86=z82+z84→z87=z83+z85→z88=z86/z75→z89=z87/z75→z108=-z21→z109=z108*z4→z110=z20*z5→z111=z109+z110→z112=-z111→z113=z108*z88→z114=z20*z89→z115=z113+z114→z116=z115+z112→z117=-z116→z118=z108*z117→z119=z20*z117→z120=z108*z108→z121=z120+z22→z122=z118/z121→z123=z119/z121→z124=z88+z122→z125=z89+z123→z173=z124-z67→z174=z125-z68→z175=z173*z173→z176=z174*z174→z177=z175+z176→z178=z177-z73→(¬ (z12=0))→z178=0 := by
 intro e6 e7 e8 e9 e10 e11 e12 e14 e15 e16 e17 e18 e19 e20 e21 e22 e23 e24 e25 e26 e27 e28 e29 e30 e31 e32 e33 e34 e35 e36 e37 e38 e39 e40 e41 e42 e43 e44 e45 e46 e47 e48 e49 e50 e51 e52 e53 e54 e55 e56 e57 e58 e59 e60 e61 e62 e63 e64 e65 e66 e67 e68 e69 e70 e71 e72 e73 e74 e75 e76 e77 e78 e79 e80 e81 e82 e83 e84 e85 e86 e87 e88 e89 e108 e109 e110 e111 e112 e113 e114 e115 e116 e117 e118 e119 e120 e121 e122 e123 e124 e125 e173 e174 e175 e176 e177 e178 u0
 have f53 : z53=(z12*(z12*8)) := by
  have c2 : z2=z6+z0 := by rw [e6]; grind
  clear e6
  subst c2
  have c4 : z4=z8+z0 := by rw [e8]; grind
  clear e8
  subst c4
  have c3 : z3=z7+z1 := by rw [e7]; grind
  clear e7
  subst c3
  have c5 : z5=z9+z1 := by rw [e9]; grind
  clear e9
  subst c5
  subst_vars; grind
 have f75 : z75=(z12*(z12*4)) := by
  have c2 : z2=z6+z0 := by rw [e6]; grind
  clear e6
  subst c2
  have c4 : z4=z8+z0 := by rw [e8]; grind
  clear e8
  subst c4
  have c3 : z3=z7+z1 := by rw [e7]; grind
  clear e7
  subst c3
  have c5 : z5=z9+z1 := by rw [e9]; grind
  clear e9
  subst c5
  subst_vars; grind
 have w14 : z14 ≠ 0 := by rw [e14]; decide
 have w12 : z12 ≠ 0 := by first | assumption | grind
 have w121 : z121 ≠ 0 := by (have hp := sq_pos (x := z108) (y := z20) (by grind)); grind
 have n53 : z53 ≠ 0 := by rw [f53]; exact (mul_ne w12 (mul_ne w12 (by decide)))
 have n71 : z71 ≠ 0 := by rw [e71]; exact (mul_ne w12 w12)
 have n75 : z75 ≠ 0 := by rw [f75]; exact (mul_ne w12 (mul_ne w12 (by decide)))
 have n121 : z121 ≠ 0 := w121
 have h67 : z67*z53=z65 := by rw [e67]; exact Rat.div_mul_cancel n53
 rw [f53] at h67
 obtain ⟨m67,hm67⟩ : ∃ m,m=z65 := ⟨_,rfl⟩
 have d67 : z67*(z12*(z12*8))=m67 := by
  have q : z67*(z12*(z12*8))=z67*(z12*(z12*8)) := by grind
  rw [q,h67,hm67]
 clear h67 e67
 have h68 : z68*z53=z66 := by rw [e68]; exact Rat.div_mul_cancel n53
 rw [f53] at h68
 obtain ⟨m68,hm68⟩ : ∃ m,m=z66 := ⟨_,rfl⟩
 have d68 : z68*(z12*(z12*8))=m68 := by
  have q : z68*(z12*(z12*8))=z68*(z12*(z12*8)) := by grind
  rw [q,h68,hm68]
 clear h68 e68
 have h72 : z72*z71=z70 := by rw [e72]; exact Rat.div_mul_cancel n71
 rw [e71] at h72
 obtain ⟨m72,hm72⟩ : ∃ m,m=z70 := ⟨_,rfl⟩
 have d72 : z72*(z12*z12)=m72 := by
  have q : z72*(z12*z12)=z72*(z12*z12) := by grind
  rw [q,h72,hm72]
 clear h72 e72
 have h73 : z73*z14=z72 := by rw [e73]; exact Rat.div_mul_cancel (by rw [e14]; decide)
 obtain ⟨m73,hm73⟩ : ∃ m,m=m72 := ⟨_,rfl⟩
 have d73 : z73*(z12*(z12*z14))=m73 := by
  have q : z73*(z12*(z12*z14))=(z73*z14)*(z12*z12) := by grind
  rw [q,h73,d72,hm73]
 clear h73 e73
 have h88 : z88*z75=z86 := by rw [e88]; exact Rat.div_mul_cancel n75
 rw [f75] at h88
 obtain ⟨m88,hm88⟩ : ∃ m,m=z86 := ⟨_,rfl⟩
 have d88 : z88*(z12*(z12*4))=m88 := by
  have q : z88*(z12*(z12*4))=z88*(z12*(z12*4)) := by grind
  rw [q,h88,hm88]
 clear h88 e88
 have h89 : z89*z75=z87 := by rw [e89]; exact Rat.div_mul_cancel n75
 rw [f75] at h89
 obtain ⟨m89,hm89⟩ : ∃ m,m=z87 := ⟨_,rfl⟩
 have d89 : z89*(z12*(z12*4))=m89 := by
  have q : z89*(z12*(z12*4))=z89*(z12*(z12*4)) := by grind
  rw [q,h89,hm89]
 clear h89 e89
 obtain ⟨m113,hm113⟩ : ∃ m,m=z108*m88 := ⟨_,rfl⟩
 have d113 : z113*(z12*(z12*4))=m113 := by
  have q : z113*(z12*(z12*4))=z108*(z88*(z12*(z12*4))) := by rw [e113]; grind
  rw [q,d88,hm113]
 clear e113
 obtain ⟨m114,hm114⟩ : ∃ m,m=z20*m89 := ⟨_,rfl⟩
 have d114 : z114*(z12*(z12*4))=m114 := by
  have q : z114*(z12*(z12*4))=z20*(z89*(z12*(z12*4))) := by rw [e114]; grind
  rw [q,d89,hm114]
 clear e114
 obtain ⟨m115,hm115⟩ : ∃ m,m=m113*1+m114*1 := ⟨_,rfl⟩
 have d115 : z115*(z12*(z12*4))=m115 := by
  have q : z115*(z12*(z12*4))=(z113*(z12*(z12*4)))*1+(z114*(z12*(z12*4)))*1 := by rw [e115]; grind
  rw [q,d113,d114,hm115]
 clear e115
 obtain ⟨m116,hm116⟩ : ∃ m,m=m115*1+z112*(z12*(z12*4)) := ⟨_,rfl⟩
 have d116 : z116*(z12*(z12*4))=m116 := by
  have q : z116*(z12*(z12*4))=(z115*(z12*(z12*4)))*1+z112*(z12*(z12*4)) := by rw [e116]; grind
  rw [q,d115,hm116]
 clear e116
 obtain ⟨m117,hm117⟩ : ∃ m,m=-m116 := ⟨_,rfl⟩
 have d117 : z117*(z12*(z12*4))=m117 := by
  have q : z117*(z12*(z12*4))=-(z116*(z12*(z12*4))) := by rw [e117]; grind
  rw [q,d116,hm117]
 clear e117
 obtain ⟨m118,hm118⟩ : ∃ m,m=z108*m117 := ⟨_,rfl⟩
 have d118 : z118*(z12*(z12*4))=m118 := by
  have q : z118*(z12*(z12*4))=z108*(z117*(z12*(z12*4))) := by rw [e118]; grind
  rw [q,d117,hm118]
 clear e118
 obtain ⟨m119,hm119⟩ : ∃ m,m=z20*m117 := ⟨_,rfl⟩
 have d119 : z119*(z12*(z12*4))=m119 := by
  have q : z119*(z12*(z12*4))=z20*(z117*(z12*(z12*4))) := by rw [e119]; grind
  rw [q,d117,hm119]
 clear e119
 have h122 : z122*z121=z118 := by rw [e122]; exact Rat.div_mul_cancel n121
 obtain ⟨m122,hm122⟩ : ∃ m,m=m118 := ⟨_,rfl⟩
 have d122 : z122*(z12*(z12*(z121*4)))=m122 := by
  have q : z122*(z12*(z12*(z121*4)))=(z122*z121)*(z12*(z12*4)) := by grind
  rw [q,h122,d118,hm122]
 clear h122 e122
 have h123 : z123*z121=z119 := by rw [e123]; exact Rat.div_mul_cancel n121
 obtain ⟨m123,hm123⟩ : ∃ m,m=m119 := ⟨_,rfl⟩
 have d123 : z123*(z12*(z12*(z121*4)))=m123 := by
  have q : z123*(z12*(z12*(z121*4)))=(z123*z121)*(z12*(z12*4)) := by grind
  rw [q,h123,d119,hm123]
 clear h123 e123
 obtain ⟨m124,hm124⟩ : ∃ m,m=m88*z121+m122*1 := ⟨_,rfl⟩
 have d124 : z124*(z12*(z12*(z121*4)))=m124 := by
  have q : z124*(z12*(z12*(z121*4)))=(z88*(z12*(z12*4)))*z121+(z122*(z12*(z12*(z121*4))))*1 := by rw [e124]; grind
  rw [q,d88,d122,hm124]
 clear e124
 obtain ⟨m125,hm125⟩ : ∃ m,m=m89*z121+m123*1 := ⟨_,rfl⟩
 have d125 : z125*(z12*(z12*(z121*4)))=m125 := by
  have q : z125*(z12*(z12*(z121*4)))=(z89*(z12*(z12*4)))*z121+(z123*(z12*(z12*(z121*4))))*1 := by rw [e125]; grind
  rw [q,d89,d123,hm125]
 clear e125
 obtain ⟨m173,hm173⟩ : ∃ m,m=m124*8 - m67*(z121*4) := ⟨_,rfl⟩
 have d173 : z173*(z12*(z12*(z121*(4*8))))=m173 := by
  have q : z173*(z12*(z12*(z121*(4*8))))=(z124*(z12*(z12*(z121*4))))*8 - (z67*(z12*(z12*8)))*(z121*4) := by rw [e173]; grind
  rw [q,d124,d67,hm173]
 clear e173
 obtain ⟨m174,hm174⟩ : ∃ m,m=m125*8 - m68*(z121*4) := ⟨_,rfl⟩
 have d174 : z174*(z12*(z12*(z121*(4*8))))=m174 := by
  have q : z174*(z12*(z12*(z121*(4*8))))=(z125*(z12*(z12*(z121*4))))*8 - (z68*(z12*(z12*8)))*(z121*4) := by rw [e174]; grind
  rw [q,d125,d68,hm174]
 clear e174
 obtain ⟨m175,hm175⟩ : ∃ m,m=m173*m173 := ⟨_,rfl⟩
 have d175 : z175*(z12*(z12*(z12*(z12*(z121*(z121*(4*(4*(8*8)))))))))=m175 := by
  have q : z175*(z12*(z12*(z12*(z12*(z121*(z121*(4*(4*(8*8)))))))))=(z173*(z12*(z12*(z121*(4*8)))))*(z173*(z12*(z12*(z121*(4*8))))) := by rw [e175]; grind
  rw [q,d173,hm175]
 clear e175
 obtain ⟨m176,hm176⟩ : ∃ m,m=m174*m174 := ⟨_,rfl⟩
 have d176 : z176*(z12*(z12*(z12*(z12*(z121*(z121*(4*(4*(8*8)))))))))=m176 := by
  have q : z176*(z12*(z12*(z12*(z12*(z121*(z121*(4*(4*(8*8)))))))))=(z174*(z12*(z12*(z121*(4*8)))))*(z174*(z12*(z12*(z121*(4*8))))) := by rw [e176]; grind
  rw [q,d174,hm176]
 clear e176
 obtain ⟨m177,hm177⟩ : ∃ m,m=m175*1+m176*1 := ⟨_,rfl⟩
 have d177 : z177*(z12*(z12*(z12*(z12*(z121*(z121*(4*(4*(8*8)))))))))=m177 := by
  have q : z177*(z12*(z12*(z12*(z12*(z121*(z121*(4*(4*(8*8)))))))))=(z175*(z12*(z12*(z12*(z12*(z121*(z121*(4*(4*(8*8))))))))))*1+(z176*(z12*(z12*(z12*(z12*(z121*(z121*(4*(4*(8*8))))))))))*1 := by rw [e177]; grind
  rw [q,d175,d176,hm177]
 clear e177
 obtain ⟨m178,hm178⟩ : ∃ m,m=m177*z14 - m73*(z12*(z12*(z121*(z121*(4*(4*(8*8))))))) := ⟨_,rfl⟩
 have d178 : z178*(z12*(z12*(z12*(z12*(z121*(z121*(z14*(4*(4*(8*8))))))))))=m178 := by
  have q : z178*(z12*(z12*(z12*(z12*(z121*(z121*(z14*(4*(4*(8*8))))))))))=(z177*(z12*(z12*(z12*(z12*(z121*(z121*(4*(4*(8*8))))))))))*z14 - (z73*(z12*(z12*z14)))*(z12*(z12*(z121*(z121*(4*(4*(8*8))))))) := by rw [e178]; grind
  rw [q,d177,d73,hm178]
 clear e178
 have hpoly : m178=0 := by
  clear d67 d68 d72 d73 d88 d89 d113 d114 d115 d116 d117 d118 d119 d122 d123 d124 d125 d173 d174 d175 d176 d177 d178
  have c2 : z2=z6+z0 := by rw [e6]; grind
  clear e6
  subst c2
  have c4 : z4=z8+z0 := by rw [e8]; grind
  clear e8
  subst c4
  have c3 : z3=z7+z1 := by rw [e7]; grind
  clear e7
  subst c3
  have c5 : z5=z9+z1 := by rw [e9]; grind
  clear e9
  subst c5
  subst_vars; grind
 have hgoal : z178=0 := (Rat.mul_eq_zero.1 (d178.trans hpoly)).resolve_right (mul_ne w12 (mul_ne w12 (mul_ne w12 (mul_ne w12 (mul_ne w121 (mul_ne w121 (mul_ne w14 (mul_ne (by decide) (mul_ne (by decide) (mul_ne (by decide) (by decide)))))))))))
 exact hgoal
theorem triangleNine_f6 {z0 z1 z2 z3 z4 z5 z6 z7 z8 z9 z10 z11 z12 z14 z15 z16 z17 z18 z19 z20 z21 z22 z23 z24 z25 z26 z27 z28 z29 z30 z31 z32 z33 z34 z35 z36 z37 z38 z39 z40 z41 z42 z43 z44 z45 z46 z47 z48 z49 z50 z51 z52 z53 z54 z55 z56 z57 z58 z59 z60 z61 z62 z63 z64 z65 z66 z67 z68 z69 z70 z71 z72 z73 z74 z75 z76 z77 z78 z79 z80 z81 z82 z83 z84 z85 z86 z87 z88 z89 z150 z179 z180 z181 z182 z183 z184 z185 z186 z187 z188 z189 z190 : Rat} : z6=z2-z0→z7=z3-z1→z8=z4-z0→z9=z5-z1→z10=z6*z9→z11=z7*z8→z12=z10-z11→z14=16→z15=z4-z2→z16=z5-z3→z17=z15*z15→z18=z16*z16→z19=z17+z18→z20=z0-z4→z21=z1-z5→z22=z20*z20→z23=z21*z21→z24=z22+z23→z25=z6*z6→z26=z7*z7→z27=z25+z26→z28=-z19→z29=z24+z27→z30=z29+z28→z31=z19*z30→z32=-z27→z33=z19+z24→z34=z33+z32→z35=-z24→z36=z19+z27→z37=z36+z35→z38=z34*z37→z39=z31+z38→z40=z27+z19→z41=z40+z35→z42=z24*z41→z43=z24+z19→z44=z43+z32→z45=z30*z44→z46=z42+z45→z47=z27*z34→z48=z27+z24→z49=z48+z28→z50=z41*z49→z51=z47+z50→z52=z39+z46→z53=z52+z51→z54=z0*z39→z55=z1*z39→z56=0→z57=z56+z54→z58=z56+z55→z59=z2*z46→z60=z3*z46→z61=z57+z59→z62=z58+z60→z63=z4*z51→z64=z5*z51→z65=z61+z63→z66=z62+z64→z67=z65/z53→z68=z66/z53→z69=z19*z24→z70=z69*z27→z71=z12*z12→z72=z70/z71→z73=z72/z14→z74=z38+z45→z75=z74+z50→z76=z0*z38→z77=z1*z38→z78=z56+z76→z79=z56+z77→z80=z2*z45→z81=z3*z45→z82=z78+z80→z83=z79+z81→z84=z4*z50→z85=z5*z50→z86=z82+z84→z87=z83+z85→z88=z86/z75→z89=z87/z75→z150=(1/2)→z179=z88-z2→z180=z89-z3→z181=z179*z150→z182=z180*z150→z183=z2+z181→z184=z3+z182→z185=z183-z67→z186=z184-z68→z187=z185*z185→z188=z186*z186→z189=z187+z188→z190=z189-z73→(¬ (z12=0))→z190=0 := by
 intro e6 e7 e8 e9 e10 e11 e12 e14 e15 e16 e17 e18 e19 e20 e21 e22 e23 e24 e25 e26 e27 e28 e29 e30 e31 e32 e33 e34 e35 e36 e37 e38 e39 e40 e41 e42 e43 e44 e45 e46 e47 e48 e49 e50 e51 e52 e53 e54 e55 e56 e57 e58 e59 e60 e61 e62 e63 e64 e65 e66 e67 e68 e69 e70 e71 e72 e73 e74 e75 e76 e77 e78 e79 e80 e81 e82 e83 e84 e85 e86 e87 e88 e89 e150 e179 e180 e181 e182 e183 e184 e185 e186 e187 e188 e189 e190 u0
 have f53 : z53=(z12*(z12*8)) := by
  have c2 : z2=z6+z0 := by rw [e6]; grind
  clear e6
  subst c2
  have c4 : z4=z8+z0 := by rw [e8]; grind
  clear e8
  subst c4
  have c3 : z3=z7+z1 := by rw [e7]; grind
  clear e7
  subst c3
  have c5 : z5=z9+z1 := by rw [e9]; grind
  clear e9
  subst c5
  subst_vars; grind
 have f75 : z75=(z12*(z12*4)) := by
  have c2 : z2=z6+z0 := by rw [e6]; grind
  clear e6
  subst c2
  have c4 : z4=z8+z0 := by rw [e8]; grind
  clear e8
  subst c4
  have c3 : z3=z7+z1 := by rw [e7]; grind
  clear e7
  subst c3
  have c5 : z5=z9+z1 := by rw [e9]; grind
  clear e9
  subst c5
  subst_vars; grind
 have w14 : z14 ≠ 0 := by rw [e14]; decide
 have w12 : z12 ≠ 0 := by first | assumption | grind
 have n53 : z53 ≠ 0 := by rw [f53]; exact (mul_ne w12 (mul_ne w12 (by decide)))
 have n71 : z71 ≠ 0 := by rw [e71]; exact (mul_ne w12 w12)
 have n75 : z75 ≠ 0 := by rw [f75]; exact (mul_ne w12 (mul_ne w12 (by decide)))
 have h67 : z67*z53=z65 := by rw [e67]; exact Rat.div_mul_cancel n53
 rw [f53] at h67
 obtain ⟨m67,hm67⟩ : ∃ m,m=z65 := ⟨_,rfl⟩
 have d67 : z67*(z12*(z12*8))=m67 := by
  have q : z67*(z12*(z12*8))=z67*(z12*(z12*8)) := by grind
  rw [q,h67,hm67]
 clear h67 e67
 have h68 : z68*z53=z66 := by rw [e68]; exact Rat.div_mul_cancel n53
 rw [f53] at h68
 obtain ⟨m68,hm68⟩ : ∃ m,m=z66 := ⟨_,rfl⟩
 have d68 : z68*(z12*(z12*8))=m68 := by
  have q : z68*(z12*(z12*8))=z68*(z12*(z12*8)) := by grind
  rw [q,h68,hm68]
 clear h68 e68
 have h72 : z72*z71=z70 := by rw [e72]; exact Rat.div_mul_cancel n71
 rw [e71] at h72
 obtain ⟨m72,hm72⟩ : ∃ m,m=z70 := ⟨_,rfl⟩
 have d72 : z72*(z12*z12)=m72 := by
  have q : z72*(z12*z12)=z72*(z12*z12) := by grind
  rw [q,h72,hm72]
 clear h72 e72
 have h73 : z73*z14=z72 := by rw [e73]; exact Rat.div_mul_cancel (by rw [e14]; decide)
 obtain ⟨m73,hm73⟩ : ∃ m,m=m72 := ⟨_,rfl⟩
 have d73 : z73*(z12*(z12*z14))=m73 := by
  have q : z73*(z12*(z12*z14))=(z73*z14)*(z12*z12) := by grind
  rw [q,h73,d72,hm73]
 clear h73 e73
 have h88 : z88*z75=z86 := by rw [e88]; exact Rat.div_mul_cancel n75
 rw [f75] at h88
 obtain ⟨m88,hm88⟩ : ∃ m,m=z86 := ⟨_,rfl⟩
 have d88 : z88*(z12*(z12*4))=m88 := by
  have q : z88*(z12*(z12*4))=z88*(z12*(z12*4)) := by grind
  rw [q,h88,hm88]
 clear h88 e88
 have h89 : z89*z75=z87 := by rw [e89]; exact Rat.div_mul_cancel n75
 rw [f75] at h89
 obtain ⟨m89,hm89⟩ : ∃ m,m=z87 := ⟨_,rfl⟩
 have d89 : z89*(z12*(z12*4))=m89 := by
  have q : z89*(z12*(z12*4))=z89*(z12*(z12*4)) := by grind
  rw [q,h89,hm89]
 clear h89 e89
 obtain ⟨m179,hm179⟩ : ∃ m,m=m88*1 - z2*(z12*(z12*4)) := ⟨_,rfl⟩
 have d179 : z179*(z12*(z12*4))=m179 := by
  have q : z179*(z12*(z12*4))=(z88*(z12*(z12*4)))*1 - z2*(z12*(z12*4)) := by rw [e179]; grind
  rw [q,d88,hm179]
 clear e179
 obtain ⟨m180,hm180⟩ : ∃ m,m=m89*1 - z3*(z12*(z12*4)) := ⟨_,rfl⟩
 have d180 : z180*(z12*(z12*4))=m180 := by
  have q : z180*(z12*(z12*4))=(z89*(z12*(z12*4)))*1 - z3*(z12*(z12*4)) := by rw [e180]; grind
  rw [q,d89,hm180]
 clear e180
 obtain ⟨m181,hm181⟩ : ∃ m,m=m179*z150 := ⟨_,rfl⟩
 have d181 : z181*(z12*(z12*4))=m181 := by
  have q : z181*(z12*(z12*4))=(z179*(z12*(z12*4)))*z150 := by rw [e181]; grind
  rw [q,d179,hm181]
 clear e181
 obtain ⟨m182,hm182⟩ : ∃ m,m=m180*z150 := ⟨_,rfl⟩
 have d182 : z182*(z12*(z12*4))=m182 := by
  have q : z182*(z12*(z12*4))=(z180*(z12*(z12*4)))*z150 := by rw [e182]; grind
  rw [q,d180,hm182]
 clear e182
 obtain ⟨m183,hm183⟩ : ∃ m,m=z2*(z12*(z12*4))+m181*1 := ⟨_,rfl⟩
 have d183 : z183*(z12*(z12*4))=m183 := by
  have q : z183*(z12*(z12*4))=z2*(z12*(z12*4))+(z181*(z12*(z12*4)))*1 := by rw [e183]; grind
  rw [q,d181,hm183]
 clear e183
 obtain ⟨m184,hm184⟩ : ∃ m,m=z3*(z12*(z12*4))+m182*1 := ⟨_,rfl⟩
 have d184 : z184*(z12*(z12*4))=m184 := by
  have q : z184*(z12*(z12*4))=z3*(z12*(z12*4))+(z182*(z12*(z12*4)))*1 := by rw [e184]; grind
  rw [q,d182,hm184]
 clear e184
 obtain ⟨m185,hm185⟩ : ∃ m,m=m183*8 - m67*4 := ⟨_,rfl⟩
 have d185 : z185*(z12*(z12*(4*8)))=m185 := by
  have q : z185*(z12*(z12*(4*8)))=(z183*(z12*(z12*4)))*8 - (z67*(z12*(z12*8)))*4 := by rw [e185]; grind
  rw [q,d183,d67,hm185]
 clear e185
 obtain ⟨m186,hm186⟩ : ∃ m,m=m184*8 - m68*4 := ⟨_,rfl⟩
 have d186 : z186*(z12*(z12*(4*8)))=m186 := by
  have q : z186*(z12*(z12*(4*8)))=(z184*(z12*(z12*4)))*8 - (z68*(z12*(z12*8)))*4 := by rw [e186]; grind
  rw [q,d184,d68,hm186]
 clear e186
 obtain ⟨m187,hm187⟩ : ∃ m,m=m185*m185 := ⟨_,rfl⟩
 have d187 : z187*(z12*(z12*(z12*(z12*(4*(4*(8*8)))))))=m187 := by
  have q : z187*(z12*(z12*(z12*(z12*(4*(4*(8*8)))))))=(z185*(z12*(z12*(4*8))))*(z185*(z12*(z12*(4*8)))) := by rw [e187]; grind
  rw [q,d185,hm187]
 clear e187
 obtain ⟨m188,hm188⟩ : ∃ m,m=m186*m186 := ⟨_,rfl⟩
 have d188 : z188*(z12*(z12*(z12*(z12*(4*(4*(8*8)))))))=m188 := by
  have q : z188*(z12*(z12*(z12*(z12*(4*(4*(8*8)))))))=(z186*(z12*(z12*(4*8))))*(z186*(z12*(z12*(4*8)))) := by rw [e188]; grind
  rw [q,d186,hm188]
 clear e188
 obtain ⟨m189,hm189⟩ : ∃ m,m=m187*1+m188*1 := ⟨_,rfl⟩
 have d189 : z189*(z12*(z12*(z12*(z12*(4*(4*(8*8)))))))=m189 := by
  have q : z189*(z12*(z12*(z12*(z12*(4*(4*(8*8)))))))=(z187*(z12*(z12*(z12*(z12*(4*(4*(8*8))))))))*1+(z188*(z12*(z12*(z12*(z12*(4*(4*(8*8))))))))*1 := by rw [e189]; grind
  rw [q,d187,d188,hm189]
 clear e189
 obtain ⟨m190,hm190⟩ : ∃ m,m=m189*z14 - m73*(z12*(z12*(4*(4*(8*8))))) := ⟨_,rfl⟩
 have d190 : z190*(z12*(z12*(z12*(z12*(z14*(4*(4*(8*8))))))))=m190 := by
  have q : z190*(z12*(z12*(z12*(z12*(z14*(4*(4*(8*8))))))))=(z189*(z12*(z12*(z12*(z12*(4*(4*(8*8))))))))*z14 - (z73*(z12*(z12*z14)))*(z12*(z12*(4*(4*(8*8))))) := by rw [e190]; grind
  rw [q,d189,d73,hm190]
 clear e190
 have hpoly : m190=0 := by
  clear d67 d68 d72 d73 d88 d89 d179 d180 d181 d182 d183 d184 d185 d186 d187 d188 d189 d190
  have c2 : z2=z6+z0 := by rw [e6]; grind
  clear e6
  subst c2
  have c4 : z4=z8+z0 := by rw [e8]; grind
  clear e8
  subst c4
  have c3 : z3=z7+z1 := by rw [e7]; grind
  clear e7
  subst c3
  have c5 : z5=z9+z1 := by rw [e9]; grind
  clear e9
  subst c5
  subst_vars; grind
 have hgoal : z190=0 := (Rat.mul_eq_zero.1 (d190.trans hpoly)).resolve_right (mul_ne w12 (mul_ne w12 (mul_ne w12 (mul_ne w12 (mul_ne w14 (mul_ne (by decide) (mul_ne (by decide) (mul_ne (by decide) (by decide)))))))))
 exact hgoal
theorem triangleNine_f7 {z0 z1 z2 z3 z4 z5 z6 z7 z8 z9 z10 z11 z12 z14 z15 z16 z17 z18 z19 z20 z21 z22 z23 z24 z25 z26 z27 z28 z29 z30 z31 z32 z33 z34 z35 z36 z37 z38 z39 z40 z41 z42 z43 z44 z45 z46 z47 z48 z49 z50 z51 z52 z53 z54 z55 z56 z57 z58 z59 z60 z61 z62 z63 z64 z65 z66 z67 z68 z69 z70 z71 z72 z73 z150 z191 z192 z193 z194 z195 z196 z197 z198 z199 z200 : Rat} : z6=z2-z0→z7=z3-z1→z8=z4-z0→z9=z5-z1→z10=z6*z9→z11=z7*z8→z12=z10-z11→z14=16→z15=z4-z2→z16=z5-z3→z17=z15*z15→z18=z16*z16→z19=z17+z18→z20=z0-z4→z21=z1-z5→z22=z20*z20→z23=z21*z21→z24=z22+z23→z25=z6*z6→z26=z7*z7→z27=z25+z26→z28=-z19→z29=z24+z27→z30=z29+z28→z31=z19*z30→z32=-z27→z33=z19+z24→z34=z33+z32→z35=-z24→z36=z19+z27→z37=z36+z35→z38=z34*z37→z39=z31+z38→z40=z27+z19→z41=z40+z35→z42=z24*z41→z43=z24+z19→z44=z43+z32→z45=z30*z44→z46=z42+z45→z47=z27*z34→z48=z27+z24→z49=z48+z28→z50=z41*z49→z51=z47+z50→z52=z39+z46→z53=z52+z51→z54=z0*z39→z55=z1*z39→z56=0→z57=z56+z54→z58=z56+z55→z59=z2*z46→z60=z3*z46→z61=z57+z59→z62=z58+z60→z63=z4*z51→z64=z5*z51→z65=z61+z63→z66=z62+z64→z67=z65/z53→z68=z66/z53→z69=z19*z24→z70=z69*z27→z71=z12*z12→z72=z70/z71→z73=z72/z14→z150=(1/2)→z191=z15*z150→z192=z16*z150→z193=z2+z191→z194=z3+z192→z195=z193-z67→z196=z194-z68→z197=z195*z195→z198=z196*z196→z199=z197+z198→z200=z199-z73→(¬ (z12=0))→z200=0 := by
 intro e6 e7 e8 e9 e10 e11 e12 e14 e15 e16 e17 e18 e19 e20 e21 e22 e23 e24 e25 e26 e27 e28 e29 e30 e31 e32 e33 e34 e35 e36 e37 e38 e39 e40 e41 e42 e43 e44 e45 e46 e47 e48 e49 e50 e51 e52 e53 e54 e55 e56 e57 e58 e59 e60 e61 e62 e63 e64 e65 e66 e67 e68 e69 e70 e71 e72 e73 e150 e191 e192 e193 e194 e195 e196 e197 e198 e199 e200 u0
 have f53 : z53=(z12*(z12*8)) := by
  have c2 : z2=z6+z0 := by rw [e6]; grind
  clear e6
  subst c2
  have c4 : z4=z8+z0 := by rw [e8]; grind
  clear e8
  subst c4
  have c3 : z3=z7+z1 := by rw [e7]; grind
  clear e7
  subst c3
  have c5 : z5=z9+z1 := by rw [e9]; grind
  clear e9
  subst c5
  subst_vars; grind
 have w14 : z14 ≠ 0 := by rw [e14]; decide
 have w12 : z12 ≠ 0 := by first | assumption | grind
 have n53 : z53 ≠ 0 := by rw [f53]; exact (mul_ne w12 (mul_ne w12 (by decide)))
 have n71 : z71 ≠ 0 := by rw [e71]; exact (mul_ne w12 w12)
 have h67 : z67*z53=z65 := by rw [e67]; exact Rat.div_mul_cancel n53
 rw [f53] at h67
 obtain ⟨m67,hm67⟩ : ∃ m,m=z65 := ⟨_,rfl⟩
 have d67 : z67*(z12*(z12*8))=m67 := by
  have q : z67*(z12*(z12*8))=z67*(z12*(z12*8)) := by grind
  rw [q,h67,hm67]
 clear h67 e67
 have h68 : z68*z53=z66 := by rw [e68]; exact Rat.div_mul_cancel n53
 rw [f53] at h68
 obtain ⟨m68,hm68⟩ : ∃ m,m=z66 := ⟨_,rfl⟩
 have d68 : z68*(z12*(z12*8))=m68 := by
  have q : z68*(z12*(z12*8))=z68*(z12*(z12*8)) := by grind
  rw [q,h68,hm68]
 clear h68 e68
 have h72 : z72*z71=z70 := by rw [e72]; exact Rat.div_mul_cancel n71
 rw [e71] at h72
 obtain ⟨m72,hm72⟩ : ∃ m,m=z70 := ⟨_,rfl⟩
 have d72 : z72*(z12*z12)=m72 := by
  have q : z72*(z12*z12)=z72*(z12*z12) := by grind
  rw [q,h72,hm72]
 clear h72 e72
 have h73 : z73*z14=z72 := by rw [e73]; exact Rat.div_mul_cancel (by rw [e14]; decide)
 obtain ⟨m73,hm73⟩ : ∃ m,m=m72 := ⟨_,rfl⟩
 have d73 : z73*(z12*(z12*z14))=m73 := by
  have q : z73*(z12*(z12*z14))=(z73*z14)*(z12*z12) := by grind
  rw [q,h73,d72,hm73]
 clear h73 e73
 obtain ⟨m195,hm195⟩ : ∃ m,m=z193*(z12*(z12*8)) - m67*1 := ⟨_,rfl⟩
 have d195 : z195*(z12*(z12*8))=m195 := by
  have q : z195*(z12*(z12*8))=z193*(z12*(z12*8)) - (z67*(z12*(z12*8)))*1 := by rw [e195]; grind
  rw [q,d67,hm195]
 clear e195
 obtain ⟨m196,hm196⟩ : ∃ m,m=z194*(z12*(z12*8)) - m68*1 := ⟨_,rfl⟩
 have d196 : z196*(z12*(z12*8))=m196 := by
  have q : z196*(z12*(z12*8))=z194*(z12*(z12*8)) - (z68*(z12*(z12*8)))*1 := by rw [e196]; grind
  rw [q,d68,hm196]
 clear e196
 obtain ⟨m197,hm197⟩ : ∃ m,m=m195*m195 := ⟨_,rfl⟩
 have d197 : z197*(z12*(z12*(z12*(z12*(8*8)))))=m197 := by
  have q : z197*(z12*(z12*(z12*(z12*(8*8)))))=(z195*(z12*(z12*8)))*(z195*(z12*(z12*8))) := by rw [e197]; grind
  rw [q,d195,hm197]
 clear e197
 obtain ⟨m198,hm198⟩ : ∃ m,m=m196*m196 := ⟨_,rfl⟩
 have d198 : z198*(z12*(z12*(z12*(z12*(8*8)))))=m198 := by
  have q : z198*(z12*(z12*(z12*(z12*(8*8)))))=(z196*(z12*(z12*8)))*(z196*(z12*(z12*8))) := by rw [e198]; grind
  rw [q,d196,hm198]
 clear e198
 obtain ⟨m199,hm199⟩ : ∃ m,m=m197*1+m198*1 := ⟨_,rfl⟩
 have d199 : z199*(z12*(z12*(z12*(z12*(8*8)))))=m199 := by
  have q : z199*(z12*(z12*(z12*(z12*(8*8)))))=(z197*(z12*(z12*(z12*(z12*(8*8))))))*1+(z198*(z12*(z12*(z12*(z12*(8*8))))))*1 := by rw [e199]; grind
  rw [q,d197,d198,hm199]
 clear e199
 obtain ⟨m200,hm200⟩ : ∃ m,m=m199*z14 - m73*(z12*(z12*(8*8))) := ⟨_,rfl⟩
 have d200 : z200*(z12*(z12*(z12*(z12*(z14*(8*8))))))=m200 := by
  have q : z200*(z12*(z12*(z12*(z12*(z14*(8*8))))))=(z199*(z12*(z12*(z12*(z12*(8*8))))))*z14 - (z73*(z12*(z12*z14)))*(z12*(z12*(8*8))) := by rw [e200]; grind
  rw [q,d199,d73,hm200]
 clear e200
 have hpoly : m200=0 := by
  clear d67 d68 d72 d73 d195 d196 d197 d198 d199 d200
  have c2 : z2=z6+z0 := by rw [e6]; grind
  clear e6
  subst c2
  have c4 : z4=z8+z0 := by rw [e8]; grind
  clear e8
  subst c4
  have c3 : z3=z7+z1 := by rw [e7]; grind
  clear e7
  subst c3
  have c5 : z5=z9+z1 := by rw [e9]; grind
  clear e9
  subst c5
  subst_vars; grind
 have hgoal : z200=0 := (Rat.mul_eq_zero.1 (d200.trans hpoly)).resolve_right (mul_ne w12 (mul_ne w12 (mul_ne w12 (mul_ne w12 (mul_ne w14 (mul_ne (by decide) (by decide)))))))
 exact hgoal
theorem triangleNine_f8 {z0 z1 z2 z3 z4 z5 z6 z7 z8 z9 z10 z11 z12 z14 z15 z16 z17 z18 z19 z20 z21 z22 z23 z24 z25 z26 z27 z28 z29 z30 z31 z32 z33 z34 z35 z36 z37 z38 z39 z40 z41 z42 z43 z44 z45 z46 z47 z48 z49 z50 z51 z52 z53 z54 z55 z56 z57 z58 z59 z60 z61 z62 z63 z64 z65 z66 z67 z68 z69 z70 z71 z72 z73 z74 z75 z76 z77 z78 z79 z80 z81 z82 z83 z84 z85 z86 z87 z88 z89 z126 z127 z128 z129 z130 z131 z132 z133 z134 z135 z136 z137 z138 z139 z140 z141 z142 z143 z201 z202 z203 z204 z205 z206 : Rat} : z6=z2-z0→z7=z3-z1→z8=z4-z0→z9=z5-z1→z10=z6*z9→z11=z7*z8→z12=z10-z11→z14=16→z15=z4-z2→z16=z5-z3→z17=z15*z15→z18=z16*z16→z19=z17+z18→z20=z0-z4→z21=z1-z5→z22=z20*z20→z23=z21*z21→z24=z22+z23→z25=z6*z6→z26=z7*z7→z27=z25+z26→z28=-z19→z29=z24+z27→z30=z29+z28→z31=z19*z30→z32=-z27→z33=z19+z24→z34=z33+z32→z35=-z24→z36=z19+z27→z37=z36+z35→z38=z34*z37→z39=z31+z38→z40=z27+z19→z41=z40+z35→z42=z24*z41→z43=z24+z19→z44=z43+z32→z45=z30*z44→z46=z42+z45→z47=z27*z34→z48=z27+z24→z49=z48+z28→z50=z41*z49→z51=z47+z50→z52=z39+z46→z53=z52+z51→z54=z0*z39→z55=z1*z39→z56=0→z57=z56+z54→z58=z56+z55→z59=z2*z46→z60=z3*z46→z61=z57+z59→z62=z58+z60→z63=z4*z51→z64=z5*z51→z65=z61+z63→z66=z62+z64→z67=z65/z53→z68=z66/z53→z69=z19*z24→z70=z69*z27→z71=z12*z12→z72=z70/z71→z73=z72/z14→z74=z38+z45→z75=z74+z50→z76=z0*z38→z77=z1*z38→z78=z56+z76→z79=z56+z77→z80=z2*z45→z81=z3*z45→z82=z78+z80→z83=z79+z81→z84=z4*z50→z85=z5*z50→z86=z82+z84→z87=z83+z85→z88=z86/z75→z89=z87/z75→z126=-z7→z127=z126*z0→z128=z6*z1→z129=z127+z128→z130=-z129→z131=z126*z88→z132=z6*z89→z133=z131+z132→z134=z133+z130→z135=-z134→z136=z126*z135→z137=z6*z135→z138=z126*z126→z139=z138+z25→z140=z136/z139→z141=z137/z139→z142=z88+z140→z143=z89+z141→z201=z142-z67→z202=z143-z68→z203=z201*z201→z204=z202*z202→z205=z203+z204→z206=z205-z73→(¬ (z12=0))→z206=0 := by
 intro e6 e7 e8 e9 e10 e11 e12 e14 e15 e16 e17 e18 e19 e20 e21 e22 e23 e24 e25 e26 e27 e28 e29 e30 e31 e32 e33 e34 e35 e36 e37 e38 e39 e40 e41 e42 e43 e44 e45 e46 e47 e48 e49 e50 e51 e52 e53 e54 e55 e56 e57 e58 e59 e60 e61 e62 e63 e64 e65 e66 e67 e68 e69 e70 e71 e72 e73 e74 e75 e76 e77 e78 e79 e80 e81 e82 e83 e84 e85 e86 e87 e88 e89 e126 e127 e128 e129 e130 e131 e132 e133 e134 e135 e136 e137 e138 e139 e140 e141 e142 e143 e201 e202 e203 e204 e205 e206 u0
 have f53 : z53=(z12*(z12*8)) := by
  have c2 : z2=z6+z0 := by rw [e6]; grind
  clear e6
  subst c2
  have c4 : z4=z8+z0 := by rw [e8]; grind
  clear e8
  subst c4
  have c3 : z3=z7+z1 := by rw [e7]; grind
  clear e7
  subst c3
  have c5 : z5=z9+z1 := by rw [e9]; grind
  clear e9
  subst c5
  subst_vars; grind
 have f75 : z75=(z12*(z12*4)) := by
  have c2 : z2=z6+z0 := by rw [e6]; grind
  clear e6
  subst c2
  have c4 : z4=z8+z0 := by rw [e8]; grind
  clear e8
  subst c4
  have c3 : z3=z7+z1 := by rw [e7]; grind
  clear e7
  subst c3
  have c5 : z5=z9+z1 := by rw [e9]; grind
  clear e9
  subst c5
  subst_vars; grind
 have w14 : z14 ≠ 0 := by rw [e14]; decide
 have w12 : z12 ≠ 0 := by first | assumption | grind
 have w139 : z139 ≠ 0 := by (have hp := sq_pos (x := z126) (y := z6) (by grind)); grind
 have n53 : z53 ≠ 0 := by rw [f53]; exact (mul_ne w12 (mul_ne w12 (by decide)))
 have n71 : z71 ≠ 0 := by rw [e71]; exact (mul_ne w12 w12)
 have n75 : z75 ≠ 0 := by rw [f75]; exact (mul_ne w12 (mul_ne w12 (by decide)))
 have n139 : z139 ≠ 0 := w139
 have h67 : z67*z53=z65 := by rw [e67]; exact Rat.div_mul_cancel n53
 rw [f53] at h67
 obtain ⟨m67,hm67⟩ : ∃ m,m=z65 := ⟨_,rfl⟩
 have d67 : z67*(z12*(z12*8))=m67 := by
  have q : z67*(z12*(z12*8))=z67*(z12*(z12*8)) := by grind
  rw [q,h67,hm67]
 clear h67 e67
 have h68 : z68*z53=z66 := by rw [e68]; exact Rat.div_mul_cancel n53
 rw [f53] at h68
 obtain ⟨m68,hm68⟩ : ∃ m,m=z66 := ⟨_,rfl⟩
 have d68 : z68*(z12*(z12*8))=m68 := by
  have q : z68*(z12*(z12*8))=z68*(z12*(z12*8)) := by grind
  rw [q,h68,hm68]
 clear h68 e68
 have h72 : z72*z71=z70 := by rw [e72]; exact Rat.div_mul_cancel n71
 rw [e71] at h72
 obtain ⟨m72,hm72⟩ : ∃ m,m=z70 := ⟨_,rfl⟩
 have d72 : z72*(z12*z12)=m72 := by
  have q : z72*(z12*z12)=z72*(z12*z12) := by grind
  rw [q,h72,hm72]
 clear h72 e72
 have h73 : z73*z14=z72 := by rw [e73]; exact Rat.div_mul_cancel (by rw [e14]; decide)
 obtain ⟨m73,hm73⟩ : ∃ m,m=m72 := ⟨_,rfl⟩
 have d73 : z73*(z12*(z12*z14))=m73 := by
  have q : z73*(z12*(z12*z14))=(z73*z14)*(z12*z12) := by grind
  rw [q,h73,d72,hm73]
 clear h73 e73
 have h88 : z88*z75=z86 := by rw [e88]; exact Rat.div_mul_cancel n75
 rw [f75] at h88
 obtain ⟨m88,hm88⟩ : ∃ m,m=z86 := ⟨_,rfl⟩
 have d88 : z88*(z12*(z12*4))=m88 := by
  have q : z88*(z12*(z12*4))=z88*(z12*(z12*4)) := by grind
  rw [q,h88,hm88]
 clear h88 e88
 have h89 : z89*z75=z87 := by rw [e89]; exact Rat.div_mul_cancel n75
 rw [f75] at h89
 obtain ⟨m89,hm89⟩ : ∃ m,m=z87 := ⟨_,rfl⟩
 have d89 : z89*(z12*(z12*4))=m89 := by
  have q : z89*(z12*(z12*4))=z89*(z12*(z12*4)) := by grind
  rw [q,h89,hm89]
 clear h89 e89
 obtain ⟨m131,hm131⟩ : ∃ m,m=z126*m88 := ⟨_,rfl⟩
 have d131 : z131*(z12*(z12*4))=m131 := by
  have q : z131*(z12*(z12*4))=z126*(z88*(z12*(z12*4))) := by rw [e131]; grind
  rw [q,d88,hm131]
 clear e131
 obtain ⟨m132,hm132⟩ : ∃ m,m=z6*m89 := ⟨_,rfl⟩
 have d132 : z132*(z12*(z12*4))=m132 := by
  have q : z132*(z12*(z12*4))=z6*(z89*(z12*(z12*4))) := by rw [e132]; grind
  rw [q,d89,hm132]
 clear e132
 obtain ⟨m133,hm133⟩ : ∃ m,m=m131*1+m132*1 := ⟨_,rfl⟩
 have d133 : z133*(z12*(z12*4))=m133 := by
  have q : z133*(z12*(z12*4))=(z131*(z12*(z12*4)))*1+(z132*(z12*(z12*4)))*1 := by rw [e133]; grind
  rw [q,d131,d132,hm133]
 clear e133
 obtain ⟨m134,hm134⟩ : ∃ m,m=m133*1+z130*(z12*(z12*4)) := ⟨_,rfl⟩
 have d134 : z134*(z12*(z12*4))=m134 := by
  have q : z134*(z12*(z12*4))=(z133*(z12*(z12*4)))*1+z130*(z12*(z12*4)) := by rw [e134]; grind
  rw [q,d133,hm134]
 clear e134
 obtain ⟨m135,hm135⟩ : ∃ m,m=-m134 := ⟨_,rfl⟩
 have d135 : z135*(z12*(z12*4))=m135 := by
  have q : z135*(z12*(z12*4))=-(z134*(z12*(z12*4))) := by rw [e135]; grind
  rw [q,d134,hm135]
 clear e135
 obtain ⟨m136,hm136⟩ : ∃ m,m=z126*m135 := ⟨_,rfl⟩
 have d136 : z136*(z12*(z12*4))=m136 := by
  have q : z136*(z12*(z12*4))=z126*(z135*(z12*(z12*4))) := by rw [e136]; grind
  rw [q,d135,hm136]
 clear e136
 obtain ⟨m137,hm137⟩ : ∃ m,m=z6*m135 := ⟨_,rfl⟩
 have d137 : z137*(z12*(z12*4))=m137 := by
  have q : z137*(z12*(z12*4))=z6*(z135*(z12*(z12*4))) := by rw [e137]; grind
  rw [q,d135,hm137]
 clear e137
 have h140 : z140*z139=z136 := by rw [e140]; exact Rat.div_mul_cancel n139
 obtain ⟨m140,hm140⟩ : ∃ m,m=m136 := ⟨_,rfl⟩
 have d140 : z140*(z12*(z12*(z139*4)))=m140 := by
  have q : z140*(z12*(z12*(z139*4)))=(z140*z139)*(z12*(z12*4)) := by grind
  rw [q,h140,d136,hm140]
 clear h140 e140
 have h141 : z141*z139=z137 := by rw [e141]; exact Rat.div_mul_cancel n139
 obtain ⟨m141,hm141⟩ : ∃ m,m=m137 := ⟨_,rfl⟩
 have d141 : z141*(z12*(z12*(z139*4)))=m141 := by
  have q : z141*(z12*(z12*(z139*4)))=(z141*z139)*(z12*(z12*4)) := by grind
  rw [q,h141,d137,hm141]
 clear h141 e141
 obtain ⟨m142,hm142⟩ : ∃ m,m=m88*z139+m140*1 := ⟨_,rfl⟩
 have d142 : z142*(z12*(z12*(z139*4)))=m142 := by
  have q : z142*(z12*(z12*(z139*4)))=(z88*(z12*(z12*4)))*z139+(z140*(z12*(z12*(z139*4))))*1 := by rw [e142]; grind
  rw [q,d88,d140,hm142]
 clear e142
 obtain ⟨m143,hm143⟩ : ∃ m,m=m89*z139+m141*1 := ⟨_,rfl⟩
 have d143 : z143*(z12*(z12*(z139*4)))=m143 := by
  have q : z143*(z12*(z12*(z139*4)))=(z89*(z12*(z12*4)))*z139+(z141*(z12*(z12*(z139*4))))*1 := by rw [e143]; grind
  rw [q,d89,d141,hm143]
 clear e143
 obtain ⟨m201,hm201⟩ : ∃ m,m=m142*8 - m67*(z139*4) := ⟨_,rfl⟩
 have d201 : z201*(z12*(z12*(z139*(4*8))))=m201 := by
  have q : z201*(z12*(z12*(z139*(4*8))))=(z142*(z12*(z12*(z139*4))))*8 - (z67*(z12*(z12*8)))*(z139*4) := by rw [e201]; grind
  rw [q,d142,d67,hm201]
 clear e201
 obtain ⟨m202,hm202⟩ : ∃ m,m=m143*8 - m68*(z139*4) := ⟨_,rfl⟩
 have d202 : z202*(z12*(z12*(z139*(4*8))))=m202 := by
  have q : z202*(z12*(z12*(z139*(4*8))))=(z143*(z12*(z12*(z139*4))))*8 - (z68*(z12*(z12*8)))*(z139*4) := by rw [e202]; grind
  rw [q,d143,d68,hm202]
 clear e202
 obtain ⟨m203,hm203⟩ : ∃ m,m=m201*m201 := ⟨_,rfl⟩
 have d203 : z203*(z12*(z12*(z12*(z12*(z139*(z139*(4*(4*(8*8)))))))))=m203 := by
  have q : z203*(z12*(z12*(z12*(z12*(z139*(z139*(4*(4*(8*8)))))))))=(z201*(z12*(z12*(z139*(4*8)))))*(z201*(z12*(z12*(z139*(4*8))))) := by rw [e203]; grind
  rw [q,d201,hm203]
 clear e203
 obtain ⟨m204,hm204⟩ : ∃ m,m=m202*m202 := ⟨_,rfl⟩
 have d204 : z204*(z12*(z12*(z12*(z12*(z139*(z139*(4*(4*(8*8)))))))))=m204 := by
  have q : z204*(z12*(z12*(z12*(z12*(z139*(z139*(4*(4*(8*8)))))))))=(z202*(z12*(z12*(z139*(4*8)))))*(z202*(z12*(z12*(z139*(4*8))))) := by rw [e204]; grind
  rw [q,d202,hm204]
 clear e204
 obtain ⟨m205,hm205⟩ : ∃ m,m=m203*1+m204*1 := ⟨_,rfl⟩
 have d205 : z205*(z12*(z12*(z12*(z12*(z139*(z139*(4*(4*(8*8)))))))))=m205 := by
  have q : z205*(z12*(z12*(z12*(z12*(z139*(z139*(4*(4*(8*8)))))))))=(z203*(z12*(z12*(z12*(z12*(z139*(z139*(4*(4*(8*8))))))))))*1+(z204*(z12*(z12*(z12*(z12*(z139*(z139*(4*(4*(8*8))))))))))*1 := by rw [e205]; grind
  rw [q,d203,d204,hm205]
 clear e205
 obtain ⟨m206,hm206⟩ : ∃ m,m=m205*z14 - m73*(z12*(z12*(z139*(z139*(4*(4*(8*8))))))) := ⟨_,rfl⟩
 have d206 : z206*(z12*(z12*(z12*(z12*(z139*(z139*(z14*(4*(4*(8*8))))))))))=m206 := by
  have q : z206*(z12*(z12*(z12*(z12*(z139*(z139*(z14*(4*(4*(8*8))))))))))=(z205*(z12*(z12*(z12*(z12*(z139*(z139*(4*(4*(8*8))))))))))*z14 - (z73*(z12*(z12*z14)))*(z12*(z12*(z139*(z139*(4*(4*(8*8))))))) := by rw [e206]; grind
  rw [q,d205,d73,hm206]
 clear e206
 have hpoly : m206=0 := by
  clear d67 d68 d72 d73 d88 d89 d131 d132 d133 d134 d135 d136 d137 d140 d141 d142 d143 d201 d202 d203 d204 d205 d206
  have c2 : z2=z6+z0 := by rw [e6]; grind
  clear e6
  subst c2
  have c4 : z4=z8+z0 := by rw [e8]; grind
  clear e8
  subst c4
  have c3 : z3=z7+z1 := by rw [e7]; grind
  clear e7
  subst c3
  have c5 : z5=z9+z1 := by rw [e9]; grind
  clear e9
  subst c5
  subst_vars; grind
 have hgoal : z206=0 := (Rat.mul_eq_zero.1 (d206.trans hpoly)).resolve_right (mul_ne w12 (mul_ne w12 (mul_ne w12 (mul_ne w12 (mul_ne w139 (mul_ne w139 (mul_ne w14 (mul_ne (by decide) (mul_ne (by decide) (mul_ne (by decide) (by decide)))))))))))
 exact hgoal
theorem triangleNine_f9 {z0 z1 z2 z3 z4 z5 z6 z7 z8 z9 z10 z11 z12 z14 z15 z16 z17 z18 z19 z20 z21 z22 z23 z24 z25 z26 z27 z28 z29 z30 z31 z32 z33 z34 z35 z36 z37 z38 z39 z40 z41 z42 z43 z44 z45 z46 z47 z48 z49 z50 z51 z52 z53 z54 z55 z56 z57 z58 z59 z60 z61 z62 z63 z64 z65 z66 z67 z68 z69 z70 z71 z72 z73 z74 z75 z76 z77 z78 z79 z80 z81 z82 z83 z84 z85 z86 z87 z88 z89 z150 z207 z208 z209 z210 z211 z212 z213 z214 z215 z216 z217 z218 : Rat} : z6=z2-z0→z7=z3-z1→z8=z4-z0→z9=z5-z1→z10=z6*z9→z11=z7*z8→z12=z10-z11→z14=16→z15=z4-z2→z16=z5-z3→z17=z15*z15→z18=z16*z16→z19=z17+z18→z20=z0-z4→z21=z1-z5→z22=z20*z20→z23=z21*z21→z24=z22+z23→z25=z6*z6→z26=z7*z7→z27=z25+z26→z28=-z19→z29=z24+z27→z30=z29+z28→z31=z19*z30→z32=-z27→z33=z19+z24→z34=z33+z32→z35=-z24→z36=z19+z27→z37=z36+z35→z38=z34*z37→z39=z31+z38→z40=z27+z19→z41=z40+z35→z42=z24*z41→z43=z24+z19→z44=z43+z32→z45=z30*z44→z46=z42+z45→z47=z27*z34→z48=z27+z24→z49=z48+z28→z50=z41*z49→z51=z47+z50→z52=z39+z46→z53=z52+z51→z54=z0*z39→z55=z1*z39→z56=0→z57=z56+z54→z58=z56+z55→z59=z2*z46→z60=z3*z46→z61=z57+z59→z62=z58+z60→z63=z4*z51→z64=z5*z51→z65=z61+z63→z66=z62+z64→z67=z65/z53→z68=z66/z53→z69=z19*z24→z70=z69*z27→z71=z12*z12→z72=z70/z71→z73=z72/z14→z74=z38+z45→z75=z74+z50→z76=z0*z38→z77=z1*z38→z78=z56+z76→z79=z56+z77→z80=z2*z45→z81=z3*z45→z82=z78+z80→z83=z79+z81→z84=z4*z50→z85=z5*z50→z86=z82+z84→z87=z83+z85→z88=z86/z75→z89=z87/z75→z150=(1/2)→z207=z88-z4→z208=z89-z5→z209=z207*z150→z210=z208*z150→z211=z4+z209→z212=z5+z210→z213=z211-z67→z214=z212-z68→z215=z213*z213→z216=z214*z214→z217=z215+z216→z218=z217-z73→(¬ (z12=0))→z218=0 := by
 intro e6 e7 e8 e9 e10 e11 e12 e14 e15 e16 e17 e18 e19 e20 e21 e22 e23 e24 e25 e26 e27 e28 e29 e30 e31 e32 e33 e34 e35 e36 e37 e38 e39 e40 e41 e42 e43 e44 e45 e46 e47 e48 e49 e50 e51 e52 e53 e54 e55 e56 e57 e58 e59 e60 e61 e62 e63 e64 e65 e66 e67 e68 e69 e70 e71 e72 e73 e74 e75 e76 e77 e78 e79 e80 e81 e82 e83 e84 e85 e86 e87 e88 e89 e150 e207 e208 e209 e210 e211 e212 e213 e214 e215 e216 e217 e218 u0
 have f53 : z53=(z12*(z12*8)) := by
  have c2 : z2=z6+z0 := by rw [e6]; grind
  clear e6
  subst c2
  have c4 : z4=z8+z0 := by rw [e8]; grind
  clear e8
  subst c4
  have c3 : z3=z7+z1 := by rw [e7]; grind
  clear e7
  subst c3
  have c5 : z5=z9+z1 := by rw [e9]; grind
  clear e9
  subst c5
  subst_vars; grind
 have f75 : z75=(z12*(z12*4)) := by
  have c2 : z2=z6+z0 := by rw [e6]; grind
  clear e6
  subst c2
  have c4 : z4=z8+z0 := by rw [e8]; grind
  clear e8
  subst c4
  have c3 : z3=z7+z1 := by rw [e7]; grind
  clear e7
  subst c3
  have c5 : z5=z9+z1 := by rw [e9]; grind
  clear e9
  subst c5
  subst_vars; grind
 have w14 : z14 ≠ 0 := by rw [e14]; decide
 have w12 : z12 ≠ 0 := by first | assumption | grind
 have n53 : z53 ≠ 0 := by rw [f53]; exact (mul_ne w12 (mul_ne w12 (by decide)))
 have n71 : z71 ≠ 0 := by rw [e71]; exact (mul_ne w12 w12)
 have n75 : z75 ≠ 0 := by rw [f75]; exact (mul_ne w12 (mul_ne w12 (by decide)))
 have h67 : z67*z53=z65 := by rw [e67]; exact Rat.div_mul_cancel n53
 rw [f53] at h67
 obtain ⟨m67,hm67⟩ : ∃ m,m=z65 := ⟨_,rfl⟩
 have d67 : z67*(z12*(z12*8))=m67 := by
  have q : z67*(z12*(z12*8))=z67*(z12*(z12*8)) := by grind
  rw [q,h67,hm67]
 clear h67 e67
 have h68 : z68*z53=z66 := by rw [e68]; exact Rat.div_mul_cancel n53
 rw [f53] at h68
 obtain ⟨m68,hm68⟩ : ∃ m,m=z66 := ⟨_,rfl⟩
 have d68 : z68*(z12*(z12*8))=m68 := by
  have q : z68*(z12*(z12*8))=z68*(z12*(z12*8)) := by grind
  rw [q,h68,hm68]
 clear h68 e68
 have h72 : z72*z71=z70 := by rw [e72]; exact Rat.div_mul_cancel n71
 rw [e71] at h72
 obtain ⟨m72,hm72⟩ : ∃ m,m=z70 := ⟨_,rfl⟩
 have d72 : z72*(z12*z12)=m72 := by
  have q : z72*(z12*z12)=z72*(z12*z12) := by grind
  rw [q,h72,hm72]
 clear h72 e72
 have h73 : z73*z14=z72 := by rw [e73]; exact Rat.div_mul_cancel (by rw [e14]; decide)
 obtain ⟨m73,hm73⟩ : ∃ m,m=m72 := ⟨_,rfl⟩
 have d73 : z73*(z12*(z12*z14))=m73 := by
  have q : z73*(z12*(z12*z14))=(z73*z14)*(z12*z12) := by grind
  rw [q,h73,d72,hm73]
 clear h73 e73
 have h88 : z88*z75=z86 := by rw [e88]; exact Rat.div_mul_cancel n75
 rw [f75] at h88
 obtain ⟨m88,hm88⟩ : ∃ m,m=z86 := ⟨_,rfl⟩
 have d88 : z88*(z12*(z12*4))=m88 := by
  have q : z88*(z12*(z12*4))=z88*(z12*(z12*4)) := by grind
  rw [q,h88,hm88]
 clear h88 e88
 have h89 : z89*z75=z87 := by rw [e89]; exact Rat.div_mul_cancel n75
 rw [f75] at h89
 obtain ⟨m89,hm89⟩ : ∃ m,m=z87 := ⟨_,rfl⟩
 have d89 : z89*(z12*(z12*4))=m89 := by
  have q : z89*(z12*(z12*4))=z89*(z12*(z12*4)) := by grind
  rw [q,h89,hm89]
 clear h89 e89
 obtain ⟨m207,hm207⟩ : ∃ m,m=m88*1 - z4*(z12*(z12*4)) := ⟨_,rfl⟩
 have d207 : z207*(z12*(z12*4))=m207 := by
  have q : z207*(z12*(z12*4))=(z88*(z12*(z12*4)))*1 - z4*(z12*(z12*4)) := by rw [e207]; grind
  rw [q,d88,hm207]
 clear e207
 obtain ⟨m208,hm208⟩ : ∃ m,m=m89*1 - z5*(z12*(z12*4)) := ⟨_,rfl⟩
 have d208 : z208*(z12*(z12*4))=m208 := by
  have q : z208*(z12*(z12*4))=(z89*(z12*(z12*4)))*1 - z5*(z12*(z12*4)) := by rw [e208]; grind
  rw [q,d89,hm208]
 clear e208
 obtain ⟨m209,hm209⟩ : ∃ m,m=m207*z150 := ⟨_,rfl⟩
 have d209 : z209*(z12*(z12*4))=m209 := by
  have q : z209*(z12*(z12*4))=(z207*(z12*(z12*4)))*z150 := by rw [e209]; grind
  rw [q,d207,hm209]
 clear e209
 obtain ⟨m210,hm210⟩ : ∃ m,m=m208*z150 := ⟨_,rfl⟩
 have d210 : z210*(z12*(z12*4))=m210 := by
  have q : z210*(z12*(z12*4))=(z208*(z12*(z12*4)))*z150 := by rw [e210]; grind
  rw [q,d208,hm210]
 clear e210
 obtain ⟨m211,hm211⟩ : ∃ m,m=z4*(z12*(z12*4))+m209*1 := ⟨_,rfl⟩
 have d211 : z211*(z12*(z12*4))=m211 := by
  have q : z211*(z12*(z12*4))=z4*(z12*(z12*4))+(z209*(z12*(z12*4)))*1 := by rw [e211]; grind
  rw [q,d209,hm211]
 clear e211
 obtain ⟨m212,hm212⟩ : ∃ m,m=z5*(z12*(z12*4))+m210*1 := ⟨_,rfl⟩
 have d212 : z212*(z12*(z12*4))=m212 := by
  have q : z212*(z12*(z12*4))=z5*(z12*(z12*4))+(z210*(z12*(z12*4)))*1 := by rw [e212]; grind
  rw [q,d210,hm212]
 clear e212
 obtain ⟨m213,hm213⟩ : ∃ m,m=m211*8 - m67*4 := ⟨_,rfl⟩
 have d213 : z213*(z12*(z12*(4*8)))=m213 := by
  have q : z213*(z12*(z12*(4*8)))=(z211*(z12*(z12*4)))*8 - (z67*(z12*(z12*8)))*4 := by rw [e213]; grind
  rw [q,d211,d67,hm213]
 clear e213
 obtain ⟨m214,hm214⟩ : ∃ m,m=m212*8 - m68*4 := ⟨_,rfl⟩
 have d214 : z214*(z12*(z12*(4*8)))=m214 := by
  have q : z214*(z12*(z12*(4*8)))=(z212*(z12*(z12*4)))*8 - (z68*(z12*(z12*8)))*4 := by rw [e214]; grind
  rw [q,d212,d68,hm214]
 clear e214
 obtain ⟨m215,hm215⟩ : ∃ m,m=m213*m213 := ⟨_,rfl⟩
 have d215 : z215*(z12*(z12*(z12*(z12*(4*(4*(8*8)))))))=m215 := by
  have q : z215*(z12*(z12*(z12*(z12*(4*(4*(8*8)))))))=(z213*(z12*(z12*(4*8))))*(z213*(z12*(z12*(4*8)))) := by rw [e215]; grind
  rw [q,d213,hm215]
 clear e215
 obtain ⟨m216,hm216⟩ : ∃ m,m=m214*m214 := ⟨_,rfl⟩
 have d216 : z216*(z12*(z12*(z12*(z12*(4*(4*(8*8)))))))=m216 := by
  have q : z216*(z12*(z12*(z12*(z12*(4*(4*(8*8)))))))=(z214*(z12*(z12*(4*8))))*(z214*(z12*(z12*(4*8)))) := by rw [e216]; grind
  rw [q,d214,hm216]
 clear e216
 obtain ⟨m217,hm217⟩ : ∃ m,m=m215*1+m216*1 := ⟨_,rfl⟩
 have d217 : z217*(z12*(z12*(z12*(z12*(4*(4*(8*8)))))))=m217 := by
  have q : z217*(z12*(z12*(z12*(z12*(4*(4*(8*8)))))))=(z215*(z12*(z12*(z12*(z12*(4*(4*(8*8))))))))*1+(z216*(z12*(z12*(z12*(z12*(4*(4*(8*8))))))))*1 := by rw [e217]; grind
  rw [q,d215,d216,hm217]
 clear e217
 obtain ⟨m218,hm218⟩ : ∃ m,m=m217*z14 - m73*(z12*(z12*(4*(4*(8*8))))) := ⟨_,rfl⟩
 have d218 : z218*(z12*(z12*(z12*(z12*(z14*(4*(4*(8*8))))))))=m218 := by
  have q : z218*(z12*(z12*(z12*(z12*(z14*(4*(4*(8*8))))))))=(z217*(z12*(z12*(z12*(z12*(4*(4*(8*8))))))))*z14 - (z73*(z12*(z12*z14)))*(z12*(z12*(4*(4*(8*8))))) := by rw [e218]; grind
  rw [q,d217,d73,hm218]
 clear e218
 have hpoly : m218=0 := by
  clear d67 d68 d72 d73 d88 d89 d207 d208 d209 d210 d211 d212 d213 d214 d215 d216 d217 d218
  have c2 : z2=z6+z0 := by rw [e6]; grind
  clear e6
  subst c2
  have c4 : z4=z8+z0 := by rw [e8]; grind
  clear e8
  subst c4
  have c3 : z3=z7+z1 := by rw [e7]; grind
  clear e7
  subst c3
  have c5 : z5=z9+z1 := by rw [e9]; grind
  clear e9
  subst c5
  subst_vars; grind
 have hgoal : z218=0 := (Rat.mul_eq_zero.1 (d218.trans hpoly)).resolve_right (mul_ne w12 (mul_ne w12 (mul_ne w12 (mul_ne w12 (mul_ne w14 (mul_ne (by decide) (mul_ne (by decide) (mul_ne (by decide) (by decide)))))))))
 exact hgoal
theorem triangleNine_f10 {z0 z1 z2 z3 z4 z5 z6 z7 z8 z9 z10 z11 z12 z14 z15 z16 z17 z18 z19 z20 z21 z22 z23 z24 z25 z26 z27 z28 z29 z30 z31 z32 z33 z34 z35 z36 z37 z38 z39 z40 z41 z42 z43 z44 z45 z46 z47 z48 z49 z50 z51 z52 z53 z54 z55 z56 z57 z58 z59 z60 z61 z62 z63 z64 z65 z66 z67 z68 z69 z70 z71 z72 z73 z150 z219 z220 z221 z222 z223 z224 z225 z226 z227 z228 : Rat} : z6=z2-z0→z7=z3-z1→z8=z4-z0→z9=z5-z1→z10=z6*z9→z11=z7*z8→z12=z10-z11→z14=16→z15=z4-z2→z16=z5-z3→z17=z15*z15→z18=z16*z16→z19=z17+z18→z20=z0-z4→z21=z1-z5→z22=z20*z20→z23=z21*z21→z24=z22+z23→z25=z6*z6→z26=z7*z7→z27=z25+z26→z28=-z19→z29=z24+z27→z30=z29+z28→z31=z19*z30→z32=-z27→z33=z19+z24→z34=z33+z32→z35=-z24→z36=z19+z27→z37=z36+z35→z38=z34*z37→z39=z31+z38→z40=z27+z19→z41=z40+z35→z42=z24*z41→z43=z24+z19→z44=z43+z32→z45=z30*z44→z46=z42+z45→z47=z27*z34→z48=z27+z24→z49=z48+z28→z50=z41*z49→z51=z47+z50→z52=z39+z46→z53=z52+z51→z54=z0*z39→z55=z1*z39→z56=0→z57=z56+z54→z58=z56+z55→z59=z2*z46→z60=z3*z46→z61=z57+z59→z62=z58+z60→z63=z4*z51→z64=z5*z51→z65=z61+z63→z66=z62+z64→z67=z65/z53→z68=z66/z53→z69=z19*z24→z70=z69*z27→z71=z12*z12→z72=z70/z71→z73=z72/z14→z150=(1/2)→z219=z20*z150→z220=z21*z150→z221=z4+z219→z222=z5+z220→z223=z221-z67→z224=z222-z68→z225=z223*z223→z226=z224*z224→z227=z225+z226→z228=z227-z73→(¬ (z12=0))→z228=0 := by
 intro e6 e7 e8 e9 e10 e11 e12 e14 e15 e16 e17 e18 e19 e20 e21 e22 e23 e24 e25 e26 e27 e28 e29 e30 e31 e32 e33 e34 e35 e36 e37 e38 e39 e40 e41 e42 e43 e44 e45 e46 e47 e48 e49 e50 e51 e52 e53 e54 e55 e56 e57 e58 e59 e60 e61 e62 e63 e64 e65 e66 e67 e68 e69 e70 e71 e72 e73 e150 e219 e220 e221 e222 e223 e224 e225 e226 e227 e228 u0
 have f53 : z53=(z12*(z12*8)) := by
  have c2 : z2=z6+z0 := by rw [e6]; grind
  clear e6
  subst c2
  have c4 : z4=z8+z0 := by rw [e8]; grind
  clear e8
  subst c4
  have c3 : z3=z7+z1 := by rw [e7]; grind
  clear e7
  subst c3
  have c5 : z5=z9+z1 := by rw [e9]; grind
  clear e9
  subst c5
  subst_vars; grind
 have w14 : z14 ≠ 0 := by rw [e14]; decide
 have w12 : z12 ≠ 0 := by first | assumption | grind
 have n53 : z53 ≠ 0 := by rw [f53]; exact (mul_ne w12 (mul_ne w12 (by decide)))
 have n71 : z71 ≠ 0 := by rw [e71]; exact (mul_ne w12 w12)
 have h67 : z67*z53=z65 := by rw [e67]; exact Rat.div_mul_cancel n53
 rw [f53] at h67
 obtain ⟨m67,hm67⟩ : ∃ m,m=z65 := ⟨_,rfl⟩
 have d67 : z67*(z12*(z12*8))=m67 := by
  have q : z67*(z12*(z12*8))=z67*(z12*(z12*8)) := by grind
  rw [q,h67,hm67]
 clear h67 e67
 have h68 : z68*z53=z66 := by rw [e68]; exact Rat.div_mul_cancel n53
 rw [f53] at h68
 obtain ⟨m68,hm68⟩ : ∃ m,m=z66 := ⟨_,rfl⟩
 have d68 : z68*(z12*(z12*8))=m68 := by
  have q : z68*(z12*(z12*8))=z68*(z12*(z12*8)) := by grind
  rw [q,h68,hm68]
 clear h68 e68
 have h72 : z72*z71=z70 := by rw [e72]; exact Rat.div_mul_cancel n71
 rw [e71] at h72
 obtain ⟨m72,hm72⟩ : ∃ m,m=z70 := ⟨_,rfl⟩
 have d72 : z72*(z12*z12)=m72 := by
  have q : z72*(z12*z12)=z72*(z12*z12) := by grind
  rw [q,h72,hm72]
 clear h72 e72
 have h73 : z73*z14=z72 := by rw [e73]; exact Rat.div_mul_cancel (by rw [e14]; decide)
 obtain ⟨m73,hm73⟩ : ∃ m,m=m72 := ⟨_,rfl⟩
 have d73 : z73*(z12*(z12*z14))=m73 := by
  have q : z73*(z12*(z12*z14))=(z73*z14)*(z12*z12) := by grind
  rw [q,h73,d72,hm73]
 clear h73 e73
 obtain ⟨m223,hm223⟩ : ∃ m,m=z221*(z12*(z12*8)) - m67*1 := ⟨_,rfl⟩
 have d223 : z223*(z12*(z12*8))=m223 := by
  have q : z223*(z12*(z12*8))=z221*(z12*(z12*8)) - (z67*(z12*(z12*8)))*1 := by rw [e223]; grind
  rw [q,d67,hm223]
 clear e223
 obtain ⟨m224,hm224⟩ : ∃ m,m=z222*(z12*(z12*8)) - m68*1 := ⟨_,rfl⟩
 have d224 : z224*(z12*(z12*8))=m224 := by
  have q : z224*(z12*(z12*8))=z222*(z12*(z12*8)) - (z68*(z12*(z12*8)))*1 := by rw [e224]; grind
  rw [q,d68,hm224]
 clear e224
 obtain ⟨m225,hm225⟩ : ∃ m,m=m223*m223 := ⟨_,rfl⟩
 have d225 : z225*(z12*(z12*(z12*(z12*(8*8)))))=m225 := by
  have q : z225*(z12*(z12*(z12*(z12*(8*8)))))=(z223*(z12*(z12*8)))*(z223*(z12*(z12*8))) := by rw [e225]; grind
  rw [q,d223,hm225]
 clear e225
 obtain ⟨m226,hm226⟩ : ∃ m,m=m224*m224 := ⟨_,rfl⟩
 have d226 : z226*(z12*(z12*(z12*(z12*(8*8)))))=m226 := by
  have q : z226*(z12*(z12*(z12*(z12*(8*8)))))=(z224*(z12*(z12*8)))*(z224*(z12*(z12*8))) := by rw [e226]; grind
  rw [q,d224,hm226]
 clear e226
 obtain ⟨m227,hm227⟩ : ∃ m,m=m225*1+m226*1 := ⟨_,rfl⟩
 have d227 : z227*(z12*(z12*(z12*(z12*(8*8)))))=m227 := by
  have q : z227*(z12*(z12*(z12*(z12*(8*8)))))=(z225*(z12*(z12*(z12*(z12*(8*8))))))*1+(z226*(z12*(z12*(z12*(z12*(8*8))))))*1 := by rw [e227]; grind
  rw [q,d225,d226,hm227]
 clear e227
 obtain ⟨m228,hm228⟩ : ∃ m,m=m227*z14 - m73*(z12*(z12*(8*8))) := ⟨_,rfl⟩
 have d228 : z228*(z12*(z12*(z12*(z12*(z14*(8*8))))))=m228 := by
  have q : z228*(z12*(z12*(z12*(z12*(z14*(8*8))))))=(z227*(z12*(z12*(z12*(z12*(8*8))))))*z14 - (z73*(z12*(z12*z14)))*(z12*(z12*(8*8))) := by rw [e228]; grind
  rw [q,d227,d73,hm228]
 clear e228
 have hpoly : m228=0 := by
  clear d67 d68 d72 d73 d223 d224 d225 d226 d227 d228
  have c2 : z2=z6+z0 := by rw [e6]; grind
  clear e6
  subst c2
  have c4 : z4=z8+z0 := by rw [e8]; grind
  clear e8
  subst c4
  have c3 : z3=z7+z1 := by rw [e7]; grind
  clear e7
  subst c3
  have c5 : z5=z9+z1 := by rw [e9]; grind
  clear e9
  subst c5
  subst_vars; grind
 have hgoal : z228=0 := (Rat.mul_eq_zero.1 (d228.trans hpoly)).resolve_right (mul_ne w12 (mul_ne w12 (mul_ne w12 (mul_ne w12 (mul_ne w14 (mul_ne (by decide) (by decide)))))))
 exact hgoal
theorem triangleNine_r0 : (callB (sx Tryz.prog triangleNine_N [(0,12,0,1)] [] triangleNine_L triangleNine_C triangleNine_Z (prC [8])) 5 3 triangleNine_A [] 0).map (·.1)=some (kB true) := by kernel_rfl
theorem triangleNine_r1 : (callB (sx Tryz.prog triangleNine_N [(0,12,0,0),(0,53,0,0),(0,75,0,0),(0,149,0,1),(0,162,0,1),(0,172,0,1),(0,178,0,1),(0,190,0,1),(0,200,0,1),(0,206,0,1),(0,218,0,1),(0,228,0,1)] [(45,[]),(154,[]),(156,[]),(158,[.inr (3,56,0,0,0),.inr (3,57,0,0,0)]),(117,[]),(47,[.inr (3,405,0,0,0)]),(40,[])] triangleNine_L triangleNine_C triangleNine_Z (prC [8])) 9 3 triangleNine_A [] 0).map (·.1)=some (kB true) := by kernel_rfl
theorem triangleNine_An {a b : Prop} (x : a) (y : b) : a∧b := ⟨x,y⟩
theorem triangleNine_leaf {H : List (Nat × Nat × Nat × Nat)} {K : List (FuncId × List AC)} {k : Nat} {q : Nat→Rat} {σ : Nat→ByteArray} {args : List AV} {vs : List Value} {w : World} (hr : (callB (sx Tryz.prog triangleNine_N H K triangleNine_L triangleNine_C triangleNine_Z (prC [8])) k 3 args [] 0).map (·.1)=some (kB true)) (hσ : ∀ j,(σ j).size≤1048576) (hq : ∀ (a : Nat) nd,triangleNine_N[a]? = some nd→q a=valN σ q nd) (h0 : ∀ a,triangleNine_N.length≤a→q a=0) (hH : hAll q H) (hp : PreS w) (hA : ∀ K,A2 (avOn (cOn (evS q σ) K (fun _ => none) w)) args vs) : Calls Tryz.prog 3 vs.toArray w fun e w' => Below w.heap.size w w'∧e=.returned (.bool true) :=
 run_told' k (hy_of hσ triangleNine_wf triangleNine_sz triangleNine_lt triangleNine_cn hq h0 hH) (by simp [closed_cornered]) (by kernel_rfl) hr hp (hA K)
theorem triangleNine_walk {w : World} {tax taz tbx tbz tcx tcz : ByteArray}  (stax : tax.size≤1048576) (staz : taz.size≤1048576) (stbx : tbx.size≤1048576) (stbz : tbz.size≤1048576) (stcx : tcx.size≤1048576) (stcz : tcz.size≤1048576) (tab : Tab w) (mx : MaxL w) :
  Calls Tryz.prog 3 #[.agg #[.string tax,.string taz,.string tbx,.string tbz,.string tcx,.string tcz]] w fun e w' => Below w.heap.size w w'∧e=.returned (.bool true) := by
 have hσ : ∀ j,(sgOf [tax,taz,tbx,tbz,tcx,tcz] j).size≤1048576 := sgOf_size (by simp [stax,staz,stbx,stbz,stcx,stcz])
 obtain ⟨q,hq,h0⟩ := nodes_exist (sgOf [tax,taz,tbx,tbz,tcx,tcz]) triangleNine_N triangleNine_wf
 have hA : ∀ K,A2 (avOn (cOn (evS q (sgOf [tax,taz,tbx,tbz,tcx,tcz])) K (fun _ => none) w)) [(false,[(true,[.inr (2,0,0,0,0),.inr (2,1,0,0,0),.inr (2,2,0,0,0),.inr (2,3,0,0,0),.inr (2,4,0,0,0),.inr (2,5,0,0,0)])])] [.agg #[.string tax,.string taz,.string tbx,.string tbz,.string tcx,.string tcz]] := fun K => ⟨⟨⟨[.string tax,.string taz,.string tbx,.string tbz,.string tcx,.string tcz],rfl,rfl,rfl,rfl,rfl,rfl,rfl,trivial⟩,trivial⟩,trivial⟩
 have E6 : q 6=q 2 - q 0 := hq 6 _ rfl
 have E7 : q 7=q 3 - q 1 := hq 7 _ rfl
 have E8 : q 8=q 4 - q 0 := hq 8 _ rfl
 have E9 : q 9=q 5 - q 1 := hq 9 _ rfl
 have E10 : q 10=q 6*q 9 := hq 10 _ rfl
 have E11 : q 11=q 7*q 8 := hq 11 _ rfl
 have E12 : q 12=q 10 - q 11 := hq 12 _ rfl
 have E14 : q 14=16 := (hq 14 _ rfl).trans triangleNine_c14
 have E15 : q 15=q 4 - q 2 := hq 15 _ rfl
 have E16 : q 16=q 5 - q 3 := hq 16 _ rfl
 have E17 : q 17=q 15*q 15 := hq 17 _ rfl
 have E18 : q 18=q 16*q 16 := hq 18 _ rfl
 have E19 : q 19=q 17+q 18 := hq 19 _ rfl
 have E20 : q 20=q 0 - q 4 := hq 20 _ rfl
 have E21 : q 21=q 1 - q 5 := hq 21 _ rfl
 have E22 : q 22=q 20*q 20 := hq 22 _ rfl
 have E23 : q 23=q 21*q 21 := hq 23 _ rfl
 have E24 : q 24=q 22+q 23 := hq 24 _ rfl
 have E25 : q 25=q 6*q 6 := hq 25 _ rfl
 have E26 : q 26=q 7*q 7 := hq 26 _ rfl
 have E27 : q 27=q 25+q 26 := hq 27 _ rfl
 have E28 : q 28=-q 19 := hq 28 _ rfl
 have E29 : q 29=q 24+q 27 := hq 29 _ rfl
 have E30 : q 30=q 29+q 28 := hq 30 _ rfl
 have E31 : q 31=q 19*q 30 := hq 31 _ rfl
 have E32 : q 32=-q 27 := hq 32 _ rfl
 have E33 : q 33=q 19+q 24 := hq 33 _ rfl
 have E34 : q 34=q 33+q 32 := hq 34 _ rfl
 have E35 : q 35=-q 24 := hq 35 _ rfl
 have E36 : q 36=q 19+q 27 := hq 36 _ rfl
 have E37 : q 37=q 36+q 35 := hq 37 _ rfl
 have E38 : q 38=q 34*q 37 := hq 38 _ rfl
 have E39 : q 39=q 31+q 38 := hq 39 _ rfl
 have E40 : q 40=q 27+q 19 := hq 40 _ rfl
 have E41 : q 41=q 40+q 35 := hq 41 _ rfl
 have E42 : q 42=q 24*q 41 := hq 42 _ rfl
 have E43 : q 43=q 24+q 19 := hq 43 _ rfl
 have E44 : q 44=q 43+q 32 := hq 44 _ rfl
 have E45 : q 45=q 30*q 44 := hq 45 _ rfl
 have E46 : q 46=q 42+q 45 := hq 46 _ rfl
 have E47 : q 47=q 27*q 34 := hq 47 _ rfl
 have E48 : q 48=q 27+q 24 := hq 48 _ rfl
 have E49 : q 49=q 48+q 28 := hq 49 _ rfl
 have E50 : q 50=q 41*q 49 := hq 50 _ rfl
 have E51 : q 51=q 47+q 50 := hq 51 _ rfl
 have E52 : q 52=q 39+q 46 := hq 52 _ rfl
 have E53 : q 53=q 52+q 51 := hq 53 _ rfl
 have E54 : q 54=q 0*q 39 := hq 54 _ rfl
 have E55 : q 55=q 1*q 39 := hq 55 _ rfl
 have E56 : q 56=0 := (hq 56 _ rfl).trans triangleNine_c56
 have E57 : q 57=q 56+q 54 := hq 57 _ rfl
 have E58 : q 58=q 56+q 55 := hq 58 _ rfl
 have E59 : q 59=q 2*q 46 := hq 59 _ rfl
 have E60 : q 60=q 3*q 46 := hq 60 _ rfl
 have E61 : q 61=q 57+q 59 := hq 61 _ rfl
 have E62 : q 62=q 58+q 60 := hq 62 _ rfl
 have E63 : q 63=q 4*q 51 := hq 63 _ rfl
 have E64 : q 64=q 5*q 51 := hq 64 _ rfl
 have E65 : q 65=q 61+q 63 := hq 65 _ rfl
 have E66 : q 66=q 62+q 64 := hq 66 _ rfl
 have E67 : q 67=q 65 / q 53 := hq 67 _ rfl
 have E68 : q 68=q 66 / q 53 := hq 68 _ rfl
 have E69 : q 69=q 19*q 24 := hq 69 _ rfl
 have E70 : q 70=q 69*q 27 := hq 70 _ rfl
 have E71 : q 71=q 12*q 12 := hq 71 _ rfl
 have E72 : q 72=q 70 / q 71 := hq 72 _ rfl
 have E73 : q 73=q 72 / q 14 := hq 73 _ rfl
 have E74 : q 74=q 38+q 45 := hq 74 _ rfl
 have E75 : q 75=q 74+q 50 := hq 75 _ rfl
 have E76 : q 76=q 0*q 38 := hq 76 _ rfl
 have E77 : q 77=q 1*q 38 := hq 77 _ rfl
 have E78 : q 78=q 56+q 76 := hq 78 _ rfl
 have E79 : q 79=q 56+q 77 := hq 79 _ rfl
 have E80 : q 80=q 2*q 45 := hq 80 _ rfl
 have E81 : q 81=q 3*q 45 := hq 81 _ rfl
 have E82 : q 82=q 78+q 80 := hq 82 _ rfl
 have E83 : q 83=q 79+q 81 := hq 83 _ rfl
 have E84 : q 84=q 4*q 50 := hq 84 _ rfl
 have E85 : q 85=q 5*q 50 := hq 85 _ rfl
 have E86 : q 86=q 82+q 84 := hq 86 _ rfl
 have E87 : q 87=q 83+q 85 := hq 87 _ rfl
 have E88 : q 88=q 86 / q 75 := hq 88 _ rfl
 have E89 : q 89=q 87 / q 75 := hq 89 _ rfl
 have E90 : q 90=-q 16 := hq 90 _ rfl
 have E91 : q 91=q 90*q 2 := hq 91 _ rfl
 have E92 : q 92=q 15*q 3 := hq 92 _ rfl
 have E93 : q 93=q 91+q 92 := hq 93 _ rfl
 have E94 : q 94=-q 93 := hq 94 _ rfl
 have E95 : q 95=q 90*q 88 := hq 95 _ rfl
 have E96 : q 96=q 15*q 89 := hq 96 _ rfl
 have E97 : q 97=q 95+q 96 := hq 97 _ rfl
 have E98 : q 98=q 97+q 94 := hq 98 _ rfl
 have E99 : q 99=-q 98 := hq 99 _ rfl
 have E100 : q 100=q 90*q 99 := hq 100 _ rfl
 have E101 : q 101=q 15*q 99 := hq 101 _ rfl
 have E102 : q 102=q 90*q 90 := hq 102 _ rfl
 have E103 : q 103=q 102+q 17 := hq 103 _ rfl
 have E104 : q 104=q 100 / q 103 := hq 104 _ rfl
 have E105 : q 105=q 101 / q 103 := hq 105 _ rfl
 have E106 : q 106=q 88+q 104 := hq 106 _ rfl
 have E107 : q 107=q 89+q 105 := hq 107 _ rfl
 have E108 : q 108=-q 21 := hq 108 _ rfl
 have E109 : q 109=q 108*q 4 := hq 109 _ rfl
 have E110 : q 110=q 20*q 5 := hq 110 _ rfl
 have E111 : q 111=q 109+q 110 := hq 111 _ rfl
 have E112 : q 112=-q 111 := hq 112 _ rfl
 have E113 : q 113=q 108*q 88 := hq 113 _ rfl
 have E114 : q 114=q 20*q 89 := hq 114 _ rfl
 have E115 : q 115=q 113+q 114 := hq 115 _ rfl
 have E116 : q 116=q 115+q 112 := hq 116 _ rfl
 have E117 : q 117=-q 116 := hq 117 _ rfl
 have E118 : q 118=q 108*q 117 := hq 118 _ rfl
 have E119 : q 119=q 20*q 117 := hq 119 _ rfl
 have E120 : q 120=q 108*q 108 := hq 120 _ rfl
 have E121 : q 121=q 120+q 22 := hq 121 _ rfl
 have E122 : q 122=q 118 / q 121 := hq 122 _ rfl
 have E123 : q 123=q 119 / q 121 := hq 123 _ rfl
 have E124 : q 124=q 88+q 122 := hq 124 _ rfl
 have E125 : q 125=q 89+q 123 := hq 125 _ rfl
 have E126 : q 126=-q 7 := hq 126 _ rfl
 have E127 : q 127=q 126*q 0 := hq 127 _ rfl
 have E128 : q 128=q 6*q 1 := hq 128 _ rfl
 have E129 : q 129=q 127+q 128 := hq 129 _ rfl
 have E130 : q 130=-q 129 := hq 130 _ rfl
 have E131 : q 131=q 126*q 88 := hq 131 _ rfl
 have E132 : q 132=q 6*q 89 := hq 132 _ rfl
 have E133 : q 133=q 131+q 132 := hq 133 _ rfl
 have E134 : q 134=q 133+q 130 := hq 134 _ rfl
 have E135 : q 135=-q 134 := hq 135 _ rfl
 have E136 : q 136=q 126*q 135 := hq 136 _ rfl
 have E137 : q 137=q 6*q 135 := hq 137 _ rfl
 have E138 : q 138=q 126*q 126 := hq 138 _ rfl
 have E139 : q 139=q 138+q 25 := hq 139 _ rfl
 have E140 : q 140=q 136 / q 139 := hq 140 _ rfl
 have E141 : q 141=q 137 / q 139 := hq 141 _ rfl
 have E142 : q 142=q 88+q 140 := hq 142 _ rfl
 have E143 : q 143=q 89+q 141 := hq 143 _ rfl
 have E144 : q 144=q 106 - q 67 := hq 144 _ rfl
 have E145 : q 145=q 107 - q 68 := hq 145 _ rfl
 have E146 : q 146=q 144*q 144 := hq 146 _ rfl
 have E147 : q 147=q 145*q 145 := hq 147 _ rfl
 have E148 : q 148=q 146+q 147 := hq 148 _ rfl
 have E149 : q 149=q 148 - q 73 := hq 149 _ rfl
 have E150 : q 150=(1 / 2) := (hq 150 _ rfl).trans triangleNine_c150
 have E151 : q 151=q 88 - q 0 := hq 151 _ rfl
 have E152 : q 152=q 89 - q 1 := hq 152 _ rfl
 have E153 : q 153=q 151*q 150 := hq 153 _ rfl
 have E154 : q 154=q 152*q 150 := hq 154 _ rfl
 have E155 : q 155=q 0+q 153 := hq 155 _ rfl
 have E156 : q 156=q 1+q 154 := hq 156 _ rfl
 have E157 : q 157=q 155 - q 67 := hq 157 _ rfl
 have E158 : q 158=q 156 - q 68 := hq 158 _ rfl
 have E159 : q 159=q 157*q 157 := hq 159 _ rfl
 have E160 : q 160=q 158*q 158 := hq 160 _ rfl
 have E161 : q 161=q 159+q 160 := hq 161 _ rfl
 have E162 : q 162=q 161 - q 73 := hq 162 _ rfl
 have E163 : q 163=q 6*q 150 := hq 163 _ rfl
 have E164 : q 164=q 7*q 150 := hq 164 _ rfl
 have E165 : q 165=q 0+q 163 := hq 165 _ rfl
 have E166 : q 166=q 1+q 164 := hq 166 _ rfl
 have E167 : q 167=q 165 - q 67 := hq 167 _ rfl
 have E168 : q 168=q 166 - q 68 := hq 168 _ rfl
 have E169 : q 169=q 167*q 167 := hq 169 _ rfl
 have E170 : q 170=q 168*q 168 := hq 170 _ rfl
 have E171 : q 171=q 169+q 170 := hq 171 _ rfl
 have E172 : q 172=q 171 - q 73 := hq 172 _ rfl
 have E173 : q 173=q 124 - q 67 := hq 173 _ rfl
 have E174 : q 174=q 125 - q 68 := hq 174 _ rfl
 have E175 : q 175=q 173*q 173 := hq 175 _ rfl
 have E176 : q 176=q 174*q 174 := hq 176 _ rfl
 have E177 : q 177=q 175+q 176 := hq 177 _ rfl
 have E178 : q 178=q 177 - q 73 := hq 178 _ rfl
 have E179 : q 179=q 88 - q 2 := hq 179 _ rfl
 have E180 : q 180=q 89 - q 3 := hq 180 _ rfl
 have E181 : q 181=q 179*q 150 := hq 181 _ rfl
 have E182 : q 182=q 180*q 150 := hq 182 _ rfl
 have E183 : q 183=q 2+q 181 := hq 183 _ rfl
 have E184 : q 184=q 3+q 182 := hq 184 _ rfl
 have E185 : q 185=q 183 - q 67 := hq 185 _ rfl
 have E186 : q 186=q 184 - q 68 := hq 186 _ rfl
 have E187 : q 187=q 185*q 185 := hq 187 _ rfl
 have E188 : q 188=q 186*q 186 := hq 188 _ rfl
 have E189 : q 189=q 187+q 188 := hq 189 _ rfl
 have E190 : q 190=q 189 - q 73 := hq 190 _ rfl
 have E191 : q 191=q 15*q 150 := hq 191 _ rfl
 have E192 : q 192=q 16*q 150 := hq 192 _ rfl
 have E193 : q 193=q 2+q 191 := hq 193 _ rfl
 have E194 : q 194=q 3+q 192 := hq 194 _ rfl
 have E195 : q 195=q 193 - q 67 := hq 195 _ rfl
 have E196 : q 196=q 194 - q 68 := hq 196 _ rfl
 have E197 : q 197=q 195*q 195 := hq 197 _ rfl
 have E198 : q 198=q 196*q 196 := hq 198 _ rfl
 have E199 : q 199=q 197+q 198 := hq 199 _ rfl
 have E200 : q 200=q 199 - q 73 := hq 200 _ rfl
 have E201 : q 201=q 142 - q 67 := hq 201 _ rfl
 have E202 : q 202=q 143 - q 68 := hq 202 _ rfl
 have E203 : q 203=q 201*q 201 := hq 203 _ rfl
 have E204 : q 204=q 202*q 202 := hq 204 _ rfl
 have E205 : q 205=q 203+q 204 := hq 205 _ rfl
 have E206 : q 206=q 205 - q 73 := hq 206 _ rfl
 have E207 : q 207=q 88 - q 4 := hq 207 _ rfl
 have E208 : q 208=q 89 - q 5 := hq 208 _ rfl
 have E209 : q 209=q 207*q 150 := hq 209 _ rfl
 have E210 : q 210=q 208*q 150 := hq 210 _ rfl
 have E211 : q 211=q 4+q 209 := hq 211 _ rfl
 have E212 : q 212=q 5+q 210 := hq 212 _ rfl
 have E213 : q 213=q 211 - q 67 := hq 213 _ rfl
 have E214 : q 214=q 212 - q 68 := hq 214 _ rfl
 have E215 : q 215=q 213*q 213 := hq 215 _ rfl
 have E216 : q 216=q 214*q 214 := hq 216 _ rfl
 have E217 : q 217=q 215+q 216 := hq 217 _ rfl
 have E218 : q 218=q 217 - q 73 := hq 218 _ rfl
 have E219 : q 219=q 20*q 150 := hq 219 _ rfl
 have E220 : q 220=q 21*q 150 := hq 220 _ rfl
 have E221 : q 221=q 4+q 219 := hq 221 _ rfl
 have E222 : q 222=q 5+q 220 := hq 222 _ rfl
 have E223 : q 223=q 221 - q 67 := hq 223 _ rfl
 have E224 : q 224=q 222 - q 68 := hq 224 _ rfl
 have E225 : q 225=q 223*q 223 := hq 225 _ rfl
 have E226 : q 226=q 224*q 224 := hq 226 _ rfl
 have E227 : q 227=q 225+q 226 := hq 227 _ rfl
 have E228 : q 228=q 227 - q 73 := hq 228 _ rfl
 by_cases b12 : q 12=0
 ·
  exact triangleNine_leaf triangleNine_r0 hσ hq h0 (triangleNine_An (hT b12) trivial) ⟨tab,mx⟩ hA
 ·
  have b53 : ¬ (q 53=0) := triangleNine_f0 E6 E7 E8 E9 E10 E11 E12 E15 E16 E17 E18 E19 E20 E21 E22 E23 E24 E25 E26 E27 E28 E29 E30 E31 E32 E33 E34 E35 E36 E37 E38 E39 E40 E41 E42 E43 E44 E45 E46 E47 E48 E49 E50 E51 E52 E53 b12
  have b75 : ¬ (q 75=0) := triangleNine_f1 E6 E7 E8 E9 E10 E11 E12 E15 E16 E17 E18 E19 E20 E21 E22 E23 E24 E25 E26 E27 E28 E29 E30 E32 E33 E34 E35 E36 E37 E38 E40 E41 E43 E44 E45 E48 E49 E50 E74 E75 b12
  have b149 : q 149=0 := triangleNine_f2 E6 E7 E8 E9 E10 E11 E12 E14 E15 E16 E17 E18 E19 E20 E21 E22 E23 E24 E25 E26 E27 E28 E29 E30 E31 E32 E33 E34 E35 E36 E37 E38 E39 E40 E41 E42 E43 E44 E45 E46 E47 E48 E49 E50 E51 E52 E53 E54 E55 E56 E57 E58 E59 E60 E61 E62 E63 E64 E65 E66 E67 E68 E69 E70 E71 E72 E73 E74 E75 E76 E77 E78 E79 E80 E81 E82 E83 E84 E85 E86 E87 E88 E89 E90 E91 E92 E93 E94 E95 E96 E97 E98 E99 E100 E101 E102 E103 E104 E105 E106 E107 E144 E145 E146 E147 E148 E149 b12
  have b162 : q 162=0 := triangleNine_f3 E6 E7 E8 E9 E10 E11 E12 E14 E15 E16 E17 E18 E19 E20 E21 E22 E23 E24 E25 E26 E27 E28 E29 E30 E31 E32 E33 E34 E35 E36 E37 E38 E39 E40 E41 E42 E43 E44 E45 E46 E47 E48 E49 E50 E51 E52 E53 E54 E55 E56 E57 E58 E59 E60 E61 E62 E63 E64 E65 E66 E67 E68 E69 E70 E71 E72 E73 E74 E75 E76 E77 E78 E79 E80 E81 E82 E83 E84 E85 E86 E87 E88 E89 E150 E151 E152 E153 E154 E155 E156 E157 E158 E159 E160 E161 E162 b12
  have b172 : q 172=0 := triangleNine_f4 E6 E7 E8 E9 E10 E11 E12 E14 E15 E16 E17 E18 E19 E20 E21 E22 E23 E24 E25 E26 E27 E28 E29 E30 E31 E32 E33 E34 E35 E36 E37 E38 E39 E40 E41 E42 E43 E44 E45 E46 E47 E48 E49 E50 E51 E52 E53 E54 E55 E56 E57 E58 E59 E60 E61 E62 E63 E64 E65 E66 E67 E68 E69 E70 E71 E72 E73 E150 E163 E164 E165 E166 E167 E168 E169 E170 E171 E172 b12
  have b178 : q 178=0 := triangleNine_f5 E6 E7 E8 E9 E10 E11 E12 E14 E15 E16 E17 E18 E19 E20 E21 E22 E23 E24 E25 E26 E27 E28 E29 E30 E31 E32 E33 E34 E35 E36 E37 E38 E39 E40 E41 E42 E43 E44 E45 E46 E47 E48 E49 E50 E51 E52 E53 E54 E55 E56 E57 E58 E59 E60 E61 E62 E63 E64 E65 E66 E67 E68 E69 E70 E71 E72 E73 E74 E75 E76 E77 E78 E79 E80 E81 E82 E83 E84 E85 E86 E87 E88 E89 E108 E109 E110 E111 E112 E113 E114 E115 E116 E117 E118 E119 E120 E121 E122 E123 E124 E125 E173 E174 E175 E176 E177 E178 b12
  have b190 : q 190=0 := triangleNine_f6 E6 E7 E8 E9 E10 E11 E12 E14 E15 E16 E17 E18 E19 E20 E21 E22 E23 E24 E25 E26 E27 E28 E29 E30 E31 E32 E33 E34 E35 E36 E37 E38 E39 E40 E41 E42 E43 E44 E45 E46 E47 E48 E49 E50 E51 E52 E53 E54 E55 E56 E57 E58 E59 E60 E61 E62 E63 E64 E65 E66 E67 E68 E69 E70 E71 E72 E73 E74 E75 E76 E77 E78 E79 E80 E81 E82 E83 E84 E85 E86 E87 E88 E89 E150 E179 E180 E181 E182 E183 E184 E185 E186 E187 E188 E189 E190 b12
  have b200 : q 200=0 := triangleNine_f7 E6 E7 E8 E9 E10 E11 E12 E14 E15 E16 E17 E18 E19 E20 E21 E22 E23 E24 E25 E26 E27 E28 E29 E30 E31 E32 E33 E34 E35 E36 E37 E38 E39 E40 E41 E42 E43 E44 E45 E46 E47 E48 E49 E50 E51 E52 E53 E54 E55 E56 E57 E58 E59 E60 E61 E62 E63 E64 E65 E66 E67 E68 E69 E70 E71 E72 E73 E150 E191 E192 E193 E194 E195 E196 E197 E198 E199 E200 b12
  have b206 : q 206=0 := triangleNine_f8 E6 E7 E8 E9 E10 E11 E12 E14 E15 E16 E17 E18 E19 E20 E21 E22 E23 E24 E25 E26 E27 E28 E29 E30 E31 E32 E33 E34 E35 E36 E37 E38 E39 E40 E41 E42 E43 E44 E45 E46 E47 E48 E49 E50 E51 E52 E53 E54 E55 E56 E57 E58 E59 E60 E61 E62 E63 E64 E65 E66 E67 E68 E69 E70 E71 E72 E73 E74 E75 E76 E77 E78 E79 E80 E81 E82 E83 E84 E85 E86 E87 E88 E89 E126 E127 E128 E129 E130 E131 E132 E133 E134 E135 E136 E137 E138 E139 E140 E141 E142 E143 E201 E202 E203 E204 E205 E206 b12
  have b218 : q 218=0 := triangleNine_f9 E6 E7 E8 E9 E10 E11 E12 E14 E15 E16 E17 E18 E19 E20 E21 E22 E23 E24 E25 E26 E27 E28 E29 E30 E31 E32 E33 E34 E35 E36 E37 E38 E39 E40 E41 E42 E43 E44 E45 E46 E47 E48 E49 E50 E51 E52 E53 E54 E55 E56 E57 E58 E59 E60 E61 E62 E63 E64 E65 E66 E67 E68 E69 E70 E71 E72 E73 E74 E75 E76 E77 E78 E79 E80 E81 E82 E83 E84 E85 E86 E87 E88 E89 E150 E207 E208 E209 E210 E211 E212 E213 E214 E215 E216 E217 E218 b12
  have b228 : q 228=0 := triangleNine_f10 E6 E7 E8 E9 E10 E11 E12 E14 E15 E16 E17 E18 E19 E20 E21 E22 E23 E24 E25 E26 E27 E28 E29 E30 E31 E32 E33 E34 E35 E36 E37 E38 E39 E40 E41 E42 E43 E44 E45 E46 E47 E48 E49 E50 E51 E52 E53 E54 E55 E56 E57 E58 E59 E60 E61 E62 E63 E64 E65 E66 E67 E68 E69 E70 E71 E72 E73 E150 E219 E220 E221 E222 E223 E224 E225 E226 E227 E228 b12
  exact triangleNine_leaf triangleNine_r1 hσ hq h0 (triangleNine_An (hF b12) (triangleNine_An (hF b53) (triangleNine_An (hF b75) (triangleNine_An (hT b149) (triangleNine_An (hT b162) (triangleNine_An (hT b172) (triangleNine_An (hT b178) (triangleNine_An (hT b190) (triangleNine_An (hT b200) (triangleNine_An (hT b206) (triangleNine_An (hT b218) (triangleNine_An (hT b228) trivial)))))))))))) ⟨tab,mx⟩ hA
end Go.Proofs.YtdchineebfdkcaaGreatDoor
