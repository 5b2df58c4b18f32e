/- Part 13 of the walks and of the mathematics under them: MKK. -/
import Derived.Test.YtioacnhbiinjbaaGreatDoorA12
set_option maxHeartbeats 16000000
set_option maxRecDepth 100000
/- MKK -/
namespace Go.Proofs.YtioacnhbiinjbaaGreatDoor
open Go.RowKit Cx
def conicKind_N : List Nd := [(1, [0]), (1, [1]), (1, [2]), (1, [3]), (1, [4]), (1, [5]), (0, [0, 2, 1]), (4, [0, 6]), (4, [2, 6]), (4, [5, 6]), (4, [1, 4]), (4, [3, 8]), (3, [10, 11]), (4, [3, 1]), (4, [7, 4]), (3, [13, 14]), (4, [7, 8]), (4, [1, 1]), (3, [16, 17]), (4, [12, 3]), (0, [0, 0, 1]), (2, [20, 19]), (4, [15, 4]), (2, [21, 22]), (4, [18, 9]), (2, [23, 24]), (0, [0, 1, 2]), (4, [26, 1]), (4, [26, 3]), (4, [26, 4]), (4, [2, 5]), (4, [29, 29]), (3, [30, 31]), (4, [0, 32]), (4, [27, 5]), (4, [29, 28]), (3, [34, 35]), (4, [27, 36]), (5, [37]), (4, [27, 29]), (4, [2, 28]), (3, [39, 40]), (4, [28, 41]), (2, [33, 38]), (2, [43, 42]), (0, [0, 4, 1]), (4, [45, 0]), (4, [46, 2]), (3, [47, 17]), (6, [12, 18]), (6, [15, 18]), (0, [0, 1, 1]), (0, [0, 3, 1]), (2, [49, 51]), (2, [50, 20]), (4, [0, 53]), (4, [55, 53]), (4, [53, 54]), (4, [54, 53]), (2, [57, 58]), (4, [1, 26]), (4, [60, 59]), (4, [2, 54]), (4, [62, 54]), (2, [53, 53]), (4, [3, 26]), (4, [65, 64]), (2, [54, 54]), (4, [4, 26]), (4, [68, 67]), (2, [56, 61]), (2, [70, 63]), (2, [71, 66]), (2, [72, 69]), (2, [73, 5]), (3, [49, 51]), (3, [50, 20]), (4, [0, 75]), (4, [77, 75]), (4, [75, 76]), (4, [76, 75]), (2, [79, 80]), (4, [60, 81]), (4, [2, 76]), (4, [83, 76]), (2, [75, 75]), (4, [65, 85]), (2, [76, 76]), (4, [68, 87]), (2, [78, 82]), (2, [89, 84]), (2, [90, 86]), (2, [91, 88]), (2, [92, 5]), (2, [49, 20]), (2, [50, 51]), (4, [0, 94]), (4, [96, 94]), (4, [94, 95]), (4, [95, 94]), (2, [98, 99]), (4, [60, 100]), (4, [2, 95]), (4, [102, 95]), (2, [94, 94]), (4, [65, 104]), (2, [95, 95]), (4, [68, 106]), (2, [97, 101]), (2, [108, 103]), (2, [109, 105]), (2, [110, 107]), (2, [111, 5]), (3, [49, 20]), (3, [50, 51]), (4, [0, 113]), (4, [115, 113]), (4, [113, 114]), (4, [114, 113]), (2, [117, 118]), (4, [60, 119]), (4, [2, 114]), (4, [121, 114]), (2, [113, 113]), (4, [65, 123]), (2, [114, 114]), (4, [68, 125]), (2, [116, 120]), (2, [127, 122]), (2, [128, 124]), (2, [129, 126]), (2, [130, 5]), (2, [49, 6]), (2, [50, 52]), (4, [0, 132]), (4, [134, 132]), (4, [132, 133]), (4, [133, 132]), (2, [136, 137]), (4, [60, 138]), (4, [2, 133]), (4, [140, 133]), (2, [132, 132]), (4, [65, 142]), (2, [133, 133]), (4, [68, 144]), (2, [135, 139]), (2, [146, 141]), (2, [147, 143]), (2, [148, 145]), (2, [149, 5]), (3, [49, 6]), (3, [50, 52]), (4, [0, 151]), (4, [153, 151]), (4, [151, 152]), (4, [152, 151]), (2, [155, 156]), (4, [60, 157]), (4, [2, 152]), (4, [159, 152]), (2, [151, 151]), (4, [65, 161]), (2, [152, 152]), (4, [68, 163]), (2, [154, 158]), (2, [165, 160]), (2, [166, 162]), (2, [167, 164]), (2, [168, 5]), (2, [7, 8]), (2, [0, 2])]
def conicKind_L : List (List Nat × Nat) := []
def conicKind_C : List (List Nat × Nat) := []
def conicKind_Z : List Nat := [4194309, 4194309, 4194309, 4194309, 4194309, 4194309, 3, 4194312, 4194312, 4194312, 8388618, 8388621, 16777240, 8388618, 8388621, 16777240, 8388624, 8388618, 16777243, 20971549, 2, 20971552, 20971549, 41943102, 20971555, 62914658, 3, 4194312, 4194312, 4194312, 8388618, 8388624, 16777243, 20971552, 8388621, 8388624, 16777246, 20971558, 20971558, 8388624, 8388621, 16777246, 20971558, 41943111, 62914670, 4, 4194313, 8388622, 16777241, 33554483, 33554483, 2, 3, 33554486, 33554486, 37748795, 71303281, 67108972, 67108972, 134217945, 4194312, 138412257, 37748795, 71303281, 67108973, 4194312, 71303285, 67108973, 4194312, 71303285, 209715539, 281018821, 352322107, 423625393, 427819703, 33554486, 33554486, 37748795, 71303281, 67108972, 67108972, 134217945, 138412257, 37748795, 71303281, 67108973, 71303285, 67108973, 71303285, 209715539, 281018821, 352322107, 423625393, 427819703, 33554486, 33554486, 37748795, 71303281, 67108972, 67108972, 134217945, 138412257, 37748795, 71303281, 67108973, 71303285, 67108973, 71303285, 209715539, 281018821, 352322107, 423625393, 427819703, 33554486, 33554486, 37748795, 71303281, 67108972, 67108972, 134217945, 138412257, 37748795, 71303281, 67108973, 71303285, 67108973, 71303285, 209715539, 281018821, 352322107, 423625393, 427819703, 33554487, 33554487, 37748796, 71303283, 67108974, 67108974, 134217949, 138412261, 37748796, 71303283, 67108975, 71303287, 67108975, 71303287, 209715545, 281018829, 352322117, 423625405, 427819715, 33554487, 33554487, 37748796, 71303283, 67108974, 67108974, 134217949, 138412261, 37748796, 71303283, 67108975, 71303287, 67108975, 71303287, 209715545, 281018829, 352322117, 423625405, 427819715, 8388625, 8388619]
theorem conicKind_wf : wfB 0 conicKind_N = true := by kernel_rfl
theorem conicKind_sz : szB conicKind_Z conicKind_N conicKind_Z = true := by kernel_rfl
theorem conicKind_lt : litB conicKind_N conicKind_L = true := by kernel_rfl
theorem conicKind_cn : canB conicKind_N conicKind_C = true := by kernel_rfl
theorem conicKind_c6 : cst 0 2 1 = (2 : Rat) := by decide +kernel
theorem conicKind_c20 : cst 0 0 1 = (0 : Rat) := by decide +kernel
theorem conicKind_c26 : cst 0 1 2 = ((1 / 2) : Rat) := by decide +kernel
theorem conicKind_c45 : cst 0 4 1 = (4 : Rat) := by decide +kernel
theorem conicKind_c51 : cst 0 1 1 = (1 : Rat) := by decide +kernel
theorem conicKind_c52 : cst 0 3 1 = (3 : Rat) := by decide +kernel
theorem conicKind_f0 {z0 z1 z2 z3 z4 z5 z6 z7 z8 z9 z10 z11 z12 z13 z14 z15 z16 z17 z18 z19 z20 z21 z22 z23 z24 z25 : Rat} : z6 = 2 → z7 = z0 * z6 → z8 = z2 * z6 → z9 = z5 * z6 → z10 = z1 * z4 → z11 = z3 * z8 → z12 = z10 - z11 → z13 = z3 * z1 → z14 = z7 * z4 → z15 = z13 - z14 → z16 = z7 * z8 → z17 = z1 * z1 → z18 = z16 - z17 → z19 = z12 * z3 → z20 = 0 → z21 = z20 + z19 → z22 = z15 * z4 → z23 = z21 + z22 → z24 = z18 * z9 → z25 = z23 + z24 → (z0 = 0) → (z1 = 0) → (z2 = 0) → z25 = 0 := by
 intro e6 e7 e8 e9 e10 e11 e12 e13 e14 e15 e16 e17 e18 e19 e20 e21 e22 e23 e24 e25 u0 u1 u2
 have s17 := sq_facts z1
 subst_vars; grind
theorem conicKind_f1 {z0 z1 z2 z6 z7 z8 z16 z17 z18 : Rat} : z6 = 2 → z7 = z0 * z6 → z8 = z2 * z6 → z16 = z7 * z8 → z17 = z1 * z1 → z18 = z16 - z17 → (z0 = 0) → (z1 = 0) → z18 = 0 := by
 intro e6 e7 e8 e16 e17 e18 u0 u1
 have s17 := sq_facts z1
 subst_vars; grind
theorem conicKind_f2 {z0 z1 z2 z3 z4 z5 z26 z27 z28 z29 z30 z31 z32 z33 z34 z35 z36 z37 z38 z39 z40 z41 z42 z43 z44 : Rat} : z26 = (1 / 2) → z27 = z26 * z1 → z28 = z26 * z3 → z29 = z26 * z4 → z30 = z2 * z5 → z31 = z29 * z29 → z32 = z30 - z31 → z33 = z0 * z32 → z34 = z27 * z5 → z35 = z29 * z28 → z36 = z34 - z35 → z37 = z27 * z36 → z38 = -z37 → z39 = z27 * z29 → z40 = z2 * z28 → z41 = z39 - z40 → z42 = z28 * z41 → z43 = z33 + z38 → z44 = z43 + z42 → (z0 = 0) → (z1 = 0) → (z2 = 0) → z44 = 0 := by
 intro e26 e27 e28 e29 e30 e31 e32 e33 e34 e35 e36 e37 e38 e39 e40 e41 e42 e43 e44 u0 u1 u2
 have s31 := sq_facts z29
 first | (clear e25 e44; grind) | (subst_vars; grind)
theorem conicKind_f3 {z0 z1 z2 z17 z45 z46 z47 z48 : Rat} : z17 = z1 * z1 → z45 = 4 → z46 = z45 * z0 → z47 = z46 * z2 → z48 = z47 - z17 → (z0 = 0) → (z1 = 0) → z48 = 0 := by
 intro e17 e45 e46 e47 e48 u0 u1
 have s17 := sq_facts z1
 subst_vars; grind
theorem conicKind_f4 {z0 z1 z2 z6 z7 z8 z16 z17 z18 : Rat} : z6 = 2 → z7 = z0 * z6 → z8 = z2 * z6 → z16 = z7 * z8 → z17 = z1 * z1 → z18 = z16 - z17 → (z0 = 0) → (z1 = 0) → ¬ (z18 < 0) := by
 intro e6 e7 e8 e16 e17 e18 u0 u1
 have s17 := sq_facts z1
 subst_vars; grind
theorem conicKind_f5 {z0 z1 z2 z3 z4 z5 z6 z7 z8 z9 z10 z11 z12 z13 z14 z15 z16 z17 z18 z19 z20 z21 z22 z23 z24 z25 z26 z27 z28 z29 z30 z31 z32 z33 z34 z35 z36 z37 z38 z39 z40 z41 z42 z43 z44 : Rat} : z6 = 2 → z7 = z0 * z6 → z8 = z2 * z6 → z9 = z5 * z6 → z10 = z1 * z4 → z11 = z3 * z8 → z12 = z10 - z11 → z13 = z3 * z1 → z14 = z7 * z4 → z15 = z13 - z14 → z16 = z7 * z8 → z17 = z1 * z1 → z18 = z16 - z17 → z19 = z12 * z3 → z20 = 0 → z21 = z20 + z19 → z22 = z15 * z4 → z23 = z21 + z22 → z24 = z18 * z9 → z25 = z23 + z24 → z26 = (1 / 2) → z27 = z26 * z1 → z28 = z26 * z3 → z29 = z26 * z4 → z30 = z2 * z5 → z31 = z29 * z29 → z32 = z30 - z31 → z33 = z0 * z32 → z34 = z27 * z5 → z35 = z29 * z28 → z36 = z34 - z35 → z37 = z27 * z36 → z38 = -z37 → z39 = z27 * z29 → z40 = z2 * z28 → z41 = z39 - z40 → z42 = z28 * z41 → z43 = z33 + z38 → z44 = z43 + z42 → (z25 < 0) → z44 < 0 := by
 intro e6 e7 e8 e9 e10 e11 e12 e13 e14 e15 e16 e17 e18 e19 e20 e21 e22 e23 e24 e25 e26 e27 e28 e29 e30 e31 e32 e33 e34 e35 e36 e37 e38 e39 e40 e41 e42 e43 e44 u3
 have s17 := sq_facts z1
 have s31 := sq_facts z29
 have t4 : z25 = 8 * z44 := by subst_vars; grind
 first | (clear e25 e44; grind) | (subst_vars; grind)
theorem conicKind_f6 {z0 z1 z2 z17 z45 z46 z47 z48 : Rat} : z17 = z1 * z1 → z45 = 4 → z46 = z45 * z0 → z47 = z46 * z2 → z48 = z47 - z17 → (z0 = 0) → (z1 = 0) → ¬ (z48 < 0) := by
 intro e17 e45 e46 e47 e48 u0 u1
 have s17 := sq_facts z1
 subst_vars; grind
theorem conicKind_f7 {z0 z1 z2 z3 z4 z5 z6 z7 z8 z9 z10 z11 z12 z13 z14 z15 z16 z17 z18 z19 z20 z21 z22 z23 z24 z25 z26 z27 z28 z29 z30 z31 z32 z33 z34 z35 z36 z37 z38 z39 z40 z41 z42 z43 z44 : Rat} : z6 = 2 → z7 = z0 * z6 → z8 = z2 * z6 → z9 = z5 * z6 → z10 = z1 * z4 → z11 = z3 * z8 → z12 = z10 - z11 → z13 = z3 * z1 → z14 = z7 * z4 → z15 = z13 - z14 → z16 = z7 * z8 → z17 = z1 * z1 → z18 = z16 - z17 → z19 = z12 * z3 → z20 = 0 → z21 = z20 + z19 → z22 = z15 * z4 → z23 = z21 + z22 → z24 = z18 * z9 → z25 = z23 + z24 → z26 = (1 / 2) → z27 = z26 * z1 → z28 = z26 * z3 → z29 = z26 * z4 → z30 = z2 * z5 → z31 = z29 * z29 → z32 = z30 - z31 → z33 = z0 * z32 → z34 = z27 * z5 → z35 = z29 * z28 → z36 = z34 - z35 → z37 = z27 * z36 → z38 = -z37 → z39 = z27 * z29 → z40 = z2 * z28 → z41 = z39 - z40 → z42 = z28 * z41 → z43 = z33 + z38 → z44 = z43 + z42 → (z25 = 0) → z44 = 0 := by
 intro e6 e7 e8 e9 e10 e11 e12 e13 e14 e15 e16 e17 e18 e19 e20 e21 e22 e23 e24 e25 e26 e27 e28 e29 e30 e31 e32 e33 e34 e35 e36 e37 e38 e39 e40 e41 e42 e43 e44 u3
 rw [u3] at e25
 have s17 := sq_facts z1
 have s31 := sq_facts z29
 have t4 : z25 = 8 * z44 := by subst_vars; grind
 first | (clear e25 e44; grind) | (subst_vars; grind)
theorem conicKind_f8 {z0 z1 z2 z3 z4 z5 z6 z7 z8 z9 z10 z11 z12 z13 z14 z15 z16 z17 z18 z19 z20 z21 z22 z23 z24 z25 z26 z27 z28 z29 z30 z31 z32 z33 z34 z35 z36 z37 z38 z39 z40 z41 z42 z43 z44 : Rat} : z6 = 2 → z7 = z0 * z6 → z8 = z2 * z6 → z9 = z5 * z6 → z10 = z1 * z4 → z11 = z3 * z8 → z12 = z10 - z11 → z13 = z3 * z1 → z14 = z7 * z4 → z15 = z13 - z14 → z16 = z7 * z8 → z17 = z1 * z1 → z18 = z16 - z17 → z19 = z12 * z3 → z20 = 0 → z21 = z20 + z19 → z22 = z15 * z4 → z23 = z21 + z22 → z24 = z18 * z9 → z25 = z23 + z24 → z26 = (1 / 2) → z27 = z26 * z1 → z28 = z26 * z3 → z29 = z26 * z4 → z30 = z2 * z5 → z31 = z29 * z29 → z32 = z30 - z31 → z33 = z0 * z32 → z34 = z27 * z5 → z35 = z29 * z28 → z36 = z34 - z35 → z37 = z27 * z36 → z38 = -z37 → z39 = z27 * z29 → z40 = z2 * z28 → z41 = z39 - z40 → z42 = z28 * z41 → z43 = z33 + z38 → z44 = z43 + z42 → (0 < z25) → 0 < z44 := by
 intro e6 e7 e8 e9 e10 e11 e12 e13 e14 e15 e16 e17 e18 e19 e20 e21 e22 e23 e24 e25 e26 e27 e28 e29 e30 e31 e32 e33 e34 e35 e36 e37 e38 e39 e40 e41 e42 e43 e44 u3
 have s17 := sq_facts z1
 have s31 := sq_facts z29
 have t4 : z25 = 8 * z44 := by subst_vars; grind
 first | (clear e25 e44; grind) | (subst_vars; grind)
theorem conicKind_f9 {z0 z1 z2 z6 z7 z8 z16 z17 z18 : Rat} : z6 = 2 → z7 = z0 * z6 → z8 = z2 * z6 → z16 = z7 * z8 → z17 = z1 * z1 → z18 = z16 - z17 → (z0 = 0) → (¬ (z1 = 0)) → z18 < 0 := by
 intro e6 e7 e8 e16 e17 e18 u0 u1
 have s17 := sq_facts z1
 subst_vars; grind
theorem conicKind_f10 {z0 z1 z2 z6 z7 z8 z16 z17 z18 : Rat} : z6 = 2 → z7 = z0 * z6 → z8 = z2 * z6 → z16 = z7 * z8 → z17 = z1 * z1 → z18 = z16 - z17 → (z0 = 0) → (¬ (z1 = 0)) → ¬ (z18 = 0) := by
 intro e6 e7 e8 e16 e17 e18 u0 u1
 have s17 := sq_facts z1
 subst_vars; grind
theorem conicKind_f11 {z0 z1 z2 z3 z4 z5 z6 z7 z8 z9 z10 z11 z12 z13 z14 z15 z16 z17 z18 z19 z20 z21 z22 z23 z24 z25 z26 z27 z28 z29 z30 z31 z32 z33 z34 z35 z36 z37 z38 z39 z40 z41 z42 z43 z44 : Rat} : z6 = 2 → z7 = z0 * z6 → z8 = z2 * z6 → z9 = z5 * z6 → z10 = z1 * z4 → z11 = z3 * z8 → z12 = z10 - z11 → z13 = z3 * z1 → z14 = z7 * z4 → z15 = z13 - z14 → z16 = z7 * z8 → z17 = z1 * z1 → z18 = z16 - z17 → z19 = z12 * z3 → z20 = 0 → z21 = z20 + z19 → z22 = z15 * z4 → z23 = z21 + z22 → z24 = z18 * z9 → z25 = z23 + z24 → z26 = (1 / 2) → z27 = z26 * z1 → z28 = z26 * z3 → z29 = z26 * z4 → z30 = z2 * z5 → z31 = z29 * z29 → z32 = z30 - z31 → z33 = z0 * z32 → z34 = z27 * z5 → z35 = z29 * z28 → z36 = z34 - z35 → z37 = z27 * z36 → z38 = -z37 → z39 = z27 * z29 → z40 = z2 * z28 → z41 = z39 - z40 → z42 = z28 * z41 → z43 = z33 + z38 → z44 = z43 + z42 → (z25 < 0) → z44 < 0 := by
 intro e6 e7 e8 e9 e10 e11 e12 e13 e14 e15 e16 e17 e18 e19 e20 e21 e22 e23 e24 e25 e26 e27 e28 e29 e30 e31 e32 e33 e34 e35 e36 e37 e38 e39 e40 e41 e42 e43 e44 u2
 have s17 := sq_facts z1
 have s31 := sq_facts z29
 have t4 : z25 = 8 * z44 := by subst_vars; grind
 first | (clear e25 e44; grind) | (subst_vars; grind)
theorem conicKind_f12 {z0 z1 z2 z17 z45 z46 z47 z48 : Rat} : z17 = z1 * z1 → z45 = 4 → z46 = z45 * z0 → z47 = z46 * z2 → z48 = z47 - z17 → (z0 = 0) → (¬ (z1 = 0)) → z48 < 0 := by
 intro e17 e45 e46 e47 e48 u0 u1
 have s17 := sq_facts z1
 subst_vars; grind
theorem conicKind_f13 {z0 z1 z2 z17 z45 z46 z47 z48 : Rat} : z17 = z1 * z1 → z45 = 4 → z46 = z45 * z0 → z47 = z46 * z2 → z48 = z47 - z17 → (z0 = 0) → (¬ (z1 = 0)) → ¬ (z48 = 0) := by
 intro e17 e45 e46 e47 e48 u0 u1
 have s17 := sq_facts z1
 subst_vars; grind
theorem conicKind_f14 {z0 z1 z2 z3 z4 z5 z6 z7 z8 z10 z11 z12 z13 z14 z15 z16 z17 z18 z20 z26 z49 z50 z51 z53 z54 z55 z56 z57 z58 z59 z60 z61 z62 z63 z64 z65 z66 z67 z68 z69 z70 z71 z72 z73 z74 z75 z76 z77 z78 z79 z80 z81 z82 z83 z84 z85 z86 z87 z88 z89 z90 z91 z92 z93 : Rat} : z6 = 2 → z7 = z0 * z6 → z8 = z2 * z6 → z10 = z1 * z4 → z11 = z3 * z8 → z12 = z10 - z11 → z13 = z3 * z1 → z14 = z7 * z4 → z15 = z13 - z14 → z16 = z7 * z8 → z17 = z1 * z1 → z18 = z16 - z17 → z20 = 0 → z26 = (1 / 2) → z49 = z12 / z18 → z50 = z15 / z18 → z51 = 1 → z53 = z49 + z51 → z54 = z50 + z20 → z55 = z0 * z53 → z56 = z55 * z53 → z57 = z53 * z54 → z58 = z54 * z53 → z59 = z57 + z58 → z60 = z1 * z26 → z61 = z60 * z59 → z62 = z2 * z54 → z63 = z62 * z54 → z64 = z53 + z53 → z65 = z3 * z26 → z66 = z65 * z64 → z67 = z54 + z54 → z68 = z4 * z26 → z69 = z68 * z67 → z70 = z56 + z61 → z71 = z70 + z63 → z72 = z71 + z66 → z73 = z72 + z69 → z74 = z73 + z5 → z75 = z49 - z51 → z76 = z50 - z20 → z77 = z0 * z75 → z78 = z77 * z75 → z79 = z75 * z76 → z80 = z76 * z75 → z81 = z79 + z80 → z82 = z60 * z81 → z83 = z2 * z76 → z84 = z83 * z76 → z85 = z75 + z75 → z86 = z65 * z85 → z87 = z76 + z76 → z88 = z68 * z87 → z89 = z78 + z82 → z90 = z89 + z84 → z91 = z90 + z86 → z92 = z91 + z88 → z93 = z92 + z5 → (z0 = 0) → (¬ (z1 = 0)) → z74 = z93 := by
 intro e6 e7 e8 e10 e11 e12 e13 e14 e15 e16 e17 e18 e20 e26 e49 e50 e51 e53 e54 e55 e56 e57 e58 e59 e60 e61 e62 e63 e64 e65 e66 e67 e68 e69 e70 e71 e72 e73 e74 e75 e76 e77 e78 e79 e80 e81 e82 e83 e84 e85 e86 e87 e88 e89 e90 e91 e92 e93 u0 u1
 have s17 := sq_facts z1
 have n18 : z18 ≠ 0 := by grind
 subst_vars; grind
theorem conicKind_f15 {z0 z1 z2 z3 z4 z5 z6 z7 z8 z10 z11 z12 z13 z14 z15 z16 z17 z18 z20 z26 z49 z50 z51 z60 z65 z68 z94 z95 z96 z97 z98 z99 z100 z101 z102 z103 z104 z105 z106 z107 z108 z109 z110 z111 z112 z113 z114 z115 z116 z117 z118 z119 z120 z121 z122 z123 z124 z125 z126 z127 z128 z129 z130 z131 : Rat} : z6 = 2 → z7 = z0 * z6 → z8 = z2 * z6 → z10 = z1 * z4 → z11 = z3 * z8 → z12 = z10 - z11 → z13 = z3 * z1 → z14 = z7 * z4 → z15 = z13 - z14 → z16 = z7 * z8 → z17 = z1 * z1 → z18 = z16 - z17 → z20 = 0 → z26 = (1 / 2) → z49 = z12 / z18 → z50 = z15 / z18 → z51 = 1 → z60 = z1 * z26 → z65 = z3 * z26 → z68 = z4 * z26 → z94 = z49 + z20 → z95 = z50 + z51 → z96 = z0 * z94 → z97 = z96 * z94 → z98 = z94 * z95 → z99 = z95 * z94 → z100 = z98 + z99 → z101 = z60 * z100 → z102 = z2 * z95 → z103 = z102 * z95 → z104 = z94 + z94 → z105 = z65 * z104 → z106 = z95 + z95 → z107 = z68 * z106 → z108 = z97 + z101 → z109 = z108 + z103 → z110 = z109 + z105 → z111 = z110 + z107 → z112 = z111 + z5 → z113 = z49 - z20 → z114 = z50 - z51 → z115 = z0 * z113 → z116 = z115 * z113 → z117 = z113 * z114 → z118 = z114 * z113 → z119 = z117 + z118 → z120 = z60 * z119 → z121 = z2 * z114 → z122 = z121 * z114 → z123 = z113 + z113 → z124 = z65 * z123 → z125 = z114 + z114 → z126 = z68 * z125 → z127 = z116 + z120 → z128 = z127 + z122 → z129 = z128 + z124 → z130 = z129 + z126 → z131 = z130 + z5 → (z0 = 0) → (¬ (z1 = 0)) → z112 = z131 := by
 intro e6 e7 e8 e10 e11 e12 e13 e14 e15 e16 e17 e18 e20 e26 e49 e50 e51 e60 e65 e68 e94 e95 e96 e97 e98 e99 e100 e101 e102 e103 e104 e105 e106 e107 e108 e109 e110 e111 e112 e113 e114 e115 e116 e117 e118 e119 e120 e121 e122 e123 e124 e125 e126 e127 e128 e129 e130 e131 u0 u1
 have s17 := sq_facts z1
 have n18 : z18 ≠ 0 := by grind
 subst_vars; grind
theorem conicKind_f16 {z0 z1 z2 z3 z4 z5 z6 z7 z8 z10 z11 z12 z13 z14 z15 z16 z17 z18 z26 z49 z50 z52 z60 z65 z68 z132 z133 z134 z135 z136 z137 z138 z139 z140 z141 z142 z143 z144 z145 z146 z147 z148 z149 z150 z151 z152 z153 z154 z155 z156 z157 z158 z159 z160 z161 z162 z163 z164 z165 z166 z167 z168 z169 : Rat} : z6 = 2 → z7 = z0 * z6 → z8 = z2 * z6 → z10 = z1 * z4 → z11 = z3 * z8 → z12 = z10 - z11 → z13 = z3 * z1 → z14 = z7 * z4 → z15 = z13 - z14 → z16 = z7 * z8 → z17 = z1 * z1 → z18 = z16 - z17 → z26 = (1 / 2) → z49 = z12 / z18 → z50 = z15 / z18 → z52 = 3 → z60 = z1 * z26 → z65 = z3 * z26 → z68 = z4 * z26 → z132 = z49 + z6 → z133 = z50 + z52 → z134 = z0 * z132 → z135 = z134 * z132 → z136 = z132 * z133 → z137 = z133 * z132 → z138 = z136 + z137 → z139 = z60 * z138 → z140 = z2 * z133 → z141 = z140 * z133 → z142 = z132 + z132 → z143 = z65 * z142 → z144 = z133 + z133 → z145 = z68 * z144 → z146 = z135 + z139 → z147 = z146 + z141 → z148 = z147 + z143 → z149 = z148 + z145 → z150 = z149 + z5 → z151 = z49 - z6 → z152 = z50 - z52 → z153 = z0 * z151 → z154 = z153 * z151 → z155 = z151 * z152 → z156 = z152 * z151 → z157 = z155 + z156 → z158 = z60 * z157 → z159 = z2 * z152 → z160 = z159 * z152 → z161 = z151 + z151 → z162 = z65 * z161 → z163 = z152 + z152 → z164 = z68 * z163 → z165 = z154 + z158 → z166 = z165 + z160 → z167 = z166 + z162 → z168 = z167 + z164 → z169 = z168 + z5 → (z0 = 0) → (¬ (z1 = 0)) → z150 = z169 := by
 intro e6 e7 e8 e10 e11 e12 e13 e14 e15 e16 e17 e18 e26 e49 e50 e52 e60 e65 e68 e132 e133 e134 e135 e136 e137 e138 e139 e140 e141 e142 e143 e144 e145 e146 e147 e148 e149 e150 e151 e152 e153 e154 e155 e156 e157 e158 e159 e160 e161 e162 e163 e164 e165 e166 e167 e168 e169 u0 u1
 have s17 := sq_facts z1
 have n18 : z18 ≠ 0 := by grind
 subst_vars; grind
theorem conicKind_f17 {z0 z1 z2 z3 z4 z5 z6 z7 z8 z9 z10 z11 z12 z13 z14 z15 z16 z17 z18 z19 z20 z21 z22 z23 z24 z25 z26 z27 z28 z29 z30 z31 z32 z33 z34 z35 z36 z37 z38 z39 z40 z41 z42 z43 z44 : Rat} : z6 = 2 → z7 = z0 * z6 → z8 = z2 * z6 → z9 = z5 * z6 → z10 = z1 * z4 → z11 = z3 * z8 → z12 = z10 - z11 → z13 = z3 * z1 → z14 = z7 * z4 → z15 = z13 - z14 → z16 = z7 * z8 → z17 = z1 * z1 → z18 = z16 - z17 → z19 = z12 * z3 → z20 = 0 → z21 = z20 + z19 → z22 = z15 * z4 → z23 = z21 + z22 → z24 = z18 * z9 → z25 = z23 + z24 → z26 = (1 / 2) → z27 = z26 * z1 → z28 = z26 * z3 → z29 = z26 * z4 → z30 = z2 * z5 → z31 = z29 * z29 → z32 = z30 - z31 → z33 = z0 * z32 → z34 = z27 * z5 → z35 = z29 * z28 → z36 = z34 - z35 → z37 = z27 * z36 → z38 = -z37 → z39 = z27 * z29 → z40 = z2 * z28 → z41 = z39 - z40 → z42 = z28 * z41 → z43 = z33 + z38 → z44 = z43 + z42 → (z25 = 0) → z44 = 0 := by
 intro e6 e7 e8 e9 e10 e11 e12 e13 e14 e15 e16 e17 e18 e19 e20 e21 e22 e23 e24 e25 e26 e27 e28 e29 e30 e31 e32 e33 e34 e35 e36 e37 e38 e39 e40 e41 e42 e43 e44 u2
 rw [u2] at e25
 have s17 := sq_facts z1
 have s31 := sq_facts z29
 have t4 : z25 = 8 * z44 := by subst_vars; grind
 first | (clear e25 e44; grind) | (subst_vars; grind)
theorem conicKind_f18 {z0 z1 z2 z3 z4 z5 z6 z7 z8 z9 z10 z11 z12 z13 z14 z15 z16 z17 z18 z19 z20 z21 z22 z23 z24 z25 z26 z27 z28 z29 z30 z31 z32 z33 z34 z35 z36 z37 z38 z39 z40 z41 z42 z43 z44 : Rat} : z6 = 2 → z7 = z0 * z6 → z8 = z2 * z6 → z9 = z5 * z6 → z10 = z1 * z4 → z11 = z3 * z8 → z12 = z10 - z11 → z13 = z3 * z1 → z14 = z7 * z4 → z15 = z13 - z14 → z16 = z7 * z8 → z17 = z1 * z1 → z18 = z16 - z17 → z19 = z12 * z3 → z20 = 0 → z21 = z20 + z19 → z22 = z15 * z4 → z23 = z21 + z22 → z24 = z18 * z9 → z25 = z23 + z24 → z26 = (1 / 2) → z27 = z26 * z1 → z28 = z26 * z3 → z29 = z26 * z4 → z30 = z2 * z5 → z31 = z29 * z29 → z32 = z30 - z31 → z33 = z0 * z32 → z34 = z27 * z5 → z35 = z29 * z28 → z36 = z34 - z35 → z37 = z27 * z36 → z38 = -z37 → z39 = z27 * z29 → z40 = z2 * z28 → z41 = z39 - z40 → z42 = z28 * z41 → z43 = z33 + z38 → z44 = z43 + z42 → (0 < z25) → 0 < z44 := by
 intro e6 e7 e8 e9 e10 e11 e12 e13 e14 e15 e16 e17 e18 e19 e20 e21 e22 e23 e24 e25 e26 e27 e28 e29 e30 e31 e32 e33 e34 e35 e36 e37 e38 e39 e40 e41 e42 e43 e44 u2
 have s17 := sq_facts z1
 have s31 := sq_facts z29
 have t4 : z25 = 8 * z44 := by subst_vars; grind
 first | (clear e25 e44; grind) | (subst_vars; grind)
theorem conicKind_f19 {z0 z1 z2 z6 z7 z8 z16 z17 z18 : Rat} : z6 = 2 → z7 = z0 * z6 → z8 = z2 * z6 → z16 = z7 * z8 → z17 = z1 * z1 → z18 = z16 - z17 → (z18 < 0) → ¬ (z18 = 0) := by
 intro e6 e7 e8 e16 e17 e18 u2
 have s17 := sq_facts z1
 subst_vars; grind
theorem conicKind_f20 {z0 z1 z2 z3 z4 z5 z6 z7 z8 z9 z10 z11 z12 z13 z14 z15 z16 z17 z18 z19 z20 z21 z22 z23 z24 z25 z26 z27 z28 z29 z30 z31 z32 z33 z34 z35 z36 z37 z38 z39 z40 z41 z42 z43 z44 : Rat} : z6 = 2 → z7 = z0 * z6 → z8 = z2 * z6 → z9 = z5 * z6 → z10 = z1 * z4 → z11 = z3 * z8 → z12 = z10 - z11 → z13 = z3 * z1 → z14 = z7 * z4 → z15 = z13 - z14 → z16 = z7 * z8 → z17 = z1 * z1 → z18 = z16 - z17 → z19 = z12 * z3 → z20 = 0 → z21 = z20 + z19 → z22 = z15 * z4 → z23 = z21 + z22 → z24 = z18 * z9 → z25 = z23 + z24 → z26 = (1 / 2) → z27 = z26 * z1 → z28 = z26 * z3 → z29 = z26 * z4 → z30 = z2 * z5 → z31 = z29 * z29 → z32 = z30 - z31 → z33 = z0 * z32 → z34 = z27 * z5 → z35 = z29 * z28 → z36 = z34 - z35 → z37 = z27 * z36 → z38 = -z37 → z39 = z27 * z29 → z40 = z2 * z28 → z41 = z39 - z40 → z42 = z28 * z41 → z43 = z33 + z38 → z44 = z43 + z42 → (z25 < 0) → z44 < 0 := by
 intro e6 e7 e8 e9 e10 e11 e12 e13 e14 e15 e16 e17 e18 e19 e20 e21 e22 e23 e24 e25 e26 e27 e28 e29 e30 e31 e32 e33 e34 e35 e36 e37 e38 e39 e40 e41 e42 e43 e44 u1
 have s17 := sq_facts z1
 have s31 := sq_facts z29
 have t4 : z25 = 8 * z44 := by subst_vars; grind
 first | (clear e25 e44; grind) | (subst_vars; grind)
theorem conicKind_f21 {z0 z1 z2 z6 z7 z8 z16 z17 z18 z45 z46 z47 z48 : Rat} : z6 = 2 → z7 = z0 * z6 → z8 = z2 * z6 → z16 = z7 * z8 → z17 = z1 * z1 → z18 = z16 - z17 → z45 = 4 → z46 = z45 * z0 → z47 = z46 * z2 → z48 = z47 - z17 → (z18 < 0) → z48 < 0 := by
 intro e6 e7 e8 e16 e17 e18 e45 e46 e47 e48 u2
 have s17 := sq_facts z1
 subst_vars; grind
theorem conicKind_f22 {z0 z1 z2 z6 z7 z8 z16 z17 z18 z45 z46 z47 z48 : Rat} : z6 = 2 → z7 = z0 * z6 → z8 = z2 * z6 → z16 = z7 * z8 → z17 = z1 * z1 → z18 = z16 - z17 → z45 = 4 → z46 = z45 * z0 → z47 = z46 * z2 → z48 = z47 - z17 → (z18 < 0) → ¬ (z48 = 0) := by
 intro e6 e7 e8 e16 e17 e18 e45 e46 e47 e48 u2
 have s17 := sq_facts z1
 subst_vars; grind
theorem conicKind_f23 {z0 z1 z2 z3 z4 z5 z6 z7 z8 z10 z11 z12 z13 z14 z15 z16 z17 z18 z20 z26 z49 z50 z51 z53 z54 z55 z56 z57 z58 z59 z60 z61 z62 z63 z64 z65 z66 z67 z68 z69 z70 z71 z72 z73 z74 z75 z76 z77 z78 z79 z80 z81 z82 z83 z84 z85 z86 z87 z88 z89 z90 z91 z92 z93 : Rat} : z6 = 2 → z7 = z0 * z6 → z8 = z2 * z6 → z10 = z1 * z4 → z11 = z3 * z8 → z12 = z10 - z11 → z13 = z3 * z1 → z14 = z7 * z4 → z15 = z13 - z14 → z16 = z7 * z8 → z17 = z1 * z1 → z18 = z16 - z17 → z20 = 0 → z26 = (1 / 2) → z49 = z12 / z18 → z50 = z15 / z18 → z51 = 1 → z53 = z49 + z51 → z54 = z50 + z20 → z55 = z0 * z53 → z56 = z55 * z53 → z57 = z53 * z54 → z58 = z54 * z53 → z59 = z57 + z58 → z60 = z1 * z26 → z61 = z60 * z59 → z62 = z2 * z54 → z63 = z62 * z54 → z64 = z53 + z53 → z65 = z3 * z26 → z66 = z65 * z64 → z67 = z54 + z54 → z68 = z4 * z26 → z69 = z68 * z67 → z70 = z56 + z61 → z71 = z70 + z63 → z72 = z71 + z66 → z73 = z72 + z69 → z74 = z73 + z5 → z75 = z49 - z51 → z76 = z50 - z20 → z77 = z0 * z75 → z78 = z77 * z75 → z79 = z75 * z76 → z80 = z76 * z75 → z81 = z79 + z80 → z82 = z60 * z81 → z83 = z2 * z76 → z84 = z83 * z76 → z85 = z75 + z75 → z86 = z65 * z85 → z87 = z76 + z76 → z88 = z68 * z87 → z89 = z78 + z82 → z90 = z89 + z84 → z91 = z90 + z86 → z92 = z91 + z88 → z93 = z92 + z5 → (z18 < 0) → z74 = z93 := by
 intro e6 e7 e8 e10 e11 e12 e13 e14 e15 e16 e17 e18 e20 e26 e49 e50 e51 e53 e54 e55 e56 e57 e58 e59 e60 e61 e62 e63 e64 e65 e66 e67 e68 e69 e70 e71 e72 e73 e74 e75 e76 e77 e78 e79 e80 e81 e82 e83 e84 e85 e86 e87 e88 e89 e90 e91 e92 e93 u2
 have s17 := sq_facts z1
 have n18 : z18 ≠ 0 := by grind
 subst_vars; grind
theorem conicKind_f24 {z0 z1 z2 z3 z4 z5 z6 z7 z8 z10 z11 z12 z13 z14 z15 z16 z17 z18 z20 z26 z49 z50 z51 z60 z65 z68 z94 z95 z96 z97 z98 z99 z100 z101 z102 z103 z104 z105 z106 z107 z108 z109 z110 z111 z112 z113 z114 z115 z116 z117 z118 z119 z120 z121 z122 z123 z124 z125 z126 z127 z128 z129 z130 z131 : Rat} : z6 = 2 → z7 = z0 * z6 → z8 = z2 * z6 → z10 = z1 * z4 → z11 = z3 * z8 → z12 = z10 - z11 → z13 = z3 * z1 → z14 = z7 * z4 → z15 = z13 - z14 → z16 = z7 * z8 → z17 = z1 * z1 → z18 = z16 - z17 → z20 = 0 → z26 = (1 / 2) → z49 = z12 / z18 → z50 = z15 / z18 → z51 = 1 → z60 = z1 * z26 → z65 = z3 * z26 → z68 = z4 * z26 → z94 = z49 + z20 → z95 = z50 + z51 → z96 = z0 * z94 → z97 = z96 * z94 → z98 = z94 * z95 → z99 = z95 * z94 → z100 = z98 + z99 → z101 = z60 * z100 → z102 = z2 * z95 → z103 = z102 * z95 → z104 = z94 + z94 → z105 = z65 * z104 → z106 = z95 + z95 → z107 = z68 * z106 → z108 = z97 + z101 → z109 = z108 + z103 → z110 = z109 + z105 → z111 = z110 + z107 → z112 = z111 + z5 → z113 = z49 - z20 → z114 = z50 - z51 → z115 = z0 * z113 → z116 = z115 * z113 → z117 = z113 * z114 → z118 = z114 * z113 → z119 = z117 + z118 → z120 = z60 * z119 → z121 = z2 * z114 → z122 = z121 * z114 → z123 = z113 + z113 → z124 = z65 * z123 → z125 = z114 + z114 → z126 = z68 * z125 → z127 = z116 + z120 → z128 = z127 + z122 → z129 = z128 + z124 → z130 = z129 + z126 → z131 = z130 + z5 → (z18 < 0) → z112 = z131 := by
 intro e6 e7 e8 e10 e11 e12 e13 e14 e15 e16 e17 e18 e20 e26 e49 e50 e51 e60 e65 e68 e94 e95 e96 e97 e98 e99 e100 e101 e102 e103 e104 e105 e106 e107 e108 e109 e110 e111 e112 e113 e114 e115 e116 e117 e118 e119 e120 e121 e122 e123 e124 e125 e126 e127 e128 e129 e130 e131 u2
 have s17 := sq_facts z1
 have n18 : z18 ≠ 0 := by grind
 subst_vars; grind
theorem conicKind_f25 {z0 z1 z2 z3 z4 z5 z6 z7 z8 z10 z11 z12 z13 z14 z15 z16 z17 z18 z26 z49 z50 z52 z60 z65 z68 z132 z133 z134 z135 z136 z137 z138 z139 z140 z141 z142 z143 z144 z145 z146 z147 z148 z149 z150 z151 z152 z153 z154 z155 z156 z157 z158 z159 z160 z161 z162 z163 z164 z165 z166 z167 z168 z169 : Rat} : z6 = 2 → z7 = z0 * z6 → z8 = z2 * z6 → z10 = z1 * z4 → z11 = z3 * z8 → z12 = z10 - z11 → z13 = z3 * z1 → z14 = z7 * z4 → z15 = z13 - z14 → z16 = z7 * z8 → z17 = z1 * z1 → z18 = z16 - z17 → z26 = (1 / 2) → z49 = z12 / z18 → z50 = z15 / z18 → z52 = 3 → z60 = z1 * z26 → z65 = z3 * z26 → z68 = z4 * z26 → z132 = z49 + z6 → z133 = z50 + z52 → z134 = z0 * z132 → z135 = z134 * z132 → z136 = z132 * z133 → z137 = z133 * z132 → z138 = z136 + z137 → z139 = z60 * z138 → z140 = z2 * z133 → z141 = z140 * z133 → z142 = z132 + z132 → z143 = z65 * z142 → z144 = z133 + z133 → z145 = z68 * z144 → z146 = z135 + z139 → z147 = z146 + z141 → z148 = z147 + z143 → z149 = z148 + z145 → z150 = z149 + z5 → z151 = z49 - z6 → z152 = z50 - z52 → z153 = z0 * z151 → z154 = z153 * z151 → z155 = z151 * z152 → z156 = z152 * z151 → z157 = z155 + z156 → z158 = z60 * z157 → z159 = z2 * z152 → z160 = z159 * z152 → z161 = z151 + z151 → z162 = z65 * z161 → z163 = z152 + z152 → z164 = z68 * z163 → z165 = z154 + z158 → z166 = z165 + z160 → z167 = z166 + z162 → z168 = z167 + z164 → z169 = z168 + z5 → (z18 < 0) → z150 = z169 := by
 intro e6 e7 e8 e10 e11 e12 e13 e14 e15 e16 e17 e18 e26 e49 e50 e52 e60 e65 e68 e132 e133 e134 e135 e136 e137 e138 e139 e140 e141 e142 e143 e144 e145 e146 e147 e148 e149 e150 e151 e152 e153 e154 e155 e156 e157 e158 e159 e160 e161 e162 e163 e164 e165 e166 e167 e168 e169 u2
 have s17 := sq_facts z1
 have n18 : z18 ≠ 0 := by grind
 subst_vars; grind
theorem conicKind_f26 {z0 z1 z2 z6 z7 z8 z16 z17 z18 z45 z46 z47 z48 : Rat} : z6 = 2 → z7 = z0 * z6 → z8 = z2 * z6 → z16 = z7 * z8 → z17 = z1 * z1 → z18 = z16 - z17 → z45 = 4 → z46 = z45 * z0 → z47 = z46 * z2 → z48 = z47 - z17 → (¬ (z18 < 0)) → ¬ (z48 < 0) := by
 intro e6 e7 e8 e16 e17 e18 e45 e46 e47 e48 u2
 have s17 := sq_facts z1
 subst_vars; grind
theorem conicKind_f27 {z0 z1 z2 z6 z7 z8 z16 z17 z18 z45 z46 z47 z48 : Rat} : z6 = 2 → z7 = z0 * z6 → z8 = z2 * z6 → z16 = z7 * z8 → z17 = z1 * z1 → z18 = z16 - z17 → z45 = 4 → z46 = z45 * z0 → z47 = z46 * z2 → z48 = z47 - z17 → (z18 = 0) → z48 = 0 := by
 intro e6 e7 e8 e16 e17 e18 e45 e46 e47 e48 u3
 rw [u3] at e18
 have s17 := sq_facts z1
 subst_vars; grind
theorem conicKind_f28 {z0 z1 z2 z6 z7 z8 z16 z17 z18 z45 z46 z47 z48 : Rat} : z6 = 2 → z7 = z0 * z6 → z8 = z2 * z6 → z16 = z7 * z8 → z17 = z1 * z1 → z18 = z16 - z17 → z45 = 4 → z46 = z45 * z0 → z47 = z46 * z2 → z48 = z47 - z17 → (¬ (z18 = 0)) → ¬ (z48 = 0) := by
 intro e6 e7 e8 e16 e17 e18 e45 e46 e47 e48 u3
 have s17 := sq_facts z1
 subst_vars; grind
theorem conicKind_f29 {z0 z2 z6 z7 z8 z170 z171 : Rat} : z6 = 2 → z7 = z0 * z6 → z8 = z2 * z6 → z170 = z7 + z8 → z171 = z0 + z2 → (z170 < 0) → z171 < 0 := by
 intro e6 e7 e8 e170 e171 u4
 subst_vars; grind
theorem conicKind_f30 {z0 z1 z2 z3 z4 z5 z6 z7 z8 z10 z11 z12 z13 z14 z15 z16 z17 z18 z20 z26 z49 z50 z51 z53 z54 z55 z56 z57 z58 z59 z60 z61 z62 z63 z64 z65 z66 z67 z68 z69 z70 z71 z72 z73 z74 z75 z76 z77 z78 z79 z80 z81 z82 z83 z84 z85 z86 z87 z88 z89 z90 z91 z92 z93 : Rat} : z6 = 2 → z7 = z0 * z6 → z8 = z2 * z6 → z10 = z1 * z4 → z11 = z3 * z8 → z12 = z10 - z11 → z13 = z3 * z1 → z14 = z7 * z4 → z15 = z13 - z14 → z16 = z7 * z8 → z17 = z1 * z1 → z18 = z16 - z17 → z20 = 0 → z26 = (1 / 2) → z49 = z12 / z18 → z50 = z15 / z18 → z51 = 1 → z53 = z49 + z51 → z54 = z50 + z20 → z55 = z0 * z53 → z56 = z55 * z53 → z57 = z53 * z54 → z58 = z54 * z53 → z59 = z57 + z58 → z60 = z1 * z26 → z61 = z60 * z59 → z62 = z2 * z54 → z63 = z62 * z54 → z64 = z53 + z53 → z65 = z3 * z26 → z66 = z65 * z64 → z67 = z54 + z54 → z68 = z4 * z26 → z69 = z68 * z67 → z70 = z56 + z61 → z71 = z70 + z63 → z72 = z71 + z66 → z73 = z72 + z69 → z74 = z73 + z5 → z75 = z49 - z51 → z76 = z50 - z20 → z77 = z0 * z75 → z78 = z77 * z75 → z79 = z75 * z76 → z80 = z76 * z75 → z81 = z79 + z80 → z82 = z60 * z81 → z83 = z2 * z76 → z84 = z83 * z76 → z85 = z75 + z75 → z86 = z65 * z85 → z87 = z76 + z76 → z88 = z68 * z87 → z89 = z78 + z82 → z90 = z89 + z84 → z91 = z90 + z86 → z92 = z91 + z88 → z93 = z92 + z5 → (¬ (z18 = 0)) → z74 = z93 := by
 intro e6 e7 e8 e10 e11 e12 e13 e14 e15 e16 e17 e18 e20 e26 e49 e50 e51 e53 e54 e55 e56 e57 e58 e59 e60 e61 e62 e63 e64 e65 e66 e67 e68 e69 e70 e71 e72 e73 e74 e75 e76 e77 e78 e79 e80 e81 e82 e83 e84 e85 e86 e87 e88 e89 e90 e91 e92 e93 u3
 have s17 := sq_facts z1
 have n18 : z18 ≠ 0 := by grind
 subst_vars; grind
theorem conicKind_f31 {z0 z1 z2 z3 z4 z5 z6 z7 z8 z10 z11 z12 z13 z14 z15 z16 z17 z18 z20 z26 z49 z50 z51 z60 z65 z68 z94 z95 z96 z97 z98 z99 z100 z101 z102 z103 z104 z105 z106 z107 z108 z109 z110 z111 z112 z113 z114 z115 z116 z117 z118 z119 z120 z121 z122 z123 z124 z125 z126 z127 z128 z129 z130 z131 : Rat} : z6 = 2 → z7 = z0 * z6 → z8 = z2 * z6 → z10 = z1 * z4 → z11 = z3 * z8 → z12 = z10 - z11 → z13 = z3 * z1 → z14 = z7 * z4 → z15 = z13 - z14 → z16 = z7 * z8 → z17 = z1 * z1 → z18 = z16 - z17 → z20 = 0 → z26 = (1 / 2) → z49 = z12 / z18 → z50 = z15 / z18 → z51 = 1 → z60 = z1 * z26 → z65 = z3 * z26 → z68 = z4 * z26 → z94 = z49 + z20 → z95 = z50 + z51 → z96 = z0 * z94 → z97 = z96 * z94 → z98 = z94 * z95 → z99 = z95 * z94 → z100 = z98 + z99 → z101 = z60 * z100 → z102 = z2 * z95 → z103 = z102 * z95 → z104 = z94 + z94 → z105 = z65 * z104 → z106 = z95 + z95 → z107 = z68 * z106 → z108 = z97 + z101 → z109 = z108 + z103 → z110 = z109 + z105 → z111 = z110 + z107 → z112 = z111 + z5 → z113 = z49 - z20 → z114 = z50 - z51 → z115 = z0 * z113 → z116 = z115 * z113 → z117 = z113 * z114 → z118 = z114 * z113 → z119 = z117 + z118 → z120 = z60 * z119 → z121 = z2 * z114 → z122 = z121 * z114 → z123 = z113 + z113 → z124 = z65 * z123 → z125 = z114 + z114 → z126 = z68 * z125 → z127 = z116 + z120 → z128 = z127 + z122 → z129 = z128 + z124 → z130 = z129 + z126 → z131 = z130 + z5 → (¬ (z18 = 0)) → z112 = z131 := by
 intro e6 e7 e8 e10 e11 e12 e13 e14 e15 e16 e17 e18 e20 e26 e49 e50 e51 e60 e65 e68 e94 e95 e96 e97 e98 e99 e100 e101 e102 e103 e104 e105 e106 e107 e108 e109 e110 e111 e112 e113 e114 e115 e116 e117 e118 e119 e120 e121 e122 e123 e124 e125 e126 e127 e128 e129 e130 e131 u3
 have s17 := sq_facts z1
 have n18 : z18 ≠ 0 := by grind
 subst_vars; grind
theorem conicKind_f32 {z0 z1 z2 z3 z4 z5 z6 z7 z8 z10 z11 z12 z13 z14 z15 z16 z17 z18 z26 z49 z50 z52 z60 z65 z68 z132 z133 z134 z135 z136 z137 z138 z139 z140 z141 z142 z143 z144 z145 z146 z147 z148 z149 z150 z151 z152 z153 z154 z155 z156 z157 z158 z159 z160 z161 z162 z163 z164 z165 z166 z167 z168 z169 : Rat} : z6 = 2 → z7 = z0 * z6 → z8 = z2 * z6 → z10 = z1 * z4 → z11 = z3 * z8 → z12 = z10 - z11 → z13 = z3 * z1 → z14 = z7 * z4 → z15 = z13 - z14 → z16 = z7 * z8 → z17 = z1 * z1 → z18 = z16 - z17 → z26 = (1 / 2) → z49 = z12 / z18 → z50 = z15 / z18 → z52 = 3 → z60 = z1 * z26 → z65 = z3 * z26 → z68 = z4 * z26 → z132 = z49 + z6 → z133 = z50 + z52 → z134 = z0 * z132 → z135 = z134 * z132 → z136 = z132 * z133 → z137 = z133 * z132 → z138 = z136 + z137 → z139 = z60 * z138 → z140 = z2 * z133 → z141 = z140 * z133 → z142 = z132 + z132 → z143 = z65 * z142 → z144 = z133 + z133 → z145 = z68 * z144 → z146 = z135 + z139 → z147 = z146 + z141 → z148 = z147 + z143 → z149 = z148 + z145 → z150 = z149 + z5 → z151 = z49 - z6 → z152 = z50 - z52 → z153 = z0 * z151 → z154 = z153 * z151 → z155 = z151 * z152 → z156 = z152 * z151 → z157 = z155 + z156 → z158 = z60 * z157 → z159 = z2 * z152 → z160 = z159 * z152 → z161 = z151 + z151 → z162 = z65 * z161 → z163 = z152 + z152 → z164 = z68 * z163 → z165 = z154 + z158 → z166 = z165 + z160 → z167 = z166 + z162 → z168 = z167 + z164 → z169 = z168 + z5 → (¬ (z18 = 0)) → z150 = z169 := by
 intro e6 e7 e8 e10 e11 e12 e13 e14 e15 e16 e17 e18 e26 e49 e50 e52 e60 e65 e68 e132 e133 e134 e135 e136 e137 e138 e139 e140 e141 e142 e143 e144 e145 e146 e147 e148 e149 e150 e151 e152 e153 e154 e155 e156 e157 e158 e159 e160 e161 e162 e163 e164 e165 e166 e167 e168 e169 u3
 have s17 := sq_facts z1
 have n18 : z18 ≠ 0 := by grind
 subst_vars; grind
theorem conicKind_f33 {z0 z1 z2 z3 z4 z5 z6 z7 z8 z9 z10 z11 z12 z13 z14 z15 z16 z17 z18 z19 z20 z21 z22 z23 z24 z25 z170 : Rat} : z6 = 2 → z7 = z0 * z6 → z8 = z2 * z6 → z9 = z5 * z6 → z10 = z1 * z4 → z11 = z3 * z8 → z12 = z10 - z11 → z13 = z3 * z1 → z14 = z7 * z4 → z15 = z13 - z14 → z16 = z7 * z8 → z17 = z1 * z1 → z18 = z16 - z17 → z19 = z12 * z3 → z20 = 0 → z21 = z20 + z19 → z22 = z15 * z4 → z23 = z21 + z22 → z24 = z18 * z9 → z25 = z23 + z24 → z170 = z7 + z8 → (¬ (z0 = 0)) → (z25 < 0) → (¬ (z18 < 0)) → (¬ (z18 = 0)) → ¬ (z170 = 0) := by
 intro e6 e7 e8 e9 e10 e11 e12 e13 e14 e15 e16 e17 e18 e19 e20 e21 e22 e23 e24 e25 e170 u0 u1 u2 u3
 have s17 := sq_facts z1
 have s0 := sq_facts z0
 have t0 : z170 = 0 → z18 = -(4 * (z0 * z0)) - z1 * z1 := fun h => by
  have h2 : z2 = -z0 := by grind
  rw [e18, e16, e17, e7, e8, e6, h2]; grind
 clear e16 e25 e24
 subst_vars; grind
theorem conicKind_f34 {z0 z2 z6 z7 z8 z170 z171 : Rat} : z6 = 2 → z7 = z0 * z6 → z8 = z2 * z6 → z170 = z7 + z8 → z171 = z0 + z2 → (0 < z170) → 0 < z171 := by
 intro e6 e7 e8 e170 e171 u4
 subst_vars; grind
theorem conicKind_f35 {z0 z1 z2 z3 z4 z5 z6 z7 z8 z9 z10 z11 z12 z13 z14 z15 z16 z17 z18 z19 z20 z21 z22 z23 z24 z25 z26 z27 z28 z29 z30 z31 z32 z33 z34 z35 z36 z37 z38 z39 z40 z41 z42 z43 z44 : Rat} : z6 = 2 → z7 = z0 * z6 → z8 = z2 * z6 → z9 = z5 * z6 → z10 = z1 * z4 → z11 = z3 * z8 → z12 = z10 - z11 → z13 = z3 * z1 → z14 = z7 * z4 → z15 = z13 - z14 → z16 = z7 * z8 → z17 = z1 * z1 → z18 = z16 - z17 → z19 = z12 * z3 → z20 = 0 → z21 = z20 + z19 → z22 = z15 * z4 → z23 = z21 + z22 → z24 = z18 * z9 → z25 = z23 + z24 → z26 = (1 / 2) → z27 = z26 * z1 → z28 = z26 * z3 → z29 = z26 * z4 → z30 = z2 * z5 → z31 = z29 * z29 → z32 = z30 - z31 → z33 = z0 * z32 → z34 = z27 * z5 → z35 = z29 * z28 → z36 = z34 - z35 → z37 = z27 * z36 → z38 = -z37 → z39 = z27 * z29 → z40 = z2 * z28 → z41 = z39 - z40 → z42 = z28 * z41 → z43 = z33 + z38 → z44 = z43 + z42 → (z25 = 0) → z44 = 0 := by
 intro e6 e7 e8 e9 e10 e11 e12 e13 e14 e15 e16 e17 e18 e19 e20 e21 e22 e23 e24 e25 e26 e27 e28 e29 e30 e31 e32 e33 e34 e35 e36 e37 e38 e39 e40 e41 e42 e43 e44 u1
 rw [u1] at e25
 have s17 := sq_facts z1
 have s31 := sq_facts z29
 have t4 : z25 = 8 * z44 := by subst_vars; grind
 first | (clear e25 e44; grind) | (subst_vars; grind)
theorem conicKind_f36 {z0 z1 z2 z6 z7 z8 z16 z17 z18 z45 z46 z47 z48 : Rat} : z6 = 2 → z7 = z0 * z6 → z8 = z2 * z6 → z16 = z7 * z8 → z17 = z1 * z1 → z18 = z16 - z17 → z45 = 4 → z46 = z45 * z0 → z47 = z46 * z2 → z48 = z47 - z17 → (z18 = 0) → z48 = 0 := by
 intro e6 e7 e8 e16 e17 e18 e45 e46 e47 e48 u2
 rw [u2] at e18
 have s17 := sq_facts z1
 subst_vars; grind
theorem conicKind_f37 {z0 z1 z2 z6 z7 z8 z16 z17 z18 z45 z46 z47 z48 : Rat} : z6 = 2 → z7 = z0 * z6 → z8 = z2 * z6 → z16 = z7 * z8 → z17 = z1 * z1 → z18 = z16 - z17 → z45 = 4 → z46 = z45 * z0 → z47 = z46 * z2 → z48 = z47 - z17 → (¬ (z18 = 0)) → ¬ (z48 = 0) := by
 intro e6 e7 e8 e16 e17 e18 e45 e46 e47 e48 u2
 have s17 := sq_facts z1
 subst_vars; grind
theorem conicKind_f38 {z0 z1 z2 z3 z4 z5 z6 z7 z8 z10 z11 z12 z13 z14 z15 z16 z17 z18 z20 z26 z49 z50 z51 z53 z54 z55 z56 z57 z58 z59 z60 z61 z62 z63 z64 z65 z66 z67 z68 z69 z70 z71 z72 z73 z74 z75 z76 z77 z78 z79 z80 z81 z82 z83 z84 z85 z86 z87 z88 z89 z90 z91 z92 z93 : Rat} : z6 = 2 → z7 = z0 * z6 → z8 = z2 * z6 → z10 = z1 * z4 → z11 = z3 * z8 → z12 = z10 - z11 → z13 = z3 * z1 → z14 = z7 * z4 → z15 = z13 - z14 → z16 = z7 * z8 → z17 = z1 * z1 → z18 = z16 - z17 → z20 = 0 → z26 = (1 / 2) → z49 = z12 / z18 → z50 = z15 / z18 → z51 = 1 → z53 = z49 + z51 → z54 = z50 + z20 → z55 = z0 * z53 → z56 = z55 * z53 → z57 = z53 * z54 → z58 = z54 * z53 → z59 = z57 + z58 → z60 = z1 * z26 → z61 = z60 * z59 → z62 = z2 * z54 → z63 = z62 * z54 → z64 = z53 + z53 → z65 = z3 * z26 → z66 = z65 * z64 → z67 = z54 + z54 → z68 = z4 * z26 → z69 = z68 * z67 → z70 = z56 + z61 → z71 = z70 + z63 → z72 = z71 + z66 → z73 = z72 + z69 → z74 = z73 + z5 → z75 = z49 - z51 → z76 = z50 - z20 → z77 = z0 * z75 → z78 = z77 * z75 → z79 = z75 * z76 → z80 = z76 * z75 → z81 = z79 + z80 → z82 = z60 * z81 → z83 = z2 * z76 → z84 = z83 * z76 → z85 = z75 + z75 → z86 = z65 * z85 → z87 = z76 + z76 → z88 = z68 * z87 → z89 = z78 + z82 → z90 = z89 + z84 → z91 = z90 + z86 → z92 = z91 + z88 → z93 = z92 + z5 → (¬ (z18 = 0)) → z74 = z93 := by
 intro e6 e7 e8 e10 e11 e12 e13 e14 e15 e16 e17 e18 e20 e26 e49 e50 e51 e53 e54 e55 e56 e57 e58 e59 e60 e61 e62 e63 e64 e65 e66 e67 e68 e69 e70 e71 e72 e73 e74 e75 e76 e77 e78 e79 e80 e81 e82 e83 e84 e85 e86 e87 e88 e89 e90 e91 e92 e93 u2
 have s17 := sq_facts z1
 have n18 : z18 ≠ 0 := by grind
 subst_vars; grind
theorem conicKind_f39 {z0 z1 z2 z3 z4 z5 z6 z7 z8 z10 z11 z12 z13 z14 z15 z16 z17 z18 z20 z26 z49 z50 z51 z60 z65 z68 z94 z95 z96 z97 z98 z99 z100 z101 z102 z103 z104 z105 z106 z107 z108 z109 z110 z111 z112 z113 z114 z115 z116 z117 z118 z119 z120 z121 z122 z123 z124 z125 z126 z127 z128 z129 z130 z131 : Rat} : z6 = 2 → z7 = z0 * z6 → z8 = z2 * z6 → z10 = z1 * z4 → z11 = z3 * z8 → z12 = z10 - z11 → z13 = z3 * z1 → z14 = z7 * z4 → z15 = z13 - z14 → z16 = z7 * z8 → z17 = z1 * z1 → z18 = z16 - z17 → z20 = 0 → z26 = (1 / 2) → z49 = z12 / z18 → z50 = z15 / z18 → z51 = 1 → z60 = z1 * z26 → z65 = z3 * z26 → z68 = z4 * z26 → z94 = z49 + z20 → z95 = z50 + z51 → z96 = z0 * z94 → z97 = z96 * z94 → z98 = z94 * z95 → z99 = z95 * z94 → z100 = z98 + z99 → z101 = z60 * z100 → z102 = z2 * z95 → z103 = z102 * z95 → z104 = z94 + z94 → z105 = z65 * z104 → z106 = z95 + z95 → z107 = z68 * z106 → z108 = z97 + z101 → z109 = z108 + z103 → z110 = z109 + z105 → z111 = z110 + z107 → z112 = z111 + z5 → z113 = z49 - z20 → z114 = z50 - z51 → z115 = z0 * z113 → z116 = z115 * z113 → z117 = z113 * z114 → z118 = z114 * z113 → z119 = z117 + z118 → z120 = z60 * z119 → z121 = z2 * z114 → z122 = z121 * z114 → z123 = z113 + z113 → z124 = z65 * z123 → z125 = z114 + z114 → z126 = z68 * z125 → z127 = z116 + z120 → z128 = z127 + z122 → z129 = z128 + z124 → z130 = z129 + z126 → z131 = z130 + z5 → (¬ (z18 = 0)) → z112 = z131 := by
 intro e6 e7 e8 e10 e11 e12 e13 e14 e15 e16 e17 e18 e20 e26 e49 e50 e51 e60 e65 e68 e94 e95 e96 e97 e98 e99 e100 e101 e102 e103 e104 e105 e106 e107 e108 e109 e110 e111 e112 e113 e114 e115 e116 e117 e118 e119 e120 e121 e122 e123 e124 e125 e126 e127 e128 e129 e130 e131 u2
 have s17 := sq_facts z1
 have n18 : z18 ≠ 0 := by grind
 subst_vars; grind
theorem conicKind_f40 {z0 z1 z2 z3 z4 z5 z6 z7 z8 z10 z11 z12 z13 z14 z15 z16 z17 z18 z26 z49 z50 z52 z60 z65 z68 z132 z133 z134 z135 z136 z137 z138 z139 z140 z141 z142 z143 z144 z145 z146 z147 z148 z149 z150 z151 z152 z153 z154 z155 z156 z157 z158 z159 z160 z161 z162 z163 z164 z165 z166 z167 z168 z169 : Rat} : z6 = 2 → z7 = z0 * z6 → z8 = z2 * z6 → z10 = z1 * z4 → z11 = z3 * z8 → z12 = z10 - z11 → z13 = z3 * z1 → z14 = z7 * z4 → z15 = z13 - z14 → z16 = z7 * z8 → z17 = z1 * z1 → z18 = z16 - z17 → z26 = (1 / 2) → z49 = z12 / z18 → z50 = z15 / z18 → z52 = 3 → z60 = z1 * z26 → z65 = z3 * z26 → z68 = z4 * z26 → z132 = z49 + z6 → z133 = z50 + z52 → z134 = z0 * z132 → z135 = z134 * z132 → z136 = z132 * z133 → z137 = z133 * z132 → z138 = z136 + z137 → z139 = z60 * z138 → z140 = z2 * z133 → z141 = z140 * z133 → z142 = z132 + z132 → z143 = z65 * z142 → z144 = z133 + z133 → z145 = z68 * z144 → z146 = z135 + z139 → z147 = z146 + z141 → z148 = z147 + z143 → z149 = z148 + z145 → z150 = z149 + z5 → z151 = z49 - z6 → z152 = z50 - z52 → z153 = z0 * z151 → z154 = z153 * z151 → z155 = z151 * z152 → z156 = z152 * z151 → z157 = z155 + z156 → z158 = z60 * z157 → z159 = z2 * z152 → z160 = z159 * z152 → z161 = z151 + z151 → z162 = z65 * z161 → z163 = z152 + z152 → z164 = z68 * z163 → z165 = z154 + z158 → z166 = z165 + z160 → z167 = z166 + z162 → z168 = z167 + z164 → z169 = z168 + z5 → (¬ (z18 = 0)) → z150 = z169 := by
 intro e6 e7 e8 e10 e11 e12 e13 e14 e15 e16 e17 e18 e26 e49 e50 e52 e60 e65 e68 e132 e133 e134 e135 e136 e137 e138 e139 e140 e141 e142 e143 e144 e145 e146 e147 e148 e149 e150 e151 e152 e153 e154 e155 e156 e157 e158 e159 e160 e161 e162 e163 e164 e165 e166 e167 e168 e169 u2
 have s17 := sq_facts z1
 have n18 : z18 ≠ 0 := by grind
 subst_vars; grind
theorem conicKind_f41 {z0 z1 z2 z3 z4 z5 z6 z7 z8 z9 z10 z11 z12 z13 z14 z15 z16 z17 z18 z19 z20 z21 z22 z23 z24 z25 z26 z27 z28 z29 z30 z31 z32 z33 z34 z35 z36 z37 z38 z39 z40 z41 z42 z43 z44 : Rat} : z6 = 2 → z7 = z0 * z6 → z8 = z2 * z6 → z9 = z5 * z6 → z10 = z1 * z4 → z11 = z3 * z8 → z12 = z10 - z11 → z13 = z3 * z1 → z14 = z7 * z4 → z15 = z13 - z14 → z16 = z7 * z8 → z17 = z1 * z1 → z18 = z16 - z17 → z19 = z12 * z3 → z20 = 0 → z21 = z20 + z19 → z22 = z15 * z4 → z23 = z21 + z22 → z24 = z18 * z9 → z25 = z23 + z24 → z26 = (1 / 2) → z27 = z26 * z1 → z28 = z26 * z3 → z29 = z26 * z4 → z30 = z2 * z5 → z31 = z29 * z29 → z32 = z30 - z31 → z33 = z0 * z32 → z34 = z27 * z5 → z35 = z29 * z28 → z36 = z34 - z35 → z37 = z27 * z36 → z38 = -z37 → z39 = z27 * z29 → z40 = z2 * z28 → z41 = z39 - z40 → z42 = z28 * z41 → z43 = z33 + z38 → z44 = z43 + z42 → (0 < z25) → 0 < z44 := by
 intro e6 e7 e8 e9 e10 e11 e12 e13 e14 e15 e16 e17 e18 e19 e20 e21 e22 e23 e24 e25 e26 e27 e28 e29 e30 e31 e32 e33 e34 e35 e36 e37 e38 e39 e40 e41 e42 e43 e44 u1
 have s17 := sq_facts z1
 have s31 := sq_facts z29
 have t4 : z25 = 8 * z44 := by subst_vars; grind
 first | (clear e25 e44; grind) | (subst_vars; grind)
theorem conicKind_f42 {z0 z1 z2 z3 z4 z5 z6 z7 z8 z9 z10 z11 z12 z13 z14 z15 z16 z17 z18 z19 z20 z21 z22 z23 z24 z25 z170 : Rat} : z6 = 2 → z7 = z0 * z6 → z8 = z2 * z6 → z9 = z5 * z6 → z10 = z1 * z4 → z11 = z3 * z8 → z12 = z10 - z11 → z13 = z3 * z1 → z14 = z7 * z4 → z15 = z13 - z14 → z16 = z7 * z8 → z17 = z1 * z1 → z18 = z16 - z17 → z19 = z12 * z3 → z20 = 0 → z21 = z20 + z19 → z22 = z15 * z4 → z23 = z21 + z22 → z24 = z18 * z9 → z25 = z23 + z24 → z170 = z7 + z8 → (¬ (z0 = 0)) → (0 < z25) → (¬ (z18 < 0)) → (¬ (z18 = 0)) → ¬ (z170 = 0) := by
 intro e6 e7 e8 e9 e10 e11 e12 e13 e14 e15 e16 e17 e18 e19 e20 e21 e22 e23 e24 e25 e170 u0 u1 u2 u3
 have s17 := sq_facts z1
 have s0 := sq_facts z0
 have t0 : z170 = 0 → z18 = -(4 * (z0 * z0)) - z1 * z1 := fun h => by
  have h2 : z2 = -z0 := by grind
  rw [e18, e16, e17, e7, e8, e6, h2]; grind
 clear e16 e25 e24
 subst_vars; grind
theorem conicKind_r0 : (callB (sx Tryz.prog conicKind_N [(0, 0, 0, 1), (0, 1, 0, 1), (0, 2, 0, 1), (0, 3, 0, 1), (0, 4, 0, 1)] [(277, [])] conicKind_L conicKind_C conicKind_Z (prC [51])) 7 7 [(false, [(true, [.inr (2, 0, 0, 0, 0), .inr (2, 1, 0, 0, 0), .inr (2, 2, 0, 0, 0), .inr (2, 3, 0, 0, 0), .inr (2, 4, 0, 0, 0), .inr (2, 5, 0, 0, 0)])])] [] 0).map (·.1) = some (kB true) := by kernel_rfl
theorem conicKind_r1 : (callB (sx Tryz.prog conicKind_N [(0, 0, 0, 1), (0, 1, 0, 1), (0, 2, 0, 1), (0, 3, 0, 1), (0, 4, 0, 0), (5, 25, 0, 1), (0, 18, 0, 1), (5, 44, 0, 1), (0, 48, 0, 1)] [(277, [])] conicKind_L conicKind_C conicKind_Z (prC [51])) 7 7 [(false, [(true, [.inr (2, 0, 0, 0, 0), .inr (2, 1, 0, 0, 0), .inr (2, 2, 0, 0, 0), .inr (2, 3, 0, 0, 0), .inr (2, 4, 0, 0, 0), .inr (2, 5, 0, 0, 0)])])] [] 0).map (·.1) = some (kB true) := by kernel_rfl
theorem conicKind_r2 : (callB (sx Tryz.prog conicKind_N [(0, 0, 0, 1), (0, 1, 0, 1), (0, 2, 0, 1), (0, 3, 0, 0), (5, 25, 0, 1), (0, 18, 0, 1), (5, 44, 0, 1), (0, 48, 0, 1)] [(277, [])] conicKind_L conicKind_C conicKind_Z (prC [51])) 7 7 [(false, [(true, [.inr (2, 0, 0, 0, 0), .inr (2, 1, 0, 0, 0), .inr (2, 2, 0, 0, 0), .inr (2, 3, 0, 0, 0), .inr (2, 4, 0, 0, 0), .inr (2, 5, 0, 0, 0)])])] [] 0).map (·.1) = some (kB true) := by kernel_rfl
theorem conicKind_r3 : (callB (sx Tryz.prog conicKind_N [(0, 0, 0, 1), (0, 1, 0, 1), (0, 2, 0, 0), (5, 25, 0, 0), (1, 18, 0, 0), (0, 18, 0, 1), (5, 44, 0, 0), (1, 48, 0, 0), (0, 48, 0, 1)] [(277, [])] conicKind_L conicKind_C conicKind_Z (prC [51])) 7 7 [(false, [(true, [.inr (2, 0, 0, 0, 0), .inr (2, 1, 0, 0, 0), .inr (2, 2, 0, 0, 0), .inr (2, 3, 0, 0, 0), .inr (2, 4, 0, 0, 0), .inr (2, 5, 0, 0, 0)])])] [] 0).map (·.1) = some (kB true) := by kernel_rfl
theorem conicKind_r4 : (callB (sx Tryz.prog conicKind_N [(0, 0, 0, 1), (0, 1, 0, 1), (0, 2, 0, 0), (5, 25, 0, 1), (0, 18, 0, 1), (5, 44, 0, 1), (0, 48, 0, 1)] [(277, [])] conicKind_L conicKind_C conicKind_Z (prC [51])) 7 7 [(false, [(true, [.inr (2, 0, 0, 0, 0), .inr (2, 1, 0, 0, 0), .inr (2, 2, 0, 0, 0), .inr (2, 3, 0, 0, 0), .inr (2, 4, 0, 0, 0), .inr (2, 5, 0, 0, 0)])])] [] 0).map (·.1) = some (kB true) := by kernel_rfl
theorem conicKind_r5 : (callB (sx Tryz.prog conicKind_N [(0, 0, 0, 1), (0, 1, 0, 1), (0, 2, 0, 0), (5, 25, 0, 2), (1, 18, 0, 0), (0, 18, 0, 1), (5, 44, 0, 2), (1, 48, 0, 0), (0, 48, 0, 1)] [(277, [])] conicKind_L conicKind_C conicKind_Z (prC [51])) 7 7 [(false, [(true, [.inr (2, 0, 0, 0, 0), .inr (2, 1, 0, 0, 0), .inr (2, 2, 0, 0, 0), .inr (2, 3, 0, 0, 0), .inr (2, 4, 0, 0, 0), .inr (2, 5, 0, 0, 0)])])] [] 0).map (·.1) = some (kB true) := by kernel_rfl
theorem conicKind_r6 : (callB (sx Tryz.prog conicKind_N [(0, 0, 0, 1), (0, 1, 0, 0), (5, 25, 0, 0), (1, 18, 0, 1), (0, 18, 0, 0), (5, 44, 0, 0), (1, 48, 0, 1), (0, 48, 0, 0), (3, 74, 93, 1), (3, 112, 131, 1), (3, 150, 169, 1)] [(277, [])] conicKind_L conicKind_C conicKind_Z (prC [51])) 7 7 [(false, [(true, [.inr (2, 0, 0, 0, 0), .inr (2, 1, 0, 0, 0), .inr (2, 2, 0, 0, 0), .inr (2, 3, 0, 0, 0), .inr (2, 4, 0, 0, 0), .inr (2, 5, 0, 0, 0)])])] [] 0).map (·.1) = some (kB true) := by kernel_rfl
theorem conicKind_r7 : (callB (sx Tryz.prog conicKind_N [(0, 0, 0, 1), (0, 1, 0, 0), (5, 25, 0, 1), (0, 18, 0, 0), (5, 44, 0, 1), (0, 48, 0, 0), (3, 74, 93, 1), (3, 112, 131, 1), (3, 150, 169, 1)] [(277, [])] conicKind_L conicKind_C conicKind_Z (prC [51])) 7 7 [(false, [(true, [.inr (2, 0, 0, 0, 0), .inr (2, 1, 0, 0, 0), .inr (2, 2, 0, 0, 0), .inr (2, 3, 0, 0, 0), .inr (2, 4, 0, 0, 0), .inr (2, 5, 0, 0, 0)])])] [] 0).map (·.1) = some (kB true) := by kernel_rfl
theorem conicKind_r8 : (callB (sx Tryz.prog conicKind_N [(0, 0, 0, 1), (0, 1, 0, 0), (5, 25, 0, 2), (1, 18, 0, 1), (0, 18, 0, 0), (5, 44, 0, 2), (1, 48, 0, 1), (0, 48, 0, 0), (3, 74, 93, 1), (3, 112, 131, 1), (3, 150, 169, 1)] [(277, [])] conicKind_L conicKind_C conicKind_Z (prC [51])) 7 7 [(false, [(true, [.inr (2, 0, 0, 0, 0), .inr (2, 1, 0, 0, 0), .inr (2, 2, 0, 0, 0), .inr (2, 3, 0, 0, 0), .inr (2, 4, 0, 0, 0), .inr (2, 5, 0, 0, 0)])])] [] 0).map (·.1) = some (kB true) := by kernel_rfl
theorem conicKind_r9 : (callB (sx Tryz.prog conicKind_N [(0, 0, 0, 0), (5, 25, 0, 0), (1, 18, 0, 1), (0, 18, 0, 0), (5, 44, 0, 0), (1, 48, 0, 1), (0, 48, 0, 0), (3, 74, 93, 1), (3, 112, 131, 1), (3, 150, 169, 1)] [(277, [])] conicKind_L conicKind_C conicKind_Z (prC [51])) 7 7 [(false, [(true, [.inr (2, 0, 0, 0, 0), .inr (2, 1, 0, 0, 0), .inr (2, 2, 0, 0, 0), .inr (2, 3, 0, 0, 0), .inr (2, 4, 0, 0, 0), .inr (2, 5, 0, 0, 0)])])] [] 0).map (·.1) = some (kB true) := by kernel_rfl
theorem conicKind_r10 : (callB (sx Tryz.prog conicKind_N [(0, 0, 0, 0), (5, 25, 0, 0), (1, 18, 0, 0), (0, 18, 0, 1), (5, 44, 0, 0), (1, 48, 0, 0), (0, 48, 0, 1)] [(277, [])] conicKind_L conicKind_C conicKind_Z (prC [51])) 7 7 [(false, [(true, [.inr (2, 0, 0, 0, 0), .inr (2, 1, 0, 0, 0), .inr (2, 2, 0, 0, 0), .inr (2, 3, 0, 0, 0), .inr (2, 4, 0, 0, 0), .inr (2, 5, 0, 0, 0)])])] [] 0).map (·.1) = some (kB true) := by kernel_rfl
theorem conicKind_r11 : (callB (sx Tryz.prog conicKind_N [(0, 0, 0, 0), (5, 25, 0, 0), (1, 18, 0, 0), (0, 18, 0, 0), (5, 170, 0, 0), (5, 44, 0, 0), (1, 48, 0, 0), (0, 48, 0, 0), (5, 171, 0, 0), (3, 74, 93, 1), (3, 112, 131, 1), (3, 150, 169, 1)] [(277, [])] conicKind_L conicKind_C conicKind_Z (prC [51])) 7 7 [(false, [(true, [.inr (2, 0, 0, 0, 0), .inr (2, 1, 0, 0, 0), .inr (2, 2, 0, 0, 0), .inr (2, 3, 0, 0, 0), .inr (2, 4, 0, 0, 0), .inr (2, 5, 0, 0, 0)])])] [] 0).map (·.1) = some (kB true) := by kernel_rfl
theorem conicKind_r12 : (callB (sx Tryz.prog conicKind_N [(0, 0, 0, 0), (5, 25, 0, 0), (1, 18, 0, 0), (0, 18, 0, 0), (5, 170, 0, 2), (5, 44, 0, 0), (1, 48, 0, 0), (0, 48, 0, 0), (5, 171, 0, 2), (3, 74, 93, 1), (3, 112, 131, 1), (3, 150, 169, 1)] [(277, [])] conicKind_L conicKind_C conicKind_Z (prC [51])) 7 7 [(false, [(true, [.inr (2, 0, 0, 0, 0), .inr (2, 1, 0, 0, 0), .inr (2, 2, 0, 0, 0), .inr (2, 3, 0, 0, 0), .inr (2, 4, 0, 0, 0), .inr (2, 5, 0, 0, 0)])])] [] 0).map (·.1) = some (kB true) := by kernel_rfl
theorem conicKind_r13 : (callB (sx Tryz.prog conicKind_N [(0, 0, 0, 0), (5, 25, 0, 1), (0, 18, 0, 1), (5, 44, 0, 1), (0, 48, 0, 1)] [(277, [])] conicKind_L conicKind_C conicKind_Z (prC [51])) 7 7 [(false, [(true, [.inr (2, 0, 0, 0, 0), .inr (2, 1, 0, 0, 0), .inr (2, 2, 0, 0, 0), .inr (2, 3, 0, 0, 0), .inr (2, 4, 0, 0, 0), .inr (2, 5, 0, 0, 0)])])] [] 0).map (·.1) = some (kB true) := by kernel_rfl
theorem conicKind_r14 : (callB (sx Tryz.prog conicKind_N [(0, 0, 0, 0), (5, 25, 0, 1), (0, 18, 0, 0), (5, 44, 0, 1), (0, 48, 0, 0), (3, 74, 93, 1), (3, 112, 131, 1), (3, 150, 169, 1)] [(277, [])] conicKind_L conicKind_C conicKind_Z (prC [51])) 7 7 [(false, [(true, [.inr (2, 0, 0, 0, 0), .inr (2, 1, 0, 0, 0), .inr (2, 2, 0, 0, 0), .inr (2, 3, 0, 0, 0), .inr (2, 4, 0, 0, 0), .inr (2, 5, 0, 0, 0)])])] [] 0).map (·.1) = some (kB true) := by kernel_rfl
theorem conicKind_r15 : (callB (sx Tryz.prog conicKind_N [(0, 0, 0, 0), (5, 25, 0, 2), (1, 18, 0, 1), (0, 18, 0, 0), (5, 44, 0, 2), (1, 48, 0, 1), (0, 48, 0, 0), (3, 74, 93, 1), (3, 112, 131, 1), (3, 150, 169, 1)] [(277, [])] conicKind_L conicKind_C conicKind_Z (prC [51])) 7 7 [(false, [(true, [.inr (2, 0, 0, 0, 0), .inr (2, 1, 0, 0, 0), .inr (2, 2, 0, 0, 0), .inr (2, 3, 0, 0, 0), .inr (2, 4, 0, 0, 0), .inr (2, 5, 0, 0, 0)])])] [] 0).map (·.1) = some (kB true) := by kernel_rfl
theorem conicKind_r16 : (callB (sx Tryz.prog conicKind_N [(0, 0, 0, 0), (5, 25, 0, 2), (1, 18, 0, 0), (0, 18, 0, 1), (5, 44, 0, 2), (1, 48, 0, 0), (0, 48, 0, 1)] [(277, [])] conicKind_L conicKind_C conicKind_Z (prC [51])) 7 7 [(false, [(true, [.inr (2, 0, 0, 0, 0), .inr (2, 1, 0, 0, 0), .inr (2, 2, 0, 0, 0), .inr (2, 3, 0, 0, 0), .inr (2, 4, 0, 0, 0), .inr (2, 5, 0, 0, 0)])])] [] 0).map (·.1) = some (kB true) := by kernel_rfl
theorem conicKind_r17 : (callB (sx Tryz.prog conicKind_N [(0, 0, 0, 0), (5, 25, 0, 2), (1, 18, 0, 0), (0, 18, 0, 0), (5, 170, 0, 0), (5, 44, 0, 2), (1, 48, 0, 0), (0, 48, 0, 0), (5, 171, 0, 0), (3, 74, 93, 1), (3, 112, 131, 1), (3, 150, 169, 1)] [(277, [])] conicKind_L conicKind_C conicKind_Z (prC [51])) 7 7 [(false, [(true, [.inr (2, 0, 0, 0, 0), .inr (2, 1, 0, 0, 0), .inr (2, 2, 0, 0, 0), .inr (2, 3, 0, 0, 0), .inr (2, 4, 0, 0, 0), .inr (2, 5, 0, 0, 0)])])] [] 0).map (·.1) = some (kB true) := by kernel_rfl
theorem conicKind_r18 : (callB (sx Tryz.prog conicKind_N [(0, 0, 0, 0), (5, 25, 0, 2), (1, 18, 0, 0), (0, 18, 0, 0), (5, 170, 0, 2), (5, 44, 0, 2), (1, 48, 0, 0), (0, 48, 0, 0), (5, 171, 0, 2), (3, 74, 93, 1), (3, 112, 131, 1), (3, 150, 169, 1)] [(277, [])] conicKind_L conicKind_C conicKind_Z (prC [51])) 7 7 [(false, [(true, [.inr (2, 0, 0, 0, 0), .inr (2, 1, 0, 0, 0), .inr (2, 2, 0, 0, 0), .inr (2, 3, 0, 0, 0), .inr (2, 4, 0, 0, 0), .inr (2, 5, 0, 0, 0)])])] [] 0).map (·.1) = some (kB true) := by kernel_rfl
theorem conicKind_walk {w : World} {ka kb kc kd ke kf : ByteArray} (ska : ka.size ≤ 1048576) (skb : kb.size ≤ 1048576) (skc : kc.size ≤ 1048576) (skd : kd.size ≤ 1048576) (ske : ke.size ≤ 1048576) (skf : kf.size ≤ 1048576) (tab : Tab w) (mx : MaxL w) :
  Calls Tryz.prog 7 #[.agg #[.string ka, .string kb, .string kc, .string kd, .string ke, .string kf]] w fun e w' => Below w.heap.size w w' ∧ e = .returned (.bool true) := by
 have hσ : ∀ j, (sgOf [ka, kb, kc, kd, ke, kf] j).size ≤ 1048576 := sgOf_size (by simp [ska, skb, skc, skd, ske, skf])
 have hcl : ∀ f ∈ ([51] : List FuncId), Closed f := by simp [closed_coned]
 obtain ⟨q, hq, h0⟩ := nodes_exist (sgOf [ka, kb, kc, kd, ke, kf]) conicKind_N conicKind_wf
 have hA : ∀ K, A2 (avOn (cOn (evS q (sgOf [ka, kb, kc, kd, ke, kf])) K (fun _ => none) w)) [(false, [(true, [.inr (2, 0, 0, 0, 0), .inr (2, 1, 0, 0, 0), .inr (2, 2, 0, 0, 0), .inr (2, 3, 0, 0, 0), .inr (2, 4, 0, 0, 0), .inr (2, 5, 0, 0, 0)])])] [.agg #[.string ka, .string kb, .string kc, .string kd, .string ke, .string kf]] := fun K => ⟨⟨⟨[.string ka, .string kb, .string kc, .string kd, .string ke, .string kf], rfl, rfl, rfl, rfl, rfl, rfl, rfl, trivial⟩, trivial⟩, trivial⟩
 have E6 : q 6 = 2 := (hq 6 _ rfl).trans conicKind_c6
 have E7 : q 7 = q 0 * q 6 := hq 7 _ rfl
 have E8 : q 8 = q 2 * q 6 := hq 8 _ rfl
 have E9 : q 9 = q 5 * q 6 := hq 9 _ rfl
 have E10 : q 10 = q 1 * q 4 := hq 10 _ rfl
 have E11 : q 11 = q 3 * q 8 := hq 11 _ rfl
 have E12 : q 12 = q 10 - q 11 := hq 12 _ rfl
 have E13 : q 13 = q 3 * q 1 := hq 13 _ rfl
 have E14 : q 14 = q 7 * q 4 := hq 14 _ rfl
 have E15 : q 15 = q 13 - q 14 := hq 15 _ rfl
 have E16 : q 16 = q 7 * q 8 := hq 16 _ rfl
 have E17 : q 17 = q 1 * q 1 := hq 17 _ rfl
 have E18 : q 18 = q 16 - q 17 := hq 18 _ rfl
 have E19 : q 19 = q 12 * q 3 := hq 19 _ rfl
 have E20 : q 20 = 0 := (hq 20 _ rfl).trans conicKind_c20
 have E21 : q 21 = q 20 + q 19 := hq 21 _ rfl
 have E22 : q 22 = q 15 * q 4 := hq 22 _ rfl
 have E23 : q 23 = q 21 + q 22 := hq 23 _ rfl
 have E24 : q 24 = q 18 * q 9 := hq 24 _ rfl
 have E25 : q 25 = q 23 + q 24 := hq 25 _ rfl
 have E26 : q 26 = (1 / 2) := (hq 26 _ rfl).trans conicKind_c26
 have E27 : q 27 = q 26 * q 1 := hq 27 _ rfl
 have E28 : q 28 = q 26 * q 3 := hq 28 _ rfl
 have E29 : q 29 = q 26 * q 4 := hq 29 _ rfl
 have E30 : q 30 = q 2 * q 5 := hq 30 _ rfl
 have E31 : q 31 = q 29 * q 29 := hq 31 _ rfl
 have E32 : q 32 = q 30 - q 31 := hq 32 _ rfl
 have E33 : q 33 = q 0 * q 32 := hq 33 _ rfl
 have E34 : q 34 = q 27 * q 5 := hq 34 _ rfl
 have E35 : q 35 = q 29 * q 28 := hq 35 _ rfl
 have E36 : q 36 = q 34 - q 35 := hq 36 _ rfl
 have E37 : q 37 = q 27 * q 36 := hq 37 _ rfl
 have E38 : q 38 = -q 37 := hq 38 _ rfl
 have E39 : q 39 = q 27 * q 29 := hq 39 _ rfl
 have E40 : q 40 = q 2 * q 28 := hq 40 _ rfl
 have E41 : q 41 = q 39 - q 40 := hq 41 _ rfl
 have E42 : q 42 = q 28 * q 41 := hq 42 _ rfl
 have E43 : q 43 = q 33 + q 38 := hq 43 _ rfl
 have E44 : q 44 = q 43 + q 42 := hq 44 _ rfl
 have E45 : q 45 = 4 := (hq 45 _ rfl).trans conicKind_c45
 have E46 : q 46 = q 45 * q 0 := hq 46 _ rfl
 have E47 : q 47 = q 46 * q 2 := hq 47 _ rfl
 have E48 : q 48 = q 47 - q 17 := hq 48 _ rfl
 have E49 : q 49 = q 12 / q 18 := hq 49 _ rfl
 have E50 : q 50 = q 15 / q 18 := hq 50 _ rfl
 have E51 : q 51 = 1 := (hq 51 _ rfl).trans conicKind_c51
 have E52 : q 52 = 3 := (hq 52 _ rfl).trans conicKind_c52
 have E53 : q 53 = q 49 + q 51 := hq 53 _ rfl
 have E54 : q 54 = q 50 + q 20 := hq 54 _ rfl
 have E55 : q 55 = q 0 * q 53 := hq 55 _ rfl
 have E56 : q 56 = q 55 * q 53 := hq 56 _ rfl
 have E57 : q 57 = q 53 * q 54 := hq 57 _ rfl
 have E58 : q 58 = q 54 * q 53 := hq 58 _ rfl
 have E59 : q 59 = q 57 + q 58 := hq 59 _ rfl
 have E60 : q 60 = q 1 * q 26 := hq 60 _ rfl
 have E61 : q 61 = q 60 * q 59 := hq 61 _ rfl
 have E62 : q 62 = q 2 * q 54 := hq 62 _ rfl
 have E63 : q 63 = q 62 * q 54 := hq 63 _ rfl
 have E64 : q 64 = q 53 + q 53 := hq 64 _ rfl
 have E65 : q 65 = q 3 * q 26 := hq 65 _ rfl
 have E66 : q 66 = q 65 * q 64 := hq 66 _ rfl
 have E67 : q 67 = q 54 + q 54 := hq 67 _ rfl
 have E68 : q 68 = q 4 * q 26 := hq 68 _ rfl
 have E69 : q 69 = q 68 * q 67 := hq 69 _ rfl
 have E70 : q 70 = q 56 + q 61 := hq 70 _ rfl
 have E71 : q 71 = q 70 + q 63 := hq 71 _ rfl
 have E72 : q 72 = q 71 + q 66 := hq 72 _ rfl
 have E73 : q 73 = q 72 + q 69 := hq 73 _ rfl
 have E74 : q 74 = q 73 + q 5 := hq 74 _ rfl
 have E75 : q 75 = q 49 - q 51 := hq 75 _ rfl
 have E76 : q 76 = q 50 - q 20 := hq 76 _ rfl
 have E77 : q 77 = q 0 * q 75 := hq 77 _ rfl
 have E78 : q 78 = q 77 * q 75 := hq 78 _ rfl
 have E79 : q 79 = q 75 * q 76 := hq 79 _ rfl
 have E80 : q 80 = q 76 * q 75 := hq 80 _ rfl
 have E81 : q 81 = q 79 + q 80 := hq 81 _ rfl
 have E82 : q 82 = q 60 * q 81 := hq 82 _ rfl
 have E83 : q 83 = q 2 * q 76 := hq 83 _ rfl
 have E84 : q 84 = q 83 * q 76 := hq 84 _ rfl
 have E85 : q 85 = q 75 + q 75 := hq 85 _ rfl
 have E86 : q 86 = q 65 * q 85 := hq 86 _ rfl
 have E87 : q 87 = q 76 + q 76 := hq 87 _ rfl
 have E88 : q 88 = q 68 * q 87 := hq 88 _ rfl
 have E89 : q 89 = q 78 + q 82 := hq 89 _ rfl
 have E90 : q 90 = q 89 + q 84 := hq 90 _ rfl
 have E91 : q 91 = q 90 + q 86 := hq 91 _ rfl
 have E92 : q 92 = q 91 + q 88 := hq 92 _ rfl
 have E93 : q 93 = q 92 + q 5 := hq 93 _ rfl
 have E94 : q 94 = q 49 + q 20 := hq 94 _ rfl
 have E95 : q 95 = q 50 + q 51 := hq 95 _ rfl
 have E96 : q 96 = q 0 * q 94 := hq 96 _ rfl
 have E97 : q 97 = q 96 * q 94 := hq 97 _ rfl
 have E98 : q 98 = q 94 * q 95 := hq 98 _ rfl
 have E99 : q 99 = q 95 * q 94 := hq 99 _ rfl
 have E100 : q 100 = q 98 + q 99 := hq 100 _ rfl
 have E101 : q 101 = q 60 * q 100 := hq 101 _ rfl
 have E102 : q 102 = q 2 * q 95 := hq 102 _ rfl
 have E103 : q 103 = q 102 * q 95 := hq 103 _ rfl
 have E104 : q 104 = q 94 + q 94 := hq 104 _ rfl
 have E105 : q 105 = q 65 * q 104 := hq 105 _ rfl
 have E106 : q 106 = q 95 + q 95 := hq 106 _ rfl
 have E107 : q 107 = q 68 * q 106 := hq 107 _ rfl
 have E108 : q 108 = q 97 + q 101 := hq 108 _ rfl
 have E109 : q 109 = q 108 + q 103 := hq 109 _ rfl
 have E110 : q 110 = q 109 + q 105 := hq 110 _ rfl
 have E111 : q 111 = q 110 + q 107 := hq 111 _ rfl
 have E112 : q 112 = q 111 + q 5 := hq 112 _ rfl
 have E113 : q 113 = q 49 - q 20 := hq 113 _ rfl
 have E114 : q 114 = q 50 - q 51 := hq 114 _ rfl
 have E115 : q 115 = q 0 * q 113 := hq 115 _ rfl
 have E116 : q 116 = q 115 * q 113 := hq 116 _ rfl
 have E117 : q 117 = q 113 * q 114 := hq 117 _ rfl
 have E118 : q 118 = q 114 * q 113 := hq 118 _ rfl
 have E119 : q 119 = q 117 + q 118 := hq 119 _ rfl
 have E120 : q 120 = q 60 * q 119 := hq 120 _ rfl
 have E121 : q 121 = q 2 * q 114 := hq 121 _ rfl
 have E122 : q 122 = q 121 * q 114 := hq 122 _ rfl
 have E123 : q 123 = q 113 + q 113 := hq 123 _ rfl
 have E124 : q 124 = q 65 * q 123 := hq 124 _ rfl
 have E125 : q 125 = q 114 + q 114 := hq 125 _ rfl
 have E126 : q 126 = q 68 * q 125 := hq 126 _ rfl
 have E127 : q 127 = q 116 + q 120 := hq 127 _ rfl
 have E128 : q 128 = q 127 + q 122 := hq 128 _ rfl
 have E129 : q 129 = q 128 + q 124 := hq 129 _ rfl
 have E130 : q 130 = q 129 + q 126 := hq 130 _ rfl
 have E131 : q 131 = q 130 + q 5 := hq 131 _ rfl
 have E132 : q 132 = q 49 + q 6 := hq 132 _ rfl
 have E133 : q 133 = q 50 + q 52 := hq 133 _ rfl
 have E134 : q 134 = q 0 * q 132 := hq 134 _ rfl
 have E135 : q 135 = q 134 * q 132 := hq 135 _ rfl
 have E136 : q 136 = q 132 * q 133 := hq 136 _ rfl
 have E137 : q 137 = q 133 * q 132 := hq 137 _ rfl
 have E138 : q 138 = q 136 + q 137 := hq 138 _ rfl
 have E139 : q 139 = q 60 * q 138 := hq 139 _ rfl
 have E140 : q 140 = q 2 * q 133 := hq 140 _ rfl
 have E141 : q 141 = q 140 * q 133 := hq 141 _ rfl
 have E142 : q 142 = q 132 + q 132 := hq 142 _ rfl
 have E143 : q 143 = q 65 * q 142 := hq 143 _ rfl
 have E144 : q 144 = q 133 + q 133 := hq 144 _ rfl
 have E145 : q 145 = q 68 * q 144 := hq 145 _ rfl
 have E146 : q 146 = q 135 + q 139 := hq 146 _ rfl
 have E147 : q 147 = q 146 + q 141 := hq 147 _ rfl
 have E148 : q 148 = q 147 + q 143 := hq 148 _ rfl
 have E149 : q 149 = q 148 + q 145 := hq 149 _ rfl
 have E150 : q 150 = q 149 + q 5 := hq 150 _ rfl
 have E151 : q 151 = q 49 - q 6 := hq 151 _ rfl
 have E152 : q 152 = q 50 - q 52 := hq 152 _ rfl
 have E153 : q 153 = q 0 * q 151 := hq 153 _ rfl
 have E154 : q 154 = q 153 * q 151 := hq 154 _ rfl
 have E155 : q 155 = q 151 * q 152 := hq 155 _ rfl
 have E156 : q 156 = q 152 * q 151 := hq 156 _ rfl
 have E157 : q 157 = q 155 + q 156 := hq 157 _ rfl
 have E158 : q 158 = q 60 * q 157 := hq 158 _ rfl
 have E159 : q 159 = q 2 * q 152 := hq 159 _ rfl
 have E160 : q 160 = q 159 * q 152 := hq 160 _ rfl
 have E161 : q 161 = q 151 + q 151 := hq 161 _ rfl
 have E162 : q 162 = q 65 * q 161 := hq 162 _ rfl
 have E163 : q 163 = q 152 + q 152 := hq 163 _ rfl
 have E164 : q 164 = q 68 * q 163 := hq 164 _ rfl
 have E165 : q 165 = q 154 + q 158 := hq 165 _ rfl
 have E166 : q 166 = q 165 + q 160 := hq 166 _ rfl
 have E167 : q 167 = q 166 + q 162 := hq 167 _ rfl
 have E168 : q 168 = q 167 + q 164 := hq 168 _ rfl
 have E169 : q 169 = q 168 + q 5 := hq 169 _ rfl
 have E170 : q 170 = q 7 + q 8 := hq 170 _ rfl
 have E171 : q 171 = q 0 + q 2 := hq 171 _ rfl
 by_cases a_0_0_0 : q 0 = 0
 ·
  by_cases a_0_1_0 : q 1 = 0
  ·
   by_cases a_0_2_0 : q 2 = 0
   ·
    by_cases a_0_3_0 : q 3 = 0
    ·
     by_cases a_0_4_0 : q 4 = 0
     ·
      exact run_told' 7 (hy_of (H := [(0, 0, 0, 1), (0, 1, 0, 1), (0, 2, 0, 1), (0, 3, 0, 1), (0, 4, 0, 1)]) hσ conicKind_wf conicKind_sz conicKind_lt conicKind_cn hq h0 (And.intro (hT a_0_0_0) (And.intro (hT a_0_1_0) (And.intro (hT a_0_2_0) (And.intro (hT a_0_3_0) (And.intro (hT a_0_4_0) trivial)))))) hcl (by kernel_rfl) conicKind_r0 ⟨tab, mx⟩ (hA _)
     ·
      have a_5_25_0 : q 25 = 0 := conicKind_f0 E6 E7 E8 E9 E10 E11 E12 E13 E14 E15 E16 E17 E18 E19 E20 E21 E22 E23 E24 E25 a_0_0_0 a_0_1_0 a_0_2_0
      have a_0_18_0 : q 18 = 0 := conicKind_f1 E6 E7 E8 E16 E17 E18 a_0_0_0 a_0_1_0
      have a_5_44_0 : q 44 = 0 := conicKind_f2 E26 E27 E28 E29 E30 E31 E32 E33 E34 E35 E36 E37 E38 E39 E40 E41 E42 E43 E44 a_0_0_0 a_0_1_0 a_0_2_0
      have a_0_48_0 : q 48 = 0 := conicKind_f3 E17 E45 E46 E47 E48 a_0_0_0 a_0_1_0
      exact run_told' 7 (hy_of (H := [(0, 0, 0, 1), (0, 1, 0, 1), (0, 2, 0, 1), (0, 3, 0, 1), (0, 4, 0, 0), (5, 25, 0, 1), (0, 18, 0, 1), (5, 44, 0, 1), (0, 48, 0, 1)]) hσ conicKind_wf conicKind_sz conicKind_lt conicKind_cn hq h0 (And.intro (hT a_0_0_0) (And.intro (hT a_0_1_0) (And.intro (hT a_0_2_0) (And.intro (hT a_0_3_0) (And.intro (hF a_0_4_0) (And.intro (h51 a_5_25_0) (And.intro (hT a_0_18_0) (And.intro (h51 a_5_44_0) (And.intro (hT a_0_48_0) trivial)))))))))) hcl (by kernel_rfl) conicKind_r1 ⟨tab, mx⟩ (hA _)
    ·
     have a_5_25_0 : q 25 = 0 := conicKind_f0 E6 E7 E8 E9 E10 E11 E12 E13 E14 E15 E16 E17 E18 E19 E20 E21 E22 E23 E24 E25 a_0_0_0 a_0_1_0 a_0_2_0
     have a_0_18_0 : q 18 = 0 := conicKind_f1 E6 E7 E8 E16 E17 E18 a_0_0_0 a_0_1_0
     have a_5_44_0 : q 44 = 0 := conicKind_f2 E26 E27 E28 E29 E30 E31 E32 E33 E34 E35 E36 E37 E38 E39 E40 E41 E42 E43 E44 a_0_0_0 a_0_1_0 a_0_2_0
     have a_0_48_0 : q 48 = 0 := conicKind_f3 E17 E45 E46 E47 E48 a_0_0_0 a_0_1_0
     exact run_told' 7 (hy_of (H := [(0, 0, 0, 1), (0, 1, 0, 1), (0, 2, 0, 1), (0, 3, 0, 0), (5, 25, 0, 1), (0, 18, 0, 1), (5, 44, 0, 1), (0, 48, 0, 1)]) hσ conicKind_wf conicKind_sz conicKind_lt conicKind_cn hq h0 (And.intro (hT a_0_0_0) (And.intro (hT a_0_1_0) (And.intro (hT a_0_2_0) (And.intro (hF a_0_3_0) (And.intro (h51 a_5_25_0) (And.intro (hT a_0_18_0) (And.intro (h51 a_5_44_0) (And.intro (hT a_0_48_0) trivial))))))))) hcl (by kernel_rfl) conicKind_r2 ⟨tab, mx⟩ (hA _)
   ·
    rcases tri (q 25) with a_5_25_0 | a_5_25_0 | a_5_25_0
    ·
     have a_1_18_0 : ¬ (q 18 < 0) := conicKind_f4 E6 E7 E8 E16 E17 E18 a_0_0_0 a_0_1_0
     have a_0_18_0 : q 18 = 0 := conicKind_f1 E6 E7 E8 E16 E17 E18 a_0_0_0 a_0_1_0
     have a_5_44_0 : q 44 < 0 := conicKind_f5 E6 E7 E8 E9 E10 E11 E12 E13 E14 E15 E16 E17 E18 E19 E20 E21 E22 E23 E24 E25 E26 E27 E28 E29 E30 E31 E32 E33 E34 E35 E36 E37 E38 E39 E40 E41 E42 E43 E44 a_5_25_0
     have a_1_48_0 : ¬ (q 48 < 0) := conicKind_f6 E17 E45 E46 E47 E48 a_0_0_0 a_0_1_0
     have a_0_48_0 : q 48 = 0 := conicKind_f3 E17 E45 E46 E47 E48 a_0_0_0 a_0_1_0
     exact run_told' 7 (hy_of (H := [(0, 0, 0, 1), (0, 1, 0, 1), (0, 2, 0, 0), (5, 25, 0, 0), (1, 18, 0, 0), (0, 18, 0, 1), (5, 44, 0, 0), (1, 48, 0, 0), (0, 48, 0, 1)]) hσ conicKind_wf conicKind_sz conicKind_lt conicKind_cn hq h0 (And.intro (hT a_0_0_0) (And.intro (hT a_0_1_0) (And.intro (hF a_0_2_0) (And.intro (h50 a_5_25_0) (And.intro (hF a_1_18_0) (And.intro (hT a_0_18_0) (And.intro (h50 a_5_44_0) (And.intro (hF a_1_48_0) (And.intro (hT a_0_48_0) trivial)))))))))) hcl (by kernel_rfl) conicKind_r3 ⟨tab, mx⟩ (hA _)
    ·
     have a_0_18_0 : q 18 = 0 := conicKind_f1 E6 E7 E8 E16 E17 E18 a_0_0_0 a_0_1_0
     have a_5_44_0 : q 44 = 0 := conicKind_f7 E6 E7 E8 E9 E10 E11 E12 E13 E14 E15 E16 E17 E18 E19 E20 E21 E22 E23 E24 E25 E26 E27 E28 E29 E30 E31 E32 E33 E34 E35 E36 E37 E38 E39 E40 E41 E42 E43 E44 a_5_25_0
     have a_0_48_0 : q 48 = 0 := conicKind_f3 E17 E45 E46 E47 E48 a_0_0_0 a_0_1_0
     exact run_told' 7 (hy_of (H := [(0, 0, 0, 1), (0, 1, 0, 1), (0, 2, 0, 0), (5, 25, 0, 1), (0, 18, 0, 1), (5, 44, 0, 1), (0, 48, 0, 1)]) hσ conicKind_wf conicKind_sz conicKind_lt conicKind_cn hq h0 (And.intro (hT a_0_0_0) (And.intro (hT a_0_1_0) (And.intro (hF a_0_2_0) (And.intro (h51 a_5_25_0) (And.intro (hT a_0_18_0) (And.intro (h51 a_5_44_0) (And.intro (hT a_0_48_0) trivial)))))))) hcl (by kernel_rfl) conicKind_r4 ⟨tab, mx⟩ (hA _)
    ·
     have a_1_18_0 : ¬ (q 18 < 0) := conicKind_f4 E6 E7 E8 E16 E17 E18 a_0_0_0 a_0_1_0
     have a_0_18_0 : q 18 = 0 := conicKind_f1 E6 E7 E8 E16 E17 E18 a_0_0_0 a_0_1_0
     have a_5_44_0 : 0 < q 44 := conicKind_f8 E6 E7 E8 E9 E10 E11 E12 E13 E14 E15 E16 E17 E18 E19 E20 E21 E22 E23 E24 E25 E26 E27 E28 E29 E30 E31 E32 E33 E34 E35 E36 E37 E38 E39 E40 E41 E42 E43 E44 a_5_25_0
     have a_1_48_0 : ¬ (q 48 < 0) := conicKind_f6 E17 E45 E46 E47 E48 a_0_0_0 a_0_1_0
     have a_0_48_0 : q 48 = 0 := conicKind_f3 E17 E45 E46 E47 E48 a_0_0_0 a_0_1_0
     exact run_told' 7 (hy_of (H := [(0, 0, 0, 1), (0, 1, 0, 1), (0, 2, 0, 0), (5, 25, 0, 2), (1, 18, 0, 0), (0, 18, 0, 1), (5, 44, 0, 2), (1, 48, 0, 0), (0, 48, 0, 1)]) hσ conicKind_wf conicKind_sz conicKind_lt conicKind_cn hq h0 (And.intro (hT a_0_0_0) (And.intro (hT a_0_1_0) (And.intro (hF a_0_2_0) (And.intro (h52 a_5_25_0) (And.intro (hF a_1_18_0) (And.intro (hT a_0_18_0) (And.intro (h52 a_5_44_0) (And.intro (hF a_1_48_0) (And.intro (hT a_0_48_0) trivial)))))))))) hcl (by kernel_rfl) conicKind_r5 ⟨tab, mx⟩ (hA _)
  ·
   rcases tri (q 25) with a_5_25_0 | a_5_25_0 | a_5_25_0
   ·
    have a_1_18_0 : q 18 < 0 := conicKind_f9 E6 E7 E8 E16 E17 E18 a_0_0_0 a_0_1_0
    have a_0_18_0 : ¬ (q 18 = 0) := conicKind_f10 E6 E7 E8 E16 E17 E18 a_0_0_0 a_0_1_0
    have a_5_44_0 : q 44 < 0 := conicKind_f11 E6 E7 E8 E9 E10 E11 E12 E13 E14 E15 E16 E17 E18 E19 E20 E21 E22 E23 E24 E25 E26 E27 E28 E29 E30 E31 E32 E33 E34 E35 E36 E37 E38 E39 E40 E41 E42 E43 E44 a_5_25_0
    have a_1_48_0 : q 48 < 0 := conicKind_f12 E17 E45 E46 E47 E48 a_0_0_0 a_0_1_0
    have a_0_48_0 : ¬ (q 48 = 0) := conicKind_f13 E17 E45 E46 E47 E48 a_0_0_0 a_0_1_0
    have a_3_74_93 : q 74 = q 93 := conicKind_f14 E6 E7 E8 E10 E11 E12 E13 E14 E15 E16 E17 E18 E20 E26 E49 E50 E51 E53 E54 E55 E56 E57 E58 E59 E60 E61 E62 E63 E64 E65 E66 E67 E68 E69 E70 E71 E72 E73 E74 E75 E76 E77 E78 E79 E80 E81 E82 E83 E84 E85 E86 E87 E88 E89 E90 E91 E92 E93 a_0_0_0 a_0_1_0
    have a_3_112_131 : q 112 = q 131 := conicKind_f15 E6 E7 E8 E10 E11 E12 E13 E14 E15 E16 E17 E18 E20 E26 E49 E50 E51 E60 E65 E68 E94 E95 E96 E97 E98 E99 E100 E101 E102 E103 E104 E105 E106 E107 E108 E109 E110 E111 E112 E113 E114 E115 E116 E117 E118 E119 E120 E121 E122 E123 E124 E125 E126 E127 E128 E129 E130 E131 a_0_0_0 a_0_1_0
    have a_3_150_169 : q 150 = q 169 := conicKind_f16 E6 E7 E8 E10 E11 E12 E13 E14 E15 E16 E17 E18 E26 E49 E50 E52 E60 E65 E68 E132 E133 E134 E135 E136 E137 E138 E139 E140 E141 E142 E143 E144 E145 E146 E147 E148 E149 E150 E151 E152 E153 E154 E155 E156 E157 E158 E159 E160 E161 E162 E163 E164 E165 E166 E167 E168 E169 a_0_0_0 a_0_1_0
    exact run_told' 7 (hy_of (H := [(0, 0, 0, 1), (0, 1, 0, 0), (5, 25, 0, 0), (1, 18, 0, 1), (0, 18, 0, 0), (5, 44, 0, 0), (1, 48, 0, 1), (0, 48, 0, 0), (3, 74, 93, 1), (3, 112, 131, 1), (3, 150, 169, 1)]) hσ conicKind_wf conicKind_sz conicKind_lt conicKind_cn hq h0 (And.intro (hT a_0_0_0) (And.intro (hF a_0_1_0) (And.intro (h50 a_5_25_0) (And.intro (hT a_1_18_0) (And.intro (hF a_0_18_0) (And.intro (h50 a_5_44_0) (And.intro (hT a_1_48_0) (And.intro (hF a_0_48_0) (And.intro (hT a_3_74_93) (And.intro (hT a_3_112_131) (And.intro (hT a_3_150_169) trivial)))))))))))) hcl (by kernel_rfl) conicKind_r6 ⟨tab, mx⟩ (hA _)
   ·
    have a_0_18_0 : ¬ (q 18 = 0) := conicKind_f10 E6 E7 E8 E16 E17 E18 a_0_0_0 a_0_1_0
    have a_5_44_0 : q 44 = 0 := conicKind_f17 E6 E7 E8 E9 E10 E11 E12 E13 E14 E15 E16 E17 E18 E19 E20 E21 E22 E23 E24 E25 E26 E27 E28 E29 E30 E31 E32 E33 E34 E35 E36 E37 E38 E39 E40 E41 E42 E43 E44 a_5_25_0
    have a_0_48_0 : ¬ (q 48 = 0) := conicKind_f13 E17 E45 E46 E47 E48 a_0_0_0 a_0_1_0
    have a_3_74_93 : q 74 = q 93 := conicKind_f14 E6 E7 E8 E10 E11 E12 E13 E14 E15 E16 E17 E18 E20 E26 E49 E50 E51 E53 E54 E55 E56 E57 E58 E59 E60 E61 E62 E63 E64 E65 E66 E67 E68 E69 E70 E71 E72 E73 E74 E75 E76 E77 E78 E79 E80 E81 E82 E83 E84 E85 E86 E87 E88 E89 E90 E91 E92 E93 a_0_0_0 a_0_1_0
    have a_3_112_131 : q 112 = q 131 := conicKind_f15 E6 E7 E8 E10 E11 E12 E13 E14 E15 E16 E17 E18 E20 E26 E49 E50 E51 E60 E65 E68 E94 E95 E96 E97 E98 E99 E100 E101 E102 E103 E104 E105 E106 E107 E108 E109 E110 E111 E112 E113 E114 E115 E116 E117 E118 E119 E120 E121 E122 E123 E124 E125 E126 E127 E128 E129 E130 E131 a_0_0_0 a_0_1_0
    have a_3_150_169 : q 150 = q 169 := conicKind_f16 E6 E7 E8 E10 E11 E12 E13 E14 E15 E16 E17 E18 E26 E49 E50 E52 E60 E65 E68 E132 E133 E134 E135 E136 E137 E138 E139 E140 E141 E142 E143 E144 E145 E146 E147 E148 E149 E150 E151 E152 E153 E154 E155 E156 E157 E158 E159 E160 E161 E162 E163 E164 E165 E166 E167 E168 E169 a_0_0_0 a_0_1_0
    exact run_told' 7 (hy_of (H := [(0, 0, 0, 1), (0, 1, 0, 0), (5, 25, 0, 1), (0, 18, 0, 0), (5, 44, 0, 1), (0, 48, 0, 0), (3, 74, 93, 1), (3, 112, 131, 1), (3, 150, 169, 1)]) hσ conicKind_wf conicKind_sz conicKind_lt conicKind_cn hq h0 (And.intro (hT a_0_0_0) (And.intro (hF a_0_1_0) (And.intro (h51 a_5_25_0) (And.intro (hF a_0_18_0) (And.intro (h51 a_5_44_0) (And.intro (hF a_0_48_0) (And.intro (hT a_3_74_93) (And.intro (hT a_3_112_131) (And.intro (hT a_3_150_169) trivial)))))))))) hcl (by kernel_rfl) conicKind_r7 ⟨tab, mx⟩ (hA _)
   ·
    have a_1_18_0 : q 18 < 0 := conicKind_f9 E6 E7 E8 E16 E17 E18 a_0_0_0 a_0_1_0
    have a_0_18_0 : ¬ (q 18 = 0) := conicKind_f10 E6 E7 E8 E16 E17 E18 a_0_0_0 a_0_1_0
    have a_5_44_0 : 0 < q 44 := conicKind_f18 E6 E7 E8 E9 E10 E11 E12 E13 E14 E15 E16 E17 E18 E19 E20 E21 E22 E23 E24 E25 E26 E27 E28 E29 E30 E31 E32 E33 E34 E35 E36 E37 E38 E39 E40 E41 E42 E43 E44 a_5_25_0
    have a_1_48_0 : q 48 < 0 := conicKind_f12 E17 E45 E46 E47 E48 a_0_0_0 a_0_1_0
    have a_0_48_0 : ¬ (q 48 = 0) := conicKind_f13 E17 E45 E46 E47 E48 a_0_0_0 a_0_1_0
    have a_3_74_93 : q 74 = q 93 := conicKind_f14 E6 E7 E8 E10 E11 E12 E13 E14 E15 E16 E17 E18 E20 E26 E49 E50 E51 E53 E54 E55 E56 E57 E58 E59 E60 E61 E62 E63 E64 E65 E66 E67 E68 E69 E70 E71 E72 E73 E74 E75 E76 E77 E78 E79 E80 E81 E82 E83 E84 E85 E86 E87 E88 E89 E90 E91 E92 E93 a_0_0_0 a_0_1_0
    have a_3_112_131 : q 112 = q 131 := conicKind_f15 E6 E7 E8 E10 E11 E12 E13 E14 E15 E16 E17 E18 E20 E26 E49 E50 E51 E60 E65 E68 E94 E95 E96 E97 E98 E99 E100 E101 E102 E103 E104 E105 E106 E107 E108 E109 E110 E111 E112 E113 E114 E115 E116 E117 E118 E119 E120 E121 E122 E123 E124 E125 E126 E127 E128 E129 E130 E131 a_0_0_0 a_0_1_0
    have a_3_150_169 : q 150 = q 169 := conicKind_f16 E6 E7 E8 E10 E11 E12 E13 E14 E15 E16 E17 E18 E26 E49 E50 E52 E60 E65 E68 E132 E133 E134 E135 E136 E137 E138 E139 E140 E141 E142 E143 E144 E145 E146 E147 E148 E149 E150 E151 E152 E153 E154 E155 E156 E157 E158 E159 E160 E161 E162 E163 E164 E165 E166 E167 E168 E169 a_0_0_0 a_0_1_0
    exact run_told' 7 (hy_of (H := [(0, 0, 0, 1), (0, 1, 0, 0), (5, 25, 0, 2), (1, 18, 0, 1), (0, 18, 0, 0), (5, 44, 0, 2), (1, 48, 0, 1), (0, 48, 0, 0), (3, 74, 93, 1), (3, 112, 131, 1), (3, 150, 169, 1)]) hσ conicKind_wf conicKind_sz conicKind_lt conicKind_cn hq h0 (And.intro (hT a_0_0_0) (And.intro (hF a_0_1_0) (And.intro (h52 a_5_25_0) (And.intro (hT a_1_18_0) (And.intro (hF a_0_18_0) (And.intro (h52 a_5_44_0) (And.intro (hT a_1_48_0) (And.intro (hF a_0_48_0) (And.intro (hT a_3_74_93) (And.intro (hT a_3_112_131) (And.intro (hT a_3_150_169) trivial)))))))))))) hcl (by kernel_rfl) conicKind_r8 ⟨tab, mx⟩ (hA _)
 ·
  rcases tri (q 25) with a_5_25_0 | a_5_25_0 | a_5_25_0
  ·
   by_cases a_1_18_0 : q 18 < 0
   ·
    have a_0_18_0 : ¬ (q 18 = 0) := conicKind_f19 E6 E7 E8 E16 E17 E18 a_1_18_0
    have a_5_44_0 : q 44 < 0 := conicKind_f20 E6 E7 E8 E9 E10 E11 E12 E13 E14 E15 E16 E17 E18 E19 E20 E21 E22 E23 E24 E25 E26 E27 E28 E29 E30 E31 E32 E33 E34 E35 E36 E37 E38 E39 E40 E41 E42 E43 E44 a_5_25_0
    have a_1_48_0 : q 48 < 0 := conicKind_f21 E6 E7 E8 E16 E17 E18 E45 E46 E47 E48 a_1_18_0
    have a_0_48_0 : ¬ (q 48 = 0) := conicKind_f22 E6 E7 E8 E16 E17 E18 E45 E46 E47 E48 a_1_18_0
    have a_3_74_93 : q 74 = q 93 := conicKind_f23 E6 E7 E8 E10 E11 E12 E13 E14 E15 E16 E17 E18 E20 E26 E49 E50 E51 E53 E54 E55 E56 E57 E58 E59 E60 E61 E62 E63 E64 E65 E66 E67 E68 E69 E70 E71 E72 E73 E74 E75 E76 E77 E78 E79 E80 E81 E82 E83 E84 E85 E86 E87 E88 E89 E90 E91 E92 E93 a_1_18_0
    have a_3_112_131 : q 112 = q 131 := conicKind_f24 E6 E7 E8 E10 E11 E12 E13 E14 E15 E16 E17 E18 E20 E26 E49 E50 E51 E60 E65 E68 E94 E95 E96 E97 E98 E99 E100 E101 E102 E103 E104 E105 E106 E107 E108 E109 E110 E111 E112 E113 E114 E115 E116 E117 E118 E119 E120 E121 E122 E123 E124 E125 E126 E127 E128 E129 E130 E131 a_1_18_0
    have a_3_150_169 : q 150 = q 169 := conicKind_f25 E6 E7 E8 E10 E11 E12 E13 E14 E15 E16 E17 E18 E26 E49 E50 E52 E60 E65 E68 E132 E133 E134 E135 E136 E137 E138 E139 E140 E141 E142 E143 E144 E145 E146 E147 E148 E149 E150 E151 E152 E153 E154 E155 E156 E157 E158 E159 E160 E161 E162 E163 E164 E165 E166 E167 E168 E169 a_1_18_0
    exact run_told' 7 (hy_of (H := [(0, 0, 0, 0), (5, 25, 0, 0), (1, 18, 0, 1), (0, 18, 0, 0), (5, 44, 0, 0), (1, 48, 0, 1), (0, 48, 0, 0), (3, 74, 93, 1), (3, 112, 131, 1), (3, 150, 169, 1)]) hσ conicKind_wf conicKind_sz conicKind_lt conicKind_cn hq h0 (And.intro (hF a_0_0_0) (And.intro (h50 a_5_25_0) (And.intro (hT a_1_18_0) (And.intro (hF a_0_18_0) (And.intro (h50 a_5_44_0) (And.intro (hT a_1_48_0) (And.intro (hF a_0_48_0) (And.intro (hT a_3_74_93) (And.intro (hT a_3_112_131) (And.intro (hT a_3_150_169) trivial))))))))))) hcl (by kernel_rfl) conicKind_r9 ⟨tab, mx⟩ (hA _)
   ·
    by_cases a_0_18_0 : q 18 = 0
    ·
     have a_5_44_0 : q 44 < 0 := conicKind_f20 E6 E7 E8 E9 E10 E11 E12 E13 E14 E15 E16 E17 E18 E19 E20 E21 E22 E23 E24 E25 E26 E27 E28 E29 E30 E31 E32 E33 E34 E35 E36 E37 E38 E39 E40 E41 E42 E43 E44 a_5_25_0
     have a_1_48_0 : ¬ (q 48 < 0) := conicKind_f26 E6 E7 E8 E16 E17 E18 E45 E46 E47 E48 a_1_18_0
     have a_0_48_0 : q 48 = 0 := conicKind_f27 E6 E7 E8 E16 E17 E18 E45 E46 E47 E48 a_0_18_0
     exact run_told' 7 (hy_of (H := [(0, 0, 0, 0), (5, 25, 0, 0), (1, 18, 0, 0), (0, 18, 0, 1), (5, 44, 0, 0), (1, 48, 0, 0), (0, 48, 0, 1)]) hσ conicKind_wf conicKind_sz conicKind_lt conicKind_cn hq h0 (And.intro (hF a_0_0_0) (And.intro (h50 a_5_25_0) (And.intro (hF a_1_18_0) (And.intro (hT a_0_18_0) (And.intro (h50 a_5_44_0) (And.intro (hF a_1_48_0) (And.intro (hT a_0_48_0) trivial)))))))) hcl (by kernel_rfl) conicKind_r10 ⟨tab, mx⟩ (hA _)
    ·
     rcases tri (q 170) with a_5_170_0 | a_5_170_0 | a_5_170_0
     ·
      have a_5_44_0 : q 44 < 0 := conicKind_f20 E6 E7 E8 E9 E10 E11 E12 E13 E14 E15 E16 E17 E18 E19 E20 E21 E22 E23 E24 E25 E26 E27 E28 E29 E30 E31 E32 E33 E34 E35 E36 E37 E38 E39 E40 E41 E42 E43 E44 a_5_25_0
      have a_1_48_0 : ¬ (q 48 < 0) := conicKind_f26 E6 E7 E8 E16 E17 E18 E45 E46 E47 E48 a_1_18_0
      have a_0_48_0 : ¬ (q 48 = 0) := conicKind_f28 E6 E7 E8 E16 E17 E18 E45 E46 E47 E48 a_0_18_0
      have a_5_171_0 : q 171 < 0 := conicKind_f29 E6 E7 E8 E170 E171 a_5_170_0
      have a_3_74_93 : q 74 = q 93 := conicKind_f30 E6 E7 E8 E10 E11 E12 E13 E14 E15 E16 E17 E18 E20 E26 E49 E50 E51 E53 E54 E55 E56 E57 E58 E59 E60 E61 E62 E63 E64 E65 E66 E67 E68 E69 E70 E71 E72 E73 E74 E75 E76 E77 E78 E79 E80 E81 E82 E83 E84 E85 E86 E87 E88 E89 E90 E91 E92 E93 a_0_18_0
      have a_3_112_131 : q 112 = q 131 := conicKind_f31 E6 E7 E8 E10 E11 E12 E13 E14 E15 E16 E17 E18 E20 E26 E49 E50 E51 E60 E65 E68 E94 E95 E96 E97 E98 E99 E100 E101 E102 E103 E104 E105 E106 E107 E108 E109 E110 E111 E112 E113 E114 E115 E116 E117 E118 E119 E120 E121 E122 E123 E124 E125 E126 E127 E128 E129 E130 E131 a_0_18_0
      have a_3_150_169 : q 150 = q 169 := conicKind_f32 E6 E7 E8 E10 E11 E12 E13 E14 E15 E16 E17 E18 E26 E49 E50 E52 E60 E65 E68 E132 E133 E134 E135 E136 E137 E138 E139 E140 E141 E142 E143 E144 E145 E146 E147 E148 E149 E150 E151 E152 E153 E154 E155 E156 E157 E158 E159 E160 E161 E162 E163 E164 E165 E166 E167 E168 E169 a_0_18_0
      exact run_told' 7 (hy_of (H := [(0, 0, 0, 0), (5, 25, 0, 0), (1, 18, 0, 0), (0, 18, 0, 0), (5, 170, 0, 0), (5, 44, 0, 0), (1, 48, 0, 0), (0, 48, 0, 0), (5, 171, 0, 0), (3, 74, 93, 1), (3, 112, 131, 1), (3, 150, 169, 1)]) hσ conicKind_wf conicKind_sz conicKind_lt conicKind_cn hq h0 (And.intro (hF a_0_0_0) (And.intro (h50 a_5_25_0) (And.intro (hF a_1_18_0) (And.intro (hF a_0_18_0) (And.intro (h50 a_5_170_0) (And.intro (h50 a_5_44_0) (And.intro (hF a_1_48_0) (And.intro (hF a_0_48_0) (And.intro (h50 a_5_171_0) (And.intro (hT a_3_74_93) (And.intro (hT a_3_112_131) (And.intro (hT a_3_150_169) trivial))))))))))))) hcl (by kernel_rfl) conicKind_r11 ⟨tab, mx⟩ (hA _)
     ·
      exact absurd a_5_170_0 (conicKind_f33 E6 E7 E8 E9 E10 E11 E12 E13 E14 E15 E16 E17 E18 E19 E20 E21 E22 E23 E24 E25 E170 a_0_0_0 a_5_25_0 a_1_18_0 a_0_18_0)
     ·
      have a_5_44_0 : q 44 < 0 := conicKind_f20 E6 E7 E8 E9 E10 E11 E12 E13 E14 E15 E16 E17 E18 E19 E20 E21 E22 E23 E24 E25 E26 E27 E28 E29 E30 E31 E32 E33 E34 E35 E36 E37 E38 E39 E40 E41 E42 E43 E44 a_5_25_0
      have a_1_48_0 : ¬ (q 48 < 0) := conicKind_f26 E6 E7 E8 E16 E17 E18 E45 E46 E47 E48 a_1_18_0
      have a_0_48_0 : ¬ (q 48 = 0) := conicKind_f28 E6 E7 E8 E16 E17 E18 E45 E46 E47 E48 a_0_18_0
      have a_5_171_0 : 0 < q 171 := conicKind_f34 E6 E7 E8 E170 E171 a_5_170_0
      have a_3_74_93 : q 74 = q 93 := conicKind_f30 E6 E7 E8 E10 E11 E12 E13 E14 E15 E16 E17 E18 E20 E26 E49 E50 E51 E53 E54 E55 E56 E57 E58 E59 E60 E61 E62 E63 E64 E65 E66 E67 E68 E69 E70 E71 E72 E73 E74 E75 E76 E77 E78 E79 E80 E81 E82 E83 E84 E85 E86 E87 E88 E89 E90 E91 E92 E93 a_0_18_0
      have a_3_112_131 : q 112 = q 131 := conicKind_f31 E6 E7 E8 E10 E11 E12 E13 E14 E15 E16 E17 E18 E20 E26 E49 E50 E51 E60 E65 E68 E94 E95 E96 E97 E98 E99 E100 E101 E102 E103 E104 E105 E106 E107 E108 E109 E110 E111 E112 E113 E114 E115 E116 E117 E118 E119 E120 E121 E122 E123 E124 E125 E126 E127 E128 E129 E130 E131 a_0_18_0
      have a_3_150_169 : q 150 = q 169 := conicKind_f32 E6 E7 E8 E10 E11 E12 E13 E14 E15 E16 E17 E18 E26 E49 E50 E52 E60 E65 E68 E132 E133 E134 E135 E136 E137 E138 E139 E140 E141 E142 E143 E144 E145 E146 E147 E148 E149 E150 E151 E152 E153 E154 E155 E156 E157 E158 E159 E160 E161 E162 E163 E164 E165 E166 E167 E168 E169 a_0_18_0
      exact run_told' 7 (hy_of (H := [(0, 0, 0, 0), (5, 25, 0, 0), (1, 18, 0, 0), (0, 18, 0, 0), (5, 170, 0, 2), (5, 44, 0, 0), (1, 48, 0, 0), (0, 48, 0, 0), (5, 171, 0, 2), (3, 74, 93, 1), (3, 112, 131, 1), (3, 150, 169, 1)]) hσ conicKind_wf conicKind_sz conicKind_lt conicKind_cn hq h0 (And.intro (hF a_0_0_0) (And.intro (h50 a_5_25_0) (And.intro (hF a_1_18_0) (And.intro (hF a_0_18_0) (And.intro (h52 a_5_170_0) (And.intro (h50 a_5_44_0) (And.intro (hF a_1_48_0) (And.intro (hF a_0_48_0) (And.intro (h52 a_5_171_0) (And.intro (hT a_3_74_93) (And.intro (hT a_3_112_131) (And.intro (hT a_3_150_169) trivial))))))))))))) hcl (by kernel_rfl) conicKind_r12 ⟨tab, mx⟩ (hA _)
  ·
   by_cases a_0_18_0 : q 18 = 0
   ·
    have a_5_44_0 : q 44 = 0 := conicKind_f35 E6 E7 E8 E9 E10 E11 E12 E13 E14 E15 E16 E17 E18 E19 E20 E21 E22 E23 E24 E25 E26 E27 E28 E29 E30 E31 E32 E33 E34 E35 E36 E37 E38 E39 E40 E41 E42 E43 E44 a_5_25_0
    have a_0_48_0 : q 48 = 0 := conicKind_f36 E6 E7 E8 E16 E17 E18 E45 E46 E47 E48 a_0_18_0
    exact run_told' 7 (hy_of (H := [(0, 0, 0, 0), (5, 25, 0, 1), (0, 18, 0, 1), (5, 44, 0, 1), (0, 48, 0, 1)]) hσ conicKind_wf conicKind_sz conicKind_lt conicKind_cn hq h0 (And.intro (hF a_0_0_0) (And.intro (h51 a_5_25_0) (And.intro (hT a_0_18_0) (And.intro (h51 a_5_44_0) (And.intro (hT a_0_48_0) trivial)))))) hcl (by kernel_rfl) conicKind_r13 ⟨tab, mx⟩ (hA _)
   ·
    have a_5_44_0 : q 44 = 0 := conicKind_f35 E6 E7 E8 E9 E10 E11 E12 E13 E14 E15 E16 E17 E18 E19 E20 E21 E22 E23 E24 E25 E26 E27 E28 E29 E30 E31 E32 E33 E34 E35 E36 E37 E38 E39 E40 E41 E42 E43 E44 a_5_25_0
    have a_0_48_0 : ¬ (q 48 = 0) := conicKind_f37 E6 E7 E8 E16 E17 E18 E45 E46 E47 E48 a_0_18_0
    have a_3_74_93 : q 74 = q 93 := conicKind_f38 E6 E7 E8 E10 E11 E12 E13 E14 E15 E16 E17 E18 E20 E26 E49 E50 E51 E53 E54 E55 E56 E57 E58 E59 E60 E61 E62 E63 E64 E65 E66 E67 E68 E69 E70 E71 E72 E73 E74 E75 E76 E77 E78 E79 E80 E81 E82 E83 E84 E85 E86 E87 E88 E89 E90 E91 E92 E93 a_0_18_0
    have a_3_112_131 : q 112 = q 131 := conicKind_f39 E6 E7 E8 E10 E11 E12 E13 E14 E15 E16 E17 E18 E20 E26 E49 E50 E51 E60 E65 E68 E94 E95 E96 E97 E98 E99 E100 E101 E102 E103 E104 E105 E106 E107 E108 E109 E110 E111 E112 E113 E114 E115 E116 E117 E118 E119 E120 E121 E122 E123 E124 E125 E126 E127 E128 E129 E130 E131 a_0_18_0
    have a_3_150_169 : q 150 = q 169 := conicKind_f40 E6 E7 E8 E10 E11 E12 E13 E14 E15 E16 E17 E18 E26 E49 E50 E52 E60 E65 E68 E132 E133 E134 E135 E136 E137 E138 E139 E140 E141 E142 E143 E144 E145 E146 E147 E148 E149 E150 E151 E152 E153 E154 E155 E156 E157 E158 E159 E160 E161 E162 E163 E164 E165 E166 E167 E168 E169 a_0_18_0
    exact run_told' 7 (hy_of (H := [(0, 0, 0, 0), (5, 25, 0, 1), (0, 18, 0, 0), (5, 44, 0, 1), (0, 48, 0, 0), (3, 74, 93, 1), (3, 112, 131, 1), (3, 150, 169, 1)]) hσ conicKind_wf conicKind_sz conicKind_lt conicKind_cn hq h0 (And.intro (hF a_0_0_0) (And.intro (h51 a_5_25_0) (And.intro (hF a_0_18_0) (And.intro (h51 a_5_44_0) (And.intro (hF a_0_48_0) (And.intro (hT a_3_74_93) (And.intro (hT a_3_112_131) (And.intro (hT a_3_150_169) trivial))))))))) hcl (by kernel_rfl) conicKind_r14 ⟨tab, mx⟩ (hA _)
  ·
   by_cases a_1_18_0 : q 18 < 0
   ·
    have a_0_18_0 : ¬ (q 18 = 0) := conicKind_f19 E6 E7 E8 E16 E17 E18 a_1_18_0
    have a_5_44_0 : 0 < q 44 := conicKind_f41 E6 E7 E8 E9 E10 E11 E12 E13 E14 E15 E16 E17 E18 E19 E20 E21 E22 E23 E24 E25 E26 E27 E28 E29 E30 E31 E32 E33 E34 E35 E36 E37 E38 E39 E40 E41 E42 E43 E44 a_5_25_0
    have a_1_48_0 : q 48 < 0 := conicKind_f21 E6 E7 E8 E16 E17 E18 E45 E46 E47 E48 a_1_18_0
    have a_0_48_0 : ¬ (q 48 = 0) := conicKind_f22 E6 E7 E8 E16 E17 E18 E45 E46 E47 E48 a_1_18_0
    have a_3_74_93 : q 74 = q 93 := conicKind_f23 E6 E7 E8 E10 E11 E12 E13 E14 E15 E16 E17 E18 E20 E26 E49 E50 E51 E53 E54 E55 E56 E57 E58 E59 E60 E61 E62 E63 E64 E65 E66 E67 E68 E69 E70 E71 E72 E73 E74 E75 E76 E77 E78 E79 E80 E81 E82 E83 E84 E85 E86 E87 E88 E89 E90 E91 E92 E93 a_1_18_0
    have a_3_112_131 : q 112 = q 131 := conicKind_f24 E6 E7 E8 E10 E11 E12 E13 E14 E15 E16 E17 E18 E20 E26 E49 E50 E51 E60 E65 E68 E94 E95 E96 E97 E98 E99 E100 E101 E102 E103 E104 E105 E106 E107 E108 E109 E110 E111 E112 E113 E114 E115 E116 E117 E118 E119 E120 E121 E122 E123 E124 E125 E126 E127 E128 E129 E130 E131 a_1_18_0
    have a_3_150_169 : q 150 = q 169 := conicKind_f25 E6 E7 E8 E10 E11 E12 E13 E14 E15 E16 E17 E18 E26 E49 E50 E52 E60 E65 E68 E132 E133 E134 E135 E136 E137 E138 E139 E140 E141 E142 E143 E144 E145 E146 E147 E148 E149 E150 E151 E152 E153 E154 E155 E156 E157 E158 E159 E160 E161 E162 E163 E164 E165 E166 E167 E168 E169 a_1_18_0
    exact run_told' 7 (hy_of (H := [(0, 0, 0, 0), (5, 25, 0, 2), (1, 18, 0, 1), (0, 18, 0, 0), (5, 44, 0, 2), (1, 48, 0, 1), (0, 48, 0, 0), (3, 74, 93, 1), (3, 112, 131, 1), (3, 150, 169, 1)]) hσ conicKind_wf conicKind_sz conicKind_lt conicKind_cn hq h0 (And.intro (hF a_0_0_0) (And.intro (h52 a_5_25_0) (And.intro (hT a_1_18_0) (And.intro (hF a_0_18_0) (And.intro (h52 a_5_44_0) (And.intro (hT a_1_48_0) (And.intro (hF a_0_48_0) (And.intro (hT a_3_74_93) (And.intro (hT a_3_112_131) (And.intro (hT a_3_150_169) trivial))))))))))) hcl (by kernel_rfl) conicKind_r15 ⟨tab, mx⟩ (hA _)
   ·
    by_cases a_0_18_0 : q 18 = 0
    ·
     have a_5_44_0 : 0 < q 44 := conicKind_f41 E6 E7 E8 E9 E10 E11 E12 E13 E14 E15 E16 E17 E18 E19 E20 E21 E22 E23 E24 E25 E26 E27 E28 E29 E30 E31 E32 E33 E34 E35 E36 E37 E38 E39 E40 E41 E42 E43 E44 a_5_25_0
     have a_1_48_0 : ¬ (q 48 < 0) := conicKind_f26 E6 E7 E8 E16 E17 E18 E45 E46 E47 E48 a_1_18_0
     have a_0_48_0 : q 48 = 0 := conicKind_f27 E6 E7 E8 E16 E17 E18 E45 E46 E47 E48 a_0_18_0
     exact run_told' 7 (hy_of (H := [(0, 0, 0, 0), (5, 25, 0, 2), (1, 18, 0, 0), (0, 18, 0, 1), (5, 44, 0, 2), (1, 48, 0, 0), (0, 48, 0, 1)]) hσ conicKind_wf conicKind_sz conicKind_lt conicKind_cn hq h0 (And.intro (hF a_0_0_0) (And.intro (h52 a_5_25_0) (And.intro (hF a_1_18_0) (And.intro (hT a_0_18_0) (And.intro (h52 a_5_44_0) (And.intro (hF a_1_48_0) (And.intro (hT a_0_48_0) trivial)))))))) hcl (by kernel_rfl) conicKind_r16 ⟨tab, mx⟩ (hA _)
    ·
     rcases tri (q 170) with a_5_170_0 | a_5_170_0 | a_5_170_0
     ·
      have a_5_44_0 : 0 < q 44 := conicKind_f41 E6 E7 E8 E9 E10 E11 E12 E13 E14 E15 E16 E17 E18 E19 E20 E21 E22 E23 E24 E25 E26 E27 E28 E29 E30 E31 E32 E33 E34 E35 E36 E37 E38 E39 E40 E41 E42 E43 E44 a_5_25_0
      have a_1_48_0 : ¬ (q 48 < 0) := conicKind_f26 E6 E7 E8 E16 E17 E18 E45 E46 E47 E48 a_1_18_0
      have a_0_48_0 : ¬ (q 48 = 0) := conicKind_f28 E6 E7 E8 E16 E17 E18 E45 E46 E47 E48 a_0_18_0
      have a_5_171_0 : q 171 < 0 := conicKind_f29 E6 E7 E8 E170 E171 a_5_170_0
      have a_3_74_93 : q 74 = q 93 := conicKind_f30 E6 E7 E8 E10 E11 E12 E13 E14 E15 E16 E17 E18 E20 E26 E49 E50 E51 E53 E54 E55 E56 E57 E58 E59 E60 E61 E62 E63 E64 E65 E66 E67 E68 E69 E70 E71 E72 E73 E74 E75 E76 E77 E78 E79 E80 E81 E82 E83 E84 E85 E86 E87 E88 E89 E90 E91 E92 E93 a_0_18_0
      have a_3_112_131 : q 112 = q 131 := conicKind_f31 E6 E7 E8 E10 E11 E12 E13 E14 E15 E16 E17 E18 E20 E26 E49 E50 E51 E60 E65 E68 E94 E95 E96 E97 E98 E99 E100 E101 E102 E103 E104 E105 E106 E107 E108 E109 E110 E111 E112 E113 E114 E115 E116 E117 E118 E119 E120 E121 E122 E123 E124 E125 E126 E127 E128 E129 E130 E131 a_0_18_0
      have a_3_150_169 : q 150 = q 169 := conicKind_f32 E6 E7 E8 E10 E11 E12 E13 E14 E15 E16 E17 E18 E26 E49 E50 E52 E60 E65 E68 E132 E133 E134 E135 E136 E137 E138 E139 E140 E141 E142 E143 E144 E145 E146 E147 E148 E149 E150 E151 E152 E153 E154 E155 E156 E157 E158 E159 E160 E161 E162 E163 E164 E165 E166 E167 E168 E169 a_0_18_0
      exact run_told' 7 (hy_of (H := [(0, 0, 0, 0), (5, 25, 0, 2), (1, 18, 0, 0), (0, 18, 0, 0), (5, 170, 0, 0), (5, 44, 0, 2), (1, 48, 0, 0), (0, 48, 0, 0), (5, 171, 0, 0), (3, 74, 93, 1), (3, 112, 131, 1), (3, 150, 169, 1)]) hσ conicKind_wf conicKind_sz conicKind_lt conicKind_cn hq h0 (And.intro (hF a_0_0_0) (And.intro (h52 a_5_25_0) (And.intro (hF a_1_18_0) (And.intro (hF a_0_18_0) (And.intro (h50 a_5_170_0) (And.intro (h52 a_5_44_0) (And.intro (hF a_1_48_0) (And.intro (hF a_0_48_0) (And.intro (h50 a_5_171_0) (And.intro (hT a_3_74_93) (And.intro (hT a_3_112_131) (And.intro (hT a_3_150_169) trivial))))))))))))) hcl (by kernel_rfl) conicKind_r17 ⟨tab, mx⟩ (hA _)
     ·
      exact absurd a_5_170_0 (conicKind_f42 E6 E7 E8 E9 E10 E11 E12 E13 E14 E15 E16 E17 E18 E19 E20 E21 E22 E23 E24 E25 E170 a_0_0_0 a_5_25_0 a_1_18_0 a_0_18_0)
     ·
      have a_5_44_0 : 0 < q 44 := conicKind_f41 E6 E7 E8 E9 E10 E11 E12 E13 E14 E15 E16 E17 E18 E19 E20 E21 E22 E23 E24 E25 E26 E27 E28 E29 E30 E31 E32 E33 E34 E35 E36 E37 E38 E39 E40 E41 E42 E43 E44 a_5_25_0
      have a_1_48_0 : ¬ (q 48 < 0) := conicKind_f26 E6 E7 E8 E16 E17 E18 E45 E46 E47 E48 a_1_18_0
      have a_0_48_0 : ¬ (q 48 = 0) := conicKind_f28 E6 E7 E8 E16 E17 E18 E45 E46 E47 E48 a_0_18_0
      have a_5_171_0 : 0 < q 171 := conicKind_f34 E6 E7 E8 E170 E171 a_5_170_0
      have a_3_74_93 : q 74 = q 93 := conicKind_f30 E6 E7 E8 E10 E11 E12 E13 E14 E15 E16 E17 E18 E20 E26 E49 E50 E51 E53 E54 E55 E56 E57 E58 E59 E60 E61 E62 E63 E64 E65 E66 E67 E68 E69 E70 E71 E72 E73 E74 E75 E76 E77 E78 E79 E80 E81 E82 E83 E84 E85 E86 E87 E88 E89 E90 E91 E92 E93 a_0_18_0
      have a_3_112_131 : q 112 = q 131 := conicKind_f31 E6 E7 E8 E10 E11 E12 E13 E14 E15 E16 E17 E18 E20 E26 E49 E50 E51 E60 E65 E68 E94 E95 E96 E97 E98 E99 E100 E101 E102 E103 E104 E105 E106 E107 E108 E109 E110 E111 E112 E113 E114 E115 E116 E117 E118 E119 E120 E121 E122 E123 E124 E125 E126 E127 E128 E129 E130 E131 a_0_18_0
      have a_3_150_169 : q 150 = q 169 := conicKind_f32 E6 E7 E8 E10 E11 E12 E13 E14 E15 E16 E17 E18 E26 E49 E50 E52 E60 E65 E68 E132 E133 E134 E135 E136 E137 E138 E139 E140 E141 E142 E143 E144 E145 E146 E147 E148 E149 E150 E151 E152 E153 E154 E155 E156 E157 E158 E159 E160 E161 E162 E163 E164 E165 E166 E167 E168 E169 a_0_18_0
      exact run_told' 7 (hy_of (H := [(0, 0, 0, 0), (5, 25, 0, 2), (1, 18, 0, 0), (0, 18, 0, 0), (5, 170, 0, 2), (5, 44, 0, 2), (1, 48, 0, 0), (0, 48, 0, 0), (5, 171, 0, 2), (3, 74, 93, 1), (3, 112, 131, 1), (3, 150, 169, 1)]) hσ conicKind_wf conicKind_sz conicKind_lt conicKind_cn hq h0 (And.intro (hF a_0_0_0) (And.intro (h52 a_5_25_0) (And.intro (hF a_1_18_0) (And.intro (hF a_0_18_0) (And.intro (h52 a_5_170_0) (And.intro (h52 a_5_44_0) (And.intro (hF a_1_48_0) (And.intro (hF a_0_48_0) (And.intro (h52 a_5_171_0) (And.intro (hT a_3_74_93) (And.intro (hT a_3_112_131) (And.intro (hT a_3_150_169) trivial))))))))))))) hcl (by kernel_rfl) conicKind_r18 ⟨tab, mx⟩ (hA _)
end Go.Proofs.YtioacnhbiinjbaaGreatDoor
