/- Part 13 of the walks and of the mathematics under them: MRT. -/
import Derived.Test.YtldhbbignahgeaaGreatDoorA12
set_option maxHeartbeats 16000000
set_option maxRecDepth 100000
/- MRT -/
namespace Go.Proofs.YtldhbbignahgeaaGreatDoor
open Go.RowKit Cx
def circleThrough_N : List Nd := [(1, [0]), (1, [1]), (1, [2]), (1, [3]), (1, [4]), (1, [5]), (3, [2, 0]), (3, [3, 1]), (3, [4, 0]), (3, [5, 1]), (4, [6, 9]), (4, [7, 8]), (3, [10, 11]), (0, [0, 4, 1]), (3, [4, 2]), (3, [5, 3]), (4, [14, 14]), (4, [15, 15]), (2, [16, 17]), (3, [0, 4]), (3, [1, 5]), (4, [19, 19]), (4, [20, 20]), (2, [21, 22]), (4, [6, 6]), (4, [7, 7]), (2, [24, 25]), (5, [18]), (2, [23, 26]), (2, [28, 27]), (4, [18, 29]), (5, [23]), (2, [26, 18]), (2, [32, 31]), (4, [23, 33]), (5, [26]), (2, [18, 23]), (2, [36, 35]), (4, [26, 37]), (2, [30, 34]), (2, [39, 38]), (4, [0, 30]), (4, [1, 30]), (0, [0, 0, 1]), (2, [43, 41]), (2, [43, 42]), (4, [2, 34]), (4, [3, 34]), (2, [44, 46]), (2, [45, 47]), (4, [4, 38]), (4, [5, 38]), (2, [48, 50]), (2, [49, 51]), (6, [52, 40]), (6, [53, 40]), (4, [18, 23]), (4, [56, 26]), (4, [12, 12]), (6, [57, 58]), (6, [59, 13]), (3, [0, 54]), (3, [1, 55]), (4, [61, 61]), (4, [62, 62]), (2, [63, 64]), (3, [65, 60]), (3, [2, 54]), (3, [3, 55]), (4, [67, 67]), (4, [68, 68]), (2, [69, 70]), (3, [71, 60]), (3, [4, 54]), (3, [5, 55]), (4, [73, 73]), (4, [74, 74]), (2, [75, 76]), (3, [77, 60])]
def circleThrough_L : List (List Nat × Nat) := []
def circleThrough_C : List (List Nat × Nat) := []
def circleThrough_Z : List Nat := [4194309, 4194309, 4194309, 4194309, 4194309, 4194309, 8388619, 8388619, 8388619, 8388619, 16777238, 16777238, 33554477, 4, 8388619, 8388619, 16777238, 16777238, 33554477, 8388619, 8388619, 16777238, 16777238, 33554477, 16777238, 16777238, 33554477, 33554477, 67108955, 100663433, 134217910, 33554477, 67108955, 100663433, 134217910, 33554477, 67108955, 100663433, 134217910, 268435821, 402653732, 138412219, 138412219, 2, 138412222, 138412222, 138412219, 138412219, 276824442, 276824442, 138412219, 138412219, 415236662, 415236662, 817890394, 817890394, 67108954, 100663431, 67108954, 167772385, 167772389, 822084704, 822084704, 1644169408, 1644169408, 3288338817, 3456111207, 822084704, 822084704, 1644169408, 1644169408, 3288338817, 3456111207, 822084704, 822084704, 1644169408, 1644169408, 3288338817, 3456111207]
theorem circleThrough_wf : wfB 0 circleThrough_N = true := by kernel_rfl
theorem circleThrough_sz : szB circleThrough_Z circleThrough_N circleThrough_Z = true := by kernel_rfl
theorem circleThrough_lt : litB circleThrough_N circleThrough_L = true := by kernel_rfl
theorem circleThrough_cn : canB circleThrough_N circleThrough_C = true := by kernel_rfl
theorem circleThrough_c13 : cst 0 4 1 = (4 : Rat) := by decide +kernel
theorem circleThrough_c43 : cst 0 0 1 = (0 : Rat) := by decide +kernel
theorem circleThrough_f0 (z0 z1 z2 z3 z4 z5 z6 z7 z8 z9 z10 z11 z12 z14 z15 z16 z17 z18 z19 z20 z21 z22 z23 z24 z25 z26 z27 z28 z29 z30 z31 z32 z33 z34 z35 z36 z37 z38 z39 z40 : Rat) : z6 = z2 - z0 → z7 = z3 - z1 → z8 = z4 - z0 → z9 = z5 - z1 → z10 = z6 * z9 → z11 = z7 * z8 → z12 = z10 - z11 → z14 = z4 - z2 → z15 = z5 - z3 → z16 = z14 * z14 → z17 = z15 * z15 → z18 = z16 + z17 → z19 = z0 - z4 → z20 = z1 - z5 → z21 = z19 * z19 → z22 = z20 * z20 → z23 = z21 + z22 → z24 = z6 * z6 → z25 = z7 * z7 → z26 = z24 + z25 → z27 = -z18 → z28 = z23 + z26 → z29 = z28 + z27 → z30 = z18 * z29 → z31 = -z23 → z32 = z26 + z18 → z33 = z32 + z31 → z34 = z23 * z33 → z35 = -z26 → z36 = z18 + z23 → z37 = z36 + z35 → z38 = z26 * z37 → z39 = z30 + z34 → z40 = z39 + z38 → (¬ (z12 = 0)) → ¬ (z40 = 0) := by
  intro e6 e7 e8 e9 e10 e11 e12 e14 e15 e16 e17 e18 e19 e20 e21 e22 e23 e24 e25 e26 e27 e28 e29 e30 e31 e32 e33 e34 e35 e36 e37 e38 e39 e40 u0
  subst_vars; grind
theorem circleThrough_f1 (z0 z1 z2 z3 z4 z5 z6 z7 z8 z9 z10 z11 z12 z13 z14 z15 z16 z17 z18 z19 z20 z21 z22 z23 z24 z25 z26 z27 z28 z29 z30 z31 z32 z33 z34 z35 z36 z37 z38 z39 z40 z41 z42 z43 z44 z45 z46 z47 z48 z49 z50 z51 z52 z53 z54 z55 z56 z57 z58 z59 z60 z61 z62 z63 z64 z65 z66 : Rat) : z6 = z2 - z0 → z7 = z3 - z1 → z8 = z4 - z0 → z9 = z5 - z1 → z10 = z6 * z9 → z11 = z7 * z8 → z12 = z10 - z11 → z13 = 4 → z14 = z4 - z2 → z15 = z5 - z3 → z16 = z14 * z14 → z17 = z15 * z15 → z18 = z16 + z17 → z19 = z0 - z4 → z20 = z1 - z5 → z21 = z19 * z19 → z22 = z20 * z20 → z23 = z21 + z22 → z24 = z6 * z6 → z25 = z7 * z7 → z26 = z24 + z25 → z27 = -z18 → z28 = z23 + z26 → z29 = z28 + z27 → z30 = z18 * z29 → z31 = -z23 → z32 = z26 + z18 → z33 = z32 + z31 → z34 = z23 * z33 → z35 = -z26 → z36 = z18 + z23 → z37 = z36 + z35 → z38 = z26 * z37 → z39 = z30 + z34 → z40 = z39 + z38 → z41 = z0 * z30 → z42 = z1 * z30 → z43 = 0 → z44 = z43 + z41 → z45 = z43 + z42 → z46 = z2 * z34 → z47 = z3 * z34 → z48 = z44 + z46 → z49 = z45 + z47 → z50 = z4 * z38 → z51 = z5 * z38 → z52 = z48 + z50 → z53 = z49 + z51 → z54 = z52 / z40 → z55 = z53 / z40 → z56 = z18 * z23 → z57 = z56 * z26 → z58 = z12 * z12 → z59 = z57 / z58 → z60 = z59 / z13 → z61 = z0 - z54 → z62 = z1 - z55 → z63 = z61 * z61 → z64 = z62 * z62 → z65 = z63 + z64 → z66 = z65 - z60 → (¬ (z12 = 0)) → z66 = 0 := by
  intro e6 e7 e8 e9 e10 e11 e12 e13 e14 e15 e16 e17 e18 e19 e20 e21 e22 e23 e24 e25 e26 e27 e28 e29 e30 e31 e32 e33 e34 e35 e36 e37 e38 e39 e40 e41 e42 e43 e44 e45 e46 e47 e48 e49 e50 e51 e52 e53 e54 e55 e56 e57 e58 e59 e60 e61 e62 e63 e64 e65 e66 u0
  have f40 : z40 = (z12 * (z12 * 4)) := by
    have c2 : z2 = z6 + z0 := by rw [e6]; grind
    clear e6
    subst c2
    have c4 : z4 = z8 + z0 := by rw [e8]; grind
    clear e8
    subst c4
    have c3 : z3 = z7 + z1 := by rw [e7]; grind
    clear e7
    subst c3
    have c5 : z5 = z9 + z1 := by rw [e9]; grind
    clear e9
    subst c5
    subst_vars; grind
  have w13 : z13 ≠ 0 := by rw [e13]; decide
  have w12 : z12 ≠ 0 := by first | assumption | grind
  have n40 : z40 ≠ 0 := by rw [f40]; exact (mul_ne w12 (mul_ne w12 (by decide)))
  have n58 : z58 ≠ 0 := by rw [e58]; exact (mul_ne w12 w12)
  have h54 : z54 * z40 = z52 := by rw [e54]; exact Rat.div_mul_cancel n40
  rw [f40] at h54
  obtain ⟨m54, hm54⟩ : ∃ m, m = z52 := ⟨_, rfl⟩
  have d54 : z54 * (z12 * (z12 * 4)) = m54 := by
    have q : z54 * (z12 * (z12 * 4)) = z54 * (z12 * (z12 * 4)) := by grind
    rw [q, h54, hm54]
  clear h54 e54
  have h55 : z55 * z40 = z53 := by rw [e55]; exact Rat.div_mul_cancel n40
  rw [f40] at h55
  obtain ⟨m55, hm55⟩ : ∃ m, m = z53 := ⟨_, rfl⟩
  have d55 : z55 * (z12 * (z12 * 4)) = m55 := by
    have q : z55 * (z12 * (z12 * 4)) = z55 * (z12 * (z12 * 4)) := by grind
    rw [q, h55, hm55]
  clear h55 e55
  have h59 : z59 * z58 = z57 := by rw [e59]; exact Rat.div_mul_cancel n58
  rw [e58] at h59
  obtain ⟨m59, hm59⟩ : ∃ m, m = z57 := ⟨_, rfl⟩
  have d59 : z59 * (z12 * z12) = m59 := by
    have q : z59 * (z12 * z12) = z59 * (z12 * z12) := by grind
    rw [q, h59, hm59]
  clear h59 e59
  have h60 : z60 * z13 = z59 := by rw [e60]; exact Rat.div_mul_cancel (by rw [e13]; decide)
  obtain ⟨m60, hm60⟩ : ∃ m, m = m59 := ⟨_, rfl⟩
  have d60 : z60 * (z12 * (z12 * z13)) = m60 := by
    have q : z60 * (z12 * (z12 * z13)) = (z60 * z13) * (z12 * z12) := by grind
    rw [q, h60, d59, hm60]
  clear h60 e60
  obtain ⟨m61, hm61⟩ : ∃ m, m = z0 * (z12 * (z12 * 4)) - m54 * 1 := ⟨_, rfl⟩
  have d61 : z61 * (z12 * (z12 * 4)) = m61 := by
    have q : z61 * (z12 * (z12 * 4)) = z0 * (z12 * (z12 * 4)) - (z54 * (z12 * (z12 * 4))) * 1 := by rw [e61]; grind
    rw [q, d54, hm61]
  clear e61
  obtain ⟨m62, hm62⟩ : ∃ m, m = z1 * (z12 * (z12 * 4)) - m55 * 1 := ⟨_, rfl⟩
  have d62 : z62 * (z12 * (z12 * 4)) = m62 := by
    have q : z62 * (z12 * (z12 * 4)) = z1 * (z12 * (z12 * 4)) - (z55 * (z12 * (z12 * 4))) * 1 := by rw [e62]; grind
    rw [q, d55, hm62]
  clear e62
  obtain ⟨m63, hm63⟩ : ∃ m, m = m61 * m61 := ⟨_, rfl⟩
  have d63 : z63 * (z12 * (z12 * (z12 * (z12 * (4 * 4))))) = m63 := by
    have q : z63 * (z12 * (z12 * (z12 * (z12 * (4 * 4))))) = (z61 * (z12 * (z12 * 4))) * (z61 * (z12 * (z12 * 4))) := by rw [e63]; grind
    rw [q, d61, hm63]
  clear e63
  obtain ⟨m64, hm64⟩ : ∃ m, m = m62 * m62 := ⟨_, rfl⟩
  have d64 : z64 * (z12 * (z12 * (z12 * (z12 * (4 * 4))))) = m64 := by
    have q : z64 * (z12 * (z12 * (z12 * (z12 * (4 * 4))))) = (z62 * (z12 * (z12 * 4))) * (z62 * (z12 * (z12 * 4))) := by rw [e64]; grind
    rw [q, d62, hm64]
  clear e64
  obtain ⟨m65, hm65⟩ : ∃ m, m = m63 * 1 + m64 * 1 := ⟨_, rfl⟩
  have d65 : z65 * (z12 * (z12 * (z12 * (z12 * (4 * 4))))) = m65 := by
    have q : z65 * (z12 * (z12 * (z12 * (z12 * (4 * 4))))) = (z63 * (z12 * (z12 * (z12 * (z12 * (4 * 4)))))) * 1 + (z64 * (z12 * (z12 * (z12 * (z12 * (4 * 4)))))) * 1 := by rw [e65]; grind
    rw [q, d63, d64, hm65]
  clear e65
  obtain ⟨m66, hm66⟩ : ∃ m, m = m65 * z13 - m60 * (z12 * (z12 * (4 * 4))) := ⟨_, rfl⟩
  have d66 : z66 * (z12 * (z12 * (z12 * (z12 * (z13 * (4 * 4)))))) = m66 := by
    have q : z66 * (z12 * (z12 * (z12 * (z12 * (z13 * (4 * 4)))))) = (z65 * (z12 * (z12 * (z12 * (z12 * (4 * 4)))))) * z13 - (z60 * (z12 * (z12 * z13))) * (z12 * (z12 * (4 * 4))) := by rw [e66]; grind
    rw [q, d65, d60, hm66]
  clear e66
  have hpoly : m66 = 0 := by
    clear d54 d55 d59 d60 d61 d62 d63 d64 d65 d66
    have c2 : z2 = z6 + z0 := by rw [e6]; grind
    clear e6
    subst c2
    have c4 : z4 = z8 + z0 := by rw [e8]; grind
    clear e8
    subst c4
    have c3 : z3 = z7 + z1 := by rw [e7]; grind
    clear e7
    subst c3
    have c5 : z5 = z9 + z1 := by rw [e9]; grind
    clear e9
    subst c5
    subst_vars; grind
  have hgoal : z66 = 0 := (Rat.mul_eq_zero.1 (d66.trans hpoly)).resolve_right (mul_ne w12 (mul_ne w12 (mul_ne w12 (mul_ne w12 (mul_ne w13 (mul_ne (by decide) (by decide)))))))
  exact hgoal
theorem circleThrough_f2 (z0 z1 z2 z3 z4 z5 z6 z7 z8 z9 z10 z11 z12 z13 z14 z15 z16 z17 z18 z19 z20 z21 z22 z23 z24 z25 z26 z27 z28 z29 z30 z31 z32 z33 z34 z35 z36 z37 z38 z39 z40 z41 z42 z43 z44 z45 z46 z47 z48 z49 z50 z51 z52 z53 z54 z55 z56 z57 z58 z59 z60 z67 z68 z69 z70 z71 z72 : Rat) : z6 = z2 - z0 → z7 = z3 - z1 → z8 = z4 - z0 → z9 = z5 - z1 → z10 = z6 * z9 → z11 = z7 * z8 → z12 = z10 - z11 → z13 = 4 → z14 = z4 - z2 → z15 = z5 - z3 → z16 = z14 * z14 → z17 = z15 * z15 → z18 = z16 + z17 → z19 = z0 - z4 → z20 = z1 - z5 → z21 = z19 * z19 → z22 = z20 * z20 → z23 = z21 + z22 → z24 = z6 * z6 → z25 = z7 * z7 → z26 = z24 + z25 → z27 = -z18 → z28 = z23 + z26 → z29 = z28 + z27 → z30 = z18 * z29 → z31 = -z23 → z32 = z26 + z18 → z33 = z32 + z31 → z34 = z23 * z33 → z35 = -z26 → z36 = z18 + z23 → z37 = z36 + z35 → z38 = z26 * z37 → z39 = z30 + z34 → z40 = z39 + z38 → z41 = z0 * z30 → z42 = z1 * z30 → z43 = 0 → z44 = z43 + z41 → z45 = z43 + z42 → z46 = z2 * z34 → z47 = z3 * z34 → z48 = z44 + z46 → z49 = z45 + z47 → z50 = z4 * z38 → z51 = z5 * z38 → z52 = z48 + z50 → z53 = z49 + z51 → z54 = z52 / z40 → z55 = z53 / z40 → z56 = z18 * z23 → z57 = z56 * z26 → z58 = z12 * z12 → z59 = z57 / z58 → z60 = z59 / z13 → z67 = z2 - z54 → z68 = z3 - z55 → z69 = z67 * z67 → z70 = z68 * z68 → z71 = z69 + z70 → z72 = z71 - z60 → (¬ (z12 = 0)) → z72 = 0 := by
  intro e6 e7 e8 e9 e10 e11 e12 e13 e14 e15 e16 e17 e18 e19 e20 e21 e22 e23 e24 e25 e26 e27 e28 e29 e30 e31 e32 e33 e34 e35 e36 e37 e38 e39 e40 e41 e42 e43 e44 e45 e46 e47 e48 e49 e50 e51 e52 e53 e54 e55 e56 e57 e58 e59 e60 e67 e68 e69 e70 e71 e72 u0
  have f40 : z40 = (z12 * (z12 * 4)) := by
    have c2 : z2 = z6 + z0 := by rw [e6]; grind
    clear e6
    subst c2
    have c4 : z4 = z8 + z0 := by rw [e8]; grind
    clear e8
    subst c4
    have c3 : z3 = z7 + z1 := by rw [e7]; grind
    clear e7
    subst c3
    have c5 : z5 = z9 + z1 := by rw [e9]; grind
    clear e9
    subst c5
    subst_vars; grind
  have w13 : z13 ≠ 0 := by rw [e13]; decide
  have w12 : z12 ≠ 0 := by first | assumption | grind
  have n40 : z40 ≠ 0 := by rw [f40]; exact (mul_ne w12 (mul_ne w12 (by decide)))
  have n58 : z58 ≠ 0 := by rw [e58]; exact (mul_ne w12 w12)
  have h54 : z54 * z40 = z52 := by rw [e54]; exact Rat.div_mul_cancel n40
  rw [f40] at h54
  obtain ⟨m54, hm54⟩ : ∃ m, m = z52 := ⟨_, rfl⟩
  have d54 : z54 * (z12 * (z12 * 4)) = m54 := by
    have q : z54 * (z12 * (z12 * 4)) = z54 * (z12 * (z12 * 4)) := by grind
    rw [q, h54, hm54]
  clear h54 e54
  have h55 : z55 * z40 = z53 := by rw [e55]; exact Rat.div_mul_cancel n40
  rw [f40] at h55
  obtain ⟨m55, hm55⟩ : ∃ m, m = z53 := ⟨_, rfl⟩
  have d55 : z55 * (z12 * (z12 * 4)) = m55 := by
    have q : z55 * (z12 * (z12 * 4)) = z55 * (z12 * (z12 * 4)) := by grind
    rw [q, h55, hm55]
  clear h55 e55
  have h59 : z59 * z58 = z57 := by rw [e59]; exact Rat.div_mul_cancel n58
  rw [e58] at h59
  obtain ⟨m59, hm59⟩ : ∃ m, m = z57 := ⟨_, rfl⟩
  have d59 : z59 * (z12 * z12) = m59 := by
    have q : z59 * (z12 * z12) = z59 * (z12 * z12) := by grind
    rw [q, h59, hm59]
  clear h59 e59
  have h60 : z60 * z13 = z59 := by rw [e60]; exact Rat.div_mul_cancel (by rw [e13]; decide)
  obtain ⟨m60, hm60⟩ : ∃ m, m = m59 := ⟨_, rfl⟩
  have d60 : z60 * (z12 * (z12 * z13)) = m60 := by
    have q : z60 * (z12 * (z12 * z13)) = (z60 * z13) * (z12 * z12) := by grind
    rw [q, h60, d59, hm60]
  clear h60 e60
  obtain ⟨m67, hm67⟩ : ∃ m, m = z2 * (z12 * (z12 * 4)) - m54 * 1 := ⟨_, rfl⟩
  have d67 : z67 * (z12 * (z12 * 4)) = m67 := by
    have q : z67 * (z12 * (z12 * 4)) = z2 * (z12 * (z12 * 4)) - (z54 * (z12 * (z12 * 4))) * 1 := by rw [e67]; grind
    rw [q, d54, hm67]
  clear e67
  obtain ⟨m68, hm68⟩ : ∃ m, m = z3 * (z12 * (z12 * 4)) - m55 * 1 := ⟨_, rfl⟩
  have d68 : z68 * (z12 * (z12 * 4)) = m68 := by
    have q : z68 * (z12 * (z12 * 4)) = z3 * (z12 * (z12 * 4)) - (z55 * (z12 * (z12 * 4))) * 1 := by rw [e68]; grind
    rw [q, d55, hm68]
  clear e68
  obtain ⟨m69, hm69⟩ : ∃ m, m = m67 * m67 := ⟨_, rfl⟩
  have d69 : z69 * (z12 * (z12 * (z12 * (z12 * (4 * 4))))) = m69 := by
    have q : z69 * (z12 * (z12 * (z12 * (z12 * (4 * 4))))) = (z67 * (z12 * (z12 * 4))) * (z67 * (z12 * (z12 * 4))) := by rw [e69]; grind
    rw [q, d67, hm69]
  clear e69
  obtain ⟨m70, hm70⟩ : ∃ m, m = m68 * m68 := ⟨_, rfl⟩
  have d70 : z70 * (z12 * (z12 * (z12 * (z12 * (4 * 4))))) = m70 := by
    have q : z70 * (z12 * (z12 * (z12 * (z12 * (4 * 4))))) = (z68 * (z12 * (z12 * 4))) * (z68 * (z12 * (z12 * 4))) := by rw [e70]; grind
    rw [q, d68, hm70]
  clear e70
  obtain ⟨m71, hm71⟩ : ∃ m, m = m69 * 1 + m70 * 1 := ⟨_, rfl⟩
  have d71 : z71 * (z12 * (z12 * (z12 * (z12 * (4 * 4))))) = m71 := by
    have q : z71 * (z12 * (z12 * (z12 * (z12 * (4 * 4))))) = (z69 * (z12 * (z12 * (z12 * (z12 * (4 * 4)))))) * 1 + (z70 * (z12 * (z12 * (z12 * (z12 * (4 * 4)))))) * 1 := by rw [e71]; grind
    rw [q, d69, d70, hm71]
  clear e71
  obtain ⟨m72, hm72⟩ : ∃ m, m = m71 * z13 - m60 * (z12 * (z12 * (4 * 4))) := ⟨_, rfl⟩
  have d72 : z72 * (z12 * (z12 * (z12 * (z12 * (z13 * (4 * 4)))))) = m72 := by
    have q : z72 * (z12 * (z12 * (z12 * (z12 * (z13 * (4 * 4)))))) = (z71 * (z12 * (z12 * (z12 * (z12 * (4 * 4)))))) * z13 - (z60 * (z12 * (z12 * z13))) * (z12 * (z12 * (4 * 4))) := by rw [e72]; grind
    rw [q, d71, d60, hm72]
  clear e72
  have hpoly : m72 = 0 := by
    clear d54 d55 d59 d60 d67 d68 d69 d70 d71 d72
    have c2 : z2 = z6 + z0 := by rw [e6]; grind
    clear e6
    subst c2
    have c4 : z4 = z8 + z0 := by rw [e8]; grind
    clear e8
    subst c4
    have c3 : z3 = z7 + z1 := by rw [e7]; grind
    clear e7
    subst c3
    have c5 : z5 = z9 + z1 := by rw [e9]; grind
    clear e9
    subst c5
    subst_vars; grind
  have hgoal : z72 = 0 := (Rat.mul_eq_zero.1 (d72.trans hpoly)).resolve_right (mul_ne w12 (mul_ne w12 (mul_ne w12 (mul_ne w12 (mul_ne w13 (mul_ne (by decide) (by decide)))))))
  exact hgoal
theorem circleThrough_f3 (z0 z1 z2 z3 z4 z5 z6 z7 z8 z9 z10 z11 z12 z13 z14 z15 z16 z17 z18 z19 z20 z21 z22 z23 z24 z25 z26 z27 z28 z29 z30 z31 z32 z33 z34 z35 z36 z37 z38 z39 z40 z41 z42 z43 z44 z45 z46 z47 z48 z49 z50 z51 z52 z53 z54 z55 z56 z57 z58 z59 z60 z73 z74 z75 z76 z77 z78 : Rat) : z6 = z2 - z0 → z7 = z3 - z1 → z8 = z4 - z0 → z9 = z5 - z1 → z10 = z6 * z9 → z11 = z7 * z8 → z12 = z10 - z11 → z13 = 4 → z14 = z4 - z2 → z15 = z5 - z3 → z16 = z14 * z14 → z17 = z15 * z15 → z18 = z16 + z17 → z19 = z0 - z4 → z20 = z1 - z5 → z21 = z19 * z19 → z22 = z20 * z20 → z23 = z21 + z22 → z24 = z6 * z6 → z25 = z7 * z7 → z26 = z24 + z25 → z27 = -z18 → z28 = z23 + z26 → z29 = z28 + z27 → z30 = z18 * z29 → z31 = -z23 → z32 = z26 + z18 → z33 = z32 + z31 → z34 = z23 * z33 → z35 = -z26 → z36 = z18 + z23 → z37 = z36 + z35 → z38 = z26 * z37 → z39 = z30 + z34 → z40 = z39 + z38 → z41 = z0 * z30 → z42 = z1 * z30 → z43 = 0 → z44 = z43 + z41 → z45 = z43 + z42 → z46 = z2 * z34 → z47 = z3 * z34 → z48 = z44 + z46 → z49 = z45 + z47 → z50 = z4 * z38 → z51 = z5 * z38 → z52 = z48 + z50 → z53 = z49 + z51 → z54 = z52 / z40 → z55 = z53 / z40 → z56 = z18 * z23 → z57 = z56 * z26 → z58 = z12 * z12 → z59 = z57 / z58 → z60 = z59 / z13 → z73 = z4 - z54 → z74 = z5 - z55 → z75 = z73 * z73 → z76 = z74 * z74 → z77 = z75 + z76 → z78 = z77 - z60 → (¬ (z12 = 0)) → z78 = 0 := by
  intro e6 e7 e8 e9 e10 e11 e12 e13 e14 e15 e16 e17 e18 e19 e20 e21 e22 e23 e24 e25 e26 e27 e28 e29 e30 e31 e32 e33 e34 e35 e36 e37 e38 e39 e40 e41 e42 e43 e44 e45 e46 e47 e48 e49 e50 e51 e52 e53 e54 e55 e56 e57 e58 e59 e60 e73 e74 e75 e76 e77 e78 u0
  have f40 : z40 = (z12 * (z12 * 4)) := by
    have c2 : z2 = z6 + z0 := by rw [e6]; grind
    clear e6
    subst c2
    have c4 : z4 = z8 + z0 := by rw [e8]; grind
    clear e8
    subst c4
    have c3 : z3 = z7 + z1 := by rw [e7]; grind
    clear e7
    subst c3
    have c5 : z5 = z9 + z1 := by rw [e9]; grind
    clear e9
    subst c5
    subst_vars; grind
  have w13 : z13 ≠ 0 := by rw [e13]; decide
  have w12 : z12 ≠ 0 := by first | assumption | grind
  have n40 : z40 ≠ 0 := by rw [f40]; exact (mul_ne w12 (mul_ne w12 (by decide)))
  have n58 : z58 ≠ 0 := by rw [e58]; exact (mul_ne w12 w12)
  have h54 : z54 * z40 = z52 := by rw [e54]; exact Rat.div_mul_cancel n40
  rw [f40] at h54
  obtain ⟨m54, hm54⟩ : ∃ m, m = z52 := ⟨_, rfl⟩
  have d54 : z54 * (z12 * (z12 * 4)) = m54 := by
    have q : z54 * (z12 * (z12 * 4)) = z54 * (z12 * (z12 * 4)) := by grind
    rw [q, h54, hm54]
  clear h54 e54
  have h55 : z55 * z40 = z53 := by rw [e55]; exact Rat.div_mul_cancel n40
  rw [f40] at h55
  obtain ⟨m55, hm55⟩ : ∃ m, m = z53 := ⟨_, rfl⟩
  have d55 : z55 * (z12 * (z12 * 4)) = m55 := by
    have q : z55 * (z12 * (z12 * 4)) = z55 * (z12 * (z12 * 4)) := by grind
    rw [q, h55, hm55]
  clear h55 e55
  have h59 : z59 * z58 = z57 := by rw [e59]; exact Rat.div_mul_cancel n58
  rw [e58] at h59
  obtain ⟨m59, hm59⟩ : ∃ m, m = z57 := ⟨_, rfl⟩
  have d59 : z59 * (z12 * z12) = m59 := by
    have q : z59 * (z12 * z12) = z59 * (z12 * z12) := by grind
    rw [q, h59, hm59]
  clear h59 e59
  have h60 : z60 * z13 = z59 := by rw [e60]; exact Rat.div_mul_cancel (by rw [e13]; decide)
  obtain ⟨m60, hm60⟩ : ∃ m, m = m59 := ⟨_, rfl⟩
  have d60 : z60 * (z12 * (z12 * z13)) = m60 := by
    have q : z60 * (z12 * (z12 * z13)) = (z60 * z13) * (z12 * z12) := by grind
    rw [q, h60, d59, hm60]
  clear h60 e60
  obtain ⟨m73, hm73⟩ : ∃ m, m = z4 * (z12 * (z12 * 4)) - m54 * 1 := ⟨_, rfl⟩
  have d73 : z73 * (z12 * (z12 * 4)) = m73 := by
    have q : z73 * (z12 * (z12 * 4)) = z4 * (z12 * (z12 * 4)) - (z54 * (z12 * (z12 * 4))) * 1 := by rw [e73]; grind
    rw [q, d54, hm73]
  clear e73
  obtain ⟨m74, hm74⟩ : ∃ m, m = z5 * (z12 * (z12 * 4)) - m55 * 1 := ⟨_, rfl⟩
  have d74 : z74 * (z12 * (z12 * 4)) = m74 := by
    have q : z74 * (z12 * (z12 * 4)) = z5 * (z12 * (z12 * 4)) - (z55 * (z12 * (z12 * 4))) * 1 := by rw [e74]; grind
    rw [q, d55, hm74]
  clear e74
  obtain ⟨m75, hm75⟩ : ∃ m, m = m73 * m73 := ⟨_, rfl⟩
  have d75 : z75 * (z12 * (z12 * (z12 * (z12 * (4 * 4))))) = m75 := by
    have q : z75 * (z12 * (z12 * (z12 * (z12 * (4 * 4))))) = (z73 * (z12 * (z12 * 4))) * (z73 * (z12 * (z12 * 4))) := by rw [e75]; grind
    rw [q, d73, hm75]
  clear e75
  obtain ⟨m76, hm76⟩ : ∃ m, m = m74 * m74 := ⟨_, rfl⟩
  have d76 : z76 * (z12 * (z12 * (z12 * (z12 * (4 * 4))))) = m76 := by
    have q : z76 * (z12 * (z12 * (z12 * (z12 * (4 * 4))))) = (z74 * (z12 * (z12 * 4))) * (z74 * (z12 * (z12 * 4))) := by rw [e76]; grind
    rw [q, d74, hm76]
  clear e76
  obtain ⟨m77, hm77⟩ : ∃ m, m = m75 * 1 + m76 * 1 := ⟨_, rfl⟩
  have d77 : z77 * (z12 * (z12 * (z12 * (z12 * (4 * 4))))) = m77 := by
    have q : z77 * (z12 * (z12 * (z12 * (z12 * (4 * 4))))) = (z75 * (z12 * (z12 * (z12 * (z12 * (4 * 4)))))) * 1 + (z76 * (z12 * (z12 * (z12 * (z12 * (4 * 4)))))) * 1 := by rw [e77]; grind
    rw [q, d75, d76, hm77]
  clear e77
  obtain ⟨m78, hm78⟩ : ∃ m, m = m77 * z13 - m60 * (z12 * (z12 * (4 * 4))) := ⟨_, rfl⟩
  have d78 : z78 * (z12 * (z12 * (z12 * (z12 * (z13 * (4 * 4)))))) = m78 := by
    have q : z78 * (z12 * (z12 * (z12 * (z12 * (z13 * (4 * 4)))))) = (z77 * (z12 * (z12 * (z12 * (z12 * (4 * 4)))))) * z13 - (z60 * (z12 * (z12 * z13))) * (z12 * (z12 * (4 * 4))) := by rw [e78]; grind
    rw [q, d77, d60, hm78]
  clear e78
  have hpoly : m78 = 0 := by
    clear d54 d55 d59 d60 d73 d74 d75 d76 d77 d78
    have c2 : z2 = z6 + z0 := by rw [e6]; grind
    clear e6
    subst c2
    have c4 : z4 = z8 + z0 := by rw [e8]; grind
    clear e8
    subst c4
    have c3 : z3 = z7 + z1 := by rw [e7]; grind
    clear e7
    subst c3
    have c5 : z5 = z9 + z1 := by rw [e9]; grind
    clear e9
    subst c5
    subst_vars; grind
  have hgoal : z78 = 0 := (Rat.mul_eq_zero.1 (d78.trans hpoly)).resolve_right (mul_ne w12 (mul_ne w12 (mul_ne w12 (mul_ne w12 (mul_ne w13 (mul_ne (by decide) (by decide)))))))
  exact hgoal
theorem circleThrough_r0 : (callB (sx Tryz.prog circleThrough_N [(0, 12, 0, 1)] [(110, [])] circleThrough_L circleThrough_C circleThrough_Z (prC [61])) 8 13 [(false, [(true, [.inr (2, 0, 0, 0, 0), .inr (2, 1, 0, 0, 0)])]), (false, [(true, [.inr (2, 2, 0, 0, 0), .inr (2, 3, 0, 0, 0)])]), (false, [(true, [.inr (2, 4, 0, 0, 0), .inr (2, 5, 0, 0, 0)])])] [] 0).map (·.1) = some (kB true) := by kernel_rfl
theorem circleThrough_r1 : (callB (sx Tryz.prog circleThrough_N [(0, 12, 0, 0), (0, 40, 0, 0), (0, 66, 0, 1), (0, 72, 0, 1), (0, 78, 0, 1)] [(110, []), (274, []), (275, []), (184, [])] circleThrough_L circleThrough_C circleThrough_Z (prC [61])) 9 13 [(false, [(true, [.inr (2, 0, 0, 0, 0), .inr (2, 1, 0, 0, 0)])]), (false, [(true, [.inr (2, 2, 0, 0, 0), .inr (2, 3, 0, 0, 0)])]), (false, [(true, [.inr (2, 4, 0, 0, 0), .inr (2, 5, 0, 0, 0)])])] [] 0).map (·.1) = some (kB true) := by kernel_rfl
theorem circleThrough_walk {w : World} {ax az bx bz cx cz : ByteArray} (sax : ax.size ≤ 1048576) (saz : az.size ≤ 1048576) (sbx : bx.size ≤ 1048576) (sbz : bz.size ≤ 1048576) (scx : cx.size ≤ 1048576) (scz : cz.size ≤ 1048576) (tab : Tab w) (mx : MaxL w) :
    Calls Tryz.prog 13 #[.agg #[.string ax, .string az], .agg #[.string bx, .string bz], .agg #[.string cx, .string cz]] w fun e w' => Below w.heap.size w w' ∧ e = .returned (.bool true) := by
  have hσ : ∀ j, (sgOf [ax, az, bx, bz, cx, cz] j).size ≤ 1048576 := sgOf_size (by simp [sax, saz, sbx, sbz, scx, scz])
  have hcl : ∀ f ∈ ([61] : List FuncId), Closed f := by simp [closed_rounded]
  obtain ⟨q, hq, h0⟩ := nodes_exist (sgOf [ax, az, bx, bz, cx, cz]) circleThrough_N circleThrough_wf
  have hA : ∀ K, A2 (avOn (cOn (evS q (sgOf [ax, az, bx, bz, cx, cz])) K (fun _ => none) w)) [(false, [(true, [.inr (2, 0, 0, 0, 0), .inr (2, 1, 0, 0, 0)])]), (false, [(true, [.inr (2, 2, 0, 0, 0), .inr (2, 3, 0, 0, 0)])]), (false, [(true, [.inr (2, 4, 0, 0, 0), .inr (2, 5, 0, 0, 0)])])] [.agg #[.string ax, .string az], .agg #[.string bx, .string bz], .agg #[.string cx, .string cz]] := fun K => ⟨⟨⟨[.string ax, .string az], rfl, rfl, rfl, trivial⟩, trivial⟩, ⟨⟨[.string bx, .string bz], rfl, rfl, rfl, trivial⟩, trivial⟩, ⟨⟨[.string cx, .string cz], rfl, rfl, rfl, trivial⟩, trivial⟩, trivial⟩
  by_cases a_0_12_0 : q 12 = 0
  ·
    exact run_told' 8 (hy_of (H := [(0, 12, 0, 1)]) hσ circleThrough_wf circleThrough_sz circleThrough_lt circleThrough_cn hq h0 (And.intro (hT a_0_12_0) trivial)) hcl (by kernel_rfl) circleThrough_r0 ⟨tab, mx⟩ (hA _)
  ·
    have a_0_40_0 : ¬ (q 40 = 0) := circleThrough_f0 (q 0) (q 1) (q 2) (q 3) (q 4) (q 5) (q 6) (q 7) (q 8) (q 9) (q 10) (q 11) (q 12) (q 14) (q 15) (q 16) (q 17) (q 18) (q 19) (q 20) (q 21) (q 22) (q 23) (q 24) (q 25) (q 26) (q 27) (q 28) (q 29) (q 30) (q 31) (q 32) (q 33) (q 34) (q 35) (q 36) (q 37) (q 38) (q 39) (q 40) (hq 6 _ rfl) (hq 7 _ rfl) (hq 8 _ rfl) (hq 9 _ rfl) (hq 10 _ rfl) (hq 11 _ rfl) (hq 12 _ rfl) (hq 14 _ rfl) (hq 15 _ rfl) (hq 16 _ rfl) (hq 17 _ rfl) (hq 18 _ rfl) (hq 19 _ rfl) (hq 20 _ rfl) (hq 21 _ rfl) (hq 22 _ rfl) (hq 23 _ rfl) (hq 24 _ rfl) (hq 25 _ rfl) (hq 26 _ rfl) (hq 27 _ rfl) (hq 28 _ rfl) (hq 29 _ rfl) (hq 30 _ rfl) (hq 31 _ rfl) (hq 32 _ rfl) (hq 33 _ rfl) (hq 34 _ rfl) (hq 35 _ rfl) (hq 36 _ rfl) (hq 37 _ rfl) (hq 38 _ rfl) (hq 39 _ rfl) (hq 40 _ rfl) a_0_12_0
    have a_0_66_0 : q 66 = 0 := circleThrough_f1 (q 0) (q 1) (q 2) (q 3) (q 4) (q 5) (q 6) (q 7) (q 8) (q 9) (q 10) (q 11) (q 12) (q 13) (q 14) (q 15) (q 16) (q 17) (q 18) (q 19) (q 20) (q 21) (q 22) (q 23) (q 24) (q 25) (q 26) (q 27) (q 28) (q 29) (q 30) (q 31) (q 32) (q 33) (q 34) (q 35) (q 36) (q 37) (q 38) (q 39) (q 40) (q 41) (q 42) (q 43) (q 44) (q 45) (q 46) (q 47) (q 48) (q 49) (q 50) (q 51) (q 52) (q 53) (q 54) (q 55) (q 56) (q 57) (q 58) (q 59) (q 60) (q 61) (q 62) (q 63) (q 64) (q 65) (q 66) (hq 6 _ rfl) (hq 7 _ rfl) (hq 8 _ rfl) (hq 9 _ rfl) (hq 10 _ rfl) (hq 11 _ rfl) (hq 12 _ rfl) ((hq 13 _ rfl).trans circleThrough_c13) (hq 14 _ rfl) (hq 15 _ rfl) (hq 16 _ rfl) (hq 17 _ rfl) (hq 18 _ rfl) (hq 19 _ rfl) (hq 20 _ rfl) (hq 21 _ rfl) (hq 22 _ rfl) (hq 23 _ rfl) (hq 24 _ rfl) (hq 25 _ rfl) (hq 26 _ rfl) (hq 27 _ rfl) (hq 28 _ rfl) (hq 29 _ rfl) (hq 30 _ rfl) (hq 31 _ rfl) (hq 32 _ rfl) (hq 33 _ rfl) (hq 34 _ rfl) (hq 35 _ rfl) (hq 36 _ rfl) (hq 37 _ rfl) (hq 38 _ rfl) (hq 39 _ rfl) (hq 40 _ rfl) (hq 41 _ rfl) (hq 42 _ rfl) ((hq 43 _ rfl).trans circleThrough_c43) (hq 44 _ rfl) (hq 45 _ rfl) (hq 46 _ rfl) (hq 47 _ rfl) (hq 48 _ rfl) (hq 49 _ rfl) (hq 50 _ rfl) (hq 51 _ rfl) (hq 52 _ rfl) (hq 53 _ rfl) (hq 54 _ rfl) (hq 55 _ rfl) (hq 56 _ rfl) (hq 57 _ rfl) (hq 58 _ rfl) (hq 59 _ rfl) (hq 60 _ rfl) (hq 61 _ rfl) (hq 62 _ rfl) (hq 63 _ rfl) (hq 64 _ rfl) (hq 65 _ rfl) (hq 66 _ rfl) a_0_12_0
    have a_0_72_0 : q 72 = 0 := circleThrough_f2 (q 0) (q 1) (q 2) (q 3) (q 4) (q 5) (q 6) (q 7) (q 8) (q 9) (q 10) (q 11) (q 12) (q 13) (q 14) (q 15) (q 16) (q 17) (q 18) (q 19) (q 20) (q 21) (q 22) (q 23) (q 24) (q 25) (q 26) (q 27) (q 28) (q 29) (q 30) (q 31) (q 32) (q 33) (q 34) (q 35) (q 36) (q 37) (q 38) (q 39) (q 40) (q 41) (q 42) (q 43) (q 44) (q 45) (q 46) (q 47) (q 48) (q 49) (q 50) (q 51) (q 52) (q 53) (q 54) (q 55) (q 56) (q 57) (q 58) (q 59) (q 60) (q 67) (q 68) (q 69) (q 70) (q 71) (q 72) (hq 6 _ rfl) (hq 7 _ rfl) (hq 8 _ rfl) (hq 9 _ rfl) (hq 10 _ rfl) (hq 11 _ rfl) (hq 12 _ rfl) ((hq 13 _ rfl).trans circleThrough_c13) (hq 14 _ rfl) (hq 15 _ rfl) (hq 16 _ rfl) (hq 17 _ rfl) (hq 18 _ rfl) (hq 19 _ rfl) (hq 20 _ rfl) (hq 21 _ rfl) (hq 22 _ rfl) (hq 23 _ rfl) (hq 24 _ rfl) (hq 25 _ rfl) (hq 26 _ rfl) (hq 27 _ rfl) (hq 28 _ rfl) (hq 29 _ rfl) (hq 30 _ rfl) (hq 31 _ rfl) (hq 32 _ rfl) (hq 33 _ rfl) (hq 34 _ rfl) (hq 35 _ rfl) (hq 36 _ rfl) (hq 37 _ rfl) (hq 38 _ rfl) (hq 39 _ rfl) (hq 40 _ rfl) (hq 41 _ rfl) (hq 42 _ rfl) ((hq 43 _ rfl).trans circleThrough_c43) (hq 44 _ rfl) (hq 45 _ rfl) (hq 46 _ rfl) (hq 47 _ rfl) (hq 48 _ rfl) (hq 49 _ rfl) (hq 50 _ rfl) (hq 51 _ rfl) (hq 52 _ rfl) (hq 53 _ rfl) (hq 54 _ rfl) (hq 55 _ rfl) (hq 56 _ rfl) (hq 57 _ rfl) (hq 58 _ rfl) (hq 59 _ rfl) (hq 60 _ rfl) (hq 67 _ rfl) (hq 68 _ rfl) (hq 69 _ rfl) (hq 70 _ rfl) (hq 71 _ rfl) (hq 72 _ rfl) a_0_12_0
    have a_0_78_0 : q 78 = 0 := circleThrough_f3 (q 0) (q 1) (q 2) (q 3) (q 4) (q 5) (q 6) (q 7) (q 8) (q 9) (q 10) (q 11) (q 12) (q 13) (q 14) (q 15) (q 16) (q 17) (q 18) (q 19) (q 20) (q 21) (q 22) (q 23) (q 24) (q 25) (q 26) (q 27) (q 28) (q 29) (q 30) (q 31) (q 32) (q 33) (q 34) (q 35) (q 36) (q 37) (q 38) (q 39) (q 40) (q 41) (q 42) (q 43) (q 44) (q 45) (q 46) (q 47) (q 48) (q 49) (q 50) (q 51) (q 52) (q 53) (q 54) (q 55) (q 56) (q 57) (q 58) (q 59) (q 60) (q 73) (q 74) (q 75) (q 76) (q 77) (q 78) (hq 6 _ rfl) (hq 7 _ rfl) (hq 8 _ rfl) (hq 9 _ rfl) (hq 10 _ rfl) (hq 11 _ rfl) (hq 12 _ rfl) ((hq 13 _ rfl).trans circleThrough_c13) (hq 14 _ rfl) (hq 15 _ rfl) (hq 16 _ rfl) (hq 17 _ rfl) (hq 18 _ rfl) (hq 19 _ rfl) (hq 20 _ rfl) (hq 21 _ rfl) (hq 22 _ rfl) (hq 23 _ rfl) (hq 24 _ rfl) (hq 25 _ rfl) (hq 26 _ rfl) (hq 27 _ rfl) (hq 28 _ rfl) (hq 29 _ rfl) (hq 30 _ rfl) (hq 31 _ rfl) (hq 32 _ rfl) (hq 33 _ rfl) (hq 34 _ rfl) (hq 35 _ rfl) (hq 36 _ rfl) (hq 37 _ rfl) (hq 38 _ rfl) (hq 39 _ rfl) (hq 40 _ rfl) (hq 41 _ rfl) (hq 42 _ rfl) ((hq 43 _ rfl).trans circleThrough_c43) (hq 44 _ rfl) (hq 45 _ rfl) (hq 46 _ rfl) (hq 47 _ rfl) (hq 48 _ rfl) (hq 49 _ rfl) (hq 50 _ rfl) (hq 51 _ rfl) (hq 52 _ rfl) (hq 53 _ rfl) (hq 54 _ rfl) (hq 55 _ rfl) (hq 56 _ rfl) (hq 57 _ rfl) (hq 58 _ rfl) (hq 59 _ rfl) (hq 60 _ rfl) (hq 73 _ rfl) (hq 74 _ rfl) (hq 75 _ rfl) (hq 76 _ rfl) (hq 77 _ rfl) (hq 78 _ rfl) a_0_12_0
    exact run_told' 9 (hy_of (H := [(0, 12, 0, 0), (0, 40, 0, 0), (0, 66, 0, 1), (0, 72, 0, 1), (0, 78, 0, 1)]) hσ circleThrough_wf circleThrough_sz circleThrough_lt circleThrough_cn hq h0 (And.intro (hF a_0_12_0) (And.intro (hF a_0_40_0) (And.intro (hT a_0_66_0) (And.intro (hT a_0_72_0) (And.intro (hT a_0_78_0) trivial)))))) hcl (by kernel_rfl) circleThrough_r1 ⟨tab, mx⟩ (hA _)
end Go.Proofs.YtldhbbignahgeaaGreatDoor
