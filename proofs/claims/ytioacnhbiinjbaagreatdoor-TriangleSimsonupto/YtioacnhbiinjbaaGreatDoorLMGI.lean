/- Part 13 of the walks and of the mathematics under them: CFcornered MGI. -/
import Derived.Test.YtioacnhbiinjbaaGreatDoorA12
set_option maxHeartbeats 16000000
set_option maxRecDepth 100000
/- CFcornered -/
namespace Go.Proofs.YtioacnhbiinjbaaGreatDoor
open Go.RowKit Cx
theorem closed_cornered : Closed 106 :=
 closed_told (N := [(0, [0, 0, 1]), (0, [0, 4, 1]), (0, [0, 3, 1]), (3, [1, 0]), (3, [0, 0]), (3, [2, 0]), (4, [3, 5]), (4, [4, 4]), (3, [6, 7]), (3, [0, 1]), (4, [9, 9]), (4, [5, 5]), (2, [10, 11]), (3, [0, 2]), (4, [13, 13]), (2, [7, 14]), (4, [3, 3]), (2, [16, 7]), (5, [12]), (2, [15, 17]), (2, [19, 18]), (4, [12, 20]), (5, [15]), (2, [17, 12]), (2, [23, 22]), (4, [15, 24]), (5, [17]), (2, [12, 15]), (2, [27, 26]), (4, [17, 28]), (2, [21, 25]), (2, [30, 29]), (4, [0, 21]), (2, [0, 32]), (4, [1, 25]), (4, [0, 25]), (2, [33, 34]), (2, [33, 35]), (4, [0, 29]), (4, [2, 29]), (2, [36, 38]), (2, [37, 39]), (6, [40, 31]), (6, [41, 31]), (2, [12, 17]), (2, [44, 22]), (4, [28, 45]), (2, [15, 12]), (2, [47, 26]), (4, [20, 48]), (2, [17, 15]), (2, [50, 18]), (4, [24, 51]), (2, [46, 49]), (2, [53, 52]), (4, [0, 46]), (2, [0, 55]), (4, [1, 49]), (4, [0, 49]), (2, [56, 57]), (2, [56, 58]), (4, [0, 52]), (4, [2, 52]), (2, [59, 61]), (2, [60, 62]), (6, [63, 54]), (6, [64, 54]), (0, [0, 2, 1]), (0, [0, 3, 2]), (0, [0, 25, 1]), (0, [0, 9, 1]), (0, [0, 16, 1])]) (H := [(0, 8, 0, 0), (0, 31, 0, 0), (0, 54, 0, 0), (4, 42, 67, 1), (4, 43, 68, 1), (4, 65, 0, 1), (4, 66, 0, 1), (4, 12, 69, 1), (4, 15, 70, 1), (4, 17, 71, 1)]) (K := [(171, []), (365, []), (366, []), (305, []), (173, [])]) (L := [([48], 0), ([52], 1), ([51], 2), ([50], 67), ([51, 47, 50], 68), ([50, 53], 69), ([57], 70), ([49, 54], 71)]) (C := [([50], 67), ([51, 47, 50], 68), ([48], 0), ([50, 53], 69), ([57], 70), ([49, 54], 71)]) (Z := [2, 4, 3, 7, 5, 6, 13, 10, 24, 7, 14, 12, 27, 6, 12, 23, 14, 25, 27, 49, 77, 104, 23, 53, 77, 100, 25, 51, 77, 102, 205, 308, 106, 109, 104, 102, 214, 212, 104, 105, 319, 318, 627, 626, 53, 77, 154, 51, 77, 154, 49, 77, 154, 309, 464, 156, 159, 158, 156, 318, 316, 156, 157, 475, 474, 939, 938, 3, 3, 6, 5, 6]) (cl := []) 8 (fun _ h => by cases h) (by kernel_rfl) (by kernel_rfl) (by kernel_rfl) (by kernel_rfl) (by kernel_rfl) (by kernel_rfl) (by kernel_rfl)
end Go.Proofs.YtioacnhbiinjbaaGreatDoor
/- MGI -/
namespace Go.Proofs.YtioacnhbiinjbaaGreatDoor
open Go.RowKit Cx
def triangleSimson_N : List Nd := [(1, [0]), (1, [1]), (1, [2]), (1, [3]), (1, [4]), (1, [5]), (3, [2, 0]), (3, [3, 1]), (3, [4, 0]), (3, [5, 1]), (4, [6, 9]), (4, [7, 8]), (3, [10, 11]), (1, [6]), (1, [7]), (3, [4, 2]), (3, [5, 3]), (5, [16]), (4, [17, 2]), (4, [15, 3]), (2, [18, 19]), (5, [20]), (4, [17, 13]), (4, [15, 14]), (2, [22, 23]), (2, [24, 21]), (5, [25]), (4, [17, 26]), (4, [15, 26]), (4, [17, 17]), (4, [15, 15]), (2, [29, 30]), (6, [27, 31]), (6, [28, 31]), (2, [13, 32]), (2, [14, 33]), (3, [0, 4]), (3, [1, 5]), (5, [37]), (4, [38, 4]), (4, [36, 5]), (2, [39, 40]), (5, [41]), (4, [38, 13]), (4, [36, 14]), (2, [43, 44]), (2, [45, 42]), (5, [46]), (4, [38, 47]), (4, [36, 47]), (4, [38, 38]), (4, [36, 36]), (2, [50, 51]), (6, [48, 52]), (6, [49, 52]), (2, [13, 53]), (2, [14, 54]), (5, [7]), (4, [57, 0]), (4, [6, 1]), (2, [58, 59]), (5, [60]), (4, [57, 13]), (4, [6, 14]), (2, [62, 63]), (2, [64, 61]), (5, [65]), (4, [57, 66]), (4, [6, 66]), (4, [57, 57]), (4, [6, 6]), (2, [69, 70]), (6, [67, 71]), (6, [68, 71]), (2, [13, 72]), (2, [14, 73]), (0, [0, 4, 1]), (4, [16, 16]), (2, [30, 77]), (4, [37, 37]), (2, [51, 79]), (4, [7, 7]), (2, [70, 81]), (5, [78]), (2, [80, 82]), (2, [84, 83]), (4, [78, 85]), (5, [80]), (2, [82, 78]), (2, [88, 87]), (4, [80, 89]), (5, [82]), (2, [78, 80]), (2, [92, 91]), (4, [82, 93]), (2, [86, 90]), (2, [95, 94]), (4, [0, 86]), (4, [1, 86]), (0, [0, 0, 1]), (2, [99, 97]), (2, [99, 98]), (4, [2, 90]), (4, [3, 90]), (2, [100, 102]), (2, [101, 103]), (4, [4, 94]), (4, [5, 94]), (2, [104, 106]), (2, [105, 107]), (6, [108, 96]), (6, [109, 96]), (4, [78, 80]), (4, [112, 82]), (4, [12, 12]), (6, [113, 114]), (6, [115, 76]), (3, [13, 110]), (3, [14, 111]), (4, [117, 117]), (4, [118, 118]), (2, [119, 120]), (3, [121, 116]), (3, [55, 34]), (3, [56, 35]), (3, [74, 34]), (3, [75, 35]), (4, [123, 126]), (4, [124, 125]), (3, [127, 128]), (5, [122]), (4, [12, 130]), (4, [76, 116]), (6, [131, 132])]
def triangleSimson_L : List (List Nat × Nat) := [([48], 99)]
def triangleSimson_C : List (List Nat × Nat) := [([48], 99)]
def triangleSimson_Z : List Nat := [4194309, 4194309, 4194309, 4194309, 4194309, 4194309, 8388619, 8388619, 8388619, 8388619, 16777238, 16777238, 33554477, 4194309, 4194309, 8388619, 8388619, 8388619, 12582928, 12582928, 25165857, 25165857, 12582928, 12582928, 25165857, 50331715, 50331715, 58720334, 58720334, 16777238, 16777238, 33554477, 92274811, 92274811, 96469121, 96469121, 8388619, 8388619, 8388619, 12582928, 12582928, 25165857, 25165857, 12582928, 12582928, 25165857, 50331715, 50331715, 58720334, 58720334, 16777238, 16777238, 33554477, 92274811, 92274811, 96469121, 96469121, 8388619, 12582928, 12582928, 25165857, 25165857, 12582928, 12582928, 25165857, 50331715, 50331715, 58720334, 58720334, 16777238, 16777238, 33554477, 92274811, 92274811, 96469121, 96469121, 4, 16777238, 33554477, 16777238, 33554477, 16777238, 33554477, 33554477, 67108955, 100663433, 134217910, 33554477, 67108955, 100663433, 134217910, 33554477, 67108955, 100663433, 134217910, 268435821, 402653732, 138412219, 138412219, 2, 138412222, 138412222, 138412219, 138412219, 276824442, 276824442, 138412219, 138412219, 415236662, 415236662, 817890394, 817890394, 67108954, 100663431, 67108954, 167772385, 167772389, 822084704, 822084704, 1644169408, 1644169408, 3288338817, 3456111207, 192938243, 192938243, 192938243, 192938243, 385876486, 385876486, 771752973, 3456111207, 3489665684, 167772393, 3657438077]
theorem triangleSimson_wf : wfB 0 triangleSimson_N = true := by kernel_rfl
theorem triangleSimson_sz : szB triangleSimson_Z triangleSimson_N triangleSimson_Z = true := by kernel_rfl
theorem triangleSimson_lt : litB triangleSimson_N triangleSimson_L = true := by kernel_rfl
theorem triangleSimson_cn : canB triangleSimson_N triangleSimson_C = true := by kernel_rfl
theorem triangleSimson_c76 : cst 0 4 1 = (4 : Rat) := by decide +kernel
theorem triangleSimson_c99 : cst 0 0 1 = (0 : Rat) := by decide +kernel
theorem simson_den {ux uz vx vz D A B C : Rat} (eD : D = ux * vz - uz * vx) (eA : A = (vx - ux) * (vx - ux) + (vz - uz) * (vz - uz)) (eB : B = vx * vx + vz * vz) (eC : C = ux * ux + uz * uz) : A * (B + C - A) + B * (C + A - B) + C * (A + B - C) = 4 * D * D := by
 subst eD eA eB eC
 grind
theorem simson_core {ux uz vx vz wx wz D A B C ox oz P R ta tb tc Sa Sb Sc S : Rat} (hD : D ≠ 0) (eD : D = ux * vz - uz * vx) (eA : A = (vx - ux) * (vx - ux) + (vz - uz) * (vz - uz)) (eB : B = vx * vx + vz * vz) (eC : C = ux * ux + uz * uz)
  (hx : ox * (4 * D * D) = ux * (B * (C + A - B)) + vx * (C * (A + B - C))) (hz : oz * (4 * D * D) = uz * (B * (C + A - B)) + vz * (C * (A + B - C))) (hR : R * (4 * D * D) = A * B * C) (hP : P = ((wx - ox) * (wx - ox) + (wz - oz) * (wz - oz)) - R)
  (ea : Sa = (vx - ux) * (wz - uz) - (vz - uz) * (wx - ux)) (eb : Sb = vz * (wx - vx) - vx * (wz - vz)) (ec : Sc = ux * wz - uz * wx) (ha : ta * A = -Sa) (hb : tb * B = -Sb) (hc : tc * C = -Sc) (hS : S = D * (ta * tb + tb * tc + tc * ta)) : 0 < R ∧ S * (4 * R) = D * -P := by
 have d2 : 2 * D ≠ 0 := mul_ne (by decide) hD
 have dd : 0 < D * D := sq1_pos hD
 have d4 : 4 * D * D ≠ 0 := mul_ne (mul_ne (by decide) hD) hD
 have kx : ox * (2 * D) = vz * C - uz * B := by
  have e : (ox * (2 * D) - (vz * C - uz * B)) * (2 * D) = 0 := by
   have e1 : (ox * (2 * D) - (vz * C - uz * B)) * (2 * D) = ox * (4 * D * D) - (vz * C - uz * B) * (2 * D) := by grind
   rw [e1, hx]
   clear hx hz hR hP ea eb ec ha hb hc hS hD d2 dd d4 e1
   subst eD eA eB eC
   grind
  have := (Rat.mul_eq_zero.1 e).resolve_right d2
  grind
 have kz : oz * (2 * D) = ux * B - vx * C := by
  have e : (oz * (2 * D) - (ux * B - vx * C)) * (2 * D) = 0 := by
   have e1 : (oz * (2 * D) - (ux * B - vx * C)) * (2 * D) = oz * (4 * D * D) - (ux * B - vx * C) * (2 * D) := by grind
   rw [e1, hz]
   clear hx hz hR hP ea eb ec ha hb hc hS hD d2 dd d4 e1 kx
   subst eD eA eB eC
   grind
  have := (Rat.mul_eq_zero.1 e).resolve_right d2
  grind
 have ko : ox * ox + oz * oz = R := by
  have e : (ox * ox + oz * oz - R) * (4 * D * D) = 0 := by
   have e1 : (ox * ox + oz * oz - R) * (4 * D * D) = (ox * (2 * D)) * (ox * (2 * D)) + (oz * (2 * D)) * (oz * (2 * D)) - R * (4 * D * D) := by grind
   rw [e1, kx, kz, hR]
   clear hx hz hR hP ea eb ec ha hb hc hS hD d2 dd d4 e1 kx kz eD
   subst eA eB eC
   grind
  have := (Rat.mul_eq_zero.1 e).resolve_right d4
  grind
 have kP : P * D = D * (wx * wx + wz * wz) - wx * (vz * C - uz * B) - wz * (ux * B - vx * C) := by
  have e1 : P = wx * wx + wz * wz - 2 * (wx * ox + wz * oz) := by
   rw [hP, ← ko]
   clear hx hz hR hP ea eb ec ha hb hc hS hD d2 dd d4 kx kz ko eD eA eB eC
   grind
  have e2 : P * D = D * (wx * wx + wz * wz) - wx * (ox * (2 * D)) - wz * (oz * (2 * D)) := by
   rw [e1]
   clear hx hz hR hP ea eb ec ha hb hc hS hD d2 dd d4 kx kz ko eD eA eB eC e1
   grind
  rw [e2, kx, kz]
 have kE : Sa * Sb * C + Sb * Sc * A + Sc * Sa * B = -(D * (P * D)) := by
  rw [kP]
  clear hx hz hR hP ha hb hc hS hD d2 dd d4 kx kz ko kP
  subst ea eb ec eA eB eC eD
  grind
 have kS : S * (A * B * C) = -(D * D * D * P) := by
  have e1 : S * (A * B * C) = D * ((ta * A) * (tb * B) * C + (tb * B) * (tc * C) * A + (tc * C) * (ta * A) * B) := by
   rw [hS]
   clear hx hz hR hP ea eb ec ha hb hc hS hD d2 dd d4 kx kz ko kP kE eA eB eC eD
   grind
  have e2 : D * ((-Sa) * (-Sb) * C + (-Sb) * (-Sc) * A + (-Sc) * (-Sa) * B) = D * (Sa * Sb * C + Sb * Sc * A + Sc * Sa * B) := by
   clear hx hz hR hP ea eb ec ha hb hc hS hD d2 dd d4 kx kz ko kP kE eA eB eC eD e1
   grind
  rw [e1, ha, hb, hc, e2, kE]
  clear hx hz hR hP ea eb ec ha hb hc hS hD d2 dd d4 kx kz ko kP kE eA eB eC eD e1 e2
  grind
 have pA : 0 < A := by
  rw [eA]
  refine sq_pos fun h => hD ?_
  have x1 : vx = ux := by have := h.1; grind
  have x2 : vz = uz := by have := h.2; grind
  rw [eD, x1, x2]
  grind
 have pB : 0 < B := by
  rw [eB]
  refine sq_pos fun h => hD ?_
  rw [eD, h.1, h.2]
  grind
 have pC : 0 < C := by
  rw [eC]
  refine sq_pos fun h => hD ?_
  rw [eD, h.1, h.2]
  grind
 have pQ : 0 < A * B * C := Rat.mul_pos (Rat.mul_pos pA pB) pC
 have d4' : 0 < 4 * D * D := by
  have : 4 * D * D = 4 * (D * D) := by grind
  rw [this]
  exact Rat.mul_pos (by decide) dd
 have pR : 0 < R := by
  refine Classical.byContradiction fun h => ?_
  have := Rat.mul_nonneg (a := -R) (b := 4 * D * D) (by grind) (by grind)
  grind
 refine ⟨pR, ?_⟩
 have e : (S * (4 * R) - D * -P) * (D * D) = 0 := by
  have e1 : (S * (4 * R) - D * -P) * (D * D) = S * (R * (4 * D * D)) + D * D * D * P := by
   clear hx hz hR hP ea eb ec ha hb hc hS hD d2 dd d4 kx kz ko kP kE eA eB eC eD kS pA pB pC pQ d4' pR
   grind
  rw [e1, hR, kS]
  clear hx hz hR hP ea eb ec ha hb hc hS hD d2 dd d4 kx kz ko kP kE eA eB eC eD kS pA pB pC pQ d4' pR e1
  grind
 have := (Rat.mul_eq_zero.1 e).resolve_right (by grind)
 grind
theorem triangleSimson_f1 {z0 z1 z2 z3 z4 z5 z6 z7 z8 z9 z10 z11 z12 z15 z16 z30 z36 z37 z51 z70 z77 z78 z79 z80 z81 z82 z83 z84 z85 z86 z87 z88 z89 z90 z91 z92 z93 z94 z95 z96 : Rat} : z6 = z2 - z0 → z7 = z3 - z1 → z8 = z4 - z0 → z9 = z5 - z1 → z10 = z6 * z9 → z11 = z7 * z8 → z12 = z10 - z11 → z15 = z4 - z2 → z16 = z5 - z3 → z30 = z15 * z15 → z36 = z0 - z4 → z37 = z1 - z5 → z51 = z36 * z36 → z70 = z6 * z6 → z77 = z16 * z16 → z78 = z30 + z77 → z79 = z37 * z37 → z80 = z51 + z79 → z81 = z7 * z7 → z82 = z70 + z81 → z83 = -z78 → z84 = z80 + z82 → z85 = z84 + z83 → z86 = z78 * z85 → z87 = -z80 → z88 = z82 + z78 → z89 = z88 + z87 → z90 = z80 * z89 → z91 = -z82 → z92 = z78 + z80 → z93 = z92 + z91 → z94 = z82 * z93 → z95 = z86 + z90 → z96 = z95 + z94 → (¬ (z12 = 0)) → ¬ (z96 = 0) := by
 intro e6 e7 e8 e9 e10 e11 e12 e15 e16 e30 e36 e37 e51 e70 e77 e78 e79 e80 e81 e82 e83 e84 e85 e86 e87 e88 e89 e90 e91 e92 e93 e94 e95 e96 u0
 have h96 : z96 = 4 * z12 * z12 := by
  have hh := simson_den (ux := z6) (uz := z7) (vx := z8) (vz := z9) (D := z12) (A := z78) (B := z80) (C := z82) (by rw [e12, e10, e11]) (by rw [e78, e30, e77, e15, e16, e6, e7, e8, e9]; clear u0; grind) (by rw [e80, e51, e79, e36, e37, e8, e9]; clear u0; grind) (by rw [e82, e70, e81])
  rw [← hh, e96, e95, e86, e85, e84, e83, e90, e89, e88, e87, e94, e93, e92, e91]
  clear hh
  grind
 rw [h96]
 exact mul_ne (mul_ne (by decide) u0) u0
theorem triangleSimson_f2 {z0 z1 z2 z3 z4 z5 z6 z7 z8 z9 z10 z11 z12 z15 z16 z30 z36 z37 z51 z70 z76 z77 z78 z79 z80 z81 z82 z112 z113 z114 z115 z116 : Rat} : z6 = z2 - z0 → z7 = z3 - z1 → z8 = z4 - z0 → z9 = z5 - z1 → z10 = z6 * z9 → z11 = z7 * z8 → z12 = z10 - z11 → z15 = z4 - z2 → z16 = z5 - z3 → z30 = z15 * z15 → z36 = z0 - z4 → z37 = z1 - z5 → z51 = z36 * z36 → z70 = z6 * z6 → z76 = 4 → z77 = z16 * z16 → z78 = z30 + z77 → z79 = z37 * z37 → z80 = z51 + z79 → z81 = z7 * z7 → z82 = z70 + z81 → z112 = z78 * z80 → z113 = z112 * z82 → z114 = z12 * z12 → z115 = z113 / z114 → z116 = z115 / z76 → (¬ (z12 = 0)) → 0 < z116 := by
 intro e6 e7 e8 e9 e10 e11 e12 e15 e16 e30 e36 e37 e51 e70 e76 e77 e78 e79 e80 e81 e82 e112 e113 e114 e115 e116 u0
 have hA : z78 = (z8 - z6) * (z8 - z6) + (z9 - z7) * (z9 - z7) := (by rw [e78, e30, e77, e15, e16, e6, e7, e8, e9]; clear u0; grind)
 have hB : z80 = z8 * z8 + z9 * z9 := (by rw [e80, e51, e79, e36, e37, e8, e9]; clear u0; grind)
 have hC : z82 = z6 * z6 + z7 * z7 := (by rw [e82, e70, e81])
 have n114 : z114 ≠ 0 := by rw [e114]; exact mul_ne u0 u0
 have hR : z116 * (4 * z12 * z12) = z78 * z80 * z82 := by
  have h1 : z116 * z76 = z115 := by rw [e116]; exact Rat.div_mul_cancel (by rw [e76]; decide)
  have h2 : z115 * z114 = z113 := by rw [e115]; exact Rat.div_mul_cancel n114
  rw [e113, e112] at h2
  rw [← h2, ← h1, e114, e76]
  clear h1 h2 n114 hA hB hC u0
  grind
 have pA : 0 < z78 := by
  rw [hA]
  refine sq_pos fun h => u0 ?_
  have x1 : z8 = z6 := by have := h.1; clear hR; grind
  have x2 : z9 = z7 := by have := h.2; clear hR; grind
  rw [e12, e10, e11, x1, x2]
  clear hR hA hB hC; grind
 have pB : 0 < z80 := by
  rw [hB]
  refine sq_pos fun h => u0 ?_
  rw [e12, e10, e11, h.1, h.2]
  clear hR hA hB hC; grind
 have pC : 0 < z82 := by
  rw [hC]
  refine sq_pos fun h => u0 ?_
  rw [e12, e10, e11, h.1, h.2]
  clear hR hA hB hC; grind
 have pQ := Rat.mul_pos (Rat.mul_pos pA pB) pC
 have d4 : 0 < 4 * z12 * z12 := by
  have : 4 * z12 * z12 = 4 * (z12 * z12) := by clear hR hA hB hC; grind
  rw [this]; exact Rat.mul_pos (by decide) (sq1_pos u0)
 refine Classical.byContradiction fun h => ?_
 have hn := Rat.mul_nonneg (a := -z116) (b := 4 * z12 * z12) (by clear hR hA hB hC; grind) (by clear hR hA hB hC; grind)
 have hq : -z116 * (4 * z12 * z12) = -(z78 * z80 * z82) := by rw [← hR]; clear hR hA hB hC; grind
 rw [hq] at hn
 exact absurd pQ (by clear hR hA hB hC; grind)
theorem triangleSimson_f3 {z0 z1 z2 z3 z4 z5 z6 z7 z8 z9 z10 z11 z12 z13 z14 z15 z16 z17 z18 z19 z20 z21 z22 z23 z24 z25 z26 z27 z28 z29 z30 z31 z32 z33 z34 z35 z36 z37 z38 z39 z40 z41 z42 z43 z44 z45 z46 z47 z48 z49 z50 z51 z52 z53 z54 z55 z56 z57 z58 z59 z60 z61 z62 z63 z64 z65 z66 z67 z68 z69 z70 z71 z72 z73 z74 z75 z76 z77 z78 z79 z80 z81 z82 z83 z84 z85 z86 z87 z88 z89 z90 z91 z92 z93 z94 z95 z96 z97 z98 z99 z100 z101 z102 z103 z104 z105 z106 z107 z108 z109 z110 z111 z112 z113 z114 z115 z116 z117 z118 z119 z120 z121 z122 z123 z124 z125 z126 z127 z128 z129 z130 z131 z132 z133 : Rat} : z6 = z2 - z0 → z7 = z3 - z1 → z8 = z4 - z0 → z9 = z5 - z1 → z10 = z6 * z9 → z11 = z7 * z8 → z12 = z10 - z11 → z15 = z4 - z2 → z16 = z5 - z3 → z17 = -z16 → z18 = z17 * z2 → z19 = z15 * z3 → z20 = z18 + z19 → z21 = -z20 → z22 = z17 * z13 → z23 = z15 * z14 → z24 = z22 + z23 → z25 = z24 + z21 → z26 = -z25 → z27 = z17 * z26 → z28 = z15 * z26 → z29 = z17 * z17 → z30 = z15 * z15 → z31 = z29 + z30 → z32 = z27 / z31 → z33 = z28 / z31 → z34 = z13 + z32 → z35 = z14 + z33 → z36 = z0 - z4 → z37 = z1 - z5 → z38 = -z37 → z39 = z38 * z4 → z40 = z36 * z5 → z41 = z39 + z40 → z42 = -z41 → z43 = z38 * z13 → z44 = z36 * z14 → z45 = z43 + z44 → z46 = z45 + z42 → z47 = -z46 → z48 = z38 * z47 → z49 = z36 * z47 → z50 = z38 * z38 → z51 = z36 * z36 → z52 = z50 + z51 → z53 = z48 / z52 → z54 = z49 / z52 → z55 = z13 + z53 → z56 = z14 + z54 → z57 = -z7 → z58 = z57 * z0 → z59 = z6 * z1 → z60 = z58 + z59 → z61 = -z60 → z62 = z57 * z13 → z63 = z6 * z14 → z64 = z62 + z63 → z65 = z64 + z61 → z66 = -z65 → z67 = z57 * z66 → z68 = z6 * z66 → z69 = z57 * z57 → z70 = z6 * z6 → z71 = z69 + z70 → z72 = z67 / z71 → z73 = z68 / z71 → z74 = z13 + z72 → z75 = z14 + z73 → z76 = 4 → z77 = z16 * z16 → z78 = z30 + z77 → z79 = z37 * z37 → z80 = z51 + z79 → z81 = z7 * z7 → z82 = z70 + z81 → z83 = -z78 → z84 = z80 + z82 → z85 = z84 + z83 → z86 = z78 * z85 → z87 = -z80 → z88 = z82 + z78 → z89 = z88 + z87 → z90 = z80 * z89 → z91 = -z82 → z92 = z78 + z80 → z93 = z92 + z91 → z94 = z82 * z93 → z95 = z86 + z90 → z96 = z95 + z94 → z97 = z0 * z86 → z98 = z1 * z86 → z99 = 0 → z100 = z99 + z97 → z101 = z99 + z98 → z102 = z2 * z90 → z103 = z3 * z90 → z104 = z100 + z102 → z105 = z101 + z103 → z106 = z4 * z94 → z107 = z5 * z94 → z108 = z104 + z106 → z109 = z105 + z107 → z110 = z108 / z96 → z111 = z109 / z96 → z112 = z78 * z80 → z113 = z112 * z82 → z114 = z12 * z12 → z115 = z113 / z114 → z116 = z115 / z76 → z117 = z13 - z110 → z118 = z14 - z111 → z119 = z117 * z117 → z120 = z118 * z118 → z121 = z119 + z120 → z122 = z121 - z116 → z123 = z55 - z34 → z124 = z56 - z35 → z125 = z74 - z34 → z126 = z75 - z35 → z127 = z123 * z126 → z128 = z124 * z125 → z129 = z127 - z128 → z130 = -z122 → z131 = z12 * z130 → z132 = z76 * z116 → z133 = z131 / z132 → (¬ (z12 = 0)) → z129 = z133 := by
 intro e6 e7 e8 e9 e10 e11 e12 e15 e16 e17 e18 e19 e20 e21 e22 e23 e24 e25 e26 e27 e28 e29 e30 e31 e32 e33 e34 e35 e36 e37 e38 e39 e40 e41 e42 e43 e44 e45 e46 e47 e48 e49 e50 e51 e52 e53 e54 e55 e56 e57 e58 e59 e60 e61 e62 e63 e64 e65 e66 e67 e68 e69 e70 e71 e72 e73 e74 e75 e76 e77 e78 e79 e80 e81 e82 e83 e84 e85 e86 e87 e88 e89 e90 e91 e92 e93 e94 e95 e96 e97 e98 e99 e100 e101 e102 e103 e104 e105 e106 e107 e108 e109 e110 e111 e112 e113 e114 e115 e116 e117 e118 e119 e120 e121 e122 e123 e124 e125 e126 e127 e128 e129 e130 e131 e132 e133 u0
 have h96 : z96 = 4 * z12 * z12 := by
  have hh := simson_den (ux := z6) (uz := z7) (vx := z8) (vz := z9) (D := z12) (A := z78) (B := z80) (C := z82) (by rw [e12, e10, e11]) (by rw [e78, e30, e77, e15, e16, e6, e7, e8, e9]; clear u0; grind) (by rw [e80, e51, e79, e36, e37, e8, e9]; clear u0; grind) (by rw [e82, e70, e81])
  rw [← hh, e96, e95, e86, e85, e84, e83, e90, e89, e88, e87, e94, e93, e92, e91]
  clear hh
  grind
 have n96 : z96 ≠ 0 := by rw [h96]; exact mul_ne (mul_ne (by decide) u0) u0
 have hA : z78 = (z8 - z6) * (z8 - z6) + (z9 - z7) * (z9 - z7) := (by rw [e78, e30, e77, e15, e16, e6, e7, e8, e9]; clear u0; grind)
 have hB : z80 = z8 * z8 + z9 * z9 := (by rw [e80, e51, e79, e36, e37, e8, e9]; clear u0; grind)
 have hC : z82 = z6 * z6 + z7 * z7 := (by rw [e82, e70, e81])
 have n114 : z114 ≠ 0 := by rw [e114]; exact mul_ne u0 u0
 have hR : z116 * (4 * z12 * z12) = z78 * z80 * z82 := by
  have h1 : z116 * z76 = z115 := by rw [e116]; exact Rat.div_mul_cancel (by rw [e76]; decide)
  have h2 : z115 * z114 = z113 := by rw [e115]; exact Rat.div_mul_cancel n114
  rw [e113, e112] at h2
  rw [← h2, ← h1, e114, e76]
  clear h1 h2 n114 hA hB hC n96 h96 u0
  grind
 have hx : (z110 - z0) * (4 * z12 * z12) = z6 * (z80 * (z82 + z78 - z80)) + z8 * (z82 * (z78 + z80 - z82)) := by
  have h1 : z110 * z96 = z108 := by rw [e110]; exact Rat.div_mul_cancel n96
  have h2 : (z110 - z0) * z96 = z108 - z0 * z96 := by rw [← h1]; clear h1 hR hA hB hC n96 h96 u0; grind
  rw [← h96, h2, e108, e104, e100, e99, e97, e102, e106, e96, e95, e86, e85, e84, e83, e90, e89, e88, e87, e94, e93, e92, e91, e6, e8]
  clear h1 h2 hR hA hB hC n96 h96 u0 n114
  grind
 have hz : (z111 - z1) * (4 * z12 * z12) = z7 * (z80 * (z82 + z78 - z80)) + z9 * (z82 * (z78 + z80 - z82)) := by
  have h1 : z111 * z96 = z109 := by rw [e111]; exact Rat.div_mul_cancel n96
  have h2 : (z111 - z1) * z96 = z109 - z1 * z96 := by rw [← h1]; clear h1 hR hA hB hC n96 h96 u0; grind
  rw [← h96, h2, e109, e105, e101, e99, e98, e103, e107, e96, e95, e86, e85, e84, e83, e90, e89, e88, e87, e94, e93, e92, e91, e7, e9]
  clear h1 h2 hx hR hA hB hC n96 h96 u0 n114
  grind
 have hP : z122 = (((z13 - z0) - (z110 - z0)) * ((z13 - z0) - (z110 - z0)) + ((z14 - z1) - (z111 - z1)) * ((z14 - z1) - (z111 - z1))) - z116 := by
  rw [e122, e121, e119, e120, e117, e118]
  clear hx hz hR hA hB hC n96 h96 u0 n114
  grind
 have pABC : z78 ≠ 0 ∧ z80 ≠ 0 ∧ z82 ≠ 0 := by
  refine ⟨fun h => ?_, fun h => ?_, fun h => ?_⟩ <;> refine mul_ne (mul_ne (by decide) u0) u0 (?_ : 4 * z12 * z12 = 0)
  ·have hs := sq_pos (x := z8 - z6) (y := z9 - z7) (fun g => u0 (by have x1 : z8 = z6 := (by have := g.1; clear hx hz hR hP hA hB hC; grind); have x2 : z9 = z7 := (by have := g.2; clear hx hz hR hP hA hB hC; grind); rw [e12, e10, e11, x1, x2]; clear hx hz hR hP hA hB hC; grind))
   rw [← hA, h] at hs; exact absurd hs (by decide)
  ·have hs := sq_pos (x := z8) (y := z9) (fun g => u0 (by rw [e12, e10, e11, g.1, g.2]; clear hx hz hR hP hA hB hC; grind))
   rw [← hB, h] at hs; exact absurd hs (by decide)
  ·have hs := sq_pos (x := z6) (y := z7) (fun g => u0 (by rw [e12, e10, e11, g.1, g.2]; clear hx hz hR hP hA hB hC; grind))
   rw [← hC, h] at hs; exact absurd hs (by decide)
 have s31 : z31 = z78 := by rw [e31, e29, e17, e78, e77]; clear hx hz hR hP hA hB hC pABC; grind
 have s52 : z52 = z80 := by rw [e52, e50, e38, e80, e79]; clear hx hz hR hP hA hB hC pABC; grind
 have s71 : z71 = z82 := by rw [e71, e69, e57, e82, e81]; clear hx hz hR hP hA hB hC pABC; grind
 obtain ⟨ta, hta⟩ : ∃ t, t = z26 / z78 := ⟨_, rfl⟩
 obtain ⟨tb, htb⟩ : ∃ t, t = z47 / z80 := ⟨_, rfl⟩
 obtain ⟨tc, htc⟩ : ∃ t, t = z66 / z82 := ⟨_, rfl⟩
 have ha : ta * z78 = -z25 := by rw [hta, Rat.div_mul_cancel pABC.1, e26]
 have hb : tb * z80 = -z46 := by rw [htb, Rat.div_mul_cancel pABC.2.1, e47]
 have hc : tc * z82 = -z65 := by rw [htc, Rat.div_mul_cancel pABC.2.2, e66]
 have m : ∀ x y w : Rat, x * y / w = x * (y / w) := fun x y w => by rw [Rat.div_def, Rat.div_def, Rat.mul_assoc]
 have hS : z129 = z12 * (ta * tb + tb * tc + tc * ta) := by
  rw [e129, e127, e128, e123, e124, e125, e126, e55, e34, e56, e35, e74, e75, e53, e54, e32, e33, e72, e73, s31, s52, s71, e48, e49, e27, e28, e67, e68, m, m, m, m, m, m, ← hta, ← htb, ← htc, e17, e15, e38, e36, e57, e16, e37, e12, e10, e11, e6, e7, e8, e9]
  clear hx hz hR hP hA hB hC pABC s31 s52 s71 ha hb hc hta htb htc m n96 h96 u0 n114
  grind
 have ⟨pR, kk⟩ := simson_core (wx := z13 - z0) (wz := z14 - z1) (Sa := z25) (Sb := z46) (Sc := z65) u0 (by rw [e12, e10, e11]) hA hB hC hx hz hR hP (by rw [e25, e24, e21, e20, e22, e23, e18, e19, e17, e15, e16, e6, e7, e8, e9]; clear hx hz hR hP hA hB hC pABC s31 s52 s71 ha hb hc hta htb htc hS; grind) (by rw [e46, e45, e42, e41, e43, e44, e39, e40, e38, e36, e37, e8, e9]; clear hx hz hR hP hA hB hC pABC s31 s52 s71 ha hb hc hta htb htc hS; grind) (by rw [e65, e64, e61, e60, e62, e63, e58, e59, e57, e6, e7]; clear hx hz hR hP hA hB hC pABC s31 s52 s71 ha hb hc hta htb htc hS; grind) ha hb hc hS
 have nR : 4 * z116 ≠ 0 := mul_ne (by decide) (fun h => by rw [h] at pR; exact absurd pR (by decide))
 have h133 : z133 * (4 * z116) = z12 * -z122 := by rw [e133, e132, e76, Rat.div_mul_cancel nR, e131, e130]
 have : (z129 - z133) * (4 * z116) = 0 := by
  have e : (z129 - z133) * (4 * z116) = z129 * (4 * z116) - z133 * (4 * z116) := by clear kk h133 hx hz hR hP hA hB hC; grind
  rw [e, kk, h133]
  clear kk h133 hx hz hR hP hA hB hC e
  grind
 have := (Rat.mul_eq_zero.1 this).resolve_right nR
 clear kk h133 hx hz hR hP hA hB hC
 grind
theorem triangleSimson_f4 {z0 z1 z2 z3 z4 z5 z6 z7 z8 z9 z10 z11 z12 z13 z14 z15 z16 z17 z18 z19 z20 z21 z22 z23 z24 z25 z26 z27 z28 z29 z30 z31 z32 z33 z34 z35 z36 z37 z38 z39 z40 z41 z42 z43 z44 z45 z46 z47 z48 z49 z50 z51 z52 z53 z54 z55 z56 z57 z58 z59 z60 z61 z62 z63 z64 z65 z66 z67 z68 z69 z70 z71 z72 z73 z74 z75 z76 z77 z78 z79 z80 z81 z82 z83 z84 z85 z86 z87 z88 z89 z90 z91 z92 z93 z94 z95 z96 z97 z98 z99 z100 z101 z102 z103 z104 z105 z106 z107 z108 z109 z110 z111 z112 z113 z114 z115 z116 z117 z118 z119 z120 z121 z122 z123 z124 z125 z126 z127 z128 z129 : Rat} : z6 = z2 - z0 → z7 = z3 - z1 → z8 = z4 - z0 → z9 = z5 - z1 → z10 = z6 * z9 → z11 = z7 * z8 → z12 = z10 - z11 → z15 = z4 - z2 → z16 = z5 - z3 → z17 = -z16 → z18 = z17 * z2 → z19 = z15 * z3 → z20 = z18 + z19 → z21 = -z20 → z22 = z17 * z13 → z23 = z15 * z14 → z24 = z22 + z23 → z25 = z24 + z21 → z26 = -z25 → z27 = z17 * z26 → z28 = z15 * z26 → z29 = z17 * z17 → z30 = z15 * z15 → z31 = z29 + z30 → z32 = z27 / z31 → z33 = z28 / z31 → z34 = z13 + z32 → z35 = z14 + z33 → z36 = z0 - z4 → z37 = z1 - z5 → z38 = -z37 → z39 = z38 * z4 → z40 = z36 * z5 → z41 = z39 + z40 → z42 = -z41 → z43 = z38 * z13 → z44 = z36 * z14 → z45 = z43 + z44 → z46 = z45 + z42 → z47 = -z46 → z48 = z38 * z47 → z49 = z36 * z47 → z50 = z38 * z38 → z51 = z36 * z36 → z52 = z50 + z51 → z53 = z48 / z52 → z54 = z49 / z52 → z55 = z13 + z53 → z56 = z14 + z54 → z57 = -z7 → z58 = z57 * z0 → z59 = z6 * z1 → z60 = z58 + z59 → z61 = -z60 → z62 = z57 * z13 → z63 = z6 * z14 → z64 = z62 + z63 → z65 = z64 + z61 → z66 = -z65 → z67 = z57 * z66 → z68 = z6 * z66 → z69 = z57 * z57 → z70 = z6 * z6 → z71 = z69 + z70 → z72 = z67 / z71 → z73 = z68 / z71 → z74 = z13 + z72 → z75 = z14 + z73 → z76 = 4 → z77 = z16 * z16 → z78 = z30 + z77 → z79 = z37 * z37 → z80 = z51 + z79 → z81 = z7 * z7 → z82 = z70 + z81 → z83 = -z78 → z84 = z80 + z82 → z85 = z84 + z83 → z86 = z78 * z85 → z87 = -z80 → z88 = z82 + z78 → z89 = z88 + z87 → z90 = z80 * z89 → z91 = -z82 → z92 = z78 + z80 → z93 = z92 + z91 → z94 = z82 * z93 → z95 = z86 + z90 → z96 = z95 + z94 → z97 = z0 * z86 → z98 = z1 * z86 → z99 = 0 → z100 = z99 + z97 → z101 = z99 + z98 → z102 = z2 * z90 → z103 = z3 * z90 → z104 = z100 + z102 → z105 = z101 + z103 → z106 = z4 * z94 → z107 = z5 * z94 → z108 = z104 + z106 → z109 = z105 + z107 → z110 = z108 / z96 → z111 = z109 / z96 → z112 = z78 * z80 → z113 = z112 * z82 → z114 = z12 * z12 → z115 = z113 / z114 → z116 = z115 / z76 → z117 = z13 - z110 → z118 = z14 - z111 → z119 = z117 * z117 → z120 = z118 * z118 → z121 = z119 + z120 → z122 = z121 - z116 → z123 = z55 - z34 → z124 = z56 - z35 → z125 = z74 - z34 → z126 = z75 - z35 → z127 = z123 * z126 → z128 = z124 * z125 → z129 = z127 - z128 → (¬ (z12 = 0)) → (z129 = 0) → z122 = z99 := by
 intro e6 e7 e8 e9 e10 e11 e12 e15 e16 e17 e18 e19 e20 e21 e22 e23 e24 e25 e26 e27 e28 e29 e30 e31 e32 e33 e34 e35 e36 e37 e38 e39 e40 e41 e42 e43 e44 e45 e46 e47 e48 e49 e50 e51 e52 e53 e54 e55 e56 e57 e58 e59 e60 e61 e62 e63 e64 e65 e66 e67 e68 e69 e70 e71 e72 e73 e74 e75 e76 e77 e78 e79 e80 e81 e82 e83 e84 e85 e86 e87 e88 e89 e90 e91 e92 e93 e94 e95 e96 e97 e98 e99 e100 e101 e102 e103 e104 e105 e106 e107 e108 e109 e110 e111 e112 e113 e114 e115 e116 e117 e118 e119 e120 e121 e122 e123 e124 e125 e126 e127 e128 e129 u0 u1
 have h96 : z96 = 4 * z12 * z12 := by
  have hh := simson_den (ux := z6) (uz := z7) (vx := z8) (vz := z9) (D := z12) (A := z78) (B := z80) (C := z82) (by rw [e12, e10, e11]) (by rw [e78, e30, e77, e15, e16, e6, e7, e8, e9]; clear u0; grind) (by rw [e80, e51, e79, e36, e37, e8, e9]; clear u0; grind) (by rw [e82, e70, e81])
  rw [← hh, e96, e95, e86, e85, e84, e83, e90, e89, e88, e87, e94, e93, e92, e91]
  clear hh
  grind
 have n96 : z96 ≠ 0 := by rw [h96]; exact mul_ne (mul_ne (by decide) u0) u0
 have hA : z78 = (z8 - z6) * (z8 - z6) + (z9 - z7) * (z9 - z7) := (by rw [e78, e30, e77, e15, e16, e6, e7, e8, e9]; clear u0; grind)
 have hB : z80 = z8 * z8 + z9 * z9 := (by rw [e80, e51, e79, e36, e37, e8, e9]; clear u0; grind)
 have hC : z82 = z6 * z6 + z7 * z7 := (by rw [e82, e70, e81])
 have n114 : z114 ≠ 0 := by rw [e114]; exact mul_ne u0 u0
 have hR : z116 * (4 * z12 * z12) = z78 * z80 * z82 := by
  have h1 : z116 * z76 = z115 := by rw [e116]; exact Rat.div_mul_cancel (by rw [e76]; decide)
  have h2 : z115 * z114 = z113 := by rw [e115]; exact Rat.div_mul_cancel n114
  rw [e113, e112] at h2
  rw [← h2, ← h1, e114, e76]
  clear h1 h2 n114 hA hB hC n96 h96 u0
  grind
 have hx : (z110 - z0) * (4 * z12 * z12) = z6 * (z80 * (z82 + z78 - z80)) + z8 * (z82 * (z78 + z80 - z82)) := by
  have h1 : z110 * z96 = z108 := by rw [e110]; exact Rat.div_mul_cancel n96
  have h2 : (z110 - z0) * z96 = z108 - z0 * z96 := by rw [← h1]; clear h1 hR hA hB hC n96 h96 u0; grind
  rw [← h96, h2, e108, e104, e100, e99, e97, e102, e106, e96, e95, e86, e85, e84, e83, e90, e89, e88, e87, e94, e93, e92, e91, e6, e8]
  clear h1 h2 hR hA hB hC n96 h96 u0 n114
  grind
 have hz : (z111 - z1) * (4 * z12 * z12) = z7 * (z80 * (z82 + z78 - z80)) + z9 * (z82 * (z78 + z80 - z82)) := by
  have h1 : z111 * z96 = z109 := by rw [e111]; exact Rat.div_mul_cancel n96
  have h2 : (z111 - z1) * z96 = z109 - z1 * z96 := by rw [← h1]; clear h1 hR hA hB hC n96 h96 u0; grind
  rw [← h96, h2, e109, e105, e101, e99, e98, e103, e107, e96, e95, e86, e85, e84, e83, e90, e89, e88, e87, e94, e93, e92, e91, e7, e9]
  clear h1 h2 hx hR hA hB hC n96 h96 u0 n114
  grind
 have hP : z122 = (((z13 - z0) - (z110 - z0)) * ((z13 - z0) - (z110 - z0)) + ((z14 - z1) - (z111 - z1)) * ((z14 - z1) - (z111 - z1))) - z116 := by
  rw [e122, e121, e119, e120, e117, e118]
  clear hx hz hR hA hB hC n96 h96 u0 n114
  grind
 have pABC : z78 ≠ 0 ∧ z80 ≠ 0 ∧ z82 ≠ 0 := by
  refine ⟨fun h => ?_, fun h => ?_, fun h => ?_⟩ <;> refine mul_ne (mul_ne (by decide) u0) u0 (?_ : 4 * z12 * z12 = 0)
  ·have hs := sq_pos (x := z8 - z6) (y := z9 - z7) (fun g => u0 (by have x1 : z8 = z6 := (by have := g.1; clear hx hz hR hP hA hB hC; grind); have x2 : z9 = z7 := (by have := g.2; clear hx hz hR hP hA hB hC; grind); rw [e12, e10, e11, x1, x2]; clear hx hz hR hP hA hB hC; grind))
   rw [← hA, h] at hs; exact absurd hs (by decide)
  ·have hs := sq_pos (x := z8) (y := z9) (fun g => u0 (by rw [e12, e10, e11, g.1, g.2]; clear hx hz hR hP hA hB hC; grind))
   rw [← hB, h] at hs; exact absurd hs (by decide)
  ·have hs := sq_pos (x := z6) (y := z7) (fun g => u0 (by rw [e12, e10, e11, g.1, g.2]; clear hx hz hR hP hA hB hC; grind))
   rw [← hC, h] at hs; exact absurd hs (by decide)
 have s31 : z31 = z78 := by rw [e31, e29, e17, e78, e77]; clear hx hz hR hP hA hB hC pABC; grind
 have s52 : z52 = z80 := by rw [e52, e50, e38, e80, e79]; clear hx hz hR hP hA hB hC pABC; grind
 have s71 : z71 = z82 := by rw [e71, e69, e57, e82, e81]; clear hx hz hR hP hA hB hC pABC; grind
 obtain ⟨ta, hta⟩ : ∃ t, t = z26 / z78 := ⟨_, rfl⟩
 obtain ⟨tb, htb⟩ : ∃ t, t = z47 / z80 := ⟨_, rfl⟩
 obtain ⟨tc, htc⟩ : ∃ t, t = z66 / z82 := ⟨_, rfl⟩
 have ha : ta * z78 = -z25 := by rw [hta, Rat.div_mul_cancel pABC.1, e26]
 have hb : tb * z80 = -z46 := by rw [htb, Rat.div_mul_cancel pABC.2.1, e47]
 have hc : tc * z82 = -z65 := by rw [htc, Rat.div_mul_cancel pABC.2.2, e66]
 have m : ∀ x y w : Rat, x * y / w = x * (y / w) := fun x y w => by rw [Rat.div_def, Rat.div_def, Rat.mul_assoc]
 have hS : z129 = z12 * (ta * tb + tb * tc + tc * ta) := by
  rw [e129, e127, e128, e123, e124, e125, e126, e55, e34, e56, e35, e74, e75, e53, e54, e32, e33, e72, e73, s31, s52, s71, e48, e49, e27, e28, e67, e68, m, m, m, m, m, m, ← hta, ← htb, ← htc, e17, e15, e38, e36, e57, e16, e37, e12, e10, e11, e6, e7, e8, e9]
  clear hx hz hR hP hA hB hC pABC s31 s52 s71 ha hb hc hta htb htc m n96 h96 u0 n114
  grind
 have ⟨pR, kk⟩ := simson_core (wx := z13 - z0) (wz := z14 - z1) (Sa := z25) (Sb := z46) (Sc := z65) u0 (by rw [e12, e10, e11]) hA hB hC hx hz hR hP (by rw [e25, e24, e21, e20, e22, e23, e18, e19, e17, e15, e16, e6, e7, e8, e9]; clear hx hz hR hP hA hB hC pABC s31 s52 s71 ha hb hc hta htb htc hS; grind) (by rw [e46, e45, e42, e41, e43, e44, e39, e40, e38, e36, e37, e8, e9]; clear hx hz hR hP hA hB hC pABC s31 s52 s71 ha hb hc hta htb htc hS; grind) (by rw [e65, e64, e61, e60, e62, e63, e58, e59, e57, e6, e7]; clear hx hz hR hP hA hB hC pABC s31 s52 s71 ha hb hc hta htb htc hS; grind) ha hb hc hS
 have nR : 4 * z116 ≠ 0 := mul_ne (by decide) (fun h => by rw [h] at pR; exact absurd pR (by decide))
 rw [u1, Rat.zero_mul] at kk
 have := (Rat.mul_eq_zero.1 kk.symm).resolve_left u0
 rw [e99]
 clear hx hz hR hP hA hB hC kk
 grind
theorem triangleSimson_f5 {z0 z1 z2 z3 z4 z5 z6 z7 z8 z9 z10 z11 z12 z13 z14 z15 z16 z17 z18 z19 z20 z21 z22 z23 z24 z25 z26 z27 z28 z29 z30 z31 z32 z33 z34 z35 z36 z37 z38 z39 z40 z41 z42 z43 z44 z45 z46 z47 z48 z49 z50 z51 z52 z53 z54 z55 z56 z57 z58 z59 z60 z61 z62 z63 z64 z65 z66 z67 z68 z69 z70 z71 z72 z73 z74 z75 z76 z77 z78 z79 z80 z81 z82 z83 z84 z85 z86 z87 z88 z89 z90 z91 z92 z93 z94 z95 z96 z97 z98 z99 z100 z101 z102 z103 z104 z105 z106 z107 z108 z109 z110 z111 z112 z113 z114 z115 z116 z117 z118 z119 z120 z121 z122 z123 z124 z125 z126 z127 z128 z129 : Rat} : z6 = z2 - z0 → z7 = z3 - z1 → z8 = z4 - z0 → z9 = z5 - z1 → z10 = z6 * z9 → z11 = z7 * z8 → z12 = z10 - z11 → z15 = z4 - z2 → z16 = z5 - z3 → z17 = -z16 → z18 = z17 * z2 → z19 = z15 * z3 → z20 = z18 + z19 → z21 = -z20 → z22 = z17 * z13 → z23 = z15 * z14 → z24 = z22 + z23 → z25 = z24 + z21 → z26 = -z25 → z27 = z17 * z26 → z28 = z15 * z26 → z29 = z17 * z17 → z30 = z15 * z15 → z31 = z29 + z30 → z32 = z27 / z31 → z33 = z28 / z31 → z34 = z13 + z32 → z35 = z14 + z33 → z36 = z0 - z4 → z37 = z1 - z5 → z38 = -z37 → z39 = z38 * z4 → z40 = z36 * z5 → z41 = z39 + z40 → z42 = -z41 → z43 = z38 * z13 → z44 = z36 * z14 → z45 = z43 + z44 → z46 = z45 + z42 → z47 = -z46 → z48 = z38 * z47 → z49 = z36 * z47 → z50 = z38 * z38 → z51 = z36 * z36 → z52 = z50 + z51 → z53 = z48 / z52 → z54 = z49 / z52 → z55 = z13 + z53 → z56 = z14 + z54 → z57 = -z7 → z58 = z57 * z0 → z59 = z6 * z1 → z60 = z58 + z59 → z61 = -z60 → z62 = z57 * z13 → z63 = z6 * z14 → z64 = z62 + z63 → z65 = z64 + z61 → z66 = -z65 → z67 = z57 * z66 → z68 = z6 * z66 → z69 = z57 * z57 → z70 = z6 * z6 → z71 = z69 + z70 → z72 = z67 / z71 → z73 = z68 / z71 → z74 = z13 + z72 → z75 = z14 + z73 → z76 = 4 → z77 = z16 * z16 → z78 = z30 + z77 → z79 = z37 * z37 → z80 = z51 + z79 → z81 = z7 * z7 → z82 = z70 + z81 → z83 = -z78 → z84 = z80 + z82 → z85 = z84 + z83 → z86 = z78 * z85 → z87 = -z80 → z88 = z82 + z78 → z89 = z88 + z87 → z90 = z80 * z89 → z91 = -z82 → z92 = z78 + z80 → z93 = z92 + z91 → z94 = z82 * z93 → z95 = z86 + z90 → z96 = z95 + z94 → z97 = z0 * z86 → z98 = z1 * z86 → z99 = 0 → z100 = z99 + z97 → z101 = z99 + z98 → z102 = z2 * z90 → z103 = z3 * z90 → z104 = z100 + z102 → z105 = z101 + z103 → z106 = z4 * z94 → z107 = z5 * z94 → z108 = z104 + z106 → z109 = z105 + z107 → z110 = z108 / z96 → z111 = z109 / z96 → z112 = z78 * z80 → z113 = z112 * z82 → z114 = z12 * z12 → z115 = z113 / z114 → z116 = z115 / z76 → z117 = z13 - z110 → z118 = z14 - z111 → z119 = z117 * z117 → z120 = z118 * z118 → z121 = z119 + z120 → z122 = z121 - z116 → z123 = z55 - z34 → z124 = z56 - z35 → z125 = z74 - z34 → z126 = z75 - z35 → z127 = z123 * z126 → z128 = z124 * z125 → z129 = z127 - z128 → (¬ (z12 = 0)) → (¬ (z129 = 0)) → ¬ (z122 = z99) := by
 intro e6 e7 e8 e9 e10 e11 e12 e15 e16 e17 e18 e19 e20 e21 e22 e23 e24 e25 e26 e27 e28 e29 e30 e31 e32 e33 e34 e35 e36 e37 e38 e39 e40 e41 e42 e43 e44 e45 e46 e47 e48 e49 e50 e51 e52 e53 e54 e55 e56 e57 e58 e59 e60 e61 e62 e63 e64 e65 e66 e67 e68 e69 e70 e71 e72 e73 e74 e75 e76 e77 e78 e79 e80 e81 e82 e83 e84 e85 e86 e87 e88 e89 e90 e91 e92 e93 e94 e95 e96 e97 e98 e99 e100 e101 e102 e103 e104 e105 e106 e107 e108 e109 e110 e111 e112 e113 e114 e115 e116 e117 e118 e119 e120 e121 e122 e123 e124 e125 e126 e127 e128 e129 u0 u1
 have h96 : z96 = 4 * z12 * z12 := by
  have hh := simson_den (ux := z6) (uz := z7) (vx := z8) (vz := z9) (D := z12) (A := z78) (B := z80) (C := z82) (by rw [e12, e10, e11]) (by rw [e78, e30, e77, e15, e16, e6, e7, e8, e9]; clear u0; grind) (by rw [e80, e51, e79, e36, e37, e8, e9]; clear u0; grind) (by rw [e82, e70, e81])
  rw [← hh, e96, e95, e86, e85, e84, e83, e90, e89, e88, e87, e94, e93, e92, e91]
  clear hh
  grind
 have n96 : z96 ≠ 0 := by rw [h96]; exact mul_ne (mul_ne (by decide) u0) u0
 have hA : z78 = (z8 - z6) * (z8 - z6) + (z9 - z7) * (z9 - z7) := (by rw [e78, e30, e77, e15, e16, e6, e7, e8, e9]; clear u0; grind)
 have hB : z80 = z8 * z8 + z9 * z9 := (by rw [e80, e51, e79, e36, e37, e8, e9]; clear u0; grind)
 have hC : z82 = z6 * z6 + z7 * z7 := (by rw [e82, e70, e81])
 have n114 : z114 ≠ 0 := by rw [e114]; exact mul_ne u0 u0
 have hR : z116 * (4 * z12 * z12) = z78 * z80 * z82 := by
  have h1 : z116 * z76 = z115 := by rw [e116]; exact Rat.div_mul_cancel (by rw [e76]; decide)
  have h2 : z115 * z114 = z113 := by rw [e115]; exact Rat.div_mul_cancel n114
  rw [e113, e112] at h2
  rw [← h2, ← h1, e114, e76]
  clear h1 h2 n114 hA hB hC n96 h96 u0
  grind
 have hx : (z110 - z0) * (4 * z12 * z12) = z6 * (z80 * (z82 + z78 - z80)) + z8 * (z82 * (z78 + z80 - z82)) := by
  have h1 : z110 * z96 = z108 := by rw [e110]; exact Rat.div_mul_cancel n96
  have h2 : (z110 - z0) * z96 = z108 - z0 * z96 := by rw [← h1]; clear h1 hR hA hB hC n96 h96 u0; grind
  rw [← h96, h2, e108, e104, e100, e99, e97, e102, e106, e96, e95, e86, e85, e84, e83, e90, e89, e88, e87, e94, e93, e92, e91, e6, e8]
  clear h1 h2 hR hA hB hC n96 h96 u0 n114
  grind
 have hz : (z111 - z1) * (4 * z12 * z12) = z7 * (z80 * (z82 + z78 - z80)) + z9 * (z82 * (z78 + z80 - z82)) := by
  have h1 : z111 * z96 = z109 := by rw [e111]; exact Rat.div_mul_cancel n96
  have h2 : (z111 - z1) * z96 = z109 - z1 * z96 := by rw [← h1]; clear h1 hR hA hB hC n96 h96 u0; grind
  rw [← h96, h2, e109, e105, e101, e99, e98, e103, e107, e96, e95, e86, e85, e84, e83, e90, e89, e88, e87, e94, e93, e92, e91, e7, e9]
  clear h1 h2 hx hR hA hB hC n96 h96 u0 n114
  grind
 have hP : z122 = (((z13 - z0) - (z110 - z0)) * ((z13 - z0) - (z110 - z0)) + ((z14 - z1) - (z111 - z1)) * ((z14 - z1) - (z111 - z1))) - z116 := by
  rw [e122, e121, e119, e120, e117, e118]
  clear hx hz hR hA hB hC n96 h96 u0 n114
  grind
 have pABC : z78 ≠ 0 ∧ z80 ≠ 0 ∧ z82 ≠ 0 := by
  refine ⟨fun h => ?_, fun h => ?_, fun h => ?_⟩ <;> refine mul_ne (mul_ne (by decide) u0) u0 (?_ : 4 * z12 * z12 = 0)
  ·have hs := sq_pos (x := z8 - z6) (y := z9 - z7) (fun g => u0 (by have x1 : z8 = z6 := (by have := g.1; clear hx hz hR hP hA hB hC; grind); have x2 : z9 = z7 := (by have := g.2; clear hx hz hR hP hA hB hC; grind); rw [e12, e10, e11, x1, x2]; clear hx hz hR hP hA hB hC; grind))
   rw [← hA, h] at hs; exact absurd hs (by decide)
  ·have hs := sq_pos (x := z8) (y := z9) (fun g => u0 (by rw [e12, e10, e11, g.1, g.2]; clear hx hz hR hP hA hB hC; grind))
   rw [← hB, h] at hs; exact absurd hs (by decide)
  ·have hs := sq_pos (x := z6) (y := z7) (fun g => u0 (by rw [e12, e10, e11, g.1, g.2]; clear hx hz hR hP hA hB hC; grind))
   rw [← hC, h] at hs; exact absurd hs (by decide)
 have s31 : z31 = z78 := by rw [e31, e29, e17, e78, e77]; clear hx hz hR hP hA hB hC pABC; grind
 have s52 : z52 = z80 := by rw [e52, e50, e38, e80, e79]; clear hx hz hR hP hA hB hC pABC; grind
 have s71 : z71 = z82 := by rw [e71, e69, e57, e82, e81]; clear hx hz hR hP hA hB hC pABC; grind
 obtain ⟨ta, hta⟩ : ∃ t, t = z26 / z78 := ⟨_, rfl⟩
 obtain ⟨tb, htb⟩ : ∃ t, t = z47 / z80 := ⟨_, rfl⟩
 obtain ⟨tc, htc⟩ : ∃ t, t = z66 / z82 := ⟨_, rfl⟩
 have ha : ta * z78 = -z25 := by rw [hta, Rat.div_mul_cancel pABC.1, e26]
 have hb : tb * z80 = -z46 := by rw [htb, Rat.div_mul_cancel pABC.2.1, e47]
 have hc : tc * z82 = -z65 := by rw [htc, Rat.div_mul_cancel pABC.2.2, e66]
 have m : ∀ x y w : Rat, x * y / w = x * (y / w) := fun x y w => by rw [Rat.div_def, Rat.div_def, Rat.mul_assoc]
 have hS : z129 = z12 * (ta * tb + tb * tc + tc * ta) := by
  rw [e129, e127, e128, e123, e124, e125, e126, e55, e34, e56, e35, e74, e75, e53, e54, e32, e33, e72, e73, s31, s52, s71, e48, e49, e27, e28, e67, e68, m, m, m, m, m, m, ← hta, ← htb, ← htc, e17, e15, e38, e36, e57, e16, e37, e12, e10, e11, e6, e7, e8, e9]
  clear hx hz hR hP hA hB hC pABC s31 s52 s71 ha hb hc hta htb htc m n96 h96 u0 n114
  grind
 have ⟨pR, kk⟩ := simson_core (wx := z13 - z0) (wz := z14 - z1) (Sa := z25) (Sb := z46) (Sc := z65) u0 (by rw [e12, e10, e11]) hA hB hC hx hz hR hP (by rw [e25, e24, e21, e20, e22, e23, e18, e19, e17, e15, e16, e6, e7, e8, e9]; clear hx hz hR hP hA hB hC pABC s31 s52 s71 ha hb hc hta htb htc hS; grind) (by rw [e46, e45, e42, e41, e43, e44, e39, e40, e38, e36, e37, e8, e9]; clear hx hz hR hP hA hB hC pABC s31 s52 s71 ha hb hc hta htb htc hS; grind) (by rw [e65, e64, e61, e60, e62, e63, e58, e59, e57, e6, e7]; clear hx hz hR hP hA hB hC pABC s31 s52 s71 ha hb hc hta htb htc hS; grind) ha hb hc hS
 have nR : 4 * z116 ≠ 0 := mul_ne (by decide) (fun h => by rw [h] at pR; exact absurd pR (by decide))
 intro h
 rw [h, e99] at kk
 exact u1 ((Rat.mul_eq_zero.1 (kk.trans (by clear hx hz hR hP hA hB hC kk; grind))).resolve_right nR)
theorem triangleSimson_r0 : (callB (sx Tryz.prog triangleSimson_N [(0, 12, 0, 1)] [] triangleSimson_L triangleSimson_C triangleSimson_Z (prC [106])) 5 16 [(false, [(true, [.inr (2, 0, 0, 0, 0), .inr (2, 1, 0, 0, 0), .inr (2, 2, 0, 0, 0), .inr (2, 3, 0, 0, 0), .inr (2, 4, 0, 0, 0), .inr (2, 5, 0, 0, 0)])]), (false, [(true, [.inr (2, 6, 0, 0, 0), .inr (2, 7, 0, 0, 0)])])] [] 0).map (·.1) = some (kB true) := by kernel_rfl
theorem triangleSimson_r1 : (callB (sx Tryz.prog triangleSimson_N [(0, 12, 0, 0), (0, 96, 0, 0), (2, 116, 0, 1), (3, 129, 133, 1), (0, 129, 0, 1), (4, 122, 99, 1)] [(171, []), (217, [.inr (3, 57, 0, 0, 0)]), (223, []), (365, []), (366, []), (305, [])] triangleSimson_L triangleSimson_C triangleSimson_Z (prC [106])) 8 16 [(false, [(true, [.inr (2, 0, 0, 0, 0), .inr (2, 1, 0, 0, 0), .inr (2, 2, 0, 0, 0), .inr (2, 3, 0, 0, 0), .inr (2, 4, 0, 0, 0), .inr (2, 5, 0, 0, 0)])]), (false, [(true, [.inr (2, 6, 0, 0, 0), .inr (2, 7, 0, 0, 0)])])] [] 0).map (·.1) = some (kB true) := by kernel_rfl
theorem triangleSimson_r2 : (callB (sx Tryz.prog triangleSimson_N [(0, 12, 0, 0), (0, 96, 0, 0), (2, 116, 0, 1), (3, 129, 133, 1), (0, 129, 0, 0), (4, 122, 99, 0)] [(171, []), (217, [.inr (3, 57, 0, 0, 0)]), (223, []), (365, []), (366, []), (305, [])] triangleSimson_L triangleSimson_C triangleSimson_Z (prC [106])) 8 16 [(false, [(true, [.inr (2, 0, 0, 0, 0), .inr (2, 1, 0, 0, 0), .inr (2, 2, 0, 0, 0), .inr (2, 3, 0, 0, 0), .inr (2, 4, 0, 0, 0), .inr (2, 5, 0, 0, 0)])]), (false, [(true, [.inr (2, 6, 0, 0, 0), .inr (2, 7, 0, 0, 0)])])] [] 0).map (·.1) = some (kB true) := by kernel_rfl
theorem triangleSimson_walk {w : World} {tax taz tbx tbz tcx tcz vx vz : ByteArray} (stax : tax.size ≤ 1048576) (staz : taz.size ≤ 1048576) (stbx : tbx.size ≤ 1048576) (stbz : tbz.size ≤ 1048576) (stcx : tcx.size ≤ 1048576) (stcz : tcz.size ≤ 1048576) (svx : vx.size ≤ 1048576) (svz : vz.size ≤ 1048576) (tab : Tab w) (mx : MaxL w) :
  Calls Tryz.prog 16 #[.agg #[.string tax, .string taz, .string tbx, .string tbz, .string tcx, .string tcz], .agg #[.string vx, .string vz]] w fun e w' => Below w.heap.size w w' ∧ e = .returned (.bool true) := by
 have hσ : ∀ j, (sgOf [tax, taz, tbx, tbz, tcx, tcz, vx, vz] j).size ≤ 1048576 := sgOf_size (by simp [stax, staz, stbx, stbz, stcx, stcz, svx, svz])
 have hcl : ∀ f ∈ ([106] : List FuncId), Closed f := by simp [closed_cornered]
 obtain ⟨q, hq, h0⟩ := nodes_exist (sgOf [tax, taz, tbx, tbz, tcx, tcz, vx, vz]) triangleSimson_N triangleSimson_wf
 have hA : ∀ K, A2 (avOn (cOn (evS q (sgOf [tax, taz, tbx, tbz, tcx, tcz, vx, vz])) K (fun _ => none) w)) [(false, [(true, [.inr (2, 0, 0, 0, 0), .inr (2, 1, 0, 0, 0), .inr (2, 2, 0, 0, 0), .inr (2, 3, 0, 0, 0), .inr (2, 4, 0, 0, 0), .inr (2, 5, 0, 0, 0)])]), (false, [(true, [.inr (2, 6, 0, 0, 0), .inr (2, 7, 0, 0, 0)])])] [.agg #[.string tax, .string taz, .string tbx, .string tbz, .string tcx, .string tcz], .agg #[.string vx, .string vz]] := fun K => ⟨⟨⟨[.string tax, .string taz, .string tbx, .string tbz, .string tcx, .string tcz], rfl, rfl, rfl, rfl, rfl, rfl, rfl, trivial⟩, trivial⟩, ⟨⟨[.string vx, .string vz], rfl, rfl, rfl, trivial⟩, trivial⟩, trivial⟩
 have E6 : q 6 = q 2 - q 0 := hq 6 _ rfl
 have E7 : q 7 = q 3 - q 1 := hq 7 _ rfl
 have E8 : q 8 = q 4 - q 0 := hq 8 _ rfl
 have E9 : q 9 = q 5 - q 1 := hq 9 _ rfl
 have E10 : q 10 = q 6 * q 9 := hq 10 _ rfl
 have E11 : q 11 = q 7 * q 8 := hq 11 _ rfl
 have E12 : q 12 = q 10 - q 11 := hq 12 _ rfl
 have E15 : q 15 = q 4 - q 2 := hq 15 _ rfl
 have E16 : q 16 = q 5 - q 3 := hq 16 _ rfl
 have E17 : q 17 = -q 16 := hq 17 _ rfl
 have E18 : q 18 = q 17 * q 2 := hq 18 _ rfl
 have E19 : q 19 = q 15 * q 3 := hq 19 _ rfl
 have E20 : q 20 = q 18 + q 19 := hq 20 _ rfl
 have E21 : q 21 = -q 20 := hq 21 _ rfl
 have E22 : q 22 = q 17 * q 13 := hq 22 _ rfl
 have E23 : q 23 = q 15 * q 14 := hq 23 _ rfl
 have E24 : q 24 = q 22 + q 23 := hq 24 _ rfl
 have E25 : q 25 = q 24 + q 21 := hq 25 _ rfl
 have E26 : q 26 = -q 25 := hq 26 _ rfl
 have E27 : q 27 = q 17 * q 26 := hq 27 _ rfl
 have E28 : q 28 = q 15 * q 26 := hq 28 _ rfl
 have E29 : q 29 = q 17 * q 17 := hq 29 _ rfl
 have E30 : q 30 = q 15 * q 15 := hq 30 _ rfl
 have E31 : q 31 = q 29 + q 30 := hq 31 _ rfl
 have E32 : q 32 = q 27 / q 31 := hq 32 _ rfl
 have E33 : q 33 = q 28 / q 31 := hq 33 _ rfl
 have E34 : q 34 = q 13 + q 32 := hq 34 _ rfl
 have E35 : q 35 = q 14 + q 33 := hq 35 _ rfl
 have E36 : q 36 = q 0 - q 4 := hq 36 _ rfl
 have E37 : q 37 = q 1 - q 5 := hq 37 _ rfl
 have E38 : q 38 = -q 37 := hq 38 _ rfl
 have E39 : q 39 = q 38 * q 4 := hq 39 _ rfl
 have E40 : q 40 = q 36 * q 5 := hq 40 _ rfl
 have E41 : q 41 = q 39 + q 40 := hq 41 _ rfl
 have E42 : q 42 = -q 41 := hq 42 _ rfl
 have E43 : q 43 = q 38 * q 13 := hq 43 _ rfl
 have E44 : q 44 = q 36 * q 14 := hq 44 _ rfl
 have E45 : q 45 = q 43 + q 44 := hq 45 _ rfl
 have E46 : q 46 = q 45 + q 42 := hq 46 _ rfl
 have E47 : q 47 = -q 46 := hq 47 _ rfl
 have E48 : q 48 = q 38 * q 47 := hq 48 _ rfl
 have E49 : q 49 = q 36 * q 47 := hq 49 _ rfl
 have E50 : q 50 = q 38 * q 38 := hq 50 _ rfl
 have E51 : q 51 = q 36 * q 36 := hq 51 _ rfl
 have E52 : q 52 = q 50 + q 51 := hq 52 _ rfl
 have E53 : q 53 = q 48 / q 52 := hq 53 _ rfl
 have E54 : q 54 = q 49 / q 52 := hq 54 _ rfl
 have E55 : q 55 = q 13 + q 53 := hq 55 _ rfl
 have E56 : q 56 = q 14 + q 54 := hq 56 _ rfl
 have E57 : q 57 = -q 7 := hq 57 _ rfl
 have E58 : q 58 = q 57 * q 0 := hq 58 _ rfl
 have E59 : q 59 = q 6 * q 1 := hq 59 _ rfl
 have E60 : q 60 = q 58 + q 59 := hq 60 _ rfl
 have E61 : q 61 = -q 60 := hq 61 _ rfl
 have E62 : q 62 = q 57 * q 13 := hq 62 _ rfl
 have E63 : q 63 = q 6 * q 14 := hq 63 _ rfl
 have E64 : q 64 = q 62 + q 63 := hq 64 _ rfl
 have E65 : q 65 = q 64 + q 61 := hq 65 _ rfl
 have E66 : q 66 = -q 65 := hq 66 _ rfl
 have E67 : q 67 = q 57 * q 66 := hq 67 _ rfl
 have E68 : q 68 = q 6 * q 66 := hq 68 _ rfl
 have E69 : q 69 = q 57 * q 57 := hq 69 _ rfl
 have E70 : q 70 = q 6 * q 6 := hq 70 _ rfl
 have E71 : q 71 = q 69 + q 70 := hq 71 _ rfl
 have E72 : q 72 = q 67 / q 71 := hq 72 _ rfl
 have E73 : q 73 = q 68 / q 71 := hq 73 _ rfl
 have E74 : q 74 = q 13 + q 72 := hq 74 _ rfl
 have E75 : q 75 = q 14 + q 73 := hq 75 _ rfl
 have E76 : q 76 = 4 := (hq 76 _ rfl).trans triangleSimson_c76
 have E77 : q 77 = q 16 * q 16 := hq 77 _ rfl
 have E78 : q 78 = q 30 + q 77 := hq 78 _ rfl
 have E79 : q 79 = q 37 * q 37 := hq 79 _ rfl
 have E80 : q 80 = q 51 + q 79 := hq 80 _ rfl
 have E81 : q 81 = q 7 * q 7 := hq 81 _ rfl
 have E82 : q 82 = q 70 + q 81 := hq 82 _ rfl
 have E83 : q 83 = -q 78 := hq 83 _ rfl
 have E84 : q 84 = q 80 + q 82 := hq 84 _ rfl
 have E85 : q 85 = q 84 + q 83 := hq 85 _ rfl
 have E86 : q 86 = q 78 * q 85 := hq 86 _ rfl
 have E87 : q 87 = -q 80 := hq 87 _ rfl
 have E88 : q 88 = q 82 + q 78 := hq 88 _ rfl
 have E89 : q 89 = q 88 + q 87 := hq 89 _ rfl
 have E90 : q 90 = q 80 * q 89 := hq 90 _ rfl
 have E91 : q 91 = -q 82 := hq 91 _ rfl
 have E92 : q 92 = q 78 + q 80 := hq 92 _ rfl
 have E93 : q 93 = q 92 + q 91 := hq 93 _ rfl
 have E94 : q 94 = q 82 * q 93 := hq 94 _ rfl
 have E95 : q 95 = q 86 + q 90 := hq 95 _ rfl
 have E96 : q 96 = q 95 + q 94 := hq 96 _ rfl
 have E97 : q 97 = q 0 * q 86 := hq 97 _ rfl
 have E98 : q 98 = q 1 * q 86 := hq 98 _ rfl
 have E99 : q 99 = 0 := (hq 99 _ rfl).trans triangleSimson_c99
 have E100 : q 100 = q 99 + q 97 := hq 100 _ rfl
 have E101 : q 101 = q 99 + q 98 := hq 101 _ rfl
 have E102 : q 102 = q 2 * q 90 := hq 102 _ rfl
 have E103 : q 103 = q 3 * q 90 := hq 103 _ rfl
 have E104 : q 104 = q 100 + q 102 := hq 104 _ rfl
 have E105 : q 105 = q 101 + q 103 := hq 105 _ rfl
 have E106 : q 106 = q 4 * q 94 := hq 106 _ rfl
 have E107 : q 107 = q 5 * q 94 := hq 107 _ rfl
 have E108 : q 108 = q 104 + q 106 := hq 108 _ rfl
 have E109 : q 109 = q 105 + q 107 := hq 109 _ rfl
 have E110 : q 110 = q 108 / q 96 := hq 110 _ rfl
 have E111 : q 111 = q 109 / q 96 := hq 111 _ rfl
 have E112 : q 112 = q 78 * q 80 := hq 112 _ rfl
 have E113 : q 113 = q 112 * q 82 := hq 113 _ rfl
 have E114 : q 114 = q 12 * q 12 := hq 114 _ rfl
 have E115 : q 115 = q 113 / q 114 := hq 115 _ rfl
 have E116 : q 116 = q 115 / q 76 := hq 116 _ rfl
 have E117 : q 117 = q 13 - q 110 := hq 117 _ rfl
 have E118 : q 118 = q 14 - q 111 := hq 118 _ rfl
 have E119 : q 119 = q 117 * q 117 := hq 119 _ rfl
 have E120 : q 120 = q 118 * q 118 := hq 120 _ rfl
 have E121 : q 121 = q 119 + q 120 := hq 121 _ rfl
 have E122 : q 122 = q 121 - q 116 := hq 122 _ rfl
 have E123 : q 123 = q 55 - q 34 := hq 123 _ rfl
 have E124 : q 124 = q 56 - q 35 := hq 124 _ rfl
 have E125 : q 125 = q 74 - q 34 := hq 125 _ rfl
 have E126 : q 126 = q 75 - q 35 := hq 126 _ rfl
 have E127 : q 127 = q 123 * q 126 := hq 127 _ rfl
 have E128 : q 128 = q 124 * q 125 := hq 128 _ rfl
 have E129 : q 129 = q 127 - q 128 := hq 129 _ rfl
 have E130 : q 130 = -q 122 := hq 130 _ rfl
 have E131 : q 131 = q 12 * q 130 := hq 131 _ rfl
 have E132 : q 132 = q 76 * q 116 := hq 132 _ rfl
 have E133 : q 133 = q 131 / q 132 := hq 133 _ rfl
 by_cases a_0_12_0 : q 12 = 0
 ·
  exact run_told' 5 (hy_of (H := [(0, 12, 0, 1)]) hσ triangleSimson_wf triangleSimson_sz triangleSimson_lt triangleSimson_cn hq h0 (And.intro (hT a_0_12_0) trivial)) hcl (by kernel_rfl) triangleSimson_r0 ⟨tab, mx⟩ (hA _)
 ·
  have a_0_96_0 : ¬ (q 96 = 0) := triangleSimson_f1 E6 E7 E8 E9 E10 E11 E12 E15 E16 E30 E36 E37 E51 E70 E77 E78 E79 E80 E81 E82 E83 E84 E85 E86 E87 E88 E89 E90 E91 E92 E93 E94 E95 E96 a_0_12_0
  have a_2_116_0 : 0 < q 116 := triangleSimson_f2 E6 E7 E8 E9 E10 E11 E12 E15 E16 E30 E36 E37 E51 E70 E76 E77 E78 E79 E80 E81 E82 E112 E113 E114 E115 E116 a_0_12_0
  have a_3_129_133 : q 129 = q 133 := triangleSimson_f3 E6 E7 E8 E9 E10 E11 E12 E15 E16 E17 E18 E19 E20 E21 E22 E23 E24 E25 E26 E27 E28 E29 E30 E31 E32 E33 E34 E35 E36 E37 E38 E39 E40 E41 E42 E43 E44 E45 E46 E47 E48 E49 E50 E51 E52 E53 E54 E55 E56 E57 E58 E59 E60 E61 E62 E63 E64 E65 E66 E67 E68 E69 E70 E71 E72 E73 E74 E75 E76 E77 E78 E79 E80 E81 E82 E83 E84 E85 E86 E87 E88 E89 E90 E91 E92 E93 E94 E95 E96 E97 E98 E99 E100 E101 E102 E103 E104 E105 E106 E107 E108 E109 E110 E111 E112 E113 E114 E115 E116 E117 E118 E119 E120 E121 E122 E123 E124 E125 E126 E127 E128 E129 E130 E131 E132 E133 a_0_12_0
  by_cases a_0_129_0 : q 129 = 0
  ·
   have a_4_122_99 : q 122 = q 99 := triangleSimson_f4 E6 E7 E8 E9 E10 E11 E12 E15 E16 E17 E18 E19 E20 E21 E22 E23 E24 E25 E26 E27 E28 E29 E30 E31 E32 E33 E34 E35 E36 E37 E38 E39 E40 E41 E42 E43 E44 E45 E46 E47 E48 E49 E50 E51 E52 E53 E54 E55 E56 E57 E58 E59 E60 E61 E62 E63 E64 E65 E66 E67 E68 E69 E70 E71 E72 E73 E74 E75 E76 E77 E78 E79 E80 E81 E82 E83 E84 E85 E86 E87 E88 E89 E90 E91 E92 E93 E94 E95 E96 E97 E98 E99 E100 E101 E102 E103 E104 E105 E106 E107 E108 E109 E110 E111 E112 E113 E114 E115 E116 E117 E118 E119 E120 E121 E122 E123 E124 E125 E126 E127 E128 E129 a_0_12_0 a_0_129_0
   exact run_told' 8 (hy_of (H := [(0, 12, 0, 0), (0, 96, 0, 0), (2, 116, 0, 1), (3, 129, 133, 1), (0, 129, 0, 1), (4, 122, 99, 1)]) hσ triangleSimson_wf triangleSimson_sz triangleSimson_lt triangleSimson_cn hq h0 (And.intro (hF a_0_12_0) (And.intro (hF a_0_96_0) (And.intro (hT a_2_116_0) (And.intro (hT a_3_129_133) (And.intro (hT a_0_129_0) (And.intro (hT a_4_122_99) trivial))))))) hcl (by kernel_rfl) triangleSimson_r1 ⟨tab, mx⟩ (hA _)
  ·
   have a_4_122_99 : ¬ (q 122 = q 99) := triangleSimson_f5 E6 E7 E8 E9 E10 E11 E12 E15 E16 E17 E18 E19 E20 E21 E22 E23 E24 E25 E26 E27 E28 E29 E30 E31 E32 E33 E34 E35 E36 E37 E38 E39 E40 E41 E42 E43 E44 E45 E46 E47 E48 E49 E50 E51 E52 E53 E54 E55 E56 E57 E58 E59 E60 E61 E62 E63 E64 E65 E66 E67 E68 E69 E70 E71 E72 E73 E74 E75 E76 E77 E78 E79 E80 E81 E82 E83 E84 E85 E86 E87 E88 E89 E90 E91 E92 E93 E94 E95 E96 E97 E98 E99 E100 E101 E102 E103 E104 E105 E106 E107 E108 E109 E110 E111 E112 E113 E114 E115 E116 E117 E118 E119 E120 E121 E122 E123 E124 E125 E126 E127 E128 E129 a_0_12_0 a_0_129_0
   exact run_told' 8 (hy_of (H := [(0, 12, 0, 0), (0, 96, 0, 0), (2, 116, 0, 1), (3, 129, 133, 1), (0, 129, 0, 0), (4, 122, 99, 0)]) hσ triangleSimson_wf triangleSimson_sz triangleSimson_lt triangleSimson_cn hq h0 (And.intro (hF a_0_12_0) (And.intro (hF a_0_96_0) (And.intro (hT a_2_116_0) (And.intro (hT a_3_129_133) (And.intro (hF a_0_129_0) (And.intro (hF a_4_122_99) trivial))))))) hcl (by kernel_rfl) triangleSimson_r2 ⟨tab, mx⟩ (hA _)
end Go.Proofs.YtioacnhbiinjbaaGreatDoor
