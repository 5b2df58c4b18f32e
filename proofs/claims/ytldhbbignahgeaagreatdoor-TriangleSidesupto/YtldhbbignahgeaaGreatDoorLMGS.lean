/- Part 13 of the walks and of the mathematics under them: MGS. -/
import Derived.Test.YtldhbbignahgeaaGreatDoorA12
set_option maxHeartbeats 16000000
set_option maxRecDepth 100000
/- MGS -/
namespace Go.Proofs.YtldhbbignahgeaaGreatDoor
open Go.RowKit Cx
def triangleSides_N : List Nd := [(1, [0]), (1, [1]), (1, [2]), (1, [3]), (1, [4]), (1, [5]), (3, [2, 0]), (3, [3, 1]), (3, [4, 0]), (3, [5, 1]), (4, [6, 9]), (4, [7, 8]), (3, [10, 11]), (3, [4, 2]), (3, [5, 3]), (4, [13, 13]), (4, [14, 14]), (2, [15, 16]), (3, [0, 4]), (3, [1, 5]), (4, [18, 18]), (4, [19, 19]), (2, [20, 21]), (4, [6, 6]), (4, [7, 7]), (2, [23, 24]), (3, [2, 4]), (3, [3, 5]), (4, [26, 26]), (4, [27, 27]), (2, [28, 29]), (4, [8, 8]), (4, [9, 9]), (2, [31, 32]), (3, [0, 2]), (3, [1, 3]), (4, [34, 34]), (4, [35, 35]), (2, [36, 37])]
def triangleSides_L : List (List Nat × Nat) := []
def triangleSides_C : List (List Nat × Nat) := []
def triangleSides_Z : List Nat := [4194309, 4194309, 4194309, 4194309, 4194309, 4194309, 8388619, 8388619, 8388619, 8388619, 16777238, 16777238, 33554477, 8388619, 8388619, 16777238, 16777238, 33554477, 8388619, 8388619, 16777238, 16777238, 33554477, 16777238, 16777238, 33554477, 8388619, 8388619, 16777238, 16777238, 33554477, 16777238, 16777238, 33554477, 8388619, 8388619, 16777238, 16777238, 33554477]
theorem triangleSides_wf : wfB 0 triangleSides_N = true := by kernel_rfl
theorem triangleSides_sz : szB triangleSides_Z triangleSides_N triangleSides_Z = true := by kernel_rfl
theorem triangleSides_lt : litB triangleSides_N triangleSides_L = true := by kernel_rfl
theorem triangleSides_cn : canB triangleSides_N triangleSides_C = true := by kernel_rfl
theorem triangleSides_f0 (z0 z1 z2 z3 z4 z5 z6 z7 z8 z9 z10 z11 z12 z13 z14 z15 z16 z17 z26 z27 z28 z29 z30 : Rat) : z6 = z2 - z0 → z7 = z3 - z1 → z8 = z4 - z0 → z9 = z5 - z1 → z10 = z6 * z9 → z11 = z7 * z8 → z12 = z10 - z11 → z13 = z4 - z2 → z14 = z5 - z3 → z15 = z13 * z13 → z16 = z14 * z14 → z17 = z15 + z16 → z26 = z2 - z4 → z27 = z3 - z5 → z28 = z26 * z26 → z29 = z27 * z27 → z30 = z28 + z29 → (¬ (z12 = 0)) → z17 = z30 := by
  intro e6 e7 e8 e9 e10 e11 e12 e13 e14 e15 e16 e17 e26 e27 e28 e29 e30 u0
  subst_vars; grind
theorem triangleSides_f1 (z0 z1 z2 z3 z4 z5 z6 z7 z8 z9 z10 z11 z12 z18 z19 z20 z21 z22 z31 z32 z33 : Rat) : z6 = z2 - z0 → z7 = z3 - z1 → z8 = z4 - z0 → z9 = z5 - z1 → z10 = z6 * z9 → z11 = z7 * z8 → z12 = z10 - z11 → z18 = z0 - z4 → z19 = z1 - z5 → z20 = z18 * z18 → z21 = z19 * z19 → z22 = z20 + z21 → z31 = z8 * z8 → z32 = z9 * z9 → z33 = z31 + z32 → (¬ (z12 = 0)) → z22 = z33 := by
  intro e6 e7 e8 e9 e10 e11 e12 e18 e19 e20 e21 e22 e31 e32 e33 u0
  subst_vars; grind
theorem triangleSides_f2 (z0 z1 z2 z3 z4 z5 z6 z7 z8 z9 z10 z11 z12 z23 z24 z25 z34 z35 z36 z37 z38 : Rat) : z6 = z2 - z0 → z7 = z3 - z1 → z8 = z4 - z0 → z9 = z5 - z1 → z10 = z6 * z9 → z11 = z7 * z8 → z12 = z10 - z11 → z23 = z6 * z6 → z24 = z7 * z7 → z25 = z23 + z24 → z34 = z0 - z2 → z35 = z1 - z3 → z36 = z34 * z34 → z37 = z35 * z35 → z38 = z36 + z37 → (¬ (z12 = 0)) → z25 = z38 := by
  intro e6 e7 e8 e9 e10 e11 e12 e23 e24 e25 e34 e35 e36 e37 e38 u0
  subst_vars; grind
theorem triangleSides_r0 : (callB (sx Tryz.prog triangleSides_N [(0, 12, 0, 1)] [(110, [])] triangleSides_L triangleSides_C triangleSides_Z (prC [25])) 7 3 [(false, [(true, [.inr (2, 0, 0, 0, 0), .inr (2, 1, 0, 0, 0), .inr (2, 2, 0, 0, 0), .inr (2, 3, 0, 0, 0), .inr (2, 4, 0, 0, 0), .inr (2, 5, 0, 0, 0)])])] [] 0).map (·.1) = some (kB true) := by kernel_rfl
theorem triangleSides_r1 : (callB (sx Tryz.prog triangleSides_N [(0, 12, 0, 0), (3, 17, 30, 1), (3, 22, 33, 1), (3, 25, 38, 1)] [(110, []), (184, []), (102, [])] triangleSides_L triangleSides_C triangleSides_Z (prC [25])) 7 3 [(false, [(true, [.inr (2, 0, 0, 0, 0), .inr (2, 1, 0, 0, 0), .inr (2, 2, 0, 0, 0), .inr (2, 3, 0, 0, 0), .inr (2, 4, 0, 0, 0), .inr (2, 5, 0, 0, 0)])])] [] 0).map (·.1) = some (kB true) := by kernel_rfl
theorem triangleSides_walk {w : World} {tax taz tbx tbz tcx tcz : ByteArray} (stax : tax.size ≤ 1048576) (staz : taz.size ≤ 1048576) (stbx : tbx.size ≤ 1048576) (stbz : tbz.size ≤ 1048576) (stcx : tcx.size ≤ 1048576) (stcz : tcz.size ≤ 1048576) (tab : Tab w) (mx : MaxL w) :
    Calls Tryz.prog 3 #[.agg #[.string tax, .string taz, .string tbx, .string tbz, .string tcx, .string tcz]] w fun e w' => Below w.heap.size w w' ∧ e = .returned (.bool true) := by
  have hσ : ∀ j, (sgOf [tax, taz, tbx, tbz, tcx, tcz] j).size ≤ 1048576 := sgOf_size (by simp [stax, staz, stbx, stbz, stcx, stcz])
  have hcl : ∀ f ∈ ([25] : List FuncId), Closed f := by simp [closed_cornered]
  obtain ⟨q, hq, h0⟩ := nodes_exist (sgOf [tax, taz, tbx, tbz, tcx, tcz]) triangleSides_N triangleSides_wf
  have hA : ∀ K, A2 (avOn (cOn (evS q (sgOf [tax, taz, tbx, tbz, tcx, tcz])) K (fun _ => none) w)) [(false, [(true, [.inr (2, 0, 0, 0, 0), .inr (2, 1, 0, 0, 0), .inr (2, 2, 0, 0, 0), .inr (2, 3, 0, 0, 0), .inr (2, 4, 0, 0, 0), .inr (2, 5, 0, 0, 0)])])] [.agg #[.string tax, .string taz, .string tbx, .string tbz, .string tcx, .string tcz]] := fun K => ⟨⟨⟨[.string tax, .string taz, .string tbx, .string tbz, .string tcx, .string tcz], rfl, rfl, rfl, rfl, rfl, rfl, rfl, trivial⟩, trivial⟩, trivial⟩
  by_cases a_0_12_0 : q 12 = 0
  ·
    exact run_told' 7 (hy_of (H := [(0, 12, 0, 1)]) hσ triangleSides_wf triangleSides_sz triangleSides_lt triangleSides_cn hq h0 (And.intro (hT a_0_12_0) trivial)) hcl (by kernel_rfl) triangleSides_r0 ⟨tab, mx⟩ (hA _)
  ·
    have a_3_17_30 : q 17 = q 30 := triangleSides_f0 (q 0) (q 1) (q 2) (q 3) (q 4) (q 5) (q 6) (q 7) (q 8) (q 9) (q 10) (q 11) (q 12) (q 13) (q 14) (q 15) (q 16) (q 17) (q 26) (q 27) (q 28) (q 29) (q 30) (hq 6 _ rfl) (hq 7 _ rfl) (hq 8 _ rfl) (hq 9 _ rfl) (hq 10 _ rfl) (hq 11 _ rfl) (hq 12 _ rfl) (hq 13 _ rfl) (hq 14 _ rfl) (hq 15 _ rfl) (hq 16 _ rfl) (hq 17 _ rfl) (hq 26 _ rfl) (hq 27 _ rfl) (hq 28 _ rfl) (hq 29 _ rfl) (hq 30 _ rfl) a_0_12_0
    have a_3_22_33 : q 22 = q 33 := triangleSides_f1 (q 0) (q 1) (q 2) (q 3) (q 4) (q 5) (q 6) (q 7) (q 8) (q 9) (q 10) (q 11) (q 12) (q 18) (q 19) (q 20) (q 21) (q 22) (q 31) (q 32) (q 33) (hq 6 _ rfl) (hq 7 _ rfl) (hq 8 _ rfl) (hq 9 _ rfl) (hq 10 _ rfl) (hq 11 _ rfl) (hq 12 _ rfl) (hq 18 _ rfl) (hq 19 _ rfl) (hq 20 _ rfl) (hq 21 _ rfl) (hq 22 _ rfl) (hq 31 _ rfl) (hq 32 _ rfl) (hq 33 _ rfl) a_0_12_0
    have a_3_25_38 : q 25 = q 38 := triangleSides_f2 (q 0) (q 1) (q 2) (q 3) (q 4) (q 5) (q 6) (q 7) (q 8) (q 9) (q 10) (q 11) (q 12) (q 23) (q 24) (q 25) (q 34) (q 35) (q 36) (q 37) (q 38) (hq 6 _ rfl) (hq 7 _ rfl) (hq 8 _ rfl) (hq 9 _ rfl) (hq 10 _ rfl) (hq 11 _ rfl) (hq 12 _ rfl) (hq 23 _ rfl) (hq 24 _ rfl) (hq 25 _ rfl) (hq 34 _ rfl) (hq 35 _ rfl) (hq 36 _ rfl) (hq 37 _ rfl) (hq 38 _ rfl) a_0_12_0
    exact run_told' 7 (hy_of (H := [(0, 12, 0, 0), (3, 17, 30, 1), (3, 22, 33, 1), (3, 25, 38, 1)]) hσ triangleSides_wf triangleSides_sz triangleSides_lt triangleSides_cn hq h0 (And.intro (hF a_0_12_0) (And.intro (hT a_3_17_30) (And.intro (hT a_3_22_33) (And.intro (hT a_3_25_38) trivial))))) hcl (by kernel_rfl) triangleSides_r1 ⟨tab, mx⟩ (hA _)
end Go.Proofs.YtldhbbignahgeaaGreatDoor
