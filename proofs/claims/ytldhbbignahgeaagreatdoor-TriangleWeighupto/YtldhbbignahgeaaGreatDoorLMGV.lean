/- Part 13 of the walks and of the mathematics under them: MGV. -/
import Derived.Test.YtldhbbignahgeaaGreatDoorA12
set_option maxHeartbeats 16000000
set_option maxRecDepth 100000
/- MGV -/
namespace Go.Proofs.YtldhbbignahgeaaGreatDoor
open Go.RowKit Cx
def triangleWeigh_N : List Nd := [(1, [0]), (1, [1]), (1, [2]), (1, [3]), (1, [4]), (1, [5]), (3, [2, 0]), (3, [3, 1]), (3, [4, 0]), (3, [5, 1]), (4, [6, 9]), (4, [7, 8]), (3, [10, 11]), (1, [6]), (1, [7]), (1, [8]), (2, [13, 14]), (2, [16, 15]), (4, [0, 13]), (4, [1, 13]), (0, [0, 0, 1]), (2, [20, 18]), (2, [20, 19]), (4, [2, 14]), (4, [3, 14]), (2, [21, 23]), (2, [22, 24]), (4, [4, 15]), (4, [5, 15]), (2, [25, 27]), (2, [26, 28]), (6, [29, 17]), (6, [30, 17]), (2, [18, 23]), (2, [19, 24]), (2, [33, 27]), (2, [34, 28]), (0, [0, 1, 1]), (6, [37, 17]), (4, [35, 38]), (4, [36, 38])]
def triangleWeigh_L : List (List Nat × Nat) := []
def triangleWeigh_C : List (List Nat × Nat) := []
def triangleWeigh_Z : List Nat := [4194309, 4194309, 4194309, 4194309, 4194309, 4194309, 8388619, 8388619, 8388619, 8388619, 16777238, 16777238, 33554477, 4194309, 4194309, 4194309, 8388619, 12582929, 8388618, 8388618, 2, 8388621, 8388621, 8388618, 8388618, 16777240, 16777240, 8388618, 8388618, 25165859, 25165859, 37748788, 37748788, 16777237, 16777237, 25165856, 25165856, 2, 12582931, 37748787, 37748787]
theorem triangleWeigh_wf : wfB 0 triangleWeigh_N = true := by kernel_rfl
theorem triangleWeigh_sz : szB triangleWeigh_Z triangleWeigh_N triangleWeigh_Z = true := by kernel_rfl
theorem triangleWeigh_lt : litB triangleWeigh_N triangleWeigh_L = true := by kernel_rfl
theorem triangleWeigh_cn : canB triangleWeigh_N triangleWeigh_C = true := by kernel_rfl
theorem triangleWeigh_c20 : cst 0 0 1 = (0 : Rat) := by decide +kernel
theorem triangleWeigh_c37 : cst 0 1 1 = (1 : Rat) := by decide +kernel
theorem triangleWeigh_f0 (z0 z1 z2 z3 z4 z5 z6 z7 z8 z9 z10 z11 z12 z13 z14 z15 z16 z17 z18 z20 z21 z23 z25 z27 z29 z31 z33 z35 z37 z38 z39 : Rat) : z6 = z2 - z0 → z7 = z3 - z1 → z8 = z4 - z0 → z9 = z5 - z1 → z10 = z6 * z9 → z11 = z7 * z8 → z12 = z10 - z11 → z16 = z13 + z14 → z17 = z16 + z15 → z18 = z0 * z13 → z20 = 0 → z21 = z20 + z18 → z23 = z2 * z14 → z25 = z21 + z23 → z27 = z4 * z15 → z29 = z25 + z27 → z31 = z29 / z17 → z33 = z18 + z23 → z35 = z33 + z27 → z37 = 1 → z38 = z37 / z17 → z39 = z35 * z38 → (¬ (z12 = 0)) → (¬ (z17 = 0)) → z31 = z39 := by
  intro e6 e7 e8 e9 e10 e11 e12 e16 e17 e18 e20 e21 e23 e25 e27 e29 e31 e33 e35 e37 e38 e39 u0 u1
  have n17 : z17 ≠ 0 := by grind
  subst_vars; grind
theorem triangleWeigh_f1 (z0 z1 z2 z3 z4 z5 z6 z7 z8 z9 z10 z11 z12 z13 z14 z15 z16 z17 z19 z20 z22 z24 z26 z28 z30 z32 z34 z36 z37 z38 z40 : Rat) : z6 = z2 - z0 → z7 = z3 - z1 → z8 = z4 - z0 → z9 = z5 - z1 → z10 = z6 * z9 → z11 = z7 * z8 → z12 = z10 - z11 → z16 = z13 + z14 → z17 = z16 + z15 → z19 = z1 * z13 → z20 = 0 → z22 = z20 + z19 → z24 = z3 * z14 → z26 = z22 + z24 → z28 = z5 * z15 → z30 = z26 + z28 → z32 = z30 / z17 → z34 = z19 + z24 → z36 = z34 + z28 → z37 = 1 → z38 = z37 / z17 → z40 = z36 * z38 → (¬ (z12 = 0)) → (¬ (z17 = 0)) → z32 = z40 := by
  intro e6 e7 e8 e9 e10 e11 e12 e16 e17 e19 e20 e22 e24 e26 e28 e30 e32 e34 e36 e37 e38 e40 u0 u1
  have n17 : z17 ≠ 0 := by grind
  subst_vars; grind
theorem triangleWeigh_r0 : (callB (sx Tryz.prog triangleWeigh_N [(0, 12, 0, 1)] [(110, [])] triangleWeigh_L triangleWeigh_C triangleWeigh_Z (prC [25])) 7 5 [(false, [(true, [.inr (2, 0, 0, 0, 0), .inr (2, 1, 0, 0, 0), .inr (2, 2, 0, 0, 0), .inr (2, 3, 0, 0, 0), .inr (2, 4, 0, 0, 0), .inr (2, 5, 0, 0, 0)])]), (false, [(true, [.inr (2, 6, 0, 0, 0), .inr (2, 7, 0, 0, 0), .inr (2, 8, 0, 0, 0)])])] [] 0).map (·.1) = some (kB true) := by kernel_rfl
theorem triangleWeigh_r1 : (callB (sx Tryz.prog triangleWeigh_N [(0, 12, 0, 0), (0, 17, 0, 1)] [(110, []), (116, [])] triangleWeigh_L triangleWeigh_C triangleWeigh_Z (prC [25])) 7 5 [(false, [(true, [.inr (2, 0, 0, 0, 0), .inr (2, 1, 0, 0, 0), .inr (2, 2, 0, 0, 0), .inr (2, 3, 0, 0, 0), .inr (2, 4, 0, 0, 0), .inr (2, 5, 0, 0, 0)])]), (false, [(true, [.inr (2, 6, 0, 0, 0), .inr (2, 7, 0, 0, 0), .inr (2, 8, 0, 0, 0)])])] [] 0).map (·.1) = some (kB true) := by kernel_rfl
theorem triangleWeigh_r2 : (callB (sx Tryz.prog triangleWeigh_N [(0, 12, 0, 0), (0, 17, 0, 0), (3, 31, 39, 1), (3, 32, 40, 1)] [(110, []), (116, [])] triangleWeigh_L triangleWeigh_C triangleWeigh_Z (prC [25])) 7 5 [(false, [(true, [.inr (2, 0, 0, 0, 0), .inr (2, 1, 0, 0, 0), .inr (2, 2, 0, 0, 0), .inr (2, 3, 0, 0, 0), .inr (2, 4, 0, 0, 0), .inr (2, 5, 0, 0, 0)])]), (false, [(true, [.inr (2, 6, 0, 0, 0), .inr (2, 7, 0, 0, 0), .inr (2, 8, 0, 0, 0)])])] [] 0).map (·.1) = some (kB true) := by kernel_rfl
theorem triangleWeigh_walk {w : World} {tax taz tbx tbz tcx tcz ka kb kc : ByteArray} (stax : tax.size ≤ 1048576) (staz : taz.size ≤ 1048576) (stbx : tbx.size ≤ 1048576) (stbz : tbz.size ≤ 1048576) (stcx : tcx.size ≤ 1048576) (stcz : tcz.size ≤ 1048576) (ska : ka.size ≤ 1048576) (skb : kb.size ≤ 1048576) (skc : kc.size ≤ 1048576) (tab : Tab w) (mx : MaxL w) :
    Calls Tryz.prog 5 #[.agg #[.string tax, .string taz, .string tbx, .string tbz, .string tcx, .string tcz], .agg #[.string ka, .string kb, .string kc]] w fun e w' => Below w.heap.size w w' ∧ e = .returned (.bool true) := by
  have hσ : ∀ j, (sgOf [tax, taz, tbx, tbz, tcx, tcz, ka, kb, kc] j).size ≤ 1048576 := sgOf_size (by simp [stax, staz, stbx, stbz, stcx, stcz, ska, skb, skc])
  have hcl : ∀ f ∈ ([25] : List FuncId), Closed f := by simp [closed_cornered]
  obtain ⟨q, hq, h0⟩ := nodes_exist (sgOf [tax, taz, tbx, tbz, tcx, tcz, ka, kb, kc]) triangleWeigh_N triangleWeigh_wf
  have hA : ∀ K, A2 (avOn (cOn (evS q (sgOf [tax, taz, tbx, tbz, tcx, tcz, ka, kb, kc])) K (fun _ => none) w)) [(false, [(true, [.inr (2, 0, 0, 0, 0), .inr (2, 1, 0, 0, 0), .inr (2, 2, 0, 0, 0), .inr (2, 3, 0, 0, 0), .inr (2, 4, 0, 0, 0), .inr (2, 5, 0, 0, 0)])]), (false, [(true, [.inr (2, 6, 0, 0, 0), .inr (2, 7, 0, 0, 0), .inr (2, 8, 0, 0, 0)])])] [.agg #[.string tax, .string taz, .string tbx, .string tbz, .string tcx, .string tcz], .agg #[.string ka, .string kb, .string kc]] := fun K => ⟨⟨⟨[.string tax, .string taz, .string tbx, .string tbz, .string tcx, .string tcz], rfl, rfl, rfl, rfl, rfl, rfl, rfl, trivial⟩, trivial⟩, ⟨⟨[.string ka, .string kb, .string kc], rfl, rfl, rfl, rfl, trivial⟩, trivial⟩, trivial⟩
  by_cases a_0_12_0 : q 12 = 0
  ·
    exact run_told' 7 (hy_of (H := [(0, 12, 0, 1)]) hσ triangleWeigh_wf triangleWeigh_sz triangleWeigh_lt triangleWeigh_cn hq h0 (And.intro (hT a_0_12_0) trivial)) hcl (by kernel_rfl) triangleWeigh_r0 ⟨tab, mx⟩ (hA _)
  ·
    by_cases a_0_17_0 : q 17 = 0
    ·
      exact run_told' 7 (hy_of (H := [(0, 12, 0, 0), (0, 17, 0, 1)]) hσ triangleWeigh_wf triangleWeigh_sz triangleWeigh_lt triangleWeigh_cn hq h0 (And.intro (hF a_0_12_0) (And.intro (hT a_0_17_0) trivial))) hcl (by kernel_rfl) triangleWeigh_r1 ⟨tab, mx⟩ (hA _)
    ·
      have a_3_31_39 : q 31 = q 39 := triangleWeigh_f0 (q 0) (q 1) (q 2) (q 3) (q 4) (q 5) (q 6) (q 7) (q 8) (q 9) (q 10) (q 11) (q 12) (q 13) (q 14) (q 15) (q 16) (q 17) (q 18) (q 20) (q 21) (q 23) (q 25) (q 27) (q 29) (q 31) (q 33) (q 35) (q 37) (q 38) (q 39) (hq 6 _ rfl) (hq 7 _ rfl) (hq 8 _ rfl) (hq 9 _ rfl) (hq 10 _ rfl) (hq 11 _ rfl) (hq 12 _ rfl) (hq 16 _ rfl) (hq 17 _ rfl) (hq 18 _ rfl) ((hq 20 _ rfl).trans triangleWeigh_c20) (hq 21 _ rfl) (hq 23 _ rfl) (hq 25 _ rfl) (hq 27 _ rfl) (hq 29 _ rfl) (hq 31 _ rfl) (hq 33 _ rfl) (hq 35 _ rfl) ((hq 37 _ rfl).trans triangleWeigh_c37) (hq 38 _ rfl) (hq 39 _ rfl) a_0_12_0 a_0_17_0
      have a_3_32_40 : q 32 = q 40 := triangleWeigh_f1 (q 0) (q 1) (q 2) (q 3) (q 4) (q 5) (q 6) (q 7) (q 8) (q 9) (q 10) (q 11) (q 12) (q 13) (q 14) (q 15) (q 16) (q 17) (q 19) (q 20) (q 22) (q 24) (q 26) (q 28) (q 30) (q 32) (q 34) (q 36) (q 37) (q 38) (q 40) (hq 6 _ rfl) (hq 7 _ rfl) (hq 8 _ rfl) (hq 9 _ rfl) (hq 10 _ rfl) (hq 11 _ rfl) (hq 12 _ rfl) (hq 16 _ rfl) (hq 17 _ rfl) (hq 19 _ rfl) ((hq 20 _ rfl).trans triangleWeigh_c20) (hq 22 _ rfl) (hq 24 _ rfl) (hq 26 _ rfl) (hq 28 _ rfl) (hq 30 _ rfl) (hq 32 _ rfl) (hq 34 _ rfl) (hq 36 _ rfl) ((hq 37 _ rfl).trans triangleWeigh_c37) (hq 38 _ rfl) (hq 40 _ rfl) a_0_12_0 a_0_17_0
      exact run_told' 7 (hy_of (H := [(0, 12, 0, 0), (0, 17, 0, 0), (3, 31, 39, 1), (3, 32, 40, 1)]) hσ triangleWeigh_wf triangleWeigh_sz triangleWeigh_lt triangleWeigh_cn hq h0 (And.intro (hF a_0_12_0) (And.intro (hF a_0_17_0) (And.intro (hT a_3_31_39) (And.intro (hT a_3_32_40) trivial))))) hcl (by kernel_rfl) triangleWeigh_r2 ⟨tab, mx⟩ (hA _)
end Go.Proofs.YtldhbbignahgeaaGreatDoor
