/- Part 12 of the walks and of the mathematics under them: MTP. -/
import Derived.Test.YtogmiiacfnfnpaaGreatDoorA11
set_option maxHeartbeats 16000000
set_option maxRecDepth 100000
/- MTP -/
namespace Go.Proofs.YtogmiiacfnfnpaaGreatDoor
open Go.RowKit Cx
def turnPoint_N : List Nd := [(1, [0]), (1, [1]), (1, [2]), (1, [3]), (1, [4]), (3, [3, 0]), (3, [4, 1]), (4, [5, 5]), (4, [6, 6]), (2, [7, 8]), (6, [2, 9]), (4, [5, 10]), (4, [6, 10]), (2, [0, 11]), (2, [1, 12]), (3, [13, 0]), (3, [14, 1]), (4, [5, 16]), (4, [6, 15]), (3, [17, 18]), (4, [5, 15]), (4, [6, 16]), (2, [20, 21])]
def turnPoint_L : List (List Nat × Nat) := []
def turnPoint_C : List (List Nat × Nat) := []
def turnPoint_Z : List Nat := [4194309, 4194309, 4194309, 4194309, 4194309, 8388619, 8388619, 16777238, 16777238, 33554477, 37748786, 46137405, 46137405, 50331715, 50331715, 54526025, 54526025, 62914644, 62914644, 125829289, 62914644, 62914644, 125829289]
theorem turnPoint_wf : wfB 0 turnPoint_N = true := by kernel_rfl
theorem turnPoint_sz : szB turnPoint_Z turnPoint_N turnPoint_Z = true := by kernel_rfl
theorem turnPoint_lt : litB turnPoint_N turnPoint_L = true := by kernel_rfl
theorem turnPoint_cn : canB turnPoint_N turnPoint_C = true := by kernel_rfl
theorem turnPoint_f0 (z0 z1 z2 z3 z4 z5 z6 z7 z8 z9 z10 z11 z12 z13 z14 z15 z16 z17 z18 z19 : Rat) : z5 = z3 - z0 → z6 = z4 - z1 → z7 = z5 * z5 → z8 = z6 * z6 → z9 = z7 + z8 → z10 = z2 / z9 → z11 = z5 * z10 → z12 = z6 * z10 → z13 = z0 + z11 → z14 = z1 + z12 → z15 = z13 - z0 → z16 = z14 - z1 → z17 = z5 * z16 → z18 = z6 * z15 → z19 = z17 - z18 → (0 < z2) → (z5 = 0) → (¬ (z6 = 0)) → z19 = 0 := by
  intro e5 e6 e7 e8 e9 e10 e11 e12 e13 e14 e15 e16 e17 e18 e19 u0 u1 u2
  have n9 : z9 ≠ 0 := by (have hp := sq_pos (x := z5) (y := z6) (by grind)); grind
  subst_vars; grind
theorem turnPoint_f1 (z0 z1 z2 z3 z4 z5 z6 z7 z8 z9 z10 z11 z12 z13 z14 z15 z16 z20 z21 z22 : Rat) : z5 = z3 - z0 → z6 = z4 - z1 → z7 = z5 * z5 → z8 = z6 * z6 → z9 = z7 + z8 → z10 = z2 / z9 → z11 = z5 * z10 → z12 = z6 * z10 → z13 = z0 + z11 → z14 = z1 + z12 → z15 = z13 - z0 → z16 = z14 - z1 → z20 = z5 * z15 → z21 = z6 * z16 → z22 = z20 + z21 → (0 < z2) → (z5 = 0) → (¬ (z6 = 0)) → z22 = z2 := by
  intro e5 e6 e7 e8 e9 e10 e11 e12 e13 e14 e15 e16 e20 e21 e22 u0 u1 u2
  have n9 : z9 ≠ 0 := by (have hp := sq_pos (x := z5) (y := z6) (by grind)); grind
  subst_vars; grind
theorem turnPoint_f2 (z0 z1 z2 z3 z4 z5 z6 z7 z8 z9 z10 z11 z12 z13 z14 z15 z16 z17 z18 z19 : Rat) : z5 = z3 - z0 → z6 = z4 - z1 → z7 = z5 * z5 → z8 = z6 * z6 → z9 = z7 + z8 → z10 = z2 / z9 → z11 = z5 * z10 → z12 = z6 * z10 → z13 = z0 + z11 → z14 = z1 + z12 → z15 = z13 - z0 → z16 = z14 - z1 → z17 = z5 * z16 → z18 = z6 * z15 → z19 = z17 - z18 → (0 < z2) → (¬ (z5 = 0)) → z19 = 0 := by
  intro e5 e6 e7 e8 e9 e10 e11 e12 e13 e14 e15 e16 e17 e18 e19 u0 u1
  have n9 : z9 ≠ 0 := by (have hp := sq_pos (x := z5) (y := z6) (by grind)); grind
  subst_vars; grind
theorem turnPoint_f3 (z0 z1 z2 z3 z4 z5 z6 z7 z8 z9 z10 z11 z12 z13 z14 z15 z16 z20 z21 z22 : Rat) : z5 = z3 - z0 → z6 = z4 - z1 → z7 = z5 * z5 → z8 = z6 * z6 → z9 = z7 + z8 → z10 = z2 / z9 → z11 = z5 * z10 → z12 = z6 * z10 → z13 = z0 + z11 → z14 = z1 + z12 → z15 = z13 - z0 → z16 = z14 - z1 → z20 = z5 * z15 → z21 = z6 * z16 → z22 = z20 + z21 → (0 < z2) → (¬ (z5 = 0)) → z22 = z2 := by
  intro e5 e6 e7 e8 e9 e10 e11 e12 e13 e14 e15 e16 e20 e21 e22 u0 u1
  have n9 : z9 ≠ 0 := by (have hp := sq_pos (x := z5) (y := z6) (by grind)); grind
  subst_vars; grind
theorem turnPoint_r0 : (callB (sx Tryz.prog turnPoint_N [(2, 2, 0, 1), (0, 5, 0, 1), (0, 6, 0, 1)] [] turnPoint_L turnPoint_C turnPoint_Z (prC [64])) 5 13 [(false, [(true, [.inr (2, 0, 0, 0, 0), .inr (2, 1, 0, 0, 0), .inr (2, 2, 0, 0, 0)])]), (false, [(true, [.inr (2, 3, 0, 0, 0), .inr (2, 4, 0, 0, 0)])])] [] 0).map (·.1) = some (kB true) := by kernel_rfl
theorem turnPoint_r1 : (callB (sx Tryz.prog turnPoint_N [(2, 2, 0, 1), (0, 5, 0, 1), (0, 6, 0, 0), (0, 19, 0, 1), (3, 22, 2, 1)] [] turnPoint_L turnPoint_C turnPoint_Z (prC [64])) 5 13 [(false, [(true, [.inr (2, 0, 0, 0, 0), .inr (2, 1, 0, 0, 0), .inr (2, 2, 0, 0, 0)])]), (false, [(true, [.inr (2, 3, 0, 0, 0), .inr (2, 4, 0, 0, 0)])])] [] 0).map (·.1) = some (kB true) := by kernel_rfl
theorem turnPoint_r2 : (callB (sx Tryz.prog turnPoint_N [(2, 2, 0, 1), (0, 5, 0, 0), (0, 19, 0, 1), (3, 22, 2, 1)] [] turnPoint_L turnPoint_C turnPoint_Z (prC [64])) 5 13 [(false, [(true, [.inr (2, 0, 0, 0, 0), .inr (2, 1, 0, 0, 0), .inr (2, 2, 0, 0, 0)])]), (false, [(true, [.inr (2, 3, 0, 0, 0), .inr (2, 4, 0, 0, 0)])])] [] 0).map (·.1) = some (kB true) := by kernel_rfl
theorem turnPoint_r3 : (callB (sx Tryz.prog turnPoint_N [(2, 2, 0, 0)] [] turnPoint_L turnPoint_C turnPoint_Z (prC [64])) 5 13 [(false, [(true, [.inr (2, 0, 0, 0, 0), .inr (2, 1, 0, 0, 0), .inr (2, 2, 0, 0, 0)])]), (false, [(true, [.inr (2, 3, 0, 0, 0), .inr (2, 4, 0, 0, 0)])])] [] 0).map (·.1) = some (kB true) := by kernel_rfl
theorem turnPoint_walk {w : World} {cx cz cr px pz : ByteArray} (scx : cx.size ≤ 1048576) (scz : cz.size ≤ 1048576) (scr : cr.size ≤ 1048576) (spx : px.size ≤ 1048576) (spz : pz.size ≤ 1048576) (tab : Tab w) (mx : MaxL w) :
    Calls Tryz.prog 13 #[.agg #[.string cx, .string cz, .string cr], .agg #[.string px, .string pz]] w fun e w' => Below w.heap.size w w' ∧ e = .returned (.bool true) := by
  have hσ : ∀ j, (sgOf [cx, cz, cr, px, pz] j).size ≤ 1048576 := sgOf_size (by simp [scx, scz, scr, spx, spz])
  have hcl : ∀ f ∈ ([64] : List FuncId), Closed f := by simp [closed_turned]
  obtain ⟨q, hq, h0⟩ := nodes_exist (sgOf [cx, cz, cr, px, pz]) turnPoint_N turnPoint_wf
  have hA : ∀ K, A2 (avOn (cOn (evS q (sgOf [cx, cz, cr, px, pz])) K (fun _ => none) w)) [(false, [(true, [.inr (2, 0, 0, 0, 0), .inr (2, 1, 0, 0, 0), .inr (2, 2, 0, 0, 0)])]), (false, [(true, [.inr (2, 3, 0, 0, 0), .inr (2, 4, 0, 0, 0)])])] [.agg #[.string cx, .string cz, .string cr], .agg #[.string px, .string pz]] := fun K => ⟨⟨⟨[.string cx, .string cz, .string cr], rfl, rfl, rfl, rfl, trivial⟩, trivial⟩, ⟨⟨[.string px, .string pz], rfl, rfl, rfl, trivial⟩, trivial⟩, trivial⟩
  by_cases a_2_2_0 : 0 < q 2
  ·
    by_cases a_0_5_0 : q 5 = 0
    ·
      by_cases a_0_6_0 : q 6 = 0
      ·
        exact run_told' 5 (hy_of (H := [(2, 2, 0, 1), (0, 5, 0, 1), (0, 6, 0, 1)]) hσ turnPoint_wf turnPoint_sz turnPoint_lt turnPoint_cn hq h0 (And.intro (hT a_2_2_0) (And.intro (hT a_0_5_0) (And.intro (hT a_0_6_0) trivial)))) hcl (by kernel_rfl) turnPoint_r0 ⟨tab, mx⟩ (hA _)
      ·
        have a_0_19_0 : q 19 = 0 := turnPoint_f0 (q 0) (q 1) (q 2) (q 3) (q 4) (q 5) (q 6) (q 7) (q 8) (q 9) (q 10) (q 11) (q 12) (q 13) (q 14) (q 15) (q 16) (q 17) (q 18) (q 19) (hq 5 _ rfl) (hq 6 _ rfl) (hq 7 _ rfl) (hq 8 _ rfl) (hq 9 _ rfl) (hq 10 _ rfl) (hq 11 _ rfl) (hq 12 _ rfl) (hq 13 _ rfl) (hq 14 _ rfl) (hq 15 _ rfl) (hq 16 _ rfl) (hq 17 _ rfl) (hq 18 _ rfl) (hq 19 _ rfl) a_2_2_0 a_0_5_0 a_0_6_0
        have a_3_22_2 : q 22 = q 2 := turnPoint_f1 (q 0) (q 1) (q 2) (q 3) (q 4) (q 5) (q 6) (q 7) (q 8) (q 9) (q 10) (q 11) (q 12) (q 13) (q 14) (q 15) (q 16) (q 20) (q 21) (q 22) (hq 5 _ rfl) (hq 6 _ rfl) (hq 7 _ rfl) (hq 8 _ rfl) (hq 9 _ rfl) (hq 10 _ rfl) (hq 11 _ rfl) (hq 12 _ rfl) (hq 13 _ rfl) (hq 14 _ rfl) (hq 15 _ rfl) (hq 16 _ rfl) (hq 20 _ rfl) (hq 21 _ rfl) (hq 22 _ rfl) a_2_2_0 a_0_5_0 a_0_6_0
        exact run_told' 5 (hy_of (H := [(2, 2, 0, 1), (0, 5, 0, 1), (0, 6, 0, 0), (0, 19, 0, 1), (3, 22, 2, 1)]) hσ turnPoint_wf turnPoint_sz turnPoint_lt turnPoint_cn hq h0 (And.intro (hT a_2_2_0) (And.intro (hT a_0_5_0) (And.intro (hF a_0_6_0) (And.intro (hT a_0_19_0) (And.intro (hT a_3_22_2) trivial)))))) hcl (by kernel_rfl) turnPoint_r1 ⟨tab, mx⟩ (hA _)
    ·
      have a_0_19_0 : q 19 = 0 := turnPoint_f2 (q 0) (q 1) (q 2) (q 3) (q 4) (q 5) (q 6) (q 7) (q 8) (q 9) (q 10) (q 11) (q 12) (q 13) (q 14) (q 15) (q 16) (q 17) (q 18) (q 19) (hq 5 _ rfl) (hq 6 _ rfl) (hq 7 _ rfl) (hq 8 _ rfl) (hq 9 _ rfl) (hq 10 _ rfl) (hq 11 _ rfl) (hq 12 _ rfl) (hq 13 _ rfl) (hq 14 _ rfl) (hq 15 _ rfl) (hq 16 _ rfl) (hq 17 _ rfl) (hq 18 _ rfl) (hq 19 _ rfl) a_2_2_0 a_0_5_0
      have a_3_22_2 : q 22 = q 2 := turnPoint_f3 (q 0) (q 1) (q 2) (q 3) (q 4) (q 5) (q 6) (q 7) (q 8) (q 9) (q 10) (q 11) (q 12) (q 13) (q 14) (q 15) (q 16) (q 20) (q 21) (q 22) (hq 5 _ rfl) (hq 6 _ rfl) (hq 7 _ rfl) (hq 8 _ rfl) (hq 9 _ rfl) (hq 10 _ rfl) (hq 11 _ rfl) (hq 12 _ rfl) (hq 13 _ rfl) (hq 14 _ rfl) (hq 15 _ rfl) (hq 16 _ rfl) (hq 20 _ rfl) (hq 21 _ rfl) (hq 22 _ rfl) a_2_2_0 a_0_5_0
      exact run_told' 5 (hy_of (H := [(2, 2, 0, 1), (0, 5, 0, 0), (0, 19, 0, 1), (3, 22, 2, 1)]) hσ turnPoint_wf turnPoint_sz turnPoint_lt turnPoint_cn hq h0 (And.intro (hT a_2_2_0) (And.intro (hF a_0_5_0) (And.intro (hT a_0_19_0) (And.intro (hT a_3_22_2) trivial))))) hcl (by kernel_rfl) turnPoint_r2 ⟨tab, mx⟩ (hA _)
  ·
    exact run_told' 5 (hy_of (H := [(2, 2, 0, 0)]) hσ turnPoint_wf turnPoint_sz turnPoint_lt turnPoint_cn hq h0 (And.intro (hF a_2_2_0) trivial)) hcl (by kernel_rfl) turnPoint_r3 ⟨tab, mx⟩ (hA _)
end Go.Proofs.YtogmiiacfnfnpaaGreatDoor
