/- Part 3 of the walks and of the mathematics under them: NumJ. -/
import Derived.Test.YtioacnhbiinjbaaGreatDoorA2
set_option maxHeartbeats 16000000
set_option maxRecDepth 100000
/- NumJ -/
namespace Go.Proofs.YtioacnhbiinjbaaGreatDoor
open Go.RowKit Cx
def topLimb (l : List Nat) (n k i : Nat) : Nat := if i < k then nth l (n - 1 - i) else 0
theorem topLimb_0_0 (l : List Nat) (n : Nat) : topLimb l n 0 0 = 0 := rfl
theorem topLimb_0_1 (l : List Nat) (n : Nat) : topLimb l n 0 1 = 0 := rfl
theorem topLimb_0_2 (l : List Nat) (n : Nat) : topLimb l n 0 2 = 0 := rfl
theorem topLimb_1_0 (l : List Nat) (n : Nat) : topLimb l n 1 0 = nth l (n - 1) := rfl
theorem topLimb_1_1 (l : List Nat) (n : Nat) : topLimb l n 1 1 = 0 := rfl
theorem topLimb_1_2 (l : List Nat) (n : Nat) : topLimb l n 1 2 = 0 := rfl
theorem topLimb_2_0 (l : List Nat) (n : Nat) : topLimb l n 2 0 = nth l (n - 1) := rfl
theorem topLimb_2_1 (l : List Nat) (n : Nat) : topLimb l n 2 1 = nth l (n - 2) := rfl
theorem topLimb_2_2 (l : List Nat) (n : Nat) : topLimb l n 2 2 = 0 := rfl
theorem topLimb_3_0 (l : List Nat) (n : Nat) : topLimb l n 3 0 = nth l (n - 1) := rfl
theorem topLimb_3_1 (l : List Nat) (n : Nat) : topLimb l n 3 1 = nth l (n - 2) := rfl
theorem topLimb_3_2 (l : List Nat) (n : Nat) : topLimb l n 3 2 = nth l (n - 3) := rfl
theorem lead_bits {x0 x1 x2 sh : Nat} (h0 : x0 < 4294967296) (h1 : x1 < 4294967296) (h2 : x2 < 4294967296) (hsh : sh < 32) (htop : x0 * 2 ^ sh < 4294967296) :
  bits .or .u64 (IntKind.u64.wrap (bits .or .u64 ((x0 : Int) * 4294967296) (x1 : Int) * 2 ^ sh)) (IntKind.u64.wrap ((x2 : Int) * 2 ^ sh) / 4294967296) = (((x0 * 4294967296 + x1) * 2 ^ sh + x2 * 2 ^ sh / 4294967296 : Nat) : Int) := by
 have hS := Nat.two_pow_pos sh
 have h2p := two_pow_le hsh
 have hW := split32 hsh
 have e1 : x0 * 2 ^ sh + 2 ^ sh ≤ 4294967296 := by
  rw [hW] at htop ⊢
  have : x0 < 2 ^ (32 - sh) := Nat.lt_of_mul_lt_mul_right htop
  have := Nat.mul_le_mul_right (2 ^ sh) this
  rwa [Nat.succ_mul] at this
 have b1 : (x0 * 4294967296 + x1) * 2 ^ sh < 18446744073709551616 := by
  have e2 : (x0 * 4294967296 + x1) * 2 ^ sh = (x0 * 2 ^ sh) * 4294967296 + x1 * 2 ^ sh := by
   generalize 2 ^ sh = S
   grind
  have h3 : (x1 + 1) * 2 ^ sh ≤ 4294967296 * 2 ^ sh := Nat.mul_le_mul_right _ h1
  rw [Nat.succ_mul] at h3
  omega
 have b2 : x2 * 2 ^ sh ≤ 4294967295 * 2147483648 := Nat.mul_le_mul (by omega) h2p
 have b3 : x2 * 2 ^ sh / 4294967296 < 2 ^ sh := by
  rw [Nat.div_lt_iff_lt_mul (by omega), Nat.mul_comm (2 ^ sh)]
  exact Nat.mul_lt_mul_of_pos_right h2 hS
 have c1 : ((x0 * 4294967296 + x1 : Nat) : Int) * 2 ^ sh = (((x0 * 4294967296 + x1) * 2 ^ sh : Nat) : Int) := by
  rw [Int.natCast_mul, Int.natCast_pow]; rfl
 have c2 : (x2 : Int) * 2 ^ sh = ((x2 * 2 ^ sh : Nat) : Int) := by
  rw [Int.natCast_mul, Int.natCast_pow]; rfl
 rw [shl_or x0 x1 h0 h1, c1, c2]
 have e5 := Nat.shiftLeft_add_eq_or_of_lt b3 (x0 * 4294967296 + x1)
 rw [Nat.shiftLeft_eq] at e5
 generalize (x0 * 4294967296 + x1) * 2 ^ sh = M at *
 generalize x2 * 2 ^ sh = L at *
 have w1 : IntKind.u64.wrap (M : Int) = (M : Int) := by rw [IntKind.wrap_u64]; omega
 have w2 : IntKind.u64.wrap (L : Int) / 4294967296 = ((L / 4294967296 : Nat) : Int) := by rw [IntKind.wrap_u64]; omega
 rw [w1, w2, u64_or_nat M (L / 4294967296) b1 (by omega), ← e5]
theorem lead_walk {w : World} {ao : Option Addr} {ca b1 o1 n sh : Nat} {la : List Nat} (ha : Sl w 154 ao ca la b1 o1) (hla : la.length ≤ n) (hn : n ≤ 1099511627776) (h3 : 3 ≤ n) (hsh : sh < 32) (htop : nth la (n - 1) * 2 ^ sh < 4294967296) :
  Calls Tryz.prog 413 #[.slice ao la.length ca, .int .i64 n, .int .i64 sh] w fun e w' => Below w.heap.size w w' ∧ e = .returned (.int .u64 ((nth la (n - 1) * 4294967296 + nth la (n - 2)) * 2 ^ sh + nth la (n - 3) * 2 ^ sh / 4294967296 : Nat)) := by
 have HA : Hid (Sl w 154 ao ca la b1 o1) := ha
 clear ha
 go_enter Tryz.func413, Tryz.ntmps413
 go_wp2
 go_loopw [10] (fun i wr => ∃ k : Nat, k ≤ 3 ∧ i = .int .i64 k ∧ wr = w.alloc (.cells #[.int .u64 (topLimb la n k 0), .int .u64 (topLimb la n k 1), .int .u64 (topLimb la n k 2)] 469)) (fun i _ => 3 - (intOf i).toNat)
 case atStart => exact ⟨0, by omega, rfl, rfl⟩
 case round =>
  obtain ⟨k, hk, rfl, rfl⟩ := hrel
  rcases (show k = 0 ∨ k = 1 ∨ k = 2 ∨ k = 3 by omega) with rfl | rfl | rfl | rfl
  ·simp only [topLimb_0_0, topLimb_0_1, topLimb_0_2]
   by_cases hin : n - 1 < la.length
   ·have hia : ∀ wx, (Instr.indexAt 154 (.slice ao la.length ca) (.int .i64 ((n : Int) - 1))).run Tryz.prog wx = .ok (.pointer (some ⟨b1, o1 + (n - 1), none⟩)) wx := fun wx => by
     have := HA.out.idx (n - 1) hin wx
     rwa [show (((n - 1) : Nat) : Int) = (n : Int) - 1 from by omega] at this
    have hb1 : b1 < w.heap.size := HA.out.lt (by omega)
    have hca := HA.out.seg (n - 1) hin
    have hxa := nth_lt HA.out.lim (n - 1)
    go_wp2
    go_roundw
    case rel => exact ⟨1, by omega, rfl, rfl⟩
    case measure => simp [intOf]
   ·have hz : nth la (n - 1) = 0 := nth_beyond (by omega)
    have HZ : Hid (nth la (n - 1) = 0) := hz
    clear hz
    go_wp2
    go_roundw
    case rel => exact ⟨1, by omega, rfl, by simp only [topLimb_1_0, topLimb_1_1, topLimb_1_2, HZ.out]; rfl⟩
    case measure => simp [intOf]
  ·simp only [topLimb_1_0, topLimb_1_1, topLimb_1_2]
   by_cases hin : n - 2 < la.length
   ·have hia : ∀ wx, (Instr.indexAt 154 (.slice ao la.length ca) (.int .i64 ((n : Int) - 1 - 1))).run Tryz.prog wx = .ok (.pointer (some ⟨b1, o1 + (n - 2), none⟩)) wx := fun wx => by
     have := HA.out.idx (n - 2) hin wx
     rwa [show (((n - 2) : Nat) : Int) = (n : Int) - 1 - 1 from by omega] at this
    have hb1 : b1 < w.heap.size := HA.out.lt (by omega)
    have hca := HA.out.seg (n - 2) hin
    have hxa := nth_lt HA.out.lim (n - 2)
    go_wp2
    go_roundw
    case rel => exact ⟨2, by omega, rfl, rfl⟩
    case measure => simp [intOf]
   ·have hz : nth la (n - 2) = 0 := nth_beyond (by omega)
    have HZ : Hid (nth la (n - 2) = 0) := hz
    clear hz
    go_wp2
    go_roundw
    case rel => exact ⟨2, by omega, rfl, by simp only [topLimb_2_0, topLimb_2_1, topLimb_2_2, HZ.out]; rfl⟩
    case measure => simp [intOf]
  ·simp only [topLimb_2_0, topLimb_2_1, topLimb_2_2]
   by_cases hin : n - 3 < la.length
   ·have hia : ∀ wx, (Instr.indexAt 154 (.slice ao la.length ca) (.int .i64 ((n : Int) - 1 - 2))).run Tryz.prog wx = .ok (.pointer (some ⟨b1, o1 + (n - 3), none⟩)) wx := fun wx => by
     have := HA.out.idx (n - 3) hin wx
     rwa [show (((n - 3) : Nat) : Int) = (n : Int) - 1 - 2 from by omega] at this
    have hb1 : b1 < w.heap.size := HA.out.lt (by omega)
    have hca := HA.out.seg (n - 3) hin
    have hxa := nth_lt HA.out.lim (n - 3)
    go_wp2
    go_roundw
    case rel => exact ⟨3, by omega, rfl, rfl⟩
    case measure => simp [intOf]
   ·have hz : nth la (n - 3) = 0 := nth_beyond (by omega)
    have HZ : Hid (nth la (n - 3) = 0) := hz
    clear hz
    go_wp2
    go_roundw
    case rel => exact ⟨3, by omega, rfl, by simp only [topLimb_3_0, topLimb_3_1, topLimb_3_2, HZ.out]; rfl⟩
    case measure => simp [intOf]
  ·simp only [topLimb_3_0, topLimb_3_1, topLimb_3_2]
   have x0 := nth_lt HA.out.lim (n - 1)
   have x1 := nth_lt HA.out.lim (n - 2)
   have x2 := nth_lt HA.out.lim (n - 3)
   go_wp2
   go_quiet (fail)
   go_wp2
   go_ret
   exact ⟨belowDrewN (below_new _ _) _, ret_int (lead_bits x0 x1 x2 hsh htop)⟩
end Go.Proofs.YtioacnhbiinjbaaGreatDoor
