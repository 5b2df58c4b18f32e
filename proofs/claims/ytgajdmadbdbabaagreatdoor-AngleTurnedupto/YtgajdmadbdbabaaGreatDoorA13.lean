/- Part 13 of the walks and of the mathematics under them: XA XB XC XD XE XF XG XH AWG AWR AWS. -/
import Derived.Test.YtgajdmadbdbabaaGreatDoorA10
import Derived.Test.YtgajdmadbdbabaaGreatDoorA12
import Derived.Test.YtgajdmadbdbabaaGreatDoorA11
set_option maxHeartbeats 16000000
set_option maxRecDepth 100000
/- XA -/
namespace Go.Proofs.YtgajdmadbdbabaaGreatDoor
open Go.RowKit Cx
attribute [local go_sem ↓] Go.wp_at_zero Go.wp_at_succ
theorem wayConj_walk {w : World} {cax cay : C3} {ax ay : Rat} (hax : QV w (.agg #[.bool cax.n, .slice cax.u cax.nu cax.cu, .slice cax.l cax.nl cax.cl]) ax) (hay : QV w (.agg #[.bool cay.n, .slice cay.u cay.nu cay.cu, .slice cay.l cay.nl cay.cl]) ay)  :
    Calls Tryz.prog 147 #[.agg #[.bool cax.n, .slice cax.u cax.nu cax.cu, .slice cax.l cax.nl cax.cl, .bool cay.n, .slice cay.u cay.nu cay.cu, .slice cay.l cay.nl cay.cl]] w fun e w' => Below w.heap.size w w' ∧ ∃ v, e = .returned v ∧ WV w' v ax (-ay) := by
  obtain ⟨hb0, hk0, hk1, hsz⟩ := boxes2 w #[.bool cax.n, .slice cax.u cax.nu cax.cu, .slice cax.l cax.nl cax.cl, .bool cay.n, .slice cay.u cay.nu cay.cu, .slice cay.l cay.nl cay.cl] #[.bool false, .slice none 0 0, .slice none 0 0, .bool false, .slice none 0 0, .slice none 0 0] 86 86
  have HB0 := hideIt hb0
  have HSZ := hideIt hsz
  have HK0 := hideIt hk0
  have HK1 := hideIt hk1
  have Hax := hideIt (hax.below hb0)
  have Hay := hideIt (hay.below hb0)
  clear hb0 hsz hk0 hk1 hax hay 
  go_enter Tryz.func147, Tryz.ntmps147
  go_wp2_with fail
  generalize ((w.alloc (.cells #[.bool cax.n, .slice cax.u cax.nu cax.cu, .slice cax.l cax.nl cax.cl, .bool cay.n, .slice cay.u cay.nu cay.cu, .slice cay.l cay.nl cay.cl] 86)).alloc (.cells #[.bool false, .slice none 0 0, .slice none 0 0, .bool false, .slice none 0 0, .slice none 0 0] 86)) = W0 at *
  have HS : Hid (∀ w', Below W0.heap.size W0 w' → w'.cell? ⟨w.heap.size, 0, none⟩ = some (.bool cax.n) ∧ w'.cell? ⟨w.heap.size, 1, none⟩ = some (.slice cax.u cax.nu cax.cu) ∧ w'.cell? ⟨w.heap.size, 2, none⟩ = some (.slice cax.l cax.nl cax.cl) ∧ w'.cell? ⟨w.heap.size, 3, none⟩ = some (.bool cay.n) ∧ w'.cell? ⟨w.heap.size, 4, none⟩ = some (.slice cay.u cay.nu cay.cu) ∧ w'.cell? ⟨w.heap.size, 5, none⟩ = some (.slice cay.l cay.nl cay.cl)) := fun w' hb => ⟨(HK0.out.below hb (by rw [HSZ.out]; omega)).cell 0, (HK0.out.below hb (by rw [HSZ.out]; omega)).cell 1, (HK0.out.below hb (by rw [HSZ.out]; omega)).cell 2, (HK0.out.below hb (by rw [HSZ.out]; omega)).cell 3, (HK0.out.below hb (by rw [HSZ.out]; omega)).cell 4, (HK0.out.below hb (by rw [HSZ.out]; omega)).cell 5⟩
  have HSS : Hid (∀ w', Below W0.heap.size W0 w' → ∀ x0 x1 x2 x3 x4 x5 : Value, ((((((w'.setCell ⟨w.heap.size + 1, 0, none⟩ (x0)).setCell ⟨w.heap.size + 1, 1, none⟩ (x1)).setCell ⟨w.heap.size + 1, 2, none⟩ (x2)).setCell ⟨w.heap.size + 1, 3, none⟩ (x3)).setCell ⟨w.heap.size + 1, 4, none⟩ (x4)).setCell ⟨w.heap.size + 1, 5, none⟩ (x5)).cell? ⟨w.heap.size, 0, none⟩ = some (.bool cax.n) ∧ ((((((w'.setCell ⟨w.heap.size + 1, 0, none⟩ (x0)).setCell ⟨w.heap.size + 1, 1, none⟩ (x1)).setCell ⟨w.heap.size + 1, 2, none⟩ (x2)).setCell ⟨w.heap.size + 1, 3, none⟩ (x3)).setCell ⟨w.heap.size + 1, 4, none⟩ (x4)).setCell ⟨w.heap.size + 1, 5, none⟩ (x5)).cell? ⟨w.heap.size, 1, none⟩ = some (.slice cax.u cax.nu cax.cu) ∧ ((((((w'.setCell ⟨w.heap.size + 1, 0, none⟩ (x0)).setCell ⟨w.heap.size + 1, 1, none⟩ (x1)).setCell ⟨w.heap.size + 1, 2, none⟩ (x2)).setCell ⟨w.heap.size + 1, 3, none⟩ (x3)).setCell ⟨w.heap.size + 1, 4, none⟩ (x4)).setCell ⟨w.heap.size + 1, 5, none⟩ (x5)).cell? ⟨w.heap.size, 2, none⟩ = some (.slice cax.l cax.nl cax.cl) ∧ ((((((w'.setCell ⟨w.heap.size + 1, 0, none⟩ (x0)).setCell ⟨w.heap.size + 1, 1, none⟩ (x1)).setCell ⟨w.heap.size + 1, 2, none⟩ (x2)).setCell ⟨w.heap.size + 1, 3, none⟩ (x3)).setCell ⟨w.heap.size + 1, 4, none⟩ (x4)).setCell ⟨w.heap.size + 1, 5, none⟩ (x5)).cell? ⟨w.heap.size, 3, none⟩ = some (.bool cay.n) ∧ ((((((w'.setCell ⟨w.heap.size + 1, 0, none⟩ (x0)).setCell ⟨w.heap.size + 1, 1, none⟩ (x1)).setCell ⟨w.heap.size + 1, 2, none⟩ (x2)).setCell ⟨w.heap.size + 1, 3, none⟩ (x3)).setCell ⟨w.heap.size + 1, 4, none⟩ (x4)).setCell ⟨w.heap.size + 1, 5, none⟩ (x5)).cell? ⟨w.heap.size, 4, none⟩ = some (.slice cay.u cay.nu cay.cu) ∧ ((((((w'.setCell ⟨w.heap.size + 1, 0, none⟩ (x0)).setCell ⟨w.heap.size + 1, 1, none⟩ (x1)).setCell ⟨w.heap.size + 1, 2, none⟩ (x2)).setCell ⟨w.heap.size + 1, 3, none⟩ (x3)).setCell ⟨w.heap.size + 1, 4, none⟩ (x4)).setCell ⟨w.heap.size + 1, 5, none⟩ (x5)).cell? ⟨w.heap.size, 5, none⟩ = some (.slice cay.l cay.nl cay.cl)) := fun w' hb x0 x1 x2 x3 x4 x5 => ⟨((HK0.out.below hb (by rw [HSZ.out]; omega)).off6 (g := w.heap.size + 1) (by omega) x0 x1 x2 x3 x4 x5).cell 0, ((HK0.out.below hb (by rw [HSZ.out]; omega)).off6 (g := w.heap.size + 1) (by omega) x0 x1 x2 x3 x4 x5).cell 1, ((HK0.out.below hb (by rw [HSZ.out]; omega)).off6 (g := w.heap.size + 1) (by omega) x0 x1 x2 x3 x4 x5).cell 2, ((HK0.out.below hb (by rw [HSZ.out]; omega)).off6 (g := w.heap.size + 1) (by omega) x0 x1 x2 x3 x4 x5).cell 3, ((HK0.out.below hb (by rw [HSZ.out]; omega)).off6 (g := w.heap.size + 1) (by omega) x0 x1 x2 x3 x4 x5).cell 4, ((HK0.out.below hb (by rw [HSZ.out]; omega)).off6 (g := w.heap.size + 1) (by omega) x0 x1 x2 x3 x4 x5).cell 5⟩
  obtain ⟨z0, z1, z2, z3, z4, z5⟩ := HS.out W0 (Below.refl _ _)
  go_region_held3 (fun w' => w'.cell? ⟨w.heap.size, 0, none⟩ = some (.bool cax.n) ∧ w'.cell? ⟨w.heap.size, 1, none⟩ = some (.slice cax.u cax.nu cax.cu) ∧ w'.cell? ⟨w.heap.size, 2, none⟩ = some (.slice cax.l cax.nl cax.cl) ∧ w'.cell? ⟨w.heap.size, 3, none⟩ = some (.bool cay.n) ∧ w'.cell? ⟨w.heap.size, 4, none⟩ = some (.slice cay.u cay.nu cay.cu) ∧ w'.cell? ⟨w.heap.size, 5, none⟩ = some (.slice cay.l cay.nl cay.cl)) (first | go_keep | exact hs1 | exact hkS)
    (first
      | (go_at_call 107; refine (negative_calls (w := W0.drew) (Hay.out.below (Below.drew (Below.refl _ _)))).mono ?_; rintro e w1 ⟨hb1, v1, rfl, hv1⟩; have hbl1 : Below W0.heap.size W0 w1 := (Below.drew (Below.refl _ W0)).trans hb1; obtain ⟨d1, rfl⟩ := qv_open hv1; have hs1 := HS.out w1 hbl1; have hkr := HK1.out.below hbl1 (by rw [HSZ.out]; omega); obtain ⟨r0, r1, r2, r3, r4, r5, f0, f1, f2, f3, f4, f5⟩ := hkr.all6; have hkS := HSS.out w1 hbl1 (.bool cax.n) (.slice cax.u cax.nu cax.cu) (.slice cax.l cax.nl cax.cl) (.bool d1.n) (.slice d1.u d1.nu d1.cu) (.slice d1.l d1.nl d1.cl))
      )
  all_goals
    go_wp2
    obtain ⟨k0, k1, k2, k3, k4, k5, _, _, _, _, _, _⟩ := (hkr.put6 (.bool cax.n) (.slice cax.u cax.nu cax.cu) (.slice cax.l cax.nl cax.cl) (.bool d1.n) (.slice d1.u d1.nu d1.cu) (.slice d1.l d1.nl d1.cl)).all6
    refine bodyPost_ret (v := .agg #[.bool cax.n, .slice cax.u cax.nu cax.cu, .slice cax.l cax.nl cax.cl, .bool d1.n, .slice d1.u d1.nu d1.cu, .slice d1.l d1.nl d1.cl]) (by simp [results, Tryz.results147, go_sem, k0, k1, k2, k3, k4, k5]) rfl ⟨Below.put6 (HB0.out.trans (hbl1.mono HB0.out.size)) (by omega) (.bool cax.n) (.slice cax.u cax.nu cax.cu) (.slice cax.l cax.nl cax.cl) (.bool d1.n) (.slice d1.u d1.nu d1.cu) (.slice d1.l d1.nl d1.cl), _, rfl, ?_⟩
    have hst := Stays.put6 hkr (by simp [notLimb]) (.bool cax.n) (.slice cax.u cax.nu cax.cu) (.slice cax.l cax.nl cax.cl) (.bool d1.n) (.slice d1.u d1.nu d1.cu) (.slice d1.l d1.nl d1.cl) rfl rfl rfl rfl rfl rfl
    exact ⟨cax, d1, rfl, hst.qv (Hax.out.below hbl1), hst.qv hv1⟩
theorem wayConj_calls {w : World} {va : Value} {ax ay : Rat} (ha : WV w va ax ay) :
    Calls Tryz.prog 147 #[va] w fun e w' => Below w.heap.size w w' ∧ ∃ v, e = .returned v ∧ WV w' v ax (-ay) := by
  obtain ⟨c1, c2, rfl, h1, h2⟩ := ha
  exact wayConj_walk h1 h2
theorem wayProd_walk {w : World} {cax cay cbx cbz : C3} {ax ay bx bz : Rat} (hax : QV w (.agg #[.bool cax.n, .slice cax.u cax.nu cax.cu, .slice cax.l cax.nl cax.cl]) ax) (hay : QV w (.agg #[.bool cay.n, .slice cay.u cay.nu cay.cu, .slice cay.l cay.nl cay.cl]) ay) (hbx : QV w (.agg #[.bool cbx.n, .slice cbx.u cbx.nu cbx.cu, .slice cbx.l cbx.nl cbx.cl]) bx) (hbz : QV w (.agg #[.bool cbz.n, .slice cbz.u cbz.nu cbz.cu, .slice cbz.l cbz.nl cbz.cl]) bz) {k l : Nat} (f1 : QS k ax) (f2 : QS k ay) (f3 : QS l bx) (f4 : QS l bz) (hk : 2 * (k + l + 1) + 1 ≤ 35184372088640) :
    Calls Tryz.prog 103 #[.agg #[.bool cax.n, .slice cax.u cax.nu cax.cu, .slice cax.l cax.nl cax.cl, .bool cay.n, .slice cay.u cay.nu cay.cu, .slice cay.l cay.nl cay.cl], .agg #[.bool cbx.n, .slice cbx.u cbx.nu cbx.cu, .slice cbx.l cbx.nl cbx.cl, .bool cbz.n, .slice cbz.u cbz.nu cbz.cu, .slice cbz.l cbz.nl cbz.cl]] w fun e w' => Below w.heap.size w w' ∧ ∃ v, e = .returned v ∧ WV w' v (ax * bx + ay * -bz) (ax * bz - -ay * bx) := by
  obtain ⟨hb0, hk0, hk1, hk2, hsz⟩ := boxes3 w #[.bool cax.n, .slice cax.u cax.nu cax.cu, .slice cax.l cax.nl cax.cl, .bool cay.n, .slice cay.u cay.nu cay.cu, .slice cay.l cay.nl cay.cl] #[.bool cbx.n, .slice cbx.u cbx.nu cbx.cu, .slice cbx.l cbx.nl cbx.cl, .bool cbz.n, .slice cbz.u cbz.nu cbz.cu, .slice cbz.l cbz.nl cbz.cl] #[.bool false, .slice none 0 0, .slice none 0 0, .bool false, .slice none 0 0, .slice none 0 0] 86 86 86
  have HB0 := hideIt hb0
  have HSZ := hideIt hsz
  have HK0 := hideIt hk0
  have HK1 := hideIt hk1
  have HK2 := hideIt hk2
  have Hax := hideIt (hax.below hb0)
  have Hay := hideIt (hay.below hb0)
  have Hbx := hideIt (hbx.below hb0)
  have Hbz := hideIt (hbz.below hb0)
  have F1 := hideIt f1
  have F2 := hideIt f2
  have F3 := hideIt f3
  have F4 := hideIt f4
  have HK := hideIt hk
  clear hb0 hsz hk0 hk1 hk2 hax hay hbx hbz f1 f2 f3 f4 hk
  have HL : Hid (k + l + (k + l) + 1 ≤ 35184372088640) := by have := HK.out; show _ ≤ _; omega
  have F5 : Hid (QS l (-bz)) := F4.out.neg
  have F6 : Hid (QS k (-ay)) := F2.out.neg
  go_enter Tryz.func103, Tryz.ntmps103
  go_wp2_with fail
  generalize (((w.alloc (.cells #[.bool cax.n, .slice cax.u cax.nu cax.cu, .slice cax.l cax.nl cax.cl, .bool cay.n, .slice cay.u cay.nu cay.cu, .slice cay.l cay.nl cay.cl] 86)).alloc (.cells #[.bool cbx.n, .slice cbx.u cbx.nu cbx.cu, .slice cbx.l cbx.nl cbx.cl, .bool cbz.n, .slice cbz.u cbz.nu cbz.cu, .slice cbz.l cbz.nl cbz.cl] 86)).alloc (.cells #[.bool false, .slice none 0 0, .slice none 0 0, .bool false, .slice none 0 0, .slice none 0 0] 86)) = W0 at *
  have HS : Hid (∀ w', Below W0.heap.size W0 w' → w'.cell? ⟨w.heap.size, 0, none⟩ = some (.bool cax.n) ∧ w'.cell? ⟨w.heap.size, 1, none⟩ = some (.slice cax.u cax.nu cax.cu) ∧ w'.cell? ⟨w.heap.size, 2, none⟩ = some (.slice cax.l cax.nl cax.cl) ∧ w'.cell? ⟨w.heap.size, 3, none⟩ = some (.bool cay.n) ∧ w'.cell? ⟨w.heap.size, 4, none⟩ = some (.slice cay.u cay.nu cay.cu) ∧ w'.cell? ⟨w.heap.size, 5, none⟩ = some (.slice cay.l cay.nl cay.cl) ∧ w'.cell? ⟨w.heap.size + 1, 0, none⟩ = some (.bool cbx.n) ∧ w'.cell? ⟨w.heap.size + 1, 1, none⟩ = some (.slice cbx.u cbx.nu cbx.cu) ∧ w'.cell? ⟨w.heap.size + 1, 2, none⟩ = some (.slice cbx.l cbx.nl cbx.cl) ∧ w'.cell? ⟨w.heap.size + 1, 3, none⟩ = some (.bool cbz.n) ∧ w'.cell? ⟨w.heap.size + 1, 4, none⟩ = some (.slice cbz.u cbz.nu cbz.cu) ∧ w'.cell? ⟨w.heap.size + 1, 5, none⟩ = some (.slice cbz.l cbz.nl cbz.cl)) := fun w' hb => ⟨(HK0.out.below hb (by rw [HSZ.out]; omega)).cell 0, (HK0.out.below hb (by rw [HSZ.out]; omega)).cell 1, (HK0.out.below hb (by rw [HSZ.out]; omega)).cell 2, (HK0.out.below hb (by rw [HSZ.out]; omega)).cell 3, (HK0.out.below hb (by rw [HSZ.out]; omega)).cell 4, (HK0.out.below hb (by rw [HSZ.out]; omega)).cell 5, (HK1.out.below hb (by rw [HSZ.out]; omega)).cell 0, (HK1.out.below hb (by rw [HSZ.out]; omega)).cell 1, (HK1.out.below hb (by rw [HSZ.out]; omega)).cell 2, (HK1.out.below hb (by rw [HSZ.out]; omega)).cell 3, (HK1.out.below hb (by rw [HSZ.out]; omega)).cell 4, (HK1.out.below hb (by rw [HSZ.out]; omega)).cell 5⟩
  have HSS : Hid (∀ w', Below W0.heap.size W0 w' → ∀ x0 x1 x2 x3 x4 x5 : Value, ((((((w'.setCell ⟨w.heap.size + 1 + 1, 0, none⟩ (x0)).setCell ⟨w.heap.size + 1 + 1, 1, none⟩ (x1)).setCell ⟨w.heap.size + 1 + 1, 2, none⟩ (x2)).setCell ⟨w.heap.size + 1 + 1, 3, none⟩ (x3)).setCell ⟨w.heap.size + 1 + 1, 4, none⟩ (x4)).setCell ⟨w.heap.size + 1 + 1, 5, none⟩ (x5)).cell? ⟨w.heap.size, 0, none⟩ = some (.bool cax.n) ∧ ((((((w'.setCell ⟨w.heap.size + 1 + 1, 0, none⟩ (x0)).setCell ⟨w.heap.size + 1 + 1, 1, none⟩ (x1)).setCell ⟨w.heap.size + 1 + 1, 2, none⟩ (x2)).setCell ⟨w.heap.size + 1 + 1, 3, none⟩ (x3)).setCell ⟨w.heap.size + 1 + 1, 4, none⟩ (x4)).setCell ⟨w.heap.size + 1 + 1, 5, none⟩ (x5)).cell? ⟨w.heap.size, 1, none⟩ = some (.slice cax.u cax.nu cax.cu) ∧ ((((((w'.setCell ⟨w.heap.size + 1 + 1, 0, none⟩ (x0)).setCell ⟨w.heap.size + 1 + 1, 1, none⟩ (x1)).setCell ⟨w.heap.size + 1 + 1, 2, none⟩ (x2)).setCell ⟨w.heap.size + 1 + 1, 3, none⟩ (x3)).setCell ⟨w.heap.size + 1 + 1, 4, none⟩ (x4)).setCell ⟨w.heap.size + 1 + 1, 5, none⟩ (x5)).cell? ⟨w.heap.size, 2, none⟩ = some (.slice cax.l cax.nl cax.cl) ∧ ((((((w'.setCell ⟨w.heap.size + 1 + 1, 0, none⟩ (x0)).setCell ⟨w.heap.size + 1 + 1, 1, none⟩ (x1)).setCell ⟨w.heap.size + 1 + 1, 2, none⟩ (x2)).setCell ⟨w.heap.size + 1 + 1, 3, none⟩ (x3)).setCell ⟨w.heap.size + 1 + 1, 4, none⟩ (x4)).setCell ⟨w.heap.size + 1 + 1, 5, none⟩ (x5)).cell? ⟨w.heap.size, 3, none⟩ = some (.bool cay.n) ∧ ((((((w'.setCell ⟨w.heap.size + 1 + 1, 0, none⟩ (x0)).setCell ⟨w.heap.size + 1 + 1, 1, none⟩ (x1)).setCell ⟨w.heap.size + 1 + 1, 2, none⟩ (x2)).setCell ⟨w.heap.size + 1 + 1, 3, none⟩ (x3)).setCell ⟨w.heap.size + 1 + 1, 4, none⟩ (x4)).setCell ⟨w.heap.size + 1 + 1, 5, none⟩ (x5)).cell? ⟨w.heap.size, 4, none⟩ = some (.slice cay.u cay.nu cay.cu) ∧ ((((((w'.setCell ⟨w.heap.size + 1 + 1, 0, none⟩ (x0)).setCell ⟨w.heap.size + 1 + 1, 1, none⟩ (x1)).setCell ⟨w.heap.size + 1 + 1, 2, none⟩ (x2)).setCell ⟨w.heap.size + 1 + 1, 3, none⟩ (x3)).setCell ⟨w.heap.size + 1 + 1, 4, none⟩ (x4)).setCell ⟨w.heap.size + 1 + 1, 5, none⟩ (x5)).cell? ⟨w.heap.size, 5, none⟩ = some (.slice cay.l cay.nl cay.cl) ∧ ((((((w'.setCell ⟨w.heap.size + 1 + 1, 0, none⟩ (x0)).setCell ⟨w.heap.size + 1 + 1, 1, none⟩ (x1)).setCell ⟨w.heap.size + 1 + 1, 2, none⟩ (x2)).setCell ⟨w.heap.size + 1 + 1, 3, none⟩ (x3)).setCell ⟨w.heap.size + 1 + 1, 4, none⟩ (x4)).setCell ⟨w.heap.size + 1 + 1, 5, none⟩ (x5)).cell? ⟨w.heap.size + 1, 0, none⟩ = some (.bool cbx.n) ∧ ((((((w'.setCell ⟨w.heap.size + 1 + 1, 0, none⟩ (x0)).setCell ⟨w.heap.size + 1 + 1, 1, none⟩ (x1)).setCell ⟨w.heap.size + 1 + 1, 2, none⟩ (x2)).setCell ⟨w.heap.size + 1 + 1, 3, none⟩ (x3)).setCell ⟨w.heap.size + 1 + 1, 4, none⟩ (x4)).setCell ⟨w.heap.size + 1 + 1, 5, none⟩ (x5)).cell? ⟨w.heap.size + 1, 1, none⟩ = some (.slice cbx.u cbx.nu cbx.cu) ∧ ((((((w'.setCell ⟨w.heap.size + 1 + 1, 0, none⟩ (x0)).setCell ⟨w.heap.size + 1 + 1, 1, none⟩ (x1)).setCell ⟨w.heap.size + 1 + 1, 2, none⟩ (x2)).setCell ⟨w.heap.size + 1 + 1, 3, none⟩ (x3)).setCell ⟨w.heap.size + 1 + 1, 4, none⟩ (x4)).setCell ⟨w.heap.size + 1 + 1, 5, none⟩ (x5)).cell? ⟨w.heap.size + 1, 2, none⟩ = some (.slice cbx.l cbx.nl cbx.cl) ∧ ((((((w'.setCell ⟨w.heap.size + 1 + 1, 0, none⟩ (x0)).setCell ⟨w.heap.size + 1 + 1, 1, none⟩ (x1)).setCell ⟨w.heap.size + 1 + 1, 2, none⟩ (x2)).setCell ⟨w.heap.size + 1 + 1, 3, none⟩ (x3)).setCell ⟨w.heap.size + 1 + 1, 4, none⟩ (x4)).setCell ⟨w.heap.size + 1 + 1, 5, none⟩ (x5)).cell? ⟨w.heap.size + 1, 3, none⟩ = some (.bool cbz.n) ∧ ((((((w'.setCell ⟨w.heap.size + 1 + 1, 0, none⟩ (x0)).setCell ⟨w.heap.size + 1 + 1, 1, none⟩ (x1)).setCell ⟨w.heap.size + 1 + 1, 2, none⟩ (x2)).setCell ⟨w.heap.size + 1 + 1, 3, none⟩ (x3)).setCell ⟨w.heap.size + 1 + 1, 4, none⟩ (x4)).setCell ⟨w.heap.size + 1 + 1, 5, none⟩ (x5)).cell? ⟨w.heap.size + 1, 4, none⟩ = some (.slice cbz.u cbz.nu cbz.cu) ∧ ((((((w'.setCell ⟨w.heap.size + 1 + 1, 0, none⟩ (x0)).setCell ⟨w.heap.size + 1 + 1, 1, none⟩ (x1)).setCell ⟨w.heap.size + 1 + 1, 2, none⟩ (x2)).setCell ⟨w.heap.size + 1 + 1, 3, none⟩ (x3)).setCell ⟨w.heap.size + 1 + 1, 4, none⟩ (x4)).setCell ⟨w.heap.size + 1 + 1, 5, none⟩ (x5)).cell? ⟨w.heap.size + 1, 5, none⟩ = some (.slice cbz.l cbz.nl cbz.cl)) := fun w' hb x0 x1 x2 x3 x4 x5 => ⟨((HK0.out.below hb (by rw [HSZ.out]; omega)).off6 (g := w.heap.size + 1 + 1) (by omega) x0 x1 x2 x3 x4 x5).cell 0, ((HK0.out.below hb (by rw [HSZ.out]; omega)).off6 (g := w.heap.size + 1 + 1) (by omega) x0 x1 x2 x3 x4 x5).cell 1, ((HK0.out.below hb (by rw [HSZ.out]; omega)).off6 (g := w.heap.size + 1 + 1) (by omega) x0 x1 x2 x3 x4 x5).cell 2, ((HK0.out.below hb (by rw [HSZ.out]; omega)).off6 (g := w.heap.size + 1 + 1) (by omega) x0 x1 x2 x3 x4 x5).cell 3, ((HK0.out.below hb (by rw [HSZ.out]; omega)).off6 (g := w.heap.size + 1 + 1) (by omega) x0 x1 x2 x3 x4 x5).cell 4, ((HK0.out.below hb (by rw [HSZ.out]; omega)).off6 (g := w.heap.size + 1 + 1) (by omega) x0 x1 x2 x3 x4 x5).cell 5, ((HK1.out.below hb (by rw [HSZ.out]; omega)).off6 (g := w.heap.size + 1 + 1) (by omega) x0 x1 x2 x3 x4 x5).cell 0, ((HK1.out.below hb (by rw [HSZ.out]; omega)).off6 (g := w.heap.size + 1 + 1) (by omega) x0 x1 x2 x3 x4 x5).cell 1, ((HK1.out.below hb (by rw [HSZ.out]; omega)).off6 (g := w.heap.size + 1 + 1) (by omega) x0 x1 x2 x3 x4 x5).cell 2, ((HK1.out.below hb (by rw [HSZ.out]; omega)).off6 (g := w.heap.size + 1 + 1) (by omega) x0 x1 x2 x3 x4 x5).cell 3, ((HK1.out.below hb (by rw [HSZ.out]; omega)).off6 (g := w.heap.size + 1 + 1) (by omega) x0 x1 x2 x3 x4 x5).cell 4, ((HK1.out.below hb (by rw [HSZ.out]; omega)).off6 (g := w.heap.size + 1 + 1) (by omega) x0 x1 x2 x3 x4 x5).cell 5⟩
  obtain ⟨z0, z1, z2, z3, z4, z5, z6, z7, z8, z9, z10, z11⟩ := HS.out W0 (Below.refl _ _)
  go_region_held3 (fun w' => w'.cell? ⟨w.heap.size, 0, none⟩ = some (.bool cax.n) ∧ w'.cell? ⟨w.heap.size, 1, none⟩ = some (.slice cax.u cax.nu cax.cu) ∧ w'.cell? ⟨w.heap.size, 2, none⟩ = some (.slice cax.l cax.nl cax.cl) ∧ w'.cell? ⟨w.heap.size, 3, none⟩ = some (.bool cay.n) ∧ w'.cell? ⟨w.heap.size, 4, none⟩ = some (.slice cay.u cay.nu cay.cu) ∧ w'.cell? ⟨w.heap.size, 5, none⟩ = some (.slice cay.l cay.nl cay.cl) ∧ w'.cell? ⟨w.heap.size + 1, 0, none⟩ = some (.bool cbx.n) ∧ w'.cell? ⟨w.heap.size + 1, 1, none⟩ = some (.slice cbx.u cbx.nu cbx.cu) ∧ w'.cell? ⟨w.heap.size + 1, 2, none⟩ = some (.slice cbx.l cbx.nl cbx.cl) ∧ w'.cell? ⟨w.heap.size + 1, 3, none⟩ = some (.bool cbz.n) ∧ w'.cell? ⟨w.heap.size + 1, 4, none⟩ = some (.slice cbz.u cbz.nu cbz.cu) ∧ w'.cell? ⟨w.heap.size + 1, 5, none⟩ = some (.slice cbz.l cbz.nl cbz.cl)) (first | go_keep | exact hs1 | exact hs2 | exact hs3 | exact hs4 | exact hkS)
    (first
      | (go_at_call_of 147 (Value.agg #[Value.bool cbx.n, Value.slice cbx.u cbx.nu cbx.cu, Value.slice cbx.l cbx.nl cbx.cl, Value.bool cbz.n, Value.slice cbz.u cbz.nu cbz.cu, Value.slice cbz.l cbz.nl cbz.cl]); refine (wayConj_calls (w := W0.drew) ⟨cbx, cbz, rfl, (Hbx.out.below (Below.drew (Below.refl _ _))), (Hbz.out.below (Below.drew (Below.refl _ _)))⟩).mono ?_; rintro e w1 ⟨hb1, v1, rfl, hv1⟩; have hbl1 : Below W0.heap.size W0 w1 := (Below.drew (Below.refl _ W0)).trans hb1; have hw1 := hv1; obtain ⟨d1, e1, rfl, hx1, hy1⟩ := hw1; have hs1 := HS.out w1 hbl1)
      | (go_at_call 123; refine (wayDot_calls ⟨cax, cay, rfl, (Hax.out.below hbl1), (Hay.out.below hbl1)⟩ hv1 F1.out F2.out F3.out F5.out HK.out).mono ?_; rintro e w2 ⟨hb2, v2, rfl, hv2⟩; have hbl2 := hbl1.trans (hb2.mono hbl1.size); obtain ⟨d2, rfl⟩ := qv_open hv2; have hs2 := HS.out w2 hbl2)
      | (go_at_call_of 147 (Value.agg #[Value.bool cax.n, Value.slice cax.u cax.nu cax.cu, Value.slice cax.l cax.nl cax.cl, Value.bool cay.n, Value.slice cay.u cay.nu cay.cu, Value.slice cay.l cay.nl cay.cl]); refine (wayConj_calls ⟨cax, cay, rfl, (Hax.out.below hbl2), (Hay.out.below hbl2)⟩).mono ?_; rintro e w3 ⟨hb3, v3, rfl, hv3⟩; have hbl3 := hbl2.trans (hb3.mono hbl2.size); have hw3 := hv3; obtain ⟨d3, e3, rfl, hx3, hy3⟩ := hw3; have hs3 := HS.out w3 hbl3)
      | (go_at_call 115; refine (wayCross_calls hv3 ⟨cbx, cbz, rfl, (Hbx.out.below hbl3), (Hbz.out.below hbl3)⟩ F1.out F6.out F3.out F4.out HL.out).mono ?_; rintro e w4 ⟨hb4, v4, rfl, hv4⟩; have hbl4 := hbl3.trans (hb4.mono hbl3.size); obtain ⟨d4, rfl⟩ := qv_open hv4; have hs4 := HS.out w4 hbl4; have hkr := HK2.out.below hbl4 (by rw [HSZ.out]; omega); obtain ⟨r0, r1, r2, r3, r4, r5, f0, f1, f2, f3, f4, f5⟩ := hkr.all6; have hkS := HSS.out w4 hbl4 (.bool d2.n) (.slice d2.u d2.nu d2.cu) (.slice d2.l d2.nl d2.cl) (.bool d4.n) (.slice d4.u d4.nu d4.cu) (.slice d4.l d4.nl d4.cl))
      )
  all_goals
    go_wp2
    obtain ⟨k0, k1, k2, k3, k4, k5, _, _, _, _, _, _⟩ := (hkr.put6 (.bool d2.n) (.slice d2.u d2.nu d2.cu) (.slice d2.l d2.nl d2.cl) (.bool d4.n) (.slice d4.u d4.nu d4.cu) (.slice d4.l d4.nl d4.cl)).all6
    refine bodyPost_ret (v := .agg #[.bool d2.n, .slice d2.u d2.nu d2.cu, .slice d2.l d2.nl d2.cl, .bool d4.n, .slice d4.u d4.nu d4.cu, .slice d4.l d4.nl d4.cl]) (by simp [results, Tryz.results103, go_sem, k0, k1, k2, k3, k4, k5]) rfl ⟨Below.put6 (HB0.out.trans (hbl4.mono HB0.out.size)) (by omega) (.bool d2.n) (.slice d2.u d2.nu d2.cu) (.slice d2.l d2.nl d2.cl) (.bool d4.n) (.slice d4.u d4.nu d4.cu) (.slice d4.l d4.nl d4.cl), _, rfl, ?_⟩
    have hst := Stays.put6 hkr (by simp [notLimb]) (.bool d2.n) (.slice d2.u d2.nu d2.cu) (.slice d2.l d2.nl d2.cl) (.bool d4.n) (.slice d4.u d4.nu d4.cu) (.slice d4.l d4.nl d4.cl) rfl rfl rfl rfl rfl rfl
    exact ⟨d2, d4, rfl, hst.qv ((hv2.below hb3).below hb4), hst.qv hv4⟩
theorem prod_re (a b c d : Rat) : a * c + b * -d = a * c - b * d := by grind
theorem prod_im (a b c d : Rat) : a * d - -b * c = a * d + b * c := by grind
theorem wayProd_calls {w : World} {va vb : Value} {ax ay bx bz : Rat} {k l : Nat} (ha : WV w va ax ay) (hb : WV w vb bx bz) (f1 : QS k ax) (f2 : QS k ay) (f3 : QS l bx) (f4 : QS l bz) (hk : 2 * (k + l + 1) + 1 ≤ 35184372088640) :
    Calls Tryz.prog 103 #[va, vb] w fun e w' => Below w.heap.size w w' ∧ ∃ v, e = .returned v ∧ WV w' v (ax * bx - ay * bz) (ax * bz + ay * bx) := by
  obtain ⟨c1, c2, rfl, h1, h2⟩ := ha
  obtain ⟨c3, c4, rfl, h3, h4⟩ := hb
  have := wayProd_walk h1 h2 h3 h4 f1 f2 f3 f4 hk
  rwa [prod_re, prod_im] at this
end Go.Proofs.YtgajdmadbdbabaaGreatDoor
/- XB -/
namespace Go.Proofs.YtgajdmadbdbabaaGreatDoor
open Go.RowKit Cx
attribute [local go_sem ↓] Go.wp_at_zero Go.wp_at_succ
theorem QS.fac2 {K : Nat} {x y q : Rat} (f1 : QS K x) (f2 : QS K y) (h : q ∈ [x, y]) : QS (3 * K + 1) (q * Cx.fac [x, y]) := by
  rw [← pl_mul h]
  exact (QS.pl (all2 f1 f2) h).mono (by simp; omega)
theorem cell_put6 (w : World) {g g' : Nat} (hne : g' ≠ g) (j : Nat) (x0 x1 x2 x3 x4 x5 : Value) : ((((((w.setCell ⟨g', 0, none⟩ (x0)).setCell ⟨g', 1, none⟩ (x1)).setCell ⟨g', 2, none⟩ (x2)).setCell ⟨g', 3, none⟩ (x3)).setCell ⟨g', 4, none⟩ (x4)).setCell ⟨g', 5, none⟩ (x5)).cell? ⟨g, j, none⟩ = w.cell? ⟨g, j, none⟩ := by
  have h : ∀ (w : World) (i : Nat) (x : Value), (w.setCell ⟨g', i, none⟩ x).cell? ⟨g, j, none⟩ = w.cell? ⟨g, j, none⟩ := fun w i x => World.cell?_setCell_other _ _ _ _ (by first | exact fun h => hne (congrArg Addr.block h) | exact fun h => hne (congrArg Addr.block h).symm)
  simp only [h]
theorem anglePlain_walk {w : World} {a b : C3} {x y : Rat} (hx : QV w (.agg #[.bool a.n, .slice a.u a.nu a.cu, .slice a.l a.nl a.cl]) x) (hy : QV w (.agg #[.bool b.n, .slice b.u b.nu b.cu, .slice b.l b.nl b.cl]) y) {K : Nat} (f1 : QS K x) (f2 : QS K y) (hk : 3 * K + 2 ≤ 35184372088640) :
    Calls Tryz.prog 146 #[.agg #[.bool a.n, .slice a.u a.nu a.cu, .slice a.l a.nl a.cl, .bool b.n, .slice b.u b.nu b.cu, .slice b.l b.nl b.cl]] w fun e w' => Below w.heap.size w w' ∧ ∃ v, e = .returned v ∧ WV w' v (pl (gN [x, y]) (lD [x, y]) (fb [x, y]) x) (pl (gN [x, y]) (lD [x, y]) (fb [x, y]) y) := by
  obtain ⟨hb0, hk0, hk1, hsz⟩ := boxes2 w #[.bool a.n, .slice a.u a.nu a.cu, .slice a.l a.nl a.cl, .bool b.n, .slice b.u b.nu b.cu, .slice b.l b.nl b.cl] #[.bool false, .slice none 0 0, .slice none 0 0, .bool false, .slice none 0 0, .slice none 0 0] 86 86
  have HB0 := hideIt hb0
  have HSZ := hideIt hsz
  have HK1 := hideIt hk1
  have HX := hideIt (hx.below hb0)
  have HY := hideIt (hy.below hb0)
  have FA := hideIt (all2 f1 f2)
  have HK := hideIt hk
  clear hb0 hsz hk0 hk1 hx hy f1 f2 hk
  have K2 : Hid (([x, y] : List Rat).length * K + K + 2 ≤ 35184372088640) := by have := HK.out; show 2 * K + K + 2 ≤ _; omega
  have HPL : Hid (plain [x, y] = [(pl (gN [x, y]) (lD [x, y]) (fb [x, y]) x), (pl (gN [x, y]) (lD [x, y]) (fb [x, y]) y)]) := rfl
  go_enter Tryz.func146, Tryz.ntmps146
  go_wp2_with fail
  generalize ((w.alloc (.cells #[.bool a.n, .slice a.u a.nu a.cu, .slice a.l a.nl a.cl, .bool b.n, .slice b.u b.nu b.cu, .slice b.l b.nl b.cl] 86)).alloc (.cells #[.bool false, .slice none 0 0, .slice none 0 0, .bool false, .slice none 0 0, .slice none 0 0] 86)) = W0 at *
  have hbA := below_new W0 (.cells #[.bool a.n, .slice a.u a.nu a.cu, .slice a.l a.nl a.cl, .bool b.n, .slice b.u b.nu b.cu, .slice b.l b.nl b.cl] 84)
  have hq3 := qrow2 HX.out HY.out
  rw [HSZ.out] at hq3
  refine (plain_new hq3 FA.out (by simp) K2.out).mono ?_
  rintro e w1 ⟨hb1, v1, rfl, hv1, hnew⟩
  rw [HPL.out] at hv1
  have hbl1 := hideIt (hbA.trans (hb1.mono hbA.size))
  have HK1' := hideIt (HK1.out.below hbl1.out (by rw [HSZ.out]; omega))
  obtain ⟨r0, r1, r2, r3, r4, r5, j0, j1, j2, j3, j4, j5⟩ := HK1'.out.all6
  obtain ⟨p, hp⟩ : ∃ p, p = (pl (gN [x, y]) (lD [x, y]) (fb [x, y]) x) := ⟨_, rfl⟩
  obtain ⟨q, hq⟩ : ∃ q, q = (pl (gN [x, y]) (lD [x, y]) (fb [x, y]) y) := ⟨_, rfl⟩
  rw [← hp, ← hq] at hv1
  have Hp := hideIt hp
  have Hq := hideIt hq
  clear hp hq
  obtain ⟨g, off, cap, rfl, hgl, hcells⟩ := hv1
  have hne : Hid (w.heap.size + 1 ≠ g) := by
    obtain ⟨_, _, _, _, e, hge⟩ := hnew
    cases e
    have h1 := hbA.size
    have h2 := HSZ.out
    show _ ≠ _
    omega
  clear hnew
  obtain ⟨d, d0, d1, d2, hd⟩ := hcells 0 (by simp)
  obtain ⟨e, e0, e1, e2, he⟩ := hcells 1 (by simp)
  have i0 : ∀ wx, (Instr.indexAt 163 (.slice (some ⟨g, off, none⟩) 2 cap) (.int .i64 0)).run Tryz.prog wx = .ok (.pointer (some ⟨g, off, none⟩)) wx := fun wx => qrow_idx (k := 0) (by decide) wx
  have i1 : ∀ wx, (Instr.indexAt 163 (.slice (some ⟨g, off, none⟩) 2 cap) (.int .i64 1)).run Tryz.prog wx = .ok (.pointer (some ⟨g, off + 3, none⟩)) wx := fun wx => qrow_idx (k := 1) (by decide) wx
  have HD : Hid (QV w1 (.agg #[.bool d.n, .slice d.u d.nu d.cu, .slice d.l d.nl d.cl]) p) := hd
  have HE : Hid (QV w1 (.agg #[.bool e.n, .slice e.u e.nu e.cu, .slice e.l e.nl e.cl]) q) := he
  have HS0 : Hid (w1.cell? ⟨g, off, none⟩ = some (.bool d.n) ∧ w1.cell? ⟨g, off + 1, none⟩ = some (.slice d.u d.nu d.cu) ∧ w1.cell? ⟨g, off + 2, none⟩ = some (.slice d.l d.nl d.cl) ∧ w1.cell? ⟨g, off + 3, none⟩ = some (.bool e.n) ∧ w1.cell? ⟨g, off + 4, none⟩ = some (.slice e.u e.nu e.cu) ∧ w1.cell? ⟨g, off + 5, none⟩ = some (.slice e.l e.nl e.cl)) := ⟨d0, d1, d2, e0, e1, e2⟩
  clear d0 d1 d2 e0 e1 e2 hd he hcells hb1 hbA hq3
  obtain ⟨z0, z1, z2, z3, z4, z5⟩ := HS0.out
  have HSS : Hid (∀ w', Below w1.heap.size w1 w' → ∀ x0 x1 x2 x3 x4 x5 : Value, ((((((w'.setCell ⟨w.heap.size + 1, 0, none⟩ (x0)).setCell ⟨w.heap.size + 1, 1, none⟩ (x1)).setCell ⟨w.heap.size + 1, 2, none⟩ (x2)).setCell ⟨w.heap.size + 1, 3, none⟩ (x3)).setCell ⟨w.heap.size + 1, 4, none⟩ (x4)).setCell ⟨w.heap.size + 1, 5, none⟩ (x5)).cell? ⟨g, off, none⟩ = some (.bool d.n) ∧ ((((((w'.setCell ⟨w.heap.size + 1, 0, none⟩ (x0)).setCell ⟨w.heap.size + 1, 1, none⟩ (x1)).setCell ⟨w.heap.size + 1, 2, none⟩ (x2)).setCell ⟨w.heap.size + 1, 3, none⟩ (x3)).setCell ⟨w.heap.size + 1, 4, none⟩ (x4)).setCell ⟨w.heap.size + 1, 5, none⟩ (x5)).cell? ⟨g, off + 1, none⟩ = some (.slice d.u d.nu d.cu) ∧ ((((((w'.setCell ⟨w.heap.size + 1, 0, none⟩ (x0)).setCell ⟨w.heap.size + 1, 1, none⟩ (x1)).setCell ⟨w.heap.size + 1, 2, none⟩ (x2)).setCell ⟨w.heap.size + 1, 3, none⟩ (x3)).setCell ⟨w.heap.size + 1, 4, none⟩ (x4)).setCell ⟨w.heap.size + 1, 5, none⟩ (x5)).cell? ⟨g, off + 2, none⟩ = some (.slice d.l d.nl d.cl) ∧ ((((((w'.setCell ⟨w.heap.size + 1, 0, none⟩ (x0)).setCell ⟨w.heap.size + 1, 1, none⟩ (x1)).setCell ⟨w.heap.size + 1, 2, none⟩ (x2)).setCell ⟨w.heap.size + 1, 3, none⟩ (x3)).setCell ⟨w.heap.size + 1, 4, none⟩ (x4)).setCell ⟨w.heap.size + 1, 5, none⟩ (x5)).cell? ⟨g, off + 3, none⟩ = some (.bool e.n) ∧ ((((((w'.setCell ⟨w.heap.size + 1, 0, none⟩ (x0)).setCell ⟨w.heap.size + 1, 1, none⟩ (x1)).setCell ⟨w.heap.size + 1, 2, none⟩ (x2)).setCell ⟨w.heap.size + 1, 3, none⟩ (x3)).setCell ⟨w.heap.size + 1, 4, none⟩ (x4)).setCell ⟨w.heap.size + 1, 5, none⟩ (x5)).cell? ⟨g, off + 4, none⟩ = some (.slice e.u e.nu e.cu) ∧ ((((((w'.setCell ⟨w.heap.size + 1, 0, none⟩ (x0)).setCell ⟨w.heap.size + 1, 1, none⟩ (x1)).setCell ⟨w.heap.size + 1, 2, none⟩ (x2)).setCell ⟨w.heap.size + 1, 3, none⟩ (x3)).setCell ⟨w.heap.size + 1, 4, none⟩ (x4)).setCell ⟨w.heap.size + 1, 5, none⟩ (x5)).cell? ⟨g, off + 5, none⟩ = some (.slice e.l e.nl e.cl)) := by
    intro w' hb x0 x1 x2 x3 x4 x5
    have h := HS0.out
    simp only [cell_put6 w' hne.out, hb.cell (p := ⟨g, _, none⟩) hgl]
    exact h
  have hkS := HSS.out w1 (Below.refl _ _) (.bool d.n) (.slice d.u d.nu d.cu) (.slice d.l d.nl d.cl) (.bool e.n) (.slice e.u e.nu e.cu) (.slice e.l e.nl e.cl)
  have hkD := HSS.out w1.drew (Below.drew (Below.refl _ _)) (.bool d.n) (.slice d.u d.nu d.cu) (.slice d.l d.nl d.cl) (.bool e.n) (.slice e.u e.nu e.cu) (.slice e.l e.nl e.cl)
  go_wp2_with fail
  go_region_held3 (fun w' => w'.cell? ⟨g, off, none⟩ = some (.bool d.n) ∧ w'.cell? ⟨g, off + 1, none⟩ = some (.slice d.u d.nu d.cu) ∧ w'.cell? ⟨g, off + 2, none⟩ = some (.slice d.l d.nl d.cl) ∧ w'.cell? ⟨g, off + 3, none⟩ = some (.bool e.n) ∧ w'.cell? ⟨g, off + 4, none⟩ = some (.slice e.u e.nu e.cu) ∧ w'.cell? ⟨g, off + 5, none⟩ = some (.slice e.l e.nl e.cl)) (first | go_keep | exact hkS | exact hkD) (fail)
  all_goals
   go_wp2
   obtain ⟨k0, k1, k2, k3, k4, k5, _⟩ := (HK1'.out.put6 (.bool d.n) (.slice d.u d.nu d.cu) (.slice d.l d.nl d.cl) (.bool e.n) (.slice e.u e.nu e.cu) (.slice e.l e.nl e.cl)).all6
   refine bodyPost_ret (v := .agg #[.bool d.n, .slice d.u d.nu d.cu, .slice d.l d.nl d.cl, .bool e.n, .slice e.u e.nu e.cu, .slice e.l e.nl e.cl]) (by simp [results, Tryz.results146, go_sem, k0, k1, k2, k3, k4, k5]) rfl ⟨Below.drew (Below.put6 (HB0.out.trans (hbl1.out.mono HB0.out.size)) (by omega) (.bool d.n) (.slice d.u d.nu d.cu) (.slice d.l d.nl d.cl) (.bool e.n) (.slice e.u e.nu e.cu) (.slice e.l e.nl e.cl)), _, rfl, ?_⟩
   have hst := Stays.put6 HK1'.out (by simp [notLimb]) (.bool d.n) (.slice d.u d.nu d.cu) (.slice d.l d.nl d.cl) (.bool e.n) (.slice e.u e.nu e.cu) (.slice e.l e.nl e.cl) rfl rfl rfl rfl rfl rfl
   exact ⟨d, e, rfl, by rw [← Hp.out]; exact (hst.qv HD.out).below (Below.drew (Below.refl _ _)), by rw [← Hq.out]; exact (hst.qv HE.out).below (Below.drew (Below.refl _ _))⟩
theorem anglePlain_calls {w : World} {v : Value} {x y : Rat} (h : WV w v x y) {K : Nat} (f1 : QS K x) (f2 : QS K y) (hk : 3 * K + 2 ≤ 35184372088640) :
    Calls Tryz.prog 146 #[v] w fun e w' => Below w.heap.size w w' ∧ ∃ v, e = .returned v ∧ WV w' v (x * fac [x, y]) (y * fac [x, y]) := by
  obtain ⟨a, b, rfl, h1, h2⟩ := h
  have := anglePlain_walk h1 h2 f1 f2 hk
  rwa [pl_mul (qs := [x, y]) (by simp), pl_mul (qs := [x, y]) (by simp)] at this
theorem angleText_walk {w : World} {a b : C3} {x y : Rat} (hx : QV w (.agg #[.bool a.n, .slice a.u a.nu a.cu, .slice a.l a.nl a.cl]) x) (hy : QV w (.agg #[.bool b.n, .slice b.u b.nu b.cu, .slice b.l b.nl b.cl]) y) {K : Nat} (f1 : QS K x) (f2 : QS K y) (hk : 3 * K + 2 ≤ 35184372088640) (tab : Tab w) :
    Calls Tryz.prog 99 #[.agg #[.bool a.n, .slice a.u a.nu a.cu, .slice a.l a.nl a.cl, .bool b.n, .slice b.u b.nu b.cu, .slice b.l b.nl b.cl]] w fun e w' => Below w.heap.size w w' ∧ ∃ v, e = .returned v ∧ PV v (tx (y * fac [x, y])) (tx (x * fac [x, y])) := by
  obtain ⟨hb0, hk0, hk1, hsz⟩ := boxes2 w #[.bool a.n, .slice a.u a.nu a.cu, .slice a.l a.nl a.cl, .bool b.n, .slice b.u b.nu b.cu, .slice b.l b.nl b.cl] #[.string ⟨#[]⟩, .string ⟨#[]⟩] 86 67
  have HB0 := hideIt hb0
  have HSZ := hideIt hsz
  have HK0 := hideIt hk0
  have HK1 := hideIt hk1
  have HX := hideIt (hx.below hb0)
  have HY := hideIt (hy.below hb0)
  have HTAB := hideIt tab
  have F1 := hideIt f1
  have F2 := hideIt f2
  have HK := hideIt hk
  have P1 : Hid (QS (3 * K + 1) (x * fac [x, y])) := QS.fac2 f1 f2 (by simp)
  have P2 : Hid (QS (3 * K + 1) (y * fac [x, y])) := QS.fac2 f1 f2 (by simp)
  have K1 : Hid (3 * K + 1 ≤ 35184372088640) := by show _ ≤ _; omega
  clear hb0 hsz hk0 hk1 hx hy tab f1 f2 hk
  go_enter Tryz.func99, Tryz.ntmps99
  go_wp2_with fail
  generalize ((w.alloc (.cells #[.bool a.n, .slice a.u a.nu a.cu, .slice a.l a.nl a.cl, .bool b.n, .slice b.u b.nu b.cu, .slice b.l b.nl b.cl] 86)).alloc (.cells #[.string ⟨#[]⟩, .string ⟨#[]⟩] 67)) = W0 at *
  refine (anglePlain_calls ⟨a, b, rfl, HX.out, HY.out⟩ F1.out F2.out HK.out).mono ?_
  rintro e w1 ⟨hb1, v1, rfl, p, q, rfl, hp, hq⟩
  have hA := HK0.out.below hb1 (by rw [HSZ.out]; omega)
  have hR := HK1.out.below hb1 (by rw [HSZ.out]; omega)
  obtain ⟨r0, r1, r2, r3, r4, r5, j0, j1, j2, j3, j4, j5⟩ := hA.all6
  have HA := hideIt (hA.put6 (.bool p.n) (.slice p.u p.nu p.cu) (.slice p.l p.nl p.cl) (.bool q.n) (.slice q.u q.nu q.cu) (.slice q.l q.nl q.cl))
  have HR := hideIt (hR.off6 (g := w.heap.size) (by omega) (.bool p.n) (.slice p.u p.nu p.cu) (.slice p.l p.nl p.cl) (.bool q.n) (.slice q.u q.nu q.cu) (.slice q.l q.nl q.cl))
  have HST := hideIt (Stays.put6 hA (by simp [notLimb]) (.bool p.n) (.slice p.u p.nu p.cu) (.slice p.l p.nl p.cl) (.bool q.n) (.slice q.u q.nu q.cu) (.slice q.l q.nl q.cl) rfl rfl rfl rfl rfl rfl)
  have HBW := hideIt (Below.put6 (HB0.out.trans (hb1.mono HB0.out.size)) (Nat.le_refl _) (.bool p.n) (.slice p.u p.nu p.cu) (.slice p.l p.nl p.cl) (.bool q.n) (.slice q.u q.nu q.cu) (.slice q.l q.nl q.cl))
  have HP := hideIt (HST.out.qv hp)
  have HQ := hideIt (HST.out.qv hq)
  clear hA hR hp hq HST hb1
  go_wp2_with fail
  generalize ((((((w1.setCell ⟨w.heap.size, 0, none⟩ (.bool p.n)).setCell ⟨w.heap.size, 1, none⟩ (.slice p.u p.nu p.cu)).setCell ⟨w.heap.size, 2, none⟩ (.slice p.l p.nl p.cl)).setCell ⟨w.heap.size, 3, none⟩ (.bool q.n)).setCell ⟨w.heap.size, 4, none⟩ (.slice q.u q.nu q.cu)).setCell ⟨w.heap.size, 5, none⟩ (.slice q.l q.nl q.cl)) = w2 at *
  have HTB := hideIt (HTAB.out.below HBW.out)
  have HS : Hid (∀ w', Below w2.heap.size w2 w' → w'.cell? ⟨w.heap.size, 0, none⟩ = some (.bool p.n) ∧ w'.cell? ⟨w.heap.size, 1, none⟩ = some (.slice p.u p.nu p.cu) ∧ w'.cell? ⟨w.heap.size, 2, none⟩ = some (.slice p.l p.nl p.cl) ∧ w'.cell? ⟨w.heap.size, 3, none⟩ = some (.bool q.n) ∧ w'.cell? ⟨w.heap.size, 4, none⟩ = some (.slice q.u q.nu q.cu) ∧ w'.cell? ⟨w.heap.size, 5, none⟩ = some (.slice q.l q.nl q.cl)) := fun w' hb => ⟨(HA.out.below hb HA.out.lt).cell 0, (HA.out.below hb HA.out.lt).cell 1, (HA.out.below hb HA.out.lt).cell 2, (HA.out.below hb HA.out.lt).cell 3, (HA.out.below hb HA.out.lt).cell 4, (HA.out.below hb HA.out.lt).cell 5⟩
  have HSS : Hid (∀ w', Below w2.heap.size w2 w' → ∀ x0 x1 : Value, ((w'.setCell ⟨w.heap.size + 1, 0, none⟩ x0).setCell ⟨w.heap.size + 1, 1, none⟩ x1).cell? ⟨w.heap.size, 0, none⟩ = some (.bool p.n) ∧ ((w'.setCell ⟨w.heap.size + 1, 0, none⟩ x0).setCell ⟨w.heap.size + 1, 1, none⟩ x1).cell? ⟨w.heap.size, 1, none⟩ = some (.slice p.u p.nu p.cu) ∧ ((w'.setCell ⟨w.heap.size + 1, 0, none⟩ x0).setCell ⟨w.heap.size + 1, 1, none⟩ x1).cell? ⟨w.heap.size, 2, none⟩ = some (.slice p.l p.nl p.cl) ∧ ((w'.setCell ⟨w.heap.size + 1, 0, none⟩ x0).setCell ⟨w.heap.size + 1, 1, none⟩ x1).cell? ⟨w.heap.size, 3, none⟩ = some (.bool q.n) ∧ ((w'.setCell ⟨w.heap.size + 1, 0, none⟩ x0).setCell ⟨w.heap.size + 1, 1, none⟩ x1).cell? ⟨w.heap.size, 4, none⟩ = some (.slice q.u q.nu q.cu) ∧ ((w'.setCell ⟨w.heap.size + 1, 0, none⟩ x0).setCell ⟨w.heap.size + 1, 1, none⟩ x1).cell? ⟨w.heap.size, 5, none⟩ = some (.slice q.l q.nl q.cl)) := fun w' hb x0 x1 => by
    have h := (HA.out.below hb HA.out.lt).off2 (g := w.heap.size + 1) (by omega) x0 x1
    exact ⟨h.cell 0, h.cell 1, h.cell 2, h.cell 3, h.cell 4, h.cell 5⟩
  clear r0 r1 r2 r3 r4 r5 j0 j1 j2 j3 j4 j5
  obtain ⟨z0, z1, z2, z3, z4, z5⟩ := HS.out w2 (Below.refl _ _)
  go_region_held3 (fun w' => w'.cell? ⟨w.heap.size, 0, none⟩ = some (.bool p.n) ∧ w'.cell? ⟨w.heap.size, 1, none⟩ = some (.slice p.u p.nu p.cu) ∧ w'.cell? ⟨w.heap.size, 2, none⟩ = some (.slice p.l p.nl p.cl) ∧ w'.cell? ⟨w.heap.size, 3, none⟩ = some (.bool q.n) ∧ w'.cell? ⟨w.heap.size, 4, none⟩ = some (.slice q.u q.nu q.cu) ∧ w'.cell? ⟨w.heap.size, 5, none⟩ = some (.slice q.l q.nl q.cl)) (first | go_keep | exact hs3 | exact hs4 | exact hkS)
    (first
      | (go_at_call_of 78 (Value.agg #[Value.bool q.n, Value.slice q.u q.nu q.cu, Value.slice q.l q.nl q.cl]); refine (text_calls (w := w2.drew) (HQ.out.below (Below.drew (Below.refl _ _))) P2.out K1.out (HTB.out.below (Below.drew (Below.refl _ _)))).mono ?_; rintro e w3 ⟨hb3, s3, rfl, ht3⟩; have hbl3 : Below w2.heap.size w2 w3 := (Below.drew (Below.refl _ w2)).trans hb3; have hs3 := HS.out w3 hbl3)
      | (go_at_call_of 78 (Value.agg #[Value.bool p.n, Value.slice p.u p.nu p.cu, Value.slice p.l p.nl p.cl]); refine (text_calls (HP.out.below hbl3) P1.out K1.out (HTB.out.below hbl3)).mono ?_; rintro e w4 ⟨hb4, s4, rfl, ht4⟩; have hbl4 := hbl3.trans (hb4.mono hbl3.size); have hs4 := HS.out w4 hbl4; have hkr := HR.out.below hbl4 HR.out.lt; obtain ⟨r0, r1, j0, j1⟩ := hkr.all2; have hkS := HSS.out w4 hbl4 (.string s3) (.string s4))
      )
  all_goals
    go_wp2
    obtain ⟨k0, k1, _⟩ := (hkr.put2 (.string s3) (.string s4)).all2
    exact bodyPost_ret (v := .agg #[.string s3, .string s4]) (by simp [results, Tryz.results99, go_sem, k0, k1]) rfl ⟨Below.put2 (HBW.out.trans (hbl4.mono HBW.out.size)) (by omega) _ _, _, rfl, s3, s4, rfl, ht3, ht4⟩
theorem angleText_calls {w : World} {v : Value} {x y : Rat} (h : WV w v x y) {K : Nat} (f1 : QS K x) (f2 : QS K y) (hk : 3 * K + 2 ≤ 35184372088640) (tab : Tab w) :
    Calls Tryz.prog 99 #[v] w fun e w' => Below w.heap.size w w' ∧ ∃ v, e = .returned v ∧ PV v (tx (y * fac [x, y])) (tx (x * fac [x, y])) := by
  obtain ⟨a, b, rfl, h1, h2⟩ := h
  exact angleText_walk h1 h2 f1 f2 hk tab
end Go.Proofs.YtgajdmadbdbabaaGreatDoor
/- XC -/
namespace Go.Proofs.YtgajdmadbdbabaaGreatDoor
open Go.RowKit Cx
attribute [local go_sem ↓] Go.wp_at_zero Go.wp_at_succ
theorem angleRead_walk {w : World} {s c : ByteArray} (s1 : s.data.toList.length ≤ 4294967296) (s2 : c.data.toList.length ≤ 4294967296) :
    Calls Tryz.prog 98 #[.agg #[.string s, .string c]] w fun e w' => Below w.heap.size w w' ∧ ((rd c.data.toList = 0 ∧ rd s.data.toList = 0 ∧ e = .returned (.tuple #[.agg #[.bool false, .slice none 0 0, .slice none 0 0, .bool false, .slice none 0 0, .slice none 0 0], .int .i64 5])) ∨ (¬ (rd c.data.toList = 0 ∧ rd s.data.toList = 0) ∧ ∃ v, e = .returned (.tuple #[v, .int .i64 0]) ∧ WV w' v (rd c.data.toList) (rd s.data.toList))) := by
  obtain ⟨hb0, hk0, hk1, hsz⟩ := boxes2 w #[.string s, .string c] #[.bool false, .slice none 0 0, .slice none 0 0, .bool false, .slice none 0 0, .slice none 0 0] 67 86
  have HB0 := hideIt hb0
  have HSZ := hideIt hsz
  have HK1 := hideIt hk1
  have L1 := hideIt s1
  have L2 := hideIt s2
  clear hb0 hsz hk0 hk1 s1 s2
  go_enter Tryz.func98, Tryz.ntmps98
  go_wp2_with fail
  generalize ((w.alloc (.cells #[.string s, .string c] 67)).alloc (.cells #[.bool false, .slice none 0 0, .slice none 0 0, .bool false, .slice none 0 0, .slice none 0 0] 86)) = W0 at *
  refine (wayRead_calls ⟨c, s, rfl, rfl, rfl⟩ L2.out L1.out).mono ?_
  rintro _ w1 ⟨hb1, v1, rfl, d, e, rfl, hx, hy⟩
  have HX := hideIt hx
  have HY := hideIt hy
  have HB1 := hideIt hb1
  clear hx hy hb1
  go_wp2_with fail
  obtain ⟨w2, hw2⟩ : ∃ w2, w2 = w1.alloc (.cells #[.bool d.n, .slice d.u d.nu d.cu, .slice d.l d.nl d.cl, .bool e.n, .slice e.u e.nu e.cu, .slice e.l e.nl e.cl] 86) := ⟨_, rfl⟩
  have hbA := below_new w1 (.cells #[.bool d.n, .slice d.u d.nu d.cu, .slice d.l d.nl d.cl, .bool e.n, .slice e.u e.nu e.cu, .slice e.l e.nl e.cl] 86)
  have HKG := hideIt (Blk.new w1 #[.bool d.n, .slice d.u d.nu d.cu, .slice d.l d.nl d.cl, .bool e.n, .slice e.u e.nu e.cu, .slice e.l e.nl e.cl] 86)
  rw [← hw2] at hbA HKG ⊢
  obtain ⟨G, hG⟩ : ∃ G, G = w1.heap.size := ⟨_, rfl⟩
  rw [← hG] at HKG ⊢
  clear hG hw2
  have HB2 := hideIt (HB1.out.trans (hbA.mono HB1.out.size))
  have HX2 := hideIt (HX.out.below hbA)
  have HY2 := hideIt (HY.out.below hbA)
  clear hbA
  refine (nowhere_calls ⟨d, e, rfl, HX2.out, HY2.out⟩).mono ?_
  rintro _ w3 ⟨hb3, rfl⟩
  have HB3 := hideIt (HB2.out.trans (hb3.mono HB2.out.size))
  have HX3 := hideIt (HX2.out.below hb3)
  have HY3 := hideIt (HY2.out.below hb3)
  have HG3 := hideIt (HKG.out.below hb3 HKG.out.lt)
  have HR := hideIt (HK1.out.below HB3.out (by rw [HSZ.out]; omega))
  have HBW := hideIt (HB0.out.trans (HB3.out.mono HB0.out.size))
  clear hb3
  obtain ⟨r0, r1, r2, r3, r4, r5, f0, f1, f2, f3, f4, f5⟩ := HG3.out.all6
  obtain ⟨q0, q1, q2, q3, q4, q5, g0, g1, g2, g3, g4, g5⟩ := HR.out.all6
  by_cases h0 : rd c.data.toList = 0 ∧ rd s.data.toList = 0
  · rw [decide_eq_true h0]
    have H0 := hideIt h0
    clear h0
    go_wp2
    obtain ⟨k0, k1, k2, k3, k4, k5, _⟩ := (HR.out.put6 (.bool false) (.slice none 0 0) (.slice none 0 0) (.bool false) (.slice none 0 0) (.slice none 0 0)).all6
    exact bodyPost_ret (v := .tuple #[.agg #[.bool false, .slice none 0 0, .slice none 0 0, .bool false, .slice none 0 0, .slice none 0 0], .int .i64 5]) (by simp [results, Tryz.results98, go_sem, k0, k1, k2, k3, k4, k5]) rfl ⟨Below.put6 HBW.out (by omega) _ _ _ _ _ _, Or.inl ⟨H0.out.1, H0.out.2, rfl⟩⟩
  · rw [decide_eq_false h0]
    have H0 := hideIt h0
    clear h0
    go_wp2
    obtain ⟨k0, k1, k2, k3, k4, k5, _⟩ := (HR.out.put6 (.bool d.n) (.slice d.u d.nu d.cu) (.slice d.l d.nl d.cl) (.bool e.n) (.slice e.u e.nu e.cu) (.slice e.l e.nl e.cl)).all6
    have hst := Stays.put6 HR.out (by simp [notLimb]) (.bool d.n) (.slice d.u d.nu d.cu) (.slice d.l d.nl d.cl) (.bool e.n) (.slice e.u e.nu e.cu) (.slice e.l e.nl e.cl) rfl rfl rfl rfl rfl rfl
    exact bodyPost_ret (v := .tuple #[.agg #[.bool d.n, .slice d.u d.nu d.cu, .slice d.l d.nl d.cl, .bool e.n, .slice e.u e.nu e.cu, .slice e.l e.nl e.cl], .int .i64 0]) (by simp [results, Tryz.results98, go_sem, k0, k1, k2, k3, k4, k5]) rfl ⟨Below.put6 HBW.out (by omega) _ _ _ _ _ _, Or.inr ⟨H0.out, _, rfl, d, e, rfl, hst.qv HX3.out, hst.qv HY3.out⟩⟩
theorem angleRead_calls {w : World} {v : Value} {ls lc : List UInt8} (h : PV v ls lc) (s1 : ls.length ≤ 4294967296) (s2 : lc.length ≤ 4294967296) :
    Calls Tryz.prog 98 #[v] w fun e w' => Below w.heap.size w w' ∧ ((rd lc = 0 ∧ rd ls = 0 ∧ e = .returned (.tuple #[.agg #[.bool false, .slice none 0 0, .slice none 0 0, .bool false, .slice none 0 0, .slice none 0 0], .int .i64 5])) ∨ (¬ (rd lc = 0 ∧ rd ls = 0) ∧ ∃ v, e = .returned (.tuple #[v, .int .i64 0]) ∧ WV w' v (rd lc) (rd ls))) := by
  obtain ⟨a, b, rfl, rfl, rfl⟩ := h
  exact angleRead_walk s1 s2
def AngAns (none : Prop) (X Y : Rat) (s c : List UInt8) (z : Int) : Prop :=
  (none ∧ z = 5 ∧ s = [] ∧ c = []) ∨ (¬ none ∧ z = 0 ∧ s = tx (Y * fac [X, Y]) ∧ c = tx (X * fac [X, Y]))
theorem angBetween_walk {w : World} {a b p q : C3} {ux uy vx vy : Rat} (h1 : QV w (.agg #[.bool a.n, .slice a.u a.nu a.cu, .slice a.l a.nl a.cl]) ux) (h2 : QV w (.agg #[.bool b.n, .slice b.u b.nu b.cu, .slice b.l b.nl b.cl]) uy) (h3 : QV w (.agg #[.bool p.n, .slice p.u p.nu p.cu, .slice p.l p.nl p.cl]) vx) (h4 : QV w (.agg #[.bool q.n, .slice q.u q.nu q.cu, .slice q.l q.nl q.cl]) vy) {k l : Nat} (f1 : QS k ux) (f2 : QS k uy) (f3 : QS l vx) (f4 : QS l vy) (hk : 3 * (k + l + (k + l) + 1) + 2 ≤ 35184372088640) (tab : Tab w) :
    Calls Tryz.prog 101 #[.agg #[.bool a.n, .slice a.u a.nu a.cu, .slice a.l a.nl a.cl, .bool b.n, .slice b.u b.nu b.cu, .slice b.l b.nl b.cl], .agg #[.bool p.n, .slice p.u p.nu p.cu, .slice p.l p.nl p.cl, .bool q.n, .slice q.u q.nu q.cu, .slice q.l q.nl q.cl]] w fun e w' => Below w.heap.size w w' ∧ ∃ (sa sb : ByteArray) (z : Int), e = .returned (.tuple #[.agg #[.string sa, .string sb], .int .i64 z]) ∧ AngAns ((ux = 0 ∧ uy = 0) ∨ (vx = 0 ∧ vy = 0)) (ux * vx - -uy * vy) (ux * vy + -uy * vx) sa.data.toList sb.data.toList z := by
  obtain ⟨hb0, hk0, hk1, hk2, hsz⟩ := boxes3 w #[.bool a.n, .slice a.u a.nu a.cu, .slice a.l a.nl a.cl, .bool b.n, .slice b.u b.nu b.cu, .slice b.l b.nl b.cl] #[.bool p.n, .slice p.u p.nu p.cu, .slice p.l p.nl p.cl, .bool q.n, .slice q.u q.nu q.cu, .slice q.l q.nl q.cl] #[.string ⟨#[]⟩, .string ⟨#[]⟩] 86 86 67
  have HB0 := hideIt hb0
  have HSZ := hideIt hsz
  have HK0 := hideIt hk0
  have HK1 := hideIt hk1
  have HK2 := hideIt hk2
  have H1 := hideIt (h1.below hb0)
  have H2 := hideIt (h2.below hb0)
  have H3 := hideIt (h3.below hb0)
  have H4 := hideIt (h4.below hb0)
  have HTAB := hideIt (tab.below hb0)
  have F1 := hideIt f1
  have F2 := hideIt f2.neg
  have F3 := hideIt f3
  have F4 := hideIt f4
  have HK := hideIt hk
  have FX : Hid (QS (k + l + (k + l) + 1) (ux * vx - -uy * vy)) := (f1.mul f3).sub (f2.neg.mul f4)
  have FY : Hid (QS (k + l + (k + l) + 1) (ux * vy + -uy * vx)) := (f1.mul f4).add (f2.neg.mul f3)
  have K1 : Hid (2 * (k + l + 1) + 1 ≤ 35184372088640) := by show _ ≤ _; omega
  clear hb0 hsz hk0 hk1 hk2 h1 h2 h3 h4 tab f1 f2 f3 f4 hk
  go_enter Tryz.func101, Tryz.ntmps101
  go_wp2_with fail
  generalize (((w.alloc (.cells #[.bool a.n, .slice a.u a.nu a.cu, .slice a.l a.nl a.cl, .bool b.n, .slice b.u b.nu b.cu, .slice b.l b.nl b.cl] 86)).alloc (.cells #[.bool p.n, .slice p.u p.nu p.cu, .slice p.l p.nl p.cl, .bool q.n, .slice q.u q.nu q.cu, .slice q.l q.nl q.cl] 86)).alloc (.cells #[.string ⟨#[]⟩, .string ⟨#[]⟩] 67)) = W0 at *
  refine (nowhere_calls ⟨a, b, rfl, H1.out, H2.out⟩).mono ?_
  rintro _ w1 ⟨hb1, rfl⟩
  have HB1 := hideIt hb1
  clear hb1
  by_cases h0 : ux = 0 ∧ uy = 0
  · rw [decide_eq_true h0]
    have H0 := hideIt h0
    have HR := hideIt (HK2.out.below HB1.out (by rw [HSZ.out]; omega))
    have HBW := hideIt (HB0.out.trans (HB1.out.mono HB0.out.size))
    obtain ⟨q0, q1, g0, g1⟩ := HR.out.all2
    clear h0
    go_wp2
    obtain ⟨k0, k1, _⟩ := (HR.out.put2 (.string ⟨#[]⟩) (.string ⟨#[]⟩)).all2
    exact bodyPost_ret (v := .tuple #[.agg #[.string ⟨#[]⟩, .string ⟨#[]⟩], .int .i64 5]) (by simp [results, Tryz.results101, go_sem, k0, k1]) rfl ⟨Below.put2 HBW.out (by omega) _ _, _, _, _, rfl, Or.inl ⟨Or.inl H0.out, rfl, rfl, rfl⟩⟩
  · rw [decide_eq_false h0]
    have H0 := hideIt h0
    have HV1 := hideIt (HK1.out.below HB1.out (by rw [HSZ.out]; omega))
    obtain ⟨x0, x1, x2, x3, x4, x5, _⟩ := HV1.out.all6
    clear h0
    go_wp2_with fail
    refine (nowhere_calls ⟨p, q, rfl, H3.out.below HB1.out, H4.out.below HB1.out⟩).mono ?_
    rintro _ w2 ⟨hb2, rfl⟩
    have HB2 := hideIt (HB1.out.trans (hb2.mono HB1.out.size))
    clear hb2 x0 x1 x2 x3 x4 x5
    by_cases h0 : vx = 0 ∧ vy = 0
    · rw [decide_eq_true h0]
      have H5 := hideIt h0
      have HR := hideIt (HK2.out.below HB2.out (by rw [HSZ.out]; omega))
      have HBW := hideIt (HB0.out.trans (HB2.out.mono HB0.out.size))
      obtain ⟨q0, q1, g0, g1⟩ := HR.out.all2
      clear h0
      go_wp2
      obtain ⟨k0, k1, _⟩ := (HR.out.put2 (.string ⟨#[]⟩) (.string ⟨#[]⟩)).all2
      exact bodyPost_ret (v := .tuple #[.agg #[.string ⟨#[]⟩, .string ⟨#[]⟩], .int .i64 5]) (by simp [results, Tryz.results101, go_sem, k0, k1]) rfl ⟨Below.put2 HBW.out (by omega) _ _, _, _, _, rfl, Or.inl ⟨Or.inr H5.out, rfl, rfl, rfl⟩⟩
    · rw [decide_eq_false h0]
      have H5 := hideIt h0
      clear h0
      have HS : Hid (∀ w', Below W0.heap.size W0 w' → w'.cell? ⟨w.heap.size, 0, none⟩ = some (.bool a.n) ∧ w'.cell? ⟨w.heap.size, 1, none⟩ = some (.slice a.u a.nu a.cu) ∧ w'.cell? ⟨w.heap.size, 2, none⟩ = some (.slice a.l a.nl a.cl) ∧ w'.cell? ⟨w.heap.size, 3, none⟩ = some (.bool b.n) ∧ w'.cell? ⟨w.heap.size, 4, none⟩ = some (.slice b.u b.nu b.cu) ∧ w'.cell? ⟨w.heap.size, 5, none⟩ = some (.slice b.l b.nl b.cl) ∧ w'.cell? ⟨w.heap.size + 1, 0, none⟩ = some (.bool p.n) ∧ w'.cell? ⟨w.heap.size + 1, 1, none⟩ = some (.slice p.u p.nu p.cu) ∧ w'.cell? ⟨w.heap.size + 1, 2, none⟩ = some (.slice p.l p.nl p.cl) ∧ w'.cell? ⟨w.heap.size + 1, 3, none⟩ = some (.bool q.n) ∧ w'.cell? ⟨w.heap.size + 1, 4, none⟩ = some (.slice q.u q.nu q.cu) ∧ w'.cell? ⟨w.heap.size + 1, 5, none⟩ = some (.slice q.l q.nl q.cl)) := fun w' hb => ⟨(HK0.out.below hb (by rw [HSZ.out]; omega)).cell 0, (HK0.out.below hb (by rw [HSZ.out]; omega)).cell 1, (HK0.out.below hb (by rw [HSZ.out]; omega)).cell 2, (HK0.out.below hb (by rw [HSZ.out]; omega)).cell 3, (HK0.out.below hb (by rw [HSZ.out]; omega)).cell 4, (HK0.out.below hb (by rw [HSZ.out]; omega)).cell 5, (HK1.out.below hb (by rw [HSZ.out]; omega)).cell 0, (HK1.out.below hb (by rw [HSZ.out]; omega)).cell 1, (HK1.out.below hb (by rw [HSZ.out]; omega)).cell 2, (HK1.out.below hb (by rw [HSZ.out]; omega)).cell 3, (HK1.out.below hb (by rw [HSZ.out]; omega)).cell 4, (HK1.out.below hb (by rw [HSZ.out]; omega)).cell 5⟩
      have HSS : Hid (∀ w', Below W0.heap.size W0 w' → ∀ x0 x1 : Value, ((w'.setCell ⟨w.heap.size + 1 + 1, 0, none⟩ x0).setCell ⟨w.heap.size + 1 + 1, 1, none⟩ x1).cell? ⟨w.heap.size, 0, none⟩ = some (.bool a.n) ∧ ((w'.setCell ⟨w.heap.size + 1 + 1, 0, none⟩ x0).setCell ⟨w.heap.size + 1 + 1, 1, none⟩ x1).cell? ⟨w.heap.size, 1, none⟩ = some (.slice a.u a.nu a.cu) ∧ ((w'.setCell ⟨w.heap.size + 1 + 1, 0, none⟩ x0).setCell ⟨w.heap.size + 1 + 1, 1, none⟩ x1).cell? ⟨w.heap.size, 2, none⟩ = some (.slice a.l a.nl a.cl) ∧ ((w'.setCell ⟨w.heap.size + 1 + 1, 0, none⟩ x0).setCell ⟨w.heap.size + 1 + 1, 1, none⟩ x1).cell? ⟨w.heap.size, 3, none⟩ = some (.bool b.n) ∧ ((w'.setCell ⟨w.heap.size + 1 + 1, 0, none⟩ x0).setCell ⟨w.heap.size + 1 + 1, 1, none⟩ x1).cell? ⟨w.heap.size, 4, none⟩ = some (.slice b.u b.nu b.cu) ∧ ((w'.setCell ⟨w.heap.size + 1 + 1, 0, none⟩ x0).setCell ⟨w.heap.size + 1 + 1, 1, none⟩ x1).cell? ⟨w.heap.size, 5, none⟩ = some (.slice b.l b.nl b.cl) ∧ ((w'.setCell ⟨w.heap.size + 1 + 1, 0, none⟩ x0).setCell ⟨w.heap.size + 1 + 1, 1, none⟩ x1).cell? ⟨w.heap.size + 1, 0, none⟩ = some (.bool p.n) ∧ ((w'.setCell ⟨w.heap.size + 1 + 1, 0, none⟩ x0).setCell ⟨w.heap.size + 1 + 1, 1, none⟩ x1).cell? ⟨w.heap.size + 1, 1, none⟩ = some (.slice p.u p.nu p.cu) ∧ ((w'.setCell ⟨w.heap.size + 1 + 1, 0, none⟩ x0).setCell ⟨w.heap.size + 1 + 1, 1, none⟩ x1).cell? ⟨w.heap.size + 1, 2, none⟩ = some (.slice p.l p.nl p.cl) ∧ ((w'.setCell ⟨w.heap.size + 1 + 1, 0, none⟩ x0).setCell ⟨w.heap.size + 1 + 1, 1, none⟩ x1).cell? ⟨w.heap.size + 1, 3, none⟩ = some (.bool q.n) ∧ ((w'.setCell ⟨w.heap.size + 1 + 1, 0, none⟩ x0).setCell ⟨w.heap.size + 1 + 1, 1, none⟩ x1).cell? ⟨w.heap.size + 1, 4, none⟩ = some (.slice q.u q.nu q.cu) ∧ ((w'.setCell ⟨w.heap.size + 1 + 1, 0, none⟩ x0).setCell ⟨w.heap.size + 1 + 1, 1, none⟩ x1).cell? ⟨w.heap.size + 1, 5, none⟩ = some (.slice q.l q.nl q.cl)) := fun w' hb x0 x1 => by
        have h := (HK0.out.below hb (by rw [HSZ.out]; omega)).off2 (g := w.heap.size + 1 + 1) (by omega) x0 x1
        have h' := (HK1.out.below hb (by rw [HSZ.out]; omega)).off2 (g := w.heap.size + 1 + 1) (by omega) x0 x1
        exact ⟨h.cell 0, h.cell 1, h.cell 2, h.cell 3, h.cell 4, h.cell 5, h'.cell 0, h'.cell 1, h'.cell 2, h'.cell 3, h'.cell 4, h'.cell 5⟩
      have HBD : Hid (Below W0.heap.size W0 w2.drew) := Below.drew HB2.out
      obtain ⟨z0, z1, z2, z3, z4, z5, z6, z7, z8, z9, z10, z11⟩ := HS.out w2 HB2.out
      go_wp2_with fail
      go_region_held3 (fun w' => w'.cell? ⟨w.heap.size, 0, none⟩ = some (.bool a.n) ∧ w'.cell? ⟨w.heap.size, 1, none⟩ = some (.slice a.u a.nu a.cu) ∧ w'.cell? ⟨w.heap.size, 2, none⟩ = some (.slice a.l a.nl a.cl) ∧ w'.cell? ⟨w.heap.size, 3, none⟩ = some (.bool b.n) ∧ w'.cell? ⟨w.heap.size, 4, none⟩ = some (.slice b.u b.nu b.cu) ∧ w'.cell? ⟨w.heap.size, 5, none⟩ = some (.slice b.l b.nl b.cl) ∧ w'.cell? ⟨w.heap.size + 1, 0, none⟩ = some (.bool p.n) ∧ w'.cell? ⟨w.heap.size + 1, 1, none⟩ = some (.slice p.u p.nu p.cu) ∧ w'.cell? ⟨w.heap.size + 1, 2, none⟩ = some (.slice p.l p.nl p.cl) ∧ w'.cell? ⟨w.heap.size + 1, 3, none⟩ = some (.bool q.n) ∧ w'.cell? ⟨w.heap.size + 1, 4, none⟩ = some (.slice q.u q.nu q.cu) ∧ w'.cell? ⟨w.heap.size + 1, 5, none⟩ = some (.slice q.l q.nl q.cl)) (first | go_keep | exact hs3 | exact hs4 | exact hs5 | exact hkS)
        (first
          | (go_at_call 147; refine (wayConj_calls (w := w2.drew) ⟨a, b, rfl, H1.out.below HBD.out, H2.out.below HBD.out⟩).mono ?_; rintro _ w3 ⟨hb3, v3, rfl, hv3⟩; obtain ⟨d3, e3, rfl, hx3, hy3⟩ := hv3; have hbl3 : Below W0.heap.size W0 w3 := HBD.out.trans (hb3.mono HBD.out.size); have hs3 := HS.out w3 hbl3)
          | (go_at_call 103; refine (wayProd_calls ⟨d3, e3, rfl, hx3, hy3⟩ ⟨p, q, rfl, H3.out.below hbl3, H4.out.below hbl3⟩ F1.out F2.out F3.out F4.out K1.out).mono ?_; rintro _ w4 ⟨hb4, v4, rfl, hv4⟩; obtain ⟨d4, e4, rfl, hx4, hy4⟩ := hv4; have hbl4 := hbl3.trans (hb4.mono hbl3.size); have hs4 := HS.out w4 hbl4)
          | (go_at_call 99; refine (angleText_calls ⟨d4, e4, rfl, hx4, hy4⟩ FX.out FY.out HK.out (HTAB.out.below hbl4)).mono ?_; rintro _ w5 ⟨hb5, v5, rfl, sa, sb, rfl, ta, tb⟩; have hbl5 := hbl4.trans (hb5.mono hbl4.size); have hs5 := HS.out w5 hbl5; have hkr := HK2.out.below hbl5 (by rw [HSZ.out]; omega); obtain ⟨q0, q1, g0, g1⟩ := hkr.all2; have hkS := HSS.out w5 hbl5 (.string sa) (.string sb))
          )
      all_goals
        go_wp2
        obtain ⟨k0, k1, _⟩ := (hkr.put2 (.string sa) (.string sb)).all2
        exact bodyPost_ret (v := .tuple #[.agg #[.string sa, .string sb], .int .i64 0]) (by simp [results, Tryz.results101, go_sem, k0, k1]) rfl ⟨Below.put2 (HB0.out.trans (hbl5.mono HB0.out.size)) (by omega) _ _, _, _, _, rfl, Or.inr ⟨fun h => h.elim H0.out H5.out, rfl, ta, tb⟩⟩
theorem angBetween_calls {w : World} {va vb : Value} {ux uy vx vy : Rat} (ha : WV w va ux uy) (hb : WV w vb vx vy) {k l : Nat} (f1 : QS k ux) (f2 : QS k uy) (f3 : QS l vx) (f4 : QS l vy) (hk : 3 * (k + l + (k + l) + 1) + 2 ≤ 35184372088640) (tab : Tab w) :
    Calls Tryz.prog 101 #[va, vb] w fun e w' => Below w.heap.size w w' ∧ ∃ (sa sb : ByteArray) (z : Int), e = .returned (.tuple #[.agg #[.string sa, .string sb], .int .i64 z]) ∧ AngAns ((ux = 0 ∧ uy = 0) ∨ (vx = 0 ∧ vy = 0)) (ux * vx - -uy * vy) (ux * vy + -uy * vx) sa.data.toList sb.data.toList z := by
  obtain ⟨a, b, rfl, h1, h2⟩ := ha
  obtain ⟨p, q, rfl, h3, h4⟩ := hb
  exact angBetween_walk h1 h2 h3 h4 f1 f2 f3 f4 hk tab
end Go.Proofs.YtgajdmadbdbabaaGreatDoor
/- XD -/
namespace Go.Proofs.YtgajdmadbdbabaaGreatDoor
open Go.RowKit Cx
attribute [local go_sem ↓] Go.wp_at_zero Go.wp_at_succ
theorem angFrom_walk {w : World} {la lb lc ma mb mc : ByteArray} (s1 : la.data.toList.length ≤ 4294967296) (s2 : lb.data.toList.length ≤ 4294967296) (s3 : lc.data.toList.length ≤ 4294967296) (s4 : ma.data.toList.length ≤ 4294967296) (s5 : mb.data.toList.length ≤ 4294967296) (s6 : mc.data.toList.length ≤ 4294967296) {k : Nat} (f1 : QS k (rd la.data.toList)) (f2 : QS k (rd lb.data.toList)) (f3 : QS k (rd ma.data.toList)) (f4 : QS k (rd mb.data.toList)) (hk : 20 * (k + 1) ≤ 35184372088640) (tab : Tab w) :
    Calls Tryz.prog 57 #[.agg #[.string la, .string lb, .string lc], .agg #[.string ma, .string mb, .string mc]] w fun e w' => Below w.heap.size w w' ∧ ∃ (sa sb : ByteArray) (z : Int), e = .returned (.tuple #[.agg #[.string sa, .string sb], .int .i64 z]) ∧ AngAns ((rd la.data.toList = 0 ∧ rd lb.data.toList = 0) ∨ (rd ma.data.toList = 0 ∧ rd mb.data.toList = 0)) (rd la.data.toList * rd ma.data.toList - -rd lb.data.toList * rd mb.data.toList) (rd la.data.toList * rd mb.data.toList + -rd lb.data.toList * rd ma.data.toList) sa.data.toList sb.data.toList z := by
  obtain ⟨hb0, hk0, hk1, hk2, hsz⟩ := boxes3 w #[.string la, .string lb, .string lc] #[.string ma, .string mb, .string mc] #[.string ⟨#[]⟩, .string ⟨#[]⟩] 26 26 67
  have HB0 := hideIt hb0
  have HSZ := hideIt hsz
  have HK1 := hideIt hk1
  have HK2 := hideIt hk2
  have HTAB := hideIt (tab.below hb0)
  have S1 := hideIt s1
  have S2 := hideIt s2
  have S3 := hideIt s3
  have S4 := hideIt s4
  have S5 := hideIt s5
  have S6 := hideIt s6
  have F1 := hideIt f1
  have F2 := hideIt f2
  have F3 := hideIt f3
  have F4 := hideIt f4
  have HK := hideIt hk
  clear hb0 hsz hk0 hk1 hk2 tab s1 s2 s3 s4 s5 s6 f1 f2 f3 f4 hk
  go_enter Tryz.func57, Tryz.ntmps57
  go_wp2_with fail
  generalize (((w.alloc (.cells #[.string la, .string lb, .string lc] 26)).alloc (.cells #[.string ma, .string mb, .string mc] 26)).alloc (.cells #[.string ⟨#[]⟩, .string ⟨#[]⟩] 67)) = W0 at *
  refine (rulerRead_calls ⟨la, lb, lc, rfl, rfl, rfl, rfl⟩ S1.out S2.out S3.out).mono ?_
  rintro _ w1 ⟨hb1, ⟨h1, h2, rfl⟩ | ⟨hn, v1, rfl, hv1⟩⟩
  · have HKR := hideIt (HK2.out.below hb1 (by rw [HSZ.out]; omega))
    have HBW := hideIt (HB0.out.trans (hb1.mono HB0.out.size))
    have HH := hideIt (And.intro h1 h2)
    have r0 : ∀ o, (w1.alloc o).cell? ⟨w.heap.size + 1 + 1, 0, none⟩ = some (.string ⟨#[]⟩) := fun o => (HKR.out.old o).cell 0
    have j0 : ∀ o, (w1.alloc o).frozen? ⟨w.heap.size + 1 + 1, 0, none⟩ = false := fun o => (HKR.out.old o).frozen 0
    have r1 : ∀ o, (w1.alloc o).cell? ⟨w.heap.size + 1 + 1, 1, none⟩ = some (.string ⟨#[]⟩) := fun o => (HKR.out.old o).cell 1
    have j1 : ∀ o, (w1.alloc o).frozen? ⟨w.heap.size + 1 + 1, 1, none⟩ = false := fun o => (HKR.out.old o).frozen 1
    obtain ⟨q0, q1, g0, g1⟩ := HKR.out.all2
    have lR := HKR.out.lt
    clear hb1 h1 h2
    go_wp2
    obtain ⟨k0, k1, _⟩ := ((HKR.out.put2 (.string ⟨#[]⟩) (.string ⟨#[]⟩)).old (.cells #[.bool false, .slice none 0 0, .slice none 0 0, .bool false, .slice none 0 0, .slice none 0 0, .bool false, .slice none 0 0, .slice none 0 0] 97)).all2
    have hbf := (Below.put2 HBW.out (g := w.heap.size + 1 + 1) (by omega) (.string ⟨#[]⟩) (.string ⟨#[]⟩))
    exact bodyPost_ret (v := .tuple #[.agg #[.string ⟨#[]⟩, .string ⟨#[]⟩], .int .i64 5]) (by simp [results, Tryz.results57, go_sem, k0, k1]) rfl ⟨hbf.alloc hbf.size _, _, _, _, rfl, Or.inl ⟨Or.inl HH.out, rfl, rfl, rfl⟩⟩
  · obtain ⟨a, b, c, rfl, hx0, hx1, hx2⟩ := hv1
    have N0 := hideIt hx0
    have N1 := hideIt hx1
    have N2 := hideIt hx2
    have HN := hideIt hn
    have HB1 := hideIt hb1
    have HKM1 := hideIt (HK1.out.below hb1 (by rw [HSZ.out]; omega))
    have m0 : ∀ o, (w1.alloc o).cell? ⟨w.heap.size + 1, 0, none⟩ = some (.string ma) := fun o => (HKM1.out.old o).cell 0
    have m1 : ∀ o, (w1.alloc o).cell? ⟨w.heap.size + 1, 1, none⟩ = some (.string mb) := fun o => (HKM1.out.old o).cell 1
    have m2 : ∀ o, (w1.alloc o).cell? ⟨w.heap.size + 1, 2, none⟩ = some (.string mc) := fun o => (HKM1.out.old o).cell 2
    clear hx0 hx1 hx2 hn hb1
    go_wp2_with fail
    obtain ⟨w2, hw2⟩ : ∃ w2, w2 = w1.alloc (.cells #[.bool a.n, .slice a.u a.nu a.cu, .slice a.l a.nl a.cl, .bool b.n, .slice b.u b.nu b.cu, .slice b.l b.nl b.cl, .bool c.n, .slice c.u c.nu c.cu, .slice c.l c.nl c.cl] 97) := ⟨_, rfl⟩
    have hbA := below_new w1 (.cells #[.bool a.n, .slice a.u a.nu a.cu, .slice a.l a.nl a.cl, .bool b.n, .slice b.u b.nu b.cu, .slice b.l b.nl b.cl, .bool c.n, .slice c.u c.nu c.cu, .slice c.l c.nl c.cl] 97)
    have HKG := hideIt (Blk.new w1 #[.bool a.n, .slice a.u a.nu a.cu, .slice a.l a.nl a.cl, .bool b.n, .slice b.u b.nu b.cu, .slice b.l b.nl b.cl, .bool c.n, .slice c.u c.nu c.cu, .slice c.l c.nl c.cl] 97)
    rw [← hw2] at hbA HKG ⊢
    obtain ⟨G, hG⟩ : ∃ G, G = w1.heap.size := ⟨_, rfl⟩
    rw [← hG] at HKG ⊢
    clear hG hw2
    have HBL : Hid (Below W0.heap.size W0 w2) := HB1.out.trans (hbA.mono HB1.out.size)
    have O0 := hideIt (N0.out.below hbA)
    have O1 := hideIt (N1.out.below hbA)
    have O2 := hideIt (N2.out.below hbA)
    clear hbA m0 m1 m2
    refine (rulerRead_calls ⟨ma, mb, mc, rfl, rfl, rfl, rfl⟩ S4.out S5.out S6.out).mono ?_
    rintro _ w3 ⟨hb3, ⟨h1, h2, rfl⟩ | ⟨hm, v3, rfl, hv3⟩⟩
    · have hbl3 := HBL.out.trans (hb3.mono HBL.out.size)
      have HKR := hideIt (HK2.out.below hbl3 (by rw [HSZ.out]; omega))
      have HBW := hideIt (HB0.out.trans (hbl3.mono HB0.out.size))
      have HH := hideIt (And.intro h1 h2)
      have r0 : ∀ o, (w3.alloc o).cell? ⟨w.heap.size + 1 + 1, 0, none⟩ = some (.string ⟨#[]⟩) := fun o => (HKR.out.old o).cell 0
      have j0 : ∀ o, (w3.alloc o).frozen? ⟨w.heap.size + 1 + 1, 0, none⟩ = false := fun o => (HKR.out.old o).frozen 0
      have r1 : ∀ o, (w3.alloc o).cell? ⟨w.heap.size + 1 + 1, 1, none⟩ = some (.string ⟨#[]⟩) := fun o => (HKR.out.old o).cell 1
      have j1 : ∀ o, (w3.alloc o).frozen? ⟨w.heap.size + 1 + 1, 1, none⟩ = false := fun o => (HKR.out.old o).frozen 1
      obtain ⟨q0, q1, g0, g1⟩ := HKR.out.all2
      have lR := HKR.out.lt
      clear hb3 h1 h2 hbl3
      go_wp2
      obtain ⟨k0, k1, _⟩ := ((HKR.out.put2 (.string ⟨#[]⟩) (.string ⟨#[]⟩)).old (.cells #[.bool false, .slice none 0 0, .slice none 0 0, .bool false, .slice none 0 0, .slice none 0 0, .bool false, .slice none 0 0, .slice none 0 0] 97)).all2
      have hbf := (Below.put2 HBW.out (g := w.heap.size + 1 + 1) (by omega) (.string ⟨#[]⟩) (.string ⟨#[]⟩))
      exact bodyPost_ret (v := .tuple #[.agg #[.string ⟨#[]⟩, .string ⟨#[]⟩], .int .i64 5]) (by simp [results, Tryz.results57, go_sem, k0, k1]) rfl ⟨hbf.alloc hbf.size _, _, _, _, rfl, Or.inl ⟨Or.inr HH.out, rfl, rfl, rfl⟩⟩
    · obtain ⟨p, q, r, rfl, hy0, hy1, hy2⟩ := hv3
      have P0 := hideIt hy0
      have P1 := hideIt hy1
      have P2 := hideIt hy2
      have HM := hideIt hm
      have HBL3 := hideIt (HBL.out.trans (hb3.mono HBL.out.size))
      have R0 := hideIt (O0.out.below hb3)
      have R1 := hideIt (O1.out.below hb3)
      have R2 := hideIt (O2.out.below hb3)
      have HKG3 := hideIt (HKG.out.below hb3 HKG.out.lt)
      clear hy0 hy1 hy2 hm hb3
      have y0 : ∀ o, (w3.alloc o).cell? ⟨G, 0, none⟩ = some (.bool a.n) := fun o => (HKG3.out.old o).cell 0
      have y1 : ∀ o, (w3.alloc o).cell? ⟨G, 1, none⟩ = some (.slice a.u a.nu a.cu) := fun o => (HKG3.out.old o).cell 1
      have y2 : ∀ o, (w3.alloc o).cell? ⟨G, 2, none⟩ = some (.slice a.l a.nl a.cl) := fun o => (HKG3.out.old o).cell 2
      have y3 : ∀ o, (w3.alloc o).cell? ⟨G, 3, none⟩ = some (.bool b.n) := fun o => (HKG3.out.old o).cell 3
      have y4 : ∀ o, (w3.alloc o).cell? ⟨G, 4, none⟩ = some (.slice b.u b.nu b.cu) := fun o => (HKG3.out.old o).cell 4
      have y5 : ∀ o, (w3.alloc o).cell? ⟨G, 5, none⟩ = some (.slice b.l b.nl b.cl) := fun o => (HKG3.out.old o).cell 5
      have y6 : ∀ o, (w3.alloc o).cell? ⟨G, 6, none⟩ = some (.bool c.n) := fun o => (HKG3.out.old o).cell 6
      have y7 : ∀ o, (w3.alloc o).cell? ⟨G, 7, none⟩ = some (.slice c.u c.nu c.cu) := fun o => (HKG3.out.old o).cell 7
      have y8 : ∀ o, (w3.alloc o).cell? ⟨G, 8, none⟩ = some (.slice c.l c.nl c.cl) := fun o => (HKG3.out.old o).cell 8
      go_wp2_with fail
      obtain ⟨w4, hw4⟩ : ∃ w4, w4 = w3.alloc (.cells #[.bool p.n, .slice p.u p.nu p.cu, .slice p.l p.nl p.cl, .bool q.n, .slice q.u q.nu q.cu, .slice q.l q.nl q.cl, .bool r.n, .slice r.u r.nu r.cu, .slice r.l r.nl r.cl] 97) := ⟨_, rfl⟩
      have hbA := below_new w3 (.cells #[.bool p.n, .slice p.u p.nu p.cu, .slice p.l p.nl p.cl, .bool q.n, .slice q.u q.nu q.cu, .slice q.l q.nl q.cl, .bool r.n, .slice r.u r.nu r.cu, .slice r.l r.nl r.cl] 97)
      have HKH := hideIt (Blk.new w3 #[.bool p.n, .slice p.u p.nu p.cu, .slice p.l p.nl p.cl, .bool q.n, .slice q.u q.nu q.cu, .slice q.l q.nl q.cl, .bool r.n, .slice r.u r.nu r.cu, .slice r.l r.nl r.cl] 97)
      rw [← hw4] at hbA HKH ⊢
      obtain ⟨H, hH⟩ : ∃ H, H = w3.heap.size := ⟨_, rfl⟩
      rw [← hH] at HKH ⊢
      clear hH hw4
      have HBL4 : Hid (Below W0.heap.size W0 w4) := HBL3.out.trans (hbA.mono HBL3.out.size)
      have KB : Hid (3 * (k + k + (k + k) + 1) + 2 ≤ 35184372088640) := by have := HK.out; show _ ≤ _; omega
      refine (angBetween_calls ⟨a, b, rfl, R0.out.below hbA, R1.out.below hbA⟩ ⟨p, q, rfl, P0.out.below hbA, P1.out.below hbA⟩ F1.out F2.out F3.out F4.out KB.out (HTAB.out.below HBL4.out)).mono ?_
      rintro _ w5 ⟨hb5, sa, sb, z, rfl, hans⟩
      have hbl5 := HBL4.out.trans (hb5.mono HBL4.out.size)
      have HKR := hideIt (HK2.out.below hbl5 (by rw [HSZ.out]; omega))
      have HBW := hideIt (HB0.out.trans (hbl5.mono HB0.out.size))
      have HANS := hideIt hans
      obtain ⟨q0, q1, g0, g1⟩ := HKR.out.all2
      clear hbA y0 y1 y2 y3 y4 y5 y6 y7 y8 hb5 hbl5 hans
      go_wp2
      obtain ⟨k0, k1, _⟩ := (HKR.out.put2 (.string sa) (.string sb)).all2
      exact bodyPost_ret (v := .tuple #[.agg #[.string sa, .string sb], .int .i64 z]) (by simp [results, Tryz.results57, go_sem, k0, k1]) rfl ⟨Below.put2 HBW.out (by omega) _ _, sa, sb, z, rfl, HANS.out⟩
theorem angFrom_calls {w : World} {va vb : Value} {la lb lc ma mb mc : List UInt8} (ha : TV va la lb lc) (hb : TV vb ma mb mc) (s1 : la.length ≤ 4294967296) (s2 : lb.length ≤ 4294967296) (s3 : lc.length ≤ 4294967296) (s4 : ma.length ≤ 4294967296) (s5 : mb.length ≤ 4294967296) (s6 : mc.length ≤ 4294967296) {k : Nat} (f1 : QS k (rd la)) (f2 : QS k (rd lb)) (f3 : QS k (rd ma)) (f4 : QS k (rd mb)) (hk : 20 * (k + 1) ≤ 35184372088640) (tab : Tab w) :
    Calls Tryz.prog 57 #[va, vb] w fun e w' => Below w.heap.size w w' ∧ ∃ (sa sb : ByteArray) (z : Int), e = .returned (.tuple #[.agg #[.string sa, .string sb], .int .i64 z]) ∧ AngAns ((rd la = 0 ∧ rd lb = 0) ∨ (rd ma = 0 ∧ rd mb = 0)) (rd la * rd ma - -rd lb * rd mb) (rd la * rd mb + -rd lb * rd ma) sa.data.toList sb.data.toList z := by
  obtain ⟨a, b, c, rfl, rfl, rfl, rfl⟩ := ha
  obtain ⟨d, e, f, rfl, rfl, rfl, rfl⟩ := hb
  exact angFrom_walk s1 s2 s3 s4 s5 s6 f1 f2 f3 f4 hk tab
end Go.Proofs.YtgajdmadbdbabaaGreatDoor
/- XE -/
namespace Go.Proofs.YtgajdmadbdbabaaGreatDoor
open Go.RowKit Cx
attribute [local go_sem ↓] Go.wp_at_zero Go.wp_at_succ
theorem angSeen_walk {w : World} {ax ay bx bz px pz : ByteArray} (s1 : ax.data.toList.length ≤ 4294967296) (s2 : ay.data.toList.length ≤ 4294967296) (s3 : bx.data.toList.length ≤ 4294967296) (s4 : bz.data.toList.length ≤ 4294967296) (s5 : px.data.toList.length ≤ 4294967296) (s6 : pz.data.toList.length ≤ 4294967296) {k : Nat} (f1 : QS k (rd ax.data.toList)) (f2 : QS k (rd ay.data.toList)) (f3 : QS k (rd bx.data.toList)) (f4 : QS k (rd bz.data.toList)) (f5 : QS k (rd px.data.toList)) (f6 : QS k (rd pz.data.toList)) (hk : 40 * (k + 1) ≤ 35184372088640) (tab : Tab w) :
    Calls Tryz.prog 60 #[.agg #[.string ax, .string ay], .agg #[.string bx, .string bz], .agg #[.string px, .string pz]] w fun e w' => Below w.heap.size w w' ∧ ∃ (sa sb : ByteArray) (z : Int), e = .returned (.tuple #[.agg #[.string sa, .string sb], .int .i64 z]) ∧ AngAns (((rd ax.data.toList - rd px.data.toList) = 0 ∧ (rd ay.data.toList - rd pz.data.toList) = 0) ∨ ((rd bx.data.toList - rd px.data.toList) = 0 ∧ (rd bz.data.toList - rd pz.data.toList) = 0)) ((rd ax.data.toList - rd px.data.toList) * (rd bx.data.toList - rd px.data.toList) - -(rd ay.data.toList - rd pz.data.toList) * (rd bz.data.toList - rd pz.data.toList)) ((rd ax.data.toList - rd px.data.toList) * (rd bz.data.toList - rd pz.data.toList) + -(rd ay.data.toList - rd pz.data.toList) * (rd bx.data.toList - rd px.data.toList)) sa.data.toList sb.data.toList z := by
  obtain ⟨hb0, hk0, hk1, hk2, hk3, hsz⟩ := boxes4 w #[.string ax, .string ay] #[.string bx, .string bz] #[.string px, .string pz] #[.string ⟨#[]⟩, .string ⟨#[]⟩] 24 24 24 67
  have HB0 := hideIt hb0
  have HSZ := hideIt hsz
  have HK0 := hideIt hk0
  have HK1 := hideIt hk1
  have HK3 := hideIt hk3
  have HTAB := hideIt (tab.below hb0)
  have S1 := hideIt s1
  have F1 := hideIt f1
  have S2 := hideIt s2
  have F2 := hideIt f2
  have S3 := hideIt s3
  have F3 := hideIt f3
  have S4 := hideIt s4
  have F4 := hideIt f4
  have S5 := hideIt s5
  have F5 := hideIt f5
  have S6 := hideIt s6
  have F6 := hideIt f6
  have HK := hideIt hk
  have FU1 : Hid (QS (k + k + 1) (rd ax.data.toList - rd px.data.toList)) := f1.sub f5
  have FU2 : Hid (QS (k + k + 1) (rd ay.data.toList - rd pz.data.toList)) := f2.sub f6
  have FV1 : Hid (QS (k + k + 1) (rd bx.data.toList - rd px.data.toList)) := f3.sub f5
  have FV2 : Hid (QS (k + k + 1) (rd bz.data.toList - rd pz.data.toList)) := f4.sub f6
  have KA : Hid (k + k + 1 ≤ 35184372088640) := by show _ ≤ _; omega
  have KB : Hid (3 * (k + k + 1 + (k + k + 1) + (k + k + 1 + (k + k + 1)) + 1) + 2 ≤ 35184372088640) := by show _ ≤ _; omega
  clear hb0 hsz hk0 hk1 hk2 hk3 tab s1 f1 s2 f2 s3 f3 s4 f4 s5 f5 s6 f6 hk
  go_enter Tryz.func60, Tryz.ntmps60
  go_wp2_with fail
  generalize ((((w.alloc (.cells #[.string ax, .string ay] 24)).alloc (.cells #[.string bx, .string bz] 24)).alloc (.cells #[.string px, .string pz] 24)).alloc (.cells #[.string ⟨#[]⟩, .string ⟨#[]⟩] 67)) = W0 at *
  refine (wayRead_calls ⟨px, pz, rfl, rfl, rfl⟩ S5.out S6.out).mono ?_
  rintro _ w1 ⟨hb1, v1, rfl, d, e, rfl, hx, hy⟩
  have HX := hideIt hx
  have HY := hideIt hy
  have HB1 := hideIt hb1
  have HA1 := hideIt (HK0.out.below hb1 (by rw [HSZ.out]; omega))
  have a0 : ∀ o, (w1.alloc o).cell? ⟨w.heap.size, 0, none⟩ = some (.string ax) := fun o => (HA1.out.old o).cell 0
  have a1 : ∀ o, (w1.alloc o).cell? ⟨w.heap.size, 1, none⟩ = some (.string ay) := fun o => (HA1.out.old o).cell 1
  clear hx hy hb1
  go_wp2_with fail
  obtain ⟨w2, hw2⟩ : ∃ w2, w2 = w1.alloc (.cells #[.bool d.n, .slice d.u d.nu d.cu, .slice d.l d.nl d.cl, .bool e.n, .slice e.u e.nu e.cu, .slice e.l e.nl e.cl] 86) := ⟨_, rfl⟩
  have hbA := below_new w1 (.cells #[.bool d.n, .slice d.u d.nu d.cu, .slice d.l d.nl d.cl, .bool e.n, .slice e.u e.nu e.cu, .slice e.l e.nl e.cl] 86)
  have HKG := hideIt (Blk.new w1 #[.bool d.n, .slice d.u d.nu d.cu, .slice d.l d.nl d.cl, .bool e.n, .slice e.u e.nu e.cu, .slice e.l e.nl e.cl] 86)
  rw [← hw2] at hbA HKG ⊢
  obtain ⟨G, hG⟩ : ∃ G, G = w1.heap.size := ⟨_, rfl⟩
  rw [← hG] at HKG ⊢
  clear hG hw2
  have HB2 := hideIt (HB1.out.trans (hbA.mono HB1.out.size))
  have HX2 := hideIt (HX.out.below hbA)
  have HY2 := hideIt (HY.out.below hbA)
  clear hbA a0 a1
  have HS : Hid (∀ w', Below w2.heap.size w2 w' → w'.cell? ⟨w.heap.size, 0, none⟩ = some (.string ax) ∧ w'.cell? ⟨w.heap.size, 1, none⟩ = some (.string ay) ∧ w'.cell? ⟨w.heap.size + 1, 0, none⟩ = some (.string bx) ∧ w'.cell? ⟨w.heap.size + 1, 1, none⟩ = some (.string bz) ∧ w'.cell? ⟨G, 0, none⟩ = some (.bool d.n) ∧ w'.cell? ⟨G, 1, none⟩ = some (.slice d.u d.nu d.cu) ∧ w'.cell? ⟨G, 2, none⟩ = some (.slice d.l d.nl d.cl) ∧ w'.cell? ⟨G, 3, none⟩ = some (.bool e.n) ∧ w'.cell? ⟨G, 4, none⟩ = some (.slice e.u e.nu e.cu) ∧ w'.cell? ⟨G, 5, none⟩ = some (.slice e.l e.nl e.cl)) := fun w' hb => by
    have h := HK0.out.below (HB2.out.trans (hb.mono HB2.out.size)) (by rw [HSZ.out]; omega)
    have h' := HK1.out.below (HB2.out.trans (hb.mono HB2.out.size)) (by rw [HSZ.out]; omega)
    have h'' := HKG.out.below hb HKG.out.lt
    exact ⟨h.cell 0, h.cell 1, h'.cell 0, h'.cell 1, h''.cell 0, h''.cell 1, h''.cell 2, h''.cell 3, h''.cell 4, h''.cell 5⟩
  have HR2 := hideIt (HK3.out.below HB2.out (by rw [HSZ.out]; omega))
  have nG : Hid (w.heap.size + 1 + 1 + 1 ≠ G) := fun h => by
    have := HKG.out.cell 0
    rw [← h, HR2.out.cell 0] at this
    simp at this
  have HSS : Hid (∀ w', Below w2.heap.size w2 w' → ∀ x0 x1 : Value, ((w'.setCell ⟨w.heap.size + 1 + 1 + 1, 0, none⟩ x0).setCell ⟨w.heap.size + 1 + 1 + 1, 1, none⟩ x1).cell? ⟨w.heap.size, 0, none⟩ = some (.string ax) ∧ ((w'.setCell ⟨w.heap.size + 1 + 1 + 1, 0, none⟩ x0).setCell ⟨w.heap.size + 1 + 1 + 1, 1, none⟩ x1).cell? ⟨w.heap.size, 1, none⟩ = some (.string ay) ∧ ((w'.setCell ⟨w.heap.size + 1 + 1 + 1, 0, none⟩ x0).setCell ⟨w.heap.size + 1 + 1 + 1, 1, none⟩ x1).cell? ⟨w.heap.size + 1, 0, none⟩ = some (.string bx) ∧ ((w'.setCell ⟨w.heap.size + 1 + 1 + 1, 0, none⟩ x0).setCell ⟨w.heap.size + 1 + 1 + 1, 1, none⟩ x1).cell? ⟨w.heap.size + 1, 1, none⟩ = some (.string bz) ∧ ((w'.setCell ⟨w.heap.size + 1 + 1 + 1, 0, none⟩ x0).setCell ⟨w.heap.size + 1 + 1 + 1, 1, none⟩ x1).cell? ⟨G, 0, none⟩ = some (.bool d.n) ∧ ((w'.setCell ⟨w.heap.size + 1 + 1 + 1, 0, none⟩ x0).setCell ⟨w.heap.size + 1 + 1 + 1, 1, none⟩ x1).cell? ⟨G, 1, none⟩ = some (.slice d.u d.nu d.cu) ∧ ((w'.setCell ⟨w.heap.size + 1 + 1 + 1, 0, none⟩ x0).setCell ⟨w.heap.size + 1 + 1 + 1, 1, none⟩ x1).cell? ⟨G, 2, none⟩ = some (.slice d.l d.nl d.cl) ∧ ((w'.setCell ⟨w.heap.size + 1 + 1 + 1, 0, none⟩ x0).setCell ⟨w.heap.size + 1 + 1 + 1, 1, none⟩ x1).cell? ⟨G, 3, none⟩ = some (.bool e.n) ∧ ((w'.setCell ⟨w.heap.size + 1 + 1 + 1, 0, none⟩ x0).setCell ⟨w.heap.size + 1 + 1 + 1, 1, none⟩ x1).cell? ⟨G, 4, none⟩ = some (.slice e.u e.nu e.cu) ∧ ((w'.setCell ⟨w.heap.size + 1 + 1 + 1, 0, none⟩ x0).setCell ⟨w.heap.size + 1 + 1 + 1, 1, none⟩ x1).cell? ⟨G, 5, none⟩ = some (.slice e.l e.nl e.cl)) := fun w' hb x0 x1 => by
    have h := (HK0.out.below (HB2.out.trans (hb.mono HB2.out.size)) (by rw [HSZ.out]; omega)).off2 (g := w.heap.size + 1 + 1 + 1) (by omega) x0 x1
    have h' := (HK1.out.below (HB2.out.trans (hb.mono HB2.out.size)) (by rw [HSZ.out]; omega)).off2 (g := w.heap.size + 1 + 1 + 1) (by omega) x0 x1
    have h'' := (HKG.out.below hb HKG.out.lt).off2 (g := w.heap.size + 1 + 1 + 1) nG.out x0 x1
    exact ⟨h.cell 0, h.cell 1, h'.cell 0, h'.cell 1, h''.cell 0, h''.cell 1, h''.cell 2, h''.cell 3, h''.cell 4, h''.cell 5⟩
  obtain ⟨z0, z1, z2, z3, z4, z5, z6, z7, z8, z9⟩ := HS.out w2 (Below.refl _ _)
  go_region_held3 (fun w' => w'.cell? ⟨w.heap.size, 0, none⟩ = some (.string ax) ∧ w'.cell? ⟨w.heap.size, 1, none⟩ = some (.string ay) ∧ w'.cell? ⟨w.heap.size + 1, 0, none⟩ = some (.string bx) ∧ w'.cell? ⟨w.heap.size + 1, 1, none⟩ = some (.string bz) ∧ w'.cell? ⟨G, 0, none⟩ = some (.bool d.n) ∧ w'.cell? ⟨G, 1, none⟩ = some (.slice d.u d.nu d.cu) ∧ w'.cell? ⟨G, 2, none⟩ = some (.slice d.l d.nl d.cl) ∧ w'.cell? ⟨G, 3, none⟩ = some (.bool e.n) ∧ w'.cell? ⟨G, 4, none⟩ = some (.slice e.u e.nu e.cu) ∧ w'.cell? ⟨G, 5, none⟩ = some (.slice e.l e.nl e.cl)) (first | go_keep | exact hs3 | exact hs4 | exact hs5 | exact hs6 | exact hs7 | exact hkS)
    (first
      | (go_at_call_of 62 (Value.agg #[Value.string ax, Value.string ay]); refine (wayRead_calls (w := w2.drew) ⟨ax, ay, rfl, rfl, rfl⟩ S1.out S2.out).mono ?_; rintro _ w3 ⟨hb3, v3, rfl, hv3⟩; obtain ⟨d3, e3, rfl, hx3, hy3⟩ := hv3; have hbl3 : Below w2.heap.size w2 w3 := (Below.drew (Below.refl _ w2)).trans hb3; have hs3 := HS.out w3 hbl3)
      | (go_at_call_of 64 (Value.agg #[Value.bool d3.n, Value.slice d3.u d3.nu d3.cu, Value.slice d3.l d3.nl d3.cl, Value.bool e3.n, Value.slice e3.u e3.nu e3.cu, Value.slice e3.l e3.nl e3.cl]); refine (wayMinus_calls ⟨d3, e3, rfl, hx3, hy3⟩ ⟨d, e, rfl, HX2.out.below hbl3, HY2.out.below hbl3⟩ F1.out F2.out F5.out F6.out KA.out |>.mono ?_) ; rintro _ w4 ⟨hb4, v4, rfl, hv4⟩; obtain ⟨d4, e4, rfl, hx4, hy4⟩ := hv4; have hbl4 := hbl3.trans (hb4.mono hbl3.size); have hs4 := HS.out w4 hbl4)
      | (go_at_call_of 62 (Value.agg #[Value.string bx, Value.string bz]); refine (wayRead_calls ⟨bx, bz, rfl, rfl, rfl⟩ S3.out S4.out).mono ?_; rintro _ w5 ⟨hb5, v5, rfl, hv5⟩; obtain ⟨d5, e5, rfl, hx5, hy5⟩ := hv5; have hbl5 := hbl4.trans (hb5.mono hbl4.size); have hs5 := HS.out w5 hbl5)
      | (go_at_call_of 64 (Value.agg #[Value.bool d5.n, Value.slice d5.u d5.nu d5.cu, Value.slice d5.l d5.nl d5.cl, Value.bool e5.n, Value.slice e5.u e5.nu e5.cu, Value.slice e5.l e5.nl e5.cl]); refine (wayMinus_calls ⟨d5, e5, rfl, hx5, hy5⟩ ⟨d, e, rfl, HX2.out.below hbl5, HY2.out.below hbl5⟩ F3.out F4.out F5.out F6.out KA.out).mono ?_ ; rintro _ w6 ⟨hb6, v6, rfl, hv6⟩; obtain ⟨d6, e6, rfl, hx6, hy6⟩ := hv6; have hbl6 := hbl5.trans (hb6.mono hbl5.size); have hs6 := HS.out w6 hbl6)
      | (go_at_call 101; refine (angBetween_calls ⟨d4, e4, rfl, (hx4.below hb5).below hb6, (hy4.below hb5).below hb6⟩ ⟨d6, e6, rfl, hx6, hy6⟩ FU1.out FU2.out FV1.out FV2.out KB.out (HTAB.out.below (HB2.out.trans (hbl6.mono HB2.out.size)))).mono ?_; rintro _ w7 ⟨hb7, sa, sb, z, rfl, hans⟩; have hbl7 := hbl6.trans (hb7.mono hbl6.size); have hs7 := HS.out w7 hbl7; have hkr := HR2.out.below hbl7 HR2.out.lt; obtain ⟨q0, q1, g0, g1⟩ := hkr.all2; have hkS := HSS.out w7 hbl7 (.string sa) (.string sb); have HANS := hideIt hans; clear hans)
      )
  all_goals
    go_wp2
    obtain ⟨k0, k1, _⟩ := (hkr.put2 (.string sa) (.string sb)).all2
    exact bodyPost_ret (v := .tuple #[.agg #[.string sa, .string sb], .int .i64 z]) (by simp [results, Tryz.results60, go_sem, k0, k1]) rfl ⟨Below.put2 (HB0.out.trans ((HB2.out.trans (hbl7.mono HB2.out.size)).mono HB0.out.size)) (by omega) _ _, _, _, _, rfl, HANS.out⟩
end Go.Proofs.YtgajdmadbdbabaaGreatDoor
/- XF -/
namespace Go.Proofs.YtgajdmadbdbabaaGreatDoor
open Go.RowKit Cx
attribute [local go_sem ↓] Go.wp_at_zero Go.wp_at_succ
def cpow (x y : Rat) : Nat → Rat × Rat
  | 0 => (1, 0)
  | n + 1 => ((cpow x y n).1 * x - (cpow x y n).2 * y, (cpow x y n).1 * y + (cpow x y n).2 * x)
structure QI (k : Nat) (q : Rat) : Prop where
  den : q.den = 1
  num : q.num.natAbs < 2 ^ k
theorem QI.mono {k l : Nat} {q : Rat} (h : QI k q) (hk : k ≤ l) : QI l q := ⟨h.den, Nat.lt_of_lt_of_le h.num (Nat.pow_le_pow_right (by decide) hk)⟩
theorem QI.of {k : Nat} {z : Int} (h : z.natAbs < 2 ^ k) : QI k (z : Rat) := ⟨rfl, h⟩
theorem QI.int {k : Nat} {q : Rat} (h : QI k q) : q = ((q.num : Int) : Rat) := by
  have := h.den
  rw [← Rat.mkRat_self q, this, Rat.mkRat_one]
  simp
theorem QI.qs {k : Nat} {q : Rat} (h : QI k q) : QS (k + 1) q := ⟨Nat.lt_of_lt_of_le h.num (Nat.pow_le_pow_right (by decide) (by omega)), by rw [h.den]; exact Nat.one_lt_two_pow (by omega)⟩
theorem mul_lt_pow {a b k l : Nat} (h1 : a < 2 ^ k) (h2 : b < 2 ^ l) : a * b < 2 ^ (k + l) := by
  rw [Nat.pow_add]
  exact Nat.mul_lt_mul_of_lt_of_lt h1 h2
theorem QI.re {k l : Nat} {a b x y : Rat} (h1 : QI k a) (h2 : QI k b) (h3 : QI l x) (h4 : QI l y) : QI (k + l + 1) (a * x - b * y) := by
  rw [h1.int, h2.int, h3.int, h4.int, ← Rat.intCast_mul, ← Rat.intCast_mul, ← Rat.intCast_sub]
  apply QI.of
  have e1 := mul_lt_pow h1.num h3.num
  have e2 := mul_lt_pow h2.num h4.num
  rw [← Int.natAbs_mul] at e1 e2
  have := Int.natAbs_sub_le (a.num * x.num) (b.num * y.num)
  rw [Nat.pow_succ]
  omega
theorem QI.im {k l : Nat} {a b x y : Rat} (h1 : QI k a) (h2 : QI k b) (h3 : QI l x) (h4 : QI l y) : QI (k + l + 1) (a * y + b * x) := by
  rw [h1.int, h2.int, h3.int, h4.int, ← Rat.intCast_mul, ← Rat.intCast_mul, ← Rat.intCast_add]
  apply QI.of
  have e1 := mul_lt_pow h1.num h4.num
  have e2 := mul_lt_pow h2.num h3.num
  rw [← Int.natAbs_mul] at e1 e2
  have := Int.natAbs_add_le (a.num * y.num) (b.num * x.num)
  rw [Nat.pow_succ]
  omega
theorem QI.pow {L : Nat} {x y : Rat} (h1 : QI L x) (h2 : QI L y) : ∀ n, QI (n * (L + 1) + 1) (cpow x y n).1 ∧ QI (n * (L + 1) + 1) (cpow x y n).2
  | 0 => by
    have e : cpow x y 0 = (1, 0) := rfl
    rw [e, Nat.zero_mul]
    exact ⟨⟨by decide, by decide⟩, ⟨by decide, by decide⟩⟩
  | n + 1 => by
    obtain ⟨i1, i2⟩ := QI.pow h1 h2 n
    exact ⟨(QI.re i1 i2 h1 h2).mono (by rw [Nat.succ_mul]; omega), (QI.im i1 i2 h1 h2).mono (by rw [Nat.succ_mul]; omega)⟩
theorem QI.fac2 {K : Nat} {x y q : Rat} (f1 : QS K x) (f2 : QS K y) (h : q ∈ [x, y]) : QI (3 * K + 1) (q * Cx.fac [x, y]) := by
  have h1 := QS.fac2 f1 f2 h
  refine ⟨?_, h1.num⟩
  rw [← pl_mul h]
  rfl
theorem power_walk {w : World} {a b : C3} {x y : Rat} {n : Nat} (hx : QV w (.agg #[.bool a.n, .slice a.u a.nu a.cu, .slice a.l a.nl a.cl]) x) (hy : QV w (.agg #[.bool b.n, .slice b.u b.nu b.cu, .slice b.l b.nl b.cl]) y) {K : Nat} (f1 : QS K x) (f2 : QS K y) (hn : n ≤ 60) (hk : 1000 * (K + 1) ≤ 35184372088640) :
    Calls Tryz.prog 148 #[.agg #[.bool a.n, .slice a.u a.nu a.cu, .slice a.l a.nl a.cl, .bool b.n, .slice b.u b.nu b.cu, .slice b.l b.nl b.cl], .int .i64 n] w fun e w' => Below w.heap.size w w' ∧ ∃ v, e = .returned v ∧ WV w' v (cpow (x * fac [x, y]) (y * fac [x, y]) n).1 (cpow (x * fac [x, y]) (y * fac [x, y]) n).2 := by
  obtain ⟨hb0, hk0, hk1, hsz⟩ := boxes2 w #[.bool a.n, .slice a.u a.nu a.cu, .slice a.l a.nl a.cl, .bool b.n, .slice b.u b.nu b.cu, .slice b.l b.nl b.cl] #[.bool false, .slice none 0 0, .slice none 0 0, .bool false, .slice none 0 0, .slice none 0 0] 86 86
  have HB0 := hideIt hb0
  have HSZ := hideIt hsz
  have HK0 := hideIt hk0
  have HK1 := hideIt hk1
  have HX := hideIt (hx.below hb0)
  have HY := hideIt (hy.below hb0)
  have F1 := hideIt f1
  have F2 := hideIt f2
  have HK := hideIt hk
  have I1 : Hid (QI (3 * K + 1) (x * fac [x, y])) := QI.fac2 f1 f2 (by simp)
  have I2 : Hid (QI (3 * K + 1) (y * fac [x, y])) := QI.fac2 f1 f2 (by simp)
  have K1 : Hid (3 * K + 2 ≤ 35184372088640) := by show _ ≤ _; omega
  clear hb0 hsz hk0 hk1 hx hy f1 f2 hk
  go_enter Tryz.func148, Tryz.ntmps148
  go_wp2_with fail
  generalize ((w.alloc (.cells #[.bool a.n, .slice a.u a.nu a.cu, .slice a.l a.nl a.cl, .bool b.n, .slice b.u b.nu b.cu, .slice b.l b.nl b.cl] 86)).alloc (.cells #[.bool false, .slice none 0 0, .slice none 0 0, .bool false, .slice none 0 0, .slice none 0 0] 86)) = W0 at *
  refine (anglePlain_calls ⟨a, b, rfl, HX.out, HY.out⟩ F1.out F2.out K1.out).mono ?_
  rintro e w1 ⟨hb1, v1, rfl, p, q, rfl, hp, hq⟩
  have hA := HK0.out.below hb1 (by rw [HSZ.out]; omega)
  have hR := HK1.out.below hb1 (by rw [HSZ.out]; omega)
  obtain ⟨r0, r1, r2, r3, r4, r5, j0, j1, j2, j3, j4, j5⟩ := hA.all6
  have HA := hideIt (hA.put6 (.bool p.n) (.slice p.u p.nu p.cu) (.slice p.l p.nl p.cl) (.bool q.n) (.slice q.u q.nu q.cu) (.slice q.l q.nl q.cl))
  have HR := hideIt (hR.off6 (g := w.heap.size) (by omega) (.bool p.n) (.slice p.u p.nu p.cu) (.slice p.l p.nl p.cl) (.bool q.n) (.slice q.u q.nu q.cu) (.slice q.l q.nl q.cl))
  have HST := hideIt (Stays.put6 hA (by simp [notLimb]) (.bool p.n) (.slice p.u p.nu p.cu) (.slice p.l p.nl p.cl) (.bool q.n) (.slice q.u q.nu q.cu) (.slice q.l q.nl q.cl) rfl rfl rfl rfl rfl rfl)
  have HBW := hideIt (Below.put6 (HB0.out.trans (hb1.mono HB0.out.size)) (Nat.le_refl _) (.bool p.n) (.slice p.u p.nu p.cu) (.slice p.l p.nl p.cl) (.bool q.n) (.slice q.u q.nu q.cu) (.slice q.l q.nl q.cl))
  have HP := hideIt (HST.out.qv hp)
  have HQ := hideIt (HST.out.qv hq)
  clear hA hR hp hq HST hb1
  go_wp2_with fail
  generalize ((((((w1.setCell ⟨w.heap.size, 0, none⟩ (.bool p.n)).setCell ⟨w.heap.size, 1, none⟩ (.slice p.u p.nu p.cu)).setCell ⟨w.heap.size, 2, none⟩ (.slice p.l p.nl p.cl)).setCell ⟨w.heap.size, 3, none⟩ (.bool q.n)).setCell ⟨w.heap.size, 4, none⟩ (.slice q.u q.nu q.cu)).setCell ⟨w.heap.size, 5, none⟩ (.slice q.l q.nl q.cl)) = w2 at *
  clear r0 r1 r2 r3 r4 r5 j0 j1 j2 j3 j4 j5
  refine (int_calls 1 (by decide) w2).mono ?_
  rintro _ w3 ⟨hb3, v3, rfl, hv3⟩
  obtain ⟨c0, rfl⟩ := qv_open hv3
  have HV3 := hideIt hv3
  have HBW3 := hideIt (HBW.out.trans (hb3.mono HBW.out.size))
  have HA3 := hideIt (HA.out.below hb3 HA.out.lt)
  have HR3 := hideIt (HR.out.below hb3 HR.out.lt)
  have HP3 := hideIt (HP.out.below hb3)
  have HQ3 := hideIt (HQ.out.below hb3)
  clear hb3 hv3
  go_wp2
  obtain ⟨w4, hw4⟩ : ∃ w4, w4 = w3.alloc (.cells #[.bool c0.n, .slice c0.u c0.nu c0.cu, .slice c0.l c0.nl c0.cl, .bool false, .slice none 0 0, .slice none 0 0] 86) := ⟨_, rfl⟩
  have hbA := below_new w3 (.cells #[.bool c0.n, .slice c0.u c0.nu c0.cu, .slice c0.l c0.nl c0.cl, .bool false, .slice none 0 0, .slice none 0 0] 86)
  have HKG := hideIt (Blk.new w3 #[.bool c0.n, .slice c0.u c0.nu c0.cu, .slice c0.l c0.nl c0.cl, .bool false, .slice none 0 0, .slice none 0 0] 86)
  rw [← hw4] at hbA HKG ⊢
  obtain ⟨G, hG⟩ : ∃ G, G = w3.heap.size := ⟨_, rfl⟩
  rw [← hG] at HKG ⊢
  have HGE : Hid (w.heap.size ≤ G ∧ w.heap.size ≠ G ∧ w.heap.size + 1 ≠ G) := by have h1 := HA3.out.lt; have h2 := HR3.out.lt; rw [hG]; exact ⟨by omega, by omega, by omega⟩
  clear hG hw4
  have HA4 := hideIt (HA3.out.below hbA HA3.out.lt)
  have HR4 := hideIt (HR3.out.below hbA HR3.out.lt)
  have HP4 := hideIt (HP3.out.below hbA)
  have HQ4 := hideIt (HQ3.out.below hbA)
  have HV4 := hideIt (HV3.out.below hbA)
  have HB4 := hideIt (HBW3.out.trans (hbA.mono HBW3.out.size))
  clear hbA
  have HN := hideIt hn
  clear hn
  go_loopw [11] (fun i wr => ∃ k : Nat, k ≤ n ∧ i = .int .i64 (k : Int) ∧ Blk wr w.heap.size #[.bool p.n, .slice p.u p.nu p.cu, .slice p.l p.nl p.cl, .bool q.n, .slice q.u q.nu q.cu, .slice q.l q.nl q.cl] 86 ∧ Blk wr (w.heap.size + 1) #[.bool false, .slice none 0 0, .slice none 0 0, .bool false, .slice none 0 0, .slice none 0 0] 86 ∧ Below w.heap.size w wr ∧ QV wr (.agg #[.bool p.n, .slice p.u p.nu p.cu, .slice p.l p.nl p.cl]) (x * fac [x, y]) ∧ QV wr (.agg #[.bool q.n, .slice q.u q.nu q.cu, .slice q.l q.nl q.cl]) (y * fac [x, y]) ∧ ∃ c d : C3, Blk wr G #[.bool c.n, .slice c.u c.nu c.cu, .slice c.l c.nl c.cl, .bool d.n, .slice d.u d.nu d.cu, .slice d.l d.nl d.cl] 86 ∧ QV wr (.agg #[.bool c.n, .slice c.u c.nu c.cu, .slice c.l c.nl c.cl]) (cpow (x * fac [x, y]) (y * fac [x, y]) k).1 ∧ QV wr (.agg #[.bool d.n, .slice d.u d.nu d.cu, .slice d.l d.nl d.cl]) (cpow (x * fac [x, y]) (y * fac [x, y]) k).2) (fun i _ => n - (intOf i).toNat)
  case atStart =>
    exact ⟨0, Nat.zero_le _, rfl, HA4.out, HR4.out, HB4.out, HP4.out, HQ4.out, c0, ⟨false, none, 0, 0, none, 0, 0⟩, HKG.out, HV4.out, qv_zero0 _⟩
  case round =>
    obtain ⟨k, hkl, rfl, hA, hR, hbel, hp, hq, c, d, hG, hc, hd⟩ := hrel
    have HA' := hideIt hA
    have HR' := hideIt hR
    have HG' := hideIt hG
    have HB' := hideIt hbel
    have HP' := hideIt hp
    have HQ' := hideIt hq
    have HC' := hideIt hc
    have HD' := hideIt hd
    obtain ⟨x0, x1, x2, x3, x4, x5, _⟩ := hA.all6
    obtain ⟨y0, y1, y2, y3, y4, y5, g0, g1, g2, g3, g4, g5⟩ := hG.all6
    obtain ⟨r0, r1, r2, r3, r4, r5, e0, e1, e2, e3, e4, e5⟩ := hR.all6
    clear hA hR hG hbel hp hq hc hd
    by_cases hend : k = n
    · subst hend
      go_wp2
      obtain ⟨k0, k1, k2, k3, k4, k5, _⟩ := (HR'.out.put6 (.bool c.n) (.slice c.u c.nu c.cu) (.slice c.l c.nl c.cl) (.bool d.n) (.slice d.u d.nu d.cu) (.slice d.l d.nl d.cl)).all6
      refine bodyPost_ret (v := .agg #[.bool c.n, .slice c.u c.nu c.cu, .slice c.l c.nl c.cl, .bool d.n, .slice d.u d.nu d.cu, .slice d.l d.nl d.cl]) (by simp [results, Tryz.results148, go_sem, k0, k1, k2, k3, k4, k5]) rfl ⟨Below.put6 HB'.out (by omega) (.bool c.n) (.slice c.u c.nu c.cu) (.slice c.l c.nl c.cl) (.bool d.n) (.slice d.u d.nu d.cu) (.slice d.l d.nl d.cl), _, rfl, ?_⟩
      have hst := Stays.put6 HR'.out (by simp [notLimb]) (.bool c.n) (.slice c.u c.nu c.cu) (.slice c.l c.nl c.cl) (.bool d.n) (.slice d.u d.nu d.cu) (.slice d.l d.nl d.cl) rfl rfl rfl rfl rfl rfl
      exact ⟨c, d, rfl, hst.qv HC'.out, hst.qv HD'.out⟩
    · have hlt : k < n := by omega
      have hn60 := HN.out
      have JP := hideIt (QI.pow I1.out I2.out k)
      have KK : Hid (2 * (k * (3 * K + 1 + 1) + 1 + 1 + (3 * K + 1 + 1) + 1) + 1 ≤ 35184372088640) := by
        have h1 := HK.out
        have h2 := HN.out
        have h3 : k * (3 * K + 1 + 1) ≤ 60 * (3 * K + 1 + 1) := Nat.mul_le_mul_right _ (by omega)
        show _ ≤ _
        omega
      go_wp2_with fail
      refine (wayProd_calls ⟨c, d, rfl, HC'.out, HD'.out⟩ ⟨p, q, rfl, HP'.out, HQ'.out⟩ JP.out.1.qs JP.out.2.qs I1.out.qs I2.out.qs KK.out).mono ?_
      rintro _ w5 ⟨hb5, v5, rfl, d5, e5, rfl, hx5, hy5⟩
      have hG5 := HG'.out.below hb5 HG'.out.lt
      have HG5 := hideIt hG5
      have HX5 := hideIt hx5
      have HY5 := hideIt hy5
      have HB5 := hideIt hb5
      obtain ⟨y0, y1, y2, y3, y4, y5, g0, g1, g2, g3, g4, g5⟩ := hG5.all6
      clear hG5 hx5 hy5 hb5
      go_wp2
      go_roundw
      case rel =>
        have hst := Stays.put6 HG5.out (by simp [notLimb]) (.bool d5.n) (.slice d5.u d5.nu d5.cu) (.slice d5.l d5.nl d5.cl) (.bool e5.n) (.slice e5.u e5.nu e5.cu) (.slice e5.l e5.nl e5.cl) rfl rfl rfl rfl rfl rfl
        exact ⟨k + 1, hlt, by go_num, (HA'.out.below HB5.out HA'.out.lt).off6 (g := G) HGE.out.2.1.symm _ _ _ _ _ _, (HR'.out.below HB5.out HR'.out.lt).off6 (g := G) HGE.out.2.2.symm _ _ _ _ _ _, Below.put6 (HB'.out.trans (HB5.out.mono HB'.out.size)) HGE.out.1 _ _ _ _ _ _, hst.qv (HP'.out.below HB5.out), hst.qv (HQ'.out.below HB5.out), d5, e5, HG5.out.put6 _ _ _ _ _ _, hst.qv HX5.out, hst.qv HY5.out⟩
      case measure => simp [intOf]; omega
theorem power_calls {w : World} {v : Value} {x y : Rat} {n : Nat} (h : WV w v x y) {K : Nat} (f1 : QS K x) (f2 : QS K y) (hn : n ≤ 60) (hk : 1000 * (K + 1) ≤ 35184372088640) :
    Calls Tryz.prog 148 #[v, .int .i64 n] w fun e w' => Below w.heap.size w w' ∧ ∃ v, e = .returned v ∧ WV w' v (cpow (x * fac [x, y]) (y * fac [x, y]) n).1 (cpow (x * fac [x, y]) (y * fac [x, y]) n).2 := by
  obtain ⟨a, b, rfl, h1, h2⟩ := h
  exact power_walk h1 h2 f1 f2 hn hk
theorem angTimes_walk {w : World} {s c : ByteArray} {n : Nat} (s1 : s.data.toList.length ≤ 4294967296) (s2 : c.data.toList.length ≤ 4294967296) {k : Nat} (f1 : QS k (rd c.data.toList)) (f2 : QS k (rd s.data.toList)) (hn : n ≤ 60) (hk : 1000 * (k + 1) ≤ 35184372088640) (tab : Tab w) :
    Calls Tryz.prog 100 #[.agg #[.string s, .string c], .int .i64 n] w fun e w' => Below w.heap.size w w' ∧ ∃ (sa sb : ByteArray) (z : Int), e = .returned (.tuple #[.agg #[.string sa, .string sb], .int .i64 z]) ∧ AngAns ((rd c.data.toList) = 0 ∧ (rd s.data.toList) = 0) (cpow ((rd c.data.toList) * fac [(rd c.data.toList), (rd s.data.toList)]) ((rd s.data.toList) * fac [(rd c.data.toList), (rd s.data.toList)]) n).1 (cpow ((rd c.data.toList) * fac [(rd c.data.toList), (rd s.data.toList)]) ((rd s.data.toList) * fac [(rd c.data.toList), (rd s.data.toList)]) n).2 sa.data.toList sb.data.toList z := by
  obtain ⟨hb0, hk0, hk2, hsz⟩ := boxes2 w #[.string s, .string c] #[.string ⟨#[]⟩, .string ⟨#[]⟩] 67 67
  have HB0 := hideIt hb0
  have HSZ := hideIt hsz
  have HK2 := hideIt hk2
  have HTAB := hideIt (tab.below hb0)
  have S1 := hideIt s1
  have S2 := hideIt s2
  have F1 := hideIt f1
  have F2 := hideIt f2
  have HK := hideIt hk
  have I := hideIt (QI.pow (QI.fac2 f1 f2 (q := (rd c.data.toList)) (by simp)) (QI.fac2 f1 f2 (q := (rd s.data.toList)) (by simp)) n)
  have KK : Hid (3 * (n * (3 * k + 1 + 1) + 1 + 1) + 2 ≤ 35184372088640) := by
    have h3 : n * (3 * k + 1 + 1) ≤ 60 * (3 * k + 1 + 1) := Nat.mul_le_mul_right _ hn
    show _ ≤ _
    omega
  clear hb0 hsz hk0 hk2 tab s1 s2 f1 f2 hk
  go_enter Tryz.func100, Tryz.ntmps100
  go_wp2_with fail
  generalize ((w.alloc (.cells #[.string s, .string c] 67)).alloc (.cells #[.string ⟨#[]⟩, .string ⟨#[]⟩] 67)) = W0 at *
  refine (angleRead_calls ⟨s, c, rfl, rfl, rfl⟩ S1.out S2.out).mono ?_
  rintro _ w1 ⟨hb1, ⟨h1, h2, rfl⟩ | ⟨hn0, v1, rfl, hv1⟩⟩
  · have HKR := hideIt (HK2.out.below hb1 (by rw [HSZ.out]; omega))
    have HBW := hideIt (HB0.out.trans (hb1.mono HB0.out.size))
    have HH := hideIt (And.intro h1 h2)
    have r0 : ∀ o, (w1.alloc o).cell? ⟨w.heap.size + 1, 0, none⟩ = some (.string ⟨#[]⟩) := fun o => (HKR.out.old o).cell 0
    have j0 : ∀ o, (w1.alloc o).frozen? ⟨w.heap.size + 1, 0, none⟩ = false := fun o => (HKR.out.old o).frozen 0
    have r1 : ∀ o, (w1.alloc o).cell? ⟨w.heap.size + 1, 1, none⟩ = some (.string ⟨#[]⟩) := fun o => (HKR.out.old o).cell 1
    have j1 : ∀ o, (w1.alloc o).frozen? ⟨w.heap.size + 1, 1, none⟩ = false := fun o => (HKR.out.old o).frozen 1
    obtain ⟨q0, q1, g0, g1⟩ := HKR.out.all2
    have lR := HKR.out.lt
    clear hb1 h1 h2
    go_wp2
    obtain ⟨k0, k1, _⟩ := ((HKR.out.put2 (.string ⟨#[]⟩) (.string ⟨#[]⟩)).old (.cells #[.bool false, .slice none 0 0, .slice none 0 0, .bool false, .slice none 0 0, .slice none 0 0] 86)).all2
    have hbf := (Below.put2 HBW.out (g := w.heap.size + 1) (by omega) (.string ⟨#[]⟩) (.string ⟨#[]⟩))
    exact bodyPost_ret (v := .tuple #[.agg #[.string ⟨#[]⟩, .string ⟨#[]⟩], .int .i64 5]) (by simp [results, Tryz.results100, go_sem, k0, k1]) rfl ⟨hbf.alloc hbf.size _, _, _, _, rfl, Or.inl ⟨HH.out, rfl, rfl, rfl⟩⟩
  · obtain ⟨a, b, rfl, hx0, hx1⟩ := hv1
    have N0 := hideIt hx0
    have N1 := hideIt hx1
    have HN := hideIt hn0
    have HB1 := hideIt hb1
    clear hx0 hx1 hn0 hb1
    go_wp2_with fail
    obtain ⟨w2, hw2⟩ : ∃ w2, w2 = w1.alloc (.cells #[.bool a.n, .slice a.u a.nu a.cu, .slice a.l a.nl a.cl, .bool b.n, .slice b.u b.nu b.cu, .slice b.l b.nl b.cl] 86) := ⟨_, rfl⟩
    have hbA := below_new w1 (.cells #[.bool a.n, .slice a.u a.nu a.cu, .slice a.l a.nl a.cl, .bool b.n, .slice b.u b.nu b.cu, .slice b.l b.nl b.cl] 86)
    have HKG := hideIt (Blk.new w1 #[.bool a.n, .slice a.u a.nu a.cu, .slice a.l a.nl a.cl, .bool b.n, .slice b.u b.nu b.cu, .slice b.l b.nl b.cl] 86)
    rw [← hw2] at hbA HKG ⊢
    obtain ⟨G, hG⟩ : ∃ G, G = w1.heap.size := ⟨_, rfl⟩
    rw [← hG] at HKG ⊢
    clear hG hw2
    have HBL : Hid (Below W0.heap.size W0 w2) := HB1.out.trans (hbA.mono HB1.out.size)
    have O0 := hideIt (N0.out.below hbA)
    have O1 := hideIt (N1.out.below hbA)
    clear hbA
    obtain ⟨z0, z1, z2, z3, z4, z5, _⟩ := HKG.out.all6
    refine (power_calls ⟨a, b, rfl, O0.out, O1.out⟩ F1.out F2.out hn HK.out).mono ?_
    rintro _ w5 ⟨hb5, v5, rfl, hv5⟩
    have hbl5 := HBL.out.trans (hb5.mono HBL.out.size)
    go_wp2_with fail
    refine (angleText_calls hv5 I.out.1.qs I.out.2.qs KK.out (HTAB.out.below hbl5)).mono ?_
    rintro _ w6 ⟨hb6, v6, rfl, sa, sb, rfl, ta, tb⟩
    have hbl6 := hbl5.trans (hb6.mono hbl5.size)
    have HKR := hideIt (HK2.out.below hbl6 (by rw [HSZ.out]; omega))
    have HBW := hideIt (HB0.out.trans (hbl6.mono HB0.out.size))
    have HT := hideIt (And.intro ta tb)
    obtain ⟨q0, q1, g0, g1⟩ := HKR.out.all2
    clear hb5 hb6 hbl5 hbl6 ta tb hv5 z0 z1 z2 z3 z4 z5
    go_wp2
    obtain ⟨k0, k1, _⟩ := (HKR.out.put2 (.string sa) (.string sb)).all2
    exact bodyPost_ret (v := .tuple #[.agg #[.string sa, .string sb], .int .i64 0]) (by simp [results, Tryz.results100, go_sem, k0, k1]) rfl ⟨Below.put2 HBW.out (by omega) _ _, _, _, _, rfl, Or.inr ⟨HN.out, rfl, HT.out.1, HT.out.2⟩⟩
end Go.Proofs.YtgajdmadbdbabaaGreatDoor
/- XG -/
namespace Go.Proofs.YtgajdmadbdbabaaGreatDoor
open Go.RowKit Cx
theorem sq_nonneg (a : Rat) : 0 ≤ a * a := by
  rcases Rat.le_total (a := 0) (b := a) with h | h
  · exact Rat.mul_nonneg h h
  · have := Rat.mul_nonneg (Rat.neg_le_neg h) (Rat.neg_le_neg h)
    grind
theorem norm_ne {a b : Rat} (h : ¬ (a = 0 ∧ b = 0)) : a * a + b * b ≠ 0 := by
  intro e
  have h1 := sq_nonneg a
  have h2 := sq_nonneg b
  have e1 : a * a = 0 := by grind
  have e2 : b * b = 0 := by grind
  exact h ⟨(Rat.mul_eq_zero.1 e1).elim id id, (Rat.mul_eq_zero.1 e2).elim id id⟩
theorem ne_norm {a b : Rat} (h : a * a + b * b ≠ 0) : ¬ (a = 0 ∧ b = 0) := by
  rintro ⟨rfl, rfl⟩
  exact h (by decide +kernel)
theorem prod_ne {a b c d : Rat} (h1 : ¬ (a = 0 ∧ b = 0)) (h2 : ¬ (c = 0 ∧ d = 0)) : ¬ (a * c - b * d = 0 ∧ a * d + b * c = 0) := by
  apply ne_norm
  have e : (a * c - b * d) * (a * c - b * d) + (a * d + b * c) * (a * d + b * c) = (a * a + b * b) * (c * c + d * d) := by grind
  rw [e]
  intro h
  exact (Rat.mul_eq_zero.1 h).elim (norm_ne h1) (norm_ne h2)
theorem fac2_ne {x y : Rat} (h : ¬ (x = 0 ∧ y = 0)) : fac [x, y] ≠ 0 := by
  by_cases hx : x = 0
  · exact fac_ne (q := y) (by simp) (fun e => h ⟨hx, e⟩)
  · exact fac_ne (q := x) (by simp) hx
theorem scaled_ne {x y f : Rat} (h : ¬ (x = 0 ∧ y = 0)) (hf : f ≠ 0) : ¬ (x * f = 0 ∧ y * f = 0) := by
  rintro ⟨h1, h2⟩
  exact h ⟨(Rat.mul_eq_zero.1 h1).resolve_right hf, (Rat.mul_eq_zero.1 h2).resolve_right hf⟩
theorem plain_one {r : Rat} (h : r ≠ 0) : r * fac [r, 0] = 1 := by
  have hn : r.num ≠ 0 := fun e => h (Rat.num_eq_zero.1 e)
  rw [← pl_mul (qs := [r, 0]) (by simp)]
  have e1 : gN [r, 0] = r.num.natAbs := by simp [gN]
  have e2 : lD [r, 0] = r.den := by simp [lD]
  have e3 : fb [r, 0] = decide (r.num < 0) := by simp [fb, hn]
  unfold pl
  rw [e1, e2, e3, Nat.div_self (by omega), Nat.div_self r.den_pos]
  simp [sg]
theorem three {X1 Y1 X2 Y2 X3 Y3 : Rat} {s1 c1 s2 c2 s3 c3 s4 c4 s5 c5 : List UInt8} {h i : Int}
    (n1 : ¬ (X1 = 0 ∧ Y1 = 0)) (n2 : ¬ (X2 = 0 ∧ Y2 = 0)) (n3 : ¬ (X3 = 0 ∧ Y3 = 0)) (t : (X1 * X2 - Y1 * Y2) * Y3 + (X1 * Y2 + Y1 * X2) * X3 = 0)
    (e1 : s1 = tx (Y1 * fac [X1, Y1]) ∧ c1 = tx (X1 * fac [X1, Y1])) (e2 : s2 = tx (Y2 * fac [X2, Y2]) ∧ c2 = tx (X2 * fac [X2, Y2])) (e3 : s3 = tx (Y3 * fac [X3, Y3]) ∧ c3 = tx (X3 * fac [X3, Y3]))
    (a4 : AngAns ((rd c1 = 0 ∧ rd s1 = 0) ∨ (rd c2 = 0 ∧ rd s2 = 0)) (rd c1 * rd c2 - rd s1 * rd s2) (rd c1 * rd s2 + rd s1 * rd c2) s4 c4 h)
    (a5 : AngAns ((rd c4 = 0 ∧ rd s4 = 0) ∨ (rd c3 = 0 ∧ rd s3 = 0)) (rd c4 * rd c3 - rd s4 * rd s3) (rd c4 * rd s3 + rd s4 * rd c3) s5 c5 i) :
    h = 0 ∧ i = 0 ∧ s5 = [48] ∧ c5 = [49] := by
  have f1 := fac2_ne n1
  have f2 := fac2_ne n2
  have f3 := fac2_ne n3
  obtain ⟨rfl, rfl⟩ := e1
  obtain ⟨rfl, rfl⟩ := e2
  obtain ⟨rfl, rfl⟩ := e3
  simp only [rd_tx] at a4 a5
  have m1 := scaled_ne n1 f1
  have m2 := scaled_ne n2 f2
  have m3 := scaled_ne n3 f3
  generalize fac [X1, Y1] = g1 at *
  generalize fac [X2, Y2] = g2 at *
  generalize fac [X3, Y3] = g3 at *
  have n4 := prod_ne m1 m2
  rcases a4 with ⟨a4, _⟩ | ⟨_, h4, es, ec⟩
  · exact absurd a4 (fun h => h.elim m1 m2)
  · have f4 := fac2_ne n4
    have m4 := scaled_ne n4 f4
    rw [es, ec] at a5
    simp only [rd_tx] at a5
    generalize fac [X1 * g1 * (X2 * g2) - Y1 * g1 * (Y2 * g2), X1 * g1 * (Y2 * g2) + Y1 * g1 * (X2 * g2)] = g4 at *
    have n5 := prod_ne m4 m3
    rcases a5 with ⟨a5, _⟩ | ⟨_, h5, es, ec⟩
    · exact absurd a5 (fun h => h.elim m4 m3)
    · have z : (X1 * g1 * (X2 * g2) - Y1 * g1 * (Y2 * g2)) * g4 * (Y3 * g3) + (X1 * g1 * (Y2 * g2) + Y1 * g1 * (X2 * g2)) * g4 * (X3 * g3) = 0 := by
        have : (X1 * g1 * (X2 * g2) - Y1 * g1 * (Y2 * g2)) * g4 * (Y3 * g3) + (X1 * g1 * (Y2 * g2) + Y1 * g1 * (X2 * g2)) * g4 * (X3 * g3) = ((X1 * X2 - Y1 * Y2) * Y3 + (X1 * Y2 + Y1 * X2) * X3) * (g1 * g2 * g3 * g4) := by grind
        rw [this, t, Rat.zero_mul]
      rw [z] at es ec n5
      generalize (X1 * g1 * (X2 * g2) - Y1 * g1 * (Y2 * g2)) * g4 * (X3 * g3) - (X1 * g1 * (Y2 * g2) + Y1 * g1 * (X2 * g2)) * g4 * (Y3 * g3) = r at *
      have hr : r ≠ 0 := fun e => n5 ⟨e, rfl⟩
      rw [Rat.zero_mul] at es
      rw [plain_one hr] at ec
      exact ⟨h4, h5, es.trans (tx_int 0 (by decide)), ec.trans (tx_int 1 (by decide))⟩
end Go.Proofs.YtgajdmadbdbabaaGreatDoor
/- XH -/
namespace Go.Proofs.YtgajdmadbdbabaaGreatDoor
open Go.RowKit Cx
attribute [local go_sem ↓] Go.wp_at_zero Go.wp_at_succ
theorem an_from {s c : List UInt8} {z : Int} (h : AngAns ((rd [48] = 0 ∧ rd [49] = 0) ∨ (rd [49] = 0 ∧ rd [45, 49] = 0)) (rd [48] * rd [49] - -rd [49] * rd [45, 49]) (rd [48] * rd [45, 49] + -rd [49] * rd [49]) s c z) : z = 0 ∧ s = [49] ∧ c = [49] := by
  rw [rd0, rd1, rdm1] at h
  rcases h with ⟨h, _⟩ | ⟨_, hz, h1, h2⟩
  · exact absurd h (by decide +kernel)
  · rw [show ((((0 : Int) : Rat) * ((-1 : Int) : Rat) + -((1 : Int) : Rat) * ((1 : Int) : Rat)) * fac [((0 : Int) : Rat) * ((1 : Int) : Rat) - -((1 : Int) : Rat) * ((-1 : Int) : Rat), ((0 : Int) : Rat) * ((-1 : Int) : Rat) + -((1 : Int) : Rat) * ((1 : Int) : Rat)]) = ((1 : Int) : Rat) by decide +kernel] at h1
    rw [show ((((0 : Int) : Rat) * ((1 : Int) : Rat) - -((1 : Int) : Rat) * ((-1 : Int) : Rat)) * fac [((0 : Int) : Rat) * ((1 : Int) : Rat) - -((1 : Int) : Rat) * ((-1 : Int) : Rat), ((0 : Int) : Rat) * ((-1 : Int) : Rat) + -((1 : Int) : Rat) * ((1 : Int) : Rat)]) = ((1 : Int) : Rat) by decide +kernel] at h2
    exact ⟨hz, h1.trans (tx_int 1 (by decide)), h2.trans (tx_int 1 (by decide))⟩
theorem an_pow : cpow (((1 : Int) : Rat) * fac [((1 : Int) : Rat), ((1 : Int) : Rat)]) (((1 : Int) : Rat) * fac [((1 : Int) : Rat), ((1 : Int) : Rat)]) 2 = (((0 : Int) : Rat), ((2 : Int) : Rat)) := by decide +kernel
theorem an_times {s c : List UInt8} {z : Int} (h : AngAns (rd [49] = 0 ∧ rd [49] = 0) (cpow (rd [49] * fac [rd [49], rd [49]]) (rd [49] * fac [rd [49], rd [49]]) 2).1 (cpow (rd [49] * fac [rd [49], rd [49]]) (rd [49] * fac [rd [49], rd [49]]) 2).2 s c z) : z = 0 ∧ s = [49] ∧ c = [48] := by
  rw [rd1, an_pow] at h
  rcases h with ⟨h, _⟩ | ⟨_, hz, h1, h2⟩
  · exact absurd h (by decide +kernel)
  · dsimp only at h1 h2
    rw [show ((2 : Int) : Rat) * fac [((0 : Int) : Rat), ((2 : Int) : Rat)] = ((1 : Int) : Rat) by decide +kernel] at h1
    rw [show ((0 : Int) : Rat) * fac [((0 : Int) : Rat), ((2 : Int) : Rat)] = ((0 : Int) : Rat) by decide +kernel] at h2
    exact ⟨hz, h1.trans (tx_int 1 (by decide)), h2.trans (tx_int 0 (by decide))⟩
theorem an_seen {s c : List UInt8} {z : Int} (h : AngAns ((rd [49] - rd [48] = 0 ∧ rd [48] - rd [48] = 0) ∨ (rd [48] - rd [48] = 0 ∧ rd [49] - rd [48] = 0)) ((rd [49] - rd [48]) * (rd [48] - rd [48]) - -(rd [48] - rd [48]) * (rd [49] - rd [48])) ((rd [49] - rd [48]) * (rd [49] - rd [48]) + -(rd [48] - rd [48]) * (rd [48] - rd [48])) s c z) : z = 0 ∧ s = [49] ∧ c = [48] := by
  rw [rd0, rd1] at h
  rw [show ((1 : Int) : Rat) - ((0 : Int) : Rat) = ((1 : Int) : Rat) by decide +kernel, show ((0 : Int) : Rat) - ((0 : Int) : Rat) = ((0 : Int) : Rat) by decide +kernel] at h
  rw [show (((1 : Int) : Rat) * ((0 : Int) : Rat) - -((0 : Int) : Rat) * ((1 : Int) : Rat)) = ((0 : Int) : Rat) by decide +kernel, show (((1 : Int) : Rat) * ((1 : Int) : Rat) + -((0 : Int) : Rat) * ((0 : Int) : Rat)) = ((1 : Int) : Rat) by decide +kernel] at h
  rcases h with ⟨h, _⟩ | ⟨_, hz, h1, h2⟩
  · exact absurd h (by decide +kernel)
  · rw [show ((1 : Int) : Rat) * fac [((0 : Int) : Rat), ((1 : Int) : Rat)] = ((1 : Int) : Rat) by decide +kernel] at h1
    rw [show ((0 : Int) : Rat) * fac [((0 : Int) : Rat), ((1 : Int) : Rat)] = ((0 : Int) : Rat) by decide +kernel] at h2
    exact ⟨hz, h1.trans (tx_int 1 (by decide)), h2.trans (tx_int 0 (by decide))⟩
theorem anpt_calls (x y : ByteArray) (w : World) :
    Calls Tryz.prog 72 #[.string x, .string y] w fun e w' => Below w.heap.size w w' ∧ e = .returned (.agg #[.string x, .string y]) := by
  go_enter Tryz.func72, Tryz.ntmps72
  go_wp2
  refine bodyPost_ret (v := .agg #[.string x, .string y]) (by simp [results, Tryz.results72, go_sem]) rfl ⟨below_new _ _, rfl⟩
theorem angled_calls (w : World) (tab : Tab w) :
    Calls Tryz.prog 52 #[] w fun e w' => Below w.heap.size w w' ∧ e = .returned (.bool true) := by
  have HT := hideIt tab
  clear tab
  go_enter Tryz.func52, Tryz.ntmps52
  go_wp2_with fail
  refine (angFrom_calls (va := .agg #[.string ⟨#[48]⟩, .string ⟨#[49]⟩, .string ⟨#[]⟩]) (vb := .agg #[.string ⟨#[49]⟩, .string ⟨#[45, 49]⟩, .string ⟨#[]⟩]) ⟨⟨#[48]⟩, ⟨#[49]⟩, ⟨#[]⟩, rfl, rfl, rfl, rfl⟩ ⟨⟨#[49]⟩, ⟨#[45, 49]⟩, ⟨#[]⟩, rfl, rfl, rfl, rfl⟩ (len6 _ (by decide)) (len6 _ (by decide)) (len6 _ (by decide)) (len6 _ (by decide)) (len6 _ (by decide)) (len6 _ (by decide)) (qs30 _ (by decide)) (qs30 _ (by decide)) (qs30 _ (by decide)) (qs30 _ (by decide)) (by decide) HT.out).mono ?_
  rintro _ w1 ⟨hb1, sa, sb, z, rfl, hans⟩
  obtain ⟨rfl, h1, h2⟩ := an_from hans
  obtain rfl := bytes_eq h1
  obtain rfl := bytes_eq h2
  have HB1 := hideIt hb1
  clear hb1 hans h1 h2
  go_wp2_with fail
  obtain ⟨w2, hw2⟩ : ∃ w2, w2 = w1.alloc (.cells #[.string ⟨#[49]⟩, .string ⟨#[49]⟩] 67) := ⟨_, rfl⟩
  have hbA := below_new w1 (.cells #[.string ⟨#[49]⟩, .string ⟨#[49]⟩] 67)
  have HKG := hideIt (Blk.new w1 #[.string ⟨#[49]⟩, .string ⟨#[49]⟩] 67)
  rw [← hw2] at hbA HKG ⊢
  obtain ⟨G, hG⟩ : ∃ G, G = w1.heap.size := ⟨_, rfl⟩
  rw [← hG] at HKG ⊢
  clear hG hw2
  have HB2 := hideIt (HB1.out.trans (hbA.mono HB1.out.size))
  clear hbA
  refine (angTimes_walk (s := ⟨#[49]⟩) (c := ⟨#[49]⟩) (n := 2) (len6 _ (by decide)) (len6 _ (by decide)) (qs30 _ (by decide)) (qs30 _ (by decide)) (by decide) (by decide) (HT.out.below HB2.out)).mono ?_
  rintro _ w3 ⟨hb3, sa, sb, z, rfl, hans⟩
  obtain ⟨rfl, h1, h2⟩ := an_times hans
  obtain rfl := bytes_eq h1
  obtain rfl := bytes_eq h2
  have HB3 := hideIt (HB2.out.trans (hb3.mono HB2.out.size))
  have HKG3 := hideIt (HKG.out.below hb3 HKG.out.lt)
  clear hb3 hans h1 h2 HKG
  go_wp2_with fail
  obtain ⟨w4, hw4⟩ : ∃ w4, w4 = w3.alloc (.cells #[.string ⟨#[49]⟩, .string ⟨#[48]⟩] 67) := ⟨_, rfl⟩
  have hbA := below_new w3 (.cells #[.string ⟨#[49]⟩, .string ⟨#[48]⟩] 67)
  have HKH := hideIt (Blk.new w3 #[.string ⟨#[49]⟩, .string ⟨#[48]⟩] 67)
  rw [← hw4] at hbA HKH ⊢
  obtain ⟨H, hH⟩ : ∃ H, H = w3.heap.size := ⟨_, rfl⟩
  rw [← hH] at HKH ⊢
  clear hH hw4
  have HB4 := hideIt (HB3.out.trans (hbA.mono HB3.out.size))
  have HKG4 := hideIt (HKG3.out.below hbA HKG3.out.lt)
  clear hbA
  refine (anpt_calls ⟨#[49]⟩ ⟨#[48]⟩ _).mono ?_
  rintro _ w5 ⟨hb5, rfl⟩
  go_wp2_with fail
  refine (anpt_calls ⟨#[48]⟩ ⟨#[49]⟩ _).mono ?_
  rintro _ w6 ⟨hb6, rfl⟩
  go_wp2_with fail
  refine (anpt_calls ⟨#[48]⟩ ⟨#[48]⟩ _).mono ?_
  rintro _ w7 ⟨hb7, rfl⟩
  have hbl6 := hb5.trans (hb6.mono hb5.size)
  have hbl7 := hbl6.trans (hb7.mono hbl6.size)
  have HB7 := hideIt (HB4.out.trans (hbl7.mono HB4.out.size))
  have HKG7 := hideIt (HKG4.out.below hbl7 HKG4.out.lt)
  have HKH7 := hideIt (HKH.out.below hbl7 HKH.out.lt)
  clear hb5 hb6 hb7 hbl6 hbl7
  go_wp2_with fail
  refine (angSeen_walk (ax := ⟨#[49]⟩) (ay := ⟨#[48]⟩) (bx := ⟨#[48]⟩) (bz := ⟨#[49]⟩) (px := ⟨#[48]⟩) (pz := ⟨#[48]⟩) (len6 _ (by decide)) (len6 _ (by decide)) (len6 _ (by decide)) (len6 _ (by decide)) (len6 _ (by decide)) (len6 _ (by decide)) (qs30 _ (by decide)) (qs30 _ (by decide)) (qs30 _ (by decide)) (qs30 _ (by decide)) (qs30 _ (by decide)) (qs30 _ (by decide)) (by decide) (HT.out.below HB7.out)).mono ?_
  rintro _ w8 ⟨hb8, sa, sb, z, rfl, hans⟩
  obtain ⟨rfl, h1, h2⟩ := an_seen hans
  obtain rfl := bytes_eq h1
  obtain rfl := bytes_eq h2
  have HB8 := hideIt (HB7.out.trans (hb8.mono HB7.out.size))
  have HKG8 := hideIt (HKG7.out.below hb8 HKG7.out.lt)
  have HKH8 := hideIt (HKH7.out.below hb8 HKH7.out.lt)
  clear hb8 hans h1 h2
  have g0 : ∀ o, (w8.alloc o).cell? ⟨G, 0, none⟩ = some (.string ⟨#[49]⟩) := fun o => (HKG8.out.old o).cell 0
  have g1 : ∀ o, (w8.alloc o).cell? ⟨G, 1, none⟩ = some (.string ⟨#[49]⟩) := fun o => (HKG8.out.old o).cell 1
  have y0 : ∀ o, (w8.alloc o).cell? ⟨H, 0, none⟩ = some (.string ⟨#[49]⟩) := fun o => (HKH8.out.old o).cell 0
  have y1 : ∀ o, (w8.alloc o).cell? ⟨H, 1, none⟩ = some (.string ⟨#[48]⟩) := fun o => (HKH8.out.old o).cell 1
  go_wp2
  go_ret
  exact ⟨HB8.out.alloc HB8.out.size _, rfl⟩
end Go.Proofs.YtgajdmadbdbabaaGreatDoor
/- AWG -/
namespace Go.Proofs.YtgajdmadbdbabaaGreatDoor
open Go.RowKit Cx
theorem en_compasslaw_angled (vs : Array Value) (w : World) : (callFunc 52 vs).run Tryz.prog w = .ok (.enter 52 vs) w := enters Tryz.func52 (by kernel_rfl) (by kernel_rfl) vs w
theorem con_angled : Con Tryz.prog Pre 52 [] (Bo true) := fun w vs hp hall => by
  obtain rfl := all2_none hall
  refine (angled_calls w hp.1).mono ?_
  rintro _ w' ⟨hb, rfl⟩
  exact ⟨hb, _, rfl, rfl⟩
end Go.Proofs.YtgajdmadbdbabaaGreatDoor
/- AWR -/
namespace Go.Proofs.YtgajdmadbdbabaaGreatDoor
open Go.RowKit Cx
theorem TV.l3 {v : Value} {w : World} {a b c : List UInt8} {sa sb sc : ByteArray} (h : TV v a b c) (ea : sa.data.toList = a) (eb : sb.data.toList = b) (ec : sc.data.toList = c) : (L3 sa sb sc).on v w := by
  obtain ⟨x, y, z, rfl, h1, h2, h3⟩ := h
  obtain rfl : x = sa := (bytes_of (h1.trans ea.symm)).trans (bytes_of rfl).symm
  obtain rfl : y = sb := (bytes_of (h2.trans eb.symm)).trans (bytes_of rfl).symm
  obtain rfl : z = sc := (bytes_of (h3.trans ec.symm)).trans (bytes_of rfl).symm
  exact L3.mk _ _ _ _
theorem en_ruler_Read (vs : Array Value) (w : World) : (callFunc 71 vs).run Tryz.prog w = .ok (.enter 71 vs) w := enters Tryz.func71 (by kernel_rfl) (by kernel_rfl) vs w
theorem con_rread_ok {la lb lc : ByteArray} {rla rlb rlc : Rat} {k : Nat} (tla : TX k la rla) (tlb : TX k lb rlb) (tlc : TX k lc rlc) (hs : 2 * k + 4 ≤ 4294967296) (hn : ¬ (rla = 0 ∧ rlb = 0)) : Con Tryz.prog Pre 71 [L3 la lb lc] (Tup [Lv rla rlb rlc, In 0]) := fun w vs hp hall => by
  obtain ⟨v0, rfl, h1⟩ := all2_one hall
  cases L3.eq h1
  have erla := tla.rd
  have erlb := tlb.rd
  have erlc := tlc.rd
  subst erla erlb erlc
  refine (rulerRead_calls ⟨_, _, _, rfl, rfl, rfl, rfl⟩ (tla.len hs) (tlb.len hs) (tlc.len hs)).mono ?_
  rintro _ w' ⟨hb, ⟨h1, h2, rfl⟩ | ⟨hn', v, rfl, hv⟩⟩
  · exact absurd ⟨h1, h2⟩ hn
  · exact ⟨hb, _, rfl, [_, _], rfl, hv, rfl, trivial⟩
theorem con_rread_flat {la lb lc : ByteArray} {rla rlb rlc : Rat} {k : Nat} (tla : TX k la rla) (tlb : TX k lb rlb) (tlc : TX k lc rlc) (hs : 2 * k + 4 ≤ 4294967296) (hf : (rla = 0 ∧ rlb = 0)) : Con Tryz.prog Pre 71 [L3 la lb lc] (Tup [Lv 0 0 0, In 5]) := fun w vs hp hall => by
  obtain ⟨v0, rfl, h1⟩ := all2_one hall
  cases L3.eq h1
  have erla := tla.rd
  have erlb := tlb.rd
  have erlc := tlc.rd
  subst erla erlb erlc
  refine (rulerRead_calls ⟨_, _, _, rfl, rfl, rfl, rfl⟩ (tla.len hs) (tlb.len hs) (tlc.len hs)).mono ?_
  rintro _ w' ⟨hb, ⟨h1, h2, rfl⟩ | ⟨hn', v, rfl, hv⟩⟩
  · exact ⟨hb, _, rfl, [_, _], rfl, lv_zero w', rfl, trivial⟩
  · exact absurd hf hn'
theorem en_ruler_Line_Text (vs : Array Value) (w : World) : (callFunc 94 vs).run Tryz.prog w = .ok (.enter 94 vs) w := enters Tryz.func94 (by kernel_rfl) (by kernel_rfl) vs w
theorem con_rtext {sa sb sc : ByteArray} {x y z : Rat} {K : Nat} (f1 : QS K x) (f2 : QS K y) (f3 : QS K z) (hk : 4 * K + 2 ≤ 35184372088640) (ea : sa.data.toList = tx (x * fac [x, y, z])) (eb : sb.data.toList = tx (y * fac [x, y, z])) (ec : sc.data.toList = tx (z * fac [x, y, z])) : Con Tryz.prog Pre 94 [Lv x y z] (L3 sa sb sc) := fun w vs hp hall => by
  obtain ⟨v0, rfl, h1⟩ := all2_one hall
  refine (rulerText_calls h1 f1 f2 f3 hk hp.1).mono ?_
  rintro _ w' ⟨hb, v, rfl, hv⟩
  exact ⟨hb, _, rfl, hv.l3 ea eb ec⟩
theorem en_ruler_Square (vs : Array Value) (w : World) : (callFunc 104 vs).run Tryz.prog w = .ok (.enter 104 vs) w := enters Tryz.func104 (by kernel_rfl) (by kernel_rfl) vs w
theorem con_rsquare {px pz ax ay C : Rat} {k l : Nat} (eC : C = -(ax * px + ay * pz)) (f1 : QS k ax) (f2 : QS k ay) (f3 : QS l px) (f4 : QS l pz) (hk : 2 * (k + l + 1) + 1 ≤ 35184372088640) : Con Tryz.prog Pre 104 [Wv px pz, Wv ax ay] (Lv ax ay C) := fun w vs _ hall => by
  obtain ⟨v0, v1, rfl, h1, h2⟩ := all2_two hall
  refine (rulerSquare_calls h1 h2 f1 f2 f3 f4 hk).mono ?_
  rintro _ w' ⟨hb, v, rfl, hv⟩
  subst eC
  exact ⟨hb, _, rfl, hv⟩
theorem en_way_Read (vs : Array Value) (w : World) : (callFunc 62 vs).run Tryz.prog w = .ok (.enter 62 vs) w := enters Tryz.func62 (by kernel_rfl) (by kernel_rfl) vs w
theorem con_wread {px py : ByteArray} {rpx rpy : Rat} {k : Nat} (tpx : TX k px rpx) (tpy : TX k py rpy) (hs : 2 * k + 4 ≤ 4294967296) : Con Tryz.prog Pre 62 [P2 px py] (Wv rpx rpy) := fun w vs _ hall => by
  obtain ⟨v0, rfl, h1⟩ := all2_one hall
  cases P2.eq h1
  have erpx := tpx.rd
  have erpy := tpy.rd
  subst erpx erpy
  refine (wayRead_calls ⟨_, _, rfl, rfl, rfl⟩ (tpx.len hs) (tpy.len hs)).mono ?_
  rintro _ w' ⟨hb, v, rfl, hv⟩
  exact ⟨hb, _, rfl, hv⟩
theorem en_way_Way_Left (vs : Array Value) (w : World) : (callFunc 65 vs).run Tryz.prog w = .ok (.enter 65 vs) w := enters Tryz.func65 (by kernel_rfl) (by kernel_rfl) vs w
theorem con_wleft {x y z : Rat} (ez : z = -y) : Con Tryz.prog Pre 65 [Wv x y] (Wv z x) := fun w vs _ hall => by
  obtain ⟨v0, rfl, h1⟩ := all2_one hall
  refine (wayLeft_calls h1).mono ?_
  rintro _ w' ⟨hb, v, rfl, hv⟩
  subst ez
  exact ⟨hb, _, rfl, hv⟩
theorem en_way_Way_Product (vs : Array Value) (w : World) : (callFunc 103 vs).run Tryz.prog w = .ok (.enter 103 vs) w := enters Tryz.func103 (by kernel_rfl) (by kernel_rfl) vs w
theorem con_wprod {ax ay bx bz X Y : Rat} {k l : Nat} (eX : X = ax * bx - ay * bz) (eY : Y = ax * bz + ay * bx) (f1 : QS k ax) (f2 : QS k ay) (f3 : QS l bx) (f4 : QS l bz) (hk : 2 * (k + l + 1) + 1 ≤ 35184372088640) : Con Tryz.prog Pre 103 [Wv ax ay, Wv bx bz] (Wv X Y) := fun w vs _ hall => by
  obtain ⟨v0, v1, rfl, h1, h2⟩ := all2_two hall
  refine (wayProd_calls h1 h2 f1 f2 f3 f4 hk).mono ?_
  rintro _ w' ⟨hb, v, rfl, hv⟩
  subst eX eY
  exact ⟨hb, _, rfl, hv⟩
theorem en_angle_read (vs : Array Value) (w : World) : (callFunc 98 vs).run Tryz.prog w = .ok (.enter 98 vs) w := enters Tryz.func98 (by kernel_rfl) (by kernel_rfl) vs w
theorem con_aread_ok {ls lc : ByteArray} {rls rlc : Rat} {k : Nat} (tls : TX k ls rls) (tlc : TX k lc rlc) (hs : 2 * k + 4 ≤ 4294967296) (hn : ¬ (rlc = 0 ∧ rls = 0)) : Con Tryz.prog Pre 98 [P2 ls lc] (Tup [Wv rlc rls, In 0]) := fun w vs hp hall => by
  obtain ⟨v0, rfl, h1⟩ := all2_one hall
  cases P2.eq h1
  have erls := tls.rd
  have erlc := tlc.rd
  subst erls erlc
  refine (angleRead_calls ⟨_, _, rfl, rfl, rfl⟩ (tls.len hs) (tlc.len hs)).mono ?_
  rintro _ w' ⟨hb, ⟨h1, h2, rfl⟩ | ⟨hn', v, rfl, hv⟩⟩
  · exact absurd ⟨h1, h2⟩ hn
  · exact ⟨hb, _, rfl, [_, _], rfl, hv, rfl, trivial⟩
theorem con_aread_flat {ls lc : ByteArray} {rls rlc : Rat} {k : Nat} (tls : TX k ls rls) (tlc : TX k lc rlc) (hs : 2 * k + 4 ≤ 4294967296) (hf : (rlc = 0 ∧ rls = 0)) : Con Tryz.prog Pre 98 [P2 ls lc] (Tup [Wv 0 0, In 5]) := fun w vs hp hall => by
  obtain ⟨v0, rfl, h1⟩ := all2_one hall
  cases P2.eq h1
  have erls := tls.rd
  have erlc := tlc.rd
  subst erls erlc
  refine (angleRead_calls ⟨_, _, rfl, rfl, rfl⟩ (tls.len hs) (tlc.len hs)).mono ?_
  rintro _ w' ⟨hb, ⟨h1, h2, rfl⟩ | ⟨hn', v, rfl, hv⟩⟩
  · exact ⟨hb, _, rfl, [_, _], rfl, wv_zero w', rfl, trivial⟩
  · exact absurd hf hn'
theorem en_line_square (vs : Array Value) (w : World) : (callFunc 63 vs).run Tryz.prog w = .ok (.enter 63 vs) w := enters Tryz.func63 (by kernel_rfl) (by kernel_rfl) vs w
theorem con_insquare_ok {sa sb sc : ByteArray} {px py ax ay C : Rat} {k l : Nat} (eC : C = -(ax * px + ay * py)) (f1 : QS k ax) (f2 : QS k ay) (f3 : QS l px) (f4 : QS l py) (hk : 20 * (k + l + 1) ≤ 35184372088640) (hn : ¬ (ax = 0 ∧ ay = 0)) (ea : sa.data.toList = tx (ax * fac [ax, ay, C])) (eb : sb.data.toList = tx (ay * fac [ax, ay, C])) (ec : sc.data.toList = tx (C * fac [ax, ay, C])) : Con Tryz.prog Pre 63 [Wv px py, Wv ax ay] (Tup [L3 sa sb sc, In 0]) := fun w vs hp hall => by
  obtain ⟨v0, v1, rfl, h1, h2⟩ := all2_two hall
  refine (square_ans h1 h2 f1 f2 f3 f4 hk hp.1).mono ?_
  rintro _ w' ⟨hb, la, lb, lc, z, rfl, hans⟩
  subst eC
  exact ⟨hb, _, rfl, lineAns_ok hans hn ea eb ec⟩
end Go.Proofs.YtgajdmadbdbabaaGreatDoor
/- AWS -/
namespace Go.Proofs.YtgajdmadbdbabaaGreatDoor
open Go.RowKit Cx
theorem con_lsq_ok {la lb lc px py sa sb sc : ByteArray} {rla rlb rlc rpx rpy A C : Rat} {k : Nat} (tla : TX k la rla) (tlb : TX k lb rlb) (tlc : TX k lc rlc) (tpx : TX k px rpx) (tpy : TX k py rpy) (_ : A = -rlb) (_ : C = -(A * rpx + rla * rpy)) (_ : 2 * k + 4 ≤ 4294967296) (_ : 20 * (k + k + 1) ≤ 35184372088640) (_ : ¬ (A = 0 ∧ rla = 0)) (ea : sa.data.toList = tx (A * fac [A, rla, C])) (eb : sb.data.toList = tx (rla * fac [A, rla, C])) (ec : sc.data.toList = tx (C * fac [A, rla, C])) :
    Con Tryz.prog Pre 40 [Agg [Tx la, Tx lb, Tx lc], Agg [Tx px, Tx py]] (Tup [Agg [Tx sa, Tx sb, Tx sc], In (0)]) := by
  have hn0 : ¬ (rla = 0 ∧ rlb = 0) := by (subst_vars; grind)
  refine con_of (n := 25) Tryz.func40 rfl rfl (Nat.le_of_ble_eq_true rfl) ?_
  intro w a0 hp S0
  have HPRE : ∀ w', Below w.heap.size w w' → Pre w' := fun w' hb => hp.below hb
  refine wp_seq ?_
  refine region_abs [.alloc 26 (Agg [Tx la, Tx lb, Tx lc]), .alloc 24 (Agg [Tx px, Tx py]), .alloc 26 (Agg [Tx ⟨#[]⟩, Tx ⟨#[]⟩, Tx ⟨#[]⟩]), .pure (In (0))] ⟨S0, by decide +kernel⟩ (by kernel_rfl) (by kernel_rfl) rfl (by kernel_rfl) ?_ ?_
  · intro C
    refine ASteps.cons ?_ (ASteps.cons ?_ (ASteps.cons ?_ (ASteps.cons ?_ (ASteps.nil))))
    · exact step_box rfl rfl (want_none rfl) rfl (no_fill (by kernel_rfl)) (opn_old C 0 (by kernel_rfl) rfl) (boxes_L (cok3 (nl_tx la) (nl_tx lb) (nl_tx lc)))
    · exact step_box rfl rfl (want_none rfl) rfl (no_fill (by kernel_rfl)) (opn_old C 1 (by kernel_rfl) rfl) (boxes_P (cok2 (nl_tx px) (nl_tx py)))
    · exact step_new [.string ⟨#[]⟩, .string ⟨#[]⟩, .string ⟨#[]⟩] zero_L rfl rfl (want_none rfl) rfl (no_fill (by kernel_rfl)) allocs_L (by simp [notLimb]) (by kernel_rfl)
    · exact step_assign rfl rfl (want_none rfl) rfl (opn_const _)
  intro γ a1 w1 S1
  replace S1 : AS w 25 [(5, In (0)), (4, Jus (.pointer (some ⟨γ 2, 0, none⟩))), (3, Jus (.pointer (some ⟨γ 1, 0, none⟩))), (2, Jus (.pointer (some ⟨γ 0, 0, none⟩)))] [(γ 0, 26, Agg [Tx la, Tx lb, Tx lc]), (γ 1, 24, Agg [Tx px, Tx py]), (γ 2, 26, Agg [Tx ⟨#[]⟩, Tx ⟨#[]⟩, Tx ⟨#[]⟩])] a1 w1 := cast (by kernel_rfl) (S1.keep [2, 3, 4, 5])
  generalize γ 0 = G1_0 at S1
  generalize γ 1 = G1_1 at S1
  generalize γ 2 = G1_2 at S1
  clear S0
  refine then_normal ?_
  refine wp_seq ?_
  refine region_abs [.pure (Agg [Tx la, Tx lb, Tx lc]), .pure (Tup [Lv rla rlb rlc, In (0)]), .pure (Tup [Lv rla rlb rlc, In (0)]), .pure (Lv rla rlb rlc), .pure (In (0)), .alloc 97 (Any), .fill 5 (Lv rla rlb rlc), .pure (In (0))] ⟨S1, by decide +kernel⟩ (by kernel_rfl) (by kernel_rfl) rfl (by kernel_rfl) ?_ ?_
  · intro C
    refine ASteps.cons ?_ (ASteps.cons ?_ (ASteps.cons ?_ (ASteps.cons ?_ (ASteps.cons ?_ (ASteps.cons ?_ (ASteps.cons ?_ (ASteps.cons ?_ (ASteps.nil))))))))
    · exact step_load (k := 0) rfl rfl rfl (want_none rfl) rfl (opn_old C 3 (by kernel_rfl) rfl) (no_over (by kernel_rfl)) loads_L
    · exact step_call HPRE rfl rfl (want_none rfl) rfl en_ruler_Read (Opns.cons (opn_new C 0 0 rfl rfl rfl rfl rfl rfl) Opns.nil) (con_rread_ok tla tlb tlc (by first | decide | omega) hn0)
    · exact step_move rfl rfl (want_none rfl) rfl (opn_new C 1 0 rfl rfl rfl rfl rfl rfl)
    · exact step_extract (k := 0) rfl rfl (want_none rfl) rfl (opn_new C 2 0 rfl rfl rfl rfl rfl rfl) rfl
    · exact step_extract (k := 1) rfl rfl (want_none rfl) rfl (opn_new C 2 0 rfl rfl rfl rfl rfl rfl) rfl
    · exact step_new [.bool false, .slice none 0 0, .slice none 0 0, .bool false, .slice none 0 0, .slice none 0 0, .bool false, .slice none 0 0, .slice none 0 0] zero_R rfl rfl (want_none rfl) rfl (fill_waits (s0 := 6) (k := 0) (by kernel_rfl) rfl rfl rfl rfl) allocs_R (by simp [notLimb]) (by kernel_rfl)
    · exact step_fill C (a := 5) (k := 0) rfl rfl rfl rfl (want_none rfl) rfl rfl rfl rfl rfl (by decide) (one_fill (by kernel_rfl)) (opn_new C 3 1 rfl rfl rfl rfl rfl rfl) (stores_R (cok_lv _ _ _))
    · exact step_assign rfl rfl (want_none rfl) rfl (opn_new C 4 0 rfl rfl rfl rfl rfl rfl)
  intro γ a2 w2 S2
  replace S2 : AS w 25 [(7, In (0)), (6, Jus (.pointer (some ⟨γ 5, 0, none⟩))), (5, In (0)), (4, Jus (.pointer (some ⟨G1_2, 0, none⟩))), (3, Jus (.pointer (some ⟨G1_1, 0, none⟩)))] [(G1_0, 26, Agg [Tx la, Tx lb, Tx lc]), (G1_1, 24, Agg [Tx px, Tx py]), (G1_2, 26, Agg [Tx ⟨#[]⟩, Tx ⟨#[]⟩, Tx ⟨#[]⟩]), (γ 5, 97, Lv rla rlb rlc)] a2 w2 := cast (by kernel_rfl) (S2.keep [3, 4, 5, 6, 7])
  generalize γ 5 = G2_5 at S2
  clear S1
  refine then_normal ?_
  refine wp_seq ?_
  refine wp_seq ?_
  refine region_abs [.pure (In (0)), .pure (Bo false)] ⟨S2, by decide +kernel⟩ (by kernel_rfl) (by kernel_rfl) rfl (by kernel_rfl) ?_ ?_
  · intro C
    refine ASteps.cons ?_ (ASteps.cons ?_ (ASteps.nil))
    · exact step_move rfl rfl (want_none rfl) rfl (opn_old C 0 (by kernel_rfl) rfl)
    · exact step_bin rfl rfl (want_none rfl) rfl (opn_new C 0 0 rfl rfl rfl rfl rfl rfl) (opn_const _) (run_neq_int _ _ _ _ _ _ rfl)
  intro γ a3 w3 S3
  replace S3 : AS w 25 [(14, Bo false), (7, In (0)), (6, Jus (.pointer (some ⟨G2_5, 0, none⟩))), (5, In (0)), (4, Jus (.pointer (some ⟨G1_2, 0, none⟩))), (3, Jus (.pointer (some ⟨G1_1, 0, none⟩)))] [(G1_0, 26, Agg [Tx la, Tx lb, Tx lc]), (G1_1, 24, Agg [Tx px, Tx py]), (G1_2, 26, Agg [Tx ⟨#[]⟩, Tx ⟨#[]⟩, Tx ⟨#[]⟩]), (G2_5, 97, Lv rla rlb rlc)] a3 w3 := cast (by kernel_rfl) (S3.keep [3, 4, 5, 6, 7, 14])
  clear S2
  refine then_normal ?_
  refine wp_cond_false (S3.val 0 rfl) ?_
  refine wp_skip ?_
  refine then_normal ?_
  refine wp_seq ?_
  obtain ⟨z1, ez1⟩ : ∃ q : Rat, q = -rlb := ⟨_, rfl⟩
  have fz1 : QS k z1 := by rw [ez1]; exact QS.mono tlb.qs.neg (by first | decide | omega)
  obtain ⟨z2, ez2⟩ : ∃ q : Rat, q = -(z1 * rpx + rla * rpy) := ⟨_, rfl⟩
  have fz2 : QS (4 * k + 1) z2 := by rw [ez2]; exact QS.mono ((fz1.mul tpx.qs).add (tla.qs.mul tpy.qs)).neg (by first | decide | omega)
  have h3 : ¬ (z1 = 0 ∧ rla = 0) := by (subst_vars; grind)
  obtain ⟨z4, ez4⟩ : ∃ q : Rat, q = z1 * fac [z1, rla, z2] := ⟨_, rfl⟩
  have fz4 : QS (16 * k + 5) z4 := by rw [ez4]; exact QS.mono (QS.fac (QS.mono (l := (4 * k + 1)) fz1 (by first | decide | omega)) (QS.mono (l := (4 * k + 1)) tla.qs (by first | decide | omega)) fz2 (by simp)) (by first | decide | omega)
  obtain ⟨s5, es5⟩ : ∃ s : ByteArray, s.data.toList = tx z4 := ⟨⟨(tx z4).toArray⟩, by simp⟩
  have ts5 : TX (16 * k + 5) s5 z4 := TX.told es5 fz4
  obtain ⟨z6, ez6⟩ : ∃ q : Rat, q = rla * fac [z1, rla, z2] := ⟨_, rfl⟩
  have fz6 : QS (16 * k + 5) z6 := by rw [ez6]; exact QS.mono (QS.fac (QS.mono (l := (4 * k + 1)) fz1 (by first | decide | omega)) (QS.mono (l := (4 * k + 1)) tla.qs (by first | decide | omega)) fz2 (by simp)) (by first | decide | omega)
  obtain ⟨s7, es7⟩ : ∃ s : ByteArray, s.data.toList = tx z6 := ⟨⟨(tx z6).toArray⟩, by simp⟩
  have ts7 : TX (16 * k + 5) s7 z6 := TX.told es7 fz6
  obtain ⟨z8, ez8⟩ : ∃ q : Rat, q = z2 * fac [z1, rla, z2] := ⟨_, rfl⟩
  have fz8 : QS (16 * k + 5) z8 := by rw [ez8]; exact QS.mono (QS.fac (QS.mono (l := (4 * k + 1)) fz1 (by first | decide | omega)) (QS.mono (l := (4 * k + 1)) tla.qs (by first | decide | omega)) fz2 (by simp)) (by first | decide | omega)
  obtain ⟨s9, es9⟩ : ∃ s : ByteArray, s.data.toList = tx z8 := ⟨⟨(tx z8).toArray⟩, by simp⟩
  have ts9 : TX (16 * k + 5) s9 z8 := TX.told es9 fz8
  refine region_abs [.pure (Agg [Tx px, Tx py]), .pure (Wv rpx rpy), .pure (Jus (.pointer (some ⟨G2_5, 0, none⟩))), .pure (Wv rla rlb), .pure (Wv z1 rla), .pure (Tup [Agg [Tx s5, Tx s7, Tx s9], In (0)]), .pure (Agg [Tx s5, Tx s7, Tx s9]), .pure (In (0)), .over 2 (Agg [Tx s5, Tx s7, Tx s9]), .pure (In (0))] ⟨S3, by decide +kernel⟩ (by kernel_rfl) (by kernel_rfl) rfl (by kernel_rfl) ?_ ?_
  · intro C
    refine ASteps.cons ?_ (ASteps.cons ?_ (ASteps.cons ?_ (ASteps.cons ?_ (ASteps.cons ?_ (ASteps.cons ?_ (ASteps.cons ?_ (ASteps.cons ?_ (ASteps.cons ?_ (ASteps.cons ?_ (ASteps.nil))))))))))
    · exact step_load (k := 1) rfl rfl rfl (want_none rfl) rfl (opn_old C 5 (by kernel_rfl) rfl) (no_over (by kernel_rfl)) loads_P
    · exact step_call HPRE rfl rfl (want_none rfl) rfl en_way_Read (Opns.cons (opn_new C 0 0 rfl rfl rfl rfl rfl rfl) Opns.nil) (con_wread tpx tpy (by first | decide | omega))
    · exact step_fieldAddr rfl rfl (want_none rfl) rfl (opn_old C 2 (by kernel_rfl) rfl) (field_R_0 _)
    · exact step_loadF (k := 3) rfl rfl rfl (want_none rfl) rfl (opn_new C 2 0 rfl rfl rfl rfl rfl rfl) (no_over (by kernel_rfl)) part_lw
    · exact step_call HPRE rfl rfl (want_none rfl) rfl en_way_Way_Left (Opns.cons (opn_new C 3 0 rfl rfl rfl rfl rfl rfl) Opns.nil) (con_wleft ez1)
    · exact step_call HPRE rfl rfl (want_none rfl) rfl en_line_square (Opns.cons (opn_new C 1 0 rfl rfl rfl rfl rfl rfl) (Opns.cons (opn_new C 4 1 rfl rfl rfl rfl rfl rfl) Opns.nil)) (con_insquare_ok ez2 fz1 tla.qs tpx.qs tpy.qs (by first | decide | omega) h3 (es5.trans (by rw [ez4])) (es7.trans (by rw [ez6])) (es9.trans (by rw [ez8])))
    · exact step_extract (k := 0) rfl rfl (want_none rfl) rfl (opn_new C 5 0 rfl rfl rfl rfl rfl rfl) rfl
    · exact step_extract (k := 1) rfl rfl (want_none rfl) rfl (opn_new C 5 0 rfl rfl rfl rfl rfl rfl) rfl
    · exact step_over C (k := 2) rfl rfl rfl (want_none rfl) rfl (opn_old C 4 (by kernel_rfl) rfl) (by decide) (one_over (by kernel_rfl)) (opn_new C 6 0 rfl rfl rfl rfl rfl rfl) (stores_L (cok3 (nl_tx s5) (nl_tx s7) (nl_tx s9)))
    · exact step_assign rfl rfl (want_none rfl) rfl (opn_new C 7 0 rfl rfl rfl rfl rfl rfl)
  intro γ a4 w4 S4
  replace S4 : AS w 25 [(5, In (0)), (4, Jus (.pointer (some ⟨G1_2, 0, none⟩)))] [(G1_0, 26, Agg [Tx la, Tx lb, Tx lc]), (G1_1, 24, Agg [Tx px, Tx py]), (G1_2, 26, Agg [Tx s5, Tx s7, Tx s9]), (G2_5, 97, Lv rla rlb rlc)] a4 w4 := cast (by kernel_rfl) (S4.keep [4, 5])
  clear S3
  refine then_normal ?_
  refine wp_ret ?_
  obtain rfl : s5 = sa := (bytes_of (es5.trans ((congrArg tx (by (subst_vars; first | rfl | grind))).trans ea.symm))).trans (bytes_of rfl).symm
  obtain rfl : s7 = sb := (bytes_of (es7.trans ((congrArg tx (by (subst_vars; first | rfl | grind))).trans eb.symm))).trans (bytes_of rfl).symm
  obtain rfl : s9 = sc := (bytes_of (es9.trans ((congrArg tx (by (subst_vars; first | rfl | grind))).trans ec.symm))).trans (bytes_of rfl).symm
  exact S4.ret2 1 2 0 rfl rfl rfl loads_L rfl fun v hv => ⟨S4.bel, v, rfl, hv⟩
theorem en_angle_Turned (vs : Array Value) (w : World) : (callFunc 61 vs).run Tryz.prog w = .ok (.enter 61 vs) w := enters Tryz.func61 (by kernel_rfl) (by kernel_rfl) vs w
theorem con_turned_ok {la lb lc px py ts tc sa sb sc : ByteArray} {rla rlb rlc rpx rpy rts rtc A B C : Rat} {k : Nat} (tla : TX k la rla) (tlb : TX k lb rlb) (tlc : TX k lc rlc) (tpx : TX k px rpx) (tpy : TX k py rpy) (tts : TX k ts rts) (ttc : TX k tc rtc) (_ : A = rla * rtc - rlb * rts) (_ : B = rla * rts + rlb * rtc) (_ : C = -(A * rpx + B * rpy)) (_ : 2 * k + 4 ≤ 4294967296) (_ : 60 * (k + 1) ≤ 35184372088640) (hn : ¬ ((rla = 0 ∧ rlb = 0) ∨ (rtc = 0 ∧ rts = 0))) (ea : sa.data.toList = tx (A * fac [A, B, C])) (eb : sb.data.toList = tx (B * fac [A, B, C])) (ec : sc.data.toList = tx (C * fac [A, B, C])) :
    Con Tryz.prog Pre 61 [Agg [Tx la, Tx lb, Tx lc], Agg [Tx px, Tx py], Agg [Tx ts, Tx tc]] (Tup [Agg [Tx sa, Tx sb, Tx sc], In (0)]) := by
  have hn1 : ¬ (rla = 0 ∧ rlb = 0) := fun e => hn (Or.inl e)
  have hn2 : ¬ (rtc = 0 ∧ rts = 0) := fun e => hn (Or.inr e)
  refine con_of (n := 37) Tryz.func61 rfl rfl (Nat.le_of_ble_eq_true rfl) ?_
  intro w a0 hp S0
  have HPRE : ∀ w', Below w.heap.size w w' → Pre w' := fun w' hb => hp.below hb
  refine wp_seq ?_
  refine region_abs [.alloc 26 (Agg [Tx la, Tx lb, Tx lc]), .alloc 24 (Agg [Tx px, Tx py]), .alloc 67 (Agg [Tx ts, Tx tc]), .alloc 26 (Agg [Tx ⟨#[]⟩, Tx ⟨#[]⟩, Tx ⟨#[]⟩]), .pure (In (0))] ⟨S0, by decide +kernel⟩ (by kernel_rfl) (by kernel_rfl) rfl (by kernel_rfl) ?_ ?_
  · intro C
    refine ASteps.cons ?_ (ASteps.cons ?_ (ASteps.cons ?_ (ASteps.cons ?_ (ASteps.cons ?_ (ASteps.nil)))))
    · exact step_box rfl rfl (want_none rfl) rfl (no_fill (by kernel_rfl)) (opn_old C 0 (by kernel_rfl) rfl) (boxes_L (cok3 (nl_tx la) (nl_tx lb) (nl_tx lc)))
    · exact step_box rfl rfl (want_none rfl) rfl (no_fill (by kernel_rfl)) (opn_old C 1 (by kernel_rfl) rfl) (boxes_P (cok2 (nl_tx px) (nl_tx py)))
    · exact step_box rfl rfl (want_none rfl) rfl (no_fill (by kernel_rfl)) (opn_old C 2 (by kernel_rfl) rfl) (boxes_T (cok2 (nl_tx ts) (nl_tx tc)))
    · exact step_new [.string ⟨#[]⟩, .string ⟨#[]⟩, .string ⟨#[]⟩] zero_L rfl rfl (want_none rfl) rfl (no_fill (by kernel_rfl)) allocs_L (by simp [notLimb]) (by kernel_rfl)
    · exact step_assign rfl rfl (want_none rfl) rfl (opn_const _)
  intro γ a1 w1 S1
  replace S1 : AS w 37 [(7, In (0)), (6, Jus (.pointer (some ⟨γ 3, 0, none⟩))), (5, Jus (.pointer (some ⟨γ 2, 0, none⟩))), (4, Jus (.pointer (some ⟨γ 1, 0, none⟩))), (3, Jus (.pointer (some ⟨γ 0, 0, none⟩)))] [(γ 0, 26, Agg [Tx la, Tx lb, Tx lc]), (γ 1, 24, Agg [Tx px, Tx py]), (γ 2, 67, Agg [Tx ts, Tx tc]), (γ 3, 26, Agg [Tx ⟨#[]⟩, Tx ⟨#[]⟩, Tx ⟨#[]⟩])] a1 w1 := cast (by kernel_rfl) (S1.keep [3, 4, 5, 6, 7])
  generalize γ 0 = G1_0 at S1
  generalize γ 1 = G1_1 at S1
  generalize γ 2 = G1_2 at S1
  generalize γ 3 = G1_3 at S1
  clear S0
  refine then_normal ?_
  refine wp_seq ?_
  refine region_abs [.pure (Agg [Tx la, Tx lb, Tx lc]), .pure (Tup [Lv rla rlb rlc, In (0)]), .pure (Tup [Lv rla rlb rlc, In (0)]), .pure (Lv rla rlb rlc), .pure (In (0)), .alloc 97 (Any), .fill 5 (Lv rla rlb rlc), .pure (In (0))] ⟨S1, by decide +kernel⟩ (by kernel_rfl) (by kernel_rfl) rfl (by kernel_rfl) ?_ ?_
  · intro C
    refine ASteps.cons ?_ (ASteps.cons ?_ (ASteps.cons ?_ (ASteps.cons ?_ (ASteps.cons ?_ (ASteps.cons ?_ (ASteps.cons ?_ (ASteps.cons ?_ (ASteps.nil))))))))
    · exact step_load (k := 0) rfl rfl rfl (want_none rfl) rfl (opn_old C 4 (by kernel_rfl) rfl) (no_over (by kernel_rfl)) loads_L
    · exact step_call HPRE rfl rfl (want_none rfl) rfl en_ruler_Read (Opns.cons (opn_new C 0 0 rfl rfl rfl rfl rfl rfl) Opns.nil) (con_rread_ok tla tlb tlc (by first | decide | omega) hn1)
    · exact step_move rfl rfl (want_none rfl) rfl (opn_new C 1 0 rfl rfl rfl rfl rfl rfl)
    · exact step_extract (k := 0) rfl rfl (want_none rfl) rfl (opn_new C 2 0 rfl rfl rfl rfl rfl rfl) rfl
    · exact step_extract (k := 1) rfl rfl (want_none rfl) rfl (opn_new C 2 0 rfl rfl rfl rfl rfl rfl) rfl
    · exact step_new [.bool false, .slice none 0 0, .slice none 0 0, .bool false, .slice none 0 0, .slice none 0 0, .bool false, .slice none 0 0, .slice none 0 0] zero_R rfl rfl (want_none rfl) rfl (fill_waits (s0 := 6) (k := 0) (by kernel_rfl) rfl rfl rfl rfl) allocs_R (by simp [notLimb]) (by kernel_rfl)
    · exact step_fill C (a := 5) (k := 0) rfl rfl rfl rfl (want_none rfl) rfl rfl rfl rfl rfl (by decide) (one_fill (by kernel_rfl)) (opn_new C 3 1 rfl rfl rfl rfl rfl rfl) (stores_R (cok_lv _ _ _))
    · exact step_assign rfl rfl (want_none rfl) rfl (opn_new C 4 0 rfl rfl rfl rfl rfl rfl)
  intro γ a2 w2 S2
  replace S2 : AS w 37 [(9, In (0)), (8, Jus (.pointer (some ⟨γ 5, 0, none⟩))), (7, In (0)), (6, Jus (.pointer (some ⟨G1_3, 0, none⟩))), (5, Jus (.pointer (some ⟨G1_2, 0, none⟩))), (4, Jus (.pointer (some ⟨G1_1, 0, none⟩)))] [(G1_0, 26, Agg [Tx la, Tx lb, Tx lc]), (G1_1, 24, Agg [Tx px, Tx py]), (G1_2, 67, Agg [Tx ts, Tx tc]), (G1_3, 26, Agg [Tx ⟨#[]⟩, Tx ⟨#[]⟩, Tx ⟨#[]⟩]), (γ 5, 97, Lv rla rlb rlc)] a2 w2 := cast (by kernel_rfl) (S2.keep [4, 5, 6, 7, 8, 9])
  generalize γ 5 = G2_5 at S2
  clear S1
  refine then_normal ?_
  refine wp_seq ?_
  refine wp_seq ?_
  refine region_abs [.pure (In (0)), .pure (Bo false)] ⟨S2, by decide +kernel⟩ (by kernel_rfl) (by kernel_rfl) rfl (by kernel_rfl) ?_ ?_
  · intro C
    refine ASteps.cons ?_ (ASteps.cons ?_ (ASteps.nil))
    · exact step_move rfl rfl (want_none rfl) rfl (opn_old C 0 (by kernel_rfl) rfl)
    · exact step_bin rfl rfl (want_none rfl) rfl (opn_new C 0 0 rfl rfl rfl rfl rfl rfl) (opn_const _) (run_neq_int _ _ _ _ _ _ rfl)
  intro γ a3 w3 S3
  replace S3 : AS w 37 [(17, Bo false), (9, In (0)), (8, Jus (.pointer (some ⟨G2_5, 0, none⟩))), (7, In (0)), (6, Jus (.pointer (some ⟨G1_3, 0, none⟩))), (5, Jus (.pointer (some ⟨G1_2, 0, none⟩))), (4, Jus (.pointer (some ⟨G1_1, 0, none⟩)))] [(G1_0, 26, Agg [Tx la, Tx lb, Tx lc]), (G1_1, 24, Agg [Tx px, Tx py]), (G1_2, 67, Agg [Tx ts, Tx tc]), (G1_3, 26, Agg [Tx ⟨#[]⟩, Tx ⟨#[]⟩, Tx ⟨#[]⟩]), (G2_5, 97, Lv rla rlb rlc)] a3 w3 := cast (by kernel_rfl) (S3.keep [4, 5, 6, 7, 8, 9, 17])
  clear S2
  refine then_normal ?_
  refine wp_cond_false (S3.val 0 rfl) ?_
  refine wp_skip ?_
  refine then_normal ?_
  refine wp_seq ?_
  refine region_abs [.pure (Agg [Tx ts, Tx tc]), .pure (Tup [Wv rtc rts, In (0)]), .pure (Tup [Wv rtc rts, In (0)]), .pure (Wv rtc rts), .pure (In (0)), .alloc 86 (Any), .fill 5 (Wv rtc rts), .pure (In (0))] ⟨S3, by decide +kernel⟩ (by kernel_rfl) (by kernel_rfl) rfl (by kernel_rfl) ?_ ?_
  · intro C
    refine ASteps.cons ?_ (ASteps.cons ?_ (ASteps.cons ?_ (ASteps.cons ?_ (ASteps.cons ?_ (ASteps.cons ?_ (ASteps.cons ?_ (ASteps.cons ?_ (ASteps.nil))))))))
    · exact step_load (k := 2) rfl rfl rfl (want_none rfl) rfl (opn_old C 5 (by kernel_rfl) rfl) (no_over (by kernel_rfl)) loads_T
    · exact step_call HPRE rfl rfl (want_none rfl) rfl en_angle_read (Opns.cons (opn_new C 0 0 rfl rfl rfl rfl rfl rfl) Opns.nil) (con_aread_ok tts ttc (by first | decide | omega) hn2)
    · exact step_move rfl rfl (want_none rfl) rfl (opn_new C 1 0 rfl rfl rfl rfl rfl rfl)
    · exact step_extract (k := 0) rfl rfl (want_none rfl) rfl (opn_new C 2 0 rfl rfl rfl rfl rfl rfl) rfl
    · exact step_extract (k := 1) rfl rfl (want_none rfl) rfl (opn_new C 2 0 rfl rfl rfl rfl rfl rfl) rfl
    · exact step_new [.bool false, .slice none 0 0, .slice none 0 0, .bool false, .slice none 0 0, .slice none 0 0] zero_W rfl rfl (want_none rfl) rfl (fill_waits (s0 := 6) (k := 0) (by kernel_rfl) rfl rfl rfl rfl) allocs_W (by simp [notLimb]) (by kernel_rfl)
    · exact step_fill C (a := 5) (k := 0) rfl rfl rfl rfl (want_none rfl) rfl rfl rfl rfl rfl (by decide) (one_fill (by kernel_rfl)) (opn_new C 3 1 rfl rfl rfl rfl rfl rfl) (stores_W (cok_wv _ _))
    · exact step_assign rfl rfl (want_none rfl) rfl (opn_new C 4 0 rfl rfl rfl rfl rfl rfl)
  intro γ a4 w4 S4
  replace S4 : AS w 37 [(9, In (0)), (10, Jus (.pointer (some ⟨γ 5, 0, none⟩))), (8, Jus (.pointer (some ⟨G2_5, 0, none⟩))), (7, In (0)), (6, Jus (.pointer (some ⟨G1_3, 0, none⟩))), (4, Jus (.pointer (some ⟨G1_1, 0, none⟩)))] [(G1_0, 26, Agg [Tx la, Tx lb, Tx lc]), (G1_1, 24, Agg [Tx px, Tx py]), (G1_2, 67, Agg [Tx ts, Tx tc]), (G1_3, 26, Agg [Tx ⟨#[]⟩, Tx ⟨#[]⟩, Tx ⟨#[]⟩]), (G2_5, 97, Lv rla rlb rlc), (γ 5, 86, Wv rtc rts)] a4 w4 := cast (by kernel_rfl) (S4.keep [4, 6, 7, 8, 9, 10])
  generalize γ 5 = G4_5 at S4
  clear S3
  refine then_normal ?_
  refine wp_seq ?_
  refine wp_seq ?_
  refine region_abs [.pure (In (0)), .pure (Bo false)] ⟨S4, by decide +kernel⟩ (by kernel_rfl) (by kernel_rfl) rfl (by kernel_rfl) ?_ ?_
  · intro C
    refine ASteps.cons ?_ (ASteps.cons ?_ (ASteps.nil))
    · exact step_move rfl rfl (want_none rfl) rfl (opn_old C 0 (by kernel_rfl) rfl)
    · exact step_bin rfl rfl (want_none rfl) rfl (opn_new C 0 0 rfl rfl rfl rfl rfl rfl) (opn_const _) (run_neq_int _ _ _ _ _ _ rfl)
  intro γ a5 w5 S5
  replace S5 : AS w 37 [(26, Bo false), (9, In (0)), (10, Jus (.pointer (some ⟨G4_5, 0, none⟩))), (8, Jus (.pointer (some ⟨G2_5, 0, none⟩))), (7, In (0)), (6, Jus (.pointer (some ⟨G1_3, 0, none⟩))), (4, Jus (.pointer (some ⟨G1_1, 0, none⟩)))] [(G1_0, 26, Agg [Tx la, Tx lb, Tx lc]), (G1_1, 24, Agg [Tx px, Tx py]), (G1_2, 67, Agg [Tx ts, Tx tc]), (G1_3, 26, Agg [Tx ⟨#[]⟩, Tx ⟨#[]⟩, Tx ⟨#[]⟩]), (G2_5, 97, Lv rla rlb rlc), (G4_5, 86, Wv rtc rts)] a5 w5 := cast (by kernel_rfl) (S5.keep [4, 6, 7, 8, 9, 10, 26])
  clear S4
  refine then_normal ?_
  refine wp_cond_false (S5.val 0 rfl) ?_
  refine wp_skip ?_
  refine then_normal ?_
  refine wp_seq ?_
  obtain ⟨z1, ez1⟩ : ∃ q : Rat, q = rla * rtc - rlb * rts := ⟨_, rfl⟩
  have fz1 : QS (4 * k + 1) z1 := by rw [ez1]; exact QS.mono ((tla.qs.mul ttc.qs).sub (tlb.qs.mul tts.qs)) (by first | decide | omega)
  obtain ⟨z2, ez2⟩ : ∃ q : Rat, q = rla * rts + rlb * rtc := ⟨_, rfl⟩
  have fz2 : QS (4 * k + 1) z2 := by rw [ez2]; exact QS.mono ((tla.qs.mul tts.qs).add (tlb.qs.mul ttc.qs)) (by first | decide | omega)
  obtain ⟨z3, ez3⟩ : ∃ q : Rat, q = -(z1 * rpx + z2 * rpy) := ⟨_, rfl⟩
  have fz3 : QS (10 * k + 3) z3 := by rw [ez3]; exact QS.mono ((fz1.mul tpx.qs).add (fz2.mul tpy.qs)).neg (by first | decide | omega)
  obtain ⟨z4, ez4⟩ : ∃ q : Rat, q = z1 * fac [z1, z2, z3] := ⟨_, rfl⟩
  have fz4 : QS (40 * k + 13) z4 := by rw [ez4]; exact QS.mono (QS.fac (QS.mono (l := (10 * k + 3)) fz1 (by first | decide | omega)) (QS.mono (l := (10 * k + 3)) fz2 (by first | decide | omega)) fz3 (by simp)) (by first | decide | omega)
  obtain ⟨s5, es5⟩ : ∃ s : ByteArray, s.data.toList = tx z4 := ⟨⟨(tx z4).toArray⟩, by simp⟩
  have ts5 : TX (40 * k + 13) s5 z4 := TX.told es5 fz4
  obtain ⟨z6, ez6⟩ : ∃ q : Rat, q = z2 * fac [z1, z2, z3] := ⟨_, rfl⟩
  have fz6 : QS (40 * k + 13) z6 := by rw [ez6]; exact QS.mono (QS.fac (QS.mono (l := (10 * k + 3)) fz1 (by first | decide | omega)) (QS.mono (l := (10 * k + 3)) fz2 (by first | decide | omega)) fz3 (by simp)) (by first | decide | omega)
  obtain ⟨s7, es7⟩ : ∃ s : ByteArray, s.data.toList = tx z6 := ⟨⟨(tx z6).toArray⟩, by simp⟩
  have ts7 : TX (40 * k + 13) s7 z6 := TX.told es7 fz6
  obtain ⟨z8, ez8⟩ : ∃ q : Rat, q = z3 * fac [z1, z2, z3] := ⟨_, rfl⟩
  have fz8 : QS (40 * k + 13) z8 := by rw [ez8]; exact QS.mono (QS.fac (QS.mono (l := (10 * k + 3)) fz1 (by first | decide | omega)) (QS.mono (l := (10 * k + 3)) fz2 (by first | decide | omega)) fz3 (by simp)) (by first | decide | omega)
  obtain ⟨s9, es9⟩ : ∃ s : ByteArray, s.data.toList = tx z8 := ⟨⟨(tx z8).toArray⟩, by simp⟩
  have ts9 : TX (40 * k + 13) s9 z8 := TX.told es9 fz8
  refine region_abs [.pure (Agg [Tx px, Tx py]), .pure (Wv rpx rpy), .pure (Jus (.pointer (some ⟨G2_5, 0, none⟩))), .pure (Wv rla rlb), .pure (Wv rtc rts), .pure (Wv z1 z2), .pure (Lv z1 z2 z3), .pure (Agg [Tx s5, Tx s7, Tx s9]), .over 3 (Agg [Tx s5, Tx s7, Tx s9]), .pure (In (0))] ⟨S5, by decide +kernel⟩ (by kernel_rfl) (by kernel_rfl) rfl (by kernel_rfl) ?_ ?_
  · intro C
    refine ASteps.cons ?_ (ASteps.cons ?_ (ASteps.cons ?_ (ASteps.cons ?_ (ASteps.cons ?_ (ASteps.cons ?_ (ASteps.cons ?_ (ASteps.cons ?_ (ASteps.cons ?_ (ASteps.cons ?_ (ASteps.nil))))))))))
    · exact step_load (k := 1) rfl rfl rfl (want_none rfl) rfl (opn_old C 6 (by kernel_rfl) rfl) (no_over (by kernel_rfl)) loads_P
    · exact step_call HPRE rfl rfl (want_none rfl) rfl en_way_Read (Opns.cons (opn_new C 0 0 rfl rfl rfl rfl rfl rfl) Opns.nil) (con_wread tpx tpy (by first | decide | omega))
    · exact step_fieldAddr rfl rfl (want_none rfl) rfl (opn_old C 3 (by kernel_rfl) rfl) (field_R_0 _)
    · exact step_loadF (k := 4) rfl rfl rfl (want_none rfl) rfl (opn_new C 2 0 rfl rfl rfl rfl rfl rfl) (no_over (by kernel_rfl)) part_lw
    · exact step_load (k := 5) rfl rfl rfl (want_none rfl) rfl (opn_old C 2 (by kernel_rfl) rfl) (no_over (by kernel_rfl)) loads_W
    · exact step_call HPRE rfl rfl (want_none rfl) rfl en_way_Way_Product (Opns.cons (opn_new C 3 0 rfl rfl rfl rfl rfl rfl) (Opns.cons (opn_new C 4 1 rfl rfl rfl rfl rfl rfl) Opns.nil)) (con_wprod ez1 ez2 tla.qs tlb.qs ttc.qs tts.qs (by first | decide | omega))
    · exact step_call HPRE rfl rfl (want_none rfl) rfl en_ruler_Square (Opns.cons (opn_new C 1 0 rfl rfl rfl rfl rfl rfl) (Opns.cons (opn_new C 5 1 rfl rfl rfl rfl rfl rfl) Opns.nil)) (con_rsquare ez3 fz1 fz2 tpx.qs tpy.qs (by first | decide | omega))
    · exact step_call HPRE rfl rfl (want_none rfl) rfl en_ruler_Line_Text (Opns.cons (opn_new C 6 0 rfl rfl rfl rfl rfl rfl) Opns.nil) (con_rtext (QS.mono (l := (10 * k + 3)) fz1 (by first | decide | omega)) (QS.mono (l := (10 * k + 3)) fz2 (by first | decide | omega)) fz3 (by first | decide | omega) (es5.trans (by rw [ez4])) (es7.trans (by rw [ez6])) (es9.trans (by rw [ez8])))
    · exact step_over C (k := 3) rfl rfl rfl (want_none rfl) rfl (opn_old C 5 (by kernel_rfl) rfl) (by decide) (one_over (by kernel_rfl)) (opn_new C 7 0 rfl rfl rfl rfl rfl rfl) (stores_L (cok3 (nl_tx s5) (nl_tx s7) (nl_tx s9)))
    · exact step_assign rfl rfl (want_none rfl) rfl (opn_const _)
  intro γ a6 w6 S6
  replace S6 : AS w 37 [(7, In (0)), (6, Jus (.pointer (some ⟨G1_3, 0, none⟩)))] [(G1_0, 26, Agg [Tx la, Tx lb, Tx lc]), (G1_1, 24, Agg [Tx px, Tx py]), (G1_2, 67, Agg [Tx ts, Tx tc]), (G1_3, 26, Agg [Tx s5, Tx s7, Tx s9]), (G2_5, 97, Lv rla rlb rlc), (G4_5, 86, Wv rtc rts)] a6 w6 := cast (by kernel_rfl) (S6.keep [6, 7])
  clear S5
  refine then_normal ?_
  refine wp_ret ?_
  obtain rfl : s5 = sa := (bytes_of (es5.trans ((congrArg tx (by (subst_vars; first | rfl | grind))).trans ea.symm))).trans (bytes_of rfl).symm
  obtain rfl : s7 = sb := (bytes_of (es7.trans ((congrArg tx (by (subst_vars; first | rfl | grind))).trans eb.symm))).trans (bytes_of rfl).symm
  obtain rfl : s9 = sc := (bytes_of (es9.trans ((congrArg tx (by (subst_vars; first | rfl | grind))).trans ec.symm))).trans (bytes_of rfl).symm
  exact S6.ret2 1 3 0 rfl rfl rfl loads_L rfl fun v hv => ⟨S6.bel, v, rfl, hv⟩
theorem con_turned_flat {la lb lc px py ts tc : ByteArray} {rla rlb rlc rpx rpy rts rtc : Rat} {k : Nat} (tla : TX k la rla) (tlb : TX k lb rlb) (tlc : TX k lc rlc) (tpx : TX k px rpx) (tpy : TX k py rpy) (tts : TX k ts rts) (ttc : TX k tc rtc) (_ : 2 * k + 4 ≤ 4294967296) (_ : 60 * (k + 1) ≤ 35184372088640) (_ : (rla = 0 ∧ rlb = 0) ∨ (rtc = 0 ∧ rts = 0)) :
    Con Tryz.prog Pre 61 [Agg [Tx la, Tx lb, Tx lc], Agg [Tx px, Tx py], Agg [Tx ts, Tx tc]] (Tup [Agg [Tx ⟨#[]⟩, Tx ⟨#[]⟩, Tx ⟨#[]⟩], In (5)]) := by
  refine con_of (n := 37) Tryz.func61 rfl rfl (Nat.le_of_ble_eq_true rfl) ?_
  intro w a0 hp S0
  have HPRE : ∀ w', Below w.heap.size w w' → Pre w' := fun w' hb => hp.below hb
  refine wp_seq ?_
  refine region_abs [.alloc 26 (Agg [Tx la, Tx lb, Tx lc]), .alloc 24 (Agg [Tx px, Tx py]), .alloc 67 (Agg [Tx ts, Tx tc]), .alloc 26 (Agg [Tx ⟨#[]⟩, Tx ⟨#[]⟩, Tx ⟨#[]⟩]), .pure (In (0))] ⟨S0, by decide +kernel⟩ (by kernel_rfl) (by kernel_rfl) rfl (by kernel_rfl) ?_ ?_
  · intro C
    refine ASteps.cons ?_ (ASteps.cons ?_ (ASteps.cons ?_ (ASteps.cons ?_ (ASteps.cons ?_ (ASteps.nil)))))
    · exact step_box rfl rfl (want_none rfl) rfl (no_fill (by kernel_rfl)) (opn_old C 0 (by kernel_rfl) rfl) (boxes_L (cok3 (nl_tx la) (nl_tx lb) (nl_tx lc)))
    · exact step_box rfl rfl (want_none rfl) rfl (no_fill (by kernel_rfl)) (opn_old C 1 (by kernel_rfl) rfl) (boxes_P (cok2 (nl_tx px) (nl_tx py)))
    · exact step_box rfl rfl (want_none rfl) rfl (no_fill (by kernel_rfl)) (opn_old C 2 (by kernel_rfl) rfl) (boxes_T (cok2 (nl_tx ts) (nl_tx tc)))
    · exact step_new [.string ⟨#[]⟩, .string ⟨#[]⟩, .string ⟨#[]⟩] zero_L rfl rfl (want_none rfl) rfl (no_fill (by kernel_rfl)) allocs_L (by simp [notLimb]) (by kernel_rfl)
    · exact step_assign rfl rfl (want_none rfl) rfl (opn_const _)
  intro γ a1 w1 S1
  replace S1 : AS w 37 [(7, In (0)), (6, Jus (.pointer (some ⟨γ 3, 0, none⟩))), (5, Jus (.pointer (some ⟨γ 2, 0, none⟩))), (4, Jus (.pointer (some ⟨γ 1, 0, none⟩))), (3, Jus (.pointer (some ⟨γ 0, 0, none⟩)))] [(γ 0, 26, Agg [Tx la, Tx lb, Tx lc]), (γ 1, 24, Agg [Tx px, Tx py]), (γ 2, 67, Agg [Tx ts, Tx tc]), (γ 3, 26, Agg [Tx ⟨#[]⟩, Tx ⟨#[]⟩, Tx ⟨#[]⟩])] a1 w1 := cast (by kernel_rfl) (S1.keep [3, 4, 5, 6, 7])
  generalize γ 0 = G1_0 at S1
  generalize γ 1 = G1_1 at S1
  generalize γ 2 = G1_2 at S1
  generalize γ 3 = G1_3 at S1
  clear S0
  refine then_normal ?_
  refine wp_seq ?_
  by_cases h1 : rla = 0 ∧ rlb = 0
  ·
    refine region_abs [.pure (Agg [Tx la, Tx lb, Tx lc]), .pure (Tup [Lv 0 0 0, In (5)]), .pure (Tup [Lv 0 0 0, In (5)]), .pure (Lv 0 0 0), .pure (In (5)), .alloc 97 (Any), .fill 5 (Lv 0 0 0), .pure (In (5))] ⟨S1, by decide +kernel⟩ (by kernel_rfl) (by kernel_rfl) rfl (by kernel_rfl) ?_ ?_
    · intro C
      refine ASteps.cons ?_ (ASteps.cons ?_ (ASteps.cons ?_ (ASteps.cons ?_ (ASteps.cons ?_ (ASteps.cons ?_ (ASteps.cons ?_ (ASteps.cons ?_ (ASteps.nil))))))))
      · exact step_load (k := 0) rfl rfl rfl (want_none rfl) rfl (opn_old C 4 (by kernel_rfl) rfl) (no_over (by kernel_rfl)) loads_L
      · exact step_call HPRE rfl rfl (want_none rfl) rfl en_ruler_Read (Opns.cons (opn_new C 0 0 rfl rfl rfl rfl rfl rfl) Opns.nil) (con_rread_flat tla tlb tlc (by first | decide | omega) h1)
      · exact step_move rfl rfl (want_none rfl) rfl (opn_new C 1 0 rfl rfl rfl rfl rfl rfl)
      · exact step_extract (k := 0) rfl rfl (want_none rfl) rfl (opn_new C 2 0 rfl rfl rfl rfl rfl rfl) rfl
      · exact step_extract (k := 1) rfl rfl (want_none rfl) rfl (opn_new C 2 0 rfl rfl rfl rfl rfl rfl) rfl
      · exact step_new [.bool false, .slice none 0 0, .slice none 0 0, .bool false, .slice none 0 0, .slice none 0 0, .bool false, .slice none 0 0, .slice none 0 0] zero_R rfl rfl (want_none rfl) rfl (fill_waits (s0 := 6) (k := 0) (by kernel_rfl) rfl rfl rfl rfl) allocs_R (by simp [notLimb]) (by kernel_rfl)
      · exact step_fill C (a := 5) (k := 0) rfl rfl rfl rfl (want_none rfl) rfl rfl rfl rfl rfl (by decide) (one_fill (by kernel_rfl)) (opn_new C 3 1 rfl rfl rfl rfl rfl rfl) (stores_R (cok_lv _ _ _))
      · exact step_assign rfl rfl (want_none rfl) rfl (opn_new C 4 0 rfl rfl rfl rfl rfl rfl)
    intro γ a2 w2 S2
    replace S2 : AS w 37 [(9, In (5)), (8, Jus (.pointer (some ⟨γ 5, 0, none⟩))), (7, In (0)), (6, Jus (.pointer (some ⟨G1_3, 0, none⟩))), (5, Jus (.pointer (some ⟨G1_2, 0, none⟩))), (4, Jus (.pointer (some ⟨G1_1, 0, none⟩)))] [(G1_0, 26, Agg [Tx la, Tx lb, Tx lc]), (G1_1, 24, Agg [Tx px, Tx py]), (G1_2, 67, Agg [Tx ts, Tx tc]), (G1_3, 26, Agg [Tx ⟨#[]⟩, Tx ⟨#[]⟩, Tx ⟨#[]⟩]), (γ 5, 97, Lv 0 0 0)] a2 w2 := cast (by kernel_rfl) (S2.keep [4, 5, 6, 7, 8, 9])
    generalize γ 5 = G2_5 at S2
    clear S1
    refine then_normal ?_
    refine wp_seq ?_
    refine wp_seq ?_
    refine region_abs [.pure (In (5)), .pure (Bo true)] ⟨S2, by decide +kernel⟩ (by kernel_rfl) (by kernel_rfl) rfl (by kernel_rfl) ?_ ?_
    · intro C
      refine ASteps.cons ?_ (ASteps.cons ?_ (ASteps.nil))
      · exact step_move rfl rfl (want_none rfl) rfl (opn_old C 0 (by kernel_rfl) rfl)
      · exact step_bin rfl rfl (want_none rfl) rfl (opn_new C 0 0 rfl rfl rfl rfl rfl rfl) (opn_const _) (run_neq_int _ _ _ _ _ _ rfl)
    intro γ a3 w3 S3
    replace S3 : AS w 37 [(17, Bo true), (9, In (5)), (8, Jus (.pointer (some ⟨G2_5, 0, none⟩))), (7, In (0)), (6, Jus (.pointer (some ⟨G1_3, 0, none⟩))), (5, Jus (.pointer (some ⟨G1_2, 0, none⟩))), (4, Jus (.pointer (some ⟨G1_1, 0, none⟩)))] [(G1_0, 26, Agg [Tx la, Tx lb, Tx lc]), (G1_1, 24, Agg [Tx px, Tx py]), (G1_2, 67, Agg [Tx ts, Tx tc]), (G1_3, 26, Agg [Tx ⟨#[]⟩, Tx ⟨#[]⟩, Tx ⟨#[]⟩]), (G2_5, 97, Lv 0 0 0)] a3 w3 := cast (by kernel_rfl) (S3.keep [4, 5, 6, 7, 8, 9, 17])
    clear S2
    refine then_normal ?_
    refine wp_cond_true (S3.val 0 rfl) ?_
    refine wp_seq ?_
    refine region_abs [.pure (Agg [Tx ⟨#[]⟩, Tx ⟨#[]⟩, Tx ⟨#[]⟩]), .pure (In (5)), .over 3 (Agg [Tx ⟨#[]⟩, Tx ⟨#[]⟩, Tx ⟨#[]⟩]), .pure (In (5))] ⟨S3, by decide +kernel⟩ (by kernel_rfl) (by kernel_rfl) rfl (by kernel_rfl) ?_ ?_
    · intro C
      refine ASteps.cons ?_ (ASteps.cons ?_ (ASteps.cons ?_ (ASteps.cons ?_ (ASteps.nil))))
      · exact step_build rfl rfl (want_none rfl) rfl Opns.nil builds0_L
      · exact step_move rfl rfl (want_none rfl) rfl (opn_old C 1 (by kernel_rfl) rfl)
      · exact step_over C (k := 3) rfl rfl rfl (want_none rfl) rfl (opn_old C 4 (by kernel_rfl) rfl) (by decide) (one_over (by kernel_rfl)) (opn_new C 0 0 rfl rfl rfl rfl rfl rfl) (stores_L (cok3 (nl_tx ⟨#[]⟩) (nl_tx ⟨#[]⟩) (nl_tx ⟨#[]⟩)))
      · exact step_assign rfl rfl (want_none rfl) rfl (opn_new C 1 0 rfl rfl rfl rfl rfl rfl)
    intro γ a4 w4 S4
    replace S4 : AS w 37 [(7, In (5)), (9, In (5)), (8, Jus (.pointer (some ⟨G2_5, 0, none⟩))), (6, Jus (.pointer (some ⟨G1_3, 0, none⟩))), (5, Jus (.pointer (some ⟨G1_2, 0, none⟩))), (4, Jus (.pointer (some ⟨G1_1, 0, none⟩)))] [(G1_0, 26, Agg [Tx la, Tx lb, Tx lc]), (G1_1, 24, Agg [Tx px, Tx py]), (G1_2, 67, Agg [Tx ts, Tx tc]), (G1_3, 26, Agg [Tx ⟨#[]⟩, Tx ⟨#[]⟩, Tx ⟨#[]⟩]), (G2_5, 97, Lv 0 0 0)] a4 w4 := cast (by kernel_rfl) (S4.keep [4, 5, 6, 7, 8, 9])
    clear S3
    refine then_normal ?_
    refine wp_ret ?_
    refine then_ret ?_
    exact S4.ret2 3 3 0 rfl rfl rfl loads_L rfl fun v hv => ⟨S4.bel, v, rfl, hv⟩
  ·
    refine region_abs [.pure (Agg [Tx la, Tx lb, Tx lc]), .pure (Tup [Lv rla rlb rlc, In (0)]), .pure (Tup [Lv rla rlb rlc, In (0)]), .pure (Lv rla rlb rlc), .pure (In (0)), .alloc 97 (Any), .fill 5 (Lv rla rlb rlc), .pure (In (0))] ⟨S1, by decide +kernel⟩ (by kernel_rfl) (by kernel_rfl) rfl (by kernel_rfl) ?_ ?_
    · intro C
      refine ASteps.cons ?_ (ASteps.cons ?_ (ASteps.cons ?_ (ASteps.cons ?_ (ASteps.cons ?_ (ASteps.cons ?_ (ASteps.cons ?_ (ASteps.cons ?_ (ASteps.nil))))))))
      · exact step_load (k := 0) rfl rfl rfl (want_none rfl) rfl (opn_old C 4 (by kernel_rfl) rfl) (no_over (by kernel_rfl)) loads_L
      · exact step_call HPRE rfl rfl (want_none rfl) rfl en_ruler_Read (Opns.cons (opn_new C 0 0 rfl rfl rfl rfl rfl rfl) Opns.nil) (con_rread_ok tla tlb tlc (by first | decide | omega) h1)
      · exact step_move rfl rfl (want_none rfl) rfl (opn_new C 1 0 rfl rfl rfl rfl rfl rfl)
      · exact step_extract (k := 0) rfl rfl (want_none rfl) rfl (opn_new C 2 0 rfl rfl rfl rfl rfl rfl) rfl
      · exact step_extract (k := 1) rfl rfl (want_none rfl) rfl (opn_new C 2 0 rfl rfl rfl rfl rfl rfl) rfl
      · exact step_new [.bool false, .slice none 0 0, .slice none 0 0, .bool false, .slice none 0 0, .slice none 0 0, .bool false, .slice none 0 0, .slice none 0 0] zero_R rfl rfl (want_none rfl) rfl (fill_waits (s0 := 6) (k := 0) (by kernel_rfl) rfl rfl rfl rfl) allocs_R (by simp [notLimb]) (by kernel_rfl)
      · exact step_fill C (a := 5) (k := 0) rfl rfl rfl rfl (want_none rfl) rfl rfl rfl rfl rfl (by decide) (one_fill (by kernel_rfl)) (opn_new C 3 1 rfl rfl rfl rfl rfl rfl) (stores_R (cok_lv _ _ _))
      · exact step_assign rfl rfl (want_none rfl) rfl (opn_new C 4 0 rfl rfl rfl rfl rfl rfl)
    intro γ a5 w5 S5
    replace S5 : AS w 37 [(9, In (0)), (8, Jus (.pointer (some ⟨γ 5, 0, none⟩))), (7, In (0)), (6, Jus (.pointer (some ⟨G1_3, 0, none⟩))), (5, Jus (.pointer (some ⟨G1_2, 0, none⟩))), (4, Jus (.pointer (some ⟨G1_1, 0, none⟩)))] [(G1_0, 26, Agg [Tx la, Tx lb, Tx lc]), (G1_1, 24, Agg [Tx px, Tx py]), (G1_2, 67, Agg [Tx ts, Tx tc]), (G1_3, 26, Agg [Tx ⟨#[]⟩, Tx ⟨#[]⟩, Tx ⟨#[]⟩]), (γ 5, 97, Lv rla rlb rlc)] a5 w5 := cast (by kernel_rfl) (S5.keep [4, 5, 6, 7, 8, 9])
    generalize γ 5 = G5_5 at S5
    clear S1
    refine then_normal ?_
    refine wp_seq ?_
    refine wp_seq ?_
    refine region_abs [.pure (In (0)), .pure (Bo false)] ⟨S5, by decide +kernel⟩ (by kernel_rfl) (by kernel_rfl) rfl (by kernel_rfl) ?_ ?_
    · intro C
      refine ASteps.cons ?_ (ASteps.cons ?_ (ASteps.nil))
      · exact step_move rfl rfl (want_none rfl) rfl (opn_old C 0 (by kernel_rfl) rfl)
      · exact step_bin rfl rfl (want_none rfl) rfl (opn_new C 0 0 rfl rfl rfl rfl rfl rfl) (opn_const _) (run_neq_int _ _ _ _ _ _ rfl)
    intro γ a6 w6 S6
    replace S6 : AS w 37 [(17, Bo false), (9, In (0)), (8, Jus (.pointer (some ⟨G5_5, 0, none⟩))), (7, In (0)), (6, Jus (.pointer (some ⟨G1_3, 0, none⟩))), (5, Jus (.pointer (some ⟨G1_2, 0, none⟩))), (4, Jus (.pointer (some ⟨G1_1, 0, none⟩)))] [(G1_0, 26, Agg [Tx la, Tx lb, Tx lc]), (G1_1, 24, Agg [Tx px, Tx py]), (G1_2, 67, Agg [Tx ts, Tx tc]), (G1_3, 26, Agg [Tx ⟨#[]⟩, Tx ⟨#[]⟩, Tx ⟨#[]⟩]), (G5_5, 97, Lv rla rlb rlc)] a6 w6 := cast (by kernel_rfl) (S6.keep [4, 5, 6, 7, 8, 9, 17])
    clear S5
    refine then_normal ?_
    refine wp_cond_false (S6.val 0 rfl) ?_
    refine wp_skip ?_
    refine then_normal ?_
    refine wp_seq ?_
    by_cases h2 : rtc = 0 ∧ rts = 0
    ·
      refine region_abs [.pure (Agg [Tx ts, Tx tc]), .pure (Tup [Wv 0 0, In (5)]), .pure (Tup [Wv 0 0, In (5)]), .pure (Wv 0 0), .pure (In (5)), .alloc 86 (Any), .fill 5 (Wv 0 0), .pure (In (5))] ⟨S6, by decide +kernel⟩ (by kernel_rfl) (by kernel_rfl) rfl (by kernel_rfl) ?_ ?_
      · intro C
        refine ASteps.cons ?_ (ASteps.cons ?_ (ASteps.cons ?_ (ASteps.cons ?_ (ASteps.cons ?_ (ASteps.cons ?_ (ASteps.cons ?_ (ASteps.cons ?_ (ASteps.nil))))))))
        · exact step_load (k := 2) rfl rfl rfl (want_none rfl) rfl (opn_old C 5 (by kernel_rfl) rfl) (no_over (by kernel_rfl)) loads_T
        · exact step_call HPRE rfl rfl (want_none rfl) rfl en_angle_read (Opns.cons (opn_new C 0 0 rfl rfl rfl rfl rfl rfl) Opns.nil) (con_aread_flat tts ttc (by first | decide | omega) h2)
        · exact step_move rfl rfl (want_none rfl) rfl (opn_new C 1 0 rfl rfl rfl rfl rfl rfl)
        · exact step_extract (k := 0) rfl rfl (want_none rfl) rfl (opn_new C 2 0 rfl rfl rfl rfl rfl rfl) rfl
        · exact step_extract (k := 1) rfl rfl (want_none rfl) rfl (opn_new C 2 0 rfl rfl rfl rfl rfl rfl) rfl
        · exact step_new [.bool false, .slice none 0 0, .slice none 0 0, .bool false, .slice none 0 0, .slice none 0 0] zero_W rfl rfl (want_none rfl) rfl (fill_waits (s0 := 6) (k := 0) (by kernel_rfl) rfl rfl rfl rfl) allocs_W (by simp [notLimb]) (by kernel_rfl)
        · exact step_fill C (a := 5) (k := 0) rfl rfl rfl rfl (want_none rfl) rfl rfl rfl rfl rfl (by decide) (one_fill (by kernel_rfl)) (opn_new C 3 1 rfl rfl rfl rfl rfl rfl) (stores_W (cok_wv _ _))
        · exact step_assign rfl rfl (want_none rfl) rfl (opn_new C 4 0 rfl rfl rfl rfl rfl rfl)
      intro γ a7 w7 S7
      replace S7 : AS w 37 [(9, In (5)), (10, Jus (.pointer (some ⟨γ 5, 0, none⟩))), (8, Jus (.pointer (some ⟨G5_5, 0, none⟩))), (7, In (0)), (6, Jus (.pointer (some ⟨G1_3, 0, none⟩))), (4, Jus (.pointer (some ⟨G1_1, 0, none⟩)))] [(G1_0, 26, Agg [Tx la, Tx lb, Tx lc]), (G1_1, 24, Agg [Tx px, Tx py]), (G1_2, 67, Agg [Tx ts, Tx tc]), (G1_3, 26, Agg [Tx ⟨#[]⟩, Tx ⟨#[]⟩, Tx ⟨#[]⟩]), (G5_5, 97, Lv rla rlb rlc), (γ 5, 86, Wv 0 0)] a7 w7 := cast (by kernel_rfl) (S7.keep [4, 6, 7, 8, 9, 10])
      generalize γ 5 = G7_5 at S7
      clear S6
      refine then_normal ?_
      refine wp_seq ?_
      refine wp_seq ?_
      refine region_abs [.pure (In (5)), .pure (Bo true)] ⟨S7, by decide +kernel⟩ (by kernel_rfl) (by kernel_rfl) rfl (by kernel_rfl) ?_ ?_
      · intro C
        refine ASteps.cons ?_ (ASteps.cons ?_ (ASteps.nil))
        · exact step_move rfl rfl (want_none rfl) rfl (opn_old C 0 (by kernel_rfl) rfl)
        · exact step_bin rfl rfl (want_none rfl) rfl (opn_new C 0 0 rfl rfl rfl rfl rfl rfl) (opn_const _) (run_neq_int _ _ _ _ _ _ rfl)
      intro γ a8 w8 S8
      replace S8 : AS w 37 [(26, Bo true), (9, In (5)), (10, Jus (.pointer (some ⟨G7_5, 0, none⟩))), (8, Jus (.pointer (some ⟨G5_5, 0, none⟩))), (7, In (0)), (6, Jus (.pointer (some ⟨G1_3, 0, none⟩))), (4, Jus (.pointer (some ⟨G1_1, 0, none⟩)))] [(G1_0, 26, Agg [Tx la, Tx lb, Tx lc]), (G1_1, 24, Agg [Tx px, Tx py]), (G1_2, 67, Agg [Tx ts, Tx tc]), (G1_3, 26, Agg [Tx ⟨#[]⟩, Tx ⟨#[]⟩, Tx ⟨#[]⟩]), (G5_5, 97, Lv rla rlb rlc), (G7_5, 86, Wv 0 0)] a8 w8 := cast (by kernel_rfl) (S8.keep [4, 6, 7, 8, 9, 10, 26])
      clear S7
      refine then_normal ?_
      refine wp_cond_true (S8.val 0 rfl) ?_
      refine wp_seq ?_
      refine region_abs [.pure (Agg [Tx ⟨#[]⟩, Tx ⟨#[]⟩, Tx ⟨#[]⟩]), .pure (In (5)), .over 3 (Agg [Tx ⟨#[]⟩, Tx ⟨#[]⟩, Tx ⟨#[]⟩]), .pure (In (5))] ⟨S8, by decide +kernel⟩ (by kernel_rfl) (by kernel_rfl) rfl (by kernel_rfl) ?_ ?_
      · intro C
        refine ASteps.cons ?_ (ASteps.cons ?_ (ASteps.cons ?_ (ASteps.cons ?_ (ASteps.nil))))
        · exact step_build rfl rfl (want_none rfl) rfl Opns.nil builds0_L
        · exact step_move rfl rfl (want_none rfl) rfl (opn_old C 1 (by kernel_rfl) rfl)
        · exact step_over C (k := 3) rfl rfl rfl (want_none rfl) rfl (opn_old C 5 (by kernel_rfl) rfl) (by decide) (one_over (by kernel_rfl)) (opn_new C 0 0 rfl rfl rfl rfl rfl rfl) (stores_L (cok3 (nl_tx ⟨#[]⟩) (nl_tx ⟨#[]⟩) (nl_tx ⟨#[]⟩)))
        · exact step_assign rfl rfl (want_none rfl) rfl (opn_new C 1 0 rfl rfl rfl rfl rfl rfl)
      intro γ a9 w9 S9
      replace S9 : AS w 37 [(7, In (5)), (10, Jus (.pointer (some ⟨G7_5, 0, none⟩))), (8, Jus (.pointer (some ⟨G5_5, 0, none⟩))), (6, Jus (.pointer (some ⟨G1_3, 0, none⟩))), (4, Jus (.pointer (some ⟨G1_1, 0, none⟩)))] [(G1_0, 26, Agg [Tx la, Tx lb, Tx lc]), (G1_1, 24, Agg [Tx px, Tx py]), (G1_2, 67, Agg [Tx ts, Tx tc]), (G1_3, 26, Agg [Tx ⟨#[]⟩, Tx ⟨#[]⟩, Tx ⟨#[]⟩]), (G5_5, 97, Lv rla rlb rlc), (G7_5, 86, Wv 0 0)] a9 w9 := cast (by kernel_rfl) (S9.keep [4, 6, 7, 8, 10])
      clear S8
      refine then_normal ?_
      refine wp_ret ?_
      refine then_ret ?_
      exact S9.ret2 3 3 0 rfl rfl rfl loads_L rfl fun v hv => ⟨S9.bel, v, rfl, hv⟩
    ·
      refine region_abs [.pure (Agg [Tx ts, Tx tc]), .pure (Tup [Wv rtc rts, In (0)]), .pure (Tup [Wv rtc rts, In (0)]), .pure (Wv rtc rts), .pure (In (0)), .alloc 86 (Any), .fill 5 (Wv rtc rts), .pure (In (0))] ⟨S6, by decide +kernel⟩ (by kernel_rfl) (by kernel_rfl) rfl (by kernel_rfl) ?_ ?_
      · intro C
        refine ASteps.cons ?_ (ASteps.cons ?_ (ASteps.cons ?_ (ASteps.cons ?_ (ASteps.cons ?_ (ASteps.cons ?_ (ASteps.cons ?_ (ASteps.cons ?_ (ASteps.nil))))))))
        · exact step_load (k := 2) rfl rfl rfl (want_none rfl) rfl (opn_old C 5 (by kernel_rfl) rfl) (no_over (by kernel_rfl)) loads_T
        · exact step_call HPRE rfl rfl (want_none rfl) rfl en_angle_read (Opns.cons (opn_new C 0 0 rfl rfl rfl rfl rfl rfl) Opns.nil) (con_aread_ok tts ttc (by first | decide | omega) h2)
        · exact step_move rfl rfl (want_none rfl) rfl (opn_new C 1 0 rfl rfl rfl rfl rfl rfl)
        · exact step_extract (k := 0) rfl rfl (want_none rfl) rfl (opn_new C 2 0 rfl rfl rfl rfl rfl rfl) rfl
        · exact step_extract (k := 1) rfl rfl (want_none rfl) rfl (opn_new C 2 0 rfl rfl rfl rfl rfl rfl) rfl
        · exact step_new [.bool false, .slice none 0 0, .slice none 0 0, .bool false, .slice none 0 0, .slice none 0 0] zero_W rfl rfl (want_none rfl) rfl (fill_waits (s0 := 6) (k := 0) (by kernel_rfl) rfl rfl rfl rfl) allocs_W (by simp [notLimb]) (by kernel_rfl)
        · exact step_fill C (a := 5) (k := 0) rfl rfl rfl rfl (want_none rfl) rfl rfl rfl rfl rfl (by decide) (one_fill (by kernel_rfl)) (opn_new C 3 1 rfl rfl rfl rfl rfl rfl) (stores_W (cok_wv _ _))
        · exact step_assign rfl rfl (want_none rfl) rfl (opn_new C 4 0 rfl rfl rfl rfl rfl rfl)
      intro γ a10 w10 S10
      replace S10 : AS w 37 [(9, In (0)), (10, Jus (.pointer (some ⟨γ 5, 0, none⟩))), (8, Jus (.pointer (some ⟨G5_5, 0, none⟩))), (7, In (0)), (6, Jus (.pointer (some ⟨G1_3, 0, none⟩))), (4, Jus (.pointer (some ⟨G1_1, 0, none⟩)))] [(G1_0, 26, Agg [Tx la, Tx lb, Tx lc]), (G1_1, 24, Agg [Tx px, Tx py]), (G1_2, 67, Agg [Tx ts, Tx tc]), (G1_3, 26, Agg [Tx ⟨#[]⟩, Tx ⟨#[]⟩, Tx ⟨#[]⟩]), (G5_5, 97, Lv rla rlb rlc), (γ 5, 86, Wv rtc rts)] a10 w10 := cast (by kernel_rfl) (S10.keep [4, 6, 7, 8, 9, 10])
      generalize γ 5 = G10_5 at S10
      clear S6
      refine then_normal ?_
      refine wp_seq ?_
      refine wp_seq ?_
      refine region_abs [.pure (In (0)), .pure (Bo false)] ⟨S10, by decide +kernel⟩ (by kernel_rfl) (by kernel_rfl) rfl (by kernel_rfl) ?_ ?_
      · intro C
        refine ASteps.cons ?_ (ASteps.cons ?_ (ASteps.nil))
        · exact step_move rfl rfl (want_none rfl) rfl (opn_old C 0 (by kernel_rfl) rfl)
        · exact step_bin rfl rfl (want_none rfl) rfl (opn_new C 0 0 rfl rfl rfl rfl rfl rfl) (opn_const _) (run_neq_int _ _ _ _ _ _ rfl)
      intro γ a11 w11 S11
      replace S11 : AS w 37 [(26, Bo false), (9, In (0)), (10, Jus (.pointer (some ⟨G10_5, 0, none⟩))), (8, Jus (.pointer (some ⟨G5_5, 0, none⟩))), (7, In (0)), (6, Jus (.pointer (some ⟨G1_3, 0, none⟩))), (4, Jus (.pointer (some ⟨G1_1, 0, none⟩)))] [(G1_0, 26, Agg [Tx la, Tx lb, Tx lc]), (G1_1, 24, Agg [Tx px, Tx py]), (G1_2, 67, Agg [Tx ts, Tx tc]), (G1_3, 26, Agg [Tx ⟨#[]⟩, Tx ⟨#[]⟩, Tx ⟨#[]⟩]), (G5_5, 97, Lv rla rlb rlc), (G10_5, 86, Wv rtc rts)] a11 w11 := cast (by kernel_rfl) (S11.keep [4, 6, 7, 8, 9, 10, 26])
      clear S10
      refine then_normal ?_
      refine wp_cond_false (S11.val 0 rfl) ?_
      refine wp_skip ?_
      refine then_normal ?_
      refine wp_seq ?_
      obtain ⟨z3, ez3⟩ : ∃ q : Rat, q = rla * rtc - rlb * rts := ⟨_, rfl⟩
      have fz3 : QS (4 * k + 1) z3 := by rw [ez3]; exact QS.mono ((tla.qs.mul ttc.qs).sub (tlb.qs.mul tts.qs)) (by first | decide | omega)
      obtain ⟨z4, ez4⟩ : ∃ q : Rat, q = rla * rts + rlb * rtc := ⟨_, rfl⟩
      have fz4 : QS (4 * k + 1) z4 := by rw [ez4]; exact QS.mono ((tla.qs.mul tts.qs).add (tlb.qs.mul ttc.qs)) (by first | decide | omega)
      obtain ⟨z5, ez5⟩ : ∃ q : Rat, q = -(z3 * rpx + z4 * rpy) := ⟨_, rfl⟩
      have fz5 : QS (10 * k + 3) z5 := by rw [ez5]; exact QS.mono ((fz3.mul tpx.qs).add (fz4.mul tpy.qs)).neg (by first | decide | omega)
      obtain ⟨z6, ez6⟩ : ∃ q : Rat, q = z3 * fac [z3, z4, z5] := ⟨_, rfl⟩
      have fz6 : QS (40 * k + 13) z6 := by rw [ez6]; exact QS.mono (QS.fac (QS.mono (l := (10 * k + 3)) fz3 (by first | decide | omega)) (QS.mono (l := (10 * k + 3)) fz4 (by first | decide | omega)) fz5 (by simp)) (by first | decide | omega)
      obtain ⟨s7, es7⟩ : ∃ s : ByteArray, s.data.toList = tx z6 := ⟨⟨(tx z6).toArray⟩, by simp⟩
      have ts7 : TX (40 * k + 13) s7 z6 := TX.told es7 fz6
      obtain ⟨z8, ez8⟩ : ∃ q : Rat, q = z4 * fac [z3, z4, z5] := ⟨_, rfl⟩
      have fz8 : QS (40 * k + 13) z8 := by rw [ez8]; exact QS.mono (QS.fac (QS.mono (l := (10 * k + 3)) fz3 (by first | decide | omega)) (QS.mono (l := (10 * k + 3)) fz4 (by first | decide | omega)) fz5 (by simp)) (by first | decide | omega)
      obtain ⟨s9, es9⟩ : ∃ s : ByteArray, s.data.toList = tx z8 := ⟨⟨(tx z8).toArray⟩, by simp⟩
      have ts9 : TX (40 * k + 13) s9 z8 := TX.told es9 fz8
      obtain ⟨z10, ez10⟩ : ∃ q : Rat, q = z5 * fac [z3, z4, z5] := ⟨_, rfl⟩
      have fz10 : QS (40 * k + 13) z10 := by rw [ez10]; exact QS.mono (QS.fac (QS.mono (l := (10 * k + 3)) fz3 (by first | decide | omega)) (QS.mono (l := (10 * k + 3)) fz4 (by first | decide | omega)) fz5 (by simp)) (by first | decide | omega)
      obtain ⟨s11, es11⟩ : ∃ s : ByteArray, s.data.toList = tx z10 := ⟨⟨(tx z10).toArray⟩, by simp⟩
      have ts11 : TX (40 * k + 13) s11 z10 := TX.told es11 fz10
      refine region_abs [.pure (Agg [Tx px, Tx py]), .pure (Wv rpx rpy), .pure (Jus (.pointer (some ⟨G5_5, 0, none⟩))), .pure (Wv rla rlb), .pure (Wv rtc rts), .pure (Wv z3 z4), .pure (Lv z3 z4 z5), .pure (Agg [Tx s7, Tx s9, Tx s11]), .over 3 (Agg [Tx s7, Tx s9, Tx s11]), .pure (In (0))] ⟨S11, by decide +kernel⟩ (by kernel_rfl) (by kernel_rfl) rfl (by kernel_rfl) ?_ ?_
      · intro C
        refine ASteps.cons ?_ (ASteps.cons ?_ (ASteps.cons ?_ (ASteps.cons ?_ (ASteps.cons ?_ (ASteps.cons ?_ (ASteps.cons ?_ (ASteps.cons ?_ (ASteps.cons ?_ (ASteps.cons ?_ (ASteps.nil))))))))))
        · exact step_load (k := 1) rfl rfl rfl (want_none rfl) rfl (opn_old C 6 (by kernel_rfl) rfl) (no_over (by kernel_rfl)) loads_P
        · exact step_call HPRE rfl rfl (want_none rfl) rfl en_way_Read (Opns.cons (opn_new C 0 0 rfl rfl rfl rfl rfl rfl) Opns.nil) (con_wread tpx tpy (by first | decide | omega))
        · exact step_fieldAddr rfl rfl (want_none rfl) rfl (opn_old C 3 (by kernel_rfl) rfl) (field_R_0 _)
        · exact step_loadF (k := 4) rfl rfl rfl (want_none rfl) rfl (opn_new C 2 0 rfl rfl rfl rfl rfl rfl) (no_over (by kernel_rfl)) part_lw
        · exact step_load (k := 5) rfl rfl rfl (want_none rfl) rfl (opn_old C 2 (by kernel_rfl) rfl) (no_over (by kernel_rfl)) loads_W
        · exact step_call HPRE rfl rfl (want_none rfl) rfl en_way_Way_Product (Opns.cons (opn_new C 3 0 rfl rfl rfl rfl rfl rfl) (Opns.cons (opn_new C 4 1 rfl rfl rfl rfl rfl rfl) Opns.nil)) (con_wprod ez3 ez4 tla.qs tlb.qs ttc.qs tts.qs (by first | decide | omega))
        · exact step_call HPRE rfl rfl (want_none rfl) rfl en_ruler_Square (Opns.cons (opn_new C 1 0 rfl rfl rfl rfl rfl rfl) (Opns.cons (opn_new C 5 1 rfl rfl rfl rfl rfl rfl) Opns.nil)) (con_rsquare ez5 fz3 fz4 tpx.qs tpy.qs (by first | decide | omega))
        · exact step_call HPRE rfl rfl (want_none rfl) rfl en_ruler_Line_Text (Opns.cons (opn_new C 6 0 rfl rfl rfl rfl rfl rfl) Opns.nil) (con_rtext (QS.mono (l := (10 * k + 3)) fz3 (by first | decide | omega)) (QS.mono (l := (10 * k + 3)) fz4 (by first | decide | omega)) fz5 (by first | decide | omega) (es7.trans (by rw [ez6])) (es9.trans (by rw [ez8])) (es11.trans (by rw [ez10])))
        · exact step_over C (k := 3) rfl rfl rfl (want_none rfl) rfl (opn_old C 5 (by kernel_rfl) rfl) (by decide) (one_over (by kernel_rfl)) (opn_new C 7 0 rfl rfl rfl rfl rfl rfl) (stores_L (cok3 (nl_tx s7) (nl_tx s9) (nl_tx s11)))
        · exact step_assign rfl rfl (want_none rfl) rfl (opn_const _)
      intro γ a12 w12 S12
      replace S12 : AS w 37 [(7, In (0)), (6, Jus (.pointer (some ⟨G1_3, 0, none⟩)))] [(G1_0, 26, Agg [Tx la, Tx lb, Tx lc]), (G1_1, 24, Agg [Tx px, Tx py]), (G1_2, 67, Agg [Tx ts, Tx tc]), (G1_3, 26, Agg [Tx s7, Tx s9, Tx s11]), (G5_5, 97, Lv rla rlb rlc), (G10_5, 86, Wv rtc rts)] a12 w12 := cast (by kernel_rfl) (S12.keep [6, 7])
      clear S11
      refine then_normal ?_
      refine wp_ret ?_
      exact (show False by (subst_vars; grind)).elim
end Go.Proofs.YtgajdmadbdbabaaGreatDoor
