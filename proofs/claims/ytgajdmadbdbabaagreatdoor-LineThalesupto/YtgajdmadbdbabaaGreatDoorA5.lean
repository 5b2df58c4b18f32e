/- Part 5 of the walks and of the mathematics under them: WB WH WPA WI WJ MathX WK WL WM WN WO WQ. -/
import Derived.Test.YtgajdmadbdbabaaGreatDoorA3
import Derived.Test.YtgajdmadbdbabaaGreatDoorA4
import Derived.Deep.Cut
set_option maxHeartbeats 16000000
set_option maxRecDepth 100000
/- WB -/
namespace Go.Proofs.YtgajdmadbdbabaaGreatDoor
open Go.RowKit Cx
attribute [local go_sem ↓] Go.wp_at_zero Go.wp_at_succ
theorem wayPlus_walk {w : World} {cax cay cbx cbz : C3} {ax ay bx bz : Rat} (hax : QV w (.agg #[.bool cax.n, .slice cax.u cax.nu cax.cu, .slice cax.l cax.nl cax.cl]) ax) (hay : QV w (.agg #[.bool cay.n, .slice cay.u cay.nu cay.cu, .slice cay.l cay.nl cay.cl]) ay) (hbx : QV w (.agg #[.bool cbx.n, .slice cbx.u cbx.nu cbx.cu, .slice cbx.l cbx.nl cbx.cl]) bx) (hbz : QV w (.agg #[.bool cbz.n, .slice cbz.u cbz.nu cbz.cu, .slice cbz.l cbz.nl cbz.cl]) bz) {k l : Nat} (f1 : QS k ax) (f2 : QS k ay) (f3 : QS l bx) (f4 : QS l bz) (hk : k + l + 1 ≤ 35184372088640) :
    Calls Tryz.prog 108 #[.agg #[.bool cax.n, .slice cax.u cax.nu cax.cu, .slice cax.l cax.nl cax.cl, .bool cay.n, .slice cay.u cay.nu cay.cu, .slice cay.l cay.nl cay.cl], .agg #[.bool cbx.n, .slice cbx.u cbx.nu cbx.cu, .slice cbx.l cbx.nl cbx.cl, .bool cbz.n, .slice cbz.u cbz.nu cbz.cu, .slice cbz.l cbz.nl cbz.cl]] w fun e w' => Below w.heap.size w w' ∧ ∃ v, e = .returned v ∧ WV w' v (ax + bx) (ay + bz) := by
  obtain ⟨hb0, hk0, hk1, hk2, hsz⟩ := boxes3 w #[.bool cax.n, .slice cax.u cax.nu cax.cu, .slice cax.l cax.nl cax.cl, .bool cay.n, .slice cay.u cay.nu cay.cu, .slice cay.l cay.nl cay.cl] #[.bool cbx.n, .slice cbx.u cbx.nu cbx.cu, .slice cbx.l cbx.nl cbx.cl, .bool cbz.n, .slice cbz.u cbz.nu cbz.cu, .slice cbz.l cbz.nl cbz.cl] #[.bool false, .slice none 0 0, .slice none 0 0, .bool false, .slice none 0 0, .slice none 0 0] 86 86 86
  have HB0 := hideIt hb0
  have HSZ := hideIt hsz
  have HK0 := hideIt hk0
  have HK1 := hideIt hk1
  have HK2 := hideIt hk2
  have Hax := hideIt (hax.below hb0)
  have Hay := hideIt (hay.below hb0)
  have Hbx := hideIt (hbx.below hb0)
  have Hbz := hideIt (hbz.below hb0)
  have F1 := hideIt f1
  have F2 := hideIt f2
  have F3 := hideIt f3
  have F4 := hideIt f4
  have HK := hideIt hk
  clear hb0 hsz hk0 hk1 hk2 hax hay hbx hbz f1 f2 f3 f4 hk
  go_enter Tryz.func108, Tryz.ntmps108
  go_wp2_with fail
  generalize (((w.alloc (.cells #[.bool cax.n, .slice cax.u cax.nu cax.cu, .slice cax.l cax.nl cax.cl, .bool cay.n, .slice cay.u cay.nu cay.cu, .slice cay.l cay.nl cay.cl] 86)).alloc (.cells #[.bool cbx.n, .slice cbx.u cbx.nu cbx.cu, .slice cbx.l cbx.nl cbx.cl, .bool cbz.n, .slice cbz.u cbz.nu cbz.cu, .slice cbz.l cbz.nl cbz.cl] 86)).alloc (.cells #[.bool false, .slice none 0 0, .slice none 0 0, .bool false, .slice none 0 0, .slice none 0 0] 86)) = W0 at *
  have HS : Hid (∀ w', Below W0.heap.size W0 w' → w'.cell? ⟨w.heap.size, 0, none⟩ = some (.bool cax.n) ∧ w'.cell? ⟨w.heap.size, 1, none⟩ = some (.slice cax.u cax.nu cax.cu) ∧ w'.cell? ⟨w.heap.size, 2, none⟩ = some (.slice cax.l cax.nl cax.cl) ∧ w'.cell? ⟨w.heap.size, 3, none⟩ = some (.bool cay.n) ∧ w'.cell? ⟨w.heap.size, 4, none⟩ = some (.slice cay.u cay.nu cay.cu) ∧ w'.cell? ⟨w.heap.size, 5, none⟩ = some (.slice cay.l cay.nl cay.cl) ∧ w'.cell? ⟨w.heap.size + 1, 0, none⟩ = some (.bool cbx.n) ∧ w'.cell? ⟨w.heap.size + 1, 1, none⟩ = some (.slice cbx.u cbx.nu cbx.cu) ∧ w'.cell? ⟨w.heap.size + 1, 2, none⟩ = some (.slice cbx.l cbx.nl cbx.cl) ∧ w'.cell? ⟨w.heap.size + 1, 3, none⟩ = some (.bool cbz.n) ∧ w'.cell? ⟨w.heap.size + 1, 4, none⟩ = some (.slice cbz.u cbz.nu cbz.cu) ∧ w'.cell? ⟨w.heap.size + 1, 5, none⟩ = some (.slice cbz.l cbz.nl cbz.cl)) := fun w' hb => ⟨(HK0.out.below hb (by rw [HSZ.out]; omega)).cell 0, (HK0.out.below hb (by rw [HSZ.out]; omega)).cell 1, (HK0.out.below hb (by rw [HSZ.out]; omega)).cell 2, (HK0.out.below hb (by rw [HSZ.out]; omega)).cell 3, (HK0.out.below hb (by rw [HSZ.out]; omega)).cell 4, (HK0.out.below hb (by rw [HSZ.out]; omega)).cell 5, (HK1.out.below hb (by rw [HSZ.out]; omega)).cell 0, (HK1.out.below hb (by rw [HSZ.out]; omega)).cell 1, (HK1.out.below hb (by rw [HSZ.out]; omega)).cell 2, (HK1.out.below hb (by rw [HSZ.out]; omega)).cell 3, (HK1.out.below hb (by rw [HSZ.out]; omega)).cell 4, (HK1.out.below hb (by rw [HSZ.out]; omega)).cell 5⟩
  have HSS : Hid (∀ w', Below W0.heap.size W0 w' → ∀ x0 x1 x2 x3 x4 x5 : Value, ((((((w'.setCell ⟨w.heap.size + 1 + 1, 0, none⟩ (x0)).setCell ⟨w.heap.size + 1 + 1, 1, none⟩ (x1)).setCell ⟨w.heap.size + 1 + 1, 2, none⟩ (x2)).setCell ⟨w.heap.size + 1 + 1, 3, none⟩ (x3)).setCell ⟨w.heap.size + 1 + 1, 4, none⟩ (x4)).setCell ⟨w.heap.size + 1 + 1, 5, none⟩ (x5)).cell? ⟨w.heap.size, 0, none⟩ = some (.bool cax.n) ∧ ((((((w'.setCell ⟨w.heap.size + 1 + 1, 0, none⟩ (x0)).setCell ⟨w.heap.size + 1 + 1, 1, none⟩ (x1)).setCell ⟨w.heap.size + 1 + 1, 2, none⟩ (x2)).setCell ⟨w.heap.size + 1 + 1, 3, none⟩ (x3)).setCell ⟨w.heap.size + 1 + 1, 4, none⟩ (x4)).setCell ⟨w.heap.size + 1 + 1, 5, none⟩ (x5)).cell? ⟨w.heap.size, 1, none⟩ = some (.slice cax.u cax.nu cax.cu) ∧ ((((((w'.setCell ⟨w.heap.size + 1 + 1, 0, none⟩ (x0)).setCell ⟨w.heap.size + 1 + 1, 1, none⟩ (x1)).setCell ⟨w.heap.size + 1 + 1, 2, none⟩ (x2)).setCell ⟨w.heap.size + 1 + 1, 3, none⟩ (x3)).setCell ⟨w.heap.size + 1 + 1, 4, none⟩ (x4)).setCell ⟨w.heap.size + 1 + 1, 5, none⟩ (x5)).cell? ⟨w.heap.size, 2, none⟩ = some (.slice cax.l cax.nl cax.cl) ∧ ((((((w'.setCell ⟨w.heap.size + 1 + 1, 0, none⟩ (x0)).setCell ⟨w.heap.size + 1 + 1, 1, none⟩ (x1)).setCell ⟨w.heap.size + 1 + 1, 2, none⟩ (x2)).setCell ⟨w.heap.size + 1 + 1, 3, none⟩ (x3)).setCell ⟨w.heap.size + 1 + 1, 4, none⟩ (x4)).setCell ⟨w.heap.size + 1 + 1, 5, none⟩ (x5)).cell? ⟨w.heap.size, 3, none⟩ = some (.bool cay.n) ∧ ((((((w'.setCell ⟨w.heap.size + 1 + 1, 0, none⟩ (x0)).setCell ⟨w.heap.size + 1 + 1, 1, none⟩ (x1)).setCell ⟨w.heap.size + 1 + 1, 2, none⟩ (x2)).setCell ⟨w.heap.size + 1 + 1, 3, none⟩ (x3)).setCell ⟨w.heap.size + 1 + 1, 4, none⟩ (x4)).setCell ⟨w.heap.size + 1 + 1, 5, none⟩ (x5)).cell? ⟨w.heap.size, 4, none⟩ = some (.slice cay.u cay.nu cay.cu) ∧ ((((((w'.setCell ⟨w.heap.size + 1 + 1, 0, none⟩ (x0)).setCell ⟨w.heap.size + 1 + 1, 1, none⟩ (x1)).setCell ⟨w.heap.size + 1 + 1, 2, none⟩ (x2)).setCell ⟨w.heap.size + 1 + 1, 3, none⟩ (x3)).setCell ⟨w.heap.size + 1 + 1, 4, none⟩ (x4)).setCell ⟨w.heap.size + 1 + 1, 5, none⟩ (x5)).cell? ⟨w.heap.size, 5, none⟩ = some (.slice cay.l cay.nl cay.cl) ∧ ((((((w'.setCell ⟨w.heap.size + 1 + 1, 0, none⟩ (x0)).setCell ⟨w.heap.size + 1 + 1, 1, none⟩ (x1)).setCell ⟨w.heap.size + 1 + 1, 2, none⟩ (x2)).setCell ⟨w.heap.size + 1 + 1, 3, none⟩ (x3)).setCell ⟨w.heap.size + 1 + 1, 4, none⟩ (x4)).setCell ⟨w.heap.size + 1 + 1, 5, none⟩ (x5)).cell? ⟨w.heap.size + 1, 0, none⟩ = some (.bool cbx.n) ∧ ((((((w'.setCell ⟨w.heap.size + 1 + 1, 0, none⟩ (x0)).setCell ⟨w.heap.size + 1 + 1, 1, none⟩ (x1)).setCell ⟨w.heap.size + 1 + 1, 2, none⟩ (x2)).setCell ⟨w.heap.size + 1 + 1, 3, none⟩ (x3)).setCell ⟨w.heap.size + 1 + 1, 4, none⟩ (x4)).setCell ⟨w.heap.size + 1 + 1, 5, none⟩ (x5)).cell? ⟨w.heap.size + 1, 1, none⟩ = some (.slice cbx.u cbx.nu cbx.cu) ∧ ((((((w'.setCell ⟨w.heap.size + 1 + 1, 0, none⟩ (x0)).setCell ⟨w.heap.size + 1 + 1, 1, none⟩ (x1)).setCell ⟨w.heap.size + 1 + 1, 2, none⟩ (x2)).setCell ⟨w.heap.size + 1 + 1, 3, none⟩ (x3)).setCell ⟨w.heap.size + 1 + 1, 4, none⟩ (x4)).setCell ⟨w.heap.size + 1 + 1, 5, none⟩ (x5)).cell? ⟨w.heap.size + 1, 2, none⟩ = some (.slice cbx.l cbx.nl cbx.cl) ∧ ((((((w'.setCell ⟨w.heap.size + 1 + 1, 0, none⟩ (x0)).setCell ⟨w.heap.size + 1 + 1, 1, none⟩ (x1)).setCell ⟨w.heap.size + 1 + 1, 2, none⟩ (x2)).setCell ⟨w.heap.size + 1 + 1, 3, none⟩ (x3)).setCell ⟨w.heap.size + 1 + 1, 4, none⟩ (x4)).setCell ⟨w.heap.size + 1 + 1, 5, none⟩ (x5)).cell? ⟨w.heap.size + 1, 3, none⟩ = some (.bool cbz.n) ∧ ((((((w'.setCell ⟨w.heap.size + 1 + 1, 0, none⟩ (x0)).setCell ⟨w.heap.size + 1 + 1, 1, none⟩ (x1)).setCell ⟨w.heap.size + 1 + 1, 2, none⟩ (x2)).setCell ⟨w.heap.size + 1 + 1, 3, none⟩ (x3)).setCell ⟨w.heap.size + 1 + 1, 4, none⟩ (x4)).setCell ⟨w.heap.size + 1 + 1, 5, none⟩ (x5)).cell? ⟨w.heap.size + 1, 4, none⟩ = some (.slice cbz.u cbz.nu cbz.cu) ∧ ((((((w'.setCell ⟨w.heap.size + 1 + 1, 0, none⟩ (x0)).setCell ⟨w.heap.size + 1 + 1, 1, none⟩ (x1)).setCell ⟨w.heap.size + 1 + 1, 2, none⟩ (x2)).setCell ⟨w.heap.size + 1 + 1, 3, none⟩ (x3)).setCell ⟨w.heap.size + 1 + 1, 4, none⟩ (x4)).setCell ⟨w.heap.size + 1 + 1, 5, none⟩ (x5)).cell? ⟨w.heap.size + 1, 5, none⟩ = some (.slice cbz.l cbz.nl cbz.cl)) := fun w' hb x0 x1 x2 x3 x4 x5 => ⟨((HK0.out.below hb (by rw [HSZ.out]; omega)).off6 (g := w.heap.size + 1 + 1) (by omega) x0 x1 x2 x3 x4 x5).cell 0, ((HK0.out.below hb (by rw [HSZ.out]; omega)).off6 (g := w.heap.size + 1 + 1) (by omega) x0 x1 x2 x3 x4 x5).cell 1, ((HK0.out.below hb (by rw [HSZ.out]; omega)).off6 (g := w.heap.size + 1 + 1) (by omega) x0 x1 x2 x3 x4 x5).cell 2, ((HK0.out.below hb (by rw [HSZ.out]; omega)).off6 (g := w.heap.size + 1 + 1) (by omega) x0 x1 x2 x3 x4 x5).cell 3, ((HK0.out.below hb (by rw [HSZ.out]; omega)).off6 (g := w.heap.size + 1 + 1) (by omega) x0 x1 x2 x3 x4 x5).cell 4, ((HK0.out.below hb (by rw [HSZ.out]; omega)).off6 (g := w.heap.size + 1 + 1) (by omega) x0 x1 x2 x3 x4 x5).cell 5, ((HK1.out.below hb (by rw [HSZ.out]; omega)).off6 (g := w.heap.size + 1 + 1) (by omega) x0 x1 x2 x3 x4 x5).cell 0, ((HK1.out.below hb (by rw [HSZ.out]; omega)).off6 (g := w.heap.size + 1 + 1) (by omega) x0 x1 x2 x3 x4 x5).cell 1, ((HK1.out.below hb (by rw [HSZ.out]; omega)).off6 (g := w.heap.size + 1 + 1) (by omega) x0 x1 x2 x3 x4 x5).cell 2, ((HK1.out.below hb (by rw [HSZ.out]; omega)).off6 (g := w.heap.size + 1 + 1) (by omega) x0 x1 x2 x3 x4 x5).cell 3, ((HK1.out.below hb (by rw [HSZ.out]; omega)).off6 (g := w.heap.size + 1 + 1) (by omega) x0 x1 x2 x3 x4 x5).cell 4, ((HK1.out.below hb (by rw [HSZ.out]; omega)).off6 (g := w.heap.size + 1 + 1) (by omega) x0 x1 x2 x3 x4 x5).cell 5⟩
  obtain ⟨z0, z1, z2, z3, z4, z5, z6, z7, z8, z9, z10, z11⟩ := HS.out W0 (Below.refl _ _)
  go_region_held3 (fun w' => w'.cell? ⟨w.heap.size, 0, none⟩ = some (.bool cax.n) ∧ w'.cell? ⟨w.heap.size, 1, none⟩ = some (.slice cax.u cax.nu cax.cu) ∧ w'.cell? ⟨w.heap.size, 2, none⟩ = some (.slice cax.l cax.nl cax.cl) ∧ w'.cell? ⟨w.heap.size, 3, none⟩ = some (.bool cay.n) ∧ w'.cell? ⟨w.heap.size, 4, none⟩ = some (.slice cay.u cay.nu cay.cu) ∧ w'.cell? ⟨w.heap.size, 5, none⟩ = some (.slice cay.l cay.nl cay.cl) ∧ w'.cell? ⟨w.heap.size + 1, 0, none⟩ = some (.bool cbx.n) ∧ w'.cell? ⟨w.heap.size + 1, 1, none⟩ = some (.slice cbx.u cbx.nu cbx.cu) ∧ w'.cell? ⟨w.heap.size + 1, 2, none⟩ = some (.slice cbx.l cbx.nl cbx.cl) ∧ w'.cell? ⟨w.heap.size + 1, 3, none⟩ = some (.bool cbz.n) ∧ w'.cell? ⟨w.heap.size + 1, 4, none⟩ = some (.slice cbz.u cbz.nu cbz.cu) ∧ w'.cell? ⟨w.heap.size + 1, 5, none⟩ = some (.slice cbz.l cbz.nl cbz.cl)) (first | go_keep | exact hs1 | exact hs2 | exact hkS)
    (first
      | (go_at_call_of 149 (Value.agg #[Value.bool cax.n, Value.slice cax.u cax.nu cax.cu, Value.slice cax.l cax.nl cax.cl]); refine (plus_calls (w := W0.drew) (Hax.out.below (Below.drew (Below.refl _ _))) (Hbx.out.below (Below.drew (Below.refl _ _))) F1.out F3.out HK.out).mono ?_; rintro e w1 ⟨hb1, v1, rfl, hv1⟩; have hbl1 : Below W0.heap.size W0 w1 := (Below.drew (Below.refl _ W0)).trans hb1; obtain ⟨d1, rfl⟩ := qv_open hv1; have hs1 := HS.out w1 hbl1)
      | (go_at_call_of 149 (Value.agg #[Value.bool cay.n, Value.slice cay.u cay.nu cay.cu, Value.slice cay.l cay.nl cay.cl]); refine (plus_calls (Hay.out.below hbl1) (Hbz.out.below hbl1) F2.out F4.out HK.out).mono ?_; rintro e w2 ⟨hb2, v2, rfl, hv2⟩; have hbl2 := hbl1.trans (hb2.mono hbl1.size); obtain ⟨d2, rfl⟩ := qv_open hv2; have hs2 := HS.out w2 hbl2; have hkr := HK2.out.below hbl2 (by rw [HSZ.out]; omega); obtain ⟨r0, r1, r2, r3, r4, r5, f0, f1, f2, f3, f4, f5⟩ := hkr.all6; have hkS := HSS.out w2 hbl2 (.bool d1.n) (.slice d1.u d1.nu d1.cu) (.slice d1.l d1.nl d1.cl) (.bool d2.n) (.slice d2.u d2.nu d2.cu) (.slice d2.l d2.nl d2.cl))
      )
  all_goals
    go_wp2
    obtain ⟨k0, k1, k2, k3, k4, k5, _, _, _, _, _, _⟩ := (hkr.put6 (.bool d1.n) (.slice d1.u d1.nu d1.cu) (.slice d1.l d1.nl d1.cl) (.bool d2.n) (.slice d2.u d2.nu d2.cu) (.slice d2.l d2.nl d2.cl)).all6
    refine bodyPost_ret (v := .agg #[.bool d1.n, .slice d1.u d1.nu d1.cu, .slice d1.l d1.nl d1.cl, .bool d2.n, .slice d2.u d2.nu d2.cu, .slice d2.l d2.nl d2.cl]) (by simp [results, Tryz.results108, go_sem, k0, k1, k2, k3, k4, k5]) rfl ⟨Below.put6 (HB0.out.trans (hbl2.mono HB0.out.size)) (by omega) (.bool d1.n) (.slice d1.u d1.nu d1.cu) (.slice d1.l d1.nl d1.cl) (.bool d2.n) (.slice d2.u d2.nu d2.cu) (.slice d2.l d2.nl d2.cl), _, rfl, ?_⟩
    have hst := Stays.put6 hkr (by simp [notLimb]) (.bool d1.n) (.slice d1.u d1.nu d1.cu) (.slice d1.l d1.nl d1.cl) (.bool d2.n) (.slice d2.u d2.nu d2.cu) (.slice d2.l d2.nl d2.cl) rfl rfl rfl rfl rfl rfl
    exact ⟨d1, d2, rfl, hst.qv (hv1.below hb2), hst.qv hv2⟩
theorem wayPlus_calls {w : World} {va vb : Value} {ax ay bx bz : Rat} {k l : Nat} (ha : WV w va ax ay) (hb : WV w vb bx bz) (f1 : QS k ax) (f2 : QS k ay) (f3 : QS l bx) (f4 : QS l bz) (hk : k + l + 1 ≤ 35184372088640) :
    Calls Tryz.prog 108 #[va, vb] w fun e w' => Below w.heap.size w w' ∧ ∃ v, e = .returned v ∧ WV w' v (ax + bx) (ay + bz) := by
  obtain ⟨c1, c2, rfl, h1, h2⟩ := ha
  obtain ⟨c3, c4, rfl, h3, h4⟩ := hb
  exact wayPlus_walk h1 h2 h3 h4 f1 f2 f3 f4 hk
theorem wayMinus_walk {w : World} {cax cay cbx cbz : C3} {ax ay bx bz : Rat} (hax : QV w (.agg #[.bool cax.n, .slice cax.u cax.nu cax.cu, .slice cax.l cax.nl cax.cl]) ax) (hay : QV w (.agg #[.bool cay.n, .slice cay.u cay.nu cay.cu, .slice cay.l cay.nl cay.cl]) ay) (hbx : QV w (.agg #[.bool cbx.n, .slice cbx.u cbx.nu cbx.cu, .slice cbx.l cbx.nl cbx.cl]) bx) (hbz : QV w (.agg #[.bool cbz.n, .slice cbz.u cbz.nu cbz.cu, .slice cbz.l cbz.nl cbz.cl]) bz) {k l : Nat} (f1 : QS k ax) (f2 : QS k ay) (f3 : QS l bx) (f4 : QS l bz) (hk : k + l + 1 ≤ 35184372088640) :
    Calls Tryz.prog 64 #[.agg #[.bool cax.n, .slice cax.u cax.nu cax.cu, .slice cax.l cax.nl cax.cl, .bool cay.n, .slice cay.u cay.nu cay.cu, .slice cay.l cay.nl cay.cl], .agg #[.bool cbx.n, .slice cbx.u cbx.nu cbx.cu, .slice cbx.l cbx.nl cbx.cl, .bool cbz.n, .slice cbz.u cbz.nu cbz.cu, .slice cbz.l cbz.nl cbz.cl]] w fun e w' => Below w.heap.size w w' ∧ ∃ v, e = .returned v ∧ WV w' v (ax - bx) (ay - bz) := by
  obtain ⟨hb0, hk0, hk1, hk2, hsz⟩ := boxes3 w #[.bool cax.n, .slice cax.u cax.nu cax.cu, .slice cax.l cax.nl cax.cl, .bool cay.n, .slice cay.u cay.nu cay.cu, .slice cay.l cay.nl cay.cl] #[.bool cbx.n, .slice cbx.u cbx.nu cbx.cu, .slice cbx.l cbx.nl cbx.cl, .bool cbz.n, .slice cbz.u cbz.nu cbz.cu, .slice cbz.l cbz.nl cbz.cl] #[.bool false, .slice none 0 0, .slice none 0 0, .bool false, .slice none 0 0, .slice none 0 0] 86 86 86
  have HB0 := hideIt hb0
  have HSZ := hideIt hsz
  have HK0 := hideIt hk0
  have HK1 := hideIt hk1
  have HK2 := hideIt hk2
  have Hax := hideIt (hax.below hb0)
  have Hay := hideIt (hay.below hb0)
  have Hbx := hideIt (hbx.below hb0)
  have Hbz := hideIt (hbz.below hb0)
  have F1 := hideIt f1
  have F2 := hideIt f2
  have F3 := hideIt f3
  have F4 := hideIt f4
  have HK := hideIt hk
  clear hb0 hsz hk0 hk1 hk2 hax hay hbx hbz f1 f2 f3 f4 hk
  go_enter Tryz.func64, Tryz.ntmps64
  go_wp2_with fail
  generalize (((w.alloc (.cells #[.bool cax.n, .slice cax.u cax.nu cax.cu, .slice cax.l cax.nl cax.cl, .bool cay.n, .slice cay.u cay.nu cay.cu, .slice cay.l cay.nl cay.cl] 86)).alloc (.cells #[.bool cbx.n, .slice cbx.u cbx.nu cbx.cu, .slice cbx.l cbx.nl cbx.cl, .bool cbz.n, .slice cbz.u cbz.nu cbz.cu, .slice cbz.l cbz.nl cbz.cl] 86)).alloc (.cells #[.bool false, .slice none 0 0, .slice none 0 0, .bool false, .slice none 0 0, .slice none 0 0] 86)) = W0 at *
  have HS : Hid (∀ w', Below W0.heap.size W0 w' → w'.cell? ⟨w.heap.size, 0, none⟩ = some (.bool cax.n) ∧ w'.cell? ⟨w.heap.size, 1, none⟩ = some (.slice cax.u cax.nu cax.cu) ∧ w'.cell? ⟨w.heap.size, 2, none⟩ = some (.slice cax.l cax.nl cax.cl) ∧ w'.cell? ⟨w.heap.size, 3, none⟩ = some (.bool cay.n) ∧ w'.cell? ⟨w.heap.size, 4, none⟩ = some (.slice cay.u cay.nu cay.cu) ∧ w'.cell? ⟨w.heap.size, 5, none⟩ = some (.slice cay.l cay.nl cay.cl) ∧ w'.cell? ⟨w.heap.size + 1, 0, none⟩ = some (.bool cbx.n) ∧ w'.cell? ⟨w.heap.size + 1, 1, none⟩ = some (.slice cbx.u cbx.nu cbx.cu) ∧ w'.cell? ⟨w.heap.size + 1, 2, none⟩ = some (.slice cbx.l cbx.nl cbx.cl) ∧ w'.cell? ⟨w.heap.size + 1, 3, none⟩ = some (.bool cbz.n) ∧ w'.cell? ⟨w.heap.size + 1, 4, none⟩ = some (.slice cbz.u cbz.nu cbz.cu) ∧ w'.cell? ⟨w.heap.size + 1, 5, none⟩ = some (.slice cbz.l cbz.nl cbz.cl)) := fun w' hb => ⟨(HK0.out.below hb (by rw [HSZ.out]; omega)).cell 0, (HK0.out.below hb (by rw [HSZ.out]; omega)).cell 1, (HK0.out.below hb (by rw [HSZ.out]; omega)).cell 2, (HK0.out.below hb (by rw [HSZ.out]; omega)).cell 3, (HK0.out.below hb (by rw [HSZ.out]; omega)).cell 4, (HK0.out.below hb (by rw [HSZ.out]; omega)).cell 5, (HK1.out.below hb (by rw [HSZ.out]; omega)).cell 0, (HK1.out.below hb (by rw [HSZ.out]; omega)).cell 1, (HK1.out.below hb (by rw [HSZ.out]; omega)).cell 2, (HK1.out.below hb (by rw [HSZ.out]; omega)).cell 3, (HK1.out.below hb (by rw [HSZ.out]; omega)).cell 4, (HK1.out.below hb (by rw [HSZ.out]; omega)).cell 5⟩
  have HSS : Hid (∀ w', Below W0.heap.size W0 w' → ∀ x0 x1 x2 x3 x4 x5 : Value, ((((((w'.setCell ⟨w.heap.size + 1 + 1, 0, none⟩ (x0)).setCell ⟨w.heap.size + 1 + 1, 1, none⟩ (x1)).setCell ⟨w.heap.size + 1 + 1, 2, none⟩ (x2)).setCell ⟨w.heap.size + 1 + 1, 3, none⟩ (x3)).setCell ⟨w.heap.size + 1 + 1, 4, none⟩ (x4)).setCell ⟨w.heap.size + 1 + 1, 5, none⟩ (x5)).cell? ⟨w.heap.size, 0, none⟩ = some (.bool cax.n) ∧ ((((((w'.setCell ⟨w.heap.size + 1 + 1, 0, none⟩ (x0)).setCell ⟨w.heap.size + 1 + 1, 1, none⟩ (x1)).setCell ⟨w.heap.size + 1 + 1, 2, none⟩ (x2)).setCell ⟨w.heap.size + 1 + 1, 3, none⟩ (x3)).setCell ⟨w.heap.size + 1 + 1, 4, none⟩ (x4)).setCell ⟨w.heap.size + 1 + 1, 5, none⟩ (x5)).cell? ⟨w.heap.size, 1, none⟩ = some (.slice cax.u cax.nu cax.cu) ∧ ((((((w'.setCell ⟨w.heap.size + 1 + 1, 0, none⟩ (x0)).setCell ⟨w.heap.size + 1 + 1, 1, none⟩ (x1)).setCell ⟨w.heap.size + 1 + 1, 2, none⟩ (x2)).setCell ⟨w.heap.size + 1 + 1, 3, none⟩ (x3)).setCell ⟨w.heap.size + 1 + 1, 4, none⟩ (x4)).setCell ⟨w.heap.size + 1 + 1, 5, none⟩ (x5)).cell? ⟨w.heap.size, 2, none⟩ = some (.slice cax.l cax.nl cax.cl) ∧ ((((((w'.setCell ⟨w.heap.size + 1 + 1, 0, none⟩ (x0)).setCell ⟨w.heap.size + 1 + 1, 1, none⟩ (x1)).setCell ⟨w.heap.size + 1 + 1, 2, none⟩ (x2)).setCell ⟨w.heap.size + 1 + 1, 3, none⟩ (x3)).setCell ⟨w.heap.size + 1 + 1, 4, none⟩ (x4)).setCell ⟨w.heap.size + 1 + 1, 5, none⟩ (x5)).cell? ⟨w.heap.size, 3, none⟩ = some (.bool cay.n) ∧ ((((((w'.setCell ⟨w.heap.size + 1 + 1, 0, none⟩ (x0)).setCell ⟨w.heap.size + 1 + 1, 1, none⟩ (x1)).setCell ⟨w.heap.size + 1 + 1, 2, none⟩ (x2)).setCell ⟨w.heap.size + 1 + 1, 3, none⟩ (x3)).setCell ⟨w.heap.size + 1 + 1, 4, none⟩ (x4)).setCell ⟨w.heap.size + 1 + 1, 5, none⟩ (x5)).cell? ⟨w.heap.size, 4, none⟩ = some (.slice cay.u cay.nu cay.cu) ∧ ((((((w'.setCell ⟨w.heap.size + 1 + 1, 0, none⟩ (x0)).setCell ⟨w.heap.size + 1 + 1, 1, none⟩ (x1)).setCell ⟨w.heap.size + 1 + 1, 2, none⟩ (x2)).setCell ⟨w.heap.size + 1 + 1, 3, none⟩ (x3)).setCell ⟨w.heap.size + 1 + 1, 4, none⟩ (x4)).setCell ⟨w.heap.size + 1 + 1, 5, none⟩ (x5)).cell? ⟨w.heap.size, 5, none⟩ = some (.slice cay.l cay.nl cay.cl) ∧ ((((((w'.setCell ⟨w.heap.size + 1 + 1, 0, none⟩ (x0)).setCell ⟨w.heap.size + 1 + 1, 1, none⟩ (x1)).setCell ⟨w.heap.size + 1 + 1, 2, none⟩ (x2)).setCell ⟨w.heap.size + 1 + 1, 3, none⟩ (x3)).setCell ⟨w.heap.size + 1 + 1, 4, none⟩ (x4)).setCell ⟨w.heap.size + 1 + 1, 5, none⟩ (x5)).cell? ⟨w.heap.size + 1, 0, none⟩ = some (.bool cbx.n) ∧ ((((((w'.setCell ⟨w.heap.size + 1 + 1, 0, none⟩ (x0)).setCell ⟨w.heap.size + 1 + 1, 1, none⟩ (x1)).setCell ⟨w.heap.size + 1 + 1, 2, none⟩ (x2)).setCell ⟨w.heap.size + 1 + 1, 3, none⟩ (x3)).setCell ⟨w.heap.size + 1 + 1, 4, none⟩ (x4)).setCell ⟨w.heap.size + 1 + 1, 5, none⟩ (x5)).cell? ⟨w.heap.size + 1, 1, none⟩ = some (.slice cbx.u cbx.nu cbx.cu) ∧ ((((((w'.setCell ⟨w.heap.size + 1 + 1, 0, none⟩ (x0)).setCell ⟨w.heap.size + 1 + 1, 1, none⟩ (x1)).setCell ⟨w.heap.size + 1 + 1, 2, none⟩ (x2)).setCell ⟨w.heap.size + 1 + 1, 3, none⟩ (x3)).setCell ⟨w.heap.size + 1 + 1, 4, none⟩ (x4)).setCell ⟨w.heap.size + 1 + 1, 5, none⟩ (x5)).cell? ⟨w.heap.size + 1, 2, none⟩ = some (.slice cbx.l cbx.nl cbx.cl) ∧ ((((((w'.setCell ⟨w.heap.size + 1 + 1, 0, none⟩ (x0)).setCell ⟨w.heap.size + 1 + 1, 1, none⟩ (x1)).setCell ⟨w.heap.size + 1 + 1, 2, none⟩ (x2)).setCell ⟨w.heap.size + 1 + 1, 3, none⟩ (x3)).setCell ⟨w.heap.size + 1 + 1, 4, none⟩ (x4)).setCell ⟨w.heap.size + 1 + 1, 5, none⟩ (x5)).cell? ⟨w.heap.size + 1, 3, none⟩ = some (.bool cbz.n) ∧ ((((((w'.setCell ⟨w.heap.size + 1 + 1, 0, none⟩ (x0)).setCell ⟨w.heap.size + 1 + 1, 1, none⟩ (x1)).setCell ⟨w.heap.size + 1 + 1, 2, none⟩ (x2)).setCell ⟨w.heap.size + 1 + 1, 3, none⟩ (x3)).setCell ⟨w.heap.size + 1 + 1, 4, none⟩ (x4)).setCell ⟨w.heap.size + 1 + 1, 5, none⟩ (x5)).cell? ⟨w.heap.size + 1, 4, none⟩ = some (.slice cbz.u cbz.nu cbz.cu) ∧ ((((((w'.setCell ⟨w.heap.size + 1 + 1, 0, none⟩ (x0)).setCell ⟨w.heap.size + 1 + 1, 1, none⟩ (x1)).setCell ⟨w.heap.size + 1 + 1, 2, none⟩ (x2)).setCell ⟨w.heap.size + 1 + 1, 3, none⟩ (x3)).setCell ⟨w.heap.size + 1 + 1, 4, none⟩ (x4)).setCell ⟨w.heap.size + 1 + 1, 5, none⟩ (x5)).cell? ⟨w.heap.size + 1, 5, none⟩ = some (.slice cbz.l cbz.nl cbz.cl)) := fun w' hb x0 x1 x2 x3 x4 x5 => ⟨((HK0.out.below hb (by rw [HSZ.out]; omega)).off6 (g := w.heap.size + 1 + 1) (by omega) x0 x1 x2 x3 x4 x5).cell 0, ((HK0.out.below hb (by rw [HSZ.out]; omega)).off6 (g := w.heap.size + 1 + 1) (by omega) x0 x1 x2 x3 x4 x5).cell 1, ((HK0.out.below hb (by rw [HSZ.out]; omega)).off6 (g := w.heap.size + 1 + 1) (by omega) x0 x1 x2 x3 x4 x5).cell 2, ((HK0.out.below hb (by rw [HSZ.out]; omega)).off6 (g := w.heap.size + 1 + 1) (by omega) x0 x1 x2 x3 x4 x5).cell 3, ((HK0.out.below hb (by rw [HSZ.out]; omega)).off6 (g := w.heap.size + 1 + 1) (by omega) x0 x1 x2 x3 x4 x5).cell 4, ((HK0.out.below hb (by rw [HSZ.out]; omega)).off6 (g := w.heap.size + 1 + 1) (by omega) x0 x1 x2 x3 x4 x5).cell 5, ((HK1.out.below hb (by rw [HSZ.out]; omega)).off6 (g := w.heap.size + 1 + 1) (by omega) x0 x1 x2 x3 x4 x5).cell 0, ((HK1.out.below hb (by rw [HSZ.out]; omega)).off6 (g := w.heap.size + 1 + 1) (by omega) x0 x1 x2 x3 x4 x5).cell 1, ((HK1.out.below hb (by rw [HSZ.out]; omega)).off6 (g := w.heap.size + 1 + 1) (by omega) x0 x1 x2 x3 x4 x5).cell 2, ((HK1.out.below hb (by rw [HSZ.out]; omega)).off6 (g := w.heap.size + 1 + 1) (by omega) x0 x1 x2 x3 x4 x5).cell 3, ((HK1.out.below hb (by rw [HSZ.out]; omega)).off6 (g := w.heap.size + 1 + 1) (by omega) x0 x1 x2 x3 x4 x5).cell 4, ((HK1.out.below hb (by rw [HSZ.out]; omega)).off6 (g := w.heap.size + 1 + 1) (by omega) x0 x1 x2 x3 x4 x5).cell 5⟩
  obtain ⟨z0, z1, z2, z3, z4, z5, z6, z7, z8, z9, z10, z11⟩ := HS.out W0 (Below.refl _ _)
  go_region_held3 (fun w' => w'.cell? ⟨w.heap.size, 0, none⟩ = some (.bool cax.n) ∧ w'.cell? ⟨w.heap.size, 1, none⟩ = some (.slice cax.u cax.nu cax.cu) ∧ w'.cell? ⟨w.heap.size, 2, none⟩ = some (.slice cax.l cax.nl cax.cl) ∧ w'.cell? ⟨w.heap.size, 3, none⟩ = some (.bool cay.n) ∧ w'.cell? ⟨w.heap.size, 4, none⟩ = some (.slice cay.u cay.nu cay.cu) ∧ w'.cell? ⟨w.heap.size, 5, none⟩ = some (.slice cay.l cay.nl cay.cl) ∧ w'.cell? ⟨w.heap.size + 1, 0, none⟩ = some (.bool cbx.n) ∧ w'.cell? ⟨w.heap.size + 1, 1, none⟩ = some (.slice cbx.u cbx.nu cbx.cu) ∧ w'.cell? ⟨w.heap.size + 1, 2, none⟩ = some (.slice cbx.l cbx.nl cbx.cl) ∧ w'.cell? ⟨w.heap.size + 1, 3, none⟩ = some (.bool cbz.n) ∧ w'.cell? ⟨w.heap.size + 1, 4, none⟩ = some (.slice cbz.u cbz.nu cbz.cu) ∧ w'.cell? ⟨w.heap.size + 1, 5, none⟩ = some (.slice cbz.l cbz.nl cbz.cl)) (first | go_keep | exact hs1 | exact hs2 | exact hkS)
    (first
      | (go_at_call_of 106 (Value.agg #[Value.bool cax.n, Value.slice cax.u cax.nu cax.cu, Value.slice cax.l cax.nl cax.cl]); refine (minus_calls (w := W0.drew) (Hax.out.below (Below.drew (Below.refl _ _))) (Hbx.out.below (Below.drew (Below.refl _ _))) F1.out F3.out HK.out).mono ?_; rintro e w1 ⟨hb1, v1, rfl, hv1⟩; have hbl1 : Below W0.heap.size W0 w1 := (Below.drew (Below.refl _ W0)).trans hb1; obtain ⟨d1, rfl⟩ := qv_open hv1; have hs1 := HS.out w1 hbl1)
      | (go_at_call_of 106 (Value.agg #[Value.bool cay.n, Value.slice cay.u cay.nu cay.cu, Value.slice cay.l cay.nl cay.cl]); refine (minus_calls (Hay.out.below hbl1) (Hbz.out.below hbl1) F2.out F4.out HK.out).mono ?_; rintro e w2 ⟨hb2, v2, rfl, hv2⟩; have hbl2 := hbl1.trans (hb2.mono hbl1.size); obtain ⟨d2, rfl⟩ := qv_open hv2; have hs2 := HS.out w2 hbl2; have hkr := HK2.out.below hbl2 (by rw [HSZ.out]; omega); obtain ⟨r0, r1, r2, r3, r4, r5, f0, f1, f2, f3, f4, f5⟩ := hkr.all6; have hkS := HSS.out w2 hbl2 (.bool d1.n) (.slice d1.u d1.nu d1.cu) (.slice d1.l d1.nl d1.cl) (.bool d2.n) (.slice d2.u d2.nu d2.cu) (.slice d2.l d2.nl d2.cl))
      )
  all_goals
    go_wp2
    obtain ⟨k0, k1, k2, k3, k4, k5, _, _, _, _, _, _⟩ := (hkr.put6 (.bool d1.n) (.slice d1.u d1.nu d1.cu) (.slice d1.l d1.nl d1.cl) (.bool d2.n) (.slice d2.u d2.nu d2.cu) (.slice d2.l d2.nl d2.cl)).all6
    refine bodyPost_ret (v := .agg #[.bool d1.n, .slice d1.u d1.nu d1.cu, .slice d1.l d1.nl d1.cl, .bool d2.n, .slice d2.u d2.nu d2.cu, .slice d2.l d2.nl d2.cl]) (by simp [results, Tryz.results64, go_sem, k0, k1, k2, k3, k4, k5]) rfl ⟨Below.put6 (HB0.out.trans (hbl2.mono HB0.out.size)) (by omega) (.bool d1.n) (.slice d1.u d1.nu d1.cu) (.slice d1.l d1.nl d1.cl) (.bool d2.n) (.slice d2.u d2.nu d2.cu) (.slice d2.l d2.nl d2.cl), _, rfl, ?_⟩
    have hst := Stays.put6 hkr (by simp [notLimb]) (.bool d1.n) (.slice d1.u d1.nu d1.cu) (.slice d1.l d1.nl d1.cl) (.bool d2.n) (.slice d2.u d2.nu d2.cu) (.slice d2.l d2.nl d2.cl) rfl rfl rfl rfl rfl rfl
    exact ⟨d1, d2, rfl, hst.qv (hv1.below hb2), hst.qv hv2⟩
theorem wayMinus_calls {w : World} {va vb : Value} {ax ay bx bz : Rat} {k l : Nat} (ha : WV w va ax ay) (hb : WV w vb bx bz) (f1 : QS k ax) (f2 : QS k ay) (f3 : QS l bx) (f4 : QS l bz) (hk : k + l + 1 ≤ 35184372088640) :
    Calls Tryz.prog 64 #[va, vb] w fun e w' => Below w.heap.size w w' ∧ ∃ v, e = .returned v ∧ WV w' v (ax - bx) (ay - bz) := by
  obtain ⟨c1, c2, rfl, h1, h2⟩ := ha
  obtain ⟨c3, c4, rfl, h3, h4⟩ := hb
  exact wayMinus_walk h1 h2 h3 h4 f1 f2 f3 f4 hk
end Go.Proofs.YtgajdmadbdbabaaGreatDoor
/- WH -/
namespace Go.Proofs.YtgajdmadbdbabaaGreatDoor
open Go.RowKit Cx
attribute [local go_sem ↓] Go.wp_at_zero Go.wp_at_succ
theorem between_walk {w : World} {px pz qx qz : ByteArray} (s1 : px.size ≤ 1048576) (s2 : pz.size ≤ 1048576) (s3 : qx.size ≤ 1048576) (s4 : qz.size ≤ 1048576) :
    Calls Tryz.prog 67 #[.agg #[.string px, .string pz], .agg #[.string qx, .string qz]] w fun e w' => Below w.heap.size w w' ∧ ∃ v, e = .returned v ∧ WV w' v (rd qx.data.toList - rd px.data.toList) (rd qz.data.toList - rd pz.data.toList) := by
  obtain ⟨hb0, hk0, hk1, hk2, hsz⟩ := boxes3 w #[.string px, .string pz] #[.string qx, .string qz] #[.bool false, .slice none 0 0, .slice none 0 0, .bool false, .slice none 0 0, .slice none 0 0] 24 24 86
  have HB0 := hideIt hb0
  have HSZ := hideIt hsz
  have HK0 := hideIt hk0
  have HK1 := hideIt hk1
  have HK2 := hideIt hk2
  have S1 := hideIt s1
  have S2 := hideIt s2
  have S3 := hideIt s3
  have S4 := hideIt s4
  clear hb0 hsz hk0 hk1 hk2  s1 s2 s3 s4
  have HKB : Hid (4194309 + 4194309 + 1 ≤ 35184372088640) := by show _ ≤ _; omega
  have L1 : Hid (px.data.toList.length ≤ 4294967296) := by rw [str_len]; have := S1.out; show _ ≤ _; omega
  have L2 : Hid (pz.data.toList.length ≤ 4294967296) := by rw [str_len]; have := S2.out; show _ ≤ _; omega
  have L3 : Hid (qx.data.toList.length ≤ 4294967296) := by rw [str_len]; have := S3.out; show _ ≤ _; omega
  have L4 : Hid (qz.data.toList.length ≤ 4294967296) := by rw [str_len]; have := S4.out; show _ ≤ _; omega
  have F1 : Hid (QS 4194309 (rd px.data.toList)) := (QS.rd _).mono (by rw [str_len]; have := S1.out; omega)
  have F2 : Hid (QS 4194309 (rd pz.data.toList)) := (QS.rd _).mono (by rw [str_len]; have := S2.out; omega)
  have F3 : Hid (QS 4194309 (rd qx.data.toList)) := (QS.rd _).mono (by rw [str_len]; have := S3.out; omega)
  have F4 : Hid (QS 4194309 (rd qz.data.toList)) := (QS.rd _).mono (by rw [str_len]; have := S4.out; omega)
  go_enter Tryz.func67, Tryz.ntmps67
  go_wp2_with fail
  generalize (((w.alloc (.cells #[.string px, .string pz] 24)).alloc (.cells #[.string qx, .string qz] 24)).alloc (.cells #[.bool false, .slice none 0 0, .slice none 0 0, .bool false, .slice none 0 0, .slice none 0 0] 86)) = W0 at *
  have HS : Hid (∀ w', Below W0.heap.size W0 w' → w'.cell? ⟨w.heap.size, 0, none⟩ = some (.string px) ∧ w'.cell? ⟨w.heap.size, 1, none⟩ = some (.string pz) ∧ w'.cell? ⟨w.heap.size + 1, 0, none⟩ = some (.string qx) ∧ w'.cell? ⟨w.heap.size + 1, 1, none⟩ = some (.string qz)) := fun w' hb => ⟨(HK0.out.below hb (by rw [HSZ.out]; omega)).cell 0, (HK0.out.below hb (by rw [HSZ.out]; omega)).cell 1, (HK1.out.below hb (by rw [HSZ.out]; omega)).cell 0, (HK1.out.below hb (by rw [HSZ.out]; omega)).cell 1⟩
  have HSS : Hid (∀ w', Below W0.heap.size W0 w' → ∀ x0 x1 x2 x3 x4 x5 : Value, ((((((w'.setCell ⟨w.heap.size + 1 + 1, 0, none⟩ (x0)).setCell ⟨w.heap.size + 1 + 1, 1, none⟩ (x1)).setCell ⟨w.heap.size + 1 + 1, 2, none⟩ (x2)).setCell ⟨w.heap.size + 1 + 1, 3, none⟩ (x3)).setCell ⟨w.heap.size + 1 + 1, 4, none⟩ (x4)).setCell ⟨w.heap.size + 1 + 1, 5, none⟩ (x5)).cell? ⟨w.heap.size, 0, none⟩ = some (.string px) ∧ ((((((w'.setCell ⟨w.heap.size + 1 + 1, 0, none⟩ (x0)).setCell ⟨w.heap.size + 1 + 1, 1, none⟩ (x1)).setCell ⟨w.heap.size + 1 + 1, 2, none⟩ (x2)).setCell ⟨w.heap.size + 1 + 1, 3, none⟩ (x3)).setCell ⟨w.heap.size + 1 + 1, 4, none⟩ (x4)).setCell ⟨w.heap.size + 1 + 1, 5, none⟩ (x5)).cell? ⟨w.heap.size, 1, none⟩ = some (.string pz) ∧ ((((((w'.setCell ⟨w.heap.size + 1 + 1, 0, none⟩ (x0)).setCell ⟨w.heap.size + 1 + 1, 1, none⟩ (x1)).setCell ⟨w.heap.size + 1 + 1, 2, none⟩ (x2)).setCell ⟨w.heap.size + 1 + 1, 3, none⟩ (x3)).setCell ⟨w.heap.size + 1 + 1, 4, none⟩ (x4)).setCell ⟨w.heap.size + 1 + 1, 5, none⟩ (x5)).cell? ⟨w.heap.size + 1, 0, none⟩ = some (.string qx) ∧ ((((((w'.setCell ⟨w.heap.size + 1 + 1, 0, none⟩ (x0)).setCell ⟨w.heap.size + 1 + 1, 1, none⟩ (x1)).setCell ⟨w.heap.size + 1 + 1, 2, none⟩ (x2)).setCell ⟨w.heap.size + 1 + 1, 3, none⟩ (x3)).setCell ⟨w.heap.size + 1 + 1, 4, none⟩ (x4)).setCell ⟨w.heap.size + 1 + 1, 5, none⟩ (x5)).cell? ⟨w.heap.size + 1, 1, none⟩ = some (.string qz)) := fun w' hb x0 x1 x2 x3 x4 x5 => ⟨((HK0.out.below hb (by rw [HSZ.out]; omega)).off6 (g := w.heap.size + 1 + 1) (by omega) x0 x1 x2 x3 x4 x5).cell 0, ((HK0.out.below hb (by rw [HSZ.out]; omega)).off6 (g := w.heap.size + 1 + 1) (by omega) x0 x1 x2 x3 x4 x5).cell 1, ((HK1.out.below hb (by rw [HSZ.out]; omega)).off6 (g := w.heap.size + 1 + 1) (by omega) x0 x1 x2 x3 x4 x5).cell 0, ((HK1.out.below hb (by rw [HSZ.out]; omega)).off6 (g := w.heap.size + 1 + 1) (by omega) x0 x1 x2 x3 x4 x5).cell 1⟩
  obtain ⟨z0, z1, z2, z3⟩ := HS.out W0 (Below.refl _ _)
  go_region_held3 (fun w' => w'.cell? ⟨w.heap.size, 0, none⟩ = some (.string px) ∧ w'.cell? ⟨w.heap.size, 1, none⟩ = some (.string pz) ∧ w'.cell? ⟨w.heap.size + 1, 0, none⟩ = some (.string qx) ∧ w'.cell? ⟨w.heap.size + 1, 1, none⟩ = some (.string qz)) (first | go_keep | exact hs1 | exact hs2 | exact hs3 | exact hkS)
    (first
      | (go_at_call_of 62 (Value.agg #[Value.string qx, Value.string qz]); refine (wayRead_calls (w := W0.drew) ⟨qx, qz, rfl, rfl, rfl⟩ L3.out L4.out).mono ?_; rintro e w1 ⟨hb1, v1, rfl, hv1⟩; have hbl1 : Below W0.heap.size W0 w1 := (Below.drew (Below.refl _ W0)).trans hb1; have hw1 := hv1; obtain ⟨d1, e1, rfl, hx1, hy1⟩ := hw1; have hs1 := HS.out w1 hbl1)
      | (go_at_call_of 62 (Value.agg #[Value.string px, Value.string pz]); refine (wayRead_calls ⟨px, pz, rfl, rfl, rfl⟩ L1.out L2.out).mono ?_; rintro e w2 ⟨hb2, v2, rfl, hv2⟩; have hbl2 := hbl1.trans (hb2.mono hbl1.size); have hw2 := hv2; obtain ⟨d2, e2, rfl, hx2, hy2⟩ := hw2; have hs2 := HS.out w2 hbl2)
      | (go_at_call 64; refine (wayMinus_calls (hv1.below hb2) hv2 F3.out F4.out F1.out F2.out HKB.out).mono ?_; rintro e w3 ⟨hb3, v3, rfl, hv3⟩; have hbl3 := hbl2.trans (hb3.mono hbl2.size); have hw3 := hv3; obtain ⟨d3, e3, rfl, hx3, hy3⟩ := hw3; have hs3 := HS.out w3 hbl3; have hkr := HK2.out.below hbl3 (by rw [HSZ.out]; omega); obtain ⟨r0, r1, r2, r3, r4, r5, f0, f1, f2, f3, f4, f5⟩ := hkr.all6; have hkS := HSS.out w3 hbl3 (.bool d3.n) (.slice d3.u d3.nu d3.cu) (.slice d3.l d3.nl d3.cl) (.bool e3.n) (.slice e3.u e3.nu e3.cu) (.slice e3.l e3.nl e3.cl))
      )
  all_goals
    go_wp2
    obtain ⟨k0, k1, k2, k3, k4, k5, _, _, _, _, _, _⟩ := (hkr.put6 (.bool d3.n) (.slice d3.u d3.nu d3.cu) (.slice d3.l d3.nl d3.cl) (.bool e3.n) (.slice e3.u e3.nu e3.cu) (.slice e3.l e3.nl e3.cl)).all6
    refine bodyPost_ret (v := .agg #[.bool d3.n, .slice d3.u d3.nu d3.cu, .slice d3.l d3.nl d3.cl, .bool e3.n, .slice e3.u e3.nu e3.cu, .slice e3.l e3.nl e3.cl]) (by simp [results, Tryz.results67, go_sem, k0, k1, k2, k3, k4, k5]) rfl ⟨Below.put6 (HB0.out.trans (hbl3.mono HB0.out.size)) (by omega) (.bool d3.n) (.slice d3.u d3.nu d3.cu) (.slice d3.l d3.nl d3.cl) (.bool e3.n) (.slice e3.u e3.nu e3.cu) (.slice e3.l e3.nl e3.cl), _, rfl, ?_⟩
    have hst := Stays.put6 hkr (by simp [notLimb]) (.bool d3.n) (.slice d3.u d3.nu d3.cu) (.slice d3.l d3.nl d3.cl) (.bool e3.n) (.slice e3.u e3.nu e3.cu) (.slice e3.l e3.nl e3.cl) rfl rfl rfl rfl rfl rfl
    exact ⟨d3, e3, rfl, hst.qv hx3, hst.qv hy3⟩
theorem between_calls {w : World} {va vb : Value} {px pz qx qz : List UInt8} (ha : PV va px pz) (hb : PV vb qx qz) (s1 : px.length ≤ 1048576) (s2 : pz.length ≤ 1048576) (s3 : qx.length ≤ 1048576) (s4 : qz.length ≤ 1048576) :
    Calls Tryz.prog 67 #[va, vb] w fun e w' => Below w.heap.size w w' ∧ ∃ v, e = .returned v ∧ WV w' v (rd qx - rd px) (rd qz - rd pz) := by
  obtain ⟨a, b, rfl, rfl, rfl⟩ := ha
  obtain ⟨c, d, rfl, rfl, rfl⟩ := hb
  rw [str_len] at s1 s2 s3 s4
  exact between_walk s1 s2 s3 s4
end Go.Proofs.YtgajdmadbdbabaaGreatDoor
/- WPA -/
namespace Go.Proofs.YtgajdmadbdbabaaGreatDoor
open Go.RowKit Cx
theorem Blk.newAt {w : World} {g : Nat} {cs : Array Value} {t : TypeId} (h : g = w.heap.size) : Blk (w.alloc (.cells cs t)) g cs t := by
  subst h
  exact Blk.new _ _ _
theorem Blk.old {w : World} {g : Nat} {cs : Array Value} {t : TypeId} (o : Obj) (h : Blk w g cs t) : Blk (w.alloc o) g cs t := h.below (below_new _ _) h.lt
theorem nl6 (b1 b2 : Bool) (a1 a2 a3 a4 : Option Addr) (n1 n2 n3 n4 m1 m2 m3 m4 : Nat) : (#[.bool b1, .slice a1 n1 m1, .slice a2 n2 m2, .bool b2, .slice a3 n3 m3, .slice a4 n4 m4] : Array Value).all notLimb = true := by simp [notLimb]
theorem size_put6 (w : World) (g : Nat) (x0 x1 x2 x3 x4 x5 : Value) : w.heap.size = ((((((w.setCell ⟨g, 0, none⟩ (x0)).setCell ⟨g, 1, none⟩ (x1)).setCell ⟨g, 2, none⟩ (x2)).setCell ⟨g, 3, none⟩ (x3)).setCell ⟨g, 4, none⟩ (x4)).setCell ⟨g, 5, none⟩ (x5)).heap.size := by simp [World.setCell]
def Two (W0 : World) (p q : Value) (wc : World) (x y z t : Rat) : Prop :=
  ∃ G H, p = .pointer (some ⟨G, 0, none⟩) ∧ q = .pointer (some ⟨H, 0, none⟩) ∧ W0.heap.size ≤ G ∧ W0.heap.size ≤ H ∧ Below W0.heap.size W0 wc ∧ ∃ d e f g : C3, Blk wc G #[.bool d.n, .slice d.u d.nu d.cu, .slice d.l d.nl d.cl, .bool e.n, .slice e.u e.nu e.cu, .slice e.l e.nl e.cl] 86 ∧ Blk wc H #[.bool f.n, .slice f.u f.nu f.cu, .slice f.l f.nl f.cl, .bool g.n, .slice g.u g.nu g.cu, .slice g.l g.nl g.cl] 86 ∧ QV wc (.agg #[.bool d.n, .slice d.u d.nu d.cu, .slice d.l d.nl d.cl]) x ∧ QV wc (.agg #[.bool e.n, .slice e.u e.nu e.cu, .slice e.l e.nl e.cl]) y ∧ QV wc (.agg #[.bool f.n, .slice f.u f.nu f.cu, .slice f.l f.nl f.cl]) z ∧ QV wc (.agg #[.bool g.n, .slice g.u g.nu g.cu, .slice g.l g.nl g.cl]) t
theorem Two.new {W0 w : World} {d1 e1 d2 e2 : C3} {x y z t : Rat} (hb : Below W0.heap.size W0 w) (h1 : QV w (.agg #[.bool d1.n, .slice d1.u d1.nu d1.cu, .slice d1.l d1.nl d1.cl]) x) (h2 : QV w (.agg #[.bool e1.n, .slice e1.u e1.nu e1.cu, .slice e1.l e1.nl e1.cl]) y) (h3 : QV w (.agg #[.bool d2.n, .slice d2.u d2.nu d2.cu, .slice d2.l d2.nl d2.cl]) z) (h4 : QV w (.agg #[.bool e2.n, .slice e2.u e2.nu e2.cu, .slice e2.l e2.nl e2.cl]) t) :
    Two W0 (.pointer (some ⟨w.heap.size, 0, none⟩)) (.pointer (some ⟨w.heap.size + 1, 0, none⟩)) ((w.alloc (.cells #[.bool d1.n, .slice d1.u d1.nu d1.cu, .slice d1.l d1.nl d1.cl, .bool e1.n, .slice e1.u e1.nu e1.cu, .slice e1.l e1.nl e1.cl] 86)).alloc (.cells #[.bool d2.n, .slice d2.u d2.nu d2.cu, .slice d2.l d2.nl d2.cl, .bool e2.n, .slice e2.u e2.nu e2.cu, .slice e2.l e2.nl e2.cl] 86)) x y z t := by
  obtain ⟨b0, k0, k1, hs⟩ := boxes2 w #[.bool d1.n, .slice d1.u d1.nu d1.cu, .slice d1.l d1.nl d1.cl, .bool e1.n, .slice e1.u e1.nu e1.cu, .slice e1.l e1.nl e1.cl] #[.bool d2.n, .slice d2.u d2.nu d2.cu, .slice d2.l d2.nl d2.cl, .bool e2.n, .slice e2.u e2.nu e2.cu, .slice e2.l e2.nl e2.cl] 86 86
  exact ⟨_, _, rfl, rfl, hb.size, Nat.le_succ_of_le hb.size, hb.trans (b0.mono hb.size), d1, e1, d2, e2, k0, k1, h1.below b0, h2.below b0, h3.below b0, h4.below b0⟩
theorem Two.new' {W0 w : World} {d1 e1 d2 e2 : C3} {x y z t : Rat} (hb : Below W0.heap.size W0 w) (h1 : QV w (.agg #[.bool d1.n, .slice d1.u d1.nu d1.cu, .slice d1.l d1.nl d1.cl]) x) (h2 : QV w (.agg #[.bool e1.n, .slice e1.u e1.nu e1.cu, .slice e1.l e1.nl e1.cl]) y) (h3 : QV w (.agg #[.bool d2.n, .slice d2.u d2.nu d2.cu, .slice d2.l d2.nl d2.cl]) z) (h4 : QV w (.agg #[.bool e2.n, .slice e2.u e2.nu e2.cu, .slice e2.l e2.nl e2.cl]) t) :
    Two W0 (.pointer (some ⟨w.heap.size + 1, 0, none⟩)) (.pointer (some ⟨w.heap.size, 0, none⟩)) ((w.alloc (.cells #[.bool d2.n, .slice d2.u d2.nu d2.cu, .slice d2.l d2.nl d2.cl, .bool e2.n, .slice e2.u e2.nu e2.cu, .slice e2.l e2.nl e2.cl] 86)).alloc (.cells #[.bool d1.n, .slice d1.u d1.nu d1.cu, .slice d1.l d1.nl d1.cl, .bool e1.n, .slice e1.u e1.nu e1.cu, .slice e1.l e1.nl e1.cl] 86)) x y z t := by
  obtain ⟨b0, k0, k1, hs⟩ := boxes2 w #[.bool d2.n, .slice d2.u d2.nu d2.cu, .slice d2.l d2.nl d2.cl, .bool e2.n, .slice e2.u e2.nu e2.cu, .slice e2.l e2.nl e2.cl] #[.bool d1.n, .slice d1.u d1.nu d1.cu, .slice d1.l d1.nl d1.cl, .bool e1.n, .slice e1.u e1.nu e1.cu, .slice e1.l e1.nl e1.cl] 86 86
  exact ⟨_, _, rfl, rfl, Nat.le_succ_of_le hb.size, hb.size, hb.trans (b0.mono hb.size), d1, e1, d2, e2, k1, k0, h1.below b0, h2.below b0, h3.below b0, h4.below b0⟩
theorem Two.half {W0 w : World} {G : Nat} {d1 e1 d2 e2 : C3} {x y z t : Rat} (hG : Blk w G #[.bool false, .slice none 0 0, .slice none 0 0, .bool false, .slice none 0 0, .slice none 0 0] 86) (hge : W0.heap.size ≤ G) (hb : Below W0.heap.size W0 w) (h1 : QV w (.agg #[.bool d1.n, .slice d1.u d1.nu d1.cu, .slice d1.l d1.nl d1.cl]) x) (h2 : QV w (.agg #[.bool e1.n, .slice e1.u e1.nu e1.cu, .slice e1.l e1.nl e1.cl]) y) (h3 : QV w (.agg #[.bool d2.n, .slice d2.u d2.nu d2.cu, .slice d2.l d2.nl d2.cl]) z) (h4 : QV w (.agg #[.bool e2.n, .slice e2.u e2.nu e2.cu, .slice e2.l e2.nl e2.cl]) t) :
    Two W0 (.pointer (some ⟨G, 0, none⟩)) (.pointer (some ⟨w.heap.size, 0, none⟩)) (((((((w.setCell ⟨G, 0, none⟩ (.bool d1.n)).setCell ⟨G, 1, none⟩ (.slice d1.u d1.nu d1.cu)).setCell ⟨G, 2, none⟩ (.slice d1.l d1.nl d1.cl)).setCell ⟨G, 3, none⟩ (.bool e1.n)).setCell ⟨G, 4, none⟩ (.slice e1.u e1.nu e1.cu)).setCell ⟨G, 5, none⟩ (.slice e1.l e1.nl e1.cl)).alloc (.cells #[.bool d2.n, .slice d2.u d2.nu d2.cu, .slice d2.l d2.nl d2.cl, .bool e2.n, .slice e2.u e2.nu e2.cu, .slice e2.l e2.nl e2.cl] 86)) x y z t := by
  have hst := Stays.put6 hG (nl6 _ _ _ _ _ _ _ _ _ _ _ _ _ _) (.bool d1.n) (.slice d1.u d1.nu d1.cu) (.slice d1.l d1.nl d1.cl) (.bool e1.n) (.slice e1.u e1.nu e1.cu) (.slice e1.l e1.nl e1.cl) rfl rfl rfl rfl rfl rfl
  have hs := hst.trans (Stays.of (below_new _ (.cells #[.bool d2.n, .slice d2.u d2.nu d2.cu, .slice d2.l d2.nl d2.cl, .bool e2.n, .slice e2.u e2.nu e2.cu, .slice e2.l e2.nl e2.cl] 86)))
  have hb1 := Below.put6 hb hge (.bool d1.n) (.slice d1.u d1.nu d1.cu) (.slice d1.l d1.nl d1.cl) (.bool e1.n) (.slice e1.u e1.nu e1.cu) (.slice e1.l e1.nl e1.cl)
  exact ⟨_, _, rfl, rfl, hge, hb.size, hb1.alloc hb1.size _, d1, e1, d2, e2, (hG.put6 (.bool d1.n) (.slice d1.u d1.nu d1.cu) (.slice d1.l d1.nl d1.cl) (.bool e1.n) (.slice e1.u e1.nu e1.cu) (.slice e1.l e1.nl e1.cl)).old _, Blk.newAt (size_put6 _ _ (.bool d1.n) (.slice d1.u d1.nu d1.cu) (.slice d1.l d1.nl d1.cl) (.bool e1.n) (.slice e1.u e1.nu e1.cu) (.slice e1.l e1.nl e1.cl)), hs.qv h1, hs.qv h2, hs.qv h3, hs.qv h4⟩
theorem Two.half' {W0 w : World} {G : Nat} {d1 e1 d2 e2 : C3} {x y z t : Rat} (hG : Blk w G #[.bool false, .slice none 0 0, .slice none 0 0, .bool false, .slice none 0 0, .slice none 0 0] 86) (hge : W0.heap.size ≤ G) (hb : Below W0.heap.size W0 w) (h1 : QV w (.agg #[.bool d1.n, .slice d1.u d1.nu d1.cu, .slice d1.l d1.nl d1.cl]) x) (h2 : QV w (.agg #[.bool e1.n, .slice e1.u e1.nu e1.cu, .slice e1.l e1.nl e1.cl]) y) (h3 : QV w (.agg #[.bool d2.n, .slice d2.u d2.nu d2.cu, .slice d2.l d2.nl d2.cl]) z) (h4 : QV w (.agg #[.bool e2.n, .slice e2.u e2.nu e2.cu, .slice e2.l e2.nl e2.cl]) t) :
    Two W0 (.pointer (some ⟨w.heap.size, 0, none⟩)) (.pointer (some ⟨G, 0, none⟩)) (((((((w.setCell ⟨G, 0, none⟩ (.bool d2.n)).setCell ⟨G, 1, none⟩ (.slice d2.u d2.nu d2.cu)).setCell ⟨G, 2, none⟩ (.slice d2.l d2.nl d2.cl)).setCell ⟨G, 3, none⟩ (.bool e2.n)).setCell ⟨G, 4, none⟩ (.slice e2.u e2.nu e2.cu)).setCell ⟨G, 5, none⟩ (.slice e2.l e2.nl e2.cl)).alloc (.cells #[.bool d1.n, .slice d1.u d1.nu d1.cu, .slice d1.l d1.nl d1.cl, .bool e1.n, .slice e1.u e1.nu e1.cu, .slice e1.l e1.nl e1.cl] 86)) x y z t := by
  have hst := Stays.put6 hG (nl6 _ _ _ _ _ _ _ _ _ _ _ _ _ _) (.bool d2.n) (.slice d2.u d2.nu d2.cu) (.slice d2.l d2.nl d2.cl) (.bool e2.n) (.slice e2.u e2.nu e2.cu) (.slice e2.l e2.nl e2.cl) rfl rfl rfl rfl rfl rfl
  have hs := hst.trans (Stays.of (below_new _ (.cells #[.bool d1.n, .slice d1.u d1.nu d1.cu, .slice d1.l d1.nl d1.cl, .bool e1.n, .slice e1.u e1.nu e1.cu, .slice e1.l e1.nl e1.cl] 86)))
  have hb1 := Below.put6 hb hge (.bool d2.n) (.slice d2.u d2.nu d2.cu) (.slice d2.l d2.nl d2.cl) (.bool e2.n) (.slice e2.u e2.nu e2.cu) (.slice e2.l e2.nl e2.cl)
  exact ⟨_, _, rfl, rfl, hb.size, hge, hb1.alloc hb1.size _, d1, e1, d2, e2, Blk.newAt (size_put6 _ _ (.bool d2.n) (.slice d2.u d2.nu d2.cu) (.slice d2.l d2.nl d2.cl) (.bool e2.n) (.slice e2.u e2.nu e2.cu) (.slice e2.l e2.nl e2.cl)), (hG.put6 (.bool d2.n) (.slice d2.u d2.nu d2.cu) (.slice d2.l d2.nl d2.cl) (.bool e2.n) (.slice e2.u e2.nu e2.cu) (.slice e2.l e2.nl e2.cl)).old _, hs.qv h1, hs.qv h2, hs.qv h3, hs.qv h4⟩
theorem Two.both {W0 w : World} {G H : Nat} {d1 e1 d2 e2 : C3} {x y z t : Rat} (hG : Blk w G #[.bool false, .slice none 0 0, .slice none 0 0, .bool false, .slice none 0 0, .slice none 0 0] 86) (hH : Blk w H #[.bool false, .slice none 0 0, .slice none 0 0, .bool false, .slice none 0 0, .slice none 0 0] 86) (hne : G ≠ H) (hge : W0.heap.size ≤ G) (hhe : W0.heap.size ≤ H) (hb : Below W0.heap.size W0 w) (h1 : QV w (.agg #[.bool d1.n, .slice d1.u d1.nu d1.cu, .slice d1.l d1.nl d1.cl]) x) (h2 : QV w (.agg #[.bool e1.n, .slice e1.u e1.nu e1.cu, .slice e1.l e1.nl e1.cl]) y) (h3 : QV w (.agg #[.bool d2.n, .slice d2.u d2.nu d2.cu, .slice d2.l d2.nl d2.cl]) z) (h4 : QV w (.agg #[.bool e2.n, .slice e2.u e2.nu e2.cu, .slice e2.l e2.nl e2.cl]) t) :
    Two W0 (.pointer (some ⟨G, 0, none⟩)) (.pointer (some ⟨H, 0, none⟩)) ((((((((((((w.setCell ⟨G, 0, none⟩ (.bool d1.n)).setCell ⟨G, 1, none⟩ (.slice d1.u d1.nu d1.cu)).setCell ⟨G, 2, none⟩ (.slice d1.l d1.nl d1.cl)).setCell ⟨G, 3, none⟩ (.bool e1.n)).setCell ⟨G, 4, none⟩ (.slice e1.u e1.nu e1.cu)).setCell ⟨G, 5, none⟩ (.slice e1.l e1.nl e1.cl)).setCell ⟨H, 0, none⟩ (.bool d2.n)).setCell ⟨H, 1, none⟩ (.slice d2.u d2.nu d2.cu)).setCell ⟨H, 2, none⟩ (.slice d2.l d2.nl d2.cl)).setCell ⟨H, 3, none⟩ (.bool e2.n)).setCell ⟨H, 4, none⟩ (.slice e2.u e2.nu e2.cu)).setCell ⟨H, 5, none⟩ (.slice e2.l e2.nl e2.cl)) x y z t := by
  have hst := Stays.put6 hG (nl6 _ _ _ _ _ _ _ _ _ _ _ _ _ _) (.bool d1.n) (.slice d1.u d1.nu d1.cu) (.slice d1.l d1.nl d1.cl) (.bool e1.n) (.slice e1.u e1.nu e1.cu) (.slice e1.l e1.nl e1.cl) rfl rfl rfl rfl rfl rfl
  have hH1 := hH.off6 (g := G) hne (.bool d1.n) (.slice d1.u d1.nu d1.cu) (.slice d1.l d1.nl d1.cl) (.bool e1.n) (.slice e1.u e1.nu e1.cu) (.slice e1.l e1.nl e1.cl)
  have hst2 := Stays.put6 hH1 (nl6 _ _ _ _ _ _ _ _ _ _ _ _ _ _) (.bool d2.n) (.slice d2.u d2.nu d2.cu) (.slice d2.l d2.nl d2.cl) (.bool e2.n) (.slice e2.u e2.nu e2.cu) (.slice e2.l e2.nl e2.cl) rfl rfl rfl rfl rfl rfl
  have hs := hst.trans hst2
  have hb1 := Below.put6 hb hge (.bool d1.n) (.slice d1.u d1.nu d1.cu) (.slice d1.l d1.nl d1.cl) (.bool e1.n) (.slice e1.u e1.nu e1.cu) (.slice e1.l e1.nl e1.cl)
  exact ⟨_, _, rfl, rfl, hge, hhe, Below.put6 hb1 hhe (.bool d2.n) (.slice d2.u d2.nu d2.cu) (.slice d2.l d2.nl d2.cl) (.bool e2.n) (.slice e2.u e2.nu e2.cu) (.slice e2.l e2.nl e2.cl), d1, e1, d2, e2, (hG.put6 (.bool d1.n) (.slice d1.u d1.nu d1.cu) (.slice d1.l d1.nl d1.cl) (.bool e1.n) (.slice e1.u e1.nu e1.cu) (.slice e1.l e1.nl e1.cl)).off6 hne.symm (.bool d2.n) (.slice d2.u d2.nu d2.cu) (.slice d2.l d2.nl d2.cl) (.bool e2.n) (.slice e2.u e2.nu e2.cu) (.slice e2.l e2.nl e2.cl), hH1.put6 (.bool d2.n) (.slice d2.u d2.nu d2.cu) (.slice d2.l d2.nl d2.cl) (.bool e2.n) (.slice e2.u e2.nu e2.cu) (.slice e2.l e2.nl e2.cl), hs.qv h1, hs.qv h2, hs.qv h3, hs.qv h4⟩
def One (W0 : World) (p : Value) (wc : World) (x y : Rat) : Prop :=
  ∃ G, p = .pointer (some ⟨G, 0, none⟩) ∧ W0.heap.size ≤ G ∧ Below W0.heap.size W0 wc ∧ ∃ d e : C3, Blk wc G #[.bool d.n, .slice d.u d.nu d.cu, .slice d.l d.nl d.cl, .bool e.n, .slice e.u e.nu e.cu, .slice e.l e.nl e.cl] 86 ∧ QV wc (.agg #[.bool d.n, .slice d.u d.nu d.cu, .slice d.l d.nl d.cl]) x ∧ QV wc (.agg #[.bool e.n, .slice e.u e.nu e.cu, .slice e.l e.nl e.cl]) y
theorem One.new {W0 w : World} {d1 e1 : C3} {x y : Rat} (hb : Below W0.heap.size W0 w) (h1 : QV w (.agg #[.bool d1.n, .slice d1.u d1.nu d1.cu, .slice d1.l d1.nl d1.cl]) x) (h2 : QV w (.agg #[.bool e1.n, .slice e1.u e1.nu e1.cu, .slice e1.l e1.nl e1.cl]) y) :
    One W0 (.pointer (some ⟨w.heap.size, 0, none⟩)) (w.alloc (.cells #[.bool d1.n, .slice d1.u d1.nu d1.cu, .slice d1.l d1.nl d1.cl, .bool e1.n, .slice e1.u e1.nu e1.cu, .slice e1.l e1.nl e1.cl] 86)) x y :=
  ⟨_, rfl, hb.size, hb.alloc hb.size _, d1, e1, Blk.new _ _ _, h1.below (below_new _ _), h2.below (below_new _ _)⟩
theorem One.old {W0 w : World} {G : Nat} {d1 e1 : C3} {x y : Rat} (hG : Blk w G #[.bool false, .slice none 0 0, .slice none 0 0, .bool false, .slice none 0 0, .slice none 0 0] 86) (hge : W0.heap.size ≤ G) (hb : Below W0.heap.size W0 w) (h1 : QV w (.agg #[.bool d1.n, .slice d1.u d1.nu d1.cu, .slice d1.l d1.nl d1.cl]) x) (h2 : QV w (.agg #[.bool e1.n, .slice e1.u e1.nu e1.cu, .slice e1.l e1.nl e1.cl]) y) :
    One W0 (.pointer (some ⟨G, 0, none⟩)) ((((((w.setCell ⟨G, 0, none⟩ (.bool d1.n)).setCell ⟨G, 1, none⟩ (.slice d1.u d1.nu d1.cu)).setCell ⟨G, 2, none⟩ (.slice d1.l d1.nl d1.cl)).setCell ⟨G, 3, none⟩ (.bool e1.n)).setCell ⟨G, 4, none⟩ (.slice e1.u e1.nu e1.cu)).setCell ⟨G, 5, none⟩ (.slice e1.l e1.nl e1.cl)) x y := by
  have hst := Stays.put6 hG (nl6 _ _ _ _ _ _ _ _ _ _ _ _ _ _) (.bool d1.n) (.slice d1.u d1.nu d1.cu) (.slice d1.l d1.nl d1.cl) (.bool e1.n) (.slice e1.u e1.nu e1.cu) (.slice e1.l e1.nl e1.cl) rfl rfl rfl rfl rfl rfl
  exact ⟨_, rfl, hge, Below.put6 hb hge (.bool d1.n) (.slice d1.u d1.nu d1.cu) (.slice d1.l d1.nl d1.cl) (.bool e1.n) (.slice e1.u e1.nu e1.cu) (.slice e1.l e1.nl e1.cl), d1, e1, hG.put6 (.bool d1.n) (.slice d1.u d1.nu d1.cu) (.slice d1.l d1.nl d1.cl) (.bool e1.n) (.slice e1.u e1.nu e1.cu) (.slice e1.l e1.nl e1.cl), hst.qv h1, hst.qv h2⟩
end Go.Proofs.YtgajdmadbdbabaaGreatDoor
/- WI -/
namespace Go.Proofs.YtgajdmadbdbabaaGreatDoor
open Go.RowKit Cx
attribute [local go_sem ↓] Go.wp_at_zero Go.wp_at_succ
def WRow (w : World) (v : Value) (ps : List (Rat × Rat)) : Prop :=
  ∃ b off cap, v = .slice (some ⟨b, off, none⟩) ps.length cap ∧ b < w.heap.size ∧ ∀ (j : Nat) (hj : j < ps.length), ∃ c d : C3,
    w.cell? ⟨b, off + j * 6, none⟩ = some (.bool c.n) ∧ w.cell? ⟨b, off + j * 6 + 1, none⟩ = some (.slice c.u c.nu c.cu) ∧ w.cell? ⟨b, off + j * 6 + 2, none⟩ = some (.slice c.l c.nl c.cl) ∧ w.cell? ⟨b, off + j * 6 + 3, none⟩ = some (.bool d.n) ∧ w.cell? ⟨b, off + j * 6 + 4, none⟩ = some (.slice d.u d.nu d.cu) ∧ w.cell? ⟨b, off + j * 6 + 5, none⟩ = some (.slice d.l d.nl d.cl) ∧ QV w (.agg #[.bool c.n, .slice c.u c.nu c.cu, .slice c.l c.nl c.cl]) (ps[j]'hj).1 ∧ QV w (.agg #[.bool d.n, .slice d.u d.nu d.cu, .slice d.l d.nl d.cl]) (ps[j]'hj).2
theorem wrow_idx {b off n cap k : Nat} (hk : k < n) (wx : World) : (Instr.indexAt 136 (.slice (some ⟨b, off, none⟩) n cap) (.int .i64 k)).run Tryz.prog wx = .ok (.pointer (some ⟨b, off + k * 6, none⟩)) wx := by
  have he : Tryz.prog.elem 136 = 86 := by simp [Program.elem, Tryz.underlying136]
  rw [run_indexAt_slice (h := by rw [he]; exact Tryz.underlying136), if_pos (by omega), he, Tryz.sizeOf86]
  simp [Result.andThen, Addr.add]
theorem waySum_walk {w : World} {b off cap : Nat} {ps : List (Rat × Rat)} (h : WRow w (.slice (some ⟨b, off, none⟩) ps.length cap) ps) {K : Nat} (f : ∀ p ∈ ps.map Prod.fst, QS K p) (f2 : ∀ p ∈ ps.map Prod.snd, QS K p) (hn : ps.length ≤ 1000000) (hk : ps.length * (K + 1) + 1 ≤ 35184372088640) :
    Calls Tryz.prog 66 #[.slice (some ⟨b, off, none⟩) ps.length cap] w fun e w' => Below w.heap.size w w' ∧ ∃ v, e = .returned v ∧ WV w' v (rsum (ps.map Prod.fst)) (rsum (ps.map Prod.snd)) := by
  obtain ⟨hb0, hk0, hk1, hsz⟩ := boxes2 w #[.bool false, .slice none 0 0, .slice none 0 0, .bool false, .slice none 0 0, .slice none 0 0] #[.bool false, .slice none 0 0, .slice none 0 0, .bool false, .slice none 0 0, .slice none 0 0] 86 86
  have HB0 := hideIt hb0
  have HSZ := hideIt hsz
  have HK0 := hideIt hk0
  have HK1 := hideIt hk1
  have HR := hideIt h
  have F := hideIt f
  have F2 := hideIt f2
  have HK := hideIt hk
  clear hb0 hsz hk0 hk1 h f f2 hk
  go_enter Tryz.func66, Tryz.ntmps66
  go_wp2
  generalize ((w.alloc (.cells #[.bool false, .slice none 0 0, .slice none 0 0, .bool false, .slice none 0 0, .slice none 0 0] 86)).alloc (.cells #[.bool false, .slice none 0 0, .slice none 0 0, .bool false, .slice none 0 0, .slice none 0 0] 86)) = W0 at *
  go_loopw [8] (fun i wr => ∃ k : Nat, k ≤ ps.length ∧ i = .int .i64 (k : Int) ∧ Blk wr w.heap.size #[.bool false, .slice none 0 0, .slice none 0 0, .bool false, .slice none 0 0, .slice none 0 0] 86 ∧ Below w.heap.size w wr ∧ ∃ c d : C3, Blk wr (w.heap.size + 1) #[.bool c.n, .slice c.u c.nu c.cu, .slice c.l c.nl c.cl, .bool d.n, .slice d.u d.nu d.cu, .slice d.l d.nl d.cl] 86 ∧ QV wr (.agg #[.bool c.n, .slice c.u c.nu c.cu, .slice c.l c.nl c.cl]) (rsum ((ps.map Prod.fst).take k)) ∧ QV wr (.agg #[.bool d.n, .slice d.u d.nu d.cu, .slice d.l d.nl d.cl]) (rsum ((ps.map Prod.snd).take k))) (fun i _ => ps.length - (intOf i).toNat)
  case atStart =>
    refine ⟨0, Nat.zero_le _, rfl, HK0.out, HB0.out, ⟨false, none, 0, 0, none, 0, 0⟩, ⟨false, none, 0, 0, none, 0, 0⟩, HK1.out, ?_, ?_⟩
    · rw [List.take_zero]; exact qv_zero0 _
    · rw [List.take_zero]; exact qv_zero0 _
  case round =>
    obtain ⟨k, hkl, rfl, hk0, hbel, c, d, hk1, hq, hp⟩ := hrel
    have HQ := hideIt hq
    have HP := hideIt hp
    have HK0' := hideIt hk0
    have HK1' := hideIt hk1
    have hlt1 := hideIt hk1.lt
    have hsz' := hideIt hbel.size
    obtain ⟨y0, y1, y2, y3, y4, y5, g0, g1, g2, g3, g4, g5⟩ := hk1.all6
    obtain ⟨x0, x1, x2, x3, x4, x5, e0, e1, e2, e3, e4, e5⟩ := hk0.all6
    clear hq hp hk0 hk1
    by_cases hend : k = ps.length
    · subst hend
      go_wp2
      obtain ⟨r0, r1, r2, r3, r4, r5, _⟩ := (HK0'.out.put6 (.bool c.n) (.slice c.u c.nu c.cu) (.slice c.l c.nl c.cl) (.bool d.n) (.slice d.u d.nu d.cu) (.slice d.l d.nl d.cl)).all6
      refine bodyPost_ret (v := .agg #[.bool c.n, .slice c.u c.nu c.cu, .slice c.l c.nl c.cl, .bool d.n, .slice d.u d.nu d.cu, .slice d.l d.nl d.cl]) (by simp [results, Tryz.results66, go_sem, r0, r1, r2, r3, r4, r5]) rfl ⟨Below.put6 hbel (Nat.le_refl _) _ _ _ _ _ _, _, rfl, ?_⟩
      have hst := Stays.put6 HK0'.out (by simp [notLimb]) (.bool c.n) (.slice c.u c.nu c.cu) (.slice c.l c.nl c.cl) (.bool d.n) (.slice d.u d.nu d.cu) (.slice d.l d.nl d.cl) rfl rfl rfl rfl rfl rfl
      have h1 := hst.qv HQ.out
      have h2 := hst.qv HP.out
      rw [List.take_of_length_le (by simp)] at h1 h2
      exact ⟨c, d, rfl, h1, h2⟩
    · have hlt : k < ps.length := by omega
      have hidx := wrow_idx (b := b) (off := off) (cap := cap) hlt
      obtain ⟨b', off', cap', e, hbl, hcells⟩ := HR.out
      cases e
      obtain ⟨u, v, d0, d1, d2, d3, d4, d5, hu, hv⟩ := hcells k hlt
      have HU := hideIt (hu.below hbel)
      have HV := hideIt (hv.below hbel)
      have z0 := (hbel.cell (p := ⟨b, off + k * 6, none⟩) hbl).trans d0
      have z1 := (hbel.cell (p := ⟨b, off + k * 6 + 1, none⟩) hbl).trans d1
      have z2 := (hbel.cell (p := ⟨b, off + k * 6 + 2, none⟩) hbl).trans d2
      have z3 := (hbel.cell (p := ⟨b, off + k * 6 + 3, none⟩) hbl).trans d3
      have z4 := (hbel.cell (p := ⟨b, off + k * 6 + 4, none⟩) hbl).trans d4
      have z5 := (hbel.cell (p := ⟨b, off + k * 6 + 5, none⟩) hbl).trans d5
      have FS := hideIt (QS.rsum F.out k)
      have FS2 := hideIt (QS.rsum F2.out k)
      have FQ : Hid (QS K (ps[k]'hlt).1) := F.out _ (List.mem_map_of_mem (List.getElem_mem hlt))
      have FQ2 : Hid (QS K (ps[k]'hlt).2) := F2.out _ (List.mem_map_of_mem (List.getElem_mem hlt))
      have HKK : Hid (k * (K + 1) + 1 + K + 1 ≤ 35184372088640) := by
        have h1 := HK.out
        have h2 : (k + 1) * (K + 1) ≤ ps.length * (K + 1) := Nat.mul_le_mul_right _ hlt
        rw [Nat.succ_mul] at h2
        show _ ≤ _
        omega
      clear d0 d1 d2 d3 d4 d5 hu hv hcells
      have ha : ∀ o, Blk (wr.alloc o) (w.heap.size + 1) #[.bool c.n, .slice c.u c.nu c.cu, .slice c.l c.nl c.cl, .bool d.n, .slice d.u d.nu d.cu, .slice d.l d.nl d.cl] 86 := fun o => HK1'.out.below (below_new wr o) hlt1.out
      have a0 : ∀ o, (wr.alloc o).cell? ⟨w.heap.size + 1, 0, none⟩ = some (.bool c.n) := fun o => (ha o).cell 0
      have a1 : ∀ o, (wr.alloc o).cell? ⟨w.heap.size + 1, 1, none⟩ = some (.slice c.u c.nu c.cu) := fun o => (ha o).cell 1
      have a2 : ∀ o, (wr.alloc o).cell? ⟨w.heap.size + 1, 2, none⟩ = some (.slice c.l c.nl c.cl) := fun o => (ha o).cell 2
      have a3 : ∀ o, (wr.alloc o).cell? ⟨w.heap.size + 1, 3, none⟩ = some (.bool d.n) := fun o => (ha o).cell 3
      have a4 : ∀ o, (wr.alloc o).cell? ⟨w.heap.size + 1, 4, none⟩ = some (.slice d.u d.nu d.cu) := fun o => (ha o).cell 4
      have a5 : ∀ o, (wr.alloc o).cell? ⟨w.heap.size + 1, 5, none⟩ = some (.slice d.l d.nl d.cl) := fun o => (ha o).cell 5
      clear ha
      go_wp2_with fail
      have hbn := below_new wr (.cells #[.bool u.n, .slice u.u u.nu u.cu, .slice u.l u.nl u.cl, .bool v.n, .slice v.u v.nu v.cu, .slice v.l v.nl v.cl] 86)
      refine (wayPlus_calls ⟨c, d, rfl, HQ.out.below hbn, HP.out.below hbn⟩ ⟨u, v, rfl, HU.out.below hbn, HV.out.below hbn⟩ FS.out FS2.out FQ.out FQ2.out HKK.out).mono ?_
      rintro e w2 ⟨hb2, v2, rfl, hv2⟩
      obtain ⟨d2, e2, rfl, hx2, hy2⟩ := hv2
      have hbw := hbn.trans (hb2.mono hbn.size)
      have hk2 := HK1'.out.below hbw hlt1.out
      have hkr := HK0'.out.below hbw (by have := hlt1.out; omega)
      obtain ⟨y0, y1, y2, y3, y4, y5, g0, g1, g2, g3, g4, g5⟩ := hk2.all6
      have HX2 := hideIt hx2
      have HY2 := hideIt hy2
      clear hx2 hy2 a0 a1 a2 a3 a4 a5 z0 z1 z2 z3 z4 z5
      go_wp2
      go_roundw
      case rel =>
        have hst := Stays.put6 hk2 (by simp [notLimb]) (.bool d2.n) (.slice d2.u d2.nu d2.cu) (.slice d2.l d2.nl d2.cl) (.bool e2.n) (.slice e2.u e2.nu e2.cu) (.slice e2.l e2.nl e2.cl) rfl rfl rfl rfl rfl rfl
        refine ⟨k + 1, hlt, by go_num, ?_, ?_, d2, e2, hk2.put6 _ _ _ _ _ _, ?_, ?_⟩
        · exact hkr.off6 (by omega) _ _ _ _ _ _
        · exact Below.put6 (hbel.trans (hbw.mono hsz'.out)) (by omega) _ _ _ _ _ _
        · rw [rsum_take (by simpa using hlt), List.getElem_map]
          exact hst.qv HX2.out
        · rw [rsum_take (by simpa using hlt), List.getElem_map]
          exact hst.qv HY2.out
      case measure => simp [intOf]; omega
theorem waySum_calls {w : World} {v : Value} {ps : List (Rat × Rat)} (h : WRow w v ps) {K : Nat} (f : ∀ p ∈ ps.map Prod.fst, QS K p) (f2 : ∀ p ∈ ps.map Prod.snd, QS K p) (hn : ps.length ≤ 1000000) (hk : ps.length * (K + 1) + 1 ≤ 35184372088640) :
    Calls Tryz.prog 66 #[v] w fun e w' => Below w.heap.size w w' ∧ ∃ v', e = .returned v' ∧ WV w' v' (rsum (ps.map Prod.fst)) (rsum (ps.map Prod.snd)) := by
  have h' := h
  obtain ⟨b, off, cap, rfl, _⟩ := h
  exact waySum_walk h' f f2 hn hk
theorem wrow2 {w : World} {a b c d : C3} {x y z t : Rat} (h0 : QV w (.agg #[.bool a.n, .slice a.u a.nu a.cu, .slice a.l a.nl a.cl]) x) (h1 : QV w (.agg #[.bool b.n, .slice b.u b.nu b.cu, .slice b.l b.nl b.cl]) y) (h2 : QV w (.agg #[.bool c.n, .slice c.u c.nu c.cu, .slice c.l c.nl c.cl]) z) (h3 : QV w (.agg #[.bool d.n, .slice d.u d.nu d.cu, .slice d.l d.nl d.cl]) t) :
    WRow (w.alloc (.cells #[.bool a.n, .slice a.u a.nu a.cu, .slice a.l a.nl a.cl, .bool b.n, .slice b.u b.nu b.cu, .slice b.l b.nl b.cl, .bool c.n, .slice c.u c.nu c.cu, .slice c.l c.nl c.cl, .bool d.n, .slice d.u d.nu d.cu, .slice d.l d.nl d.cl] 86)) (.slice (some ⟨w.heap.size, 0, none⟩) 2 2) [(x, y), (z, t)] := by
  have hb := below_new w (.cells #[.bool a.n, .slice a.u a.nu a.cu, .slice a.l a.nl a.cl, .bool b.n, .slice b.u b.nu b.cu, .slice b.l b.nl b.cl, .bool c.n, .slice c.u c.nu c.cu, .slice c.l c.nl c.cl, .bool d.n, .slice d.u d.nu d.cu, .slice d.l d.nl d.cl] 86)
  have hk := Blk.new w #[.bool a.n, .slice a.u a.nu a.cu, .slice a.l a.nl a.cl, .bool b.n, .slice b.u b.nu b.cu, .slice b.l b.nl b.cl, .bool c.n, .slice c.u c.nu c.cu, .slice c.l c.nl c.cl, .bool d.n, .slice d.u d.nu d.cu, .slice d.l d.nl d.cl] 86
  refine ⟨w.heap.size, 0, 2, rfl, hk.lt, fun j hj => ?_⟩
  match j, hj with
  | 0, _ => exact ⟨a, b, hk.cell 0, hk.cell 1, hk.cell 2, hk.cell 3, hk.cell 4, hk.cell 5, h0.below hb, h1.below hb⟩
  | 1, _ => exact ⟨c, d, hk.cell 6, hk.cell 7, hk.cell 8, hk.cell 9, hk.cell 10, hk.cell 11, h2.below hb, h3.below hb⟩
  | j + 2, hj => simp at hj; omega
end Go.Proofs.YtgajdmadbdbabaaGreatDoor
/- WJ -/
namespace Go.Proofs.YtgajdmadbdbabaaGreatDoor
open Go.RowKit Cx
attribute [local go_sem ↓] Go.wp_at_zero Go.wp_at_succ
theorem QS.div {k l : Nat} {a b : Rat} (h1 : QS k a) (h2 : QS l b) : QS (k + l) (a / b) := by
  rw [Rat.div_def]
  by_cases h0 : b.num = 0
  · rw [Rat.num_eq_zero.1 h0, Rat.inv_zero, Rat.mul_zero]
    exact QS.zero.mono (by have := h1.pos; omega)
  · exact h1.mul (h2.inv h0)
theorem lineDrop_walk {w : World} {cax cay caz cbx cbz : C3} {ax ay az bx bz : Rat} (hax : QV w (.agg #[.bool cax.n, .slice cax.u cax.nu cax.cu, .slice cax.l cax.nl cax.cl]) ax) (hay : QV w (.agg #[.bool cay.n, .slice cay.u cay.nu cay.cu, .slice cay.l cay.nl cay.cl]) ay) (haz : QV w (.agg #[.bool caz.n, .slice caz.u caz.nu caz.cu, .slice caz.l caz.nl caz.cl]) az) (hbx : QV w (.agg #[.bool cbx.n, .slice cbx.u cbx.nu cbx.cu, .slice cbx.l cbx.nl cbx.cl]) bx) (hbz : QV w (.agg #[.bool cbz.n, .slice cbz.u cbz.nu cbz.cu, .slice cbz.l cbz.nl cbz.cl]) bz) {k l : Nat} (f1 : QS k ax) (f2 : QS k ay) (f5 : QS k az) (f3 : QS l bx) (f4 : QS l bz) (hk : 30 * (k + l + 1) ≤ 35184372088640) :
    Calls Tryz.prog 117 #[.agg #[.bool cax.n, .slice cax.u cax.nu cax.cu, .slice cax.l cax.nl cax.cl, .bool cay.n, .slice cay.u cay.nu cay.cu, .slice cay.l cay.nl cay.cl, .bool caz.n, .slice caz.u caz.nu caz.cu, .slice caz.l caz.nl caz.cl], .agg #[.bool cbx.n, .slice cbx.u cbx.nu cbx.cu, .slice cbx.l cbx.nl cbx.cl, .bool cbz.n, .slice cbz.u cbz.nu cbz.cu, .slice cbz.l cbz.nl cbz.cl]] w fun e w' => Below w.heap.size w w' ∧ ∃ v, e = .returned v ∧ WV w' v (ax * -(ax * bx + ay * bz + az) / (ax * ax + ay * ay)) (ay * -(ax * bx + ay * bz + az) / (ax * ax + ay * ay)) := by
  obtain ⟨hb0, hk0, hk1, hk2, hsz⟩ := boxes3 w #[.bool cax.n, .slice cax.u cax.nu cax.cu, .slice cax.l cax.nl cax.cl, .bool cay.n, .slice cay.u cay.nu cay.cu, .slice cay.l cay.nl cay.cl, .bool caz.n, .slice caz.u caz.nu caz.cu, .slice caz.l caz.nl caz.cl] #[.bool cbx.n, .slice cbx.u cbx.nu cbx.cu, .slice cbx.l cbx.nl cbx.cl, .bool cbz.n, .slice cbz.u cbz.nu cbz.cu, .slice cbz.l cbz.nl cbz.cl] #[.bool false, .slice none 0 0, .slice none 0 0, .bool false, .slice none 0 0, .slice none 0 0] 97 86 86
  have HB0 := hideIt hb0
  have HSZ := hideIt hsz
  have HK0 := hideIt hk0
  have HK1 := hideIt hk1
  have HK2 := hideIt hk2
  have Hax := hideIt (hax.below hb0)
  have Hay := hideIt (hay.below hb0)
  have Haz := hideIt (haz.below hb0)
  have Hbx := hideIt (hbx.below hb0)
  have Hbz := hideIt (hbz.below hb0)
  have F1 := hideIt f1
  have F2 := hideIt f2
  have F3 := hideIt f3
  have F4 := hideIt f4
  have F5 := hideIt f5
  have HK := hideIt hk
  clear hb0 hsz hk0 hk1 hk2 hax hay haz hbx hbz f1 f2 f3 f4 f5 hk
  have K1 : Hid (3 * (k + l + 1) + 1 ≤ 35184372088640) := by have := HK.out; show _ ≤ _; omega
  have FV : Hid (QS (k + l + (k + l) + 1 + k + 1) (-(ax * bx + ay * bz + az))) := (((F1.out.mul F3.out).add (F2.out.mul F4.out)).add F5.out).neg
  have K2 : Hid (k + (k + l + (k + l) + 1 + k + 1) + 1 ≤ 35184372088640) := by have := HK.out; show _ ≤ _; omega
  have K3 : Hid (2 * (k + k + 1) + 1 ≤ 35184372088640) := by have := HK.out; show _ ≤ _; omega
  have K4 : Hid (k + (k + l + (k + l) + 1 + k + 1) + (k + k + (k + k) + 1) + 1 ≤ 35184372088640) := by have := HK.out; show _ ≤ _; omega
  go_enter Tryz.func117, Tryz.ntmps117
  go_wp2_with fail
  generalize (((w.alloc (.cells #[.bool cax.n, .slice cax.u cax.nu cax.cu, .slice cax.l cax.nl cax.cl, .bool cay.n, .slice cay.u cay.nu cay.cu, .slice cay.l cay.nl cay.cl, .bool caz.n, .slice caz.u caz.nu caz.cu, .slice caz.l caz.nl caz.cl] 97)).alloc (.cells #[.bool cbx.n, .slice cbx.u cbx.nu cbx.cu, .slice cbx.l cbx.nl cbx.cl, .bool cbz.n, .slice cbz.u cbz.nu cbz.cu, .slice cbz.l cbz.nl cbz.cl] 86)).alloc (.cells #[.bool false, .slice none 0 0, .slice none 0 0, .bool false, .slice none 0 0, .slice none 0 0] 86)) = W0 at *
  have HS : Hid (∀ w', Below W0.heap.size W0 w' → w'.cell? ⟨w.heap.size, 0, none⟩ = some (.bool cax.n) ∧ w'.cell? ⟨w.heap.size, 1, none⟩ = some (.slice cax.u cax.nu cax.cu) ∧ w'.cell? ⟨w.heap.size, 2, none⟩ = some (.slice cax.l cax.nl cax.cl) ∧ w'.cell? ⟨w.heap.size, 3, none⟩ = some (.bool cay.n) ∧ w'.cell? ⟨w.heap.size, 4, none⟩ = some (.slice cay.u cay.nu cay.cu) ∧ w'.cell? ⟨w.heap.size, 5, none⟩ = some (.slice cay.l cay.nl cay.cl) ∧ w'.cell? ⟨w.heap.size, 6, none⟩ = some (.bool caz.n) ∧ w'.cell? ⟨w.heap.size, 7, none⟩ = some (.slice caz.u caz.nu caz.cu) ∧ w'.cell? ⟨w.heap.size, 8, none⟩ = some (.slice caz.l caz.nl caz.cl) ∧ w'.cell? ⟨w.heap.size + 1, 0, none⟩ = some (.bool cbx.n) ∧ w'.cell? ⟨w.heap.size + 1, 1, none⟩ = some (.slice cbx.u cbx.nu cbx.cu) ∧ w'.cell? ⟨w.heap.size + 1, 2, none⟩ = some (.slice cbx.l cbx.nl cbx.cl) ∧ w'.cell? ⟨w.heap.size + 1, 3, none⟩ = some (.bool cbz.n) ∧ w'.cell? ⟨w.heap.size + 1, 4, none⟩ = some (.slice cbz.u cbz.nu cbz.cu) ∧ w'.cell? ⟨w.heap.size + 1, 5, none⟩ = some (.slice cbz.l cbz.nl cbz.cl)) := fun w' hb => ⟨(HK0.out.below hb (by rw [HSZ.out]; omega)).cell 0, (HK0.out.below hb (by rw [HSZ.out]; omega)).cell 1, (HK0.out.below hb (by rw [HSZ.out]; omega)).cell 2, (HK0.out.below hb (by rw [HSZ.out]; omega)).cell 3, (HK0.out.below hb (by rw [HSZ.out]; omega)).cell 4, (HK0.out.below hb (by rw [HSZ.out]; omega)).cell 5, (HK0.out.below hb (by rw [HSZ.out]; omega)).cell 6, (HK0.out.below hb (by rw [HSZ.out]; omega)).cell 7, (HK0.out.below hb (by rw [HSZ.out]; omega)).cell 8, (HK1.out.below hb (by rw [HSZ.out]; omega)).cell 0, (HK1.out.below hb (by rw [HSZ.out]; omega)).cell 1, (HK1.out.below hb (by rw [HSZ.out]; omega)).cell 2, (HK1.out.below hb (by rw [HSZ.out]; omega)).cell 3, (HK1.out.below hb (by rw [HSZ.out]; omega)).cell 4, (HK1.out.below hb (by rw [HSZ.out]; omega)).cell 5⟩
  have HSS : Hid (∀ w', Below W0.heap.size W0 w' → ∀ x0 x1 x2 x3 x4 x5 : Value, ((((((w'.setCell ⟨w.heap.size + 1 + 1, 0, none⟩ (x0)).setCell ⟨w.heap.size + 1 + 1, 1, none⟩ (x1)).setCell ⟨w.heap.size + 1 + 1, 2, none⟩ (x2)).setCell ⟨w.heap.size + 1 + 1, 3, none⟩ (x3)).setCell ⟨w.heap.size + 1 + 1, 4, none⟩ (x4)).setCell ⟨w.heap.size + 1 + 1, 5, none⟩ (x5)).cell? ⟨w.heap.size, 0, none⟩ = some (.bool cax.n) ∧ ((((((w'.setCell ⟨w.heap.size + 1 + 1, 0, none⟩ (x0)).setCell ⟨w.heap.size + 1 + 1, 1, none⟩ (x1)).setCell ⟨w.heap.size + 1 + 1, 2, none⟩ (x2)).setCell ⟨w.heap.size + 1 + 1, 3, none⟩ (x3)).setCell ⟨w.heap.size + 1 + 1, 4, none⟩ (x4)).setCell ⟨w.heap.size + 1 + 1, 5, none⟩ (x5)).cell? ⟨w.heap.size, 1, none⟩ = some (.slice cax.u cax.nu cax.cu) ∧ ((((((w'.setCell ⟨w.heap.size + 1 + 1, 0, none⟩ (x0)).setCell ⟨w.heap.size + 1 + 1, 1, none⟩ (x1)).setCell ⟨w.heap.size + 1 + 1, 2, none⟩ (x2)).setCell ⟨w.heap.size + 1 + 1, 3, none⟩ (x3)).setCell ⟨w.heap.size + 1 + 1, 4, none⟩ (x4)).setCell ⟨w.heap.size + 1 + 1, 5, none⟩ (x5)).cell? ⟨w.heap.size, 2, none⟩ = some (.slice cax.l cax.nl cax.cl) ∧ ((((((w'.setCell ⟨w.heap.size + 1 + 1, 0, none⟩ (x0)).setCell ⟨w.heap.size + 1 + 1, 1, none⟩ (x1)).setCell ⟨w.heap.size + 1 + 1, 2, none⟩ (x2)).setCell ⟨w.heap.size + 1 + 1, 3, none⟩ (x3)).setCell ⟨w.heap.size + 1 + 1, 4, none⟩ (x4)).setCell ⟨w.heap.size + 1 + 1, 5, none⟩ (x5)).cell? ⟨w.heap.size, 3, none⟩ = some (.bool cay.n) ∧ ((((((w'.setCell ⟨w.heap.size + 1 + 1, 0, none⟩ (x0)).setCell ⟨w.heap.size + 1 + 1, 1, none⟩ (x1)).setCell ⟨w.heap.size + 1 + 1, 2, none⟩ (x2)).setCell ⟨w.heap.size + 1 + 1, 3, none⟩ (x3)).setCell ⟨w.heap.size + 1 + 1, 4, none⟩ (x4)).setCell ⟨w.heap.size + 1 + 1, 5, none⟩ (x5)).cell? ⟨w.heap.size, 4, none⟩ = some (.slice cay.u cay.nu cay.cu) ∧ ((((((w'.setCell ⟨w.heap.size + 1 + 1, 0, none⟩ (x0)).setCell ⟨w.heap.size + 1 + 1, 1, none⟩ (x1)).setCell ⟨w.heap.size + 1 + 1, 2, none⟩ (x2)).setCell ⟨w.heap.size + 1 + 1, 3, none⟩ (x3)).setCell ⟨w.heap.size + 1 + 1, 4, none⟩ (x4)).setCell ⟨w.heap.size + 1 + 1, 5, none⟩ (x5)).cell? ⟨w.heap.size, 5, none⟩ = some (.slice cay.l cay.nl cay.cl) ∧ ((((((w'.setCell ⟨w.heap.size + 1 + 1, 0, none⟩ (x0)).setCell ⟨w.heap.size + 1 + 1, 1, none⟩ (x1)).setCell ⟨w.heap.size + 1 + 1, 2, none⟩ (x2)).setCell ⟨w.heap.size + 1 + 1, 3, none⟩ (x3)).setCell ⟨w.heap.size + 1 + 1, 4, none⟩ (x4)).setCell ⟨w.heap.size + 1 + 1, 5, none⟩ (x5)).cell? ⟨w.heap.size, 6, none⟩ = some (.bool caz.n) ∧ ((((((w'.setCell ⟨w.heap.size + 1 + 1, 0, none⟩ (x0)).setCell ⟨w.heap.size + 1 + 1, 1, none⟩ (x1)).setCell ⟨w.heap.size + 1 + 1, 2, none⟩ (x2)).setCell ⟨w.heap.size + 1 + 1, 3, none⟩ (x3)).setCell ⟨w.heap.size + 1 + 1, 4, none⟩ (x4)).setCell ⟨w.heap.size + 1 + 1, 5, none⟩ (x5)).cell? ⟨w.heap.size, 7, none⟩ = some (.slice caz.u caz.nu caz.cu) ∧ ((((((w'.setCell ⟨w.heap.size + 1 + 1, 0, none⟩ (x0)).setCell ⟨w.heap.size + 1 + 1, 1, none⟩ (x1)).setCell ⟨w.heap.size + 1 + 1, 2, none⟩ (x2)).setCell ⟨w.heap.size + 1 + 1, 3, none⟩ (x3)).setCell ⟨w.heap.size + 1 + 1, 4, none⟩ (x4)).setCell ⟨w.heap.size + 1 + 1, 5, none⟩ (x5)).cell? ⟨w.heap.size, 8, none⟩ = some (.slice caz.l caz.nl caz.cl) ∧ ((((((w'.setCell ⟨w.heap.size + 1 + 1, 0, none⟩ (x0)).setCell ⟨w.heap.size + 1 + 1, 1, none⟩ (x1)).setCell ⟨w.heap.size + 1 + 1, 2, none⟩ (x2)).setCell ⟨w.heap.size + 1 + 1, 3, none⟩ (x3)).setCell ⟨w.heap.size + 1 + 1, 4, none⟩ (x4)).setCell ⟨w.heap.size + 1 + 1, 5, none⟩ (x5)).cell? ⟨w.heap.size + 1, 0, none⟩ = some (.bool cbx.n) ∧ ((((((w'.setCell ⟨w.heap.size + 1 + 1, 0, none⟩ (x0)).setCell ⟨w.heap.size + 1 + 1, 1, none⟩ (x1)).setCell ⟨w.heap.size + 1 + 1, 2, none⟩ (x2)).setCell ⟨w.heap.size + 1 + 1, 3, none⟩ (x3)).setCell ⟨w.heap.size + 1 + 1, 4, none⟩ (x4)).setCell ⟨w.heap.size + 1 + 1, 5, none⟩ (x5)).cell? ⟨w.heap.size + 1, 1, none⟩ = some (.slice cbx.u cbx.nu cbx.cu) ∧ ((((((w'.setCell ⟨w.heap.size + 1 + 1, 0, none⟩ (x0)).setCell ⟨w.heap.size + 1 + 1, 1, none⟩ (x1)).setCell ⟨w.heap.size + 1 + 1, 2, none⟩ (x2)).setCell ⟨w.heap.size + 1 + 1, 3, none⟩ (x3)).setCell ⟨w.heap.size + 1 + 1, 4, none⟩ (x4)).setCell ⟨w.heap.size + 1 + 1, 5, none⟩ (x5)).cell? ⟨w.heap.size + 1, 2, none⟩ = some (.slice cbx.l cbx.nl cbx.cl) ∧ ((((((w'.setCell ⟨w.heap.size + 1 + 1, 0, none⟩ (x0)).setCell ⟨w.heap.size + 1 + 1, 1, none⟩ (x1)).setCell ⟨w.heap.size + 1 + 1, 2, none⟩ (x2)).setCell ⟨w.heap.size + 1 + 1, 3, none⟩ (x3)).setCell ⟨w.heap.size + 1 + 1, 4, none⟩ (x4)).setCell ⟨w.heap.size + 1 + 1, 5, none⟩ (x5)).cell? ⟨w.heap.size + 1, 3, none⟩ = some (.bool cbz.n) ∧ ((((((w'.setCell ⟨w.heap.size + 1 + 1, 0, none⟩ (x0)).setCell ⟨w.heap.size + 1 + 1, 1, none⟩ (x1)).setCell ⟨w.heap.size + 1 + 1, 2, none⟩ (x2)).setCell ⟨w.heap.size + 1 + 1, 3, none⟩ (x3)).setCell ⟨w.heap.size + 1 + 1, 4, none⟩ (x4)).setCell ⟨w.heap.size + 1 + 1, 5, none⟩ (x5)).cell? ⟨w.heap.size + 1, 4, none⟩ = some (.slice cbz.u cbz.nu cbz.cu) ∧ ((((((w'.setCell ⟨w.heap.size + 1 + 1, 0, none⟩ (x0)).setCell ⟨w.heap.size + 1 + 1, 1, none⟩ (x1)).setCell ⟨w.heap.size + 1 + 1, 2, none⟩ (x2)).setCell ⟨w.heap.size + 1 + 1, 3, none⟩ (x3)).setCell ⟨w.heap.size + 1 + 1, 4, none⟩ (x4)).setCell ⟨w.heap.size + 1 + 1, 5, none⟩ (x5)).cell? ⟨w.heap.size + 1, 5, none⟩ = some (.slice cbz.l cbz.nl cbz.cl)) := fun w' hb x0 x1 x2 x3 x4 x5 => ⟨((HK0.out.below hb (by rw [HSZ.out]; omega)).off6 (g := w.heap.size + 1 + 1) (by omega) x0 x1 x2 x3 x4 x5).cell 0, ((HK0.out.below hb (by rw [HSZ.out]; omega)).off6 (g := w.heap.size + 1 + 1) (by omega) x0 x1 x2 x3 x4 x5).cell 1, ((HK0.out.below hb (by rw [HSZ.out]; omega)).off6 (g := w.heap.size + 1 + 1) (by omega) x0 x1 x2 x3 x4 x5).cell 2, ((HK0.out.below hb (by rw [HSZ.out]; omega)).off6 (g := w.heap.size + 1 + 1) (by omega) x0 x1 x2 x3 x4 x5).cell 3, ((HK0.out.below hb (by rw [HSZ.out]; omega)).off6 (g := w.heap.size + 1 + 1) (by omega) x0 x1 x2 x3 x4 x5).cell 4, ((HK0.out.below hb (by rw [HSZ.out]; omega)).off6 (g := w.heap.size + 1 + 1) (by omega) x0 x1 x2 x3 x4 x5).cell 5, ((HK0.out.below hb (by rw [HSZ.out]; omega)).off6 (g := w.heap.size + 1 + 1) (by omega) x0 x1 x2 x3 x4 x5).cell 6, ((HK0.out.below hb (by rw [HSZ.out]; omega)).off6 (g := w.heap.size + 1 + 1) (by omega) x0 x1 x2 x3 x4 x5).cell 7, ((HK0.out.below hb (by rw [HSZ.out]; omega)).off6 (g := w.heap.size + 1 + 1) (by omega) x0 x1 x2 x3 x4 x5).cell 8, ((HK1.out.below hb (by rw [HSZ.out]; omega)).off6 (g := w.heap.size + 1 + 1) (by omega) x0 x1 x2 x3 x4 x5).cell 0, ((HK1.out.below hb (by rw [HSZ.out]; omega)).off6 (g := w.heap.size + 1 + 1) (by omega) x0 x1 x2 x3 x4 x5).cell 1, ((HK1.out.below hb (by rw [HSZ.out]; omega)).off6 (g := w.heap.size + 1 + 1) (by omega) x0 x1 x2 x3 x4 x5).cell 2, ((HK1.out.below hb (by rw [HSZ.out]; omega)).off6 (g := w.heap.size + 1 + 1) (by omega) x0 x1 x2 x3 x4 x5).cell 3, ((HK1.out.below hb (by rw [HSZ.out]; omega)).off6 (g := w.heap.size + 1 + 1) (by omega) x0 x1 x2 x3 x4 x5).cell 4, ((HK1.out.below hb (by rw [HSZ.out]; omega)).off6 (g := w.heap.size + 1 + 1) (by omega) x0 x1 x2 x3 x4 x5).cell 5⟩
  obtain ⟨z0, z1, z2, z3, z4, z5, z6, z7, z8, z9, z10, z11, z12, z13, z14⟩ := HS.out W0 (Below.refl _ _)
  go_region_held3 (fun w' => w'.cell? ⟨w.heap.size, 0, none⟩ = some (.bool cax.n) ∧ w'.cell? ⟨w.heap.size, 1, none⟩ = some (.slice cax.u cax.nu cax.cu) ∧ w'.cell? ⟨w.heap.size, 2, none⟩ = some (.slice cax.l cax.nl cax.cl) ∧ w'.cell? ⟨w.heap.size, 3, none⟩ = some (.bool cay.n) ∧ w'.cell? ⟨w.heap.size, 4, none⟩ = some (.slice cay.u cay.nu cay.cu) ∧ w'.cell? ⟨w.heap.size, 5, none⟩ = some (.slice cay.l cay.nl cay.cl) ∧ w'.cell? ⟨w.heap.size, 6, none⟩ = some (.bool caz.n) ∧ w'.cell? ⟨w.heap.size, 7, none⟩ = some (.slice caz.u caz.nu caz.cu) ∧ w'.cell? ⟨w.heap.size, 8, none⟩ = some (.slice caz.l caz.nl caz.cl) ∧ w'.cell? ⟨w.heap.size + 1, 0, none⟩ = some (.bool cbx.n) ∧ w'.cell? ⟨w.heap.size + 1, 1, none⟩ = some (.slice cbx.u cbx.nu cbx.cu) ∧ w'.cell? ⟨w.heap.size + 1, 2, none⟩ = some (.slice cbx.l cbx.nl cbx.cl) ∧ w'.cell? ⟨w.heap.size + 1, 3, none⟩ = some (.bool cbz.n) ∧ w'.cell? ⟨w.heap.size + 1, 4, none⟩ = some (.slice cbz.u cbz.nu cbz.cu) ∧ w'.cell? ⟨w.heap.size + 1, 5, none⟩ = some (.slice cbz.l cbz.nl cbz.cl)) (first | go_keep | exact hs1 | exact hs2 | exact hs3 | exact hs4 | exact hs5 | exact hkS)
    (first
      | (go_at_call 121; refine (lineValue_calls (w := W0.drew) ⟨cax, cay, caz, rfl, (Hax.out.below (Below.drew (Below.refl _ _))), (Hay.out.below (Below.drew (Below.refl _ _))), (Haz.out.below (Below.drew (Below.refl _ _)))⟩ ⟨cbx, cbz, rfl, (Hbx.out.below (Below.drew (Below.refl _ _))), (Hbz.out.below (Below.drew (Below.refl _ _)))⟩ F1.out F2.out F5.out F3.out F4.out K1.out).mono ?_; rintro e w1 ⟨hb1, v1, rfl, hv1⟩; have hbl1 : Below W0.heap.size W0 w1 := (Below.drew (Below.refl _ W0)).trans hb1; obtain ⟨d1, rfl⟩ := qv_open hv1; have hs1 := HS.out w1 hbl1)
      | (go_at_call 107; refine (negative_calls hv1).mono ?_; rintro e w2 ⟨hb2, v2, rfl, hv2⟩; have hbl2 := hbl1.trans (hb2.mono hbl1.size); obtain ⟨d2, rfl⟩ := qv_open hv2; have hs2 := HS.out w2 hbl2)
      | (go_at_call 68; refine (wayTimes_calls ⟨cax, cay, rfl, (Hax.out.below hbl2), (Hay.out.below hbl2)⟩ hv2 F1.out F2.out FV.out K2.out).mono ?_; rintro e w3 ⟨hb3, v3, rfl, hv3⟩; have hbl3 := hbl2.trans (hb3.mono hbl2.size); have hw3 := hv3; obtain ⟨d3, e3, rfl, hx3, hy3⟩ := hw3; have hs3 := HS.out w3 hbl3)
      | (go_at_call 123; refine (wayDot_calls ⟨cax, cay, rfl, (Hax.out.below hbl3), (Hay.out.below hbl3)⟩ ⟨cax, cay, rfl, (Hax.out.below hbl3), (Hay.out.below hbl3)⟩ F1.out F2.out F1.out F2.out K3.out).mono ?_; rintro e w4 ⟨hb4, v4, rfl, hv4⟩; have hbl4 := hbl3.trans (hb4.mono hbl3.size); obtain ⟨d4, rfl⟩ := qv_open hv4; have hs4 := HS.out w4 hbl4)
      | (go_at_call 92; refine (wayOver_calls (hv3.below hb4) hv4 (F1.out.mul FV.out) (F2.out.mul FV.out) ((F1.out.mul F1.out).add (F2.out.mul F2.out)) K4.out).mono ?_; rintro e w5 ⟨hb5, v5, rfl, hv5⟩; have hbl5 := hbl4.trans (hb5.mono hbl4.size); have hw5 := hv5; obtain ⟨d5, e5, rfl, hx5, hy5⟩ := hw5; have hs5 := HS.out w5 hbl5; have hkr := HK2.out.below hbl5 (by rw [HSZ.out]; omega); obtain ⟨r0, r1, r2, r3, r4, r5, f0, f1, f2, f3, f4, f5⟩ := hkr.all6; have hkS := HSS.out w5 hbl5 (.bool d5.n) (.slice d5.u d5.nu d5.cu) (.slice d5.l d5.nl d5.cl) (.bool e5.n) (.slice e5.u e5.nu e5.cu) (.slice e5.l e5.nl e5.cl))
      )
  all_goals
    go_wp2
    obtain ⟨k0, k1, k2, k3, k4, k5, _, _, _, _, _, _⟩ := (hkr.put6 (.bool d5.n) (.slice d5.u d5.nu d5.cu) (.slice d5.l d5.nl d5.cl) (.bool e5.n) (.slice e5.u e5.nu e5.cu) (.slice e5.l e5.nl e5.cl)).all6
    refine bodyPost_ret (v := .agg #[.bool d5.n, .slice d5.u d5.nu d5.cu, .slice d5.l d5.nl d5.cl, .bool e5.n, .slice e5.u e5.nu e5.cu, .slice e5.l e5.nl e5.cl]) (by simp [results, Tryz.results117, go_sem, k0, k1, k2, k3, k4, k5]) rfl ⟨Below.put6 (HB0.out.trans (hbl5.mono HB0.out.size)) (by omega) (.bool d5.n) (.slice d5.u d5.nu d5.cu) (.slice d5.l d5.nl d5.cl) (.bool e5.n) (.slice e5.u e5.nu e5.cu) (.slice e5.l e5.nl e5.cl), _, rfl, ?_⟩
    have hst := Stays.put6 hkr (by simp [notLimb]) (.bool d5.n) (.slice d5.u d5.nu d5.cu) (.slice d5.l d5.nl d5.cl) (.bool e5.n) (.slice e5.u e5.nu e5.cu) (.slice e5.l e5.nl e5.cl) rfl rfl rfl rfl rfl rfl
    exact ⟨d5, e5, rfl, hst.qv hx5, hst.qv hy5⟩
theorem lineDrop_calls {w : World} {va vb : Value} {ax ay az bx bz : Rat} {k l : Nat} (ha : LV w va ax ay az) (hb : WV w vb bx bz) (f1 : QS k ax) (f2 : QS k ay) (f5 : QS k az) (f3 : QS l bx) (f4 : QS l bz) (hk : 30 * (k + l + 1) ≤ 35184372088640) :
    Calls Tryz.prog 117 #[va, vb] w fun e w' => Below w.heap.size w w' ∧ ∃ v, e = .returned v ∧ WV w' v (ax * -(ax * bx + ay * bz + az) / (ax * ax + ay * ay)) (ay * -(ax * bx + ay * bz + az) / (ax * ax + ay * ay)) := by
  obtain ⟨c1, c2, c5, rfl, h1, h2, h5⟩ := ha
  obtain ⟨c3, c4, rfl, h3, h4⟩ := hb
  exact lineDrop_walk h1 h2 h5 h3 h4 f1 f2 f5 f3 f4 hk
theorem planeAt_walk {w : World} {px pz qx qz t : ByteArray} (s1 : px.size ≤ 1048576) (s2 : pz.size ≤ 1048576) (s3 : qx.size ≤ 1048576) (s4 : qz.size ≤ 1048576) (s5 : t.size ≤ 1048576) (tab : Tab w) :
    Calls Tryz.prog 16 #[.agg #[.string px, .string pz], .agg #[.string qx, .string qz], .string t] w fun e w' => Below w.heap.size w w' ∧ ∃ v, e = .returned v ∧ PV v (tx (rd px.data.toList + (rd qx.data.toList - rd px.data.toList) * rd t.data.toList)) (tx (rd pz.data.toList + (rd qz.data.toList - rd pz.data.toList) * rd t.data.toList)) := by
  obtain ⟨hb0, hk0, hk1, hk2, hsz⟩ := boxes3 w #[.string px, .string pz] #[.string qx, .string qz] #[.string ⟨#[]⟩, .string ⟨#[]⟩] 24 24 24
  have HB0 := hideIt hb0
  have HSZ := hideIt hsz
  have HK0 := hideIt hk0
  have HK1 := hideIt hk1
  have HK2 := hideIt hk2
  have S1 := hideIt s1
  have S2 := hideIt s2
  have S3 := hideIt s3
  have S4 := hideIt s4
  have S5 := hideIt s5
  have HTAB := hideIt (tab.below hb0)
  clear tab
  clear hb0 hsz hk0 hk1 hk2  s1 s2 s3 s4 s5
  have HKB : Hid (4194309 + 4194309 + 1 ≤ 35184372088640) := by show _ ≤ _; omega
  have HKC : Hid (4194309 + 4194309 + 1 + 4194309 + 1 ≤ 35184372088640) := by show _ ≤ _; omega
  have HKD : Hid (2 * (4194309 + 4194309 + 1 + 4194309 + 1) + 1 ≤ 35184372088640) := by show _ ≤ _; omega
  have HKE : Hid (4194309 + (4194309 + 4194309 + 1 + 4194309) + 1 ≤ 35184372088640) := by show _ ≤ _; omega
  have L5 : Hid (t.size ≤ 4294967296) := by have := S5.out; show _ ≤ _; omega
  have M1 : Hid (px.data.toList.length ≤ 1048576) := by rw [str_len]; have := S1.out; show _ ≤ _; omega
  have L1 : Hid (px.data.toList.length ≤ 4294967296) := by have := M1.out; show _ ≤ _; omega
  have F1 : Hid (QS 4194309 (rd px.data.toList)) := (QS.rd _).mono (by have := M1.out; omega)
  have M2 : Hid (pz.data.toList.length ≤ 1048576) := by rw [str_len]; have := S2.out; show _ ≤ _; omega
  have L2 : Hid (pz.data.toList.length ≤ 4294967296) := by have := M2.out; show _ ≤ _; omega
  have F2 : Hid (QS 4194309 (rd pz.data.toList)) := (QS.rd _).mono (by have := M2.out; omega)
  have M3 : Hid (qx.data.toList.length ≤ 1048576) := by rw [str_len]; have := S3.out; show _ ≤ _; omega
  have L3 : Hid (qx.data.toList.length ≤ 4294967296) := by have := M3.out; show _ ≤ _; omega
  have F3 : Hid (QS 4194309 (rd qx.data.toList)) := (QS.rd _).mono (by have := M3.out; omega)
  have M4 : Hid (qz.data.toList.length ≤ 1048576) := by rw [str_len]; have := S4.out; show _ ≤ _; omega
  have L4 : Hid (qz.data.toList.length ≤ 4294967296) := by have := M4.out; show _ ≤ _; omega
  have F4 : Hid (QS 4194309 (rd qz.data.toList)) := (QS.rd _).mono (by have := M4.out; omega)
  have F5 : Hid (QS 4194309 (rd t.data.toList)) := (QS.rd _).mono (by rw [str_len]; have := S5.out; omega)
  have G1 : Hid (QS (4194309 + 4194309 + 1 + 4194309) ((rd qx.data.toList - rd px.data.toList) * rd t.data.toList)) := (F3.out.sub F1.out).mul F5.out
  have G2 : Hid (QS (4194309 + 4194309 + 1 + 4194309) ((rd qz.data.toList - rd pz.data.toList) * rd t.data.toList)) := (F4.out.sub F2.out).mul F5.out
  have A1 : Hid (∀ q ∈ [(rd px.data.toList, rd pz.data.toList), ((rd qx.data.toList - rd px.data.toList) * rd t.data.toList, (rd qz.data.toList - rd pz.data.toList) * rd t.data.toList)].map Prod.fst, QS (4194309 + 4194309 + 1 + 4194309) q) := all2 (F1.out.mono (by omega)) G1.out
  have A2 : Hid (∀ q ∈ [(rd px.data.toList, rd pz.data.toList), ((rd qx.data.toList - rd px.data.toList) * rd t.data.toList, (rd qz.data.toList - rd pz.data.toList) * rd t.data.toList)].map Prod.snd, QS (4194309 + 4194309 + 1 + 4194309) q) := all2 (F2.out.mono (by omega)) G2.out
  go_enter Tryz.func16, Tryz.ntmps16
  go_wp2_with fail
  generalize (((w.alloc (.cells #[.string px, .string pz] 24)).alloc (.cells #[.string qx, .string qz] 24)).alloc (.cells #[.string ⟨#[]⟩, .string ⟨#[]⟩] 24)) = W0 at *
  have HS : Hid (∀ w', Below W0.heap.size W0 w' → w'.cell? ⟨w.heap.size, 0, none⟩ = some (.string px) ∧ w'.cell? ⟨w.heap.size, 1, none⟩ = some (.string pz) ∧ w'.cell? ⟨w.heap.size + 1, 0, none⟩ = some (.string qx) ∧ w'.cell? ⟨w.heap.size + 1, 1, none⟩ = some (.string qz)) := fun w' hb => ⟨(HK0.out.below hb (by rw [HSZ.out]; omega)).cell 0, (HK0.out.below hb (by rw [HSZ.out]; omega)).cell 1, (HK1.out.below hb (by rw [HSZ.out]; omega)).cell 0, (HK1.out.below hb (by rw [HSZ.out]; omega)).cell 1⟩
  have HSS : Hid (∀ w', Below W0.heap.size W0 w' → ∀ x0 x1 : Value, ((w'.setCell ⟨w.heap.size + 1 + 1, 0, none⟩ (x0)).setCell ⟨w.heap.size + 1 + 1, 1, none⟩ (x1)).cell? ⟨w.heap.size, 0, none⟩ = some (.string px) ∧ ((w'.setCell ⟨w.heap.size + 1 + 1, 0, none⟩ (x0)).setCell ⟨w.heap.size + 1 + 1, 1, none⟩ (x1)).cell? ⟨w.heap.size, 1, none⟩ = some (.string pz) ∧ ((w'.setCell ⟨w.heap.size + 1 + 1, 0, none⟩ (x0)).setCell ⟨w.heap.size + 1 + 1, 1, none⟩ (x1)).cell? ⟨w.heap.size + 1, 0, none⟩ = some (.string qx) ∧ ((w'.setCell ⟨w.heap.size + 1 + 1, 0, none⟩ (x0)).setCell ⟨w.heap.size + 1 + 1, 1, none⟩ (x1)).cell? ⟨w.heap.size + 1, 1, none⟩ = some (.string qz)) := fun w' hb x0 x1 => ⟨((HK0.out.below hb (by rw [HSZ.out]; omega)).off2 (g := w.heap.size + 1 + 1) (by omega) x0 x1).cell 0, ((HK0.out.below hb (by rw [HSZ.out]; omega)).off2 (g := w.heap.size + 1 + 1) (by omega) x0 x1).cell 1, ((HK1.out.below hb (by rw [HSZ.out]; omega)).off2 (g := w.heap.size + 1 + 1) (by omega) x0 x1).cell 0, ((HK1.out.below hb (by rw [HSZ.out]; omega)).off2 (g := w.heap.size + 1 + 1) (by omega) x0 x1).cell 1⟩
  obtain ⟨z0, z1, z2, z3⟩ := HS.out W0 (Below.refl _ _)
  go_region_held3 (fun w' => w'.cell? ⟨w.heap.size, 0, none⟩ = some (.string px) ∧ w'.cell? ⟨w.heap.size, 1, none⟩ = some (.string pz) ∧ w'.cell? ⟨w.heap.size + 1, 0, none⟩ = some (.string qx) ∧ w'.cell? ⟨w.heap.size + 1, 1, none⟩ = some (.string qz)) (first | go_keep | exact hs1 | exact hs2 | exact hs3 | exact hs4 | exact hsA4 | exact hs5 | exact hs6 | exact hkS)
    (first
      | (go_at_call 62; refine (wayRead_calls (w := W0.drew) ⟨px, pz, rfl, rfl, rfl⟩ L1.out L2.out).mono ?_; rintro e w1 ⟨hb1, v1, rfl, hv1⟩; have hbl1 : Below W0.heap.size W0 w1 := (Below.drew (Below.refl _ W0)).trans hb1; have hw1 := hv1; obtain ⟨d1, e1, rfl, hx1, hy1⟩ := hw1; have hs1 := HS.out w1 hbl1)
      | (go_at_call 67; refine (between_calls ⟨px, pz, rfl, rfl, rfl⟩ ⟨qx, qz, rfl, rfl, rfl⟩ M1.out M2.out M3.out M4.out).mono ?_; rintro e w2 ⟨hb2, v2, rfl, hv2⟩; have hbl2 := hbl1.trans (hb2.mono hbl1.size); have hw2 := hv2; obtain ⟨d2, e2, rfl, hx2, hy2⟩ := hw2; have hs2 := HS.out w2 hbl2)
      | (go_at_call 69; refine (read_calls t _ L5.out).mono ?_; rintro e w3 ⟨hb3, v3, rfl, hv3⟩; have hbl3 := hbl2.trans (hb3.mono hbl2.size); obtain ⟨d3, rfl⟩ := qv_open hv3; have hs3 := HS.out w3 hbl3)
      | (go_at_call 68; refine (wayTimes_calls (hv2.below hb3) hv3 (F3.out.sub F1.out) (F4.out.sub F2.out) F5.out HKC.out).mono ?_; rintro e w4 ⟨hb4, v4, rfl, hv4⟩; have hbl4 := hbl3.trans (hb4.mono hbl3.size); have hw4 := hv4; obtain ⟨d4, e4, rfl, hx4, hy4⟩ := hw4; have hs4 := HS.out w4 hbl4; have hbA4 := below_new w4 (.cells #[.bool d1.n, .slice d1.u d1.nu d1.cu, .slice d1.l d1.nl d1.cl, .bool e1.n, .slice e1.u e1.nu e1.cu, .slice e1.l e1.nl e1.cl, .bool d4.n, .slice d4.u d4.nu d4.cu, .slice d4.l d4.nl d4.cl, .bool e4.n, .slice e4.u e4.nu e4.cu, .slice e4.l e4.nl e4.cl] 86); have hblA4 := hbl4.trans (hbA4.mono hbl4.size); have hsA4 := HS.out _ hblA4)
      | (go_at_call 66; refine (waySum_calls (wrow2 (((hx1.below hb2).below hb3).below hb4) (((hy1.below hb2).below hb3).below hb4) hx4 hy4) A1.out A2.out (by simp) HKD.out).mono ?_; rintro e w5 ⟨hb5, v5, rfl, hv5⟩; have hbl5 := hblA4.trans (hb5.mono hblA4.size); have hw5 := hv5; obtain ⟨d5, e5, rfl, hx5, hy5⟩ := hw5; rw [show rsum ([(rd px.data.toList, rd pz.data.toList), ((rd qx.data.toList - rd px.data.toList) * rd t.data.toList, (rd qz.data.toList - rd pz.data.toList) * rd t.data.toList)].map Prod.fst) = rd px.data.toList + (rd qx.data.toList - rd px.data.toList) * rd t.data.toList from rsum2 _ _, show rsum ([(rd px.data.toList, rd pz.data.toList), ((rd qx.data.toList - rd px.data.toList) * rd t.data.toList, (rd qz.data.toList - rd pz.data.toList) * rd t.data.toList)].map Prod.snd) = rd pz.data.toList + (rd qz.data.toList - rd pz.data.toList) * rd t.data.toList from rsum2 _ _] at hv5; have hs5 := HS.out w5 hbl5)
      | (go_at_call 70; refine (wayText_calls hv5 (F1.out.add G1.out) (F2.out.add G2.out) HKE.out (HTAB.out.below hbl5)).mono ?_; rintro e w6 ⟨hb6, _, rfl, s6, t6, rfl, ha6, hc6⟩; have hbl6 := hbl5.trans (hb6.mono hbl5.size); have hs6 := HS.out w6 hbl6; have hkr := HK2.out.below hbl6 (by rw [HSZ.out]; omega); obtain ⟨r0, r1, f0, f1⟩ := hkr.all2; have hkS := HSS.out w6 hbl6 (.string s6) (.string t6))
      )
  all_goals
    go_wp2
    obtain ⟨k0, k1, _, _⟩ := (hkr.put2 (.string s6) (.string t6)).all2
    refine bodyPost_ret (v := .agg #[.string s6, .string t6]) (by simp [results, Tryz.results16, go_sem, k0, k1]) rfl ⟨Below.put2 (HB0.out.trans (hbl6.mono HB0.out.size)) (by omega) (.string s6) (.string t6), _, rfl, ?_⟩
    exact ⟨s6, t6, rfl, ha6, hc6⟩
theorem planeAt_calls {w : World} {va vb : Value} {px pz qx qz lt : List UInt8} {t : ByteArray} (ha : PV va px pz) (hb : PV vb qx qz) (ht : t.data.toList = lt) (s1 : px.length ≤ 1048576) (s2 : pz.length ≤ 1048576) (s3 : qx.length ≤ 1048576) (s4 : qz.length ≤ 1048576) (s5 : lt.length ≤ 1048576) (tab : Tab w) :
    Calls Tryz.prog 16 #[va, vb, .string t] w fun e w' => Below w.heap.size w w' ∧ ∃ v, e = .returned v ∧ PV v (tx (rd px + (rd qx - rd px) * rd lt)) (tx (rd pz + (rd qz - rd pz) * rd lt)) := by
  obtain ⟨a, b, rfl, rfl, rfl⟩ := ha
  obtain ⟨c, d, rfl, rfl, rfl⟩ := hb
  subst ht
  rw [str_len] at s1 s2 s3 s4 s5
  exact planeAt_walk s1 s2 s3 s4 s5 tab
end Go.Proofs.YtgajdmadbdbabaaGreatDoor
/- MathX -/
namespace Cx
open Go
def gN (qs : List Rat) : Nat := qs.foldl (fun g q => Nat.gcd g q.num.natAbs) 0
def lD (qs : List Rat) : Nat := qs.foldl (fun m q => m * (q.den / Nat.gcd m q.den)) 1
def fb : List Rat → Bool
  | [] => false
  | q :: r => if q.num = 0 then fb r else decide (q.num < 0)
def pl (G M : Nat) (flip : Bool) (q : Rat) : Rat := ((sg (decide (q.num < 0) != flip) (q.num.natAbs / G * (M / q.den)) : Int) : Rat)
def plain (qs : List Rat) : List Rat := qs.map (pl (gN qs) (lD qs) (fb qs))
theorem gN_take {qs : List Rat} {k : Nat} (h : k < qs.length) : gN (qs.take (k + 1)) = Nat.gcd (gN (qs.take k)) (qs[k]).num.natAbs := by
  unfold gN; rw [List.take_succ_eq_append_getElem h, List.foldl_append]; rfl
theorem lD_take {qs : List Rat} {k : Nat} (h : k < qs.length) : lD (qs.take (k + 1)) = lD (qs.take k) * ((qs[k]).den / Nat.gcd (lD (qs.take k)) (qs[k]).den) := by
  unfold lD; rw [List.take_succ_eq_append_getElem h, List.foldl_append]; rfl
theorem lD_pos (qs : List Rat) : 0 < lD qs := by
  unfold lD
  have : ∀ (l : List Rat) (m : Nat), 0 < m → 0 < l.foldl (fun m q => m * (q.den / Nat.gcd m q.den)) m := by
    intro l
    induction l with
    | nil => intro m h; exact h
    | cons q l ih =>
      intro m h
      refine ih _ (Nat.mul_pos h ?_)
      exact Nat.div_pos (Nat.le_of_dvd (Nat.pos_of_ne_zero q.den_nz) (Nat.gcd_dvd_right _ _)) (Nat.gcd_pos_of_pos_left _ h)
  exact this qs 1 (by decide)
theorem foldg_dvd (l : List Rat) (g : Nat) : (l.foldl (fun g q => Nat.gcd g q.num.natAbs) g) ∣ g ∧ ∀ q ∈ l, (l.foldl (fun g q => Nat.gcd g q.num.natAbs) g) ∣ q.num.natAbs := by
  induction l generalizing g with
  | nil => exact ⟨Nat.dvd_refl _, fun q hq => by simp at hq⟩
  | cons a l ih =>
    obtain ⟨h1, h2⟩ := ih (Nat.gcd g a.num.natAbs)
    refine ⟨Nat.dvd_trans h1 (Nat.gcd_dvd_left _ _), fun q hq => ?_⟩
    rcases List.mem_cons.1 hq with rfl | hq
    · exact Nat.dvd_trans h1 (Nat.gcd_dvd_right _ _)
    · exact h2 q hq
theorem gN_dvd {qs : List Rat} {q : Rat} (h : q ∈ qs) : gN qs ∣ q.num.natAbs := (foldg_dvd qs 0).2 q h
theorem foldl_dvd (l : List Rat) (m : Nat) : m ∣ (l.foldl (fun m q => m * (q.den / Nat.gcd m q.den)) m) ∧ ∀ q ∈ l, q.den ∣ (l.foldl (fun m q => m * (q.den / Nat.gcd m q.den)) m) := by
  induction l generalizing m with
  | nil => exact ⟨Nat.dvd_refl _, fun q hq => by simp at hq⟩
  | cons a l ih =>
    obtain ⟨h1, h2⟩ := ih (m * (a.den / Nat.gcd m a.den))
    refine ⟨Nat.dvd_trans (Nat.dvd_mul_right _ _) h1, fun q hq => ?_⟩
    rcases List.mem_cons.1 hq with rfl | hq
    · refine Nat.dvd_trans ?_ h1
      have : Nat.gcd m q.den ∣ m := Nat.gcd_dvd_left _ _
      obtain ⟨c, hc⟩ := this
      obtain ⟨d, hd⟩ := Nat.gcd_dvd_right m q.den
      have hg : 0 < Nat.gcd m q.den := Nat.gcd_pos_of_pos_right _ (Nat.pos_of_ne_zero q.den_nz)
      generalize Nat.gcd m q.den = g at *
      rw [hd, Nat.mul_div_cancel_left _ hg, hc]
      exact ⟨c, by grind⟩
    · exact h2 q hq
theorem lD_dvd {qs : List Rat} {q : Rat} (h : q ∈ qs) : q.den ∣ lD qs := (foldl_dvd qs 1).2 q h
theorem gN_pos {qs : List Rat} {q : Rat} (h : q ∈ qs) (h0 : q.num ≠ 0) : 0 < gN qs := by
  rcases Nat.eq_zero_or_pos (gN qs) with e | e
  · have := gN_dvd h
    rw [e] at this
    have := Nat.eq_zero_of_zero_dvd this
    omega
  · exact e
theorem gN_lt {K : Nat} {qs : List Rat} (h : ∀ q ∈ qs, Go.Proofs.YtgajdmadbdbabaaGreatDoor.QS K q) : gN qs < 2 ^ K := by
  rcases Nat.eq_zero_or_pos (gN qs) with e | e
  · rw [e]; exact Nat.pow_pos (by decide)
  · have : ∃ q ∈ qs, q.num ≠ 0 := by
      apply Classical.byContradiction
      intro hno
      have hall : ∀ q ∈ qs, q.num = 0 := fun q hq => Classical.byContradiction fun hn => hno ⟨q, hq, hn⟩
      have hz : ∀ (l : List Rat), (∀ q ∈ l, q.num = 0) → l.foldl (fun g q => Nat.gcd g q.num.natAbs) 0 = 0 := by
        intro l
        induction l with
        | nil => intro _; rfl
        | cons a l ih =>
          intro hl
          rw [List.foldl_cons, hl a (List.mem_cons_self ..)]
          exact ih fun q hq => hl q (List.mem_cons_of_mem _ hq)
      have := hz qs hall
      unfold gN at e
      omega
    obtain ⟨q, hq, hn⟩ := this
    exact Nat.lt_of_le_of_lt (Nat.le_of_dvd (by omega) (gN_dvd hq)) (h q hq).num
theorem lD_le {K : Nat} {qs : List Rat} (h : ∀ q ∈ qs, Go.Proofs.YtgajdmadbdbabaaGreatDoor.QS K q) : ∀ k, lD (qs.take k) ≤ 2 ^ (k * K)
  | 0 => by simp [lD]
  | k + 1 => by
    have ih := lD_le h k
    by_cases hk : k < qs.length
    · rw [lD_take hk, Nat.succ_mul, Nat.pow_add]
      refine Nat.mul_le_mul ih (Nat.le_trans (Nat.div_le_self _ _) (Nat.le_of_lt (h _ (List.getElem_mem hk)).den))
    · rw [List.take_of_length_le (by omega)]
      rw [List.take_of_length_le (by omega)] at ih
      exact Nat.le_trans ih (Nat.pow_le_pow_right (by decide) (by rw [Nat.succ_mul]; omega))
theorem pl_zero (G M : Nat) (flip : Bool) {q : Rat} (h : q.num = 0) : pl G M flip q = 0 := by
  unfold pl
  rw [h]
  simp [sg]
def fac (qs : List Rat) : Rat := mkRat (sg (fb qs) (lD qs)) (gN qs)
theorem pl_mul {qs : List Rat} {q : Rat} (h : q ∈ qs) : pl (gN qs) (lD qs) (fb qs) q = q * fac qs := by
  by_cases h0 : q.num = 0
  · rw [pl_zero _ _ _ h0, Rat.num_eq_zero.1 h0, Rat.zero_mul]
  · have hg := gN_pos h h0
    obtain ⟨a, ha⟩ := gN_dvd h
    obtain ⟨b, hb⟩ := lD_dvd h
    have hd : 0 < q.den := Nat.pos_of_ne_zero q.den_nz
    unfold pl fac
    generalize gN qs = G at *
    generalize lD qs = M at *
    rw [ha, Nat.mul_div_cancel_left _ hg, hb, Nat.mul_div_cancel_left _ hd]
    have eq : q = mkRat (sg (decide (q.num < 0)) (G * a)) q.den := by rw [← ha, sg_num, Rat.mkRat_self]
    have e1 : ((sg (decide (q.num < 0) != fb qs) (a * b) : Int) : Rat) = mkRat (sg (decide (q.num < 0) != fb qs) (a * b)) 1 := (Rat.mkRat_one _).symm
    rw [e1]
    conv => rhs; lhs; rw [eq]
    rw [Rat.mkRat_mul_mkRat, Rat.mkRat_eq_iff (by decide) (Nat.mul_ne_zero q.den_nz (by omega))]
    generalize decide (q.num < 0) = s
    generalize fb qs = t
    have c1 : ((q.den * G : Nat) : Int) = (q.den : Int) * G := Int.natCast_mul _ _
    rw [c1]
    have m1 : ((a * b : Nat) : Int) = (a : Int) * b := Int.natCast_mul _ _
    have m2 : ((G * a : Nat) : Int) = (G : Int) * a := Int.natCast_mul _ _
    have m3 : ((q.den * b : Nat) : Int) = (q.den : Int) * b := Int.natCast_mul _ _
    generalize (q.den : Int) = D at *
    cases s <;> cases t <;> simp only [sg, bne_self_eq_false, Bool.false_eq_true, if_false, if_true, m1, m2, m3, Bool.true_bne, Bool.false_bne, Bool.not_false] <;> grind
theorem fac_ne {qs : List Rat} {q : Rat} (h : q ∈ qs) (h0 : q ≠ 0) : fac qs ≠ 0 := by
  have hn : q.num ≠ 0 := fun e => h0 (Rat.num_eq_zero.1 e)
  have hg := gN_pos h hn
  have hl := lD_pos qs
  unfold fac
  intro e
  rw [Rat.mkRat_eq_zero (by omega)] at e
  cases fb qs <;> simp [sg] at e <;> omega
end Cx
/- WK -/
namespace Go.Proofs.YtgajdmadbdbabaaGreatDoor
open Go.RowKit Cx
attribute [local go_sem ↓] Go.wp_at_zero Go.wp_at_succ
theorem qv_parts {w : World} {c : C3} {q : Rat} (h : QV w (.agg #[.bool c.n, .slice c.u c.nu c.cu, .slice c.l c.nl c.cl]) q) :
    c.n = decide (q.num < 0) ∧ NatN w (.slice c.u c.nu c.cu) q.num.natAbs ∧ NatN w (.slice c.l c.nl c.cl) (if q.den = 1 then 0 else q.den) := by
  obtain ⟨vu, vl, e, h1, h2⟩ := h
  simp only [Value.agg.injEq, Array.mk.injEq, List.cons.injEq, Value.bool.injEq, and_true] at e
  obtain ⟨e0, e1, e2⟩ := e
  subst e1
  subst e2
  exact ⟨e0, h1, h2⟩
theorem fb_drop {qs : List Rat} : ∀ {k : Nat}, (∀ j (hj : j < qs.length), j < k → (qs[j]'hj).num = 0) → fb qs = fb (qs.drop k) := by
  induction qs with
  | nil => intro k _; simp
  | cons q r ih =>
    intro k h
    match k with
    | 0 => rfl
    | k + 1 =>
      have h0 := h 0 (by simp) (by omega)
      rw [List.drop_succ_cons]
      have h0' : q.num = 0 := h0
      rw [fb, if_pos h0']
      exact ih fun j hj hk => h (j + 1) (by simpa using hj) (by omega)
theorem firstBelow_walk {w : World} {b off cap : Nat} {qs : List Rat} (h : QRow w (.slice (some ⟨b, off, none⟩) qs.length cap) qs) (hn : qs.length ≤ 1000000) :
    Calls Tryz.prog 195 #[.slice (some ⟨b, off, none⟩) qs.length cap] w fun e w' => Below w.heap.size w w' ∧ e = .returned (.bool (fb qs)) := by
  have HR := hideIt h
  clear h
  obtain ⟨r, hr⟩ : ∃ r, r = fb qs := ⟨_, rfl⟩
  rw [← hr]
  have HRR := hideIt hr
  clear hr
  go_enter Tryz.func195, Tryz.ntmps195
  go_wp2
  go_loopw [7] (fun i wr => ∃ k : Nat, k ≤ qs.length ∧ i = .int .i64 (k : Int) ∧ (∀ j (hj : j < qs.length), j < k → (qs[j]'hj).num = 0) ∧ Below w.heap.size w wr) (fun i _ => qs.length - (intOf i).toNat)
  case atStart => exact ⟨0, Nat.zero_le _, rfl, fun j _ h => absurd h (by omega), Below.refl _ _⟩
  case round =>
    obtain ⟨k, hkl, rfl, hz, hbel⟩ := hrel
    have HZ := hideIt hz
    clear hz
    by_cases hend : k = qs.length
    · subst hend
      go_wp2
      go_ret
      refine ⟨hbel, ?_⟩
      rw [HRR.out, fb_drop HZ.out, List.drop_length]
      rfl
    · have hlt : k < qs.length := by omega
      have hidx := qrow_idx (b := b) (off := off) (cap := cap) hlt
      obtain ⟨b', off', cap', e, hbl, hcells⟩ := HR.out
      cases e
      obtain ⟨d, d0, d1, d2, hd⟩ := hcells k hlt
      have HD := hideIt (hd.below hbel)
      have z0 := (hbel.cell (p := ⟨b, off + k * 3, none⟩) hbl).trans d0
      have z1 := (hbel.cell (p := ⟨b, off + k * 3 + 1, none⟩) hbl).trans d1
      have z2 := (hbel.cell (p := ⟨b, off + k * 3 + 2, none⟩) hbl).trans d2
      have hsz' := hideIt hbel.size
      obtain ⟨hn1, _, _⟩ := qv_parts hd
      have HN := hideIt hn1
      clear d0 d1 d2 hd hcells hn1
      go_wp2_with fail
      have hbn := below_new wr (.cells #[.bool d.n, .slice d.u d.nu d.cu, .slice d.l d.nl d.cl] 84)
      have hkn := Blk.new wr #[.bool d.n, .slice d.u d.nu d.cu, .slice d.l d.nl d.cl] 84
      refine (sign_calls (HD.out.below hbn)).mono ?_
      rintro e w2 ⟨hb2, rfl⟩
      have hk2 := hkn.below hb2 hkn.lt
      obtain ⟨y0, y1, y2, _, _, _⟩ := hk2.all3
      have hbw := hbel.trans ((hbn.trans (hb2.mono hbn.size)).mono hsz'.out)
      by_cases h0 : (qs[k]'hlt).num = 0
      · rw [if_pos h0]
        have H0 := hideIt h0
        clear h0
        go_wp2
        go_roundw
        case rel =>
          refine ⟨k + 1, hlt, by go_num, fun j hj hjk => ?_, hbw⟩
          by_cases e : j = k
          · subst e; exact H0.out
          · exact HZ.out j hj (by omega)
        case measure => simp [intOf]; omega
      · rw [if_neg h0]
        have hne : ((if (qs[k]'hlt).num < 0 then (-1 : Int) else 1) != 0) = true := by split <;> rfl
        generalize (if (qs[k]'hlt).num < 0 then (-1 : Int) else 1) = z at *
        have H0 := hideIt h0
        clear h0
        go_wp2
        go_ret
        refine ⟨hbw, ?_⟩
        rw [HRR.out, fb_drop HZ.out, List.drop_eq_getElem_cons hlt, fb, if_neg H0.out, HN.out]
        rfl
theorem firstBelow_calls {w : World} {v : Value} {qs : List Rat} (h : QRow w v qs) (hn : qs.length ≤ 1000000) :
    Calls Tryz.prog 195 #[v] w fun e w' => Below w.heap.size w w' ∧ e = .returned (.bool (fb qs)) := by
  have h' := h
  obtain ⟨b, off, cap, rfl, _⟩ := h
  exact firstBelow_walk h' hn
def QBlk (w : World) (g : Nat) (qs : List Rat) : Prop :=
  ∃ cs : Array Value, Blk w g cs 84 ∧ cs.all notLimb = true ∧ cs.size = qs.length * 3 ∧ ∀ (j : Nat) (hj : j < qs.length), ∃ c : C3,
    cs[j * 3]? = some (.bool c.n) ∧ cs[j * 3 + 1]? = some (.slice c.u c.nu c.cu) ∧ cs[j * 3 + 2]? = some (.slice c.l c.nl c.cl) ∧ QV w (.agg #[.bool c.n, .slice c.u c.nu c.cu, .slice c.l c.nl c.cl]) (qs[j]'hj)
theorem QBlk.lt {w : World} {g : Nat} {qs : List Rat} (h : QBlk w g qs) : g < w.heap.size := by
  obtain ⟨cs, h, _⟩ := h
  exact h.lt
theorem QBlk.below {w w' : World} {g : Nat} {qs : List Rat} (h : QBlk w g qs) (hb : Below w.heap.size w w') : QBlk w' g qs := by
  obtain ⟨cs, h1, h2, h3, h4⟩ := h
  refine ⟨cs, h1.below hb h1.lt, h2, h3, fun j hj => ?_⟩
  obtain ⟨c, e0, e1, e2, hq⟩ := h4 j hj
  exact ⟨c, e0, e1, e2, hq.below hb⟩
theorem QBlk.row {w : World} {g : Nat} {qs : List Rat} (h : QBlk w g qs) (cap : Nat) : QRow w (.slice (some ⟨g, 0, none⟩) qs.length cap) qs := by
  obtain ⟨cs, h1, h2, h3, h4⟩ := h
  refine ⟨g, 0, cap, rfl, h1.lt, fun j hj => ?_⟩
  obtain ⟨c, e0, e1, e2, hq⟩ := h4 j hj
  exact ⟨c, by rw [Nat.zero_add, h1.cell]; exact e0, by rw [Nat.zero_add, h1.cell]; exact e1, by rw [Nat.zero_add, h1.cell]; exact e2, hq⟩
theorem QBlk.facts {w : World} {g : Nat} {qs : List Rat} (h : QBlk w g qs) {k : Nat} (hk : k < qs.length) :
    ∃ c : C3, w.cell? ⟨g, k * 3, none⟩ = some (.bool c.n) ∧ w.cell? ⟨g, k * 3 + 1, none⟩ = some (.slice c.u c.nu c.cu) ∧ w.cell? ⟨g, k * 3 + 2, none⟩ = some (.slice c.l c.nl c.cl) ∧ w.frozen? ⟨g, k * 3, none⟩ = false ∧ w.frozen? ⟨g, k * 3 + 1, none⟩ = false ∧ w.frozen? ⟨g, k * 3 + 2, none⟩ = false := by
  obtain ⟨cs, h1, h2, h3, h4⟩ := h
  obtain ⟨c, e0, e1, e2, _⟩ := h4 k hk
  exact ⟨c, by rw [h1.cell]; exact e0, by rw [h1.cell]; exact e1, by rw [h1.cell]; exact e2, h1.frozen _, h1.frozen _, h1.frozen _⟩
theorem QBlk.put {w : World} {g : Nat} {qs : List Rat} (h : QBlk w g qs) {k : Nat} (hk : k < qs.length) {d : C3} {q : Rat} (hq : QV w (.agg #[.bool d.n, .slice d.u d.nu d.cu, .slice d.l d.nl d.cl]) q) :
    QBlk (((w.setCell ⟨g, k * 3, none⟩ (.bool d.n)).setCell ⟨g, k * 3 + 1, none⟩ (.slice d.u d.nu d.cu)).setCell ⟨g, k * 3 + 2, none⟩ (.slice d.l d.nl d.cl)) g (qs.set k q) ∧ Stays w (((w.setCell ⟨g, k * 3, none⟩ (.bool d.n)).setCell ⟨g, k * 3 + 1, none⟩ (.slice d.u d.nu d.cu)).setCell ⟨g, k * 3 + 2, none⟩ (.slice d.l d.nl d.cl)) := by
  obtain ⟨cs, h1, h2, h3, h4⟩ := h
  have b1 := h1.set (k * 3) (.bool d.n)
  have b2 := b1.set (k * 3 + 1) (.slice d.u d.nu d.cu)
  have b3 := b2.set (k * 3 + 2) (.slice d.l d.nl d.cl)
  have a1 := all_set h2 (k * 3) (v := .bool d.n) rfl
  have a2 := all_set a1 (k * 3 + 1) (v := .slice d.u d.nu d.cu) rfl
  have a3 := all_set a2 (k * 3 + 2) (v := .slice d.l d.nl d.cl) rfl
  have hst := ((Stays.set h1 h2 (k * 3) (.bool d.n)).trans (Stays.set b1 a1 (k * 3 + 1) (.slice d.u d.nu d.cu))).trans (Stays.set b2 a2 (k * 3 + 2) (.slice d.l d.nl d.cl))
  refine ⟨⟨_, b3, a3, by simp [h3], fun j hj => ?_⟩, hst⟩
  have hj' : j < qs.length := by simpa using hj
  by_cases e : j = k
  · subst e
    refine ⟨d, ?_, ?_, ?_, ?_⟩
    · simp [Array.getElem?_setIfInBounds, h3]; omega
    · simp [Array.getElem?_setIfInBounds, h3]; omega
    · simp [Array.getElem?_setIfInBounds, h3]; omega
    · rw [List.getElem_set_self]; exact hst.qv hq
  · obtain ⟨c, e0, e1, e2, hc⟩ := h4 j hj'
    refine ⟨c, ?_, ?_, ?_, ?_⟩
    · simp only [Array.getElem?_setIfInBounds]
      rw [if_neg (by omega), if_neg (by omega), if_neg (by omega)]; exact e0
    · simp only [Array.getElem?_setIfInBounds]
      rw [if_neg (by omega), if_neg (by omega), if_neg (by omega)]; exact e1
    · simp only [Array.getElem?_setIfInBounds]
      rw [if_neg (by omega), if_neg (by omega), if_neg (by omega)]; exact e2
    · rw [List.getElem_set_ne (by omega)]; exact hst.qv hc
end Go.Proofs.YtgajdmadbdbabaaGreatDoor
/- WL -/
namespace Go.Proofs.YtgajdmadbdbabaaGreatDoor
open Go.RowKit Cx
attribute [local go_sem ↓] Go.wp_at_zero Go.wp_at_succ
theorem Tryz.infoQ : (Tryz.prog.info? 84).map (fun i => (i.zero, i.size, i.bytes)) = some (some (.agg #[.bool false, .slice none 0 0, .slice none 0 0]), 3, 56) := by kernel_rfl
theorem make_qs (n : Nat) (hn : n ≤ 1000000) (w : World) :
    (Instr.makeSlice 163 (.int .i64 n) (.int .i64 n)).run Tryz.prog w = .ok (.slice (some ⟨w.heap.size, 0, none⟩) n n) (w.alloc (.cells (madeCells #[.bool false, .slice none 0 0, .slice none 0 0] (n * 3)) 84)) := by
  obtain ⟨i, hi, hz0, hz1, hz2⟩ := info_parts Tryz.infoQ
  have h := run_make (P := Tryz.prog) w 163 84 i (.agg #[.bool false, .slice none 0 0, .slice none 0 0]) Tryz.underlying163 hi hz0 .i64 .i64 n n (by omega) (by omega) (by rw [hz2]; omega) (by omega)
  rw [hz1] at h
  simpa [Value.cells] using h
theorem made_at (n j r : Nat) (hj : j < n) (hr : r < 3) : (madeCells #[.bool false, .slice none 0 0, .slice none 0 0] (n * 3))[j * 3 + r]? = #[Value.bool false, .slice none 0 0, .slice none 0 0][r]? := by
  have h1 : j * 3 + r < n * 3 := by omega
  have h2 : (j * 3 + r) % 3 = r := by omega
  match r, hr with
  | 0, _ => simp [madeCells, show j * 3 < n * 3 by omega]
  | 1, _ => simp [madeCells, h1, h2]
  | 2, _ => simp [madeCells, h1, h2]
theorem qblk_made (w : World) (n : Nat) : QBlk (w.alloc (.cells (madeCells #[.bool false, .slice none 0 0, .slice none 0 0] (n * 3)) 84)) w.heap.size (List.replicate n 0) := by
  refine ⟨_, Blk.new _ _ _, ?_, ?_, fun j hj => ?_⟩
  · rw [Array.all_eq_true]
    intro i hi
    have h3 : i % 3 < 3 := Nat.mod_lt _ (by decide)
    simp only [size_madeCells] at hi
    have := made_at n (i / 3) (i % 3) (by omega) h3
    rw [show i / 3 * 3 + i % 3 = i by omega] at this
    obtain ⟨_, e⟩ := Array.getElem?_eq_some_iff.1 (this.trans (Array.getElem?_eq_getElem (by simpa using h3)))
    rw [e]
    match i % 3, h3 with
    | 0, _ => rfl
    | 1, _ => rfl
    | 2, _ => rfl
  · simp [size_madeCells]
  · have hj' : j < n := by simpa using hj
    refine ⟨⟨false, none, 0, 0, none, 0, 0⟩, made_at n j 0 hj' (by decide), made_at n j 1 hj' (by decide), made_at n j 2 hj' (by decide), ?_⟩
    rw [List.getElem_replicate]
    exact qv_zero0 _
theorem Stays.nat {w w' : World} (h : Stays w w') {v : Value} {n : Nat} (k : NatN w v n) : NatN w' v n := by
  have hq : QV w (.agg #[.bool (decide (((n : Nat) : Rat).num < 0)), v, .slice none 0 0]) ((n : Nat) : Rat) := by
    refine ⟨v, .slice none 0 0, rfl, ?_, ?_⟩
    · simpa using k
    · simpa using NatN.nil w none 0
  obtain ⟨vu, vl, e, h1, _⟩ := h.qv hq
  simp only [Value.agg.injEq, Array.mk.injEq, List.cons.injEq, and_true, true_and] at e
  obtain ⟨rfl, _⟩ := e
  simpa using h1
theorem fr_int (neg : Bool) (u : Nat) (hl : (1 : Nat) ≠ 0) (hc : Nat.Coprime u 1) : fr neg u 1 hl hc = ((sg neg u : Int) : Rat) := by
  have := fr_eq (neg := neg) (u := u) (l := 1) (hl := hl) (hc := hc) (n := sg neg u) (d := 1) (by decide) rfl
  rw [this, Rat.mkRat_one]
def mix (qs : List Rat) (k : Nat) : List Rat := (plain qs).take k ++ List.replicate (qs.length - k) 0
theorem plain_len (qs : List Rat) : (plain qs).length = qs.length := by simp [plain]
theorem mix_len (qs : List Rat) (k : Nat) (h : k ≤ qs.length) : (mix qs k).length = qs.length := by
  unfold mix; rw [List.length_append, List.length_take, List.length_replicate, plain_len]; omega
theorem mix_set {qs : List Rat} {k : Nat} (h : k < qs.length) : (mix qs k).set k (pl (gN qs) (lD qs) (fb qs) (qs[k])) = mix qs (k + 1) := by
  unfold mix
  have hl : ((plain qs).take k).length = k := by rw [List.length_take, plain_len]; omega
  rw [List.set_append, if_neg (by omega), hl, Nat.sub_self]
  rw [show qs.length - k = (qs.length - (k + 1)) + 1 by omega, List.replicate_succ, List.set_cons_zero]
  rw [List.take_succ_eq_append_getElem (by rw [plain_len]; exact h), List.append_assoc]
  congr 1
  simp [plain]
theorem mix_same {qs : List Rat} {k : Nat} (h : k < qs.length) (h0 : (qs[k]).num = 0) : mix qs k = mix qs (k + 1) := by
  rw [← mix_set h, pl_zero _ _ _ h0]
  unfold mix
  have hl : ((plain qs).take k).length = k := by rw [List.length_take, plain_len]; omega
  rw [List.set_append, if_neg (by omega), hl, Nat.sub_self]
  rw [show qs.length - k = (qs.length - (k + 1)) + 1 by omega, List.replicate_succ, List.set_cons_zero]
theorem mix_zero (qs : List Rat) : mix qs 0 = List.replicate qs.length 0 := by simp [mix]
theorem mix_all (qs : List Rat) : mix qs qs.length = plain qs := by
  unfold mix; rw [List.take_of_length_le (by rw [plain_len]; exact Nat.le_refl _)]; simp
def NewAt (w : World) (v : Value) : Prop := ∃ b off n cap, v = .slice (some ⟨b, off, none⟩) n cap ∧ w.heap.size ≤ b
theorem plain_walk {w : World} {b off cap : Nat} {qs : List Rat} (h : QRow w (.slice (some ⟨b, off, none⟩) qs.length cap) qs) {K : Nat} (f : ∀ q ∈ qs, QS K q) (hn : qs.length ≤ 1000000) (hk : qs.length * K + K + 2 ≤ 35184372088640) :
    Calls Tryz.prog 145 #[.slice (some ⟨b, off, none⟩) qs.length cap] w fun e w' => Below w.heap.size w w' ∧ ∃ v, e = .returned v ∧ QRow w' v (plain qs) ∧ NewAt w v := by
  have HR := hideIt h
  have F := hideIt f
  have HK := hideIt hk
  clear h f hk
  have SM : Hid (∀ q ∈ qs, Small q.num.natAbs ∧ Small q.den) := fun q hq => ⟨small_two (F.out q hq).num (by have := HK.out; omega), small_two (F.out q hq).den (by have := HK.out; omega)⟩
  have SG : Hid (∀ k, Small (gN (qs.take k))) := fun k => small_two (gN_lt (qs := qs.take k) fun q hq => F.out q (List.mem_of_mem_take hq)) (by have := HK.out; omega)
  have SL : Hid (∀ k, k ≤ qs.length → Small (lD (qs.take k))) := fun k hk => by
    have h1 := lD_le F.out k
    have h2 : k * K ≤ qs.length * K := Nat.mul_le_mul_right _ hk
    exact small_two (k := k * K + 1) (Nat.lt_of_le_of_lt h1 (Nat.pow_lt_pow_right (by decide) (by omega))) (by have := HK.out; omega)
  go_enter Tryz.func145, Tryz.ntmps145
  go_wp2_with fail
  refine (one_calls _).mono ?_
  rintro e w1 ⟨hb1, v1, rfl, hv1⟩
  have HV1 := hideIt hv1
  have HB1 := hideIt hb1
  clear hv1 hb1
  go_wp2
  go_loopw [3, 4, 14] (fun vu vl i wr => ∃ k : Nat, k ≤ qs.length ∧ i = .int .i64 (k : Int) ∧ NatN wr vu (gN (qs.take k)) ∧ NatN wr vl (lD (qs.take k)) ∧ Below w.heap.size w wr) (fun _ _ i _ => qs.length - (intOf i).toNat)
  case atStart =>
    refine ⟨0, Nat.zero_le _, rfl, ?_, ?_, HB1.out⟩
    · exact NatN.nil _ _ _
    · exact HV1.out
  case round =>
    obtain ⟨k, hkl, rfl, hu, hl, hbel⟩ := hrel
    have HU := hideIt hu
    have HL := hideIt hl
    have hsz' := hideIt hbel.size
    clear hu hl
    by_cases hend : k = qs.length
    · subst hend
      have hmk := make_qs qs.length hn
      rw [List.take_length] at HU HL
      go_wp2_with fail
      have hbn := below_new wr (.cells (madeCells #[.bool false, .slice none 0 0, .slice none 0 0] (qs.length * 3)) 84)
      have hqn := qblk_made wr qs.length
      have hbel1 := hbel.trans (hbn.mono hsz'.out)
      refine (firstBelow_calls (HR.out.below hbel1) hn).mono ?_
      rintro e w2 ⟨hb2, rfl⟩
      have HQB := hideIt (hqn.below hb2)
      have hbw := hbn.trans (hb2.mono hbn.size)
      have HU2 := hideIt (HU.out.below hbw)
      have HL2 := hideIt (HL.out.below hbw)
      have hbel2 := hideIt (hbel.trans (hbw.mono hsz'.out))
      clear hqn hmk
      obtain ⟨g, hg⟩ : ∃ g, g = wr.heap.size := ⟨_, rfl⟩
      rw [← hg] at HQB ⊢
      have HGE : Hid (w.heap.size ≤ g) := by rw [hg]; exact hsz'.out
      clear hg hbn hbel1 hb2 hbw
      have HLP : Hid (lD qs ≠ 0) := Nat.ne_of_gt (lD_pos qs)
      have SLA : Hid (Small (lD qs)) := by have := SL.out qs.length (Nat.le_refl _); rwa [List.take_length] at this
      have SGA : Hid (Small (gN qs)) := by have := SG.out qs.length; rwa [List.take_length] at this
      go_wp2
      go_loopw [39] (fun i wx => ∃ k : Nat, k ≤ qs.length ∧ i = .int .i64 (k : Int) ∧ QBlk wx g (mix qs k) ∧ NatN wx u3 (gN qs) ∧ NatN wx u4 (lD qs) ∧ Below w.heap.size w wx) (fun i _ => qs.length - (intOf i).toNat)
      case atStart => exact ⟨0, Nat.zero_le _, rfl, by rw [mix_zero]; exact HQB.out, HU2.out, HL2.out, hbel2.out⟩
      case round =>
        rename World => wx
        obtain ⟨k, hkl, rfl, hqb, hu, hl, hbel⟩ := hrel
        have HQ := hideIt hqb
        have HU := hideIt hu
        have HL := hideIt hl
        have hszx := hideIt hbel.size
        have hgl := hideIt hqb.lt
        clear hqb hu hl
        by_cases hend : k = qs.length
        · subst hend
          go_wp2
          go_ret
          refine ⟨hbel, _, rfl, ?_, ⟨g, _, _, _, rfl, HGE.out⟩⟩
          have := HQ.out.row qs.length
          rw [mix_len _ _ (Nat.le_refl _), mix_all] at this
          exact this
        · have hlt : k < qs.length := by omega
          have hidx := qrow_idx (b := b) (off := off) (cap := cap) hlt
          have hidx2 := qrow_idx (b := g) (off := 0) (cap := qs.length) hlt
          rw [Nat.zero_add] at hidx2
          obtain ⟨b', off', cap', e, hbl, hcells⟩ := HR.out
          cases e
          obtain ⟨d, d0, d1, d2, hd⟩ := hcells k hlt
          have HD := hideIt (hd.below hbel)
          have z0 := (hbel.cell (p := ⟨b, off + k * 3, none⟩) hbl).trans d0
          have z1 := (hbel.cell (p := ⟨b, off + k * 3 + 1, none⟩) hbl).trans d1
          have z2 := (hbel.cell (p := ⟨b, off + k * 3 + 2, none⟩) hbl).trans d2
          have HDU := hideIt (qv_parts (hd.below hbel)).2.1
          have HDN := hideIt (qv_parts (hd.below hbel)).1
          have S1 := hideIt (SM.out _ (List.getElem_mem hlt))
          have HMS := hideIt (mix_set hlt)
          have HM0 := hideIt (fun h => mix_same hlt h)
          have HDV := hideIt (lD_dvd (List.getElem_mem hlt))
          have HGP := hideIt (fun h => gN_pos (List.getElem_mem hlt) h)
          have HML := hideIt (mix_len qs k hkl)
          clear d0 d1 d2 hd hcells
          generalize qs[k]'hlt = q at *
          go_wp2_with fail
          have hbn := below_new wx (.cells #[.bool d.n, .slice d.u d.nu d.cu, .slice d.l d.nl d.cl] 84)
          have hkn := Blk.new wx #[.bool d.n, .slice d.u d.nu d.cu, .slice d.l d.nl d.cl] 84
          refine (sign_calls (HD.out.below hbn)).mono ?_
          rintro e w3 ⟨hb3, rfl⟩
          have hbw := hbn.trans (hb3.mono hbn.size)
          have HK3 := hideIt (hkn.below hb3 hkn.lt)
          have hlt3 : Hid (wx.heap.size < w3.heap.size) := HK3.out.lt
          have HD3 := hideIt (HD.out.below hbw)
          have HU3 := hideIt (HU.out.below hbw)
          have HL3 := hideIt (HL.out.below hbw)
          have HDU3 := hideIt (HDU.out.below hbw)
          have HQ3 := hideIt (HQ.out.below hbw)
          have hbel3 := hideIt (hbel.trans (hbw.mono hszx.out))
          by_cases h0 : q.num = 0
          · rw [if_pos h0]
            have H0 := hideIt h0
            clear h0
            go_wp2
            go_roundw
            case rel =>
              refine ⟨k + 1, hlt, by go_num, ?_, HU3.out, HL3.out, hbel3.out⟩
              rw [← HM0.out H0.out]
              exact HQ3.out
            case measure => simp [intOf]; omega
          · rw [if_neg h0]
            have hne : ((if q.num < 0 then (-1 : Int) else 1) != 0) = true := by split <;> rfl
            generalize (if q.num < 0 then (-1 : Int) else 1) = z at *
            have H0 := hideIt h0
            have hG0 : Hid (0 < gN qs) := HGP.out h0
            have S5 : Hid (Small (q.num.natAbs / gN qs)) := small_le S1.out.1 (Nat.div_le_self _ _)
            have S6 : Hid (Small (lD qs / q.den)) := small_le SLA.out (Nat.div_le_self _ _)
            have hD0 : Hid (0 < q.den) := Nat.pos_of_ne_zero q.den_nz
            clear h0 z0 z1 z2
            obtain ⟨z0, z1, z2, _, _, _⟩ := HK3.out.all3
            go_wp2_with fail
            go_region_held3 (fun w' => w'.cell? ⟨wx.heap.size, 0, none⟩ = some (.bool d.n) ∧ w'.cell? ⟨wx.heap.size, 1, none⟩ = some (.slice d.u d.nu d.cu) ∧ w'.cell? ⟨wx.heap.size, 2, none⟩ = some (.slice d.l d.nl d.cl)) (first | go_keep | exact hs4 | exact hs5 | exact hs6 | exact hs7 | exact hs8 | exact hs9 | exact hkS)
              (first
                | (go_at_call 118; refine (ready_calls (neg := d.n != fb qs) (hv7.below hb8) hv8 (by decide) (Nat.coprime_one_right _)).mono ?_; rintro e w9 ⟨hb9, v9, rfl, hv9⟩; rw [fr_int] at hv9; have hbl9 := hbl8.trans (hb9.mono hbl8.size); have hs9 := (HK3.out.below hbl9 hlt3.out).cells3; obtain ⟨d9, rfl⟩ := qv_open hv9; have hq9 := HQ3.out.below hbl9; obtain ⟨_, x0, x1, x2, y0, y1, y2⟩ := hq9.facts (k := k) (by rw [HML.out]; exact hlt); have hkS := (((HK3.out.below hbl9 hlt3.out).other (g' := g) (Nat.ne_of_lt hgl.out) (k * 3) (.bool d9.n)).other (g' := g) (Nat.ne_of_lt hgl.out) (k * 3 + 1) (.slice d9.u d9.nu d9.cu)).other (g' := g) (Nat.ne_of_lt hgl.out) (k * 3 + 2) (.slice d9.l d9.nl d9.cl) |>.cells3)
                | (go_at_call 120; refine (one_calls _).mono ?_; rintro e w8 ⟨hb8, v8, rfl, hv8⟩; have hbl8 := hbl7.trans (hb8.mono hbl7.size); have hs8 := (HK3.out.below hbl8 hlt3.out).cells3)
                | (go_at_call 152; refine (multiply_calls ((hv4.below hb5).below hb6) hv6 S5.out S6.out).mono ?_; rintro e w7 ⟨hb7, v7, rfl, hv7⟩; have hbl7 := hbl6.trans (hb7.mono hbl6.size); have hs7 := (HK3.out.below hbl7 hlt3.out).cells3)
                | (have hx := hv5; go_at_call 153; refine (over_calls (HL3.out.below hbl5) hv5 SLA.out S1.out.2 hD0.out).mono ?_; rintro e w6 ⟨hb6, v6, rfl, hv6⟩; have hbl6 := hbl5.trans (hb6.mono hbl5.size); have hs6 := (HK3.out.below hbl6 hlt3.out).cells3)
                | (go_at_call 150; refine (lower_calls (HD3.out.below hbl4)).mono ?_; rintro e w5 ⟨hb5, v5, rfl, hv5⟩; have hbl5 := hbl4.trans (hb5.mono hbl4.size); have hs5 := (HK3.out.below hbl5 hlt3.out).cells3)
                | (go_at_call 153; refine (over_calls (w := w3.drew) (HDU3.out.below (Below.drew (Below.refl _ _))) (HU3.out.below (Below.drew (Below.refl _ _))) S1.out.1 SGA.out hG0.out).mono ?_; rintro e w4 ⟨hb4, v4, rfl, hv4⟩; have hbl4 : Below w3.heap.size w3 w4 := (Below.drew (Below.refl _ w3)).trans hb4; have hs4 := (HK3.out.below hbl4 hlt3.out).cells3)
                )
            all_goals
              go_wp2
              go_roundw
              case rel =>
                obtain ⟨hput, hst⟩ := hq9.put (k := k) (by rw [HML.out]; exact hlt) hv9
                have hge := HGE.out
                refine ⟨k + 1, hlt, by go_num, ?_, hst.nat (HU3.out.below hbl9), hst.nat (HL3.out.below hbl9), Below.set (Below.set (Below.set (hbel3.out.trans (hbl9.mono hbel3.out.size)) hge _ _) hge _ _) hge _ _⟩
                rw [← HMS.out]
                have e : ((sg (d.n != fb qs) (q.num.natAbs / gN qs * (lD qs / q.den)) : Int) : Rat) = pl (gN qs) (lD qs) (fb qs) q := by rw [HDN.out]; rfl
                rw [e] at hput
                exact hput
              case measure => simp [intOf]; omega
    · have hlt : k < qs.length := by omega
      have hidx := qrow_idx (b := b) (off := off) (cap := cap) hlt
      obtain ⟨b', off', cap', e, hbl, hcells⟩ := HR.out
      cases e
      obtain ⟨d, d0, d1, d2, hd⟩ := hcells k hlt
      have HD := hideIt (hd.below hbel)
      have z0 := (hbel.cell (p := ⟨b, off + k * 3, none⟩) hbl).trans d0
      have z1 := (hbel.cell (p := ⟨b, off + k * 3 + 1, none⟩) hbl).trans d1
      have z2 := (hbel.cell (p := ⟨b, off + k * 3 + 2, none⟩) hbl).trans d2
      have hdu := (qv_parts (hd.below hbel)).2.1
      have HDU := hideIt hdu
      have S1 := hideIt (SM.out _ (List.getElem_mem hlt))
      have S2 := hideIt (SG.out k)
      have S3 := hideIt (SL.out k hkl)
      have HG := hideIt (gN_take hlt)
      have HLD := hideIt (lD_take hlt)
      clear d0 d1 d2 hd hcells hdu
      have hgp : Hid (0 < Nat.gcd (lD (qs.take k)) (qs[k]'hlt).den) := Nat.gcd_pos_of_pos_left _ (lD_pos _)
      have S4 : Hid (Small (Nat.gcd (lD (qs.take k)) (qs[k]'hlt).den)) := small_le S1.out.2 (Nat.le_of_dvd (Nat.pos_of_ne_zero (qs[k]'hlt).den_nz) (Nat.gcd_dvd_right _ _))
      have S5 : Hid (Small ((qs[k]'hlt).den / Nat.gcd (lD (qs.take k)) (qs[k]'hlt).den)) := small_le S1.out.2 (Nat.div_le_self _ _)
      generalize qs[k]'hlt = q at *
      generalize lD (qs.take k) = M at *
      generalize gN (qs.take k) = G at *
      go_wp2_with fail
      have hbn := below_new wr (.cells #[.bool d.n, .slice d.u d.nu d.cu, .slice d.l d.nl d.cl] 84)
      have hkn := Blk.new wr #[.bool d.n, .slice d.u d.nu d.cu, .slice d.l d.nl d.cl] 84
      refine (gcd_walk (HU.out.below hbn) (HDU.out.below hbn) S2.out S1.out.1).mono ?_
      rintro e w2 ⟨hb2, vg, rfl, hvg⟩
      have hbw := hbn.trans (hb2.mono hbn.size)
      have HK2 := hideIt (hkn.below hb2 hkn.lt)
      have HD2 := hideIt (HD.out.below hbw)
      have HL2 := hideIt (HL.out.below hbw)
      have HGV := hideIt hvg
      have hlt2 : Hid (wr.heap.size < w2.heap.size) := HK2.out.lt
      clear hvg z0 z1 z2
      obtain ⟨z0, z1, z2, _, _, _⟩ := HK2.out.all3
      go_wp2_with fail
      go_region_held3 (fun w' => w'.cell? ⟨wr.heap.size, 0, none⟩ = some (.bool d.n) ∧ w'.cell? ⟨wr.heap.size, 1, none⟩ = some (.slice d.u d.nu d.cu) ∧ w'.cell? ⟨wr.heap.size, 2, none⟩ = some (.slice d.l d.nl d.cl)) (first | go_keep | exact hs3 | exact hs4 | exact hs5 | exact hs6 | exact hs7)
        (first
          | (go_at_call 152; refine (multiply_calls ((HL2.out.below hbl6)) hv6 S3.out S5.out).mono ?_; rintro e w7 ⟨hb7, v7, rfl, hv7⟩; have hbl7 := hbl6.trans (hb7.mono hbl6.size); have hs7 := (HK2.out.below hbl7 hlt2.out).cells3)
          | (go_at_call 153; refine (over_calls ((hv3.below hb4).below hb5) hv5 S1.out.2 S4.out hgp.out).mono ?_; rintro e w6 ⟨hb6, v6, rfl, hv6⟩; have hbl6 := hbl5.trans (hb6.mono hbl5.size); have hs6 := (HK2.out.below hbl6 hlt2.out).cells3)
          | (go_at_call 151; refine (gcd_walk (HL2.out.below hbl4) hv4 S3.out S1.out.2).mono ?_; rintro e w5 ⟨hb5, v5, rfl, hv5⟩; have hbl5 := hbl4.trans (hb5.mono hbl4.size); have hs5 := (HK2.out.below hbl5 hlt2.out).cells3)
          | (have hx := hv3; go_at_call 150; refine (lower_calls (HD2.out.below hbl3)).mono ?_; rintro e w4 ⟨hb4, v4, rfl, hv4⟩; have hbl4 := hbl3.trans (hb4.mono hbl3.size); have hs4 := (HK2.out.below hbl4 hlt2.out).cells3)
          | (go_at_call 150; refine (lower_calls (w := w2.drew) (HD2.out.below (Below.drew (Below.refl _ _)))).mono ?_; rintro e w3 ⟨hb3, v3, rfl, hv3⟩; have hbl3 : Below w2.heap.size w2 w3 := (Below.drew (Below.refl _ w2)).trans hb3; have hs3 := (HK2.out.below hbl3 hlt2.out).cells3)
          )
      all_goals
        go_wp2
        go_roundw
        case rel =>
          refine ⟨k + 1, hlt, by go_num, ?_, ?_, hbel.trans ((hbw.trans (hbl7.mono hbw.size)).mono hsz'.out)⟩
          · rw [HG.out]; exact HGV.out.below hbl7
          · rw [HLD.out]; exact hv7
        case measure => simp [intOf]; omega
theorem plain_new {w : World} {v : Value} {qs : List Rat} (h : QRow w v qs) {K : Nat} (f : ∀ q ∈ qs, QS K q) (hn : qs.length ≤ 1000000) (hk : qs.length * K + K + 2 ≤ 35184372088640) :
    Calls Tryz.prog 145 #[v] w fun e w' => Below w.heap.size w w' ∧ ∃ v', e = .returned v' ∧ QRow w' v' (plain qs) ∧ NewAt w v' := by
  have h' := h
  obtain ⟨b, off, cap, rfl, _⟩ := h
  exact plain_walk h' f hn hk
theorem plain_calls {w : World} {v : Value} {qs : List Rat} (h : QRow w v qs) {K : Nat} (f : ∀ q ∈ qs, QS K q) (hn : qs.length ≤ 1000000) (hk : qs.length * K + K + 2 ≤ 35184372088640) :
    Calls Tryz.prog 145 #[v] w fun e w' => Below w.heap.size w w' ∧ ∃ v', e = .returned v' ∧ QRow w' v' (plain qs) := by
  refine (plain_new h f hn hk).mono ?_
  rintro e w' ⟨hb, v', rfl, hv, _⟩
  exact ⟨hb, v', rfl, hv⟩
end Go.Proofs.YtgajdmadbdbabaaGreatDoor
/- WM -/
namespace Go.Proofs.YtgajdmadbdbabaaGreatDoor
open Go.RowKit Cx
attribute [local go_sem ↓] Go.wp_at_zero Go.wp_at_succ
theorem QS.pl {K : Nat} {qs : List Rat} (h : ∀ q ∈ qs, QS K q) {q : Rat} (hq : q ∈ qs) : QS (K + qs.length * K + 1) (pl (gN qs) (lD qs) (fb qs) q) := by
  unfold Cx.pl
  have h1 := (h q hq).num
  have h2 := lD_le h qs.length
  rw [List.take_length] at h2
  have e : ∀ z : Int, ((z : Int) : Rat) = mkRat z 1 := fun z => (Rat.mkRat_one _).symm
  rw [e]
  apply QS.mkr
  · rw [sg_abs]
    have h3 : q.num.natAbs / gN qs ≤ q.num.natAbs := Nat.div_le_self _ _
    have h4 : lD qs / q.den ≤ lD qs := Nat.div_le_self _ _
    have h5 : q.num.natAbs / gN qs * (lD qs / q.den) ≤ q.num.natAbs * 2 ^ (qs.length * K) := Nat.mul_le_mul h3 (Nat.le_trans h4 h2)
    have h6 : q.num.natAbs * 2 ^ (qs.length * K) < 2 ^ K * 2 ^ (qs.length * K) := Nat.mul_lt_mul_of_pos_right h1 (Nat.pow_pos (by decide))
    rw [Nat.pow_succ, Nat.pow_add]
    omega
  · exact Nat.one_lt_two_pow (by omega)
theorem cell_put3 (w : World) {g g' : Nat} (hne : g' ≠ g) (j : Nat) (x0 x1 x2 : Value) : (((w.setCell ⟨g', 0, none⟩ x0).setCell ⟨g', 1, none⟩ x1).setCell ⟨g', 2, none⟩ x2).cell? ⟨g, j, none⟩ = w.cell? ⟨g, j, none⟩ := by
  have h : ∀ i : Nat, (⟨g, j, none⟩ : Addr) ≠ ⟨g', i, none⟩ := fun i e => hne (congrArg Addr.block e).symm
  rw [World.cell?_setCell_other _ _ _ _ (by first | exact h 2 | exact (h 2).symm | simpa using hne | simpa using hne.symm), World.cell?_setCell_other _ _ _ _ (by first | exact h 1 | exact (h 1).symm | simpa using hne | simpa using hne.symm), World.cell?_setCell_other _ _ _ _ (by first | exact h 0 | exact (h 0).symm | simpa using hne | simpa using hne.symm)]
theorem rulerText_walk {w : World} {a b c : C3} {x y z : Rat} (hx : QV w (.agg #[.bool a.n, .slice a.u a.nu a.cu, .slice a.l a.nl a.cl]) x) (hy : QV w (.agg #[.bool b.n, .slice b.u b.nu b.cu, .slice b.l b.nl b.cl]) y) (hz : QV w (.agg #[.bool c.n, .slice c.u c.nu c.cu, .slice c.l c.nl c.cl]) z) {K : Nat} (f1 : QS K x) (f2 : QS K y) (f3 : QS K z) (hk : 4 * K + 2 ≤ 35184372088640) (tab : Tab w) :
    Calls Tryz.prog 94 #[.agg #[.bool a.n, .slice a.u a.nu a.cu, .slice a.l a.nl a.cl, .bool b.n, .slice b.u b.nu b.cu, .slice b.l b.nl b.cl, .bool c.n, .slice c.u c.nu c.cu, .slice c.l c.nl c.cl]] w fun e w' => Below w.heap.size w w' ∧ ∃ v, e = .returned v ∧ TV v (tx (pl (gN [x, y, z]) (lD [x, y, z]) (fb [x, y, z]) x)) (tx (pl (gN [x, y, z]) (lD [x, y, z]) (fb [x, y, z]) y)) (tx (pl (gN [x, y, z]) (lD [x, y, z]) (fb [x, y, z]) z)) := by
  obtain ⟨hb0, hk0, hk1, hsz⟩ := boxes2 w #[.bool a.n, .slice a.u a.nu a.cu, .slice a.l a.nl a.cl, .bool b.n, .slice b.u b.nu b.cu, .slice b.l b.nl b.cl, .bool c.n, .slice c.u c.nu c.cu, .slice c.l c.nl c.cl] #[.string ⟨#[]⟩, .string ⟨#[]⟩, .string ⟨#[]⟩] 97 26
  have HB0 := hideIt hb0
  have HSZ := hideIt hsz
  have HK0 := hideIt hk0
  have HK1 := hideIt hk1
  have HX := hideIt (hx.below hb0)
  have HY := hideIt (hy.below hb0)
  have HZ := hideIt (hz.below hb0)
  have HTAB := hideIt (tab.below hb0)
  have FA := hideIt (all3 f1 f2 f3)
  have HK := hideIt hk
  clear hb0 hsz hk0 hk1 hx hy hz tab f1 f2 f3 hk
  have P1 : Hid (QS (K + 3 * K + 1) (pl (gN [x, y, z]) (lD [x, y, z]) (fb [x, y, z]) x)) := QS.pl FA.out (by simp)
  have P2 : Hid (QS (K + 3 * K + 1) (pl (gN [x, y, z]) (lD [x, y, z]) (fb [x, y, z]) y)) := QS.pl FA.out (by simp)
  have P3 : Hid (QS (K + 3 * K + 1) (pl (gN [x, y, z]) (lD [x, y, z]) (fb [x, y, z]) z)) := QS.pl FA.out (by simp)
  have K1 : Hid (K + 3 * K + 1 ≤ 35184372088640) := by have := HK.out; show _ ≤ _; omega
  have K2 : Hid (([x, y, z] : List Rat).length * K + K + 2 ≤ 35184372088640) := by have := HK.out; show 3 * K + K + 2 ≤ _; omega
  have HPL : Hid (plain [x, y, z] = [pl (gN [x, y, z]) (lD [x, y, z]) (fb [x, y, z]) x, pl (gN [x, y, z]) (lD [x, y, z]) (fb [x, y, z]) y, pl (gN [x, y, z]) (lD [x, y, z]) (fb [x, y, z]) z]) := rfl
  go_enter Tryz.func94, Tryz.ntmps94
  go_wp2_with fail
  generalize ((w.alloc (.cells #[.bool a.n, .slice a.u a.nu a.cu, .slice a.l a.nl a.cl, .bool b.n, .slice b.u b.nu b.cu, .slice b.l b.nl b.cl, .bool c.n, .slice c.u c.nu c.cu, .slice c.l c.nl c.cl] 97)).alloc (.cells #[.string ⟨#[]⟩, .string ⟨#[]⟩, .string ⟨#[]⟩] 26)) = W0 at *
  have hbA := below_new W0 (.cells #[.bool a.n, .slice a.u a.nu a.cu, .slice a.l a.nl a.cl, .bool b.n, .slice b.u b.nu b.cu, .slice b.l b.nl b.cl, .bool c.n, .slice c.u c.nu c.cu, .slice c.l c.nl c.cl] 84)
  have hq3 := qrow3 HX.out HY.out HZ.out
  rw [HSZ.out] at hq3
  refine (plain_calls hq3 FA.out (by simp) K2.out).mono ?_
  rintro e w1 ⟨hb1, v1, rfl, hv1⟩
  rw [HPL.out] at hv1
  have hbl1 := hideIt (hbA.trans (hb1.mono hbA.size))
  have HK1' := hideIt (HK1.out.below hbl1.out (by rw [HSZ.out]; omega))
  have HTAB1 := hideIt (HTAB.out.below hbl1.out)
  obtain ⟨r0, r1, r2, j0, j1, j2⟩ := HK1'.out.all3
  obtain ⟨p, hp⟩ : ∃ p, p = pl (gN [x, y, z]) (lD [x, y, z]) (fb [x, y, z]) x := ⟨_, rfl⟩
  rw [← hp] at hv1 P1
  have Hp := hideIt hp
  clear hp
  obtain ⟨q, hq⟩ : ∃ q, q = pl (gN [x, y, z]) (lD [x, y, z]) (fb [x, y, z]) y := ⟨_, rfl⟩
  rw [← hq] at hv1 P2
  have Hq := hideIt hq
  clear hq
  obtain ⟨r, hr⟩ : ∃ r, r = pl (gN [x, y, z]) (lD [x, y, z]) (fb [x, y, z]) z := ⟨_, rfl⟩
  rw [← hr] at hv1 P3
  have Hr := hideIt hr
  clear hr
  obtain ⟨g, off, cap, rfl, hgl, hcells⟩ := hv1
  obtain ⟨d, d0, d1, d2, hd⟩ := hcells 0 (by simp)
  obtain ⟨e, e0, e1, e2, he⟩ := hcells 1 (by simp)
  obtain ⟨f, f0, f1, f2, hf⟩ := hcells 2 (by simp)
  have i0 : ∀ wx, (Instr.indexAt 163 (.slice (some ⟨g, off, none⟩) 3 cap) (.int .i64 0)).run Tryz.prog wx = .ok (.pointer (some ⟨g, off, none⟩)) wx := fun wx => qrow_idx (k := 0) (by decide) wx
  have i1 : ∀ wx, (Instr.indexAt 163 (.slice (some ⟨g, off, none⟩) 3 cap) (.int .i64 1)).run Tryz.prog wx = .ok (.pointer (some ⟨g, off + 3, none⟩)) wx := fun wx => qrow_idx (k := 1) (by decide) wx
  have i2 : ∀ wx, (Instr.indexAt 163 (.slice (some ⟨g, off, none⟩) 3 cap) (.int .i64 2)).run Tryz.prog wx = .ok (.pointer (some ⟨g, off + 6, none⟩)) wx := fun wx => qrow_idx (k := 2) (by decide) wx
  have HD : Hid (QV w1 (.agg #[.bool d.n, .slice d.u d.nu d.cu, .slice d.l d.nl d.cl]) p) := hd
  have HE : Hid (QV w1 (.agg #[.bool e.n, .slice e.u e.nu e.cu, .slice e.l e.nl e.cl]) q) := he
  have HF : Hid (QV w1 (.agg #[.bool f.n, .slice f.u f.nu f.cu, .slice f.l f.nl f.cl]) r) := hf
  have HS0 : Hid (w1.cell? ⟨g, off, none⟩ = some (.bool d.n) ∧ w1.cell? ⟨g, off + 1, none⟩ = some (.slice d.u d.nu d.cu) ∧ w1.cell? ⟨g, off + 2, none⟩ = some (.slice d.l d.nl d.cl) ∧ w1.cell? ⟨g, off + 3, none⟩ = some (.bool e.n) ∧ w1.cell? ⟨g, off + 4, none⟩ = some (.slice e.u e.nu e.cu) ∧ w1.cell? ⟨g, off + 5, none⟩ = some (.slice e.l e.nl e.cl) ∧ w1.cell? ⟨g, off + 6, none⟩ = some (.bool f.n) ∧ w1.cell? ⟨g, off + 7, none⟩ = some (.slice f.u f.nu f.cu) ∧ w1.cell? ⟨g, off + 8, none⟩ = some (.slice f.l f.nl f.cl)) := ⟨d0, d1, d2, e0, e1, e2, f0, f1, f2⟩
  have HS : Hid (∀ w', Below w1.heap.size w1 w' → w'.cell? ⟨g, off, none⟩ = some (.bool d.n) ∧ w'.cell? ⟨g, off + 1, none⟩ = some (.slice d.u d.nu d.cu) ∧ w'.cell? ⟨g, off + 2, none⟩ = some (.slice d.l d.nl d.cl) ∧ w'.cell? ⟨g, off + 3, none⟩ = some (.bool e.n) ∧ w'.cell? ⟨g, off + 4, none⟩ = some (.slice e.u e.nu e.cu) ∧ w'.cell? ⟨g, off + 5, none⟩ = some (.slice e.l e.nl e.cl) ∧ w'.cell? ⟨g, off + 6, none⟩ = some (.bool f.n) ∧ w'.cell? ⟨g, off + 7, none⟩ = some (.slice f.u f.nu f.cu) ∧ w'.cell? ⟨g, off + 8, none⟩ = some (.slice f.l f.nl f.cl)) := fun w' hb => ⟨(hb.cell (p := ⟨g, off, none⟩) hgl).trans HS0.out.1, (hb.cell (p := ⟨g, off + 1, none⟩) hgl).trans HS0.out.2.1, (hb.cell (p := ⟨g, off + 2, none⟩) hgl).trans HS0.out.2.2.1, (hb.cell (p := ⟨g, off + 3, none⟩) hgl).trans HS0.out.2.2.2.1, (hb.cell (p := ⟨g, off + 4, none⟩) hgl).trans HS0.out.2.2.2.2.1, (hb.cell (p := ⟨g, off + 5, none⟩) hgl).trans HS0.out.2.2.2.2.2.1, (hb.cell (p := ⟨g, off + 6, none⟩) hgl).trans HS0.out.2.2.2.2.2.2.1, (hb.cell (p := ⟨g, off + 7, none⟩) hgl).trans HS0.out.2.2.2.2.2.2.2.1, (hb.cell (p := ⟨g, off + 8, none⟩) hgl).trans HS0.out.2.2.2.2.2.2.2.2⟩
  have hne : Hid (w.heap.size + 1 ≠ g) := by
    rintro rfl
    have := HS0.out.1
    have h2 := HK1'.out.cell off
    rw [this] at h2
    match off, h2 with
    | 0, h2 => simp at h2
    | 1, h2 => simp at h2
    | 2, h2 => simp at h2
    | n + 3, h2 => simp at h2
  have HSS : Hid (∀ w', Below w1.heap.size w1 w' → ∀ x0 x1 x2 : Value, (((w'.setCell ⟨w.heap.size + 1, 0, none⟩ (x0)).setCell ⟨w.heap.size + 1, 1, none⟩ (x1)).setCell ⟨w.heap.size + 1, 2, none⟩ (x2)).cell? ⟨g, off, none⟩ = some (.bool d.n) ∧ (((w'.setCell ⟨w.heap.size + 1, 0, none⟩ (x0)).setCell ⟨w.heap.size + 1, 1, none⟩ (x1)).setCell ⟨w.heap.size + 1, 2, none⟩ (x2)).cell? ⟨g, off + 1, none⟩ = some (.slice d.u d.nu d.cu) ∧ (((w'.setCell ⟨w.heap.size + 1, 0, none⟩ (x0)).setCell ⟨w.heap.size + 1, 1, none⟩ (x1)).setCell ⟨w.heap.size + 1, 2, none⟩ (x2)).cell? ⟨g, off + 2, none⟩ = some (.slice d.l d.nl d.cl) ∧ (((w'.setCell ⟨w.heap.size + 1, 0, none⟩ (x0)).setCell ⟨w.heap.size + 1, 1, none⟩ (x1)).setCell ⟨w.heap.size + 1, 2, none⟩ (x2)).cell? ⟨g, off + 3, none⟩ = some (.bool e.n) ∧ (((w'.setCell ⟨w.heap.size + 1, 0, none⟩ (x0)).setCell ⟨w.heap.size + 1, 1, none⟩ (x1)).setCell ⟨w.heap.size + 1, 2, none⟩ (x2)).cell? ⟨g, off + 4, none⟩ = some (.slice e.u e.nu e.cu) ∧ (((w'.setCell ⟨w.heap.size + 1, 0, none⟩ (x0)).setCell ⟨w.heap.size + 1, 1, none⟩ (x1)).setCell ⟨w.heap.size + 1, 2, none⟩ (x2)).cell? ⟨g, off + 5, none⟩ = some (.slice e.l e.nl e.cl) ∧ (((w'.setCell ⟨w.heap.size + 1, 0, none⟩ (x0)).setCell ⟨w.heap.size + 1, 1, none⟩ (x1)).setCell ⟨w.heap.size + 1, 2, none⟩ (x2)).cell? ⟨g, off + 6, none⟩ = some (.bool f.n) ∧ (((w'.setCell ⟨w.heap.size + 1, 0, none⟩ (x0)).setCell ⟨w.heap.size + 1, 1, none⟩ (x1)).setCell ⟨w.heap.size + 1, 2, none⟩ (x2)).cell? ⟨g, off + 7, none⟩ = some (.slice f.u f.nu f.cu) ∧ (((w'.setCell ⟨w.heap.size + 1, 0, none⟩ (x0)).setCell ⟨w.heap.size + 1, 1, none⟩ (x1)).setCell ⟨w.heap.size + 1, 2, none⟩ (x2)).cell? ⟨g, off + 8, none⟩ = some (.slice f.l f.nl f.cl)) := by
    intro w' hb x0 x1 x2
    have h := HS.out w' hb
    simp only [cell_put3 w' hne.out]
    exact h
  clear d0 d1 d2 e0 e1 e2 f0 f1 f2 hd he hf hcells hb1 hbA hq3
  obtain ⟨z0, z1, z2, z3, z4, z5, z6, z7, z8⟩ := HS0.out
  go_wp2_with fail
  go_region_held3 (fun w' => w'.cell? ⟨g, off, none⟩ = some (.bool d.n) ∧ w'.cell? ⟨g, off + 1, none⟩ = some (.slice d.u d.nu d.cu) ∧ w'.cell? ⟨g, off + 2, none⟩ = some (.slice d.l d.nl d.cl) ∧ w'.cell? ⟨g, off + 3, none⟩ = some (.bool e.n) ∧ w'.cell? ⟨g, off + 4, none⟩ = some (.slice e.u e.nu e.cu) ∧ w'.cell? ⟨g, off + 5, none⟩ = some (.slice e.l e.nl e.cl) ∧ w'.cell? ⟨g, off + 6, none⟩ = some (.bool f.n) ∧ w'.cell? ⟨g, off + 7, none⟩ = some (.slice f.u f.nu f.cu) ∧ w'.cell? ⟨g, off + 8, none⟩ = some (.slice f.l f.nl f.cl)) (first | go_keep | exact hs2 | exact hs3 | exact hs4 | exact hkS)
    (first
      | (go_at_call_of 78 (Value.agg #[Value.bool d.n, Value.slice d.u d.nu d.cu, Value.slice d.l d.nl d.cl]); refine (text_calls (w := w1.drew) (HD.out.below (Below.drew (Below.refl _ _))) P1.out K1.out (HTAB1.out.below (Below.drew (Below.refl _ _)))).mono ?_; rintro e w2 ⟨hb2, s2, rfl, ht2⟩; have hbl2 : Below w1.heap.size w1 w2 := (Below.drew (Below.refl _ w1)).trans hb2; have hs2 := HS.out w2 hbl2)
      | (go_at_call_of 78 (Value.agg #[Value.bool e.n, Value.slice e.u e.nu e.cu, Value.slice e.l e.nl e.cl]); refine (text_calls (HE.out.below hbl2) P2.out K1.out (HTAB1.out.below hbl2)).mono ?_; rintro e w3 ⟨hb3, s3, rfl, ht3⟩; have hbl3 := hbl2.trans (hb3.mono hbl2.size); have hs3 := HS.out w3 hbl3)
      | (go_at_call_of 78 (Value.agg #[Value.bool f.n, Value.slice f.u f.nu f.cu, Value.slice f.l f.nl f.cl]); refine (text_calls (HF.out.below hbl3) P3.out K1.out (HTAB1.out.below hbl3)).mono ?_; rintro e w4 ⟨hb4, s4, rfl, ht4⟩; have hbl4 := hbl3.trans (hb4.mono hbl3.size); have hs4 := HS.out w4 hbl4; have hkr := HK1'.out.below hbl4 HK1'.out.lt; obtain ⟨r0, r1, r2, j0, j1, j2⟩ := hkr.all3; have hkS := HSS.out w4 hbl4 (.string s2) (.string s3) (.string s4))
      )
  all_goals
    go_wp2
    obtain ⟨k0, k1, k2, _⟩ := (hkr.put3 (.string s2) (.string s3) (.string s4)).all3
    refine bodyPost_ret (v := .agg #[.string s2, .string s3, .string s4]) (by simp [results, Tryz.results94, go_sem, k0, k1, k2]) rfl ⟨Below.put3 (HB0.out.trans ((hbl1.out.trans (hbl4.mono hbl1.out.size)).mono HB0.out.size)) (by omega) _ _ _, _, rfl, ?_⟩
    exact ⟨s2, s3, s4, rfl, by rw [← Hp.out]; exact ht2, by rw [← Hq.out]; exact ht3, by rw [← Hr.out]; exact ht4⟩
theorem rulerText_calls {w : World} {v : Value} {x y z : Rat} (h : LV w v x y z) {K : Nat} (f1 : QS K x) (f2 : QS K y) (f3 : QS K z) (hk : 4 * K + 2 ≤ 35184372088640) (tab : Tab w) :
    Calls Tryz.prog 94 #[v] w fun e w' => Below w.heap.size w w' ∧ ∃ v, e = .returned v ∧ TV v (tx (x * fac [x, y, z])) (tx (y * fac [x, y, z])) (tx (z * fac [x, y, z])) := by
  obtain ⟨a, b, c, rfl, h1, h2, h3⟩ := h
  have := rulerText_walk h1 h2 h3 f1 f2 f3 hk tab
  rwa [pl_mul (qs := [x, y, z]) (by simp), pl_mul (qs := [x, y, z]) (by simp), pl_mul (qs := [x, y, z]) (by simp)] at this
theorem QS.fac {K : Nat} {x y z q : Rat} (f1 : QS K x) (f2 : QS K y) (f3 : QS K z) (h : q ∈ [x, y, z]) : QS (4 * K + 1) (q * fac [x, y, z]) := by
  rw [← pl_mul h]
  exact (QS.pl (all3 f1 f2 f3) h).mono (by simp; omega)
end Go.Proofs.YtgajdmadbdbabaaGreatDoor
/- WN -/
namespace Go.Proofs.YtgajdmadbdbabaaGreatDoor
open Go.RowKit Cx
attribute [local go_sem ↓] Go.wp_at_zero Go.wp_at_succ
theorem rulerRead_walk {w : World} {a b c : ByteArray} (s1 : a.data.toList.length ≤ 4294967296) (s2 : b.data.toList.length ≤ 4294967296) (s3 : c.size ≤ 4294967296) :
    Calls Tryz.prog 71 #[.agg #[.string a, .string b, .string c]] w fun e w' => Below w.heap.size w w' ∧ ((rd a.data.toList = 0 ∧ rd b.data.toList = 0 ∧ e = .returned (.tuple #[.agg #[.bool false, .slice none 0 0, .slice none 0 0, .bool false, .slice none 0 0, .slice none 0 0, .bool false, .slice none 0 0, .slice none 0 0], .int .i64 5])) ∨ (¬ (rd a.data.toList = 0 ∧ rd b.data.toList = 0) ∧ ∃ v, e = .returned (.tuple #[v, .int .i64 0]) ∧ LV w' v (rd a.data.toList) (rd b.data.toList) (rd c.data.toList))) := by
  obtain ⟨hb0, hk0, hk1, hsz⟩ := boxes2 w #[.string a, .string b, .string c] #[.bool false, .slice none 0 0, .slice none 0 0, .bool false, .slice none 0 0, .slice none 0 0, .bool false, .slice none 0 0, .slice none 0 0] 26 97
  have HB0 := hideIt hb0
  have HSZ := hideIt hsz
  have HK0 := hideIt hk0
  have HK1 := hideIt hk1
  have L1 := hideIt s1
  have L2 := hideIt s2
  have L3 := hideIt s3
  clear hb0 hsz hk0 hk1 s1 s2 s3
  go_enter Tryz.func71, Tryz.ntmps71
  go_wp2_with fail
  generalize ((w.alloc (.cells #[.string a, .string b, .string c] 26)).alloc (.cells #[.bool false, .slice none 0 0, .slice none 0 0, .bool false, .slice none 0 0, .slice none 0 0, .bool false, .slice none 0 0, .slice none 0 0] 97)) = W0 at *
  have HS : Hid (∀ w', Below W0.heap.size W0 w' → w'.cell? ⟨w.heap.size, 0, none⟩ = some (.string a) ∧ w'.cell? ⟨w.heap.size, 1, none⟩ = some (.string b) ∧ w'.cell? ⟨w.heap.size, 2, none⟩ = some (.string c)) := fun w' hb => ⟨(HK0.out.below hb (by rw [HSZ.out]; omega)).cell 0, (HK0.out.below hb (by rw [HSZ.out]; omega)).cell 1, (HK0.out.below hb (by rw [HSZ.out]; omega)).cell 2⟩
  have HSS : Hid (∀ w', Below W0.heap.size W0 w' → ∀ G, W0.heap.size ≤ G → ∀ x0 x1 x2 x3 x4 x5 x6 x7 x8 : Value, (((((((((w'.setCell ⟨G, 0, none⟩ (x0)).setCell ⟨G, 1, none⟩ (x1)).setCell ⟨G, 2, none⟩ (x2)).setCell ⟨G, 3, none⟩ (x3)).setCell ⟨G, 4, none⟩ (x4)).setCell ⟨G, 5, none⟩ (x5)).setCell ⟨G, 6, none⟩ (x6)).setCell ⟨G, 7, none⟩ (x7)).setCell ⟨G, 8, none⟩ (x8)).cell? ⟨w.heap.size, 0, none⟩ = some (.string a) ∧ (((((((((w'.setCell ⟨G, 0, none⟩ (x0)).setCell ⟨G, 1, none⟩ (x1)).setCell ⟨G, 2, none⟩ (x2)).setCell ⟨G, 3, none⟩ (x3)).setCell ⟨G, 4, none⟩ (x4)).setCell ⟨G, 5, none⟩ (x5)).setCell ⟨G, 6, none⟩ (x6)).setCell ⟨G, 7, none⟩ (x7)).setCell ⟨G, 8, none⟩ (x8)).cell? ⟨w.heap.size, 1, none⟩ = some (.string b) ∧ (((((((((w'.setCell ⟨G, 0, none⟩ (x0)).setCell ⟨G, 1, none⟩ (x1)).setCell ⟨G, 2, none⟩ (x2)).setCell ⟨G, 3, none⟩ (x3)).setCell ⟨G, 4, none⟩ (x4)).setCell ⟨G, 5, none⟩ (x5)).setCell ⟨G, 6, none⟩ (x6)).setCell ⟨G, 7, none⟩ (x7)).setCell ⟨G, 8, none⟩ (x8)).cell? ⟨w.heap.size, 2, none⟩ = some (.string c)) := fun w' hb G hG x0 x1 x2 x3 x4 x5 x6 x7 x8 => by
    have h := (HK0.out.below hb (by rw [HSZ.out]; omega)).off9 (g := G) (by have := HSZ.out; omega) x0 x1 x2 x3 x4 x5 x6 x7 x8
    exact ⟨h.cell 0, h.cell 1, h.cell 2⟩
  obtain ⟨z0, z1, z2⟩ := HS.out W0 (Below.refl _ _)
  go_cut [4] from 5 (fun p wc => ∃ G, p = .pointer (some ⟨G, 0, none⟩) ∧ W0.heap.size ≤ G ∧ Below W0.heap.size W0 wc ∧ ∃ d e f : C3, Blk wc G #[.bool d.n, .slice d.u d.nu d.cu, .slice d.l d.nl d.cl, .bool e.n, .slice e.u e.nu e.cu, .slice e.l e.nl e.cl, .bool f.n, .slice f.u f.nu f.cu, .slice f.l f.nl f.cl] 97 ∧ QV wc (.agg #[.bool d.n, .slice d.u d.nu d.cu, .slice d.l d.nl d.cl]) (rd a.data.toList) ∧ QV wc (.agg #[.bool e.n, .slice e.u e.nu e.cu, .slice e.l e.nl e.cl]) (rd b.data.toList) ∧ QV wc (.agg #[.bool f.n, .slice f.u f.nu f.cu, .slice f.l f.nl f.cl]) (rd c.data.toList))
  case first =>
    go_region_held3 (fun w' => w'.cell? ⟨w.heap.size, 0, none⟩ = some (.string a) ∧ w'.cell? ⟨w.heap.size, 1, none⟩ = some (.string b) ∧ w'.cell? ⟨w.heap.size, 2, none⟩ = some (.string c)) (first | (dsimp only; first | with_reducible exact hs1 | with_reducible exact hs2 | with_reducible exact HS.out _ (below_new W0 _) | with_reducible exact HS.out _ (hbl1.alloc hbl1.size _) | with_reducible exact HS.out _ (hbl2.alloc hbl2.size _) | with_reducible exact HSS.out _ hbl2 _ (Nat.le_refl _) _ _ _ _ _ _ _ _ _ | with_reducible exact HSS.out _ hbl2 _ hbl1.size _ _ _ _ _ _ _ _ _ | with_reducible exact HS.out _ (Below.drew (Below.refl _ _))) | (first | with_reducible exact hs1 | with_reducible exact hs2 | with_reducible exact HS.out _ (below_new W0 _) | with_reducible exact HS.out _ (hbl1.alloc hbl1.size _) | with_reducible exact HS.out _ (hbl2.alloc hbl2.size _) | with_reducible exact HSS.out _ hbl2 _ (Nat.le_refl _) _ _ _ _ _ _ _ _ _ | with_reducible exact HSS.out _ hbl2 _ hbl1.size _ _ _ _ _ _ _ _ _) | go_keep)
      (first
        | (go_at_call 62; refine (wayRead_calls ⟨a, b, rfl, rfl, rfl⟩ L1.out L2.out).mono ?_; rintro e w1 ⟨hb1, v1, rfl, hv1⟩; obtain ⟨d1, e1, rfl, hx1, hy1⟩ := hv1; (first | (have hbl1 : Below W0.heap.size W0 w1 := (Below.drew (Below.refl _ W0)).trans hb1) | (have hbl1 : Below W0.heap.size W0 w1 := (Below.drew (below_new W0 (.cells #[.bool false, .slice none 0 0, .slice none 0 0, .bool false, .slice none 0 0, .slice none 0 0, .bool false, .slice none 0 0, .slice none 0 0] 97))).trans (hb1.mono (Nat.le_of_lt (Blk.new W0 #[.bool false, .slice none 0 0, .slice none 0 0, .bool false, .slice none 0 0, .slice none 0 0, .bool false, .slice none 0 0, .slice none 0 0] 97).lt)); have hg1 := (show Blk (W0.alloc (.cells #[.bool false, .slice none 0 0, .slice none 0 0, .bool false, .slice none 0 0, .slice none 0 0, .bool false, .slice none 0 0, .slice none 0 0] 97)).drew W0.heap.size #[.bool false, .slice none 0 0, .slice none 0 0, .bool false, .slice none 0 0, .slice none 0 0, .bool false, .slice none 0 0, .slice none 0 0] 97 from Blk.new W0 #[.bool false, .slice none 0 0, .slice none 0 0, .bool false, .slice none 0 0, .slice none 0 0, .bool false, .slice none 0 0, .slice none 0 0] 97).below hb1 (Blk.new W0 #[.bool false, .slice none 0 0, .slice none 0 0, .bool false, .slice none 0 0, .slice none 0 0, .bool false, .slice none 0 0, .slice none 0 0] 97).lt)); have hs1 := HS.out w1 hbl1)
        | (go_at_call 69; refine (read_calls c _ L3.out).mono ?_; rintro e w2 ⟨hb2, v2, rfl, hv2⟩; obtain ⟨d2, rfl⟩ := qv_open hv2; (first | (have hc2 : Below w1.heap.size w1 w2 := hb2; try have hg2 := hg1.below hb2 hg1.lt) | (have hc2 : Below w1.heap.size w1 w2 := (below_new w1 (.cells #[.bool false, .slice none 0 0, .slice none 0 0, .bool false, .slice none 0 0, .slice none 0 0, .bool false, .slice none 0 0, .slice none 0 0] 97)).trans (hb2.mono (Nat.le_of_lt (Blk.new w1 #[.bool false, .slice none 0 0, .slice none 0 0, .bool false, .slice none 0 0, .slice none 0 0, .bool false, .slice none 0 0, .slice none 0 0] 97).lt)); have hg2 := (Blk.new w1 #[.bool false, .slice none 0 0, .slice none 0 0, .bool false, .slice none 0 0, .slice none 0 0, .bool false, .slice none 0 0, .slice none 0 0] 97).below hb2 (Blk.new w1 #[.bool false, .slice none 0 0, .slice none 0 0, .bool false, .slice none 0 0, .slice none 0 0, .bool false, .slice none 0 0, .slice none 0 0] 97).lt)); have hbl2 := hbl1.trans (hc2.mono hbl1.size); have hs2 := HS.out w2 hbl2; try obtain ⟨r0, r1, r2, r3, r4, r5, r6, r7, r8, f0, f1, f2, f3, f4, f5, f6, f7, f8⟩ := hg2.all9)
        )
    all_goals
      go_wp2_with fail
      go_meet
      (first | have hst := Stays.put9 hg2 (by simp [notLimb]) (.bool d1.n) (.slice d1.u d1.nu d1.cu) (.slice d1.l d1.nl d1.cl) (.bool e1.n) (.slice e1.u e1.nu e1.cu) (.slice e1.l e1.nl e1.cl) (.bool d2.n) (.slice d2.u d2.nu d2.cu) (.slice d2.l d2.nl d2.cl) rfl rfl rfl rfl rfl rfl rfl rfl rfl | skip)
      refine ⟨_, rfl, ?_, ?_, d1, e1, d2, ?_, ?_, ?_, ?_⟩
      · first | with_reducible exact Nat.le_refl _ | with_reducible exact hbl1.size | with_reducible exact hbl2.size
      · first | with_reducible exact Below.put9 hbl2 (Nat.le_refl _) _ _ _ _ _ _ _ _ _ | with_reducible exact Below.put9 hbl2 hbl1.size _ _ _ _ _ _ _ _ _ | with_reducible exact hbl2.alloc hbl2.size _
      · first | with_reducible exact hg2.put9 (.bool d1.n) (.slice d1.u d1.nu d1.cu) (.slice d1.l d1.nl d1.cl) (.bool e1.n) (.slice e1.u e1.nu e1.cu) (.slice e1.l e1.nl e1.cl) (.bool d2.n) (.slice d2.u d2.nu d2.cu) (.slice d2.l d2.nl d2.cl) | with_reducible exact Blk.new _ _ _
      · first | with_reducible exact hst.qv (hx1.below hc2) | with_reducible exact (hx1.below hc2).below (below_new _ _)
      · first | with_reducible exact hst.qv (hy1.below hc2) | with_reducible exact (hy1.below hc2).below (below_new _ _)
      · first | with_reducible exact hst.qv hv2 | with_reducible exact hv2.below (below_new _ _)
  case rest =>
    obtain ⟨G, rfl, hG, hbl, d, e, f, hk, hx, hy, hz⟩ := hcut
    have HX := hideIt hx
    have HY := hideIt hy
    have HZ := hideIt hz
    have HKG := hideIt hk
    have HG := hideIt hG
    have HBL := hideIt hbl
    obtain ⟨r0, r1, r2, r3, r4, r5, r6, r7, r8, f0, f1, f2, f3, f4, f5, f6, f7, f8⟩ := hk.all9
    clear hx hy hz hk hG hbl z0 z1 z2
    go_wp2_with fail
    refine (nowhere_calls ⟨d, e, rfl, HX.out, HY.out⟩).mono ?_
    rintro _ w3 ⟨hb3, rfl⟩
    clear r0 r1 r2 r3 r4 r5 r6 r7 r8 f0 f1 f2 f3 f4 f5 f6 f7 f8
    have hbl3 := hideIt (HBL.out.trans (hb3.mono HBL.out.size))
    have hk3 := hideIt (HKG.out.below hb3 HKG.out.lt)
    have hkr := hideIt (HK1.out.below hbl3.out (by rw [HSZ.out]; omega))
    have hbw := hideIt (HB0.out.trans (hbl3.out.mono HB0.out.size))
    have HX3 := hideIt (HX.out.below hb3)
    have HY3 := hideIt (HY.out.below hb3)
    have HZ3 := hideIt (HZ.out.below hb3)
    clear hb3
    obtain ⟨r0, r1, r2, r3, r4, r5, r6, r7, r8, f0, f1, f2, f3, f4, f5, f6, f7, f8⟩ := hk3.out.all9
    obtain ⟨q0, q1, q2, q3, q4, q5, q6, q7, q8, g0, g1, g2, g3, g4, g5, g6, g7, g8⟩ := hkr.out.all9
    by_cases h0 : rd a.data.toList = 0 ∧ rd b.data.toList = 0
    · rw [decide_eq_true h0]
      have H0 := hideIt h0
      clear h0
      go_wp2
      obtain ⟨k0, k1, k2, k3, k4, k5, k6, k7, k8, _⟩ := (hkr.out.put9 (.bool false) (.slice none 0 0) (.slice none 0 0) (.bool false) (.slice none 0 0) (.slice none 0 0) (.bool false) (.slice none 0 0) (.slice none 0 0)).all9
      refine bodyPost_ret (v := .tuple #[.agg #[.bool false, .slice none 0 0, .slice none 0 0, .bool false, .slice none 0 0, .slice none 0 0, .bool false, .slice none 0 0, .slice none 0 0], .int .i64 5]) (by simp [results, Tryz.results71, go_sem, k0, k1, k2, k3, k4, k5, k6, k7, k8]) rfl ⟨Below.put9 hbw.out (by omega) _ _ _ _ _ _ _ _ _, Or.inl ⟨H0.out.1, H0.out.2, rfl⟩⟩
    · rw [decide_eq_false h0]
      have H0 := hideIt h0
      clear h0
      go_wp2
      obtain ⟨k0, k1, k2, k3, k4, k5, k6, k7, k8, _⟩ := (hkr.out.put9 (.bool d.n) (.slice d.u d.nu d.cu) (.slice d.l d.nl d.cl) (.bool e.n) (.slice e.u e.nu e.cu) (.slice e.l e.nl e.cl) (.bool f.n) (.slice f.u f.nu f.cu) (.slice f.l f.nl f.cl)).all9
      have hst := Stays.put9 hkr.out (by simp [notLimb]) (.bool d.n) (.slice d.u d.nu d.cu) (.slice d.l d.nl d.cl) (.bool e.n) (.slice e.u e.nu e.cu) (.slice e.l e.nl e.cl) (.bool f.n) (.slice f.u f.nu f.cu) (.slice f.l f.nl f.cl) rfl rfl rfl rfl rfl rfl rfl rfl rfl
      refine bodyPost_ret (v := .tuple #[.agg #[.bool d.n, .slice d.u d.nu d.cu, .slice d.l d.nl d.cl, .bool e.n, .slice e.u e.nu e.cu, .slice e.l e.nl e.cl, .bool f.n, .slice f.u f.nu f.cu, .slice f.l f.nl f.cl], .int .i64 0]) (by simp [results, Tryz.results71, go_sem, k0, k1, k2, k3, k4, k5, k6, k7, k8]) rfl ⟨Below.put9 hbw.out (by omega) _ _ _ _ _ _ _ _ _, Or.inr ⟨H0.out, _, rfl, d, e, f, rfl, hst.qv HX3.out, hst.qv HY3.out, hst.qv HZ3.out⟩⟩
theorem rulerRead_calls {w : World} {v : Value} {la lb lc : List UInt8} (h : TV v la lb lc) (s1 : la.length ≤ 4294967296) (s2 : lb.length ≤ 4294967296) (s3 : lc.length ≤ 4294967296) :
    Calls Tryz.prog 71 #[v] w fun e w' => Below w.heap.size w w' ∧ ((rd la = 0 ∧ rd lb = 0 ∧ e = .returned (.tuple #[.agg #[.bool false, .slice none 0 0, .slice none 0 0, .bool false, .slice none 0 0, .slice none 0 0, .bool false, .slice none 0 0, .slice none 0 0], .int .i64 5])) ∨ (¬ (rd la = 0 ∧ rd lb = 0) ∧ ∃ v, e = .returned (.tuple #[v, .int .i64 0]) ∧ LV w' v (rd la) (rd lb) (rd lc))) := by
  obtain ⟨a, b, c, rfl, rfl, rfl, rfl⟩ := h
  rw [str_len c] at s3
  exact rulerRead_walk s1 s2 s3
end Go.Proofs.YtgajdmadbdbabaaGreatDoor
/- WO -/
namespace Go.Proofs.YtgajdmadbdbabaaGreatDoor
open Go.RowKit Cx
attribute [local go_sem ↓] Go.wp_at_zero Go.wp_at_succ
theorem square_walk {w : World} {p q a b : C3} {px py ax ay : Rat} (hpx : QV w (.agg #[.bool p.n, .slice p.u p.nu p.cu, .slice p.l p.nl p.cl]) px) (hpy : QV w (.agg #[.bool q.n, .slice q.u q.nu q.cu, .slice q.l q.nl q.cl]) py) (hax : QV w (.agg #[.bool a.n, .slice a.u a.nu a.cu, .slice a.l a.nl a.cl]) ax) (hay : QV w (.agg #[.bool b.n, .slice b.u b.nu b.cu, .slice b.l b.nl b.cl]) ay) {k l : Nat} (f1 : QS k ax) (f2 : QS k ay) (f3 : QS l px) (f4 : QS l py) (hk : 20 * (k + l + 1) ≤ 35184372088640) (tab : Tab w) :
    Calls Tryz.prog 63 #[.agg #[.bool p.n, .slice p.u p.nu p.cu, .slice p.l p.nl p.cl, .bool q.n, .slice q.u q.nu q.cu, .slice q.l q.nl q.cl], .agg #[.bool a.n, .slice a.u a.nu a.cu, .slice a.l a.nl a.cl, .bool b.n, .slice b.u b.nu b.cu, .slice b.l b.nl b.cl]] w fun e w' => Below w.heap.size w w' ∧ ((ax = 0 ∧ ay = 0 ∧ e = .returned (.tuple #[.agg #[.string ⟨#[]⟩, .string ⟨#[]⟩, .string ⟨#[]⟩], .int .i64 5])) ∨ (¬ (ax = 0 ∧ ay = 0) ∧ ∃ v, e = .returned (.tuple #[v, .int .i64 0]) ∧ TV v (tx (ax * fac [ax, ay, -(ax * px + ay * py)])) (tx (ay * fac [ax, ay, -(ax * px + ay * py)])) (tx (-(ax * px + ay * py) * fac [ax, ay, -(ax * px + ay * py)])))) := by
  obtain ⟨hb0, hk0, hk1, hk2, hsz⟩ := boxes3 w #[.bool p.n, .slice p.u p.nu p.cu, .slice p.l p.nl p.cl, .bool q.n, .slice q.u q.nu q.cu, .slice q.l q.nl q.cl] #[.bool a.n, .slice a.u a.nu a.cu, .slice a.l a.nl a.cl, .bool b.n, .slice b.u b.nu b.cu, .slice b.l b.nl b.cl] #[.string ⟨#[]⟩, .string ⟨#[]⟩, .string ⟨#[]⟩] 86 86 26
  have HB0 := hideIt hb0
  have HSZ := hideIt hsz
  have HK0 := hideIt hk0
  have HK1 := hideIt hk1
  have HK2 := hideIt hk2
  have HPX := hideIt (hpx.below hb0)
  have HPY := hideIt (hpy.below hb0)
  have HAX := hideIt (hax.below hb0)
  have HAY := hideIt (hay.below hb0)
  have HTAB := hideIt (tab.below hb0)
  have F1 := hideIt f1
  have F2 := hideIt f2
  have F3 := hideIt f3
  have F4 := hideIt f4
  have HK := hideIt hk
  clear hb0 hsz hk0 hk1 hk2 hpx hpy hax hay tab f1 f2 f3 f4 hk
  have K1 : Hid (2 * (k + l + 1) + 1 ≤ 35184372088640) := by have := HK.out; show _ ≤ _; omega
  have K2 : Hid (4 * (k + l + (k + l) + 1) + 2 ≤ 35184372088640) := by have := HK.out; show _ ≤ _; omega
  have G1 : Hid (QS (k + l + (k + l) + 1) ax) := F1.out.mono (by omega)
  have G2 : Hid (QS (k + l + (k + l) + 1) ay) := F2.out.mono (by omega)
  have G3 : Hid (QS (k + l + (k + l) + 1) (-(ax * px + ay * py))) := ((F1.out.mul F3.out).add (F2.out.mul F4.out)).neg
  go_enter Tryz.func63, Tryz.ntmps63
  go_wp2_with fail
  generalize (((w.alloc (.cells #[.bool p.n, .slice p.u p.nu p.cu, .slice p.l p.nl p.cl, .bool q.n, .slice q.u q.nu q.cu, .slice q.l q.nl q.cl] 86)).alloc (.cells #[.bool a.n, .slice a.u a.nu a.cu, .slice a.l a.nl a.cl, .bool b.n, .slice b.u b.nu b.cu, .slice b.l b.nl b.cl] 86)).alloc (.cells #[.string ⟨#[]⟩, .string ⟨#[]⟩, .string ⟨#[]⟩] 26)) = W0 at *
  refine (nowhere_calls ⟨a, b, rfl, HAX.out, HAY.out⟩).mono ?_
  rintro _ w1 ⟨hb1, rfl⟩
  have HS : Hid (∀ w', Below W0.heap.size W0 w' → w'.cell? ⟨w.heap.size, 0, none⟩ = some (.bool p.n) ∧ w'.cell? ⟨w.heap.size, 1, none⟩ = some (.slice p.u p.nu p.cu) ∧ w'.cell? ⟨w.heap.size, 2, none⟩ = some (.slice p.l p.nl p.cl) ∧ w'.cell? ⟨w.heap.size, 3, none⟩ = some (.bool q.n) ∧ w'.cell? ⟨w.heap.size, 4, none⟩ = some (.slice q.u q.nu q.cu) ∧ w'.cell? ⟨w.heap.size, 5, none⟩ = some (.slice q.l q.nl q.cl) ∧ w'.cell? ⟨w.heap.size + 1, 0, none⟩ = some (.bool a.n) ∧ w'.cell? ⟨w.heap.size + 1, 1, none⟩ = some (.slice a.u a.nu a.cu) ∧ w'.cell? ⟨w.heap.size + 1, 2, none⟩ = some (.slice a.l a.nl a.cl) ∧ w'.cell? ⟨w.heap.size + 1, 3, none⟩ = some (.bool b.n) ∧ w'.cell? ⟨w.heap.size + 1, 4, none⟩ = some (.slice b.u b.nu b.cu) ∧ w'.cell? ⟨w.heap.size + 1, 5, none⟩ = some (.slice b.l b.nl b.cl)) := fun w' hb => ⟨(HK0.out.below hb (by rw [HSZ.out]; omega)).cell 0, (HK0.out.below hb (by rw [HSZ.out]; omega)).cell 1, (HK0.out.below hb (by rw [HSZ.out]; omega)).cell 2, (HK0.out.below hb (by rw [HSZ.out]; omega)).cell 3, (HK0.out.below hb (by rw [HSZ.out]; omega)).cell 4, (HK0.out.below hb (by rw [HSZ.out]; omega)).cell 5, (HK1.out.below hb (by rw [HSZ.out]; omega)).cell 0, (HK1.out.below hb (by rw [HSZ.out]; omega)).cell 1, (HK1.out.below hb (by rw [HSZ.out]; omega)).cell 2, (HK1.out.below hb (by rw [HSZ.out]; omega)).cell 3, (HK1.out.below hb (by rw [HSZ.out]; omega)).cell 4, (HK1.out.below hb (by rw [HSZ.out]; omega)).cell 5⟩
  have hkr := hideIt (HK2.out.below hb1 (by rw [HSZ.out]; omega))
  have hbw := hideIt (HB0.out.trans (hb1.mono HB0.out.size))
  have HB1 := hideIt hb1
  clear hb1
  obtain ⟨q0, q1, q2, g0, g1, g2⟩ := hkr.out.all3
  by_cases h0 : ax = 0 ∧ ay = 0
  · rw [decide_eq_true h0]
    have H0 := hideIt h0
    clear h0
    go_wp2
    obtain ⟨k0, k1, k2, _⟩ := (hkr.out.put3 (.string ⟨#[]⟩) (.string ⟨#[]⟩) (.string ⟨#[]⟩)).all3
    exact bodyPost_ret (v := .tuple #[.agg #[.string ⟨#[]⟩, .string ⟨#[]⟩, .string ⟨#[]⟩], .int .i64 5]) (by simp [results, Tryz.results63, go_sem, k0, k1, k2]) rfl ⟨Below.put3 hbw.out (by omega) _ _ _, Or.inl ⟨H0.out.1, H0.out.2, rfl⟩⟩
  · rw [decide_eq_false h0]
    have H0 := hideIt h0
    clear h0
    obtain ⟨z0, z1, z2, z3, z4, z5, z6, z7, z8, z9, z10, z11⟩ := HS.out w1 HB1.out
    go_wp2_with fail
    refine (rulerSquare_calls ⟨p, q, rfl, HPX.out.below HB1.out, HPY.out.below HB1.out⟩ ⟨a, b, rfl, HAX.out.below HB1.out, HAY.out.below HB1.out⟩ F1.out F2.out F3.out F4.out K1.out).mono ?_
    rintro _ w2 ⟨hb2, v2, rfl, hv2⟩
    have hbl2 := HB1.out.trans (hb2.mono HB1.out.size)
    clear z0 z1 z2 z3 z4 z5 z6 z7 z8 z9 z10 z11 q0 q1 q2 g0 g1 g2
    go_wp2_with fail
    refine (rulerText_calls hv2 G1.out G2.out G3.out K2.out (HTAB.out.below hbl2)).mono ?_
    rintro _ w3 ⟨hb3, v3, rfl, s1, s2, s3, rfl, ht1, ht2, ht3⟩
    have hbl3 := hbl2.trans (hb3.mono hbl2.size)
    have hkr3 := hideIt (HK2.out.below hbl3 (by rw [HSZ.out]; omega))
    have HT := hideIt (And.intro ht1 (And.intro ht2 ht3))
    obtain ⟨q0, q1, q2, g0, g1, g2⟩ := hkr3.out.all3
    have hbw3 := hideIt (HB0.out.trans (hbl3.mono HB0.out.size))
    clear ht1 ht2 ht3 hv2 hb2 hb3 hbl2 hbl3
    go_wp2
    obtain ⟨k0, k1, k2, _⟩ := (hkr3.out.put3 (.string s1) (.string s2) (.string s3)).all3
    exact bodyPost_ret (v := .tuple #[.agg #[.string s1, .string s2, .string s3], .int .i64 0]) (by simp [results, Tryz.results63, go_sem, k0, k1, k2]) rfl ⟨Below.put3 hbw3.out (by omega) _ _ _, Or.inr ⟨H0.out, _, rfl, s1, s2, s3, rfl, HT.out.1, HT.out.2.1, HT.out.2.2⟩⟩
theorem square_calls {w : World} {va vb : Value} {px py ax ay : Rat} (ha : WV w va px py) (hb : WV w vb ax ay) {k l : Nat} (f1 : QS k ax) (f2 : QS k ay) (f3 : QS l px) (f4 : QS l py) (hk : 20 * (k + l + 1) ≤ 35184372088640) (tab : Tab w) :
    Calls Tryz.prog 63 #[va, vb] w fun e w' => Below w.heap.size w w' ∧ ((ax = 0 ∧ ay = 0 ∧ e = .returned (.tuple #[.agg #[.string ⟨#[]⟩, .string ⟨#[]⟩, .string ⟨#[]⟩], .int .i64 5])) ∨ (¬ (ax = 0 ∧ ay = 0) ∧ ∃ v, e = .returned (.tuple #[v, .int .i64 0]) ∧ TV v (tx (ax * fac [ax, ay, -(ax * px + ay * py)])) (tx (ay * fac [ax, ay, -(ax * px + ay * py)])) (tx (-(ax * px + ay * py) * fac [ax, ay, -(ax * px + ay * py)])))) := by
  obtain ⟨p, q, rfl, h1, h2⟩ := ha
  obtain ⟨a, b, rfl, h3, h4⟩ := hb
  exact square_walk h1 h2 h3 h4 f1 f2 f3 f4 hk tab
end Go.Proofs.YtgajdmadbdbabaaGreatDoor
/- WQ -/
namespace Go.Proofs.YtgajdmadbdbabaaGreatDoor
open Go.RowKit Cx
attribute [local go_sem ↓] Go.wp_at_zero Go.wp_at_succ
def MeetAns (ax ay az px pz pw x y : Rat) (z : Int) : Prop :=
  ((ax * pz - ay * px) ≠ 0 ∧ z = 0 ∧ x = -(pz * az - ay * pw) / (ax * pz - ay * px) ∧ y = (px * az - ax * pw) / (ax * pz - ay * px)) ∨ ((ax * pz - ay * px) = 0 ∧ z ≠ 0)
theorem rulerMeet_walk {w : World} {a b c p q r : C3} {ax ay az px pz pw : Rat} (ha : QV w (.agg #[.bool a.n, .slice a.u a.nu a.cu, .slice a.l a.nl a.cl]) ax) (hb : QV w (.agg #[.bool b.n, .slice b.u b.nu b.cu, .slice b.l b.nl b.cl]) ay) (hc : QV w (.agg #[.bool c.n, .slice c.u c.nu c.cu, .slice c.l c.nl c.cl]) az) (hp : QV w (.agg #[.bool p.n, .slice p.u p.nu p.cu, .slice p.l p.nl p.cl]) px) (hq : QV w (.agg #[.bool q.n, .slice q.u q.nu q.cu, .slice q.l q.nl q.cl]) pz) (hr : QV w (.agg #[.bool r.n, .slice r.u r.nu r.cu, .slice r.l r.nl r.cl]) pw) {k : Nat} (f1 : QS k ax) (f2 : QS k ay) (f3 : QS k az) (f4 : QS k px) (f5 : QS k pz) (f6 : QS k pw) (hk : 20 * (k + 1) ≤ 35184372088640) :
    Calls Tryz.prog 74 #[.agg #[.bool a.n, .slice a.u a.nu a.cu, .slice a.l a.nl a.cl, .bool b.n, .slice b.u b.nu b.cu, .slice b.l b.nl b.cl, .bool c.n, .slice c.u c.nu c.cu, .slice c.l c.nl c.cl], .agg #[.bool p.n, .slice p.u p.nu p.cu, .slice p.l p.nl p.cl, .bool q.n, .slice q.u q.nu q.cu, .slice q.l q.nl q.cl, .bool r.n, .slice r.u r.nu r.cu, .slice r.l r.nl r.cl]] w fun e w' => Below w.heap.size w w' ∧ ∃ v z x y, e = .returned (.tuple #[v, .int .i64 z]) ∧ WV w' v x y ∧ MeetAns ax ay az px pz pw x y z := by
  obtain ⟨hb0, hk0, hk1, hk2, hsz⟩ := boxes3 w #[.bool a.n, .slice a.u a.nu a.cu, .slice a.l a.nl a.cl, .bool b.n, .slice b.u b.nu b.cu, .slice b.l b.nl b.cl, .bool c.n, .slice c.u c.nu c.cu, .slice c.l c.nl c.cl] #[.bool p.n, .slice p.u p.nu p.cu, .slice p.l p.nl p.cl, .bool q.n, .slice q.u q.nu q.cu, .slice q.l q.nl q.cl, .bool r.n, .slice r.u r.nu r.cu, .slice r.l r.nl r.cl] #[.bool false, .slice none 0 0, .slice none 0 0, .bool false, .slice none 0 0, .slice none 0 0] 97 97 86
  have HB0 := hideIt hb0
  have HSZ := hideIt hsz
  have HK0 := hideIt hk0
  have HK1 := hideIt hk1
  have HK2 := hideIt hk2
  have HA := hideIt (ha.below hb0)
  have HB := hideIt (hb.below hb0)
  have HC := hideIt (hc.below hb0)
  have HP := hideIt (hp.below hb0)
  have HQ := hideIt (hq.below hb0)
  have HR := hideIt (hr.below hb0)
  have F1 := hideIt f1
  have F2 := hideIt f2
  have F3 := hideIt f3
  have F4 := hideIt f4
  have F5 := hideIt f5
  have F6 := hideIt f6
  have HK := hideIt hk
  clear hb0 hsz hk0 hk1 hk2 ha hb hc hp hq hr f1 f2 f3 f4 f5 f6 hk
  have K1 : Hid (k + k + (k + k) + 1 ≤ 35184372088640) := by have := HK.out; show _ ≤ _; omega
  have K2 : Hid (k + k + 1 ≤ 35184372088640) := by have := HK.out; show _ ≤ _; omega
  have K3 : Hid (k + k + (k + k) + 1 + (k + k + (k + k) + 1) + 1 ≤ 35184372088640) := by have := HK.out; show _ ≤ _; omega
  have FT : Hid (QS (k + k + (k + k) + 1) (ax * pz - ay * px)) := (F1.out.mul F5.out).sub (F2.out.mul F4.out)
  have FX : Hid (QS (k + k + (k + k) + 1) (px * az - ax * pw)) := (F4.out.mul F3.out).sub (F1.out.mul F6.out)
  have FY : Hid (QS (k + k + (k + k) + 1) (pz * az - ay * pw)) := (F5.out.mul F3.out).sub (F2.out.mul F6.out)
  go_enter Tryz.func74, Tryz.ntmps74
  go_wp2_with fail
  generalize (((w.alloc (.cells #[.bool a.n, .slice a.u a.nu a.cu, .slice a.l a.nl a.cl, .bool b.n, .slice b.u b.nu b.cu, .slice b.l b.nl b.cl, .bool c.n, .slice c.u c.nu c.cu, .slice c.l c.nl c.cl] 97)).alloc (.cells #[.bool p.n, .slice p.u p.nu p.cu, .slice p.l p.nl p.cl, .bool q.n, .slice q.u q.nu q.cu, .slice q.l q.nl q.cl, .bool r.n, .slice r.u r.nu r.cu, .slice r.l r.nl r.cl] 97)).alloc (.cells #[.bool false, .slice none 0 0, .slice none 0 0, .bool false, .slice none 0 0, .slice none 0 0] 86)) = W0 at *
  refine (wayCross_calls ⟨a, b, rfl, HA.out, HB.out⟩ ⟨p, q, rfl, HP.out, HQ.out⟩ F1.out F2.out F4.out F5.out K1.out).mono ?_
  rintro _ w1 ⟨hb1, v1, rfl, hv1⟩
  obtain ⟨t, rfl⟩ := qv_open hv1
  have HV1 := hideIt hv1
  have HB1 := hideIt hb1
  clear hv1 hb1
  go_wp2_with fail
  obtain ⟨w2, hw2⟩ : ∃ w2, w2 = w1.alloc (.cells #[.bool t.n, .slice t.u t.nu t.cu, .slice t.l t.nl t.cl] 84) := ⟨_, rfl⟩
  have hbA := below_new w1 (.cells #[.bool t.n, .slice t.u t.nu t.cu, .slice t.l t.nl t.cl] 84)
  have HKT := hideIt (Blk.new w1 #[.bool t.n, .slice t.u t.nu t.cu, .slice t.l t.nl t.cl] 84)
  rw [← hw2] at hbA HKT ⊢
  have HBL : Hid (Below W0.heap.size W0 w2) := HB1.out.trans (hbA.mono HB1.out.size)
  have HVT := hideIt (HV1.out.below hbA)
  clear hbA hw2
  obtain ⟨T, hT⟩ : ∃ T, T = w1.heap.size := ⟨_, rfl⟩
  rw [← hT] at HKT ⊢
  have HTge : Hid (W0.heap.size ≤ T) := by rw [hT]; exact HB1.out.size
  clear hT
  have HS : Hid (∀ w', Below w2.heap.size w2 w' → w'.cell? ⟨w.heap.size, 0, none⟩ = some (.bool a.n) ∧ w'.cell? ⟨w.heap.size, 1, none⟩ = some (.slice a.u a.nu a.cu) ∧ w'.cell? ⟨w.heap.size, 2, none⟩ = some (.slice a.l a.nl a.cl) ∧ w'.cell? ⟨w.heap.size, 3, none⟩ = some (.bool b.n) ∧ w'.cell? ⟨w.heap.size, 4, none⟩ = some (.slice b.u b.nu b.cu) ∧ w'.cell? ⟨w.heap.size, 5, none⟩ = some (.slice b.l b.nl b.cl) ∧ w'.cell? ⟨w.heap.size, 6, none⟩ = some (.bool c.n) ∧ w'.cell? ⟨w.heap.size, 7, none⟩ = some (.slice c.u c.nu c.cu) ∧ w'.cell? ⟨w.heap.size, 8, none⟩ = some (.slice c.l c.nl c.cl) ∧ w'.cell? ⟨w.heap.size + 1, 0, none⟩ = some (.bool p.n) ∧ w'.cell? ⟨w.heap.size + 1, 1, none⟩ = some (.slice p.u p.nu p.cu) ∧ w'.cell? ⟨w.heap.size + 1, 2, none⟩ = some (.slice p.l p.nl p.cl) ∧ w'.cell? ⟨w.heap.size + 1, 3, none⟩ = some (.bool q.n) ∧ w'.cell? ⟨w.heap.size + 1, 4, none⟩ = some (.slice q.u q.nu q.cu) ∧ w'.cell? ⟨w.heap.size + 1, 5, none⟩ = some (.slice q.l q.nl q.cl) ∧ w'.cell? ⟨w.heap.size + 1, 6, none⟩ = some (.bool r.n) ∧ w'.cell? ⟨w.heap.size + 1, 7, none⟩ = some (.slice r.u r.nu r.cu) ∧ w'.cell? ⟨w.heap.size + 1, 8, none⟩ = some (.slice r.l r.nl r.cl)) := fun w' hb => by
    have h1 := (HK0.out.below HBL.out (by rw [HSZ.out]; omega)).below hb (by have := HBL.out.size; have := HSZ.out; omega)
    have h2 := (HK1.out.below HBL.out (by rw [HSZ.out]; omega)).below hb (by have := HBL.out.size; have := HSZ.out; omega)
    exact ⟨h1.cell 0, h1.cell 1, h1.cell 2, h1.cell 3, h1.cell 4, h1.cell 5, h1.cell 6, h1.cell 7, h1.cell 8, h2.cell 0, h2.cell 1, h2.cell 2, h2.cell 3, h2.cell 4, h2.cell 5, h2.cell 6, h2.cell 7, h2.cell 8⟩
  obtain ⟨z0, z1, z2, z3, z4, z5, z6, z7, z8, z9, z10, z11, z12, z13, z14, z15, z16, z17⟩ := HS.out w2 (Below.refl _ _)
  have HA2 := hideIt (HA.out.below HBL.out)
  have HB2 := hideIt (HB.out.below HBL.out)
  have HC2 := hideIt (HC.out.below HBL.out)
  have HP2 := hideIt (HP.out.below HBL.out)
  have HQ2 := hideIt (HQ.out.below HBL.out)
  have HR2 := hideIt (HR.out.below HBL.out)
  go_cut [7] from 8 (fun pm wc => One w2 pm wc (px * az - ax * pw) (pz * az - ay * pw))
  case first =>
    go_region_held3 (fun w' => w'.cell? ⟨w.heap.size, 0, none⟩ = some (.bool a.n) ∧ w'.cell? ⟨w.heap.size, 1, none⟩ = some (.slice a.u a.nu a.cu) ∧ w'.cell? ⟨w.heap.size, 2, none⟩ = some (.slice a.l a.nl a.cl) ∧ w'.cell? ⟨w.heap.size, 3, none⟩ = some (.bool b.n) ∧ w'.cell? ⟨w.heap.size, 4, none⟩ = some (.slice b.u b.nu b.cu) ∧ w'.cell? ⟨w.heap.size, 5, none⟩ = some (.slice b.l b.nl b.cl) ∧ w'.cell? ⟨w.heap.size, 6, none⟩ = some (.bool c.n) ∧ w'.cell? ⟨w.heap.size, 7, none⟩ = some (.slice c.u c.nu c.cu) ∧ w'.cell? ⟨w.heap.size, 8, none⟩ = some (.slice c.l c.nl c.cl) ∧ w'.cell? ⟨w.heap.size + 1, 0, none⟩ = some (.bool p.n) ∧ w'.cell? ⟨w.heap.size + 1, 1, none⟩ = some (.slice p.u p.nu p.cu) ∧ w'.cell? ⟨w.heap.size + 1, 2, none⟩ = some (.slice p.l p.nl p.cl) ∧ w'.cell? ⟨w.heap.size + 1, 3, none⟩ = some (.bool q.n) ∧ w'.cell? ⟨w.heap.size + 1, 4, none⟩ = some (.slice q.u q.nu q.cu) ∧ w'.cell? ⟨w.heap.size + 1, 5, none⟩ = some (.slice q.l q.nl q.cl) ∧ w'.cell? ⟨w.heap.size + 1, 6, none⟩ = some (.bool r.n) ∧ w'.cell? ⟨w.heap.size + 1, 7, none⟩ = some (.slice r.u r.nu r.cu) ∧ w'.cell? ⟨w.heap.size + 1, 8, none⟩ = some (.slice r.l r.nl r.cl)) ((refine HS.out _ ?_; repeat' (first | with_reducible exact hbl5 | with_reducible exact hbl4 | with_reducible exact hbl3 | with_reducible exact Below.refl _ _ | with_reducible refine Below.drew ?_ | with_reducible refine Below.alloc ?_ ?_ _ | with_reducible refine Below.put6 ?_ ?_ _ _ _ _ _ _ | (simp; done) | (simp; omega) | omega)))
      (first
        | (go_at_call_of 68 (Value.agg #[Value.bool p.n, Value.slice p.u p.nu p.cu, Value.slice p.l p.nl p.cl, Value.bool q.n, Value.slice q.u q.nu q.cu, Value.slice q.l q.nl q.cl]); have hc := wayTimes_calls (w := (w2.drew)) ⟨p, q, rfl, HP2.out.below (Below.drew (Below.refl _ w2)), HQ2.out.below (Below.drew (Below.refl _ w2))⟩ (HC2.out.below (Below.drew (Below.refl _ w2))) F4.out F5.out F3.out K2.out; (with_reducible refine hc.mono ?_); rintro _ w3 ⟨hb3, v3, rfl, hv3⟩; clear hc; have hw3 := hv3; obtain ⟨d3, e3, rfl, hx3, hy3⟩ := hw3; have hc3 : Below w2.heap.size w2 w3 := (Below.drew (Below.refl _ w2)).trans hb3; have hbl3 := hc3; have hz3 := hbl3.size)
        | (go_at_call_of 68 (Value.agg #[Value.bool p.n, Value.slice p.u p.nu p.cu, Value.slice p.l p.nl p.cl, Value.bool q.n, Value.slice q.u q.nu q.cu, Value.slice q.l q.nl q.cl]); have hc := wayTimes_calls (w := ((w2.alloc (.cells #[.bool false, .slice none 0 0, .slice none 0 0, .bool false, .slice none 0 0, .slice none 0 0] 86)).drew)) ⟨p, q, rfl, HP2.out.below (Below.drew (below_new w2 (.cells #[.bool false, .slice none 0 0, .slice none 0 0, .bool false, .slice none 0 0, .slice none 0 0] 86))), HQ2.out.below (Below.drew (below_new w2 (.cells #[.bool false, .slice none 0 0, .slice none 0 0, .bool false, .slice none 0 0, .slice none 0 0] 86)))⟩ (HC2.out.below (Below.drew (below_new w2 (.cells #[.bool false, .slice none 0 0, .slice none 0 0, .bool false, .slice none 0 0, .slice none 0 0] 86)))) F4.out F5.out F3.out K2.out; (with_reducible refine hc.mono ?_); rintro _ w3 ⟨hb3, v3, rfl, hv3⟩; clear hc; have hw3 := hv3; obtain ⟨d3, e3, rfl, hx3, hy3⟩ := hw3; have hc3 : Below w2.heap.size w2 w3 := (Below.drew (below_new w2 (.cells #[.bool false, .slice none 0 0, .slice none 0 0, .bool false, .slice none 0 0, .slice none 0 0] 86))).trans (hb3.mono (Nat.le_of_lt (Blk.new w2 #[.bool false, .slice none 0 0, .slice none 0 0, .bool false, .slice none 0 0, .slice none 0 0] 86).lt)); have hbl3 := hc3; have hG3 := (show Blk (w2.alloc (.cells #[.bool false, .slice none 0 0, .slice none 0 0, .bool false, .slice none 0 0, .slice none 0 0] 86)).drew w2.heap.size #[.bool false, .slice none 0 0, .slice none 0 0, .bool false, .slice none 0 0, .slice none 0 0] 86 from Blk.new w2 #[.bool false, .slice none 0 0, .slice none 0 0, .bool false, .slice none 0 0, .slice none 0 0] 86).below hb3 (Blk.new w2 #[.bool false, .slice none 0 0, .slice none 0 0, .bool false, .slice none 0 0, .slice none 0 0] 86).lt; have hz3 := hbl3.size)
        | (go_at_call_of 68 (Value.agg #[Value.bool a.n, Value.slice a.u a.nu a.cu, Value.slice a.l a.nl a.cl, Value.bool b.n, Value.slice b.u b.nu b.cu, Value.slice b.l b.nl b.cl]); have hc := wayTimes_calls (w := w3) ⟨a, b, rfl, (HA2.out.below hbl3), (HB2.out.below hbl3)⟩ ((HR2.out.below hbl3)) F1.out F2.out F6.out K2.out; (with_reducible refine hc.mono ?_); rintro _ w4 ⟨hb4, v4, rfl, hv4⟩; clear hc; have hw4 := hv4; obtain ⟨d4, e4, rfl, hx4, hy4⟩ := hw4; have hc4 : Below w3.heap.size w3 w4 := hb4; (try have hG4 := hG3.below hc4 hG3.lt); have hbl4 := hbl3.trans (hc4.mono hbl3.size); have hz4 := hbl4.size)
        | (go_at_call_of 68 (Value.agg #[Value.bool a.n, Value.slice a.u a.nu a.cu, Value.slice a.l a.nl a.cl, Value.bool b.n, Value.slice b.u b.nu b.cu, Value.slice b.l b.nl b.cl]); have hc := wayTimes_calls (w := (w3.alloc (.cells #[.bool false, .slice none 0 0, .slice none 0 0, .bool false, .slice none 0 0, .slice none 0 0] 86))) ⟨a, b, rfl, (HA2.out.below hbl3).below (below_new w3 (.cells #[.bool false, .slice none 0 0, .slice none 0 0, .bool false, .slice none 0 0, .slice none 0 0] 86)), (HB2.out.below hbl3).below (below_new w3 (.cells #[.bool false, .slice none 0 0, .slice none 0 0, .bool false, .slice none 0 0, .slice none 0 0] 86))⟩ ((HR2.out.below hbl3).below (below_new w3 (.cells #[.bool false, .slice none 0 0, .slice none 0 0, .bool false, .slice none 0 0, .slice none 0 0] 86))) F1.out F2.out F6.out K2.out; (with_reducible refine hc.mono ?_); rintro _ w4 ⟨hb4, v4, rfl, hv4⟩; clear hc; have hw4 := hv4; obtain ⟨d4, e4, rfl, hx4, hy4⟩ := hw4; have hc4 : Below w3.heap.size w3 w4 := (below_new w3 (.cells #[.bool false, .slice none 0 0, .slice none 0 0, .bool false, .slice none 0 0, .slice none 0 0] 86)).trans (hb4.mono (Nat.le_of_lt (Blk.new w3 #[.bool false, .slice none 0 0, .slice none 0 0, .bool false, .slice none 0 0, .slice none 0 0] 86).lt)); have hG4 := (Blk.new w3 #[.bool false, .slice none 0 0, .slice none 0 0, .bool false, .slice none 0 0, .slice none 0 0] 86).below hb4 (Blk.new w3 #[.bool false, .slice none 0 0, .slice none 0 0, .bool false, .slice none 0 0, .slice none 0 0] 86).lt; have hbl4 := hbl3.trans (hc4.mono hbl3.size); have hz4 := hbl4.size)
        | (go_at_call 64; have hc := wayMinus_calls (w := w4) ((hv3.below hc4)) (hv4) (F4.out.mul F3.out) (F5.out.mul F3.out) (F1.out.mul F6.out) (F2.out.mul F6.out) K1.out; (with_reducible refine hc.mono ?_); rintro _ w5 ⟨hb5, v5, rfl, hv5⟩; clear hc; have hw5 := hv5; obtain ⟨d5, e5, rfl, hx5, hy5⟩ := hw5; have hc5 : Below w4.heap.size w4 w5 := hb5; (try have hG5 := hG4.below hc5 hG4.lt); have hbl5 := hbl4.trans (hc5.mono hbl4.size); have hz5 := hbl5.size; (try obtain ⟨r0, r1, r2, r3, r4, r5, r6, r7, r8, r9, r10, r11⟩ := hG5.all6))
        | (go_at_call 64; have hc := wayMinus_calls (w := (w4.alloc (.cells #[.bool false, .slice none 0 0, .slice none 0 0, .bool false, .slice none 0 0, .slice none 0 0] 86))) ((hv3.below hc4).below (below_new w4 (.cells #[.bool false, .slice none 0 0, .slice none 0 0, .bool false, .slice none 0 0, .slice none 0 0] 86))) (hv4.below (below_new w4 (.cells #[.bool false, .slice none 0 0, .slice none 0 0, .bool false, .slice none 0 0, .slice none 0 0] 86))) (F4.out.mul F3.out) (F5.out.mul F3.out) (F1.out.mul F6.out) (F2.out.mul F6.out) K1.out; (with_reducible refine hc.mono ?_); rintro _ w5 ⟨hb5, v5, rfl, hv5⟩; clear hc; have hw5 := hv5; obtain ⟨d5, e5, rfl, hx5, hy5⟩ := hw5; have hc5 : Below w4.heap.size w4 w5 := (below_new w4 (.cells #[.bool false, .slice none 0 0, .slice none 0 0, .bool false, .slice none 0 0, .slice none 0 0] 86)).trans (hb5.mono (Nat.le_of_lt (Blk.new w4 #[.bool false, .slice none 0 0, .slice none 0 0, .bool false, .slice none 0 0, .slice none 0 0] 86).lt)); have hG5 := (Blk.new w4 #[.bool false, .slice none 0 0, .slice none 0 0, .bool false, .slice none 0 0, .slice none 0 0] 86).below hb5 (Blk.new w4 #[.bool false, .slice none 0 0, .slice none 0 0, .bool false, .slice none 0 0, .slice none 0 0] 86).lt; have hbl5 := hbl4.trans (hc5.mono hbl4.size); have hz5 := hbl5.size; (try obtain ⟨r0, r1, r2, r3, r4, r5, r6, r7, r8, r9, r10, r11⟩ := hG5.all6))
        )
    all_goals
      go_wp2_with fail
      go_meet
      first
        | with_reducible exact One.new hbl5 hx5 hy5
        | with_reducible exact One.old hG5 (Nat.le_refl _) hbl5 hx5 hy5
        | with_reducible exact One.old hG5 hz3 hbl5 hx5 hy5
        | with_reducible exact One.old hG5 hz4 hbl5 hx5 hy5
  case rest =>
    obtain ⟨G, rfl, hG, hbl, d, e, hkG, hx, hy⟩ := hcut
    have HX := hideIt hx
    have HY := hideIt hy
    have HKG := hideIt hkG
    have HGge := hideIt hG
    have HKT2 := hideIt (HKT.out.below hbl HKT.out.lt)
    have HVT2 := hideIt (HVT.out.below hbl)
    have HBW := hideIt (HBL.out.trans (hbl.mono HBL.out.size))
    have HBT := hideIt (HB0.out.trans (HBW.out.mono HB0.out.size))
    have HKR := hideIt (HK2.out.below HBW.out (by rw [HSZ.out]; omega))
    clear hx hy hkG hbl hG z0 z1 z2 z3 z4 z5 z6 z7 z8 z9 z10 z11 z12 z13 z14 z15 z16 z17
    obtain ⟨y0, y1, y2, _⟩ := HKT2.out.all3
    go_wp2_with fail
    refine (sign_calls HVT2.out).mono ?_
    rintro _ w6 ⟨hb6, rfl⟩
    have HX6 := hideIt (HX.out.below hb6)
    have HY6 := hideIt (HY.out.below hb6)
    have HVT6 := hideIt (HVT2.out.below hb6)
    have HKG6 := hideIt (HKG.out.below hb6 HKG.out.lt)
    have HKT6 := hideIt (HKT2.out.below hb6 HKT2.out.lt)
    have HKR6 := hideIt (HKR.out.below hb6 HKR.out.lt)
    have HBT6 := hideIt (HBT.out.trans (hb6.mono HBT.out.size))
    clear hb6 y0 y1 y2
    obtain ⟨y0, y1, y2, _⟩ := HKT6.out.all3
    obtain ⟨u0, u1, u2, u3, u4, u5, _⟩ := HKG6.out.all6
    by_cases h0 : (ax * pz - ay * px) = 0
    · rw [if_pos (sg_zero.2 h0)]
      have H0 := hideIt h0
      clear h0
      go_wp2_with fail
      refine (nowhere_calls ⟨d, e, rfl, HX6.out, HY6.out⟩).mono ?_
      rintro _ w7 ⟨hb7, rfl⟩
      have HKR7 := hideIt (HKR6.out.below hb7 HKR6.out.lt)
      have HBT7 := hideIt (HBT6.out.trans (hb7.mono HBT6.out.size))
      clear hb7
      obtain ⟨q0, q1, q2, q3, q4, q5, g0, g1, g2, g3, g4, g5⟩ := HKR7.out.all6
      obtain ⟨k0, k1, k2, k3, k4, k5, _⟩ := (HKR7.out.put6 (.bool false) (.slice none 0 0) (.slice none 0 0) (.bool false) (.slice none 0 0) (.slice none 0 0)).all6
      by_cases hm : (px * az - ax * pw) = 0 ∧ (pz * az - ay * pw) = 0
      · rw [decide_eq_true hm]
        clear hm
        go_wp2
        exact bodyPost_ret (v := .tuple #[.agg #[.bool false, .slice none 0 0, .slice none 0 0, .bool false, .slice none 0 0, .slice none 0 0], .int .i64 7]) (by simp [results, Tryz.results74, go_sem, k0, k1, k2, k3, k4, k5]) rfl ⟨Below.put6 HBT7.out (by omega) _ _ _ _ _ _, _, _, 0, 0, rfl, ⟨⟨false, none, 0, 0, none, 0, 0⟩, ⟨false, none, 0, 0, none, 0, 0⟩, rfl, qv_zero0 _, qv_zero0 _⟩, Or.inr ⟨H0.out, by decide⟩⟩
      · rw [decide_eq_false hm]
        clear hm
        go_wp2
        exact bodyPost_ret (v := .tuple #[.agg #[.bool false, .slice none 0 0, .slice none 0 0, .bool false, .slice none 0 0, .slice none 0 0], .int .i64 6]) (by simp [results, Tryz.results74, go_sem, k0, k1, k2, k3, k4, k5]) rfl ⟨Below.put6 HBT7.out (by omega) _ _ _ _ _ _, _, _, 0, 0, rfl, ⟨⟨false, none, 0, 0, none, 0, 0⟩, ⟨false, none, 0, 0, none, 0, 0⟩, rfl, qv_zero0 _, qv_zero0 _⟩, Or.inr ⟨H0.out, by decide⟩⟩
    · rw [if_neg (fun h => h0 (sg_zero.1 h))]
      have hne : ((if (ax * pz - ay * px).num < 0 then (-1 : Int) else 1) != 0) = true := by split <;> rfl
      generalize (if (ax * pz - ay * px).num < 0 then (-1 : Int) else 1) = zz at *
      have H0 := hideIt h0
      clear h0
      have HS6 : Hid (∀ w', Below w6.heap.size w6 w' → w'.cell? ⟨G, 0, none⟩ = some (.bool d.n) ∧ w'.cell? ⟨G, 1, none⟩ = some (.slice d.u d.nu d.cu) ∧ w'.cell? ⟨G, 2, none⟩ = some (.slice d.l d.nl d.cl) ∧ w'.cell? ⟨G, 3, none⟩ = some (.bool e.n) ∧ w'.cell? ⟨G, 4, none⟩ = some (.slice e.u e.nu e.cu) ∧ w'.cell? ⟨G, 5, none⟩ = some (.slice e.l e.nl e.cl) ∧ w'.cell? ⟨T, 0, none⟩ = some (.bool t.n) ∧ w'.cell? ⟨T, 1, none⟩ = some (.slice t.u t.nu t.cu) ∧ w'.cell? ⟨T, 2, none⟩ = some (.slice t.l t.nl t.cl)) := fun w' hb => ⟨(HKG6.out.below hb HKG6.out.lt).cell 0, (HKG6.out.below hb HKG6.out.lt).cell 1, (HKG6.out.below hb HKG6.out.lt).cell 2, (HKG6.out.below hb HKG6.out.lt).cell 3, (HKG6.out.below hb HKG6.out.lt).cell 4, (HKG6.out.below hb HKG6.out.lt).cell 5, (HKT6.out.below hb HKT6.out.lt).cell 0, (HKT6.out.below hb HKT6.out.lt).cell 1, (HKT6.out.below hb HKT6.out.lt).cell 2⟩
      have HRS : Hid (w.heap.size + 1 + 1 ≠ G ∧ w.heap.size + 1 + 1 ≠ T) := by
        have h1 := HSZ.out
        have h2 := HTge.out
        have h3 := HGge.out
        have h4 := HBL.out.size
        show _ ∧ _
        omega
      have HSS6 : Hid (∀ w', Below w6.heap.size w6 w' → ∀ x0 x1 x2 x3 x4 x5 : Value, ((((((w'.setCell ⟨w.heap.size + 1 + 1, 0, none⟩ (x0)).setCell ⟨w.heap.size + 1 + 1, 1, none⟩ (x1)).setCell ⟨w.heap.size + 1 + 1, 2, none⟩ (x2)).setCell ⟨w.heap.size + 1 + 1, 3, none⟩ (x3)).setCell ⟨w.heap.size + 1 + 1, 4, none⟩ (x4)).setCell ⟨w.heap.size + 1 + 1, 5, none⟩ (x5)).cell? ⟨G, 0, none⟩ = some (.bool d.n) ∧ ((((((w'.setCell ⟨w.heap.size + 1 + 1, 0, none⟩ (x0)).setCell ⟨w.heap.size + 1 + 1, 1, none⟩ (x1)).setCell ⟨w.heap.size + 1 + 1, 2, none⟩ (x2)).setCell ⟨w.heap.size + 1 + 1, 3, none⟩ (x3)).setCell ⟨w.heap.size + 1 + 1, 4, none⟩ (x4)).setCell ⟨w.heap.size + 1 + 1, 5, none⟩ (x5)).cell? ⟨G, 1, none⟩ = some (.slice d.u d.nu d.cu) ∧ ((((((w'.setCell ⟨w.heap.size + 1 + 1, 0, none⟩ (x0)).setCell ⟨w.heap.size + 1 + 1, 1, none⟩ (x1)).setCell ⟨w.heap.size + 1 + 1, 2, none⟩ (x2)).setCell ⟨w.heap.size + 1 + 1, 3, none⟩ (x3)).setCell ⟨w.heap.size + 1 + 1, 4, none⟩ (x4)).setCell ⟨w.heap.size + 1 + 1, 5, none⟩ (x5)).cell? ⟨G, 2, none⟩ = some (.slice d.l d.nl d.cl) ∧ ((((((w'.setCell ⟨w.heap.size + 1 + 1, 0, none⟩ (x0)).setCell ⟨w.heap.size + 1 + 1, 1, none⟩ (x1)).setCell ⟨w.heap.size + 1 + 1, 2, none⟩ (x2)).setCell ⟨w.heap.size + 1 + 1, 3, none⟩ (x3)).setCell ⟨w.heap.size + 1 + 1, 4, none⟩ (x4)).setCell ⟨w.heap.size + 1 + 1, 5, none⟩ (x5)).cell? ⟨G, 3, none⟩ = some (.bool e.n) ∧ ((((((w'.setCell ⟨w.heap.size + 1 + 1, 0, none⟩ (x0)).setCell ⟨w.heap.size + 1 + 1, 1, none⟩ (x1)).setCell ⟨w.heap.size + 1 + 1, 2, none⟩ (x2)).setCell ⟨w.heap.size + 1 + 1, 3, none⟩ (x3)).setCell ⟨w.heap.size + 1 + 1, 4, none⟩ (x4)).setCell ⟨w.heap.size + 1 + 1, 5, none⟩ (x5)).cell? ⟨G, 4, none⟩ = some (.slice e.u e.nu e.cu) ∧ ((((((w'.setCell ⟨w.heap.size + 1 + 1, 0, none⟩ (x0)).setCell ⟨w.heap.size + 1 + 1, 1, none⟩ (x1)).setCell ⟨w.heap.size + 1 + 1, 2, none⟩ (x2)).setCell ⟨w.heap.size + 1 + 1, 3, none⟩ (x3)).setCell ⟨w.heap.size + 1 + 1, 4, none⟩ (x4)).setCell ⟨w.heap.size + 1 + 1, 5, none⟩ (x5)).cell? ⟨G, 5, none⟩ = some (.slice e.l e.nl e.cl) ∧ ((((((w'.setCell ⟨w.heap.size + 1 + 1, 0, none⟩ (x0)).setCell ⟨w.heap.size + 1 + 1, 1, none⟩ (x1)).setCell ⟨w.heap.size + 1 + 1, 2, none⟩ (x2)).setCell ⟨w.heap.size + 1 + 1, 3, none⟩ (x3)).setCell ⟨w.heap.size + 1 + 1, 4, none⟩ (x4)).setCell ⟨w.heap.size + 1 + 1, 5, none⟩ (x5)).cell? ⟨T, 0, none⟩ = some (.bool t.n) ∧ ((((((w'.setCell ⟨w.heap.size + 1 + 1, 0, none⟩ (x0)).setCell ⟨w.heap.size + 1 + 1, 1, none⟩ (x1)).setCell ⟨w.heap.size + 1 + 1, 2, none⟩ (x2)).setCell ⟨w.heap.size + 1 + 1, 3, none⟩ (x3)).setCell ⟨w.heap.size + 1 + 1, 4, none⟩ (x4)).setCell ⟨w.heap.size + 1 + 1, 5, none⟩ (x5)).cell? ⟨T, 1, none⟩ = some (.slice t.u t.nu t.cu) ∧ ((((((w'.setCell ⟨w.heap.size + 1 + 1, 0, none⟩ (x0)).setCell ⟨w.heap.size + 1 + 1, 1, none⟩ (x1)).setCell ⟨w.heap.size + 1 + 1, 2, none⟩ (x2)).setCell ⟨w.heap.size + 1 + 1, 3, none⟩ (x3)).setCell ⟨w.heap.size + 1 + 1, 4, none⟩ (x4)).setCell ⟨w.heap.size + 1 + 1, 5, none⟩ (x5)).cell? ⟨T, 2, none⟩ = some (.slice t.l t.nl t.cl)) := fun w' hb x0 x1 x2 x3 x4 x5 => ⟨((HKG6.out.below hb HKG6.out.lt).off6 (g := w.heap.size + 1 + 1) HRS.out.1 x0 x1 x2 x3 x4 x5).cell 0, ((HKG6.out.below hb HKG6.out.lt).off6 (g := w.heap.size + 1 + 1) HRS.out.1 x0 x1 x2 x3 x4 x5).cell 1, ((HKG6.out.below hb HKG6.out.lt).off6 (g := w.heap.size + 1 + 1) HRS.out.1 x0 x1 x2 x3 x4 x5).cell 2, ((HKG6.out.below hb HKG6.out.lt).off6 (g := w.heap.size + 1 + 1) HRS.out.1 x0 x1 x2 x3 x4 x5).cell 3, ((HKG6.out.below hb HKG6.out.lt).off6 (g := w.heap.size + 1 + 1) HRS.out.1 x0 x1 x2 x3 x4 x5).cell 4, ((HKG6.out.below hb HKG6.out.lt).off6 (g := w.heap.size + 1 + 1) HRS.out.1 x0 x1 x2 x3 x4 x5).cell 5, ((HKT6.out.below hb HKT6.out.lt).off6 (g := w.heap.size + 1 + 1) HRS.out.2 x0 x1 x2 x3 x4 x5).cell 0, ((HKT6.out.below hb HKT6.out.lt).off6 (g := w.heap.size + 1 + 1) HRS.out.2 x0 x1 x2 x3 x4 x5).cell 1, ((HKT6.out.below hb HKT6.out.lt).off6 (g := w.heap.size + 1 + 1) HRS.out.2 x0 x1 x2 x3 x4 x5).cell 2⟩
      go_wp2_with fail
      go_region_held3 (fun w' => w'.cell? ⟨G, 0, none⟩ = some (.bool d.n) ∧ w'.cell? ⟨G, 1, none⟩ = some (.slice d.u d.nu d.cu) ∧ w'.cell? ⟨G, 2, none⟩ = some (.slice d.l d.nl d.cl) ∧ w'.cell? ⟨G, 3, none⟩ = some (.bool e.n) ∧ w'.cell? ⟨G, 4, none⟩ = some (.slice e.u e.nu e.cu) ∧ w'.cell? ⟨G, 5, none⟩ = some (.slice e.l e.nl e.cl) ∧ w'.cell? ⟨T, 0, none⟩ = some (.bool t.n) ∧ w'.cell? ⟨T, 1, none⟩ = some (.slice t.u t.nu t.cu) ∧ w'.cell? ⟨T, 2, none⟩ = some (.slice t.l t.nl t.cl)) (first | go_keep | exact hs7 | exact hs8 | exact hkS)
        (first
          | (go_at_call 65; refine (wayLeft_calls (w := w6.drew) ⟨d, e, rfl, HX6.out.below (Below.drew (Below.refl _ _)), HY6.out.below (Below.drew (Below.refl _ _))⟩).mono ?_; rintro _ w7 ⟨hb7, v7, rfl, hv7⟩; have hw7 := hv7; obtain ⟨d7, e7, rfl, hx7, hy7⟩ := hw7; have hbl7 : Below w6.heap.size w6 w7 := (Below.drew (Below.refl _ w6)).trans hb7; have hs7 := HS6.out w7 hbl7)
          | (go_at_call 92; refine (wayOver_calls hv7 (HVT6.out.below hbl7) FY.out.neg FX.out FT.out K3.out).mono ?_; rintro _ w8 ⟨hb8, v8, rfl, hv8⟩; obtain ⟨d8, e8, rfl, hx8, hy8⟩ := hv8; have hbl8 := hbl7.trans (hb8.mono hbl7.size); have hs8 := HS6.out w8 hbl8; have hkr := HKR6.out.below hbl8 HKR6.out.lt; obtain ⟨q0, q1, q2, q3, q4, q5, g0, g1, g2, g3, g4, g5⟩ := hkr.all6; have hkS := HSS6.out w8 hbl8 (.bool d8.n) (.slice d8.u d8.nu d8.cu) (.slice d8.l d8.nl d8.cl) (.bool e8.n) (.slice e8.u e8.nu e8.cu) (.slice e8.l e8.nl e8.cl); have HX8 := hideIt hx8; have HY8 := hideIt hy8; clear hx8 hy8)
          )
      all_goals
        go_wp2
        obtain ⟨k0, k1, k2, k3, k4, k5, _⟩ := (hkr.put6 (.bool d8.n) (.slice d8.u d8.nu d8.cu) (.slice d8.l d8.nl d8.cl) (.bool e8.n) (.slice e8.u e8.nu e8.cu) (.slice e8.l e8.nl e8.cl)).all6
        have hst := Stays.put6 hkr (by simp [notLimb]) (.bool d8.n) (.slice d8.u d8.nu d8.cu) (.slice d8.l d8.nl d8.cl) (.bool e8.n) (.slice e8.u e8.nu e8.cu) (.slice e8.l e8.nl e8.cl) rfl rfl rfl rfl rfl rfl
        exact bodyPost_ret (v := .tuple #[.agg #[.bool d8.n, .slice d8.u d8.nu d8.cu, .slice d8.l d8.nl d8.cl, .bool e8.n, .slice e8.u e8.nu e8.cu, .slice e8.l e8.nl e8.cl], .int .i64 0]) (by simp [results, Tryz.results74, go_sem, k0, k1, k2, k3, k4, k5]) rfl ⟨Below.put6 (HBT6.out.trans (hbl8.mono HBT6.out.size)) (by omega) _ _ _ _ _ _, _, _, _, _, rfl, ⟨d8, e8, rfl, hst.qv HX8.out, hst.qv HY8.out⟩, Or.inl ⟨H0.out, rfl, rfl, rfl⟩⟩
theorem rulerMeet_calls {w : World} {va vb : Value} {ax ay az px pz pw : Rat} (ha : LV w va ax ay az) (hb : LV w vb px pz pw) {k : Nat} (f1 : QS k ax) (f2 : QS k ay) (f3 : QS k az) (f4 : QS k px) (f5 : QS k pz) (f6 : QS k pw) (hk : 20 * (k + 1) ≤ 35184372088640) :
    Calls Tryz.prog 74 #[va, vb] w fun e w' => Below w.heap.size w w' ∧ ∃ v z x y, e = .returned (.tuple #[v, .int .i64 z]) ∧ WV w' v x y ∧ MeetAns ax ay az px pz pw x y z := by
  obtain ⟨a, b, c, rfl, h1, h2, h3⟩ := ha
  obtain ⟨p, q, r, rfl, h4, h5, h6⟩ := hb
  exact rulerMeet_walk h1 h2 h3 h4 h5 h6 f1 f2 f3 f4 f5 f6 hk
end Go.Proofs.YtgajdmadbdbabaaGreatDoor
