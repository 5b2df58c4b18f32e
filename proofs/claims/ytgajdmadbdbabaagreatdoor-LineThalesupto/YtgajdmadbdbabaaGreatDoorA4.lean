/- Part 4 of the walks and of the mathematics under them: WC WE WF TA TB ShelfB TC TD TE TF TG TH WG. -/
import Derived.Test.YtgajdmadbdbabaaGreatDoorA3
import Derived.Test.YtgajdmadbdbabaaGreatDoorASh
import Derived.Lib.IndexLaws
import Derived.Lib.ItoaMem
import Derived.Lib.OthersKept
set_option maxHeartbeats 16000000
set_option maxRecDepth 100000
/- WC -/
namespace Go.Proofs.YtgajdmadbdbabaaGreatDoor
open Go.RowKit Cx
attribute [local go_sem ↓] Go.wp_at_zero Go.wp_at_succ
theorem wayTimes_walk {w : World} {cax cay cq : C3} {ax ay q : Rat} (hax : QV w (.agg #[.bool cax.n, .slice cax.u cax.nu cax.cu, .slice cax.l cax.nl cax.cl]) ax) (hay : QV w (.agg #[.bool cay.n, .slice cay.u cay.nu cay.cu, .slice cay.l cay.nl cay.cl]) ay) (hq : QV w (.agg #[.bool cq.n, .slice cq.u cq.nu cq.cu, .slice cq.l cq.nl cq.cl]) q) {k l : Nat} (f1 : QS k ax) (f2 : QS k ay) (f3 : QS l q) (hk : k + l + 1 ≤ 35184372088640) :
    Calls Tryz.prog 68 #[.agg #[.bool cax.n, .slice cax.u cax.nu cax.cu, .slice cax.l cax.nl cax.cl, .bool cay.n, .slice cay.u cay.nu cay.cu, .slice cay.l cay.nl cay.cl], .agg #[.bool cq.n, .slice cq.u cq.nu cq.cu, .slice cq.l cq.nl cq.cl]] w fun e w' => Below w.heap.size w w' ∧ ∃ v, e = .returned v ∧ WV w' v (ax * q) (ay * q) := by
  obtain ⟨hb0, hk0, hk1, hk2, hsz⟩ := boxes3 w #[.bool cax.n, .slice cax.u cax.nu cax.cu, .slice cax.l cax.nl cax.cl, .bool cay.n, .slice cay.u cay.nu cay.cu, .slice cay.l cay.nl cay.cl] #[.bool cq.n, .slice cq.u cq.nu cq.cu, .slice cq.l cq.nl cq.cl] #[.bool false, .slice none 0 0, .slice none 0 0, .bool false, .slice none 0 0, .slice none 0 0] 86 84 86
  have HB0 := hideIt hb0
  have HSZ := hideIt hsz
  have HK0 := hideIt hk0
  have HK1 := hideIt hk1
  have HK2 := hideIt hk2
  have Hax := hideIt (hax.below hb0)
  have Hay := hideIt (hay.below hb0)
  have Hq := hideIt (hq.below hb0)
  have F1 := hideIt f1
  have F2 := hideIt f2
  have F3 := hideIt f3
  have HK := hideIt hk
  clear hb0 hsz hk0 hk1 hk2 hax hay hq f1 f2 f3 hk
  go_enter Tryz.func68, Tryz.ntmps68
  go_wp2_with fail
  generalize (((w.alloc (.cells #[.bool cax.n, .slice cax.u cax.nu cax.cu, .slice cax.l cax.nl cax.cl, .bool cay.n, .slice cay.u cay.nu cay.cu, .slice cay.l cay.nl cay.cl] 86)).alloc (.cells #[.bool cq.n, .slice cq.u cq.nu cq.cu, .slice cq.l cq.nl cq.cl] 84)).alloc (.cells #[.bool false, .slice none 0 0, .slice none 0 0, .bool false, .slice none 0 0, .slice none 0 0] 86)) = W0 at *
  have HS : Hid (∀ w', Below W0.heap.size W0 w' → w'.cell? ⟨w.heap.size, 0, none⟩ = some (.bool cax.n) ∧ w'.cell? ⟨w.heap.size, 1, none⟩ = some (.slice cax.u cax.nu cax.cu) ∧ w'.cell? ⟨w.heap.size, 2, none⟩ = some (.slice cax.l cax.nl cax.cl) ∧ w'.cell? ⟨w.heap.size, 3, none⟩ = some (.bool cay.n) ∧ w'.cell? ⟨w.heap.size, 4, none⟩ = some (.slice cay.u cay.nu cay.cu) ∧ w'.cell? ⟨w.heap.size, 5, none⟩ = some (.slice cay.l cay.nl cay.cl) ∧ w'.cell? ⟨w.heap.size + 1, 0, none⟩ = some (.bool cq.n) ∧ w'.cell? ⟨w.heap.size + 1, 1, none⟩ = some (.slice cq.u cq.nu cq.cu) ∧ w'.cell? ⟨w.heap.size + 1, 2, none⟩ = some (.slice cq.l cq.nl cq.cl)) := fun w' hb => ⟨(HK0.out.below hb (by rw [HSZ.out]; omega)).cell 0, (HK0.out.below hb (by rw [HSZ.out]; omega)).cell 1, (HK0.out.below hb (by rw [HSZ.out]; omega)).cell 2, (HK0.out.below hb (by rw [HSZ.out]; omega)).cell 3, (HK0.out.below hb (by rw [HSZ.out]; omega)).cell 4, (HK0.out.below hb (by rw [HSZ.out]; omega)).cell 5, (HK1.out.below hb (by rw [HSZ.out]; omega)).cell 0, (HK1.out.below hb (by rw [HSZ.out]; omega)).cell 1, (HK1.out.below hb (by rw [HSZ.out]; omega)).cell 2⟩
  have HSS : Hid (∀ w', Below W0.heap.size W0 w' → ∀ x0 x1 x2 x3 x4 x5 : Value, ((((((w'.setCell ⟨w.heap.size + 1 + 1, 0, none⟩ (x0)).setCell ⟨w.heap.size + 1 + 1, 1, none⟩ (x1)).setCell ⟨w.heap.size + 1 + 1, 2, none⟩ (x2)).setCell ⟨w.heap.size + 1 + 1, 3, none⟩ (x3)).setCell ⟨w.heap.size + 1 + 1, 4, none⟩ (x4)).setCell ⟨w.heap.size + 1 + 1, 5, none⟩ (x5)).cell? ⟨w.heap.size, 0, none⟩ = some (.bool cax.n) ∧ ((((((w'.setCell ⟨w.heap.size + 1 + 1, 0, none⟩ (x0)).setCell ⟨w.heap.size + 1 + 1, 1, none⟩ (x1)).setCell ⟨w.heap.size + 1 + 1, 2, none⟩ (x2)).setCell ⟨w.heap.size + 1 + 1, 3, none⟩ (x3)).setCell ⟨w.heap.size + 1 + 1, 4, none⟩ (x4)).setCell ⟨w.heap.size + 1 + 1, 5, none⟩ (x5)).cell? ⟨w.heap.size, 1, none⟩ = some (.slice cax.u cax.nu cax.cu) ∧ ((((((w'.setCell ⟨w.heap.size + 1 + 1, 0, none⟩ (x0)).setCell ⟨w.heap.size + 1 + 1, 1, none⟩ (x1)).setCell ⟨w.heap.size + 1 + 1, 2, none⟩ (x2)).setCell ⟨w.heap.size + 1 + 1, 3, none⟩ (x3)).setCell ⟨w.heap.size + 1 + 1, 4, none⟩ (x4)).setCell ⟨w.heap.size + 1 + 1, 5, none⟩ (x5)).cell? ⟨w.heap.size, 2, none⟩ = some (.slice cax.l cax.nl cax.cl) ∧ ((((((w'.setCell ⟨w.heap.size + 1 + 1, 0, none⟩ (x0)).setCell ⟨w.heap.size + 1 + 1, 1, none⟩ (x1)).setCell ⟨w.heap.size + 1 + 1, 2, none⟩ (x2)).setCell ⟨w.heap.size + 1 + 1, 3, none⟩ (x3)).setCell ⟨w.heap.size + 1 + 1, 4, none⟩ (x4)).setCell ⟨w.heap.size + 1 + 1, 5, none⟩ (x5)).cell? ⟨w.heap.size, 3, none⟩ = some (.bool cay.n) ∧ ((((((w'.setCell ⟨w.heap.size + 1 + 1, 0, none⟩ (x0)).setCell ⟨w.heap.size + 1 + 1, 1, none⟩ (x1)).setCell ⟨w.heap.size + 1 + 1, 2, none⟩ (x2)).setCell ⟨w.heap.size + 1 + 1, 3, none⟩ (x3)).setCell ⟨w.heap.size + 1 + 1, 4, none⟩ (x4)).setCell ⟨w.heap.size + 1 + 1, 5, none⟩ (x5)).cell? ⟨w.heap.size, 4, none⟩ = some (.slice cay.u cay.nu cay.cu) ∧ ((((((w'.setCell ⟨w.heap.size + 1 + 1, 0, none⟩ (x0)).setCell ⟨w.heap.size + 1 + 1, 1, none⟩ (x1)).setCell ⟨w.heap.size + 1 + 1, 2, none⟩ (x2)).setCell ⟨w.heap.size + 1 + 1, 3, none⟩ (x3)).setCell ⟨w.heap.size + 1 + 1, 4, none⟩ (x4)).setCell ⟨w.heap.size + 1 + 1, 5, none⟩ (x5)).cell? ⟨w.heap.size, 5, none⟩ = some (.slice cay.l cay.nl cay.cl) ∧ ((((((w'.setCell ⟨w.heap.size + 1 + 1, 0, none⟩ (x0)).setCell ⟨w.heap.size + 1 + 1, 1, none⟩ (x1)).setCell ⟨w.heap.size + 1 + 1, 2, none⟩ (x2)).setCell ⟨w.heap.size + 1 + 1, 3, none⟩ (x3)).setCell ⟨w.heap.size + 1 + 1, 4, none⟩ (x4)).setCell ⟨w.heap.size + 1 + 1, 5, none⟩ (x5)).cell? ⟨w.heap.size + 1, 0, none⟩ = some (.bool cq.n) ∧ ((((((w'.setCell ⟨w.heap.size + 1 + 1, 0, none⟩ (x0)).setCell ⟨w.heap.size + 1 + 1, 1, none⟩ (x1)).setCell ⟨w.heap.size + 1 + 1, 2, none⟩ (x2)).setCell ⟨w.heap.size + 1 + 1, 3, none⟩ (x3)).setCell ⟨w.heap.size + 1 + 1, 4, none⟩ (x4)).setCell ⟨w.heap.size + 1 + 1, 5, none⟩ (x5)).cell? ⟨w.heap.size + 1, 1, none⟩ = some (.slice cq.u cq.nu cq.cu) ∧ ((((((w'.setCell ⟨w.heap.size + 1 + 1, 0, none⟩ (x0)).setCell ⟨w.heap.size + 1 + 1, 1, none⟩ (x1)).setCell ⟨w.heap.size + 1 + 1, 2, none⟩ (x2)).setCell ⟨w.heap.size + 1 + 1, 3, none⟩ (x3)).setCell ⟨w.heap.size + 1 + 1, 4, none⟩ (x4)).setCell ⟨w.heap.size + 1 + 1, 5, none⟩ (x5)).cell? ⟨w.heap.size + 1, 2, none⟩ = some (.slice cq.l cq.nl cq.cl)) := fun w' hb x0 x1 x2 x3 x4 x5 => ⟨((HK0.out.below hb (by rw [HSZ.out]; omega)).off6 (g := w.heap.size + 1 + 1) (by omega) x0 x1 x2 x3 x4 x5).cell 0, ((HK0.out.below hb (by rw [HSZ.out]; omega)).off6 (g := w.heap.size + 1 + 1) (by omega) x0 x1 x2 x3 x4 x5).cell 1, ((HK0.out.below hb (by rw [HSZ.out]; omega)).off6 (g := w.heap.size + 1 + 1) (by omega) x0 x1 x2 x3 x4 x5).cell 2, ((HK0.out.below hb (by rw [HSZ.out]; omega)).off6 (g := w.heap.size + 1 + 1) (by omega) x0 x1 x2 x3 x4 x5).cell 3, ((HK0.out.below hb (by rw [HSZ.out]; omega)).off6 (g := w.heap.size + 1 + 1) (by omega) x0 x1 x2 x3 x4 x5).cell 4, ((HK0.out.below hb (by rw [HSZ.out]; omega)).off6 (g := w.heap.size + 1 + 1) (by omega) x0 x1 x2 x3 x4 x5).cell 5, ((HK1.out.below hb (by rw [HSZ.out]; omega)).off6 (g := w.heap.size + 1 + 1) (by omega) x0 x1 x2 x3 x4 x5).cell 0, ((HK1.out.below hb (by rw [HSZ.out]; omega)).off6 (g := w.heap.size + 1 + 1) (by omega) x0 x1 x2 x3 x4 x5).cell 1, ((HK1.out.below hb (by rw [HSZ.out]; omega)).off6 (g := w.heap.size + 1 + 1) (by omega) x0 x1 x2 x3 x4 x5).cell 2⟩
  obtain ⟨z0, z1, z2, z3, z4, z5, z6, z7, z8⟩ := HS.out W0 (Below.refl _ _)
  go_region_held3 (fun w' => w'.cell? ⟨w.heap.size, 0, none⟩ = some (.bool cax.n) ∧ w'.cell? ⟨w.heap.size, 1, none⟩ = some (.slice cax.u cax.nu cax.cu) ∧ w'.cell? ⟨w.heap.size, 2, none⟩ = some (.slice cax.l cax.nl cax.cl) ∧ w'.cell? ⟨w.heap.size, 3, none⟩ = some (.bool cay.n) ∧ w'.cell? ⟨w.heap.size, 4, none⟩ = some (.slice cay.u cay.nu cay.cu) ∧ w'.cell? ⟨w.heap.size, 5, none⟩ = some (.slice cay.l cay.nl cay.cl) ∧ w'.cell? ⟨w.heap.size + 1, 0, none⟩ = some (.bool cq.n) ∧ w'.cell? ⟨w.heap.size + 1, 1, none⟩ = some (.slice cq.u cq.nu cq.cu) ∧ w'.cell? ⟨w.heap.size + 1, 2, none⟩ = some (.slice cq.l cq.nl cq.cl)) (first | go_keep | exact hs1 | exact hs2 | exact hkS)
    (first
      | (go_at_call_of 109 (Value.agg #[Value.bool cax.n, Value.slice cax.u cax.nu cax.cu, Value.slice cax.l cax.nl cax.cl]); refine (times_calls (w := W0.drew) (Hax.out.below (Below.drew (Below.refl _ _))) (Hq.out.below (Below.drew (Below.refl _ _))) F1.out F3.out HK.out).mono ?_; rintro e w1 ⟨hb1, v1, rfl, hv1⟩; have hbl1 : Below W0.heap.size W0 w1 := (Below.drew (Below.refl _ W0)).trans hb1; obtain ⟨d1, rfl⟩ := qv_open hv1; have hs1 := HS.out w1 hbl1)
      | (go_at_call_of 109 (Value.agg #[Value.bool cay.n, Value.slice cay.u cay.nu cay.cu, Value.slice cay.l cay.nl cay.cl]); refine (times_calls (Hay.out.below hbl1) (Hq.out.below hbl1) F2.out F3.out HK.out).mono ?_; rintro e w2 ⟨hb2, v2, rfl, hv2⟩; have hbl2 := hbl1.trans (hb2.mono hbl1.size); obtain ⟨d2, rfl⟩ := qv_open hv2; have hs2 := HS.out w2 hbl2; have hkr := HK2.out.below hbl2 (by rw [HSZ.out]; omega); obtain ⟨r0, r1, r2, r3, r4, r5, f0, f1, f2, f3, f4, f5⟩ := hkr.all6; have hkS := HSS.out w2 hbl2 (.bool d1.n) (.slice d1.u d1.nu d1.cu) (.slice d1.l d1.nl d1.cl) (.bool d2.n) (.slice d2.u d2.nu d2.cu) (.slice d2.l d2.nl d2.cl))
      )
  all_goals
    go_wp2
    obtain ⟨k0, k1, k2, k3, k4, k5, _, _, _, _, _, _⟩ := (hkr.put6 (.bool d1.n) (.slice d1.u d1.nu d1.cu) (.slice d1.l d1.nl d1.cl) (.bool d2.n) (.slice d2.u d2.nu d2.cu) (.slice d2.l d2.nl d2.cl)).all6
    refine bodyPost_ret (v := .agg #[.bool d1.n, .slice d1.u d1.nu d1.cu, .slice d1.l d1.nl d1.cl, .bool d2.n, .slice d2.u d2.nu d2.cu, .slice d2.l d2.nl d2.cl]) (by simp [results, Tryz.results68, go_sem, k0, k1, k2, k3, k4, k5]) rfl ⟨Below.put6 (HB0.out.trans (hbl2.mono HB0.out.size)) (by omega) (.bool d1.n) (.slice d1.u d1.nu d1.cu) (.slice d1.l d1.nl d1.cl) (.bool d2.n) (.slice d2.u d2.nu d2.cu) (.slice d2.l d2.nl d2.cl), _, rfl, ?_⟩
    have hst := Stays.put6 hkr (by simp [notLimb]) (.bool d1.n) (.slice d1.u d1.nu d1.cu) (.slice d1.l d1.nl d1.cl) (.bool d2.n) (.slice d2.u d2.nu d2.cu) (.slice d2.l d2.nl d2.cl) rfl rfl rfl rfl rfl rfl
    exact ⟨d1, d2, rfl, hst.qv (hv1.below hb2), hst.qv hv2⟩
theorem wayTimes_calls {w : World} {va vb : Value} {ax ay q : Rat} {k l : Nat} (ha : WV w va ax ay) (hb : QV w vb q) (f1 : QS k ax) (f2 : QS k ay) (f3 : QS l q) (hk : k + l + 1 ≤ 35184372088640) :
    Calls Tryz.prog 68 #[va, vb] w fun e w' => Below w.heap.size w w' ∧ ∃ v, e = .returned v ∧ WV w' v (ax * q) (ay * q) := by
  obtain ⟨c1, c2, rfl, h1, h2⟩ := ha
  obtain ⟨c3, rfl⟩ := qv_open hb
  exact wayTimes_walk h1 h2 hb f1 f2 f3 hk
theorem wayOver_walk {w : World} {cax cay cq : C3} {ax ay q : Rat} (hax : QV w (.agg #[.bool cax.n, .slice cax.u cax.nu cax.cu, .slice cax.l cax.nl cax.cl]) ax) (hay : QV w (.agg #[.bool cay.n, .slice cay.u cay.nu cay.cu, .slice cay.l cay.nl cay.cl]) ay) (hq : QV w (.agg #[.bool cq.n, .slice cq.u cq.nu cq.cu, .slice cq.l cq.nl cq.cl]) q) {k l : Nat} (f1 : QS k ax) (f2 : QS k ay) (f3 : QS l q) (hk : k + l + 1 ≤ 35184372088640) :
    Calls Tryz.prog 92 #[.agg #[.bool cax.n, .slice cax.u cax.nu cax.cu, .slice cax.l cax.nl cax.cl, .bool cay.n, .slice cay.u cay.nu cay.cu, .slice cay.l cay.nl cay.cl], .agg #[.bool cq.n, .slice cq.u cq.nu cq.cu, .slice cq.l cq.nl cq.cl]] w fun e w' => Below w.heap.size w w' ∧ ∃ v, e = .returned v ∧ WV w' v (ax / q) (ay / q) := by
  obtain ⟨hb0, hk0, hk1, hk2, hsz⟩ := boxes3 w #[.bool cax.n, .slice cax.u cax.nu cax.cu, .slice cax.l cax.nl cax.cl, .bool cay.n, .slice cay.u cay.nu cay.cu, .slice cay.l cay.nl cay.cl] #[.bool cq.n, .slice cq.u cq.nu cq.cu, .slice cq.l cq.nl cq.cl] #[.bool false, .slice none 0 0, .slice none 0 0, .bool false, .slice none 0 0, .slice none 0 0] 86 84 86
  have HB0 := hideIt hb0
  have HSZ := hideIt hsz
  have HK0 := hideIt hk0
  have HK1 := hideIt hk1
  have HK2 := hideIt hk2
  have Hax := hideIt (hax.below hb0)
  have Hay := hideIt (hay.below hb0)
  have Hq := hideIt (hq.below hb0)
  have F1 := hideIt f1
  have F2 := hideIt f2
  have F3 := hideIt f3
  have HK := hideIt hk
  clear hb0 hsz hk0 hk1 hk2 hax hay hq f1 f2 f3 hk
  go_enter Tryz.func92, Tryz.ntmps92
  go_wp2_with fail
  generalize (((w.alloc (.cells #[.bool cax.n, .slice cax.u cax.nu cax.cu, .slice cax.l cax.nl cax.cl, .bool cay.n, .slice cay.u cay.nu cay.cu, .slice cay.l cay.nl cay.cl] 86)).alloc (.cells #[.bool cq.n, .slice cq.u cq.nu cq.cu, .slice cq.l cq.nl cq.cl] 84)).alloc (.cells #[.bool false, .slice none 0 0, .slice none 0 0, .bool false, .slice none 0 0, .slice none 0 0] 86)) = W0 at *
  have HS : Hid (∀ w', Below W0.heap.size W0 w' → w'.cell? ⟨w.heap.size, 0, none⟩ = some (.bool cax.n) ∧ w'.cell? ⟨w.heap.size, 1, none⟩ = some (.slice cax.u cax.nu cax.cu) ∧ w'.cell? ⟨w.heap.size, 2, none⟩ = some (.slice cax.l cax.nl cax.cl) ∧ w'.cell? ⟨w.heap.size, 3, none⟩ = some (.bool cay.n) ∧ w'.cell? ⟨w.heap.size, 4, none⟩ = some (.slice cay.u cay.nu cay.cu) ∧ w'.cell? ⟨w.heap.size, 5, none⟩ = some (.slice cay.l cay.nl cay.cl) ∧ w'.cell? ⟨w.heap.size + 1, 0, none⟩ = some (.bool cq.n) ∧ w'.cell? ⟨w.heap.size + 1, 1, none⟩ = some (.slice cq.u cq.nu cq.cu) ∧ w'.cell? ⟨w.heap.size + 1, 2, none⟩ = some (.slice cq.l cq.nl cq.cl)) := fun w' hb => ⟨(HK0.out.below hb (by rw [HSZ.out]; omega)).cell 0, (HK0.out.below hb (by rw [HSZ.out]; omega)).cell 1, (HK0.out.below hb (by rw [HSZ.out]; omega)).cell 2, (HK0.out.below hb (by rw [HSZ.out]; omega)).cell 3, (HK0.out.below hb (by rw [HSZ.out]; omega)).cell 4, (HK0.out.below hb (by rw [HSZ.out]; omega)).cell 5, (HK1.out.below hb (by rw [HSZ.out]; omega)).cell 0, (HK1.out.below hb (by rw [HSZ.out]; omega)).cell 1, (HK1.out.below hb (by rw [HSZ.out]; omega)).cell 2⟩
  have HSS : Hid (∀ w', Below W0.heap.size W0 w' → ∀ x0 x1 x2 x3 x4 x5 : Value, ((((((w'.setCell ⟨w.heap.size + 1 + 1, 0, none⟩ (x0)).setCell ⟨w.heap.size + 1 + 1, 1, none⟩ (x1)).setCell ⟨w.heap.size + 1 + 1, 2, none⟩ (x2)).setCell ⟨w.heap.size + 1 + 1, 3, none⟩ (x3)).setCell ⟨w.heap.size + 1 + 1, 4, none⟩ (x4)).setCell ⟨w.heap.size + 1 + 1, 5, none⟩ (x5)).cell? ⟨w.heap.size, 0, none⟩ = some (.bool cax.n) ∧ ((((((w'.setCell ⟨w.heap.size + 1 + 1, 0, none⟩ (x0)).setCell ⟨w.heap.size + 1 + 1, 1, none⟩ (x1)).setCell ⟨w.heap.size + 1 + 1, 2, none⟩ (x2)).setCell ⟨w.heap.size + 1 + 1, 3, none⟩ (x3)).setCell ⟨w.heap.size + 1 + 1, 4, none⟩ (x4)).setCell ⟨w.heap.size + 1 + 1, 5, none⟩ (x5)).cell? ⟨w.heap.size, 1, none⟩ = some (.slice cax.u cax.nu cax.cu) ∧ ((((((w'.setCell ⟨w.heap.size + 1 + 1, 0, none⟩ (x0)).setCell ⟨w.heap.size + 1 + 1, 1, none⟩ (x1)).setCell ⟨w.heap.size + 1 + 1, 2, none⟩ (x2)).setCell ⟨w.heap.size + 1 + 1, 3, none⟩ (x3)).setCell ⟨w.heap.size + 1 + 1, 4, none⟩ (x4)).setCell ⟨w.heap.size + 1 + 1, 5, none⟩ (x5)).cell? ⟨w.heap.size, 2, none⟩ = some (.slice cax.l cax.nl cax.cl) ∧ ((((((w'.setCell ⟨w.heap.size + 1 + 1, 0, none⟩ (x0)).setCell ⟨w.heap.size + 1 + 1, 1, none⟩ (x1)).setCell ⟨w.heap.size + 1 + 1, 2, none⟩ (x2)).setCell ⟨w.heap.size + 1 + 1, 3, none⟩ (x3)).setCell ⟨w.heap.size + 1 + 1, 4, none⟩ (x4)).setCell ⟨w.heap.size + 1 + 1, 5, none⟩ (x5)).cell? ⟨w.heap.size, 3, none⟩ = some (.bool cay.n) ∧ ((((((w'.setCell ⟨w.heap.size + 1 + 1, 0, none⟩ (x0)).setCell ⟨w.heap.size + 1 + 1, 1, none⟩ (x1)).setCell ⟨w.heap.size + 1 + 1, 2, none⟩ (x2)).setCell ⟨w.heap.size + 1 + 1, 3, none⟩ (x3)).setCell ⟨w.heap.size + 1 + 1, 4, none⟩ (x4)).setCell ⟨w.heap.size + 1 + 1, 5, none⟩ (x5)).cell? ⟨w.heap.size, 4, none⟩ = some (.slice cay.u cay.nu cay.cu) ∧ ((((((w'.setCell ⟨w.heap.size + 1 + 1, 0, none⟩ (x0)).setCell ⟨w.heap.size + 1 + 1, 1, none⟩ (x1)).setCell ⟨w.heap.size + 1 + 1, 2, none⟩ (x2)).setCell ⟨w.heap.size + 1 + 1, 3, none⟩ (x3)).setCell ⟨w.heap.size + 1 + 1, 4, none⟩ (x4)).setCell ⟨w.heap.size + 1 + 1, 5, none⟩ (x5)).cell? ⟨w.heap.size, 5, none⟩ = some (.slice cay.l cay.nl cay.cl) ∧ ((((((w'.setCell ⟨w.heap.size + 1 + 1, 0, none⟩ (x0)).setCell ⟨w.heap.size + 1 + 1, 1, none⟩ (x1)).setCell ⟨w.heap.size + 1 + 1, 2, none⟩ (x2)).setCell ⟨w.heap.size + 1 + 1, 3, none⟩ (x3)).setCell ⟨w.heap.size + 1 + 1, 4, none⟩ (x4)).setCell ⟨w.heap.size + 1 + 1, 5, none⟩ (x5)).cell? ⟨w.heap.size + 1, 0, none⟩ = some (.bool cq.n) ∧ ((((((w'.setCell ⟨w.heap.size + 1 + 1, 0, none⟩ (x0)).setCell ⟨w.heap.size + 1 + 1, 1, none⟩ (x1)).setCell ⟨w.heap.size + 1 + 1, 2, none⟩ (x2)).setCell ⟨w.heap.size + 1 + 1, 3, none⟩ (x3)).setCell ⟨w.heap.size + 1 + 1, 4, none⟩ (x4)).setCell ⟨w.heap.size + 1 + 1, 5, none⟩ (x5)).cell? ⟨w.heap.size + 1, 1, none⟩ = some (.slice cq.u cq.nu cq.cu) ∧ ((((((w'.setCell ⟨w.heap.size + 1 + 1, 0, none⟩ (x0)).setCell ⟨w.heap.size + 1 + 1, 1, none⟩ (x1)).setCell ⟨w.heap.size + 1 + 1, 2, none⟩ (x2)).setCell ⟨w.heap.size + 1 + 1, 3, none⟩ (x3)).setCell ⟨w.heap.size + 1 + 1, 4, none⟩ (x4)).setCell ⟨w.heap.size + 1 + 1, 5, none⟩ (x5)).cell? ⟨w.heap.size + 1, 2, none⟩ = some (.slice cq.l cq.nl cq.cl)) := fun w' hb x0 x1 x2 x3 x4 x5 => ⟨((HK0.out.below hb (by rw [HSZ.out]; omega)).off6 (g := w.heap.size + 1 + 1) (by omega) x0 x1 x2 x3 x4 x5).cell 0, ((HK0.out.below hb (by rw [HSZ.out]; omega)).off6 (g := w.heap.size + 1 + 1) (by omega) x0 x1 x2 x3 x4 x5).cell 1, ((HK0.out.below hb (by rw [HSZ.out]; omega)).off6 (g := w.heap.size + 1 + 1) (by omega) x0 x1 x2 x3 x4 x5).cell 2, ((HK0.out.below hb (by rw [HSZ.out]; omega)).off6 (g := w.heap.size + 1 + 1) (by omega) x0 x1 x2 x3 x4 x5).cell 3, ((HK0.out.below hb (by rw [HSZ.out]; omega)).off6 (g := w.heap.size + 1 + 1) (by omega) x0 x1 x2 x3 x4 x5).cell 4, ((HK0.out.below hb (by rw [HSZ.out]; omega)).off6 (g := w.heap.size + 1 + 1) (by omega) x0 x1 x2 x3 x4 x5).cell 5, ((HK1.out.below hb (by rw [HSZ.out]; omega)).off6 (g := w.heap.size + 1 + 1) (by omega) x0 x1 x2 x3 x4 x5).cell 0, ((HK1.out.below hb (by rw [HSZ.out]; omega)).off6 (g := w.heap.size + 1 + 1) (by omega) x0 x1 x2 x3 x4 x5).cell 1, ((HK1.out.below hb (by rw [HSZ.out]; omega)).off6 (g := w.heap.size + 1 + 1) (by omega) x0 x1 x2 x3 x4 x5).cell 2⟩
  obtain ⟨z0, z1, z2, z3, z4, z5, z6, z7, z8⟩ := HS.out W0 (Below.refl _ _)
  go_region_held3 (fun w' => w'.cell? ⟨w.heap.size, 0, none⟩ = some (.bool cax.n) ∧ w'.cell? ⟨w.heap.size, 1, none⟩ = some (.slice cax.u cax.nu cax.cu) ∧ w'.cell? ⟨w.heap.size, 2, none⟩ = some (.slice cax.l cax.nl cax.cl) ∧ w'.cell? ⟨w.heap.size, 3, none⟩ = some (.bool cay.n) ∧ w'.cell? ⟨w.heap.size, 4, none⟩ = some (.slice cay.u cay.nu cay.cu) ∧ w'.cell? ⟨w.heap.size, 5, none⟩ = some (.slice cay.l cay.nl cay.cl) ∧ w'.cell? ⟨w.heap.size + 1, 0, none⟩ = some (.bool cq.n) ∧ w'.cell? ⟨w.heap.size + 1, 1, none⟩ = some (.slice cq.u cq.nu cq.cu) ∧ w'.cell? ⟨w.heap.size + 1, 2, none⟩ = some (.slice cq.l cq.nl cq.cl)) (first | go_keep | exact hs1 | exact hs2 | exact hkS)
    (first
      | (go_at_call_of 122 (Value.agg #[Value.bool cax.n, Value.slice cax.u cax.nu cax.cu, Value.slice cax.l cax.nl cax.cl]); refine (overQ_calls (w := W0.drew) (Hax.out.below (Below.drew (Below.refl _ _))) (Hq.out.below (Below.drew (Below.refl _ _))) F1.out F3.out HK.out).mono ?_; rintro e w1 ⟨hb1, v1, rfl, hv1⟩; have hbl1 : Below W0.heap.size W0 w1 := (Below.drew (Below.refl _ W0)).trans hb1; obtain ⟨d1, rfl⟩ := qv_open hv1; have hs1 := HS.out w1 hbl1)
      | (go_at_call_of 122 (Value.agg #[Value.bool cay.n, Value.slice cay.u cay.nu cay.cu, Value.slice cay.l cay.nl cay.cl]); refine (overQ_calls (Hay.out.below hbl1) (Hq.out.below hbl1) F2.out F3.out HK.out).mono ?_; rintro e w2 ⟨hb2, v2, rfl, hv2⟩; have hbl2 := hbl1.trans (hb2.mono hbl1.size); obtain ⟨d2, rfl⟩ := qv_open hv2; have hs2 := HS.out w2 hbl2; have hkr := HK2.out.below hbl2 (by rw [HSZ.out]; omega); obtain ⟨r0, r1, r2, r3, r4, r5, f0, f1, f2, f3, f4, f5⟩ := hkr.all6; have hkS := HSS.out w2 hbl2 (.bool d1.n) (.slice d1.u d1.nu d1.cu) (.slice d1.l d1.nl d1.cl) (.bool d2.n) (.slice d2.u d2.nu d2.cu) (.slice d2.l d2.nl d2.cl))
      )
  all_goals
    go_wp2
    obtain ⟨k0, k1, k2, k3, k4, k5, _, _, _, _, _, _⟩ := (hkr.put6 (.bool d1.n) (.slice d1.u d1.nu d1.cu) (.slice d1.l d1.nl d1.cl) (.bool d2.n) (.slice d2.u d2.nu d2.cu) (.slice d2.l d2.nl d2.cl)).all6
    refine bodyPost_ret (v := .agg #[.bool d1.n, .slice d1.u d1.nu d1.cu, .slice d1.l d1.nl d1.cl, .bool d2.n, .slice d2.u d2.nu d2.cu, .slice d2.l d2.nl d2.cl]) (by simp [results, Tryz.results92, go_sem, k0, k1, k2, k3, k4, k5]) rfl ⟨Below.put6 (HB0.out.trans (hbl2.mono HB0.out.size)) (by omega) (.bool d1.n) (.slice d1.u d1.nu d1.cu) (.slice d1.l d1.nl d1.cl) (.bool d2.n) (.slice d2.u d2.nu d2.cu) (.slice d2.l d2.nl d2.cl), _, rfl, ?_⟩
    have hst := Stays.put6 hkr (by simp [notLimb]) (.bool d1.n) (.slice d1.u d1.nu d1.cu) (.slice d1.l d1.nl d1.cl) (.bool d2.n) (.slice d2.u d2.nu d2.cu) (.slice d2.l d2.nl d2.cl) rfl rfl rfl rfl rfl rfl
    exact ⟨d1, d2, rfl, hst.qv (hv1.below hb2), hst.qv hv2⟩
theorem wayOver_calls {w : World} {va vb : Value} {ax ay q : Rat} {k l : Nat} (ha : WV w va ax ay) (hb : QV w vb q) (f1 : QS k ax) (f2 : QS k ay) (f3 : QS l q) (hk : k + l + 1 ≤ 35184372088640) :
    Calls Tryz.prog 92 #[va, vb] w fun e w' => Below w.heap.size w w' ∧ ∃ v, e = .returned v ∧ WV w' v (ax / q) (ay / q) := by
  obtain ⟨c1, c2, rfl, h1, h2⟩ := ha
  obtain ⟨c3, rfl⟩ := qv_open hb
  exact wayOver_walk h1 h2 hb f1 f2 f3 hk
theorem wayLeft_walk {w : World} {cax cay : C3} {ax ay : Rat} (hax : QV w (.agg #[.bool cax.n, .slice cax.u cax.nu cax.cu, .slice cax.l cax.nl cax.cl]) ax) (hay : QV w (.agg #[.bool cay.n, .slice cay.u cay.nu cay.cu, .slice cay.l cay.nl cay.cl]) ay)  :
    Calls Tryz.prog 65 #[.agg #[.bool cax.n, .slice cax.u cax.nu cax.cu, .slice cax.l cax.nl cax.cl, .bool cay.n, .slice cay.u cay.nu cay.cu, .slice cay.l cay.nl cay.cl]] w fun e w' => Below w.heap.size w w' ∧ ∃ v, e = .returned v ∧ WV w' v (-ay) ax := by
  obtain ⟨hb0, hk0, hk1, hsz⟩ := boxes2 w #[.bool cax.n, .slice cax.u cax.nu cax.cu, .slice cax.l cax.nl cax.cl, .bool cay.n, .slice cay.u cay.nu cay.cu, .slice cay.l cay.nl cay.cl] #[.bool false, .slice none 0 0, .slice none 0 0, .bool false, .slice none 0 0, .slice none 0 0] 86 86
  have HB0 := hideIt hb0
  have HSZ := hideIt hsz
  have HK0 := hideIt hk0
  have HK1 := hideIt hk1
  have Hax := hideIt (hax.below hb0)
  have Hay := hideIt (hay.below hb0)
  clear hb0 hsz hk0 hk1 hax hay 
  go_enter Tryz.func65, Tryz.ntmps65
  go_wp2_with fail
  generalize ((w.alloc (.cells #[.bool cax.n, .slice cax.u cax.nu cax.cu, .slice cax.l cax.nl cax.cl, .bool cay.n, .slice cay.u cay.nu cay.cu, .slice cay.l cay.nl cay.cl] 86)).alloc (.cells #[.bool false, .slice none 0 0, .slice none 0 0, .bool false, .slice none 0 0, .slice none 0 0] 86)) = W0 at *
  have HS : Hid (∀ w', Below W0.heap.size W0 w' → w'.cell? ⟨w.heap.size, 0, none⟩ = some (.bool cax.n) ∧ w'.cell? ⟨w.heap.size, 1, none⟩ = some (.slice cax.u cax.nu cax.cu) ∧ w'.cell? ⟨w.heap.size, 2, none⟩ = some (.slice cax.l cax.nl cax.cl) ∧ w'.cell? ⟨w.heap.size, 3, none⟩ = some (.bool cay.n) ∧ w'.cell? ⟨w.heap.size, 4, none⟩ = some (.slice cay.u cay.nu cay.cu) ∧ w'.cell? ⟨w.heap.size, 5, none⟩ = some (.slice cay.l cay.nl cay.cl)) := fun w' hb => ⟨(HK0.out.below hb (by rw [HSZ.out]; omega)).cell 0, (HK0.out.below hb (by rw [HSZ.out]; omega)).cell 1, (HK0.out.below hb (by rw [HSZ.out]; omega)).cell 2, (HK0.out.below hb (by rw [HSZ.out]; omega)).cell 3, (HK0.out.below hb (by rw [HSZ.out]; omega)).cell 4, (HK0.out.below hb (by rw [HSZ.out]; omega)).cell 5⟩
  have HSS : Hid (∀ w', Below W0.heap.size W0 w' → ∀ x0 x1 x2 x3 x4 x5 : Value, ((((((w'.setCell ⟨w.heap.size + 1, 0, none⟩ (x0)).setCell ⟨w.heap.size + 1, 1, none⟩ (x1)).setCell ⟨w.heap.size + 1, 2, none⟩ (x2)).setCell ⟨w.heap.size + 1, 3, none⟩ (x3)).setCell ⟨w.heap.size + 1, 4, none⟩ (x4)).setCell ⟨w.heap.size + 1, 5, none⟩ (x5)).cell? ⟨w.heap.size, 0, none⟩ = some (.bool cax.n) ∧ ((((((w'.setCell ⟨w.heap.size + 1, 0, none⟩ (x0)).setCell ⟨w.heap.size + 1, 1, none⟩ (x1)).setCell ⟨w.heap.size + 1, 2, none⟩ (x2)).setCell ⟨w.heap.size + 1, 3, none⟩ (x3)).setCell ⟨w.heap.size + 1, 4, none⟩ (x4)).setCell ⟨w.heap.size + 1, 5, none⟩ (x5)).cell? ⟨w.heap.size, 1, none⟩ = some (.slice cax.u cax.nu cax.cu) ∧ ((((((w'.setCell ⟨w.heap.size + 1, 0, none⟩ (x0)).setCell ⟨w.heap.size + 1, 1, none⟩ (x1)).setCell ⟨w.heap.size + 1, 2, none⟩ (x2)).setCell ⟨w.heap.size + 1, 3, none⟩ (x3)).setCell ⟨w.heap.size + 1, 4, none⟩ (x4)).setCell ⟨w.heap.size + 1, 5, none⟩ (x5)).cell? ⟨w.heap.size, 2, none⟩ = some (.slice cax.l cax.nl cax.cl) ∧ ((((((w'.setCell ⟨w.heap.size + 1, 0, none⟩ (x0)).setCell ⟨w.heap.size + 1, 1, none⟩ (x1)).setCell ⟨w.heap.size + 1, 2, none⟩ (x2)).setCell ⟨w.heap.size + 1, 3, none⟩ (x3)).setCell ⟨w.heap.size + 1, 4, none⟩ (x4)).setCell ⟨w.heap.size + 1, 5, none⟩ (x5)).cell? ⟨w.heap.size, 3, none⟩ = some (.bool cay.n) ∧ ((((((w'.setCell ⟨w.heap.size + 1, 0, none⟩ (x0)).setCell ⟨w.heap.size + 1, 1, none⟩ (x1)).setCell ⟨w.heap.size + 1, 2, none⟩ (x2)).setCell ⟨w.heap.size + 1, 3, none⟩ (x3)).setCell ⟨w.heap.size + 1, 4, none⟩ (x4)).setCell ⟨w.heap.size + 1, 5, none⟩ (x5)).cell? ⟨w.heap.size, 4, none⟩ = some (.slice cay.u cay.nu cay.cu) ∧ ((((((w'.setCell ⟨w.heap.size + 1, 0, none⟩ (x0)).setCell ⟨w.heap.size + 1, 1, none⟩ (x1)).setCell ⟨w.heap.size + 1, 2, none⟩ (x2)).setCell ⟨w.heap.size + 1, 3, none⟩ (x3)).setCell ⟨w.heap.size + 1, 4, none⟩ (x4)).setCell ⟨w.heap.size + 1, 5, none⟩ (x5)).cell? ⟨w.heap.size, 5, none⟩ = some (.slice cay.l cay.nl cay.cl)) := fun w' hb x0 x1 x2 x3 x4 x5 => ⟨((HK0.out.below hb (by rw [HSZ.out]; omega)).off6 (g := w.heap.size + 1) (by omega) x0 x1 x2 x3 x4 x5).cell 0, ((HK0.out.below hb (by rw [HSZ.out]; omega)).off6 (g := w.heap.size + 1) (by omega) x0 x1 x2 x3 x4 x5).cell 1, ((HK0.out.below hb (by rw [HSZ.out]; omega)).off6 (g := w.heap.size + 1) (by omega) x0 x1 x2 x3 x4 x5).cell 2, ((HK0.out.below hb (by rw [HSZ.out]; omega)).off6 (g := w.heap.size + 1) (by omega) x0 x1 x2 x3 x4 x5).cell 3, ((HK0.out.below hb (by rw [HSZ.out]; omega)).off6 (g := w.heap.size + 1) (by omega) x0 x1 x2 x3 x4 x5).cell 4, ((HK0.out.below hb (by rw [HSZ.out]; omega)).off6 (g := w.heap.size + 1) (by omega) x0 x1 x2 x3 x4 x5).cell 5⟩
  obtain ⟨z0, z1, z2, z3, z4, z5⟩ := HS.out W0 (Below.refl _ _)
  go_region_held3 (fun w' => w'.cell? ⟨w.heap.size, 0, none⟩ = some (.bool cax.n) ∧ w'.cell? ⟨w.heap.size, 1, none⟩ = some (.slice cax.u cax.nu cax.cu) ∧ w'.cell? ⟨w.heap.size, 2, none⟩ = some (.slice cax.l cax.nl cax.cl) ∧ w'.cell? ⟨w.heap.size, 3, none⟩ = some (.bool cay.n) ∧ w'.cell? ⟨w.heap.size, 4, none⟩ = some (.slice cay.u cay.nu cay.cu) ∧ w'.cell? ⟨w.heap.size, 5, none⟩ = some (.slice cay.l cay.nl cay.cl)) (first | go_keep | exact hs1 | exact hkS)
    (first
      | (go_at_call 107; refine (negative_calls (w := W0.drew) (Hay.out.below (Below.drew (Below.refl _ _)))).mono ?_; rintro e w1 ⟨hb1, v1, rfl, hv1⟩; have hbl1 : Below W0.heap.size W0 w1 := (Below.drew (Below.refl _ W0)).trans hb1; obtain ⟨d1, rfl⟩ := qv_open hv1; have hs1 := HS.out w1 hbl1; have hkr := HK1.out.below hbl1 (by rw [HSZ.out]; omega); obtain ⟨r0, r1, r2, r3, r4, r5, f0, f1, f2, f3, f4, f5⟩ := hkr.all6; have hkS := HSS.out w1 hbl1 (.bool d1.n) (.slice d1.u d1.nu d1.cu) (.slice d1.l d1.nl d1.cl) (.bool cax.n) (.slice cax.u cax.nu cax.cu) (.slice cax.l cax.nl cax.cl))
      )
  all_goals
    go_wp2
    obtain ⟨k0, k1, k2, k3, k4, k5, _, _, _, _, _, _⟩ := (hkr.put6 (.bool d1.n) (.slice d1.u d1.nu d1.cu) (.slice d1.l d1.nl d1.cl) (.bool cax.n) (.slice cax.u cax.nu cax.cu) (.slice cax.l cax.nl cax.cl)).all6
    refine bodyPost_ret (v := .agg #[.bool d1.n, .slice d1.u d1.nu d1.cu, .slice d1.l d1.nl d1.cl, .bool cax.n, .slice cax.u cax.nu cax.cu, .slice cax.l cax.nl cax.cl]) (by simp [results, Tryz.results65, go_sem, k0, k1, k2, k3, k4, k5]) rfl ⟨Below.put6 (HB0.out.trans (hbl1.mono HB0.out.size)) (by omega) (.bool d1.n) (.slice d1.u d1.nu d1.cu) (.slice d1.l d1.nl d1.cl) (.bool cax.n) (.slice cax.u cax.nu cax.cu) (.slice cax.l cax.nl cax.cl), _, rfl, ?_⟩
    have hst := Stays.put6 hkr (by simp [notLimb]) (.bool d1.n) (.slice d1.u d1.nu d1.cu) (.slice d1.l d1.nl d1.cl) (.bool cax.n) (.slice cax.u cax.nu cax.cu) (.slice cax.l cax.nl cax.cl) rfl rfl rfl rfl rfl rfl
    exact ⟨d1, cax, rfl, hst.qv hv1, hst.qv (Hax.out.below hbl1)⟩
theorem wayLeft_calls {w : World} {va : Value} {ax ay : Rat} (ha : WV w va ax ay) :
    Calls Tryz.prog 65 #[va] w fun e w' => Below w.heap.size w w' ∧ ∃ v, e = .returned v ∧ WV w' v (-ay) ax := by
  obtain ⟨c1, c2, rfl, h1, h2⟩ := ha
  exact wayLeft_walk h1 h2
theorem wayCross_walk {w : World} {cax cay cbx cbz : C3} {ax ay bx bz : Rat} (hax : QV w (.agg #[.bool cax.n, .slice cax.u cax.nu cax.cu, .slice cax.l cax.nl cax.cl]) ax) (hay : QV w (.agg #[.bool cay.n, .slice cay.u cay.nu cay.cu, .slice cay.l cay.nl cay.cl]) ay) (hbx : QV w (.agg #[.bool cbx.n, .slice cbx.u cbx.nu cbx.cu, .slice cbx.l cbx.nl cbx.cl]) bx) (hbz : QV w (.agg #[.bool cbz.n, .slice cbz.u cbz.nu cbz.cu, .slice cbz.l cbz.nl cbz.cl]) bz) {k l : Nat} (f1 : QS k ax) (f2 : QS k ay) (f3 : QS l bx) (f4 : QS l bz) (hk : k + l + (k + l) + 1 ≤ 35184372088640) :
    Calls Tryz.prog 115 #[.agg #[.bool cax.n, .slice cax.u cax.nu cax.cu, .slice cax.l cax.nl cax.cl, .bool cay.n, .slice cay.u cay.nu cay.cu, .slice cay.l cay.nl cay.cl], .agg #[.bool cbx.n, .slice cbx.u cbx.nu cbx.cu, .slice cbx.l cbx.nl cbx.cl, .bool cbz.n, .slice cbz.u cbz.nu cbz.cu, .slice cbz.l cbz.nl cbz.cl]] w fun e w' => Below w.heap.size w w' ∧ ∃ v, e = .returned v ∧ QV w' v (ax * bz - ay * bx) := by
  obtain ⟨hb0, hk0, hk1, hk2, hsz⟩ := boxes3 w #[.bool cax.n, .slice cax.u cax.nu cax.cu, .slice cax.l cax.nl cax.cl, .bool cay.n, .slice cay.u cay.nu cay.cu, .slice cay.l cay.nl cay.cl] #[.bool cbx.n, .slice cbx.u cbx.nu cbx.cu, .slice cbx.l cbx.nl cbx.cl, .bool cbz.n, .slice cbz.u cbz.nu cbz.cu, .slice cbz.l cbz.nl cbz.cl] #[.bool false, .slice none 0 0, .slice none 0 0] 86 86 84
  have HB0 := hideIt hb0
  have HSZ := hideIt hsz
  have HK0 := hideIt hk0
  have HK1 := hideIt hk1
  have HK2 := hideIt hk2
  have Hax := hideIt (hax.below hb0)
  have Hay := hideIt (hay.below hb0)
  have Hbx := hideIt (hbx.below hb0)
  have Hbz := hideIt (hbz.below hb0)
  have F1 := hideIt f1
  have F2 := hideIt f2
  have F3 := hideIt f3
  have F4 := hideIt f4
  have HK := hideIt hk
  clear hb0 hsz hk0 hk1 hk2 hax hay hbx hbz f1 f2 f3 f4 hk
  have HL : Hid (k + l + 1 ≤ 35184372088640) := by have := HK.out; show _ ≤ _; omega
  go_enter Tryz.func115, Tryz.ntmps115
  go_wp2_with fail
  generalize (((w.alloc (.cells #[.bool cax.n, .slice cax.u cax.nu cax.cu, .slice cax.l cax.nl cax.cl, .bool cay.n, .slice cay.u cay.nu cay.cu, .slice cay.l cay.nl cay.cl] 86)).alloc (.cells #[.bool cbx.n, .slice cbx.u cbx.nu cbx.cu, .slice cbx.l cbx.nl cbx.cl, .bool cbz.n, .slice cbz.u cbz.nu cbz.cu, .slice cbz.l cbz.nl cbz.cl] 86)).alloc (.cells #[.bool false, .slice none 0 0, .slice none 0 0] 84)) = W0 at *
  have HS : Hid (∀ w', Below W0.heap.size W0 w' → w'.cell? ⟨w.heap.size, 0, none⟩ = some (.bool cax.n) ∧ w'.cell? ⟨w.heap.size, 1, none⟩ = some (.slice cax.u cax.nu cax.cu) ∧ w'.cell? ⟨w.heap.size, 2, none⟩ = some (.slice cax.l cax.nl cax.cl) ∧ w'.cell? ⟨w.heap.size, 3, none⟩ = some (.bool cay.n) ∧ w'.cell? ⟨w.heap.size, 4, none⟩ = some (.slice cay.u cay.nu cay.cu) ∧ w'.cell? ⟨w.heap.size, 5, none⟩ = some (.slice cay.l cay.nl cay.cl) ∧ w'.cell? ⟨w.heap.size + 1, 0, none⟩ = some (.bool cbx.n) ∧ w'.cell? ⟨w.heap.size + 1, 1, none⟩ = some (.slice cbx.u cbx.nu cbx.cu) ∧ w'.cell? ⟨w.heap.size + 1, 2, none⟩ = some (.slice cbx.l cbx.nl cbx.cl) ∧ w'.cell? ⟨w.heap.size + 1, 3, none⟩ = some (.bool cbz.n) ∧ w'.cell? ⟨w.heap.size + 1, 4, none⟩ = some (.slice cbz.u cbz.nu cbz.cu) ∧ w'.cell? ⟨w.heap.size + 1, 5, none⟩ = some (.slice cbz.l cbz.nl cbz.cl)) := fun w' hb => ⟨(HK0.out.below hb (by rw [HSZ.out]; omega)).cell 0, (HK0.out.below hb (by rw [HSZ.out]; omega)).cell 1, (HK0.out.below hb (by rw [HSZ.out]; omega)).cell 2, (HK0.out.below hb (by rw [HSZ.out]; omega)).cell 3, (HK0.out.below hb (by rw [HSZ.out]; omega)).cell 4, (HK0.out.below hb (by rw [HSZ.out]; omega)).cell 5, (HK1.out.below hb (by rw [HSZ.out]; omega)).cell 0, (HK1.out.below hb (by rw [HSZ.out]; omega)).cell 1, (HK1.out.below hb (by rw [HSZ.out]; omega)).cell 2, (HK1.out.below hb (by rw [HSZ.out]; omega)).cell 3, (HK1.out.below hb (by rw [HSZ.out]; omega)).cell 4, (HK1.out.below hb (by rw [HSZ.out]; omega)).cell 5⟩
  have HSS : Hid (∀ w', Below W0.heap.size W0 w' → ∀ x0 x1 x2 : Value, (((w'.setCell ⟨w.heap.size + 1 + 1, 0, none⟩ (x0)).setCell ⟨w.heap.size + 1 + 1, 1, none⟩ (x1)).setCell ⟨w.heap.size + 1 + 1, 2, none⟩ (x2)).cell? ⟨w.heap.size, 0, none⟩ = some (.bool cax.n) ∧ (((w'.setCell ⟨w.heap.size + 1 + 1, 0, none⟩ (x0)).setCell ⟨w.heap.size + 1 + 1, 1, none⟩ (x1)).setCell ⟨w.heap.size + 1 + 1, 2, none⟩ (x2)).cell? ⟨w.heap.size, 1, none⟩ = some (.slice cax.u cax.nu cax.cu) ∧ (((w'.setCell ⟨w.heap.size + 1 + 1, 0, none⟩ (x0)).setCell ⟨w.heap.size + 1 + 1, 1, none⟩ (x1)).setCell ⟨w.heap.size + 1 + 1, 2, none⟩ (x2)).cell? ⟨w.heap.size, 2, none⟩ = some (.slice cax.l cax.nl cax.cl) ∧ (((w'.setCell ⟨w.heap.size + 1 + 1, 0, none⟩ (x0)).setCell ⟨w.heap.size + 1 + 1, 1, none⟩ (x1)).setCell ⟨w.heap.size + 1 + 1, 2, none⟩ (x2)).cell? ⟨w.heap.size, 3, none⟩ = some (.bool cay.n) ∧ (((w'.setCell ⟨w.heap.size + 1 + 1, 0, none⟩ (x0)).setCell ⟨w.heap.size + 1 + 1, 1, none⟩ (x1)).setCell ⟨w.heap.size + 1 + 1, 2, none⟩ (x2)).cell? ⟨w.heap.size, 4, none⟩ = some (.slice cay.u cay.nu cay.cu) ∧ (((w'.setCell ⟨w.heap.size + 1 + 1, 0, none⟩ (x0)).setCell ⟨w.heap.size + 1 + 1, 1, none⟩ (x1)).setCell ⟨w.heap.size + 1 + 1, 2, none⟩ (x2)).cell? ⟨w.heap.size, 5, none⟩ = some (.slice cay.l cay.nl cay.cl) ∧ (((w'.setCell ⟨w.heap.size + 1 + 1, 0, none⟩ (x0)).setCell ⟨w.heap.size + 1 + 1, 1, none⟩ (x1)).setCell ⟨w.heap.size + 1 + 1, 2, none⟩ (x2)).cell? ⟨w.heap.size + 1, 0, none⟩ = some (.bool cbx.n) ∧ (((w'.setCell ⟨w.heap.size + 1 + 1, 0, none⟩ (x0)).setCell ⟨w.heap.size + 1 + 1, 1, none⟩ (x1)).setCell ⟨w.heap.size + 1 + 1, 2, none⟩ (x2)).cell? ⟨w.heap.size + 1, 1, none⟩ = some (.slice cbx.u cbx.nu cbx.cu) ∧ (((w'.setCell ⟨w.heap.size + 1 + 1, 0, none⟩ (x0)).setCell ⟨w.heap.size + 1 + 1, 1, none⟩ (x1)).setCell ⟨w.heap.size + 1 + 1, 2, none⟩ (x2)).cell? ⟨w.heap.size + 1, 2, none⟩ = some (.slice cbx.l cbx.nl cbx.cl) ∧ (((w'.setCell ⟨w.heap.size + 1 + 1, 0, none⟩ (x0)).setCell ⟨w.heap.size + 1 + 1, 1, none⟩ (x1)).setCell ⟨w.heap.size + 1 + 1, 2, none⟩ (x2)).cell? ⟨w.heap.size + 1, 3, none⟩ = some (.bool cbz.n) ∧ (((w'.setCell ⟨w.heap.size + 1 + 1, 0, none⟩ (x0)).setCell ⟨w.heap.size + 1 + 1, 1, none⟩ (x1)).setCell ⟨w.heap.size + 1 + 1, 2, none⟩ (x2)).cell? ⟨w.heap.size + 1, 4, none⟩ = some (.slice cbz.u cbz.nu cbz.cu) ∧ (((w'.setCell ⟨w.heap.size + 1 + 1, 0, none⟩ (x0)).setCell ⟨w.heap.size + 1 + 1, 1, none⟩ (x1)).setCell ⟨w.heap.size + 1 + 1, 2, none⟩ (x2)).cell? ⟨w.heap.size + 1, 5, none⟩ = some (.slice cbz.l cbz.nl cbz.cl)) := fun w' hb x0 x1 x2 => ⟨((HK0.out.below hb (by rw [HSZ.out]; omega)).off3 (g := w.heap.size + 1 + 1) (by omega) x0 x1 x2).cell 0, ((HK0.out.below hb (by rw [HSZ.out]; omega)).off3 (g := w.heap.size + 1 + 1) (by omega) x0 x1 x2).cell 1, ((HK0.out.below hb (by rw [HSZ.out]; omega)).off3 (g := w.heap.size + 1 + 1) (by omega) x0 x1 x2).cell 2, ((HK0.out.below hb (by rw [HSZ.out]; omega)).off3 (g := w.heap.size + 1 + 1) (by omega) x0 x1 x2).cell 3, ((HK0.out.below hb (by rw [HSZ.out]; omega)).off3 (g := w.heap.size + 1 + 1) (by omega) x0 x1 x2).cell 4, ((HK0.out.below hb (by rw [HSZ.out]; omega)).off3 (g := w.heap.size + 1 + 1) (by omega) x0 x1 x2).cell 5, ((HK1.out.below hb (by rw [HSZ.out]; omega)).off3 (g := w.heap.size + 1 + 1) (by omega) x0 x1 x2).cell 0, ((HK1.out.below hb (by rw [HSZ.out]; omega)).off3 (g := w.heap.size + 1 + 1) (by omega) x0 x1 x2).cell 1, ((HK1.out.below hb (by rw [HSZ.out]; omega)).off3 (g := w.heap.size + 1 + 1) (by omega) x0 x1 x2).cell 2, ((HK1.out.below hb (by rw [HSZ.out]; omega)).off3 (g := w.heap.size + 1 + 1) (by omega) x0 x1 x2).cell 3, ((HK1.out.below hb (by rw [HSZ.out]; omega)).off3 (g := w.heap.size + 1 + 1) (by omega) x0 x1 x2).cell 4, ((HK1.out.below hb (by rw [HSZ.out]; omega)).off3 (g := w.heap.size + 1 + 1) (by omega) x0 x1 x2).cell 5⟩
  obtain ⟨z0, z1, z2, z3, z4, z5, z6, z7, z8, z9, z10, z11⟩ := HS.out W0 (Below.refl _ _)
  go_region_held3 (fun w' => w'.cell? ⟨w.heap.size, 0, none⟩ = some (.bool cax.n) ∧ w'.cell? ⟨w.heap.size, 1, none⟩ = some (.slice cax.u cax.nu cax.cu) ∧ w'.cell? ⟨w.heap.size, 2, none⟩ = some (.slice cax.l cax.nl cax.cl) ∧ w'.cell? ⟨w.heap.size, 3, none⟩ = some (.bool cay.n) ∧ w'.cell? ⟨w.heap.size, 4, none⟩ = some (.slice cay.u cay.nu cay.cu) ∧ w'.cell? ⟨w.heap.size, 5, none⟩ = some (.slice cay.l cay.nl cay.cl) ∧ w'.cell? ⟨w.heap.size + 1, 0, none⟩ = some (.bool cbx.n) ∧ w'.cell? ⟨w.heap.size + 1, 1, none⟩ = some (.slice cbx.u cbx.nu cbx.cu) ∧ w'.cell? ⟨w.heap.size + 1, 2, none⟩ = some (.slice cbx.l cbx.nl cbx.cl) ∧ w'.cell? ⟨w.heap.size + 1, 3, none⟩ = some (.bool cbz.n) ∧ w'.cell? ⟨w.heap.size + 1, 4, none⟩ = some (.slice cbz.u cbz.nu cbz.cu) ∧ w'.cell? ⟨w.heap.size + 1, 5, none⟩ = some (.slice cbz.l cbz.nl cbz.cl)) (first | go_keep | exact hs1 | exact hs2 | exact hs3 | exact hkS)
    (first
      | (go_at_call_of 109 (Value.agg #[Value.bool cax.n, Value.slice cax.u cax.nu cax.cu, Value.slice cax.l cax.nl cax.cl]); refine (times_calls (w := W0.drew) (Hax.out.below (Below.drew (Below.refl _ _))) (Hbz.out.below (Below.drew (Below.refl _ _))) F1.out F4.out HL.out).mono ?_; rintro e w1 ⟨hb1, v1, rfl, hv1⟩; have hbl1 : Below W0.heap.size W0 w1 := (Below.drew (Below.refl _ W0)).trans hb1; obtain ⟨d1, rfl⟩ := qv_open hv1; have hs1 := HS.out w1 hbl1)
      | (go_at_call_of 109 (Value.agg #[Value.bool cay.n, Value.slice cay.u cay.nu cay.cu, Value.slice cay.l cay.nl cay.cl]); refine (times_calls (Hay.out.below hbl1) (Hbx.out.below hbl1) F2.out F3.out HL.out).mono ?_; rintro e w2 ⟨hb2, v2, rfl, hv2⟩; have hbl2 := hbl1.trans (hb2.mono hbl1.size); obtain ⟨d2, rfl⟩ := qv_open hv2; have hs2 := HS.out w2 hbl2)
      | (go_at_call 106; refine (minus_calls (hv1.below hb2) hv2 (F1.out.mul F4.out) (F2.out.mul F3.out) HK.out).mono ?_; rintro e w3 ⟨hb3, v3, rfl, hv3⟩; have hbl3 := hbl2.trans (hb3.mono hbl2.size); obtain ⟨d3, rfl⟩ := qv_open hv3; have hs3 := HS.out w3 hbl3; have hkr := HK2.out.below hbl3 (by rw [HSZ.out]; omega); obtain ⟨r0, r1, r2, f0, f1, f2⟩ := hkr.all3; have hkS := HSS.out w3 hbl3 (.bool d3.n) (.slice d3.u d3.nu d3.cu) (.slice d3.l d3.nl d3.cl))
      )
  all_goals
    go_wp2
    obtain ⟨k0, k1, k2, _, _, _⟩ := (hkr.put3 (.bool d3.n) (.slice d3.u d3.nu d3.cu) (.slice d3.l d3.nl d3.cl)).all3
    refine bodyPost_ret (v := .agg #[.bool d3.n, .slice d3.u d3.nu d3.cu, .slice d3.l d3.nl d3.cl]) (by simp [results, Tryz.results115, go_sem, k0, k1, k2]) rfl ⟨Below.put3 (HB0.out.trans (hbl3.mono HB0.out.size)) (by omega) (.bool d3.n) (.slice d3.u d3.nu d3.cu) (.slice d3.l d3.nl d3.cl), _, rfl, ?_⟩
    have hst := Stays.put3 hkr (by simp [notLimb]) (.bool d3.n) (.slice d3.u d3.nu d3.cu) (.slice d3.l d3.nl d3.cl) rfl rfl rfl
    exact hst.qv hv3
theorem wayCross_calls {w : World} {va vb : Value} {ax ay bx bz : Rat} {k l : Nat} (ha : WV w va ax ay) (hb : WV w vb bx bz) (f1 : QS k ax) (f2 : QS k ay) (f3 : QS l bx) (f4 : QS l bz) (hk : k + l + (k + l) + 1 ≤ 35184372088640) :
    Calls Tryz.prog 115 #[va, vb] w fun e w' => Below w.heap.size w w' ∧ ∃ v, e = .returned v ∧ QV w' v (ax * bz - ay * bx) := by
  obtain ⟨c1, c2, rfl, h1, h2⟩ := ha
  obtain ⟨c3, c4, rfl, h3, h4⟩ := hb
  exact wayCross_walk h1 h2 h3 h4 f1 f2 f3 f4 hk
end Go.Proofs.YtgajdmadbdbabaaGreatDoor
/- WE -/
namespace Go.Proofs.YtgajdmadbdbabaaGreatDoor
open Go.RowKit Cx
attribute [local go_sem ↓] Go.wp_at_zero Go.wp_at_succ
def QRow (w : World) (v : Value) (qs : List Rat) : Prop :=
  ∃ b off cap, v = .slice (some ⟨b, off, none⟩) qs.length cap ∧ b < w.heap.size ∧ ∀ (j : Nat) (hj : j < qs.length), ∃ c : C3,
    w.cell? ⟨b, off + j * 3, none⟩ = some (.bool c.n) ∧ w.cell? ⟨b, off + j * 3 + 1, none⟩ = some (.slice c.u c.nu c.cu) ∧ w.cell? ⟨b, off + j * 3 + 2, none⟩ = some (.slice c.l c.nl c.cl) ∧ QV w (.agg #[.bool c.n, .slice c.u c.nu c.cu, .slice c.l c.nl c.cl]) (qs[j]'hj)
theorem QRow.below {w w' : World} {v : Value} {qs : List Rat} (h : QRow w v qs) (hb : Below w.heap.size w w') : QRow w' v qs := by
  obtain ⟨b, off, cap, e, hlt, h⟩ := h
  refine ⟨b, off, cap, e, Nat.lt_of_lt_of_le hlt hb.size, fun j hj => ?_⟩
  obtain ⟨c, h0, h1, h2, h3⟩ := h j hj
  exact ⟨c, by rw [hb.cell (p := ⟨b, off + j * 3, none⟩) hlt]; exact h0, by rw [hb.cell (p := ⟨b, off + j * 3 + 1, none⟩) hlt]; exact h1, by rw [hb.cell (p := ⟨b, off + j * 3 + 2, none⟩) hlt]; exact h2, h3.below hb⟩
theorem qrow_idx {b off n cap k : Nat} (hk : k < n) (wx : World) : (Instr.indexAt 163 (.slice (some ⟨b, off, none⟩) n cap) (.int .i64 k)).run Tryz.prog wx = .ok (.pointer (some ⟨b, off + k * 3, none⟩)) wx := by
  have he : Tryz.prog.elem 163 = 84 := by simp [Program.elem, Tryz.underlying163]
  rw [run_indexAt_slice (h := by rw [he]; exact Tryz.underlying163), if_pos (by omega), he, Tryz.sizeOf84]
  simp [Result.andThen, Addr.add]
def rsum (qs : List Rat) : Rat := qs.foldl (fun a q => a + q) 0
theorem rsum_take {qs : List Rat} {k : Nat} (h : k < qs.length) : rsum (qs.take (k + 1)) = rsum (qs.take k) + qs[k] := by
  unfold rsum
  rw [List.take_succ_eq_append_getElem h, List.foldl_append]
  rfl
theorem QS.rsum {K : Nat} : ∀ {qs : List Rat} (_ : ∀ q ∈ qs, QS K q) (k : Nat), QS (k * (K + 1) + 1) (rsum (qs.take k))
  | qs, _, 0 => by rw [List.take_zero]; exact QS.zero.mono (by omega)
  | qs, h, k + 1 => by
    have ih := QS.rsum h k
    by_cases hk : k < qs.length
    · rw [rsum_take hk]
      refine (ih.add (h _ (List.getElem_mem hk))).mono ?_
      rw [Nat.succ_mul]; omega
    · rw [List.take_of_length_le (by omega)]
      rw [List.take_of_length_le (by omega)] at ih
      exact ih.mono (by rw [Nat.succ_mul]; omega)
theorem sum_walk {w : World} {b off cap : Nat} {qs : List Rat} (h : QRow w (.slice (some ⟨b, off, none⟩) qs.length cap) qs) {K : Nat} (f : ∀ q ∈ qs, QS K q) (hn : qs.length ≤ 1000000) (hk : qs.length * (K + 1) + 1 ≤ 35184372088640) :
    Calls Tryz.prog 161 #[.slice (some ⟨b, off, none⟩) qs.length cap] w fun e w' => Below w.heap.size w w' ∧ ∃ v, e = .returned v ∧ QV w' v (rsum qs) := by
  obtain ⟨hb0, hk0, hk1, hsz⟩ := boxes2 w #[.bool false, .slice none 0 0, .slice none 0 0] #[.bool false, .slice none 0 0, .slice none 0 0] 84 84
  have HB0 := hideIt hb0
  have HSZ := hideIt hsz
  have HK0 := hideIt hk0
  have HK1 := hideIt hk1
  have HR := hideIt h
  have F := hideIt f
  have HK := hideIt hk
  clear hb0 hsz hk0 hk1 h f hk
  go_enter Tryz.func161, Tryz.ntmps161
  go_wp2
  generalize ((w.alloc (.cells #[.bool false, .slice none 0 0, .slice none 0 0] 84)).alloc (.cells #[.bool false, .slice none 0 0, .slice none 0 0] 84)) = W0 at *
  go_loopw [8] (fun i wr => ∃ k : Nat, k ≤ qs.length ∧ i = .int .i64 (k : Int) ∧ Blk wr w.heap.size #[.bool false, .slice none 0 0, .slice none 0 0] 84 ∧ Below w.heap.size w wr ∧ ∃ c : C3, Blk wr (w.heap.size + 1) #[.bool c.n, .slice c.u c.nu c.cu, .slice c.l c.nl c.cl] 84 ∧ QV wr (.agg #[.bool c.n, .slice c.u c.nu c.cu, .slice c.l c.nl c.cl]) (rsum (qs.take k))) (fun i _ => qs.length - (intOf i).toNat)
  case atStart =>
    refine ⟨0, Nat.zero_le _, rfl, HK0.out, HB0.out, ⟨false, none, 0, 0, none, 0, 0⟩, HK1.out, ?_⟩
    rw [List.take_zero]
    exact qv_zero0 _
  case round =>
    obtain ⟨k, hkl, rfl, hk0, hbel, c, hk1, hq⟩ := hrel
    have HQ := hideIt hq
    have HK0' := hideIt hk0
    have HK1' := hideIt hk1
    have hlt1 := hideIt hk1.lt
    have hsz' := hideIt hbel.size
    obtain ⟨y0, y1, y2, g0, g1, g2⟩ := hk1.all3
    obtain ⟨x0, x1, x2, e0, e1, e2⟩ := hk0.all3
    clear hq hk0 hk1
    by_cases hend : k = qs.length
    · subst hend
      go_wp2
      obtain ⟨r0, r1, r2, _, _, _⟩ := (HK0'.out.put3 (.bool c.n) (.slice c.u c.nu c.cu) (.slice c.l c.nl c.cl)).all3
      refine bodyPost_ret (v := .agg #[.bool c.n, .slice c.u c.nu c.cu, .slice c.l c.nl c.cl]) (by simp [results, Tryz.results161, go_sem, r0, r1, r2]) rfl ⟨Below.put3 hbel (Nat.le_refl _) _ _ _, _, rfl, ?_⟩
      have hst := Stays.put3 HK0'.out (by simp [notLimb]) (.bool c.n) (.slice c.u c.nu c.cu) (.slice c.l c.nl c.cl) rfl rfl rfl
      have := hst.qv HQ.out
      rwa [List.take_length] at this
    · have hlt : k < qs.length := by omega
      have hidx := qrow_idx (b := b) (off := off) (cap := cap) hlt
      obtain ⟨b', off', cap', e, hbl, hcells⟩ := HR.out
      cases e
      obtain ⟨d, d0, d1, d2, hd⟩ := hcells k hlt
      have HD := hideIt (hd.below hbel)
      have z0 := (hbel.cell (p := ⟨b, off + k * 3, none⟩) hbl).trans d0
      have z1 := (hbel.cell (p := ⟨b, off + k * 3 + 1, none⟩) hbl).trans d1
      have z2 := (hbel.cell (p := ⟨b, off + k * 3 + 2, none⟩) hbl).trans d2
      have FS := hideIt (QS.rsum F.out k)
      have FQ := hideIt (F.out _ (List.getElem_mem hlt))
      have HKK : Hid (k * (K + 1) + 1 + K + 1 ≤ 35184372088640) := by
        have h1 := HK.out
        have h2 : (k + 1) * (K + 1) ≤ qs.length * (K + 1) := Nat.mul_le_mul_right _ hlt
        rw [Nat.succ_mul] at h2
        show _ ≤ _
        omega
      clear d0 d1 d2 hd hcells
      have a0 : ∀ o, (wr.alloc o).cell? ⟨w.heap.size + 1, 0, none⟩ = some (.bool c.n) := fun o => (HK1'.out.below (below_new wr o) hlt1.out).cell 0
      have a1 : ∀ o, (wr.alloc o).cell? ⟨w.heap.size + 1, 1, none⟩ = some (.slice c.u c.nu c.cu) := fun o => (HK1'.out.below (below_new wr o) hlt1.out).cell 1
      have a2 : ∀ o, (wr.alloc o).cell? ⟨w.heap.size + 1, 2, none⟩ = some (.slice c.l c.nl c.cl) := fun o => (HK1'.out.below (below_new wr o) hlt1.out).cell 2
      go_wp2_with fail
      have hbn := below_new wr (.cells #[.bool d.n, .slice d.u d.nu d.cu, .slice d.l d.nl d.cl] 84)
      refine (plus_calls (HQ.out.below hbn) (HD.out.below hbn) FS.out FQ.out HKK.out).mono ?_
      rintro e w2 ⟨hb2, v2, rfl, hv2⟩
      obtain ⟨d2, rfl⟩ := qv_open hv2
      have hbw := hbn.trans (hb2.mono hbn.size)
      have hk2 := HK1'.out.below hbw hlt1.out
      have hkr := HK0'.out.below hbw (by have := hlt1.out; omega)
      obtain ⟨y0, y1, y2, g0, g1, g2⟩ := hk2.all3
      have HV2 := hideIt hv2
      clear hv2 a0 a1 a2 z0 z1 z2
      go_wp2
      go_roundw
      case rel =>
        refine ⟨k + 1, hlt, by go_num, ?_, ?_, d2, hk2.put3 _ _ _, ?_⟩
        · exact hkr.off3 (by omega) _ _ _
        · exact Below.put3 (hbel.trans (hbw.mono hsz'.out)) (by omega) _ _ _
        · rw [rsum_take hlt]
          exact (Stays.put3 hk2 (by simp [notLimb]) _ _ _ rfl rfl rfl).qv HV2.out
      case measure => simp [intOf]; omega
theorem sum_calls {w : World} {v : Value} {qs : List Rat} (h : QRow w v qs) {K : Nat} (f : ∀ q ∈ qs, QS K q) (hn : qs.length ≤ 1000000) (hk : qs.length * (K + 1) + 1 ≤ 35184372088640) :
    Calls Tryz.prog 161 #[v] w fun e w' => Below w.heap.size w w' ∧ ∃ v', e = .returned v' ∧ QV w' v' (rsum qs) := by
  have h' := h
  obtain ⟨b, off, cap, rfl, _⟩ := h
  exact sum_walk h' f hn hk
end Go.Proofs.YtgajdmadbdbabaaGreatDoor
/- WF -/
namespace Go.Proofs.YtgajdmadbdbabaaGreatDoor
open Go.RowKit Cx
attribute [local go_sem ↓] Go.wp_at_zero Go.wp_at_succ
theorem qrow2 {w : World} {c0 c1 : C3} {q0 q1 : Rat} (h0 : QV w (.agg #[.bool c0.n, .slice c0.u c0.nu c0.cu, .slice c0.l c0.nl c0.cl]) q0) (h1 : QV w (.agg #[.bool c1.n, .slice c1.u c1.nu c1.cu, .slice c1.l c1.nl c1.cl]) q1) :
    QRow (w.alloc (.cells #[.bool c0.n, .slice c0.u c0.nu c0.cu, .slice c0.l c0.nl c0.cl, .bool c1.n, .slice c1.u c1.nu c1.cu, .slice c1.l c1.nl c1.cl] 84)) (.slice (some ⟨w.heap.size, 0, none⟩) 2 2) [q0, q1] := by
  have hb := below_new w (.cells #[.bool c0.n, .slice c0.u c0.nu c0.cu, .slice c0.l c0.nl c0.cl, .bool c1.n, .slice c1.u c1.nu c1.cu, .slice c1.l c1.nl c1.cl] 84)
  have hk := Blk.new w #[.bool c0.n, .slice c0.u c0.nu c0.cu, .slice c0.l c0.nl c0.cl, .bool c1.n, .slice c1.u c1.nu c1.cu, .slice c1.l c1.nl c1.cl] 84
  refine ⟨w.heap.size, 0, 2, rfl, hk.lt, fun j hj => ?_⟩
  match j, hj with
  | 0, _ => exact ⟨c0, hk.cell 0, hk.cell 1, hk.cell 2, h0.below hb⟩
  | 1, _ => exact ⟨c1, hk.cell 3, hk.cell 4, hk.cell 5, h1.below hb⟩
  | j + 2, hj => simp at hj; omega
theorem qrow3 {w : World} {c0 c1 c2 : C3} {q0 q1 q2 : Rat} (h0 : QV w (.agg #[.bool c0.n, .slice c0.u c0.nu c0.cu, .slice c0.l c0.nl c0.cl]) q0) (h1 : QV w (.agg #[.bool c1.n, .slice c1.u c1.nu c1.cu, .slice c1.l c1.nl c1.cl]) q1) (h2 : QV w (.agg #[.bool c2.n, .slice c2.u c2.nu c2.cu, .slice c2.l c2.nl c2.cl]) q2) :
    QRow (w.alloc (.cells #[.bool c0.n, .slice c0.u c0.nu c0.cu, .slice c0.l c0.nl c0.cl, .bool c1.n, .slice c1.u c1.nu c1.cu, .slice c1.l c1.nl c1.cl, .bool c2.n, .slice c2.u c2.nu c2.cu, .slice c2.l c2.nl c2.cl] 84)) (.slice (some ⟨w.heap.size, 0, none⟩) 3 3) [q0, q1, q2] := by
  have hb := below_new w (.cells #[.bool c0.n, .slice c0.u c0.nu c0.cu, .slice c0.l c0.nl c0.cl, .bool c1.n, .slice c1.u c1.nu c1.cu, .slice c1.l c1.nl c1.cl, .bool c2.n, .slice c2.u c2.nu c2.cu, .slice c2.l c2.nl c2.cl] 84)
  have hk := Blk.new w #[.bool c0.n, .slice c0.u c0.nu c0.cu, .slice c0.l c0.nl c0.cl, .bool c1.n, .slice c1.u c1.nu c1.cu, .slice c1.l c1.nl c1.cl, .bool c2.n, .slice c2.u c2.nu c2.cu, .slice c2.l c2.nl c2.cl] 84
  refine ⟨w.heap.size, 0, 3, rfl, hk.lt, fun j hj => ?_⟩
  match j, hj with
  | 0, _ => exact ⟨c0, hk.cell 0, hk.cell 1, hk.cell 2, h0.below hb⟩
  | 1, _ => exact ⟨c1, hk.cell 3, hk.cell 4, hk.cell 5, h1.below hb⟩
  | 2, _ => exact ⟨c2, hk.cell 6, hk.cell 7, hk.cell 8, h2.below hb⟩
  | j + 3, hj => simp at hj; omega
theorem rsum2 (a b : Rat) : rsum [a, b] = a + b := by simp [rsum, Rat.zero_add]
theorem rsum3 (a b c : Rat) : rsum [a, b, c] = a + b + c := by simp [rsum, Rat.zero_add]
theorem all2 {K : Nat} {a b : Rat} (h1 : QS K a) (h2 : QS K b) : ∀ q ∈ [a, b], QS K q := by
  intro q hq
  rcases List.mem_cons.1 hq with rfl | hq
  · exact h1
  · rw [List.mem_singleton.1 hq]; exact h2
theorem all3 {K : Nat} {a b c : Rat} (h1 : QS K a) (h2 : QS K b) (h3 : QS K c) : ∀ q ∈ [a, b, c], QS K q := by
  intro q hq
  rcases List.mem_cons.1 hq with rfl | hq
  · exact h1
  · exact all2 h2 h3 q hq
theorem wayDot_walk {w : World} {cax cay cbx cbz : C3} {ax ay bx bz : Rat} (hax : QV w (.agg #[.bool cax.n, .slice cax.u cax.nu cax.cu, .slice cax.l cax.nl cax.cl]) ax) (hay : QV w (.agg #[.bool cay.n, .slice cay.u cay.nu cay.cu, .slice cay.l cay.nl cay.cl]) ay) (hbx : QV w (.agg #[.bool cbx.n, .slice cbx.u cbx.nu cbx.cu, .slice cbx.l cbx.nl cbx.cl]) bx) (hbz : QV w (.agg #[.bool cbz.n, .slice cbz.u cbz.nu cbz.cu, .slice cbz.l cbz.nl cbz.cl]) bz) {k l : Nat} (f1 : QS k ax) (f2 : QS k ay) (f3 : QS l bx) (f4 : QS l bz) (hk : 2 * (k + l + 1) + 1 ≤ 35184372088640) :
    Calls Tryz.prog 123 #[.agg #[.bool cax.n, .slice cax.u cax.nu cax.cu, .slice cax.l cax.nl cax.cl, .bool cay.n, .slice cay.u cay.nu cay.cu, .slice cay.l cay.nl cay.cl], .agg #[.bool cbx.n, .slice cbx.u cbx.nu cbx.cu, .slice cbx.l cbx.nl cbx.cl, .bool cbz.n, .slice cbz.u cbz.nu cbz.cu, .slice cbz.l cbz.nl cbz.cl]] w fun e w' => Below w.heap.size w w' ∧ ∃ v, e = .returned v ∧ QV w' v (ax * bx + ay * bz) := by
  obtain ⟨hb0, hk0, hk1, hk2, hsz⟩ := boxes3 w #[.bool cax.n, .slice cax.u cax.nu cax.cu, .slice cax.l cax.nl cax.cl, .bool cay.n, .slice cay.u cay.nu cay.cu, .slice cay.l cay.nl cay.cl] #[.bool cbx.n, .slice cbx.u cbx.nu cbx.cu, .slice cbx.l cbx.nl cbx.cl, .bool cbz.n, .slice cbz.u cbz.nu cbz.cu, .slice cbz.l cbz.nl cbz.cl] #[.bool false, .slice none 0 0, .slice none 0 0] 86 86 84
  have HB0 := hideIt hb0
  have HSZ := hideIt hsz
  have HK0 := hideIt hk0
  have HK1 := hideIt hk1
  have HK2 := hideIt hk2
  have Hax := hideIt (hax.below hb0)
  have Hay := hideIt (hay.below hb0)
  have Hbx := hideIt (hbx.below hb0)
  have Hbz := hideIt (hbz.below hb0)
  have F1 := hideIt f1
  have F2 := hideIt f2
  have F3 := hideIt f3
  have F4 := hideIt f4
  have HK := hideIt hk
  clear hb0 hsz hk0 hk1 hk2 hax hay hbx hbz f1 f2 f3 f4 hk
  have HL : Hid (k + l + 1 ≤ 35184372088640) := by have := HK.out; show _ ≤ _; omega
  go_enter Tryz.func123, Tryz.ntmps123
  go_wp2_with fail
  generalize (((w.alloc (.cells #[.bool cax.n, .slice cax.u cax.nu cax.cu, .slice cax.l cax.nl cax.cl, .bool cay.n, .slice cay.u cay.nu cay.cu, .slice cay.l cay.nl cay.cl] 86)).alloc (.cells #[.bool cbx.n, .slice cbx.u cbx.nu cbx.cu, .slice cbx.l cbx.nl cbx.cl, .bool cbz.n, .slice cbz.u cbz.nu cbz.cu, .slice cbz.l cbz.nl cbz.cl] 86)).alloc (.cells #[.bool false, .slice none 0 0, .slice none 0 0] 84)) = W0 at *
  have HS : Hid (∀ w', Below W0.heap.size W0 w' → w'.cell? ⟨w.heap.size, 0, none⟩ = some (.bool cax.n) ∧ w'.cell? ⟨w.heap.size, 1, none⟩ = some (.slice cax.u cax.nu cax.cu) ∧ w'.cell? ⟨w.heap.size, 2, none⟩ = some (.slice cax.l cax.nl cax.cl) ∧ w'.cell? ⟨w.heap.size, 3, none⟩ = some (.bool cay.n) ∧ w'.cell? ⟨w.heap.size, 4, none⟩ = some (.slice cay.u cay.nu cay.cu) ∧ w'.cell? ⟨w.heap.size, 5, none⟩ = some (.slice cay.l cay.nl cay.cl) ∧ w'.cell? ⟨w.heap.size + 1, 0, none⟩ = some (.bool cbx.n) ∧ w'.cell? ⟨w.heap.size + 1, 1, none⟩ = some (.slice cbx.u cbx.nu cbx.cu) ∧ w'.cell? ⟨w.heap.size + 1, 2, none⟩ = some (.slice cbx.l cbx.nl cbx.cl) ∧ w'.cell? ⟨w.heap.size + 1, 3, none⟩ = some (.bool cbz.n) ∧ w'.cell? ⟨w.heap.size + 1, 4, none⟩ = some (.slice cbz.u cbz.nu cbz.cu) ∧ w'.cell? ⟨w.heap.size + 1, 5, none⟩ = some (.slice cbz.l cbz.nl cbz.cl)) := fun w' hb => ⟨(HK0.out.below hb (by rw [HSZ.out]; omega)).cell 0, (HK0.out.below hb (by rw [HSZ.out]; omega)).cell 1, (HK0.out.below hb (by rw [HSZ.out]; omega)).cell 2, (HK0.out.below hb (by rw [HSZ.out]; omega)).cell 3, (HK0.out.below hb (by rw [HSZ.out]; omega)).cell 4, (HK0.out.below hb (by rw [HSZ.out]; omega)).cell 5, (HK1.out.below hb (by rw [HSZ.out]; omega)).cell 0, (HK1.out.below hb (by rw [HSZ.out]; omega)).cell 1, (HK1.out.below hb (by rw [HSZ.out]; omega)).cell 2, (HK1.out.below hb (by rw [HSZ.out]; omega)).cell 3, (HK1.out.below hb (by rw [HSZ.out]; omega)).cell 4, (HK1.out.below hb (by rw [HSZ.out]; omega)).cell 5⟩
  have HSS : Hid (∀ w', Below W0.heap.size W0 w' → ∀ x0 x1 x2 : Value, (((w'.setCell ⟨w.heap.size + 1 + 1, 0, none⟩ (x0)).setCell ⟨w.heap.size + 1 + 1, 1, none⟩ (x1)).setCell ⟨w.heap.size + 1 + 1, 2, none⟩ (x2)).cell? ⟨w.heap.size, 0, none⟩ = some (.bool cax.n) ∧ (((w'.setCell ⟨w.heap.size + 1 + 1, 0, none⟩ (x0)).setCell ⟨w.heap.size + 1 + 1, 1, none⟩ (x1)).setCell ⟨w.heap.size + 1 + 1, 2, none⟩ (x2)).cell? ⟨w.heap.size, 1, none⟩ = some (.slice cax.u cax.nu cax.cu) ∧ (((w'.setCell ⟨w.heap.size + 1 + 1, 0, none⟩ (x0)).setCell ⟨w.heap.size + 1 + 1, 1, none⟩ (x1)).setCell ⟨w.heap.size + 1 + 1, 2, none⟩ (x2)).cell? ⟨w.heap.size, 2, none⟩ = some (.slice cax.l cax.nl cax.cl) ∧ (((w'.setCell ⟨w.heap.size + 1 + 1, 0, none⟩ (x0)).setCell ⟨w.heap.size + 1 + 1, 1, none⟩ (x1)).setCell ⟨w.heap.size + 1 + 1, 2, none⟩ (x2)).cell? ⟨w.heap.size, 3, none⟩ = some (.bool cay.n) ∧ (((w'.setCell ⟨w.heap.size + 1 + 1, 0, none⟩ (x0)).setCell ⟨w.heap.size + 1 + 1, 1, none⟩ (x1)).setCell ⟨w.heap.size + 1 + 1, 2, none⟩ (x2)).cell? ⟨w.heap.size, 4, none⟩ = some (.slice cay.u cay.nu cay.cu) ∧ (((w'.setCell ⟨w.heap.size + 1 + 1, 0, none⟩ (x0)).setCell ⟨w.heap.size + 1 + 1, 1, none⟩ (x1)).setCell ⟨w.heap.size + 1 + 1, 2, none⟩ (x2)).cell? ⟨w.heap.size, 5, none⟩ = some (.slice cay.l cay.nl cay.cl) ∧ (((w'.setCell ⟨w.heap.size + 1 + 1, 0, none⟩ (x0)).setCell ⟨w.heap.size + 1 + 1, 1, none⟩ (x1)).setCell ⟨w.heap.size + 1 + 1, 2, none⟩ (x2)).cell? ⟨w.heap.size + 1, 0, none⟩ = some (.bool cbx.n) ∧ (((w'.setCell ⟨w.heap.size + 1 + 1, 0, none⟩ (x0)).setCell ⟨w.heap.size + 1 + 1, 1, none⟩ (x1)).setCell ⟨w.heap.size + 1 + 1, 2, none⟩ (x2)).cell? ⟨w.heap.size + 1, 1, none⟩ = some (.slice cbx.u cbx.nu cbx.cu) ∧ (((w'.setCell ⟨w.heap.size + 1 + 1, 0, none⟩ (x0)).setCell ⟨w.heap.size + 1 + 1, 1, none⟩ (x1)).setCell ⟨w.heap.size + 1 + 1, 2, none⟩ (x2)).cell? ⟨w.heap.size + 1, 2, none⟩ = some (.slice cbx.l cbx.nl cbx.cl) ∧ (((w'.setCell ⟨w.heap.size + 1 + 1, 0, none⟩ (x0)).setCell ⟨w.heap.size + 1 + 1, 1, none⟩ (x1)).setCell ⟨w.heap.size + 1 + 1, 2, none⟩ (x2)).cell? ⟨w.heap.size + 1, 3, none⟩ = some (.bool cbz.n) ∧ (((w'.setCell ⟨w.heap.size + 1 + 1, 0, none⟩ (x0)).setCell ⟨w.heap.size + 1 + 1, 1, none⟩ (x1)).setCell ⟨w.heap.size + 1 + 1, 2, none⟩ (x2)).cell? ⟨w.heap.size + 1, 4, none⟩ = some (.slice cbz.u cbz.nu cbz.cu) ∧ (((w'.setCell ⟨w.heap.size + 1 + 1, 0, none⟩ (x0)).setCell ⟨w.heap.size + 1 + 1, 1, none⟩ (x1)).setCell ⟨w.heap.size + 1 + 1, 2, none⟩ (x2)).cell? ⟨w.heap.size + 1, 5, none⟩ = some (.slice cbz.l cbz.nl cbz.cl)) := fun w' hb x0 x1 x2 => ⟨((HK0.out.below hb (by rw [HSZ.out]; omega)).off3 (g := w.heap.size + 1 + 1) (by omega) x0 x1 x2).cell 0, ((HK0.out.below hb (by rw [HSZ.out]; omega)).off3 (g := w.heap.size + 1 + 1) (by omega) x0 x1 x2).cell 1, ((HK0.out.below hb (by rw [HSZ.out]; omega)).off3 (g := w.heap.size + 1 + 1) (by omega) x0 x1 x2).cell 2, ((HK0.out.below hb (by rw [HSZ.out]; omega)).off3 (g := w.heap.size + 1 + 1) (by omega) x0 x1 x2).cell 3, ((HK0.out.below hb (by rw [HSZ.out]; omega)).off3 (g := w.heap.size + 1 + 1) (by omega) x0 x1 x2).cell 4, ((HK0.out.below hb (by rw [HSZ.out]; omega)).off3 (g := w.heap.size + 1 + 1) (by omega) x0 x1 x2).cell 5, ((HK1.out.below hb (by rw [HSZ.out]; omega)).off3 (g := w.heap.size + 1 + 1) (by omega) x0 x1 x2).cell 0, ((HK1.out.below hb (by rw [HSZ.out]; omega)).off3 (g := w.heap.size + 1 + 1) (by omega) x0 x1 x2).cell 1, ((HK1.out.below hb (by rw [HSZ.out]; omega)).off3 (g := w.heap.size + 1 + 1) (by omega) x0 x1 x2).cell 2, ((HK1.out.below hb (by rw [HSZ.out]; omega)).off3 (g := w.heap.size + 1 + 1) (by omega) x0 x1 x2).cell 3, ((HK1.out.below hb (by rw [HSZ.out]; omega)).off3 (g := w.heap.size + 1 + 1) (by omega) x0 x1 x2).cell 4, ((HK1.out.below hb (by rw [HSZ.out]; omega)).off3 (g := w.heap.size + 1 + 1) (by omega) x0 x1 x2).cell 5⟩
  obtain ⟨z0, z1, z2, z3, z4, z5, z6, z7, z8, z9, z10, z11⟩ := HS.out W0 (Below.refl _ _)
  go_region_held3 (fun w' => w'.cell? ⟨w.heap.size, 0, none⟩ = some (.bool cax.n) ∧ w'.cell? ⟨w.heap.size, 1, none⟩ = some (.slice cax.u cax.nu cax.cu) ∧ w'.cell? ⟨w.heap.size, 2, none⟩ = some (.slice cax.l cax.nl cax.cl) ∧ w'.cell? ⟨w.heap.size, 3, none⟩ = some (.bool cay.n) ∧ w'.cell? ⟨w.heap.size, 4, none⟩ = some (.slice cay.u cay.nu cay.cu) ∧ w'.cell? ⟨w.heap.size, 5, none⟩ = some (.slice cay.l cay.nl cay.cl) ∧ w'.cell? ⟨w.heap.size + 1, 0, none⟩ = some (.bool cbx.n) ∧ w'.cell? ⟨w.heap.size + 1, 1, none⟩ = some (.slice cbx.u cbx.nu cbx.cu) ∧ w'.cell? ⟨w.heap.size + 1, 2, none⟩ = some (.slice cbx.l cbx.nl cbx.cl) ∧ w'.cell? ⟨w.heap.size + 1, 3, none⟩ = some (.bool cbz.n) ∧ w'.cell? ⟨w.heap.size + 1, 4, none⟩ = some (.slice cbz.u cbz.nu cbz.cu) ∧ w'.cell? ⟨w.heap.size + 1, 5, none⟩ = some (.slice cbz.l cbz.nl cbz.cl)) (first | go_keep | exact hs1 | exact hs2 | exact hsA2 | exact hs3 | exact hkS)
    (first
      | (go_at_call_of 109 (Value.agg #[Value.bool cax.n, Value.slice cax.u cax.nu cax.cu, Value.slice cax.l cax.nl cax.cl]); refine (times_calls (w := W0.drew) (Hax.out.below (Below.drew (Below.refl _ _))) (Hbx.out.below (Below.drew (Below.refl _ _))) F1.out F3.out HL.out).mono ?_; rintro e w1 ⟨hb1, v1, rfl, hv1⟩; have hbl1 : Below W0.heap.size W0 w1 := (Below.drew (Below.refl _ W0)).trans hb1; obtain ⟨d1, rfl⟩ := qv_open hv1; have hs1 := HS.out w1 hbl1)
      | (go_at_call_of 109 (Value.agg #[Value.bool cay.n, Value.slice cay.u cay.nu cay.cu, Value.slice cay.l cay.nl cay.cl]); refine (times_calls (Hay.out.below hbl1) (Hbz.out.below hbl1) F2.out F4.out HL.out).mono ?_; rintro e w2 ⟨hb2, v2, rfl, hv2⟩; have hbl2 := hbl1.trans (hb2.mono hbl1.size); obtain ⟨d2, rfl⟩ := qv_open hv2; have hs2 := HS.out w2 hbl2; have hbA2 := below_new w2 (.cells #[.bool d1.n, .slice d1.u d1.nu d1.cu, .slice d1.l d1.nl d1.cl, .bool d2.n, .slice d2.u d2.nu d2.cu, .slice d2.l d2.nl d2.cl] 84); have hblA2 := hbl2.trans (hbA2.mono hbl2.size); have hsA2 := HS.out _ hblA2)
      | (go_at_call 161; refine (sum_calls (qrow2 (hv1.below hb2) hv2) (all2 (F1.out.mul F3.out) (F2.out.mul F4.out)) (by simp) HK.out).mono ?_; rintro e w3 ⟨hb3, v3, rfl, hv3⟩; have hbl3 := hblA2.trans (hb3.mono hblA2.size); obtain ⟨d3, rfl⟩ := qv_open hv3; have hs3 := HS.out w3 hbl3; have hkr := HK2.out.below hbl3 (by rw [HSZ.out]; omega); obtain ⟨r0, r1, r2, f0, f1, f2⟩ := hkr.all3; have hkS := HSS.out w3 hbl3 (.bool d3.n) (.slice d3.u d3.nu d3.cu) (.slice d3.l d3.nl d3.cl))
      )
  all_goals
    go_wp2
    obtain ⟨k0, k1, k2, _, _, _⟩ := (hkr.put3 (.bool d3.n) (.slice d3.u d3.nu d3.cu) (.slice d3.l d3.nl d3.cl)).all3
    refine bodyPost_ret (v := .agg #[.bool d3.n, .slice d3.u d3.nu d3.cu, .slice d3.l d3.nl d3.cl]) (by simp [results, Tryz.results123, go_sem, k0, k1, k2]) rfl ⟨Below.put3 (HB0.out.trans (hbl3.mono HB0.out.size)) (by omega) (.bool d3.n) (.slice d3.u d3.nu d3.cu) (.slice d3.l d3.nl d3.cl), _, rfl, ?_⟩
    have hst := Stays.put3 hkr (by simp [notLimb]) (.bool d3.n) (.slice d3.u d3.nu d3.cu) (.slice d3.l d3.nl d3.cl) rfl rfl rfl
    rw [rsum2] at hv3; exact hst.qv hv3
theorem wayDot_calls {w : World} {va vb : Value} {ax ay bx bz : Rat} {k l : Nat} (ha : WV w va ax ay) (hb : WV w vb bx bz) (f1 : QS k ax) (f2 : QS k ay) (f3 : QS l bx) (f4 : QS l bz) (hk : 2 * (k + l + 1) + 1 ≤ 35184372088640) :
    Calls Tryz.prog 123 #[va, vb] w fun e w' => Below w.heap.size w w' ∧ ∃ v, e = .returned v ∧ QV w' v (ax * bx + ay * bz) := by
  obtain ⟨c1, c2, rfl, h1, h2⟩ := ha
  obtain ⟨c3, c4, rfl, h3, h4⟩ := hb
  exact wayDot_walk h1 h2 h3 h4 f1 f2 f3 f4 hk
theorem lineValue_walk {w : World} {cax cay caz cbx cbz : C3} {ax ay az bx bz : Rat} (hax : QV w (.agg #[.bool cax.n, .slice cax.u cax.nu cax.cu, .slice cax.l cax.nl cax.cl]) ax) (hay : QV w (.agg #[.bool cay.n, .slice cay.u cay.nu cay.cu, .slice cay.l cay.nl cay.cl]) ay) (haz : QV w (.agg #[.bool caz.n, .slice caz.u caz.nu caz.cu, .slice caz.l caz.nl caz.cl]) az) (hbx : QV w (.agg #[.bool cbx.n, .slice cbx.u cbx.nu cbx.cu, .slice cbx.l cbx.nl cbx.cl]) bx) (hbz : QV w (.agg #[.bool cbz.n, .slice cbz.u cbz.nu cbz.cu, .slice cbz.l cbz.nl cbz.cl]) bz) {k l : Nat} (f1 : QS k ax) (f2 : QS k ay) (f5 : QS k az) (f3 : QS l bx) (f4 : QS l bz) (hk : 3 * (k + l + 1) + 1 ≤ 35184372088640) :
    Calls Tryz.prog 121 #[.agg #[.bool cax.n, .slice cax.u cax.nu cax.cu, .slice cax.l cax.nl cax.cl, .bool cay.n, .slice cay.u cay.nu cay.cu, .slice cay.l cay.nl cay.cl, .bool caz.n, .slice caz.u caz.nu caz.cu, .slice caz.l caz.nl caz.cl], .agg #[.bool cbx.n, .slice cbx.u cbx.nu cbx.cu, .slice cbx.l cbx.nl cbx.cl, .bool cbz.n, .slice cbz.u cbz.nu cbz.cu, .slice cbz.l cbz.nl cbz.cl]] w fun e w' => Below w.heap.size w w' ∧ ∃ v, e = .returned v ∧ QV w' v (ax * bx + ay * bz + az) := by
  obtain ⟨hb0, hk0, hk1, hk2, hsz⟩ := boxes3 w #[.bool cax.n, .slice cax.u cax.nu cax.cu, .slice cax.l cax.nl cax.cl, .bool cay.n, .slice cay.u cay.nu cay.cu, .slice cay.l cay.nl cay.cl, .bool caz.n, .slice caz.u caz.nu caz.cu, .slice caz.l caz.nl caz.cl] #[.bool cbx.n, .slice cbx.u cbx.nu cbx.cu, .slice cbx.l cbx.nl cbx.cl, .bool cbz.n, .slice cbz.u cbz.nu cbz.cu, .slice cbz.l cbz.nl cbz.cl] #[.bool false, .slice none 0 0, .slice none 0 0] 97 86 84
  have HB0 := hideIt hb0
  have HSZ := hideIt hsz
  have HK0 := hideIt hk0
  have HK1 := hideIt hk1
  have HK2 := hideIt hk2
  have Hax := hideIt (hax.below hb0)
  have Hay := hideIt (hay.below hb0)
  have Haz := hideIt (haz.below hb0)
  have Hbx := hideIt (hbx.below hb0)
  have Hbz := hideIt (hbz.below hb0)
  have F1 := hideIt f1
  have F2 := hideIt f2
  have F3 := hideIt f3
  have F4 := hideIt f4
  have F5 := hideIt f5
  have HK := hideIt hk
  clear hb0 hsz hk0 hk1 hk2 hax hay haz hbx hbz f1 f2 f3 f4 f5 hk
  have HL : Hid (k + l + 1 ≤ 35184372088640) := by have := HK.out; show _ ≤ _; omega
  go_enter Tryz.func121, Tryz.ntmps121
  go_wp2_with fail
  generalize (((w.alloc (.cells #[.bool cax.n, .slice cax.u cax.nu cax.cu, .slice cax.l cax.nl cax.cl, .bool cay.n, .slice cay.u cay.nu cay.cu, .slice cay.l cay.nl cay.cl, .bool caz.n, .slice caz.u caz.nu caz.cu, .slice caz.l caz.nl caz.cl] 97)).alloc (.cells #[.bool cbx.n, .slice cbx.u cbx.nu cbx.cu, .slice cbx.l cbx.nl cbx.cl, .bool cbz.n, .slice cbz.u cbz.nu cbz.cu, .slice cbz.l cbz.nl cbz.cl] 86)).alloc (.cells #[.bool false, .slice none 0 0, .slice none 0 0] 84)) = W0 at *
  have HS : Hid (∀ w', Below W0.heap.size W0 w' → w'.cell? ⟨w.heap.size, 0, none⟩ = some (.bool cax.n) ∧ w'.cell? ⟨w.heap.size, 1, none⟩ = some (.slice cax.u cax.nu cax.cu) ∧ w'.cell? ⟨w.heap.size, 2, none⟩ = some (.slice cax.l cax.nl cax.cl) ∧ w'.cell? ⟨w.heap.size, 3, none⟩ = some (.bool cay.n) ∧ w'.cell? ⟨w.heap.size, 4, none⟩ = some (.slice cay.u cay.nu cay.cu) ∧ w'.cell? ⟨w.heap.size, 5, none⟩ = some (.slice cay.l cay.nl cay.cl) ∧ w'.cell? ⟨w.heap.size, 6, none⟩ = some (.bool caz.n) ∧ w'.cell? ⟨w.heap.size, 7, none⟩ = some (.slice caz.u caz.nu caz.cu) ∧ w'.cell? ⟨w.heap.size, 8, none⟩ = some (.slice caz.l caz.nl caz.cl) ∧ w'.cell? ⟨w.heap.size + 1, 0, none⟩ = some (.bool cbx.n) ∧ w'.cell? ⟨w.heap.size + 1, 1, none⟩ = some (.slice cbx.u cbx.nu cbx.cu) ∧ w'.cell? ⟨w.heap.size + 1, 2, none⟩ = some (.slice cbx.l cbx.nl cbx.cl) ∧ w'.cell? ⟨w.heap.size + 1, 3, none⟩ = some (.bool cbz.n) ∧ w'.cell? ⟨w.heap.size + 1, 4, none⟩ = some (.slice cbz.u cbz.nu cbz.cu) ∧ w'.cell? ⟨w.heap.size + 1, 5, none⟩ = some (.slice cbz.l cbz.nl cbz.cl)) := fun w' hb => ⟨(HK0.out.below hb (by rw [HSZ.out]; omega)).cell 0, (HK0.out.below hb (by rw [HSZ.out]; omega)).cell 1, (HK0.out.below hb (by rw [HSZ.out]; omega)).cell 2, (HK0.out.below hb (by rw [HSZ.out]; omega)).cell 3, (HK0.out.below hb (by rw [HSZ.out]; omega)).cell 4, (HK0.out.below hb (by rw [HSZ.out]; omega)).cell 5, (HK0.out.below hb (by rw [HSZ.out]; omega)).cell 6, (HK0.out.below hb (by rw [HSZ.out]; omega)).cell 7, (HK0.out.below hb (by rw [HSZ.out]; omega)).cell 8, (HK1.out.below hb (by rw [HSZ.out]; omega)).cell 0, (HK1.out.below hb (by rw [HSZ.out]; omega)).cell 1, (HK1.out.below hb (by rw [HSZ.out]; omega)).cell 2, (HK1.out.below hb (by rw [HSZ.out]; omega)).cell 3, (HK1.out.below hb (by rw [HSZ.out]; omega)).cell 4, (HK1.out.below hb (by rw [HSZ.out]; omega)).cell 5⟩
  have HSS : Hid (∀ w', Below W0.heap.size W0 w' → ∀ x0 x1 x2 : Value, (((w'.setCell ⟨w.heap.size + 1 + 1, 0, none⟩ (x0)).setCell ⟨w.heap.size + 1 + 1, 1, none⟩ (x1)).setCell ⟨w.heap.size + 1 + 1, 2, none⟩ (x2)).cell? ⟨w.heap.size, 0, none⟩ = some (.bool cax.n) ∧ (((w'.setCell ⟨w.heap.size + 1 + 1, 0, none⟩ (x0)).setCell ⟨w.heap.size + 1 + 1, 1, none⟩ (x1)).setCell ⟨w.heap.size + 1 + 1, 2, none⟩ (x2)).cell? ⟨w.heap.size, 1, none⟩ = some (.slice cax.u cax.nu cax.cu) ∧ (((w'.setCell ⟨w.heap.size + 1 + 1, 0, none⟩ (x0)).setCell ⟨w.heap.size + 1 + 1, 1, none⟩ (x1)).setCell ⟨w.heap.size + 1 + 1, 2, none⟩ (x2)).cell? ⟨w.heap.size, 2, none⟩ = some (.slice cax.l cax.nl cax.cl) ∧ (((w'.setCell ⟨w.heap.size + 1 + 1, 0, none⟩ (x0)).setCell ⟨w.heap.size + 1 + 1, 1, none⟩ (x1)).setCell ⟨w.heap.size + 1 + 1, 2, none⟩ (x2)).cell? ⟨w.heap.size, 3, none⟩ = some (.bool cay.n) ∧ (((w'.setCell ⟨w.heap.size + 1 + 1, 0, none⟩ (x0)).setCell ⟨w.heap.size + 1 + 1, 1, none⟩ (x1)).setCell ⟨w.heap.size + 1 + 1, 2, none⟩ (x2)).cell? ⟨w.heap.size, 4, none⟩ = some (.slice cay.u cay.nu cay.cu) ∧ (((w'.setCell ⟨w.heap.size + 1 + 1, 0, none⟩ (x0)).setCell ⟨w.heap.size + 1 + 1, 1, none⟩ (x1)).setCell ⟨w.heap.size + 1 + 1, 2, none⟩ (x2)).cell? ⟨w.heap.size, 5, none⟩ = some (.slice cay.l cay.nl cay.cl) ∧ (((w'.setCell ⟨w.heap.size + 1 + 1, 0, none⟩ (x0)).setCell ⟨w.heap.size + 1 + 1, 1, none⟩ (x1)).setCell ⟨w.heap.size + 1 + 1, 2, none⟩ (x2)).cell? ⟨w.heap.size, 6, none⟩ = some (.bool caz.n) ∧ (((w'.setCell ⟨w.heap.size + 1 + 1, 0, none⟩ (x0)).setCell ⟨w.heap.size + 1 + 1, 1, none⟩ (x1)).setCell ⟨w.heap.size + 1 + 1, 2, none⟩ (x2)).cell? ⟨w.heap.size, 7, none⟩ = some (.slice caz.u caz.nu caz.cu) ∧ (((w'.setCell ⟨w.heap.size + 1 + 1, 0, none⟩ (x0)).setCell ⟨w.heap.size + 1 + 1, 1, none⟩ (x1)).setCell ⟨w.heap.size + 1 + 1, 2, none⟩ (x2)).cell? ⟨w.heap.size, 8, none⟩ = some (.slice caz.l caz.nl caz.cl) ∧ (((w'.setCell ⟨w.heap.size + 1 + 1, 0, none⟩ (x0)).setCell ⟨w.heap.size + 1 + 1, 1, none⟩ (x1)).setCell ⟨w.heap.size + 1 + 1, 2, none⟩ (x2)).cell? ⟨w.heap.size + 1, 0, none⟩ = some (.bool cbx.n) ∧ (((w'.setCell ⟨w.heap.size + 1 + 1, 0, none⟩ (x0)).setCell ⟨w.heap.size + 1 + 1, 1, none⟩ (x1)).setCell ⟨w.heap.size + 1 + 1, 2, none⟩ (x2)).cell? ⟨w.heap.size + 1, 1, none⟩ = some (.slice cbx.u cbx.nu cbx.cu) ∧ (((w'.setCell ⟨w.heap.size + 1 + 1, 0, none⟩ (x0)).setCell ⟨w.heap.size + 1 + 1, 1, none⟩ (x1)).setCell ⟨w.heap.size + 1 + 1, 2, none⟩ (x2)).cell? ⟨w.heap.size + 1, 2, none⟩ = some (.slice cbx.l cbx.nl cbx.cl) ∧ (((w'.setCell ⟨w.heap.size + 1 + 1, 0, none⟩ (x0)).setCell ⟨w.heap.size + 1 + 1, 1, none⟩ (x1)).setCell ⟨w.heap.size + 1 + 1, 2, none⟩ (x2)).cell? ⟨w.heap.size + 1, 3, none⟩ = some (.bool cbz.n) ∧ (((w'.setCell ⟨w.heap.size + 1 + 1, 0, none⟩ (x0)).setCell ⟨w.heap.size + 1 + 1, 1, none⟩ (x1)).setCell ⟨w.heap.size + 1 + 1, 2, none⟩ (x2)).cell? ⟨w.heap.size + 1, 4, none⟩ = some (.slice cbz.u cbz.nu cbz.cu) ∧ (((w'.setCell ⟨w.heap.size + 1 + 1, 0, none⟩ (x0)).setCell ⟨w.heap.size + 1 + 1, 1, none⟩ (x1)).setCell ⟨w.heap.size + 1 + 1, 2, none⟩ (x2)).cell? ⟨w.heap.size + 1, 5, none⟩ = some (.slice cbz.l cbz.nl cbz.cl)) := fun w' hb x0 x1 x2 => ⟨((HK0.out.below hb (by rw [HSZ.out]; omega)).off3 (g := w.heap.size + 1 + 1) (by omega) x0 x1 x2).cell 0, ((HK0.out.below hb (by rw [HSZ.out]; omega)).off3 (g := w.heap.size + 1 + 1) (by omega) x0 x1 x2).cell 1, ((HK0.out.below hb (by rw [HSZ.out]; omega)).off3 (g := w.heap.size + 1 + 1) (by omega) x0 x1 x2).cell 2, ((HK0.out.below hb (by rw [HSZ.out]; omega)).off3 (g := w.heap.size + 1 + 1) (by omega) x0 x1 x2).cell 3, ((HK0.out.below hb (by rw [HSZ.out]; omega)).off3 (g := w.heap.size + 1 + 1) (by omega) x0 x1 x2).cell 4, ((HK0.out.below hb (by rw [HSZ.out]; omega)).off3 (g := w.heap.size + 1 + 1) (by omega) x0 x1 x2).cell 5, ((HK0.out.below hb (by rw [HSZ.out]; omega)).off3 (g := w.heap.size + 1 + 1) (by omega) x0 x1 x2).cell 6, ((HK0.out.below hb (by rw [HSZ.out]; omega)).off3 (g := w.heap.size + 1 + 1) (by omega) x0 x1 x2).cell 7, ((HK0.out.below hb (by rw [HSZ.out]; omega)).off3 (g := w.heap.size + 1 + 1) (by omega) x0 x1 x2).cell 8, ((HK1.out.below hb (by rw [HSZ.out]; omega)).off3 (g := w.heap.size + 1 + 1) (by omega) x0 x1 x2).cell 0, ((HK1.out.below hb (by rw [HSZ.out]; omega)).off3 (g := w.heap.size + 1 + 1) (by omega) x0 x1 x2).cell 1, ((HK1.out.below hb (by rw [HSZ.out]; omega)).off3 (g := w.heap.size + 1 + 1) (by omega) x0 x1 x2).cell 2, ((HK1.out.below hb (by rw [HSZ.out]; omega)).off3 (g := w.heap.size + 1 + 1) (by omega) x0 x1 x2).cell 3, ((HK1.out.below hb (by rw [HSZ.out]; omega)).off3 (g := w.heap.size + 1 + 1) (by omega) x0 x1 x2).cell 4, ((HK1.out.below hb (by rw [HSZ.out]; omega)).off3 (g := w.heap.size + 1 + 1) (by omega) x0 x1 x2).cell 5⟩
  obtain ⟨z0, z1, z2, z3, z4, z5, z6, z7, z8, z9, z10, z11, z12, z13, z14⟩ := HS.out W0 (Below.refl _ _)
  go_region_held3 (fun w' => w'.cell? ⟨w.heap.size, 0, none⟩ = some (.bool cax.n) ∧ w'.cell? ⟨w.heap.size, 1, none⟩ = some (.slice cax.u cax.nu cax.cu) ∧ w'.cell? ⟨w.heap.size, 2, none⟩ = some (.slice cax.l cax.nl cax.cl) ∧ w'.cell? ⟨w.heap.size, 3, none⟩ = some (.bool cay.n) ∧ w'.cell? ⟨w.heap.size, 4, none⟩ = some (.slice cay.u cay.nu cay.cu) ∧ w'.cell? ⟨w.heap.size, 5, none⟩ = some (.slice cay.l cay.nl cay.cl) ∧ w'.cell? ⟨w.heap.size, 6, none⟩ = some (.bool caz.n) ∧ w'.cell? ⟨w.heap.size, 7, none⟩ = some (.slice caz.u caz.nu caz.cu) ∧ w'.cell? ⟨w.heap.size, 8, none⟩ = some (.slice caz.l caz.nl caz.cl) ∧ w'.cell? ⟨w.heap.size + 1, 0, none⟩ = some (.bool cbx.n) ∧ w'.cell? ⟨w.heap.size + 1, 1, none⟩ = some (.slice cbx.u cbx.nu cbx.cu) ∧ w'.cell? ⟨w.heap.size + 1, 2, none⟩ = some (.slice cbx.l cbx.nl cbx.cl) ∧ w'.cell? ⟨w.heap.size + 1, 3, none⟩ = some (.bool cbz.n) ∧ w'.cell? ⟨w.heap.size + 1, 4, none⟩ = some (.slice cbz.u cbz.nu cbz.cu) ∧ w'.cell? ⟨w.heap.size + 1, 5, none⟩ = some (.slice cbz.l cbz.nl cbz.cl)) (first | go_keep | exact hs1 | exact hs2 | exact hsA2 | exact hs3 | exact hkS)
    (first
      | (go_at_call_of 109 (Value.agg #[Value.bool cax.n, Value.slice cax.u cax.nu cax.cu, Value.slice cax.l cax.nl cax.cl]); refine (times_calls (w := W0.drew) (Hax.out.below (Below.drew (Below.refl _ _))) (Hbx.out.below (Below.drew (Below.refl _ _))) F1.out F3.out HL.out).mono ?_; rintro e w1 ⟨hb1, v1, rfl, hv1⟩; have hbl1 : Below W0.heap.size W0 w1 := (Below.drew (Below.refl _ W0)).trans hb1; obtain ⟨d1, rfl⟩ := qv_open hv1; have hs1 := HS.out w1 hbl1)
      | (go_at_call_of 109 (Value.agg #[Value.bool cay.n, Value.slice cay.u cay.nu cay.cu, Value.slice cay.l cay.nl cay.cl]); refine (times_calls (Hay.out.below hbl1) (Hbz.out.below hbl1) F2.out F4.out HL.out).mono ?_; rintro e w2 ⟨hb2, v2, rfl, hv2⟩; have hbl2 := hbl1.trans (hb2.mono hbl1.size); obtain ⟨d2, rfl⟩ := qv_open hv2; have hs2 := HS.out w2 hbl2; have hbA2 := below_new w2 (.cells #[.bool d1.n, .slice d1.u d1.nu d1.cu, .slice d1.l d1.nl d1.cl, .bool d2.n, .slice d2.u d2.nu d2.cu, .slice d2.l d2.nl d2.cl, .bool caz.n, .slice caz.u caz.nu caz.cu, .slice caz.l caz.nl caz.cl] 84); have hblA2 := hbl2.trans (hbA2.mono hbl2.size); have hsA2 := HS.out _ hblA2)
      | (go_at_call 161; refine (sum_calls (qrow3 (hv1.below hb2) hv2 (Haz.out.below hbl2)) (all3 (F1.out.mul F3.out) (F2.out.mul F4.out) (F5.out.mono (Nat.le_add_right _ _))) (by simp) HK.out).mono ?_; rintro e w3 ⟨hb3, v3, rfl, hv3⟩; have hbl3 := hblA2.trans (hb3.mono hblA2.size); obtain ⟨d3, rfl⟩ := qv_open hv3; have hs3 := HS.out w3 hbl3; have hkr := HK2.out.below hbl3 (by rw [HSZ.out]; omega); obtain ⟨r0, r1, r2, f0, f1, f2⟩ := hkr.all3; have hkS := HSS.out w3 hbl3 (.bool d3.n) (.slice d3.u d3.nu d3.cu) (.slice d3.l d3.nl d3.cl))
      )
  all_goals
    go_wp2
    obtain ⟨k0, k1, k2, _, _, _⟩ := (hkr.put3 (.bool d3.n) (.slice d3.u d3.nu d3.cu) (.slice d3.l d3.nl d3.cl)).all3
    refine bodyPost_ret (v := .agg #[.bool d3.n, .slice d3.u d3.nu d3.cu, .slice d3.l d3.nl d3.cl]) (by simp [results, Tryz.results121, go_sem, k0, k1, k2]) rfl ⟨Below.put3 (HB0.out.trans (hbl3.mono HB0.out.size)) (by omega) (.bool d3.n) (.slice d3.u d3.nu d3.cu) (.slice d3.l d3.nl d3.cl), _, rfl, ?_⟩
    have hst := Stays.put3 hkr (by simp [notLimb]) (.bool d3.n) (.slice d3.u d3.nu d3.cu) (.slice d3.l d3.nl d3.cl) rfl rfl rfl
    rw [rsum3] at hv3; exact hst.qv hv3
theorem lineValue_calls {w : World} {va vb : Value} {ax ay az bx bz : Rat} {k l : Nat} (ha : LV w va ax ay az) (hb : WV w vb bx bz) (f1 : QS k ax) (f2 : QS k ay) (f5 : QS k az) (f3 : QS l bx) (f4 : QS l bz) (hk : 3 * (k + l + 1) + 1 ≤ 35184372088640) :
    Calls Tryz.prog 121 #[va, vb] w fun e w' => Below w.heap.size w w' ∧ ∃ v, e = .returned v ∧ QV w' v (ax * bx + ay * bz + az) := by
  obtain ⟨c1, c2, c5, rfl, h1, h2, h5⟩ := ha
  obtain ⟨c3, c4, rfl, h3, h4⟩ := hb
  exact lineValue_walk h1 h2 h5 h3 h4 f1 f2 f5 f3 f4 hk
end Go.Proofs.YtgajdmadbdbabaaGreatDoor
/- TA -/
namespace Go.Proofs.YtgajdmadbdbabaaGreatDoor
open Go.RowKit Cx
theorem byte_at (s : ByteArray) (k : Nat) (h : k < s.size) : s.data.toList[k]'(by simpa using h) = s[k] := rfl
theorem isDigits_calls (s : ByteArray) (w : World) (hs : s.size ≤ 9223372036854775807) :
    Calls Tryz.prog 112 #[.string s] w fun e w' => e = .returned (.bool (digs s.data.toList)) ∧ w' = w := by
  go_enter Tryz.func112, Tryz.ntmps112
  go_wp2
  go_loop [6] (fun i => ∃ k : Nat, k ≤ s.size ∧ i = .int .i64 k ∧ (s.data.toList.take k).all dg = true) (fun i => s.size - (intOf i).toNat)
  case atStart => exact ⟨0, Nat.zero_le _, rfl, by simp⟩
  case round =>
    obtain ⟨k, hk, rfl, hall⟩ := hrel
    have HAL := hideIt hall
    clear hall
    by_cases hlt : k < s.size
    · have hlen : k < s.data.toList.length := by simpa using hlt
      have htk := hideIt (take_snoc8 hlen)
      by_cases h1 : s[k].toNat < 48
      · have HF : Hid (digs s.data.toList = false) := by
          show digs s.data.toList = false
          have hm : s.data.toList.all dg = false := by
            rw [Bool.eq_false_iff]
            intro h
            have := List.all_eq_true.1 h _ (List.getElem_mem hlen)
            have := dg_le this
            rw [byte_at s k hlt] at this
            omega
          simp [digs, hm]
        go_wp2
        go_ret
        exact ⟨by rw [HF.out]; rfl, rfl⟩
      · by_cases h2 : 57 < s[k].toNat
        · have HF : Hid (digs s.data.toList = false) := by
            show digs s.data.toList = false
            have hm : s.data.toList.all dg = false := by
              rw [Bool.eq_false_iff]
              intro h
              have := List.all_eq_true.1 h _ (List.getElem_mem hlen)
              have := dg_le this
              rw [byte_at s k hlt] at this
              omega
            simp [digs, hm]
          go_wp2
          go_ret
          exact ⟨by rw [HF.out]; rfl, rfl⟩
        · go_wp2
          go_round
          case rel =>
            refine ⟨k + 1, by omega, by go_num, ?_⟩
            rw [htk.out, List.all_append, HAL.out, byte_at s k hlt]
            simp [dg]
            omega
          case measure => simp [intOf]; omega
    · have hall : s.data.toList.all dg = true := by
        have := HAL.out
        rwa [List.take_of_length_le (by simp; omega)] at this
      have HF := hideIt hall
      clear hall
      go_wp2
      go_ret
      refine ⟨?_, rfl⟩
      show Ending.returned (Value.bool (!s.toList.isEmpty)) = _
      rw [ByteArray.toList_eq]
      simp [digs, HF.out]
theorem pow_nine {k : Nat} (h : k ≤ 9) : 10 ^ k ≤ 1000000000 := by
  have := Nat.pow_le_pow_right (show 0 < 10 by omega) h
  omega
theorem readRun_calls (s : ByteArray) (w : World) (hs : s.size ≤ 9) (hd : s.data.toList.all dg = true) :
    Calls Tryz.prog 158 #[.string s] w fun e w' => e = .returned (.int .u32 (dv s.data.toList)) ∧ w' = w := by
  have HD := hideIt hd
  clear hd
  go_enter Tryz.func158, Tryz.ntmps158
  go_wp2
  go_loop [3, 7] (fun r i => ∃ k n : Nat, k ≤ s.size ∧ i = .int .i64 k ∧ r = .int .u32 n ∧ n = dv (s.data.toList.take k)) (fun _ i => s.size - (intOf i).toNat)
  case atStart => exact ⟨0, 0, Nat.zero_le _, rfl, rfl, rfl⟩
  case round =>
    obtain ⟨k, n, hk, rfl, rfl, hn⟩ := hrel
    have HN := hideIt hn
    clear hn
    by_cases hlt : k < s.size
    · have hlen : k < s.data.toList.length := by simpa using hlt
      have htk := hideIt (take_snoc8 hlen)
      have hb : n < 100000000 := by
        rw [HN.out]
        have h1 : (s.data.toList.take k).all dg = true := List.all_eq_true.2 fun x hx => List.all_eq_true.1 HD.out x (List.mem_of_mem_take hx)
        have h2 := dv_lt h1
        have h3 : (s.data.toList.take k).length ≤ 8 := by simp; omega
        have h4 := Nat.pow_le_pow_right (show 0 < 10 by omega) h3
        omega
      have hc : 48 ≤ s[k].toNat ∧ s[k].toNat ≤ 57 := by
        have := dg_le (List.all_eq_true.1 HD.out _ (List.getElem_mem hlen))
        rwa [byte_at s k hlt] at this
      obtain ⟨hc1, hc2⟩ := hc
      go_wp2
      go_round
      case rel =>
        refine ⟨k + 1, n * 10 + (s[k].toNat - 48), by omega, by go_num, ?_, ?_⟩
        · first | rfl | go_num
        · rw [htk.out, dv_snoc, ← HN.out, byte_at s k hlt]
      case measure => simp [intOf]; omega
    · go_wp2
      go_ret
      have hn := HN.out
      rw [List.take_of_length_le (by simp; omega)] at hn
      exact ⟨by rw [hn]; rfl, rfl⟩
end Go.Proofs.YtgajdmadbdbabaaGreatDoor
/- TB -/
namespace Go.Proofs.YtgajdmadbdbabaaGreatDoor
open Go.RowKit Cx
def RowC (w : World) (g cap : Nat) (l : List Nat) : Prop := ∃ sp : Array Value, w.heap[g]? = some (.cells (rowOf l ++ sp) 168 (0, 0)) ∧ l.length + sp.size = cap
theorem RowC.row {w : World} {g cap : Nat} {l : List Nat} (h : RowC w g cap l) : Row w g l := ⟨h.choose, h.choose_spec.1⟩
theorem RowC.le {w : World} {g cap : Nat} {l : List Nat} (h : RowC w g cap l) : l.length ≤ cap := by obtain ⟨sp, _, h⟩ := h; omega
theorem RowC.set {w : World} {g cap : Nat} {l : List Nat} (h : RowC w g cap l) {j : Nat} (hj : j < l.length) (y : Nat) {z : Int} (hz : z = (y : Int)) : RowC (w.setCell ⟨g, j, none⟩ (.int .u32 z)) g cap (l.set j y) := by
  obtain ⟨sp, h, hc⟩ := h
  refine ⟨sp, ?_, by simpa using hc⟩
  rw [hz, heap_setCell_same w g j _ _ _ h, Array.setIfInBounds_append_left (by rw [rowOf_size]; exact hj), rowOf_set]
theorem RowC.below {w w' : World} {g cap B : Nat} {l : List Nat} (h : RowC w g cap l) (hb : Below B w w') (hg : g < B) : RowC w' g cap l := by
  obtain ⟨sp, h, hc⟩ := h
  exact ⟨sp, by rw [hb.block g hg, h], hc⟩
theorem RowC.owns {w : World} {g cap : Nat} {l : List Nat} (h : RowC w g cap l) (hm : cap ≤ maxLen) : w.ownsRow g 168 1 (.slice (some ⟨g, 0, none⟩) l.length cap) l.length (l.map fun x : Nat => Value.int .u32 (x : Int)) := by
  obtain ⟨sp, h, hc⟩ := h
  refine ⟨by simp, Or.inr ⟨g, cap, rowOf l ++ sp, rfl, Nat.le_refl _, h, by omega, hm, ?_, ?_⟩⟩
  · simp [rowOf_size]; omega
  · rw [Array.toList_append, Nat.mul_one, List.take_append_of_le_length (by simp [rowOf])]
    simp [rowOf]
    exact List.take_of_length_le (by simp)
theorem rowC_of_owns {w : World} {base n : Nat} {v : Value} {l : List Nat} (hl : l.length = n) (h : w.ownsRow base 168 1 v n (l.map fun x : Nat => Value.int .u32 (x : Int))) (hv : v ≠ .slice none 0 0) :
    ∃ g cap, v = .slice (some ⟨g, 0, none⟩) n cap ∧ base ≤ g ∧ cap ≤ maxLen ∧ RowC w g cap l := by
  rcases h.2 with ⟨h1, _⟩ | ⟨g, cap, cur, rfl, hb, hh, hc, hm, hs, ht⟩
  · exact absurd h1 hv
  · refine ⟨g, cap, rfl, hb, hm, (cur.toList.drop n).toArray, ?_, ?_⟩
    · rw [hh]
      have : cur = rowOf l ++ (cur.toList.drop n).toArray := by
        apply Array.ext'
        rw [Array.toList_append]
        rw [Nat.mul_one] at ht
        have := List.take_append_drop n cur.toList
        rw [ht] at this
        simp [rowOf, this]
      rw [← this]
    · simp; omega
theorem run_round (V cy P A x : Nat) (R : Nat) (h : V + cy * P = A * 1000000000 + R) :
    V + P * ((cy + x * 1000000000) % 4294967296) + ((cy + x * 1000000000) / 4294967296) * (4294967296 * P) = (A + P * x) * 1000000000 + R := by
  have e := Nat.mod_add_div (cy + x * 1000000000) 4294967296
  generalize (cy + x * 1000000000) % 4294967296 = a at *
  generalize (cy + x * 1000000000) / 4294967296 = b at *
  have : P * a + b * (4294967296 * P) = P * (cy + x * 1000000000) := by rw [← e]; grind
  grind
theorem run_trim {l cur : List Nat} {r : Nat} (hc : Lim cur) (tl : Trim l) (hlen : cur.length = l.length) (hv : val cur = val l * 1000000000 + r) : Trim cur := by
  by_cases e : l = []
  · subst e; left; exact List.length_eq_zero_iff.1 hlen
  · right
    have hp : 0 < l.length := List.length_pos_iff.2 e
    have h1 := trim_pos tl e
    intro h0
    have h2 := val_lt_top hc (by omega)
    rw [h0, Nat.zero_add, Nat.one_mul, hlen] at h2
    omega
theorem trim_snoc {l : List Nat} {x : Nat} (h : x ≠ 0) : Trim (l ++ [x]) := by
  right
  simp [nth]
  exact h
def Run (w : World) (g : Nat) (l : List Nat) (t : Nat) (w' : World) (e : Ending) : Prop :=
  ∃ g' cap' l', e = .returned (.slice (some ⟨g', 0, none⟩) l'.length cap') ∧ RowC w' g' cap' l' ∧ Lim l' ∧ (Trim l → Trim l') ∧ val l' = val l * 1000000000 + t ∧ l'.length ≤ l.length + 1 ∧ cap' ≤ maxLen ∧
    ∀ B w0, Below B w0 w → B ≤ g → Below B w0 w' ∧ B ≤ g'
theorem appendRun_calls {w : World} {g cap r : Nat} {l : List Nat} (h : RowC w g cap l) (hl : Lim l) (hlen : l.length ≤ 1099511627776) (hcap : cap ≤ maxLen) (hr : r < 1000000000) :
    Calls Tryz.prog 157 #[.slice (some ⟨g, 0, none⟩) l.length cap, .int .u32 r] w fun e w' => Run w g l r w' e := by
  obtain ⟨i0, hi, hz0, hz1, hz2⟩ := info_parts Tryz.infoU32
  have HL0 := hideIt hl
  have HC := hideIt hcap
  clear hl hcap
  go_enter Tryz.func157, Tryz.ntmps157
  go_wp2
  go_loopw [5, 12] (fun c i wr => ∃ (k cy : Nat) (cur : List Nat), k ≤ l.length ∧ i = .int .i64 k ∧ c = .int .u64 cy ∧ cy < 1000000000 ∧ RowC wr g cap cur ∧ cur.length = l.length ∧ Lim cur ∧ (∀ j, k ≤ j → nth cur j = nth l j) ∧ val (cur.take k) + cy * pw k = val (l.take k) * 1000000000 + r ∧ Only g w wr) (fun _ i _ => l.length - (intOf i).toNat)
  case atStart => exact ⟨0, r, l, Nat.zero_le _, rfl, rfl, hr, h, rfl, HL0.out, fun _ _ => rfl, by simp [val, pw], Only.refl _ _⟩
  case round =>
    obtain ⟨k, cy, cur, hk, rfl, rfl, hcy, hrow, hcl, hcm, hag, hval, honly⟩ := hrel
    have HV := hideIt hval
    have HL := hideIt hcl
    have HG := hideIt hag
    clear hval hcl hag h
    by_cases hlt : k < l.length
    · have hcc := hrow.row.cell (j := k) (by rw [HL.out]; omega)
      have hfz := hrow.row.frozen k
      have hx := nth_lt hcm k
      go_wp2
      go_roundw
      case rel =>
        refine ⟨k + 1, (cy + nth cur k * 1000000000) / 4294967296, cur.set k ((cy + nth cur k * 1000000000) % 4294967296), by omega, by go_num, by go_num, by omega, hrow.set (by rw [HL.out]; omega) _ (by omega), by rw [List.length_set, HL.out], hcm.set (by omega), ?_, ?_, honly.set _ _⟩
        · intro j hj
          rw [nth_set_other (by omega)]
          exact HG.out j (by omega)
        · rw [val_set_take (by rw [HL.out]; omega), val_take_succ, pw_succ, ← HG.out k (Nat.le_refl _)]
          exact run_round _ _ _ _ _ _ HV.out
      case measure => simp [intOf]; omega
    · obtain rfl : k = l.length := by omega
      have hend : Hid (val cur + cy * pw l.length = val l * 1000000000 + r) := by
        have := HV.out
        rw [List.take_length, List.take_of_length_le (by rw [HL.out]; exact Nat.le_refl _)] at this
        exact this
      by_cases h0 : cy = 0
      · subst h0
        go_wp2
        go_ret
        have hv : val cur = val l * 1000000000 + r := by have := hend.out; simpa using this
        refine ⟨g, cap, cur, by rw [HL.out]; rfl, hrow, hcm, fun t => run_trim hcm t HL.out hv, hv, by rw [HL.out]; omega, HC.out, ?_⟩
        intro B w0 hb hB
        exact ⟨honly.below hb hB, hB⟩
      · have hne : ((cy : Int) != 0) = true := by rw [bne_iff_ne]; omega
        have hown := (hrow.below (below_new wr (.cells #[.int .u32 (cy : Int)] 168)) hrow.row.lt).owns HC.out
        rw [HL.out] at hown
        have hnews : ∀ j u, ([Value.int .u32 (cy : Int)] : List Value)[j]? = some u → (wr.alloc (.cells #[.int .u32 (cy : Int)] 168)).cell? (Addr.add ⟨wr.heap.size, 0, none⟩ j) = some u := by
          intro j u hj
          match j, hj with
          | 0, hj => simp at hj; subst hj; simp [Addr.add]
        have HNW := hideIt hnews
        have HC2 := hideIt h0
        clear hnews h0
        go_wp2_with (at_builtin; refine wpList_append_own _ rfl _ _ 82 rfl g 168 i0 (.int .u32 0) 1 4 Tryz.underlying82 hi hz0 hz1 hz2 rfl (by decide) (.slice (some ⟨g, 0, none⟩) l.length cap) l.length (cur.map fun x : Nat => Value.int .u32 (x : Int)) rfl hown ⟨wr.heap.size, 0, none⟩ 1 1 [.int .u32 (cy : Int)] rfl rfl HNW.out (by intro u hu; simp at hu; subst hu; rfl) (by unfold maxLen; omega) (by omega) (by have := hrow.row.lt; simp; omega) ?_; intro v' w1 hown1 hgrow hnil)
        rw [show (List.map (fun x : Nat => Value.int .u32 (x : Int)) cur ++ [Value.int .u32 (cy : Int)]) = (cur ++ [cy]).map (fun x : Nat => Value.int .u32 (x : Int)) from by simp] at hown1
        obtain ⟨g', cap', rfl, hg', hm', hrow'⟩ := rowC_of_owns (l := cur ++ [cy]) (by simp [HL.out]) hown1 (fun e => by have := (hnil.1 e).2; omega)
        have hlen' : (cur ++ [cy]).length = l.length + 1 := by simp [HL.out]
        go_ret
        refine ⟨g', cap', cur ++ [cy], by rw [hlen']; rfl, hrow', ?_, fun _ => trim_snoc HC2.out, ?_, by omega, hm', ?_⟩
        · intro x hx
          rcases List.mem_append.1 hx with hx | hx
          · exact hcm x hx
          · rw [List.mem_singleton.1 hx]; omega
        · rw [val_append, HL.out]
          have := hend.out
          simp only [val]
          rw [← this]; grind
        · intro B w0 hb hB
          have hb1 := honly.below hb hB
          have hlt := hrow.row.lt
          have hb2 : Below B w0 (wr.alloc (.cells #[.int .u32 (cy : Int)] 168)) := hb1.alloc (by omega) _
          refine ⟨⟨hgrow.os.trans hb2.os, hgrow.tape.trans hb2.tape, hgrow.output.trans hb2.output, Nat.le_trans hb2.size hgrow.size, fun i hi => ?_⟩, by omega⟩
          rw [hgrow.block i (by have := hb2.size; simp; omega) (by simp [Value.ownBlock]; omega), hb2.block i hi]
end Go.Proofs.YtgajdmadbdbabaaGreatDoor
/- ShelfB -/
/- TC -/
namespace Go.Proofs.YtgajdmadbdbabaaGreatDoor
open Go.RowKit Cx
theorem make_cap {t : TypeId} (ht : Tryz.prog.underlying t = some (.slice 168)) (n : Nat) (hn : n ≤ 70368744177664) (w : World) :
    (Instr.makeSlice t (.int .i64 0) (.int .i64 n)).run Tryz.prog w = .ok (.slice (some ⟨w.heap.size, 0, none⟩) 0 n) (w.alloc (.cells (rowOf (List.replicate n 0)) 168)) := by
  obtain ⟨i, hi, hz0, hz1, hz2⟩ := info_parts Tryz.infoU32
  have h := run_make (P := Tryz.prog) w t 168 i (.int .u32 0) ht hi hz0 .i64 .i64 0 n (by omega) (by omega) (by rw [hz2]; omega) (by omega)
  rw [hz1] at h
  rw [← made_row]
  simpa using h
theorem RowC.new (w : World) (n : Nat) : RowC (w.alloc (.cells (rowOf (List.replicate n 0)) 168)) w.heap.size n [] :=
  by
  refine ⟨rowOf (List.replicate n 0), ?_, by simp [rowOf]⟩
  show (w.heap.push _)[w.heap.size]? = _
  simp [rowOf]
theorem bytes_take (u : ByteArray) (n : Nat) : (u.extract 0 n).data.toList = u.data.toList.take n := by
  simp [ByteArray.data_extract, Array.toList_extract, List.extract]
theorem bytes_drop (u : ByteArray) (n : Nat) : (u.extract n u.size).data.toList = u.data.toList.drop n := by
  simp [ByteArray.data_extract, Array.toList_extract, List.extract]
  exact List.take_of_length_le (by simp)
theorem read_round {V u : Nat} {l : List UInt8} {n r X : Nat} (hn : n ≤ l.length) (hu : u = l.length) (h9 : V = 0 ∨ n = 9) (hr : dv (l.take n) = r) (h : V * 10 ^ u + dv l = X) : (V * 1000000000 + r) * 10 ^ (u - n) + dv (l.drop n) = X := by
  have e := dv_append (l.take n) (l.drop n)
  rw [List.take_append_drop, List.length_drop, hr, ← hu] at e
  rw [← h, e]
  rcases h9 with rfl | rfl
  · simp
  · have : 10 ^ u = 1000000000 * 10 ^ (u - 9) := by
      rw [show (1000000000 : Nat) = 10 ^ 9 from rfl, ← Nat.pow_add]; congr 1; omega
    rw [this, Nat.add_mul, Nat.mul_assoc, Nat.add_assoc]
theorem dv_dropZero (l : List UInt8) : dv (l.dropWhile (· == 48)) = dv l := by
  induction l with
  | nil => rfl
  | cons c l ih =>
    by_cases h : c = 48
    · subst h
      rw [List.dropWhile_cons_of_pos (by rfl), ih, dv_cons]
      simp
    · rw [List.dropWhile_cons_of_neg (by simpa using h)]
theorem trimmed (s : ByteArray) (hd : s.data.toList.all dg = true) : ∃ t : ByteArray, t = ⟨(Lib.trimLeftB s.data.toList 48).toArray⟩ ∧ t.size ≤ s.size ∧ Hid (t.data.toList.all dg = true) ∧ Hid (dv t.data.toList = dv s.data.toList) := by
  refine ⟨_, rfl, ?_, ?_, ?_⟩
  · show (List.toArray (Lib.trimLeftB s.data.toList 48)).size ≤ s.data.size
    have := (List.dropWhile_sublist (l := s.data.toList) (· == 48)).length_le
    simpa [Lib.trimLeftB] using this
  · show (Lib.trimLeftB s.data.toList 48).all dg = true
    exact List.all_eq_true.2 fun x hx => List.all_eq_true.1 hd x ((List.dropWhile_sublist _).subset hx)
  · exact dv_dropZero _
theorem readNat_calls (s : ByteArray) (w : World) (hs : s.size ≤ 4294967296) (hd : s.data.toList.all dg = true) :
    Calls Tryz.prog 114 #[.string s] w fun e w' => Below w.heap.size w w' ∧ ∃ v, e = .returned v ∧ NatN w' v (dv s.data.toList) := by
  have HD := hideIt hd
  clear hd
  go_enter Tryz.func114, Tryz.ntmps114
  go_wp2_with fail
  refine (Tryz.strings_TrimLeft_one s 48 (by decide) w).mono ?_
  rintro e w1 ⟨rfl, hw1⟩
  subst hw1
  have HT : ∃ t : ByteArray, t = ⟨(Lib.trimLeftB s.data.toList 48).toArray⟩ ∧ t.size ≤ s.size ∧ Hid (t.data.toList.all dg = true) ∧ Hid (dv t.data.toList = dv s.data.toList) := trimmed s HD.out
  obtain ⟨t, et, htl, HD1, HV1⟩ := HT
  rw [← et]
  clear et
  have hmk := make_cap (t := 82) (by kernel_rfl) (t.size / 9 + 1) (by omega)
  have ec : ((t.size / 9 + 1 : Nat) : Int) = (t.size : Int) / 9 + 1 := by omega
  rw [ec] at hmk
  clear ec
  go_wp2
  go_loopg [0, 3] t.size (fun k x y wr => ∃ (u : ByteArray) (l : List Nat) (g cap : Nat), x = .string u ∧ y = .slice (some ⟨g, 0, none⟩) l.length cap ∧ u.size ≤ k ∧ l.length + u.size ≤ t.size ∧ u.data.toList.all dg = true ∧ RowC wr g cap l ∧ cap ≤ maxLen ∧ Lim l ∧ Trim l ∧ (val l = 0 ∨ u.size % 9 = 0) ∧ val l * 10 ^ u.size + dv u.data.toList = dv s.data.toList ∧ Below w1.heap.size w1 wr ∧ w1.heap.size ≤ g)
  case atStart =>
    exact ⟨t, [], w1.heap.size, t.size / 9 + 1, rfl, rfl, Nat.le_refl _, by simp, HD1.out, RowC.new _ _, by unfold maxLen; omega, fun x hx => by simp at hx, Or.inl rfl, Or.inl rfl, by rw [HV1.out]; simp [val], below_new _ _, Nat.le_refl _⟩
  case round =>
    obtain ⟨u, l, g, cap, rfl, rfl, huk, hlu, hdu, hrow, hcap, hlim, htr, hnine, hval, hbel, hg⟩ := hrel
    have H1 := hideIt hdu
    have H2 := hideIt hrow
    have H3 := hideIt hcap
    have H4 := hideIt hlim
    have H5 := hideIt htr
    have H6 := hideIt hnine
    have H7 := hideIt hval
    clear hdu hrow hcap hlim htr hnine hval
    by_cases h0 : u.size = 0
    · have hu : u = ⟨#[]⟩ := by
        have : u.data = #[] := Array.eq_empty_of_size_eq_zero h0
        cases u; simp at this; simp [this]
      subst hu
      go_wp2
      go_ret
      refine ⟨hbel, _, rfl, l, ?_, H5.out, ?_⟩
      · exact ⟨H4.out, Or.inr ⟨g, 0, cap, rfl, H2.out.le, H3.out, H2.out.row.lt, H2.out.row.seg⟩⟩
      · have := H7.out
        rw [show (⟨#[]⟩ : ByteArray).size = 0 from rfl, Nat.pow_zero, Nat.mul_one] at this
        exact this
    · have hne : u.toList.isEmpty = false := by
        rw [ByteArray.toList_eq, List.isEmpty_eq_false_iff]
        intro e
        have := congrArg List.length e
        simp at this
        exact h0 (by rw [this]; rfl)
      go_wp2_with fail
      have hn9 : (u.size - 1) % 9 + 1 ≤ u.size := by omega
      have htk : (u.extract 0 ((u.size - 1) % 9 + 1)).data.toList = u.data.toList.take ((u.size - 1) % 9 + 1) := bytes_take u _
      have htd : (u.extract 0 ((u.size - 1) % 9 + 1)).data.toList.all dg = true := by
        rw [htk]; exact List.all_eq_true.2 fun x hx => List.all_eq_true.1 H1.out x (List.mem_of_mem_take hx)
      have hts : (u.extract 0 ((u.size - 1) % 9 + 1)).size ≤ 9 := by rw [ByteArray.size_extract]; omega
      refine (readRun_calls _ wr hts htd).mono ?_
      rintro e w2 ⟨rfl, hw2⟩
      have hw3 := hw2.symm; subst hw3; clear hw2
      have hrl := dv_lt htd
      have hrl2 : dv (u.extract 0 ((u.size - 1) % 9 + 1)).data.toList < 1000000000 := by
        have h1 : (u.extract 0 ((u.size - 1) % 9 + 1)).data.toList.length ≤ 9 := by simpa using hts
        exact Nat.lt_of_lt_of_le hrl (pow_nine h1)
      rw [htk] at hrl2
      rw [htk]
      clear hrl htd hts htk
      have HR := hideIt hrl2
      clear hrl2
      generalize er : dv (u.data.toList.take ((u.size - 1) % 9 + 1)) = r at *
      have HE := hideIt er
      clear er
      go_wp2_with fail
      refine (appendRun_calls H2.out H4.out (by omega) H3.out HR.out).mono ?_
      rintro e w3 ⟨g', cap', l', rfl, hrow', hlim', htr', hval', hlen', hcap', hfr⟩
      obtain ⟨hb3, hg3⟩ := hfr w1.heap.size w1 hbel hg
      have K1 := hideIt hrow'
      have K2 := hideIt hlim'
      have K3 := hideIt htr'
      have K4 := hideIt hval'
      have K5 := hideIt hcap'
      clear hrow' hlim' htr' hval' hcap' hfr
      go_wp2
      have hsz : (u.extract ((u.size - 1) % 9 + 1) u.size).size = u.size - ((u.size - 1) % 9 + 1) := by rw [ByteArray.size_extract]; omega
      go_roundg (u.size - ((u.size - 1) % 9 + 1))
      case measure => omega
      case rel =>
        refine ⟨_, l', g', cap', rfl, rfl, by rw [hsz]; exact Nat.le_refl _, by rw [hsz]; omega, ?_, K1.out, K5.out, K2.out, K3.out H5.out, Or.inr (by rw [hsz]; omega), ?_, hb3, hg3⟩
        · rw [bytes_drop]; exact List.all_eq_true.2 fun x hx => List.all_eq_true.1 H1.out x (List.mem_of_mem_drop hx)
        · rw [bytes_drop, K4.out, hsz]
          exact read_round (by simpa using hn9) (by simp) (H6.out.imp_right fun h => by omega) HE.out H7.out
end Go.Proofs.YtgajdmadbdbabaaGreatDoor
/- TD -/
namespace Go.Proofs.YtgajdmadbdbabaaGreatDoor
open Go.RowKit Cx
theorem barAt_lt {l : List UInt8} {i : Nat} (h : barAt l = some i) : i < l.length ∧ Lib.indexByte l 47 = (i : Int) := by
  unfold barAt at h
  split at h
  · cases h
  · rename_i hn
    cases h
    have e : Lib.indexByte l 47 = ((Lib.indexByte l 47).toNat : Int) := by omega
    refine ⟨?_, e⟩
    have := (Lib.indexByte_some (l := l) (c := 47) e).1
    exact (List.getElem?_eq_some_iff.1 this).1
theorem liteCut_calls (s : ByteArray) (w : World) (hs : s.size ≤ 4294967296) :
    Calls Tryz.prog 155 #[.string s, .string ⟨#[47]⟩] w fun e w' => (w' = w ∨ w' = w.drew) ∧ ∃ a b : ByteArray, e = .returned (.tuple #[.string a, .string b, .bool (barAt s.data.toList).isSome]) ∧ a.data.toList = upOf s.data.toList ∧ (∀ i, barAt s.data.toList = some i → b.data.toList = s.data.toList.drop (i + 1)) := by
  go_enter Tryz.func155, Tryz.ntmps155
  go_wp2_with fail
  refine (Tryz.stringslite_Index_one s 47 w).mono ?_
  rintro e w1 ⟨rfl, hw1⟩
  have hw2 := hw1.symm; subst hw2; clear hw1
  rcases hb : barAt s.data.toList with _ | i
  · have hneg : Lib.indexByte s.data.toList 47 < 0 := by
      unfold barAt at hb
      split at hb
      · assumption
      · cases hb
    have HB := hideIt hb
    clear hb
    generalize Lib.indexByte s.data.toList 47 = z at *
    go_wp2
    go_ret3
    exact ⟨Or.inl rfl, s, ⟨#[]⟩, by rw [HB.out]; rfl, by unfold upOf; rw [HB.out], fun i h => by rw [HB.out] at h; cases h⟩
  · obtain ⟨hi, he⟩ := barAt_lt hb
    rw [he]
    have hi2 : i < s.size := by simpa using hi
    have HB := hideIt hb
    clear hb he hi
    go_wp2
    go_region
    go_wp2
    go_ret3
    refine ⟨Or.inr rfl, _, _, by rw [HB.out]; rfl, ?_, ?_⟩
    · unfold upOf; rw [HB.out, bytes_take]
    · intro j h
      rw [HB.out] at h
      cases h
      rw [bytes_drop]
theorem cut_calls (s : ByteArray) (w : World) (hs : s.size ≤ 4294967296) :
    Calls Tryz.prog 111 #[.string s, .string ⟨#[47]⟩] w fun e w' => (w' = w ∨ w' = w.drew) ∧ ∃ a b : ByteArray, e = .returned (.tuple #[.string a, .string b, .bool (barAt s.data.toList).isSome]) ∧ a.data.toList = upOf s.data.toList ∧ (∀ i, barAt s.data.toList = some i → b.data.toList = s.data.toList.drop (i + 1)) := by
  go_enter Tryz.func111, Tryz.ntmps111
  go_wp2_with fail
  refine (liteCut_calls s w hs).mono ?_
  rintro e w1 ⟨hw, a, b, rfl, h1, h2⟩
  go_wp2
  go_ret3
  exact ⟨hw, a, b, rfl, h1, h2⟩
theorem tail_bytes (s : ByteArray) : ∃ t : ByteArray, (⟨(Lib.trimPrefix s.data.toList (⟨#[45]⟩ : ByteArray).data.toList).toArray⟩ : ByteArray) = t ∧ t.data.toList = tailOf s.data.toList ∧ t.size ≤ s.size := by
  refine ⟨_, rfl, rfl, ?_⟩
  show (List.toArray (Lib.trimPrefix s.data.toList [45])).size ≤ s.data.size
  unfold Lib.trimPrefix
  split
  · simp
  · simp
theorem ten_pw (n : Nat) : 10 ^ n ≤ pw n := by
  induction n with
  | zero => exact Nat.le_refl _
  | succ n ih => rw [pw_succ, Nat.pow_succ]; omega
theorem dv_small {l : List UInt8} (h : l.all dg = true) (hl : l.length ≤ 4294967296) : Small (dv l) :=
  ⟨Nat.lt_of_lt_of_le (dv_lt h) (Nat.le_trans (ten_pw _) (pw_le (by omega)))⟩
theorem read_calls (s : ByteArray) (w : World) (hs : s.size ≤ 4294967296) :
    Calls Tryz.prog 69 #[.string s] w fun e w' => Below w.heap.size w w' ∧ ∃ v, e = .returned v ∧ QV w' v (rd s.data.toList) := by
  have HB := hideIt (below_new w (.cells #[.bool false, .slice none 0 0, .slice none 0 0] 84))
  have HK := hideIt (Blk.new w #[.bool false, .slice none 0 0, .slice none 0 0] 84)
  go_enter Tryz.func69, Tryz.ntmps69
  go_wp2_with fail
  generalize hw0 : w.alloc (.cells #[.bool false, .slice none 0 0, .slice none 0 0] 84) = w0 at *
  refine (Tryz.strings_CutPrefix s ⟨#[45]⟩ w0).mono ?_
  rintro e w1 ⟨rfl, hw1⟩
  have hw2 := hw1.symm; subst hw2; clear hw1
  obtain ⟨t, et, ht, htl⟩ := tail_bytes s
  rw [et]
  clear et
  have HT := hideIt ht
  clear ht
  go_wp2_with fail
  refine (cut_calls t w0 (by omega)).mono ?_
  rintro e w1 ⟨hw1, a, b, rfl, ha, hb⟩
  have hb1 : Hid (Below w0.heap.size w0 w1) := by
    rcases hw1 with rfl | rfl
    · exact Below.refl _ _
    · exact Below.drew (Below.refl _ _)
  clear hw1
  rw [HT.out] at ha hb
  rw [HT.out]
  have HA := hideIt ha
  have HBB := hideIt hb
  clear ha hb
  have hal : a.size ≤ 4294967296 := by
    have h1 : a.data.toList.length ≤ (tailOf s.data.toList).length := by
      rw [HA.out]; unfold upOf; split
      · exact Nat.le_refl _
      · rw [List.length_take]; exact Nat.min_le_right _ _
    rw [← HT.out] at h1
    simp at h1
    omega
  have hk1 := HK.out.below hb1.out (by rw [← hw0]; simp)
  have HB1 := hideIt (HB.out.trans (hb1.out.mono HB.out.size))
  rcases hbar : barAt (tailOf s.data.toList) with _ | i
  · obtain ⟨low, elow, hlow, hll⟩ : ∃ low : ByteArray, (⟨#[49]⟩ : ByteArray) = low ∧ Hid (low.data.toList = lowOf (tailOf s.data.toList)) ∧ low.size ≤ 4294967296 := by
      refine ⟨_, rfl, ?_, by decide⟩
      show _ = _
      unfold lowOf; rw [hbar]
    clear hbar HBB
    go_wp2_with fail
    rw [elow]
    clear elow
    refine (isDigits_calls a w1 (by omega)).mono ?_
    rintro e w2 ⟨rfl, hw2⟩
    have hw3 := hw2.symm; subst hw3; clear hw2
    rw [HA.out]
    by_cases d1 : digs (upOf (tailOf s.data.toList)) = true
    · rw [d1]
      go_wp2_with fail
      refine (isDigits_calls low w1 (by omega)).mono ?_
      rintro e w2 ⟨rfl, hw2⟩
      have hw3 := hw2.symm; subst hw3; clear hw2
      rw [hlow.out]
      by_cases d2 : digs (lowOf (tailOf s.data.toList)) = true
      · rw [d2]
        have hrd : rd s.data.toList = mkRat (sg (ngOf s.data.toList) (dv (upOf (tailOf s.data.toList)))) (dv (lowOf (tailOf s.data.toList))) := by
          unfold rd; rw [d1, d2]; rfl
        have HRD := hideIt hrd
        clear hrd
        have D1 := hideIt (digs_all d1)
        have D2 := hideIt (digs_all d2)
        clear d1 d2
        go_wp2_with fail
        refine (readNat_calls a w1 hal (by rw [HA.out]; exact D1.out)).mono ?_
        rintro e w2 ⟨hb2, v1, rfl, hv1⟩
        rw [HA.out] at hv1
        have N1 := hideIt hv1
        clear hv1
        go_wp2_with fail
        refine (readNat_calls low w2 hll (by rw [hlow.out]; exact D2.out)).mono ?_
        rintro e w3 ⟨hb3, v2, rfl, hv2⟩
        rw [hlow.out] at hv2
        have N2 := hideIt hv2
        clear hv2
        go_wp2_with fail
        refine (reduced_calls (neg := ngOf s.data.toList) (N1.out.below hb3) N2.out (dv_small D1.out (by rw [← HA.out]; simpa using hal)) (dv_small D2.out (by rw [← hlow.out]; simpa using hll))).mono ?_
        rintro e w4 ⟨hb4, v, rfl, hv⟩
        rw [← HRD.out] at hv
        have hbl3 := hb2.trans (hb3.mono hb2.size)
        have hbl4 := hbl3.trans (hb4.mono hbl3.size)
        have HQ := hideIt hv
        obtain ⟨vu', vl', rfl, hn1, hn2⟩ := hv
        obtain ⟨ao3, len3, cap3, rfl, _, _, _⟩ := len_big hn1
        obtain ⟨ao4, len4, cap4, rfl, _, _, _⟩ := len_big hn2
        have hk4 := hk1.below hbl4 hk1.lt
        obtain ⟨c0, c1, c2, f0, f1, f2⟩ := hk4.three
        have HB4 := hideIt (HB1.out.trans (hbl4.mono HB1.out.size))
        clear hb2 hb3 hb4 hbl3 hbl4 hn1 hn2
        obtain ⟨rr, hrr⟩ : ∃ rr : Rat, rr = rd s.data.toList := ⟨_, rfl⟩
        rw [← hrr] at HQ ⊢
        have HRR := hideIt hrr
        clear hrr
        go_wp2
        obtain ⟨k0, k1, k2, hlow3⟩ := hk4.three_set (.bool (decide (rr.num < 0))) (.slice ao3 len3 cap3) (.slice ao4 len4 cap4)
        exact bodyPost_ret (v := .agg #[.bool (decide (rr.num < 0)), .slice ao3 len3 cap3, .slice ao4 len4 cap4]) (by simp [results, Tryz.results69, go_sem, k0, k1, k2]) rfl ⟨hlow3 _ _ HB4.out (Nat.le_refl _), _, rfl, by rw [← HRR.out]; exact HQ.out.three hk4⟩
      · have d2' : digs (lowOf (tailOf s.data.toList)) = false := by simpa using d2
        have hrd : rd s.data.toList = 0 := by unfold rd; rw [d1, d2']; rfl
        rw [d2']
        have HRD := hideIt hrd
        clear hrd d1 d2 d2'
        obtain ⟨c0, c1, c2, f0, f1, f2⟩ := hk1.three
        go_wp2
        obtain ⟨k0, k1, k2, hlow3⟩ := hk1.three_set (.bool false) (.slice none 0 0) (.slice none 0 0)
        refine bodyPost_ret (v := .agg #[.bool false, .slice none 0 0, .slice none 0 0]) (by simp [results, Tryz.results69, go_sem, k0, k1, k2]) rfl ⟨hlow3 _ _ HB1.out (Nat.le_refl _), _, rfl, ?_⟩
        rw [HRD.out]
        exact ⟨_, _, rfl, NatN.nil _ _ _, NatN.nil _ _ _⟩
    · have d1' : digs (upOf (tailOf s.data.toList)) = false := by simpa using d1
      have hrd : rd s.data.toList = 0 := by unfold rd; rw [d1']; rfl
      rw [d1']
      have HRD := hideIt hrd
      clear hrd d1 d1'
      obtain ⟨c0, c1, c2, f0, f1, f2⟩ := hk1.three
      go_wp2
      obtain ⟨k0, k1, k2, hlow3⟩ := hk1.three_set (.bool false) (.slice none 0 0) (.slice none 0 0)
      refine bodyPost_ret (v := .agg #[.bool false, .slice none 0 0, .slice none 0 0]) (by simp [results, Tryz.results69, go_sem, k0, k1, k2]) rfl ⟨hlow3 _ _ HB1.out (Nat.le_refl _), _, rfl, ?_⟩
      rw [HRD.out]
      exact ⟨_, _, rfl, NatN.nil _ _ _, NatN.nil _ _ _⟩
  · obtain ⟨low, elow, hlow, hll⟩ : ∃ low : ByteArray, b = low ∧ Hid (low.data.toList = lowOf (tailOf s.data.toList)) ∧ low.size ≤ 4294967296 := by
      refine ⟨_, rfl, ?_, ?_⟩
      · show _ = _
        rw [HBB.out i hbar]; unfold lowOf; rw [hbar]
      · have h1 : b.data.toList.length ≤ (tailOf s.data.toList).length := by
          rw [HBB.out i hbar]; simp
        rw [← HT.out] at h1
        simp at h1
        omega
    subst elow
    clear hbar HBB
    go_wp2_with fail
    refine (isDigits_calls a w1 (by omega)).mono ?_
    rintro e w2 ⟨rfl, hw2⟩
    have hw3 := hw2.symm; subst hw3; clear hw2
    rw [HA.out]
    by_cases d1 : digs (upOf (tailOf s.data.toList)) = true
    · rw [d1]
      go_wp2_with fail
      refine (isDigits_calls b w1 (by omega)).mono ?_
      rintro e w2 ⟨rfl, hw2⟩
      have hw3 := hw2.symm; subst hw3; clear hw2
      rw [hlow.out]
      by_cases d2 : digs (lowOf (tailOf s.data.toList)) = true
      · rw [d2]
        have hrd : rd s.data.toList = mkRat (sg (ngOf s.data.toList) (dv (upOf (tailOf s.data.toList)))) (dv (lowOf (tailOf s.data.toList))) := by
          unfold rd; rw [d1, d2]; rfl
        have HRD := hideIt hrd
        clear hrd
        have D1 := hideIt (digs_all d1)
        have D2 := hideIt (digs_all d2)
        clear d1 d2
        go_wp2_with fail
        refine (readNat_calls a w1 hal (by rw [HA.out]; exact D1.out)).mono ?_
        rintro e w2 ⟨hb2, v1, rfl, hv1⟩
        rw [HA.out] at hv1
        have N1 := hideIt hv1
        clear hv1
        go_wp2_with fail
        refine (readNat_calls b w2 hll (by rw [hlow.out]; exact D2.out)).mono ?_
        rintro e w3 ⟨hb3, v2, rfl, hv2⟩
        rw [hlow.out] at hv2
        have N2 := hideIt hv2
        clear hv2
        go_wp2_with fail
        refine (reduced_calls (neg := ngOf s.data.toList) (N1.out.below hb3) N2.out (dv_small D1.out (by rw [← HA.out]; simpa using hal)) (dv_small D2.out (by rw [← hlow.out]; simpa using hll))).mono ?_
        rintro e w4 ⟨hb4, v, rfl, hv⟩
        rw [← HRD.out] at hv
        have hbl3 := hb2.trans (hb3.mono hb2.size)
        have hbl4 := hbl3.trans (hb4.mono hbl3.size)
        have HQ := hideIt hv
        obtain ⟨vu', vl', rfl, hn1, hn2⟩ := hv
        obtain ⟨ao3, len3, cap3, rfl, _, _, _⟩ := len_big hn1
        obtain ⟨ao4, len4, cap4, rfl, _, _, _⟩ := len_big hn2
        have hk4 := hk1.below hbl4 hk1.lt
        obtain ⟨c0, c1, c2, f0, f1, f2⟩ := hk4.three
        have HB4 := hideIt (HB1.out.trans (hbl4.mono HB1.out.size))
        clear hb2 hb3 hb4 hbl3 hbl4 hn1 hn2
        obtain ⟨rr, hrr⟩ : ∃ rr : Rat, rr = rd s.data.toList := ⟨_, rfl⟩
        rw [← hrr] at HQ ⊢
        have HRR := hideIt hrr
        clear hrr
        go_wp2
        obtain ⟨k0, k1, k2, hlow3⟩ := hk4.three_set (.bool (decide (rr.num < 0))) (.slice ao3 len3 cap3) (.slice ao4 len4 cap4)
        exact bodyPost_ret (v := .agg #[.bool (decide (rr.num < 0)), .slice ao3 len3 cap3, .slice ao4 len4 cap4]) (by simp [results, Tryz.results69, go_sem, k0, k1, k2]) rfl ⟨hlow3 _ _ HB4.out (Nat.le_refl _), _, rfl, by rw [← HRR.out]; exact HQ.out.three hk4⟩
      · have d2' : digs (lowOf (tailOf s.data.toList)) = false := by simpa using d2
        have hrd : rd s.data.toList = 0 := by unfold rd; rw [d1, d2']; rfl
        rw [d2']
        have HRD := hideIt hrd
        clear hrd d1 d2 d2'
        obtain ⟨c0, c1, c2, f0, f1, f2⟩ := hk1.three
        go_wp2
        obtain ⟨k0, k1, k2, hlow3⟩ := hk1.three_set (.bool false) (.slice none 0 0) (.slice none 0 0)
        refine bodyPost_ret (v := .agg #[.bool false, .slice none 0 0, .slice none 0 0]) (by simp [results, Tryz.results69, go_sem, k0, k1, k2]) rfl ⟨hlow3 _ _ HB1.out (Nat.le_refl _), _, rfl, ?_⟩
        rw [HRD.out]
        exact ⟨_, _, rfl, NatN.nil _ _ _, NatN.nil _ _ _⟩
    · have d1' : digs (upOf (tailOf s.data.toList)) = false := by simpa using d1
      have hrd : rd s.data.toList = 0 := by unfold rd; rw [d1']; rfl
      rw [d1']
      have HRD := hideIt hrd
      clear hrd d1 d1'
      obtain ⟨c0, c1, c2, f0, f1, f2⟩ := hk1.three
      go_wp2
      obtain ⟨k0, k1, k2, hlow3⟩ := hk1.three_set (.bool false) (.slice none 0 0) (.slice none 0 0)
      refine bodyPost_ret (v := .agg #[.bool false, .slice none 0 0, .slice none 0 0]) (by simp [results, Tryz.results69, go_sem, k0, k1, k2]) rfl ⟨hlow3 _ _ HB1.out (Nat.le_refl _), _, rfl, ?_⟩
      rw [HRD.out]
      exact ⟨_, _, rfl, NatN.nil _ _ _, NatN.nil _ _ _⟩
end Go.Proofs.YtgajdmadbdbabaaGreatDoor
/- TE -/
namespace Go.Proofs.YtgajdmadbdbabaaGreatDoor
open Go.RowKit Cx
theorem owns_only {w w' : World} {g B n : Nat} {v : Value} {xs : List Value} (h : w.ownsRow B 168 1 v n xs) (ho : Only g w w') (hg : g < B) : w'.ownsRow B 168 1 v n xs := by
  obtain ⟨h1, h2 | ⟨g', cap, cur, rfl, hb, hh, hc⟩⟩ := h
  · exact ⟨h1, Or.inl h2⟩
  · exact ⟨h1, Or.inr ⟨g', cap, cur, rfl, hb, by rw [ho.block g' (by omega), hh], hc⟩⟩
theorem owns_below {w w' : World} {B n : Nat} {v : Value} {xs : List Value} (h : w.ownsRow B 168 1 v n xs) (ho : Below w.heap.size w w') : w'.ownsRow B 168 1 v n xs := by
  obtain ⟨h1, h2 | ⟨g', cap, cur, rfl, hb, hh, hc⟩⟩ := h
  · exact ⟨h1, Or.inl h2⟩
  · refine ⟨h1, Or.inr ⟨g', cap, cur, rfl, hb, ?_, hc⟩⟩
    have : g' < w.heap.size := by
      by_cases e : g' < w.heap.size
      · exact e
      · rw [Array.getElem?_eq_none (by omega)] at hh; cases hh
    rw [ho.block g' this, hh]
theorem runs_walk {w : World} {v : Value} {l0 : List Nat} (h : NatV w v l0) (ht : Trim l0) (hl : l0.length ≤ 1099511627770) :
    Calls Tryz.prog 162 #[v] w fun e w' => Below w.heap.size w w' ∧ ∃ v' rs, e = .returned v' ∧ NatV w' v' rs ∧ Runs rs ∧ rv rs = val l0 ∧ rs.length ≤ 2 * l0.length + 1 := by
  obtain ⟨i0, hi, hz0, hz1, hz2⟩ := info_parts Tryz.infoU32
  have HH := hideIt h
  have HT := hideIt ht
  have hlim0 := hideIt h.1
  have hvs : ∃ ao cap, v = .slice ao l0.length cap := by
    obtain ⟨_, ⟨rfl, ao, cap, rfl⟩ | ⟨b, off, cap, rfl, _⟩⟩ := h
    · exact ⟨ao, cap, rfl⟩
    · exact ⟨_, cap, rfl⟩
  obtain ⟨ao0, cap0, rfl⟩ := hvs
  clear h ht
  go_enter Tryz.func162, Tryz.ntmps162
  go_wp2_with fail
  refine (clone_calls HH.out (by omega)).mono ?_
  rintro e w1 ⟨hb1, ⟨rfl, rfl⟩ | ⟨g, cap, rfl, hg, hcl, hcm, hrow⟩⟩
  · go_wp2
    go_loopg [0, 3] 0 (fun k va vr wr => va = .slice none 0 0 ∧ vr = .slice none 0 0 ∧ wr = w1)
    case atStart => exact ⟨rfl, rfl, rfl⟩
    case round =>
      obtain ⟨rfl, rfl, rfl⟩ := hrel
      go_wp2
      go_ret
      exact ⟨hb1, _, [], rfl, ⟨fun x hx => by simp at hx, Or.inl ⟨rfl, _, _, rfl⟩⟩, ⟨fun x hx => by simp at hx, Or.inl rfl⟩, rfl, Nat.zero_le _⟩
  · have HR := hideIt hrow
    clear hrow
    go_wp2
    go_loopg [0, 3] (val l0) (fun k va vr wr => ∃ (l : List Nat) (n : Nat) (rs : List Nat), va = .slice (some ⟨g, 0, none⟩) n cap ∧ n ≤ l.length ∧ l.length = l0.length ∧ Row wr g l ∧ Lim l ∧ Trim (l.take n) ∧ val (l.take n) ≤ k ∧ (∀ x ∈ rs, x < 1000000000) ∧ rv rs + 1000000000 ^ rs.length * val (l.take n) = val l0 ∧ (val (l.take n) = 0 → rs = [] ∨ rs.getLast? ≠ some 0) ∧ wr.ownsRow w1.heap.size 168 1 vr rs.length (rs.map fun x : Nat => Value.int .u32 (x : Int)) ∧ Below w.heap.size w wr ∧ w1.heap.size ≤ wr.heap.size ∧ rs.length ≤ 2 * l0.length + 1)
    case atStart =>
      have e : l0.take l0.length = l0 := List.take_length
      exact ⟨l0, l0.length, [], rfl, Nat.le_refl _, rfl, HR.out, hlim0.out, by rw [e]; exact HT.out, by rw [e]; exact Nat.le_refl _, fun x hx => by simp at hx, by rw [e]; simp [rv], fun _ => Or.inl rfl, ⟨rfl, Or.inl ⟨rfl, rfl⟩⟩, hb1, Nat.le_refl _, Nat.zero_le _⟩
    case round =>
      obtain ⟨l, n, rs, rfl, hn, hll, hrow, hlim, htr, hk, hrs, hval, htop, hown, hbel, hsz, hrl⟩ := hrel
      have hgl : g < w1.heap.size := HR.out.lt
      have H1 := hideIt hrow
      have H2 := hideIt hlim
      have H3 := hideIt htr
      have H4 := hideIt hrs
      have H5 := hideIt hval
      have H6 := hideIt htop
      have H7 := hideIt hown
      clear hrow hlim htr hrs hval htop hown
      by_cases h0 : n = 0
      · subst h0
        go_wp2
        go_ret
        have h50 := H5.out
        have h60 := H6.out
        rw [List.take_zero, val_nil, Nat.mul_zero, Nat.add_zero] at h50
        rw [List.take_zero, val_nil] at h60
        refine ⟨hbel, _, rs, rfl, ?_, ⟨H4.out, h60 rfl⟩, h50, hrl⟩
        have hlr : Lim rs := fun x hx => by have := H4.out x hx; omega
        by_cases e : rs = []
        · subst e
          rcases H7.out.2 with ⟨e1, _⟩ | ⟨g', c', cur, e1, _⟩
          · exact ⟨hlr, Or.inl ⟨rfl, _, _, e1⟩⟩
          · exact ⟨hlr, Or.inl ⟨rfl, _, _, e1⟩⟩
        · obtain ⟨g', c', e1, hg', hm', hr'⟩ := rowC_of_owns rfl H7.out (fun e2 => by
            rcases H7.out.2 with ⟨_, e3⟩ | ⟨g', c', cur, e3, _⟩
            · exact e (List.length_eq_zero_iff.1 e3)
            · have e4 := e2.symm.trans e3
              cases e4)
          exact ⟨hlr, Or.inr ⟨g', 0, c', e1, hr'.le, hm', hr'.row.lt, hr'.row.seg⟩⟩
      · have hApos : Hid (0 < val (l.take n)) := by
          have h1 := trim_pos H3.out (by intro e; have := congrArg List.length e; rw [List.length_take, List.length_nil] at this; omega)
          exact Nat.lt_of_lt_of_le (pw_pos _) h1
        go_wp2_with fail
        refine (divideLimb_calls (cap := cap) H1.out H2.out hn (by omega) (by decide : 0 < 1000000000) (by decide)).mono ?_
        rintro e w2 ⟨rfl, honly, l', hrow', hlim', hlen', hv'⟩
        have hle2 : Hid (rs.length ≤ 2 * l0.length) := runs_len (by have := H5.out; omega) hApos.out (val_lt hlim0.out)
        obtain ⟨r, hr⟩ : ∃ r, r = val (l.take n) % 1000000000 := ⟨_, rfl⟩
        have hr9 : r < 1000000000 := by rw [hr]; exact Nat.mod_lt _ (by decide)
        rw [← hr]
        have K0 := hideIt hr
        have K1 := hideIt hrow'
        have K2 := hideIt hlim'
        have K3 := hideIt hv'
        have hs2 : w1.heap.size ≤ w2.heap.size := by rw [honly.size]; exact hsz
        have K4 := hideIt (honly.below hbel (by omega : w.heap.size ≤ g))
        have hown := owns_below (owns_only H7.out honly hgl) (below_new w2 (.cells #[.int .u32 (r : Int)] 168))
        have hnews : ∀ j u, ([Value.int .u32 (r : Int)] : List Value)[j]? = some u → (w2.alloc (.cells #[.int .u32 (r : Int)] 168)).cell? (Addr.add ⟨w2.heap.size, 0, none⟩ j) = some u := by
          intro j u hj
          match j, hj with
          | 0, hj => simp at hj; subst hj; simp [Addr.add]
        have HNW := hideIt hnews
        have HO := hideIt hown
        clear hnews hr hrow' hlim' hv' hown
        go_wp2_with (at_builtin; refine wpList_append_own _ rfl _ _ 81 rfl w1.heap.size 168 i0 (.int .u32 0) 1 4 Tryz.underlying81 hi hz0 hz1 hz2 rfl (by decide) _ rs.length (rs.map fun x : Nat => Value.int .u32 (x : Int)) rfl HO.out ⟨w2.heap.size, 0, none⟩ 1 1 [.int .u32 (r : Int)] rfl rfl HNW.out (by intro u hu; simp at hu; subst hu; rfl) (by unfold maxLen; omega) (by omega) (by simp; omega) ?_; intro v' w3 hown1 hgrow hnil)
        have hnb : ∀ i, i < w1.heap.size → w3.heap[i]? = w2.heap[i]? := by
          intro i hi'
          have h1 := hgrow.block i (by simp; omega) (by
            rcases H7.out.2 with ⟨e1, _⟩ | ⟨g', c', cur, e1, hb', _⟩
            · rw [e1]; simp [go_sem, Value.ownBlock]
            · rw [e1]; simp [go_sem, Value.ownBlock]; omega)
          rw [h1, (below_new w2 _).block i (by omega)]
        have hgs := hgrow.size
        have hb3 : Hid (Below w.heap.size w w3) := by
          have hb2 : Below w.heap.size w (w2.alloc (.cells #[.int .u32 (r : Int)] 168)) := K4.out.alloc (by have := hb1.size; omega) _
          exact ⟨hgrow.os.trans hb2.os, hgrow.tape.trans hb2.tape, hgrow.output.trans hb2.output, Nat.le_trans hb2.size hgrow.size, fun i hi' => by rw [hnb i (by have := hb1.size; omega), K4.out.block i hi']⟩
        have hs3 : w1.heap.size ≤ w3.heap.size := by simp at hgs; omega
        have hrow3 : Hid (Row w3 g l') := by
          obtain ⟨sp, h⟩ := K1.out
          exact ⟨sp, by rw [hnb g hgl, h]⟩
        rw [show (List.map (fun x : Nat => Value.int .u32 (x : Int)) rs ++ [Value.int .u32 (r : Int)]) = (rs ++ [r]).map (fun x : Nat => Value.int .u32 (x : Int)) from by simp, show rs.length + 1 = (rs ++ [r]).length from by simp] at hown1
        have HO1 := hideIt hown1
        clear hown1 hgrow hnil hnb hgs
        have hnl : (l'.take n).length = n := by rw [List.length_take]; omega
        have htrim := trim_some g 0 cap (l'.take n) w3 (by omega) hcm (hrow3.out.seg.pre n)
        rw [hnl] at htrim
        refine htrim.mono ?_
        rintro e w4 ⟨rfl, hw4⟩
        have hw5 := hw4.symm; subst hw5; clear hw4 htrim
        have hsl := sig_le (l'.take n)
        have hst : l'.take (sig (l'.take n)) = strip (l'.take n) := by
          unfold strip; rw [List.take_take, Nat.min_eq_left (by omega)]
        have hvn : val (l'.take (sig (l'.take n))) = val (l.take n) / 1000000000 := by rw [hst, val_strip, K3.out]
        have HST := hideIt hst
        have HVN := hideIt hvn
        clear hst hvn
        generalize sig (l'.take n) = m at *
        go_wp2
        go_roundg (val (l.take n) / 1000000000)
        case measure =>
          have := hApos.out
          omega
        case rel =>
          refine ⟨l', m, rs ++ [r], rfl, by omega, by omega, hrow3.out, K2.out, by rw [HST.out]; exact strip_trim _, by rw [HVN.out]; exact Nat.le_refl _, ?_, ?_, ?_, HO1.out, hb3.out, hs3, ?_⟩
          · intro x hx
            rcases List.mem_append.1 hx with hx | hx
            · exact H4.out x hx
            · rw [List.mem_singleton.1 hx]; exact hr9
          · rw [HVN.out, K0.out]; exact rv_round H5.out
          · intro h0'
            right
            rw [HVN.out] at h0'
            rw [List.getLast?_concat]
            have := hApos.out
            have := K0.out
            intro e
            cases e
            omega
          · rw [List.length_append, List.length_singleton]
            have := hle2.out
            omega
end Go.Proofs.YtgajdmadbdbabaaGreatDoor
/- TF -/
namespace Go.Proofs.YtgajdmadbdbabaaGreatDoor
open Go.RowKit Cx Go.Sort
def Tab (w : World) : Prop := Lib.TabIs Tryz.prog w "internal/strconv.uint64pow10" .u64 Lib.pow10Tab
theorem Tab.below {w w' : World} (h : Tab w) (hb : Below w.heap.size w w') : Tab w' := by
  unfold Tab Lib.TabIs World.var? at *
  cases hg : (Tryz.prog).globalNamed "internal/strconv.uint64pow10" with
  | none => simp [hg] at h
  | some g =>
    simp only [hg, Option.bind_some] at h ⊢
    have hlt : g < w.heap.size := by
      rcases Nat.lt_or_ge g w.heap.size with h' | h'
      · exact h'
      · rw [Array.getElem?_eq_none h'] at h; simp at h
    rw [hb.block g hlt]
    exact h
theorem holds0 (w : World) (T : TypeId) (nd : Nat) (hs : nd ≤ 24) : Holds (fun (b : UInt8) => Value.int .u8 (b.toNat : Int)) (w.alloc (.cells Lib.zeros24 T)) w.heap.size 0 (Array.replicate nd (0 : UInt8)) := fun j hj => by
  have hj' : j < nd := by simpa using hj
  refine ⟨?_, World.frozen?_alloc_new _ _ _ _⟩
  rw [World.cell?_alloc_new, Lib.zeros24_at _ (by omega), getElem!_pos _ j hj]
  simp
theorem fmt_small (u : Nat) (hu : u < 100) (w : World) :
    Calls Tryz.prog 205 #[.int .u64 u, .int .i64 10] w fun e w' => e = .returned (.string ⟨(Lib.decDigits u).toArray⟩) ∧ Below w.heap.size w w' := by
  go_enter Tryz.func205, Tryz.ntmps205
  go_wp2_with fail
  refine (Tryz.internal_strconv_small u hu _).mono ?_
  rintro e w' ⟨rfl, hw⟩
  have hw2 := hw.symm; subst hw2; clear hw
  go_wp2
  go_ret
  exact ⟨rfl, Below.refl _ _⟩
theorem fmt_big (u : Nat) (hu : 100 ≤ u) (hu2 : u < 4294967296) (w : World) (ht : Tab w) :
    Calls Tryz.prog 205 #[.int .u64 u, .int .i64 10] w fun e w' => e = .returned (.string ⟨(Lib.decDigits u).toArray⟩) ∧ Below w.heap.size w w' := by
  have hu64 : u < 18446744073709551616 := by omega
  have hnd20 : Lib.nDigits u ≤ 20 := by have := Lib.numDigits_eq u (by omega) hu64; split at this <;> omega
  have hal : (Tryz.prog).arrayLen 237 = 24 := by simp [Program.arrayLen, Tryz.underlying237]
  have hsl1 : ∀ W, (Instr.sliceAt 237 (.pointer (some ⟨w.heap.size, 0, none⟩)) none (some (.int .i64 (Lib.nDigits u : Int))) none).run Tryz.prog W = .ok (.slice (some ⟨w.heap.size, 0, none⟩) (Lib.nDigits u) 24) W := fun W => by
    rw [run_sliceAt_array_h W 237 ⟨w.heap.size, 0, none⟩ (by simp [Program.arrayLen, Program.elem, Tryz.underlying237]) .i64 (Lib.nDigits u : Int) (by omega) (by rw [hal]; omega)]
    go_simp
  have hH0 := holds0 w 237 (Lib.nDigits u) (by omega)
  have hfmt := Tryz.internal_strconv_formatBase10 w.heap.size 0 24 u (Array.replicate (Lib.nDigits u) 0) (w.alloc (.cells Lib.zeros24 237)) hH0 (by rw [Array.size_replicate]; exact Lib.lt_pow_nDigits u) hu64 (by rw [Array.size_replicate]; omega)
  rw [Array.size_replicate] at hfmt
  have HH0 := hideIt hH0
  have HT := hideIt (Lib.tabIs_alloc ht (.cells Lib.zeros24 237))
  have HF := hideIt hfmt
  clear hH0 hal ht hfmt
  go_enter Tryz.func205, Tryz.ntmps205
  go_wp2_with fail
  refine (Tryz.internal_strconv_numDigits u (by omega) hu64 _ HT.out).mono ?_
  rintro e w' ⟨rfl, hw⟩
  have hw2 := hw.symm; subst hw2; clear hw
  go_wp2_with fail
  refine Calls.mono HF.out ?_
  rintro e w' ⟨rfl, k, v', dk, hw, hF⟩
  have hw2 := hw.symm; subst hw2; clear hw
  have hcv : (convert 176 9 (.slice (some ⟨w.heap.size, 0, none⟩) (Lib.nDigits u) 24)).run Tryz.prog ((putRow (fun (b : UInt8) => Value.int .u8 (b.toNat : Int)) (w.alloc (.cells Lib.zeros24 237)) w.heap.size 0 dk).drewN k) = .ok (.string ⟨(Lib.decDigits u).toArray⟩) ((putRow (fun (b : UInt8) => Value.int .u8 (b.toNat : Int)) (w.alloc (.cells Lib.zeros24 237)) w.heap.size 0 dk).drewN k) := by
    have h := run_convert_bytes_back (P := Tryz.prog) ((putRow (fun (b : UInt8) => Value.int .u8 (b.toNat : Int)) (w.alloc (.cells Lib.zeros24 237)) w.heap.size 0 dk).drewN k) 176 9 5 ⟨w.heap.size, 0, none⟩ 24 (Lib.decDigits u) Tryz.underlying176 Tryz.underlying5 Tryz.underlying9 (fun j hj => by
      rw [Lib.row_is_numeral hF j hj, Lib.add_plain, World.cell?_drewN]
      exact cell?_putRow (fun (b : UInt8) => Value.int .u8 (b.toNat : Int)) _ w.heap.size 0 _ dk HH0.out (by rw [hF.size, Array.size_replicate]) j (by rw [hF.size]; rw [Lib.decDigits_length] at hj; exact hj))
    rw [Lib.decDigits_length] at h
    exact h
  go_wp2
  go_ret
  refine ⟨rfl, ?_⟩
  obtain ⟨os, _, e⟩ := putRow_grow_new (fun (b : UInt8) => Value.int .u8 (b.toNat : Int)) w #[.cells Lib.zeros24 237] w.heap.size 0 dk (Nat.le_refl _)
  rw [alloc_eq_grow, e]
  refine belowDrewN ?_ k
  refine ⟨rfl, rfl, rfl, ?_, ?_⟩
  · simp [grow]
  · intro i hi
    simp [grow, Array.getElem?_append_left hi]
theorem fmt_calls (u : Nat) (hu : u < 4294967296) (w : World) (ht : Tab w) :
    Calls Tryz.prog 163 #[.int .u64 u, .int .i64 10] w fun e w' => e = .returned (.string ⟨(Lib.decDigits u).toArray⟩) ∧ Below w.heap.size w w' := by
  have h : Calls Tryz.prog 205 #[.int .u64 u, .int .i64 10] w fun e w' => e = .returned (.string ⟨(Lib.decDigits u).toArray⟩) ∧ Below w.heap.size w w' := by
    rcases Nat.lt_or_ge u 100 with h | h
    · exact fmt_small u h w
    · exact fmt_big u h hu w ht
  have H := hideIt h
  clear h ht
  go_enter Tryz.func163, Tryz.ntmps163
  go_wp2_with fail
  refine Calls.mono H.out ?_
  rintro e w' ⟨rfl, hb⟩
  go_wp2
  go_ret
  exact ⟨rfl, hb⟩
def Bld (B b : Nat) (l : List UInt8) (w : World) : Prop := Lib.IsBuilderF 178 5 B b (Lib.byteCells l) w
theorem bld_write (B b : Nat) (l : List UInt8) (s : ByteArray) (w : World) (h : Bld B b l w) (hlen : l.length + s.size ≤ 140737488355328) (hBw : B ≤ w.heap.size) :
    Calls Tryz.prog 164 #[.pointer (some ⟨b, 0, none⟩), .string s] w fun e w' => e = .returned (.tuple #[.int .i64 s.size, .nilIface]) ∧ Bld B b (l ++ s.data.toList) w' ∧ Below B w w' := by
  refine (Any.Builder_WriteString_k { Tryz.lays105 with } Tryz.Builder_Extra_105 B b (Lib.byteCells l) s w h (by rw [Lib.byteCells_length]; exact hlen) hBw).mono ?_
  rintro e w' ⟨rfl, h1, h2, _⟩
  refine ⟨rfl, Or.inr ?_, h2⟩
  have e1 : Lib.byteCells l ++ Lib.strCells s = Lib.byteCells (l ++ s.data.toList) := by rw [Lib.strCells_eq]; simp [Lib.byteCells]
  rw [e1] at h1
  exact h1
theorem bld_string (B b : Nat) (l : List UInt8) (w : World) (h : Bld B b l w) (hBw : B ≤ w.heap.size) :
    Calls Tryz.prog 166 #[.pointer (some ⟨b, 0, none⟩)] w fun e w' => e = .returned (.string ⟨l.toArray⟩) ∧ Below B w w' := by
  refine (Tryz.Builder_String_any_f B b l w h hBw).mono ?_
  rintro e w' ⟨rfl, _, h2⟩
  exact ⟨rfl, h2⟩
theorem bld_new (w : World) : Bld w.heap.size w.heap.size [] (w.alloc (.cells #[.pointer none, .slice none 0 0] 178)) := by
  refine Or.inl ⟨Nat.le_refl _, .slice none 0 0, ?_, ⟨rfl, Or.inl ⟨rfl, rfl⟩⟩, ?_⟩
  · show (w.heap.push _)[w.heap.size]? = _
    simp
  · simp [Value.ownBlock]
theorem Bld.below {B b : Nat} {l : List UInt8} {w w' : World} (h : Bld B b l w) (hb : Below w.heap.size w w') : Bld B b l w' := by
  have one : ∀ p, Lib.BuilderAtF 178 5 B b p (Lib.byteCells l) w → Lib.BuilderAtF 178 5 B b p (Lib.byteCells l) w' := by
    rintro p ⟨h1, v, h2, h3, h4⟩
    have lt : ∀ {g : Nat} {o : Obj}, w.heap[g]? = some o → g < w.heap.size := by
      intro g o e
      by_cases e' : g < w.heap.size
      · exact e'
      · rw [Array.getElem?_eq_none (by omega)] at e; cases e
    refine ⟨h1, v, by rw [hb.block b (lt h2), h2], ⟨h3.1, ?_⟩, h4⟩
    rcases h3.2 with h | ⟨g', cap, cur, fz, rfl, h5, h6, h7⟩
    · exact Or.inl h
    · exact Or.inr ⟨g', cap, cur, fz, rfl, h5, by rw [hb.block g' (lt h6), h6], h7⟩
  rcases h with h | h
  · exact Or.inl (one _ h)
  · exact Or.inr (one _ h)
end Go.Proofs.YtgajdmadbdbabaaGreatDoor
/- TG -/
namespace Go.Proofs.YtgajdmadbdbabaaGreatDoor
open Go.RowKit Cx
def bytesFrom (rs : List Nat) (k : Nat) : List UInt8 := if k = rs.length then [] else Lib.decDigits (rv (rs.drop k))
theorem rv_pos {rs : List Nat} (h : Runs rs) {k : Nat} (hk : k < rs.length) : 0 < rv (rs.drop k) := by
  have h1 : rs.drop k ≠ [] := by
    intro e
    have := congrArg List.length e
    rw [List.length_drop] at this
    simp at this
    omega
  obtain ⟨a, x, e⟩ : ∃ a x, rs.drop k = a ++ [x] := ⟨_, _, (List.dropLast_concat_getLast h1).symm⟩
  have hx : rs.getLast? = some x := by
    have e2 : rs = rs.take k ++ (a ++ [x]) := by rw [← e, List.take_append_drop]
    rw [e2, ← List.append_assoc, List.getLast?_concat]
  have hx0 : x ≠ 0 := by
    intro e0
    rcases h.top with h2 | h2
    · rw [h2] at hk; simp at hk
    · exact h2 (by rw [hx, e0])
  rw [e, rv_snoc]
  have : 0 < 1000000000 ^ a.length * x := Nat.mul_pos (Nat.pow_pos (by decide)) (Nat.pos_of_ne_zero hx0)
  omega
theorem runs_lt {rs : List Nat} (h : Runs rs) {m : Nat} (hm : m < rs.length) : nth rs m < 1000000000 := by
  rw [nth_get hm]; exact h.lt _ (List.getElem_mem hm)
theorem nd9 {x : Nat} (h : x < 1000000000) : Lib.nDigits x ≤ 9 := by
  rcases Nat.lt_or_ge 9 (Lib.nDigits x) with h9 | h9
  · have h1 : ∀ (k u : Nat), k < Lib.nDigits u → 10 ^ k ≤ u ∨ u = 0 ∨ k = 0 := by
      intro k
      induction k with
      | zero => intro u _; exact Or.inr (Or.inr rfl)
      | succ k ih =>
        intro u hu
        by_cases h10 : u < 10
        · rw [Lib.nDigits_small h10] at hu; omega
        · rw [Lib.nDigits_big h10] at hu
          rcases ih (u / 10) (by omega) with h | h | h
          · left; rw [Nat.pow_succ]; omega
          · omega
          · subst h; left; omega
    rcases h1 9 x h9 with h | h | h
    · omega
    · subst h; rw [Lib.nDigits_small (by decide)] at h9; omega
    · omega
  · exact h9
theorem bytes_first {rs : List Nat} {m : Nat} (hm : m + 1 = rs.length) : bytesFrom rs (m + 1) ++ Lib.decDigits (nth rs m) = bytesFrom rs m := by
  unfold bytesFrom
  rw [if_pos hm, if_neg (by omega), List.nil_append]
  have e : rs.drop m = [nth rs m] := by
    rw [List.drop_eq_getElem_cons (by omega), nth_get (by omega)]
    rw [List.drop_eq_nil_of_le (by omega)]
  rw [e]
  simp [rv]
theorem bytes_next {rs : List Nat} (h : Runs rs) {m : Nat} (hm : m + 1 < rs.length) : bytesFrom rs (m + 1) ++ List.replicate (9 - Lib.nDigits (nth rs m)) 48 ++ Lib.decDigits (nth rs m) = bytesFrom rs m := by
  unfold bytesFrom
  rw [if_neg (by omega), if_neg (by omega)]
  have e : rs.drop m = nth rs m :: rs.drop (m + 1) := by
    rw [List.drop_eq_getElem_cons (by omega), nth_get (by omega)]
  have h9 := runs_lt h (m := m) (by omega)
  have := dec_pad 9 (rv (rs.drop (m + 1))) (nth rs m) (rv_pos h hm) h9
  rw [e, rv, this, padk_dec 9 _ (nd9 h9), Lib.decDigits_length, List.append_assoc]
theorem repeat_zero (c : Nat) : (Lib.repeatL [48] c) = List.replicate c 48 := by
  induction c with
  | zero => rfl
  | succ c ih => rw [Lib.repeatL, ih, List.replicate_succ]; rfl
theorem natText_walk {w : World} {v : Value} {l0 : List Nat} (h : NatV w v l0) (ht : Trim l0) (hl : l0.length ≤ 1099511627770) (tab : Tab w) :
    Calls Tryz.prog 124 #[v] w fun e w' => Below w.heap.size w w' ∧ ∃ s : ByteArray, e = .returned (.string s) ∧ s.data.toList = Lib.decDigits (val l0) := by
  have HV := hideIt h
  have HT := hideIt ht
  have HTAB := hideIt tab
  clear h ht tab
  go_enter Tryz.func124, Tryz.ntmps124
  go_wp2_with fail
  refine (runs_walk HV.out HT.out hl).mono ?_
  rintro e w1 ⟨hb1, v', rs, rfl, hrs, hruns, hval, hlen⟩
  have htab1 := hideIt (HTAB.out.below hb1)
  have HR := hideIt hruns
  have HVAL := hideIt hval
  have HB1 := hideIt hb1
  have HRS := hideIt hrs
  have hvs : ∃ ao cap, v' = .slice ao rs.length cap := by
    obtain ⟨_, ⟨rfl, ao, cap, rfl⟩ | ⟨b, off, cap, rfl, _⟩⟩ := hrs
    · exact ⟨ao, cap, rfl⟩
    · exact ⟨_, cap, rfl⟩
  obtain ⟨ao, cap, rfl⟩ := hvs
  clear hrs hruns hval hb1 HTAB
  by_cases h0 : rs.length = 0
  · rw [h0]
    go_wp2
    go_ret
    have : rs = [] := List.length_eq_zero_iff.1 h0
    subst this
    refine ⟨HB1.out, _, rfl, ?_⟩
    rw [← HVAL.out, show rv [] = 0 from rfl, dec_small (by decide)]
    rfl
  · have hne : ((rs.length : Int) == 0) = false := by rw [beq_eq_false_iff_ne]; omega
    have hbN := hideIt (bld_new w1)
    obtain ⟨ao', cap', b1, o1, e, hsl⟩ := HRS.out.sl Tryz.underlying81 Tryz.sizeOf168
    cases e
    have HSL := hideIt hsl
    clear hsl
    go_wp2
    go_loopw [5] (fun i wr => ∃ k : Nat, k ≤ rs.length ∧ i = .int .i64 ((k : Int) - 1) ∧ Bld w1.heap.size w1.heap.size (bytesFrom rs k) wr ∧ (bytesFrom rs k).length ≤ 9 * (rs.length - k) ∧ Below w1.heap.size w1 wr) (fun i _ => (intOf i + 1).toNat)
    case atStart =>
      refine ⟨rs.length, Nat.le_refl _, rfl, ?_, ?_, below_new _ _⟩
      · unfold bytesFrom; rw [if_pos rfl]; exact hbN.out
      · unfold bytesFrom; rw [if_pos rfl]; simp
    case round =>
      obtain ⟨k, hk, rfl, hbld, hbl, hbel⟩ := hrel
      have HBLD := hideIt hbld
      have hsz := hideIt hbel.size
      clear hbld
      by_cases hk0 : k = 0
      · subst hk0
        go_wp2_with fail
        refine (bld_string _ _ _ _ HBLD.out hsz.out).mono ?_
        rintro e w5 ⟨rfl, hb5⟩
        go_wp2
        go_ret
        refine ⟨HB1.out.trans ((hbel.trans hb5).mono HB1.out.size), _, rfl, ?_⟩
        unfold bytesFrom
        rw [if_neg (by omega), List.drop_zero, HVAL.out]
      · obtain ⟨m, rfl⟩ : ∃ m, k = m + 1 := ⟨k - 1, by omega⟩
        rw [show (((m + 1 : Nat) : Int) - 1) = (m : Int) from by omega]
        have hia := HSL.out.idx m (by omega)
        have hca := (hbel.cell (p := ⟨b1, o1 + m, none⟩) (HSL.out.lt (by omega))).trans (HSL.out.seg m (by omega))
        have hx9 := runs_lt HR.out (m := m) (by omega)
        have hd9 := nd9 hx9
        have HN1 := hideIt (fun h => bytes_first (rs := rs) (m := m) h)
        have HN2 := hideIt (fun h => bytes_next HR.out (m := m) h)
        generalize nth rs m = x at *
        go_wp2_with fail
        refine (fmt_calls x (by omega) _ (htab1.out.below hbel)).mono ?_
        rintro e w2 ⟨rfl, hb2⟩
        have hts : (⟨(Lib.decDigits x).toArray⟩ : ByteArray).size = Lib.nDigits x := by
          show (Lib.decDigits x).toArray.size = _
          rw [List.size_toArray, Lib.decDigits_length]
        obtain ⟨t, ht, htl, hts⟩ : ∃ t : ByteArray, (⟨(Lib.decDigits x).toArray⟩ : ByteArray) = t ∧ Hid (t.data.toList = Lib.decDigits x) ∧ t.size = Lib.nDigits x := ⟨_, rfl, rfl, hts⟩
        rw [ht]
        clear ht
        have hbel2 := hbel.trans (hb2.mono hsz.out)
        have HBLD2 := hideIt (HBLD.out.below hb2)
        have hsz2 := hideIt hbel2.size
        by_cases hlast : m + 1 = rs.length
        · have hcond : ¬ (m : Int) < (rs.length : Int) - 1 := by omega
          go_wp2_with fail
          refine (bld_write _ _ _ t _ HBLD2.out (by omega) hsz2.out).mono ?_
          rintro e w3 ⟨rfl, hbld3, hb3⟩
          have HBLD3 := hideIt hbld3
          clear hbld3
          go_wp2
          go_roundw
          case rel =>
            have e := HN1.out hlast
            refine ⟨m, by omega, by go_num, ?_, ?_, hbel2.trans hb3⟩
            · rw [← e, ← htl.out]; exact HBLD3.out
            · rw [← e, List.length_append, Lib.decDigits_length]; omega
          case measure => simp [intOf]
        · have hcond : (m : Int) < (rs.length : Int) - 1 := by omega
          have hd : (9 : Int) - (Lib.nDigits x : Nat) = ((9 - Lib.nDigits x : Nat) : Int) := by omega
          have hzs : (⟨(Lib.repeatL (⟨#[48]⟩ : ByteArray).data.toList (9 - Lib.nDigits x)).toArray⟩ : ByteArray).size = 9 - Lib.nDigits x := by
            show (Lib.repeatL [48] (9 - Lib.nDigits x)).toArray.size = _
            rw [List.size_toArray, repeat_zero, List.length_replicate]
          go_wp2_with fail
          refine (Tryz.strings_Repeat ⟨#[48]⟩ (9 - Lib.nDigits x) w2 (by omega) (by
            show 1 * (9 - Lib.nDigits x) ≤ 140737488355328
            omega)).mono ?_
          rintro e w3 ⟨rfl, hb3⟩
          obtain ⟨z, hz, hzl, hzs⟩ : ∃ z : ByteArray, (⟨(Lib.repeatL (⟨#[48]⟩ : ByteArray).data.toList (9 - Lib.nDigits x)).toArray⟩ : ByteArray) = z ∧ Hid (z.data.toList = List.replicate (9 - Lib.nDigits x) 48) ∧ z.size = 9 - Lib.nDigits x := ⟨_, rfl, repeat_zero _, hzs⟩
          rw [hz]
          clear hz
          have hbel3 := hbel2.trans (hb3.mono hsz2.out)
          have HBLD3 := hideIt (HBLD2.out.below hb3)
          have hsz3 := hideIt hbel3.size
          go_wp2_with fail
          refine (bld_write _ _ _ z _ HBLD3.out (by omega) hsz3.out).mono ?_
          rintro e w4 ⟨rfl, hbld4, hb4⟩
          have HBLD4 := hideIt hbld4
          clear hbld4
          have hbel4 := hbel3.trans hb4
          have hsz4 := hideIt hbel4.size
          go_wp2_with fail
          refine (bld_write _ _ _ t _ HBLD4.out (by rw [List.length_append, hzl.out, List.length_replicate]; omega) hsz4.out).mono ?_
          rintro e w5 ⟨rfl, hbld5, hb5⟩
          have HBLD5 := hideIt hbld5
          clear hbld5
          go_wp2
          go_roundw
          case rel =>
            have e := HN2.out (by omega)
            refine ⟨m, by omega, by go_num, ?_, ?_, hbel4.trans hb5⟩
            · rw [← e, ← htl.out, ← hzl.out]; exact HBLD5.out
            · rw [← e, List.length_append, List.length_append, Lib.decDigits_length, List.length_replicate]; omega
          case measure => simp [intOf]
theorem natText_calls {w : World} {v : Value} {n : Nat} (h : NatN w v n) (hs : Small n) (tab : Tab w) :
    Calls Tryz.prog 124 #[v] w fun e w' => Below w.heap.size w w' ∧ ∃ s : ByteArray, e = .returned (.string s) ∧ s.data.toList = Lib.decDigits n := by
  obtain ⟨l, hl, ht, rfl⟩ := h
  exact natText_walk hl ht (hs.len0 ht) tab
end Go.Proofs.YtgajdmadbdbabaaGreatDoor
/- TH -/
namespace Go.Proofs.YtgajdmadbdbabaaGreatDoor
open Go.RowKit Cx
attribute [local go_sem ↓] Go.wp_at_zero Go.wp_at_succ
theorem text_walk {w : World} {c : C3} {q : Rat} (h : QV w (.agg #[.bool c.n, .slice c.u c.nu c.cu, .slice c.l c.nl c.cl]) q) {k : Nat} (f : QS k q) (hk : k ≤ 35184372088640) (tab : Tab w) :
    Calls Tryz.prog 78 #[.agg #[.bool c.n, .slice c.u c.nu c.cu, .slice c.l c.nl c.cl]] w fun e w' => Below w.heap.size w w' ∧ ∃ s : ByteArray, e = .returned (.string s) ∧ s.data.toList = tx q := by
  obtain ⟨hb0, hk0, hsz⟩ := boxes1 w #[.bool c.n, .slice c.u c.nu c.cu, .slice c.l c.nl c.cl] 84
  have HB0 := hideIt hb0
  have HSZ := hideIt hsz
  have HK0 := hideIt hk0
  have HTAB := hideIt (tab.below hb0)
  have SU := hideIt (small_two f.num hk)
  have SL := hideIt (small_two f.den hk)
  have N1 := hideIt (nDigits_two f.num)
  have N2 := hideIt (nDigits_two f.den)
  obtain ⟨vu, vl, e, h1, h2⟩ := h
  have H1 := hideIt (h1.below hb0)
  have H2 := hideIt (h2.below hb0)
  obtain ⟨a2, n2, c2, e2, _, _, hz⟩ := len_big h2
  have hn : c.n = decide (q.num < 0) ∧ vu = .slice c.u c.nu c.cu ∧ vl = .slice c.l c.nl c.cl := by
    simp only [Value.agg.injEq, Array.mk.injEq, List.cons.injEq, Value.bool.injEq, and_true] at e
    exact ⟨e.1, e.2.1.symm, e.2.2.symm⟩
  obtain ⟨hn, rfl, rfl⟩ := hn
  cases e2
  clear e hb0 hsz hk0 tab f h1 h2
  obtain ⟨z0, z1, z2, _, _, _⟩ := HK0.out.all3
  have HN := hideIt hn
  have hlow : Hid (c.nl = 0 ↔ q.den = 1) := by
    show _ ↔ _
    rw [hz]
    split
    · rename_i h; simp [h]
    · rename_i h; have := q.den_nz; simp [h, this]
  clear hz hn
  go_enter Tryz.func78, Tryz.ntmps78
  go_wp2_with fail
  generalize (w.alloc (.cells #[.bool c.n, .slice c.u c.nu c.cu, .slice c.l c.nl c.cl] 84)) = W0 at *
  refine (natText_calls H1.out SU.out HTAB.out).mono ?_
  rintro e w1 ⟨hb1, s1, rfl, hs1⟩
  have hl1 : s1.size ≤ k + 1 := by
    have h := congrArg List.length hs1
    rw [Lib.decDigits_length] at h
    have h' : s1.size = s1.data.toList.length := by simp
    have := N1.out
    omega
  have HS1 := hideIt hs1
  clear hs1
  have hk1 := HK0.out.below hb1 (by rw [HSZ.out]; omega)
  obtain ⟨y0, y1, y2, _, _, _⟩ := hk1.all3
  have hcn : c.n = true ∨ c.n = false := by cases c.n <;> simp
  have hcl : c.nl = 0 ∨ ((c.nl : Int) != 0) = true := by
    rcases Nat.eq_zero_or_pos c.nl with h | h
    · exact Or.inl h
    · right; simp; omega
  rcases hcn with hcn | hcn
  · have hq : Hid (q.num < 0) := by have h := HN.out; rw [hcn] at h; show q.num < 0; exact of_decide_eq_true h.symm
    rw [hcn] at y0
    rcases hcl with hcl | hcl
    · have hd : Hid (q.den = 1) := hlow.out.1 hcl
      rw [hcl] at y2
      go_wp2
      go_ret
      refine ⟨HB0.out.trans (hb1.mono HB0.out.size), _, rfl, ?_⟩
      unfold tx
      rw [if_pos hq.out, if_pos hd.out, List.append_nil, ← HS1.out]
      simp
    · have hd : Hid (¬ q.den = 1) := fun e => by have := hlow.out.2 e; rw [this] at hcl; simp at hcl
      have h2 := H2.out
      rw [if_neg hd.out] at h2
      have H2' := hideIt h2
      clear h2
      go_wp2_with fail
      refine (natText_calls (H2'.out.below hb1) SL.out (HTAB.out.below hb1)).mono ?_
      rintro e w2 ⟨hb2, s2, rfl, hs2⟩
      have hl2 : s2.size ≤ k + 1 := by
        have h := congrArg List.length hs2
        rw [Lib.decDigits_length] at h
        have h' : s2.size = s2.data.toList.length := by simp
        have := N2.out
        omega
      have HS2 := hideIt hs2
      clear hs2
      go_wp2
      go_ret
      refine ⟨HB0.out.trans ((hb1.trans (hb2.mono hb1.size)).mono HB0.out.size), _, rfl, ?_⟩
      unfold tx
      rw [if_pos hq.out, if_neg hd.out, ← HS1.out, ← HS2.out]
      simp
  · have hq : Hid (¬ q.num < 0) := by have h := HN.out; rw [hcn] at h; show ¬ q.num < 0; exact of_decide_eq_false h.symm
    rw [hcn] at y0
    rcases hcl with hcl | hcl
    · have hd : Hid (q.den = 1) := hlow.out.1 hcl
      rw [hcl] at y2
      go_wp2
      go_ret
      refine ⟨HB0.out.trans (hb1.mono HB0.out.size), _, rfl, ?_⟩
      unfold tx
      rw [if_neg (Int.not_lt.2 hq.out), if_pos hd.out, List.append_nil, ← HS1.out]
      rfl
    · have hd : Hid (¬ q.den = 1) := fun e => by have := hlow.out.2 e; rw [this] at hcl; simp at hcl
      have h2 := H2.out
      rw [if_neg hd.out] at h2
      have H2' := hideIt h2
      clear h2
      go_wp2_with fail
      refine (natText_calls (H2'.out.below hb1) SL.out (HTAB.out.below hb1)).mono ?_
      rintro e w2 ⟨hb2, s2, rfl, hs2⟩
      have hl2 : s2.size ≤ k + 1 := by
        have h := congrArg List.length hs2
        rw [Lib.decDigits_length] at h
        have h' : s2.size = s2.data.toList.length := by simp
        have := N2.out
        omega
      have HS2 := hideIt hs2
      clear hs2
      go_wp2
      go_ret
      refine ⟨HB0.out.trans ((hb1.trans (hb2.mono hb1.size)).mono HB0.out.size), _, rfl, ?_⟩
      unfold tx
      rw [if_neg (Int.not_lt.2 hq.out), if_neg hd.out, ← HS1.out, ← HS2.out]
      simp
theorem text_calls {w : World} {v : Value} {q : Rat} (h : QV w v q) {k : Nat} (f : QS k q) (hk : k ≤ 35184372088640) (tab : Tab w) :
    Calls Tryz.prog 78 #[v] w fun e w' => Below w.heap.size w w' ∧ ∃ s : ByteArray, e = .returned (.string s) ∧ s.data.toList = tx q := by
  obtain ⟨c, rfl⟩ := qv_open h
  exact text_walk h f hk tab
end Go.Proofs.YtgajdmadbdbabaaGreatDoor
/- WG -/
namespace Go.Proofs.YtgajdmadbdbabaaGreatDoor
open Go.RowKit Cx
attribute [local go_sem ↓] Go.wp_at_zero Go.wp_at_succ
theorem sg_zero {q : Rat} : (q.num = 0) ↔ q = 0 := Rat.num_eq_zero
theorem nowhere_walk {w : World} {c d : C3} {x y : Rat} (hx : QV w (.agg #[.bool c.n, .slice c.u c.nu c.cu, .slice c.l c.nl c.cl]) x) (hy : QV w (.agg #[.bool d.n, .slice d.u d.nu d.cu, .slice d.l d.nl d.cl]) y) :
    Calls Tryz.prog 105 #[.agg #[.bool c.n, .slice c.u c.nu c.cu, .slice c.l c.nl c.cl, .bool d.n, .slice d.u d.nu d.cu, .slice d.l d.nl d.cl]] w fun e w' => Below w.heap.size w w' ∧ e = .returned (.bool (decide (x = 0 ∧ y = 0))) := by
  obtain ⟨hb0, hk0, hsz⟩ := boxes1 w #[.bool c.n, .slice c.u c.nu c.cu, .slice c.l c.nl c.cl, .bool d.n, .slice d.u d.nu d.cu, .slice d.l d.nl d.cl] 86
  have HB0 := hideIt hb0
  have HSZ := hideIt hsz
  have HK0 := hideIt hk0
  have HX := hideIt (hx.below hb0)
  have HY := hideIt (hy.below hb0)
  clear hb0 hsz hk0 hx hy
  obtain ⟨r, hr⟩ : ∃ r, r = decide (x = 0 ∧ y = 0) := ⟨_, rfl⟩
  rw [← hr]
  have HRR := hideIt hr
  clear hr
  go_enter Tryz.func105, Tryz.ntmps105
  go_wp2_with fail
  generalize (w.alloc (.cells #[.bool c.n, .slice c.u c.nu c.cu, .slice c.l c.nl c.cl, .bool d.n, .slice d.u d.nu d.cu, .slice d.l d.nl d.cl] 86)) = W0 at *
  refine (sign_calls HX.out).mono ?_
  rintro e w1 ⟨hb1, rfl⟩
  have hk1 := HK0.out.below hb1 (by rw [HSZ.out]; omega)
  obtain ⟨y0, y1, y2, y3, y4, y5, _⟩ := hk1.all6
  by_cases h1 : x = 0
  · rw [if_pos (sg_zero.2 h1)]
    have HX1 := hideIt h1
    clear h1
    go_wp2_with fail
    refine (sign_calls (HY.out.below hb1)).mono ?_
    rintro e w2 ⟨hb2, rfl⟩
    by_cases h2 : y = 0
    · rw [if_pos (sg_zero.2 h2)]
      have HX2 := hideIt h2
      clear h2
      go_wp2
      go_ret
      exact ⟨HB0.out.trans ((hb1.trans (hb2.mono hb1.size)).mono HB0.out.size), by rw [HRR.out, decide_eq_true (And.intro HX1.out HX2.out)]; rfl⟩
    · rw [if_neg (fun h => h2 (sg_zero.1 h))]
      have hne : ((if y.num < 0 then (-1 : Int) else 1) == 0) = false := by split <;> rfl
      generalize (if y.num < 0 then (-1 : Int) else 1) = z at *
      have HX2 := hideIt h2
      clear h2
      go_wp2
      go_ret
      exact ⟨HB0.out.trans ((hb1.trans (hb2.mono hb1.size)).mono HB0.out.size), by rw [HRR.out, decide_eq_false (fun h => HX2.out h.2)]; rfl⟩
  · rw [if_neg (fun h => h1 (sg_zero.1 h))]
    have hne : ((if x.num < 0 then (-1 : Int) else 1) == 0) = false := by split <;> rfl
    generalize (if x.num < 0 then (-1 : Int) else 1) = z at *
    have HX1 := hideIt h1
    clear h1
    go_wp2
    go_ret
    exact ⟨HB0.out.trans (hb1.mono HB0.out.size), by rw [HRR.out, decide_eq_false (fun h => HX1.out h.1)]; rfl⟩
theorem nowhere_calls {w : World} {v : Value} {x y : Rat} (h : WV w v x y) :
    Calls Tryz.prog 105 #[v] w fun e w' => Below w.heap.size w w' ∧ e = .returned (.bool (decide (x = 0 ∧ y = 0))) := by
  obtain ⟨c, d, rfl, h1, h2⟩ := h
  exact nowhere_walk h1 h2
theorem fr_nat (n : Nat) (hl : (1 : Nat) ≠ 0) (hc : Nat.Coprime n 1) : fr false n 1 hl hc = (n : Rat) := by
  have := fr_eq (neg := false) (u := n) (l := 1) (hl := hl) (hc := hc) (n := (n : Int)) (d := 1) (by decide) (by simp [sg])
  rw [this, Rat.mkRat_one]
  rfl
theorem int_calls (n : Nat) (hn : n < 9223372036854775808) (w : World) :
    Calls Tryz.prog 76 #[.int .i64 n] w fun e w' => Below w.heap.size w w' ∧ ∃ v, e = .returned v ∧ QV w' v (n : Rat) := by
  obtain ⟨hb0, hk0, hsz⟩ := boxes1 w #[.bool false, .slice none 0 0, .slice none 0 0] 84
  have HB0 := hideIt hb0
  have HSZ := hideIt hsz
  have HK0 := hideIt hk0
  clear hb0 hsz hk0
  go_enter Tryz.func76, Tryz.ntmps76
  go_wp2_with fail
  generalize (w.alloc (.cells #[.bool false, .slice none 0 0, .slice none 0 0] 84)) = W0 at *
  refine (natOf_calls n W0 (by omega)).mono ?_
  rintro e w1 ⟨hb1, v1, rfl, hv1⟩
  go_wp2_with fail
  refine (one_calls w1).mono ?_
  rintro e w2 ⟨hb2, v2, rfl, hv2⟩
  go_wp2_with fail
  refine (ready_calls (neg := false) (hv1.below hb2) hv2 (by decide) (Nat.coprime_one_right n)).mono ?_
  rintro e w3 ⟨hb3, v3, rfl, hv3⟩
  rw [fr_nat] at hv3
  obtain ⟨d3, rfl⟩ := qv_open hv3
  have hbl2 := hb1.trans (hb2.mono hb1.size)
  have hbl3 := hbl2.trans (hb3.mono hbl2.size)
  have hkr := HK0.out.below hbl3 (by rw [HSZ.out]; omega)
  obtain ⟨r0, r1, r2, f0, f1, f2⟩ := hkr.all3
  have HV := hideIt hv3
  clear hv1 hv2 hv3
  go_wp2
  obtain ⟨k0, k1, k2, _, _, _⟩ := (hkr.put3 (.bool d3.n) (.slice d3.u d3.nu d3.cu) (.slice d3.l d3.nl d3.cl)).all3
  refine bodyPost_ret (v := .agg #[.bool d3.n, .slice d3.u d3.nu d3.cu, .slice d3.l d3.nl d3.cl]) (by simp [results, Tryz.results76, go_sem, k0, k1, k2]) rfl ⟨Below.put3 (HB0.out.trans (hbl3.mono HB0.out.size)) (by omega) _ _ _, _, rfl, ?_⟩
  exact (Stays.put3 hkr (by simp [notLimb]) (.bool d3.n) (.slice d3.u d3.nu d3.cu) (.slice d3.l d3.nl d3.cl) rfl rfl rfl).qv HV.out
def PV (v : Value) (lx ly : List UInt8) : Prop := ∃ a b : ByteArray, v = .agg #[.string a, .string b] ∧ a.data.toList = lx ∧ b.data.toList = ly
def TV (v : Value) (lx ly lz : List UInt8) : Prop := ∃ a b c : ByteArray, v = .agg #[.string a, .string b, .string c] ∧ a.data.toList = lx ∧ b.data.toList = ly ∧ c.data.toList = lz
theorem wayRead_walk {w : World} {px pz : ByteArray} (s1 : px.size ≤ 4294967296) (s2 : pz.size ≤ 4294967296) :
    Calls Tryz.prog 62 #[.agg #[.string px, .string pz]] w fun e w' => Below w.heap.size w w' ∧ ∃ v, e = .returned v ∧ WV w' v (rd px.data.toList) (rd pz.data.toList) := by
  obtain ⟨hb0, hk0, hk1, hsz⟩ := boxes2 w #[.string px, .string pz] #[.bool false, .slice none 0 0, .slice none 0 0, .bool false, .slice none 0 0, .slice none 0 0] 24 86
  have HB0 := hideIt hb0
  have HSZ := hideIt hsz
  have HK0 := hideIt hk0
  have HK1 := hideIt hk1
  have S1 := hideIt s1
  have S2 := hideIt s2
  clear hb0 hsz hk0 hk1  s1 s2
  go_enter Tryz.func62, Tryz.ntmps62
  go_wp2_with fail
  generalize ((w.alloc (.cells #[.string px, .string pz] 24)).alloc (.cells #[.bool false, .slice none 0 0, .slice none 0 0, .bool false, .slice none 0 0, .slice none 0 0] 86)) = W0 at *
  have HS : Hid (∀ w', Below W0.heap.size W0 w' → w'.cell? ⟨w.heap.size, 0, none⟩ = some (.string px) ∧ w'.cell? ⟨w.heap.size, 1, none⟩ = some (.string pz)) := fun w' hb => ⟨(HK0.out.below hb (by rw [HSZ.out]; omega)).cell 0, (HK0.out.below hb (by rw [HSZ.out]; omega)).cell 1⟩
  have HSS : Hid (∀ w', Below W0.heap.size W0 w' → ∀ x0 x1 x2 x3 x4 x5 : Value, ((((((w'.setCell ⟨w.heap.size + 1, 0, none⟩ (x0)).setCell ⟨w.heap.size + 1, 1, none⟩ (x1)).setCell ⟨w.heap.size + 1, 2, none⟩ (x2)).setCell ⟨w.heap.size + 1, 3, none⟩ (x3)).setCell ⟨w.heap.size + 1, 4, none⟩ (x4)).setCell ⟨w.heap.size + 1, 5, none⟩ (x5)).cell? ⟨w.heap.size, 0, none⟩ = some (.string px) ∧ ((((((w'.setCell ⟨w.heap.size + 1, 0, none⟩ (x0)).setCell ⟨w.heap.size + 1, 1, none⟩ (x1)).setCell ⟨w.heap.size + 1, 2, none⟩ (x2)).setCell ⟨w.heap.size + 1, 3, none⟩ (x3)).setCell ⟨w.heap.size + 1, 4, none⟩ (x4)).setCell ⟨w.heap.size + 1, 5, none⟩ (x5)).cell? ⟨w.heap.size, 1, none⟩ = some (.string pz)) := fun w' hb x0 x1 x2 x3 x4 x5 => ⟨((HK0.out.below hb (by rw [HSZ.out]; omega)).off6 (g := w.heap.size + 1) (by omega) x0 x1 x2 x3 x4 x5).cell 0, ((HK0.out.below hb (by rw [HSZ.out]; omega)).off6 (g := w.heap.size + 1) (by omega) x0 x1 x2 x3 x4 x5).cell 1⟩
  obtain ⟨z0, z1⟩ := HS.out W0 (Below.refl _ _)
  go_region_held3 (fun w' => w'.cell? ⟨w.heap.size, 0, none⟩ = some (.string px) ∧ w'.cell? ⟨w.heap.size, 1, none⟩ = some (.string pz)) (first | go_keep | exact hs1 | exact hs2 | exact hkS)
    (first
      | (go_at_call_of 69 (Value.string px); refine (read_calls (w := W0.drew) px S1.out).mono ?_; rintro e w1 ⟨hb1, v1, rfl, hv1⟩; have hbl1 : Below W0.heap.size W0 w1 := (Below.drew (Below.refl _ W0)).trans hb1; obtain ⟨d1, rfl⟩ := qv_open hv1; have hs1 := HS.out w1 hbl1)
      | (go_at_call_of 69 (Value.string pz); refine (read_calls pz _ S2.out).mono ?_; rintro e w2 ⟨hb2, v2, rfl, hv2⟩; have hbl2 := hbl1.trans (hb2.mono hbl1.size); obtain ⟨d2, rfl⟩ := qv_open hv2; have hs2 := HS.out w2 hbl2; have hkr := HK1.out.below hbl2 (by rw [HSZ.out]; omega); obtain ⟨r0, r1, r2, r3, r4, r5, f0, f1, f2, f3, f4, f5⟩ := hkr.all6; have hkS := HSS.out w2 hbl2 (.bool d1.n) (.slice d1.u d1.nu d1.cu) (.slice d1.l d1.nl d1.cl) (.bool d2.n) (.slice d2.u d2.nu d2.cu) (.slice d2.l d2.nl d2.cl))
      )
  all_goals
    go_wp2
    obtain ⟨k0, k1, k2, k3, k4, k5, _, _, _, _, _, _⟩ := (hkr.put6 (.bool d1.n) (.slice d1.u d1.nu d1.cu) (.slice d1.l d1.nl d1.cl) (.bool d2.n) (.slice d2.u d2.nu d2.cu) (.slice d2.l d2.nl d2.cl)).all6
    refine bodyPost_ret (v := .agg #[.bool d1.n, .slice d1.u d1.nu d1.cu, .slice d1.l d1.nl d1.cl, .bool d2.n, .slice d2.u d2.nu d2.cu, .slice d2.l d2.nl d2.cl]) (by simp [results, Tryz.results62, go_sem, k0, k1, k2, k3, k4, k5]) rfl ⟨Below.put6 (HB0.out.trans (hbl2.mono HB0.out.size)) (by omega) (.bool d1.n) (.slice d1.u d1.nu d1.cu) (.slice d1.l d1.nl d1.cl) (.bool d2.n) (.slice d2.u d2.nu d2.cu) (.slice d2.l d2.nl d2.cl), _, rfl, ?_⟩
    have hst := Stays.put6 hkr (by simp [notLimb]) (.bool d1.n) (.slice d1.u d1.nu d1.cu) (.slice d1.l d1.nl d1.cl) (.bool d2.n) (.slice d2.u d2.nu d2.cu) (.slice d2.l d2.nl d2.cl) rfl rfl rfl rfl rfl rfl
    exact ⟨d1, d2, rfl, hst.qv (hv1.below hb2), hst.qv hv2⟩
theorem str_len (a : ByteArray) : a.data.toList.length = a.size := by simp
theorem wayRead_calls {w : World} {v : Value} {lx ly : List UInt8} (h : PV v lx ly) (s1 : lx.length ≤ 4294967296) (s2 : ly.length ≤ 4294967296) :
    Calls Tryz.prog 62 #[v] w fun e w' => Below w.heap.size w w' ∧ ∃ v, e = .returned v ∧ WV w' v (rd lx) (rd ly) := by
  obtain ⟨a, b, rfl, rfl, rfl⟩ := h
  exact wayRead_walk (by rwa [str_len] at s1) (by rwa [str_len] at s2)
theorem wayText_walk {w : World} {cax cay : C3} {ax ay : Rat} (hax : QV w (.agg #[.bool cax.n, .slice cax.u cax.nu cax.cu, .slice cax.l cax.nl cax.cl]) ax) (hay : QV w (.agg #[.bool cay.n, .slice cay.u cay.nu cay.cu, .slice cay.l cay.nl cay.cl]) ay) {k : Nat} (f1 : QS k ax) (f2 : QS k ay) (hk : k ≤ 35184372088640) (tab : Tab w) :
    Calls Tryz.prog 70 #[.agg #[.bool cax.n, .slice cax.u cax.nu cax.cu, .slice cax.l cax.nl cax.cl, .bool cay.n, .slice cay.u cay.nu cay.cu, .slice cay.l cay.nl cay.cl]] w fun e w' => Below w.heap.size w w' ∧ ∃ v, e = .returned v ∧ PV v (tx ax) (tx ay) := by
  obtain ⟨hb0, hk0, hk1, hsz⟩ := boxes2 w #[.bool cax.n, .slice cax.u cax.nu cax.cu, .slice cax.l cax.nl cax.cl, .bool cay.n, .slice cay.u cay.nu cay.cu, .slice cay.l cay.nl cay.cl] #[.string ⟨#[]⟩, .string ⟨#[]⟩] 86 24
  have HB0 := hideIt hb0
  have HSZ := hideIt hsz
  have HK0 := hideIt hk0
  have HK1 := hideIt hk1
  have Hax := hideIt (hax.below hb0)
  have Hay := hideIt (hay.below hb0)
  have F1 := hideIt f1
  have F2 := hideIt f2
  have HK := hideIt hk
  have HTAB := hideIt (tab.below hb0)
  clear tab
  clear hb0 hsz hk0 hk1 hax hay f1 f2 hk
  go_enter Tryz.func70, Tryz.ntmps70
  go_wp2_with fail
  generalize ((w.alloc (.cells #[.bool cax.n, .slice cax.u cax.nu cax.cu, .slice cax.l cax.nl cax.cl, .bool cay.n, .slice cay.u cay.nu cay.cu, .slice cay.l cay.nl cay.cl] 86)).alloc (.cells #[.string ⟨#[]⟩, .string ⟨#[]⟩] 24)) = W0 at *
  have HS : Hid (∀ w', Below W0.heap.size W0 w' → w'.cell? ⟨w.heap.size, 0, none⟩ = some (.bool cax.n) ∧ w'.cell? ⟨w.heap.size, 1, none⟩ = some (.slice cax.u cax.nu cax.cu) ∧ w'.cell? ⟨w.heap.size, 2, none⟩ = some (.slice cax.l cax.nl cax.cl) ∧ w'.cell? ⟨w.heap.size, 3, none⟩ = some (.bool cay.n) ∧ w'.cell? ⟨w.heap.size, 4, none⟩ = some (.slice cay.u cay.nu cay.cu) ∧ w'.cell? ⟨w.heap.size, 5, none⟩ = some (.slice cay.l cay.nl cay.cl)) := fun w' hb => ⟨(HK0.out.below hb (by rw [HSZ.out]; omega)).cell 0, (HK0.out.below hb (by rw [HSZ.out]; omega)).cell 1, (HK0.out.below hb (by rw [HSZ.out]; omega)).cell 2, (HK0.out.below hb (by rw [HSZ.out]; omega)).cell 3, (HK0.out.below hb (by rw [HSZ.out]; omega)).cell 4, (HK0.out.below hb (by rw [HSZ.out]; omega)).cell 5⟩
  have HSS : Hid (∀ w', Below W0.heap.size W0 w' → ∀ x0 x1 : Value, ((w'.setCell ⟨w.heap.size + 1, 0, none⟩ (x0)).setCell ⟨w.heap.size + 1, 1, none⟩ (x1)).cell? ⟨w.heap.size, 0, none⟩ = some (.bool cax.n) ∧ ((w'.setCell ⟨w.heap.size + 1, 0, none⟩ (x0)).setCell ⟨w.heap.size + 1, 1, none⟩ (x1)).cell? ⟨w.heap.size, 1, none⟩ = some (.slice cax.u cax.nu cax.cu) ∧ ((w'.setCell ⟨w.heap.size + 1, 0, none⟩ (x0)).setCell ⟨w.heap.size + 1, 1, none⟩ (x1)).cell? ⟨w.heap.size, 2, none⟩ = some (.slice cax.l cax.nl cax.cl) ∧ ((w'.setCell ⟨w.heap.size + 1, 0, none⟩ (x0)).setCell ⟨w.heap.size + 1, 1, none⟩ (x1)).cell? ⟨w.heap.size, 3, none⟩ = some (.bool cay.n) ∧ ((w'.setCell ⟨w.heap.size + 1, 0, none⟩ (x0)).setCell ⟨w.heap.size + 1, 1, none⟩ (x1)).cell? ⟨w.heap.size, 4, none⟩ = some (.slice cay.u cay.nu cay.cu) ∧ ((w'.setCell ⟨w.heap.size + 1, 0, none⟩ (x0)).setCell ⟨w.heap.size + 1, 1, none⟩ (x1)).cell? ⟨w.heap.size, 5, none⟩ = some (.slice cay.l cay.nl cay.cl)) := fun w' hb x0 x1 => ⟨((HK0.out.below hb (by rw [HSZ.out]; omega)).off2 (g := w.heap.size + 1) (by omega) x0 x1).cell 0, ((HK0.out.below hb (by rw [HSZ.out]; omega)).off2 (g := w.heap.size + 1) (by omega) x0 x1).cell 1, ((HK0.out.below hb (by rw [HSZ.out]; omega)).off2 (g := w.heap.size + 1) (by omega) x0 x1).cell 2, ((HK0.out.below hb (by rw [HSZ.out]; omega)).off2 (g := w.heap.size + 1) (by omega) x0 x1).cell 3, ((HK0.out.below hb (by rw [HSZ.out]; omega)).off2 (g := w.heap.size + 1) (by omega) x0 x1).cell 4, ((HK0.out.below hb (by rw [HSZ.out]; omega)).off2 (g := w.heap.size + 1) (by omega) x0 x1).cell 5⟩
  obtain ⟨z0, z1, z2, z3, z4, z5⟩ := HS.out W0 (Below.refl _ _)
  go_region_held3 (fun w' => w'.cell? ⟨w.heap.size, 0, none⟩ = some (.bool cax.n) ∧ w'.cell? ⟨w.heap.size, 1, none⟩ = some (.slice cax.u cax.nu cax.cu) ∧ w'.cell? ⟨w.heap.size, 2, none⟩ = some (.slice cax.l cax.nl cax.cl) ∧ w'.cell? ⟨w.heap.size, 3, none⟩ = some (.bool cay.n) ∧ w'.cell? ⟨w.heap.size, 4, none⟩ = some (.slice cay.u cay.nu cay.cu) ∧ w'.cell? ⟨w.heap.size, 5, none⟩ = some (.slice cay.l cay.nl cay.cl)) (first | go_keep | exact hs1 | exact hs2 | exact hkS)
    (first
      | (go_at_call_of 78 (Value.agg #[Value.bool cax.n, Value.slice cax.u cax.nu cax.cu, Value.slice cax.l cax.nl cax.cl]); refine (text_calls (w := W0.drew) (Hax.out.below (Below.drew (Below.refl _ _))) F1.out HK.out (HTAB.out.below (Below.drew (Below.refl _ _)))).mono ?_; rintro e w1 ⟨hb1, s1, rfl, ht1⟩; have hbl1 : Below W0.heap.size W0 w1 := (Below.drew (Below.refl _ W0)).trans hb1; have hs1 := HS.out w1 hbl1)
      | (go_at_call_of 78 (Value.agg #[Value.bool cay.n, Value.slice cay.u cay.nu cay.cu, Value.slice cay.l cay.nl cay.cl]); refine (text_calls (Hay.out.below hbl1) F2.out HK.out (HTAB.out.below hbl1)).mono ?_; rintro e w2 ⟨hb2, s2, rfl, ht2⟩; have hbl2 := hbl1.trans (hb2.mono hbl1.size); have hs2 := HS.out w2 hbl2; have hkr := HK1.out.below hbl2 (by rw [HSZ.out]; omega); obtain ⟨r0, r1, f0, f1⟩ := hkr.all2; have hkS := HSS.out w2 hbl2 (.string s1) (.string s2))
      )
  all_goals
    go_wp2
    obtain ⟨k0, k1, _, _⟩ := (hkr.put2 (.string s1) (.string s2)).all2
    refine bodyPost_ret (v := .agg #[.string s1, .string s2]) (by simp [results, Tryz.results70, go_sem, k0, k1]) rfl ⟨Below.put2 (HB0.out.trans (hbl2.mono HB0.out.size)) (by omega) (.string s1) (.string s2), _, rfl, ?_⟩
    exact ⟨s1, s2, rfl, ht1, ht2⟩
theorem wayText_calls {w : World} {va : Value} {ax ay : Rat} {k : Nat} (ha : WV w va ax ay) (f1 : QS k ax) (f2 : QS k ay) (hk : k ≤ 35184372088640) (tab : Tab w) :
    Calls Tryz.prog 70 #[va] w fun e w' => Below w.heap.size w w' ∧ ∃ v, e = .returned v ∧ PV v (tx ax) (tx ay) := by
  obtain ⟨c1, c2, rfl, h1, h2⟩ := ha
  exact wayText_walk h1 h2 f1 f2 hk tab
theorem rulerSquare_walk {w : World} {cpx cpz cax cay : C3} {px pz ax ay : Rat} (hpx : QV w (.agg #[.bool cpx.n, .slice cpx.u cpx.nu cpx.cu, .slice cpx.l cpx.nl cpx.cl]) px) (hpz : QV w (.agg #[.bool cpz.n, .slice cpz.u cpz.nu cpz.cu, .slice cpz.l cpz.nl cpz.cl]) pz) (hax : QV w (.agg #[.bool cax.n, .slice cax.u cax.nu cax.cu, .slice cax.l cax.nl cax.cl]) ax) (hay : QV w (.agg #[.bool cay.n, .slice cay.u cay.nu cay.cu, .slice cay.l cay.nl cay.cl]) ay) {k l : Nat} (f1 : QS k ax) (f2 : QS k ay) (f3 : QS l px) (f4 : QS l pz) (hk : 2 * (k + l + 1) + 1 ≤ 35184372088640) :
    Calls Tryz.prog 104 #[.agg #[.bool cpx.n, .slice cpx.u cpx.nu cpx.cu, .slice cpx.l cpx.nl cpx.cl, .bool cpz.n, .slice cpz.u cpz.nu cpz.cu, .slice cpz.l cpz.nl cpz.cl], .agg #[.bool cax.n, .slice cax.u cax.nu cax.cu, .slice cax.l cax.nl cax.cl, .bool cay.n, .slice cay.u cay.nu cay.cu, .slice cay.l cay.nl cay.cl]] w fun e w' => Below w.heap.size w w' ∧ ∃ v, e = .returned v ∧ LV w' v ax ay (-(ax * px + ay * pz)) := by
  obtain ⟨hb0, hk0, hk1, hk2, hsz⟩ := boxes3 w #[.bool cpx.n, .slice cpx.u cpx.nu cpx.cu, .slice cpx.l cpx.nl cpx.cl, .bool cpz.n, .slice cpz.u cpz.nu cpz.cu, .slice cpz.l cpz.nl cpz.cl] #[.bool cax.n, .slice cax.u cax.nu cax.cu, .slice cax.l cax.nl cax.cl, .bool cay.n, .slice cay.u cay.nu cay.cu, .slice cay.l cay.nl cay.cl] #[.bool false, .slice none 0 0, .slice none 0 0, .bool false, .slice none 0 0, .slice none 0 0, .bool false, .slice none 0 0, .slice none 0 0] 86 86 97
  have HB0 := hideIt hb0
  have HSZ := hideIt hsz
  have HK0 := hideIt hk0
  have HK1 := hideIt hk1
  have HK2 := hideIt hk2
  have Hpx := hideIt (hpx.below hb0)
  have Hpz := hideIt (hpz.below hb0)
  have Hax := hideIt (hax.below hb0)
  have Hay := hideIt (hay.below hb0)
  have F1 := hideIt f1
  have F2 := hideIt f2
  have F3 := hideIt f3
  have F4 := hideIt f4
  have HK := hideIt hk
  clear hb0 hsz hk0 hk1 hk2 hpx hpz hax hay f1 f2 f3 f4 hk
  go_enter Tryz.func104, Tryz.ntmps104
  go_wp2_with fail
  generalize (((w.alloc (.cells #[.bool cpx.n, .slice cpx.u cpx.nu cpx.cu, .slice cpx.l cpx.nl cpx.cl, .bool cpz.n, .slice cpz.u cpz.nu cpz.cu, .slice cpz.l cpz.nl cpz.cl] 86)).alloc (.cells #[.bool cax.n, .slice cax.u cax.nu cax.cu, .slice cax.l cax.nl cax.cl, .bool cay.n, .slice cay.u cay.nu cay.cu, .slice cay.l cay.nl cay.cl] 86)).alloc (.cells #[.bool false, .slice none 0 0, .slice none 0 0, .bool false, .slice none 0 0, .slice none 0 0, .bool false, .slice none 0 0, .slice none 0 0] 97)) = W0 at *
  have HS : Hid (∀ w', Below W0.heap.size W0 w' → w'.cell? ⟨w.heap.size, 0, none⟩ = some (.bool cpx.n) ∧ w'.cell? ⟨w.heap.size, 1, none⟩ = some (.slice cpx.u cpx.nu cpx.cu) ∧ w'.cell? ⟨w.heap.size, 2, none⟩ = some (.slice cpx.l cpx.nl cpx.cl) ∧ w'.cell? ⟨w.heap.size, 3, none⟩ = some (.bool cpz.n) ∧ w'.cell? ⟨w.heap.size, 4, none⟩ = some (.slice cpz.u cpz.nu cpz.cu) ∧ w'.cell? ⟨w.heap.size, 5, none⟩ = some (.slice cpz.l cpz.nl cpz.cl) ∧ w'.cell? ⟨w.heap.size + 1, 0, none⟩ = some (.bool cax.n) ∧ w'.cell? ⟨w.heap.size + 1, 1, none⟩ = some (.slice cax.u cax.nu cax.cu) ∧ w'.cell? ⟨w.heap.size + 1, 2, none⟩ = some (.slice cax.l cax.nl cax.cl) ∧ w'.cell? ⟨w.heap.size + 1, 3, none⟩ = some (.bool cay.n) ∧ w'.cell? ⟨w.heap.size + 1, 4, none⟩ = some (.slice cay.u cay.nu cay.cu) ∧ w'.cell? ⟨w.heap.size + 1, 5, none⟩ = some (.slice cay.l cay.nl cay.cl)) := fun w' hb => ⟨(HK0.out.below hb (by rw [HSZ.out]; omega)).cell 0, (HK0.out.below hb (by rw [HSZ.out]; omega)).cell 1, (HK0.out.below hb (by rw [HSZ.out]; omega)).cell 2, (HK0.out.below hb (by rw [HSZ.out]; omega)).cell 3, (HK0.out.below hb (by rw [HSZ.out]; omega)).cell 4, (HK0.out.below hb (by rw [HSZ.out]; omega)).cell 5, (HK1.out.below hb (by rw [HSZ.out]; omega)).cell 0, (HK1.out.below hb (by rw [HSZ.out]; omega)).cell 1, (HK1.out.below hb (by rw [HSZ.out]; omega)).cell 2, (HK1.out.below hb (by rw [HSZ.out]; omega)).cell 3, (HK1.out.below hb (by rw [HSZ.out]; omega)).cell 4, (HK1.out.below hb (by rw [HSZ.out]; omega)).cell 5⟩
  have HSS : Hid (∀ w', Below W0.heap.size W0 w' → ∀ x0 x1 x2 x3 x4 x5 x6 x7 x8 : Value, (((((((((w'.setCell ⟨w.heap.size + 1 + 1, 0, none⟩ (x0)).setCell ⟨w.heap.size + 1 + 1, 1, none⟩ (x1)).setCell ⟨w.heap.size + 1 + 1, 2, none⟩ (x2)).setCell ⟨w.heap.size + 1 + 1, 3, none⟩ (x3)).setCell ⟨w.heap.size + 1 + 1, 4, none⟩ (x4)).setCell ⟨w.heap.size + 1 + 1, 5, none⟩ (x5)).setCell ⟨w.heap.size + 1 + 1, 6, none⟩ (x6)).setCell ⟨w.heap.size + 1 + 1, 7, none⟩ (x7)).setCell ⟨w.heap.size + 1 + 1, 8, none⟩ (x8)).cell? ⟨w.heap.size, 0, none⟩ = some (.bool cpx.n) ∧ (((((((((w'.setCell ⟨w.heap.size + 1 + 1, 0, none⟩ (x0)).setCell ⟨w.heap.size + 1 + 1, 1, none⟩ (x1)).setCell ⟨w.heap.size + 1 + 1, 2, none⟩ (x2)).setCell ⟨w.heap.size + 1 + 1, 3, none⟩ (x3)).setCell ⟨w.heap.size + 1 + 1, 4, none⟩ (x4)).setCell ⟨w.heap.size + 1 + 1, 5, none⟩ (x5)).setCell ⟨w.heap.size + 1 + 1, 6, none⟩ (x6)).setCell ⟨w.heap.size + 1 + 1, 7, none⟩ (x7)).setCell ⟨w.heap.size + 1 + 1, 8, none⟩ (x8)).cell? ⟨w.heap.size, 1, none⟩ = some (.slice cpx.u cpx.nu cpx.cu) ∧ (((((((((w'.setCell ⟨w.heap.size + 1 + 1, 0, none⟩ (x0)).setCell ⟨w.heap.size + 1 + 1, 1, none⟩ (x1)).setCell ⟨w.heap.size + 1 + 1, 2, none⟩ (x2)).setCell ⟨w.heap.size + 1 + 1, 3, none⟩ (x3)).setCell ⟨w.heap.size + 1 + 1, 4, none⟩ (x4)).setCell ⟨w.heap.size + 1 + 1, 5, none⟩ (x5)).setCell ⟨w.heap.size + 1 + 1, 6, none⟩ (x6)).setCell ⟨w.heap.size + 1 + 1, 7, none⟩ (x7)).setCell ⟨w.heap.size + 1 + 1, 8, none⟩ (x8)).cell? ⟨w.heap.size, 2, none⟩ = some (.slice cpx.l cpx.nl cpx.cl) ∧ (((((((((w'.setCell ⟨w.heap.size + 1 + 1, 0, none⟩ (x0)).setCell ⟨w.heap.size + 1 + 1, 1, none⟩ (x1)).setCell ⟨w.heap.size + 1 + 1, 2, none⟩ (x2)).setCell ⟨w.heap.size + 1 + 1, 3, none⟩ (x3)).setCell ⟨w.heap.size + 1 + 1, 4, none⟩ (x4)).setCell ⟨w.heap.size + 1 + 1, 5, none⟩ (x5)).setCell ⟨w.heap.size + 1 + 1, 6, none⟩ (x6)).setCell ⟨w.heap.size + 1 + 1, 7, none⟩ (x7)).setCell ⟨w.heap.size + 1 + 1, 8, none⟩ (x8)).cell? ⟨w.heap.size, 3, none⟩ = some (.bool cpz.n) ∧ (((((((((w'.setCell ⟨w.heap.size + 1 + 1, 0, none⟩ (x0)).setCell ⟨w.heap.size + 1 + 1, 1, none⟩ (x1)).setCell ⟨w.heap.size + 1 + 1, 2, none⟩ (x2)).setCell ⟨w.heap.size + 1 + 1, 3, none⟩ (x3)).setCell ⟨w.heap.size + 1 + 1, 4, none⟩ (x4)).setCell ⟨w.heap.size + 1 + 1, 5, none⟩ (x5)).setCell ⟨w.heap.size + 1 + 1, 6, none⟩ (x6)).setCell ⟨w.heap.size + 1 + 1, 7, none⟩ (x7)).setCell ⟨w.heap.size + 1 + 1, 8, none⟩ (x8)).cell? ⟨w.heap.size, 4, none⟩ = some (.slice cpz.u cpz.nu cpz.cu) ∧ (((((((((w'.setCell ⟨w.heap.size + 1 + 1, 0, none⟩ (x0)).setCell ⟨w.heap.size + 1 + 1, 1, none⟩ (x1)).setCell ⟨w.heap.size + 1 + 1, 2, none⟩ (x2)).setCell ⟨w.heap.size + 1 + 1, 3, none⟩ (x3)).setCell ⟨w.heap.size + 1 + 1, 4, none⟩ (x4)).setCell ⟨w.heap.size + 1 + 1, 5, none⟩ (x5)).setCell ⟨w.heap.size + 1 + 1, 6, none⟩ (x6)).setCell ⟨w.heap.size + 1 + 1, 7, none⟩ (x7)).setCell ⟨w.heap.size + 1 + 1, 8, none⟩ (x8)).cell? ⟨w.heap.size, 5, none⟩ = some (.slice cpz.l cpz.nl cpz.cl) ∧ (((((((((w'.setCell ⟨w.heap.size + 1 + 1, 0, none⟩ (x0)).setCell ⟨w.heap.size + 1 + 1, 1, none⟩ (x1)).setCell ⟨w.heap.size + 1 + 1, 2, none⟩ (x2)).setCell ⟨w.heap.size + 1 + 1, 3, none⟩ (x3)).setCell ⟨w.heap.size + 1 + 1, 4, none⟩ (x4)).setCell ⟨w.heap.size + 1 + 1, 5, none⟩ (x5)).setCell ⟨w.heap.size + 1 + 1, 6, none⟩ (x6)).setCell ⟨w.heap.size + 1 + 1, 7, none⟩ (x7)).setCell ⟨w.heap.size + 1 + 1, 8, none⟩ (x8)).cell? ⟨w.heap.size + 1, 0, none⟩ = some (.bool cax.n) ∧ (((((((((w'.setCell ⟨w.heap.size + 1 + 1, 0, none⟩ (x0)).setCell ⟨w.heap.size + 1 + 1, 1, none⟩ (x1)).setCell ⟨w.heap.size + 1 + 1, 2, none⟩ (x2)).setCell ⟨w.heap.size + 1 + 1, 3, none⟩ (x3)).setCell ⟨w.heap.size + 1 + 1, 4, none⟩ (x4)).setCell ⟨w.heap.size + 1 + 1, 5, none⟩ (x5)).setCell ⟨w.heap.size + 1 + 1, 6, none⟩ (x6)).setCell ⟨w.heap.size + 1 + 1, 7, none⟩ (x7)).setCell ⟨w.heap.size + 1 + 1, 8, none⟩ (x8)).cell? ⟨w.heap.size + 1, 1, none⟩ = some (.slice cax.u cax.nu cax.cu) ∧ (((((((((w'.setCell ⟨w.heap.size + 1 + 1, 0, none⟩ (x0)).setCell ⟨w.heap.size + 1 + 1, 1, none⟩ (x1)).setCell ⟨w.heap.size + 1 + 1, 2, none⟩ (x2)).setCell ⟨w.heap.size + 1 + 1, 3, none⟩ (x3)).setCell ⟨w.heap.size + 1 + 1, 4, none⟩ (x4)).setCell ⟨w.heap.size + 1 + 1, 5, none⟩ (x5)).setCell ⟨w.heap.size + 1 + 1, 6, none⟩ (x6)).setCell ⟨w.heap.size + 1 + 1, 7, none⟩ (x7)).setCell ⟨w.heap.size + 1 + 1, 8, none⟩ (x8)).cell? ⟨w.heap.size + 1, 2, none⟩ = some (.slice cax.l cax.nl cax.cl) ∧ (((((((((w'.setCell ⟨w.heap.size + 1 + 1, 0, none⟩ (x0)).setCell ⟨w.heap.size + 1 + 1, 1, none⟩ (x1)).setCell ⟨w.heap.size + 1 + 1, 2, none⟩ (x2)).setCell ⟨w.heap.size + 1 + 1, 3, none⟩ (x3)).setCell ⟨w.heap.size + 1 + 1, 4, none⟩ (x4)).setCell ⟨w.heap.size + 1 + 1, 5, none⟩ (x5)).setCell ⟨w.heap.size + 1 + 1, 6, none⟩ (x6)).setCell ⟨w.heap.size + 1 + 1, 7, none⟩ (x7)).setCell ⟨w.heap.size + 1 + 1, 8, none⟩ (x8)).cell? ⟨w.heap.size + 1, 3, none⟩ = some (.bool cay.n) ∧ (((((((((w'.setCell ⟨w.heap.size + 1 + 1, 0, none⟩ (x0)).setCell ⟨w.heap.size + 1 + 1, 1, none⟩ (x1)).setCell ⟨w.heap.size + 1 + 1, 2, none⟩ (x2)).setCell ⟨w.heap.size + 1 + 1, 3, none⟩ (x3)).setCell ⟨w.heap.size + 1 + 1, 4, none⟩ (x4)).setCell ⟨w.heap.size + 1 + 1, 5, none⟩ (x5)).setCell ⟨w.heap.size + 1 + 1, 6, none⟩ (x6)).setCell ⟨w.heap.size + 1 + 1, 7, none⟩ (x7)).setCell ⟨w.heap.size + 1 + 1, 8, none⟩ (x8)).cell? ⟨w.heap.size + 1, 4, none⟩ = some (.slice cay.u cay.nu cay.cu) ∧ (((((((((w'.setCell ⟨w.heap.size + 1 + 1, 0, none⟩ (x0)).setCell ⟨w.heap.size + 1 + 1, 1, none⟩ (x1)).setCell ⟨w.heap.size + 1 + 1, 2, none⟩ (x2)).setCell ⟨w.heap.size + 1 + 1, 3, none⟩ (x3)).setCell ⟨w.heap.size + 1 + 1, 4, none⟩ (x4)).setCell ⟨w.heap.size + 1 + 1, 5, none⟩ (x5)).setCell ⟨w.heap.size + 1 + 1, 6, none⟩ (x6)).setCell ⟨w.heap.size + 1 + 1, 7, none⟩ (x7)).setCell ⟨w.heap.size + 1 + 1, 8, none⟩ (x8)).cell? ⟨w.heap.size + 1, 5, none⟩ = some (.slice cay.l cay.nl cay.cl)) := fun w' hb x0 x1 x2 x3 x4 x5 x6 x7 x8 => ⟨((HK0.out.below hb (by rw [HSZ.out]; omega)).off9 (g := w.heap.size + 1 + 1) (by omega) x0 x1 x2 x3 x4 x5 x6 x7 x8).cell 0, ((HK0.out.below hb (by rw [HSZ.out]; omega)).off9 (g := w.heap.size + 1 + 1) (by omega) x0 x1 x2 x3 x4 x5 x6 x7 x8).cell 1, ((HK0.out.below hb (by rw [HSZ.out]; omega)).off9 (g := w.heap.size + 1 + 1) (by omega) x0 x1 x2 x3 x4 x5 x6 x7 x8).cell 2, ((HK0.out.below hb (by rw [HSZ.out]; omega)).off9 (g := w.heap.size + 1 + 1) (by omega) x0 x1 x2 x3 x4 x5 x6 x7 x8).cell 3, ((HK0.out.below hb (by rw [HSZ.out]; omega)).off9 (g := w.heap.size + 1 + 1) (by omega) x0 x1 x2 x3 x4 x5 x6 x7 x8).cell 4, ((HK0.out.below hb (by rw [HSZ.out]; omega)).off9 (g := w.heap.size + 1 + 1) (by omega) x0 x1 x2 x3 x4 x5 x6 x7 x8).cell 5, ((HK1.out.below hb (by rw [HSZ.out]; omega)).off9 (g := w.heap.size + 1 + 1) (by omega) x0 x1 x2 x3 x4 x5 x6 x7 x8).cell 0, ((HK1.out.below hb (by rw [HSZ.out]; omega)).off9 (g := w.heap.size + 1 + 1) (by omega) x0 x1 x2 x3 x4 x5 x6 x7 x8).cell 1, ((HK1.out.below hb (by rw [HSZ.out]; omega)).off9 (g := w.heap.size + 1 + 1) (by omega) x0 x1 x2 x3 x4 x5 x6 x7 x8).cell 2, ((HK1.out.below hb (by rw [HSZ.out]; omega)).off9 (g := w.heap.size + 1 + 1) (by omega) x0 x1 x2 x3 x4 x5 x6 x7 x8).cell 3, ((HK1.out.below hb (by rw [HSZ.out]; omega)).off9 (g := w.heap.size + 1 + 1) (by omega) x0 x1 x2 x3 x4 x5 x6 x7 x8).cell 4, ((HK1.out.below hb (by rw [HSZ.out]; omega)).off9 (g := w.heap.size + 1 + 1) (by omega) x0 x1 x2 x3 x4 x5 x6 x7 x8).cell 5⟩
  obtain ⟨z0, z1, z2, z3, z4, z5, z6, z7, z8, z9, z10, z11⟩ := HS.out W0 (Below.refl _ _)
  go_region_held3 (fun w' => w'.cell? ⟨w.heap.size, 0, none⟩ = some (.bool cpx.n) ∧ w'.cell? ⟨w.heap.size, 1, none⟩ = some (.slice cpx.u cpx.nu cpx.cu) ∧ w'.cell? ⟨w.heap.size, 2, none⟩ = some (.slice cpx.l cpx.nl cpx.cl) ∧ w'.cell? ⟨w.heap.size, 3, none⟩ = some (.bool cpz.n) ∧ w'.cell? ⟨w.heap.size, 4, none⟩ = some (.slice cpz.u cpz.nu cpz.cu) ∧ w'.cell? ⟨w.heap.size, 5, none⟩ = some (.slice cpz.l cpz.nl cpz.cl) ∧ w'.cell? ⟨w.heap.size + 1, 0, none⟩ = some (.bool cax.n) ∧ w'.cell? ⟨w.heap.size + 1, 1, none⟩ = some (.slice cax.u cax.nu cax.cu) ∧ w'.cell? ⟨w.heap.size + 1, 2, none⟩ = some (.slice cax.l cax.nl cax.cl) ∧ w'.cell? ⟨w.heap.size + 1, 3, none⟩ = some (.bool cay.n) ∧ w'.cell? ⟨w.heap.size + 1, 4, none⟩ = some (.slice cay.u cay.nu cay.cu) ∧ w'.cell? ⟨w.heap.size + 1, 5, none⟩ = some (.slice cay.l cay.nl cay.cl)) (first | go_keep | exact hs1 | exact hs2 | exact hkS)
    (first
      | (go_at_call 123; refine (wayDot_calls (w := W0.drew) ⟨cax, cay, rfl, (Hax.out.below (Below.drew (Below.refl _ _))), (Hay.out.below (Below.drew (Below.refl _ _)))⟩ ⟨cpx, cpz, rfl, (Hpx.out.below (Below.drew (Below.refl _ _))), (Hpz.out.below (Below.drew (Below.refl _ _)))⟩ F1.out F2.out F3.out F4.out HK.out).mono ?_; rintro e w1 ⟨hb1, v1, rfl, hv1⟩; have hbl1 : Below W0.heap.size W0 w1 := (Below.drew (Below.refl _ W0)).trans hb1; obtain ⟨d1, rfl⟩ := qv_open hv1; have hs1 := HS.out w1 hbl1)
      | (go_at_call 107; refine (negative_calls hv1).mono ?_; rintro e w2 ⟨hb2, v2, rfl, hv2⟩; have hbl2 := hbl1.trans (hb2.mono hbl1.size); obtain ⟨d2, rfl⟩ := qv_open hv2; have hs2 := HS.out w2 hbl2; have hkr := HK2.out.below hbl2 (by rw [HSZ.out]; omega); obtain ⟨r0, r1, r2, r3, r4, r5, r6, r7, r8, f0, f1, f2, f3, f4, f5, f6, f7, f8⟩ := hkr.all9; have hkS := HSS.out w2 hbl2 (.bool cax.n) (.slice cax.u cax.nu cax.cu) (.slice cax.l cax.nl cax.cl) (.bool cay.n) (.slice cay.u cay.nu cay.cu) (.slice cay.l cay.nl cay.cl) (.bool d2.n) (.slice d2.u d2.nu d2.cu) (.slice d2.l d2.nl d2.cl))
      )
  all_goals
    go_wp2
    obtain ⟨k0, k1, k2, k3, k4, k5, k6, k7, k8, _, _, _, _, _, _, _, _, _⟩ := (hkr.put9 (.bool cax.n) (.slice cax.u cax.nu cax.cu) (.slice cax.l cax.nl cax.cl) (.bool cay.n) (.slice cay.u cay.nu cay.cu) (.slice cay.l cay.nl cay.cl) (.bool d2.n) (.slice d2.u d2.nu d2.cu) (.slice d2.l d2.nl d2.cl)).all9
    refine bodyPost_ret (v := .agg #[.bool cax.n, .slice cax.u cax.nu cax.cu, .slice cax.l cax.nl cax.cl, .bool cay.n, .slice cay.u cay.nu cay.cu, .slice cay.l cay.nl cay.cl, .bool d2.n, .slice d2.u d2.nu d2.cu, .slice d2.l d2.nl d2.cl]) (by simp [results, Tryz.results104, go_sem, k0, k1, k2, k3, k4, k5, k6, k7, k8]) rfl ⟨Below.put9 (HB0.out.trans (hbl2.mono HB0.out.size)) (by omega) (.bool cax.n) (.slice cax.u cax.nu cax.cu) (.slice cax.l cax.nl cax.cl) (.bool cay.n) (.slice cay.u cay.nu cay.cu) (.slice cay.l cay.nl cay.cl) (.bool d2.n) (.slice d2.u d2.nu d2.cu) (.slice d2.l d2.nl d2.cl), _, rfl, ?_⟩
    have hst := Stays.put9 hkr (by simp [notLimb]) (.bool cax.n) (.slice cax.u cax.nu cax.cu) (.slice cax.l cax.nl cax.cl) (.bool cay.n) (.slice cay.u cay.nu cay.cu) (.slice cay.l cay.nl cay.cl) (.bool d2.n) (.slice d2.u d2.nu d2.cu) (.slice d2.l d2.nl d2.cl) rfl rfl rfl rfl rfl rfl rfl rfl rfl
    exact ⟨cax, cay, d2, rfl, hst.qv (Hax.out.below hbl2), hst.qv (Hay.out.below hbl2), hst.qv hv2⟩
theorem rulerSquare_calls {w : World} {va vb : Value} {px pz ax ay : Rat} {k l : Nat} (ha : WV w va px pz) (hb : WV w vb ax ay) (f1 : QS k ax) (f2 : QS k ay) (f3 : QS l px) (f4 : QS l pz) (hk : 2 * (k + l + 1) + 1 ≤ 35184372088640) :
    Calls Tryz.prog 104 #[va, vb] w fun e w' => Below w.heap.size w w' ∧ ∃ v, e = .returned v ∧ LV w' v ax ay (-(ax * px + ay * pz)) := by
  obtain ⟨c1, c2, rfl, h1, h2⟩ := ha
  obtain ⟨c3, c4, rfl, h3, h4⟩ := hb
  exact rulerSquare_walk h1 h2 h3 h4 f1 f2 f3 f4 hk
end Go.Proofs.YtgajdmadbdbabaaGreatDoor
