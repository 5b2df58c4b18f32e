/- Part 10 of the walks of the packages num, way, ruler, line and plane, and of the mathematics under them: WF WG WH WI WJ WY WZ. -/
import Derived.Test.YtpalknbmejachaaGreatDoorA9
/- Walks: Dot of ways, Value of lines. -/
namespace Go.Proofs.YtpalknbmejachaaGreatDoor
open Go.RowKit Cx

attribute [local go_sem ↓] Go.wp_at_zero Go.wp_at_succ

theorem qrow2 {w : World} {c0 c1 : C3} {q0 q1 : Rat} (h0 : QV w (.agg #[.bool c0.n, .slice c0.u c0.nu c0.cu, .slice c0.l c0.nl c0.cl]) q0) (h1 : QV w (.agg #[.bool c1.n, .slice c1.u c1.nu c1.cu, .slice c1.l c1.nl c1.cl]) q1) :
    QRow (w.alloc (.cells #[.bool c0.n, .slice c0.u c0.nu c0.cu, .slice c0.l c0.nl c0.cl, .bool c1.n, .slice c1.u c1.nu c1.cu, .slice c1.l c1.nl c1.cl] 70)) (.slice (some ⟨w.heap.size, 0, none⟩) 2 2) [q0, q1] := by
  have hb := below_new w (.cells #[.bool c0.n, .slice c0.u c0.nu c0.cu, .slice c0.l c0.nl c0.cl, .bool c1.n, .slice c1.u c1.nu c1.cu, .slice c1.l c1.nl c1.cl] 70)
  have hk := Blk.new w #[.bool c0.n, .slice c0.u c0.nu c0.cu, .slice c0.l c0.nl c0.cl, .bool c1.n, .slice c1.u c1.nu c1.cu, .slice c1.l c1.nl c1.cl] 70
  refine ⟨w.heap.size, 0, 2, rfl, hk.lt, fun j hj => ?_⟩
  match j, hj with
  | 0, _ => exact ⟨c0, hk.cell 0, hk.cell 1, hk.cell 2, h0.below hb⟩
  | 1, _ => exact ⟨c1, hk.cell 3, hk.cell 4, hk.cell 5, h1.below hb⟩
  | j + 2, hj => simp at hj; omega

theorem qrow3 {w : World} {c0 c1 c2 : C3} {q0 q1 q2 : Rat} (h0 : QV w (.agg #[.bool c0.n, .slice c0.u c0.nu c0.cu, .slice c0.l c0.nl c0.cl]) q0) (h1 : QV w (.agg #[.bool c1.n, .slice c1.u c1.nu c1.cu, .slice c1.l c1.nl c1.cl]) q1) (h2 : QV w (.agg #[.bool c2.n, .slice c2.u c2.nu c2.cu, .slice c2.l c2.nl c2.cl]) q2) :
    QRow (w.alloc (.cells #[.bool c0.n, .slice c0.u c0.nu c0.cu, .slice c0.l c0.nl c0.cl, .bool c1.n, .slice c1.u c1.nu c1.cu, .slice c1.l c1.nl c1.cl, .bool c2.n, .slice c2.u c2.nu c2.cu, .slice c2.l c2.nl c2.cl] 70)) (.slice (some ⟨w.heap.size, 0, none⟩) 3 3) [q0, q1, q2] := by
  have hb := below_new w (.cells #[.bool c0.n, .slice c0.u c0.nu c0.cu, .slice c0.l c0.nl c0.cl, .bool c1.n, .slice c1.u c1.nu c1.cu, .slice c1.l c1.nl c1.cl, .bool c2.n, .slice c2.u c2.nu c2.cu, .slice c2.l c2.nl c2.cl] 70)
  have hk := Blk.new w #[.bool c0.n, .slice c0.u c0.nu c0.cu, .slice c0.l c0.nl c0.cl, .bool c1.n, .slice c1.u c1.nu c1.cu, .slice c1.l c1.nl c1.cl, .bool c2.n, .slice c2.u c2.nu c2.cu, .slice c2.l c2.nl c2.cl] 70
  refine ⟨w.heap.size, 0, 3, rfl, hk.lt, fun j hj => ?_⟩
  match j, hj with
  | 0, _ => exact ⟨c0, hk.cell 0, hk.cell 1, hk.cell 2, h0.below hb⟩
  | 1, _ => exact ⟨c1, hk.cell 3, hk.cell 4, hk.cell 5, h1.below hb⟩
  | 2, _ => exact ⟨c2, hk.cell 6, hk.cell 7, hk.cell 8, h2.below hb⟩
  | j + 3, hj => simp at hj; omega

theorem rsum2 (a b : Rat) : rsum [a, b] = a + b := by simp [rsum, Rat.zero_add]
theorem rsum3 (a b c : Rat) : rsum [a, b, c] = a + b + c := by simp [rsum, Rat.zero_add]
theorem all2 {K : Nat} {a b : Rat} (h1 : QS K a) (h2 : QS K b) : ∀ q ∈ [a, b], QS K q := by
  intro q hq
  rcases List.mem_cons.1 hq with rfl | hq
  · exact h1
  · rw [List.mem_singleton.1 hq]; exact h2
theorem all3 {K : Nat} {a b c : Rat} (h1 : QS K a) (h2 : QS K b) (h3 : QS K c) : ∀ q ∈ [a, b, c], QS K q := by
  intro q hq
  rcases List.mem_cons.1 hq with rfl | hq
  · exact h1
  · exact all2 h2 h3 q hq

set_option maxHeartbeats 4000000 in
set_option maxRecDepth 100000 in
theorem wayDot_walk {w : World} {cax cay cbx cbz : C3} {ax ay bx bz : Rat} (hax : QV w (.agg #[.bool cax.n, .slice cax.u cax.nu cax.cu, .slice cax.l cax.nl cax.cl]) ax) (hay : QV w (.agg #[.bool cay.n, .slice cay.u cay.nu cay.cu, .slice cay.l cay.nl cay.cl]) ay) (hbx : QV w (.agg #[.bool cbx.n, .slice cbx.u cbx.nu cbx.cu, .slice cbx.l cbx.nl cbx.cl]) bx) (hbz : QV w (.agg #[.bool cbz.n, .slice cbz.u cbz.nu cbz.cu, .slice cbz.l cbz.nl cbz.cl]) bz) {k l : Nat} (f1 : QS k ax) (f2 : QS k ay) (f3 : QS l bx) (f4 : QS l bz) (hk : 2 * (k + l + 1) + 1 ≤ 35184372088640) :
    Calls Tryz.prog 45 #[.agg #[.bool cax.n, .slice cax.u cax.nu cax.cu, .slice cax.l cax.nl cax.cl, .bool cay.n, .slice cay.u cay.nu cay.cu, .slice cay.l cay.nl cay.cl], .agg #[.bool cbx.n, .slice cbx.u cbx.nu cbx.cu, .slice cbx.l cbx.nl cbx.cl, .bool cbz.n, .slice cbz.u cbz.nu cbz.cu, .slice cbz.l cbz.nl cbz.cl]] w fun e w' => Below w.heap.size w w' ∧ ∃ v, e = .returned v ∧ QV w' v (ax * bx + ay * bz) := by
  obtain ⟨hb0, hk0, hk1, hk2, hsz⟩ := boxes3 w #[.bool cax.n, .slice cax.u cax.nu cax.cu, .slice cax.l cax.nl cax.cl, .bool cay.n, .slice cay.u cay.nu cay.cu, .slice cay.l cay.nl cay.cl] #[.bool cbx.n, .slice cbx.u cbx.nu cbx.cu, .slice cbx.l cbx.nl cbx.cl, .bool cbz.n, .slice cbz.u cbz.nu cbz.cu, .slice cbz.l cbz.nl cbz.cl] #[.bool false, .slice none 0 0, .slice none 0 0] 72 72 70
  have HB0 := hideIt hb0
  have HSZ := hideIt hsz
  have HK0 := hideIt hk0
  have HK1 := hideIt hk1
  have HK2 := hideIt hk2
  have Hax := hideIt (hax.below hb0)
  have Hay := hideIt (hay.below hb0)
  have Hbx := hideIt (hbx.below hb0)
  have Hbz := hideIt (hbz.below hb0)
  have F1 := hideIt f1
  have F2 := hideIt f2
  have F3 := hideIt f3
  have F4 := hideIt f4
  have HK := hideIt hk
  clear hb0 hsz hk0 hk1 hk2 hax hay hbx hbz f1 f2 f3 f4 hk
  have HL : Hid (k + l + 1 ≤ 35184372088640) := by have := HK.out; show _ ≤ _; omega
  go_enter Tryz.func45, Tryz.ntmps45
  go_wp2_with fail
  generalize (((w.alloc (.cells #[.bool cax.n, .slice cax.u cax.nu cax.cu, .slice cax.l cax.nl cax.cl, .bool cay.n, .slice cay.u cay.nu cay.cu, .slice cay.l cay.nl cay.cl] 72)).alloc (.cells #[.bool cbx.n, .slice cbx.u cbx.nu cbx.cu, .slice cbx.l cbx.nl cbx.cl, .bool cbz.n, .slice cbz.u cbz.nu cbz.cu, .slice cbz.l cbz.nl cbz.cl] 72)).alloc (.cells #[.bool false, .slice none 0 0, .slice none 0 0] 70)) = W0 at *
  have HS : Hid (∀ w', Below W0.heap.size W0 w' → w'.cell? ⟨w.heap.size, 0, none⟩ = some (.bool cax.n) ∧ w'.cell? ⟨w.heap.size, 1, none⟩ = some (.slice cax.u cax.nu cax.cu) ∧ w'.cell? ⟨w.heap.size, 2, none⟩ = some (.slice cax.l cax.nl cax.cl) ∧ w'.cell? ⟨w.heap.size, 3, none⟩ = some (.bool cay.n) ∧ w'.cell? ⟨w.heap.size, 4, none⟩ = some (.slice cay.u cay.nu cay.cu) ∧ w'.cell? ⟨w.heap.size, 5, none⟩ = some (.slice cay.l cay.nl cay.cl) ∧ w'.cell? ⟨w.heap.size + 1, 0, none⟩ = some (.bool cbx.n) ∧ w'.cell? ⟨w.heap.size + 1, 1, none⟩ = some (.slice cbx.u cbx.nu cbx.cu) ∧ w'.cell? ⟨w.heap.size + 1, 2, none⟩ = some (.slice cbx.l cbx.nl cbx.cl) ∧ w'.cell? ⟨w.heap.size + 1, 3, none⟩ = some (.bool cbz.n) ∧ w'.cell? ⟨w.heap.size + 1, 4, none⟩ = some (.slice cbz.u cbz.nu cbz.cu) ∧ w'.cell? ⟨w.heap.size + 1, 5, none⟩ = some (.slice cbz.l cbz.nl cbz.cl)) := fun w' hb => ⟨(HK0.out.below hb (by rw [HSZ.out]; omega)).cell 0, (HK0.out.below hb (by rw [HSZ.out]; omega)).cell 1, (HK0.out.below hb (by rw [HSZ.out]; omega)).cell 2, (HK0.out.below hb (by rw [HSZ.out]; omega)).cell 3, (HK0.out.below hb (by rw [HSZ.out]; omega)).cell 4, (HK0.out.below hb (by rw [HSZ.out]; omega)).cell 5, (HK1.out.below hb (by rw [HSZ.out]; omega)).cell 0, (HK1.out.below hb (by rw [HSZ.out]; omega)).cell 1, (HK1.out.below hb (by rw [HSZ.out]; omega)).cell 2, (HK1.out.below hb (by rw [HSZ.out]; omega)).cell 3, (HK1.out.below hb (by rw [HSZ.out]; omega)).cell 4, (HK1.out.below hb (by rw [HSZ.out]; omega)).cell 5⟩
  have HSS : Hid (∀ w', Below W0.heap.size W0 w' → ∀ x0 x1 x2 : Value, (((w'.setCell ⟨w.heap.size + 1 + 1, 0, none⟩ (x0)).setCell ⟨w.heap.size + 1 + 1, 1, none⟩ (x1)).setCell ⟨w.heap.size + 1 + 1, 2, none⟩ (x2)).cell? ⟨w.heap.size, 0, none⟩ = some (.bool cax.n) ∧ (((w'.setCell ⟨w.heap.size + 1 + 1, 0, none⟩ (x0)).setCell ⟨w.heap.size + 1 + 1, 1, none⟩ (x1)).setCell ⟨w.heap.size + 1 + 1, 2, none⟩ (x2)).cell? ⟨w.heap.size, 1, none⟩ = some (.slice cax.u cax.nu cax.cu) ∧ (((w'.setCell ⟨w.heap.size + 1 + 1, 0, none⟩ (x0)).setCell ⟨w.heap.size + 1 + 1, 1, none⟩ (x1)).setCell ⟨w.heap.size + 1 + 1, 2, none⟩ (x2)).cell? ⟨w.heap.size, 2, none⟩ = some (.slice cax.l cax.nl cax.cl) ∧ (((w'.setCell ⟨w.heap.size + 1 + 1, 0, none⟩ (x0)).setCell ⟨w.heap.size + 1 + 1, 1, none⟩ (x1)).setCell ⟨w.heap.size + 1 + 1, 2, none⟩ (x2)).cell? ⟨w.heap.size, 3, none⟩ = some (.bool cay.n) ∧ (((w'.setCell ⟨w.heap.size + 1 + 1, 0, none⟩ (x0)).setCell ⟨w.heap.size + 1 + 1, 1, none⟩ (x1)).setCell ⟨w.heap.size + 1 + 1, 2, none⟩ (x2)).cell? ⟨w.heap.size, 4, none⟩ = some (.slice cay.u cay.nu cay.cu) ∧ (((w'.setCell ⟨w.heap.size + 1 + 1, 0, none⟩ (x0)).setCell ⟨w.heap.size + 1 + 1, 1, none⟩ (x1)).setCell ⟨w.heap.size + 1 + 1, 2, none⟩ (x2)).cell? ⟨w.heap.size, 5, none⟩ = some (.slice cay.l cay.nl cay.cl) ∧ (((w'.setCell ⟨w.heap.size + 1 + 1, 0, none⟩ (x0)).setCell ⟨w.heap.size + 1 + 1, 1, none⟩ (x1)).setCell ⟨w.heap.size + 1 + 1, 2, none⟩ (x2)).cell? ⟨w.heap.size + 1, 0, none⟩ = some (.bool cbx.n) ∧ (((w'.setCell ⟨w.heap.size + 1 + 1, 0, none⟩ (x0)).setCell ⟨w.heap.size + 1 + 1, 1, none⟩ (x1)).setCell ⟨w.heap.size + 1 + 1, 2, none⟩ (x2)).cell? ⟨w.heap.size + 1, 1, none⟩ = some (.slice cbx.u cbx.nu cbx.cu) ∧ (((w'.setCell ⟨w.heap.size + 1 + 1, 0, none⟩ (x0)).setCell ⟨w.heap.size + 1 + 1, 1, none⟩ (x1)).setCell ⟨w.heap.size + 1 + 1, 2, none⟩ (x2)).cell? ⟨w.heap.size + 1, 2, none⟩ = some (.slice cbx.l cbx.nl cbx.cl) ∧ (((w'.setCell ⟨w.heap.size + 1 + 1, 0, none⟩ (x0)).setCell ⟨w.heap.size + 1 + 1, 1, none⟩ (x1)).setCell ⟨w.heap.size + 1 + 1, 2, none⟩ (x2)).cell? ⟨w.heap.size + 1, 3, none⟩ = some (.bool cbz.n) ∧ (((w'.setCell ⟨w.heap.size + 1 + 1, 0, none⟩ (x0)).setCell ⟨w.heap.size + 1 + 1, 1, none⟩ (x1)).setCell ⟨w.heap.size + 1 + 1, 2, none⟩ (x2)).cell? ⟨w.heap.size + 1, 4, none⟩ = some (.slice cbz.u cbz.nu cbz.cu) ∧ (((w'.setCell ⟨w.heap.size + 1 + 1, 0, none⟩ (x0)).setCell ⟨w.heap.size + 1 + 1, 1, none⟩ (x1)).setCell ⟨w.heap.size + 1 + 1, 2, none⟩ (x2)).cell? ⟨w.heap.size + 1, 5, none⟩ = some (.slice cbz.l cbz.nl cbz.cl)) := fun w' hb x0 x1 x2 => ⟨((HK0.out.below hb (by rw [HSZ.out]; omega)).off3 (g := w.heap.size + 1 + 1) (by omega) x0 x1 x2).cell 0, ((HK0.out.below hb (by rw [HSZ.out]; omega)).off3 (g := w.heap.size + 1 + 1) (by omega) x0 x1 x2).cell 1, ((HK0.out.below hb (by rw [HSZ.out]; omega)).off3 (g := w.heap.size + 1 + 1) (by omega) x0 x1 x2).cell 2, ((HK0.out.below hb (by rw [HSZ.out]; omega)).off3 (g := w.heap.size + 1 + 1) (by omega) x0 x1 x2).cell 3, ((HK0.out.below hb (by rw [HSZ.out]; omega)).off3 (g := w.heap.size + 1 + 1) (by omega) x0 x1 x2).cell 4, ((HK0.out.below hb (by rw [HSZ.out]; omega)).off3 (g := w.heap.size + 1 + 1) (by omega) x0 x1 x2).cell 5, ((HK1.out.below hb (by rw [HSZ.out]; omega)).off3 (g := w.heap.size + 1 + 1) (by omega) x0 x1 x2).cell 0, ((HK1.out.below hb (by rw [HSZ.out]; omega)).off3 (g := w.heap.size + 1 + 1) (by omega) x0 x1 x2).cell 1, ((HK1.out.below hb (by rw [HSZ.out]; omega)).off3 (g := w.heap.size + 1 + 1) (by omega) x0 x1 x2).cell 2, ((HK1.out.below hb (by rw [HSZ.out]; omega)).off3 (g := w.heap.size + 1 + 1) (by omega) x0 x1 x2).cell 3, ((HK1.out.below hb (by rw [HSZ.out]; omega)).off3 (g := w.heap.size + 1 + 1) (by omega) x0 x1 x2).cell 4, ((HK1.out.below hb (by rw [HSZ.out]; omega)).off3 (g := w.heap.size + 1 + 1) (by omega) x0 x1 x2).cell 5⟩
  obtain ⟨z0, z1, z2, z3, z4, z5, z6, z7, z8, z9, z10, z11⟩ := HS.out W0 (Below.refl _ _)
  go_region_held3 (fun w' => w'.cell? ⟨w.heap.size, 0, none⟩ = some (.bool cax.n) ∧ w'.cell? ⟨w.heap.size, 1, none⟩ = some (.slice cax.u cax.nu cax.cu) ∧ w'.cell? ⟨w.heap.size, 2, none⟩ = some (.slice cax.l cax.nl cax.cl) ∧ w'.cell? ⟨w.heap.size, 3, none⟩ = some (.bool cay.n) ∧ w'.cell? ⟨w.heap.size, 4, none⟩ = some (.slice cay.u cay.nu cay.cu) ∧ w'.cell? ⟨w.heap.size, 5, none⟩ = some (.slice cay.l cay.nl cay.cl) ∧ w'.cell? ⟨w.heap.size + 1, 0, none⟩ = some (.bool cbx.n) ∧ w'.cell? ⟨w.heap.size + 1, 1, none⟩ = some (.slice cbx.u cbx.nu cbx.cu) ∧ w'.cell? ⟨w.heap.size + 1, 2, none⟩ = some (.slice cbx.l cbx.nl cbx.cl) ∧ w'.cell? ⟨w.heap.size + 1, 3, none⟩ = some (.bool cbz.n) ∧ w'.cell? ⟨w.heap.size + 1, 4, none⟩ = some (.slice cbz.u cbz.nu cbz.cu) ∧ w'.cell? ⟨w.heap.size + 1, 5, none⟩ = some (.slice cbz.l cbz.nl cbz.cl)) (first | go_keep | exact hs1 | exact hs2 | exact hsA2 | exact hs3 | exact hkS)
    (first
      | (go_at_call_of 86 (Value.agg #[Value.bool cax.n, Value.slice cax.u cax.nu cax.cu, Value.slice cax.l cax.nl cax.cl]); refine (times_calls (w := W0.drew) (Hax.out.below (Below.drew (Below.refl _ _))) (Hbx.out.below (Below.drew (Below.refl _ _))) F1.out F3.out HL.out).mono ?_; rintro e w1 ⟨hb1, v1, rfl, hv1⟩; have hbl1 : Below W0.heap.size W0 w1 := (Below.drew (Below.refl _ W0)).trans hb1; obtain ⟨d1, rfl⟩ := qv_open hv1; have hs1 := HS.out w1 hbl1)
      | (go_at_call_of 86 (Value.agg #[Value.bool cay.n, Value.slice cay.u cay.nu cay.cu, Value.slice cay.l cay.nl cay.cl]); refine (times_calls (Hay.out.below hbl1) (Hbz.out.below hbl1) F2.out F4.out HL.out).mono ?_; rintro e w2 ⟨hb2, v2, rfl, hv2⟩; have hbl2 := hbl1.trans (hb2.mono hbl1.size); obtain ⟨d2, rfl⟩ := qv_open hv2; have hs2 := HS.out w2 hbl2; have hbA2 := below_new w2 (.cells #[.bool d1.n, .slice d1.u d1.nu d1.cu, .slice d1.l d1.nl d1.cl, .bool d2.n, .slice d2.u d2.nu d2.cu, .slice d2.l d2.nl d2.cl] 70); have hblA2 := hbl2.trans (hbA2.mono hbl2.size); have hsA2 := HS.out _ hblA2)
      | (go_at_call 88; refine (sum_calls (qrow2 (hv1.below hb2) hv2) (all2 (F1.out.mul F3.out) (F2.out.mul F4.out)) (by simp) HK.out).mono ?_; rintro e w3 ⟨hb3, v3, rfl, hv3⟩; have hbl3 := hblA2.trans (hb3.mono hblA2.size); obtain ⟨d3, rfl⟩ := qv_open hv3; have hs3 := HS.out w3 hbl3; have hkr := HK2.out.below hbl3 (by rw [HSZ.out]; omega); obtain ⟨r0, r1, r2, f0, f1, f2⟩ := hkr.all3; have hkS := HSS.out w3 hbl3 (.bool d3.n) (.slice d3.u d3.nu d3.cu) (.slice d3.l d3.nl d3.cl))
      )
  all_goals
    go_wp2
    obtain ⟨k0, k1, k2, _, _, _⟩ := (hkr.put3 (.bool d3.n) (.slice d3.u d3.nu d3.cu) (.slice d3.l d3.nl d3.cl)).all3
    refine bodyPost_ret (v := .agg #[.bool d3.n, .slice d3.u d3.nu d3.cu, .slice d3.l d3.nl d3.cl]) (by simp [results, Tryz.results45, go_sem, k0, k1, k2]) rfl ⟨Below.put3 (HB0.out.trans (hbl3.mono HB0.out.size)) (by omega) (.bool d3.n) (.slice d3.u d3.nu d3.cu) (.slice d3.l d3.nl d3.cl), _, rfl, ?_⟩
    have hst := Stays.put3 hkr (by simp [notLimb]) (.bool d3.n) (.slice d3.u d3.nu d3.cu) (.slice d3.l d3.nl d3.cl) rfl rfl rfl
    rw [rsum2] at hv3; exact hst.qv hv3

/-- Dot: X times X and Y times Y. -/
theorem wayDot_calls {w : World} {va vb : Value} {ax ay bx bz : Rat} {k l : Nat} (ha : WV w va ax ay) (hb : WV w vb bx bz) (f1 : QS k ax) (f2 : QS k ay) (f3 : QS l bx) (f4 : QS l bz) (hk : 2 * (k + l + 1) + 1 ≤ 35184372088640) :
    Calls Tryz.prog 45 #[va, vb] w fun e w' => Below w.heap.size w w' ∧ ∃ v, e = .returned v ∧ QV w' v (ax * bx + ay * bz) := by
  obtain ⟨c1, c2, rfl, h1, h2⟩ := ha
  obtain ⟨c3, c4, rfl, h3, h4⟩ := hb
  exact wayDot_walk h1 h2 h3 h4 f1 f2 f3 f4 hk

set_option maxHeartbeats 4000000 in
set_option maxRecDepth 100000 in
theorem lineValue_walk {w : World} {cax cay caz cbx cbz : C3} {ax ay az bx bz : Rat} (hax : QV w (.agg #[.bool cax.n, .slice cax.u cax.nu cax.cu, .slice cax.l cax.nl cax.cl]) ax) (hay : QV w (.agg #[.bool cay.n, .slice cay.u cay.nu cay.cu, .slice cay.l cay.nl cay.cl]) ay) (haz : QV w (.agg #[.bool caz.n, .slice caz.u caz.nu caz.cu, .slice caz.l caz.nl caz.cl]) az) (hbx : QV w (.agg #[.bool cbx.n, .slice cbx.u cbx.nu cbx.cu, .slice cbx.l cbx.nl cbx.cl]) bx) (hbz : QV w (.agg #[.bool cbz.n, .slice cbz.u cbz.nu cbz.cu, .slice cbz.l cbz.nl cbz.cl]) bz) {k l : Nat} (f1 : QS k ax) (f2 : QS k ay) (f5 : QS k az) (f3 : QS l bx) (f4 : QS l bz) (hk : 3 * (k + l + 1) + 1 ≤ 35184372088640) :
    Calls Tryz.prog 130 #[.agg #[.bool cax.n, .slice cax.u cax.nu cax.cu, .slice cax.l cax.nl cax.cl, .bool cay.n, .slice cay.u cay.nu cay.cu, .slice cay.l cay.nl cay.cl, .bool caz.n, .slice caz.u caz.nu caz.cu, .slice caz.l caz.nl caz.cl], .agg #[.bool cbx.n, .slice cbx.u cbx.nu cbx.cu, .slice cbx.l cbx.nl cbx.cl, .bool cbz.n, .slice cbz.u cbz.nu cbz.cu, .slice cbz.l cbz.nl cbz.cl]] w fun e w' => Below w.heap.size w w' ∧ ∃ v, e = .returned v ∧ QV w' v (ax * bx + ay * bz + az) := by
  obtain ⟨hb0, hk0, hk1, hk2, hsz⟩ := boxes3 w #[.bool cax.n, .slice cax.u cax.nu cax.cu, .slice cax.l cax.nl cax.cl, .bool cay.n, .slice cay.u cay.nu cay.cu, .slice cay.l cay.nl cay.cl, .bool caz.n, .slice caz.u caz.nu caz.cu, .slice caz.l caz.nl caz.cl] #[.bool cbx.n, .slice cbx.u cbx.nu cbx.cu, .slice cbx.l cbx.nl cbx.cl, .bool cbz.n, .slice cbz.u cbz.nu cbz.cu, .slice cbz.l cbz.nl cbz.cl] #[.bool false, .slice none 0 0, .slice none 0 0] 112 72 70
  have HB0 := hideIt hb0
  have HSZ := hideIt hsz
  have HK0 := hideIt hk0
  have HK1 := hideIt hk1
  have HK2 := hideIt hk2
  have Hax := hideIt (hax.below hb0)
  have Hay := hideIt (hay.below hb0)
  have Haz := hideIt (haz.below hb0)
  have Hbx := hideIt (hbx.below hb0)
  have Hbz := hideIt (hbz.below hb0)
  have F1 := hideIt f1
  have F2 := hideIt f2
  have F3 := hideIt f3
  have F4 := hideIt f4
  have F5 := hideIt f5
  have HK := hideIt hk
  clear hb0 hsz hk0 hk1 hk2 hax hay haz hbx hbz f1 f2 f3 f4 f5 hk
  have HL : Hid (k + l + 1 ≤ 35184372088640) := by have := HK.out; show _ ≤ _; omega
  go_enter Tryz.func130, Tryz.ntmps130
  go_wp2_with fail
  generalize (((w.alloc (.cells #[.bool cax.n, .slice cax.u cax.nu cax.cu, .slice cax.l cax.nl cax.cl, .bool cay.n, .slice cay.u cay.nu cay.cu, .slice cay.l cay.nl cay.cl, .bool caz.n, .slice caz.u caz.nu caz.cu, .slice caz.l caz.nl caz.cl] 112)).alloc (.cells #[.bool cbx.n, .slice cbx.u cbx.nu cbx.cu, .slice cbx.l cbx.nl cbx.cl, .bool cbz.n, .slice cbz.u cbz.nu cbz.cu, .slice cbz.l cbz.nl cbz.cl] 72)).alloc (.cells #[.bool false, .slice none 0 0, .slice none 0 0] 70)) = W0 at *
  have HS : Hid (∀ w', Below W0.heap.size W0 w' → w'.cell? ⟨w.heap.size, 0, none⟩ = some (.bool cax.n) ∧ w'.cell? ⟨w.heap.size, 1, none⟩ = some (.slice cax.u cax.nu cax.cu) ∧ w'.cell? ⟨w.heap.size, 2, none⟩ = some (.slice cax.l cax.nl cax.cl) ∧ w'.cell? ⟨w.heap.size, 3, none⟩ = some (.bool cay.n) ∧ w'.cell? ⟨w.heap.size, 4, none⟩ = some (.slice cay.u cay.nu cay.cu) ∧ w'.cell? ⟨w.heap.size, 5, none⟩ = some (.slice cay.l cay.nl cay.cl) ∧ w'.cell? ⟨w.heap.size, 6, none⟩ = some (.bool caz.n) ∧ w'.cell? ⟨w.heap.size, 7, none⟩ = some (.slice caz.u caz.nu caz.cu) ∧ w'.cell? ⟨w.heap.size, 8, none⟩ = some (.slice caz.l caz.nl caz.cl) ∧ w'.cell? ⟨w.heap.size + 1, 0, none⟩ = some (.bool cbx.n) ∧ w'.cell? ⟨w.heap.size + 1, 1, none⟩ = some (.slice cbx.u cbx.nu cbx.cu) ∧ w'.cell? ⟨w.heap.size + 1, 2, none⟩ = some (.slice cbx.l cbx.nl cbx.cl) ∧ w'.cell? ⟨w.heap.size + 1, 3, none⟩ = some (.bool cbz.n) ∧ w'.cell? ⟨w.heap.size + 1, 4, none⟩ = some (.slice cbz.u cbz.nu cbz.cu) ∧ w'.cell? ⟨w.heap.size + 1, 5, none⟩ = some (.slice cbz.l cbz.nl cbz.cl)) := fun w' hb => ⟨(HK0.out.below hb (by rw [HSZ.out]; omega)).cell 0, (HK0.out.below hb (by rw [HSZ.out]; omega)).cell 1, (HK0.out.below hb (by rw [HSZ.out]; omega)).cell 2, (HK0.out.below hb (by rw [HSZ.out]; omega)).cell 3, (HK0.out.below hb (by rw [HSZ.out]; omega)).cell 4, (HK0.out.below hb (by rw [HSZ.out]; omega)).cell 5, (HK0.out.below hb (by rw [HSZ.out]; omega)).cell 6, (HK0.out.below hb (by rw [HSZ.out]; omega)).cell 7, (HK0.out.below hb (by rw [HSZ.out]; omega)).cell 8, (HK1.out.below hb (by rw [HSZ.out]; omega)).cell 0, (HK1.out.below hb (by rw [HSZ.out]; omega)).cell 1, (HK1.out.below hb (by rw [HSZ.out]; omega)).cell 2, (HK1.out.below hb (by rw [HSZ.out]; omega)).cell 3, (HK1.out.below hb (by rw [HSZ.out]; omega)).cell 4, (HK1.out.below hb (by rw [HSZ.out]; omega)).cell 5⟩
  have HSS : Hid (∀ w', Below W0.heap.size W0 w' → ∀ x0 x1 x2 : Value, (((w'.setCell ⟨w.heap.size + 1 + 1, 0, none⟩ (x0)).setCell ⟨w.heap.size + 1 + 1, 1, none⟩ (x1)).setCell ⟨w.heap.size + 1 + 1, 2, none⟩ (x2)).cell? ⟨w.heap.size, 0, none⟩ = some (.bool cax.n) ∧ (((w'.setCell ⟨w.heap.size + 1 + 1, 0, none⟩ (x0)).setCell ⟨w.heap.size + 1 + 1, 1, none⟩ (x1)).setCell ⟨w.heap.size + 1 + 1, 2, none⟩ (x2)).cell? ⟨w.heap.size, 1, none⟩ = some (.slice cax.u cax.nu cax.cu) ∧ (((w'.setCell ⟨w.heap.size + 1 + 1, 0, none⟩ (x0)).setCell ⟨w.heap.size + 1 + 1, 1, none⟩ (x1)).setCell ⟨w.heap.size + 1 + 1, 2, none⟩ (x2)).cell? ⟨w.heap.size, 2, none⟩ = some (.slice cax.l cax.nl cax.cl) ∧ (((w'.setCell ⟨w.heap.size + 1 + 1, 0, none⟩ (x0)).setCell ⟨w.heap.size + 1 + 1, 1, none⟩ (x1)).setCell ⟨w.heap.size + 1 + 1, 2, none⟩ (x2)).cell? ⟨w.heap.size, 3, none⟩ = some (.bool cay.n) ∧ (((w'.setCell ⟨w.heap.size + 1 + 1, 0, none⟩ (x0)).setCell ⟨w.heap.size + 1 + 1, 1, none⟩ (x1)).setCell ⟨w.heap.size + 1 + 1, 2, none⟩ (x2)).cell? ⟨w.heap.size, 4, none⟩ = some (.slice cay.u cay.nu cay.cu) ∧ (((w'.setCell ⟨w.heap.size + 1 + 1, 0, none⟩ (x0)).setCell ⟨w.heap.size + 1 + 1, 1, none⟩ (x1)).setCell ⟨w.heap.size + 1 + 1, 2, none⟩ (x2)).cell? ⟨w.heap.size, 5, none⟩ = some (.slice cay.l cay.nl cay.cl) ∧ (((w'.setCell ⟨w.heap.size + 1 + 1, 0, none⟩ (x0)).setCell ⟨w.heap.size + 1 + 1, 1, none⟩ (x1)).setCell ⟨w.heap.size + 1 + 1, 2, none⟩ (x2)).cell? ⟨w.heap.size, 6, none⟩ = some (.bool caz.n) ∧ (((w'.setCell ⟨w.heap.size + 1 + 1, 0, none⟩ (x0)).setCell ⟨w.heap.size + 1 + 1, 1, none⟩ (x1)).setCell ⟨w.heap.size + 1 + 1, 2, none⟩ (x2)).cell? ⟨w.heap.size, 7, none⟩ = some (.slice caz.u caz.nu caz.cu) ∧ (((w'.setCell ⟨w.heap.size + 1 + 1, 0, none⟩ (x0)).setCell ⟨w.heap.size + 1 + 1, 1, none⟩ (x1)).setCell ⟨w.heap.size + 1 + 1, 2, none⟩ (x2)).cell? ⟨w.heap.size, 8, none⟩ = some (.slice caz.l caz.nl caz.cl) ∧ (((w'.setCell ⟨w.heap.size + 1 + 1, 0, none⟩ (x0)).setCell ⟨w.heap.size + 1 + 1, 1, none⟩ (x1)).setCell ⟨w.heap.size + 1 + 1, 2, none⟩ (x2)).cell? ⟨w.heap.size + 1, 0, none⟩ = some (.bool cbx.n) ∧ (((w'.setCell ⟨w.heap.size + 1 + 1, 0, none⟩ (x0)).setCell ⟨w.heap.size + 1 + 1, 1, none⟩ (x1)).setCell ⟨w.heap.size + 1 + 1, 2, none⟩ (x2)).cell? ⟨w.heap.size + 1, 1, none⟩ = some (.slice cbx.u cbx.nu cbx.cu) ∧ (((w'.setCell ⟨w.heap.size + 1 + 1, 0, none⟩ (x0)).setCell ⟨w.heap.size + 1 + 1, 1, none⟩ (x1)).setCell ⟨w.heap.size + 1 + 1, 2, none⟩ (x2)).cell? ⟨w.heap.size + 1, 2, none⟩ = some (.slice cbx.l cbx.nl cbx.cl) ∧ (((w'.setCell ⟨w.heap.size + 1 + 1, 0, none⟩ (x0)).setCell ⟨w.heap.size + 1 + 1, 1, none⟩ (x1)).setCell ⟨w.heap.size + 1 + 1, 2, none⟩ (x2)).cell? ⟨w.heap.size + 1, 3, none⟩ = some (.bool cbz.n) ∧ (((w'.setCell ⟨w.heap.size + 1 + 1, 0, none⟩ (x0)).setCell ⟨w.heap.size + 1 + 1, 1, none⟩ (x1)).setCell ⟨w.heap.size + 1 + 1, 2, none⟩ (x2)).cell? ⟨w.heap.size + 1, 4, none⟩ = some (.slice cbz.u cbz.nu cbz.cu) ∧ (((w'.setCell ⟨w.heap.size + 1 + 1, 0, none⟩ (x0)).setCell ⟨w.heap.size + 1 + 1, 1, none⟩ (x1)).setCell ⟨w.heap.size + 1 + 1, 2, none⟩ (x2)).cell? ⟨w.heap.size + 1, 5, none⟩ = some (.slice cbz.l cbz.nl cbz.cl)) := fun w' hb x0 x1 x2 => ⟨((HK0.out.below hb (by rw [HSZ.out]; omega)).off3 (g := w.heap.size + 1 + 1) (by omega) x0 x1 x2).cell 0, ((HK0.out.below hb (by rw [HSZ.out]; omega)).off3 (g := w.heap.size + 1 + 1) (by omega) x0 x1 x2).cell 1, ((HK0.out.below hb (by rw [HSZ.out]; omega)).off3 (g := w.heap.size + 1 + 1) (by omega) x0 x1 x2).cell 2, ((HK0.out.below hb (by rw [HSZ.out]; omega)).off3 (g := w.heap.size + 1 + 1) (by omega) x0 x1 x2).cell 3, ((HK0.out.below hb (by rw [HSZ.out]; omega)).off3 (g := w.heap.size + 1 + 1) (by omega) x0 x1 x2).cell 4, ((HK0.out.below hb (by rw [HSZ.out]; omega)).off3 (g := w.heap.size + 1 + 1) (by omega) x0 x1 x2).cell 5, ((HK0.out.below hb (by rw [HSZ.out]; omega)).off3 (g := w.heap.size + 1 + 1) (by omega) x0 x1 x2).cell 6, ((HK0.out.below hb (by rw [HSZ.out]; omega)).off3 (g := w.heap.size + 1 + 1) (by omega) x0 x1 x2).cell 7, ((HK0.out.below hb (by rw [HSZ.out]; omega)).off3 (g := w.heap.size + 1 + 1) (by omega) x0 x1 x2).cell 8, ((HK1.out.below hb (by rw [HSZ.out]; omega)).off3 (g := w.heap.size + 1 + 1) (by omega) x0 x1 x2).cell 0, ((HK1.out.below hb (by rw [HSZ.out]; omega)).off3 (g := w.heap.size + 1 + 1) (by omega) x0 x1 x2).cell 1, ((HK1.out.below hb (by rw [HSZ.out]; omega)).off3 (g := w.heap.size + 1 + 1) (by omega) x0 x1 x2).cell 2, ((HK1.out.below hb (by rw [HSZ.out]; omega)).off3 (g := w.heap.size + 1 + 1) (by omega) x0 x1 x2).cell 3, ((HK1.out.below hb (by rw [HSZ.out]; omega)).off3 (g := w.heap.size + 1 + 1) (by omega) x0 x1 x2).cell 4, ((HK1.out.below hb (by rw [HSZ.out]; omega)).off3 (g := w.heap.size + 1 + 1) (by omega) x0 x1 x2).cell 5⟩
  obtain ⟨z0, z1, z2, z3, z4, z5, z6, z7, z8, z9, z10, z11, z12, z13, z14⟩ := HS.out W0 (Below.refl _ _)
  go_region_held3 (fun w' => w'.cell? ⟨w.heap.size, 0, none⟩ = some (.bool cax.n) ∧ w'.cell? ⟨w.heap.size, 1, none⟩ = some (.slice cax.u cax.nu cax.cu) ∧ w'.cell? ⟨w.heap.size, 2, none⟩ = some (.slice cax.l cax.nl cax.cl) ∧ w'.cell? ⟨w.heap.size, 3, none⟩ = some (.bool cay.n) ∧ w'.cell? ⟨w.heap.size, 4, none⟩ = some (.slice cay.u cay.nu cay.cu) ∧ w'.cell? ⟨w.heap.size, 5, none⟩ = some (.slice cay.l cay.nl cay.cl) ∧ w'.cell? ⟨w.heap.size, 6, none⟩ = some (.bool caz.n) ∧ w'.cell? ⟨w.heap.size, 7, none⟩ = some (.slice caz.u caz.nu caz.cu) ∧ w'.cell? ⟨w.heap.size, 8, none⟩ = some (.slice caz.l caz.nl caz.cl) ∧ w'.cell? ⟨w.heap.size + 1, 0, none⟩ = some (.bool cbx.n) ∧ w'.cell? ⟨w.heap.size + 1, 1, none⟩ = some (.slice cbx.u cbx.nu cbx.cu) ∧ w'.cell? ⟨w.heap.size + 1, 2, none⟩ = some (.slice cbx.l cbx.nl cbx.cl) ∧ w'.cell? ⟨w.heap.size + 1, 3, none⟩ = some (.bool cbz.n) ∧ w'.cell? ⟨w.heap.size + 1, 4, none⟩ = some (.slice cbz.u cbz.nu cbz.cu) ∧ w'.cell? ⟨w.heap.size + 1, 5, none⟩ = some (.slice cbz.l cbz.nl cbz.cl)) (first | go_keep | exact hs1 | exact hs2 | exact hsA2 | exact hs3 | exact hkS)
    (first
      | (go_at_call_of 86 (Value.agg #[Value.bool cax.n, Value.slice cax.u cax.nu cax.cu, Value.slice cax.l cax.nl cax.cl]); refine (times_calls (w := W0.drew) (Hax.out.below (Below.drew (Below.refl _ _))) (Hbx.out.below (Below.drew (Below.refl _ _))) F1.out F3.out HL.out).mono ?_; rintro e w1 ⟨hb1, v1, rfl, hv1⟩; have hbl1 : Below W0.heap.size W0 w1 := (Below.drew (Below.refl _ W0)).trans hb1; obtain ⟨d1, rfl⟩ := qv_open hv1; have hs1 := HS.out w1 hbl1)
      | (go_at_call_of 86 (Value.agg #[Value.bool cay.n, Value.slice cay.u cay.nu cay.cu, Value.slice cay.l cay.nl cay.cl]); refine (times_calls (Hay.out.below hbl1) (Hbz.out.below hbl1) F2.out F4.out HL.out).mono ?_; rintro e w2 ⟨hb2, v2, rfl, hv2⟩; have hbl2 := hbl1.trans (hb2.mono hbl1.size); obtain ⟨d2, rfl⟩ := qv_open hv2; have hs2 := HS.out w2 hbl2; have hbA2 := below_new w2 (.cells #[.bool d1.n, .slice d1.u d1.nu d1.cu, .slice d1.l d1.nl d1.cl, .bool d2.n, .slice d2.u d2.nu d2.cu, .slice d2.l d2.nl d2.cl, .bool caz.n, .slice caz.u caz.nu caz.cu, .slice caz.l caz.nl caz.cl] 70); have hblA2 := hbl2.trans (hbA2.mono hbl2.size); have hsA2 := HS.out _ hblA2)
      | (go_at_call 88; refine (sum_calls (qrow3 (hv1.below hb2) hv2 (Haz.out.below hbl2)) (all3 (F1.out.mul F3.out) (F2.out.mul F4.out) (F5.out.mono (Nat.le_add_right _ _))) (by simp) HK.out).mono ?_; rintro e w3 ⟨hb3, v3, rfl, hv3⟩; have hbl3 := hblA2.trans (hb3.mono hblA2.size); obtain ⟨d3, rfl⟩ := qv_open hv3; have hs3 := HS.out w3 hbl3; have hkr := HK2.out.below hbl3 (by rw [HSZ.out]; omega); obtain ⟨r0, r1, r2, f0, f1, f2⟩ := hkr.all3; have hkS := HSS.out w3 hbl3 (.bool d3.n) (.slice d3.u d3.nu d3.cu) (.slice d3.l d3.nl d3.cl))
      )
  all_goals
    go_wp2
    obtain ⟨k0, k1, k2, _, _, _⟩ := (hkr.put3 (.bool d3.n) (.slice d3.u d3.nu d3.cu) (.slice d3.l d3.nl d3.cl)).all3
    refine bodyPost_ret (v := .agg #[.bool d3.n, .slice d3.u d3.nu d3.cu, .slice d3.l d3.nl d3.cl]) (by simp [results, Tryz.results130, go_sem, k0, k1, k2]) rfl ⟨Below.put3 (HB0.out.trans (hbl3.mono HB0.out.size)) (by omega) (.bool d3.n) (.slice d3.u d3.nu d3.cu) (.slice d3.l d3.nl d3.cl), _, rfl, ?_⟩
    have hst := Stays.put3 hkr (by simp [notLimb]) (.bool d3.n) (.slice d3.u d3.nu d3.cu) (.slice d3.l d3.nl d3.cl) rfl rfl rfl
    rw [rsum3] at hv3; exact hst.qv hv3

/-- Value: A x + B y + C. -/
theorem lineValue_calls {w : World} {va vb : Value} {ax ay az bx bz : Rat} {k l : Nat} (ha : LV w va ax ay az) (hb : WV w vb bx bz) (f1 : QS k ax) (f2 : QS k ay) (f5 : QS k az) (f3 : QS l bx) (f4 : QS l bz) (hk : 3 * (k + l + 1) + 1 ≤ 35184372088640) :
    Calls Tryz.prog 130 #[va, vb] w fun e w' => Below w.heap.size w w' ∧ ∃ v, e = .returned v ∧ QV w' v (ax * bx + ay * bz + az) := by
  obtain ⟨c1, c2, c5, rfl, h1, h2, h5⟩ := ha
  obtain ⟨c3, c4, rfl, h3, h4⟩ := hb
  exact lineValue_walk h1 h2 h5 h3 h4 f1 f2 f5 f3 f4 hk

end Go.Proofs.YtpalknbmejachaaGreatDoor
/- Walks: Nowhere, Read and Text of ways, Int, Square and Drop of lines, between. -/
namespace Go.Proofs.YtpalknbmejachaaGreatDoor
open Go.RowKit Cx

attribute [local go_sem ↓] Go.wp_at_zero Go.wp_at_succ

theorem sg_zero {q : Rat} : (q.num = 0) ↔ q = 0 := Rat.num_eq_zero

set_option maxHeartbeats 4000000 in
set_option maxRecDepth 100000 in
theorem nowhere_walk {w : World} {c d : C3} {x y : Rat} (hx : QV w (.agg #[.bool c.n, .slice c.u c.nu c.cu, .slice c.l c.nl c.cl]) x) (hy : QV w (.agg #[.bool d.n, .slice d.u d.nu d.cu, .slice d.l d.nl d.cl]) y) :
    Calls Tryz.prog 42 #[.agg #[.bool c.n, .slice c.u c.nu c.cu, .slice c.l c.nl c.cl, .bool d.n, .slice d.u d.nu d.cu, .slice d.l d.nl d.cl]] w fun e w' => Below w.heap.size w w' ∧ e = .returned (.bool (decide (x = 0 ∧ y = 0))) := by
  obtain ⟨hb0, hk0, hsz⟩ := boxes1 w #[.bool c.n, .slice c.u c.nu c.cu, .slice c.l c.nl c.cl, .bool d.n, .slice d.u d.nu d.cu, .slice d.l d.nl d.cl] 72
  have HB0 := hideIt hb0
  have HSZ := hideIt hsz
  have HK0 := hideIt hk0
  have HX := hideIt (hx.below hb0)
  have HY := hideIt (hy.below hb0)
  clear hb0 hsz hk0 hx hy
  obtain ⟨r, hr⟩ : ∃ r, r = decide (x = 0 ∧ y = 0) := ⟨_, rfl⟩
  rw [← hr]
  have HRR := hideIt hr
  clear hr
  go_enter Tryz.func42, Tryz.ntmps42
  go_wp2_with fail
  generalize (w.alloc (.cells #[.bool c.n, .slice c.u c.nu c.cu, .slice c.l c.nl c.cl, .bool d.n, .slice d.u d.nu d.cu, .slice d.l d.nl d.cl] 72)) = W0 at *
  refine (sign_calls HX.out).mono ?_
  rintro e w1 ⟨hb1, rfl⟩
  have hk1 := HK0.out.below hb1 (by rw [HSZ.out]; omega)
  obtain ⟨y0, y1, y2, y3, y4, y5, _⟩ := hk1.all6
  by_cases h1 : x = 0
  · rw [if_pos (sg_zero.2 h1)]
    have HX1 := hideIt h1
    clear h1
    go_wp2_with fail
    refine (sign_calls (HY.out.below hb1)).mono ?_
    rintro e w2 ⟨hb2, rfl⟩
    by_cases h2 : y = 0
    · rw [if_pos (sg_zero.2 h2)]
      have HX2 := hideIt h2
      clear h2
      go_wp2
      go_ret
      exact ⟨HB0.out.trans ((hb1.trans (hb2.mono hb1.size)).mono HB0.out.size), by rw [HRR.out, decide_eq_true (And.intro HX1.out HX2.out)]; rfl⟩
    · rw [if_neg (fun h => h2 (sg_zero.1 h))]
      have hne : ((if y.num < 0 then (-1 : Int) else 1) == 0) = false := by split <;> rfl
      generalize (if y.num < 0 then (-1 : Int) else 1) = z at *
      have HX2 := hideIt h2
      clear h2
      go_wp2
      go_ret
      exact ⟨HB0.out.trans ((hb1.trans (hb2.mono hb1.size)).mono HB0.out.size), by rw [HRR.out, decide_eq_false (fun h => HX2.out h.2)]; rfl⟩
  · rw [if_neg (fun h => h1 (sg_zero.1 h))]
    have hne : ((if x.num < 0 then (-1 : Int) else 1) == 0) = false := by split <;> rfl
    generalize (if x.num < 0 then (-1 : Int) else 1) = z at *
    have HX1 := hideIt h1
    clear h1
    go_wp2
    go_ret
    exact ⟨HB0.out.trans (hb1.mono HB0.out.size), by rw [HRR.out, decide_eq_false (fun h => HX1.out h.1)]; rfl⟩

/-- Nowhere: no length. -/
theorem nowhere_calls {w : World} {v : Value} {x y : Rat} (h : WV w v x y) :
    Calls Tryz.prog 42 #[v] w fun e w' => Below w.heap.size w w' ∧ e = .returned (.bool (decide (x = 0 ∧ y = 0))) := by
  obtain ⟨c, d, rfl, h1, h2⟩ := h
  exact nowhere_walk h1 h2

theorem fr_nat (n : Nat) (hl : (1 : Nat) ≠ 0) (hc : Nat.Coprime n 1) : fr false n 1 hl hc = (n : Rat) := by
  have := fr_eq (neg := false) (u := n) (l := 1) (hl := hl) (hc := hc) (n := (n : Int)) (d := 1) (by decide) (by simp [sg])
  rw [this, Rat.mkRat_one]
  rfl

set_option maxHeartbeats 4000000 in
/-- Int: a machine number. -/
theorem int_calls (n : Nat) (hn : n < 9223372036854775808) (w : World) :
    Calls Tryz.prog 73 #[.int .i64 n] w fun e w' => Below w.heap.size w w' ∧ ∃ v, e = .returned v ∧ QV w' v (n : Rat) := by
  obtain ⟨hb0, hk0, hsz⟩ := boxes1 w #[.bool false, .slice none 0 0, .slice none 0 0] 70
  have HB0 := hideIt hb0
  have HSZ := hideIt hsz
  have HK0 := hideIt hk0
  clear hb0 hsz hk0
  go_enter Tryz.func73, Tryz.ntmps73
  go_wp2_with fail
  generalize (w.alloc (.cells #[.bool false, .slice none 0 0, .slice none 0 0] 70)) = W0 at *
  refine (natOf_calls n W0 (by omega)).mono ?_
  rintro e w1 ⟨hb1, v1, rfl, hv1⟩
  go_wp2_with fail
  refine (one_calls w1).mono ?_
  rintro e w2 ⟨hb2, v2, rfl, hv2⟩
  go_wp2_with fail
  refine (ready_calls (neg := false) (hv1.below hb2) hv2 (by decide) (Nat.coprime_one_right n)).mono ?_
  rintro e w3 ⟨hb3, v3, rfl, hv3⟩
  rw [fr_nat] at hv3
  obtain ⟨d3, rfl⟩ := qv_open hv3
  have hbl2 := hb1.trans (hb2.mono hb1.size)
  have hbl3 := hbl2.trans (hb3.mono hbl2.size)
  have hkr := HK0.out.below hbl3 (by rw [HSZ.out]; omega)
  obtain ⟨r0, r1, r2, f0, f1, f2⟩ := hkr.all3
  have HV := hideIt hv3
  clear hv1 hv2 hv3
  go_wp2
  obtain ⟨k0, k1, k2, _, _, _⟩ := (hkr.put3 (.bool d3.n) (.slice d3.u d3.nu d3.cu) (.slice d3.l d3.nl d3.cl)).all3
  refine bodyPost_ret (v := .agg #[.bool d3.n, .slice d3.u d3.nu d3.cu, .slice d3.l d3.nl d3.cl]) (by simp [results, Tryz.results73, go_sem, k0, k1, k2]) rfl ⟨Below.put3 (HB0.out.trans (hbl3.mono HB0.out.size)) (by omega) _ _ _, _, rfl, ?_⟩
  exact (Stays.put3 hkr (by simp [notLimb]) (.bool d3.n) (.slice d3.u d3.nu d3.cu) (.slice d3.l d3.nl d3.cl) rfl rfl rfl).qv HV.out

/-- The value v is a pair of texts. -/
def PV (v : Value) (lx ly : List UInt8) : Prop := ∃ a b : ByteArray, v = .agg #[.string a, .string b] ∧ a.data.toList = lx ∧ b.data.toList = ly
/-- The value v is three texts. -/
def TV (v : Value) (lx ly lz : List UInt8) : Prop := ∃ a b c : ByteArray, v = .agg #[.string a, .string b, .string c] ∧ a.data.toList = lx ∧ b.data.toList = ly ∧ c.data.toList = lz

set_option maxHeartbeats 4000000 in
set_option maxRecDepth 100000 in
theorem wayRead_walk {w : World} {px pz : ByteArray} (s1 : px.size ≤ 4294967296) (s2 : pz.size ≤ 4294967296) :
    Calls Tryz.prog 62 #[.agg #[.string px, .string pz]] w fun e w' => Below w.heap.size w w' ∧ ∃ v, e = .returned v ∧ WV w' v (rd px.data.toList) (rd pz.data.toList) := by
  obtain ⟨hb0, hk0, hk1, hsz⟩ := boxes2 w #[.string px, .string pz] #[.bool false, .slice none 0 0, .slice none 0 0, .bool false, .slice none 0 0, .slice none 0 0] 24 72
  have HB0 := hideIt hb0
  have HSZ := hideIt hsz
  have HK0 := hideIt hk0
  have HK1 := hideIt hk1
  have S1 := hideIt s1
  have S2 := hideIt s2
  clear hb0 hsz hk0 hk1  s1 s2
  go_enter Tryz.func62, Tryz.ntmps62
  go_wp2_with fail
  generalize ((w.alloc (.cells #[.string px, .string pz] 24)).alloc (.cells #[.bool false, .slice none 0 0, .slice none 0 0, .bool false, .slice none 0 0, .slice none 0 0] 72)) = W0 at *
  have HS : Hid (∀ w', Below W0.heap.size W0 w' → w'.cell? ⟨w.heap.size, 0, none⟩ = some (.string px) ∧ w'.cell? ⟨w.heap.size, 1, none⟩ = some (.string pz)) := fun w' hb => ⟨(HK0.out.below hb (by rw [HSZ.out]; omega)).cell 0, (HK0.out.below hb (by rw [HSZ.out]; omega)).cell 1⟩
  have HSS : Hid (∀ w', Below W0.heap.size W0 w' → ∀ x0 x1 x2 x3 x4 x5 : Value, ((((((w'.setCell ⟨w.heap.size + 1, 0, none⟩ (x0)).setCell ⟨w.heap.size + 1, 1, none⟩ (x1)).setCell ⟨w.heap.size + 1, 2, none⟩ (x2)).setCell ⟨w.heap.size + 1, 3, none⟩ (x3)).setCell ⟨w.heap.size + 1, 4, none⟩ (x4)).setCell ⟨w.heap.size + 1, 5, none⟩ (x5)).cell? ⟨w.heap.size, 0, none⟩ = some (.string px) ∧ ((((((w'.setCell ⟨w.heap.size + 1, 0, none⟩ (x0)).setCell ⟨w.heap.size + 1, 1, none⟩ (x1)).setCell ⟨w.heap.size + 1, 2, none⟩ (x2)).setCell ⟨w.heap.size + 1, 3, none⟩ (x3)).setCell ⟨w.heap.size + 1, 4, none⟩ (x4)).setCell ⟨w.heap.size + 1, 5, none⟩ (x5)).cell? ⟨w.heap.size, 1, none⟩ = some (.string pz)) := fun w' hb x0 x1 x2 x3 x4 x5 => ⟨((HK0.out.below hb (by rw [HSZ.out]; omega)).off6 (g := w.heap.size + 1) (by omega) x0 x1 x2 x3 x4 x5).cell 0, ((HK0.out.below hb (by rw [HSZ.out]; omega)).off6 (g := w.heap.size + 1) (by omega) x0 x1 x2 x3 x4 x5).cell 1⟩
  obtain ⟨z0, z1⟩ := HS.out W0 (Below.refl _ _)
  go_region_held3 (fun w' => w'.cell? ⟨w.heap.size, 0, none⟩ = some (.string px) ∧ w'.cell? ⟨w.heap.size, 1, none⟩ = some (.string pz)) (first | go_keep | exact hs1 | exact hs2 | exact hkS)
    (first
      | (go_at_call_of 64 (Value.string px); refine (read_calls (w := W0.drew) px S1.out).mono ?_; rintro e w1 ⟨hb1, v1, rfl, hv1⟩; have hbl1 : Below W0.heap.size W0 w1 := (Below.drew (Below.refl _ W0)).trans hb1; obtain ⟨d1, rfl⟩ := qv_open hv1; have hs1 := HS.out w1 hbl1)
      | (go_at_call_of 64 (Value.string pz); refine (read_calls pz _ S2.out).mono ?_; rintro e w2 ⟨hb2, v2, rfl, hv2⟩; have hbl2 := hbl1.trans (hb2.mono hbl1.size); obtain ⟨d2, rfl⟩ := qv_open hv2; have hs2 := HS.out w2 hbl2; have hkr := HK1.out.below hbl2 (by rw [HSZ.out]; omega); obtain ⟨r0, r1, r2, r3, r4, r5, f0, f1, f2, f3, f4, f5⟩ := hkr.all6; have hkS := HSS.out w2 hbl2 (.bool d1.n) (.slice d1.u d1.nu d1.cu) (.slice d1.l d1.nl d1.cl) (.bool d2.n) (.slice d2.u d2.nu d2.cu) (.slice d2.l d2.nl d2.cl))
      )
  all_goals
    go_wp2
    obtain ⟨k0, k1, k2, k3, k4, k5, _, _, _, _, _, _⟩ := (hkr.put6 (.bool d1.n) (.slice d1.u d1.nu d1.cu) (.slice d1.l d1.nl d1.cl) (.bool d2.n) (.slice d2.u d2.nu d2.cu) (.slice d2.l d2.nl d2.cl)).all6
    refine bodyPost_ret (v := .agg #[.bool d1.n, .slice d1.u d1.nu d1.cu, .slice d1.l d1.nl d1.cl, .bool d2.n, .slice d2.u d2.nu d2.cu, .slice d2.l d2.nl d2.cl]) (by simp [results, Tryz.results62, go_sem, k0, k1, k2, k3, k4, k5]) rfl ⟨Below.put6 (HB0.out.trans (hbl2.mono HB0.out.size)) (by omega) (.bool d1.n) (.slice d1.u d1.nu d1.cu) (.slice d1.l d1.nl d1.cl) (.bool d2.n) (.slice d2.u d2.nu d2.cu) (.slice d2.l d2.nl d2.cl), _, rfl, ?_⟩
    have hst := Stays.put6 hkr (by simp [notLimb]) (.bool d1.n) (.slice d1.u d1.nu d1.cu) (.slice d1.l d1.nl d1.cl) (.bool d2.n) (.slice d2.u d2.nu d2.cu) (.slice d2.l d2.nl d2.cl) rfl rfl rfl rfl rfl rfl
    exact ⟨d1, d2, rfl, hst.qv (hv1.below hb2), hst.qv hv2⟩

theorem str_len (a : ByteArray) : a.data.toList.length = a.size := by simp

/-- Read: what the texts of a point tell. -/
theorem wayRead_calls {w : World} {v : Value} {lx ly : List UInt8} (h : PV v lx ly) (s1 : lx.length ≤ 4294967296) (s2 : ly.length ≤ 4294967296) :
    Calls Tryz.prog 62 #[v] w fun e w' => Below w.heap.size w w' ∧ ∃ v, e = .returned v ∧ WV w' v (rd lx) (rd ly) := by
  obtain ⟨a, b, rfl, rfl, rfl⟩ := h
  exact wayRead_walk (by rwa [str_len] at s1) (by rwa [str_len] at s2)

set_option maxHeartbeats 4000000 in
set_option maxRecDepth 100000 in
theorem wayText_walk {w : World} {cax cay : C3} {ax ay : Rat} (hax : QV w (.agg #[.bool cax.n, .slice cax.u cax.nu cax.cu, .slice cax.l cax.nl cax.cl]) ax) (hay : QV w (.agg #[.bool cay.n, .slice cay.u cay.nu cay.cu, .slice cay.l cay.nl cay.cl]) ay) {k : Nat} (f1 : QS k ax) (f2 : QS k ay) (hk : k ≤ 35184372088640) (tab : Tab w) :
    Calls Tryz.prog 65 #[.agg #[.bool cax.n, .slice cax.u cax.nu cax.cu, .slice cax.l cax.nl cax.cl, .bool cay.n, .slice cay.u cay.nu cay.cu, .slice cay.l cay.nl cay.cl]] w fun e w' => Below w.heap.size w w' ∧ ∃ v, e = .returned v ∧ PV v (tx ax) (tx ay) := by
  obtain ⟨hb0, hk0, hk1, hsz⟩ := boxes2 w #[.bool cax.n, .slice cax.u cax.nu cax.cu, .slice cax.l cax.nl cax.cl, .bool cay.n, .slice cay.u cay.nu cay.cu, .slice cay.l cay.nl cay.cl] #[.string ⟨#[]⟩, .string ⟨#[]⟩] 72 24
  have HB0 := hideIt hb0
  have HSZ := hideIt hsz
  have HK0 := hideIt hk0
  have HK1 := hideIt hk1
  have Hax := hideIt (hax.below hb0)
  have Hay := hideIt (hay.below hb0)
  have F1 := hideIt f1
  have F2 := hideIt f2
  have HK := hideIt hk
  have HTAB := hideIt (tab.below hb0)
  clear tab
  clear hb0 hsz hk0 hk1 hax hay f1 f2 hk
  go_enter Tryz.func65, Tryz.ntmps65
  go_wp2_with fail
  generalize ((w.alloc (.cells #[.bool cax.n, .slice cax.u cax.nu cax.cu, .slice cax.l cax.nl cax.cl, .bool cay.n, .slice cay.u cay.nu cay.cu, .slice cay.l cay.nl cay.cl] 72)).alloc (.cells #[.string ⟨#[]⟩, .string ⟨#[]⟩] 24)) = W0 at *
  have HS : Hid (∀ w', Below W0.heap.size W0 w' → w'.cell? ⟨w.heap.size, 0, none⟩ = some (.bool cax.n) ∧ w'.cell? ⟨w.heap.size, 1, none⟩ = some (.slice cax.u cax.nu cax.cu) ∧ w'.cell? ⟨w.heap.size, 2, none⟩ = some (.slice cax.l cax.nl cax.cl) ∧ w'.cell? ⟨w.heap.size, 3, none⟩ = some (.bool cay.n) ∧ w'.cell? ⟨w.heap.size, 4, none⟩ = some (.slice cay.u cay.nu cay.cu) ∧ w'.cell? ⟨w.heap.size, 5, none⟩ = some (.slice cay.l cay.nl cay.cl)) := fun w' hb => ⟨(HK0.out.below hb (by rw [HSZ.out]; omega)).cell 0, (HK0.out.below hb (by rw [HSZ.out]; omega)).cell 1, (HK0.out.below hb (by rw [HSZ.out]; omega)).cell 2, (HK0.out.below hb (by rw [HSZ.out]; omega)).cell 3, (HK0.out.below hb (by rw [HSZ.out]; omega)).cell 4, (HK0.out.below hb (by rw [HSZ.out]; omega)).cell 5⟩
  have HSS : Hid (∀ w', Below W0.heap.size W0 w' → ∀ x0 x1 : Value, ((w'.setCell ⟨w.heap.size + 1, 0, none⟩ (x0)).setCell ⟨w.heap.size + 1, 1, none⟩ (x1)).cell? ⟨w.heap.size, 0, none⟩ = some (.bool cax.n) ∧ ((w'.setCell ⟨w.heap.size + 1, 0, none⟩ (x0)).setCell ⟨w.heap.size + 1, 1, none⟩ (x1)).cell? ⟨w.heap.size, 1, none⟩ = some (.slice cax.u cax.nu cax.cu) ∧ ((w'.setCell ⟨w.heap.size + 1, 0, none⟩ (x0)).setCell ⟨w.heap.size + 1, 1, none⟩ (x1)).cell? ⟨w.heap.size, 2, none⟩ = some (.slice cax.l cax.nl cax.cl) ∧ ((w'.setCell ⟨w.heap.size + 1, 0, none⟩ (x0)).setCell ⟨w.heap.size + 1, 1, none⟩ (x1)).cell? ⟨w.heap.size, 3, none⟩ = some (.bool cay.n) ∧ ((w'.setCell ⟨w.heap.size + 1, 0, none⟩ (x0)).setCell ⟨w.heap.size + 1, 1, none⟩ (x1)).cell? ⟨w.heap.size, 4, none⟩ = some (.slice cay.u cay.nu cay.cu) ∧ ((w'.setCell ⟨w.heap.size + 1, 0, none⟩ (x0)).setCell ⟨w.heap.size + 1, 1, none⟩ (x1)).cell? ⟨w.heap.size, 5, none⟩ = some (.slice cay.l cay.nl cay.cl)) := fun w' hb x0 x1 => ⟨((HK0.out.below hb (by rw [HSZ.out]; omega)).off2 (g := w.heap.size + 1) (by omega) x0 x1).cell 0, ((HK0.out.below hb (by rw [HSZ.out]; omega)).off2 (g := w.heap.size + 1) (by omega) x0 x1).cell 1, ((HK0.out.below hb (by rw [HSZ.out]; omega)).off2 (g := w.heap.size + 1) (by omega) x0 x1).cell 2, ((HK0.out.below hb (by rw [HSZ.out]; omega)).off2 (g := w.heap.size + 1) (by omega) x0 x1).cell 3, ((HK0.out.below hb (by rw [HSZ.out]; omega)).off2 (g := w.heap.size + 1) (by omega) x0 x1).cell 4, ((HK0.out.below hb (by rw [HSZ.out]; omega)).off2 (g := w.heap.size + 1) (by omega) x0 x1).cell 5⟩
  obtain ⟨z0, z1, z2, z3, z4, z5⟩ := HS.out W0 (Below.refl _ _)
  go_region_held3 (fun w' => w'.cell? ⟨w.heap.size, 0, none⟩ = some (.bool cax.n) ∧ w'.cell? ⟨w.heap.size, 1, none⟩ = some (.slice cax.u cax.nu cax.cu) ∧ w'.cell? ⟨w.heap.size, 2, none⟩ = some (.slice cax.l cax.nl cax.cl) ∧ w'.cell? ⟨w.heap.size, 3, none⟩ = some (.bool cay.n) ∧ w'.cell? ⟨w.heap.size, 4, none⟩ = some (.slice cay.u cay.nu cay.cu) ∧ w'.cell? ⟨w.heap.size, 5, none⟩ = some (.slice cay.l cay.nl cay.cl)) (first | go_keep | exact hs1 | exact hs2 | exact hkS)
    (first
      | (go_at_call_of 47 (Value.agg #[Value.bool cax.n, Value.slice cax.u cax.nu cax.cu, Value.slice cax.l cax.nl cax.cl]); refine (text_calls (w := W0.drew) (Hax.out.below (Below.drew (Below.refl _ _))) F1.out HK.out (HTAB.out.below (Below.drew (Below.refl _ _)))).mono ?_; rintro e w1 ⟨hb1, s1, rfl, ht1⟩; have hbl1 : Below W0.heap.size W0 w1 := (Below.drew (Below.refl _ W0)).trans hb1; have hs1 := HS.out w1 hbl1)
      | (go_at_call_of 47 (Value.agg #[Value.bool cay.n, Value.slice cay.u cay.nu cay.cu, Value.slice cay.l cay.nl cay.cl]); refine (text_calls (Hay.out.below hbl1) F2.out HK.out (HTAB.out.below hbl1)).mono ?_; rintro e w2 ⟨hb2, s2, rfl, ht2⟩; have hbl2 := hbl1.trans (hb2.mono hbl1.size); have hs2 := HS.out w2 hbl2; have hkr := HK1.out.below hbl2 (by rw [HSZ.out]; omega); obtain ⟨r0, r1, f0, f1⟩ := hkr.all2; have hkS := HSS.out w2 hbl2 (.string s1) (.string s2))
      )
  all_goals
    go_wp2
    obtain ⟨k0, k1, _, _⟩ := (hkr.put2 (.string s1) (.string s2)).all2
    refine bodyPost_ret (v := .agg #[.string s1, .string s2]) (by simp [results, Tryz.results65, go_sem, k0, k1]) rfl ⟨Below.put2 (HB0.out.trans (hbl2.mono HB0.out.size)) (by omega) (.string s1) (.string s2), _, rfl, ?_⟩
    exact ⟨s1, s2, rfl, ht1, ht2⟩

/-- Text: the point as it is answered. -/
theorem wayText_calls {w : World} {va : Value} {ax ay : Rat} {k : Nat} (ha : WV w va ax ay) (f1 : QS k ax) (f2 : QS k ay) (hk : k ≤ 35184372088640) (tab : Tab w) :
    Calls Tryz.prog 65 #[va] w fun e w' => Below w.heap.size w w' ∧ ∃ v, e = .returned v ∧ PV v (tx ax) (tx ay) := by
  obtain ⟨c1, c2, rfl, h1, h2⟩ := ha
  exact wayText_walk h1 h2 f1 f2 hk tab

set_option maxHeartbeats 4000000 in
set_option maxRecDepth 100000 in
theorem rulerSquare_walk {w : World} {cpx cpz cax cay : C3} {px pz ax ay : Rat} (hpx : QV w (.agg #[.bool cpx.n, .slice cpx.u cpx.nu cpx.cu, .slice cpx.l cpx.nl cpx.cl]) px) (hpz : QV w (.agg #[.bool cpz.n, .slice cpz.u cpz.nu cpz.cu, .slice cpz.l cpz.nl cpz.cl]) pz) (hax : QV w (.agg #[.bool cax.n, .slice cax.u cax.nu cax.cu, .slice cax.l cax.nl cax.cl]) ax) (hay : QV w (.agg #[.bool cay.n, .slice cay.u cay.nu cay.cu, .slice cay.l cay.nl cay.cl]) ay) {k l : Nat} (f1 : QS k ax) (f2 : QS k ay) (f3 : QS l px) (f4 : QS l pz) (hk : 2 * (k + l + 1) + 1 ≤ 35184372088640) :
    Calls Tryz.prog 128 #[.agg #[.bool cpx.n, .slice cpx.u cpx.nu cpx.cu, .slice cpx.l cpx.nl cpx.cl, .bool cpz.n, .slice cpz.u cpz.nu cpz.cu, .slice cpz.l cpz.nl cpz.cl], .agg #[.bool cax.n, .slice cax.u cax.nu cax.cu, .slice cax.l cax.nl cax.cl, .bool cay.n, .slice cay.u cay.nu cay.cu, .slice cay.l cay.nl cay.cl]] w fun e w' => Below w.heap.size w w' ∧ ∃ v, e = .returned v ∧ LV w' v ax ay (-(ax * px + ay * pz)) := by
  obtain ⟨hb0, hk0, hk1, hk2, hsz⟩ := boxes3 w #[.bool cpx.n, .slice cpx.u cpx.nu cpx.cu, .slice cpx.l cpx.nl cpx.cl, .bool cpz.n, .slice cpz.u cpz.nu cpz.cu, .slice cpz.l cpz.nl cpz.cl] #[.bool cax.n, .slice cax.u cax.nu cax.cu, .slice cax.l cax.nl cax.cl, .bool cay.n, .slice cay.u cay.nu cay.cu, .slice cay.l cay.nl cay.cl] #[.bool false, .slice none 0 0, .slice none 0 0, .bool false, .slice none 0 0, .slice none 0 0, .bool false, .slice none 0 0, .slice none 0 0] 72 72 112
  have HB0 := hideIt hb0
  have HSZ := hideIt hsz
  have HK0 := hideIt hk0
  have HK1 := hideIt hk1
  have HK2 := hideIt hk2
  have Hpx := hideIt (hpx.below hb0)
  have Hpz := hideIt (hpz.below hb0)
  have Hax := hideIt (hax.below hb0)
  have Hay := hideIt (hay.below hb0)
  have F1 := hideIt f1
  have F2 := hideIt f2
  have F3 := hideIt f3
  have F4 := hideIt f4
  have HK := hideIt hk
  clear hb0 hsz hk0 hk1 hk2 hpx hpz hax hay f1 f2 f3 f4 hk
  go_enter Tryz.func128, Tryz.ntmps128
  go_wp2_with fail
  generalize (((w.alloc (.cells #[.bool cpx.n, .slice cpx.u cpx.nu cpx.cu, .slice cpx.l cpx.nl cpx.cl, .bool cpz.n, .slice cpz.u cpz.nu cpz.cu, .slice cpz.l cpz.nl cpz.cl] 72)).alloc (.cells #[.bool cax.n, .slice cax.u cax.nu cax.cu, .slice cax.l cax.nl cax.cl, .bool cay.n, .slice cay.u cay.nu cay.cu, .slice cay.l cay.nl cay.cl] 72)).alloc (.cells #[.bool false, .slice none 0 0, .slice none 0 0, .bool false, .slice none 0 0, .slice none 0 0, .bool false, .slice none 0 0, .slice none 0 0] 112)) = W0 at *
  have HS : Hid (∀ w', Below W0.heap.size W0 w' → w'.cell? ⟨w.heap.size, 0, none⟩ = some (.bool cpx.n) ∧ w'.cell? ⟨w.heap.size, 1, none⟩ = some (.slice cpx.u cpx.nu cpx.cu) ∧ w'.cell? ⟨w.heap.size, 2, none⟩ = some (.slice cpx.l cpx.nl cpx.cl) ∧ w'.cell? ⟨w.heap.size, 3, none⟩ = some (.bool cpz.n) ∧ w'.cell? ⟨w.heap.size, 4, none⟩ = some (.slice cpz.u cpz.nu cpz.cu) ∧ w'.cell? ⟨w.heap.size, 5, none⟩ = some (.slice cpz.l cpz.nl cpz.cl) ∧ w'.cell? ⟨w.heap.size + 1, 0, none⟩ = some (.bool cax.n) ∧ w'.cell? ⟨w.heap.size + 1, 1, none⟩ = some (.slice cax.u cax.nu cax.cu) ∧ w'.cell? ⟨w.heap.size + 1, 2, none⟩ = some (.slice cax.l cax.nl cax.cl) ∧ w'.cell? ⟨w.heap.size + 1, 3, none⟩ = some (.bool cay.n) ∧ w'.cell? ⟨w.heap.size + 1, 4, none⟩ = some (.slice cay.u cay.nu cay.cu) ∧ w'.cell? ⟨w.heap.size + 1, 5, none⟩ = some (.slice cay.l cay.nl cay.cl)) := fun w' hb => ⟨(HK0.out.below hb (by rw [HSZ.out]; omega)).cell 0, (HK0.out.below hb (by rw [HSZ.out]; omega)).cell 1, (HK0.out.below hb (by rw [HSZ.out]; omega)).cell 2, (HK0.out.below hb (by rw [HSZ.out]; omega)).cell 3, (HK0.out.below hb (by rw [HSZ.out]; omega)).cell 4, (HK0.out.below hb (by rw [HSZ.out]; omega)).cell 5, (HK1.out.below hb (by rw [HSZ.out]; omega)).cell 0, (HK1.out.below hb (by rw [HSZ.out]; omega)).cell 1, (HK1.out.below hb (by rw [HSZ.out]; omega)).cell 2, (HK1.out.below hb (by rw [HSZ.out]; omega)).cell 3, (HK1.out.below hb (by rw [HSZ.out]; omega)).cell 4, (HK1.out.below hb (by rw [HSZ.out]; omega)).cell 5⟩
  have HSS : Hid (∀ w', Below W0.heap.size W0 w' → ∀ x0 x1 x2 x3 x4 x5 x6 x7 x8 : Value, (((((((((w'.setCell ⟨w.heap.size + 1 + 1, 0, none⟩ (x0)).setCell ⟨w.heap.size + 1 + 1, 1, none⟩ (x1)).setCell ⟨w.heap.size + 1 + 1, 2, none⟩ (x2)).setCell ⟨w.heap.size + 1 + 1, 3, none⟩ (x3)).setCell ⟨w.heap.size + 1 + 1, 4, none⟩ (x4)).setCell ⟨w.heap.size + 1 + 1, 5, none⟩ (x5)).setCell ⟨w.heap.size + 1 + 1, 6, none⟩ (x6)).setCell ⟨w.heap.size + 1 + 1, 7, none⟩ (x7)).setCell ⟨w.heap.size + 1 + 1, 8, none⟩ (x8)).cell? ⟨w.heap.size, 0, none⟩ = some (.bool cpx.n) ∧ (((((((((w'.setCell ⟨w.heap.size + 1 + 1, 0, none⟩ (x0)).setCell ⟨w.heap.size + 1 + 1, 1, none⟩ (x1)).setCell ⟨w.heap.size + 1 + 1, 2, none⟩ (x2)).setCell ⟨w.heap.size + 1 + 1, 3, none⟩ (x3)).setCell ⟨w.heap.size + 1 + 1, 4, none⟩ (x4)).setCell ⟨w.heap.size + 1 + 1, 5, none⟩ (x5)).setCell ⟨w.heap.size + 1 + 1, 6, none⟩ (x6)).setCell ⟨w.heap.size + 1 + 1, 7, none⟩ (x7)).setCell ⟨w.heap.size + 1 + 1, 8, none⟩ (x8)).cell? ⟨w.heap.size, 1, none⟩ = some (.slice cpx.u cpx.nu cpx.cu) ∧ (((((((((w'.setCell ⟨w.heap.size + 1 + 1, 0, none⟩ (x0)).setCell ⟨w.heap.size + 1 + 1, 1, none⟩ (x1)).setCell ⟨w.heap.size + 1 + 1, 2, none⟩ (x2)).setCell ⟨w.heap.size + 1 + 1, 3, none⟩ (x3)).setCell ⟨w.heap.size + 1 + 1, 4, none⟩ (x4)).setCell ⟨w.heap.size + 1 + 1, 5, none⟩ (x5)).setCell ⟨w.heap.size + 1 + 1, 6, none⟩ (x6)).setCell ⟨w.heap.size + 1 + 1, 7, none⟩ (x7)).setCell ⟨w.heap.size + 1 + 1, 8, none⟩ (x8)).cell? ⟨w.heap.size, 2, none⟩ = some (.slice cpx.l cpx.nl cpx.cl) ∧ (((((((((w'.setCell ⟨w.heap.size + 1 + 1, 0, none⟩ (x0)).setCell ⟨w.heap.size + 1 + 1, 1, none⟩ (x1)).setCell ⟨w.heap.size + 1 + 1, 2, none⟩ (x2)).setCell ⟨w.heap.size + 1 + 1, 3, none⟩ (x3)).setCell ⟨w.heap.size + 1 + 1, 4, none⟩ (x4)).setCell ⟨w.heap.size + 1 + 1, 5, none⟩ (x5)).setCell ⟨w.heap.size + 1 + 1, 6, none⟩ (x6)).setCell ⟨w.heap.size + 1 + 1, 7, none⟩ (x7)).setCell ⟨w.heap.size + 1 + 1, 8, none⟩ (x8)).cell? ⟨w.heap.size, 3, none⟩ = some (.bool cpz.n) ∧ (((((((((w'.setCell ⟨w.heap.size + 1 + 1, 0, none⟩ (x0)).setCell ⟨w.heap.size + 1 + 1, 1, none⟩ (x1)).setCell ⟨w.heap.size + 1 + 1, 2, none⟩ (x2)).setCell ⟨w.heap.size + 1 + 1, 3, none⟩ (x3)).setCell ⟨w.heap.size + 1 + 1, 4, none⟩ (x4)).setCell ⟨w.heap.size + 1 + 1, 5, none⟩ (x5)).setCell ⟨w.heap.size + 1 + 1, 6, none⟩ (x6)).setCell ⟨w.heap.size + 1 + 1, 7, none⟩ (x7)).setCell ⟨w.heap.size + 1 + 1, 8, none⟩ (x8)).cell? ⟨w.heap.size, 4, none⟩ = some (.slice cpz.u cpz.nu cpz.cu) ∧ (((((((((w'.setCell ⟨w.heap.size + 1 + 1, 0, none⟩ (x0)).setCell ⟨w.heap.size + 1 + 1, 1, none⟩ (x1)).setCell ⟨w.heap.size + 1 + 1, 2, none⟩ (x2)).setCell ⟨w.heap.size + 1 + 1, 3, none⟩ (x3)).setCell ⟨w.heap.size + 1 + 1, 4, none⟩ (x4)).setCell ⟨w.heap.size + 1 + 1, 5, none⟩ (x5)).setCell ⟨w.heap.size + 1 + 1, 6, none⟩ (x6)).setCell ⟨w.heap.size + 1 + 1, 7, none⟩ (x7)).setCell ⟨w.heap.size + 1 + 1, 8, none⟩ (x8)).cell? ⟨w.heap.size, 5, none⟩ = some (.slice cpz.l cpz.nl cpz.cl) ∧ (((((((((w'.setCell ⟨w.heap.size + 1 + 1, 0, none⟩ (x0)).setCell ⟨w.heap.size + 1 + 1, 1, none⟩ (x1)).setCell ⟨w.heap.size + 1 + 1, 2, none⟩ (x2)).setCell ⟨w.heap.size + 1 + 1, 3, none⟩ (x3)).setCell ⟨w.heap.size + 1 + 1, 4, none⟩ (x4)).setCell ⟨w.heap.size + 1 + 1, 5, none⟩ (x5)).setCell ⟨w.heap.size + 1 + 1, 6, none⟩ (x6)).setCell ⟨w.heap.size + 1 + 1, 7, none⟩ (x7)).setCell ⟨w.heap.size + 1 + 1, 8, none⟩ (x8)).cell? ⟨w.heap.size + 1, 0, none⟩ = some (.bool cax.n) ∧ (((((((((w'.setCell ⟨w.heap.size + 1 + 1, 0, none⟩ (x0)).setCell ⟨w.heap.size + 1 + 1, 1, none⟩ (x1)).setCell ⟨w.heap.size + 1 + 1, 2, none⟩ (x2)).setCell ⟨w.heap.size + 1 + 1, 3, none⟩ (x3)).setCell ⟨w.heap.size + 1 + 1, 4, none⟩ (x4)).setCell ⟨w.heap.size + 1 + 1, 5, none⟩ (x5)).setCell ⟨w.heap.size + 1 + 1, 6, none⟩ (x6)).setCell ⟨w.heap.size + 1 + 1, 7, none⟩ (x7)).setCell ⟨w.heap.size + 1 + 1, 8, none⟩ (x8)).cell? ⟨w.heap.size + 1, 1, none⟩ = some (.slice cax.u cax.nu cax.cu) ∧ (((((((((w'.setCell ⟨w.heap.size + 1 + 1, 0, none⟩ (x0)).setCell ⟨w.heap.size + 1 + 1, 1, none⟩ (x1)).setCell ⟨w.heap.size + 1 + 1, 2, none⟩ (x2)).setCell ⟨w.heap.size + 1 + 1, 3, none⟩ (x3)).setCell ⟨w.heap.size + 1 + 1, 4, none⟩ (x4)).setCell ⟨w.heap.size + 1 + 1, 5, none⟩ (x5)).setCell ⟨w.heap.size + 1 + 1, 6, none⟩ (x6)).setCell ⟨w.heap.size + 1 + 1, 7, none⟩ (x7)).setCell ⟨w.heap.size + 1 + 1, 8, none⟩ (x8)).cell? ⟨w.heap.size + 1, 2, none⟩ = some (.slice cax.l cax.nl cax.cl) ∧ (((((((((w'.setCell ⟨w.heap.size + 1 + 1, 0, none⟩ (x0)).setCell ⟨w.heap.size + 1 + 1, 1, none⟩ (x1)).setCell ⟨w.heap.size + 1 + 1, 2, none⟩ (x2)).setCell ⟨w.heap.size + 1 + 1, 3, none⟩ (x3)).setCell ⟨w.heap.size + 1 + 1, 4, none⟩ (x4)).setCell ⟨w.heap.size + 1 + 1, 5, none⟩ (x5)).setCell ⟨w.heap.size + 1 + 1, 6, none⟩ (x6)).setCell ⟨w.heap.size + 1 + 1, 7, none⟩ (x7)).setCell ⟨w.heap.size + 1 + 1, 8, none⟩ (x8)).cell? ⟨w.heap.size + 1, 3, none⟩ = some (.bool cay.n) ∧ (((((((((w'.setCell ⟨w.heap.size + 1 + 1, 0, none⟩ (x0)).setCell ⟨w.heap.size + 1 + 1, 1, none⟩ (x1)).setCell ⟨w.heap.size + 1 + 1, 2, none⟩ (x2)).setCell ⟨w.heap.size + 1 + 1, 3, none⟩ (x3)).setCell ⟨w.heap.size + 1 + 1, 4, none⟩ (x4)).setCell ⟨w.heap.size + 1 + 1, 5, none⟩ (x5)).setCell ⟨w.heap.size + 1 + 1, 6, none⟩ (x6)).setCell ⟨w.heap.size + 1 + 1, 7, none⟩ (x7)).setCell ⟨w.heap.size + 1 + 1, 8, none⟩ (x8)).cell? ⟨w.heap.size + 1, 4, none⟩ = some (.slice cay.u cay.nu cay.cu) ∧ (((((((((w'.setCell ⟨w.heap.size + 1 + 1, 0, none⟩ (x0)).setCell ⟨w.heap.size + 1 + 1, 1, none⟩ (x1)).setCell ⟨w.heap.size + 1 + 1, 2, none⟩ (x2)).setCell ⟨w.heap.size + 1 + 1, 3, none⟩ (x3)).setCell ⟨w.heap.size + 1 + 1, 4, none⟩ (x4)).setCell ⟨w.heap.size + 1 + 1, 5, none⟩ (x5)).setCell ⟨w.heap.size + 1 + 1, 6, none⟩ (x6)).setCell ⟨w.heap.size + 1 + 1, 7, none⟩ (x7)).setCell ⟨w.heap.size + 1 + 1, 8, none⟩ (x8)).cell? ⟨w.heap.size + 1, 5, none⟩ = some (.slice cay.l cay.nl cay.cl)) := fun w' hb x0 x1 x2 x3 x4 x5 x6 x7 x8 => ⟨((HK0.out.below hb (by rw [HSZ.out]; omega)).off9 (g := w.heap.size + 1 + 1) (by omega) x0 x1 x2 x3 x4 x5 x6 x7 x8).cell 0, ((HK0.out.below hb (by rw [HSZ.out]; omega)).off9 (g := w.heap.size + 1 + 1) (by omega) x0 x1 x2 x3 x4 x5 x6 x7 x8).cell 1, ((HK0.out.below hb (by rw [HSZ.out]; omega)).off9 (g := w.heap.size + 1 + 1) (by omega) x0 x1 x2 x3 x4 x5 x6 x7 x8).cell 2, ((HK0.out.below hb (by rw [HSZ.out]; omega)).off9 (g := w.heap.size + 1 + 1) (by omega) x0 x1 x2 x3 x4 x5 x6 x7 x8).cell 3, ((HK0.out.below hb (by rw [HSZ.out]; omega)).off9 (g := w.heap.size + 1 + 1) (by omega) x0 x1 x2 x3 x4 x5 x6 x7 x8).cell 4, ((HK0.out.below hb (by rw [HSZ.out]; omega)).off9 (g := w.heap.size + 1 + 1) (by omega) x0 x1 x2 x3 x4 x5 x6 x7 x8).cell 5, ((HK1.out.below hb (by rw [HSZ.out]; omega)).off9 (g := w.heap.size + 1 + 1) (by omega) x0 x1 x2 x3 x4 x5 x6 x7 x8).cell 0, ((HK1.out.below hb (by rw [HSZ.out]; omega)).off9 (g := w.heap.size + 1 + 1) (by omega) x0 x1 x2 x3 x4 x5 x6 x7 x8).cell 1, ((HK1.out.below hb (by rw [HSZ.out]; omega)).off9 (g := w.heap.size + 1 + 1) (by omega) x0 x1 x2 x3 x4 x5 x6 x7 x8).cell 2, ((HK1.out.below hb (by rw [HSZ.out]; omega)).off9 (g := w.heap.size + 1 + 1) (by omega) x0 x1 x2 x3 x4 x5 x6 x7 x8).cell 3, ((HK1.out.below hb (by rw [HSZ.out]; omega)).off9 (g := w.heap.size + 1 + 1) (by omega) x0 x1 x2 x3 x4 x5 x6 x7 x8).cell 4, ((HK1.out.below hb (by rw [HSZ.out]; omega)).off9 (g := w.heap.size + 1 + 1) (by omega) x0 x1 x2 x3 x4 x5 x6 x7 x8).cell 5⟩
  obtain ⟨z0, z1, z2, z3, z4, z5, z6, z7, z8, z9, z10, z11⟩ := HS.out W0 (Below.refl _ _)
  go_region_held3 (fun w' => w'.cell? ⟨w.heap.size, 0, none⟩ = some (.bool cpx.n) ∧ w'.cell? ⟨w.heap.size, 1, none⟩ = some (.slice cpx.u cpx.nu cpx.cu) ∧ w'.cell? ⟨w.heap.size, 2, none⟩ = some (.slice cpx.l cpx.nl cpx.cl) ∧ w'.cell? ⟨w.heap.size, 3, none⟩ = some (.bool cpz.n) ∧ w'.cell? ⟨w.heap.size, 4, none⟩ = some (.slice cpz.u cpz.nu cpz.cu) ∧ w'.cell? ⟨w.heap.size, 5, none⟩ = some (.slice cpz.l cpz.nl cpz.cl) ∧ w'.cell? ⟨w.heap.size + 1, 0, none⟩ = some (.bool cax.n) ∧ w'.cell? ⟨w.heap.size + 1, 1, none⟩ = some (.slice cax.u cax.nu cax.cu) ∧ w'.cell? ⟨w.heap.size + 1, 2, none⟩ = some (.slice cax.l cax.nl cax.cl) ∧ w'.cell? ⟨w.heap.size + 1, 3, none⟩ = some (.bool cay.n) ∧ w'.cell? ⟨w.heap.size + 1, 4, none⟩ = some (.slice cay.u cay.nu cay.cu) ∧ w'.cell? ⟨w.heap.size + 1, 5, none⟩ = some (.slice cay.l cay.nl cay.cl)) (first | go_keep | exact hs1 | exact hs2 | exact hkS)
    (first
      | (go_at_call 45; refine (wayDot_calls (w := W0.drew) ⟨cax, cay, rfl, (Hax.out.below (Below.drew (Below.refl _ _))), (Hay.out.below (Below.drew (Below.refl _ _)))⟩ ⟨cpx, cpz, rfl, (Hpx.out.below (Below.drew (Below.refl _ _))), (Hpz.out.below (Below.drew (Below.refl _ _)))⟩ F1.out F2.out F3.out F4.out HK.out).mono ?_; rintro e w1 ⟨hb1, v1, rfl, hv1⟩; have hbl1 : Below W0.heap.size W0 w1 := (Below.drew (Below.refl _ W0)).trans hb1; obtain ⟨d1, rfl⟩ := qv_open hv1; have hs1 := HS.out w1 hbl1)
      | (go_at_call 131; refine (negative_calls hv1).mono ?_; rintro e w2 ⟨hb2, v2, rfl, hv2⟩; have hbl2 := hbl1.trans (hb2.mono hbl1.size); obtain ⟨d2, rfl⟩ := qv_open hv2; have hs2 := HS.out w2 hbl2; have hkr := HK2.out.below hbl2 (by rw [HSZ.out]; omega); obtain ⟨r0, r1, r2, r3, r4, r5, r6, r7, r8, f0, f1, f2, f3, f4, f5, f6, f7, f8⟩ := hkr.all9; have hkS := HSS.out w2 hbl2 (.bool cax.n) (.slice cax.u cax.nu cax.cu) (.slice cax.l cax.nl cax.cl) (.bool cay.n) (.slice cay.u cay.nu cay.cu) (.slice cay.l cay.nl cay.cl) (.bool d2.n) (.slice d2.u d2.nu d2.cu) (.slice d2.l d2.nl d2.cl))
      )
  all_goals
    go_wp2
    obtain ⟨k0, k1, k2, k3, k4, k5, k6, k7, k8, _, _, _, _, _, _, _, _, _⟩ := (hkr.put9 (.bool cax.n) (.slice cax.u cax.nu cax.cu) (.slice cax.l cax.nl cax.cl) (.bool cay.n) (.slice cay.u cay.nu cay.cu) (.slice cay.l cay.nl cay.cl) (.bool d2.n) (.slice d2.u d2.nu d2.cu) (.slice d2.l d2.nl d2.cl)).all9
    refine bodyPost_ret (v := .agg #[.bool cax.n, .slice cax.u cax.nu cax.cu, .slice cax.l cax.nl cax.cl, .bool cay.n, .slice cay.u cay.nu cay.cu, .slice cay.l cay.nl cay.cl, .bool d2.n, .slice d2.u d2.nu d2.cu, .slice d2.l d2.nl d2.cl]) (by simp [results, Tryz.results128, go_sem, k0, k1, k2, k3, k4, k5, k6, k7, k8]) rfl ⟨Below.put9 (HB0.out.trans (hbl2.mono HB0.out.size)) (by omega) (.bool cax.n) (.slice cax.u cax.nu cax.cu) (.slice cax.l cax.nl cax.cl) (.bool cay.n) (.slice cay.u cay.nu cay.cu) (.slice cay.l cay.nl cay.cl) (.bool d2.n) (.slice d2.u d2.nu d2.cu) (.slice d2.l d2.nl d2.cl), _, rfl, ?_⟩
    have hst := Stays.put9 hkr (by simp [notLimb]) (.bool cax.n) (.slice cax.u cax.nu cax.cu) (.slice cax.l cax.nl cax.cl) (.bool cay.n) (.slice cay.u cay.nu cay.cu) (.slice cay.l cay.nl cay.cl) (.bool d2.n) (.slice d2.u d2.nu d2.cu) (.slice d2.l d2.nl d2.cl) rfl rfl rfl rfl rfl rfl rfl rfl rfl
    exact ⟨cax, cay, d2, rfl, hst.qv (Hax.out.below hbl2), hst.qv (Hay.out.below hbl2), hst.qv hv2⟩

/-- Square: the line through p at right angles to a way. -/
theorem rulerSquare_calls {w : World} {va vb : Value} {px pz ax ay : Rat} {k l : Nat} (ha : WV w va px pz) (hb : WV w vb ax ay) (f1 : QS k ax) (f2 : QS k ay) (f3 : QS l px) (f4 : QS l pz) (hk : 2 * (k + l + 1) + 1 ≤ 35184372088640) :
    Calls Tryz.prog 128 #[va, vb] w fun e w' => Below w.heap.size w w' ∧ ∃ v, e = .returned v ∧ LV w' v ax ay (-(ax * px + ay * pz)) := by
  obtain ⟨c1, c2, rfl, h1, h2⟩ := ha
  obtain ⟨c3, c4, rfl, h3, h4⟩ := hb
  exact rulerSquare_walk h1 h2 h3 h4 f1 f2 f3 f4 hk

end Go.Proofs.YtpalknbmejachaaGreatDoor
/- Walks: between. -/
namespace Go.Proofs.YtpalknbmejachaaGreatDoor
open Go.RowKit Cx

attribute [local go_sem ↓] Go.wp_at_zero Go.wp_at_succ

set_option maxHeartbeats 4000000 in
set_option maxRecDepth 100000 in
theorem between_walk {w : World} {px pz qx qz : ByteArray} (s1 : px.size ≤ 1048576) (s2 : pz.size ≤ 1048576) (s3 : qx.size ≤ 1048576) (s4 : qz.size ≤ 1048576) :
    Calls Tryz.prog 41 #[.agg #[.string px, .string pz], .agg #[.string qx, .string qz]] w fun e w' => Below w.heap.size w w' ∧ ∃ v, e = .returned v ∧ WV w' v (rd qx.data.toList - rd px.data.toList) (rd qz.data.toList - rd pz.data.toList) := by
  obtain ⟨hb0, hk0, hk1, hk2, hsz⟩ := boxes3 w #[.string px, .string pz] #[.string qx, .string qz] #[.bool false, .slice none 0 0, .slice none 0 0, .bool false, .slice none 0 0, .slice none 0 0] 24 24 72
  have HB0 := hideIt hb0
  have HSZ := hideIt hsz
  have HK0 := hideIt hk0
  have HK1 := hideIt hk1
  have HK2 := hideIt hk2
  have S1 := hideIt s1
  have S2 := hideIt s2
  have S3 := hideIt s3
  have S4 := hideIt s4
  clear hb0 hsz hk0 hk1 hk2  s1 s2 s3 s4
  have HKB : Hid (4194309 + 4194309 + 1 ≤ 35184372088640) := by show _ ≤ _; omega
  have L1 : Hid (px.data.toList.length ≤ 4294967296) := by rw [str_len]; have := S1.out; show _ ≤ _; omega
  have L2 : Hid (pz.data.toList.length ≤ 4294967296) := by rw [str_len]; have := S2.out; show _ ≤ _; omega
  have L3 : Hid (qx.data.toList.length ≤ 4294967296) := by rw [str_len]; have := S3.out; show _ ≤ _; omega
  have L4 : Hid (qz.data.toList.length ≤ 4294967296) := by rw [str_len]; have := S4.out; show _ ≤ _; omega
  have F1 : Hid (QS 4194309 (rd px.data.toList)) := (QS.rd _).mono (by rw [str_len]; have := S1.out; omega)
  have F2 : Hid (QS 4194309 (rd pz.data.toList)) := (QS.rd _).mono (by rw [str_len]; have := S2.out; omega)
  have F3 : Hid (QS 4194309 (rd qx.data.toList)) := (QS.rd _).mono (by rw [str_len]; have := S3.out; omega)
  have F4 : Hid (QS 4194309 (rd qz.data.toList)) := (QS.rd _).mono (by rw [str_len]; have := S4.out; omega)
  go_enter Tryz.func41, Tryz.ntmps41
  go_wp2_with fail
  generalize (((w.alloc (.cells #[.string px, .string pz] 24)).alloc (.cells #[.string qx, .string qz] 24)).alloc (.cells #[.bool false, .slice none 0 0, .slice none 0 0, .bool false, .slice none 0 0, .slice none 0 0] 72)) = W0 at *
  have HS : Hid (∀ w', Below W0.heap.size W0 w' → w'.cell? ⟨w.heap.size, 0, none⟩ = some (.string px) ∧ w'.cell? ⟨w.heap.size, 1, none⟩ = some (.string pz) ∧ w'.cell? ⟨w.heap.size + 1, 0, none⟩ = some (.string qx) ∧ w'.cell? ⟨w.heap.size + 1, 1, none⟩ = some (.string qz)) := fun w' hb => ⟨(HK0.out.below hb (by rw [HSZ.out]; omega)).cell 0, (HK0.out.below hb (by rw [HSZ.out]; omega)).cell 1, (HK1.out.below hb (by rw [HSZ.out]; omega)).cell 0, (HK1.out.below hb (by rw [HSZ.out]; omega)).cell 1⟩
  have HSS : Hid (∀ w', Below W0.heap.size W0 w' → ∀ x0 x1 x2 x3 x4 x5 : Value, ((((((w'.setCell ⟨w.heap.size + 1 + 1, 0, none⟩ (x0)).setCell ⟨w.heap.size + 1 + 1, 1, none⟩ (x1)).setCell ⟨w.heap.size + 1 + 1, 2, none⟩ (x2)).setCell ⟨w.heap.size + 1 + 1, 3, none⟩ (x3)).setCell ⟨w.heap.size + 1 + 1, 4, none⟩ (x4)).setCell ⟨w.heap.size + 1 + 1, 5, none⟩ (x5)).cell? ⟨w.heap.size, 0, none⟩ = some (.string px) ∧ ((((((w'.setCell ⟨w.heap.size + 1 + 1, 0, none⟩ (x0)).setCell ⟨w.heap.size + 1 + 1, 1, none⟩ (x1)).setCell ⟨w.heap.size + 1 + 1, 2, none⟩ (x2)).setCell ⟨w.heap.size + 1 + 1, 3, none⟩ (x3)).setCell ⟨w.heap.size + 1 + 1, 4, none⟩ (x4)).setCell ⟨w.heap.size + 1 + 1, 5, none⟩ (x5)).cell? ⟨w.heap.size, 1, none⟩ = some (.string pz) ∧ ((((((w'.setCell ⟨w.heap.size + 1 + 1, 0, none⟩ (x0)).setCell ⟨w.heap.size + 1 + 1, 1, none⟩ (x1)).setCell ⟨w.heap.size + 1 + 1, 2, none⟩ (x2)).setCell ⟨w.heap.size + 1 + 1, 3, none⟩ (x3)).setCell ⟨w.heap.size + 1 + 1, 4, none⟩ (x4)).setCell ⟨w.heap.size + 1 + 1, 5, none⟩ (x5)).cell? ⟨w.heap.size + 1, 0, none⟩ = some (.string qx) ∧ ((((((w'.setCell ⟨w.heap.size + 1 + 1, 0, none⟩ (x0)).setCell ⟨w.heap.size + 1 + 1, 1, none⟩ (x1)).setCell ⟨w.heap.size + 1 + 1, 2, none⟩ (x2)).setCell ⟨w.heap.size + 1 + 1, 3, none⟩ (x3)).setCell ⟨w.heap.size + 1 + 1, 4, none⟩ (x4)).setCell ⟨w.heap.size + 1 + 1, 5, none⟩ (x5)).cell? ⟨w.heap.size + 1, 1, none⟩ = some (.string qz)) := fun w' hb x0 x1 x2 x3 x4 x5 => ⟨((HK0.out.below hb (by rw [HSZ.out]; omega)).off6 (g := w.heap.size + 1 + 1) (by omega) x0 x1 x2 x3 x4 x5).cell 0, ((HK0.out.below hb (by rw [HSZ.out]; omega)).off6 (g := w.heap.size + 1 + 1) (by omega) x0 x1 x2 x3 x4 x5).cell 1, ((HK1.out.below hb (by rw [HSZ.out]; omega)).off6 (g := w.heap.size + 1 + 1) (by omega) x0 x1 x2 x3 x4 x5).cell 0, ((HK1.out.below hb (by rw [HSZ.out]; omega)).off6 (g := w.heap.size + 1 + 1) (by omega) x0 x1 x2 x3 x4 x5).cell 1⟩
  obtain ⟨z0, z1, z2, z3⟩ := HS.out W0 (Below.refl _ _)
  go_region_held3 (fun w' => w'.cell? ⟨w.heap.size, 0, none⟩ = some (.string px) ∧ w'.cell? ⟨w.heap.size, 1, none⟩ = some (.string pz) ∧ w'.cell? ⟨w.heap.size + 1, 0, none⟩ = some (.string qx) ∧ w'.cell? ⟨w.heap.size + 1, 1, none⟩ = some (.string qz)) (first | go_keep | exact hs1 | exact hs2 | exact hs3 | exact hkS)
    (first
      | (go_at_call_of 62 (Value.agg #[Value.string qx, Value.string qz]); refine (wayRead_calls (w := W0.drew) ⟨qx, qz, rfl, rfl, rfl⟩ L3.out L4.out).mono ?_; rintro e w1 ⟨hb1, v1, rfl, hv1⟩; have hbl1 : Below W0.heap.size W0 w1 := (Below.drew (Below.refl _ W0)).trans hb1; have hw1 := hv1; obtain ⟨d1, e1, rfl, hx1, hy1⟩ := hw1; have hs1 := HS.out w1 hbl1)
      | (go_at_call_of 62 (Value.agg #[Value.string px, Value.string pz]); refine (wayRead_calls ⟨px, pz, rfl, rfl, rfl⟩ L1.out L2.out).mono ?_; rintro e w2 ⟨hb2, v2, rfl, hv2⟩; have hbl2 := hbl1.trans (hb2.mono hbl1.size); have hw2 := hv2; obtain ⟨d2, e2, rfl, hx2, hy2⟩ := hw2; have hs2 := HS.out w2 hbl2)
      | (go_at_call 80; refine (wayMinus_calls (hv1.below hb2) hv2 F3.out F4.out F1.out F2.out HKB.out).mono ?_; rintro e w3 ⟨hb3, v3, rfl, hv3⟩; have hbl3 := hbl2.trans (hb3.mono hbl2.size); have hw3 := hv3; obtain ⟨d3, e3, rfl, hx3, hy3⟩ := hw3; have hs3 := HS.out w3 hbl3; have hkr := HK2.out.below hbl3 (by rw [HSZ.out]; omega); obtain ⟨r0, r1, r2, r3, r4, r5, f0, f1, f2, f3, f4, f5⟩ := hkr.all6; have hkS := HSS.out w3 hbl3 (.bool d3.n) (.slice d3.u d3.nu d3.cu) (.slice d3.l d3.nl d3.cl) (.bool e3.n) (.slice e3.u e3.nu e3.cu) (.slice e3.l e3.nl e3.cl))
      )
  all_goals
    go_wp2
    obtain ⟨k0, k1, k2, k3, k4, k5, _, _, _, _, _, _⟩ := (hkr.put6 (.bool d3.n) (.slice d3.u d3.nu d3.cu) (.slice d3.l d3.nl d3.cl) (.bool e3.n) (.slice e3.u e3.nu e3.cu) (.slice e3.l e3.nl e3.cl)).all6
    refine bodyPost_ret (v := .agg #[.bool d3.n, .slice d3.u d3.nu d3.cu, .slice d3.l d3.nl d3.cl, .bool e3.n, .slice e3.u e3.nu e3.cu, .slice e3.l e3.nl e3.cl]) (by simp [results, Tryz.results41, go_sem, k0, k1, k2, k3, k4, k5]) rfl ⟨Below.put6 (HB0.out.trans (hbl3.mono HB0.out.size)) (by omega) (.bool d3.n) (.slice d3.u d3.nu d3.cu) (.slice d3.l d3.nl d3.cl) (.bool e3.n) (.slice e3.u e3.nu e3.cu) (.slice e3.l e3.nl e3.cl), _, rfl, ?_⟩
    have hst := Stays.put6 hkr (by simp [notLimb]) (.bool d3.n) (.slice d3.u d3.nu d3.cu) (.slice d3.l d3.nl d3.cl) (.bool e3.n) (.slice e3.u e3.nu e3.cu) (.slice e3.l e3.nl e3.cl) rfl rfl rfl rfl rfl rfl
    exact ⟨d3, e3, rfl, hst.qv hx3, hst.qv hy3⟩

/-- between: the way from p to q. -/
theorem between_calls {w : World} {va vb : Value} {px pz qx qz : List UInt8} (ha : PV va px pz) (hb : PV vb qx qz) (s1 : px.length ≤ 1048576) (s2 : pz.length ≤ 1048576) (s3 : qx.length ≤ 1048576) (s4 : qz.length ≤ 1048576) :
    Calls Tryz.prog 41 #[va, vb] w fun e w' => Below w.heap.size w w' ∧ ∃ v, e = .returned v ∧ WV w' v (rd qx - rd px) (rd qz - rd pz) := by
  obtain ⟨a, b, rfl, rfl, rfl⟩ := ha
  obtain ⟨c, d, rfl, rfl, rfl⟩ := hb
  rw [str_len] at s1 s2 s3 s4
  exact between_walk s1 s2 s3 s4

end Go.Proofs.YtpalknbmejachaaGreatDoor
/- Rows of ways; walks of package way: Sum. -/
namespace Go.Proofs.YtpalknbmejachaaGreatDoor
open Go.RowKit Cx

attribute [local go_sem ↓] Go.wp_at_zero Go.wp_at_succ

/-- The value v is a slice of the ways ps. -/
def WRow (w : World) (v : Value) (ps : List (Rat × Rat)) : Prop :=
  ∃ b off cap, v = .slice (some ⟨b, off, none⟩) ps.length cap ∧ b < w.heap.size ∧ ∀ (j : Nat) (hj : j < ps.length), ∃ c d : C3,
    w.cell? ⟨b, off + j * 6, none⟩ = some (.bool c.n) ∧ w.cell? ⟨b, off + j * 6 + 1, none⟩ = some (.slice c.u c.nu c.cu) ∧ w.cell? ⟨b, off + j * 6 + 2, none⟩ = some (.slice c.l c.nl c.cl) ∧ w.cell? ⟨b, off + j * 6 + 3, none⟩ = some (.bool d.n) ∧ w.cell? ⟨b, off + j * 6 + 4, none⟩ = some (.slice d.u d.nu d.cu) ∧ w.cell? ⟨b, off + j * 6 + 5, none⟩ = some (.slice d.l d.nl d.cl) ∧ QV w (.agg #[.bool c.n, .slice c.u c.nu c.cu, .slice c.l c.nl c.cl]) (ps[j]'hj).1 ∧ QV w (.agg #[.bool d.n, .slice d.u d.nu d.cu, .slice d.l d.nl d.cl]) (ps[j]'hj).2

theorem wrow_idx {b off n cap k : Nat} (hk : k < n) (wx : World) : (Instr.indexAt 139 (.slice (some ⟨b, off, none⟩) n cap) (.int .i64 k)).run Tryz.prog wx = .ok (.pointer (some ⟨b, off + k * 6, none⟩)) wx := by
  have he : Tryz.prog.elem 139 = 72 := by simp [Program.elem, Tryz.underlying139]
  rw [run_indexAt_slice (h := by rw [he]; exact Tryz.underlying139), if_pos (by omega), he, Tryz.sizeOf72]
  simp [Result.andThen, Addr.add]

set_option maxHeartbeats 8000000 in
set_option maxRecDepth 100000 in
theorem waySum_walk {w : World} {b off cap : Nat} {ps : List (Rat × Rat)} (h : WRow w (.slice (some ⟨b, off, none⟩) ps.length cap) ps) {K : Nat} (f : ∀ p ∈ ps.map Prod.fst, QS K p) (f2 : ∀ p ∈ ps.map Prod.snd, QS K p) (hn : ps.length ≤ 1000000) (hk : ps.length * (K + 1) + 1 ≤ 35184372088640) :
    Calls Tryz.prog 61 #[.slice (some ⟨b, off, none⟩) ps.length cap] w fun e w' => Below w.heap.size w w' ∧ ∃ v, e = .returned v ∧ WV w' v (rsum (ps.map Prod.fst)) (rsum (ps.map Prod.snd)) := by
  obtain ⟨hb0, hk0, hk1, hsz⟩ := boxes2 w #[.bool false, .slice none 0 0, .slice none 0 0, .bool false, .slice none 0 0, .slice none 0 0] #[.bool false, .slice none 0 0, .slice none 0 0, .bool false, .slice none 0 0, .slice none 0 0] 72 72
  have HB0 := hideIt hb0
  have HSZ := hideIt hsz
  have HK0 := hideIt hk0
  have HK1 := hideIt hk1
  have HR := hideIt h
  have F := hideIt f
  have F2 := hideIt f2
  have HK := hideIt hk
  clear hb0 hsz hk0 hk1 h f f2 hk
  go_enter Tryz.func61, Tryz.ntmps61
  go_wp2
  generalize ((w.alloc (.cells #[.bool false, .slice none 0 0, .slice none 0 0, .bool false, .slice none 0 0, .slice none 0 0] 72)).alloc (.cells #[.bool false, .slice none 0 0, .slice none 0 0, .bool false, .slice none 0 0, .slice none 0 0] 72)) = W0 at *
  go_loopw [8] (fun i wr => ∃ k : Nat, k ≤ ps.length ∧ i = .int .i64 (k : Int) ∧ Blk wr w.heap.size #[.bool false, .slice none 0 0, .slice none 0 0, .bool false, .slice none 0 0, .slice none 0 0] 72 ∧ Below w.heap.size w wr ∧ ∃ c d : C3, Blk wr (w.heap.size + 1) #[.bool c.n, .slice c.u c.nu c.cu, .slice c.l c.nl c.cl, .bool d.n, .slice d.u d.nu d.cu, .slice d.l d.nl d.cl] 72 ∧ QV wr (.agg #[.bool c.n, .slice c.u c.nu c.cu, .slice c.l c.nl c.cl]) (rsum ((ps.map Prod.fst).take k)) ∧ QV wr (.agg #[.bool d.n, .slice d.u d.nu d.cu, .slice d.l d.nl d.cl]) (rsum ((ps.map Prod.snd).take k))) (fun i _ => ps.length - (intOf i).toNat)
  case atStart =>
    refine ⟨0, Nat.zero_le _, rfl, HK0.out, HB0.out, ⟨false, none, 0, 0, none, 0, 0⟩, ⟨false, none, 0, 0, none, 0, 0⟩, HK1.out, ?_, ?_⟩
    · rw [List.take_zero]; exact qv_zero0 _
    · rw [List.take_zero]; exact qv_zero0 _
  case round =>
    obtain ⟨k, hkl, rfl, hk0, hbel, c, d, hk1, hq, hp⟩ := hrel
    have HQ := hideIt hq
    have HP := hideIt hp
    have HK0' := hideIt hk0
    have HK1' := hideIt hk1
    have hlt1 := hideIt hk1.lt
    have hsz' := hideIt hbel.size
    obtain ⟨y0, y1, y2, y3, y4, y5, g0, g1, g2, g3, g4, g5⟩ := hk1.all6
    obtain ⟨x0, x1, x2, x3, x4, x5, e0, e1, e2, e3, e4, e5⟩ := hk0.all6
    clear hq hp hk0 hk1
    by_cases hend : k = ps.length
    · subst hend
      go_wp2
      obtain ⟨r0, r1, r2, r3, r4, r5, _⟩ := (HK0'.out.put6 (.bool c.n) (.slice c.u c.nu c.cu) (.slice c.l c.nl c.cl) (.bool d.n) (.slice d.u d.nu d.cu) (.slice d.l d.nl d.cl)).all6
      refine bodyPost_ret (v := .agg #[.bool c.n, .slice c.u c.nu c.cu, .slice c.l c.nl c.cl, .bool d.n, .slice d.u d.nu d.cu, .slice d.l d.nl d.cl]) (by simp [results, Tryz.results61, go_sem, r0, r1, r2, r3, r4, r5]) rfl ⟨Below.put6 hbel (Nat.le_refl _) _ _ _ _ _ _, _, rfl, ?_⟩
      have hst := Stays.put6 HK0'.out (by simp [notLimb]) (.bool c.n) (.slice c.u c.nu c.cu) (.slice c.l c.nl c.cl) (.bool d.n) (.slice d.u d.nu d.cu) (.slice d.l d.nl d.cl) rfl rfl rfl rfl rfl rfl
      have h1 := hst.qv HQ.out
      have h2 := hst.qv HP.out
      rw [List.take_of_length_le (by simp)] at h1 h2
      exact ⟨c, d, rfl, h1, h2⟩
    · have hlt : k < ps.length := by omega
      have hidx := wrow_idx (b := b) (off := off) (cap := cap) hlt
      obtain ⟨b', off', cap', e, hbl, hcells⟩ := HR.out
      cases e
      obtain ⟨u, v, d0, d1, d2, d3, d4, d5, hu, hv⟩ := hcells k hlt
      have HU := hideIt (hu.below hbel)
      have HV := hideIt (hv.below hbel)
      have z0 := (hbel.cell (p := ⟨b, off + k * 6, none⟩) hbl).trans d0
      have z1 := (hbel.cell (p := ⟨b, off + k * 6 + 1, none⟩) hbl).trans d1
      have z2 := (hbel.cell (p := ⟨b, off + k * 6 + 2, none⟩) hbl).trans d2
      have z3 := (hbel.cell (p := ⟨b, off + k * 6 + 3, none⟩) hbl).trans d3
      have z4 := (hbel.cell (p := ⟨b, off + k * 6 + 4, none⟩) hbl).trans d4
      have z5 := (hbel.cell (p := ⟨b, off + k * 6 + 5, none⟩) hbl).trans d5
      have FS := hideIt (QS.rsum F.out k)
      have FS2 := hideIt (QS.rsum F2.out k)
      have FQ : Hid (QS K (ps[k]'hlt).1) := F.out _ (List.mem_map_of_mem (List.getElem_mem hlt))
      have FQ2 : Hid (QS K (ps[k]'hlt).2) := F2.out _ (List.mem_map_of_mem (List.getElem_mem hlt))
      have HKK : Hid (k * (K + 1) + 1 + K + 1 ≤ 35184372088640) := by
        have h1 := HK.out
        have h2 : (k + 1) * (K + 1) ≤ ps.length * (K + 1) := Nat.mul_le_mul_right _ hlt
        rw [Nat.succ_mul] at h2
        show _ ≤ _
        omega
      clear d0 d1 d2 d3 d4 d5 hu hv hcells
      have ha : ∀ o, Blk (wr.alloc o) (w.heap.size + 1) #[.bool c.n, .slice c.u c.nu c.cu, .slice c.l c.nl c.cl, .bool d.n, .slice d.u d.nu d.cu, .slice d.l d.nl d.cl] 72 := fun o => HK1'.out.below (below_new wr o) hlt1.out
      have a0 : ∀ o, (wr.alloc o).cell? ⟨w.heap.size + 1, 0, none⟩ = some (.bool c.n) := fun o => (ha o).cell 0
      have a1 : ∀ o, (wr.alloc o).cell? ⟨w.heap.size + 1, 1, none⟩ = some (.slice c.u c.nu c.cu) := fun o => (ha o).cell 1
      have a2 : ∀ o, (wr.alloc o).cell? ⟨w.heap.size + 1, 2, none⟩ = some (.slice c.l c.nl c.cl) := fun o => (ha o).cell 2
      have a3 : ∀ o, (wr.alloc o).cell? ⟨w.heap.size + 1, 3, none⟩ = some (.bool d.n) := fun o => (ha o).cell 3
      have a4 : ∀ o, (wr.alloc o).cell? ⟨w.heap.size + 1, 4, none⟩ = some (.slice d.u d.nu d.cu) := fun o => (ha o).cell 4
      have a5 : ∀ o, (wr.alloc o).cell? ⟨w.heap.size + 1, 5, none⟩ = some (.slice d.l d.nl d.cl) := fun o => (ha o).cell 5
      clear ha
      go_wp2_with fail
      have hbn := below_new wr (.cells #[.bool u.n, .slice u.u u.nu u.cu, .slice u.l u.nl u.cl, .bool v.n, .slice v.u v.nu v.cu, .slice v.l v.nl v.cl] 72)
      refine (wayPlus_calls ⟨c, d, rfl, HQ.out.below hbn, HP.out.below hbn⟩ ⟨u, v, rfl, HU.out.below hbn, HV.out.below hbn⟩ FS.out FS2.out FQ.out FQ2.out HKK.out).mono ?_
      rintro e w2 ⟨hb2, v2, rfl, hv2⟩
      obtain ⟨d2, e2, rfl, hx2, hy2⟩ := hv2
      have hbw := hbn.trans (hb2.mono hbn.size)
      have hk2 := HK1'.out.below hbw hlt1.out
      have hkr := HK0'.out.below hbw (by have := hlt1.out; omega)
      obtain ⟨y0, y1, y2, y3, y4, y5, g0, g1, g2, g3, g4, g5⟩ := hk2.all6
      have HX2 := hideIt hx2
      have HY2 := hideIt hy2
      clear hx2 hy2 a0 a1 a2 a3 a4 a5 z0 z1 z2 z3 z4 z5
      go_wp2
      go_roundw
      case rel =>
        have hst := Stays.put6 hk2 (by simp [notLimb]) (.bool d2.n) (.slice d2.u d2.nu d2.cu) (.slice d2.l d2.nl d2.cl) (.bool e2.n) (.slice e2.u e2.nu e2.cu) (.slice e2.l e2.nl e2.cl) rfl rfl rfl rfl rfl rfl
        refine ⟨k + 1, hlt, by go_num, ?_, ?_, d2, e2, hk2.put6 _ _ _ _ _ _, ?_, ?_⟩
        · exact hkr.off6 (by omega) _ _ _ _ _ _
        · exact Below.put6 (hbel.trans (hbw.mono hsz'.out)) (by omega) _ _ _ _ _ _
        · rw [rsum_take (by simpa using hlt), List.getElem_map]
          exact hst.qv HX2.out
        · rw [rsum_take (by simpa using hlt), List.getElem_map]
          exact hst.qv HY2.out
      case measure => simp [intOf]; omega

/-- Sum: all ways, one after the other. -/
theorem waySum_calls {w : World} {v : Value} {ps : List (Rat × Rat)} (h : WRow w v ps) {K : Nat} (f : ∀ p ∈ ps.map Prod.fst, QS K p) (f2 : ∀ p ∈ ps.map Prod.snd, QS K p) (hn : ps.length ≤ 1000000) (hk : ps.length * (K + 1) + 1 ≤ 35184372088640) :
    Calls Tryz.prog 61 #[v] w fun e w' => Below w.heap.size w w' ∧ ∃ v', e = .returned v' ∧ WV w' v' (rsum (ps.map Prod.fst)) (rsum (ps.map Prod.snd)) := by
  have h' := h
  obtain ⟨b, off, cap, rfl, _⟩ := h
  exact waySum_walk h' f f2 hn hk

theorem wrow2 {w : World} {a b c d : C3} {x y z t : Rat} (h0 : QV w (.agg #[.bool a.n, .slice a.u a.nu a.cu, .slice a.l a.nl a.cl]) x) (h1 : QV w (.agg #[.bool b.n, .slice b.u b.nu b.cu, .slice b.l b.nl b.cl]) y) (h2 : QV w (.agg #[.bool c.n, .slice c.u c.nu c.cu, .slice c.l c.nl c.cl]) z) (h3 : QV w (.agg #[.bool d.n, .slice d.u d.nu d.cu, .slice d.l d.nl d.cl]) t) :
    WRow (w.alloc (.cells #[.bool a.n, .slice a.u a.nu a.cu, .slice a.l a.nl a.cl, .bool b.n, .slice b.u b.nu b.cu, .slice b.l b.nl b.cl, .bool c.n, .slice c.u c.nu c.cu, .slice c.l c.nl c.cl, .bool d.n, .slice d.u d.nu d.cu, .slice d.l d.nl d.cl] 72)) (.slice (some ⟨w.heap.size, 0, none⟩) 2 2) [(x, y), (z, t)] := by
  have hb := below_new w (.cells #[.bool a.n, .slice a.u a.nu a.cu, .slice a.l a.nl a.cl, .bool b.n, .slice b.u b.nu b.cu, .slice b.l b.nl b.cl, .bool c.n, .slice c.u c.nu c.cu, .slice c.l c.nl c.cl, .bool d.n, .slice d.u d.nu d.cu, .slice d.l d.nl d.cl] 72)
  have hk := Blk.new w #[.bool a.n, .slice a.u a.nu a.cu, .slice a.l a.nl a.cl, .bool b.n, .slice b.u b.nu b.cu, .slice b.l b.nl b.cl, .bool c.n, .slice c.u c.nu c.cu, .slice c.l c.nl c.cl, .bool d.n, .slice d.u d.nu d.cu, .slice d.l d.nl d.cl] 72
  refine ⟨w.heap.size, 0, 2, rfl, hk.lt, fun j hj => ?_⟩
  match j, hj with
  | 0, _ => exact ⟨a, b, hk.cell 0, hk.cell 1, hk.cell 2, hk.cell 3, hk.cell 4, hk.cell 5, h0.below hb, h1.below hb⟩
  | 1, _ => exact ⟨c, d, hk.cell 6, hk.cell 7, hk.cell 8, hk.cell 9, hk.cell 10, hk.cell 11, h2.below hb, h3.below hb⟩
  | j + 2, hj => simp at hj; omega
end Go.Proofs.YtpalknbmejachaaGreatDoor
/- Walks: Drop of lines; At of package plane. -/
namespace Go.Proofs.YtpalknbmejachaaGreatDoor
open Go.RowKit Cx

attribute [local go_sem ↓] Go.wp_at_zero Go.wp_at_succ

theorem QS.div {k l : Nat} {a b : Rat} (h1 : QS k a) (h2 : QS l b) : QS (k + l) (a / b) := by
  rw [Rat.div_def]
  by_cases h0 : b.num = 0
  · rw [Rat.num_eq_zero.1 h0, Rat.inv_zero, Rat.mul_zero]
    exact QS.zero.mono (by have := h1.pos; omega)
  · exact h1.mul (h2.inv h0)

set_option maxHeartbeats 4000000 in
set_option maxRecDepth 100000 in
theorem lineDrop_walk {w : World} {cax cay caz cbx cbz : C3} {ax ay az bx bz : Rat} (hax : QV w (.agg #[.bool cax.n, .slice cax.u cax.nu cax.cu, .slice cax.l cax.nl cax.cl]) ax) (hay : QV w (.agg #[.bool cay.n, .slice cay.u cay.nu cay.cu, .slice cay.l cay.nl cay.cl]) ay) (haz : QV w (.agg #[.bool caz.n, .slice caz.u caz.nu caz.cu, .slice caz.l caz.nl caz.cl]) az) (hbx : QV w (.agg #[.bool cbx.n, .slice cbx.u cbx.nu cbx.cu, .slice cbx.l cbx.nl cbx.cl]) bx) (hbz : QV w (.agg #[.bool cbz.n, .slice cbz.u cbz.nu cbz.cu, .slice cbz.l cbz.nl cbz.cl]) bz) {k l : Nat} (f1 : QS k ax) (f2 : QS k ay) (f5 : QS k az) (f3 : QS l bx) (f4 : QS l bz) (hk : 30 * (k + l + 1) ≤ 35184372088640) :
    Calls Tryz.prog 124 #[.agg #[.bool cax.n, .slice cax.u cax.nu cax.cu, .slice cax.l cax.nl cax.cl, .bool cay.n, .slice cay.u cay.nu cay.cu, .slice cay.l cay.nl cay.cl, .bool caz.n, .slice caz.u caz.nu caz.cu, .slice caz.l caz.nl caz.cl], .agg #[.bool cbx.n, .slice cbx.u cbx.nu cbx.cu, .slice cbx.l cbx.nl cbx.cl, .bool cbz.n, .slice cbz.u cbz.nu cbz.cu, .slice cbz.l cbz.nl cbz.cl]] w fun e w' => Below w.heap.size w w' ∧ ∃ v, e = .returned v ∧ WV w' v (ax * -(ax * bx + ay * bz + az) / (ax * ax + ay * ay)) (ay * -(ax * bx + ay * bz + az) / (ax * ax + ay * ay)) := by
  obtain ⟨hb0, hk0, hk1, hk2, hsz⟩ := boxes3 w #[.bool cax.n, .slice cax.u cax.nu cax.cu, .slice cax.l cax.nl cax.cl, .bool cay.n, .slice cay.u cay.nu cay.cu, .slice cay.l cay.nl cay.cl, .bool caz.n, .slice caz.u caz.nu caz.cu, .slice caz.l caz.nl caz.cl] #[.bool cbx.n, .slice cbx.u cbx.nu cbx.cu, .slice cbx.l cbx.nl cbx.cl, .bool cbz.n, .slice cbz.u cbz.nu cbz.cu, .slice cbz.l cbz.nl cbz.cl] #[.bool false, .slice none 0 0, .slice none 0 0, .bool false, .slice none 0 0, .slice none 0 0] 112 72 72
  have HB0 := hideIt hb0
  have HSZ := hideIt hsz
  have HK0 := hideIt hk0
  have HK1 := hideIt hk1
  have HK2 := hideIt hk2
  have Hax := hideIt (hax.below hb0)
  have Hay := hideIt (hay.below hb0)
  have Haz := hideIt (haz.below hb0)
  have Hbx := hideIt (hbx.below hb0)
  have Hbz := hideIt (hbz.below hb0)
  have F1 := hideIt f1
  have F2 := hideIt f2
  have F3 := hideIt f3
  have F4 := hideIt f4
  have F5 := hideIt f5
  have HK := hideIt hk
  clear hb0 hsz hk0 hk1 hk2 hax hay haz hbx hbz f1 f2 f3 f4 f5 hk
  have K1 : Hid (3 * (k + l + 1) + 1 ≤ 35184372088640) := by have := HK.out; show _ ≤ _; omega
  have FV : Hid (QS (k + l + (k + l) + 1 + k + 1) (-(ax * bx + ay * bz + az))) := (((F1.out.mul F3.out).add (F2.out.mul F4.out)).add F5.out).neg
  have K2 : Hid (k + (k + l + (k + l) + 1 + k + 1) + 1 ≤ 35184372088640) := by have := HK.out; show _ ≤ _; omega
  have K3 : Hid (2 * (k + k + 1) + 1 ≤ 35184372088640) := by have := HK.out; show _ ≤ _; omega
  have K4 : Hid (k + (k + l + (k + l) + 1 + k + 1) + (k + k + (k + k) + 1) + 1 ≤ 35184372088640) := by have := HK.out; show _ ≤ _; omega
  go_enter Tryz.func124, Tryz.ntmps124
  go_wp2_with fail
  generalize (((w.alloc (.cells #[.bool cax.n, .slice cax.u cax.nu cax.cu, .slice cax.l cax.nl cax.cl, .bool cay.n, .slice cay.u cay.nu cay.cu, .slice cay.l cay.nl cay.cl, .bool caz.n, .slice caz.u caz.nu caz.cu, .slice caz.l caz.nl caz.cl] 112)).alloc (.cells #[.bool cbx.n, .slice cbx.u cbx.nu cbx.cu, .slice cbx.l cbx.nl cbx.cl, .bool cbz.n, .slice cbz.u cbz.nu cbz.cu, .slice cbz.l cbz.nl cbz.cl] 72)).alloc (.cells #[.bool false, .slice none 0 0, .slice none 0 0, .bool false, .slice none 0 0, .slice none 0 0] 72)) = W0 at *
  have HS : Hid (∀ w', Below W0.heap.size W0 w' → w'.cell? ⟨w.heap.size, 0, none⟩ = some (.bool cax.n) ∧ w'.cell? ⟨w.heap.size, 1, none⟩ = some (.slice cax.u cax.nu cax.cu) ∧ w'.cell? ⟨w.heap.size, 2, none⟩ = some (.slice cax.l cax.nl cax.cl) ∧ w'.cell? ⟨w.heap.size, 3, none⟩ = some (.bool cay.n) ∧ w'.cell? ⟨w.heap.size, 4, none⟩ = some (.slice cay.u cay.nu cay.cu) ∧ w'.cell? ⟨w.heap.size, 5, none⟩ = some (.slice cay.l cay.nl cay.cl) ∧ w'.cell? ⟨w.heap.size, 6, none⟩ = some (.bool caz.n) ∧ w'.cell? ⟨w.heap.size, 7, none⟩ = some (.slice caz.u caz.nu caz.cu) ∧ w'.cell? ⟨w.heap.size, 8, none⟩ = some (.slice caz.l caz.nl caz.cl) ∧ w'.cell? ⟨w.heap.size + 1, 0, none⟩ = some (.bool cbx.n) ∧ w'.cell? ⟨w.heap.size + 1, 1, none⟩ = some (.slice cbx.u cbx.nu cbx.cu) ∧ w'.cell? ⟨w.heap.size + 1, 2, none⟩ = some (.slice cbx.l cbx.nl cbx.cl) ∧ w'.cell? ⟨w.heap.size + 1, 3, none⟩ = some (.bool cbz.n) ∧ w'.cell? ⟨w.heap.size + 1, 4, none⟩ = some (.slice cbz.u cbz.nu cbz.cu) ∧ w'.cell? ⟨w.heap.size + 1, 5, none⟩ = some (.slice cbz.l cbz.nl cbz.cl)) := fun w' hb => ⟨(HK0.out.below hb (by rw [HSZ.out]; omega)).cell 0, (HK0.out.below hb (by rw [HSZ.out]; omega)).cell 1, (HK0.out.below hb (by rw [HSZ.out]; omega)).cell 2, (HK0.out.below hb (by rw [HSZ.out]; omega)).cell 3, (HK0.out.below hb (by rw [HSZ.out]; omega)).cell 4, (HK0.out.below hb (by rw [HSZ.out]; omega)).cell 5, (HK0.out.below hb (by rw [HSZ.out]; omega)).cell 6, (HK0.out.below hb (by rw [HSZ.out]; omega)).cell 7, (HK0.out.below hb (by rw [HSZ.out]; omega)).cell 8, (HK1.out.below hb (by rw [HSZ.out]; omega)).cell 0, (HK1.out.below hb (by rw [HSZ.out]; omega)).cell 1, (HK1.out.below hb (by rw [HSZ.out]; omega)).cell 2, (HK1.out.below hb (by rw [HSZ.out]; omega)).cell 3, (HK1.out.below hb (by rw [HSZ.out]; omega)).cell 4, (HK1.out.below hb (by rw [HSZ.out]; omega)).cell 5⟩
  have HSS : Hid (∀ w', Below W0.heap.size W0 w' → ∀ x0 x1 x2 x3 x4 x5 : Value, ((((((w'.setCell ⟨w.heap.size + 1 + 1, 0, none⟩ (x0)).setCell ⟨w.heap.size + 1 + 1, 1, none⟩ (x1)).setCell ⟨w.heap.size + 1 + 1, 2, none⟩ (x2)).setCell ⟨w.heap.size + 1 + 1, 3, none⟩ (x3)).setCell ⟨w.heap.size + 1 + 1, 4, none⟩ (x4)).setCell ⟨w.heap.size + 1 + 1, 5, none⟩ (x5)).cell? ⟨w.heap.size, 0, none⟩ = some (.bool cax.n) ∧ ((((((w'.setCell ⟨w.heap.size + 1 + 1, 0, none⟩ (x0)).setCell ⟨w.heap.size + 1 + 1, 1, none⟩ (x1)).setCell ⟨w.heap.size + 1 + 1, 2, none⟩ (x2)).setCell ⟨w.heap.size + 1 + 1, 3, none⟩ (x3)).setCell ⟨w.heap.size + 1 + 1, 4, none⟩ (x4)).setCell ⟨w.heap.size + 1 + 1, 5, none⟩ (x5)).cell? ⟨w.heap.size, 1, none⟩ = some (.slice cax.u cax.nu cax.cu) ∧ ((((((w'.setCell ⟨w.heap.size + 1 + 1, 0, none⟩ (x0)).setCell ⟨w.heap.size + 1 + 1, 1, none⟩ (x1)).setCell ⟨w.heap.size + 1 + 1, 2, none⟩ (x2)).setCell ⟨w.heap.size + 1 + 1, 3, none⟩ (x3)).setCell ⟨w.heap.size + 1 + 1, 4, none⟩ (x4)).setCell ⟨w.heap.size + 1 + 1, 5, none⟩ (x5)).cell? ⟨w.heap.size, 2, none⟩ = some (.slice cax.l cax.nl cax.cl) ∧ ((((((w'.setCell ⟨w.heap.size + 1 + 1, 0, none⟩ (x0)).setCell ⟨w.heap.size + 1 + 1, 1, none⟩ (x1)).setCell ⟨w.heap.size + 1 + 1, 2, none⟩ (x2)).setCell ⟨w.heap.size + 1 + 1, 3, none⟩ (x3)).setCell ⟨w.heap.size + 1 + 1, 4, none⟩ (x4)).setCell ⟨w.heap.size + 1 + 1, 5, none⟩ (x5)).cell? ⟨w.heap.size, 3, none⟩ = some (.bool cay.n) ∧ ((((((w'.setCell ⟨w.heap.size + 1 + 1, 0, none⟩ (x0)).setCell ⟨w.heap.size + 1 + 1, 1, none⟩ (x1)).setCell ⟨w.heap.size + 1 + 1, 2, none⟩ (x2)).setCell ⟨w.heap.size + 1 + 1, 3, none⟩ (x3)).setCell ⟨w.heap.size + 1 + 1, 4, none⟩ (x4)).setCell ⟨w.heap.size + 1 + 1, 5, none⟩ (x5)).cell? ⟨w.heap.size, 4, none⟩ = some (.slice cay.u cay.nu cay.cu) ∧ ((((((w'.setCell ⟨w.heap.size + 1 + 1, 0, none⟩ (x0)).setCell ⟨w.heap.size + 1 + 1, 1, none⟩ (x1)).setCell ⟨w.heap.size + 1 + 1, 2, none⟩ (x2)).setCell ⟨w.heap.size + 1 + 1, 3, none⟩ (x3)).setCell ⟨w.heap.size + 1 + 1, 4, none⟩ (x4)).setCell ⟨w.heap.size + 1 + 1, 5, none⟩ (x5)).cell? ⟨w.heap.size, 5, none⟩ = some (.slice cay.l cay.nl cay.cl) ∧ ((((((w'.setCell ⟨w.heap.size + 1 + 1, 0, none⟩ (x0)).setCell ⟨w.heap.size + 1 + 1, 1, none⟩ (x1)).setCell ⟨w.heap.size + 1 + 1, 2, none⟩ (x2)).setCell ⟨w.heap.size + 1 + 1, 3, none⟩ (x3)).setCell ⟨w.heap.size + 1 + 1, 4, none⟩ (x4)).setCell ⟨w.heap.size + 1 + 1, 5, none⟩ (x5)).cell? ⟨w.heap.size, 6, none⟩ = some (.bool caz.n) ∧ ((((((w'.setCell ⟨w.heap.size + 1 + 1, 0, none⟩ (x0)).setCell ⟨w.heap.size + 1 + 1, 1, none⟩ (x1)).setCell ⟨w.heap.size + 1 + 1, 2, none⟩ (x2)).setCell ⟨w.heap.size + 1 + 1, 3, none⟩ (x3)).setCell ⟨w.heap.size + 1 + 1, 4, none⟩ (x4)).setCell ⟨w.heap.size + 1 + 1, 5, none⟩ (x5)).cell? ⟨w.heap.size, 7, none⟩ = some (.slice caz.u caz.nu caz.cu) ∧ ((((((w'.setCell ⟨w.heap.size + 1 + 1, 0, none⟩ (x0)).setCell ⟨w.heap.size + 1 + 1, 1, none⟩ (x1)).setCell ⟨w.heap.size + 1 + 1, 2, none⟩ (x2)).setCell ⟨w.heap.size + 1 + 1, 3, none⟩ (x3)).setCell ⟨w.heap.size + 1 + 1, 4, none⟩ (x4)).setCell ⟨w.heap.size + 1 + 1, 5, none⟩ (x5)).cell? ⟨w.heap.size, 8, none⟩ = some (.slice caz.l caz.nl caz.cl) ∧ ((((((w'.setCell ⟨w.heap.size + 1 + 1, 0, none⟩ (x0)).setCell ⟨w.heap.size + 1 + 1, 1, none⟩ (x1)).setCell ⟨w.heap.size + 1 + 1, 2, none⟩ (x2)).setCell ⟨w.heap.size + 1 + 1, 3, none⟩ (x3)).setCell ⟨w.heap.size + 1 + 1, 4, none⟩ (x4)).setCell ⟨w.heap.size + 1 + 1, 5, none⟩ (x5)).cell? ⟨w.heap.size + 1, 0, none⟩ = some (.bool cbx.n) ∧ ((((((w'.setCell ⟨w.heap.size + 1 + 1, 0, none⟩ (x0)).setCell ⟨w.heap.size + 1 + 1, 1, none⟩ (x1)).setCell ⟨w.heap.size + 1 + 1, 2, none⟩ (x2)).setCell ⟨w.heap.size + 1 + 1, 3, none⟩ (x3)).setCell ⟨w.heap.size + 1 + 1, 4, none⟩ (x4)).setCell ⟨w.heap.size + 1 + 1, 5, none⟩ (x5)).cell? ⟨w.heap.size + 1, 1, none⟩ = some (.slice cbx.u cbx.nu cbx.cu) ∧ ((((((w'.setCell ⟨w.heap.size + 1 + 1, 0, none⟩ (x0)).setCell ⟨w.heap.size + 1 + 1, 1, none⟩ (x1)).setCell ⟨w.heap.size + 1 + 1, 2, none⟩ (x2)).setCell ⟨w.heap.size + 1 + 1, 3, none⟩ (x3)).setCell ⟨w.heap.size + 1 + 1, 4, none⟩ (x4)).setCell ⟨w.heap.size + 1 + 1, 5, none⟩ (x5)).cell? ⟨w.heap.size + 1, 2, none⟩ = some (.slice cbx.l cbx.nl cbx.cl) ∧ ((((((w'.setCell ⟨w.heap.size + 1 + 1, 0, none⟩ (x0)).setCell ⟨w.heap.size + 1 + 1, 1, none⟩ (x1)).setCell ⟨w.heap.size + 1 + 1, 2, none⟩ (x2)).setCell ⟨w.heap.size + 1 + 1, 3, none⟩ (x3)).setCell ⟨w.heap.size + 1 + 1, 4, none⟩ (x4)).setCell ⟨w.heap.size + 1 + 1, 5, none⟩ (x5)).cell? ⟨w.heap.size + 1, 3, none⟩ = some (.bool cbz.n) ∧ ((((((w'.setCell ⟨w.heap.size + 1 + 1, 0, none⟩ (x0)).setCell ⟨w.heap.size + 1 + 1, 1, none⟩ (x1)).setCell ⟨w.heap.size + 1 + 1, 2, none⟩ (x2)).setCell ⟨w.heap.size + 1 + 1, 3, none⟩ (x3)).setCell ⟨w.heap.size + 1 + 1, 4, none⟩ (x4)).setCell ⟨w.heap.size + 1 + 1, 5, none⟩ (x5)).cell? ⟨w.heap.size + 1, 4, none⟩ = some (.slice cbz.u cbz.nu cbz.cu) ∧ ((((((w'.setCell ⟨w.heap.size + 1 + 1, 0, none⟩ (x0)).setCell ⟨w.heap.size + 1 + 1, 1, none⟩ (x1)).setCell ⟨w.heap.size + 1 + 1, 2, none⟩ (x2)).setCell ⟨w.heap.size + 1 + 1, 3, none⟩ (x3)).setCell ⟨w.heap.size + 1 + 1, 4, none⟩ (x4)).setCell ⟨w.heap.size + 1 + 1, 5, none⟩ (x5)).cell? ⟨w.heap.size + 1, 5, none⟩ = some (.slice cbz.l cbz.nl cbz.cl)) := fun w' hb x0 x1 x2 x3 x4 x5 => ⟨((HK0.out.below hb (by rw [HSZ.out]; omega)).off6 (g := w.heap.size + 1 + 1) (by omega) x0 x1 x2 x3 x4 x5).cell 0, ((HK0.out.below hb (by rw [HSZ.out]; omega)).off6 (g := w.heap.size + 1 + 1) (by omega) x0 x1 x2 x3 x4 x5).cell 1, ((HK0.out.below hb (by rw [HSZ.out]; omega)).off6 (g := w.heap.size + 1 + 1) (by omega) x0 x1 x2 x3 x4 x5).cell 2, ((HK0.out.below hb (by rw [HSZ.out]; omega)).off6 (g := w.heap.size + 1 + 1) (by omega) x0 x1 x2 x3 x4 x5).cell 3, ((HK0.out.below hb (by rw [HSZ.out]; omega)).off6 (g := w.heap.size + 1 + 1) (by omega) x0 x1 x2 x3 x4 x5).cell 4, ((HK0.out.below hb (by rw [HSZ.out]; omega)).off6 (g := w.heap.size + 1 + 1) (by omega) x0 x1 x2 x3 x4 x5).cell 5, ((HK0.out.below hb (by rw [HSZ.out]; omega)).off6 (g := w.heap.size + 1 + 1) (by omega) x0 x1 x2 x3 x4 x5).cell 6, ((HK0.out.below hb (by rw [HSZ.out]; omega)).off6 (g := w.heap.size + 1 + 1) (by omega) x0 x1 x2 x3 x4 x5).cell 7, ((HK0.out.below hb (by rw [HSZ.out]; omega)).off6 (g := w.heap.size + 1 + 1) (by omega) x0 x1 x2 x3 x4 x5).cell 8, ((HK1.out.below hb (by rw [HSZ.out]; omega)).off6 (g := w.heap.size + 1 + 1) (by omega) x0 x1 x2 x3 x4 x5).cell 0, ((HK1.out.below hb (by rw [HSZ.out]; omega)).off6 (g := w.heap.size + 1 + 1) (by omega) x0 x1 x2 x3 x4 x5).cell 1, ((HK1.out.below hb (by rw [HSZ.out]; omega)).off6 (g := w.heap.size + 1 + 1) (by omega) x0 x1 x2 x3 x4 x5).cell 2, ((HK1.out.below hb (by rw [HSZ.out]; omega)).off6 (g := w.heap.size + 1 + 1) (by omega) x0 x1 x2 x3 x4 x5).cell 3, ((HK1.out.below hb (by rw [HSZ.out]; omega)).off6 (g := w.heap.size + 1 + 1) (by omega) x0 x1 x2 x3 x4 x5).cell 4, ((HK1.out.below hb (by rw [HSZ.out]; omega)).off6 (g := w.heap.size + 1 + 1) (by omega) x0 x1 x2 x3 x4 x5).cell 5⟩
  obtain ⟨z0, z1, z2, z3, z4, z5, z6, z7, z8, z9, z10, z11, z12, z13, z14⟩ := HS.out W0 (Below.refl _ _)
  go_region_held3 (fun w' => w'.cell? ⟨w.heap.size, 0, none⟩ = some (.bool cax.n) ∧ w'.cell? ⟨w.heap.size, 1, none⟩ = some (.slice cax.u cax.nu cax.cu) ∧ w'.cell? ⟨w.heap.size, 2, none⟩ = some (.slice cax.l cax.nl cax.cl) ∧ w'.cell? ⟨w.heap.size, 3, none⟩ = some (.bool cay.n) ∧ w'.cell? ⟨w.heap.size, 4, none⟩ = some (.slice cay.u cay.nu cay.cu) ∧ w'.cell? ⟨w.heap.size, 5, none⟩ = some (.slice cay.l cay.nl cay.cl) ∧ w'.cell? ⟨w.heap.size, 6, none⟩ = some (.bool caz.n) ∧ w'.cell? ⟨w.heap.size, 7, none⟩ = some (.slice caz.u caz.nu caz.cu) ∧ w'.cell? ⟨w.heap.size, 8, none⟩ = some (.slice caz.l caz.nl caz.cl) ∧ w'.cell? ⟨w.heap.size + 1, 0, none⟩ = some (.bool cbx.n) ∧ w'.cell? ⟨w.heap.size + 1, 1, none⟩ = some (.slice cbx.u cbx.nu cbx.cu) ∧ w'.cell? ⟨w.heap.size + 1, 2, none⟩ = some (.slice cbx.l cbx.nl cbx.cl) ∧ w'.cell? ⟨w.heap.size + 1, 3, none⟩ = some (.bool cbz.n) ∧ w'.cell? ⟨w.heap.size + 1, 4, none⟩ = some (.slice cbz.u cbz.nu cbz.cu) ∧ w'.cell? ⟨w.heap.size + 1, 5, none⟩ = some (.slice cbz.l cbz.nl cbz.cl)) (first | go_keep | exact hs1 | exact hs2 | exact hs3 | exact hs4 | exact hs5 | exact hkS)
    (first
      | (go_at_call 130; refine (lineValue_calls (w := W0.drew) ⟨cax, cay, caz, rfl, (Hax.out.below (Below.drew (Below.refl _ _))), (Hay.out.below (Below.drew (Below.refl _ _))), (Haz.out.below (Below.drew (Below.refl _ _)))⟩ ⟨cbx, cbz, rfl, (Hbx.out.below (Below.drew (Below.refl _ _))), (Hbz.out.below (Below.drew (Below.refl _ _)))⟩ F1.out F2.out F5.out F3.out F4.out K1.out).mono ?_; rintro e w1 ⟨hb1, v1, rfl, hv1⟩; have hbl1 : Below W0.heap.size W0 w1 := (Below.drew (Below.refl _ W0)).trans hb1; obtain ⟨d1, rfl⟩ := qv_open hv1; have hs1 := HS.out w1 hbl1)
      | (go_at_call 131; refine (negative_calls hv1).mono ?_; rintro e w2 ⟨hb2, v2, rfl, hv2⟩; have hbl2 := hbl1.trans (hb2.mono hbl1.size); obtain ⟨d2, rfl⟩ := qv_open hv2; have hs2 := HS.out w2 hbl2)
      | (go_at_call 63; refine (wayTimes_calls ⟨cax, cay, rfl, (Hax.out.below hbl2), (Hay.out.below hbl2)⟩ hv2 F1.out F2.out FV.out K2.out).mono ?_; rintro e w3 ⟨hb3, v3, rfl, hv3⟩; have hbl3 := hbl2.trans (hb3.mono hbl2.size); have hw3 := hv3; obtain ⟨d3, e3, rfl, hx3, hy3⟩ := hw3; have hs3 := HS.out w3 hbl3)
      | (go_at_call 45; refine (wayDot_calls ⟨cax, cay, rfl, (Hax.out.below hbl3), (Hay.out.below hbl3)⟩ ⟨cax, cay, rfl, (Hax.out.below hbl3), (Hay.out.below hbl3)⟩ F1.out F2.out F1.out F2.out K3.out).mono ?_; rintro e w4 ⟨hb4, v4, rfl, hv4⟩; have hbl4 := hbl3.trans (hb4.mono hbl3.size); obtain ⟨d4, rfl⟩ := qv_open hv4; have hs4 := HS.out w4 hbl4)
      | (go_at_call 79; refine (wayOver_calls (hv3.below hb4) hv4 (F1.out.mul FV.out) (F2.out.mul FV.out) ((F1.out.mul F1.out).add (F2.out.mul F2.out)) K4.out).mono ?_; rintro e w5 ⟨hb5, v5, rfl, hv5⟩; have hbl5 := hbl4.trans (hb5.mono hbl4.size); have hw5 := hv5; obtain ⟨d5, e5, rfl, hx5, hy5⟩ := hw5; have hs5 := HS.out w5 hbl5; have hkr := HK2.out.below hbl5 (by rw [HSZ.out]; omega); obtain ⟨r0, r1, r2, r3, r4, r5, f0, f1, f2, f3, f4, f5⟩ := hkr.all6; have hkS := HSS.out w5 hbl5 (.bool d5.n) (.slice d5.u d5.nu d5.cu) (.slice d5.l d5.nl d5.cl) (.bool e5.n) (.slice e5.u e5.nu e5.cu) (.slice e5.l e5.nl e5.cl))
      )
  all_goals
    go_wp2
    obtain ⟨k0, k1, k2, k3, k4, k5, _, _, _, _, _, _⟩ := (hkr.put6 (.bool d5.n) (.slice d5.u d5.nu d5.cu) (.slice d5.l d5.nl d5.cl) (.bool e5.n) (.slice e5.u e5.nu e5.cu) (.slice e5.l e5.nl e5.cl)).all6
    refine bodyPost_ret (v := .agg #[.bool d5.n, .slice d5.u d5.nu d5.cu, .slice d5.l d5.nl d5.cl, .bool e5.n, .slice e5.u e5.nu e5.cu, .slice e5.l e5.nl e5.cl]) (by simp [results, Tryz.results124, go_sem, k0, k1, k2, k3, k4, k5]) rfl ⟨Below.put6 (HB0.out.trans (hbl5.mono HB0.out.size)) (by omega) (.bool d5.n) (.slice d5.u d5.nu d5.cu) (.slice d5.l d5.nl d5.cl) (.bool e5.n) (.slice e5.u e5.nu e5.cu) (.slice e5.l e5.nl e5.cl), _, rfl, ?_⟩
    have hst := Stays.put6 hkr (by simp [notLimb]) (.bool d5.n) (.slice d5.u d5.nu d5.cu) (.slice d5.l d5.nl d5.cl) (.bool e5.n) (.slice e5.u e5.nu e5.cu) (.slice e5.l e5.nl e5.cl) rfl rfl rfl rfl rfl rfl
    exact ⟨d5, e5, rfl, hst.qv hx5, hst.qv hy5⟩

/-- Drop: the way from p to its foot. -/
theorem lineDrop_calls {w : World} {va vb : Value} {ax ay az bx bz : Rat} {k l : Nat} (ha : LV w va ax ay az) (hb : WV w vb bx bz) (f1 : QS k ax) (f2 : QS k ay) (f5 : QS k az) (f3 : QS l bx) (f4 : QS l bz) (hk : 30 * (k + l + 1) ≤ 35184372088640) :
    Calls Tryz.prog 124 #[va, vb] w fun e w' => Below w.heap.size w w' ∧ ∃ v, e = .returned v ∧ WV w' v (ax * -(ax * bx + ay * bz + az) / (ax * ax + ay * ay)) (ay * -(ax * bx + ay * bz + az) / (ax * ax + ay * ay)) := by
  obtain ⟨c1, c2, c5, rfl, h1, h2, h5⟩ := ha
  obtain ⟨c3, c4, rfl, h3, h4⟩ := hb
  exact lineDrop_walk h1 h2 h5 h3 h4 f1 f2 f5 f3 f4 hk

set_option maxHeartbeats 4000000 in
set_option maxRecDepth 100000 in
theorem planeAt_walk {w : World} {px pz qx qz t : ByteArray} (s1 : px.size ≤ 1048576) (s2 : pz.size ≤ 1048576) (s3 : qx.size ≤ 1048576) (s4 : qz.size ≤ 1048576) (s5 : t.size ≤ 1048576) (tab : Tab w) :
    Calls Tryz.prog 19 #[.agg #[.string px, .string pz], .agg #[.string qx, .string qz], .string t] w fun e w' => Below w.heap.size w w' ∧ ∃ v, e = .returned v ∧ PV v (tx (rd px.data.toList + (rd qx.data.toList - rd px.data.toList) * rd t.data.toList)) (tx (rd pz.data.toList + (rd qz.data.toList - rd pz.data.toList) * rd t.data.toList)) := by
  obtain ⟨hb0, hk0, hk1, hk2, hsz⟩ := boxes3 w #[.string px, .string pz] #[.string qx, .string qz] #[.string ⟨#[]⟩, .string ⟨#[]⟩] 24 24 24
  have HB0 := hideIt hb0
  have HSZ := hideIt hsz
  have HK0 := hideIt hk0
  have HK1 := hideIt hk1
  have HK2 := hideIt hk2
  have S1 := hideIt s1
  have S2 := hideIt s2
  have S3 := hideIt s3
  have S4 := hideIt s4
  have S5 := hideIt s5
  have HTAB := hideIt (tab.below hb0)
  clear tab
  clear hb0 hsz hk0 hk1 hk2  s1 s2 s3 s4 s5
  have HKB : Hid (4194309 + 4194309 + 1 ≤ 35184372088640) := by show _ ≤ _; omega
  have HKC : Hid (4194309 + 4194309 + 1 + 4194309 + 1 ≤ 35184372088640) := by show _ ≤ _; omega
  have HKD : Hid (2 * (4194309 + 4194309 + 1 + 4194309 + 1) + 1 ≤ 35184372088640) := by show _ ≤ _; omega
  have HKE : Hid (4194309 + (4194309 + 4194309 + 1 + 4194309) + 1 ≤ 35184372088640) := by show _ ≤ _; omega
  have L5 : Hid (t.size ≤ 4294967296) := by have := S5.out; show _ ≤ _; omega
  have M1 : Hid (px.data.toList.length ≤ 1048576) := by rw [str_len]; have := S1.out; show _ ≤ _; omega
  have L1 : Hid (px.data.toList.length ≤ 4294967296) := by have := M1.out; show _ ≤ _; omega
  have F1 : Hid (QS 4194309 (rd px.data.toList)) := (QS.rd _).mono (by have := M1.out; omega)
  have M2 : Hid (pz.data.toList.length ≤ 1048576) := by rw [str_len]; have := S2.out; show _ ≤ _; omega
  have L2 : Hid (pz.data.toList.length ≤ 4294967296) := by have := M2.out; show _ ≤ _; omega
  have F2 : Hid (QS 4194309 (rd pz.data.toList)) := (QS.rd _).mono (by have := M2.out; omega)
  have M3 : Hid (qx.data.toList.length ≤ 1048576) := by rw [str_len]; have := S3.out; show _ ≤ _; omega
  have L3 : Hid (qx.data.toList.length ≤ 4294967296) := by have := M3.out; show _ ≤ _; omega
  have F3 : Hid (QS 4194309 (rd qx.data.toList)) := (QS.rd _).mono (by have := M3.out; omega)
  have M4 : Hid (qz.data.toList.length ≤ 1048576) := by rw [str_len]; have := S4.out; show _ ≤ _; omega
  have L4 : Hid (qz.data.toList.length ≤ 4294967296) := by have := M4.out; show _ ≤ _; omega
  have F4 : Hid (QS 4194309 (rd qz.data.toList)) := (QS.rd _).mono (by have := M4.out; omega)
  have F5 : Hid (QS 4194309 (rd t.data.toList)) := (QS.rd _).mono (by rw [str_len]; have := S5.out; omega)
  have G1 : Hid (QS (4194309 + 4194309 + 1 + 4194309) ((rd qx.data.toList - rd px.data.toList) * rd t.data.toList)) := (F3.out.sub F1.out).mul F5.out
  have G2 : Hid (QS (4194309 + 4194309 + 1 + 4194309) ((rd qz.data.toList - rd pz.data.toList) * rd t.data.toList)) := (F4.out.sub F2.out).mul F5.out
  have A1 : Hid (∀ q ∈ [(rd px.data.toList, rd pz.data.toList), ((rd qx.data.toList - rd px.data.toList) * rd t.data.toList, (rd qz.data.toList - rd pz.data.toList) * rd t.data.toList)].map Prod.fst, QS (4194309 + 4194309 + 1 + 4194309) q) := all2 (F1.out.mono (by omega)) G1.out
  have A2 : Hid (∀ q ∈ [(rd px.data.toList, rd pz.data.toList), ((rd qx.data.toList - rd px.data.toList) * rd t.data.toList, (rd qz.data.toList - rd pz.data.toList) * rd t.data.toList)].map Prod.snd, QS (4194309 + 4194309 + 1 + 4194309) q) := all2 (F2.out.mono (by omega)) G2.out
  go_enter Tryz.func19, Tryz.ntmps19
  go_wp2_with fail
  generalize (((w.alloc (.cells #[.string px, .string pz] 24)).alloc (.cells #[.string qx, .string qz] 24)).alloc (.cells #[.string ⟨#[]⟩, .string ⟨#[]⟩] 24)) = W0 at *
  have HS : Hid (∀ w', Below W0.heap.size W0 w' → w'.cell? ⟨w.heap.size, 0, none⟩ = some (.string px) ∧ w'.cell? ⟨w.heap.size, 1, none⟩ = some (.string pz) ∧ w'.cell? ⟨w.heap.size + 1, 0, none⟩ = some (.string qx) ∧ w'.cell? ⟨w.heap.size + 1, 1, none⟩ = some (.string qz)) := fun w' hb => ⟨(HK0.out.below hb (by rw [HSZ.out]; omega)).cell 0, (HK0.out.below hb (by rw [HSZ.out]; omega)).cell 1, (HK1.out.below hb (by rw [HSZ.out]; omega)).cell 0, (HK1.out.below hb (by rw [HSZ.out]; omega)).cell 1⟩
  have HSS : Hid (∀ w', Below W0.heap.size W0 w' → ∀ x0 x1 : Value, ((w'.setCell ⟨w.heap.size + 1 + 1, 0, none⟩ (x0)).setCell ⟨w.heap.size + 1 + 1, 1, none⟩ (x1)).cell? ⟨w.heap.size, 0, none⟩ = some (.string px) ∧ ((w'.setCell ⟨w.heap.size + 1 + 1, 0, none⟩ (x0)).setCell ⟨w.heap.size + 1 + 1, 1, none⟩ (x1)).cell? ⟨w.heap.size, 1, none⟩ = some (.string pz) ∧ ((w'.setCell ⟨w.heap.size + 1 + 1, 0, none⟩ (x0)).setCell ⟨w.heap.size + 1 + 1, 1, none⟩ (x1)).cell? ⟨w.heap.size + 1, 0, none⟩ = some (.string qx) ∧ ((w'.setCell ⟨w.heap.size + 1 + 1, 0, none⟩ (x0)).setCell ⟨w.heap.size + 1 + 1, 1, none⟩ (x1)).cell? ⟨w.heap.size + 1, 1, none⟩ = some (.string qz)) := fun w' hb x0 x1 => ⟨((HK0.out.below hb (by rw [HSZ.out]; omega)).off2 (g := w.heap.size + 1 + 1) (by omega) x0 x1).cell 0, ((HK0.out.below hb (by rw [HSZ.out]; omega)).off2 (g := w.heap.size + 1 + 1) (by omega) x0 x1).cell 1, ((HK1.out.below hb (by rw [HSZ.out]; omega)).off2 (g := w.heap.size + 1 + 1) (by omega) x0 x1).cell 0, ((HK1.out.below hb (by rw [HSZ.out]; omega)).off2 (g := w.heap.size + 1 + 1) (by omega) x0 x1).cell 1⟩
  obtain ⟨z0, z1, z2, z3⟩ := HS.out W0 (Below.refl _ _)
  go_region_held3 (fun w' => w'.cell? ⟨w.heap.size, 0, none⟩ = some (.string px) ∧ w'.cell? ⟨w.heap.size, 1, none⟩ = some (.string pz) ∧ w'.cell? ⟨w.heap.size + 1, 0, none⟩ = some (.string qx) ∧ w'.cell? ⟨w.heap.size + 1, 1, none⟩ = some (.string qz)) (first | go_keep | exact hs1 | exact hs2 | exact hs3 | exact hs4 | exact hsA4 | exact hs5 | exact hs6 | exact hkS)
    (first
      | (go_at_call 62; refine (wayRead_calls (w := W0.drew) ⟨px, pz, rfl, rfl, rfl⟩ L1.out L2.out).mono ?_; rintro e w1 ⟨hb1, v1, rfl, hv1⟩; have hbl1 : Below W0.heap.size W0 w1 := (Below.drew (Below.refl _ W0)).trans hb1; have hw1 := hv1; obtain ⟨d1, e1, rfl, hx1, hy1⟩ := hw1; have hs1 := HS.out w1 hbl1)
      | (go_at_call 41; refine (between_calls ⟨px, pz, rfl, rfl, rfl⟩ ⟨qx, qz, rfl, rfl, rfl⟩ M1.out M2.out M3.out M4.out).mono ?_; rintro e w2 ⟨hb2, v2, rfl, hv2⟩; have hbl2 := hbl1.trans (hb2.mono hbl1.size); have hw2 := hv2; obtain ⟨d2, e2, rfl, hx2, hy2⟩ := hw2; have hs2 := HS.out w2 hbl2)
      | (go_at_call 64; refine (read_calls t _ L5.out).mono ?_; rintro e w3 ⟨hb3, v3, rfl, hv3⟩; have hbl3 := hbl2.trans (hb3.mono hbl2.size); obtain ⟨d3, rfl⟩ := qv_open hv3; have hs3 := HS.out w3 hbl3)
      | (go_at_call 63; refine (wayTimes_calls (hv2.below hb3) hv3 (F3.out.sub F1.out) (F4.out.sub F2.out) F5.out HKC.out).mono ?_; rintro e w4 ⟨hb4, v4, rfl, hv4⟩; have hbl4 := hbl3.trans (hb4.mono hbl3.size); have hw4 := hv4; obtain ⟨d4, e4, rfl, hx4, hy4⟩ := hw4; have hs4 := HS.out w4 hbl4; have hbA4 := below_new w4 (.cells #[.bool d1.n, .slice d1.u d1.nu d1.cu, .slice d1.l d1.nl d1.cl, .bool e1.n, .slice e1.u e1.nu e1.cu, .slice e1.l e1.nl e1.cl, .bool d4.n, .slice d4.u d4.nu d4.cu, .slice d4.l d4.nl d4.cl, .bool e4.n, .slice e4.u e4.nu e4.cu, .slice e4.l e4.nl e4.cl] 72); have hblA4 := hbl4.trans (hbA4.mono hbl4.size); have hsA4 := HS.out _ hblA4)
      | (go_at_call 61; refine (waySum_calls (wrow2 (((hx1.below hb2).below hb3).below hb4) (((hy1.below hb2).below hb3).below hb4) hx4 hy4) A1.out A2.out (by simp) HKD.out).mono ?_; rintro e w5 ⟨hb5, v5, rfl, hv5⟩; have hbl5 := hblA4.trans (hb5.mono hblA4.size); have hw5 := hv5; obtain ⟨d5, e5, rfl, hx5, hy5⟩ := hw5; rw [show rsum ([(rd px.data.toList, rd pz.data.toList), ((rd qx.data.toList - rd px.data.toList) * rd t.data.toList, (rd qz.data.toList - rd pz.data.toList) * rd t.data.toList)].map Prod.fst) = rd px.data.toList + (rd qx.data.toList - rd px.data.toList) * rd t.data.toList from rsum2 _ _, show rsum ([(rd px.data.toList, rd pz.data.toList), ((rd qx.data.toList - rd px.data.toList) * rd t.data.toList, (rd qz.data.toList - rd pz.data.toList) * rd t.data.toList)].map Prod.snd) = rd pz.data.toList + (rd qz.data.toList - rd pz.data.toList) * rd t.data.toList from rsum2 _ _] at hv5; have hs5 := HS.out w5 hbl5)
      | (go_at_call 65; refine (wayText_calls hv5 (F1.out.add G1.out) (F2.out.add G2.out) HKE.out (HTAB.out.below hbl5)).mono ?_; rintro e w6 ⟨hb6, _, rfl, s6, t6, rfl, ha6, hc6⟩; have hbl6 := hbl5.trans (hb6.mono hbl5.size); have hs6 := HS.out w6 hbl6; have hkr := HK2.out.below hbl6 (by rw [HSZ.out]; omega); obtain ⟨r0, r1, f0, f1⟩ := hkr.all2; have hkS := HSS.out w6 hbl6 (.string s6) (.string t6))
      )
  all_goals
    go_wp2
    obtain ⟨k0, k1, _, _⟩ := (hkr.put2 (.string s6) (.string t6)).all2
    refine bodyPost_ret (v := .agg #[.string s6, .string t6]) (by simp [results, Tryz.results19, go_sem, k0, k1]) rfl ⟨Below.put2 (HB0.out.trans (hbl6.mono HB0.out.size)) (by omega) (.string s6) (.string t6), _, rfl, ?_⟩
    exact ⟨s6, t6, rfl, ha6, hc6⟩

/-- At: p and k times the way from p to q. -/
theorem planeAt_calls {w : World} {va vb : Value} {px pz qx qz lt : List UInt8} {t : ByteArray} (ha : PV va px pz) (hb : PV vb qx qz) (ht : t.data.toList = lt) (s1 : px.length ≤ 1048576) (s2 : pz.length ≤ 1048576) (s3 : qx.length ≤ 1048576) (s4 : qz.length ≤ 1048576) (s5 : lt.length ≤ 1048576) (tab : Tab w) :
    Calls Tryz.prog 19 #[va, vb, .string t] w fun e w' => Below w.heap.size w w' ∧ ∃ v, e = .returned v ∧ PV v (tx (rd px + (rd qx - rd px) * rd lt)) (tx (rd pz + (rd qz - rd pz) * rd lt)) := by
  obtain ⟨a, b, rfl, rfl, rfl⟩ := ha
  obtain ⟨c, d, rfl, rfl, rfl⟩ := hb
  subst ht
  rw [str_len] at s1 s2 s3 s4 s5
  exact planeAt_walk s1 s2 s3 s4 s5 tab

end Go.Proofs.YtpalknbmejachaaGreatDoor
/- Walks: Turn of ways; turn, Area2, Far2 of points. -/
namespace Go.Proofs.YtpalknbmejachaaGreatDoor
open Go.RowKit Cx

attribute [local go_sem ↓] Go.wp_at_zero Go.wp_at_succ

set_option maxHeartbeats 4000000 in
set_option maxRecDepth 100000 in
theorem wayTurn_walk {w : World} {cax cay cbx cbz ccx ccz : C3} {ax ay bx bz cx cz : Rat} (hax : QV w (.agg #[.bool cax.n, .slice cax.u cax.nu cax.cu, .slice cax.l cax.nl cax.cl]) ax) (hay : QV w (.agg #[.bool cay.n, .slice cay.u cay.nu cay.cu, .slice cay.l cay.nl cay.cl]) ay) (hbx : QV w (.agg #[.bool cbx.n, .slice cbx.u cbx.nu cbx.cu, .slice cbx.l cbx.nl cbx.cl]) bx) (hbz : QV w (.agg #[.bool cbz.n, .slice cbz.u cbz.nu cbz.cu, .slice cbz.l cbz.nl cbz.cl]) bz) (hcx : QV w (.agg #[.bool ccx.n, .slice ccx.u ccx.nu ccx.cu, .slice ccx.l ccx.nl ccx.cl]) cx) (hcz : QV w (.agg #[.bool ccz.n, .slice ccz.u ccz.nu ccz.cu, .slice ccz.l ccz.nl ccz.cl]) cz) {k : Nat} (f1 : QS k ax) (f2 : QS k ay) (f3 : QS k bx) (f4 : QS k bz) (f5 : QS k cx) (f6 : QS k cz) (hk : 8 * k + 5 ≤ 35184372088640) :
    Calls Tryz.prog 122 #[.agg #[.bool cax.n, .slice cax.u cax.nu cax.cu, .slice cax.l cax.nl cax.cl, .bool cay.n, .slice cay.u cay.nu cay.cu, .slice cay.l cay.nl cay.cl], .agg #[.bool cbx.n, .slice cbx.u cbx.nu cbx.cu, .slice cbx.l cbx.nl cbx.cl, .bool cbz.n, .slice cbz.u cbz.nu cbz.cu, .slice cbz.l cbz.nl cbz.cl], .agg #[.bool ccx.n, .slice ccx.u ccx.nu ccx.cu, .slice ccx.l ccx.nl ccx.cl, .bool ccz.n, .slice ccz.u ccz.nu ccz.cu, .slice ccz.l ccz.nl ccz.cl]] w fun e w' => Below w.heap.size w w' ∧ ∃ v, e = .returned v ∧ QV w' v ((bx - ax) * (cz - ay) - (bz - ay) * (cx - ax)) := by
  obtain ⟨hb0, hk0, hk1, hk2, hk3, hsz⟩ := boxes4 w #[.bool cax.n, .slice cax.u cax.nu cax.cu, .slice cax.l cax.nl cax.cl, .bool cay.n, .slice cay.u cay.nu cay.cu, .slice cay.l cay.nl cay.cl] #[.bool cbx.n, .slice cbx.u cbx.nu cbx.cu, .slice cbx.l cbx.nl cbx.cl, .bool cbz.n, .slice cbz.u cbz.nu cbz.cu, .slice cbz.l cbz.nl cbz.cl] #[.bool ccx.n, .slice ccx.u ccx.nu ccx.cu, .slice ccx.l ccx.nl ccx.cl, .bool ccz.n, .slice ccz.u ccz.nu ccz.cu, .slice ccz.l ccz.nl ccz.cl] #[.bool false, .slice none 0 0, .slice none 0 0] 72 72 72 70
  have HB0 := hideIt hb0
  have HSZ := hideIt hsz
  have HK0 := hideIt hk0
  have HK1 := hideIt hk1
  have HK2 := hideIt hk2
  have HK3 := hideIt hk3
  have Hax := hideIt (hax.below hb0)
  have Hay := hideIt (hay.below hb0)
  have Hbx := hideIt (hbx.below hb0)
  have Hbz := hideIt (hbz.below hb0)
  have Hcx := hideIt (hcx.below hb0)
  have Hcz := hideIt (hcz.below hb0)
  have F1 := hideIt f1
  have F2 := hideIt f2
  have F3 := hideIt f3
  have F4 := hideIt f4
  have F5 := hideIt f5
  have F6 := hideIt f6
  have HK := hideIt hk
  clear hb0 hsz hk0 hk1 hk2 hk3 hax hay hbx hbz hcx hcz f1 f2 f3 f4 f5 f6 hk
  have HL : Hid (k + k + 1 ≤ 35184372088640) := by have := HK.out; show _ ≤ _; omega
  have HM : Hid (k + k + 1 + (k + k + 1) + (k + k + 1 + (k + k + 1)) + 1 ≤ 35184372088640) := by have := HK.out; show _ ≤ _; omega
  go_enter Tryz.func122, Tryz.ntmps122
  go_wp2_with fail
  generalize ((((w.alloc (.cells #[.bool cax.n, .slice cax.u cax.nu cax.cu, .slice cax.l cax.nl cax.cl, .bool cay.n, .slice cay.u cay.nu cay.cu, .slice cay.l cay.nl cay.cl] 72)).alloc (.cells #[.bool cbx.n, .slice cbx.u cbx.nu cbx.cu, .slice cbx.l cbx.nl cbx.cl, .bool cbz.n, .slice cbz.u cbz.nu cbz.cu, .slice cbz.l cbz.nl cbz.cl] 72)).alloc (.cells #[.bool ccx.n, .slice ccx.u ccx.nu ccx.cu, .slice ccx.l ccx.nl ccx.cl, .bool ccz.n, .slice ccz.u ccz.nu ccz.cu, .slice ccz.l ccz.nl ccz.cl] 72)).alloc (.cells #[.bool false, .slice none 0 0, .slice none 0 0] 70)) = W0 at *
  have HS : Hid (∀ w', Below W0.heap.size W0 w' → w'.cell? ⟨w.heap.size, 0, none⟩ = some (.bool cax.n) ∧ w'.cell? ⟨w.heap.size, 1, none⟩ = some (.slice cax.u cax.nu cax.cu) ∧ w'.cell? ⟨w.heap.size, 2, none⟩ = some (.slice cax.l cax.nl cax.cl) ∧ w'.cell? ⟨w.heap.size, 3, none⟩ = some (.bool cay.n) ∧ w'.cell? ⟨w.heap.size, 4, none⟩ = some (.slice cay.u cay.nu cay.cu) ∧ w'.cell? ⟨w.heap.size, 5, none⟩ = some (.slice cay.l cay.nl cay.cl) ∧ w'.cell? ⟨w.heap.size + 1, 0, none⟩ = some (.bool cbx.n) ∧ w'.cell? ⟨w.heap.size + 1, 1, none⟩ = some (.slice cbx.u cbx.nu cbx.cu) ∧ w'.cell? ⟨w.heap.size + 1, 2, none⟩ = some (.slice cbx.l cbx.nl cbx.cl) ∧ w'.cell? ⟨w.heap.size + 1, 3, none⟩ = some (.bool cbz.n) ∧ w'.cell? ⟨w.heap.size + 1, 4, none⟩ = some (.slice cbz.u cbz.nu cbz.cu) ∧ w'.cell? ⟨w.heap.size + 1, 5, none⟩ = some (.slice cbz.l cbz.nl cbz.cl) ∧ w'.cell? ⟨w.heap.size + 1 + 1, 0, none⟩ = some (.bool ccx.n) ∧ w'.cell? ⟨w.heap.size + 1 + 1, 1, none⟩ = some (.slice ccx.u ccx.nu ccx.cu) ∧ w'.cell? ⟨w.heap.size + 1 + 1, 2, none⟩ = some (.slice ccx.l ccx.nl ccx.cl) ∧ w'.cell? ⟨w.heap.size + 1 + 1, 3, none⟩ = some (.bool ccz.n) ∧ w'.cell? ⟨w.heap.size + 1 + 1, 4, none⟩ = some (.slice ccz.u ccz.nu ccz.cu) ∧ w'.cell? ⟨w.heap.size + 1 + 1, 5, none⟩ = some (.slice ccz.l ccz.nl ccz.cl)) := fun w' hb => ⟨(HK0.out.below hb (by rw [HSZ.out]; omega)).cell 0, (HK0.out.below hb (by rw [HSZ.out]; omega)).cell 1, (HK0.out.below hb (by rw [HSZ.out]; omega)).cell 2, (HK0.out.below hb (by rw [HSZ.out]; omega)).cell 3, (HK0.out.below hb (by rw [HSZ.out]; omega)).cell 4, (HK0.out.below hb (by rw [HSZ.out]; omega)).cell 5, (HK1.out.below hb (by rw [HSZ.out]; omega)).cell 0, (HK1.out.below hb (by rw [HSZ.out]; omega)).cell 1, (HK1.out.below hb (by rw [HSZ.out]; omega)).cell 2, (HK1.out.below hb (by rw [HSZ.out]; omega)).cell 3, (HK1.out.below hb (by rw [HSZ.out]; omega)).cell 4, (HK1.out.below hb (by rw [HSZ.out]; omega)).cell 5, (HK2.out.below hb (by rw [HSZ.out]; omega)).cell 0, (HK2.out.below hb (by rw [HSZ.out]; omega)).cell 1, (HK2.out.below hb (by rw [HSZ.out]; omega)).cell 2, (HK2.out.below hb (by rw [HSZ.out]; omega)).cell 3, (HK2.out.below hb (by rw [HSZ.out]; omega)).cell 4, (HK2.out.below hb (by rw [HSZ.out]; omega)).cell 5⟩
  have HSS : Hid (∀ w', Below W0.heap.size W0 w' → ∀ x0 x1 x2 : Value, (((w'.setCell ⟨w.heap.size + 1 + 1 + 1, 0, none⟩ (x0)).setCell ⟨w.heap.size + 1 + 1 + 1, 1, none⟩ (x1)).setCell ⟨w.heap.size + 1 + 1 + 1, 2, none⟩ (x2)).cell? ⟨w.heap.size, 0, none⟩ = some (.bool cax.n) ∧ (((w'.setCell ⟨w.heap.size + 1 + 1 + 1, 0, none⟩ (x0)).setCell ⟨w.heap.size + 1 + 1 + 1, 1, none⟩ (x1)).setCell ⟨w.heap.size + 1 + 1 + 1, 2, none⟩ (x2)).cell? ⟨w.heap.size, 1, none⟩ = some (.slice cax.u cax.nu cax.cu) ∧ (((w'.setCell ⟨w.heap.size + 1 + 1 + 1, 0, none⟩ (x0)).setCell ⟨w.heap.size + 1 + 1 + 1, 1, none⟩ (x1)).setCell ⟨w.heap.size + 1 + 1 + 1, 2, none⟩ (x2)).cell? ⟨w.heap.size, 2, none⟩ = some (.slice cax.l cax.nl cax.cl) ∧ (((w'.setCell ⟨w.heap.size + 1 + 1 + 1, 0, none⟩ (x0)).setCell ⟨w.heap.size + 1 + 1 + 1, 1, none⟩ (x1)).setCell ⟨w.heap.size + 1 + 1 + 1, 2, none⟩ (x2)).cell? ⟨w.heap.size, 3, none⟩ = some (.bool cay.n) ∧ (((w'.setCell ⟨w.heap.size + 1 + 1 + 1, 0, none⟩ (x0)).setCell ⟨w.heap.size + 1 + 1 + 1, 1, none⟩ (x1)).setCell ⟨w.heap.size + 1 + 1 + 1, 2, none⟩ (x2)).cell? ⟨w.heap.size, 4, none⟩ = some (.slice cay.u cay.nu cay.cu) ∧ (((w'.setCell ⟨w.heap.size + 1 + 1 + 1, 0, none⟩ (x0)).setCell ⟨w.heap.size + 1 + 1 + 1, 1, none⟩ (x1)).setCell ⟨w.heap.size + 1 + 1 + 1, 2, none⟩ (x2)).cell? ⟨w.heap.size, 5, none⟩ = some (.slice cay.l cay.nl cay.cl) ∧ (((w'.setCell ⟨w.heap.size + 1 + 1 + 1, 0, none⟩ (x0)).setCell ⟨w.heap.size + 1 + 1 + 1, 1, none⟩ (x1)).setCell ⟨w.heap.size + 1 + 1 + 1, 2, none⟩ (x2)).cell? ⟨w.heap.size + 1, 0, none⟩ = some (.bool cbx.n) ∧ (((w'.setCell ⟨w.heap.size + 1 + 1 + 1, 0, none⟩ (x0)).setCell ⟨w.heap.size + 1 + 1 + 1, 1, none⟩ (x1)).setCell ⟨w.heap.size + 1 + 1 + 1, 2, none⟩ (x2)).cell? ⟨w.heap.size + 1, 1, none⟩ = some (.slice cbx.u cbx.nu cbx.cu) ∧ (((w'.setCell ⟨w.heap.size + 1 + 1 + 1, 0, none⟩ (x0)).setCell ⟨w.heap.size + 1 + 1 + 1, 1, none⟩ (x1)).setCell ⟨w.heap.size + 1 + 1 + 1, 2, none⟩ (x2)).cell? ⟨w.heap.size + 1, 2, none⟩ = some (.slice cbx.l cbx.nl cbx.cl) ∧ (((w'.setCell ⟨w.heap.size + 1 + 1 + 1, 0, none⟩ (x0)).setCell ⟨w.heap.size + 1 + 1 + 1, 1, none⟩ (x1)).setCell ⟨w.heap.size + 1 + 1 + 1, 2, none⟩ (x2)).cell? ⟨w.heap.size + 1, 3, none⟩ = some (.bool cbz.n) ∧ (((w'.setCell ⟨w.heap.size + 1 + 1 + 1, 0, none⟩ (x0)).setCell ⟨w.heap.size + 1 + 1 + 1, 1, none⟩ (x1)).setCell ⟨w.heap.size + 1 + 1 + 1, 2, none⟩ (x2)).cell? ⟨w.heap.size + 1, 4, none⟩ = some (.slice cbz.u cbz.nu cbz.cu) ∧ (((w'.setCell ⟨w.heap.size + 1 + 1 + 1, 0, none⟩ (x0)).setCell ⟨w.heap.size + 1 + 1 + 1, 1, none⟩ (x1)).setCell ⟨w.heap.size + 1 + 1 + 1, 2, none⟩ (x2)).cell? ⟨w.heap.size + 1, 5, none⟩ = some (.slice cbz.l cbz.nl cbz.cl) ∧ (((w'.setCell ⟨w.heap.size + 1 + 1 + 1, 0, none⟩ (x0)).setCell ⟨w.heap.size + 1 + 1 + 1, 1, none⟩ (x1)).setCell ⟨w.heap.size + 1 + 1 + 1, 2, none⟩ (x2)).cell? ⟨w.heap.size + 1 + 1, 0, none⟩ = some (.bool ccx.n) ∧ (((w'.setCell ⟨w.heap.size + 1 + 1 + 1, 0, none⟩ (x0)).setCell ⟨w.heap.size + 1 + 1 + 1, 1, none⟩ (x1)).setCell ⟨w.heap.size + 1 + 1 + 1, 2, none⟩ (x2)).cell? ⟨w.heap.size + 1 + 1, 1, none⟩ = some (.slice ccx.u ccx.nu ccx.cu) ∧ (((w'.setCell ⟨w.heap.size + 1 + 1 + 1, 0, none⟩ (x0)).setCell ⟨w.heap.size + 1 + 1 + 1, 1, none⟩ (x1)).setCell ⟨w.heap.size + 1 + 1 + 1, 2, none⟩ (x2)).cell? ⟨w.heap.size + 1 + 1, 2, none⟩ = some (.slice ccx.l ccx.nl ccx.cl) ∧ (((w'.setCell ⟨w.heap.size + 1 + 1 + 1, 0, none⟩ (x0)).setCell ⟨w.heap.size + 1 + 1 + 1, 1, none⟩ (x1)).setCell ⟨w.heap.size + 1 + 1 + 1, 2, none⟩ (x2)).cell? ⟨w.heap.size + 1 + 1, 3, none⟩ = some (.bool ccz.n) ∧ (((w'.setCell ⟨w.heap.size + 1 + 1 + 1, 0, none⟩ (x0)).setCell ⟨w.heap.size + 1 + 1 + 1, 1, none⟩ (x1)).setCell ⟨w.heap.size + 1 + 1 + 1, 2, none⟩ (x2)).cell? ⟨w.heap.size + 1 + 1, 4, none⟩ = some (.slice ccz.u ccz.nu ccz.cu) ∧ (((w'.setCell ⟨w.heap.size + 1 + 1 + 1, 0, none⟩ (x0)).setCell ⟨w.heap.size + 1 + 1 + 1, 1, none⟩ (x1)).setCell ⟨w.heap.size + 1 + 1 + 1, 2, none⟩ (x2)).cell? ⟨w.heap.size + 1 + 1, 5, none⟩ = some (.slice ccz.l ccz.nl ccz.cl)) := fun w' hb x0 x1 x2 => ⟨((HK0.out.below hb (by rw [HSZ.out]; omega)).off3 (g := w.heap.size + 1 + 1 + 1) (by omega) x0 x1 x2).cell 0, ((HK0.out.below hb (by rw [HSZ.out]; omega)).off3 (g := w.heap.size + 1 + 1 + 1) (by omega) x0 x1 x2).cell 1, ((HK0.out.below hb (by rw [HSZ.out]; omega)).off3 (g := w.heap.size + 1 + 1 + 1) (by omega) x0 x1 x2).cell 2, ((HK0.out.below hb (by rw [HSZ.out]; omega)).off3 (g := w.heap.size + 1 + 1 + 1) (by omega) x0 x1 x2).cell 3, ((HK0.out.below hb (by rw [HSZ.out]; omega)).off3 (g := w.heap.size + 1 + 1 + 1) (by omega) x0 x1 x2).cell 4, ((HK0.out.below hb (by rw [HSZ.out]; omega)).off3 (g := w.heap.size + 1 + 1 + 1) (by omega) x0 x1 x2).cell 5, ((HK1.out.below hb (by rw [HSZ.out]; omega)).off3 (g := w.heap.size + 1 + 1 + 1) (by omega) x0 x1 x2).cell 0, ((HK1.out.below hb (by rw [HSZ.out]; omega)).off3 (g := w.heap.size + 1 + 1 + 1) (by omega) x0 x1 x2).cell 1, ((HK1.out.below hb (by rw [HSZ.out]; omega)).off3 (g := w.heap.size + 1 + 1 + 1) (by omega) x0 x1 x2).cell 2, ((HK1.out.below hb (by rw [HSZ.out]; omega)).off3 (g := w.heap.size + 1 + 1 + 1) (by omega) x0 x1 x2).cell 3, ((HK1.out.below hb (by rw [HSZ.out]; omega)).off3 (g := w.heap.size + 1 + 1 + 1) (by omega) x0 x1 x2).cell 4, ((HK1.out.below hb (by rw [HSZ.out]; omega)).off3 (g := w.heap.size + 1 + 1 + 1) (by omega) x0 x1 x2).cell 5, ((HK2.out.below hb (by rw [HSZ.out]; omega)).off3 (g := w.heap.size + 1 + 1 + 1) (by omega) x0 x1 x2).cell 0, ((HK2.out.below hb (by rw [HSZ.out]; omega)).off3 (g := w.heap.size + 1 + 1 + 1) (by omega) x0 x1 x2).cell 1, ((HK2.out.below hb (by rw [HSZ.out]; omega)).off3 (g := w.heap.size + 1 + 1 + 1) (by omega) x0 x1 x2).cell 2, ((HK2.out.below hb (by rw [HSZ.out]; omega)).off3 (g := w.heap.size + 1 + 1 + 1) (by omega) x0 x1 x2).cell 3, ((HK2.out.below hb (by rw [HSZ.out]; omega)).off3 (g := w.heap.size + 1 + 1 + 1) (by omega) x0 x1 x2).cell 4, ((HK2.out.below hb (by rw [HSZ.out]; omega)).off3 (g := w.heap.size + 1 + 1 + 1) (by omega) x0 x1 x2).cell 5⟩
  obtain ⟨z0, z1, z2, z3, z4, z5, z6, z7, z8, z9, z10, z11, z12, z13, z14, z15, z16, z17⟩ := HS.out W0 (Below.refl _ _)
  go_region_held3 (fun w' => w'.cell? ⟨w.heap.size, 0, none⟩ = some (.bool cax.n) ∧ w'.cell? ⟨w.heap.size, 1, none⟩ = some (.slice cax.u cax.nu cax.cu) ∧ w'.cell? ⟨w.heap.size, 2, none⟩ = some (.slice cax.l cax.nl cax.cl) ∧ w'.cell? ⟨w.heap.size, 3, none⟩ = some (.bool cay.n) ∧ w'.cell? ⟨w.heap.size, 4, none⟩ = some (.slice cay.u cay.nu cay.cu) ∧ w'.cell? ⟨w.heap.size, 5, none⟩ = some (.slice cay.l cay.nl cay.cl) ∧ w'.cell? ⟨w.heap.size + 1, 0, none⟩ = some (.bool cbx.n) ∧ w'.cell? ⟨w.heap.size + 1, 1, none⟩ = some (.slice cbx.u cbx.nu cbx.cu) ∧ w'.cell? ⟨w.heap.size + 1, 2, none⟩ = some (.slice cbx.l cbx.nl cbx.cl) ∧ w'.cell? ⟨w.heap.size + 1, 3, none⟩ = some (.bool cbz.n) ∧ w'.cell? ⟨w.heap.size + 1, 4, none⟩ = some (.slice cbz.u cbz.nu cbz.cu) ∧ w'.cell? ⟨w.heap.size + 1, 5, none⟩ = some (.slice cbz.l cbz.nl cbz.cl) ∧ w'.cell? ⟨w.heap.size + 1 + 1, 0, none⟩ = some (.bool ccx.n) ∧ w'.cell? ⟨w.heap.size + 1 + 1, 1, none⟩ = some (.slice ccx.u ccx.nu ccx.cu) ∧ w'.cell? ⟨w.heap.size + 1 + 1, 2, none⟩ = some (.slice ccx.l ccx.nl ccx.cl) ∧ w'.cell? ⟨w.heap.size + 1 + 1, 3, none⟩ = some (.bool ccz.n) ∧ w'.cell? ⟨w.heap.size + 1 + 1, 4, none⟩ = some (.slice ccz.u ccz.nu ccz.cu) ∧ w'.cell? ⟨w.heap.size + 1 + 1, 5, none⟩ = some (.slice ccz.l ccz.nl ccz.cl)) (first | go_keep | exact hs1 | exact hs2 | exact hs3 | exact hkS)
    (first
      | (go_at_call_of 80 (Value.agg #[Value.bool cbx.n, Value.slice cbx.u cbx.nu cbx.cu, Value.slice cbx.l cbx.nl cbx.cl, Value.bool cbz.n, Value.slice cbz.u cbz.nu cbz.cu, Value.slice cbz.l cbz.nl cbz.cl]); refine (wayMinus_calls (w := W0.drew) ⟨_, _, rfl, (Hbx.out.below (Below.drew (Below.refl _ _))), (Hbz.out.below (Below.drew (Below.refl _ _)))⟩ ⟨_, _, rfl, (Hax.out.below (Below.drew (Below.refl _ _))), (Hay.out.below (Below.drew (Below.refl _ _)))⟩ F3.out F4.out F1.out F2.out HL.out).mono ?_; rintro e w1 ⟨hb1, v1, rfl, hv1⟩; have hbl1 : Below W0.heap.size W0 w1 := (Below.drew (Below.refl _ W0)).trans hb1; have hw1 := hv1; obtain ⟨d1, e1, rfl, hx1, hy1⟩ := hw1; have hs1 := HS.out w1 hbl1)
      | (go_at_call_of 80 (Value.agg #[Value.bool ccx.n, Value.slice ccx.u ccx.nu ccx.cu, Value.slice ccx.l ccx.nl ccx.cl, Value.bool ccz.n, Value.slice ccz.u ccz.nu ccz.cu, Value.slice ccz.l ccz.nl ccz.cl]); refine (wayMinus_calls ⟨_, _, rfl, (Hcx.out.below hbl1), (Hcz.out.below hbl1)⟩ ⟨_, _, rfl, (Hax.out.below hbl1), (Hay.out.below hbl1)⟩ F5.out F6.out F1.out F2.out HL.out).mono ?_; rintro e w2 ⟨hb2, v2, rfl, hv2⟩; have hbl2 := hbl1.trans (hb2.mono hbl1.size); have hw2 := hv2; obtain ⟨d2, e2, rfl, hx2, hy2⟩ := hw2; have hs2 := HS.out w2 hbl2)
      | (go_at_call 43; refine (wayCross_calls (hv1.below hb2) hv2 (F3.out.sub F1.out) (F4.out.sub F2.out) (F5.out.sub F1.out) (F6.out.sub F2.out) HM.out).mono ?_; rintro e w3 ⟨hb3, v3, rfl, hv3⟩; have hbl3 := hbl2.trans (hb3.mono hbl2.size); obtain ⟨d3, rfl⟩ := qv_open hv3; have hs3 := HS.out w3 hbl3; have hkr := HK3.out.below hbl3 (by rw [HSZ.out]; omega); obtain ⟨r0, r1, r2, f0, f1, f2⟩ := hkr.all3; have hkS := HSS.out w3 hbl3 (.bool d3.n) (.slice d3.u d3.nu d3.cu) (.slice d3.l d3.nl d3.cl))
      )
  all_goals
    go_wp2
    obtain ⟨k0, k1, k2, _, _, _⟩ := (hkr.put3 (.bool d3.n) (.slice d3.u d3.nu d3.cu) (.slice d3.l d3.nl d3.cl)).all3
    refine bodyPost_ret (v := .agg #[.bool d3.n, .slice d3.u d3.nu d3.cu, .slice d3.l d3.nl d3.cl]) (by simp [results, Tryz.results122, go_sem, k0, k1, k2]) rfl ⟨Below.put3 (HB0.out.trans (hbl3.mono HB0.out.size)) (by omega) (.bool d3.n) (.slice d3.u d3.nu d3.cu) (.slice d3.l d3.nl d3.cl), _, rfl, ?_⟩
    have hst := Stays.put3 hkr (by simp [notLimb]) (.bool d3.n) (.slice d3.u d3.nu d3.cu) (.slice d3.l d3.nl d3.cl) rfl rfl rfl
    exact hst.qv hv3

/-- Turn: by how much three points turn. -/
theorem wayTurn_calls {w : World} {va vb vc : Value} {ax ay bx bz cx cz : Rat} {k : Nat} (ha : WV w va ax ay) (hb : WV w vb bx bz) (hc : WV w vc cx cz) (f1 : QS k ax) (f2 : QS k ay) (f3 : QS k bx) (f4 : QS k bz) (f5 : QS k cx) (f6 : QS k cz) (hk : 8 * k + 5 ≤ 35184372088640) :
    Calls Tryz.prog 122 #[va, vb, vc] w fun e w' => Below w.heap.size w w' ∧ ∃ v, e = .returned v ∧ QV w' v ((bx - ax) * (cz - ay) - (bz - ay) * (cx - ax)) := by
  obtain ⟨c1, c2, rfl, h1, h2⟩ := ha
  obtain ⟨c3, c4, rfl, h3, h4⟩ := hb
  obtain ⟨c5, c6, rfl, h5, h6⟩ := hc
  exact wayTurn_walk h1 h2 h3 h4 h5 h6 f1 f2 f3 f4 f5 f6 hk

set_option maxHeartbeats 4000000 in
set_option maxRecDepth 100000 in
theorem turn_walk {w : World} {ax az bx bz cx cz : ByteArray} (s1 : ax.size ≤ 1048576) (s2 : az.size ≤ 1048576) (s3 : bx.size ≤ 1048576) (s4 : bz.size ≤ 1048576) (s5 : cx.size ≤ 1048576) (s6 : cz.size ≤ 1048576) :
    Calls Tryz.prog 67 #[.agg #[.string ax, .string az], .agg #[.string bx, .string bz], .agg #[.string cx, .string cz]] w fun e w' => Below w.heap.size w w' ∧ ∃ v, e = .returned v ∧ QV w' v ((rd bx.data.toList - rd ax.data.toList) * (rd cz.data.toList - rd az.data.toList) - (rd bz.data.toList - rd az.data.toList) * (rd cx.data.toList - rd ax.data.toList)) := by
  obtain ⟨hb0, hk0, hk1, hk2, hk3, hsz⟩ := boxes4 w #[.string ax, .string az] #[.string bx, .string bz] #[.string cx, .string cz] #[.bool false, .slice none 0 0, .slice none 0 0] 24 24 24 70
  have HB0 := hideIt hb0
  have HSZ := hideIt hsz
  have HK0 := hideIt hk0
  have HK1 := hideIt hk1
  have HK2 := hideIt hk2
  have HK3 := hideIt hk3
  have S1 := hideIt s1
  have S2 := hideIt s2
  have S3 := hideIt s3
  have S4 := hideIt s4
  have S5 := hideIt s5
  have S6 := hideIt s6
  clear hb0 hsz hk0 hk1 hk2 hk3  s1 s2 s3 s4 s5 s6
  have HKB : Hid (8 * 4194309 + 5 ≤ 35184372088640) := by show _ ≤ _; omega
  have L1 : Hid (ax.data.toList.length ≤ 4294967296) := by rw [str_len]; have := S1.out; show _ ≤ _; omega
  have F1 : Hid (QS 4194309 (rd ax.data.toList)) := (QS.rd _).mono (by rw [str_len]; have := S1.out; omega)
  have L2 : Hid (az.data.toList.length ≤ 4294967296) := by rw [str_len]; have := S2.out; show _ ≤ _; omega
  have F2 : Hid (QS 4194309 (rd az.data.toList)) := (QS.rd _).mono (by rw [str_len]; have := S2.out; omega)
  have L3 : Hid (bx.data.toList.length ≤ 4294967296) := by rw [str_len]; have := S3.out; show _ ≤ _; omega
  have F3 : Hid (QS 4194309 (rd bx.data.toList)) := (QS.rd _).mono (by rw [str_len]; have := S3.out; omega)
  have L4 : Hid (bz.data.toList.length ≤ 4294967296) := by rw [str_len]; have := S4.out; show _ ≤ _; omega
  have F4 : Hid (QS 4194309 (rd bz.data.toList)) := (QS.rd _).mono (by rw [str_len]; have := S4.out; omega)
  have L5 : Hid (cx.data.toList.length ≤ 4294967296) := by rw [str_len]; have := S5.out; show _ ≤ _; omega
  have F5 : Hid (QS 4194309 (rd cx.data.toList)) := (QS.rd _).mono (by rw [str_len]; have := S5.out; omega)
  have L6 : Hid (cz.data.toList.length ≤ 4294967296) := by rw [str_len]; have := S6.out; show _ ≤ _; omega
  have F6 : Hid (QS 4194309 (rd cz.data.toList)) := (QS.rd _).mono (by rw [str_len]; have := S6.out; omega)
  go_enter Tryz.func67, Tryz.ntmps67
  go_wp2_with fail
  generalize ((((w.alloc (.cells #[.string ax, .string az] 24)).alloc (.cells #[.string bx, .string bz] 24)).alloc (.cells #[.string cx, .string cz] 24)).alloc (.cells #[.bool false, .slice none 0 0, .slice none 0 0] 70)) = W0 at *
  have HS : Hid (∀ w', Below W0.heap.size W0 w' → w'.cell? ⟨w.heap.size, 0, none⟩ = some (.string ax) ∧ w'.cell? ⟨w.heap.size, 1, none⟩ = some (.string az) ∧ w'.cell? ⟨w.heap.size + 1, 0, none⟩ = some (.string bx) ∧ w'.cell? ⟨w.heap.size + 1, 1, none⟩ = some (.string bz) ∧ w'.cell? ⟨w.heap.size + 1 + 1, 0, none⟩ = some (.string cx) ∧ w'.cell? ⟨w.heap.size + 1 + 1, 1, none⟩ = some (.string cz)) := fun w' hb => ⟨(HK0.out.below hb (by rw [HSZ.out]; omega)).cell 0, (HK0.out.below hb (by rw [HSZ.out]; omega)).cell 1, (HK1.out.below hb (by rw [HSZ.out]; omega)).cell 0, (HK1.out.below hb (by rw [HSZ.out]; omega)).cell 1, (HK2.out.below hb (by rw [HSZ.out]; omega)).cell 0, (HK2.out.below hb (by rw [HSZ.out]; omega)).cell 1⟩
  have HSS : Hid (∀ w', Below W0.heap.size W0 w' → ∀ x0 x1 x2 : Value, (((w'.setCell ⟨w.heap.size + 1 + 1 + 1, 0, none⟩ (x0)).setCell ⟨w.heap.size + 1 + 1 + 1, 1, none⟩ (x1)).setCell ⟨w.heap.size + 1 + 1 + 1, 2, none⟩ (x2)).cell? ⟨w.heap.size, 0, none⟩ = some (.string ax) ∧ (((w'.setCell ⟨w.heap.size + 1 + 1 + 1, 0, none⟩ (x0)).setCell ⟨w.heap.size + 1 + 1 + 1, 1, none⟩ (x1)).setCell ⟨w.heap.size + 1 + 1 + 1, 2, none⟩ (x2)).cell? ⟨w.heap.size, 1, none⟩ = some (.string az) ∧ (((w'.setCell ⟨w.heap.size + 1 + 1 + 1, 0, none⟩ (x0)).setCell ⟨w.heap.size + 1 + 1 + 1, 1, none⟩ (x1)).setCell ⟨w.heap.size + 1 + 1 + 1, 2, none⟩ (x2)).cell? ⟨w.heap.size + 1, 0, none⟩ = some (.string bx) ∧ (((w'.setCell ⟨w.heap.size + 1 + 1 + 1, 0, none⟩ (x0)).setCell ⟨w.heap.size + 1 + 1 + 1, 1, none⟩ (x1)).setCell ⟨w.heap.size + 1 + 1 + 1, 2, none⟩ (x2)).cell? ⟨w.heap.size + 1, 1, none⟩ = some (.string bz) ∧ (((w'.setCell ⟨w.heap.size + 1 + 1 + 1, 0, none⟩ (x0)).setCell ⟨w.heap.size + 1 + 1 + 1, 1, none⟩ (x1)).setCell ⟨w.heap.size + 1 + 1 + 1, 2, none⟩ (x2)).cell? ⟨w.heap.size + 1 + 1, 0, none⟩ = some (.string cx) ∧ (((w'.setCell ⟨w.heap.size + 1 + 1 + 1, 0, none⟩ (x0)).setCell ⟨w.heap.size + 1 + 1 + 1, 1, none⟩ (x1)).setCell ⟨w.heap.size + 1 + 1 + 1, 2, none⟩ (x2)).cell? ⟨w.heap.size + 1 + 1, 1, none⟩ = some (.string cz)) := fun w' hb x0 x1 x2 => ⟨((HK0.out.below hb (by rw [HSZ.out]; omega)).off3 (g := w.heap.size + 1 + 1 + 1) (by omega) x0 x1 x2).cell 0, ((HK0.out.below hb (by rw [HSZ.out]; omega)).off3 (g := w.heap.size + 1 + 1 + 1) (by omega) x0 x1 x2).cell 1, ((HK1.out.below hb (by rw [HSZ.out]; omega)).off3 (g := w.heap.size + 1 + 1 + 1) (by omega) x0 x1 x2).cell 0, ((HK1.out.below hb (by rw [HSZ.out]; omega)).off3 (g := w.heap.size + 1 + 1 + 1) (by omega) x0 x1 x2).cell 1, ((HK2.out.below hb (by rw [HSZ.out]; omega)).off3 (g := w.heap.size + 1 + 1 + 1) (by omega) x0 x1 x2).cell 0, ((HK2.out.below hb (by rw [HSZ.out]; omega)).off3 (g := w.heap.size + 1 + 1 + 1) (by omega) x0 x1 x2).cell 1⟩
  obtain ⟨z0, z1, z2, z3, z4, z5⟩ := HS.out W0 (Below.refl _ _)
  go_region_held3 (fun w' => w'.cell? ⟨w.heap.size, 0, none⟩ = some (.string ax) ∧ w'.cell? ⟨w.heap.size, 1, none⟩ = some (.string az) ∧ w'.cell? ⟨w.heap.size + 1, 0, none⟩ = some (.string bx) ∧ w'.cell? ⟨w.heap.size + 1, 1, none⟩ = some (.string bz) ∧ w'.cell? ⟨w.heap.size + 1 + 1, 0, none⟩ = some (.string cx) ∧ w'.cell? ⟨w.heap.size + 1 + 1, 1, none⟩ = some (.string cz)) (first | go_keep | exact hs1 | exact hs2 | exact hs3 | exact hs4 | exact hkS)
    (first
      | (go_at_call_of 62 (Value.agg #[Value.string ax, Value.string az]); refine (wayRead_calls (w := W0.drew) ⟨ax, az, rfl, rfl, rfl⟩ L1.out L2.out).mono ?_; rintro e w1 ⟨hb1, v1, rfl, hv1⟩; have hbl1 : Below W0.heap.size W0 w1 := (Below.drew (Below.refl _ W0)).trans hb1; have hw1 := hv1; obtain ⟨d1, e1, rfl, hx1, hy1⟩ := hw1; have hs1 := HS.out w1 hbl1)
      | (go_at_call_of 62 (Value.agg #[Value.string bx, Value.string bz]); refine (wayRead_calls ⟨bx, bz, rfl, rfl, rfl⟩ L3.out L4.out).mono ?_; rintro e w2 ⟨hb2, v2, rfl, hv2⟩; have hbl2 := hbl1.trans (hb2.mono hbl1.size); have hw2 := hv2; obtain ⟨d2, e2, rfl, hx2, hy2⟩ := hw2; have hs2 := HS.out w2 hbl2)
      | (go_at_call_of 62 (Value.agg #[Value.string cx, Value.string cz]); refine (wayRead_calls ⟨cx, cz, rfl, rfl, rfl⟩ L5.out L6.out).mono ?_; rintro e w3 ⟨hb3, v3, rfl, hv3⟩; have hbl3 := hbl2.trans (hb3.mono hbl2.size); have hw3 := hv3; obtain ⟨d3, e3, rfl, hx3, hy3⟩ := hw3; have hs3 := HS.out w3 hbl3)
      | (go_at_call 122; refine (wayTurn_calls ((hv1.below hb2).below hb3) (hv2.below hb3) hv3 F1.out F2.out F3.out F4.out F5.out F6.out HKB.out).mono ?_; rintro e w4 ⟨hb4, v4, rfl, hv4⟩; have hbl4 := hbl3.trans (hb4.mono hbl3.size); obtain ⟨d4, rfl⟩ := qv_open hv4; have hs4 := HS.out w4 hbl4; have hkr := HK3.out.below hbl4 (by rw [HSZ.out]; omega); obtain ⟨r0, r1, r2, f0, f1, f2⟩ := hkr.all3; have hkS := HSS.out w4 hbl4 (.bool d4.n) (.slice d4.u d4.nu d4.cu) (.slice d4.l d4.nl d4.cl))
      )
  all_goals
    go_wp2
    obtain ⟨k0, k1, k2, _, _, _⟩ := (hkr.put3 (.bool d4.n) (.slice d4.u d4.nu d4.cu) (.slice d4.l d4.nl d4.cl)).all3
    refine bodyPost_ret (v := .agg #[.bool d4.n, .slice d4.u d4.nu d4.cu, .slice d4.l d4.nl d4.cl]) (by simp [results, Tryz.results67, go_sem, k0, k1, k2]) rfl ⟨Below.put3 (HB0.out.trans (hbl4.mono HB0.out.size)) (by omega) (.bool d4.n) (.slice d4.u d4.nu d4.cu) (.slice d4.l d4.nl d4.cl), _, rfl, ?_⟩
    have hst := Stays.put3 hkr (by simp [notLimb]) (.bool d4.n) (.slice d4.u d4.nu d4.cu) (.slice d4.l d4.nl d4.cl) rfl rfl rfl
    exact hst.qv hv4

/-- turn. -/
theorem turn_calls {w : World} {va vb vc : Value} {ax az bx bz cx cz : List UInt8} (ha : PV va ax az) (hb : PV vb bx bz) (hc : PV vc cx cz) (s1 : ax.length ≤ 1048576) (s2 : az.length ≤ 1048576) (s3 : bx.length ≤ 1048576) (s4 : bz.length ≤ 1048576) (s5 : cx.length ≤ 1048576) (s6 : cz.length ≤ 1048576) :
    Calls Tryz.prog 67 #[va, vb, vc] w fun e w' => Below w.heap.size w w' ∧ ∃ v, e = .returned v ∧ QV w' v ((rd bx - rd ax) * (rd cz - rd az) - (rd bz - rd az) * (rd cx - rd ax)) := by
  obtain ⟨a, a', rfl, rfl, rfl⟩ := ha
  obtain ⟨b, b', rfl, rfl, rfl⟩ := hb
  obtain ⟨c, c', rfl, rfl, rfl⟩ := hc
  rw [str_len] at s1 s2 s3 s4 s5 s6
  exact turn_walk s1 s2 s3 s4 s5 s6

set_option maxHeartbeats 4000000 in
set_option maxRecDepth 100000 in
theorem area2_walk {w : World} {ax az bx bz cx cz : ByteArray} (s1 : ax.size ≤ 1048576) (s2 : az.size ≤ 1048576) (s3 : bx.size ≤ 1048576) (s4 : bz.size ≤ 1048576) (s5 : cx.size ≤ 1048576) (s6 : cz.size ≤ 1048576) (tab : Tab w) :
    Calls Tryz.prog 21 #[.agg #[.string ax, .string az], .agg #[.string bx, .string bz], .agg #[.string cx, .string cz]] w fun e w' => Below w.heap.size w w' ∧ ∃ s : ByteArray, e = .returned (.string s) ∧ s.data.toList = tx ((rd bx.data.toList - rd ax.data.toList) * (rd cz.data.toList - rd az.data.toList) - (rd bz.data.toList - rd az.data.toList) * (rd cx.data.toList - rd ax.data.toList)) := by
  have FQ : Hid (QS 33554489 ((rd bx.data.toList - rd ax.data.toList) * (rd cz.data.toList - rd az.data.toList) - (rd bz.data.toList - rd az.data.toList) * (rd cx.data.toList - rd ax.data.toList))) := by
    have g1 : QS 4194309 (rd ax.data.toList) := (QS.rd _).mono (by rw [str_len]; omega)
    have g2 : QS 4194309 (rd az.data.toList) := (QS.rd _).mono (by rw [str_len]; omega)
    have g3 : QS 4194309 (rd bx.data.toList) := (QS.rd _).mono (by rw [str_len]; omega)
    have g4 : QS 4194309 (rd bz.data.toList) := (QS.rd _).mono (by rw [str_len]; omega)
    have g5 : QS 4194309 (rd cx.data.toList) := (QS.rd _).mono (by rw [str_len]; omega)
    have g6 : QS 4194309 (rd cz.data.toList) := (QS.rd _).mono (by rw [str_len]; omega)
    exact (((g3.sub g1).mul (g6.sub g2)).sub ((g4.sub g2).mul (g5.sub g1))).mono (by omega)
  obtain ⟨hb0, _, _, _, _⟩ := boxes3 w #[.string ax, .string az] #[.string bx, .string bz] #[.string cx, .string cz] 24 24 24
  have HB0 := hideIt hb0
  have HT := hideIt (tab.below hb0)
  clear hb0 tab
  go_enter Tryz.func21, Tryz.ntmps21
  go_wp2_with fail
  generalize (((w.alloc (.cells #[.string ax, .string az] 24)).alloc (.cells #[.string bx, .string bz] 24)).alloc (.cells #[.string cx, .string cz] 24)) = W0 at *
  refine (turn_walk (w := W0) s1 s2 s3 s4 s5 s6).mono ?_
  rintro e w1 ⟨hb1, v1, rfl, hv1⟩
  have H1 := hideIt (And.intro hb1 hv1)
  clear hb1 hv1
  go_wp2_with fail
  refine (text_calls H1.out.2 FQ.out (by decide) (HT.out.below H1.out.1)).mono ?_
  rintro e w2 ⟨hb2, s, rfl, hs⟩
  have H2 := hideIt (And.intro (H1.out.1.trans (hb2.mono H1.out.1.size)) hs)
  clear hb2 hs
  go_wp2
  go_ret
  exact ⟨HB0.out.trans (H2.out.1.mono HB0.out.size), _, rfl, H2.out.2⟩

set_option maxHeartbeats 4000000 in
set_option maxRecDepth 100000 in
/-- Far2: the square of the distance. -/
theorem far2_walk {w : World} {px pz qx qz : ByteArray} (s1 : px.size ≤ 1048576) (s2 : pz.size ≤ 1048576) (s3 : qx.size ≤ 1048576) (s4 : qz.size ≤ 1048576) (tab : Tab w) :
    Calls Tryz.prog 29 #[.agg #[.string px, .string pz], .agg #[.string qx, .string qz]] w fun e w' => Below w.heap.size w w' ∧ ∃ s : ByteArray, e = .returned (.string s) ∧ s.data.toList = tx ((rd qx.data.toList - rd px.data.toList) * (rd qx.data.toList - rd px.data.toList) + (rd qz.data.toList - rd pz.data.toList) * (rd qz.data.toList - rd pz.data.toList)) := by
  have g1 : QS 4194309 (rd px.data.toList) := (QS.rd _).mono (by rw [str_len]; omega)
  have g2 : QS 4194309 (rd pz.data.toList) := (QS.rd _).mono (by rw [str_len]; omega)
  have g3 : QS 4194309 (rd qx.data.toList) := (QS.rd _).mono (by rw [str_len]; omega)
  have g4 : QS 4194309 (rd qz.data.toList) := (QS.rd _).mono (by rw [str_len]; omega)
  have G1 := hideIt (g3.sub g1)
  have G2 := hideIt (g4.sub g2)
  have FQ := hideIt (((g3.sub g1).mul (g3.sub g1)).add ((g4.sub g2).mul (g4.sub g2)))
  obtain ⟨hb0, _, _, _⟩ := boxes2 w #[.string px, .string pz] #[.string qx, .string qz] 24 24
  have HB0 := hideIt hb0
  have HT := hideIt (tab.below hb0)
  clear hb0 tab g1 g2 g3 g4
  go_enter Tryz.func29, Tryz.ntmps29
  go_wp2_with fail
  generalize ((w.alloc (.cells #[.string px, .string pz] 24)).alloc (.cells #[.string qx, .string qz] 24)) = W0 at *
  refine (between_walk (w := W0) s1 s2 s3 s4).mono ?_
  rintro e w1 ⟨hb1, _, rfl, c, d, rfl, hc, hd⟩
  have H1 := hideIt (And.intro hb1 (And.intro hc hd))
  clear hb1 hc hd
  go_wp2_with fail
  refine (wayDot_walk (H1.out.2.1.below (below_new _ _)) (H1.out.2.2.below (below_new _ _)) (H1.out.2.1.below (below_new _ _)) (H1.out.2.2.below (below_new _ _)) G1.out G2.out G1.out G2.out (by decide)).mono ?_
  rintro e w2 ⟨hb2, v2, rfl, hv2⟩
  have hb12 := (H1.out.1.trans ((below_new w1 _).mono H1.out.1.size)).trans (hb2.mono (Nat.le_trans H1.out.1.size (below_new w1 _).size))
  have H2 := hideIt (And.intro hb12 hv2)
  clear hb2 hv2 hb12
  go_wp2_with fail
  refine (text_calls H2.out.2 FQ.out (by decide) (HT.out.below H2.out.1)).mono ?_
  rintro e w3 ⟨hb3, s, rfl, hs⟩
  have H3 := hideIt (And.intro (H2.out.1.trans (hb3.mono H2.out.1.size)) hs)
  clear hb3 hs
  go_wp2
  go_ret
  exact ⟨HB0.out.trans (H3.out.1.mono HB0.out.size), _, rfl, H3.out.2⟩
end Go.Proofs.YtpalknbmejachaaGreatDoor
/- Walks: between, Far2 of points of any texts. -/
namespace Go.Proofs.YtpalknbmejachaaGreatDoor
open Go.RowKit Cx

attribute [local go_sem ↓] Go.wp_at_zero Go.wp_at_succ

set_option maxHeartbeats 4000000 in
set_option maxRecDepth 100000 in
theorem betweenG_walk {w : World} {px pz qx qz : ByteArray} (s1 : px.size ≤ 4294967296) (s2 : pz.size ≤ 4294967296) (s3 : qx.size ≤ 4294967296) (s4 : qz.size ≤ 4294967296) {k : Nat} (f1 : QS k (rd px.data.toList)) (f2 : QS k (rd pz.data.toList)) (f3 : QS k (rd qx.data.toList)) (f4 : QS k (rd qz.data.toList)) (hk : k + k + 1 ≤ 35184372088640) :
    Calls Tryz.prog 41 #[.agg #[.string px, .string pz], .agg #[.string qx, .string qz]] w fun e w' => Below w.heap.size w w' ∧ ∃ v, e = .returned v ∧ WV w' v (rd qx.data.toList - rd px.data.toList) (rd qz.data.toList - rd pz.data.toList) := by
  obtain ⟨hb0, hk0, hk1, hk2, hsz⟩ := boxes3 w #[.string px, .string pz] #[.string qx, .string qz] #[.bool false, .slice none 0 0, .slice none 0 0, .bool false, .slice none 0 0, .slice none 0 0] 24 24 72
  have HB0 := hideIt hb0
  have HSZ := hideIt hsz
  have HK0 := hideIt hk0
  have HK1 := hideIt hk1
  have HK2 := hideIt hk2
  have S1 := hideIt s1
  have S2 := hideIt s2
  have S3 := hideIt s3
  have S4 := hideIt s4
  have F1 := hideIt f1
  have F2 := hideIt f2
  have F3 := hideIt f3
  have F4 := hideIt f4
  have HK := hideIt hk
  clear hb0 hsz hk0 hk1 hk2  s1 s2 s3 s4 f1 f2 f3 f4 hk
  have L1 : Hid (px.data.toList.length ≤ 4294967296) := by rw [str_len]; exact S1.out
  have L2 : Hid (pz.data.toList.length ≤ 4294967296) := by rw [str_len]; exact S2.out
  have L3 : Hid (qx.data.toList.length ≤ 4294967296) := by rw [str_len]; exact S3.out
  have L4 : Hid (qz.data.toList.length ≤ 4294967296) := by rw [str_len]; exact S4.out
  go_enter Tryz.func41, Tryz.ntmps41
  go_wp2_with fail
  generalize (((w.alloc (.cells #[.string px, .string pz] 24)).alloc (.cells #[.string qx, .string qz] 24)).alloc (.cells #[.bool false, .slice none 0 0, .slice none 0 0, .bool false, .slice none 0 0, .slice none 0 0] 72)) = W0 at *
  have HS : Hid (∀ w', Below W0.heap.size W0 w' → w'.cell? ⟨w.heap.size, 0, none⟩ = some (.string px) ∧ w'.cell? ⟨w.heap.size, 1, none⟩ = some (.string pz) ∧ w'.cell? ⟨w.heap.size + 1, 0, none⟩ = some (.string qx) ∧ w'.cell? ⟨w.heap.size + 1, 1, none⟩ = some (.string qz)) := fun w' hb => ⟨(HK0.out.below hb (by rw [HSZ.out]; omega)).cell 0, (HK0.out.below hb (by rw [HSZ.out]; omega)).cell 1, (HK1.out.below hb (by rw [HSZ.out]; omega)).cell 0, (HK1.out.below hb (by rw [HSZ.out]; omega)).cell 1⟩
  have HSS : Hid (∀ w', Below W0.heap.size W0 w' → ∀ x0 x1 x2 x3 x4 x5 : Value, ((((((w'.setCell ⟨w.heap.size + 1 + 1, 0, none⟩ (x0)).setCell ⟨w.heap.size + 1 + 1, 1, none⟩ (x1)).setCell ⟨w.heap.size + 1 + 1, 2, none⟩ (x2)).setCell ⟨w.heap.size + 1 + 1, 3, none⟩ (x3)).setCell ⟨w.heap.size + 1 + 1, 4, none⟩ (x4)).setCell ⟨w.heap.size + 1 + 1, 5, none⟩ (x5)).cell? ⟨w.heap.size, 0, none⟩ = some (.string px) ∧ ((((((w'.setCell ⟨w.heap.size + 1 + 1, 0, none⟩ (x0)).setCell ⟨w.heap.size + 1 + 1, 1, none⟩ (x1)).setCell ⟨w.heap.size + 1 + 1, 2, none⟩ (x2)).setCell ⟨w.heap.size + 1 + 1, 3, none⟩ (x3)).setCell ⟨w.heap.size + 1 + 1, 4, none⟩ (x4)).setCell ⟨w.heap.size + 1 + 1, 5, none⟩ (x5)).cell? ⟨w.heap.size, 1, none⟩ = some (.string pz) ∧ ((((((w'.setCell ⟨w.heap.size + 1 + 1, 0, none⟩ (x0)).setCell ⟨w.heap.size + 1 + 1, 1, none⟩ (x1)).setCell ⟨w.heap.size + 1 + 1, 2, none⟩ (x2)).setCell ⟨w.heap.size + 1 + 1, 3, none⟩ (x3)).setCell ⟨w.heap.size + 1 + 1, 4, none⟩ (x4)).setCell ⟨w.heap.size + 1 + 1, 5, none⟩ (x5)).cell? ⟨w.heap.size + 1, 0, none⟩ = some (.string qx) ∧ ((((((w'.setCell ⟨w.heap.size + 1 + 1, 0, none⟩ (x0)).setCell ⟨w.heap.size + 1 + 1, 1, none⟩ (x1)).setCell ⟨w.heap.size + 1 + 1, 2, none⟩ (x2)).setCell ⟨w.heap.size + 1 + 1, 3, none⟩ (x3)).setCell ⟨w.heap.size + 1 + 1, 4, none⟩ (x4)).setCell ⟨w.heap.size + 1 + 1, 5, none⟩ (x5)).cell? ⟨w.heap.size + 1, 1, none⟩ = some (.string qz)) := fun w' hb x0 x1 x2 x3 x4 x5 => ⟨((HK0.out.below hb (by rw [HSZ.out]; omega)).off6 (g := w.heap.size + 1 + 1) (by omega) x0 x1 x2 x3 x4 x5).cell 0, ((HK0.out.below hb (by rw [HSZ.out]; omega)).off6 (g := w.heap.size + 1 + 1) (by omega) x0 x1 x2 x3 x4 x5).cell 1, ((HK1.out.below hb (by rw [HSZ.out]; omega)).off6 (g := w.heap.size + 1 + 1) (by omega) x0 x1 x2 x3 x4 x5).cell 0, ((HK1.out.below hb (by rw [HSZ.out]; omega)).off6 (g := w.heap.size + 1 + 1) (by omega) x0 x1 x2 x3 x4 x5).cell 1⟩
  obtain ⟨z0, z1, z2, z3⟩ := HS.out W0 (Below.refl _ _)
  go_region_held3 (fun w' => w'.cell? ⟨w.heap.size, 0, none⟩ = some (.string px) ∧ w'.cell? ⟨w.heap.size, 1, none⟩ = some (.string pz) ∧ w'.cell? ⟨w.heap.size + 1, 0, none⟩ = some (.string qx) ∧ w'.cell? ⟨w.heap.size + 1, 1, none⟩ = some (.string qz)) (first | go_keep | exact hs1 | exact hs2 | exact hs3 | exact hkS)
    (first
      | (go_at_call_of 62 (Value.agg #[Value.string qx, Value.string qz]); refine (wayRead_calls (w := W0.drew) ⟨qx, qz, rfl, rfl, rfl⟩ L3.out L4.out).mono ?_; rintro e w1 ⟨hb1, v1, rfl, hv1⟩; have hbl1 : Below W0.heap.size W0 w1 := (Below.drew (Below.refl _ W0)).trans hb1; have hw1 := hv1; obtain ⟨d1, e1, rfl, hx1, hy1⟩ := hw1; have hs1 := HS.out w1 hbl1)
      | (go_at_call_of 62 (Value.agg #[Value.string px, Value.string pz]); refine (wayRead_calls ⟨px, pz, rfl, rfl, rfl⟩ L1.out L2.out).mono ?_; rintro e w2 ⟨hb2, v2, rfl, hv2⟩; have hbl2 := hbl1.trans (hb2.mono hbl1.size); have hw2 := hv2; obtain ⟨d2, e2, rfl, hx2, hy2⟩ := hw2; have hs2 := HS.out w2 hbl2)
      | (go_at_call 80; refine (wayMinus_calls (hv1.below hb2) hv2 F3.out F4.out F1.out F2.out HK.out).mono ?_; rintro e w3 ⟨hb3, v3, rfl, hv3⟩; have hbl3 := hbl2.trans (hb3.mono hbl2.size); have hw3 := hv3; obtain ⟨d3, e3, rfl, hx3, hy3⟩ := hw3; have hs3 := HS.out w3 hbl3; have hkr := HK2.out.below hbl3 (by rw [HSZ.out]; omega); obtain ⟨r0, r1, r2, r3, r4, r5, f0, f1, f2, f3, f4, f5⟩ := hkr.all6; have hkS := HSS.out w3 hbl3 (.bool d3.n) (.slice d3.u d3.nu d3.cu) (.slice d3.l d3.nl d3.cl) (.bool e3.n) (.slice e3.u e3.nu e3.cu) (.slice e3.l e3.nl e3.cl))
      )
  all_goals
    go_wp2
    obtain ⟨k0, k1, k2, k3, k4, k5, _, _, _, _, _, _⟩ := (hkr.put6 (.bool d3.n) (.slice d3.u d3.nu d3.cu) (.slice d3.l d3.nl d3.cl) (.bool e3.n) (.slice e3.u e3.nu e3.cu) (.slice e3.l e3.nl e3.cl)).all6
    refine bodyPost_ret (v := .agg #[.bool d3.n, .slice d3.u d3.nu d3.cu, .slice d3.l d3.nl d3.cl, .bool e3.n, .slice e3.u e3.nu e3.cu, .slice e3.l e3.nl e3.cl]) (by simp [results, Tryz.results41, go_sem, k0, k1, k2, k3, k4, k5]) rfl ⟨Below.put6 (HB0.out.trans (hbl3.mono HB0.out.size)) (by omega) (.bool d3.n) (.slice d3.u d3.nu d3.cu) (.slice d3.l d3.nl d3.cl) (.bool e3.n) (.slice e3.u e3.nu e3.cu) (.slice e3.l e3.nl e3.cl), _, rfl, ?_⟩
    have hst := Stays.put6 hkr (by simp [notLimb]) (.bool d3.n) (.slice d3.u d3.nu d3.cu) (.slice d3.l d3.nl d3.cl) (.bool e3.n) (.slice e3.u e3.nu e3.cu) (.slice e3.l e3.nl e3.cl) rfl rfl rfl rfl rfl rfl
    exact ⟨d3, e3, rfl, hst.qv hx3, hst.qv hy3⟩

set_option maxHeartbeats 4000000 in
set_option maxRecDepth 100000 in
theorem far2G_walk {w : World} {px pz qx qz : ByteArray} (s1 : px.size ≤ 4294967296) (s2 : pz.size ≤ 4294967296) (s3 : qx.size ≤ 4294967296) (s4 : qz.size ≤ 4294967296) {k : Nat} (g1 : QS k (rd px.data.toList)) (g2 : QS k (rd pz.data.toList)) (g3 : QS k (rd qx.data.toList)) (g4 : QS k (rd qz.data.toList)) (hk : 8 * k + 8 ≤ 35184372088640) (tab : Tab w) :
    Calls Tryz.prog 29 #[.agg #[.string px, .string pz], .agg #[.string qx, .string qz]] w fun e w' => Below w.heap.size w w' ∧ ∃ s : ByteArray, e = .returned (.string s) ∧ s.data.toList = tx ((rd qx.data.toList - rd px.data.toList) * (rd qx.data.toList - rd px.data.toList) + (rd qz.data.toList - rd pz.data.toList) * (rd qz.data.toList - rd pz.data.toList)) := by
  have GG := hideIt (And.intro g1 (And.intro g2 (And.intro g3 g4)))
  have G1 := hideIt (g3.sub g1)
  have G2 := hideIt (g4.sub g2)
  have FQ := hideIt (((g3.sub g1).mul (g3.sub g1)).add ((g4.sub g2).mul (g4.sub g2)))
  obtain ⟨hb0, _, _, _⟩ := boxes2 w #[.string px, .string pz] #[.string qx, .string qz] 24 24
  have HB0 := hideIt hb0
  have HT := hideIt (tab.below hb0)
  clear hb0 tab g1 g2 g3 g4
  go_enter Tryz.func29, Tryz.ntmps29
  go_wp2_with fail
  generalize ((w.alloc (.cells #[.string px, .string pz] 24)).alloc (.cells #[.string qx, .string qz] 24)) = W0 at *
  refine (betweenG_walk (w := W0) s1 s2 s3 s4 GG.out.1 GG.out.2.1 GG.out.2.2.1 GG.out.2.2.2 (by omega)).mono ?_
  rintro e w1 ⟨hb1, _, rfl, c, d, rfl, hc, hd⟩
  have H1 := hideIt (And.intro hb1 (And.intro hc hd))
  clear hb1 hc hd
  go_wp2_with fail
  refine (wayDot_walk (H1.out.2.1.below (below_new _ _)) (H1.out.2.2.below (below_new _ _)) (H1.out.2.1.below (below_new _ _)) (H1.out.2.2.below (below_new _ _)) G1.out G2.out G1.out G2.out (by omega)).mono ?_
  rintro e w2 ⟨hb2, v2, rfl, hv2⟩
  have hb12 := (H1.out.1.trans ((below_new w1 _).mono H1.out.1.size)).trans (hb2.mono (Nat.le_trans H1.out.1.size (below_new w1 _).size))
  have H2 := hideIt (And.intro hb12 hv2)
  clear hb2 hv2 hb12
  go_wp2_with fail
  refine (text_calls H2.out.2 FQ.out (by omega) (HT.out.below H2.out.1)).mono ?_
  rintro e w3 ⟨hb3, s, rfl, hs⟩
  have H3 := hideIt (And.intro (H2.out.1.trans (hb3.mono H2.out.1.size)) hs)
  clear hb3 hs
  go_wp2
  go_ret
  exact ⟨HB0.out.trans (H3.out.1.mono HB0.out.size), _, rfl, H3.out.2⟩
end Go.Proofs.YtpalknbmejachaaGreatDoor
