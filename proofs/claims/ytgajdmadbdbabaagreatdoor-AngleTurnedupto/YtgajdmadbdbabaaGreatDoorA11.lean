/- Part 11 of the walks and of the mathematics under them: RC RD RF RG TE TF TG TH WG RK AWD WB WH WY RE RH RLA BQU AWE. -/
import Derived.Test.YtgajdmadbdbabaaGreatDoorA10
import Derived.Deep.DeepCutAuto
import Derived.Test.YtgajdmadbdbabaaGreatDoorA6
import Derived.Lib.ItoaMem
import Derived.Lib.OthersKept
import Derived.Test.YtgajdmadbdbabaaGreatDoorA7
set_option maxHeartbeats 16000000
set_option maxRecDepth 100000
/- RC -/
namespace Go.Proofs.YtgajdmadbdbabaaGreatDoor
open Go.RowKit Cx
attribute [local go_sem ↓] Go.wp_at_zero Go.wp_at_succ
def VV (w : World) (v : Value) (x y : Rat) : Prop := ∃ px py, v = .agg #[px, py] ∧ PR w px x ∧ PR w py y
theorem rv_new {w : World} {g : Nat} {q : Rat} (o : Obj) (h : RV w g q) : RV (w.alloc o) g q := h.below (below_new _ _)
theorem rv_drew {w : World} {g : Nat} {q : Rat} (h : RV w g q) : RV w.drew g q := h.below (Below.drew (Below.refl _ _))
theorem rv_bel {w w' : World} {g : Nat} {q : Rat} (hb : Below w.heap.size w w') (h : RV w g q) : RV w' g q := h.below hb
theorem RV.put2 {w : World} {g g' : Nat} {q : Rat} {c0 c1 : Value} {t : TypeId} (h : RV w g' q) (hb : Blk w g #[c0, c1] t) (h0 : notLimb c0 = true) (h1 : notLimb c1 = true) (x0 x1 : Value) : RV ((w.setCell ⟨g, 0, none⟩ x0).setCell ⟨g, 1, none⟩ x1) g' q := by
  have hne : g' ≠ g := by
    rintro rfl
    obtain ⟨a1, l1, c1', a2, l2, c2, hk, _⟩ := h
    have h2 := hk.cell 2
    rw [hb.cell 2] at h2
    simp at h2
  exact h.save hne ⟨_, _, hb, by simp [h0, h1]⟩ (((Save.of (Below.refl _ _)).set _ _).set _ _)
theorem rrow2 {w : World} {b : Nat} {p q : Value} {x y : Rat} (hb : Blk w b #[p, q] 41) (hx : PR w p x) (hy : PR w q y) : RRow w (.slice (some ⟨b, 0, none⟩) 2 2) [x, y] := by
  refine ⟨b, 0, 2, rfl, hb.lt, fun j hj => ?_⟩
  match j, hj with
  | 0, _ => exact ⟨p, hb.cell 0, hx⟩
  | 1, _ => exact ⟨q, hb.cell 1, hy⟩
theorem rrow3 {w : World} {b : Nat} {p q r : Value} {x y z : Rat} (hb : Blk w b #[p, q, r] 41) (hx : PR w p x) (hy : PR w q y) (hz : PR w r z) : RRow w (.slice (some ⟨b, 0, none⟩) 3 3) [x, y, z] := by
  refine ⟨b, 0, 3, rfl, hb.lt, fun j hj => ?_⟩
  match j, hj with
  | 0, _ => exact ⟨p, hb.cell 0, hx⟩
  | 1, _ => exact ⟨q, hb.cell 1, hy⟩
  | 2, _ => exact ⟨r, hb.cell 2, hz⟩
theorem rprod2 (a b : Rat) : rprod [a, b] = a * b := by simp [rprod, Rat.one_mul]
theorem vPlus_walk {w : World} {gax gaz gbx gbz : Nat} {ax az bx bz : Rat} {k : Nat} (hax : RV w gax ax) (haz : RV w gaz az) (hbx : RV w gbx bx) (hbz : RV w gbz bz) (fax : QS k ax) (faz : QS k az) (fbx : QS k bx) (fbz : QS k bz) (hk : 8 * k + 16 ≤ 35184372088640) :
    Calls Tryz.prog 32 #[.agg #[.pointer (some ⟨gax, 0, none⟩), .pointer (some ⟨gaz, 0, none⟩)], .agg #[.pointer (some ⟨gbx, 0, none⟩), .pointer (some ⟨gbz, 0, none⟩)]] w fun e w' => Below w.heap.size w w' ∧ ∃ v, e = .returned v ∧ VV w' v (ax + bx) (az + bz) := by
  obtain ⟨hb0, hk0, hk1, hk2, hsz⟩ := boxes3 w #[.pointer (some ⟨gax, 0, none⟩), .pointer (some ⟨gaz, 0, none⟩)] #[.pointer (some ⟨gbx, 0, none⟩), .pointer (some ⟨gbz, 0, none⟩)] #[.pointer none, .pointer none] 43 43 43
  have HB0 := hideIt2 hb0
  have HSZ := hideIt2 hsz
  have HK0 := hideIt2 hk0
  have HK1 := hideIt2 hk1
  have HK2 := hideIt2 hk2
  have Hax := hideIt2 (hax.below hb0)
  have Haz := hideIt2 (haz.below hb0)
  have Hbx := hideIt2 (hbx.below hb0)
  have Hbz := hideIt2 (hbz.below hb0)
  have Fax := hideIt2 fax
  have Faz := hideIt2 faz
  have Fbx := hideIt2 fbx
  have Fbz := hideIt2 fbz
  clear hb0 hsz hk0 hk1 hk2 hax haz hbx hbz fax faz fbx fbz
  go_enter Tryz.func32, Tryz.ntmps32
  go_wp2_with fail
  generalize (((w.alloc (.cells #[.pointer (some ⟨gax, 0, none⟩), .pointer (some ⟨gaz, 0, none⟩)] 43)).alloc (.cells #[.pointer (some ⟨gbx, 0, none⟩), .pointer (some ⟨gbz, 0, none⟩)] 43)).alloc (.cells #[.pointer none, .pointer none] 43)) = W0 at *
  have HS : Hid (∀ w', Below W0.heap.size W0 w' → w'.cell? ⟨w.heap.size, 0, none⟩ = some (.pointer (some ⟨gax, 0, none⟩)) ∧ w'.cell? ⟨w.heap.size, 1, none⟩ = some (.pointer (some ⟨gaz, 0, none⟩)) ∧ w'.cell? ⟨w.heap.size + 1, 0, none⟩ = some (.pointer (some ⟨gbx, 0, none⟩)) ∧ w'.cell? ⟨w.heap.size + 1, 1, none⟩ = some (.pointer (some ⟨gbz, 0, none⟩))) := fun w' hb => ⟨(HK0.out.below hb (by rw [HSZ.out]; omega)).cell 0, (HK0.out.below hb (by rw [HSZ.out]; omega)).cell 1, (HK1.out.below hb (by rw [HSZ.out]; omega)).cell 0, (HK1.out.below hb (by rw [HSZ.out]; omega)).cell 1⟩
  have HSS : Hid (∀ w', Below W0.heap.size W0 w' → ∀ x0 x1 : Value, ((w'.setCell ⟨w.heap.size + 1 + 1, 0, none⟩ x0).setCell ⟨w.heap.size + 1 + 1, 1, none⟩ x1).cell? ⟨w.heap.size, 0, none⟩ = some (.pointer (some ⟨gax, 0, none⟩)) ∧ ((w'.setCell ⟨w.heap.size + 1 + 1, 0, none⟩ x0).setCell ⟨w.heap.size + 1 + 1, 1, none⟩ x1).cell? ⟨w.heap.size, 1, none⟩ = some (.pointer (some ⟨gaz, 0, none⟩)) ∧ ((w'.setCell ⟨w.heap.size + 1 + 1, 0, none⟩ x0).setCell ⟨w.heap.size + 1 + 1, 1, none⟩ x1).cell? ⟨w.heap.size + 1, 0, none⟩ = some (.pointer (some ⟨gbx, 0, none⟩)) ∧ ((w'.setCell ⟨w.heap.size + 1 + 1, 0, none⟩ x0).setCell ⟨w.heap.size + 1 + 1, 1, none⟩ x1).cell? ⟨w.heap.size + 1, 1, none⟩ = some (.pointer (some ⟨gbz, 0, none⟩))) := fun w' hb x0 x1 => ⟨((HK0.out.below hb (by rw [HSZ.out]; omega)).off2 (g := w.heap.size + 1 + 1) (by omega) x0 x1).cell 0, ((HK0.out.below hb (by rw [HSZ.out]; omega)).off2 (g := w.heap.size + 1 + 1) (by omega) x0 x1).cell 1, ((HK1.out.below hb (by rw [HSZ.out]; omega)).off2 (g := w.heap.size + 1 + 1) (by omega) x0 x1).cell 0, ((HK1.out.below hb (by rw [HSZ.out]; omega)).off2 (g := w.heap.size + 1 + 1) (by omega) x0 x1).cell 1⟩
  obtain ⟨z0, z1, z2, z3⟩ := HS.out W0 (Below.refl _ _)
  go_region_held3 (fun w' => w'.cell? ⟨w.heap.size, 0, none⟩ = some (.pointer (some ⟨gax, 0, none⟩)) ∧ w'.cell? ⟨w.heap.size, 1, none⟩ = some (.pointer (some ⟨gaz, 0, none⟩)) ∧ w'.cell? ⟨w.heap.size + 1, 0, none⟩ = some (.pointer (some ⟨gbx, 0, none⟩)) ∧ w'.cell? ⟨w.heap.size + 1, 1, none⟩ = some (.pointer (some ⟨gbz, 0, none⟩))) (first | (refine HS.out _ ?_; (repeat' first | with_reducible exact hbl2 | with_reducible exact hbl1 | with_reducible exact Below.refl _ _ | with_reducible refine Below.new ?_ _ | with_reducible refine Below.drew ?_); done) | (refine HSS.out _ ?_ _ _; (repeat' first | with_reducible exact hbl2 | with_reducible exact hbl1 | with_reducible exact Below.refl _ _ | with_reducible refine Below.new ?_ _ | with_reducible refine Below.drew ?_); done) | go_keep)
    (first
      | (have hq1 := hbl1; go_at_call 81; refine (refAdd_calls (rrow2 (by repeat' first | with_reducible exact Blk.new _ _ _ | ((with_reducible refine blk_at ?_); (first | with_reducible rfl | (simp; done))) | with_reducible refine blk_old _ ?_ | with_reducible refine blk_drew ?_ | with_reducible refine blk_bel hb1 ?_) ⟨_, rfl, Haz.out.below (by repeat' first | with_reducible exact hbl1 | with_reducible exact Below.refl _ _ | with_reducible refine Below.new ?_ _ | with_reducible refine Below.drew ?_)⟩ ⟨_, rfl, Hbz.out.below (by repeat' first | with_reducible exact hbl1 | with_reducible exact Below.refl _ _ | with_reducible refine Below.new ?_ _ | with_reducible refine Below.drew ?_)⟩) (all2 (QS.mono (l := k + k) Faz.out (by omega)) (QS.mono (l := k + k) Fbz.out (by omega))) (by simp) (by simp only [List.length_cons, List.length_nil]; omega)).mono ?_; rintro e w2 ⟨hb2, _, rfl, g2, rfl, hv2⟩; rw [rsum2] at hv2; have hbl2 : Below W0.heap.size W0 w2 := bel_bel (by repeat' first | with_reducible exact hbl1 | with_reducible exact Below.refl _ _ | with_reducible refine Below.new ?_ _ | with_reducible refine Below.drew ?_) hb2; have hs2 := HS.out w2 hbl2; have hkr := HK2.out.below hbl2 (by rw [HSZ.out]; omega); obtain ⟨r0, r1, f0, f1⟩ := hkr.all2)
      | (go_at_call 81; refine (refAdd_calls (rrow2 (by repeat' first | with_reducible exact Blk.new _ _ _ | ((with_reducible refine blk_at ?_); (first | with_reducible rfl | (simp; done))) | with_reducible refine blk_old _ ?_ | with_reducible refine blk_drew ?_) ⟨_, rfl, Hax.out.below (by repeat' first | with_reducible exact Below.refl _ _ | with_reducible refine Below.new ?_ _ | with_reducible refine Below.drew ?_)⟩ ⟨_, rfl, Hbx.out.below (by repeat' first | with_reducible exact Below.refl _ _ | with_reducible refine Below.new ?_ _ | with_reducible refine Below.drew ?_)⟩) (all2 (QS.mono (l := k + k) Fax.out (by omega)) (QS.mono (l := k + k) Fbx.out (by omega))) (by simp) (by simp only [List.length_cons, List.length_nil]; omega)).mono ?_; rintro e w1 ⟨hb1, _, rfl, g1, rfl, hv1⟩; rw [rsum2] at hv1; have hbl1 : Below W0.heap.size W0 w1 := bel_bel (by repeat' first | with_reducible exact Below.refl _ _ | with_reducible refine Below.new ?_ _ | with_reducible refine Below.drew ?_) hb1; have hs1 := HS.out w1 hbl1)
      )
  all_goals
    go_wp2
    obtain ⟨k0, k1, _, _⟩ := (hkr.put2 (.pointer (some ⟨g1, 0, none⟩)) (.pointer (some ⟨g2, 0, none⟩))).all2
    refine bodyPost_ret (v := .agg #[.pointer (some ⟨g1, 0, none⟩), .pointer (some ⟨g2, 0, none⟩)]) (by simp [results, Tryz.results32, go_sem, k0, k1]) rfl ⟨Below.put2 (HB0.out.trans (hbl2.mono HB0.out.size)) (by omega) (.pointer (some ⟨g1, 0, none⟩)) (.pointer (some ⟨g2, 0, none⟩)), _, rfl, _, _, rfl, ⟨_, rfl, RV.put2 (by repeat' first | with_reducible exact hv1 | with_reducible refine rv_new _ ?_ | with_reducible refine rv_drew ?_ | with_reducible refine rv_bel hb2 ?_ | with_reducible refine rv_bel hb1 ?_) hkr rfl rfl (.pointer (some ⟨g1, 0, none⟩)) (.pointer (some ⟨g2, 0, none⟩))⟩, ⟨_, rfl, RV.put2 (by repeat' first | with_reducible exact hv2 | with_reducible refine rv_new _ ?_ | with_reducible refine rv_drew ?_ | with_reducible refine rv_bel hb2 ?_ | with_reducible refine rv_bel hb1 ?_) hkr rfl rfl (.pointer (some ⟨g1, 0, none⟩)) (.pointer (some ⟨g2, 0, none⟩))⟩⟩
theorem vTimes_walk {w : World} {gax gaz gc : Nat} {ax az c : Rat} {k : Nat} (hax : RV w gax ax) (haz : RV w gaz az) (hc : RV w gc c) (fax : QS k ax) (faz : QS k az) (fc : QS k c) (hk : 8 * k + 16 ≤ 35184372088640) :
    Calls Tryz.prog 34 #[.agg #[.pointer (some ⟨gax, 0, none⟩), .pointer (some ⟨gaz, 0, none⟩)], .pointer (some ⟨gc, 0, none⟩)] w fun e w' => Below w.heap.size w w' ∧ ∃ v, e = .returned v ∧ VV w' v (ax * c) (az * c) := by
  obtain ⟨hb0, hk0, hk1, hsz⟩ := boxes2 w #[.pointer (some ⟨gax, 0, none⟩), .pointer (some ⟨gaz, 0, none⟩)] #[.pointer none, .pointer none] 43 43
  have HB0 := hideIt2 hb0
  have HSZ := hideIt2 hsz
  have HK0 := hideIt2 hk0
  have HK1 := hideIt2 hk1
  have Hax := hideIt2 (hax.below hb0)
  have Haz := hideIt2 (haz.below hb0)
  have Hc := hideIt2 (hc.below hb0)
  have Fax := hideIt2 fax
  have Faz := hideIt2 faz
  have Fc := hideIt2 fc
  clear hb0 hsz hk0 hk1 hax haz hc fax faz fc
  go_enter Tryz.func34, Tryz.ntmps34
  go_wp2_with fail
  generalize ((w.alloc (.cells #[.pointer (some ⟨gax, 0, none⟩), .pointer (some ⟨gaz, 0, none⟩)] 43)).alloc (.cells #[.pointer none, .pointer none] 43)) = W0 at *
  have HS : Hid (∀ w', Below W0.heap.size W0 w' → w'.cell? ⟨w.heap.size, 0, none⟩ = some (.pointer (some ⟨gax, 0, none⟩)) ∧ w'.cell? ⟨w.heap.size, 1, none⟩ = some (.pointer (some ⟨gaz, 0, none⟩))) := fun w' hb => ⟨(HK0.out.below hb (by rw [HSZ.out]; omega)).cell 0, (HK0.out.below hb (by rw [HSZ.out]; omega)).cell 1⟩
  have HSS : Hid (∀ w', Below W0.heap.size W0 w' → ∀ x0 x1 : Value, ((w'.setCell ⟨w.heap.size + 1, 0, none⟩ x0).setCell ⟨w.heap.size + 1, 1, none⟩ x1).cell? ⟨w.heap.size, 0, none⟩ = some (.pointer (some ⟨gax, 0, none⟩)) ∧ ((w'.setCell ⟨w.heap.size + 1, 0, none⟩ x0).setCell ⟨w.heap.size + 1, 1, none⟩ x1).cell? ⟨w.heap.size, 1, none⟩ = some (.pointer (some ⟨gaz, 0, none⟩))) := fun w' hb x0 x1 => ⟨((HK0.out.below hb (by rw [HSZ.out]; omega)).off2 (g := w.heap.size + 1) (by omega) x0 x1).cell 0, ((HK0.out.below hb (by rw [HSZ.out]; omega)).off2 (g := w.heap.size + 1) (by omega) x0 x1).cell 1⟩
  obtain ⟨z0, z1⟩ := HS.out W0 (Below.refl _ _)
  go_region_held3 (fun w' => w'.cell? ⟨w.heap.size, 0, none⟩ = some (.pointer (some ⟨gax, 0, none⟩)) ∧ w'.cell? ⟨w.heap.size, 1, none⟩ = some (.pointer (some ⟨gaz, 0, none⟩))) (first | (refine HS.out _ ?_; (repeat' first | with_reducible exact hbl2 | with_reducible exact hbl1 | with_reducible exact Below.refl _ _ | with_reducible refine Below.new ?_ _ | with_reducible refine Below.drew ?_); done) | (refine HSS.out _ ?_ _ _; (repeat' first | with_reducible exact hbl2 | with_reducible exact hbl1 | with_reducible exact Below.refl _ _ | with_reducible refine Below.new ?_ _ | with_reducible refine Below.drew ?_); done) | go_keep)
    (first
      | (have hq1 := hbl1; go_at_call 82; refine (refMul_calls (rrow2 (by repeat' first | with_reducible exact Blk.new _ _ _ | ((with_reducible refine blk_at ?_); (first | with_reducible rfl | (simp; done))) | with_reducible refine blk_old _ ?_ | with_reducible refine blk_drew ?_ | with_reducible refine blk_bel hb1 ?_) ⟨_, rfl, Haz.out.below (by repeat' first | with_reducible exact hbl1 | with_reducible exact Below.refl _ _ | with_reducible refine Below.new ?_ _ | with_reducible refine Below.drew ?_)⟩ ⟨_, rfl, Hc.out.below (by repeat' first | with_reducible exact hbl1 | with_reducible exact Below.refl _ _ | with_reducible refine Below.new ?_ _ | with_reducible refine Below.drew ?_)⟩) (all2 (QS.mono (l := k + k) Faz.out (by omega)) (QS.mono (l := k + k) Fc.out (by omega))) (by simp) (by simp only [List.length_cons, List.length_nil]; omega)).mono ?_; rintro e w2 ⟨hb2, _, rfl, g2, rfl, hv2⟩; rw [rprod2] at hv2; have hbl2 : Below W0.heap.size W0 w2 := bel_bel (by repeat' first | with_reducible exact hbl1 | with_reducible exact Below.refl _ _ | with_reducible refine Below.new ?_ _ | with_reducible refine Below.drew ?_) hb2; have hs2 := HS.out w2 hbl2; have hkr := HK1.out.below hbl2 (by rw [HSZ.out]; omega); obtain ⟨r0, r1, f0, f1⟩ := hkr.all2)
      | (go_at_call 82; refine (refMul_calls (rrow2 (by repeat' first | with_reducible exact Blk.new _ _ _ | ((with_reducible refine blk_at ?_); (first | with_reducible rfl | (simp; done))) | with_reducible refine blk_old _ ?_ | with_reducible refine blk_drew ?_) ⟨_, rfl, Hax.out.below (by repeat' first | with_reducible exact Below.refl _ _ | with_reducible refine Below.new ?_ _ | with_reducible refine Below.drew ?_)⟩ ⟨_, rfl, Hc.out.below (by repeat' first | with_reducible exact Below.refl _ _ | with_reducible refine Below.new ?_ _ | with_reducible refine Below.drew ?_)⟩) (all2 (QS.mono (l := k + k) Fax.out (by omega)) (QS.mono (l := k + k) Fc.out (by omega))) (by simp) (by simp only [List.length_cons, List.length_nil]; omega)).mono ?_; rintro e w1 ⟨hb1, _, rfl, g1, rfl, hv1⟩; rw [rprod2] at hv1; have hbl1 : Below W0.heap.size W0 w1 := bel_bel (by repeat' first | with_reducible exact Below.refl _ _ | with_reducible refine Below.new ?_ _ | with_reducible refine Below.drew ?_) hb1; have hs1 := HS.out w1 hbl1)
      )
  all_goals
    go_wp2
    obtain ⟨k0, k1, _, _⟩ := (hkr.put2 (.pointer (some ⟨g1, 0, none⟩)) (.pointer (some ⟨g2, 0, none⟩))).all2
    refine bodyPost_ret (v := .agg #[.pointer (some ⟨g1, 0, none⟩), .pointer (some ⟨g2, 0, none⟩)]) (by simp [results, Tryz.results34, go_sem, k0, k1]) rfl ⟨Below.put2 (HB0.out.trans (hbl2.mono HB0.out.size)) (by omega) (.pointer (some ⟨g1, 0, none⟩)) (.pointer (some ⟨g2, 0, none⟩)), _, rfl, _, _, rfl, ⟨_, rfl, RV.put2 (by repeat' first | with_reducible exact hv1 | with_reducible refine rv_new _ ?_ | with_reducible refine rv_drew ?_ | with_reducible refine rv_bel hb2 ?_ | with_reducible refine rv_bel hb1 ?_) hkr rfl rfl (.pointer (some ⟨g1, 0, none⟩)) (.pointer (some ⟨g2, 0, none⟩))⟩, ⟨_, rfl, RV.put2 (by repeat' first | with_reducible exact hv2 | with_reducible refine rv_new _ ?_ | with_reducible refine rv_drew ?_ | with_reducible refine rv_bel hb2 ?_ | with_reducible refine rv_bel hb1 ?_) hkr rfl rfl (.pointer (some ⟨g1, 0, none⟩)) (.pointer (some ⟨g2, 0, none⟩))⟩⟩
theorem vCross_walk {w : World} {gax gaz gbx gbz : Nat} {ax az bx bz : Rat} {k : Nat} (hax : RV w gax ax) (haz : RV w gaz az) (hbx : RV w gbx bx) (hbz : RV w gbz bz) (fax : QS k ax) (faz : QS k az) (fbx : QS k bx) (fbz : QS k bz) (hk : 8 * k + 16 ≤ 35184372088640) :
    Calls Tryz.prog 42 #[.agg #[.pointer (some ⟨gax, 0, none⟩), .pointer (some ⟨gaz, 0, none⟩)], .agg #[.pointer (some ⟨gbx, 0, none⟩), .pointer (some ⟨gbz, 0, none⟩)]] w fun e w' => Below w.heap.size w w' ∧ ∃ v, e = .returned v ∧ PR w' v ((ax * bz) - (az * bx)) := by
  obtain ⟨hb0, hk0, hk1, hsz⟩ := boxes2 w #[.pointer (some ⟨gax, 0, none⟩), .pointer (some ⟨gaz, 0, none⟩)] #[.pointer (some ⟨gbx, 0, none⟩), .pointer (some ⟨gbz, 0, none⟩)] 43 43
  have HB0 := hideIt2 hb0
  have HSZ := hideIt2 hsz
  have HK0 := hideIt2 hk0
  have HK1 := hideIt2 hk1
  have Hax := hideIt2 (hax.below hb0)
  have Haz := hideIt2 (haz.below hb0)
  have Hbx := hideIt2 (hbx.below hb0)
  have Hbz := hideIt2 (hbz.below hb0)
  have Fax := hideIt2 fax
  have Faz := hideIt2 faz
  have Fbx := hideIt2 fbx
  have Fbz := hideIt2 fbz
  clear hb0 hsz hk0 hk1 hax haz hbx hbz fax faz fbx fbz
  go_enter Tryz.func42, Tryz.ntmps42
  go_wp2_with fail
  generalize ((w.alloc (.cells #[.pointer (some ⟨gax, 0, none⟩), .pointer (some ⟨gaz, 0, none⟩)] 43)).alloc (.cells #[.pointer (some ⟨gbx, 0, none⟩), .pointer (some ⟨gbz, 0, none⟩)] 43)) = W0 at *
  have HS : Hid (∀ w', Below W0.heap.size W0 w' → w'.cell? ⟨w.heap.size, 0, none⟩ = some (.pointer (some ⟨gax, 0, none⟩)) ∧ w'.cell? ⟨w.heap.size, 1, none⟩ = some (.pointer (some ⟨gaz, 0, none⟩)) ∧ w'.cell? ⟨w.heap.size + 1, 0, none⟩ = some (.pointer (some ⟨gbx, 0, none⟩)) ∧ w'.cell? ⟨w.heap.size + 1, 1, none⟩ = some (.pointer (some ⟨gbz, 0, none⟩))) := fun w' hb => ⟨(HK0.out.below hb (by rw [HSZ.out]; omega)).cell 0, (HK0.out.below hb (by rw [HSZ.out]; omega)).cell 1, (HK1.out.below hb (by rw [HSZ.out]; omega)).cell 0, (HK1.out.below hb (by rw [HSZ.out]; omega)).cell 1⟩
  obtain ⟨z0, z1, z2, z3⟩ := HS.out W0 (Below.refl _ _)
  go_region_held3 (fun w' => w'.cell? ⟨w.heap.size, 0, none⟩ = some (.pointer (some ⟨gax, 0, none⟩)) ∧ w'.cell? ⟨w.heap.size, 1, none⟩ = some (.pointer (some ⟨gaz, 0, none⟩)) ∧ w'.cell? ⟨w.heap.size + 1, 0, none⟩ = some (.pointer (some ⟨gbx, 0, none⟩)) ∧ w'.cell? ⟨w.heap.size + 1, 1, none⟩ = some (.pointer (some ⟨gbz, 0, none⟩))) (first | (refine HS.out _ ?_; (repeat' first | with_reducible exact hbl3 | with_reducible exact hbl2 | with_reducible exact hbl1 | with_reducible exact Below.refl _ _ | with_reducible refine Below.new ?_ _ | with_reducible refine Below.drew ?_); done) | go_keep)
    (first
      | (have hq2 := hbl2; go_at_call 83; refine (refSub_calls ⟨_, rfl, (by repeat' first | with_reducible exact hv1 | with_reducible refine rv_new _ ?_ | with_reducible refine rv_drew ?_ | with_reducible refine rv_bel hb2 ?_ | with_reducible refine rv_bel hb1 ?_)⟩ ⟨_, rfl, (by repeat' first | with_reducible exact hv2 | with_reducible refine rv_new _ ?_ | with_reducible refine rv_drew ?_ | with_reducible refine rv_bel hb2 ?_ | with_reducible refine rv_bel hb1 ?_)⟩ (Fax.out.mul Fbz.out) (Faz.out.mul Fbx.out) (by omega)).mono ?_; rintro e w3 ⟨hb3, _, rfl, g3, rfl, hv3⟩; have hbl3 : Below W0.heap.size W0 w3 := bel_bel (by repeat' first | with_reducible exact hbl2 | with_reducible exact hbl1 | with_reducible exact Below.refl _ _ | with_reducible refine Below.new ?_ _ | with_reducible refine Below.drew ?_) hb3; have hs3 := HS.out w3 hbl3)
      | (have hq1 := hbl1; go_at_call 82; refine (refMul_calls (rrow2 (by repeat' first | with_reducible exact Blk.new _ _ _ | ((with_reducible refine blk_at ?_); (first | with_reducible rfl | (simp; done))) | with_reducible refine blk_old _ ?_ | with_reducible refine blk_drew ?_ | with_reducible refine blk_bel hb1 ?_) ⟨_, rfl, Haz.out.below (by repeat' first | with_reducible exact hbl1 | with_reducible exact Below.refl _ _ | with_reducible refine Below.new ?_ _ | with_reducible refine Below.drew ?_)⟩ ⟨_, rfl, Hbx.out.below (by repeat' first | with_reducible exact hbl1 | with_reducible exact Below.refl _ _ | with_reducible refine Below.new ?_ _ | with_reducible refine Below.drew ?_)⟩) (all2 (QS.mono (l := k + k) Faz.out (by omega)) (QS.mono (l := k + k) Fbx.out (by omega))) (by simp) (by simp only [List.length_cons, List.length_nil]; omega)).mono ?_; rintro e w2 ⟨hb2, _, rfl, g2, rfl, hv2⟩; rw [rprod2] at hv2; have hbl2 : Below W0.heap.size W0 w2 := bel_bel (by repeat' first | with_reducible exact hbl1 | with_reducible exact Below.refl _ _ | with_reducible refine Below.new ?_ _ | with_reducible refine Below.drew ?_) hb2; have hs2 := HS.out w2 hbl2)
      | (go_at_call 82; refine (refMul_calls (rrow2 (by repeat' first | with_reducible exact Blk.new _ _ _ | ((with_reducible refine blk_at ?_); (first | with_reducible rfl | (simp; done))) | with_reducible refine blk_old _ ?_ | with_reducible refine blk_drew ?_) ⟨_, rfl, Hax.out.below (by repeat' first | with_reducible exact Below.refl _ _ | with_reducible refine Below.new ?_ _ | with_reducible refine Below.drew ?_)⟩ ⟨_, rfl, Hbz.out.below (by repeat' first | with_reducible exact Below.refl _ _ | with_reducible refine Below.new ?_ _ | with_reducible refine Below.drew ?_)⟩) (all2 (QS.mono (l := k + k) Fax.out (by omega)) (QS.mono (l := k + k) Fbz.out (by omega))) (by simp) (by simp only [List.length_cons, List.length_nil]; omega)).mono ?_; rintro e w1 ⟨hb1, _, rfl, g1, rfl, hv1⟩; rw [rprod2] at hv1; have hbl1 : Below W0.heap.size W0 w1 := bel_bel (by repeat' first | with_reducible exact Below.refl _ _ | with_reducible refine Below.new ?_ _ | with_reducible refine Below.drew ?_) hb1; have hs1 := HS.out w1 hbl1)
      )
  all_goals
    go_wp2
    go_ret
    exact ⟨HB0.out.trans (hbl3.mono HB0.out.size), _, rfl, _, rfl, hv3⟩
theorem vCross_calls {w : World} {va vb : Value} {ax az bx bz : Rat} {k : Nat} (ha : VV w va ax az) (hb : VV w vb bx bz) (fax : QS k ax) (faz : QS k az) (fbx : QS k bx) (fbz : QS k bz) (hk : 8 * k + 16 ≤ 35184372088640) :
    Calls Tryz.prog 42 #[va, vb] w fun e w' => Below w.heap.size w w' ∧ ∃ v, e = .returned v ∧ PR w' v ((ax * bz) - (az * bx)) := by
  obtain ⟨_, _, rfl, ⟨gax, rfl, hax⟩, ⟨gaz, rfl, haz⟩⟩ := ha
  obtain ⟨_, _, rfl, ⟨gbx, rfl, hbx⟩, ⟨gbz, rfl, hbz⟩⟩ := hb
  exact vCross_walk hax haz hbx hbz fax faz fbx fbz hk
end Go.Proofs.YtgajdmadbdbabaaGreatDoor
/- RD -/
namespace Go.Proofs.YtgajdmadbdbabaaGreatDoor
open Go.RowKit Cx
attribute [local go_sem ↓] Go.wp_at_zero Go.wp_at_succ
theorem refP_calls (sx sy : ByteArray) (w : World) (hm : MaxL w) (hx : sx.size ≤ 4294967280) (hy : sy.size ≤ 4294967280) :
    Calls Tryz.prog 25 #[.agg #[.string sx, .string sy]] w fun e w' => Below w.heap.size w w' ∧ ∃ v, e = .returned v ∧ VV w' v (rd sx.data.toList) (rd sy.data.toList) := by
  obtain ⟨hb0, hk0, hk1, hsz⟩ := boxes2 w #[.string sx, .string sy] #[.pointer none, .pointer none] 24 43
  have HB0 := hideIt2 hb0
  have HSZ := hideIt2 hsz
  have HK0 := hideIt2 hk0
  have HK1 := hideIt2 hk1
  have HM := hideIt2 (hm.below hb0)
  clear hb0 hsz hk0 hk1 hm
  go_enter Tryz.func25, Tryz.ntmps25
  go_wp2_with fail
  generalize ((w.alloc (.cells #[.string sx, .string sy] 24)).alloc (.cells #[.pointer none, .pointer none] 43)) = W0 at *
  have HS : Hid (∀ w', Below W0.heap.size W0 w' → w'.cell? ⟨w.heap.size, 0, none⟩ = some (.string sx) ∧ w'.cell? ⟨w.heap.size, 1, none⟩ = some (.string sy)) := fun w' hb => ⟨(HK0.out.below hb (by rw [HSZ.out]; omega)).cell 0, (HK0.out.below hb (by rw [HSZ.out]; omega)).cell 1⟩
  have HSS : Hid (∀ w', Below W0.heap.size W0 w' → ∀ x0 x1 : Value, ((w'.setCell ⟨w.heap.size + 1, 0, none⟩ x0).setCell ⟨w.heap.size + 1, 1, none⟩ x1).cell? ⟨w.heap.size, 0, none⟩ = some (.string sx) ∧ ((w'.setCell ⟨w.heap.size + 1, 0, none⟩ x0).setCell ⟨w.heap.size + 1, 1, none⟩ x1).cell? ⟨w.heap.size, 1, none⟩ = some (.string sy)) := fun w' hb x0 x1 => ⟨((HK0.out.below hb (by rw [HSZ.out]; omega)).off2 (g := w.heap.size + 1) (by omega) x0 x1).cell 0, ((HK0.out.below hb (by rw [HSZ.out]; omega)).off2 (g := w.heap.size + 1) (by omega) x0 x1).cell 1⟩
  obtain ⟨z0, z1⟩ := HS.out W0 (Below.refl _ _)
  go_region_held3 (fun w' => w'.cell? ⟨w.heap.size, 0, none⟩ = some (.string sx) ∧ w'.cell? ⟨w.heap.size, 1, none⟩ = some (.string sy)) (first | (refine HS.out _ ?_; (repeat' first | with_reducible exact hbl2 | with_reducible exact hbl1 | with_reducible exact Below.refl _ _ | with_reducible refine Below.new ?_ _ | with_reducible refine Below.drew ?_); done) | (refine HSS.out _ ?_ _ _; (repeat' first | with_reducible exact hbl2 | with_reducible exact hbl1 | with_reducible exact Below.refl _ _ | with_reducible refine Below.new ?_ _ | with_reducible refine Below.drew ?_); done) | go_keep)
    (first
      | (have hq1 := hbl1; go_at_call 79; refine (refOf_calls sy _ (HM.out.below (by repeat' first | with_reducible exact hbl1 | with_reducible exact Below.refl _ _ | with_reducible refine Below.drew ?_)) hy).mono ?_; rintro e w2 ⟨hb2, g2, rfl, _, hv2⟩; have hbl2 : Below W0.heap.size W0 w2 := bel_bel (by repeat' first | with_reducible exact hbl1 | with_reducible exact Below.refl _ _ | with_reducible refine Below.drew ?_) hb2; have hs2 := HS.out w2 hbl2; have hkr := HK1.out.below hbl2 (by rw [HSZ.out]; omega); obtain ⟨r0, r1, f0, f1⟩ := hkr.all2)
      | (go_at_call 79; refine (refOf_calls sx _ (HM.out.below (by repeat' first | with_reducible exact Below.refl _ _ | with_reducible refine Below.drew ?_)) hx).mono ?_; rintro e w1 ⟨hb1, g1, rfl, _, hv1⟩; have hbl1 : Below W0.heap.size W0 w1 := bel_bel (by repeat' first | with_reducible exact Below.refl _ _ | with_reducible refine Below.drew ?_) hb1; have hs1 := HS.out w1 hbl1)
      )
  all_goals
    go_wp2
    obtain ⟨k0, k1, _, _⟩ := (hkr.put2 (.pointer (some ⟨g1, 0, none⟩)) (.pointer (some ⟨g2, 0, none⟩))).all2
    refine bodyPost_ret (v := .agg #[.pointer (some ⟨g1, 0, none⟩), .pointer (some ⟨g2, 0, none⟩)]) (by simp [results, Tryz.results25, go_sem, k0, k1]) rfl ⟨Below.put2 (HB0.out.trans (hbl2.mono HB0.out.size)) (by omega) _ _, _, rfl, _, _, rfl, ⟨_, rfl, RV.put2 (by repeat' first | with_reducible exact hv1 | with_reducible refine rv_drew ?_ | with_reducible refine rv_bel hb2 ?_) hkr rfl rfl _ _⟩, ⟨_, rfl, RV.put2 hv2 hkr rfl rfl _ _⟩⟩
end Go.Proofs.YtgajdmadbdbabaaGreatDoor
/- RF -/
namespace Go.Proofs.YtgajdmadbdbabaaGreatDoor
open Go.RowKit Cx
attribute [local go_sem ↓] Go.wp_at_zero Go.wp_at_succ
def sgn (x : Int) : Int := if x = 0 then 0 else if x < 0 then -1 else 1
theorem intSign_calls {w : World} {p : Value} {x : Int} (hx : IV w p x) :
    Calls Tryz.prog 97 #[p] w fun e w' => Below w.heap.size w w' ∧ e = .returned (.int .i64 (sgn x)) := by
  obtain ⟨g, o, ao, n, c, rfl, x0, x1, x2, xl⟩ := hx
  have hz : n = 0 ↔ x.natAbs = 0 := by
    obtain ⟨_, _, _, e, _, _, hz⟩ := big_len x2
    cases e
    exact hz
  clear x2
  by_cases h0 : x = 0
  · have hn : n = 0 := hz.2 (by omega)
    subst hn
    have HV : Hid (sgn x = 0) := if_pos h0
    clear hz h0
    go_enter Tryz.func97, Tryz.ntmps97
    go_wp2
    go_ret
    exact ⟨Below.refl _ _, by rw [HV.out]; rfl⟩
  · have hnb : ((n : Int) == 0) = false := beq_eq_false_iff_ne.mpr (by omega)
    have hn0 : n ≠ 0 := by omega
    by_cases hs : x < 0
    · have HV : Hid (sgn x = -1) := by show sgn x = -1; unfold sgn; rw [if_neg h0, if_pos hs]
      rw [decide_eq_true hs] at x0
      clear hz h0 hs
      go_enter Tryz.func97, Tryz.ntmps97
      go_wp2
      go_ret
      exact ⟨Below.refl _ _, by rw [HV.out]; rfl⟩
    · have HV : Hid (sgn x = 1) := by show sgn x = 1; unfold sgn; rw [if_neg h0, if_neg hs]
      rw [decide_eq_false hs] at x0
      clear hz h0 hs
      go_enter Tryz.func97, Tryz.ntmps97
      go_wp2
      go_ret
      exact ⟨Below.refl _ _, by rw [HV.out]; rfl⟩
theorem ratSign_calls {w : World} {p : Value} {x : Rat} (hx : PR w p x) :
    Calls Tryz.prog 50 #[p] w fun e w' => Below w.heap.size w w' ∧ e = .returned (.int .i64 (sgn x.num)) := by
  obtain ⟨g, rfl, hx⟩ := hx
  have HX := hideIt2 hx.num
  clear hx
  go_enter Tryz.func50, Tryz.ntmps50
  go_wp2_with fail
  refine (intSign_calls HX.out).mono ?_
  rintro e w1 ⟨hb, rfl⟩
  have HB := hideIt2 hb
  clear hb
  go_wp2
  go_ret
  exact ⟨HB.out, rfl⟩
theorem sgn_zero {x : Rat} : (sgn x.num == 0) = decide (x = 0) := by
  unfold sgn
  by_cases h : x = 0
  · subst h; rfl
  · have hn : x.num ≠ 0 := fun e => h (Rat.num_eq_zero.1 e)
    rw [if_neg hn, decide_eq_false h]
    split <;> rfl
theorem refZero_calls {w : World} {p : Value} {x : Rat} (hx : PR w p x) :
    Calls Tryz.prog 27 #[p] w fun e w' => Below w.heap.size w w' ∧ e = .returned (.bool (decide (x = 0))) := by
  have HX := hideIt2 hx
  have HZ := hideIt2 (sgn_zero (x := x))
  obtain ⟨g, rfl, hx⟩ := hx
  clear hx
  go_enter Tryz.func27, Tryz.ntmps27
  go_wp2_with fail
  refine (ratSign_calls HX.out).mono ?_
  rintro e w1 ⟨hb, rfl⟩
  have HB := hideIt2 hb
  clear hb
  generalize sgn x.num = z at *
  go_wp2
  go_ret
  exact ⟨HB.out, by rw [← HZ.out]; rfl⟩
end Go.Proofs.YtgajdmadbdbabaaGreatDoor
/- RG -/
namespace Go.Proofs.YtgajdmadbdbabaaGreatDoor
open Go.RowKit Cx
attribute [local go_sem ↓] Go.wp_at_zero Go.wp_at_succ
end Go.Proofs.YtgajdmadbdbabaaGreatDoor
/- TE -/
namespace Go.Proofs.YtgajdmadbdbabaaGreatDoor
open Go.RowKit Cx
theorem owns_only {w w' : World} {g B n : Nat} {v : Value} {xs : List Value} (h : w.ownsRow B 168 1 v n xs) (ho : Only g w w') (hg : g < B) : w'.ownsRow B 168 1 v n xs := by
  obtain ⟨h1, h2 | ⟨g', cap, cur, rfl, hb, hh, hc⟩⟩ := h
  · exact ⟨h1, Or.inl h2⟩
  · exact ⟨h1, Or.inr ⟨g', cap, cur, rfl, hb, by rw [ho.block g' (by omega), hh], hc⟩⟩
theorem owns_below {w w' : World} {B n : Nat} {v : Value} {xs : List Value} (h : w.ownsRow B 168 1 v n xs) (ho : Below w.heap.size w w') : w'.ownsRow B 168 1 v n xs := by
  obtain ⟨h1, h2 | ⟨g', cap, cur, rfl, hb, hh, hc⟩⟩ := h
  · exact ⟨h1, Or.inl h2⟩
  · refine ⟨h1, Or.inr ⟨g', cap, cur, rfl, hb, ?_, hc⟩⟩
    have : g' < w.heap.size := by
      by_cases e : g' < w.heap.size
      · exact e
      · rw [Array.getElem?_eq_none (by omega)] at hh; cases hh
    rw [ho.block g' this, hh]
theorem runs_walk {w : World} {v : Value} {l0 : List Nat} (h : NatV w v l0) (ht : Trim l0) (hl : l0.length ≤ 1099511627770) :
    Calls Tryz.prog 162 #[v] w fun e w' => Below w.heap.size w w' ∧ ∃ v' rs, e = .returned v' ∧ NatV w' v' rs ∧ Runs rs ∧ rv rs = val l0 ∧ rs.length ≤ 2 * l0.length + 1 := by
  obtain ⟨i0, hi, hz0, hz1, hz2⟩ := info_parts Tryz.infoU32
  have HH := hideIt h
  have HT := hideIt ht
  have hlim0 := hideIt h.1
  have hvs : ∃ ao cap, v = .slice ao l0.length cap := by
    obtain ⟨_, ⟨rfl, ao, cap, rfl⟩ | ⟨b, off, cap, rfl, _⟩⟩ := h
    · exact ⟨ao, cap, rfl⟩
    · exact ⟨_, cap, rfl⟩
  obtain ⟨ao0, cap0, rfl⟩ := hvs
  clear h ht
  go_enter Tryz.func162, Tryz.ntmps162
  go_wp2_with fail
  refine (clone_calls HH.out (by omega)).mono ?_
  rintro e w1 ⟨hb1, ⟨rfl, rfl⟩ | ⟨g, cap, rfl, hg, hcl, hcm, hrow⟩⟩
  · go_wp2
    go_loopg [0, 3] 0 (fun k va vr wr => va = .slice none 0 0 ∧ vr = .slice none 0 0 ∧ wr = w1)
    case atStart => exact ⟨rfl, rfl, rfl⟩
    case round =>
      obtain ⟨rfl, rfl, rfl⟩ := hrel
      go_wp2
      go_ret
      exact ⟨hb1, _, [], rfl, ⟨fun x hx => by simp at hx, Or.inl ⟨rfl, _, _, rfl⟩⟩, ⟨fun x hx => by simp at hx, Or.inl rfl⟩, rfl, Nat.zero_le _⟩
  · have HR := hideIt hrow
    clear hrow
    go_wp2
    go_loopg [0, 3] (val l0) (fun k va vr wr => ∃ (l : List Nat) (n : Nat) (rs : List Nat), va = .slice (some ⟨g, 0, none⟩) n cap ∧ n ≤ l.length ∧ l.length = l0.length ∧ Row wr g l ∧ Lim l ∧ Trim (l.take n) ∧ val (l.take n) ≤ k ∧ (∀ x ∈ rs, x < 1000000000) ∧ rv rs + 1000000000 ^ rs.length * val (l.take n) = val l0 ∧ (val (l.take n) = 0 → rs = [] ∨ rs.getLast? ≠ some 0) ∧ wr.ownsRow w1.heap.size 168 1 vr rs.length (rs.map fun x : Nat => Value.int .u32 (x : Int)) ∧ Below w.heap.size w wr ∧ w1.heap.size ≤ wr.heap.size ∧ rs.length ≤ 2 * l0.length + 1)
    case atStart =>
      have e : l0.take l0.length = l0 := List.take_length
      exact ⟨l0, l0.length, [], rfl, Nat.le_refl _, rfl, HR.out, hlim0.out, by rw [e]; exact HT.out, by rw [e]; exact Nat.le_refl _, fun x hx => by simp at hx, by rw [e]; simp [rv], fun _ => Or.inl rfl, ⟨rfl, Or.inl ⟨rfl, rfl⟩⟩, hb1, Nat.le_refl _, Nat.zero_le _⟩
    case round =>
      obtain ⟨l, n, rs, rfl, hn, hll, hrow, hlim, htr, hk, hrs, hval, htop, hown, hbel, hsz, hrl⟩ := hrel
      have hgl : g < w1.heap.size := HR.out.lt
      have H1 := hideIt hrow
      have H2 := hideIt hlim
      have H3 := hideIt htr
      have H4 := hideIt hrs
      have H5 := hideIt hval
      have H6 := hideIt htop
      have H7 := hideIt hown
      clear hrow hlim htr hrs hval htop hown
      by_cases h0 : n = 0
      · subst h0
        go_wp2
        go_ret
        have h50 := H5.out
        have h60 := H6.out
        rw [List.take_zero, val_nil, Nat.mul_zero, Nat.add_zero] at h50
        rw [List.take_zero, val_nil] at h60
        refine ⟨hbel, _, rs, rfl, ?_, ⟨H4.out, h60 rfl⟩, h50, hrl⟩
        have hlr : Lim rs := fun x hx => by have := H4.out x hx; omega
        by_cases e : rs = []
        · subst e
          rcases H7.out.2 with ⟨e1, _⟩ | ⟨g', c', cur, e1, _⟩
          · exact ⟨hlr, Or.inl ⟨rfl, _, _, e1⟩⟩
          · exact ⟨hlr, Or.inl ⟨rfl, _, _, e1⟩⟩
        · obtain ⟨g', c', e1, hg', hm', hr'⟩ := rowC_of_owns rfl H7.out (fun e2 => by
            rcases H7.out.2 with ⟨_, e3⟩ | ⟨g', c', cur, e3, _⟩
            · exact e (List.length_eq_zero_iff.1 e3)
            · have e4 := e2.symm.trans e3
              cases e4)
          exact ⟨hlr, Or.inr ⟨g', 0, c', e1, hr'.le, hm', hr'.row.lt, hr'.row.seg⟩⟩
      · have hApos : Hid (0 < val (l.take n)) := by
          have h1 := trim_pos H3.out (by intro e; have := congrArg List.length e; rw [List.length_take, List.length_nil] at this; omega)
          exact Nat.lt_of_lt_of_le (pw_pos _) h1
        go_wp2_with fail
        refine (divideLimb_calls (cap := cap) H1.out H2.out hn (by omega) (by decide : 0 < 1000000000) (by decide)).mono ?_
        rintro e w2 ⟨rfl, honly, l', hrow', hlim', hlen', hv'⟩
        have hle2 : Hid (rs.length ≤ 2 * l0.length) := runs_len (by have := H5.out; omega) hApos.out (val_lt hlim0.out)
        obtain ⟨r, hr⟩ : ∃ r, r = val (l.take n) % 1000000000 := ⟨_, rfl⟩
        have hr9 : r < 1000000000 := by rw [hr]; exact Nat.mod_lt _ (by decide)
        rw [← hr]
        have K0 := hideIt hr
        have K1 := hideIt hrow'
        have K2 := hideIt hlim'
        have K3 := hideIt hv'
        have hs2 : w1.heap.size ≤ w2.heap.size := by rw [honly.size]; exact hsz
        have K4 := hideIt (honly.below hbel (by omega : w.heap.size ≤ g))
        have hown := owns_below (owns_only H7.out honly hgl) (below_new w2 (.cells #[.int .u32 (r : Int)] 168))
        have hnews : ∀ j u, ([Value.int .u32 (r : Int)] : List Value)[j]? = some u → (w2.alloc (.cells #[.int .u32 (r : Int)] 168)).cell? (Addr.add ⟨w2.heap.size, 0, none⟩ j) = some u := by
          intro j u hj
          match j, hj with
          | 0, hj => simp at hj; subst hj; simp [Addr.add]
        have HNW := hideIt hnews
        have HO := hideIt hown
        clear hnews hr hrow' hlim' hv' hown
        go_wp2_with (at_builtin; refine wpList_append_own _ rfl _ _ 81 rfl w1.heap.size 168 i0 (.int .u32 0) 1 4 Tryz.underlying81 hi hz0 hz1 hz2 rfl (by decide) _ rs.length (rs.map fun x : Nat => Value.int .u32 (x : Int)) rfl HO.out ⟨w2.heap.size, 0, none⟩ 1 1 [.int .u32 (r : Int)] rfl rfl HNW.out (by intro u hu; simp at hu; subst hu; rfl) (by unfold maxLen; omega) (by omega) (by simp; omega) ?_; intro v' w3 hown1 hgrow hnil)
        have hnb : ∀ i, i < w1.heap.size → w3.heap[i]? = w2.heap[i]? := by
          intro i hi'
          have h1 := hgrow.block i (by simp; omega) (by
            rcases H7.out.2 with ⟨e1, _⟩ | ⟨g', c', cur, e1, hb', _⟩
            · rw [e1]; simp [go_sem, Value.ownBlock]
            · rw [e1]; simp [go_sem, Value.ownBlock]; omega)
          rw [h1, (below_new w2 _).block i (by omega)]
        have hgs := hgrow.size
        have hb3 : Hid (Below w.heap.size w w3) := by
          have hb2 : Below w.heap.size w (w2.alloc (.cells #[.int .u32 (r : Int)] 168)) := K4.out.alloc (by have := hb1.size; omega) _
          exact ⟨hgrow.os.trans hb2.os, hgrow.tape.trans hb2.tape, hgrow.output.trans hb2.output, Nat.le_trans hb2.size hgrow.size, fun i hi' => by rw [hnb i (by have := hb1.size; omega), K4.out.block i hi']⟩
        have hs3 : w1.heap.size ≤ w3.heap.size := by simp at hgs; omega
        have hrow3 : Hid (Row w3 g l') := by
          obtain ⟨sp, h⟩ := K1.out
          exact ⟨sp, by rw [hnb g hgl, h]⟩
        rw [show (List.map (fun x : Nat => Value.int .u32 (x : Int)) rs ++ [Value.int .u32 (r : Int)]) = (rs ++ [r]).map (fun x : Nat => Value.int .u32 (x : Int)) from by simp, show rs.length + 1 = (rs ++ [r]).length from by simp] at hown1
        have HO1 := hideIt hown1
        clear hown1 hgrow hnil hnb hgs
        have hnl : (l'.take n).length = n := by rw [List.length_take]; omega
        have htrim := trim_some g 0 cap (l'.take n) w3 (by omega) hcm (hrow3.out.seg.pre n)
        rw [hnl] at htrim
        refine htrim.mono ?_
        rintro e w4 ⟨rfl, hw4⟩
        have hw5 := hw4.symm; subst hw5; clear hw4 htrim
        have hsl := sig_le (l'.take n)
        have hst : l'.take (sig (l'.take n)) = strip (l'.take n) := by
          unfold strip; rw [List.take_take, Nat.min_eq_left (by omega)]
        have hvn : val (l'.take (sig (l'.take n))) = val (l.take n) / 1000000000 := by rw [hst, val_strip, K3.out]
        have HST := hideIt hst
        have HVN := hideIt hvn
        clear hst hvn
        generalize sig (l'.take n) = m at *
        go_wp2
        go_roundg (val (l.take n) / 1000000000)
        case measure =>
          have := hApos.out
          omega
        case rel =>
          refine ⟨l', m, rs ++ [r], rfl, by omega, by omega, hrow3.out, K2.out, by rw [HST.out]; exact strip_trim _, by rw [HVN.out]; exact Nat.le_refl _, ?_, ?_, ?_, HO1.out, hb3.out, hs3, ?_⟩
          · intro x hx
            rcases List.mem_append.1 hx with hx | hx
            · exact H4.out x hx
            · rw [List.mem_singleton.1 hx]; exact hr9
          · rw [HVN.out, K0.out]; exact rv_round H5.out
          · intro h0'
            right
            rw [HVN.out] at h0'
            rw [List.getLast?_concat]
            have := hApos.out
            have := K0.out
            intro e
            cases e
            omega
          · rw [List.length_append, List.length_singleton]
            have := hle2.out
            omega
end Go.Proofs.YtgajdmadbdbabaaGreatDoor
/- TF -/
namespace Go.Proofs.YtgajdmadbdbabaaGreatDoor
open Go.RowKit Cx Go.Sort
def Tab (w : World) : Prop := Lib.TabIs Tryz.prog w "internal/strconv.uint64pow10" .u64 Lib.pow10Tab
theorem Tab.below {w w' : World} (h : Tab w) (hb : Below w.heap.size w w') : Tab w' := by
  unfold Tab Lib.TabIs World.var? at *
  cases hg : (Tryz.prog).globalNamed "internal/strconv.uint64pow10" with
  | none => simp [hg] at h
  | some g =>
    simp only [hg, Option.bind_some] at h ⊢
    have hlt : g < w.heap.size := by
      rcases Nat.lt_or_ge g w.heap.size with h' | h'
      · exact h'
      · rw [Array.getElem?_eq_none h'] at h; simp at h
    rw [hb.block g hlt]
    exact h
theorem holds0 (w : World) (T : TypeId) (nd : Nat) (hs : nd ≤ 24) : Holds (fun (b : UInt8) => Value.int .u8 (b.toNat : Int)) (w.alloc (.cells Lib.zeros24 T)) w.heap.size 0 (Array.replicate nd (0 : UInt8)) := fun j hj => by
  have hj' : j < nd := by simpa using hj
  refine ⟨?_, World.frozen?_alloc_new _ _ _ _⟩
  rw [World.cell?_alloc_new, Lib.zeros24_at _ (by omega), getElem!_pos _ j hj]
  simp
theorem fmt_small (u : Nat) (hu : u < 100) (w : World) :
    Calls Tryz.prog 205 #[.int .u64 u, .int .i64 10] w fun e w' => e = .returned (.string ⟨(Lib.decDigits u).toArray⟩) ∧ Below w.heap.size w w' := by
  go_enter Tryz.func205, Tryz.ntmps205
  go_wp2_with fail
  refine (Tryz.internal_strconv_small u hu _).mono ?_
  rintro e w' ⟨rfl, hw⟩
  have hw2 := hw.symm; subst hw2; clear hw
  go_wp2
  go_ret
  exact ⟨rfl, Below.refl _ _⟩
theorem fmt_big (u : Nat) (hu : 100 ≤ u) (hu2 : u < 4294967296) (w : World) (ht : Tab w) :
    Calls Tryz.prog 205 #[.int .u64 u, .int .i64 10] w fun e w' => e = .returned (.string ⟨(Lib.decDigits u).toArray⟩) ∧ Below w.heap.size w w' := by
  have hu64 : u < 18446744073709551616 := by omega
  have hnd20 : Lib.nDigits u ≤ 20 := by have := Lib.numDigits_eq u (by omega) hu64; split at this <;> omega
  have hal : (Tryz.prog).arrayLen 237 = 24 := by simp [Program.arrayLen, Tryz.underlying237]
  have hsl1 : ∀ W, (Instr.sliceAt 237 (.pointer (some ⟨w.heap.size, 0, none⟩)) none (some (.int .i64 (Lib.nDigits u : Int))) none).run Tryz.prog W = .ok (.slice (some ⟨w.heap.size, 0, none⟩) (Lib.nDigits u) 24) W := fun W => by
    rw [run_sliceAt_array_h W 237 ⟨w.heap.size, 0, none⟩ (by simp [Program.arrayLen, Program.elem, Tryz.underlying237]) .i64 (Lib.nDigits u : Int) (by omega) (by rw [hal]; omega)]
    go_simp
  have hH0 := holds0 w 237 (Lib.nDigits u) (by omega)
  have hfmt := Tryz.internal_strconv_formatBase10 w.heap.size 0 24 u (Array.replicate (Lib.nDigits u) 0) (w.alloc (.cells Lib.zeros24 237)) hH0 (by rw [Array.size_replicate]; exact Lib.lt_pow_nDigits u) hu64 (by rw [Array.size_replicate]; omega)
  rw [Array.size_replicate] at hfmt
  have HH0 := hideIt hH0
  have HT := hideIt (Lib.tabIs_alloc ht (.cells Lib.zeros24 237))
  have HF := hideIt hfmt
  clear hH0 hal ht hfmt
  go_enter Tryz.func205, Tryz.ntmps205
  go_wp2_with fail
  refine (Tryz.internal_strconv_numDigits u (by omega) hu64 _ HT.out).mono ?_
  rintro e w' ⟨rfl, hw⟩
  have hw2 := hw.symm; subst hw2; clear hw
  go_wp2_with fail
  refine Calls.mono HF.out ?_
  rintro e w' ⟨rfl, k, v', dk, hw, hF⟩
  have hw2 := hw.symm; subst hw2; clear hw
  have hcv : (convert 176 9 (.slice (some ⟨w.heap.size, 0, none⟩) (Lib.nDigits u) 24)).run Tryz.prog ((putRow (fun (b : UInt8) => Value.int .u8 (b.toNat : Int)) (w.alloc (.cells Lib.zeros24 237)) w.heap.size 0 dk).drewN k) = .ok (.string ⟨(Lib.decDigits u).toArray⟩) ((putRow (fun (b : UInt8) => Value.int .u8 (b.toNat : Int)) (w.alloc (.cells Lib.zeros24 237)) w.heap.size 0 dk).drewN k) := by
    have h := run_convert_bytes_back (P := Tryz.prog) ((putRow (fun (b : UInt8) => Value.int .u8 (b.toNat : Int)) (w.alloc (.cells Lib.zeros24 237)) w.heap.size 0 dk).drewN k) 176 9 5 ⟨w.heap.size, 0, none⟩ 24 (Lib.decDigits u) Tryz.underlying176 Tryz.underlying5 Tryz.underlying9 (fun j hj => by
      rw [Lib.row_is_numeral hF j hj, Lib.add_plain, World.cell?_drewN]
      exact cell?_putRow (fun (b : UInt8) => Value.int .u8 (b.toNat : Int)) _ w.heap.size 0 _ dk HH0.out (by rw [hF.size, Array.size_replicate]) j (by rw [hF.size]; rw [Lib.decDigits_length] at hj; exact hj))
    rw [Lib.decDigits_length] at h
    exact h
  go_wp2
  go_ret
  refine ⟨rfl, ?_⟩
  obtain ⟨os, _, e⟩ := putRow_grow_new (fun (b : UInt8) => Value.int .u8 (b.toNat : Int)) w #[.cells Lib.zeros24 237] w.heap.size 0 dk (Nat.le_refl _)
  rw [alloc_eq_grow, e]
  refine belowDrewN ?_ k
  refine ⟨rfl, rfl, rfl, ?_, ?_⟩
  · simp [grow]
  · intro i hi
    simp [grow, Array.getElem?_append_left hi]
theorem fmt_calls (u : Nat) (hu : u < 4294967296) (w : World) (ht : Tab w) :
    Calls Tryz.prog 163 #[.int .u64 u, .int .i64 10] w fun e w' => e = .returned (.string ⟨(Lib.decDigits u).toArray⟩) ∧ Below w.heap.size w w' := by
  have h : Calls Tryz.prog 205 #[.int .u64 u, .int .i64 10] w fun e w' => e = .returned (.string ⟨(Lib.decDigits u).toArray⟩) ∧ Below w.heap.size w w' := by
    rcases Nat.lt_or_ge u 100 with h | h
    · exact fmt_small u h w
    · exact fmt_big u h hu w ht
  have H := hideIt h
  clear h ht
  go_enter Tryz.func163, Tryz.ntmps163
  go_wp2_with fail
  refine Calls.mono H.out ?_
  rintro e w' ⟨rfl, hb⟩
  go_wp2
  go_ret
  exact ⟨rfl, hb⟩
def Bld (B b : Nat) (l : List UInt8) (w : World) : Prop := Lib.IsBuilderF 178 5 B b (Lib.byteCells l) w
theorem bld_write (B b : Nat) (l : List UInt8) (s : ByteArray) (w : World) (h : Bld B b l w) (hlen : l.length + s.size ≤ 140737488355328) (hBw : B ≤ w.heap.size) :
    Calls Tryz.prog 164 #[.pointer (some ⟨b, 0, none⟩), .string s] w fun e w' => e = .returned (.tuple #[.int .i64 s.size, .nilIface]) ∧ Bld B b (l ++ s.data.toList) w' ∧ Below B w w' := by
  refine (Any.Builder_WriteString_k { Tryz.lays105 with } Tryz.Builder_Extra_105 B b (Lib.byteCells l) s w h (by rw [Lib.byteCells_length]; exact hlen) hBw).mono ?_
  rintro e w' ⟨rfl, h1, h2, _⟩
  refine ⟨rfl, Or.inr ?_, h2⟩
  have e1 : Lib.byteCells l ++ Lib.strCells s = Lib.byteCells (l ++ s.data.toList) := by rw [Lib.strCells_eq]; simp [Lib.byteCells]
  rw [e1] at h1
  exact h1
theorem bld_string (B b : Nat) (l : List UInt8) (w : World) (h : Bld B b l w) (hBw : B ≤ w.heap.size) :
    Calls Tryz.prog 166 #[.pointer (some ⟨b, 0, none⟩)] w fun e w' => e = .returned (.string ⟨l.toArray⟩) ∧ Below B w w' := by
  refine (Tryz.Builder_String_any_f B b l w h hBw).mono ?_
  rintro e w' ⟨rfl, _, h2⟩
  exact ⟨rfl, h2⟩
theorem bld_new (w : World) : Bld w.heap.size w.heap.size [] (w.alloc (.cells #[.pointer none, .slice none 0 0] 178)) := by
  refine Or.inl ⟨Nat.le_refl _, .slice none 0 0, ?_, ⟨rfl, Or.inl ⟨rfl, rfl⟩⟩, ?_⟩
  · show (w.heap.push _)[w.heap.size]? = _
    simp
  · simp [Value.ownBlock]
theorem Bld.below {B b : Nat} {l : List UInt8} {w w' : World} (h : Bld B b l w) (hb : Below w.heap.size w w') : Bld B b l w' := by
  have one : ∀ p, Lib.BuilderAtF 178 5 B b p (Lib.byteCells l) w → Lib.BuilderAtF 178 5 B b p (Lib.byteCells l) w' := by
    rintro p ⟨h1, v, h2, h3, h4⟩
    have lt : ∀ {g : Nat} {o : Obj}, w.heap[g]? = some o → g < w.heap.size := by
      intro g o e
      by_cases e' : g < w.heap.size
      · exact e'
      · rw [Array.getElem?_eq_none (by omega)] at e; cases e
    refine ⟨h1, v, by rw [hb.block b (lt h2), h2], ⟨h3.1, ?_⟩, h4⟩
    rcases h3.2 with h | ⟨g', cap, cur, fz, rfl, h5, h6, h7⟩
    · exact Or.inl h
    · exact Or.inr ⟨g', cap, cur, fz, rfl, h5, by rw [hb.block g' (lt h6), h6], h7⟩
  rcases h with h | h
  · exact Or.inl (one _ h)
  · exact Or.inr (one _ h)
end Go.Proofs.YtgajdmadbdbabaaGreatDoor
/- TG -/
namespace Go.Proofs.YtgajdmadbdbabaaGreatDoor
open Go.RowKit Cx
def bytesFrom (rs : List Nat) (k : Nat) : List UInt8 := if k = rs.length then [] else Lib.decDigits (rv (rs.drop k))
theorem rv_pos {rs : List Nat} (h : Runs rs) {k : Nat} (hk : k < rs.length) : 0 < rv (rs.drop k) := by
  have h1 : rs.drop k ≠ [] := by
    intro e
    have := congrArg List.length e
    rw [List.length_drop] at this
    simp at this
    omega
  obtain ⟨a, x, e⟩ : ∃ a x, rs.drop k = a ++ [x] := ⟨_, _, (List.dropLast_concat_getLast h1).symm⟩
  have hx : rs.getLast? = some x := by
    have e2 : rs = rs.take k ++ (a ++ [x]) := by rw [← e, List.take_append_drop]
    rw [e2, ← List.append_assoc, List.getLast?_concat]
  have hx0 : x ≠ 0 := by
    intro e0
    rcases h.top with h2 | h2
    · rw [h2] at hk; simp at hk
    · exact h2 (by rw [hx, e0])
  rw [e, rv_snoc]
  have : 0 < 1000000000 ^ a.length * x := Nat.mul_pos (Nat.pow_pos (by decide)) (Nat.pos_of_ne_zero hx0)
  omega
theorem runs_lt {rs : List Nat} (h : Runs rs) {m : Nat} (hm : m < rs.length) : nth rs m < 1000000000 := by
  rw [nth_get hm]; exact h.lt _ (List.getElem_mem hm)
theorem nd9 {x : Nat} (h : x < 1000000000) : Lib.nDigits x ≤ 9 := by
  rcases Nat.lt_or_ge 9 (Lib.nDigits x) with h9 | h9
  · have h1 : ∀ (k u : Nat), k < Lib.nDigits u → 10 ^ k ≤ u ∨ u = 0 ∨ k = 0 := by
      intro k
      induction k with
      | zero => intro u _; exact Or.inr (Or.inr rfl)
      | succ k ih =>
        intro u hu
        by_cases h10 : u < 10
        · rw [Lib.nDigits_small h10] at hu; omega
        · rw [Lib.nDigits_big h10] at hu
          rcases ih (u / 10) (by omega) with h | h | h
          · left; rw [Nat.pow_succ]; omega
          · omega
          · subst h; left; omega
    rcases h1 9 x h9 with h | h | h
    · omega
    · subst h; rw [Lib.nDigits_small (by decide)] at h9; omega
    · omega
  · exact h9
theorem bytes_first {rs : List Nat} {m : Nat} (hm : m + 1 = rs.length) : bytesFrom rs (m + 1) ++ Lib.decDigits (nth rs m) = bytesFrom rs m := by
  unfold bytesFrom
  rw [if_pos hm, if_neg (by omega), List.nil_append]
  have e : rs.drop m = [nth rs m] := by
    rw [List.drop_eq_getElem_cons (by omega), nth_get (by omega)]
    rw [List.drop_eq_nil_of_le (by omega)]
  rw [e]
  simp [rv]
theorem bytes_next {rs : List Nat} (h : Runs rs) {m : Nat} (hm : m + 1 < rs.length) : bytesFrom rs (m + 1) ++ List.replicate (9 - Lib.nDigits (nth rs m)) 48 ++ Lib.decDigits (nth rs m) = bytesFrom rs m := by
  unfold bytesFrom
  rw [if_neg (by omega), if_neg (by omega)]
  have e : rs.drop m = nth rs m :: rs.drop (m + 1) := by
    rw [List.drop_eq_getElem_cons (by omega), nth_get (by omega)]
  have h9 := runs_lt h (m := m) (by omega)
  have := dec_pad 9 (rv (rs.drop (m + 1))) (nth rs m) (rv_pos h hm) h9
  rw [e, rv, this, padk_dec 9 _ (nd9 h9), Lib.decDigits_length, List.append_assoc]
theorem repeat_zero (c : Nat) : (Lib.repeatL [48] c) = List.replicate c 48 := by
  induction c with
  | zero => rfl
  | succ c ih => rw [Lib.repeatL, ih, List.replicate_succ]; rfl
theorem natText_walk {w : World} {v : Value} {l0 : List Nat} (h : NatV w v l0) (ht : Trim l0) (hl : l0.length ≤ 1099511627770) (tab : Tab w) :
    Calls Tryz.prog 124 #[v] w fun e w' => Below w.heap.size w w' ∧ ∃ s : ByteArray, e = .returned (.string s) ∧ s.data.toList = Lib.decDigits (val l0) := by
  have HV := hideIt h
  have HT := hideIt ht
  have HTAB := hideIt tab
  clear h ht tab
  go_enter Tryz.func124, Tryz.ntmps124
  go_wp2_with fail
  refine (runs_walk HV.out HT.out hl).mono ?_
  rintro e w1 ⟨hb1, v', rs, rfl, hrs, hruns, hval, hlen⟩
  have htab1 := hideIt (HTAB.out.below hb1)
  have HR := hideIt hruns
  have HVAL := hideIt hval
  have HB1 := hideIt hb1
  have HRS := hideIt hrs
  have hvs : ∃ ao cap, v' = .slice ao rs.length cap := by
    obtain ⟨_, ⟨rfl, ao, cap, rfl⟩ | ⟨b, off, cap, rfl, _⟩⟩ := hrs
    · exact ⟨ao, cap, rfl⟩
    · exact ⟨_, cap, rfl⟩
  obtain ⟨ao, cap, rfl⟩ := hvs
  clear hrs hruns hval hb1 HTAB
  by_cases h0 : rs.length = 0
  · rw [h0]
    go_wp2
    go_ret
    have : rs = [] := List.length_eq_zero_iff.1 h0
    subst this
    refine ⟨HB1.out, _, rfl, ?_⟩
    rw [← HVAL.out, show rv [] = 0 from rfl, dec_small (by decide)]
    rfl
  · have hne : ((rs.length : Int) == 0) = false := by rw [beq_eq_false_iff_ne]; omega
    have hbN := hideIt (bld_new w1)
    obtain ⟨ao', cap', b1, o1, e, hsl⟩ := HRS.out.sl Tryz.underlying81 Tryz.sizeOf168
    cases e
    have HSL := hideIt hsl
    clear hsl
    go_wp2
    go_loopw [5] (fun i wr => ∃ k : Nat, k ≤ rs.length ∧ i = .int .i64 ((k : Int) - 1) ∧ Bld w1.heap.size w1.heap.size (bytesFrom rs k) wr ∧ (bytesFrom rs k).length ≤ 9 * (rs.length - k) ∧ Below w1.heap.size w1 wr) (fun i _ => (intOf i + 1).toNat)
    case atStart =>
      refine ⟨rs.length, Nat.le_refl _, rfl, ?_, ?_, below_new _ _⟩
      · unfold bytesFrom; rw [if_pos rfl]; exact hbN.out
      · unfold bytesFrom; rw [if_pos rfl]; simp
    case round =>
      obtain ⟨k, hk, rfl, hbld, hbl, hbel⟩ := hrel
      have HBLD := hideIt hbld
      have hsz := hideIt hbel.size
      clear hbld
      by_cases hk0 : k = 0
      · subst hk0
        go_wp2_with fail
        refine (bld_string _ _ _ _ HBLD.out hsz.out).mono ?_
        rintro e w5 ⟨rfl, hb5⟩
        go_wp2
        go_ret
        refine ⟨HB1.out.trans ((hbel.trans hb5).mono HB1.out.size), _, rfl, ?_⟩
        unfold bytesFrom
        rw [if_neg (by omega), List.drop_zero, HVAL.out]
      · obtain ⟨m, rfl⟩ : ∃ m, k = m + 1 := ⟨k - 1, by omega⟩
        rw [show (((m + 1 : Nat) : Int) - 1) = (m : Int) from by omega]
        have hia := HSL.out.idx m (by omega)
        have hca := (hbel.cell (p := ⟨b1, o1 + m, none⟩) (HSL.out.lt (by omega))).trans (HSL.out.seg m (by omega))
        have hx9 := runs_lt HR.out (m := m) (by omega)
        have hd9 := nd9 hx9
        have HN1 := hideIt (fun h => bytes_first (rs := rs) (m := m) h)
        have HN2 := hideIt (fun h => bytes_next HR.out (m := m) h)
        generalize nth rs m = x at *
        go_wp2_with fail
        refine (fmt_calls x (by omega) _ (htab1.out.below hbel)).mono ?_
        rintro e w2 ⟨rfl, hb2⟩
        have hts : (⟨(Lib.decDigits x).toArray⟩ : ByteArray).size = Lib.nDigits x := by
          show (Lib.decDigits x).toArray.size = _
          rw [List.size_toArray, Lib.decDigits_length]
        obtain ⟨t, ht, htl, hts⟩ : ∃ t : ByteArray, (⟨(Lib.decDigits x).toArray⟩ : ByteArray) = t ∧ Hid (t.data.toList = Lib.decDigits x) ∧ t.size = Lib.nDigits x := ⟨_, rfl, rfl, hts⟩
        rw [ht]
        clear ht
        have hbel2 := hbel.trans (hb2.mono hsz.out)
        have HBLD2 := hideIt (HBLD.out.below hb2)
        have hsz2 := hideIt hbel2.size
        by_cases hlast : m + 1 = rs.length
        · have hcond : ¬ (m : Int) < (rs.length : Int) - 1 := by omega
          go_wp2_with fail
          refine (bld_write _ _ _ t _ HBLD2.out (by omega) hsz2.out).mono ?_
          rintro e w3 ⟨rfl, hbld3, hb3⟩
          have HBLD3 := hideIt hbld3
          clear hbld3
          go_wp2
          go_roundw
          case rel =>
            have e := HN1.out hlast
            refine ⟨m, by omega, by go_num, ?_, ?_, hbel2.trans hb3⟩
            · rw [← e, ← htl.out]; exact HBLD3.out
            · rw [← e, List.length_append, Lib.decDigits_length]; omega
          case measure => simp [intOf]
        · have hcond : (m : Int) < (rs.length : Int) - 1 := by omega
          have hd : (9 : Int) - (Lib.nDigits x : Nat) = ((9 - Lib.nDigits x : Nat) : Int) := by omega
          have hzs : (⟨(Lib.repeatL (⟨#[48]⟩ : ByteArray).data.toList (9 - Lib.nDigits x)).toArray⟩ : ByteArray).size = 9 - Lib.nDigits x := by
            show (Lib.repeatL [48] (9 - Lib.nDigits x)).toArray.size = _
            rw [List.size_toArray, repeat_zero, List.length_replicate]
          go_wp2_with fail
          refine (Tryz.strings_Repeat ⟨#[48]⟩ (9 - Lib.nDigits x) w2 (by omega) (by
            show 1 * (9 - Lib.nDigits x) ≤ 140737488355328
            omega)).mono ?_
          rintro e w3 ⟨rfl, hb3⟩
          obtain ⟨z, hz, hzl, hzs⟩ : ∃ z : ByteArray, (⟨(Lib.repeatL (⟨#[48]⟩ : ByteArray).data.toList (9 - Lib.nDigits x)).toArray⟩ : ByteArray) = z ∧ Hid (z.data.toList = List.replicate (9 - Lib.nDigits x) 48) ∧ z.size = 9 - Lib.nDigits x := ⟨_, rfl, repeat_zero _, hzs⟩
          rw [hz]
          clear hz
          have hbel3 := hbel2.trans (hb3.mono hsz2.out)
          have HBLD3 := hideIt (HBLD2.out.below hb3)
          have hsz3 := hideIt hbel3.size
          go_wp2_with fail
          refine (bld_write _ _ _ z _ HBLD3.out (by omega) hsz3.out).mono ?_
          rintro e w4 ⟨rfl, hbld4, hb4⟩
          have HBLD4 := hideIt hbld4
          clear hbld4
          have hbel4 := hbel3.trans hb4
          have hsz4 := hideIt hbel4.size
          go_wp2_with fail
          refine (bld_write _ _ _ t _ HBLD4.out (by rw [List.length_append, hzl.out, List.length_replicate]; omega) hsz4.out).mono ?_
          rintro e w5 ⟨rfl, hbld5, hb5⟩
          have HBLD5 := hideIt hbld5
          clear hbld5
          go_wp2
          go_roundw
          case rel =>
            have e := HN2.out (by omega)
            refine ⟨m, by omega, by go_num, ?_, ?_, hbel4.trans hb5⟩
            · rw [← e, ← htl.out, ← hzl.out]; exact HBLD5.out
            · rw [← e, List.length_append, List.length_append, Lib.decDigits_length, List.length_replicate]; omega
          case measure => simp [intOf]
theorem natText_calls {w : World} {v : Value} {n : Nat} (h : NatN w v n) (hs : Small n) (tab : Tab w) :
    Calls Tryz.prog 124 #[v] w fun e w' => Below w.heap.size w w' ∧ ∃ s : ByteArray, e = .returned (.string s) ∧ s.data.toList = Lib.decDigits n := by
  obtain ⟨l, hl, ht, rfl⟩ := h
  exact natText_walk hl ht (hs.len0 ht) tab
end Go.Proofs.YtgajdmadbdbabaaGreatDoor
/- TH -/
namespace Go.Proofs.YtgajdmadbdbabaaGreatDoor
open Go.RowKit Cx
attribute [local go_sem ↓] Go.wp_at_zero Go.wp_at_succ
theorem text_walk {w : World} {c : C3} {q : Rat} (h : QV w (.agg #[.bool c.n, .slice c.u c.nu c.cu, .slice c.l c.nl c.cl]) q) {k : Nat} (f : QS k q) (hk : k ≤ 35184372088640) (tab : Tab w) :
    Calls Tryz.prog 78 #[.agg #[.bool c.n, .slice c.u c.nu c.cu, .slice c.l c.nl c.cl]] w fun e w' => Below w.heap.size w w' ∧ ∃ s : ByteArray, e = .returned (.string s) ∧ s.data.toList = tx q := by
  obtain ⟨hb0, hk0, hsz⟩ := boxes1 w #[.bool c.n, .slice c.u c.nu c.cu, .slice c.l c.nl c.cl] 84
  have HB0 := hideIt hb0
  have HSZ := hideIt hsz
  have HK0 := hideIt hk0
  have HTAB := hideIt (tab.below hb0)
  have SU := hideIt (small_two f.num hk)
  have SL := hideIt (small_two f.den hk)
  have N1 := hideIt (nDigits_two f.num)
  have N2 := hideIt (nDigits_two f.den)
  obtain ⟨vu, vl, e, h1, h2⟩ := h
  have H1 := hideIt (h1.below hb0)
  have H2 := hideIt (h2.below hb0)
  obtain ⟨a2, n2, c2, e2, _, _, hz⟩ := len_big h2
  have hn : c.n = decide (q.num < 0) ∧ vu = .slice c.u c.nu c.cu ∧ vl = .slice c.l c.nl c.cl := by
    simp only [Value.agg.injEq, Array.mk.injEq, List.cons.injEq, Value.bool.injEq, and_true] at e
    exact ⟨e.1, e.2.1.symm, e.2.2.symm⟩
  obtain ⟨hn, rfl, rfl⟩ := hn
  cases e2
  clear e hb0 hsz hk0 tab f h1 h2
  obtain ⟨z0, z1, z2, _, _, _⟩ := HK0.out.all3
  have HN := hideIt hn
  have hlow : Hid (c.nl = 0 ↔ q.den = 1) := by
    show _ ↔ _
    rw [hz]
    split
    · rename_i h; simp [h]
    · rename_i h; have := q.den_nz; simp [h, this]
  clear hz hn
  go_enter Tryz.func78, Tryz.ntmps78
  go_wp2_with fail
  generalize (w.alloc (.cells #[.bool c.n, .slice c.u c.nu c.cu, .slice c.l c.nl c.cl] 84)) = W0 at *
  refine (natText_calls H1.out SU.out HTAB.out).mono ?_
  rintro e w1 ⟨hb1, s1, rfl, hs1⟩
  have hl1 : s1.size ≤ k + 1 := by
    have h := congrArg List.length hs1
    rw [Lib.decDigits_length] at h
    have h' : s1.size = s1.data.toList.length := by simp
    have := N1.out
    omega
  have HS1 := hideIt hs1
  clear hs1
  have hk1 := HK0.out.below hb1 (by rw [HSZ.out]; omega)
  obtain ⟨y0, y1, y2, _, _, _⟩ := hk1.all3
  have hcn : c.n = true ∨ c.n = false := by cases c.n <;> simp
  have hcl : c.nl = 0 ∨ ((c.nl : Int) != 0) = true := by
    rcases Nat.eq_zero_or_pos c.nl with h | h
    · exact Or.inl h
    · right; simp; omega
  rcases hcn with hcn | hcn
  · have hq : Hid (q.num < 0) := by have h := HN.out; rw [hcn] at h; show q.num < 0; exact of_decide_eq_true h.symm
    rw [hcn] at y0
    rcases hcl with hcl | hcl
    · have hd : Hid (q.den = 1) := hlow.out.1 hcl
      rw [hcl] at y2
      go_wp2
      go_ret
      refine ⟨HB0.out.trans (hb1.mono HB0.out.size), _, rfl, ?_⟩
      unfold tx
      rw [if_pos hq.out, if_pos hd.out, List.append_nil, ← HS1.out]
      simp
    · have hd : Hid (¬ q.den = 1) := fun e => by have := hlow.out.2 e; rw [this] at hcl; simp at hcl
      have h2 := H2.out
      rw [if_neg hd.out] at h2
      have H2' := hideIt h2
      clear h2
      go_wp2_with fail
      refine (natText_calls (H2'.out.below hb1) SL.out (HTAB.out.below hb1)).mono ?_
      rintro e w2 ⟨hb2, s2, rfl, hs2⟩
      have hl2 : s2.size ≤ k + 1 := by
        have h := congrArg List.length hs2
        rw [Lib.decDigits_length] at h
        have h' : s2.size = s2.data.toList.length := by simp
        have := N2.out
        omega
      have HS2 := hideIt hs2
      clear hs2
      go_wp2
      go_ret
      refine ⟨HB0.out.trans ((hb1.trans (hb2.mono hb1.size)).mono HB0.out.size), _, rfl, ?_⟩
      unfold tx
      rw [if_pos hq.out, if_neg hd.out, ← HS1.out, ← HS2.out]
      simp
  · have hq : Hid (¬ q.num < 0) := by have h := HN.out; rw [hcn] at h; show ¬ q.num < 0; exact of_decide_eq_false h.symm
    rw [hcn] at y0
    rcases hcl with hcl | hcl
    · have hd : Hid (q.den = 1) := hlow.out.1 hcl
      rw [hcl] at y2
      go_wp2
      go_ret
      refine ⟨HB0.out.trans (hb1.mono HB0.out.size), _, rfl, ?_⟩
      unfold tx
      rw [if_neg (Int.not_lt.2 hq.out), if_pos hd.out, List.append_nil, ← HS1.out]
      rfl
    · have hd : Hid (¬ q.den = 1) := fun e => by have := hlow.out.2 e; rw [this] at hcl; simp at hcl
      have h2 := H2.out
      rw [if_neg hd.out] at h2
      have H2' := hideIt h2
      clear h2
      go_wp2_with fail
      refine (natText_calls (H2'.out.below hb1) SL.out (HTAB.out.below hb1)).mono ?_
      rintro e w2 ⟨hb2, s2, rfl, hs2⟩
      have hl2 : s2.size ≤ k + 1 := by
        have h := congrArg List.length hs2
        rw [Lib.decDigits_length] at h
        have h' : s2.size = s2.data.toList.length := by simp
        have := N2.out
        omega
      have HS2 := hideIt hs2
      clear hs2
      go_wp2
      go_ret
      refine ⟨HB0.out.trans ((hb1.trans (hb2.mono hb1.size)).mono HB0.out.size), _, rfl, ?_⟩
      unfold tx
      rw [if_neg (Int.not_lt.2 hq.out), if_neg hd.out, ← HS1.out, ← HS2.out]
      simp
theorem text_calls {w : World} {v : Value} {q : Rat} (h : QV w v q) {k : Nat} (f : QS k q) (hk : k ≤ 35184372088640) (tab : Tab w) :
    Calls Tryz.prog 78 #[v] w fun e w' => Below w.heap.size w w' ∧ ∃ s : ByteArray, e = .returned (.string s) ∧ s.data.toList = tx q := by
  obtain ⟨c, rfl⟩ := qv_open h
  exact text_walk h f hk tab
end Go.Proofs.YtgajdmadbdbabaaGreatDoor
/- WG -/
namespace Go.Proofs.YtgajdmadbdbabaaGreatDoor
open Go.RowKit Cx
attribute [local go_sem ↓] Go.wp_at_zero Go.wp_at_succ
theorem sg_zero {q : Rat} : (q.num = 0) ↔ q = 0 := Rat.num_eq_zero
theorem nowhere_walk {w : World} {c d : C3} {x y : Rat} (hx : QV w (.agg #[.bool c.n, .slice c.u c.nu c.cu, .slice c.l c.nl c.cl]) x) (hy : QV w (.agg #[.bool d.n, .slice d.u d.nu d.cu, .slice d.l d.nl d.cl]) y) :
    Calls Tryz.prog 105 #[.agg #[.bool c.n, .slice c.u c.nu c.cu, .slice c.l c.nl c.cl, .bool d.n, .slice d.u d.nu d.cu, .slice d.l d.nl d.cl]] w fun e w' => Below w.heap.size w w' ∧ e = .returned (.bool (decide (x = 0 ∧ y = 0))) := by
  obtain ⟨hb0, hk0, hsz⟩ := boxes1 w #[.bool c.n, .slice c.u c.nu c.cu, .slice c.l c.nl c.cl, .bool d.n, .slice d.u d.nu d.cu, .slice d.l d.nl d.cl] 86
  have HB0 := hideIt hb0
  have HSZ := hideIt hsz
  have HK0 := hideIt hk0
  have HX := hideIt (hx.below hb0)
  have HY := hideIt (hy.below hb0)
  clear hb0 hsz hk0 hx hy
  obtain ⟨r, hr⟩ : ∃ r, r = decide (x = 0 ∧ y = 0) := ⟨_, rfl⟩
  rw [← hr]
  have HRR := hideIt hr
  clear hr
  go_enter Tryz.func105, Tryz.ntmps105
  go_wp2_with fail
  generalize (w.alloc (.cells #[.bool c.n, .slice c.u c.nu c.cu, .slice c.l c.nl c.cl, .bool d.n, .slice d.u d.nu d.cu, .slice d.l d.nl d.cl] 86)) = W0 at *
  refine (sign_calls HX.out).mono ?_
  rintro e w1 ⟨hb1, rfl⟩
  have hk1 := HK0.out.below hb1 (by rw [HSZ.out]; omega)
  obtain ⟨y0, y1, y2, y3, y4, y5, _⟩ := hk1.all6
  by_cases h1 : x = 0
  · rw [if_pos (sg_zero.2 h1)]
    have HX1 := hideIt h1
    clear h1
    go_wp2_with fail
    refine (sign_calls (HY.out.below hb1)).mono ?_
    rintro e w2 ⟨hb2, rfl⟩
    by_cases h2 : y = 0
    · rw [if_pos (sg_zero.2 h2)]
      have HX2 := hideIt h2
      clear h2
      go_wp2
      go_ret
      exact ⟨HB0.out.trans ((hb1.trans (hb2.mono hb1.size)).mono HB0.out.size), by rw [HRR.out, decide_eq_true (And.intro HX1.out HX2.out)]; rfl⟩
    · rw [if_neg (fun h => h2 (sg_zero.1 h))]
      have hne : ((if y.num < 0 then (-1 : Int) else 1) == 0) = false := by split <;> rfl
      generalize (if y.num < 0 then (-1 : Int) else 1) = z at *
      have HX2 := hideIt h2
      clear h2
      go_wp2
      go_ret
      exact ⟨HB0.out.trans ((hb1.trans (hb2.mono hb1.size)).mono HB0.out.size), by rw [HRR.out, decide_eq_false (fun h => HX2.out h.2)]; rfl⟩
  · rw [if_neg (fun h => h1 (sg_zero.1 h))]
    have hne : ((if x.num < 0 then (-1 : Int) else 1) == 0) = false := by split <;> rfl
    generalize (if x.num < 0 then (-1 : Int) else 1) = z at *
    have HX1 := hideIt h1
    clear h1
    go_wp2
    go_ret
    exact ⟨HB0.out.trans (hb1.mono HB0.out.size), by rw [HRR.out, decide_eq_false (fun h => HX1.out h.1)]; rfl⟩
theorem nowhere_calls {w : World} {v : Value} {x y : Rat} (h : WV w v x y) :
    Calls Tryz.prog 105 #[v] w fun e w' => Below w.heap.size w w' ∧ e = .returned (.bool (decide (x = 0 ∧ y = 0))) := by
  obtain ⟨c, d, rfl, h1, h2⟩ := h
  exact nowhere_walk h1 h2
theorem fr_nat (n : Nat) (hl : (1 : Nat) ≠ 0) (hc : Nat.Coprime n 1) : fr false n 1 hl hc = (n : Rat) := by
  have := fr_eq (neg := false) (u := n) (l := 1) (hl := hl) (hc := hc) (n := (n : Int)) (d := 1) (by decide) (by simp [sg])
  rw [this, Rat.mkRat_one]
  rfl
theorem int_calls (n : Nat) (hn : n < 9223372036854775808) (w : World) :
    Calls Tryz.prog 76 #[.int .i64 n] w fun e w' => Below w.heap.size w w' ∧ ∃ v, e = .returned v ∧ QV w' v (n : Rat) := by
  obtain ⟨hb0, hk0, hsz⟩ := boxes1 w #[.bool false, .slice none 0 0, .slice none 0 0] 84
  have HB0 := hideIt hb0
  have HSZ := hideIt hsz
  have HK0 := hideIt hk0
  clear hb0 hsz hk0
  go_enter Tryz.func76, Tryz.ntmps76
  go_wp2_with fail
  generalize (w.alloc (.cells #[.bool false, .slice none 0 0, .slice none 0 0] 84)) = W0 at *
  refine (natOf_calls n W0 (by omega)).mono ?_
  rintro e w1 ⟨hb1, v1, rfl, hv1⟩
  go_wp2_with fail
  refine (one_calls w1).mono ?_
  rintro e w2 ⟨hb2, v2, rfl, hv2⟩
  go_wp2_with fail
  refine (ready_calls (neg := false) (hv1.below hb2) hv2 (by decide) (Nat.coprime_one_right n)).mono ?_
  rintro e w3 ⟨hb3, v3, rfl, hv3⟩
  rw [fr_nat] at hv3
  obtain ⟨d3, rfl⟩ := qv_open hv3
  have hbl2 := hb1.trans (hb2.mono hb1.size)
  have hbl3 := hbl2.trans (hb3.mono hbl2.size)
  have hkr := HK0.out.below hbl3 (by rw [HSZ.out]; omega)
  obtain ⟨r0, r1, r2, f0, f1, f2⟩ := hkr.all3
  have HV := hideIt hv3
  clear hv1 hv2 hv3
  go_wp2
  obtain ⟨k0, k1, k2, _, _, _⟩ := (hkr.put3 (.bool d3.n) (.slice d3.u d3.nu d3.cu) (.slice d3.l d3.nl d3.cl)).all3
  refine bodyPost_ret (v := .agg #[.bool d3.n, .slice d3.u d3.nu d3.cu, .slice d3.l d3.nl d3.cl]) (by simp [results, Tryz.results76, go_sem, k0, k1, k2]) rfl ⟨Below.put3 (HB0.out.trans (hbl3.mono HB0.out.size)) (by omega) _ _ _, _, rfl, ?_⟩
  exact (Stays.put3 hkr (by simp [notLimb]) (.bool d3.n) (.slice d3.u d3.nu d3.cu) (.slice d3.l d3.nl d3.cl) rfl rfl rfl).qv HV.out
def PV (v : Value) (lx ly : List UInt8) : Prop := ∃ a b : ByteArray, v = .agg #[.string a, .string b] ∧ a.data.toList = lx ∧ b.data.toList = ly
def TV (v : Value) (lx ly lz : List UInt8) : Prop := ∃ a b c : ByteArray, v = .agg #[.string a, .string b, .string c] ∧ a.data.toList = lx ∧ b.data.toList = ly ∧ c.data.toList = lz
theorem wayRead_walk {w : World} {px pz : ByteArray} (s1 : px.size ≤ 4294967296) (s2 : pz.size ≤ 4294967296) :
    Calls Tryz.prog 62 #[.agg #[.string px, .string pz]] w fun e w' => Below w.heap.size w w' ∧ ∃ v, e = .returned v ∧ WV w' v (rd px.data.toList) (rd pz.data.toList) := by
  obtain ⟨hb0, hk0, hk1, hsz⟩ := boxes2 w #[.string px, .string pz] #[.bool false, .slice none 0 0, .slice none 0 0, .bool false, .slice none 0 0, .slice none 0 0] 24 86
  have HB0 := hideIt hb0
  have HSZ := hideIt hsz
  have HK0 := hideIt hk0
  have HK1 := hideIt hk1
  have S1 := hideIt s1
  have S2 := hideIt s2
  clear hb0 hsz hk0 hk1  s1 s2
  go_enter Tryz.func62, Tryz.ntmps62
  go_wp2_with fail
  generalize ((w.alloc (.cells #[.string px, .string pz] 24)).alloc (.cells #[.bool false, .slice none 0 0, .slice none 0 0, .bool false, .slice none 0 0, .slice none 0 0] 86)) = W0 at *
  have HS : Hid (∀ w', Below W0.heap.size W0 w' → w'.cell? ⟨w.heap.size, 0, none⟩ = some (.string px) ∧ w'.cell? ⟨w.heap.size, 1, none⟩ = some (.string pz)) := fun w' hb => ⟨(HK0.out.below hb (by rw [HSZ.out]; omega)).cell 0, (HK0.out.below hb (by rw [HSZ.out]; omega)).cell 1⟩
  have HSS : Hid (∀ w', Below W0.heap.size W0 w' → ∀ x0 x1 x2 x3 x4 x5 : Value, ((((((w'.setCell ⟨w.heap.size + 1, 0, none⟩ (x0)).setCell ⟨w.heap.size + 1, 1, none⟩ (x1)).setCell ⟨w.heap.size + 1, 2, none⟩ (x2)).setCell ⟨w.heap.size + 1, 3, none⟩ (x3)).setCell ⟨w.heap.size + 1, 4, none⟩ (x4)).setCell ⟨w.heap.size + 1, 5, none⟩ (x5)).cell? ⟨w.heap.size, 0, none⟩ = some (.string px) ∧ ((((((w'.setCell ⟨w.heap.size + 1, 0, none⟩ (x0)).setCell ⟨w.heap.size + 1, 1, none⟩ (x1)).setCell ⟨w.heap.size + 1, 2, none⟩ (x2)).setCell ⟨w.heap.size + 1, 3, none⟩ (x3)).setCell ⟨w.heap.size + 1, 4, none⟩ (x4)).setCell ⟨w.heap.size + 1, 5, none⟩ (x5)).cell? ⟨w.heap.size, 1, none⟩ = some (.string pz)) := fun w' hb x0 x1 x2 x3 x4 x5 => ⟨((HK0.out.below hb (by rw [HSZ.out]; omega)).off6 (g := w.heap.size + 1) (by omega) x0 x1 x2 x3 x4 x5).cell 0, ((HK0.out.below hb (by rw [HSZ.out]; omega)).off6 (g := w.heap.size + 1) (by omega) x0 x1 x2 x3 x4 x5).cell 1⟩
  obtain ⟨z0, z1⟩ := HS.out W0 (Below.refl _ _)
  go_region_held3 (fun w' => w'.cell? ⟨w.heap.size, 0, none⟩ = some (.string px) ∧ w'.cell? ⟨w.heap.size, 1, none⟩ = some (.string pz)) (first | go_keep | exact hs1 | exact hs2 | exact hkS)
    (first
      | (go_at_call_of 69 (Value.string px); refine (read_calls (w := W0.drew) px S1.out).mono ?_; rintro e w1 ⟨hb1, v1, rfl, hv1⟩; have hbl1 : Below W0.heap.size W0 w1 := (Below.drew (Below.refl _ W0)).trans hb1; obtain ⟨d1, rfl⟩ := qv_open hv1; have hs1 := HS.out w1 hbl1)
      | (go_at_call_of 69 (Value.string pz); refine (read_calls pz _ S2.out).mono ?_; rintro e w2 ⟨hb2, v2, rfl, hv2⟩; have hbl2 := hbl1.trans (hb2.mono hbl1.size); obtain ⟨d2, rfl⟩ := qv_open hv2; have hs2 := HS.out w2 hbl2; have hkr := HK1.out.below hbl2 (by rw [HSZ.out]; omega); obtain ⟨r0, r1, r2, r3, r4, r5, f0, f1, f2, f3, f4, f5⟩ := hkr.all6; have hkS := HSS.out w2 hbl2 (.bool d1.n) (.slice d1.u d1.nu d1.cu) (.slice d1.l d1.nl d1.cl) (.bool d2.n) (.slice d2.u d2.nu d2.cu) (.slice d2.l d2.nl d2.cl))
      )
  all_goals
    go_wp2
    obtain ⟨k0, k1, k2, k3, k4, k5, _, _, _, _, _, _⟩ := (hkr.put6 (.bool d1.n) (.slice d1.u d1.nu d1.cu) (.slice d1.l d1.nl d1.cl) (.bool d2.n) (.slice d2.u d2.nu d2.cu) (.slice d2.l d2.nl d2.cl)).all6
    refine bodyPost_ret (v := .agg #[.bool d1.n, .slice d1.u d1.nu d1.cu, .slice d1.l d1.nl d1.cl, .bool d2.n, .slice d2.u d2.nu d2.cu, .slice d2.l d2.nl d2.cl]) (by simp [results, Tryz.results62, go_sem, k0, k1, k2, k3, k4, k5]) rfl ⟨Below.put6 (HB0.out.trans (hbl2.mono HB0.out.size)) (by omega) (.bool d1.n) (.slice d1.u d1.nu d1.cu) (.slice d1.l d1.nl d1.cl) (.bool d2.n) (.slice d2.u d2.nu d2.cu) (.slice d2.l d2.nl d2.cl), _, rfl, ?_⟩
    have hst := Stays.put6 hkr (by simp [notLimb]) (.bool d1.n) (.slice d1.u d1.nu d1.cu) (.slice d1.l d1.nl d1.cl) (.bool d2.n) (.slice d2.u d2.nu d2.cu) (.slice d2.l d2.nl d2.cl) rfl rfl rfl rfl rfl rfl
    exact ⟨d1, d2, rfl, hst.qv (hv1.below hb2), hst.qv hv2⟩
theorem str_len (a : ByteArray) : a.data.toList.length = a.size := by simp
theorem wayRead_calls {w : World} {v : Value} {lx ly : List UInt8} (h : PV v lx ly) (s1 : lx.length ≤ 4294967296) (s2 : ly.length ≤ 4294967296) :
    Calls Tryz.prog 62 #[v] w fun e w' => Below w.heap.size w w' ∧ ∃ v, e = .returned v ∧ WV w' v (rd lx) (rd ly) := by
  obtain ⟨a, b, rfl, rfl, rfl⟩ := h
  exact wayRead_walk (by rwa [str_len] at s1) (by rwa [str_len] at s2)
theorem rulerSquare_walk {w : World} {cpx cpz cax cay : C3} {px pz ax ay : Rat} (hpx : QV w (.agg #[.bool cpx.n, .slice cpx.u cpx.nu cpx.cu, .slice cpx.l cpx.nl cpx.cl]) px) (hpz : QV w (.agg #[.bool cpz.n, .slice cpz.u cpz.nu cpz.cu, .slice cpz.l cpz.nl cpz.cl]) pz) (hax : QV w (.agg #[.bool cax.n, .slice cax.u cax.nu cax.cu, .slice cax.l cax.nl cax.cl]) ax) (hay : QV w (.agg #[.bool cay.n, .slice cay.u cay.nu cay.cu, .slice cay.l cay.nl cay.cl]) ay) {k l : Nat} (f1 : QS k ax) (f2 : QS k ay) (f3 : QS l px) (f4 : QS l pz) (hk : 2 * (k + l + 1) + 1 ≤ 35184372088640) :
    Calls Tryz.prog 104 #[.agg #[.bool cpx.n, .slice cpx.u cpx.nu cpx.cu, .slice cpx.l cpx.nl cpx.cl, .bool cpz.n, .slice cpz.u cpz.nu cpz.cu, .slice cpz.l cpz.nl cpz.cl], .agg #[.bool cax.n, .slice cax.u cax.nu cax.cu, .slice cax.l cax.nl cax.cl, .bool cay.n, .slice cay.u cay.nu cay.cu, .slice cay.l cay.nl cay.cl]] w fun e w' => Below w.heap.size w w' ∧ ∃ v, e = .returned v ∧ LV w' v ax ay (-(ax * px + ay * pz)) := by
  obtain ⟨hb0, hk0, hk1, hk2, hsz⟩ := boxes3 w #[.bool cpx.n, .slice cpx.u cpx.nu cpx.cu, .slice cpx.l cpx.nl cpx.cl, .bool cpz.n, .slice cpz.u cpz.nu cpz.cu, .slice cpz.l cpz.nl cpz.cl] #[.bool cax.n, .slice cax.u cax.nu cax.cu, .slice cax.l cax.nl cax.cl, .bool cay.n, .slice cay.u cay.nu cay.cu, .slice cay.l cay.nl cay.cl] #[.bool false, .slice none 0 0, .slice none 0 0, .bool false, .slice none 0 0, .slice none 0 0, .bool false, .slice none 0 0, .slice none 0 0] 86 86 97
  have HB0 := hideIt hb0
  have HSZ := hideIt hsz
  have HK0 := hideIt hk0
  have HK1 := hideIt hk1
  have HK2 := hideIt hk2
  have Hpx := hideIt (hpx.below hb0)
  have Hpz := hideIt (hpz.below hb0)
  have Hax := hideIt (hax.below hb0)
  have Hay := hideIt (hay.below hb0)
  have F1 := hideIt f1
  have F2 := hideIt f2
  have F3 := hideIt f3
  have F4 := hideIt f4
  have HK := hideIt hk
  clear hb0 hsz hk0 hk1 hk2 hpx hpz hax hay f1 f2 f3 f4 hk
  go_enter Tryz.func104, Tryz.ntmps104
  go_wp2_with fail
  generalize (((w.alloc (.cells #[.bool cpx.n, .slice cpx.u cpx.nu cpx.cu, .slice cpx.l cpx.nl cpx.cl, .bool cpz.n, .slice cpz.u cpz.nu cpz.cu, .slice cpz.l cpz.nl cpz.cl] 86)).alloc (.cells #[.bool cax.n, .slice cax.u cax.nu cax.cu, .slice cax.l cax.nl cax.cl, .bool cay.n, .slice cay.u cay.nu cay.cu, .slice cay.l cay.nl cay.cl] 86)).alloc (.cells #[.bool false, .slice none 0 0, .slice none 0 0, .bool false, .slice none 0 0, .slice none 0 0, .bool false, .slice none 0 0, .slice none 0 0] 97)) = W0 at *
  have HS : Hid (∀ w', Below W0.heap.size W0 w' → w'.cell? ⟨w.heap.size, 0, none⟩ = some (.bool cpx.n) ∧ w'.cell? ⟨w.heap.size, 1, none⟩ = some (.slice cpx.u cpx.nu cpx.cu) ∧ w'.cell? ⟨w.heap.size, 2, none⟩ = some (.slice cpx.l cpx.nl cpx.cl) ∧ w'.cell? ⟨w.heap.size, 3, none⟩ = some (.bool cpz.n) ∧ w'.cell? ⟨w.heap.size, 4, none⟩ = some (.slice cpz.u cpz.nu cpz.cu) ∧ w'.cell? ⟨w.heap.size, 5, none⟩ = some (.slice cpz.l cpz.nl cpz.cl) ∧ w'.cell? ⟨w.heap.size + 1, 0, none⟩ = some (.bool cax.n) ∧ w'.cell? ⟨w.heap.size + 1, 1, none⟩ = some (.slice cax.u cax.nu cax.cu) ∧ w'.cell? ⟨w.heap.size + 1, 2, none⟩ = some (.slice cax.l cax.nl cax.cl) ∧ w'.cell? ⟨w.heap.size + 1, 3, none⟩ = some (.bool cay.n) ∧ w'.cell? ⟨w.heap.size + 1, 4, none⟩ = some (.slice cay.u cay.nu cay.cu) ∧ w'.cell? ⟨w.heap.size + 1, 5, none⟩ = some (.slice cay.l cay.nl cay.cl)) := fun w' hb => ⟨(HK0.out.below hb (by rw [HSZ.out]; omega)).cell 0, (HK0.out.below hb (by rw [HSZ.out]; omega)).cell 1, (HK0.out.below hb (by rw [HSZ.out]; omega)).cell 2, (HK0.out.below hb (by rw [HSZ.out]; omega)).cell 3, (HK0.out.below hb (by rw [HSZ.out]; omega)).cell 4, (HK0.out.below hb (by rw [HSZ.out]; omega)).cell 5, (HK1.out.below hb (by rw [HSZ.out]; omega)).cell 0, (HK1.out.below hb (by rw [HSZ.out]; omega)).cell 1, (HK1.out.below hb (by rw [HSZ.out]; omega)).cell 2, (HK1.out.below hb (by rw [HSZ.out]; omega)).cell 3, (HK1.out.below hb (by rw [HSZ.out]; omega)).cell 4, (HK1.out.below hb (by rw [HSZ.out]; omega)).cell 5⟩
  have HSS : Hid (∀ w', Below W0.heap.size W0 w' → ∀ x0 x1 x2 x3 x4 x5 x6 x7 x8 : Value, (((((((((w'.setCell ⟨w.heap.size + 1 + 1, 0, none⟩ (x0)).setCell ⟨w.heap.size + 1 + 1, 1, none⟩ (x1)).setCell ⟨w.heap.size + 1 + 1, 2, none⟩ (x2)).setCell ⟨w.heap.size + 1 + 1, 3, none⟩ (x3)).setCell ⟨w.heap.size + 1 + 1, 4, none⟩ (x4)).setCell ⟨w.heap.size + 1 + 1, 5, none⟩ (x5)).setCell ⟨w.heap.size + 1 + 1, 6, none⟩ (x6)).setCell ⟨w.heap.size + 1 + 1, 7, none⟩ (x7)).setCell ⟨w.heap.size + 1 + 1, 8, none⟩ (x8)).cell? ⟨w.heap.size, 0, none⟩ = some (.bool cpx.n) ∧ (((((((((w'.setCell ⟨w.heap.size + 1 + 1, 0, none⟩ (x0)).setCell ⟨w.heap.size + 1 + 1, 1, none⟩ (x1)).setCell ⟨w.heap.size + 1 + 1, 2, none⟩ (x2)).setCell ⟨w.heap.size + 1 + 1, 3, none⟩ (x3)).setCell ⟨w.heap.size + 1 + 1, 4, none⟩ (x4)).setCell ⟨w.heap.size + 1 + 1, 5, none⟩ (x5)).setCell ⟨w.heap.size + 1 + 1, 6, none⟩ (x6)).setCell ⟨w.heap.size + 1 + 1, 7, none⟩ (x7)).setCell ⟨w.heap.size + 1 + 1, 8, none⟩ (x8)).cell? ⟨w.heap.size, 1, none⟩ = some (.slice cpx.u cpx.nu cpx.cu) ∧ (((((((((w'.setCell ⟨w.heap.size + 1 + 1, 0, none⟩ (x0)).setCell ⟨w.heap.size + 1 + 1, 1, none⟩ (x1)).setCell ⟨w.heap.size + 1 + 1, 2, none⟩ (x2)).setCell ⟨w.heap.size + 1 + 1, 3, none⟩ (x3)).setCell ⟨w.heap.size + 1 + 1, 4, none⟩ (x4)).setCell ⟨w.heap.size + 1 + 1, 5, none⟩ (x5)).setCell ⟨w.heap.size + 1 + 1, 6, none⟩ (x6)).setCell ⟨w.heap.size + 1 + 1, 7, none⟩ (x7)).setCell ⟨w.heap.size + 1 + 1, 8, none⟩ (x8)).cell? ⟨w.heap.size, 2, none⟩ = some (.slice cpx.l cpx.nl cpx.cl) ∧ (((((((((w'.setCell ⟨w.heap.size + 1 + 1, 0, none⟩ (x0)).setCell ⟨w.heap.size + 1 + 1, 1, none⟩ (x1)).setCell ⟨w.heap.size + 1 + 1, 2, none⟩ (x2)).setCell ⟨w.heap.size + 1 + 1, 3, none⟩ (x3)).setCell ⟨w.heap.size + 1 + 1, 4, none⟩ (x4)).setCell ⟨w.heap.size + 1 + 1, 5, none⟩ (x5)).setCell ⟨w.heap.size + 1 + 1, 6, none⟩ (x6)).setCell ⟨w.heap.size + 1 + 1, 7, none⟩ (x7)).setCell ⟨w.heap.size + 1 + 1, 8, none⟩ (x8)).cell? ⟨w.heap.size, 3, none⟩ = some (.bool cpz.n) ∧ (((((((((w'.setCell ⟨w.heap.size + 1 + 1, 0, none⟩ (x0)).setCell ⟨w.heap.size + 1 + 1, 1, none⟩ (x1)).setCell ⟨w.heap.size + 1 + 1, 2, none⟩ (x2)).setCell ⟨w.heap.size + 1 + 1, 3, none⟩ (x3)).setCell ⟨w.heap.size + 1 + 1, 4, none⟩ (x4)).setCell ⟨w.heap.size + 1 + 1, 5, none⟩ (x5)).setCell ⟨w.heap.size + 1 + 1, 6, none⟩ (x6)).setCell ⟨w.heap.size + 1 + 1, 7, none⟩ (x7)).setCell ⟨w.heap.size + 1 + 1, 8, none⟩ (x8)).cell? ⟨w.heap.size, 4, none⟩ = some (.slice cpz.u cpz.nu cpz.cu) ∧ (((((((((w'.setCell ⟨w.heap.size + 1 + 1, 0, none⟩ (x0)).setCell ⟨w.heap.size + 1 + 1, 1, none⟩ (x1)).setCell ⟨w.heap.size + 1 + 1, 2, none⟩ (x2)).setCell ⟨w.heap.size + 1 + 1, 3, none⟩ (x3)).setCell ⟨w.heap.size + 1 + 1, 4, none⟩ (x4)).setCell ⟨w.heap.size + 1 + 1, 5, none⟩ (x5)).setCell ⟨w.heap.size + 1 + 1, 6, none⟩ (x6)).setCell ⟨w.heap.size + 1 + 1, 7, none⟩ (x7)).setCell ⟨w.heap.size + 1 + 1, 8, none⟩ (x8)).cell? ⟨w.heap.size, 5, none⟩ = some (.slice cpz.l cpz.nl cpz.cl) ∧ (((((((((w'.setCell ⟨w.heap.size + 1 + 1, 0, none⟩ (x0)).setCell ⟨w.heap.size + 1 + 1, 1, none⟩ (x1)).setCell ⟨w.heap.size + 1 + 1, 2, none⟩ (x2)).setCell ⟨w.heap.size + 1 + 1, 3, none⟩ (x3)).setCell ⟨w.heap.size + 1 + 1, 4, none⟩ (x4)).setCell ⟨w.heap.size + 1 + 1, 5, none⟩ (x5)).setCell ⟨w.heap.size + 1 + 1, 6, none⟩ (x6)).setCell ⟨w.heap.size + 1 + 1, 7, none⟩ (x7)).setCell ⟨w.heap.size + 1 + 1, 8, none⟩ (x8)).cell? ⟨w.heap.size + 1, 0, none⟩ = some (.bool cax.n) ∧ (((((((((w'.setCell ⟨w.heap.size + 1 + 1, 0, none⟩ (x0)).setCell ⟨w.heap.size + 1 + 1, 1, none⟩ (x1)).setCell ⟨w.heap.size + 1 + 1, 2, none⟩ (x2)).setCell ⟨w.heap.size + 1 + 1, 3, none⟩ (x3)).setCell ⟨w.heap.size + 1 + 1, 4, none⟩ (x4)).setCell ⟨w.heap.size + 1 + 1, 5, none⟩ (x5)).setCell ⟨w.heap.size + 1 + 1, 6, none⟩ (x6)).setCell ⟨w.heap.size + 1 + 1, 7, none⟩ (x7)).setCell ⟨w.heap.size + 1 + 1, 8, none⟩ (x8)).cell? ⟨w.heap.size + 1, 1, none⟩ = some (.slice cax.u cax.nu cax.cu) ∧ (((((((((w'.setCell ⟨w.heap.size + 1 + 1, 0, none⟩ (x0)).setCell ⟨w.heap.size + 1 + 1, 1, none⟩ (x1)).setCell ⟨w.heap.size + 1 + 1, 2, none⟩ (x2)).setCell ⟨w.heap.size + 1 + 1, 3, none⟩ (x3)).setCell ⟨w.heap.size + 1 + 1, 4, none⟩ (x4)).setCell ⟨w.heap.size + 1 + 1, 5, none⟩ (x5)).setCell ⟨w.heap.size + 1 + 1, 6, none⟩ (x6)).setCell ⟨w.heap.size + 1 + 1, 7, none⟩ (x7)).setCell ⟨w.heap.size + 1 + 1, 8, none⟩ (x8)).cell? ⟨w.heap.size + 1, 2, none⟩ = some (.slice cax.l cax.nl cax.cl) ∧ (((((((((w'.setCell ⟨w.heap.size + 1 + 1, 0, none⟩ (x0)).setCell ⟨w.heap.size + 1 + 1, 1, none⟩ (x1)).setCell ⟨w.heap.size + 1 + 1, 2, none⟩ (x2)).setCell ⟨w.heap.size + 1 + 1, 3, none⟩ (x3)).setCell ⟨w.heap.size + 1 + 1, 4, none⟩ (x4)).setCell ⟨w.heap.size + 1 + 1, 5, none⟩ (x5)).setCell ⟨w.heap.size + 1 + 1, 6, none⟩ (x6)).setCell ⟨w.heap.size + 1 + 1, 7, none⟩ (x7)).setCell ⟨w.heap.size + 1 + 1, 8, none⟩ (x8)).cell? ⟨w.heap.size + 1, 3, none⟩ = some (.bool cay.n) ∧ (((((((((w'.setCell ⟨w.heap.size + 1 + 1, 0, none⟩ (x0)).setCell ⟨w.heap.size + 1 + 1, 1, none⟩ (x1)).setCell ⟨w.heap.size + 1 + 1, 2, none⟩ (x2)).setCell ⟨w.heap.size + 1 + 1, 3, none⟩ (x3)).setCell ⟨w.heap.size + 1 + 1, 4, none⟩ (x4)).setCell ⟨w.heap.size + 1 + 1, 5, none⟩ (x5)).setCell ⟨w.heap.size + 1 + 1, 6, none⟩ (x6)).setCell ⟨w.heap.size + 1 + 1, 7, none⟩ (x7)).setCell ⟨w.heap.size + 1 + 1, 8, none⟩ (x8)).cell? ⟨w.heap.size + 1, 4, none⟩ = some (.slice cay.u cay.nu cay.cu) ∧ (((((((((w'.setCell ⟨w.heap.size + 1 + 1, 0, none⟩ (x0)).setCell ⟨w.heap.size + 1 + 1, 1, none⟩ (x1)).setCell ⟨w.heap.size + 1 + 1, 2, none⟩ (x2)).setCell ⟨w.heap.size + 1 + 1, 3, none⟩ (x3)).setCell ⟨w.heap.size + 1 + 1, 4, none⟩ (x4)).setCell ⟨w.heap.size + 1 + 1, 5, none⟩ (x5)).setCell ⟨w.heap.size + 1 + 1, 6, none⟩ (x6)).setCell ⟨w.heap.size + 1 + 1, 7, none⟩ (x7)).setCell ⟨w.heap.size + 1 + 1, 8, none⟩ (x8)).cell? ⟨w.heap.size + 1, 5, none⟩ = some (.slice cay.l cay.nl cay.cl)) := fun w' hb x0 x1 x2 x3 x4 x5 x6 x7 x8 => ⟨((HK0.out.below hb (by rw [HSZ.out]; omega)).off9 (g := w.heap.size + 1 + 1) (by omega) x0 x1 x2 x3 x4 x5 x6 x7 x8).cell 0, ((HK0.out.below hb (by rw [HSZ.out]; omega)).off9 (g := w.heap.size + 1 + 1) (by omega) x0 x1 x2 x3 x4 x5 x6 x7 x8).cell 1, ((HK0.out.below hb (by rw [HSZ.out]; omega)).off9 (g := w.heap.size + 1 + 1) (by omega) x0 x1 x2 x3 x4 x5 x6 x7 x8).cell 2, ((HK0.out.below hb (by rw [HSZ.out]; omega)).off9 (g := w.heap.size + 1 + 1) (by omega) x0 x1 x2 x3 x4 x5 x6 x7 x8).cell 3, ((HK0.out.below hb (by rw [HSZ.out]; omega)).off9 (g := w.heap.size + 1 + 1) (by omega) x0 x1 x2 x3 x4 x5 x6 x7 x8).cell 4, ((HK0.out.below hb (by rw [HSZ.out]; omega)).off9 (g := w.heap.size + 1 + 1) (by omega) x0 x1 x2 x3 x4 x5 x6 x7 x8).cell 5, ((HK1.out.below hb (by rw [HSZ.out]; omega)).off9 (g := w.heap.size + 1 + 1) (by omega) x0 x1 x2 x3 x4 x5 x6 x7 x8).cell 0, ((HK1.out.below hb (by rw [HSZ.out]; omega)).off9 (g := w.heap.size + 1 + 1) (by omega) x0 x1 x2 x3 x4 x5 x6 x7 x8).cell 1, ((HK1.out.below hb (by rw [HSZ.out]; omega)).off9 (g := w.heap.size + 1 + 1) (by omega) x0 x1 x2 x3 x4 x5 x6 x7 x8).cell 2, ((HK1.out.below hb (by rw [HSZ.out]; omega)).off9 (g := w.heap.size + 1 + 1) (by omega) x0 x1 x2 x3 x4 x5 x6 x7 x8).cell 3, ((HK1.out.below hb (by rw [HSZ.out]; omega)).off9 (g := w.heap.size + 1 + 1) (by omega) x0 x1 x2 x3 x4 x5 x6 x7 x8).cell 4, ((HK1.out.below hb (by rw [HSZ.out]; omega)).off9 (g := w.heap.size + 1 + 1) (by omega) x0 x1 x2 x3 x4 x5 x6 x7 x8).cell 5⟩
  obtain ⟨z0, z1, z2, z3, z4, z5, z6, z7, z8, z9, z10, z11⟩ := HS.out W0 (Below.refl _ _)
  go_region_held3 (fun w' => w'.cell? ⟨w.heap.size, 0, none⟩ = some (.bool cpx.n) ∧ w'.cell? ⟨w.heap.size, 1, none⟩ = some (.slice cpx.u cpx.nu cpx.cu) ∧ w'.cell? ⟨w.heap.size, 2, none⟩ = some (.slice cpx.l cpx.nl cpx.cl) ∧ w'.cell? ⟨w.heap.size, 3, none⟩ = some (.bool cpz.n) ∧ w'.cell? ⟨w.heap.size, 4, none⟩ = some (.slice cpz.u cpz.nu cpz.cu) ∧ w'.cell? ⟨w.heap.size, 5, none⟩ = some (.slice cpz.l cpz.nl cpz.cl) ∧ w'.cell? ⟨w.heap.size + 1, 0, none⟩ = some (.bool cax.n) ∧ w'.cell? ⟨w.heap.size + 1, 1, none⟩ = some (.slice cax.u cax.nu cax.cu) ∧ w'.cell? ⟨w.heap.size + 1, 2, none⟩ = some (.slice cax.l cax.nl cax.cl) ∧ w'.cell? ⟨w.heap.size + 1, 3, none⟩ = some (.bool cay.n) ∧ w'.cell? ⟨w.heap.size + 1, 4, none⟩ = some (.slice cay.u cay.nu cay.cu) ∧ w'.cell? ⟨w.heap.size + 1, 5, none⟩ = some (.slice cay.l cay.nl cay.cl)) (first | go_keep | exact hs1 | exact hs2 | exact hkS)
    (first
      | (go_at_call 123; refine (wayDot_calls (w := W0.drew) ⟨cax, cay, rfl, (Hax.out.below (Below.drew (Below.refl _ _))), (Hay.out.below (Below.drew (Below.refl _ _)))⟩ ⟨cpx, cpz, rfl, (Hpx.out.below (Below.drew (Below.refl _ _))), (Hpz.out.below (Below.drew (Below.refl _ _)))⟩ F1.out F2.out F3.out F4.out HK.out).mono ?_; rintro e w1 ⟨hb1, v1, rfl, hv1⟩; have hbl1 : Below W0.heap.size W0 w1 := (Below.drew (Below.refl _ W0)).trans hb1; obtain ⟨d1, rfl⟩ := qv_open hv1; have hs1 := HS.out w1 hbl1)
      | (go_at_call 107; refine (negative_calls hv1).mono ?_; rintro e w2 ⟨hb2, v2, rfl, hv2⟩; have hbl2 := hbl1.trans (hb2.mono hbl1.size); obtain ⟨d2, rfl⟩ := qv_open hv2; have hs2 := HS.out w2 hbl2; have hkr := HK2.out.below hbl2 (by rw [HSZ.out]; omega); obtain ⟨r0, r1, r2, r3, r4, r5, r6, r7, r8, f0, f1, f2, f3, f4, f5, f6, f7, f8⟩ := hkr.all9; have hkS := HSS.out w2 hbl2 (.bool cax.n) (.slice cax.u cax.nu cax.cu) (.slice cax.l cax.nl cax.cl) (.bool cay.n) (.slice cay.u cay.nu cay.cu) (.slice cay.l cay.nl cay.cl) (.bool d2.n) (.slice d2.u d2.nu d2.cu) (.slice d2.l d2.nl d2.cl))
      )
  all_goals
    go_wp2
    obtain ⟨k0, k1, k2, k3, k4, k5, k6, k7, k8, _, _, _, _, _, _, _, _, _⟩ := (hkr.put9 (.bool cax.n) (.slice cax.u cax.nu cax.cu) (.slice cax.l cax.nl cax.cl) (.bool cay.n) (.slice cay.u cay.nu cay.cu) (.slice cay.l cay.nl cay.cl) (.bool d2.n) (.slice d2.u d2.nu d2.cu) (.slice d2.l d2.nl d2.cl)).all9
    refine bodyPost_ret (v := .agg #[.bool cax.n, .slice cax.u cax.nu cax.cu, .slice cax.l cax.nl cax.cl, .bool cay.n, .slice cay.u cay.nu cay.cu, .slice cay.l cay.nl cay.cl, .bool d2.n, .slice d2.u d2.nu d2.cu, .slice d2.l d2.nl d2.cl]) (by simp [results, Tryz.results104, go_sem, k0, k1, k2, k3, k4, k5, k6, k7, k8]) rfl ⟨Below.put9 (HB0.out.trans (hbl2.mono HB0.out.size)) (by omega) (.bool cax.n) (.slice cax.u cax.nu cax.cu) (.slice cax.l cax.nl cax.cl) (.bool cay.n) (.slice cay.u cay.nu cay.cu) (.slice cay.l cay.nl cay.cl) (.bool d2.n) (.slice d2.u d2.nu d2.cu) (.slice d2.l d2.nl d2.cl), _, rfl, ?_⟩
    have hst := Stays.put9 hkr (by simp [notLimb]) (.bool cax.n) (.slice cax.u cax.nu cax.cu) (.slice cax.l cax.nl cax.cl) (.bool cay.n) (.slice cay.u cay.nu cay.cu) (.slice cay.l cay.nl cay.cl) (.bool d2.n) (.slice d2.u d2.nu d2.cu) (.slice d2.l d2.nl d2.cl) rfl rfl rfl rfl rfl rfl rfl rfl rfl
    exact ⟨cax, cay, d2, rfl, hst.qv (Hax.out.below hbl2), hst.qv (Hay.out.below hbl2), hst.qv hv2⟩
theorem rulerSquare_calls {w : World} {va vb : Value} {px pz ax ay : Rat} {k l : Nat} (ha : WV w va px pz) (hb : WV w vb ax ay) (f1 : QS k ax) (f2 : QS k ay) (f3 : QS l px) (f4 : QS l pz) (hk : 2 * (k + l + 1) + 1 ≤ 35184372088640) :
    Calls Tryz.prog 104 #[va, vb] w fun e w' => Below w.heap.size w w' ∧ ∃ v, e = .returned v ∧ LV w' v ax ay (-(ax * px + ay * pz)) := by
  obtain ⟨c1, c2, rfl, h1, h2⟩ := ha
  obtain ⟨c3, c4, rfl, h3, h4⟩ := hb
  exact rulerSquare_walk h1 h2 h3 h4 f1 f2 f3 f4 hk
end Go.Proofs.YtgajdmadbdbabaaGreatDoor
/- RK -/
namespace Go.Proofs.YtgajdmadbdbabaaGreatDoor
open Go.RowKit Cx
attribute [local go_sem ↓] Go.wp_at_zero Go.wp_at_succ
def SRow (w : World) (v : Value) (ss : List ByteArray) : Prop :=
  ∃ b off cap, v = .slice (some ⟨b, off, none⟩) ss.length cap ∧ b < w.heap.size ∧ ∀ (j : Nat) (hj : j < ss.length), w.cell? ⟨b, off + j, none⟩ = some (.string (ss[j]'hj))
theorem srow_idx {b off n cap k : Nat} (hk : k < n) (wx : World) : (Instr.indexAt 124 (.slice (some ⟨b, off, none⟩) n cap) (.int .i64 k)).run Tryz.prog wx = .ok (.pointer (some ⟨b, off + k, none⟩)) wx := by
  have he : Tryz.prog.elem 124 = 22 := by simp [Program.elem, Tryz.underlying124]
  rw [run_indexAt_slice (h := by rw [he]; exact Tryz.underlying124), if_pos (by omega), he, Tryz.sizeOf22]
  simp [Result.andThen, Addr.add]
def right (s : ByteArray) : Prop := tx (rd s.data.toList) = s.data.toList
theorem right_eq {s : ByteArray} : ((⟨(tx (rd s.data.toList)).toArray⟩ : ByteArray) = s) ↔ right s := by
  unfold right
  constructor
  · intro h
    have := congrArg (fun b : ByteArray => b.data.toList) h
    simpa using this
  · intro h
    apply ByteArray.ext
    apply Array.ext'
    simpa using h
theorem refRight_walk {w : World} {b off cap : Nat} {ss : List ByteArray} (h : SRow w (.slice (some ⟨b, off, none⟩) ss.length cap) ss) (hm : MaxL w) (hl : ∀ s ∈ ss, s.size ≤ 4294967280) (hn : ss.length ≤ 1000000) :
    Calls Tryz.prog 80 #[.slice (some ⟨b, off, none⟩) ss.length cap] w fun e w' => Below w.heap.size w w' ∧ ∃ r : Bool, e = .returned (.bool r) ∧ (r = true ↔ ∀ s ∈ ss, right s) := by
  have HR := hideIt2 h
  have HM := hideIt2 hm
  have HL := hideIt2 hl
  clear h hm hl
  go_enter Tryz.func80, Tryz.ntmps80
  go_wp2
  go_loopw [7] (fun i wr => ∃ k : Nat, k ≤ ss.length ∧ i = .int .i64 (k : Int) ∧ Below w.heap.size w wr ∧ ∀ s ∈ ss.take k, right s) (fun i _ => ss.length - (intOf i).toNat)
  case atStart => exact ⟨0, Nat.zero_le _, rfl, Below.refl _ _, by simp⟩
  case round =>
    obtain ⟨k, hkl, rfl, hbel, hall⟩ := hrel
    have HBL := hideIt2 hbel
    have HAL := hideIt2 hall
    clear hbel hall
    by_cases hend : k = ss.length
    · subst hend
      go_wp2
      go_ret
      exact ⟨HBL.out, true, rfl, ⟨fun _ => (by have := HAL.out; rwa [List.take_length] at this), fun _ => rfl⟩⟩
    · have hlt : k < ss.length := by omega
      have hidx := srow_idx (b := b) (off := off) (cap := cap) hlt
      obtain ⟨b', off', cap', e, hbl, hcells⟩ := HR.out
      cases e
      have hp := hcells k hlt
      obtain ⟨s, hs⟩ : ∃ s, ss[k] = s := ⟨_, rfl⟩
      have hmem : s ∈ ss := hs ▸ List.getElem_mem hlt
      have hsz := HL.out s hmem
      rw [hs] at hp
      have z0 := (HBL.out.cell (p := ⟨b, off + k, none⟩) hbl).trans hp
      have HMEM := hideIt2 (And.intro hs hmem)
      clear hp hcells hs hmem
      go_wp2_with fail
      refine (refOf_calls s wr (HM.out.below HBL.out) hsz).mono ?_
      rintro e w1 ⟨hb1, g1, rfl, _, hv1⟩
      have H1 := hideIt2 (And.intro (bel_bel HBL.out hb1) hv1)
      clear hb1 hv1
      go_wp2_with fail
      refine (refT_calls H1.out.2 (QS.rd s.data.toList) (by rw [str_len]; omega)).mono ?_
      rintro e w2 ⟨hb2, rfl⟩
      have H2 := hideIt2 (bel_bel H1.out.1 hb2)
      clear hb2
      by_cases hr : right s
      · have he := right_eq.2 hr
        rw [he]
        have HRR := hideIt2 hr
        clear hr he
        go_wp2
        go_roundw
        case rel =>
          refine ⟨k + 1, hlt, by go_num, H2.out, ?_⟩
          intro t ht
          rw [List.take_succ_eq_append_getElem hlt, List.mem_append] at ht
          rcases ht with ht | ht
          · exact HAL.out t ht
          · rw [List.mem_singleton.1 ht, HMEM.out.1]; exact HRR.out
        case measure => simp [intOf]; omega
      · have hne : ¬ ((⟨(tx (rd s.data.toList)).toArray⟩ : ByteArray) = s) := fun e => hr (right_eq.1 e)
        have hnb : ((⟨(tx (rd s.data.toList)).toArray⟩ : ByteArray).toList == s.toList) = false := by
          rw [beq_eq_false_iff_ne]
          intro e
          rw [ByteArray.toList_eq, ByteArray.toList_eq] at e
          exact hne (ByteArray.ext (Array.ext' e))
        have HRR := hideIt2 hr
        clear hr
        generalize (⟨(tx (rd s.data.toList)).toArray⟩ : ByteArray) = t at *
        go_wp2
        go_ret
        exact ⟨H2.out, false, rfl, ⟨fun h => (by cases h), fun h => absurd (h s HMEM.out.2) HRR.out⟩⟩
theorem refRight_calls {w : World} {v : Value} {ss : List ByteArray} (h : SRow w v ss) (hm : MaxL w) (hl : ∀ s ∈ ss, s.size ≤ 4294967280) (hn : ss.length ≤ 1000000) :
    Calls Tryz.prog 80 #[v] w fun e w' => Below w.heap.size w w' ∧ ∃ r : Bool, e = .returned (.bool r) ∧ (r = true ↔ ∀ s ∈ ss, right s) := by
  have h' := h
  obtain ⟨b, off, cap, rfl, _⟩ := h
  exact refRight_walk h' hm hl hn
end Go.Proofs.YtgajdmadbdbabaaGreatDoor
/- AWD -/
namespace Go.Proofs.YtgajdmadbdbabaaGreatDoor
open Go.RowKit Cx
theorem NatN.grows {w w' : World} {v : Value} {n : Nat} (hg : Grows w w') (h : NatN w v n) : NatN w' v n := by
  obtain ⟨l, ⟨hl, ⟨rfl, ao, cap, rfl⟩ | ⟨b, off, cap, rfl, hc, hm, hlt, hseg⟩⟩, t, rfl⟩ := h
  · exact ⟨[], NatV.nil _ _ _, t, rfl⟩
  · by_cases h0 : l.length = 0
    · have := List.length_eq_zero_iff.1 h0
      subst this
      exact ⟨[], NatV.nil _ _ _, t, rfl⟩
    · have hn : ¬ Boxed w b := by
        rintro ⟨cs, t', hb, _, hno⟩
        have h1 := hseg 0 (by omega)
        rw [Nat.add_zero, hb.cell off] at h1
        exact (noLimb_of hno) off _ h1
      refine ⟨l, ⟨hl, Or.inr ⟨b, off, cap, rfl, hc, hm, Nat.lt_of_lt_of_le hlt hg.size, fun j hj => ?_⟩⟩, t, rfl⟩
      have : w'.cell? ⟨b, off + j, none⟩ = w.cell? ⟨b, off + j, none⟩ := by simp [World.cell?, hg.block b hlt hn]
      rw [this]
      exact hseg j hj
theorem blk_one {w : World} {g : Nat} {cs cs' : Array Value} {t t' : TypeId} (h : Blk w g cs t) (h' : Blk w g cs' t') : cs = cs' ∧ t = t' := by
  unfold Blk at h h'
  rw [h] at h'
  cases h'
  exact ⟨rfl, rfl⟩
theorem Blk.grows {w w' : World} {g : Nat} {cs : Array Value} {t : TypeId} (hg : Grows w w') (h : Blk w g cs t) (ht : boxT t = false) : Blk w' g cs t := by
  have hn : ¬ Boxed w g := by
    rintro ⟨cs', t', hb, hT, _⟩
    rw [(blk_one h hb).2] at ht
    rw [ht] at hT
    cases hT
  exact (hg.block g h.lt hn).trans h
theorem RV.grows {w w' : World} {g : Nat} {q : Rat} (hg : Grows w w') (h : RV w g q) : RV w' g q := by
  obtain ⟨a1, l1, c1, a2, l2, c2, h0, h1, h2⟩ := h
  refine ⟨a1, l1, c1, a2, l2, c2, h0.grows hg (by decide), h1.grows hg, ?_⟩
  rcases h2 with h2 | h2
  · exact Or.inl (h2.grows hg)
  · exact Or.inr h2
def Rt (q : Rat) : Fact := ⟨fun v w => PR w v q, fun hg ⟨g, e, h⟩ => ⟨g, e, h.grows hg⟩⟩
abbrev Tx (s : ByteArray) : Fact := Jus (.string s)
abbrev P2 (a b : ByteArray) : Fact := Agg [Tx a, Tx b]
abbrev L3 (a b c : ByteArray) : Fact := Agg [Tx a, Tx b, Tx c]
abbrev V2 (x y : Rat) : Fact := Agg [Rt x, Rt y]
abbrev Bo (b : Bool) : Fact := Jus (.bool b)
abbrev In (z : Int) : Fact := Jus (.int .i64 z)
theorem all2_one {w : World} {F : Fact} {vs : List Value} (h : All2 w [F] vs) : ∃ v, vs = [v] ∧ F.on v w := by
  match vs, h with
  | [v], h => exact ⟨v, rfl, h.1⟩
theorem all2_two {w : World} {F G : Fact} {vs : List Value} (h : All2 w [F, G] vs) : ∃ u v, vs = [u, v] ∧ F.on u w ∧ G.on v w := by
  match vs, h with
  | [u, v], h => exact ⟨u, v, rfl, h.1, h.2.1⟩
theorem all2_three {w : World} {F G H : Fact} {vs : List Value} (h : All2 w [F, G, H] vs) : ∃ u v x, vs = [u, v, x] ∧ F.on u w ∧ G.on v w ∧ H.on x w := by
  match vs, h with
  | [u, v, x], h => exact ⟨u, v, x, rfl, h.1, h.2.1, h.2.2.1⟩
theorem all2_none {w : World} {vs : List Value} (h : All2 w [] vs) : vs = [] := by
  match vs, h with
  | [], _ => rfl
theorem P2.eq {a b : ByteArray} {v : Value} {w : World} (h : (P2 a b).on v w) : v = .agg #[.string a, .string b] := by
  obtain ⟨cs, rfl, hall⟩ := h
  obtain ⟨u, v, rfl, h1, h2⟩ := all2_two hall
  cases h1
  cases h2
  rfl
theorem L3.eq {a b c : ByteArray} {v : Value} {w : World} (h : (L3 a b c).on v w) : v = .agg #[.string a, .string b, .string c] := by
  obtain ⟨cs, rfl, hall⟩ := h
  obtain ⟨u, v, x, rfl, h1, h2, h3⟩ := all2_three hall
  cases h1
  cases h2
  cases h3
  rfl
theorem P2.mk (a b : ByteArray) (w : World) : (P2 a b).on (.agg #[.string a, .string b]) w := ⟨[_, _], rfl, rfl, rfl, trivial⟩
theorem L3.mk (a b c : ByteArray) (w : World) : (L3 a b c).on (.agg #[.string a, .string b, .string c]) w := ⟨[_, _, _], rfl, rfl, rfl, rfl, trivial⟩
theorem V2.vv {x y : Rat} {v : Value} {w : World} (h : (V2 x y).on v w) : VV w v x y := by
  obtain ⟨cs, rfl, hall⟩ := h
  obtain ⟨u, v, rfl, h1, h2⟩ := all2_two hall
  exact ⟨u, v, rfl, h1, h2⟩
theorem V2.of {x y : Rat} {v : Value} {w : World} (h : VV w v x y) : (V2 x y).on v w := by
  obtain ⟨p, q, rfl, h1, h2⟩ := h
  exact ⟨[p, q], rfl, h1, h2, trivial⟩
def NL (F : Fact) : Prop := ∀ v w, F.on v w → notLimb v = true ∧ v.oneCell' = true
theorem nl_tx (s : ByteArray) : NL (Tx s) := fun _ _ h => by cases h; exact ⟨rfl, rfl⟩
theorem nl_rt (q : Rat) : NL (Rt q) := fun _ _ h => by obtain ⟨g, rfl, _⟩ := h; exact ⟨rfl, rfl⟩
theorem store_run {P : Program} {w : World} {a : Addr} {v c : Value} (m : Mode) (hv : v.oneCell' = true) (hc : w.cell? a = some c) (hf : w.frozen? a = false) : (store a v m).run P w = .ok () (w.setCell a v) := by
  rw [run_store P w a v m hv, hc]
  simp [hf]
theorem save_refl (g : Nat) (w : World) : Save g w w := Save.of (Below.refl _ _)
theorem no_over {pl : List Plan} {os : List Oper} {i k : Nat} (h : overOf k pl = none) (s : Nat) (Fs' : Fact) (hs : pl[s]? = some (.over k Fs')) : ∃ (o' : Oper) (e : Edge), os[s]? = some o' ∧ e ∈ o'.after ∧ e.on = i ∧ Region.binds .any e = true := absurd hs (overOf_none h s Fs')
theorem no_fill {pl : List Plan} {os : List Oper} {i : Nat} (h : fillOf i pl = none) (s : Nat) (Fs' : Fact) (hs : pl[s]? = some (.fill i Fs')) : ∃ (o' : Oper) (e : Edge), os[s]? = some o' ∧ e ∈ o'.after ∧ e.on = i ∧ Region.binds .any e = true := absurd hs (fillOf_none h s Fs')
def isFill (a : Nat) : Plan → Bool
  | Sum.inr (Sum.inr (Sum.inr (Sum.inl (b, _)))) => Nat.beq a b
  | _ => false
def isOver (k : Nat) : Plan → Bool
  | Sum.inr (Sum.inr (Sum.inr (Sum.inr (Sum.inl (b, _))))) => Nat.beq k b
  | _ => false
def onlyAt (p : Plan → Bool) (s0 : Nat) : Nat → List Plan → Bool
  | _, [] => true
  | i, x :: xs => (!p x || Nat.beq i s0) && onlyAt p s0 (i + 1) xs
theorem onlyAt.get {p : Plan → Bool} {s0 : Nat} : ∀ {pl : List Plan} {i s : Nat} {x : Plan}, onlyAt p s0 i pl = true → pl[s]? = some x → p x = true → i + s = s0
  | [], _, _, _, _, h, _ => by simp at h
  | y :: ys, i, 0, x, h, hs, hp => by
    have e : y = x := by simpa using hs
    subst e
    unfold onlyAt at h
    rw [hp] at h
    simp at h
    exact h.1
  | y :: ys, i, s + 1, x, h, hs, hp => by
    unfold onlyAt at h
    rw [Bool.and_eq_true] at h
    have := onlyAt.get h.2 (s := s) (x := x) (by simpa using hs) hp
    omega
theorem one_fill {pl : List Plan} {a s0 : Nat} (h : onlyAt (isFill a) s0 0 pl = true) (s : Nat) (Fs' : Fact) (hs : pl[s]? = some (.fill a Fs')) : s = s0 := by
  have := onlyAt.get h hs (Nat.beq_refl a)
  omega
theorem one_over {pl : List Plan} {k s0 : Nat} (h : onlyAt (isOver k) s0 0 pl = true) (s : Nat) (Fs' : Fact) (hs : pl[s]? = some (.over k Fs')) : s = s0 := by
  have := onlyAt.get h hs (Nat.beq_refl k)
  omega
theorem fill_waits {pl : List Plan} {os : List Oper} {i s0 k : Nat} {o' : Oper} {e : Edge} (h : onlyAt (isFill i) s0 0 pl = true) (ho : os[s0]? = some o') (hk : o'.after[k]? = some e) (he : e.on = i) (hb : Region.binds .any e = true) (s : Nat) (Fs' : Fact) (hs : pl[s]? = some (.fill i Fs')) : ∃ (o' : Oper) (e : Edge), os[s]? = some o' ∧ e ∈ o'.after ∧ e.on = i ∧ Region.binds .any e = true := by
  have := one_fill h s Fs' hs
  subst this
  exact ⟨o', e, ho, Array.mem_of_getElem? hk, he, hb⟩
def CellsOk (m : Nat) (F : Fact) : Prop := ∀ v w, F.on v w → ∃ cs : List Value, v = .agg cs.toArray ∧ cs.length = m ∧ ∀ c ∈ cs, notLimb c = true ∧ c.oneCell' = true
theorem cok2 {F G : Fact} (h1 : NL F) (h2 : NL G) : CellsOk 2 (Agg [F, G]) := fun v w ⟨cs, e, hall⟩ => by
  obtain ⟨x, y, rfl, hx, hy⟩ := all2_two hall
  exact ⟨[x, y], e, rfl, by simp only [List.mem_cons, List.not_mem_nil, or_false, forall_eq_or_imp, forall_eq]; exact ⟨h1 _ _ hx, h2 _ _ hy⟩⟩
theorem cok3 {F G H : Fact} (h1 : NL F) (h2 : NL G) (h3 : NL H) : CellsOk 3 (Agg [F, G, H]) := fun v w ⟨cs, e, hall⟩ => by
  obtain ⟨x, y, z, rfl, hx, hy, hz⟩ := all2_three hall
  exact ⟨[x, y, z], e, rfl, by simp only [List.mem_cons, List.not_mem_nil, or_false, forall_eq_or_imp, forall_eq]; exact ⟨h1 _ _ hx, h2 _ _ hy, h3 _ _ hz⟩⟩
theorem all_notLimb {cs : List Value} (h : ∀ c ∈ cs, notLimb c = true ∧ c.oneCell' = true) : cs.toArray.all notLimb = true := by
  simp only [List.all_toArray, List.all_eq_true]
  exact fun c hc => (h c hc).1
def OneCell (P : Program) (t : TypeId) : Prop := ∀ (w : World) (G j : Nat) (c : Value), w.cell? ⟨G, j, none⟩ = some c → (Instr.loadAt t (.pointer (some ⟨G, j, none⟩))).run P w = .ok c w
theorem part_agg {P : Program} {t' : TypeId} {j : Nat} {Fs : List Fact} {F : Fact} (hj : Fs[j]? = some F) (h1 : OneCell P t') : PartLoads P t' j (Agg Fs) F := fun w G cs t hk ⟨cs', e, hall⟩ => by
  have : cs = cs' := by simpa using e
  subst this
  obtain ⟨v, hv, hF⟩ := hall.get hj
  exact ⟨v, h1 w G j v (by rw [hk.cell j]; simpa using hv), hF⟩
section
variable {Q : Exit → Act → World → Prop} {w0 : World} {n : Nat} {tm : List (Nat × Fact)} {bx : List (Nat × TypeId × Fact)} {a0 : Act} {wr : World} {os : List Oper} {pl : List Plan}
theorem step_new {i : Nat} {o : Oper} {t : TypeId} (zs : List Value) {Fz : Fact} (hFz : ∀ w, Fz.on (.agg zs.toArray) w) (ho : os[i]? = some o) (hp : pl[i]? = some (.alloc t Fz)) (hw : Want w0 bx a0 wr os pl o true) (hop : o.op = .alloc t)
    (hf : ∀ (s : Nat) (Fs' : Fact), pl[s]? = some (.fill i Fs') → ∃ (o' : Oper) (e : Edge), os[s]? = some o' ∧ e ∈ o'.after ∧ e.on = i ∧ Region.binds .any e = true)
    (hz : ∀ w, (Instr.alloc t true (.tuple #[])).run Tryz.prog w = .ok (.pointer (some ⟨w.heap.size, 0, none⟩)) (w.alloc (.cells zs.toArray t))) (hnl : zs.toArray.all notLimb = true) (hln : zs.length = Tryz.prog.cellsOf t) :
    AStep Tryz.prog Q os a0 (RInv w0 bx a0 wr os pl) i o := step_alloc ho hp hw hf fun d τ w hr hd hn => by
  refine ⟨w.alloc (.cells zs.toArray t), ?_, below_new _ _, zs, Blk.new _ _ _, hFz _, hnl, hln⟩
  unfold execOp
  rw [hop]
  show (do pure (Next.value (← Instr.alloc t true (.tuple #[]))) : Sem Next).run Tryz.prog w = _
  have h := hz w
  revert h
  generalize Instr.alloc t true (.tuple #[]) = s
  intro h
  simp [go_sem, h]
def Boxes (t : TypeId) (F : Fact) : Prop :=
  ∀ (w : World) (v : Value), F.on v w → ∃ cs : List Value, (Instr.box t v).run Tryz.prog w = .ok (.pointer (some ⟨w.heap.size, 0, none⟩)) (w.alloc (.cells cs.toArray t)) ∧ v = .agg cs.toArray ∧ cs.toArray.all notLimb = true ∧ cs.length = Tryz.prog.cellsOf t
theorem step_box {i : Nat} {o : Oper} {t : TypeId} {x : Operand} {F : Fact} (ho : os[i]? = some o) (hp : pl[i]? = some (.alloc t F)) (hw : Want w0 bx a0 wr os pl o true) (hop : o.op = .box t x)
    (hf : ∀ (s : Nat) (Fs' : Fact), pl[s]? = some (.fill i Fs') → ∃ (o' : Oper) (e : Edge), os[s]? = some o' ∧ e ∈ o'.after ∧ e.on = i ∧ Region.binds .any e = true)
    (hx : Opn w0 bx a0 wr os pl i o x F) (hb : Boxes t F) :
    AStep Tryz.prog Q os a0 (RInv w0 bx a0 wr os pl) i o := step_alloc ho hp hw hf fun d τ w hr hd hn => by
  have hv := hx d τ w hr hd hn
  obtain ⟨cs, e, ev, hnl, hln⟩ := hb w _ hv
  rw [ev] at hv
  refine ⟨w.alloc (.cells cs.toArray t), ?_, below_new _ _, cs, Blk.new _ _ _, F.st (Grows.of (below_new _ _)) hv, hnl, hln⟩
  unfold execOp
  rw [hop]
  show (do pure (Next.value (← Instr.box t ((putAll a0 τ 0 os).eval x))) : Sem Next).run Tryz.prog w = _
  revert e
  generalize Instr.box t ((putAll a0 τ 0 os).eval x) = s
  intro e
  simp [go_sem, e]
end
theorem cellsN_P : Tryz.prog.cellsOf 24 = 2 := by kernel_rfl
theorem loads_P {F : Fact} : Loads Tryz.prog 24 F F := fun w G ⟨cs, hk, hF, _, hln⟩ => by
  rw [cellsN_P] at hln
  match cs, hln with
  | [x0, x1], _ =>
    refine ⟨.agg #[x0, x1], ?_, hF⟩
    have k0 : w.cell? ⟨G, 0, none⟩ = some x0 := hk.cell 0
    have k1 : w.cell? ⟨G, 1, none⟩ = some x1 := hk.cell 1
    clear hk hF
    simp [go_sem, k0, k1]
theorem boxes_P {F : Fact} (hc : CellsOk 2 F) : Boxes 24 F := fun w v hv => by
  obtain ⟨vs, rfl, hlv, hok⟩ := hc v w hv
  match vs, hlv with
  | [y0, y1], _ =>
    refine ⟨[y0, y1], ?_, rfl, all_notLimb hok, by rw [cellsN_P]; rfl⟩
    clear hv hok
    simp [go_sem]
theorem cellsN_L : Tryz.prog.cellsOf 26 = 3 := by kernel_rfl
theorem loads_L {F : Fact} : Loads Tryz.prog 26 F F := fun w G ⟨cs, hk, hF, _, hln⟩ => by
  rw [cellsN_L] at hln
  match cs, hln with
  | [x0, x1, x2], _ =>
    refine ⟨.agg #[x0, x1, x2], ?_, hF⟩
    have k0 : w.cell? ⟨G, 0, none⟩ = some x0 := hk.cell 0
    have k1 : w.cell? ⟨G, 1, none⟩ = some x1 := hk.cell 1
    have k2 : w.cell? ⟨G, 2, none⟩ = some x2 := hk.cell 2
    clear hk hF
    simp [go_sem, k0, k1, k2]
theorem stores_L {F : Fact} (hc : CellsOk 3 F) : Stores Tryz.prog 26 F F := fun w G F0 v ⟨cs, hk, _, hno, hln⟩ hv => by
  obtain ⟨vs, rfl, hlv, hok⟩ := hc v w hv
  rw [cellsN_L] at hln
  match cs, hln, vs, hlv with
  | [x0, x1, x2], _, [y0, y1, y2], _ =>
    have hbx : Boxed w G := ⟨_, _, hk, by decide, hno⟩
    have hk2 := (((hk.set 0 y0).set 1 y1).set 2 y2)
    have hs : Save G w ((((w.setCell ⟨G, 0, none⟩ y0).setCell ⟨G, 1, none⟩ y1).setCell ⟨G, 2, none⟩ y2)) := ((((save_refl G w).set 0 y0).set 1 y1).set 2 y2)
    refine ⟨_, ?_, hs, [y0, y1, y2], by simpa using hk2, F.st (Grows.save hs hbx) hv, all_notLimb hok, by rw [cellsN_L]; rfl⟩
    have r0 : (store ⟨G, 0, none⟩ y0).run Tryz.prog w = .ok () (w.setCell ⟨G, 0, none⟩ y0) := store_run (c := x0) _ (hok y0 (by simp)).2 (by rw [hk.cell 0]; rfl) (hk.frozen 0)
    have r1 : (store ⟨G, 1, none⟩ y1).run Tryz.prog (w.setCell ⟨G, 0, none⟩ y0) = .ok () ((w.setCell ⟨G, 0, none⟩ y0).setCell ⟨G, 1, none⟩ y1) := store_run (c := x1) _ (hok y1 (by simp)).2 (by rw [(hk.set 0 y0).cell 1]; rfl) ((hk.set 0 y0).frozen 1)
    have r2 : (store ⟨G, 2, none⟩ y2).run Tryz.prog ((w.setCell ⟨G, 0, none⟩ y0).setCell ⟨G, 1, none⟩ y1) = .ok () (((w.setCell ⟨G, 0, none⟩ y0).setCell ⟨G, 1, none⟩ y1).setCell ⟨G, 2, none⟩ y2) := store_run (c := x2) _ (hok y2 (by simp)).2 (by rw [((hk.set 0 y0).set 1 y1).cell 2]; rfl) (((hk.set 0 y0).set 1 y1).frozen 2)
    clear hk hk2 hs hbx hno hv hok
    simp [go_sem, r0, r1, r2]
theorem boxes_L {F : Fact} (hc : CellsOk 3 F) : Boxes 26 F := fun w v hv => by
  obtain ⟨vs, rfl, hlv, hok⟩ := hc v w hv
  match vs, hlv with
  | [y0, y1, y2], _ =>
    refine ⟨[y0, y1, y2], ?_, rfl, all_notLimb hok, by rw [cellsN_L]; rfl⟩
    clear hv hok
    simp [go_sem]
theorem allocs_L (w : World) : (Instr.alloc 26 true (.tuple #[])).run Tryz.prog w = .ok (.pointer (some ⟨w.heap.size, 0, none⟩)) (w.alloc (.cells [.string ⟨#[]⟩, .string ⟨#[]⟩, .string ⟨#[]⟩].toArray 26)) := by
  simp [go_sem]
theorem zero_L (w : World) : (Agg [Jus (.string ⟨#[]⟩), Jus (.string ⟨#[]⟩), Jus (.string ⟨#[]⟩)]).on (.agg [.string ⟨#[]⟩, .string ⟨#[]⟩, .string ⟨#[]⟩].toArray) w := ⟨[.string ⟨#[]⟩, .string ⟨#[]⟩, .string ⟨#[]⟩], rfl, rfl, rfl, rfl, trivial⟩
theorem cellsN_T : Tryz.prog.cellsOf 67 = 2 := by kernel_rfl
theorem loads_T {F : Fact} : Loads Tryz.prog 67 F F := fun w G ⟨cs, hk, hF, _, hln⟩ => by
  rw [cellsN_T] at hln
  match cs, hln with
  | [x0, x1], _ =>
    refine ⟨.agg #[x0, x1], ?_, hF⟩
    have k0 : w.cell? ⟨G, 0, none⟩ = some x0 := hk.cell 0
    have k1 : w.cell? ⟨G, 1, none⟩ = some x1 := hk.cell 1
    clear hk hF
    simp [go_sem, k0, k1]
theorem boxes_T {F : Fact} (hc : CellsOk 2 F) : Boxes 67 F := fun w v hv => by
  obtain ⟨vs, rfl, hlv, hok⟩ := hc v w hv
  match vs, hlv with
  | [y0, y1], _ =>
    refine ⟨[y0, y1], ?_, rfl, all_notLimb hok, by rw [cellsN_T]; rfl⟩
    clear hv hok
    simp [go_sem]
theorem cellsN_V : Tryz.prog.cellsOf 43 = 2 := by kernel_rfl
theorem loads_V {F : Fact} : Loads Tryz.prog 43 F F := fun w G ⟨cs, hk, hF, _, hln⟩ => by
  rw [cellsN_V] at hln
  match cs, hln with
  | [x0, x1], _ =>
    refine ⟨.agg #[x0, x1], ?_, hF⟩
    have k0 : w.cell? ⟨G, 0, none⟩ = some x0 := hk.cell 0
    have k1 : w.cell? ⟨G, 1, none⟩ = some x1 := hk.cell 1
    clear hk hF
    simp [go_sem, k0, k1]
theorem stores_V {F : Fact} (hc : CellsOk 2 F) : Stores Tryz.prog 43 F F := fun w G F0 v ⟨cs, hk, _, hno, hln⟩ hv => by
  obtain ⟨vs, rfl, hlv, hok⟩ := hc v w hv
  rw [cellsN_V] at hln
  match cs, hln, vs, hlv with
  | [x0, x1], _, [y0, y1], _ =>
    have hbx : Boxed w G := ⟨_, _, hk, by decide, hno⟩
    have hk2 := ((hk.set 0 y0).set 1 y1)
    have hs : Save G w (((w.setCell ⟨G, 0, none⟩ y0).setCell ⟨G, 1, none⟩ y1)) := (((save_refl G w).set 0 y0).set 1 y1)
    refine ⟨_, ?_, hs, [y0, y1], by simpa using hk2, F.st (Grows.save hs hbx) hv, all_notLimb hok, by rw [cellsN_V]; rfl⟩
    have r0 : (store ⟨G, 0, none⟩ y0).run Tryz.prog w = .ok () (w.setCell ⟨G, 0, none⟩ y0) := store_run (c := x0) _ (hok y0 (by simp)).2 (by rw [hk.cell 0]; rfl) (hk.frozen 0)
    have r1 : (store ⟨G, 1, none⟩ y1).run Tryz.prog (w.setCell ⟨G, 0, none⟩ y0) = .ok () ((w.setCell ⟨G, 0, none⟩ y0).setCell ⟨G, 1, none⟩ y1) := store_run (c := x1) _ (hok y1 (by simp)).2 (by rw [(hk.set 0 y0).cell 1]; rfl) ((hk.set 0 y0).frozen 1)
    clear hk hk2 hs hbx hno hv hok
    simp [go_sem, r0, r1]
theorem boxes_V {F : Fact} (hc : CellsOk 2 F) : Boxes 43 F := fun w v hv => by
  obtain ⟨vs, rfl, hlv, hok⟩ := hc v w hv
  match vs, hlv with
  | [y0, y1], _ =>
    refine ⟨[y0, y1], ?_, rfl, all_notLimb hok, by rw [cellsN_V]; rfl⟩
    clear hv hok
    simp [go_sem]
theorem allocs_V (w : World) : (Instr.alloc 43 true (.tuple #[])).run Tryz.prog w = .ok (.pointer (some ⟨w.heap.size, 0, none⟩)) (w.alloc (.cells [.pointer none, .pointer none].toArray 43)) := by
  simp [go_sem]
theorem zero_V (w : World) : (Agg [Jus (.pointer none), Jus (.pointer none)]).on (.agg [.pointer none, .pointer none].toArray) w := ⟨[.pointer none, .pointer none], rfl, rfl, rfl, trivial⟩
theorem builds_P {s0 s1 : ByteArray} (x0 x1 : Operand) (w : World) (ρ : Operand → Value) (h : All2 w [Tx s0, Tx s1] ((((#[(0, x0), (1, x1)] : Array (Nat × Operand)).toList.map (·.2))).map ρ)) : ∃ v, (Instr.build 24 ((#[(0, x0), (1, x1)] : Array (Nat × Operand)).map fun (i, x) => (i, ρ x))).run Tryz.prog w = .ok v w ∧ (Agg [Tx s0, Tx s1]).on v w := by
  have h' : All2 w [Tx s0, Tx s1] [ρ x0, ρ x1] := h
  refine ⟨.agg #[ρ x0, ρ x1], ?_, _, rfl, h'⟩
  have e0 : ρ x0 = .string s0 := h'.1
  have e1 : ρ x1 = .string s1 := h'.2.1
  clear h h'
  simp [go_sem, e0, e1]
theorem field_L_0 (G : Nat) (w : World) : (Instr.fieldAt 26 (.pointer (some ⟨G, 0, none⟩)) 0).run Tryz.prog w = .ok (.pointer (some ⟨G, 0, none⟩)) w := by
  simp [go_sem]
theorem field_L_1 (G : Nat) (w : World) : (Instr.fieldAt 26 (.pointer (some ⟨G, 0, none⟩)) 1).run Tryz.prog w = .ok (.pointer (some ⟨G, 1, none⟩)) w := by
  simp [go_sem]
theorem field_L_2 (G : Nat) (w : World) : (Instr.fieldAt 26 (.pointer (some ⟨G, 0, none⟩)) 2).run Tryz.prog w = .ok (.pointer (some ⟨G, 2, none⟩)) w := by
  simp [go_sem]
theorem builds0_L (w : World) (ρ : Operand → Value) (_ : All2 w [] (((#[] : Array (Nat × Operand)).toList.map (·.2)).map ρ)) : ∃ v, (Instr.build 26 ((#[] : Array (Nat × Operand)).map fun (i, x) => (i, ρ x))).run Tryz.prog w = .ok v w ∧ (Agg [Jus (.string ⟨#[]⟩), Jus (.string ⟨#[]⟩), Jus (.string ⟨#[]⟩)]).on v w := by
  refine ⟨.agg #[.string ⟨#[]⟩, .string ⟨#[]⟩, .string ⟨#[]⟩], ?_, [.string ⟨#[]⟩, .string ⟨#[]⟩, .string ⟨#[]⟩], rfl, rfl, rfl, rfl, trivial⟩
  simp [go_sem]
theorem field_T_0 (G : Nat) (w : World) : (Instr.fieldAt 67 (.pointer (some ⟨G, 0, none⟩)) 0).run Tryz.prog w = .ok (.pointer (some ⟨G, 0, none⟩)) w := by
  simp [go_sem]
theorem field_T_1 (G : Nat) (w : World) : (Instr.fieldAt 67 (.pointer (some ⟨G, 0, none⟩)) 1).run Tryz.prog w = .ok (.pointer (some ⟨G, 1, none⟩)) w := by
  simp [go_sem]
theorem field_V_0 (G : Nat) (w : World) : (Instr.fieldAt 43 (.pointer (some ⟨G, 0, none⟩)) 0).run Tryz.prog w = .ok (.pointer (some ⟨G, 0, none⟩)) w := by
  simp [go_sem]
theorem field_V_1 (G : Nat) (w : World) : (Instr.fieldAt 43 (.pointer (some ⟨G, 0, none⟩)) 1).run Tryz.prog w = .ok (.pointer (some ⟨G, 1, none⟩)) w := by
  simp [go_sem]
theorem builds_V {q0 q1 : Rat} (x0 x1 : Operand) (w : World) (ρ : Operand → Value) (h : All2 w [Rt q0, Rt q1] ((((#[(0, x0), (1, x1)] : Array (Nat × Operand)).toList.map (·.2))).map ρ)) : ∃ v, (Instr.build 43 ((#[(0, x0), (1, x1)] : Array (Nat × Operand)).map fun (i, x) => (i, ρ x))).run Tryz.prog w = .ok v w ∧ (Agg [Rt q0, Rt q1]).on v w := by
  have h' : All2 w [Rt q0, Rt q1] [ρ x0, ρ x1] := h
  refine ⟨.agg #[ρ x0, ρ x1], ?_, _, rfl, h'⟩
  obtain ⟨g0, e0, _⟩ := h'.1
  obtain ⟨g1, e1, _⟩ := h'.2.1
  clear h h'
  simp [go_sem, e0, e1]
theorem one_Q : OneCell Tryz.prog 22 := fun w G j c h => by
  simp [go_sem, h]
theorem one_R : OneCell Tryz.prog 41 := fun w G j c h => by
  simp [go_sem, h]
def RowS (t : TypeId) (n : Nat) (Fs : List Fact) : Soft := ⟨fun v w => ∃ (G : Nat) (cs : List Value), v = .slice (some ⟨G, 0, none⟩) n n ∧ Blk w G cs.toArray t ∧ All2 w Fs cs, fun hb ⟨G, cs, e, h1, h2⟩ => ⟨G, cs, e, h1.below hb h1.lt, h2.st (Grows.of hb)⟩⟩
theorem bslice_Q3 {s0 s1 s2 : ByteArray} (x0 x1 x2 : Operand) (w : World) (ρ : Operand → Value) (h : All2 w [Tx s0, Tx s1, Tx s2] (((#[(0, x0), (1, x1), (2, x2)] : Array (Nat × Operand)).toList.map (·.2)).map ρ)) : ∃ v w', (Instr.buildSlice 124 3 ((#[(0, x0), (1, x1), (2, x2)] : Array (Nat × Operand)).map fun (i, x) => (i, ρ x))).run Tryz.prog w = .ok v w' ∧ Below w.heap.size w w' ∧ (RowS 22 3 [Tx s0, Tx s1, Tx s2]).on v w' := by
  have h' : All2 w [Tx s0, Tx s1, Tx s2] [ρ x0, ρ x1, ρ x2] := h
  refine ⟨.slice (some ⟨w.heap.size, 0, none⟩) 3 3, w.alloc (.cells [ρ x0, ρ x1, ρ x2].toArray 22), ?_, below_new _ _, w.heap.size, _, rfl, Blk.new _ _ _, h'.st (Grows.of (below_new _ _))⟩
  have e0 : ρ x0 = .string s0 := h'.1
  have e1 : ρ x1 = .string s1 := h'.2.1
  have e2 : ρ x2 = .string s2 := h'.2.2.1
  clear h h'
  simp [go_sem, e0, e1, e2]
theorem bslice_R2 {q0 q1 : Rat} (x0 x1 : Operand) (w : World) (ρ : Operand → Value) (h : All2 w [Rt q0, Rt q1] (((#[(0, x0), (1, x1)] : Array (Nat × Operand)).toList.map (·.2)).map ρ)) : ∃ v w', (Instr.buildSlice 63 2 ((#[(0, x0), (1, x1)] : Array (Nat × Operand)).map fun (i, x) => (i, ρ x))).run Tryz.prog w = .ok v w' ∧ Below w.heap.size w w' ∧ (RowS 41 2 [Rt q0, Rt q1]).on v w' := by
  have h' : All2 w [Rt q0, Rt q1] [ρ x0, ρ x1] := h
  refine ⟨.slice (some ⟨w.heap.size, 0, none⟩) 2 2, w.alloc (.cells [ρ x0, ρ x1].toArray 41), ?_, below_new _ _, w.heap.size, _, rfl, Blk.new _ _ _, h'.st (Grows.of (below_new _ _))⟩
  obtain ⟨g0, e0, _⟩ := h'.1
  obtain ⟨g1, e1, _⟩ := h'.2.1
  clear h h'
  simp [go_sem, e0, e1]
end Go.Proofs.YtgajdmadbdbabaaGreatDoor
/- WB -/
namespace Go.Proofs.YtgajdmadbdbabaaGreatDoor
open Go.RowKit Cx
attribute [local go_sem ↓] Go.wp_at_zero Go.wp_at_succ
theorem wayPlus_walk {w : World} {cax cay cbx cbz : C3} {ax ay bx bz : Rat} (hax : QV w (.agg #[.bool cax.n, .slice cax.u cax.nu cax.cu, .slice cax.l cax.nl cax.cl]) ax) (hay : QV w (.agg #[.bool cay.n, .slice cay.u cay.nu cay.cu, .slice cay.l cay.nl cay.cl]) ay) (hbx : QV w (.agg #[.bool cbx.n, .slice cbx.u cbx.nu cbx.cu, .slice cbx.l cbx.nl cbx.cl]) bx) (hbz : QV w (.agg #[.bool cbz.n, .slice cbz.u cbz.nu cbz.cu, .slice cbz.l cbz.nl cbz.cl]) bz) {k l : Nat} (f1 : QS k ax) (f2 : QS k ay) (f3 : QS l bx) (f4 : QS l bz) (hk : k + l + 1 ≤ 35184372088640) :
    Calls Tryz.prog 108 #[.agg #[.bool cax.n, .slice cax.u cax.nu cax.cu, .slice cax.l cax.nl cax.cl, .bool cay.n, .slice cay.u cay.nu cay.cu, .slice cay.l cay.nl cay.cl], .agg #[.bool cbx.n, .slice cbx.u cbx.nu cbx.cu, .slice cbx.l cbx.nl cbx.cl, .bool cbz.n, .slice cbz.u cbz.nu cbz.cu, .slice cbz.l cbz.nl cbz.cl]] w fun e w' => Below w.heap.size w w' ∧ ∃ v, e = .returned v ∧ WV w' v (ax + bx) (ay + bz) := by
  obtain ⟨hb0, hk0, hk1, hk2, hsz⟩ := boxes3 w #[.bool cax.n, .slice cax.u cax.nu cax.cu, .slice cax.l cax.nl cax.cl, .bool cay.n, .slice cay.u cay.nu cay.cu, .slice cay.l cay.nl cay.cl] #[.bool cbx.n, .slice cbx.u cbx.nu cbx.cu, .slice cbx.l cbx.nl cbx.cl, .bool cbz.n, .slice cbz.u cbz.nu cbz.cu, .slice cbz.l cbz.nl cbz.cl] #[.bool false, .slice none 0 0, .slice none 0 0, .bool false, .slice none 0 0, .slice none 0 0] 86 86 86
  have HB0 := hideIt hb0
  have HSZ := hideIt hsz
  have HK0 := hideIt hk0
  have HK1 := hideIt hk1
  have HK2 := hideIt hk2
  have Hax := hideIt (hax.below hb0)
  have Hay := hideIt (hay.below hb0)
  have Hbx := hideIt (hbx.below hb0)
  have Hbz := hideIt (hbz.below hb0)
  have F1 := hideIt f1
  have F2 := hideIt f2
  have F3 := hideIt f3
  have F4 := hideIt f4
  have HK := hideIt hk
  clear hb0 hsz hk0 hk1 hk2 hax hay hbx hbz f1 f2 f3 f4 hk
  go_enter Tryz.func108, Tryz.ntmps108
  go_wp2_with fail
  generalize (((w.alloc (.cells #[.bool cax.n, .slice cax.u cax.nu cax.cu, .slice cax.l cax.nl cax.cl, .bool cay.n, .slice cay.u cay.nu cay.cu, .slice cay.l cay.nl cay.cl] 86)).alloc (.cells #[.bool cbx.n, .slice cbx.u cbx.nu cbx.cu, .slice cbx.l cbx.nl cbx.cl, .bool cbz.n, .slice cbz.u cbz.nu cbz.cu, .slice cbz.l cbz.nl cbz.cl] 86)).alloc (.cells #[.bool false, .slice none 0 0, .slice none 0 0, .bool false, .slice none 0 0, .slice none 0 0] 86)) = W0 at *
  have HS : Hid (∀ w', Below W0.heap.size W0 w' → w'.cell? ⟨w.heap.size, 0, none⟩ = some (.bool cax.n) ∧ w'.cell? ⟨w.heap.size, 1, none⟩ = some (.slice cax.u cax.nu cax.cu) ∧ w'.cell? ⟨w.heap.size, 2, none⟩ = some (.slice cax.l cax.nl cax.cl) ∧ w'.cell? ⟨w.heap.size, 3, none⟩ = some (.bool cay.n) ∧ w'.cell? ⟨w.heap.size, 4, none⟩ = some (.slice cay.u cay.nu cay.cu) ∧ w'.cell? ⟨w.heap.size, 5, none⟩ = some (.slice cay.l cay.nl cay.cl) ∧ w'.cell? ⟨w.heap.size + 1, 0, none⟩ = some (.bool cbx.n) ∧ w'.cell? ⟨w.heap.size + 1, 1, none⟩ = some (.slice cbx.u cbx.nu cbx.cu) ∧ w'.cell? ⟨w.heap.size + 1, 2, none⟩ = some (.slice cbx.l cbx.nl cbx.cl) ∧ w'.cell? ⟨w.heap.size + 1, 3, none⟩ = some (.bool cbz.n) ∧ w'.cell? ⟨w.heap.size + 1, 4, none⟩ = some (.slice cbz.u cbz.nu cbz.cu) ∧ w'.cell? ⟨w.heap.size + 1, 5, none⟩ = some (.slice cbz.l cbz.nl cbz.cl)) := fun w' hb => ⟨(HK0.out.below hb (by rw [HSZ.out]; omega)).cell 0, (HK0.out.below hb (by rw [HSZ.out]; omega)).cell 1, (HK0.out.below hb (by rw [HSZ.out]; omega)).cell 2, (HK0.out.below hb (by rw [HSZ.out]; omega)).cell 3, (HK0.out.below hb (by rw [HSZ.out]; omega)).cell 4, (HK0.out.below hb (by rw [HSZ.out]; omega)).cell 5, (HK1.out.below hb (by rw [HSZ.out]; omega)).cell 0, (HK1.out.below hb (by rw [HSZ.out]; omega)).cell 1, (HK1.out.below hb (by rw [HSZ.out]; omega)).cell 2, (HK1.out.below hb (by rw [HSZ.out]; omega)).cell 3, (HK1.out.below hb (by rw [HSZ.out]; omega)).cell 4, (HK1.out.below hb (by rw [HSZ.out]; omega)).cell 5⟩
  have HSS : Hid (∀ w', Below W0.heap.size W0 w' → ∀ x0 x1 x2 x3 x4 x5 : Value, ((((((w'.setCell ⟨w.heap.size + 1 + 1, 0, none⟩ (x0)).setCell ⟨w.heap.size + 1 + 1, 1, none⟩ (x1)).setCell ⟨w.heap.size + 1 + 1, 2, none⟩ (x2)).setCell ⟨w.heap.size + 1 + 1, 3, none⟩ (x3)).setCell ⟨w.heap.size + 1 + 1, 4, none⟩ (x4)).setCell ⟨w.heap.size + 1 + 1, 5, none⟩ (x5)).cell? ⟨w.heap.size, 0, none⟩ = some (.bool cax.n) ∧ ((((((w'.setCell ⟨w.heap.size + 1 + 1, 0, none⟩ (x0)).setCell ⟨w.heap.size + 1 + 1, 1, none⟩ (x1)).setCell ⟨w.heap.size + 1 + 1, 2, none⟩ (x2)).setCell ⟨w.heap.size + 1 + 1, 3, none⟩ (x3)).setCell ⟨w.heap.size + 1 + 1, 4, none⟩ (x4)).setCell ⟨w.heap.size + 1 + 1, 5, none⟩ (x5)).cell? ⟨w.heap.size, 1, none⟩ = some (.slice cax.u cax.nu cax.cu) ∧ ((((((w'.setCell ⟨w.heap.size + 1 + 1, 0, none⟩ (x0)).setCell ⟨w.heap.size + 1 + 1, 1, none⟩ (x1)).setCell ⟨w.heap.size + 1 + 1, 2, none⟩ (x2)).setCell ⟨w.heap.size + 1 + 1, 3, none⟩ (x3)).setCell ⟨w.heap.size + 1 + 1, 4, none⟩ (x4)).setCell ⟨w.heap.size + 1 + 1, 5, none⟩ (x5)).cell? ⟨w.heap.size, 2, none⟩ = some (.slice cax.l cax.nl cax.cl) ∧ ((((((w'.setCell ⟨w.heap.size + 1 + 1, 0, none⟩ (x0)).setCell ⟨w.heap.size + 1 + 1, 1, none⟩ (x1)).setCell ⟨w.heap.size + 1 + 1, 2, none⟩ (x2)).setCell ⟨w.heap.size + 1 + 1, 3, none⟩ (x3)).setCell ⟨w.heap.size + 1 + 1, 4, none⟩ (x4)).setCell ⟨w.heap.size + 1 + 1, 5, none⟩ (x5)).cell? ⟨w.heap.size, 3, none⟩ = some (.bool cay.n) ∧ ((((((w'.setCell ⟨w.heap.size + 1 + 1, 0, none⟩ (x0)).setCell ⟨w.heap.size + 1 + 1, 1, none⟩ (x1)).setCell ⟨w.heap.size + 1 + 1, 2, none⟩ (x2)).setCell ⟨w.heap.size + 1 + 1, 3, none⟩ (x3)).setCell ⟨w.heap.size + 1 + 1, 4, none⟩ (x4)).setCell ⟨w.heap.size + 1 + 1, 5, none⟩ (x5)).cell? ⟨w.heap.size, 4, none⟩ = some (.slice cay.u cay.nu cay.cu) ∧ ((((((w'.setCell ⟨w.heap.size + 1 + 1, 0, none⟩ (x0)).setCell ⟨w.heap.size + 1 + 1, 1, none⟩ (x1)).setCell ⟨w.heap.size + 1 + 1, 2, none⟩ (x2)).setCell ⟨w.heap.size + 1 + 1, 3, none⟩ (x3)).setCell ⟨w.heap.size + 1 + 1, 4, none⟩ (x4)).setCell ⟨w.heap.size + 1 + 1, 5, none⟩ (x5)).cell? ⟨w.heap.size, 5, none⟩ = some (.slice cay.l cay.nl cay.cl) ∧ ((((((w'.setCell ⟨w.heap.size + 1 + 1, 0, none⟩ (x0)).setCell ⟨w.heap.size + 1 + 1, 1, none⟩ (x1)).setCell ⟨w.heap.size + 1 + 1, 2, none⟩ (x2)).setCell ⟨w.heap.size + 1 + 1, 3, none⟩ (x3)).setCell ⟨w.heap.size + 1 + 1, 4, none⟩ (x4)).setCell ⟨w.heap.size + 1 + 1, 5, none⟩ (x5)).cell? ⟨w.heap.size + 1, 0, none⟩ = some (.bool cbx.n) ∧ ((((((w'.setCell ⟨w.heap.size + 1 + 1, 0, none⟩ (x0)).setCell ⟨w.heap.size + 1 + 1, 1, none⟩ (x1)).setCell ⟨w.heap.size + 1 + 1, 2, none⟩ (x2)).setCell ⟨w.heap.size + 1 + 1, 3, none⟩ (x3)).setCell ⟨w.heap.size + 1 + 1, 4, none⟩ (x4)).setCell ⟨w.heap.size + 1 + 1, 5, none⟩ (x5)).cell? ⟨w.heap.size + 1, 1, none⟩ = some (.slice cbx.u cbx.nu cbx.cu) ∧ ((((((w'.setCell ⟨w.heap.size + 1 + 1, 0, none⟩ (x0)).setCell ⟨w.heap.size + 1 + 1, 1, none⟩ (x1)).setCell ⟨w.heap.size + 1 + 1, 2, none⟩ (x2)).setCell ⟨w.heap.size + 1 + 1, 3, none⟩ (x3)).setCell ⟨w.heap.size + 1 + 1, 4, none⟩ (x4)).setCell ⟨w.heap.size + 1 + 1, 5, none⟩ (x5)).cell? ⟨w.heap.size + 1, 2, none⟩ = some (.slice cbx.l cbx.nl cbx.cl) ∧ ((((((w'.setCell ⟨w.heap.size + 1 + 1, 0, none⟩ (x0)).setCell ⟨w.heap.size + 1 + 1, 1, none⟩ (x1)).setCell ⟨w.heap.size + 1 + 1, 2, none⟩ (x2)).setCell ⟨w.heap.size + 1 + 1, 3, none⟩ (x3)).setCell ⟨w.heap.size + 1 + 1, 4, none⟩ (x4)).setCell ⟨w.heap.size + 1 + 1, 5, none⟩ (x5)).cell? ⟨w.heap.size + 1, 3, none⟩ = some (.bool cbz.n) ∧ ((((((w'.setCell ⟨w.heap.size + 1 + 1, 0, none⟩ (x0)).setCell ⟨w.heap.size + 1 + 1, 1, none⟩ (x1)).setCell ⟨w.heap.size + 1 + 1, 2, none⟩ (x2)).setCell ⟨w.heap.size + 1 + 1, 3, none⟩ (x3)).setCell ⟨w.heap.size + 1 + 1, 4, none⟩ (x4)).setCell ⟨w.heap.size + 1 + 1, 5, none⟩ (x5)).cell? ⟨w.heap.size + 1, 4, none⟩ = some (.slice cbz.u cbz.nu cbz.cu) ∧ ((((((w'.setCell ⟨w.heap.size + 1 + 1, 0, none⟩ (x0)).setCell ⟨w.heap.size + 1 + 1, 1, none⟩ (x1)).setCell ⟨w.heap.size + 1 + 1, 2, none⟩ (x2)).setCell ⟨w.heap.size + 1 + 1, 3, none⟩ (x3)).setCell ⟨w.heap.size + 1 + 1, 4, none⟩ (x4)).setCell ⟨w.heap.size + 1 + 1, 5, none⟩ (x5)).cell? ⟨w.heap.size + 1, 5, none⟩ = some (.slice cbz.l cbz.nl cbz.cl)) := fun w' hb x0 x1 x2 x3 x4 x5 => ⟨((HK0.out.below hb (by rw [HSZ.out]; omega)).off6 (g := w.heap.size + 1 + 1) (by omega) x0 x1 x2 x3 x4 x5).cell 0, ((HK0.out.below hb (by rw [HSZ.out]; omega)).off6 (g := w.heap.size + 1 + 1) (by omega) x0 x1 x2 x3 x4 x5).cell 1, ((HK0.out.below hb (by rw [HSZ.out]; omega)).off6 (g := w.heap.size + 1 + 1) (by omega) x0 x1 x2 x3 x4 x5).cell 2, ((HK0.out.below hb (by rw [HSZ.out]; omega)).off6 (g := w.heap.size + 1 + 1) (by omega) x0 x1 x2 x3 x4 x5).cell 3, ((HK0.out.below hb (by rw [HSZ.out]; omega)).off6 (g := w.heap.size + 1 + 1) (by omega) x0 x1 x2 x3 x4 x5).cell 4, ((HK0.out.below hb (by rw [HSZ.out]; omega)).off6 (g := w.heap.size + 1 + 1) (by omega) x0 x1 x2 x3 x4 x5).cell 5, ((HK1.out.below hb (by rw [HSZ.out]; omega)).off6 (g := w.heap.size + 1 + 1) (by omega) x0 x1 x2 x3 x4 x5).cell 0, ((HK1.out.below hb (by rw [HSZ.out]; omega)).off6 (g := w.heap.size + 1 + 1) (by omega) x0 x1 x2 x3 x4 x5).cell 1, ((HK1.out.below hb (by rw [HSZ.out]; omega)).off6 (g := w.heap.size + 1 + 1) (by omega) x0 x1 x2 x3 x4 x5).cell 2, ((HK1.out.below hb (by rw [HSZ.out]; omega)).off6 (g := w.heap.size + 1 + 1) (by omega) x0 x1 x2 x3 x4 x5).cell 3, ((HK1.out.below hb (by rw [HSZ.out]; omega)).off6 (g := w.heap.size + 1 + 1) (by omega) x0 x1 x2 x3 x4 x5).cell 4, ((HK1.out.below hb (by rw [HSZ.out]; omega)).off6 (g := w.heap.size + 1 + 1) (by omega) x0 x1 x2 x3 x4 x5).cell 5⟩
  obtain ⟨z0, z1, z2, z3, z4, z5, z6, z7, z8, z9, z10, z11⟩ := HS.out W0 (Below.refl _ _)
  go_region_held3 (fun w' => w'.cell? ⟨w.heap.size, 0, none⟩ = some (.bool cax.n) ∧ w'.cell? ⟨w.heap.size, 1, none⟩ = some (.slice cax.u cax.nu cax.cu) ∧ w'.cell? ⟨w.heap.size, 2, none⟩ = some (.slice cax.l cax.nl cax.cl) ∧ w'.cell? ⟨w.heap.size, 3, none⟩ = some (.bool cay.n) ∧ w'.cell? ⟨w.heap.size, 4, none⟩ = some (.slice cay.u cay.nu cay.cu) ∧ w'.cell? ⟨w.heap.size, 5, none⟩ = some (.slice cay.l cay.nl cay.cl) ∧ w'.cell? ⟨w.heap.size + 1, 0, none⟩ = some (.bool cbx.n) ∧ w'.cell? ⟨w.heap.size + 1, 1, none⟩ = some (.slice cbx.u cbx.nu cbx.cu) ∧ w'.cell? ⟨w.heap.size + 1, 2, none⟩ = some (.slice cbx.l cbx.nl cbx.cl) ∧ w'.cell? ⟨w.heap.size + 1, 3, none⟩ = some (.bool cbz.n) ∧ w'.cell? ⟨w.heap.size + 1, 4, none⟩ = some (.slice cbz.u cbz.nu cbz.cu) ∧ w'.cell? ⟨w.heap.size + 1, 5, none⟩ = some (.slice cbz.l cbz.nl cbz.cl)) (first | go_keep | exact hs1 | exact hs2 | exact hkS)
    (first
      | (go_at_call_of 149 (Value.agg #[Value.bool cax.n, Value.slice cax.u cax.nu cax.cu, Value.slice cax.l cax.nl cax.cl]); refine (plus_calls (w := W0.drew) (Hax.out.below (Below.drew (Below.refl _ _))) (Hbx.out.below (Below.drew (Below.refl _ _))) F1.out F3.out HK.out).mono ?_; rintro e w1 ⟨hb1, v1, rfl, hv1⟩; have hbl1 : Below W0.heap.size W0 w1 := (Below.drew (Below.refl _ W0)).trans hb1; obtain ⟨d1, rfl⟩ := qv_open hv1; have hs1 := HS.out w1 hbl1)
      | (go_at_call_of 149 (Value.agg #[Value.bool cay.n, Value.slice cay.u cay.nu cay.cu, Value.slice cay.l cay.nl cay.cl]); refine (plus_calls (Hay.out.below hbl1) (Hbz.out.below hbl1) F2.out F4.out HK.out).mono ?_; rintro e w2 ⟨hb2, v2, rfl, hv2⟩; have hbl2 := hbl1.trans (hb2.mono hbl1.size); obtain ⟨d2, rfl⟩ := qv_open hv2; have hs2 := HS.out w2 hbl2; have hkr := HK2.out.below hbl2 (by rw [HSZ.out]; omega); obtain ⟨r0, r1, r2, r3, r4, r5, f0, f1, f2, f3, f4, f5⟩ := hkr.all6; have hkS := HSS.out w2 hbl2 (.bool d1.n) (.slice d1.u d1.nu d1.cu) (.slice d1.l d1.nl d1.cl) (.bool d2.n) (.slice d2.u d2.nu d2.cu) (.slice d2.l d2.nl d2.cl))
      )
  all_goals
    go_wp2
    obtain ⟨k0, k1, k2, k3, k4, k5, _, _, _, _, _, _⟩ := (hkr.put6 (.bool d1.n) (.slice d1.u d1.nu d1.cu) (.slice d1.l d1.nl d1.cl) (.bool d2.n) (.slice d2.u d2.nu d2.cu) (.slice d2.l d2.nl d2.cl)).all6
    refine bodyPost_ret (v := .agg #[.bool d1.n, .slice d1.u d1.nu d1.cu, .slice d1.l d1.nl d1.cl, .bool d2.n, .slice d2.u d2.nu d2.cu, .slice d2.l d2.nl d2.cl]) (by simp [results, Tryz.results108, go_sem, k0, k1, k2, k3, k4, k5]) rfl ⟨Below.put6 (HB0.out.trans (hbl2.mono HB0.out.size)) (by omega) (.bool d1.n) (.slice d1.u d1.nu d1.cu) (.slice d1.l d1.nl d1.cl) (.bool d2.n) (.slice d2.u d2.nu d2.cu) (.slice d2.l d2.nl d2.cl), _, rfl, ?_⟩
    have hst := Stays.put6 hkr (by simp [notLimb]) (.bool d1.n) (.slice d1.u d1.nu d1.cu) (.slice d1.l d1.nl d1.cl) (.bool d2.n) (.slice d2.u d2.nu d2.cu) (.slice d2.l d2.nl d2.cl) rfl rfl rfl rfl rfl rfl
    exact ⟨d1, d2, rfl, hst.qv (hv1.below hb2), hst.qv hv2⟩
theorem wayMinus_walk {w : World} {cax cay cbx cbz : C3} {ax ay bx bz : Rat} (hax : QV w (.agg #[.bool cax.n, .slice cax.u cax.nu cax.cu, .slice cax.l cax.nl cax.cl]) ax) (hay : QV w (.agg #[.bool cay.n, .slice cay.u cay.nu cay.cu, .slice cay.l cay.nl cay.cl]) ay) (hbx : QV w (.agg #[.bool cbx.n, .slice cbx.u cbx.nu cbx.cu, .slice cbx.l cbx.nl cbx.cl]) bx) (hbz : QV w (.agg #[.bool cbz.n, .slice cbz.u cbz.nu cbz.cu, .slice cbz.l cbz.nl cbz.cl]) bz) {k l : Nat} (f1 : QS k ax) (f2 : QS k ay) (f3 : QS l bx) (f4 : QS l bz) (hk : k + l + 1 ≤ 35184372088640) :
    Calls Tryz.prog 64 #[.agg #[.bool cax.n, .slice cax.u cax.nu cax.cu, .slice cax.l cax.nl cax.cl, .bool cay.n, .slice cay.u cay.nu cay.cu, .slice cay.l cay.nl cay.cl], .agg #[.bool cbx.n, .slice cbx.u cbx.nu cbx.cu, .slice cbx.l cbx.nl cbx.cl, .bool cbz.n, .slice cbz.u cbz.nu cbz.cu, .slice cbz.l cbz.nl cbz.cl]] w fun e w' => Below w.heap.size w w' ∧ ∃ v, e = .returned v ∧ WV w' v (ax - bx) (ay - bz) := by
  obtain ⟨hb0, hk0, hk1, hk2, hsz⟩ := boxes3 w #[.bool cax.n, .slice cax.u cax.nu cax.cu, .slice cax.l cax.nl cax.cl, .bool cay.n, .slice cay.u cay.nu cay.cu, .slice cay.l cay.nl cay.cl] #[.bool cbx.n, .slice cbx.u cbx.nu cbx.cu, .slice cbx.l cbx.nl cbx.cl, .bool cbz.n, .slice cbz.u cbz.nu cbz.cu, .slice cbz.l cbz.nl cbz.cl] #[.bool false, .slice none 0 0, .slice none 0 0, .bool false, .slice none 0 0, .slice none 0 0] 86 86 86
  have HB0 := hideIt hb0
  have HSZ := hideIt hsz
  have HK0 := hideIt hk0
  have HK1 := hideIt hk1
  have HK2 := hideIt hk2
  have Hax := hideIt (hax.below hb0)
  have Hay := hideIt (hay.below hb0)
  have Hbx := hideIt (hbx.below hb0)
  have Hbz := hideIt (hbz.below hb0)
  have F1 := hideIt f1
  have F2 := hideIt f2
  have F3 := hideIt f3
  have F4 := hideIt f4
  have HK := hideIt hk
  clear hb0 hsz hk0 hk1 hk2 hax hay hbx hbz f1 f2 f3 f4 hk
  go_enter Tryz.func64, Tryz.ntmps64
  go_wp2_with fail
  generalize (((w.alloc (.cells #[.bool cax.n, .slice cax.u cax.nu cax.cu, .slice cax.l cax.nl cax.cl, .bool cay.n, .slice cay.u cay.nu cay.cu, .slice cay.l cay.nl cay.cl] 86)).alloc (.cells #[.bool cbx.n, .slice cbx.u cbx.nu cbx.cu, .slice cbx.l cbx.nl cbx.cl, .bool cbz.n, .slice cbz.u cbz.nu cbz.cu, .slice cbz.l cbz.nl cbz.cl] 86)).alloc (.cells #[.bool false, .slice none 0 0, .slice none 0 0, .bool false, .slice none 0 0, .slice none 0 0] 86)) = W0 at *
  have HS : Hid (∀ w', Below W0.heap.size W0 w' → w'.cell? ⟨w.heap.size, 0, none⟩ = some (.bool cax.n) ∧ w'.cell? ⟨w.heap.size, 1, none⟩ = some (.slice cax.u cax.nu cax.cu) ∧ w'.cell? ⟨w.heap.size, 2, none⟩ = some (.slice cax.l cax.nl cax.cl) ∧ w'.cell? ⟨w.heap.size, 3, none⟩ = some (.bool cay.n) ∧ w'.cell? ⟨w.heap.size, 4, none⟩ = some (.slice cay.u cay.nu cay.cu) ∧ w'.cell? ⟨w.heap.size, 5, none⟩ = some (.slice cay.l cay.nl cay.cl) ∧ w'.cell? ⟨w.heap.size + 1, 0, none⟩ = some (.bool cbx.n) ∧ w'.cell? ⟨w.heap.size + 1, 1, none⟩ = some (.slice cbx.u cbx.nu cbx.cu) ∧ w'.cell? ⟨w.heap.size + 1, 2, none⟩ = some (.slice cbx.l cbx.nl cbx.cl) ∧ w'.cell? ⟨w.heap.size + 1, 3, none⟩ = some (.bool cbz.n) ∧ w'.cell? ⟨w.heap.size + 1, 4, none⟩ = some (.slice cbz.u cbz.nu cbz.cu) ∧ w'.cell? ⟨w.heap.size + 1, 5, none⟩ = some (.slice cbz.l cbz.nl cbz.cl)) := fun w' hb => ⟨(HK0.out.below hb (by rw [HSZ.out]; omega)).cell 0, (HK0.out.below hb (by rw [HSZ.out]; omega)).cell 1, (HK0.out.below hb (by rw [HSZ.out]; omega)).cell 2, (HK0.out.below hb (by rw [HSZ.out]; omega)).cell 3, (HK0.out.below hb (by rw [HSZ.out]; omega)).cell 4, (HK0.out.below hb (by rw [HSZ.out]; omega)).cell 5, (HK1.out.below hb (by rw [HSZ.out]; omega)).cell 0, (HK1.out.below hb (by rw [HSZ.out]; omega)).cell 1, (HK1.out.below hb (by rw [HSZ.out]; omega)).cell 2, (HK1.out.below hb (by rw [HSZ.out]; omega)).cell 3, (HK1.out.below hb (by rw [HSZ.out]; omega)).cell 4, (HK1.out.below hb (by rw [HSZ.out]; omega)).cell 5⟩
  have HSS : Hid (∀ w', Below W0.heap.size W0 w' → ∀ x0 x1 x2 x3 x4 x5 : Value, ((((((w'.setCell ⟨w.heap.size + 1 + 1, 0, none⟩ (x0)).setCell ⟨w.heap.size + 1 + 1, 1, none⟩ (x1)).setCell ⟨w.heap.size + 1 + 1, 2, none⟩ (x2)).setCell ⟨w.heap.size + 1 + 1, 3, none⟩ (x3)).setCell ⟨w.heap.size + 1 + 1, 4, none⟩ (x4)).setCell ⟨w.heap.size + 1 + 1, 5, none⟩ (x5)).cell? ⟨w.heap.size, 0, none⟩ = some (.bool cax.n) ∧ ((((((w'.setCell ⟨w.heap.size + 1 + 1, 0, none⟩ (x0)).setCell ⟨w.heap.size + 1 + 1, 1, none⟩ (x1)).setCell ⟨w.heap.size + 1 + 1, 2, none⟩ (x2)).setCell ⟨w.heap.size + 1 + 1, 3, none⟩ (x3)).setCell ⟨w.heap.size + 1 + 1, 4, none⟩ (x4)).setCell ⟨w.heap.size + 1 + 1, 5, none⟩ (x5)).cell? ⟨w.heap.size, 1, none⟩ = some (.slice cax.u cax.nu cax.cu) ∧ ((((((w'.setCell ⟨w.heap.size + 1 + 1, 0, none⟩ (x0)).setCell ⟨w.heap.size + 1 + 1, 1, none⟩ (x1)).setCell ⟨w.heap.size + 1 + 1, 2, none⟩ (x2)).setCell ⟨w.heap.size + 1 + 1, 3, none⟩ (x3)).setCell ⟨w.heap.size + 1 + 1, 4, none⟩ (x4)).setCell ⟨w.heap.size + 1 + 1, 5, none⟩ (x5)).cell? ⟨w.heap.size, 2, none⟩ = some (.slice cax.l cax.nl cax.cl) ∧ ((((((w'.setCell ⟨w.heap.size + 1 + 1, 0, none⟩ (x0)).setCell ⟨w.heap.size + 1 + 1, 1, none⟩ (x1)).setCell ⟨w.heap.size + 1 + 1, 2, none⟩ (x2)).setCell ⟨w.heap.size + 1 + 1, 3, none⟩ (x3)).setCell ⟨w.heap.size + 1 + 1, 4, none⟩ (x4)).setCell ⟨w.heap.size + 1 + 1, 5, none⟩ (x5)).cell? ⟨w.heap.size, 3, none⟩ = some (.bool cay.n) ∧ ((((((w'.setCell ⟨w.heap.size + 1 + 1, 0, none⟩ (x0)).setCell ⟨w.heap.size + 1 + 1, 1, none⟩ (x1)).setCell ⟨w.heap.size + 1 + 1, 2, none⟩ (x2)).setCell ⟨w.heap.size + 1 + 1, 3, none⟩ (x3)).setCell ⟨w.heap.size + 1 + 1, 4, none⟩ (x4)).setCell ⟨w.heap.size + 1 + 1, 5, none⟩ (x5)).cell? ⟨w.heap.size, 4, none⟩ = some (.slice cay.u cay.nu cay.cu) ∧ ((((((w'.setCell ⟨w.heap.size + 1 + 1, 0, none⟩ (x0)).setCell ⟨w.heap.size + 1 + 1, 1, none⟩ (x1)).setCell ⟨w.heap.size + 1 + 1, 2, none⟩ (x2)).setCell ⟨w.heap.size + 1 + 1, 3, none⟩ (x3)).setCell ⟨w.heap.size + 1 + 1, 4, none⟩ (x4)).setCell ⟨w.heap.size + 1 + 1, 5, none⟩ (x5)).cell? ⟨w.heap.size, 5, none⟩ = some (.slice cay.l cay.nl cay.cl) ∧ ((((((w'.setCell ⟨w.heap.size + 1 + 1, 0, none⟩ (x0)).setCell ⟨w.heap.size + 1 + 1, 1, none⟩ (x1)).setCell ⟨w.heap.size + 1 + 1, 2, none⟩ (x2)).setCell ⟨w.heap.size + 1 + 1, 3, none⟩ (x3)).setCell ⟨w.heap.size + 1 + 1, 4, none⟩ (x4)).setCell ⟨w.heap.size + 1 + 1, 5, none⟩ (x5)).cell? ⟨w.heap.size + 1, 0, none⟩ = some (.bool cbx.n) ∧ ((((((w'.setCell ⟨w.heap.size + 1 + 1, 0, none⟩ (x0)).setCell ⟨w.heap.size + 1 + 1, 1, none⟩ (x1)).setCell ⟨w.heap.size + 1 + 1, 2, none⟩ (x2)).setCell ⟨w.heap.size + 1 + 1, 3, none⟩ (x3)).setCell ⟨w.heap.size + 1 + 1, 4, none⟩ (x4)).setCell ⟨w.heap.size + 1 + 1, 5, none⟩ (x5)).cell? ⟨w.heap.size + 1, 1, none⟩ = some (.slice cbx.u cbx.nu cbx.cu) ∧ ((((((w'.setCell ⟨w.heap.size + 1 + 1, 0, none⟩ (x0)).setCell ⟨w.heap.size + 1 + 1, 1, none⟩ (x1)).setCell ⟨w.heap.size + 1 + 1, 2, none⟩ (x2)).setCell ⟨w.heap.size + 1 + 1, 3, none⟩ (x3)).setCell ⟨w.heap.size + 1 + 1, 4, none⟩ (x4)).setCell ⟨w.heap.size + 1 + 1, 5, none⟩ (x5)).cell? ⟨w.heap.size + 1, 2, none⟩ = some (.slice cbx.l cbx.nl cbx.cl) ∧ ((((((w'.setCell ⟨w.heap.size + 1 + 1, 0, none⟩ (x0)).setCell ⟨w.heap.size + 1 + 1, 1, none⟩ (x1)).setCell ⟨w.heap.size + 1 + 1, 2, none⟩ (x2)).setCell ⟨w.heap.size + 1 + 1, 3, none⟩ (x3)).setCell ⟨w.heap.size + 1 + 1, 4, none⟩ (x4)).setCell ⟨w.heap.size + 1 + 1, 5, none⟩ (x5)).cell? ⟨w.heap.size + 1, 3, none⟩ = some (.bool cbz.n) ∧ ((((((w'.setCell ⟨w.heap.size + 1 + 1, 0, none⟩ (x0)).setCell ⟨w.heap.size + 1 + 1, 1, none⟩ (x1)).setCell ⟨w.heap.size + 1 + 1, 2, none⟩ (x2)).setCell ⟨w.heap.size + 1 + 1, 3, none⟩ (x3)).setCell ⟨w.heap.size + 1 + 1, 4, none⟩ (x4)).setCell ⟨w.heap.size + 1 + 1, 5, none⟩ (x5)).cell? ⟨w.heap.size + 1, 4, none⟩ = some (.slice cbz.u cbz.nu cbz.cu) ∧ ((((((w'.setCell ⟨w.heap.size + 1 + 1, 0, none⟩ (x0)).setCell ⟨w.heap.size + 1 + 1, 1, none⟩ (x1)).setCell ⟨w.heap.size + 1 + 1, 2, none⟩ (x2)).setCell ⟨w.heap.size + 1 + 1, 3, none⟩ (x3)).setCell ⟨w.heap.size + 1 + 1, 4, none⟩ (x4)).setCell ⟨w.heap.size + 1 + 1, 5, none⟩ (x5)).cell? ⟨w.heap.size + 1, 5, none⟩ = some (.slice cbz.l cbz.nl cbz.cl)) := fun w' hb x0 x1 x2 x3 x4 x5 => ⟨((HK0.out.below hb (by rw [HSZ.out]; omega)).off6 (g := w.heap.size + 1 + 1) (by omega) x0 x1 x2 x3 x4 x5).cell 0, ((HK0.out.below hb (by rw [HSZ.out]; omega)).off6 (g := w.heap.size + 1 + 1) (by omega) x0 x1 x2 x3 x4 x5).cell 1, ((HK0.out.below hb (by rw [HSZ.out]; omega)).off6 (g := w.heap.size + 1 + 1) (by omega) x0 x1 x2 x3 x4 x5).cell 2, ((HK0.out.below hb (by rw [HSZ.out]; omega)).off6 (g := w.heap.size + 1 + 1) (by omega) x0 x1 x2 x3 x4 x5).cell 3, ((HK0.out.below hb (by rw [HSZ.out]; omega)).off6 (g := w.heap.size + 1 + 1) (by omega) x0 x1 x2 x3 x4 x5).cell 4, ((HK0.out.below hb (by rw [HSZ.out]; omega)).off6 (g := w.heap.size + 1 + 1) (by omega) x0 x1 x2 x3 x4 x5).cell 5, ((HK1.out.below hb (by rw [HSZ.out]; omega)).off6 (g := w.heap.size + 1 + 1) (by omega) x0 x1 x2 x3 x4 x5).cell 0, ((HK1.out.below hb (by rw [HSZ.out]; omega)).off6 (g := w.heap.size + 1 + 1) (by omega) x0 x1 x2 x3 x4 x5).cell 1, ((HK1.out.below hb (by rw [HSZ.out]; omega)).off6 (g := w.heap.size + 1 + 1) (by omega) x0 x1 x2 x3 x4 x5).cell 2, ((HK1.out.below hb (by rw [HSZ.out]; omega)).off6 (g := w.heap.size + 1 + 1) (by omega) x0 x1 x2 x3 x4 x5).cell 3, ((HK1.out.below hb (by rw [HSZ.out]; omega)).off6 (g := w.heap.size + 1 + 1) (by omega) x0 x1 x2 x3 x4 x5).cell 4, ((HK1.out.below hb (by rw [HSZ.out]; omega)).off6 (g := w.heap.size + 1 + 1) (by omega) x0 x1 x2 x3 x4 x5).cell 5⟩
  obtain ⟨z0, z1, z2, z3, z4, z5, z6, z7, z8, z9, z10, z11⟩ := HS.out W0 (Below.refl _ _)
  go_region_held3 (fun w' => w'.cell? ⟨w.heap.size, 0, none⟩ = some (.bool cax.n) ∧ w'.cell? ⟨w.heap.size, 1, none⟩ = some (.slice cax.u cax.nu cax.cu) ∧ w'.cell? ⟨w.heap.size, 2, none⟩ = some (.slice cax.l cax.nl cax.cl) ∧ w'.cell? ⟨w.heap.size, 3, none⟩ = some (.bool cay.n) ∧ w'.cell? ⟨w.heap.size, 4, none⟩ = some (.slice cay.u cay.nu cay.cu) ∧ w'.cell? ⟨w.heap.size, 5, none⟩ = some (.slice cay.l cay.nl cay.cl) ∧ w'.cell? ⟨w.heap.size + 1, 0, none⟩ = some (.bool cbx.n) ∧ w'.cell? ⟨w.heap.size + 1, 1, none⟩ = some (.slice cbx.u cbx.nu cbx.cu) ∧ w'.cell? ⟨w.heap.size + 1, 2, none⟩ = some (.slice cbx.l cbx.nl cbx.cl) ∧ w'.cell? ⟨w.heap.size + 1, 3, none⟩ = some (.bool cbz.n) ∧ w'.cell? ⟨w.heap.size + 1, 4, none⟩ = some (.slice cbz.u cbz.nu cbz.cu) ∧ w'.cell? ⟨w.heap.size + 1, 5, none⟩ = some (.slice cbz.l cbz.nl cbz.cl)) (first | go_keep | exact hs1 | exact hs2 | exact hkS)
    (first
      | (go_at_call_of 106 (Value.agg #[Value.bool cax.n, Value.slice cax.u cax.nu cax.cu, Value.slice cax.l cax.nl cax.cl]); refine (minus_calls (w := W0.drew) (Hax.out.below (Below.drew (Below.refl _ _))) (Hbx.out.below (Below.drew (Below.refl _ _))) F1.out F3.out HK.out).mono ?_; rintro e w1 ⟨hb1, v1, rfl, hv1⟩; have hbl1 : Below W0.heap.size W0 w1 := (Below.drew (Below.refl _ W0)).trans hb1; obtain ⟨d1, rfl⟩ := qv_open hv1; have hs1 := HS.out w1 hbl1)
      | (go_at_call_of 106 (Value.agg #[Value.bool cay.n, Value.slice cay.u cay.nu cay.cu, Value.slice cay.l cay.nl cay.cl]); refine (minus_calls (Hay.out.below hbl1) (Hbz.out.below hbl1) F2.out F4.out HK.out).mono ?_; rintro e w2 ⟨hb2, v2, rfl, hv2⟩; have hbl2 := hbl1.trans (hb2.mono hbl1.size); obtain ⟨d2, rfl⟩ := qv_open hv2; have hs2 := HS.out w2 hbl2; have hkr := HK2.out.below hbl2 (by rw [HSZ.out]; omega); obtain ⟨r0, r1, r2, r3, r4, r5, f0, f1, f2, f3, f4, f5⟩ := hkr.all6; have hkS := HSS.out w2 hbl2 (.bool d1.n) (.slice d1.u d1.nu d1.cu) (.slice d1.l d1.nl d1.cl) (.bool d2.n) (.slice d2.u d2.nu d2.cu) (.slice d2.l d2.nl d2.cl))
      )
  all_goals
    go_wp2
    obtain ⟨k0, k1, k2, k3, k4, k5, _, _, _, _, _, _⟩ := (hkr.put6 (.bool d1.n) (.slice d1.u d1.nu d1.cu) (.slice d1.l d1.nl d1.cl) (.bool d2.n) (.slice d2.u d2.nu d2.cu) (.slice d2.l d2.nl d2.cl)).all6
    refine bodyPost_ret (v := .agg #[.bool d1.n, .slice d1.u d1.nu d1.cu, .slice d1.l d1.nl d1.cl, .bool d2.n, .slice d2.u d2.nu d2.cu, .slice d2.l d2.nl d2.cl]) (by simp [results, Tryz.results64, go_sem, k0, k1, k2, k3, k4, k5]) rfl ⟨Below.put6 (HB0.out.trans (hbl2.mono HB0.out.size)) (by omega) (.bool d1.n) (.slice d1.u d1.nu d1.cu) (.slice d1.l d1.nl d1.cl) (.bool d2.n) (.slice d2.u d2.nu d2.cu) (.slice d2.l d2.nl d2.cl), _, rfl, ?_⟩
    have hst := Stays.put6 hkr (by simp [notLimb]) (.bool d1.n) (.slice d1.u d1.nu d1.cu) (.slice d1.l d1.nl d1.cl) (.bool d2.n) (.slice d2.u d2.nu d2.cu) (.slice d2.l d2.nl d2.cl) rfl rfl rfl rfl rfl rfl
    exact ⟨d1, d2, rfl, hst.qv (hv1.below hb2), hst.qv hv2⟩
theorem wayMinus_calls {w : World} {va vb : Value} {ax ay bx bz : Rat} {k l : Nat} (ha : WV w va ax ay) (hb : WV w vb bx bz) (f1 : QS k ax) (f2 : QS k ay) (f3 : QS l bx) (f4 : QS l bz) (hk : k + l + 1 ≤ 35184372088640) :
    Calls Tryz.prog 64 #[va, vb] w fun e w' => Below w.heap.size w w' ∧ ∃ v, e = .returned v ∧ WV w' v (ax - bx) (ay - bz) := by
  obtain ⟨c1, c2, rfl, h1, h2⟩ := ha
  obtain ⟨c3, c4, rfl, h3, h4⟩ := hb
  exact wayMinus_walk h1 h2 h3 h4 f1 f2 f3 f4 hk
end Go.Proofs.YtgajdmadbdbabaaGreatDoor
/- WH -/
namespace Go.Proofs.YtgajdmadbdbabaaGreatDoor
open Go.RowKit Cx
attribute [local go_sem ↓] Go.wp_at_zero Go.wp_at_succ
end Go.Proofs.YtgajdmadbdbabaaGreatDoor
/- WY -/
namespace Go.Proofs.YtgajdmadbdbabaaGreatDoor
open Go.RowKit Cx
attribute [local go_sem ↓] Go.wp_at_zero Go.wp_at_succ
end Go.Proofs.YtgajdmadbdbabaaGreatDoor
/- RE -/
namespace Go.Proofs.YtgajdmadbdbabaaGreatDoor
open Go.RowKit Cx
attribute [local go_sem ↓] Go.wp_at_zero Go.wp_at_succ
theorem bytes_of {s : ByteArray} {l : List UInt8} (h : s.data.toList = l) : s = ⟨l.toArray⟩ := by
  apply ByteArray.ext
  apply Array.ext'
  simpa using h
end Go.Proofs.YtgajdmadbdbabaaGreatDoor
/- RH -/
namespace Go.Proofs.YtgajdmadbdbabaaGreatDoor
open Go.RowKit Cx
attribute [local go_sem ↓] Go.wp_at_zero Go.wp_at_succ
theorem refOfS_calls (s : ByteArray) (w : World) (hm : MaxL w) (hs : s.size ≤ 4294967280) :
    Calls Tryz.prog 79 #[.string s] w fun e w' => Below w.heap.size w w' ∧ ∃ v, e = .returned v ∧ PR w' v (rd s.data.toList) := by
  refine (refOf_calls s w hm hs).mono ?_
  rintro e w' ⟨hb, g, rfl, _, h⟩
  exact ⟨hb, _, rfl, _, rfl, h⟩
end Go.Proofs.YtgajdmadbdbabaaGreatDoor
/- RLA -/
namespace Go.Proofs.YtgajdmadbdbabaaGreatDoor
open Go.RowKit Cx
attribute [local go_sem ↓] Go.wp_at_zero Go.wp_at_succ
theorem refLine_calls {w : World} {la lb lc : ByteArray} (s1 : la.size ≤ 4294967280) (s2 : lb.size ≤ 4294967280) (_ : lc.size ≤ 4294967280) (mx : MaxL w) :
    Calls Tryz.prog 23 #[.agg #[.string la, .string lb, .string lc]] w fun e w' => Below w.heap.size w w' ∧ e = .returned (.bool (decide (¬ ((rd la.data.toList) = 0 ∧ (rd lb.data.toList) = 0)))) := by
  obtain ⟨hb0, hk0, hsz⟩ := boxes1 w #[.string la, .string lb, .string lc] 26
  have HB0 := hideIt2 hb0
  have HK0 := hideIt2 hk0
  have HSZ := hideIt2 hsz
  have HM := hideIt2 (mx.below hb0)
  clear hb0 hk0 hsz mx
  obtain ⟨res, hres⟩ : ∃ b, b = decide (¬ ((rd la.data.toList) = 0 ∧ (rd lb.data.toList) = 0)) := ⟨_, rfl⟩
  rw [← hres]
  have HR := hideIt2 hres
  clear hres
  go_enter Tryz.func23, Tryz.ntmps23
  go_wp2_with fail
  generalize (w.alloc (.cells #[.string la, .string lb, .string lc] 26)) = W0 at *
  refine (refOfS_calls la _ HM.out s1).mono ?_
  rintro _ w1 ⟨hb1, v1, rfl, hv1⟩
  have H1 := hideIt2 (And.intro hb1 hv1)
  obtain ⟨g1, rfl, _⟩ := hv1
  clear hb1
  go_wp2_with fail
  refine (refZero_calls H1.out.2).mono ?_
  rintro _ w2 ⟨hb2, rfl⟩
  have H2 := hideIt2 (bel_bel H1.out.1 hb2)
  have z1 := (HK0.out.below H2.out (by rw [HSZ.out]; omega)).cell 1
  clear hb2
  by_cases ha : (rd la.data.toList) = 0
  · rw [decide_eq_true ha]
    go_wp2_with fail
    refine (refOfS_calls lb _ (HM.out.below H2.out) s2).mono ?_
    rintro _ w3 ⟨hb3, v3, rfl, hv3⟩
    have H3 := hideIt2 (And.intro (bel_bel H2.out hb3) hv3)
    obtain ⟨g3, rfl, _⟩ := hv3
    clear hb3
    go_wp2_with fail
    refine (refZero_calls H3.out.2).mono ?_
    rintro _ w4 ⟨hb4, rfl⟩
    have H4 := hideIt2 (bel_bel H3.out.1 hb4)
    clear hb4
    have hr : res = !(decide ((rd lb.data.toList) = 0)) := by
      rw [HR.out]
      by_cases hb : (rd lb.data.toList) = 0 <;> simp [ha, hb]
    generalize decide ((rd lb.data.toList) = 0) = bb at *
    subst hr
    clear ha
    go_wp2
    go_ret
    exact ⟨bel_bel HB0.out H4.out, by first | rfl | simp⟩
  · rw [decide_eq_false ha]
    have hr : res = true := by rw [HR.out]; simp [ha]
    subst hr
    clear ha
    go_wp2
    go_ret
    exact ⟨bel_bel HB0.out H2.out, by first | rfl | simp⟩
theorem refAt_calls {w : World} {v : Value} {la lb lc : ByteArray} (s1 : la.size ≤ 4294967280) (s2 : lb.size ≤ 4294967280) (s3 : lc.size ≤ 4294967280) {x z : Rat} (hv : VV w v x z) {k : Nat} (f1 : QS k (rd la.data.toList)) (f2 : QS k (rd lb.data.toList)) (f3 : QS k (rd lc.data.toList)) (f4 : QS k x) (f5 : QS k z) (hk : 16 * (k + 1) ≤ 35184372088640) (mx : MaxL w) :
    Calls Tryz.prog 28 #[.agg #[.string la, .string lb, .string lc], v] w fun e w' => Below w.heap.size w w' ∧ ∃ v, e = .returned v ∧ PR w' v ((rd la.data.toList) * x + (rd lb.data.toList) * z + (rd lc.data.toList)) := by
  obtain ⟨_, _, rfl, ⟨gx, rfl, hx⟩, ⟨gz, rfl, hz⟩⟩ := hv
  obtain ⟨hb0, hk0, hk1, hsz⟩ := boxes2 w #[.string la, .string lb, .string lc] #[.pointer (some ⟨gx, 0, none⟩), .pointer (some ⟨gz, 0, none⟩)] 26 43
  have HB0 := hideIt2 hb0
  have HK0 := hideIt2 hk0
  have HK1 := hideIt2 hk1
  have HSZ := hideIt2 hsz
  have HM := hideIt2 (mx.below hb0)
  have HX := hideIt2 (hx.below hb0)
  have HZ := hideIt2 (hz.below hb0)
  have F1 := hideIt2 f1
  have F2 := hideIt2 f2
  have F3 := hideIt2 f3
  have F4 := hideIt2 f4
  have F5 := hideIt2 f5
  clear hb0 hk0 hk1 hsz mx hx hz f1 f2 f3 f4 f5
  go_enter Tryz.func28, Tryz.ntmps28
  go_wp2_with fail
  generalize ((w.alloc (.cells #[.string la, .string lb, .string lc] 26)).alloc (.cells #[.pointer (some ⟨gx, 0, none⟩), .pointer (some ⟨gz, 0, none⟩)] 43)) = W0 at *
  have HS : Hid (∀ w', Below W0.heap.size W0 w' → w'.cell? ⟨w.heap.size, 0, none⟩ = some (.string la) ∧ w'.cell? ⟨w.heap.size, 1, none⟩ = some (.string lb) ∧ w'.cell? ⟨w.heap.size, 2, none⟩ = some (.string lc) ∧ w'.cell? ⟨w.heap.size + 1, 0, none⟩ = some (.pointer (some ⟨gx, 0, none⟩)) ∧ w'.cell? ⟨w.heap.size + 1, 1, none⟩ = some (.pointer (some ⟨gz, 0, none⟩))) := fun w' hb => ⟨(HK0.out.below hb (by rw [HSZ.out]; omega)).cell 0, (HK0.out.below hb (by rw [HSZ.out]; omega)).cell 1, (HK0.out.below hb (by rw [HSZ.out]; omega)).cell 2, (HK1.out.below hb (by rw [HSZ.out]; omega)).cell 0, (HK1.out.below hb (by rw [HSZ.out]; omega)).cell 1⟩
  obtain ⟨z0, z1, z2, z3, z4⟩ := HS.out W0 (Below.refl _ _)
  go_region_held3 (fun w' => w'.cell? ⟨w.heap.size, 0, none⟩ = some (.string la) ∧ w'.cell? ⟨w.heap.size, 1, none⟩ = some (.string lb) ∧ w'.cell? ⟨w.heap.size, 2, none⟩ = some (.string lc) ∧ w'.cell? ⟨w.heap.size + 1, 0, none⟩ = some (.pointer (some ⟨gx, 0, none⟩)) ∧ w'.cell? ⟨w.heap.size + 1, 1, none⟩ = some (.pointer (some ⟨gz, 0, none⟩))) (first | (refine HS.out _ ?_; (repeat' first | with_reducible exact hbl6 | with_reducible exact hbl5 | with_reducible exact hbl4 | with_reducible exact hbl3 | with_reducible exact hbl2 | with_reducible exact hbl1 | with_reducible exact Below.refl _ _ | with_reducible refine Below.new ?_ _ | with_reducible refine Below.drew ?_); done) | go_keep)
    (first
      | (have hq := hbl5; go_at_call 81; refine (refAdd_calls (rrow3 (by repeat' first | with_reducible exact Blk.new _ _ _ | ((with_reducible refine blk_at ?_); (first | with_reducible rfl | (simp; done))) | with_reducible refine blk_old _ ?_ | with_reducible refine blk_drew ?_ | with_reducible refine blk_bel hb5 ?_ | with_reducible refine blk_bel hb4 ?_ | with_reducible refine blk_bel hb3 ?_ | with_reducible refine blk_bel hb2 ?_ | with_reducible refine blk_bel hb1 ?_) ⟨_, rfl, (by repeat' first | with_reducible exact hv2 | with_reducible refine rv_new _ ?_ | with_reducible refine rv_drew ?_ | with_reducible refine rv_bel hb5 ?_ | with_reducible refine rv_bel hb4 ?_ | with_reducible refine rv_bel hb3 ?_)⟩ ⟨_, rfl, (by repeat' first | with_reducible exact hv4 | with_reducible refine rv_new _ ?_ | with_reducible refine rv_drew ?_ | with_reducible refine rv_bel hb5 ?_)⟩ ⟨_, rfl, (by repeat' first | with_reducible exact hv5 | with_reducible refine rv_new _ ?_ | with_reducible refine rv_drew ?_)⟩) (all3 (F1.out.mul F4.out) (F2.out.mul F5.out) (F3.out.mono (by omega))) (by simp) (by simp only [List.length_cons, List.length_nil]; omega)).mono ?_; rintro e w6 ⟨hb6, _, rfl, g6, rfl, hv6⟩; rw [rsum3] at hv6; have hbl6 : Below W0.heap.size W0 w6 := bel_bel (by repeat' first | with_reducible exact hbl5 | with_reducible exact hbl4 | with_reducible exact hbl3 | with_reducible exact hbl2 | with_reducible exact hbl1 | with_reducible exact Below.refl _ _ | with_reducible refine Below.new ?_ _ | with_reducible refine Below.drew ?_) hb6; have hs6 := HS.out w6 hbl6)
      | (have hq := hbl4; go_at_call_of 79 (Value.string lc); refine (refOfS_calls lc _ (HM.out.below (by repeat' first | with_reducible exact hbl4 | with_reducible exact hbl3 | with_reducible exact hbl2 | with_reducible exact hbl1 | with_reducible exact Below.refl _ _ | with_reducible refine Below.new ?_ _ | with_reducible refine Below.drew ?_)) (by omega)).mono ?_; rintro e w5 ⟨hb5, _, rfl, g5, rfl, hv5⟩; have hbl5 : Below W0.heap.size W0 w5 := bel_bel (by repeat' first | with_reducible exact hbl4 | with_reducible exact hbl3 | with_reducible exact hbl2 | with_reducible exact hbl1 | with_reducible exact Below.refl _ _ | with_reducible refine Below.new ?_ _ | with_reducible refine Below.drew ?_) hb5; have hs5 := HS.out w5 hbl5)
      | (have hq := hbl3; go_at_call 82; refine (refMul_calls (rrow2 (by repeat' first | with_reducible exact Blk.new _ _ _ | ((with_reducible refine blk_at ?_); (first | with_reducible rfl | (simp; done))) | with_reducible refine blk_old _ ?_ | with_reducible refine blk_drew ?_ | with_reducible refine blk_bel hb3 ?_ | with_reducible refine blk_bel hb2 ?_ | with_reducible refine blk_bel hb1 ?_) ⟨_, rfl, (by repeat' first | with_reducible exact hv3 | with_reducible refine rv_new _ ?_ | with_reducible refine rv_drew ?_)⟩ ⟨_, rfl, HZ.out.below (by repeat' first | with_reducible exact hbl3 | with_reducible exact hbl2 | with_reducible exact hbl1 | with_reducible exact Below.refl _ _ | with_reducible refine Below.new ?_ _ | with_reducible refine Below.drew ?_)⟩) (all2 F2.out F5.out) (by simp) (by simp only [List.length_cons, List.length_nil]; omega)).mono ?_; rintro e w4 ⟨hb4, _, rfl, g4, rfl, hv4⟩; rw [rprod2] at hv4; have hbl4 : Below W0.heap.size W0 w4 := bel_bel (by repeat' first | with_reducible exact hbl3 | with_reducible exact hbl2 | with_reducible exact hbl1 | with_reducible exact Below.refl _ _ | with_reducible refine Below.new ?_ _ | with_reducible refine Below.drew ?_) hb4; have hs4 := HS.out w4 hbl4)
      | (have hq := hbl2; go_at_call_of 79 (Value.string lb); refine (refOfS_calls lb _ (HM.out.below (by repeat' first | with_reducible exact hbl2 | with_reducible exact hbl1 | with_reducible exact Below.refl _ _ | with_reducible refine Below.new ?_ _ | with_reducible refine Below.drew ?_)) (by omega)).mono ?_; rintro e w3 ⟨hb3, _, rfl, g3, rfl, hv3⟩; have hbl3 : Below W0.heap.size W0 w3 := bel_bel (by repeat' first | with_reducible exact hbl2 | with_reducible exact hbl1 | with_reducible exact Below.refl _ _ | with_reducible refine Below.new ?_ _ | with_reducible refine Below.drew ?_) hb3; have hs3 := HS.out w3 hbl3)
      | (have hq := hbl1; go_at_call 82; refine (refMul_calls (rrow2 (by repeat' first | with_reducible exact Blk.new _ _ _ | ((with_reducible refine blk_at ?_); (first | with_reducible rfl | (simp; done))) | with_reducible refine blk_old _ ?_ | with_reducible refine blk_drew ?_ | with_reducible refine blk_bel hb1 ?_) ⟨_, rfl, (by repeat' first | with_reducible exact hv1 | with_reducible refine rv_new _ ?_ | with_reducible refine rv_drew ?_)⟩ ⟨_, rfl, HX.out.below (by repeat' first | with_reducible exact hbl1 | with_reducible exact Below.refl _ _ | with_reducible refine Below.new ?_ _ | with_reducible refine Below.drew ?_)⟩) (all2 F1.out F4.out) (by simp) (by simp only [List.length_cons, List.length_nil]; omega)).mono ?_; rintro e w2 ⟨hb2, _, rfl, g2, rfl, hv2⟩; rw [rprod2] at hv2; have hbl2 : Below W0.heap.size W0 w2 := bel_bel (by repeat' first | with_reducible exact hbl1 | with_reducible exact Below.refl _ _ | with_reducible refine Below.new ?_ _ | with_reducible refine Below.drew ?_) hb2; have hs2 := HS.out w2 hbl2)
      | (go_at_call_of 79 (Value.string la); refine (refOfS_calls la _ (HM.out.below (by repeat' first | with_reducible exact Below.refl _ _ | with_reducible refine Below.new ?_ _ | with_reducible refine Below.drew ?_)) (by omega)).mono ?_; rintro e w1 ⟨hb1, _, rfl, g1, rfl, hv1⟩; have hbl1 : Below W0.heap.size W0 w1 := bel_bel (by repeat' first | with_reducible exact Below.refl _ _ | with_reducible refine Below.new ?_ _ | with_reducible refine Below.drew ?_) hb1; have hs1 := HS.out w1 hbl1)
      )
  all_goals
    go_wp2
    go_ret
    exact ⟨bel_bel HB0.out hbl6, _, rfl, _, rfl, hv6⟩
theorem refNeg_calls {w : World} {px : Value} {x : Rat} {k : Nat} (hx : PR w px x) (fx : QS k x) (hk : k ≤ 35184372088640) :
    Calls Tryz.prog 84 #[px] w fun e w' => Below w.heap.size w w' ∧ ∃ v, e = .returned v ∧ PR w' v (-x) := by
  obtain ⟨gx, rfl, hx⟩ := hx
  have HX := hideIt2 hx
  clear hx
  go_enter Tryz.func84, Tryz.ntmps84
  go_wp2_with fail
  refine (ratNeg_calls (Blk.new w _ _) (by simp [notLimb]) (HX.out.below (below_new _ _)) fx hk).mono ?_
  rintro e w1 ⟨rfl, hs, hr⟩
  have H1 := hideIt2 (And.intro (bel_sav (below_new _ _) hs (Nat.le_refl _)) hr)
  clear hs hr
  go_wp2
  go_ret
  exact ⟨H1.out.1, _, rfl, _, rfl, H1.out.2⟩
theorem refWay_calls {w : World} {la lb lc : ByteArray} (s1 : la.size ≤ 4294967280) (s2 : lb.size ≤ 4294967280) (_ : lc.size ≤ 4294967280) {k : Nat} (f2 : QS k (rd lb.data.toList)) (hk : k ≤ 35184372088640) (mx : MaxL w) :
    Calls Tryz.prog 31 #[.agg #[.string la, .string lb, .string lc]] w fun e w' => Below w.heap.size w w' ∧ ∃ v, e = .returned v ∧ VV w' v (-(rd lb.data.toList)) (rd la.data.toList) := by
  obtain ⟨hb0, hk0, hk1, hsz⟩ := boxes2 w #[.string la, .string lb, .string lc] #[.pointer none, .pointer none] 26 43
  have HB0 := hideIt2 hb0
  have HK0 := hideIt2 hk0
  have HK1 := hideIt2 hk1
  have HSZ := hideIt2 hsz
  have HM := hideIt2 (mx.below hb0)
  have F2 := hideIt2 f2
  clear hb0 hk0 hk1 hsz mx f2
  go_enter Tryz.func31, Tryz.ntmps31
  go_wp2_with fail
  generalize ((w.alloc (.cells #[.string la, .string lb, .string lc] 26)).alloc (.cells #[.pointer none, .pointer none] 43)) = W0 at *
  have HS : Hid (∀ w', Below W0.heap.size W0 w' → w'.cell? ⟨w.heap.size, 0, none⟩ = some (.string la) ∧ w'.cell? ⟨w.heap.size, 1, none⟩ = some (.string lb) ∧ w'.cell? ⟨w.heap.size, 2, none⟩ = some (.string lc)) := fun w' hb => ⟨(HK0.out.below hb (by rw [HSZ.out]; omega)).cell 0, (HK0.out.below hb (by rw [HSZ.out]; omega)).cell 1, (HK0.out.below hb (by rw [HSZ.out]; omega)).cell 2⟩
  have HSS : Hid (∀ w', Below W0.heap.size W0 w' → ∀ x0 x1 : Value, ((w'.setCell ⟨w.heap.size + 1, 0, none⟩ x0).setCell ⟨w.heap.size + 1, 1, none⟩ x1).cell? ⟨w.heap.size, 0, none⟩ = some (.string la) ∧ ((w'.setCell ⟨w.heap.size + 1, 0, none⟩ x0).setCell ⟨w.heap.size + 1, 1, none⟩ x1).cell? ⟨w.heap.size, 1, none⟩ = some (.string lb) ∧ ((w'.setCell ⟨w.heap.size + 1, 0, none⟩ x0).setCell ⟨w.heap.size + 1, 1, none⟩ x1).cell? ⟨w.heap.size, 2, none⟩ = some (.string lc)) := fun w' hb x0 x1 => ⟨((HK0.out.below hb (by rw [HSZ.out]; omega)).off2 (g := w.heap.size + 1) (by omega) x0 x1).cell 0, ((HK0.out.below hb (by rw [HSZ.out]; omega)).off2 (g := w.heap.size + 1) (by omega) x0 x1).cell 1, ((HK0.out.below hb (by rw [HSZ.out]; omega)).off2 (g := w.heap.size + 1) (by omega) x0 x1).cell 2⟩
  obtain ⟨z0, z1, z2⟩ := HS.out W0 (Below.refl _ _)
  go_region_held3 (fun w' => w'.cell? ⟨w.heap.size, 0, none⟩ = some (.string la) ∧ w'.cell? ⟨w.heap.size, 1, none⟩ = some (.string lb) ∧ w'.cell? ⟨w.heap.size, 2, none⟩ = some (.string lc)) (first | (refine HS.out _ ?_; (repeat' first | with_reducible exact hbl3 | with_reducible exact hbl2 | with_reducible exact hbl1 | with_reducible exact Below.refl _ _ | with_reducible refine Below.new ?_ _ | with_reducible refine Below.drew ?_); done) | (refine HSS.out _ ?_ _ _; (repeat' first | with_reducible exact hbl3 | with_reducible exact hbl2 | with_reducible exact hbl1 | with_reducible exact Below.refl _ _ | with_reducible refine Below.new ?_ _ | with_reducible refine Below.drew ?_); done) | go_keep)
    (first
      | (have hq := hbl2; go_at_call_of 79 (Value.string la); refine (refOfS_calls la _ (HM.out.below (by repeat' first | with_reducible exact hbl2 | with_reducible exact hbl1 | with_reducible exact Below.refl _ _ | with_reducible refine Below.new ?_ _ | with_reducible refine Below.drew ?_)) (by omega)).mono ?_; rintro e w3 ⟨hb3, _, rfl, g3, rfl, hv3⟩; have hbl3 : Below W0.heap.size W0 w3 := bel_bel (by repeat' first | with_reducible exact hbl2 | with_reducible exact hbl1 | with_reducible exact Below.refl _ _ | with_reducible refine Below.new ?_ _ | with_reducible refine Below.drew ?_) hb3; have hs3 := HS.out w3 hbl3; have hkr := HK1.out.below hbl3 (by rw [HSZ.out]; omega); obtain ⟨r0, r1, f0, f1⟩ := hkr.all2)
      | (have hq := hbl1; go_at_call 84; refine (refNeg_calls ⟨_, rfl, (by repeat' first | with_reducible exact hv1 | with_reducible refine rv_new _ ?_ | with_reducible refine rv_drew ?_)⟩ F2.out hk).mono ?_; rintro e w2 ⟨hb2, _, rfl, g2, rfl, hv2⟩; have hbl2 : Below W0.heap.size W0 w2 := bel_bel (by repeat' first | with_reducible exact hbl1 | with_reducible exact Below.refl _ _ | with_reducible refine Below.new ?_ _ | with_reducible refine Below.drew ?_) hb2; have hs2 := HS.out w2 hbl2)
      | (go_at_call_of 79 (Value.string lb); refine (refOfS_calls lb _ (HM.out.below (by repeat' first | with_reducible exact Below.refl _ _ | with_reducible refine Below.new ?_ _ | with_reducible refine Below.drew ?_)) (by omega)).mono ?_; rintro e w1 ⟨hb1, _, rfl, g1, rfl, hv1⟩; have hbl1 : Below W0.heap.size W0 w1 := bel_bel (by repeat' first | with_reducible exact Below.refl _ _ | with_reducible refine Below.new ?_ _ | with_reducible refine Below.drew ?_) hb1; have hs1 := HS.out w1 hbl1)
      )
  all_goals
    go_wp2
    obtain ⟨k0, k1, _, _⟩ := (hkr.put2 (.pointer (some ⟨g2, 0, none⟩)) (.pointer (some ⟨g3, 0, none⟩))).all2
    refine bodyPost_ret (v := .agg #[.pointer (some ⟨g2, 0, none⟩), .pointer (some ⟨g3, 0, none⟩)]) (by simp [results, Tryz.results31, go_sem, k0, k1]) rfl ⟨Below.put2 (bel_bel HB0.out hbl3) (by omega) _ _, _, rfl, _, _, rfl, ⟨_, rfl, RV.put2 (by repeat' first | with_reducible exact hv2 | with_reducible refine rv_new _ ?_ | with_reducible refine rv_drew ?_ | with_reducible refine rv_bel hb3 ?_) hkr rfl rfl _ _⟩, ⟨_, rfl, RV.put2 (by repeat' first | with_reducible exact hv3 | with_reducible refine rv_new _ ?_ | with_reducible refine rv_drew ?_) hkr rfl rfl _ _⟩⟩
end Go.Proofs.YtgajdmadbdbabaaGreatDoor
/- BQU -/
namespace Go.Proofs.YtgajdmadbdbabaaGreatDoor
open Go.RowKit Cx
attribute [local go_sem ↓] Go.wp_at_zero Go.wp_at_succ
end Go.Proofs.YtgajdmadbdbabaaGreatDoor
/- AWE -/
namespace Go.Proofs.YtgajdmadbdbabaaGreatDoor
open Go.RowKit Cx
structure TX (k : Nat) (s : ByteArray) (q : Rat) : Prop where
  rd : Cx.rd s.data.toList = q
  qs : QS k q
  sz : s.size ≤ 2 * k + 4
theorem TX.param {s : ByteArray} (h : s.size ≤ 1048576) : TX 4194309 s (Cx.rd s.data.toList) := ⟨rfl, (QS.rd _).mono (by rw [str_len]; omega), by omega⟩
theorem TX.told {s : ByteArray} {q : Rat} {k : Nat} (h : s.data.toList = tx q) (f : QS k q) : TX k s q := ⟨by rw [h, rd_tx], f, by rw [← str_len, h]; exact tx_len f⟩
theorem TX.mono {s : ByteArray} {q : Rat} {k l : Nat} (h : TX k s q) (hk : k ≤ l) : TX l s q := ⟨h.rd, h.qs.mono hk, Nat.le_trans h.sz (by omega)⟩
theorem TX.right {s : ByteArray} {q : Rat} (h : s.data.toList = tx q) : right s := by
  show tx (Cx.rd s.data.toList) = s.data.toList
  rw [h, rd_tx]
theorem TX.len {s : ByteArray} {q : Rat} {k : Nat} (h : TX k s q) (hk : 2 * k + 4 ≤ 4294967296) : s.data.toList.length ≤ 4294967296 := by rw [str_len]; exact Nat.le_trans h.sz hk
theorem TX.qsr {s : ByteArray} {q : Rat} {k : Nat} (h : TX k s q) : QS k (Cx.rd s.data.toList) := h.rd ▸ h.qs
def Pre (w : World) : Prop := Tab w ∧ MaxL w
theorem Pre.below {w w' : World} (h : Pre w) (hb : Below w.heap.size w w') : Pre w' := ⟨h.1.below hb, h.2.below hb⟩
theorem run_eql_int (T : TypeId) (x y : Operand) (a b : Int) (c : Bool) (h : (a == b) = c) (w : World) : (do eqGuard .eql T x y (.int .i64 a) (.int .i64 b); binOp .eql T (.int .i64 a) (.int .i64 b) : Sem Value).run Tryz.prog w = .ok (.bool c) w := by
  subst h
  simp [go_sem]
theorem run_neq_int (T : TypeId) (x y : Operand) (a b : Int) (c : Bool) (h : (a != b) = c) (w : World) : (do eqGuard .neq T x y (.int .i64 a) (.int .i64 b); binOp .neq T (.int .i64 a) (.int .i64 b) : Sem Value).run Tryz.prog w = .ok (.bool c) w := by
  subst h
  simp [go_sem]
theorem run_eql_L_t {x y : Operand} {a0 a1 a2 b0 b1 b2 : ByteArray} (h : a0 = b0 ∧ a1 = b1 ∧ a2 = b2) (w : World) : (do eqGuard .eql 26 x y (.agg #[.string a0, .string a1, .string a2]) (.agg #[.string b0, .string b1, .string b2]); binOp .eql 26 (.agg #[.string a0, .string a1, .string a2]) (.agg #[.string b0, .string b1, .string b2]) : Sem Value).run Tryz.prog w = .ok (.bool true) w := by
  obtain ⟨rfl, rfl, rfl⟩ := h
  simp [go_sem]
section
variable {Q : Exit → Act → World → Prop} {w0 : World} {n : Nat} {tm : List (Nat × Fact)} {bx : List (Nat × TypeId × Fact)} {a0 : Act} {wr : World} {os : List Oper} {pl : List Plan}
theorem step_agg3 {i : Nat} {o : Oper} {op : BinOp} {xT yT : TypeId} {x y : Operand} {a b e c d f : ByteArray} {r : Value} (ho : os[i]? = some o) (hp : pl[i]? = some (.pure (Jus r))) (hw : Want w0 bx a0 wr os pl o true) (hop : o.op = .binOp op xT x y yT) (hx : Opn w0 bx a0 wr os pl i o x (L3 a b e)) (hy : Opn w0 bx a0 wr os pl i o y (L3 c d f))
    (hr : ∀ w, (do eqGuard op xT x y (.agg #[.string a, .string b, .string e]) (.agg #[.string c, .string d, .string f]); binOp op xT (.agg #[.string a, .string b, .string e]) (.agg #[.string c, .string d, .string f]) : Sem Value).run Tryz.prog w = .ok r w) :
    AStep Tryz.prog Q os a0 (RInv w0 bx a0 wr os pl) i o := step_bin ho hp hw hop (fun d τ w h1 h2 h3 => L3.eq (hx d τ w h1 h2 h3)) (fun d τ w h1 h2 h3 => L3.eq (hy d τ w h1 h2 h3)) hr
end
theorem allS_one {w : World} {S : Soft} {vs : List Value} (h : AllS w [S] vs) : ∃ v, vs = [v] ∧ S.on v w := by
  match vs, h with
  | [v], h => exact ⟨v, rfl, h.1⟩
theorem allS_two {w : World} {S T : Soft} {vs : List Value} (h : AllS w [S, T] vs) : ∃ u v, vs = [u, v] ∧ S.on u w ∧ T.on v w := by
  match vs, h with
  | [u, v], h => exact ⟨u, v, rfl, h.1, h.2.1⟩
theorem rrow_of {w : World} {v : Value} {qs : List Rat} (h : (RowS 41 qs.length (qs.map Rt)).on v w) : RRow w v qs := by
  obtain ⟨G, cs, rfl, hk, hall⟩ := h
  refine ⟨G, 0, qs.length, rfl, hk.lt, fun j hj => ?_⟩
  obtain ⟨p, hp, hF⟩ := hall.get (k := j) (F := Rt qs[j]) (by simp [hj])
  exact ⟨p, by rw [Nat.zero_add, hk.cell j]; simpa using hp, hF⟩
theorem srow_of {w : World} {v : Value} {ss : List ByteArray} (h : (RowS 22 ss.length (ss.map Tx)).on v w) : SRow w v ss := by
  obtain ⟨G, cs, rfl, hk, hall⟩ := h
  refine ⟨G, 0, ss.length, rfl, hk.lt, fun j hj => ?_⟩
  obtain ⟨p, hp, hF⟩ := hall.get (k := j) (F := Tx ss[j]) (by simp [hj])
  cases hF
  rw [Nat.zero_add, hk.cell j]
  simpa using hp
theorem en_compassref_P (vs : Array Value) (w : World) : (callFunc 25 vs).run Tryz.prog w = .ok (.enter 25 vs) w := enters Tryz.func25 (by kernel_rfl) (by kernel_rfl) vs w
theorem con_P {a b : ByteArray} {x y : Rat} {k l : Nat} (ha : TX k a x) (hb : TX l b y) (hk : 2 * k + 4 ≤ 4294967280) (hl : 2 * l + 4 ≤ 4294967280) : Con Tryz.prog Pre 25 [P2 a b] (V2 x y) := fun w vs hp hall => by
  obtain ⟨v0, rfl, h1⟩ := all2_one hall
  cases P2.eq h1
  have e1 := ha.rd
  have e2 := hb.rd
  subst e1 e2
  refine (refP_calls a b w hp.2 (Nat.le_trans ha.sz hk) (Nat.le_trans hb.sz hl)).mono ?_
  rintro _ w' ⟨hb, v, rfl, hv⟩
  exact ⟨hb, v, rfl, V2.of hv⟩
theorem en_compassref_Of (vs : Array Value) (w : World) : (callFunc 79 vs).run Tryz.prog w = .ok (.enter 79 vs) w := enters Tryz.func79 (by kernel_rfl) (by kernel_rfl) vs w
theorem con_Of {a : ByteArray} {x : Rat} {k : Nat} (ha : TX k a x) (hk : 2 * k + 4 ≤ 4294967280) : Con Tryz.prog Pre 79 [Tx a] (Rt x) := fun w vs hp hall => by
  obtain ⟨v0, rfl, h1⟩ := all2_one hall
  cases h1
  have e1 := ha.rd
  subst e1
  refine (refOfS_calls a w hp.2 (Nat.le_trans ha.sz hk)).mono ?_
  rintro _ w' ⟨hb, v, rfl, hv⟩
  exact ⟨hb, v, rfl, hv⟩
theorem en_compassref_Sub (vs : Array Value) (w : World) : (callFunc 83 vs).run Tryz.prog w = .ok (.enter 83 vs) w := enters Tryz.func83 (by kernel_rfl) (by kernel_rfl) vs w
theorem con_Sub {x y z : Rat} {k l : Nat} (e : z = x - y) (fx : QS k x) (fy : QS l y) (h : k + l + 1 ≤ 35184372088640) : Con Tryz.prog Pre 83 [Rt x, Rt y] (Rt z) := fun w vs hp hall => by
  obtain ⟨v0, v1, rfl, h1, h2⟩ := all2_two hall
  refine (refSub_calls h1 h2 fx fy h).mono ?_
  rintro _ w' ⟨hb, v, rfl, hv⟩
  exact ⟨hb, v, rfl, by rw [e]; exact hv⟩
theorem en_compassref_Zero (vs : Array Value) (w : World) : (callFunc 27 vs).run Tryz.prog w = .ok (.enter 27 vs) w := enters Tryz.func27 (by kernel_rfl) (by kernel_rfl) vs w
theorem con_Zero_t {x : Rat} (hP : x = 0) : Con Tryz.prog Pre 27 [Rt x] (Bo true) := fun w vs hp hall => by
  obtain ⟨v0, rfl, h1⟩ := all2_one hall
  refine (refZero_calls h1).mono ?_
  rintro _ w' ⟨hb, rfl⟩
  exact ⟨hb, _, rfl, by rw [decide_eq_true hP]; rfl⟩
theorem en_compassref_Line (vs : Array Value) (w : World) : (callFunc 23 vs).run Tryz.prog w = .ok (.enter 23 vs) w := enters Tryz.func23 (by kernel_rfl) (by kernel_rfl) vs w
theorem con_Line_t {a b c : ByteArray} {x y z : Rat} {k : Nat} (ha : TX k a x) (hb : TX k b y) (hc : TX k c z) (hk : 2 * k + 4 ≤ 4294967280) (hP : ¬ (x = 0 ∧ y = 0)) : Con Tryz.prog Pre 23 [L3 a b c] (Bo true) := fun w vs hp hall => by
  obtain ⟨v0, rfl, h1⟩ := all2_one hall
  cases L3.eq h1
  have e1 := ha.rd
  have e2 := hb.rd
  subst e1 e2
  refine (refLine_calls (Nat.le_trans ha.sz hk) (Nat.le_trans hb.sz hk) (Nat.le_trans hc.sz hk) hp.2).mono ?_
  rintro _ w' ⟨hb, rfl⟩
  exact ⟨hb, _, rfl, by rw [decide_eq_true hP]; rfl⟩
theorem con_Zero_f {x : Rat} (hP : ¬ x = 0) : Con Tryz.prog Pre 27 [Rt x] (Bo false) := fun w vs hp hall => by
  obtain ⟨v0, rfl, h1⟩ := all2_one hall
  refine (refZero_calls h1).mono ?_
  rintro _ w' ⟨hb, rfl⟩
  exact ⟨hb, _, rfl, by rw [decide_eq_false hP]; rfl⟩
theorem con_Line_f {a b c : ByteArray} {x y z : Rat} {k : Nat} (ha : TX k a x) (hb : TX k b y) (hc : TX k c z) (hk : 2 * k + 4 ≤ 4294967280) (hP : (x = 0 ∧ y = 0)) : Con Tryz.prog Pre 23 [L3 a b c] (Bo false) := fun w vs hp hall => by
  obtain ⟨v0, rfl, h1⟩ := all2_one hall
  cases L3.eq h1
  have e1 := ha.rd
  have e2 := hb.rd
  subst e1 e2
  refine (refLine_calls (Nat.le_trans ha.sz hk) (Nat.le_trans hb.sz hk) (Nat.le_trans hc.sz hk) hp.2).mono ?_
  rintro _ w' ⟨hb, rfl⟩
  exact ⟨hb, _, rfl, by rw [decide_eq_false (fun h => h hP)]; rfl⟩
theorem en_compassref_V_Cross (vs : Array Value) (w : World) : (callFunc 42 vs).run Tryz.prog w = .ok (.enter 42 vs) w := enters Tryz.func42 (by kernel_rfl) (by kernel_rfl) vs w
theorem con_Cross {ax az : Rat} {bx bz : Rat} {x : Rat} {k : Nat} (e : x = (ax * bz) - (az * bx)) (fax : QS k ax) (faz : QS k az) (fbx : QS k bx) (fbz : QS k bz) (hk : 8 * k + 16 ≤ 35184372088640) : Con Tryz.prog Pre 42 [V2 ax az, V2 bx bz] (Rt x) := fun w vs hp hall => by
  obtain ⟨v0, v1, rfl, h1, h2⟩ := all2_two hall
  refine (vCross_calls (V2.vv h1) (V2.vv h2) fax faz fbx fbz hk).mono ?_
  rintro _ w' ⟨hb, v, rfl, hv⟩
  exact ⟨hb, v, rfl, by rw [e]; exact hv⟩
theorem en_compassref_At (vs : Array Value) (w : World) : (callFunc 28 vs).run Tryz.prog w = .ok (.enter 28 vs) w := enters Tryz.func28 (by kernel_rfl) (by kernel_rfl) vs w
theorem con_At {a b c : ByteArray} {x y z px pz q : Rat} {k : Nat} (ha : TX k a x) (hb : TX k b y) (hc : TX k c z) (f1 : QS k px) (f2 : QS k pz) (e : q = x * px + y * pz + z) (hs : 2 * k + 4 ≤ 4294967280) (hk : 16 * (k + 1) ≤ 35184372088640) : Con Tryz.prog Pre 28 [L3 a b c, V2 px pz] (Rt q) := fun w vs hp hall => by
  obtain ⟨v0, v1, rfl, h1, h2⟩ := all2_two hall
  cases L3.eq h1
  have e1 := ha.rd
  have e2 := hb.rd
  have e3 := hc.rd
  subst e1 e2 e3
  refine (refAt_calls (Nat.le_trans ha.sz hs) (Nat.le_trans hb.sz hs) (Nat.le_trans hc.sz hs) (V2.vv h2) ha.qs hb.qs hc.qs f1 f2 hk hp.2).mono ?_
  rintro _ w' ⟨hb, v, rfl, hv⟩
  exact ⟨hb, v, rfl, by rw [e]; exact hv⟩
theorem en_compassref_Way (vs : Array Value) (w : World) : (callFunc 31 vs).run Tryz.prog w = .ok (.enter 31 vs) w := enters Tryz.func31 (by kernel_rfl) (by kernel_rfl) vs w
theorem con_Way {a b c : ByteArray} {x y z q : Rat} {k : Nat} (ha : TX k a x) (hb : TX k b y) (hc : TX k c z) (e : q = -y) (hs : 2 * k + 4 ≤ 4294967280) : Con Tryz.prog Pre 31 [L3 a b c] (V2 q x) := fun w vs hp hall => by
  obtain ⟨v0, rfl, h1⟩ := all2_one hall
  cases L3.eq h1
  have e1 := ha.rd
  have e2 := hb.rd
  have e3 := hc.rd
  subst e1 e2 e3
  refine (refWay_calls (Nat.le_trans ha.sz hs) (Nat.le_trans hb.sz hs) (Nat.le_trans hc.sz hs) hb.qs (by omega) hp.2).mono ?_
  rintro _ w' ⟨hb, v, rfl, hv⟩
  exact ⟨hb, v, rfl, by rw [e]; exact V2.of hv⟩
theorem en_compassref_Mul (vs : Array Value) (w : World) : (callFunc 82 vs).run Tryz.prog w = .ok (.enter 82 vs) w := enters Tryz.func82 (by kernel_rfl) (by kernel_rfl) vs w
theorem con_Mul2 {q0 q1 z : Rat} {k : Nat} (e : z = q0 * q1) (fq0 : QS k q0) (fq1 : QS k q1) (hk : 2 * (k + 1) + 1 ≤ 35184372088640) : ConS Tryz.prog Pre 82 [RowS 41 2 [Rt q0, Rt q1]] (Rt z) := fun w vs hp hall => by
  obtain ⟨v0, rfl, h1⟩ := allS_one hall
  refine (refMul_calls (rrow_of (qs := [q0, q1]) h1) (K := k) (by simp [fq0, fq1]) (by simp) (by simpa using hk)).mono ?_
  rintro _ w' ⟨hb, v, rfl, hv⟩
  refine ⟨hb, v, rfl, ?_⟩
  rw [e]
  have : rprod [q0, q1] = q0 * q1 := by simp [rprod, Rat.one_mul]
  rw [← this]
  exact hv
theorem en_compassref_Add (vs : Array Value) (w : World) : (callFunc 81 vs).run Tryz.prog w = .ok (.enter 81 vs) w := enters Tryz.func81 (by kernel_rfl) (by kernel_rfl) vs w
theorem con_Add2 {q0 q1 z : Rat} {k : Nat} (e : z = q0 + q1) (fq0 : QS k q0) (fq1 : QS k q1) (hk : 2 * (k + 1) + 1 ≤ 35184372088640) : ConS Tryz.prog Pre 81 [RowS 41 2 [Rt q0, Rt q1]] (Rt z) := fun w vs hp hall => by
  obtain ⟨v0, rfl, h1⟩ := allS_one hall
  refine (refAdd_calls (rrow_of (qs := [q0, q1]) h1) (K := k) (by simp [fq0, fq1]) (by simp) (by simpa using hk)).mono ?_
  rintro _ w' ⟨hb, v, rfl, hv⟩
  refine ⟨hb, v, rfl, ?_⟩
  rw [e]
  have : rsum [q0, q1] = q0 + q1 := by simp [rsum, Rat.zero_add]
  rw [← this]
  exact hv
end Go.Proofs.YtgajdmadbdbabaaGreatDoor
