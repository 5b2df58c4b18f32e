/- Part 14 of the walks and of the mathematics under them: WFR WR AWF RRP AWJ. -/
import Derived.Test.YtgajdmadbdbabaaGreatDoorA13
import Derived.Test.YtgajdmadbdbabaaGreatDoorA12
import Derived.Test.YtgajdmadbdbabaaGreatDoorA10
import Derived.Test.YtgajdmadbdbabaaGreatDoorA7
/- Walks: Far2 of lines. -/
namespace Go.Proofs.YtgajdmadbdbabaaGreatDoor
open Go.RowKit Cx

attribute [local go_sem ↓] Go.wp_at_zero Go.wp_at_succ

set_option maxHeartbeats 8000000 in
set_option maxRecDepth 100000 in
theorem rulerFar2_walk {w : World} {a b c d e : C3} {ax ay az x y : Rat} (ha : QV w (.agg #[.bool a.n, .slice a.u a.nu a.cu, .slice a.l a.nl a.cl]) ax) (hb : QV w (.agg #[.bool b.n, .slice b.u b.nu b.cu, .slice b.l b.nl b.cl]) ay) (hc : QV w (.agg #[.bool c.n, .slice c.u c.nu c.cu, .slice c.l c.nl c.cl]) az) (hx : QV w (.agg #[.bool d.n, .slice d.u d.nu d.cu, .slice d.l d.nl d.cl]) x) (hy : QV w (.agg #[.bool e.n, .slice e.u e.nu e.cu, .slice e.l e.nl e.cl]) y) {k : Nat} (f1 : QS k ax) (f2 : QS k ay) (f3 : QS k az) (f4 : QS k x) (f5 : QS k y) (hk : 30 * (k + k + 1) ≤ 35184372088640) :
    Calls Tryz.prog 77 #[.agg #[.bool a.n, .slice a.u a.nu a.cu, .slice a.l a.nl a.cl, .bool b.n, .slice b.u b.nu b.cu, .slice b.l b.nl b.cl, .bool c.n, .slice c.u c.nu c.cu, .slice c.l c.nl c.cl], .agg #[.bool d.n, .slice d.u d.nu d.cu, .slice d.l d.nl d.cl, .bool e.n, .slice e.u e.nu e.cu, .slice e.l e.nl e.cl]] w fun e w' => Below w.heap.size w w' ∧ ∃ v, e = .returned v ∧ QV w' v ((ax * x + ay * y + az) * (ax * x + ay * y + az) / (ax * ax + ay * ay)) := by
  obtain ⟨hb0, hk0, hk1, hk2, hsz⟩ := boxes3 w #[.bool a.n, .slice a.u a.nu a.cu, .slice a.l a.nl a.cl, .bool b.n, .slice b.u b.nu b.cu, .slice b.l b.nl b.cl, .bool c.n, .slice c.u c.nu c.cu, .slice c.l c.nl c.cl] #[.bool d.n, .slice d.u d.nu d.cu, .slice d.l d.nl d.cl, .bool e.n, .slice e.u e.nu e.cu, .slice e.l e.nl e.cl] #[.bool false, .slice none 0 0, .slice none 0 0] 97 86 84
  have HB0 := hideIt hb0
  have HSZ := hideIt hsz
  have HK0 := hideIt hk0
  have HK2 := hideIt hk2
  have HA := hideIt (ha.below hb0)
  have HB := hideIt (hb.below hb0)
  have HC := hideIt (hc.below hb0)
  have HX := hideIt (hx.below hb0)
  have HY := hideIt (hy.below hb0)
  have F1 := hideIt f1
  have F2 := hideIt f2
  have F3 := hideIt f3
  have F4 := hideIt f4
  have F5 := hideIt f5
  have K0 : Hid (3 * (k + k + 1) + 1 ≤ 35184372088640) := by show _ ≤ _; omega
  have K1 : Hid ((k + k + (k + k) + 1 + k + 1) + (k + k + (k + k) + 1 + k + 1) + 1 ≤ 35184372088640) := by show _ ≤ _; omega
  have K2 : Hid (2 * (k + k + 1) + 1 ≤ 35184372088640) := by show _ ≤ _; omega
  have K3 : Hid ((k + k + (k + k) + 1 + k + 1) + (k + k + (k + k) + 1 + k + 1) + (k + k + (k + k) + 1) + 1 ≤ 35184372088640) := by show _ ≤ _; omega
  have FV : Hid (QS (k + k + (k + k) + 1 + k + 1) (ax * x + ay * y + az)) := ((F1.out.mul F4.out).add (F2.out.mul F5.out)).add F3.out
  have FN : Hid (QS (k + k + (k + k) + 1) (ax * ax + ay * ay)) := (F1.out.mul F1.out).add (F2.out.mul F2.out)
  clear hb0 hsz hk0 hk1 hk2 ha hb hc hx hy f1 f2 f3 f4 f5
  go_enter Tryz.func77, Tryz.ntmps77
  go_wp2_with fail
  generalize (((w.alloc (.cells #[.bool a.n, .slice a.u a.nu a.cu, .slice a.l a.nl a.cl, .bool b.n, .slice b.u b.nu b.cu, .slice b.l b.nl b.cl, .bool c.n, .slice c.u c.nu c.cu, .slice c.l c.nl c.cl] 97)).alloc (.cells #[.bool d.n, .slice d.u d.nu d.cu, .slice d.l d.nl d.cl, .bool e.n, .slice e.u e.nu e.cu, .slice e.l e.nl e.cl] 86)).alloc (.cells #[.bool false, .slice none 0 0, .slice none 0 0] 84)) = W0 at *
  refine (lineValue_calls ⟨a, b, c, rfl, HA.out, HB.out, HC.out⟩ ⟨d, e, rfl, HX.out, HY.out⟩ F1.out F2.out F3.out F4.out F5.out K0.out).mono ?_
  rintro _ w1 ⟨hb1, v1, rfl, hv1⟩
  obtain ⟨f, rfl⟩ := qv_open hv1
  have HV := hideIt hv1
  have HB1 := hideIt hb1
  clear hb1 hv1
  go_wp2_with fail
  obtain ⟨w2, hw2⟩ : ∃ w2, w2 = w1.alloc (.cells #[.bool f.n, .slice f.u f.nu f.cu, .slice f.l f.nl f.cl] 84) := ⟨_, rfl⟩
  have hbA := below_new w1 (.cells #[.bool f.n, .slice f.u f.nu f.cu, .slice f.l f.nl f.cl] 84)
  have HKG := hideIt (Blk.new w1 #[.bool f.n, .slice f.u f.nu f.cu, .slice f.l f.nl f.cl] 84)
  rw [← hw2] at hbA HKG ⊢
  obtain ⟨G, hG⟩ : ∃ G, G = w1.heap.size := ⟨_, rfl⟩
  rw [← hG] at HKG ⊢
  have HGW : Hid (w.heap.size + 1 + 1 ≠ G) := by
    have h1 := HSZ.out
    have h2 := HB1.out.size
    show _ ≠ _
    omega
  clear hG hw2
  have HBL := hideIt (HB1.out.trans (hbA.mono HB1.out.size))
  have HV2 := hideIt (HV.out.below hbA)
  have HA2 := hideIt (HA.out.below HBL.out)
  have HB2 := hideIt (HB.out.below HBL.out)
  have HKL := hideIt (HK0.out.below HBL.out (by rw [HSZ.out]; omega))
  have HKR := hideIt (HK2.out.below HBL.out (by rw [HSZ.out]; omega))
  clear hbA
  have HS : Hid (∀ w', Below w2.heap.size w2 w' → w'.cell? ⟨w.heap.size, 0, none⟩ = some (.bool a.n) ∧ w'.cell? ⟨w.heap.size, 1, none⟩ = some (.slice a.u a.nu a.cu) ∧ w'.cell? ⟨w.heap.size, 2, none⟩ = some (.slice a.l a.nl a.cl) ∧ w'.cell? ⟨w.heap.size, 3, none⟩ = some (.bool b.n) ∧ w'.cell? ⟨w.heap.size, 4, none⟩ = some (.slice b.u b.nu b.cu) ∧ w'.cell? ⟨w.heap.size, 5, none⟩ = some (.slice b.l b.nl b.cl) ∧ w'.cell? ⟨w.heap.size, 6, none⟩ = some (.bool c.n) ∧ w'.cell? ⟨w.heap.size, 7, none⟩ = some (.slice c.u c.nu c.cu) ∧ w'.cell? ⟨w.heap.size, 8, none⟩ = some (.slice c.l c.nl c.cl) ∧ w'.cell? ⟨G, 0, none⟩ = some (.bool f.n) ∧ w'.cell? ⟨G, 1, none⟩ = some (.slice f.u f.nu f.cu) ∧ w'.cell? ⟨G, 2, none⟩ = some (.slice f.l f.nl f.cl)) := fun w' hb => ⟨(HKL.out.below hb HKL.out.lt).cell 0, (HKL.out.below hb HKL.out.lt).cell 1, (HKL.out.below hb HKL.out.lt).cell 2, (HKL.out.below hb HKL.out.lt).cell 3, (HKL.out.below hb HKL.out.lt).cell 4, (HKL.out.below hb HKL.out.lt).cell 5, (HKL.out.below hb HKL.out.lt).cell 6, (HKL.out.below hb HKL.out.lt).cell 7, (HKL.out.below hb HKL.out.lt).cell 8, (HKG.out.below hb HKG.out.lt).cell 0, (HKG.out.below hb HKG.out.lt).cell 1, (HKG.out.below hb HKG.out.lt).cell 2⟩
  have HSS : Hid (∀ w', Below w2.heap.size w2 w' → ∀ x0 x1 x2 : Value, (((w'.setCell ⟨w.heap.size + 1 + 1, 0, none⟩ (x0)).setCell ⟨w.heap.size + 1 + 1, 1, none⟩ (x1)).setCell ⟨w.heap.size + 1 + 1, 2, none⟩ (x2)).cell? ⟨w.heap.size, 0, none⟩ = some (.bool a.n) ∧ (((w'.setCell ⟨w.heap.size + 1 + 1, 0, none⟩ (x0)).setCell ⟨w.heap.size + 1 + 1, 1, none⟩ (x1)).setCell ⟨w.heap.size + 1 + 1, 2, none⟩ (x2)).cell? ⟨w.heap.size, 1, none⟩ = some (.slice a.u a.nu a.cu) ∧ (((w'.setCell ⟨w.heap.size + 1 + 1, 0, none⟩ (x0)).setCell ⟨w.heap.size + 1 + 1, 1, none⟩ (x1)).setCell ⟨w.heap.size + 1 + 1, 2, none⟩ (x2)).cell? ⟨w.heap.size, 2, none⟩ = some (.slice a.l a.nl a.cl) ∧ (((w'.setCell ⟨w.heap.size + 1 + 1, 0, none⟩ (x0)).setCell ⟨w.heap.size + 1 + 1, 1, none⟩ (x1)).setCell ⟨w.heap.size + 1 + 1, 2, none⟩ (x2)).cell? ⟨w.heap.size, 3, none⟩ = some (.bool b.n) ∧ (((w'.setCell ⟨w.heap.size + 1 + 1, 0, none⟩ (x0)).setCell ⟨w.heap.size + 1 + 1, 1, none⟩ (x1)).setCell ⟨w.heap.size + 1 + 1, 2, none⟩ (x2)).cell? ⟨w.heap.size, 4, none⟩ = some (.slice b.u b.nu b.cu) ∧ (((w'.setCell ⟨w.heap.size + 1 + 1, 0, none⟩ (x0)).setCell ⟨w.heap.size + 1 + 1, 1, none⟩ (x1)).setCell ⟨w.heap.size + 1 + 1, 2, none⟩ (x2)).cell? ⟨w.heap.size, 5, none⟩ = some (.slice b.l b.nl b.cl) ∧ (((w'.setCell ⟨w.heap.size + 1 + 1, 0, none⟩ (x0)).setCell ⟨w.heap.size + 1 + 1, 1, none⟩ (x1)).setCell ⟨w.heap.size + 1 + 1, 2, none⟩ (x2)).cell? ⟨w.heap.size, 6, none⟩ = some (.bool c.n) ∧ (((w'.setCell ⟨w.heap.size + 1 + 1, 0, none⟩ (x0)).setCell ⟨w.heap.size + 1 + 1, 1, none⟩ (x1)).setCell ⟨w.heap.size + 1 + 1, 2, none⟩ (x2)).cell? ⟨w.heap.size, 7, none⟩ = some (.slice c.u c.nu c.cu) ∧ (((w'.setCell ⟨w.heap.size + 1 + 1, 0, none⟩ (x0)).setCell ⟨w.heap.size + 1 + 1, 1, none⟩ (x1)).setCell ⟨w.heap.size + 1 + 1, 2, none⟩ (x2)).cell? ⟨w.heap.size, 8, none⟩ = some (.slice c.l c.nl c.cl) ∧ (((w'.setCell ⟨w.heap.size + 1 + 1, 0, none⟩ (x0)).setCell ⟨w.heap.size + 1 + 1, 1, none⟩ (x1)).setCell ⟨w.heap.size + 1 + 1, 2, none⟩ (x2)).cell? ⟨G, 0, none⟩ = some (.bool f.n) ∧ (((w'.setCell ⟨w.heap.size + 1 + 1, 0, none⟩ (x0)).setCell ⟨w.heap.size + 1 + 1, 1, none⟩ (x1)).setCell ⟨w.heap.size + 1 + 1, 2, none⟩ (x2)).cell? ⟨G, 1, none⟩ = some (.slice f.u f.nu f.cu) ∧ (((w'.setCell ⟨w.heap.size + 1 + 1, 0, none⟩ (x0)).setCell ⟨w.heap.size + 1 + 1, 1, none⟩ (x1)).setCell ⟨w.heap.size + 1 + 1, 2, none⟩ (x2)).cell? ⟨G, 2, none⟩ = some (.slice f.l f.nl f.cl)) := fun w' hb x0 x1 x2 => ⟨((HKL.out.below hb HKL.out.lt).off3 (g := w.heap.size + 1 + 1) (by omega) x0 x1 x2).cell 0, ((HKL.out.below hb HKL.out.lt).off3 (g := w.heap.size + 1 + 1) (by omega) x0 x1 x2).cell 1, ((HKL.out.below hb HKL.out.lt).off3 (g := w.heap.size + 1 + 1) (by omega) x0 x1 x2).cell 2, ((HKL.out.below hb HKL.out.lt).off3 (g := w.heap.size + 1 + 1) (by omega) x0 x1 x2).cell 3, ((HKL.out.below hb HKL.out.lt).off3 (g := w.heap.size + 1 + 1) (by omega) x0 x1 x2).cell 4, ((HKL.out.below hb HKL.out.lt).off3 (g := w.heap.size + 1 + 1) (by omega) x0 x1 x2).cell 5, ((HKL.out.below hb HKL.out.lt).off3 (g := w.heap.size + 1 + 1) (by omega) x0 x1 x2).cell 6, ((HKL.out.below hb HKL.out.lt).off3 (g := w.heap.size + 1 + 1) (by omega) x0 x1 x2).cell 7, ((HKL.out.below hb HKL.out.lt).off3 (g := w.heap.size + 1 + 1) (by omega) x0 x1 x2).cell 8, ((HKG.out.below hb HKG.out.lt).off3 (g := w.heap.size + 1 + 1) HGW.out x0 x1 x2).cell 0, ((HKG.out.below hb HKG.out.lt).off3 (g := w.heap.size + 1 + 1) HGW.out x0 x1 x2).cell 1, ((HKG.out.below hb HKG.out.lt).off3 (g := w.heap.size + 1 + 1) HGW.out x0 x1 x2).cell 2⟩
  obtain ⟨z0, z1, z2, z3, z4, z5, z6, z7, z8, z9, z10, z11⟩ := HS.out w2 (Below.refl _ _)
  try go_wp2_with fail
  go_region_held3 (fun w' => w'.cell? ⟨w.heap.size, 0, none⟩ = some (.bool a.n) ∧ w'.cell? ⟨w.heap.size, 1, none⟩ = some (.slice a.u a.nu a.cu) ∧ w'.cell? ⟨w.heap.size, 2, none⟩ = some (.slice a.l a.nl a.cl) ∧ w'.cell? ⟨w.heap.size, 3, none⟩ = some (.bool b.n) ∧ w'.cell? ⟨w.heap.size, 4, none⟩ = some (.slice b.u b.nu b.cu) ∧ w'.cell? ⟨w.heap.size, 5, none⟩ = some (.slice b.l b.nl b.cl) ∧ w'.cell? ⟨w.heap.size, 6, none⟩ = some (.bool c.n) ∧ w'.cell? ⟨w.heap.size, 7, none⟩ = some (.slice c.u c.nu c.cu) ∧ w'.cell? ⟨w.heap.size, 8, none⟩ = some (.slice c.l c.nl c.cl) ∧ w'.cell? ⟨G, 0, none⟩ = some (.bool f.n) ∧ w'.cell? ⟨G, 1, none⟩ = some (.slice f.u f.nu f.cu) ∧ w'.cell? ⟨G, 2, none⟩ = some (.slice f.l f.nl f.cl)) (first | go_keep | exact hs3 | exact hs4 | exact hs5 | exact hkS)
    (first
      | (go_at_call 109; refine (times_calls (w := w2.drew) (HV2.out.below (Below.drew (Below.refl _ _))) (HV2.out.below (Below.drew (Below.refl _ _))) FV.out FV.out K1.out).mono ?_; rintro _ w3 ⟨hb3, v3, rfl, hv3⟩; obtain ⟨d3, rfl⟩ := qv_open hv3; have hbl3 : Below w2.heap.size w2 w3 := (Below.drew (Below.refl _ w2)).trans hb3; have hs3 := HS.out w3 hbl3)
      | (go_at_call 123; refine (wayDot_calls ⟨a, b, rfl, HA2.out.below hbl3, HB2.out.below hbl3⟩ ⟨a, b, rfl, HA2.out.below hbl3, HB2.out.below hbl3⟩ F1.out F2.out F1.out F2.out K2.out).mono ?_; rintro _ w4 ⟨hb4, v4, rfl, hv4⟩; obtain ⟨d4, rfl⟩ := qv_open hv4; have hbl4 := hbl3.trans (hb4.mono hbl3.size); have hs4 := HS.out w4 hbl4)
      | (go_at_call 122; refine (overQ_calls (hv3.below hb4) hv4 (FV.out.mul FV.out) FN.out K3.out).mono ?_; rintro _ w5 ⟨hb5, v5, rfl, hv5⟩; obtain ⟨d5, rfl⟩ := qv_open hv5; have hbl5 := hbl4.trans (hb5.mono hbl4.size); have hs5 := HS.out w5 hbl5; have hkr := HKR.out.below hbl5 HKR.out.lt; obtain ⟨r0, r1, r2, j0, j1, j2⟩ := hkr.all3; have hkS := HSS.out w5 hbl5 (.bool d5.n) (.slice d5.u d5.nu d5.cu) (.slice d5.l d5.nl d5.cl))
      )
  all_goals
    go_wp2
    obtain ⟨k0, k1, k2, _⟩ := (hkr.put3 (.bool d5.n) (.slice d5.u d5.nu d5.cu) (.slice d5.l d5.nl d5.cl)).all3
    have hst := Stays.put3 hkr (by simp [notLimb]) (.bool d5.n) (.slice d5.u d5.nu d5.cu) (.slice d5.l d5.nl d5.cl) rfl rfl rfl
    exact bodyPost_ret (v := .agg #[.bool d5.n, .slice d5.u d5.nu d5.cu, .slice d5.l d5.nl d5.cl]) (by simp [results, Tryz.results77, go_sem, k0, k1, k2]) rfl ⟨Below.put3 (HB0.out.trans ((HBL.out.trans (hbl5.mono HBL.out.size)).mono HB0.out.size)) (by omega) _ _ _, _, rfl, hst.qv hv5⟩

/-- What is answered for the square of a distance. -/
def LineFarAns (a b c x y : Rat) (s : List UInt8) (z : Int) : Prop :=
  (a = 0 ∧ b = 0 ∧ s = [] ∧ z = 5) ∨ (¬ (a = 0 ∧ b = 0) ∧ z = 0 ∧ s = tx ((a * x + b * y + c) * (a * x + b * y + c) / (a * a + b * b)))

set_option maxHeartbeats 8000000 in
set_option maxRecDepth 100000 in
theorem lineFar2_walk {w : World} {la lb lc px py : ByteArray} (s1 : la.data.toList.length ≤ 4294967296) (s2 : lb.data.toList.length ≤ 4294967296) (s3 : lc.data.toList.length ≤ 4294967296) (s4 : px.data.toList.length ≤ 4294967296) (s5 : py.data.toList.length ≤ 4294967296) {k : Nat} (f1 : QS k (rd la.data.toList)) (f2 : QS k (rd lb.data.toList)) (f3 : QS k (rd lc.data.toList)) (f4 : QS k (rd px.data.toList)) (f5 : QS k (rd py.data.toList)) (hk : 30 * (k + k + 1) ≤ 35184372088640) (tab : Tab w) :
    Calls Tryz.prog 22 #[.agg #[.string la, .string lb, .string lc], .agg #[.string px, .string py]] w fun e w' => Below w.heap.size w w' ∧ ∃ (s : ByteArray) (z : Int), e = .returned (.tuple #[.string s, .int .i64 z]) ∧ LineFarAns (rd la.data.toList) (rd lb.data.toList) (rd lc.data.toList) (rd px.data.toList) (rd py.data.toList) s.data.toList z := by
  obtain ⟨hb0, hk0, hk1, hsz⟩ := boxes2 w #[.string la, .string lb, .string lc] #[.string px, .string py] 26 24
  have HB0 := hideIt hb0
  have HSZ := hideIt hsz
  have HK1 := hideIt hk1
  have S1 := hideIt s1
  have F1 := hideIt f1
  have S2 := hideIt s2
  have F2 := hideIt f2
  have S3 := hideIt s3
  have F3 := hideIt f3
  have S4 := hideIt s4
  have F4 := hideIt f4
  have S5 := hideIt s5
  have F5 := hideIt f5
  have HK := hideIt hk
  have HTAB := hideIt (tab.below hb0)
  clear hb0 hsz hk0 hk1 s1 s2 s3 s4 s5 f1 f2 f3 f4 f5 hk tab
  have FQ : Hid (QS ((k + k + (k + k) + 1 + k + 1) + (k + k + (k + k) + 1 + k + 1) + (k + k + (k + k) + 1)) (((rd la.data.toList) * (rd px.data.toList) + (rd lb.data.toList) * (rd py.data.toList) + (rd lc.data.toList)) * ((rd la.data.toList) * (rd px.data.toList) + (rd lb.data.toList) * (rd py.data.toList) + (rd lc.data.toList)) / ((rd la.data.toList) * (rd la.data.toList) + (rd lb.data.toList) * (rd lb.data.toList)))) := ((((F1.out.mul F4.out).add (F2.out.mul F5.out)).add F3.out).mul (((F1.out.mul F4.out).add (F2.out.mul F5.out)).add F3.out)).div ((F1.out.mul F1.out).add (F2.out.mul F2.out))
  have KQ : Hid ((k + k + (k + k) + 1 + k + 1) + (k + k + (k + k) + 1 + k + 1) + (k + k + (k + k) + 1) ≤ 35184372088640) := by have := HK.out; show _ ≤ _; omega
  go_enter Tryz.func22, Tryz.ntmps22
  go_wp2_with fail
  generalize ((w.alloc (.cells #[.string la, .string lb, .string lc] 26)).alloc (.cells #[.string px, .string py] 24)) = W0 at *
  refine (rulerRead_calls ⟨la, lb, lc, rfl, rfl, rfl, rfl⟩ S1.out S2.out S3.out).mono ?_
  rintro _ w1 ⟨hb1, ⟨h1, h2, rfl⟩ | ⟨hn, v1, rfl, hv1⟩⟩
  · have HBW := hideIt (HB0.out.trans (hb1.mono HB0.out.size))
    have HH := hideIt (And.intro h1 h2)
    clear hb1 h1 h2
    go_wp2
    exact bodyPost_ret (v := .tuple #[.string ⟨#[]⟩, .int .i64 5]) (by simp [results, Tryz.results22, go_sem]) rfl ⟨HBW.out.alloc HBW.out.size _, _, _, rfl, Or.inl ⟨HH.out.1, HH.out.2, rfl, rfl⟩⟩
  · obtain ⟨a, b, c, rfl, hx, hy, hz⟩ := hv1
    have HA := hideIt hx
    have HB := hideIt hy
    have HC := hideIt hz
    have HN := hideIt hn
    have HB1 := hideIt hb1
    clear hx hy hz hn hb1
    go_wp2_with fail
    obtain ⟨w2, hw2⟩ : ∃ w2, w2 = w1.alloc (.cells #[.bool a.n, .slice a.u a.nu a.cu, .slice a.l a.nl a.cl, .bool b.n, .slice b.u b.nu b.cu, .slice b.l b.nl b.cl, .bool c.n, .slice c.u c.nu c.cu, .slice c.l c.nl c.cl] 97) := ⟨_, rfl⟩
    have hbA := below_new w1 (.cells #[.bool a.n, .slice a.u a.nu a.cu, .slice a.l a.nl a.cl, .bool b.n, .slice b.u b.nu b.cu, .slice b.l b.nl b.cl, .bool c.n, .slice c.u c.nu c.cu, .slice c.l c.nl c.cl] 97)
    have HKG := hideIt (Blk.new w1 #[.bool a.n, .slice a.u a.nu a.cu, .slice a.l a.nl a.cl, .bool b.n, .slice b.u b.nu b.cu, .slice b.l b.nl b.cl, .bool c.n, .slice c.u c.nu c.cu, .slice c.l c.nl c.cl] 97)
    rw [← hw2] at hbA HKG ⊢
    obtain ⟨G, hG⟩ : ∃ G, G = w1.heap.size := ⟨_, rfl⟩
    rw [← hG] at HKG ⊢
    clear hG hw2
    have HBL : Hid (Below W0.heap.size W0 w2) := HB1.out.trans (hbA.mono HB1.out.size)
    have HA2 := hideIt (HA.out.below hbA)
    have HB2 := hideIt (HB.out.below hbA)
    have HC2 := hideIt (HC.out.below hbA)
    have HKP := hideIt (HK1.out.below HBL.out (by rw [HSZ.out]; omega))
    clear hbA
    have HS : Hid (∀ w', Below w2.heap.size w2 w' → w'.cell? ⟨w.heap.size + 1, 0, none⟩ = some (.string px) ∧ w'.cell? ⟨w.heap.size + 1, 1, none⟩ = some (.string py) ∧ w'.cell? ⟨G, 0, none⟩ = some (.bool a.n) ∧ w'.cell? ⟨G, 1, none⟩ = some (.slice a.u a.nu a.cu) ∧ w'.cell? ⟨G, 2, none⟩ = some (.slice a.l a.nl a.cl) ∧ w'.cell? ⟨G, 3, none⟩ = some (.bool b.n) ∧ w'.cell? ⟨G, 4, none⟩ = some (.slice b.u b.nu b.cu) ∧ w'.cell? ⟨G, 5, none⟩ = some (.slice b.l b.nl b.cl) ∧ w'.cell? ⟨G, 6, none⟩ = some (.bool c.n) ∧ w'.cell? ⟨G, 7, none⟩ = some (.slice c.u c.nu c.cu) ∧ w'.cell? ⟨G, 8, none⟩ = some (.slice c.l c.nl c.cl)) := fun w' hb => ⟨(HKP.out.below hb HKP.out.lt).cell 0, (HKP.out.below hb HKP.out.lt).cell 1, (HKG.out.below hb HKG.out.lt).cell 0, (HKG.out.below hb HKG.out.lt).cell 1, (HKG.out.below hb HKG.out.lt).cell 2, (HKG.out.below hb HKG.out.lt).cell 3, (HKG.out.below hb HKG.out.lt).cell 4, (HKG.out.below hb HKG.out.lt).cell 5, (HKG.out.below hb HKG.out.lt).cell 6, (HKG.out.below hb HKG.out.lt).cell 7, (HKG.out.below hb HKG.out.lt).cell 8⟩
    obtain ⟨z0, z1, z2, z3, z4, z5, z6, z7, z8, z9, z10⟩ := HS.out w2 (Below.refl _ _)
    go_wp2_with fail
    go_region_held3 (fun w' => w'.cell? ⟨w.heap.size + 1, 0, none⟩ = some (.string px) ∧ w'.cell? ⟨w.heap.size + 1, 1, none⟩ = some (.string py) ∧ w'.cell? ⟨G, 0, none⟩ = some (.bool a.n) ∧ w'.cell? ⟨G, 1, none⟩ = some (.slice a.u a.nu a.cu) ∧ w'.cell? ⟨G, 2, none⟩ = some (.slice a.l a.nl a.cl) ∧ w'.cell? ⟨G, 3, none⟩ = some (.bool b.n) ∧ w'.cell? ⟨G, 4, none⟩ = some (.slice b.u b.nu b.cu) ∧ w'.cell? ⟨G, 5, none⟩ = some (.slice b.l b.nl b.cl) ∧ w'.cell? ⟨G, 6, none⟩ = some (.bool c.n) ∧ w'.cell? ⟨G, 7, none⟩ = some (.slice c.u c.nu c.cu) ∧ w'.cell? ⟨G, 8, none⟩ = some (.slice c.l c.nl c.cl)) (first | go_keep | exact hs3 | exact hs4 | exact hs5)
      (first
        | (go_at_call 62; refine (wayRead_calls (w := w2.drew) ⟨px, py, rfl, rfl, rfl⟩ S4.out S5.out).mono ?_; rintro _ w3 ⟨hb3, v3, rfl, hv3⟩; obtain ⟨d, e, rfl, hx3, hy3⟩ := hv3; have hbl3 : Below w2.heap.size w2 w3 := (Below.drew (Below.refl _ w2)).trans hb3; have hs3 := HS.out w3 hbl3)
        | (go_at_call 77; refine (rulerFar2_walk (HA2.out.below hbl3) (HB2.out.below hbl3) (HC2.out.below hbl3) hx3 hy3 F1.out F2.out F3.out F4.out F5.out HK.out).mono ?_; rintro _ w4 ⟨hb4, v4, rfl, hv4⟩; obtain ⟨d4, rfl⟩ := qv_open hv4; have hbl4 := hbl3.trans (hb4.mono hbl3.size); have hs4 := HS.out w4 hbl4)
        | (go_at_call 78; refine (text_calls hv4 FQ.out KQ.out (HTAB.out.below (HBL.out.trans (hbl4.mono HBL.out.size)))).mono ?_; rintro _ w5 ⟨hb5, s1, rfl, hs1⟩; have HS1 := hideIt hs1; clear hs1; have hbl5 := hbl4.trans (hb5.mono hbl4.size); have hs5 := HS.out w5 hbl5)
        )
    all_goals
      go_wp2
      exact bodyPost_ret (v := .tuple #[.string s1, .int .i64 0]) (by simp [results, Tryz.results22, go_sem]) rfl ⟨HB0.out.trans ((HBL.out.trans (hbl5.mono HBL.out.size)).mono HB0.out.size), _, _, rfl, Or.inr ⟨HN.out, rfl, HS1.out⟩⟩
end Go.Proofs.YtgajdmadbdbabaaGreatDoor
/- Walks of package line: Beside. -/
namespace Go.Proofs.YtgajdmadbdbabaaGreatDoor
open Go.RowKit Cx

attribute [local go_sem ↓] Go.wp_at_zero Go.wp_at_succ

end Go.Proofs.YtgajdmadbdbabaaGreatDoor
/- Walks by what is known: contracts of lines. -/
namespace Go.Proofs.YtgajdmadbdbabaaGreatDoor
open Go.RowKit Cx

theorem en_compasslaw_lined (vs : Array Value) (w : World) : (callFunc 18 vs).run Tryz.prog w = .ok (.enter 18 vs) w := enters Tryz.func18 (by kernel_rfl) (by kernel_rfl) vs w
theorem con_lined : Con Tryz.prog Pre 18 [] (Bo true) := fun w vs hp hall => by
  obtain rfl := all2_none hall
  refine (lined_calls w hp.1).mono ?_
  rintro _ w' ⟨hb, rfl⟩
  exact ⟨hb, _, rfl, rfl⟩
theorem lineAns_ok {x y c : Rat} {la lb lc sa sb sc : ByteArray} {z : Int} {w : World} (h : LineAns x y c la.data.toList lb.data.toList lc.data.toList z) (hn : ¬ (x = 0 ∧ y = 0)) (ea : sa.data.toList = tx (x * fac [x, y, c])) (eb : sb.data.toList = tx (y * fac [x, y, c])) (ec : sc.data.toList = tx (c * fac [x, y, c])) : (Tup [L3 sa sb sc, In 0]).on (.tuple #[.agg #[.string la, .string lb, .string lc], .int .i64 z]) w := by
  rcases h with ⟨h1, h2, _⟩ | ⟨_, rfl, h1, h2, h3⟩
  · exact absurd ⟨h1, h2⟩ hn
  · obtain rfl : la = sa := (bytes_of (h1.trans ea.symm)).trans (bytes_of rfl).symm
    obtain rfl : lb = sb := (bytes_of (h2.trans eb.symm)).trans (bytes_of rfl).symm
    obtain rfl : lc = sc := (bytes_of (h3.trans ec.symm)).trans (bytes_of rfl).symm
    exact ⟨[_, _], rfl, L3.mk _ _ _ _, rfl, trivial⟩
theorem lineAns_flat {x y c : Rat} {la lb lc : ByteArray} {z : Int} {w : World} (h : LineAns x y c la.data.toList lb.data.toList lc.data.toList z) (hf : x = 0 ∧ y = 0) : (Tup [L3 ⟨#[]⟩ ⟨#[]⟩ ⟨#[]⟩, In 5]).on (.tuple #[.agg #[.string la, .string lb, .string lc], .int .i64 z]) w := by
  rcases h with ⟨_, _, rfl, h1, h2, h3⟩ | ⟨hn, _⟩
  · obtain rfl : la = ⟨#[]⟩ := bytes_of h1
    obtain rfl : lb = ⟨#[]⟩ := bytes_of h2
    obtain rfl : lc = ⟨#[]⟩ := bytes_of h3
    exact ⟨[_, _], rfl, L3.mk _ _ _ _, rfl, trivial⟩
  · exact absurd hf hn
theorem en_line_Through (vs : Array Value) (w : World) : (callFunc 15 vs).run Tryz.prog w = .ok (.enter 15 vs) w := enters Tryz.func15 (by kernel_rfl) (by kernel_rfl) vs w
theorem con_through_ok {px py qx qy sa sb sc : ByteArray} {rpx rpy rqx rqy : Rat} {A B C : Rat} (tpx : TX 4194309 px rpx) (spx : px.size ≤ 1048576) (tpy : TX 4194309 py rpy) (spy : py.size ≤ 1048576) (tqx : TX 4194309 qx rqx) (sqx : qx.size ≤ 1048576) (tqy : TX 4194309 qy rqy) (sqy : qy.size ≤ 1048576) (eA : A = -(rqy - rpy)) (eB : B = rqx - rpx) (eC : C = -(A * rpx + B * rpy)) (hn : ¬ (A = 0 ∧ B = 0)) (ea : sa.data.toList = tx (A * fac [A, B, C])) (eb : sb.data.toList = tx (B * fac [A, B, C])) (ec : sc.data.toList = tx (C * fac [A, B, C])) : Con Tryz.prog Pre 15 [P2 px py, P2 qx qy] (Tup [L3 sa sb sc, In 0]) := fun w vs hp hall => by
  obtain ⟨v0, v1, rfl, h1, h2⟩ := all2_two hall
  cases P2.eq h1
  cases P2.eq h2
  have erpx := tpx.rd
  have erpy := tpy.rd
  have erqx := tqx.rd
  have erqy := tqy.rd
  subst erpx erpy erqx erqy
  refine (through_walk (by rw [str_len]; exact spx) (by rw [str_len]; exact spy) (by rw [str_len]; exact sqx) (by rw [str_len]; exact sqy) hp.1).mono ?_
  rintro _ w' ⟨hb, la, lb, lc, z, rfl, hans⟩
  subst eC eA eB
  exact ⟨hb, _, rfl, lineAns_ok hans hn ea eb ec⟩
theorem con_through_flat {px py qx qy : ByteArray} {rpx rpy rqx rqy : Rat} {A B C : Rat} (tpx : TX 4194309 px rpx) (spx : px.size ≤ 1048576) (tpy : TX 4194309 py rpy) (spy : py.size ≤ 1048576) (tqx : TX 4194309 qx rqx) (sqx : qx.size ≤ 1048576) (tqy : TX 4194309 qy rqy) (sqy : qy.size ≤ 1048576) (eA : A = -(rqy - rpy)) (eB : B = rqx - rpx) (eC : C = -(A * rpx + B * rpy)) (hf : A = 0 ∧ B = 0) : Con Tryz.prog Pre 15 [P2 px py, P2 qx qy] (Tup [L3 ⟨#[]⟩ ⟨#[]⟩ ⟨#[]⟩, In 5]) := fun w vs hp hall => by
  obtain ⟨v0, v1, rfl, h1, h2⟩ := all2_two hall
  cases P2.eq h1
  cases P2.eq h2
  have erpx := tpx.rd
  have erpy := tpy.rd
  have erqx := tqx.rd
  have erqy := tqy.rd
  subst erpx erpy erqx erqy
  refine (through_walk (by rw [str_len]; exact spx) (by rw [str_len]; exact spy) (by rw [str_len]; exact sqx) (by rw [str_len]; exact sqy) hp.1).mono ?_
  rintro _ w' ⟨hb, la, lb, lc, z, rfl, hans⟩
  subst eC eA eB
  exact ⟨hb, _, rfl, lineAns_flat hans hf⟩
theorem en_line_Between (vs : Array Value) (w : World) : (callFunc 43 vs).run Tryz.prog w = .ok (.enter 43 vs) w := enters Tryz.func43 (by kernel_rfl) (by kernel_rfl) vs w
theorem con_between_ok {px py qx qy sa sb sc : ByteArray} {rpx rpy rqx rqy : Rat} {A B C : Rat} (tpx : TX 4194309 px rpx) (spx : px.size ≤ 1048576) (tpy : TX 4194309 py rpy) (spy : py.size ≤ 1048576) (tqx : TX 4194309 qx rqx) (sqx : qx.size ≤ 1048576) (tqy : TX 4194309 qy rqy) (sqy : qy.size ≤ 1048576) (eA : A = rqx - rpx) (eB : B = rqy - rpy) (eC : C = -(A * ((rpx + rqx) / ((2 : Nat) : Rat)) + B * ((rpy + rqy) / ((2 : Nat) : Rat)))) (hn : ¬ (A = 0 ∧ B = 0)) (ea : sa.data.toList = tx (A * fac [A, B, C])) (eb : sb.data.toList = tx (B * fac [A, B, C])) (ec : sc.data.toList = tx (C * fac [A, B, C])) : Con Tryz.prog Pre 43 [P2 px py, P2 qx qy] (Tup [L3 sa sb sc, In 0]) := fun w vs hp hall => by
  obtain ⟨v0, v1, rfl, h1, h2⟩ := all2_two hall
  cases P2.eq h1
  cases P2.eq h2
  have erpx := tpx.rd
  have erpy := tpy.rd
  have erqx := tqx.rd
  have erqy := tqy.rd
  subst erpx erpy erqx erqy
  refine (between2_walk (by rw [str_len]; exact spx) (by rw [str_len]; exact spy) (by rw [str_len]; exact sqx) (by rw [str_len]; exact sqy) hp.1).mono ?_
  rintro _ w' ⟨hb, la, lb, lc, z, rfl, hans⟩
  subst eC eA eB
  exact ⟨hb, _, rfl, lineAns_ok hans hn ea eb ec⟩
theorem con_between_flat {px py qx qy : ByteArray} {rpx rpy rqx rqy : Rat} {A B C : Rat} (tpx : TX 4194309 px rpx) (spx : px.size ≤ 1048576) (tpy : TX 4194309 py rpy) (spy : py.size ≤ 1048576) (tqx : TX 4194309 qx rqx) (sqx : qx.size ≤ 1048576) (tqy : TX 4194309 qy rqy) (sqy : qy.size ≤ 1048576) (eA : A = rqx - rpx) (eB : B = rqy - rpy) (eC : C = -(A * ((rpx + rqx) / ((2 : Nat) : Rat)) + B * ((rpy + rqy) / ((2 : Nat) : Rat)))) (hf : A = 0 ∧ B = 0) : Con Tryz.prog Pre 43 [P2 px py, P2 qx qy] (Tup [L3 ⟨#[]⟩ ⟨#[]⟩ ⟨#[]⟩, In 5]) := fun w vs hp hall => by
  obtain ⟨v0, v1, rfl, h1, h2⟩ := all2_two hall
  cases P2.eq h1
  cases P2.eq h2
  have erpx := tpx.rd
  have erpy := tpy.rd
  have erqx := tqx.rd
  have erqy := tqy.rd
  subst erpx erpy erqx erqy
  refine (between2_walk (by rw [str_len]; exact spx) (by rw [str_len]; exact spy) (by rw [str_len]; exact sqx) (by rw [str_len]; exact sqy) hp.1).mono ?_
  rintro _ w' ⟨hb, la, lb, lc, z, rfl, hans⟩
  subst eC eA eB
  exact ⟨hb, _, rfl, lineAns_flat hans hf⟩
theorem dropAns_ok {a b c x y t : Rat} {la lb sa sb : ByteArray} {z : Int} {w : World} (h : DropAns a b c x y t la.data.toList lb.data.toList z) (hn : ¬ (a = 0 ∧ b = 0)) (ea : sa.data.toList = tx (x + a * -(a * x + b * y + c) / (a * a + b * b) * t)) (eb : sb.data.toList = tx (y + b * -(a * x + b * y + c) / (a * a + b * b) * t)) : (Tup [P2 sa sb, In 0]).on (.tuple #[.agg #[.string la, .string lb], .int .i64 z]) w := by
  rcases h with ⟨h1, h2, _⟩ | ⟨_, rfl, h1, h2⟩
  · exact absurd ⟨h1, h2⟩ hn
  · obtain rfl : la = sa := (bytes_of (h1.trans ea.symm)).trans (bytes_of rfl).symm
    obtain rfl : lb = sb := (bytes_of (h2.trans eb.symm)).trans (bytes_of rfl).symm
    exact ⟨[_, _], rfl, P2.mk _ _ _, rfl, trivial⟩
theorem dropAns_flat {a b c x y t : Rat} {la lb : ByteArray} {z : Int} {w : World} (h : DropAns a b c x y t la.data.toList lb.data.toList z) (hf : a = 0 ∧ b = 0) : (Tup [P2 ⟨#[]⟩ ⟨#[]⟩, In 5]).on (.tuple #[.agg #[.string la, .string lb], .int .i64 z]) w := by
  rcases h with ⟨_, _, rfl, h1, h2⟩ | ⟨hn, _⟩
  · obtain rfl : la = ⟨#[]⟩ := bytes_of h1
    obtain rfl : lb = ⟨#[]⟩ := bytes_of h2
    exact ⟨[_, _], rfl, P2.mk _ _ _, rfl, trivial⟩
  · exact absurd hf hn
theorem en_line_Foot (vs : Array Value) (w : World) : (callFunc 20 vs).run Tryz.prog w = .ok (.enter 20 vs) w := enters Tryz.func20 (by kernel_rfl) (by kernel_rfl) vs w
theorem con_foot_ok {la lb lc px py sa sb : ByteArray} {rla rlb rlc rpx rpy : Rat} {k : Nat} (tla : TX k la rla) (tlb : TX k lb rlb) (tlc : TX k lc rlc) (tpx : TX k px rpx) (tpy : TX k py rpy) (hs : 2 * k + 4 ≤ 4294967296) (hk : 100 * (k + 1) ≤ 35184372088640) (hn : ¬ (rla = 0 ∧ rlb = 0)) (ea : sa.data.toList = tx (rpx + rla * -(rla * rpx + rlb * rpy + rlc) / (rla * rla + rlb * rlb) * ((1 : Nat) : Rat))) (eb : sb.data.toList = tx (rpy + rlb * -(rla * rpx + rlb * rpy + rlc) / (rla * rla + rlb * rlb) * ((1 : Nat) : Rat))) : Con Tryz.prog Pre 20 [L3 la lb lc, P2 px py] (Tup [P2 sa sb, In 0]) := fun w vs hp hall => by
  obtain ⟨v0, v1, rfl, h1, h2⟩ := all2_two hall
  cases L3.eq h1
  cases P2.eq h2
  have erla := tla.rd
  have erlb := tlb.rd
  have erlc := tlc.rd
  have erpx := tpx.rd
  have erpy := tpy.rd
  subst erla erlb erlc erpx erpy
  refine (foot_walk (tla.len hs) (tlb.len hs) (tlc.len hs) (tpx.len hs) (tpy.len hs) tla.qs tlb.qs tlc.qs tpx.qs tpy.qs hk hp.1).mono ?_
  rintro _ w' ⟨hb, la, lb, z, rfl, hans⟩
  exact ⟨hb, _, rfl, dropAns_ok hans hn ea eb⟩
theorem con_foot_flat {la lb lc px py : ByteArray} {rla rlb rlc rpx rpy : Rat} {k : Nat} (tla : TX k la rla) (tlb : TX k lb rlb) (tlc : TX k lc rlc) (tpx : TX k px rpx) (tpy : TX k py rpy) (hs : 2 * k + 4 ≤ 4294967296) (hk : 100 * (k + 1) ≤ 35184372088640) (hf : rla = 0 ∧ rlb = 0) : Con Tryz.prog Pre 20 [L3 la lb lc, P2 px py] (Tup [P2 ⟨#[]⟩ ⟨#[]⟩, In 5]) := fun w vs hp hall => by
  obtain ⟨v0, v1, rfl, h1, h2⟩ := all2_two hall
  cases L3.eq h1
  cases P2.eq h2
  have erla := tla.rd
  have erlb := tlb.rd
  have erlc := tlc.rd
  have erpx := tpx.rd
  have erpy := tpy.rd
  subst erla erlb erlc erpx erpy
  refine (foot_walk (tla.len hs) (tlb.len hs) (tlc.len hs) (tpx.len hs) (tpy.len hs) tla.qs tlb.qs tlc.qs tpx.qs tpy.qs hk hp.1).mono ?_
  rintro _ w' ⟨hb, la, lb, z, rfl, hans⟩
  exact ⟨hb, _, rfl, dropAns_flat hans hf⟩
theorem en_line_Mirror (vs : Array Value) (w : World) : (callFunc 21 vs).run Tryz.prog w = .ok (.enter 21 vs) w := enters Tryz.func21 (by kernel_rfl) (by kernel_rfl) vs w
theorem con_mirror_ok {la lb lc px py sa sb : ByteArray} {rla rlb rlc rpx rpy : Rat} {k : Nat} (tla : TX k la rla) (tlb : TX k lb rlb) (tlc : TX k lc rlc) (tpx : TX k px rpx) (tpy : TX k py rpy) (hs : 2 * k + 4 ≤ 4294967296) (h8 : 8 ≤ k) (hk : 100 * (k + 1) ≤ 35184372088640) (hn : ¬ (rla = 0 ∧ rlb = 0)) (ea : sa.data.toList = tx (rpx + rla * -(rla * rpx + rlb * rpy + rlc) / (rla * rla + rlb * rlb) * ((2 : Nat) : Rat))) (eb : sb.data.toList = tx (rpy + rlb * -(rla * rpx + rlb * rpy + rlc) / (rla * rla + rlb * rlb) * ((2 : Nat) : Rat))) : Con Tryz.prog Pre 21 [L3 la lb lc, P2 px py] (Tup [P2 sa sb, In 0]) := fun w vs hp hall => by
  obtain ⟨v0, v1, rfl, h1, h2⟩ := all2_two hall
  cases L3.eq h1
  cases P2.eq h2
  have erla := tla.rd
  have erlb := tlb.rd
  have erlc := tlc.rd
  have erpx := tpx.rd
  have erpy := tpy.rd
  subst erla erlb erlc erpx erpy
  refine (mirror_walk (tla.len hs) (tlb.len hs) (tlc.len hs) (tpx.len hs) (tpy.len hs) tla.qs tlb.qs tlc.qs tpx.qs tpy.qs h8 hk hp.1).mono ?_
  rintro _ w' ⟨hb, la, lb, z, rfl, hans⟩
  exact ⟨hb, _, rfl, dropAns_ok hans hn ea eb⟩
theorem con_mirror_flat {la lb lc px py : ByteArray} {rla rlb rlc rpx rpy : Rat} {k : Nat} (tla : TX k la rla) (tlb : TX k lb rlb) (tlc : TX k lc rlc) (tpx : TX k px rpx) (tpy : TX k py rpy) (hs : 2 * k + 4 ≤ 4294967296) (h8 : 8 ≤ k) (hk : 100 * (k + 1) ≤ 35184372088640) (hf : rla = 0 ∧ rlb = 0) : Con Tryz.prog Pre 21 [L3 la lb lc, P2 px py] (Tup [P2 ⟨#[]⟩ ⟨#[]⟩, In 5]) := fun w vs hp hall => by
  obtain ⟨v0, v1, rfl, h1, h2⟩ := all2_two hall
  cases L3.eq h1
  cases P2.eq h2
  have erla := tla.rd
  have erlb := tlb.rd
  have erlc := tlc.rd
  have erpx := tpx.rd
  have erpy := tpy.rd
  subst erla erlb erlc erpx erpy
  refine (mirror_walk (tla.len hs) (tlb.len hs) (tlc.len hs) (tpx.len hs) (tpy.len hs) tla.qs tlb.qs tlc.qs tpx.qs tpy.qs h8 hk hp.1).mono ?_
  rintro _ w' ⟨hb, la, lb, z, rfl, hans⟩
  exact ⟨hb, _, rfl, dropAns_flat hans hf⟩
theorem en_line_Far2 (vs : Array Value) (w : World) : (callFunc 22 vs).run Tryz.prog w = .ok (.enter 22 vs) w := enters Tryz.func22 (by kernel_rfl) (by kernel_rfl) vs w
theorem con_lfar2_ok {la lb lc px py sa : ByteArray} {rla rlb rlc rpx rpy : Rat} {k : Nat} (tla : TX k la rla) (tlb : TX k lb rlb) (tlc : TX k lc rlc) (tpx : TX k px rpx) (tpy : TX k py rpy) (hs : 2 * k + 4 ≤ 4294967296) (hk : 30 * (k + k + 1) ≤ 35184372088640) (hn : ¬ (rla = 0 ∧ rlb = 0)) (ea : sa.data.toList = tx ((rla * rpx + rlb * rpy + rlc) * (rla * rpx + rlb * rpy + rlc) / (rla * rla + rlb * rlb))) : Con Tryz.prog Pre 22 [L3 la lb lc, P2 px py] (Tup [Tx sa, In 0]) := fun w vs hp hall => by
  obtain ⟨v0, v1, rfl, h1, h2⟩ := all2_two hall
  cases L3.eq h1
  cases P2.eq h2
  have erla := tla.rd
  have erlb := tlb.rd
  have erlc := tlc.rd
  have erpx := tpx.rd
  have erpy := tpy.rd
  subst erla erlb erlc erpx erpy
  refine (lineFar2_walk (tla.len hs) (tlb.len hs) (tlc.len hs) (tpx.len hs) (tpy.len hs) tla.qs tlb.qs tlc.qs tpx.qs tpy.qs hk hp.1).mono ?_
  rintro _ w' ⟨hb, s, z, rfl, hans⟩
  rcases hans with ⟨h1, h2, _⟩ | ⟨_, rfl, h1⟩
  · exact absurd ⟨h1, h2⟩ hn
  · obtain rfl : s = sa := (bytes_of (h1.trans ea.symm)).trans (bytes_of rfl).symm
    exact ⟨hb, _, rfl, [_, _], rfl, rfl, rfl, trivial⟩
theorem con_lfar2_flat {la lb lc px py : ByteArray} {rla rlb rlc rpx rpy : Rat} {k : Nat} (tla : TX k la rla) (tlb : TX k lb rlb) (tlc : TX k lc rlc) (tpx : TX k px rpx) (tpy : TX k py rpy) (hs : 2 * k + 4 ≤ 4294967296) (hk : 30 * (k + k + 1) ≤ 35184372088640) (hf : rla = 0 ∧ rlb = 0) : Con Tryz.prog Pre 22 [L3 la lb lc, P2 px py] (Tup [Tx ⟨#[]⟩, In 5]) := fun w vs hp hall => by
  obtain ⟨v0, v1, rfl, h1, h2⟩ := all2_two hall
  cases L3.eq h1
  cases P2.eq h2
  have erla := tla.rd
  have erlb := tlb.rd
  have erlc := tlc.rd
  have erpx := tpx.rd
  have erpy := tpy.rd
  subst erla erlb erlc erpx erpy
  refine (lineFar2_walk (tla.len hs) (tlb.len hs) (tlc.len hs) (tpx.len hs) (tpy.len hs) tla.qs tlb.qs tlc.qs tpx.qs tpy.qs hk hp.1).mono ?_
  rintro _ w' ⟨hb, s, z, rfl, hans⟩
  rcases hans with ⟨_, _, h1, rfl⟩ | ⟨hn, _⟩
  · obtain rfl : s = ⟨#[]⟩ := bytes_of h1
    exact ⟨hb, _, rfl, [_, _], rfl, rfl, rfl, trivial⟩
  · exact absurd hf hn
end Go.Proofs.YtgajdmadbdbabaaGreatDoor
/- Walks of package compassref: RightP. -/
namespace Go.Proofs.YtgajdmadbdbabaaGreatDoor
open Go.RowKit Cx

attribute [local go_sem ↓] Go.wp_at_zero Go.wp_at_succ

/-- The value is a slice of the points ps, told by texts. -/
def PRow (w : World) (v : Value) (ps : List (ByteArray × ByteArray)) : Prop :=
  ∃ b off cap, v = .slice (some ⟨b, off, none⟩) ps.length cap ∧ b < w.heap.size ∧ ∀ (j : Nat) (hj : j < ps.length), w.cell? ⟨b, off + j * 2, none⟩ = some (.string (ps[j]'hj).1) ∧ w.cell? ⟨b, off + j * 2 + 1, none⟩ = some (.string (ps[j]'hj).2)

theorem prow_idx {b off n cap k : Nat} (hk : k < n) (wx : World) : (Instr.indexAt 109 (.slice (some ⟨b, off, none⟩) n cap) (.int .i64 k)).run Tryz.prog wx = .ok (.pointer (some ⟨b, off + k * 2, none⟩)) wx := by
  have he : Tryz.prog.elem 109 = 24 := by simp [Program.elem, Tryz.underlying109]
  rw [run_indexAt_slice (h := by rw [he]; exact Tryz.underlying109), if_pos (by omega), he, Tryz.sizeOf24]
  simp [Result.andThen, Addr.add]

theorem srow2 {w : World} {b : Nat} {s t : ByteArray} (hb : Blk w b #[.string s, .string t] 22) : SRow w (.slice (some ⟨b, 0, none⟩) 2 2) [s, t] := by
  refine ⟨b, 0, 2, rfl, hb.lt, fun j hj => ?_⟩
  match j, hj with
  | 0, _ => exact hb.cell 0
  | 1, _ => exact hb.cell 1
theorem two_mem {P : ByteArray → Prop} {x y : ByteArray} (h1 : P x) (h2 : P y) : ∀ s ∈ [x, y], P s := by
  intro s hs
  simp only [List.mem_cons, List.not_mem_nil, or_false] at hs
  rcases hs with rfl | rfl <;> assumption

set_option maxHeartbeats 4000000 in
set_option maxRecDepth 100000 in
theorem refRightP_walk {w : World} {b off cap : Nat} {ps : List (ByteArray × ByteArray)} (h : PRow w (.slice (some ⟨b, off, none⟩) ps.length cap) ps) (hm : MaxL w) (hl : ∀ p ∈ ps, (p.1.size ≤ 4294967280 ∧ p.2.size ≤ 4294967280) ∧ right p.1 ∧ right p.2) (hn : ps.length ≤ 1000000) :
    Calls Tryz.prog 26 #[.slice (some ⟨b, off, none⟩) ps.length cap] w fun e w' => Below w.heap.size w w' ∧ e = .returned (.bool true) := by
  have HR := hideIt2 h
  have HM := hideIt2 hm
  have HL := hideIt2 hl
  clear h hm hl
  go_enter Tryz.func26, Tryz.ntmps26
  go_wp2
  go_loopw [7] (fun i wr => ∃ k : Nat, k ≤ ps.length ∧ i = .int .i64 (k : Int) ∧ Below w.heap.size w wr) (fun i _ => ps.length - (intOf i).toNat)
  case atStart => exact ⟨0, Nat.zero_le _, rfl, Below.refl _ _⟩
  case round =>
    obtain ⟨k, hkl, rfl, hbel⟩ := hrel
    have HBL := hideIt2 hbel
    clear hbel
    by_cases hend : k = ps.length
    · subst hend
      go_wp2
      go_ret
      exact ⟨HBL.out, rfl⟩
    · have hlt : k < ps.length := by omega
      have hidx := prow_idx (b := b) (off := off) (cap := cap) hlt
      obtain ⟨b', off', cap', e, hbl, hcells⟩ := HR.out
      cases e
      have hp := hcells k hlt
      obtain ⟨x, y, hxy⟩ : ∃ x y, ps[k] = (x, y) := ⟨_, _, rfl⟩
      have hmem : (x, y) ∈ ps := hxy ▸ List.getElem_mem hlt
      have HF := hideIt2 (HL.out _ hmem)
      rw [hxy] at hp
      have z0 := (HBL.out.cell (p := ⟨b, off + k * 2, none⟩) hbl).trans hp.1
      have z1 := (HBL.out.cell (p := ⟨b, off + k * 2 + 1, none⟩) hbl).trans hp.2
      clear hp hcells hxy hmem
      go_wp2_with fail
      refine (refRight_calls (srow2 (by first | with_reducible exact Blk.new _ _ _ | ((with_reducible refine blk_at ?_); (first | with_reducible rfl | (simp; done))))) (HM.out.below (Below.new (Below.new HBL.out _) _)) (two_mem HF.out.1.1 HF.out.1.2) (by simp)).mono ?_
      rintro e w1 ⟨hb1, rr, rfl, hrr⟩
      have hrt := hrr.2 (two_mem HF.out.2.1 HF.out.2.2)
      have H1 := hideIt2 (bel_bel (Below.new (Below.new HBL.out _) _) hb1)
      clear hrr hb1
      subst hrt
      go_wp2
      go_roundw
      case rel => exact ⟨k + 1, hlt, by go_num, H1.out⟩
      case measure => simp [intOf]; omega

/-- RightP: are points as they are answered? -/
theorem refRightP_calls {w : World} {v : Value} {ps : List (ByteArray × ByteArray)} (h : PRow w v ps) (hm : MaxL w) (hl : ∀ p ∈ ps, (p.1.size ≤ 4294967280 ∧ p.2.size ≤ 4294967280) ∧ right p.1 ∧ right p.2) (hn : ps.length ≤ 1000000) :
    Calls Tryz.prog 26 #[v] w fun e w' => Below w.heap.size w w' ∧ e = .returned (.bool true) := by
  have h' := h
  obtain ⟨b, off, cap, rfl, _⟩ := h
  exact refRightP_walk h' hm hl hn
end Go.Proofs.YtgajdmadbdbabaaGreatDoor
/- Walks by what is known: slices of points; RightP; the fraction F. -/
namespace Go.Proofs.YtgajdmadbdbabaaGreatDoor
open Go.RowKit Cx

attribute [local go_sem ↓] Go.wp_at_zero Go.wp_at_succ

theorem bslice_P2 {a b c d : ByteArray} (x0 x1 : Operand) (w : World) (ρ : Operand → Value) (h : All2 w [P2 a b, P2 c d] (((#[(0, x0), (1, x1)] : Array (Nat × Operand)).toList.map (·.2)).map ρ)) : ∃ v w', (Instr.buildSlice 109 2 ((#[(0, x0), (1, x1)] : Array (Nat × Operand)).map fun (i, x) => (i, ρ x))).run Tryz.prog w = .ok v w' ∧ Below w.heap.size w w' ∧ (RowS 24 2 [Tx a, Tx b, Tx c, Tx d]).on v w' := by
  have h' : All2 w [P2 a b, P2 c d] [ρ x0, ρ x1] := h
  have e0 := P2.eq h'.1
  have e1 := P2.eq h'.2.1
  refine ⟨.slice (some ⟨w.heap.size, 0, none⟩) 2 2, w.alloc (.cells [.string a, .string b, .string c, .string d].toArray 24), ?_, below_new _ _, w.heap.size, [.string a, .string b, .string c, .string d], rfl, Blk.new _ _ _, rfl, rfl, rfl, rfl, trivial⟩
  clear h h'
  simp [go_sem, e0, e1]

theorem en_compassref_RightP (vs : Array Value) (w : World) : (callFunc 26 vs).run Tryz.prog w = .ok (.enter 26 vs) w := enters Tryz.func26 (by kernel_rfl) (by kernel_rfl) vs w
theorem con_RightP2 {a b c d : ByteArray} {x y z u : Rat} {k : Nat} (ha : TX k a x) (hb : TX k b y) (hc : TX k c z) (hd : TX k d u) (ra : right a) (rb : right b) (rc : right c) (rd' : right d) (hk : 2 * k + 4 ≤ 4294967280) : ConS Tryz.prog Pre 26 [RowS 24 2 [Tx a, Tx b, Tx c, Tx d]] (Bo true) := fun w vs hp hall => by
  obtain ⟨v0, rfl, G, cs, rfl, hk2, hall2⟩ := allS_one hall
  match cs, hall2 with
  | [_, _, _, _], ⟨h1, h2, h3, h4, _⟩ =>
    cases h1
    cases h2
    cases h3
    cases h4
    refine (refRightP_calls (ps := [(a, b), (c, d)]) ⟨G, 0, 2, rfl, hk2.lt, fun j hj => ?_⟩ hp.2 (by simp [Nat.le_trans ha.sz hk, Nat.le_trans hb.sz hk, Nat.le_trans hc.sz hk, Nat.le_trans hd.sz hk, ra, rb, rc, rd']) (by simp)).mono ?_
    · match j, hj with
      | 0, _ => exact ⟨hk2.cell 0, hk2.cell 1⟩
      | 1, _ => exact ⟨hk2.cell 2, hk2.cell 3⟩
    · rintro _ w' ⟨hb, rfl⟩
      exact ⟨hb, _, rfl, rfl⟩

set_option maxHeartbeats 4000000 in
set_option maxRecDepth 100000 in
/-- NewRat of machine numbers, not below 0, the second above. -/
theorem newRat_calls (a b : Nat) (ha : a < 9223372036854775808) (hb : b < 9223372036854775808) (hb0 : 0 < b) (w : World) :
    Calls Tryz.prog 93 #[.int .i64 a, .int .i64 b] w fun e w' => Below w.heap.size w w' ∧ ∃ v, e = .returned v ∧ PR w' v (mkRat a b) := by
  have hne : ((b : Int) == 0) = false := beq_eq_false_iff_ne.mpr (by omega)
  go_enter Tryz.func93, Tryz.ntmps93
  go_wp2_with fail
  have hk0 := Blk.new w #[.bool false, .slice none 0 0, .bool false, .slice none 0 0] 118
  have HD0 := hideIt2 (below_new w (.cells #[.bool false, .slice none 0 0, .bool false, .slice none 0 0] 118))
  refine (newInt_calls a ha _).mono ?_
  rintro e w1 ⟨hb1, g1, rfl, hg1, ho1⟩
  have HK1 := hideIt2 (hk0.below hb1 hk0.lt)
  have HB1 := hideIt2 (bel_bel HD0.out hb1)
  have HO1 := hideIt2 ho1
  clear hb1 ho1 hk0
  go_wp2_with fail
  refine (newInt_calls b hb w1).mono ?_
  rintro e w2 ⟨hb2, g2, rfl, hg2, ho2⟩
  have HK2 := hideIt2 (HK1.out.below hb2 HK1.out.lt)
  have HB2 := hideIt2 (bel_bel HB1.out hb2)
  have HO2 := hideIt2 (HO1.out.below hb2)
  have HP2 := hideIt2 ho2
  clear hb2 ho2
  go_wp2_with fail
  refine (setFrac_walk HK2.out (by simp [notLimb]) HO2.out.iv HP2.out.iv hb0 (small_two (k := 63) (by rw [Int.natAbs_natCast]; omega) (by decide)) (small_two (k := 63) (by omega) (by decide))).mono ?_
  rintro e w3 ⟨rfl, hs3, hr3⟩
  have H3 := hideIt2 (And.intro (bel_sav HB2.out hs3 (Nat.le_refl _)) hr3)
  clear hs3 hr3
  go_wp2
  go_ret
  exact ⟨H3.out.1, _, rfl, _, rfl, H3.out.2⟩
set_option maxHeartbeats 4000000 in
theorem refF_calls (a b : Nat) (ha : a < 9223372036854775808) (hb : b < 9223372036854775808) (hb0 : 0 < b) (w : World) :
    Calls Tryz.prog 45 #[.int .i64 a, .int .i64 b] w fun e w' => Below w.heap.size w w' ∧ ∃ v, e = .returned v ∧ PR w' v (mkRat a b) := by
  go_enter Tryz.func45, Tryz.ntmps45
  go_wp2_with fail
  refine (newRat_calls a b ha hb hb0 w).mono ?_
  rintro e w1 ⟨hb1, v, rfl, hv⟩
  have H1 := hideIt2 (And.intro hb1 hv)
  clear hb1 hv
  go_wp2
  go_ret
  exact ⟨H1.out.1, _, rfl, H1.out.2⟩
theorem en_compassref_F (vs : Array Value) (w : World) : (callFunc 45 vs).run Tryz.prog w = .ok (.enter 45 vs) w := enters Tryz.func45 (by kernel_rfl) (by kernel_rfl) vs w
theorem con_F {x : Rat} (a b : Nat) (ha : a < 9223372036854775808) (hb : b < 9223372036854775808) (hb0 : 0 < b) (e : x = mkRat a b) : Con Tryz.prog Pre 45 [In (a : Int), In (b : Int)] (Rt x) := fun w vs hp hall => by
  obtain ⟨v0, v1, rfl, h1, h2⟩ := all2_two hall
  cases h1
  cases h2
  refine (refF_calls a b ha hb hb0 w).mono ?_
  rintro _ w' ⟨hbl, v, rfl, hv⟩
  exact ⟨hbl, v, rfl, by rw [e]; exact hv⟩
theorem qs_frac (a b : Nat) (ha : a < 18446744073709551616) (hb : b < 18446744073709551616) : QS 65 (mkRat a b) := QS.mkr (k := 64) (by rw [Int.natAbs_natCast]; omega) (by omega)
theorem normF_ne {a b : Rat} (h : ¬ (a = 0 ∧ b = 0)) : a * a + b * b ≠ 0 := by
  intro e
  have sq : ∀ x : Rat, 0 ≤ x * x := fun x => by
    rcases Rat.le_total (a := 0) (b := x) with h | h
    · exact Rat.mul_nonneg h h
    · have := Rat.mul_nonneg (Rat.neg_le_neg h) (Rat.neg_le_neg h)
      grind
  have ha := sq a
  have hb := sq b
  have ea : a * a = 0 := by grind
  have eb : b * b = 0 := by grind
  exact h ⟨(Rat.mul_eq_zero.1 ea).elim id id, (Rat.mul_eq_zero.1 eb).elim id id⟩
end Go.Proofs.YtgajdmadbdbabaaGreatDoor
