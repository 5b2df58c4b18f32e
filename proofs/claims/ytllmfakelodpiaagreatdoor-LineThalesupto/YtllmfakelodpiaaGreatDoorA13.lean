/- Part 13 of the walks of the packages num, way, ruler, line and plane, and of the mathematics under them: WT MathY WU WV WW WX. -/
import Derived.Test.YtllmfakelodpiaaGreatDoorA12
import Derived.Test.YtllmfakelodpiaaGreatDoorA10
/- Walks of package line: dropped, Foot. -/
namespace Go.Proofs.YtllmfakelodpiaaGreatDoor
open Go.RowKit Cx

attribute [local go_sem ↓] Go.wp_at_zero Go.wp_at_succ

/-- p and k times the way to its foot on the line, as it is answered. -/
def DropAns (a b c x y t : Rat) (sa sb : List UInt8) (z : Int) : Prop :=
  (a = 0 ∧ b = 0 ∧ z = 5) ∨ (¬ (a = 0 ∧ b = 0) ∧ z = 0 ∧ sa = tx (x + a * -(a * x + b * y + c) / (a * a + b * b) * t) ∧ sb = tx (y + b * -(a * x + b * y + c) / (a * a + b * b) * t))

set_option maxHeartbeats 8000000 in
set_option maxRecDepth 100000 in
theorem dropped_walk {w : World} {la lb lc px py : ByteArray} {f : C3} {t : Rat} (ht : QV w (.agg #[.bool f.n, .slice f.u f.nu f.cu, .slice f.l f.nl f.cl]) t) (s1 : la.data.toList.length ≤ 4294967296) (s2 : lb.data.toList.length ≤ 4294967296) (s3 : lc.data.toList.length ≤ 4294967296) (s4 : px.data.toList.length ≤ 4294967296) (s5 : py.data.toList.length ≤ 4294967296) {k : Nat} (f1 : QS k (rd la.data.toList)) (f2 : QS k (rd lb.data.toList)) (f3 : QS k (rd lc.data.toList)) (f4 : QS k (rd px.data.toList)) (f5 : QS k (rd py.data.toList)) (f6 : QS k t) (hk : 100 * (k + 1) ≤ 35184372088640) (tab : Tab w) :
    Calls Tryz.prog 35 #[.agg #[.string la, .string lb, .string lc], .agg #[.string px, .string py], .agg #[.bool f.n, .slice f.u f.nu f.cu, .slice f.l f.nl f.cl]] w fun e w' => Below w.heap.size w w' ∧ ∃ (sa sb : ByteArray) (z : Int), e = .returned (.tuple #[.agg #[.string sa, .string sb], .int .i64 z]) ∧ DropAns (rd la.data.toList) (rd lb.data.toList) (rd lc.data.toList) (rd px.data.toList) (rd py.data.toList) t sa.data.toList sb.data.toList z := by
  obtain ⟨hb0, hk0, hk1, hk2, hk3, hsz⟩ := boxes4 w #[.string la, .string lb, .string lc] #[.string px, .string py] #[.bool f.n, .slice f.u f.nu f.cu, .slice f.l f.nl f.cl] #[.string ⟨#[]⟩, .string ⟨#[]⟩] 26 24 39 24
  have HB0 := hideIt hb0
  have HSZ := hideIt hsz
  have HK1 := hideIt hk1
  have HK2 := hideIt hk2
  have HK3 := hideIt hk3
  have HTAB := hideIt (tab.below hb0)
  have HT0 := hideIt (ht.below hb0)
  have S1 := hideIt s1
  have F1 := hideIt f1
  have S2 := hideIt s2
  have F2 := hideIt f2
  have S3 := hideIt s3
  have F3 := hideIt f3
  have S4 := hideIt s4
  have F4 := hideIt f4
  have S5 := hideIt s5
  have F5 := hideIt f5
  have F6 := hideIt f6
  have HK := hideIt hk
  clear hb0 hsz hk0 hk1 hk2 hk3 tab ht s1 s2 s3 s4 s5 f1 f2 f3 f4 f5 f6 hk
  have Q1 : Hid (30 * (k + k + 1) ≤ 35184372088640) := by have := HK.out; show _ ≤ _; omega
  have FV : Hid (QS (k + k + (k + k) + 1 + k + 1) (-((rd la.data.toList) * (rd px.data.toList) + (rd lb.data.toList) * (rd py.data.toList) + (rd lc.data.toList)))) := (((F1.out.mul F4.out).add (F2.out.mul F5.out)).add F3.out).neg
  have FN : Hid (QS (k + k + (k + k) + 1) ((rd la.data.toList) * (rd la.data.toList) + (rd lb.data.toList) * (rd lb.data.toList))) := (F1.out.mul F1.out).add (F2.out.mul F2.out)
  have FDX : Hid (QS (k + (k + k + (k + k) + 1 + k + 1) + (k + k + (k + k) + 1)) ((rd la.data.toList) * -((rd la.data.toList) * (rd px.data.toList) + (rd lb.data.toList) * (rd py.data.toList) + (rd lc.data.toList)) / ((rd la.data.toList) * (rd la.data.toList) + (rd lb.data.toList) * (rd lb.data.toList)))) := (F1.out.mul FV.out).div FN.out
  have FDY : Hid (QS (k + (k + k + (k + k) + 1 + k + 1) + (k + k + (k + k) + 1)) ((rd lb.data.toList) * -((rd la.data.toList) * (rd px.data.toList) + (rd lb.data.toList) * (rd py.data.toList) + (rd lc.data.toList)) / ((rd la.data.toList) * (rd la.data.toList) + (rd lb.data.toList) * (rd lb.data.toList)))) := (F2.out.mul FV.out).div FN.out
  have Q2 : Hid (k + (k + k + (k + k) + 1 + k + 1) + (k + k + (k + k) + 1) + k + 1 ≤ 35184372088640) := by have := HK.out; show _ ≤ _; omega
  have FTX : Hid (QS (k + (k + k + (k + k) + 1 + k + 1) + (k + k + (k + k) + 1) + k) (((rd la.data.toList) * -((rd la.data.toList) * (rd px.data.toList) + (rd lb.data.toList) * (rd py.data.toList) + (rd lc.data.toList)) / ((rd la.data.toList) * (rd la.data.toList) + (rd lb.data.toList) * (rd lb.data.toList))) * t)) := FDX.out.mul F6.out
  have FTY : Hid (QS (k + (k + k + (k + k) + 1 + k + 1) + (k + k + (k + k) + 1) + k) (((rd lb.data.toList) * -((rd la.data.toList) * (rd px.data.toList) + (rd lb.data.toList) * (rd py.data.toList) + (rd lc.data.toList)) / ((rd la.data.toList) * (rd la.data.toList) + (rd lb.data.toList) * (rd lb.data.toList))) * t)) := FDY.out.mul F6.out
  have A1 : Hid (∀ q ∈ [((rd px.data.toList), (rd py.data.toList)), (((rd la.data.toList) * -((rd la.data.toList) * (rd px.data.toList) + (rd lb.data.toList) * (rd py.data.toList) + (rd lc.data.toList)) / ((rd la.data.toList) * (rd la.data.toList) + (rd lb.data.toList) * (rd lb.data.toList))) * t, ((rd lb.data.toList) * -((rd la.data.toList) * (rd px.data.toList) + (rd lb.data.toList) * (rd py.data.toList) + (rd lc.data.toList)) / ((rd la.data.toList) * (rd la.data.toList) + (rd lb.data.toList) * (rd lb.data.toList))) * t)].map Prod.fst, QS (k + (k + k + (k + k) + 1 + k + 1) + (k + k + (k + k) + 1) + k) q) := all2 (F4.out.mono (by omega)) FTX.out
  have A2 : Hid (∀ q ∈ [((rd px.data.toList), (rd py.data.toList)), (((rd la.data.toList) * -((rd la.data.toList) * (rd px.data.toList) + (rd lb.data.toList) * (rd py.data.toList) + (rd lc.data.toList)) / ((rd la.data.toList) * (rd la.data.toList) + (rd lb.data.toList) * (rd lb.data.toList))) * t, ((rd lb.data.toList) * -((rd la.data.toList) * (rd px.data.toList) + (rd lb.data.toList) * (rd py.data.toList) + (rd lc.data.toList)) / ((rd la.data.toList) * (rd la.data.toList) + (rd lb.data.toList) * (rd lb.data.toList))) * t)].map Prod.snd, QS (k + (k + k + (k + k) + 1 + k + 1) + (k + k + (k + k) + 1) + k) q) := all2 (F5.out.mono (by omega)) FTY.out
  have Q3 : Hid (2 * (k + (k + k + (k + k) + 1 + k + 1) + (k + k + (k + k) + 1) + k + 1) + 1 ≤ 35184372088640) := by have := HK.out; show _ ≤ _; omega
  have Q4 : Hid (k + (k + (k + k + (k + k) + 1 + k + 1) + (k + k + (k + k) + 1) + k) + 1 ≤ 35184372088640) := by have := HK.out; show _ ≤ _; omega
  go_enter Tryz.func35, Tryz.ntmps35
  go_wp2_with fail
  generalize ((((w.alloc (.cells #[.string la, .string lb, .string lc] 26)).alloc (.cells #[.string px, .string py] 24)).alloc (.cells #[.bool f.n, .slice f.u f.nu f.cu, .slice f.l f.nl f.cl] 39)).alloc (.cells #[.string ⟨#[]⟩, .string ⟨#[]⟩] 24)) = W0 at *
  refine (rulerRead_calls ⟨la, lb, lc, rfl, rfl, rfl, rfl⟩ S1.out S2.out S3.out).mono ?_
  rintro _ w1 ⟨hb1, ⟨h1, h2, rfl⟩ | ⟨hn, v1, rfl, hv1⟩⟩
  · have HKR := hideIt (HK3.out.below hb1 (by rw [HSZ.out]; omega))
    have HBW := hideIt (HB0.out.trans (hb1.mono HB0.out.size))
    have HH := hideIt (And.intro h1 h2)
    have r0 : ∀ o, (w1.alloc o).cell? ⟨w.heap.size + 1 + 1 + 1, 0, none⟩ = some (.string ⟨#[]⟩) := fun o => (HKR.out.old o).cell 0
    have j0 : ∀ o, (w1.alloc o).frozen? ⟨w.heap.size + 1 + 1 + 1, 0, none⟩ = false := fun o => (HKR.out.old o).frozen 0
    have r1 : ∀ o, (w1.alloc o).cell? ⟨w.heap.size + 1 + 1 + 1, 1, none⟩ = some (.string ⟨#[]⟩) := fun o => (HKR.out.old o).cell 1
    have j1 : ∀ o, (w1.alloc o).frozen? ⟨w.heap.size + 1 + 1 + 1, 1, none⟩ = false := fun o => (HKR.out.old o).frozen 1
    obtain ⟨q0, q1, g0, g1⟩ := HKR.out.all2
    have lR := HKR.out.lt
    clear hb1 h1 h2
    go_wp2
    obtain ⟨k0, k1, _⟩ := ((HKR.out.put2 (.string ⟨#[]⟩) (.string ⟨#[]⟩)).old (.cells #[.bool false, .slice none 0 0, .slice none 0 0, .bool false, .slice none 0 0, .slice none 0 0, .bool false, .slice none 0 0, .slice none 0 0] 52)).all2
    have hbf := (Below.put2 HBW.out (g := w.heap.size + 1 + 1 + 1) (by omega) (.string ⟨#[]⟩) (.string ⟨#[]⟩))
    exact bodyPost_ret (v := .tuple #[.agg #[.string ⟨#[]⟩, .string ⟨#[]⟩], .int .i64 5]) (by simp [results, Tryz.results35, go_sem, k0, k1]) rfl ⟨hbf.alloc hbf.size _, _, _, _, rfl, Or.inl ⟨HH.out.1, HH.out.2, rfl⟩⟩
  · obtain ⟨a, b, c, rfl, hx, hy, hz⟩ := hv1
    have HA := hideIt hx
    have HB := hideIt hy
    have HC := hideIt hz
    have HN := hideIt hn
    have HB1 := hideIt hb1
    have HKM1 := hideIt (HK1.out.below hb1 (by rw [HSZ.out]; omega))
    have m0 : ∀ o, (w1.alloc o).cell? ⟨w.heap.size + 1, 0, none⟩ = some (.string px) := fun o => (HKM1.out.old o).cell 0
    have m1 : ∀ o, (w1.alloc o).cell? ⟨w.heap.size + 1, 1, none⟩ = some (.string py) := fun o => (HKM1.out.old o).cell 1
    clear hx hy hz hn hb1
    go_wp2_with fail
    obtain ⟨w2, hw2⟩ : ∃ w2, w2 = w1.alloc (.cells #[.bool a.n, .slice a.u a.nu a.cu, .slice a.l a.nl a.cl, .bool b.n, .slice b.u b.nu b.cu, .slice b.l b.nl b.cl, .bool c.n, .slice c.u c.nu c.cu, .slice c.l c.nl c.cl] 52) := ⟨_, rfl⟩
    have hbA := below_new w1 (.cells #[.bool a.n, .slice a.u a.nu a.cu, .slice a.l a.nl a.cl, .bool b.n, .slice b.u b.nu b.cu, .slice b.l b.nl b.cl, .bool c.n, .slice c.u c.nu c.cu, .slice c.l c.nl c.cl] 52)
    have HKG := hideIt (Blk.new w1 #[.bool a.n, .slice a.u a.nu a.cu, .slice a.l a.nl a.cl, .bool b.n, .slice b.u b.nu b.cu, .slice b.l b.nl b.cl, .bool c.n, .slice c.u c.nu c.cu, .slice c.l c.nl c.cl] 52)
    rw [← hw2] at hbA HKG ⊢
    obtain ⟨G, hG⟩ : ∃ G, G = w1.heap.size := ⟨_, rfl⟩
    rw [← hG] at HKG ⊢
    clear hG hw2
    have HBL : Hid (Below W0.heap.size W0 w2) := HB1.out.trans (hbA.mono HB1.out.size)
    have HA2 := hideIt (HA.out.below hbA)
    have HB2 := hideIt (HB.out.below hbA)
    have HC2 := hideIt (HC.out.below hbA)
    clear hbA m0 m1
    refine (wayRead_calls ⟨px, py, rfl, rfl, rfl⟩ S4.out S5.out).mono ?_
    rintro _ w3 ⟨hb3, v3, rfl, hv3⟩
    obtain ⟨d, e, rfl, hx, hy⟩ := hv3
    have HX := hideIt hx
    have HY := hideIt hy
    have HA3 := hideIt (HA2.out.below hb3)
    have HB3 := hideIt (HB2.out.below hb3)
    have HC3 := hideIt (HC2.out.below hb3)
    have HBL3 := hideIt (HBL.out.trans (hb3.mono HBL.out.size))
    have HKG3 := hideIt (HKG.out.below hb3 HKG.out.lt)
    have HH0 : Hid (G < w3.heap.size) := HKG3.out.lt
    clear hx hy hb3
    go_wp2_with fail
    obtain ⟨w4, hw4⟩ : ∃ w4, w4 = w3.alloc (.cells #[.bool d.n, .slice d.u d.nu d.cu, .slice d.l d.nl d.cl, .bool e.n, .slice e.u e.nu e.cu, .slice e.l e.nl e.cl] 41) := ⟨_, rfl⟩
    have hbA := below_new w3 (.cells #[.bool d.n, .slice d.u d.nu d.cu, .slice d.l d.nl d.cl, .bool e.n, .slice e.u e.nu e.cu, .slice e.l e.nl e.cl] 41)
    have HKH := hideIt (Blk.new w3 #[.bool d.n, .slice d.u d.nu d.cu, .slice d.l d.nl d.cl, .bool e.n, .slice e.u e.nu e.cu, .slice e.l e.nl e.cl] 41)
    rw [← hw4] at hbA HKH ⊢
    obtain ⟨H, hH⟩ : ∃ H, H = w3.heap.size := ⟨_, rfl⟩
    rw [← hH] at HKH ⊢
    clear hH hw4
    have HBL4 := hideIt (HBL3.out.trans (hbA.mono HBL3.out.size))
    have HA4 := hideIt (HA3.out.below hbA)
    have HB4 := hideIt (HB3.out.below hbA)
    have HC4 := hideIt (HC3.out.below hbA)
    have HX4 := hideIt (HX.out.below hbA)
    have HY4 := hideIt (HY.out.below hbA)
    have HKG4 := hideIt (HKG3.out.below hbA HKG3.out.lt)
    have HT4 := hideIt (HT0.out.below HBL4.out)
    have HTC := hideIt (HTAB.out.below HBL4.out)
    have HKK := hideIt (HK2.out.below HBL4.out (by rw [HSZ.out]; omega))
    have HKR := hideIt (HK3.out.below HBL4.out (by rw [HSZ.out]; omega))
    clear hbA
    have HRS : Hid (w.heap.size + 1 + 1 + 1 ≠ G ∧ w.heap.size + 1 + 1 + 1 ≠ H) := by
      constructor
      · rintro rfl
        have h1 := HKR.out.cell 0
        rw [HKG4.out.cell] at h1
        simp at h1
      · rintro rfl
        have h1 := HKR.out.cell 0
        rw [HKH.out.cell] at h1
        simp at h1
    have HS : Hid (∀ w', Below w4.heap.size w4 w' → w'.cell? ⟨w.heap.size + 1 + 1, 0, none⟩ = some (.bool f.n) ∧ w'.cell? ⟨w.heap.size + 1 + 1, 1, none⟩ = some (.slice f.u f.nu f.cu) ∧ w'.cell? ⟨w.heap.size + 1 + 1, 2, none⟩ = some (.slice f.l f.nl f.cl) ∧ w'.cell? ⟨G, 0, none⟩ = some (.bool a.n) ∧ w'.cell? ⟨G, 1, none⟩ = some (.slice a.u a.nu a.cu) ∧ w'.cell? ⟨G, 2, none⟩ = some (.slice a.l a.nl a.cl) ∧ w'.cell? ⟨G, 3, none⟩ = some (.bool b.n) ∧ w'.cell? ⟨G, 4, none⟩ = some (.slice b.u b.nu b.cu) ∧ w'.cell? ⟨G, 5, none⟩ = some (.slice b.l b.nl b.cl) ∧ w'.cell? ⟨G, 6, none⟩ = some (.bool c.n) ∧ w'.cell? ⟨G, 7, none⟩ = some (.slice c.u c.nu c.cu) ∧ w'.cell? ⟨G, 8, none⟩ = some (.slice c.l c.nl c.cl) ∧ w'.cell? ⟨H, 0, none⟩ = some (.bool d.n) ∧ w'.cell? ⟨H, 1, none⟩ = some (.slice d.u d.nu d.cu) ∧ w'.cell? ⟨H, 2, none⟩ = some (.slice d.l d.nl d.cl) ∧ w'.cell? ⟨H, 3, none⟩ = some (.bool e.n) ∧ w'.cell? ⟨H, 4, none⟩ = some (.slice e.u e.nu e.cu) ∧ w'.cell? ⟨H, 5, none⟩ = some (.slice e.l e.nl e.cl)) := fun w' hb => ⟨(HKK.out.below hb HKK.out.lt).cell 0, (HKK.out.below hb HKK.out.lt).cell 1, (HKK.out.below hb HKK.out.lt).cell 2, (HKG4.out.below hb HKG4.out.lt).cell 0, (HKG4.out.below hb HKG4.out.lt).cell 1, (HKG4.out.below hb HKG4.out.lt).cell 2, (HKG4.out.below hb HKG4.out.lt).cell 3, (HKG4.out.below hb HKG4.out.lt).cell 4, (HKG4.out.below hb HKG4.out.lt).cell 5, (HKG4.out.below hb HKG4.out.lt).cell 6, (HKG4.out.below hb HKG4.out.lt).cell 7, (HKG4.out.below hb HKG4.out.lt).cell 8, (HKH.out.below hb HKH.out.lt).cell 0, (HKH.out.below hb HKH.out.lt).cell 1, (HKH.out.below hb HKH.out.lt).cell 2, (HKH.out.below hb HKH.out.lt).cell 3, (HKH.out.below hb HKH.out.lt).cell 4, (HKH.out.below hb HKH.out.lt).cell 5⟩
    have HSS : Hid (∀ w', Below w4.heap.size w4 w' → ∀ x0 x1 : Value, ((w'.setCell ⟨w.heap.size + 1 + 1 + 1, 0, none⟩ (x0)).setCell ⟨w.heap.size + 1 + 1 + 1, 1, none⟩ (x1)).cell? ⟨w.heap.size + 1 + 1, 0, none⟩ = some (.bool f.n) ∧ ((w'.setCell ⟨w.heap.size + 1 + 1 + 1, 0, none⟩ (x0)).setCell ⟨w.heap.size + 1 + 1 + 1, 1, none⟩ (x1)).cell? ⟨w.heap.size + 1 + 1, 1, none⟩ = some (.slice f.u f.nu f.cu) ∧ ((w'.setCell ⟨w.heap.size + 1 + 1 + 1, 0, none⟩ (x0)).setCell ⟨w.heap.size + 1 + 1 + 1, 1, none⟩ (x1)).cell? ⟨w.heap.size + 1 + 1, 2, none⟩ = some (.slice f.l f.nl f.cl) ∧ ((w'.setCell ⟨w.heap.size + 1 + 1 + 1, 0, none⟩ (x0)).setCell ⟨w.heap.size + 1 + 1 + 1, 1, none⟩ (x1)).cell? ⟨G, 0, none⟩ = some (.bool a.n) ∧ ((w'.setCell ⟨w.heap.size + 1 + 1 + 1, 0, none⟩ (x0)).setCell ⟨w.heap.size + 1 + 1 + 1, 1, none⟩ (x1)).cell? ⟨G, 1, none⟩ = some (.slice a.u a.nu a.cu) ∧ ((w'.setCell ⟨w.heap.size + 1 + 1 + 1, 0, none⟩ (x0)).setCell ⟨w.heap.size + 1 + 1 + 1, 1, none⟩ (x1)).cell? ⟨G, 2, none⟩ = some (.slice a.l a.nl a.cl) ∧ ((w'.setCell ⟨w.heap.size + 1 + 1 + 1, 0, none⟩ (x0)).setCell ⟨w.heap.size + 1 + 1 + 1, 1, none⟩ (x1)).cell? ⟨G, 3, none⟩ = some (.bool b.n) ∧ ((w'.setCell ⟨w.heap.size + 1 + 1 + 1, 0, none⟩ (x0)).setCell ⟨w.heap.size + 1 + 1 + 1, 1, none⟩ (x1)).cell? ⟨G, 4, none⟩ = some (.slice b.u b.nu b.cu) ∧ ((w'.setCell ⟨w.heap.size + 1 + 1 + 1, 0, none⟩ (x0)).setCell ⟨w.heap.size + 1 + 1 + 1, 1, none⟩ (x1)).cell? ⟨G, 5, none⟩ = some (.slice b.l b.nl b.cl) ∧ ((w'.setCell ⟨w.heap.size + 1 + 1 + 1, 0, none⟩ (x0)).setCell ⟨w.heap.size + 1 + 1 + 1, 1, none⟩ (x1)).cell? ⟨G, 6, none⟩ = some (.bool c.n) ∧ ((w'.setCell ⟨w.heap.size + 1 + 1 + 1, 0, none⟩ (x0)).setCell ⟨w.heap.size + 1 + 1 + 1, 1, none⟩ (x1)).cell? ⟨G, 7, none⟩ = some (.slice c.u c.nu c.cu) ∧ ((w'.setCell ⟨w.heap.size + 1 + 1 + 1, 0, none⟩ (x0)).setCell ⟨w.heap.size + 1 + 1 + 1, 1, none⟩ (x1)).cell? ⟨G, 8, none⟩ = some (.slice c.l c.nl c.cl) ∧ ((w'.setCell ⟨w.heap.size + 1 + 1 + 1, 0, none⟩ (x0)).setCell ⟨w.heap.size + 1 + 1 + 1, 1, none⟩ (x1)).cell? ⟨H, 0, none⟩ = some (.bool d.n) ∧ ((w'.setCell ⟨w.heap.size + 1 + 1 + 1, 0, none⟩ (x0)).setCell ⟨w.heap.size + 1 + 1 + 1, 1, none⟩ (x1)).cell? ⟨H, 1, none⟩ = some (.slice d.u d.nu d.cu) ∧ ((w'.setCell ⟨w.heap.size + 1 + 1 + 1, 0, none⟩ (x0)).setCell ⟨w.heap.size + 1 + 1 + 1, 1, none⟩ (x1)).cell? ⟨H, 2, none⟩ = some (.slice d.l d.nl d.cl) ∧ ((w'.setCell ⟨w.heap.size + 1 + 1 + 1, 0, none⟩ (x0)).setCell ⟨w.heap.size + 1 + 1 + 1, 1, none⟩ (x1)).cell? ⟨H, 3, none⟩ = some (.bool e.n) ∧ ((w'.setCell ⟨w.heap.size + 1 + 1 + 1, 0, none⟩ (x0)).setCell ⟨w.heap.size + 1 + 1 + 1, 1, none⟩ (x1)).cell? ⟨H, 4, none⟩ = some (.slice e.u e.nu e.cu) ∧ ((w'.setCell ⟨w.heap.size + 1 + 1 + 1, 0, none⟩ (x0)).setCell ⟨w.heap.size + 1 + 1 + 1, 1, none⟩ (x1)).cell? ⟨H, 5, none⟩ = some (.slice e.l e.nl e.cl)) := fun w' hb x0 x1 => ⟨((HKK.out.below hb HKK.out.lt).off2 (g := w.heap.size + 1 + 1 + 1) (by omega) x0 x1).cell 0, ((HKK.out.below hb HKK.out.lt).off2 (g := w.heap.size + 1 + 1 + 1) (by omega) x0 x1).cell 1, ((HKK.out.below hb HKK.out.lt).off2 (g := w.heap.size + 1 + 1 + 1) (by omega) x0 x1).cell 2, ((HKG4.out.below hb HKG4.out.lt).off2 (g := w.heap.size + 1 + 1 + 1) HRS.out.1 x0 x1).cell 0, ((HKG4.out.below hb HKG4.out.lt).off2 (g := w.heap.size + 1 + 1 + 1) HRS.out.1 x0 x1).cell 1, ((HKG4.out.below hb HKG4.out.lt).off2 (g := w.heap.size + 1 + 1 + 1) HRS.out.1 x0 x1).cell 2, ((HKG4.out.below hb HKG4.out.lt).off2 (g := w.heap.size + 1 + 1 + 1) HRS.out.1 x0 x1).cell 3, ((HKG4.out.below hb HKG4.out.lt).off2 (g := w.heap.size + 1 + 1 + 1) HRS.out.1 x0 x1).cell 4, ((HKG4.out.below hb HKG4.out.lt).off2 (g := w.heap.size + 1 + 1 + 1) HRS.out.1 x0 x1).cell 5, ((HKG4.out.below hb HKG4.out.lt).off2 (g := w.heap.size + 1 + 1 + 1) HRS.out.1 x0 x1).cell 6, ((HKG4.out.below hb HKG4.out.lt).off2 (g := w.heap.size + 1 + 1 + 1) HRS.out.1 x0 x1).cell 7, ((HKG4.out.below hb HKG4.out.lt).off2 (g := w.heap.size + 1 + 1 + 1) HRS.out.1 x0 x1).cell 8, ((HKH.out.below hb HKH.out.lt).off2 (g := w.heap.size + 1 + 1 + 1) HRS.out.2 x0 x1).cell 0, ((HKH.out.below hb HKH.out.lt).off2 (g := w.heap.size + 1 + 1 + 1) HRS.out.2 x0 x1).cell 1, ((HKH.out.below hb HKH.out.lt).off2 (g := w.heap.size + 1 + 1 + 1) HRS.out.2 x0 x1).cell 2, ((HKH.out.below hb HKH.out.lt).off2 (g := w.heap.size + 1 + 1 + 1) HRS.out.2 x0 x1).cell 3, ((HKH.out.below hb HKH.out.lt).off2 (g := w.heap.size + 1 + 1 + 1) HRS.out.2 x0 x1).cell 4, ((HKH.out.below hb HKH.out.lt).off2 (g := w.heap.size + 1 + 1 + 1) HRS.out.2 x0 x1).cell 5⟩
    obtain ⟨z0, z1, z2, z3, z4, z5, z6, z7, z8, z9, z10, z11, z12, z13, z14, z15, z16, z17⟩ := HS.out w4 (Below.refl _ _)
    go_region_held3 (fun w' => w'.cell? ⟨w.heap.size + 1 + 1, 0, none⟩ = some (.bool f.n) ∧ w'.cell? ⟨w.heap.size + 1 + 1, 1, none⟩ = some (.slice f.u f.nu f.cu) ∧ w'.cell? ⟨w.heap.size + 1 + 1, 2, none⟩ = some (.slice f.l f.nl f.cl) ∧ w'.cell? ⟨G, 0, none⟩ = some (.bool a.n) ∧ w'.cell? ⟨G, 1, none⟩ = some (.slice a.u a.nu a.cu) ∧ w'.cell? ⟨G, 2, none⟩ = some (.slice a.l a.nl a.cl) ∧ w'.cell? ⟨G, 3, none⟩ = some (.bool b.n) ∧ w'.cell? ⟨G, 4, none⟩ = some (.slice b.u b.nu b.cu) ∧ w'.cell? ⟨G, 5, none⟩ = some (.slice b.l b.nl b.cl) ∧ w'.cell? ⟨G, 6, none⟩ = some (.bool c.n) ∧ w'.cell? ⟨G, 7, none⟩ = some (.slice c.u c.nu c.cu) ∧ w'.cell? ⟨G, 8, none⟩ = some (.slice c.l c.nl c.cl) ∧ w'.cell? ⟨H, 0, none⟩ = some (.bool d.n) ∧ w'.cell? ⟨H, 1, none⟩ = some (.slice d.u d.nu d.cu) ∧ w'.cell? ⟨H, 2, none⟩ = some (.slice d.l d.nl d.cl) ∧ w'.cell? ⟨H, 3, none⟩ = some (.bool e.n) ∧ w'.cell? ⟨H, 4, none⟩ = some (.slice e.u e.nu e.cu) ∧ w'.cell? ⟨H, 5, none⟩ = some (.slice e.l e.nl e.cl)) (first | go_keep | exact hs5 | exact hs6 | exact hsA6 | exact hs7 | exact hs8 | exact hkS)
      (first
        | (go_at_call 54; refine (lineDrop_calls (w := w4.drew) ⟨a, b, c, rfl, HA4.out.below (Below.drew (Below.refl _ _)), HB4.out.below (Below.drew (Below.refl _ _)), HC4.out.below (Below.drew (Below.refl _ _))⟩ ⟨d, e, rfl, HX4.out.below (Below.drew (Below.refl _ _)), HY4.out.below (Below.drew (Below.refl _ _))⟩ F1.out F2.out F3.out F4.out F5.out Q1.out).mono ?_; rintro _ w5 ⟨hb5, v5, rfl, hv5⟩; have hw5 := hv5; obtain ⟨d5, e5, rfl, hx5, hy5⟩ := hw5; have hbl5 : Below w4.heap.size w4 w5 := (Below.drew (Below.refl _ w4)).trans hb5; have hs5 := HS.out w5 hbl5)
        | (go_at_call 15; refine (wayTimes_calls hv5 (HT4.out.below hbl5) FDX.out FDY.out F6.out Q2.out).mono ?_; rintro _ w6 ⟨hb6, v6, rfl, hv6⟩; obtain ⟨d6, e6, rfl, hx6, hy6⟩ := hv6; have hbl6 := hbl5.trans (hb6.mono hbl5.size); have hs6 := HS.out w6 hbl6; have hbA6 := below_new w6 (.cells #[.bool d.n, .slice d.u d.nu d.cu, .slice d.l d.nl d.cl, .bool e.n, .slice e.u e.nu e.cu, .slice e.l e.nl e.cl, .bool d6.n, .slice d6.u d6.nu d6.cu, .slice d6.l d6.nl d6.cl, .bool e6.n, .slice e6.u e6.nu e6.cu, .slice e6.l e6.nl e6.cl] 41); have hblA6 := hbl6.trans (hbA6.mono hbl6.size); have hsA6 := HS.out _ hblA6)
        | (go_at_call 13; refine (waySum_calls (wrow2 (HX4.out.below hbl6) (HY4.out.below hbl6) hx6 hy6) A1.out A2.out (by simp) Q3.out).mono ?_; rintro _ w7 ⟨hb7, v7, rfl, hv7⟩; rw [show rsum ([((rd px.data.toList), (rd py.data.toList)), (((rd la.data.toList) * -((rd la.data.toList) * (rd px.data.toList) + (rd lb.data.toList) * (rd py.data.toList) + (rd lc.data.toList)) / ((rd la.data.toList) * (rd la.data.toList) + (rd lb.data.toList) * (rd lb.data.toList))) * t, ((rd lb.data.toList) * -((rd la.data.toList) * (rd px.data.toList) + (rd lb.data.toList) * (rd py.data.toList) + (rd lc.data.toList)) / ((rd la.data.toList) * (rd la.data.toList) + (rd lb.data.toList) * (rd lb.data.toList))) * t)].map Prod.fst) = (rd px.data.toList) + ((rd la.data.toList) * -((rd la.data.toList) * (rd px.data.toList) + (rd lb.data.toList) * (rd py.data.toList) + (rd lc.data.toList)) / ((rd la.data.toList) * (rd la.data.toList) + (rd lb.data.toList) * (rd lb.data.toList))) * t from rsum2 _ _, show rsum ([((rd px.data.toList), (rd py.data.toList)), (((rd la.data.toList) * -((rd la.data.toList) * (rd px.data.toList) + (rd lb.data.toList) * (rd py.data.toList) + (rd lc.data.toList)) / ((rd la.data.toList) * (rd la.data.toList) + (rd lb.data.toList) * (rd lb.data.toList))) * t, ((rd lb.data.toList) * -((rd la.data.toList) * (rd px.data.toList) + (rd lb.data.toList) * (rd py.data.toList) + (rd lc.data.toList)) / ((rd la.data.toList) * (rd la.data.toList) + (rd lb.data.toList) * (rd lb.data.toList))) * t)].map Prod.snd) = (rd py.data.toList) + ((rd lb.data.toList) * -((rd la.data.toList) * (rd px.data.toList) + (rd lb.data.toList) * (rd py.data.toList) + (rd lc.data.toList)) / ((rd la.data.toList) * (rd la.data.toList) + (rd lb.data.toList) * (rd lb.data.toList))) * t from rsum2 _ _] at hv7; have hw7 := hv7; obtain ⟨d7, e7, rfl, hx7, hy7⟩ := hw7; have hbl7 := hblA6.trans (hb7.mono hblA6.size); have hs7 := HS.out w7 hbl7)
        | (go_at_call 17; refine (wayText_calls hv7 (F4.out.add FTX.out) (F5.out.add FTY.out) Q4.out (HTC.out.below hbl7)).mono ?_; rintro _ w8 ⟨hb8, v8, rfl, sa, sb, rfl, ta, tb⟩; have hbl8 := hbl7.trans (hb8.mono hbl7.size); have hs8 := HS.out w8 hbl8; have hkr := HKR.out.below hbl8 HKR.out.lt; obtain ⟨r0, r1, j0, j1⟩ := hkr.all2; have hkS := HSS.out w8 hbl8 (.string sa) (.string sb); have HTT := hideIt (And.intro ta tb); clear ta tb)
        )
    all_goals
      go_wp2
      obtain ⟨k0, k1, _⟩ := (hkr.put2 (.string sa) (.string sb)).all2
      exact bodyPost_ret (v := .tuple #[.agg #[.string sa, .string sb], .int .i64 0]) (by simp [results, Tryz.results35, go_sem, k0, k1]) rfl ⟨Below.put2 (HB0.out.trans ((HBL4.out.trans (hbl8.mono HBL4.out.size)).mono HB0.out.size)) (by omega) _ _, sa, sb, 0, rfl, Or.inr ⟨HN.out, rfl, HTT.out.1, HTT.out.2⟩⟩

theorem dropped_calls {w : World} {va vb vc : Value} {la lb lc px py : List UInt8} {t : Rat} (ha : TV va la lb lc) (hb : PV vb px py) (hc : QV w vc t) (s1 : la.length ≤ 4294967296) (s2 : lb.length ≤ 4294967296) (s3 : lc.length ≤ 4294967296) (s4 : px.length ≤ 4294967296) (s5 : py.length ≤ 4294967296) {k : Nat} (f1 : QS k (rd la)) (f2 : QS k (rd lb)) (f3 : QS k (rd lc)) (f4 : QS k (rd px)) (f5 : QS k (rd py)) (f6 : QS k t) (hk : 100 * (k + 1) ≤ 35184372088640) (tab : Tab w) :
    Calls Tryz.prog 35 #[va, vb, vc] w fun e w' => Below w.heap.size w w' ∧ ∃ (sa sb : ByteArray) (z : Int), e = .returned (.tuple #[.agg #[.string sa, .string sb], .int .i64 z]) ∧ DropAns (rd la) (rd lb) (rd lc) (rd px) (rd py) t sa.data.toList sb.data.toList z := by
  obtain ⟨a, b, c, rfl, rfl, rfl, rfl⟩ := ha
  obtain ⟨d, e, rfl, rfl, rfl⟩ := hb
  obtain ⟨f, rfl⟩ := qv_open hc
  exact dropped_walk hc s1 s2 s3 s4 s5 f1 f2 f3 f4 f5 f6 hk tab
end Go.Proofs.YtllmfakelodpiaaGreatDoor
/- Plain mathematics: what the closed fact says; Thales. -/
namespace Cx
open Go

theorem tx_int (z : Int) (h : z.natAbs < 10) : tx ((z : Int) : Rat) = (if z < 0 then [45] else []) ++ [UInt8.ofNat (48 + z.natAbs)] := by
  unfold tx
  have h1 : ((z : Int) : Rat).num = z := rfl
  have h2 : ((z : Int) : Rat).den = 1 := rfl
  rw [h1, h2, if_pos rfl, List.append_nil, dec_small h]

theorem tx_half (z : Int) (q : Rat) (hn : q.num = z) (hd : q.den = 2) (h : z.natAbs < 10) : tx q = (if z < 0 then [45] else []) ++ ([UInt8.ofNat (48 + z.natAbs)] ++ [47, 50]) := by
  unfold tx
  rw [hn, hd, if_neg (show ¬ (2 = 1) by decide), dec_small h, dec_small (by decide)]
  rfl

theorem rd0 : rd [48] = ((0 : Int) : Rat) := by rw [← show tx ((0 : Int) : Rat) = [48] from tx_int 0 (by decide), rd_tx]
theorem rd1 : rd [49] = ((1 : Int) : Rat) := by rw [← show tx ((1 : Int) : Rat) = [49] from tx_int 1 (by decide), rd_tx]
theorem rd2 : rd [50] = ((2 : Int) : Rat) := by rw [← show tx ((2 : Int) : Rat) = [50] from tx_int 2 (by decide), rd_tx]
theorem rd3 : rd [51] = ((3 : Int) : Rat) := by rw [← show tx ((3 : Int) : Rat) = [51] from tx_int 3 (by decide), rd_tx]
theorem rdm1 : rd [45, 49] = ((-1 : Int) : Rat) := by rw [← show tx ((-1 : Int) : Rat) = [45, 49] from tx_int (-1) (by decide), rd_tx]
theorem rdm5 : rd [45, 53] = ((-5 : Int) : Rat) := by rw [← show tx ((-5 : Int) : Rat) = [45, 53] from tx_int (-5) (by decide), rd_tx]

theorem ex_x : -(((3 : Int) : Rat) - ((1 : Int) : Rat)) = ((-2 : Int) : Rat) := by decide +kernel
theorem ex_y : (((1 : Int) : Rat) - ((0 : Int) : Rat)) = ((1 : Int) : Rat) := by decide +kernel
theorem ex_c : -(((-2 : Int) : Rat) * ((0 : Int) : Rat) + ((1 : Int) : Rat) * ((1 : Int) : Rat)) = ((-1 : Int) : Rat) := by decide +kernel
theorem ex_f : fac [((-2 : Int) : Rat), ((1 : Int) : Rat), ((-1 : Int) : Rat)] = ((-1 : Int) : Rat) := by decide +kernel
theorem ex_1 : ((-2 : Int) : Rat) * ((-1 : Int) : Rat) = ((2 : Int) : Rat) := by decide +kernel
theorem ex_2 : ((1 : Int) : Rat) * ((-1 : Int) : Rat) = ((-1 : Int) : Rat) := by decide +kernel
theorem ex_3 : ((-1 : Int) : Rat) * ((-1 : Int) : Rat) = ((1 : Int) : Rat) := by decide +kernel

theorem ex_t : ((2 : Int) : Rat) * ((1 : Int) : Rat) - ((-1 : Int) : Rat) * ((0 : Int) : Rat) ≠ 0 := by decide +kernel
theorem ex_mx : -(((1 : Int) : Rat) * ((1 : Int) : Rat) - ((-1 : Int) : Rat) * ((-5 : Int) : Rat)) / (((2 : Int) : Rat) * ((1 : Int) : Rat) - ((-1 : Int) : Rat) * ((0 : Int) : Rat)) = ((2 : Int) : Rat) := by decide +kernel
theorem ex_my : (((0 : Int) : Rat) * ((1 : Int) : Rat) - ((2 : Int) : Rat) * ((-5 : Int) : Rat)) / (((2 : Int) : Rat) * ((1 : Int) : Rat) - ((-1 : Int) : Rat) * ((0 : Int) : Rat)) = ((5 : Int) : Rat) := by decide +kernel
theorem ex_fx : tx (((1 : Int) : Rat) + ((1 : Int) : Rat) * -(((1 : Int) : Rat) * ((1 : Int) : Rat) + ((1 : Int) : Rat) * ((0 : Int) : Rat) + ((0 : Int) : Rat)) / (((1 : Int) : Rat) * ((1 : Int) : Rat) + ((1 : Int) : Rat) * ((1 : Int) : Rat)) * ((1 : Nat) : Rat)) = [49, 47, 50] := tx_half 1 _ (by decide +kernel) (by decide +kernel) (by decide)
theorem ex_fy : tx (((0 : Int) : Rat) + ((1 : Int) : Rat) * -(((1 : Int) : Rat) * ((1 : Int) : Rat) + ((1 : Int) : Rat) * ((0 : Int) : Rat) + ((0 : Int) : Rat)) / (((1 : Int) : Rat) * ((1 : Int) : Rat) + ((1 : Int) : Rat) * ((1 : Int) : Rat)) * ((1 : Nat) : Rat)) = [45, 49, 47, 50] := tx_half (-1) _ (by decide +kernel) (by decide +kernel) (by decide)

/-- Thales: m lies beside the line through a and b, through the point k of the way from o to a; it meets the line through o and b in the point k of the way from o to b. -/
theorem thales {ox oy ax ay bx by' k s1 s2 s3 x y : Rat}
    {A B C P Q R : Rat}
    (hA : A = s2 * (s1 * -(by' - ay))) (hB : B = s2 * (s1 * (bx - ax)))
    (hC : C = s2 * -(s1 * -(by' - ay) * (ox + (ax - ox) * k) + s1 * (bx - ax) * (oy + (ay - oy) * k)))
    (hP : P = s3 * -(by' - oy)) (hQ : Q = s3 * (bx - ox)) (hR : R = s3 * -(-(by' - oy) * ox + (bx - ox) * oy))
    (ht : A * Q - B * P ≠ 0) (hx : x = -(Q * C - B * R) / (A * Q - B * P)) (hy : y = (P * C - A * R) / (A * Q - B * P)) :
    x = ox + (bx - ox) * k ∧ y = oy + (by' - oy) * k := by
  have e1 : (ox + (bx - ox) * k) * (A * Q - B * P) = -(Q * C - B * R) := by
    subst hA hB hC hP hQ hR
    grind
  have e2 : (oy + (by' - oy) * k) * (A * Q - B * P) = P * C - A * R := by
    subst hA hB hC hP hQ hR
    grind
  constructor
  · rw [hx, ← e1, Rat.div_def, Rat.mul_assoc, Rat.mul_inv_cancel _ ht, Rat.mul_one]
  · rw [hy, ← e2, Rat.div_def, Rat.mul_assoc, Rat.mul_inv_cancel _ ht, Rat.mul_one]
end Cx
/- Walks: Foot of package line; pt. -/
namespace Go.Proofs.YtllmfakelodpiaaGreatDoor
open Go.RowKit Cx

attribute [local go_sem ↓] Go.wp_at_zero Go.wp_at_succ

theorem QS.one : QS 1 ((1 : Nat) : Rat) := ⟨by decide, by decide⟩

set_option maxHeartbeats 8000000 in
set_option maxRecDepth 100000 in
theorem foot_walk {w : World} {la lb lc px py : ByteArray} (s1 : la.data.toList.length ≤ 4294967296) (s2 : lb.data.toList.length ≤ 4294967296) (s3 : lc.data.toList.length ≤ 4294967296) (s4 : px.data.toList.length ≤ 4294967296) (s5 : py.data.toList.length ≤ 4294967296) {k : Nat} (f1 : QS k (rd la.data.toList)) (f2 : QS k (rd lb.data.toList)) (f3 : QS k (rd lc.data.toList)) (f4 : QS k (rd px.data.toList)) (f5 : QS k (rd py.data.toList)) (hk : 100 * (k + 1) ≤ 35184372088640) (tab : Tab w) :
    Calls Tryz.prog 20 #[.agg #[.string la, .string lb, .string lc], .agg #[.string px, .string py]] w fun e w' => Below w.heap.size w w' ∧ ∃ (sa sb : ByteArray) (z : Int), e = .returned (.tuple #[.agg #[.string sa, .string sb], .int .i64 z]) ∧ DropAns (rd la.data.toList) (rd lb.data.toList) (rd lc.data.toList) (rd px.data.toList) (rd py.data.toList) ((1 : Nat) : Rat) sa.data.toList sb.data.toList z := by
  obtain ⟨hb0, hk0, hk1, hk2, hsz⟩ := boxes3 w #[.string la, .string lb, .string lc] #[.string px, .string py] #[.string ⟨#[]⟩, .string ⟨#[]⟩] 26 24 24
  have HB0 := hideIt hb0
  have HSZ := hideIt hsz
  have HK0 := hideIt hk0
  have HK1 := hideIt hk1
  have HK2 := hideIt hk2
  have HTAB := hideIt (tab.below hb0)
  have S1 := hideIt s1
  have F1 := hideIt f1
  have S2 := hideIt s2
  have F2 := hideIt f2
  have S3 := hideIt s3
  have F3 := hideIt f3
  have S4 := hideIt s4
  have F4 := hideIt f4
  have S5 := hideIt s5
  have F5 := hideIt f5
  have F6 : Hid (QS k ((1 : Nat) : Rat)) := QS.one.mono f1.pos
  have HK := hideIt hk
  clear hb0 hsz hk0 hk1 hk2 tab s1 s2 s3 s4 s5 f1 f2 f3 f4 f5 hk
  go_enter Tryz.func20, Tryz.ntmps20
  go_wp2_with fail
  generalize (((w.alloc (.cells #[.string la, .string lb, .string lc] 26)).alloc (.cells #[.string px, .string py] 24)).alloc (.cells #[.string ⟨#[]⟩, .string ⟨#[]⟩] 24)) = W0 at *
  have HS : Hid (∀ w', Below W0.heap.size W0 w' → w'.cell? ⟨w.heap.size, 0, none⟩ = some (.string la) ∧ w'.cell? ⟨w.heap.size, 1, none⟩ = some (.string lb) ∧ w'.cell? ⟨w.heap.size, 2, none⟩ = some (.string lc) ∧ w'.cell? ⟨w.heap.size + 1, 0, none⟩ = some (.string px) ∧ w'.cell? ⟨w.heap.size + 1, 1, none⟩ = some (.string py)) := fun w' hb => ⟨(HK0.out.below hb (by rw [HSZ.out]; omega)).cell 0, (HK0.out.below hb (by rw [HSZ.out]; omega)).cell 1, (HK0.out.below hb (by rw [HSZ.out]; omega)).cell 2, (HK1.out.below hb (by rw [HSZ.out]; omega)).cell 0, (HK1.out.below hb (by rw [HSZ.out]; omega)).cell 1⟩
  have HSS : Hid (∀ w', Below W0.heap.size W0 w' → ∀ x0 x1 : Value, ((w'.setCell ⟨w.heap.size + 1 + 1, 0, none⟩ (x0)).setCell ⟨w.heap.size + 1 + 1, 1, none⟩ (x1)).cell? ⟨w.heap.size, 0, none⟩ = some (.string la) ∧ ((w'.setCell ⟨w.heap.size + 1 + 1, 0, none⟩ (x0)).setCell ⟨w.heap.size + 1 + 1, 1, none⟩ (x1)).cell? ⟨w.heap.size, 1, none⟩ = some (.string lb) ∧ ((w'.setCell ⟨w.heap.size + 1 + 1, 0, none⟩ (x0)).setCell ⟨w.heap.size + 1 + 1, 1, none⟩ (x1)).cell? ⟨w.heap.size, 2, none⟩ = some (.string lc) ∧ ((w'.setCell ⟨w.heap.size + 1 + 1, 0, none⟩ (x0)).setCell ⟨w.heap.size + 1 + 1, 1, none⟩ (x1)).cell? ⟨w.heap.size + 1, 0, none⟩ = some (.string px) ∧ ((w'.setCell ⟨w.heap.size + 1 + 1, 0, none⟩ (x0)).setCell ⟨w.heap.size + 1 + 1, 1, none⟩ (x1)).cell? ⟨w.heap.size + 1, 1, none⟩ = some (.string py)) := fun w' hb x0 x1 => ⟨((HK0.out.below hb (by rw [HSZ.out]; omega)).off2 (g := w.heap.size + 1 + 1) (by omega) x0 x1).cell 0, ((HK0.out.below hb (by rw [HSZ.out]; omega)).off2 (g := w.heap.size + 1 + 1) (by omega) x0 x1).cell 1, ((HK0.out.below hb (by rw [HSZ.out]; omega)).off2 (g := w.heap.size + 1 + 1) (by omega) x0 x1).cell 2, ((HK1.out.below hb (by rw [HSZ.out]; omega)).off2 (g := w.heap.size + 1 + 1) (by omega) x0 x1).cell 0, ((HK1.out.below hb (by rw [HSZ.out]; omega)).off2 (g := w.heap.size + 1 + 1) (by omega) x0 x1).cell 1⟩
  obtain ⟨z0, z1, z2, z3, z4⟩ := HS.out W0 (Below.refl _ _)
  go_region_held3 (fun w' => w'.cell? ⟨w.heap.size, 0, none⟩ = some (.string la) ∧ w'.cell? ⟨w.heap.size, 1, none⟩ = some (.string lb) ∧ w'.cell? ⟨w.heap.size, 2, none⟩ = some (.string lc) ∧ w'.cell? ⟨w.heap.size + 1, 0, none⟩ = some (.string px) ∧ w'.cell? ⟨w.heap.size + 1, 1, none⟩ = some (.string py)) (first | go_keep | exact hs1 | exact hs2 | exact hkS)
    (first
      | (go_at_call 36; refine (int_calls 1 (by decide) W0.drew).mono ?_; rintro _ w1 ⟨hb1, v1, rfl, hv1⟩; obtain ⟨d1, rfl⟩ := qv_open hv1; have hbl1 : Below W0.heap.size W0 w1 := (Below.drew (Below.refl _ W0)).trans hb1; have hs1 := HS.out w1 hbl1)
      | (go_at_call 35; refine (dropped_calls ⟨la, lb, lc, rfl, rfl, rfl, rfl⟩ ⟨px, py, rfl, rfl, rfl⟩ hv1 S1.out S2.out S3.out S4.out S5.out F1.out F2.out F3.out F4.out F5.out F6.out HK.out (HTAB.out.below hbl1)).mono ?_; rintro _ w2 ⟨hb2, sa, sb, z, rfl, hans⟩; have hbl2 := hbl1.trans (hb2.mono hbl1.size); have hs2 := HS.out w2 hbl2; have hkr := HK2.out.below hbl2 (by rw [HSZ.out]; omega); obtain ⟨r0, r1, j0, j1⟩ := hkr.all2; have hkS := HSS.out w2 hbl2 (.string sa) (.string sb); have HANS := hideIt hans; clear hans)
      )
  all_goals
    go_wp2
    obtain ⟨k0, k1, _⟩ := (hkr.put2 (.string sa) (.string sb)).all2
    exact bodyPost_ret (v := .tuple #[.agg #[.string sa, .string sb], .int .i64 z]) (by simp [results, Tryz.results20, go_sem, k0, k1]) rfl ⟨Below.put2 (HB0.out.trans (hbl2.mono HB0.out.size)) (by omega) _ _, sa, sb, z, rfl, HANS.out⟩

/-- pt: a point of two texts. -/
theorem pt_calls (x y : ByteArray) (w : World) :
    Calls Tryz.prog 19 #[.string x, .string y] w fun e w' => Below w.heap.size w w' ∧ e = .returned (.agg #[.string x, .string y]) := by
  go_enter Tryz.func19, Tryz.ntmps19
  go_wp2
  refine bodyPost_ret (v := .agg #[.string x, .string y]) (by simp [results, Tryz.results19, go_sem]) rfl ⟨below_new _ _, rfl⟩
end Go.Proofs.YtllmfakelodpiaaGreatDoor
/- The closed fact: what its three calls answer. -/
namespace Go.Proofs.YtllmfakelodpiaaGreatDoor
open Go.RowKit Cx

theorem bytes_eq {s : ByteArray} {l : List UInt8} (h : s.data.toList = l) : s = ⟨l.toArray⟩ := by
  cases s
  subst h
  simp

theorem ex_line {la lb lc : List UInt8} {z : Int} (h : LineAns (-(rd [51] - rd [49])) (rd [49] - rd [48]) (-(-(rd [51] - rd [49]) * rd [48] + (rd [49] - rd [48]) * rd [49])) la lb lc z) : z = 0 ∧ la = [50] ∧ lb = [45, 49] ∧ lc = [49] := by
  rw [rd3, rd1, rd0, ex_x, ex_y, ex_c] at h
  rcases h with ⟨h, _⟩ | ⟨_, hz, h1, h2, h3⟩
  · exact absurd h (by decide +kernel)
  · rw [ex_f] at h1 h2 h3
    rw [ex_1] at h1
    rw [ex_2] at h2
    rw [ex_3] at h3
    exact ⟨hz, h1.trans (tx_int 2 (by decide)), h2.trans (tx_int (-1) (by decide)), h3.trans (tx_int 1 (by decide))⟩

theorem ex_meet {sa sb : List UInt8} {z : Int} (h : PointAns (rd [50]) (rd [45, 49]) (rd [49]) (rd [48]) (rd [49]) (rd [45, 53]) sa sb z) : z = 0 ∧ sa = [50] ∧ sb = [53] := by
  rw [rd2, rdm1, rd1, rd0, rdm5] at h
  rcases h with ⟨⟨h, _⟩ | ⟨_, h⟩, _⟩ | ⟨_, _, x, y, hm, ht⟩
  · exact absurd h (by decide +kernel)
  · exact absurd h (by decide +kernel)
  · rcases hm with ⟨_, hz, hx, hy⟩ | ⟨h0, _⟩
    · rw [ex_mx] at hx
      rw [ex_my] at hy
      obtain ⟨h1, h2⟩ := ht hz
      rw [hx] at h1
      rw [hy] at h2
      exact ⟨hz, h1.trans (tx_int 2 (by decide)), h2.trans (tx_int 5 (by decide))⟩
    · exact absurd h0 ex_t

theorem ex_foot {sa sb : List UInt8} {z : Int} (h : DropAns (rd [49]) (rd [49]) (rd [48]) (rd [49]) (rd [48]) ((1 : Nat) : Rat) sa sb z) : z = 0 ∧ sa = [49, 47, 50] ∧ sb = [45, 49, 47, 50] := by
  rw [rd1, rd0] at h
  rcases h with ⟨h, _⟩ | ⟨_, hz, h1, h2⟩
  · exact absurd h (by decide +kernel)
  · exact ⟨hz, h1.trans ex_fx, h2.trans ex_fy⟩

/-- In the world wc the pointer p leads to a box of these values. -/
def OneS (W0 : World) (p : Value) (wc : World) (cs : Array Value) (t : TypeId) : Prop :=
  ∃ G, p = .pointer (some ⟨G, 0, none⟩) ∧ W0.heap.size ≤ G ∧ Below W0.heap.size W0 wc ∧ Blk wc G cs t

theorem OneS.new {W0 w : World} {cs : Array Value} {t : TypeId} (hb : Below W0.heap.size W0 w) : OneS W0 (.pointer (some ⟨w.heap.size, 0, none⟩)) (w.alloc (.cells cs t)) cs t :=
  ⟨_, rfl, hb.size, hb.alloc hb.size _, Blk.new _ _ _⟩
theorem OneS.old3 {W0 w : World} {G : Nat} {c0 c1 c2 x0 x1 x2 : Value} {t : TypeId} (hG : Blk w G #[c0, c1, c2] t) (hge : W0.heap.size ≤ G) (hb : Below W0.heap.size W0 w) :
    OneS W0 (.pointer (some ⟨G, 0, none⟩)) (((w.setCell ⟨G, 0, none⟩ x0).setCell ⟨G, 1, none⟩ x1).setCell ⟨G, 2, none⟩ x2) #[x0, x1, x2] t :=
  ⟨_, rfl, hge, Below.put3 hb hge _ _ _, hG.put3 _ _ _⟩
theorem OneS.old2 {W0 w : World} {G : Nat} {c0 c1 x0 x1 : Value} {t : TypeId} (hG : Blk w G #[c0, c1] t) (hge : W0.heap.size ≤ G) (hb : Below W0.heap.size W0 w) :
    OneS W0 (.pointer (some ⟨G, 0, none⟩)) ((w.setCell ⟨G, 0, none⟩ x0).setCell ⟨G, 1, none⟩ x1) #[x0, x1] t :=
  ⟨_, rfl, hge, Below.put2 hb hge _ _, hG.put2 _ _⟩
end Go.Proofs.YtllmfakelodpiaaGreatDoor
/- Walks: the closed fact of lines. -/
namespace Go.Proofs.YtllmfakelodpiaaGreatDoor
open Go.RowKit Cx

attribute [local go_sem ↓] Go.wp_at_zero Go.wp_at_succ

theorem qs30 (s : ByteArray) (h : s.size ≤ 6) : QS 30 (rd s.data.toList) := (QS.rd _).mono (by rw [str_len]; omega)
theorem len6 (s : ByteArray) (h : s.size ≤ 6) : s.data.toList.length ≤ 4294967296 := by rw [str_len]; omega
theorem len6' (s : ByteArray) (h : s.size ≤ 6) : s.data.toList.length ≤ 1048576 := by rw [str_len]; omega

set_option maxHeartbeats 8000000 in
set_option maxRecDepth 100000 in
theorem lined_calls (w : World) (tab : Tab w) :
    Calls Tryz.prog 7 #[] w fun e w' => Below w.heap.size w w' ∧ e = .returned (.bool true) := by
  have HT := hideIt tab
  clear tab
  go_enter Tryz.func7, Tryz.ntmps7
  go_wp2_with fail
  refine (pt_calls ⟨#[48]⟩ ⟨#[49]⟩ w).mono ?_
  rintro _ w1 ⟨hb1, rfl⟩
  go_wp2_with fail
  refine (pt_calls ⟨#[49]⟩ ⟨#[51]⟩ w1).mono ?_
  rintro _ w2 ⟨hb2, rfl⟩
  have hbl2 := hb1.trans (hb2.mono hb1.size)
  go_wp2_with fail
  refine (through_calls (va := .agg #[.string ⟨#[48]⟩, .string ⟨#[49]⟩]) (vb := .agg #[.string ⟨#[49]⟩, .string ⟨#[51]⟩]) ⟨⟨#[48]⟩, ⟨#[49]⟩, rfl, rfl, rfl⟩ ⟨⟨#[49]⟩, ⟨#[51]⟩, rfl, rfl, rfl⟩ (len6' _ (by decide)) (len6' _ (by decide)) (len6' _ (by decide)) (len6' _ (by decide)) (HT.out.below hbl2)).mono ?_
  rintro _ w3 ⟨hb3, sa, sb, sc, z, rfl, hans⟩
  obtain ⟨rfl, h1, h2, h3⟩ := ex_line hans
  obtain rfl := bytes_eq h1
  obtain rfl := bytes_eq h2
  obtain rfl := bytes_eq h3
  have HB3 := hideIt (hbl2.trans (hb3.mono hbl2.size))
  clear hb1 hb2 hb3 hbl2 hans h1 h2 h3
  go_wp2_with fail
  have hbA := below_new w3 (.cells #[.string ⟨#[50]⟩, .string ⟨#[45, 49]⟩, .string ⟨#[49]⟩] 26)
  have HKL := hideIt (Blk.new w3 #[.string ⟨#[50]⟩, .string ⟨#[45, 49]⟩, .string ⟨#[49]⟩] 26)
  have HBA := hideIt (HB3.out.trans (hbA.mono HB3.out.size))
  clear hbA
  refine (lineMeet_calls (va := .agg #[.string ⟨#[50]⟩, .string ⟨#[45, 49]⟩, .string ⟨#[49]⟩]) (vb := .agg #[.string ⟨#[48]⟩, .string ⟨#[49]⟩, .string ⟨#[45, 53]⟩]) ⟨⟨#[50]⟩, ⟨#[45, 49]⟩, ⟨#[49]⟩, rfl, rfl, rfl, rfl⟩ ⟨⟨#[48]⟩, ⟨#[49]⟩, ⟨#[45, 53]⟩, rfl, rfl, rfl, rfl⟩ (len6 _ (by decide)) (len6 _ (by decide)) (len6 _ (by decide)) (len6 _ (by decide)) (len6 _ (by decide)) (len6 _ (by decide)) (qs30 _ (by decide)) (qs30 _ (by decide)) (qs30 _ (by decide)) (qs30 _ (by decide)) (qs30 _ (by decide)) (qs30 _ (by decide)) (by decide) (HT.out.below HBA.out)).mono ?_
  rintro _ w4 ⟨hb4, sa, sb, z, rfl, hans⟩
  obtain ⟨rfl, h1, h2⟩ := ex_meet hans
  obtain rfl := bytes_eq h1
  obtain rfl := bytes_eq h2
  have HB4 := hideIt (HBA.out.trans (hb4.mono HBA.out.size))
  have HKL4 := hideIt (HKL.out.below hb4 HKL.out.lt)
  obtain ⟨G, hG⟩ : ∃ G, G = w3.heap.size := ⟨_, rfl⟩
  rw [← hG] at HKL4 ⊢
  clear hG hb4 hans h1 h2 HKL HBA
  go_wp2_with fail
  have hbA := below_new w4 (.cells #[.string ⟨#[50]⟩, .string ⟨#[53]⟩] 24)
  have HKP := hideIt (Blk.new w4 #[.string ⟨#[50]⟩, .string ⟨#[53]⟩] 24)
  have HKL5 := hideIt (HKL4.out.below hbA HKL4.out.lt)
  have HBA := hideIt (HB4.out.trans (hbA.mono HB4.out.size))
  clear hbA
  refine (pt_calls ⟨#[49]⟩ ⟨#[48]⟩ _).mono ?_
  rintro _ w5 ⟨hb5, rfl⟩
  have HB5 := hideIt (HBA.out.trans (hb5.mono HBA.out.size))
  have HKL6 := hideIt (HKL5.out.below hb5 HKL5.out.lt)
  have HKP5 := hideIt (HKP.out.below hb5 HKP.out.lt)
  obtain ⟨H, hH⟩ : ∃ H, H = w4.heap.size := ⟨_, rfl⟩
  rw [← hH] at HKP5 ⊢
  clear hH hb5 HKL5 HKP
  go_wp2_with fail
  refine (foot_walk (la := ⟨#[49]⟩) (lb := ⟨#[49]⟩) (lc := ⟨#[48]⟩) (px := ⟨#[49]⟩) (py := ⟨#[48]⟩) (len6 _ (by decide)) (len6 _ (by decide)) (len6 _ (by decide)) (len6 _ (by decide)) (len6 _ (by decide)) (qs30 _ (by decide)) (qs30 _ (by decide)) (qs30 _ (by decide)) (qs30 _ (by decide)) (qs30 _ (by decide)) (by decide) (HT.out.below HB5.out)).mono ?_
  rintro _ w6 ⟨hb6, sa, sb, z, rfl, hans⟩
  obtain ⟨rfl, h1, h2⟩ := ex_foot hans
  obtain rfl := bytes_eq h1
  obtain rfl := bytes_eq h2
  have HB6 := hideIt (HB5.out.trans (hb6.mono HB5.out.size))
  have HKL7 := hideIt (HKL6.out.below hb6 HKL6.out.lt)
  have HKP6 := hideIt (HKP5.out.below hb6 HKP5.out.lt)
  clear hb6 hans h1 h2
  go_wp2_with fail
  obtain ⟨w7, hw7⟩ : ∃ w7, w7 = w6.alloc (.cells #[.string ⟨#[49, 47, 50]⟩, .string ⟨#[45, 49, 47, 50]⟩] 24) := ⟨_, rfl⟩
  have hbA := below_new w6 (.cells #[.string ⟨#[49, 47, 50]⟩, .string ⟨#[45, 49, 47, 50]⟩] 24)
  have HKQ := hideIt (Blk.new w6 #[.string ⟨#[49, 47, 50]⟩, .string ⟨#[45, 49, 47, 50]⟩] 24)
  rw [← hw7] at hbA HKQ ⊢
  obtain ⟨J, hJ⟩ : ∃ J, J = w6.heap.size := ⟨_, rfl⟩
  rw [← hJ] at HKQ ⊢
  have HKL8 := hideIt (HKL7.out.below hbA HKL7.out.lt)
  have HKP7 := hideIt (HKP6.out.below hbA HKP6.out.lt)
  have HB7 := hideIt (HB6.out.trans (hbA.mono HB6.out.size))
  clear hJ hw7 hbA
  have HS : Hid (∀ w', Below w7.heap.size w7 w' → w'.cell? ⟨G, 0, none⟩ = some (.string ⟨#[50]⟩) ∧ w'.cell? ⟨G, 1, none⟩ = some (.string ⟨#[45, 49]⟩) ∧ w'.cell? ⟨G, 2, none⟩ = some (.string ⟨#[49]⟩) ∧ w'.cell? ⟨H, 0, none⟩ = some (.string ⟨#[50]⟩) ∧ w'.cell? ⟨H, 1, none⟩ = some (.string ⟨#[53]⟩) ∧ w'.cell? ⟨J, 0, none⟩ = some (.string ⟨#[49, 47, 50]⟩) ∧ w'.cell? ⟨J, 1, none⟩ = some (.string ⟨#[45, 49, 47, 50]⟩)) := fun w' hb => ⟨(HKL8.out.below hb HKL8.out.lt).cell 0, (HKL8.out.below hb HKL8.out.lt).cell 1, (HKL8.out.below hb HKL8.out.lt).cell 2, (HKP7.out.below hb HKP7.out.lt).cell 0, (HKP7.out.below hb HKP7.out.lt).cell 1, (HKQ.out.below hb HKQ.out.lt).cell 0, (HKQ.out.below hb HKQ.out.lt).cell 1⟩
  obtain ⟨z0, z1, z2, z3, z4, z5, z6⟩ := HS.out w7 (Below.refl _ _)
  go_region_held3 (fun w' => w'.cell? ⟨G, 0, none⟩ = some (.string ⟨#[50]⟩) ∧ w'.cell? ⟨G, 1, none⟩ = some (.string ⟨#[45, 49]⟩) ∧ w'.cell? ⟨G, 2, none⟩ = some (.string ⟨#[49]⟩) ∧ w'.cell? ⟨H, 0, none⟩ = some (.string ⟨#[50]⟩) ∧ w'.cell? ⟨H, 1, none⟩ = some (.string ⟨#[53]⟩) ∧ w'.cell? ⟨J, 0, none⟩ = some (.string ⟨#[49, 47, 50]⟩) ∧ w'.cell? ⟨J, 1, none⟩ = some (.string ⟨#[45, 49, 47, 50]⟩)) (first | go_keep | exact hs8 | exact hs9)
    (first
      | (go_at_call_of 19 (Value.string { data := #[53] }); refine (pt_calls ⟨#[50]⟩ ⟨#[53]⟩ w7.drew).mono ?_; rintro _ w8 ⟨hb8, rfl⟩; have hbl8 : Below w7.heap.size w7 w8 := (Below.drew (Below.refl _ w7)).trans hb8; have hs8 := HS.out w8 hbl8)
      | (go_at_call 19; refine (pt_calls ⟨#[49, 47, 50]⟩ ⟨#[45, 49, 47, 50]⟩ w8).mono ?_; rintro _ w9 ⟨hb9, rfl⟩; have hbl9 := hbl8.trans (hb9.mono hbl8.size); have hs9 := HS.out w9 hbl9)
      )
  all_goals
    go_wp2
    go_ret
    exact ⟨HB7.out.trans (hbl9.mono HB7.out.size), rfl⟩
end Go.Proofs.YtllmfakelodpiaaGreatDoor
/- Walks: the law of Thales. -/
namespace Go.Proofs.YtllmfakelodpiaaGreatDoor
open Go.RowKit Cx

attribute [local go_sem ↓] Go.wp_at_zero Go.wp_at_succ

theorem rd_nil : rd [] = 0 := by decide +kernel

theorem ans_size {x y c : Rat} {la lb lc : List UInt8} {z : Int} (h : LineAns x y c la lb lc z) {K : Nat} (f1 : QS K x) (f2 : QS K y) (f3 : QS K c) :
    QS (4 * K + 1) (rd la) ∧ QS (4 * K + 1) (rd lb) ∧ QS (4 * K + 1) (rd lc) ∧ la.length ≤ 8 * K + 6 ∧ lb.length ≤ 8 * K + 6 ∧ lc.length ≤ 8 * K + 6 := by
  rcases h with ⟨_, _, _, rfl, rfl, rfl⟩ | ⟨_, _, rfl, rfl, rfl⟩
  · rw [rd_nil]
    have h0 : QS (4 * K + 1) 0 := QS.zero.mono (by omega)
    exact ⟨h0, h0, h0, Nat.zero_le _, Nat.zero_le _, Nat.zero_le _⟩
  · have g1 := QS.fac f1 f2 f3 (q := x) (by simp)
    have g2 := QS.fac f1 f2 f3 (q := y) (by simp)
    have g3 := QS.fac f1 f2 f3 (q := c) (by simp)
    rw [rd_tx, rd_tx, rd_tx]
    refine ⟨g1, g2, g3, ?_, ?_, ?_⟩
    · have := tx_len g1; omega
    · have := tx_len g2; omega
    · have := tx_len g3; omega

theorem thales2 {ox oy ax ay bx bz k s1 s2 s3 x y A B C P Q R L1 L2 c1 c2 : Rat}
    (hl1 : L1 = -(bz - ay) * s1) (hl2 : L2 = (bx - ax) * s1) (hc1 : c1 = ox + (ax - ox) * k) (hc2 : c2 = oy + (ay - oy) * k)
    (hA : A = L1 * s2) (hB : B = L2 * s2) (hC : C = -(L1 * c1 + L2 * c2) * s2)
    (hP : P = -(bz - oy) * s3) (hQ : Q = (bx - ox) * s3) (hR : R = -(-(bz - oy) * ox + (bx - ox) * oy) * s3)
    (ht : A * Q - B * P ≠ 0) (hx : x = -(Q * C - B * R) / (A * Q - B * P)) (hy : y = (P * C - A * R) / (A * Q - B * P)) :
    x = ox + (bx - ox) * k ∧ y = oy + (bz - oy) * k := by
  refine thales (ax := ax) (ay := ay) (s1 := s1) (s2 := s2) (s3 := s3) ?_ ?_ ?_ ?_ ?_ ?_ ht hx hy
  · rw [hA, hl1]; grind
  · rw [hB, hl2]; grind
  · rw [hC, hl1, hl2, hc1, hc2]; grind
  · rw [hP]; grind
  · rw [hQ]; grind
  · rw [hR]; grind

theorem tx_mul_ne {x y c : Rat} (h : ¬ (x = 0 ∧ y = 0)) : ¬ (x * fac [x, y, c] = 0 ∧ y * fac [x, y, c] = 0) := by
  rintro ⟨h1, h2⟩
  apply h
  have hf : fac [x, y, c] ≠ 0 := by
    by_cases hx : x = 0
    · have hy : y ≠ 0 := fun e => h ⟨hx, e⟩
      exact fac_ne (q := y) (by simp) hy
    · exact fac_ne (q := x) (by simp) hx
  exact ⟨(Rat.mul_eq_zero.1 h1).resolve_right hf, (Rat.mul_eq_zero.1 h2).resolve_right hf⟩

set_option maxHeartbeats 16000000 in
set_option maxRecDepth 100000 in
theorem thales_walk {w : World} {ox oy ax ay bx bz kt : ByteArray} (s1 : ox.data.toList.length ≤ 1048576) (s2 : oy.data.toList.length ≤ 1048576) (s3 : ax.data.toList.length ≤ 1048576) (s4 : ay.data.toList.length ≤ 1048576) (s5 : bx.data.toList.length ≤ 1048576) (s6 : bz.data.toList.length ≤ 1048576) (s7 : kt.data.toList.length ≤ 1048576) (tab : Tab w) :
    Calls Tryz.prog 3 #[.agg #[.string ox, .string oy], .agg #[.string ax, .string ay], .agg #[.string bx, .string bz], .string kt] w fun e w' => Below w.heap.size w w' ∧ e = .returned (.bool true) := by
  obtain ⟨hb0, hk0, hk1, hk2, hsz⟩ := boxes3 w #[.string ox, .string oy] #[.string ax, .string ay] #[.string bx, .string bz] 24 24 24
  have HB0 := hideIt hb0
  have HSZ := hideIt hsz
  have HKO := hideIt hk0
  have HKA := hideIt hk1
  have HKB := hideIt hk2
  have HTAB := hideIt (tab.below hb0)
  have S1 := hideIt s1
  have F1 : Hid (QS 4194309 (rd ox.data.toList)) := (QS.rd _).mono (by omega)
  have S2 := hideIt s2
  have F2 : Hid (QS 4194309 (rd oy.data.toList)) := (QS.rd _).mono (by omega)
  have S3 := hideIt s3
  have F3 : Hid (QS 4194309 (rd ax.data.toList)) := (QS.rd _).mono (by omega)
  have S4 := hideIt s4
  have F4 : Hid (QS 4194309 (rd ay.data.toList)) := (QS.rd _).mono (by omega)
  have S5 := hideIt s5
  have F5 : Hid (QS 4194309 (rd bx.data.toList)) := (QS.rd _).mono (by omega)
  have S6 := hideIt s6
  have F6 : Hid (QS 4194309 (rd bz.data.toList)) := (QS.rd _).mono (by omega)
  have S7 := hideIt s7
  have F7 : Hid (QS 4194309 (rd kt.data.toList)) := (QS.rd _).mono (by omega)
  clear hb0 hsz hk0 hk1 hk2 tab s1 s2 s3 s4 s5 s6 s7
  have FC1 : Hid (QS 16777238 (rd ox.data.toList + (rd ax.data.toList - rd ox.data.toList) * rd kt.data.toList)) := (F1.out.add ((F3.out.sub F1.out).mul F7.out)).mono (by omega)
  have FC2 : Hid (QS 16777238 (rd oy.data.toList + (rd ay.data.toList - rd oy.data.toList) * rd kt.data.toList)) := (F2.out.add ((F4.out.sub F2.out).mul F7.out)).mono (by omega)
  have FL1 : Hid (QS 25165857 (-(rd bz.data.toList - rd ay.data.toList))) := ((F6.out.sub F4.out).neg).mono (by omega)
  have FL2 : Hid (QS 25165857 (rd bx.data.toList - rd ax.data.toList)) := (F5.out.sub F3.out).mono (by omega)
  have FL3 : Hid (QS 25165857 (-((-(rd bz.data.toList - rd ay.data.toList)) * rd ax.data.toList + (rd bx.data.toList - rd ax.data.toList) * rd ay.data.toList))) := ((((F6.out.sub F4.out).neg.mul F3.out).add ((F5.out.sub F3.out).mul F4.out)).neg).mono (by omega)
  have FN1 : Hid (QS 25165857 (-(rd bz.data.toList - rd oy.data.toList))) := ((F6.out.sub F2.out).neg).mono (by omega)
  have FN2 : Hid (QS 25165857 (rd bx.data.toList - rd ox.data.toList)) := (F5.out.sub F1.out).mono (by omega)
  have FN3 : Hid (QS 25165857 (-((-(rd bz.data.toList - rd oy.data.toList)) * rd ox.data.toList + (rd bx.data.toList - rd ox.data.toList) * rd oy.data.toList))) := ((((F6.out.sub F2.out).neg.mul F1.out).add ((F5.out.sub F1.out).mul F2.out)).neg).mono (by omega)
  go_enter Tryz.func3, Tryz.ntmps3
  go_wp2_with fail
  generalize (((w.alloc (.cells #[.string ox, .string oy] 24)).alloc (.cells #[.string ax, .string ay] 24)).alloc (.cells #[.string bx, .string bz] 24)) = W0 at *
  refine (through_calls (va := .agg #[.string ax, .string ay]) (vb := .agg #[.string bx, .string bz]) ⟨ax, ay, rfl, rfl, rfl⟩ ⟨bx, bz, rfl, rfl, rfl⟩ S3.out S4.out S5.out S6.out HTAB.out).mono ?_
  rintro _ w1 ⟨hb1, l1, l2, l3, z1, rfl, hans1⟩
  have HANS1 := hideIt hans1
  have SZ1 := hideIt (ans_size hans1 FL1.out FL2.out FL3.out)
  have HB1 := hideIt hb1
  have HKO1 := hideIt (HKO.out.below hb1 (by rw [HSZ.out]; omega))
  have HKA1 := hideIt (HKA.out.below hb1 (by rw [HSZ.out]; omega))
  have o0 : ∀ o, (w1.alloc o).cell? ⟨w.heap.size, 0, none⟩ = some (.string ox) := fun o => (HKO1.out.old o).cell 0
  have o1 : ∀ o, (w1.alloc o).cell? ⟨w.heap.size, 1, none⟩ = some (.string oy) := fun o => (HKO1.out.old o).cell 1
  have a0 : ∀ o, (w1.alloc o).cell? ⟨w.heap.size + 1, 0, none⟩ = some (.string ax) := fun o => (HKA1.out.old o).cell 0
  have a1 : ∀ o, (w1.alloc o).cell? ⟨w.heap.size + 1, 1, none⟩ = some (.string ay) := fun o => (HKA1.out.old o).cell 1
  clear hb1 hans1
  go_wp2_with fail
  obtain ⟨w2, hw2⟩ : ∃ w2, w2 = w1.alloc (.cells #[.string l1, .string l2, .string l3] 26) := ⟨_, rfl⟩
  have hbA := below_new w1 (.cells #[.string l1, .string l2, .string l3] 26)
  have HKG := hideIt (Blk.new w1 #[.string l1, .string l2, .string l3] 26)
  rw [← hw2] at hbA HKG ⊢
  obtain ⟨G, hG⟩ : ∃ G, G = w1.heap.size := ⟨_, rfl⟩
  rw [← hG] at HKG ⊢
  clear hG hw2
  have HB2 := hideIt (HB1.out.trans (hbA.mono HB1.out.size))
  clear hbA o0 o1 a0 a1
  refine (planeAt_calls (va := .agg #[.string ox, .string oy]) (vb := .agg #[.string ax, .string ay]) (t := kt) ⟨ox, oy, rfl, rfl, rfl⟩ ⟨ax, ay, rfl, rfl, rfl⟩ rfl S1.out S2.out S3.out S4.out S7.out (HTAB.out.below HB2.out)).mono ?_
  rintro _ w3 ⟨hb3, v3, rfl, c1, c2, rfl, hc1, hc2⟩
  have HC := hideIt (And.intro hc1 hc2)
  have HB3 := hideIt (HB2.out.trans (hb3.mono HB2.out.size))
  have HKG3 := hideIt (HKG.out.below hb3 HKG.out.lt)
  have g0 : ∀ o, (w3.alloc o).cell? ⟨G, 0, none⟩ = some (.string l1) := fun o => (HKG3.out.old o).cell 0
  have g1 : ∀ o, (w3.alloc o).cell? ⟨G, 1, none⟩ = some (.string l2) := fun o => (HKG3.out.old o).cell 1
  have g2 : ∀ o, (w3.alloc o).cell? ⟨G, 2, none⟩ = some (.string l3) := fun o => (HKG3.out.old o).cell 2
  clear hb3 hc1 hc2
  go_wp2_with fail
  obtain ⟨w4, hw4⟩ : ∃ w4, w4 = w3.alloc (.cells #[.string c1, .string c2] 24) := ⟨_, rfl⟩
  have hbA := below_new w3 (.cells #[.string c1, .string c2] 24)
  have HKH := hideIt (Blk.new w3 #[.string c1, .string c2] 24)
  rw [← hw4] at hbA HKH ⊢
  obtain ⟨H, hH⟩ : ∃ H, H = w3.heap.size := ⟨_, rfl⟩
  rw [← hH] at HKH ⊢
  clear hH hw4
  have HB4 := hideIt (HB3.out.trans (hbA.mono HB3.out.size))
  have HC1 : Hid (rd c1.data.toList = (rd ox.data.toList + (rd ax.data.toList - rd ox.data.toList) * rd kt.data.toList) ∧ c1.data.toList.length ≤ 4294967296) := by
    have h1 := HC.out.1
    have h2 := tx_len FC1.out
    show _ ∧ _
    rw [h1, rd_tx]
    exact ⟨rfl, by omega⟩
  have HC2 : Hid (rd c2.data.toList = (rd oy.data.toList + (rd ay.data.toList - rd oy.data.toList) * rd kt.data.toList) ∧ c2.data.toList.length ≤ 4294967296) := by
    have h1 := HC.out.2
    have h2 := tx_len FC2.out
    show _ ∧ _
    rw [h1, rd_tx]
    exact ⟨rfl, by omega⟩
  have FD1 : Hid (QS 16777238 (rd c1.data.toList)) := by show QS _ _; rw [HC1.out.1]; exact FC1.out
  have FD2 : Hid (QS 16777238 (rd c2.data.toList)) := by show QS _ _; rw [HC2.out.1]; exact FC2.out
  have KK : Hid (20 * (4 * 25165857 + 1 + 16777238 + 1) ≤ 35184372088640) := by show _ ≤ _; omega
  have N1 : Hid (l1.data.toList.length ≤ 4294967296 ∧ l2.data.toList.length ≤ 4294967296 ∧ l3.data.toList.length ≤ 4294967296) := by
    obtain ⟨_, _, _, h1, h2, h3⟩ := SZ1.out
    show _ ∧ _ ∧ _
    omega
  clear hbA g0 g1 g2
  refine (beside_calls (va := .agg #[.string l1, .string l2, .string l3]) (vb := .agg #[.string c1, .string c2]) ⟨l1, l2, l3, rfl, rfl, rfl, rfl⟩ ⟨c1, c2, rfl, rfl, rfl⟩ N1.out.1 N1.out.2.1 N1.out.2.2 HC1.out.2 HC2.out.2 SZ1.out.1 SZ1.out.2.1 FD1.out FD2.out KK.out (HTAB.out.below HB4.out)).mono ?_
  rintro _ w5 ⟨hb5, m1, m2, m3, z2, rfl, hans2⟩
  have HANS2 := hideIt hans2
  have HB5 := hideIt (HB4.out.trans (hb5.mono HB4.out.size))
  have HKO5 := hideIt (HKO.out.below HB5.out (by rw [HSZ.out]; omega))
  have HKB5 := hideIt (HKB.out.below HB5.out (by rw [HSZ.out]; omega))
  have o0 : ∀ o, (w5.alloc o).cell? ⟨w.heap.size, 0, none⟩ = some (.string ox) := fun o => (HKO5.out.old o).cell 0
  have o1 : ∀ o, (w5.alloc o).cell? ⟨w.heap.size, 1, none⟩ = some (.string oy) := fun o => (HKO5.out.old o).cell 1
  have b0 : ∀ o, (w5.alloc o).cell? ⟨w.heap.size + 1 + 1, 0, none⟩ = some (.string bx) := fun o => (HKB5.out.old o).cell 0
  have b1 : ∀ o, (w5.alloc o).cell? ⟨w.heap.size + 1 + 1, 1, none⟩ = some (.string bz) := fun o => (HKB5.out.old o).cell 1
  clear hb5 hans2
  go_wp2_with fail
  obtain ⟨w6, hw6⟩ : ∃ w6, w6 = w5.alloc (.cells #[.string m1, .string m2, .string m3] 26) := ⟨_, rfl⟩
  have hbA := below_new w5 (.cells #[.string m1, .string m2, .string m3] 26)
  have HKJ := hideIt (Blk.new w5 #[.string m1, .string m2, .string m3] 26)
  rw [← hw6] at hbA HKJ ⊢
  obtain ⟨J, hJ⟩ : ∃ J, J = w5.heap.size := ⟨_, rfl⟩
  rw [← hJ] at HKJ ⊢
  clear hJ hw6
  have HB6 := hideIt (HB5.out.trans (hbA.mono HB5.out.size))
  clear hbA o0 o1 b0 b1
  refine (through_calls (va := .agg #[.string ox, .string oy]) (vb := .agg #[.string bx, .string bz]) ⟨ox, oy, rfl, rfl, rfl⟩ ⟨bx, bz, rfl, rfl, rfl⟩ S1.out S2.out S5.out S6.out (HTAB.out.below HB6.out)).mono ?_
  rintro _ w7 ⟨hb7, n1, n2, n3, z3, rfl, hans3⟩
  have HANS3 := hideIt hans3
  have HB7 := hideIt (HB6.out.trans (hb7.mono HB6.out.size))
  have HKJ7 := hideIt (HKJ.out.below hb7 HKJ.out.lt)
  clear hb7 hans3
  go_wp2_with fail
  obtain ⟨w8, hw8⟩ : ∃ w8, w8 = w7.alloc (.cells #[.string n1, .string n2, .string n3] 26) := ⟨_, rfl⟩
  have hbA := below_new w7 (.cells #[.string n1, .string n2, .string n3] 26)
  have HKQ := hideIt (Blk.new w7 #[.string n1, .string n2, .string n3] 26)
  rw [← hw8] at hbA HKQ ⊢
  obtain ⟨Q, hQ⟩ : ∃ Q, Q = w7.heap.size := ⟨_, rfl⟩
  rw [← hQ] at HKQ ⊢
  clear hQ hw8
  have HB8 := hideIt (HB7.out.trans (hbA.mono HB7.out.size))
  have HKJ8 := hideIt (HKJ7.out.below hbA HKJ7.out.lt)
  clear hbA
  have HTC := hideIt (HTAB.out.below HB8.out)
  refine (lined_calls w8 HTC.out).mono ?_
  rintro _ w9 ⟨hb9, rfl⟩
  have HB9 := hideIt (HB8.out.trans (hb9.mono HB8.out.size))
  have HKJ9 := hideIt (HKJ8.out.below hb9 HKJ8.out.lt)
  have HKQ9 := hideIt (HKQ.out.below hb9 HKQ.out.lt)
  have HTC9 := hideIt (HTAB.out.below HB9.out)
  clear hb9
  rcases HANS1.out with ⟨_, _, hz1, _⟩ | ⟨hn1, hz1, e1, e2, e3⟩
  · subst hz1
    go_wp2_with fail
    refine (lined_calls w9 HTC9.out).mono ?_
    rintro _ w10 ⟨hb10, rfl⟩
    go_wp2
    go_ret
    exact ⟨HB0.out.trans ((HB9.out.trans (hb10.mono HB9.out.size)).mono HB0.out.size), rfl⟩
  · subst hz1
    have R1 : Hid (rd l1.data.toList = (-(rd bz.data.toList - rd ay.data.toList)) * fac [(-(rd bz.data.toList - rd ay.data.toList)), (rd bx.data.toList - rd ax.data.toList), (-((-(rd bz.data.toList - rd ay.data.toList)) * rd ax.data.toList + (rd bx.data.toList - rd ax.data.toList) * rd ay.data.toList))] ∧ rd l2.data.toList = (rd bx.data.toList - rd ax.data.toList) * fac [(-(rd bz.data.toList - rd ay.data.toList)), (rd bx.data.toList - rd ax.data.toList), (-((-(rd bz.data.toList - rd ay.data.toList)) * rd ax.data.toList + (rd bx.data.toList - rd ax.data.toList) * rd ay.data.toList))]) := by
      show _ ∧ _
      rw [e1, e2, rd_tx, rd_tx]
      exact ⟨rfl, rfl⟩
    have NZ : Hid (¬ (rd l1.data.toList = 0 ∧ rd l2.data.toList = 0)) := by
      show ¬ _
      rw [R1.out.1, R1.out.2]
      exact tx_mul_ne hn1
    clear hn1 e1 e2 e3
    rcases HANS3.out with ⟨_, _, hz3, _⟩ | ⟨hn3, hz3, e1, e2, e3⟩
    · subst hz3
      go_wp2_with fail
      refine (lined_calls w9 HTC9.out).mono ?_
      rintro _ w10 ⟨hb10, rfl⟩
      go_wp2
      go_ret
      exact ⟨HB0.out.trans ((HB9.out.trans (hb10.mono HB9.out.size)).mono HB0.out.size), rfl⟩
    · subst hz3
      have R3 : Hid (rd n1.data.toList = (-(rd bz.data.toList - rd oy.data.toList)) * fac [(-(rd bz.data.toList - rd oy.data.toList)), (rd bx.data.toList - rd ox.data.toList), (-((-(rd bz.data.toList - rd oy.data.toList)) * rd ox.data.toList + (rd bx.data.toList - rd ox.data.toList) * rd oy.data.toList))] ∧ rd n2.data.toList = (rd bx.data.toList - rd ox.data.toList) * fac [(-(rd bz.data.toList - rd oy.data.toList)), (rd bx.data.toList - rd ox.data.toList), (-((-(rd bz.data.toList - rd oy.data.toList)) * rd ox.data.toList + (rd bx.data.toList - rd ox.data.toList) * rd oy.data.toList))] ∧ rd n3.data.toList = (-((-(rd bz.data.toList - rd oy.data.toList)) * rd ox.data.toList + (rd bx.data.toList - rd ox.data.toList) * rd oy.data.toList)) * fac [(-(rd bz.data.toList - rd oy.data.toList)), (rd bx.data.toList - rd ox.data.toList), (-((-(rd bz.data.toList - rd oy.data.toList)) * rd ox.data.toList + (rd bx.data.toList - rd ox.data.toList) * rd oy.data.toList))]) := by
        show _ ∧ _ ∧ _
        rw [e1, e2, e3, rd_tx, rd_tx, rd_tx]
        exact ⟨rfl, rfl, rfl⟩
      have SZ3 := hideIt (ans_size HANS3.out FN1.out FN2.out FN3.out)
      clear hn3 e1 e2 e3
      have FM3 : Hid (QS 234881335 (-(rd l1.data.toList * rd c1.data.toList + rd l2.data.toList * rd c2.data.toList))) := (((SZ1.out.1.mul FD1.out).add (SZ1.out.2.1.mul FD2.out)).neg).mono (by omega)
      have SZ2 := hideIt (ans_size HANS2.out (K := 234881335) (SZ1.out.1.mono (by omega)) (SZ1.out.2.1.mono (by omega)) FM3.out)
      rcases HANS2.out with ⟨h1, h2, _⟩ | ⟨_, hz2, e1, e2, e3⟩
      · exact absurd (And.intro h1 h2) NZ.out
      · subst hz2
        have R2 : Hid (rd m1.data.toList = rd l1.data.toList * fac [rd l1.data.toList, rd l2.data.toList, -(rd l1.data.toList * rd c1.data.toList + rd l2.data.toList * rd c2.data.toList)] ∧ rd m2.data.toList = rd l2.data.toList * fac [rd l1.data.toList, rd l2.data.toList, -(rd l1.data.toList * rd c1.data.toList + rd l2.data.toList * rd c2.data.toList)] ∧ rd m3.data.toList = -(rd l1.data.toList * rd c1.data.toList + rd l2.data.toList * rd c2.data.toList) * fac [rd l1.data.toList, rd l2.data.toList, -(rd l1.data.toList * rd c1.data.toList + rd l2.data.toList * rd c2.data.toList)]) := by
          show _ ∧ _ ∧ _
          rw [e1, e2, e3, rd_tx, rd_tx, rd_tx]
          exact ⟨rfl, rfl, rfl⟩
        clear e1 e2 e3
        have NM : Hid (m1.data.toList.length ≤ 4294967296 ∧ m2.data.toList.length ≤ 4294967296 ∧ m3.data.toList.length ≤ 4294967296) := by
          obtain ⟨_, _, _, h1, h2, h3⟩ := SZ2.out
          show _ ∧ _ ∧ _
          omega
        have NN : Hid (n1.data.toList.length ≤ 4294967296 ∧ n2.data.toList.length ≤ 4294967296 ∧ n3.data.toList.length ≤ 4294967296) := by
          obtain ⟨_, _, _, h1, h2, h3⟩ := SZ3.out
          show _ ∧ _ ∧ _
          omega
        have G1 : Hid (QS (4 * 234881335 + 1) (rd n1.data.toList)) := SZ3.out.1.mono (by omega)
        have G2 : Hid (QS (4 * 234881335 + 1) (rd n2.data.toList)) := SZ3.out.2.1.mono (by omega)
        have G3 : Hid (QS (4 * 234881335 + 1) (rd n3.data.toList)) := SZ3.out.2.2.1.mono (by omega)
        have KZ : Hid (20 * (4 * 234881335 + 1 + 1) ≤ 35184372088640) := by show _ ≤ _; omega
        obtain ⟨y0, y1, y2, _⟩ := HKJ9.out.all3
        obtain ⟨x0, x1, x2, _⟩ := HKQ9.out.all3
        go_wp2_with fail
        refine (lineMeet_calls (va := .agg #[.string m1, .string m2, .string m3]) (vb := .agg #[.string n1, .string n2, .string n3]) ⟨m1, m2, m3, rfl, rfl, rfl, rfl⟩ ⟨n1, n2, n3, rfl, rfl, rfl, rfl⟩ NM.out.1 NM.out.2.1 NM.out.2.2 NN.out.1 NN.out.2.1 NN.out.2.2 SZ2.out.1 SZ2.out.2.1 SZ2.out.2.2.1 G1.out G2.out G3.out KZ.out HTC9.out).mono ?_
        rintro _ w10 ⟨hb10, d1, d2, z4, rfl, hans4⟩
        have HB10 := hideIt (HB9.out.trans (hb10.mono HB9.out.size))
        have HANS4 := hideIt hans4
        clear hb10 hans4 x0 x1 x2 y0 y1 y2
        by_cases h4 : z4 = 0
        · subst h4
          have HD : Hid (d1.data.toList = tx (rd ox.data.toList + (rd bx.data.toList - rd ox.data.toList) * rd kt.data.toList) ∧ d2.data.toList = tx (rd oy.data.toList + (rd bz.data.toList - rd oy.data.toList) * rd kt.data.toList)) := by
            rcases HANS4.out with ⟨_, h⟩ | ⟨_, _, x, y, hm, ht⟩
            · exact absurd rfl h
            · rcases hm with ⟨htn, _, hx, hy⟩ | ⟨_, h⟩
              · obtain ⟨h1, h2⟩ := ht rfl
                have hth := thales2 R1.out.1 R1.out.2 HC1.out.1 HC2.out.1 R2.out.1 R2.out.2.1 R2.out.2.2 R3.out.1 R3.out.2.1 R3.out.2.2 htn hx hy
                rw [h1, h2, hth.1, hth.2]
                exact ⟨rfl, rfl⟩
              · exact absurd rfl h
          clear HANS1 HANS2 HANS3 HANS4 R1 R2 R3
          go_wp2_with fail
          obtain ⟨w11, hw11⟩ : ∃ w11, w11 = w10.alloc (.cells #[.string d1, .string d2] 24) := ⟨_, rfl⟩
          have hbA := below_new w10 (.cells #[.string d1, .string d2] 24)
          have HKV := hideIt (Blk.new w10 #[.string d1, .string d2] 24)
          rw [← hw11] at hbA HKV ⊢
          obtain ⟨V, hV⟩ : ∃ V, V = w10.heap.size := ⟨_, rfl⟩
          rw [← hV] at HKV ⊢
          clear hV hw11
          have HB11 := hideIt (HB10.out.trans (hbA.mono HB10.out.size))
          have HKO11 := hideIt (HKO.out.below HB11.out (by rw [HSZ.out]; omega))
          have HKB11 := hideIt (HKB.out.below HB11.out (by rw [HSZ.out]; omega))
          have HTC11 := hideIt (HTAB.out.below HB11.out)
          clear hbA
          have HS : Hid (∀ w', Below w11.heap.size w11 w' → w'.cell? ⟨w.heap.size, 0, none⟩ = some (.string ox) ∧ w'.cell? ⟨w.heap.size, 1, none⟩ = some (.string oy) ∧ w'.cell? ⟨w.heap.size + 1 + 1, 0, none⟩ = some (.string bx) ∧ w'.cell? ⟨w.heap.size + 1 + 1, 1, none⟩ = some (.string bz) ∧ w'.cell? ⟨V, 0, none⟩ = some (.string d1) ∧ w'.cell? ⟨V, 1, none⟩ = some (.string d2)) := fun w' hb => ⟨(HKO11.out.below hb HKO11.out.lt).cell 0, (HKO11.out.below hb HKO11.out.lt).cell 1, (HKB11.out.below hb HKB11.out.lt).cell 0, (HKB11.out.below hb HKB11.out.lt).cell 1, (HKV.out.below hb HKV.out.lt).cell 0, (HKV.out.below hb HKV.out.lt).cell 1⟩
          obtain ⟨u0, u1, u2, u3, u4, u5⟩ := HS.out w11 (Below.refl _ _)
          go_region_held3 (fun w' => w'.cell? ⟨w.heap.size, 0, none⟩ = some (.string ox) ∧ w'.cell? ⟨w.heap.size, 1, none⟩ = some (.string oy) ∧ w'.cell? ⟨w.heap.size + 1 + 1, 0, none⟩ = some (.string bx) ∧ w'.cell? ⟨w.heap.size + 1 + 1, 1, none⟩ = some (.string bz) ∧ w'.cell? ⟨V, 0, none⟩ = some (.string d1) ∧ w'.cell? ⟨V, 1, none⟩ = some (.string d2)) (first | go_keep | exact hs12)
            (first
              | (go_at_call 5; refine (planeAt_calls (w := w11.drew) (va := .agg #[.string ox, .string oy]) (vb := .agg #[.string bx, .string bz]) (t := kt) ⟨ox, oy, rfl, rfl, rfl⟩ ⟨bx, bz, rfl, rfl, rfl⟩ rfl S1.out S2.out S5.out S6.out S7.out (HTC11.out.below (Below.drew (Below.refl _ _)))).mono ?_; rintro _ w12 ⟨hb12, v12, rfl, e1, e2, rfl, he1, he2⟩; have hbl12 : Below w11.heap.size w11 w12 := (Below.drew (Below.refl _ w11)).trans hb12; have hs12 := HS.out w12 hbl12; obtain rfl : d1 = e1 := (bytes_eq HD.out.1).trans (bytes_eq he1).symm; obtain rfl : d2 = e2 := (bytes_eq HD.out.2).trans (bytes_eq he2).symm)
              )
          all_goals
            go_wp2
            go_ret
            exact ⟨HB0.out.trans ((HB11.out.trans (hbl12.mono HB11.out.size)).mono HB0.out.size), rfl⟩
        · have hne : (z4 != 0) = true := by simpa using h4
          clear h4
          go_wp2
          go_ret
          exact ⟨HB0.out.trans ((HB10.out.alloc HB10.out.size _).mono HB0.out.size), rfl⟩
end Go.Proofs.YtllmfakelodpiaaGreatDoor
