/- Part 13 of the walks and of the mathematics under them: WO WQ WP WAN WS WT WU MathY WV WW WBT WSD WMI WFR WR AWF XA XB XC XD XE XF XG XH AWG AWR AWS. -/
import Derived.Test.YtgajdmadbdbabaaGreatDoorA12
import Derived.Deep.Cut
import Derived.Test.YtgajdmadbdbabaaGreatDoorA11
import Derived.Test.YtgajdmadbdbabaaGreatDoorA10
set_option maxHeartbeats 16000000
set_option maxRecDepth 100000
/- WO -/
namespace Go.Proofs.YtgajdmadbdbabaaGreatDoor
open Go.RowKit Cx
attribute [local go_sem ↓] Go.wp_at_zero Go.wp_at_succ
theorem square_walk {w : World} {p q a b : C3} {px py ax ay : Rat} (hpx : QV w (.agg #[.bool p.n, .slice p.u p.nu p.cu, .slice p.l p.nl p.cl]) px) (hpy : QV w (.agg #[.bool q.n, .slice q.u q.nu q.cu, .slice q.l q.nl q.cl]) py) (hax : QV w (.agg #[.bool a.n, .slice a.u a.nu a.cu, .slice a.l a.nl a.cl]) ax) (hay : QV w (.agg #[.bool b.n, .slice b.u b.nu b.cu, .slice b.l b.nl b.cl]) ay) {k l : Nat} (f1 : QS k ax) (f2 : QS k ay) (f3 : QS l px) (f4 : QS l py) (hk : 20 * (k + l + 1) ≤ 35184372088640) (tab : Tab w) :
    Calls Tryz.prog 63 #[.agg #[.bool p.n, .slice p.u p.nu p.cu, .slice p.l p.nl p.cl, .bool q.n, .slice q.u q.nu q.cu, .slice q.l q.nl q.cl], .agg #[.bool a.n, .slice a.u a.nu a.cu, .slice a.l a.nl a.cl, .bool b.n, .slice b.u b.nu b.cu, .slice b.l b.nl b.cl]] w fun e w' => Below w.heap.size w w' ∧ ((ax = 0 ∧ ay = 0 ∧ e = .returned (.tuple #[.agg #[.string ⟨#[]⟩, .string ⟨#[]⟩, .string ⟨#[]⟩], .int .i64 5])) ∨ (¬ (ax = 0 ∧ ay = 0) ∧ ∃ v, e = .returned (.tuple #[v, .int .i64 0]) ∧ TV v (tx (ax * fac [ax, ay, -(ax * px + ay * py)])) (tx (ay * fac [ax, ay, -(ax * px + ay * py)])) (tx (-(ax * px + ay * py) * fac [ax, ay, -(ax * px + ay * py)])))) := by
  obtain ⟨hb0, hk0, hk1, hk2, hsz⟩ := boxes3 w #[.bool p.n, .slice p.u p.nu p.cu, .slice p.l p.nl p.cl, .bool q.n, .slice q.u q.nu q.cu, .slice q.l q.nl q.cl] #[.bool a.n, .slice a.u a.nu a.cu, .slice a.l a.nl a.cl, .bool b.n, .slice b.u b.nu b.cu, .slice b.l b.nl b.cl] #[.string ⟨#[]⟩, .string ⟨#[]⟩, .string ⟨#[]⟩] 86 86 26
  have HB0 := hideIt hb0
  have HSZ := hideIt hsz
  have HK0 := hideIt hk0
  have HK1 := hideIt hk1
  have HK2 := hideIt hk2
  have HPX := hideIt (hpx.below hb0)
  have HPY := hideIt (hpy.below hb0)
  have HAX := hideIt (hax.below hb0)
  have HAY := hideIt (hay.below hb0)
  have HTAB := hideIt (tab.below hb0)
  have F1 := hideIt f1
  have F2 := hideIt f2
  have F3 := hideIt f3
  have F4 := hideIt f4
  have HK := hideIt hk
  clear hb0 hsz hk0 hk1 hk2 hpx hpy hax hay tab f1 f2 f3 f4 hk
  have K1 : Hid (2 * (k + l + 1) + 1 ≤ 35184372088640) := by have := HK.out; show _ ≤ _; omega
  have K2 : Hid (4 * (k + l + (k + l) + 1) + 2 ≤ 35184372088640) := by have := HK.out; show _ ≤ _; omega
  have G1 : Hid (QS (k + l + (k + l) + 1) ax) := F1.out.mono (by omega)
  have G2 : Hid (QS (k + l + (k + l) + 1) ay) := F2.out.mono (by omega)
  have G3 : Hid (QS (k + l + (k + l) + 1) (-(ax * px + ay * py))) := ((F1.out.mul F3.out).add (F2.out.mul F4.out)).neg
  go_enter Tryz.func63, Tryz.ntmps63
  go_wp2_with fail
  generalize (((w.alloc (.cells #[.bool p.n, .slice p.u p.nu p.cu, .slice p.l p.nl p.cl, .bool q.n, .slice q.u q.nu q.cu, .slice q.l q.nl q.cl] 86)).alloc (.cells #[.bool a.n, .slice a.u a.nu a.cu, .slice a.l a.nl a.cl, .bool b.n, .slice b.u b.nu b.cu, .slice b.l b.nl b.cl] 86)).alloc (.cells #[.string ⟨#[]⟩, .string ⟨#[]⟩, .string ⟨#[]⟩] 26)) = W0 at *
  refine (nowhere_calls ⟨a, b, rfl, HAX.out, HAY.out⟩).mono ?_
  rintro _ w1 ⟨hb1, rfl⟩
  have HS : Hid (∀ w', Below W0.heap.size W0 w' → w'.cell? ⟨w.heap.size, 0, none⟩ = some (.bool p.n) ∧ w'.cell? ⟨w.heap.size, 1, none⟩ = some (.slice p.u p.nu p.cu) ∧ w'.cell? ⟨w.heap.size, 2, none⟩ = some (.slice p.l p.nl p.cl) ∧ w'.cell? ⟨w.heap.size, 3, none⟩ = some (.bool q.n) ∧ w'.cell? ⟨w.heap.size, 4, none⟩ = some (.slice q.u q.nu q.cu) ∧ w'.cell? ⟨w.heap.size, 5, none⟩ = some (.slice q.l q.nl q.cl) ∧ w'.cell? ⟨w.heap.size + 1, 0, none⟩ = some (.bool a.n) ∧ w'.cell? ⟨w.heap.size + 1, 1, none⟩ = some (.slice a.u a.nu a.cu) ∧ w'.cell? ⟨w.heap.size + 1, 2, none⟩ = some (.slice a.l a.nl a.cl) ∧ w'.cell? ⟨w.heap.size + 1, 3, none⟩ = some (.bool b.n) ∧ w'.cell? ⟨w.heap.size + 1, 4, none⟩ = some (.slice b.u b.nu b.cu) ∧ w'.cell? ⟨w.heap.size + 1, 5, none⟩ = some (.slice b.l b.nl b.cl)) := fun w' hb => ⟨(HK0.out.below hb (by rw [HSZ.out]; omega)).cell 0, (HK0.out.below hb (by rw [HSZ.out]; omega)).cell 1, (HK0.out.below hb (by rw [HSZ.out]; omega)).cell 2, (HK0.out.below hb (by rw [HSZ.out]; omega)).cell 3, (HK0.out.below hb (by rw [HSZ.out]; omega)).cell 4, (HK0.out.below hb (by rw [HSZ.out]; omega)).cell 5, (HK1.out.below hb (by rw [HSZ.out]; omega)).cell 0, (HK1.out.below hb (by rw [HSZ.out]; omega)).cell 1, (HK1.out.below hb (by rw [HSZ.out]; omega)).cell 2, (HK1.out.below hb (by rw [HSZ.out]; omega)).cell 3, (HK1.out.below hb (by rw [HSZ.out]; omega)).cell 4, (HK1.out.below hb (by rw [HSZ.out]; omega)).cell 5⟩
  have hkr := hideIt (HK2.out.below hb1 (by rw [HSZ.out]; omega))
  have hbw := hideIt (HB0.out.trans (hb1.mono HB0.out.size))
  have HB1 := hideIt hb1
  clear hb1
  obtain ⟨q0, q1, q2, g0, g1, g2⟩ := hkr.out.all3
  by_cases h0 : ax = 0 ∧ ay = 0
  · rw [decide_eq_true h0]
    have H0 := hideIt h0
    clear h0
    go_wp2
    obtain ⟨k0, k1, k2, _⟩ := (hkr.out.put3 (.string ⟨#[]⟩) (.string ⟨#[]⟩) (.string ⟨#[]⟩)).all3
    exact bodyPost_ret (v := .tuple #[.agg #[.string ⟨#[]⟩, .string ⟨#[]⟩, .string ⟨#[]⟩], .int .i64 5]) (by simp [results, Tryz.results63, go_sem, k0, k1, k2]) rfl ⟨Below.put3 hbw.out (by omega) _ _ _, Or.inl ⟨H0.out.1, H0.out.2, rfl⟩⟩
  · rw [decide_eq_false h0]
    have H0 := hideIt h0
    clear h0
    obtain ⟨z0, z1, z2, z3, z4, z5, z6, z7, z8, z9, z10, z11⟩ := HS.out w1 HB1.out
    go_wp2_with fail
    refine (rulerSquare_calls ⟨p, q, rfl, HPX.out.below HB1.out, HPY.out.below HB1.out⟩ ⟨a, b, rfl, HAX.out.below HB1.out, HAY.out.below HB1.out⟩ F1.out F2.out F3.out F4.out K1.out).mono ?_
    rintro _ w2 ⟨hb2, v2, rfl, hv2⟩
    have hbl2 := HB1.out.trans (hb2.mono HB1.out.size)
    clear z0 z1 z2 z3 z4 z5 z6 z7 z8 z9 z10 z11 q0 q1 q2 g0 g1 g2
    go_wp2_with fail
    refine (rulerText_calls hv2 G1.out G2.out G3.out K2.out (HTAB.out.below hbl2)).mono ?_
    rintro _ w3 ⟨hb3, v3, rfl, s1, s2, s3, rfl, ht1, ht2, ht3⟩
    have hbl3 := hbl2.trans (hb3.mono hbl2.size)
    have hkr3 := hideIt (HK2.out.below hbl3 (by rw [HSZ.out]; omega))
    have HT := hideIt (And.intro ht1 (And.intro ht2 ht3))
    obtain ⟨q0, q1, q2, g0, g1, g2⟩ := hkr3.out.all3
    have hbw3 := hideIt (HB0.out.trans (hbl3.mono HB0.out.size))
    clear ht1 ht2 ht3 hv2 hb2 hb3 hbl2 hbl3
    go_wp2
    obtain ⟨k0, k1, k2, _⟩ := (hkr3.out.put3 (.string s1) (.string s2) (.string s3)).all3
    exact bodyPost_ret (v := .tuple #[.agg #[.string s1, .string s2, .string s3], .int .i64 0]) (by simp [results, Tryz.results63, go_sem, k0, k1, k2]) rfl ⟨Below.put3 hbw3.out (by omega) _ _ _, Or.inr ⟨H0.out, _, rfl, s1, s2, s3, rfl, HT.out.1, HT.out.2.1, HT.out.2.2⟩⟩
theorem square_calls {w : World} {va vb : Value} {px py ax ay : Rat} (ha : WV w va px py) (hb : WV w vb ax ay) {k l : Nat} (f1 : QS k ax) (f2 : QS k ay) (f3 : QS l px) (f4 : QS l py) (hk : 20 * (k + l + 1) ≤ 35184372088640) (tab : Tab w) :
    Calls Tryz.prog 63 #[va, vb] w fun e w' => Below w.heap.size w w' ∧ ((ax = 0 ∧ ay = 0 ∧ e = .returned (.tuple #[.agg #[.string ⟨#[]⟩, .string ⟨#[]⟩, .string ⟨#[]⟩], .int .i64 5])) ∨ (¬ (ax = 0 ∧ ay = 0) ∧ ∃ v, e = .returned (.tuple #[v, .int .i64 0]) ∧ TV v (tx (ax * fac [ax, ay, -(ax * px + ay * py)])) (tx (ay * fac [ax, ay, -(ax * px + ay * py)])) (tx (-(ax * px + ay * py) * fac [ax, ay, -(ax * px + ay * py)])))) := by
  obtain ⟨p, q, rfl, h1, h2⟩ := ha
  obtain ⟨a, b, rfl, h3, h4⟩ := hb
  exact square_walk h1 h2 h3 h4 f1 f2 f3 f4 hk tab
end Go.Proofs.YtgajdmadbdbabaaGreatDoor
/- WQ -/
namespace Go.Proofs.YtgajdmadbdbabaaGreatDoor
open Go.RowKit Cx
attribute [local go_sem ↓] Go.wp_at_zero Go.wp_at_succ
def MeetAns (ax ay az px pz pw x y : Rat) (z : Int) : Prop :=
  ((ax * pz - ay * px) ≠ 0 ∧ z = 0 ∧ x = -(pz * az - ay * pw) / (ax * pz - ay * px) ∧ y = (px * az - ax * pw) / (ax * pz - ay * px)) ∨ ((ax * pz - ay * px) = 0 ∧ z ≠ 0)
theorem rulerMeet_walk {w : World} {a b c p q r : C3} {ax ay az px pz pw : Rat} (ha : QV w (.agg #[.bool a.n, .slice a.u a.nu a.cu, .slice a.l a.nl a.cl]) ax) (hb : QV w (.agg #[.bool b.n, .slice b.u b.nu b.cu, .slice b.l b.nl b.cl]) ay) (hc : QV w (.agg #[.bool c.n, .slice c.u c.nu c.cu, .slice c.l c.nl c.cl]) az) (hp : QV w (.agg #[.bool p.n, .slice p.u p.nu p.cu, .slice p.l p.nl p.cl]) px) (hq : QV w (.agg #[.bool q.n, .slice q.u q.nu q.cu, .slice q.l q.nl q.cl]) pz) (hr : QV w (.agg #[.bool r.n, .slice r.u r.nu r.cu, .slice r.l r.nl r.cl]) pw) {k : Nat} (f1 : QS k ax) (f2 : QS k ay) (f3 : QS k az) (f4 : QS k px) (f5 : QS k pz) (f6 : QS k pw) (hk : 20 * (k + 1) ≤ 35184372088640) :
    Calls Tryz.prog 74 #[.agg #[.bool a.n, .slice a.u a.nu a.cu, .slice a.l a.nl a.cl, .bool b.n, .slice b.u b.nu b.cu, .slice b.l b.nl b.cl, .bool c.n, .slice c.u c.nu c.cu, .slice c.l c.nl c.cl], .agg #[.bool p.n, .slice p.u p.nu p.cu, .slice p.l p.nl p.cl, .bool q.n, .slice q.u q.nu q.cu, .slice q.l q.nl q.cl, .bool r.n, .slice r.u r.nu r.cu, .slice r.l r.nl r.cl]] w fun e w' => Below w.heap.size w w' ∧ ∃ v z x y, e = .returned (.tuple #[v, .int .i64 z]) ∧ WV w' v x y ∧ MeetAns ax ay az px pz pw x y z := by
  obtain ⟨hb0, hk0, hk1, hk2, hsz⟩ := boxes3 w #[.bool a.n, .slice a.u a.nu a.cu, .slice a.l a.nl a.cl, .bool b.n, .slice b.u b.nu b.cu, .slice b.l b.nl b.cl, .bool c.n, .slice c.u c.nu c.cu, .slice c.l c.nl c.cl] #[.bool p.n, .slice p.u p.nu p.cu, .slice p.l p.nl p.cl, .bool q.n, .slice q.u q.nu q.cu, .slice q.l q.nl q.cl, .bool r.n, .slice r.u r.nu r.cu, .slice r.l r.nl r.cl] #[.bool false, .slice none 0 0, .slice none 0 0, .bool false, .slice none 0 0, .slice none 0 0] 97 97 86
  have HB0 := hideIt hb0
  have HSZ := hideIt hsz
  have HK0 := hideIt hk0
  have HK1 := hideIt hk1
  have HK2 := hideIt hk2
  have HA := hideIt (ha.below hb0)
  have HB := hideIt (hb.below hb0)
  have HC := hideIt (hc.below hb0)
  have HP := hideIt (hp.below hb0)
  have HQ := hideIt (hq.below hb0)
  have HR := hideIt (hr.below hb0)
  have F1 := hideIt f1
  have F2 := hideIt f2
  have F3 := hideIt f3
  have F4 := hideIt f4
  have F5 := hideIt f5
  have F6 := hideIt f6
  have HK := hideIt hk
  clear hb0 hsz hk0 hk1 hk2 ha hb hc hp hq hr f1 f2 f3 f4 f5 f6 hk
  have K1 : Hid (k + k + (k + k) + 1 ≤ 35184372088640) := by have := HK.out; show _ ≤ _; omega
  have K2 : Hid (k + k + 1 ≤ 35184372088640) := by have := HK.out; show _ ≤ _; omega
  have K3 : Hid (k + k + (k + k) + 1 + (k + k + (k + k) + 1) + 1 ≤ 35184372088640) := by have := HK.out; show _ ≤ _; omega
  have FT : Hid (QS (k + k + (k + k) + 1) (ax * pz - ay * px)) := (F1.out.mul F5.out).sub (F2.out.mul F4.out)
  have FX : Hid (QS (k + k + (k + k) + 1) (px * az - ax * pw)) := (F4.out.mul F3.out).sub (F1.out.mul F6.out)
  have FY : Hid (QS (k + k + (k + k) + 1) (pz * az - ay * pw)) := (F5.out.mul F3.out).sub (F2.out.mul F6.out)
  go_enter Tryz.func74, Tryz.ntmps74
  go_wp2_with fail
  generalize (((w.alloc (.cells #[.bool a.n, .slice a.u a.nu a.cu, .slice a.l a.nl a.cl, .bool b.n, .slice b.u b.nu b.cu, .slice b.l b.nl b.cl, .bool c.n, .slice c.u c.nu c.cu, .slice c.l c.nl c.cl] 97)).alloc (.cells #[.bool p.n, .slice p.u p.nu p.cu, .slice p.l p.nl p.cl, .bool q.n, .slice q.u q.nu q.cu, .slice q.l q.nl q.cl, .bool r.n, .slice r.u r.nu r.cu, .slice r.l r.nl r.cl] 97)).alloc (.cells #[.bool false, .slice none 0 0, .slice none 0 0, .bool false, .slice none 0 0, .slice none 0 0] 86)) = W0 at *
  refine (wayCross_calls ⟨a, b, rfl, HA.out, HB.out⟩ ⟨p, q, rfl, HP.out, HQ.out⟩ F1.out F2.out F4.out F5.out K1.out).mono ?_
  rintro _ w1 ⟨hb1, v1, rfl, hv1⟩
  obtain ⟨t, rfl⟩ := qv_open hv1
  have HV1 := hideIt hv1
  have HB1 := hideIt hb1
  clear hv1 hb1
  go_wp2_with fail
  obtain ⟨w2, hw2⟩ : ∃ w2, w2 = w1.alloc (.cells #[.bool t.n, .slice t.u t.nu t.cu, .slice t.l t.nl t.cl] 84) := ⟨_, rfl⟩
  have hbA := below_new w1 (.cells #[.bool t.n, .slice t.u t.nu t.cu, .slice t.l t.nl t.cl] 84)
  have HKT := hideIt (Blk.new w1 #[.bool t.n, .slice t.u t.nu t.cu, .slice t.l t.nl t.cl] 84)
  rw [← hw2] at hbA HKT ⊢
  have HBL : Hid (Below W0.heap.size W0 w2) := HB1.out.trans (hbA.mono HB1.out.size)
  have HVT := hideIt (HV1.out.below hbA)
  clear hbA hw2
  obtain ⟨T, hT⟩ : ∃ T, T = w1.heap.size := ⟨_, rfl⟩
  rw [← hT] at HKT ⊢
  have HTge : Hid (W0.heap.size ≤ T) := by rw [hT]; exact HB1.out.size
  clear hT
  have HS : Hid (∀ w', Below w2.heap.size w2 w' → w'.cell? ⟨w.heap.size, 0, none⟩ = some (.bool a.n) ∧ w'.cell? ⟨w.heap.size, 1, none⟩ = some (.slice a.u a.nu a.cu) ∧ w'.cell? ⟨w.heap.size, 2, none⟩ = some (.slice a.l a.nl a.cl) ∧ w'.cell? ⟨w.heap.size, 3, none⟩ = some (.bool b.n) ∧ w'.cell? ⟨w.heap.size, 4, none⟩ = some (.slice b.u b.nu b.cu) ∧ w'.cell? ⟨w.heap.size, 5, none⟩ = some (.slice b.l b.nl b.cl) ∧ w'.cell? ⟨w.heap.size, 6, none⟩ = some (.bool c.n) ∧ w'.cell? ⟨w.heap.size, 7, none⟩ = some (.slice c.u c.nu c.cu) ∧ w'.cell? ⟨w.heap.size, 8, none⟩ = some (.slice c.l c.nl c.cl) ∧ w'.cell? ⟨w.heap.size + 1, 0, none⟩ = some (.bool p.n) ∧ w'.cell? ⟨w.heap.size + 1, 1, none⟩ = some (.slice p.u p.nu p.cu) ∧ w'.cell? ⟨w.heap.size + 1, 2, none⟩ = some (.slice p.l p.nl p.cl) ∧ w'.cell? ⟨w.heap.size + 1, 3, none⟩ = some (.bool q.n) ∧ w'.cell? ⟨w.heap.size + 1, 4, none⟩ = some (.slice q.u q.nu q.cu) ∧ w'.cell? ⟨w.heap.size + 1, 5, none⟩ = some (.slice q.l q.nl q.cl) ∧ w'.cell? ⟨w.heap.size + 1, 6, none⟩ = some (.bool r.n) ∧ w'.cell? ⟨w.heap.size + 1, 7, none⟩ = some (.slice r.u r.nu r.cu) ∧ w'.cell? ⟨w.heap.size + 1, 8, none⟩ = some (.slice r.l r.nl r.cl)) := fun w' hb => by
    have h1 := (HK0.out.below HBL.out (by rw [HSZ.out]; omega)).below hb (by have := HBL.out.size; have := HSZ.out; omega)
    have h2 := (HK1.out.below HBL.out (by rw [HSZ.out]; omega)).below hb (by have := HBL.out.size; have := HSZ.out; omega)
    exact ⟨h1.cell 0, h1.cell 1, h1.cell 2, h1.cell 3, h1.cell 4, h1.cell 5, h1.cell 6, h1.cell 7, h1.cell 8, h2.cell 0, h2.cell 1, h2.cell 2, h2.cell 3, h2.cell 4, h2.cell 5, h2.cell 6, h2.cell 7, h2.cell 8⟩
  obtain ⟨z0, z1, z2, z3, z4, z5, z6, z7, z8, z9, z10, z11, z12, z13, z14, z15, z16, z17⟩ := HS.out w2 (Below.refl _ _)
  have HA2 := hideIt (HA.out.below HBL.out)
  have HB2 := hideIt (HB.out.below HBL.out)
  have HC2 := hideIt (HC.out.below HBL.out)
  have HP2 := hideIt (HP.out.below HBL.out)
  have HQ2 := hideIt (HQ.out.below HBL.out)
  have HR2 := hideIt (HR.out.below HBL.out)
  go_cut [7] from 8 (fun pm wc => One w2 pm wc (px * az - ax * pw) (pz * az - ay * pw))
  case first =>
    go_region_held3 (fun w' => w'.cell? ⟨w.heap.size, 0, none⟩ = some (.bool a.n) ∧ w'.cell? ⟨w.heap.size, 1, none⟩ = some (.slice a.u a.nu a.cu) ∧ w'.cell? ⟨w.heap.size, 2, none⟩ = some (.slice a.l a.nl a.cl) ∧ w'.cell? ⟨w.heap.size, 3, none⟩ = some (.bool b.n) ∧ w'.cell? ⟨w.heap.size, 4, none⟩ = some (.slice b.u b.nu b.cu) ∧ w'.cell? ⟨w.heap.size, 5, none⟩ = some (.slice b.l b.nl b.cl) ∧ w'.cell? ⟨w.heap.size, 6, none⟩ = some (.bool c.n) ∧ w'.cell? ⟨w.heap.size, 7, none⟩ = some (.slice c.u c.nu c.cu) ∧ w'.cell? ⟨w.heap.size, 8, none⟩ = some (.slice c.l c.nl c.cl) ∧ w'.cell? ⟨w.heap.size + 1, 0, none⟩ = some (.bool p.n) ∧ w'.cell? ⟨w.heap.size + 1, 1, none⟩ = some (.slice p.u p.nu p.cu) ∧ w'.cell? ⟨w.heap.size + 1, 2, none⟩ = some (.slice p.l p.nl p.cl) ∧ w'.cell? ⟨w.heap.size + 1, 3, none⟩ = some (.bool q.n) ∧ w'.cell? ⟨w.heap.size + 1, 4, none⟩ = some (.slice q.u q.nu q.cu) ∧ w'.cell? ⟨w.heap.size + 1, 5, none⟩ = some (.slice q.l q.nl q.cl) ∧ w'.cell? ⟨w.heap.size + 1, 6, none⟩ = some (.bool r.n) ∧ w'.cell? ⟨w.heap.size + 1, 7, none⟩ = some (.slice r.u r.nu r.cu) ∧ w'.cell? ⟨w.heap.size + 1, 8, none⟩ = some (.slice r.l r.nl r.cl)) ((refine HS.out _ ?_; repeat' (first | with_reducible exact hbl5 | with_reducible exact hbl4 | with_reducible exact hbl3 | with_reducible exact Below.refl _ _ | with_reducible refine Below.drew ?_ | with_reducible refine Below.alloc ?_ ?_ _ | with_reducible refine Below.put6 ?_ ?_ _ _ _ _ _ _ | (simp; done) | (simp; omega) | omega)))
      (first
        | (go_at_call_of 68 (Value.agg #[Value.bool p.n, Value.slice p.u p.nu p.cu, Value.slice p.l p.nl p.cl, Value.bool q.n, Value.slice q.u q.nu q.cu, Value.slice q.l q.nl q.cl]); have hc := wayTimes_calls (w := (w2.drew)) ⟨p, q, rfl, HP2.out.below (Below.drew (Below.refl _ w2)), HQ2.out.below (Below.drew (Below.refl _ w2))⟩ (HC2.out.below (Below.drew (Below.refl _ w2))) F4.out F5.out F3.out K2.out; (with_reducible refine hc.mono ?_); rintro _ w3 ⟨hb3, v3, rfl, hv3⟩; clear hc; have hw3 := hv3; obtain ⟨d3, e3, rfl, hx3, hy3⟩ := hw3; have hc3 : Below w2.heap.size w2 w3 := (Below.drew (Below.refl _ w2)).trans hb3; have hbl3 := hc3; have hz3 := hbl3.size)
        | (go_at_call_of 68 (Value.agg #[Value.bool p.n, Value.slice p.u p.nu p.cu, Value.slice p.l p.nl p.cl, Value.bool q.n, Value.slice q.u q.nu q.cu, Value.slice q.l q.nl q.cl]); have hc := wayTimes_calls (w := ((w2.alloc (.cells #[.bool false, .slice none 0 0, .slice none 0 0, .bool false, .slice none 0 0, .slice none 0 0] 86)).drew)) ⟨p, q, rfl, HP2.out.below (Below.drew (below_new w2 (.cells #[.bool false, .slice none 0 0, .slice none 0 0, .bool false, .slice none 0 0, .slice none 0 0] 86))), HQ2.out.below (Below.drew (below_new w2 (.cells #[.bool false, .slice none 0 0, .slice none 0 0, .bool false, .slice none 0 0, .slice none 0 0] 86)))⟩ (HC2.out.below (Below.drew (below_new w2 (.cells #[.bool false, .slice none 0 0, .slice none 0 0, .bool false, .slice none 0 0, .slice none 0 0] 86)))) F4.out F5.out F3.out K2.out; (with_reducible refine hc.mono ?_); rintro _ w3 ⟨hb3, v3, rfl, hv3⟩; clear hc; have hw3 := hv3; obtain ⟨d3, e3, rfl, hx3, hy3⟩ := hw3; have hc3 : Below w2.heap.size w2 w3 := (Below.drew (below_new w2 (.cells #[.bool false, .slice none 0 0, .slice none 0 0, .bool false, .slice none 0 0, .slice none 0 0] 86))).trans (hb3.mono (Nat.le_of_lt (Blk.new w2 #[.bool false, .slice none 0 0, .slice none 0 0, .bool false, .slice none 0 0, .slice none 0 0] 86).lt)); have hbl3 := hc3; have hG3 := (show Blk (w2.alloc (.cells #[.bool false, .slice none 0 0, .slice none 0 0, .bool false, .slice none 0 0, .slice none 0 0] 86)).drew w2.heap.size #[.bool false, .slice none 0 0, .slice none 0 0, .bool false, .slice none 0 0, .slice none 0 0] 86 from Blk.new w2 #[.bool false, .slice none 0 0, .slice none 0 0, .bool false, .slice none 0 0, .slice none 0 0] 86).below hb3 (Blk.new w2 #[.bool false, .slice none 0 0, .slice none 0 0, .bool false, .slice none 0 0, .slice none 0 0] 86).lt; have hz3 := hbl3.size)
        | (go_at_call_of 68 (Value.agg #[Value.bool a.n, Value.slice a.u a.nu a.cu, Value.slice a.l a.nl a.cl, Value.bool b.n, Value.slice b.u b.nu b.cu, Value.slice b.l b.nl b.cl]); have hc := wayTimes_calls (w := w3) ⟨a, b, rfl, (HA2.out.below hbl3), (HB2.out.below hbl3)⟩ ((HR2.out.below hbl3)) F1.out F2.out F6.out K2.out; (with_reducible refine hc.mono ?_); rintro _ w4 ⟨hb4, v4, rfl, hv4⟩; clear hc; have hw4 := hv4; obtain ⟨d4, e4, rfl, hx4, hy4⟩ := hw4; have hc4 : Below w3.heap.size w3 w4 := hb4; (try have hG4 := hG3.below hc4 hG3.lt); have hbl4 := hbl3.trans (hc4.mono hbl3.size); have hz4 := hbl4.size)
        | (go_at_call_of 68 (Value.agg #[Value.bool a.n, Value.slice a.u a.nu a.cu, Value.slice a.l a.nl a.cl, Value.bool b.n, Value.slice b.u b.nu b.cu, Value.slice b.l b.nl b.cl]); have hc := wayTimes_calls (w := (w3.alloc (.cells #[.bool false, .slice none 0 0, .slice none 0 0, .bool false, .slice none 0 0, .slice none 0 0] 86))) ⟨a, b, rfl, (HA2.out.below hbl3).below (below_new w3 (.cells #[.bool false, .slice none 0 0, .slice none 0 0, .bool false, .slice none 0 0, .slice none 0 0] 86)), (HB2.out.below hbl3).below (below_new w3 (.cells #[.bool false, .slice none 0 0, .slice none 0 0, .bool false, .slice none 0 0, .slice none 0 0] 86))⟩ ((HR2.out.below hbl3).below (below_new w3 (.cells #[.bool false, .slice none 0 0, .slice none 0 0, .bool false, .slice none 0 0, .slice none 0 0] 86))) F1.out F2.out F6.out K2.out; (with_reducible refine hc.mono ?_); rintro _ w4 ⟨hb4, v4, rfl, hv4⟩; clear hc; have hw4 := hv4; obtain ⟨d4, e4, rfl, hx4, hy4⟩ := hw4; have hc4 : Below w3.heap.size w3 w4 := (below_new w3 (.cells #[.bool false, .slice none 0 0, .slice none 0 0, .bool false, .slice none 0 0, .slice none 0 0] 86)).trans (hb4.mono (Nat.le_of_lt (Blk.new w3 #[.bool false, .slice none 0 0, .slice none 0 0, .bool false, .slice none 0 0, .slice none 0 0] 86).lt)); have hG4 := (Blk.new w3 #[.bool false, .slice none 0 0, .slice none 0 0, .bool false, .slice none 0 0, .slice none 0 0] 86).below hb4 (Blk.new w3 #[.bool false, .slice none 0 0, .slice none 0 0, .bool false, .slice none 0 0, .slice none 0 0] 86).lt; have hbl4 := hbl3.trans (hc4.mono hbl3.size); have hz4 := hbl4.size)
        | (go_at_call 64; have hc := wayMinus_calls (w := w4) ((hv3.below hc4)) (hv4) (F4.out.mul F3.out) (F5.out.mul F3.out) (F1.out.mul F6.out) (F2.out.mul F6.out) K1.out; (with_reducible refine hc.mono ?_); rintro _ w5 ⟨hb5, v5, rfl, hv5⟩; clear hc; have hw5 := hv5; obtain ⟨d5, e5, rfl, hx5, hy5⟩ := hw5; have hc5 : Below w4.heap.size w4 w5 := hb5; (try have hG5 := hG4.below hc5 hG4.lt); have hbl5 := hbl4.trans (hc5.mono hbl4.size); have hz5 := hbl5.size; (try obtain ⟨r0, r1, r2, r3, r4, r5, r6, r7, r8, r9, r10, r11⟩ := hG5.all6))
        | (go_at_call 64; have hc := wayMinus_calls (w := (w4.alloc (.cells #[.bool false, .slice none 0 0, .slice none 0 0, .bool false, .slice none 0 0, .slice none 0 0] 86))) ((hv3.below hc4).below (below_new w4 (.cells #[.bool false, .slice none 0 0, .slice none 0 0, .bool false, .slice none 0 0, .slice none 0 0] 86))) (hv4.below (below_new w4 (.cells #[.bool false, .slice none 0 0, .slice none 0 0, .bool false, .slice none 0 0, .slice none 0 0] 86))) (F4.out.mul F3.out) (F5.out.mul F3.out) (F1.out.mul F6.out) (F2.out.mul F6.out) K1.out; (with_reducible refine hc.mono ?_); rintro _ w5 ⟨hb5, v5, rfl, hv5⟩; clear hc; have hw5 := hv5; obtain ⟨d5, e5, rfl, hx5, hy5⟩ := hw5; have hc5 : Below w4.heap.size w4 w5 := (below_new w4 (.cells #[.bool false, .slice none 0 0, .slice none 0 0, .bool false, .slice none 0 0, .slice none 0 0] 86)).trans (hb5.mono (Nat.le_of_lt (Blk.new w4 #[.bool false, .slice none 0 0, .slice none 0 0, .bool false, .slice none 0 0, .slice none 0 0] 86).lt)); have hG5 := (Blk.new w4 #[.bool false, .slice none 0 0, .slice none 0 0, .bool false, .slice none 0 0, .slice none 0 0] 86).below hb5 (Blk.new w4 #[.bool false, .slice none 0 0, .slice none 0 0, .bool false, .slice none 0 0, .slice none 0 0] 86).lt; have hbl5 := hbl4.trans (hc5.mono hbl4.size); have hz5 := hbl5.size; (try obtain ⟨r0, r1, r2, r3, r4, r5, r6, r7, r8, r9, r10, r11⟩ := hG5.all6))
        )
    all_goals
      go_wp2_with fail
      go_meet
      first
        | with_reducible exact One.new hbl5 hx5 hy5
        | with_reducible exact One.old hG5 (Nat.le_refl _) hbl5 hx5 hy5
        | with_reducible exact One.old hG5 hz3 hbl5 hx5 hy5
        | with_reducible exact One.old hG5 hz4 hbl5 hx5 hy5
  case rest =>
    obtain ⟨G, rfl, hG, hbl, d, e, hkG, hx, hy⟩ := hcut
    have HX := hideIt hx
    have HY := hideIt hy
    have HKG := hideIt hkG
    have HGge := hideIt hG
    have HKT2 := hideIt (HKT.out.below hbl HKT.out.lt)
    have HVT2 := hideIt (HVT.out.below hbl)
    have HBW := hideIt (HBL.out.trans (hbl.mono HBL.out.size))
    have HBT := hideIt (HB0.out.trans (HBW.out.mono HB0.out.size))
    have HKR := hideIt (HK2.out.below HBW.out (by rw [HSZ.out]; omega))
    clear hx hy hkG hbl hG z0 z1 z2 z3 z4 z5 z6 z7 z8 z9 z10 z11 z12 z13 z14 z15 z16 z17
    obtain ⟨y0, y1, y2, _⟩ := HKT2.out.all3
    go_wp2_with fail
    refine (sign_calls HVT2.out).mono ?_
    rintro _ w6 ⟨hb6, rfl⟩
    have HX6 := hideIt (HX.out.below hb6)
    have HY6 := hideIt (HY.out.below hb6)
    have HVT6 := hideIt (HVT2.out.below hb6)
    have HKG6 := hideIt (HKG.out.below hb6 HKG.out.lt)
    have HKT6 := hideIt (HKT2.out.below hb6 HKT2.out.lt)
    have HKR6 := hideIt (HKR.out.below hb6 HKR.out.lt)
    have HBT6 := hideIt (HBT.out.trans (hb6.mono HBT.out.size))
    clear hb6 y0 y1 y2
    obtain ⟨y0, y1, y2, _⟩ := HKT6.out.all3
    obtain ⟨u0, u1, u2, u3, u4, u5, _⟩ := HKG6.out.all6
    by_cases h0 : (ax * pz - ay * px) = 0
    · rw [if_pos (sg_zero.2 h0)]
      have H0 := hideIt h0
      clear h0
      go_wp2_with fail
      refine (nowhere_calls ⟨d, e, rfl, HX6.out, HY6.out⟩).mono ?_
      rintro _ w7 ⟨hb7, rfl⟩
      have HKR7 := hideIt (HKR6.out.below hb7 HKR6.out.lt)
      have HBT7 := hideIt (HBT6.out.trans (hb7.mono HBT6.out.size))
      clear hb7
      obtain ⟨q0, q1, q2, q3, q4, q5, g0, g1, g2, g3, g4, g5⟩ := HKR7.out.all6
      obtain ⟨k0, k1, k2, k3, k4, k5, _⟩ := (HKR7.out.put6 (.bool false) (.slice none 0 0) (.slice none 0 0) (.bool false) (.slice none 0 0) (.slice none 0 0)).all6
      by_cases hm : (px * az - ax * pw) = 0 ∧ (pz * az - ay * pw) = 0
      · rw [decide_eq_true hm]
        clear hm
        go_wp2
        exact bodyPost_ret (v := .tuple #[.agg #[.bool false, .slice none 0 0, .slice none 0 0, .bool false, .slice none 0 0, .slice none 0 0], .int .i64 7]) (by simp [results, Tryz.results74, go_sem, k0, k1, k2, k3, k4, k5]) rfl ⟨Below.put6 HBT7.out (by omega) _ _ _ _ _ _, _, _, 0, 0, rfl, ⟨⟨false, none, 0, 0, none, 0, 0⟩, ⟨false, none, 0, 0, none, 0, 0⟩, rfl, qv_zero0 _, qv_zero0 _⟩, Or.inr ⟨H0.out, by decide⟩⟩
      · rw [decide_eq_false hm]
        clear hm
        go_wp2
        exact bodyPost_ret (v := .tuple #[.agg #[.bool false, .slice none 0 0, .slice none 0 0, .bool false, .slice none 0 0, .slice none 0 0], .int .i64 6]) (by simp [results, Tryz.results74, go_sem, k0, k1, k2, k3, k4, k5]) rfl ⟨Below.put6 HBT7.out (by omega) _ _ _ _ _ _, _, _, 0, 0, rfl, ⟨⟨false, none, 0, 0, none, 0, 0⟩, ⟨false, none, 0, 0, none, 0, 0⟩, rfl, qv_zero0 _, qv_zero0 _⟩, Or.inr ⟨H0.out, by decide⟩⟩
    · rw [if_neg (fun h => h0 (sg_zero.1 h))]
      have hne : ((if (ax * pz - ay * px).num < 0 then (-1 : Int) else 1) != 0) = true := by split <;> rfl
      generalize (if (ax * pz - ay * px).num < 0 then (-1 : Int) else 1) = zz at *
      have H0 := hideIt h0
      clear h0
      have HS6 : Hid (∀ w', Below w6.heap.size w6 w' → w'.cell? ⟨G, 0, none⟩ = some (.bool d.n) ∧ w'.cell? ⟨G, 1, none⟩ = some (.slice d.u d.nu d.cu) ∧ w'.cell? ⟨G, 2, none⟩ = some (.slice d.l d.nl d.cl) ∧ w'.cell? ⟨G, 3, none⟩ = some (.bool e.n) ∧ w'.cell? ⟨G, 4, none⟩ = some (.slice e.u e.nu e.cu) ∧ w'.cell? ⟨G, 5, none⟩ = some (.slice e.l e.nl e.cl) ∧ w'.cell? ⟨T, 0, none⟩ = some (.bool t.n) ∧ w'.cell? ⟨T, 1, none⟩ = some (.slice t.u t.nu t.cu) ∧ w'.cell? ⟨T, 2, none⟩ = some (.slice t.l t.nl t.cl)) := fun w' hb => ⟨(HKG6.out.below hb HKG6.out.lt).cell 0, (HKG6.out.below hb HKG6.out.lt).cell 1, (HKG6.out.below hb HKG6.out.lt).cell 2, (HKG6.out.below hb HKG6.out.lt).cell 3, (HKG6.out.below hb HKG6.out.lt).cell 4, (HKG6.out.below hb HKG6.out.lt).cell 5, (HKT6.out.below hb HKT6.out.lt).cell 0, (HKT6.out.below hb HKT6.out.lt).cell 1, (HKT6.out.below hb HKT6.out.lt).cell 2⟩
      have HRS : Hid (w.heap.size + 1 + 1 ≠ G ∧ w.heap.size + 1 + 1 ≠ T) := by
        have h1 := HSZ.out
        have h2 := HTge.out
        have h3 := HGge.out
        have h4 := HBL.out.size
        show _ ∧ _
        omega
      have HSS6 : Hid (∀ w', Below w6.heap.size w6 w' → ∀ x0 x1 x2 x3 x4 x5 : Value, ((((((w'.setCell ⟨w.heap.size + 1 + 1, 0, none⟩ (x0)).setCell ⟨w.heap.size + 1 + 1, 1, none⟩ (x1)).setCell ⟨w.heap.size + 1 + 1, 2, none⟩ (x2)).setCell ⟨w.heap.size + 1 + 1, 3, none⟩ (x3)).setCell ⟨w.heap.size + 1 + 1, 4, none⟩ (x4)).setCell ⟨w.heap.size + 1 + 1, 5, none⟩ (x5)).cell? ⟨G, 0, none⟩ = some (.bool d.n) ∧ ((((((w'.setCell ⟨w.heap.size + 1 + 1, 0, none⟩ (x0)).setCell ⟨w.heap.size + 1 + 1, 1, none⟩ (x1)).setCell ⟨w.heap.size + 1 + 1, 2, none⟩ (x2)).setCell ⟨w.heap.size + 1 + 1, 3, none⟩ (x3)).setCell ⟨w.heap.size + 1 + 1, 4, none⟩ (x4)).setCell ⟨w.heap.size + 1 + 1, 5, none⟩ (x5)).cell? ⟨G, 1, none⟩ = some (.slice d.u d.nu d.cu) ∧ ((((((w'.setCell ⟨w.heap.size + 1 + 1, 0, none⟩ (x0)).setCell ⟨w.heap.size + 1 + 1, 1, none⟩ (x1)).setCell ⟨w.heap.size + 1 + 1, 2, none⟩ (x2)).setCell ⟨w.heap.size + 1 + 1, 3, none⟩ (x3)).setCell ⟨w.heap.size + 1 + 1, 4, none⟩ (x4)).setCell ⟨w.heap.size + 1 + 1, 5, none⟩ (x5)).cell? ⟨G, 2, none⟩ = some (.slice d.l d.nl d.cl) ∧ ((((((w'.setCell ⟨w.heap.size + 1 + 1, 0, none⟩ (x0)).setCell ⟨w.heap.size + 1 + 1, 1, none⟩ (x1)).setCell ⟨w.heap.size + 1 + 1, 2, none⟩ (x2)).setCell ⟨w.heap.size + 1 + 1, 3, none⟩ (x3)).setCell ⟨w.heap.size + 1 + 1, 4, none⟩ (x4)).setCell ⟨w.heap.size + 1 + 1, 5, none⟩ (x5)).cell? ⟨G, 3, none⟩ = some (.bool e.n) ∧ ((((((w'.setCell ⟨w.heap.size + 1 + 1, 0, none⟩ (x0)).setCell ⟨w.heap.size + 1 + 1, 1, none⟩ (x1)).setCell ⟨w.heap.size + 1 + 1, 2, none⟩ (x2)).setCell ⟨w.heap.size + 1 + 1, 3, none⟩ (x3)).setCell ⟨w.heap.size + 1 + 1, 4, none⟩ (x4)).setCell ⟨w.heap.size + 1 + 1, 5, none⟩ (x5)).cell? ⟨G, 4, none⟩ = some (.slice e.u e.nu e.cu) ∧ ((((((w'.setCell ⟨w.heap.size + 1 + 1, 0, none⟩ (x0)).setCell ⟨w.heap.size + 1 + 1, 1, none⟩ (x1)).setCell ⟨w.heap.size + 1 + 1, 2, none⟩ (x2)).setCell ⟨w.heap.size + 1 + 1, 3, none⟩ (x3)).setCell ⟨w.heap.size + 1 + 1, 4, none⟩ (x4)).setCell ⟨w.heap.size + 1 + 1, 5, none⟩ (x5)).cell? ⟨G, 5, none⟩ = some (.slice e.l e.nl e.cl) ∧ ((((((w'.setCell ⟨w.heap.size + 1 + 1, 0, none⟩ (x0)).setCell ⟨w.heap.size + 1 + 1, 1, none⟩ (x1)).setCell ⟨w.heap.size + 1 + 1, 2, none⟩ (x2)).setCell ⟨w.heap.size + 1 + 1, 3, none⟩ (x3)).setCell ⟨w.heap.size + 1 + 1, 4, none⟩ (x4)).setCell ⟨w.heap.size + 1 + 1, 5, none⟩ (x5)).cell? ⟨T, 0, none⟩ = some (.bool t.n) ∧ ((((((w'.setCell ⟨w.heap.size + 1 + 1, 0, none⟩ (x0)).setCell ⟨w.heap.size + 1 + 1, 1, none⟩ (x1)).setCell ⟨w.heap.size + 1 + 1, 2, none⟩ (x2)).setCell ⟨w.heap.size + 1 + 1, 3, none⟩ (x3)).setCell ⟨w.heap.size + 1 + 1, 4, none⟩ (x4)).setCell ⟨w.heap.size + 1 + 1, 5, none⟩ (x5)).cell? ⟨T, 1, none⟩ = some (.slice t.u t.nu t.cu) ∧ ((((((w'.setCell ⟨w.heap.size + 1 + 1, 0, none⟩ (x0)).setCell ⟨w.heap.size + 1 + 1, 1, none⟩ (x1)).setCell ⟨w.heap.size + 1 + 1, 2, none⟩ (x2)).setCell ⟨w.heap.size + 1 + 1, 3, none⟩ (x3)).setCell ⟨w.heap.size + 1 + 1, 4, none⟩ (x4)).setCell ⟨w.heap.size + 1 + 1, 5, none⟩ (x5)).cell? ⟨T, 2, none⟩ = some (.slice t.l t.nl t.cl)) := fun w' hb x0 x1 x2 x3 x4 x5 => ⟨((HKG6.out.below hb HKG6.out.lt).off6 (g := w.heap.size + 1 + 1) HRS.out.1 x0 x1 x2 x3 x4 x5).cell 0, ((HKG6.out.below hb HKG6.out.lt).off6 (g := w.heap.size + 1 + 1) HRS.out.1 x0 x1 x2 x3 x4 x5).cell 1, ((HKG6.out.below hb HKG6.out.lt).off6 (g := w.heap.size + 1 + 1) HRS.out.1 x0 x1 x2 x3 x4 x5).cell 2, ((HKG6.out.below hb HKG6.out.lt).off6 (g := w.heap.size + 1 + 1) HRS.out.1 x0 x1 x2 x3 x4 x5).cell 3, ((HKG6.out.below hb HKG6.out.lt).off6 (g := w.heap.size + 1 + 1) HRS.out.1 x0 x1 x2 x3 x4 x5).cell 4, ((HKG6.out.below hb HKG6.out.lt).off6 (g := w.heap.size + 1 + 1) HRS.out.1 x0 x1 x2 x3 x4 x5).cell 5, ((HKT6.out.below hb HKT6.out.lt).off6 (g := w.heap.size + 1 + 1) HRS.out.2 x0 x1 x2 x3 x4 x5).cell 0, ((HKT6.out.below hb HKT6.out.lt).off6 (g := w.heap.size + 1 + 1) HRS.out.2 x0 x1 x2 x3 x4 x5).cell 1, ((HKT6.out.below hb HKT6.out.lt).off6 (g := w.heap.size + 1 + 1) HRS.out.2 x0 x1 x2 x3 x4 x5).cell 2⟩
      go_wp2_with fail
      go_region_held3 (fun w' => w'.cell? ⟨G, 0, none⟩ = some (.bool d.n) ∧ w'.cell? ⟨G, 1, none⟩ = some (.slice d.u d.nu d.cu) ∧ w'.cell? ⟨G, 2, none⟩ = some (.slice d.l d.nl d.cl) ∧ w'.cell? ⟨G, 3, none⟩ = some (.bool e.n) ∧ w'.cell? ⟨G, 4, none⟩ = some (.slice e.u e.nu e.cu) ∧ w'.cell? ⟨G, 5, none⟩ = some (.slice e.l e.nl e.cl) ∧ w'.cell? ⟨T, 0, none⟩ = some (.bool t.n) ∧ w'.cell? ⟨T, 1, none⟩ = some (.slice t.u t.nu t.cu) ∧ w'.cell? ⟨T, 2, none⟩ = some (.slice t.l t.nl t.cl)) (first | go_keep | exact hs7 | exact hs8 | exact hkS)
        (first
          | (go_at_call 65; refine (wayLeft_calls (w := w6.drew) ⟨d, e, rfl, HX6.out.below (Below.drew (Below.refl _ _)), HY6.out.below (Below.drew (Below.refl _ _))⟩).mono ?_; rintro _ w7 ⟨hb7, v7, rfl, hv7⟩; have hw7 := hv7; obtain ⟨d7, e7, rfl, hx7, hy7⟩ := hw7; have hbl7 : Below w6.heap.size w6 w7 := (Below.drew (Below.refl _ w6)).trans hb7; have hs7 := HS6.out w7 hbl7)
          | (go_at_call 92; refine (wayOver_calls hv7 (HVT6.out.below hbl7) FY.out.neg FX.out FT.out K3.out).mono ?_; rintro _ w8 ⟨hb8, v8, rfl, hv8⟩; obtain ⟨d8, e8, rfl, hx8, hy8⟩ := hv8; have hbl8 := hbl7.trans (hb8.mono hbl7.size); have hs8 := HS6.out w8 hbl8; have hkr := HKR6.out.below hbl8 HKR6.out.lt; obtain ⟨q0, q1, q2, q3, q4, q5, g0, g1, g2, g3, g4, g5⟩ := hkr.all6; have hkS := HSS6.out w8 hbl8 (.bool d8.n) (.slice d8.u d8.nu d8.cu) (.slice d8.l d8.nl d8.cl) (.bool e8.n) (.slice e8.u e8.nu e8.cu) (.slice e8.l e8.nl e8.cl); have HX8 := hideIt hx8; have HY8 := hideIt hy8; clear hx8 hy8)
          )
      all_goals
        go_wp2
        obtain ⟨k0, k1, k2, k3, k4, k5, _⟩ := (hkr.put6 (.bool d8.n) (.slice d8.u d8.nu d8.cu) (.slice d8.l d8.nl d8.cl) (.bool e8.n) (.slice e8.u e8.nu e8.cu) (.slice e8.l e8.nl e8.cl)).all6
        have hst := Stays.put6 hkr (by simp [notLimb]) (.bool d8.n) (.slice d8.u d8.nu d8.cu) (.slice d8.l d8.nl d8.cl) (.bool e8.n) (.slice e8.u e8.nu e8.cu) (.slice e8.l e8.nl e8.cl) rfl rfl rfl rfl rfl rfl
        exact bodyPost_ret (v := .tuple #[.agg #[.bool d8.n, .slice d8.u d8.nu d8.cu, .slice d8.l d8.nl d8.cl, .bool e8.n, .slice e8.u e8.nu e8.cu, .slice e8.l e8.nl e8.cl], .int .i64 0]) (by simp [results, Tryz.results74, go_sem, k0, k1, k2, k3, k4, k5]) rfl ⟨Below.put6 (HBT6.out.trans (hbl8.mono HBT6.out.size)) (by omega) _ _ _ _ _ _, _, _, _, _, rfl, ⟨d8, e8, rfl, hst.qv HX8.out, hst.qv HY8.out⟩, Or.inl ⟨H0.out, rfl, rfl, rfl⟩⟩
theorem rulerMeet_calls {w : World} {va vb : Value} {ax ay az px pz pw : Rat} (ha : LV w va ax ay az) (hb : LV w vb px pz pw) {k : Nat} (f1 : QS k ax) (f2 : QS k ay) (f3 : QS k az) (f4 : QS k px) (f5 : QS k pz) (f6 : QS k pw) (hk : 20 * (k + 1) ≤ 35184372088640) :
    Calls Tryz.prog 74 #[va, vb] w fun e w' => Below w.heap.size w w' ∧ ∃ v z x y, e = .returned (.tuple #[v, .int .i64 z]) ∧ WV w' v x y ∧ MeetAns ax ay az px pz pw x y z := by
  obtain ⟨a, b, c, rfl, h1, h2, h3⟩ := ha
  obtain ⟨p, q, r, rfl, h4, h5, h6⟩ := hb
  exact rulerMeet_walk h1 h2 h3 h4 h5 h6 f1 f2 f3 f4 f5 f6 hk
end Go.Proofs.YtgajdmadbdbabaaGreatDoor
/- WP -/
namespace Go.Proofs.YtgajdmadbdbabaaGreatDoor
open Go.RowKit Cx
attribute [local go_sem ↓] Go.wp_at_zero Go.wp_at_succ
def LineAns (x y c : Rat) (la lb lc : List UInt8) (z : Int) : Prop :=
  (x = 0 ∧ y = 0 ∧ z = 5 ∧ la = [] ∧ lb = [] ∧ lc = []) ∨ (¬ (x = 0 ∧ y = 0) ∧ z = 0 ∧ la = tx (x * fac [x, y, c]) ∧ lb = tx (y * fac [x, y, c]) ∧ lc = tx (c * fac [x, y, c]))
theorem square_ans {w : World} {va vb : Value} {px py ax ay : Rat} (ha : WV w va px py) (hb : WV w vb ax ay) {k l : Nat} (f1 : QS k ax) (f2 : QS k ay) (f3 : QS l px) (f4 : QS l py) (hk : 20 * (k + l + 1) ≤ 35184372088640) (tab : Tab w) :
    Calls Tryz.prog 63 #[va, vb] w fun e w' => Below w.heap.size w w' ∧ ∃ (sa sb sc : ByteArray) (z : Int), e = .returned (.tuple #[.agg #[.string sa, .string sb, .string sc], .int .i64 z]) ∧ LineAns ax ay (-(ax * px + ay * py)) sa.data.toList sb.data.toList sc.data.toList z := by
  refine (square_calls ha hb f1 f2 f3 f4 hk tab).mono ?_
  rintro e w' ⟨hbel, ⟨h1, h2, rfl⟩ | ⟨hn, v, rfl, sa, sb, sc, rfl, t1, t2, t3⟩⟩
  · exact ⟨hbel, _, _, _, _, rfl, Or.inl ⟨h1, h2, rfl, rfl, rfl, rfl⟩⟩
  · exact ⟨hbel, _, _, _, _, rfl, Or.inr ⟨hn, rfl, t1, t2, t3⟩⟩
theorem through_walk {w : World} {px py qx qy : ByteArray} (s1 : px.data.toList.length ≤ 1048576) (s2 : py.data.toList.length ≤ 1048576) (s3 : qx.data.toList.length ≤ 1048576) (s4 : qy.data.toList.length ≤ 1048576) (tab : Tab w) :
    Calls Tryz.prog 15 #[.agg #[.string px, .string py], .agg #[.string qx, .string qy]] w fun e w' => Below w.heap.size w w' ∧ ∃ (sa sb sc : ByteArray) (z : Int), e = .returned (.tuple #[.agg #[.string sa, .string sb, .string sc], .int .i64 z]) ∧ LineAns (-(rd qy.data.toList - rd py.data.toList)) (rd qx.data.toList - rd px.data.toList) (-(-(rd qy.data.toList - rd py.data.toList) * rd px.data.toList + (rd qx.data.toList - rd px.data.toList) * rd py.data.toList)) sa.data.toList sb.data.toList sc.data.toList z := by
  obtain ⟨hb0, hk0, hk1, hk2, hsz⟩ := boxes3 w #[.string px, .string py] #[.string qx, .string qy] #[.string ⟨#[]⟩, .string ⟨#[]⟩, .string ⟨#[]⟩] 24 24 26
  have HB0 := hideIt hb0
  have HSZ := hideIt hsz
  have HK0 := hideIt hk0
  have HK1 := hideIt hk1
  have HK2 := hideIt hk2
  have HTAB := hideIt (tab.below hb0)
  have S1 := hideIt s1
  have S2 := hideIt s2
  have S3 := hideIt s3
  have S4 := hideIt s4
  have L1 : Hid (px.data.toList.length ≤ 4294967296) := by have := S1.out; show _ ≤ _; omega
  have L2 : Hid (py.data.toList.length ≤ 4294967296) := by have := S2.out; show _ ≤ _; omega
  have L3 : Hid (qx.data.toList.length ≤ 4294967296) := by have := S3.out; show _ ≤ _; omega
  have L4 : Hid (qy.data.toList.length ≤ 4294967296) := by have := S4.out; show _ ≤ _; omega
  clear hb0 hsz hk0 hk1 hk2 tab s1 s2 s3 s4
  go_enter Tryz.func15, Tryz.ntmps15
  go_wp2_with fail
  generalize (((w.alloc (.cells #[.string px, .string py] 24)).alloc (.cells #[.string qx, .string qy] 24)).alloc (.cells #[.string ⟨#[]⟩, .string ⟨#[]⟩, .string ⟨#[]⟩] 26)) = W0 at *
  have HS : Hid (∀ w', Below W0.heap.size W0 w' → w'.cell? ⟨w.heap.size, 0, none⟩ = some (.string px) ∧ w'.cell? ⟨w.heap.size, 1, none⟩ = some (.string py) ∧ w'.cell? ⟨w.heap.size + 1, 0, none⟩ = some (.string qx) ∧ w'.cell? ⟨w.heap.size + 1, 1, none⟩ = some (.string qy)) := fun w' hb => ⟨(HK0.out.below hb (by rw [HSZ.out]; omega)).cell 0, (HK0.out.below hb (by rw [HSZ.out]; omega)).cell 1, (HK1.out.below hb (by rw [HSZ.out]; omega)).cell 0, (HK1.out.below hb (by rw [HSZ.out]; omega)).cell 1⟩
  obtain ⟨z0, z1, z2, z3⟩ := HS.out W0 (Below.refl _ _)
  go_cut [6, 7] from 8 (fun p q wc => Two W0 p q wc (rd px.data.toList) (rd py.data.toList) (rd qx.data.toList) (rd qy.data.toList))
  case first =>
    go_region_held3 (fun w' => w'.cell? ⟨w.heap.size, 0, none⟩ = some (.string px) ∧ w'.cell? ⟨w.heap.size, 1, none⟩ = some (.string py) ∧ w'.cell? ⟨w.heap.size + 1, 0, none⟩ = some (.string qx) ∧ w'.cell? ⟨w.heap.size + 1, 1, none⟩ = some (.string qy)) ((refine HS.out _ ?_; repeat' (first | with_reducible exact hbl2 | with_reducible exact hbl1 | with_reducible exact Below.refl _ _ | with_reducible refine Below.drew ?_ | with_reducible refine Below.alloc ?_ ?_ _ | with_reducible refine Below.put6 ?_ ?_ _ _ _ _ _ _ | (simp; done) | (simp; omega) | omega)))
      (first
        | (go_at_call_of 62 (Value.agg #[Value.string px, Value.string py]); refine (wayRead_calls ⟨px, py, rfl, rfl, rfl⟩ L1.out L2.out).mono ?_; rintro e w1 ⟨hb1, v1, rfl, hv1⟩; obtain ⟨d1, e1, rfl, hx1, hy1⟩ := hv1; (first | (have hbl1 : Below W0.heap.size W0 w1 := (Below.drew (Below.refl _ W0)).trans hb1) | (have hbl1 : Below W0.heap.size W0 w1 := (Below.drew (below_new W0 (.cells #[.bool false, .slice none 0 0, .slice none 0 0, .bool false, .slice none 0 0, .slice none 0 0] 86))).trans (hb1.mono (Nat.le_of_lt (Blk.new W0 #[.bool false, .slice none 0 0, .slice none 0 0, .bool false, .slice none 0 0, .slice none 0 0] 86).lt)); have hA1 := (show Blk (W0.alloc (.cells #[.bool false, .slice none 0 0, .slice none 0 0, .bool false, .slice none 0 0, .slice none 0 0] 86)).drew W0.heap.size #[.bool false, .slice none 0 0, .slice none 0 0, .bool false, .slice none 0 0, .slice none 0 0] 86 from Blk.new W0 #[.bool false, .slice none 0 0, .slice none 0 0, .bool false, .slice none 0 0, .slice none 0 0] 86).below hb1 (Blk.new W0 #[.bool false, .slice none 0 0, .slice none 0 0, .bool false, .slice none 0 0, .slice none 0 0] 86).lt) | (have hbl1 : Below W0.heap.size W0 w1 := (Below.drew (boxes2 W0 #[.bool false, .slice none 0 0, .slice none 0 0, .bool false, .slice none 0 0, .slice none 0 0] #[.bool false, .slice none 0 0, .slice none 0 0, .bool false, .slice none 0 0, .slice none 0 0] 86 86).1).trans (hb1.mono (boxes2 W0 #[.bool false, .slice none 0 0, .slice none 0 0, .bool false, .slice none 0 0, .slice none 0 0] #[.bool false, .slice none 0 0, .slice none 0 0, .bool false, .slice none 0 0, .slice none 0 0] 86 86).1.size); have hA1 := (show Blk ((W0.alloc (.cells #[.bool false, .slice none 0 0, .slice none 0 0, .bool false, .slice none 0 0, .slice none 0 0] 86)).alloc (.cells #[.bool false, .slice none 0 0, .slice none 0 0, .bool false, .slice none 0 0, .slice none 0 0] 86)).drew W0.heap.size #[.bool false, .slice none 0 0, .slice none 0 0, .bool false, .slice none 0 0, .slice none 0 0] 86 from (boxes2 W0 #[.bool false, .slice none 0 0, .slice none 0 0, .bool false, .slice none 0 0, .slice none 0 0] #[.bool false, .slice none 0 0, .slice none 0 0, .bool false, .slice none 0 0, .slice none 0 0] 86 86).2.1).below hb1 (boxes2 W0 #[.bool false, .slice none 0 0, .slice none 0 0, .bool false, .slice none 0 0, .slice none 0 0] #[.bool false, .slice none 0 0, .slice none 0 0, .bool false, .slice none 0 0, .slice none 0 0] 86 86).2.1.lt; have hB1 := (show Blk ((W0.alloc (.cells #[.bool false, .slice none 0 0, .slice none 0 0, .bool false, .slice none 0 0, .slice none 0 0] 86)).alloc (.cells #[.bool false, .slice none 0 0, .slice none 0 0, .bool false, .slice none 0 0, .slice none 0 0] 86)).drew (W0.heap.size + 1) #[.bool false, .slice none 0 0, .slice none 0 0, .bool false, .slice none 0 0, .slice none 0 0] 86 from (boxes2 W0 #[.bool false, .slice none 0 0, .slice none 0 0, .bool false, .slice none 0 0, .slice none 0 0] #[.bool false, .slice none 0 0, .slice none 0 0, .bool false, .slice none 0 0, .slice none 0 0] 86 86).2.2.1).below hb1 (boxes2 W0 #[.bool false, .slice none 0 0, .slice none 0 0, .bool false, .slice none 0 0, .slice none 0 0] #[.bool false, .slice none 0 0, .slice none 0 0, .bool false, .slice none 0 0, .slice none 0 0] 86 86).2.2.1.lt)); have hz1 := hbl1.size)
        | (go_at_call_of 62 (Value.agg #[Value.string qx, Value.string qy]); refine (wayRead_calls ⟨qx, qy, rfl, rfl, rfl⟩ L3.out L4.out).mono ?_; rintro e w2 ⟨hb2, v2, rfl, hv2⟩; obtain ⟨d2, e2, rfl, hx2, hy2⟩ := hv2; (first | (have hc2 : Below w1.heap.size w1 w2 := hb2) | (have hc2 : Below w1.heap.size w1 w2 := (below_new w1 (.cells #[.bool false, .slice none 0 0, .slice none 0 0, .bool false, .slice none 0 0, .slice none 0 0] 86)).trans (hb2.mono (Nat.le_of_lt (Blk.new w1 #[.bool false, .slice none 0 0, .slice none 0 0, .bool false, .slice none 0 0, .slice none 0 0] 86).lt)); have hC2 := (Blk.new w1 #[.bool false, .slice none 0 0, .slice none 0 0, .bool false, .slice none 0 0, .slice none 0 0] 86).below hb2 (Blk.new w1 #[.bool false, .slice none 0 0, .slice none 0 0, .bool false, .slice none 0 0, .slice none 0 0] 86).lt) | (have hc2 : Below w1.heap.size w1 w2 := (boxes2 w1 #[.bool false, .slice none 0 0, .slice none 0 0, .bool false, .slice none 0 0, .slice none 0 0] #[.bool false, .slice none 0 0, .slice none 0 0, .bool false, .slice none 0 0, .slice none 0 0] 86 86).1.trans (hb2.mono (boxes2 w1 #[.bool false, .slice none 0 0, .slice none 0 0, .bool false, .slice none 0 0, .slice none 0 0] #[.bool false, .slice none 0 0, .slice none 0 0, .bool false, .slice none 0 0, .slice none 0 0] 86 86).1.size); have hC2 := (boxes2 w1 #[.bool false, .slice none 0 0, .slice none 0 0, .bool false, .slice none 0 0, .slice none 0 0] #[.bool false, .slice none 0 0, .slice none 0 0, .bool false, .slice none 0 0, .slice none 0 0] 86 86).2.1.below hb2 (boxes2 w1 #[.bool false, .slice none 0 0, .slice none 0 0, .bool false, .slice none 0 0, .slice none 0 0] #[.bool false, .slice none 0 0, .slice none 0 0, .bool false, .slice none 0 0, .slice none 0 0] 86 86).2.1.lt; have hD2 := (boxes2 w1 #[.bool false, .slice none 0 0, .slice none 0 0, .bool false, .slice none 0 0, .slice none 0 0] #[.bool false, .slice none 0 0, .slice none 0 0, .bool false, .slice none 0 0, .slice none 0 0] 86 86).2.2.1.below hb2 (boxes2 w1 #[.bool false, .slice none 0 0, .slice none 0 0, .bool false, .slice none 0 0, .slice none 0 0] #[.bool false, .slice none 0 0, .slice none 0 0, .bool false, .slice none 0 0, .slice none 0 0] 86 86).2.2.1.lt)); have hbl2 := hbl1.trans (hc2.mono hz1); have hz2 := hc2.size; (try have hA2 := hA1.below hc2 hA1.lt); (try have hB2 := hB1.below hc2 hB1.lt); (try have lA1 := hA1.lt); (try have lB1 := hB1.lt); (try have lA2 := hA2.lt); (try have lB2 := hB2.lt); (try have lC2 := hC2.lt); (try have lD2 := hD2.lt); (try obtain ⟨ra0, ra1, ra2, ra3, ra4, ra5, ra6, ra7, ra8, ra9, ra10, ra11⟩ := hA2.all6); (try obtain ⟨rb0, rb1, rb2, rb3, rb4, rb5, rb6, rb7, rb8, rb9, rb10, rb11⟩ := hB2.all6); (try obtain ⟨rc0, rc1, rc2, rc3, rc4, rc5, rc6, rc7, rc8, rc9, rc10, rc11⟩ := hC2.all6); (try obtain ⟨re0, re1, re2, re3, re4, re5, re6, re7, re8, re9, re10, re11⟩ := hD2.all6))
        )
    all_goals
      go_wp2_with fail
      go_meet
      first
        | with_reducible exact Two.new hbl2 (hx1.below hc2) (hy1.below hc2) hx2 hy2
        | with_reducible exact Two.new' hbl2 (hx1.below hc2) (hy1.below hc2) hx2 hy2
        | with_reducible exact Two.half hA2 (Nat.le_refl _) hbl2 (hx1.below hc2) (hy1.below hc2) hx2 hy2
        | with_reducible exact Two.half' hA2 (Nat.le_refl _) hbl2 (hx1.below hc2) (hy1.below hc2) hx2 hy2
        | with_reducible exact Two.half hC2 hz1 hbl2 (hx1.below hc2) (hy1.below hc2) hx2 hy2
        | with_reducible exact Two.half' hC2 hz1 hbl2 (hx1.below hc2) (hy1.below hc2) hx2 hy2
        | with_reducible exact Two.both hA2 hB2 (Nat.ne_of_lt (Nat.lt_succ_self _)) (Nat.le_refl _) (Nat.le_succ _) hbl2 (hx1.below hc2) (hy1.below hc2) hx2 hy2
        | with_reducible exact Two.both hB2 hA2 (Nat.ne_of_gt (Nat.lt_succ_self _)) (Nat.le_succ _) (Nat.le_refl _) hbl2 (hx1.below hc2) (hy1.below hc2) hx2 hy2
        | with_reducible exact Two.both hA2 hC2 (Nat.ne_of_lt lA1) (Nat.le_refl _) hz1 hbl2 (hx1.below hc2) (hy1.below hc2) hx2 hy2
        | with_reducible exact Two.both hC2 hA2 (Nat.ne_of_gt lA1) hz1 (Nat.le_refl _) hbl2 (hx1.below hc2) (hy1.below hc2) hx2 hy2
        | with_reducible exact Two.both hC2 hD2 (Nat.ne_of_lt (Nat.lt_succ_self _)) hz1 (Nat.le_succ_of_le hz1) hbl2 (hx1.below hc2) (hy1.below hc2) hx2 hy2
        | with_reducible exact Two.both hD2 hC2 (Nat.ne_of_gt (Nat.lt_succ_self _)) (Nat.le_succ_of_le hz1) hz1 hbl2 (hx1.below hc2) (hy1.below hc2) hx2 hy2
  case rest =>
    obtain ⟨G, H, rfl, rfl, hG, hH, hbl, d, e, f, g, hkG, hkH, hx, hy, hz, ht⟩ := hcut
    have HKG := hideIt hkG
    have HKH := hideIt hkH
    have HX := hideIt hx
    have HY := hideIt hy
    have HZ := hideIt hz
    have HT := hideIt ht
    have HBL := hideIt hbl
    have F1 : Hid (QS 4194309 (rd px.data.toList)) := (QS.rd _).mono (by have := S1.out; omega)
    have F2 : Hid (QS 4194309 (rd py.data.toList)) := (QS.rd _).mono (by have := S2.out; omega)
    have F3 : Hid (QS 4194309 (rd qx.data.toList)) := (QS.rd _).mono (by have := S3.out; omega)
    have F4 : Hid (QS 4194309 (rd qy.data.toList)) := (QS.rd _).mono (by have := S4.out; omega)
    have F5 : Hid (QS (4194309 + 4194309 + 1) (-(rd qy.data.toList - rd py.data.toList))) := (F4.out.sub F2.out).neg
    have F6 : Hid (QS (4194309 + 4194309 + 1) (rd qx.data.toList - rd px.data.toList)) := F3.out.sub F1.out
    have K1 : Hid (4194309 + 4194309 + 1 ≤ 35184372088640) := by show _ ≤ _; omega
    have K2 : Hid (20 * (4194309 + 4194309 + 1 + 4194309 + 1) ≤ 35184372088640) := by show _ ≤ _; omega
    have HTC := hideIt (HTAB.out.below hbl)
    have HS2 : Hid (∀ w', Below wc.heap.size wc w' → w'.cell? ⟨G, 0, none⟩ = some (.bool d.n) ∧ w'.cell? ⟨G, 1, none⟩ = some (.slice d.u d.nu d.cu) ∧ w'.cell? ⟨G, 2, none⟩ = some (.slice d.l d.nl d.cl) ∧ w'.cell? ⟨G, 3, none⟩ = some (.bool e.n) ∧ w'.cell? ⟨G, 4, none⟩ = some (.slice e.u e.nu e.cu) ∧ w'.cell? ⟨G, 5, none⟩ = some (.slice e.l e.nl e.cl) ∧ w'.cell? ⟨H, 0, none⟩ = some (.bool f.n) ∧ w'.cell? ⟨H, 1, none⟩ = some (.slice f.u f.nu f.cu) ∧ w'.cell? ⟨H, 2, none⟩ = some (.slice f.l f.nl f.cl) ∧ w'.cell? ⟨H, 3, none⟩ = some (.bool g.n) ∧ w'.cell? ⟨H, 4, none⟩ = some (.slice g.u g.nu g.cu) ∧ w'.cell? ⟨H, 5, none⟩ = some (.slice g.l g.nl g.cl)) := fun w' hb => ⟨(HKG.out.below hb HKG.out.lt).cell 0, (HKG.out.below hb HKG.out.lt).cell 1, (HKG.out.below hb HKG.out.lt).cell 2, (HKG.out.below hb HKG.out.lt).cell 3, (HKG.out.below hb HKG.out.lt).cell 4, (HKG.out.below hb HKG.out.lt).cell 5, (HKH.out.below hb HKH.out.lt).cell 0, (HKH.out.below hb HKH.out.lt).cell 1, (HKH.out.below hb HKH.out.lt).cell 2, (HKH.out.below hb HKH.out.lt).cell 3, (HKH.out.below hb HKH.out.lt).cell 4, (HKH.out.below hb HKH.out.lt).cell 5⟩
    have HRS : Hid (w.heap.size + 1 + 1 ≠ G ∧ w.heap.size + 1 + 1 ≠ H) := by
      have := HSZ.out
      show _ ∧ _
      omega
    have HSS2 : Hid (∀ w', Below wc.heap.size wc w' → ∀ x0 x1 x2 : Value, (((w'.setCell ⟨w.heap.size + 1 + 1, 0, none⟩ (x0)).setCell ⟨w.heap.size + 1 + 1, 1, none⟩ (x1)).setCell ⟨w.heap.size + 1 + 1, 2, none⟩ (x2)).cell? ⟨G, 0, none⟩ = some (.bool d.n) ∧ (((w'.setCell ⟨w.heap.size + 1 + 1, 0, none⟩ (x0)).setCell ⟨w.heap.size + 1 + 1, 1, none⟩ (x1)).setCell ⟨w.heap.size + 1 + 1, 2, none⟩ (x2)).cell? ⟨G, 1, none⟩ = some (.slice d.u d.nu d.cu) ∧ (((w'.setCell ⟨w.heap.size + 1 + 1, 0, none⟩ (x0)).setCell ⟨w.heap.size + 1 + 1, 1, none⟩ (x1)).setCell ⟨w.heap.size + 1 + 1, 2, none⟩ (x2)).cell? ⟨G, 2, none⟩ = some (.slice d.l d.nl d.cl) ∧ (((w'.setCell ⟨w.heap.size + 1 + 1, 0, none⟩ (x0)).setCell ⟨w.heap.size + 1 + 1, 1, none⟩ (x1)).setCell ⟨w.heap.size + 1 + 1, 2, none⟩ (x2)).cell? ⟨G, 3, none⟩ = some (.bool e.n) ∧ (((w'.setCell ⟨w.heap.size + 1 + 1, 0, none⟩ (x0)).setCell ⟨w.heap.size + 1 + 1, 1, none⟩ (x1)).setCell ⟨w.heap.size + 1 + 1, 2, none⟩ (x2)).cell? ⟨G, 4, none⟩ = some (.slice e.u e.nu e.cu) ∧ (((w'.setCell ⟨w.heap.size + 1 + 1, 0, none⟩ (x0)).setCell ⟨w.heap.size + 1 + 1, 1, none⟩ (x1)).setCell ⟨w.heap.size + 1 + 1, 2, none⟩ (x2)).cell? ⟨G, 5, none⟩ = some (.slice e.l e.nl e.cl) ∧ (((w'.setCell ⟨w.heap.size + 1 + 1, 0, none⟩ (x0)).setCell ⟨w.heap.size + 1 + 1, 1, none⟩ (x1)).setCell ⟨w.heap.size + 1 + 1, 2, none⟩ (x2)).cell? ⟨H, 0, none⟩ = some (.bool f.n) ∧ (((w'.setCell ⟨w.heap.size + 1 + 1, 0, none⟩ (x0)).setCell ⟨w.heap.size + 1 + 1, 1, none⟩ (x1)).setCell ⟨w.heap.size + 1 + 1, 2, none⟩ (x2)).cell? ⟨H, 1, none⟩ = some (.slice f.u f.nu f.cu) ∧ (((w'.setCell ⟨w.heap.size + 1 + 1, 0, none⟩ (x0)).setCell ⟨w.heap.size + 1 + 1, 1, none⟩ (x1)).setCell ⟨w.heap.size + 1 + 1, 2, none⟩ (x2)).cell? ⟨H, 2, none⟩ = some (.slice f.l f.nl f.cl) ∧ (((w'.setCell ⟨w.heap.size + 1 + 1, 0, none⟩ (x0)).setCell ⟨w.heap.size + 1 + 1, 1, none⟩ (x1)).setCell ⟨w.heap.size + 1 + 1, 2, none⟩ (x2)).cell? ⟨H, 3, none⟩ = some (.bool g.n) ∧ (((w'.setCell ⟨w.heap.size + 1 + 1, 0, none⟩ (x0)).setCell ⟨w.heap.size + 1 + 1, 1, none⟩ (x1)).setCell ⟨w.heap.size + 1 + 1, 2, none⟩ (x2)).cell? ⟨H, 4, none⟩ = some (.slice g.u g.nu g.cu) ∧ (((w'.setCell ⟨w.heap.size + 1 + 1, 0, none⟩ (x0)).setCell ⟨w.heap.size + 1 + 1, 1, none⟩ (x1)).setCell ⟨w.heap.size + 1 + 1, 2, none⟩ (x2)).cell? ⟨H, 5, none⟩ = some (.slice g.l g.nl g.cl)) := fun w' hb x0 x1 x2 => ⟨((HKG.out.below hb HKG.out.lt).off3 (g := w.heap.size + 1 + 1) HRS.out.1 x0 x1 x2).cell 0, ((HKG.out.below hb HKG.out.lt).off3 (g := w.heap.size + 1 + 1) HRS.out.1 x0 x1 x2).cell 1, ((HKG.out.below hb HKG.out.lt).off3 (g := w.heap.size + 1 + 1) HRS.out.1 x0 x1 x2).cell 2, ((HKG.out.below hb HKG.out.lt).off3 (g := w.heap.size + 1 + 1) HRS.out.1 x0 x1 x2).cell 3, ((HKG.out.below hb HKG.out.lt).off3 (g := w.heap.size + 1 + 1) HRS.out.1 x0 x1 x2).cell 4, ((HKG.out.below hb HKG.out.lt).off3 (g := w.heap.size + 1 + 1) HRS.out.1 x0 x1 x2).cell 5, ((HKH.out.below hb HKH.out.lt).off3 (g := w.heap.size + 1 + 1) HRS.out.2 x0 x1 x2).cell 0, ((HKH.out.below hb HKH.out.lt).off3 (g := w.heap.size + 1 + 1) HRS.out.2 x0 x1 x2).cell 1, ((HKH.out.below hb HKH.out.lt).off3 (g := w.heap.size + 1 + 1) HRS.out.2 x0 x1 x2).cell 2, ((HKH.out.below hb HKH.out.lt).off3 (g := w.heap.size + 1 + 1) HRS.out.2 x0 x1 x2).cell 3, ((HKH.out.below hb HKH.out.lt).off3 (g := w.heap.size + 1 + 1) HRS.out.2 x0 x1 x2).cell 4, ((HKH.out.below hb HKH.out.lt).off3 (g := w.heap.size + 1 + 1) HRS.out.2 x0 x1 x2).cell 5⟩
    have HKR := hideIt (HK2.out.below hbl (by rw [HSZ.out]; omega))
    clear hkG hkH hx hy hz ht hbl hG hH z0 z1 z2 z3
    obtain ⟨z0, z1, z2, z3, z4, z5, z6, z7, z8, z9, z10, z11⟩ := HS2.out wc (Below.refl _ _)
    go_wp2_with fail
    go_region_held3 (fun w' => w'.cell? ⟨G, 0, none⟩ = some (.bool d.n) ∧ w'.cell? ⟨G, 1, none⟩ = some (.slice d.u d.nu d.cu) ∧ w'.cell? ⟨G, 2, none⟩ = some (.slice d.l d.nl d.cl) ∧ w'.cell? ⟨G, 3, none⟩ = some (.bool e.n) ∧ w'.cell? ⟨G, 4, none⟩ = some (.slice e.u e.nu e.cu) ∧ w'.cell? ⟨G, 5, none⟩ = some (.slice e.l e.nl e.cl) ∧ w'.cell? ⟨H, 0, none⟩ = some (.bool f.n) ∧ w'.cell? ⟨H, 1, none⟩ = some (.slice f.u f.nu f.cu) ∧ w'.cell? ⟨H, 2, none⟩ = some (.slice f.l f.nl f.cl) ∧ w'.cell? ⟨H, 3, none⟩ = some (.bool g.n) ∧ w'.cell? ⟨H, 4, none⟩ = some (.slice g.u g.nu g.cu) ∧ w'.cell? ⟨H, 5, none⟩ = some (.slice g.l g.nl g.cl)) (first | go_keep | exact hs1 | exact hs2 | exact hs3 | exact hkS)
      (first
        | (go_at_call 64; refine (wayMinus_calls (w := wc.drew) ⟨f, g, rfl, HZ.out.below (Below.drew (Below.refl _ _)), HT.out.below (Below.drew (Below.refl _ _))⟩ ⟨d, e, rfl, HX.out.below (Below.drew (Below.refl _ _)), HY.out.below (Below.drew (Below.refl _ _))⟩ F3.out F4.out F1.out F2.out K1.out).mono ?_; rintro _ w1 ⟨hb1, v1, rfl, hv1⟩; have hw1 := hv1; obtain ⟨d1, e1, rfl, hx1, hy1⟩ := hw1; have hbl1 : Below wc.heap.size wc w1 := (Below.drew (Below.refl _ wc)).trans hb1; have hs1 := HS2.out w1 hbl1)
        | (go_at_call 65; refine (wayLeft_calls hv1).mono ?_; rintro _ w2 ⟨hb2, v2, rfl, hv2⟩; have hw2 := hv2; obtain ⟨d2, e2, rfl, hx2, hy2⟩ := hw2; have hbl2 := hbl1.trans (hb2.mono hbl1.size); have hs2 := HS2.out w2 hbl2)
        | (go_at_call 63; refine (square_ans ⟨d, e, rfl, HX.out.below hbl2, HY.out.below hbl2⟩ hv2 F5.out F6.out F1.out F2.out K2.out (HTC.out.below hbl2)).mono ?_; rintro _ w3 ⟨hb3, sa, sb, sc, z, rfl, hans⟩; have hbl3 := hbl2.trans (hb3.mono hbl2.size); have hs3 := HS2.out w3 hbl3; have hkr := HKR.out.below hbl3 HKR.out.lt; obtain ⟨r0, r1, r2, j0, j1, j2⟩ := hkr.all3; have hkS := HSS2.out w3 hbl3 (.string sa) (.string sb) (.string sc); have HANS := hideIt hans; clear hans)
        )
    all_goals
      go_wp2
      obtain ⟨k0, k1, k2, _⟩ := (hkr.put3 (.string sa) (.string sb) (.string sc)).all3
      exact bodyPost_ret (v := .tuple #[.agg #[.string sa, .string sb, .string sc], .int .i64 z]) (by simp [results, Tryz.results15, go_sem, k0, k1, k2]) rfl ⟨Below.put3 (HB0.out.trans ((HBL.out.trans (hbl3.mono HBL.out.size)).mono HB0.out.size)) (by omega) _ _ _, sa, sb, sc, z, rfl, HANS.out⟩
theorem through_calls {w : World} {va vb : Value} {px py qx qy : List UInt8} (ha : PV va px py) (hb : PV vb qx qy) (s1 : px.length ≤ 1048576) (s2 : py.length ≤ 1048576) (s3 : qx.length ≤ 1048576) (s4 : qy.length ≤ 1048576) (tab : Tab w) :
    Calls Tryz.prog 15 #[va, vb] w fun e w' => Below w.heap.size w w' ∧ ∃ (sa sb sc : ByteArray) (z : Int), e = .returned (.tuple #[.agg #[.string sa, .string sb, .string sc], .int .i64 z]) ∧ LineAns (-(rd qy - rd py)) (rd qx - rd px) (-(-(rd qy - rd py) * rd px + (rd qx - rd px) * rd py)) sa.data.toList sb.data.toList sc.data.toList z := by
  obtain ⟨a, b, rfl, rfl, rfl⟩ := ha
  obtain ⟨c, d, rfl, rfl, rfl⟩ := hb
  exact through_walk s1 s2 s3 s4 tab
end Go.Proofs.YtgajdmadbdbabaaGreatDoor
/- WAN -/
namespace Go.Proofs.YtgajdmadbdbabaaGreatDoor
open Go.RowKit Cx
attribute [local go_sem ↓] Go.wp_at_zero Go.wp_at_succ
theorem answer_walk {w : World} {a b : C3} {x y : Rat} {z : Int} (ha : QV w (.agg #[.bool a.n, .slice a.u a.nu a.cu, .slice a.l a.nl a.cl]) x) (hb : QV w (.agg #[.bool b.n, .slice b.u b.nu b.cu, .slice b.l b.nl b.cl]) y) {k : Nat} (f : z = 0 → QS k x ∧ QS k y) (hk : k ≤ 35184372088640) (tab : Tab w) :
    Calls Tryz.prog 73 #[.agg #[.bool a.n, .slice a.u a.nu a.cu, .slice a.l a.nl a.cl, .bool b.n, .slice b.u b.nu b.cu, .slice b.l b.nl b.cl], .int .i64 z] w fun e w' => Below w.heap.size w w' ∧ ∃ (sa sb : ByteArray), e = .returned (.tuple #[.agg #[.string sa, .string sb], .int .i64 z]) ∧ (z = 0 → sa.data.toList = tx x ∧ sb.data.toList = tx y) ∧ (z ≠ 0 → sa = ⟨#[]⟩ ∧ sb = ⟨#[]⟩) := by
  obtain ⟨hb0, hk0, hk1, hsz⟩ := boxes2 w #[.bool a.n, .slice a.u a.nu a.cu, .slice a.l a.nl a.cl, .bool b.n, .slice b.u b.nu b.cu, .slice b.l b.nl b.cl] #[.string ⟨#[]⟩, .string ⟨#[]⟩] 86 24
  have HB0 := hideIt hb0
  have HSZ := hideIt hsz
  have HK0 := hideIt hk0
  have HK1 := hideIt hk1
  have HTAB := hideIt (tab.below hb0)
  have HA := hideIt (ha.below hb0)
  have HB := hideIt (hb.below hb0)
  have HF := hideIt f
  have HK := hideIt hk
  clear hb0 hsz hk0 hk1 tab ha hb f hk
  by_cases hz : z = 0
  · subst hz
    have FX := hideIt (HF.out rfl)
    go_enter Tryz.func73, Tryz.ntmps73
    go_wp2_with fail
    generalize ((w.alloc (.cells #[.bool a.n, .slice a.u a.nu a.cu, .slice a.l a.nl a.cl, .bool b.n, .slice b.u b.nu b.cu, .slice b.l b.nl b.cl] 86)).alloc (.cells #[.string ⟨#[]⟩, .string ⟨#[]⟩] 24)) = W0 at *
    refine (wayText_calls ⟨a, b, rfl, HA.out, HB.out⟩ FX.out.1 FX.out.2 HK.out HTAB.out).mono ?_
    rintro _ w1 ⟨hb1, v, rfl, sa, sb, rfl, ta, tb⟩
    have HT := hideIt (And.intro ta tb)
    have HBL := hideIt (HB0.out.trans (hb1.mono HB0.out.size))
    have hkr := HK1.out.below hb1 (by rw [HSZ.out]; omega)
    obtain ⟨r0, r1, j0, j1⟩ := hkr.all2
    clear ta tb hb1
    go_wp2
    obtain ⟨k0, k1, _⟩ := (hkr.put2 (.string sa) (.string sb)).all2
    exact bodyPost_ret (v := .tuple #[.agg #[.string sa, .string sb], .int .i64 0]) (by simp [results, Tryz.results73, go_sem, k0, k1]) rfl ⟨Below.put2 HBL.out (by omega) _ _, sa, sb, rfl, fun _ => HT.out, fun h => absurd rfl h⟩
  · have hne : (z != 0) = true := by simpa using hz
    have HZ := hideIt hz
    clear hz
    go_enter Tryz.func73, Tryz.ntmps73
    go_wp2_with fail
    generalize ((w.alloc (.cells #[.bool a.n, .slice a.u a.nu a.cu, .slice a.l a.nl a.cl, .bool b.n, .slice b.u b.nu b.cu, .slice b.l b.nl b.cl] 86)).alloc (.cells #[.string ⟨#[]⟩, .string ⟨#[]⟩] 24)) = W0 at *
    obtain ⟨r0, r1, j0, j1⟩ := HK1.out.all2
    go_wp2
    exact bodyPost_ret (v := .tuple #[.agg #[.string ⟨#[]⟩, .string ⟨#[]⟩], .int .i64 z]) (by simp [results, Tryz.results73, go_sem, r0, r1]) rfl ⟨HB0.out, _, _, rfl, fun h => absurd h HZ.out, fun _ => ⟨rfl, rfl⟩⟩
theorem answer_calls {w : World} {va : Value} {x y : Rat} {z : Int} (ha : WV w va x y) {k : Nat} (f : z = 0 → QS k x ∧ QS k y) (hk : k ≤ 35184372088640) (tab : Tab w) :
    Calls Tryz.prog 73 #[va, .int .i64 z] w fun e w' => Below w.heap.size w w' ∧ ∃ (sa sb : ByteArray), e = .returned (.tuple #[.agg #[.string sa, .string sb], .int .i64 z]) ∧ (z = 0 → sa.data.toList = tx x ∧ sb.data.toList = tx y) ∧ (z ≠ 0 → sa = ⟨#[]⟩ ∧ sb = ⟨#[]⟩) := by
  obtain ⟨c1, c2, rfl, h1, h2⟩ := ha
  exact answer_walk h1 h2 f hk tab
end Go.Proofs.YtgajdmadbdbabaaGreatDoor
/- WS -/
namespace Go.Proofs.YtgajdmadbdbabaaGreatDoor
open Go.RowKit Cx
attribute [local go_sem ↓] Go.wp_at_zero Go.wp_at_succ
def PointAns (a b c p q r : Rat) (sa sb : List UInt8) (z : Int) : Prop :=
  (((a = 0 ∧ b = 0) ∨ (p = 0 ∧ q = 0)) ∧ z ≠ 0) ∨ (¬ (a = 0 ∧ b = 0) ∧ ¬ (p = 0 ∧ q = 0) ∧ ∃ x y, MeetAns a b c p q r x y z ∧ (z = 0 → sa = tx x ∧ sb = tx y))
theorem lineMeet_walk {w : World} {la lb lc ma mb mc : ByteArray} (s1 : la.data.toList.length ≤ 4294967296) (s2 : lb.data.toList.length ≤ 4294967296) (s3 : lc.data.toList.length ≤ 4294967296) (s4 : ma.data.toList.length ≤ 4294967296) (s5 : mb.data.toList.length ≤ 4294967296) (s6 : mc.data.toList.length ≤ 4294967296) {k : Nat} (f1 : QS k (rd la.data.toList)) (f2 : QS k (rd lb.data.toList)) (f3 : QS k (rd lc.data.toList)) (f4 : QS k (rd ma.data.toList)) (f5 : QS k (rd mb.data.toList)) (f6 : QS k (rd mc.data.toList)) (hk : 20 * (k + 1) ≤ 35184372088640) (tab : Tab w) :
    Calls Tryz.prog 19 #[.agg #[.string la, .string lb, .string lc], .agg #[.string ma, .string mb, .string mc]] w fun e w' => Below w.heap.size w w' ∧ ∃ (sa sb : ByteArray) (z : Int), e = .returned (.tuple #[.agg #[.string sa, .string sb], .int .i64 z]) ∧ PointAns (rd la.data.toList) (rd lb.data.toList) (rd lc.data.toList) (rd ma.data.toList) (rd mb.data.toList) (rd mc.data.toList) sa.data.toList sb.data.toList z := by
  obtain ⟨hb0, hk0, hk1, hk2, hsz⟩ := boxes3 w #[.string la, .string lb, .string lc] #[.string ma, .string mb, .string mc] #[.string ⟨#[]⟩, .string ⟨#[]⟩] 26 26 24
  have HB0 := hideIt hb0
  have HSZ := hideIt hsz
  have HK1 := hideIt hk1
  have HK2 := hideIt hk2
  have HTAB := hideIt (tab.below hb0)
  have S1 := hideIt s1
  have F1 := hideIt f1
  have S2 := hideIt s2
  have F2 := hideIt f2
  have S3 := hideIt s3
  have F3 := hideIt f3
  have S4 := hideIt s4
  have F4 := hideIt f4
  have S5 := hideIt s5
  have F5 := hideIt f5
  have S6 := hideIt s6
  have F6 := hideIt f6
  have HK := hideIt hk
  clear hb0 hsz hk0 hk1 hk2 tab s1 s2 s3 s4 s5 s6 f1 f2 f3 f4 f5 f6 hk
  go_enter Tryz.func19, Tryz.ntmps19
  go_wp2_with fail
  generalize (((w.alloc (.cells #[.string la, .string lb, .string lc] 26)).alloc (.cells #[.string ma, .string mb, .string mc] 26)).alloc (.cells #[.string ⟨#[]⟩, .string ⟨#[]⟩] 24)) = W0 at *
  refine (rulerRead_calls ⟨la, lb, lc, rfl, rfl, rfl, rfl⟩ S1.out S2.out S3.out).mono ?_
  rintro _ w1 ⟨hb1, ⟨h1, h2, rfl⟩ | ⟨hn, v1, rfl, hv1⟩⟩
  · have HKR := hideIt (HK2.out.below hb1 (by rw [HSZ.out]; omega))
    have HBW := hideIt (HB0.out.trans (hb1.mono HB0.out.size))
    have HH := hideIt (And.intro h1 h2)
    have r0 : ∀ o, (w1.alloc o).cell? ⟨w.heap.size + 1 + 1, 0, none⟩ = some (.string ⟨#[]⟩) := fun o => (HKR.out.old o).cell 0
    have j0 : ∀ o, (w1.alloc o).frozen? ⟨w.heap.size + 1 + 1, 0, none⟩ = false := fun o => (HKR.out.old o).frozen 0
    have r1 : ∀ o, (w1.alloc o).cell? ⟨w.heap.size + 1 + 1, 1, none⟩ = some (.string ⟨#[]⟩) := fun o => (HKR.out.old o).cell 1
    have j1 : ∀ o, (w1.alloc o).frozen? ⟨w.heap.size + 1 + 1, 1, none⟩ = false := fun o => (HKR.out.old o).frozen 1
    obtain ⟨q0, q1, g0, g1⟩ := HKR.out.all2
    have lR := HKR.out.lt
    clear hb1 h1 h2
    go_wp2
    obtain ⟨k0, k1, _⟩ := ((HKR.out.put2 (.string ⟨#[]⟩) (.string ⟨#[]⟩)).old (.cells #[.bool false, .slice none 0 0, .slice none 0 0, .bool false, .slice none 0 0, .slice none 0 0, .bool false, .slice none 0 0, .slice none 0 0] 97)).all2
    have hbf := (Below.put2 HBW.out (g := w.heap.size + 1 + 1) (by omega) (.string ⟨#[]⟩) (.string ⟨#[]⟩))
    exact bodyPost_ret (v := .tuple #[.agg #[.string ⟨#[]⟩, .string ⟨#[]⟩], .int .i64 5]) (by simp [results, Tryz.results19, go_sem, k0, k1]) rfl ⟨hbf.alloc hbf.size _, _, _, _, rfl, Or.inl ⟨Or.inl HH.out, by decide⟩⟩
  · obtain ⟨a, b, c, rfl, hx, hy, hz⟩ := hv1
    have HA := hideIt hx
    have HB := hideIt hy
    have HC := hideIt hz
    have HN := hideIt hn
    have HB1 := hideIt hb1
    have HKM1 := hideIt (HK1.out.below hb1 (by rw [HSZ.out]; omega))
    have m0 : ∀ o, (w1.alloc o).cell? ⟨w.heap.size + 1, 0, none⟩ = some (.string ma) := fun o => (HKM1.out.old o).cell 0
    have m1 : ∀ o, (w1.alloc o).cell? ⟨w.heap.size + 1, 1, none⟩ = some (.string mb) := fun o => (HKM1.out.old o).cell 1
    have m2 : ∀ o, (w1.alloc o).cell? ⟨w.heap.size + 1, 2, none⟩ = some (.string mc) := fun o => (HKM1.out.old o).cell 2
    clear hx hy hz hn hb1
    go_wp2_with fail
    obtain ⟨w2, hw2⟩ : ∃ w2, w2 = w1.alloc (.cells #[.bool a.n, .slice a.u a.nu a.cu, .slice a.l a.nl a.cl, .bool b.n, .slice b.u b.nu b.cu, .slice b.l b.nl b.cl, .bool c.n, .slice c.u c.nu c.cu, .slice c.l c.nl c.cl] 97) := ⟨_, rfl⟩
    have hbA := below_new w1 (.cells #[.bool a.n, .slice a.u a.nu a.cu, .slice a.l a.nl a.cl, .bool b.n, .slice b.u b.nu b.cu, .slice b.l b.nl b.cl, .bool c.n, .slice c.u c.nu c.cu, .slice c.l c.nl c.cl] 97)
    have HKG := hideIt (Blk.new w1 #[.bool a.n, .slice a.u a.nu a.cu, .slice a.l a.nl a.cl, .bool b.n, .slice b.u b.nu b.cu, .slice b.l b.nl b.cl, .bool c.n, .slice c.u c.nu c.cu, .slice c.l c.nl c.cl] 97)
    rw [← hw2] at hbA HKG ⊢
    obtain ⟨G, hG⟩ : ∃ G, G = w1.heap.size := ⟨_, rfl⟩
    rw [← hG] at HKG ⊢
    clear hG hw2
    have HBL : Hid (Below W0.heap.size W0 w2) := HB1.out.trans (hbA.mono HB1.out.size)
    have HA2 := hideIt (HA.out.below hbA)
    have HB2 := hideIt (HB.out.below hbA)
    have HC2 := hideIt (HC.out.below hbA)
    clear hbA m0 m1 m2
    refine (rulerRead_calls ⟨ma, mb, mc, rfl, rfl, rfl, rfl⟩ S4.out S5.out S6.out).mono ?_
    rintro _ w3 ⟨hb3, ⟨h1, h2, rfl⟩ | ⟨hm, v3, rfl, hv3⟩⟩
    · have hbl3 := HBL.out.trans (hb3.mono HBL.out.size)
      have HKR := hideIt (HK2.out.below hbl3 (by rw [HSZ.out]; omega))
      have HBW := hideIt (HB0.out.trans (hbl3.mono HB0.out.size))
      have HH := hideIt (And.intro h1 h2)
      have r0 : ∀ o, (w3.alloc o).cell? ⟨w.heap.size + 1 + 1, 0, none⟩ = some (.string ⟨#[]⟩) := fun o => (HKR.out.old o).cell 0
      have j0 : ∀ o, (w3.alloc o).frozen? ⟨w.heap.size + 1 + 1, 0, none⟩ = false := fun o => (HKR.out.old o).frozen 0
      have r1 : ∀ o, (w3.alloc o).cell? ⟨w.heap.size + 1 + 1, 1, none⟩ = some (.string ⟨#[]⟩) := fun o => (HKR.out.old o).cell 1
      have j1 : ∀ o, (w3.alloc o).frozen? ⟨w.heap.size + 1 + 1, 1, none⟩ = false := fun o => (HKR.out.old o).frozen 1
      obtain ⟨q0, q1, g0, g1⟩ := HKR.out.all2
      have lR := HKR.out.lt
      clear hb3 h1 h2 hbl3
      go_wp2
      obtain ⟨k0, k1, _⟩ := ((HKR.out.put2 (.string ⟨#[]⟩) (.string ⟨#[]⟩)).old (.cells #[.bool false, .slice none 0 0, .slice none 0 0, .bool false, .slice none 0 0, .slice none 0 0, .bool false, .slice none 0 0, .slice none 0 0] 97)).all2
      have hbf := (Below.put2 HBW.out (g := w.heap.size + 1 + 1) (by omega) (.string ⟨#[]⟩) (.string ⟨#[]⟩))
      exact bodyPost_ret (v := .tuple #[.agg #[.string ⟨#[]⟩, .string ⟨#[]⟩], .int .i64 5]) (by simp [results, Tryz.results19, go_sem, k0, k1]) rfl ⟨hbf.alloc hbf.size _, _, _, _, rfl, Or.inl ⟨Or.inr HH.out, by decide⟩⟩
    · obtain ⟨p, q, r, rfl, hx, hy, hz⟩ := hv3
      have HM := hideIt hm
      have HP := hideIt hx
      have HQ := hideIt hy
      have HR := hideIt hz
      have HA3 := hideIt (HA2.out.below hb3)
      have HB3 := hideIt (HB2.out.below hb3)
      have HC3 := hideIt (HC2.out.below hb3)
      have HBL3 := hideIt (HBL.out.trans (hb3.mono HBL.out.size))
      have HKG3 := hideIt (HKG.out.below hb3 HKG.out.lt)
      clear hx hy hz hm hb3
      have y0 : ∀ o, (w3.alloc o).cell? ⟨G, 0, none⟩ = some (.bool a.n) := fun o => (HKG3.out.old o).cell 0
      have y1 : ∀ o, (w3.alloc o).cell? ⟨G, 1, none⟩ = some (.slice a.u a.nu a.cu) := fun o => (HKG3.out.old o).cell 1
      have y2 : ∀ o, (w3.alloc o).cell? ⟨G, 2, none⟩ = some (.slice a.l a.nl a.cl) := fun o => (HKG3.out.old o).cell 2
      have y3 : ∀ o, (w3.alloc o).cell? ⟨G, 3, none⟩ = some (.bool b.n) := fun o => (HKG3.out.old o).cell 3
      have y4 : ∀ o, (w3.alloc o).cell? ⟨G, 4, none⟩ = some (.slice b.u b.nu b.cu) := fun o => (HKG3.out.old o).cell 4
      have y5 : ∀ o, (w3.alloc o).cell? ⟨G, 5, none⟩ = some (.slice b.l b.nl b.cl) := fun o => (HKG3.out.old o).cell 5
      have y6 : ∀ o, (w3.alloc o).cell? ⟨G, 6, none⟩ = some (.bool c.n) := fun o => (HKG3.out.old o).cell 6
      have y7 : ∀ o, (w3.alloc o).cell? ⟨G, 7, none⟩ = some (.slice c.u c.nu c.cu) := fun o => (HKG3.out.old o).cell 7
      have y8 : ∀ o, (w3.alloc o).cell? ⟨G, 8, none⟩ = some (.slice c.l c.nl c.cl) := fun o => (HKG3.out.old o).cell 8
      go_wp2_with fail
      obtain ⟨w4, hw4⟩ : ∃ w4, w4 = w3.alloc (.cells #[.bool p.n, .slice p.u p.nu p.cu, .slice p.l p.nl p.cl, .bool q.n, .slice q.u q.nu q.cu, .slice q.l q.nl q.cl, .bool r.n, .slice r.u r.nu r.cu, .slice r.l r.nl r.cl] 97) := ⟨_, rfl⟩
      have hbA := below_new w3 (.cells #[.bool p.n, .slice p.u p.nu p.cu, .slice p.l p.nl p.cl, .bool q.n, .slice q.u q.nu q.cu, .slice q.l q.nl q.cl, .bool r.n, .slice r.u r.nu r.cu, .slice r.l r.nl r.cl] 97)
      have HKH := hideIt (Blk.new w3 #[.bool p.n, .slice p.u p.nu p.cu, .slice p.l p.nl p.cl, .bool q.n, .slice q.u q.nu q.cu, .slice q.l q.nl q.cl, .bool r.n, .slice r.u r.nu r.cu, .slice r.l r.nl r.cl] 97)
      rw [← hw4] at hbA HKH ⊢
      obtain ⟨H, hH⟩ : ∃ H, H = w3.heap.size := ⟨_, rfl⟩
      rw [← hH] at HKH ⊢
      clear hH hw4
      have HBL4 : Hid (Below W0.heap.size W0 w4) := HBL3.out.trans (hbA.mono HBL3.out.size)
      refine (rulerMeet_calls ⟨a, b, c, rfl, HA3.out.below hbA, HB3.out.below hbA, HC3.out.below hbA⟩ ⟨p, q, r, rfl, HP.out.below hbA, HQ.out.below hbA, HR.out.below hbA⟩ F1.out F2.out F3.out F4.out F5.out F6.out HK.out).mono ?_
      rintro _ w5 ⟨hb5, v5, z, x, y, rfl, hv5, hans⟩
      obtain ⟨d, e, rfl, hx5, hy5⟩ := hv5
      have hbl5 := HBL4.out.trans (hb5.mono HBL4.out.size)
      have HKR := hideIt (HK2.out.below hbl5 (by rw [HSZ.out]; omega))
      have HBW := hideIt (HB0.out.trans (hbl5.mono HB0.out.size))
      have HTC := hideIt (HTAB.out.below hbl5)
      have HX5 := hideIt hx5
      have HY5 := hideIt hy5
      have HANS := hideIt hans
      clear hbA y0 y1 y2 y3 y4 y5 y6 y7 y8 hb5 hbl5 hx5 hy5
      have FA : Hid (z = 0 → QS (k + k + (k + k) + 1 + (k + k + (k + k) + 1)) x ∧ QS (k + k + (k + k) + 1 + (k + k + (k + k) + 1)) y) := by
        intro hz
        rcases hans with ⟨ht, _, hxe, hye⟩ | ⟨_, hz0⟩
        · rw [hxe, hye]
          exact ⟨(((F5.out.mul F3.out).sub (F2.out.mul F6.out)).neg).div ((F1.out.mul F5.out).sub (F2.out.mul F4.out)), ((F4.out.mul F3.out).sub (F1.out.mul F6.out)).div ((F1.out.mul F5.out).sub (F2.out.mul F4.out))⟩
        · exact absurd hz hz0
      have K3 : Hid (k + k + (k + k) + 1 + (k + k + (k + k) + 1) ≤ 35184372088640) := by have := HK.out; show _ ≤ _; omega
      clear hans
      go_wp2_with fail
      refine (answer_calls (z := z) ⟨d, e, rfl, HX5.out, HY5.out⟩ FA.out K3.out HTC.out).mono ?_
      rintro _ w6 ⟨hb6, sa, sb, rfl, hok, hno⟩
      have hkr := HKR.out.below hb6 HKR.out.lt
      obtain ⟨q0, q1, g0, g1⟩ := hkr.all2
      have HT := hideIt hok
      have hbf := hideIt (HBW.out.trans (hb6.mono HBW.out.size))
      clear hok hno hb6
      go_wp2
      obtain ⟨k0, k1, _⟩ := (hkr.put2 (.string sa) (.string sb)).all2
      exact bodyPost_ret (v := .tuple #[.agg #[.string sa, .string sb], .int .i64 z]) (by simp [results, Tryz.results19, go_sem, k0, k1]) rfl ⟨Below.put2 hbf.out (by omega) _ _, sa, sb, z, rfl, Or.inr ⟨HN.out, HM.out, x, y, HANS.out, HT.out⟩⟩
theorem lineMeet_calls {w : World} {va vb : Value} {la lb lc ma mb mc : List UInt8} (ha : TV va la lb lc) (hb : TV vb ma mb mc) (s1 : la.length ≤ 4294967296) (s2 : lb.length ≤ 4294967296) (s3 : lc.length ≤ 4294967296) (s4 : ma.length ≤ 4294967296) (s5 : mb.length ≤ 4294967296) (s6 : mc.length ≤ 4294967296) {k : Nat} (f1 : QS k (rd la)) (f2 : QS k (rd lb)) (f3 : QS k (rd lc)) (f4 : QS k (rd ma)) (f5 : QS k (rd mb)) (f6 : QS k (rd mc)) (hk : 20 * (k + 1) ≤ 35184372088640) (tab : Tab w) :
    Calls Tryz.prog 19 #[va, vb] w fun e w' => Below w.heap.size w w' ∧ ∃ (sa sb : ByteArray) (z : Int), e = .returned (.tuple #[.agg #[.string sa, .string sb], .int .i64 z]) ∧ PointAns (rd la) (rd lb) (rd lc) (rd ma) (rd mb) (rd mc) sa.data.toList sb.data.toList z := by
  obtain ⟨a, b, c, rfl, rfl, rfl, rfl⟩ := ha
  obtain ⟨d, e, f, rfl, rfl, rfl, rfl⟩ := hb
  exact lineMeet_walk s1 s2 s3 s4 s5 s6 f1 f2 f3 f4 f5 f6 hk tab
end Go.Proofs.YtgajdmadbdbabaaGreatDoor
/- WT -/
namespace Go.Proofs.YtgajdmadbdbabaaGreatDoor
open Go.RowKit Cx
attribute [local go_sem ↓] Go.wp_at_zero Go.wp_at_succ
def DropAns (a b c x y t : Rat) (sa sb : List UInt8) (z : Int) : Prop :=
  (a = 0 ∧ b = 0 ∧ z = 5 ∧ sa = [] ∧ sb = []) ∨ (¬ (a = 0 ∧ b = 0) ∧ z = 0 ∧ sa = tx (x + a * -(a * x + b * y + c) / (a * a + b * b) * t) ∧ sb = tx (y + b * -(a * x + b * y + c) / (a * a + b * b) * t))
theorem dropped_walk {w : World} {la lb lc px py : ByteArray} {f : C3} {t : Rat} (ht : QV w (.agg #[.bool f.n, .slice f.u f.nu f.cu, .slice f.l f.nl f.cl]) t) (s1 : la.data.toList.length ≤ 4294967296) (s2 : lb.data.toList.length ≤ 4294967296) (s3 : lc.data.toList.length ≤ 4294967296) (s4 : px.data.toList.length ≤ 4294967296) (s5 : py.data.toList.length ≤ 4294967296) {k : Nat} (f1 : QS k (rd la.data.toList)) (f2 : QS k (rd lb.data.toList)) (f3 : QS k (rd lc.data.toList)) (f4 : QS k (rd px.data.toList)) (f5 : QS k (rd py.data.toList)) (f6 : QS k t) (hk : 100 * (k + 1) ≤ 35184372088640) (tab : Tab w) :
    Calls Tryz.prog 75 #[.agg #[.string la, .string lb, .string lc], .agg #[.string px, .string py], .agg #[.bool f.n, .slice f.u f.nu f.cu, .slice f.l f.nl f.cl]] w fun e w' => Below w.heap.size w w' ∧ ∃ (sa sb : ByteArray) (z : Int), e = .returned (.tuple #[.agg #[.string sa, .string sb], .int .i64 z]) ∧ DropAns (rd la.data.toList) (rd lb.data.toList) (rd lc.data.toList) (rd px.data.toList) (rd py.data.toList) t sa.data.toList sb.data.toList z := by
  obtain ⟨hb0, hk0, hk1, hk2, hk3, hsz⟩ := boxes4 w #[.string la, .string lb, .string lc] #[.string px, .string py] #[.bool f.n, .slice f.u f.nu f.cu, .slice f.l f.nl f.cl] #[.string ⟨#[]⟩, .string ⟨#[]⟩] 26 24 84 24
  have HB0 := hideIt hb0
  have HSZ := hideIt hsz
  have HK1 := hideIt hk1
  have HK2 := hideIt hk2
  have HK3 := hideIt hk3
  have HTAB := hideIt (tab.below hb0)
  have HT0 := hideIt (ht.below hb0)
  have S1 := hideIt s1
  have F1 := hideIt f1
  have S2 := hideIt s2
  have F2 := hideIt f2
  have S3 := hideIt s3
  have F3 := hideIt f3
  have S4 := hideIt s4
  have F4 := hideIt f4
  have S5 := hideIt s5
  have F5 := hideIt f5
  have F6 := hideIt f6
  have HK := hideIt hk
  clear hb0 hsz hk0 hk1 hk2 hk3 tab ht s1 s2 s3 s4 s5 f1 f2 f3 f4 f5 f6 hk
  have Q1 : Hid (30 * (k + k + 1) ≤ 35184372088640) := by have := HK.out; show _ ≤ _; omega
  have FV : Hid (QS (k + k + (k + k) + 1 + k + 1) (-((rd la.data.toList) * (rd px.data.toList) + (rd lb.data.toList) * (rd py.data.toList) + (rd lc.data.toList)))) := (((F1.out.mul F4.out).add (F2.out.mul F5.out)).add F3.out).neg
  have FN : Hid (QS (k + k + (k + k) + 1) ((rd la.data.toList) * (rd la.data.toList) + (rd lb.data.toList) * (rd lb.data.toList))) := (F1.out.mul F1.out).add (F2.out.mul F2.out)
  have FDX : Hid (QS (k + (k + k + (k + k) + 1 + k + 1) + (k + k + (k + k) + 1)) ((rd la.data.toList) * -((rd la.data.toList) * (rd px.data.toList) + (rd lb.data.toList) * (rd py.data.toList) + (rd lc.data.toList)) / ((rd la.data.toList) * (rd la.data.toList) + (rd lb.data.toList) * (rd lb.data.toList)))) := (F1.out.mul FV.out).div FN.out
  have FDY : Hid (QS (k + (k + k + (k + k) + 1 + k + 1) + (k + k + (k + k) + 1)) ((rd lb.data.toList) * -((rd la.data.toList) * (rd px.data.toList) + (rd lb.data.toList) * (rd py.data.toList) + (rd lc.data.toList)) / ((rd la.data.toList) * (rd la.data.toList) + (rd lb.data.toList) * (rd lb.data.toList)))) := (F2.out.mul FV.out).div FN.out
  have Q2 : Hid (k + (k + k + (k + k) + 1 + k + 1) + (k + k + (k + k) + 1) + k + 1 ≤ 35184372088640) := by have := HK.out; show _ ≤ _; omega
  have FTX : Hid (QS (k + (k + k + (k + k) + 1 + k + 1) + (k + k + (k + k) + 1) + k) (((rd la.data.toList) * -((rd la.data.toList) * (rd px.data.toList) + (rd lb.data.toList) * (rd py.data.toList) + (rd lc.data.toList)) / ((rd la.data.toList) * (rd la.data.toList) + (rd lb.data.toList) * (rd lb.data.toList))) * t)) := FDX.out.mul F6.out
  have FTY : Hid (QS (k + (k + k + (k + k) + 1 + k + 1) + (k + k + (k + k) + 1) + k) (((rd lb.data.toList) * -((rd la.data.toList) * (rd px.data.toList) + (rd lb.data.toList) * (rd py.data.toList) + (rd lc.data.toList)) / ((rd la.data.toList) * (rd la.data.toList) + (rd lb.data.toList) * (rd lb.data.toList))) * t)) := FDY.out.mul F6.out
  have A1 : Hid (∀ q ∈ [((rd px.data.toList), (rd py.data.toList)), (((rd la.data.toList) * -((rd la.data.toList) * (rd px.data.toList) + (rd lb.data.toList) * (rd py.data.toList) + (rd lc.data.toList)) / ((rd la.data.toList) * (rd la.data.toList) + (rd lb.data.toList) * (rd lb.data.toList))) * t, ((rd lb.data.toList) * -((rd la.data.toList) * (rd px.data.toList) + (rd lb.data.toList) * (rd py.data.toList) + (rd lc.data.toList)) / ((rd la.data.toList) * (rd la.data.toList) + (rd lb.data.toList) * (rd lb.data.toList))) * t)].map Prod.fst, QS (k + (k + k + (k + k) + 1 + k + 1) + (k + k + (k + k) + 1) + k) q) := all2 (F4.out.mono (by omega)) FTX.out
  have A2 : Hid (∀ q ∈ [((rd px.data.toList), (rd py.data.toList)), (((rd la.data.toList) * -((rd la.data.toList) * (rd px.data.toList) + (rd lb.data.toList) * (rd py.data.toList) + (rd lc.data.toList)) / ((rd la.data.toList) * (rd la.data.toList) + (rd lb.data.toList) * (rd lb.data.toList))) * t, ((rd lb.data.toList) * -((rd la.data.toList) * (rd px.data.toList) + (rd lb.data.toList) * (rd py.data.toList) + (rd lc.data.toList)) / ((rd la.data.toList) * (rd la.data.toList) + (rd lb.data.toList) * (rd lb.data.toList))) * t)].map Prod.snd, QS (k + (k + k + (k + k) + 1 + k + 1) + (k + k + (k + k) + 1) + k) q) := all2 (F5.out.mono (by omega)) FTY.out
  have Q3 : Hid (2 * (k + (k + k + (k + k) + 1 + k + 1) + (k + k + (k + k) + 1) + k + 1) + 1 ≤ 35184372088640) := by have := HK.out; show _ ≤ _; omega
  have Q4 : Hid (k + (k + (k + k + (k + k) + 1 + k + 1) + (k + k + (k + k) + 1) + k) + 1 ≤ 35184372088640) := by have := HK.out; show _ ≤ _; omega
  go_enter Tryz.func75, Tryz.ntmps75
  go_wp2_with fail
  generalize ((((w.alloc (.cells #[.string la, .string lb, .string lc] 26)).alloc (.cells #[.string px, .string py] 24)).alloc (.cells #[.bool f.n, .slice f.u f.nu f.cu, .slice f.l f.nl f.cl] 84)).alloc (.cells #[.string ⟨#[]⟩, .string ⟨#[]⟩] 24)) = W0 at *
  refine (rulerRead_calls ⟨la, lb, lc, rfl, rfl, rfl, rfl⟩ S1.out S2.out S3.out).mono ?_
  rintro _ w1 ⟨hb1, ⟨h1, h2, rfl⟩ | ⟨hn, v1, rfl, hv1⟩⟩
  · have HKR := hideIt (HK3.out.below hb1 (by rw [HSZ.out]; omega))
    have HBW := hideIt (HB0.out.trans (hb1.mono HB0.out.size))
    have HH := hideIt (And.intro h1 h2)
    have r0 : ∀ o, (w1.alloc o).cell? ⟨w.heap.size + 1 + 1 + 1, 0, none⟩ = some (.string ⟨#[]⟩) := fun o => (HKR.out.old o).cell 0
    have j0 : ∀ o, (w1.alloc o).frozen? ⟨w.heap.size + 1 + 1 + 1, 0, none⟩ = false := fun o => (HKR.out.old o).frozen 0
    have r1 : ∀ o, (w1.alloc o).cell? ⟨w.heap.size + 1 + 1 + 1, 1, none⟩ = some (.string ⟨#[]⟩) := fun o => (HKR.out.old o).cell 1
    have j1 : ∀ o, (w1.alloc o).frozen? ⟨w.heap.size + 1 + 1 + 1, 1, none⟩ = false := fun o => (HKR.out.old o).frozen 1
    obtain ⟨q0, q1, g0, g1⟩ := HKR.out.all2
    have lR := HKR.out.lt
    clear hb1 h1 h2
    go_wp2
    obtain ⟨k0, k1, _⟩ := ((HKR.out.put2 (.string ⟨#[]⟩) (.string ⟨#[]⟩)).old (.cells #[.bool false, .slice none 0 0, .slice none 0 0, .bool false, .slice none 0 0, .slice none 0 0, .bool false, .slice none 0 0, .slice none 0 0] 97)).all2
    have hbf := (Below.put2 HBW.out (g := w.heap.size + 1 + 1 + 1) (by omega) (.string ⟨#[]⟩) (.string ⟨#[]⟩))
    exact bodyPost_ret (v := .tuple #[.agg #[.string ⟨#[]⟩, .string ⟨#[]⟩], .int .i64 5]) (by simp [results, Tryz.results75, go_sem, k0, k1]) rfl ⟨hbf.alloc hbf.size _, _, _, _, rfl, Or.inl ⟨HH.out.1, HH.out.2, rfl, rfl, rfl⟩⟩
  · obtain ⟨a, b, c, rfl, hx, hy, hz⟩ := hv1
    have HA := hideIt hx
    have HB := hideIt hy
    have HC := hideIt hz
    have HN := hideIt hn
    have HB1 := hideIt hb1
    have HKM1 := hideIt (HK1.out.below hb1 (by rw [HSZ.out]; omega))
    have m0 : ∀ o, (w1.alloc o).cell? ⟨w.heap.size + 1, 0, none⟩ = some (.string px) := fun o => (HKM1.out.old o).cell 0
    have m1 : ∀ o, (w1.alloc o).cell? ⟨w.heap.size + 1, 1, none⟩ = some (.string py) := fun o => (HKM1.out.old o).cell 1
    clear hx hy hz hn hb1
    go_wp2_with fail
    obtain ⟨w2, hw2⟩ : ∃ w2, w2 = w1.alloc (.cells #[.bool a.n, .slice a.u a.nu a.cu, .slice a.l a.nl a.cl, .bool b.n, .slice b.u b.nu b.cu, .slice b.l b.nl b.cl, .bool c.n, .slice c.u c.nu c.cu, .slice c.l c.nl c.cl] 97) := ⟨_, rfl⟩
    have hbA := below_new w1 (.cells #[.bool a.n, .slice a.u a.nu a.cu, .slice a.l a.nl a.cl, .bool b.n, .slice b.u b.nu b.cu, .slice b.l b.nl b.cl, .bool c.n, .slice c.u c.nu c.cu, .slice c.l c.nl c.cl] 97)
    have HKG := hideIt (Blk.new w1 #[.bool a.n, .slice a.u a.nu a.cu, .slice a.l a.nl a.cl, .bool b.n, .slice b.u b.nu b.cu, .slice b.l b.nl b.cl, .bool c.n, .slice c.u c.nu c.cu, .slice c.l c.nl c.cl] 97)
    rw [← hw2] at hbA HKG ⊢
    obtain ⟨G, hG⟩ : ∃ G, G = w1.heap.size := ⟨_, rfl⟩
    rw [← hG] at HKG ⊢
    clear hG hw2
    have HBL : Hid (Below W0.heap.size W0 w2) := HB1.out.trans (hbA.mono HB1.out.size)
    have HA2 := hideIt (HA.out.below hbA)
    have HB2 := hideIt (HB.out.below hbA)
    have HC2 := hideIt (HC.out.below hbA)
    clear hbA m0 m1
    refine (wayRead_calls ⟨px, py, rfl, rfl, rfl⟩ S4.out S5.out).mono ?_
    rintro _ w3 ⟨hb3, v3, rfl, hv3⟩
    obtain ⟨d, e, rfl, hx, hy⟩ := hv3
    have HX := hideIt hx
    have HY := hideIt hy
    have HA3 := hideIt (HA2.out.below hb3)
    have HB3 := hideIt (HB2.out.below hb3)
    have HC3 := hideIt (HC2.out.below hb3)
    have HBL3 := hideIt (HBL.out.trans (hb3.mono HBL.out.size))
    have HKG3 := hideIt (HKG.out.below hb3 HKG.out.lt)
    have HH0 : Hid (G < w3.heap.size) := HKG3.out.lt
    clear hx hy hb3
    go_wp2_with fail
    obtain ⟨w4, hw4⟩ : ∃ w4, w4 = w3.alloc (.cells #[.bool d.n, .slice d.u d.nu d.cu, .slice d.l d.nl d.cl, .bool e.n, .slice e.u e.nu e.cu, .slice e.l e.nl e.cl] 86) := ⟨_, rfl⟩
    have hbA := below_new w3 (.cells #[.bool d.n, .slice d.u d.nu d.cu, .slice d.l d.nl d.cl, .bool e.n, .slice e.u e.nu e.cu, .slice e.l e.nl e.cl] 86)
    have HKH := hideIt (Blk.new w3 #[.bool d.n, .slice d.u d.nu d.cu, .slice d.l d.nl d.cl, .bool e.n, .slice e.u e.nu e.cu, .slice e.l e.nl e.cl] 86)
    rw [← hw4] at hbA HKH ⊢
    obtain ⟨H, hH⟩ : ∃ H, H = w3.heap.size := ⟨_, rfl⟩
    rw [← hH] at HKH ⊢
    clear hH hw4
    have HBL4 := hideIt (HBL3.out.trans (hbA.mono HBL3.out.size))
    have HA4 := hideIt (HA3.out.below hbA)
    have HB4 := hideIt (HB3.out.below hbA)
    have HC4 := hideIt (HC3.out.below hbA)
    have HX4 := hideIt (HX.out.below hbA)
    have HY4 := hideIt (HY.out.below hbA)
    have HKG4 := hideIt (HKG3.out.below hbA HKG3.out.lt)
    have HT4 := hideIt (HT0.out.below HBL4.out)
    have HTC := hideIt (HTAB.out.below HBL4.out)
    have HKK := hideIt (HK2.out.below HBL4.out (by rw [HSZ.out]; omega))
    have HKR := hideIt (HK3.out.below HBL4.out (by rw [HSZ.out]; omega))
    clear hbA
    have HRS : Hid (w.heap.size + 1 + 1 + 1 ≠ G ∧ w.heap.size + 1 + 1 + 1 ≠ H) := by
      constructor
      · rintro rfl
        have h1 := HKR.out.cell 0
        rw [HKG4.out.cell] at h1
        simp at h1
      · rintro rfl
        have h1 := HKR.out.cell 0
        rw [HKH.out.cell] at h1
        simp at h1
    have HS : Hid (∀ w', Below w4.heap.size w4 w' → w'.cell? ⟨w.heap.size + 1 + 1, 0, none⟩ = some (.bool f.n) ∧ w'.cell? ⟨w.heap.size + 1 + 1, 1, none⟩ = some (.slice f.u f.nu f.cu) ∧ w'.cell? ⟨w.heap.size + 1 + 1, 2, none⟩ = some (.slice f.l f.nl f.cl) ∧ w'.cell? ⟨G, 0, none⟩ = some (.bool a.n) ∧ w'.cell? ⟨G, 1, none⟩ = some (.slice a.u a.nu a.cu) ∧ w'.cell? ⟨G, 2, none⟩ = some (.slice a.l a.nl a.cl) ∧ w'.cell? ⟨G, 3, none⟩ = some (.bool b.n) ∧ w'.cell? ⟨G, 4, none⟩ = some (.slice b.u b.nu b.cu) ∧ w'.cell? ⟨G, 5, none⟩ = some (.slice b.l b.nl b.cl) ∧ w'.cell? ⟨G, 6, none⟩ = some (.bool c.n) ∧ w'.cell? ⟨G, 7, none⟩ = some (.slice c.u c.nu c.cu) ∧ w'.cell? ⟨G, 8, none⟩ = some (.slice c.l c.nl c.cl) ∧ w'.cell? ⟨H, 0, none⟩ = some (.bool d.n) ∧ w'.cell? ⟨H, 1, none⟩ = some (.slice d.u d.nu d.cu) ∧ w'.cell? ⟨H, 2, none⟩ = some (.slice d.l d.nl d.cl) ∧ w'.cell? ⟨H, 3, none⟩ = some (.bool e.n) ∧ w'.cell? ⟨H, 4, none⟩ = some (.slice e.u e.nu e.cu) ∧ w'.cell? ⟨H, 5, none⟩ = some (.slice e.l e.nl e.cl)) := fun w' hb => ⟨(HKK.out.below hb HKK.out.lt).cell 0, (HKK.out.below hb HKK.out.lt).cell 1, (HKK.out.below hb HKK.out.lt).cell 2, (HKG4.out.below hb HKG4.out.lt).cell 0, (HKG4.out.below hb HKG4.out.lt).cell 1, (HKG4.out.below hb HKG4.out.lt).cell 2, (HKG4.out.below hb HKG4.out.lt).cell 3, (HKG4.out.below hb HKG4.out.lt).cell 4, (HKG4.out.below hb HKG4.out.lt).cell 5, (HKG4.out.below hb HKG4.out.lt).cell 6, (HKG4.out.below hb HKG4.out.lt).cell 7, (HKG4.out.below hb HKG4.out.lt).cell 8, (HKH.out.below hb HKH.out.lt).cell 0, (HKH.out.below hb HKH.out.lt).cell 1, (HKH.out.below hb HKH.out.lt).cell 2, (HKH.out.below hb HKH.out.lt).cell 3, (HKH.out.below hb HKH.out.lt).cell 4, (HKH.out.below hb HKH.out.lt).cell 5⟩
    have HSS : Hid (∀ w', Below w4.heap.size w4 w' → ∀ x0 x1 : Value, ((w'.setCell ⟨w.heap.size + 1 + 1 + 1, 0, none⟩ (x0)).setCell ⟨w.heap.size + 1 + 1 + 1, 1, none⟩ (x1)).cell? ⟨w.heap.size + 1 + 1, 0, none⟩ = some (.bool f.n) ∧ ((w'.setCell ⟨w.heap.size + 1 + 1 + 1, 0, none⟩ (x0)).setCell ⟨w.heap.size + 1 + 1 + 1, 1, none⟩ (x1)).cell? ⟨w.heap.size + 1 + 1, 1, none⟩ = some (.slice f.u f.nu f.cu) ∧ ((w'.setCell ⟨w.heap.size + 1 + 1 + 1, 0, none⟩ (x0)).setCell ⟨w.heap.size + 1 + 1 + 1, 1, none⟩ (x1)).cell? ⟨w.heap.size + 1 + 1, 2, none⟩ = some (.slice f.l f.nl f.cl) ∧ ((w'.setCell ⟨w.heap.size + 1 + 1 + 1, 0, none⟩ (x0)).setCell ⟨w.heap.size + 1 + 1 + 1, 1, none⟩ (x1)).cell? ⟨G, 0, none⟩ = some (.bool a.n) ∧ ((w'.setCell ⟨w.heap.size + 1 + 1 + 1, 0, none⟩ (x0)).setCell ⟨w.heap.size + 1 + 1 + 1, 1, none⟩ (x1)).cell? ⟨G, 1, none⟩ = some (.slice a.u a.nu a.cu) ∧ ((w'.setCell ⟨w.heap.size + 1 + 1 + 1, 0, none⟩ (x0)).setCell ⟨w.heap.size + 1 + 1 + 1, 1, none⟩ (x1)).cell? ⟨G, 2, none⟩ = some (.slice a.l a.nl a.cl) ∧ ((w'.setCell ⟨w.heap.size + 1 + 1 + 1, 0, none⟩ (x0)).setCell ⟨w.heap.size + 1 + 1 + 1, 1, none⟩ (x1)).cell? ⟨G, 3, none⟩ = some (.bool b.n) ∧ ((w'.setCell ⟨w.heap.size + 1 + 1 + 1, 0, none⟩ (x0)).setCell ⟨w.heap.size + 1 + 1 + 1, 1, none⟩ (x1)).cell? ⟨G, 4, none⟩ = some (.slice b.u b.nu b.cu) ∧ ((w'.setCell ⟨w.heap.size + 1 + 1 + 1, 0, none⟩ (x0)).setCell ⟨w.heap.size + 1 + 1 + 1, 1, none⟩ (x1)).cell? ⟨G, 5, none⟩ = some (.slice b.l b.nl b.cl) ∧ ((w'.setCell ⟨w.heap.size + 1 + 1 + 1, 0, none⟩ (x0)).setCell ⟨w.heap.size + 1 + 1 + 1, 1, none⟩ (x1)).cell? ⟨G, 6, none⟩ = some (.bool c.n) ∧ ((w'.setCell ⟨w.heap.size + 1 + 1 + 1, 0, none⟩ (x0)).setCell ⟨w.heap.size + 1 + 1 + 1, 1, none⟩ (x1)).cell? ⟨G, 7, none⟩ = some (.slice c.u c.nu c.cu) ∧ ((w'.setCell ⟨w.heap.size + 1 + 1 + 1, 0, none⟩ (x0)).setCell ⟨w.heap.size + 1 + 1 + 1, 1, none⟩ (x1)).cell? ⟨G, 8, none⟩ = some (.slice c.l c.nl c.cl) ∧ ((w'.setCell ⟨w.heap.size + 1 + 1 + 1, 0, none⟩ (x0)).setCell ⟨w.heap.size + 1 + 1 + 1, 1, none⟩ (x1)).cell? ⟨H, 0, none⟩ = some (.bool d.n) ∧ ((w'.setCell ⟨w.heap.size + 1 + 1 + 1, 0, none⟩ (x0)).setCell ⟨w.heap.size + 1 + 1 + 1, 1, none⟩ (x1)).cell? ⟨H, 1, none⟩ = some (.slice d.u d.nu d.cu) ∧ ((w'.setCell ⟨w.heap.size + 1 + 1 + 1, 0, none⟩ (x0)).setCell ⟨w.heap.size + 1 + 1 + 1, 1, none⟩ (x1)).cell? ⟨H, 2, none⟩ = some (.slice d.l d.nl d.cl) ∧ ((w'.setCell ⟨w.heap.size + 1 + 1 + 1, 0, none⟩ (x0)).setCell ⟨w.heap.size + 1 + 1 + 1, 1, none⟩ (x1)).cell? ⟨H, 3, none⟩ = some (.bool e.n) ∧ ((w'.setCell ⟨w.heap.size + 1 + 1 + 1, 0, none⟩ (x0)).setCell ⟨w.heap.size + 1 + 1 + 1, 1, none⟩ (x1)).cell? ⟨H, 4, none⟩ = some (.slice e.u e.nu e.cu) ∧ ((w'.setCell ⟨w.heap.size + 1 + 1 + 1, 0, none⟩ (x0)).setCell ⟨w.heap.size + 1 + 1 + 1, 1, none⟩ (x1)).cell? ⟨H, 5, none⟩ = some (.slice e.l e.nl e.cl)) := fun w' hb x0 x1 => ⟨((HKK.out.below hb HKK.out.lt).off2 (g := w.heap.size + 1 + 1 + 1) (by omega) x0 x1).cell 0, ((HKK.out.below hb HKK.out.lt).off2 (g := w.heap.size + 1 + 1 + 1) (by omega) x0 x1).cell 1, ((HKK.out.below hb HKK.out.lt).off2 (g := w.heap.size + 1 + 1 + 1) (by omega) x0 x1).cell 2, ((HKG4.out.below hb HKG4.out.lt).off2 (g := w.heap.size + 1 + 1 + 1) HRS.out.1 x0 x1).cell 0, ((HKG4.out.below hb HKG4.out.lt).off2 (g := w.heap.size + 1 + 1 + 1) HRS.out.1 x0 x1).cell 1, ((HKG4.out.below hb HKG4.out.lt).off2 (g := w.heap.size + 1 + 1 + 1) HRS.out.1 x0 x1).cell 2, ((HKG4.out.below hb HKG4.out.lt).off2 (g := w.heap.size + 1 + 1 + 1) HRS.out.1 x0 x1).cell 3, ((HKG4.out.below hb HKG4.out.lt).off2 (g := w.heap.size + 1 + 1 + 1) HRS.out.1 x0 x1).cell 4, ((HKG4.out.below hb HKG4.out.lt).off2 (g := w.heap.size + 1 + 1 + 1) HRS.out.1 x0 x1).cell 5, ((HKG4.out.below hb HKG4.out.lt).off2 (g := w.heap.size + 1 + 1 + 1) HRS.out.1 x0 x1).cell 6, ((HKG4.out.below hb HKG4.out.lt).off2 (g := w.heap.size + 1 + 1 + 1) HRS.out.1 x0 x1).cell 7, ((HKG4.out.below hb HKG4.out.lt).off2 (g := w.heap.size + 1 + 1 + 1) HRS.out.1 x0 x1).cell 8, ((HKH.out.below hb HKH.out.lt).off2 (g := w.heap.size + 1 + 1 + 1) HRS.out.2 x0 x1).cell 0, ((HKH.out.below hb HKH.out.lt).off2 (g := w.heap.size + 1 + 1 + 1) HRS.out.2 x0 x1).cell 1, ((HKH.out.below hb HKH.out.lt).off2 (g := w.heap.size + 1 + 1 + 1) HRS.out.2 x0 x1).cell 2, ((HKH.out.below hb HKH.out.lt).off2 (g := w.heap.size + 1 + 1 + 1) HRS.out.2 x0 x1).cell 3, ((HKH.out.below hb HKH.out.lt).off2 (g := w.heap.size + 1 + 1 + 1) HRS.out.2 x0 x1).cell 4, ((HKH.out.below hb HKH.out.lt).off2 (g := w.heap.size + 1 + 1 + 1) HRS.out.2 x0 x1).cell 5⟩
    obtain ⟨z0, z1, z2, z3, z4, z5, z6, z7, z8, z9, z10, z11, z12, z13, z14, z15, z16, z17⟩ := HS.out w4 (Below.refl _ _)
    go_region_held3 (fun w' => w'.cell? ⟨w.heap.size + 1 + 1, 0, none⟩ = some (.bool f.n) ∧ w'.cell? ⟨w.heap.size + 1 + 1, 1, none⟩ = some (.slice f.u f.nu f.cu) ∧ w'.cell? ⟨w.heap.size + 1 + 1, 2, none⟩ = some (.slice f.l f.nl f.cl) ∧ w'.cell? ⟨G, 0, none⟩ = some (.bool a.n) ∧ w'.cell? ⟨G, 1, none⟩ = some (.slice a.u a.nu a.cu) ∧ w'.cell? ⟨G, 2, none⟩ = some (.slice a.l a.nl a.cl) ∧ w'.cell? ⟨G, 3, none⟩ = some (.bool b.n) ∧ w'.cell? ⟨G, 4, none⟩ = some (.slice b.u b.nu b.cu) ∧ w'.cell? ⟨G, 5, none⟩ = some (.slice b.l b.nl b.cl) ∧ w'.cell? ⟨G, 6, none⟩ = some (.bool c.n) ∧ w'.cell? ⟨G, 7, none⟩ = some (.slice c.u c.nu c.cu) ∧ w'.cell? ⟨G, 8, none⟩ = some (.slice c.l c.nl c.cl) ∧ w'.cell? ⟨H, 0, none⟩ = some (.bool d.n) ∧ w'.cell? ⟨H, 1, none⟩ = some (.slice d.u d.nu d.cu) ∧ w'.cell? ⟨H, 2, none⟩ = some (.slice d.l d.nl d.cl) ∧ w'.cell? ⟨H, 3, none⟩ = some (.bool e.n) ∧ w'.cell? ⟨H, 4, none⟩ = some (.slice e.u e.nu e.cu) ∧ w'.cell? ⟨H, 5, none⟩ = some (.slice e.l e.nl e.cl)) (first | go_keep | exact hs5 | exact hs6 | exact hsA6 | exact hs7 | exact hs8 | exact hkS)
      (first
        | (go_at_call 117; refine (lineDrop_calls (w := w4.drew) ⟨a, b, c, rfl, HA4.out.below (Below.drew (Below.refl _ _)), HB4.out.below (Below.drew (Below.refl _ _)), HC4.out.below (Below.drew (Below.refl _ _))⟩ ⟨d, e, rfl, HX4.out.below (Below.drew (Below.refl _ _)), HY4.out.below (Below.drew (Below.refl _ _))⟩ F1.out F2.out F3.out F4.out F5.out Q1.out).mono ?_; rintro _ w5 ⟨hb5, v5, rfl, hv5⟩; have hw5 := hv5; obtain ⟨d5, e5, rfl, hx5, hy5⟩ := hw5; have hbl5 : Below w4.heap.size w4 w5 := (Below.drew (Below.refl _ w4)).trans hb5; have hs5 := HS.out w5 hbl5)
        | (go_at_call 68; refine (wayTimes_calls hv5 (HT4.out.below hbl5) FDX.out FDY.out F6.out Q2.out).mono ?_; rintro _ w6 ⟨hb6, v6, rfl, hv6⟩; obtain ⟨d6, e6, rfl, hx6, hy6⟩ := hv6; have hbl6 := hbl5.trans (hb6.mono hbl5.size); have hs6 := HS.out w6 hbl6; have hbA6 := below_new w6 (.cells #[.bool d.n, .slice d.u d.nu d.cu, .slice d.l d.nl d.cl, .bool e.n, .slice e.u e.nu e.cu, .slice e.l e.nl e.cl, .bool d6.n, .slice d6.u d6.nu d6.cu, .slice d6.l d6.nl d6.cl, .bool e6.n, .slice e6.u e6.nu e6.cu, .slice e6.l e6.nl e6.cl] 86); have hblA6 := hbl6.trans (hbA6.mono hbl6.size); have hsA6 := HS.out _ hblA6)
        | (go_at_call 66; refine (waySum_calls (wrow2 (HX4.out.below hbl6) (HY4.out.below hbl6) hx6 hy6) A1.out A2.out (by simp) Q3.out).mono ?_; rintro _ w7 ⟨hb7, v7, rfl, hv7⟩; rw [show rsum ([((rd px.data.toList), (rd py.data.toList)), (((rd la.data.toList) * -((rd la.data.toList) * (rd px.data.toList) + (rd lb.data.toList) * (rd py.data.toList) + (rd lc.data.toList)) / ((rd la.data.toList) * (rd la.data.toList) + (rd lb.data.toList) * (rd lb.data.toList))) * t, ((rd lb.data.toList) * -((rd la.data.toList) * (rd px.data.toList) + (rd lb.data.toList) * (rd py.data.toList) + (rd lc.data.toList)) / ((rd la.data.toList) * (rd la.data.toList) + (rd lb.data.toList) * (rd lb.data.toList))) * t)].map Prod.fst) = (rd px.data.toList) + ((rd la.data.toList) * -((rd la.data.toList) * (rd px.data.toList) + (rd lb.data.toList) * (rd py.data.toList) + (rd lc.data.toList)) / ((rd la.data.toList) * (rd la.data.toList) + (rd lb.data.toList) * (rd lb.data.toList))) * t from rsum2 _ _, show rsum ([((rd px.data.toList), (rd py.data.toList)), (((rd la.data.toList) * -((rd la.data.toList) * (rd px.data.toList) + (rd lb.data.toList) * (rd py.data.toList) + (rd lc.data.toList)) / ((rd la.data.toList) * (rd la.data.toList) + (rd lb.data.toList) * (rd lb.data.toList))) * t, ((rd lb.data.toList) * -((rd la.data.toList) * (rd px.data.toList) + (rd lb.data.toList) * (rd py.data.toList) + (rd lc.data.toList)) / ((rd la.data.toList) * (rd la.data.toList) + (rd lb.data.toList) * (rd lb.data.toList))) * t)].map Prod.snd) = (rd py.data.toList) + ((rd lb.data.toList) * -((rd la.data.toList) * (rd px.data.toList) + (rd lb.data.toList) * (rd py.data.toList) + (rd lc.data.toList)) / ((rd la.data.toList) * (rd la.data.toList) + (rd lb.data.toList) * (rd lb.data.toList))) * t from rsum2 _ _] at hv7; have hw7 := hv7; obtain ⟨d7, e7, rfl, hx7, hy7⟩ := hw7; have hbl7 := hblA6.trans (hb7.mono hblA6.size); have hs7 := HS.out w7 hbl7)
        | (go_at_call 70; refine (wayText_calls hv7 (F4.out.add FTX.out) (F5.out.add FTY.out) Q4.out (HTC.out.below hbl7)).mono ?_; rintro _ w8 ⟨hb8, v8, rfl, sa, sb, rfl, ta, tb⟩; have hbl8 := hbl7.trans (hb8.mono hbl7.size); have hs8 := HS.out w8 hbl8; have hkr := HKR.out.below hbl8 HKR.out.lt; obtain ⟨r0, r1, j0, j1⟩ := hkr.all2; have hkS := HSS.out w8 hbl8 (.string sa) (.string sb); have HTT := hideIt (And.intro ta tb); clear ta tb)
        )
    all_goals
      go_wp2
      obtain ⟨k0, k1, _⟩ := (hkr.put2 (.string sa) (.string sb)).all2
      exact bodyPost_ret (v := .tuple #[.agg #[.string sa, .string sb], .int .i64 0]) (by simp [results, Tryz.results75, go_sem, k0, k1]) rfl ⟨Below.put2 (HB0.out.trans ((HBL4.out.trans (hbl8.mono HBL4.out.size)).mono HB0.out.size)) (by omega) _ _, sa, sb, 0, rfl, Or.inr ⟨HN.out, rfl, HTT.out.1, HTT.out.2⟩⟩
theorem dropped_calls {w : World} {va vb vc : Value} {la lb lc px py : List UInt8} {t : Rat} (ha : TV va la lb lc) (hb : PV vb px py) (hc : QV w vc t) (s1 : la.length ≤ 4294967296) (s2 : lb.length ≤ 4294967296) (s3 : lc.length ≤ 4294967296) (s4 : px.length ≤ 4294967296) (s5 : py.length ≤ 4294967296) {k : Nat} (f1 : QS k (rd la)) (f2 : QS k (rd lb)) (f3 : QS k (rd lc)) (f4 : QS k (rd px)) (f5 : QS k (rd py)) (f6 : QS k t) (hk : 100 * (k + 1) ≤ 35184372088640) (tab : Tab w) :
    Calls Tryz.prog 75 #[va, vb, vc] w fun e w' => Below w.heap.size w w' ∧ ∃ (sa sb : ByteArray) (z : Int), e = .returned (.tuple #[.agg #[.string sa, .string sb], .int .i64 z]) ∧ DropAns (rd la) (rd lb) (rd lc) (rd px) (rd py) t sa.data.toList sb.data.toList z := by
  obtain ⟨a, b, c, rfl, rfl, rfl, rfl⟩ := ha
  obtain ⟨d, e, rfl, rfl, rfl⟩ := hb
  obtain ⟨f, rfl⟩ := qv_open hc
  exact dropped_walk hc s1 s2 s3 s4 s5 f1 f2 f3 f4 f5 f6 hk tab
end Go.Proofs.YtgajdmadbdbabaaGreatDoor
/- WU -/
namespace Go.Proofs.YtgajdmadbdbabaaGreatDoor
open Go.RowKit Cx
attribute [local go_sem ↓] Go.wp_at_zero Go.wp_at_succ
theorem QS.one : QS 1 ((1 : Nat) : Rat) := ⟨by decide, by decide⟩
theorem foot_walk {w : World} {la lb lc px py : ByteArray} (s1 : la.data.toList.length ≤ 4294967296) (s2 : lb.data.toList.length ≤ 4294967296) (s3 : lc.data.toList.length ≤ 4294967296) (s4 : px.data.toList.length ≤ 4294967296) (s5 : py.data.toList.length ≤ 4294967296) {k : Nat} (f1 : QS k (rd la.data.toList)) (f2 : QS k (rd lb.data.toList)) (f3 : QS k (rd lc.data.toList)) (f4 : QS k (rd px.data.toList)) (f5 : QS k (rd py.data.toList)) (hk : 100 * (k + 1) ≤ 35184372088640) (tab : Tab w) :
    Calls Tryz.prog 20 #[.agg #[.string la, .string lb, .string lc], .agg #[.string px, .string py]] w fun e w' => Below w.heap.size w w' ∧ ∃ (sa sb : ByteArray) (z : Int), e = .returned (.tuple #[.agg #[.string sa, .string sb], .int .i64 z]) ∧ DropAns (rd la.data.toList) (rd lb.data.toList) (rd lc.data.toList) (rd px.data.toList) (rd py.data.toList) ((1 : Nat) : Rat) sa.data.toList sb.data.toList z := by
  obtain ⟨hb0, hk0, hk1, hk2, hsz⟩ := boxes3 w #[.string la, .string lb, .string lc] #[.string px, .string py] #[.string ⟨#[]⟩, .string ⟨#[]⟩] 26 24 24
  have HB0 := hideIt hb0
  have HSZ := hideIt hsz
  have HK0 := hideIt hk0
  have HK1 := hideIt hk1
  have HK2 := hideIt hk2
  have HTAB := hideIt (tab.below hb0)
  have S1 := hideIt s1
  have F1 := hideIt f1
  have S2 := hideIt s2
  have F2 := hideIt f2
  have S3 := hideIt s3
  have F3 := hideIt f3
  have S4 := hideIt s4
  have F4 := hideIt f4
  have S5 := hideIt s5
  have F5 := hideIt f5
  have F6 : Hid (QS k ((1 : Nat) : Rat)) := QS.one.mono f1.pos
  have HK := hideIt hk
  clear hb0 hsz hk0 hk1 hk2 tab s1 s2 s3 s4 s5 f1 f2 f3 f4 f5 hk
  go_enter Tryz.func20, Tryz.ntmps20
  go_wp2_with fail
  generalize (((w.alloc (.cells #[.string la, .string lb, .string lc] 26)).alloc (.cells #[.string px, .string py] 24)).alloc (.cells #[.string ⟨#[]⟩, .string ⟨#[]⟩] 24)) = W0 at *
  have HS : Hid (∀ w', Below W0.heap.size W0 w' → w'.cell? ⟨w.heap.size, 0, none⟩ = some (.string la) ∧ w'.cell? ⟨w.heap.size, 1, none⟩ = some (.string lb) ∧ w'.cell? ⟨w.heap.size, 2, none⟩ = some (.string lc) ∧ w'.cell? ⟨w.heap.size + 1, 0, none⟩ = some (.string px) ∧ w'.cell? ⟨w.heap.size + 1, 1, none⟩ = some (.string py)) := fun w' hb => ⟨(HK0.out.below hb (by rw [HSZ.out]; omega)).cell 0, (HK0.out.below hb (by rw [HSZ.out]; omega)).cell 1, (HK0.out.below hb (by rw [HSZ.out]; omega)).cell 2, (HK1.out.below hb (by rw [HSZ.out]; omega)).cell 0, (HK1.out.below hb (by rw [HSZ.out]; omega)).cell 1⟩
  have HSS : Hid (∀ w', Below W0.heap.size W0 w' → ∀ x0 x1 : Value, ((w'.setCell ⟨w.heap.size + 1 + 1, 0, none⟩ (x0)).setCell ⟨w.heap.size + 1 + 1, 1, none⟩ (x1)).cell? ⟨w.heap.size, 0, none⟩ = some (.string la) ∧ ((w'.setCell ⟨w.heap.size + 1 + 1, 0, none⟩ (x0)).setCell ⟨w.heap.size + 1 + 1, 1, none⟩ (x1)).cell? ⟨w.heap.size, 1, none⟩ = some (.string lb) ∧ ((w'.setCell ⟨w.heap.size + 1 + 1, 0, none⟩ (x0)).setCell ⟨w.heap.size + 1 + 1, 1, none⟩ (x1)).cell? ⟨w.heap.size, 2, none⟩ = some (.string lc) ∧ ((w'.setCell ⟨w.heap.size + 1 + 1, 0, none⟩ (x0)).setCell ⟨w.heap.size + 1 + 1, 1, none⟩ (x1)).cell? ⟨w.heap.size + 1, 0, none⟩ = some (.string px) ∧ ((w'.setCell ⟨w.heap.size + 1 + 1, 0, none⟩ (x0)).setCell ⟨w.heap.size + 1 + 1, 1, none⟩ (x1)).cell? ⟨w.heap.size + 1, 1, none⟩ = some (.string py)) := fun w' hb x0 x1 => ⟨((HK0.out.below hb (by rw [HSZ.out]; omega)).off2 (g := w.heap.size + 1 + 1) (by omega) x0 x1).cell 0, ((HK0.out.below hb (by rw [HSZ.out]; omega)).off2 (g := w.heap.size + 1 + 1) (by omega) x0 x1).cell 1, ((HK0.out.below hb (by rw [HSZ.out]; omega)).off2 (g := w.heap.size + 1 + 1) (by omega) x0 x1).cell 2, ((HK1.out.below hb (by rw [HSZ.out]; omega)).off2 (g := w.heap.size + 1 + 1) (by omega) x0 x1).cell 0, ((HK1.out.below hb (by rw [HSZ.out]; omega)).off2 (g := w.heap.size + 1 + 1) (by omega) x0 x1).cell 1⟩
  obtain ⟨z0, z1, z2, z3, z4⟩ := HS.out W0 (Below.refl _ _)
  go_region_held3 (fun w' => w'.cell? ⟨w.heap.size, 0, none⟩ = some (.string la) ∧ w'.cell? ⟨w.heap.size, 1, none⟩ = some (.string lb) ∧ w'.cell? ⟨w.heap.size, 2, none⟩ = some (.string lc) ∧ w'.cell? ⟨w.heap.size + 1, 0, none⟩ = some (.string px) ∧ w'.cell? ⟨w.heap.size + 1, 1, none⟩ = some (.string py)) (first | go_keep | exact hs1 | exact hs2 | exact hkS)
    (first
      | (go_at_call 76; refine (int_calls 1 (by decide) W0.drew).mono ?_; rintro _ w1 ⟨hb1, v1, rfl, hv1⟩; obtain ⟨d1, rfl⟩ := qv_open hv1; have hbl1 : Below W0.heap.size W0 w1 := (Below.drew (Below.refl _ W0)).trans hb1; have hs1 := HS.out w1 hbl1)
      | (go_at_call 75; refine (dropped_calls ⟨la, lb, lc, rfl, rfl, rfl, rfl⟩ ⟨px, py, rfl, rfl, rfl⟩ hv1 S1.out S2.out S3.out S4.out S5.out F1.out F2.out F3.out F4.out F5.out F6.out HK.out (HTAB.out.below hbl1)).mono ?_; rintro _ w2 ⟨hb2, sa, sb, z, rfl, hans⟩; have hbl2 := hbl1.trans (hb2.mono hbl1.size); have hs2 := HS.out w2 hbl2; have hkr := HK2.out.below hbl2 (by rw [HSZ.out]; omega); obtain ⟨r0, r1, j0, j1⟩ := hkr.all2; have hkS := HSS.out w2 hbl2 (.string sa) (.string sb); have HANS := hideIt hans; clear hans)
      )
  all_goals
    go_wp2
    obtain ⟨k0, k1, _⟩ := (hkr.put2 (.string sa) (.string sb)).all2
    exact bodyPost_ret (v := .tuple #[.agg #[.string sa, .string sb], .int .i64 z]) (by simp [results, Tryz.results20, go_sem, k0, k1]) rfl ⟨Below.put2 (HB0.out.trans (hbl2.mono HB0.out.size)) (by omega) _ _, sa, sb, z, rfl, HANS.out⟩
theorem pt_calls (x y : ByteArray) (w : World) :
    Calls Tryz.prog 72 #[.string x, .string y] w fun e w' => Below w.heap.size w w' ∧ e = .returned (.agg #[.string x, .string y]) := by
  go_enter Tryz.func72, Tryz.ntmps72
  go_wp2
  refine bodyPost_ret (v := .agg #[.string x, .string y]) (by simp [results, Tryz.results72, go_sem]) rfl ⟨below_new _ _, rfl⟩
end Go.Proofs.YtgajdmadbdbabaaGreatDoor
/- MathY -/
namespace Cx
open Go
theorem tx_int (z : Int) (h : z.natAbs < 10) : tx ((z : Int) : Rat) = (if z < 0 then [45] else []) ++ [UInt8.ofNat (48 + z.natAbs)] := by
  unfold tx
  have h1 : ((z : Int) : Rat).num = z := rfl
  have h2 : ((z : Int) : Rat).den = 1 := rfl
  rw [h1, h2, if_pos rfl, List.append_nil, dec_small h]
theorem tx_half (z : Int) (q : Rat) (hn : q.num = z) (hd : q.den = 2) (h : z.natAbs < 10) : tx q = (if z < 0 then [45] else []) ++ ([UInt8.ofNat (48 + z.natAbs)] ++ [47, 50]) := by
  unfold tx
  rw [hn, hd, if_neg (show ¬ (2 = 1) by decide), dec_small h, dec_small (by decide)]
  rfl
theorem rd0 : rd [48] = ((0 : Int) : Rat) := by rw [← show tx ((0 : Int) : Rat) = [48] from tx_int 0 (by decide), rd_tx]
theorem rd1 : rd [49] = ((1 : Int) : Rat) := by rw [← show tx ((1 : Int) : Rat) = [49] from tx_int 1 (by decide), rd_tx]
theorem rd2 : rd [50] = ((2 : Int) : Rat) := by rw [← show tx ((2 : Int) : Rat) = [50] from tx_int 2 (by decide), rd_tx]
theorem rd3 : rd [51] = ((3 : Int) : Rat) := by rw [← show tx ((3 : Int) : Rat) = [51] from tx_int 3 (by decide), rd_tx]
theorem rdm1 : rd [45, 49] = ((-1 : Int) : Rat) := by rw [← show tx ((-1 : Int) : Rat) = [45, 49] from tx_int (-1) (by decide), rd_tx]
theorem rdm5 : rd [45, 53] = ((-5 : Int) : Rat) := by rw [← show tx ((-5 : Int) : Rat) = [45, 53] from tx_int (-5) (by decide), rd_tx]
theorem ex_x : -(((3 : Int) : Rat) - ((1 : Int) : Rat)) = ((-2 : Int) : Rat) := by decide +kernel
theorem ex_y : (((1 : Int) : Rat) - ((0 : Int) : Rat)) = ((1 : Int) : Rat) := by decide +kernel
theorem ex_c : -(((-2 : Int) : Rat) * ((0 : Int) : Rat) + ((1 : Int) : Rat) * ((1 : Int) : Rat)) = ((-1 : Int) : Rat) := by decide +kernel
theorem ex_f : fac [((-2 : Int) : Rat), ((1 : Int) : Rat), ((-1 : Int) : Rat)] = ((-1 : Int) : Rat) := by decide +kernel
theorem ex_1 : ((-2 : Int) : Rat) * ((-1 : Int) : Rat) = ((2 : Int) : Rat) := by decide +kernel
theorem ex_2 : ((1 : Int) : Rat) * ((-1 : Int) : Rat) = ((-1 : Int) : Rat) := by decide +kernel
theorem ex_3 : ((-1 : Int) : Rat) * ((-1 : Int) : Rat) = ((1 : Int) : Rat) := by decide +kernel
theorem ex_t : ((2 : Int) : Rat) * ((1 : Int) : Rat) - ((-1 : Int) : Rat) * ((0 : Int) : Rat) ≠ 0 := by decide +kernel
theorem ex_mx : -(((1 : Int) : Rat) * ((1 : Int) : Rat) - ((-1 : Int) : Rat) * ((-5 : Int) : Rat)) / (((2 : Int) : Rat) * ((1 : Int) : Rat) - ((-1 : Int) : Rat) * ((0 : Int) : Rat)) = ((2 : Int) : Rat) := by decide +kernel
theorem ex_my : (((0 : Int) : Rat) * ((1 : Int) : Rat) - ((2 : Int) : Rat) * ((-5 : Int) : Rat)) / (((2 : Int) : Rat) * ((1 : Int) : Rat) - ((-1 : Int) : Rat) * ((0 : Int) : Rat)) = ((5 : Int) : Rat) := by decide +kernel
theorem ex_fx : tx (((1 : Int) : Rat) + ((1 : Int) : Rat) * -(((1 : Int) : Rat) * ((1 : Int) : Rat) + ((1 : Int) : Rat) * ((0 : Int) : Rat) + ((0 : Int) : Rat)) / (((1 : Int) : Rat) * ((1 : Int) : Rat) + ((1 : Int) : Rat) * ((1 : Int) : Rat)) * ((1 : Nat) : Rat)) = [49, 47, 50] := tx_half 1 _ (by decide +kernel) (by decide +kernel) (by decide)
theorem ex_fy : tx (((0 : Int) : Rat) + ((1 : Int) : Rat) * -(((1 : Int) : Rat) * ((1 : Int) : Rat) + ((1 : Int) : Rat) * ((0 : Int) : Rat) + ((0 : Int) : Rat)) / (((1 : Int) : Rat) * ((1 : Int) : Rat) + ((1 : Int) : Rat) * ((1 : Int) : Rat)) * ((1 : Nat) : Rat)) = [45, 49, 47, 50] := tx_half (-1) _ (by decide +kernel) (by decide +kernel) (by decide)
end Cx
/- WV -/
namespace Go.Proofs.YtgajdmadbdbabaaGreatDoor
open Go.RowKit Cx
theorem bytes_eq {s : ByteArray} {l : List UInt8} (h : s.data.toList = l) : s = ⟨l.toArray⟩ := by
  cases s
  subst h
  simp
theorem ex_line {la lb lc : List UInt8} {z : Int} (h : LineAns (-(rd [51] - rd [49])) (rd [49] - rd [48]) (-(-(rd [51] - rd [49]) * rd [48] + (rd [49] - rd [48]) * rd [49])) la lb lc z) : z = 0 ∧ la = [50] ∧ lb = [45, 49] ∧ lc = [49] := by
  rw [rd3, rd1, rd0, ex_x, ex_y, ex_c] at h
  rcases h with ⟨h, _⟩ | ⟨_, hz, h1, h2, h3⟩
  · exact absurd h (by decide +kernel)
  · rw [ex_f] at h1 h2 h3
    rw [ex_1] at h1
    rw [ex_2] at h2
    rw [ex_3] at h3
    exact ⟨hz, h1.trans (tx_int 2 (by decide)), h2.trans (tx_int (-1) (by decide)), h3.trans (tx_int 1 (by decide))⟩
theorem ex_meet {sa sb : List UInt8} {z : Int} (h : PointAns (rd [50]) (rd [45, 49]) (rd [49]) (rd [48]) (rd [49]) (rd [45, 53]) sa sb z) : z = 0 ∧ sa = [50] ∧ sb = [53] := by
  rw [rd2, rdm1, rd1, rd0, rdm5] at h
  rcases h with ⟨⟨h, _⟩ | ⟨_, h⟩, _⟩ | ⟨_, _, x, y, hm, ht⟩
  · exact absurd h (by decide +kernel)
  · exact absurd h (by decide +kernel)
  · rcases hm with ⟨_, hz, hx, hy⟩ | ⟨h0, _⟩
    · rw [ex_mx] at hx
      rw [ex_my] at hy
      obtain ⟨h1, h2⟩ := ht hz
      rw [hx] at h1
      rw [hy] at h2
      exact ⟨hz, h1.trans (tx_int 2 (by decide)), h2.trans (tx_int 5 (by decide))⟩
    · exact absurd h0 ex_t
theorem ex_foot {sa sb : List UInt8} {z : Int} (h : DropAns (rd [49]) (rd [49]) (rd [48]) (rd [49]) (rd [48]) ((1 : Nat) : Rat) sa sb z) : z = 0 ∧ sa = [49, 47, 50] ∧ sb = [45, 49, 47, 50] := by
  rw [rd1, rd0] at h
  rcases h with ⟨h, _⟩ | ⟨_, hz, h1, h2⟩
  · exact absurd h (by decide +kernel)
  · exact ⟨hz, h1.trans ex_fx, h2.trans ex_fy⟩
end Go.Proofs.YtgajdmadbdbabaaGreatDoor
/- WW -/
namespace Go.Proofs.YtgajdmadbdbabaaGreatDoor
open Go.RowKit Cx
attribute [local go_sem ↓] Go.wp_at_zero Go.wp_at_succ
theorem qs30 (s : ByteArray) (h : s.size ≤ 6) : QS 30 (rd s.data.toList) := (QS.rd _).mono (by rw [str_len]; omega)
theorem len6 (s : ByteArray) (h : s.size ≤ 6) : s.data.toList.length ≤ 4294967296 := by rw [str_len]; omega
theorem len6' (s : ByteArray) (h : s.size ≤ 6) : s.data.toList.length ≤ 1048576 := by rw [str_len]; omega
theorem lined_calls (w : World) (tab : Tab w) :
    Calls Tryz.prog 18 #[] w fun e w' => Below w.heap.size w w' ∧ e = .returned (.bool true) := by
  have HT := hideIt tab
  clear tab
  go_enter Tryz.func18, Tryz.ntmps18
  go_wp2_with fail
  refine (pt_calls ⟨#[48]⟩ ⟨#[49]⟩ w).mono ?_
  rintro _ w1 ⟨hb1, rfl⟩
  go_wp2_with fail
  refine (pt_calls ⟨#[49]⟩ ⟨#[51]⟩ w1).mono ?_
  rintro _ w2 ⟨hb2, rfl⟩
  have hbl2 := hb1.trans (hb2.mono hb1.size)
  go_wp2_with fail
  refine (through_calls (va := .agg #[.string ⟨#[48]⟩, .string ⟨#[49]⟩]) (vb := .agg #[.string ⟨#[49]⟩, .string ⟨#[51]⟩]) ⟨⟨#[48]⟩, ⟨#[49]⟩, rfl, rfl, rfl⟩ ⟨⟨#[49]⟩, ⟨#[51]⟩, rfl, rfl, rfl⟩ (len6' _ (by decide)) (len6' _ (by decide)) (len6' _ (by decide)) (len6' _ (by decide)) (HT.out.below hbl2)).mono ?_
  rintro _ w3 ⟨hb3, sa, sb, sc, z, rfl, hans⟩
  obtain ⟨rfl, h1, h2, h3⟩ := ex_line hans
  obtain rfl := bytes_eq h1
  obtain rfl := bytes_eq h2
  obtain rfl := bytes_eq h3
  have HB3 := hideIt (hbl2.trans (hb3.mono hbl2.size))
  clear hb1 hb2 hb3 hbl2 hans h1 h2 h3
  go_wp2_with fail
  have hbA := below_new w3 (.cells #[.string ⟨#[50]⟩, .string ⟨#[45, 49]⟩, .string ⟨#[49]⟩] 26)
  have HKL := hideIt (Blk.new w3 #[.string ⟨#[50]⟩, .string ⟨#[45, 49]⟩, .string ⟨#[49]⟩] 26)
  have HBA := hideIt (HB3.out.trans (hbA.mono HB3.out.size))
  clear hbA
  refine (lineMeet_calls (va := .agg #[.string ⟨#[50]⟩, .string ⟨#[45, 49]⟩, .string ⟨#[49]⟩]) (vb := .agg #[.string ⟨#[48]⟩, .string ⟨#[49]⟩, .string ⟨#[45, 53]⟩]) ⟨⟨#[50]⟩, ⟨#[45, 49]⟩, ⟨#[49]⟩, rfl, rfl, rfl, rfl⟩ ⟨⟨#[48]⟩, ⟨#[49]⟩, ⟨#[45, 53]⟩, rfl, rfl, rfl, rfl⟩ (len6 _ (by decide)) (len6 _ (by decide)) (len6 _ (by decide)) (len6 _ (by decide)) (len6 _ (by decide)) (len6 _ (by decide)) (qs30 _ (by decide)) (qs30 _ (by decide)) (qs30 _ (by decide)) (qs30 _ (by decide)) (qs30 _ (by decide)) (qs30 _ (by decide)) (by decide) (HT.out.below HBA.out)).mono ?_
  rintro _ w4 ⟨hb4, sa, sb, z, rfl, hans⟩
  obtain ⟨rfl, h1, h2⟩ := ex_meet hans
  obtain rfl := bytes_eq h1
  obtain rfl := bytes_eq h2
  have HB4 := hideIt (HBA.out.trans (hb4.mono HBA.out.size))
  have HKL4 := hideIt (HKL.out.below hb4 HKL.out.lt)
  obtain ⟨G, hG⟩ : ∃ G, G = w3.heap.size := ⟨_, rfl⟩
  rw [← hG] at HKL4 ⊢
  clear hG hb4 hans h1 h2 HKL HBA
  go_wp2_with fail
  have hbA := below_new w4 (.cells #[.string ⟨#[50]⟩, .string ⟨#[53]⟩] 24)
  have HKP := hideIt (Blk.new w4 #[.string ⟨#[50]⟩, .string ⟨#[53]⟩] 24)
  have HKL5 := hideIt (HKL4.out.below hbA HKL4.out.lt)
  have HBA := hideIt (HB4.out.trans (hbA.mono HB4.out.size))
  clear hbA
  refine (pt_calls ⟨#[49]⟩ ⟨#[48]⟩ _).mono ?_
  rintro _ w5 ⟨hb5, rfl⟩
  have HB5 := hideIt (HBA.out.trans (hb5.mono HBA.out.size))
  have HKL6 := hideIt (HKL5.out.below hb5 HKL5.out.lt)
  have HKP5 := hideIt (HKP.out.below hb5 HKP.out.lt)
  obtain ⟨H, hH⟩ : ∃ H, H = w4.heap.size := ⟨_, rfl⟩
  rw [← hH] at HKP5 ⊢
  clear hH hb5 HKL5 HKP
  go_wp2_with fail
  refine (foot_walk (la := ⟨#[49]⟩) (lb := ⟨#[49]⟩) (lc := ⟨#[48]⟩) (px := ⟨#[49]⟩) (py := ⟨#[48]⟩) (len6 _ (by decide)) (len6 _ (by decide)) (len6 _ (by decide)) (len6 _ (by decide)) (len6 _ (by decide)) (qs30 _ (by decide)) (qs30 _ (by decide)) (qs30 _ (by decide)) (qs30 _ (by decide)) (qs30 _ (by decide)) (by decide) (HT.out.below HB5.out)).mono ?_
  rintro _ w6 ⟨hb6, sa, sb, z, rfl, hans⟩
  obtain ⟨rfl, h1, h2⟩ := ex_foot hans
  obtain rfl := bytes_eq h1
  obtain rfl := bytes_eq h2
  have HB6 := hideIt (HB5.out.trans (hb6.mono HB5.out.size))
  have HKL7 := hideIt (HKL6.out.below hb6 HKL6.out.lt)
  have HKP6 := hideIt (HKP5.out.below hb6 HKP5.out.lt)
  clear hb6 hans h1 h2
  go_wp2_with fail
  obtain ⟨w7, hw7⟩ : ∃ w7, w7 = w6.alloc (.cells #[.string ⟨#[49, 47, 50]⟩, .string ⟨#[45, 49, 47, 50]⟩] 24) := ⟨_, rfl⟩
  have hbA := below_new w6 (.cells #[.string ⟨#[49, 47, 50]⟩, .string ⟨#[45, 49, 47, 50]⟩] 24)
  have HKQ := hideIt (Blk.new w6 #[.string ⟨#[49, 47, 50]⟩, .string ⟨#[45, 49, 47, 50]⟩] 24)
  rw [← hw7] at hbA HKQ ⊢
  obtain ⟨J, hJ⟩ : ∃ J, J = w6.heap.size := ⟨_, rfl⟩
  rw [← hJ] at HKQ ⊢
  have HKL8 := hideIt (HKL7.out.below hbA HKL7.out.lt)
  have HKP7 := hideIt (HKP6.out.below hbA HKP6.out.lt)
  have HB7 := hideIt (HB6.out.trans (hbA.mono HB6.out.size))
  clear hJ hw7 hbA
  have HS : Hid (∀ w', Below w7.heap.size w7 w' → w'.cell? ⟨G, 0, none⟩ = some (.string ⟨#[50]⟩) ∧ w'.cell? ⟨G, 1, none⟩ = some (.string ⟨#[45, 49]⟩) ∧ w'.cell? ⟨G, 2, none⟩ = some (.string ⟨#[49]⟩) ∧ w'.cell? ⟨H, 0, none⟩ = some (.string ⟨#[50]⟩) ∧ w'.cell? ⟨H, 1, none⟩ = some (.string ⟨#[53]⟩) ∧ w'.cell? ⟨J, 0, none⟩ = some (.string ⟨#[49, 47, 50]⟩) ∧ w'.cell? ⟨J, 1, none⟩ = some (.string ⟨#[45, 49, 47, 50]⟩)) := fun w' hb => ⟨(HKL8.out.below hb HKL8.out.lt).cell 0, (HKL8.out.below hb HKL8.out.lt).cell 1, (HKL8.out.below hb HKL8.out.lt).cell 2, (HKP7.out.below hb HKP7.out.lt).cell 0, (HKP7.out.below hb HKP7.out.lt).cell 1, (HKQ.out.below hb HKQ.out.lt).cell 0, (HKQ.out.below hb HKQ.out.lt).cell 1⟩
  obtain ⟨z0, z1, z2, z3, z4, z5, z6⟩ := HS.out w7 (Below.refl _ _)
  go_region_held3 (fun w' => w'.cell? ⟨G, 0, none⟩ = some (.string ⟨#[50]⟩) ∧ w'.cell? ⟨G, 1, none⟩ = some (.string ⟨#[45, 49]⟩) ∧ w'.cell? ⟨G, 2, none⟩ = some (.string ⟨#[49]⟩) ∧ w'.cell? ⟨H, 0, none⟩ = some (.string ⟨#[50]⟩) ∧ w'.cell? ⟨H, 1, none⟩ = some (.string ⟨#[53]⟩) ∧ w'.cell? ⟨J, 0, none⟩ = some (.string ⟨#[49, 47, 50]⟩) ∧ w'.cell? ⟨J, 1, none⟩ = some (.string ⟨#[45, 49, 47, 50]⟩)) (first | go_keep | exact hs8 | exact hs9)
    (first
      | (go_at_call_of 72 (Value.string { data := #[53] }); refine (pt_calls ⟨#[50]⟩ ⟨#[53]⟩ w7.drew).mono ?_; rintro _ w8 ⟨hb8, rfl⟩; have hbl8 : Below w7.heap.size w7 w8 := (Below.drew (Below.refl _ w7)).trans hb8; have hs8 := HS.out w8 hbl8)
      | (go_at_call 72; refine (pt_calls ⟨#[49, 47, 50]⟩ ⟨#[45, 49, 47, 50]⟩ w8).mono ?_; rintro _ w9 ⟨hb9, rfl⟩; have hbl9 := hbl8.trans (hb9.mono hbl8.size); have hs9 := HS.out w9 hbl9)
      )
  all_goals
    go_wp2
    go_ret
    exact ⟨HB7.out.trans (hbl9.mono HB7.out.size), rfl⟩
end Go.Proofs.YtgajdmadbdbabaaGreatDoor
/- WBT -/
namespace Go.Proofs.YtgajdmadbdbabaaGreatDoor
open Go.RowKit Cx
attribute [local go_sem ↓] Go.wp_at_zero Go.wp_at_succ
end Go.Proofs.YtgajdmadbdbabaaGreatDoor
/- WSD -/
namespace Go.Proofs.YtgajdmadbdbabaaGreatDoor
open Go.RowKit Cx
attribute [local go_sem ↓] Go.wp_at_zero Go.wp_at_succ
end Go.Proofs.YtgajdmadbdbabaaGreatDoor
/- WMI -/
namespace Go.Proofs.YtgajdmadbdbabaaGreatDoor
open Go.RowKit Cx
attribute [local go_sem ↓] Go.wp_at_zero Go.wp_at_succ
end Go.Proofs.YtgajdmadbdbabaaGreatDoor
/- WFR -/
namespace Go.Proofs.YtgajdmadbdbabaaGreatDoor
open Go.RowKit Cx
attribute [local go_sem ↓] Go.wp_at_zero Go.wp_at_succ
end Go.Proofs.YtgajdmadbdbabaaGreatDoor
/- WR -/
namespace Go.Proofs.YtgajdmadbdbabaaGreatDoor
open Go.RowKit Cx
attribute [local go_sem ↓] Go.wp_at_zero Go.wp_at_succ
theorem beside_walk {w : World} {la lb lc px py : ByteArray} (s1 : la.data.toList.length ≤ 4294967296) (s2 : lb.data.toList.length ≤ 4294967296) (s3 : lc.data.toList.length ≤ 4294967296) (s4 : px.data.toList.length ≤ 4294967296) (s5 : py.data.toList.length ≤ 4294967296) {k l : Nat} (f1 : QS k (rd la.data.toList)) (f2 : QS k (rd lb.data.toList)) (f3 : QS l (rd px.data.toList)) (f4 : QS l (rd py.data.toList)) (hk : 20 * (k + l + 1) ≤ 35184372088640) (tab : Tab w) :
    Calls Tryz.prog 17 #[.agg #[.string la, .string lb, .string lc], .agg #[.string px, .string py]] w fun e w' => Below w.heap.size w w' ∧ ∃ (sa sb sc : ByteArray) (z : Int), e = .returned (.tuple #[.agg #[.string sa, .string sb, .string sc], .int .i64 z]) ∧ LineAns (rd la.data.toList) (rd lb.data.toList) (-(rd la.data.toList * rd px.data.toList + rd lb.data.toList * rd py.data.toList)) sa.data.toList sb.data.toList sc.data.toList z := by
  obtain ⟨hb0, hk0, hk1, hk2, hsz⟩ := boxes3 w #[.string la, .string lb, .string lc] #[.string px, .string py] #[.string ⟨#[]⟩, .string ⟨#[]⟩, .string ⟨#[]⟩] 26 24 26
  have HB0 := hideIt hb0
  have HSZ := hideIt hsz
  have HK1 := hideIt hk1
  have HK2 := hideIt hk2
  have HTAB := hideIt (tab.below hb0)
  have S1 := hideIt s1
  have S2 := hideIt s2
  have S3 := hideIt s3
  have S4 := hideIt s4
  have S5 := hideIt s5
  have F1 := hideIt f1
  have F2 := hideIt f2
  have F3 := hideIt f3
  have F4 := hideIt f4
  have HK := hideIt hk
  clear hb0 hsz hk0 hk1 hk2 tab s1 s2 s3 s4 s5 f1 f2 f3 f4 hk
  go_enter Tryz.func17, Tryz.ntmps17
  go_wp2_with fail
  generalize (((w.alloc (.cells #[.string la, .string lb, .string lc] 26)).alloc (.cells #[.string px, .string py] 24)).alloc (.cells #[.string ⟨#[]⟩, .string ⟨#[]⟩, .string ⟨#[]⟩] 26)) = W0 at *
  refine (rulerRead_calls ⟨la, lb, lc, rfl, rfl, rfl, rfl⟩ S1.out S2.out S3.out).mono ?_
  rintro _ w1 ⟨hb1, ⟨h1, h2, rfl⟩ | ⟨hn, v1, rfl, hv1⟩⟩
  · have HKR := hideIt (HK2.out.below hb1 (by rw [HSZ.out]; omega))
    have HBW := hideIt (HB0.out.trans (hb1.mono HB0.out.size))
    have ha : ∀ o, Blk (w1.alloc o) (w.heap.size + 1 + 1) #[.string ⟨#[]⟩, .string ⟨#[]⟩, .string ⟨#[]⟩] 26 := fun o => HKR.out.below (below_new w1 o) HKR.out.lt
    have r0 : ∀ o, (w1.alloc o).cell? ⟨w.heap.size + 1 + 1, 0, none⟩ = some (.string ⟨#[]⟩) := fun o => (ha o).cell 0
    have r1 : ∀ o, (w1.alloc o).cell? ⟨w.heap.size + 1 + 1, 1, none⟩ = some (.string ⟨#[]⟩) := fun o => (ha o).cell 1
    have r2 : ∀ o, (w1.alloc o).cell? ⟨w.heap.size + 1 + 1, 2, none⟩ = some (.string ⟨#[]⟩) := fun o => (ha o).cell 2
    have j0 : ∀ o, (w1.alloc o).frozen? ⟨w.heap.size + 1 + 1, 0, none⟩ = false := fun o => (ha o).frozen 0
    have j1 : ∀ o, (w1.alloc o).frozen? ⟨w.heap.size + 1 + 1, 1, none⟩ = false := fun o => (ha o).frozen 1
    have j2 : ∀ o, (w1.alloc o).frozen? ⟨w.heap.size + 1 + 1, 2, none⟩ = false := fun o => (ha o).frozen 2
    have HH := hideIt (And.intro h1 h2)
    have hq := HKR.out.all3
    obtain ⟨q0, q1, q2, g0, g1, g2⟩ := hq
    have lR := HKR.out.lt
    clear ha hb1 h1 h2
    go_wp2
    obtain ⟨k0, k1, k2, _⟩ := ((HKR.out.put3 (.string ⟨#[]⟩) (.string ⟨#[]⟩) (.string ⟨#[]⟩)).old (.cells #[.bool false, .slice none 0 0, .slice none 0 0, .bool false, .slice none 0 0, .slice none 0 0, .bool false, .slice none 0 0, .slice none 0 0] 97)).all3
    have hbf := (Below.put3 HBW.out (g := w.heap.size + 1 + 1) (by omega) (.string ⟨#[]⟩) (.string ⟨#[]⟩) (.string ⟨#[]⟩))
    exact bodyPost_ret (v := .tuple #[.agg #[.string ⟨#[]⟩, .string ⟨#[]⟩, .string ⟨#[]⟩], .int .i64 5]) (by simp [results, Tryz.results17, go_sem, k0, k1, k2]) rfl ⟨hbf.alloc hbf.size _, _, _, _, _, rfl, Or.inl ⟨HH.out.1, HH.out.2, rfl, rfl, rfl, rfl⟩⟩
  · obtain ⟨a, b, c, rfl, hx, hy, hz⟩ := hv1
    have HX := hideIt hx
    have HY := hideIt hy
    have HB1 := hideIt hb1
    clear hx hy hz hb1 hn
    go_wp2_with fail
    obtain ⟨w2, hw2⟩ : ∃ w2, w2 = w1.alloc (.cells #[.bool a.n, .slice a.u a.nu a.cu, .slice a.l a.nl a.cl, .bool b.n, .slice b.u b.nu b.cu, .slice b.l b.nl b.cl, .bool c.n, .slice c.u c.nu c.cu, .slice c.l c.nl c.cl] 97) := ⟨_, rfl⟩
    have hbA := below_new w1 (.cells #[.bool a.n, .slice a.u a.nu a.cu, .slice a.l a.nl a.cl, .bool b.n, .slice b.u b.nu b.cu, .slice b.l b.nl b.cl, .bool c.n, .slice c.u c.nu c.cu, .slice c.l c.nl c.cl] 97)
    have HKG := hideIt (Blk.new w1 #[.bool a.n, .slice a.u a.nu a.cu, .slice a.l a.nl a.cl, .bool b.n, .slice b.u b.nu b.cu, .slice b.l b.nl b.cl, .bool c.n, .slice c.u c.nu c.cu, .slice c.l c.nl c.cl] 97)
    rw [← hw2] at hbA HKG ⊢
    have HBL : Hid (Below W0.heap.size W0 w2) := HB1.out.trans (hbA.mono HB1.out.size)
    have HX2 := hideIt (HX.out.below hbA)
    have HY2 := hideIt (HY.out.below hbA)
    clear hbA hw2
    obtain ⟨G, hG⟩ : ∃ G, G = w1.heap.size := ⟨_, rfl⟩
    rw [← hG] at HKG ⊢
    have HGge : Hid (W0.heap.size ≤ G) := by rw [hG]; exact HB1.out.size
    clear hG
    have HKP := hideIt (HK1.out.below HBL.out (by rw [HSZ.out]; omega))
    have HKR := hideIt (HK2.out.below HBL.out (by rw [HSZ.out]; omega))
    have HTC := hideIt (HTAB.out.below HBL.out)
    have HS : Hid (∀ w', Below w2.heap.size w2 w' → w'.cell? ⟨w.heap.size + 1, 0, none⟩ = some (.string px) ∧ w'.cell? ⟨w.heap.size + 1, 1, none⟩ = some (.string py) ∧ w'.cell? ⟨G, 0, none⟩ = some (.bool a.n) ∧ w'.cell? ⟨G, 1, none⟩ = some (.slice a.u a.nu a.cu) ∧ w'.cell? ⟨G, 2, none⟩ = some (.slice a.l a.nl a.cl) ∧ w'.cell? ⟨G, 3, none⟩ = some (.bool b.n) ∧ w'.cell? ⟨G, 4, none⟩ = some (.slice b.u b.nu b.cu) ∧ w'.cell? ⟨G, 5, none⟩ = some (.slice b.l b.nl b.cl) ∧ w'.cell? ⟨G, 6, none⟩ = some (.bool c.n) ∧ w'.cell? ⟨G, 7, none⟩ = some (.slice c.u c.nu c.cu) ∧ w'.cell? ⟨G, 8, none⟩ = some (.slice c.l c.nl c.cl)) := fun w' hb => ⟨(HKP.out.below hb HKP.out.lt).cell 0, (HKP.out.below hb HKP.out.lt).cell 1, (HKG.out.below hb HKG.out.lt).cell 0, (HKG.out.below hb HKG.out.lt).cell 1, (HKG.out.below hb HKG.out.lt).cell 2, (HKG.out.below hb HKG.out.lt).cell 3, (HKG.out.below hb HKG.out.lt).cell 4, (HKG.out.below hb HKG.out.lt).cell 5, (HKG.out.below hb HKG.out.lt).cell 6, (HKG.out.below hb HKG.out.lt).cell 7, (HKG.out.below hb HKG.out.lt).cell 8⟩
    have HRS : Hid (w.heap.size + 1 + 1 ≠ G) := by
      have := HSZ.out
      have := HGge.out
      show _ ≠ _
      omega
    have HSS : Hid (∀ w', Below w2.heap.size w2 w' → ∀ x0 x1 x2 : Value, (((w'.setCell ⟨w.heap.size + 1 + 1, 0, none⟩ (x0)).setCell ⟨w.heap.size + 1 + 1, 1, none⟩ (x1)).setCell ⟨w.heap.size + 1 + 1, 2, none⟩ (x2)).cell? ⟨w.heap.size + 1, 0, none⟩ = some (.string px) ∧ (((w'.setCell ⟨w.heap.size + 1 + 1, 0, none⟩ (x0)).setCell ⟨w.heap.size + 1 + 1, 1, none⟩ (x1)).setCell ⟨w.heap.size + 1 + 1, 2, none⟩ (x2)).cell? ⟨w.heap.size + 1, 1, none⟩ = some (.string py) ∧ (((w'.setCell ⟨w.heap.size + 1 + 1, 0, none⟩ (x0)).setCell ⟨w.heap.size + 1 + 1, 1, none⟩ (x1)).setCell ⟨w.heap.size + 1 + 1, 2, none⟩ (x2)).cell? ⟨G, 0, none⟩ = some (.bool a.n) ∧ (((w'.setCell ⟨w.heap.size + 1 + 1, 0, none⟩ (x0)).setCell ⟨w.heap.size + 1 + 1, 1, none⟩ (x1)).setCell ⟨w.heap.size + 1 + 1, 2, none⟩ (x2)).cell? ⟨G, 1, none⟩ = some (.slice a.u a.nu a.cu) ∧ (((w'.setCell ⟨w.heap.size + 1 + 1, 0, none⟩ (x0)).setCell ⟨w.heap.size + 1 + 1, 1, none⟩ (x1)).setCell ⟨w.heap.size + 1 + 1, 2, none⟩ (x2)).cell? ⟨G, 2, none⟩ = some (.slice a.l a.nl a.cl) ∧ (((w'.setCell ⟨w.heap.size + 1 + 1, 0, none⟩ (x0)).setCell ⟨w.heap.size + 1 + 1, 1, none⟩ (x1)).setCell ⟨w.heap.size + 1 + 1, 2, none⟩ (x2)).cell? ⟨G, 3, none⟩ = some (.bool b.n) ∧ (((w'.setCell ⟨w.heap.size + 1 + 1, 0, none⟩ (x0)).setCell ⟨w.heap.size + 1 + 1, 1, none⟩ (x1)).setCell ⟨w.heap.size + 1 + 1, 2, none⟩ (x2)).cell? ⟨G, 4, none⟩ = some (.slice b.u b.nu b.cu) ∧ (((w'.setCell ⟨w.heap.size + 1 + 1, 0, none⟩ (x0)).setCell ⟨w.heap.size + 1 + 1, 1, none⟩ (x1)).setCell ⟨w.heap.size + 1 + 1, 2, none⟩ (x2)).cell? ⟨G, 5, none⟩ = some (.slice b.l b.nl b.cl) ∧ (((w'.setCell ⟨w.heap.size + 1 + 1, 0, none⟩ (x0)).setCell ⟨w.heap.size + 1 + 1, 1, none⟩ (x1)).setCell ⟨w.heap.size + 1 + 1, 2, none⟩ (x2)).cell? ⟨G, 6, none⟩ = some (.bool c.n) ∧ (((w'.setCell ⟨w.heap.size + 1 + 1, 0, none⟩ (x0)).setCell ⟨w.heap.size + 1 + 1, 1, none⟩ (x1)).setCell ⟨w.heap.size + 1 + 1, 2, none⟩ (x2)).cell? ⟨G, 7, none⟩ = some (.slice c.u c.nu c.cu) ∧ (((w'.setCell ⟨w.heap.size + 1 + 1, 0, none⟩ (x0)).setCell ⟨w.heap.size + 1 + 1, 1, none⟩ (x1)).setCell ⟨w.heap.size + 1 + 1, 2, none⟩ (x2)).cell? ⟨G, 8, none⟩ = some (.slice c.l c.nl c.cl)) := fun w' hb x0 x1 x2 => ⟨((HKP.out.below hb HKP.out.lt).off3 (g := w.heap.size + 1 + 1) (by omega) x0 x1 x2).cell 0, ((HKP.out.below hb HKP.out.lt).off3 (g := w.heap.size + 1 + 1) (by omega) x0 x1 x2).cell 1, ((HKG.out.below hb HKG.out.lt).off3 (g := w.heap.size + 1 + 1) HRS.out x0 x1 x2).cell 0, ((HKG.out.below hb HKG.out.lt).off3 (g := w.heap.size + 1 + 1) HRS.out x0 x1 x2).cell 1, ((HKG.out.below hb HKG.out.lt).off3 (g := w.heap.size + 1 + 1) HRS.out x0 x1 x2).cell 2, ((HKG.out.below hb HKG.out.lt).off3 (g := w.heap.size + 1 + 1) HRS.out x0 x1 x2).cell 3, ((HKG.out.below hb HKG.out.lt).off3 (g := w.heap.size + 1 + 1) HRS.out x0 x1 x2).cell 4, ((HKG.out.below hb HKG.out.lt).off3 (g := w.heap.size + 1 + 1) HRS.out x0 x1 x2).cell 5, ((HKG.out.below hb HKG.out.lt).off3 (g := w.heap.size + 1 + 1) HRS.out x0 x1 x2).cell 6, ((HKG.out.below hb HKG.out.lt).off3 (g := w.heap.size + 1 + 1) HRS.out x0 x1 x2).cell 7, ((HKG.out.below hb HKG.out.lt).off3 (g := w.heap.size + 1 + 1) HRS.out x0 x1 x2).cell 8⟩
    obtain ⟨z0, z1, z2, z3, z4, z5, z6, z7, z8, z9, z10⟩ := HS.out w2 (Below.refl _ _)
    go_region_held3 (fun w' => w'.cell? ⟨w.heap.size + 1, 0, none⟩ = some (.string px) ∧ w'.cell? ⟨w.heap.size + 1, 1, none⟩ = some (.string py) ∧ w'.cell? ⟨G, 0, none⟩ = some (.bool a.n) ∧ w'.cell? ⟨G, 1, none⟩ = some (.slice a.u a.nu a.cu) ∧ w'.cell? ⟨G, 2, none⟩ = some (.slice a.l a.nl a.cl) ∧ w'.cell? ⟨G, 3, none⟩ = some (.bool b.n) ∧ w'.cell? ⟨G, 4, none⟩ = some (.slice b.u b.nu b.cu) ∧ w'.cell? ⟨G, 5, none⟩ = some (.slice b.l b.nl b.cl) ∧ w'.cell? ⟨G, 6, none⟩ = some (.bool c.n) ∧ w'.cell? ⟨G, 7, none⟩ = some (.slice c.u c.nu c.cu) ∧ w'.cell? ⟨G, 8, none⟩ = some (.slice c.l c.nl c.cl)) (first | go_keep | exact hs3 | exact hs4 | exact hkS)
      (first
        | (go_at_call 62; refine (wayRead_calls (w := w2.drew) ⟨px, py, rfl, rfl, rfl⟩ S4.out S5.out).mono ?_; rintro _ w3 ⟨hb3, v3, rfl, hv3⟩; have hw3 := hv3; obtain ⟨d3, e3, rfl, hx3, hy3⟩ := hw3; have hbl3 : Below w2.heap.size w2 w3 := (Below.drew (Below.refl _ w2)).trans hb3; have hs3 := HS.out w3 hbl3)
        | (go_at_call 63; refine (square_ans hv3 ⟨a, b, rfl, HX2.out.below hbl3, HY2.out.below hbl3⟩ F1.out F2.out F3.out F4.out HK.out (HTC.out.below hbl3)).mono ?_; rintro _ w4 ⟨hb4, sa, sb, sc, z, rfl, hans⟩; have hbl4 := hbl3.trans (hb4.mono hbl3.size); have hs4 := HS.out w4 hbl4; have hkr := HKR.out.below hbl4 HKR.out.lt; obtain ⟨r0, r1, r2, j0, j1, j2⟩ := hkr.all3; have hkS := HSS.out w4 hbl4 (.string sa) (.string sb) (.string sc); have HANS := hideIt hans; clear hans)
        )
    all_goals
      go_wp2
      obtain ⟨k0, k1, k2, _⟩ := (hkr.put3 (.string sa) (.string sb) (.string sc)).all3
      exact bodyPost_ret (v := .tuple #[.agg #[.string sa, .string sb, .string sc], .int .i64 z]) (by simp [results, Tryz.results17, go_sem, k0, k1, k2]) rfl ⟨Below.put3 (HB0.out.trans ((HBL.out.trans (hbl4.mono HBL.out.size)).mono HB0.out.size)) (by omega) _ _ _, sa, sb, sc, z, rfl, HANS.out⟩
end Go.Proofs.YtgajdmadbdbabaaGreatDoor
/- AWF -/
namespace Go.Proofs.YtgajdmadbdbabaaGreatDoor
open Go.RowKit Cx
theorem en_compasslaw_lined (vs : Array Value) (w : World) : (callFunc 18 vs).run Tryz.prog w = .ok (.enter 18 vs) w := enters Tryz.func18 (by kernel_rfl) (by kernel_rfl) vs w
theorem con_lined : Con Tryz.prog Pre 18 [] (Bo true) := fun w vs hp hall => by
  obtain rfl := all2_none hall
  refine (lined_calls w hp.1).mono ?_
  rintro _ w' ⟨hb, rfl⟩
  exact ⟨hb, _, rfl, rfl⟩
theorem lineAns_ok {x y c : Rat} {la lb lc sa sb sc : ByteArray} {z : Int} {w : World} (h : LineAns x y c la.data.toList lb.data.toList lc.data.toList z) (hn : ¬ (x = 0 ∧ y = 0)) (ea : sa.data.toList = tx (x * fac [x, y, c])) (eb : sb.data.toList = tx (y * fac [x, y, c])) (ec : sc.data.toList = tx (c * fac [x, y, c])) : (Tup [L3 sa sb sc, In 0]).on (.tuple #[.agg #[.string la, .string lb, .string lc], .int .i64 z]) w := by
  rcases h with ⟨h1, h2, _⟩ | ⟨_, rfl, h1, h2, h3⟩
  · exact absurd ⟨h1, h2⟩ hn
  · obtain rfl : la = sa := (bytes_of (h1.trans ea.symm)).trans (bytes_of rfl).symm
    obtain rfl : lb = sb := (bytes_of (h2.trans eb.symm)).trans (bytes_of rfl).symm
    obtain rfl : lc = sc := (bytes_of (h3.trans ec.symm)).trans (bytes_of rfl).symm
    exact ⟨[_, _], rfl, L3.mk _ _ _ _, rfl, trivial⟩
theorem lineAns_flat {x y c : Rat} {la lb lc : ByteArray} {z : Int} {w : World} (h : LineAns x y c la.data.toList lb.data.toList lc.data.toList z) (hf : x = 0 ∧ y = 0) : (Tup [L3 ⟨#[]⟩ ⟨#[]⟩ ⟨#[]⟩, In 5]).on (.tuple #[.agg #[.string la, .string lb, .string lc], .int .i64 z]) w := by
  rcases h with ⟨_, _, rfl, h1, h2, h3⟩ | ⟨hn, _⟩
  · obtain rfl : la = ⟨#[]⟩ := bytes_of h1
    obtain rfl : lb = ⟨#[]⟩ := bytes_of h2
    obtain rfl : lc = ⟨#[]⟩ := bytes_of h3
    exact ⟨[_, _], rfl, L3.mk _ _ _ _, rfl, trivial⟩
  · exact absurd hf hn
theorem en_line_Beside (vs : Array Value) (w : World) : (callFunc 17 vs).run Tryz.prog w = .ok (.enter 17 vs) w := enters Tryz.func17 (by kernel_rfl) (by kernel_rfl) vs w
theorem con_beside_ok {la lb lc px py sa sb sc : ByteArray} {rla rlb rlc rpx rpy : Rat} {C : Rat} {k : Nat} (tla : TX k la rla) (tlb : TX k lb rlb) (tlc : TX k lc rlc) (tpx : TX k px rpx) (tpy : TX k py rpy) (eC : C = -(rla * rpx + rlb * rpy)) (hs : 2 * k + 4 ≤ 4294967296) (hk : 20 * (k + k + 1) ≤ 35184372088640) (hn : ¬ (rla = 0 ∧ rlb = 0)) (ea : sa.data.toList = tx (rla * fac [rla, rlb, C])) (eb : sb.data.toList = tx (rlb * fac [rla, rlb, C])) (ec : sc.data.toList = tx (C * fac [rla, rlb, C])) : Con Tryz.prog Pre 17 [L3 la lb lc, P2 px py] (Tup [L3 sa sb sc, In 0]) := fun w vs hp hall => by
  obtain ⟨v0, v1, rfl, h1, h2⟩ := all2_two hall
  cases L3.eq h1
  cases P2.eq h2
  have erla := tla.rd
  have erlb := tlb.rd
  have erlc := tlc.rd
  have erpx := tpx.rd
  have erpy := tpy.rd
  subst erla erlb erlc erpx erpy
  refine (beside_walk (tla.len hs) (tlb.len hs) (tlc.len hs) (tpx.len hs) (tpy.len hs) tla.qs tlb.qs tpx.qs tpy.qs hk hp.1).mono ?_
  rintro _ w' ⟨hb, la, lb, lc, z, rfl, hans⟩
  subst eC
  exact ⟨hb, _, rfl, lineAns_ok hans hn ea eb ec⟩
theorem con_beside_flat {la lb lc px py : ByteArray} {rla rlb rlc rpx rpy : Rat} {C : Rat} {k : Nat} (tla : TX k la rla) (tlb : TX k lb rlb) (tlc : TX k lc rlc) (tpx : TX k px rpx) (tpy : TX k py rpy) (eC : C = -(rla * rpx + rlb * rpy)) (hs : 2 * k + 4 ≤ 4294967296) (hk : 20 * (k + k + 1) ≤ 35184372088640) (hf : rla = 0 ∧ rlb = 0) : Con Tryz.prog Pre 17 [L3 la lb lc, P2 px py] (Tup [L3 ⟨#[]⟩ ⟨#[]⟩ ⟨#[]⟩, In 5]) := fun w vs hp hall => by
  obtain ⟨v0, v1, rfl, h1, h2⟩ := all2_two hall
  cases L3.eq h1
  cases P2.eq h2
  have erla := tla.rd
  have erlb := tlb.rd
  have erlc := tlc.rd
  have erpx := tpx.rd
  have erpy := tpy.rd
  subst erla erlb erlc erpx erpy
  refine (beside_walk (tla.len hs) (tlb.len hs) (tlc.len hs) (tpx.len hs) (tpy.len hs) tla.qs tlb.qs tpx.qs tpy.qs hk hp.1).mono ?_
  rintro _ w' ⟨hb, la, lb, lc, z, rfl, hans⟩
  subst eC
  exact ⟨hb, _, rfl, lineAns_flat hans hf⟩
end Go.Proofs.YtgajdmadbdbabaaGreatDoor
/- XA -/
namespace Go.Proofs.YtgajdmadbdbabaaGreatDoor
open Go.RowKit Cx
attribute [local go_sem ↓] Go.wp_at_zero Go.wp_at_succ
end Go.Proofs.YtgajdmadbdbabaaGreatDoor
/- XB -/
namespace Go.Proofs.YtgajdmadbdbabaaGreatDoor
open Go.RowKit Cx
attribute [local go_sem ↓] Go.wp_at_zero Go.wp_at_succ
end Go.Proofs.YtgajdmadbdbabaaGreatDoor
/- XC -/
namespace Go.Proofs.YtgajdmadbdbabaaGreatDoor
open Go.RowKit Cx
attribute [local go_sem ↓] Go.wp_at_zero Go.wp_at_succ
def AngAns (none : Prop) (X Y : Rat) (s c : List UInt8) (z : Int) : Prop :=
  (none ∧ z = 5 ∧ s = [] ∧ c = []) ∨ (¬ none ∧ z = 0 ∧ s = tx (Y * fac [X, Y]) ∧ c = tx (X * fac [X, Y]))
end Go.Proofs.YtgajdmadbdbabaaGreatDoor
/- XD -/
namespace Go.Proofs.YtgajdmadbdbabaaGreatDoor
open Go.RowKit Cx
attribute [local go_sem ↓] Go.wp_at_zero Go.wp_at_succ
end Go.Proofs.YtgajdmadbdbabaaGreatDoor
/- XE -/
namespace Go.Proofs.YtgajdmadbdbabaaGreatDoor
open Go.RowKit Cx
attribute [local go_sem ↓] Go.wp_at_zero Go.wp_at_succ
end Go.Proofs.YtgajdmadbdbabaaGreatDoor
/- XF -/
namespace Go.Proofs.YtgajdmadbdbabaaGreatDoor
open Go.RowKit Cx
attribute [local go_sem ↓] Go.wp_at_zero Go.wp_at_succ
end Go.Proofs.YtgajdmadbdbabaaGreatDoor
/- XG -/
namespace Go.Proofs.YtgajdmadbdbabaaGreatDoor
open Go.RowKit Cx
theorem sq_nonneg (a : Rat) : 0 ≤ a * a := by
  rcases Rat.le_total (a := 0) (b := a) with h | h
  · exact Rat.mul_nonneg h h
  · have := Rat.mul_nonneg (Rat.neg_le_neg h) (Rat.neg_le_neg h)
    grind
theorem norm_ne {a b : Rat} (h : ¬ (a = 0 ∧ b = 0)) : a * a + b * b ≠ 0 := by
  intro e
  have h1 := sq_nonneg a
  have h2 := sq_nonneg b
  have e1 : a * a = 0 := by grind
  have e2 : b * b = 0 := by grind
  exact h ⟨(Rat.mul_eq_zero.1 e1).elim id id, (Rat.mul_eq_zero.1 e2).elim id id⟩
theorem ne_norm {a b : Rat} (h : a * a + b * b ≠ 0) : ¬ (a = 0 ∧ b = 0) := by
  rintro ⟨rfl, rfl⟩
  exact h (by decide +kernel)
theorem prod_ne {a b c d : Rat} (h1 : ¬ (a = 0 ∧ b = 0)) (h2 : ¬ (c = 0 ∧ d = 0)) : ¬ (a * c - b * d = 0 ∧ a * d + b * c = 0) := by
  apply ne_norm
  have e : (a * c - b * d) * (a * c - b * d) + (a * d + b * c) * (a * d + b * c) = (a * a + b * b) * (c * c + d * d) := by grind
  rw [e]
  intro h
  exact (Rat.mul_eq_zero.1 h).elim (norm_ne h1) (norm_ne h2)
theorem fac2_ne {x y : Rat} (h : ¬ (x = 0 ∧ y = 0)) : fac [x, y] ≠ 0 := by
  by_cases hx : x = 0
  · exact fac_ne (q := y) (by simp) (fun e => h ⟨hx, e⟩)
  · exact fac_ne (q := x) (by simp) hx
theorem scaled_ne {x y f : Rat} (h : ¬ (x = 0 ∧ y = 0)) (hf : f ≠ 0) : ¬ (x * f = 0 ∧ y * f = 0) := by
  rintro ⟨h1, h2⟩
  exact h ⟨(Rat.mul_eq_zero.1 h1).resolve_right hf, (Rat.mul_eq_zero.1 h2).resolve_right hf⟩
theorem plain_one {r : Rat} (h : r ≠ 0) : r * fac [r, 0] = 1 := by
  have hn : r.num ≠ 0 := fun e => h (Rat.num_eq_zero.1 e)
  rw [← pl_mul (qs := [r, 0]) (by simp)]
  have e1 : gN [r, 0] = r.num.natAbs := by simp [gN]
  have e2 : lD [r, 0] = r.den := by simp [lD]
  have e3 : fb [r, 0] = decide (r.num < 0) := by simp [fb, hn]
  unfold pl
  rw [e1, e2, e3, Nat.div_self (by omega), Nat.div_self r.den_pos]
  simp [sg]
theorem three {X1 Y1 X2 Y2 X3 Y3 : Rat} {s1 c1 s2 c2 s3 c3 s4 c4 s5 c5 : List UInt8} {h i : Int}
    (n1 : ¬ (X1 = 0 ∧ Y1 = 0)) (n2 : ¬ (X2 = 0 ∧ Y2 = 0)) (n3 : ¬ (X3 = 0 ∧ Y3 = 0)) (t : (X1 * X2 - Y1 * Y2) * Y3 + (X1 * Y2 + Y1 * X2) * X3 = 0)
    (e1 : s1 = tx (Y1 * fac [X1, Y1]) ∧ c1 = tx (X1 * fac [X1, Y1])) (e2 : s2 = tx (Y2 * fac [X2, Y2]) ∧ c2 = tx (X2 * fac [X2, Y2])) (e3 : s3 = tx (Y3 * fac [X3, Y3]) ∧ c3 = tx (X3 * fac [X3, Y3]))
    (a4 : AngAns ((rd c1 = 0 ∧ rd s1 = 0) ∨ (rd c2 = 0 ∧ rd s2 = 0)) (rd c1 * rd c2 - rd s1 * rd s2) (rd c1 * rd s2 + rd s1 * rd c2) s4 c4 h)
    (a5 : AngAns ((rd c4 = 0 ∧ rd s4 = 0) ∨ (rd c3 = 0 ∧ rd s3 = 0)) (rd c4 * rd c3 - rd s4 * rd s3) (rd c4 * rd s3 + rd s4 * rd c3) s5 c5 i) :
    h = 0 ∧ i = 0 ∧ s5 = [48] ∧ c5 = [49] := by
  have f1 := fac2_ne n1
  have f2 := fac2_ne n2
  have f3 := fac2_ne n3
  obtain ⟨rfl, rfl⟩ := e1
  obtain ⟨rfl, rfl⟩ := e2
  obtain ⟨rfl, rfl⟩ := e3
  simp only [rd_tx] at a4 a5
  have m1 := scaled_ne n1 f1
  have m2 := scaled_ne n2 f2
  have m3 := scaled_ne n3 f3
  generalize fac [X1, Y1] = g1 at *
  generalize fac [X2, Y2] = g2 at *
  generalize fac [X3, Y3] = g3 at *
  have n4 := prod_ne m1 m2
  rcases a4 with ⟨a4, _⟩ | ⟨_, h4, es, ec⟩
  · exact absurd a4 (fun h => h.elim m1 m2)
  · have f4 := fac2_ne n4
    have m4 := scaled_ne n4 f4
    rw [es, ec] at a5
    simp only [rd_tx] at a5
    generalize fac [X1 * g1 * (X2 * g2) - Y1 * g1 * (Y2 * g2), X1 * g1 * (Y2 * g2) + Y1 * g1 * (X2 * g2)] = g4 at *
    have n5 := prod_ne m4 m3
    rcases a5 with ⟨a5, _⟩ | ⟨_, h5, es, ec⟩
    · exact absurd a5 (fun h => h.elim m4 m3)
    · have z : (X1 * g1 * (X2 * g2) - Y1 * g1 * (Y2 * g2)) * g4 * (Y3 * g3) + (X1 * g1 * (Y2 * g2) + Y1 * g1 * (X2 * g2)) * g4 * (X3 * g3) = 0 := by
        have : (X1 * g1 * (X2 * g2) - Y1 * g1 * (Y2 * g2)) * g4 * (Y3 * g3) + (X1 * g1 * (Y2 * g2) + Y1 * g1 * (X2 * g2)) * g4 * (X3 * g3) = ((X1 * X2 - Y1 * Y2) * Y3 + (X1 * Y2 + Y1 * X2) * X3) * (g1 * g2 * g3 * g4) := by grind
        rw [this, t, Rat.zero_mul]
      rw [z] at es ec n5
      generalize (X1 * g1 * (X2 * g2) - Y1 * g1 * (Y2 * g2)) * g4 * (X3 * g3) - (X1 * g1 * (Y2 * g2) + Y1 * g1 * (X2 * g2)) * g4 * (Y3 * g3) = r at *
      have hr : r ≠ 0 := fun e => n5 ⟨e, rfl⟩
      rw [Rat.zero_mul] at es
      rw [plain_one hr] at ec
      exact ⟨h4, h5, es.trans (tx_int 0 (by decide)), ec.trans (tx_int 1 (by decide))⟩
end Go.Proofs.YtgajdmadbdbabaaGreatDoor
/- XH -/
namespace Go.Proofs.YtgajdmadbdbabaaGreatDoor
open Go.RowKit Cx
attribute [local go_sem ↓] Go.wp_at_zero Go.wp_at_succ
end Go.Proofs.YtgajdmadbdbabaaGreatDoor
/- AWG -/
namespace Go.Proofs.YtgajdmadbdbabaaGreatDoor
open Go.RowKit Cx
end Go.Proofs.YtgajdmadbdbabaaGreatDoor
/- AWR -/
namespace Go.Proofs.YtgajdmadbdbabaaGreatDoor
open Go.RowKit Cx
theorem en_ruler_Read (vs : Array Value) (w : World) : (callFunc 71 vs).run Tryz.prog w = .ok (.enter 71 vs) w := enters Tryz.func71 (by kernel_rfl) (by kernel_rfl) vs w
theorem con_rread_ok {la lb lc : ByteArray} {rla rlb rlc : Rat} {k : Nat} (tla : TX k la rla) (tlb : TX k lb rlb) (tlc : TX k lc rlc) (hs : 2 * k + 4 ≤ 4294967296) (hn : ¬ (rla = 0 ∧ rlb = 0)) : Con Tryz.prog Pre 71 [L3 la lb lc] (Tup [Lv rla rlb rlc, In 0]) := fun w vs hp hall => by
  obtain ⟨v0, rfl, h1⟩ := all2_one hall
  cases L3.eq h1
  have erla := tla.rd
  have erlb := tlb.rd
  have erlc := tlc.rd
  subst erla erlb erlc
  refine (rulerRead_calls ⟨_, _, _, rfl, rfl, rfl, rfl⟩ (tla.len hs) (tlb.len hs) (tlc.len hs)).mono ?_
  rintro _ w' ⟨hb, ⟨h1, h2, rfl⟩ | ⟨hn', v, rfl, hv⟩⟩
  · exact absurd ⟨h1, h2⟩ hn
  · exact ⟨hb, _, rfl, [_, _], rfl, hv, rfl, trivial⟩
theorem con_rread_flat {la lb lc : ByteArray} {rla rlb rlc : Rat} {k : Nat} (tla : TX k la rla) (tlb : TX k lb rlb) (tlc : TX k lc rlc) (hs : 2 * k + 4 ≤ 4294967296) (hf : (rla = 0 ∧ rlb = 0)) : Con Tryz.prog Pre 71 [L3 la lb lc] (Tup [Lv 0 0 0, In 5]) := fun w vs hp hall => by
  obtain ⟨v0, rfl, h1⟩ := all2_one hall
  cases L3.eq h1
  have erla := tla.rd
  have erlb := tlb.rd
  have erlc := tlc.rd
  subst erla erlb erlc
  refine (rulerRead_calls ⟨_, _, _, rfl, rfl, rfl, rfl⟩ (tla.len hs) (tlb.len hs) (tlc.len hs)).mono ?_
  rintro _ w' ⟨hb, ⟨h1, h2, rfl⟩ | ⟨hn', v, rfl, hv⟩⟩
  · exact ⟨hb, _, rfl, [_, _], rfl, lv_zero w', rfl, trivial⟩
  · exact absurd hf hn'
theorem en_way_Read (vs : Array Value) (w : World) : (callFunc 62 vs).run Tryz.prog w = .ok (.enter 62 vs) w := enters Tryz.func62 (by kernel_rfl) (by kernel_rfl) vs w
theorem con_wread {px py : ByteArray} {rpx rpy : Rat} {k : Nat} (tpx : TX k px rpx) (tpy : TX k py rpy) (hs : 2 * k + 4 ≤ 4294967296) : Con Tryz.prog Pre 62 [P2 px py] (Wv rpx rpy) := fun w vs _ hall => by
  obtain ⟨v0, rfl, h1⟩ := all2_one hall
  cases P2.eq h1
  have erpx := tpx.rd
  have erpy := tpy.rd
  subst erpx erpy
  refine (wayRead_calls ⟨_, _, rfl, rfl, rfl⟩ (tpx.len hs) (tpy.len hs)).mono ?_
  rintro _ w' ⟨hb, v, rfl, hv⟩
  exact ⟨hb, _, rfl, hv⟩
theorem en_way_Way_Left (vs : Array Value) (w : World) : (callFunc 65 vs).run Tryz.prog w = .ok (.enter 65 vs) w := enters Tryz.func65 (by kernel_rfl) (by kernel_rfl) vs w
theorem con_wleft {x y z : Rat} (ez : z = -y) : Con Tryz.prog Pre 65 [Wv x y] (Wv z x) := fun w vs _ hall => by
  obtain ⟨v0, rfl, h1⟩ := all2_one hall
  refine (wayLeft_calls h1).mono ?_
  rintro _ w' ⟨hb, v, rfl, hv⟩
  subst ez
  exact ⟨hb, _, rfl, hv⟩
theorem en_line_square (vs : Array Value) (w : World) : (callFunc 63 vs).run Tryz.prog w = .ok (.enter 63 vs) w := enters Tryz.func63 (by kernel_rfl) (by kernel_rfl) vs w
theorem con_insquare_ok {sa sb sc : ByteArray} {px py ax ay C : Rat} {k l : Nat} (eC : C = -(ax * px + ay * py)) (f1 : QS k ax) (f2 : QS k ay) (f3 : QS l px) (f4 : QS l py) (hk : 20 * (k + l + 1) ≤ 35184372088640) (hn : ¬ (ax = 0 ∧ ay = 0)) (ea : sa.data.toList = tx (ax * fac [ax, ay, C])) (eb : sb.data.toList = tx (ay * fac [ax, ay, C])) (ec : sc.data.toList = tx (C * fac [ax, ay, C])) : Con Tryz.prog Pre 63 [Wv px py, Wv ax ay] (Tup [L3 sa sb sc, In 0]) := fun w vs hp hall => by
  obtain ⟨v0, v1, rfl, h1, h2⟩ := all2_two hall
  refine (square_ans h1 h2 f1 f2 f3 f4 hk hp.1).mono ?_
  rintro _ w' ⟨hb, la, lb, lc, z, rfl, hans⟩
  subst eC
  exact ⟨hb, _, rfl, lineAns_ok hans hn ea eb ec⟩
end Go.Proofs.YtgajdmadbdbabaaGreatDoor
/- AWS -/
namespace Go.Proofs.YtgajdmadbdbabaaGreatDoor
open Go.RowKit Cx
theorem en_line_Square (vs : Array Value) (w : World) : (callFunc 40 vs).run Tryz.prog w = .ok (.enter 40 vs) w := enters Tryz.func40 (by kernel_rfl) (by kernel_rfl) vs w
theorem con_lsq_ok {la lb lc px py sa sb sc : ByteArray} {rla rlb rlc rpx rpy A C : Rat} {k : Nat} (tla : TX k la rla) (tlb : TX k lb rlb) (tlc : TX k lc rlc) (tpx : TX k px rpx) (tpy : TX k py rpy) (_ : A = -rlb) (_ : C = -(A * rpx + rla * rpy)) (_ : 2 * k + 4 ≤ 4294967296) (_ : 20 * (k + k + 1) ≤ 35184372088640) (_ : ¬ (A = 0 ∧ rla = 0)) (ea : sa.data.toList = tx (A * fac [A, rla, C])) (eb : sb.data.toList = tx (rla * fac [A, rla, C])) (ec : sc.data.toList = tx (C * fac [A, rla, C])) :
    Con Tryz.prog Pre 40 [Agg [Tx la, Tx lb, Tx lc], Agg [Tx px, Tx py]] (Tup [Agg [Tx sa, Tx sb, Tx sc], In (0)]) := by
  have hn0 : ¬ (rla = 0 ∧ rlb = 0) := by (subst_vars; grind)
  refine con_of (n := 25) Tryz.func40 rfl rfl (Nat.le_of_ble_eq_true rfl) ?_
  intro w a0 hp S0
  have HPRE : ∀ w', Below w.heap.size w w' → Pre w' := fun w' hb => hp.below hb
  refine wp_seq ?_
  refine region_abs [.alloc 26 (Agg [Tx la, Tx lb, Tx lc]), .alloc 24 (Agg [Tx px, Tx py]), .alloc 26 (Agg [Tx ⟨#[]⟩, Tx ⟨#[]⟩, Tx ⟨#[]⟩]), .pure (In (0))] ⟨S0, by decide +kernel⟩ (by kernel_rfl) (by kernel_rfl) rfl (by kernel_rfl) ?_ ?_
  · intro C
    refine ASteps.cons ?_ (ASteps.cons ?_ (ASteps.cons ?_ (ASteps.cons ?_ (ASteps.nil))))
    · exact step_box rfl rfl (want_none rfl) rfl (no_fill (by kernel_rfl)) (opn_old C 0 (by kernel_rfl) rfl) (boxes_L (cok3 (nl_tx la) (nl_tx lb) (nl_tx lc)))
    · exact step_box rfl rfl (want_none rfl) rfl (no_fill (by kernel_rfl)) (opn_old C 1 (by kernel_rfl) rfl) (boxes_P (cok2 (nl_tx px) (nl_tx py)))
    · exact step_new [.string ⟨#[]⟩, .string ⟨#[]⟩, .string ⟨#[]⟩] zero_L rfl rfl (want_none rfl) rfl (no_fill (by kernel_rfl)) allocs_L (by simp [notLimb]) (by kernel_rfl)
    · exact step_assign rfl rfl (want_none rfl) rfl (opn_const _)
  intro γ a1 w1 S1
  replace S1 : AS w 25 [(5, In (0)), (4, Jus (.pointer (some ⟨γ 2, 0, none⟩))), (3, Jus (.pointer (some ⟨γ 1, 0, none⟩))), (2, Jus (.pointer (some ⟨γ 0, 0, none⟩)))] [(γ 0, 26, Agg [Tx la, Tx lb, Tx lc]), (γ 1, 24, Agg [Tx px, Tx py]), (γ 2, 26, Agg [Tx ⟨#[]⟩, Tx ⟨#[]⟩, Tx ⟨#[]⟩])] a1 w1 := cast (by kernel_rfl) (S1.keep [2, 3, 4, 5])
  generalize γ 0 = G1_0 at S1
  generalize γ 1 = G1_1 at S1
  generalize γ 2 = G1_2 at S1
  clear S0
  refine then_normal ?_
  refine wp_seq ?_
  refine region_abs [.pure (Agg [Tx la, Tx lb, Tx lc]), .pure (Tup [Lv rla rlb rlc, In (0)]), .pure (Tup [Lv rla rlb rlc, In (0)]), .pure (Lv rla rlb rlc), .pure (In (0)), .alloc 97 (Any), .fill 5 (Lv rla rlb rlc), .pure (In (0))] ⟨S1, by decide +kernel⟩ (by kernel_rfl) (by kernel_rfl) rfl (by kernel_rfl) ?_ ?_
  · intro C
    refine ASteps.cons ?_ (ASteps.cons ?_ (ASteps.cons ?_ (ASteps.cons ?_ (ASteps.cons ?_ (ASteps.cons ?_ (ASteps.cons ?_ (ASteps.cons ?_ (ASteps.nil))))))))
    · exact step_load (k := 0) rfl rfl rfl (want_none rfl) rfl (opn_old C 3 (by kernel_rfl) rfl) (no_over (by kernel_rfl)) loads_L
    · exact step_call HPRE rfl rfl (want_none rfl) rfl en_ruler_Read (Opns.cons (opn_new C 0 0 rfl rfl rfl rfl rfl rfl) Opns.nil) (con_rread_ok tla tlb tlc (by first | decide | omega) hn0)
    · exact step_move rfl rfl (want_none rfl) rfl (opn_new C 1 0 rfl rfl rfl rfl rfl rfl)
    · exact step_extract (k := 0) rfl rfl (want_none rfl) rfl (opn_new C 2 0 rfl rfl rfl rfl rfl rfl) rfl
    · exact step_extract (k := 1) rfl rfl (want_none rfl) rfl (opn_new C 2 0 rfl rfl rfl rfl rfl rfl) rfl
    · exact step_new [.bool false, .slice none 0 0, .slice none 0 0, .bool false, .slice none 0 0, .slice none 0 0, .bool false, .slice none 0 0, .slice none 0 0] zero_R rfl rfl (want_none rfl) rfl (fill_waits (s0 := 6) (k := 0) (by kernel_rfl) rfl rfl rfl rfl) allocs_R (by simp [notLimb]) (by kernel_rfl)
    · exact step_fill C (a := 5) (k := 0) rfl rfl rfl rfl (want_none rfl) rfl rfl rfl rfl rfl (by decide) (one_fill (by kernel_rfl)) (opn_new C 3 1 rfl rfl rfl rfl rfl rfl) (stores_R (cok_lv _ _ _))
    · exact step_assign rfl rfl (want_none rfl) rfl (opn_new C 4 0 rfl rfl rfl rfl rfl rfl)
  intro γ a2 w2 S2
  replace S2 : AS w 25 [(7, In (0)), (6, Jus (.pointer (some ⟨γ 5, 0, none⟩))), (5, In (0)), (4, Jus (.pointer (some ⟨G1_2, 0, none⟩))), (3, Jus (.pointer (some ⟨G1_1, 0, none⟩)))] [(G1_0, 26, Agg [Tx la, Tx lb, Tx lc]), (G1_1, 24, Agg [Tx px, Tx py]), (G1_2, 26, Agg [Tx ⟨#[]⟩, Tx ⟨#[]⟩, Tx ⟨#[]⟩]), (γ 5, 97, Lv rla rlb rlc)] a2 w2 := cast (by kernel_rfl) (S2.keep [3, 4, 5, 6, 7])
  generalize γ 5 = G2_5 at S2
  clear S1
  refine then_normal ?_
  refine wp_seq ?_
  refine wp_seq ?_
  refine region_abs [.pure (In (0)), .pure (Bo false)] ⟨S2, by decide +kernel⟩ (by kernel_rfl) (by kernel_rfl) rfl (by kernel_rfl) ?_ ?_
  · intro C
    refine ASteps.cons ?_ (ASteps.cons ?_ (ASteps.nil))
    · exact step_move rfl rfl (want_none rfl) rfl (opn_old C 0 (by kernel_rfl) rfl)
    · exact step_bin rfl rfl (want_none rfl) rfl (opn_new C 0 0 rfl rfl rfl rfl rfl rfl) (opn_const _) (run_neq_int _ _ _ _ _ _ rfl)
  intro γ a3 w3 S3
  replace S3 : AS w 25 [(14, Bo false), (7, In (0)), (6, Jus (.pointer (some ⟨G2_5, 0, none⟩))), (5, In (0)), (4, Jus (.pointer (some ⟨G1_2, 0, none⟩))), (3, Jus (.pointer (some ⟨G1_1, 0, none⟩)))] [(G1_0, 26, Agg [Tx la, Tx lb, Tx lc]), (G1_1, 24, Agg [Tx px, Tx py]), (G1_2, 26, Agg [Tx ⟨#[]⟩, Tx ⟨#[]⟩, Tx ⟨#[]⟩]), (G2_5, 97, Lv rla rlb rlc)] a3 w3 := cast (by kernel_rfl) (S3.keep [3, 4, 5, 6, 7, 14])
  clear S2
  refine then_normal ?_
  refine wp_cond_false (S3.val 0 rfl) ?_
  refine wp_skip ?_
  refine then_normal ?_
  refine wp_seq ?_
  obtain ⟨z1, ez1⟩ : ∃ q : Rat, q = -rlb := ⟨_, rfl⟩
  have fz1 : QS k z1 := by rw [ez1]; exact QS.mono tlb.qs.neg (by first | decide | omega)
  obtain ⟨z2, ez2⟩ : ∃ q : Rat, q = -(z1 * rpx + rla * rpy) := ⟨_, rfl⟩
  have fz2 : QS (4 * k + 1) z2 := by rw [ez2]; exact QS.mono ((fz1.mul tpx.qs).add (tla.qs.mul tpy.qs)).neg (by first | decide | omega)
  have h3 : ¬ (z1 = 0 ∧ rla = 0) := by (subst_vars; grind)
  obtain ⟨z4, ez4⟩ : ∃ q : Rat, q = z1 * fac [z1, rla, z2] := ⟨_, rfl⟩
  have fz4 : QS (16 * k + 5) z4 := by rw [ez4]; exact QS.mono (QS.fac (QS.mono (l := (4 * k + 1)) fz1 (by first | decide | omega)) (QS.mono (l := (4 * k + 1)) tla.qs (by first | decide | omega)) fz2 (by simp)) (by first | decide | omega)
  obtain ⟨s5, es5⟩ : ∃ s : ByteArray, s.data.toList = tx z4 := ⟨⟨(tx z4).toArray⟩, by simp⟩
  have ts5 : TX (16 * k + 5) s5 z4 := TX.told es5 fz4
  obtain ⟨z6, ez6⟩ : ∃ q : Rat, q = rla * fac [z1, rla, z2] := ⟨_, rfl⟩
  have fz6 : QS (16 * k + 5) z6 := by rw [ez6]; exact QS.mono (QS.fac (QS.mono (l := (4 * k + 1)) fz1 (by first | decide | omega)) (QS.mono (l := (4 * k + 1)) tla.qs (by first | decide | omega)) fz2 (by simp)) (by first | decide | omega)
  obtain ⟨s7, es7⟩ : ∃ s : ByteArray, s.data.toList = tx z6 := ⟨⟨(tx z6).toArray⟩, by simp⟩
  have ts7 : TX (16 * k + 5) s7 z6 := TX.told es7 fz6
  obtain ⟨z8, ez8⟩ : ∃ q : Rat, q = z2 * fac [z1, rla, z2] := ⟨_, rfl⟩
  have fz8 : QS (16 * k + 5) z8 := by rw [ez8]; exact QS.mono (QS.fac (QS.mono (l := (4 * k + 1)) fz1 (by first | decide | omega)) (QS.mono (l := (4 * k + 1)) tla.qs (by first | decide | omega)) fz2 (by simp)) (by first | decide | omega)
  obtain ⟨s9, es9⟩ : ∃ s : ByteArray, s.data.toList = tx z8 := ⟨⟨(tx z8).toArray⟩, by simp⟩
  have ts9 : TX (16 * k + 5) s9 z8 := TX.told es9 fz8
  refine region_abs [.pure (Agg [Tx px, Tx py]), .pure (Wv rpx rpy), .pure (Jus (.pointer (some ⟨G2_5, 0, none⟩))), .pure (Wv rla rlb), .pure (Wv z1 rla), .pure (Tup [Agg [Tx s5, Tx s7, Tx s9], In (0)]), .pure (Agg [Tx s5, Tx s7, Tx s9]), .pure (In (0)), .over 2 (Agg [Tx s5, Tx s7, Tx s9]), .pure (In (0))] ⟨S3, by decide +kernel⟩ (by kernel_rfl) (by kernel_rfl) rfl (by kernel_rfl) ?_ ?_
  · intro C
    refine ASteps.cons ?_ (ASteps.cons ?_ (ASteps.cons ?_ (ASteps.cons ?_ (ASteps.cons ?_ (ASteps.cons ?_ (ASteps.cons ?_ (ASteps.cons ?_ (ASteps.cons ?_ (ASteps.cons ?_ (ASteps.nil))))))))))
    · exact step_load (k := 1) rfl rfl rfl (want_none rfl) rfl (opn_old C 5 (by kernel_rfl) rfl) (no_over (by kernel_rfl)) loads_P
    · exact step_call HPRE rfl rfl (want_none rfl) rfl en_way_Read (Opns.cons (opn_new C 0 0 rfl rfl rfl rfl rfl rfl) Opns.nil) (con_wread tpx tpy (by first | decide | omega))
    · exact step_fieldAddr rfl rfl (want_none rfl) rfl (opn_old C 2 (by kernel_rfl) rfl) (field_R_0 _)
    · exact step_loadF (k := 3) rfl rfl rfl (want_none rfl) rfl (opn_new C 2 0 rfl rfl rfl rfl rfl rfl) (no_over (by kernel_rfl)) part_lw
    · exact step_call HPRE rfl rfl (want_none rfl) rfl en_way_Way_Left (Opns.cons (opn_new C 3 0 rfl rfl rfl rfl rfl rfl) Opns.nil) (con_wleft ez1)
    · exact step_call HPRE rfl rfl (want_none rfl) rfl en_line_square (Opns.cons (opn_new C 1 0 rfl rfl rfl rfl rfl rfl) (Opns.cons (opn_new C 4 1 rfl rfl rfl rfl rfl rfl) Opns.nil)) (con_insquare_ok ez2 fz1 tla.qs tpx.qs tpy.qs (by first | decide | omega) h3 (es5.trans (by rw [ez4])) (es7.trans (by rw [ez6])) (es9.trans (by rw [ez8])))
    · exact step_extract (k := 0) rfl rfl (want_none rfl) rfl (opn_new C 5 0 rfl rfl rfl rfl rfl rfl) rfl
    · exact step_extract (k := 1) rfl rfl (want_none rfl) rfl (opn_new C 5 0 rfl rfl rfl rfl rfl rfl) rfl
    · exact step_over C (k := 2) rfl rfl rfl (want_none rfl) rfl (opn_old C 4 (by kernel_rfl) rfl) (by decide) (one_over (by kernel_rfl)) (opn_new C 6 0 rfl rfl rfl rfl rfl rfl) (stores_L (cok3 (nl_tx s5) (nl_tx s7) (nl_tx s9)))
    · exact step_assign rfl rfl (want_none rfl) rfl (opn_new C 7 0 rfl rfl rfl rfl rfl rfl)
  intro γ a4 w4 S4
  replace S4 : AS w 25 [(5, In (0)), (4, Jus (.pointer (some ⟨G1_2, 0, none⟩)))] [(G1_0, 26, Agg [Tx la, Tx lb, Tx lc]), (G1_1, 24, Agg [Tx px, Tx py]), (G1_2, 26, Agg [Tx s5, Tx s7, Tx s9]), (G2_5, 97, Lv rla rlb rlc)] a4 w4 := cast (by kernel_rfl) (S4.keep [4, 5])
  clear S3
  refine then_normal ?_
  refine wp_ret ?_
  obtain rfl : s5 = sa := (bytes_of (es5.trans ((congrArg tx (by (subst_vars; first | rfl | grind))).trans ea.symm))).trans (bytes_of rfl).symm
  obtain rfl : s7 = sb := (bytes_of (es7.trans ((congrArg tx (by (subst_vars; first | rfl | grind))).trans eb.symm))).trans (bytes_of rfl).symm
  obtain rfl : s9 = sc := (bytes_of (es9.trans ((congrArg tx (by (subst_vars; first | rfl | grind))).trans ec.symm))).trans (bytes_of rfl).symm
  exact S4.ret2 1 2 0 rfl rfl rfl loads_L rfl fun v hv => ⟨S4.bel, v, rfl, hv⟩
theorem con_lsq_flat {la lb lc px py : ByteArray} {rla rlb rlc rpx rpy A C : Rat} {k : Nat} (tla : TX k la rla) (tlb : TX k lb rlb) (tlc : TX k lc rlc) (_ : TX k px rpx) (_ : TX k py rpy) (_ : A = -rlb) (_ : C = -(A * rpx + rla * rpy)) (_ : 2 * k + 4 ≤ 4294967296) (_ : 20 * (k + k + 1) ≤ 35184372088640) (_ : A = 0 ∧ rla = 0) :
    Con Tryz.prog Pre 40 [Agg [Tx la, Tx lb, Tx lc], Agg [Tx px, Tx py]] (Tup [Agg [Tx ⟨#[]⟩, Tx ⟨#[]⟩, Tx ⟨#[]⟩], In (5)]) := by
  have hf0 : rla = 0 ∧ rlb = 0 := by (subst_vars; grind)
  refine con_of (n := 25) Tryz.func40 rfl rfl (Nat.le_of_ble_eq_true rfl) ?_
  intro w a0 hp S0
  have HPRE : ∀ w', Below w.heap.size w w' → Pre w' := fun w' hb => hp.below hb
  refine wp_seq ?_
  refine region_abs [.alloc 26 (Agg [Tx la, Tx lb, Tx lc]), .alloc 24 (Agg [Tx px, Tx py]), .alloc 26 (Agg [Tx ⟨#[]⟩, Tx ⟨#[]⟩, Tx ⟨#[]⟩]), .pure (In (0))] ⟨S0, by decide +kernel⟩ (by kernel_rfl) (by kernel_rfl) rfl (by kernel_rfl) ?_ ?_
  · intro C
    refine ASteps.cons ?_ (ASteps.cons ?_ (ASteps.cons ?_ (ASteps.cons ?_ (ASteps.nil))))
    · exact step_box rfl rfl (want_none rfl) rfl (no_fill (by kernel_rfl)) (opn_old C 0 (by kernel_rfl) rfl) (boxes_L (cok3 (nl_tx la) (nl_tx lb) (nl_tx lc)))
    · exact step_box rfl rfl (want_none rfl) rfl (no_fill (by kernel_rfl)) (opn_old C 1 (by kernel_rfl) rfl) (boxes_P (cok2 (nl_tx px) (nl_tx py)))
    · exact step_new [.string ⟨#[]⟩, .string ⟨#[]⟩, .string ⟨#[]⟩] zero_L rfl rfl (want_none rfl) rfl (no_fill (by kernel_rfl)) allocs_L (by simp [notLimb]) (by kernel_rfl)
    · exact step_assign rfl rfl (want_none rfl) rfl (opn_const _)
  intro γ a1 w1 S1
  replace S1 : AS w 25 [(5, In (0)), (4, Jus (.pointer (some ⟨γ 2, 0, none⟩))), (3, Jus (.pointer (some ⟨γ 1, 0, none⟩))), (2, Jus (.pointer (some ⟨γ 0, 0, none⟩)))] [(γ 0, 26, Agg [Tx la, Tx lb, Tx lc]), (γ 1, 24, Agg [Tx px, Tx py]), (γ 2, 26, Agg [Tx ⟨#[]⟩, Tx ⟨#[]⟩, Tx ⟨#[]⟩])] a1 w1 := cast (by kernel_rfl) (S1.keep [2, 3, 4, 5])
  generalize γ 0 = G1_0 at S1
  generalize γ 1 = G1_1 at S1
  generalize γ 2 = G1_2 at S1
  clear S0
  refine then_normal ?_
  refine wp_seq ?_
  refine region_abs [.pure (Agg [Tx la, Tx lb, Tx lc]), .pure (Tup [Lv 0 0 0, In (5)]), .pure (Tup [Lv 0 0 0, In (5)]), .pure (Lv 0 0 0), .pure (In (5)), .alloc 97 (Any), .fill 5 (Lv 0 0 0), .pure (In (5))] ⟨S1, by decide +kernel⟩ (by kernel_rfl) (by kernel_rfl) rfl (by kernel_rfl) ?_ ?_
  · intro C
    refine ASteps.cons ?_ (ASteps.cons ?_ (ASteps.cons ?_ (ASteps.cons ?_ (ASteps.cons ?_ (ASteps.cons ?_ (ASteps.cons ?_ (ASteps.cons ?_ (ASteps.nil))))))))
    · exact step_load (k := 0) rfl rfl rfl (want_none rfl) rfl (opn_old C 3 (by kernel_rfl) rfl) (no_over (by kernel_rfl)) loads_L
    · exact step_call HPRE rfl rfl (want_none rfl) rfl en_ruler_Read (Opns.cons (opn_new C 0 0 rfl rfl rfl rfl rfl rfl) Opns.nil) (con_rread_flat tla tlb tlc (by first | decide | omega) hf0)
    · exact step_move rfl rfl (want_none rfl) rfl (opn_new C 1 0 rfl rfl rfl rfl rfl rfl)
    · exact step_extract (k := 0) rfl rfl (want_none rfl) rfl (opn_new C 2 0 rfl rfl rfl rfl rfl rfl) rfl
    · exact step_extract (k := 1) rfl rfl (want_none rfl) rfl (opn_new C 2 0 rfl rfl rfl rfl rfl rfl) rfl
    · exact step_new [.bool false, .slice none 0 0, .slice none 0 0, .bool false, .slice none 0 0, .slice none 0 0, .bool false, .slice none 0 0, .slice none 0 0] zero_R rfl rfl (want_none rfl) rfl (fill_waits (s0 := 6) (k := 0) (by kernel_rfl) rfl rfl rfl rfl) allocs_R (by simp [notLimb]) (by kernel_rfl)
    · exact step_fill C (a := 5) (k := 0) rfl rfl rfl rfl (want_none rfl) rfl rfl rfl rfl rfl (by decide) (one_fill (by kernel_rfl)) (opn_new C 3 1 rfl rfl rfl rfl rfl rfl) (stores_R (cok_lv _ _ _))
    · exact step_assign rfl rfl (want_none rfl) rfl (opn_new C 4 0 rfl rfl rfl rfl rfl rfl)
  intro γ a2 w2 S2
  replace S2 : AS w 25 [(7, In (5)), (6, Jus (.pointer (some ⟨γ 5, 0, none⟩))), (5, In (0)), (4, Jus (.pointer (some ⟨G1_2, 0, none⟩))), (3, Jus (.pointer (some ⟨G1_1, 0, none⟩)))] [(G1_0, 26, Agg [Tx la, Tx lb, Tx lc]), (G1_1, 24, Agg [Tx px, Tx py]), (G1_2, 26, Agg [Tx ⟨#[]⟩, Tx ⟨#[]⟩, Tx ⟨#[]⟩]), (γ 5, 97, Lv 0 0 0)] a2 w2 := cast (by kernel_rfl) (S2.keep [3, 4, 5, 6, 7])
  generalize γ 5 = G2_5 at S2
  clear S1
  refine then_normal ?_
  refine wp_seq ?_
  refine wp_seq ?_
  refine region_abs [.pure (In (5)), .pure (Bo true)] ⟨S2, by decide +kernel⟩ (by kernel_rfl) (by kernel_rfl) rfl (by kernel_rfl) ?_ ?_
  · intro C
    refine ASteps.cons ?_ (ASteps.cons ?_ (ASteps.nil))
    · exact step_move rfl rfl (want_none rfl) rfl (opn_old C 0 (by kernel_rfl) rfl)
    · exact step_bin rfl rfl (want_none rfl) rfl (opn_new C 0 0 rfl rfl rfl rfl rfl rfl) (opn_const _) (run_neq_int _ _ _ _ _ _ rfl)
  intro γ a3 w3 S3
  replace S3 : AS w 25 [(14, Bo true), (7, In (5)), (6, Jus (.pointer (some ⟨G2_5, 0, none⟩))), (5, In (0)), (4, Jus (.pointer (some ⟨G1_2, 0, none⟩))), (3, Jus (.pointer (some ⟨G1_1, 0, none⟩)))] [(G1_0, 26, Agg [Tx la, Tx lb, Tx lc]), (G1_1, 24, Agg [Tx px, Tx py]), (G1_2, 26, Agg [Tx ⟨#[]⟩, Tx ⟨#[]⟩, Tx ⟨#[]⟩]), (G2_5, 97, Lv 0 0 0)] a3 w3 := cast (by kernel_rfl) (S3.keep [3, 4, 5, 6, 7, 14])
  clear S2
  refine then_normal ?_
  refine wp_cond_true (S3.val 0 rfl) ?_
  refine wp_seq ?_
  refine region_abs [.pure (Agg [Tx ⟨#[]⟩, Tx ⟨#[]⟩, Tx ⟨#[]⟩]), .pure (In (5)), .over 2 (Agg [Tx ⟨#[]⟩, Tx ⟨#[]⟩, Tx ⟨#[]⟩]), .pure (In (5))] ⟨S3, by decide +kernel⟩ (by kernel_rfl) (by kernel_rfl) rfl (by kernel_rfl) ?_ ?_
  · intro C
    refine ASteps.cons ?_ (ASteps.cons ?_ (ASteps.cons ?_ (ASteps.cons ?_ (ASteps.nil))))
    · exact step_build rfl rfl (want_none rfl) rfl Opns.nil builds0_L
    · exact step_move rfl rfl (want_none rfl) rfl (opn_old C 1 (by kernel_rfl) rfl)
    · exact step_over C (k := 2) rfl rfl rfl (want_none rfl) rfl (opn_old C 4 (by kernel_rfl) rfl) (by decide) (one_over (by kernel_rfl)) (opn_new C 0 0 rfl rfl rfl rfl rfl rfl) (stores_L (cok3 (nl_tx ⟨#[]⟩) (nl_tx ⟨#[]⟩) (nl_tx ⟨#[]⟩)))
    · exact step_assign rfl rfl (want_none rfl) rfl (opn_new C 1 0 rfl rfl rfl rfl rfl rfl)
  intro γ a4 w4 S4
  replace S4 : AS w 25 [(5, In (5)), (6, Jus (.pointer (some ⟨G2_5, 0, none⟩))), (4, Jus (.pointer (some ⟨G1_2, 0, none⟩))), (3, Jus (.pointer (some ⟨G1_1, 0, none⟩)))] [(G1_0, 26, Agg [Tx la, Tx lb, Tx lc]), (G1_1, 24, Agg [Tx px, Tx py]), (G1_2, 26, Agg [Tx ⟨#[]⟩, Tx ⟨#[]⟩, Tx ⟨#[]⟩]), (G2_5, 97, Lv 0 0 0)] a4 w4 := cast (by kernel_rfl) (S4.keep [3, 4, 5, 6])
  clear S3
  refine then_normal ?_
  refine wp_ret ?_
  refine then_ret ?_
  exact S4.ret2 2 2 0 rfl rfl rfl loads_L rfl fun v hv => ⟨S4.bel, v, rfl, hv⟩
end Go.Proofs.YtgajdmadbdbabaaGreatDoor
