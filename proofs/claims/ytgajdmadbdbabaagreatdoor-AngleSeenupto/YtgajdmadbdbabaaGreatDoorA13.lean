/- Part 13 of the walks and of the mathematics under them: XC WPA XD XE XF MathY XG XH AWG. -/
import Derived.Test.YtgajdmadbdbabaaGreatDoorA12
import Derived.Test.YtgajdmadbdbabaaGreatDoorA11
set_option maxHeartbeats 16000000
set_option maxRecDepth 100000
/- XC -/
namespace Go.Proofs.YtgajdmadbdbabaaGreatDoor
open Go.RowKit Cx
attribute [local go_sem ↓] Go.wp_at_zero Go.wp_at_succ
theorem angleRead_walk {w : World} {s c : ByteArray} (s1 : s.data.toList.length ≤ 4294967296) (s2 : c.data.toList.length ≤ 4294967296) :
    Calls Tryz.prog 98 #[.agg #[.string s, .string c]] w fun e w' => Below w.heap.size w w' ∧ ((rd c.data.toList = 0 ∧ rd s.data.toList = 0 ∧ e = .returned (.tuple #[.agg #[.bool false, .slice none 0 0, .slice none 0 0, .bool false, .slice none 0 0, .slice none 0 0], .int .i64 5])) ∨ (¬ (rd c.data.toList = 0 ∧ rd s.data.toList = 0) ∧ ∃ v, e = .returned (.tuple #[v, .int .i64 0]) ∧ WV w' v (rd c.data.toList) (rd s.data.toList))) := by
  obtain ⟨hb0, hk0, hk1, hsz⟩ := boxes2 w #[.string s, .string c] #[.bool false, .slice none 0 0, .slice none 0 0, .bool false, .slice none 0 0, .slice none 0 0] 67 86
  have HB0 := hideIt hb0
  have HSZ := hideIt hsz
  have HK1 := hideIt hk1
  have L1 := hideIt s1
  have L2 := hideIt s2
  clear hb0 hsz hk0 hk1 s1 s2
  go_enter Tryz.func98, Tryz.ntmps98
  go_wp2_with fail
  generalize ((w.alloc (.cells #[.string s, .string c] 67)).alloc (.cells #[.bool false, .slice none 0 0, .slice none 0 0, .bool false, .slice none 0 0, .slice none 0 0] 86)) = W0 at *
  refine (wayRead_calls ⟨c, s, rfl, rfl, rfl⟩ L2.out L1.out).mono ?_
  rintro _ w1 ⟨hb1, v1, rfl, d, e, rfl, hx, hy⟩
  have HX := hideIt hx
  have HY := hideIt hy
  have HB1 := hideIt hb1
  clear hx hy hb1
  go_wp2_with fail
  obtain ⟨w2, hw2⟩ : ∃ w2, w2 = w1.alloc (.cells #[.bool d.n, .slice d.u d.nu d.cu, .slice d.l d.nl d.cl, .bool e.n, .slice e.u e.nu e.cu, .slice e.l e.nl e.cl] 86) := ⟨_, rfl⟩
  have hbA := below_new w1 (.cells #[.bool d.n, .slice d.u d.nu d.cu, .slice d.l d.nl d.cl, .bool e.n, .slice e.u e.nu e.cu, .slice e.l e.nl e.cl] 86)
  have HKG := hideIt (Blk.new w1 #[.bool d.n, .slice d.u d.nu d.cu, .slice d.l d.nl d.cl, .bool e.n, .slice e.u e.nu e.cu, .slice e.l e.nl e.cl] 86)
  rw [← hw2] at hbA HKG ⊢
  obtain ⟨G, hG⟩ : ∃ G, G = w1.heap.size := ⟨_, rfl⟩
  rw [← hG] at HKG ⊢
  clear hG hw2
  have HB2 := hideIt (HB1.out.trans (hbA.mono HB1.out.size))
  have HX2 := hideIt (HX.out.below hbA)
  have HY2 := hideIt (HY.out.below hbA)
  clear hbA
  refine (nowhere_calls ⟨d, e, rfl, HX2.out, HY2.out⟩).mono ?_
  rintro _ w3 ⟨hb3, rfl⟩
  have HB3 := hideIt (HB2.out.trans (hb3.mono HB2.out.size))
  have HX3 := hideIt (HX2.out.below hb3)
  have HY3 := hideIt (HY2.out.below hb3)
  have HG3 := hideIt (HKG.out.below hb3 HKG.out.lt)
  have HR := hideIt (HK1.out.below HB3.out (by rw [HSZ.out]; omega))
  have HBW := hideIt (HB0.out.trans (HB3.out.mono HB0.out.size))
  clear hb3
  obtain ⟨r0, r1, r2, r3, r4, r5, f0, f1, f2, f3, f4, f5⟩ := HG3.out.all6
  obtain ⟨q0, q1, q2, q3, q4, q5, g0, g1, g2, g3, g4, g5⟩ := HR.out.all6
  by_cases h0 : rd c.data.toList = 0 ∧ rd s.data.toList = 0
  · rw [decide_eq_true h0]
    have H0 := hideIt h0
    clear h0
    go_wp2
    obtain ⟨k0, k1, k2, k3, k4, k5, _⟩ := (HR.out.put6 (.bool false) (.slice none 0 0) (.slice none 0 0) (.bool false) (.slice none 0 0) (.slice none 0 0)).all6
    exact bodyPost_ret (v := .tuple #[.agg #[.bool false, .slice none 0 0, .slice none 0 0, .bool false, .slice none 0 0, .slice none 0 0], .int .i64 5]) (by simp [results, Tryz.results98, go_sem, k0, k1, k2, k3, k4, k5]) rfl ⟨Below.put6 HBW.out (by omega) _ _ _ _ _ _, Or.inl ⟨H0.out.1, H0.out.2, rfl⟩⟩
  · rw [decide_eq_false h0]
    have H0 := hideIt h0
    clear h0
    go_wp2
    obtain ⟨k0, k1, k2, k3, k4, k5, _⟩ := (HR.out.put6 (.bool d.n) (.slice d.u d.nu d.cu) (.slice d.l d.nl d.cl) (.bool e.n) (.slice e.u e.nu e.cu) (.slice e.l e.nl e.cl)).all6
    have hst := Stays.put6 HR.out (by simp [notLimb]) (.bool d.n) (.slice d.u d.nu d.cu) (.slice d.l d.nl d.cl) (.bool e.n) (.slice e.u e.nu e.cu) (.slice e.l e.nl e.cl) rfl rfl rfl rfl rfl rfl
    exact bodyPost_ret (v := .tuple #[.agg #[.bool d.n, .slice d.u d.nu d.cu, .slice d.l d.nl d.cl, .bool e.n, .slice e.u e.nu e.cu, .slice e.l e.nl e.cl], .int .i64 0]) (by simp [results, Tryz.results98, go_sem, k0, k1, k2, k3, k4, k5]) rfl ⟨Below.put6 HBW.out (by omega) _ _ _ _ _ _, Or.inr ⟨H0.out, _, rfl, d, e, rfl, hst.qv HX3.out, hst.qv HY3.out⟩⟩
theorem angleRead_calls {w : World} {v : Value} {ls lc : List UInt8} (h : PV v ls lc) (s1 : ls.length ≤ 4294967296) (s2 : lc.length ≤ 4294967296) :
    Calls Tryz.prog 98 #[v] w fun e w' => Below w.heap.size w w' ∧ ((rd lc = 0 ∧ rd ls = 0 ∧ e = .returned (.tuple #[.agg #[.bool false, .slice none 0 0, .slice none 0 0, .bool false, .slice none 0 0, .slice none 0 0], .int .i64 5])) ∨ (¬ (rd lc = 0 ∧ rd ls = 0) ∧ ∃ v, e = .returned (.tuple #[v, .int .i64 0]) ∧ WV w' v (rd lc) (rd ls))) := by
  obtain ⟨a, b, rfl, rfl, rfl⟩ := h
  exact angleRead_walk s1 s2
def AngAns (none : Prop) (X Y : Rat) (s c : List UInt8) (z : Int) : Prop :=
  (none ∧ z = 5 ∧ s = [] ∧ c = []) ∨ (¬ none ∧ z = 0 ∧ s = tx (Y * fac [X, Y]) ∧ c = tx (X * fac [X, Y]))
theorem angBetween_walk {w : World} {a b p q : C3} {ux uy vx vy : Rat} (h1 : QV w (.agg #[.bool a.n, .slice a.u a.nu a.cu, .slice a.l a.nl a.cl]) ux) (h2 : QV w (.agg #[.bool b.n, .slice b.u b.nu b.cu, .slice b.l b.nl b.cl]) uy) (h3 : QV w (.agg #[.bool p.n, .slice p.u p.nu p.cu, .slice p.l p.nl p.cl]) vx) (h4 : QV w (.agg #[.bool q.n, .slice q.u q.nu q.cu, .slice q.l q.nl q.cl]) vy) {k l : Nat} (f1 : QS k ux) (f2 : QS k uy) (f3 : QS l vx) (f4 : QS l vy) (hk : 3 * (k + l + (k + l) + 1) + 2 ≤ 35184372088640) (tab : Tab w) :
    Calls Tryz.prog 101 #[.agg #[.bool a.n, .slice a.u a.nu a.cu, .slice a.l a.nl a.cl, .bool b.n, .slice b.u b.nu b.cu, .slice b.l b.nl b.cl], .agg #[.bool p.n, .slice p.u p.nu p.cu, .slice p.l p.nl p.cl, .bool q.n, .slice q.u q.nu q.cu, .slice q.l q.nl q.cl]] w fun e w' => Below w.heap.size w w' ∧ ∃ (sa sb : ByteArray) (z : Int), e = .returned (.tuple #[.agg #[.string sa, .string sb], .int .i64 z]) ∧ AngAns ((ux = 0 ∧ uy = 0) ∨ (vx = 0 ∧ vy = 0)) (ux * vx - -uy * vy) (ux * vy + -uy * vx) sa.data.toList sb.data.toList z := by
  obtain ⟨hb0, hk0, hk1, hk2, hsz⟩ := boxes3 w #[.bool a.n, .slice a.u a.nu a.cu, .slice a.l a.nl a.cl, .bool b.n, .slice b.u b.nu b.cu, .slice b.l b.nl b.cl] #[.bool p.n, .slice p.u p.nu p.cu, .slice p.l p.nl p.cl, .bool q.n, .slice q.u q.nu q.cu, .slice q.l q.nl q.cl] #[.string ⟨#[]⟩, .string ⟨#[]⟩] 86 86 67
  have HB0 := hideIt hb0
  have HSZ := hideIt hsz
  have HK0 := hideIt hk0
  have HK1 := hideIt hk1
  have HK2 := hideIt hk2
  have H1 := hideIt (h1.below hb0)
  have H2 := hideIt (h2.below hb0)
  have H3 := hideIt (h3.below hb0)
  have H4 := hideIt (h4.below hb0)
  have HTAB := hideIt (tab.below hb0)
  have F1 := hideIt f1
  have F2 := hideIt f2.neg
  have F3 := hideIt f3
  have F4 := hideIt f4
  have HK := hideIt hk
  have FX : Hid (QS (k + l + (k + l) + 1) (ux * vx - -uy * vy)) := (f1.mul f3).sub (f2.neg.mul f4)
  have FY : Hid (QS (k + l + (k + l) + 1) (ux * vy + -uy * vx)) := (f1.mul f4).add (f2.neg.mul f3)
  have K1 : Hid (2 * (k + l + 1) + 1 ≤ 35184372088640) := by show _ ≤ _; omega
  clear hb0 hsz hk0 hk1 hk2 h1 h2 h3 h4 tab f1 f2 f3 f4 hk
  go_enter Tryz.func101, Tryz.ntmps101
  go_wp2_with fail
  generalize (((w.alloc (.cells #[.bool a.n, .slice a.u a.nu a.cu, .slice a.l a.nl a.cl, .bool b.n, .slice b.u b.nu b.cu, .slice b.l b.nl b.cl] 86)).alloc (.cells #[.bool p.n, .slice p.u p.nu p.cu, .slice p.l p.nl p.cl, .bool q.n, .slice q.u q.nu q.cu, .slice q.l q.nl q.cl] 86)).alloc (.cells #[.string ⟨#[]⟩, .string ⟨#[]⟩] 67)) = W0 at *
  refine (nowhere_calls ⟨a, b, rfl, H1.out, H2.out⟩).mono ?_
  rintro _ w1 ⟨hb1, rfl⟩
  have HB1 := hideIt hb1
  clear hb1
  by_cases h0 : ux = 0 ∧ uy = 0
  · rw [decide_eq_true h0]
    have H0 := hideIt h0
    have HR := hideIt (HK2.out.below HB1.out (by rw [HSZ.out]; omega))
    have HBW := hideIt (HB0.out.trans (HB1.out.mono HB0.out.size))
    obtain ⟨q0, q1, g0, g1⟩ := HR.out.all2
    clear h0
    go_wp2
    obtain ⟨k0, k1, _⟩ := (HR.out.put2 (.string ⟨#[]⟩) (.string ⟨#[]⟩)).all2
    exact bodyPost_ret (v := .tuple #[.agg #[.string ⟨#[]⟩, .string ⟨#[]⟩], .int .i64 5]) (by simp [results, Tryz.results101, go_sem, k0, k1]) rfl ⟨Below.put2 HBW.out (by omega) _ _, _, _, _, rfl, Or.inl ⟨Or.inl H0.out, rfl, rfl, rfl⟩⟩
  · rw [decide_eq_false h0]
    have H0 := hideIt h0
    have HV1 := hideIt (HK1.out.below HB1.out (by rw [HSZ.out]; omega))
    obtain ⟨x0, x1, x2, x3, x4, x5, _⟩ := HV1.out.all6
    clear h0
    go_wp2_with fail
    refine (nowhere_calls ⟨p, q, rfl, H3.out.below HB1.out, H4.out.below HB1.out⟩).mono ?_
    rintro _ w2 ⟨hb2, rfl⟩
    have HB2 := hideIt (HB1.out.trans (hb2.mono HB1.out.size))
    clear hb2 x0 x1 x2 x3 x4 x5
    by_cases h0 : vx = 0 ∧ vy = 0
    · rw [decide_eq_true h0]
      have H5 := hideIt h0
      have HR := hideIt (HK2.out.below HB2.out (by rw [HSZ.out]; omega))
      have HBW := hideIt (HB0.out.trans (HB2.out.mono HB0.out.size))
      obtain ⟨q0, q1, g0, g1⟩ := HR.out.all2
      clear h0
      go_wp2
      obtain ⟨k0, k1, _⟩ := (HR.out.put2 (.string ⟨#[]⟩) (.string ⟨#[]⟩)).all2
      exact bodyPost_ret (v := .tuple #[.agg #[.string ⟨#[]⟩, .string ⟨#[]⟩], .int .i64 5]) (by simp [results, Tryz.results101, go_sem, k0, k1]) rfl ⟨Below.put2 HBW.out (by omega) _ _, _, _, _, rfl, Or.inl ⟨Or.inr H5.out, rfl, rfl, rfl⟩⟩
    · rw [decide_eq_false h0]
      have H5 := hideIt h0
      clear h0
      have HS : Hid (∀ w', Below W0.heap.size W0 w' → w'.cell? ⟨w.heap.size, 0, none⟩ = some (.bool a.n) ∧ w'.cell? ⟨w.heap.size, 1, none⟩ = some (.slice a.u a.nu a.cu) ∧ w'.cell? ⟨w.heap.size, 2, none⟩ = some (.slice a.l a.nl a.cl) ∧ w'.cell? ⟨w.heap.size, 3, none⟩ = some (.bool b.n) ∧ w'.cell? ⟨w.heap.size, 4, none⟩ = some (.slice b.u b.nu b.cu) ∧ w'.cell? ⟨w.heap.size, 5, none⟩ = some (.slice b.l b.nl b.cl) ∧ w'.cell? ⟨w.heap.size + 1, 0, none⟩ = some (.bool p.n) ∧ w'.cell? ⟨w.heap.size + 1, 1, none⟩ = some (.slice p.u p.nu p.cu) ∧ w'.cell? ⟨w.heap.size + 1, 2, none⟩ = some (.slice p.l p.nl p.cl) ∧ w'.cell? ⟨w.heap.size + 1, 3, none⟩ = some (.bool q.n) ∧ w'.cell? ⟨w.heap.size + 1, 4, none⟩ = some (.slice q.u q.nu q.cu) ∧ w'.cell? ⟨w.heap.size + 1, 5, none⟩ = some (.slice q.l q.nl q.cl)) := fun w' hb => ⟨(HK0.out.below hb (by rw [HSZ.out]; omega)).cell 0, (HK0.out.below hb (by rw [HSZ.out]; omega)).cell 1, (HK0.out.below hb (by rw [HSZ.out]; omega)).cell 2, (HK0.out.below hb (by rw [HSZ.out]; omega)).cell 3, (HK0.out.below hb (by rw [HSZ.out]; omega)).cell 4, (HK0.out.below hb (by rw [HSZ.out]; omega)).cell 5, (HK1.out.below hb (by rw [HSZ.out]; omega)).cell 0, (HK1.out.below hb (by rw [HSZ.out]; omega)).cell 1, (HK1.out.below hb (by rw [HSZ.out]; omega)).cell 2, (HK1.out.below hb (by rw [HSZ.out]; omega)).cell 3, (HK1.out.below hb (by rw [HSZ.out]; omega)).cell 4, (HK1.out.below hb (by rw [HSZ.out]; omega)).cell 5⟩
      have HSS : Hid (∀ w', Below W0.heap.size W0 w' → ∀ x0 x1 : Value, ((w'.setCell ⟨w.heap.size + 1 + 1, 0, none⟩ x0).setCell ⟨w.heap.size + 1 + 1, 1, none⟩ x1).cell? ⟨w.heap.size, 0, none⟩ = some (.bool a.n) ∧ ((w'.setCell ⟨w.heap.size + 1 + 1, 0, none⟩ x0).setCell ⟨w.heap.size + 1 + 1, 1, none⟩ x1).cell? ⟨w.heap.size, 1, none⟩ = some (.slice a.u a.nu a.cu) ∧ ((w'.setCell ⟨w.heap.size + 1 + 1, 0, none⟩ x0).setCell ⟨w.heap.size + 1 + 1, 1, none⟩ x1).cell? ⟨w.heap.size, 2, none⟩ = some (.slice a.l a.nl a.cl) ∧ ((w'.setCell ⟨w.heap.size + 1 + 1, 0, none⟩ x0).setCell ⟨w.heap.size + 1 + 1, 1, none⟩ x1).cell? ⟨w.heap.size, 3, none⟩ = some (.bool b.n) ∧ ((w'.setCell ⟨w.heap.size + 1 + 1, 0, none⟩ x0).setCell ⟨w.heap.size + 1 + 1, 1, none⟩ x1).cell? ⟨w.heap.size, 4, none⟩ = some (.slice b.u b.nu b.cu) ∧ ((w'.setCell ⟨w.heap.size + 1 + 1, 0, none⟩ x0).setCell ⟨w.heap.size + 1 + 1, 1, none⟩ x1).cell? ⟨w.heap.size, 5, none⟩ = some (.slice b.l b.nl b.cl) ∧ ((w'.setCell ⟨w.heap.size + 1 + 1, 0, none⟩ x0).setCell ⟨w.heap.size + 1 + 1, 1, none⟩ x1).cell? ⟨w.heap.size + 1, 0, none⟩ = some (.bool p.n) ∧ ((w'.setCell ⟨w.heap.size + 1 + 1, 0, none⟩ x0).setCell ⟨w.heap.size + 1 + 1, 1, none⟩ x1).cell? ⟨w.heap.size + 1, 1, none⟩ = some (.slice p.u p.nu p.cu) ∧ ((w'.setCell ⟨w.heap.size + 1 + 1, 0, none⟩ x0).setCell ⟨w.heap.size + 1 + 1, 1, none⟩ x1).cell? ⟨w.heap.size + 1, 2, none⟩ = some (.slice p.l p.nl p.cl) ∧ ((w'.setCell ⟨w.heap.size + 1 + 1, 0, none⟩ x0).setCell ⟨w.heap.size + 1 + 1, 1, none⟩ x1).cell? ⟨w.heap.size + 1, 3, none⟩ = some (.bool q.n) ∧ ((w'.setCell ⟨w.heap.size + 1 + 1, 0, none⟩ x0).setCell ⟨w.heap.size + 1 + 1, 1, none⟩ x1).cell? ⟨w.heap.size + 1, 4, none⟩ = some (.slice q.u q.nu q.cu) ∧ ((w'.setCell ⟨w.heap.size + 1 + 1, 0, none⟩ x0).setCell ⟨w.heap.size + 1 + 1, 1, none⟩ x1).cell? ⟨w.heap.size + 1, 5, none⟩ = some (.slice q.l q.nl q.cl)) := fun w' hb x0 x1 => by
        have h := (HK0.out.below hb (by rw [HSZ.out]; omega)).off2 (g := w.heap.size + 1 + 1) (by omega) x0 x1
        have h' := (HK1.out.below hb (by rw [HSZ.out]; omega)).off2 (g := w.heap.size + 1 + 1) (by omega) x0 x1
        exact ⟨h.cell 0, h.cell 1, h.cell 2, h.cell 3, h.cell 4, h.cell 5, h'.cell 0, h'.cell 1, h'.cell 2, h'.cell 3, h'.cell 4, h'.cell 5⟩
      have HBD : Hid (Below W0.heap.size W0 w2.drew) := Below.drew HB2.out
      obtain ⟨z0, z1, z2, z3, z4, z5, z6, z7, z8, z9, z10, z11⟩ := HS.out w2 HB2.out
      go_wp2_with fail
      go_region_held3 (fun w' => w'.cell? ⟨w.heap.size, 0, none⟩ = some (.bool a.n) ∧ w'.cell? ⟨w.heap.size, 1, none⟩ = some (.slice a.u a.nu a.cu) ∧ w'.cell? ⟨w.heap.size, 2, none⟩ = some (.slice a.l a.nl a.cl) ∧ w'.cell? ⟨w.heap.size, 3, none⟩ = some (.bool b.n) ∧ w'.cell? ⟨w.heap.size, 4, none⟩ = some (.slice b.u b.nu b.cu) ∧ w'.cell? ⟨w.heap.size, 5, none⟩ = some (.slice b.l b.nl b.cl) ∧ w'.cell? ⟨w.heap.size + 1, 0, none⟩ = some (.bool p.n) ∧ w'.cell? ⟨w.heap.size + 1, 1, none⟩ = some (.slice p.u p.nu p.cu) ∧ w'.cell? ⟨w.heap.size + 1, 2, none⟩ = some (.slice p.l p.nl p.cl) ∧ w'.cell? ⟨w.heap.size + 1, 3, none⟩ = some (.bool q.n) ∧ w'.cell? ⟨w.heap.size + 1, 4, none⟩ = some (.slice q.u q.nu q.cu) ∧ w'.cell? ⟨w.heap.size + 1, 5, none⟩ = some (.slice q.l q.nl q.cl)) (first | go_keep | exact hs3 | exact hs4 | exact hs5 | exact hkS)
        (first
          | (go_at_call 147; refine (wayConj_calls (w := w2.drew) ⟨a, b, rfl, H1.out.below HBD.out, H2.out.below HBD.out⟩).mono ?_; rintro _ w3 ⟨hb3, v3, rfl, hv3⟩; obtain ⟨d3, e3, rfl, hx3, hy3⟩ := hv3; have hbl3 : Below W0.heap.size W0 w3 := HBD.out.trans (hb3.mono HBD.out.size); have hs3 := HS.out w3 hbl3)
          | (go_at_call 103; refine (wayProd_calls ⟨d3, e3, rfl, hx3, hy3⟩ ⟨p, q, rfl, H3.out.below hbl3, H4.out.below hbl3⟩ F1.out F2.out F3.out F4.out K1.out).mono ?_; rintro _ w4 ⟨hb4, v4, rfl, hv4⟩; obtain ⟨d4, e4, rfl, hx4, hy4⟩ := hv4; have hbl4 := hbl3.trans (hb4.mono hbl3.size); have hs4 := HS.out w4 hbl4)
          | (go_at_call 99; refine (angleText_calls ⟨d4, e4, rfl, hx4, hy4⟩ FX.out FY.out HK.out (HTAB.out.below hbl4)).mono ?_; rintro _ w5 ⟨hb5, v5, rfl, sa, sb, rfl, ta, tb⟩; have hbl5 := hbl4.trans (hb5.mono hbl4.size); have hs5 := HS.out w5 hbl5; have hkr := HK2.out.below hbl5 (by rw [HSZ.out]; omega); obtain ⟨q0, q1, g0, g1⟩ := hkr.all2; have hkS := HSS.out w5 hbl5 (.string sa) (.string sb))
          )
      all_goals
        go_wp2
        obtain ⟨k0, k1, _⟩ := (hkr.put2 (.string sa) (.string sb)).all2
        exact bodyPost_ret (v := .tuple #[.agg #[.string sa, .string sb], .int .i64 0]) (by simp [results, Tryz.results101, go_sem, k0, k1]) rfl ⟨Below.put2 (HB0.out.trans (hbl5.mono HB0.out.size)) (by omega) _ _, _, _, _, rfl, Or.inr ⟨fun h => h.elim H0.out H5.out, rfl, ta, tb⟩⟩
theorem angBetween_calls {w : World} {va vb : Value} {ux uy vx vy : Rat} (ha : WV w va ux uy) (hb : WV w vb vx vy) {k l : Nat} (f1 : QS k ux) (f2 : QS k uy) (f3 : QS l vx) (f4 : QS l vy) (hk : 3 * (k + l + (k + l) + 1) + 2 ≤ 35184372088640) (tab : Tab w) :
    Calls Tryz.prog 101 #[va, vb] w fun e w' => Below w.heap.size w w' ∧ ∃ (sa sb : ByteArray) (z : Int), e = .returned (.tuple #[.agg #[.string sa, .string sb], .int .i64 z]) ∧ AngAns ((ux = 0 ∧ uy = 0) ∨ (vx = 0 ∧ vy = 0)) (ux * vx - -uy * vy) (ux * vy + -uy * vx) sa.data.toList sb.data.toList z := by
  obtain ⟨a, b, rfl, h1, h2⟩ := ha
  obtain ⟨p, q, rfl, h3, h4⟩ := hb
  exact angBetween_walk h1 h2 h3 h4 f1 f2 f3 f4 hk tab
end Go.Proofs.YtgajdmadbdbabaaGreatDoor
/- WPA -/
namespace Go.Proofs.YtgajdmadbdbabaaGreatDoor
open Go.RowKit Cx
theorem Blk.old {w : World} {g : Nat} {cs : Array Value} {t : TypeId} (o : Obj) (h : Blk w g cs t) : Blk (w.alloc o) g cs t := h.below (below_new _ _) h.lt
def Two (W0 : World) (p q : Value) (wc : World) (x y z t : Rat) : Prop :=
  ∃ G H, p = .pointer (some ⟨G, 0, none⟩) ∧ q = .pointer (some ⟨H, 0, none⟩) ∧ W0.heap.size ≤ G ∧ W0.heap.size ≤ H ∧ Below W0.heap.size W0 wc ∧ ∃ d e f g : C3, Blk wc G #[.bool d.n, .slice d.u d.nu d.cu, .slice d.l d.nl d.cl, .bool e.n, .slice e.u e.nu e.cu, .slice e.l e.nl e.cl] 86 ∧ Blk wc H #[.bool f.n, .slice f.u f.nu f.cu, .slice f.l f.nl f.cl, .bool g.n, .slice g.u g.nu g.cu, .slice g.l g.nl g.cl] 86 ∧ QV wc (.agg #[.bool d.n, .slice d.u d.nu d.cu, .slice d.l d.nl d.cl]) x ∧ QV wc (.agg #[.bool e.n, .slice e.u e.nu e.cu, .slice e.l e.nl e.cl]) y ∧ QV wc (.agg #[.bool f.n, .slice f.u f.nu f.cu, .slice f.l f.nl f.cl]) z ∧ QV wc (.agg #[.bool g.n, .slice g.u g.nu g.cu, .slice g.l g.nl g.cl]) t
def One (W0 : World) (p : Value) (wc : World) (x y : Rat) : Prop :=
  ∃ G, p = .pointer (some ⟨G, 0, none⟩) ∧ W0.heap.size ≤ G ∧ Below W0.heap.size W0 wc ∧ ∃ d e : C3, Blk wc G #[.bool d.n, .slice d.u d.nu d.cu, .slice d.l d.nl d.cl, .bool e.n, .slice e.u e.nu e.cu, .slice e.l e.nl e.cl] 86 ∧ QV wc (.agg #[.bool d.n, .slice d.u d.nu d.cu, .slice d.l d.nl d.cl]) x ∧ QV wc (.agg #[.bool e.n, .slice e.u e.nu e.cu, .slice e.l e.nl e.cl]) y
end Go.Proofs.YtgajdmadbdbabaaGreatDoor
/- XD -/
namespace Go.Proofs.YtgajdmadbdbabaaGreatDoor
open Go.RowKit Cx
attribute [local go_sem ↓] Go.wp_at_zero Go.wp_at_succ
theorem angFrom_walk {w : World} {la lb lc ma mb mc : ByteArray} (s1 : la.data.toList.length ≤ 4294967296) (s2 : lb.data.toList.length ≤ 4294967296) (s3 : lc.data.toList.length ≤ 4294967296) (s4 : ma.data.toList.length ≤ 4294967296) (s5 : mb.data.toList.length ≤ 4294967296) (s6 : mc.data.toList.length ≤ 4294967296) {k : Nat} (f1 : QS k (rd la.data.toList)) (f2 : QS k (rd lb.data.toList)) (f3 : QS k (rd ma.data.toList)) (f4 : QS k (rd mb.data.toList)) (hk : 20 * (k + 1) ≤ 35184372088640) (tab : Tab w) :
    Calls Tryz.prog 57 #[.agg #[.string la, .string lb, .string lc], .agg #[.string ma, .string mb, .string mc]] w fun e w' => Below w.heap.size w w' ∧ ∃ (sa sb : ByteArray) (z : Int), e = .returned (.tuple #[.agg #[.string sa, .string sb], .int .i64 z]) ∧ AngAns ((rd la.data.toList = 0 ∧ rd lb.data.toList = 0) ∨ (rd ma.data.toList = 0 ∧ rd mb.data.toList = 0)) (rd la.data.toList * rd ma.data.toList - -rd lb.data.toList * rd mb.data.toList) (rd la.data.toList * rd mb.data.toList + -rd lb.data.toList * rd ma.data.toList) sa.data.toList sb.data.toList z := by
  obtain ⟨hb0, hk0, hk1, hk2, hsz⟩ := boxes3 w #[.string la, .string lb, .string lc] #[.string ma, .string mb, .string mc] #[.string ⟨#[]⟩, .string ⟨#[]⟩] 26 26 67
  have HB0 := hideIt hb0
  have HSZ := hideIt hsz
  have HK1 := hideIt hk1
  have HK2 := hideIt hk2
  have HTAB := hideIt (tab.below hb0)
  have S1 := hideIt s1
  have S2 := hideIt s2
  have S3 := hideIt s3
  have S4 := hideIt s4
  have S5 := hideIt s5
  have S6 := hideIt s6
  have F1 := hideIt f1
  have F2 := hideIt f2
  have F3 := hideIt f3
  have F4 := hideIt f4
  have HK := hideIt hk
  clear hb0 hsz hk0 hk1 hk2 tab s1 s2 s3 s4 s5 s6 f1 f2 f3 f4 hk
  go_enter Tryz.func57, Tryz.ntmps57
  go_wp2_with fail
  generalize (((w.alloc (.cells #[.string la, .string lb, .string lc] 26)).alloc (.cells #[.string ma, .string mb, .string mc] 26)).alloc (.cells #[.string ⟨#[]⟩, .string ⟨#[]⟩] 67)) = W0 at *
  refine (rulerRead_calls ⟨la, lb, lc, rfl, rfl, rfl, rfl⟩ S1.out S2.out S3.out).mono ?_
  rintro _ w1 ⟨hb1, ⟨h1, h2, rfl⟩ | ⟨hn, v1, rfl, hv1⟩⟩
  · have HKR := hideIt (HK2.out.below hb1 (by rw [HSZ.out]; omega))
    have HBW := hideIt (HB0.out.trans (hb1.mono HB0.out.size))
    have HH := hideIt (And.intro h1 h2)
    have r0 : ∀ o, (w1.alloc o).cell? ⟨w.heap.size + 1 + 1, 0, none⟩ = some (.string ⟨#[]⟩) := fun o => (HKR.out.old o).cell 0
    have j0 : ∀ o, (w1.alloc o).frozen? ⟨w.heap.size + 1 + 1, 0, none⟩ = false := fun o => (HKR.out.old o).frozen 0
    have r1 : ∀ o, (w1.alloc o).cell? ⟨w.heap.size + 1 + 1, 1, none⟩ = some (.string ⟨#[]⟩) := fun o => (HKR.out.old o).cell 1
    have j1 : ∀ o, (w1.alloc o).frozen? ⟨w.heap.size + 1 + 1, 1, none⟩ = false := fun o => (HKR.out.old o).frozen 1
    obtain ⟨q0, q1, g0, g1⟩ := HKR.out.all2
    have lR := HKR.out.lt
    clear hb1 h1 h2
    go_wp2
    obtain ⟨k0, k1, _⟩ := ((HKR.out.put2 (.string ⟨#[]⟩) (.string ⟨#[]⟩)).old (.cells #[.bool false, .slice none 0 0, .slice none 0 0, .bool false, .slice none 0 0, .slice none 0 0, .bool false, .slice none 0 0, .slice none 0 0] 97)).all2
    have hbf := (Below.put2 HBW.out (g := w.heap.size + 1 + 1) (by omega) (.string ⟨#[]⟩) (.string ⟨#[]⟩))
    exact bodyPost_ret (v := .tuple #[.agg #[.string ⟨#[]⟩, .string ⟨#[]⟩], .int .i64 5]) (by simp [results, Tryz.results57, go_sem, k0, k1]) rfl ⟨hbf.alloc hbf.size _, _, _, _, rfl, Or.inl ⟨Or.inl HH.out, rfl, rfl, rfl⟩⟩
  · obtain ⟨a, b, c, rfl, hx0, hx1, hx2⟩ := hv1
    have N0 := hideIt hx0
    have N1 := hideIt hx1
    have N2 := hideIt hx2
    have HN := hideIt hn
    have HB1 := hideIt hb1
    have HKM1 := hideIt (HK1.out.below hb1 (by rw [HSZ.out]; omega))
    have m0 : ∀ o, (w1.alloc o).cell? ⟨w.heap.size + 1, 0, none⟩ = some (.string ma) := fun o => (HKM1.out.old o).cell 0
    have m1 : ∀ o, (w1.alloc o).cell? ⟨w.heap.size + 1, 1, none⟩ = some (.string mb) := fun o => (HKM1.out.old o).cell 1
    have m2 : ∀ o, (w1.alloc o).cell? ⟨w.heap.size + 1, 2, none⟩ = some (.string mc) := fun o => (HKM1.out.old o).cell 2
    clear hx0 hx1 hx2 hn hb1
    go_wp2_with fail
    obtain ⟨w2, hw2⟩ : ∃ w2, w2 = w1.alloc (.cells #[.bool a.n, .slice a.u a.nu a.cu, .slice a.l a.nl a.cl, .bool b.n, .slice b.u b.nu b.cu, .slice b.l b.nl b.cl, .bool c.n, .slice c.u c.nu c.cu, .slice c.l c.nl c.cl] 97) := ⟨_, rfl⟩
    have hbA := below_new w1 (.cells #[.bool a.n, .slice a.u a.nu a.cu, .slice a.l a.nl a.cl, .bool b.n, .slice b.u b.nu b.cu, .slice b.l b.nl b.cl, .bool c.n, .slice c.u c.nu c.cu, .slice c.l c.nl c.cl] 97)
    have HKG := hideIt (Blk.new w1 #[.bool a.n, .slice a.u a.nu a.cu, .slice a.l a.nl a.cl, .bool b.n, .slice b.u b.nu b.cu, .slice b.l b.nl b.cl, .bool c.n, .slice c.u c.nu c.cu, .slice c.l c.nl c.cl] 97)
    rw [← hw2] at hbA HKG ⊢
    obtain ⟨G, hG⟩ : ∃ G, G = w1.heap.size := ⟨_, rfl⟩
    rw [← hG] at HKG ⊢
    clear hG hw2
    have HBL : Hid (Below W0.heap.size W0 w2) := HB1.out.trans (hbA.mono HB1.out.size)
    have O0 := hideIt (N0.out.below hbA)
    have O1 := hideIt (N1.out.below hbA)
    have O2 := hideIt (N2.out.below hbA)
    clear hbA m0 m1 m2
    refine (rulerRead_calls ⟨ma, mb, mc, rfl, rfl, rfl, rfl⟩ S4.out S5.out S6.out).mono ?_
    rintro _ w3 ⟨hb3, ⟨h1, h2, rfl⟩ | ⟨hm, v3, rfl, hv3⟩⟩
    · have hbl3 := HBL.out.trans (hb3.mono HBL.out.size)
      have HKR := hideIt (HK2.out.below hbl3 (by rw [HSZ.out]; omega))
      have HBW := hideIt (HB0.out.trans (hbl3.mono HB0.out.size))
      have HH := hideIt (And.intro h1 h2)
      have r0 : ∀ o, (w3.alloc o).cell? ⟨w.heap.size + 1 + 1, 0, none⟩ = some (.string ⟨#[]⟩) := fun o => (HKR.out.old o).cell 0
      have j0 : ∀ o, (w3.alloc o).frozen? ⟨w.heap.size + 1 + 1, 0, none⟩ = false := fun o => (HKR.out.old o).frozen 0
      have r1 : ∀ o, (w3.alloc o).cell? ⟨w.heap.size + 1 + 1, 1, none⟩ = some (.string ⟨#[]⟩) := fun o => (HKR.out.old o).cell 1
      have j1 : ∀ o, (w3.alloc o).frozen? ⟨w.heap.size + 1 + 1, 1, none⟩ = false := fun o => (HKR.out.old o).frozen 1
      obtain ⟨q0, q1, g0, g1⟩ := HKR.out.all2
      have lR := HKR.out.lt
      clear hb3 h1 h2 hbl3
      go_wp2
      obtain ⟨k0, k1, _⟩ := ((HKR.out.put2 (.string ⟨#[]⟩) (.string ⟨#[]⟩)).old (.cells #[.bool false, .slice none 0 0, .slice none 0 0, .bool false, .slice none 0 0, .slice none 0 0, .bool false, .slice none 0 0, .slice none 0 0] 97)).all2
      have hbf := (Below.put2 HBW.out (g := w.heap.size + 1 + 1) (by omega) (.string ⟨#[]⟩) (.string ⟨#[]⟩))
      exact bodyPost_ret (v := .tuple #[.agg #[.string ⟨#[]⟩, .string ⟨#[]⟩], .int .i64 5]) (by simp [results, Tryz.results57, go_sem, k0, k1]) rfl ⟨hbf.alloc hbf.size _, _, _, _, rfl, Or.inl ⟨Or.inr HH.out, rfl, rfl, rfl⟩⟩
    · obtain ⟨p, q, r, rfl, hy0, hy1, hy2⟩ := hv3
      have P0 := hideIt hy0
      have P1 := hideIt hy1
      have P2 := hideIt hy2
      have HM := hideIt hm
      have HBL3 := hideIt (HBL.out.trans (hb3.mono HBL.out.size))
      have R0 := hideIt (O0.out.below hb3)
      have R1 := hideIt (O1.out.below hb3)
      have R2 := hideIt (O2.out.below hb3)
      have HKG3 := hideIt (HKG.out.below hb3 HKG.out.lt)
      clear hy0 hy1 hy2 hm hb3
      have y0 : ∀ o, (w3.alloc o).cell? ⟨G, 0, none⟩ = some (.bool a.n) := fun o => (HKG3.out.old o).cell 0
      have y1 : ∀ o, (w3.alloc o).cell? ⟨G, 1, none⟩ = some (.slice a.u a.nu a.cu) := fun o => (HKG3.out.old o).cell 1
      have y2 : ∀ o, (w3.alloc o).cell? ⟨G, 2, none⟩ = some (.slice a.l a.nl a.cl) := fun o => (HKG3.out.old o).cell 2
      have y3 : ∀ o, (w3.alloc o).cell? ⟨G, 3, none⟩ = some (.bool b.n) := fun o => (HKG3.out.old o).cell 3
      have y4 : ∀ o, (w3.alloc o).cell? ⟨G, 4, none⟩ = some (.slice b.u b.nu b.cu) := fun o => (HKG3.out.old o).cell 4
      have y5 : ∀ o, (w3.alloc o).cell? ⟨G, 5, none⟩ = some (.slice b.l b.nl b.cl) := fun o => (HKG3.out.old o).cell 5
      have y6 : ∀ o, (w3.alloc o).cell? ⟨G, 6, none⟩ = some (.bool c.n) := fun o => (HKG3.out.old o).cell 6
      have y7 : ∀ o, (w3.alloc o).cell? ⟨G, 7, none⟩ = some (.slice c.u c.nu c.cu) := fun o => (HKG3.out.old o).cell 7
      have y8 : ∀ o, (w3.alloc o).cell? ⟨G, 8, none⟩ = some (.slice c.l c.nl c.cl) := fun o => (HKG3.out.old o).cell 8
      go_wp2_with fail
      obtain ⟨w4, hw4⟩ : ∃ w4, w4 = w3.alloc (.cells #[.bool p.n, .slice p.u p.nu p.cu, .slice p.l p.nl p.cl, .bool q.n, .slice q.u q.nu q.cu, .slice q.l q.nl q.cl, .bool r.n, .slice r.u r.nu r.cu, .slice r.l r.nl r.cl] 97) := ⟨_, rfl⟩
      have hbA := below_new w3 (.cells #[.bool p.n, .slice p.u p.nu p.cu, .slice p.l p.nl p.cl, .bool q.n, .slice q.u q.nu q.cu, .slice q.l q.nl q.cl, .bool r.n, .slice r.u r.nu r.cu, .slice r.l r.nl r.cl] 97)
      have HKH := hideIt (Blk.new w3 #[.bool p.n, .slice p.u p.nu p.cu, .slice p.l p.nl p.cl, .bool q.n, .slice q.u q.nu q.cu, .slice q.l q.nl q.cl, .bool r.n, .slice r.u r.nu r.cu, .slice r.l r.nl r.cl] 97)
      rw [← hw4] at hbA HKH ⊢
      obtain ⟨H, hH⟩ : ∃ H, H = w3.heap.size := ⟨_, rfl⟩
      rw [← hH] at HKH ⊢
      clear hH hw4
      have HBL4 : Hid (Below W0.heap.size W0 w4) := HBL3.out.trans (hbA.mono HBL3.out.size)
      have KB : Hid (3 * (k + k + (k + k) + 1) + 2 ≤ 35184372088640) := by have := HK.out; show _ ≤ _; omega
      refine (angBetween_calls ⟨a, b, rfl, R0.out.below hbA, R1.out.below hbA⟩ ⟨p, q, rfl, P0.out.below hbA, P1.out.below hbA⟩ F1.out F2.out F3.out F4.out KB.out (HTAB.out.below HBL4.out)).mono ?_
      rintro _ w5 ⟨hb5, sa, sb, z, rfl, hans⟩
      have hbl5 := HBL4.out.trans (hb5.mono HBL4.out.size)
      have HKR := hideIt (HK2.out.below hbl5 (by rw [HSZ.out]; omega))
      have HBW := hideIt (HB0.out.trans (hbl5.mono HB0.out.size))
      have HANS := hideIt hans
      obtain ⟨q0, q1, g0, g1⟩ := HKR.out.all2
      clear hbA y0 y1 y2 y3 y4 y5 y6 y7 y8 hb5 hbl5 hans
      go_wp2
      obtain ⟨k0, k1, _⟩ := (HKR.out.put2 (.string sa) (.string sb)).all2
      exact bodyPost_ret (v := .tuple #[.agg #[.string sa, .string sb], .int .i64 z]) (by simp [results, Tryz.results57, go_sem, k0, k1]) rfl ⟨Below.put2 HBW.out (by omega) _ _, sa, sb, z, rfl, HANS.out⟩
theorem angFrom_calls {w : World} {va vb : Value} {la lb lc ma mb mc : List UInt8} (ha : TV va la lb lc) (hb : TV vb ma mb mc) (s1 : la.length ≤ 4294967296) (s2 : lb.length ≤ 4294967296) (s3 : lc.length ≤ 4294967296) (s4 : ma.length ≤ 4294967296) (s5 : mb.length ≤ 4294967296) (s6 : mc.length ≤ 4294967296) {k : Nat} (f1 : QS k (rd la)) (f2 : QS k (rd lb)) (f3 : QS k (rd ma)) (f4 : QS k (rd mb)) (hk : 20 * (k + 1) ≤ 35184372088640) (tab : Tab w) :
    Calls Tryz.prog 57 #[va, vb] w fun e w' => Below w.heap.size w w' ∧ ∃ (sa sb : ByteArray) (z : Int), e = .returned (.tuple #[.agg #[.string sa, .string sb], .int .i64 z]) ∧ AngAns ((rd la = 0 ∧ rd lb = 0) ∨ (rd ma = 0 ∧ rd mb = 0)) (rd la * rd ma - -rd lb * rd mb) (rd la * rd mb + -rd lb * rd ma) sa.data.toList sb.data.toList z := by
  obtain ⟨a, b, c, rfl, rfl, rfl, rfl⟩ := ha
  obtain ⟨d, e, f, rfl, rfl, rfl, rfl⟩ := hb
  exact angFrom_walk s1 s2 s3 s4 s5 s6 f1 f2 f3 f4 hk tab
theorem angSum_walk {w : World} {ls lc ms mc : ByteArray} (s1 : ls.data.toList.length ≤ 4294967296) (s2 : lc.data.toList.length ≤ 4294967296) (s3 : ms.data.toList.length ≤ 4294967296) (s4 : mc.data.toList.length ≤ 4294967296) {k : Nat} (f1 : QS k (rd lc.data.toList)) (f2 : QS k (rd ls.data.toList)) (f3 : QS k (rd mc.data.toList)) (f4 : QS k (rd ms.data.toList)) (hk : 20 * (k + 1) ≤ 35184372088640) (tab : Tab w) :
    Calls Tryz.prog 59 #[.agg #[.string ls, .string lc], .agg #[.string ms, .string mc]] w fun e w' => Below w.heap.size w w' ∧ ∃ (sa sb : ByteArray) (z : Int), e = .returned (.tuple #[.agg #[.string sa, .string sb], .int .i64 z]) ∧ AngAns ((rd lc.data.toList = 0 ∧ rd ls.data.toList = 0) ∨ (rd mc.data.toList = 0 ∧ rd ms.data.toList = 0)) (rd lc.data.toList * rd mc.data.toList - rd ls.data.toList * rd ms.data.toList) (rd lc.data.toList * rd ms.data.toList + rd ls.data.toList * rd mc.data.toList) sa.data.toList sb.data.toList z := by
  obtain ⟨hb0, hk0, hk1, hk2, hsz⟩ := boxes3 w #[.string ls, .string lc] #[.string ms, .string mc] #[.string ⟨#[]⟩, .string ⟨#[]⟩] 67 67 67
  have HB0 := hideIt hb0
  have HSZ := hideIt hsz
  have HK1 := hideIt hk1
  have HK2 := hideIt hk2
  have HTAB := hideIt (tab.below hb0)
  have S1 := hideIt s1
  have S2 := hideIt s2
  have S3 := hideIt s3
  have S4 := hideIt s4
  have F1 := hideIt f1
  have F2 := hideIt f2
  have F3 := hideIt f3
  have F4 := hideIt f4
  have HK := hideIt hk
  clear hb0 hsz hk0 hk1 hk2 tab s1 s2 s3 s4 f1 f2 f3 f4 hk
  go_enter Tryz.func59, Tryz.ntmps59
  go_wp2_with fail
  generalize (((w.alloc (.cells #[.string ls, .string lc] 67)).alloc (.cells #[.string ms, .string mc] 67)).alloc (.cells #[.string ⟨#[]⟩, .string ⟨#[]⟩] 67)) = W0 at *
  refine (angleRead_calls ⟨ls, lc, rfl, rfl, rfl⟩ S1.out S2.out).mono ?_
  rintro _ w1 ⟨hb1, ⟨h1, h2, rfl⟩ | ⟨hn, v1, rfl, hv1⟩⟩
  · have HKR := hideIt (HK2.out.below hb1 (by rw [HSZ.out]; omega))
    have HBW := hideIt (HB0.out.trans (hb1.mono HB0.out.size))
    have HH := hideIt (And.intro h1 h2)
    have r0 : ∀ o, (w1.alloc o).cell? ⟨w.heap.size + 1 + 1, 0, none⟩ = some (.string ⟨#[]⟩) := fun o => (HKR.out.old o).cell 0
    have j0 : ∀ o, (w1.alloc o).frozen? ⟨w.heap.size + 1 + 1, 0, none⟩ = false := fun o => (HKR.out.old o).frozen 0
    have r1 : ∀ o, (w1.alloc o).cell? ⟨w.heap.size + 1 + 1, 1, none⟩ = some (.string ⟨#[]⟩) := fun o => (HKR.out.old o).cell 1
    have j1 : ∀ o, (w1.alloc o).frozen? ⟨w.heap.size + 1 + 1, 1, none⟩ = false := fun o => (HKR.out.old o).frozen 1
    obtain ⟨q0, q1, g0, g1⟩ := HKR.out.all2
    have lR := HKR.out.lt
    clear hb1 h1 h2
    go_wp2
    obtain ⟨k0, k1, _⟩ := ((HKR.out.put2 (.string ⟨#[]⟩) (.string ⟨#[]⟩)).old (.cells #[.bool false, .slice none 0 0, .slice none 0 0, .bool false, .slice none 0 0, .slice none 0 0] 86)).all2
    have hbf := (Below.put2 HBW.out (g := w.heap.size + 1 + 1) (by omega) (.string ⟨#[]⟩) (.string ⟨#[]⟩))
    exact bodyPost_ret (v := .tuple #[.agg #[.string ⟨#[]⟩, .string ⟨#[]⟩], .int .i64 5]) (by simp [results, Tryz.results59, go_sem, k0, k1]) rfl ⟨hbf.alloc hbf.size _, _, _, _, rfl, Or.inl ⟨Or.inl HH.out, rfl, rfl, rfl⟩⟩
  · obtain ⟨a, b, rfl, hx0, hx1⟩ := hv1
    have N0 := hideIt hx0
    have N1 := hideIt hx1
    have HN := hideIt hn
    have HB1 := hideIt hb1
    have HKM1 := hideIt (HK1.out.below hb1 (by rw [HSZ.out]; omega))
    have m0 : ∀ o, (w1.alloc o).cell? ⟨w.heap.size + 1, 0, none⟩ = some (.string ms) := fun o => (HKM1.out.old o).cell 0
    have m1 : ∀ o, (w1.alloc o).cell? ⟨w.heap.size + 1, 1, none⟩ = some (.string mc) := fun o => (HKM1.out.old o).cell 1
    clear hx0 hx1 hn hb1
    go_wp2_with fail
    obtain ⟨w2, hw2⟩ : ∃ w2, w2 = w1.alloc (.cells #[.bool a.n, .slice a.u a.nu a.cu, .slice a.l a.nl a.cl, .bool b.n, .slice b.u b.nu b.cu, .slice b.l b.nl b.cl] 86) := ⟨_, rfl⟩
    have hbA := below_new w1 (.cells #[.bool a.n, .slice a.u a.nu a.cu, .slice a.l a.nl a.cl, .bool b.n, .slice b.u b.nu b.cu, .slice b.l b.nl b.cl] 86)
    have HKG := hideIt (Blk.new w1 #[.bool a.n, .slice a.u a.nu a.cu, .slice a.l a.nl a.cl, .bool b.n, .slice b.u b.nu b.cu, .slice b.l b.nl b.cl] 86)
    rw [← hw2] at hbA HKG ⊢
    obtain ⟨G, hG⟩ : ∃ G, G = w1.heap.size := ⟨_, rfl⟩
    rw [← hG] at HKG ⊢
    clear hG hw2
    have HBL : Hid (Below W0.heap.size W0 w2) := HB1.out.trans (hbA.mono HB1.out.size)
    have O0 := hideIt (N0.out.below hbA)
    have O1 := hideIt (N1.out.below hbA)
    clear hbA m0 m1
    refine (angleRead_calls ⟨ms, mc, rfl, rfl, rfl⟩ S3.out S4.out).mono ?_
    rintro _ w3 ⟨hb3, ⟨h1, h2, rfl⟩ | ⟨hm, v3, rfl, hv3⟩⟩
    · have hbl3 := HBL.out.trans (hb3.mono HBL.out.size)
      have HKR := hideIt (HK2.out.below hbl3 (by rw [HSZ.out]; omega))
      have HBW := hideIt (HB0.out.trans (hbl3.mono HB0.out.size))
      have HH := hideIt (And.intro h1 h2)
      have r0 : ∀ o, (w3.alloc o).cell? ⟨w.heap.size + 1 + 1, 0, none⟩ = some (.string ⟨#[]⟩) := fun o => (HKR.out.old o).cell 0
      have j0 : ∀ o, (w3.alloc o).frozen? ⟨w.heap.size + 1 + 1, 0, none⟩ = false := fun o => (HKR.out.old o).frozen 0
      have r1 : ∀ o, (w3.alloc o).cell? ⟨w.heap.size + 1 + 1, 1, none⟩ = some (.string ⟨#[]⟩) := fun o => (HKR.out.old o).cell 1
      have j1 : ∀ o, (w3.alloc o).frozen? ⟨w.heap.size + 1 + 1, 1, none⟩ = false := fun o => (HKR.out.old o).frozen 1
      obtain ⟨q0, q1, g0, g1⟩ := HKR.out.all2
      have lR := HKR.out.lt
      clear hb3 h1 h2 hbl3
      go_wp2
      obtain ⟨k0, k1, _⟩ := ((HKR.out.put2 (.string ⟨#[]⟩) (.string ⟨#[]⟩)).old (.cells #[.bool false, .slice none 0 0, .slice none 0 0, .bool false, .slice none 0 0, .slice none 0 0] 86)).all2
      have hbf := (Below.put2 HBW.out (g := w.heap.size + 1 + 1) (by omega) (.string ⟨#[]⟩) (.string ⟨#[]⟩))
      exact bodyPost_ret (v := .tuple #[.agg #[.string ⟨#[]⟩, .string ⟨#[]⟩], .int .i64 5]) (by simp [results, Tryz.results59, go_sem, k0, k1]) rfl ⟨hbf.alloc hbf.size _, _, _, _, rfl, Or.inl ⟨Or.inr HH.out, rfl, rfl, rfl⟩⟩
    · obtain ⟨p, q, rfl, hy0, hy1⟩ := hv3
      have P0 := hideIt hy0
      have P1 := hideIt hy1
      have HM := hideIt hm
      have HBL3 := hideIt (HBL.out.trans (hb3.mono HBL.out.size))
      have R0 := hideIt (O0.out.below hb3)
      have R1 := hideIt (O1.out.below hb3)
      have HKG3 := hideIt (HKG.out.below hb3 HKG.out.lt)
      clear hy0 hy1 hm hb3
      have y0 : ∀ o, (w3.alloc o).cell? ⟨G, 0, none⟩ = some (.bool a.n) := fun o => (HKG3.out.old o).cell 0
      have y1 : ∀ o, (w3.alloc o).cell? ⟨G, 1, none⟩ = some (.slice a.u a.nu a.cu) := fun o => (HKG3.out.old o).cell 1
      have y2 : ∀ o, (w3.alloc o).cell? ⟨G, 2, none⟩ = some (.slice a.l a.nl a.cl) := fun o => (HKG3.out.old o).cell 2
      have y3 : ∀ o, (w3.alloc o).cell? ⟨G, 3, none⟩ = some (.bool b.n) := fun o => (HKG3.out.old o).cell 3
      have y4 : ∀ o, (w3.alloc o).cell? ⟨G, 4, none⟩ = some (.slice b.u b.nu b.cu) := fun o => (HKG3.out.old o).cell 4
      have y5 : ∀ o, (w3.alloc o).cell? ⟨G, 5, none⟩ = some (.slice b.l b.nl b.cl) := fun o => (HKG3.out.old o).cell 5
      go_wp2_with fail
      obtain ⟨w4, hw4⟩ : ∃ w4, w4 = w3.alloc (.cells #[.bool p.n, .slice p.u p.nu p.cu, .slice p.l p.nl p.cl, .bool q.n, .slice q.u q.nu q.cu, .slice q.l q.nl q.cl] 86) := ⟨_, rfl⟩
      have hbA := below_new w3 (.cells #[.bool p.n, .slice p.u p.nu p.cu, .slice p.l p.nl p.cl, .bool q.n, .slice q.u q.nu q.cu, .slice q.l q.nl q.cl] 86)
      have HKH := hideIt (Blk.new w3 #[.bool p.n, .slice p.u p.nu p.cu, .slice p.l p.nl p.cl, .bool q.n, .slice q.u q.nu q.cu, .slice q.l q.nl q.cl] 86)
      rw [← hw4] at hbA HKH ⊢
      obtain ⟨H, hH⟩ : ∃ H, H = w3.heap.size := ⟨_, rfl⟩
      rw [← hH] at HKH ⊢
      clear hH hw4
      have HBL4 : Hid (Below W0.heap.size W0 w4) := HBL3.out.trans (hbA.mono HBL3.out.size)
      have KB : Hid (2 * (k + k + 1) + 1 ≤ 35184372088640) := by have := HK.out; show _ ≤ _; omega
      have KC : Hid (3 * (k + k + (k + k) + 1) + 2 ≤ 35184372088640) := by have := HK.out; show _ ≤ _; omega
      have FX : Hid (QS (k + k + (k + k) + 1) (rd lc.data.toList * rd mc.data.toList - rd ls.data.toList * rd ms.data.toList)) := (F1.out.mul F3.out).sub (F2.out.mul F4.out)
      have FY : Hid (QS (k + k + (k + k) + 1) (rd lc.data.toList * rd ms.data.toList + rd ls.data.toList * rd mc.data.toList)) := (F1.out.mul F4.out).add (F2.out.mul F3.out)
      have T0 := hideIt (R0.out.below hbA)
      have U0 := hideIt (P0.out.below hbA)
      have T1 := hideIt (R1.out.below hbA)
      have U1 := hideIt (P1.out.below hbA)
      clear hbA y0 y1 y2 y3 y4 y5
      refine (wayProd_calls ⟨a, b, rfl, T0.out, T1.out⟩ ⟨p, q, rfl, U0.out, U1.out⟩ F1.out F2.out F3.out F4.out KB.out).mono ?_
      rintro _ w5 ⟨hb5, v5, rfl, hv5⟩
      have hbl5 := HBL4.out.trans (hb5.mono HBL4.out.size)
      go_wp2_with fail
      refine (angleText_calls hv5 FX.out FY.out KC.out (HTAB.out.below hbl5)).mono ?_
      rintro _ w6 ⟨hb6, v6, rfl, sa, sb, rfl, ta, tb⟩
      have hbl6 := hbl5.trans (hb6.mono hbl5.size)
      have HKR := hideIt (HK2.out.below hbl6 (by rw [HSZ.out]; omega))
      have HBW := hideIt (HB0.out.trans (hbl6.mono HB0.out.size))
      have HT := hideIt (And.intro ta tb)
      obtain ⟨q0, q1, g0, g1⟩ := HKR.out.all2
      clear hb5 hb6 hbl5 hbl6 ta tb hv5
      go_wp2
      obtain ⟨k0, k1, _⟩ := (HKR.out.put2 (.string sa) (.string sb)).all2
      exact bodyPost_ret (v := .tuple #[.agg #[.string sa, .string sb], .int .i64 0]) (by simp [results, Tryz.results59, go_sem, k0, k1]) rfl ⟨Below.put2 HBW.out (by omega) _ _, _, _, _, rfl, Or.inr ⟨fun h => h.elim HN.out HM.out, rfl, HT.out.1, HT.out.2⟩⟩
end Go.Proofs.YtgajdmadbdbabaaGreatDoor
/- XE -/
namespace Go.Proofs.YtgajdmadbdbabaaGreatDoor
open Go.RowKit Cx
attribute [local go_sem ↓] Go.wp_at_zero Go.wp_at_succ
theorem angSeen_walk {w : World} {ax ay bx bz px pz : ByteArray} (s1 : ax.data.toList.length ≤ 4294967296) (s2 : ay.data.toList.length ≤ 4294967296) (s3 : bx.data.toList.length ≤ 4294967296) (s4 : bz.data.toList.length ≤ 4294967296) (s5 : px.data.toList.length ≤ 4294967296) (s6 : pz.data.toList.length ≤ 4294967296) {k : Nat} (f1 : QS k (rd ax.data.toList)) (f2 : QS k (rd ay.data.toList)) (f3 : QS k (rd bx.data.toList)) (f4 : QS k (rd bz.data.toList)) (f5 : QS k (rd px.data.toList)) (f6 : QS k (rd pz.data.toList)) (hk : 40 * (k + 1) ≤ 35184372088640) (tab : Tab w) :
    Calls Tryz.prog 60 #[.agg #[.string ax, .string ay], .agg #[.string bx, .string bz], .agg #[.string px, .string pz]] w fun e w' => Below w.heap.size w w' ∧ ∃ (sa sb : ByteArray) (z : Int), e = .returned (.tuple #[.agg #[.string sa, .string sb], .int .i64 z]) ∧ AngAns (((rd ax.data.toList - rd px.data.toList) = 0 ∧ (rd ay.data.toList - rd pz.data.toList) = 0) ∨ ((rd bx.data.toList - rd px.data.toList) = 0 ∧ (rd bz.data.toList - rd pz.data.toList) = 0)) ((rd ax.data.toList - rd px.data.toList) * (rd bx.data.toList - rd px.data.toList) - -(rd ay.data.toList - rd pz.data.toList) * (rd bz.data.toList - rd pz.data.toList)) ((rd ax.data.toList - rd px.data.toList) * (rd bz.data.toList - rd pz.data.toList) + -(rd ay.data.toList - rd pz.data.toList) * (rd bx.data.toList - rd px.data.toList)) sa.data.toList sb.data.toList z := by
  obtain ⟨hb0, hk0, hk1, hk2, hk3, hsz⟩ := boxes4 w #[.string ax, .string ay] #[.string bx, .string bz] #[.string px, .string pz] #[.string ⟨#[]⟩, .string ⟨#[]⟩] 24 24 24 67
  have HB0 := hideIt hb0
  have HSZ := hideIt hsz
  have HK0 := hideIt hk0
  have HK1 := hideIt hk1
  have HK3 := hideIt hk3
  have HTAB := hideIt (tab.below hb0)
  have S1 := hideIt s1
  have F1 := hideIt f1
  have S2 := hideIt s2
  have F2 := hideIt f2
  have S3 := hideIt s3
  have F3 := hideIt f3
  have S4 := hideIt s4
  have F4 := hideIt f4
  have S5 := hideIt s5
  have F5 := hideIt f5
  have S6 := hideIt s6
  have F6 := hideIt f6
  have HK := hideIt hk
  have FU1 : Hid (QS (k + k + 1) (rd ax.data.toList - rd px.data.toList)) := f1.sub f5
  have FU2 : Hid (QS (k + k + 1) (rd ay.data.toList - rd pz.data.toList)) := f2.sub f6
  have FV1 : Hid (QS (k + k + 1) (rd bx.data.toList - rd px.data.toList)) := f3.sub f5
  have FV2 : Hid (QS (k + k + 1) (rd bz.data.toList - rd pz.data.toList)) := f4.sub f6
  have KA : Hid (k + k + 1 ≤ 35184372088640) := by show _ ≤ _; omega
  have KB : Hid (3 * (k + k + 1 + (k + k + 1) + (k + k + 1 + (k + k + 1)) + 1) + 2 ≤ 35184372088640) := by show _ ≤ _; omega
  clear hb0 hsz hk0 hk1 hk2 hk3 tab s1 f1 s2 f2 s3 f3 s4 f4 s5 f5 s6 f6 hk
  go_enter Tryz.func60, Tryz.ntmps60
  go_wp2_with fail
  generalize ((((w.alloc (.cells #[.string ax, .string ay] 24)).alloc (.cells #[.string bx, .string bz] 24)).alloc (.cells #[.string px, .string pz] 24)).alloc (.cells #[.string ⟨#[]⟩, .string ⟨#[]⟩] 67)) = W0 at *
  refine (wayRead_calls ⟨px, pz, rfl, rfl, rfl⟩ S5.out S6.out).mono ?_
  rintro _ w1 ⟨hb1, v1, rfl, d, e, rfl, hx, hy⟩
  have HX := hideIt hx
  have HY := hideIt hy
  have HB1 := hideIt hb1
  have HA1 := hideIt (HK0.out.below hb1 (by rw [HSZ.out]; omega))
  have a0 : ∀ o, (w1.alloc o).cell? ⟨w.heap.size, 0, none⟩ = some (.string ax) := fun o => (HA1.out.old o).cell 0
  have a1 : ∀ o, (w1.alloc o).cell? ⟨w.heap.size, 1, none⟩ = some (.string ay) := fun o => (HA1.out.old o).cell 1
  clear hx hy hb1
  go_wp2_with fail
  obtain ⟨w2, hw2⟩ : ∃ w2, w2 = w1.alloc (.cells #[.bool d.n, .slice d.u d.nu d.cu, .slice d.l d.nl d.cl, .bool e.n, .slice e.u e.nu e.cu, .slice e.l e.nl e.cl] 86) := ⟨_, rfl⟩
  have hbA := below_new w1 (.cells #[.bool d.n, .slice d.u d.nu d.cu, .slice d.l d.nl d.cl, .bool e.n, .slice e.u e.nu e.cu, .slice e.l e.nl e.cl] 86)
  have HKG := hideIt (Blk.new w1 #[.bool d.n, .slice d.u d.nu d.cu, .slice d.l d.nl d.cl, .bool e.n, .slice e.u e.nu e.cu, .slice e.l e.nl e.cl] 86)
  rw [← hw2] at hbA HKG ⊢
  obtain ⟨G, hG⟩ : ∃ G, G = w1.heap.size := ⟨_, rfl⟩
  rw [← hG] at HKG ⊢
  clear hG hw2
  have HB2 := hideIt (HB1.out.trans (hbA.mono HB1.out.size))
  have HX2 := hideIt (HX.out.below hbA)
  have HY2 := hideIt (HY.out.below hbA)
  clear hbA a0 a1
  have HS : Hid (∀ w', Below w2.heap.size w2 w' → w'.cell? ⟨w.heap.size, 0, none⟩ = some (.string ax) ∧ w'.cell? ⟨w.heap.size, 1, none⟩ = some (.string ay) ∧ w'.cell? ⟨w.heap.size + 1, 0, none⟩ = some (.string bx) ∧ w'.cell? ⟨w.heap.size + 1, 1, none⟩ = some (.string bz) ∧ w'.cell? ⟨G, 0, none⟩ = some (.bool d.n) ∧ w'.cell? ⟨G, 1, none⟩ = some (.slice d.u d.nu d.cu) ∧ w'.cell? ⟨G, 2, none⟩ = some (.slice d.l d.nl d.cl) ∧ w'.cell? ⟨G, 3, none⟩ = some (.bool e.n) ∧ w'.cell? ⟨G, 4, none⟩ = some (.slice e.u e.nu e.cu) ∧ w'.cell? ⟨G, 5, none⟩ = some (.slice e.l e.nl e.cl)) := fun w' hb => by
    have h := HK0.out.below (HB2.out.trans (hb.mono HB2.out.size)) (by rw [HSZ.out]; omega)
    have h' := HK1.out.below (HB2.out.trans (hb.mono HB2.out.size)) (by rw [HSZ.out]; omega)
    have h'' := HKG.out.below hb HKG.out.lt
    exact ⟨h.cell 0, h.cell 1, h'.cell 0, h'.cell 1, h''.cell 0, h''.cell 1, h''.cell 2, h''.cell 3, h''.cell 4, h''.cell 5⟩
  have HR2 := hideIt (HK3.out.below HB2.out (by rw [HSZ.out]; omega))
  have nG : Hid (w.heap.size + 1 + 1 + 1 ≠ G) := fun h => by
    have := HKG.out.cell 0
    rw [← h, HR2.out.cell 0] at this
    simp at this
  have HSS : Hid (∀ w', Below w2.heap.size w2 w' → ∀ x0 x1 : Value, ((w'.setCell ⟨w.heap.size + 1 + 1 + 1, 0, none⟩ x0).setCell ⟨w.heap.size + 1 + 1 + 1, 1, none⟩ x1).cell? ⟨w.heap.size, 0, none⟩ = some (.string ax) ∧ ((w'.setCell ⟨w.heap.size + 1 + 1 + 1, 0, none⟩ x0).setCell ⟨w.heap.size + 1 + 1 + 1, 1, none⟩ x1).cell? ⟨w.heap.size, 1, none⟩ = some (.string ay) ∧ ((w'.setCell ⟨w.heap.size + 1 + 1 + 1, 0, none⟩ x0).setCell ⟨w.heap.size + 1 + 1 + 1, 1, none⟩ x1).cell? ⟨w.heap.size + 1, 0, none⟩ = some (.string bx) ∧ ((w'.setCell ⟨w.heap.size + 1 + 1 + 1, 0, none⟩ x0).setCell ⟨w.heap.size + 1 + 1 + 1, 1, none⟩ x1).cell? ⟨w.heap.size + 1, 1, none⟩ = some (.string bz) ∧ ((w'.setCell ⟨w.heap.size + 1 + 1 + 1, 0, none⟩ x0).setCell ⟨w.heap.size + 1 + 1 + 1, 1, none⟩ x1).cell? ⟨G, 0, none⟩ = some (.bool d.n) ∧ ((w'.setCell ⟨w.heap.size + 1 + 1 + 1, 0, none⟩ x0).setCell ⟨w.heap.size + 1 + 1 + 1, 1, none⟩ x1).cell? ⟨G, 1, none⟩ = some (.slice d.u d.nu d.cu) ∧ ((w'.setCell ⟨w.heap.size + 1 + 1 + 1, 0, none⟩ x0).setCell ⟨w.heap.size + 1 + 1 + 1, 1, none⟩ x1).cell? ⟨G, 2, none⟩ = some (.slice d.l d.nl d.cl) ∧ ((w'.setCell ⟨w.heap.size + 1 + 1 + 1, 0, none⟩ x0).setCell ⟨w.heap.size + 1 + 1 + 1, 1, none⟩ x1).cell? ⟨G, 3, none⟩ = some (.bool e.n) ∧ ((w'.setCell ⟨w.heap.size + 1 + 1 + 1, 0, none⟩ x0).setCell ⟨w.heap.size + 1 + 1 + 1, 1, none⟩ x1).cell? ⟨G, 4, none⟩ = some (.slice e.u e.nu e.cu) ∧ ((w'.setCell ⟨w.heap.size + 1 + 1 + 1, 0, none⟩ x0).setCell ⟨w.heap.size + 1 + 1 + 1, 1, none⟩ x1).cell? ⟨G, 5, none⟩ = some (.slice e.l e.nl e.cl)) := fun w' hb x0 x1 => by
    have h := (HK0.out.below (HB2.out.trans (hb.mono HB2.out.size)) (by rw [HSZ.out]; omega)).off2 (g := w.heap.size + 1 + 1 + 1) (by omega) x0 x1
    have h' := (HK1.out.below (HB2.out.trans (hb.mono HB2.out.size)) (by rw [HSZ.out]; omega)).off2 (g := w.heap.size + 1 + 1 + 1) (by omega) x0 x1
    have h'' := (HKG.out.below hb HKG.out.lt).off2 (g := w.heap.size + 1 + 1 + 1) nG.out x0 x1
    exact ⟨h.cell 0, h.cell 1, h'.cell 0, h'.cell 1, h''.cell 0, h''.cell 1, h''.cell 2, h''.cell 3, h''.cell 4, h''.cell 5⟩
  obtain ⟨z0, z1, z2, z3, z4, z5, z6, z7, z8, z9⟩ := HS.out w2 (Below.refl _ _)
  go_region_held3 (fun w' => w'.cell? ⟨w.heap.size, 0, none⟩ = some (.string ax) ∧ w'.cell? ⟨w.heap.size, 1, none⟩ = some (.string ay) ∧ w'.cell? ⟨w.heap.size + 1, 0, none⟩ = some (.string bx) ∧ w'.cell? ⟨w.heap.size + 1, 1, none⟩ = some (.string bz) ∧ w'.cell? ⟨G, 0, none⟩ = some (.bool d.n) ∧ w'.cell? ⟨G, 1, none⟩ = some (.slice d.u d.nu d.cu) ∧ w'.cell? ⟨G, 2, none⟩ = some (.slice d.l d.nl d.cl) ∧ w'.cell? ⟨G, 3, none⟩ = some (.bool e.n) ∧ w'.cell? ⟨G, 4, none⟩ = some (.slice e.u e.nu e.cu) ∧ w'.cell? ⟨G, 5, none⟩ = some (.slice e.l e.nl e.cl)) (first | go_keep | exact hs3 | exact hs4 | exact hs5 | exact hs6 | exact hs7 | exact hkS)
    (first
      | (go_at_call_of 62 (Value.agg #[Value.string ax, Value.string ay]); refine (wayRead_calls (w := w2.drew) ⟨ax, ay, rfl, rfl, rfl⟩ S1.out S2.out).mono ?_; rintro _ w3 ⟨hb3, v3, rfl, hv3⟩; obtain ⟨d3, e3, rfl, hx3, hy3⟩ := hv3; have hbl3 : Below w2.heap.size w2 w3 := (Below.drew (Below.refl _ w2)).trans hb3; have hs3 := HS.out w3 hbl3)
      | (go_at_call_of 64 (Value.agg #[Value.bool d3.n, Value.slice d3.u d3.nu d3.cu, Value.slice d3.l d3.nl d3.cl, Value.bool e3.n, Value.slice e3.u e3.nu e3.cu, Value.slice e3.l e3.nl e3.cl]); refine (wayMinus_calls ⟨d3, e3, rfl, hx3, hy3⟩ ⟨d, e, rfl, HX2.out.below hbl3, HY2.out.below hbl3⟩ F1.out F2.out F5.out F6.out KA.out |>.mono ?_) ; rintro _ w4 ⟨hb4, v4, rfl, hv4⟩; obtain ⟨d4, e4, rfl, hx4, hy4⟩ := hv4; have hbl4 := hbl3.trans (hb4.mono hbl3.size); have hs4 := HS.out w4 hbl4)
      | (go_at_call_of 62 (Value.agg #[Value.string bx, Value.string bz]); refine (wayRead_calls ⟨bx, bz, rfl, rfl, rfl⟩ S3.out S4.out).mono ?_; rintro _ w5 ⟨hb5, v5, rfl, hv5⟩; obtain ⟨d5, e5, rfl, hx5, hy5⟩ := hv5; have hbl5 := hbl4.trans (hb5.mono hbl4.size); have hs5 := HS.out w5 hbl5)
      | (go_at_call_of 64 (Value.agg #[Value.bool d5.n, Value.slice d5.u d5.nu d5.cu, Value.slice d5.l d5.nl d5.cl, Value.bool e5.n, Value.slice e5.u e5.nu e5.cu, Value.slice e5.l e5.nl e5.cl]); refine (wayMinus_calls ⟨d5, e5, rfl, hx5, hy5⟩ ⟨d, e, rfl, HX2.out.below hbl5, HY2.out.below hbl5⟩ F3.out F4.out F5.out F6.out KA.out).mono ?_ ; rintro _ w6 ⟨hb6, v6, rfl, hv6⟩; obtain ⟨d6, e6, rfl, hx6, hy6⟩ := hv6; have hbl6 := hbl5.trans (hb6.mono hbl5.size); have hs6 := HS.out w6 hbl6)
      | (go_at_call 101; refine (angBetween_calls ⟨d4, e4, rfl, (hx4.below hb5).below hb6, (hy4.below hb5).below hb6⟩ ⟨d6, e6, rfl, hx6, hy6⟩ FU1.out FU2.out FV1.out FV2.out KB.out (HTAB.out.below (HB2.out.trans (hbl6.mono HB2.out.size)))).mono ?_; rintro _ w7 ⟨hb7, sa, sb, z, rfl, hans⟩; have hbl7 := hbl6.trans (hb7.mono hbl6.size); have hs7 := HS.out w7 hbl7; have hkr := HR2.out.below hbl7 HR2.out.lt; obtain ⟨q0, q1, g0, g1⟩ := hkr.all2; have hkS := HSS.out w7 hbl7 (.string sa) (.string sb); have HANS := hideIt hans; clear hans)
      )
  all_goals
    go_wp2
    obtain ⟨k0, k1, _⟩ := (hkr.put2 (.string sa) (.string sb)).all2
    exact bodyPost_ret (v := .tuple #[.agg #[.string sa, .string sb], .int .i64 z]) (by simp [results, Tryz.results60, go_sem, k0, k1]) rfl ⟨Below.put2 (HB0.out.trans ((HB2.out.trans (hbl7.mono HB2.out.size)).mono HB0.out.size)) (by omega) _ _, _, _, _, rfl, HANS.out⟩
end Go.Proofs.YtgajdmadbdbabaaGreatDoor
/- XF -/
namespace Go.Proofs.YtgajdmadbdbabaaGreatDoor
open Go.RowKit Cx
attribute [local go_sem ↓] Go.wp_at_zero Go.wp_at_succ
def cpow (x y : Rat) : Nat → Rat × Rat
  | 0 => (1, 0)
  | n + 1 => ((cpow x y n).1 * x - (cpow x y n).2 * y, (cpow x y n).1 * y + (cpow x y n).2 * x)
structure QI (k : Nat) (q : Rat) : Prop where
  den : q.den = 1
  num : q.num.natAbs < 2 ^ k
theorem QI.mono {k l : Nat} {q : Rat} (h : QI k q) (hk : k ≤ l) : QI l q := ⟨h.den, Nat.lt_of_lt_of_le h.num (Nat.pow_le_pow_right (by decide) hk)⟩
theorem QI.of {k : Nat} {z : Int} (h : z.natAbs < 2 ^ k) : QI k (z : Rat) := ⟨rfl, h⟩
theorem QI.int {k : Nat} {q : Rat} (h : QI k q) : q = ((q.num : Int) : Rat) := by
  have := h.den
  rw [← Rat.mkRat_self q, this, Rat.mkRat_one]
  simp
theorem QI.qs {k : Nat} {q : Rat} (h : QI k q) : QS (k + 1) q := ⟨Nat.lt_of_lt_of_le h.num (Nat.pow_le_pow_right (by decide) (by omega)), by rw [h.den]; exact Nat.one_lt_two_pow (by omega)⟩
theorem mul_lt_pow {a b k l : Nat} (h1 : a < 2 ^ k) (h2 : b < 2 ^ l) : a * b < 2 ^ (k + l) := by
  rw [Nat.pow_add]
  exact Nat.mul_lt_mul_of_lt_of_lt h1 h2
theorem QI.re {k l : Nat} {a b x y : Rat} (h1 : QI k a) (h2 : QI k b) (h3 : QI l x) (h4 : QI l y) : QI (k + l + 1) (a * x - b * y) := by
  rw [h1.int, h2.int, h3.int, h4.int, ← Rat.intCast_mul, ← Rat.intCast_mul, ← Rat.intCast_sub]
  apply QI.of
  have e1 := mul_lt_pow h1.num h3.num
  have e2 := mul_lt_pow h2.num h4.num
  rw [← Int.natAbs_mul] at e1 e2
  have := Int.natAbs_sub_le (a.num * x.num) (b.num * y.num)
  rw [Nat.pow_succ]
  omega
theorem QI.im {k l : Nat} {a b x y : Rat} (h1 : QI k a) (h2 : QI k b) (h3 : QI l x) (h4 : QI l y) : QI (k + l + 1) (a * y + b * x) := by
  rw [h1.int, h2.int, h3.int, h4.int, ← Rat.intCast_mul, ← Rat.intCast_mul, ← Rat.intCast_add]
  apply QI.of
  have e1 := mul_lt_pow h1.num h4.num
  have e2 := mul_lt_pow h2.num h3.num
  rw [← Int.natAbs_mul] at e1 e2
  have := Int.natAbs_add_le (a.num * y.num) (b.num * x.num)
  rw [Nat.pow_succ]
  omega
theorem QI.pow {L : Nat} {x y : Rat} (h1 : QI L x) (h2 : QI L y) : ∀ n, QI (n * (L + 1) + 1) (cpow x y n).1 ∧ QI (n * (L + 1) + 1) (cpow x y n).2
  | 0 => by
    have e : cpow x y 0 = (1, 0) := rfl
    rw [e, Nat.zero_mul]
    exact ⟨⟨by decide, by decide⟩, ⟨by decide, by decide⟩⟩
  | n + 1 => by
    obtain ⟨i1, i2⟩ := QI.pow h1 h2 n
    exact ⟨(QI.re i1 i2 h1 h2).mono (by rw [Nat.succ_mul]; omega), (QI.im i1 i2 h1 h2).mono (by rw [Nat.succ_mul]; omega)⟩
theorem QI.fac2 {K : Nat} {x y q : Rat} (f1 : QS K x) (f2 : QS K y) (h : q ∈ [x, y]) : QI (3 * K + 1) (q * Cx.fac [x, y]) := by
  have h1 := QS.fac2 f1 f2 h
  refine ⟨?_, h1.num⟩
  rw [← pl_mul h]
  rfl
theorem power_walk {w : World} {a b : C3} {x y : Rat} {n : Nat} (hx : QV w (.agg #[.bool a.n, .slice a.u a.nu a.cu, .slice a.l a.nl a.cl]) x) (hy : QV w (.agg #[.bool b.n, .slice b.u b.nu b.cu, .slice b.l b.nl b.cl]) y) {K : Nat} (f1 : QS K x) (f2 : QS K y) (hn : n ≤ 60) (hk : 1000 * (K + 1) ≤ 35184372088640) :
    Calls Tryz.prog 148 #[.agg #[.bool a.n, .slice a.u a.nu a.cu, .slice a.l a.nl a.cl, .bool b.n, .slice b.u b.nu b.cu, .slice b.l b.nl b.cl], .int .i64 n] w fun e w' => Below w.heap.size w w' ∧ ∃ v, e = .returned v ∧ WV w' v (cpow (x * fac [x, y]) (y * fac [x, y]) n).1 (cpow (x * fac [x, y]) (y * fac [x, y]) n).2 := by
  obtain ⟨hb0, hk0, hk1, hsz⟩ := boxes2 w #[.bool a.n, .slice a.u a.nu a.cu, .slice a.l a.nl a.cl, .bool b.n, .slice b.u b.nu b.cu, .slice b.l b.nl b.cl] #[.bool false, .slice none 0 0, .slice none 0 0, .bool false, .slice none 0 0, .slice none 0 0] 86 86
  have HB0 := hideIt hb0
  have HSZ := hideIt hsz
  have HK0 := hideIt hk0
  have HK1 := hideIt hk1
  have HX := hideIt (hx.below hb0)
  have HY := hideIt (hy.below hb0)
  have F1 := hideIt f1
  have F2 := hideIt f2
  have HK := hideIt hk
  have I1 : Hid (QI (3 * K + 1) (x * fac [x, y])) := QI.fac2 f1 f2 (by simp)
  have I2 : Hid (QI (3 * K + 1) (y * fac [x, y])) := QI.fac2 f1 f2 (by simp)
  have K1 : Hid (3 * K + 2 ≤ 35184372088640) := by show _ ≤ _; omega
  clear hb0 hsz hk0 hk1 hx hy f1 f2 hk
  go_enter Tryz.func148, Tryz.ntmps148
  go_wp2_with fail
  generalize ((w.alloc (.cells #[.bool a.n, .slice a.u a.nu a.cu, .slice a.l a.nl a.cl, .bool b.n, .slice b.u b.nu b.cu, .slice b.l b.nl b.cl] 86)).alloc (.cells #[.bool false, .slice none 0 0, .slice none 0 0, .bool false, .slice none 0 0, .slice none 0 0] 86)) = W0 at *
  refine (anglePlain_calls ⟨a, b, rfl, HX.out, HY.out⟩ F1.out F2.out K1.out).mono ?_
  rintro e w1 ⟨hb1, v1, rfl, p, q, rfl, hp, hq⟩
  have hA := HK0.out.below hb1 (by rw [HSZ.out]; omega)
  have hR := HK1.out.below hb1 (by rw [HSZ.out]; omega)
  obtain ⟨r0, r1, r2, r3, r4, r5, j0, j1, j2, j3, j4, j5⟩ := hA.all6
  have HA := hideIt (hA.put6 (.bool p.n) (.slice p.u p.nu p.cu) (.slice p.l p.nl p.cl) (.bool q.n) (.slice q.u q.nu q.cu) (.slice q.l q.nl q.cl))
  have HR := hideIt (hR.off6 (g := w.heap.size) (by omega) (.bool p.n) (.slice p.u p.nu p.cu) (.slice p.l p.nl p.cl) (.bool q.n) (.slice q.u q.nu q.cu) (.slice q.l q.nl q.cl))
  have HST := hideIt (Stays.put6 hA (by simp [notLimb]) (.bool p.n) (.slice p.u p.nu p.cu) (.slice p.l p.nl p.cl) (.bool q.n) (.slice q.u q.nu q.cu) (.slice q.l q.nl q.cl) rfl rfl rfl rfl rfl rfl)
  have HBW := hideIt (Below.put6 (HB0.out.trans (hb1.mono HB0.out.size)) (Nat.le_refl _) (.bool p.n) (.slice p.u p.nu p.cu) (.slice p.l p.nl p.cl) (.bool q.n) (.slice q.u q.nu q.cu) (.slice q.l q.nl q.cl))
  have HP := hideIt (HST.out.qv hp)
  have HQ := hideIt (HST.out.qv hq)
  clear hA hR hp hq HST hb1
  go_wp2_with fail
  generalize ((((((w1.setCell ⟨w.heap.size, 0, none⟩ (.bool p.n)).setCell ⟨w.heap.size, 1, none⟩ (.slice p.u p.nu p.cu)).setCell ⟨w.heap.size, 2, none⟩ (.slice p.l p.nl p.cl)).setCell ⟨w.heap.size, 3, none⟩ (.bool q.n)).setCell ⟨w.heap.size, 4, none⟩ (.slice q.u q.nu q.cu)).setCell ⟨w.heap.size, 5, none⟩ (.slice q.l q.nl q.cl)) = w2 at *
  clear r0 r1 r2 r3 r4 r5 j0 j1 j2 j3 j4 j5
  refine (int_calls 1 (by decide) w2).mono ?_
  rintro _ w3 ⟨hb3, v3, rfl, hv3⟩
  obtain ⟨c0, rfl⟩ := qv_open hv3
  have HV3 := hideIt hv3
  have HBW3 := hideIt (HBW.out.trans (hb3.mono HBW.out.size))
  have HA3 := hideIt (HA.out.below hb3 HA.out.lt)
  have HR3 := hideIt (HR.out.below hb3 HR.out.lt)
  have HP3 := hideIt (HP.out.below hb3)
  have HQ3 := hideIt (HQ.out.below hb3)
  clear hb3 hv3
  go_wp2
  obtain ⟨w4, hw4⟩ : ∃ w4, w4 = w3.alloc (.cells #[.bool c0.n, .slice c0.u c0.nu c0.cu, .slice c0.l c0.nl c0.cl, .bool false, .slice none 0 0, .slice none 0 0] 86) := ⟨_, rfl⟩
  have hbA := below_new w3 (.cells #[.bool c0.n, .slice c0.u c0.nu c0.cu, .slice c0.l c0.nl c0.cl, .bool false, .slice none 0 0, .slice none 0 0] 86)
  have HKG := hideIt (Blk.new w3 #[.bool c0.n, .slice c0.u c0.nu c0.cu, .slice c0.l c0.nl c0.cl, .bool false, .slice none 0 0, .slice none 0 0] 86)
  rw [← hw4] at hbA HKG ⊢
  obtain ⟨G, hG⟩ : ∃ G, G = w3.heap.size := ⟨_, rfl⟩
  rw [← hG] at HKG ⊢
  have HGE : Hid (w.heap.size ≤ G ∧ w.heap.size ≠ G ∧ w.heap.size + 1 ≠ G) := by have h1 := HA3.out.lt; have h2 := HR3.out.lt; rw [hG]; exact ⟨by omega, by omega, by omega⟩
  clear hG hw4
  have HA4 := hideIt (HA3.out.below hbA HA3.out.lt)
  have HR4 := hideIt (HR3.out.below hbA HR3.out.lt)
  have HP4 := hideIt (HP3.out.below hbA)
  have HQ4 := hideIt (HQ3.out.below hbA)
  have HV4 := hideIt (HV3.out.below hbA)
  have HB4 := hideIt (HBW3.out.trans (hbA.mono HBW3.out.size))
  clear hbA
  have HN := hideIt hn
  clear hn
  go_loopw [11] (fun i wr => ∃ k : Nat, k ≤ n ∧ i = .int .i64 (k : Int) ∧ Blk wr w.heap.size #[.bool p.n, .slice p.u p.nu p.cu, .slice p.l p.nl p.cl, .bool q.n, .slice q.u q.nu q.cu, .slice q.l q.nl q.cl] 86 ∧ Blk wr (w.heap.size + 1) #[.bool false, .slice none 0 0, .slice none 0 0, .bool false, .slice none 0 0, .slice none 0 0] 86 ∧ Below w.heap.size w wr ∧ QV wr (.agg #[.bool p.n, .slice p.u p.nu p.cu, .slice p.l p.nl p.cl]) (x * fac [x, y]) ∧ QV wr (.agg #[.bool q.n, .slice q.u q.nu q.cu, .slice q.l q.nl q.cl]) (y * fac [x, y]) ∧ ∃ c d : C3, Blk wr G #[.bool c.n, .slice c.u c.nu c.cu, .slice c.l c.nl c.cl, .bool d.n, .slice d.u d.nu d.cu, .slice d.l d.nl d.cl] 86 ∧ QV wr (.agg #[.bool c.n, .slice c.u c.nu c.cu, .slice c.l c.nl c.cl]) (cpow (x * fac [x, y]) (y * fac [x, y]) k).1 ∧ QV wr (.agg #[.bool d.n, .slice d.u d.nu d.cu, .slice d.l d.nl d.cl]) (cpow (x * fac [x, y]) (y * fac [x, y]) k).2) (fun i _ => n - (intOf i).toNat)
  case atStart =>
    exact ⟨0, Nat.zero_le _, rfl, HA4.out, HR4.out, HB4.out, HP4.out, HQ4.out, c0, ⟨false, none, 0, 0, none, 0, 0⟩, HKG.out, HV4.out, qv_zero0 _⟩
  case round =>
    obtain ⟨k, hkl, rfl, hA, hR, hbel, hp, hq, c, d, hG, hc, hd⟩ := hrel
    have HA' := hideIt hA
    have HR' := hideIt hR
    have HG' := hideIt hG
    have HB' := hideIt hbel
    have HP' := hideIt hp
    have HQ' := hideIt hq
    have HC' := hideIt hc
    have HD' := hideIt hd
    obtain ⟨x0, x1, x2, x3, x4, x5, _⟩ := hA.all6
    obtain ⟨y0, y1, y2, y3, y4, y5, g0, g1, g2, g3, g4, g5⟩ := hG.all6
    obtain ⟨r0, r1, r2, r3, r4, r5, e0, e1, e2, e3, e4, e5⟩ := hR.all6
    clear hA hR hG hbel hp hq hc hd
    by_cases hend : k = n
    · subst hend
      go_wp2
      obtain ⟨k0, k1, k2, k3, k4, k5, _⟩ := (HR'.out.put6 (.bool c.n) (.slice c.u c.nu c.cu) (.slice c.l c.nl c.cl) (.bool d.n) (.slice d.u d.nu d.cu) (.slice d.l d.nl d.cl)).all6
      refine bodyPost_ret (v := .agg #[.bool c.n, .slice c.u c.nu c.cu, .slice c.l c.nl c.cl, .bool d.n, .slice d.u d.nu d.cu, .slice d.l d.nl d.cl]) (by simp [results, Tryz.results148, go_sem, k0, k1, k2, k3, k4, k5]) rfl ⟨Below.put6 HB'.out (by omega) (.bool c.n) (.slice c.u c.nu c.cu) (.slice c.l c.nl c.cl) (.bool d.n) (.slice d.u d.nu d.cu) (.slice d.l d.nl d.cl), _, rfl, ?_⟩
      have hst := Stays.put6 HR'.out (by simp [notLimb]) (.bool c.n) (.slice c.u c.nu c.cu) (.slice c.l c.nl c.cl) (.bool d.n) (.slice d.u d.nu d.cu) (.slice d.l d.nl d.cl) rfl rfl rfl rfl rfl rfl
      exact ⟨c, d, rfl, hst.qv HC'.out, hst.qv HD'.out⟩
    · have hlt : k < n := by omega
      have hn60 := HN.out
      have JP := hideIt (QI.pow I1.out I2.out k)
      have KK : Hid (2 * (k * (3 * K + 1 + 1) + 1 + 1 + (3 * K + 1 + 1) + 1) + 1 ≤ 35184372088640) := by
        have h1 := HK.out
        have h2 := HN.out
        have h3 : k * (3 * K + 1 + 1) ≤ 60 * (3 * K + 1 + 1) := Nat.mul_le_mul_right _ (by omega)
        show _ ≤ _
        omega
      go_wp2_with fail
      refine (wayProd_calls ⟨c, d, rfl, HC'.out, HD'.out⟩ ⟨p, q, rfl, HP'.out, HQ'.out⟩ JP.out.1.qs JP.out.2.qs I1.out.qs I2.out.qs KK.out).mono ?_
      rintro _ w5 ⟨hb5, v5, rfl, d5, e5, rfl, hx5, hy5⟩
      have hG5 := HG'.out.below hb5 HG'.out.lt
      have HG5 := hideIt hG5
      have HX5 := hideIt hx5
      have HY5 := hideIt hy5
      have HB5 := hideIt hb5
      obtain ⟨y0, y1, y2, y3, y4, y5, g0, g1, g2, g3, g4, g5⟩ := hG5.all6
      clear hG5 hx5 hy5 hb5
      go_wp2
      go_roundw
      case rel =>
        have hst := Stays.put6 HG5.out (by simp [notLimb]) (.bool d5.n) (.slice d5.u d5.nu d5.cu) (.slice d5.l d5.nl d5.cl) (.bool e5.n) (.slice e5.u e5.nu e5.cu) (.slice e5.l e5.nl e5.cl) rfl rfl rfl rfl rfl rfl
        exact ⟨k + 1, hlt, by go_num, (HA'.out.below HB5.out HA'.out.lt).off6 (g := G) HGE.out.2.1.symm _ _ _ _ _ _, (HR'.out.below HB5.out HR'.out.lt).off6 (g := G) HGE.out.2.2.symm _ _ _ _ _ _, Below.put6 (HB'.out.trans (HB5.out.mono HB'.out.size)) HGE.out.1 _ _ _ _ _ _, hst.qv (HP'.out.below HB5.out), hst.qv (HQ'.out.below HB5.out), d5, e5, HG5.out.put6 _ _ _ _ _ _, hst.qv HX5.out, hst.qv HY5.out⟩
      case measure => simp [intOf]; omega
theorem power_calls {w : World} {v : Value} {x y : Rat} {n : Nat} (h : WV w v x y) {K : Nat} (f1 : QS K x) (f2 : QS K y) (hn : n ≤ 60) (hk : 1000 * (K + 1) ≤ 35184372088640) :
    Calls Tryz.prog 148 #[v, .int .i64 n] w fun e w' => Below w.heap.size w w' ∧ ∃ v, e = .returned v ∧ WV w' v (cpow (x * fac [x, y]) (y * fac [x, y]) n).1 (cpow (x * fac [x, y]) (y * fac [x, y]) n).2 := by
  obtain ⟨a, b, rfl, h1, h2⟩ := h
  exact power_walk h1 h2 f1 f2 hn hk
theorem angTimes_walk {w : World} {s c : ByteArray} {n : Nat} (s1 : s.data.toList.length ≤ 4294967296) (s2 : c.data.toList.length ≤ 4294967296) {k : Nat} (f1 : QS k (rd c.data.toList)) (f2 : QS k (rd s.data.toList)) (hn : n ≤ 60) (hk : 1000 * (k + 1) ≤ 35184372088640) (tab : Tab w) :
    Calls Tryz.prog 100 #[.agg #[.string s, .string c], .int .i64 n] w fun e w' => Below w.heap.size w w' ∧ ∃ (sa sb : ByteArray) (z : Int), e = .returned (.tuple #[.agg #[.string sa, .string sb], .int .i64 z]) ∧ AngAns ((rd c.data.toList) = 0 ∧ (rd s.data.toList) = 0) (cpow ((rd c.data.toList) * fac [(rd c.data.toList), (rd s.data.toList)]) ((rd s.data.toList) * fac [(rd c.data.toList), (rd s.data.toList)]) n).1 (cpow ((rd c.data.toList) * fac [(rd c.data.toList), (rd s.data.toList)]) ((rd s.data.toList) * fac [(rd c.data.toList), (rd s.data.toList)]) n).2 sa.data.toList sb.data.toList z := by
  obtain ⟨hb0, hk0, hk2, hsz⟩ := boxes2 w #[.string s, .string c] #[.string ⟨#[]⟩, .string ⟨#[]⟩] 67 67
  have HB0 := hideIt hb0
  have HSZ := hideIt hsz
  have HK2 := hideIt hk2
  have HTAB := hideIt (tab.below hb0)
  have S1 := hideIt s1
  have S2 := hideIt s2
  have F1 := hideIt f1
  have F2 := hideIt f2
  have HK := hideIt hk
  have I := hideIt (QI.pow (QI.fac2 f1 f2 (q := (rd c.data.toList)) (by simp)) (QI.fac2 f1 f2 (q := (rd s.data.toList)) (by simp)) n)
  have KK : Hid (3 * (n * (3 * k + 1 + 1) + 1 + 1) + 2 ≤ 35184372088640) := by
    have h3 : n * (3 * k + 1 + 1) ≤ 60 * (3 * k + 1 + 1) := Nat.mul_le_mul_right _ hn
    show _ ≤ _
    omega
  clear hb0 hsz hk0 hk2 tab s1 s2 f1 f2 hk
  go_enter Tryz.func100, Tryz.ntmps100
  go_wp2_with fail
  generalize ((w.alloc (.cells #[.string s, .string c] 67)).alloc (.cells #[.string ⟨#[]⟩, .string ⟨#[]⟩] 67)) = W0 at *
  refine (angleRead_calls ⟨s, c, rfl, rfl, rfl⟩ S1.out S2.out).mono ?_
  rintro _ w1 ⟨hb1, ⟨h1, h2, rfl⟩ | ⟨hn0, v1, rfl, hv1⟩⟩
  · have HKR := hideIt (HK2.out.below hb1 (by rw [HSZ.out]; omega))
    have HBW := hideIt (HB0.out.trans (hb1.mono HB0.out.size))
    have HH := hideIt (And.intro h1 h2)
    have r0 : ∀ o, (w1.alloc o).cell? ⟨w.heap.size + 1, 0, none⟩ = some (.string ⟨#[]⟩) := fun o => (HKR.out.old o).cell 0
    have j0 : ∀ o, (w1.alloc o).frozen? ⟨w.heap.size + 1, 0, none⟩ = false := fun o => (HKR.out.old o).frozen 0
    have r1 : ∀ o, (w1.alloc o).cell? ⟨w.heap.size + 1, 1, none⟩ = some (.string ⟨#[]⟩) := fun o => (HKR.out.old o).cell 1
    have j1 : ∀ o, (w1.alloc o).frozen? ⟨w.heap.size + 1, 1, none⟩ = false := fun o => (HKR.out.old o).frozen 1
    obtain ⟨q0, q1, g0, g1⟩ := HKR.out.all2
    have lR := HKR.out.lt
    clear hb1 h1 h2
    go_wp2
    obtain ⟨k0, k1, _⟩ := ((HKR.out.put2 (.string ⟨#[]⟩) (.string ⟨#[]⟩)).old (.cells #[.bool false, .slice none 0 0, .slice none 0 0, .bool false, .slice none 0 0, .slice none 0 0] 86)).all2
    have hbf := (Below.put2 HBW.out (g := w.heap.size + 1) (by omega) (.string ⟨#[]⟩) (.string ⟨#[]⟩))
    exact bodyPost_ret (v := .tuple #[.agg #[.string ⟨#[]⟩, .string ⟨#[]⟩], .int .i64 5]) (by simp [results, Tryz.results100, go_sem, k0, k1]) rfl ⟨hbf.alloc hbf.size _, _, _, _, rfl, Or.inl ⟨HH.out, rfl, rfl, rfl⟩⟩
  · obtain ⟨a, b, rfl, hx0, hx1⟩ := hv1
    have N0 := hideIt hx0
    have N1 := hideIt hx1
    have HN := hideIt hn0
    have HB1 := hideIt hb1
    clear hx0 hx1 hn0 hb1
    go_wp2_with fail
    obtain ⟨w2, hw2⟩ : ∃ w2, w2 = w1.alloc (.cells #[.bool a.n, .slice a.u a.nu a.cu, .slice a.l a.nl a.cl, .bool b.n, .slice b.u b.nu b.cu, .slice b.l b.nl b.cl] 86) := ⟨_, rfl⟩
    have hbA := below_new w1 (.cells #[.bool a.n, .slice a.u a.nu a.cu, .slice a.l a.nl a.cl, .bool b.n, .slice b.u b.nu b.cu, .slice b.l b.nl b.cl] 86)
    have HKG := hideIt (Blk.new w1 #[.bool a.n, .slice a.u a.nu a.cu, .slice a.l a.nl a.cl, .bool b.n, .slice b.u b.nu b.cu, .slice b.l b.nl b.cl] 86)
    rw [← hw2] at hbA HKG ⊢
    obtain ⟨G, hG⟩ : ∃ G, G = w1.heap.size := ⟨_, rfl⟩
    rw [← hG] at HKG ⊢
    clear hG hw2
    have HBL : Hid (Below W0.heap.size W0 w2) := HB1.out.trans (hbA.mono HB1.out.size)
    have O0 := hideIt (N0.out.below hbA)
    have O1 := hideIt (N1.out.below hbA)
    clear hbA
    obtain ⟨z0, z1, z2, z3, z4, z5, _⟩ := HKG.out.all6
    refine (power_calls ⟨a, b, rfl, O0.out, O1.out⟩ F1.out F2.out hn HK.out).mono ?_
    rintro _ w5 ⟨hb5, v5, rfl, hv5⟩
    have hbl5 := HBL.out.trans (hb5.mono HBL.out.size)
    go_wp2_with fail
    refine (angleText_calls hv5 I.out.1.qs I.out.2.qs KK.out (HTAB.out.below hbl5)).mono ?_
    rintro _ w6 ⟨hb6, v6, rfl, sa, sb, rfl, ta, tb⟩
    have hbl6 := hbl5.trans (hb6.mono hbl5.size)
    have HKR := hideIt (HK2.out.below hbl6 (by rw [HSZ.out]; omega))
    have HBW := hideIt (HB0.out.trans (hbl6.mono HB0.out.size))
    have HT := hideIt (And.intro ta tb)
    obtain ⟨q0, q1, g0, g1⟩ := HKR.out.all2
    clear hb5 hb6 hbl5 hbl6 ta tb hv5 z0 z1 z2 z3 z4 z5
    go_wp2
    obtain ⟨k0, k1, _⟩ := (HKR.out.put2 (.string sa) (.string sb)).all2
    exact bodyPost_ret (v := .tuple #[.agg #[.string sa, .string sb], .int .i64 0]) (by simp [results, Tryz.results100, go_sem, k0, k1]) rfl ⟨Below.put2 HBW.out (by omega) _ _, _, _, _, rfl, Or.inr ⟨HN.out, rfl, HT.out.1, HT.out.2⟩⟩
end Go.Proofs.YtgajdmadbdbabaaGreatDoor
/- MathY -/
namespace Cx
open Go
theorem tx_int (z : Int) (h : z.natAbs < 10) : tx ((z : Int) : Rat) = (if z < 0 then [45] else []) ++ [UInt8.ofNat (48 + z.natAbs)] := by
  unfold tx
  have h1 : ((z : Int) : Rat).num = z := rfl
  have h2 : ((z : Int) : Rat).den = 1 := rfl
  rw [h1, h2, if_pos rfl, List.append_nil, dec_small h]
theorem rd0 : rd [48] = ((0 : Int) : Rat) := by rw [← show tx ((0 : Int) : Rat) = [48] from tx_int 0 (by decide), rd_tx]
theorem rd1 : rd [49] = ((1 : Int) : Rat) := by rw [← show tx ((1 : Int) : Rat) = [49] from tx_int 1 (by decide), rd_tx]
theorem rdm1 : rd [45, 49] = ((-1 : Int) : Rat) := by rw [← show tx ((-1 : Int) : Rat) = [45, 49] from tx_int (-1) (by decide), rd_tx]
end Cx
/- XG -/
namespace Go.Proofs.YtgajdmadbdbabaaGreatDoor
open Go.RowKit Cx
theorem sq_nonneg (a : Rat) : 0 ≤ a * a := by
  rcases Rat.le_total (a := 0) (b := a) with h | h
  · exact Rat.mul_nonneg h h
  · have := Rat.mul_nonneg (Rat.neg_le_neg h) (Rat.neg_le_neg h)
    grind
theorem norm_ne {a b : Rat} (h : ¬ (a = 0 ∧ b = 0)) : a * a + b * b ≠ 0 := by
  intro e
  have h1 := sq_nonneg a
  have h2 := sq_nonneg b
  have e1 : a * a = 0 := by grind
  have e2 : b * b = 0 := by grind
  exact h ⟨(Rat.mul_eq_zero.1 e1).elim id id, (Rat.mul_eq_zero.1 e2).elim id id⟩
theorem ne_norm {a b : Rat} (h : a * a + b * b ≠ 0) : ¬ (a = 0 ∧ b = 0) := by
  rintro ⟨rfl, rfl⟩
  exact h (by decide +kernel)
theorem prod_ne {a b c d : Rat} (h1 : ¬ (a = 0 ∧ b = 0)) (h2 : ¬ (c = 0 ∧ d = 0)) : ¬ (a * c - b * d = 0 ∧ a * d + b * c = 0) := by
  apply ne_norm
  have e : (a * c - b * d) * (a * c - b * d) + (a * d + b * c) * (a * d + b * c) = (a * a + b * b) * (c * c + d * d) := by grind
  rw [e]
  intro h
  exact (Rat.mul_eq_zero.1 h).elim (norm_ne h1) (norm_ne h2)
theorem fac2_ne {x y : Rat} (h : ¬ (x = 0 ∧ y = 0)) : fac [x, y] ≠ 0 := by
  by_cases hx : x = 0
  · exact fac_ne (q := y) (by simp) (fun e => h ⟨hx, e⟩)
  · exact fac_ne (q := x) (by simp) hx
theorem scaled_ne {x y f : Rat} (h : ¬ (x = 0 ∧ y = 0)) (hf : f ≠ 0) : ¬ (x * f = 0 ∧ y * f = 0) := by
  rintro ⟨h1, h2⟩
  exact h ⟨(Rat.mul_eq_zero.1 h1).resolve_right hf, (Rat.mul_eq_zero.1 h2).resolve_right hf⟩
theorem plain_one {r : Rat} (h : r ≠ 0) : r * fac [r, 0] = 1 := by
  have hn : r.num ≠ 0 := fun e => h (Rat.num_eq_zero.1 e)
  rw [← pl_mul (qs := [r, 0]) (by simp)]
  have e1 : gN [r, 0] = r.num.natAbs := by simp [gN]
  have e2 : lD [r, 0] = r.den := by simp [lD]
  have e3 : fb [r, 0] = decide (r.num < 0) := by simp [fb, hn]
  unfold pl
  rw [e1, e2, e3, Nat.div_self (by omega), Nat.div_self r.den_pos]
  simp [sg]
theorem three {X1 Y1 X2 Y2 X3 Y3 : Rat} {s1 c1 s2 c2 s3 c3 s4 c4 s5 c5 : List UInt8} {h i : Int}
    (n1 : ¬ (X1 = 0 ∧ Y1 = 0)) (n2 : ¬ (X2 = 0 ∧ Y2 = 0)) (n3 : ¬ (X3 = 0 ∧ Y3 = 0)) (t : (X1 * X2 - Y1 * Y2) * Y3 + (X1 * Y2 + Y1 * X2) * X3 = 0)
    (e1 : s1 = tx (Y1 * fac [X1, Y1]) ∧ c1 = tx (X1 * fac [X1, Y1])) (e2 : s2 = tx (Y2 * fac [X2, Y2]) ∧ c2 = tx (X2 * fac [X2, Y2])) (e3 : s3 = tx (Y3 * fac [X3, Y3]) ∧ c3 = tx (X3 * fac [X3, Y3]))
    (a4 : AngAns ((rd c1 = 0 ∧ rd s1 = 0) ∨ (rd c2 = 0 ∧ rd s2 = 0)) (rd c1 * rd c2 - rd s1 * rd s2) (rd c1 * rd s2 + rd s1 * rd c2) s4 c4 h)
    (a5 : AngAns ((rd c4 = 0 ∧ rd s4 = 0) ∨ (rd c3 = 0 ∧ rd s3 = 0)) (rd c4 * rd c3 - rd s4 * rd s3) (rd c4 * rd s3 + rd s4 * rd c3) s5 c5 i) :
    h = 0 ∧ i = 0 ∧ s5 = [48] ∧ c5 = [49] := by
  have f1 := fac2_ne n1
  have f2 := fac2_ne n2
  have f3 := fac2_ne n3
  obtain ⟨rfl, rfl⟩ := e1
  obtain ⟨rfl, rfl⟩ := e2
  obtain ⟨rfl, rfl⟩ := e3
  simp only [rd_tx] at a4 a5
  have m1 := scaled_ne n1 f1
  have m2 := scaled_ne n2 f2
  have m3 := scaled_ne n3 f3
  generalize fac [X1, Y1] = g1 at *
  generalize fac [X2, Y2] = g2 at *
  generalize fac [X3, Y3] = g3 at *
  have n4 := prod_ne m1 m2
  rcases a4 with ⟨a4, _⟩ | ⟨_, h4, es, ec⟩
  · exact absurd a4 (fun h => h.elim m1 m2)
  · have f4 := fac2_ne n4
    have m4 := scaled_ne n4 f4
    rw [es, ec] at a5
    simp only [rd_tx] at a5
    generalize fac [X1 * g1 * (X2 * g2) - Y1 * g1 * (Y2 * g2), X1 * g1 * (Y2 * g2) + Y1 * g1 * (X2 * g2)] = g4 at *
    have n5 := prod_ne m4 m3
    rcases a5 with ⟨a5, _⟩ | ⟨_, h5, es, ec⟩
    · exact absurd a5 (fun h => h.elim m4 m3)
    · have z : (X1 * g1 * (X2 * g2) - Y1 * g1 * (Y2 * g2)) * g4 * (Y3 * g3) + (X1 * g1 * (Y2 * g2) + Y1 * g1 * (X2 * g2)) * g4 * (X3 * g3) = 0 := by
        have : (X1 * g1 * (X2 * g2) - Y1 * g1 * (Y2 * g2)) * g4 * (Y3 * g3) + (X1 * g1 * (Y2 * g2) + Y1 * g1 * (X2 * g2)) * g4 * (X3 * g3) = ((X1 * X2 - Y1 * Y2) * Y3 + (X1 * Y2 + Y1 * X2) * X3) * (g1 * g2 * g3 * g4) := by grind
        rw [this, t, Rat.zero_mul]
      rw [z] at es ec n5
      generalize (X1 * g1 * (X2 * g2) - Y1 * g1 * (Y2 * g2)) * g4 * (X3 * g3) - (X1 * g1 * (Y2 * g2) + Y1 * g1 * (X2 * g2)) * g4 * (Y3 * g3) = r at *
      have hr : r ≠ 0 := fun e => n5 ⟨e, rfl⟩
      rw [Rat.zero_mul] at es
      rw [plain_one hr] at ec
      exact ⟨h4, h5, es.trans (tx_int 0 (by decide)), ec.trans (tx_int 1 (by decide))⟩
theorem neg_ne {a b : Rat} (h : ¬ (a = 0 ∧ b = 0)) : ¬ (a = 0 ∧ -b = 0) := by
  rintro ⟨h1, h2⟩
  exact h ⟨h1, by grind⟩
theorem conj_ne {a b c d : Rat} (h : ¬ ((a = 0 ∧ b = 0) ∨ (c = 0 ∧ d = 0))) : ¬ (a * c - -b * d = 0 ∧ a * d + -b * c = 0) :=
  prod_ne (neg_ne (fun e => h (Or.inl e))) (fun e => h (Or.inr e))
end Go.Proofs.YtgajdmadbdbabaaGreatDoor
/- XH -/
namespace Go.Proofs.YtgajdmadbdbabaaGreatDoor
open Go.RowKit Cx
attribute [local go_sem ↓] Go.wp_at_zero Go.wp_at_succ
theorem bytes_eq {s : ByteArray} {l : List UInt8} (h : s.data.toList = l) : s = ⟨l.toArray⟩ := by
  cases s
  subst h
  simp
theorem an_from {s c : List UInt8} {z : Int} (h : AngAns ((rd [48] = 0 ∧ rd [49] = 0) ∨ (rd [49] = 0 ∧ rd [45, 49] = 0)) (rd [48] * rd [49] - -rd [49] * rd [45, 49]) (rd [48] * rd [45, 49] + -rd [49] * rd [49]) s c z) : z = 0 ∧ s = [49] ∧ c = [49] := by
  rw [rd0, rd1, rdm1] at h
  rcases h with ⟨h, _⟩ | ⟨_, hz, h1, h2⟩
  · exact absurd h (by decide +kernel)
  · rw [show ((((0 : Int) : Rat) * ((-1 : Int) : Rat) + -((1 : Int) : Rat) * ((1 : Int) : Rat)) * fac [((0 : Int) : Rat) * ((1 : Int) : Rat) - -((1 : Int) : Rat) * ((-1 : Int) : Rat), ((0 : Int) : Rat) * ((-1 : Int) : Rat) + -((1 : Int) : Rat) * ((1 : Int) : Rat)]) = ((1 : Int) : Rat) by decide +kernel] at h1
    rw [show ((((0 : Int) : Rat) * ((1 : Int) : Rat) - -((1 : Int) : Rat) * ((-1 : Int) : Rat)) * fac [((0 : Int) : Rat) * ((1 : Int) : Rat) - -((1 : Int) : Rat) * ((-1 : Int) : Rat), ((0 : Int) : Rat) * ((-1 : Int) : Rat) + -((1 : Int) : Rat) * ((1 : Int) : Rat)]) = ((1 : Int) : Rat) by decide +kernel] at h2
    exact ⟨hz, h1.trans (tx_int 1 (by decide)), h2.trans (tx_int 1 (by decide))⟩
theorem an_pow : cpow (((1 : Int) : Rat) * fac [((1 : Int) : Rat), ((1 : Int) : Rat)]) (((1 : Int) : Rat) * fac [((1 : Int) : Rat), ((1 : Int) : Rat)]) 2 = (((0 : Int) : Rat), ((2 : Int) : Rat)) := by decide +kernel
theorem an_times {s c : List UInt8} {z : Int} (h : AngAns (rd [49] = 0 ∧ rd [49] = 0) (cpow (rd [49] * fac [rd [49], rd [49]]) (rd [49] * fac [rd [49], rd [49]]) 2).1 (cpow (rd [49] * fac [rd [49], rd [49]]) (rd [49] * fac [rd [49], rd [49]]) 2).2 s c z) : z = 0 ∧ s = [49] ∧ c = [48] := by
  rw [rd1, an_pow] at h
  rcases h with ⟨h, _⟩ | ⟨_, hz, h1, h2⟩
  · exact absurd h (by decide +kernel)
  · dsimp only at h1 h2
    rw [show ((2 : Int) : Rat) * fac [((0 : Int) : Rat), ((2 : Int) : Rat)] = ((1 : Int) : Rat) by decide +kernel] at h1
    rw [show ((0 : Int) : Rat) * fac [((0 : Int) : Rat), ((2 : Int) : Rat)] = ((0 : Int) : Rat) by decide +kernel] at h2
    exact ⟨hz, h1.trans (tx_int 1 (by decide)), h2.trans (tx_int 0 (by decide))⟩
theorem an_seen {s c : List UInt8} {z : Int} (h : AngAns ((rd [49] - rd [48] = 0 ∧ rd [48] - rd [48] = 0) ∨ (rd [48] - rd [48] = 0 ∧ rd [49] - rd [48] = 0)) ((rd [49] - rd [48]) * (rd [48] - rd [48]) - -(rd [48] - rd [48]) * (rd [49] - rd [48])) ((rd [49] - rd [48]) * (rd [49] - rd [48]) + -(rd [48] - rd [48]) * (rd [48] - rd [48])) s c z) : z = 0 ∧ s = [49] ∧ c = [48] := by
  rw [rd0, rd1] at h
  rw [show ((1 : Int) : Rat) - ((0 : Int) : Rat) = ((1 : Int) : Rat) by decide +kernel, show ((0 : Int) : Rat) - ((0 : Int) : Rat) = ((0 : Int) : Rat) by decide +kernel] at h
  rw [show (((1 : Int) : Rat) * ((0 : Int) : Rat) - -((0 : Int) : Rat) * ((1 : Int) : Rat)) = ((0 : Int) : Rat) by decide +kernel, show (((1 : Int) : Rat) * ((1 : Int) : Rat) + -((0 : Int) : Rat) * ((0 : Int) : Rat)) = ((1 : Int) : Rat) by decide +kernel] at h
  rcases h with ⟨h, _⟩ | ⟨_, hz, h1, h2⟩
  · exact absurd h (by decide +kernel)
  · rw [show ((1 : Int) : Rat) * fac [((0 : Int) : Rat), ((1 : Int) : Rat)] = ((1 : Int) : Rat) by decide +kernel] at h1
    rw [show ((0 : Int) : Rat) * fac [((0 : Int) : Rat), ((1 : Int) : Rat)] = ((0 : Int) : Rat) by decide +kernel] at h2
    exact ⟨hz, h1.trans (tx_int 1 (by decide)), h2.trans (tx_int 0 (by decide))⟩
theorem anpt_calls (x y : ByteArray) (w : World) :
    Calls Tryz.prog 72 #[.string x, .string y] w fun e w' => Below w.heap.size w w' ∧ e = .returned (.agg #[.string x, .string y]) := by
  go_enter Tryz.func72, Tryz.ntmps72
  go_wp2
  refine bodyPost_ret (v := .agg #[.string x, .string y]) (by simp [results, Tryz.results72, go_sem]) rfl ⟨below_new _ _, rfl⟩
theorem qs30 (s : ByteArray) (h : s.size ≤ 6) : QS 30 (rd s.data.toList) := (QS.rd _).mono (by rw [str_len]; omega)
theorem len6 (s : ByteArray) (h : s.size ≤ 6) : s.data.toList.length ≤ 4294967296 := by rw [str_len]; omega
theorem angled_calls (w : World) (tab : Tab w) :
    Calls Tryz.prog 52 #[] w fun e w' => Below w.heap.size w w' ∧ e = .returned (.bool true) := by
  have HT := hideIt tab
  clear tab
  go_enter Tryz.func52, Tryz.ntmps52
  go_wp2_with fail
  refine (angFrom_calls (va := .agg #[.string ⟨#[48]⟩, .string ⟨#[49]⟩, .string ⟨#[]⟩]) (vb := .agg #[.string ⟨#[49]⟩, .string ⟨#[45, 49]⟩, .string ⟨#[]⟩]) ⟨⟨#[48]⟩, ⟨#[49]⟩, ⟨#[]⟩, rfl, rfl, rfl, rfl⟩ ⟨⟨#[49]⟩, ⟨#[45, 49]⟩, ⟨#[]⟩, rfl, rfl, rfl, rfl⟩ (len6 _ (by decide)) (len6 _ (by decide)) (len6 _ (by decide)) (len6 _ (by decide)) (len6 _ (by decide)) (len6 _ (by decide)) (qs30 _ (by decide)) (qs30 _ (by decide)) (qs30 _ (by decide)) (qs30 _ (by decide)) (by decide) HT.out).mono ?_
  rintro _ w1 ⟨hb1, sa, sb, z, rfl, hans⟩
  obtain ⟨rfl, h1, h2⟩ := an_from hans
  obtain rfl := bytes_eq h1
  obtain rfl := bytes_eq h2
  have HB1 := hideIt hb1
  clear hb1 hans h1 h2
  go_wp2_with fail
  obtain ⟨w2, hw2⟩ : ∃ w2, w2 = w1.alloc (.cells #[.string ⟨#[49]⟩, .string ⟨#[49]⟩] 67) := ⟨_, rfl⟩
  have hbA := below_new w1 (.cells #[.string ⟨#[49]⟩, .string ⟨#[49]⟩] 67)
  have HKG := hideIt (Blk.new w1 #[.string ⟨#[49]⟩, .string ⟨#[49]⟩] 67)
  rw [← hw2] at hbA HKG ⊢
  obtain ⟨G, hG⟩ : ∃ G, G = w1.heap.size := ⟨_, rfl⟩
  rw [← hG] at HKG ⊢
  clear hG hw2
  have HB2 := hideIt (HB1.out.trans (hbA.mono HB1.out.size))
  clear hbA
  refine (angTimes_walk (s := ⟨#[49]⟩) (c := ⟨#[49]⟩) (n := 2) (len6 _ (by decide)) (len6 _ (by decide)) (qs30 _ (by decide)) (qs30 _ (by decide)) (by decide) (by decide) (HT.out.below HB2.out)).mono ?_
  rintro _ w3 ⟨hb3, sa, sb, z, rfl, hans⟩
  obtain ⟨rfl, h1, h2⟩ := an_times hans
  obtain rfl := bytes_eq h1
  obtain rfl := bytes_eq h2
  have HB3 := hideIt (HB2.out.trans (hb3.mono HB2.out.size))
  have HKG3 := hideIt (HKG.out.below hb3 HKG.out.lt)
  clear hb3 hans h1 h2 HKG
  go_wp2_with fail
  obtain ⟨w4, hw4⟩ : ∃ w4, w4 = w3.alloc (.cells #[.string ⟨#[49]⟩, .string ⟨#[48]⟩] 67) := ⟨_, rfl⟩
  have hbA := below_new w3 (.cells #[.string ⟨#[49]⟩, .string ⟨#[48]⟩] 67)
  have HKH := hideIt (Blk.new w3 #[.string ⟨#[49]⟩, .string ⟨#[48]⟩] 67)
  rw [← hw4] at hbA HKH ⊢
  obtain ⟨H, hH⟩ : ∃ H, H = w3.heap.size := ⟨_, rfl⟩
  rw [← hH] at HKH ⊢
  clear hH hw4
  have HB4 := hideIt (HB3.out.trans (hbA.mono HB3.out.size))
  have HKG4 := hideIt (HKG3.out.below hbA HKG3.out.lt)
  clear hbA
  refine (anpt_calls ⟨#[49]⟩ ⟨#[48]⟩ _).mono ?_
  rintro _ w5 ⟨hb5, rfl⟩
  go_wp2_with fail
  refine (anpt_calls ⟨#[48]⟩ ⟨#[49]⟩ _).mono ?_
  rintro _ w6 ⟨hb6, rfl⟩
  go_wp2_with fail
  refine (anpt_calls ⟨#[48]⟩ ⟨#[48]⟩ _).mono ?_
  rintro _ w7 ⟨hb7, rfl⟩
  have hbl6 := hb5.trans (hb6.mono hb5.size)
  have hbl7 := hbl6.trans (hb7.mono hbl6.size)
  have HB7 := hideIt (HB4.out.trans (hbl7.mono HB4.out.size))
  have HKG7 := hideIt (HKG4.out.below hbl7 HKG4.out.lt)
  have HKH7 := hideIt (HKH.out.below hbl7 HKH.out.lt)
  clear hb5 hb6 hb7 hbl6 hbl7
  go_wp2_with fail
  refine (angSeen_walk (ax := ⟨#[49]⟩) (ay := ⟨#[48]⟩) (bx := ⟨#[48]⟩) (bz := ⟨#[49]⟩) (px := ⟨#[48]⟩) (pz := ⟨#[48]⟩) (len6 _ (by decide)) (len6 _ (by decide)) (len6 _ (by decide)) (len6 _ (by decide)) (len6 _ (by decide)) (len6 _ (by decide)) (qs30 _ (by decide)) (qs30 _ (by decide)) (qs30 _ (by decide)) (qs30 _ (by decide)) (qs30 _ (by decide)) (qs30 _ (by decide)) (by decide) (HT.out.below HB7.out)).mono ?_
  rintro _ w8 ⟨hb8, sa, sb, z, rfl, hans⟩
  obtain ⟨rfl, h1, h2⟩ := an_seen hans
  obtain rfl := bytes_eq h1
  obtain rfl := bytes_eq h2
  have HB8 := hideIt (HB7.out.trans (hb8.mono HB7.out.size))
  have HKG8 := hideIt (HKG7.out.below hb8 HKG7.out.lt)
  have HKH8 := hideIt (HKH7.out.below hb8 HKH7.out.lt)
  clear hb8 hans h1 h2
  have g0 : ∀ o, (w8.alloc o).cell? ⟨G, 0, none⟩ = some (.string ⟨#[49]⟩) := fun o => (HKG8.out.old o).cell 0
  have g1 : ∀ o, (w8.alloc o).cell? ⟨G, 1, none⟩ = some (.string ⟨#[49]⟩) := fun o => (HKG8.out.old o).cell 1
  have y0 : ∀ o, (w8.alloc o).cell? ⟨H, 0, none⟩ = some (.string ⟨#[49]⟩) := fun o => (HKH8.out.old o).cell 0
  have y1 : ∀ o, (w8.alloc o).cell? ⟨H, 1, none⟩ = some (.string ⟨#[48]⟩) := fun o => (HKH8.out.old o).cell 1
  go_wp2
  go_ret
  exact ⟨HB8.out.alloc HB8.out.size _, rfl⟩
end Go.Proofs.YtgajdmadbdbabaaGreatDoor
/- AWG -/
namespace Go.Proofs.YtgajdmadbdbabaaGreatDoor
open Go.RowKit Cx
theorem en_compasslaw_angled (vs : Array Value) (w : World) : (callFunc 52 vs).run Tryz.prog w = .ok (.enter 52 vs) w := enters Tryz.func52 (by kernel_rfl) (by kernel_rfl) vs w
theorem con_angled : Con Tryz.prog Pre 52 [] (Bo true) := fun w vs hp hall => by
  obtain rfl := all2_none hall
  refine (angled_calls w hp.1).mono ?_
  rintro _ w' ⟨hb, rfl⟩
  exact ⟨hb, _, rfl, rfl⟩
theorem angAns_ok {p : Prop} {X Y : Rat} {la lb sa sb : ByteArray} {z : Int} {w : World} (h : AngAns p X Y la.data.toList lb.data.toList z) (hn : ¬ p) (ea : sa.data.toList = tx (Y * fac [X, Y])) (eb : sb.data.toList = tx (X * fac [X, Y])) : (Tup [P2 sa sb, In 0]).on (.tuple #[.agg #[.string la, .string lb], .int .i64 z]) w := by
  rcases h with ⟨h1, _⟩ | ⟨_, rfl, h1, h2⟩
  · exact absurd h1 hn
  · obtain rfl : la = sa := (bytes_of (h1.trans ea.symm)).trans (bytes_of rfl).symm
    obtain rfl : lb = sb := (bytes_of (h2.trans eb.symm)).trans (bytes_of rfl).symm
    exact ⟨[_, _], rfl, P2.mk _ _ _, rfl, trivial⟩
theorem angAns_flat {p : Prop} {X Y : Rat} {la lb : ByteArray} {z : Int} {w : World} (h : AngAns p X Y la.data.toList lb.data.toList z) (hf : p) : (Tup [P2 ⟨#[]⟩ ⟨#[]⟩, In 5]).on (.tuple #[.agg #[.string la, .string lb], .int .i64 z]) w := by
  rcases h with ⟨_, rfl, h1, h2⟩ | ⟨hn, _⟩
  · obtain rfl : la = ⟨#[]⟩ := bytes_of h1
    obtain rfl : lb = ⟨#[]⟩ := bytes_of h2
    exact ⟨[_, _], rfl, P2.mk _ _ _, rfl, trivial⟩
  · exact absurd hf hn
theorem en_angle_From (vs : Array Value) (w : World) : (callFunc 57 vs).run Tryz.prog w = .ok (.enter 57 vs) w := enters Tryz.func57 (by kernel_rfl) (by kernel_rfl) vs w
theorem con_from_ok {la lb lc ma mb mc sa sb : ByteArray} {rla rlb rlc rma rmb rmc : Rat} {X Y : Rat} {k : Nat} (tla : TX k la rla) (tlb : TX k lb rlb) (tlc : TX k lc rlc) (tma : TX k ma rma) (tmb : TX k mb rmb) (tmc : TX k mc rmc) (eX : X = rla * rma - -rlb * rmb) (eY : Y = rla * rmb + -rlb * rma) (hs : 2 * k + 4 ≤ 4294967296) (hk : 20 * (k + 1) ≤ 35184372088640) (hn : ¬ ((rla = 0 ∧ rlb = 0) ∨ (rma = 0 ∧ rmb = 0))) (ea : sa.data.toList = tx (Y * fac [X, Y])) (eb : sb.data.toList = tx (X * fac [X, Y])) : Con Tryz.prog Pre 57 [L3 la lb lc, L3 ma mb mc] (Tup [P2 sa sb, In 0]) := fun w vs hp hall => by
  obtain ⟨v0, v1, rfl, h0, h1⟩ := all2_two hall
  cases L3.eq h0
  cases L3.eq h1
  have erla := tla.rd
  have erlb := tlb.rd
  have erlc := tlc.rd
  have erma := tma.rd
  have ermb := tmb.rd
  have ermc := tmc.rd
  subst erla erlb erlc erma ermb ermc
  refine (angFrom_walk (tla.len hs) (tlb.len hs) (tlc.len hs) (tma.len hs) (tmb.len hs) (tmc.len hs) tla.qs tlb.qs tma.qs tmb.qs hk hp.1).mono ?_
  rintro _ w' ⟨hb, la, lb, z, rfl, hans⟩
  subst eX eY
  exact ⟨hb, _, rfl, angAns_ok hans hn ea eb⟩
theorem con_from_flat {la lb lc ma mb mc : ByteArray} {rla rlb rlc rma rmb rmc : Rat} {X Y : Rat} {k : Nat} (tla : TX k la rla) (tlb : TX k lb rlb) (tlc : TX k lc rlc) (tma : TX k ma rma) (tmb : TX k mb rmb) (tmc : TX k mc rmc) (eX : X = rla * rma - -rlb * rmb) (eY : Y = rla * rmb + -rlb * rma) (hs : 2 * k + 4 ≤ 4294967296) (hk : 20 * (k + 1) ≤ 35184372088640) (hf : (rla = 0 ∧ rlb = 0) ∨ (rma = 0 ∧ rmb = 0)) : Con Tryz.prog Pre 57 [L3 la lb lc, L3 ma mb mc] (Tup [P2 ⟨#[]⟩ ⟨#[]⟩, In 5]) := fun w vs hp hall => by
  obtain ⟨v0, v1, rfl, h0, h1⟩ := all2_two hall
  cases L3.eq h0
  cases L3.eq h1
  have erla := tla.rd
  have erlb := tlb.rd
  have erlc := tlc.rd
  have erma := tma.rd
  have ermb := tmb.rd
  have ermc := tmc.rd
  subst erla erlb erlc erma ermb ermc
  refine (angFrom_walk (tla.len hs) (tlb.len hs) (tlc.len hs) (tma.len hs) (tmb.len hs) (tmc.len hs) tla.qs tlb.qs tma.qs tmb.qs hk hp.1).mono ?_
  rintro _ w' ⟨hb, la, lb, z, rfl, hans⟩
  subst eX eY
  exact ⟨hb, _, rfl, angAns_flat hans hf⟩
theorem en_angle_Sum (vs : Array Value) (w : World) : (callFunc 59 vs).run Tryz.prog w = .ok (.enter 59 vs) w := enters Tryz.func59 (by kernel_rfl) (by kernel_rfl) vs w
theorem con_sum_ok {ls lc ms mc sa sb : ByteArray} {rls rlc rms rmc : Rat} {X Y : Rat} {k : Nat} (tls : TX k ls rls) (tlc : TX k lc rlc) (tms : TX k ms rms) (tmc : TX k mc rmc) (eX : X = rlc * rmc - rls * rms) (eY : Y = rlc * rms + rls * rmc) (hs : 2 * k + 4 ≤ 4294967296) (hk : 20 * (k + 1) ≤ 35184372088640) (hn : ¬ ((rlc = 0 ∧ rls = 0) ∨ (rmc = 0 ∧ rms = 0))) (ea : sa.data.toList = tx (Y * fac [X, Y])) (eb : sb.data.toList = tx (X * fac [X, Y])) : Con Tryz.prog Pre 59 [P2 ls lc, P2 ms mc] (Tup [P2 sa sb, In 0]) := fun w vs hp hall => by
  obtain ⟨v0, v1, rfl, h0, h1⟩ := all2_two hall
  cases P2.eq h0
  cases P2.eq h1
  have erls := tls.rd
  have erlc := tlc.rd
  have erms := tms.rd
  have ermc := tmc.rd
  subst erls erlc erms ermc
  refine (angSum_walk (tls.len hs) (tlc.len hs) (tms.len hs) (tmc.len hs) tlc.qs tls.qs tmc.qs tms.qs hk hp.1).mono ?_
  rintro _ w' ⟨hb, la, lb, z, rfl, hans⟩
  subst eX eY
  exact ⟨hb, _, rfl, angAns_ok hans hn ea eb⟩
theorem con_sum_flat {ls lc ms mc : ByteArray} {rls rlc rms rmc : Rat} {X Y : Rat} {k : Nat} (tls : TX k ls rls) (tlc : TX k lc rlc) (tms : TX k ms rms) (tmc : TX k mc rmc) (eX : X = rlc * rmc - rls * rms) (eY : Y = rlc * rms + rls * rmc) (hs : 2 * k + 4 ≤ 4294967296) (hk : 20 * (k + 1) ≤ 35184372088640) (hf : (rlc = 0 ∧ rls = 0) ∨ (rmc = 0 ∧ rms = 0)) : Con Tryz.prog Pre 59 [P2 ls lc, P2 ms mc] (Tup [P2 ⟨#[]⟩ ⟨#[]⟩, In 5]) := fun w vs hp hall => by
  obtain ⟨v0, v1, rfl, h0, h1⟩ := all2_two hall
  cases P2.eq h0
  cases P2.eq h1
  have erls := tls.rd
  have erlc := tlc.rd
  have erms := tms.rd
  have ermc := tmc.rd
  subst erls erlc erms ermc
  refine (angSum_walk (tls.len hs) (tlc.len hs) (tms.len hs) (tmc.len hs) tlc.qs tls.qs tmc.qs tms.qs hk hp.1).mono ?_
  rintro _ w' ⟨hb, la, lb, z, rfl, hans⟩
  subst eX eY
  exact ⟨hb, _, rfl, angAns_flat hans hf⟩
theorem en_angle_Seen (vs : Array Value) (w : World) : (callFunc 60 vs).run Tryz.prog w = .ok (.enter 60 vs) w := enters Tryz.func60 (by kernel_rfl) (by kernel_rfl) vs w
theorem con_seen_ok {ax ay bx bz px pz sa sb : ByteArray} {rax ray rbx rbz rpx rpz : Rat} {X Y : Rat} {k : Nat} (tax : TX k ax rax) (tay : TX k ay ray) (tbx : TX k bx rbx) (tbz : TX k bz rbz) (tpx : TX k px rpx) (tpz : TX k pz rpz) (eX : X = (rax - rpx) * (rbx - rpx) - -(ray - rpz) * (rbz - rpz)) (eY : Y = (rax - rpx) * (rbz - rpz) + -(ray - rpz) * (rbx - rpx)) (hs : 2 * k + 4 ≤ 4294967296) (hk : 40 * (k + 1) ≤ 35184372088640) (hn : ¬ (((rax - rpx) = 0 ∧ (ray - rpz) = 0) ∨ ((rbx - rpx) = 0 ∧ (rbz - rpz) = 0))) (ea : sa.data.toList = tx (Y * fac [X, Y])) (eb : sb.data.toList = tx (X * fac [X, Y])) : Con Tryz.prog Pre 60 [P2 ax ay, P2 bx bz, P2 px pz] (Tup [P2 sa sb, In 0]) := fun w vs hp hall => by
  obtain ⟨v0, v1, v2, rfl, h0, h1, h2⟩ := all2_three hall
  cases P2.eq h0
  cases P2.eq h1
  cases P2.eq h2
  have erax := tax.rd
  have eray := tay.rd
  have erbx := tbx.rd
  have erbz := tbz.rd
  have erpx := tpx.rd
  have erpz := tpz.rd
  subst erax eray erbx erbz erpx erpz
  refine (angSeen_walk (tax.len hs) (tay.len hs) (tbx.len hs) (tbz.len hs) (tpx.len hs) (tpz.len hs) tax.qs tay.qs tbx.qs tbz.qs tpx.qs tpz.qs hk hp.1).mono ?_
  rintro _ w' ⟨hb, la, lb, z, rfl, hans⟩
  subst eX eY
  exact ⟨hb, _, rfl, angAns_ok hans hn ea eb⟩
theorem con_seen_flat {ax ay bx bz px pz : ByteArray} {rax ray rbx rbz rpx rpz : Rat} {X Y : Rat} {k : Nat} (tax : TX k ax rax) (tay : TX k ay ray) (tbx : TX k bx rbx) (tbz : TX k bz rbz) (tpx : TX k px rpx) (tpz : TX k pz rpz) (eX : X = (rax - rpx) * (rbx - rpx) - -(ray - rpz) * (rbz - rpz)) (eY : Y = (rax - rpx) * (rbz - rpz) + -(ray - rpz) * (rbx - rpx)) (hs : 2 * k + 4 ≤ 4294967296) (hk : 40 * (k + 1) ≤ 35184372088640) (hf : ((rax - rpx) = 0 ∧ (ray - rpz) = 0) ∨ ((rbx - rpx) = 0 ∧ (rbz - rpz) = 0)) : Con Tryz.prog Pre 60 [P2 ax ay, P2 bx bz, P2 px pz] (Tup [P2 ⟨#[]⟩ ⟨#[]⟩, In 5]) := fun w vs hp hall => by
  obtain ⟨v0, v1, v2, rfl, h0, h1, h2⟩ := all2_three hall
  cases P2.eq h0
  cases P2.eq h1
  cases P2.eq h2
  have erax := tax.rd
  have eray := tay.rd
  have erbx := tbx.rd
  have erbz := tbz.rd
  have erpx := tpx.rd
  have erpz := tpz.rd
  subst erax eray erbx erbz erpx erpz
  refine (angSeen_walk (tax.len hs) (tay.len hs) (tbx.len hs) (tbz.len hs) (tpx.len hs) (tpz.len hs) tax.qs tay.qs tbx.qs tbz.qs tpx.qs tpz.qs hk hp.1).mono ?_
  rintro _ w' ⟨hb, la, lb, z, rfl, hans⟩
  subst eX eY
  exact ⟨hb, _, rfl, angAns_flat hans hf⟩
end Go.Proofs.YtgajdmadbdbabaaGreatDoor
