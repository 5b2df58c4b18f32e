/- Part 7 of the walks and of the mathematics under them: WX. -/
import Derived.Test.YtgajdmadbdbabaaGreatDoorA6
set_option maxHeartbeats 16000000
set_option maxRecDepth 100000
/- WX -/
namespace Go.Proofs.YtgajdmadbdbabaaGreatDoor
open Go.RowKit Cx
attribute [local go_sem ↓] Go.wp_at_zero Go.wp_at_succ
theorem rd_nil : rd [] = 0 := by decide +kernel
theorem ans_size {x y c : Rat} {la lb lc : List UInt8} {z : Int} (h : LineAns x y c la lb lc z) {K : Nat} (f1 : QS K x) (f2 : QS K y) (f3 : QS K c) :
    QS (4 * K + 1) (rd la) ∧ QS (4 * K + 1) (rd lb) ∧ QS (4 * K + 1) (rd lc) ∧ la.length ≤ 8 * K + 6 ∧ lb.length ≤ 8 * K + 6 ∧ lc.length ≤ 8 * K + 6 := by
  rcases h with ⟨_, _, _, rfl, rfl, rfl⟩ | ⟨_, _, rfl, rfl, rfl⟩
  · rw [rd_nil]
    have h0 : QS (4 * K + 1) 0 := QS.zero.mono (by omega)
    exact ⟨h0, h0, h0, Nat.zero_le _, Nat.zero_le _, Nat.zero_le _⟩
  · have g1 := QS.fac f1 f2 f3 (q := x) (by simp)
    have g2 := QS.fac f1 f2 f3 (q := y) (by simp)
    have g3 := QS.fac f1 f2 f3 (q := c) (by simp)
    rw [rd_tx, rd_tx, rd_tx]
    refine ⟨g1, g2, g3, ?_, ?_, ?_⟩
    · have := tx_len g1; omega
    · have := tx_len g2; omega
    · have := tx_len g3; omega
theorem thales2 {ox oy ax ay bx bz k s1 s2 s3 x y A B C P Q R L1 L2 c1 c2 : Rat}
    (hl1 : L1 = -(bz - ay) * s1) (hl2 : L2 = (bx - ax) * s1) (hc1 : c1 = ox + (ax - ox) * k) (hc2 : c2 = oy + (ay - oy) * k)
    (hA : A = L1 * s2) (hB : B = L2 * s2) (hC : C = -(L1 * c1 + L2 * c2) * s2)
    (hP : P = -(bz - oy) * s3) (hQ : Q = (bx - ox) * s3) (hR : R = -(-(bz - oy) * ox + (bx - ox) * oy) * s3)
    (ht : A * Q - B * P ≠ 0) (hx : x = -(Q * C - B * R) / (A * Q - B * P)) (hy : y = (P * C - A * R) / (A * Q - B * P)) :
    x = ox + (bx - ox) * k ∧ y = oy + (bz - oy) * k := by
  refine thales (ax := ax) (ay := ay) (s1 := s1) (s2 := s2) (s3 := s3) ?_ ?_ ?_ ?_ ?_ ?_ ht hx hy
  · rw [hA, hl1]; grind
  · rw [hB, hl2]; grind
  · rw [hC, hl1, hl2, hc1, hc2]; grind
  · rw [hP]; grind
  · rw [hQ]; grind
  · rw [hR]; grind
theorem tx_mul_ne {x y c : Rat} (h : ¬ (x = 0 ∧ y = 0)) : ¬ (x * fac [x, y, c] = 0 ∧ y * fac [x, y, c] = 0) := by
  rintro ⟨h1, h2⟩
  apply h
  have hf : fac [x, y, c] ≠ 0 := by
    by_cases hx : x = 0
    · have hy : y ≠ 0 := fun e => h ⟨hx, e⟩
      exact fac_ne (q := y) (by simp) hy
    · exact fac_ne (q := x) (by simp) hx
  exact ⟨(Rat.mul_eq_zero.1 h1).resolve_right hf, (Rat.mul_eq_zero.1 h2).resolve_right hf⟩
theorem thales_walk {w : World} {ox oy ax ay bx bz kt : ByteArray} (s1 : ox.data.toList.length ≤ 1048576) (s2 : oy.data.toList.length ≤ 1048576) (s3 : ax.data.toList.length ≤ 1048576) (s4 : ay.data.toList.length ≤ 1048576) (s5 : bx.data.toList.length ≤ 1048576) (s6 : bz.data.toList.length ≤ 1048576) (s7 : kt.data.toList.length ≤ 1048576) (tab : Tab w) :
    Calls Tryz.prog 3 #[.agg #[.string ox, .string oy], .agg #[.string ax, .string ay], .agg #[.string bx, .string bz], .string kt] w fun e w' => Below w.heap.size w w' ∧ e = .returned (.bool true) := by
  obtain ⟨hb0, hk0, hk1, hk2, hsz⟩ := boxes3 w #[.string ox, .string oy] #[.string ax, .string ay] #[.string bx, .string bz] 24 24 24
  have HB0 := hideIt hb0
  have HSZ := hideIt hsz
  have HKO := hideIt hk0
  have HKA := hideIt hk1
  have HKB := hideIt hk2
  have HTAB := hideIt (tab.below hb0)
  have S1 := hideIt s1
  have F1 : Hid (QS 4194309 (rd ox.data.toList)) := (QS.rd _).mono (by omega)
  have S2 := hideIt s2
  have F2 : Hid (QS 4194309 (rd oy.data.toList)) := (QS.rd _).mono (by omega)
  have S3 := hideIt s3
  have F3 : Hid (QS 4194309 (rd ax.data.toList)) := (QS.rd _).mono (by omega)
  have S4 := hideIt s4
  have F4 : Hid (QS 4194309 (rd ay.data.toList)) := (QS.rd _).mono (by omega)
  have S5 := hideIt s5
  have F5 : Hid (QS 4194309 (rd bx.data.toList)) := (QS.rd _).mono (by omega)
  have S6 := hideIt s6
  have F6 : Hid (QS 4194309 (rd bz.data.toList)) := (QS.rd _).mono (by omega)
  have S7 := hideIt s7
  have F7 : Hid (QS 4194309 (rd kt.data.toList)) := (QS.rd _).mono (by omega)
  clear hb0 hsz hk0 hk1 hk2 tab s1 s2 s3 s4 s5 s6 s7
  have FC1 : Hid (QS 16777238 (rd ox.data.toList + (rd ax.data.toList - rd ox.data.toList) * rd kt.data.toList)) := (F1.out.add ((F3.out.sub F1.out).mul F7.out)).mono (by omega)
  have FC2 : Hid (QS 16777238 (rd oy.data.toList + (rd ay.data.toList - rd oy.data.toList) * rd kt.data.toList)) := (F2.out.add ((F4.out.sub F2.out).mul F7.out)).mono (by omega)
  have FL1 : Hid (QS 25165857 (-(rd bz.data.toList - rd ay.data.toList))) := ((F6.out.sub F4.out).neg).mono (by omega)
  have FL2 : Hid (QS 25165857 (rd bx.data.toList - rd ax.data.toList)) := (F5.out.sub F3.out).mono (by omega)
  have FL3 : Hid (QS 25165857 (-((-(rd bz.data.toList - rd ay.data.toList)) * rd ax.data.toList + (rd bx.data.toList - rd ax.data.toList) * rd ay.data.toList))) := ((((F6.out.sub F4.out).neg.mul F3.out).add ((F5.out.sub F3.out).mul F4.out)).neg).mono (by omega)
  have FN1 : Hid (QS 25165857 (-(rd bz.data.toList - rd oy.data.toList))) := ((F6.out.sub F2.out).neg).mono (by omega)
  have FN2 : Hid (QS 25165857 (rd bx.data.toList - rd ox.data.toList)) := (F5.out.sub F1.out).mono (by omega)
  have FN3 : Hid (QS 25165857 (-((-(rd bz.data.toList - rd oy.data.toList)) * rd ox.data.toList + (rd bx.data.toList - rd ox.data.toList) * rd oy.data.toList))) := ((((F6.out.sub F2.out).neg.mul F1.out).add ((F5.out.sub F1.out).mul F2.out)).neg).mono (by omega)
  go_enter Tryz.func3, Tryz.ntmps3
  go_wp2_with fail
  generalize (((w.alloc (.cells #[.string ox, .string oy] 24)).alloc (.cells #[.string ax, .string ay] 24)).alloc (.cells #[.string bx, .string bz] 24)) = W0 at *
  refine (through_calls (va := .agg #[.string ax, .string ay]) (vb := .agg #[.string bx, .string bz]) ⟨ax, ay, rfl, rfl, rfl⟩ ⟨bx, bz, rfl, rfl, rfl⟩ S3.out S4.out S5.out S6.out HTAB.out).mono ?_
  rintro _ w1 ⟨hb1, l1, l2, l3, z1, rfl, hans1⟩
  have HANS1 := hideIt hans1
  have SZ1 := hideIt (ans_size hans1 FL1.out FL2.out FL3.out)
  have HB1 := hideIt hb1
  have HKO1 := hideIt (HKO.out.below hb1 (by rw [HSZ.out]; omega))
  have HKA1 := hideIt (HKA.out.below hb1 (by rw [HSZ.out]; omega))
  have o0 : ∀ o, (w1.alloc o).cell? ⟨w.heap.size, 0, none⟩ = some (.string ox) := fun o => (HKO1.out.old o).cell 0
  have o1 : ∀ o, (w1.alloc o).cell? ⟨w.heap.size, 1, none⟩ = some (.string oy) := fun o => (HKO1.out.old o).cell 1
  have a0 : ∀ o, (w1.alloc o).cell? ⟨w.heap.size + 1, 0, none⟩ = some (.string ax) := fun o => (HKA1.out.old o).cell 0
  have a1 : ∀ o, (w1.alloc o).cell? ⟨w.heap.size + 1, 1, none⟩ = some (.string ay) := fun o => (HKA1.out.old o).cell 1
  clear hb1 hans1
  go_wp2_with fail
  obtain ⟨w2, hw2⟩ : ∃ w2, w2 = w1.alloc (.cells #[.string l1, .string l2, .string l3] 26) := ⟨_, rfl⟩
  have hbA := below_new w1 (.cells #[.string l1, .string l2, .string l3] 26)
  have HKG := hideIt (Blk.new w1 #[.string l1, .string l2, .string l3] 26)
  rw [← hw2] at hbA HKG ⊢
  obtain ⟨G, hG⟩ : ∃ G, G = w1.heap.size := ⟨_, rfl⟩
  rw [← hG] at HKG ⊢
  clear hG hw2
  have HB2 := hideIt (HB1.out.trans (hbA.mono HB1.out.size))
  clear hbA o0 o1 a0 a1
  refine (planeAt_calls (va := .agg #[.string ox, .string oy]) (vb := .agg #[.string ax, .string ay]) (t := kt) ⟨ox, oy, rfl, rfl, rfl⟩ ⟨ax, ay, rfl, rfl, rfl⟩ rfl S1.out S2.out S3.out S4.out S7.out (HTAB.out.below HB2.out)).mono ?_
  rintro _ w3 ⟨hb3, v3, rfl, c1, c2, rfl, hc1, hc2⟩
  have HC := hideIt (And.intro hc1 hc2)
  have HB3 := hideIt (HB2.out.trans (hb3.mono HB2.out.size))
  have HKG3 := hideIt (HKG.out.below hb3 HKG.out.lt)
  have g0 : ∀ o, (w3.alloc o).cell? ⟨G, 0, none⟩ = some (.string l1) := fun o => (HKG3.out.old o).cell 0
  have g1 : ∀ o, (w3.alloc o).cell? ⟨G, 1, none⟩ = some (.string l2) := fun o => (HKG3.out.old o).cell 1
  have g2 : ∀ o, (w3.alloc o).cell? ⟨G, 2, none⟩ = some (.string l3) := fun o => (HKG3.out.old o).cell 2
  clear hb3 hc1 hc2
  go_wp2_with fail
  obtain ⟨w4, hw4⟩ : ∃ w4, w4 = w3.alloc (.cells #[.string c1, .string c2] 24) := ⟨_, rfl⟩
  have hbA := below_new w3 (.cells #[.string c1, .string c2] 24)
  have HKH := hideIt (Blk.new w3 #[.string c1, .string c2] 24)
  rw [← hw4] at hbA HKH ⊢
  obtain ⟨H, hH⟩ : ∃ H, H = w3.heap.size := ⟨_, rfl⟩
  rw [← hH] at HKH ⊢
  clear hH hw4
  have HB4 := hideIt (HB3.out.trans (hbA.mono HB3.out.size))
  have HC1 : Hid (rd c1.data.toList = (rd ox.data.toList + (rd ax.data.toList - rd ox.data.toList) * rd kt.data.toList) ∧ c1.data.toList.length ≤ 4294967296) := by
    have h1 := HC.out.1
    have h2 := tx_len FC1.out
    show _ ∧ _
    rw [h1, rd_tx]
    exact ⟨rfl, by omega⟩
  have HC2 : Hid (rd c2.data.toList = (rd oy.data.toList + (rd ay.data.toList - rd oy.data.toList) * rd kt.data.toList) ∧ c2.data.toList.length ≤ 4294967296) := by
    have h1 := HC.out.2
    have h2 := tx_len FC2.out
    show _ ∧ _
    rw [h1, rd_tx]
    exact ⟨rfl, by omega⟩
  have FD1 : Hid (QS 16777238 (rd c1.data.toList)) := by show QS _ _; rw [HC1.out.1]; exact FC1.out
  have FD2 : Hid (QS 16777238 (rd c2.data.toList)) := by show QS _ _; rw [HC2.out.1]; exact FC2.out
  have KK : Hid (20 * (4 * 25165857 + 1 + 16777238 + 1) ≤ 35184372088640) := by show _ ≤ _; omega
  have N1 : Hid (l1.data.toList.length ≤ 4294967296 ∧ l2.data.toList.length ≤ 4294967296 ∧ l3.data.toList.length ≤ 4294967296) := by
    obtain ⟨_, _, _, h1, h2, h3⟩ := SZ1.out
    show _ ∧ _ ∧ _
    omega
  clear hbA g0 g1 g2
  refine (beside_calls (va := .agg #[.string l1, .string l2, .string l3]) (vb := .agg #[.string c1, .string c2]) ⟨l1, l2, l3, rfl, rfl, rfl, rfl⟩ ⟨c1, c2, rfl, rfl, rfl⟩ N1.out.1 N1.out.2.1 N1.out.2.2 HC1.out.2 HC2.out.2 SZ1.out.1 SZ1.out.2.1 FD1.out FD2.out KK.out (HTAB.out.below HB4.out)).mono ?_
  rintro _ w5 ⟨hb5, m1, m2, m3, z2, rfl, hans2⟩
  have HANS2 := hideIt hans2
  have HB5 := hideIt (HB4.out.trans (hb5.mono HB4.out.size))
  have HKO5 := hideIt (HKO.out.below HB5.out (by rw [HSZ.out]; omega))
  have HKB5 := hideIt (HKB.out.below HB5.out (by rw [HSZ.out]; omega))
  have o0 : ∀ o, (w5.alloc o).cell? ⟨w.heap.size, 0, none⟩ = some (.string ox) := fun o => (HKO5.out.old o).cell 0
  have o1 : ∀ o, (w5.alloc o).cell? ⟨w.heap.size, 1, none⟩ = some (.string oy) := fun o => (HKO5.out.old o).cell 1
  have b0 : ∀ o, (w5.alloc o).cell? ⟨w.heap.size + 1 + 1, 0, none⟩ = some (.string bx) := fun o => (HKB5.out.old o).cell 0
  have b1 : ∀ o, (w5.alloc o).cell? ⟨w.heap.size + 1 + 1, 1, none⟩ = some (.string bz) := fun o => (HKB5.out.old o).cell 1
  clear hb5 hans2
  go_wp2_with fail
  obtain ⟨w6, hw6⟩ : ∃ w6, w6 = w5.alloc (.cells #[.string m1, .string m2, .string m3] 26) := ⟨_, rfl⟩
  have hbA := below_new w5 (.cells #[.string m1, .string m2, .string m3] 26)
  have HKJ := hideIt (Blk.new w5 #[.string m1, .string m2, .string m3] 26)
  rw [← hw6] at hbA HKJ ⊢
  obtain ⟨J, hJ⟩ : ∃ J, J = w5.heap.size := ⟨_, rfl⟩
  rw [← hJ] at HKJ ⊢
  clear hJ hw6
  have HB6 := hideIt (HB5.out.trans (hbA.mono HB5.out.size))
  clear hbA o0 o1 b0 b1
  refine (through_calls (va := .agg #[.string ox, .string oy]) (vb := .agg #[.string bx, .string bz]) ⟨ox, oy, rfl, rfl, rfl⟩ ⟨bx, bz, rfl, rfl, rfl⟩ S1.out S2.out S5.out S6.out (HTAB.out.below HB6.out)).mono ?_
  rintro _ w7 ⟨hb7, n1, n2, n3, z3, rfl, hans3⟩
  have HANS3 := hideIt hans3
  have HB7 := hideIt (HB6.out.trans (hb7.mono HB6.out.size))
  have HKJ7 := hideIt (HKJ.out.below hb7 HKJ.out.lt)
  clear hb7 hans3
  go_wp2_with fail
  obtain ⟨w8, hw8⟩ : ∃ w8, w8 = w7.alloc (.cells #[.string n1, .string n2, .string n3] 26) := ⟨_, rfl⟩
  have hbA := below_new w7 (.cells #[.string n1, .string n2, .string n3] 26)
  have HKQ := hideIt (Blk.new w7 #[.string n1, .string n2, .string n3] 26)
  rw [← hw8] at hbA HKQ ⊢
  obtain ⟨Q, hQ⟩ : ∃ Q, Q = w7.heap.size := ⟨_, rfl⟩
  rw [← hQ] at HKQ ⊢
  clear hQ hw8
  have HB8 := hideIt (HB7.out.trans (hbA.mono HB7.out.size))
  have HKJ8 := hideIt (HKJ7.out.below hbA HKJ7.out.lt)
  clear hbA
  have HTC := hideIt (HTAB.out.below HB8.out)
  refine (lined_calls w8 HTC.out).mono ?_
  rintro _ w9 ⟨hb9, rfl⟩
  have HB9 := hideIt (HB8.out.trans (hb9.mono HB8.out.size))
  have HKJ9 := hideIt (HKJ8.out.below hb9 HKJ8.out.lt)
  have HKQ9 := hideIt (HKQ.out.below hb9 HKQ.out.lt)
  have HTC9 := hideIt (HTAB.out.below HB9.out)
  clear hb9
  rcases HANS1.out with ⟨_, _, hz1, _⟩ | ⟨hn1, hz1, e1, e2, e3⟩
  · subst hz1
    go_wp2_with fail
    refine (lined_calls w9 HTC9.out).mono ?_
    rintro _ w10 ⟨hb10, rfl⟩
    go_wp2
    go_ret
    exact ⟨HB0.out.trans ((HB9.out.trans (hb10.mono HB9.out.size)).mono HB0.out.size), rfl⟩
  · subst hz1
    have R1 : Hid (rd l1.data.toList = (-(rd bz.data.toList - rd ay.data.toList)) * fac [(-(rd bz.data.toList - rd ay.data.toList)), (rd bx.data.toList - rd ax.data.toList), (-((-(rd bz.data.toList - rd ay.data.toList)) * rd ax.data.toList + (rd bx.data.toList - rd ax.data.toList) * rd ay.data.toList))] ∧ rd l2.data.toList = (rd bx.data.toList - rd ax.data.toList) * fac [(-(rd bz.data.toList - rd ay.data.toList)), (rd bx.data.toList - rd ax.data.toList), (-((-(rd bz.data.toList - rd ay.data.toList)) * rd ax.data.toList + (rd bx.data.toList - rd ax.data.toList) * rd ay.data.toList))]) := by
      show _ ∧ _
      rw [e1, e2, rd_tx, rd_tx]
      exact ⟨rfl, rfl⟩
    have NZ : Hid (¬ (rd l1.data.toList = 0 ∧ rd l2.data.toList = 0)) := by
      show ¬ _
      rw [R1.out.1, R1.out.2]
      exact tx_mul_ne hn1
    clear hn1 e1 e2 e3
    rcases HANS3.out with ⟨_, _, hz3, _⟩ | ⟨hn3, hz3, e1, e2, e3⟩
    · subst hz3
      go_wp2_with fail
      refine (lined_calls w9 HTC9.out).mono ?_
      rintro _ w10 ⟨hb10, rfl⟩
      go_wp2
      go_ret
      exact ⟨HB0.out.trans ((HB9.out.trans (hb10.mono HB9.out.size)).mono HB0.out.size), rfl⟩
    · subst hz3
      have R3 : Hid (rd n1.data.toList = (-(rd bz.data.toList - rd oy.data.toList)) * fac [(-(rd bz.data.toList - rd oy.data.toList)), (rd bx.data.toList - rd ox.data.toList), (-((-(rd bz.data.toList - rd oy.data.toList)) * rd ox.data.toList + (rd bx.data.toList - rd ox.data.toList) * rd oy.data.toList))] ∧ rd n2.data.toList = (rd bx.data.toList - rd ox.data.toList) * fac [(-(rd bz.data.toList - rd oy.data.toList)), (rd bx.data.toList - rd ox.data.toList), (-((-(rd bz.data.toList - rd oy.data.toList)) * rd ox.data.toList + (rd bx.data.toList - rd ox.data.toList) * rd oy.data.toList))] ∧ rd n3.data.toList = (-((-(rd bz.data.toList - rd oy.data.toList)) * rd ox.data.toList + (rd bx.data.toList - rd ox.data.toList) * rd oy.data.toList)) * fac [(-(rd bz.data.toList - rd oy.data.toList)), (rd bx.data.toList - rd ox.data.toList), (-((-(rd bz.data.toList - rd oy.data.toList)) * rd ox.data.toList + (rd bx.data.toList - rd ox.data.toList) * rd oy.data.toList))]) := by
        show _ ∧ _ ∧ _
        rw [e1, e2, e3, rd_tx, rd_tx, rd_tx]
        exact ⟨rfl, rfl, rfl⟩
      have SZ3 := hideIt (ans_size HANS3.out FN1.out FN2.out FN3.out)
      clear hn3 e1 e2 e3
      have FM3 : Hid (QS 234881335 (-(rd l1.data.toList * rd c1.data.toList + rd l2.data.toList * rd c2.data.toList))) := (((SZ1.out.1.mul FD1.out).add (SZ1.out.2.1.mul FD2.out)).neg).mono (by omega)
      have SZ2 := hideIt (ans_size HANS2.out (K := 234881335) (SZ1.out.1.mono (by omega)) (SZ1.out.2.1.mono (by omega)) FM3.out)
      rcases HANS2.out with ⟨h1, h2, _⟩ | ⟨_, hz2, e1, e2, e3⟩
      · exact absurd (And.intro h1 h2) NZ.out
      · subst hz2
        have R2 : Hid (rd m1.data.toList = rd l1.data.toList * fac [rd l1.data.toList, rd l2.data.toList, -(rd l1.data.toList * rd c1.data.toList + rd l2.data.toList * rd c2.data.toList)] ∧ rd m2.data.toList = rd l2.data.toList * fac [rd l1.data.toList, rd l2.data.toList, -(rd l1.data.toList * rd c1.data.toList + rd l2.data.toList * rd c2.data.toList)] ∧ rd m3.data.toList = -(rd l1.data.toList * rd c1.data.toList + rd l2.data.toList * rd c2.data.toList) * fac [rd l1.data.toList, rd l2.data.toList, -(rd l1.data.toList * rd c1.data.toList + rd l2.data.toList * rd c2.data.toList)]) := by
          show _ ∧ _ ∧ _
          rw [e1, e2, e3, rd_tx, rd_tx, rd_tx]
          exact ⟨rfl, rfl, rfl⟩
        clear e1 e2 e3
        have NM : Hid (m1.data.toList.length ≤ 4294967296 ∧ m2.data.toList.length ≤ 4294967296 ∧ m3.data.toList.length ≤ 4294967296) := by
          obtain ⟨_, _, _, h1, h2, h3⟩ := SZ2.out
          show _ ∧ _ ∧ _
          omega
        have NN : Hid (n1.data.toList.length ≤ 4294967296 ∧ n2.data.toList.length ≤ 4294967296 ∧ n3.data.toList.length ≤ 4294967296) := by
          obtain ⟨_, _, _, h1, h2, h3⟩ := SZ3.out
          show _ ∧ _ ∧ _
          omega
        have G1 : Hid (QS (4 * 234881335 + 1) (rd n1.data.toList)) := SZ3.out.1.mono (by omega)
        have G2 : Hid (QS (4 * 234881335 + 1) (rd n2.data.toList)) := SZ3.out.2.1.mono (by omega)
        have G3 : Hid (QS (4 * 234881335 + 1) (rd n3.data.toList)) := SZ3.out.2.2.1.mono (by omega)
        have KZ : Hid (20 * (4 * 234881335 + 1 + 1) ≤ 35184372088640) := by show _ ≤ _; omega
        obtain ⟨y0, y1, y2, _⟩ := HKJ9.out.all3
        obtain ⟨x0, x1, x2, _⟩ := HKQ9.out.all3
        go_wp2_with fail
        refine (lineMeet_calls (va := .agg #[.string m1, .string m2, .string m3]) (vb := .agg #[.string n1, .string n2, .string n3]) ⟨m1, m2, m3, rfl, rfl, rfl, rfl⟩ ⟨n1, n2, n3, rfl, rfl, rfl, rfl⟩ NM.out.1 NM.out.2.1 NM.out.2.2 NN.out.1 NN.out.2.1 NN.out.2.2 SZ2.out.1 SZ2.out.2.1 SZ2.out.2.2.1 G1.out G2.out G3.out KZ.out HTC9.out).mono ?_
        rintro _ w10 ⟨hb10, d1, d2, z4, rfl, hans4⟩
        have HB10 := hideIt (HB9.out.trans (hb10.mono HB9.out.size))
        have HANS4 := hideIt hans4
        clear hb10 hans4 x0 x1 x2 y0 y1 y2
        by_cases h4 : z4 = 0
        · subst h4
          have HD : Hid (d1.data.toList = tx (rd ox.data.toList + (rd bx.data.toList - rd ox.data.toList) * rd kt.data.toList) ∧ d2.data.toList = tx (rd oy.data.toList + (rd bz.data.toList - rd oy.data.toList) * rd kt.data.toList)) := by
            rcases HANS4.out with ⟨_, h⟩ | ⟨_, _, x, y, hm, ht⟩
            · exact absurd rfl h
            · rcases hm with ⟨htn, _, hx, hy⟩ | ⟨_, h⟩
              · obtain ⟨h1, h2⟩ := ht rfl
                have hth := thales2 R1.out.1 R1.out.2 HC1.out.1 HC2.out.1 R2.out.1 R2.out.2.1 R2.out.2.2 R3.out.1 R3.out.2.1 R3.out.2.2 htn hx hy
                rw [h1, h2, hth.1, hth.2]
                exact ⟨rfl, rfl⟩
              · exact absurd rfl h
          clear HANS1 HANS2 HANS3 HANS4 R1 R2 R3
          go_wp2_with fail
          obtain ⟨w11, hw11⟩ : ∃ w11, w11 = w10.alloc (.cells #[.string d1, .string d2] 24) := ⟨_, rfl⟩
          have hbA := below_new w10 (.cells #[.string d1, .string d2] 24)
          have HKV := hideIt (Blk.new w10 #[.string d1, .string d2] 24)
          rw [← hw11] at hbA HKV ⊢
          obtain ⟨V, hV⟩ : ∃ V, V = w10.heap.size := ⟨_, rfl⟩
          rw [← hV] at HKV ⊢
          clear hV hw11
          have HB11 := hideIt (HB10.out.trans (hbA.mono HB10.out.size))
          have HKO11 := hideIt (HKO.out.below HB11.out (by rw [HSZ.out]; omega))
          have HKB11 := hideIt (HKB.out.below HB11.out (by rw [HSZ.out]; omega))
          have HTC11 := hideIt (HTAB.out.below HB11.out)
          clear hbA
          have HS : Hid (∀ w', Below w11.heap.size w11 w' → w'.cell? ⟨w.heap.size, 0, none⟩ = some (.string ox) ∧ w'.cell? ⟨w.heap.size, 1, none⟩ = some (.string oy) ∧ w'.cell? ⟨w.heap.size + 1 + 1, 0, none⟩ = some (.string bx) ∧ w'.cell? ⟨w.heap.size + 1 + 1, 1, none⟩ = some (.string bz) ∧ w'.cell? ⟨V, 0, none⟩ = some (.string d1) ∧ w'.cell? ⟨V, 1, none⟩ = some (.string d2)) := fun w' hb => ⟨(HKO11.out.below hb HKO11.out.lt).cell 0, (HKO11.out.below hb HKO11.out.lt).cell 1, (HKB11.out.below hb HKB11.out.lt).cell 0, (HKB11.out.below hb HKB11.out.lt).cell 1, (HKV.out.below hb HKV.out.lt).cell 0, (HKV.out.below hb HKV.out.lt).cell 1⟩
          obtain ⟨u0, u1, u2, u3, u4, u5⟩ := HS.out w11 (Below.refl _ _)
          go_region_held3 (fun w' => w'.cell? ⟨w.heap.size, 0, none⟩ = some (.string ox) ∧ w'.cell? ⟨w.heap.size, 1, none⟩ = some (.string oy) ∧ w'.cell? ⟨w.heap.size + 1 + 1, 0, none⟩ = some (.string bx) ∧ w'.cell? ⟨w.heap.size + 1 + 1, 1, none⟩ = some (.string bz) ∧ w'.cell? ⟨V, 0, none⟩ = some (.string d1) ∧ w'.cell? ⟨V, 1, none⟩ = some (.string d2)) (first | go_keep | exact hs12)
            (first
              | (go_at_call 16; refine (planeAt_calls (w := w11.drew) (va := .agg #[.string ox, .string oy]) (vb := .agg #[.string bx, .string bz]) (t := kt) ⟨ox, oy, rfl, rfl, rfl⟩ ⟨bx, bz, rfl, rfl, rfl⟩ rfl S1.out S2.out S5.out S6.out S7.out (HTC11.out.below (Below.drew (Below.refl _ _)))).mono ?_; rintro _ w12 ⟨hb12, v12, rfl, e1, e2, rfl, he1, he2⟩; have hbl12 : Below w11.heap.size w11 w12 := (Below.drew (Below.refl _ w11)).trans hb12; have hs12 := HS.out w12 hbl12; obtain rfl : d1 = e1 := (bytes_eq HD.out.1).trans (bytes_eq he1).symm; obtain rfl : d2 = e2 := (bytes_eq HD.out.2).trans (bytes_eq he2).symm)
              )
          all_goals
            go_wp2
            go_ret
            exact ⟨HB0.out.trans ((HB11.out.trans (hbl12.mono HB11.out.size)).mono HB0.out.size), rfl⟩
        · have hne : (z4 != 0) = true := by simpa using h4
          clear h4
          go_wp2
          go_ret
          exact ⟨HB0.out.trans ((HB10.out.alloc HB10.out.size _).mono HB0.out.size), rfl⟩
end Go.Proofs.YtgajdmadbdbabaaGreatDoor
