/- Part 7 of the walks of the packages num, way, ruler, line and plane, and of the mathematics under them: XI. -/
import Derived.Test.YtchjiigndobjnaaGreatDoorA6
/- Walks of package angle: the law of three angles. -/
namespace Go.Proofs.YtchjiigndobjnaaGreatDoor
open Go.RowKit Cx

attribute [local go_sem ↓] Go.wp_at_zero Go.wp_at_succ

theorem boxes7 (w : World) (s0 s1 s2 s3 s4 s5 s6 : Array Value) (t0 t1 t2 t3 t4 t5 t6 : TypeId) :
    Below w.heap.size w (((((((w.alloc (.cells s0 t0)).alloc (.cells s1 t1)).alloc (.cells s2 t2)).alloc (.cells s3 t3)).alloc (.cells s4 t4)).alloc (.cells s5 t5)).alloc (.cells s6 t6)) ∧ Blk (((((((w.alloc (.cells s0 t0)).alloc (.cells s1 t1)).alloc (.cells s2 t2)).alloc (.cells s3 t3)).alloc (.cells s4 t4)).alloc (.cells s5 t5)).alloc (.cells s6 t6)) (w.heap.size) s0 t0 ∧ Blk (((((((w.alloc (.cells s0 t0)).alloc (.cells s1 t1)).alloc (.cells s2 t2)).alloc (.cells s3 t3)).alloc (.cells s4 t4)).alloc (.cells s5 t5)).alloc (.cells s6 t6)) (w.heap.size + 1) s1 t1 ∧ Blk (((((((w.alloc (.cells s0 t0)).alloc (.cells s1 t1)).alloc (.cells s2 t2)).alloc (.cells s3 t3)).alloc (.cells s4 t4)).alloc (.cells s5 t5)).alloc (.cells s6 t6)) (w.heap.size + 1 + 1) s2 t2 ∧ Blk (((((((w.alloc (.cells s0 t0)).alloc (.cells s1 t1)).alloc (.cells s2 t2)).alloc (.cells s3 t3)).alloc (.cells s4 t4)).alloc (.cells s5 t5)).alloc (.cells s6 t6)) (w.heap.size + 1 + 1 + 1) s3 t3 ∧ Blk (((((((w.alloc (.cells s0 t0)).alloc (.cells s1 t1)).alloc (.cells s2 t2)).alloc (.cells s3 t3)).alloc (.cells s4 t4)).alloc (.cells s5 t5)).alloc (.cells s6 t6)) (w.heap.size + 1 + 1 + 1 + 1) s4 t4 ∧ Blk (((((((w.alloc (.cells s0 t0)).alloc (.cells s1 t1)).alloc (.cells s2 t2)).alloc (.cells s3 t3)).alloc (.cells s4 t4)).alloc (.cells s5 t5)).alloc (.cells s6 t6)) (w.heap.size + 1 + 1 + 1 + 1 + 1) s5 t5 ∧ Blk (((((((w.alloc (.cells s0 t0)).alloc (.cells s1 t1)).alloc (.cells s2 t2)).alloc (.cells s3 t3)).alloc (.cells s4 t4)).alloc (.cells s5 t5)).alloc (.cells s6 t6)) (w.heap.size + 1 + 1 + 1 + 1 + 1 + 1) s6 t6 ∧ (((((((w.alloc (.cells s0 t0)).alloc (.cells s1 t1)).alloc (.cells s2 t2)).alloc (.cells s3 t3)).alloc (.cells s4 t4)).alloc (.cells s5 t5)).alloc (.cells s6 t6)).heap.size = w.heap.size + 1 + 1 + 1 + 1 + 1 + 1 + 1 := by
  have b0 : Blk (w.alloc (.cells s0 t0)) (w.heap.size) s0 t0 := by simpa using Blk.new w s0 t0
  have b1 : Blk ((w.alloc (.cells s0 t0)).alloc (.cells s1 t1)) (w.heap.size + 1) s1 t1 := by simpa using Blk.new (w.alloc (.cells s0 t0)) s1 t1
  have b0 := b0.below (below_new (w.alloc (.cells s0 t0)) (.cells s1 t1)) (by simp; try omega)
  have b2 : Blk (((w.alloc (.cells s0 t0)).alloc (.cells s1 t1)).alloc (.cells s2 t2)) (w.heap.size + 1 + 1) s2 t2 := by simpa using Blk.new ((w.alloc (.cells s0 t0)).alloc (.cells s1 t1)) s2 t2
  have b0 := b0.below (below_new ((w.alloc (.cells s0 t0)).alloc (.cells s1 t1)) (.cells s2 t2)) (by simp; try omega)
  have b1 := b1.below (below_new ((w.alloc (.cells s0 t0)).alloc (.cells s1 t1)) (.cells s2 t2)) (by simp; try omega)
  have b3 : Blk ((((w.alloc (.cells s0 t0)).alloc (.cells s1 t1)).alloc (.cells s2 t2)).alloc (.cells s3 t3)) (w.heap.size + 1 + 1 + 1) s3 t3 := by simpa using Blk.new (((w.alloc (.cells s0 t0)).alloc (.cells s1 t1)).alloc (.cells s2 t2)) s3 t3
  have b0 := b0.below (below_new (((w.alloc (.cells s0 t0)).alloc (.cells s1 t1)).alloc (.cells s2 t2)) (.cells s3 t3)) (by simp; try omega)
  have b1 := b1.below (below_new (((w.alloc (.cells s0 t0)).alloc (.cells s1 t1)).alloc (.cells s2 t2)) (.cells s3 t3)) (by simp; try omega)
  have b2 := b2.below (below_new (((w.alloc (.cells s0 t0)).alloc (.cells s1 t1)).alloc (.cells s2 t2)) (.cells s3 t3)) (by simp; try omega)
  have b4 : Blk (((((w.alloc (.cells s0 t0)).alloc (.cells s1 t1)).alloc (.cells s2 t2)).alloc (.cells s3 t3)).alloc (.cells s4 t4)) (w.heap.size + 1 + 1 + 1 + 1) s4 t4 := by simpa using Blk.new ((((w.alloc (.cells s0 t0)).alloc (.cells s1 t1)).alloc (.cells s2 t2)).alloc (.cells s3 t3)) s4 t4
  have b0 := b0.below (below_new ((((w.alloc (.cells s0 t0)).alloc (.cells s1 t1)).alloc (.cells s2 t2)).alloc (.cells s3 t3)) (.cells s4 t4)) (by simp; try omega)
  have b1 := b1.below (below_new ((((w.alloc (.cells s0 t0)).alloc (.cells s1 t1)).alloc (.cells s2 t2)).alloc (.cells s3 t3)) (.cells s4 t4)) (by simp; try omega)
  have b2 := b2.below (below_new ((((w.alloc (.cells s0 t0)).alloc (.cells s1 t1)).alloc (.cells s2 t2)).alloc (.cells s3 t3)) (.cells s4 t4)) (by simp; try omega)
  have b3 := b3.below (below_new ((((w.alloc (.cells s0 t0)).alloc (.cells s1 t1)).alloc (.cells s2 t2)).alloc (.cells s3 t3)) (.cells s4 t4)) (by simp; try omega)
  have b5 : Blk ((((((w.alloc (.cells s0 t0)).alloc (.cells s1 t1)).alloc (.cells s2 t2)).alloc (.cells s3 t3)).alloc (.cells s4 t4)).alloc (.cells s5 t5)) (w.heap.size + 1 + 1 + 1 + 1 + 1) s5 t5 := by simpa using Blk.new (((((w.alloc (.cells s0 t0)).alloc (.cells s1 t1)).alloc (.cells s2 t2)).alloc (.cells s3 t3)).alloc (.cells s4 t4)) s5 t5
  have b0 := b0.below (below_new (((((w.alloc (.cells s0 t0)).alloc (.cells s1 t1)).alloc (.cells s2 t2)).alloc (.cells s3 t3)).alloc (.cells s4 t4)) (.cells s5 t5)) (by simp; try omega)
  have b1 := b1.below (below_new (((((w.alloc (.cells s0 t0)).alloc (.cells s1 t1)).alloc (.cells s2 t2)).alloc (.cells s3 t3)).alloc (.cells s4 t4)) (.cells s5 t5)) (by simp; try omega)
  have b2 := b2.below (below_new (((((w.alloc (.cells s0 t0)).alloc (.cells s1 t1)).alloc (.cells s2 t2)).alloc (.cells s3 t3)).alloc (.cells s4 t4)) (.cells s5 t5)) (by simp; try omega)
  have b3 := b3.below (below_new (((((w.alloc (.cells s0 t0)).alloc (.cells s1 t1)).alloc (.cells s2 t2)).alloc (.cells s3 t3)).alloc (.cells s4 t4)) (.cells s5 t5)) (by simp; try omega)
  have b4 := b4.below (below_new (((((w.alloc (.cells s0 t0)).alloc (.cells s1 t1)).alloc (.cells s2 t2)).alloc (.cells s3 t3)).alloc (.cells s4 t4)) (.cells s5 t5)) (by simp; try omega)
  have b6 : Blk (((((((w.alloc (.cells s0 t0)).alloc (.cells s1 t1)).alloc (.cells s2 t2)).alloc (.cells s3 t3)).alloc (.cells s4 t4)).alloc (.cells s5 t5)).alloc (.cells s6 t6)) (w.heap.size + 1 + 1 + 1 + 1 + 1 + 1) s6 t6 := by simpa using Blk.new ((((((w.alloc (.cells s0 t0)).alloc (.cells s1 t1)).alloc (.cells s2 t2)).alloc (.cells s3 t3)).alloc (.cells s4 t4)).alloc (.cells s5 t5)) s6 t6
  have b0 := b0.below (below_new ((((((w.alloc (.cells s0 t0)).alloc (.cells s1 t1)).alloc (.cells s2 t2)).alloc (.cells s3 t3)).alloc (.cells s4 t4)).alloc (.cells s5 t5)) (.cells s6 t6)) (by simp; try omega)
  have b1 := b1.below (below_new ((((((w.alloc (.cells s0 t0)).alloc (.cells s1 t1)).alloc (.cells s2 t2)).alloc (.cells s3 t3)).alloc (.cells s4 t4)).alloc (.cells s5 t5)) (.cells s6 t6)) (by simp; try omega)
  have b2 := b2.below (below_new ((((((w.alloc (.cells s0 t0)).alloc (.cells s1 t1)).alloc (.cells s2 t2)).alloc (.cells s3 t3)).alloc (.cells s4 t4)).alloc (.cells s5 t5)) (.cells s6 t6)) (by simp; try omega)
  have b3 := b3.below (below_new ((((((w.alloc (.cells s0 t0)).alloc (.cells s1 t1)).alloc (.cells s2 t2)).alloc (.cells s3 t3)).alloc (.cells s4 t4)).alloc (.cells s5 t5)) (.cells s6 t6)) (by simp; try omega)
  have b4 := b4.below (below_new ((((((w.alloc (.cells s0 t0)).alloc (.cells s1 t1)).alloc (.cells s2 t2)).alloc (.cells s3 t3)).alloc (.cells s4 t4)).alloc (.cells s5 t5)) (.cells s6 t6)) (by simp; try omega)
  have b5 := b5.below (below_new ((((((w.alloc (.cells s0 t0)).alloc (.cells s1 t1)).alloc (.cells s2 t2)).alloc (.cells s3 t3)).alloc (.cells s4 t4)).alloc (.cells s5 t5)) (.cells s6 t6)) (by simp; try omega)
  exact ⟨(((((((below_new w _).alloc (by simp; try omega) _).alloc (by simp; try omega) _).alloc (by simp; try omega) _).alloc (by simp; try omega) _).alloc (by simp; try omega) _).alloc (by simp; try omega) _), b0, b1, b2, b3, b4, b5, b6, by simp⟩

set_option maxHeartbeats 32000000 in
set_option maxRecDepth 100000 in
theorem angleThree_walk {w : World} {la lb lc ma mb mc na nb nc ax ay bx bz cx cy : ByteArray} (s0 : la.data.toList.length ≤ 1048576) (s1 : lb.data.toList.length ≤ 1048576) (s2 : lc.data.toList.length ≤ 1048576) (s3 : ma.data.toList.length ≤ 1048576) (s4 : mb.data.toList.length ≤ 1048576) (s5 : mc.data.toList.length ≤ 1048576) (s6 : na.data.toList.length ≤ 1048576) (s7 : nb.data.toList.length ≤ 1048576) (s8 : nc.data.toList.length ≤ 1048576) (s9 : ax.data.toList.length ≤ 1048576) (s10 : ay.data.toList.length ≤ 1048576) (s11 : bx.data.toList.length ≤ 1048576) (s12 : bz.data.toList.length ≤ 1048576) (s13 : cx.data.toList.length ≤ 1048576) (s14 : cy.data.toList.length ≤ 1048576) (tab : Tab w) :
    Calls Tryz.prog 3 #[.agg #[.string la, .string lb, .string lc], .agg #[.string ma, .string mb, .string mc], .agg #[.string na, .string nb, .string nc], .agg #[.string ax, .string ay], .agg #[.string bx, .string bz], .agg #[.string cx, .string cy]] w fun e w' => Below w.heap.size w w' ∧ e = .returned (.bool true) := by
  obtain ⟨hb0, hk0, hk1, hk2, hk3, hk4, hk5, hk6, hsz⟩ := boxes7 w #[.string la, .string lb, .string lc] #[.string ma, .string mb, .string mc] #[.string na, .string nb, .string nc] #[.string ax, .string ay] #[.string bx, .string bz] #[.string cx, .string cy] #[.string ⟨#[48]⟩, .string ⟨#[49]⟩] 24 24 24 26 26 26 28
  have HB0 := hideIt hb0
  have HSZ := hideIt hsz
  have HK0 := hideIt hk0
  have HK1 := hideIt hk1
  have HK2 := hideIt hk2
  have HK3 := hideIt hk3
  have HK4 := hideIt hk4
  have HK5 := hideIt hk5
  have HK6 := hideIt hk6
  have HT0 := hideIt tab
  have S0 : Hid (la.data.toList.length ≤ 4294967296) := Nat.le_trans s0 (by decide)
  have F0 : Hid (QS 4194309 (rd la.data.toList)) := (QS.rd _).mono (by omega)
  have S1 : Hid (lb.data.toList.length ≤ 4294967296) := Nat.le_trans s1 (by decide)
  have F1 : Hid (QS 4194309 (rd lb.data.toList)) := (QS.rd _).mono (by omega)
  have S2 : Hid (lc.data.toList.length ≤ 4294967296) := Nat.le_trans s2 (by decide)
  have F2 : Hid (QS 4194309 (rd lc.data.toList)) := (QS.rd _).mono (by omega)
  have S3 : Hid (ma.data.toList.length ≤ 4294967296) := Nat.le_trans s3 (by decide)
  have F3 : Hid (QS 4194309 (rd ma.data.toList)) := (QS.rd _).mono (by omega)
  have S4 : Hid (mb.data.toList.length ≤ 4294967296) := Nat.le_trans s4 (by decide)
  have F4 : Hid (QS 4194309 (rd mb.data.toList)) := (QS.rd _).mono (by omega)
  have S5 : Hid (mc.data.toList.length ≤ 4294967296) := Nat.le_trans s5 (by decide)
  have F5 : Hid (QS 4194309 (rd mc.data.toList)) := (QS.rd _).mono (by omega)
  have S6 : Hid (na.data.toList.length ≤ 4294967296) := Nat.le_trans s6 (by decide)
  have F6 : Hid (QS 4194309 (rd na.data.toList)) := (QS.rd _).mono (by omega)
  have S7 : Hid (nb.data.toList.length ≤ 4294967296) := Nat.le_trans s7 (by decide)
  have F7 : Hid (QS 4194309 (rd nb.data.toList)) := (QS.rd _).mono (by omega)
  have S8 : Hid (nc.data.toList.length ≤ 4294967296) := Nat.le_trans s8 (by decide)
  have F8 : Hid (QS 4194309 (rd nc.data.toList)) := (QS.rd _).mono (by omega)
  have S9 : Hid (ax.data.toList.length ≤ 4294967296) := Nat.le_trans s9 (by decide)
  have F9 : Hid (QS 4194309 (rd ax.data.toList)) := (QS.rd _).mono (by omega)
  have S10 : Hid (ay.data.toList.length ≤ 4294967296) := Nat.le_trans s10 (by decide)
  have F10 : Hid (QS 4194309 (rd ay.data.toList)) := (QS.rd _).mono (by omega)
  have S11 : Hid (bx.data.toList.length ≤ 4294967296) := Nat.le_trans s11 (by decide)
  have F11 : Hid (QS 4194309 (rd bx.data.toList)) := (QS.rd _).mono (by omega)
  have S12 : Hid (bz.data.toList.length ≤ 4294967296) := Nat.le_trans s12 (by decide)
  have F12 : Hid (QS 4194309 (rd bz.data.toList)) := (QS.rd _).mono (by omega)
  have S13 : Hid (cx.data.toList.length ≤ 4294967296) := Nat.le_trans s13 (by decide)
  have F13 : Hid (QS 4194309 (rd cx.data.toList)) := (QS.rd _).mono (by omega)
  have S14 : Hid (cy.data.toList.length ≤ 4294967296) := Nat.le_trans s14 (by decide)
  have F14 : Hid (QS 4194309 (rd cy.data.toList)) := (QS.rd _).mono (by omega)
  clear hb0 hsz hk0 hk1 hk2 hk3 hk4 hk5 hk6 tab s0 s1 s2 s3 s4 s5 s6 s7 s8 s9 s10 s11 s12 s13 s14
  go_enter Tryz.func3, Tryz.ntmps3
  go_wp2_with fail
  generalize (((((((w.alloc (.cells #[.string la, .string lb, .string lc] 24)).alloc (.cells #[.string ma, .string mb, .string mc] 24)).alloc (.cells #[.string na, .string nb, .string nc] 24)).alloc (.cells #[.string ax, .string ay] 26)).alloc (.cells #[.string bx, .string bz] 26)).alloc (.cells #[.string cx, .string cy] 26)).alloc (.cells #[.string ⟨#[48]⟩, .string ⟨#[49]⟩] 28)) = W0 at *
  refine (angFrom_calls (va := .agg #[.string la, .string lb, .string lc]) (vb := .agg #[.string ma, .string mb, .string mc]) ⟨la, lb, lc, rfl, rfl, rfl, rfl⟩ ⟨ma, mb, mc, rfl, rfl, rfl, rfl⟩ S0.out S1.out S2.out S3.out S4.out S5.out F0.out F1.out F3.out F4.out (by decide) (HT0.out.below HB0.out)).mono ?_
  rintro _ wf1 ⟨hb, x1, x2, ex, rfl, hans⟩
  have Ax := hideIt hans
  have Zx := hideIt (fac2_size hans (K := 16777237) ((F0.out.mul F3.out).sub (F1.out.neg.mul F4.out)) ((F0.out.mul F4.out).add (F1.out.neg.mul F3.out)))
  clear hans
  have HW2 := hideIt (HB0.out.trans (hb.mono HB0.out.size))
  have Kl2 := hideIt (HK0.out.below hb HK0.out.lt)
  have Km2 := hideIt (HK1.out.below hb HK1.out.lt)
  have Kn2 := hideIt (HK2.out.below hb HK2.out.lt)
  have Ka2 := hideIt (HK3.out.below hb HK3.out.lt)
  have Kb2 := hideIt (HK4.out.below hb HK4.out.lt)
  have Kc2 := hideIt (HK5.out.below hb HK5.out.lt)
  have KV2 := hideIt (HK6.out.below hb HK6.out.lt)
  clear hb
  have cm0 : ∀ o, (wf1.alloc o).cell? ⟨w.heap.size + 1, 0, none⟩ = some (.string ma) := fun o => (Km2.out.old o).cell 0
  have dm0 : wf1.cell? ⟨w.heap.size + 1, 0, none⟩ = some (.string ma) := Km2.out.cell 0
  have cm1 : ∀ o, (wf1.alloc o).cell? ⟨w.heap.size + 1, 1, none⟩ = some (.string mb) := fun o => (Km2.out.old o).cell 1
  have dm1 : wf1.cell? ⟨w.heap.size + 1, 1, none⟩ = some (.string mb) := Km2.out.cell 1
  have cm2 : ∀ o, (wf1.alloc o).cell? ⟨w.heap.size + 1, 2, none⟩ = some (.string mc) := fun o => (Km2.out.old o).cell 2
  have dm2 : wf1.cell? ⟨w.heap.size + 1, 2, none⟩ = some (.string mc) := Km2.out.cell 2
  have cn0 : ∀ o, (wf1.alloc o).cell? ⟨w.heap.size + 1 + 1, 0, none⟩ = some (.string na) := fun o => (Kn2.out.old o).cell 0
  have dn0 : wf1.cell? ⟨w.heap.size + 1 + 1, 0, none⟩ = some (.string na) := Kn2.out.cell 0
  have cn1 : ∀ o, (wf1.alloc o).cell? ⟨w.heap.size + 1 + 1, 1, none⟩ = some (.string nb) := fun o => (Kn2.out.old o).cell 1
  have dn1 : wf1.cell? ⟨w.heap.size + 1 + 1, 1, none⟩ = some (.string nb) := Kn2.out.cell 1
  have cn2 : ∀ o, (wf1.alloc o).cell? ⟨w.heap.size + 1 + 1, 2, none⟩ = some (.string nc) := fun o => (Kn2.out.old o).cell 2
  have dn2 : wf1.cell? ⟨w.heap.size + 1 + 1, 2, none⟩ = some (.string nc) := Kn2.out.cell 2
  go_wp2_with fail
  obtain ⟨wb3, hwb3⟩ : ∃ wb3, wb3 = wf1.alloc (.cells #[.string x1, .string x2] 28) := ⟨_, rfl⟩
  have hbA := below_new wf1 (.cells #[.string x1, .string x2] 28)
  have KN := hideIt (Blk.new wf1 #[.string x1, .string x2] 28)
  rw [← hwb3] at hbA KN ⊢
  obtain ⟨GX, hGX⟩ : ∃ GX, GX = wf1.heap.size := ⟨_, rfl⟩
  rw [← hGX] at KN ⊢
  have NEXl : Hid (GX ≠ w.heap.size) := by have := Kl2.out.lt; rw [hGX]; exact Nat.ne_of_gt this
  have NEXm : Hid (GX ≠ w.heap.size + 1) := by have := Km2.out.lt; rw [hGX]; exact Nat.ne_of_gt this
  have NEXn : Hid (GX ≠ w.heap.size + 1 + 1) := by have := Kn2.out.lt; rw [hGX]; exact Nat.ne_of_gt this
  have NEXa : Hid (GX ≠ w.heap.size + 1 + 1 + 1) := by have := Ka2.out.lt; rw [hGX]; exact Nat.ne_of_gt this
  have NEXb : Hid (GX ≠ w.heap.size + 1 + 1 + 1 + 1) := by have := Kb2.out.lt; rw [hGX]; exact Nat.ne_of_gt this
  have NEXc : Hid (GX ≠ w.heap.size + 1 + 1 + 1 + 1 + 1) := by have := Kc2.out.lt; rw [hGX]; exact Nat.ne_of_gt this
  have NEXV : Hid (GX ≠ w.heap.size + 1 + 1 + 1 + 1 + 1 + 1) := by have := KV2.out.lt; rw [hGX]; exact Nat.ne_of_gt this
  have GEX : Hid (w.heap.size ≤ GX) := by have := HW2.out.size; rw [hGX]; exact this
  clear hGX hwb3 cm0 dm0 cm1 dm1 cm2 dm2 cn0 dn0 cn1 dn1 cn2 dn2
  have HW4 := hideIt (HW2.out.trans (hbA.mono HW2.out.size))
  have Kl4 := hideIt (Kl2.out.below hbA Kl2.out.lt)
  have Km4 := hideIt (Km2.out.below hbA Km2.out.lt)
  have Kn4 := hideIt (Kn2.out.below hbA Kn2.out.lt)
  have Ka4 := hideIt (Ka2.out.below hbA Ka2.out.lt)
  have Kb4 := hideIt (Kb2.out.below hbA Kb2.out.lt)
  have Kc4 := hideIt (Kc2.out.below hbA Kc2.out.lt)
  have KV4 := hideIt (KV2.out.below hbA KV2.out.lt)
  have KXn3 := hideIt KN.out
  clear hbA KN
  refine (angFrom_calls (va := .agg #[.string ma, .string mb, .string mc]) (vb := .agg #[.string na, .string nb, .string nc]) ⟨ma, mb, mc, rfl, rfl, rfl, rfl⟩ ⟨na, nb, nc, rfl, rfl, rfl, rfl⟩ S3.out S4.out S5.out S6.out S7.out S8.out F3.out F4.out F6.out F7.out (by decide) (HT0.out.below HW4.out)).mono ?_
  rintro _ wf5 ⟨hb, y1, y2, ey, rfl, hans⟩
  have Ay := hideIt hans
  have Zy := hideIt (fac2_size hans (K := 16777237) ((F3.out.mul F6.out).sub (F4.out.neg.mul F7.out)) ((F3.out.mul F7.out).add (F4.out.neg.mul F6.out)))
  clear hans
  have HW6 := hideIt (HW4.out.trans (hb.mono HW4.out.size))
  have Kl6 := hideIt (Kl4.out.below hb Kl4.out.lt)
  have Km6 := hideIt (Km4.out.below hb Km4.out.lt)
  have Kn6 := hideIt (Kn4.out.below hb Kn4.out.lt)
  have Ka6 := hideIt (Ka4.out.below hb Ka4.out.lt)
  have Kb6 := hideIt (Kb4.out.below hb Kb4.out.lt)
  have Kc6 := hideIt (Kc4.out.below hb Kc4.out.lt)
  have KV6 := hideIt (KV4.out.below hb KV4.out.lt)
  have KX6 := hideIt (KXn3.out.below hb KXn3.out.lt)
  clear hb
  have cn0 : ∀ o, (wf5.alloc o).cell? ⟨w.heap.size + 1 + 1, 0, none⟩ = some (.string na) := fun o => (Kn6.out.old o).cell 0
  have dn0 : wf5.cell? ⟨w.heap.size + 1 + 1, 0, none⟩ = some (.string na) := Kn6.out.cell 0
  have cn1 : ∀ o, (wf5.alloc o).cell? ⟨w.heap.size + 1 + 1, 1, none⟩ = some (.string nb) := fun o => (Kn6.out.old o).cell 1
  have dn1 : wf5.cell? ⟨w.heap.size + 1 + 1, 1, none⟩ = some (.string nb) := Kn6.out.cell 1
  have cn2 : ∀ o, (wf5.alloc o).cell? ⟨w.heap.size + 1 + 1, 2, none⟩ = some (.string nc) := fun o => (Kn6.out.old o).cell 2
  have dn2 : wf5.cell? ⟨w.heap.size + 1 + 1, 2, none⟩ = some (.string nc) := Kn6.out.cell 2
  have cl0 : ∀ o, (wf5.alloc o).cell? ⟨w.heap.size, 0, none⟩ = some (.string la) := fun o => (Kl6.out.old o).cell 0
  have dl0 : wf5.cell? ⟨w.heap.size, 0, none⟩ = some (.string la) := Kl6.out.cell 0
  have cl1 : ∀ o, (wf5.alloc o).cell? ⟨w.heap.size, 1, none⟩ = some (.string lb) := fun o => (Kl6.out.old o).cell 1
  have dl1 : wf5.cell? ⟨w.heap.size, 1, none⟩ = some (.string lb) := Kl6.out.cell 1
  have cl2 : ∀ o, (wf5.alloc o).cell? ⟨w.heap.size, 2, none⟩ = some (.string lc) := fun o => (Kl6.out.old o).cell 2
  have dl2 : wf5.cell? ⟨w.heap.size, 2, none⟩ = some (.string lc) := Kl6.out.cell 2
  go_wp2_with fail
  obtain ⟨wb7, hwb7⟩ : ∃ wb7, wb7 = wf5.alloc (.cells #[.string y1, .string y2] 28) := ⟨_, rfl⟩
  have hbA := below_new wf5 (.cells #[.string y1, .string y2] 28)
  have KN := hideIt (Blk.new wf5 #[.string y1, .string y2] 28)
  rw [← hwb7] at hbA KN ⊢
  obtain ⟨GY, hGY⟩ : ∃ GY, GY = wf5.heap.size := ⟨_, rfl⟩
  rw [← hGY] at KN ⊢
  have NEYl : Hid (GY ≠ w.heap.size) := by have := Kl6.out.lt; rw [hGY]; exact Nat.ne_of_gt this
  have NEYm : Hid (GY ≠ w.heap.size + 1) := by have := Km6.out.lt; rw [hGY]; exact Nat.ne_of_gt this
  have NEYn : Hid (GY ≠ w.heap.size + 1 + 1) := by have := Kn6.out.lt; rw [hGY]; exact Nat.ne_of_gt this
  have NEYa : Hid (GY ≠ w.heap.size + 1 + 1 + 1) := by have := Ka6.out.lt; rw [hGY]; exact Nat.ne_of_gt this
  have NEYb : Hid (GY ≠ w.heap.size + 1 + 1 + 1 + 1) := by have := Kb6.out.lt; rw [hGY]; exact Nat.ne_of_gt this
  have NEYc : Hid (GY ≠ w.heap.size + 1 + 1 + 1 + 1 + 1) := by have := Kc6.out.lt; rw [hGY]; exact Nat.ne_of_gt this
  have NEYV : Hid (GY ≠ w.heap.size + 1 + 1 + 1 + 1 + 1 + 1) := by have := KV6.out.lt; rw [hGY]; exact Nat.ne_of_gt this
  have NEYX : Hid (GY ≠ GX) := by have := KX6.out.lt; rw [hGY]; exact Nat.ne_of_gt this
  have GEY : Hid (w.heap.size ≤ GY) := by have := HW6.out.size; rw [hGY]; exact this
  clear hGY hwb7 cn0 dn0 cn1 dn1 cn2 dn2 cl0 dl0 cl1 dl1 cl2 dl2
  have HW8 := hideIt (HW6.out.trans (hbA.mono HW6.out.size))
  have Kl8 := hideIt (Kl6.out.below hbA Kl6.out.lt)
  have Km8 := hideIt (Km6.out.below hbA Km6.out.lt)
  have Kn8 := hideIt (Kn6.out.below hbA Kn6.out.lt)
  have Ka8 := hideIt (Ka6.out.below hbA Ka6.out.lt)
  have Kb8 := hideIt (Kb6.out.below hbA Kb6.out.lt)
  have Kc8 := hideIt (Kc6.out.below hbA Kc6.out.lt)
  have KV8 := hideIt (KV6.out.below hbA KV6.out.lt)
  have KX8 := hideIt (KX6.out.below hbA KX6.out.lt)
  have KYn7 := hideIt KN.out
  clear hbA KN
  refine (angFrom_calls (va := .agg #[.string na, .string nb, .string nc]) (vb := .agg #[.string la, .string lb, .string lc]) ⟨na, nb, nc, rfl, rfl, rfl, rfl⟩ ⟨la, lb, lc, rfl, rfl, rfl, rfl⟩ S6.out S7.out S8.out S0.out S1.out S2.out F6.out F7.out F0.out F1.out (by decide) (HT0.out.below HW8.out)).mono ?_
  rintro _ wf9 ⟨hb, z1, z2, ez, rfl, hans⟩
  have Az := hideIt hans
  have Zz := hideIt (fac2_size hans (K := 16777237) ((F6.out.mul F0.out).sub (F7.out.neg.mul F1.out)) ((F6.out.mul F1.out).add (F7.out.neg.mul F0.out)))
  clear hans
  have HW10 := hideIt (HW8.out.trans (hb.mono HW8.out.size))
  have Kl10 := hideIt (Kl8.out.below hb Kl8.out.lt)
  have Km10 := hideIt (Km8.out.below hb Km8.out.lt)
  have Kn10 := hideIt (Kn8.out.below hb Kn8.out.lt)
  have Ka10 := hideIt (Ka8.out.below hb Ka8.out.lt)
  have Kb10 := hideIt (Kb8.out.below hb Kb8.out.lt)
  have Kc10 := hideIt (Kc8.out.below hb Kc8.out.lt)
  have KV10 := hideIt (KV8.out.below hb KV8.out.lt)
  have KX10 := hideIt (KX8.out.below hb KX8.out.lt)
  have KY10 := hideIt (KYn7.out.below hb KYn7.out.lt)
  clear hb
  rcases Ax.out with ⟨_, hex, _⟩ | ⟨nx, hex, esx, ecx⟩
  · subst hex
    have cb0 : ∀ o, (wf9.alloc o).cell? ⟨w.heap.size + 1 + 1 + 1 + 1, 0, none⟩ = some (.string bx) := fun o => (Kb10.out.old o).cell 0
    have db0 : wf9.cell? ⟨w.heap.size + 1 + 1 + 1 + 1, 0, none⟩ = some (.string bx) := Kb10.out.cell 0
    have cb1 : ∀ o, (wf9.alloc o).cell? ⟨w.heap.size + 1 + 1 + 1 + 1, 1, none⟩ = some (.string bz) := fun o => (Kb10.out.old o).cell 1
    have db1 : wf9.cell? ⟨w.heap.size + 1 + 1 + 1 + 1, 1, none⟩ = some (.string bz) := Kb10.out.cell 1
    have cc0 : ∀ o, (wf9.alloc o).cell? ⟨w.heap.size + 1 + 1 + 1 + 1 + 1, 0, none⟩ = some (.string cx) := fun o => (Kc10.out.old o).cell 0
    have dc0 : wf9.cell? ⟨w.heap.size + 1 + 1 + 1 + 1 + 1, 0, none⟩ = some (.string cx) := Kc10.out.cell 0
    have cc1 : ∀ o, (wf9.alloc o).cell? ⟨w.heap.size + 1 + 1 + 1 + 1 + 1, 1, none⟩ = some (.string cy) := fun o => (Kc10.out.old o).cell 1
    have dc1 : wf9.cell? ⟨w.heap.size + 1 + 1 + 1 + 1 + 1, 1, none⟩ = some (.string cy) := Kc10.out.cell 1
    have ca0 : ∀ o, (wf9.alloc o).cell? ⟨w.heap.size + 1 + 1 + 1, 0, none⟩ = some (.string ax) := fun o => (Ka10.out.old o).cell 0
    have da0 : wf9.cell? ⟨w.heap.size + 1 + 1 + 1, 0, none⟩ = some (.string ax) := Ka10.out.cell 0
    have ca1 : ∀ o, (wf9.alloc o).cell? ⟨w.heap.size + 1 + 1 + 1, 1, none⟩ = some (.string ay) := fun o => (Ka10.out.old o).cell 1
    have da1 : wf9.cell? ⟨w.heap.size + 1 + 1 + 1, 1, none⟩ = some (.string ay) := Ka10.out.cell 1
    go_wp2_with fail
    obtain ⟨wb11, hwb11⟩ : ∃ wb11, wb11 = wf9.alloc (.cells #[.string z1, .string z2] 28) := ⟨_, rfl⟩
    have hbA := below_new wf9 (.cells #[.string z1, .string z2] 28)
    have KN := hideIt (Blk.new wf9 #[.string z1, .string z2] 28)
    rw [← hwb11] at hbA KN ⊢
    obtain ⟨GZ, hGZ⟩ : ∃ GZ, GZ = wf9.heap.size := ⟨_, rfl⟩
    rw [← hGZ] at KN ⊢
    have NEZl : Hid (GZ ≠ w.heap.size) := by have := Kl10.out.lt; rw [hGZ]; exact Nat.ne_of_gt this
    have NEZm : Hid (GZ ≠ w.heap.size + 1) := by have := Km10.out.lt; rw [hGZ]; exact Nat.ne_of_gt this
    have NEZn : Hid (GZ ≠ w.heap.size + 1 + 1) := by have := Kn10.out.lt; rw [hGZ]; exact Nat.ne_of_gt this
    have NEZa : Hid (GZ ≠ w.heap.size + 1 + 1 + 1) := by have := Ka10.out.lt; rw [hGZ]; exact Nat.ne_of_gt this
    have NEZb : Hid (GZ ≠ w.heap.size + 1 + 1 + 1 + 1) := by have := Kb10.out.lt; rw [hGZ]; exact Nat.ne_of_gt this
    have NEZc : Hid (GZ ≠ w.heap.size + 1 + 1 + 1 + 1 + 1) := by have := Kc10.out.lt; rw [hGZ]; exact Nat.ne_of_gt this
    have NEZV : Hid (GZ ≠ w.heap.size + 1 + 1 + 1 + 1 + 1 + 1) := by have := KV10.out.lt; rw [hGZ]; exact Nat.ne_of_gt this
    have NEZX : Hid (GZ ≠ GX) := by have := KX10.out.lt; rw [hGZ]; exact Nat.ne_of_gt this
    have NEZY : Hid (GZ ≠ GY) := by have := KY10.out.lt; rw [hGZ]; exact Nat.ne_of_gt this
    have GEZ : Hid (w.heap.size ≤ GZ) := by have := HW10.out.size; rw [hGZ]; exact this
    clear hGZ hwb11 cb0 db0 cb1 db1 cc0 dc0 cc1 dc1 ca0 da0 ca1 da1
    have HW12 := hideIt (HW10.out.trans (hbA.mono HW10.out.size))
    have Kl12 := hideIt (Kl10.out.below hbA Kl10.out.lt)
    have Km12 := hideIt (Km10.out.below hbA Km10.out.lt)
    have Kn12 := hideIt (Kn10.out.below hbA Kn10.out.lt)
    have Ka12 := hideIt (Ka10.out.below hbA Ka10.out.lt)
    have Kb12 := hideIt (Kb10.out.below hbA Kb10.out.lt)
    have Kc12 := hideIt (Kc10.out.below hbA Kc10.out.lt)
    have KV12 := hideIt (KV10.out.below hbA KV10.out.lt)
    have KX12 := hideIt (KX10.out.below hbA KX10.out.lt)
    have KY12 := hideIt (KY10.out.below hbA KY10.out.lt)
    have KZn11 := hideIt KN.out
    clear hbA KN
    refine (angSeen_walk (ax := bx) (ay := bz) (bx := cx) (bz := cy) (px := ax) (pz := ay) S11.out S12.out S13.out S14.out S9.out S10.out F11.out F12.out F13.out F14.out F9.out F10.out (by decide) (HT0.out.below HW12.out)).mono ?_
    rintro _ wf13 ⟨hb, u1, u2, eu, rfl, hans⟩
    have Au := hideIt hans
    have Zu := hideIt (fac2_size hans (K := 33554477) (((F11.out.sub F9.out).mul (F13.out.sub F9.out)).sub ((F12.out.sub F10.out).neg.mul (F14.out.sub F10.out))) (((F11.out.sub F9.out).mul (F14.out.sub F10.out)).add ((F12.out.sub F10.out).neg.mul (F13.out.sub F9.out))))
    clear hans
    have HW14 := hideIt (HW12.out.trans (hb.mono HW12.out.size))
    have Kl14 := hideIt (Kl12.out.below hb Kl12.out.lt)
    have Km14 := hideIt (Km12.out.below hb Km12.out.lt)
    have Kn14 := hideIt (Kn12.out.below hb Kn12.out.lt)
    have Ka14 := hideIt (Ka12.out.below hb Ka12.out.lt)
    have Kb14 := hideIt (Kb12.out.below hb Kb12.out.lt)
    have Kc14 := hideIt (Kc12.out.below hb Kc12.out.lt)
    have KV14 := hideIt (KV12.out.below hb KV12.out.lt)
    have KX14 := hideIt (KX12.out.below hb KX12.out.lt)
    have KY14 := hideIt (KY12.out.below hb KY12.out.lt)
    have KZ14 := hideIt (KZn11.out.below hb KZn11.out.lt)
    clear hb
    have dX0 : wf13.cell? ⟨GX, 0, none⟩ = some (.string x1) := KX14.out.cell 0
    have eX0 : wf13.frozen? ⟨GX, 0, none⟩ = false := KX14.out.frozen 0
    have dX1 : wf13.cell? ⟨GX, 1, none⟩ = some (.string x2) := KX14.out.cell 1
    have eX1 : wf13.frozen? ⟨GX, 1, none⟩ = false := KX14.out.frozen 1
    have HW15 := hideIt (Below.put2 HW14.out GEX.out (.string u1) (.string u2) (g := GX))
    have Kl15 := hideIt (Kl14.out.off2 (g := GX) (NEXl.out) (.string u1) (.string u2))
    have Km15 := hideIt (Km14.out.off2 (g := GX) (NEXm.out) (.string u1) (.string u2))
    have Kn15 := hideIt (Kn14.out.off2 (g := GX) (NEXn.out) (.string u1) (.string u2))
    have Ka15 := hideIt (Ka14.out.off2 (g := GX) (NEXa.out) (.string u1) (.string u2))
    have Kb15 := hideIt (Kb14.out.off2 (g := GX) (NEXb.out) (.string u1) (.string u2))
    have Kc15 := hideIt (Kc14.out.off2 (g := GX) (NEXc.out) (.string u1) (.string u2))
    have KV15 := hideIt (KV14.out.off2 (g := GX) (NEXV.out) (.string u1) (.string u2))
    have KX15 := hideIt (KX14.out.put2 (.string u1) (.string u2))
    have KY15 := hideIt (KY14.out.off2 (g := GX) (NEYX.out.symm) (.string u1) (.string u2))
    have KZ15 := hideIt (KZ14.out.off2 (g := GX) (NEZX.out.symm) (.string u1) (.string u2))
    have dc0 : ((wf13.setCell ⟨GX, 0, none⟩ (.string u1)).setCell ⟨GX, 1, none⟩ (.string u2)).cell? ⟨w.heap.size + 1 + 1 + 1 + 1 + 1, 0, none⟩ = some (.string cx) := Kc15.out.cell 0
    have dc1 : ((wf13.setCell ⟨GX, 0, none⟩ (.string u1)).setCell ⟨GX, 1, none⟩ (.string u2)).cell? ⟨w.heap.size + 1 + 1 + 1 + 1 + 1, 1, none⟩ = some (.string cy) := Kc15.out.cell 1
    have da0 : ((wf13.setCell ⟨GX, 0, none⟩ (.string u1)).setCell ⟨GX, 1, none⟩ (.string u2)).cell? ⟨w.heap.size + 1 + 1 + 1, 0, none⟩ = some (.string ax) := Ka15.out.cell 0
    have da1 : ((wf13.setCell ⟨GX, 0, none⟩ (.string u1)).setCell ⟨GX, 1, none⟩ (.string u2)).cell? ⟨w.heap.size + 1 + 1 + 1, 1, none⟩ = some (.string ay) := Ka15.out.cell 1
    have db0 : ((wf13.setCell ⟨GX, 0, none⟩ (.string u1)).setCell ⟨GX, 1, none⟩ (.string u2)).cell? ⟨w.heap.size + 1 + 1 + 1 + 1, 0, none⟩ = some (.string bx) := Kb15.out.cell 0
    have db1 : ((wf13.setCell ⟨GX, 0, none⟩ (.string u1)).setCell ⟨GX, 1, none⟩ (.string u2)).cell? ⟨w.heap.size + 1 + 1 + 1 + 1, 1, none⟩ = some (.string bz) := Kb15.out.cell 1
    go_wp2_with fail
    generalize ((wf13.setCell ⟨GX, 0, none⟩ (.string u1)).setCell ⟨GX, 1, none⟩ (.string u2)) = wp15 at *
    clear dX0 dX1 da0 da1 db0 db1 dc0 dc1 eX0 eX1
    refine (angSeen_walk (ax := cx) (ay := cy) (bx := ax) (bz := ay) (px := bx) (pz := bz) S13.out S14.out S9.out S10.out S11.out S12.out F13.out F14.out F9.out F10.out F11.out F12.out (by decide) (HT0.out.below HW15.out)).mono ?_
    rintro _ wf16 ⟨hb, v1, v2, ev, rfl, hans⟩
    have Av := hideIt hans
    have Zv := hideIt (fac2_size hans (K := 33554477) (((F13.out.sub F11.out).mul (F9.out.sub F11.out)).sub ((F14.out.sub F12.out).neg.mul (F10.out.sub F12.out))) (((F13.out.sub F11.out).mul (F10.out.sub F12.out)).add ((F14.out.sub F12.out).neg.mul (F9.out.sub F11.out))))
    clear hans
    have HW17 := hideIt (HW15.out.trans (hb.mono HW15.out.size))
    have Kl17 := hideIt (Kl15.out.below hb Kl15.out.lt)
    have Km17 := hideIt (Km15.out.below hb Km15.out.lt)
    have Kn17 := hideIt (Kn15.out.below hb Kn15.out.lt)
    have Ka17 := hideIt (Ka15.out.below hb Ka15.out.lt)
    have Kb17 := hideIt (Kb15.out.below hb Kb15.out.lt)
    have Kc17 := hideIt (Kc15.out.below hb Kc15.out.lt)
    have KV17 := hideIt (KV15.out.below hb KV15.out.lt)
    have KX17 := hideIt (KX15.out.below hb KX15.out.lt)
    have KY17 := hideIt (KY15.out.below hb KY15.out.lt)
    have KZ17 := hideIt (KZ15.out.below hb KZ15.out.lt)
    clear hb
    have dY0 : wf16.cell? ⟨GY, 0, none⟩ = some (.string y1) := KY17.out.cell 0
    have eY0 : wf16.frozen? ⟨GY, 0, none⟩ = false := KY17.out.frozen 0
    have dY1 : wf16.cell? ⟨GY, 1, none⟩ = some (.string y2) := KY17.out.cell 1
    have eY1 : wf16.frozen? ⟨GY, 1, none⟩ = false := KY17.out.frozen 1
    have HW18 := hideIt (Below.put2 HW17.out GEY.out (.string v1) (.string v2) (g := GY))
    have Kl18 := hideIt (Kl17.out.off2 (g := GY) (NEYl.out) (.string v1) (.string v2))
    have Km18 := hideIt (Km17.out.off2 (g := GY) (NEYm.out) (.string v1) (.string v2))
    have Kn18 := hideIt (Kn17.out.off2 (g := GY) (NEYn.out) (.string v1) (.string v2))
    have Ka18 := hideIt (Ka17.out.off2 (g := GY) (NEYa.out) (.string v1) (.string v2))
    have Kb18 := hideIt (Kb17.out.off2 (g := GY) (NEYb.out) (.string v1) (.string v2))
    have Kc18 := hideIt (Kc17.out.off2 (g := GY) (NEYc.out) (.string v1) (.string v2))
    have KV18 := hideIt (KV17.out.off2 (g := GY) (NEYV.out) (.string v1) (.string v2))
    have KX18 := hideIt (KX17.out.off2 (g := GY) (NEYX.out) (.string v1) (.string v2))
    have KY18 := hideIt (KY17.out.put2 (.string v1) (.string v2))
    have KZ18 := hideIt (KZ17.out.off2 (g := GY) (NEZY.out.symm) (.string v1) (.string v2))
    have da0 : ((wf16.setCell ⟨GY, 0, none⟩ (.string v1)).setCell ⟨GY, 1, none⟩ (.string v2)).cell? ⟨w.heap.size + 1 + 1 + 1, 0, none⟩ = some (.string ax) := Ka18.out.cell 0
    have da1 : ((wf16.setCell ⟨GY, 0, none⟩ (.string v1)).setCell ⟨GY, 1, none⟩ (.string v2)).cell? ⟨w.heap.size + 1 + 1 + 1, 1, none⟩ = some (.string ay) := Ka18.out.cell 1
    have db0 : ((wf16.setCell ⟨GY, 0, none⟩ (.string v1)).setCell ⟨GY, 1, none⟩ (.string v2)).cell? ⟨w.heap.size + 1 + 1 + 1 + 1, 0, none⟩ = some (.string bx) := Kb18.out.cell 0
    have db1 : ((wf16.setCell ⟨GY, 0, none⟩ (.string v1)).setCell ⟨GY, 1, none⟩ (.string v2)).cell? ⟨w.heap.size + 1 + 1 + 1 + 1, 1, none⟩ = some (.string bz) := Kb18.out.cell 1
    have dc0 : ((wf16.setCell ⟨GY, 0, none⟩ (.string v1)).setCell ⟨GY, 1, none⟩ (.string v2)).cell? ⟨w.heap.size + 1 + 1 + 1 + 1 + 1, 0, none⟩ = some (.string cx) := Kc18.out.cell 0
    have dc1 : ((wf16.setCell ⟨GY, 0, none⟩ (.string v1)).setCell ⟨GY, 1, none⟩ (.string v2)).cell? ⟨w.heap.size + 1 + 1 + 1 + 1 + 1, 1, none⟩ = some (.string cy) := Kc18.out.cell 1
    go_wp2_with fail
    generalize ((wf16.setCell ⟨GY, 0, none⟩ (.string v1)).setCell ⟨GY, 1, none⟩ (.string v2)) = wp18 at *
    clear dY0 dY1 da0 da1 db0 db1 dc0 dc1 eY0 eY1
    refine (angSeen_walk (ax := ax) (ay := ay) (bx := bx) (bz := bz) (px := cx) (pz := cy) S9.out S10.out S11.out S12.out S13.out S14.out F9.out F10.out F11.out F12.out F13.out F14.out (by decide) (HT0.out.below HW18.out)).mono ?_
    rintro _ wf19 ⟨hb, k1, k2, ek, rfl, hans⟩
    have Ak := hideIt hans
    have Zk := hideIt (fac2_size hans (K := 33554477) (((F9.out.sub F13.out).mul (F11.out.sub F13.out)).sub ((F10.out.sub F14.out).neg.mul (F12.out.sub F14.out))) (((F9.out.sub F13.out).mul (F12.out.sub F14.out)).add ((F10.out.sub F14.out).neg.mul (F11.out.sub F13.out))))
    clear hans
    have HW20 := hideIt (HW18.out.trans (hb.mono HW18.out.size))
    have Kl20 := hideIt (Kl18.out.below hb Kl18.out.lt)
    have Km20 := hideIt (Km18.out.below hb Km18.out.lt)
    have Kn20 := hideIt (Kn18.out.below hb Kn18.out.lt)
    have Ka20 := hideIt (Ka18.out.below hb Ka18.out.lt)
    have Kb20 := hideIt (Kb18.out.below hb Kb18.out.lt)
    have Kc20 := hideIt (Kc18.out.below hb Kc18.out.lt)
    have KV20 := hideIt (KV18.out.below hb KV18.out.lt)
    have KX20 := hideIt (KX18.out.below hb KX18.out.lt)
    have KY20 := hideIt (KY18.out.below hb KY18.out.lt)
    have KZ20 := hideIt (KZ18.out.below hb KZ18.out.lt)
    clear hb
    have dZ0 : wf19.cell? ⟨GZ, 0, none⟩ = some (.string z1) := KZ20.out.cell 0
    have eZ0 : wf19.frozen? ⟨GZ, 0, none⟩ = false := KZ20.out.frozen 0
    have dZ1 : wf19.cell? ⟨GZ, 1, none⟩ = some (.string z2) := KZ20.out.cell 1
    have eZ1 : wf19.frozen? ⟨GZ, 1, none⟩ = false := KZ20.out.frozen 1
    have HW21 := hideIt (Below.put2 HW20.out GEZ.out (.string k1) (.string k2) (g := GZ))
    have Kl21 := hideIt (Kl20.out.off2 (g := GZ) (NEZl.out) (.string k1) (.string k2))
    have Km21 := hideIt (Km20.out.off2 (g := GZ) (NEZm.out) (.string k1) (.string k2))
    have Kn21 := hideIt (Kn20.out.off2 (g := GZ) (NEZn.out) (.string k1) (.string k2))
    have Ka21 := hideIt (Ka20.out.off2 (g := GZ) (NEZa.out) (.string k1) (.string k2))
    have Kb21 := hideIt (Kb20.out.off2 (g := GZ) (NEZb.out) (.string k1) (.string k2))
    have Kc21 := hideIt (Kc20.out.off2 (g := GZ) (NEZc.out) (.string k1) (.string k2))
    have KV21 := hideIt (KV20.out.off2 (g := GZ) (NEZV.out) (.string k1) (.string k2))
    have KX21 := hideIt (KX20.out.off2 (g := GZ) (NEZX.out) (.string k1) (.string k2))
    have KY21 := hideIt (KY20.out.off2 (g := GZ) (NEZY.out) (.string k1) (.string k2))
    have KZ21 := hideIt (KZ20.out.put2 (.string k1) (.string k2))
    go_wp2_with fail
    generalize ((wf19.setCell ⟨GZ, 0, none⟩ (.string k1)).setCell ⟨GZ, 1, none⟩ (.string k2)) = wp21 at *
    clear dZ0 dZ1 eZ0 eZ1
    refine (angled_calls wp21 (HT0.out.below HW21.out)).mono ?_
    rintro _ wf22 ⟨hb, rfl⟩
    have HW23 := hideIt (HW21.out.trans (hb.mono HW21.out.size))
    have Kl23 := hideIt (Kl21.out.below hb Kl21.out.lt)
    have Km23 := hideIt (Km21.out.below hb Km21.out.lt)
    have Kn23 := hideIt (Kn21.out.below hb Kn21.out.lt)
    have Ka23 := hideIt (Ka21.out.below hb Ka21.out.lt)
    have Kb23 := hideIt (Kb21.out.below hb Kb21.out.lt)
    have Kc23 := hideIt (Kc21.out.below hb Kc21.out.lt)
    have KV23 := hideIt (KV21.out.below hb KV21.out.lt)
    have KX23 := hideIt (KX21.out.below hb KX21.out.lt)
    have KY23 := hideIt (KY21.out.below hb KY21.out.lt)
    have KZ23 := hideIt (KZ21.out.below hb KZ21.out.lt)
    clear hb
    rcases Au.out with ⟨_, heu, _⟩ | ⟨nu, heu, esu, ecu⟩
    · subst heu
      go_wp2_with fail
      refine (angled_calls wf22 (HT0.out.below HW23.out)).mono ?_
      rintro _ wf24 ⟨hb, rfl⟩
      have HW25 := hideIt (HW23.out.trans (hb.mono HW23.out.size))
      have Kl25 := hideIt (Kl23.out.below hb Kl23.out.lt)
      have Km25 := hideIt (Km23.out.below hb Km23.out.lt)
      have Kn25 := hideIt (Kn23.out.below hb Kn23.out.lt)
      have Ka25 := hideIt (Ka23.out.below hb Ka23.out.lt)
      have Kb25 := hideIt (Kb23.out.below hb Kb23.out.lt)
      have Kc25 := hideIt (Kc23.out.below hb Kc23.out.lt)
      have KV25 := hideIt (KV23.out.below hb KV23.out.lt)
      have KX25 := hideIt (KX23.out.below hb KX23.out.lt)
      have KY25 := hideIt (KY23.out.below hb KY23.out.lt)
      have KZ25 := hideIt (KZ23.out.below hb KZ23.out.lt)
      clear hb
      go_wp2
      go_ret
      exact ⟨HW25.out, rfl⟩
    · subst heu
      have Nu := hideIt nu
      have Eu := hideIt (And.intro esu ecu)
      clear nu esu ecu
      rcases Av.out with ⟨_, hev, _⟩ | ⟨nv, hev, esv, ecv⟩
      · subst hev
        go_wp2_with fail
        refine (angled_calls wf22 (HT0.out.below HW23.out)).mono ?_
        rintro _ wf24 ⟨hb, rfl⟩
        have HW25 := hideIt (HW23.out.trans (hb.mono HW23.out.size))
        have Kl25 := hideIt (Kl23.out.below hb Kl23.out.lt)
        have Km25 := hideIt (Km23.out.below hb Km23.out.lt)
        have Kn25 := hideIt (Kn23.out.below hb Kn23.out.lt)
        have Ka25 := hideIt (Ka23.out.below hb Ka23.out.lt)
        have Kb25 := hideIt (Kb23.out.below hb Kb23.out.lt)
        have Kc25 := hideIt (Kc23.out.below hb Kc23.out.lt)
        have KV25 := hideIt (KV23.out.below hb KV23.out.lt)
        have KX25 := hideIt (KX23.out.below hb KX23.out.lt)
        have KY25 := hideIt (KY23.out.below hb KY23.out.lt)
        have KZ25 := hideIt (KZ23.out.below hb KZ23.out.lt)
        clear hb
        go_wp2
        go_ret
        exact ⟨HW25.out, rfl⟩
      · subst hev
        have Nv := hideIt nv
        have Ev := hideIt (And.intro esv ecv)
        clear nv esv ecv
        rcases Ak.out with ⟨_, hek, _⟩ | ⟨nk, hek, esk, eck⟩
        · subst hek
          go_wp2_with fail
          refine (angled_calls wf22 (HT0.out.below HW23.out)).mono ?_
          rintro _ wf24 ⟨hb, rfl⟩
          have HW25 := hideIt (HW23.out.trans (hb.mono HW23.out.size))
          have Kl25 := hideIt (Kl23.out.below hb Kl23.out.lt)
          have Km25 := hideIt (Km23.out.below hb Km23.out.lt)
          have Kn25 := hideIt (Kn23.out.below hb Kn23.out.lt)
          have Ka25 := hideIt (Ka23.out.below hb Ka23.out.lt)
          have Kb25 := hideIt (Kb23.out.below hb Kb23.out.lt)
          have Kc25 := hideIt (Kc23.out.below hb Kc23.out.lt)
          have KV25 := hideIt (KV23.out.below hb KV23.out.lt)
          have KX25 := hideIt (KX23.out.below hb KX23.out.lt)
          have KY25 := hideIt (KY23.out.below hb KY23.out.lt)
          have KZ25 := hideIt (KZ23.out.below hb KZ23.out.lt)
          clear hb
          go_wp2
          go_ret
          exact ⟨HW25.out, rfl⟩
        · subst hek
          have Nk := hideIt nk
          have Ek := hideIt (And.intro esk eck)
          clear nk esk eck
          have Qu : Hid (QS 100663432 (rd u2.data.toList) ∧ QS 100663432 (rd u1.data.toList) ∧ u2.data.toList.length ≤ 4294967296 ∧ u1.data.toList.length ≤ 4294967296 ∧ True) := by
            obtain ⟨h1, h2, h3, h4⟩ := Zu.out
            exact ⟨h1.mono (by omega), h2.mono (by omega), by omega, by omega, trivial⟩
          have Qv : Hid (QS 100663432 (rd v2.data.toList) ∧ QS 100663432 (rd v1.data.toList) ∧ v2.data.toList.length ≤ 4294967296 ∧ v1.data.toList.length ≤ 4294967296 ∧ True) := by
            obtain ⟨h1, h2, h3, h4⟩ := Zv.out
            exact ⟨h1.mono (by omega), h2.mono (by omega), by omega, by omega, trivial⟩
          have Qk : Hid (QS 100663432 (rd k2.data.toList) ∧ QS 100663432 (rd k1.data.toList) ∧ k2.data.toList.length ≤ 4294967296 ∧ k1.data.toList.length ≤ 4294967296 ∧ True) := by
            obtain ⟨h1, h2, h3, h4⟩ := Zk.out
            exact ⟨h1.mono (by omega), h2.mono (by omega), by omega, by omega, trivial⟩
          have dX0 : wf22.cell? ⟨GX, 0, none⟩ = some (.string u1) := KX23.out.cell 0
          have dX1 : wf22.cell? ⟨GX, 1, none⟩ = some (.string u2) := KX23.out.cell 1
          have dY0 : wf22.cell? ⟨GY, 0, none⟩ = some (.string v1) := KY23.out.cell 0
          have dY1 : wf22.cell? ⟨GY, 1, none⟩ = some (.string v2) := KY23.out.cell 1
          go_wp2_with fail
          refine (angSum_calls (va := .agg #[.string u1, .string u2]) (vb := .agg #[.string v1, .string v2]) ⟨u1, u2, rfl, rfl, rfl⟩ ⟨v1, v2, rfl, rfl, rfl⟩ Qu.out.2.2.2.1 Qu.out.2.2.1 Qv.out.2.2.2.1 Qv.out.2.2.1 (k := 100663432) Qu.out.1 Qu.out.2.1 Qv.out.1 Qv.out.2.1 (by decide) (HT0.out.below HW23.out)).mono ?_
          rintro _ wf24 ⟨hb, s1, s2, h, rfl, hans⟩
          have As := hideIt hans
          clear hans
          have HW25 := hideIt (HW23.out.trans (hb.mono HW23.out.size))
          have Kl25 := hideIt (Kl23.out.below hb Kl23.out.lt)
          have Km25 := hideIt (Km23.out.below hb Km23.out.lt)
          have Kn25 := hideIt (Kn23.out.below hb Kn23.out.lt)
          have Ka25 := hideIt (Ka23.out.below hb Ka23.out.lt)
          have Kb25 := hideIt (Kb23.out.below hb Kb23.out.lt)
          have Kc25 := hideIt (Kc23.out.below hb Kc23.out.lt)
          have KV25 := hideIt (KV23.out.below hb KV23.out.lt)
          have KX25 := hideIt (KX23.out.below hb KX23.out.lt)
          have KY25 := hideIt (KY23.out.below hb KY23.out.lt)
          have KZ25 := hideIt (KZ23.out.below hb KZ23.out.lt)
          clear hb
          clear dX0 dX1 dY0 dY1
          have Zs := hideIt (fac2_size As.out (K := 402653729) ((Qu.out.1.mul Qv.out.1).sub (Qu.out.2.1.mul Qv.out.2.1)) ((Qu.out.1.mul Qv.out.2.1).add (Qu.out.2.1.mul Qv.out.1)))
          have cZ0 : ∀ o, (wf24.alloc o).cell? ⟨GZ, 0, none⟩ = some (.string k1) := fun o => (KZ25.out.old o).cell 0
          have dZ0 : wf24.cell? ⟨GZ, 0, none⟩ = some (.string k1) := KZ25.out.cell 0
          have cZ1 : ∀ o, (wf24.alloc o).cell? ⟨GZ, 1, none⟩ = some (.string k2) := fun o => (KZ25.out.old o).cell 1
          have dZ1 : wf24.cell? ⟨GZ, 1, none⟩ = some (.string k2) := KZ25.out.cell 1
          go_wp2_with fail
          obtain ⟨wb26, hwb26⟩ : ∃ wb26, wb26 = wf24.alloc (.cells #[.string s1, .string s2] 28) := ⟨_, rfl⟩
          have hbA := below_new wf24 (.cells #[.string s1, .string s2] 28)
          have KN := hideIt (Blk.new wf24 #[.string s1, .string s2] 28)
          rw [← hwb26] at hbA KN ⊢
          obtain ⟨GSF, hGSF⟩ : ∃ GSF, GSF = wf24.heap.size := ⟨_, rfl⟩
          rw [← hGSF] at KN ⊢
          have NESFl : Hid (GSF ≠ w.heap.size) := by have := Kl25.out.lt; rw [hGSF]; exact Nat.ne_of_gt this
          have NESFm : Hid (GSF ≠ w.heap.size + 1) := by have := Km25.out.lt; rw [hGSF]; exact Nat.ne_of_gt this
          have NESFn : Hid (GSF ≠ w.heap.size + 1 + 1) := by have := Kn25.out.lt; rw [hGSF]; exact Nat.ne_of_gt this
          have NESFa : Hid (GSF ≠ w.heap.size + 1 + 1 + 1) := by have := Ka25.out.lt; rw [hGSF]; exact Nat.ne_of_gt this
          have NESFb : Hid (GSF ≠ w.heap.size + 1 + 1 + 1 + 1) := by have := Kb25.out.lt; rw [hGSF]; exact Nat.ne_of_gt this
          have NESFc : Hid (GSF ≠ w.heap.size + 1 + 1 + 1 + 1 + 1) := by have := Kc25.out.lt; rw [hGSF]; exact Nat.ne_of_gt this
          have NESFV : Hid (GSF ≠ w.heap.size + 1 + 1 + 1 + 1 + 1 + 1) := by have := KV25.out.lt; rw [hGSF]; exact Nat.ne_of_gt this
          have NESFX : Hid (GSF ≠ GX) := by have := KX25.out.lt; rw [hGSF]; exact Nat.ne_of_gt this
          have NESFY : Hid (GSF ≠ GY) := by have := KY25.out.lt; rw [hGSF]; exact Nat.ne_of_gt this
          have NESFZ : Hid (GSF ≠ GZ) := by have := KZ25.out.lt; rw [hGSF]; exact Nat.ne_of_gt this
          have GESF : Hid (w.heap.size ≤ GSF) := by have := HW25.out.size; rw [hGSF]; exact this
          clear hGSF hwb26 cZ0 dZ0 cZ1 dZ1
          have HW27 := hideIt (HW25.out.trans (hbA.mono HW25.out.size))
          have Kl27 := hideIt (Kl25.out.below hbA Kl25.out.lt)
          have Km27 := hideIt (Km25.out.below hbA Km25.out.lt)
          have Kn27 := hideIt (Kn25.out.below hbA Kn25.out.lt)
          have Ka27 := hideIt (Ka25.out.below hbA Ka25.out.lt)
          have Kb27 := hideIt (Kb25.out.below hbA Kb25.out.lt)
          have Kc27 := hideIt (Kc25.out.below hbA Kc25.out.lt)
          have KV27 := hideIt (KV25.out.below hbA KV25.out.lt)
          have KX27 := hideIt (KX25.out.below hbA KX25.out.lt)
          have KY27 := hideIt (KY25.out.below hbA KY25.out.lt)
          have KZ27 := hideIt (KZ25.out.below hbA KZ25.out.lt)
          have KSFn26 := hideIt KN.out
          clear hbA KN
          have Qs : Hid (QS 1207961188 (rd s2.data.toList) ∧ QS 1207961188 (rd s1.data.toList) ∧ s2.data.toList.length ≤ 4294967296 ∧ s1.data.toList.length ≤ 4294967296 ∧ True) := by
            obtain ⟨h1, h2, h3, h4⟩ := Zs.out
            exact ⟨h1.mono (by omega), h2.mono (by omega), by omega, by omega, trivial⟩
          have Rk : Hid (QS 1207961188 (rd k2.data.toList) ∧ QS 1207961188 (rd k1.data.toList) ∧ k2.data.toList.length ≤ 4294967296 ∧ k1.data.toList.length ≤ 4294967296 ∧ True) := ⟨Qk.out.1.mono (by omega), Qk.out.2.1.mono (by omega), Qk.out.2.2⟩
          refine (angSum_calls (va := .agg #[.string s1, .string s2]) (vb := .agg #[.string k1, .string k2]) ⟨s1, s2, rfl, rfl, rfl⟩ ⟨k1, k2, rfl, rfl, rfl⟩ Qs.out.2.2.2.1 Qs.out.2.2.1 Rk.out.2.2.2.1 Rk.out.2.2.1 (k := 1207961188) Qs.out.1 Qs.out.2.1 Rk.out.1 Rk.out.2.1 (by decide) (HT0.out.below HW27.out)).mono ?_
          rintro _ wf28 ⟨hb, t1, t2, i, rfl, hans⟩
          have At := hideIt hans
          clear hans
          have HW29 := hideIt (HW27.out.trans (hb.mono HW27.out.size))
          have Kl29 := hideIt (Kl27.out.below hb Kl27.out.lt)
          have Km29 := hideIt (Km27.out.below hb Km27.out.lt)
          have Kn29 := hideIt (Kn27.out.below hb Kn27.out.lt)
          have Ka29 := hideIt (Ka27.out.below hb Ka27.out.lt)
          have Kb29 := hideIt (Kb27.out.below hb Kb27.out.lt)
          have Kc29 := hideIt (Kc27.out.below hb Kc27.out.lt)
          have KV29 := hideIt (KV27.out.below hb KV27.out.lt)
          have KX29 := hideIt (KX27.out.below hb KX27.out.lt)
          have KY29 := hideIt (KY27.out.below hb KY27.out.lt)
          have KZ29 := hideIt (KZ27.out.below hb KZ27.out.lt)
          have KSF29 := hideIt (KSFn26.out.below hb KSFn26.out.lt)
          clear hb
          obtain ⟨hh, hi, e1, e2⟩ := three (conj_ne Nu.out) (conj_ne Nv.out) (conj_ne Nk.out) (tri_im _ _ _ _ _ _) Eu.out Ev.out Ek.out As.out At.out
          subst hh
          subst hi
          obtain rfl := bytes_eq e1
          obtain rfl := bytes_eq e2
          clear e1 e2
          have cV0 : ∀ o, (wf28.alloc o).cell? ⟨w.heap.size + 1 + 1 + 1 + 1 + 1 + 1, 0, none⟩ = some (.string ⟨#[48]⟩) := fun o => (KV29.out.old o).cell 0
          have dV0 : wf28.cell? ⟨w.heap.size + 1 + 1 + 1 + 1 + 1 + 1, 0, none⟩ = some (.string ⟨#[48]⟩) := KV29.out.cell 0
          have cV1 : ∀ o, (wf28.alloc o).cell? ⟨w.heap.size + 1 + 1 + 1 + 1 + 1 + 1, 1, none⟩ = some (.string ⟨#[49]⟩) := fun o => (KV29.out.old o).cell 1
          have dV1 : wf28.cell? ⟨w.heap.size + 1 + 1 + 1 + 1 + 1 + 1, 1, none⟩ = some (.string ⟨#[49]⟩) := KV29.out.cell 1
          go_wp2
          go_ret
          exact ⟨HW29.out.alloc HW29.out.size _, rfl⟩
  · subst hex
    have Nx := hideIt nx
    have Ex := hideIt (And.intro esx ecx)
    clear nx esx ecx
    rcases Ay.out with ⟨_, hey, _⟩ | ⟨ny, hey, esy, ecy⟩
    · subst hey
      have cb0 : ∀ o, (wf9.alloc o).cell? ⟨w.heap.size + 1 + 1 + 1 + 1, 0, none⟩ = some (.string bx) := fun o => (Kb10.out.old o).cell 0
      have db0 : wf9.cell? ⟨w.heap.size + 1 + 1 + 1 + 1, 0, none⟩ = some (.string bx) := Kb10.out.cell 0
      have cb1 : ∀ o, (wf9.alloc o).cell? ⟨w.heap.size + 1 + 1 + 1 + 1, 1, none⟩ = some (.string bz) := fun o => (Kb10.out.old o).cell 1
      have db1 : wf9.cell? ⟨w.heap.size + 1 + 1 + 1 + 1, 1, none⟩ = some (.string bz) := Kb10.out.cell 1
      have cc0 : ∀ o, (wf9.alloc o).cell? ⟨w.heap.size + 1 + 1 + 1 + 1 + 1, 0, none⟩ = some (.string cx) := fun o => (Kc10.out.old o).cell 0
      have dc0 : wf9.cell? ⟨w.heap.size + 1 + 1 + 1 + 1 + 1, 0, none⟩ = some (.string cx) := Kc10.out.cell 0
      have cc1 : ∀ o, (wf9.alloc o).cell? ⟨w.heap.size + 1 + 1 + 1 + 1 + 1, 1, none⟩ = some (.string cy) := fun o => (Kc10.out.old o).cell 1
      have dc1 : wf9.cell? ⟨w.heap.size + 1 + 1 + 1 + 1 + 1, 1, none⟩ = some (.string cy) := Kc10.out.cell 1
      have ca0 : ∀ o, (wf9.alloc o).cell? ⟨w.heap.size + 1 + 1 + 1, 0, none⟩ = some (.string ax) := fun o => (Ka10.out.old o).cell 0
      have da0 : wf9.cell? ⟨w.heap.size + 1 + 1 + 1, 0, none⟩ = some (.string ax) := Ka10.out.cell 0
      have ca1 : ∀ o, (wf9.alloc o).cell? ⟨w.heap.size + 1 + 1 + 1, 1, none⟩ = some (.string ay) := fun o => (Ka10.out.old o).cell 1
      have da1 : wf9.cell? ⟨w.heap.size + 1 + 1 + 1, 1, none⟩ = some (.string ay) := Ka10.out.cell 1
      go_wp2_with fail
      obtain ⟨wb11, hwb11⟩ : ∃ wb11, wb11 = wf9.alloc (.cells #[.string z1, .string z2] 28) := ⟨_, rfl⟩
      have hbA := below_new wf9 (.cells #[.string z1, .string z2] 28)
      have KN := hideIt (Blk.new wf9 #[.string z1, .string z2] 28)
      rw [← hwb11] at hbA KN ⊢
      obtain ⟨GZ, hGZ⟩ : ∃ GZ, GZ = wf9.heap.size := ⟨_, rfl⟩
      rw [← hGZ] at KN ⊢
      have NEZl : Hid (GZ ≠ w.heap.size) := by have := Kl10.out.lt; rw [hGZ]; exact Nat.ne_of_gt this
      have NEZm : Hid (GZ ≠ w.heap.size + 1) := by have := Km10.out.lt; rw [hGZ]; exact Nat.ne_of_gt this
      have NEZn : Hid (GZ ≠ w.heap.size + 1 + 1) := by have := Kn10.out.lt; rw [hGZ]; exact Nat.ne_of_gt this
      have NEZa : Hid (GZ ≠ w.heap.size + 1 + 1 + 1) := by have := Ka10.out.lt; rw [hGZ]; exact Nat.ne_of_gt this
      have NEZb : Hid (GZ ≠ w.heap.size + 1 + 1 + 1 + 1) := by have := Kb10.out.lt; rw [hGZ]; exact Nat.ne_of_gt this
      have NEZc : Hid (GZ ≠ w.heap.size + 1 + 1 + 1 + 1 + 1) := by have := Kc10.out.lt; rw [hGZ]; exact Nat.ne_of_gt this
      have NEZV : Hid (GZ ≠ w.heap.size + 1 + 1 + 1 + 1 + 1 + 1) := by have := KV10.out.lt; rw [hGZ]; exact Nat.ne_of_gt this
      have NEZX : Hid (GZ ≠ GX) := by have := KX10.out.lt; rw [hGZ]; exact Nat.ne_of_gt this
      have NEZY : Hid (GZ ≠ GY) := by have := KY10.out.lt; rw [hGZ]; exact Nat.ne_of_gt this
      have GEZ : Hid (w.heap.size ≤ GZ) := by have := HW10.out.size; rw [hGZ]; exact this
      clear hGZ hwb11 cb0 db0 cb1 db1 cc0 dc0 cc1 dc1 ca0 da0 ca1 da1
      have HW12 := hideIt (HW10.out.trans (hbA.mono HW10.out.size))
      have Kl12 := hideIt (Kl10.out.below hbA Kl10.out.lt)
      have Km12 := hideIt (Km10.out.below hbA Km10.out.lt)
      have Kn12 := hideIt (Kn10.out.below hbA Kn10.out.lt)
      have Ka12 := hideIt (Ka10.out.below hbA Ka10.out.lt)
      have Kb12 := hideIt (Kb10.out.below hbA Kb10.out.lt)
      have Kc12 := hideIt (Kc10.out.below hbA Kc10.out.lt)
      have KV12 := hideIt (KV10.out.below hbA KV10.out.lt)
      have KX12 := hideIt (KX10.out.below hbA KX10.out.lt)
      have KY12 := hideIt (KY10.out.below hbA KY10.out.lt)
      have KZn11 := hideIt KN.out
      clear hbA KN
      refine (angSeen_walk (ax := bx) (ay := bz) (bx := cx) (bz := cy) (px := ax) (pz := ay) S11.out S12.out S13.out S14.out S9.out S10.out F11.out F12.out F13.out F14.out F9.out F10.out (by decide) (HT0.out.below HW12.out)).mono ?_
      rintro _ wf13 ⟨hb, u1, u2, eu, rfl, hans⟩
      have Au := hideIt hans
      have Zu := hideIt (fac2_size hans (K := 33554477) (((F11.out.sub F9.out).mul (F13.out.sub F9.out)).sub ((F12.out.sub F10.out).neg.mul (F14.out.sub F10.out))) (((F11.out.sub F9.out).mul (F14.out.sub F10.out)).add ((F12.out.sub F10.out).neg.mul (F13.out.sub F9.out))))
      clear hans
      have HW14 := hideIt (HW12.out.trans (hb.mono HW12.out.size))
      have Kl14 := hideIt (Kl12.out.below hb Kl12.out.lt)
      have Km14 := hideIt (Km12.out.below hb Km12.out.lt)
      have Kn14 := hideIt (Kn12.out.below hb Kn12.out.lt)
      have Ka14 := hideIt (Ka12.out.below hb Ka12.out.lt)
      have Kb14 := hideIt (Kb12.out.below hb Kb12.out.lt)
      have Kc14 := hideIt (Kc12.out.below hb Kc12.out.lt)
      have KV14 := hideIt (KV12.out.below hb KV12.out.lt)
      have KX14 := hideIt (KX12.out.below hb KX12.out.lt)
      have KY14 := hideIt (KY12.out.below hb KY12.out.lt)
      have KZ14 := hideIt (KZn11.out.below hb KZn11.out.lt)
      clear hb
      have dX0 : wf13.cell? ⟨GX, 0, none⟩ = some (.string x1) := KX14.out.cell 0
      have eX0 : wf13.frozen? ⟨GX, 0, none⟩ = false := KX14.out.frozen 0
      have dX1 : wf13.cell? ⟨GX, 1, none⟩ = some (.string x2) := KX14.out.cell 1
      have eX1 : wf13.frozen? ⟨GX, 1, none⟩ = false := KX14.out.frozen 1
      have HW15 := hideIt (Below.put2 HW14.out GEX.out (.string u1) (.string u2) (g := GX))
      have Kl15 := hideIt (Kl14.out.off2 (g := GX) (NEXl.out) (.string u1) (.string u2))
      have Km15 := hideIt (Km14.out.off2 (g := GX) (NEXm.out) (.string u1) (.string u2))
      have Kn15 := hideIt (Kn14.out.off2 (g := GX) (NEXn.out) (.string u1) (.string u2))
      have Ka15 := hideIt (Ka14.out.off2 (g := GX) (NEXa.out) (.string u1) (.string u2))
      have Kb15 := hideIt (Kb14.out.off2 (g := GX) (NEXb.out) (.string u1) (.string u2))
      have Kc15 := hideIt (Kc14.out.off2 (g := GX) (NEXc.out) (.string u1) (.string u2))
      have KV15 := hideIt (KV14.out.off2 (g := GX) (NEXV.out) (.string u1) (.string u2))
      have KX15 := hideIt (KX14.out.put2 (.string u1) (.string u2))
      have KY15 := hideIt (KY14.out.off2 (g := GX) (NEYX.out.symm) (.string u1) (.string u2))
      have KZ15 := hideIt (KZ14.out.off2 (g := GX) (NEZX.out.symm) (.string u1) (.string u2))
      have dc0 : ((wf13.setCell ⟨GX, 0, none⟩ (.string u1)).setCell ⟨GX, 1, none⟩ (.string u2)).cell? ⟨w.heap.size + 1 + 1 + 1 + 1 + 1, 0, none⟩ = some (.string cx) := Kc15.out.cell 0
      have dc1 : ((wf13.setCell ⟨GX, 0, none⟩ (.string u1)).setCell ⟨GX, 1, none⟩ (.string u2)).cell? ⟨w.heap.size + 1 + 1 + 1 + 1 + 1, 1, none⟩ = some (.string cy) := Kc15.out.cell 1
      have da0 : ((wf13.setCell ⟨GX, 0, none⟩ (.string u1)).setCell ⟨GX, 1, none⟩ (.string u2)).cell? ⟨w.heap.size + 1 + 1 + 1, 0, none⟩ = some (.string ax) := Ka15.out.cell 0
      have da1 : ((wf13.setCell ⟨GX, 0, none⟩ (.string u1)).setCell ⟨GX, 1, none⟩ (.string u2)).cell? ⟨w.heap.size + 1 + 1 + 1, 1, none⟩ = some (.string ay) := Ka15.out.cell 1
      have db0 : ((wf13.setCell ⟨GX, 0, none⟩ (.string u1)).setCell ⟨GX, 1, none⟩ (.string u2)).cell? ⟨w.heap.size + 1 + 1 + 1 + 1, 0, none⟩ = some (.string bx) := Kb15.out.cell 0
      have db1 : ((wf13.setCell ⟨GX, 0, none⟩ (.string u1)).setCell ⟨GX, 1, none⟩ (.string u2)).cell? ⟨w.heap.size + 1 + 1 + 1 + 1, 1, none⟩ = some (.string bz) := Kb15.out.cell 1
      go_wp2_with fail
      generalize ((wf13.setCell ⟨GX, 0, none⟩ (.string u1)).setCell ⟨GX, 1, none⟩ (.string u2)) = wp15 at *
      clear dX0 dX1 da0 da1 db0 db1 dc0 dc1 eX0 eX1
      refine (angSeen_walk (ax := cx) (ay := cy) (bx := ax) (bz := ay) (px := bx) (pz := bz) S13.out S14.out S9.out S10.out S11.out S12.out F13.out F14.out F9.out F10.out F11.out F12.out (by decide) (HT0.out.below HW15.out)).mono ?_
      rintro _ wf16 ⟨hb, v1, v2, ev, rfl, hans⟩
      have Av := hideIt hans
      have Zv := hideIt (fac2_size hans (K := 33554477) (((F13.out.sub F11.out).mul (F9.out.sub F11.out)).sub ((F14.out.sub F12.out).neg.mul (F10.out.sub F12.out))) (((F13.out.sub F11.out).mul (F10.out.sub F12.out)).add ((F14.out.sub F12.out).neg.mul (F9.out.sub F11.out))))
      clear hans
      have HW17 := hideIt (HW15.out.trans (hb.mono HW15.out.size))
      have Kl17 := hideIt (Kl15.out.below hb Kl15.out.lt)
      have Km17 := hideIt (Km15.out.below hb Km15.out.lt)
      have Kn17 := hideIt (Kn15.out.below hb Kn15.out.lt)
      have Ka17 := hideIt (Ka15.out.below hb Ka15.out.lt)
      have Kb17 := hideIt (Kb15.out.below hb Kb15.out.lt)
      have Kc17 := hideIt (Kc15.out.below hb Kc15.out.lt)
      have KV17 := hideIt (KV15.out.below hb KV15.out.lt)
      have KX17 := hideIt (KX15.out.below hb KX15.out.lt)
      have KY17 := hideIt (KY15.out.below hb KY15.out.lt)
      have KZ17 := hideIt (KZ15.out.below hb KZ15.out.lt)
      clear hb
      have dY0 : wf16.cell? ⟨GY, 0, none⟩ = some (.string y1) := KY17.out.cell 0
      have eY0 : wf16.frozen? ⟨GY, 0, none⟩ = false := KY17.out.frozen 0
      have dY1 : wf16.cell? ⟨GY, 1, none⟩ = some (.string y2) := KY17.out.cell 1
      have eY1 : wf16.frozen? ⟨GY, 1, none⟩ = false := KY17.out.frozen 1
      have HW18 := hideIt (Below.put2 HW17.out GEY.out (.string v1) (.string v2) (g := GY))
      have Kl18 := hideIt (Kl17.out.off2 (g := GY) (NEYl.out) (.string v1) (.string v2))
      have Km18 := hideIt (Km17.out.off2 (g := GY) (NEYm.out) (.string v1) (.string v2))
      have Kn18 := hideIt (Kn17.out.off2 (g := GY) (NEYn.out) (.string v1) (.string v2))
      have Ka18 := hideIt (Ka17.out.off2 (g := GY) (NEYa.out) (.string v1) (.string v2))
      have Kb18 := hideIt (Kb17.out.off2 (g := GY) (NEYb.out) (.string v1) (.string v2))
      have Kc18 := hideIt (Kc17.out.off2 (g := GY) (NEYc.out) (.string v1) (.string v2))
      have KV18 := hideIt (KV17.out.off2 (g := GY) (NEYV.out) (.string v1) (.string v2))
      have KX18 := hideIt (KX17.out.off2 (g := GY) (NEYX.out) (.string v1) (.string v2))
      have KY18 := hideIt (KY17.out.put2 (.string v1) (.string v2))
      have KZ18 := hideIt (KZ17.out.off2 (g := GY) (NEZY.out.symm) (.string v1) (.string v2))
      have da0 : ((wf16.setCell ⟨GY, 0, none⟩ (.string v1)).setCell ⟨GY, 1, none⟩ (.string v2)).cell? ⟨w.heap.size + 1 + 1 + 1, 0, none⟩ = some (.string ax) := Ka18.out.cell 0
      have da1 : ((wf16.setCell ⟨GY, 0, none⟩ (.string v1)).setCell ⟨GY, 1, none⟩ (.string v2)).cell? ⟨w.heap.size + 1 + 1 + 1, 1, none⟩ = some (.string ay) := Ka18.out.cell 1
      have db0 : ((wf16.setCell ⟨GY, 0, none⟩ (.string v1)).setCell ⟨GY, 1, none⟩ (.string v2)).cell? ⟨w.heap.size + 1 + 1 + 1 + 1, 0, none⟩ = some (.string bx) := Kb18.out.cell 0
      have db1 : ((wf16.setCell ⟨GY, 0, none⟩ (.string v1)).setCell ⟨GY, 1, none⟩ (.string v2)).cell? ⟨w.heap.size + 1 + 1 + 1 + 1, 1, none⟩ = some (.string bz) := Kb18.out.cell 1
      have dc0 : ((wf16.setCell ⟨GY, 0, none⟩ (.string v1)).setCell ⟨GY, 1, none⟩ (.string v2)).cell? ⟨w.heap.size + 1 + 1 + 1 + 1 + 1, 0, none⟩ = some (.string cx) := Kc18.out.cell 0
      have dc1 : ((wf16.setCell ⟨GY, 0, none⟩ (.string v1)).setCell ⟨GY, 1, none⟩ (.string v2)).cell? ⟨w.heap.size + 1 + 1 + 1 + 1 + 1, 1, none⟩ = some (.string cy) := Kc18.out.cell 1
      go_wp2_with fail
      generalize ((wf16.setCell ⟨GY, 0, none⟩ (.string v1)).setCell ⟨GY, 1, none⟩ (.string v2)) = wp18 at *
      clear dY0 dY1 da0 da1 db0 db1 dc0 dc1 eY0 eY1
      refine (angSeen_walk (ax := ax) (ay := ay) (bx := bx) (bz := bz) (px := cx) (pz := cy) S9.out S10.out S11.out S12.out S13.out S14.out F9.out F10.out F11.out F12.out F13.out F14.out (by decide) (HT0.out.below HW18.out)).mono ?_
      rintro _ wf19 ⟨hb, k1, k2, ek, rfl, hans⟩
      have Ak := hideIt hans
      have Zk := hideIt (fac2_size hans (K := 33554477) (((F9.out.sub F13.out).mul (F11.out.sub F13.out)).sub ((F10.out.sub F14.out).neg.mul (F12.out.sub F14.out))) (((F9.out.sub F13.out).mul (F12.out.sub F14.out)).add ((F10.out.sub F14.out).neg.mul (F11.out.sub F13.out))))
      clear hans
      have HW20 := hideIt (HW18.out.trans (hb.mono HW18.out.size))
      have Kl20 := hideIt (Kl18.out.below hb Kl18.out.lt)
      have Km20 := hideIt (Km18.out.below hb Km18.out.lt)
      have Kn20 := hideIt (Kn18.out.below hb Kn18.out.lt)
      have Ka20 := hideIt (Ka18.out.below hb Ka18.out.lt)
      have Kb20 := hideIt (Kb18.out.below hb Kb18.out.lt)
      have Kc20 := hideIt (Kc18.out.below hb Kc18.out.lt)
      have KV20 := hideIt (KV18.out.below hb KV18.out.lt)
      have KX20 := hideIt (KX18.out.below hb KX18.out.lt)
      have KY20 := hideIt (KY18.out.below hb KY18.out.lt)
      have KZ20 := hideIt (KZ18.out.below hb KZ18.out.lt)
      clear hb
      have dZ0 : wf19.cell? ⟨GZ, 0, none⟩ = some (.string z1) := KZ20.out.cell 0
      have eZ0 : wf19.frozen? ⟨GZ, 0, none⟩ = false := KZ20.out.frozen 0
      have dZ1 : wf19.cell? ⟨GZ, 1, none⟩ = some (.string z2) := KZ20.out.cell 1
      have eZ1 : wf19.frozen? ⟨GZ, 1, none⟩ = false := KZ20.out.frozen 1
      have HW21 := hideIt (Below.put2 HW20.out GEZ.out (.string k1) (.string k2) (g := GZ))
      have Kl21 := hideIt (Kl20.out.off2 (g := GZ) (NEZl.out) (.string k1) (.string k2))
      have Km21 := hideIt (Km20.out.off2 (g := GZ) (NEZm.out) (.string k1) (.string k2))
      have Kn21 := hideIt (Kn20.out.off2 (g := GZ) (NEZn.out) (.string k1) (.string k2))
      have Ka21 := hideIt (Ka20.out.off2 (g := GZ) (NEZa.out) (.string k1) (.string k2))
      have Kb21 := hideIt (Kb20.out.off2 (g := GZ) (NEZb.out) (.string k1) (.string k2))
      have Kc21 := hideIt (Kc20.out.off2 (g := GZ) (NEZc.out) (.string k1) (.string k2))
      have KV21 := hideIt (KV20.out.off2 (g := GZ) (NEZV.out) (.string k1) (.string k2))
      have KX21 := hideIt (KX20.out.off2 (g := GZ) (NEZX.out) (.string k1) (.string k2))
      have KY21 := hideIt (KY20.out.off2 (g := GZ) (NEZY.out) (.string k1) (.string k2))
      have KZ21 := hideIt (KZ20.out.put2 (.string k1) (.string k2))
      go_wp2_with fail
      generalize ((wf19.setCell ⟨GZ, 0, none⟩ (.string k1)).setCell ⟨GZ, 1, none⟩ (.string k2)) = wp21 at *
      clear dZ0 dZ1 eZ0 eZ1
      refine (angled_calls wp21 (HT0.out.below HW21.out)).mono ?_
      rintro _ wf22 ⟨hb, rfl⟩
      have HW23 := hideIt (HW21.out.trans (hb.mono HW21.out.size))
      have Kl23 := hideIt (Kl21.out.below hb Kl21.out.lt)
      have Km23 := hideIt (Km21.out.below hb Km21.out.lt)
      have Kn23 := hideIt (Kn21.out.below hb Kn21.out.lt)
      have Ka23 := hideIt (Ka21.out.below hb Ka21.out.lt)
      have Kb23 := hideIt (Kb21.out.below hb Kb21.out.lt)
      have Kc23 := hideIt (Kc21.out.below hb Kc21.out.lt)
      have KV23 := hideIt (KV21.out.below hb KV21.out.lt)
      have KX23 := hideIt (KX21.out.below hb KX21.out.lt)
      have KY23 := hideIt (KY21.out.below hb KY21.out.lt)
      have KZ23 := hideIt (KZ21.out.below hb KZ21.out.lt)
      clear hb
      rcases Au.out with ⟨_, heu, _⟩ | ⟨nu, heu, esu, ecu⟩
      · subst heu
        go_wp2_with fail
        refine (angled_calls wf22 (HT0.out.below HW23.out)).mono ?_
        rintro _ wf24 ⟨hb, rfl⟩
        have HW25 := hideIt (HW23.out.trans (hb.mono HW23.out.size))
        have Kl25 := hideIt (Kl23.out.below hb Kl23.out.lt)
        have Km25 := hideIt (Km23.out.below hb Km23.out.lt)
        have Kn25 := hideIt (Kn23.out.below hb Kn23.out.lt)
        have Ka25 := hideIt (Ka23.out.below hb Ka23.out.lt)
        have Kb25 := hideIt (Kb23.out.below hb Kb23.out.lt)
        have Kc25 := hideIt (Kc23.out.below hb Kc23.out.lt)
        have KV25 := hideIt (KV23.out.below hb KV23.out.lt)
        have KX25 := hideIt (KX23.out.below hb KX23.out.lt)
        have KY25 := hideIt (KY23.out.below hb KY23.out.lt)
        have KZ25 := hideIt (KZ23.out.below hb KZ23.out.lt)
        clear hb
        go_wp2
        go_ret
        exact ⟨HW25.out, rfl⟩
      · subst heu
        have Nu := hideIt nu
        have Eu := hideIt (And.intro esu ecu)
        clear nu esu ecu
        rcases Av.out with ⟨_, hev, _⟩ | ⟨nv, hev, esv, ecv⟩
        · subst hev
          go_wp2_with fail
          refine (angled_calls wf22 (HT0.out.below HW23.out)).mono ?_
          rintro _ wf24 ⟨hb, rfl⟩
          have HW25 := hideIt (HW23.out.trans (hb.mono HW23.out.size))
          have Kl25 := hideIt (Kl23.out.below hb Kl23.out.lt)
          have Km25 := hideIt (Km23.out.below hb Km23.out.lt)
          have Kn25 := hideIt (Kn23.out.below hb Kn23.out.lt)
          have Ka25 := hideIt (Ka23.out.below hb Ka23.out.lt)
          have Kb25 := hideIt (Kb23.out.below hb Kb23.out.lt)
          have Kc25 := hideIt (Kc23.out.below hb Kc23.out.lt)
          have KV25 := hideIt (KV23.out.below hb KV23.out.lt)
          have KX25 := hideIt (KX23.out.below hb KX23.out.lt)
          have KY25 := hideIt (KY23.out.below hb KY23.out.lt)
          have KZ25 := hideIt (KZ23.out.below hb KZ23.out.lt)
          clear hb
          go_wp2
          go_ret
          exact ⟨HW25.out, rfl⟩
        · subst hev
          have Nv := hideIt nv
          have Ev := hideIt (And.intro esv ecv)
          clear nv esv ecv
          rcases Ak.out with ⟨_, hek, _⟩ | ⟨nk, hek, esk, eck⟩
          · subst hek
            go_wp2_with fail
            refine (angled_calls wf22 (HT0.out.below HW23.out)).mono ?_
            rintro _ wf24 ⟨hb, rfl⟩
            have HW25 := hideIt (HW23.out.trans (hb.mono HW23.out.size))
            have Kl25 := hideIt (Kl23.out.below hb Kl23.out.lt)
            have Km25 := hideIt (Km23.out.below hb Km23.out.lt)
            have Kn25 := hideIt (Kn23.out.below hb Kn23.out.lt)
            have Ka25 := hideIt (Ka23.out.below hb Ka23.out.lt)
            have Kb25 := hideIt (Kb23.out.below hb Kb23.out.lt)
            have Kc25 := hideIt (Kc23.out.below hb Kc23.out.lt)
            have KV25 := hideIt (KV23.out.below hb KV23.out.lt)
            have KX25 := hideIt (KX23.out.below hb KX23.out.lt)
            have KY25 := hideIt (KY23.out.below hb KY23.out.lt)
            have KZ25 := hideIt (KZ23.out.below hb KZ23.out.lt)
            clear hb
            go_wp2
            go_ret
            exact ⟨HW25.out, rfl⟩
          · subst hek
            have Nk := hideIt nk
            have Ek := hideIt (And.intro esk eck)
            clear nk esk eck
            have Qu : Hid (QS 100663432 (rd u2.data.toList) ∧ QS 100663432 (rd u1.data.toList) ∧ u2.data.toList.length ≤ 4294967296 ∧ u1.data.toList.length ≤ 4294967296 ∧ True) := by
              obtain ⟨h1, h2, h3, h4⟩ := Zu.out
              exact ⟨h1.mono (by omega), h2.mono (by omega), by omega, by omega, trivial⟩
            have Qv : Hid (QS 100663432 (rd v2.data.toList) ∧ QS 100663432 (rd v1.data.toList) ∧ v2.data.toList.length ≤ 4294967296 ∧ v1.data.toList.length ≤ 4294967296 ∧ True) := by
              obtain ⟨h1, h2, h3, h4⟩ := Zv.out
              exact ⟨h1.mono (by omega), h2.mono (by omega), by omega, by omega, trivial⟩
            have Qk : Hid (QS 100663432 (rd k2.data.toList) ∧ QS 100663432 (rd k1.data.toList) ∧ k2.data.toList.length ≤ 4294967296 ∧ k1.data.toList.length ≤ 4294967296 ∧ True) := by
              obtain ⟨h1, h2, h3, h4⟩ := Zk.out
              exact ⟨h1.mono (by omega), h2.mono (by omega), by omega, by omega, trivial⟩
            have dX0 : wf22.cell? ⟨GX, 0, none⟩ = some (.string u1) := KX23.out.cell 0
            have dX1 : wf22.cell? ⟨GX, 1, none⟩ = some (.string u2) := KX23.out.cell 1
            have dY0 : wf22.cell? ⟨GY, 0, none⟩ = some (.string v1) := KY23.out.cell 0
            have dY1 : wf22.cell? ⟨GY, 1, none⟩ = some (.string v2) := KY23.out.cell 1
            go_wp2_with fail
            refine (angSum_calls (va := .agg #[.string u1, .string u2]) (vb := .agg #[.string v1, .string v2]) ⟨u1, u2, rfl, rfl, rfl⟩ ⟨v1, v2, rfl, rfl, rfl⟩ Qu.out.2.2.2.1 Qu.out.2.2.1 Qv.out.2.2.2.1 Qv.out.2.2.1 (k := 100663432) Qu.out.1 Qu.out.2.1 Qv.out.1 Qv.out.2.1 (by decide) (HT0.out.below HW23.out)).mono ?_
            rintro _ wf24 ⟨hb, s1, s2, h, rfl, hans⟩
            have As := hideIt hans
            clear hans
            have HW25 := hideIt (HW23.out.trans (hb.mono HW23.out.size))
            have Kl25 := hideIt (Kl23.out.below hb Kl23.out.lt)
            have Km25 := hideIt (Km23.out.below hb Km23.out.lt)
            have Kn25 := hideIt (Kn23.out.below hb Kn23.out.lt)
            have Ka25 := hideIt (Ka23.out.below hb Ka23.out.lt)
            have Kb25 := hideIt (Kb23.out.below hb Kb23.out.lt)
            have Kc25 := hideIt (Kc23.out.below hb Kc23.out.lt)
            have KV25 := hideIt (KV23.out.below hb KV23.out.lt)
            have KX25 := hideIt (KX23.out.below hb KX23.out.lt)
            have KY25 := hideIt (KY23.out.below hb KY23.out.lt)
            have KZ25 := hideIt (KZ23.out.below hb KZ23.out.lt)
            clear hb
            clear dX0 dX1 dY0 dY1
            have Zs := hideIt (fac2_size As.out (K := 402653729) ((Qu.out.1.mul Qv.out.1).sub (Qu.out.2.1.mul Qv.out.2.1)) ((Qu.out.1.mul Qv.out.2.1).add (Qu.out.2.1.mul Qv.out.1)))
            have cZ0 : ∀ o, (wf24.alloc o).cell? ⟨GZ, 0, none⟩ = some (.string k1) := fun o => (KZ25.out.old o).cell 0
            have dZ0 : wf24.cell? ⟨GZ, 0, none⟩ = some (.string k1) := KZ25.out.cell 0
            have cZ1 : ∀ o, (wf24.alloc o).cell? ⟨GZ, 1, none⟩ = some (.string k2) := fun o => (KZ25.out.old o).cell 1
            have dZ1 : wf24.cell? ⟨GZ, 1, none⟩ = some (.string k2) := KZ25.out.cell 1
            go_wp2_with fail
            obtain ⟨wb26, hwb26⟩ : ∃ wb26, wb26 = wf24.alloc (.cells #[.string s1, .string s2] 28) := ⟨_, rfl⟩
            have hbA := below_new wf24 (.cells #[.string s1, .string s2] 28)
            have KN := hideIt (Blk.new wf24 #[.string s1, .string s2] 28)
            rw [← hwb26] at hbA KN ⊢
            obtain ⟨GSF, hGSF⟩ : ∃ GSF, GSF = wf24.heap.size := ⟨_, rfl⟩
            rw [← hGSF] at KN ⊢
            have NESFl : Hid (GSF ≠ w.heap.size) := by have := Kl25.out.lt; rw [hGSF]; exact Nat.ne_of_gt this
            have NESFm : Hid (GSF ≠ w.heap.size + 1) := by have := Km25.out.lt; rw [hGSF]; exact Nat.ne_of_gt this
            have NESFn : Hid (GSF ≠ w.heap.size + 1 + 1) := by have := Kn25.out.lt; rw [hGSF]; exact Nat.ne_of_gt this
            have NESFa : Hid (GSF ≠ w.heap.size + 1 + 1 + 1) := by have := Ka25.out.lt; rw [hGSF]; exact Nat.ne_of_gt this
            have NESFb : Hid (GSF ≠ w.heap.size + 1 + 1 + 1 + 1) := by have := Kb25.out.lt; rw [hGSF]; exact Nat.ne_of_gt this
            have NESFc : Hid (GSF ≠ w.heap.size + 1 + 1 + 1 + 1 + 1) := by have := Kc25.out.lt; rw [hGSF]; exact Nat.ne_of_gt this
            have NESFV : Hid (GSF ≠ w.heap.size + 1 + 1 + 1 + 1 + 1 + 1) := by have := KV25.out.lt; rw [hGSF]; exact Nat.ne_of_gt this
            have NESFX : Hid (GSF ≠ GX) := by have := KX25.out.lt; rw [hGSF]; exact Nat.ne_of_gt this
            have NESFY : Hid (GSF ≠ GY) := by have := KY25.out.lt; rw [hGSF]; exact Nat.ne_of_gt this
            have NESFZ : Hid (GSF ≠ GZ) := by have := KZ25.out.lt; rw [hGSF]; exact Nat.ne_of_gt this
            have GESF : Hid (w.heap.size ≤ GSF) := by have := HW25.out.size; rw [hGSF]; exact this
            clear hGSF hwb26 cZ0 dZ0 cZ1 dZ1
            have HW27 := hideIt (HW25.out.trans (hbA.mono HW25.out.size))
            have Kl27 := hideIt (Kl25.out.below hbA Kl25.out.lt)
            have Km27 := hideIt (Km25.out.below hbA Km25.out.lt)
            have Kn27 := hideIt (Kn25.out.below hbA Kn25.out.lt)
            have Ka27 := hideIt (Ka25.out.below hbA Ka25.out.lt)
            have Kb27 := hideIt (Kb25.out.below hbA Kb25.out.lt)
            have Kc27 := hideIt (Kc25.out.below hbA Kc25.out.lt)
            have KV27 := hideIt (KV25.out.below hbA KV25.out.lt)
            have KX27 := hideIt (KX25.out.below hbA KX25.out.lt)
            have KY27 := hideIt (KY25.out.below hbA KY25.out.lt)
            have KZ27 := hideIt (KZ25.out.below hbA KZ25.out.lt)
            have KSFn26 := hideIt KN.out
            clear hbA KN
            have Qs : Hid (QS 1207961188 (rd s2.data.toList) ∧ QS 1207961188 (rd s1.data.toList) ∧ s2.data.toList.length ≤ 4294967296 ∧ s1.data.toList.length ≤ 4294967296 ∧ True) := by
              obtain ⟨h1, h2, h3, h4⟩ := Zs.out
              exact ⟨h1.mono (by omega), h2.mono (by omega), by omega, by omega, trivial⟩
            have Rk : Hid (QS 1207961188 (rd k2.data.toList) ∧ QS 1207961188 (rd k1.data.toList) ∧ k2.data.toList.length ≤ 4294967296 ∧ k1.data.toList.length ≤ 4294967296 ∧ True) := ⟨Qk.out.1.mono (by omega), Qk.out.2.1.mono (by omega), Qk.out.2.2⟩
            refine (angSum_calls (va := .agg #[.string s1, .string s2]) (vb := .agg #[.string k1, .string k2]) ⟨s1, s2, rfl, rfl, rfl⟩ ⟨k1, k2, rfl, rfl, rfl⟩ Qs.out.2.2.2.1 Qs.out.2.2.1 Rk.out.2.2.2.1 Rk.out.2.2.1 (k := 1207961188) Qs.out.1 Qs.out.2.1 Rk.out.1 Rk.out.2.1 (by decide) (HT0.out.below HW27.out)).mono ?_
            rintro _ wf28 ⟨hb, t1, t2, i, rfl, hans⟩
            have At := hideIt hans
            clear hans
            have HW29 := hideIt (HW27.out.trans (hb.mono HW27.out.size))
            have Kl29 := hideIt (Kl27.out.below hb Kl27.out.lt)
            have Km29 := hideIt (Km27.out.below hb Km27.out.lt)
            have Kn29 := hideIt (Kn27.out.below hb Kn27.out.lt)
            have Ka29 := hideIt (Ka27.out.below hb Ka27.out.lt)
            have Kb29 := hideIt (Kb27.out.below hb Kb27.out.lt)
            have Kc29 := hideIt (Kc27.out.below hb Kc27.out.lt)
            have KV29 := hideIt (KV27.out.below hb KV27.out.lt)
            have KX29 := hideIt (KX27.out.below hb KX27.out.lt)
            have KY29 := hideIt (KY27.out.below hb KY27.out.lt)
            have KZ29 := hideIt (KZ27.out.below hb KZ27.out.lt)
            have KSF29 := hideIt (KSFn26.out.below hb KSFn26.out.lt)
            clear hb
            obtain ⟨hh, hi, e1, e2⟩ := three (conj_ne Nu.out) (conj_ne Nv.out) (conj_ne Nk.out) (tri_im _ _ _ _ _ _) Eu.out Ev.out Ek.out As.out At.out
            subst hh
            subst hi
            obtain rfl := bytes_eq e1
            obtain rfl := bytes_eq e2
            clear e1 e2
            have cV0 : ∀ o, (wf28.alloc o).cell? ⟨w.heap.size + 1 + 1 + 1 + 1 + 1 + 1, 0, none⟩ = some (.string ⟨#[48]⟩) := fun o => (KV29.out.old o).cell 0
            have dV0 : wf28.cell? ⟨w.heap.size + 1 + 1 + 1 + 1 + 1 + 1, 0, none⟩ = some (.string ⟨#[48]⟩) := KV29.out.cell 0
            have cV1 : ∀ o, (wf28.alloc o).cell? ⟨w.heap.size + 1 + 1 + 1 + 1 + 1 + 1, 1, none⟩ = some (.string ⟨#[49]⟩) := fun o => (KV29.out.old o).cell 1
            have dV1 : wf28.cell? ⟨w.heap.size + 1 + 1 + 1 + 1 + 1 + 1, 1, none⟩ = some (.string ⟨#[49]⟩) := KV29.out.cell 1
            go_wp2
            go_ret
            exact ⟨HW29.out.alloc HW29.out.size _, rfl⟩
    · subst hey
      have Ny := hideIt ny
      have Ey := hideIt (And.intro esy ecy)
      clear ny esy ecy
      rcases Az.out with ⟨_, hez, _⟩ | ⟨nz, hez, esz, ecz⟩
      · subst hez
        have cb0 : ∀ o, (wf9.alloc o).cell? ⟨w.heap.size + 1 + 1 + 1 + 1, 0, none⟩ = some (.string bx) := fun o => (Kb10.out.old o).cell 0
        have db0 : wf9.cell? ⟨w.heap.size + 1 + 1 + 1 + 1, 0, none⟩ = some (.string bx) := Kb10.out.cell 0
        have cb1 : ∀ o, (wf9.alloc o).cell? ⟨w.heap.size + 1 + 1 + 1 + 1, 1, none⟩ = some (.string bz) := fun o => (Kb10.out.old o).cell 1
        have db1 : wf9.cell? ⟨w.heap.size + 1 + 1 + 1 + 1, 1, none⟩ = some (.string bz) := Kb10.out.cell 1
        have cc0 : ∀ o, (wf9.alloc o).cell? ⟨w.heap.size + 1 + 1 + 1 + 1 + 1, 0, none⟩ = some (.string cx) := fun o => (Kc10.out.old o).cell 0
        have dc0 : wf9.cell? ⟨w.heap.size + 1 + 1 + 1 + 1 + 1, 0, none⟩ = some (.string cx) := Kc10.out.cell 0
        have cc1 : ∀ o, (wf9.alloc o).cell? ⟨w.heap.size + 1 + 1 + 1 + 1 + 1, 1, none⟩ = some (.string cy) := fun o => (Kc10.out.old o).cell 1
        have dc1 : wf9.cell? ⟨w.heap.size + 1 + 1 + 1 + 1 + 1, 1, none⟩ = some (.string cy) := Kc10.out.cell 1
        have ca0 : ∀ o, (wf9.alloc o).cell? ⟨w.heap.size + 1 + 1 + 1, 0, none⟩ = some (.string ax) := fun o => (Ka10.out.old o).cell 0
        have da0 : wf9.cell? ⟨w.heap.size + 1 + 1 + 1, 0, none⟩ = some (.string ax) := Ka10.out.cell 0
        have ca1 : ∀ o, (wf9.alloc o).cell? ⟨w.heap.size + 1 + 1 + 1, 1, none⟩ = some (.string ay) := fun o => (Ka10.out.old o).cell 1
        have da1 : wf9.cell? ⟨w.heap.size + 1 + 1 + 1, 1, none⟩ = some (.string ay) := Ka10.out.cell 1
        go_wp2_with fail
        obtain ⟨wb11, hwb11⟩ : ∃ wb11, wb11 = wf9.alloc (.cells #[.string z1, .string z2] 28) := ⟨_, rfl⟩
        have hbA := below_new wf9 (.cells #[.string z1, .string z2] 28)
        have KN := hideIt (Blk.new wf9 #[.string z1, .string z2] 28)
        rw [← hwb11] at hbA KN ⊢
        obtain ⟨GZ, hGZ⟩ : ∃ GZ, GZ = wf9.heap.size := ⟨_, rfl⟩
        rw [← hGZ] at KN ⊢
        have NEZl : Hid (GZ ≠ w.heap.size) := by have := Kl10.out.lt; rw [hGZ]; exact Nat.ne_of_gt this
        have NEZm : Hid (GZ ≠ w.heap.size + 1) := by have := Km10.out.lt; rw [hGZ]; exact Nat.ne_of_gt this
        have NEZn : Hid (GZ ≠ w.heap.size + 1 + 1) := by have := Kn10.out.lt; rw [hGZ]; exact Nat.ne_of_gt this
        have NEZa : Hid (GZ ≠ w.heap.size + 1 + 1 + 1) := by have := Ka10.out.lt; rw [hGZ]; exact Nat.ne_of_gt this
        have NEZb : Hid (GZ ≠ w.heap.size + 1 + 1 + 1 + 1) := by have := Kb10.out.lt; rw [hGZ]; exact Nat.ne_of_gt this
        have NEZc : Hid (GZ ≠ w.heap.size + 1 + 1 + 1 + 1 + 1) := by have := Kc10.out.lt; rw [hGZ]; exact Nat.ne_of_gt this
        have NEZV : Hid (GZ ≠ w.heap.size + 1 + 1 + 1 + 1 + 1 + 1) := by have := KV10.out.lt; rw [hGZ]; exact Nat.ne_of_gt this
        have NEZX : Hid (GZ ≠ GX) := by have := KX10.out.lt; rw [hGZ]; exact Nat.ne_of_gt this
        have NEZY : Hid (GZ ≠ GY) := by have := KY10.out.lt; rw [hGZ]; exact Nat.ne_of_gt this
        have GEZ : Hid (w.heap.size ≤ GZ) := by have := HW10.out.size; rw [hGZ]; exact this
        clear hGZ hwb11 cb0 db0 cb1 db1 cc0 dc0 cc1 dc1 ca0 da0 ca1 da1
        have HW12 := hideIt (HW10.out.trans (hbA.mono HW10.out.size))
        have Kl12 := hideIt (Kl10.out.below hbA Kl10.out.lt)
        have Km12 := hideIt (Km10.out.below hbA Km10.out.lt)
        have Kn12 := hideIt (Kn10.out.below hbA Kn10.out.lt)
        have Ka12 := hideIt (Ka10.out.below hbA Ka10.out.lt)
        have Kb12 := hideIt (Kb10.out.below hbA Kb10.out.lt)
        have Kc12 := hideIt (Kc10.out.below hbA Kc10.out.lt)
        have KV12 := hideIt (KV10.out.below hbA KV10.out.lt)
        have KX12 := hideIt (KX10.out.below hbA KX10.out.lt)
        have KY12 := hideIt (KY10.out.below hbA KY10.out.lt)
        have KZn11 := hideIt KN.out
        clear hbA KN
        refine (angSeen_walk (ax := bx) (ay := bz) (bx := cx) (bz := cy) (px := ax) (pz := ay) S11.out S12.out S13.out S14.out S9.out S10.out F11.out F12.out F13.out F14.out F9.out F10.out (by decide) (HT0.out.below HW12.out)).mono ?_
        rintro _ wf13 ⟨hb, u1, u2, eu, rfl, hans⟩
        have Au := hideIt hans
        have Zu := hideIt (fac2_size hans (K := 33554477) (((F11.out.sub F9.out).mul (F13.out.sub F9.out)).sub ((F12.out.sub F10.out).neg.mul (F14.out.sub F10.out))) (((F11.out.sub F9.out).mul (F14.out.sub F10.out)).add ((F12.out.sub F10.out).neg.mul (F13.out.sub F9.out))))
        clear hans
        have HW14 := hideIt (HW12.out.trans (hb.mono HW12.out.size))
        have Kl14 := hideIt (Kl12.out.below hb Kl12.out.lt)
        have Km14 := hideIt (Km12.out.below hb Km12.out.lt)
        have Kn14 := hideIt (Kn12.out.below hb Kn12.out.lt)
        have Ka14 := hideIt (Ka12.out.below hb Ka12.out.lt)
        have Kb14 := hideIt (Kb12.out.below hb Kb12.out.lt)
        have Kc14 := hideIt (Kc12.out.below hb Kc12.out.lt)
        have KV14 := hideIt (KV12.out.below hb KV12.out.lt)
        have KX14 := hideIt (KX12.out.below hb KX12.out.lt)
        have KY14 := hideIt (KY12.out.below hb KY12.out.lt)
        have KZ14 := hideIt (KZn11.out.below hb KZn11.out.lt)
        clear hb
        have dX0 : wf13.cell? ⟨GX, 0, none⟩ = some (.string x1) := KX14.out.cell 0
        have eX0 : wf13.frozen? ⟨GX, 0, none⟩ = false := KX14.out.frozen 0
        have dX1 : wf13.cell? ⟨GX, 1, none⟩ = some (.string x2) := KX14.out.cell 1
        have eX1 : wf13.frozen? ⟨GX, 1, none⟩ = false := KX14.out.frozen 1
        have HW15 := hideIt (Below.put2 HW14.out GEX.out (.string u1) (.string u2) (g := GX))
        have Kl15 := hideIt (Kl14.out.off2 (g := GX) (NEXl.out) (.string u1) (.string u2))
        have Km15 := hideIt (Km14.out.off2 (g := GX) (NEXm.out) (.string u1) (.string u2))
        have Kn15 := hideIt (Kn14.out.off2 (g := GX) (NEXn.out) (.string u1) (.string u2))
        have Ka15 := hideIt (Ka14.out.off2 (g := GX) (NEXa.out) (.string u1) (.string u2))
        have Kb15 := hideIt (Kb14.out.off2 (g := GX) (NEXb.out) (.string u1) (.string u2))
        have Kc15 := hideIt (Kc14.out.off2 (g := GX) (NEXc.out) (.string u1) (.string u2))
        have KV15 := hideIt (KV14.out.off2 (g := GX) (NEXV.out) (.string u1) (.string u2))
        have KX15 := hideIt (KX14.out.put2 (.string u1) (.string u2))
        have KY15 := hideIt (KY14.out.off2 (g := GX) (NEYX.out.symm) (.string u1) (.string u2))
        have KZ15 := hideIt (KZ14.out.off2 (g := GX) (NEZX.out.symm) (.string u1) (.string u2))
        have dc0 : ((wf13.setCell ⟨GX, 0, none⟩ (.string u1)).setCell ⟨GX, 1, none⟩ (.string u2)).cell? ⟨w.heap.size + 1 + 1 + 1 + 1 + 1, 0, none⟩ = some (.string cx) := Kc15.out.cell 0
        have dc1 : ((wf13.setCell ⟨GX, 0, none⟩ (.string u1)).setCell ⟨GX, 1, none⟩ (.string u2)).cell? ⟨w.heap.size + 1 + 1 + 1 + 1 + 1, 1, none⟩ = some (.string cy) := Kc15.out.cell 1
        have da0 : ((wf13.setCell ⟨GX, 0, none⟩ (.string u1)).setCell ⟨GX, 1, none⟩ (.string u2)).cell? ⟨w.heap.size + 1 + 1 + 1, 0, none⟩ = some (.string ax) := Ka15.out.cell 0
        have da1 : ((wf13.setCell ⟨GX, 0, none⟩ (.string u1)).setCell ⟨GX, 1, none⟩ (.string u2)).cell? ⟨w.heap.size + 1 + 1 + 1, 1, none⟩ = some (.string ay) := Ka15.out.cell 1
        have db0 : ((wf13.setCell ⟨GX, 0, none⟩ (.string u1)).setCell ⟨GX, 1, none⟩ (.string u2)).cell? ⟨w.heap.size + 1 + 1 + 1 + 1, 0, none⟩ = some (.string bx) := Kb15.out.cell 0
        have db1 : ((wf13.setCell ⟨GX, 0, none⟩ (.string u1)).setCell ⟨GX, 1, none⟩ (.string u2)).cell? ⟨w.heap.size + 1 + 1 + 1 + 1, 1, none⟩ = some (.string bz) := Kb15.out.cell 1
        go_wp2_with fail
        generalize ((wf13.setCell ⟨GX, 0, none⟩ (.string u1)).setCell ⟨GX, 1, none⟩ (.string u2)) = wp15 at *
        clear dX0 dX1 da0 da1 db0 db1 dc0 dc1 eX0 eX1
        refine (angSeen_walk (ax := cx) (ay := cy) (bx := ax) (bz := ay) (px := bx) (pz := bz) S13.out S14.out S9.out S10.out S11.out S12.out F13.out F14.out F9.out F10.out F11.out F12.out (by decide) (HT0.out.below HW15.out)).mono ?_
        rintro _ wf16 ⟨hb, v1, v2, ev, rfl, hans⟩
        have Av := hideIt hans
        have Zv := hideIt (fac2_size hans (K := 33554477) (((F13.out.sub F11.out).mul (F9.out.sub F11.out)).sub ((F14.out.sub F12.out).neg.mul (F10.out.sub F12.out))) (((F13.out.sub F11.out).mul (F10.out.sub F12.out)).add ((F14.out.sub F12.out).neg.mul (F9.out.sub F11.out))))
        clear hans
        have HW17 := hideIt (HW15.out.trans (hb.mono HW15.out.size))
        have Kl17 := hideIt (Kl15.out.below hb Kl15.out.lt)
        have Km17 := hideIt (Km15.out.below hb Km15.out.lt)
        have Kn17 := hideIt (Kn15.out.below hb Kn15.out.lt)
        have Ka17 := hideIt (Ka15.out.below hb Ka15.out.lt)
        have Kb17 := hideIt (Kb15.out.below hb Kb15.out.lt)
        have Kc17 := hideIt (Kc15.out.below hb Kc15.out.lt)
        have KV17 := hideIt (KV15.out.below hb KV15.out.lt)
        have KX17 := hideIt (KX15.out.below hb KX15.out.lt)
        have KY17 := hideIt (KY15.out.below hb KY15.out.lt)
        have KZ17 := hideIt (KZ15.out.below hb KZ15.out.lt)
        clear hb
        have dY0 : wf16.cell? ⟨GY, 0, none⟩ = some (.string y1) := KY17.out.cell 0
        have eY0 : wf16.frozen? ⟨GY, 0, none⟩ = false := KY17.out.frozen 0
        have dY1 : wf16.cell? ⟨GY, 1, none⟩ = some (.string y2) := KY17.out.cell 1
        have eY1 : wf16.frozen? ⟨GY, 1, none⟩ = false := KY17.out.frozen 1
        have HW18 := hideIt (Below.put2 HW17.out GEY.out (.string v1) (.string v2) (g := GY))
        have Kl18 := hideIt (Kl17.out.off2 (g := GY) (NEYl.out) (.string v1) (.string v2))
        have Km18 := hideIt (Km17.out.off2 (g := GY) (NEYm.out) (.string v1) (.string v2))
        have Kn18 := hideIt (Kn17.out.off2 (g := GY) (NEYn.out) (.string v1) (.string v2))
        have Ka18 := hideIt (Ka17.out.off2 (g := GY) (NEYa.out) (.string v1) (.string v2))
        have Kb18 := hideIt (Kb17.out.off2 (g := GY) (NEYb.out) (.string v1) (.string v2))
        have Kc18 := hideIt (Kc17.out.off2 (g := GY) (NEYc.out) (.string v1) (.string v2))
        have KV18 := hideIt (KV17.out.off2 (g := GY) (NEYV.out) (.string v1) (.string v2))
        have KX18 := hideIt (KX17.out.off2 (g := GY) (NEYX.out) (.string v1) (.string v2))
        have KY18 := hideIt (KY17.out.put2 (.string v1) (.string v2))
        have KZ18 := hideIt (KZ17.out.off2 (g := GY) (NEZY.out.symm) (.string v1) (.string v2))
        have da0 : ((wf16.setCell ⟨GY, 0, none⟩ (.string v1)).setCell ⟨GY, 1, none⟩ (.string v2)).cell? ⟨w.heap.size + 1 + 1 + 1, 0, none⟩ = some (.string ax) := Ka18.out.cell 0
        have da1 : ((wf16.setCell ⟨GY, 0, none⟩ (.string v1)).setCell ⟨GY, 1, none⟩ (.string v2)).cell? ⟨w.heap.size + 1 + 1 + 1, 1, none⟩ = some (.string ay) := Ka18.out.cell 1
        have db0 : ((wf16.setCell ⟨GY, 0, none⟩ (.string v1)).setCell ⟨GY, 1, none⟩ (.string v2)).cell? ⟨w.heap.size + 1 + 1 + 1 + 1, 0, none⟩ = some (.string bx) := Kb18.out.cell 0
        have db1 : ((wf16.setCell ⟨GY, 0, none⟩ (.string v1)).setCell ⟨GY, 1, none⟩ (.string v2)).cell? ⟨w.heap.size + 1 + 1 + 1 + 1, 1, none⟩ = some (.string bz) := Kb18.out.cell 1
        have dc0 : ((wf16.setCell ⟨GY, 0, none⟩ (.string v1)).setCell ⟨GY, 1, none⟩ (.string v2)).cell? ⟨w.heap.size + 1 + 1 + 1 + 1 + 1, 0, none⟩ = some (.string cx) := Kc18.out.cell 0
        have dc1 : ((wf16.setCell ⟨GY, 0, none⟩ (.string v1)).setCell ⟨GY, 1, none⟩ (.string v2)).cell? ⟨w.heap.size + 1 + 1 + 1 + 1 + 1, 1, none⟩ = some (.string cy) := Kc18.out.cell 1
        go_wp2_with fail
        generalize ((wf16.setCell ⟨GY, 0, none⟩ (.string v1)).setCell ⟨GY, 1, none⟩ (.string v2)) = wp18 at *
        clear dY0 dY1 da0 da1 db0 db1 dc0 dc1 eY0 eY1
        refine (angSeen_walk (ax := ax) (ay := ay) (bx := bx) (bz := bz) (px := cx) (pz := cy) S9.out S10.out S11.out S12.out S13.out S14.out F9.out F10.out F11.out F12.out F13.out F14.out (by decide) (HT0.out.below HW18.out)).mono ?_
        rintro _ wf19 ⟨hb, k1, k2, ek, rfl, hans⟩
        have Ak := hideIt hans
        have Zk := hideIt (fac2_size hans (K := 33554477) (((F9.out.sub F13.out).mul (F11.out.sub F13.out)).sub ((F10.out.sub F14.out).neg.mul (F12.out.sub F14.out))) (((F9.out.sub F13.out).mul (F12.out.sub F14.out)).add ((F10.out.sub F14.out).neg.mul (F11.out.sub F13.out))))
        clear hans
        have HW20 := hideIt (HW18.out.trans (hb.mono HW18.out.size))
        have Kl20 := hideIt (Kl18.out.below hb Kl18.out.lt)
        have Km20 := hideIt (Km18.out.below hb Km18.out.lt)
        have Kn20 := hideIt (Kn18.out.below hb Kn18.out.lt)
        have Ka20 := hideIt (Ka18.out.below hb Ka18.out.lt)
        have Kb20 := hideIt (Kb18.out.below hb Kb18.out.lt)
        have Kc20 := hideIt (Kc18.out.below hb Kc18.out.lt)
        have KV20 := hideIt (KV18.out.below hb KV18.out.lt)
        have KX20 := hideIt (KX18.out.below hb KX18.out.lt)
        have KY20 := hideIt (KY18.out.below hb KY18.out.lt)
        have KZ20 := hideIt (KZ18.out.below hb KZ18.out.lt)
        clear hb
        have dZ0 : wf19.cell? ⟨GZ, 0, none⟩ = some (.string z1) := KZ20.out.cell 0
        have eZ0 : wf19.frozen? ⟨GZ, 0, none⟩ = false := KZ20.out.frozen 0
        have dZ1 : wf19.cell? ⟨GZ, 1, none⟩ = some (.string z2) := KZ20.out.cell 1
        have eZ1 : wf19.frozen? ⟨GZ, 1, none⟩ = false := KZ20.out.frozen 1
        have HW21 := hideIt (Below.put2 HW20.out GEZ.out (.string k1) (.string k2) (g := GZ))
        have Kl21 := hideIt (Kl20.out.off2 (g := GZ) (NEZl.out) (.string k1) (.string k2))
        have Km21 := hideIt (Km20.out.off2 (g := GZ) (NEZm.out) (.string k1) (.string k2))
        have Kn21 := hideIt (Kn20.out.off2 (g := GZ) (NEZn.out) (.string k1) (.string k2))
        have Ka21 := hideIt (Ka20.out.off2 (g := GZ) (NEZa.out) (.string k1) (.string k2))
        have Kb21 := hideIt (Kb20.out.off2 (g := GZ) (NEZb.out) (.string k1) (.string k2))
        have Kc21 := hideIt (Kc20.out.off2 (g := GZ) (NEZc.out) (.string k1) (.string k2))
        have KV21 := hideIt (KV20.out.off2 (g := GZ) (NEZV.out) (.string k1) (.string k2))
        have KX21 := hideIt (KX20.out.off2 (g := GZ) (NEZX.out) (.string k1) (.string k2))
        have KY21 := hideIt (KY20.out.off2 (g := GZ) (NEZY.out) (.string k1) (.string k2))
        have KZ21 := hideIt (KZ20.out.put2 (.string k1) (.string k2))
        go_wp2_with fail
        generalize ((wf19.setCell ⟨GZ, 0, none⟩ (.string k1)).setCell ⟨GZ, 1, none⟩ (.string k2)) = wp21 at *
        clear dZ0 dZ1 eZ0 eZ1
        refine (angled_calls wp21 (HT0.out.below HW21.out)).mono ?_
        rintro _ wf22 ⟨hb, rfl⟩
        have HW23 := hideIt (HW21.out.trans (hb.mono HW21.out.size))
        have Kl23 := hideIt (Kl21.out.below hb Kl21.out.lt)
        have Km23 := hideIt (Km21.out.below hb Km21.out.lt)
        have Kn23 := hideIt (Kn21.out.below hb Kn21.out.lt)
        have Ka23 := hideIt (Ka21.out.below hb Ka21.out.lt)
        have Kb23 := hideIt (Kb21.out.below hb Kb21.out.lt)
        have Kc23 := hideIt (Kc21.out.below hb Kc21.out.lt)
        have KV23 := hideIt (KV21.out.below hb KV21.out.lt)
        have KX23 := hideIt (KX21.out.below hb KX21.out.lt)
        have KY23 := hideIt (KY21.out.below hb KY21.out.lt)
        have KZ23 := hideIt (KZ21.out.below hb KZ21.out.lt)
        clear hb
        rcases Au.out with ⟨_, heu, _⟩ | ⟨nu, heu, esu, ecu⟩
        · subst heu
          go_wp2_with fail
          refine (angled_calls wf22 (HT0.out.below HW23.out)).mono ?_
          rintro _ wf24 ⟨hb, rfl⟩
          have HW25 := hideIt (HW23.out.trans (hb.mono HW23.out.size))
          have Kl25 := hideIt (Kl23.out.below hb Kl23.out.lt)
          have Km25 := hideIt (Km23.out.below hb Km23.out.lt)
          have Kn25 := hideIt (Kn23.out.below hb Kn23.out.lt)
          have Ka25 := hideIt (Ka23.out.below hb Ka23.out.lt)
          have Kb25 := hideIt (Kb23.out.below hb Kb23.out.lt)
          have Kc25 := hideIt (Kc23.out.below hb Kc23.out.lt)
          have KV25 := hideIt (KV23.out.below hb KV23.out.lt)
          have KX25 := hideIt (KX23.out.below hb KX23.out.lt)
          have KY25 := hideIt (KY23.out.below hb KY23.out.lt)
          have KZ25 := hideIt (KZ23.out.below hb KZ23.out.lt)
          clear hb
          go_wp2
          go_ret
          exact ⟨HW25.out, rfl⟩
        · subst heu
          have Nu := hideIt nu
          have Eu := hideIt (And.intro esu ecu)
          clear nu esu ecu
          rcases Av.out with ⟨_, hev, _⟩ | ⟨nv, hev, esv, ecv⟩
          · subst hev
            go_wp2_with fail
            refine (angled_calls wf22 (HT0.out.below HW23.out)).mono ?_
            rintro _ wf24 ⟨hb, rfl⟩
            have HW25 := hideIt (HW23.out.trans (hb.mono HW23.out.size))
            have Kl25 := hideIt (Kl23.out.below hb Kl23.out.lt)
            have Km25 := hideIt (Km23.out.below hb Km23.out.lt)
            have Kn25 := hideIt (Kn23.out.below hb Kn23.out.lt)
            have Ka25 := hideIt (Ka23.out.below hb Ka23.out.lt)
            have Kb25 := hideIt (Kb23.out.below hb Kb23.out.lt)
            have Kc25 := hideIt (Kc23.out.below hb Kc23.out.lt)
            have KV25 := hideIt (KV23.out.below hb KV23.out.lt)
            have KX25 := hideIt (KX23.out.below hb KX23.out.lt)
            have KY25 := hideIt (KY23.out.below hb KY23.out.lt)
            have KZ25 := hideIt (KZ23.out.below hb KZ23.out.lt)
            clear hb
            go_wp2
            go_ret
            exact ⟨HW25.out, rfl⟩
          · subst hev
            have Nv := hideIt nv
            have Ev := hideIt (And.intro esv ecv)
            clear nv esv ecv
            rcases Ak.out with ⟨_, hek, _⟩ | ⟨nk, hek, esk, eck⟩
            · subst hek
              go_wp2_with fail
              refine (angled_calls wf22 (HT0.out.below HW23.out)).mono ?_
              rintro _ wf24 ⟨hb, rfl⟩
              have HW25 := hideIt (HW23.out.trans (hb.mono HW23.out.size))
              have Kl25 := hideIt (Kl23.out.below hb Kl23.out.lt)
              have Km25 := hideIt (Km23.out.below hb Km23.out.lt)
              have Kn25 := hideIt (Kn23.out.below hb Kn23.out.lt)
              have Ka25 := hideIt (Ka23.out.below hb Ka23.out.lt)
              have Kb25 := hideIt (Kb23.out.below hb Kb23.out.lt)
              have Kc25 := hideIt (Kc23.out.below hb Kc23.out.lt)
              have KV25 := hideIt (KV23.out.below hb KV23.out.lt)
              have KX25 := hideIt (KX23.out.below hb KX23.out.lt)
              have KY25 := hideIt (KY23.out.below hb KY23.out.lt)
              have KZ25 := hideIt (KZ23.out.below hb KZ23.out.lt)
              clear hb
              go_wp2
              go_ret
              exact ⟨HW25.out, rfl⟩
            · subst hek
              have Nk := hideIt nk
              have Ek := hideIt (And.intro esk eck)
              clear nk esk eck
              have Qu : Hid (QS 100663432 (rd u2.data.toList) ∧ QS 100663432 (rd u1.data.toList) ∧ u2.data.toList.length ≤ 4294967296 ∧ u1.data.toList.length ≤ 4294967296 ∧ True) := by
                obtain ⟨h1, h2, h3, h4⟩ := Zu.out
                exact ⟨h1.mono (by omega), h2.mono (by omega), by omega, by omega, trivial⟩
              have Qv : Hid (QS 100663432 (rd v2.data.toList) ∧ QS 100663432 (rd v1.data.toList) ∧ v2.data.toList.length ≤ 4294967296 ∧ v1.data.toList.length ≤ 4294967296 ∧ True) := by
                obtain ⟨h1, h2, h3, h4⟩ := Zv.out
                exact ⟨h1.mono (by omega), h2.mono (by omega), by omega, by omega, trivial⟩
              have Qk : Hid (QS 100663432 (rd k2.data.toList) ∧ QS 100663432 (rd k1.data.toList) ∧ k2.data.toList.length ≤ 4294967296 ∧ k1.data.toList.length ≤ 4294967296 ∧ True) := by
                obtain ⟨h1, h2, h3, h4⟩ := Zk.out
                exact ⟨h1.mono (by omega), h2.mono (by omega), by omega, by omega, trivial⟩
              have dX0 : wf22.cell? ⟨GX, 0, none⟩ = some (.string u1) := KX23.out.cell 0
              have dX1 : wf22.cell? ⟨GX, 1, none⟩ = some (.string u2) := KX23.out.cell 1
              have dY0 : wf22.cell? ⟨GY, 0, none⟩ = some (.string v1) := KY23.out.cell 0
              have dY1 : wf22.cell? ⟨GY, 1, none⟩ = some (.string v2) := KY23.out.cell 1
              go_wp2_with fail
              refine (angSum_calls (va := .agg #[.string u1, .string u2]) (vb := .agg #[.string v1, .string v2]) ⟨u1, u2, rfl, rfl, rfl⟩ ⟨v1, v2, rfl, rfl, rfl⟩ Qu.out.2.2.2.1 Qu.out.2.2.1 Qv.out.2.2.2.1 Qv.out.2.2.1 (k := 100663432) Qu.out.1 Qu.out.2.1 Qv.out.1 Qv.out.2.1 (by decide) (HT0.out.below HW23.out)).mono ?_
              rintro _ wf24 ⟨hb, s1, s2, h, rfl, hans⟩
              have As := hideIt hans
              clear hans
              have HW25 := hideIt (HW23.out.trans (hb.mono HW23.out.size))
              have Kl25 := hideIt (Kl23.out.below hb Kl23.out.lt)
              have Km25 := hideIt (Km23.out.below hb Km23.out.lt)
              have Kn25 := hideIt (Kn23.out.below hb Kn23.out.lt)
              have Ka25 := hideIt (Ka23.out.below hb Ka23.out.lt)
              have Kb25 := hideIt (Kb23.out.below hb Kb23.out.lt)
              have Kc25 := hideIt (Kc23.out.below hb Kc23.out.lt)
              have KV25 := hideIt (KV23.out.below hb KV23.out.lt)
              have KX25 := hideIt (KX23.out.below hb KX23.out.lt)
              have KY25 := hideIt (KY23.out.below hb KY23.out.lt)
              have KZ25 := hideIt (KZ23.out.below hb KZ23.out.lt)
              clear hb
              clear dX0 dX1 dY0 dY1
              have Zs := hideIt (fac2_size As.out (K := 402653729) ((Qu.out.1.mul Qv.out.1).sub (Qu.out.2.1.mul Qv.out.2.1)) ((Qu.out.1.mul Qv.out.2.1).add (Qu.out.2.1.mul Qv.out.1)))
              have cZ0 : ∀ o, (wf24.alloc o).cell? ⟨GZ, 0, none⟩ = some (.string k1) := fun o => (KZ25.out.old o).cell 0
              have dZ0 : wf24.cell? ⟨GZ, 0, none⟩ = some (.string k1) := KZ25.out.cell 0
              have cZ1 : ∀ o, (wf24.alloc o).cell? ⟨GZ, 1, none⟩ = some (.string k2) := fun o => (KZ25.out.old o).cell 1
              have dZ1 : wf24.cell? ⟨GZ, 1, none⟩ = some (.string k2) := KZ25.out.cell 1
              go_wp2_with fail
              obtain ⟨wb26, hwb26⟩ : ∃ wb26, wb26 = wf24.alloc (.cells #[.string s1, .string s2] 28) := ⟨_, rfl⟩
              have hbA := below_new wf24 (.cells #[.string s1, .string s2] 28)
              have KN := hideIt (Blk.new wf24 #[.string s1, .string s2] 28)
              rw [← hwb26] at hbA KN ⊢
              obtain ⟨GSF, hGSF⟩ : ∃ GSF, GSF = wf24.heap.size := ⟨_, rfl⟩
              rw [← hGSF] at KN ⊢
              have NESFl : Hid (GSF ≠ w.heap.size) := by have := Kl25.out.lt; rw [hGSF]; exact Nat.ne_of_gt this
              have NESFm : Hid (GSF ≠ w.heap.size + 1) := by have := Km25.out.lt; rw [hGSF]; exact Nat.ne_of_gt this
              have NESFn : Hid (GSF ≠ w.heap.size + 1 + 1) := by have := Kn25.out.lt; rw [hGSF]; exact Nat.ne_of_gt this
              have NESFa : Hid (GSF ≠ w.heap.size + 1 + 1 + 1) := by have := Ka25.out.lt; rw [hGSF]; exact Nat.ne_of_gt this
              have NESFb : Hid (GSF ≠ w.heap.size + 1 + 1 + 1 + 1) := by have := Kb25.out.lt; rw [hGSF]; exact Nat.ne_of_gt this
              have NESFc : Hid (GSF ≠ w.heap.size + 1 + 1 + 1 + 1 + 1) := by have := Kc25.out.lt; rw [hGSF]; exact Nat.ne_of_gt this
              have NESFV : Hid (GSF ≠ w.heap.size + 1 + 1 + 1 + 1 + 1 + 1) := by have := KV25.out.lt; rw [hGSF]; exact Nat.ne_of_gt this
              have NESFX : Hid (GSF ≠ GX) := by have := KX25.out.lt; rw [hGSF]; exact Nat.ne_of_gt this
              have NESFY : Hid (GSF ≠ GY) := by have := KY25.out.lt; rw [hGSF]; exact Nat.ne_of_gt this
              have NESFZ : Hid (GSF ≠ GZ) := by have := KZ25.out.lt; rw [hGSF]; exact Nat.ne_of_gt this
              have GESF : Hid (w.heap.size ≤ GSF) := by have := HW25.out.size; rw [hGSF]; exact this
              clear hGSF hwb26 cZ0 dZ0 cZ1 dZ1
              have HW27 := hideIt (HW25.out.trans (hbA.mono HW25.out.size))
              have Kl27 := hideIt (Kl25.out.below hbA Kl25.out.lt)
              have Km27 := hideIt (Km25.out.below hbA Km25.out.lt)
              have Kn27 := hideIt (Kn25.out.below hbA Kn25.out.lt)
              have Ka27 := hideIt (Ka25.out.below hbA Ka25.out.lt)
              have Kb27 := hideIt (Kb25.out.below hbA Kb25.out.lt)
              have Kc27 := hideIt (Kc25.out.below hbA Kc25.out.lt)
              have KV27 := hideIt (KV25.out.below hbA KV25.out.lt)
              have KX27 := hideIt (KX25.out.below hbA KX25.out.lt)
              have KY27 := hideIt (KY25.out.below hbA KY25.out.lt)
              have KZ27 := hideIt (KZ25.out.below hbA KZ25.out.lt)
              have KSFn26 := hideIt KN.out
              clear hbA KN
              have Qs : Hid (QS 1207961188 (rd s2.data.toList) ∧ QS 1207961188 (rd s1.data.toList) ∧ s2.data.toList.length ≤ 4294967296 ∧ s1.data.toList.length ≤ 4294967296 ∧ True) := by
                obtain ⟨h1, h2, h3, h4⟩ := Zs.out
                exact ⟨h1.mono (by omega), h2.mono (by omega), by omega, by omega, trivial⟩
              have Rk : Hid (QS 1207961188 (rd k2.data.toList) ∧ QS 1207961188 (rd k1.data.toList) ∧ k2.data.toList.length ≤ 4294967296 ∧ k1.data.toList.length ≤ 4294967296 ∧ True) := ⟨Qk.out.1.mono (by omega), Qk.out.2.1.mono (by omega), Qk.out.2.2⟩
              refine (angSum_calls (va := .agg #[.string s1, .string s2]) (vb := .agg #[.string k1, .string k2]) ⟨s1, s2, rfl, rfl, rfl⟩ ⟨k1, k2, rfl, rfl, rfl⟩ Qs.out.2.2.2.1 Qs.out.2.2.1 Rk.out.2.2.2.1 Rk.out.2.2.1 (k := 1207961188) Qs.out.1 Qs.out.2.1 Rk.out.1 Rk.out.2.1 (by decide) (HT0.out.below HW27.out)).mono ?_
              rintro _ wf28 ⟨hb, t1, t2, i, rfl, hans⟩
              have At := hideIt hans
              clear hans
              have HW29 := hideIt (HW27.out.trans (hb.mono HW27.out.size))
              have Kl29 := hideIt (Kl27.out.below hb Kl27.out.lt)
              have Km29 := hideIt (Km27.out.below hb Km27.out.lt)
              have Kn29 := hideIt (Kn27.out.below hb Kn27.out.lt)
              have Ka29 := hideIt (Ka27.out.below hb Ka27.out.lt)
              have Kb29 := hideIt (Kb27.out.below hb Kb27.out.lt)
              have Kc29 := hideIt (Kc27.out.below hb Kc27.out.lt)
              have KV29 := hideIt (KV27.out.below hb KV27.out.lt)
              have KX29 := hideIt (KX27.out.below hb KX27.out.lt)
              have KY29 := hideIt (KY27.out.below hb KY27.out.lt)
              have KZ29 := hideIt (KZ27.out.below hb KZ27.out.lt)
              have KSF29 := hideIt (KSFn26.out.below hb KSFn26.out.lt)
              clear hb
              obtain ⟨hh, hi, e1, e2⟩ := three (conj_ne Nu.out) (conj_ne Nv.out) (conj_ne Nk.out) (tri_im _ _ _ _ _ _) Eu.out Ev.out Ek.out As.out At.out
              subst hh
              subst hi
              obtain rfl := bytes_eq e1
              obtain rfl := bytes_eq e2
              clear e1 e2
              have cV0 : ∀ o, (wf28.alloc o).cell? ⟨w.heap.size + 1 + 1 + 1 + 1 + 1 + 1, 0, none⟩ = some (.string ⟨#[48]⟩) := fun o => (KV29.out.old o).cell 0
              have dV0 : wf28.cell? ⟨w.heap.size + 1 + 1 + 1 + 1 + 1 + 1, 0, none⟩ = some (.string ⟨#[48]⟩) := KV29.out.cell 0
              have cV1 : ∀ o, (wf28.alloc o).cell? ⟨w.heap.size + 1 + 1 + 1 + 1 + 1 + 1, 1, none⟩ = some (.string ⟨#[49]⟩) := fun o => (KV29.out.old o).cell 1
              have dV1 : wf28.cell? ⟨w.heap.size + 1 + 1 + 1 + 1 + 1 + 1, 1, none⟩ = some (.string ⟨#[49]⟩) := KV29.out.cell 1
              go_wp2
              go_ret
              exact ⟨HW29.out.alloc HW29.out.size _, rfl⟩
      · subst hez
        have Nz := hideIt nz
        have Ez := hideIt (And.intro esz ecz)
        clear nz esz ecz
        have cX0 : ∀ o, (wf9.alloc o).cell? ⟨GX, 0, none⟩ = some (.string x1) := fun o => (KX10.out.old o).cell 0
        have dX0 : wf9.cell? ⟨GX, 0, none⟩ = some (.string x1) := KX10.out.cell 0
        have cX1 : ∀ o, (wf9.alloc o).cell? ⟨GX, 1, none⟩ = some (.string x2) := fun o => (KX10.out.old o).cell 1
        have dX1 : wf9.cell? ⟨GX, 1, none⟩ = some (.string x2) := KX10.out.cell 1
        have cY0 : ∀ o, (wf9.alloc o).cell? ⟨GY, 0, none⟩ = some (.string y1) := fun o => (KY10.out.old o).cell 0
        have dY0 : wf9.cell? ⟨GY, 0, none⟩ = some (.string y1) := KY10.out.cell 0
        have cY1 : ∀ o, (wf9.alloc o).cell? ⟨GY, 1, none⟩ = some (.string y2) := fun o => (KY10.out.old o).cell 1
        have dY1 : wf9.cell? ⟨GY, 1, none⟩ = some (.string y2) := KY10.out.cell 1
        go_wp2_with fail
        obtain ⟨wb11, hwb11⟩ : ∃ wb11, wb11 = wf9.alloc (.cells #[.string z1, .string z2] 28) := ⟨_, rfl⟩
        have hbA := below_new wf9 (.cells #[.string z1, .string z2] 28)
        have KN := hideIt (Blk.new wf9 #[.string z1, .string z2] 28)
        rw [← hwb11] at hbA KN ⊢
        obtain ⟨GZ, hGZ⟩ : ∃ GZ, GZ = wf9.heap.size := ⟨_, rfl⟩
        rw [← hGZ] at KN ⊢
        have NEZl : Hid (GZ ≠ w.heap.size) := by have := Kl10.out.lt; rw [hGZ]; exact Nat.ne_of_gt this
        have NEZm : Hid (GZ ≠ w.heap.size + 1) := by have := Km10.out.lt; rw [hGZ]; exact Nat.ne_of_gt this
        have NEZn : Hid (GZ ≠ w.heap.size + 1 + 1) := by have := Kn10.out.lt; rw [hGZ]; exact Nat.ne_of_gt this
        have NEZa : Hid (GZ ≠ w.heap.size + 1 + 1 + 1) := by have := Ka10.out.lt; rw [hGZ]; exact Nat.ne_of_gt this
        have NEZb : Hid (GZ ≠ w.heap.size + 1 + 1 + 1 + 1) := by have := Kb10.out.lt; rw [hGZ]; exact Nat.ne_of_gt this
        have NEZc : Hid (GZ ≠ w.heap.size + 1 + 1 + 1 + 1 + 1) := by have := Kc10.out.lt; rw [hGZ]; exact Nat.ne_of_gt this
        have NEZV : Hid (GZ ≠ w.heap.size + 1 + 1 + 1 + 1 + 1 + 1) := by have := KV10.out.lt; rw [hGZ]; exact Nat.ne_of_gt this
        have NEZX : Hid (GZ ≠ GX) := by have := KX10.out.lt; rw [hGZ]; exact Nat.ne_of_gt this
        have NEZY : Hid (GZ ≠ GY) := by have := KY10.out.lt; rw [hGZ]; exact Nat.ne_of_gt this
        have GEZ : Hid (w.heap.size ≤ GZ) := by have := HW10.out.size; rw [hGZ]; exact this
        clear hGZ hwb11 cX0 dX0 cX1 dX1 cY0 dY0 cY1 dY1
        have HW12 := hideIt (HW10.out.trans (hbA.mono HW10.out.size))
        have Kl12 := hideIt (Kl10.out.below hbA Kl10.out.lt)
        have Km12 := hideIt (Km10.out.below hbA Km10.out.lt)
        have Kn12 := hideIt (Kn10.out.below hbA Kn10.out.lt)
        have Ka12 := hideIt (Ka10.out.below hbA Ka10.out.lt)
        have Kb12 := hideIt (Kb10.out.below hbA Kb10.out.lt)
        have Kc12 := hideIt (Kc10.out.below hbA Kc10.out.lt)
        have KV12 := hideIt (KV10.out.below hbA KV10.out.lt)
        have KX12 := hideIt (KX10.out.below hbA KX10.out.lt)
        have KY12 := hideIt (KY10.out.below hbA KY10.out.lt)
        have KZn11 := hideIt KN.out
        clear hbA KN
        have Qx : Hid (QS 50331712 (rd x2.data.toList) ∧ QS 50331712 (rd x1.data.toList) ∧ x2.data.toList.length ≤ 4294967296 ∧ x1.data.toList.length ≤ 4294967296 ∧ True) := by
          obtain ⟨h1, h2, h3, h4⟩ := Zx.out
          exact ⟨h1.mono (by omega), h2.mono (by omega), by omega, by omega, trivial⟩
        have Qy : Hid (QS 50331712 (rd y2.data.toList) ∧ QS 50331712 (rd y1.data.toList) ∧ y2.data.toList.length ≤ 4294967296 ∧ y1.data.toList.length ≤ 4294967296 ∧ True) := by
          obtain ⟨h1, h2, h3, h4⟩ := Zy.out
          exact ⟨h1.mono (by omega), h2.mono (by omega), by omega, by omega, trivial⟩
        have Qz : Hid (QS 50331712 (rd z2.data.toList) ∧ QS 50331712 (rd z1.data.toList) ∧ z2.data.toList.length ≤ 4294967296 ∧ z1.data.toList.length ≤ 4294967296 ∧ True) := by
          obtain ⟨h1, h2, h3, h4⟩ := Zz.out
          exact ⟨h1.mono (by omega), h2.mono (by omega), by omega, by omega, trivial⟩
        have dX0 : wb11.cell? ⟨GX, 0, none⟩ = some (.string x1) := KX12.out.cell 0
        have dX1 : wb11.cell? ⟨GX, 1, none⟩ = some (.string x2) := KX12.out.cell 1
        have dY0 : wb11.cell? ⟨GY, 0, none⟩ = some (.string y1) := KY12.out.cell 0
        have dY1 : wb11.cell? ⟨GY, 1, none⟩ = some (.string y2) := KY12.out.cell 1
        refine (angSum_calls (va := .agg #[.string x1, .string x2]) (vb := .agg #[.string y1, .string y2]) ⟨x1, x2, rfl, rfl, rfl⟩ ⟨y1, y2, rfl, rfl, rfl⟩ Qx.out.2.2.2.1 Qx.out.2.2.1 Qy.out.2.2.2.1 Qy.out.2.2.1 (k := 50331712) Qx.out.1 Qx.out.2.1 Qy.out.1 Qy.out.2.1 (by decide) (HT0.out.below HW12.out)).mono ?_
        rintro _ wf13 ⟨hb, s1, s2, h, rfl, hans⟩
        have As := hideIt hans
        clear hans
        have HW14 := hideIt (HW12.out.trans (hb.mono HW12.out.size))
        have Kl14 := hideIt (Kl12.out.below hb Kl12.out.lt)
        have Km14 := hideIt (Km12.out.below hb Km12.out.lt)
        have Kn14 := hideIt (Kn12.out.below hb Kn12.out.lt)
        have Ka14 := hideIt (Ka12.out.below hb Ka12.out.lt)
        have Kb14 := hideIt (Kb12.out.below hb Kb12.out.lt)
        have Kc14 := hideIt (Kc12.out.below hb Kc12.out.lt)
        have KV14 := hideIt (KV12.out.below hb KV12.out.lt)
        have KX14 := hideIt (KX12.out.below hb KX12.out.lt)
        have KY14 := hideIt (KY12.out.below hb KY12.out.lt)
        have KZ14 := hideIt (KZn11.out.below hb KZn11.out.lt)
        clear hb
        clear dX0 dX1 dY0 dY1
        have Zs := hideIt (fac2_size As.out (K := 201326849) ((Qx.out.1.mul Qy.out.1).sub (Qx.out.2.1.mul Qy.out.2.1)) ((Qx.out.1.mul Qy.out.2.1).add (Qx.out.2.1.mul Qy.out.1)))
        have cZ0 : ∀ o, (wf13.alloc o).cell? ⟨GZ, 0, none⟩ = some (.string z1) := fun o => (KZ14.out.old o).cell 0
        have dZ0 : wf13.cell? ⟨GZ, 0, none⟩ = some (.string z1) := KZ14.out.cell 0
        have cZ1 : ∀ o, (wf13.alloc o).cell? ⟨GZ, 1, none⟩ = some (.string z2) := fun o => (KZ14.out.old o).cell 1
        have dZ1 : wf13.cell? ⟨GZ, 1, none⟩ = some (.string z2) := KZ14.out.cell 1
        go_wp2_with fail
        obtain ⟨wb15, hwb15⟩ : ∃ wb15, wb15 = wf13.alloc (.cells #[.string s1, .string s2] 28) := ⟨_, rfl⟩
        have hbA := below_new wf13 (.cells #[.string s1, .string s2] 28)
        have KN := hideIt (Blk.new wf13 #[.string s1, .string s2] 28)
        rw [← hwb15] at hbA KN ⊢
        obtain ⟨GS, hGS⟩ : ∃ GS, GS = wf13.heap.size := ⟨_, rfl⟩
        rw [← hGS] at KN ⊢
        have NESl : Hid (GS ≠ w.heap.size) := by have := Kl14.out.lt; rw [hGS]; exact Nat.ne_of_gt this
        have NESm : Hid (GS ≠ w.heap.size + 1) := by have := Km14.out.lt; rw [hGS]; exact Nat.ne_of_gt this
        have NESn : Hid (GS ≠ w.heap.size + 1 + 1) := by have := Kn14.out.lt; rw [hGS]; exact Nat.ne_of_gt this
        have NESa : Hid (GS ≠ w.heap.size + 1 + 1 + 1) := by have := Ka14.out.lt; rw [hGS]; exact Nat.ne_of_gt this
        have NESb : Hid (GS ≠ w.heap.size + 1 + 1 + 1 + 1) := by have := Kb14.out.lt; rw [hGS]; exact Nat.ne_of_gt this
        have NESc : Hid (GS ≠ w.heap.size + 1 + 1 + 1 + 1 + 1) := by have := Kc14.out.lt; rw [hGS]; exact Nat.ne_of_gt this
        have NESV : Hid (GS ≠ w.heap.size + 1 + 1 + 1 + 1 + 1 + 1) := by have := KV14.out.lt; rw [hGS]; exact Nat.ne_of_gt this
        have NESX : Hid (GS ≠ GX) := by have := KX14.out.lt; rw [hGS]; exact Nat.ne_of_gt this
        have NESY : Hid (GS ≠ GY) := by have := KY14.out.lt; rw [hGS]; exact Nat.ne_of_gt this
        have NESZ : Hid (GS ≠ GZ) := by have := KZ14.out.lt; rw [hGS]; exact Nat.ne_of_gt this
        have GES : Hid (w.heap.size ≤ GS) := by have := HW14.out.size; rw [hGS]; exact this
        clear hGS hwb15 cZ0 dZ0 cZ1 dZ1
        have HW16 := hideIt (HW14.out.trans (hbA.mono HW14.out.size))
        have Kl16 := hideIt (Kl14.out.below hbA Kl14.out.lt)
        have Km16 := hideIt (Km14.out.below hbA Km14.out.lt)
        have Kn16 := hideIt (Kn14.out.below hbA Kn14.out.lt)
        have Ka16 := hideIt (Ka14.out.below hbA Ka14.out.lt)
        have Kb16 := hideIt (Kb14.out.below hbA Kb14.out.lt)
        have Kc16 := hideIt (Kc14.out.below hbA Kc14.out.lt)
        have KV16 := hideIt (KV14.out.below hbA KV14.out.lt)
        have KX16 := hideIt (KX14.out.below hbA KX14.out.lt)
        have KY16 := hideIt (KY14.out.below hbA KY14.out.lt)
        have KZ16 := hideIt (KZ14.out.below hbA KZ14.out.lt)
        have KSn15 := hideIt KN.out
        clear hbA KN
        have Qs : Hid (QS 603980548 (rd s2.data.toList) ∧ QS 603980548 (rd s1.data.toList) ∧ s2.data.toList.length ≤ 4294967296 ∧ s1.data.toList.length ≤ 4294967296 ∧ True) := by
          obtain ⟨h1, h2, h3, h4⟩ := Zs.out
          exact ⟨h1.mono (by omega), h2.mono (by omega), by omega, by omega, trivial⟩
        have Rz : Hid (QS 603980548 (rd z2.data.toList) ∧ QS 603980548 (rd z1.data.toList) ∧ z2.data.toList.length ≤ 4294967296 ∧ z1.data.toList.length ≤ 4294967296 ∧ True) := ⟨Qz.out.1.mono (by omega), Qz.out.2.1.mono (by omega), Qz.out.2.2⟩
        refine (angSum_calls (va := .agg #[.string s1, .string s2]) (vb := .agg #[.string z1, .string z2]) ⟨s1, s2, rfl, rfl, rfl⟩ ⟨z1, z2, rfl, rfl, rfl⟩ Qs.out.2.2.2.1 Qs.out.2.2.1 Rz.out.2.2.2.1 Rz.out.2.2.1 (k := 603980548) Qs.out.1 Qs.out.2.1 Rz.out.1 Rz.out.2.1 (by decide) (HT0.out.below HW16.out)).mono ?_
        rintro _ wf17 ⟨hb, t1, t2, i, rfl, hans⟩
        have At := hideIt hans
        clear hans
        have HW18 := hideIt (HW16.out.trans (hb.mono HW16.out.size))
        have Kl18 := hideIt (Kl16.out.below hb Kl16.out.lt)
        have Km18 := hideIt (Km16.out.below hb Km16.out.lt)
        have Kn18 := hideIt (Kn16.out.below hb Kn16.out.lt)
        have Ka18 := hideIt (Ka16.out.below hb Ka16.out.lt)
        have Kb18 := hideIt (Kb16.out.below hb Kb16.out.lt)
        have Kc18 := hideIt (Kc16.out.below hb Kc16.out.lt)
        have KV18 := hideIt (KV16.out.below hb KV16.out.lt)
        have KX18 := hideIt (KX16.out.below hb KX16.out.lt)
        have KY18 := hideIt (KY16.out.below hb KY16.out.lt)
        have KZ18 := hideIt (KZ16.out.below hb KZ16.out.lt)
        have KS18 := hideIt (KSn15.out.below hb KSn15.out.lt)
        clear hb
        obtain ⟨hh, hi, e1, e2⟩ := three (conj_ne Nx.out) (conj_ne Ny.out) (conj_ne Nz.out) (lines_im _ _ _ _ _ _) Ex.out Ey.out Ez.out As.out At.out
        subst hh
        subst hi
        obtain rfl := bytes_eq e1
        obtain rfl := bytes_eq e2
        clear e1 e2 As At Zs Qs Qx Qy Qz Rz Zx Zy Zz
        have cV0 : ∀ o, (wf17.alloc o).cell? ⟨w.heap.size + 1 + 1 + 1 + 1 + 1 + 1, 0, none⟩ = some (.string ⟨#[48]⟩) := fun o => (KV18.out.old o).cell 0
        have dV0 : wf17.cell? ⟨w.heap.size + 1 + 1 + 1 + 1 + 1 + 1, 0, none⟩ = some (.string ⟨#[48]⟩) := KV18.out.cell 0
        have cV1 : ∀ o, (wf17.alloc o).cell? ⟨w.heap.size + 1 + 1 + 1 + 1 + 1 + 1, 1, none⟩ = some (.string ⟨#[49]⟩) := fun o => (KV18.out.old o).cell 1
        have dV1 : wf17.cell? ⟨w.heap.size + 1 + 1 + 1 + 1 + 1 + 1, 1, none⟩ = some (.string ⟨#[49]⟩) := KV18.out.cell 1
        have cb0 : ∀ o, (wf17.alloc o).cell? ⟨w.heap.size + 1 + 1 + 1 + 1, 0, none⟩ = some (.string bx) := fun o => (Kb18.out.old o).cell 0
        have db0 : wf17.cell? ⟨w.heap.size + 1 + 1 + 1 + 1, 0, none⟩ = some (.string bx) := Kb18.out.cell 0
        have cb1 : ∀ o, (wf17.alloc o).cell? ⟨w.heap.size + 1 + 1 + 1 + 1, 1, none⟩ = some (.string bz) := fun o => (Kb18.out.old o).cell 1
        have db1 : wf17.cell? ⟨w.heap.size + 1 + 1 + 1 + 1, 1, none⟩ = some (.string bz) := Kb18.out.cell 1
        have cc0 : ∀ o, (wf17.alloc o).cell? ⟨w.heap.size + 1 + 1 + 1 + 1 + 1, 0, none⟩ = some (.string cx) := fun o => (Kc18.out.old o).cell 0
        have dc0 : wf17.cell? ⟨w.heap.size + 1 + 1 + 1 + 1 + 1, 0, none⟩ = some (.string cx) := Kc18.out.cell 0
        have cc1 : ∀ o, (wf17.alloc o).cell? ⟨w.heap.size + 1 + 1 + 1 + 1 + 1, 1, none⟩ = some (.string cy) := fun o => (Kc18.out.old o).cell 1
        have dc1 : wf17.cell? ⟨w.heap.size + 1 + 1 + 1 + 1 + 1, 1, none⟩ = some (.string cy) := Kc18.out.cell 1
        have ca0 : ∀ o, (wf17.alloc o).cell? ⟨w.heap.size + 1 + 1 + 1, 0, none⟩ = some (.string ax) := fun o => (Ka18.out.old o).cell 0
        have da0 : wf17.cell? ⟨w.heap.size + 1 + 1 + 1, 0, none⟩ = some (.string ax) := Ka18.out.cell 0
        have ca1 : ∀ o, (wf17.alloc o).cell? ⟨w.heap.size + 1 + 1 + 1, 1, none⟩ = some (.string ay) := fun o => (Ka18.out.old o).cell 1
        have da1 : wf17.cell? ⟨w.heap.size + 1 + 1 + 1, 1, none⟩ = some (.string ay) := Ka18.out.cell 1
        go_wp2_with fail
        obtain ⟨wb19, hwb19⟩ : ∃ wb19, wb19 = wf17.alloc (.cells #[.string ⟨#[48]⟩, .string ⟨#[49]⟩] 28) := ⟨_, rfl⟩
        have hbA := below_new wf17 (.cells #[.string ⟨#[48]⟩, .string ⟨#[49]⟩] 28)
        have KN := hideIt (Blk.new wf17 #[.string ⟨#[48]⟩, .string ⟨#[49]⟩] 28)
        rw [← hwb19] at hbA KN ⊢
        obtain ⟨GT, hGT⟩ : ∃ GT, GT = wf17.heap.size := ⟨_, rfl⟩
        rw [← hGT] at KN ⊢
        have NETl : Hid (GT ≠ w.heap.size) := by have := Kl18.out.lt; rw [hGT]; exact Nat.ne_of_gt this
        have NETm : Hid (GT ≠ w.heap.size + 1) := by have := Km18.out.lt; rw [hGT]; exact Nat.ne_of_gt this
        have NETn : Hid (GT ≠ w.heap.size + 1 + 1) := by have := Kn18.out.lt; rw [hGT]; exact Nat.ne_of_gt this
        have NETa : Hid (GT ≠ w.heap.size + 1 + 1 + 1) := by have := Ka18.out.lt; rw [hGT]; exact Nat.ne_of_gt this
        have NETb : Hid (GT ≠ w.heap.size + 1 + 1 + 1 + 1) := by have := Kb18.out.lt; rw [hGT]; exact Nat.ne_of_gt this
        have NETc : Hid (GT ≠ w.heap.size + 1 + 1 + 1 + 1 + 1) := by have := Kc18.out.lt; rw [hGT]; exact Nat.ne_of_gt this
        have NETV : Hid (GT ≠ w.heap.size + 1 + 1 + 1 + 1 + 1 + 1) := by have := KV18.out.lt; rw [hGT]; exact Nat.ne_of_gt this
        have NETX : Hid (GT ≠ GX) := by have := KX18.out.lt; rw [hGT]; exact Nat.ne_of_gt this
        have NETY : Hid (GT ≠ GY) := by have := KY18.out.lt; rw [hGT]; exact Nat.ne_of_gt this
        have NETZ : Hid (GT ≠ GZ) := by have := KZ18.out.lt; rw [hGT]; exact Nat.ne_of_gt this
        have NETS : Hid (GT ≠ GS) := by have := KS18.out.lt; rw [hGT]; exact Nat.ne_of_gt this
        have GET : Hid (w.heap.size ≤ GT) := by have := HW18.out.size; rw [hGT]; exact this
        clear hGT hwb19 cV0 dV0 cV1 dV1 cb0 db0 cb1 db1 cc0 dc0 cc1 dc1 ca0 da0 ca1 da1
        have HW20 := hideIt (HW18.out.trans (hbA.mono HW18.out.size))
        have Kl20 := hideIt (Kl18.out.below hbA Kl18.out.lt)
        have Km20 := hideIt (Km18.out.below hbA Km18.out.lt)
        have Kn20 := hideIt (Kn18.out.below hbA Kn18.out.lt)
        have Ka20 := hideIt (Ka18.out.below hbA Ka18.out.lt)
        have Kb20 := hideIt (Kb18.out.below hbA Kb18.out.lt)
        have Kc20 := hideIt (Kc18.out.below hbA Kc18.out.lt)
        have KV20 := hideIt (KV18.out.below hbA KV18.out.lt)
        have KX20 := hideIt (KX18.out.below hbA KX18.out.lt)
        have KY20 := hideIt (KY18.out.below hbA KY18.out.lt)
        have KZ20 := hideIt (KZ18.out.below hbA KZ18.out.lt)
        have KS20 := hideIt (KS18.out.below hbA KS18.out.lt)
        have KTn19 := hideIt KN.out
        clear hbA KN
        refine (angSeen_walk (ax := bx) (ay := bz) (bx := cx) (bz := cy) (px := ax) (pz := ay) S11.out S12.out S13.out S14.out S9.out S10.out F11.out F12.out F13.out F14.out F9.out F10.out (by decide) (HT0.out.below HW20.out)).mono ?_
        rintro _ wf21 ⟨hb, u1, u2, eu, rfl, hans⟩
        have Au := hideIt hans
        have Zu := hideIt (fac2_size hans (K := 33554477) (((F11.out.sub F9.out).mul (F13.out.sub F9.out)).sub ((F12.out.sub F10.out).neg.mul (F14.out.sub F10.out))) (((F11.out.sub F9.out).mul (F14.out.sub F10.out)).add ((F12.out.sub F10.out).neg.mul (F13.out.sub F9.out))))
        clear hans
        have HW22 := hideIt (HW20.out.trans (hb.mono HW20.out.size))
        have Kl22 := hideIt (Kl20.out.below hb Kl20.out.lt)
        have Km22 := hideIt (Km20.out.below hb Km20.out.lt)
        have Kn22 := hideIt (Kn20.out.below hb Kn20.out.lt)
        have Ka22 := hideIt (Ka20.out.below hb Ka20.out.lt)
        have Kb22 := hideIt (Kb20.out.below hb Kb20.out.lt)
        have Kc22 := hideIt (Kc20.out.below hb Kc20.out.lt)
        have KV22 := hideIt (KV20.out.below hb KV20.out.lt)
        have KX22 := hideIt (KX20.out.below hb KX20.out.lt)
        have KY22 := hideIt (KY20.out.below hb KY20.out.lt)
        have KZ22 := hideIt (KZ20.out.below hb KZ20.out.lt)
        have KS22 := hideIt (KS20.out.below hb KS20.out.lt)
        have KT22 := hideIt (KTn19.out.below hb KTn19.out.lt)
        clear hb
        have dX0 : wf21.cell? ⟨GX, 0, none⟩ = some (.string x1) := KX22.out.cell 0
        have eX0 : wf21.frozen? ⟨GX, 0, none⟩ = false := KX22.out.frozen 0
        have dX1 : wf21.cell? ⟨GX, 1, none⟩ = some (.string x2) := KX22.out.cell 1
        have eX1 : wf21.frozen? ⟨GX, 1, none⟩ = false := KX22.out.frozen 1
        have HW23 := hideIt (Below.put2 HW22.out GEX.out (.string u1) (.string u2) (g := GX))
        have Kl23 := hideIt (Kl22.out.off2 (g := GX) (NEXl.out) (.string u1) (.string u2))
        have Km23 := hideIt (Km22.out.off2 (g := GX) (NEXm.out) (.string u1) (.string u2))
        have Kn23 := hideIt (Kn22.out.off2 (g := GX) (NEXn.out) (.string u1) (.string u2))
        have Ka23 := hideIt (Ka22.out.off2 (g := GX) (NEXa.out) (.string u1) (.string u2))
        have Kb23 := hideIt (Kb22.out.off2 (g := GX) (NEXb.out) (.string u1) (.string u2))
        have Kc23 := hideIt (Kc22.out.off2 (g := GX) (NEXc.out) (.string u1) (.string u2))
        have KV23 := hideIt (KV22.out.off2 (g := GX) (NEXV.out) (.string u1) (.string u2))
        have KX23 := hideIt (KX22.out.put2 (.string u1) (.string u2))
        have KY23 := hideIt (KY22.out.off2 (g := GX) (NEYX.out.symm) (.string u1) (.string u2))
        have KZ23 := hideIt (KZ22.out.off2 (g := GX) (NEZX.out.symm) (.string u1) (.string u2))
        have KS23 := hideIt (KS22.out.off2 (g := GX) (NESX.out.symm) (.string u1) (.string u2))
        have KT23 := hideIt (KT22.out.off2 (g := GX) (NETX.out.symm) (.string u1) (.string u2))
        have dc0 : ((wf21.setCell ⟨GX, 0, none⟩ (.string u1)).setCell ⟨GX, 1, none⟩ (.string u2)).cell? ⟨w.heap.size + 1 + 1 + 1 + 1 + 1, 0, none⟩ = some (.string cx) := Kc23.out.cell 0
        have dc1 : ((wf21.setCell ⟨GX, 0, none⟩ (.string u1)).setCell ⟨GX, 1, none⟩ (.string u2)).cell? ⟨w.heap.size + 1 + 1 + 1 + 1 + 1, 1, none⟩ = some (.string cy) := Kc23.out.cell 1
        have da0 : ((wf21.setCell ⟨GX, 0, none⟩ (.string u1)).setCell ⟨GX, 1, none⟩ (.string u2)).cell? ⟨w.heap.size + 1 + 1 + 1, 0, none⟩ = some (.string ax) := Ka23.out.cell 0
        have da1 : ((wf21.setCell ⟨GX, 0, none⟩ (.string u1)).setCell ⟨GX, 1, none⟩ (.string u2)).cell? ⟨w.heap.size + 1 + 1 + 1, 1, none⟩ = some (.string ay) := Ka23.out.cell 1
        have db0 : ((wf21.setCell ⟨GX, 0, none⟩ (.string u1)).setCell ⟨GX, 1, none⟩ (.string u2)).cell? ⟨w.heap.size + 1 + 1 + 1 + 1, 0, none⟩ = some (.string bx) := Kb23.out.cell 0
        have db1 : ((wf21.setCell ⟨GX, 0, none⟩ (.string u1)).setCell ⟨GX, 1, none⟩ (.string u2)).cell? ⟨w.heap.size + 1 + 1 + 1 + 1, 1, none⟩ = some (.string bz) := Kb23.out.cell 1
        go_wp2_with fail
        generalize ((wf21.setCell ⟨GX, 0, none⟩ (.string u1)).setCell ⟨GX, 1, none⟩ (.string u2)) = wp23 at *
        clear dX0 dX1 da0 da1 db0 db1 dc0 dc1 eX0 eX1
        refine (angSeen_walk (ax := cx) (ay := cy) (bx := ax) (bz := ay) (px := bx) (pz := bz) S13.out S14.out S9.out S10.out S11.out S12.out F13.out F14.out F9.out F10.out F11.out F12.out (by decide) (HT0.out.below HW23.out)).mono ?_
        rintro _ wf24 ⟨hb, v1, v2, ev, rfl, hans⟩
        have Av := hideIt hans
        have Zv := hideIt (fac2_size hans (K := 33554477) (((F13.out.sub F11.out).mul (F9.out.sub F11.out)).sub ((F14.out.sub F12.out).neg.mul (F10.out.sub F12.out))) (((F13.out.sub F11.out).mul (F10.out.sub F12.out)).add ((F14.out.sub F12.out).neg.mul (F9.out.sub F11.out))))
        clear hans
        have HW25 := hideIt (HW23.out.trans (hb.mono HW23.out.size))
        have Kl25 := hideIt (Kl23.out.below hb Kl23.out.lt)
        have Km25 := hideIt (Km23.out.below hb Km23.out.lt)
        have Kn25 := hideIt (Kn23.out.below hb Kn23.out.lt)
        have Ka25 := hideIt (Ka23.out.below hb Ka23.out.lt)
        have Kb25 := hideIt (Kb23.out.below hb Kb23.out.lt)
        have Kc25 := hideIt (Kc23.out.below hb Kc23.out.lt)
        have KV25 := hideIt (KV23.out.below hb KV23.out.lt)
        have KX25 := hideIt (KX23.out.below hb KX23.out.lt)
        have KY25 := hideIt (KY23.out.below hb KY23.out.lt)
        have KZ25 := hideIt (KZ23.out.below hb KZ23.out.lt)
        have KS25 := hideIt (KS23.out.below hb KS23.out.lt)
        have KT25 := hideIt (KT23.out.below hb KT23.out.lt)
        clear hb
        have dY0 : wf24.cell? ⟨GY, 0, none⟩ = some (.string y1) := KY25.out.cell 0
        have eY0 : wf24.frozen? ⟨GY, 0, none⟩ = false := KY25.out.frozen 0
        have dY1 : wf24.cell? ⟨GY, 1, none⟩ = some (.string y2) := KY25.out.cell 1
        have eY1 : wf24.frozen? ⟨GY, 1, none⟩ = false := KY25.out.frozen 1
        have HW26 := hideIt (Below.put2 HW25.out GEY.out (.string v1) (.string v2) (g := GY))
        have Kl26 := hideIt (Kl25.out.off2 (g := GY) (NEYl.out) (.string v1) (.string v2))
        have Km26 := hideIt (Km25.out.off2 (g := GY) (NEYm.out) (.string v1) (.string v2))
        have Kn26 := hideIt (Kn25.out.off2 (g := GY) (NEYn.out) (.string v1) (.string v2))
        have Ka26 := hideIt (Ka25.out.off2 (g := GY) (NEYa.out) (.string v1) (.string v2))
        have Kb26 := hideIt (Kb25.out.off2 (g := GY) (NEYb.out) (.string v1) (.string v2))
        have Kc26 := hideIt (Kc25.out.off2 (g := GY) (NEYc.out) (.string v1) (.string v2))
        have KV26 := hideIt (KV25.out.off2 (g := GY) (NEYV.out) (.string v1) (.string v2))
        have KX26 := hideIt (KX25.out.off2 (g := GY) (NEYX.out) (.string v1) (.string v2))
        have KY26 := hideIt (KY25.out.put2 (.string v1) (.string v2))
        have KZ26 := hideIt (KZ25.out.off2 (g := GY) (NEZY.out.symm) (.string v1) (.string v2))
        have KS26 := hideIt (KS25.out.off2 (g := GY) (NESY.out.symm) (.string v1) (.string v2))
        have KT26 := hideIt (KT25.out.off2 (g := GY) (NETY.out.symm) (.string v1) (.string v2))
        have da0 : ((wf24.setCell ⟨GY, 0, none⟩ (.string v1)).setCell ⟨GY, 1, none⟩ (.string v2)).cell? ⟨w.heap.size + 1 + 1 + 1, 0, none⟩ = some (.string ax) := Ka26.out.cell 0
        have da1 : ((wf24.setCell ⟨GY, 0, none⟩ (.string v1)).setCell ⟨GY, 1, none⟩ (.string v2)).cell? ⟨w.heap.size + 1 + 1 + 1, 1, none⟩ = some (.string ay) := Ka26.out.cell 1
        have db0 : ((wf24.setCell ⟨GY, 0, none⟩ (.string v1)).setCell ⟨GY, 1, none⟩ (.string v2)).cell? ⟨w.heap.size + 1 + 1 + 1 + 1, 0, none⟩ = some (.string bx) := Kb26.out.cell 0
        have db1 : ((wf24.setCell ⟨GY, 0, none⟩ (.string v1)).setCell ⟨GY, 1, none⟩ (.string v2)).cell? ⟨w.heap.size + 1 + 1 + 1 + 1, 1, none⟩ = some (.string bz) := Kb26.out.cell 1
        have dc0 : ((wf24.setCell ⟨GY, 0, none⟩ (.string v1)).setCell ⟨GY, 1, none⟩ (.string v2)).cell? ⟨w.heap.size + 1 + 1 + 1 + 1 + 1, 0, none⟩ = some (.string cx) := Kc26.out.cell 0
        have dc1 : ((wf24.setCell ⟨GY, 0, none⟩ (.string v1)).setCell ⟨GY, 1, none⟩ (.string v2)).cell? ⟨w.heap.size + 1 + 1 + 1 + 1 + 1, 1, none⟩ = some (.string cy) := Kc26.out.cell 1
        go_wp2_with fail
        generalize ((wf24.setCell ⟨GY, 0, none⟩ (.string v1)).setCell ⟨GY, 1, none⟩ (.string v2)) = wp26 at *
        clear dY0 dY1 da0 da1 db0 db1 dc0 dc1 eY0 eY1
        refine (angSeen_walk (ax := ax) (ay := ay) (bx := bx) (bz := bz) (px := cx) (pz := cy) S9.out S10.out S11.out S12.out S13.out S14.out F9.out F10.out F11.out F12.out F13.out F14.out (by decide) (HT0.out.below HW26.out)).mono ?_
        rintro _ wf27 ⟨hb, k1, k2, ek, rfl, hans⟩
        have Ak := hideIt hans
        have Zk := hideIt (fac2_size hans (K := 33554477) (((F9.out.sub F13.out).mul (F11.out.sub F13.out)).sub ((F10.out.sub F14.out).neg.mul (F12.out.sub F14.out))) (((F9.out.sub F13.out).mul (F12.out.sub F14.out)).add ((F10.out.sub F14.out).neg.mul (F11.out.sub F13.out))))
        clear hans
        have HW28 := hideIt (HW26.out.trans (hb.mono HW26.out.size))
        have Kl28 := hideIt (Kl26.out.below hb Kl26.out.lt)
        have Km28 := hideIt (Km26.out.below hb Km26.out.lt)
        have Kn28 := hideIt (Kn26.out.below hb Kn26.out.lt)
        have Ka28 := hideIt (Ka26.out.below hb Ka26.out.lt)
        have Kb28 := hideIt (Kb26.out.below hb Kb26.out.lt)
        have Kc28 := hideIt (Kc26.out.below hb Kc26.out.lt)
        have KV28 := hideIt (KV26.out.below hb KV26.out.lt)
        have KX28 := hideIt (KX26.out.below hb KX26.out.lt)
        have KY28 := hideIt (KY26.out.below hb KY26.out.lt)
        have KZ28 := hideIt (KZ26.out.below hb KZ26.out.lt)
        have KS28 := hideIt (KS26.out.below hb KS26.out.lt)
        have KT28 := hideIt (KT26.out.below hb KT26.out.lt)
        clear hb
        have dZ0 : wf27.cell? ⟨GZ, 0, none⟩ = some (.string z1) := KZ28.out.cell 0
        have eZ0 : wf27.frozen? ⟨GZ, 0, none⟩ = false := KZ28.out.frozen 0
        have dZ1 : wf27.cell? ⟨GZ, 1, none⟩ = some (.string z2) := KZ28.out.cell 1
        have eZ1 : wf27.frozen? ⟨GZ, 1, none⟩ = false := KZ28.out.frozen 1
        have HW29 := hideIt (Below.put2 HW28.out GEZ.out (.string k1) (.string k2) (g := GZ))
        have Kl29 := hideIt (Kl28.out.off2 (g := GZ) (NEZl.out) (.string k1) (.string k2))
        have Km29 := hideIt (Km28.out.off2 (g := GZ) (NEZm.out) (.string k1) (.string k2))
        have Kn29 := hideIt (Kn28.out.off2 (g := GZ) (NEZn.out) (.string k1) (.string k2))
        have Ka29 := hideIt (Ka28.out.off2 (g := GZ) (NEZa.out) (.string k1) (.string k2))
        have Kb29 := hideIt (Kb28.out.off2 (g := GZ) (NEZb.out) (.string k1) (.string k2))
        have Kc29 := hideIt (Kc28.out.off2 (g := GZ) (NEZc.out) (.string k1) (.string k2))
        have KV29 := hideIt (KV28.out.off2 (g := GZ) (NEZV.out) (.string k1) (.string k2))
        have KX29 := hideIt (KX28.out.off2 (g := GZ) (NEZX.out) (.string k1) (.string k2))
        have KY29 := hideIt (KY28.out.off2 (g := GZ) (NEZY.out) (.string k1) (.string k2))
        have KZ29 := hideIt (KZ28.out.put2 (.string k1) (.string k2))
        have KS29 := hideIt (KS28.out.off2 (g := GZ) (NESZ.out.symm) (.string k1) (.string k2))
        have KT29 := hideIt (KT28.out.off2 (g := GZ) (NETZ.out.symm) (.string k1) (.string k2))
        go_wp2_with fail
        generalize ((wf27.setCell ⟨GZ, 0, none⟩ (.string k1)).setCell ⟨GZ, 1, none⟩ (.string k2)) = wp29 at *
        clear dZ0 dZ1 eZ0 eZ1
        refine (angled_calls wp29 (HT0.out.below HW29.out)).mono ?_
        rintro _ wf30 ⟨hb, rfl⟩
        have HW31 := hideIt (HW29.out.trans (hb.mono HW29.out.size))
        have Kl31 := hideIt (Kl29.out.below hb Kl29.out.lt)
        have Km31 := hideIt (Km29.out.below hb Km29.out.lt)
        have Kn31 := hideIt (Kn29.out.below hb Kn29.out.lt)
        have Ka31 := hideIt (Ka29.out.below hb Ka29.out.lt)
        have Kb31 := hideIt (Kb29.out.below hb Kb29.out.lt)
        have Kc31 := hideIt (Kc29.out.below hb Kc29.out.lt)
        have KV31 := hideIt (KV29.out.below hb KV29.out.lt)
        have KX31 := hideIt (KX29.out.below hb KX29.out.lt)
        have KY31 := hideIt (KY29.out.below hb KY29.out.lt)
        have KZ31 := hideIt (KZ29.out.below hb KZ29.out.lt)
        have KS31 := hideIt (KS29.out.below hb KS29.out.lt)
        have KT31 := hideIt (KT29.out.below hb KT29.out.lt)
        clear hb
        rcases Au.out with ⟨_, heu, _⟩ | ⟨nu, heu, esu, ecu⟩
        · subst heu
          go_wp2_with fail
          refine (angled_calls wf30 (HT0.out.below HW31.out)).mono ?_
          rintro _ wf32 ⟨hb, rfl⟩
          have HW33 := hideIt (HW31.out.trans (hb.mono HW31.out.size))
          have Kl33 := hideIt (Kl31.out.below hb Kl31.out.lt)
          have Km33 := hideIt (Km31.out.below hb Km31.out.lt)
          have Kn33 := hideIt (Kn31.out.below hb Kn31.out.lt)
          have Ka33 := hideIt (Ka31.out.below hb Ka31.out.lt)
          have Kb33 := hideIt (Kb31.out.below hb Kb31.out.lt)
          have Kc33 := hideIt (Kc31.out.below hb Kc31.out.lt)
          have KV33 := hideIt (KV31.out.below hb KV31.out.lt)
          have KX33 := hideIt (KX31.out.below hb KX31.out.lt)
          have KY33 := hideIt (KY31.out.below hb KY31.out.lt)
          have KZ33 := hideIt (KZ31.out.below hb KZ31.out.lt)
          have KS33 := hideIt (KS31.out.below hb KS31.out.lt)
          have KT33 := hideIt (KT31.out.below hb KT31.out.lt)
          clear hb
          go_wp2
          go_ret
          exact ⟨HW33.out, rfl⟩
        · subst heu
          have Nu := hideIt nu
          have Eu := hideIt (And.intro esu ecu)
          clear nu esu ecu
          rcases Av.out with ⟨_, hev, _⟩ | ⟨nv, hev, esv, ecv⟩
          · subst hev
            go_wp2_with fail
            refine (angled_calls wf30 (HT0.out.below HW31.out)).mono ?_
            rintro _ wf32 ⟨hb, rfl⟩
            have HW33 := hideIt (HW31.out.trans (hb.mono HW31.out.size))
            have Kl33 := hideIt (Kl31.out.below hb Kl31.out.lt)
            have Km33 := hideIt (Km31.out.below hb Km31.out.lt)
            have Kn33 := hideIt (Kn31.out.below hb Kn31.out.lt)
            have Ka33 := hideIt (Ka31.out.below hb Ka31.out.lt)
            have Kb33 := hideIt (Kb31.out.below hb Kb31.out.lt)
            have Kc33 := hideIt (Kc31.out.below hb Kc31.out.lt)
            have KV33 := hideIt (KV31.out.below hb KV31.out.lt)
            have KX33 := hideIt (KX31.out.below hb KX31.out.lt)
            have KY33 := hideIt (KY31.out.below hb KY31.out.lt)
            have KZ33 := hideIt (KZ31.out.below hb KZ31.out.lt)
            have KS33 := hideIt (KS31.out.below hb KS31.out.lt)
            have KT33 := hideIt (KT31.out.below hb KT31.out.lt)
            clear hb
            go_wp2
            go_ret
            exact ⟨HW33.out, rfl⟩
          · subst hev
            have Nv := hideIt nv
            have Ev := hideIt (And.intro esv ecv)
            clear nv esv ecv
            rcases Ak.out with ⟨_, hek, _⟩ | ⟨nk, hek, esk, eck⟩
            · subst hek
              go_wp2_with fail
              refine (angled_calls wf30 (HT0.out.below HW31.out)).mono ?_
              rintro _ wf32 ⟨hb, rfl⟩
              have HW33 := hideIt (HW31.out.trans (hb.mono HW31.out.size))
              have Kl33 := hideIt (Kl31.out.below hb Kl31.out.lt)
              have Km33 := hideIt (Km31.out.below hb Km31.out.lt)
              have Kn33 := hideIt (Kn31.out.below hb Kn31.out.lt)
              have Ka33 := hideIt (Ka31.out.below hb Ka31.out.lt)
              have Kb33 := hideIt (Kb31.out.below hb Kb31.out.lt)
              have Kc33 := hideIt (Kc31.out.below hb Kc31.out.lt)
              have KV33 := hideIt (KV31.out.below hb KV31.out.lt)
              have KX33 := hideIt (KX31.out.below hb KX31.out.lt)
              have KY33 := hideIt (KY31.out.below hb KY31.out.lt)
              have KZ33 := hideIt (KZ31.out.below hb KZ31.out.lt)
              have KS33 := hideIt (KS31.out.below hb KS31.out.lt)
              have KT33 := hideIt (KT31.out.below hb KT31.out.lt)
              clear hb
              go_wp2
              go_ret
              exact ⟨HW33.out, rfl⟩
            · subst hek
              have Nk := hideIt nk
              have Ek := hideIt (And.intro esk eck)
              clear nk esk eck
              have Qu : Hid (QS 100663432 (rd u2.data.toList) ∧ QS 100663432 (rd u1.data.toList) ∧ u2.data.toList.length ≤ 4294967296 ∧ u1.data.toList.length ≤ 4294967296 ∧ True) := by
                obtain ⟨h1, h2, h3, h4⟩ := Zu.out
                exact ⟨h1.mono (by omega), h2.mono (by omega), by omega, by omega, trivial⟩
              have Qv : Hid (QS 100663432 (rd v2.data.toList) ∧ QS 100663432 (rd v1.data.toList) ∧ v2.data.toList.length ≤ 4294967296 ∧ v1.data.toList.length ≤ 4294967296 ∧ True) := by
                obtain ⟨h1, h2, h3, h4⟩ := Zv.out
                exact ⟨h1.mono (by omega), h2.mono (by omega), by omega, by omega, trivial⟩
              have Qk : Hid (QS 100663432 (rd k2.data.toList) ∧ QS 100663432 (rd k1.data.toList) ∧ k2.data.toList.length ≤ 4294967296 ∧ k1.data.toList.length ≤ 4294967296 ∧ True) := by
                obtain ⟨h1, h2, h3, h4⟩ := Zk.out
                exact ⟨h1.mono (by omega), h2.mono (by omega), by omega, by omega, trivial⟩
              have dX0 : wf30.cell? ⟨GX, 0, none⟩ = some (.string u1) := KX31.out.cell 0
              have dX1 : wf30.cell? ⟨GX, 1, none⟩ = some (.string u2) := KX31.out.cell 1
              have dY0 : wf30.cell? ⟨GY, 0, none⟩ = some (.string v1) := KY31.out.cell 0
              have dY1 : wf30.cell? ⟨GY, 1, none⟩ = some (.string v2) := KY31.out.cell 1
              go_wp2_with fail
              refine (angSum_calls (va := .agg #[.string u1, .string u2]) (vb := .agg #[.string v1, .string v2]) ⟨u1, u2, rfl, rfl, rfl⟩ ⟨v1, v2, rfl, rfl, rfl⟩ Qu.out.2.2.2.1 Qu.out.2.2.1 Qv.out.2.2.2.1 Qv.out.2.2.1 (k := 100663432) Qu.out.1 Qu.out.2.1 Qv.out.1 Qv.out.2.1 (by decide) (HT0.out.below HW31.out)).mono ?_
              rintro _ wf32 ⟨hb, s1, s2, h, rfl, hans⟩
              have As := hideIt hans
              clear hans
              have HW33 := hideIt (HW31.out.trans (hb.mono HW31.out.size))
              have Kl33 := hideIt (Kl31.out.below hb Kl31.out.lt)
              have Km33 := hideIt (Km31.out.below hb Km31.out.lt)
              have Kn33 := hideIt (Kn31.out.below hb Kn31.out.lt)
              have Ka33 := hideIt (Ka31.out.below hb Ka31.out.lt)
              have Kb33 := hideIt (Kb31.out.below hb Kb31.out.lt)
              have Kc33 := hideIt (Kc31.out.below hb Kc31.out.lt)
              have KV33 := hideIt (KV31.out.below hb KV31.out.lt)
              have KX33 := hideIt (KX31.out.below hb KX31.out.lt)
              have KY33 := hideIt (KY31.out.below hb KY31.out.lt)
              have KZ33 := hideIt (KZ31.out.below hb KZ31.out.lt)
              have KS33 := hideIt (KS31.out.below hb KS31.out.lt)
              have KT33 := hideIt (KT31.out.below hb KT31.out.lt)
              clear hb
              clear dX0 dX1 dY0 dY1
              have Zs := hideIt (fac2_size As.out (K := 402653729) ((Qu.out.1.mul Qv.out.1).sub (Qu.out.2.1.mul Qv.out.2.1)) ((Qu.out.1.mul Qv.out.2.1).add (Qu.out.2.1.mul Qv.out.1)))
              have cZ0 : ∀ o, (wf32.alloc o).cell? ⟨GZ, 0, none⟩ = some (.string k1) := fun o => (KZ33.out.old o).cell 0
              have dZ0 : wf32.cell? ⟨GZ, 0, none⟩ = some (.string k1) := KZ33.out.cell 0
              have cZ1 : ∀ o, (wf32.alloc o).cell? ⟨GZ, 1, none⟩ = some (.string k2) := fun o => (KZ33.out.old o).cell 1
              have dZ1 : wf32.cell? ⟨GZ, 1, none⟩ = some (.string k2) := KZ33.out.cell 1
              go_wp2_with fail
              obtain ⟨wb34, hwb34⟩ : ∃ wb34, wb34 = wf32.alloc (.cells #[.string s1, .string s2] 28) := ⟨_, rfl⟩
              have hbA := below_new wf32 (.cells #[.string s1, .string s2] 28)
              have KN := hideIt (Blk.new wf32 #[.string s1, .string s2] 28)
              rw [← hwb34] at hbA KN ⊢
              obtain ⟨GSF, hGSF⟩ : ∃ GSF, GSF = wf32.heap.size := ⟨_, rfl⟩
              rw [← hGSF] at KN ⊢
              have NESFl : Hid (GSF ≠ w.heap.size) := by have := Kl33.out.lt; rw [hGSF]; exact Nat.ne_of_gt this
              have NESFm : Hid (GSF ≠ w.heap.size + 1) := by have := Km33.out.lt; rw [hGSF]; exact Nat.ne_of_gt this
              have NESFn : Hid (GSF ≠ w.heap.size + 1 + 1) := by have := Kn33.out.lt; rw [hGSF]; exact Nat.ne_of_gt this
              have NESFa : Hid (GSF ≠ w.heap.size + 1 + 1 + 1) := by have := Ka33.out.lt; rw [hGSF]; exact Nat.ne_of_gt this
              have NESFb : Hid (GSF ≠ w.heap.size + 1 + 1 + 1 + 1) := by have := Kb33.out.lt; rw [hGSF]; exact Nat.ne_of_gt this
              have NESFc : Hid (GSF ≠ w.heap.size + 1 + 1 + 1 + 1 + 1) := by have := Kc33.out.lt; rw [hGSF]; exact Nat.ne_of_gt this
              have NESFV : Hid (GSF ≠ w.heap.size + 1 + 1 + 1 + 1 + 1 + 1) := by have := KV33.out.lt; rw [hGSF]; exact Nat.ne_of_gt this
              have NESFX : Hid (GSF ≠ GX) := by have := KX33.out.lt; rw [hGSF]; exact Nat.ne_of_gt this
              have NESFY : Hid (GSF ≠ GY) := by have := KY33.out.lt; rw [hGSF]; exact Nat.ne_of_gt this
              have NESFZ : Hid (GSF ≠ GZ) := by have := KZ33.out.lt; rw [hGSF]; exact Nat.ne_of_gt this
              have NESFS : Hid (GSF ≠ GS) := by have := KS33.out.lt; rw [hGSF]; exact Nat.ne_of_gt this
              have NESFT : Hid (GSF ≠ GT) := by have := KT33.out.lt; rw [hGSF]; exact Nat.ne_of_gt this
              have GESF : Hid (w.heap.size ≤ GSF) := by have := HW33.out.size; rw [hGSF]; exact this
              clear hGSF hwb34 cZ0 dZ0 cZ1 dZ1
              have HW35 := hideIt (HW33.out.trans (hbA.mono HW33.out.size))
              have Kl35 := hideIt (Kl33.out.below hbA Kl33.out.lt)
              have Km35 := hideIt (Km33.out.below hbA Km33.out.lt)
              have Kn35 := hideIt (Kn33.out.below hbA Kn33.out.lt)
              have Ka35 := hideIt (Ka33.out.below hbA Ka33.out.lt)
              have Kb35 := hideIt (Kb33.out.below hbA Kb33.out.lt)
              have Kc35 := hideIt (Kc33.out.below hbA Kc33.out.lt)
              have KV35 := hideIt (KV33.out.below hbA KV33.out.lt)
              have KX35 := hideIt (KX33.out.below hbA KX33.out.lt)
              have KY35 := hideIt (KY33.out.below hbA KY33.out.lt)
              have KZ35 := hideIt (KZ33.out.below hbA KZ33.out.lt)
              have KS35 := hideIt (KS33.out.below hbA KS33.out.lt)
              have KT35 := hideIt (KT33.out.below hbA KT33.out.lt)
              have KSFn34 := hideIt KN.out
              clear hbA KN
              have Qs : Hid (QS 1207961188 (rd s2.data.toList) ∧ QS 1207961188 (rd s1.data.toList) ∧ s2.data.toList.length ≤ 4294967296 ∧ s1.data.toList.length ≤ 4294967296 ∧ True) := by
                obtain ⟨h1, h2, h3, h4⟩ := Zs.out
                exact ⟨h1.mono (by omega), h2.mono (by omega), by omega, by omega, trivial⟩
              have Rk : Hid (QS 1207961188 (rd k2.data.toList) ∧ QS 1207961188 (rd k1.data.toList) ∧ k2.data.toList.length ≤ 4294967296 ∧ k1.data.toList.length ≤ 4294967296 ∧ True) := ⟨Qk.out.1.mono (by omega), Qk.out.2.1.mono (by omega), Qk.out.2.2⟩
              refine (angSum_calls (va := .agg #[.string s1, .string s2]) (vb := .agg #[.string k1, .string k2]) ⟨s1, s2, rfl, rfl, rfl⟩ ⟨k1, k2, rfl, rfl, rfl⟩ Qs.out.2.2.2.1 Qs.out.2.2.1 Rk.out.2.2.2.1 Rk.out.2.2.1 (k := 1207961188) Qs.out.1 Qs.out.2.1 Rk.out.1 Rk.out.2.1 (by decide) (HT0.out.below HW35.out)).mono ?_
              rintro _ wf36 ⟨hb, t1, t2, i, rfl, hans⟩
              have At := hideIt hans
              clear hans
              have HW37 := hideIt (HW35.out.trans (hb.mono HW35.out.size))
              have Kl37 := hideIt (Kl35.out.below hb Kl35.out.lt)
              have Km37 := hideIt (Km35.out.below hb Km35.out.lt)
              have Kn37 := hideIt (Kn35.out.below hb Kn35.out.lt)
              have Ka37 := hideIt (Ka35.out.below hb Ka35.out.lt)
              have Kb37 := hideIt (Kb35.out.below hb Kb35.out.lt)
              have Kc37 := hideIt (Kc35.out.below hb Kc35.out.lt)
              have KV37 := hideIt (KV35.out.below hb KV35.out.lt)
              have KX37 := hideIt (KX35.out.below hb KX35.out.lt)
              have KY37 := hideIt (KY35.out.below hb KY35.out.lt)
              have KZ37 := hideIt (KZ35.out.below hb KZ35.out.lt)
              have KS37 := hideIt (KS35.out.below hb KS35.out.lt)
              have KT37 := hideIt (KT35.out.below hb KT35.out.lt)
              have KSF37 := hideIt (KSFn34.out.below hb KSFn34.out.lt)
              clear hb
              obtain ⟨hh, hi, e1, e2⟩ := three (conj_ne Nu.out) (conj_ne Nv.out) (conj_ne Nk.out) (tri_im _ _ _ _ _ _) Eu.out Ev.out Ek.out As.out At.out
              subst hh
              subst hi
              obtain rfl := bytes_eq e1
              obtain rfl := bytes_eq e2
              clear e1 e2
              have cV0 : ∀ o, (wf36.alloc o).cell? ⟨w.heap.size + 1 + 1 + 1 + 1 + 1 + 1, 0, none⟩ = some (.string ⟨#[48]⟩) := fun o => (KV37.out.old o).cell 0
              have dV0 : wf36.cell? ⟨w.heap.size + 1 + 1 + 1 + 1 + 1 + 1, 0, none⟩ = some (.string ⟨#[48]⟩) := KV37.out.cell 0
              have cV1 : ∀ o, (wf36.alloc o).cell? ⟨w.heap.size + 1 + 1 + 1 + 1 + 1 + 1, 1, none⟩ = some (.string ⟨#[49]⟩) := fun o => (KV37.out.old o).cell 1
              have dV1 : wf36.cell? ⟨w.heap.size + 1 + 1 + 1 + 1 + 1 + 1, 1, none⟩ = some (.string ⟨#[49]⟩) := KV37.out.cell 1
              go_wp2
              go_ret
              exact ⟨HW37.out.alloc HW37.out.size _, rfl⟩

end Go.Proofs.YtchjiigndobjnaaGreatDoor
