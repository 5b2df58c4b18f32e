/- Part 12 of the walks of the packages num, way, ruler, line and plane, and of the mathematics under them: WP WQ WR WS. -/
import Derived.Test.YtllmfakelodpiaaGreatDoorA11
import Derived.Deep.Cut
/- Walks of package line: Through. -/
namespace Go.Proofs.YtllmfakelodpiaaGreatDoor
open Go.RowKit Cx

attribute [local go_sem ↓] Go.wp_at_zero Go.wp_at_succ

/-- What is answered for the line of x, y and c: in plain form, or that it is none. -/
def LineAns (x y c : Rat) (la lb lc : List UInt8) (z : Int) : Prop :=
  (x = 0 ∧ y = 0 ∧ z = 5 ∧ la = [] ∧ lb = [] ∧ lc = []) ∨ (¬ (x = 0 ∧ y = 0) ∧ z = 0 ∧ la = tx (x * fac [x, y, c]) ∧ lb = tx (y * fac [x, y, c]) ∧ lc = tx (c * fac [x, y, c]))

theorem square_ans {w : World} {va vb : Value} {px py ax ay : Rat} (ha : WV w va px py) (hb : WV w vb ax ay) {k l : Nat} (f1 : QS k ax) (f2 : QS k ay) (f3 : QS l px) (f4 : QS l py) (hk : 20 * (k + l + 1) ≤ 35184372088640) (tab : Tab w) :
    Calls Tryz.prog 10 #[va, vb] w fun e w' => Below w.heap.size w w' ∧ ∃ (sa sb sc : ByteArray) (z : Int), e = .returned (.tuple #[.agg #[.string sa, .string sb, .string sc], .int .i64 z]) ∧ LineAns ax ay (-(ax * px + ay * py)) sa.data.toList sb.data.toList sc.data.toList z := by
  refine (square_calls ha hb f1 f2 f3 f4 hk tab).mono ?_
  rintro e w' ⟨hbel, ⟨h1, h2, rfl⟩ | ⟨hn, v, rfl, sa, sb, sc, rfl, t1, t2, t3⟩⟩
  · exact ⟨hbel, _, _, _, _, rfl, Or.inl ⟨h1, h2, rfl, rfl, rfl, rfl⟩⟩
  · exact ⟨hbel, _, _, _, _, rfl, Or.inr ⟨hn, rfl, t1, t2, t3⟩⟩

set_option maxHeartbeats 8000000 in
set_option maxRecDepth 100000 in
theorem through_walk {w : World} {px py qx qy : ByteArray} (s1 : px.data.toList.length ≤ 1048576) (s2 : py.data.toList.length ≤ 1048576) (s3 : qx.data.toList.length ≤ 1048576) (s4 : qy.data.toList.length ≤ 1048576) (tab : Tab w) :
    Calls Tryz.prog 4 #[.agg #[.string px, .string py], .agg #[.string qx, .string qy]] w fun e w' => Below w.heap.size w w' ∧ ∃ (sa sb sc : ByteArray) (z : Int), e = .returned (.tuple #[.agg #[.string sa, .string sb, .string sc], .int .i64 z]) ∧ LineAns (-(rd qy.data.toList - rd py.data.toList)) (rd qx.data.toList - rd px.data.toList) (-(-(rd qy.data.toList - rd py.data.toList) * rd px.data.toList + (rd qx.data.toList - rd px.data.toList) * rd py.data.toList)) sa.data.toList sb.data.toList sc.data.toList z := by
  obtain ⟨hb0, hk0, hk1, hk2, hsz⟩ := boxes3 w #[.string px, .string py] #[.string qx, .string qy] #[.string ⟨#[]⟩, .string ⟨#[]⟩, .string ⟨#[]⟩] 24 24 26
  have HB0 := hideIt hb0
  have HSZ := hideIt hsz
  have HK0 := hideIt hk0
  have HK1 := hideIt hk1
  have HK2 := hideIt hk2
  have HTAB := hideIt (tab.below hb0)
  have S1 := hideIt s1
  have S2 := hideIt s2
  have S3 := hideIt s3
  have S4 := hideIt s4
  have L1 : Hid (px.data.toList.length ≤ 4294967296) := by have := S1.out; show _ ≤ _; omega
  have L2 : Hid (py.data.toList.length ≤ 4294967296) := by have := S2.out; show _ ≤ _; omega
  have L3 : Hid (qx.data.toList.length ≤ 4294967296) := by have := S3.out; show _ ≤ _; omega
  have L4 : Hid (qy.data.toList.length ≤ 4294967296) := by have := S4.out; show _ ≤ _; omega
  clear hb0 hsz hk0 hk1 hk2 tab s1 s2 s3 s4
  go_enter Tryz.func4, Tryz.ntmps4
  go_wp2_with fail
  generalize (((w.alloc (.cells #[.string px, .string py] 24)).alloc (.cells #[.string qx, .string qy] 24)).alloc (.cells #[.string ⟨#[]⟩, .string ⟨#[]⟩, .string ⟨#[]⟩] 26)) = W0 at *
  have HS : Hid (∀ w', Below W0.heap.size W0 w' → w'.cell? ⟨w.heap.size, 0, none⟩ = some (.string px) ∧ w'.cell? ⟨w.heap.size, 1, none⟩ = some (.string py) ∧ w'.cell? ⟨w.heap.size + 1, 0, none⟩ = some (.string qx) ∧ w'.cell? ⟨w.heap.size + 1, 1, none⟩ = some (.string qy)) := fun w' hb => ⟨(HK0.out.below hb (by rw [HSZ.out]; omega)).cell 0, (HK0.out.below hb (by rw [HSZ.out]; omega)).cell 1, (HK1.out.below hb (by rw [HSZ.out]; omega)).cell 0, (HK1.out.below hb (by rw [HSZ.out]; omega)).cell 1⟩
  obtain ⟨z0, z1, z2, z3⟩ := HS.out W0 (Below.refl _ _)
  go_cut [6, 7] from 8 (fun p q wc => Two W0 p q wc (rd px.data.toList) (rd py.data.toList) (rd qx.data.toList) (rd qy.data.toList))
  case first =>
    go_region_held3 (fun w' => w'.cell? ⟨w.heap.size, 0, none⟩ = some (.string px) ∧ w'.cell? ⟨w.heap.size, 1, none⟩ = some (.string py) ∧ w'.cell? ⟨w.heap.size + 1, 0, none⟩ = some (.string qx) ∧ w'.cell? ⟨w.heap.size + 1, 1, none⟩ = some (.string qy)) ((refine HS.out _ ?_; repeat' (first | with_reducible exact hbl2 | with_reducible exact hbl1 | with_reducible exact Below.refl _ _ | with_reducible refine Below.drew ?_ | with_reducible refine Below.alloc ?_ ?_ _ | with_reducible refine Below.put6 ?_ ?_ _ _ _ _ _ _ | (simp; done) | (simp; omega) | omega)))
      (first
        | (go_at_call_of 9 (Value.agg #[Value.string px, Value.string py]); refine (wayRead_calls ⟨px, py, rfl, rfl, rfl⟩ L1.out L2.out).mono ?_; rintro e w1 ⟨hb1, v1, rfl, hv1⟩; obtain ⟨d1, e1, rfl, hx1, hy1⟩ := hv1; (first | (have hbl1 : Below W0.heap.size W0 w1 := (Below.drew (Below.refl _ W0)).trans hb1) | (have hbl1 : Below W0.heap.size W0 w1 := (Below.drew (below_new W0 (.cells #[.bool false, .slice none 0 0, .slice none 0 0, .bool false, .slice none 0 0, .slice none 0 0] 41))).trans (hb1.mono (Nat.le_of_lt (Blk.new W0 #[.bool false, .slice none 0 0, .slice none 0 0, .bool false, .slice none 0 0, .slice none 0 0] 41).lt)); have hA1 := (show Blk (W0.alloc (.cells #[.bool false, .slice none 0 0, .slice none 0 0, .bool false, .slice none 0 0, .slice none 0 0] 41)).drew W0.heap.size #[.bool false, .slice none 0 0, .slice none 0 0, .bool false, .slice none 0 0, .slice none 0 0] 41 from Blk.new W0 #[.bool false, .slice none 0 0, .slice none 0 0, .bool false, .slice none 0 0, .slice none 0 0] 41).below hb1 (Blk.new W0 #[.bool false, .slice none 0 0, .slice none 0 0, .bool false, .slice none 0 0, .slice none 0 0] 41).lt) | (have hbl1 : Below W0.heap.size W0 w1 := (Below.drew (boxes2 W0 #[.bool false, .slice none 0 0, .slice none 0 0, .bool false, .slice none 0 0, .slice none 0 0] #[.bool false, .slice none 0 0, .slice none 0 0, .bool false, .slice none 0 0, .slice none 0 0] 41 41).1).trans (hb1.mono (boxes2 W0 #[.bool false, .slice none 0 0, .slice none 0 0, .bool false, .slice none 0 0, .slice none 0 0] #[.bool false, .slice none 0 0, .slice none 0 0, .bool false, .slice none 0 0, .slice none 0 0] 41 41).1.size); have hA1 := (show Blk ((W0.alloc (.cells #[.bool false, .slice none 0 0, .slice none 0 0, .bool false, .slice none 0 0, .slice none 0 0] 41)).alloc (.cells #[.bool false, .slice none 0 0, .slice none 0 0, .bool false, .slice none 0 0, .slice none 0 0] 41)).drew W0.heap.size #[.bool false, .slice none 0 0, .slice none 0 0, .bool false, .slice none 0 0, .slice none 0 0] 41 from (boxes2 W0 #[.bool false, .slice none 0 0, .slice none 0 0, .bool false, .slice none 0 0, .slice none 0 0] #[.bool false, .slice none 0 0, .slice none 0 0, .bool false, .slice none 0 0, .slice none 0 0] 41 41).2.1).below hb1 (boxes2 W0 #[.bool false, .slice none 0 0, .slice none 0 0, .bool false, .slice none 0 0, .slice none 0 0] #[.bool false, .slice none 0 0, .slice none 0 0, .bool false, .slice none 0 0, .slice none 0 0] 41 41).2.1.lt; have hB1 := (show Blk ((W0.alloc (.cells #[.bool false, .slice none 0 0, .slice none 0 0, .bool false, .slice none 0 0, .slice none 0 0] 41)).alloc (.cells #[.bool false, .slice none 0 0, .slice none 0 0, .bool false, .slice none 0 0, .slice none 0 0] 41)).drew (W0.heap.size + 1) #[.bool false, .slice none 0 0, .slice none 0 0, .bool false, .slice none 0 0, .slice none 0 0] 41 from (boxes2 W0 #[.bool false, .slice none 0 0, .slice none 0 0, .bool false, .slice none 0 0, .slice none 0 0] #[.bool false, .slice none 0 0, .slice none 0 0, .bool false, .slice none 0 0, .slice none 0 0] 41 41).2.2.1).below hb1 (boxes2 W0 #[.bool false, .slice none 0 0, .slice none 0 0, .bool false, .slice none 0 0, .slice none 0 0] #[.bool false, .slice none 0 0, .slice none 0 0, .bool false, .slice none 0 0, .slice none 0 0] 41 41).2.2.1.lt)); have hz1 := hbl1.size)
        | (go_at_call_of 9 (Value.agg #[Value.string qx, Value.string qy]); refine (wayRead_calls ⟨qx, qy, rfl, rfl, rfl⟩ L3.out L4.out).mono ?_; rintro e w2 ⟨hb2, v2, rfl, hv2⟩; obtain ⟨d2, e2, rfl, hx2, hy2⟩ := hv2; (first | (have hc2 : Below w1.heap.size w1 w2 := hb2) | (have hc2 : Below w1.heap.size w1 w2 := (below_new w1 (.cells #[.bool false, .slice none 0 0, .slice none 0 0, .bool false, .slice none 0 0, .slice none 0 0] 41)).trans (hb2.mono (Nat.le_of_lt (Blk.new w1 #[.bool false, .slice none 0 0, .slice none 0 0, .bool false, .slice none 0 0, .slice none 0 0] 41).lt)); have hC2 := (Blk.new w1 #[.bool false, .slice none 0 0, .slice none 0 0, .bool false, .slice none 0 0, .slice none 0 0] 41).below hb2 (Blk.new w1 #[.bool false, .slice none 0 0, .slice none 0 0, .bool false, .slice none 0 0, .slice none 0 0] 41).lt) | (have hc2 : Below w1.heap.size w1 w2 := (boxes2 w1 #[.bool false, .slice none 0 0, .slice none 0 0, .bool false, .slice none 0 0, .slice none 0 0] #[.bool false, .slice none 0 0, .slice none 0 0, .bool false, .slice none 0 0, .slice none 0 0] 41 41).1.trans (hb2.mono (boxes2 w1 #[.bool false, .slice none 0 0, .slice none 0 0, .bool false, .slice none 0 0, .slice none 0 0] #[.bool false, .slice none 0 0, .slice none 0 0, .bool false, .slice none 0 0, .slice none 0 0] 41 41).1.size); have hC2 := (boxes2 w1 #[.bool false, .slice none 0 0, .slice none 0 0, .bool false, .slice none 0 0, .slice none 0 0] #[.bool false, .slice none 0 0, .slice none 0 0, .bool false, .slice none 0 0, .slice none 0 0] 41 41).2.1.below hb2 (boxes2 w1 #[.bool false, .slice none 0 0, .slice none 0 0, .bool false, .slice none 0 0, .slice none 0 0] #[.bool false, .slice none 0 0, .slice none 0 0, .bool false, .slice none 0 0, .slice none 0 0] 41 41).2.1.lt; have hD2 := (boxes2 w1 #[.bool false, .slice none 0 0, .slice none 0 0, .bool false, .slice none 0 0, .slice none 0 0] #[.bool false, .slice none 0 0, .slice none 0 0, .bool false, .slice none 0 0, .slice none 0 0] 41 41).2.2.1.below hb2 (boxes2 w1 #[.bool false, .slice none 0 0, .slice none 0 0, .bool false, .slice none 0 0, .slice none 0 0] #[.bool false, .slice none 0 0, .slice none 0 0, .bool false, .slice none 0 0, .slice none 0 0] 41 41).2.2.1.lt)); have hbl2 := hbl1.trans (hc2.mono hz1); have hz2 := hc2.size; (try have hA2 := hA1.below hc2 hA1.lt); (try have hB2 := hB1.below hc2 hB1.lt); (try have lA1 := hA1.lt); (try have lB1 := hB1.lt); (try have lA2 := hA2.lt); (try have lB2 := hB2.lt); (try have lC2 := hC2.lt); (try have lD2 := hD2.lt); (try obtain ⟨ra0, ra1, ra2, ra3, ra4, ra5, ra6, ra7, ra8, ra9, ra10, ra11⟩ := hA2.all6); (try obtain ⟨rb0, rb1, rb2, rb3, rb4, rb5, rb6, rb7, rb8, rb9, rb10, rb11⟩ := hB2.all6); (try obtain ⟨rc0, rc1, rc2, rc3, rc4, rc5, rc6, rc7, rc8, rc9, rc10, rc11⟩ := hC2.all6); (try obtain ⟨re0, re1, re2, re3, re4, re5, re6, re7, re8, re9, re10, re11⟩ := hD2.all6))
        )
    all_goals
      go_wp2_with fail
      go_meet
      first
        | with_reducible exact Two.new hbl2 (hx1.below hc2) (hy1.below hc2) hx2 hy2
        | with_reducible exact Two.new' hbl2 (hx1.below hc2) (hy1.below hc2) hx2 hy2
        | with_reducible exact Two.half hA2 (Nat.le_refl _) hbl2 (hx1.below hc2) (hy1.below hc2) hx2 hy2
        | with_reducible exact Two.half' hA2 (Nat.le_refl _) hbl2 (hx1.below hc2) (hy1.below hc2) hx2 hy2
        | with_reducible exact Two.half hC2 hz1 hbl2 (hx1.below hc2) (hy1.below hc2) hx2 hy2
        | with_reducible exact Two.half' hC2 hz1 hbl2 (hx1.below hc2) (hy1.below hc2) hx2 hy2
        | with_reducible exact Two.both hA2 hB2 (Nat.ne_of_lt (Nat.lt_succ_self _)) (Nat.le_refl _) (Nat.le_succ _) hbl2 (hx1.below hc2) (hy1.below hc2) hx2 hy2
        | with_reducible exact Two.both hB2 hA2 (Nat.ne_of_gt (Nat.lt_succ_self _)) (Nat.le_succ _) (Nat.le_refl _) hbl2 (hx1.below hc2) (hy1.below hc2) hx2 hy2
        | with_reducible exact Two.both hA2 hC2 (Nat.ne_of_lt lA1) (Nat.le_refl _) hz1 hbl2 (hx1.below hc2) (hy1.below hc2) hx2 hy2
        | with_reducible exact Two.both hC2 hA2 (Nat.ne_of_gt lA1) hz1 (Nat.le_refl _) hbl2 (hx1.below hc2) (hy1.below hc2) hx2 hy2
        | with_reducible exact Two.both hC2 hD2 (Nat.ne_of_lt (Nat.lt_succ_self _)) hz1 (Nat.le_succ_of_le hz1) hbl2 (hx1.below hc2) (hy1.below hc2) hx2 hy2
        | with_reducible exact Two.both hD2 hC2 (Nat.ne_of_gt (Nat.lt_succ_self _)) (Nat.le_succ_of_le hz1) hz1 hbl2 (hx1.below hc2) (hy1.below hc2) hx2 hy2
  case rest =>
    obtain ⟨G, H, rfl, rfl, hG, hH, hbl, d, e, f, g, hkG, hkH, hx, hy, hz, ht⟩ := hcut
    have HKG := hideIt hkG
    have HKH := hideIt hkH
    have HX := hideIt hx
    have HY := hideIt hy
    have HZ := hideIt hz
    have HT := hideIt ht
    have HBL := hideIt hbl
    have F1 : Hid (QS 4194309 (rd px.data.toList)) := (QS.rd _).mono (by have := S1.out; omega)
    have F2 : Hid (QS 4194309 (rd py.data.toList)) := (QS.rd _).mono (by have := S2.out; omega)
    have F3 : Hid (QS 4194309 (rd qx.data.toList)) := (QS.rd _).mono (by have := S3.out; omega)
    have F4 : Hid (QS 4194309 (rd qy.data.toList)) := (QS.rd _).mono (by have := S4.out; omega)
    have F5 : Hid (QS (4194309 + 4194309 + 1) (-(rd qy.data.toList - rd py.data.toList))) := (F4.out.sub F2.out).neg
    have F6 : Hid (QS (4194309 + 4194309 + 1) (rd qx.data.toList - rd px.data.toList)) := F3.out.sub F1.out
    have K1 : Hid (4194309 + 4194309 + 1 ≤ 35184372088640) := by show _ ≤ _; omega
    have K2 : Hid (20 * (4194309 + 4194309 + 1 + 4194309 + 1) ≤ 35184372088640) := by show _ ≤ _; omega
    have HTC := hideIt (HTAB.out.below hbl)
    have HS2 : Hid (∀ w', Below wc.heap.size wc w' → w'.cell? ⟨G, 0, none⟩ = some (.bool d.n) ∧ w'.cell? ⟨G, 1, none⟩ = some (.slice d.u d.nu d.cu) ∧ w'.cell? ⟨G, 2, none⟩ = some (.slice d.l d.nl d.cl) ∧ w'.cell? ⟨G, 3, none⟩ = some (.bool e.n) ∧ w'.cell? ⟨G, 4, none⟩ = some (.slice e.u e.nu e.cu) ∧ w'.cell? ⟨G, 5, none⟩ = some (.slice e.l e.nl e.cl) ∧ w'.cell? ⟨H, 0, none⟩ = some (.bool f.n) ∧ w'.cell? ⟨H, 1, none⟩ = some (.slice f.u f.nu f.cu) ∧ w'.cell? ⟨H, 2, none⟩ = some (.slice f.l f.nl f.cl) ∧ w'.cell? ⟨H, 3, none⟩ = some (.bool g.n) ∧ w'.cell? ⟨H, 4, none⟩ = some (.slice g.u g.nu g.cu) ∧ w'.cell? ⟨H, 5, none⟩ = some (.slice g.l g.nl g.cl)) := fun w' hb => ⟨(HKG.out.below hb HKG.out.lt).cell 0, (HKG.out.below hb HKG.out.lt).cell 1, (HKG.out.below hb HKG.out.lt).cell 2, (HKG.out.below hb HKG.out.lt).cell 3, (HKG.out.below hb HKG.out.lt).cell 4, (HKG.out.below hb HKG.out.lt).cell 5, (HKH.out.below hb HKH.out.lt).cell 0, (HKH.out.below hb HKH.out.lt).cell 1, (HKH.out.below hb HKH.out.lt).cell 2, (HKH.out.below hb HKH.out.lt).cell 3, (HKH.out.below hb HKH.out.lt).cell 4, (HKH.out.below hb HKH.out.lt).cell 5⟩
    have HRS : Hid (w.heap.size + 1 + 1 ≠ G ∧ w.heap.size + 1 + 1 ≠ H) := by
      have := HSZ.out
      show _ ∧ _
      omega
    have HSS2 : Hid (∀ w', Below wc.heap.size wc w' → ∀ x0 x1 x2 : Value, (((w'.setCell ⟨w.heap.size + 1 + 1, 0, none⟩ (x0)).setCell ⟨w.heap.size + 1 + 1, 1, none⟩ (x1)).setCell ⟨w.heap.size + 1 + 1, 2, none⟩ (x2)).cell? ⟨G, 0, none⟩ = some (.bool d.n) ∧ (((w'.setCell ⟨w.heap.size + 1 + 1, 0, none⟩ (x0)).setCell ⟨w.heap.size + 1 + 1, 1, none⟩ (x1)).setCell ⟨w.heap.size + 1 + 1, 2, none⟩ (x2)).cell? ⟨G, 1, none⟩ = some (.slice d.u d.nu d.cu) ∧ (((w'.setCell ⟨w.heap.size + 1 + 1, 0, none⟩ (x0)).setCell ⟨w.heap.size + 1 + 1, 1, none⟩ (x1)).setCell ⟨w.heap.size + 1 + 1, 2, none⟩ (x2)).cell? ⟨G, 2, none⟩ = some (.slice d.l d.nl d.cl) ∧ (((w'.setCell ⟨w.heap.size + 1 + 1, 0, none⟩ (x0)).setCell ⟨w.heap.size + 1 + 1, 1, none⟩ (x1)).setCell ⟨w.heap.size + 1 + 1, 2, none⟩ (x2)).cell? ⟨G, 3, none⟩ = some (.bool e.n) ∧ (((w'.setCell ⟨w.heap.size + 1 + 1, 0, none⟩ (x0)).setCell ⟨w.heap.size + 1 + 1, 1, none⟩ (x1)).setCell ⟨w.heap.size + 1 + 1, 2, none⟩ (x2)).cell? ⟨G, 4, none⟩ = some (.slice e.u e.nu e.cu) ∧ (((w'.setCell ⟨w.heap.size + 1 + 1, 0, none⟩ (x0)).setCell ⟨w.heap.size + 1 + 1, 1, none⟩ (x1)).setCell ⟨w.heap.size + 1 + 1, 2, none⟩ (x2)).cell? ⟨G, 5, none⟩ = some (.slice e.l e.nl e.cl) ∧ (((w'.setCell ⟨w.heap.size + 1 + 1, 0, none⟩ (x0)).setCell ⟨w.heap.size + 1 + 1, 1, none⟩ (x1)).setCell ⟨w.heap.size + 1 + 1, 2, none⟩ (x2)).cell? ⟨H, 0, none⟩ = some (.bool f.n) ∧ (((w'.setCell ⟨w.heap.size + 1 + 1, 0, none⟩ (x0)).setCell ⟨w.heap.size + 1 + 1, 1, none⟩ (x1)).setCell ⟨w.heap.size + 1 + 1, 2, none⟩ (x2)).cell? ⟨H, 1, none⟩ = some (.slice f.u f.nu f.cu) ∧ (((w'.setCell ⟨w.heap.size + 1 + 1, 0, none⟩ (x0)).setCell ⟨w.heap.size + 1 + 1, 1, none⟩ (x1)).setCell ⟨w.heap.size + 1 + 1, 2, none⟩ (x2)).cell? ⟨H, 2, none⟩ = some (.slice f.l f.nl f.cl) ∧ (((w'.setCell ⟨w.heap.size + 1 + 1, 0, none⟩ (x0)).setCell ⟨w.heap.size + 1 + 1, 1, none⟩ (x1)).setCell ⟨w.heap.size + 1 + 1, 2, none⟩ (x2)).cell? ⟨H, 3, none⟩ = some (.bool g.n) ∧ (((w'.setCell ⟨w.heap.size + 1 + 1, 0, none⟩ (x0)).setCell ⟨w.heap.size + 1 + 1, 1, none⟩ (x1)).setCell ⟨w.heap.size + 1 + 1, 2, none⟩ (x2)).cell? ⟨H, 4, none⟩ = some (.slice g.u g.nu g.cu) ∧ (((w'.setCell ⟨w.heap.size + 1 + 1, 0, none⟩ (x0)).setCell ⟨w.heap.size + 1 + 1, 1, none⟩ (x1)).setCell ⟨w.heap.size + 1 + 1, 2, none⟩ (x2)).cell? ⟨H, 5, none⟩ = some (.slice g.l g.nl g.cl)) := fun w' hb x0 x1 x2 => ⟨((HKG.out.below hb HKG.out.lt).off3 (g := w.heap.size + 1 + 1) HRS.out.1 x0 x1 x2).cell 0, ((HKG.out.below hb HKG.out.lt).off3 (g := w.heap.size + 1 + 1) HRS.out.1 x0 x1 x2).cell 1, ((HKG.out.below hb HKG.out.lt).off3 (g := w.heap.size + 1 + 1) HRS.out.1 x0 x1 x2).cell 2, ((HKG.out.below hb HKG.out.lt).off3 (g := w.heap.size + 1 + 1) HRS.out.1 x0 x1 x2).cell 3, ((HKG.out.below hb HKG.out.lt).off3 (g := w.heap.size + 1 + 1) HRS.out.1 x0 x1 x2).cell 4, ((HKG.out.below hb HKG.out.lt).off3 (g := w.heap.size + 1 + 1) HRS.out.1 x0 x1 x2).cell 5, ((HKH.out.below hb HKH.out.lt).off3 (g := w.heap.size + 1 + 1) HRS.out.2 x0 x1 x2).cell 0, ((HKH.out.below hb HKH.out.lt).off3 (g := w.heap.size + 1 + 1) HRS.out.2 x0 x1 x2).cell 1, ((HKH.out.below hb HKH.out.lt).off3 (g := w.heap.size + 1 + 1) HRS.out.2 x0 x1 x2).cell 2, ((HKH.out.below hb HKH.out.lt).off3 (g := w.heap.size + 1 + 1) HRS.out.2 x0 x1 x2).cell 3, ((HKH.out.below hb HKH.out.lt).off3 (g := w.heap.size + 1 + 1) HRS.out.2 x0 x1 x2).cell 4, ((HKH.out.below hb HKH.out.lt).off3 (g := w.heap.size + 1 + 1) HRS.out.2 x0 x1 x2).cell 5⟩
    have HKR := hideIt (HK2.out.below hbl (by rw [HSZ.out]; omega))
    clear hkG hkH hx hy hz ht hbl hG hH z0 z1 z2 z3
    obtain ⟨z0, z1, z2, z3, z4, z5, z6, z7, z8, z9, z10, z11⟩ := HS2.out wc (Below.refl _ _)
    go_wp2_with fail
    go_region_held3 (fun w' => w'.cell? ⟨G, 0, none⟩ = some (.bool d.n) ∧ w'.cell? ⟨G, 1, none⟩ = some (.slice d.u d.nu d.cu) ∧ w'.cell? ⟨G, 2, none⟩ = some (.slice d.l d.nl d.cl) ∧ w'.cell? ⟨G, 3, none⟩ = some (.bool e.n) ∧ w'.cell? ⟨G, 4, none⟩ = some (.slice e.u e.nu e.cu) ∧ w'.cell? ⟨G, 5, none⟩ = some (.slice e.l e.nl e.cl) ∧ w'.cell? ⟨H, 0, none⟩ = some (.bool f.n) ∧ w'.cell? ⟨H, 1, none⟩ = some (.slice f.u f.nu f.cu) ∧ w'.cell? ⟨H, 2, none⟩ = some (.slice f.l f.nl f.cl) ∧ w'.cell? ⟨H, 3, none⟩ = some (.bool g.n) ∧ w'.cell? ⟨H, 4, none⟩ = some (.slice g.u g.nu g.cu) ∧ w'.cell? ⟨H, 5, none⟩ = some (.slice g.l g.nl g.cl)) (first | go_keep | exact hs1 | exact hs2 | exact hs3 | exact hkS)
      (first
        | (go_at_call 11; refine (wayMinus_calls (w := wc.drew) ⟨f, g, rfl, HZ.out.below (Below.drew (Below.refl _ _)), HT.out.below (Below.drew (Below.refl _ _))⟩ ⟨d, e, rfl, HX.out.below (Below.drew (Below.refl _ _)), HY.out.below (Below.drew (Below.refl _ _))⟩ F3.out F4.out F1.out F2.out K1.out).mono ?_; rintro _ w1 ⟨hb1, v1, rfl, hv1⟩; have hw1 := hv1; obtain ⟨d1, e1, rfl, hx1, hy1⟩ := hw1; have hbl1 : Below wc.heap.size wc w1 := (Below.drew (Below.refl _ wc)).trans hb1; have hs1 := HS2.out w1 hbl1)
        | (go_at_call 12; refine (wayLeft_calls hv1).mono ?_; rintro _ w2 ⟨hb2, v2, rfl, hv2⟩; have hw2 := hv2; obtain ⟨d2, e2, rfl, hx2, hy2⟩ := hw2; have hbl2 := hbl1.trans (hb2.mono hbl1.size); have hs2 := HS2.out w2 hbl2)
        | (go_at_call 10; refine (square_ans ⟨d, e, rfl, HX.out.below hbl2, HY.out.below hbl2⟩ hv2 F5.out F6.out F1.out F2.out K2.out (HTC.out.below hbl2)).mono ?_; rintro _ w3 ⟨hb3, sa, sb, sc, z, rfl, hans⟩; have hbl3 := hbl2.trans (hb3.mono hbl2.size); have hs3 := HS2.out w3 hbl3; have hkr := HKR.out.below hbl3 HKR.out.lt; obtain ⟨r0, r1, r2, j0, j1, j2⟩ := hkr.all3; have hkS := HSS2.out w3 hbl3 (.string sa) (.string sb) (.string sc); have HANS := hideIt hans; clear hans)
        )
    all_goals
      go_wp2
      obtain ⟨k0, k1, k2, _⟩ := (hkr.put3 (.string sa) (.string sb) (.string sc)).all3
      exact bodyPost_ret (v := .tuple #[.agg #[.string sa, .string sb, .string sc], .int .i64 z]) (by simp [results, Tryz.results4, go_sem, k0, k1, k2]) rfl ⟨Below.put3 (HB0.out.trans ((HBL.out.trans (hbl3.mono HBL.out.size)).mono HB0.out.size)) (by omega) _ _ _, sa, sb, sc, z, rfl, HANS.out⟩

/-- Through: the line through two points. -/
theorem through_calls {w : World} {va vb : Value} {px py qx qy : List UInt8} (ha : PV va px py) (hb : PV vb qx qy) (s1 : px.length ≤ 1048576) (s2 : py.length ≤ 1048576) (s3 : qx.length ≤ 1048576) (s4 : qy.length ≤ 1048576) (tab : Tab w) :
    Calls Tryz.prog 4 #[va, vb] w fun e w' => Below w.heap.size w w' ∧ ∃ (sa sb sc : ByteArray) (z : Int), e = .returned (.tuple #[.agg #[.string sa, .string sb, .string sc], .int .i64 z]) ∧ LineAns (-(rd qy - rd py)) (rd qx - rd px) (-(-(rd qy - rd py) * rd px + (rd qx - rd px) * rd py)) sa.data.toList sb.data.toList sc.data.toList z := by
  obtain ⟨a, b, rfl, rfl, rfl⟩ := ha
  obtain ⟨c, d, rfl, rfl, rfl⟩ := hb
  exact through_walk s1 s2 s3 s4 tab
end Go.Proofs.YtllmfakelodpiaaGreatDoor
/- Walks of package ruler: Meet. -/
namespace Go.Proofs.YtllmfakelodpiaaGreatDoor
open Go.RowKit Cx

attribute [local go_sem ↓] Go.wp_at_zero Go.wp_at_succ

/-- Where two lines meet, if they do. -/
def MeetAns (ax ay az px pz pw x y : Rat) (z : Int) : Prop :=
  ((ax * pz - ay * px) ≠ 0 ∧ z = 0 ∧ x = -(pz * az - ay * pw) / (ax * pz - ay * px) ∧ y = (px * az - ax * pw) / (ax * pz - ay * px)) ∨ ((ax * pz - ay * px) = 0 ∧ z ≠ 0)

set_option maxHeartbeats 8000000 in
set_option maxRecDepth 100000 in
theorem rulerMeet_walk {w : World} {a b c p q r : C3} {ax ay az px pz pw : Rat} (ha : QV w (.agg #[.bool a.n, .slice a.u a.nu a.cu, .slice a.l a.nl a.cl]) ax) (hb : QV w (.agg #[.bool b.n, .slice b.u b.nu b.cu, .slice b.l b.nl b.cl]) ay) (hc : QV w (.agg #[.bool c.n, .slice c.u c.nu c.cu, .slice c.l c.nl c.cl]) az) (hp : QV w (.agg #[.bool p.n, .slice p.u p.nu p.cu, .slice p.l p.nl p.cl]) px) (hq : QV w (.agg #[.bool q.n, .slice q.u q.nu q.cu, .slice q.l q.nl q.cl]) pz) (hr : QV w (.agg #[.bool r.n, .slice r.u r.nu r.cu, .slice r.l r.nl r.cl]) pw) {k : Nat} (f1 : QS k ax) (f2 : QS k ay) (f3 : QS k az) (f4 : QS k px) (f5 : QS k pz) (f6 : QS k pw) (hk : 20 * (k + 1) ≤ 35184372088640) :
    Calls Tryz.prog 21 #[.agg #[.bool a.n, .slice a.u a.nu a.cu, .slice a.l a.nl a.cl, .bool b.n, .slice b.u b.nu b.cu, .slice b.l b.nl b.cl, .bool c.n, .slice c.u c.nu c.cu, .slice c.l c.nl c.cl], .agg #[.bool p.n, .slice p.u p.nu p.cu, .slice p.l p.nl p.cl, .bool q.n, .slice q.u q.nu q.cu, .slice q.l q.nl q.cl, .bool r.n, .slice r.u r.nu r.cu, .slice r.l r.nl r.cl]] w fun e w' => Below w.heap.size w w' ∧ ∃ v z x y, e = .returned (.tuple #[v, .int .i64 z]) ∧ WV w' v x y ∧ MeetAns ax ay az px pz pw x y z := by
  obtain ⟨hb0, hk0, hk1, hk2, hsz⟩ := boxes3 w #[.bool a.n, .slice a.u a.nu a.cu, .slice a.l a.nl a.cl, .bool b.n, .slice b.u b.nu b.cu, .slice b.l b.nl b.cl, .bool c.n, .slice c.u c.nu c.cu, .slice c.l c.nl c.cl] #[.bool p.n, .slice p.u p.nu p.cu, .slice p.l p.nl p.cl, .bool q.n, .slice q.u q.nu q.cu, .slice q.l q.nl q.cl, .bool r.n, .slice r.u r.nu r.cu, .slice r.l r.nl r.cl] #[.bool false, .slice none 0 0, .slice none 0 0, .bool false, .slice none 0 0, .slice none 0 0] 52 52 41
  have HB0 := hideIt hb0
  have HSZ := hideIt hsz
  have HK0 := hideIt hk0
  have HK1 := hideIt hk1
  have HK2 := hideIt hk2
  have HA := hideIt (ha.below hb0)
  have HB := hideIt (hb.below hb0)
  have HC := hideIt (hc.below hb0)
  have HP := hideIt (hp.below hb0)
  have HQ := hideIt (hq.below hb0)
  have HR := hideIt (hr.below hb0)
  have F1 := hideIt f1
  have F2 := hideIt f2
  have F3 := hideIt f3
  have F4 := hideIt f4
  have F5 := hideIt f5
  have F6 := hideIt f6
  have HK := hideIt hk
  clear hb0 hsz hk0 hk1 hk2 ha hb hc hp hq hr f1 f2 f3 f4 f5 f6 hk
  have K1 : Hid (k + k + (k + k) + 1 ≤ 35184372088640) := by have := HK.out; show _ ≤ _; omega
  have K2 : Hid (k + k + 1 ≤ 35184372088640) := by have := HK.out; show _ ≤ _; omega
  have K3 : Hid (k + k + (k + k) + 1 + (k + k + (k + k) + 1) + 1 ≤ 35184372088640) := by have := HK.out; show _ ≤ _; omega
  have FT : Hid (QS (k + k + (k + k) + 1) (ax * pz - ay * px)) := (F1.out.mul F5.out).sub (F2.out.mul F4.out)
  have FX : Hid (QS (k + k + (k + k) + 1) (px * az - ax * pw)) := (F4.out.mul F3.out).sub (F1.out.mul F6.out)
  have FY : Hid (QS (k + k + (k + k) + 1) (pz * az - ay * pw)) := (F5.out.mul F3.out).sub (F2.out.mul F6.out)
  go_enter Tryz.func21, Tryz.ntmps21
  go_wp2_with fail
  generalize (((w.alloc (.cells #[.bool a.n, .slice a.u a.nu a.cu, .slice a.l a.nl a.cl, .bool b.n, .slice b.u b.nu b.cu, .slice b.l b.nl b.cl, .bool c.n, .slice c.u c.nu c.cu, .slice c.l c.nl c.cl] 52)).alloc (.cells #[.bool p.n, .slice p.u p.nu p.cu, .slice p.l p.nl p.cl, .bool q.n, .slice q.u q.nu q.cu, .slice q.l q.nl q.cl, .bool r.n, .slice r.u r.nu r.cu, .slice r.l r.nl r.cl] 52)).alloc (.cells #[.bool false, .slice none 0 0, .slice none 0 0, .bool false, .slice none 0 0, .slice none 0 0] 41)) = W0 at *
  refine (wayCross_calls ⟨a, b, rfl, HA.out, HB.out⟩ ⟨p, q, rfl, HP.out, HQ.out⟩ F1.out F2.out F4.out F5.out K1.out).mono ?_
  rintro _ w1 ⟨hb1, v1, rfl, hv1⟩
  obtain ⟨t, rfl⟩ := qv_open hv1
  have HV1 := hideIt hv1
  have HB1 := hideIt hb1
  clear hv1 hb1
  go_wp2_with fail
  obtain ⟨w2, hw2⟩ : ∃ w2, w2 = w1.alloc (.cells #[.bool t.n, .slice t.u t.nu t.cu, .slice t.l t.nl t.cl] 39) := ⟨_, rfl⟩
  have hbA := below_new w1 (.cells #[.bool t.n, .slice t.u t.nu t.cu, .slice t.l t.nl t.cl] 39)
  have HKT := hideIt (Blk.new w1 #[.bool t.n, .slice t.u t.nu t.cu, .slice t.l t.nl t.cl] 39)
  rw [← hw2] at hbA HKT ⊢
  have HBL : Hid (Below W0.heap.size W0 w2) := HB1.out.trans (hbA.mono HB1.out.size)
  have HVT := hideIt (HV1.out.below hbA)
  clear hbA hw2
  obtain ⟨T, hT⟩ : ∃ T, T = w1.heap.size := ⟨_, rfl⟩
  rw [← hT] at HKT ⊢
  have HTge : Hid (W0.heap.size ≤ T) := by rw [hT]; exact HB1.out.size
  clear hT
  have HS : Hid (∀ w', Below w2.heap.size w2 w' → w'.cell? ⟨w.heap.size, 0, none⟩ = some (.bool a.n) ∧ w'.cell? ⟨w.heap.size, 1, none⟩ = some (.slice a.u a.nu a.cu) ∧ w'.cell? ⟨w.heap.size, 2, none⟩ = some (.slice a.l a.nl a.cl) ∧ w'.cell? ⟨w.heap.size, 3, none⟩ = some (.bool b.n) ∧ w'.cell? ⟨w.heap.size, 4, none⟩ = some (.slice b.u b.nu b.cu) ∧ w'.cell? ⟨w.heap.size, 5, none⟩ = some (.slice b.l b.nl b.cl) ∧ w'.cell? ⟨w.heap.size, 6, none⟩ = some (.bool c.n) ∧ w'.cell? ⟨w.heap.size, 7, none⟩ = some (.slice c.u c.nu c.cu) ∧ w'.cell? ⟨w.heap.size, 8, none⟩ = some (.slice c.l c.nl c.cl) ∧ w'.cell? ⟨w.heap.size + 1, 0, none⟩ = some (.bool p.n) ∧ w'.cell? ⟨w.heap.size + 1, 1, none⟩ = some (.slice p.u p.nu p.cu) ∧ w'.cell? ⟨w.heap.size + 1, 2, none⟩ = some (.slice p.l p.nl p.cl) ∧ w'.cell? ⟨w.heap.size + 1, 3, none⟩ = some (.bool q.n) ∧ w'.cell? ⟨w.heap.size + 1, 4, none⟩ = some (.slice q.u q.nu q.cu) ∧ w'.cell? ⟨w.heap.size + 1, 5, none⟩ = some (.slice q.l q.nl q.cl) ∧ w'.cell? ⟨w.heap.size + 1, 6, none⟩ = some (.bool r.n) ∧ w'.cell? ⟨w.heap.size + 1, 7, none⟩ = some (.slice r.u r.nu r.cu) ∧ w'.cell? ⟨w.heap.size + 1, 8, none⟩ = some (.slice r.l r.nl r.cl)) := fun w' hb => by
    have h1 := (HK0.out.below HBL.out (by rw [HSZ.out]; omega)).below hb (by have := HBL.out.size; have := HSZ.out; omega)
    have h2 := (HK1.out.below HBL.out (by rw [HSZ.out]; omega)).below hb (by have := HBL.out.size; have := HSZ.out; omega)
    exact ⟨h1.cell 0, h1.cell 1, h1.cell 2, h1.cell 3, h1.cell 4, h1.cell 5, h1.cell 6, h1.cell 7, h1.cell 8, h2.cell 0, h2.cell 1, h2.cell 2, h2.cell 3, h2.cell 4, h2.cell 5, h2.cell 6, h2.cell 7, h2.cell 8⟩
  obtain ⟨z0, z1, z2, z3, z4, z5, z6, z7, z8, z9, z10, z11, z12, z13, z14, z15, z16, z17⟩ := HS.out w2 (Below.refl _ _)
  have HA2 := hideIt (HA.out.below HBL.out)
  have HB2 := hideIt (HB.out.below HBL.out)
  have HC2 := hideIt (HC.out.below HBL.out)
  have HP2 := hideIt (HP.out.below HBL.out)
  have HQ2 := hideIt (HQ.out.below HBL.out)
  have HR2 := hideIt (HR.out.below HBL.out)
  go_cut [7] from 8 (fun pm wc => One w2 pm wc (px * az - ax * pw) (pz * az - ay * pw))
  case first =>
    go_region_held3 (fun w' => w'.cell? ⟨w.heap.size, 0, none⟩ = some (.bool a.n) ∧ w'.cell? ⟨w.heap.size, 1, none⟩ = some (.slice a.u a.nu a.cu) ∧ w'.cell? ⟨w.heap.size, 2, none⟩ = some (.slice a.l a.nl a.cl) ∧ w'.cell? ⟨w.heap.size, 3, none⟩ = some (.bool b.n) ∧ w'.cell? ⟨w.heap.size, 4, none⟩ = some (.slice b.u b.nu b.cu) ∧ w'.cell? ⟨w.heap.size, 5, none⟩ = some (.slice b.l b.nl b.cl) ∧ w'.cell? ⟨w.heap.size, 6, none⟩ = some (.bool c.n) ∧ w'.cell? ⟨w.heap.size, 7, none⟩ = some (.slice c.u c.nu c.cu) ∧ w'.cell? ⟨w.heap.size, 8, none⟩ = some (.slice c.l c.nl c.cl) ∧ w'.cell? ⟨w.heap.size + 1, 0, none⟩ = some (.bool p.n) ∧ w'.cell? ⟨w.heap.size + 1, 1, none⟩ = some (.slice p.u p.nu p.cu) ∧ w'.cell? ⟨w.heap.size + 1, 2, none⟩ = some (.slice p.l p.nl p.cl) ∧ w'.cell? ⟨w.heap.size + 1, 3, none⟩ = some (.bool q.n) ∧ w'.cell? ⟨w.heap.size + 1, 4, none⟩ = some (.slice q.u q.nu q.cu) ∧ w'.cell? ⟨w.heap.size + 1, 5, none⟩ = some (.slice q.l q.nl q.cl) ∧ w'.cell? ⟨w.heap.size + 1, 6, none⟩ = some (.bool r.n) ∧ w'.cell? ⟨w.heap.size + 1, 7, none⟩ = some (.slice r.u r.nu r.cu) ∧ w'.cell? ⟨w.heap.size + 1, 8, none⟩ = some (.slice r.l r.nl r.cl)) ((refine HS.out _ ?_; repeat' (first | with_reducible exact hbl5 | with_reducible exact hbl4 | with_reducible exact hbl3 | with_reducible exact Below.refl _ _ | with_reducible refine Below.drew ?_ | with_reducible refine Below.alloc ?_ ?_ _ | with_reducible refine Below.put6 ?_ ?_ _ _ _ _ _ _ | (simp; done) | (simp; omega) | omega)))
      (first
        | (go_at_call_of 15 (Value.agg #[Value.bool p.n, Value.slice p.u p.nu p.cu, Value.slice p.l p.nl p.cl, Value.bool q.n, Value.slice q.u q.nu q.cu, Value.slice q.l q.nl q.cl]); have hc := wayTimes_calls (w := (w2.drew)) ⟨p, q, rfl, HP2.out.below (Below.drew (Below.refl _ w2)), HQ2.out.below (Below.drew (Below.refl _ w2))⟩ (HC2.out.below (Below.drew (Below.refl _ w2))) F4.out F5.out F3.out K2.out; (with_reducible refine hc.mono ?_); rintro _ w3 ⟨hb3, v3, rfl, hv3⟩; clear hc; have hw3 := hv3; obtain ⟨d3, e3, rfl, hx3, hy3⟩ := hw3; have hc3 : Below w2.heap.size w2 w3 := (Below.drew (Below.refl _ w2)).trans hb3; have hbl3 := hc3; have hz3 := hbl3.size)
        | (go_at_call_of 15 (Value.agg #[Value.bool p.n, Value.slice p.u p.nu p.cu, Value.slice p.l p.nl p.cl, Value.bool q.n, Value.slice q.u q.nu q.cu, Value.slice q.l q.nl q.cl]); have hc := wayTimes_calls (w := ((w2.alloc (.cells #[.bool false, .slice none 0 0, .slice none 0 0, .bool false, .slice none 0 0, .slice none 0 0] 41)).drew)) ⟨p, q, rfl, HP2.out.below (Below.drew (below_new w2 (.cells #[.bool false, .slice none 0 0, .slice none 0 0, .bool false, .slice none 0 0, .slice none 0 0] 41))), HQ2.out.below (Below.drew (below_new w2 (.cells #[.bool false, .slice none 0 0, .slice none 0 0, .bool false, .slice none 0 0, .slice none 0 0] 41)))⟩ (HC2.out.below (Below.drew (below_new w2 (.cells #[.bool false, .slice none 0 0, .slice none 0 0, .bool false, .slice none 0 0, .slice none 0 0] 41)))) F4.out F5.out F3.out K2.out; (with_reducible refine hc.mono ?_); rintro _ w3 ⟨hb3, v3, rfl, hv3⟩; clear hc; have hw3 := hv3; obtain ⟨d3, e3, rfl, hx3, hy3⟩ := hw3; have hc3 : Below w2.heap.size w2 w3 := (Below.drew (below_new w2 (.cells #[.bool false, .slice none 0 0, .slice none 0 0, .bool false, .slice none 0 0, .slice none 0 0] 41))).trans (hb3.mono (Nat.le_of_lt (Blk.new w2 #[.bool false, .slice none 0 0, .slice none 0 0, .bool false, .slice none 0 0, .slice none 0 0] 41).lt)); have hbl3 := hc3; have hG3 := (show Blk (w2.alloc (.cells #[.bool false, .slice none 0 0, .slice none 0 0, .bool false, .slice none 0 0, .slice none 0 0] 41)).drew w2.heap.size #[.bool false, .slice none 0 0, .slice none 0 0, .bool false, .slice none 0 0, .slice none 0 0] 41 from Blk.new w2 #[.bool false, .slice none 0 0, .slice none 0 0, .bool false, .slice none 0 0, .slice none 0 0] 41).below hb3 (Blk.new w2 #[.bool false, .slice none 0 0, .slice none 0 0, .bool false, .slice none 0 0, .slice none 0 0] 41).lt; have hz3 := hbl3.size)
        | (go_at_call_of 15 (Value.agg #[Value.bool a.n, Value.slice a.u a.nu a.cu, Value.slice a.l a.nl a.cl, Value.bool b.n, Value.slice b.u b.nu b.cu, Value.slice b.l b.nl b.cl]); have hc := wayTimes_calls (w := w3) ⟨a, b, rfl, (HA2.out.below hbl3), (HB2.out.below hbl3)⟩ ((HR2.out.below hbl3)) F1.out F2.out F6.out K2.out; (with_reducible refine hc.mono ?_); rintro _ w4 ⟨hb4, v4, rfl, hv4⟩; clear hc; have hw4 := hv4; obtain ⟨d4, e4, rfl, hx4, hy4⟩ := hw4; have hc4 : Below w3.heap.size w3 w4 := hb4; (try have hG4 := hG3.below hc4 hG3.lt); have hbl4 := hbl3.trans (hc4.mono hbl3.size); have hz4 := hbl4.size)
        | (go_at_call_of 15 (Value.agg #[Value.bool a.n, Value.slice a.u a.nu a.cu, Value.slice a.l a.nl a.cl, Value.bool b.n, Value.slice b.u b.nu b.cu, Value.slice b.l b.nl b.cl]); have hc := wayTimes_calls (w := (w3.alloc (.cells #[.bool false, .slice none 0 0, .slice none 0 0, .bool false, .slice none 0 0, .slice none 0 0] 41))) ⟨a, b, rfl, (HA2.out.below hbl3).below (below_new w3 (.cells #[.bool false, .slice none 0 0, .slice none 0 0, .bool false, .slice none 0 0, .slice none 0 0] 41)), (HB2.out.below hbl3).below (below_new w3 (.cells #[.bool false, .slice none 0 0, .slice none 0 0, .bool false, .slice none 0 0, .slice none 0 0] 41))⟩ ((HR2.out.below hbl3).below (below_new w3 (.cells #[.bool false, .slice none 0 0, .slice none 0 0, .bool false, .slice none 0 0, .slice none 0 0] 41))) F1.out F2.out F6.out K2.out; (with_reducible refine hc.mono ?_); rintro _ w4 ⟨hb4, v4, rfl, hv4⟩; clear hc; have hw4 := hv4; obtain ⟨d4, e4, rfl, hx4, hy4⟩ := hw4; have hc4 : Below w3.heap.size w3 w4 := (below_new w3 (.cells #[.bool false, .slice none 0 0, .slice none 0 0, .bool false, .slice none 0 0, .slice none 0 0] 41)).trans (hb4.mono (Nat.le_of_lt (Blk.new w3 #[.bool false, .slice none 0 0, .slice none 0 0, .bool false, .slice none 0 0, .slice none 0 0] 41).lt)); have hG4 := (Blk.new w3 #[.bool false, .slice none 0 0, .slice none 0 0, .bool false, .slice none 0 0, .slice none 0 0] 41).below hb4 (Blk.new w3 #[.bool false, .slice none 0 0, .slice none 0 0, .bool false, .slice none 0 0, .slice none 0 0] 41).lt; have hbl4 := hbl3.trans (hc4.mono hbl3.size); have hz4 := hbl4.size)
        | (go_at_call 11; have hc := wayMinus_calls (w := w4) ((hv3.below hc4)) (hv4) (F4.out.mul F3.out) (F5.out.mul F3.out) (F1.out.mul F6.out) (F2.out.mul F6.out) K1.out; (with_reducible refine hc.mono ?_); rintro _ w5 ⟨hb5, v5, rfl, hv5⟩; clear hc; have hw5 := hv5; obtain ⟨d5, e5, rfl, hx5, hy5⟩ := hw5; have hc5 : Below w4.heap.size w4 w5 := hb5; (try have hG5 := hG4.below hc5 hG4.lt); have hbl5 := hbl4.trans (hc5.mono hbl4.size); have hz5 := hbl5.size; (try obtain ⟨r0, r1, r2, r3, r4, r5, r6, r7, r8, r9, r10, r11⟩ := hG5.all6))
        | (go_at_call 11; have hc := wayMinus_calls (w := (w4.alloc (.cells #[.bool false, .slice none 0 0, .slice none 0 0, .bool false, .slice none 0 0, .slice none 0 0] 41))) ((hv3.below hc4).below (below_new w4 (.cells #[.bool false, .slice none 0 0, .slice none 0 0, .bool false, .slice none 0 0, .slice none 0 0] 41))) (hv4.below (below_new w4 (.cells #[.bool false, .slice none 0 0, .slice none 0 0, .bool false, .slice none 0 0, .slice none 0 0] 41))) (F4.out.mul F3.out) (F5.out.mul F3.out) (F1.out.mul F6.out) (F2.out.mul F6.out) K1.out; (with_reducible refine hc.mono ?_); rintro _ w5 ⟨hb5, v5, rfl, hv5⟩; clear hc; have hw5 := hv5; obtain ⟨d5, e5, rfl, hx5, hy5⟩ := hw5; have hc5 : Below w4.heap.size w4 w5 := (below_new w4 (.cells #[.bool false, .slice none 0 0, .slice none 0 0, .bool false, .slice none 0 0, .slice none 0 0] 41)).trans (hb5.mono (Nat.le_of_lt (Blk.new w4 #[.bool false, .slice none 0 0, .slice none 0 0, .bool false, .slice none 0 0, .slice none 0 0] 41).lt)); have hG5 := (Blk.new w4 #[.bool false, .slice none 0 0, .slice none 0 0, .bool false, .slice none 0 0, .slice none 0 0] 41).below hb5 (Blk.new w4 #[.bool false, .slice none 0 0, .slice none 0 0, .bool false, .slice none 0 0, .slice none 0 0] 41).lt; have hbl5 := hbl4.trans (hc5.mono hbl4.size); have hz5 := hbl5.size; (try obtain ⟨r0, r1, r2, r3, r4, r5, r6, r7, r8, r9, r10, r11⟩ := hG5.all6))
        )
    all_goals
      go_wp2_with fail
      go_meet
      first
        | with_reducible exact One.new hbl5 hx5 hy5
        | with_reducible exact One.old hG5 (Nat.le_refl _) hbl5 hx5 hy5
        | with_reducible exact One.old hG5 hz3 hbl5 hx5 hy5
        | with_reducible exact One.old hG5 hz4 hbl5 hx5 hy5
  case rest =>
    obtain ⟨G, rfl, hG, hbl, d, e, hkG, hx, hy⟩ := hcut
    have HX := hideIt hx
    have HY := hideIt hy
    have HKG := hideIt hkG
    have HGge := hideIt hG
    have HKT2 := hideIt (HKT.out.below hbl HKT.out.lt)
    have HVT2 := hideIt (HVT.out.below hbl)
    have HBW := hideIt (HBL.out.trans (hbl.mono HBL.out.size))
    have HBT := hideIt (HB0.out.trans (HBW.out.mono HB0.out.size))
    have HKR := hideIt (HK2.out.below HBW.out (by rw [HSZ.out]; omega))
    clear hx hy hkG hbl hG z0 z1 z2 z3 z4 z5 z6 z7 z8 z9 z10 z11 z12 z13 z14 z15 z16 z17
    obtain ⟨y0, y1, y2, _⟩ := HKT2.out.all3
    go_wp2_with fail
    refine (sign_calls HVT2.out).mono ?_
    rintro _ w6 ⟨hb6, rfl⟩
    have HX6 := hideIt (HX.out.below hb6)
    have HY6 := hideIt (HY.out.below hb6)
    have HVT6 := hideIt (HVT2.out.below hb6)
    have HKG6 := hideIt (HKG.out.below hb6 HKG.out.lt)
    have HKT6 := hideIt (HKT2.out.below hb6 HKT2.out.lt)
    have HKR6 := hideIt (HKR.out.below hb6 HKR.out.lt)
    have HBT6 := hideIt (HBT.out.trans (hb6.mono HBT.out.size))
    clear hb6 y0 y1 y2
    obtain ⟨y0, y1, y2, _⟩ := HKT6.out.all3
    obtain ⟨u0, u1, u2, u3, u4, u5, _⟩ := HKG6.out.all6
    by_cases h0 : (ax * pz - ay * px) = 0
    · rw [if_pos (sg_zero.2 h0)]
      have H0 := hideIt h0
      clear h0
      go_wp2_with fail
      refine (nowhere_calls ⟨d, e, rfl, HX6.out, HY6.out⟩).mono ?_
      rintro _ w7 ⟨hb7, rfl⟩
      have HKR7 := hideIt (HKR6.out.below hb7 HKR6.out.lt)
      have HBT7 := hideIt (HBT6.out.trans (hb7.mono HBT6.out.size))
      clear hb7
      obtain ⟨q0, q1, q2, q3, q4, q5, g0, g1, g2, g3, g4, g5⟩ := HKR7.out.all6
      obtain ⟨k0, k1, k2, k3, k4, k5, _⟩ := (HKR7.out.put6 (.bool false) (.slice none 0 0) (.slice none 0 0) (.bool false) (.slice none 0 0) (.slice none 0 0)).all6
      by_cases hm : (px * az - ax * pw) = 0 ∧ (pz * az - ay * pw) = 0
      · rw [decide_eq_true hm]
        clear hm
        go_wp2
        exact bodyPost_ret (v := .tuple #[.agg #[.bool false, .slice none 0 0, .slice none 0 0, .bool false, .slice none 0 0, .slice none 0 0], .int .i64 7]) (by simp [results, Tryz.results21, go_sem, k0, k1, k2, k3, k4, k5]) rfl ⟨Below.put6 HBT7.out (by omega) _ _ _ _ _ _, _, _, 0, 0, rfl, ⟨⟨false, none, 0, 0, none, 0, 0⟩, ⟨false, none, 0, 0, none, 0, 0⟩, rfl, qv_zero0 _, qv_zero0 _⟩, Or.inr ⟨H0.out, by decide⟩⟩
      · rw [decide_eq_false hm]
        clear hm
        go_wp2
        exact bodyPost_ret (v := .tuple #[.agg #[.bool false, .slice none 0 0, .slice none 0 0, .bool false, .slice none 0 0, .slice none 0 0], .int .i64 6]) (by simp [results, Tryz.results21, go_sem, k0, k1, k2, k3, k4, k5]) rfl ⟨Below.put6 HBT7.out (by omega) _ _ _ _ _ _, _, _, 0, 0, rfl, ⟨⟨false, none, 0, 0, none, 0, 0⟩, ⟨false, none, 0, 0, none, 0, 0⟩, rfl, qv_zero0 _, qv_zero0 _⟩, Or.inr ⟨H0.out, by decide⟩⟩
    · rw [if_neg (fun h => h0 (sg_zero.1 h))]
      have hne : ((if (ax * pz - ay * px).num < 0 then (-1 : Int) else 1) != 0) = true := by split <;> rfl
      generalize (if (ax * pz - ay * px).num < 0 then (-1 : Int) else 1) = zz at *
      have H0 := hideIt h0
      clear h0
      have HS6 : Hid (∀ w', Below w6.heap.size w6 w' → w'.cell? ⟨G, 0, none⟩ = some (.bool d.n) ∧ w'.cell? ⟨G, 1, none⟩ = some (.slice d.u d.nu d.cu) ∧ w'.cell? ⟨G, 2, none⟩ = some (.slice d.l d.nl d.cl) ∧ w'.cell? ⟨G, 3, none⟩ = some (.bool e.n) ∧ w'.cell? ⟨G, 4, none⟩ = some (.slice e.u e.nu e.cu) ∧ w'.cell? ⟨G, 5, none⟩ = some (.slice e.l e.nl e.cl) ∧ w'.cell? ⟨T, 0, none⟩ = some (.bool t.n) ∧ w'.cell? ⟨T, 1, none⟩ = some (.slice t.u t.nu t.cu) ∧ w'.cell? ⟨T, 2, none⟩ = some (.slice t.l t.nl t.cl)) := fun w' hb => ⟨(HKG6.out.below hb HKG6.out.lt).cell 0, (HKG6.out.below hb HKG6.out.lt).cell 1, (HKG6.out.below hb HKG6.out.lt).cell 2, (HKG6.out.below hb HKG6.out.lt).cell 3, (HKG6.out.below hb HKG6.out.lt).cell 4, (HKG6.out.below hb HKG6.out.lt).cell 5, (HKT6.out.below hb HKT6.out.lt).cell 0, (HKT6.out.below hb HKT6.out.lt).cell 1, (HKT6.out.below hb HKT6.out.lt).cell 2⟩
      have HRS : Hid (w.heap.size + 1 + 1 ≠ G ∧ w.heap.size + 1 + 1 ≠ T) := by
        have h1 := HSZ.out
        have h2 := HTge.out
        have h3 := HGge.out
        have h4 := HBL.out.size
        show _ ∧ _
        omega
      have HSS6 : Hid (∀ w', Below w6.heap.size w6 w' → ∀ x0 x1 x2 x3 x4 x5 : Value, ((((((w'.setCell ⟨w.heap.size + 1 + 1, 0, none⟩ (x0)).setCell ⟨w.heap.size + 1 + 1, 1, none⟩ (x1)).setCell ⟨w.heap.size + 1 + 1, 2, none⟩ (x2)).setCell ⟨w.heap.size + 1 + 1, 3, none⟩ (x3)).setCell ⟨w.heap.size + 1 + 1, 4, none⟩ (x4)).setCell ⟨w.heap.size + 1 + 1, 5, none⟩ (x5)).cell? ⟨G, 0, none⟩ = some (.bool d.n) ∧ ((((((w'.setCell ⟨w.heap.size + 1 + 1, 0, none⟩ (x0)).setCell ⟨w.heap.size + 1 + 1, 1, none⟩ (x1)).setCell ⟨w.heap.size + 1 + 1, 2, none⟩ (x2)).setCell ⟨w.heap.size + 1 + 1, 3, none⟩ (x3)).setCell ⟨w.heap.size + 1 + 1, 4, none⟩ (x4)).setCell ⟨w.heap.size + 1 + 1, 5, none⟩ (x5)).cell? ⟨G, 1, none⟩ = some (.slice d.u d.nu d.cu) ∧ ((((((w'.setCell ⟨w.heap.size + 1 + 1, 0, none⟩ (x0)).setCell ⟨w.heap.size + 1 + 1, 1, none⟩ (x1)).setCell ⟨w.heap.size + 1 + 1, 2, none⟩ (x2)).setCell ⟨w.heap.size + 1 + 1, 3, none⟩ (x3)).setCell ⟨w.heap.size + 1 + 1, 4, none⟩ (x4)).setCell ⟨w.heap.size + 1 + 1, 5, none⟩ (x5)).cell? ⟨G, 2, none⟩ = some (.slice d.l d.nl d.cl) ∧ ((((((w'.setCell ⟨w.heap.size + 1 + 1, 0, none⟩ (x0)).setCell ⟨w.heap.size + 1 + 1, 1, none⟩ (x1)).setCell ⟨w.heap.size + 1 + 1, 2, none⟩ (x2)).setCell ⟨w.heap.size + 1 + 1, 3, none⟩ (x3)).setCell ⟨w.heap.size + 1 + 1, 4, none⟩ (x4)).setCell ⟨w.heap.size + 1 + 1, 5, none⟩ (x5)).cell? ⟨G, 3, none⟩ = some (.bool e.n) ∧ ((((((w'.setCell ⟨w.heap.size + 1 + 1, 0, none⟩ (x0)).setCell ⟨w.heap.size + 1 + 1, 1, none⟩ (x1)).setCell ⟨w.heap.size + 1 + 1, 2, none⟩ (x2)).setCell ⟨w.heap.size + 1 + 1, 3, none⟩ (x3)).setCell ⟨w.heap.size + 1 + 1, 4, none⟩ (x4)).setCell ⟨w.heap.size + 1 + 1, 5, none⟩ (x5)).cell? ⟨G, 4, none⟩ = some (.slice e.u e.nu e.cu) ∧ ((((((w'.setCell ⟨w.heap.size + 1 + 1, 0, none⟩ (x0)).setCell ⟨w.heap.size + 1 + 1, 1, none⟩ (x1)).setCell ⟨w.heap.size + 1 + 1, 2, none⟩ (x2)).setCell ⟨w.heap.size + 1 + 1, 3, none⟩ (x3)).setCell ⟨w.heap.size + 1 + 1, 4, none⟩ (x4)).setCell ⟨w.heap.size + 1 + 1, 5, none⟩ (x5)).cell? ⟨G, 5, none⟩ = some (.slice e.l e.nl e.cl) ∧ ((((((w'.setCell ⟨w.heap.size + 1 + 1, 0, none⟩ (x0)).setCell ⟨w.heap.size + 1 + 1, 1, none⟩ (x1)).setCell ⟨w.heap.size + 1 + 1, 2, none⟩ (x2)).setCell ⟨w.heap.size + 1 + 1, 3, none⟩ (x3)).setCell ⟨w.heap.size + 1 + 1, 4, none⟩ (x4)).setCell ⟨w.heap.size + 1 + 1, 5, none⟩ (x5)).cell? ⟨T, 0, none⟩ = some (.bool t.n) ∧ ((((((w'.setCell ⟨w.heap.size + 1 + 1, 0, none⟩ (x0)).setCell ⟨w.heap.size + 1 + 1, 1, none⟩ (x1)).setCell ⟨w.heap.size + 1 + 1, 2, none⟩ (x2)).setCell ⟨w.heap.size + 1 + 1, 3, none⟩ (x3)).setCell ⟨w.heap.size + 1 + 1, 4, none⟩ (x4)).setCell ⟨w.heap.size + 1 + 1, 5, none⟩ (x5)).cell? ⟨T, 1, none⟩ = some (.slice t.u t.nu t.cu) ∧ ((((((w'.setCell ⟨w.heap.size + 1 + 1, 0, none⟩ (x0)).setCell ⟨w.heap.size + 1 + 1, 1, none⟩ (x1)).setCell ⟨w.heap.size + 1 + 1, 2, none⟩ (x2)).setCell ⟨w.heap.size + 1 + 1, 3, none⟩ (x3)).setCell ⟨w.heap.size + 1 + 1, 4, none⟩ (x4)).setCell ⟨w.heap.size + 1 + 1, 5, none⟩ (x5)).cell? ⟨T, 2, none⟩ = some (.slice t.l t.nl t.cl)) := fun w' hb x0 x1 x2 x3 x4 x5 => ⟨((HKG6.out.below hb HKG6.out.lt).off6 (g := w.heap.size + 1 + 1) HRS.out.1 x0 x1 x2 x3 x4 x5).cell 0, ((HKG6.out.below hb HKG6.out.lt).off6 (g := w.heap.size + 1 + 1) HRS.out.1 x0 x1 x2 x3 x4 x5).cell 1, ((HKG6.out.below hb HKG6.out.lt).off6 (g := w.heap.size + 1 + 1) HRS.out.1 x0 x1 x2 x3 x4 x5).cell 2, ((HKG6.out.below hb HKG6.out.lt).off6 (g := w.heap.size + 1 + 1) HRS.out.1 x0 x1 x2 x3 x4 x5).cell 3, ((HKG6.out.below hb HKG6.out.lt).off6 (g := w.heap.size + 1 + 1) HRS.out.1 x0 x1 x2 x3 x4 x5).cell 4, ((HKG6.out.below hb HKG6.out.lt).off6 (g := w.heap.size + 1 + 1) HRS.out.1 x0 x1 x2 x3 x4 x5).cell 5, ((HKT6.out.below hb HKT6.out.lt).off6 (g := w.heap.size + 1 + 1) HRS.out.2 x0 x1 x2 x3 x4 x5).cell 0, ((HKT6.out.below hb HKT6.out.lt).off6 (g := w.heap.size + 1 + 1) HRS.out.2 x0 x1 x2 x3 x4 x5).cell 1, ((HKT6.out.below hb HKT6.out.lt).off6 (g := w.heap.size + 1 + 1) HRS.out.2 x0 x1 x2 x3 x4 x5).cell 2⟩
      go_wp2_with fail
      go_region_held3 (fun w' => w'.cell? ⟨G, 0, none⟩ = some (.bool d.n) ∧ w'.cell? ⟨G, 1, none⟩ = some (.slice d.u d.nu d.cu) ∧ w'.cell? ⟨G, 2, none⟩ = some (.slice d.l d.nl d.cl) ∧ w'.cell? ⟨G, 3, none⟩ = some (.bool e.n) ∧ w'.cell? ⟨G, 4, none⟩ = some (.slice e.u e.nu e.cu) ∧ w'.cell? ⟨G, 5, none⟩ = some (.slice e.l e.nl e.cl) ∧ w'.cell? ⟨T, 0, none⟩ = some (.bool t.n) ∧ w'.cell? ⟨T, 1, none⟩ = some (.slice t.u t.nu t.cu) ∧ w'.cell? ⟨T, 2, none⟩ = some (.slice t.l t.nl t.cl)) (first | go_keep | exact hs7 | exact hs8 | exact hkS)
        (first
          | (go_at_call 12; refine (wayLeft_calls (w := w6.drew) ⟨d, e, rfl, HX6.out.below (Below.drew (Below.refl _ _)), HY6.out.below (Below.drew (Below.refl _ _))⟩).mono ?_; rintro _ w7 ⟨hb7, v7, rfl, hv7⟩; have hw7 := hv7; obtain ⟨d7, e7, rfl, hx7, hy7⟩ := hw7; have hbl7 : Below w6.heap.size w6 w7 := (Below.drew (Below.refl _ w6)).trans hb7; have hs7 := HS6.out w7 hbl7)
          | (go_at_call 39; refine (wayOver_calls hv7 (HVT6.out.below hbl7) FY.out.neg FX.out FT.out K3.out).mono ?_; rintro _ w8 ⟨hb8, v8, rfl, hv8⟩; obtain ⟨d8, e8, rfl, hx8, hy8⟩ := hv8; have hbl8 := hbl7.trans (hb8.mono hbl7.size); have hs8 := HS6.out w8 hbl8; have hkr := HKR6.out.below hbl8 HKR6.out.lt; obtain ⟨q0, q1, q2, q3, q4, q5, g0, g1, g2, g3, g4, g5⟩ := hkr.all6; have hkS := HSS6.out w8 hbl8 (.bool d8.n) (.slice d8.u d8.nu d8.cu) (.slice d8.l d8.nl d8.cl) (.bool e8.n) (.slice e8.u e8.nu e8.cu) (.slice e8.l e8.nl e8.cl); have HX8 := hideIt hx8; have HY8 := hideIt hy8; clear hx8 hy8)
          )
      all_goals
        go_wp2
        obtain ⟨k0, k1, k2, k3, k4, k5, _⟩ := (hkr.put6 (.bool d8.n) (.slice d8.u d8.nu d8.cu) (.slice d8.l d8.nl d8.cl) (.bool e8.n) (.slice e8.u e8.nu e8.cu) (.slice e8.l e8.nl e8.cl)).all6
        have hst := Stays.put6 hkr (by simp [notLimb]) (.bool d8.n) (.slice d8.u d8.nu d8.cu) (.slice d8.l d8.nl d8.cl) (.bool e8.n) (.slice e8.u e8.nu e8.cu) (.slice e8.l e8.nl e8.cl) rfl rfl rfl rfl rfl rfl
        exact bodyPost_ret (v := .tuple #[.agg #[.bool d8.n, .slice d8.u d8.nu d8.cu, .slice d8.l d8.nl d8.cl, .bool e8.n, .slice e8.u e8.nu e8.cu, .slice e8.l e8.nl e8.cl], .int .i64 0]) (by simp [results, Tryz.results21, go_sem, k0, k1, k2, k3, k4, k5]) rfl ⟨Below.put6 (HBT6.out.trans (hbl8.mono HBT6.out.size)) (by omega) _ _ _ _ _ _, _, _, _, _, rfl, ⟨d8, e8, rfl, hst.qv HX8.out, hst.qv HY8.out⟩, Or.inl ⟨H0.out, rfl, rfl, rfl⟩⟩

/-- Meet: the point that both have in common. -/
theorem rulerMeet_calls {w : World} {va vb : Value} {ax ay az px pz pw : Rat} (ha : LV w va ax ay az) (hb : LV w vb px pz pw) {k : Nat} (f1 : QS k ax) (f2 : QS k ay) (f3 : QS k az) (f4 : QS k px) (f5 : QS k pz) (f6 : QS k pw) (hk : 20 * (k + 1) ≤ 35184372088640) :
    Calls Tryz.prog 21 #[va, vb] w fun e w' => Below w.heap.size w w' ∧ ∃ v z x y, e = .returned (.tuple #[v, .int .i64 z]) ∧ WV w' v x y ∧ MeetAns ax ay az px pz pw x y z := by
  obtain ⟨a, b, c, rfl, h1, h2, h3⟩ := ha
  obtain ⟨p, q, r, rfl, h4, h5, h6⟩ := hb
  exact rulerMeet_walk h1 h2 h3 h4 h5 h6 f1 f2 f3 f4 f5 f6 hk
end Go.Proofs.YtllmfakelodpiaaGreatDoor
/- Walks of package line: Beside. -/
namespace Go.Proofs.YtllmfakelodpiaaGreatDoor
open Go.RowKit Cx

attribute [local go_sem ↓] Go.wp_at_zero Go.wp_at_succ

set_option maxHeartbeats 8000000 in
set_option maxRecDepth 100000 in
theorem beside_walk {w : World} {la lb lc px py : ByteArray} (s1 : la.data.toList.length ≤ 4294967296) (s2 : lb.data.toList.length ≤ 4294967296) (s3 : lc.data.toList.length ≤ 4294967296) (s4 : px.data.toList.length ≤ 4294967296) (s5 : py.data.toList.length ≤ 4294967296) {k l : Nat} (f1 : QS k (rd la.data.toList)) (f2 : QS k (rd lb.data.toList)) (f3 : QS l (rd px.data.toList)) (f4 : QS l (rd py.data.toList)) (hk : 20 * (k + l + 1) ≤ 35184372088640) (tab : Tab w) :
    Calls Tryz.prog 6 #[.agg #[.string la, .string lb, .string lc], .agg #[.string px, .string py]] w fun e w' => Below w.heap.size w w' ∧ ∃ (sa sb sc : ByteArray) (z : Int), e = .returned (.tuple #[.agg #[.string sa, .string sb, .string sc], .int .i64 z]) ∧ LineAns (rd la.data.toList) (rd lb.data.toList) (-(rd la.data.toList * rd px.data.toList + rd lb.data.toList * rd py.data.toList)) sa.data.toList sb.data.toList sc.data.toList z := by
  obtain ⟨hb0, hk0, hk1, hk2, hsz⟩ := boxes3 w #[.string la, .string lb, .string lc] #[.string px, .string py] #[.string ⟨#[]⟩, .string ⟨#[]⟩, .string ⟨#[]⟩] 26 24 26
  have HB0 := hideIt hb0
  have HSZ := hideIt hsz
  have HK1 := hideIt hk1
  have HK2 := hideIt hk2
  have HTAB := hideIt (tab.below hb0)
  have S1 := hideIt s1
  have S2 := hideIt s2
  have S3 := hideIt s3
  have S4 := hideIt s4
  have S5 := hideIt s5
  have F1 := hideIt f1
  have F2 := hideIt f2
  have F3 := hideIt f3
  have F4 := hideIt f4
  have HK := hideIt hk
  clear hb0 hsz hk0 hk1 hk2 tab s1 s2 s3 s4 s5 f1 f2 f3 f4 hk
  go_enter Tryz.func6, Tryz.ntmps6
  go_wp2_with fail
  generalize (((w.alloc (.cells #[.string la, .string lb, .string lc] 26)).alloc (.cells #[.string px, .string py] 24)).alloc (.cells #[.string ⟨#[]⟩, .string ⟨#[]⟩, .string ⟨#[]⟩] 26)) = W0 at *
  refine (rulerRead_calls ⟨la, lb, lc, rfl, rfl, rfl, rfl⟩ S1.out S2.out S3.out).mono ?_
  rintro _ w1 ⟨hb1, ⟨h1, h2, rfl⟩ | ⟨hn, v1, rfl, hv1⟩⟩
  · have HKR := hideIt (HK2.out.below hb1 (by rw [HSZ.out]; omega))
    have HBW := hideIt (HB0.out.trans (hb1.mono HB0.out.size))
    have ha : ∀ o, Blk (w1.alloc o) (w.heap.size + 1 + 1) #[.string ⟨#[]⟩, .string ⟨#[]⟩, .string ⟨#[]⟩] 26 := fun o => HKR.out.below (below_new w1 o) HKR.out.lt
    have r0 : ∀ o, (w1.alloc o).cell? ⟨w.heap.size + 1 + 1, 0, none⟩ = some (.string ⟨#[]⟩) := fun o => (ha o).cell 0
    have r1 : ∀ o, (w1.alloc o).cell? ⟨w.heap.size + 1 + 1, 1, none⟩ = some (.string ⟨#[]⟩) := fun o => (ha o).cell 1
    have r2 : ∀ o, (w1.alloc o).cell? ⟨w.heap.size + 1 + 1, 2, none⟩ = some (.string ⟨#[]⟩) := fun o => (ha o).cell 2
    have j0 : ∀ o, (w1.alloc o).frozen? ⟨w.heap.size + 1 + 1, 0, none⟩ = false := fun o => (ha o).frozen 0
    have j1 : ∀ o, (w1.alloc o).frozen? ⟨w.heap.size + 1 + 1, 1, none⟩ = false := fun o => (ha o).frozen 1
    have j2 : ∀ o, (w1.alloc o).frozen? ⟨w.heap.size + 1 + 1, 2, none⟩ = false := fun o => (ha o).frozen 2
    have HH := hideIt (And.intro h1 h2)
    have hq := HKR.out.all3
    obtain ⟨q0, q1, q2, g0, g1, g2⟩ := hq
    have lR := HKR.out.lt
    clear ha hb1 h1 h2
    go_wp2
    obtain ⟨k0, k1, k2, _⟩ := ((HKR.out.put3 (.string ⟨#[]⟩) (.string ⟨#[]⟩) (.string ⟨#[]⟩)).old (.cells #[.bool false, .slice none 0 0, .slice none 0 0, .bool false, .slice none 0 0, .slice none 0 0, .bool false, .slice none 0 0, .slice none 0 0] 52)).all3
    have hbf := (Below.put3 HBW.out (g := w.heap.size + 1 + 1) (by omega) (.string ⟨#[]⟩) (.string ⟨#[]⟩) (.string ⟨#[]⟩))
    exact bodyPost_ret (v := .tuple #[.agg #[.string ⟨#[]⟩, .string ⟨#[]⟩, .string ⟨#[]⟩], .int .i64 5]) (by simp [results, Tryz.results6, go_sem, k0, k1, k2]) rfl ⟨hbf.alloc hbf.size _, _, _, _, _, rfl, Or.inl ⟨HH.out.1, HH.out.2, rfl, rfl, rfl, rfl⟩⟩
  · obtain ⟨a, b, c, rfl, hx, hy, hz⟩ := hv1
    have HX := hideIt hx
    have HY := hideIt hy
    have HB1 := hideIt hb1
    clear hx hy hz hb1 hn
    go_wp2_with fail
    obtain ⟨w2, hw2⟩ : ∃ w2, w2 = w1.alloc (.cells #[.bool a.n, .slice a.u a.nu a.cu, .slice a.l a.nl a.cl, .bool b.n, .slice b.u b.nu b.cu, .slice b.l b.nl b.cl, .bool c.n, .slice c.u c.nu c.cu, .slice c.l c.nl c.cl] 52) := ⟨_, rfl⟩
    have hbA := below_new w1 (.cells #[.bool a.n, .slice a.u a.nu a.cu, .slice a.l a.nl a.cl, .bool b.n, .slice b.u b.nu b.cu, .slice b.l b.nl b.cl, .bool c.n, .slice c.u c.nu c.cu, .slice c.l c.nl c.cl] 52)
    have HKG := hideIt (Blk.new w1 #[.bool a.n, .slice a.u a.nu a.cu, .slice a.l a.nl a.cl, .bool b.n, .slice b.u b.nu b.cu, .slice b.l b.nl b.cl, .bool c.n, .slice c.u c.nu c.cu, .slice c.l c.nl c.cl] 52)
    rw [← hw2] at hbA HKG ⊢
    have HBL : Hid (Below W0.heap.size W0 w2) := HB1.out.trans (hbA.mono HB1.out.size)
    have HX2 := hideIt (HX.out.below hbA)
    have HY2 := hideIt (HY.out.below hbA)
    clear hbA hw2
    obtain ⟨G, hG⟩ : ∃ G, G = w1.heap.size := ⟨_, rfl⟩
    rw [← hG] at HKG ⊢
    have HGge : Hid (W0.heap.size ≤ G) := by rw [hG]; exact HB1.out.size
    clear hG
    have HKP := hideIt (HK1.out.below HBL.out (by rw [HSZ.out]; omega))
    have HKR := hideIt (HK2.out.below HBL.out (by rw [HSZ.out]; omega))
    have HTC := hideIt (HTAB.out.below HBL.out)
    have HS : Hid (∀ w', Below w2.heap.size w2 w' → w'.cell? ⟨w.heap.size + 1, 0, none⟩ = some (.string px) ∧ w'.cell? ⟨w.heap.size + 1, 1, none⟩ = some (.string py) ∧ w'.cell? ⟨G, 0, none⟩ = some (.bool a.n) ∧ w'.cell? ⟨G, 1, none⟩ = some (.slice a.u a.nu a.cu) ∧ w'.cell? ⟨G, 2, none⟩ = some (.slice a.l a.nl a.cl) ∧ w'.cell? ⟨G, 3, none⟩ = some (.bool b.n) ∧ w'.cell? ⟨G, 4, none⟩ = some (.slice b.u b.nu b.cu) ∧ w'.cell? ⟨G, 5, none⟩ = some (.slice b.l b.nl b.cl) ∧ w'.cell? ⟨G, 6, none⟩ = some (.bool c.n) ∧ w'.cell? ⟨G, 7, none⟩ = some (.slice c.u c.nu c.cu) ∧ w'.cell? ⟨G, 8, none⟩ = some (.slice c.l c.nl c.cl)) := fun w' hb => ⟨(HKP.out.below hb HKP.out.lt).cell 0, (HKP.out.below hb HKP.out.lt).cell 1, (HKG.out.below hb HKG.out.lt).cell 0, (HKG.out.below hb HKG.out.lt).cell 1, (HKG.out.below hb HKG.out.lt).cell 2, (HKG.out.below hb HKG.out.lt).cell 3, (HKG.out.below hb HKG.out.lt).cell 4, (HKG.out.below hb HKG.out.lt).cell 5, (HKG.out.below hb HKG.out.lt).cell 6, (HKG.out.below hb HKG.out.lt).cell 7, (HKG.out.below hb HKG.out.lt).cell 8⟩
    have HRS : Hid (w.heap.size + 1 + 1 ≠ G) := by
      have := HSZ.out
      have := HGge.out
      show _ ≠ _
      omega
    have HSS : Hid (∀ w', Below w2.heap.size w2 w' → ∀ x0 x1 x2 : Value, (((w'.setCell ⟨w.heap.size + 1 + 1, 0, none⟩ (x0)).setCell ⟨w.heap.size + 1 + 1, 1, none⟩ (x1)).setCell ⟨w.heap.size + 1 + 1, 2, none⟩ (x2)).cell? ⟨w.heap.size + 1, 0, none⟩ = some (.string px) ∧ (((w'.setCell ⟨w.heap.size + 1 + 1, 0, none⟩ (x0)).setCell ⟨w.heap.size + 1 + 1, 1, none⟩ (x1)).setCell ⟨w.heap.size + 1 + 1, 2, none⟩ (x2)).cell? ⟨w.heap.size + 1, 1, none⟩ = some (.string py) ∧ (((w'.setCell ⟨w.heap.size + 1 + 1, 0, none⟩ (x0)).setCell ⟨w.heap.size + 1 + 1, 1, none⟩ (x1)).setCell ⟨w.heap.size + 1 + 1, 2, none⟩ (x2)).cell? ⟨G, 0, none⟩ = some (.bool a.n) ∧ (((w'.setCell ⟨w.heap.size + 1 + 1, 0, none⟩ (x0)).setCell ⟨w.heap.size + 1 + 1, 1, none⟩ (x1)).setCell ⟨w.heap.size + 1 + 1, 2, none⟩ (x2)).cell? ⟨G, 1, none⟩ = some (.slice a.u a.nu a.cu) ∧ (((w'.setCell ⟨w.heap.size + 1 + 1, 0, none⟩ (x0)).setCell ⟨w.heap.size + 1 + 1, 1, none⟩ (x1)).setCell ⟨w.heap.size + 1 + 1, 2, none⟩ (x2)).cell? ⟨G, 2, none⟩ = some (.slice a.l a.nl a.cl) ∧ (((w'.setCell ⟨w.heap.size + 1 + 1, 0, none⟩ (x0)).setCell ⟨w.heap.size + 1 + 1, 1, none⟩ (x1)).setCell ⟨w.heap.size + 1 + 1, 2, none⟩ (x2)).cell? ⟨G, 3, none⟩ = some (.bool b.n) ∧ (((w'.setCell ⟨w.heap.size + 1 + 1, 0, none⟩ (x0)).setCell ⟨w.heap.size + 1 + 1, 1, none⟩ (x1)).setCell ⟨w.heap.size + 1 + 1, 2, none⟩ (x2)).cell? ⟨G, 4, none⟩ = some (.slice b.u b.nu b.cu) ∧ (((w'.setCell ⟨w.heap.size + 1 + 1, 0, none⟩ (x0)).setCell ⟨w.heap.size + 1 + 1, 1, none⟩ (x1)).setCell ⟨w.heap.size + 1 + 1, 2, none⟩ (x2)).cell? ⟨G, 5, none⟩ = some (.slice b.l b.nl b.cl) ∧ (((w'.setCell ⟨w.heap.size + 1 + 1, 0, none⟩ (x0)).setCell ⟨w.heap.size + 1 + 1, 1, none⟩ (x1)).setCell ⟨w.heap.size + 1 + 1, 2, none⟩ (x2)).cell? ⟨G, 6, none⟩ = some (.bool c.n) ∧ (((w'.setCell ⟨w.heap.size + 1 + 1, 0, none⟩ (x0)).setCell ⟨w.heap.size + 1 + 1, 1, none⟩ (x1)).setCell ⟨w.heap.size + 1 + 1, 2, none⟩ (x2)).cell? ⟨G, 7, none⟩ = some (.slice c.u c.nu c.cu) ∧ (((w'.setCell ⟨w.heap.size + 1 + 1, 0, none⟩ (x0)).setCell ⟨w.heap.size + 1 + 1, 1, none⟩ (x1)).setCell ⟨w.heap.size + 1 + 1, 2, none⟩ (x2)).cell? ⟨G, 8, none⟩ = some (.slice c.l c.nl c.cl)) := fun w' hb x0 x1 x2 => ⟨((HKP.out.below hb HKP.out.lt).off3 (g := w.heap.size + 1 + 1) (by omega) x0 x1 x2).cell 0, ((HKP.out.below hb HKP.out.lt).off3 (g := w.heap.size + 1 + 1) (by omega) x0 x1 x2).cell 1, ((HKG.out.below hb HKG.out.lt).off3 (g := w.heap.size + 1 + 1) HRS.out x0 x1 x2).cell 0, ((HKG.out.below hb HKG.out.lt).off3 (g := w.heap.size + 1 + 1) HRS.out x0 x1 x2).cell 1, ((HKG.out.below hb HKG.out.lt).off3 (g := w.heap.size + 1 + 1) HRS.out x0 x1 x2).cell 2, ((HKG.out.below hb HKG.out.lt).off3 (g := w.heap.size + 1 + 1) HRS.out x0 x1 x2).cell 3, ((HKG.out.below hb HKG.out.lt).off3 (g := w.heap.size + 1 + 1) HRS.out x0 x1 x2).cell 4, ((HKG.out.below hb HKG.out.lt).off3 (g := w.heap.size + 1 + 1) HRS.out x0 x1 x2).cell 5, ((HKG.out.below hb HKG.out.lt).off3 (g := w.heap.size + 1 + 1) HRS.out x0 x1 x2).cell 6, ((HKG.out.below hb HKG.out.lt).off3 (g := w.heap.size + 1 + 1) HRS.out x0 x1 x2).cell 7, ((HKG.out.below hb HKG.out.lt).off3 (g := w.heap.size + 1 + 1) HRS.out x0 x1 x2).cell 8⟩
    obtain ⟨z0, z1, z2, z3, z4, z5, z6, z7, z8, z9, z10⟩ := HS.out w2 (Below.refl _ _)
    go_region_held3 (fun w' => w'.cell? ⟨w.heap.size + 1, 0, none⟩ = some (.string px) ∧ w'.cell? ⟨w.heap.size + 1, 1, none⟩ = some (.string py) ∧ w'.cell? ⟨G, 0, none⟩ = some (.bool a.n) ∧ w'.cell? ⟨G, 1, none⟩ = some (.slice a.u a.nu a.cu) ∧ w'.cell? ⟨G, 2, none⟩ = some (.slice a.l a.nl a.cl) ∧ w'.cell? ⟨G, 3, none⟩ = some (.bool b.n) ∧ w'.cell? ⟨G, 4, none⟩ = some (.slice b.u b.nu b.cu) ∧ w'.cell? ⟨G, 5, none⟩ = some (.slice b.l b.nl b.cl) ∧ w'.cell? ⟨G, 6, none⟩ = some (.bool c.n) ∧ w'.cell? ⟨G, 7, none⟩ = some (.slice c.u c.nu c.cu) ∧ w'.cell? ⟨G, 8, none⟩ = some (.slice c.l c.nl c.cl)) (first | go_keep | exact hs3 | exact hs4 | exact hkS)
      (first
        | (go_at_call 9; refine (wayRead_calls (w := w2.drew) ⟨px, py, rfl, rfl, rfl⟩ S4.out S5.out).mono ?_; rintro _ w3 ⟨hb3, v3, rfl, hv3⟩; have hw3 := hv3; obtain ⟨d3, e3, rfl, hx3, hy3⟩ := hw3; have hbl3 : Below w2.heap.size w2 w3 := (Below.drew (Below.refl _ w2)).trans hb3; have hs3 := HS.out w3 hbl3)
        | (go_at_call 10; refine (square_ans hv3 ⟨a, b, rfl, HX2.out.below hbl3, HY2.out.below hbl3⟩ F1.out F2.out F3.out F4.out HK.out (HTC.out.below hbl3)).mono ?_; rintro _ w4 ⟨hb4, sa, sb, sc, z, rfl, hans⟩; have hbl4 := hbl3.trans (hb4.mono hbl3.size); have hs4 := HS.out w4 hbl4; have hkr := HKR.out.below hbl4 HKR.out.lt; obtain ⟨r0, r1, r2, j0, j1, j2⟩ := hkr.all3; have hkS := HSS.out w4 hbl4 (.string sa) (.string sb) (.string sc); have HANS := hideIt hans; clear hans)
        )
    all_goals
      go_wp2
      obtain ⟨k0, k1, k2, _⟩ := (hkr.put3 (.string sa) (.string sb) (.string sc)).all3
      exact bodyPost_ret (v := .tuple #[.agg #[.string sa, .string sb, .string sc], .int .i64 z]) (by simp [results, Tryz.results6, go_sem, k0, k1, k2]) rfl ⟨Below.put3 (HB0.out.trans ((HBL.out.trans (hbl4.mono HBL.out.size)).mono HB0.out.size)) (by omega) _ _ _, sa, sb, sc, z, rfl, HANS.out⟩

/-- Beside: the line through p beside l. -/
theorem beside_calls {w : World} {va vb : Value} {la lb lc px py : List UInt8} (ha : TV va la lb lc) (hb : PV vb px py) (s1 : la.length ≤ 4294967296) (s2 : lb.length ≤ 4294967296) (s3 : lc.length ≤ 4294967296) (s4 : px.length ≤ 4294967296) (s5 : py.length ≤ 4294967296) {k l : Nat} (f1 : QS k (rd la)) (f2 : QS k (rd lb)) (f3 : QS l (rd px)) (f4 : QS l (rd py)) (hk : 20 * (k + l + 1) ≤ 35184372088640) (tab : Tab w) :
    Calls Tryz.prog 6 #[va, vb] w fun e w' => Below w.heap.size w w' ∧ ∃ (sa sb sc : ByteArray) (z : Int), e = .returned (.tuple #[.agg #[.string sa, .string sb, .string sc], .int .i64 z]) ∧ LineAns (rd la) (rd lb) (-(rd la * rd px + rd lb * rd py)) sa.data.toList sb.data.toList sc.data.toList z := by
  obtain ⟨a, b, c, rfl, rfl, rfl, rfl⟩ := ha
  obtain ⟨d, e, rfl, rfl, rfl⟩ := hb
  exact beside_walk s1 s2 s3 s4 s5 f1 f2 f3 f4 hk tab
end Go.Proofs.YtllmfakelodpiaaGreatDoor
/- Walks of package line: Meet. -/
namespace Go.Proofs.YtllmfakelodpiaaGreatDoor
open Go.RowKit Cx

attribute [local go_sem ↓] Go.wp_at_zero Go.wp_at_succ

/-- What is answered for the point in which two lines meet. -/
def PointAns (a b c p q r : Rat) (sa sb : List UInt8) (z : Int) : Prop :=
  (((a = 0 ∧ b = 0) ∨ (p = 0 ∧ q = 0)) ∧ z ≠ 0) ∨ (¬ (a = 0 ∧ b = 0) ∧ ¬ (p = 0 ∧ q = 0) ∧ ∃ x y, MeetAns a b c p q r x y z ∧ (z = 0 → sa = tx x ∧ sb = tx y))

set_option maxHeartbeats 8000000 in
set_option maxRecDepth 100000 in
theorem lineMeet_walk {w : World} {la lb lc ma mb mc : ByteArray} (s1 : la.data.toList.length ≤ 4294967296) (s2 : lb.data.toList.length ≤ 4294967296) (s3 : lc.data.toList.length ≤ 4294967296) (s4 : ma.data.toList.length ≤ 4294967296) (s5 : mb.data.toList.length ≤ 4294967296) (s6 : mc.data.toList.length ≤ 4294967296) {k : Nat} (f1 : QS k (rd la.data.toList)) (f2 : QS k (rd lb.data.toList)) (f3 : QS k (rd lc.data.toList)) (f4 : QS k (rd ma.data.toList)) (f5 : QS k (rd mb.data.toList)) (f6 : QS k (rd mc.data.toList)) (hk : 20 * (k + 1) ≤ 35184372088640) (tab : Tab w) :
    Calls Tryz.prog 8 #[.agg #[.string la, .string lb, .string lc], .agg #[.string ma, .string mb, .string mc]] w fun e w' => Below w.heap.size w w' ∧ ∃ (sa sb : ByteArray) (z : Int), e = .returned (.tuple #[.agg #[.string sa, .string sb], .int .i64 z]) ∧ PointAns (rd la.data.toList) (rd lb.data.toList) (rd lc.data.toList) (rd ma.data.toList) (rd mb.data.toList) (rd mc.data.toList) sa.data.toList sb.data.toList z := by
  obtain ⟨hb0, hk0, hk1, hk2, hsz⟩ := boxes3 w #[.string la, .string lb, .string lc] #[.string ma, .string mb, .string mc] #[.string ⟨#[]⟩, .string ⟨#[]⟩] 26 26 24
  have HB0 := hideIt hb0
  have HSZ := hideIt hsz
  have HK1 := hideIt hk1
  have HK2 := hideIt hk2
  have HTAB := hideIt (tab.below hb0)
  have S1 := hideIt s1
  have F1 := hideIt f1
  have S2 := hideIt s2
  have F2 := hideIt f2
  have S3 := hideIt s3
  have F3 := hideIt f3
  have S4 := hideIt s4
  have F4 := hideIt f4
  have S5 := hideIt s5
  have F5 := hideIt f5
  have S6 := hideIt s6
  have F6 := hideIt f6
  have HK := hideIt hk
  clear hb0 hsz hk0 hk1 hk2 tab s1 s2 s3 s4 s5 s6 f1 f2 f3 f4 f5 f6 hk
  go_enter Tryz.func8, Tryz.ntmps8
  go_wp2_with fail
  generalize (((w.alloc (.cells #[.string la, .string lb, .string lc] 26)).alloc (.cells #[.string ma, .string mb, .string mc] 26)).alloc (.cells #[.string ⟨#[]⟩, .string ⟨#[]⟩] 24)) = W0 at *
  refine (rulerRead_calls ⟨la, lb, lc, rfl, rfl, rfl, rfl⟩ S1.out S2.out S3.out).mono ?_
  rintro _ w1 ⟨hb1, ⟨h1, h2, rfl⟩ | ⟨hn, v1, rfl, hv1⟩⟩
  · have HKR := hideIt (HK2.out.below hb1 (by rw [HSZ.out]; omega))
    have HBW := hideIt (HB0.out.trans (hb1.mono HB0.out.size))
    have HH := hideIt (And.intro h1 h2)
    have r0 : ∀ o, (w1.alloc o).cell? ⟨w.heap.size + 1 + 1, 0, none⟩ = some (.string ⟨#[]⟩) := fun o => (HKR.out.old o).cell 0
    have j0 : ∀ o, (w1.alloc o).frozen? ⟨w.heap.size + 1 + 1, 0, none⟩ = false := fun o => (HKR.out.old o).frozen 0
    have r1 : ∀ o, (w1.alloc o).cell? ⟨w.heap.size + 1 + 1, 1, none⟩ = some (.string ⟨#[]⟩) := fun o => (HKR.out.old o).cell 1
    have j1 : ∀ o, (w1.alloc o).frozen? ⟨w.heap.size + 1 + 1, 1, none⟩ = false := fun o => (HKR.out.old o).frozen 1
    obtain ⟨q0, q1, g0, g1⟩ := HKR.out.all2
    have lR := HKR.out.lt
    clear hb1 h1 h2
    go_wp2
    obtain ⟨k0, k1, _⟩ := ((HKR.out.put2 (.string ⟨#[]⟩) (.string ⟨#[]⟩)).old (.cells #[.bool false, .slice none 0 0, .slice none 0 0, .bool false, .slice none 0 0, .slice none 0 0, .bool false, .slice none 0 0, .slice none 0 0] 52)).all2
    have hbf := (Below.put2 HBW.out (g := w.heap.size + 1 + 1) (by omega) (.string ⟨#[]⟩) (.string ⟨#[]⟩))
    exact bodyPost_ret (v := .tuple #[.agg #[.string ⟨#[]⟩, .string ⟨#[]⟩], .int .i64 5]) (by simp [results, Tryz.results8, go_sem, k0, k1]) rfl ⟨hbf.alloc hbf.size _, _, _, _, rfl, Or.inl ⟨Or.inl HH.out, by decide⟩⟩
  · obtain ⟨a, b, c, rfl, hx, hy, hz⟩ := hv1
    have HA := hideIt hx
    have HB := hideIt hy
    have HC := hideIt hz
    have HN := hideIt hn
    have HB1 := hideIt hb1
    have HKM1 := hideIt (HK1.out.below hb1 (by rw [HSZ.out]; omega))
    have m0 : ∀ o, (w1.alloc o).cell? ⟨w.heap.size + 1, 0, none⟩ = some (.string ma) := fun o => (HKM1.out.old o).cell 0
    have m1 : ∀ o, (w1.alloc o).cell? ⟨w.heap.size + 1, 1, none⟩ = some (.string mb) := fun o => (HKM1.out.old o).cell 1
    have m2 : ∀ o, (w1.alloc o).cell? ⟨w.heap.size + 1, 2, none⟩ = some (.string mc) := fun o => (HKM1.out.old o).cell 2
    clear hx hy hz hn hb1
    go_wp2_with fail
    obtain ⟨w2, hw2⟩ : ∃ w2, w2 = w1.alloc (.cells #[.bool a.n, .slice a.u a.nu a.cu, .slice a.l a.nl a.cl, .bool b.n, .slice b.u b.nu b.cu, .slice b.l b.nl b.cl, .bool c.n, .slice c.u c.nu c.cu, .slice c.l c.nl c.cl] 52) := ⟨_, rfl⟩
    have hbA := below_new w1 (.cells #[.bool a.n, .slice a.u a.nu a.cu, .slice a.l a.nl a.cl, .bool b.n, .slice b.u b.nu b.cu, .slice b.l b.nl b.cl, .bool c.n, .slice c.u c.nu c.cu, .slice c.l c.nl c.cl] 52)
    have HKG := hideIt (Blk.new w1 #[.bool a.n, .slice a.u a.nu a.cu, .slice a.l a.nl a.cl, .bool b.n, .slice b.u b.nu b.cu, .slice b.l b.nl b.cl, .bool c.n, .slice c.u c.nu c.cu, .slice c.l c.nl c.cl] 52)
    rw [← hw2] at hbA HKG ⊢
    obtain ⟨G, hG⟩ : ∃ G, G = w1.heap.size := ⟨_, rfl⟩
    rw [← hG] at HKG ⊢
    clear hG hw2
    have HBL : Hid (Below W0.heap.size W0 w2) := HB1.out.trans (hbA.mono HB1.out.size)
    have HA2 := hideIt (HA.out.below hbA)
    have HB2 := hideIt (HB.out.below hbA)
    have HC2 := hideIt (HC.out.below hbA)
    clear hbA m0 m1 m2
    refine (rulerRead_calls ⟨ma, mb, mc, rfl, rfl, rfl, rfl⟩ S4.out S5.out S6.out).mono ?_
    rintro _ w3 ⟨hb3, ⟨h1, h2, rfl⟩ | ⟨hm, v3, rfl, hv3⟩⟩
    · have hbl3 := HBL.out.trans (hb3.mono HBL.out.size)
      have HKR := hideIt (HK2.out.below hbl3 (by rw [HSZ.out]; omega))
      have HBW := hideIt (HB0.out.trans (hbl3.mono HB0.out.size))
      have HH := hideIt (And.intro h1 h2)
      have r0 : ∀ o, (w3.alloc o).cell? ⟨w.heap.size + 1 + 1, 0, none⟩ = some (.string ⟨#[]⟩) := fun o => (HKR.out.old o).cell 0
      have j0 : ∀ o, (w3.alloc o).frozen? ⟨w.heap.size + 1 + 1, 0, none⟩ = false := fun o => (HKR.out.old o).frozen 0
      have r1 : ∀ o, (w3.alloc o).cell? ⟨w.heap.size + 1 + 1, 1, none⟩ = some (.string ⟨#[]⟩) := fun o => (HKR.out.old o).cell 1
      have j1 : ∀ o, (w3.alloc o).frozen? ⟨w.heap.size + 1 + 1, 1, none⟩ = false := fun o => (HKR.out.old o).frozen 1
      obtain ⟨q0, q1, g0, g1⟩ := HKR.out.all2
      have lR := HKR.out.lt
      clear hb3 h1 h2 hbl3
      go_wp2
      obtain ⟨k0, k1, _⟩ := ((HKR.out.put2 (.string ⟨#[]⟩) (.string ⟨#[]⟩)).old (.cells #[.bool false, .slice none 0 0, .slice none 0 0, .bool false, .slice none 0 0, .slice none 0 0, .bool false, .slice none 0 0, .slice none 0 0] 52)).all2
      have hbf := (Below.put2 HBW.out (g := w.heap.size + 1 + 1) (by omega) (.string ⟨#[]⟩) (.string ⟨#[]⟩))
      exact bodyPost_ret (v := .tuple #[.agg #[.string ⟨#[]⟩, .string ⟨#[]⟩], .int .i64 5]) (by simp [results, Tryz.results8, go_sem, k0, k1]) rfl ⟨hbf.alloc hbf.size _, _, _, _, rfl, Or.inl ⟨Or.inr HH.out, by decide⟩⟩
    · obtain ⟨p, q, r, rfl, hx, hy, hz⟩ := hv3
      have HM := hideIt hm
      have HP := hideIt hx
      have HQ := hideIt hy
      have HR := hideIt hz
      have HA3 := hideIt (HA2.out.below hb3)
      have HB3 := hideIt (HB2.out.below hb3)
      have HC3 := hideIt (HC2.out.below hb3)
      have HBL3 := hideIt (HBL.out.trans (hb3.mono HBL.out.size))
      have HKG3 := hideIt (HKG.out.below hb3 HKG.out.lt)
      clear hx hy hz hm hb3
      have y0 : ∀ o, (w3.alloc o).cell? ⟨G, 0, none⟩ = some (.bool a.n) := fun o => (HKG3.out.old o).cell 0
      have y1 : ∀ o, (w3.alloc o).cell? ⟨G, 1, none⟩ = some (.slice a.u a.nu a.cu) := fun o => (HKG3.out.old o).cell 1
      have y2 : ∀ o, (w3.alloc o).cell? ⟨G, 2, none⟩ = some (.slice a.l a.nl a.cl) := fun o => (HKG3.out.old o).cell 2
      have y3 : ∀ o, (w3.alloc o).cell? ⟨G, 3, none⟩ = some (.bool b.n) := fun o => (HKG3.out.old o).cell 3
      have y4 : ∀ o, (w3.alloc o).cell? ⟨G, 4, none⟩ = some (.slice b.u b.nu b.cu) := fun o => (HKG3.out.old o).cell 4
      have y5 : ∀ o, (w3.alloc o).cell? ⟨G, 5, none⟩ = some (.slice b.l b.nl b.cl) := fun o => (HKG3.out.old o).cell 5
      have y6 : ∀ o, (w3.alloc o).cell? ⟨G, 6, none⟩ = some (.bool c.n) := fun o => (HKG3.out.old o).cell 6
      have y7 : ∀ o, (w3.alloc o).cell? ⟨G, 7, none⟩ = some (.slice c.u c.nu c.cu) := fun o => (HKG3.out.old o).cell 7
      have y8 : ∀ o, (w3.alloc o).cell? ⟨G, 8, none⟩ = some (.slice c.l c.nl c.cl) := fun o => (HKG3.out.old o).cell 8
      go_wp2_with fail
      obtain ⟨w4, hw4⟩ : ∃ w4, w4 = w3.alloc (.cells #[.bool p.n, .slice p.u p.nu p.cu, .slice p.l p.nl p.cl, .bool q.n, .slice q.u q.nu q.cu, .slice q.l q.nl q.cl, .bool r.n, .slice r.u r.nu r.cu, .slice r.l r.nl r.cl] 52) := ⟨_, rfl⟩
      have hbA := below_new w3 (.cells #[.bool p.n, .slice p.u p.nu p.cu, .slice p.l p.nl p.cl, .bool q.n, .slice q.u q.nu q.cu, .slice q.l q.nl q.cl, .bool r.n, .slice r.u r.nu r.cu, .slice r.l r.nl r.cl] 52)
      have HKH := hideIt (Blk.new w3 #[.bool p.n, .slice p.u p.nu p.cu, .slice p.l p.nl p.cl, .bool q.n, .slice q.u q.nu q.cu, .slice q.l q.nl q.cl, .bool r.n, .slice r.u r.nu r.cu, .slice r.l r.nl r.cl] 52)
      rw [← hw4] at hbA HKH ⊢
      obtain ⟨H, hH⟩ : ∃ H, H = w3.heap.size := ⟨_, rfl⟩
      rw [← hH] at HKH ⊢
      clear hH hw4
      have HBL4 : Hid (Below W0.heap.size W0 w4) := HBL3.out.trans (hbA.mono HBL3.out.size)
      refine (rulerMeet_calls ⟨a, b, c, rfl, HA3.out.below hbA, HB3.out.below hbA, HC3.out.below hbA⟩ ⟨p, q, r, rfl, HP.out.below hbA, HQ.out.below hbA, HR.out.below hbA⟩ F1.out F2.out F3.out F4.out F5.out F6.out HK.out).mono ?_
      rintro _ w5 ⟨hb5, v5, z, x, y, rfl, hv5, hans⟩
      obtain ⟨d, e, rfl, hx5, hy5⟩ := hv5
      have hbl5 := HBL4.out.trans (hb5.mono HBL4.out.size)
      have HKR := hideIt (HK2.out.below hbl5 (by rw [HSZ.out]; omega))
      have HBW := hideIt (HB0.out.trans (hbl5.mono HB0.out.size))
      have HTC := hideIt (HTAB.out.below hbl5)
      have HX5 := hideIt hx5
      have HY5 := hideIt hy5
      have HANS := hideIt hans
      clear hbA y0 y1 y2 y3 y4 y5 y6 y7 y8 hb5 hbl5 hx5 hy5
      rcases hans with ⟨ht, hz0, hxe, hye⟩ | ⟨ht, hz0⟩
      · subst hz0
        have FX : Hid (QS (k + k + (k + k) + 1 + (k + k + (k + k) + 1)) x) := by
          show QS _ _
          rw [hxe]
          exact (((F5.out.mul F3.out).sub (F2.out.mul F6.out)).neg).div ((F1.out.mul F5.out).sub (F2.out.mul F4.out))
        have FY : Hid (QS (k + k + (k + k) + 1 + (k + k + (k + k) + 1)) y) := by
          show QS _ _
          rw [hye]
          exact ((F4.out.mul F3.out).sub (F1.out.mul F6.out)).div ((F1.out.mul F5.out).sub (F2.out.mul F4.out))
        have K3 : Hid (k + k + (k + k) + 1 + (k + k + (k + k) + 1) ≤ 35184372088640) := by have := HK.out; show _ ≤ _; omega
        clear ht hxe hye
        go_wp2_with fail
        have hbA := below_new w5 (.cells #[.bool d.n, .slice d.u d.nu d.cu, .slice d.l d.nl d.cl, .bool e.n, .slice e.u e.nu e.cu, .slice e.l e.nl e.cl] 41)
        refine (wayText_calls ⟨d, e, rfl, HX5.out.below hbA, HY5.out.below hbA⟩ FX.out FY.out K3.out (HTC.out.below hbA)).mono ?_
        rintro _ w6 ⟨hb6, v6, rfl, sa, sb, rfl, ta, tb⟩
        have hbl6 := hbA.trans (hb6.mono hbA.size)
        have hkr := HKR.out.below hbl6 HKR.out.lt
        obtain ⟨q0, q1, g0, g1⟩ := hkr.all2
        have HT := hideIt (And.intro ta tb)
        have hbf := hideIt (HBW.out.trans (hbl6.mono HBW.out.size))
        clear ta tb hbA hb6 hbl6
        go_wp2
        obtain ⟨k0, k1, _⟩ := (hkr.put2 (.string sa) (.string sb)).all2
        exact bodyPost_ret (v := .tuple #[.agg #[.string sa, .string sb], .int .i64 0]) (by simp [results, Tryz.results8, go_sem, k0, k1]) rfl ⟨Below.put2 hbf.out (by omega) _ _, sa, sb, 0, rfl, Or.inr ⟨HN.out, HM.out, x, y, HANS.out, fun _ => HT.out⟩⟩
      · have hne : (z != 0) = true := by simpa using hz0
        have HZ0 := hideIt hz0
        have r0 : ∀ o, (w5.alloc o).cell? ⟨w.heap.size + 1 + 1, 0, none⟩ = some (.string ⟨#[]⟩) := fun o => (HKR.out.old o).cell 0
        have j0 : ∀ o, (w5.alloc o).frozen? ⟨w.heap.size + 1 + 1, 0, none⟩ = false := fun o => (HKR.out.old o).frozen 0
        have r1 : ∀ o, (w5.alloc o).cell? ⟨w.heap.size + 1 + 1, 1, none⟩ = some (.string ⟨#[]⟩) := fun o => (HKR.out.old o).cell 1
        have j1 : ∀ o, (w5.alloc o).frozen? ⟨w.heap.size + 1 + 1, 1, none⟩ = false := fun o => (HKR.out.old o).frozen 1
        obtain ⟨q0, q1, g0, g1⟩ := HKR.out.all2
        have lR := HKR.out.lt
        clear ht hz0
        go_wp2
        obtain ⟨k0, k1, _⟩ := ((HKR.out.put2 (.string ⟨#[]⟩) (.string ⟨#[]⟩)).old (.cells #[.bool d.n, .slice d.u d.nu d.cu, .slice d.l d.nl d.cl, .bool e.n, .slice e.u e.nu e.cu, .slice e.l e.nl e.cl] 41)).all2
        have hbf := (Below.put2 HBW.out (g := w.heap.size + 1 + 1) (by omega) (.string ⟨#[]⟩) (.string ⟨#[]⟩))
        exact bodyPost_ret (v := .tuple #[.agg #[.string ⟨#[]⟩, .string ⟨#[]⟩], .int .i64 z]) (by simp [results, Tryz.results8, go_sem, k0, k1]) rfl ⟨hbf.alloc hbf.size _, _, _, z, rfl, Or.inr ⟨HN.out, HM.out, x, y, HANS.out, fun h => absurd h HZ0.out⟩⟩

/-- Meet: the point that both have in common. -/
theorem lineMeet_calls {w : World} {va vb : Value} {la lb lc ma mb mc : List UInt8} (ha : TV va la lb lc) (hb : TV vb ma mb mc) (s1 : la.length ≤ 4294967296) (s2 : lb.length ≤ 4294967296) (s3 : lc.length ≤ 4294967296) (s4 : ma.length ≤ 4294967296) (s5 : mb.length ≤ 4294967296) (s6 : mc.length ≤ 4294967296) {k : Nat} (f1 : QS k (rd la)) (f2 : QS k (rd lb)) (f3 : QS k (rd lc)) (f4 : QS k (rd ma)) (f5 : QS k (rd mb)) (f6 : QS k (rd mc)) (hk : 20 * (k + 1) ≤ 35184372088640) (tab : Tab w) :
    Calls Tryz.prog 8 #[va, vb] w fun e w' => Below w.heap.size w w' ∧ ∃ (sa sb : ByteArray) (z : Int), e = .returned (.tuple #[.agg #[.string sa, .string sb], .int .i64 z]) ∧ PointAns (rd la) (rd lb) (rd lc) (rd ma) (rd mb) (rd mc) sa.data.toList sb.data.toList z := by
  obtain ⟨a, b, c, rfl, rfl, rfl, rfl⟩ := ha
  obtain ⟨d, e, f, rfl, rfl, rfl, rfl⟩ := hb
  exact lineMeet_walk s1 s2 s3 s4 s5 s6 f1 f2 f3 f4 f5 f6 hk tab
end Go.Proofs.YtllmfakelodpiaaGreatDoor
