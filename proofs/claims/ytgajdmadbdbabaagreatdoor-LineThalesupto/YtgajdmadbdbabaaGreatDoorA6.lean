/- Part 6 of the walks and of the mathematics under them: WP WAN WS WT WU MathY WV WW WR. -/
import Derived.Test.YtgajdmadbdbabaaGreatDoorA5
import Derived.Test.YtgajdmadbdbabaaGreatDoorA4
set_option maxHeartbeats 16000000
set_option maxRecDepth 100000
/- WP -/
namespace Go.Proofs.YtgajdmadbdbabaaGreatDoor
open Go.RowKit Cx
attribute [local go_sem ↓] Go.wp_at_zero Go.wp_at_succ
def LineAns (x y c : Rat) (la lb lc : List UInt8) (z : Int) : Prop :=
  (x = 0 ∧ y = 0 ∧ z = 5 ∧ la = [] ∧ lb = [] ∧ lc = []) ∨ (¬ (x = 0 ∧ y = 0) ∧ z = 0 ∧ la = tx (x * fac [x, y, c]) ∧ lb = tx (y * fac [x, y, c]) ∧ lc = tx (c * fac [x, y, c]))
theorem square_ans {w : World} {va vb : Value} {px py ax ay : Rat} (ha : WV w va px py) (hb : WV w vb ax ay) {k l : Nat} (f1 : QS k ax) (f2 : QS k ay) (f3 : QS l px) (f4 : QS l py) (hk : 20 * (k + l + 1) ≤ 35184372088640) (tab : Tab w) :
    Calls Tryz.prog 63 #[va, vb] w fun e w' => Below w.heap.size w w' ∧ ∃ (sa sb sc : ByteArray) (z : Int), e = .returned (.tuple #[.agg #[.string sa, .string sb, .string sc], .int .i64 z]) ∧ LineAns ax ay (-(ax * px + ay * py)) sa.data.toList sb.data.toList sc.data.toList z := by
  refine (square_calls ha hb f1 f2 f3 f4 hk tab).mono ?_
  rintro e w' ⟨hbel, ⟨h1, h2, rfl⟩ | ⟨hn, v, rfl, sa, sb, sc, rfl, t1, t2, t3⟩⟩
  · exact ⟨hbel, _, _, _, _, rfl, Or.inl ⟨h1, h2, rfl, rfl, rfl, rfl⟩⟩
  · exact ⟨hbel, _, _, _, _, rfl, Or.inr ⟨hn, rfl, t1, t2, t3⟩⟩
theorem through_walk {w : World} {px py qx qy : ByteArray} (s1 : px.data.toList.length ≤ 1048576) (s2 : py.data.toList.length ≤ 1048576) (s3 : qx.data.toList.length ≤ 1048576) (s4 : qy.data.toList.length ≤ 1048576) (tab : Tab w) :
    Calls Tryz.prog 15 #[.agg #[.string px, .string py], .agg #[.string qx, .string qy]] w fun e w' => Below w.heap.size w w' ∧ ∃ (sa sb sc : ByteArray) (z : Int), e = .returned (.tuple #[.agg #[.string sa, .string sb, .string sc], .int .i64 z]) ∧ LineAns (-(rd qy.data.toList - rd py.data.toList)) (rd qx.data.toList - rd px.data.toList) (-(-(rd qy.data.toList - rd py.data.toList) * rd px.data.toList + (rd qx.data.toList - rd px.data.toList) * rd py.data.toList)) sa.data.toList sb.data.toList sc.data.toList z := by
  obtain ⟨hb0, hk0, hk1, hk2, hsz⟩ := boxes3 w #[.string px, .string py] #[.string qx, .string qy] #[.string ⟨#[]⟩, .string ⟨#[]⟩, .string ⟨#[]⟩] 24 24 26
  have HB0 := hideIt hb0
  have HSZ := hideIt hsz
  have HK0 := hideIt hk0
  have HK1 := hideIt hk1
  have HK2 := hideIt hk2
  have HTAB := hideIt (tab.below hb0)
  have S1 := hideIt s1
  have S2 := hideIt s2
  have S3 := hideIt s3
  have S4 := hideIt s4
  have L1 : Hid (px.data.toList.length ≤ 4294967296) := by have := S1.out; show _ ≤ _; omega
  have L2 : Hid (py.data.toList.length ≤ 4294967296) := by have := S2.out; show _ ≤ _; omega
  have L3 : Hid (qx.data.toList.length ≤ 4294967296) := by have := S3.out; show _ ≤ _; omega
  have L4 : Hid (qy.data.toList.length ≤ 4294967296) := by have := S4.out; show _ ≤ _; omega
  clear hb0 hsz hk0 hk1 hk2 tab s1 s2 s3 s4
  go_enter Tryz.func15, Tryz.ntmps15
  go_wp2_with fail
  generalize (((w.alloc (.cells #[.string px, .string py] 24)).alloc (.cells #[.string qx, .string qy] 24)).alloc (.cells #[.string ⟨#[]⟩, .string ⟨#[]⟩, .string ⟨#[]⟩] 26)) = W0 at *
  have HS : Hid (∀ w', Below W0.heap.size W0 w' → w'.cell? ⟨w.heap.size, 0, none⟩ = some (.string px) ∧ w'.cell? ⟨w.heap.size, 1, none⟩ = some (.string py) ∧ w'.cell? ⟨w.heap.size + 1, 0, none⟩ = some (.string qx) ∧ w'.cell? ⟨w.heap.size + 1, 1, none⟩ = some (.string qy)) := fun w' hb => ⟨(HK0.out.below hb (by rw [HSZ.out]; omega)).cell 0, (HK0.out.below hb (by rw [HSZ.out]; omega)).cell 1, (HK1.out.below hb (by rw [HSZ.out]; omega)).cell 0, (HK1.out.below hb (by rw [HSZ.out]; omega)).cell 1⟩
  obtain ⟨z0, z1, z2, z3⟩ := HS.out W0 (Below.refl _ _)
  go_cut [6, 7] from 8 (fun p q wc => Two W0 p q wc (rd px.data.toList) (rd py.data.toList) (rd qx.data.toList) (rd qy.data.toList))
  case first =>
    go_region_held3 (fun w' => w'.cell? ⟨w.heap.size, 0, none⟩ = some (.string px) ∧ w'.cell? ⟨w.heap.size, 1, none⟩ = some (.string py) ∧ w'.cell? ⟨w.heap.size + 1, 0, none⟩ = some (.string qx) ∧ w'.cell? ⟨w.heap.size + 1, 1, none⟩ = some (.string qy)) ((refine HS.out _ ?_; repeat' (first | with_reducible exact hbl2 | with_reducible exact hbl1 | with_reducible exact Below.refl _ _ | with_reducible refine Below.drew ?_ | with_reducible refine Below.alloc ?_ ?_ _ | with_reducible refine Below.put6 ?_ ?_ _ _ _ _ _ _ | (simp; done) | (simp; omega) | omega)))
      (first
        | (go_at_call_of 62 (Value.agg #[Value.string px, Value.string py]); refine (wayRead_calls ⟨px, py, rfl, rfl, rfl⟩ L1.out L2.out).mono ?_; rintro e w1 ⟨hb1, v1, rfl, hv1⟩; obtain ⟨d1, e1, rfl, hx1, hy1⟩ := hv1; (first | (have hbl1 : Below W0.heap.size W0 w1 := (Below.drew (Below.refl _ W0)).trans hb1) | (have hbl1 : Below W0.heap.size W0 w1 := (Below.drew (below_new W0 (.cells #[.bool false, .slice none 0 0, .slice none 0 0, .bool false, .slice none 0 0, .slice none 0 0] 86))).trans (hb1.mono (Nat.le_of_lt (Blk.new W0 #[.bool false, .slice none 0 0, .slice none 0 0, .bool false, .slice none 0 0, .slice none 0 0] 86).lt)); have hA1 := (show Blk (W0.alloc (.cells #[.bool false, .slice none 0 0, .slice none 0 0, .bool false, .slice none 0 0, .slice none 0 0] 86)).drew W0.heap.size #[.bool false, .slice none 0 0, .slice none 0 0, .bool false, .slice none 0 0, .slice none 0 0] 86 from Blk.new W0 #[.bool false, .slice none 0 0, .slice none 0 0, .bool false, .slice none 0 0, .slice none 0 0] 86).below hb1 (Blk.new W0 #[.bool false, .slice none 0 0, .slice none 0 0, .bool false, .slice none 0 0, .slice none 0 0] 86).lt) | (have hbl1 : Below W0.heap.size W0 w1 := (Below.drew (boxes2 W0 #[.bool false, .slice none 0 0, .slice none 0 0, .bool false, .slice none 0 0, .slice none 0 0] #[.bool false, .slice none 0 0, .slice none 0 0, .bool false, .slice none 0 0, .slice none 0 0] 86 86).1).trans (hb1.mono (boxes2 W0 #[.bool false, .slice none 0 0, .slice none 0 0, .bool false, .slice none 0 0, .slice none 0 0] #[.bool false, .slice none 0 0, .slice none 0 0, .bool false, .slice none 0 0, .slice none 0 0] 86 86).1.size); have hA1 := (show Blk ((W0.alloc (.cells #[.bool false, .slice none 0 0, .slice none 0 0, .bool false, .slice none 0 0, .slice none 0 0] 86)).alloc (.cells #[.bool false, .slice none 0 0, .slice none 0 0, .bool false, .slice none 0 0, .slice none 0 0] 86)).drew W0.heap.size #[.bool false, .slice none 0 0, .slice none 0 0, .bool false, .slice none 0 0, .slice none 0 0] 86 from (boxes2 W0 #[.bool false, .slice none 0 0, .slice none 0 0, .bool false, .slice none 0 0, .slice none 0 0] #[.bool false, .slice none 0 0, .slice none 0 0, .bool false, .slice none 0 0, .slice none 0 0] 86 86).2.1).below hb1 (boxes2 W0 #[.bool false, .slice none 0 0, .slice none 0 0, .bool false, .slice none 0 0, .slice none 0 0] #[.bool false, .slice none 0 0, .slice none 0 0, .bool false, .slice none 0 0, .slice none 0 0] 86 86).2.1.lt; have hB1 := (show Blk ((W0.alloc (.cells #[.bool false, .slice none 0 0, .slice none 0 0, .bool false, .slice none 0 0, .slice none 0 0] 86)).alloc (.cells #[.bool false, .slice none 0 0, .slice none 0 0, .bool false, .slice none 0 0, .slice none 0 0] 86)).drew (W0.heap.size + 1) #[.bool false, .slice none 0 0, .slice none 0 0, .bool false, .slice none 0 0, .slice none 0 0] 86 from (boxes2 W0 #[.bool false, .slice none 0 0, .slice none 0 0, .bool false, .slice none 0 0, .slice none 0 0] #[.bool false, .slice none 0 0, .slice none 0 0, .bool false, .slice none 0 0, .slice none 0 0] 86 86).2.2.1).below hb1 (boxes2 W0 #[.bool false, .slice none 0 0, .slice none 0 0, .bool false, .slice none 0 0, .slice none 0 0] #[.bool false, .slice none 0 0, .slice none 0 0, .bool false, .slice none 0 0, .slice none 0 0] 86 86).2.2.1.lt)); have hz1 := hbl1.size)
        | (go_at_call_of 62 (Value.agg #[Value.string qx, Value.string qy]); refine (wayRead_calls ⟨qx, qy, rfl, rfl, rfl⟩ L3.out L4.out).mono ?_; rintro e w2 ⟨hb2, v2, rfl, hv2⟩; obtain ⟨d2, e2, rfl, hx2, hy2⟩ := hv2; (first | (have hc2 : Below w1.heap.size w1 w2 := hb2) | (have hc2 : Below w1.heap.size w1 w2 := (below_new w1 (.cells #[.bool false, .slice none 0 0, .slice none 0 0, .bool false, .slice none 0 0, .slice none 0 0] 86)).trans (hb2.mono (Nat.le_of_lt (Blk.new w1 #[.bool false, .slice none 0 0, .slice none 0 0, .bool false, .slice none 0 0, .slice none 0 0] 86).lt)); have hC2 := (Blk.new w1 #[.bool false, .slice none 0 0, .slice none 0 0, .bool false, .slice none 0 0, .slice none 0 0] 86).below hb2 (Blk.new w1 #[.bool false, .slice none 0 0, .slice none 0 0, .bool false, .slice none 0 0, .slice none 0 0] 86).lt) | (have hc2 : Below w1.heap.size w1 w2 := (boxes2 w1 #[.bool false, .slice none 0 0, .slice none 0 0, .bool false, .slice none 0 0, .slice none 0 0] #[.bool false, .slice none 0 0, .slice none 0 0, .bool false, .slice none 0 0, .slice none 0 0] 86 86).1.trans (hb2.mono (boxes2 w1 #[.bool false, .slice none 0 0, .slice none 0 0, .bool false, .slice none 0 0, .slice none 0 0] #[.bool false, .slice none 0 0, .slice none 0 0, .bool false, .slice none 0 0, .slice none 0 0] 86 86).1.size); have hC2 := (boxes2 w1 #[.bool false, .slice none 0 0, .slice none 0 0, .bool false, .slice none 0 0, .slice none 0 0] #[.bool false, .slice none 0 0, .slice none 0 0, .bool false, .slice none 0 0, .slice none 0 0] 86 86).2.1.below hb2 (boxes2 w1 #[.bool false, .slice none 0 0, .slice none 0 0, .bool false, .slice none 0 0, .slice none 0 0] #[.bool false, .slice none 0 0, .slice none 0 0, .bool false, .slice none 0 0, .slice none 0 0] 86 86).2.1.lt; have hD2 := (boxes2 w1 #[.bool false, .slice none 0 0, .slice none 0 0, .bool false, .slice none 0 0, .slice none 0 0] #[.bool false, .slice none 0 0, .slice none 0 0, .bool false, .slice none 0 0, .slice none 0 0] 86 86).2.2.1.below hb2 (boxes2 w1 #[.bool false, .slice none 0 0, .slice none 0 0, .bool false, .slice none 0 0, .slice none 0 0] #[.bool false, .slice none 0 0, .slice none 0 0, .bool false, .slice none 0 0, .slice none 0 0] 86 86).2.2.1.lt)); have hbl2 := hbl1.trans (hc2.mono hz1); have hz2 := hc2.size; (try have hA2 := hA1.below hc2 hA1.lt); (try have hB2 := hB1.below hc2 hB1.lt); (try have lA1 := hA1.lt); (try have lB1 := hB1.lt); (try have lA2 := hA2.lt); (try have lB2 := hB2.lt); (try have lC2 := hC2.lt); (try have lD2 := hD2.lt); (try obtain ⟨ra0, ra1, ra2, ra3, ra4, ra5, ra6, ra7, ra8, ra9, ra10, ra11⟩ := hA2.all6); (try obtain ⟨rb0, rb1, rb2, rb3, rb4, rb5, rb6, rb7, rb8, rb9, rb10, rb11⟩ := hB2.all6); (try obtain ⟨rc0, rc1, rc2, rc3, rc4, rc5, rc6, rc7, rc8, rc9, rc10, rc11⟩ := hC2.all6); (try obtain ⟨re0, re1, re2, re3, re4, re5, re6, re7, re8, re9, re10, re11⟩ := hD2.all6))
        )
    all_goals
      go_wp2_with fail
      go_meet
      first
        | with_reducible exact Two.new hbl2 (hx1.below hc2) (hy1.below hc2) hx2 hy2
        | with_reducible exact Two.new' hbl2 (hx1.below hc2) (hy1.below hc2) hx2 hy2
        | with_reducible exact Two.half hA2 (Nat.le_refl _) hbl2 (hx1.below hc2) (hy1.below hc2) hx2 hy2
        | with_reducible exact Two.half' hA2 (Nat.le_refl _) hbl2 (hx1.below hc2) (hy1.below hc2) hx2 hy2
        | with_reducible exact Two.half hC2 hz1 hbl2 (hx1.below hc2) (hy1.below hc2) hx2 hy2
        | with_reducible exact Two.half' hC2 hz1 hbl2 (hx1.below hc2) (hy1.below hc2) hx2 hy2
        | with_reducible exact Two.both hA2 hB2 (Nat.ne_of_lt (Nat.lt_succ_self _)) (Nat.le_refl _) (Nat.le_succ _) hbl2 (hx1.below hc2) (hy1.below hc2) hx2 hy2
        | with_reducible exact Two.both hB2 hA2 (Nat.ne_of_gt (Nat.lt_succ_self _)) (Nat.le_succ _) (Nat.le_refl _) hbl2 (hx1.below hc2) (hy1.below hc2) hx2 hy2
        | with_reducible exact Two.both hA2 hC2 (Nat.ne_of_lt lA1) (Nat.le_refl _) hz1 hbl2 (hx1.below hc2) (hy1.below hc2) hx2 hy2
        | with_reducible exact Two.both hC2 hA2 (Nat.ne_of_gt lA1) hz1 (Nat.le_refl _) hbl2 (hx1.below hc2) (hy1.below hc2) hx2 hy2
        | with_reducible exact Two.both hC2 hD2 (Nat.ne_of_lt (Nat.lt_succ_self _)) hz1 (Nat.le_succ_of_le hz1) hbl2 (hx1.below hc2) (hy1.below hc2) hx2 hy2
        | with_reducible exact Two.both hD2 hC2 (Nat.ne_of_gt (Nat.lt_succ_self _)) (Nat.le_succ_of_le hz1) hz1 hbl2 (hx1.below hc2) (hy1.below hc2) hx2 hy2
  case rest =>
    obtain ⟨G, H, rfl, rfl, hG, hH, hbl, d, e, f, g, hkG, hkH, hx, hy, hz, ht⟩ := hcut
    have HKG := hideIt hkG
    have HKH := hideIt hkH
    have HX := hideIt hx
    have HY := hideIt hy
    have HZ := hideIt hz
    have HT := hideIt ht
    have HBL := hideIt hbl
    have F1 : Hid (QS 4194309 (rd px.data.toList)) := (QS.rd _).mono (by have := S1.out; omega)
    have F2 : Hid (QS 4194309 (rd py.data.toList)) := (QS.rd _).mono (by have := S2.out; omega)
    have F3 : Hid (QS 4194309 (rd qx.data.toList)) := (QS.rd _).mono (by have := S3.out; omega)
    have F4 : Hid (QS 4194309 (rd qy.data.toList)) := (QS.rd _).mono (by have := S4.out; omega)
    have F5 : Hid (QS (4194309 + 4194309 + 1) (-(rd qy.data.toList - rd py.data.toList))) := (F4.out.sub F2.out).neg
    have F6 : Hid (QS (4194309 + 4194309 + 1) (rd qx.data.toList - rd px.data.toList)) := F3.out.sub F1.out
    have K1 : Hid (4194309 + 4194309 + 1 ≤ 35184372088640) := by show _ ≤ _; omega
    have K2 : Hid (20 * (4194309 + 4194309 + 1 + 4194309 + 1) ≤ 35184372088640) := by show _ ≤ _; omega
    have HTC := hideIt (HTAB.out.below hbl)
    have HS2 : Hid (∀ w', Below wc.heap.size wc w' → w'.cell? ⟨G, 0, none⟩ = some (.bool d.n) ∧ w'.cell? ⟨G, 1, none⟩ = some (.slice d.u d.nu d.cu) ∧ w'.cell? ⟨G, 2, none⟩ = some (.slice d.l d.nl d.cl) ∧ w'.cell? ⟨G, 3, none⟩ = some (.bool e.n) ∧ w'.cell? ⟨G, 4, none⟩ = some (.slice e.u e.nu e.cu) ∧ w'.cell? ⟨G, 5, none⟩ = some (.slice e.l e.nl e.cl) ∧ w'.cell? ⟨H, 0, none⟩ = some (.bool f.n) ∧ w'.cell? ⟨H, 1, none⟩ = some (.slice f.u f.nu f.cu) ∧ w'.cell? ⟨H, 2, none⟩ = some (.slice f.l f.nl f.cl) ∧ w'.cell? ⟨H, 3, none⟩ = some (.bool g.n) ∧ w'.cell? ⟨H, 4, none⟩ = some (.slice g.u g.nu g.cu) ∧ w'.cell? ⟨H, 5, none⟩ = some (.slice g.l g.nl g.cl)) := fun w' hb => ⟨(HKG.out.below hb HKG.out.lt).cell 0, (HKG.out.below hb HKG.out.lt).cell 1, (HKG.out.below hb HKG.out.lt).cell 2, (HKG.out.below hb HKG.out.lt).cell 3, (HKG.out.below hb HKG.out.lt).cell 4, (HKG.out.below hb HKG.out.lt).cell 5, (HKH.out.below hb HKH.out.lt).cell 0, (HKH.out.below hb HKH.out.lt).cell 1, (HKH.out.below hb HKH.out.lt).cell 2, (HKH.out.below hb HKH.out.lt).cell 3, (HKH.out.below hb HKH.out.lt).cell 4, (HKH.out.below hb HKH.out.lt).cell 5⟩
    have HRS : Hid (w.heap.size + 1 + 1 ≠ G ∧ w.heap.size + 1 + 1 ≠ H) := by
      have := HSZ.out
      show _ ∧ _
      omega
    have HSS2 : Hid (∀ w', Below wc.heap.size wc w' → ∀ x0 x1 x2 : Value, (((w'.setCell ⟨w.heap.size + 1 + 1, 0, none⟩ (x0)).setCell ⟨w.heap.size + 1 + 1, 1, none⟩ (x1)).setCell ⟨w.heap.size + 1 + 1, 2, none⟩ (x2)).cell? ⟨G, 0, none⟩ = some (.bool d.n) ∧ (((w'.setCell ⟨w.heap.size + 1 + 1, 0, none⟩ (x0)).setCell ⟨w.heap.size + 1 + 1, 1, none⟩ (x1)).setCell ⟨w.heap.size + 1 + 1, 2, none⟩ (x2)).cell? ⟨G, 1, none⟩ = some (.slice d.u d.nu d.cu) ∧ (((w'.setCell ⟨w.heap.size + 1 + 1, 0, none⟩ (x0)).setCell ⟨w.heap.size + 1 + 1, 1, none⟩ (x1)).setCell ⟨w.heap.size + 1 + 1, 2, none⟩ (x2)).cell? ⟨G, 2, none⟩ = some (.slice d.l d.nl d.cl) ∧ (((w'.setCell ⟨w.heap.size + 1 + 1, 0, none⟩ (x0)).setCell ⟨w.heap.size + 1 + 1, 1, none⟩ (x1)).setCell ⟨w.heap.size + 1 + 1, 2, none⟩ (x2)).cell? ⟨G, 3, none⟩ = some (.bool e.n) ∧ (((w'.setCell ⟨w.heap.size + 1 + 1, 0, none⟩ (x0)).setCell ⟨w.heap.size + 1 + 1, 1, none⟩ (x1)).setCell ⟨w.heap.size + 1 + 1, 2, none⟩ (x2)).cell? ⟨G, 4, none⟩ = some (.slice e.u e.nu e.cu) ∧ (((w'.setCell ⟨w.heap.size + 1 + 1, 0, none⟩ (x0)).setCell ⟨w.heap.size + 1 + 1, 1, none⟩ (x1)).setCell ⟨w.heap.size + 1 + 1, 2, none⟩ (x2)).cell? ⟨G, 5, none⟩ = some (.slice e.l e.nl e.cl) ∧ (((w'.setCell ⟨w.heap.size + 1 + 1, 0, none⟩ (x0)).setCell ⟨w.heap.size + 1 + 1, 1, none⟩ (x1)).setCell ⟨w.heap.size + 1 + 1, 2, none⟩ (x2)).cell? ⟨H, 0, none⟩ = some (.bool f.n) ∧ (((w'.setCell ⟨w.heap.size + 1 + 1, 0, none⟩ (x0)).setCell ⟨w.heap.size + 1 + 1, 1, none⟩ (x1)).setCell ⟨w.heap.size + 1 + 1, 2, none⟩ (x2)).cell? ⟨H, 1, none⟩ = some (.slice f.u f.nu f.cu) ∧ (((w'.setCell ⟨w.heap.size + 1 + 1, 0, none⟩ (x0)).setCell ⟨w.heap.size + 1 + 1, 1, none⟩ (x1)).setCell ⟨w.heap.size + 1 + 1, 2, none⟩ (x2)).cell? ⟨H, 2, none⟩ = some (.slice f.l f.nl f.cl) ∧ (((w'.setCell ⟨w.heap.size + 1 + 1, 0, none⟩ (x0)).setCell ⟨w.heap.size + 1 + 1, 1, none⟩ (x1)).setCell ⟨w.heap.size + 1 + 1, 2, none⟩ (x2)).cell? ⟨H, 3, none⟩ = some (.bool g.n) ∧ (((w'.setCell ⟨w.heap.size + 1 + 1, 0, none⟩ (x0)).setCell ⟨w.heap.size + 1 + 1, 1, none⟩ (x1)).setCell ⟨w.heap.size + 1 + 1, 2, none⟩ (x2)).cell? ⟨H, 4, none⟩ = some (.slice g.u g.nu g.cu) ∧ (((w'.setCell ⟨w.heap.size + 1 + 1, 0, none⟩ (x0)).setCell ⟨w.heap.size + 1 + 1, 1, none⟩ (x1)).setCell ⟨w.heap.size + 1 + 1, 2, none⟩ (x2)).cell? ⟨H, 5, none⟩ = some (.slice g.l g.nl g.cl)) := fun w' hb x0 x1 x2 => ⟨((HKG.out.below hb HKG.out.lt).off3 (g := w.heap.size + 1 + 1) HRS.out.1 x0 x1 x2).cell 0, ((HKG.out.below hb HKG.out.lt).off3 (g := w.heap.size + 1 + 1) HRS.out.1 x0 x1 x2).cell 1, ((HKG.out.below hb HKG.out.lt).off3 (g := w.heap.size + 1 + 1) HRS.out.1 x0 x1 x2).cell 2, ((HKG.out.below hb HKG.out.lt).off3 (g := w.heap.size + 1 + 1) HRS.out.1 x0 x1 x2).cell 3, ((HKG.out.below hb HKG.out.lt).off3 (g := w.heap.size + 1 + 1) HRS.out.1 x0 x1 x2).cell 4, ((HKG.out.below hb HKG.out.lt).off3 (g := w.heap.size + 1 + 1) HRS.out.1 x0 x1 x2).cell 5, ((HKH.out.below hb HKH.out.lt).off3 (g := w.heap.size + 1 + 1) HRS.out.2 x0 x1 x2).cell 0, ((HKH.out.below hb HKH.out.lt).off3 (g := w.heap.size + 1 + 1) HRS.out.2 x0 x1 x2).cell 1, ((HKH.out.below hb HKH.out.lt).off3 (g := w.heap.size + 1 + 1) HRS.out.2 x0 x1 x2).cell 2, ((HKH.out.below hb HKH.out.lt).off3 (g := w.heap.size + 1 + 1) HRS.out.2 x0 x1 x2).cell 3, ((HKH.out.below hb HKH.out.lt).off3 (g := w.heap.size + 1 + 1) HRS.out.2 x0 x1 x2).cell 4, ((HKH.out.below hb HKH.out.lt).off3 (g := w.heap.size + 1 + 1) HRS.out.2 x0 x1 x2).cell 5⟩
    have HKR := hideIt (HK2.out.below hbl (by rw [HSZ.out]; omega))
    clear hkG hkH hx hy hz ht hbl hG hH z0 z1 z2 z3
    obtain ⟨z0, z1, z2, z3, z4, z5, z6, z7, z8, z9, z10, z11⟩ := HS2.out wc (Below.refl _ _)
    go_wp2_with fail
    go_region_held3 (fun w' => w'.cell? ⟨G, 0, none⟩ = some (.bool d.n) ∧ w'.cell? ⟨G, 1, none⟩ = some (.slice d.u d.nu d.cu) ∧ w'.cell? ⟨G, 2, none⟩ = some (.slice d.l d.nl d.cl) ∧ w'.cell? ⟨G, 3, none⟩ = some (.bool e.n) ∧ w'.cell? ⟨G, 4, none⟩ = some (.slice e.u e.nu e.cu) ∧ w'.cell? ⟨G, 5, none⟩ = some (.slice e.l e.nl e.cl) ∧ w'.cell? ⟨H, 0, none⟩ = some (.bool f.n) ∧ w'.cell? ⟨H, 1, none⟩ = some (.slice f.u f.nu f.cu) ∧ w'.cell? ⟨H, 2, none⟩ = some (.slice f.l f.nl f.cl) ∧ w'.cell? ⟨H, 3, none⟩ = some (.bool g.n) ∧ w'.cell? ⟨H, 4, none⟩ = some (.slice g.u g.nu g.cu) ∧ w'.cell? ⟨H, 5, none⟩ = some (.slice g.l g.nl g.cl)) (first | go_keep | exact hs1 | exact hs2 | exact hs3 | exact hkS)
      (first
        | (go_at_call 64; refine (wayMinus_calls (w := wc.drew) ⟨f, g, rfl, HZ.out.below (Below.drew (Below.refl _ _)), HT.out.below (Below.drew (Below.refl _ _))⟩ ⟨d, e, rfl, HX.out.below (Below.drew (Below.refl _ _)), HY.out.below (Below.drew (Below.refl _ _))⟩ F3.out F4.out F1.out F2.out K1.out).mono ?_; rintro _ w1 ⟨hb1, v1, rfl, hv1⟩; have hw1 := hv1; obtain ⟨d1, e1, rfl, hx1, hy1⟩ := hw1; have hbl1 : Below wc.heap.size wc w1 := (Below.drew (Below.refl _ wc)).trans hb1; have hs1 := HS2.out w1 hbl1)
        | (go_at_call 65; refine (wayLeft_calls hv1).mono ?_; rintro _ w2 ⟨hb2, v2, rfl, hv2⟩; have hw2 := hv2; obtain ⟨d2, e2, rfl, hx2, hy2⟩ := hw2; have hbl2 := hbl1.trans (hb2.mono hbl1.size); have hs2 := HS2.out w2 hbl2)
        | (go_at_call 63; refine (square_ans ⟨d, e, rfl, HX.out.below hbl2, HY.out.below hbl2⟩ hv2 F5.out F6.out F1.out F2.out K2.out (HTC.out.below hbl2)).mono ?_; rintro _ w3 ⟨hb3, sa, sb, sc, z, rfl, hans⟩; have hbl3 := hbl2.trans (hb3.mono hbl2.size); have hs3 := HS2.out w3 hbl3; have hkr := HKR.out.below hbl3 HKR.out.lt; obtain ⟨r0, r1, r2, j0, j1, j2⟩ := hkr.all3; have hkS := HSS2.out w3 hbl3 (.string sa) (.string sb) (.string sc); have HANS := hideIt hans; clear hans)
        )
    all_goals
      go_wp2
      obtain ⟨k0, k1, k2, _⟩ := (hkr.put3 (.string sa) (.string sb) (.string sc)).all3
      exact bodyPost_ret (v := .tuple #[.agg #[.string sa, .string sb, .string sc], .int .i64 z]) (by simp [results, Tryz.results15, go_sem, k0, k1, k2]) rfl ⟨Below.put3 (HB0.out.trans ((HBL.out.trans (hbl3.mono HBL.out.size)).mono HB0.out.size)) (by omega) _ _ _, sa, sb, sc, z, rfl, HANS.out⟩
theorem through_calls {w : World} {va vb : Value} {px py qx qy : List UInt8} (ha : PV va px py) (hb : PV vb qx qy) (s1 : px.length ≤ 1048576) (s2 : py.length ≤ 1048576) (s3 : qx.length ≤ 1048576) (s4 : qy.length ≤ 1048576) (tab : Tab w) :
    Calls Tryz.prog 15 #[va, vb] w fun e w' => Below w.heap.size w w' ∧ ∃ (sa sb sc : ByteArray) (z : Int), e = .returned (.tuple #[.agg #[.string sa, .string sb, .string sc], .int .i64 z]) ∧ LineAns (-(rd qy - rd py)) (rd qx - rd px) (-(-(rd qy - rd py) * rd px + (rd qx - rd px) * rd py)) sa.data.toList sb.data.toList sc.data.toList z := by
  obtain ⟨a, b, rfl, rfl, rfl⟩ := ha
  obtain ⟨c, d, rfl, rfl, rfl⟩ := hb
  exact through_walk s1 s2 s3 s4 tab
end Go.Proofs.YtgajdmadbdbabaaGreatDoor
/- WAN -/
namespace Go.Proofs.YtgajdmadbdbabaaGreatDoor
open Go.RowKit Cx
attribute [local go_sem ↓] Go.wp_at_zero Go.wp_at_succ
theorem answer_walk {w : World} {a b : C3} {x y : Rat} {z : Int} (ha : QV w (.agg #[.bool a.n, .slice a.u a.nu a.cu, .slice a.l a.nl a.cl]) x) (hb : QV w (.agg #[.bool b.n, .slice b.u b.nu b.cu, .slice b.l b.nl b.cl]) y) {k : Nat} (f : z = 0 → QS k x ∧ QS k y) (hk : k ≤ 35184372088640) (tab : Tab w) :
    Calls Tryz.prog 73 #[.agg #[.bool a.n, .slice a.u a.nu a.cu, .slice a.l a.nl a.cl, .bool b.n, .slice b.u b.nu b.cu, .slice b.l b.nl b.cl], .int .i64 z] w fun e w' => Below w.heap.size w w' ∧ ∃ (sa sb : ByteArray), e = .returned (.tuple #[.agg #[.string sa, .string sb], .int .i64 z]) ∧ (z = 0 → sa.data.toList = tx x ∧ sb.data.toList = tx y) ∧ (z ≠ 0 → sa = ⟨#[]⟩ ∧ sb = ⟨#[]⟩) := by
  obtain ⟨hb0, hk0, hk1, hsz⟩ := boxes2 w #[.bool a.n, .slice a.u a.nu a.cu, .slice a.l a.nl a.cl, .bool b.n, .slice b.u b.nu b.cu, .slice b.l b.nl b.cl] #[.string ⟨#[]⟩, .string ⟨#[]⟩] 86 24
  have HB0 := hideIt hb0
  have HSZ := hideIt hsz
  have HK0 := hideIt hk0
  have HK1 := hideIt hk1
  have HTAB := hideIt (tab.below hb0)
  have HA := hideIt (ha.below hb0)
  have HB := hideIt (hb.below hb0)
  have HF := hideIt f
  have HK := hideIt hk
  clear hb0 hsz hk0 hk1 tab ha hb f hk
  by_cases hz : z = 0
  · subst hz
    have FX := hideIt (HF.out rfl)
    go_enter Tryz.func73, Tryz.ntmps73
    go_wp2_with fail
    generalize ((w.alloc (.cells #[.bool a.n, .slice a.u a.nu a.cu, .slice a.l a.nl a.cl, .bool b.n, .slice b.u b.nu b.cu, .slice b.l b.nl b.cl] 86)).alloc (.cells #[.string ⟨#[]⟩, .string ⟨#[]⟩] 24)) = W0 at *
    refine (wayText_calls ⟨a, b, rfl, HA.out, HB.out⟩ FX.out.1 FX.out.2 HK.out HTAB.out).mono ?_
    rintro _ w1 ⟨hb1, v, rfl, sa, sb, rfl, ta, tb⟩
    have HT := hideIt (And.intro ta tb)
    have HBL := hideIt (HB0.out.trans (hb1.mono HB0.out.size))
    have hkr := HK1.out.below hb1 (by rw [HSZ.out]; omega)
    obtain ⟨r0, r1, j0, j1⟩ := hkr.all2
    clear ta tb hb1
    go_wp2
    obtain ⟨k0, k1, _⟩ := (hkr.put2 (.string sa) (.string sb)).all2
    exact bodyPost_ret (v := .tuple #[.agg #[.string sa, .string sb], .int .i64 0]) (by simp [results, Tryz.results73, go_sem, k0, k1]) rfl ⟨Below.put2 HBL.out (by omega) _ _, sa, sb, rfl, fun _ => HT.out, fun h => absurd rfl h⟩
  · have hne : (z != 0) = true := by simpa using hz
    have HZ := hideIt hz
    clear hz
    go_enter Tryz.func73, Tryz.ntmps73
    go_wp2_with fail
    generalize ((w.alloc (.cells #[.bool a.n, .slice a.u a.nu a.cu, .slice a.l a.nl a.cl, .bool b.n, .slice b.u b.nu b.cu, .slice b.l b.nl b.cl] 86)).alloc (.cells #[.string ⟨#[]⟩, .string ⟨#[]⟩] 24)) = W0 at *
    obtain ⟨r0, r1, j0, j1⟩ := HK1.out.all2
    go_wp2
    exact bodyPost_ret (v := .tuple #[.agg #[.string ⟨#[]⟩, .string ⟨#[]⟩], .int .i64 z]) (by simp [results, Tryz.results73, go_sem, r0, r1]) rfl ⟨HB0.out, _, _, rfl, fun h => absurd h HZ.out, fun _ => ⟨rfl, rfl⟩⟩
theorem answer_calls {w : World} {va : Value} {x y : Rat} {z : Int} (ha : WV w va x y) {k : Nat} (f : z = 0 → QS k x ∧ QS k y) (hk : k ≤ 35184372088640) (tab : Tab w) :
    Calls Tryz.prog 73 #[va, .int .i64 z] w fun e w' => Below w.heap.size w w' ∧ ∃ (sa sb : ByteArray), e = .returned (.tuple #[.agg #[.string sa, .string sb], .int .i64 z]) ∧ (z = 0 → sa.data.toList = tx x ∧ sb.data.toList = tx y) ∧ (z ≠ 0 → sa = ⟨#[]⟩ ∧ sb = ⟨#[]⟩) := by
  obtain ⟨c1, c2, rfl, h1, h2⟩ := ha
  exact answer_walk h1 h2 f hk tab
end Go.Proofs.YtgajdmadbdbabaaGreatDoor
/- WS -/
namespace Go.Proofs.YtgajdmadbdbabaaGreatDoor
open Go.RowKit Cx
attribute [local go_sem ↓] Go.wp_at_zero Go.wp_at_succ
def PointAns (a b c p q r : Rat) (sa sb : List UInt8) (z : Int) : Prop :=
  (((a = 0 ∧ b = 0) ∨ (p = 0 ∧ q = 0)) ∧ z ≠ 0) ∨ (¬ (a = 0 ∧ b = 0) ∧ ¬ (p = 0 ∧ q = 0) ∧ ∃ x y, MeetAns a b c p q r x y z ∧ (z = 0 → sa = tx x ∧ sb = tx y))
theorem lineMeet_walk {w : World} {la lb lc ma mb mc : ByteArray} (s1 : la.data.toList.length ≤ 4294967296) (s2 : lb.data.toList.length ≤ 4294967296) (s3 : lc.data.toList.length ≤ 4294967296) (s4 : ma.data.toList.length ≤ 4294967296) (s5 : mb.data.toList.length ≤ 4294967296) (s6 : mc.data.toList.length ≤ 4294967296) {k : Nat} (f1 : QS k (rd la.data.toList)) (f2 : QS k (rd lb.data.toList)) (f3 : QS k (rd lc.data.toList)) (f4 : QS k (rd ma.data.toList)) (f5 : QS k (rd mb.data.toList)) (f6 : QS k (rd mc.data.toList)) (hk : 20 * (k + 1) ≤ 35184372088640) (tab : Tab w) :
    Calls Tryz.prog 19 #[.agg #[.string la, .string lb, .string lc], .agg #[.string ma, .string mb, .string mc]] w fun e w' => Below w.heap.size w w' ∧ ∃ (sa sb : ByteArray) (z : Int), e = .returned (.tuple #[.agg #[.string sa, .string sb], .int .i64 z]) ∧ PointAns (rd la.data.toList) (rd lb.data.toList) (rd lc.data.toList) (rd ma.data.toList) (rd mb.data.toList) (rd mc.data.toList) sa.data.toList sb.data.toList z := by
  obtain ⟨hb0, hk0, hk1, hk2, hsz⟩ := boxes3 w #[.string la, .string lb, .string lc] #[.string ma, .string mb, .string mc] #[.string ⟨#[]⟩, .string ⟨#[]⟩] 26 26 24
  have HB0 := hideIt hb0
  have HSZ := hideIt hsz
  have HK1 := hideIt hk1
  have HK2 := hideIt hk2
  have HTAB := hideIt (tab.below hb0)
  have S1 := hideIt s1
  have F1 := hideIt f1
  have S2 := hideIt s2
  have F2 := hideIt f2
  have S3 := hideIt s3
  have F3 := hideIt f3
  have S4 := hideIt s4
  have F4 := hideIt f4
  have S5 := hideIt s5
  have F5 := hideIt f5
  have S6 := hideIt s6
  have F6 := hideIt f6
  have HK := hideIt hk
  clear hb0 hsz hk0 hk1 hk2 tab s1 s2 s3 s4 s5 s6 f1 f2 f3 f4 f5 f6 hk
  go_enter Tryz.func19, Tryz.ntmps19
  go_wp2_with fail
  generalize (((w.alloc (.cells #[.string la, .string lb, .string lc] 26)).alloc (.cells #[.string ma, .string mb, .string mc] 26)).alloc (.cells #[.string ⟨#[]⟩, .string ⟨#[]⟩] 24)) = W0 at *
  refine (rulerRead_calls ⟨la, lb, lc, rfl, rfl, rfl, rfl⟩ S1.out S2.out S3.out).mono ?_
  rintro _ w1 ⟨hb1, ⟨h1, h2, rfl⟩ | ⟨hn, v1, rfl, hv1⟩⟩
  · have HKR := hideIt (HK2.out.below hb1 (by rw [HSZ.out]; omega))
    have HBW := hideIt (HB0.out.trans (hb1.mono HB0.out.size))
    have HH := hideIt (And.intro h1 h2)
    have r0 : ∀ o, (w1.alloc o).cell? ⟨w.heap.size + 1 + 1, 0, none⟩ = some (.string ⟨#[]⟩) := fun o => (HKR.out.old o).cell 0
    have j0 : ∀ o, (w1.alloc o).frozen? ⟨w.heap.size + 1 + 1, 0, none⟩ = false := fun o => (HKR.out.old o).frozen 0
    have r1 : ∀ o, (w1.alloc o).cell? ⟨w.heap.size + 1 + 1, 1, none⟩ = some (.string ⟨#[]⟩) := fun o => (HKR.out.old o).cell 1
    have j1 : ∀ o, (w1.alloc o).frozen? ⟨w.heap.size + 1 + 1, 1, none⟩ = false := fun o => (HKR.out.old o).frozen 1
    obtain ⟨q0, q1, g0, g1⟩ := HKR.out.all2
    have lR := HKR.out.lt
    clear hb1 h1 h2
    go_wp2
    obtain ⟨k0, k1, _⟩ := ((HKR.out.put2 (.string ⟨#[]⟩) (.string ⟨#[]⟩)).old (.cells #[.bool false, .slice none 0 0, .slice none 0 0, .bool false, .slice none 0 0, .slice none 0 0, .bool false, .slice none 0 0, .slice none 0 0] 97)).all2
    have hbf := (Below.put2 HBW.out (g := w.heap.size + 1 + 1) (by omega) (.string ⟨#[]⟩) (.string ⟨#[]⟩))
    exact bodyPost_ret (v := .tuple #[.agg #[.string ⟨#[]⟩, .string ⟨#[]⟩], .int .i64 5]) (by simp [results, Tryz.results19, go_sem, k0, k1]) rfl ⟨hbf.alloc hbf.size _, _, _, _, rfl, Or.inl ⟨Or.inl HH.out, by decide⟩⟩
  · obtain ⟨a, b, c, rfl, hx, hy, hz⟩ := hv1
    have HA := hideIt hx
    have HB := hideIt hy
    have HC := hideIt hz
    have HN := hideIt hn
    have HB1 := hideIt hb1
    have HKM1 := hideIt (HK1.out.below hb1 (by rw [HSZ.out]; omega))
    have m0 : ∀ o, (w1.alloc o).cell? ⟨w.heap.size + 1, 0, none⟩ = some (.string ma) := fun o => (HKM1.out.old o).cell 0
    have m1 : ∀ o, (w1.alloc o).cell? ⟨w.heap.size + 1, 1, none⟩ = some (.string mb) := fun o => (HKM1.out.old o).cell 1
    have m2 : ∀ o, (w1.alloc o).cell? ⟨w.heap.size + 1, 2, none⟩ = some (.string mc) := fun o => (HKM1.out.old o).cell 2
    clear hx hy hz hn hb1
    go_wp2_with fail
    obtain ⟨w2, hw2⟩ : ∃ w2, w2 = w1.alloc (.cells #[.bool a.n, .slice a.u a.nu a.cu, .slice a.l a.nl a.cl, .bool b.n, .slice b.u b.nu b.cu, .slice b.l b.nl b.cl, .bool c.n, .slice c.u c.nu c.cu, .slice c.l c.nl c.cl] 97) := ⟨_, rfl⟩
    have hbA := below_new w1 (.cells #[.bool a.n, .slice a.u a.nu a.cu, .slice a.l a.nl a.cl, .bool b.n, .slice b.u b.nu b.cu, .slice b.l b.nl b.cl, .bool c.n, .slice c.u c.nu c.cu, .slice c.l c.nl c.cl] 97)
    have HKG := hideIt (Blk.new w1 #[.bool a.n, .slice a.u a.nu a.cu, .slice a.l a.nl a.cl, .bool b.n, .slice b.u b.nu b.cu, .slice b.l b.nl b.cl, .bool c.n, .slice c.u c.nu c.cu, .slice c.l c.nl c.cl] 97)
    rw [← hw2] at hbA HKG ⊢
    obtain ⟨G, hG⟩ : ∃ G, G = w1.heap.size := ⟨_, rfl⟩
    rw [← hG] at HKG ⊢
    clear hG hw2
    have HBL : Hid (Below W0.heap.size W0 w2) := HB1.out.trans (hbA.mono HB1.out.size)
    have HA2 := hideIt (HA.out.below hbA)
    have HB2 := hideIt (HB.out.below hbA)
    have HC2 := hideIt (HC.out.below hbA)
    clear hbA m0 m1 m2
    refine (rulerRead_calls ⟨ma, mb, mc, rfl, rfl, rfl, rfl⟩ S4.out S5.out S6.out).mono ?_
    rintro _ w3 ⟨hb3, ⟨h1, h2, rfl⟩ | ⟨hm, v3, rfl, hv3⟩⟩
    · have hbl3 := HBL.out.trans (hb3.mono HBL.out.size)
      have HKR := hideIt (HK2.out.below hbl3 (by rw [HSZ.out]; omega))
      have HBW := hideIt (HB0.out.trans (hbl3.mono HB0.out.size))
      have HH := hideIt (And.intro h1 h2)
      have r0 : ∀ o, (w3.alloc o).cell? ⟨w.heap.size + 1 + 1, 0, none⟩ = some (.string ⟨#[]⟩) := fun o => (HKR.out.old o).cell 0
      have j0 : ∀ o, (w3.alloc o).frozen? ⟨w.heap.size + 1 + 1, 0, none⟩ = false := fun o => (HKR.out.old o).frozen 0
      have r1 : ∀ o, (w3.alloc o).cell? ⟨w.heap.size + 1 + 1, 1, none⟩ = some (.string ⟨#[]⟩) := fun o => (HKR.out.old o).cell 1
      have j1 : ∀ o, (w3.alloc o).frozen? ⟨w.heap.size + 1 + 1, 1, none⟩ = false := fun o => (HKR.out.old o).frozen 1
      obtain ⟨q0, q1, g0, g1⟩ := HKR.out.all2
      have lR := HKR.out.lt
      clear hb3 h1 h2 hbl3
      go_wp2
      obtain ⟨k0, k1, _⟩ := ((HKR.out.put2 (.string ⟨#[]⟩) (.string ⟨#[]⟩)).old (.cells #[.bool false, .slice none 0 0, .slice none 0 0, .bool false, .slice none 0 0, .slice none 0 0, .bool false, .slice none 0 0, .slice none 0 0] 97)).all2
      have hbf := (Below.put2 HBW.out (g := w.heap.size + 1 + 1) (by omega) (.string ⟨#[]⟩) (.string ⟨#[]⟩))
      exact bodyPost_ret (v := .tuple #[.agg #[.string ⟨#[]⟩, .string ⟨#[]⟩], .int .i64 5]) (by simp [results, Tryz.results19, go_sem, k0, k1]) rfl ⟨hbf.alloc hbf.size _, _, _, _, rfl, Or.inl ⟨Or.inr HH.out, by decide⟩⟩
    · obtain ⟨p, q, r, rfl, hx, hy, hz⟩ := hv3
      have HM := hideIt hm
      have HP := hideIt hx
      have HQ := hideIt hy
      have HR := hideIt hz
      have HA3 := hideIt (HA2.out.below hb3)
      have HB3 := hideIt (HB2.out.below hb3)
      have HC3 := hideIt (HC2.out.below hb3)
      have HBL3 := hideIt (HBL.out.trans (hb3.mono HBL.out.size))
      have HKG3 := hideIt (HKG.out.below hb3 HKG.out.lt)
      clear hx hy hz hm hb3
      have y0 : ∀ o, (w3.alloc o).cell? ⟨G, 0, none⟩ = some (.bool a.n) := fun o => (HKG3.out.old o).cell 0
      have y1 : ∀ o, (w3.alloc o).cell? ⟨G, 1, none⟩ = some (.slice a.u a.nu a.cu) := fun o => (HKG3.out.old o).cell 1
      have y2 : ∀ o, (w3.alloc o).cell? ⟨G, 2, none⟩ = some (.slice a.l a.nl a.cl) := fun o => (HKG3.out.old o).cell 2
      have y3 : ∀ o, (w3.alloc o).cell? ⟨G, 3, none⟩ = some (.bool b.n) := fun o => (HKG3.out.old o).cell 3
      have y4 : ∀ o, (w3.alloc o).cell? ⟨G, 4, none⟩ = some (.slice b.u b.nu b.cu) := fun o => (HKG3.out.old o).cell 4
      have y5 : ∀ o, (w3.alloc o).cell? ⟨G, 5, none⟩ = some (.slice b.l b.nl b.cl) := fun o => (HKG3.out.old o).cell 5
      have y6 : ∀ o, (w3.alloc o).cell? ⟨G, 6, none⟩ = some (.bool c.n) := fun o => (HKG3.out.old o).cell 6
      have y7 : ∀ o, (w3.alloc o).cell? ⟨G, 7, none⟩ = some (.slice c.u c.nu c.cu) := fun o => (HKG3.out.old o).cell 7
      have y8 : ∀ o, (w3.alloc o).cell? ⟨G, 8, none⟩ = some (.slice c.l c.nl c.cl) := fun o => (HKG3.out.old o).cell 8
      go_wp2_with fail
      obtain ⟨w4, hw4⟩ : ∃ w4, w4 = w3.alloc (.cells #[.bool p.n, .slice p.u p.nu p.cu, .slice p.l p.nl p.cl, .bool q.n, .slice q.u q.nu q.cu, .slice q.l q.nl q.cl, .bool r.n, .slice r.u r.nu r.cu, .slice r.l r.nl r.cl] 97) := ⟨_, rfl⟩
      have hbA := below_new w3 (.cells #[.bool p.n, .slice p.u p.nu p.cu, .slice p.l p.nl p.cl, .bool q.n, .slice q.u q.nu q.cu, .slice q.l q.nl q.cl, .bool r.n, .slice r.u r.nu r.cu, .slice r.l r.nl r.cl] 97)
      have HKH := hideIt (Blk.new w3 #[.bool p.n, .slice p.u p.nu p.cu, .slice p.l p.nl p.cl, .bool q.n, .slice q.u q.nu q.cu, .slice q.l q.nl q.cl, .bool r.n, .slice r.u r.nu r.cu, .slice r.l r.nl r.cl] 97)
      rw [← hw4] at hbA HKH ⊢
      obtain ⟨H, hH⟩ : ∃ H, H = w3.heap.size := ⟨_, rfl⟩
      rw [← hH] at HKH ⊢
      clear hH hw4
      have HBL4 : Hid (Below W0.heap.size W0 w4) := HBL3.out.trans (hbA.mono HBL3.out.size)
      refine (rulerMeet_calls ⟨a, b, c, rfl, HA3.out.below hbA, HB3.out.below hbA, HC3.out.below hbA⟩ ⟨p, q, r, rfl, HP.out.below hbA, HQ.out.below hbA, HR.out.below hbA⟩ F1.out F2.out F3.out F4.out F5.out F6.out HK.out).mono ?_
      rintro _ w5 ⟨hb5, v5, z, x, y, rfl, hv5, hans⟩
      obtain ⟨d, e, rfl, hx5, hy5⟩ := hv5
      have hbl5 := HBL4.out.trans (hb5.mono HBL4.out.size)
      have HKR := hideIt (HK2.out.below hbl5 (by rw [HSZ.out]; omega))
      have HBW := hideIt (HB0.out.trans (hbl5.mono HB0.out.size))
      have HTC := hideIt (HTAB.out.below hbl5)
      have HX5 := hideIt hx5
      have HY5 := hideIt hy5
      have HANS := hideIt hans
      clear hbA y0 y1 y2 y3 y4 y5 y6 y7 y8 hb5 hbl5 hx5 hy5
      have FA : Hid (z = 0 → QS (k + k + (k + k) + 1 + (k + k + (k + k) + 1)) x ∧ QS (k + k + (k + k) + 1 + (k + k + (k + k) + 1)) y) := by
        intro hz
        rcases hans with ⟨ht, _, hxe, hye⟩ | ⟨_, hz0⟩
        · rw [hxe, hye]
          exact ⟨(((F5.out.mul F3.out).sub (F2.out.mul F6.out)).neg).div ((F1.out.mul F5.out).sub (F2.out.mul F4.out)), ((F4.out.mul F3.out).sub (F1.out.mul F6.out)).div ((F1.out.mul F5.out).sub (F2.out.mul F4.out))⟩
        · exact absurd hz hz0
      have K3 : Hid (k + k + (k + k) + 1 + (k + k + (k + k) + 1) ≤ 35184372088640) := by have := HK.out; show _ ≤ _; omega
      clear hans
      go_wp2_with fail
      refine (answer_calls (z := z) ⟨d, e, rfl, HX5.out, HY5.out⟩ FA.out K3.out HTC.out).mono ?_
      rintro _ w6 ⟨hb6, sa, sb, rfl, hok, hno⟩
      have hkr := HKR.out.below hb6 HKR.out.lt
      obtain ⟨q0, q1, g0, g1⟩ := hkr.all2
      have HT := hideIt hok
      have hbf := hideIt (HBW.out.trans (hb6.mono HBW.out.size))
      clear hok hno hb6
      go_wp2
      obtain ⟨k0, k1, _⟩ := (hkr.put2 (.string sa) (.string sb)).all2
      exact bodyPost_ret (v := .tuple #[.agg #[.string sa, .string sb], .int .i64 z]) (by simp [results, Tryz.results19, go_sem, k0, k1]) rfl ⟨Below.put2 hbf.out (by omega) _ _, sa, sb, z, rfl, Or.inr ⟨HN.out, HM.out, x, y, HANS.out, HT.out⟩⟩
theorem lineMeet_calls {w : World} {va vb : Value} {la lb lc ma mb mc : List UInt8} (ha : TV va la lb lc) (hb : TV vb ma mb mc) (s1 : la.length ≤ 4294967296) (s2 : lb.length ≤ 4294967296) (s3 : lc.length ≤ 4294967296) (s4 : ma.length ≤ 4294967296) (s5 : mb.length ≤ 4294967296) (s6 : mc.length ≤ 4294967296) {k : Nat} (f1 : QS k (rd la)) (f2 : QS k (rd lb)) (f3 : QS k (rd lc)) (f4 : QS k (rd ma)) (f5 : QS k (rd mb)) (f6 : QS k (rd mc)) (hk : 20 * (k + 1) ≤ 35184372088640) (tab : Tab w) :
    Calls Tryz.prog 19 #[va, vb] w fun e w' => Below w.heap.size w w' ∧ ∃ (sa sb : ByteArray) (z : Int), e = .returned (.tuple #[.agg #[.string sa, .string sb], .int .i64 z]) ∧ PointAns (rd la) (rd lb) (rd lc) (rd ma) (rd mb) (rd mc) sa.data.toList sb.data.toList z := by
  obtain ⟨a, b, c, rfl, rfl, rfl, rfl⟩ := ha
  obtain ⟨d, e, f, rfl, rfl, rfl, rfl⟩ := hb
  exact lineMeet_walk s1 s2 s3 s4 s5 s6 f1 f2 f3 f4 f5 f6 hk tab
end Go.Proofs.YtgajdmadbdbabaaGreatDoor
/- WT -/
namespace Go.Proofs.YtgajdmadbdbabaaGreatDoor
open Go.RowKit Cx
attribute [local go_sem ↓] Go.wp_at_zero Go.wp_at_succ
def DropAns (a b c x y t : Rat) (sa sb : List UInt8) (z : Int) : Prop :=
  (a = 0 ∧ b = 0 ∧ z = 5 ∧ sa = [] ∧ sb = []) ∨ (¬ (a = 0 ∧ b = 0) ∧ z = 0 ∧ sa = tx (x + a * -(a * x + b * y + c) / (a * a + b * b) * t) ∧ sb = tx (y + b * -(a * x + b * y + c) / (a * a + b * b) * t))
theorem dropped_walk {w : World} {la lb lc px py : ByteArray} {f : C3} {t : Rat} (ht : QV w (.agg #[.bool f.n, .slice f.u f.nu f.cu, .slice f.l f.nl f.cl]) t) (s1 : la.data.toList.length ≤ 4294967296) (s2 : lb.data.toList.length ≤ 4294967296) (s3 : lc.data.toList.length ≤ 4294967296) (s4 : px.data.toList.length ≤ 4294967296) (s5 : py.data.toList.length ≤ 4294967296) {k : Nat} (f1 : QS k (rd la.data.toList)) (f2 : QS k (rd lb.data.toList)) (f3 : QS k (rd lc.data.toList)) (f4 : QS k (rd px.data.toList)) (f5 : QS k (rd py.data.toList)) (f6 : QS k t) (hk : 100 * (k + 1) ≤ 35184372088640) (tab : Tab w) :
    Calls Tryz.prog 75 #[.agg #[.string la, .string lb, .string lc], .agg #[.string px, .string py], .agg #[.bool f.n, .slice f.u f.nu f.cu, .slice f.l f.nl f.cl]] w fun e w' => Below w.heap.size w w' ∧ ∃ (sa sb : ByteArray) (z : Int), e = .returned (.tuple #[.agg #[.string sa, .string sb], .int .i64 z]) ∧ DropAns (rd la.data.toList) (rd lb.data.toList) (rd lc.data.toList) (rd px.data.toList) (rd py.data.toList) t sa.data.toList sb.data.toList z := by
  obtain ⟨hb0, hk0, hk1, hk2, hk3, hsz⟩ := boxes4 w #[.string la, .string lb, .string lc] #[.string px, .string py] #[.bool f.n, .slice f.u f.nu f.cu, .slice f.l f.nl f.cl] #[.string ⟨#[]⟩, .string ⟨#[]⟩] 26 24 84 24
  have HB0 := hideIt hb0
  have HSZ := hideIt hsz
  have HK1 := hideIt hk1
  have HK2 := hideIt hk2
  have HK3 := hideIt hk3
  have HTAB := hideIt (tab.below hb0)
  have HT0 := hideIt (ht.below hb0)
  have S1 := hideIt s1
  have F1 := hideIt f1
  have S2 := hideIt s2
  have F2 := hideIt f2
  have S3 := hideIt s3
  have F3 := hideIt f3
  have S4 := hideIt s4
  have F4 := hideIt f4
  have S5 := hideIt s5
  have F5 := hideIt f5
  have F6 := hideIt f6
  have HK := hideIt hk
  clear hb0 hsz hk0 hk1 hk2 hk3 tab ht s1 s2 s3 s4 s5 f1 f2 f3 f4 f5 f6 hk
  have Q1 : Hid (30 * (k + k + 1) ≤ 35184372088640) := by have := HK.out; show _ ≤ _; omega
  have FV : Hid (QS (k + k + (k + k) + 1 + k + 1) (-((rd la.data.toList) * (rd px.data.toList) + (rd lb.data.toList) * (rd py.data.toList) + (rd lc.data.toList)))) := (((F1.out.mul F4.out).add (F2.out.mul F5.out)).add F3.out).neg
  have FN : Hid (QS (k + k + (k + k) + 1) ((rd la.data.toList) * (rd la.data.toList) + (rd lb.data.toList) * (rd lb.data.toList))) := (F1.out.mul F1.out).add (F2.out.mul F2.out)
  have FDX : Hid (QS (k + (k + k + (k + k) + 1 + k + 1) + (k + k + (k + k) + 1)) ((rd la.data.toList) * -((rd la.data.toList) * (rd px.data.toList) + (rd lb.data.toList) * (rd py.data.toList) + (rd lc.data.toList)) / ((rd la.data.toList) * (rd la.data.toList) + (rd lb.data.toList) * (rd lb.data.toList)))) := (F1.out.mul FV.out).div FN.out
  have FDY : Hid (QS (k + (k + k + (k + k) + 1 + k + 1) + (k + k + (k + k) + 1)) ((rd lb.data.toList) * -((rd la.data.toList) * (rd px.data.toList) + (rd lb.data.toList) * (rd py.data.toList) + (rd lc.data.toList)) / ((rd la.data.toList) * (rd la.data.toList) + (rd lb.data.toList) * (rd lb.data.toList)))) := (F2.out.mul FV.out).div FN.out
  have Q2 : Hid (k + (k + k + (k + k) + 1 + k + 1) + (k + k + (k + k) + 1) + k + 1 ≤ 35184372088640) := by have := HK.out; show _ ≤ _; omega
  have FTX : Hid (QS (k + (k + k + (k + k) + 1 + k + 1) + (k + k + (k + k) + 1) + k) (((rd la.data.toList) * -((rd la.data.toList) * (rd px.data.toList) + (rd lb.data.toList) * (rd py.data.toList) + (rd lc.data.toList)) / ((rd la.data.toList) * (rd la.data.toList) + (rd lb.data.toList) * (rd lb.data.toList))) * t)) := FDX.out.mul F6.out
  have FTY : Hid (QS (k + (k + k + (k + k) + 1 + k + 1) + (k + k + (k + k) + 1) + k) (((rd lb.data.toList) * -((rd la.data.toList) * (rd px.data.toList) + (rd lb.data.toList) * (rd py.data.toList) + (rd lc.data.toList)) / ((rd la.data.toList) * (rd la.data.toList) + (rd lb.data.toList) * (rd lb.data.toList))) * t)) := FDY.out.mul F6.out
  have A1 : Hid (∀ q ∈ [((rd px.data.toList), (rd py.data.toList)), (((rd la.data.toList) * -((rd la.data.toList) * (rd px.data.toList) + (rd lb.data.toList) * (rd py.data.toList) + (rd lc.data.toList)) / ((rd la.data.toList) * (rd la.data.toList) + (rd lb.data.toList) * (rd lb.data.toList))) * t, ((rd lb.data.toList) * -((rd la.data.toList) * (rd px.data.toList) + (rd lb.data.toList) * (rd py.data.toList) + (rd lc.data.toList)) / ((rd la.data.toList) * (rd la.data.toList) + (rd lb.data.toList) * (rd lb.data.toList))) * t)].map Prod.fst, QS (k + (k + k + (k + k) + 1 + k + 1) + (k + k + (k + k) + 1) + k) q) := all2 (F4.out.mono (by omega)) FTX.out
  have A2 : Hid (∀ q ∈ [((rd px.data.toList), (rd py.data.toList)), (((rd la.data.toList) * -((rd la.data.toList) * (rd px.data.toList) + (rd lb.data.toList) * (rd py.data.toList) + (rd lc.data.toList)) / ((rd la.data.toList) * (rd la.data.toList) + (rd lb.data.toList) * (rd lb.data.toList))) * t, ((rd lb.data.toList) * -((rd la.data.toList) * (rd px.data.toList) + (rd lb.data.toList) * (rd py.data.toList) + (rd lc.data.toList)) / ((rd la.data.toList) * (rd la.data.toList) + (rd lb.data.toList) * (rd lb.data.toList))) * t)].map Prod.snd, QS (k + (k + k + (k + k) + 1 + k + 1) + (k + k + (k + k) + 1) + k) q) := all2 (F5.out.mono (by omega)) FTY.out
  have Q3 : Hid (2 * (k + (k + k + (k + k) + 1 + k + 1) + (k + k + (k + k) + 1) + k + 1) + 1 ≤ 35184372088640) := by have := HK.out; show _ ≤ _; omega
  have Q4 : Hid (k + (k + (k + k + (k + k) + 1 + k + 1) + (k + k + (k + k) + 1) + k) + 1 ≤ 35184372088640) := by have := HK.out; show _ ≤ _; omega
  go_enter Tryz.func75, Tryz.ntmps75
  go_wp2_with fail
  generalize ((((w.alloc (.cells #[.string la, .string lb, .string lc] 26)).alloc (.cells #[.string px, .string py] 24)).alloc (.cells #[.bool f.n, .slice f.u f.nu f.cu, .slice f.l f.nl f.cl] 84)).alloc (.cells #[.string ⟨#[]⟩, .string ⟨#[]⟩] 24)) = W0 at *
  refine (rulerRead_calls ⟨la, lb, lc, rfl, rfl, rfl, rfl⟩ S1.out S2.out S3.out).mono ?_
  rintro _ w1 ⟨hb1, ⟨h1, h2, rfl⟩ | ⟨hn, v1, rfl, hv1⟩⟩
  · have HKR := hideIt (HK3.out.below hb1 (by rw [HSZ.out]; omega))
    have HBW := hideIt (HB0.out.trans (hb1.mono HB0.out.size))
    have HH := hideIt (And.intro h1 h2)
    have r0 : ∀ o, (w1.alloc o).cell? ⟨w.heap.size + 1 + 1 + 1, 0, none⟩ = some (.string ⟨#[]⟩) := fun o => (HKR.out.old o).cell 0
    have j0 : ∀ o, (w1.alloc o).frozen? ⟨w.heap.size + 1 + 1 + 1, 0, none⟩ = false := fun o => (HKR.out.old o).frozen 0
    have r1 : ∀ o, (w1.alloc o).cell? ⟨w.heap.size + 1 + 1 + 1, 1, none⟩ = some (.string ⟨#[]⟩) := fun o => (HKR.out.old o).cell 1
    have j1 : ∀ o, (w1.alloc o).frozen? ⟨w.heap.size + 1 + 1 + 1, 1, none⟩ = false := fun o => (HKR.out.old o).frozen 1
    obtain ⟨q0, q1, g0, g1⟩ := HKR.out.all2
    have lR := HKR.out.lt
    clear hb1 h1 h2
    go_wp2
    obtain ⟨k0, k1, _⟩ := ((HKR.out.put2 (.string ⟨#[]⟩) (.string ⟨#[]⟩)).old (.cells #[.bool false, .slice none 0 0, .slice none 0 0, .bool false, .slice none 0 0, .slice none 0 0, .bool false, .slice none 0 0, .slice none 0 0] 97)).all2
    have hbf := (Below.put2 HBW.out (g := w.heap.size + 1 + 1 + 1) (by omega) (.string ⟨#[]⟩) (.string ⟨#[]⟩))
    exact bodyPost_ret (v := .tuple #[.agg #[.string ⟨#[]⟩, .string ⟨#[]⟩], .int .i64 5]) (by simp [results, Tryz.results75, go_sem, k0, k1]) rfl ⟨hbf.alloc hbf.size _, _, _, _, rfl, Or.inl ⟨HH.out.1, HH.out.2, rfl, rfl, rfl⟩⟩
  · obtain ⟨a, b, c, rfl, hx, hy, hz⟩ := hv1
    have HA := hideIt hx
    have HB := hideIt hy
    have HC := hideIt hz
    have HN := hideIt hn
    have HB1 := hideIt hb1
    have HKM1 := hideIt (HK1.out.below hb1 (by rw [HSZ.out]; omega))
    have m0 : ∀ o, (w1.alloc o).cell? ⟨w.heap.size + 1, 0, none⟩ = some (.string px) := fun o => (HKM1.out.old o).cell 0
    have m1 : ∀ o, (w1.alloc o).cell? ⟨w.heap.size + 1, 1, none⟩ = some (.string py) := fun o => (HKM1.out.old o).cell 1
    clear hx hy hz hn hb1
    go_wp2_with fail
    obtain ⟨w2, hw2⟩ : ∃ w2, w2 = w1.alloc (.cells #[.bool a.n, .slice a.u a.nu a.cu, .slice a.l a.nl a.cl, .bool b.n, .slice b.u b.nu b.cu, .slice b.l b.nl b.cl, .bool c.n, .slice c.u c.nu c.cu, .slice c.l c.nl c.cl] 97) := ⟨_, rfl⟩
    have hbA := below_new w1 (.cells #[.bool a.n, .slice a.u a.nu a.cu, .slice a.l a.nl a.cl, .bool b.n, .slice b.u b.nu b.cu, .slice b.l b.nl b.cl, .bool c.n, .slice c.u c.nu c.cu, .slice c.l c.nl c.cl] 97)
    have HKG := hideIt (Blk.new w1 #[.bool a.n, .slice a.u a.nu a.cu, .slice a.l a.nl a.cl, .bool b.n, .slice b.u b.nu b.cu, .slice b.l b.nl b.cl, .bool c.n, .slice c.u c.nu c.cu, .slice c.l c.nl c.cl] 97)
    rw [← hw2] at hbA HKG ⊢
    obtain ⟨G, hG⟩ : ∃ G, G = w1.heap.size := ⟨_, rfl⟩
    rw [← hG] at HKG ⊢
    clear hG hw2
    have HBL : Hid (Below W0.heap.size W0 w2) := HB1.out.trans (hbA.mono HB1.out.size)
    have HA2 := hideIt (HA.out.below hbA)
    have HB2 := hideIt (HB.out.below hbA)
    have HC2 := hideIt (HC.out.below hbA)
    clear hbA m0 m1
    refine (wayRead_calls ⟨px, py, rfl, rfl, rfl⟩ S4.out S5.out).mono ?_
    rintro _ w3 ⟨hb3, v3, rfl, hv3⟩
    obtain ⟨d, e, rfl, hx, hy⟩ := hv3
    have HX := hideIt hx
    have HY := hideIt hy
    have HA3 := hideIt (HA2.out.below hb3)
    have HB3 := hideIt (HB2.out.below hb3)
    have HC3 := hideIt (HC2.out.below hb3)
    have HBL3 := hideIt (HBL.out.trans (hb3.mono HBL.out.size))
    have HKG3 := hideIt (HKG.out.below hb3 HKG.out.lt)
    have HH0 : Hid (G < w3.heap.size) := HKG3.out.lt
    clear hx hy hb3
    go_wp2_with fail
    obtain ⟨w4, hw4⟩ : ∃ w4, w4 = w3.alloc (.cells #[.bool d.n, .slice d.u d.nu d.cu, .slice d.l d.nl d.cl, .bool e.n, .slice e.u e.nu e.cu, .slice e.l e.nl e.cl] 86) := ⟨_, rfl⟩
    have hbA := below_new w3 (.cells #[.bool d.n, .slice d.u d.nu d.cu, .slice d.l d.nl d.cl, .bool e.n, .slice e.u e.nu e.cu, .slice e.l e.nl e.cl] 86)
    have HKH := hideIt (Blk.new w3 #[.bool d.n, .slice d.u d.nu d.cu, .slice d.l d.nl d.cl, .bool e.n, .slice e.u e.nu e.cu, .slice e.l e.nl e.cl] 86)
    rw [← hw4] at hbA HKH ⊢
    obtain ⟨H, hH⟩ : ∃ H, H = w3.heap.size := ⟨_, rfl⟩
    rw [← hH] at HKH ⊢
    clear hH hw4
    have HBL4 := hideIt (HBL3.out.trans (hbA.mono HBL3.out.size))
    have HA4 := hideIt (HA3.out.below hbA)
    have HB4 := hideIt (HB3.out.below hbA)
    have HC4 := hideIt (HC3.out.below hbA)
    have HX4 := hideIt (HX.out.below hbA)
    have HY4 := hideIt (HY.out.below hbA)
    have HKG4 := hideIt (HKG3.out.below hbA HKG3.out.lt)
    have HT4 := hideIt (HT0.out.below HBL4.out)
    have HTC := hideIt (HTAB.out.below HBL4.out)
    have HKK := hideIt (HK2.out.below HBL4.out (by rw [HSZ.out]; omega))
    have HKR := hideIt (HK3.out.below HBL4.out (by rw [HSZ.out]; omega))
    clear hbA
    have HRS : Hid (w.heap.size + 1 + 1 + 1 ≠ G ∧ w.heap.size + 1 + 1 + 1 ≠ H) := by
      constructor
      · rintro rfl
        have h1 := HKR.out.cell 0
        rw [HKG4.out.cell] at h1
        simp at h1
      · rintro rfl
        have h1 := HKR.out.cell 0
        rw [HKH.out.cell] at h1
        simp at h1
    have HS : Hid (∀ w', Below w4.heap.size w4 w' → w'.cell? ⟨w.heap.size + 1 + 1, 0, none⟩ = some (.bool f.n) ∧ w'.cell? ⟨w.heap.size + 1 + 1, 1, none⟩ = some (.slice f.u f.nu f.cu) ∧ w'.cell? ⟨w.heap.size + 1 + 1, 2, none⟩ = some (.slice f.l f.nl f.cl) ∧ w'.cell? ⟨G, 0, none⟩ = some (.bool a.n) ∧ w'.cell? ⟨G, 1, none⟩ = some (.slice a.u a.nu a.cu) ∧ w'.cell? ⟨G, 2, none⟩ = some (.slice a.l a.nl a.cl) ∧ w'.cell? ⟨G, 3, none⟩ = some (.bool b.n) ∧ w'.cell? ⟨G, 4, none⟩ = some (.slice b.u b.nu b.cu) ∧ w'.cell? ⟨G, 5, none⟩ = some (.slice b.l b.nl b.cl) ∧ w'.cell? ⟨G, 6, none⟩ = some (.bool c.n) ∧ w'.cell? ⟨G, 7, none⟩ = some (.slice c.u c.nu c.cu) ∧ w'.cell? ⟨G, 8, none⟩ = some (.slice c.l c.nl c.cl) ∧ w'.cell? ⟨H, 0, none⟩ = some (.bool d.n) ∧ w'.cell? ⟨H, 1, none⟩ = some (.slice d.u d.nu d.cu) ∧ w'.cell? ⟨H, 2, none⟩ = some (.slice d.l d.nl d.cl) ∧ w'.cell? ⟨H, 3, none⟩ = some (.bool e.n) ∧ w'.cell? ⟨H, 4, none⟩ = some (.slice e.u e.nu e.cu) ∧ w'.cell? ⟨H, 5, none⟩ = some (.slice e.l e.nl e.cl)) := fun w' hb => ⟨(HKK.out.below hb HKK.out.lt).cell 0, (HKK.out.below hb HKK.out.lt).cell 1, (HKK.out.below hb HKK.out.lt).cell 2, (HKG4.out.below hb HKG4.out.lt).cell 0, (HKG4.out.below hb HKG4.out.lt).cell 1, (HKG4.out.below hb HKG4.out.lt).cell 2, (HKG4.out.below hb HKG4.out.lt).cell 3, (HKG4.out.below hb HKG4.out.lt).cell 4, (HKG4.out.below hb HKG4.out.lt).cell 5, (HKG4.out.below hb HKG4.out.lt).cell 6, (HKG4.out.below hb HKG4.out.lt).cell 7, (HKG4.out.below hb HKG4.out.lt).cell 8, (HKH.out.below hb HKH.out.lt).cell 0, (HKH.out.below hb HKH.out.lt).cell 1, (HKH.out.below hb HKH.out.lt).cell 2, (HKH.out.below hb HKH.out.lt).cell 3, (HKH.out.below hb HKH.out.lt).cell 4, (HKH.out.below hb HKH.out.lt).cell 5⟩
    have HSS : Hid (∀ w', Below w4.heap.size w4 w' → ∀ x0 x1 : Value, ((w'.setCell ⟨w.heap.size + 1 + 1 + 1, 0, none⟩ (x0)).setCell ⟨w.heap.size + 1 + 1 + 1, 1, none⟩ (x1)).cell? ⟨w.heap.size + 1 + 1, 0, none⟩ = some (.bool f.n) ∧ ((w'.setCell ⟨w.heap.size + 1 + 1 + 1, 0, none⟩ (x0)).setCell ⟨w.heap.size + 1 + 1 + 1, 1, none⟩ (x1)).cell? ⟨w.heap.size + 1 + 1, 1, none⟩ = some (.slice f.u f.nu f.cu) ∧ ((w'.setCell ⟨w.heap.size + 1 + 1 + 1, 0, none⟩ (x0)).setCell ⟨w.heap.size + 1 + 1 + 1, 1, none⟩ (x1)).cell? ⟨w.heap.size + 1 + 1, 2, none⟩ = some (.slice f.l f.nl f.cl) ∧ ((w'.setCell ⟨w.heap.size + 1 + 1 + 1, 0, none⟩ (x0)).setCell ⟨w.heap.size + 1 + 1 + 1, 1, none⟩ (x1)).cell? ⟨G, 0, none⟩ = some (.bool a.n) ∧ ((w'.setCell ⟨w.heap.size + 1 + 1 + 1, 0, none⟩ (x0)).setCell ⟨w.heap.size + 1 + 1 + 1, 1, none⟩ (x1)).cell? ⟨G, 1, none⟩ = some (.slice a.u a.nu a.cu) ∧ ((w'.setCell ⟨w.heap.size + 1 + 1 + 1, 0, none⟩ (x0)).setCell ⟨w.heap.size + 1 + 1 + 1, 1, none⟩ (x1)).cell? ⟨G, 2, none⟩ = some (.slice a.l a.nl a.cl) ∧ ((w'.setCell ⟨w.heap.size + 1 + 1 + 1, 0, none⟩ (x0)).setCell ⟨w.heap.size + 1 + 1 + 1, 1, none⟩ (x1)).cell? ⟨G, 3, none⟩ = some (.bool b.n) ∧ ((w'.setCell ⟨w.heap.size + 1 + 1 + 1, 0, none⟩ (x0)).setCell ⟨w.heap.size + 1 + 1 + 1, 1, none⟩ (x1)).cell? ⟨G, 4, none⟩ = some (.slice b.u b.nu b.cu) ∧ ((w'.setCell ⟨w.heap.size + 1 + 1 + 1, 0, none⟩ (x0)).setCell ⟨w.heap.size + 1 + 1 + 1, 1, none⟩ (x1)).cell? ⟨G, 5, none⟩ = some (.slice b.l b.nl b.cl) ∧ ((w'.setCell ⟨w.heap.size + 1 + 1 + 1, 0, none⟩ (x0)).setCell ⟨w.heap.size + 1 + 1 + 1, 1, none⟩ (x1)).cell? ⟨G, 6, none⟩ = some (.bool c.n) ∧ ((w'.setCell ⟨w.heap.size + 1 + 1 + 1, 0, none⟩ (x0)).setCell ⟨w.heap.size + 1 + 1 + 1, 1, none⟩ (x1)).cell? ⟨G, 7, none⟩ = some (.slice c.u c.nu c.cu) ∧ ((w'.setCell ⟨w.heap.size + 1 + 1 + 1, 0, none⟩ (x0)).setCell ⟨w.heap.size + 1 + 1 + 1, 1, none⟩ (x1)).cell? ⟨G, 8, none⟩ = some (.slice c.l c.nl c.cl) ∧ ((w'.setCell ⟨w.heap.size + 1 + 1 + 1, 0, none⟩ (x0)).setCell ⟨w.heap.size + 1 + 1 + 1, 1, none⟩ (x1)).cell? ⟨H, 0, none⟩ = some (.bool d.n) ∧ ((w'.setCell ⟨w.heap.size + 1 + 1 + 1, 0, none⟩ (x0)).setCell ⟨w.heap.size + 1 + 1 + 1, 1, none⟩ (x1)).cell? ⟨H, 1, none⟩ = some (.slice d.u d.nu d.cu) ∧ ((w'.setCell ⟨w.heap.size + 1 + 1 + 1, 0, none⟩ (x0)).setCell ⟨w.heap.size + 1 + 1 + 1, 1, none⟩ (x1)).cell? ⟨H, 2, none⟩ = some (.slice d.l d.nl d.cl) ∧ ((w'.setCell ⟨w.heap.size + 1 + 1 + 1, 0, none⟩ (x0)).setCell ⟨w.heap.size + 1 + 1 + 1, 1, none⟩ (x1)).cell? ⟨H, 3, none⟩ = some (.bool e.n) ∧ ((w'.setCell ⟨w.heap.size + 1 + 1 + 1, 0, none⟩ (x0)).setCell ⟨w.heap.size + 1 + 1 + 1, 1, none⟩ (x1)).cell? ⟨H, 4, none⟩ = some (.slice e.u e.nu e.cu) ∧ ((w'.setCell ⟨w.heap.size + 1 + 1 + 1, 0, none⟩ (x0)).setCell ⟨w.heap.size + 1 + 1 + 1, 1, none⟩ (x1)).cell? ⟨H, 5, none⟩ = some (.slice e.l e.nl e.cl)) := fun w' hb x0 x1 => ⟨((HKK.out.below hb HKK.out.lt).off2 (g := w.heap.size + 1 + 1 + 1) (by omega) x0 x1).cell 0, ((HKK.out.below hb HKK.out.lt).off2 (g := w.heap.size + 1 + 1 + 1) (by omega) x0 x1).cell 1, ((HKK.out.below hb HKK.out.lt).off2 (g := w.heap.size + 1 + 1 + 1) (by omega) x0 x1).cell 2, ((HKG4.out.below hb HKG4.out.lt).off2 (g := w.heap.size + 1 + 1 + 1) HRS.out.1 x0 x1).cell 0, ((HKG4.out.below hb HKG4.out.lt).off2 (g := w.heap.size + 1 + 1 + 1) HRS.out.1 x0 x1).cell 1, ((HKG4.out.below hb HKG4.out.lt).off2 (g := w.heap.size + 1 + 1 + 1) HRS.out.1 x0 x1).cell 2, ((HKG4.out.below hb HKG4.out.lt).off2 (g := w.heap.size + 1 + 1 + 1) HRS.out.1 x0 x1).cell 3, ((HKG4.out.below hb HKG4.out.lt).off2 (g := w.heap.size + 1 + 1 + 1) HRS.out.1 x0 x1).cell 4, ((HKG4.out.below hb HKG4.out.lt).off2 (g := w.heap.size + 1 + 1 + 1) HRS.out.1 x0 x1).cell 5, ((HKG4.out.below hb HKG4.out.lt).off2 (g := w.heap.size + 1 + 1 + 1) HRS.out.1 x0 x1).cell 6, ((HKG4.out.below hb HKG4.out.lt).off2 (g := w.heap.size + 1 + 1 + 1) HRS.out.1 x0 x1).cell 7, ((HKG4.out.below hb HKG4.out.lt).off2 (g := w.heap.size + 1 + 1 + 1) HRS.out.1 x0 x1).cell 8, ((HKH.out.below hb HKH.out.lt).off2 (g := w.heap.size + 1 + 1 + 1) HRS.out.2 x0 x1).cell 0, ((HKH.out.below hb HKH.out.lt).off2 (g := w.heap.size + 1 + 1 + 1) HRS.out.2 x0 x1).cell 1, ((HKH.out.below hb HKH.out.lt).off2 (g := w.heap.size + 1 + 1 + 1) HRS.out.2 x0 x1).cell 2, ((HKH.out.below hb HKH.out.lt).off2 (g := w.heap.size + 1 + 1 + 1) HRS.out.2 x0 x1).cell 3, ((HKH.out.below hb HKH.out.lt).off2 (g := w.heap.size + 1 + 1 + 1) HRS.out.2 x0 x1).cell 4, ((HKH.out.below hb HKH.out.lt).off2 (g := w.heap.size + 1 + 1 + 1) HRS.out.2 x0 x1).cell 5⟩
    obtain ⟨z0, z1, z2, z3, z4, z5, z6, z7, z8, z9, z10, z11, z12, z13, z14, z15, z16, z17⟩ := HS.out w4 (Below.refl _ _)
    go_region_held3 (fun w' => w'.cell? ⟨w.heap.size + 1 + 1, 0, none⟩ = some (.bool f.n) ∧ w'.cell? ⟨w.heap.size + 1 + 1, 1, none⟩ = some (.slice f.u f.nu f.cu) ∧ w'.cell? ⟨w.heap.size + 1 + 1, 2, none⟩ = some (.slice f.l f.nl f.cl) ∧ w'.cell? ⟨G, 0, none⟩ = some (.bool a.n) ∧ w'.cell? ⟨G, 1, none⟩ = some (.slice a.u a.nu a.cu) ∧ w'.cell? ⟨G, 2, none⟩ = some (.slice a.l a.nl a.cl) ∧ w'.cell? ⟨G, 3, none⟩ = some (.bool b.n) ∧ w'.cell? ⟨G, 4, none⟩ = some (.slice b.u b.nu b.cu) ∧ w'.cell? ⟨G, 5, none⟩ = some (.slice b.l b.nl b.cl) ∧ w'.cell? ⟨G, 6, none⟩ = some (.bool c.n) ∧ w'.cell? ⟨G, 7, none⟩ = some (.slice c.u c.nu c.cu) ∧ w'.cell? ⟨G, 8, none⟩ = some (.slice c.l c.nl c.cl) ∧ w'.cell? ⟨H, 0, none⟩ = some (.bool d.n) ∧ w'.cell? ⟨H, 1, none⟩ = some (.slice d.u d.nu d.cu) ∧ w'.cell? ⟨H, 2, none⟩ = some (.slice d.l d.nl d.cl) ∧ w'.cell? ⟨H, 3, none⟩ = some (.bool e.n) ∧ w'.cell? ⟨H, 4, none⟩ = some (.slice e.u e.nu e.cu) ∧ w'.cell? ⟨H, 5, none⟩ = some (.slice e.l e.nl e.cl)) (first | go_keep | exact hs5 | exact hs6 | exact hsA6 | exact hs7 | exact hs8 | exact hkS)
      (first
        | (go_at_call 117; refine (lineDrop_calls (w := w4.drew) ⟨a, b, c, rfl, HA4.out.below (Below.drew (Below.refl _ _)), HB4.out.below (Below.drew (Below.refl _ _)), HC4.out.below (Below.drew (Below.refl _ _))⟩ ⟨d, e, rfl, HX4.out.below (Below.drew (Below.refl _ _)), HY4.out.below (Below.drew (Below.refl _ _))⟩ F1.out F2.out F3.out F4.out F5.out Q1.out).mono ?_; rintro _ w5 ⟨hb5, v5, rfl, hv5⟩; have hw5 := hv5; obtain ⟨d5, e5, rfl, hx5, hy5⟩ := hw5; have hbl5 : Below w4.heap.size w4 w5 := (Below.drew (Below.refl _ w4)).trans hb5; have hs5 := HS.out w5 hbl5)
        | (go_at_call 68; refine (wayTimes_calls hv5 (HT4.out.below hbl5) FDX.out FDY.out F6.out Q2.out).mono ?_; rintro _ w6 ⟨hb6, v6, rfl, hv6⟩; obtain ⟨d6, e6, rfl, hx6, hy6⟩ := hv6; have hbl6 := hbl5.trans (hb6.mono hbl5.size); have hs6 := HS.out w6 hbl6; have hbA6 := below_new w6 (.cells #[.bool d.n, .slice d.u d.nu d.cu, .slice d.l d.nl d.cl, .bool e.n, .slice e.u e.nu e.cu, .slice e.l e.nl e.cl, .bool d6.n, .slice d6.u d6.nu d6.cu, .slice d6.l d6.nl d6.cl, .bool e6.n, .slice e6.u e6.nu e6.cu, .slice e6.l e6.nl e6.cl] 86); have hblA6 := hbl6.trans (hbA6.mono hbl6.size); have hsA6 := HS.out _ hblA6)
        | (go_at_call 66; refine (waySum_calls (wrow2 (HX4.out.below hbl6) (HY4.out.below hbl6) hx6 hy6) A1.out A2.out (by simp) Q3.out).mono ?_; rintro _ w7 ⟨hb7, v7, rfl, hv7⟩; rw [show rsum ([((rd px.data.toList), (rd py.data.toList)), (((rd la.data.toList) * -((rd la.data.toList) * (rd px.data.toList) + (rd lb.data.toList) * (rd py.data.toList) + (rd lc.data.toList)) / ((rd la.data.toList) * (rd la.data.toList) + (rd lb.data.toList) * (rd lb.data.toList))) * t, ((rd lb.data.toList) * -((rd la.data.toList) * (rd px.data.toList) + (rd lb.data.toList) * (rd py.data.toList) + (rd lc.data.toList)) / ((rd la.data.toList) * (rd la.data.toList) + (rd lb.data.toList) * (rd lb.data.toList))) * t)].map Prod.fst) = (rd px.data.toList) + ((rd la.data.toList) * -((rd la.data.toList) * (rd px.data.toList) + (rd lb.data.toList) * (rd py.data.toList) + (rd lc.data.toList)) / ((rd la.data.toList) * (rd la.data.toList) + (rd lb.data.toList) * (rd lb.data.toList))) * t from rsum2 _ _, show rsum ([((rd px.data.toList), (rd py.data.toList)), (((rd la.data.toList) * -((rd la.data.toList) * (rd px.data.toList) + (rd lb.data.toList) * (rd py.data.toList) + (rd lc.data.toList)) / ((rd la.data.toList) * (rd la.data.toList) + (rd lb.data.toList) * (rd lb.data.toList))) * t, ((rd lb.data.toList) * -((rd la.data.toList) * (rd px.data.toList) + (rd lb.data.toList) * (rd py.data.toList) + (rd lc.data.toList)) / ((rd la.data.toList) * (rd la.data.toList) + (rd lb.data.toList) * (rd lb.data.toList))) * t)].map Prod.snd) = (rd py.data.toList) + ((rd lb.data.toList) * -((rd la.data.toList) * (rd px.data.toList) + (rd lb.data.toList) * (rd py.data.toList) + (rd lc.data.toList)) / ((rd la.data.toList) * (rd la.data.toList) + (rd lb.data.toList) * (rd lb.data.toList))) * t from rsum2 _ _] at hv7; have hw7 := hv7; obtain ⟨d7, e7, rfl, hx7, hy7⟩ := hw7; have hbl7 := hblA6.trans (hb7.mono hblA6.size); have hs7 := HS.out w7 hbl7)
        | (go_at_call 70; refine (wayText_calls hv7 (F4.out.add FTX.out) (F5.out.add FTY.out) Q4.out (HTC.out.below hbl7)).mono ?_; rintro _ w8 ⟨hb8, v8, rfl, sa, sb, rfl, ta, tb⟩; have hbl8 := hbl7.trans (hb8.mono hbl7.size); have hs8 := HS.out w8 hbl8; have hkr := HKR.out.below hbl8 HKR.out.lt; obtain ⟨r0, r1, j0, j1⟩ := hkr.all2; have hkS := HSS.out w8 hbl8 (.string sa) (.string sb); have HTT := hideIt (And.intro ta tb); clear ta tb)
        )
    all_goals
      go_wp2
      obtain ⟨k0, k1, _⟩ := (hkr.put2 (.string sa) (.string sb)).all2
      exact bodyPost_ret (v := .tuple #[.agg #[.string sa, .string sb], .int .i64 0]) (by simp [results, Tryz.results75, go_sem, k0, k1]) rfl ⟨Below.put2 (HB0.out.trans ((HBL4.out.trans (hbl8.mono HBL4.out.size)).mono HB0.out.size)) (by omega) _ _, sa, sb, 0, rfl, Or.inr ⟨HN.out, rfl, HTT.out.1, HTT.out.2⟩⟩
theorem dropped_calls {w : World} {va vb vc : Value} {la lb lc px py : List UInt8} {t : Rat} (ha : TV va la lb lc) (hb : PV vb px py) (hc : QV w vc t) (s1 : la.length ≤ 4294967296) (s2 : lb.length ≤ 4294967296) (s3 : lc.length ≤ 4294967296) (s4 : px.length ≤ 4294967296) (s5 : py.length ≤ 4294967296) {k : Nat} (f1 : QS k (rd la)) (f2 : QS k (rd lb)) (f3 : QS k (rd lc)) (f4 : QS k (rd px)) (f5 : QS k (rd py)) (f6 : QS k t) (hk : 100 * (k + 1) ≤ 35184372088640) (tab : Tab w) :
    Calls Tryz.prog 75 #[va, vb, vc] w fun e w' => Below w.heap.size w w' ∧ ∃ (sa sb : ByteArray) (z : Int), e = .returned (.tuple #[.agg #[.string sa, .string sb], .int .i64 z]) ∧ DropAns (rd la) (rd lb) (rd lc) (rd px) (rd py) t sa.data.toList sb.data.toList z := by
  obtain ⟨a, b, c, rfl, rfl, rfl, rfl⟩ := ha
  obtain ⟨d, e, rfl, rfl, rfl⟩ := hb
  obtain ⟨f, rfl⟩ := qv_open hc
  exact dropped_walk hc s1 s2 s3 s4 s5 f1 f2 f3 f4 f5 f6 hk tab
end Go.Proofs.YtgajdmadbdbabaaGreatDoor
/- WU -/
namespace Go.Proofs.YtgajdmadbdbabaaGreatDoor
open Go.RowKit Cx
attribute [local go_sem ↓] Go.wp_at_zero Go.wp_at_succ
theorem QS.one : QS 1 ((1 : Nat) : Rat) := ⟨by decide, by decide⟩
theorem foot_walk {w : World} {la lb lc px py : ByteArray} (s1 : la.data.toList.length ≤ 4294967296) (s2 : lb.data.toList.length ≤ 4294967296) (s3 : lc.data.toList.length ≤ 4294967296) (s4 : px.data.toList.length ≤ 4294967296) (s5 : py.data.toList.length ≤ 4294967296) {k : Nat} (f1 : QS k (rd la.data.toList)) (f2 : QS k (rd lb.data.toList)) (f3 : QS k (rd lc.data.toList)) (f4 : QS k (rd px.data.toList)) (f5 : QS k (rd py.data.toList)) (hk : 100 * (k + 1) ≤ 35184372088640) (tab : Tab w) :
    Calls Tryz.prog 20 #[.agg #[.string la, .string lb, .string lc], .agg #[.string px, .string py]] w fun e w' => Below w.heap.size w w' ∧ ∃ (sa sb : ByteArray) (z : Int), e = .returned (.tuple #[.agg #[.string sa, .string sb], .int .i64 z]) ∧ DropAns (rd la.data.toList) (rd lb.data.toList) (rd lc.data.toList) (rd px.data.toList) (rd py.data.toList) ((1 : Nat) : Rat) sa.data.toList sb.data.toList z := by
  obtain ⟨hb0, hk0, hk1, hk2, hsz⟩ := boxes3 w #[.string la, .string lb, .string lc] #[.string px, .string py] #[.string ⟨#[]⟩, .string ⟨#[]⟩] 26 24 24
  have HB0 := hideIt hb0
  have HSZ := hideIt hsz
  have HK0 := hideIt hk0
  have HK1 := hideIt hk1
  have HK2 := hideIt hk2
  have HTAB := hideIt (tab.below hb0)
  have S1 := hideIt s1
  have F1 := hideIt f1
  have S2 := hideIt s2
  have F2 := hideIt f2
  have S3 := hideIt s3
  have F3 := hideIt f3
  have S4 := hideIt s4
  have F4 := hideIt f4
  have S5 := hideIt s5
  have F5 := hideIt f5
  have F6 : Hid (QS k ((1 : Nat) : Rat)) := QS.one.mono f1.pos
  have HK := hideIt hk
  clear hb0 hsz hk0 hk1 hk2 tab s1 s2 s3 s4 s5 f1 f2 f3 f4 f5 hk
  go_enter Tryz.func20, Tryz.ntmps20
  go_wp2_with fail
  generalize (((w.alloc (.cells #[.string la, .string lb, .string lc] 26)).alloc (.cells #[.string px, .string py] 24)).alloc (.cells #[.string ⟨#[]⟩, .string ⟨#[]⟩] 24)) = W0 at *
  have HS : Hid (∀ w', Below W0.heap.size W0 w' → w'.cell? ⟨w.heap.size, 0, none⟩ = some (.string la) ∧ w'.cell? ⟨w.heap.size, 1, none⟩ = some (.string lb) ∧ w'.cell? ⟨w.heap.size, 2, none⟩ = some (.string lc) ∧ w'.cell? ⟨w.heap.size + 1, 0, none⟩ = some (.string px) ∧ w'.cell? ⟨w.heap.size + 1, 1, none⟩ = some (.string py)) := fun w' hb => ⟨(HK0.out.below hb (by rw [HSZ.out]; omega)).cell 0, (HK0.out.below hb (by rw [HSZ.out]; omega)).cell 1, (HK0.out.below hb (by rw [HSZ.out]; omega)).cell 2, (HK1.out.below hb (by rw [HSZ.out]; omega)).cell 0, (HK1.out.below hb (by rw [HSZ.out]; omega)).cell 1⟩
  have HSS : Hid (∀ w', Below W0.heap.size W0 w' → ∀ x0 x1 : Value, ((w'.setCell ⟨w.heap.size + 1 + 1, 0, none⟩ (x0)).setCell ⟨w.heap.size + 1 + 1, 1, none⟩ (x1)).cell? ⟨w.heap.size, 0, none⟩ = some (.string la) ∧ ((w'.setCell ⟨w.heap.size + 1 + 1, 0, none⟩ (x0)).setCell ⟨w.heap.size + 1 + 1, 1, none⟩ (x1)).cell? ⟨w.heap.size, 1, none⟩ = some (.string lb) ∧ ((w'.setCell ⟨w.heap.size + 1 + 1, 0, none⟩ (x0)).setCell ⟨w.heap.size + 1 + 1, 1, none⟩ (x1)).cell? ⟨w.heap.size, 2, none⟩ = some (.string lc) ∧ ((w'.setCell ⟨w.heap.size + 1 + 1, 0, none⟩ (x0)).setCell ⟨w.heap.size + 1 + 1, 1, none⟩ (x1)).cell? ⟨w.heap.size + 1, 0, none⟩ = some (.string px) ∧ ((w'.setCell ⟨w.heap.size + 1 + 1, 0, none⟩ (x0)).setCell ⟨w.heap.size + 1 + 1, 1, none⟩ (x1)).cell? ⟨w.heap.size + 1, 1, none⟩ = some (.string py)) := fun w' hb x0 x1 => ⟨((HK0.out.below hb (by rw [HSZ.out]; omega)).off2 (g := w.heap.size + 1 + 1) (by omega) x0 x1).cell 0, ((HK0.out.below hb (by rw [HSZ.out]; omega)).off2 (g := w.heap.size + 1 + 1) (by omega) x0 x1).cell 1, ((HK0.out.below hb (by rw [HSZ.out]; omega)).off2 (g := w.heap.size + 1 + 1) (by omega) x0 x1).cell 2, ((HK1.out.below hb (by rw [HSZ.out]; omega)).off2 (g := w.heap.size + 1 + 1) (by omega) x0 x1).cell 0, ((HK1.out.below hb (by rw [HSZ.out]; omega)).off2 (g := w.heap.size + 1 + 1) (by omega) x0 x1).cell 1⟩
  obtain ⟨z0, z1, z2, z3, z4⟩ := HS.out W0 (Below.refl _ _)
  go_region_held3 (fun w' => w'.cell? ⟨w.heap.size, 0, none⟩ = some (.string la) ∧ w'.cell? ⟨w.heap.size, 1, none⟩ = some (.string lb) ∧ w'.cell? ⟨w.heap.size, 2, none⟩ = some (.string lc) ∧ w'.cell? ⟨w.heap.size + 1, 0, none⟩ = some (.string px) ∧ w'.cell? ⟨w.heap.size + 1, 1, none⟩ = some (.string py)) (first | go_keep | exact hs1 | exact hs2 | exact hkS)
    (first
      | (go_at_call 76; refine (int_calls 1 (by decide) W0.drew).mono ?_; rintro _ w1 ⟨hb1, v1, rfl, hv1⟩; obtain ⟨d1, rfl⟩ := qv_open hv1; have hbl1 : Below W0.heap.size W0 w1 := (Below.drew (Below.refl _ W0)).trans hb1; have hs1 := HS.out w1 hbl1)
      | (go_at_call 75; refine (dropped_calls ⟨la, lb, lc, rfl, rfl, rfl, rfl⟩ ⟨px, py, rfl, rfl, rfl⟩ hv1 S1.out S2.out S3.out S4.out S5.out F1.out F2.out F3.out F4.out F5.out F6.out HK.out (HTAB.out.below hbl1)).mono ?_; rintro _ w2 ⟨hb2, sa, sb, z, rfl, hans⟩; have hbl2 := hbl1.trans (hb2.mono hbl1.size); have hs2 := HS.out w2 hbl2; have hkr := HK2.out.below hbl2 (by rw [HSZ.out]; omega); obtain ⟨r0, r1, j0, j1⟩ := hkr.all2; have hkS := HSS.out w2 hbl2 (.string sa) (.string sb); have HANS := hideIt hans; clear hans)
      )
  all_goals
    go_wp2
    obtain ⟨k0, k1, _⟩ := (hkr.put2 (.string sa) (.string sb)).all2
    exact bodyPost_ret (v := .tuple #[.agg #[.string sa, .string sb], .int .i64 z]) (by simp [results, Tryz.results20, go_sem, k0, k1]) rfl ⟨Below.put2 (HB0.out.trans (hbl2.mono HB0.out.size)) (by omega) _ _, sa, sb, z, rfl, HANS.out⟩
theorem pt_calls (x y : ByteArray) (w : World) :
    Calls Tryz.prog 72 #[.string x, .string y] w fun e w' => Below w.heap.size w w' ∧ e = .returned (.agg #[.string x, .string y]) := by
  go_enter Tryz.func72, Tryz.ntmps72
  go_wp2
  refine bodyPost_ret (v := .agg #[.string x, .string y]) (by simp [results, Tryz.results72, go_sem]) rfl ⟨below_new _ _, rfl⟩
end Go.Proofs.YtgajdmadbdbabaaGreatDoor
/- MathY -/
namespace Cx
open Go
theorem tx_int (z : Int) (h : z.natAbs < 10) : tx ((z : Int) : Rat) = (if z < 0 then [45] else []) ++ [UInt8.ofNat (48 + z.natAbs)] := by
  unfold tx
  have h1 : ((z : Int) : Rat).num = z := rfl
  have h2 : ((z : Int) : Rat).den = 1 := rfl
  rw [h1, h2, if_pos rfl, List.append_nil, dec_small h]
theorem tx_half (z : Int) (q : Rat) (hn : q.num = z) (hd : q.den = 2) (h : z.natAbs < 10) : tx q = (if z < 0 then [45] else []) ++ ([UInt8.ofNat (48 + z.natAbs)] ++ [47, 50]) := by
  unfold tx
  rw [hn, hd, if_neg (show ¬ (2 = 1) by decide), dec_small h, dec_small (by decide)]
  rfl
theorem rd0 : rd [48] = ((0 : Int) : Rat) := by rw [← show tx ((0 : Int) : Rat) = [48] from tx_int 0 (by decide), rd_tx]
theorem rd1 : rd [49] = ((1 : Int) : Rat) := by rw [← show tx ((1 : Int) : Rat) = [49] from tx_int 1 (by decide), rd_tx]
theorem rd2 : rd [50] = ((2 : Int) : Rat) := by rw [← show tx ((2 : Int) : Rat) = [50] from tx_int 2 (by decide), rd_tx]
theorem rd3 : rd [51] = ((3 : Int) : Rat) := by rw [← show tx ((3 : Int) : Rat) = [51] from tx_int 3 (by decide), rd_tx]
theorem rdm1 : rd [45, 49] = ((-1 : Int) : Rat) := by rw [← show tx ((-1 : Int) : Rat) = [45, 49] from tx_int (-1) (by decide), rd_tx]
theorem rdm5 : rd [45, 53] = ((-5 : Int) : Rat) := by rw [← show tx ((-5 : Int) : Rat) = [45, 53] from tx_int (-5) (by decide), rd_tx]
theorem ex_x : -(((3 : Int) : Rat) - ((1 : Int) : Rat)) = ((-2 : Int) : Rat) := by decide +kernel
theorem ex_y : (((1 : Int) : Rat) - ((0 : Int) : Rat)) = ((1 : Int) : Rat) := by decide +kernel
theorem ex_c : -(((-2 : Int) : Rat) * ((0 : Int) : Rat) + ((1 : Int) : Rat) * ((1 : Int) : Rat)) = ((-1 : Int) : Rat) := by decide +kernel
theorem ex_f : fac [((-2 : Int) : Rat), ((1 : Int) : Rat), ((-1 : Int) : Rat)] = ((-1 : Int) : Rat) := by decide +kernel
theorem ex_1 : ((-2 : Int) : Rat) * ((-1 : Int) : Rat) = ((2 : Int) : Rat) := by decide +kernel
theorem ex_2 : ((1 : Int) : Rat) * ((-1 : Int) : Rat) = ((-1 : Int) : Rat) := by decide +kernel
theorem ex_3 : ((-1 : Int) : Rat) * ((-1 : Int) : Rat) = ((1 : Int) : Rat) := by decide +kernel
theorem ex_t : ((2 : Int) : Rat) * ((1 : Int) : Rat) - ((-1 : Int) : Rat) * ((0 : Int) : Rat) ≠ 0 := by decide +kernel
theorem ex_mx : -(((1 : Int) : Rat) * ((1 : Int) : Rat) - ((-1 : Int) : Rat) * ((-5 : Int) : Rat)) / (((2 : Int) : Rat) * ((1 : Int) : Rat) - ((-1 : Int) : Rat) * ((0 : Int) : Rat)) = ((2 : Int) : Rat) := by decide +kernel
theorem ex_my : (((0 : Int) : Rat) * ((1 : Int) : Rat) - ((2 : Int) : Rat) * ((-5 : Int) : Rat)) / (((2 : Int) : Rat) * ((1 : Int) : Rat) - ((-1 : Int) : Rat) * ((0 : Int) : Rat)) = ((5 : Int) : Rat) := by decide +kernel
theorem ex_fx : tx (((1 : Int) : Rat) + ((1 : Int) : Rat) * -(((1 : Int) : Rat) * ((1 : Int) : Rat) + ((1 : Int) : Rat) * ((0 : Int) : Rat) + ((0 : Int) : Rat)) / (((1 : Int) : Rat) * ((1 : Int) : Rat) + ((1 : Int) : Rat) * ((1 : Int) : Rat)) * ((1 : Nat) : Rat)) = [49, 47, 50] := tx_half 1 _ (by decide +kernel) (by decide +kernel) (by decide)
theorem ex_fy : tx (((0 : Int) : Rat) + ((1 : Int) : Rat) * -(((1 : Int) : Rat) * ((1 : Int) : Rat) + ((1 : Int) : Rat) * ((0 : Int) : Rat) + ((0 : Int) : Rat)) / (((1 : Int) : Rat) * ((1 : Int) : Rat) + ((1 : Int) : Rat) * ((1 : Int) : Rat)) * ((1 : Nat) : Rat)) = [45, 49, 47, 50] := tx_half (-1) _ (by decide +kernel) (by decide +kernel) (by decide)
theorem thales {ox oy ax ay bx by' k s1 s2 s3 x y : Rat}
    {A B C P Q R : Rat}
    (hA : A = s2 * (s1 * -(by' - ay))) (hB : B = s2 * (s1 * (bx - ax)))
    (hC : C = s2 * -(s1 * -(by' - ay) * (ox + (ax - ox) * k) + s1 * (bx - ax) * (oy + (ay - oy) * k)))
    (hP : P = s3 * -(by' - oy)) (hQ : Q = s3 * (bx - ox)) (hR : R = s3 * -(-(by' - oy) * ox + (bx - ox) * oy))
    (ht : A * Q - B * P ≠ 0) (hx : x = -(Q * C - B * R) / (A * Q - B * P)) (hy : y = (P * C - A * R) / (A * Q - B * P)) :
    x = ox + (bx - ox) * k ∧ y = oy + (by' - oy) * k := by
  have e1 : (ox + (bx - ox) * k) * (A * Q - B * P) = -(Q * C - B * R) := by
    subst hA hB hC hP hQ hR
    grind
  have e2 : (oy + (by' - oy) * k) * (A * Q - B * P) = P * C - A * R := by
    subst hA hB hC hP hQ hR
    grind
  constructor
  · rw [hx, ← e1, Rat.div_def, Rat.mul_assoc, Rat.mul_inv_cancel _ ht, Rat.mul_one]
  · rw [hy, ← e2, Rat.div_def, Rat.mul_assoc, Rat.mul_inv_cancel _ ht, Rat.mul_one]
end Cx
/- WV -/
namespace Go.Proofs.YtgajdmadbdbabaaGreatDoor
open Go.RowKit Cx
theorem bytes_eq {s : ByteArray} {l : List UInt8} (h : s.data.toList = l) : s = ⟨l.toArray⟩ := by
  cases s
  subst h
  simp
theorem ex_line {la lb lc : List UInt8} {z : Int} (h : LineAns (-(rd [51] - rd [49])) (rd [49] - rd [48]) (-(-(rd [51] - rd [49]) * rd [48] + (rd [49] - rd [48]) * rd [49])) la lb lc z) : z = 0 ∧ la = [50] ∧ lb = [45, 49] ∧ lc = [49] := by
  rw [rd3, rd1, rd0, ex_x, ex_y, ex_c] at h
  rcases h with ⟨h, _⟩ | ⟨_, hz, h1, h2, h3⟩
  · exact absurd h (by decide +kernel)
  · rw [ex_f] at h1 h2 h3
    rw [ex_1] at h1
    rw [ex_2] at h2
    rw [ex_3] at h3
    exact ⟨hz, h1.trans (tx_int 2 (by decide)), h2.trans (tx_int (-1) (by decide)), h3.trans (tx_int 1 (by decide))⟩
theorem ex_meet {sa sb : List UInt8} {z : Int} (h : PointAns (rd [50]) (rd [45, 49]) (rd [49]) (rd [48]) (rd [49]) (rd [45, 53]) sa sb z) : z = 0 ∧ sa = [50] ∧ sb = [53] := by
  rw [rd2, rdm1, rd1, rd0, rdm5] at h
  rcases h with ⟨⟨h, _⟩ | ⟨_, h⟩, _⟩ | ⟨_, _, x, y, hm, ht⟩
  · exact absurd h (by decide +kernel)
  · exact absurd h (by decide +kernel)
  · rcases hm with ⟨_, hz, hx, hy⟩ | ⟨h0, _⟩
    · rw [ex_mx] at hx
      rw [ex_my] at hy
      obtain ⟨h1, h2⟩ := ht hz
      rw [hx] at h1
      rw [hy] at h2
      exact ⟨hz, h1.trans (tx_int 2 (by decide)), h2.trans (tx_int 5 (by decide))⟩
    · exact absurd h0 ex_t
theorem ex_foot {sa sb : List UInt8} {z : Int} (h : DropAns (rd [49]) (rd [49]) (rd [48]) (rd [49]) (rd [48]) ((1 : Nat) : Rat) sa sb z) : z = 0 ∧ sa = [49, 47, 50] ∧ sb = [45, 49, 47, 50] := by
  rw [rd1, rd0] at h
  rcases h with ⟨h, _⟩ | ⟨_, hz, h1, h2⟩
  · exact absurd h (by decide +kernel)
  · exact ⟨hz, h1.trans ex_fx, h2.trans ex_fy⟩
end Go.Proofs.YtgajdmadbdbabaaGreatDoor
/- WW -/
namespace Go.Proofs.YtgajdmadbdbabaaGreatDoor
open Go.RowKit Cx
attribute [local go_sem ↓] Go.wp_at_zero Go.wp_at_succ
theorem qs30 (s : ByteArray) (h : s.size ≤ 6) : QS 30 (rd s.data.toList) := (QS.rd _).mono (by rw [str_len]; omega)
theorem len6 (s : ByteArray) (h : s.size ≤ 6) : s.data.toList.length ≤ 4294967296 := by rw [str_len]; omega
theorem len6' (s : ByteArray) (h : s.size ≤ 6) : s.data.toList.length ≤ 1048576 := by rw [str_len]; omega
theorem lined_calls (w : World) (tab : Tab w) :
    Calls Tryz.prog 18 #[] w fun e w' => Below w.heap.size w w' ∧ e = .returned (.bool true) := by
  have HT := hideIt tab
  clear tab
  go_enter Tryz.func18, Tryz.ntmps18
  go_wp2_with fail
  refine (pt_calls ⟨#[48]⟩ ⟨#[49]⟩ w).mono ?_
  rintro _ w1 ⟨hb1, rfl⟩
  go_wp2_with fail
  refine (pt_calls ⟨#[49]⟩ ⟨#[51]⟩ w1).mono ?_
  rintro _ w2 ⟨hb2, rfl⟩
  have hbl2 := hb1.trans (hb2.mono hb1.size)
  go_wp2_with fail
  refine (through_calls (va := .agg #[.string ⟨#[48]⟩, .string ⟨#[49]⟩]) (vb := .agg #[.string ⟨#[49]⟩, .string ⟨#[51]⟩]) ⟨⟨#[48]⟩, ⟨#[49]⟩, rfl, rfl, rfl⟩ ⟨⟨#[49]⟩, ⟨#[51]⟩, rfl, rfl, rfl⟩ (len6' _ (by decide)) (len6' _ (by decide)) (len6' _ (by decide)) (len6' _ (by decide)) (HT.out.below hbl2)).mono ?_
  rintro _ w3 ⟨hb3, sa, sb, sc, z, rfl, hans⟩
  obtain ⟨rfl, h1, h2, h3⟩ := ex_line hans
  obtain rfl := bytes_eq h1
  obtain rfl := bytes_eq h2
  obtain rfl := bytes_eq h3
  have HB3 := hideIt (hbl2.trans (hb3.mono hbl2.size))
  clear hb1 hb2 hb3 hbl2 hans h1 h2 h3
  go_wp2_with fail
  have hbA := below_new w3 (.cells #[.string ⟨#[50]⟩, .string ⟨#[45, 49]⟩, .string ⟨#[49]⟩] 26)
  have HKL := hideIt (Blk.new w3 #[.string ⟨#[50]⟩, .string ⟨#[45, 49]⟩, .string ⟨#[49]⟩] 26)
  have HBA := hideIt (HB3.out.trans (hbA.mono HB3.out.size))
  clear hbA
  refine (lineMeet_calls (va := .agg #[.string ⟨#[50]⟩, .string ⟨#[45, 49]⟩, .string ⟨#[49]⟩]) (vb := .agg #[.string ⟨#[48]⟩, .string ⟨#[49]⟩, .string ⟨#[45, 53]⟩]) ⟨⟨#[50]⟩, ⟨#[45, 49]⟩, ⟨#[49]⟩, rfl, rfl, rfl, rfl⟩ ⟨⟨#[48]⟩, ⟨#[49]⟩, ⟨#[45, 53]⟩, rfl, rfl, rfl, rfl⟩ (len6 _ (by decide)) (len6 _ (by decide)) (len6 _ (by decide)) (len6 _ (by decide)) (len6 _ (by decide)) (len6 _ (by decide)) (qs30 _ (by decide)) (qs30 _ (by decide)) (qs30 _ (by decide)) (qs30 _ (by decide)) (qs30 _ (by decide)) (qs30 _ (by decide)) (by decide) (HT.out.below HBA.out)).mono ?_
  rintro _ w4 ⟨hb4, sa, sb, z, rfl, hans⟩
  obtain ⟨rfl, h1, h2⟩ := ex_meet hans
  obtain rfl := bytes_eq h1
  obtain rfl := bytes_eq h2
  have HB4 := hideIt (HBA.out.trans (hb4.mono HBA.out.size))
  have HKL4 := hideIt (HKL.out.below hb4 HKL.out.lt)
  obtain ⟨G, hG⟩ : ∃ G, G = w3.heap.size := ⟨_, rfl⟩
  rw [← hG] at HKL4 ⊢
  clear hG hb4 hans h1 h2 HKL HBA
  go_wp2_with fail
  have hbA := below_new w4 (.cells #[.string ⟨#[50]⟩, .string ⟨#[53]⟩] 24)
  have HKP := hideIt (Blk.new w4 #[.string ⟨#[50]⟩, .string ⟨#[53]⟩] 24)
  have HKL5 := hideIt (HKL4.out.below hbA HKL4.out.lt)
  have HBA := hideIt (HB4.out.trans (hbA.mono HB4.out.size))
  clear hbA
  refine (pt_calls ⟨#[49]⟩ ⟨#[48]⟩ _).mono ?_
  rintro _ w5 ⟨hb5, rfl⟩
  have HB5 := hideIt (HBA.out.trans (hb5.mono HBA.out.size))
  have HKL6 := hideIt (HKL5.out.below hb5 HKL5.out.lt)
  have HKP5 := hideIt (HKP.out.below hb5 HKP.out.lt)
  obtain ⟨H, hH⟩ : ∃ H, H = w4.heap.size := ⟨_, rfl⟩
  rw [← hH] at HKP5 ⊢
  clear hH hb5 HKL5 HKP
  go_wp2_with fail
  refine (foot_walk (la := ⟨#[49]⟩) (lb := ⟨#[49]⟩) (lc := ⟨#[48]⟩) (px := ⟨#[49]⟩) (py := ⟨#[48]⟩) (len6 _ (by decide)) (len6 _ (by decide)) (len6 _ (by decide)) (len6 _ (by decide)) (len6 _ (by decide)) (qs30 _ (by decide)) (qs30 _ (by decide)) (qs30 _ (by decide)) (qs30 _ (by decide)) (qs30 _ (by decide)) (by decide) (HT.out.below HB5.out)).mono ?_
  rintro _ w6 ⟨hb6, sa, sb, z, rfl, hans⟩
  obtain ⟨rfl, h1, h2⟩ := ex_foot hans
  obtain rfl := bytes_eq h1
  obtain rfl := bytes_eq h2
  have HB6 := hideIt (HB5.out.trans (hb6.mono HB5.out.size))
  have HKL7 := hideIt (HKL6.out.below hb6 HKL6.out.lt)
  have HKP6 := hideIt (HKP5.out.below hb6 HKP5.out.lt)
  clear hb6 hans h1 h2
  go_wp2_with fail
  obtain ⟨w7, hw7⟩ : ∃ w7, w7 = w6.alloc (.cells #[.string ⟨#[49, 47, 50]⟩, .string ⟨#[45, 49, 47, 50]⟩] 24) := ⟨_, rfl⟩
  have hbA := below_new w6 (.cells #[.string ⟨#[49, 47, 50]⟩, .string ⟨#[45, 49, 47, 50]⟩] 24)
  have HKQ := hideIt (Blk.new w6 #[.string ⟨#[49, 47, 50]⟩, .string ⟨#[45, 49, 47, 50]⟩] 24)
  rw [← hw7] at hbA HKQ ⊢
  obtain ⟨J, hJ⟩ : ∃ J, J = w6.heap.size := ⟨_, rfl⟩
  rw [← hJ] at HKQ ⊢
  have HKL8 := hideIt (HKL7.out.below hbA HKL7.out.lt)
  have HKP7 := hideIt (HKP6.out.below hbA HKP6.out.lt)
  have HB7 := hideIt (HB6.out.trans (hbA.mono HB6.out.size))
  clear hJ hw7 hbA
  have HS : Hid (∀ w', Below w7.heap.size w7 w' → w'.cell? ⟨G, 0, none⟩ = some (.string ⟨#[50]⟩) ∧ w'.cell? ⟨G, 1, none⟩ = some (.string ⟨#[45, 49]⟩) ∧ w'.cell? ⟨G, 2, none⟩ = some (.string ⟨#[49]⟩) ∧ w'.cell? ⟨H, 0, none⟩ = some (.string ⟨#[50]⟩) ∧ w'.cell? ⟨H, 1, none⟩ = some (.string ⟨#[53]⟩) ∧ w'.cell? ⟨J, 0, none⟩ = some (.string ⟨#[49, 47, 50]⟩) ∧ w'.cell? ⟨J, 1, none⟩ = some (.string ⟨#[45, 49, 47, 50]⟩)) := fun w' hb => ⟨(HKL8.out.below hb HKL8.out.lt).cell 0, (HKL8.out.below hb HKL8.out.lt).cell 1, (HKL8.out.below hb HKL8.out.lt).cell 2, (HKP7.out.below hb HKP7.out.lt).cell 0, (HKP7.out.below hb HKP7.out.lt).cell 1, (HKQ.out.below hb HKQ.out.lt).cell 0, (HKQ.out.below hb HKQ.out.lt).cell 1⟩
  obtain ⟨z0, z1, z2, z3, z4, z5, z6⟩ := HS.out w7 (Below.refl _ _)
  go_region_held3 (fun w' => w'.cell? ⟨G, 0, none⟩ = some (.string ⟨#[50]⟩) ∧ w'.cell? ⟨G, 1, none⟩ = some (.string ⟨#[45, 49]⟩) ∧ w'.cell? ⟨G, 2, none⟩ = some (.string ⟨#[49]⟩) ∧ w'.cell? ⟨H, 0, none⟩ = some (.string ⟨#[50]⟩) ∧ w'.cell? ⟨H, 1, none⟩ = some (.string ⟨#[53]⟩) ∧ w'.cell? ⟨J, 0, none⟩ = some (.string ⟨#[49, 47, 50]⟩) ∧ w'.cell? ⟨J, 1, none⟩ = some (.string ⟨#[45, 49, 47, 50]⟩)) (first | go_keep | exact hs8 | exact hs9)
    (first
      | (go_at_call_of 72 (Value.string { data := #[53] }); refine (pt_calls ⟨#[50]⟩ ⟨#[53]⟩ w7.drew).mono ?_; rintro _ w8 ⟨hb8, rfl⟩; have hbl8 : Below w7.heap.size w7 w8 := (Below.drew (Below.refl _ w7)).trans hb8; have hs8 := HS.out w8 hbl8)
      | (go_at_call 72; refine (pt_calls ⟨#[49, 47, 50]⟩ ⟨#[45, 49, 47, 50]⟩ w8).mono ?_; rintro _ w9 ⟨hb9, rfl⟩; have hbl9 := hbl8.trans (hb9.mono hbl8.size); have hs9 := HS.out w9 hbl9)
      )
  all_goals
    go_wp2
    go_ret
    exact ⟨HB7.out.trans (hbl9.mono HB7.out.size), rfl⟩
end Go.Proofs.YtgajdmadbdbabaaGreatDoor
/- WR -/
namespace Go.Proofs.YtgajdmadbdbabaaGreatDoor
open Go.RowKit Cx
attribute [local go_sem ↓] Go.wp_at_zero Go.wp_at_succ
theorem beside_walk {w : World} {la lb lc px py : ByteArray} (s1 : la.data.toList.length ≤ 4294967296) (s2 : lb.data.toList.length ≤ 4294967296) (s3 : lc.data.toList.length ≤ 4294967296) (s4 : px.data.toList.length ≤ 4294967296) (s5 : py.data.toList.length ≤ 4294967296) {k l : Nat} (f1 : QS k (rd la.data.toList)) (f2 : QS k (rd lb.data.toList)) (f3 : QS l (rd px.data.toList)) (f4 : QS l (rd py.data.toList)) (hk : 20 * (k + l + 1) ≤ 35184372088640) (tab : Tab w) :
    Calls Tryz.prog 17 #[.agg #[.string la, .string lb, .string lc], .agg #[.string px, .string py]] w fun e w' => Below w.heap.size w w' ∧ ∃ (sa sb sc : ByteArray) (z : Int), e = .returned (.tuple #[.agg #[.string sa, .string sb, .string sc], .int .i64 z]) ∧ LineAns (rd la.data.toList) (rd lb.data.toList) (-(rd la.data.toList * rd px.data.toList + rd lb.data.toList * rd py.data.toList)) sa.data.toList sb.data.toList sc.data.toList z := by
  obtain ⟨hb0, hk0, hk1, hk2, hsz⟩ := boxes3 w #[.string la, .string lb, .string lc] #[.string px, .string py] #[.string ⟨#[]⟩, .string ⟨#[]⟩, .string ⟨#[]⟩] 26 24 26
  have HB0 := hideIt hb0
  have HSZ := hideIt hsz
  have HK1 := hideIt hk1
  have HK2 := hideIt hk2
  have HTAB := hideIt (tab.below hb0)
  have S1 := hideIt s1
  have S2 := hideIt s2
  have S3 := hideIt s3
  have S4 := hideIt s4
  have S5 := hideIt s5
  have F1 := hideIt f1
  have F2 := hideIt f2
  have F3 := hideIt f3
  have F4 := hideIt f4
  have HK := hideIt hk
  clear hb0 hsz hk0 hk1 hk2 tab s1 s2 s3 s4 s5 f1 f2 f3 f4 hk
  go_enter Tryz.func17, Tryz.ntmps17
  go_wp2_with fail
  generalize (((w.alloc (.cells #[.string la, .string lb, .string lc] 26)).alloc (.cells #[.string px, .string py] 24)).alloc (.cells #[.string ⟨#[]⟩, .string ⟨#[]⟩, .string ⟨#[]⟩] 26)) = W0 at *
  refine (rulerRead_calls ⟨la, lb, lc, rfl, rfl, rfl, rfl⟩ S1.out S2.out S3.out).mono ?_
  rintro _ w1 ⟨hb1, ⟨h1, h2, rfl⟩ | ⟨hn, v1, rfl, hv1⟩⟩
  · have HKR := hideIt (HK2.out.below hb1 (by rw [HSZ.out]; omega))
    have HBW := hideIt (HB0.out.trans (hb1.mono HB0.out.size))
    have ha : ∀ o, Blk (w1.alloc o) (w.heap.size + 1 + 1) #[.string ⟨#[]⟩, .string ⟨#[]⟩, .string ⟨#[]⟩] 26 := fun o => HKR.out.below (below_new w1 o) HKR.out.lt
    have r0 : ∀ o, (w1.alloc o).cell? ⟨w.heap.size + 1 + 1, 0, none⟩ = some (.string ⟨#[]⟩) := fun o => (ha o).cell 0
    have r1 : ∀ o, (w1.alloc o).cell? ⟨w.heap.size + 1 + 1, 1, none⟩ = some (.string ⟨#[]⟩) := fun o => (ha o).cell 1
    have r2 : ∀ o, (w1.alloc o).cell? ⟨w.heap.size + 1 + 1, 2, none⟩ = some (.string ⟨#[]⟩) := fun o => (ha o).cell 2
    have j0 : ∀ o, (w1.alloc o).frozen? ⟨w.heap.size + 1 + 1, 0, none⟩ = false := fun o => (ha o).frozen 0
    have j1 : ∀ o, (w1.alloc o).frozen? ⟨w.heap.size + 1 + 1, 1, none⟩ = false := fun o => (ha o).frozen 1
    have j2 : ∀ o, (w1.alloc o).frozen? ⟨w.heap.size + 1 + 1, 2, none⟩ = false := fun o => (ha o).frozen 2
    have HH := hideIt (And.intro h1 h2)
    have hq := HKR.out.all3
    obtain ⟨q0, q1, q2, g0, g1, g2⟩ := hq
    have lR := HKR.out.lt
    clear ha hb1 h1 h2
    go_wp2
    obtain ⟨k0, k1, k2, _⟩ := ((HKR.out.put3 (.string ⟨#[]⟩) (.string ⟨#[]⟩) (.string ⟨#[]⟩)).old (.cells #[.bool false, .slice none 0 0, .slice none 0 0, .bool false, .slice none 0 0, .slice none 0 0, .bool false, .slice none 0 0, .slice none 0 0] 97)).all3
    have hbf := (Below.put3 HBW.out (g := w.heap.size + 1 + 1) (by omega) (.string ⟨#[]⟩) (.string ⟨#[]⟩) (.string ⟨#[]⟩))
    exact bodyPost_ret (v := .tuple #[.agg #[.string ⟨#[]⟩, .string ⟨#[]⟩, .string ⟨#[]⟩], .int .i64 5]) (by simp [results, Tryz.results17, go_sem, k0, k1, k2]) rfl ⟨hbf.alloc hbf.size _, _, _, _, _, rfl, Or.inl ⟨HH.out.1, HH.out.2, rfl, rfl, rfl, rfl⟩⟩
  · obtain ⟨a, b, c, rfl, hx, hy, hz⟩ := hv1
    have HX := hideIt hx
    have HY := hideIt hy
    have HB1 := hideIt hb1
    clear hx hy hz hb1 hn
    go_wp2_with fail
    obtain ⟨w2, hw2⟩ : ∃ w2, w2 = w1.alloc (.cells #[.bool a.n, .slice a.u a.nu a.cu, .slice a.l a.nl a.cl, .bool b.n, .slice b.u b.nu b.cu, .slice b.l b.nl b.cl, .bool c.n, .slice c.u c.nu c.cu, .slice c.l c.nl c.cl] 97) := ⟨_, rfl⟩
    have hbA := below_new w1 (.cells #[.bool a.n, .slice a.u a.nu a.cu, .slice a.l a.nl a.cl, .bool b.n, .slice b.u b.nu b.cu, .slice b.l b.nl b.cl, .bool c.n, .slice c.u c.nu c.cu, .slice c.l c.nl c.cl] 97)
    have HKG := hideIt (Blk.new w1 #[.bool a.n, .slice a.u a.nu a.cu, .slice a.l a.nl a.cl, .bool b.n, .slice b.u b.nu b.cu, .slice b.l b.nl b.cl, .bool c.n, .slice c.u c.nu c.cu, .slice c.l c.nl c.cl] 97)
    rw [← hw2] at hbA HKG ⊢
    have HBL : Hid (Below W0.heap.size W0 w2) := HB1.out.trans (hbA.mono HB1.out.size)
    have HX2 := hideIt (HX.out.below hbA)
    have HY2 := hideIt (HY.out.below hbA)
    clear hbA hw2
    obtain ⟨G, hG⟩ : ∃ G, G = w1.heap.size := ⟨_, rfl⟩
    rw [← hG] at HKG ⊢
    have HGge : Hid (W0.heap.size ≤ G) := by rw [hG]; exact HB1.out.size
    clear hG
    have HKP := hideIt (HK1.out.below HBL.out (by rw [HSZ.out]; omega))
    have HKR := hideIt (HK2.out.below HBL.out (by rw [HSZ.out]; omega))
    have HTC := hideIt (HTAB.out.below HBL.out)
    have HS : Hid (∀ w', Below w2.heap.size w2 w' → w'.cell? ⟨w.heap.size + 1, 0, none⟩ = some (.string px) ∧ w'.cell? ⟨w.heap.size + 1, 1, none⟩ = some (.string py) ∧ w'.cell? ⟨G, 0, none⟩ = some (.bool a.n) ∧ w'.cell? ⟨G, 1, none⟩ = some (.slice a.u a.nu a.cu) ∧ w'.cell? ⟨G, 2, none⟩ = some (.slice a.l a.nl a.cl) ∧ w'.cell? ⟨G, 3, none⟩ = some (.bool b.n) ∧ w'.cell? ⟨G, 4, none⟩ = some (.slice b.u b.nu b.cu) ∧ w'.cell? ⟨G, 5, none⟩ = some (.slice b.l b.nl b.cl) ∧ w'.cell? ⟨G, 6, none⟩ = some (.bool c.n) ∧ w'.cell? ⟨G, 7, none⟩ = some (.slice c.u c.nu c.cu) ∧ w'.cell? ⟨G, 8, none⟩ = some (.slice c.l c.nl c.cl)) := fun w' hb => ⟨(HKP.out.below hb HKP.out.lt).cell 0, (HKP.out.below hb HKP.out.lt).cell 1, (HKG.out.below hb HKG.out.lt).cell 0, (HKG.out.below hb HKG.out.lt).cell 1, (HKG.out.below hb HKG.out.lt).cell 2, (HKG.out.below hb HKG.out.lt).cell 3, (HKG.out.below hb HKG.out.lt).cell 4, (HKG.out.below hb HKG.out.lt).cell 5, (HKG.out.below hb HKG.out.lt).cell 6, (HKG.out.below hb HKG.out.lt).cell 7, (HKG.out.below hb HKG.out.lt).cell 8⟩
    have HRS : Hid (w.heap.size + 1 + 1 ≠ G) := by
      have := HSZ.out
      have := HGge.out
      show _ ≠ _
      omega
    have HSS : Hid (∀ w', Below w2.heap.size w2 w' → ∀ x0 x1 x2 : Value, (((w'.setCell ⟨w.heap.size + 1 + 1, 0, none⟩ (x0)).setCell ⟨w.heap.size + 1 + 1, 1, none⟩ (x1)).setCell ⟨w.heap.size + 1 + 1, 2, none⟩ (x2)).cell? ⟨w.heap.size + 1, 0, none⟩ = some (.string px) ∧ (((w'.setCell ⟨w.heap.size + 1 + 1, 0, none⟩ (x0)).setCell ⟨w.heap.size + 1 + 1, 1, none⟩ (x1)).setCell ⟨w.heap.size + 1 + 1, 2, none⟩ (x2)).cell? ⟨w.heap.size + 1, 1, none⟩ = some (.string py) ∧ (((w'.setCell ⟨w.heap.size + 1 + 1, 0, none⟩ (x0)).setCell ⟨w.heap.size + 1 + 1, 1, none⟩ (x1)).setCell ⟨w.heap.size + 1 + 1, 2, none⟩ (x2)).cell? ⟨G, 0, none⟩ = some (.bool a.n) ∧ (((w'.setCell ⟨w.heap.size + 1 + 1, 0, none⟩ (x0)).setCell ⟨w.heap.size + 1 + 1, 1, none⟩ (x1)).setCell ⟨w.heap.size + 1 + 1, 2, none⟩ (x2)).cell? ⟨G, 1, none⟩ = some (.slice a.u a.nu a.cu) ∧ (((w'.setCell ⟨w.heap.size + 1 + 1, 0, none⟩ (x0)).setCell ⟨w.heap.size + 1 + 1, 1, none⟩ (x1)).setCell ⟨w.heap.size + 1 + 1, 2, none⟩ (x2)).cell? ⟨G, 2, none⟩ = some (.slice a.l a.nl a.cl) ∧ (((w'.setCell ⟨w.heap.size + 1 + 1, 0, none⟩ (x0)).setCell ⟨w.heap.size + 1 + 1, 1, none⟩ (x1)).setCell ⟨w.heap.size + 1 + 1, 2, none⟩ (x2)).cell? ⟨G, 3, none⟩ = some (.bool b.n) ∧ (((w'.setCell ⟨w.heap.size + 1 + 1, 0, none⟩ (x0)).setCell ⟨w.heap.size + 1 + 1, 1, none⟩ (x1)).setCell ⟨w.heap.size + 1 + 1, 2, none⟩ (x2)).cell? ⟨G, 4, none⟩ = some (.slice b.u b.nu b.cu) ∧ (((w'.setCell ⟨w.heap.size + 1 + 1, 0, none⟩ (x0)).setCell ⟨w.heap.size + 1 + 1, 1, none⟩ (x1)).setCell ⟨w.heap.size + 1 + 1, 2, none⟩ (x2)).cell? ⟨G, 5, none⟩ = some (.slice b.l b.nl b.cl) ∧ (((w'.setCell ⟨w.heap.size + 1 + 1, 0, none⟩ (x0)).setCell ⟨w.heap.size + 1 + 1, 1, none⟩ (x1)).setCell ⟨w.heap.size + 1 + 1, 2, none⟩ (x2)).cell? ⟨G, 6, none⟩ = some (.bool c.n) ∧ (((w'.setCell ⟨w.heap.size + 1 + 1, 0, none⟩ (x0)).setCell ⟨w.heap.size + 1 + 1, 1, none⟩ (x1)).setCell ⟨w.heap.size + 1 + 1, 2, none⟩ (x2)).cell? ⟨G, 7, none⟩ = some (.slice c.u c.nu c.cu) ∧ (((w'.setCell ⟨w.heap.size + 1 + 1, 0, none⟩ (x0)).setCell ⟨w.heap.size + 1 + 1, 1, none⟩ (x1)).setCell ⟨w.heap.size + 1 + 1, 2, none⟩ (x2)).cell? ⟨G, 8, none⟩ = some (.slice c.l c.nl c.cl)) := fun w' hb x0 x1 x2 => ⟨((HKP.out.below hb HKP.out.lt).off3 (g := w.heap.size + 1 + 1) (by omega) x0 x1 x2).cell 0, ((HKP.out.below hb HKP.out.lt).off3 (g := w.heap.size + 1 + 1) (by omega) x0 x1 x2).cell 1, ((HKG.out.below hb HKG.out.lt).off3 (g := w.heap.size + 1 + 1) HRS.out x0 x1 x2).cell 0, ((HKG.out.below hb HKG.out.lt).off3 (g := w.heap.size + 1 + 1) HRS.out x0 x1 x2).cell 1, ((HKG.out.below hb HKG.out.lt).off3 (g := w.heap.size + 1 + 1) HRS.out x0 x1 x2).cell 2, ((HKG.out.below hb HKG.out.lt).off3 (g := w.heap.size + 1 + 1) HRS.out x0 x1 x2).cell 3, ((HKG.out.below hb HKG.out.lt).off3 (g := w.heap.size + 1 + 1) HRS.out x0 x1 x2).cell 4, ((HKG.out.below hb HKG.out.lt).off3 (g := w.heap.size + 1 + 1) HRS.out x0 x1 x2).cell 5, ((HKG.out.below hb HKG.out.lt).off3 (g := w.heap.size + 1 + 1) HRS.out x0 x1 x2).cell 6, ((HKG.out.below hb HKG.out.lt).off3 (g := w.heap.size + 1 + 1) HRS.out x0 x1 x2).cell 7, ((HKG.out.below hb HKG.out.lt).off3 (g := w.heap.size + 1 + 1) HRS.out x0 x1 x2).cell 8⟩
    obtain ⟨z0, z1, z2, z3, z4, z5, z6, z7, z8, z9, z10⟩ := HS.out w2 (Below.refl _ _)
    go_region_held3 (fun w' => w'.cell? ⟨w.heap.size + 1, 0, none⟩ = some (.string px) ∧ w'.cell? ⟨w.heap.size + 1, 1, none⟩ = some (.string py) ∧ w'.cell? ⟨G, 0, none⟩ = some (.bool a.n) ∧ w'.cell? ⟨G, 1, none⟩ = some (.slice a.u a.nu a.cu) ∧ w'.cell? ⟨G, 2, none⟩ = some (.slice a.l a.nl a.cl) ∧ w'.cell? ⟨G, 3, none⟩ = some (.bool b.n) ∧ w'.cell? ⟨G, 4, none⟩ = some (.slice b.u b.nu b.cu) ∧ w'.cell? ⟨G, 5, none⟩ = some (.slice b.l b.nl b.cl) ∧ w'.cell? ⟨G, 6, none⟩ = some (.bool c.n) ∧ w'.cell? ⟨G, 7, none⟩ = some (.slice c.u c.nu c.cu) ∧ w'.cell? ⟨G, 8, none⟩ = some (.slice c.l c.nl c.cl)) (first | go_keep | exact hs3 | exact hs4 | exact hkS)
      (first
        | (go_at_call 62; refine (wayRead_calls (w := w2.drew) ⟨px, py, rfl, rfl, rfl⟩ S4.out S5.out).mono ?_; rintro _ w3 ⟨hb3, v3, rfl, hv3⟩; have hw3 := hv3; obtain ⟨d3, e3, rfl, hx3, hy3⟩ := hw3; have hbl3 : Below w2.heap.size w2 w3 := (Below.drew (Below.refl _ w2)).trans hb3; have hs3 := HS.out w3 hbl3)
        | (go_at_call 63; refine (square_ans hv3 ⟨a, b, rfl, HX2.out.below hbl3, HY2.out.below hbl3⟩ F1.out F2.out F3.out F4.out HK.out (HTC.out.below hbl3)).mono ?_; rintro _ w4 ⟨hb4, sa, sb, sc, z, rfl, hans⟩; have hbl4 := hbl3.trans (hb4.mono hbl3.size); have hs4 := HS.out w4 hbl4; have hkr := HKR.out.below hbl4 HKR.out.lt; obtain ⟨r0, r1, r2, j0, j1, j2⟩ := hkr.all3; have hkS := HSS.out w4 hbl4 (.string sa) (.string sb) (.string sc); have HANS := hideIt hans; clear hans)
        )
    all_goals
      go_wp2
      obtain ⟨k0, k1, k2, _⟩ := (hkr.put3 (.string sa) (.string sb) (.string sc)).all3
      exact bodyPost_ret (v := .tuple #[.agg #[.string sa, .string sb, .string sc], .int .i64 z]) (by simp [results, Tryz.results17, go_sem, k0, k1, k2]) rfl ⟨Below.put3 (HB0.out.trans ((HBL.out.trans (hbl4.mono HBL.out.size)).mono HB0.out.size)) (by omega) _ _ _, sa, sb, sc, z, rfl, HANS.out⟩
theorem beside_calls {w : World} {va vb : Value} {la lb lc px py : List UInt8} (ha : TV va la lb lc) (hb : PV vb px py) (s1 : la.length ≤ 4294967296) (s2 : lb.length ≤ 4294967296) (s3 : lc.length ≤ 4294967296) (s4 : px.length ≤ 4294967296) (s5 : py.length ≤ 4294967296) {k l : Nat} (f1 : QS k (rd la)) (f2 : QS k (rd lb)) (f3 : QS l (rd px)) (f4 : QS l (rd py)) (hk : 20 * (k + l + 1) ≤ 35184372088640) (tab : Tab w) :
    Calls Tryz.prog 17 #[va, vb] w fun e w' => Below w.heap.size w w' ∧ ∃ (sa sb sc : ByteArray) (z : Int), e = .returned (.tuple #[.agg #[.string sa, .string sb, .string sc], .int .i64 z]) ∧ LineAns (rd la) (rd lb) (-(rd la * rd px + rd lb * rd py)) sa.data.toList sb.data.toList sc.data.toList z := by
  obtain ⟨a, b, c, rfl, rfl, rfl, rfl⟩ := ha
  obtain ⟨d, e, rfl, rfl, rfl⟩ := hb
  exact beside_walk s1 s2 s3 s4 s5 f1 f2 f3 f4 hk tab
end Go.Proofs.YtgajdmadbdbabaaGreatDoor
