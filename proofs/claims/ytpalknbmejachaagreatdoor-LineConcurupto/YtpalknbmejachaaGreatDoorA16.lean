/- Part 16 of the walks of the packages num, way, ruler, line and plane, and of the mathematics under them: WBT WSD RQ. -/
import Derived.Test.YtpalknbmejachaaGreatDoorA15
import Derived.Test.YtpalknbmejachaaGreatDoorA14
import Derived.Test.YtpalknbmejachaaGreatDoorA10
/- Walks of package line: Between. -/
namespace Go.Proofs.YtpalknbmejachaaGreatDoor
open Go.RowKit Cx

attribute [local go_sem ↓] Go.wp_at_zero Go.wp_at_succ

theorem WRow.below {w w' : World} {v : Value} {ps : List (Rat × Rat)} (h : WRow w v ps) (hb : Below w.heap.size w w') : WRow w' v ps := by
  obtain ⟨b, off, cap, e, hlt, h⟩ := h
  refine ⟨b, off, cap, e, Nat.lt_of_lt_of_le hlt hb.size, fun j hj => ?_⟩
  obtain ⟨c, d, h0, h1, h2, h3, h4, h5, h6, h7⟩ := h j hj
  exact ⟨c, d, (hb.cell (p := ⟨b, off + j * 6, none⟩) hlt).trans h0, (hb.cell (p := ⟨b, off + j * 6 + 1, none⟩) hlt).trans h1, (hb.cell (p := ⟨b, off + j * 6 + 2, none⟩) hlt).trans h2, (hb.cell (p := ⟨b, off + j * 6 + 3, none⟩) hlt).trans h3, (hb.cell (p := ⟨b, off + j * 6 + 4, none⟩) hlt).trans h4, (hb.cell (p := ⟨b, off + j * 6 + 5, none⟩) hlt).trans h5, h6.below hb, h7.below hb⟩
theorem bel_bel' {a b c : World} (h : Below a.heap.size a b) (k : Below b.heap.size b c) : Below a.heap.size a c := h.trans (k.mono h.size)

set_option maxHeartbeats 8000000 in
set_option maxRecDepth 100000 in
theorem between2_walk {w : World} {px py qx qy : ByteArray} (s1 : px.data.toList.length ≤ 1048576) (s2 : py.data.toList.length ≤ 1048576) (s3 : qx.data.toList.length ≤ 1048576) (s4 : qy.data.toList.length ≤ 1048576) (tab : Tab w) :
    Calls Tryz.prog 37 #[.agg #[.string px, .string py], .agg #[.string qx, .string qy]] w fun e w' => Below w.heap.size w w' ∧ ∃ (sa sb sc : ByteArray) (z : Int), e = .returned (.tuple #[.agg #[.string sa, .string sb, .string sc], .int .i64 z]) ∧ LineAns (rd qx.data.toList - rd px.data.toList) (rd qy.data.toList - rd py.data.toList) (-((rd qx.data.toList - rd px.data.toList) * ((rd px.data.toList + rd qx.data.toList) / ((2 : Nat) : Rat)) + (rd qy.data.toList - rd py.data.toList) * ((rd py.data.toList + rd qy.data.toList) / ((2 : Nat) : Rat)))) sa.data.toList sb.data.toList sc.data.toList z := by
  obtain ⟨hb0, hk0, hk1, hk2, hsz⟩ := boxes3 w #[.string px, .string py] #[.string qx, .string qy] #[.string ⟨#[]⟩, .string ⟨#[]⟩, .string ⟨#[]⟩] 24 24 53
  have HB0 := hideIt hb0
  have HSZ := hideIt hsz
  have HK0 := hideIt hk0
  have HK1 := hideIt hk1
  have HK2 := hideIt hk2
  have HTAB := hideIt (tab.below hb0)
  have S1 := hideIt s1
  have S2 := hideIt s2
  have S3 := hideIt s3
  have S4 := hideIt s4
  have L1 : Hid (px.data.toList.length ≤ 4294967296) := by have := S1.out; show _ ≤ _; omega
  have L2 : Hid (py.data.toList.length ≤ 4294967296) := by have := S2.out; show _ ≤ _; omega
  have L3 : Hid (qx.data.toList.length ≤ 4294967296) := by have := S3.out; show _ ≤ _; omega
  have L4 : Hid (qy.data.toList.length ≤ 4294967296) := by have := S4.out; show _ ≤ _; omega
  clear hb0 hsz hk0 hk1 hk2 tab s1 s2 s3 s4
  go_enter Tryz.func37, Tryz.ntmps37
  go_wp2_with fail
  generalize (((w.alloc (.cells #[.string px, .string py] 24)).alloc (.cells #[.string qx, .string qy] 24)).alloc (.cells #[.string ⟨#[]⟩, .string ⟨#[]⟩, .string ⟨#[]⟩] 53)) = W0 at *
  have HS : Hid (∀ w', Below W0.heap.size W0 w' → w'.cell? ⟨w.heap.size, 0, none⟩ = some (.string px) ∧ w'.cell? ⟨w.heap.size, 1, none⟩ = some (.string py) ∧ w'.cell? ⟨w.heap.size + 1, 0, none⟩ = some (.string qx) ∧ w'.cell? ⟨w.heap.size + 1, 1, none⟩ = some (.string qy)) := fun w' hb => ⟨(HK0.out.below hb (by rw [HSZ.out]; omega)).cell 0, (HK0.out.below hb (by rw [HSZ.out]; omega)).cell 1, (HK1.out.below hb (by rw [HSZ.out]; omega)).cell 0, (HK1.out.below hb (by rw [HSZ.out]; omega)).cell 1⟩
  obtain ⟨z0, z1, z2, z3⟩ := HS.out W0 (Below.refl _ _)
  go_cut [6, 7] from 8 (fun p q wc => Two W0 p q wc (rd px.data.toList) (rd py.data.toList) (rd qx.data.toList) (rd qy.data.toList))
  case first =>
    go_region_held3 (fun w' => w'.cell? ⟨w.heap.size, 0, none⟩ = some (.string px) ∧ w'.cell? ⟨w.heap.size, 1, none⟩ = some (.string py) ∧ w'.cell? ⟨w.heap.size + 1, 0, none⟩ = some (.string qx) ∧ w'.cell? ⟨w.heap.size + 1, 1, none⟩ = some (.string qy)) ((refine HS.out _ ?_; repeat' (first | with_reducible exact hbl2 | with_reducible exact hbl1 | with_reducible exact Below.refl _ _ | with_reducible refine Below.drew ?_ | with_reducible refine Below.alloc ?_ ?_ _ | with_reducible refine Below.put6 ?_ ?_ _ _ _ _ _ _ | (simp; done) | (simp; omega) | omega)))
      (first
        | (go_at_call_of 62 (Value.agg #[Value.string px, Value.string py]); refine (wayRead_calls ⟨px, py, rfl, rfl, rfl⟩ L1.out L2.out).mono ?_; rintro e w1 ⟨hb1, v1, rfl, hv1⟩; obtain ⟨d1, e1, rfl, hx1, hy1⟩ := hv1; (first | (have hbl1 : Below W0.heap.size W0 w1 := (Below.drew (Below.refl _ W0)).trans hb1) | (have hbl1 : Below W0.heap.size W0 w1 := (Below.drew (below_new W0 (.cells #[.bool false, .slice none 0 0, .slice none 0 0, .bool false, .slice none 0 0, .slice none 0 0] 72))).trans (hb1.mono (Nat.le_of_lt (Blk.new W0 #[.bool false, .slice none 0 0, .slice none 0 0, .bool false, .slice none 0 0, .slice none 0 0] 72).lt)); have hA1 := (show Blk (W0.alloc (.cells #[.bool false, .slice none 0 0, .slice none 0 0, .bool false, .slice none 0 0, .slice none 0 0] 72)).drew W0.heap.size #[.bool false, .slice none 0 0, .slice none 0 0, .bool false, .slice none 0 0, .slice none 0 0] 72 from Blk.new W0 #[.bool false, .slice none 0 0, .slice none 0 0, .bool false, .slice none 0 0, .slice none 0 0] 72).below hb1 (Blk.new W0 #[.bool false, .slice none 0 0, .slice none 0 0, .bool false, .slice none 0 0, .slice none 0 0] 72).lt) | (have hbl1 : Below W0.heap.size W0 w1 := (Below.drew (boxes2 W0 #[.bool false, .slice none 0 0, .slice none 0 0, .bool false, .slice none 0 0, .slice none 0 0] #[.bool false, .slice none 0 0, .slice none 0 0, .bool false, .slice none 0 0, .slice none 0 0] 72 72).1).trans (hb1.mono (boxes2 W0 #[.bool false, .slice none 0 0, .slice none 0 0, .bool false, .slice none 0 0, .slice none 0 0] #[.bool false, .slice none 0 0, .slice none 0 0, .bool false, .slice none 0 0, .slice none 0 0] 72 72).1.size); have hA1 := (show Blk ((W0.alloc (.cells #[.bool false, .slice none 0 0, .slice none 0 0, .bool false, .slice none 0 0, .slice none 0 0] 72)).alloc (.cells #[.bool false, .slice none 0 0, .slice none 0 0, .bool false, .slice none 0 0, .slice none 0 0] 72)).drew W0.heap.size #[.bool false, .slice none 0 0, .slice none 0 0, .bool false, .slice none 0 0, .slice none 0 0] 72 from (boxes2 W0 #[.bool false, .slice none 0 0, .slice none 0 0, .bool false, .slice none 0 0, .slice none 0 0] #[.bool false, .slice none 0 0, .slice none 0 0, .bool false, .slice none 0 0, .slice none 0 0] 72 72).2.1).below hb1 (boxes2 W0 #[.bool false, .slice none 0 0, .slice none 0 0, .bool false, .slice none 0 0, .slice none 0 0] #[.bool false, .slice none 0 0, .slice none 0 0, .bool false, .slice none 0 0, .slice none 0 0] 72 72).2.1.lt; have hB1 := (show Blk ((W0.alloc (.cells #[.bool false, .slice none 0 0, .slice none 0 0, .bool false, .slice none 0 0, .slice none 0 0] 72)).alloc (.cells #[.bool false, .slice none 0 0, .slice none 0 0, .bool false, .slice none 0 0, .slice none 0 0] 72)).drew (W0.heap.size + 1) #[.bool false, .slice none 0 0, .slice none 0 0, .bool false, .slice none 0 0, .slice none 0 0] 72 from (boxes2 W0 #[.bool false, .slice none 0 0, .slice none 0 0, .bool false, .slice none 0 0, .slice none 0 0] #[.bool false, .slice none 0 0, .slice none 0 0, .bool false, .slice none 0 0, .slice none 0 0] 72 72).2.2.1).below hb1 (boxes2 W0 #[.bool false, .slice none 0 0, .slice none 0 0, .bool false, .slice none 0 0, .slice none 0 0] #[.bool false, .slice none 0 0, .slice none 0 0, .bool false, .slice none 0 0, .slice none 0 0] 72 72).2.2.1.lt)); have hz1 := hbl1.size)
        | (go_at_call_of 62 (Value.agg #[Value.string qx, Value.string qy]); refine (wayRead_calls ⟨qx, qy, rfl, rfl, rfl⟩ L3.out L4.out).mono ?_; rintro e w2 ⟨hb2, v2, rfl, hv2⟩; obtain ⟨d2, e2, rfl, hx2, hy2⟩ := hv2; (first | (have hc2 : Below w1.heap.size w1 w2 := hb2) | (have hc2 : Below w1.heap.size w1 w2 := (below_new w1 (.cells #[.bool false, .slice none 0 0, .slice none 0 0, .bool false, .slice none 0 0, .slice none 0 0] 72)).trans (hb2.mono (Nat.le_of_lt (Blk.new w1 #[.bool false, .slice none 0 0, .slice none 0 0, .bool false, .slice none 0 0, .slice none 0 0] 72).lt)); have hC2 := (Blk.new w1 #[.bool false, .slice none 0 0, .slice none 0 0, .bool false, .slice none 0 0, .slice none 0 0] 72).below hb2 (Blk.new w1 #[.bool false, .slice none 0 0, .slice none 0 0, .bool false, .slice none 0 0, .slice none 0 0] 72).lt) | (have hc2 : Below w1.heap.size w1 w2 := (boxes2 w1 #[.bool false, .slice none 0 0, .slice none 0 0, .bool false, .slice none 0 0, .slice none 0 0] #[.bool false, .slice none 0 0, .slice none 0 0, .bool false, .slice none 0 0, .slice none 0 0] 72 72).1.trans (hb2.mono (boxes2 w1 #[.bool false, .slice none 0 0, .slice none 0 0, .bool false, .slice none 0 0, .slice none 0 0] #[.bool false, .slice none 0 0, .slice none 0 0, .bool false, .slice none 0 0, .slice none 0 0] 72 72).1.size); have hC2 := (boxes2 w1 #[.bool false, .slice none 0 0, .slice none 0 0, .bool false, .slice none 0 0, .slice none 0 0] #[.bool false, .slice none 0 0, .slice none 0 0, .bool false, .slice none 0 0, .slice none 0 0] 72 72).2.1.below hb2 (boxes2 w1 #[.bool false, .slice none 0 0, .slice none 0 0, .bool false, .slice none 0 0, .slice none 0 0] #[.bool false, .slice none 0 0, .slice none 0 0, .bool false, .slice none 0 0, .slice none 0 0] 72 72).2.1.lt; have hD2 := (boxes2 w1 #[.bool false, .slice none 0 0, .slice none 0 0, .bool false, .slice none 0 0, .slice none 0 0] #[.bool false, .slice none 0 0, .slice none 0 0, .bool false, .slice none 0 0, .slice none 0 0] 72 72).2.2.1.below hb2 (boxes2 w1 #[.bool false, .slice none 0 0, .slice none 0 0, .bool false, .slice none 0 0, .slice none 0 0] #[.bool false, .slice none 0 0, .slice none 0 0, .bool false, .slice none 0 0, .slice none 0 0] 72 72).2.2.1.lt)); have hbl2 := hbl1.trans (hc2.mono hz1); have hz2 := hc2.size; (try have hA2 := hA1.below hc2 hA1.lt); (try have hB2 := hB1.below hc2 hB1.lt); (try have lA1 := hA1.lt); (try have lB1 := hB1.lt); (try have lA2 := hA2.lt); (try have lB2 := hB2.lt); (try have lC2 := hC2.lt); (try have lD2 := hD2.lt); (try obtain ⟨ra0, ra1, ra2, ra3, ra4, ra5, ra6, ra7, ra8, ra9, ra10, ra11⟩ := hA2.all6); (try obtain ⟨rb0, rb1, rb2, rb3, rb4, rb5, rb6, rb7, rb8, rb9, rb10, rb11⟩ := hB2.all6); (try obtain ⟨rc0, rc1, rc2, rc3, rc4, rc5, rc6, rc7, rc8, rc9, rc10, rc11⟩ := hC2.all6); (try obtain ⟨re0, re1, re2, re3, re4, re5, re6, re7, re8, re9, re10, re11⟩ := hD2.all6))
        )
    all_goals
      go_wp2_with fail
      go_meet
      first
        | with_reducible exact Two.new hbl2 (hx1.below hc2) (hy1.below hc2) hx2 hy2
        | with_reducible exact Two.new' hbl2 (hx1.below hc2) (hy1.below hc2) hx2 hy2
        | with_reducible exact Two.half hA2 (Nat.le_refl _) hbl2 (hx1.below hc2) (hy1.below hc2) hx2 hy2
        | with_reducible exact Two.half' hA2 (Nat.le_refl _) hbl2 (hx1.below hc2) (hy1.below hc2) hx2 hy2
        | with_reducible exact Two.half hC2 hz1 hbl2 (hx1.below hc2) (hy1.below hc2) hx2 hy2
        | with_reducible exact Two.half' hC2 hz1 hbl2 (hx1.below hc2) (hy1.below hc2) hx2 hy2
        | with_reducible exact Two.both hA2 hB2 (Nat.ne_of_lt (Nat.lt_succ_self _)) (Nat.le_refl _) (Nat.le_succ _) hbl2 (hx1.below hc2) (hy1.below hc2) hx2 hy2
        | with_reducible exact Two.both hB2 hA2 (Nat.ne_of_gt (Nat.lt_succ_self _)) (Nat.le_succ _) (Nat.le_refl _) hbl2 (hx1.below hc2) (hy1.below hc2) hx2 hy2
        | with_reducible exact Two.both hA2 hC2 (Nat.ne_of_lt lA1) (Nat.le_refl _) hz1 hbl2 (hx1.below hc2) (hy1.below hc2) hx2 hy2
        | with_reducible exact Two.both hC2 hA2 (Nat.ne_of_gt lA1) hz1 (Nat.le_refl _) hbl2 (hx1.below hc2) (hy1.below hc2) hx2 hy2
        | with_reducible exact Two.both hC2 hD2 (Nat.ne_of_lt (Nat.lt_succ_self _)) hz1 (Nat.le_succ_of_le hz1) hbl2 (hx1.below hc2) (hy1.below hc2) hx2 hy2
        | with_reducible exact Two.both hD2 hC2 (Nat.ne_of_gt (Nat.lt_succ_self _)) (Nat.le_succ_of_le hz1) hz1 hbl2 (hx1.below hc2) (hy1.below hc2) hx2 hy2
  case rest =>
    obtain ⟨G, H, rfl, rfl, hG, hH, hbl, d, e, f, g, hkG, hkH, hx, hy, hz, ht⟩ := hcut
    have HKG := hideIt hkG
    have HKH := hideIt hkH
    have HX := hideIt hx
    have HY := hideIt hy
    have HZ := hideIt hz
    have HT := hideIt ht
    have HBL := hideIt hbl
    have F1 : Hid (QS 4194309 (rd px.data.toList)) := (QS.rd _).mono (by have := S1.out; omega)
    have F2 : Hid (QS 4194309 (rd py.data.toList)) := (QS.rd _).mono (by have := S2.out; omega)
    have F3 : Hid (QS 4194309 (rd qx.data.toList)) := (QS.rd _).mono (by have := S3.out; omega)
    have F4 : Hid (QS 4194309 (rd qy.data.toList)) := (QS.rd _).mono (by have := S4.out; omega)
    have F5 : Hid (QS (4194309 + 4194309 + 1) (rd qx.data.toList - rd px.data.toList)) := F3.out.sub F1.out
    have F6 : Hid (QS (4194309 + 4194309 + 1) (rd qy.data.toList - rd py.data.toList)) := F4.out.sub F2.out
    have A1 : Hid (∀ q ∈ [(rd px.data.toList, rd py.data.toList), (rd qx.data.toList, rd qy.data.toList)].map Prod.fst, QS 4194309 q) := all2 F1.out F3.out
    have A2 : Hid (∀ q ∈ [(rd px.data.toList, rd py.data.toList), (rd qx.data.toList, rd qy.data.toList)].map Prod.snd, QS 4194309 q) := all2 F2.out F4.out
    have F7 : Hid (QS (4194309 + 4194309 + 1 + 8) ((rd px.data.toList + rd qx.data.toList) / ((2 : Nat) : Rat))) := (F1.out.add F3.out).div (⟨by decide, by decide⟩ : QS 8 ((2 : Nat) : Rat))
    have F8 : Hid (QS (4194309 + 4194309 + 1 + 8) ((rd py.data.toList + rd qy.data.toList) / ((2 : Nat) : Rat))) := (F2.out.add F4.out).div (⟨by decide, by decide⟩ : QS 8 ((2 : Nat) : Rat))
    have K1 : Hid (4194309 + 4194309 + 1 ≤ 35184372088640) := by show _ ≤ _; omega
    have K2 : Hid (20 * (4194309 + 4194309 + 1 + (4194309 + 4194309 + 1 + 8) + 1) ≤ 35184372088640) := by show _ ≤ _; omega
    have K3 : Hid (4194309 + 4194309 + 1 + 8 + 1 ≤ 35184372088640) := by show _ ≤ _; omega
    have HTC := hideIt (HTAB.out.below hbl)
    have HSA : Hid True := trivial
    have HS2 : Hid (∀ w', Below wc.heap.size wc w' → w'.cell? ⟨G, 0, none⟩ = some (.bool d.n) ∧ w'.cell? ⟨G, 1, none⟩ = some (.slice d.u d.nu d.cu) ∧ w'.cell? ⟨G, 2, none⟩ = some (.slice d.l d.nl d.cl) ∧ w'.cell? ⟨G, 3, none⟩ = some (.bool e.n) ∧ w'.cell? ⟨G, 4, none⟩ = some (.slice e.u e.nu e.cu) ∧ w'.cell? ⟨G, 5, none⟩ = some (.slice e.l e.nl e.cl) ∧ w'.cell? ⟨H, 0, none⟩ = some (.bool f.n) ∧ w'.cell? ⟨H, 1, none⟩ = some (.slice f.u f.nu f.cu) ∧ w'.cell? ⟨H, 2, none⟩ = some (.slice f.l f.nl f.cl) ∧ w'.cell? ⟨H, 3, none⟩ = some (.bool g.n) ∧ w'.cell? ⟨H, 4, none⟩ = some (.slice g.u g.nu g.cu) ∧ w'.cell? ⟨H, 5, none⟩ = some (.slice g.l g.nl g.cl)) := fun w' hb => ⟨(HKG.out.below hb HKG.out.lt).cell 0, (HKG.out.below hb HKG.out.lt).cell 1, (HKG.out.below hb HKG.out.lt).cell 2, (HKG.out.below hb HKG.out.lt).cell 3, (HKG.out.below hb HKG.out.lt).cell 4, (HKG.out.below hb HKG.out.lt).cell 5, (HKH.out.below hb HKH.out.lt).cell 0, (HKH.out.below hb HKH.out.lt).cell 1, (HKH.out.below hb HKH.out.lt).cell 2, (HKH.out.below hb HKH.out.lt).cell 3, (HKH.out.below hb HKH.out.lt).cell 4, (HKH.out.below hb HKH.out.lt).cell 5⟩
    have HRS : Hid (w.heap.size + 1 + 1 ≠ G ∧ w.heap.size + 1 + 1 ≠ H) := by
      have := HSZ.out
      show _ ∧ _
      omega
    have HSS2 : Hid (∀ w', Below wc.heap.size wc w' → ∀ x0 x1 x2 : Value, (((w'.setCell ⟨w.heap.size + 1 + 1, 0, none⟩ (x0)).setCell ⟨w.heap.size + 1 + 1, 1, none⟩ (x1)).setCell ⟨w.heap.size + 1 + 1, 2, none⟩ (x2)).cell? ⟨G, 0, none⟩ = some (.bool d.n) ∧ (((w'.setCell ⟨w.heap.size + 1 + 1, 0, none⟩ (x0)).setCell ⟨w.heap.size + 1 + 1, 1, none⟩ (x1)).setCell ⟨w.heap.size + 1 + 1, 2, none⟩ (x2)).cell? ⟨G, 1, none⟩ = some (.slice d.u d.nu d.cu) ∧ (((w'.setCell ⟨w.heap.size + 1 + 1, 0, none⟩ (x0)).setCell ⟨w.heap.size + 1 + 1, 1, none⟩ (x1)).setCell ⟨w.heap.size + 1 + 1, 2, none⟩ (x2)).cell? ⟨G, 2, none⟩ = some (.slice d.l d.nl d.cl) ∧ (((w'.setCell ⟨w.heap.size + 1 + 1, 0, none⟩ (x0)).setCell ⟨w.heap.size + 1 + 1, 1, none⟩ (x1)).setCell ⟨w.heap.size + 1 + 1, 2, none⟩ (x2)).cell? ⟨G, 3, none⟩ = some (.bool e.n) ∧ (((w'.setCell ⟨w.heap.size + 1 + 1, 0, none⟩ (x0)).setCell ⟨w.heap.size + 1 + 1, 1, none⟩ (x1)).setCell ⟨w.heap.size + 1 + 1, 2, none⟩ (x2)).cell? ⟨G, 4, none⟩ = some (.slice e.u e.nu e.cu) ∧ (((w'.setCell ⟨w.heap.size + 1 + 1, 0, none⟩ (x0)).setCell ⟨w.heap.size + 1 + 1, 1, none⟩ (x1)).setCell ⟨w.heap.size + 1 + 1, 2, none⟩ (x2)).cell? ⟨G, 5, none⟩ = some (.slice e.l e.nl e.cl) ∧ (((w'.setCell ⟨w.heap.size + 1 + 1, 0, none⟩ (x0)).setCell ⟨w.heap.size + 1 + 1, 1, none⟩ (x1)).setCell ⟨w.heap.size + 1 + 1, 2, none⟩ (x2)).cell? ⟨H, 0, none⟩ = some (.bool f.n) ∧ (((w'.setCell ⟨w.heap.size + 1 + 1, 0, none⟩ (x0)).setCell ⟨w.heap.size + 1 + 1, 1, none⟩ (x1)).setCell ⟨w.heap.size + 1 + 1, 2, none⟩ (x2)).cell? ⟨H, 1, none⟩ = some (.slice f.u f.nu f.cu) ∧ (((w'.setCell ⟨w.heap.size + 1 + 1, 0, none⟩ (x0)).setCell ⟨w.heap.size + 1 + 1, 1, none⟩ (x1)).setCell ⟨w.heap.size + 1 + 1, 2, none⟩ (x2)).cell? ⟨H, 2, none⟩ = some (.slice f.l f.nl f.cl) ∧ (((w'.setCell ⟨w.heap.size + 1 + 1, 0, none⟩ (x0)).setCell ⟨w.heap.size + 1 + 1, 1, none⟩ (x1)).setCell ⟨w.heap.size + 1 + 1, 2, none⟩ (x2)).cell? ⟨H, 3, none⟩ = some (.bool g.n) ∧ (((w'.setCell ⟨w.heap.size + 1 + 1, 0, none⟩ (x0)).setCell ⟨w.heap.size + 1 + 1, 1, none⟩ (x1)).setCell ⟨w.heap.size + 1 + 1, 2, none⟩ (x2)).cell? ⟨H, 4, none⟩ = some (.slice g.u g.nu g.cu) ∧ (((w'.setCell ⟨w.heap.size + 1 + 1, 0, none⟩ (x0)).setCell ⟨w.heap.size + 1 + 1, 1, none⟩ (x1)).setCell ⟨w.heap.size + 1 + 1, 2, none⟩ (x2)).cell? ⟨H, 5, none⟩ = some (.slice g.l g.nl g.cl)) := fun w' hb x0 x1 x2 => ⟨((HKG.out.below hb HKG.out.lt).off3 (g := w.heap.size + 1 + 1) HRS.out.1 x0 x1 x2).cell 0, ((HKG.out.below hb HKG.out.lt).off3 (g := w.heap.size + 1 + 1) HRS.out.1 x0 x1 x2).cell 1, ((HKG.out.below hb HKG.out.lt).off3 (g := w.heap.size + 1 + 1) HRS.out.1 x0 x1 x2).cell 2, ((HKG.out.below hb HKG.out.lt).off3 (g := w.heap.size + 1 + 1) HRS.out.1 x0 x1 x2).cell 3, ((HKG.out.below hb HKG.out.lt).off3 (g := w.heap.size + 1 + 1) HRS.out.1 x0 x1 x2).cell 4, ((HKG.out.below hb HKG.out.lt).off3 (g := w.heap.size + 1 + 1) HRS.out.1 x0 x1 x2).cell 5, ((HKH.out.below hb HKH.out.lt).off3 (g := w.heap.size + 1 + 1) HRS.out.2 x0 x1 x2).cell 0, ((HKH.out.below hb HKH.out.lt).off3 (g := w.heap.size + 1 + 1) HRS.out.2 x0 x1 x2).cell 1, ((HKH.out.below hb HKH.out.lt).off3 (g := w.heap.size + 1 + 1) HRS.out.2 x0 x1 x2).cell 2, ((HKH.out.below hb HKH.out.lt).off3 (g := w.heap.size + 1 + 1) HRS.out.2 x0 x1 x2).cell 3, ((HKH.out.below hb HKH.out.lt).off3 (g := w.heap.size + 1 + 1) HRS.out.2 x0 x1 x2).cell 4, ((HKH.out.below hb HKH.out.lt).off3 (g := w.heap.size + 1 + 1) HRS.out.2 x0 x1 x2).cell 5⟩
    have HKR := hideIt (HK2.out.below hbl (by rw [HSZ.out]; omega))
    clear hkG hkH hx hy hz ht hbl hG hH z0 z1 z2 z3
    obtain ⟨z0, z1, z2, z3, z4, z5, z6, z7, z8, z9, z10, z11⟩ := HS2.out wc (Below.refl _ _)
    go_wp2_with fail
    go_region_held3 (fun w' => w'.cell? ⟨G, 0, none⟩ = some (.bool d.n) ∧ w'.cell? ⟨G, 1, none⟩ = some (.slice d.u d.nu d.cu) ∧ w'.cell? ⟨G, 2, none⟩ = some (.slice d.l d.nl d.cl) ∧ w'.cell? ⟨G, 3, none⟩ = some (.bool e.n) ∧ w'.cell? ⟨G, 4, none⟩ = some (.slice e.u e.nu e.cu) ∧ w'.cell? ⟨G, 5, none⟩ = some (.slice e.l e.nl e.cl) ∧ w'.cell? ⟨H, 0, none⟩ = some (.bool f.n) ∧ w'.cell? ⟨H, 1, none⟩ = some (.slice f.u f.nu f.cu) ∧ w'.cell? ⟨H, 2, none⟩ = some (.slice f.l f.nl f.cl) ∧ w'.cell? ⟨H, 3, none⟩ = some (.bool g.n) ∧ w'.cell? ⟨H, 4, none⟩ = some (.slice g.u g.nu g.cu) ∧ w'.cell? ⟨H, 5, none⟩ = some (.slice g.l g.nl g.cl)) (first | go_keep | exact hs1 | exact hs2 | exact hs3 | exact hs4 | exact hs5 | exact hsA | exact hkS)
      (first
        | (go_at_call 61; refine (waySum_calls (w := (wc.alloc (.cells #[.bool d.n, .slice d.u d.nu d.cu, .slice d.l d.nl d.cl, .bool e.n, .slice e.u e.nu e.cu, .slice e.l e.nl e.cl, .bool f.n, .slice f.u f.nu f.cu, .slice f.l f.nl f.cl, .bool g.n, .slice g.u g.nu g.cu, .slice g.l g.nl g.cl] 72)).drew) ((wrow2 HX.out HY.out HZ.out HT.out).below (Below.drew (Below.refl _ _))) A1.out A2.out (by simp) (by simp only [List.length_cons, List.length_nil]; omega)).mono ?_; rintro _ w1 ⟨hb1, v1, rfl, hv1⟩; rw [show rsum ([(rd px.data.toList, rd py.data.toList), (rd qx.data.toList, rd qy.data.toList)].map Prod.fst) = rd px.data.toList + rd qx.data.toList from rsum2 _ _, show rsum ([(rd px.data.toList, rd py.data.toList), (rd qx.data.toList, rd qy.data.toList)].map Prod.snd) = rd py.data.toList + rd qy.data.toList from rsum2 _ _] at hv1; have hw1 := hv1; obtain ⟨d1, e1, rfl, hx1, hy1⟩ := hw1; have hbl1 : Below wc.heap.size wc w1 := bel_bel' (Below.drew (below_new wc (.cells #[.bool d.n, .slice d.u d.nu d.cu, .slice d.l d.nl d.cl, .bool e.n, .slice e.u e.nu e.cu, .slice e.l e.nl e.cl, .bool f.n, .slice f.u f.nu f.cu, .slice f.l f.nl f.cl, .bool g.n, .slice g.u g.nu g.cu, .slice g.l g.nl g.cl] 72))) hb1; have hs1 := HS2.out w1 hbl1)
        | (go_at_call 73; refine (int_calls 2 (by decide) w1).mono ?_; rintro _ w2 ⟨hb2, v2, rfl, hv2⟩; obtain ⟨d2, rfl⟩ := qv_open hv2; have hbl2 := bel_bel' hbl1 hb2; have hs2 := HS2.out w2 hbl2)
        | (go_at_call 79; refine (wayOver_calls (hv1.below hb2) hv2 (F1.out.add F3.out) (F2.out.add F4.out) (⟨by decide, by decide⟩ : QS 8 ((2 : Nat) : Rat)) K3.out).mono ?_; rintro _ w3 ⟨hb3, v3, rfl, hv3⟩; have hw3 := hv3; obtain ⟨d3, e3, rfl, hx3, hy3⟩ := hw3; have hbl3 := bel_bel' hbl2 hb3; have hs3 := HS2.out w3 hbl3)
        | (go_at_call 80; refine (wayMinus_calls (w := w3) ⟨f, g, rfl, HZ.out.below hbl3, HT.out.below hbl3⟩ ⟨d, e, rfl, HX.out.below hbl3, HY.out.below hbl3⟩ F3.out F4.out F1.out F2.out K1.out).mono ?_; rintro _ w4 ⟨hb4, v4, rfl, hv4⟩; have hw4 := hv4; obtain ⟨d4, e4, rfl, hx4, hy4⟩ := hw4; have hbl4 := bel_bel' hbl3 hb4; have hs4 := HS2.out w4 hbl4)
        | (go_at_call 78; refine (square_ans (hv3.below hb4) hv4 F5.out F6.out F7.out F8.out K2.out (HTC.out.below hbl4)).mono ?_; rintro _ w5 ⟨hb5, sa, sb, sc, z, rfl, hans⟩; have hbl5 := bel_bel' hbl4 hb5; have hs5 := HS2.out w5 hbl5; have hkr := HKR.out.below hbl5 HKR.out.lt; obtain ⟨r0, r1, r2, j0, j1, j2⟩ := hkr.all3; have hkS := HSS2.out w5 hbl5 (.string sa) (.string sb) (.string sc); have HANS := hideIt hans; clear hans)
        )
    all_goals
      go_wp2
      obtain ⟨k0, k1, k2, _⟩ := (hkr.put3 (.string sa) (.string sb) (.string sc)).all3
      exact bodyPost_ret (v := .tuple #[.agg #[.string sa, .string sb, .string sc], .int .i64 z]) (by simp [results, Tryz.results37, go_sem, k0, k1, k2]) rfl ⟨Below.put3 (HB0.out.trans ((HBL.out.trans (hbl5.mono HBL.out.size)).mono HB0.out.size)) (by omega) _ _ _, sa, sb, sc, z, rfl, HANS.out⟩

/-- Between: all points as far from one as from the other. -/
theorem between2_calls {w : World} {va vb : Value} {px py qx qy : List UInt8} (ha : PV va px py) (hb : PV vb qx qy) (s1 : px.length ≤ 1048576) (s2 : py.length ≤ 1048576) (s3 : qx.length ≤ 1048576) (s4 : qy.length ≤ 1048576) (tab : Tab w) :
    Calls Tryz.prog 37 #[va, vb] w fun e w' => Below w.heap.size w w' ∧ ∃ (sa sb sc : ByteArray) (z : Int), e = .returned (.tuple #[.agg #[.string sa, .string sb, .string sc], .int .i64 z]) ∧ LineAns (rd qx - rd px) (rd qy - rd py) (-((rd qx - rd px) * ((rd px + rd qx) / ((2 : Nat) : Rat)) + (rd qy - rd py) * ((rd py + rd qy) / ((2 : Nat) : Rat)))) sa.data.toList sb.data.toList sc.data.toList z := by
  obtain ⟨a, b, rfl, rfl, rfl⟩ := ha
  obtain ⟨c, d, rfl, rfl, rfl⟩ := hb
  exact between2_walk s1 s2 s3 s4 tab
end Go.Proofs.YtpalknbmejachaaGreatDoor
/- Walks: Side of lines. -/
namespace Go.Proofs.YtpalknbmejachaaGreatDoor
open Go.RowKit Cx

attribute [local go_sem ↓] Go.wp_at_zero Go.wp_at_succ

/-- The sign of a number. -/
def sg3 (q : Rat) : Int := if q.num = 0 then 0 else if q.num < 0 then -1 else 1
theorem sg3_zero {q : Rat} : sg3 q = 0 ↔ q = 0 := by
  unfold sg3
  rw [← Rat.num_eq_zero]
  split
  · simp [*]
  · split <;> simp [*]
theorem sg3_wrap {p q : Rat} {s t : Int} (hs : s = sg3 p) (ht : t = sg3 q) : IntKind.i64.wrap (s * t) = s * t := by
  subst hs ht
  unfold sg3
  split <;> split <;> (try split) <;> (try split) <;> decide

set_option maxHeartbeats 8000000 in
set_option maxRecDepth 100000 in
theorem rulerSide_walk {w : World} {a b c d e : C3} {ax ay az x y : Rat} (ha : QV w (.agg #[.bool a.n, .slice a.u a.nu a.cu, .slice a.l a.nl a.cl]) ax) (hb : QV w (.agg #[.bool b.n, .slice b.u b.nu b.cu, .slice b.l b.nl b.cl]) ay) (hc : QV w (.agg #[.bool c.n, .slice c.u c.nu c.cu, .slice c.l c.nl c.cl]) az) (hx : QV w (.agg #[.bool d.n, .slice d.u d.nu d.cu, .slice d.l d.nl d.cl]) x) (hy : QV w (.agg #[.bool e.n, .slice e.u e.nu e.cu, .slice e.l e.nl e.cl]) y) {k l : Nat} (f1 : QS k ax) (f2 : QS k ay) (f3 : QS k az) (f4 : QS l x) (f5 : QS l y) (hk : 3 * (k + l + 1) + 1 ≤ 35184372088640) :
    Calls Tryz.prog 84 #[.agg #[.bool a.n, .slice a.u a.nu a.cu, .slice a.l a.nl a.cl, .bool b.n, .slice b.u b.nu b.cu, .slice b.l b.nl b.cl, .bool c.n, .slice c.u c.nu c.cu, .slice c.l c.nl c.cl], .agg #[.bool d.n, .slice d.u d.nu d.cu, .slice d.l d.nl d.cl, .bool e.n, .slice e.u e.nu e.cu, .slice e.l e.nl e.cl]] w fun e w' => Below w.heap.size w w' ∧ e = .returned (.int .i64 (sg3 (if ax = 0 then ay else ax) * sg3 (ax * x + ay * y + az))) := by
  obtain ⟨hb0, hk0, hk1, hsz⟩ := boxes2 w #[.bool a.n, .slice a.u a.nu a.cu, .slice a.l a.nl a.cl, .bool b.n, .slice b.u b.nu b.cu, .slice b.l b.nl b.cl, .bool c.n, .slice c.u c.nu c.cu, .slice c.l c.nl c.cl] #[.bool d.n, .slice d.u d.nu d.cu, .slice d.l d.nl d.cl, .bool e.n, .slice e.u e.nu e.cu, .slice e.l e.nl e.cl] 112 72
  have HB0 := hideIt hb0
  have HSZ := hideIt hsz
  have HK0 := hideIt hk0
  have HK1 := hideIt hk1
  have HA := hideIt (ha.below hb0)
  have HB := hideIt (hb.below hb0)
  have HC := hideIt (hc.below hb0)
  have HX := hideIt (hx.below hb0)
  have HY := hideIt (hy.below hb0)
  have F1 := hideIt f1
  have F2 := hideIt f2
  have F3 := hideIt f3
  have F4 := hideIt f4
  have F5 := hideIt f5
  have K1 := hideIt hk
  clear hb0 hsz hk0 hk1 ha hb hc hx hy f1 f2 f3 f4 f5 hk
  obtain ⟨r, hr⟩ : ∃ r, r = sg3 (if ax = 0 then ay else ax) * sg3 (ax * x + ay * y + az) := ⟨_, rfl⟩
  rw [← hr]
  have HR := hideIt hr
  clear hr
  go_enter Tryz.func84, Tryz.ntmps84
  go_wp2_with fail
  generalize ((w.alloc (.cells #[.bool a.n, .slice a.u a.nu a.cu, .slice a.l a.nl a.cl, .bool b.n, .slice b.u b.nu b.cu, .slice b.l b.nl b.cl, .bool c.n, .slice c.u c.nu c.cu, .slice c.l c.nl c.cl] 112)).alloc (.cells #[.bool d.n, .slice d.u d.nu d.cu, .slice d.l d.nl d.cl, .bool e.n, .slice e.u e.nu e.cu, .slice e.l e.nl e.cl] 72)) = W0 at *
  have HS : Hid (∀ w', Below W0.heap.size W0 w' → w'.cell? ⟨w.heap.size, 0, none⟩ = some (.bool a.n) ∧ w'.cell? ⟨w.heap.size, 1, none⟩ = some (.slice a.u a.nu a.cu) ∧ w'.cell? ⟨w.heap.size, 2, none⟩ = some (.slice a.l a.nl a.cl) ∧ w'.cell? ⟨w.heap.size, 3, none⟩ = some (.bool b.n) ∧ w'.cell? ⟨w.heap.size, 4, none⟩ = some (.slice b.u b.nu b.cu) ∧ w'.cell? ⟨w.heap.size, 5, none⟩ = some (.slice b.l b.nl b.cl) ∧ w'.cell? ⟨w.heap.size, 6, none⟩ = some (.bool c.n) ∧ w'.cell? ⟨w.heap.size, 7, none⟩ = some (.slice c.u c.nu c.cu) ∧ w'.cell? ⟨w.heap.size, 8, none⟩ = some (.slice c.l c.nl c.cl) ∧ w'.cell? ⟨w.heap.size + 1, 0, none⟩ = some (.bool d.n) ∧ w'.cell? ⟨w.heap.size + 1, 1, none⟩ = some (.slice d.u d.nu d.cu) ∧ w'.cell? ⟨w.heap.size + 1, 2, none⟩ = some (.slice d.l d.nl d.cl) ∧ w'.cell? ⟨w.heap.size + 1, 3, none⟩ = some (.bool e.n) ∧ w'.cell? ⟨w.heap.size + 1, 4, none⟩ = some (.slice e.u e.nu e.cu) ∧ w'.cell? ⟨w.heap.size + 1, 5, none⟩ = some (.slice e.l e.nl e.cl)) := fun w' hb => ⟨(HK0.out.below hb (by rw [HSZ.out]; omega)).cell 0, (HK0.out.below hb (by rw [HSZ.out]; omega)).cell 1, (HK0.out.below hb (by rw [HSZ.out]; omega)).cell 2, (HK0.out.below hb (by rw [HSZ.out]; omega)).cell 3, (HK0.out.below hb (by rw [HSZ.out]; omega)).cell 4, (HK0.out.below hb (by rw [HSZ.out]; omega)).cell 5, (HK0.out.below hb (by rw [HSZ.out]; omega)).cell 6, (HK0.out.below hb (by rw [HSZ.out]; omega)).cell 7, (HK0.out.below hb (by rw [HSZ.out]; omega)).cell 8, (HK1.out.below hb (by rw [HSZ.out]; omega)).cell 0, (HK1.out.below hb (by rw [HSZ.out]; omega)).cell 1, (HK1.out.below hb (by rw [HSZ.out]; omega)).cell 2, (HK1.out.below hb (by rw [HSZ.out]; omega)).cell 3, (HK1.out.below hb (by rw [HSZ.out]; omega)).cell 4, (HK1.out.below hb (by rw [HSZ.out]; omega)).cell 5⟩
  refine (sign_calls HA.out).mono ?_
  rintro _ w1 ⟨hb1, rfl⟩
  have HBL1 := hideIt hb1
  obtain ⟨z0, z1, z2, z3, z4, z5, z6, z7, z8, z9, z10, z11, z12, z13, z14⟩ := HS.out w1 hb1
  clear hb1
  by_cases h0 : ax = 0
  · rw [if_pos (sg_zero.2 h0)]
    have H0 := hideIt h0
    clear h0
    go_wp2_with fail
    refine (sign_calls (HB.out.below HBL1.out)).mono ?_
    rintro _ w2 ⟨hb2, rfl⟩
    have HBL2 := hideIt (HBL1.out.trans (hb2.mono HBL1.out.size))
    clear z0 z1 z2 z3 z4 z5 z6 z7 z8 z9 z10 z11 z12 z13 z14
    obtain ⟨z0, z1, z2, z3, z4, z5, z6, z7, z8, z9, z10, z11, z12, z13, z14⟩ := HS.out w2 HBL2.out
    clear hb2
    obtain ⟨s1, hs1⟩ : ∃ s, s = (if ay.num = 0 then (0 : Int) else if ay.num < 0 then -1 else 1) := ⟨_, rfl⟩
    rw [← hs1]
    have HS1 : Hid (s1 = sg3 ay) := hs1
    clear hs1
    go_wp2_with fail
    refine (lineValue_calls ⟨a, b, c, rfl, HA.out.below HBL2.out, HB.out.below HBL2.out, HC.out.below HBL2.out⟩ ⟨d, e, rfl, HX.out.below HBL2.out, HY.out.below HBL2.out⟩ F1.out F2.out F3.out F4.out F5.out K1.out).mono ?_
    rintro _ w5 ⟨hb5, v5, rfl, hv5⟩
    have HV5 := hideIt hv5
    have HBL5 := hideIt (HBL2.out.trans (hb5.mono HBL2.out.size))
    obtain ⟨d5, rfl⟩ := qv_open hv5
    clear hb5 hv5 z0 z1 z2 z3 z4 z5 z6 z7 z8 z9 z10 z11 z12 z13 z14
    go_wp2_with fail
    refine (sign_calls HV5.out).mono ?_
    rintro _ w6 ⟨hb6, rfl⟩
    have HBL6 := hideIt (HBL5.out.trans (hb6.mono HBL5.out.size))
    clear hb6
    obtain ⟨s2, hs2⟩ : ∃ s, s = (if (ax * x + ay * y + az).num = 0 then (0 : Int) else if (ax * x + ay * y + az).num < 0 then -1 else 1) := ⟨_, rfl⟩
    rw [← hs2]
    have HS2 := hideIt hs2
    have hw : IntKind.i64.wrap (s1 * s2) = s1 * s2 := sg3_wrap HS1.out HS2.out
    clear hs2
    go_wp2
    go_ret
    have hres : r = s1 * s2 := by rw [HR.out, if_pos H0.out, HS1.out, HS2.out]; rfl
    exact ⟨HB0.out.trans (HBL6.out.mono HB0.out.size), by rw [hres]; rfl⟩
  · have hq : ¬ ax.num = 0 := fun h => h0 (sg_zero.1 h)
    have HS1' : (if ax.num = 0 then (0 : Int) else if ax.num < 0 then -1 else 1) ≠ 0 := by rw [if_neg hq]; split <;> decide
    obtain ⟨s1, hs1⟩ : ∃ s, s = (if ax.num = 0 then (0 : Int) else if ax.num < 0 then -1 else 1) := ⟨_, rfl⟩
    rw [← hs1] at HS1' ⊢
    have hne : (s1 == 0) = false := beq_eq_false_iff_ne.mpr HS1'
    have HS1 : Hid (s1 = sg3 ax) := hs1
    have H0 := hideIt h0
    clear hs1 h0 hq HS1'
    go_wp2_with fail
    refine (lineValue_calls ⟨a, b, c, rfl, HA.out.below HBL1.out, HB.out.below HBL1.out, HC.out.below HBL1.out⟩ ⟨d, e, rfl, HX.out.below HBL1.out, HY.out.below HBL1.out⟩ F1.out F2.out F3.out F4.out F5.out K1.out).mono ?_
    rintro _ w5 ⟨hb5, v5, rfl, hv5⟩
    have HV5 := hideIt hv5
    have HBL5 := hideIt (HBL1.out.trans (hb5.mono HBL1.out.size))
    obtain ⟨d5, rfl⟩ := qv_open hv5
    clear hb5 hv5 z0 z1 z2 z3 z4 z5 z6 z7 z8 z9 z10 z11 z12 z13 z14
    go_wp2_with fail
    refine (sign_calls HV5.out).mono ?_
    rintro _ w6 ⟨hb6, rfl⟩
    have HBL6 := hideIt (HBL5.out.trans (hb6.mono HBL5.out.size))
    clear hb6
    obtain ⟨s2, hs2⟩ : ∃ s, s = (if (ax * x + ay * y + az).num = 0 then (0 : Int) else if (ax * x + ay * y + az).num < 0 then -1 else 1) := ⟨_, rfl⟩
    rw [← hs2]
    have HS2 := hideIt hs2
    have hw : IntKind.i64.wrap (s1 * s2) = s1 * s2 := sg3_wrap HS1.out HS2.out
    clear hs2
    go_wp2
    go_ret
    have hres : r = s1 * s2 := by rw [HR.out, if_neg H0.out, HS1.out, HS2.out]; rfl
    exact ⟨HB0.out.trans (HBL6.out.mono HB0.out.size), by rw [hres]; rfl⟩


theorem rulerSide_ex {w : World} {a b c d e : C3} {ax ay az x y : Rat} (ha : QV w (.agg #[.bool a.n, .slice a.u a.nu a.cu, .slice a.l a.nl a.cl]) ax) (hb : QV w (.agg #[.bool b.n, .slice b.u b.nu b.cu, .slice b.l b.nl b.cl]) ay) (hc : QV w (.agg #[.bool c.n, .slice c.u c.nu c.cu, .slice c.l c.nl c.cl]) az) (hx : QV w (.agg #[.bool d.n, .slice d.u d.nu d.cu, .slice d.l d.nl d.cl]) x) (hy : QV w (.agg #[.bool e.n, .slice e.u e.nu e.cu, .slice e.l e.nl e.cl]) y) {k l : Nat} (f1 : QS k ax) (f2 : QS k ay) (f3 : QS k az) (f4 : QS l x) (f5 : QS l y) (hk : 3 * (k + l + 1) + 1 ≤ 35184372088640) :
    Calls Tryz.prog 84 #[.agg #[.bool a.n, .slice a.u a.nu a.cu, .slice a.l a.nl a.cl, .bool b.n, .slice b.u b.nu b.cu, .slice b.l b.nl b.cl, .bool c.n, .slice c.u c.nu c.cu, .slice c.l c.nl c.cl], .agg #[.bool d.n, .slice d.u d.nu d.cu, .slice d.l d.nl d.cl, .bool e.n, .slice e.u e.nu e.cu, .slice e.l e.nl e.cl]] w fun e w' => Below w.heap.size w w' ∧ ∃ s : Int, e = .returned (.int .i64 s) ∧ s = sg3 (if ax = 0 then ay else ax) * sg3 (ax * x + ay * y + az) :=
  (rulerSide_walk ha hb hc hx hy f1 f2 f3 f4 f5 hk).mono fun _ _ h => ⟨h.1, _, h.2, rfl⟩

/-- What is answered for the side of a point. -/
def SideAns (a b c x y : Rat) (s z : Int) : Prop :=
  (a = 0 ∧ b = 0 ∧ s = 0 ∧ z = 5) ∨ (¬ (a = 0 ∧ b = 0) ∧ z = 0 ∧ s = sg3 (if a = 0 then b else a) * sg3 (a * x + b * y + c))

set_option maxHeartbeats 8000000 in
set_option maxRecDepth 100000 in
theorem lineSide_walk {w : World} {la lb lc px py : ByteArray} (s1 : la.data.toList.length ≤ 4294967296) (s2 : lb.data.toList.length ≤ 4294967296) (s3 : lc.data.toList.length ≤ 4294967296) (s4 : px.data.toList.length ≤ 4294967296) (s5 : py.data.toList.length ≤ 4294967296) {k : Nat} (f1 : QS k (rd la.data.toList)) (f2 : QS k (rd lb.data.toList)) (f3 : QS k (rd lc.data.toList)) (f4 : QS k (rd px.data.toList)) (f5 : QS k (rd py.data.toList)) (hk : 3 * (k + k + 1) + 1 ≤ 35184372088640) :
    Calls Tryz.prog 39 #[.agg #[.string la, .string lb, .string lc], .agg #[.string px, .string py]] w fun e w' => Below w.heap.size w w' ∧ ∃ s z : Int, e = .returned (.tuple #[.int .i64 s, .int .i64 z]) ∧ SideAns (rd la.data.toList) (rd lb.data.toList) (rd lc.data.toList) (rd px.data.toList) (rd py.data.toList) s z := by
  obtain ⟨hb0, hk0, hk1, hsz⟩ := boxes2 w #[.string la, .string lb, .string lc] #[.string px, .string py] 53 24
  have HB0 := hideIt hb0
  have HSZ := hideIt hsz
  have HK1 := hideIt hk1
  have S1 := hideIt s1
  have F1 := hideIt f1
  have S2 := hideIt s2
  have F2 := hideIt f2
  have S3 := hideIt s3
  have F3 := hideIt f3
  have S4 := hideIt s4
  have F4 := hideIt f4
  have S5 := hideIt s5
  have F5 := hideIt f5
  have HK := hideIt hk
  clear hb0 hsz hk0 hk1 s1 s2 s3 s4 s5 f1 f2 f3 f4 f5 hk
  go_enter Tryz.func39, Tryz.ntmps39
  go_wp2_with fail
  generalize ((w.alloc (.cells #[.string la, .string lb, .string lc] 53)).alloc (.cells #[.string px, .string py] 24)) = W0 at *
  refine (rulerRead_calls ⟨la, lb, lc, rfl, rfl, rfl, rfl⟩ S1.out S2.out S3.out).mono ?_
  rintro _ w1 ⟨hb1, ⟨h1, h2, rfl⟩ | ⟨hn, v1, rfl, hv1⟩⟩
  · have HBW := hideIt (HB0.out.trans (hb1.mono HB0.out.size))
    have HH := hideIt (And.intro h1 h2)
    clear hb1 h1 h2
    go_wp2
    exact bodyPost_ret (v := .tuple #[.int .i64 0, .int .i64 5]) (by simp [results, Tryz.results39, go_sem]) rfl ⟨HBW.out.alloc HBW.out.size _, _, _, rfl, Or.inl ⟨HH.out.1, HH.out.2, rfl, rfl⟩⟩
  · obtain ⟨a, b, c, rfl, hx, hy, hz⟩ := hv1
    have HA := hideIt hx
    have HB := hideIt hy
    have HC := hideIt hz
    have HN := hideIt hn
    have HB1 := hideIt hb1
    clear hx hy hz hn hb1
    go_wp2_with fail
    obtain ⟨w2, hw2⟩ : ∃ w2, w2 = w1.alloc (.cells #[.bool a.n, .slice a.u a.nu a.cu, .slice a.l a.nl a.cl, .bool b.n, .slice b.u b.nu b.cu, .slice b.l b.nl b.cl, .bool c.n, .slice c.u c.nu c.cu, .slice c.l c.nl c.cl] 112) := ⟨_, rfl⟩
    have hbA := below_new w1 (.cells #[.bool a.n, .slice a.u a.nu a.cu, .slice a.l a.nl a.cl, .bool b.n, .slice b.u b.nu b.cu, .slice b.l b.nl b.cl, .bool c.n, .slice c.u c.nu c.cu, .slice c.l c.nl c.cl] 112)
    have HKG := hideIt (Blk.new w1 #[.bool a.n, .slice a.u a.nu a.cu, .slice a.l a.nl a.cl, .bool b.n, .slice b.u b.nu b.cu, .slice b.l b.nl b.cl, .bool c.n, .slice c.u c.nu c.cu, .slice c.l c.nl c.cl] 112)
    rw [← hw2] at hbA HKG ⊢
    obtain ⟨G, hG⟩ : ∃ G, G = w1.heap.size := ⟨_, rfl⟩
    rw [← hG] at HKG ⊢
    clear hG hw2
    have HBL : Hid (Below W0.heap.size W0 w2) := HB1.out.trans (hbA.mono HB1.out.size)
    have HA2 := hideIt (HA.out.below hbA)
    have HB2 := hideIt (HB.out.below hbA)
    have HC2 := hideIt (HC.out.below hbA)
    have HKP := hideIt (HK1.out.below HBL.out (by rw [HSZ.out]; omega))
    clear hbA
    have HS : Hid (∀ w', Below w2.heap.size w2 w' → w'.cell? ⟨w.heap.size + 1, 0, none⟩ = some (.string px) ∧ w'.cell? ⟨w.heap.size + 1, 1, none⟩ = some (.string py) ∧ w'.cell? ⟨G, 0, none⟩ = some (.bool a.n) ∧ w'.cell? ⟨G, 1, none⟩ = some (.slice a.u a.nu a.cu) ∧ w'.cell? ⟨G, 2, none⟩ = some (.slice a.l a.nl a.cl) ∧ w'.cell? ⟨G, 3, none⟩ = some (.bool b.n) ∧ w'.cell? ⟨G, 4, none⟩ = some (.slice b.u b.nu b.cu) ∧ w'.cell? ⟨G, 5, none⟩ = some (.slice b.l b.nl b.cl) ∧ w'.cell? ⟨G, 6, none⟩ = some (.bool c.n) ∧ w'.cell? ⟨G, 7, none⟩ = some (.slice c.u c.nu c.cu) ∧ w'.cell? ⟨G, 8, none⟩ = some (.slice c.l c.nl c.cl)) := fun w' hb => ⟨(HKP.out.below hb HKP.out.lt).cell 0, (HKP.out.below hb HKP.out.lt).cell 1, (HKG.out.below hb HKG.out.lt).cell 0, (HKG.out.below hb HKG.out.lt).cell 1, (HKG.out.below hb HKG.out.lt).cell 2, (HKG.out.below hb HKG.out.lt).cell 3, (HKG.out.below hb HKG.out.lt).cell 4, (HKG.out.below hb HKG.out.lt).cell 5, (HKG.out.below hb HKG.out.lt).cell 6, (HKG.out.below hb HKG.out.lt).cell 7, (HKG.out.below hb HKG.out.lt).cell 8⟩
    obtain ⟨z0, z1, z2, z3, z4, z5, z6, z7, z8, z9, z10⟩ := HS.out w2 (Below.refl _ _)
    go_wp2_with fail
    go_region_held3 (fun w' => w'.cell? ⟨w.heap.size + 1, 0, none⟩ = some (.string px) ∧ w'.cell? ⟨w.heap.size + 1, 1, none⟩ = some (.string py) ∧ w'.cell? ⟨G, 0, none⟩ = some (.bool a.n) ∧ w'.cell? ⟨G, 1, none⟩ = some (.slice a.u a.nu a.cu) ∧ w'.cell? ⟨G, 2, none⟩ = some (.slice a.l a.nl a.cl) ∧ w'.cell? ⟨G, 3, none⟩ = some (.bool b.n) ∧ w'.cell? ⟨G, 4, none⟩ = some (.slice b.u b.nu b.cu) ∧ w'.cell? ⟨G, 5, none⟩ = some (.slice b.l b.nl b.cl) ∧ w'.cell? ⟨G, 6, none⟩ = some (.bool c.n) ∧ w'.cell? ⟨G, 7, none⟩ = some (.slice c.u c.nu c.cu) ∧ w'.cell? ⟨G, 8, none⟩ = some (.slice c.l c.nl c.cl)) (first | go_keep | exact hs3 | exact hs4)
      (first
        | (go_at_call 62; refine (wayRead_calls (w := w2.drew) ⟨px, py, rfl, rfl, rfl⟩ S4.out S5.out).mono ?_; rintro _ w3 ⟨hb3, v3, rfl, hv3⟩; obtain ⟨d, e, rfl, hx3, hy3⟩ := hv3; have hbl3 : Below w2.heap.size w2 w3 := (Below.drew (Below.refl _ w2)).trans hb3; have hs3 := HS.out w3 hbl3)
        | (go_at_call 84; refine (rulerSide_ex (HA2.out.below hbl3) (HB2.out.below hbl3) (HC2.out.below hbl3) hx3 hy3 F1.out F2.out F3.out F4.out F5.out HK.out).mono ?_; rintro _ w4 ⟨hb4, s1, rfl, hs1⟩; have HS1 := hideIt hs1; clear hs1; have hbl4 := hbl3.trans (hb4.mono hbl3.size); have hs4 := HS.out w4 hbl4)
        )
    all_goals
      go_wp2
      exact bodyPost_ret (v := .tuple #[.int .i64 s1, .int .i64 0]) (by simp [results, Tryz.results39, go_sem]) rfl ⟨HB0.out.trans ((HBL.out.trans (hbl4.mono HBL.out.size)).mono HB0.out.size), _, _, rfl, Or.inr ⟨HN.out, rfl, HS1.out⟩⟩
end Go.Proofs.YtpalknbmejachaaGreatDoor
/- Walks of package compasslaw: LineConcur. -/
namespace Go.Proofs.YtpalknbmejachaaGreatDoor
open Go.RowKit Cx

attribute [local go_sem ↓] Go.wp_at_zero Go.wp_at_succ

theorem rd_nil2 : rd [] = 0 := by decide +kernel
theorem ans_size2 {x y c : Rat} {la lb lc : List UInt8} {z : Int} (h : LineAns x y c la lb lc z) {K : Nat} (f1 : QS K x) (f2 : QS K y) (f3 : QS K c) :
    QS (4 * K + 1) (rd la) ∧ QS (4 * K + 1) (rd lb) ∧ QS (4 * K + 1) (rd lc) ∧ la.length ≤ 8 * K + 6 ∧ lb.length ≤ 8 * K + 6 ∧ lc.length ≤ 8 * K + 6 := by
  rcases h with ⟨_, _, _, rfl, rfl, rfl⟩ | ⟨_, _, rfl, rfl, rfl⟩
  · rw [rd_nil2]
    have h0 : QS (4 * K + 1) 0 := QS.zero.mono (by omega)
    exact ⟨h0, h0, h0, Nat.zero_le _, Nat.zero_le _, Nat.zero_le _⟩
  · have g1 := QS.fac f1 f2 f3 (q := x) (by simp)
    have g2 := QS.fac f1 f2 f3 (q := y) (by simp)
    have g3 := QS.fac f1 f2 f3 (q := c) (by simp)
    rw [rd_tx, rd_tx, rd_tx]
    refine ⟨g1, g2, g3, ?_, ?_, ?_⟩
    · have := tx_len g1; omega
    · have := tx_len g2; omega
    · have := tx_len g3; omega
/-- What is told of a line that is one: its numbers but for a factor. -/
theorem ans_fac {x y c : Rat} {la lb lc : List UInt8} (h : LineAns x y c la lb lc 0) : ∃ f, f ≠ 0 ∧ rd la = x * f ∧ rd lb = y * f ∧ rd lc = c * f := by
  rcases h with ⟨_, _, h, _⟩ | ⟨hn, _, rfl, rfl, rfl⟩
  · exact absurd h (by decide)
  · refine ⟨fac [x, y, c], ?_, by rw [rd_tx], by rw [rd_tx], by rw [rd_tx]⟩
    by_cases hx : x = 0
    · exact fac_ne (q := y) (by simp) (fun e => hn ⟨hx, e⟩)
    · exact fac_ne (q := x) (by simp) hx
theorem ans_zero {x y c : Rat} {la lb lc : List UInt8} {z : Int} (h : LineAns x y c la lb lc z) : z = 5 ∨ z = 0 := by
  rcases h with ⟨_, _, h, _⟩ | ⟨_, h, _⟩
  · exact Or.inl h
  · exact Or.inr h

theorem ans_line {x y c : Rat} {la lb lc : List UInt8} (h : LineAns x y c la lb lc 0) : ¬ (rd la = 0 ∧ rd lb = 0) := by
  obtain ⟨f, hf, e1, e2, _⟩ := ans_fac h
  rcases h with ⟨_, _, h, _⟩ | ⟨hn, _⟩
  · exact absurd h (by decide)
  · rw [e1, e2]
    rintro ⟨h1, h2⟩
    exact hn ⟨(Rat.mul_eq_zero.1 h1).resolve_right hf, (Rat.mul_eq_zero.1 h2).resolve_right hf⟩
theorem lle {l : List UInt8} {m n : Nat} (h : l.length ≤ m) (hm : m ≤ n) : l.length ≤ n := Nat.le_trans h hm

theorem concur_turn {ax az bx bz cx cz f g : Rat} (hf : f ≠ 0) (hg : g ≠ 0) (h : (bx - ax) * f * ((cz - bz) * g) - (bz - az) * f * ((cx - bx) * g) = 0) : (bx - ax) * (cz - az) - (bz - az) * (cx - ax) = 0 := by
  have e : ((bx - ax) * (cz - az) - (bz - az) * (cx - ax)) * (f * g) = 0 := by grind
  rcases Rat.mul_eq_zero.1 e with h | h
  · exact h
  · rcases Rat.mul_eq_zero.1 h with h | h
    · exact absurd h hf
    · exact absurd h hg
theorem meet_on {a b c p q r x y : Rat} (ht : a * q - b * p ≠ 0) (hx : x = -(q * c - b * r) / (a * q - b * p)) (hy : y = (p * c - a * r) / (a * q - b * p)) : a * x + b * y + c = 0 ∧ p * x + q * y + r = 0 := by
  subst hx hy
  constructor <;> grind
theorem div_fac {a b c x y f : Rat} (hf : f ≠ 0) (h : a * f * x + b * f * y + c * f = 0) : a * x + b * y + c = 0 := by
  have e : (a * x + b * y + c) * f = 0 := by grind
  exact (Rat.mul_eq_zero.1 e).resolve_right hf
theorem concur_third {ax az bx bz cx cz x y : Rat} (h1 : (bx - ax) * x + (bz - az) * y + (-((bx - ax) * ((ax + bx) / ((2 : Nat) : Rat)) + (bz - az) * ((az + bz) / ((2 : Nat) : Rat)))) = 0) (h2 : (cx - bx) * x + (cz - bz) * y + (-((cx - bx) * ((bx + cx) / ((2 : Nat) : Rat)) + (cz - bz) * ((bz + cz) / ((2 : Nat) : Rat)))) = 0) :
    (ax - cx) * x + (az - cz) * y + (-((ax - cx) * ((cx + ax) / ((2 : Nat) : Rat)) + (az - cz) * ((cz + az) / ((2 : Nat) : Rat)))) = 0 ∧ (ax - x) * (ax - x) + (az - y) * (az - y) = (cx - x) * (cx - x) + (cz - y) * (cz - y) := by
  have e : ((2 : Nat) : Rat) = 2 := rfl
  rw [e] at *
  constructor <;> grind

set_option maxHeartbeats 16000000 in
set_option maxRecDepth 100000 in
/-- The three lines between the corners of a triangle meet in one point. -/
theorem lineConcur_walk {w : World} {ax az bx bz cx cz : ByteArray} (sax : ax.size ≤ 1048576) (saz : az.size ≤ 1048576) (sbx : bx.size ≤ 1048576) (sbz : bz.size ≤ 1048576) (scx : cx.size ≤ 1048576) (scz : cz.size ≤ 1048576) (tab : Tab w) (mx : MaxL w) :
    Calls Tryz.prog 7 #[.agg #[.string ax, .string az], .agg #[.string bx, .string bz], .agg #[.string cx, .string cz]] w fun e w' => Below w.heap.size w w' ∧ e = .returned (.bool true) := by
  obtain ⟨hb0, hka, hkb, hkc, hsz⟩ := boxes3 w #[.string ax, .string az] #[.string bx, .string bz] #[.string cx, .string cz] 24 24 24
  have HB0 := hideIt2 hb0
  have HSZ := hideIt2 hsz
  have HKa := hideIt2 hka
  have HKb := hideIt2 hkb
  have HKc := hideIt2 hkc
  have HT := hideIt2 (tab.below hb0)
  have HM := hideIt2 (mx.below hb0)
  have Gax : Hid (QS 4194309 (rd ax.data.toList)) := (QS.rd _).mono (by rw [str_len]; omega)
  have Lax : Hid (ax.data.toList.length ≤ 1048576) := by rw [str_len]; exact sax
  have Gaz : Hid (QS 4194309 (rd az.data.toList)) := (QS.rd _).mono (by rw [str_len]; omega)
  have Laz : Hid (az.data.toList.length ≤ 1048576) := by rw [str_len]; exact saz
  have Gbx : Hid (QS 4194309 (rd bx.data.toList)) := (QS.rd _).mono (by rw [str_len]; omega)
  have Lbx : Hid (bx.data.toList.length ≤ 1048576) := by rw [str_len]; exact sbx
  have Gbz : Hid (QS 4194309 (rd bz.data.toList)) := (QS.rd _).mono (by rw [str_len]; omega)
  have Lbz : Hid (bz.data.toList.length ≤ 1048576) := by rw [str_len]; exact sbz
  have Gcx : Hid (QS 4194309 (rd cx.data.toList)) := (QS.rd _).mono (by rw [str_len]; omega)
  have Lcx : Hid (cx.data.toList.length ≤ 1048576) := by rw [str_len]; exact scx
  have Gcz : Hid (QS 4194309 (rd cz.data.toList)) := (QS.rd _).mono (by rw [str_len]; omega)
  have Lcz : Hid (cz.data.toList.length ≤ 1048576) := by rw [str_len]; exact scz
  clear hb0 hsz tab mx hka hkb hkc
  have FX0 : Hid (QS 33554493 ((rd bx.data.toList) - (rd ax.data.toList))) := (Gbx.out.sub Gax.out).mono (by decide)
  have FY0 : Hid (QS 33554493 ((rd bz.data.toList) - (rd az.data.toList))) := (Gbz.out.sub Gaz.out).mono (by decide)
  have FC0 : Hid (QS 33554493 (-(((rd bx.data.toList) - (rd ax.data.toList)) * (((rd ax.data.toList) + (rd bx.data.toList)) / ((2 : Nat) : Rat)) + ((rd bz.data.toList) - (rd az.data.toList)) * (((rd az.data.toList) + (rd bz.data.toList)) / ((2 : Nat) : Rat))))) := ((((Gbx.out.sub Gax.out).mul ((Gax.out.add Gbx.out).div (⟨by decide, by decide⟩ : QS 8 ((2 : Nat) : Rat)))).add ((Gbz.out.sub Gaz.out).mul ((Gaz.out.add Gbz.out).div (⟨by decide, by decide⟩ : QS 8 ((2 : Nat) : Rat))))).neg).mono (by decide)
  have FX1 : Hid (QS 33554493 ((rd cx.data.toList) - (rd bx.data.toList))) := (Gcx.out.sub Gbx.out).mono (by decide)
  have FY1 : Hid (QS 33554493 ((rd cz.data.toList) - (rd bz.data.toList))) := (Gcz.out.sub Gbz.out).mono (by decide)
  have FC1 : Hid (QS 33554493 (-(((rd cx.data.toList) - (rd bx.data.toList)) * (((rd bx.data.toList) + (rd cx.data.toList)) / ((2 : Nat) : Rat)) + ((rd cz.data.toList) - (rd bz.data.toList)) * (((rd bz.data.toList) + (rd cz.data.toList)) / ((2 : Nat) : Rat))))) := ((((Gcx.out.sub Gbx.out).mul ((Gbx.out.add Gcx.out).div (⟨by decide, by decide⟩ : QS 8 ((2 : Nat) : Rat)))).add ((Gcz.out.sub Gbz.out).mul ((Gbz.out.add Gcz.out).div (⟨by decide, by decide⟩ : QS 8 ((2 : Nat) : Rat))))).neg).mono (by decide)
  have FX2 : Hid (QS 33554493 ((rd ax.data.toList) - (rd cx.data.toList))) := (Gax.out.sub Gcx.out).mono (by decide)
  have FY2 : Hid (QS 33554493 ((rd az.data.toList) - (rd cz.data.toList))) := (Gaz.out.sub Gcz.out).mono (by decide)
  have FC2 : Hid (QS 33554493 (-(((rd ax.data.toList) - (rd cx.data.toList)) * (((rd cx.data.toList) + (rd ax.data.toList)) / ((2 : Nat) : Rat)) + ((rd az.data.toList) - (rd cz.data.toList)) * (((rd cz.data.toList) + (rd az.data.toList)) / ((2 : Nat) : Rat))))) := ((((Gax.out.sub Gcx.out).mul ((Gcx.out.add Gax.out).div (⟨by decide, by decide⟩ : QS 8 ((2 : Nat) : Rat)))).add ((Gaz.out.sub Gcz.out).mul ((Gcz.out.add Gaz.out).div (⟨by decide, by decide⟩ : QS 8 ((2 : Nat) : Rat))))).neg).mono (by decide)
  go_enter Tryz.func7, Tryz.ntmps7
  go_wp2_with fail
  generalize (((w.alloc (.cells #[.string ax, .string az] 24)).alloc (.cells #[.string bx, .string bz] 24)).alloc (.cells #[.string cx, .string cz] 24)) = W0 at *
  refine (between2_walk (w := W0) Lax.out Laz.out Lbx.out Lbz.out HT.out).mono ?_
  rintro _ w1 ⟨hb1, l1, l2, l3, yl, rfl, hans0⟩
  have HA0 := hideIt2 hans0
  have SZ0 := hideIt2 (ans_size2 hans0 FX0.out FY0.out FC0.out)
  have HB1 := hideIt2 hb1
  have HKa1 := hideIt2 (HKa.out.below HB1.out (by rw [HSZ.out]; omega))
  have HKb1 := hideIt2 (HKb.out.below HB1.out (by rw [HSZ.out]; omega))
  have HKc1 := hideIt2 (HKc.out.below HB1.out (by rw [HSZ.out]; omega))
  have ua0 : ∀ o, (w1.alloc o).cell? ⟨w.heap.size, 0, none⟩ = some (.string ax) := fun o => (HKa1.out.old o).cell 0
  have ua1 : ∀ o, (w1.alloc o).cell? ⟨w.heap.size, 1, none⟩ = some (.string az) := fun o => (HKa1.out.old o).cell 1
  have ub0 : ∀ o, (w1.alloc o).cell? ⟨w.heap.size + 1, 0, none⟩ = some (.string bx) := fun o => (HKb1.out.old o).cell 0
  have ub1 : ∀ o, (w1.alloc o).cell? ⟨w.heap.size + 1, 1, none⟩ = some (.string bz) := fun o => (HKb1.out.old o).cell 1
  have uc0 : ∀ o, (w1.alloc o).cell? ⟨w.heap.size + 1 + 1, 0, none⟩ = some (.string cx) := fun o => (HKc1.out.old o).cell 0
  have uc1 : ∀ o, (w1.alloc o).cell? ⟨w.heap.size + 1 + 1, 1, none⟩ = some (.string cz) := fun o => (HKc1.out.old o).cell 1
  clear hb1 hans0
  go_wp2_with fail
  obtain ⟨w2, hw2⟩ : ∃ w2, w2 = w1.alloc (.cells #[.string l1, .string l2, .string l3] 53) := ⟨_, rfl⟩
  have hbA := below_new w1 (.cells #[.string l1, .string l2, .string l3] 53)
  have HKG := hideIt2 (Blk.new w1 #[.string l1, .string l2, .string l3] 53)
  rw [← hw2] at hbA HKG ⊢
  obtain ⟨G, hG⟩ : ∃ G, G = w1.heap.size := ⟨_, rfl⟩
  rw [← hG] at HKG ⊢
  clear hG hw2
  have HB2 := hideIt2 (bel_bel HB1.out hbA)
  clear hbA ua0 ua1 ub0 ub1 uc0 uc1
  refine (between2_walk (w := w2) Lbx.out Lbz.out Lcx.out Lcz.out (HT.out.below HB2.out)).mono ?_
  rintro _ w3 ⟨hb3, m1, m2, m3, ym, rfl, hans1⟩
  have HA1 := hideIt2 hans1
  have SZ1 := hideIt2 (ans_size2 hans1 FX1.out FY1.out FC1.out)
  have HB3 := hideIt2 (bel_bel HB2.out hb3)
  have HKa3 := hideIt2 (HKa.out.below HB3.out (by rw [HSZ.out]; omega))
  have HKb3 := hideIt2 (HKb.out.below HB3.out (by rw [HSZ.out]; omega))
  have HKc3 := hideIt2 (HKc.out.below HB3.out (by rw [HSZ.out]; omega))
  have HKG3 := hideIt2 (HKG.out.below hb3 HKG.out.lt)
  have ua0 : ∀ o, (w3.alloc o).cell? ⟨w.heap.size, 0, none⟩ = some (.string ax) := fun o => (HKa3.out.old o).cell 0
  have ua1 : ∀ o, (w3.alloc o).cell? ⟨w.heap.size, 1, none⟩ = some (.string az) := fun o => (HKa3.out.old o).cell 1
  have ub0 : ∀ o, (w3.alloc o).cell? ⟨w.heap.size + 1, 0, none⟩ = some (.string bx) := fun o => (HKb3.out.old o).cell 0
  have ub1 : ∀ o, (w3.alloc o).cell? ⟨w.heap.size + 1, 1, none⟩ = some (.string bz) := fun o => (HKb3.out.old o).cell 1
  have uc0 : ∀ o, (w3.alloc o).cell? ⟨w.heap.size + 1 + 1, 0, none⟩ = some (.string cx) := fun o => (HKc3.out.old o).cell 0
  have uc1 : ∀ o, (w3.alloc o).cell? ⟨w.heap.size + 1 + 1, 1, none⟩ = some (.string cz) := fun o => (HKc3.out.old o).cell 1
  clear hb3 hans1
  go_wp2_with fail
  obtain ⟨w4, hw4⟩ : ∃ w4, w4 = w3.alloc (.cells #[.string m1, .string m2, .string m3] 53) := ⟨_, rfl⟩
  have hbA := below_new w3 (.cells #[.string m1, .string m2, .string m3] 53)
  have HKH := hideIt2 (Blk.new w3 #[.string m1, .string m2, .string m3] 53)
  rw [← hw4] at hbA HKH ⊢
  obtain ⟨H, hH⟩ : ∃ H, H = w3.heap.size := ⟨_, rfl⟩
  rw [← hH] at HKH ⊢
  clear hH hw4
  have HB4 := hideIt2 (bel_bel HB3.out hbA)
  have HKG4 := hideIt2 (HKG3.out.below hbA HKG3.out.lt)
  clear hbA ua0 ua1 ub0 ub1 uc0 uc1
  refine (between2_walk (w := w4) Lcx.out Lcz.out Lax.out Laz.out (HT.out.below HB4.out)).mono ?_
  rintro _ w5 ⟨hb5, n1, n2, n3, yn, rfl, hans2⟩
  have HA2 := hideIt2 hans2
  have SZ2 := hideIt2 (ans_size2 hans2 FX2.out FY2.out FC2.out)
  have HB5 := hideIt2 (bel_bel HB4.out hb5)
  have HKa5 := hideIt2 (HKa.out.below HB5.out (by rw [HSZ.out]; omega))
  have HKb5 := hideIt2 (HKb.out.below HB5.out (by rw [HSZ.out]; omega))
  have HKc5 := hideIt2 (HKc.out.below HB5.out (by rw [HSZ.out]; omega))
  have HKG5 := hideIt2 (HKG4.out.below hb5 HKG4.out.lt)
  have HKH5 := hideIt2 (HKH.out.below hb5 HKH.out.lt)
  have ua0 : ∀ o, (w5.alloc o).cell? ⟨w.heap.size, 0, none⟩ = some (.string ax) := fun o => (HKa5.out.old o).cell 0
  have ua1 : ∀ o, (w5.alloc o).cell? ⟨w.heap.size, 1, none⟩ = some (.string az) := fun o => (HKa5.out.old o).cell 1
  have ub0 : ∀ o, (w5.alloc o).cell? ⟨w.heap.size + 1, 0, none⟩ = some (.string bx) := fun o => (HKb5.out.old o).cell 0
  have ub1 : ∀ o, (w5.alloc o).cell? ⟨w.heap.size + 1, 1, none⟩ = some (.string bz) := fun o => (HKb5.out.old o).cell 1
  have uc0 : ∀ o, (w5.alloc o).cell? ⟨w.heap.size + 1 + 1, 0, none⟩ = some (.string cx) := fun o => (HKc5.out.old o).cell 0
  have uc1 : ∀ o, (w5.alloc o).cell? ⟨w.heap.size + 1 + 1, 1, none⟩ = some (.string cz) := fun o => (HKc5.out.old o).cell 1
  clear hb5 hans2
  go_wp2_with fail
  obtain ⟨w6, hw6⟩ : ∃ w6, w6 = w5.alloc (.cells #[.string n1, .string n2, .string n3] 53) := ⟨_, rfl⟩
  have hbA := below_new w5 (.cells #[.string n1, .string n2, .string n3] 53)
  have HKJ := hideIt2 (Blk.new w5 #[.string n1, .string n2, .string n3] 53)
  rw [← hw6] at hbA HKJ ⊢
  obtain ⟨J, hJ⟩ : ∃ J, J = w5.heap.size := ⟨_, rfl⟩
  rw [← hJ] at HKJ ⊢
  clear hJ hw6
  have HB6 := hideIt2 (bel_bel HB5.out hbA)
  have HKG6 := hideIt2 (HKG5.out.below hbA HKG5.out.lt)
  have HKH6 := hideIt2 (HKH5.out.below hbA HKH5.out.lt)
  clear hbA ua0 ua1 ub0 ub1 uc0 uc1
  rcases ans_zero HA0.out with hy | hy
  · subst hy
    go_wp2_with fail
    refine (lined_calls _ (HT.out.below HB6.out)).mono ?_
    rintro _ v1 ⟨hc1, rfl⟩
    have HC1 := hideIt2 (bel_bel HB6.out hc1)
    clear hc1
    go_wp2_with fail
    refine (lined_calls _ (HT.out.below HC1.out)).mono ?_
    rintro _ v2 ⟨hc2, rfl⟩
    have HC2 := hideIt2 (bel_bel HC1.out hc2)
    clear hc2
    go_wp2
    go_ret
    exact ⟨bel_bel HB0.out HC2.out, by first | rfl | simp⟩
  · subst hy
    rcases ans_zero HA1.out with hy | hy
    · subst hy
      go_wp2_with fail
      refine (lined_calls _ (HT.out.below HB6.out)).mono ?_
      rintro _ v1 ⟨hc1, rfl⟩
      have HC1 := hideIt2 (bel_bel HB6.out hc1)
      clear hc1
      go_wp2_with fail
      refine (lined_calls _ (HT.out.below HC1.out)).mono ?_
      rintro _ v2 ⟨hc2, rfl⟩
      have HC2 := hideIt2 (bel_bel HC1.out hc2)
      clear hc2
      go_wp2
      go_ret
      exact ⟨bel_bel HB0.out HC2.out, by first | rfl | simp⟩
    · subst hy
      rcases ans_zero HA2.out with hy | hy
      · subst hy
        go_wp2_with fail
        refine (lined_calls _ (HT.out.below HB6.out)).mono ?_
        rintro _ v1 ⟨hc1, rfl⟩
        have HC1 := hideIt2 (bel_bel HB6.out hc1)
        clear hc1
        go_wp2_with fail
        refine (lined_calls _ (HT.out.below HC1.out)).mono ?_
        rintro _ v2 ⟨hc2, rfl⟩
        have HC2 := hideIt2 (bel_bel HC1.out hc2)
        clear hc2
        go_wp2
        go_ret
        exact ⟨bel_bel HB0.out HC2.out, by first | rfl | simp⟩
      · subst hy
        have HKa6 := hideIt2 (HKa.out.below HB6.out (by rw [HSZ.out]; omega))
        have HKb6 := hideIt2 (HKb.out.below HB6.out (by rw [HSZ.out]; omega))
        have HKc6 := hideIt2 (HKc.out.below HB6.out (by rw [HSZ.out]; omega))
        go_wp2_with fail
        refine (lined_calls _ (HT.out.below HB6.out)).mono ?_
        rintro _ w7 ⟨hb7, rfl⟩
        have HB7 := hideIt2 (bel_bel HB6.out hb7)
        have HKG7 := hideIt2 (HKG6.out.below hb7 HKG6.out.lt)
        have HKH7 := hideIt2 (HKH6.out.below hb7 HKH6.out.lt)
        have HKJ7 := hideIt2 (HKJ.out.below hb7 HKJ.out.lt)
        have HKa7 := hideIt2 (HKa6.out.below hb7 HKa6.out.lt)
        have HKb7 := hideIt2 (HKb6.out.below hb7 HKb6.out.lt)
        have HKc7 := hideIt2 (HKc6.out.below hb7 HKc6.out.lt)
        have qG0 := HKG7.out.cell 0
        have qG1 := HKG7.out.cell 1
        have qG2 := HKG7.out.cell 2
        have qH0 := HKH7.out.cell 0
        have qH1 := HKH7.out.cell 1
        have qH2 := HKH7.out.cell 2
        have qJ0 := HKJ7.out.cell 0
        have qJ1 := HKJ7.out.cell 1
        have qJ2 := HKJ7.out.cell 2
        clear hb7
        go_wp2_with fail
        refine (lineMeet_walk (w := w7) (lle SZ0.out.2.2.2.1 (by decide)) (lle SZ0.out.2.2.2.2.1 (by decide)) (lle SZ0.out.2.2.2.2.2 (by decide)) (lle SZ1.out.2.2.2.1 (by decide)) (lle SZ1.out.2.2.2.2.1 (by decide)) (lle SZ1.out.2.2.2.2.2 (by decide)) SZ0.out.1 SZ0.out.2.1 SZ0.out.2.2.1 SZ1.out.1 SZ1.out.2.1 SZ1.out.2.2.1 (by decide) (HT.out.below HB7.out)).mono ?_
        rintro _ w8 ⟨hb8, px, pz, zz, rfl, hpa⟩
        have HB8 := hideIt2 (bel_bel HB7.out hb8)
        have HKG8 := hideIt2 (HKG7.out.below hb8 HKG7.out.lt)
        have HKH8 := hideIt2 (HKH7.out.below hb8 HKH7.out.lt)
        have HKJ8 := hideIt2 (HKJ7.out.below hb8 HKJ7.out.lt)
        have HKa8 := hideIt2 (HKa7.out.below hb8 HKa7.out.lt)
        have HKb8 := hideIt2 (HKb7.out.below hb8 HKb7.out.lt)
        have HKc8 := hideIt2 (HKc7.out.below hb8 HKc7.out.lt)
        obtain ⟨f0, hf0, e01, e02, e03⟩ := ans_fac HA0.out
        obtain ⟨f1, hf1, e11, e12, e13⟩ := ans_fac HA1.out
        obtain ⟨f2, hf2, e21, e22, e23⟩ := ans_fac HA2.out
        have EF := hideIt2 (And.intro e01 (And.intro e02 (And.intro e03 (And.intro e11 (And.intro e12 (And.intro e13 (And.intro e21 (And.intro e22 e23))))))))
        have NF := hideIt2 (And.intro hf0 (And.intro hf1 hf2))
        clear hb8 e01 e02 e03 e11 e12 e13 e21 e22 e23 hf0 hf1 hf2 qG0 qG1 qG2 qH0 qH1 qH2 qJ0 qJ1 qJ2
        have hcase : (zz ≠ 0 ∧ ((rd bx.data.toList) - (rd ax.data.toList)) * ((rd cz.data.toList) - (rd az.data.toList)) - ((rd bz.data.toList) - (rd az.data.toList)) * ((rd cx.data.toList) - (rd ax.data.toList)) = 0) ∨ (zz = 0 ∧ ∃ x y, px.data.toList = tx x ∧ pz.data.toList = tx y ∧ QS 1073743786 x ∧ QS 1073743786 y ∧ ((rd bx.data.toList) - (rd ax.data.toList)) * x + ((rd bz.data.toList) - (rd az.data.toList)) * y + (-(((rd bx.data.toList) - (rd ax.data.toList)) * (((rd ax.data.toList) + (rd bx.data.toList)) / ((2 : Nat) : Rat)) + ((rd bz.data.toList) - (rd az.data.toList)) * (((rd az.data.toList) + (rd bz.data.toList)) / ((2 : Nat) : Rat)))) = 0 ∧ ((rd cx.data.toList) - (rd bx.data.toList)) * x + ((rd cz.data.toList) - (rd bz.data.toList)) * y + (-(((rd cx.data.toList) - (rd bx.data.toList)) * (((rd bx.data.toList) + (rd cx.data.toList)) / ((2 : Nat) : Rat)) + ((rd cz.data.toList) - (rd bz.data.toList)) * (((rd bz.data.toList) + (rd cz.data.toList)) / ((2 : Nat) : Rat)))) = 0) := by
          obtain ⟨e01, e02, e03, e11, e12, e13, _⟩ := EF.out
          have n0 : ¬ ((rd l1.data.toList) = 0 ∧ (rd l2.data.toList) = 0) := ans_line HA0.out
          have n1 : ¬ ((rd m1.data.toList) = 0 ∧ (rd m2.data.toList) = 0) := ans_line HA1.out
          rcases hpa with ⟨h, _⟩ | ⟨_, _, x, y, hm, hs⟩
          · rcases h with h | h
            · exact absurd h n0
            · exact absurd h n1
          · rcases hm with ⟨ht, hz, hx, hy⟩ | ⟨ht, hz⟩
            · refine Or.inr ⟨hz, x, y, (hs hz).1, (hs hz).2, ?_, ?_, ?_⟩
              · rw [hx]; exact ((((SZ1.out.2.1.mul SZ0.out.2.2.1).sub (SZ0.out.2.1.mul SZ1.out.2.2.1)).neg).div ((SZ0.out.1.mul SZ1.out.2.1).sub (SZ0.out.2.1.mul SZ1.out.1))).mono (by decide)
              · rw [hy]; exact (((SZ1.out.1.mul SZ0.out.2.2.1).sub (SZ0.out.1.mul SZ1.out.2.2.1)).div ((SZ0.out.1.mul SZ1.out.2.1).sub (SZ0.out.2.1.mul SZ1.out.1))).mono (by decide)
              · have ho := meet_on ht hx hy
                rw [e01, e02, e03, e11, e12, e13] at ho
                exact ⟨div_fac NF.out.1 ho.1, div_fac NF.out.2.1 ho.2⟩
            · refine Or.inl ⟨hz, concur_turn NF.out.1 NF.out.2.1 ?_⟩
              rw [e01, e02, e11, e12] at ht
              exact ht
        clear hpa
        rcases hcase with ⟨hz, hturn⟩ | ⟨hz, x, y, hpx, hpz, gx, gy, h1, h2⟩
        · have hne : (zz != 0) = true := by simpa using hz
          have ua0 : ∀ o, (w8.alloc o).cell? ⟨w.heap.size, 0, none⟩ = some (.string ax) := fun o => (HKa8.out.old o).cell 0
          have ua1 : ∀ o, (w8.alloc o).cell? ⟨w.heap.size, 1, none⟩ = some (.string az) := fun o => (HKa8.out.old o).cell 1
          have ub0 : ∀ o, (w8.alloc o).cell? ⟨w.heap.size + 1, 0, none⟩ = some (.string bx) := fun o => (HKb8.out.old o).cell 0
          have ub1 : ∀ o, (w8.alloc o).cell? ⟨w.heap.size + 1, 1, none⟩ = some (.string bz) := fun o => (HKb8.out.old o).cell 1
          have uc0 : ∀ o, (w8.alloc o).cell? ⟨w.heap.size + 1 + 1, 0, none⟩ = some (.string cx) := fun o => (HKc8.out.old o).cell 0
          have uc1 : ∀ o, (w8.alloc o).cell? ⟨w.heap.size + 1 + 1, 1, none⟩ = some (.string cz) := fun o => (HKc8.out.old o).cell 1
          go_wp2_with fail
          obtain ⟨w9, hw9⟩ : ∃ w9, w9 = w8.alloc (.cells #[.string px, .string pz] 24) := ⟨_, rfl⟩
          have hbA := below_new w8 (.cells #[.string px, .string pz] 24)
          have HKQ := hideIt2 (Blk.new w8 #[.string px, .string pz] 24)
          rw [← hw9] at hbA HKQ ⊢
          obtain ⟨Q, hQ⟩ : ∃ Q, Q = w8.heap.size := ⟨_, rfl⟩
          rw [← hQ] at HKQ ⊢
          clear hQ hw9
          have HB9 := hideIt2 (bel_bel HB8.out hbA)
          have HKa9 := hideIt2 (HKa8.out.below hbA HKa8.out.lt)
          have HKb9 := hideIt2 (HKb8.out.below hbA HKb8.out.lt)
          have HKc9 := hideIt2 (HKc8.out.below hbA HKc8.out.lt)
          clear hbA ua0 ua1 ub0 ub1 uc0 uc1
          have HS : Hid (∀ w', Below w9.heap.size w9 w' → w'.cell? ⟨w.heap.size, 0, none⟩ = some (.string ax) ∧ w'.cell? ⟨w.heap.size, 1, none⟩ = some (.string az) ∧ w'.cell? ⟨w.heap.size + 1, 0, none⟩ = some (.string bx) ∧ w'.cell? ⟨w.heap.size + 1, 1, none⟩ = some (.string bz) ∧ w'.cell? ⟨w.heap.size + 1 + 1, 0, none⟩ = some (.string cx) ∧ w'.cell? ⟨w.heap.size + 1 + 1, 1, none⟩ = some (.string cz)) := fun w' hb => ⟨(HKa9.out.below hb HKa9.out.lt).cell 0, (HKa9.out.below hb HKa9.out.lt).cell 1, (HKb9.out.below hb HKb9.out.lt).cell 0, (HKb9.out.below hb HKb9.out.lt).cell 1, (HKc9.out.below hb HKc9.out.lt).cell 0, (HKc9.out.below hb HKc9.out.lt).cell 1⟩
          obtain ⟨z0, z1, z2, z3, z4, z5⟩ := HS.out w9 (Below.refl _ _)
          try go_wp2_with fail
          go_region_held3 (fun w' => w'.cell? ⟨w.heap.size, 0, none⟩ = some (.string ax) ∧ w'.cell? ⟨w.heap.size, 1, none⟩ = some (.string az) ∧ w'.cell? ⟨w.heap.size + 1, 0, none⟩ = some (.string bx) ∧ w'.cell? ⟨w.heap.size + 1, 1, none⟩ = some (.string bz) ∧ w'.cell? ⟨w.heap.size + 1 + 1, 0, none⟩ = some (.string cx) ∧ w'.cell? ⟨w.heap.size + 1 + 1, 1, none⟩ = some (.string cz)) (first | (refine HS.out _ ?_; (repeat' first | with_reducible exact hbl14 | with_reducible exact hbl13 | with_reducible exact hbl12 | with_reducible exact hbl11 | with_reducible exact hbl10 | with_reducible exact Below.refl _ _ | with_reducible refine Below.new ?_ _ | with_reducible refine Below.drew ?_); done) | go_keep)
            (first
              | (have hq := hbl13; go_at_call 13; refine (refZero_calls ⟨_, rfl, (by repeat' first | with_reducible exact hv13 | with_reducible refine rv_new _ ?_ | with_reducible refine rv_drew ?_)⟩).mono ?_; rintro e w14 ⟨hb14, rfl⟩; rw [decide_eq_true hturn]; have hbl14 : Below w9.heap.size w9 w14 := bel_bel (by repeat' first | with_reducible exact hbl13 | with_reducible exact hbl12 | with_reducible exact hbl11 | with_reducible exact hbl10 | with_reducible exact Below.refl _ _ | with_reducible refine Below.new ?_ _ | with_reducible refine Below.drew ?_) hb14)
              | (have hq := hbl12; go_at_call 14; refine (refTurn_calls ⟨_, _, rfl, ⟨_, rfl, (by repeat' first | with_reducible exact hv10x | with_reducible refine rv_new _ ?_ | with_reducible refine rv_drew ?_ | with_reducible refine rv_bel hb12 ?_ | with_reducible refine rv_bel hb11 ?_)⟩, ⟨_, rfl, (by repeat' first | with_reducible exact hv10z | with_reducible refine rv_new _ ?_ | with_reducible refine rv_drew ?_ | with_reducible refine rv_bel hb12 ?_ | with_reducible refine rv_bel hb11 ?_)⟩⟩ ⟨_, _, rfl, ⟨_, rfl, (by repeat' first | with_reducible exact hv11x | with_reducible refine rv_new _ ?_ | with_reducible refine rv_drew ?_ | with_reducible refine rv_bel hb12 ?_)⟩, ⟨_, rfl, (by repeat' first | with_reducible exact hv11z | with_reducible refine rv_new _ ?_ | with_reducible refine rv_drew ?_ | with_reducible refine rv_bel hb12 ?_)⟩⟩ ⟨_, _, rfl, ⟨_, rfl, (by repeat' first | with_reducible exact hv12x | with_reducible refine rv_new _ ?_ | with_reducible refine rv_drew ?_)⟩, ⟨_, rfl, (by repeat' first | with_reducible exact hv12z | with_reducible refine rv_new _ ?_ | with_reducible refine rv_drew ?_)⟩⟩ Gax.out Gaz.out Gbx.out Gbz.out Gcx.out Gcz.out (by decide)).mono ?_; rintro e w13 ⟨hb13, _, rfl, g13, rfl, hv13⟩; have hbl13 : Below w9.heap.size w9 w13 := bel_bel (by repeat' first | with_reducible exact hbl12 | with_reducible exact hbl11 | with_reducible exact hbl10 | with_reducible exact Below.refl _ _ | with_reducible refine Below.new ?_ _ | with_reducible refine Below.drew ?_) hb13)
              | (have hq := hbl11; go_at_call_of 10 (Value.agg #[Value.string cx, Value.string cz]); refine (refP_calls cx cz _ (HM.out.below (bel_bel HB9.out (by repeat' first | with_reducible exact hbl11 | with_reducible exact hbl10 | with_reducible exact Below.refl _ _ | with_reducible refine Below.new ?_ _ | with_reducible refine Below.drew ?_))) (by omega) (by omega)).mono ?_; rintro e w12 ⟨hb12, _, rfl, _, _, rfl, ⟨g12x, rfl, hv12x⟩, ⟨g12z, rfl, hv12z⟩⟩; have hbl12 : Below w9.heap.size w9 w12 := bel_bel (by repeat' first | with_reducible exact hbl11 | with_reducible exact hbl10 | with_reducible exact Below.refl _ _ | with_reducible refine Below.new ?_ _ | with_reducible refine Below.drew ?_) hb12)
              | (have hq := hbl10; go_at_call_of 10 (Value.agg #[Value.string bx, Value.string bz]); refine (refP_calls bx bz _ (HM.out.below (bel_bel HB9.out (by repeat' first | with_reducible exact hbl10 | with_reducible exact Below.refl _ _ | with_reducible refine Below.new ?_ _ | with_reducible refine Below.drew ?_))) (by omega) (by omega)).mono ?_; rintro e w11 ⟨hb11, _, rfl, _, _, rfl, ⟨g11x, rfl, hv11x⟩, ⟨g11z, rfl, hv11z⟩⟩; have hbl11 : Below w9.heap.size w9 w11 := bel_bel (by repeat' first | with_reducible exact hbl10 | with_reducible exact Below.refl _ _ | with_reducible refine Below.new ?_ _ | with_reducible refine Below.drew ?_) hb11)
              | (go_at_call_of 10 (Value.agg #[Value.string ax, Value.string az]); refine (refP_calls ax az _ (HM.out.below (bel_bel HB9.out (by repeat' first | with_reducible exact Below.refl _ _ | with_reducible refine Below.new ?_ _ | with_reducible refine Below.drew ?_))) (by omega) (by omega)).mono ?_; rintro e w10 ⟨hb10, _, rfl, _, _, rfl, ⟨g10x, rfl, hv10x⟩, ⟨g10z, rfl, hv10z⟩⟩; have hbl10 : Below w9.heap.size w9 w10 := bel_bel (by repeat' first | with_reducible exact Below.refl _ _ | with_reducible refine Below.new ?_ _ | with_reducible refine Below.drew ?_) hb10)
              )
          all_goals
            go_wp2
            go_ret
            exact ⟨bel_bel HB0.out (bel_bel HB9.out hbl14), by first | rfl | simp⟩
        · subst hz
          have H3 := hideIt2 (concur_third h1 h2)
          have EP := hideIt2 (And.intro (show rd px.data.toList = x by rw [hpx, rd_tx]) (show rd pz.data.toList = y by rw [hpz, rd_tx]))
          have GPX : Hid (QS 1073743786 (rd px.data.toList)) := by show QS _ _; rw [EP.out.1]; exact gx
          have GPZ : Hid (QS 1073743786 (rd pz.data.toList)) := by show QS _ _; rw [EP.out.2]; exact gy
          have PLL : Hid (px.data.toList.length ≤ 2147487576 ∧ pz.data.toList.length ≤ 2147487576) := by
            show _ ∧ _
            rw [hpx, hpz]
            exact ⟨tx_len gx, tx_len gy⟩
          have PL : Hid (px.size ≤ 4294967296 ∧ pz.size ≤ 4294967296) := by
            have h := PLL.out
            rw [str_len, str_len] at h
            show _ ∧ _
            exact ⟨Nat.le_trans h.1 (by decide), Nat.le_trans h.2 (by decide)⟩
          clear h1 h2 hpx hpz gx gy
          have uJ0 : ∀ o, (w8.alloc o).cell? ⟨J, 0, none⟩ = some (.string n1) := fun o => (HKJ8.out.old o).cell 0
          have uJ1 : ∀ o, (w8.alloc o).cell? ⟨J, 1, none⟩ = some (.string n2) := fun o => (HKJ8.out.old o).cell 1
          have uJ2 : ∀ o, (w8.alloc o).cell? ⟨J, 2, none⟩ = some (.string n3) := fun o => (HKJ8.out.old o).cell 2
          go_wp2_with fail
          obtain ⟨w9, hw9⟩ : ∃ w9, w9 = w8.alloc (.cells #[.string px, .string pz] 24) := ⟨_, rfl⟩
          have hbA := below_new w8 (.cells #[.string px, .string pz] 24)
          have HKQ := hideIt2 (Blk.new w8 #[.string px, .string pz] 24)
          rw [← hw9] at hbA HKQ ⊢
          obtain ⟨Q, hQ⟩ : ∃ Q, Q = w8.heap.size := ⟨_, rfl⟩
          rw [← hQ] at HKQ ⊢
          clear hQ hw9
          have HB9 := hideIt2 (bel_bel HB8.out hbA)
          have HKa9 := hideIt2 (HKa8.out.below hbA HKa8.out.lt)
          have HKb9 := hideIt2 (HKb8.out.below hbA HKb8.out.lt)
          have HKc9 := hideIt2 (HKc8.out.below hbA HKc8.out.lt)
          have HKJ9 := hideIt2 (HKJ8.out.below hbA HKJ8.out.lt)
          clear hbA uJ0 uJ1 uJ2
          have q0 := HKJ9.out.cell 0
          have q1 := HKJ9.out.cell 1
          have q2 := HKJ9.out.cell 2
          have q3 := HKQ.out.cell 0
          have q4 := HKQ.out.cell 1
          try go_wp2_with fail
          refine (lineSide_walk (w := w9) (lle SZ2.out.2.2.2.1 (by decide)) (lle SZ2.out.2.2.2.2.1 (by decide)) (lle SZ2.out.2.2.2.2.2 (by decide)) (Nat.le_trans PLL.out.1 (by decide)) (Nat.le_trans PLL.out.2 (by decide)) (SZ2.out.1.mono (by decide)) (SZ2.out.2.1.mono (by decide)) (SZ2.out.2.2.1.mono (by decide)) GPX.out GPZ.out (by decide)).mono ?_
          rintro _ w10 ⟨hb10, s, zs, rfl, hside⟩
          have hs0 : s = 0 ∧ zs = 0 := by
            rcases hside with ⟨h1, h2, _⟩ | ⟨_, h, hs⟩
            · exact absurd ⟨h1, h2⟩ (ans_line HA2.out)
            · refine ⟨?_, h⟩
              obtain ⟨_, _, _, _, _, _, e21, e22, e23⟩ := EF.out
              have hv : (rd n1.data.toList) * (rd px.data.toList) + (rd n2.data.toList) * (rd pz.data.toList) + (rd n3.data.toList) = 0 := by
                rw [e21, e22, e23, EP.out.1, EP.out.2]
                have := H3.out.1
                grind
              rw [hs, hv, sg3_zero.2 rfl, Int.mul_zero]
          obtain ⟨rfl, rfl⟩ := hs0
          have HB10 := hideIt2 (bel_bel HB9.out hb10)
          have HKQ10 := hideIt2 (HKQ.out.below hb10 HKQ.out.lt)
          have HKa10 := hideIt2 (HKa9.out.below hb10 HKa9.out.lt)
          have HKc10 := hideIt2 (HKc9.out.below hb10 HKc9.out.lt)
          clear hb10 hside q0 q1 q2 q3 q4
          have HE : Hid (((rd ax.data.toList - rd px.data.toList) * (rd ax.data.toList - rd px.data.toList) + (rd az.data.toList - rd pz.data.toList) * (rd az.data.toList - rd pz.data.toList)) = ((rd cx.data.toList - rd px.data.toList) * (rd cx.data.toList - rd px.data.toList) + (rd cz.data.toList - rd pz.data.toList) * (rd cz.data.toList - rd pz.data.toList))) := by show _ = _; rw [EP.out.1, EP.out.2]; exact H3.out.2
          have HS : Hid (∀ w', Below w10.heap.size w10 w' → w'.cell? ⟨w.heap.size, 0, none⟩ = some (.string ax) ∧ w'.cell? ⟨w.heap.size, 1, none⟩ = some (.string az) ∧ w'.cell? ⟨w.heap.size + 1 + 1, 0, none⟩ = some (.string cx) ∧ w'.cell? ⟨w.heap.size + 1 + 1, 1, none⟩ = some (.string cz) ∧ w'.cell? ⟨Q, 0, none⟩ = some (.string px) ∧ w'.cell? ⟨Q, 1, none⟩ = some (.string pz)) := fun w' hb => ⟨(HKa10.out.below hb HKa10.out.lt).cell 0, (HKa10.out.below hb HKa10.out.lt).cell 1, (HKc10.out.below hb HKc10.out.lt).cell 0, (HKc10.out.below hb HKc10.out.lt).cell 1, (HKQ10.out.below hb HKQ10.out.lt).cell 0, (HKQ10.out.below hb HKQ10.out.lt).cell 1⟩
          obtain ⟨z0, z1, z2, z3, z4, z5⟩ := HS.out w10 (Below.refl _ _)
          go_wp2_with fail
          go_region_held3 (fun w' => w'.cell? ⟨w.heap.size, 0, none⟩ = some (.string ax) ∧ w'.cell? ⟨w.heap.size, 1, none⟩ = some (.string az) ∧ w'.cell? ⟨w.heap.size + 1 + 1, 0, none⟩ = some (.string cx) ∧ w'.cell? ⟨w.heap.size + 1 + 1, 1, none⟩ = some (.string cz) ∧ w'.cell? ⟨Q, 0, none⟩ = some (.string px) ∧ w'.cell? ⟨Q, 1, none⟩ = some (.string pz)) (first | (refine HS.out _ ?_; (repeat' first | with_reducible exact hbl12 | with_reducible exact hbl11 | with_reducible exact Below.refl _ _ | with_reducible refine Below.new ?_ _ | with_reducible refine Below.drew ?_); done) | go_keep)
            (first
              | (have hq := hbl11; go_at_call_of 29 (Value.agg #[Value.string cx, Value.string cz]); refine (far2G_walk PL.out.1 PL.out.2 (by omega) (by omega) GPX.out GPZ.out (Gcx.out.mono (by decide)) (Gcz.out.mono (by decide)) (by decide) (HT.out.below (bel_bel HB10.out (by repeat' first | with_reducible exact hbl11 | with_reducible exact Below.refl _ _ | with_reducible refine Below.new ?_ _ | with_reducible refine Below.drew ?_)))).mono ?_; rintro e w12 ⟨hb12, t12, rfl, ht12⟩; rw [← HE.out] at ht12; obtain rfl := bytes_of ht12; have hbl12 : Below w10.heap.size w10 w12 := bel_bel (by repeat' first | with_reducible exact hbl11 | with_reducible exact Below.refl _ _ | with_reducible refine Below.new ?_ _ | with_reducible refine Below.drew ?_) hb12; have hs12 := HS.out w12 hbl12)
              | (go_at_call_of 29 (Value.agg #[Value.string ax, Value.string az]); refine (far2G_walk PL.out.1 PL.out.2 (by omega) (by omega) GPX.out GPZ.out (Gax.out.mono (by decide)) (Gaz.out.mono (by decide)) (by decide) (HT.out.below (bel_bel HB10.out (by repeat' first | with_reducible exact Below.refl _ _ | with_reducible refine Below.new ?_ _ | with_reducible refine Below.drew ?_)))).mono ?_; rintro e w11 ⟨hb11, t11, rfl, ht11⟩; obtain rfl := bytes_of ht11; have hbl11 : Below w10.heap.size w10 w11 := bel_bel (by repeat' first | with_reducible exact Below.refl _ _ | with_reducible refine Below.new ?_ _ | with_reducible refine Below.drew ?_) hb11; have hs11 := HS.out w11 hbl11)
              )
          all_goals
            go_wp2
            go_ret
            exact ⟨bel_bel HB0.out (bel_bel HB10.out hbl12), by first | rfl | simp⟩
end Go.Proofs.YtpalknbmejachaaGreatDoor
