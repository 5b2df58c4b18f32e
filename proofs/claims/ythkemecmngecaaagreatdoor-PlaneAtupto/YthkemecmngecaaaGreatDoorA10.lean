/- Part 10 of the walks of the packages num, way, ruler, line and plane, and of the mathematics under them: WI WJ WY WZ. -/
import Derived.Test.YthkemecmngecaaaGreatDoorA9
/- Rows of ways; walks of package way: Sum. -/
namespace Go.Proofs.YthkemecmngecaaaGreatDoor
open Go.RowKit Cx

attribute [local go_sem ↓] Go.wp_at_zero Go.wp_at_succ

/-- The value v is a slice of the ways ps. -/
def WRow (w : World) (v : Value) (ps : List (Rat × Rat)) : Prop :=
  ∃ b off cap, v = .slice (some ⟨b, off, none⟩) ps.length cap ∧ b < w.heap.size ∧ ∀ (j : Nat) (hj : j < ps.length), ∃ c d : C3,
    w.cell? ⟨b, off + j * 6, none⟩ = some (.bool c.n) ∧ w.cell? ⟨b, off + j * 6 + 1, none⟩ = some (.slice c.u c.nu c.cu) ∧ w.cell? ⟨b, off + j * 6 + 2, none⟩ = some (.slice c.l c.nl c.cl) ∧ w.cell? ⟨b, off + j * 6 + 3, none⟩ = some (.bool d.n) ∧ w.cell? ⟨b, off + j * 6 + 4, none⟩ = some (.slice d.u d.nu d.cu) ∧ w.cell? ⟨b, off + j * 6 + 5, none⟩ = some (.slice d.l d.nl d.cl) ∧ QV w (.agg #[.bool c.n, .slice c.u c.nu c.cu, .slice c.l c.nl c.cl]) (ps[j]'hj).1 ∧ QV w (.agg #[.bool d.n, .slice d.u d.nu d.cu, .slice d.l d.nl d.cl]) (ps[j]'hj).2

theorem wrow_idx {b off n cap k : Nat} (hk : k < n) (wx : World) : (Instr.indexAt 101 (.slice (some ⟨b, off, none⟩) n cap) (.int .i64 k)).run Tryz.prog wx = .ok (.pointer (some ⟨b, off + k * 6, none⟩)) wx := by
  have he : Tryz.prog.elem 101 = 74 := by simp [Program.elem, Tryz.underlying101]
  rw [run_indexAt_slice (h := by rw [he]; exact Tryz.underlying101), if_pos (by omega), he, Tryz.sizeOf74]
  simp [Result.andThen, Addr.add]

set_option maxHeartbeats 8000000 in
set_option maxRecDepth 100000 in
theorem waySum_walk {w : World} {b off cap : Nat} {ps : List (Rat × Rat)} (h : WRow w (.slice (some ⟨b, off, none⟩) ps.length cap) ps) {K : Nat} (f : ∀ p ∈ ps.map Prod.fst, QS K p) (f2 : ∀ p ∈ ps.map Prod.snd, QS K p) (hn : ps.length ≤ 1000000) (hk : ps.length * (K + 1) + 1 ≤ 35184372088640) :
    Calls Tryz.prog 44 #[.slice (some ⟨b, off, none⟩) ps.length cap] w fun e w' => Below w.heap.size w w' ∧ ∃ v, e = .returned v ∧ WV w' v (rsum (ps.map Prod.fst)) (rsum (ps.map Prod.snd)) := by
  obtain ⟨hb0, hk0, hk1, hsz⟩ := boxes2 w #[.bool false, .slice none 0 0, .slice none 0 0, .bool false, .slice none 0 0, .slice none 0 0] #[.bool false, .slice none 0 0, .slice none 0 0, .bool false, .slice none 0 0, .slice none 0 0] 74 74
  have HB0 := hideIt hb0
  have HSZ := hideIt hsz
  have HK0 := hideIt hk0
  have HK1 := hideIt hk1
  have HR := hideIt h
  have F := hideIt f
  have F2 := hideIt f2
  have HK := hideIt hk
  clear hb0 hsz hk0 hk1 h f f2 hk
  go_enter Tryz.func44, Tryz.ntmps44
  go_wp2
  generalize ((w.alloc (.cells #[.bool false, .slice none 0 0, .slice none 0 0, .bool false, .slice none 0 0, .slice none 0 0] 74)).alloc (.cells #[.bool false, .slice none 0 0, .slice none 0 0, .bool false, .slice none 0 0, .slice none 0 0] 74)) = W0 at *
  go_loopw [8] (fun i wr => ∃ k : Nat, k ≤ ps.length ∧ i = .int .i64 (k : Int) ∧ Blk wr w.heap.size #[.bool false, .slice none 0 0, .slice none 0 0, .bool false, .slice none 0 0, .slice none 0 0] 74 ∧ Below w.heap.size w wr ∧ ∃ c d : C3, Blk wr (w.heap.size + 1) #[.bool c.n, .slice c.u c.nu c.cu, .slice c.l c.nl c.cl, .bool d.n, .slice d.u d.nu d.cu, .slice d.l d.nl d.cl] 74 ∧ QV wr (.agg #[.bool c.n, .slice c.u c.nu c.cu, .slice c.l c.nl c.cl]) (rsum ((ps.map Prod.fst).take k)) ∧ QV wr (.agg #[.bool d.n, .slice d.u d.nu d.cu, .slice d.l d.nl d.cl]) (rsum ((ps.map Prod.snd).take k))) (fun i _ => ps.length - (intOf i).toNat)
  case atStart =>
    refine ⟨0, Nat.zero_le _, rfl, HK0.out, HB0.out, ⟨false, none, 0, 0, none, 0, 0⟩, ⟨false, none, 0, 0, none, 0, 0⟩, HK1.out, ?_, ?_⟩
    · rw [List.take_zero]; exact qv_zero0 _
    · rw [List.take_zero]; exact qv_zero0 _
  case round =>
    obtain ⟨k, hkl, rfl, hk0, hbel, c, d, hk1, hq, hp⟩ := hrel
    have HQ := hideIt hq
    have HP := hideIt hp
    have HK0' := hideIt hk0
    have HK1' := hideIt hk1
    have hlt1 := hideIt hk1.lt
    have hsz' := hideIt hbel.size
    obtain ⟨y0, y1, y2, y3, y4, y5, g0, g1, g2, g3, g4, g5⟩ := hk1.all6
    obtain ⟨x0, x1, x2, x3, x4, x5, e0, e1, e2, e3, e4, e5⟩ := hk0.all6
    clear hq hp hk0 hk1
    by_cases hend : k = ps.length
    · subst hend
      go_wp2
      obtain ⟨r0, r1, r2, r3, r4, r5, _⟩ := (HK0'.out.put6 (.bool c.n) (.slice c.u c.nu c.cu) (.slice c.l c.nl c.cl) (.bool d.n) (.slice d.u d.nu d.cu) (.slice d.l d.nl d.cl)).all6
      refine bodyPost_ret (v := .agg #[.bool c.n, .slice c.u c.nu c.cu, .slice c.l c.nl c.cl, .bool d.n, .slice d.u d.nu d.cu, .slice d.l d.nl d.cl]) (by simp [results, Tryz.results44, go_sem, r0, r1, r2, r3, r4, r5]) rfl ⟨Below.put6 hbel (Nat.le_refl _) _ _ _ _ _ _, _, rfl, ?_⟩
      have hst := Stays.put6 HK0'.out (by simp [notLimb]) (.bool c.n) (.slice c.u c.nu c.cu) (.slice c.l c.nl c.cl) (.bool d.n) (.slice d.u d.nu d.cu) (.slice d.l d.nl d.cl) rfl rfl rfl rfl rfl rfl
      have h1 := hst.qv HQ.out
      have h2 := hst.qv HP.out
      rw [List.take_of_length_le (by simp)] at h1 h2
      exact ⟨c, d, rfl, h1, h2⟩
    · have hlt : k < ps.length := by omega
      have hidx := wrow_idx (b := b) (off := off) (cap := cap) hlt
      obtain ⟨b', off', cap', e, hbl, hcells⟩ := HR.out
      cases e
      obtain ⟨u, v, d0, d1, d2, d3, d4, d5, hu, hv⟩ := hcells k hlt
      have HU := hideIt (hu.below hbel)
      have HV := hideIt (hv.below hbel)
      have z0 := (hbel.cell (p := ⟨b, off + k * 6, none⟩) hbl).trans d0
      have z1 := (hbel.cell (p := ⟨b, off + k * 6 + 1, none⟩) hbl).trans d1
      have z2 := (hbel.cell (p := ⟨b, off + k * 6 + 2, none⟩) hbl).trans d2
      have z3 := (hbel.cell (p := ⟨b, off + k * 6 + 3, none⟩) hbl).trans d3
      have z4 := (hbel.cell (p := ⟨b, off + k * 6 + 4, none⟩) hbl).trans d4
      have z5 := (hbel.cell (p := ⟨b, off + k * 6 + 5, none⟩) hbl).trans d5
      have FS := hideIt (QS.rsum F.out k)
      have FS2 := hideIt (QS.rsum F2.out k)
      have FQ : Hid (QS K (ps[k]'hlt).1) := F.out _ (List.mem_map_of_mem (List.getElem_mem hlt))
      have FQ2 : Hid (QS K (ps[k]'hlt).2) := F2.out _ (List.mem_map_of_mem (List.getElem_mem hlt))
      have HKK : Hid (k * (K + 1) + 1 + K + 1 ≤ 35184372088640) := by
        have h1 := HK.out
        have h2 : (k + 1) * (K + 1) ≤ ps.length * (K + 1) := Nat.mul_le_mul_right _ hlt
        rw [Nat.succ_mul] at h2
        show _ ≤ _
        omega
      clear d0 d1 d2 d3 d4 d5 hu hv hcells
      have ha : ∀ o, Blk (wr.alloc o) (w.heap.size + 1) #[.bool c.n, .slice c.u c.nu c.cu, .slice c.l c.nl c.cl, .bool d.n, .slice d.u d.nu d.cu, .slice d.l d.nl d.cl] 74 := fun o => HK1'.out.below (below_new wr o) hlt1.out
      have a0 : ∀ o, (wr.alloc o).cell? ⟨w.heap.size + 1, 0, none⟩ = some (.bool c.n) := fun o => (ha o).cell 0
      have a1 : ∀ o, (wr.alloc o).cell? ⟨w.heap.size + 1, 1, none⟩ = some (.slice c.u c.nu c.cu) := fun o => (ha o).cell 1
      have a2 : ∀ o, (wr.alloc o).cell? ⟨w.heap.size + 1, 2, none⟩ = some (.slice c.l c.nl c.cl) := fun o => (ha o).cell 2
      have a3 : ∀ o, (wr.alloc o).cell? ⟨w.heap.size + 1, 3, none⟩ = some (.bool d.n) := fun o => (ha o).cell 3
      have a4 : ∀ o, (wr.alloc o).cell? ⟨w.heap.size + 1, 4, none⟩ = some (.slice d.u d.nu d.cu) := fun o => (ha o).cell 4
      have a5 : ∀ o, (wr.alloc o).cell? ⟨w.heap.size + 1, 5, none⟩ = some (.slice d.l d.nl d.cl) := fun o => (ha o).cell 5
      clear ha
      go_wp2_with fail
      have hbn := below_new wr (.cells #[.bool u.n, .slice u.u u.nu u.cu, .slice u.l u.nl u.cl, .bool v.n, .slice v.u v.nu v.cu, .slice v.l v.nl v.cl] 74)
      refine (wayPlus_calls ⟨c, d, rfl, HQ.out.below hbn, HP.out.below hbn⟩ ⟨u, v, rfl, HU.out.below hbn, HV.out.below hbn⟩ FS.out FS2.out FQ.out FQ2.out HKK.out).mono ?_
      rintro e w2 ⟨hb2, v2, rfl, hv2⟩
      obtain ⟨d2, e2, rfl, hx2, hy2⟩ := hv2
      have hbw := hbn.trans (hb2.mono hbn.size)
      have hk2 := HK1'.out.below hbw hlt1.out
      have hkr := HK0'.out.below hbw (by have := hlt1.out; omega)
      obtain ⟨y0, y1, y2, y3, y4, y5, g0, g1, g2, g3, g4, g5⟩ := hk2.all6
      have HX2 := hideIt hx2
      have HY2 := hideIt hy2
      clear hx2 hy2 a0 a1 a2 a3 a4 a5 z0 z1 z2 z3 z4 z5
      go_wp2
      go_roundw
      case rel =>
        have hst := Stays.put6 hk2 (by simp [notLimb]) (.bool d2.n) (.slice d2.u d2.nu d2.cu) (.slice d2.l d2.nl d2.cl) (.bool e2.n) (.slice e2.u e2.nu e2.cu) (.slice e2.l e2.nl e2.cl) rfl rfl rfl rfl rfl rfl
        refine ⟨k + 1, hlt, by go_num, ?_, ?_, d2, e2, hk2.put6 _ _ _ _ _ _, ?_, ?_⟩
        · exact hkr.off6 (by omega) _ _ _ _ _ _
        · exact Below.put6 (hbel.trans (hbw.mono hsz'.out)) (by omega) _ _ _ _ _ _
        · rw [rsum_take (by simpa using hlt), List.getElem_map]
          exact hst.qv HX2.out
        · rw [rsum_take (by simpa using hlt), List.getElem_map]
          exact hst.qv HY2.out
      case measure => simp [intOf]; omega

/-- Sum: all ways, one after the other. -/
theorem waySum_calls {w : World} {v : Value} {ps : List (Rat × Rat)} (h : WRow w v ps) {K : Nat} (f : ∀ p ∈ ps.map Prod.fst, QS K p) (f2 : ∀ p ∈ ps.map Prod.snd, QS K p) (hn : ps.length ≤ 1000000) (hk : ps.length * (K + 1) + 1 ≤ 35184372088640) :
    Calls Tryz.prog 44 #[v] w fun e w' => Below w.heap.size w w' ∧ ∃ v', e = .returned v' ∧ WV w' v' (rsum (ps.map Prod.fst)) (rsum (ps.map Prod.snd)) := by
  have h' := h
  obtain ⟨b, off, cap, rfl, _⟩ := h
  exact waySum_walk h' f f2 hn hk

theorem wrow2 {w : World} {a b c d : C3} {x y z t : Rat} (h0 : QV w (.agg #[.bool a.n, .slice a.u a.nu a.cu, .slice a.l a.nl a.cl]) x) (h1 : QV w (.agg #[.bool b.n, .slice b.u b.nu b.cu, .slice b.l b.nl b.cl]) y) (h2 : QV w (.agg #[.bool c.n, .slice c.u c.nu c.cu, .slice c.l c.nl c.cl]) z) (h3 : QV w (.agg #[.bool d.n, .slice d.u d.nu d.cu, .slice d.l d.nl d.cl]) t) :
    WRow (w.alloc (.cells #[.bool a.n, .slice a.u a.nu a.cu, .slice a.l a.nl a.cl, .bool b.n, .slice b.u b.nu b.cu, .slice b.l b.nl b.cl, .bool c.n, .slice c.u c.nu c.cu, .slice c.l c.nl c.cl, .bool d.n, .slice d.u d.nu d.cu, .slice d.l d.nl d.cl] 74)) (.slice (some ⟨w.heap.size, 0, none⟩) 2 2) [(x, y), (z, t)] := by
  have hb := below_new w (.cells #[.bool a.n, .slice a.u a.nu a.cu, .slice a.l a.nl a.cl, .bool b.n, .slice b.u b.nu b.cu, .slice b.l b.nl b.cl, .bool c.n, .slice c.u c.nu c.cu, .slice c.l c.nl c.cl, .bool d.n, .slice d.u d.nu d.cu, .slice d.l d.nl d.cl] 74)
  have hk := Blk.new w #[.bool a.n, .slice a.u a.nu a.cu, .slice a.l a.nl a.cl, .bool b.n, .slice b.u b.nu b.cu, .slice b.l b.nl b.cl, .bool c.n, .slice c.u c.nu c.cu, .slice c.l c.nl c.cl, .bool d.n, .slice d.u d.nu d.cu, .slice d.l d.nl d.cl] 74
  refine ⟨w.heap.size, 0, 2, rfl, hk.lt, fun j hj => ?_⟩
  match j, hj with
  | 0, _ => exact ⟨a, b, hk.cell 0, hk.cell 1, hk.cell 2, hk.cell 3, hk.cell 4, hk.cell 5, h0.below hb, h1.below hb⟩
  | 1, _ => exact ⟨c, d, hk.cell 6, hk.cell 7, hk.cell 8, hk.cell 9, hk.cell 10, hk.cell 11, h2.below hb, h3.below hb⟩
  | j + 2, hj => simp at hj; omega
end Go.Proofs.YthkemecmngecaaaGreatDoor
/- Walks: Drop of lines; At of package plane. -/
namespace Go.Proofs.YthkemecmngecaaaGreatDoor
open Go.RowKit Cx

attribute [local go_sem ↓] Go.wp_at_zero Go.wp_at_succ

theorem QS.div {k l : Nat} {a b : Rat} (h1 : QS k a) (h2 : QS l b) : QS (k + l) (a / b) := by
  rw [Rat.div_def]
  by_cases h0 : b.num = 0
  · rw [Rat.num_eq_zero.1 h0, Rat.inv_zero, Rat.mul_zero]
    exact QS.zero.mono (by have := h1.pos; omega)
  · exact h1.mul (h2.inv h0)

set_option maxHeartbeats 4000000 in
set_option maxRecDepth 100000 in
theorem planeAt_walk {w : World} {px pz qx qz t : ByteArray} (s1 : px.size ≤ 1048576) (s2 : pz.size ≤ 1048576) (s3 : qx.size ≤ 1048576) (s4 : qz.size ≤ 1048576) (s5 : t.size ≤ 1048576) (tab : Tab w) :
    Calls Tryz.prog 16 #[.agg #[.string px, .string pz], .agg #[.string qx, .string qz], .string t] w fun e w' => Below w.heap.size w w' ∧ ∃ v, e = .returned v ∧ PV v (tx (rd px.data.toList + (rd qx.data.toList - rd px.data.toList) * rd t.data.toList)) (tx (rd pz.data.toList + (rd qz.data.toList - rd pz.data.toList) * rd t.data.toList)) := by
  obtain ⟨hb0, hk0, hk1, hk2, hsz⟩ := boxes3 w #[.string px, .string pz] #[.string qx, .string qz] #[.string ⟨#[]⟩, .string ⟨#[]⟩] 24 24 24
  have HB0 := hideIt hb0
  have HSZ := hideIt hsz
  have HK0 := hideIt hk0
  have HK1 := hideIt hk1
  have HK2 := hideIt hk2
  have S1 := hideIt s1
  have S2 := hideIt s2
  have S3 := hideIt s3
  have S4 := hideIt s4
  have S5 := hideIt s5
  have HTAB := hideIt (tab.below hb0)
  clear tab
  clear hb0 hsz hk0 hk1 hk2  s1 s2 s3 s4 s5
  have HKB : Hid (4194309 + 4194309 + 1 ≤ 35184372088640) := by show _ ≤ _; omega
  have HKC : Hid (4194309 + 4194309 + 1 + 4194309 + 1 ≤ 35184372088640) := by show _ ≤ _; omega
  have HKD : Hid (2 * (4194309 + 4194309 + 1 + 4194309 + 1) + 1 ≤ 35184372088640) := by show _ ≤ _; omega
  have HKE : Hid (4194309 + (4194309 + 4194309 + 1 + 4194309) + 1 ≤ 35184372088640) := by show _ ≤ _; omega
  have L5 : Hid (t.size ≤ 4294967296) := by have := S5.out; show _ ≤ _; omega
  have M1 : Hid (px.data.toList.length ≤ 1048576) := by rw [str_len]; have := S1.out; show _ ≤ _; omega
  have L1 : Hid (px.data.toList.length ≤ 4294967296) := by have := M1.out; show _ ≤ _; omega
  have F1 : Hid (QS 4194309 (rd px.data.toList)) := (QS.rd _).mono (by have := M1.out; omega)
  have M2 : Hid (pz.data.toList.length ≤ 1048576) := by rw [str_len]; have := S2.out; show _ ≤ _; omega
  have L2 : Hid (pz.data.toList.length ≤ 4294967296) := by have := M2.out; show _ ≤ _; omega
  have F2 : Hid (QS 4194309 (rd pz.data.toList)) := (QS.rd _).mono (by have := M2.out; omega)
  have M3 : Hid (qx.data.toList.length ≤ 1048576) := by rw [str_len]; have := S3.out; show _ ≤ _; omega
  have L3 : Hid (qx.data.toList.length ≤ 4294967296) := by have := M3.out; show _ ≤ _; omega
  have F3 : Hid (QS 4194309 (rd qx.data.toList)) := (QS.rd _).mono (by have := M3.out; omega)
  have M4 : Hid (qz.data.toList.length ≤ 1048576) := by rw [str_len]; have := S4.out; show _ ≤ _; omega
  have L4 : Hid (qz.data.toList.length ≤ 4294967296) := by have := M4.out; show _ ≤ _; omega
  have F4 : Hid (QS 4194309 (rd qz.data.toList)) := (QS.rd _).mono (by have := M4.out; omega)
  have F5 : Hid (QS 4194309 (rd t.data.toList)) := (QS.rd _).mono (by rw [str_len]; have := S5.out; omega)
  have G1 : Hid (QS (4194309 + 4194309 + 1 + 4194309) ((rd qx.data.toList - rd px.data.toList) * rd t.data.toList)) := (F3.out.sub F1.out).mul F5.out
  have G2 : Hid (QS (4194309 + 4194309 + 1 + 4194309) ((rd qz.data.toList - rd pz.data.toList) * rd t.data.toList)) := (F4.out.sub F2.out).mul F5.out
  have A1 : Hid (∀ q ∈ [(rd px.data.toList, rd pz.data.toList), ((rd qx.data.toList - rd px.data.toList) * rd t.data.toList, (rd qz.data.toList - rd pz.data.toList) * rd t.data.toList)].map Prod.fst, QS (4194309 + 4194309 + 1 + 4194309) q) := all2 (F1.out.mono (by omega)) G1.out
  have A2 : Hid (∀ q ∈ [(rd px.data.toList, rd pz.data.toList), ((rd qx.data.toList - rd px.data.toList) * rd t.data.toList, (rd qz.data.toList - rd pz.data.toList) * rd t.data.toList)].map Prod.snd, QS (4194309 + 4194309 + 1 + 4194309) q) := all2 (F2.out.mono (by omega)) G2.out
  go_enter Tryz.func16, Tryz.ntmps16
  go_wp2_with fail
  generalize (((w.alloc (.cells #[.string px, .string pz] 24)).alloc (.cells #[.string qx, .string qz] 24)).alloc (.cells #[.string ⟨#[]⟩, .string ⟨#[]⟩] 24)) = W0 at *
  have HS : Hid (∀ w', Below W0.heap.size W0 w' → w'.cell? ⟨w.heap.size, 0, none⟩ = some (.string px) ∧ w'.cell? ⟨w.heap.size, 1, none⟩ = some (.string pz) ∧ w'.cell? ⟨w.heap.size + 1, 0, none⟩ = some (.string qx) ∧ w'.cell? ⟨w.heap.size + 1, 1, none⟩ = some (.string qz)) := fun w' hb => ⟨(HK0.out.below hb (by rw [HSZ.out]; omega)).cell 0, (HK0.out.below hb (by rw [HSZ.out]; omega)).cell 1, (HK1.out.below hb (by rw [HSZ.out]; omega)).cell 0, (HK1.out.below hb (by rw [HSZ.out]; omega)).cell 1⟩
  have HSS : Hid (∀ w', Below W0.heap.size W0 w' → ∀ x0 x1 : Value, ((w'.setCell ⟨w.heap.size + 1 + 1, 0, none⟩ (x0)).setCell ⟨w.heap.size + 1 + 1, 1, none⟩ (x1)).cell? ⟨w.heap.size, 0, none⟩ = some (.string px) ∧ ((w'.setCell ⟨w.heap.size + 1 + 1, 0, none⟩ (x0)).setCell ⟨w.heap.size + 1 + 1, 1, none⟩ (x1)).cell? ⟨w.heap.size, 1, none⟩ = some (.string pz) ∧ ((w'.setCell ⟨w.heap.size + 1 + 1, 0, none⟩ (x0)).setCell ⟨w.heap.size + 1 + 1, 1, none⟩ (x1)).cell? ⟨w.heap.size + 1, 0, none⟩ = some (.string qx) ∧ ((w'.setCell ⟨w.heap.size + 1 + 1, 0, none⟩ (x0)).setCell ⟨w.heap.size + 1 + 1, 1, none⟩ (x1)).cell? ⟨w.heap.size + 1, 1, none⟩ = some (.string qz)) := fun w' hb x0 x1 => ⟨((HK0.out.below hb (by rw [HSZ.out]; omega)).off2 (g := w.heap.size + 1 + 1) (by omega) x0 x1).cell 0, ((HK0.out.below hb (by rw [HSZ.out]; omega)).off2 (g := w.heap.size + 1 + 1) (by omega) x0 x1).cell 1, ((HK1.out.below hb (by rw [HSZ.out]; omega)).off2 (g := w.heap.size + 1 + 1) (by omega) x0 x1).cell 0, ((HK1.out.below hb (by rw [HSZ.out]; omega)).off2 (g := w.heap.size + 1 + 1) (by omega) x0 x1).cell 1⟩
  obtain ⟨z0, z1, z2, z3⟩ := HS.out W0 (Below.refl _ _)
  go_region_held3 (fun w' => w'.cell? ⟨w.heap.size, 0, none⟩ = some (.string px) ∧ w'.cell? ⟨w.heap.size, 1, none⟩ = some (.string pz) ∧ w'.cell? ⟨w.heap.size + 1, 0, none⟩ = some (.string qx) ∧ w'.cell? ⟨w.heap.size + 1, 1, none⟩ = some (.string qz)) (first | go_keep | exact hs1 | exact hs2 | exact hs3 | exact hs4 | exact hsA4 | exact hs5 | exact hs6 | exact hkS)
    (first
      | (go_at_call 45; refine (wayRead_calls (w := W0.drew) ⟨px, pz, rfl, rfl, rfl⟩ L1.out L2.out).mono ?_; rintro e w1 ⟨hb1, v1, rfl, hv1⟩; have hbl1 : Below W0.heap.size W0 w1 := (Below.drew (Below.refl _ W0)).trans hb1; have hw1 := hv1; obtain ⟨d1, e1, rfl, hx1, hy1⟩ := hw1; have hs1 := HS.out w1 hbl1)
      | (go_at_call 46; refine (between_calls ⟨px, pz, rfl, rfl, rfl⟩ ⟨qx, qz, rfl, rfl, rfl⟩ M1.out M2.out M3.out M4.out).mono ?_; rintro e w2 ⟨hb2, v2, rfl, hv2⟩; have hbl2 := hbl1.trans (hb2.mono hbl1.size); have hw2 := hv2; obtain ⟨d2, e2, rfl, hx2, hy2⟩ := hw2; have hs2 := HS.out w2 hbl2)
      | (go_at_call 48; refine (read_calls t _ L5.out).mono ?_; rintro e w3 ⟨hb3, v3, rfl, hv3⟩; have hbl3 := hbl2.trans (hb3.mono hbl2.size); obtain ⟨d3, rfl⟩ := qv_open hv3; have hs3 := HS.out w3 hbl3)
      | (go_at_call 47; refine (wayTimes_calls (hv2.below hb3) hv3 (F3.out.sub F1.out) (F4.out.sub F2.out) F5.out HKC.out).mono ?_; rintro e w4 ⟨hb4, v4, rfl, hv4⟩; have hbl4 := hbl3.trans (hb4.mono hbl3.size); have hw4 := hv4; obtain ⟨d4, e4, rfl, hx4, hy4⟩ := hw4; have hs4 := HS.out w4 hbl4; have hbA4 := below_new w4 (.cells #[.bool d1.n, .slice d1.u d1.nu d1.cu, .slice d1.l d1.nl d1.cl, .bool e1.n, .slice e1.u e1.nu e1.cu, .slice e1.l e1.nl e1.cl, .bool d4.n, .slice d4.u d4.nu d4.cu, .slice d4.l d4.nl d4.cl, .bool e4.n, .slice e4.u e4.nu e4.cu, .slice e4.l e4.nl e4.cl] 74); have hblA4 := hbl4.trans (hbA4.mono hbl4.size); have hsA4 := HS.out _ hblA4)
      | (go_at_call 44; refine (waySum_calls (wrow2 (((hx1.below hb2).below hb3).below hb4) (((hy1.below hb2).below hb3).below hb4) hx4 hy4) A1.out A2.out (by simp) HKD.out).mono ?_; rintro e w5 ⟨hb5, v5, rfl, hv5⟩; have hbl5 := hblA4.trans (hb5.mono hblA4.size); have hw5 := hv5; obtain ⟨d5, e5, rfl, hx5, hy5⟩ := hw5; rw [show rsum ([(rd px.data.toList, rd pz.data.toList), ((rd qx.data.toList - rd px.data.toList) * rd t.data.toList, (rd qz.data.toList - rd pz.data.toList) * rd t.data.toList)].map Prod.fst) = rd px.data.toList + (rd qx.data.toList - rd px.data.toList) * rd t.data.toList from rsum2 _ _, show rsum ([(rd px.data.toList, rd pz.data.toList), ((rd qx.data.toList - rd px.data.toList) * rd t.data.toList, (rd qz.data.toList - rd pz.data.toList) * rd t.data.toList)].map Prod.snd) = rd pz.data.toList + (rd qz.data.toList - rd pz.data.toList) * rd t.data.toList from rsum2 _ _] at hv5; have hs5 := HS.out w5 hbl5)
      | (go_at_call 49; refine (wayText_calls hv5 (F1.out.add G1.out) (F2.out.add G2.out) HKE.out (HTAB.out.below hbl5)).mono ?_; rintro e w6 ⟨hb6, _, rfl, s6, t6, rfl, ha6, hc6⟩; have hbl6 := hbl5.trans (hb6.mono hbl5.size); have hs6 := HS.out w6 hbl6; have hkr := HK2.out.below hbl6 (by rw [HSZ.out]; omega); obtain ⟨r0, r1, f0, f1⟩ := hkr.all2; have hkS := HSS.out w6 hbl6 (.string s6) (.string t6))
      )
  all_goals
    go_wp2
    obtain ⟨k0, k1, _, _⟩ := (hkr.put2 (.string s6) (.string t6)).all2
    refine bodyPost_ret (v := .agg #[.string s6, .string t6]) (by simp [results, Tryz.results16, go_sem, k0, k1]) rfl ⟨Below.put2 (HB0.out.trans (hbl6.mono HB0.out.size)) (by omega) (.string s6) (.string t6), _, rfl, ?_⟩
    exact ⟨s6, t6, rfl, ha6, hc6⟩

/-- At: p and k times the way from p to q. -/
theorem planeAt_calls {w : World} {va vb : Value} {px pz qx qz lt : List UInt8} {t : ByteArray} (ha : PV va px pz) (hb : PV vb qx qz) (ht : t.data.toList = lt) (s1 : px.length ≤ 1048576) (s2 : pz.length ≤ 1048576) (s3 : qx.length ≤ 1048576) (s4 : qz.length ≤ 1048576) (s5 : lt.length ≤ 1048576) (tab : Tab w) :
    Calls Tryz.prog 16 #[va, vb, .string t] w fun e w' => Below w.heap.size w w' ∧ ∃ v, e = .returned v ∧ PV v (tx (rd px + (rd qx - rd px) * rd lt)) (tx (rd pz + (rd qz - rd pz) * rd lt)) := by
  obtain ⟨a, b, rfl, rfl, rfl⟩ := ha
  obtain ⟨c, d, rfl, rfl, rfl⟩ := hb
  subst ht
  rw [str_len] at s1 s2 s3 s4 s5
  exact planeAt_walk s1 s2 s3 s4 s5 tab

end Go.Proofs.YthkemecmngecaaaGreatDoor
/- Walks: Turn of ways; turn, Area2, Far2 of points. -/
namespace Go.Proofs.YthkemecmngecaaaGreatDoor
open Go.RowKit Cx

attribute [local go_sem ↓] Go.wp_at_zero Go.wp_at_succ

set_option maxHeartbeats 4000000 in
set_option maxRecDepth 100000 in
theorem wayTurn_walk {w : World} {cax cay cbx cbz ccx ccz : C3} {ax ay bx bz cx cz : Rat} (hax : QV w (.agg #[.bool cax.n, .slice cax.u cax.nu cax.cu, .slice cax.l cax.nl cax.cl]) ax) (hay : QV w (.agg #[.bool cay.n, .slice cay.u cay.nu cay.cu, .slice cay.l cay.nl cay.cl]) ay) (hbx : QV w (.agg #[.bool cbx.n, .slice cbx.u cbx.nu cbx.cu, .slice cbx.l cbx.nl cbx.cl]) bx) (hbz : QV w (.agg #[.bool cbz.n, .slice cbz.u cbz.nu cbz.cu, .slice cbz.l cbz.nl cbz.cl]) bz) (hcx : QV w (.agg #[.bool ccx.n, .slice ccx.u ccx.nu ccx.cu, .slice ccx.l ccx.nl ccx.cl]) cx) (hcz : QV w (.agg #[.bool ccz.n, .slice ccz.u ccz.nu ccz.cu, .slice ccz.l ccz.nl ccz.cl]) cz) {k : Nat} (f1 : QS k ax) (f2 : QS k ay) (f3 : QS k bx) (f4 : QS k bz) (f5 : QS k cx) (f6 : QS k cz) (hk : 8 * k + 5 ≤ 35184372088640) :
    Calls Tryz.prog 69 #[.agg #[.bool cax.n, .slice cax.u cax.nu cax.cu, .slice cax.l cax.nl cax.cl, .bool cay.n, .slice cay.u cay.nu cay.cu, .slice cay.l cay.nl cay.cl], .agg #[.bool cbx.n, .slice cbx.u cbx.nu cbx.cu, .slice cbx.l cbx.nl cbx.cl, .bool cbz.n, .slice cbz.u cbz.nu cbz.cu, .slice cbz.l cbz.nl cbz.cl], .agg #[.bool ccx.n, .slice ccx.u ccx.nu ccx.cu, .slice ccx.l ccx.nl ccx.cl, .bool ccz.n, .slice ccz.u ccz.nu ccz.cu, .slice ccz.l ccz.nl ccz.cl]] w fun e w' => Below w.heap.size w w' ∧ ∃ v, e = .returned v ∧ QV w' v ((bx - ax) * (cz - ay) - (bz - ay) * (cx - ax)) := by
  obtain ⟨hb0, hk0, hk1, hk2, hk3, hsz⟩ := boxes4 w #[.bool cax.n, .slice cax.u cax.nu cax.cu, .slice cax.l cax.nl cax.cl, .bool cay.n, .slice cay.u cay.nu cay.cu, .slice cay.l cay.nl cay.cl] #[.bool cbx.n, .slice cbx.u cbx.nu cbx.cu, .slice cbx.l cbx.nl cbx.cl, .bool cbz.n, .slice cbz.u cbz.nu cbz.cu, .slice cbz.l cbz.nl cbz.cl] #[.bool ccx.n, .slice ccx.u ccx.nu ccx.cu, .slice ccx.l ccx.nl ccx.cl, .bool ccz.n, .slice ccz.u ccz.nu ccz.cu, .slice ccz.l ccz.nl ccz.cl] #[.bool false, .slice none 0 0, .slice none 0 0] 74 74 74 63
  have HB0 := hideIt hb0
  have HSZ := hideIt hsz
  have HK0 := hideIt hk0
  have HK1 := hideIt hk1
  have HK2 := hideIt hk2
  have HK3 := hideIt hk3
  have Hax := hideIt (hax.below hb0)
  have Hay := hideIt (hay.below hb0)
  have Hbx := hideIt (hbx.below hb0)
  have Hbz := hideIt (hbz.below hb0)
  have Hcx := hideIt (hcx.below hb0)
  have Hcz := hideIt (hcz.below hb0)
  have F1 := hideIt f1
  have F2 := hideIt f2
  have F3 := hideIt f3
  have F4 := hideIt f4
  have F5 := hideIt f5
  have F6 := hideIt f6
  have HK := hideIt hk
  clear hb0 hsz hk0 hk1 hk2 hk3 hax hay hbx hbz hcx hcz f1 f2 f3 f4 f5 f6 hk
  have HL : Hid (k + k + 1 ≤ 35184372088640) := by have := HK.out; show _ ≤ _; omega
  have HM : Hid (k + k + 1 + (k + k + 1) + (k + k + 1 + (k + k + 1)) + 1 ≤ 35184372088640) := by have := HK.out; show _ ≤ _; omega
  go_enter Tryz.func69, Tryz.ntmps69
  go_wp2_with fail
  generalize ((((w.alloc (.cells #[.bool cax.n, .slice cax.u cax.nu cax.cu, .slice cax.l cax.nl cax.cl, .bool cay.n, .slice cay.u cay.nu cay.cu, .slice cay.l cay.nl cay.cl] 74)).alloc (.cells #[.bool cbx.n, .slice cbx.u cbx.nu cbx.cu, .slice cbx.l cbx.nl cbx.cl, .bool cbz.n, .slice cbz.u cbz.nu cbz.cu, .slice cbz.l cbz.nl cbz.cl] 74)).alloc (.cells #[.bool ccx.n, .slice ccx.u ccx.nu ccx.cu, .slice ccx.l ccx.nl ccx.cl, .bool ccz.n, .slice ccz.u ccz.nu ccz.cu, .slice ccz.l ccz.nl ccz.cl] 74)).alloc (.cells #[.bool false, .slice none 0 0, .slice none 0 0] 63)) = W0 at *
  have HS : Hid (∀ w', Below W0.heap.size W0 w' → w'.cell? ⟨w.heap.size, 0, none⟩ = some (.bool cax.n) ∧ w'.cell? ⟨w.heap.size, 1, none⟩ = some (.slice cax.u cax.nu cax.cu) ∧ w'.cell? ⟨w.heap.size, 2, none⟩ = some (.slice cax.l cax.nl cax.cl) ∧ w'.cell? ⟨w.heap.size, 3, none⟩ = some (.bool cay.n) ∧ w'.cell? ⟨w.heap.size, 4, none⟩ = some (.slice cay.u cay.nu cay.cu) ∧ w'.cell? ⟨w.heap.size, 5, none⟩ = some (.slice cay.l cay.nl cay.cl) ∧ w'.cell? ⟨w.heap.size + 1, 0, none⟩ = some (.bool cbx.n) ∧ w'.cell? ⟨w.heap.size + 1, 1, none⟩ = some (.slice cbx.u cbx.nu cbx.cu) ∧ w'.cell? ⟨w.heap.size + 1, 2, none⟩ = some (.slice cbx.l cbx.nl cbx.cl) ∧ w'.cell? ⟨w.heap.size + 1, 3, none⟩ = some (.bool cbz.n) ∧ w'.cell? ⟨w.heap.size + 1, 4, none⟩ = some (.slice cbz.u cbz.nu cbz.cu) ∧ w'.cell? ⟨w.heap.size + 1, 5, none⟩ = some (.slice cbz.l cbz.nl cbz.cl) ∧ w'.cell? ⟨w.heap.size + 1 + 1, 0, none⟩ = some (.bool ccx.n) ∧ w'.cell? ⟨w.heap.size + 1 + 1, 1, none⟩ = some (.slice ccx.u ccx.nu ccx.cu) ∧ w'.cell? ⟨w.heap.size + 1 + 1, 2, none⟩ = some (.slice ccx.l ccx.nl ccx.cl) ∧ w'.cell? ⟨w.heap.size + 1 + 1, 3, none⟩ = some (.bool ccz.n) ∧ w'.cell? ⟨w.heap.size + 1 + 1, 4, none⟩ = some (.slice ccz.u ccz.nu ccz.cu) ∧ w'.cell? ⟨w.heap.size + 1 + 1, 5, none⟩ = some (.slice ccz.l ccz.nl ccz.cl)) := fun w' hb => ⟨(HK0.out.below hb (by rw [HSZ.out]; omega)).cell 0, (HK0.out.below hb (by rw [HSZ.out]; omega)).cell 1, (HK0.out.below hb (by rw [HSZ.out]; omega)).cell 2, (HK0.out.below hb (by rw [HSZ.out]; omega)).cell 3, (HK0.out.below hb (by rw [HSZ.out]; omega)).cell 4, (HK0.out.below hb (by rw [HSZ.out]; omega)).cell 5, (HK1.out.below hb (by rw [HSZ.out]; omega)).cell 0, (HK1.out.below hb (by rw [HSZ.out]; omega)).cell 1, (HK1.out.below hb (by rw [HSZ.out]; omega)).cell 2, (HK1.out.below hb (by rw [HSZ.out]; omega)).cell 3, (HK1.out.below hb (by rw [HSZ.out]; omega)).cell 4, (HK1.out.below hb (by rw [HSZ.out]; omega)).cell 5, (HK2.out.below hb (by rw [HSZ.out]; omega)).cell 0, (HK2.out.below hb (by rw [HSZ.out]; omega)).cell 1, (HK2.out.below hb (by rw [HSZ.out]; omega)).cell 2, (HK2.out.below hb (by rw [HSZ.out]; omega)).cell 3, (HK2.out.below hb (by rw [HSZ.out]; omega)).cell 4, (HK2.out.below hb (by rw [HSZ.out]; omega)).cell 5⟩
  have HSS : Hid (∀ w', Below W0.heap.size W0 w' → ∀ x0 x1 x2 : Value, (((w'.setCell ⟨w.heap.size + 1 + 1 + 1, 0, none⟩ (x0)).setCell ⟨w.heap.size + 1 + 1 + 1, 1, none⟩ (x1)).setCell ⟨w.heap.size + 1 + 1 + 1, 2, none⟩ (x2)).cell? ⟨w.heap.size, 0, none⟩ = some (.bool cax.n) ∧ (((w'.setCell ⟨w.heap.size + 1 + 1 + 1, 0, none⟩ (x0)).setCell ⟨w.heap.size + 1 + 1 + 1, 1, none⟩ (x1)).setCell ⟨w.heap.size + 1 + 1 + 1, 2, none⟩ (x2)).cell? ⟨w.heap.size, 1, none⟩ = some (.slice cax.u cax.nu cax.cu) ∧ (((w'.setCell ⟨w.heap.size + 1 + 1 + 1, 0, none⟩ (x0)).setCell ⟨w.heap.size + 1 + 1 + 1, 1, none⟩ (x1)).setCell ⟨w.heap.size + 1 + 1 + 1, 2, none⟩ (x2)).cell? ⟨w.heap.size, 2, none⟩ = some (.slice cax.l cax.nl cax.cl) ∧ (((w'.setCell ⟨w.heap.size + 1 + 1 + 1, 0, none⟩ (x0)).setCell ⟨w.heap.size + 1 + 1 + 1, 1, none⟩ (x1)).setCell ⟨w.heap.size + 1 + 1 + 1, 2, none⟩ (x2)).cell? ⟨w.heap.size, 3, none⟩ = some (.bool cay.n) ∧ (((w'.setCell ⟨w.heap.size + 1 + 1 + 1, 0, none⟩ (x0)).setCell ⟨w.heap.size + 1 + 1 + 1, 1, none⟩ (x1)).setCell ⟨w.heap.size + 1 + 1 + 1, 2, none⟩ (x2)).cell? ⟨w.heap.size, 4, none⟩ = some (.slice cay.u cay.nu cay.cu) ∧ (((w'.setCell ⟨w.heap.size + 1 + 1 + 1, 0, none⟩ (x0)).setCell ⟨w.heap.size + 1 + 1 + 1, 1, none⟩ (x1)).setCell ⟨w.heap.size + 1 + 1 + 1, 2, none⟩ (x2)).cell? ⟨w.heap.size, 5, none⟩ = some (.slice cay.l cay.nl cay.cl) ∧ (((w'.setCell ⟨w.heap.size + 1 + 1 + 1, 0, none⟩ (x0)).setCell ⟨w.heap.size + 1 + 1 + 1, 1, none⟩ (x1)).setCell ⟨w.heap.size + 1 + 1 + 1, 2, none⟩ (x2)).cell? ⟨w.heap.size + 1, 0, none⟩ = some (.bool cbx.n) ∧ (((w'.setCell ⟨w.heap.size + 1 + 1 + 1, 0, none⟩ (x0)).setCell ⟨w.heap.size + 1 + 1 + 1, 1, none⟩ (x1)).setCell ⟨w.heap.size + 1 + 1 + 1, 2, none⟩ (x2)).cell? ⟨w.heap.size + 1, 1, none⟩ = some (.slice cbx.u cbx.nu cbx.cu) ∧ (((w'.setCell ⟨w.heap.size + 1 + 1 + 1, 0, none⟩ (x0)).setCell ⟨w.heap.size + 1 + 1 + 1, 1, none⟩ (x1)).setCell ⟨w.heap.size + 1 + 1 + 1, 2, none⟩ (x2)).cell? ⟨w.heap.size + 1, 2, none⟩ = some (.slice cbx.l cbx.nl cbx.cl) ∧ (((w'.setCell ⟨w.heap.size + 1 + 1 + 1, 0, none⟩ (x0)).setCell ⟨w.heap.size + 1 + 1 + 1, 1, none⟩ (x1)).setCell ⟨w.heap.size + 1 + 1 + 1, 2, none⟩ (x2)).cell? ⟨w.heap.size + 1, 3, none⟩ = some (.bool cbz.n) ∧ (((w'.setCell ⟨w.heap.size + 1 + 1 + 1, 0, none⟩ (x0)).setCell ⟨w.heap.size + 1 + 1 + 1, 1, none⟩ (x1)).setCell ⟨w.heap.size + 1 + 1 + 1, 2, none⟩ (x2)).cell? ⟨w.heap.size + 1, 4, none⟩ = some (.slice cbz.u cbz.nu cbz.cu) ∧ (((w'.setCell ⟨w.heap.size + 1 + 1 + 1, 0, none⟩ (x0)).setCell ⟨w.heap.size + 1 + 1 + 1, 1, none⟩ (x1)).setCell ⟨w.heap.size + 1 + 1 + 1, 2, none⟩ (x2)).cell? ⟨w.heap.size + 1, 5, none⟩ = some (.slice cbz.l cbz.nl cbz.cl) ∧ (((w'.setCell ⟨w.heap.size + 1 + 1 + 1, 0, none⟩ (x0)).setCell ⟨w.heap.size + 1 + 1 + 1, 1, none⟩ (x1)).setCell ⟨w.heap.size + 1 + 1 + 1, 2, none⟩ (x2)).cell? ⟨w.heap.size + 1 + 1, 0, none⟩ = some (.bool ccx.n) ∧ (((w'.setCell ⟨w.heap.size + 1 + 1 + 1, 0, none⟩ (x0)).setCell ⟨w.heap.size + 1 + 1 + 1, 1, none⟩ (x1)).setCell ⟨w.heap.size + 1 + 1 + 1, 2, none⟩ (x2)).cell? ⟨w.heap.size + 1 + 1, 1, none⟩ = some (.slice ccx.u ccx.nu ccx.cu) ∧ (((w'.setCell ⟨w.heap.size + 1 + 1 + 1, 0, none⟩ (x0)).setCell ⟨w.heap.size + 1 + 1 + 1, 1, none⟩ (x1)).setCell ⟨w.heap.size + 1 + 1 + 1, 2, none⟩ (x2)).cell? ⟨w.heap.size + 1 + 1, 2, none⟩ = some (.slice ccx.l ccx.nl ccx.cl) ∧ (((w'.setCell ⟨w.heap.size + 1 + 1 + 1, 0, none⟩ (x0)).setCell ⟨w.heap.size + 1 + 1 + 1, 1, none⟩ (x1)).setCell ⟨w.heap.size + 1 + 1 + 1, 2, none⟩ (x2)).cell? ⟨w.heap.size + 1 + 1, 3, none⟩ = some (.bool ccz.n) ∧ (((w'.setCell ⟨w.heap.size + 1 + 1 + 1, 0, none⟩ (x0)).setCell ⟨w.heap.size + 1 + 1 + 1, 1, none⟩ (x1)).setCell ⟨w.heap.size + 1 + 1 + 1, 2, none⟩ (x2)).cell? ⟨w.heap.size + 1 + 1, 4, none⟩ = some (.slice ccz.u ccz.nu ccz.cu) ∧ (((w'.setCell ⟨w.heap.size + 1 + 1 + 1, 0, none⟩ (x0)).setCell ⟨w.heap.size + 1 + 1 + 1, 1, none⟩ (x1)).setCell ⟨w.heap.size + 1 + 1 + 1, 2, none⟩ (x2)).cell? ⟨w.heap.size + 1 + 1, 5, none⟩ = some (.slice ccz.l ccz.nl ccz.cl)) := fun w' hb x0 x1 x2 => ⟨((HK0.out.below hb (by rw [HSZ.out]; omega)).off3 (g := w.heap.size + 1 + 1 + 1) (by omega) x0 x1 x2).cell 0, ((HK0.out.below hb (by rw [HSZ.out]; omega)).off3 (g := w.heap.size + 1 + 1 + 1) (by omega) x0 x1 x2).cell 1, ((HK0.out.below hb (by rw [HSZ.out]; omega)).off3 (g := w.heap.size + 1 + 1 + 1) (by omega) x0 x1 x2).cell 2, ((HK0.out.below hb (by rw [HSZ.out]; omega)).off3 (g := w.heap.size + 1 + 1 + 1) (by omega) x0 x1 x2).cell 3, ((HK0.out.below hb (by rw [HSZ.out]; omega)).off3 (g := w.heap.size + 1 + 1 + 1) (by omega) x0 x1 x2).cell 4, ((HK0.out.below hb (by rw [HSZ.out]; omega)).off3 (g := w.heap.size + 1 + 1 + 1) (by omega) x0 x1 x2).cell 5, ((HK1.out.below hb (by rw [HSZ.out]; omega)).off3 (g := w.heap.size + 1 + 1 + 1) (by omega) x0 x1 x2).cell 0, ((HK1.out.below hb (by rw [HSZ.out]; omega)).off3 (g := w.heap.size + 1 + 1 + 1) (by omega) x0 x1 x2).cell 1, ((HK1.out.below hb (by rw [HSZ.out]; omega)).off3 (g := w.heap.size + 1 + 1 + 1) (by omega) x0 x1 x2).cell 2, ((HK1.out.below hb (by rw [HSZ.out]; omega)).off3 (g := w.heap.size + 1 + 1 + 1) (by omega) x0 x1 x2).cell 3, ((HK1.out.below hb (by rw [HSZ.out]; omega)).off3 (g := w.heap.size + 1 + 1 + 1) (by omega) x0 x1 x2).cell 4, ((HK1.out.below hb (by rw [HSZ.out]; omega)).off3 (g := w.heap.size + 1 + 1 + 1) (by omega) x0 x1 x2).cell 5, ((HK2.out.below hb (by rw [HSZ.out]; omega)).off3 (g := w.heap.size + 1 + 1 + 1) (by omega) x0 x1 x2).cell 0, ((HK2.out.below hb (by rw [HSZ.out]; omega)).off3 (g := w.heap.size + 1 + 1 + 1) (by omega) x0 x1 x2).cell 1, ((HK2.out.below hb (by rw [HSZ.out]; omega)).off3 (g := w.heap.size + 1 + 1 + 1) (by omega) x0 x1 x2).cell 2, ((HK2.out.below hb (by rw [HSZ.out]; omega)).off3 (g := w.heap.size + 1 + 1 + 1) (by omega) x0 x1 x2).cell 3, ((HK2.out.below hb (by rw [HSZ.out]; omega)).off3 (g := w.heap.size + 1 + 1 + 1) (by omega) x0 x1 x2).cell 4, ((HK2.out.below hb (by rw [HSZ.out]; omega)).off3 (g := w.heap.size + 1 + 1 + 1) (by omega) x0 x1 x2).cell 5⟩
  obtain ⟨z0, z1, z2, z3, z4, z5, z6, z7, z8, z9, z10, z11, z12, z13, z14, z15, z16, z17⟩ := HS.out W0 (Below.refl _ _)
  go_region_held3 (fun w' => w'.cell? ⟨w.heap.size, 0, none⟩ = some (.bool cax.n) ∧ w'.cell? ⟨w.heap.size, 1, none⟩ = some (.slice cax.u cax.nu cax.cu) ∧ w'.cell? ⟨w.heap.size, 2, none⟩ = some (.slice cax.l cax.nl cax.cl) ∧ w'.cell? ⟨w.heap.size, 3, none⟩ = some (.bool cay.n) ∧ w'.cell? ⟨w.heap.size, 4, none⟩ = some (.slice cay.u cay.nu cay.cu) ∧ w'.cell? ⟨w.heap.size, 5, none⟩ = some (.slice cay.l cay.nl cay.cl) ∧ w'.cell? ⟨w.heap.size + 1, 0, none⟩ = some (.bool cbx.n) ∧ w'.cell? ⟨w.heap.size + 1, 1, none⟩ = some (.slice cbx.u cbx.nu cbx.cu) ∧ w'.cell? ⟨w.heap.size + 1, 2, none⟩ = some (.slice cbx.l cbx.nl cbx.cl) ∧ w'.cell? ⟨w.heap.size + 1, 3, none⟩ = some (.bool cbz.n) ∧ w'.cell? ⟨w.heap.size + 1, 4, none⟩ = some (.slice cbz.u cbz.nu cbz.cu) ∧ w'.cell? ⟨w.heap.size + 1, 5, none⟩ = some (.slice cbz.l cbz.nl cbz.cl) ∧ w'.cell? ⟨w.heap.size + 1 + 1, 0, none⟩ = some (.bool ccx.n) ∧ w'.cell? ⟨w.heap.size + 1 + 1, 1, none⟩ = some (.slice ccx.u ccx.nu ccx.cu) ∧ w'.cell? ⟨w.heap.size + 1 + 1, 2, none⟩ = some (.slice ccx.l ccx.nl ccx.cl) ∧ w'.cell? ⟨w.heap.size + 1 + 1, 3, none⟩ = some (.bool ccz.n) ∧ w'.cell? ⟨w.heap.size + 1 + 1, 4, none⟩ = some (.slice ccz.u ccz.nu ccz.cu) ∧ w'.cell? ⟨w.heap.size + 1 + 1, 5, none⟩ = some (.slice ccz.l ccz.nl ccz.cl)) (first | go_keep | exact hs1 | exact hs2 | exact hs3 | exact hkS)
    (first
      | (go_at_call_of 76 (Value.agg #[Value.bool cbx.n, Value.slice cbx.u cbx.nu cbx.cu, Value.slice cbx.l cbx.nl cbx.cl, Value.bool cbz.n, Value.slice cbz.u cbz.nu cbz.cu, Value.slice cbz.l cbz.nl cbz.cl]); refine (wayMinus_calls (w := W0.drew) ⟨_, _, rfl, (Hbx.out.below (Below.drew (Below.refl _ _))), (Hbz.out.below (Below.drew (Below.refl _ _)))⟩ ⟨_, _, rfl, (Hax.out.below (Below.drew (Below.refl _ _))), (Hay.out.below (Below.drew (Below.refl _ _)))⟩ F3.out F4.out F1.out F2.out HL.out).mono ?_; rintro e w1 ⟨hb1, v1, rfl, hv1⟩; have hbl1 : Below W0.heap.size W0 w1 := (Below.drew (Below.refl _ W0)).trans hb1; have hw1 := hv1; obtain ⟨d1, e1, rfl, hx1, hy1⟩ := hw1; have hs1 := HS.out w1 hbl1)
      | (go_at_call_of 76 (Value.agg #[Value.bool ccx.n, Value.slice ccx.u ccx.nu ccx.cu, Value.slice ccx.l ccx.nl ccx.cl, Value.bool ccz.n, Value.slice ccz.u ccz.nu ccz.cu, Value.slice ccz.l ccz.nl ccz.cl]); refine (wayMinus_calls ⟨_, _, rfl, (Hcx.out.below hbl1), (Hcz.out.below hbl1)⟩ ⟨_, _, rfl, (Hax.out.below hbl1), (Hay.out.below hbl1)⟩ F5.out F6.out F1.out F2.out HL.out).mono ?_; rintro e w2 ⟨hb2, v2, rfl, hv2⟩; have hbl2 := hbl1.trans (hb2.mono hbl1.size); have hw2 := hv2; obtain ⟨d2, e2, rfl, hx2, hy2⟩ := hw2; have hs2 := HS.out w2 hbl2)
      | (go_at_call 61; refine (wayCross_calls (hv1.below hb2) hv2 (F3.out.sub F1.out) (F4.out.sub F2.out) (F5.out.sub F1.out) (F6.out.sub F2.out) HM.out).mono ?_; rintro e w3 ⟨hb3, v3, rfl, hv3⟩; have hbl3 := hbl2.trans (hb3.mono hbl2.size); obtain ⟨d3, rfl⟩ := qv_open hv3; have hs3 := HS.out w3 hbl3; have hkr := HK3.out.below hbl3 (by rw [HSZ.out]; omega); obtain ⟨r0, r1, r2, f0, f1, f2⟩ := hkr.all3; have hkS := HSS.out w3 hbl3 (.bool d3.n) (.slice d3.u d3.nu d3.cu) (.slice d3.l d3.nl d3.cl))
      )
  all_goals
    go_wp2
    obtain ⟨k0, k1, k2, _, _, _⟩ := (hkr.put3 (.bool d3.n) (.slice d3.u d3.nu d3.cu) (.slice d3.l d3.nl d3.cl)).all3
    refine bodyPost_ret (v := .agg #[.bool d3.n, .slice d3.u d3.nu d3.cu, .slice d3.l d3.nl d3.cl]) (by simp [results, Tryz.results69, go_sem, k0, k1, k2]) rfl ⟨Below.put3 (HB0.out.trans (hbl3.mono HB0.out.size)) (by omega) (.bool d3.n) (.slice d3.u d3.nu d3.cu) (.slice d3.l d3.nl d3.cl), _, rfl, ?_⟩
    have hst := Stays.put3 hkr (by simp [notLimb]) (.bool d3.n) (.slice d3.u d3.nu d3.cu) (.slice d3.l d3.nl d3.cl) rfl rfl rfl
    exact hst.qv hv3

/-- Turn: by how much three points turn. -/
theorem wayTurn_calls {w : World} {va vb vc : Value} {ax ay bx bz cx cz : Rat} {k : Nat} (ha : WV w va ax ay) (hb : WV w vb bx bz) (hc : WV w vc cx cz) (f1 : QS k ax) (f2 : QS k ay) (f3 : QS k bx) (f4 : QS k bz) (f5 : QS k cx) (f6 : QS k cz) (hk : 8 * k + 5 ≤ 35184372088640) :
    Calls Tryz.prog 69 #[va, vb, vc] w fun e w' => Below w.heap.size w w' ∧ ∃ v, e = .returned v ∧ QV w' v ((bx - ax) * (cz - ay) - (bz - ay) * (cx - ax)) := by
  obtain ⟨c1, c2, rfl, h1, h2⟩ := ha
  obtain ⟨c3, c4, rfl, h3, h4⟩ := hb
  obtain ⟨c5, c6, rfl, h5, h6⟩ := hc
  exact wayTurn_walk h1 h2 h3 h4 h5 h6 f1 f2 f3 f4 f5 f6 hk

set_option maxHeartbeats 4000000 in
set_option maxRecDepth 100000 in
theorem turn_walk {w : World} {ax az bx bz cx cz : ByteArray} (s1 : ax.size ≤ 1048576) (s2 : az.size ≤ 1048576) (s3 : bx.size ≤ 1048576) (s4 : bz.size ≤ 1048576) (s5 : cx.size ≤ 1048576) (s6 : cz.size ≤ 1048576) :
    Calls Tryz.prog 36 #[.agg #[.string ax, .string az], .agg #[.string bx, .string bz], .agg #[.string cx, .string cz]] w fun e w' => Below w.heap.size w w' ∧ ∃ v, e = .returned v ∧ QV w' v ((rd bx.data.toList - rd ax.data.toList) * (rd cz.data.toList - rd az.data.toList) - (rd bz.data.toList - rd az.data.toList) * (rd cx.data.toList - rd ax.data.toList)) := by
  obtain ⟨hb0, hk0, hk1, hk2, hk3, hsz⟩ := boxes4 w #[.string ax, .string az] #[.string bx, .string bz] #[.string cx, .string cz] #[.bool false, .slice none 0 0, .slice none 0 0] 24 24 24 63
  have HB0 := hideIt hb0
  have HSZ := hideIt hsz
  have HK0 := hideIt hk0
  have HK1 := hideIt hk1
  have HK2 := hideIt hk2
  have HK3 := hideIt hk3
  have S1 := hideIt s1
  have S2 := hideIt s2
  have S3 := hideIt s3
  have S4 := hideIt s4
  have S5 := hideIt s5
  have S6 := hideIt s6
  clear hb0 hsz hk0 hk1 hk2 hk3  s1 s2 s3 s4 s5 s6
  have HKB : Hid (8 * 4194309 + 5 ≤ 35184372088640) := by show _ ≤ _; omega
  have L1 : Hid (ax.data.toList.length ≤ 4294967296) := by rw [str_len]; have := S1.out; show _ ≤ _; omega
  have F1 : Hid (QS 4194309 (rd ax.data.toList)) := (QS.rd _).mono (by rw [str_len]; have := S1.out; omega)
  have L2 : Hid (az.data.toList.length ≤ 4294967296) := by rw [str_len]; have := S2.out; show _ ≤ _; omega
  have F2 : Hid (QS 4194309 (rd az.data.toList)) := (QS.rd _).mono (by rw [str_len]; have := S2.out; omega)
  have L3 : Hid (bx.data.toList.length ≤ 4294967296) := by rw [str_len]; have := S3.out; show _ ≤ _; omega
  have F3 : Hid (QS 4194309 (rd bx.data.toList)) := (QS.rd _).mono (by rw [str_len]; have := S3.out; omega)
  have L4 : Hid (bz.data.toList.length ≤ 4294967296) := by rw [str_len]; have := S4.out; show _ ≤ _; omega
  have F4 : Hid (QS 4194309 (rd bz.data.toList)) := (QS.rd _).mono (by rw [str_len]; have := S4.out; omega)
  have L5 : Hid (cx.data.toList.length ≤ 4294967296) := by rw [str_len]; have := S5.out; show _ ≤ _; omega
  have F5 : Hid (QS 4194309 (rd cx.data.toList)) := (QS.rd _).mono (by rw [str_len]; have := S5.out; omega)
  have L6 : Hid (cz.data.toList.length ≤ 4294967296) := by rw [str_len]; have := S6.out; show _ ≤ _; omega
  have F6 : Hid (QS 4194309 (rd cz.data.toList)) := (QS.rd _).mono (by rw [str_len]; have := S6.out; omega)
  go_enter Tryz.func36, Tryz.ntmps36
  go_wp2_with fail
  generalize ((((w.alloc (.cells #[.string ax, .string az] 24)).alloc (.cells #[.string bx, .string bz] 24)).alloc (.cells #[.string cx, .string cz] 24)).alloc (.cells #[.bool false, .slice none 0 0, .slice none 0 0] 63)) = W0 at *
  have HS : Hid (∀ w', Below W0.heap.size W0 w' → w'.cell? ⟨w.heap.size, 0, none⟩ = some (.string ax) ∧ w'.cell? ⟨w.heap.size, 1, none⟩ = some (.string az) ∧ w'.cell? ⟨w.heap.size + 1, 0, none⟩ = some (.string bx) ∧ w'.cell? ⟨w.heap.size + 1, 1, none⟩ = some (.string bz) ∧ w'.cell? ⟨w.heap.size + 1 + 1, 0, none⟩ = some (.string cx) ∧ w'.cell? ⟨w.heap.size + 1 + 1, 1, none⟩ = some (.string cz)) := fun w' hb => ⟨(HK0.out.below hb (by rw [HSZ.out]; omega)).cell 0, (HK0.out.below hb (by rw [HSZ.out]; omega)).cell 1, (HK1.out.below hb (by rw [HSZ.out]; omega)).cell 0, (HK1.out.below hb (by rw [HSZ.out]; omega)).cell 1, (HK2.out.below hb (by rw [HSZ.out]; omega)).cell 0, (HK2.out.below hb (by rw [HSZ.out]; omega)).cell 1⟩
  have HSS : Hid (∀ w', Below W0.heap.size W0 w' → ∀ x0 x1 x2 : Value, (((w'.setCell ⟨w.heap.size + 1 + 1 + 1, 0, none⟩ (x0)).setCell ⟨w.heap.size + 1 + 1 + 1, 1, none⟩ (x1)).setCell ⟨w.heap.size + 1 + 1 + 1, 2, none⟩ (x2)).cell? ⟨w.heap.size, 0, none⟩ = some (.string ax) ∧ (((w'.setCell ⟨w.heap.size + 1 + 1 + 1, 0, none⟩ (x0)).setCell ⟨w.heap.size + 1 + 1 + 1, 1, none⟩ (x1)).setCell ⟨w.heap.size + 1 + 1 + 1, 2, none⟩ (x2)).cell? ⟨w.heap.size, 1, none⟩ = some (.string az) ∧ (((w'.setCell ⟨w.heap.size + 1 + 1 + 1, 0, none⟩ (x0)).setCell ⟨w.heap.size + 1 + 1 + 1, 1, none⟩ (x1)).setCell ⟨w.heap.size + 1 + 1 + 1, 2, none⟩ (x2)).cell? ⟨w.heap.size + 1, 0, none⟩ = some (.string bx) ∧ (((w'.setCell ⟨w.heap.size + 1 + 1 + 1, 0, none⟩ (x0)).setCell ⟨w.heap.size + 1 + 1 + 1, 1, none⟩ (x1)).setCell ⟨w.heap.size + 1 + 1 + 1, 2, none⟩ (x2)).cell? ⟨w.heap.size + 1, 1, none⟩ = some (.string bz) ∧ (((w'.setCell ⟨w.heap.size + 1 + 1 + 1, 0, none⟩ (x0)).setCell ⟨w.heap.size + 1 + 1 + 1, 1, none⟩ (x1)).setCell ⟨w.heap.size + 1 + 1 + 1, 2, none⟩ (x2)).cell? ⟨w.heap.size + 1 + 1, 0, none⟩ = some (.string cx) ∧ (((w'.setCell ⟨w.heap.size + 1 + 1 + 1, 0, none⟩ (x0)).setCell ⟨w.heap.size + 1 + 1 + 1, 1, none⟩ (x1)).setCell ⟨w.heap.size + 1 + 1 + 1, 2, none⟩ (x2)).cell? ⟨w.heap.size + 1 + 1, 1, none⟩ = some (.string cz)) := fun w' hb x0 x1 x2 => ⟨((HK0.out.below hb (by rw [HSZ.out]; omega)).off3 (g := w.heap.size + 1 + 1 + 1) (by omega) x0 x1 x2).cell 0, ((HK0.out.below hb (by rw [HSZ.out]; omega)).off3 (g := w.heap.size + 1 + 1 + 1) (by omega) x0 x1 x2).cell 1, ((HK1.out.below hb (by rw [HSZ.out]; omega)).off3 (g := w.heap.size + 1 + 1 + 1) (by omega) x0 x1 x2).cell 0, ((HK1.out.below hb (by rw [HSZ.out]; omega)).off3 (g := w.heap.size + 1 + 1 + 1) (by omega) x0 x1 x2).cell 1, ((HK2.out.below hb (by rw [HSZ.out]; omega)).off3 (g := w.heap.size + 1 + 1 + 1) (by omega) x0 x1 x2).cell 0, ((HK2.out.below hb (by rw [HSZ.out]; omega)).off3 (g := w.heap.size + 1 + 1 + 1) (by omega) x0 x1 x2).cell 1⟩
  obtain ⟨z0, z1, z2, z3, z4, z5⟩ := HS.out W0 (Below.refl _ _)
  go_region_held3 (fun w' => w'.cell? ⟨w.heap.size, 0, none⟩ = some (.string ax) ∧ w'.cell? ⟨w.heap.size, 1, none⟩ = some (.string az) ∧ w'.cell? ⟨w.heap.size + 1, 0, none⟩ = some (.string bx) ∧ w'.cell? ⟨w.heap.size + 1, 1, none⟩ = some (.string bz) ∧ w'.cell? ⟨w.heap.size + 1 + 1, 0, none⟩ = some (.string cx) ∧ w'.cell? ⟨w.heap.size + 1 + 1, 1, none⟩ = some (.string cz)) (first | go_keep | exact hs1 | exact hs2 | exact hs3 | exact hs4 | exact hkS)
    (first
      | (go_at_call_of 45 (Value.agg #[Value.string ax, Value.string az]); refine (wayRead_calls (w := W0.drew) ⟨ax, az, rfl, rfl, rfl⟩ L1.out L2.out).mono ?_; rintro e w1 ⟨hb1, v1, rfl, hv1⟩; have hbl1 : Below W0.heap.size W0 w1 := (Below.drew (Below.refl _ W0)).trans hb1; have hw1 := hv1; obtain ⟨d1, e1, rfl, hx1, hy1⟩ := hw1; have hs1 := HS.out w1 hbl1)
      | (go_at_call_of 45 (Value.agg #[Value.string bx, Value.string bz]); refine (wayRead_calls ⟨bx, bz, rfl, rfl, rfl⟩ L3.out L4.out).mono ?_; rintro e w2 ⟨hb2, v2, rfl, hv2⟩; have hbl2 := hbl1.trans (hb2.mono hbl1.size); have hw2 := hv2; obtain ⟨d2, e2, rfl, hx2, hy2⟩ := hw2; have hs2 := HS.out w2 hbl2)
      | (go_at_call_of 45 (Value.agg #[Value.string cx, Value.string cz]); refine (wayRead_calls ⟨cx, cz, rfl, rfl, rfl⟩ L5.out L6.out).mono ?_; rintro e w3 ⟨hb3, v3, rfl, hv3⟩; have hbl3 := hbl2.trans (hb3.mono hbl2.size); have hw3 := hv3; obtain ⟨d3, e3, rfl, hx3, hy3⟩ := hw3; have hs3 := HS.out w3 hbl3)
      | (go_at_call 69; refine (wayTurn_calls ((hv1.below hb2).below hb3) (hv2.below hb3) hv3 F1.out F2.out F3.out F4.out F5.out F6.out HKB.out).mono ?_; rintro e w4 ⟨hb4, v4, rfl, hv4⟩; have hbl4 := hbl3.trans (hb4.mono hbl3.size); obtain ⟨d4, rfl⟩ := qv_open hv4; have hs4 := HS.out w4 hbl4; have hkr := HK3.out.below hbl4 (by rw [HSZ.out]; omega); obtain ⟨r0, r1, r2, f0, f1, f2⟩ := hkr.all3; have hkS := HSS.out w4 hbl4 (.bool d4.n) (.slice d4.u d4.nu d4.cu) (.slice d4.l d4.nl d4.cl))
      )
  all_goals
    go_wp2
    obtain ⟨k0, k1, k2, _, _, _⟩ := (hkr.put3 (.bool d4.n) (.slice d4.u d4.nu d4.cu) (.slice d4.l d4.nl d4.cl)).all3
    refine bodyPost_ret (v := .agg #[.bool d4.n, .slice d4.u d4.nu d4.cu, .slice d4.l d4.nl d4.cl]) (by simp [results, Tryz.results36, go_sem, k0, k1, k2]) rfl ⟨Below.put3 (HB0.out.trans (hbl4.mono HB0.out.size)) (by omega) (.bool d4.n) (.slice d4.u d4.nu d4.cu) (.slice d4.l d4.nl d4.cl), _, rfl, ?_⟩
    have hst := Stays.put3 hkr (by simp [notLimb]) (.bool d4.n) (.slice d4.u d4.nu d4.cu) (.slice d4.l d4.nl d4.cl) rfl rfl rfl
    exact hst.qv hv4

/-- turn. -/
theorem turn_calls {w : World} {va vb vc : Value} {ax az bx bz cx cz : List UInt8} (ha : PV va ax az) (hb : PV vb bx bz) (hc : PV vc cx cz) (s1 : ax.length ≤ 1048576) (s2 : az.length ≤ 1048576) (s3 : bx.length ≤ 1048576) (s4 : bz.length ≤ 1048576) (s5 : cx.length ≤ 1048576) (s6 : cz.length ≤ 1048576) :
    Calls Tryz.prog 36 #[va, vb, vc] w fun e w' => Below w.heap.size w w' ∧ ∃ v, e = .returned v ∧ QV w' v ((rd bx - rd ax) * (rd cz - rd az) - (rd bz - rd az) * (rd cx - rd ax)) := by
  obtain ⟨a, a', rfl, rfl, rfl⟩ := ha
  obtain ⟨b, b', rfl, rfl, rfl⟩ := hb
  obtain ⟨c, c', rfl, rfl, rfl⟩ := hc
  rw [str_len] at s1 s2 s3 s4 s5 s6
  exact turn_walk s1 s2 s3 s4 s5 s6

set_option maxHeartbeats 4000000 in
set_option maxRecDepth 100000 in
theorem area2_walk {w : World} {ax az bx bz cx cz : ByteArray} (s1 : ax.size ≤ 1048576) (s2 : az.size ≤ 1048576) (s3 : bx.size ≤ 1048576) (s4 : bz.size ≤ 1048576) (s5 : cx.size ≤ 1048576) (s6 : cz.size ≤ 1048576) (tab : Tab w) :
    Calls Tryz.prog 12 #[.agg #[.string ax, .string az], .agg #[.string bx, .string bz], .agg #[.string cx, .string cz]] w fun e w' => Below w.heap.size w w' ∧ ∃ s : ByteArray, e = .returned (.string s) ∧ s.data.toList = tx ((rd bx.data.toList - rd ax.data.toList) * (rd cz.data.toList - rd az.data.toList) - (rd bz.data.toList - rd az.data.toList) * (rd cx.data.toList - rd ax.data.toList)) := by
  have FQ : Hid (QS 33554489 ((rd bx.data.toList - rd ax.data.toList) * (rd cz.data.toList - rd az.data.toList) - (rd bz.data.toList - rd az.data.toList) * (rd cx.data.toList - rd ax.data.toList))) := by
    have g1 : QS 4194309 (rd ax.data.toList) := (QS.rd _).mono (by rw [str_len]; omega)
    have g2 : QS 4194309 (rd az.data.toList) := (QS.rd _).mono (by rw [str_len]; omega)
    have g3 : QS 4194309 (rd bx.data.toList) := (QS.rd _).mono (by rw [str_len]; omega)
    have g4 : QS 4194309 (rd bz.data.toList) := (QS.rd _).mono (by rw [str_len]; omega)
    have g5 : QS 4194309 (rd cx.data.toList) := (QS.rd _).mono (by rw [str_len]; omega)
    have g6 : QS 4194309 (rd cz.data.toList) := (QS.rd _).mono (by rw [str_len]; omega)
    exact (((g3.sub g1).mul (g6.sub g2)).sub ((g4.sub g2).mul (g5.sub g1))).mono (by omega)
  obtain ⟨hb0, _, _, _, _⟩ := boxes3 w #[.string ax, .string az] #[.string bx, .string bz] #[.string cx, .string cz] 24 24 24
  have HB0 := hideIt hb0
  have HT := hideIt (tab.below hb0)
  clear hb0 tab
  go_enter Tryz.func12, Tryz.ntmps12
  go_wp2_with fail
  generalize (((w.alloc (.cells #[.string ax, .string az] 24)).alloc (.cells #[.string bx, .string bz] 24)).alloc (.cells #[.string cx, .string cz] 24)) = W0 at *
  refine (turn_walk (w := W0) s1 s2 s3 s4 s5 s6).mono ?_
  rintro e w1 ⟨hb1, v1, rfl, hv1⟩
  have H1 := hideIt (And.intro hb1 hv1)
  clear hb1 hv1
  go_wp2_with fail
  refine (text_calls H1.out.2 FQ.out (by decide) (HT.out.below H1.out.1)).mono ?_
  rintro e w2 ⟨hb2, s, rfl, hs⟩
  have H2 := hideIt (And.intro (H1.out.1.trans (hb2.mono H1.out.1.size)) hs)
  clear hb2 hs
  go_wp2
  go_ret
  exact ⟨HB0.out.trans (H2.out.1.mono HB0.out.size), _, rfl, H2.out.2⟩

set_option maxHeartbeats 4000000 in
set_option maxRecDepth 100000 in
/-- Far2: the square of the distance. -/
theorem far2_walk {w : World} {px pz qx qz : ByteArray} (s1 : px.size ≤ 1048576) (s2 : pz.size ≤ 1048576) (s3 : qx.size ≤ 1048576) (s4 : qz.size ≤ 1048576) (tab : Tab w) :
    Calls Tryz.prog 27 #[.agg #[.string px, .string pz], .agg #[.string qx, .string qz]] w fun e w' => Below w.heap.size w w' ∧ ∃ s : ByteArray, e = .returned (.string s) ∧ s.data.toList = tx ((rd qx.data.toList - rd px.data.toList) * (rd qx.data.toList - rd px.data.toList) + (rd qz.data.toList - rd pz.data.toList) * (rd qz.data.toList - rd pz.data.toList)) := by
  have g1 : QS 4194309 (rd px.data.toList) := (QS.rd _).mono (by rw [str_len]; omega)
  have g2 : QS 4194309 (rd pz.data.toList) := (QS.rd _).mono (by rw [str_len]; omega)
  have g3 : QS 4194309 (rd qx.data.toList) := (QS.rd _).mono (by rw [str_len]; omega)
  have g4 : QS 4194309 (rd qz.data.toList) := (QS.rd _).mono (by rw [str_len]; omega)
  have G1 := hideIt (g3.sub g1)
  have G2 := hideIt (g4.sub g2)
  have FQ := hideIt (((g3.sub g1).mul (g3.sub g1)).add ((g4.sub g2).mul (g4.sub g2)))
  obtain ⟨hb0, _, _, _⟩ := boxes2 w #[.string px, .string pz] #[.string qx, .string qz] 24 24
  have HB0 := hideIt hb0
  have HT := hideIt (tab.below hb0)
  clear hb0 tab g1 g2 g3 g4
  go_enter Tryz.func27, Tryz.ntmps27
  go_wp2_with fail
  generalize ((w.alloc (.cells #[.string px, .string pz] 24)).alloc (.cells #[.string qx, .string qz] 24)) = W0 at *
  refine (between_walk (w := W0) s1 s2 s3 s4).mono ?_
  rintro e w1 ⟨hb1, _, rfl, c, d, rfl, hc, hd⟩
  have H1 := hideIt (And.intro hb1 (And.intro hc hd))
  clear hb1 hc hd
  go_wp2_with fail
  refine (wayDot_walk (H1.out.2.1.below (below_new _ _)) (H1.out.2.2.below (below_new _ _)) (H1.out.2.1.below (below_new _ _)) (H1.out.2.2.below (below_new _ _)) G1.out G2.out G1.out G2.out (by decide)).mono ?_
  rintro e w2 ⟨hb2, v2, rfl, hv2⟩
  have hb12 := (H1.out.1.trans ((below_new w1 _).mono H1.out.1.size)).trans (hb2.mono (Nat.le_trans H1.out.1.size (below_new w1 _).size))
  have H2 := hideIt (And.intro hb12 hv2)
  clear hb2 hv2 hb12
  go_wp2_with fail
  refine (text_calls H2.out.2 FQ.out (by decide) (HT.out.below H2.out.1)).mono ?_
  rintro e w3 ⟨hb3, s, rfl, hs⟩
  have H3 := hideIt (And.intro (H2.out.1.trans (hb3.mono H2.out.1.size)) hs)
  clear hb3 hs
  go_wp2
  go_ret
  exact ⟨HB0.out.trans (H3.out.1.mono HB0.out.size), _, rfl, H3.out.2⟩
end Go.Proofs.YthkemecmngecaaaGreatDoor
/- Walks: between, Far2 of points of any texts. -/
namespace Go.Proofs.YthkemecmngecaaaGreatDoor
open Go.RowKit Cx

attribute [local go_sem ↓] Go.wp_at_zero Go.wp_at_succ

set_option maxHeartbeats 4000000 in
set_option maxRecDepth 100000 in
theorem betweenG_walk {w : World} {px pz qx qz : ByteArray} (s1 : px.size ≤ 4294967296) (s2 : pz.size ≤ 4294967296) (s3 : qx.size ≤ 4294967296) (s4 : qz.size ≤ 4294967296) {k : Nat} (f1 : QS k (rd px.data.toList)) (f2 : QS k (rd pz.data.toList)) (f3 : QS k (rd qx.data.toList)) (f4 : QS k (rd qz.data.toList)) (hk : k + k + 1 ≤ 35184372088640) :
    Calls Tryz.prog 46 #[.agg #[.string px, .string pz], .agg #[.string qx, .string qz]] w fun e w' => Below w.heap.size w w' ∧ ∃ v, e = .returned v ∧ WV w' v (rd qx.data.toList - rd px.data.toList) (rd qz.data.toList - rd pz.data.toList) := by
  obtain ⟨hb0, hk0, hk1, hk2, hsz⟩ := boxes3 w #[.string px, .string pz] #[.string qx, .string qz] #[.bool false, .slice none 0 0, .slice none 0 0, .bool false, .slice none 0 0, .slice none 0 0] 24 24 74
  have HB0 := hideIt hb0
  have HSZ := hideIt hsz
  have HK0 := hideIt hk0
  have HK1 := hideIt hk1
  have HK2 := hideIt hk2
  have S1 := hideIt s1
  have S2 := hideIt s2
  have S3 := hideIt s3
  have S4 := hideIt s4
  have F1 := hideIt f1
  have F2 := hideIt f2
  have F3 := hideIt f3
  have F4 := hideIt f4
  have HK := hideIt hk
  clear hb0 hsz hk0 hk1 hk2  s1 s2 s3 s4 f1 f2 f3 f4 hk
  have L1 : Hid (px.data.toList.length ≤ 4294967296) := by rw [str_len]; exact S1.out
  have L2 : Hid (pz.data.toList.length ≤ 4294967296) := by rw [str_len]; exact S2.out
  have L3 : Hid (qx.data.toList.length ≤ 4294967296) := by rw [str_len]; exact S3.out
  have L4 : Hid (qz.data.toList.length ≤ 4294967296) := by rw [str_len]; exact S4.out
  go_enter Tryz.func46, Tryz.ntmps46
  go_wp2_with fail
  generalize (((w.alloc (.cells #[.string px, .string pz] 24)).alloc (.cells #[.string qx, .string qz] 24)).alloc (.cells #[.bool false, .slice none 0 0, .slice none 0 0, .bool false, .slice none 0 0, .slice none 0 0] 74)) = W0 at *
  have HS : Hid (∀ w', Below W0.heap.size W0 w' → w'.cell? ⟨w.heap.size, 0, none⟩ = some (.string px) ∧ w'.cell? ⟨w.heap.size, 1, none⟩ = some (.string pz) ∧ w'.cell? ⟨w.heap.size + 1, 0, none⟩ = some (.string qx) ∧ w'.cell? ⟨w.heap.size + 1, 1, none⟩ = some (.string qz)) := fun w' hb => ⟨(HK0.out.below hb (by rw [HSZ.out]; omega)).cell 0, (HK0.out.below hb (by rw [HSZ.out]; omega)).cell 1, (HK1.out.below hb (by rw [HSZ.out]; omega)).cell 0, (HK1.out.below hb (by rw [HSZ.out]; omega)).cell 1⟩
  have HSS : Hid (∀ w', Below W0.heap.size W0 w' → ∀ x0 x1 x2 x3 x4 x5 : Value, ((((((w'.setCell ⟨w.heap.size + 1 + 1, 0, none⟩ (x0)).setCell ⟨w.heap.size + 1 + 1, 1, none⟩ (x1)).setCell ⟨w.heap.size + 1 + 1, 2, none⟩ (x2)).setCell ⟨w.heap.size + 1 + 1, 3, none⟩ (x3)).setCell ⟨w.heap.size + 1 + 1, 4, none⟩ (x4)).setCell ⟨w.heap.size + 1 + 1, 5, none⟩ (x5)).cell? ⟨w.heap.size, 0, none⟩ = some (.string px) ∧ ((((((w'.setCell ⟨w.heap.size + 1 + 1, 0, none⟩ (x0)).setCell ⟨w.heap.size + 1 + 1, 1, none⟩ (x1)).setCell ⟨w.heap.size + 1 + 1, 2, none⟩ (x2)).setCell ⟨w.heap.size + 1 + 1, 3, none⟩ (x3)).setCell ⟨w.heap.size + 1 + 1, 4, none⟩ (x4)).setCell ⟨w.heap.size + 1 + 1, 5, none⟩ (x5)).cell? ⟨w.heap.size, 1, none⟩ = some (.string pz) ∧ ((((((w'.setCell ⟨w.heap.size + 1 + 1, 0, none⟩ (x0)).setCell ⟨w.heap.size + 1 + 1, 1, none⟩ (x1)).setCell ⟨w.heap.size + 1 + 1, 2, none⟩ (x2)).setCell ⟨w.heap.size + 1 + 1, 3, none⟩ (x3)).setCell ⟨w.heap.size + 1 + 1, 4, none⟩ (x4)).setCell ⟨w.heap.size + 1 + 1, 5, none⟩ (x5)).cell? ⟨w.heap.size + 1, 0, none⟩ = some (.string qx) ∧ ((((((w'.setCell ⟨w.heap.size + 1 + 1, 0, none⟩ (x0)).setCell ⟨w.heap.size + 1 + 1, 1, none⟩ (x1)).setCell ⟨w.heap.size + 1 + 1, 2, none⟩ (x2)).setCell ⟨w.heap.size + 1 + 1, 3, none⟩ (x3)).setCell ⟨w.heap.size + 1 + 1, 4, none⟩ (x4)).setCell ⟨w.heap.size + 1 + 1, 5, none⟩ (x5)).cell? ⟨w.heap.size + 1, 1, none⟩ = some (.string qz)) := fun w' hb x0 x1 x2 x3 x4 x5 => ⟨((HK0.out.below hb (by rw [HSZ.out]; omega)).off6 (g := w.heap.size + 1 + 1) (by omega) x0 x1 x2 x3 x4 x5).cell 0, ((HK0.out.below hb (by rw [HSZ.out]; omega)).off6 (g := w.heap.size + 1 + 1) (by omega) x0 x1 x2 x3 x4 x5).cell 1, ((HK1.out.below hb (by rw [HSZ.out]; omega)).off6 (g := w.heap.size + 1 + 1) (by omega) x0 x1 x2 x3 x4 x5).cell 0, ((HK1.out.below hb (by rw [HSZ.out]; omega)).off6 (g := w.heap.size + 1 + 1) (by omega) x0 x1 x2 x3 x4 x5).cell 1⟩
  obtain ⟨z0, z1, z2, z3⟩ := HS.out W0 (Below.refl _ _)
  go_region_held3 (fun w' => w'.cell? ⟨w.heap.size, 0, none⟩ = some (.string px) ∧ w'.cell? ⟨w.heap.size, 1, none⟩ = some (.string pz) ∧ w'.cell? ⟨w.heap.size + 1, 0, none⟩ = some (.string qx) ∧ w'.cell? ⟨w.heap.size + 1, 1, none⟩ = some (.string qz)) (first | go_keep | exact hs1 | exact hs2 | exact hs3 | exact hkS)
    (first
      | (go_at_call_of 45 (Value.agg #[Value.string qx, Value.string qz]); refine (wayRead_calls (w := W0.drew) ⟨qx, qz, rfl, rfl, rfl⟩ L3.out L4.out).mono ?_; rintro e w1 ⟨hb1, v1, rfl, hv1⟩; have hbl1 : Below W0.heap.size W0 w1 := (Below.drew (Below.refl _ W0)).trans hb1; have hw1 := hv1; obtain ⟨d1, e1, rfl, hx1, hy1⟩ := hw1; have hs1 := HS.out w1 hbl1)
      | (go_at_call_of 45 (Value.agg #[Value.string px, Value.string pz]); refine (wayRead_calls ⟨px, pz, rfl, rfl, rfl⟩ L1.out L2.out).mono ?_; rintro e w2 ⟨hb2, v2, rfl, hv2⟩; have hbl2 := hbl1.trans (hb2.mono hbl1.size); have hw2 := hv2; obtain ⟨d2, e2, rfl, hx2, hy2⟩ := hw2; have hs2 := HS.out w2 hbl2)
      | (go_at_call 76; refine (wayMinus_calls (hv1.below hb2) hv2 F3.out F4.out F1.out F2.out HK.out).mono ?_; rintro e w3 ⟨hb3, v3, rfl, hv3⟩; have hbl3 := hbl2.trans (hb3.mono hbl2.size); have hw3 := hv3; obtain ⟨d3, e3, rfl, hx3, hy3⟩ := hw3; have hs3 := HS.out w3 hbl3; have hkr := HK2.out.below hbl3 (by rw [HSZ.out]; omega); obtain ⟨r0, r1, r2, r3, r4, r5, f0, f1, f2, f3, f4, f5⟩ := hkr.all6; have hkS := HSS.out w3 hbl3 (.bool d3.n) (.slice d3.u d3.nu d3.cu) (.slice d3.l d3.nl d3.cl) (.bool e3.n) (.slice e3.u e3.nu e3.cu) (.slice e3.l e3.nl e3.cl))
      )
  all_goals
    go_wp2
    obtain ⟨k0, k1, k2, k3, k4, k5, _, _, _, _, _, _⟩ := (hkr.put6 (.bool d3.n) (.slice d3.u d3.nu d3.cu) (.slice d3.l d3.nl d3.cl) (.bool e3.n) (.slice e3.u e3.nu e3.cu) (.slice e3.l e3.nl e3.cl)).all6
    refine bodyPost_ret (v := .agg #[.bool d3.n, .slice d3.u d3.nu d3.cu, .slice d3.l d3.nl d3.cl, .bool e3.n, .slice e3.u e3.nu e3.cu, .slice e3.l e3.nl e3.cl]) (by simp [results, Tryz.results46, go_sem, k0, k1, k2, k3, k4, k5]) rfl ⟨Below.put6 (HB0.out.trans (hbl3.mono HB0.out.size)) (by omega) (.bool d3.n) (.slice d3.u d3.nu d3.cu) (.slice d3.l d3.nl d3.cl) (.bool e3.n) (.slice e3.u e3.nu e3.cu) (.slice e3.l e3.nl e3.cl), _, rfl, ?_⟩
    have hst := Stays.put6 hkr (by simp [notLimb]) (.bool d3.n) (.slice d3.u d3.nu d3.cu) (.slice d3.l d3.nl d3.cl) (.bool e3.n) (.slice e3.u e3.nu e3.cu) (.slice e3.l e3.nl e3.cl) rfl rfl rfl rfl rfl rfl
    exact ⟨d3, e3, rfl, hst.qv hx3, hst.qv hy3⟩

set_option maxHeartbeats 4000000 in
set_option maxRecDepth 100000 in
theorem far2G_walk {w : World} {px pz qx qz : ByteArray} (s1 : px.size ≤ 4294967296) (s2 : pz.size ≤ 4294967296) (s3 : qx.size ≤ 4294967296) (s4 : qz.size ≤ 4294967296) {k : Nat} (g1 : QS k (rd px.data.toList)) (g2 : QS k (rd pz.data.toList)) (g3 : QS k (rd qx.data.toList)) (g4 : QS k (rd qz.data.toList)) (hk : 8 * k + 8 ≤ 35184372088640) (tab : Tab w) :
    Calls Tryz.prog 27 #[.agg #[.string px, .string pz], .agg #[.string qx, .string qz]] w fun e w' => Below w.heap.size w w' ∧ ∃ s : ByteArray, e = .returned (.string s) ∧ s.data.toList = tx ((rd qx.data.toList - rd px.data.toList) * (rd qx.data.toList - rd px.data.toList) + (rd qz.data.toList - rd pz.data.toList) * (rd qz.data.toList - rd pz.data.toList)) := by
  have GG := hideIt (And.intro g1 (And.intro g2 (And.intro g3 g4)))
  have G1 := hideIt (g3.sub g1)
  have G2 := hideIt (g4.sub g2)
  have FQ := hideIt (((g3.sub g1).mul (g3.sub g1)).add ((g4.sub g2).mul (g4.sub g2)))
  obtain ⟨hb0, _, _, _⟩ := boxes2 w #[.string px, .string pz] #[.string qx, .string qz] 24 24
  have HB0 := hideIt hb0
  have HT := hideIt (tab.below hb0)
  clear hb0 tab g1 g2 g3 g4
  go_enter Tryz.func27, Tryz.ntmps27
  go_wp2_with fail
  generalize ((w.alloc (.cells #[.string px, .string pz] 24)).alloc (.cells #[.string qx, .string qz] 24)) = W0 at *
  refine (betweenG_walk (w := W0) s1 s2 s3 s4 GG.out.1 GG.out.2.1 GG.out.2.2.1 GG.out.2.2.2 (by omega)).mono ?_
  rintro e w1 ⟨hb1, _, rfl, c, d, rfl, hc, hd⟩
  have H1 := hideIt (And.intro hb1 (And.intro hc hd))
  clear hb1 hc hd
  go_wp2_with fail
  refine (wayDot_walk (H1.out.2.1.below (below_new _ _)) (H1.out.2.2.below (below_new _ _)) (H1.out.2.1.below (below_new _ _)) (H1.out.2.2.below (below_new _ _)) G1.out G2.out G1.out G2.out (by omega)).mono ?_
  rintro e w2 ⟨hb2, v2, rfl, hv2⟩
  have hb12 := (H1.out.1.trans ((below_new w1 _).mono H1.out.1.size)).trans (hb2.mono (Nat.le_trans H1.out.1.size (below_new w1 _).size))
  have H2 := hideIt (And.intro hb12 hv2)
  clear hb2 hv2 hb12
  go_wp2_with fail
  refine (text_calls H2.out.2 FQ.out (by omega) (HT.out.below H2.out.1)).mono ?_
  rintro e w3 ⟨hb3, s, rfl, hs⟩
  have H3 := hideIt (And.intro (H2.out.1.trans (hb3.mono H2.out.1.size)) hs)
  clear hb3 hs
  go_wp2
  go_ret
  exact ⟨HB0.out.trans (H3.out.1.mono HB0.out.size), _, rfl, H3.out.2⟩
end Go.Proofs.YthkemecmngecaaaGreatDoor
