/- The law of six lines that touch a conic, of Brianchon (promise P7.6) holds of the landed program: for every conic k, every point u and all five ways v, told as texts, compasslaw.ConicBrianchon answers true (of six lines that touch a conic, the three lines through where neighbours meet, across, go through one point) and leaves its arguments as they were; its conditions: the arguments are together of bulk at most 1048576, and the listed package variables start as the program's text lays them. -/
import Derived.Test.YtgkjeoeliehihaaGreatDoorCards
import Derived.Test.YtgkjeoeliehihaaGreatDoorTie
import Derived.Test.YtgkjeoeliehihaaGreatDoorLMBR
import Derived.Test.YtgkjeoeliehihaaGreatDoorCJKBrian
import Derived.Test.YtgkjeoeliehihaaGreatDoorCGKBrian
import Derived.Test.YtgkjeoeliehihaaGreatDoorKFC
import Derived.ProofKit
import Derived.OpenShut
import Derived.ShutString
import Derived.ChangeMaps5
import Derived.Lib.SmallJoins
import Derived.Deep.DeepHandedRow
import Derived.Lib.LaidTab
namespace Go.Proofs.YtgkjeoeliehihaaGreatDoor
open Go.ChangeShapes Go.WideShapes Go.ChangeAt Go.RowKit Go.Lib Go.Joins Go.ChangeMaps

theorem own : ownKnob Tryz.prog.godebug = none := by kernel_rfl
theorem gTab : Tryz.prog.globalNamed "internal/strconv.uint64pow10" = some 3 := by kernel_rfl
theorem gTabType : (Tryz.prog.globals[3]?).map (·.type) = some 240 := by kernel_rfl
theorem cellsTab : Tryz.prog.cellsOf 240 = 20 := by kernel_rfl
theorem cellsU64 : Tryz.prog.cellsOf 116 = 1 := by kernel_rfl

set_option maxRecDepth 100000 in
/-- What the row's list gives: the table of the powers of ten. -/
theorem table {W : World} (h : laidMetH Tryz.prog Rows.conicBrianchonUptoRow.laid W) : Tab W := by
  have h' : laidMet Tryz.prog Rows.conicBrianchonUptoRow.laid W := h
  obtain ⟨ps, ⟨_, _, _, _, _, _, _, _, _, _, ⟨_, _, _, _, _, _, _, _, _, _, ⟨g, t, cs, fuel, p, q, hg, ht, hv, hd, _, _⟩, _⟩, _⟩, _⟩ := h'
  obtain rfl := Option.some.inj (gTab.symm.trans hg)
  obtain rfl := Option.some.inj (gTabType.symm.trans ht)
  have e := Lib.cells_of_tab (k := .u64) (zs := Lib.pow10Tab) Tryz.underlying240 Tryz.underlying116 cellsU64 cellsTab hd
  unfold Tab Lib.TabIs
  rw [hv, ← e]

section
variable {H : Type} {enc : TypeId × Value → H} {P : Program}
/-- What the form asks behind a call whose arguments reach no memory. -/
theorem post_nil {f : Func} {s : ChangeSpec} {apart fresh handsOn again : Bool} {W W' : World} {args : Array Value} {v : Value} {ds gs : List (DataW H)}
    (hW : DataW.Whole enc P f.params.toList s.vars apart W args.toList ds gs [])
    (hres : ∀ (b : Nat) (sp : Nat → Bool) (hd : Bool), DataW.TrodAll enc P W' b sp hd f.resultTypes.toList (v.resultList f.resultTypes.size) (s.fn H (ds ++ gs)).results [])
    (hargs : ∀ sp : Nat → Bool, DataW.TrodAll enc P W' 0 sp true f.params.toList args.toList (s.fn H (ds ++ gs)).args [])
    (hvars : ∀ sp : Nat → Bool, DataW.TrodVars enc P W' sp s.vars (s.fn H (ds ++ gs)).vars [])
    (hk : W.keptBut W' (fun _ => False))
    (hok : ∀ (j : Nat) (t : TypeId) (r : Value), f.resultTypes[j]? = some t → (v.resultList f.resultTypes.size)[j]? = some r → Value.okWide P W' .any 0 t r) :
    s.post enc P f apart fresh handsOn again W args v W' := by
  refine ⟨ds, gs, [], [], [], [], hW, hres _ _ _, hargs _, hvars _, World.keptBut_mono (fun p hp => hp.elim) hk, fun _ => ⟨hok, _, _, ([] ++ []) ++ [], ⟨[] ++ [], [], trodAll_append (hargs _) (hres _ _ _), hvars _, rfl, ?_, ?_⟩, ?_⟩⟩
  · intro b off hp
    simp at hp
  · intro _
    simp
  · intro p hp _
    simp at hp

set_option maxRecDepth 100000 in
set_option linter.unusedSimpArgs false in
theorem open_t24 {w : World} {base b0 : Nat} {sp : Nat → Bool} {held : Bool} {v : Value} {d : DataW H} {ps : List MemPlace} (hv : Value.okWide Tryz.prog w .any b0 24 v) (h : DataW.Trod enc Tryz.prog w base sp held 24 v d ps) :
    ∃ x0 x1 x2 x3 x4 x5 : ByteArray, v = .agg #[.string x0, .string x1, .string x2, .string x3, .string x4, .string x5] ∧ d = .agg [.lit (.string x0.data.toList), .lit (.string x1.data.toList), .lit (.string x2.data.toList), .lit (.string x3.data.toList), .lit (.string x4.data.toList), .lit (.string x5.data.toList)] ∧ ps = [] ∧ x0.size ≤ maxLen ∧ x1.size ≤ maxLen ∧ x2.size ≤ maxLen ∧ x3.size ≤ maxLen ∧ x4.size ≤ maxLen ∧ x5.size ≤ maxLen := by
  have hc24 : Tryz.prog.cellsOf 24 = 6 := by kernel_rfl
  have hc22 : Tryz.prog.cellsOf 22 = 1 := by kernel_rfl
  simp only [Value.okWide, Tryz.underlying24] at hv
  obtain ⟨cs, rfl, hsz, _⟩ := hv
  obtain ⟨cs⟩ := cs
  obtain ⟨fuel, hf⟩ := h
  rw [hc24] at hsz
  match cs, hsz with
  | [c0, c1, c2, c3, c4, c5], _ =>
    have hy0 : DataW.trod enc Tryz.prog w base sp held fuel 24 [c0, c1, c2, c3, c4, c5] = some (d, ps) := hf
    obtain ⟨xx, hxx⟩ : ∃ xx, xx = (d, ps) := ⟨_, rfl⟩
    have hy : DataW.trod enc Tryz.prog w base sp held fuel 24 [c0, c1, c2, c3, c4, c5] = some xx := by rw [hxx]; exact hy0
    clear hf hy0
    obtain ⟨ys, m, _, rfl, _, hl, hf⟩ := Go.DataW.trod_array Tryz.underlying24 hy
    match ys, hl with
    | [y_0, y_1, y_2, y_3, y_4, y_5], _ =>
    have hy_0 := hf 0 (by omega)
    have hy_1 := hf 1 (by omega)
    have hy_2 := hf 2 (by omega)
    have hy_3 := hf 3 (by omega)
    have hy_4 := hf 4 (by omega)
    have hy_5 := hf 5 (by omega)
    simp [hc24, hc22] at hy_0 hy_1 hy_2 hy_3 hy_4 hy_5
    obtain ⟨x0, e_x0, rfl, s_x0⟩ := DataW.trod_string Tryz.underlying22 hy_0
    obtain ⟨x1, e_x1, rfl, s_x1⟩ := DataW.trod_string Tryz.underlying22 hy_1
    obtain ⟨x2, e_x2, rfl, s_x2⟩ := DataW.trod_string Tryz.underlying22 hy_2
    obtain ⟨x3, e_x3, rfl, s_x3⟩ := DataW.trod_string Tryz.underlying22 hy_3
    obtain ⟨x4, e_x4, rfl, s_x4⟩ := DataW.trod_string Tryz.underlying22 hy_4
    obtain ⟨x5, e_x5, rfl, s_x5⟩ := DataW.trod_string Tryz.underlying22 hy_5
    simp at e_x0 e_x1 e_x2 e_x3 e_x4 e_x5
    subst e_x0 e_x1 e_x2 e_x3 e_x4 e_x5
    have h1 := (congrArg Prod.fst hxx).symm
    have h2 := (congrArg Prod.snd hxx).symm
    dsimp only at h1 h2
    subst h1 h2
    exact ⟨x0, x1, x2, x3, x4, x5, rfl, by simp, by simp, s_x0, s_x1, s_x2, s_x3, s_x4, s_x5⟩
set_option maxRecDepth 100000 in
set_option linter.unusedSimpArgs false in
theorem shut_t24 {w : World} {base : Nat} {sp : Nat → Bool} {held : Bool} {x0 x1 x2 x3 x4 x5 : ByteArray} (hx0 : x0.size ≤ maxLen) (hx1 : x1.size ≤ maxLen) (hx2 : x2.size ≤ maxLen) (hx3 : x3.size ≤ maxLen) (hx4 : x4.size ≤ maxLen) (hx5 : x5.size ≤ maxLen) :
    DataW.Trod enc Tryz.prog w base sp held 24 (.agg #[.string x0, .string x1, .string x2, .string x3, .string x4, .string x5]) (.agg [.lit (.string x0.data.toList), .lit (.string x1.data.toList), .lit (.string x2.data.toList), .lit (.string x3.data.toList), .lit (.string x4.data.toList), .lit (.string x5.data.toList)]) [] := by
  have hc24 : Tryz.prog.cellsOf 24 = 6 := by kernel_rfl
  have hc22 : Tryz.prog.cellsOf 22 = 1 := by kernel_rfl
  exact ⟨2, by simp [DataW.trod, Value.cells, Tryz.underlying24, Tryz.underlying22, hc24, hc22, hx0, hx1, hx2, hx3, hx4, hx5, List.range, List.range.loop]⟩

set_option maxRecDepth 100000 in
set_option linter.unusedSimpArgs false in
theorem open_t26 {w : World} {base b0 : Nat} {sp : Nat → Bool} {held : Bool} {v : Value} {d : DataW H} {ps : List MemPlace} (hv : Value.okWide Tryz.prog w .any b0 26 v) (h : DataW.Trod enc Tryz.prog w base sp held 26 v d ps) :
    ∃ x0 x1 : ByteArray, v = .agg #[.string x0, .string x1] ∧ d = .agg [.lit (.string x0.data.toList), .lit (.string x1.data.toList)] ∧ ps = [] ∧ x0.size ≤ maxLen ∧ x1.size ≤ maxLen := by
  have hc26 : Tryz.prog.cellsOf 26 = 2 := by kernel_rfl
  have hc22 : Tryz.prog.cellsOf 22 = 1 := by kernel_rfl
  simp only [Value.okWide, Tryz.underlying26] at hv
  obtain ⟨cs, rfl, hsz, _⟩ := hv
  obtain ⟨cs⟩ := cs
  obtain ⟨fuel, hf⟩ := h
  rw [hc26] at hsz
  match cs, hsz with
  | [c0, c1], _ =>
    have hy0 : DataW.trod enc Tryz.prog w base sp held fuel 26 [c0, c1] = some (d, ps) := hf
    obtain ⟨xx, hxx⟩ : ∃ xx, xx = (d, ps) := ⟨_, rfl⟩
    have hy : DataW.trod enc Tryz.prog w base sp held fuel 26 [c0, c1] = some xx := by rw [hxx]; exact hy0
    clear hf hy0
    obtain ⟨ys, m, _, rfl, _, hl, hf⟩ := Go.DataW.trod_struct Tryz.underlying26 hy
    match ys, hl with
    | [y_0, y_1], _ =>
    have hy_0 := hf 0 _ rfl
    have hy_1 := hf 1 _ rfl
    simp [hc26, hc22] at hy_0 hy_1
    obtain ⟨x0, e_x0, rfl, s_x0⟩ := DataW.trod_string Tryz.underlying22 hy_0
    obtain ⟨x1, e_x1, rfl, s_x1⟩ := DataW.trod_string Tryz.underlying22 hy_1
    simp at e_x0 e_x1
    subst e_x0 e_x1
    have h1 := (congrArg Prod.fst hxx).symm
    have h2 := (congrArg Prod.snd hxx).symm
    dsimp only at h1 h2
    subst h1 h2
    exact ⟨x0, x1, rfl, by simp, by simp, s_x0, s_x1⟩
set_option maxRecDepth 100000 in
set_option linter.unusedSimpArgs false in
theorem shut_t26 {w : World} {base : Nat} {sp : Nat → Bool} {held : Bool} {x0 x1 : ByteArray} (hx0 : x0.size ≤ maxLen) (hx1 : x1.size ≤ maxLen) :
    DataW.Trod enc Tryz.prog w base sp held 26 (.agg #[.string x0, .string x1]) (.agg [.lit (.string x0.data.toList), .lit (.string x1.data.toList)]) [] := by
  have hc26 : Tryz.prog.cellsOf 26 = 2 := by kernel_rfl
  have hc22 : Tryz.prog.cellsOf 22 = 1 := by kernel_rfl
  exact ⟨2, by simp [DataW.trod, Value.cells, Tryz.underlying26, Tryz.underlying22, hc26, hc22, hx0, hx1, List.range, List.range.loop]⟩

set_option maxRecDepth 100000 in
set_option linter.unusedSimpArgs false in
theorem open_t27 {w : World} {base b0 : Nat} {sp : Nat → Bool} {held : Bool} {v : Value} {d : DataW H} {ps : List MemPlace} (hv : Value.okWide Tryz.prog w .any b0 27 v) (h : DataW.Trod enc Tryz.prog w base sp held 27 v d ps) :
    ∃ x0 x1 x2 x3 x4 x5 x6 x7 x8 x9 : ByteArray, v = .agg #[.string x0, .string x1, .string x2, .string x3, .string x4, .string x5, .string x6, .string x7, .string x8, .string x9] ∧ d = .agg [.agg [.lit (.string x0.data.toList), .lit (.string x1.data.toList)], .agg [.lit (.string x2.data.toList), .lit (.string x3.data.toList)], .agg [.lit (.string x4.data.toList), .lit (.string x5.data.toList)], .agg [.lit (.string x6.data.toList), .lit (.string x7.data.toList)], .agg [.lit (.string x8.data.toList), .lit (.string x9.data.toList)]] ∧ ps = [] ∧ x0.size ≤ maxLen ∧ x1.size ≤ maxLen ∧ x2.size ≤ maxLen ∧ x3.size ≤ maxLen ∧ x4.size ≤ maxLen ∧ x5.size ≤ maxLen ∧ x6.size ≤ maxLen ∧ x7.size ≤ maxLen ∧ x8.size ≤ maxLen ∧ x9.size ≤ maxLen := by
  have hc27 : Tryz.prog.cellsOf 27 = 10 := by kernel_rfl
  have hc26 : Tryz.prog.cellsOf 26 = 2 := by kernel_rfl
  have hc22 : Tryz.prog.cellsOf 22 = 1 := by kernel_rfl
  simp only [Value.okWide, Tryz.underlying27] at hv
  obtain ⟨cs, rfl, hsz, _⟩ := hv
  obtain ⟨cs⟩ := cs
  obtain ⟨fuel, hf⟩ := h
  rw [hc27] at hsz
  match cs, hsz with
  | [c0, c1, c2, c3, c4, c5, c6, c7, c8, c9], _ =>
    have hy0 : DataW.trod enc Tryz.prog w base sp held fuel 27 [c0, c1, c2, c3, c4, c5, c6, c7, c8, c9] = some (d, ps) := hf
    obtain ⟨xx, hxx⟩ : ∃ xx, xx = (d, ps) := ⟨_, rfl⟩
    have hy : DataW.trod enc Tryz.prog w base sp held fuel 27 [c0, c1, c2, c3, c4, c5, c6, c7, c8, c9] = some xx := by rw [hxx]; exact hy0
    clear hf hy0
    obtain ⟨ys, m, _, rfl, _, hl, hf⟩ := Go.DataW.trod_array Tryz.underlying27 hy
    match ys, hl with
    | [y_0, y_1, y_2, y_3, y_4], _ =>
    have hy_0 := hf 0 (by omega)
    have hy_1 := hf 1 (by omega)
    have hy_2 := hf 2 (by omega)
    have hy_3 := hf 3 (by omega)
    have hy_4 := hf 4 (by omega)
    simp [hc27, hc26, hc22] at hy_0 hy_1 hy_2 hy_3 hy_4
    obtain ⟨ys_0, m_0, _, rfl, _, hl_0, hf_0⟩ := Go.DataW.trod_struct Tryz.underlying26 hy_0
    match ys_0, hl_0 with
    | [y_0_0, y_0_1], _ =>
    have hy_0_0 := hf_0 0 _ rfl
    have hy_0_1 := hf_0 1 _ rfl
    simp [hc27, hc26, hc22] at hy_0_0 hy_0_1
    obtain ⟨x0, e_x0, rfl, s_x0⟩ := DataW.trod_string Tryz.underlying22 hy_0_0
    obtain ⟨x1, e_x1, rfl, s_x1⟩ := DataW.trod_string Tryz.underlying22 hy_0_1
    obtain ⟨ys_1, m_1, _, rfl, _, hl_1, hf_1⟩ := Go.DataW.trod_struct Tryz.underlying26 hy_1
    match ys_1, hl_1 with
    | [y_1_0, y_1_1], _ =>
    have hy_1_0 := hf_1 0 _ rfl
    have hy_1_1 := hf_1 1 _ rfl
    simp [hc27, hc26, hc22] at hy_1_0 hy_1_1
    obtain ⟨x2, e_x2, rfl, s_x2⟩ := DataW.trod_string Tryz.underlying22 hy_1_0
    obtain ⟨x3, e_x3, rfl, s_x3⟩ := DataW.trod_string Tryz.underlying22 hy_1_1
    obtain ⟨ys_2, m_2, _, rfl, _, hl_2, hf_2⟩ := Go.DataW.trod_struct Tryz.underlying26 hy_2
    match ys_2, hl_2 with
    | [y_2_0, y_2_1], _ =>
    have hy_2_0 := hf_2 0 _ rfl
    have hy_2_1 := hf_2 1 _ rfl
    simp [hc27, hc26, hc22] at hy_2_0 hy_2_1
    obtain ⟨x4, e_x4, rfl, s_x4⟩ := DataW.trod_string Tryz.underlying22 hy_2_0
    obtain ⟨x5, e_x5, rfl, s_x5⟩ := DataW.trod_string Tryz.underlying22 hy_2_1
    obtain ⟨ys_3, m_3, _, rfl, _, hl_3, hf_3⟩ := Go.DataW.trod_struct Tryz.underlying26 hy_3
    match ys_3, hl_3 with
    | [y_3_0, y_3_1], _ =>
    have hy_3_0 := hf_3 0 _ rfl
    have hy_3_1 := hf_3 1 _ rfl
    simp [hc27, hc26, hc22] at hy_3_0 hy_3_1
    obtain ⟨x6, e_x6, rfl, s_x6⟩ := DataW.trod_string Tryz.underlying22 hy_3_0
    obtain ⟨x7, e_x7, rfl, s_x7⟩ := DataW.trod_string Tryz.underlying22 hy_3_1
    obtain ⟨ys_4, m_4, _, rfl, _, hl_4, hf_4⟩ := Go.DataW.trod_struct Tryz.underlying26 hy_4
    match ys_4, hl_4 with
    | [y_4_0, y_4_1], _ =>
    have hy_4_0 := hf_4 0 _ rfl
    have hy_4_1 := hf_4 1 _ rfl
    simp [hc27, hc26, hc22] at hy_4_0 hy_4_1
    obtain ⟨x8, e_x8, rfl, s_x8⟩ := DataW.trod_string Tryz.underlying22 hy_4_0
    obtain ⟨x9, e_x9, rfl, s_x9⟩ := DataW.trod_string Tryz.underlying22 hy_4_1
    simp at e_x0 e_x1 e_x2 e_x3 e_x4 e_x5 e_x6 e_x7 e_x8 e_x9
    subst e_x0 e_x1 e_x2 e_x3 e_x4 e_x5 e_x6 e_x7 e_x8 e_x9
    have h1 := (congrArg Prod.fst hxx).symm
    have h2 := (congrArg Prod.snd hxx).symm
    dsimp only at h1 h2
    subst h1 h2
    exact ⟨x0, x1, x2, x3, x4, x5, x6, x7, x8, x9, rfl, by simp, by simp, s_x0, s_x1, s_x2, s_x3, s_x4, s_x5, s_x6, s_x7, s_x8, s_x9⟩
set_option maxRecDepth 100000 in
set_option linter.unusedSimpArgs false in
theorem shut_t27 {w : World} {base : Nat} {sp : Nat → Bool} {held : Bool} {x0 x1 x2 x3 x4 x5 x6 x7 x8 x9 : ByteArray} (hx0 : x0.size ≤ maxLen) (hx1 : x1.size ≤ maxLen) (hx2 : x2.size ≤ maxLen) (hx3 : x3.size ≤ maxLen) (hx4 : x4.size ≤ maxLen) (hx5 : x5.size ≤ maxLen) (hx6 : x6.size ≤ maxLen) (hx7 : x7.size ≤ maxLen) (hx8 : x8.size ≤ maxLen) (hx9 : x9.size ≤ maxLen) :
    DataW.Trod enc Tryz.prog w base sp held 27 (.agg #[.string x0, .string x1, .string x2, .string x3, .string x4, .string x5, .string x6, .string x7, .string x8, .string x9]) (.agg [.agg [.lit (.string x0.data.toList), .lit (.string x1.data.toList)], .agg [.lit (.string x2.data.toList), .lit (.string x3.data.toList)], .agg [.lit (.string x4.data.toList), .lit (.string x5.data.toList)], .agg [.lit (.string x6.data.toList), .lit (.string x7.data.toList)], .agg [.lit (.string x8.data.toList), .lit (.string x9.data.toList)]]) [] := by
  have hc27 : Tryz.prog.cellsOf 27 = 10 := by kernel_rfl
  have hc26 : Tryz.prog.cellsOf 26 = 2 := by kernel_rfl
  have hc22 : Tryz.prog.cellsOf 22 = 1 := by kernel_rfl
  exact ⟨3, by simp [DataW.trod, Value.cells, Tryz.underlying27, Tryz.underlying26, Tryz.underlying22, hc27, hc26, hc22, hx0, hx1, hx2, hx3, hx4, hx5, hx6, hx7, hx8, hx9, List.range, List.range.loop]⟩

end

set_option maxRecDepth 100000 in
theorem contract (H : Type) (enc : TypeId × Value → H) (W : World) (base : Nat) (args : Array Value) (ds gs : List (DataW H)) (before : List MemPlace)
    (hval : ∀ (j : Nat) t v, Tryz.f3.params[j]? = some t → args[j]? = some v → Value.okWide Tryz.prog W .any base t v)
    (hW : DataW.Whole enc Tryz.prog Tryz.f3.params.toList Rows.conicBrianchonSpec.vars false W args.toList ds gs before) (hL : laidMetH Tryz.prog Rows.conicBrianchonUptoRow.laid W)
    (hk : Rows.uptoSmall H (ds ++ gs) = true) (hSh : W.ShapedOpen Tryz.prog) :
    Calls Tryz.prog 3 args W fun e W' => ∃ v, e = .returned v ∧ Rows.conicBrianchonSpec.post enc Tryz.prog Tryz.f3 false true false false W args v W' := by
  have hW' := hW
  obtain ⟨p, q, hA0, hV, rfl, hfz, hnd⟩ := hW
  have hA : DataW.TrodAll enc Tryz.prog W 0 (fun _ => true) true Tryz.f3.params.toList args.toList ds p := hA0
  rw [Tryz.params3] at hA hval
  obtain ⟨v0, vs0, d0, ds0, p0, q0, hargs, rfl, rfl, h0, r0⟩ := trodAll_cons hA
  obtain ⟨v1, vs1, d1, ds1, p1, q1, rfl, rfl, rfl, h1, r1⟩ := trodAll_cons r0
  obtain ⟨v2, vs2, d2, ds2, p2, q2, rfl, rfl, rfl, h2, r2⟩ := trodAll_cons r1
  obtain ⟨rfl, rfl, rfl⟩ := trodAll_nil r2
  obtain rfl : args = #[v0, v1, v2] := by cases args; simp_all
  obtain ⟨rfl, rfl⟩ := trodVars_none hV
  obtain ⟨t0x0, t0x1, t0x2, t0x3, t0x4, t0x5, rfl, rfl, rfl, m0x0, m0x1, m0x2, m0x3, m0x4, m0x5⟩ := open_t24 (hval 0 24 v0 rfl rfl) h0
  obtain ⟨t1x0, t1x1, rfl, rfl, rfl, m1x0, m1x1⟩ := open_t26 (hval 1 26 v1 rfl rfl) h1
  obtain ⟨t2x0, t2x1, t2x2, t2x3, t2x4, t2x5, t2x6, t2x7, t2x8, t2x9, rfl, rfl, rfl, m2x0, m2x1, m2x2, m2x3, m2x4, m2x5, m2x6, m2x7, m2x8, m2x9⟩ := open_t27 (hval 2 27 v2 rfl rfl) h2
  have hb := of_decide_eq_true hk
  simp only [List.append_nil, Rows.uptoBulkAll, Rows.uptoBulk] at hb
  clear hA0 hA r0 r1 r2 hk
  simp only [List.append_nil] at hW'
  have tab := table hL
  have mx := MaxL.shaped hSh
  refine (bR_walk (w := W) (ka := t0x0) (kb := t0x1) (kc := t0x2) (kd := t0x3) (ke := t0x4) (kf := t0x5) (ux := t1x0) (uz := t1x1) (vax := t2x0) (vaz := t2x1) (vbx := t2x2) (vbz := t2x3) (vcx := t2x4) (vcz := t2x5) (vdx := t2x6) (vdz := t2x7) (vex := t2x8) (vez := t2x9) (by rw [← str_len]; omega) (by rw [← str_len]; omega) (by rw [← str_len]; omega) (by rw [← str_len]; omega) (by rw [← str_len]; omega) (by rw [← str_len]; omega) (by rw [← str_len]; omega) (by rw [← str_len]; omega) (by rw [← str_len]; omega) (by rw [← str_len]; omega) (by rw [← str_len]; omega) (by rw [← str_len]; omega) (by rw [← str_len]; omega) (by rw [← str_len]; omega) (by rw [← str_len]; omega) (by rw [← str_len]; omega) (by rw [← str_len]; omega) (by rw [← str_len]; omega) tab mx).mono ?_
  rintro e W' ⟨hbel, rfl⟩
  refine ⟨_, rfl, post_nil hW' (fun _ _ _ => trodAll_cons_mk (shut_bool Tryz.underlying4 _) trodAll_mk0) (fun _ => ?_) (fun _ => rfl) (hbel.frame _) (ok_one (by kernel_rfl) rfl (okWide_bool_mk Tryz.underlying4 _))⟩
  exact (trodAll_cons_mk (shut_t24 m0x0 m0x1 m0x2 m0x3 m0x4 m0x5) (trodAll_cons_mk (shut_t26 m1x0 m1x1) (trodAll_cons_mk (shut_t27 m2x0 m2x1 m2x2 m2x3 m2x4 m2x5 m2x6 m2x7 m2x8 m2x9) trodAll_mk0)))

/-- The cells that a listed datum lays. -/
def lit1 : DataW Unit → List Value
  | .lit (.int k z) => [.int k z]
  | _ => []
def lit2 : DataW Unit → List Value
  | .agg ps => ps.flatMap lit1
  | d => lit1 d
def cellsLaid : DataW Unit → Array Value
  | .agg ps => (ps.flatMap lit2).toArray
  | _ => #[]
def putCells (d : DataW Unit) : Obj → Obj
  | .cells _ t frozen => .cells (cellsLaid d) t frozen
  | o => o

def noArgs : Array Value := #[.agg #[.string ⟨#[]⟩, .string ⟨#[]⟩, .string ⟨#[]⟩, .string ⟨#[]⟩, .string ⟨#[]⟩, .string ⟨#[]⟩], .agg #[.string ⟨#[]⟩, .string ⟨#[]⟩], .agg #[.string ⟨#[]⟩, .string ⟨#[]⟩, .string ⟨#[]⟩, .string ⟨#[]⟩, .string ⟨#[]⟩, .string ⟨#[]⟩, .string ⟨#[]⟩, .string ⟨#[]⟩, .string ⟨#[]⟩, .string ⟨#[]⟩]]
theorem laid_met (os : Os) : laidMet Tryz.prog Rows.conicBrianchonUptoRow.laid (({ World.holding Tryz.prog os ⟨#[], #[], []⟩ with heap := (((((World.holding Tryz.prog os ⟨#[], #[], []⟩).heap.modify 1 (putCells Rows.laid_unicode_utf8_first)).modify 2 (putCells Rows.laid_unicode_utf8_acceptRanges)).modify 3 (putCells Rows.laid_internal_strconv_uint64pow10)).modify 4 (putCells Rows.laid_math_bits_deBruijn32tab)).modify 5 (putCells Rows.laid_math_bits_deBruijn64tab) } : World).forCall (fun _ _ => 0) ⟨#[], noArgs, []⟩).memory :=
  laidMet_of_run' 8 (by kernel_rfl) (by kernel_rfl)
theorem reads (os : Os) {H : Type} (enc : TypeId × Value → H) : ∃ places, DataW.whole enc Tryz.prog (({ World.holding Tryz.prog os ⟨#[], #[], []⟩ with heap := (((((World.holding Tryz.prog os ⟨#[], #[], []⟩).heap.modify 1 (putCells Rows.laid_unicode_utf8_first)).modify 2 (putCells Rows.laid_unicode_utf8_acceptRanges)).modify 3 (putCells Rows.laid_internal_strconv_uint64pow10)).modify 4 (putCells Rows.laid_math_bits_deBruijn32tab)).modify 5 (putCells Rows.laid_math_bits_deBruijn64tab) } : World).forCall (fun _ _ => 0) ⟨#[], noArgs, []⟩).memory Tryz.f3.params.toList Rows.conicBrianchonSpec.vars false noArgs.toList 8 = some ([.agg [.lit (.string []), .lit (.string []), .lit (.string []), .lit (.string []), .lit (.string []), .lit (.string [])], .agg [.lit (.string []), .lit (.string [])], .agg [.agg [.lit (.string []), .lit (.string [])], .agg [.lit (.string []), .lit (.string [])], .agg [.lit (.string []), .lit (.string [])], .agg [.lit (.string []), .lit (.string [])], .agg [.lit (.string []), .lit (.string [])]]], [], places) :=
  ⟨[], by kernel_rfl⟩

set_option maxRecDepth 100000 in
theorem liftedUpto (os : Os) (started : os.Started) (H : Type) (enc : TypeId × Value → H) (F : Stop.Interp) :
    ReturnsInHanded {} Tryz.checked os 3 .any ((Rows.OpenSpec.upto Rows.conicBrianchonSpec).preRow enc Tryz.prog Tryz.f3 Rows.conicBrianchonUptoRow.domain false Rows.conicBrianchonUptoRow.laid) (((Rows.OpenSpec.upto Rows.conicBrianchonSpec).at F).post enc Tryz.prog Tryz.f3 false true false false) := by
  obtain ⟨places, hx⟩ := reads os enc
  refine returnsInHanded_of_row (C := Tryz.checked) (s := Rows.OpenSpec.upto Rows.conicBrianchonSpec) own started (by kernel_rfl) Tryz.func3
    (witness_row_at (enc := enc) (C := Tryz.checked) false ({ World.holding Tryz.prog os ⟨#[], #[], []⟩ with heap := (((((World.holding Tryz.prog os ⟨#[], #[], []⟩).heap.modify 1 (putCells Rows.laid_unicode_utf8_first)).modify 2 (putCells Rows.laid_unicode_utf8_acceptRanges)).modify 3 (putCells Rows.laid_internal_strconv_uint64pow10)).modify 4 (putCells Rows.laid_math_bits_deBruijn32tab)).modify 5 (putCells Rows.laid_math_bits_deBruijn64tab) } : World) noArgs rfl (by kernel_rfl) (by kernel_rfl) (by kernel_rfl)
      (OpenSpec.preRow_of_cond 8 hx (by kernel_rfl) (fun k hk => by cases hk; kernel_rfl) (by kernel_rfl) (laid_met os))) ?_
  intro W base args ds gs before hval hW _ hcond _ hL hSh _
  exact contract H enc W base args ds gs before hval hW hL (hcond _ rfl) hSh

theorem saidUpto : Rows.ConicBrianchonUptoSaid :=
  OpenClaim.holds_of_cond 3 Tryz.f3 rfl rfl rfl rfl rfl rfl rfl ⟨rfl, rfl, rfl, rfl, rfl⟩ rfl rfl rfl rfl rfl (by kernel_rfl) Tryz.func3 joined
    (of_decide_eq_true (by kernel_rfl)) (by unfold Func.isWrapper; first | (rw [if_pos (by decide +kernel)]; kernel_rfl) | (rw [if_neg (by decide +kernel)]; exact ⟨rfl, rfl⟩))
    (fun os started H enc _ F => by rw [OpenClaim.pre_eq_preRow]; exact liftedUpto os started H enc F)

theorem plainArgs (f : FuncId) (fn : Func) (hf : Tryz.pinned.checked.prog.funcNamed "compass/compasslaw.ConicBrianchon" = some f) (hfn : Tryz.pinned.checked.prog.funcs[f]? = some fn) :
    false = Tryz.pinned.checked.prog.looks [] ∧ ∀ (j : Nat) t, fn.params[j]? = some t → Tryz.pinned.checked.prog.wantsStandIn t = false := by
  obtain rfl : f = 3 := Option.some.inj ((show Tryz.prog.funcNamed "compass/compasslaw.ConicBrianchon" = some 3 by kernel_rfl).symm.trans hf) |>.symm
  obtain rfl : fn = Tryz.f3 := (Option.some.inj (Tryz.func3.symm.trans hfn)).symm
  refine ⟨by kernel_rfl, fun j t ht => ?_⟩
  rw [Tryz.params3] at ht
  have hm : t = 24 ∨ t = 26 ∨ t = 27 := by
    have := Array.mem_of_getElem? ht
    simp at this
    first | exact this | exact this.symm | omega | grind | (rcases this with h | h | h <;> simp [h])
  rcases hm with rfl | rfl | rfl
  · exact (show Tryz.prog.wantsStandIn 24 = false by kernel_rfl)
  · exact (show Tryz.prog.wantsStandIn 26 = false by kernel_rfl)
  · exact (show Tryz.prog.wantsStandIn 27 = false by kernel_rfl)

/-- The card, in its second form. -/
theorem kbrian_holds : Rows.ConicBrianchonUptoCardSaid :=
  Claim7.holds_tied_plain_at .later [] _ _ _ _ saidUpto (fun _ h => by cases h) (by kernel_rfl) (fun _ h => by cases h) conicBrianchonUpto_row_tie rfl ⟨rfl, rfl⟩ main_is rfl plainArgs goes_by
end Go.Proofs.YtgkjeoeliehihaaGreatDoor
