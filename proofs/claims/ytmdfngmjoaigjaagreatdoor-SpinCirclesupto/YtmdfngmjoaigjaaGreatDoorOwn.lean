/- The law of circles on the sphere (promise P17.4) holds of the landed program: for all four points k, l, n and u, told as texts, compasslaw.SpinCircles answers true and leaves its arguments as they were; its conditions: the arguments are together of bulk at most 1048576, and the listed package variables start as the program's text lays them. -/
import Derived.Test.YtmdfngmjoaigjaaGreatDoorCards
import Derived.Test.YtmdfngmjoaigjaaGreatDoorTie
import Derived.Test.YtmdfngmjoaigjaaGreatDoorLMQC
import Derived.Test.YtmdfngmjoaigjaaGreatDoorCJQCircles
import Derived.Test.YtmdfngmjoaigjaaGreatDoorCGQCircles
import Derived.Test.YtmdfngmjoaigjaaGreatDoorKFC
import Derived.ProofKit
import Derived.OpenShut
import Derived.ShutString
import Derived.ChangeMaps5
import Derived.Lib.SmallJoins
import Derived.Deep.DeepHandedRow
import Derived.Lib.LaidTab
namespace Go.Proofs.YtmdfngmjoaigjaaGreatDoor
open Go.ChangeShapes Go.WideShapes Go.ChangeAt Go.RowKit Go.Lib Go.Joins Go.ChangeMaps

theorem own : ownKnob Tryz.prog.godebug = none := by kernel_rfl
theorem gTab : Tryz.prog.globalNamed "internal/strconv.uint64pow10" = some 3 := by kernel_rfl
theorem gTabType : (Tryz.prog.globals[3]?).map (·.type) = some 267 := by kernel_rfl
theorem Ux : Tryz.prog.cellsOf 267 = 20 := by kernel_rfl
theorem UG : Tryz.prog.cellsOf 169 = 1 := by kernel_rfl

set_option maxRecDepth 100000 in
/-- What the row's list gives: the WV of the powers of ten. -/
theorem WV {W : World} (h : laidMetH Tryz.prog Rows.spinCirclesUptoRow.laid W) : Tab W := by
  have h' : laidMet Tryz.prog Rows.spinCirclesUptoRow.laid W := h
  obtain ⟨ps, ⟨_, _, _, _, _, _, _, _, _, _, ⟨_, _, _, _, _, _, _, _, _, _, ⟨g, t, cs, fuel, p, q, hg, ht, hv, hd, _, _⟩, _⟩, _⟩, _⟩ := h'
  obtain rfl := Option.some.inj (gTab.symm.trans hg)
  obtain rfl := Option.some.inj (gTabType.symm.trans ht)
  have e := Lib.cells_of_tab (k := .u64) (zs := Lib.pow10Tab) Tryz.underlying267 Tryz.underlying169 UG Ux hd
  unfold Tab Lib.TabIs
  rw [hv, ← e]

section
variable {H : Type} {enc : TypeId × Value → H} {P : Program}
/-- What the form asks behind a call whose arguments PQ no memory. -/
theorem Uf {f : Func} {s : ChangeSpec} {apart fresh handsOn again : Bool} {W W' : World} {args : Array Value} {v : Value} {ds gs : List (DataW H)}
    (hW : DataW.Whole enc P f.params.toList s.vars apart W args.toList ds gs [])
    (hres : ∀ (b : Nat) (sp : Nat → Bool) (hd : Bool), DataW.TrodAll enc P W' b sp hd f.resultTypes.toList (v.resultList f.resultTypes.size) (s.fn H (ds ++ gs)).results [])
    (hargs : ∀ sp : Nat → Bool, DataW.TrodAll enc P W' 0 sp true f.params.toList args.toList (s.fn H (ds ++ gs)).args [])
    (hvars : ∀ sp : Nat → Bool, DataW.TrodVars enc P W' sp s.vars (s.fn H (ds ++ gs)).vars [])
    (hk : W.keptBut W' (fun _ => False))
    (hok : ∀ (j : Nat) (t : TypeId) (r : Value), f.resultTypes[j]? = some t → (v.resultList f.resultTypes.size)[j]? = some r → Value.okWide P W' .any 0 t r) :
    s.post enc P f apart fresh handsOn again W args v W' := by
  refine ⟨ds, gs, [], [], [], [], hW, hres _ _ _, hargs _, hvars _, World.keptBut_mono (fun p hp => hp.elim) hk, fun _ => ⟨hok, _, _, ([] ++ []) ++ [], ⟨[] ++ [], [], trodAll_append (hargs _) (hres _ _ _), hvars _, rfl, ?_, ?_⟩, ?_⟩⟩
  · intro b off hp
    simp at hp
  · intro _
    simp
  · intro p hp _
    simp at hp

set_option maxRecDepth 100000 in
set_option linter.unusedSimpArgs false in
theorem IP {w : World} {base b0 : Nat} {sp : Nat → Bool} {held : Bool} {v : Value} {d : DataW H} {ps : List MemPlace} (hv : Value.okWide Tryz.prog w .any b0 26 v) (h : DataW.Trod enc Tryz.prog w base sp held 26 v d ps) :
    ∃ x0 x1 : ByteArray, v = .agg #[.string x0, .string x1] ∧ d = .agg [.lit (.string x0.data.toList), .lit (.string x1.data.toList)] ∧ ps = [] ∧ x0.size ≤ maxLen ∧ x1.size ≤ maxLen := by
  have hc26 : Tryz.prog.cellsOf 26 = 2 := by kernel_rfl
  have hc22 : Tryz.prog.cellsOf 22 = 1 := by kernel_rfl
  simp only [Value.okWide, Tryz.underlying26] at hv
  obtain ⟨cs, rfl, hsz, _⟩ := hv
  obtain ⟨cs⟩ := cs
  obtain ⟨fuel, hf⟩ := h
  rw [hc26] at hsz
  match cs, hsz with
  | [c0, c1], _ =>
    have hy0 : DataW.trod enc Tryz.prog w base sp held fuel 26 [c0, c1] = some (d, ps) := hf
    obtain ⟨xx, hxx⟩ : ∃ xx, xx = (d, ps) := ⟨_, rfl⟩
    have hy : DataW.trod enc Tryz.prog w base sp held fuel 26 [c0, c1] = some xx := by rw [hxx]; exact hy0
    clear hf hy0
    obtain ⟨ys, m, _, rfl, _, hl, hf⟩ := Go.DataW.trod_struct Tryz.underlying26 hy
    match ys, hl with
    | [y_0, y_1], _ =>
    have hy_0 := hf 0 _ rfl
    have hy_1 := hf 1 _ rfl
    simp [hc26, hc22] at hy_0 hy_1
    obtain ⟨x0, e_x0, rfl, s_x0⟩ := DataW.trod_string Tryz.underlying22 hy_0
    obtain ⟨x1, e_x1, rfl, s_x1⟩ := DataW.trod_string Tryz.underlying22 hy_1
    simp at e_x0 e_x1
    subst e_x0 e_x1
    have h1 := (congrArg Prod.fst hxx).symm
    have h2 := (congrArg Prod.snd hxx).symm
    dsimp only at h1 h2
    subst h1 h2
    exact ⟨x0, x1, rfl, by simp, by simp, s_x0, s_x1⟩
set_option maxRecDepth 100000 in
set_option linter.unusedSimpArgs false in
theorem IM {w : World} {base : Nat} {sp : Nat → Bool} {held : Bool} {x0 x1 : ByteArray} (hx0 : x0.size ≤ maxLen) (hx1 : x1.size ≤ maxLen) :
    DataW.Trod enc Tryz.prog w base sp held 26 (.agg #[.string x0, .string x1]) (.agg [.lit (.string x0.data.toList), .lit (.string x1.data.toList)]) [] := by
  have hc26 : Tryz.prog.cellsOf 26 = 2 := by kernel_rfl
  have hc22 : Tryz.prog.cellsOf 22 = 1 := by kernel_rfl
  exact ⟨2, by simp [DataW.trod, Value.cells, Tryz.underlying26, Tryz.underlying22, hc26, hc22, hx0, hx1, List.range, List.range.loop]⟩

end

set_option maxRecDepth 100000 in
theorem Ur (H : Type) (enc : TypeId × Value → H) (W : World) (base : Nat) (args : Array Value) (ds gs : List (DataW H)) (before : List MemPlace)
    (hval : ∀ (j : Nat) t v, Tryz.f7.params[j]? = some t → args[j]? = some v → Value.okWide Tryz.prog W .any base t v)
    (hW : DataW.Whole enc Tryz.prog Tryz.f7.params.toList Rows.spinCirclesSpec.vars false W args.toList ds gs before) (hL : laidMetH Tryz.prog Rows.spinCirclesUptoRow.laid W)
    (hk : Rows.uptoSmall H (ds ++ gs) = true) (hSh : W.ShapedOpen Tryz.prog) :
    Calls Tryz.prog 7 args W fun e W' => ∃ v, e = .returned v ∧ Rows.spinCirclesSpec.post enc Tryz.prog Tryz.f7 false true false false W args v W' := by
  have hW' := hW
  obtain ⟨p, q, hA0, hV, rfl, hfz, hnd⟩ := hW
  have hA : DataW.TrodAll enc Tryz.prog W 0 (fun _ => true) true Tryz.f7.params.toList args.toList ds p := hA0
  rw [Tryz.params7] at hA hval
  obtain ⟨v0, vs0, d0, ds0, p0, q0, hargs, rfl, rfl, h0, r0⟩ := trodAll_cons hA
  obtain ⟨v1, vs1, d1, ds1, p1, q1, rfl, rfl, rfl, h1, r1⟩ := trodAll_cons r0
  obtain ⟨v2, vs2, d2, ds2, p2, q2, rfl, rfl, rfl, h2, r2⟩ := trodAll_cons r1
  obtain ⟨v3, vs3, d3, ds3, p3, q3, rfl, rfl, rfl, h3, r3⟩ := trodAll_cons r2
  obtain ⟨rfl, rfl, rfl⟩ := trodAll_nil r3
  obtain rfl : args = #[v0, v1, v2, v3] := by cases args; simp_all
  obtain ⟨rfl, rfl⟩ := trodVars_none hV
  obtain ⟨t0x0, t0x1, rfl, rfl, rfl, m0x0, m0x1⟩ := IP (hval 0 26 v0 rfl rfl) h0
  obtain ⟨t1x0, t1x1, rfl, rfl, rfl, m1x0, m1x1⟩ := IP (hval 1 26 v1 rfl rfl) h1
  obtain ⟨t2x0, t2x1, rfl, rfl, rfl, m2x0, m2x1⟩ := IP (hval 2 26 v2 rfl rfl) h2
  obtain ⟨t3x0, t3x1, rfl, rfl, rfl, m3x0, m3x1⟩ := IP (hval 3 26 v3 rfl rfl) h3
  have hb := of_decide_eq_true hk
  simp only [List.append_nil, Rows.uptoBulkAll, Rows.uptoBulk] at hb
  clear hA0 hA r0 r1 r2 r3 hk
  simp only [List.append_nil] at hW'
  have tab := WV hL
  have mx := MaxL.shaped hSh
  refine (qC_walk (w := W) (kx := t0x0) (kz := t0x1) (lx := t1x0) (lz := t1x1) (nx := t2x0) (nz := t2x1) (ux := t3x0) (uz := t3x1) (by rw [← QP]; omega) (by rw [← QP]; omega) (by rw [← QP]; omega) (by rw [← QP]; omega) (by rw [← QP]; omega) (by rw [← QP]; omega) (by rw [← QP]; omega) (by rw [← QP]; omega) tab mx).mono ?_
  rintro e W' ⟨hbel, rfl⟩
  refine ⟨_, rfl, Uf hW' (fun _ _ _ => trodAll_cons_mk (shut_bool Tryz.underlying4 _) trodAll_mk0) (fun _ => ?_) (fun _ => rfl) (hbel.frame _) (ok_one (by kernel_rfl) rfl (okWide_bool_mk Tryz.underlying4 _))⟩
  exact (trodAll_cons_mk (IM m0x0 m0x1) (trodAll_cons_mk (IM m1x0 m1x1) (trodAll_cons_mk (IM m2x0 m2x1) (trodAll_cons_mk (IM m3x0 m3x1) trodAll_mk0))))

/-- The cells that a listed datum lays. -/
def GU : DataW Unit → List Value
  | .lit (.int k z) => [.int k z]
  | _ => []
def Cr : DataW Unit → List Value
  | .agg ps => ps.flatMap GU
  | d => GU d
def YN : DataW Unit → Array Value
  | .agg ps => (ps.flatMap Cr).toArray
  | _ => #[]
def Qu (d : DataW Unit) : Obj → Obj
  | .cells _ t frozen => .cells (YN d) t frozen
  | o => o

def noArgs : Array Value := #[.agg #[.string ⟨#[]⟩, .string ⟨#[]⟩], .agg #[.string ⟨#[]⟩, .string ⟨#[]⟩], .agg #[.string ⟨#[]⟩, .string ⟨#[]⟩], .agg #[.string ⟨#[]⟩, .string ⟨#[]⟩]]
theorem Uv (os : Os) : laidMet Tryz.prog Rows.spinCirclesUptoRow.laid (({ World.holding Tryz.prog os ⟨#[], #[], []⟩ with heap := (((((World.holding Tryz.prog os ⟨#[], #[], []⟩).heap.modify 1 (Qu Rows.laid_unicode_utf8_first)).modify 2 (Qu Rows.laid_unicode_utf8_acceptRanges)).modify 3 (Qu Rows.laid_internal_strconv_uint64pow10)).modify 4 (Qu Rows.laid_math_bits_deBruijn32tab)).modify 5 (Qu Rows.laid_math_bits_deBruijn64tab) } : World).forCall (fun _ _ => 0) ⟨#[], noArgs, []⟩).memory :=
  laidMet_of_run' 8 (by kernel_rfl) (by kernel_rfl)
theorem reads (os : Os) {H : Type} (enc : TypeId × Value → H) : ∃ places, DataW.whole enc Tryz.prog (({ World.holding Tryz.prog os ⟨#[], #[], []⟩ with heap := (((((World.holding Tryz.prog os ⟨#[], #[], []⟩).heap.modify 1 (Qu Rows.laid_unicode_utf8_first)).modify 2 (Qu Rows.laid_unicode_utf8_acceptRanges)).modify 3 (Qu Rows.laid_internal_strconv_uint64pow10)).modify 4 (Qu Rows.laid_math_bits_deBruijn32tab)).modify 5 (Qu Rows.laid_math_bits_deBruijn64tab) } : World).forCall (fun _ _ => 0) ⟨#[], noArgs, []⟩).memory Tryz.f7.params.toList Rows.spinCirclesSpec.vars false noArgs.toList 8 = some ([.agg [.lit (.string []), .lit (.string [])], .agg [.lit (.string []), .lit (.string [])], .agg [.lit (.string []), .lit (.string [])], .agg [.lit (.string []), .lit (.string [])]], [], places) :=
  ⟨[], by kernel_rfl⟩

set_option maxRecDepth 100000 in
theorem Yf (os : Os) (started : os.Started) (H : Type) (enc : TypeId × Value → H) (F : Stop.Interp) :
    ReturnsInHanded {} Tryz.checked os 7 .any ((Rows.OpenSpec.upto Rows.spinCirclesSpec).preRow enc Tryz.prog Tryz.f7 Rows.spinCirclesUptoRow.domain false Rows.spinCirclesUptoRow.laid) (((Rows.OpenSpec.upto Rows.spinCirclesSpec).at F).post enc Tryz.prog Tryz.f7 false true false false) := by
  obtain ⟨places, hx⟩ := reads os enc
  refine returnsInHanded_of_row (C := Tryz.checked) (s := Rows.OpenSpec.upto Rows.spinCirclesSpec) own started (by kernel_rfl) Tryz.func7
    (witness_row_at (enc := enc) (C := Tryz.checked) false ({ World.holding Tryz.prog os ⟨#[], #[], []⟩ with heap := (((((World.holding Tryz.prog os ⟨#[], #[], []⟩).heap.modify 1 (Qu Rows.laid_unicode_utf8_first)).modify 2 (Qu Rows.laid_unicode_utf8_acceptRanges)).modify 3 (Qu Rows.laid_internal_strconv_uint64pow10)).modify 4 (Qu Rows.laid_math_bits_deBruijn32tab)).modify 5 (Qu Rows.laid_math_bits_deBruijn64tab) } : World) noArgs rfl (by kernel_rfl) (by kernel_rfl) (by kernel_rfl)
      (OpenSpec.preRow_of_cond 8 hx (by kernel_rfl) (fun k hk => by cases hk; kernel_rfl) (by kernel_rfl) (Uv os))) ?_
  intro W base args ds gs before hval hW _ hcond _ hL hSh _
  exact Ur H enc W base args ds gs before hval hW hL (hcond _ rfl) hSh

theorem Ue : Rows.SpinCirclesUptoSaid :=
  OpenClaim.holds_of_cond 7 Tryz.f7 rfl rfl rfl rfl rfl rfl rfl ⟨rfl, rfl, rfl, rfl, rfl⟩ rfl rfl rfl rfl rfl (by kernel_rfl) Tryz.func7 joined
    (of_decide_eq_true (by kernel_rfl)) (by unfold Func.isWrapper; first | (rw [if_pos (by decide +kernel)]; kernel_rfl) | (rw [if_neg (by decide +kernel)]; exact ⟨rfl, rfl⟩))
    (fun os started H enc _ F => by rw [OpenClaim.pre_eq_preRow]; exact Yf os started H enc F)

theorem YK (f : FuncId) (fn : Func) (hf : Tryz.pinned.checked.prog.funcNamed "compass/compasslaw.SpinCircles" = some f) (hfn : Tryz.pinned.checked.prog.funcs[f]? = some fn) :
    false = Tryz.pinned.checked.prog.looks [] ∧ ∀ (j : Nat) t, fn.params[j]? = some t → Tryz.pinned.checked.prog.wantsStandIn t = false := by
  obtain rfl : f = 7 := Option.some.inj ((show Tryz.prog.funcNamed "compass/compasslaw.SpinCircles" = some 7 by kernel_rfl).symm.trans hf) |>.symm
  obtain rfl : fn = Tryz.f7 := (Option.some.inj (Tryz.func7.symm.trans hfn)).symm
  refine ⟨by kernel_rfl, fun j t ht => ?_⟩
  rw [Tryz.params7] at ht
  have hm : t = 26 := by
    have := Array.mem_of_getElem? ht
    simp at this
    first | exact this | exact this.symm | omega | grind | (rcases this with h | h | h <;> simp [h])
  rcases hm with rfl
  exact (show Tryz.prog.wantsStandIn 26 = false by kernel_rfl)

/-- The card, in its second form. -/
theorem qcircles_holds : Rows.SpinCirclesUptoCardSaid :=
  Claim7.holds_tied_plain_at .later [] _ _ _ _ Ue (fun _ h => by cases h) (by kernel_rfl) (fun _ h => by cases h) spinCirclesUpto_row_tie rfl ⟨rfl, rfl⟩ main_is rfl YK goes_by
end Go.Proofs.YtmdfngmjoaigjaaGreatDoor
