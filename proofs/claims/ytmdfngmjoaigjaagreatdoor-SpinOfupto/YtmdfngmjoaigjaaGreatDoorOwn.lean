/- The law of the quaternion of a WV (promise P17.2) holds of the landed program: for every WV t, told as texts, compasslaw.SpinOf answers true (spin.Of answers just what the document says, errors too) and leaves its arguments as they were; its conditions: the arguments are together of bulk at most 1048576, and the listed package variables start as the program's text lays them. -/
import Derived.Test.YtmdfngmjoaigjaaGreatDoorCards
import Derived.Test.YtmdfngmjoaigjaaGreatDoorTie
import Derived.Test.YtmdfngmjoaigjaaGreatDoorLMQO
import Derived.Test.YtmdfngmjoaigjaaGreatDoorCJQOf
import Derived.Test.YtmdfngmjoaigjaaGreatDoorCGQOf
import Derived.Test.YtmdfngmjoaigjaaGreatDoorKFC
import Derived.ProofKit
import Derived.OpenShut
import Derived.ShutString
import Derived.ChangeMaps5
import Derived.Lib.SmallJoins
import Derived.Deep.DeepHandedRow
import Derived.Lib.LaidTab
namespace Go.Proofs.YtmdfngmjoaigjaaGreatDoor
open Go.ChangeShapes Go.WideShapes Go.ChangeAt Go.RowKit Go.Lib Go.Joins Go.ChangeMaps

theorem own : ownKnob Tryz.prog.godebug = none := by kernel_rfl
theorem gTab : Tryz.prog.globalNamed "internal/strconv.uint64pow10" = some 3 := by kernel_rfl
theorem gTabType : (Tryz.prog.globals[3]?).map (·.type) = some 267 := by kernel_rfl
theorem Ux : Tryz.prog.cellsOf 267 = 20 := by kernel_rfl
theorem UG : Tryz.prog.cellsOf 169 = 1 := by kernel_rfl

set_option maxRecDepth 100000 in
/-- What the row's list gives: the WV of the powers of ten. -/
theorem WV {W : World} (h : laidMetH Tryz.prog Rows.spinOfUptoRow.laid W) : Tab W := by
  have h' : laidMet Tryz.prog Rows.spinOfUptoRow.laid W := h
  obtain ⟨ps, ⟨_, _, _, _, _, _, _, _, _, _, ⟨_, _, _, _, _, _, _, _, _, _, ⟨g, t, cs, fuel, p, q, hg, ht, hv, hd, _, _⟩, _⟩, _⟩, _⟩ := h'
  obtain rfl := Option.some.inj (gTab.symm.trans hg)
  obtain rfl := Option.some.inj (gTabType.symm.trans ht)
  have e := Lib.cells_of_tab (k := .u64) (zs := Lib.pow10Tab) Tryz.underlying267 Tryz.underlying169 UG Ux hd
  unfold Tab Lib.TabIs
  rw [hv, ← e]

section
variable {H : Type} {enc : TypeId × Value → H} {P : Program}
/-- What the form asks behind a call whose arguments PQ no memory. -/
theorem Uf {f : Func} {s : ChangeSpec} {apart fresh handsOn again : Bool} {W W' : World} {args : Array Value} {v : Value} {ds gs : List (DataW H)}
    (hW : DataW.Whole enc P f.params.toList s.vars apart W args.toList ds gs [])
    (hres : ∀ (b : Nat) (sp : Nat → Bool) (hd : Bool), DataW.TrodAll enc P W' b sp hd f.resultTypes.toList (v.resultList f.resultTypes.size) (s.fn H (ds ++ gs)).results [])
    (hargs : ∀ sp : Nat → Bool, DataW.TrodAll enc P W' 0 sp true f.params.toList args.toList (s.fn H (ds ++ gs)).args [])
    (hvars : ∀ sp : Nat → Bool, DataW.TrodVars enc P W' sp s.vars (s.fn H (ds ++ gs)).vars [])
    (hk : W.keptBut W' (fun _ => False))
    (hok : ∀ (j : Nat) (t : TypeId) (r : Value), f.resultTypes[j]? = some t → (v.resultList f.resultTypes.size)[j]? = some r → Value.okWide P W' .any 0 t r) :
    s.post enc P f apart fresh handsOn again W args v W' := by
  refine ⟨ds, gs, [], [], [], [], hW, hres _ _ _, hargs _, hvars _, World.keptBut_mono (fun p hp => hp.elim) hk, fun _ => ⟨hok, _, _, ([] ++ []) ++ [], ⟨[] ++ [], [], trodAll_append (hargs _) (hres _ _ _), hvars _, rfl, ?_, ?_⟩, ?_⟩⟩
  · intro b off hp
    simp at hp
  · intro _
    simp
  · intro p hp _
    simp at hp

set_option maxRecDepth 100000 in
set_option linter.unusedSimpArgs false in
theorem open_t47 {w : World} {base b0 : Nat} {sp : Nat → Bool} {held : Bool} {v : Value} {d : DataW H} {ps : List MemPlace} (hv : Value.okWide Tryz.prog w .any b0 47 v) (h : DataW.Trod enc Tryz.prog w base sp held 47 v d ps) :
    ∃ x0 x1 x2 x3 x4 x5 x6 x7 x8 : ByteArray, v = .agg #[.string x0, .string x1, .string x2, .string x3, .string x4, .string x5, .string x6, .string x7, .string x8] ∧ d = .agg [.lit (.string x0.data.toList), .lit (.string x1.data.toList), .lit (.string x2.data.toList), .lit (.string x3.data.toList), .lit (.string x4.data.toList), .lit (.string x5.data.toList), .lit (.string x6.data.toList), .lit (.string x7.data.toList), .lit (.string x8.data.toList)] ∧ ps = [] ∧ x0.size ≤ maxLen ∧ x1.size ≤ maxLen ∧ x2.size ≤ maxLen ∧ x3.size ≤ maxLen ∧ x4.size ≤ maxLen ∧ x5.size ≤ maxLen ∧ x6.size ≤ maxLen ∧ x7.size ≤ maxLen ∧ x8.size ≤ maxLen := by
  have hc47 : Tryz.prog.cellsOf 47 = 9 := by kernel_rfl
  have hc22 : Tryz.prog.cellsOf 22 = 1 := by kernel_rfl
  simp only [Value.okWide, Tryz.underlying47] at hv
  obtain ⟨cs, rfl, hsz, _⟩ := hv
  obtain ⟨cs⟩ := cs
  obtain ⟨fuel, hf⟩ := h
  rw [hc47] at hsz
  match cs, hsz with
  | [c0, c1, c2, c3, c4, c5, c6, c7, c8], _ =>
    have hy0 : DataW.trod enc Tryz.prog w base sp held fuel 47 [c0, c1, c2, c3, c4, c5, c6, c7, c8] = some (d, ps) := hf
    obtain ⟨xx, hxx⟩ : ∃ xx, xx = (d, ps) := ⟨_, rfl⟩
    have hy : DataW.trod enc Tryz.prog w base sp held fuel 47 [c0, c1, c2, c3, c4, c5, c6, c7, c8] = some xx := by rw [hxx]; exact hy0
    clear hf hy0
    obtain ⟨ys, m, _, rfl, _, hl, hf⟩ := Go.DataW.trod_array Tryz.underlying47 hy
    match ys, hl with
    | [y_0, y_1, y_2, y_3, y_4, y_5, y_6, y_7, y_8], _ =>
    have hy_0 := hf 0 (by omega)
    have hy_1 := hf 1 (by omega)
    have hy_2 := hf 2 (by omega)
    have hy_3 := hf 3 (by omega)
    have hy_4 := hf 4 (by omega)
    have hy_5 := hf 5 (by omega)
    have hy_6 := hf 6 (by omega)
    have hy_7 := hf 7 (by omega)
    have hy_8 := hf 8 (by omega)
    simp [hc47, hc22] at hy_0 hy_1 hy_2 hy_3 hy_4 hy_5 hy_6 hy_7 hy_8
    obtain ⟨x0, e_x0, rfl, s_x0⟩ := DataW.trod_string Tryz.underlying22 hy_0
    obtain ⟨x1, e_x1, rfl, s_x1⟩ := DataW.trod_string Tryz.underlying22 hy_1
    obtain ⟨x2, e_x2, rfl, s_x2⟩ := DataW.trod_string Tryz.underlying22 hy_2
    obtain ⟨x3, e_x3, rfl, s_x3⟩ := DataW.trod_string Tryz.underlying22 hy_3
    obtain ⟨x4, e_x4, rfl, s_x4⟩ := DataW.trod_string Tryz.underlying22 hy_4
    obtain ⟨x5, e_x5, rfl, s_x5⟩ := DataW.trod_string Tryz.underlying22 hy_5
    obtain ⟨x6, e_x6, rfl, s_x6⟩ := DataW.trod_string Tryz.underlying22 hy_6
    obtain ⟨x7, e_x7, rfl, s_x7⟩ := DataW.trod_string Tryz.underlying22 hy_7
    obtain ⟨x8, e_x8, rfl, s_x8⟩ := DataW.trod_string Tryz.underlying22 hy_8
    simp at e_x0 e_x1 e_x2 e_x3 e_x4 e_x5 e_x6 e_x7 e_x8
    subst e_x0 e_x1 e_x2 e_x3 e_x4 e_x5 e_x6 e_x7 e_x8
    have h1 := (congrArg Prod.fst hxx).symm
    have h2 := (congrArg Prod.snd hxx).symm
    dsimp only at h1 h2
    subst h1 h2
    exact ⟨x0, x1, x2, x3, x4, x5, x6, x7, x8, rfl, by simp, by simp, s_x0, s_x1, s_x2, s_x3, s_x4, s_x5, s_x6, s_x7, s_x8⟩
set_option maxRecDepth 100000 in
set_option linter.unusedSimpArgs false in
theorem shut_t47 {w : World} {base : Nat} {sp : Nat → Bool} {held : Bool} {x0 x1 x2 x3 x4 x5 x6 x7 x8 : ByteArray} (hx0 : x0.size ≤ maxLen) (hx1 : x1.size ≤ maxLen) (hx2 : x2.size ≤ maxLen) (hx3 : x3.size ≤ maxLen) (hx4 : x4.size ≤ maxLen) (hx5 : x5.size ≤ maxLen) (hx6 : x6.size ≤ maxLen) (hx7 : x7.size ≤ maxLen) (hx8 : x8.size ≤ maxLen) :
    DataW.Trod enc Tryz.prog w base sp held 47 (.agg #[.string x0, .string x1, .string x2, .string x3, .string x4, .string x5, .string x6, .string x7, .string x8]) (.agg [.lit (.string x0.data.toList), .lit (.string x1.data.toList), .lit (.string x2.data.toList), .lit (.string x3.data.toList), .lit (.string x4.data.toList), .lit (.string x5.data.toList), .lit (.string x6.data.toList), .lit (.string x7.data.toList), .lit (.string x8.data.toList)]) [] := by
  have hc47 : Tryz.prog.cellsOf 47 = 9 := by kernel_rfl
  have hc22 : Tryz.prog.cellsOf 22 = 1 := by kernel_rfl
  exact ⟨2, by simp [DataW.trod, Value.cells, Tryz.underlying47, Tryz.underlying22, hc47, hc22, hx0, hx1, hx2, hx3, hx4, hx5, hx6, hx7, hx8, List.range, List.range.loop]⟩

end

set_option maxRecDepth 100000 in
theorem Ur (H : Type) (enc : TypeId × Value → H) (W : World) (base : Nat) (args : Array Value) (ds gs : List (DataW H)) (before : List MemPlace)
    (hval : ∀ (j : Nat) t v, Tryz.f4.params[j]? = some t → args[j]? = some v → Value.okWide Tryz.prog W .any base t v)
    (hW : DataW.Whole enc Tryz.prog Tryz.f4.params.toList Rows.spinOfSpec.vars false W args.toList ds gs before) (hL : laidMetH Tryz.prog Rows.spinOfUptoRow.laid W)
    (hk : Rows.uptoSmall H (ds ++ gs) = true) (hSh : W.ShapedOpen Tryz.prog) :
    Calls Tryz.prog 4 args W fun e W' => ∃ v, e = .returned v ∧ Rows.spinOfSpec.post enc Tryz.prog Tryz.f4 false true false false W args v W' := by
  have hW' := hW
  obtain ⟨p, q, hA0, hV, rfl, hfz, hnd⟩ := hW
  have hA : DataW.TrodAll enc Tryz.prog W 0 (fun _ => true) true Tryz.f4.params.toList args.toList ds p := hA0
  rw [Tryz.params4] at hA hval
  obtain ⟨v0, vs0, d0, ds0, p0, q0, hargs, rfl, rfl, h0, r0⟩ := trodAll_cons hA
  obtain ⟨rfl, rfl, rfl⟩ := trodAll_nil r0
  obtain rfl : args = #[v0] := by cases args; simp_all
  obtain ⟨rfl, rfl⟩ := trodVars_none hV
  obtain ⟨t0x0, t0x1, t0x2, t0x3, t0x4, t0x5, t0x6, t0x7, t0x8, rfl, rfl, rfl, m0x0, m0x1, m0x2, m0x3, m0x4, m0x5, m0x6, m0x7, m0x8⟩ := open_t47 (hval 0 47 v0 rfl rfl) h0
  have hb := of_decide_eq_true hk
  simp only [List.append_nil, Rows.uptoBulkAll, Rows.uptoBulk] at hb
  clear hA0 hA r0 hk
  simp only [List.append_nil] at hW'
  have tab := WV hL
  have mx := MaxL.shaped hSh
  refine (qO_walk (w := W) (ta := t0x0) (tb := t0x1) (tc := t0x2) (td := t0x3) (te := t0x4) (tf := t0x5) (tg := t0x6) (th := t0x7) (ti := t0x8) (by rw [← QP]; omega) (by rw [← QP]; omega) (by rw [← QP]; omega) (by rw [← QP]; omega) (by rw [← QP]; omega) (by rw [← QP]; omega) (by rw [← QP]; omega) (by rw [← QP]; omega) (by rw [← QP]; omega) tab mx).mono ?_
  rintro e W' ⟨hbel, rfl⟩
  refine ⟨_, rfl, Uf hW' (fun _ _ _ => trodAll_cons_mk (shut_bool Tryz.underlying4 _) trodAll_mk0) (fun _ => ?_) (fun _ => rfl) (hbel.frame _) (ok_one (by kernel_rfl) rfl (okWide_bool_mk Tryz.underlying4 _))⟩
  exact (trodAll_cons_mk (shut_t47 m0x0 m0x1 m0x2 m0x3 m0x4 m0x5 m0x6 m0x7 m0x8) trodAll_mk0)

/-- The cells that a listed datum lays. -/
def GU : DataW Unit → List Value
  | .lit (.int k z) => [.int k z]
  | _ => []
def Cr : DataW Unit → List Value
  | .agg ps => ps.flatMap GU
  | d => GU d
def YN : DataW Unit → Array Value
  | .agg ps => (ps.flatMap Cr).toArray
  | _ => #[]
def Qu (d : DataW Unit) : Obj → Obj
  | .cells _ t frozen => .cells (YN d) t frozen
  | o => o

def noArgs : Array Value := #[.agg #[.string ⟨#[]⟩, .string ⟨#[]⟩, .string ⟨#[]⟩, .string ⟨#[]⟩, .string ⟨#[]⟩, .string ⟨#[]⟩, .string ⟨#[]⟩, .string ⟨#[]⟩, .string ⟨#[]⟩]]
theorem Uv (os : Os) : laidMet Tryz.prog Rows.spinOfUptoRow.laid (({ World.holding Tryz.prog os ⟨#[], #[], []⟩ with heap := (((((World.holding Tryz.prog os ⟨#[], #[], []⟩).heap.modify 1 (Qu Rows.laid_unicode_utf8_first)).modify 2 (Qu Rows.laid_unicode_utf8_acceptRanges)).modify 3 (Qu Rows.laid_internal_strconv_uint64pow10)).modify 4 (Qu Rows.laid_math_bits_deBruijn32tab)).modify 5 (Qu Rows.laid_math_bits_deBruijn64tab) } : World).forCall (fun _ _ => 0) ⟨#[], noArgs, []⟩).memory :=
  laidMet_of_run' 8 (by kernel_rfl) (by kernel_rfl)
theorem reads (os : Os) {H : Type} (enc : TypeId × Value → H) : ∃ places, DataW.whole enc Tryz.prog (({ World.holding Tryz.prog os ⟨#[], #[], []⟩ with heap := (((((World.holding Tryz.prog os ⟨#[], #[], []⟩).heap.modify 1 (Qu Rows.laid_unicode_utf8_first)).modify 2 (Qu Rows.laid_unicode_utf8_acceptRanges)).modify 3 (Qu Rows.laid_internal_strconv_uint64pow10)).modify 4 (Qu Rows.laid_math_bits_deBruijn32tab)).modify 5 (Qu Rows.laid_math_bits_deBruijn64tab) } : World).forCall (fun _ _ => 0) ⟨#[], noArgs, []⟩).memory Tryz.f4.params.toList Rows.spinOfSpec.vars false noArgs.toList 8 = some ([.agg [.lit (.string []), .lit (.string []), .lit (.string []), .lit (.string []), .lit (.string []), .lit (.string []), .lit (.string []), .lit (.string []), .lit (.string [])]], [], places) :=
  ⟨[], by kernel_rfl⟩

set_option maxRecDepth 100000 in
theorem Yf (os : Os) (started : os.Started) (H : Type) (enc : TypeId × Value → H) (F : Stop.Interp) :
    ReturnsInHanded {} Tryz.checked os 4 .any ((Rows.OpenSpec.upto Rows.spinOfSpec).preRow enc Tryz.prog Tryz.f4 Rows.spinOfUptoRow.domain false Rows.spinOfUptoRow.laid) (((Rows.OpenSpec.upto Rows.spinOfSpec).at F).post enc Tryz.prog Tryz.f4 false true false false) := by
  obtain ⟨places, hx⟩ := reads os enc
  refine returnsInHanded_of_row (C := Tryz.checked) (s := Rows.OpenSpec.upto Rows.spinOfSpec) own started (by kernel_rfl) Tryz.func4
    (witness_row_at (enc := enc) (C := Tryz.checked) false ({ World.holding Tryz.prog os ⟨#[], #[], []⟩ with heap := (((((World.holding Tryz.prog os ⟨#[], #[], []⟩).heap.modify 1 (Qu Rows.laid_unicode_utf8_first)).modify 2 (Qu Rows.laid_unicode_utf8_acceptRanges)).modify 3 (Qu Rows.laid_internal_strconv_uint64pow10)).modify 4 (Qu Rows.laid_math_bits_deBruijn32tab)).modify 5 (Qu Rows.laid_math_bits_deBruijn64tab) } : World) noArgs rfl (by kernel_rfl) (by kernel_rfl) (by kernel_rfl)
      (OpenSpec.preRow_of_cond 8 hx (by kernel_rfl) (fun k hk => by cases hk; kernel_rfl) (by kernel_rfl) (Uv os))) ?_
  intro W base args ds gs before hval hW _ hcond _ hL hSh _
  exact Ur H enc W base args ds gs before hval hW hL (hcond _ rfl) hSh

theorem Ue : Rows.SpinOfUptoSaid :=
  OpenClaim.holds_of_cond 4 Tryz.f4 rfl rfl rfl rfl rfl rfl rfl ⟨rfl, rfl, rfl, rfl, rfl⟩ rfl rfl rfl rfl rfl (by kernel_rfl) Tryz.func4 joined
    (of_decide_eq_true (by kernel_rfl)) (by unfold Func.isWrapper; first | (rw [if_pos (by decide +kernel)]; kernel_rfl) | (rw [if_neg (by decide +kernel)]; exact ⟨rfl, rfl⟩))
    (fun os started H enc _ F => by rw [OpenClaim.pre_eq_preRow]; exact Yf os started H enc F)

theorem YK (f : FuncId) (fn : Func) (hf : Tryz.pinned.checked.prog.funcNamed "compass/compasslaw.SpinOf" = some f) (hfn : Tryz.pinned.checked.prog.funcs[f]? = some fn) :
    false = Tryz.pinned.checked.prog.looks [] ∧ ∀ (j : Nat) t, fn.params[j]? = some t → Tryz.pinned.checked.prog.wantsStandIn t = false := by
  obtain rfl : f = 4 := Option.some.inj ((show Tryz.prog.funcNamed "compass/compasslaw.SpinOf" = some 4 by kernel_rfl).symm.trans hf) |>.symm
  obtain rfl : fn = Tryz.f4 := (Option.some.inj (Tryz.func4.symm.trans hfn)).symm
  refine ⟨by kernel_rfl, fun j t ht => ?_⟩
  rw [Tryz.params4] at ht
  have hm : t = 47 := by
    have := Array.mem_of_getElem? ht
    simp at this
    first | exact this | exact this.symm | omega | grind | (rcases this with h | h | h <;> simp [h])
  rcases hm with rfl
  exact (show Tryz.prog.wantsStandIn 47 = false by kernel_rfl)

/-- The card, in its second form. -/
theorem qof_holds : Rows.SpinOfUptoCardSaid :=
  Claim7.holds_tied_plain_at .later [] _ _ _ _ Ue (fun _ h => by cases h) (by kernel_rfl) (fun _ h => by cases h) spinOfUpto_row_tie rfl ⟨rfl, rfl⟩ main_is rfl YK goes_by
end Go.Proofs.YtmdfngmjoaigjaaGreatDoor
