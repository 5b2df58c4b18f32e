/- The law of the product of quaternions (promise P17.1) holds of the landed program: for all quaternions g and h, told as texts, compasslaw.SpinTimes answers true (spin.Times, Norm and Back answer just what the document says, errors too) and leaves its arguments as they were; its conditions: the arguments are together of bulk at most 1048576, and the listed package variables start as the program's text lays them. -/
import Derived.Test.YthagmklephpnhaaGreatDoorCards
import Derived.Test.YthagmklephpnhaaGreatDoorTie
import Derived.Test.YthagmklephpnhaaGreatDoorLMQT
import Derived.Test.YthagmklephpnhaaGreatDoorCJQTimes
import Derived.Test.YthagmklephpnhaaGreatDoorCGQTimes
import Derived.Test.YthagmklephpnhaaGreatDoorKFC
import Derived.ProofKit
import Derived.OpenShut
import Derived.ShutString
import Derived.ChangeMaps5
import Derived.Lib.SmallJoins
import Derived.Deep.DeepHandedRow
import Derived.Lib.LaidTab
namespace Go.Proofs.YthagmklephpnhaaGreatDoor
open Go.ChangeShapes Go.WideShapes Go.ChangeAt Go.RowKit Go.Lib Go.Joins Go.ChangeMaps

theorem own : ownKnob Tryz.prog.godebug = none := by kernel_rfl
theorem gTab : Tryz.prog.globalNamed "internal/strconv.uint64pow10" = some 3 := by kernel_rfl
theorem gTabType : (Tryz.prog.globals[3]?).map (·.type) = some 288 := by kernel_rfl
theorem Vw : Tryz.prog.cellsOf 288 = 20 := by kernel_rfl
theorem YR : Tryz.prog.cellsOf 183 = 1 := by kernel_rfl

set_option maxRecDepth 100000 in
/-- What the row's list gives: the Wr of the powers of ten. -/
theorem Wr {W : World} (h : laidMetH Tryz.prog Rows.spinTimesUptoRow.laid W) : Tab W := by
  have h' : laidMet Tryz.prog Rows.spinTimesUptoRow.laid W := h
  obtain ⟨ps, ⟨_, _, _, _, _, _, _, _, _, _, ⟨_, _, _, _, _, _, _, _, _, _, ⟨g, t, cs, fuel, p, q, hg, ht, hv, hd, _, _⟩, _⟩, _⟩, _⟩ := h'
  obtain rfl := Option.some.inj (gTab.symm.trans hg)
  obtain rfl := Option.some.inj (gTabType.symm.trans ht)
  have e := Lib.cells_of_tab (k := .u64) (zs := Lib.pow10Tab) Tryz.underlying288 Tryz.underlying183 YR Vw hd
  unfold Tab Lib.TabIs
  rw [hv, ← e]

section
variable {H : Type} {enc : TypeId × Value → H} {P : Program}
/-- What the form asks behind a call whose arguments KO no memory. -/
theorem Vv {f : Func} {s : ChangeSpec} {apart fresh handsOn again : Bool} {W W' : World} {args : Array Value} {v : Value} {ds gs : List (DataW H)}
    (hW : DataW.Whole enc P f.params.toList s.vars apart W args.toList ds gs [])
    (hres : ∀ (b : Nat) (sp : Nat → Bool) (hd : Bool), DataW.TrodAll enc P W' b sp hd f.resultTypes.toList (v.resultList f.resultTypes.size) (s.fn H (ds ++ gs)).results [])
    (hargs : ∀ sp : Nat → Bool, DataW.TrodAll enc P W' 0 sp true f.params.toList args.toList (s.fn H (ds ++ gs)).args [])
    (hvars : ∀ sp : Nat → Bool, DataW.TrodVars enc P W' sp s.vars (s.fn H (ds ++ gs)).vars [])
    (hk : W.keptBut W' (fun _ => False))
    (hok : ∀ (j : Nat) (t : TypeId) (r : Value), f.resultTypes[j]? = some t → (v.resultList f.resultTypes.size)[j]? = some r → Value.okWide P W' .any 0 t r) :
    s.post enc P f apart fresh handsOn again W args v W' := by
  refine ⟨ds, gs, [], [], [], [], hW, hres _ _ _, hargs _, hvars _, World.keptBut_mono (fun p hp => hp.elim) hk, fun _ => ⟨hok, _, _, ([] ++ []) ++ [], ⟨[] ++ [], [], trodAll_append (hargs _) (hres _ _ _), hvars _, rfl, ?_, ?_⟩, ?_⟩⟩
  · intro b off hp
    simp at hp
  · intro _
    simp
  · intro p hp _
    simp at hp

set_option maxRecDepth 100000 in
set_option linter.unusedSimpArgs false in
theorem Ys {w : World} {base b0 : Nat} {sp : Nat → Bool} {held : Bool} {v : Value} {d : DataW H} {ps : List MemPlace} (hv : Value.okWide Tryz.prog w .any b0 24 v) (h : DataW.Trod enc Tryz.prog w base sp held 24 v d ps) :
    ∃ x0 x1 x2 x3 : ByteArray, v = .agg #[.string x0, .string x1, .string x2, .string x3] ∧ d = .agg [.lit (.string x0.data.toList), .lit (.string x1.data.toList), .lit (.string x2.data.toList), .lit (.string x3.data.toList)] ∧ ps = [] ∧ x0.size ≤ maxLen ∧ x1.size ≤ maxLen ∧ x2.size ≤ maxLen ∧ x3.size ≤ maxLen := by
  have hc24 : Tryz.prog.cellsOf 24 = 4 := by kernel_rfl
  have hc22 : Tryz.prog.cellsOf 22 = 1 := by kernel_rfl
  simp only [Value.okWide, Tryz.underlying24] at hv
  obtain ⟨cs, rfl, hsz, _⟩ := hv
  obtain ⟨cs⟩ := cs
  obtain ⟨fuel, hf⟩ := h
  rw [hc24] at hsz
  match cs, hsz with
  | [c0, c1, c2, c3], _ =>
    have hy0 : DataW.trod enc Tryz.prog w base sp held fuel 24 [c0, c1, c2, c3] = some (d, ps) := hf
    obtain ⟨xx, hxx⟩ : ∃ xx, xx = (d, ps) := ⟨_, rfl⟩
    have hy : DataW.trod enc Tryz.prog w base sp held fuel 24 [c0, c1, c2, c3] = some xx := by rw [hxx]; exact hy0
    clear hf hy0
    obtain ⟨ys, m, _, rfl, _, hl, hf⟩ := Go.DataW.trod_struct Tryz.underlying24 hy
    match ys, hl with
    | [y_0, y_1, y_2, y_3], _ =>
    have hy_0 := hf 0 _ rfl
    have hy_1 := hf 1 _ rfl
    have hy_2 := hf 2 _ rfl
    have hy_3 := hf 3 _ rfl
    simp [hc24, hc22] at hy_0 hy_1 hy_2 hy_3
    obtain ⟨x0, e_x0, rfl, s_x0⟩ := DataW.trod_string Tryz.underlying22 hy_0
    obtain ⟨x1, e_x1, rfl, s_x1⟩ := DataW.trod_string Tryz.underlying22 hy_1
    obtain ⟨x2, e_x2, rfl, s_x2⟩ := DataW.trod_string Tryz.underlying22 hy_2
    obtain ⟨x3, e_x3, rfl, s_x3⟩ := DataW.trod_string Tryz.underlying22 hy_3
    simp at e_x0 e_x1 e_x2 e_x3
    subst e_x0 e_x1 e_x2 e_x3
    have h1 := (congrArg Prod.fst hxx).symm
    have h2 := (congrArg Prod.snd hxx).symm
    dsimp only at h1 h2
    subst h1 h2
    exact ⟨x0, x1, x2, x3, rfl, by simp, by simp, s_x0, s_x1, s_x2, s_x3⟩
set_option maxRecDepth 100000 in
set_option linter.unusedSimpArgs false in
theorem Yt {w : World} {base : Nat} {sp : Nat → Bool} {held : Bool} {x0 x1 x2 x3 : ByteArray} (hx0 : x0.size ≤ maxLen) (hx1 : x1.size ≤ maxLen) (hx2 : x2.size ≤ maxLen) (hx3 : x3.size ≤ maxLen) :
    DataW.Trod enc Tryz.prog w base sp held 24 (.agg #[.string x0, .string x1, .string x2, .string x3]) (.agg [.lit (.string x0.data.toList), .lit (.string x1.data.toList), .lit (.string x2.data.toList), .lit (.string x3.data.toList)]) [] := by
  have hc24 : Tryz.prog.cellsOf 24 = 4 := by kernel_rfl
  have hc22 : Tryz.prog.cellsOf 22 = 1 := by kernel_rfl
  exact ⟨2, by simp [DataW.trod, Value.cells, Tryz.underlying24, Tryz.underlying22, hc24, hc22, hx0, hx1, hx2, hx3, List.range, List.range.loop]⟩

end

set_option maxRecDepth 100000 in
theorem Vo (H : Type) (enc : TypeId × Value → H) (W : World) (base : Nat) (args : Array Value) (ds gs : List (DataW H)) (before : List MemPlace)
    (hval : ∀ (j : Nat) t v, Tryz.f3.params[j]? = some t → args[j]? = some v → Value.okWide Tryz.prog W .any base t v)
    (hW : DataW.Whole enc Tryz.prog Tryz.f3.params.toList Rows.spinTimesSpec.vars false W args.toList ds gs before) (hL : laidMetH Tryz.prog Rows.spinTimesUptoRow.laid W)
    (hk : Rows.uptoSmall H (ds ++ gs) = true) (hSh : W.ShapedOpen Tryz.prog) :
    Calls Tryz.prog 3 args W fun e W' => ∃ v, e = .returned v ∧ Rows.spinTimesSpec.post enc Tryz.prog Tryz.f3 false true false false W args v W' := by
  have hW' := hW
  obtain ⟨p, q, hA0, hV, rfl, hfz, hnd⟩ := hW
  have hA : DataW.TrodAll enc Tryz.prog W 0 (fun _ => true) true Tryz.f3.params.toList args.toList ds p := hA0
  rw [Tryz.params3] at hA hval
  obtain ⟨v0, vs0, d0, ds0, p0, q0, hargs, rfl, rfl, h0, r0⟩ := trodAll_cons hA
  obtain ⟨v1, vs1, d1, ds1, p1, q1, rfl, rfl, rfl, h1, r1⟩ := trodAll_cons r0
  obtain ⟨rfl, rfl, rfl⟩ := trodAll_nil r1
  obtain rfl : args = #[v0, v1] := by cases args; simp_all
  obtain ⟨rfl, rfl⟩ := trodVars_none hV
  obtain ⟨t0x0, t0x1, t0x2, t0x3, rfl, rfl, rfl, m0x0, m0x1, m0x2, m0x3⟩ := Ys (hval 0 24 v0 rfl rfl) h0
  obtain ⟨t1x0, t1x1, t1x2, t1x3, rfl, rfl, rfl, m1x0, m1x1, m1x2, m1x3⟩ := Ys (hval 1 24 v1 rfl rfl) h1
  have hb := of_decide_eq_true hk
  simp only [List.append_nil, Rows.uptoBulkAll, Rows.uptoBulk] at hb
  clear hA0 hA r0 r1 hk
  simp only [List.append_nil] at hW'
  have tab := Wr hL
  have mx := MaxL.shaped hSh
  refine (qT_walk (w := W) (gw := t0x0) (gx := t0x1) (gy := t0x2) (gz := t0x3) (hw := t1x0) (hx := t1x1) (hy := t1x2) (hz := t1x3) (by rw [← Qr]; omega) (by rw [← Qr]; omega) (by rw [← Qr]; omega) (by rw [← Qr]; omega) (by rw [← Qr]; omega) (by rw [← Qr]; omega) (by rw [← Qr]; omega) (by rw [← Qr]; omega) tab mx).mono ?_
  rintro e W' ⟨hbel, rfl⟩
  refine ⟨_, rfl, Vv hW' (fun _ _ _ => trodAll_cons_mk (shut_bool Tryz.underlying4 _) trodAll_mk0) (fun _ => ?_) (fun _ => rfl) (hbel.frame _) (ok_one (by kernel_rfl) rfl (okWide_bool_mk Tryz.underlying4 _))⟩
  exact (trodAll_cons_mk (Yt m0x0 m0x1 m0x2 m0x3) (trodAll_cons_mk (Yt m1x0 m1x1 m1x2 m1x3) trodAll_mk0))

/-- The cells that a listed datum lays. -/
def Tx : DataW Unit → List Value
  | .lit (.int k z) => [.int k z]
  | _ => []
def SS : DataW Unit → List Value
  | .agg ps => ps.flatMap Tx
  | d => Tx d
def XZ : DataW Unit → Array Value
  | .agg ps => (ps.flatMap SS).toArray
  | _ => #[]
def Qg (d : DataW Unit) : Obj → Obj
  | .cells _ t frozen => .cells (XZ d) t frozen
  | o => o

def noArgs : Array Value := #[.agg #[.string ⟨#[]⟩, .string ⟨#[]⟩, .string ⟨#[]⟩, .string ⟨#[]⟩], .agg #[.string ⟨#[]⟩, .string ⟨#[]⟩, .string ⟨#[]⟩, .string ⟨#[]⟩]]
theorem Vi (os : Os) : laidMet Tryz.prog Rows.spinTimesUptoRow.laid (({ World.holding Tryz.prog os ⟨#[], #[], []⟩ with heap := (((((World.holding Tryz.prog os ⟨#[], #[], []⟩).heap.modify 1 (Qg Rows.laid_unicode_utf8_first)).modify 2 (Qg Rows.laid_unicode_utf8_acceptRanges)).modify 3 (Qg Rows.laid_internal_strconv_uint64pow10)).modify 4 (Qg Rows.laid_math_bits_deBruijn32tab)).modify 5 (Qg Rows.laid_math_bits_deBruijn64tab) } : World).forCall (fun _ _ => 0) ⟨#[], noArgs, []⟩).memory :=
  laidMet_of_run' 8 (by kernel_rfl) (by kernel_rfl)
theorem reads (os : Os) {H : Type} (enc : TypeId × Value → H) : ∃ places, DataW.whole enc Tryz.prog (({ World.holding Tryz.prog os ⟨#[], #[], []⟩ with heap := (((((World.holding Tryz.prog os ⟨#[], #[], []⟩).heap.modify 1 (Qg Rows.laid_unicode_utf8_first)).modify 2 (Qg Rows.laid_unicode_utf8_acceptRanges)).modify 3 (Qg Rows.laid_internal_strconv_uint64pow10)).modify 4 (Qg Rows.laid_math_bits_deBruijn32tab)).modify 5 (Qg Rows.laid_math_bits_deBruijn64tab) } : World).forCall (fun _ _ => 0) ⟨#[], noArgs, []⟩).memory Tryz.f3.params.toList Rows.spinTimesSpec.vars false noArgs.toList 8 = some ([.agg [.lit (.string []), .lit (.string []), .lit (.string []), .lit (.string [])], .agg [.lit (.string []), .lit (.string []), .lit (.string []), .lit (.string [])]], [], places) :=
  ⟨[], by kernel_rfl⟩

set_option maxRecDepth 100000 in
theorem XA (os : Os) (started : os.Started) (H : Type) (enc : TypeId × Value → H) (F : Stop.Interp) :
    ReturnsInHanded {} Tryz.checked os 3 .any ((Rows.OpenSpec.upto Rows.spinTimesSpec).preRow enc Tryz.prog Tryz.f3 Rows.spinTimesUptoRow.domain false Rows.spinTimesUptoRow.laid) (((Rows.OpenSpec.upto Rows.spinTimesSpec).at F).post enc Tryz.prog Tryz.f3 false true false false) := by
  obtain ⟨places, hx⟩ := reads os enc
  refine returnsInHanded_of_row (C := Tryz.checked) (s := Rows.OpenSpec.upto Rows.spinTimesSpec) own started (by kernel_rfl) Tryz.func3
    (witness_row_at (enc := enc) (C := Tryz.checked) false ({ World.holding Tryz.prog os ⟨#[], #[], []⟩ with heap := (((((World.holding Tryz.prog os ⟨#[], #[], []⟩).heap.modify 1 (Qg Rows.laid_unicode_utf8_first)).modify 2 (Qg Rows.laid_unicode_utf8_acceptRanges)).modify 3 (Qg Rows.laid_internal_strconv_uint64pow10)).modify 4 (Qg Rows.laid_math_bits_deBruijn32tab)).modify 5 (Qg Rows.laid_math_bits_deBruijn64tab) } : World) noArgs rfl (by kernel_rfl) (by kernel_rfl) (by kernel_rfl)
      (OpenSpec.preRow_of_cond 8 hx (by kernel_rfl) (fun k hk => by cases hk; kernel_rfl) (by kernel_rfl) (Vi os))) ?_
  intro W base args ds gs before hval hW _ hcond _ hL hSh _
  exact Vo H enc W base args ds gs before hval hW hL (hcond _ rfl) hSh

theorem Vb : Rows.SpinTimesUptoSaid :=
  OpenClaim.holds_of_cond 3 Tryz.f3 rfl rfl rfl rfl rfl rfl rfl ⟨rfl, rfl, rfl, rfl, rfl⟩ rfl rfl rfl rfl rfl (by kernel_rfl) Tryz.func3 joined
    (of_decide_eq_true (by kernel_rfl)) (by unfold Func.isWrapper; first | (rw [if_pos (by decide +kernel)]; kernel_rfl) | (rw [if_neg (by decide +kernel)]; exact ⟨rfl, rfl⟩))
    (fun os started H enc _ F => by rw [OpenClaim.pre_eq_preRow]; exact XA os started H enc F)

theorem Yh (f : FuncId) (fn : Func) (hf : Tryz.pinned.checked.prog.funcNamed "compass/compasslaw.SpinTimes" = some f) (hfn : Tryz.pinned.checked.prog.funcs[f]? = some fn) :
    false = Tryz.pinned.checked.prog.looks [] ∧ ∀ (j : Nat) t, fn.params[j]? = some t → Tryz.pinned.checked.prog.wantsStandIn t = false := by
  obtain rfl : f = 3 := Option.some.inj ((show Tryz.prog.funcNamed "compass/compasslaw.SpinTimes" = some 3 by kernel_rfl).symm.trans hf) |>.symm
  obtain rfl : fn = Tryz.f3 := (Option.some.inj (Tryz.func3.symm.trans hfn)).symm
  refine ⟨by kernel_rfl, fun j t ht => ?_⟩
  rw [Tryz.params3] at ht
  have hm : t = 24 := by
    have := Array.mem_of_getElem? ht
    simp at this
    first | exact this | exact this.symm | omega | grind | (rcases this with h | h | h <;> simp [h])
  rcases hm with rfl
  exact (show Tryz.prog.wantsStandIn 24 = false by kernel_rfl)

/-- The card, in its second form. -/
theorem qtimes_holds : Rows.SpinTimesUptoCardSaid :=
  Claim7.holds_tied_plain_at .later [] _ _ _ _ Vb (fun _ h => by cases h) (by kernel_rfl) (fun _ h => by cases h) spinTimesUpto_row_tie rfl ⟨rfl, rfl⟩ main_is rfl Yh goes_by
end Go.Proofs.YthagmklephpnhaaGreatDoor
