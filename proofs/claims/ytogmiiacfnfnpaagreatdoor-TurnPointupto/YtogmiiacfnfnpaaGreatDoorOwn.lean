/- The law of turning a point inside out (chapter 6) holds of the landed program: for every circle c and every point p, told as texts, compasslaw.TurnPoint answers true and leaves its arguments as they were; its conditions: the arguments are together of bulk at most 1048576, and the listed package variables start as the program's text lays them. -/
import Derived.Test.YtogmiiacfnfnpaaGreatDoorCards
import Derived.Test.YtogmiiacfnfnpaaGreatDoorTie
import Derived.Test.YtogmiiacfnfnpaaGreatDoorLMTP
import Derived.ProofKit
import Derived.OpenShut
import Derived.ShutString
import Derived.ChangeMaps5
import Derived.Lib.SmallJoins
import Derived.Deep.DeepHandedRow
import Derived.Lib.LaidTab
namespace Go.Proofs.YtogmiiacfnfnpaaGreatDoor
open Go.ChangeShapes Go.WideShapes Go.ChangeAt Go.RowKit Go.Lib Go.Joins Go.ChangeMaps

theorem own : ownKnob Tryz.prog.godebug = none := by kernel_rfl
theorem gTab : Tryz.prog.globalNamed "internal/strconv.uint64pow10" = some 3 := by kernel_rfl
theorem gTabType : (Tryz.prog.globals[3]?).map (·.type) = some 320 := by kernel_rfl
theorem cellsTab : Tryz.prog.cellsOf 320 = 20 := by kernel_rfl
theorem cellsU64 : Tryz.prog.cellsOf 198 = 1 := by kernel_rfl

set_option maxRecDepth 100000 in
/-- What the row's list gives: the table of the powers of ten. -/
theorem table {W : World} (h : laidMetH Tryz.prog Rows.turnPointUptoRow.laid W) : Tab W := by
  have h' : laidMet Tryz.prog Rows.turnPointUptoRow.laid W := h
  obtain ⟨ps, ⟨_, _, _, _, _, _, _, _, _, _, ⟨_, _, _, _, _, _, _, _, _, _, ⟨g, t, cs, fuel, p, q, hg, ht, hv, hd, _, _⟩, _⟩, _⟩, _⟩ := h'
  obtain rfl := Option.some.inj (gTab.symm.trans hg)
  obtain rfl := Option.some.inj (gTabType.symm.trans ht)
  have e := Lib.cells_of_tab (k := .u64) (zs := Lib.pow10Tab) Tryz.underlying320 Tryz.underlying198 cellsU64 cellsTab hd
  unfold Tab Lib.TabIs
  rw [hv, ← e]

section
variable {H : Type} {enc : TypeId × Value → H} {P : Program}
/-- What the form asks behind a call whose arguments reach no memory. -/
theorem post_nil {f : Func} {s : ChangeSpec} {apart fresh handsOn again : Bool} {W W' : World} {args : Array Value} {v : Value} {ds gs : List (DataW H)}
    (hW : DataW.Whole enc P f.params.toList s.vars apart W args.toList ds gs [])
    (hres : ∀ (b : Nat) (sp : Nat → Bool) (hd : Bool), DataW.TrodAll enc P W' b sp hd f.resultTypes.toList (v.resultList f.resultTypes.size) (s.fn H (ds ++ gs)).results [])
    (hargs : ∀ sp : Nat → Bool, DataW.TrodAll enc P W' 0 sp true f.params.toList args.toList (s.fn H (ds ++ gs)).args [])
    (hvars : ∀ sp : Nat → Bool, DataW.TrodVars enc P W' sp s.vars (s.fn H (ds ++ gs)).vars [])
    (hk : W.keptBut W' (fun _ => False))
    (hok : ∀ (j : Nat) (t : TypeId) (r : Value), f.resultTypes[j]? = some t → (v.resultList f.resultTypes.size)[j]? = some r → Value.okWide P W' .any 0 t r) :
    s.post enc P f apart fresh handsOn again W args v W' := by
  refine ⟨ds, gs, [], [], [], [], hW, hres _ _ _, hargs _, hvars _, World.keptBut_mono (fun p hp => hp.elim) hk, fun _ => ⟨hok, _, _, ([] ++ []) ++ [], ⟨[] ++ [], [], trodAll_append (hargs _) (hres _ _ _), hvars _, rfl, ?_, ?_⟩, ?_⟩⟩
  · intro b off hp
    simp at hp
  · intro _
    simp
  · intro p hp _
    simp at hp

theorem cellsQc : Tryz.prog.cellsOf 22 = 1 := by kernel_rfl
theorem cellsPc : Tryz.prog.cellsOf 26 = 2 := by kernel_rfl
theorem cellsC : Tryz.prog.cellsOf 62 = 3 := by kernel_rfl
set_option maxRecDepth 100000 in
theorem open_C {w : World} {base b0 : Nat} {sp : Nat → Bool} {held : Bool} {v : Value} {d : DataW H} {ps : List MemPlace} (hv : Value.okWide Tryz.prog w .any b0 62 v) (h : DataW.Trod enc Tryz.prog w base sp held 62 v d ps) :
    ∃ x y z : ByteArray, v = .agg #[.string x, .string y, .string z] ∧ d = .agg [.agg [.lit (.string x.data.toList), .lit (.string y.data.toList)], .lit (.string z.data.toList)] ∧ ps = [] ∧ x.size ≤ maxLen ∧ y.size ≤ maxLen ∧ z.size ≤ maxLen := by
  obtain ⟨cs, rfl, hsz⟩ := okWide_struct Tryz.underlying62 hv
  obtain ⟨c0, c1, c2, rfl⟩ := array3 (hsz.trans cellsC)
  obtain ⟨fuel, hf⟩ := h
  obtain ⟨y0, y1, n, hx, _, h0, h1⟩ := trod_struct2 Tryz.underlying62 hf
  simp only [Prod.mk.injEq] at hx
  simp only [Value.cells, cellsPc, cellsQc, List.drop_zero, List.take_succ_cons, List.take_zero, List.drop_succ_cons] at h0 h1
  obtain ⟨z0, z1, m, hz, _, k0, k1⟩ := trod_struct2 Tryz.underlying26 h0
  simp only [cellsQc, List.drop_zero, List.take_succ_cons, List.take_zero, List.drop_succ_cons] at k0 k1
  obtain ⟨x, e0, rfl, hx0⟩ := DataW.trod_string Tryz.underlying22 k0
  obtain ⟨y, e1, rfl, hy0⟩ := DataW.trod_string Tryz.underlying22 k1
  obtain ⟨z, e2, rfl, hz0⟩ := DataW.trod_string Tryz.underlying22 h1
  simp only [List.cons.injEq, and_true] at e0 e1 e2
  subst e0 e1 e2 hz
  obtain ⟨rfl, rfl⟩ := hx
  exact ⟨x, y, z, rfl, rfl, rfl, hx0, hy0, hz0⟩

theorem shut_C {w : World} {base : Nat} {sp : Nat → Bool} {held : Bool} {x y z : ByteArray} (hx : x.size ≤ maxLen) (hy : y.size ≤ maxLen) (hz : z.size ≤ maxLen) :
    DataW.Trod enc Tryz.prog w base sp held 62 (.agg #[.string x, .string y, .string z]) (.agg [.agg [.lit (.string x.data.toList), .lit (.string y.data.toList)], .lit (.string z.data.toList)]) [] := by
  obtain ⟨n0, t0⟩ := field_of_Trod (enc := enc) (w := w) (base := base) (spare := sp) (held := held) (shut_string Tryz.underlying22 hx) rfl
  obtain ⟨n1, t1⟩ := field_of_Trod (enc := enc) (w := w) (base := base) (spare := sp) (held := held) (shut_string Tryz.underlying22 hy) rfl
  obtain ⟨n2, t2⟩ := field_of_Trod (enc := enc) (w := w) (base := base) (spare := sp) (held := held) (shut_string Tryz.underlying22 hz) rfl
  have a := trod_struct2_mk (enc := enc) (w := w) (base := base) (spare := sp) (held := held) (n := n0 + n1 + n2) (cs := [.string x, .string y]) Tryz.underlying26 (by simp [cellsPc])
    (by simpa [cellsQc] using DataW.trod_le (show n0 ≤ n0 + n1 + n2 by omega) t0) (by simpa [cellsQc] using DataW.trod_le (show n1 ≤ n0 + n1 + n2 by omega) t1)
  have b := trod_struct2_mk (enc := enc) (w := w) (base := base) (spare := sp) (held := held) (n := n0 + n1 + n2 + 1) (cs := [.string x, .string y, .string z]) Tryz.underlying62 (by simp [cellsC])
    (by simpa [cellsPc] using a) (by simpa [cellsQc] using DataW.trod_le (show n2 ≤ n0 + n1 + n2 + 1 by omega) t2)
  exact ⟨_, by simpa [Value.cells] using b⟩

theorem cellsP : Tryz.prog.cellsOf 26 = 2 := by kernel_rfl
set_option maxRecDepth 100000 in
theorem open_P {w : World} {base b0 : Nat} {sp : Nat → Bool} {held : Bool} {v : Value} {d : DataW H} {ps : List MemPlace} (hv : Value.okWide Tryz.prog w .any b0 26 v) (h : DataW.Trod enc Tryz.prog w base sp held 26 v d ps) :
    ∃ x y : ByteArray, v = .agg #[.string x, .string y] ∧ d = .agg [.lit (.string x.data.toList), .lit (.string y.data.toList)] ∧ ps = [] ∧ x.size ≤ maxLen ∧ y.size ≤ maxLen := by
  obtain ⟨v0, v1, y0, y1, n, rfl, rfl, rfl, h0, h1⟩ := open_agg2 Tryz.underlying26 (by kernel_rfl) cellsP hv h
  obtain ⟨x, e0, rfl, hx⟩ := DataW.trod_string Tryz.underlying22 h0
  obtain ⟨y, e1, rfl, hy⟩ := DataW.trod_string Tryz.underlying22 h1
  simp only [List.cons.injEq, and_true] at e0 e1
  subst e0
  subst e1
  exact ⟨x, y, rfl, rfl, rfl, hx, hy⟩

theorem shut_P {w : World} {base : Nat} {sp : Nat → Bool} {held : Bool} {x y : ByteArray} (hx : x.size ≤ maxLen) (hy : y.size ≤ maxLen) :
    DataW.Trod enc Tryz.prog w base sp held 26 (.agg #[.string x, .string y]) (.agg [.lit (.string x.data.toList), .lit (.string y.data.toList)]) [] :=
  shut_agg2 Tryz.underlying26 (by kernel_rfl) cellsP (field_of_Trod (shut_string Tryz.underlying22 hx) rfl) (field_of_Trod (shut_string Tryz.underlying22 hy) rfl)

end

set_option maxRecDepth 100000 in
theorem contract (H : Type) (enc : TypeId × Value → H) (W : World) (base : Nat) (args : Array Value) (ds gs : List (DataW H)) (before : List MemPlace)
    (hval : ∀ (j : Nat) t v, Tryz.f13.params[j]? = some t → args[j]? = some v → Value.okWide Tryz.prog W .any base t v)
    (hW : DataW.Whole enc Tryz.prog Tryz.f13.params.toList Rows.turnPointSpec.vars false W args.toList ds gs before) (hL : laidMetH Tryz.prog Rows.turnPointUptoRow.laid W)
    (hk : Rows.uptoSmall H (ds ++ gs) = true) (hSh : W.ShapedOpen Tryz.prog) :
    Calls Tryz.prog 13 args W fun e W' => ∃ v, e = .returned v ∧ Rows.turnPointSpec.post enc Tryz.prog Tryz.f13 false true false false W args v W' := by
  have hW' := hW
  obtain ⟨p, q, hA0, hV, rfl, hfz, hnd⟩ := hW
  have hA : DataW.TrodAll enc Tryz.prog W 0 (fun _ => true) true Tryz.f13.params.toList args.toList ds p := hA0
  rw [Tryz.params13] at hA hval
  obtain ⟨v0, vs0, d0, ds0, p0, q0, hargs, rfl, rfl, h0, r0⟩ := trodAll_cons hA
  obtain ⟨v1, vs1, d1, ds1, p1, q1, rfl, rfl, rfl, h1, r1⟩ := trodAll_cons r0
  obtain ⟨rfl, rfl, rfl⟩ := trodAll_nil r1
  obtain rfl : args = #[v0, v1] := by cases args; simp_all
  obtain ⟨rfl, rfl⟩ := trodVars_none hV
  obtain ⟨t0x, t0y, t0z, rfl, rfl, rfl, m0x, m0y, m0z⟩ := open_C (hval 0 62 v0 rfl rfl) h0
  obtain ⟨t1x, t1y, rfl, rfl, rfl, m1x, m1y⟩ := open_P (hval 1 26 v1 rfl rfl) h1
  have hb := of_decide_eq_true hk
  simp only [List.append_nil, Rows.uptoBulkAll, Rows.uptoBulk] at hb
  clear hA0 hA r0 r1 hk
  simp only [List.append_nil] at hW'
  have tab := table hL
  have mx := MaxL.shaped hSh
  refine (turnPoint_walk (w := W) (cx := t0x) (cz := t0y) (cr := t0z) (px := t1x) (pz := t1y) (by rw [← str_len]; omega) (by rw [← str_len]; omega) (by rw [← str_len]; omega) (by rw [← str_len]; omega) (by rw [← str_len]; omega) tab mx).mono ?_
  rintro e W' ⟨hbel, rfl⟩
  refine ⟨_, rfl, post_nil hW' (fun _ _ _ => trodAll_cons_mk (shut_bool Tryz.underlying4 _) trodAll_mk0) (fun _ => ?_) (fun _ => rfl) (hbel.frame _) (ok_one (by kernel_rfl) rfl (okWide_bool_mk Tryz.underlying4 _))⟩
  exact (trodAll_cons_mk (shut_C m0x m0y m0z) (trodAll_cons_mk (shut_P m1x m1y) trodAll_mk0))

/-- The cells that a listed datum lays. -/
def lit1 : DataW Unit → List Value
  | .lit (.int k z) => [.int k z]
  | _ => []
def lit2 : DataW Unit → List Value
  | .agg ps => ps.flatMap lit1
  | d => lit1 d
def cellsLaid : DataW Unit → Array Value
  | .agg ps => (ps.flatMap lit2).toArray
  | _ => #[]
def putCells (d : DataW Unit) : Obj → Obj
  | .cells _ t frozen => .cells (cellsLaid d) t frozen
  | o => o

def noArgs : Array Value := #[.agg #[.string ⟨#[]⟩, .string ⟨#[]⟩, .string ⟨#[]⟩], .agg #[.string ⟨#[]⟩, .string ⟨#[]⟩]]
theorem laid_met (os : Os) : laidMet Tryz.prog Rows.turnPointUptoRow.laid (({ World.holding Tryz.prog os ⟨#[], #[], []⟩ with heap := (((((World.holding Tryz.prog os ⟨#[], #[], []⟩).heap.modify 1 (putCells Rows.laid_unicode_utf8_first)).modify 2 (putCells Rows.laid_unicode_utf8_acceptRanges)).modify 3 (putCells Rows.laid_internal_strconv_uint64pow10)).modify 4 (putCells Rows.laid_math_bits_deBruijn32tab)).modify 5 (putCells Rows.laid_math_bits_deBruijn64tab) } : World).forCall (fun _ _ => 0) ⟨#[], noArgs, []⟩).memory :=
  laidMet_of_run' 8 (by kernel_rfl) (by kernel_rfl)
theorem reads (os : Os) {H : Type} (enc : TypeId × Value → H) : ∃ places, DataW.whole enc Tryz.prog (({ World.holding Tryz.prog os ⟨#[], #[], []⟩ with heap := (((((World.holding Tryz.prog os ⟨#[], #[], []⟩).heap.modify 1 (putCells Rows.laid_unicode_utf8_first)).modify 2 (putCells Rows.laid_unicode_utf8_acceptRanges)).modify 3 (putCells Rows.laid_internal_strconv_uint64pow10)).modify 4 (putCells Rows.laid_math_bits_deBruijn32tab)).modify 5 (putCells Rows.laid_math_bits_deBruijn64tab) } : World).forCall (fun _ _ => 0) ⟨#[], noArgs, []⟩).memory Tryz.f13.params.toList Rows.turnPointSpec.vars false noArgs.toList 8 = some ([.agg [.agg [.lit (.string []), .lit (.string [])], .lit (.string [])], .agg [.lit (.string []), .lit (.string [])]], [], places) :=
  ⟨[], by kernel_rfl⟩

set_option maxRecDepth 100000 in
theorem liftedUpto (os : Os) (started : os.Started) (H : Type) (enc : TypeId × Value → H) (F : Stop.Interp) :
    ReturnsInHanded {} Tryz.checked os 13 .any ((Rows.OpenSpec.upto Rows.turnPointSpec).preRow enc Tryz.prog Tryz.f13 Rows.turnPointUptoRow.domain false Rows.turnPointUptoRow.laid) (((Rows.OpenSpec.upto Rows.turnPointSpec).at F).post enc Tryz.prog Tryz.f13 false true false false) := by
  obtain ⟨places, hx⟩ := reads os enc
  refine returnsInHanded_of_row (C := Tryz.checked) (s := Rows.OpenSpec.upto Rows.turnPointSpec) own started (by kernel_rfl) Tryz.func13
    (witness_row_at (enc := enc) (C := Tryz.checked) false ({ World.holding Tryz.prog os ⟨#[], #[], []⟩ with heap := (((((World.holding Tryz.prog os ⟨#[], #[], []⟩).heap.modify 1 (putCells Rows.laid_unicode_utf8_first)).modify 2 (putCells Rows.laid_unicode_utf8_acceptRanges)).modify 3 (putCells Rows.laid_internal_strconv_uint64pow10)).modify 4 (putCells Rows.laid_math_bits_deBruijn32tab)).modify 5 (putCells Rows.laid_math_bits_deBruijn64tab) } : World) noArgs rfl (by kernel_rfl) (by kernel_rfl) (by kernel_rfl)
      (OpenSpec.preRow_of_cond 8 hx (by kernel_rfl) (fun k hk => by cases hk; kernel_rfl) (by kernel_rfl) (laid_met os))) ?_
  intro W base args ds gs before hval hW _ hcond _ hL hSh _
  exact contract H enc W base args ds gs before hval hW hL (hcond _ rfl) hSh

theorem both {a b : Bool} (ha : a = true) (hb : b = true) : (a && b) = true := by
  subst ha hb
  rfl
set_option maxHeartbeats 0 in
set_option maxRecDepth 100000 in
/-- The closed facts of the row, each by itself: together they outgrow the kernel's memory. -/
theorem joined : joinedFacts Tryz.pinned.checked.prog 13 Tryz.f13 (Rows.OpenSpec.upto Rows.turnPointSpec).bare Rows.turnPointUptoRow = true := by
  unfold joinedFacts
  refine both (both (both (both (both (both (both (both (both (both (both (both (both (both (both (both (both (both (both (both (both (both (both (both (both (both (both (both (both (both (both ?_ ?_) ?_) ?_) ?_) ?_) ?_) ?_) ?_) ?_) ?_) ?_) ?_) ?_) ?_) ?_) ?_) ?_) ?_) ?_) ?_) ?_) ?_) ?_) ?_) ?_) ?_) ?_) ?_) ?_) ?_) ?_
  all_goals (as_aux_lemma => kernel_rfl)
theorem saidUpto : Rows.TurnPointUptoSaid :=
  OpenClaim.holds_of_cond 13 Tryz.f13 rfl rfl rfl rfl rfl rfl rfl ⟨rfl, rfl, rfl, rfl, rfl⟩ rfl rfl rfl rfl rfl (by kernel_rfl) Tryz.func13 joined
    (of_decide_eq_true (by kernel_rfl)) (by unfold Func.isWrapper; first | (rw [if_pos (by decide +kernel)]; kernel_rfl) | (rw [if_neg (by decide +kernel)]; exact ⟨rfl, rfl⟩))
    (fun os started H enc _ F => by rw [OpenClaim.pre_eq_preRow]; exact liftedUpto os started H enc F)

theorem plainArgs (f : FuncId) (fn : Func) (hf : Tryz.pinned.checked.prog.funcNamed "compass/compasslaw.TurnPoint" = some f) (hfn : Tryz.pinned.checked.prog.funcs[f]? = some fn) :
    false = Tryz.pinned.checked.prog.looks [] ∧ ∀ (j : Nat) t, fn.params[j]? = some t → Tryz.pinned.checked.prog.wantsStandIn t = false := by
  obtain rfl : f = 13 := Option.some.inj ((show Tryz.prog.funcNamed "compass/compasslaw.TurnPoint" = some 13 by kernel_rfl).symm.trans hf) |>.symm
  obtain rfl : fn = Tryz.f13 := (Option.some.inj (Tryz.func13.symm.trans hfn)).symm
  refine ⟨by kernel_rfl, fun j t ht => ?_⟩
  rw [Tryz.params13] at ht
  have hm : t = 26 ∨ t = 62 := by
    have := Array.mem_of_getElem? ht
    simp at this
    first | exact this | exact this.symm | omega | (rcases this with h | h | h <;> simp [h])
  rcases hm with rfl | rfl
  · exact (show Tryz.prog.wantsStandIn 26 = false by kernel_rfl)
  · exact (show Tryz.prog.wantsStandIn 62 = false by kernel_rfl)

/-- The card, in its second form. -/
theorem tpoint_holds : Rows.TurnPointUptoCardSaid :=
  Claim7.holds_tied_plain_at .later [] _ _ _ _ saidUpto (fun _ h => by cases h) (by kernel_rfl) (fun _ h => by cases h) turnPointUpto_row_tie rfl ⟨rfl, rfl⟩ (by kernel_rfl) rfl plainArgs (by kernel_rfl)
end Go.Proofs.YtogmiiacfnfnpaaGreatDoor
