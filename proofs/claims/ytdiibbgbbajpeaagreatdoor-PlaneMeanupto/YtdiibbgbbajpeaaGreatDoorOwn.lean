/- The law of the mean of points by weights (promise P1.3) holds of the landed program: for all lists of points and of weights, told as texts, compasslaw.PlaneMean answers true and leaves its arguments as they were; its conditions: the arguments are together of bulk at most 1048576, and the listed package variables start as the program's text lays them. -/
import Derived.Test.YtdiibbgbbajpeaaGreatDoorCards
import Derived.Test.YtdiibbgbbajpeaaGreatDoorTie
import Derived.Test.YtdiibbgbbajpeaaGreatDoorLMPMF
import Derived.Test.YtdiibbgbbajpeaaGreatDoorCJPMean
import Derived.Test.YtdiibbgbbajpeaaGreatDoorCGPMean
import Derived.Test.YtdiibbgbbajpeaaGreatDoorKFC
import Derived.Test.YtdiibbgbbajpeaaGreatDoorA12
import Derived.ReadAgain
import Derived.ProofKit
import Derived.OpenShut
import Derived.ShutString
import Derived.ChangeMaps5
import Derived.Lib.SmallJoins
import Derived.Deep.DeepHandedRow
import Derived.Lib.LaidTab
namespace Go.Proofs.YtdiibbgbbajpeaaGreatDoor
open Go.ChangeShapes Go.WideShapes Go.ChangeAt Go.RowKit Go.Lib Go.Joins Go.ChangeMaps

theorem own : ownKnob Tryz.prog.godebug = none := by kernel_rfl
theorem gTab : Tryz.prog.globalNamed "internal/strconv.uint64pow10" = some 3 := by kernel_rfl
theorem gTabType : (Tryz.prog.globals[3]?).map (·.type) = some 200 := by kernel_rfl
theorem cellsTab : Tryz.prog.cellsOf 200 = 20 := by kernel_rfl
theorem cellsU64 : Tryz.prog.cellsOf 109 = 1 := by kernel_rfl

set_option maxRecDepth 100000 in
/-- What the row's list gives: the table of the powers of ten. -/
theorem table {W : World} (h : laidMetH Tryz.prog Rows.planeMeanUptoRow.laid W) : Tab W := by
  have h' : laidMet Tryz.prog Rows.planeMeanUptoRow.laid W := h
  obtain ⟨ps, ⟨_, _, _, _, _, _, _, _, _, _, ⟨_, _, _, _, _, _, _, _, _, _, ⟨g, t, cs, fuel, p, q, hg, ht, hv, hd, _, _⟩, _⟩, _⟩, _⟩ := h'
  obtain rfl := Option.some.inj (gTab.symm.trans hg)
  obtain rfl := Option.some.inj (gTabType.symm.trans ht)
  have e := Lib.cells_of_tab (k := .u64) (zs := Lib.pow10Tab) Tryz.underlying200 Tryz.underlying109 cellsU64 cellsTab hd
  unfold Tab Lib.TabIs
  rw [hv, ← e]

section
variable {H : Type} {enc : TypeId × Value → H} {P : Program}
/-- What the form asks behind a call whose arguments reach no memory. -/
theorem post_nil {f : Func} {s : ChangeSpec} {apart fresh handsOn again : Bool} {W W' : World} {args : Array Value} {v : Value} {ds gs : List (DataW H)}
    (hW : DataW.Whole enc P f.params.toList s.vars apart W args.toList ds gs [])
    (hres : ∀ (b : Nat) (sp : Nat → Bool) (hd : Bool), DataW.TrodAll enc P W' b sp hd f.resultTypes.toList (v.resultList f.resultTypes.size) (s.fn H (ds ++ gs)).results [])
    (hargs : ∀ sp : Nat → Bool, DataW.TrodAll enc P W' 0 sp true f.params.toList args.toList (s.fn H (ds ++ gs)).args [])
    (hvars : ∀ sp : Nat → Bool, DataW.TrodVars enc P W' sp s.vars (s.fn H (ds ++ gs)).vars [])
    (hk : W.keptBut W' (fun _ => False))
    (hok : ∀ (j : Nat) (t : TypeId) (r : Value), f.resultTypes[j]? = some t → (v.resultList f.resultTypes.size)[j]? = some r → Value.okWide P W' .any 0 t r) :
    s.post enc P f apart fresh handsOn again W args v W' := by
  refine ⟨ds, gs, [], [], [], [], hW, hres _ _ _, hargs _, hvars _, World.keptBut_mono (fun p hp => hp.elim) hk, fun _ => ⟨hok, _, _, ([] ++ []) ++ [], ⟨[] ++ [], [], trodAll_append (hargs _) (hres _ _ _), hvars _, rfl, ?_, ?_⟩, ?_⟩⟩
  · intro b off hp
    simp at hp
  · intro _
    simp
  · intro p hp _
    simp at hp

set_option maxRecDepth 100000 in
set_option linter.unusedSimpArgs false in
theorem el_t26 {w : World} (n : Nat) (cs : List Value) (x : DataW H × List MemPlace) (hl : cs.length = 2) (h : DataW.trod enc Tryz.prog w 0 (fun _ => true) true n 26 cs = some x) : ∃ ss : List ByteArray, cs = ss.map Value.string ∧ ∀ s ∈ ss, s.size ≤ Rows.uptoBulk x.1 := by
  have hc26 : Tryz.prog.cellsOf 26 = 2 := by kernel_rfl
  have hc24 : Tryz.prog.cellsOf 24 = 1 := by kernel_rfl
  match cs, hl with
  | [c0, c1], _ =>
    obtain ⟨ys, m, _, rfl, _, hl, hf⟩ := Go.DataW.trod_struct Tryz.underlying26 h
    match ys, hl with
    | [y0, y1], _ =>
    have hy0 := hf 0 _ rfl
    have hy1 := hf 1 _ rfl
    simp [hc26, hc24] at hy0 hy1
    obtain ⟨x0, e0, rfl, _⟩ := DataW.trod_string Tryz.underlying24 hy0
    obtain ⟨x1, e1, rfl, _⟩ := DataW.trod_string Tryz.underlying24 hy1
    simp at e0 e1
    subst e0 e1
    refine ⟨[x0, x1], rfl, fun u hu => ?_⟩
    simp only [List.mem_cons, List.not_mem_nil, or_false] at hu
    simp only [List.map_cons, List.map_nil, Rows.uptoBulk, Rows.uptoBulkAll, str_len]
    rcases hu with rfl | rfl <;> omega
theorem el_t24 {w : World} (n : Nat) (cs : List Value) (x : DataW H × List MemPlace) (hl : cs.length = 1) (h : DataW.trod enc Tryz.prog w 0 (fun _ => true) true n 24 cs = some x) : ∃ ss : List ByteArray, cs = ss.map Value.string ∧ ∀ s ∈ ss, s.size ≤ Rows.uptoBulk x.1 := by
  obtain ⟨s, rfl, rfl, _⟩ := DataW.trod_string Tryz.underlying24 h
  refine ⟨[s], rfl, fun u hu => ?_⟩
  rw [List.mem_singleton] at hu
  subst hu
  rw [Rows.uptoBulk, ← str_len]
  omega
end

theorem kids : Kids Tryz.prog (· < Tryz.prog.types.size) := kids_rows laid_out maps_rowed
theorem full : ∀ t e, t < Tryz.prog.types.size → Tryz.prog.underlying t = some (.slice e) → 0 < Tryz.prog.cellsOf e := slices_full_of Tryz.prog (by kernel_rfl)
theorem types_in : ∀ t ∈ Tryz.f3.params.toList, t < Tryz.prog.types.size := by
  rw [Tryz.params3]
  exact of_decide_eq_true (by kernel_rfl)
set_option maxRecDepth 100000 in
theorem contract (H : Type) (enc : TypeId × Value → H) (W : World) (base : Nat) (args : Array Value) (ds gs : List (DataW H)) (before : List MemPlace)
    (hval : ∀ (j : Nat) t v, Tryz.f3.params[j]? = some t → args[j]? = some v → Value.okWide Tryz.prog W .any base t v)
    (hW : DataW.Whole enc Tryz.prog Tryz.f3.params.toList Rows.planeMeanSpec.vars false W args.toList ds gs before) (hL : laidMetH Tryz.prog Rows.planeMeanUptoRow.laid W)
    (hk : Rows.uptoSmall H (ds ++ gs) = true) (hSh : W.ShapedOpen Tryz.prog) :
    Calls Tryz.prog 3 args W fun e W' => ∃ v, e = .returned v ∧ Rows.planeMeanSpec.post enc Tryz.prog Tryz.f3 false true false false W args v W' := by
  have hW' := hW
  obtain ⟨p, q, hA0, hV, rfl, hfz, hnd⟩ := hW
  have hA : DataW.TrodAll enc Tryz.prog W 0 (fun _ => true) true Tryz.f3.params.toList args.toList ds p := hA0
  rw [Tryz.params3] at hA hval
  obtain ⟨v0, vs0, d0, ds0, p0, q0, hargs, rfl, rfl, h0, r0⟩ := trodAll_cons hA
  obtain ⟨v1, vs1, d1, ds1, p1, q1, rfl, rfl, rfl, h1, r1⟩ := trodAll_cons r0
  obtain ⟨rfl, rfl, rfl⟩ := trodAll_nil r1
  obtain rfl : args = #[v0, v1] := by cases args; simp_all
  obtain ⟨rfl, rfl⟩ := trodVars_none hV
  obtain ⟨l0, T0⟩ := open_texts Tryz.underlying22 (show Tryz.prog.cellsOf 26 = 2 by kernel_rfl) (by decide) el_t26 (hval 0 22 v0 rfl rfl) h0
  obtain ⟨l1, T1⟩ := open_texts Tryz.underlying23 (show Tryz.prog.cellsOf 24 = 1 by kernel_rfl) (by decide) el_t24 (hval 1 23 v1 rfl rfl) h1
  have hb := of_decide_eq_true hk
  simp only [List.append_nil, Rows.uptoBulkAll] at hb
  clear hA r0 r1 hk
  simp only [List.append_nil] at hW' hA0
  have tab := table hL
  have mx := MaxL.shaped hSh
  refine (mea_walk (w := W) (by omega) (by omega) T0 T1 ⟨tab, mx⟩).mono ?_
  rintro e W' ⟨hbel, rfl⟩
  exact ⟨_, rfl, post_old hW' hbel (fun _ _ _ => trodAll_cons_mk (shut_bool Tryz.underlying4 _) trodAll_mk0) (fun _ hs => all_again kids full hbel types_in hA0 hs) (fun _ => rfl) (ok_one (by kernel_rfl) rfl (okWide_bool_mk Tryz.underlying4 _))⟩

/-- The cells that a listed datum lays. -/
def lit1 : DataW Unit → List Value
  | .lit (.int k z) => [.int k z]
  | _ => []
def lit2 : DataW Unit → List Value
  | .agg ps => ps.flatMap lit1
  | d => lit1 d
def cellsLaid : DataW Unit → Array Value
  | .agg ps => (ps.flatMap lit2).toArray
  | _ => #[]
def putCells (d : DataW Unit) : Obj → Obj
  | .cells _ t frozen => .cells (cellsLaid d) t frozen
  | o => o

def noArgs : Array Value := #[.slice none 0 0, .slice none 0 0]
theorem laid_met (os : Os) : laidMet Tryz.prog Rows.planeMeanUptoRow.laid (({ World.holding Tryz.prog os ⟨#[], #[], []⟩ with heap := (((((World.holding Tryz.prog os ⟨#[], #[], []⟩).heap.modify 1 (putCells Rows.laid_unicode_utf8_first)).modify 2 (putCells Rows.laid_unicode_utf8_acceptRanges)).modify 3 (putCells Rows.laid_internal_strconv_uint64pow10)).modify 4 (putCells Rows.laid_math_bits_deBruijn32tab)).modify 5 (putCells Rows.laid_math_bits_deBruijn64tab) } : World).forCall (fun _ _ => 0) ⟨#[], noArgs, []⟩).memory :=
  laidMet_of_run' 8 (by kernel_rfl) (by kernel_rfl)
theorem reads (os : Os) {H : Type} (enc : TypeId × Value → H) : ∃ places, DataW.whole enc Tryz.prog (({ World.holding Tryz.prog os ⟨#[], #[], []⟩ with heap := (((((World.holding Tryz.prog os ⟨#[], #[], []⟩).heap.modify 1 (putCells Rows.laid_unicode_utf8_first)).modify 2 (putCells Rows.laid_unicode_utf8_acceptRanges)).modify 3 (putCells Rows.laid_internal_strconv_uint64pow10)).modify 4 (putCells Rows.laid_math_bits_deBruijn32tab)).modify 5 (putCells Rows.laid_math_bits_deBruijn64tab) } : World).forCall (fun _ _ => 0) ⟨#[], noArgs, []⟩).memory Tryz.f3.params.toList Rows.planeMeanSpec.vars false noArgs.toList 8 = some ([.nil, .nil], [], places) :=
  ⟨[], by kernel_rfl⟩

set_option maxRecDepth 100000 in
theorem liftedUpto (os : Os) (started : os.Started) (H : Type) (enc : TypeId × Value → H) (F : Stop.Interp) :
    ReturnsInHanded {} Tryz.checked os 3 .any ((Rows.OpenSpec.upto Rows.planeMeanSpec).preRow enc Tryz.prog Tryz.f3 Rows.planeMeanUptoRow.domain false Rows.planeMeanUptoRow.laid) (((Rows.OpenSpec.upto Rows.planeMeanSpec).at F).post enc Tryz.prog Tryz.f3 false true false false) := by
  obtain ⟨places, hx⟩ := reads os enc
  refine returnsInHanded_of_row (C := Tryz.checked) (s := Rows.OpenSpec.upto Rows.planeMeanSpec) own started (by kernel_rfl) Tryz.func3
    (witness_row_at (enc := enc) (C := Tryz.checked) false ({ World.holding Tryz.prog os ⟨#[], #[], []⟩ with heap := (((((World.holding Tryz.prog os ⟨#[], #[], []⟩).heap.modify 1 (putCells Rows.laid_unicode_utf8_first)).modify 2 (putCells Rows.laid_unicode_utf8_acceptRanges)).modify 3 (putCells Rows.laid_internal_strconv_uint64pow10)).modify 4 (putCells Rows.laid_math_bits_deBruijn32tab)).modify 5 (putCells Rows.laid_math_bits_deBruijn64tab) } : World) noArgs rfl (by kernel_rfl) (by kernel_rfl) (by kernel_rfl)
      (OpenSpec.preRow_of_cond 8 hx (by kernel_rfl) (fun k hk => by cases hk; kernel_rfl) (by kernel_rfl) (laid_met os))) ?_
  intro W base args ds gs before hval hW _ hcond _ hL hSh _
  exact contract H enc W base args ds gs before hval hW hL (hcond _ rfl) hSh

theorem saidUpto : Rows.PlaneMeanUptoSaid :=
  OpenClaim.holds_of_cond 3 Tryz.f3 rfl rfl rfl rfl rfl rfl rfl ⟨rfl, rfl, rfl, rfl, rfl⟩ rfl rfl rfl rfl rfl (by kernel_rfl) Tryz.func3 joined
    (of_decide_eq_true (by kernel_rfl)) (by unfold Func.isWrapper; first | (rw [if_pos (by decide +kernel)]; kernel_rfl) | (rw [if_neg (by decide +kernel)]; exact ⟨rfl, rfl⟩))
    (fun os started H enc _ F => by rw [OpenClaim.pre_eq_preRow]; exact liftedUpto os started H enc F)

theorem plainArgs (f : FuncId) (fn : Func) (hf : Tryz.pinned.checked.prog.funcNamed "compass/compasslaw.PlaneMean" = some f) (hfn : Tryz.pinned.checked.prog.funcs[f]? = some fn) :
    false = Tryz.pinned.checked.prog.looks [] ∧ ∀ (j : Nat) t, fn.params[j]? = some t → Tryz.pinned.checked.prog.wantsStandIn t = false := by
  obtain rfl : f = 3 := Option.some.inj ((show Tryz.prog.funcNamed "compass/compasslaw.PlaneMean" = some 3 by kernel_rfl).symm.trans hf) |>.symm
  obtain rfl : fn = Tryz.f3 := (Option.some.inj (Tryz.func3.symm.trans hfn)).symm
  refine ⟨by kernel_rfl, fun j t ht => ?_⟩
  rw [Tryz.params3] at ht
  have hm : t = 22 ∨ t = 23 := by
    have := Array.mem_of_getElem? ht
    simp at this
    first | exact this | exact this.symm | omega | grind | (rcases this with h | h | h <;> simp [h])
  rcases hm with rfl | rfl
  · exact (show Tryz.prog.wantsStandIn 22 = false by kernel_rfl)
  · exact (show Tryz.prog.wantsStandIn 23 = false by kernel_rfl)

/-- The card, in its second form. -/
theorem pmean_holds : Rows.PlaneMeanUptoCardSaid :=
  Claim7.holds_tied_plain_at .later [] _ _ _ _ saidUpto (fun _ h => by cases h) (by kernel_rfl) (fun _ h => by cases h) planeMeanUpto_row_tie rfl ⟨rfl, rfl⟩ main_is rfl plainArgs goes_by
end Go.Proofs.YtdiibbgbbajpeaaGreatDoor
