/- The law of how near the fractions of Near come (promise P15.4) holds of the landed program: for every text, compasslaw.GridBest answers true and leaves its arguments as they were; its condition: the listed package variables start as the program's text lays them. -/
import Derived.Test.YtnhplfjlhdpgoaaGreatDoorCards
import Derived.Test.YtnhplfjlhdpgoaaGreatDoorTie
import Derived.Test.YtnhplfjlhdpgoaaGreatDoorLMGB
import Derived.Test.YtnhplfjlhdpgoaaGreatDoorCJDBest
import Derived.Test.YtnhplfjlhdpgoaaGreatDoorCGDBest
import Derived.Test.YtnhplfjlhdpgoaaGreatDoorKFC
import Derived.ProofKit
import Derived.OpenShut
import Derived.ShutString
import Derived.ChangeMaps5
import Derived.Lib.SmallJoins
import Derived.Deep.DeepHandedRow
import Derived.Lib.LaidTab
namespace Go.Proofs.YtnhplfjlhdpgoaaGreatDoor
open Go.ChangeShapes Go.WideShapes Go.ChangeAt Go.RowKit Go.Lib Go.Joins Go.ChangeMaps

theorem own : ownKnob Tryz.prog.godebug = none := by kernel_rfl
theorem gTab : Tryz.prog.globalNamed "internal/strconv.uint64pow10" = some 3 := by kernel_rfl
theorem gTabType : (Tryz.prog.globals[3]?).map (·.type) = some 219 := by kernel_rfl
theorem AG : Tryz.prog.cellsOf 219 = 20 := by kernel_rfl
theorem AE : Tryz.prog.cellsOf 125 = 1 := by kernel_rfl

set_option maxRecDepth 100000 in
/-- What the row's list gives: the table of the powers of ten. -/
theorem table {W : World} (h : laidMetH Tryz.prog Rows.gridBestRow.laid W) : Tab W := by
  have h' : laidMet Tryz.prog Rows.gridBestRow.laid W := h
  obtain ⟨ps, ⟨_, _, _, _, _, _, _, _, _, _, ⟨_, _, _, _, _, _, _, _, _, _, ⟨g, t, cs, fuel, p, q, hg, ht, hv, hd, _, _⟩, _⟩, _⟩, _⟩ := h'
  obtain rfl := Option.some.inj (gTab.symm.trans hg)
  obtain rfl := Option.some.inj (gTabType.symm.trans ht)
  have e := Lib.cells_of_tab (k := .u64) (zs := Lib.pow10Tab) Tryz.underlying219 Tryz.underlying125 AE AG hd
  unfold Tab Lib.TabIs
  rw [hv, ← e]

section
variable {H : Type} {enc : TypeId × Value → H} {P : Program}
/-- What the form asks behind a call whose arguments Ej no memory. -/
theorem Lc {f : Func} {s : ChangeSpec} {apart fresh handsOn again : Bool} {W W' : World} {args : Array Value} {v : Value} {ds gs : List (DataW H)}
    (hW : DataW.Whole enc P f.params.toList s.vars apart W args.toList ds gs [])
    (hres : ∀ (b : Nat) (sp : Nat → Bool) (hd : Bool), DataW.TrodAll enc P W' b sp hd f.resultTypes.toList (v.resultList f.resultTypes.size) (s.fn H (ds ++ gs)).results [])
    (hargs : ∀ sp : Nat → Bool, DataW.TrodAll enc P W' 0 sp true f.params.toList args.toList (s.fn H (ds ++ gs)).args [])
    (hvars : ∀ sp : Nat → Bool, DataW.TrodVars enc P W' sp s.vars (s.fn H (ds ++ gs)).vars [])
    (hk : W.keptBut W' (fun _ => False))
    (hok : ∀ (j : Nat) (t : TypeId) (r : Value), f.resultTypes[j]? = some t → (v.resultList f.resultTypes.size)[j]? = some r → Value.okWide P W' .any 0 t r) :
    s.post enc P f apart fresh handsOn again W args v W' := by
  refine ⟨ds, gs, [], [], [], [], hW, hres _ _ _, hargs _, hvars _, World.keptBut_mono (fun p hp => hp.elim) hk, fun _ => ⟨hok, _, _, ([] ++ []) ++ [], ⟨[] ++ [], [], trodAll_append (hargs _) (hres _ _ _), hvars _, rfl, ?_, ?_⟩, ?_⟩⟩
  · intro b off hp
    simp at hp
  · intro _
    simp
  · intro p hp _
    simp at hp

end

set_option maxRecDepth 100000 in
theorem Hz (H : Type) (enc : TypeId × Value → H) (W : World) (base : Nat) (args : Array Value) (ds gs : List (DataW H)) (before : List MemPlace)
    (hval : ∀ (j : Nat) t v, Tryz.f4.params[j]? = some t → args[j]? = some v → Value.okWide Tryz.prog W .any base t v)
    (hW : DataW.Whole enc Tryz.prog Tryz.f4.params.toList Rows.gridBestSpec.vars false W args.toList ds gs before) (hL : laidMetH Tryz.prog Rows.gridBestRow.laid W)
    (hSh : W.ShapedOpen Tryz.prog) :
    Calls Tryz.prog 4 args W fun e W' => ∃ v, e = .returned v ∧ Rows.gridBestSpec.post enc Tryz.prog Tryz.f4 false true false false W args v W' := by
  have hW' := hW
  obtain ⟨p, q, hA0, hV, rfl, hfz, hnd⟩ := hW
  have hA : DataW.TrodAll enc Tryz.prog W 0 (fun _ => true) true Tryz.f4.params.toList args.toList ds p := hA0
  rw [Tryz.params4] at hA hval
  obtain ⟨v0, vs0, d0, ds0, p0, q0, hargs, rfl, rfl, h0, r0⟩ := trodAll_cons hA
  obtain ⟨rfl, rfl, rfl⟩ := trodAll_nil r0
  obtain rfl : args = #[v0] := by cases args; simp_all
  obtain ⟨rfl, rfl⟩ := trodVars_none hV
  obtain ⟨t0x, rfl, rfl, rfl, m0x⟩ := open_string Tryz.underlying22 (hval 0 22 v0 rfl rfl) h0
  clear hA0 hA r0
  simp only [List.append_nil] at hW'
  have tab := table hL
  have mx := MaxL.shaped hSh
  refine (gb_walk (w := W) (s := t0x) tab mx).mono ?_
  rintro e W' ⟨hbel, rfl⟩
  refine ⟨_, rfl, Lc hW' (fun _ _ _ => trodAll_cons_mk (shut_bool Tryz.underlying4 _) trodAll_mk0) (fun _ => ?_) (fun _ => rfl) (hbel.frame _) (ok_one (by kernel_rfl) rfl (okWide_bool_mk Tryz.underlying4 _))⟩
  exact (trodAll_cons_mk (shut_string Tryz.underlying22 m0x) trodAll_mk0)

/-- The cells that a listed datum lays. -/
def lit1 : DataW Unit → List Value
  | .lit (.int k z) => [.int k z]
  | _ => []
def lit2 : DataW Unit → List Value
  | .agg ps => ps.flatMap lit1
  | d => lit1 d
def NL : DataW Unit → Array Value
  | .agg ps => (ps.flatMap lit2).toArray
  | _ => #[]
def ZO (d : DataW Unit) : Obj → Obj
  | .cells _ t frozen => .cells (NL d) t frozen
  | o => o

def noArgs : Array Value := #[.string ⟨#[]⟩]
theorem AB (os : Os) : laidMet Tryz.prog Rows.gridBestRow.laid (({ World.holding Tryz.prog os ⟨#[], #[], []⟩ with heap := (((((World.holding Tryz.prog os ⟨#[], #[], []⟩).heap.modify 1 (ZO Rows.laid_unicode_utf8_first)).modify 2 (ZO Rows.laid_unicode_utf8_acceptRanges)).modify 3 (ZO Rows.laid_internal_strconv_uint64pow10)).modify 4 (ZO Rows.laid_math_bits_deBruijn32tab)).modify 5 (ZO Rows.laid_math_bits_deBruijn64tab) } : World).forCall (fun _ _ => 0) ⟨#[], noArgs, []⟩).memory :=
  laidMet_of_run' 8 (by kernel_rfl) (by kernel_rfl)
theorem reads (os : Os) {H : Type} (enc : TypeId × Value → H) : ∃ places, DataW.whole enc Tryz.prog (({ World.holding Tryz.prog os ⟨#[], #[], []⟩ with heap := (((((World.holding Tryz.prog os ⟨#[], #[], []⟩).heap.modify 1 (ZO Rows.laid_unicode_utf8_first)).modify 2 (ZO Rows.laid_unicode_utf8_acceptRanges)).modify 3 (ZO Rows.laid_internal_strconv_uint64pow10)).modify 4 (ZO Rows.laid_math_bits_deBruijn32tab)).modify 5 (ZO Rows.laid_math_bits_deBruijn64tab) } : World).forCall (fun _ _ => 0) ⟨#[], noArgs, []⟩).memory Tryz.f4.params.toList Rows.gridBestSpec.vars false noArgs.toList 8 = some ([.lit (.string [])], [], places) :=
  ⟨[], by kernel_rfl⟩

set_option maxRecDepth 100000 in
theorem Mq (os : Os) (started : os.Started) (H : Type) (enc : TypeId × Value → H) (F : Stop.Interp) :
    ReturnsInHanded {} Tryz.checked os 4 .any ((OpenSpec.ofChange Rows.gridBestSpec).preRow enc Tryz.prog Tryz.f4 Rows.gridBestRow.domain false Rows.gridBestRow.laid) (((OpenSpec.ofChange Rows.gridBestSpec).at F).post enc Tryz.prog Tryz.f4 false true false false) := by
  obtain ⟨places, hx⟩ := reads os enc
  refine returnsInHanded_of_row (C := Tryz.checked) (s := OpenSpec.ofChange Rows.gridBestSpec) own started (by kernel_rfl) Tryz.func4
    (witness_row_at (enc := enc) (C := Tryz.checked) false ({ World.holding Tryz.prog os ⟨#[], #[], []⟩ with heap := (((((World.holding Tryz.prog os ⟨#[], #[], []⟩).heap.modify 1 (ZO Rows.laid_unicode_utf8_first)).modify 2 (ZO Rows.laid_unicode_utf8_acceptRanges)).modify 3 (ZO Rows.laid_internal_strconv_uint64pow10)).modify 4 (ZO Rows.laid_math_bits_deBruijn32tab)).modify 5 (ZO Rows.laid_math_bits_deBruijn64tab) } : World) noArgs rfl (by kernel_rfl) (by kernel_rfl) (by kernel_rfl)
      (OpenSpec.preRow_of_cond 8 hx (by kernel_rfl) (fun k hk => by cases hk) (by kernel_rfl) (AB os))) ?_
  intro W base args ds gs before hval hW _ _ _ hL hSh _
  exact Hz H enc W base args ds gs before hval hW hL hSh

theorem Ha : Rows.GridBestSaid :=
  OpenClaim.holds_of_cond 4 Tryz.f4 rfl rfl rfl rfl rfl rfl rfl ⟨rfl, rfl, rfl, rfl, rfl⟩ rfl rfl rfl rfl rfl (by kernel_rfl) Tryz.func4 joined
    (of_decide_eq_true (by kernel_rfl)) (by unfold Func.isWrapper; first | (rw [if_pos (by decide +kernel)]; kernel_rfl) | (rw [if_neg (by decide +kernel)]; exact ⟨rfl, rfl⟩))
    (fun os started H enc _ F => by rw [OpenClaim.pre_eq_preRow]; exact Mq os started H enc F)

theorem Es (f : FuncId) (fn : Func) (hf : Tryz.pinned.checked.prog.funcNamed "compass/compasslaw.GridBest" = some f) (hfn : Tryz.pinned.checked.prog.funcs[f]? = some fn) :
    false = Tryz.pinned.checked.prog.looks [] ∧ ∀ (j : Nat) t, fn.params[j]? = some t → Tryz.pinned.checked.prog.wantsStandIn t = false := by
  obtain rfl : f = 4 := Option.some.inj ((show Tryz.prog.funcNamed "compass/compasslaw.GridBest" = some 4 by kernel_rfl).symm.trans hf) |>.symm
  obtain rfl : fn = Tryz.f4 := (Option.some.inj (Tryz.func4.symm.trans hfn)).symm
  refine ⟨by kernel_rfl, fun j t ht => ?_⟩
  rw [Tryz.params4] at ht
  have hm : t = 22 := by
    have := Array.mem_of_getElem? ht
    simp at this
    first | exact this | exact this.symm | omega | grind | (rcases this with h | h | h <;> simp [h])
  rcases hm with rfl
  exact (show Tryz.prog.wantsStandIn 22 = false by kernel_rfl)

/-- The card, in its first form. -/
theorem dbest_holds : Rows.GridBestCardSaid :=
  Claim7.holds_tied_plain_at .later [] _ _ _ _ Ha (fun _ h => by cases h) (by kernel_rfl) (fun _ h => by cases h) gridBest_row_tie rfl ⟨rfl, rfl⟩ main_is rfl Es goes_by
end Go.Proofs.YtnhplfjlhdpgoaaGreatDoor
