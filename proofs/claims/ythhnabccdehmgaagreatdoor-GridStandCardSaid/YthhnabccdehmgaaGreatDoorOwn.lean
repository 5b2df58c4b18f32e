/- The law of where one stands after going to more and to less so often (promise P15.1) holds of the landed program: for all lists of runs, compasslaw.GridStand answers true (grid.Stand answers just what the document says, errors too) and leaves its arguments as they were; its condition: the listed package variables start as the program's text lays them. -/
import Derived.Test.YthhnabccdehmgaaGreatDoorCards
import Derived.Test.YthhnabccdehmgaaGreatDoorTie
import Derived.Test.YthhnabccdehmgaaGreatDoorLMGS
import Derived.Test.YthhnabccdehmgaaGreatDoorA14
import Derived.Test.YthhnabccdehmgaaGreatDoorCJDStand
import Derived.Test.YthhnabccdehmgaaGreatDoorCGDStand
import Derived.Test.YthhnabccdehmgaaGreatDoorKFC
import Derived.Test.YthhnabccdehmgaaGreatDoorA14
import Derived.ReadAgain
import Derived.ProofKit
import Derived.OpenShut
import Derived.ShutString
import Derived.ChangeMaps5
import Derived.Lib.SmallJoins
import Derived.Deep.DeepHandedRow
import Derived.Lib.LaidTab
namespace Go.Proofs.YthhnabccdehmgaaGreatDoor
open Go.ChangeShapes Go.WideShapes Go.ChangeAt Go.RowKit Go.Lib Go.Joins Go.ChangeMaps

theorem own : ownKnob Tryz.prog.godebug = none := by kernel_rfl
theorem gTab : Tryz.prog.globalNamed "internal/strconv.uint64pow10" = some 3 := by kernel_rfl
theorem gTabType : (Tryz.prog.globals[3]?).map (·.type) = some 225 := by kernel_rfl
theorem LQ : Tryz.prog.cellsOf 225 = 20 := by kernel_rfl
theorem Ld : Tryz.prog.cellsOf 110 = 1 := by kernel_rfl

set_option maxRecDepth 100000 in
/-- What the row's list gives: the table of the powers of ten. -/
theorem table {W : World} (h : laidMetH Tryz.prog Rows.gridStandRow.laid W) : Tab W := by
  have h' : laidMet Tryz.prog Rows.gridStandRow.laid W := h
  obtain ⟨ps, ⟨_, _, _, _, _, _, _, _, _, _, ⟨_, _, _, _, _, _, _, _, _, _, ⟨g, t, cs, fuel, p, q, hg, ht, hv, hd, _, _⟩, _⟩, _⟩, _⟩ := h'
  obtain rfl := Option.some.inj (gTab.symm.trans hg)
  obtain rfl := Option.some.inj (gTabType.symm.trans ht)
  have e := Lib.cells_of_tab (k := .u64) (zs := Lib.pow10Tab) Tryz.underlying225 Tryz.underlying110 Ld LQ hd
  unfold Tab Lib.TabIs
  rw [hv, ← e]

section
variable {H : Type} {enc : TypeId × Value → H} {P : Program}
/-- What the form asks behind a call whose arguments MG no memory. -/
theorem post_nil {f : Func} {s : ChangeSpec} {apart fresh handsOn again : Bool} {W W' : World} {args : Array Value} {v : Value} {ds gs : List (DataW H)}
    (hW : DataW.Whole enc P f.params.toList s.vars apart W args.toList ds gs [])
    (hres : ∀ (b : Nat) (sp : Nat → Bool) (hd : Bool), DataW.TrodAll enc P W' b sp hd f.resultTypes.toList (v.resultList f.resultTypes.size) (s.fn H (ds ++ gs)).results [])
    (hargs : ∀ sp : Nat → Bool, DataW.TrodAll enc P W' 0 sp true f.params.toList args.toList (s.fn H (ds ++ gs)).args [])
    (hvars : ∀ sp : Nat → Bool, DataW.TrodVars enc P W' sp s.vars (s.fn H (ds ++ gs)).vars [])
    (hk : W.keptBut W' (fun _ => False))
    (hok : ∀ (j : Nat) (t : TypeId) (r : Value), f.resultTypes[j]? = some t → (v.resultList f.resultTypes.size)[j]? = some r → Value.okWide P W' .any 0 t r) :
    s.post enc P f apart fresh handsOn again W args v W' := by
  refine ⟨ds, gs, [], [], [], [], hW, hres _ _ _, hargs _, hvars _, World.keptBut_mono (fun p hp => hp.elim) hk, fun _ => ⟨hok, _, _, ([] ++ []) ++ [], ⟨[] ++ [], [], trodAll_append (hargs _) (hres _ _ _), hvars _, rfl, ?_, ?_⟩, ?_⟩⟩
  · intro b off hp
    simp at hp
  · intro _
    simp
  · intro p hp _
    simp at hp

end

theorem kids : Kids Tryz.prog (· < Tryz.prog.types.size) := kids_rows laid_out maps_rowed
theorem full : ∀ t e, t < Tryz.prog.types.size → Tryz.prog.underlying t = some (.slice e) → 0 < Tryz.prog.cellsOf e := slices_full_of Tryz.prog (by kernel_rfl)
theorem Ls : ∀ t ∈ Tryz.f3.params.toList, t < Tryz.prog.types.size := by
  rw [Tryz.params3]
  exact of_decide_eq_true (by kernel_rfl)
set_option maxRecDepth 100000 in
theorem NH (H : Type) (enc : TypeId × Value → H) (W : World) (base : Nat) (args : Array Value) (ds gs : List (DataW H)) (before : List MemPlace)
    (hval : ∀ (j : Nat) t v, Tryz.f3.params[j]? = some t → args[j]? = some v → Value.okWide Tryz.prog W .any base t v)
    (hW : DataW.Whole enc Tryz.prog Tryz.f3.params.toList Rows.gridStandSpec.vars false W args.toList ds gs before) (hL : laidMetH Tryz.prog Rows.gridStandRow.laid W)
    (hSh : W.ShapedOpen Tryz.prog) :
    Calls Tryz.prog 3 args W fun e W' => ∃ v, e = .returned v ∧ Rows.gridStandSpec.post enc Tryz.prog Tryz.f3 false true false false W args v W' := by
  have hW' := hW
  obtain ⟨p, q, hA0, hV, rfl, hfz, hnd⟩ := hW
  have hA : DataW.TrodAll enc Tryz.prog W 0 (fun _ => true) true Tryz.f3.params.toList args.toList ds p := hA0
  rw [Tryz.params3] at hA hval
  obtain ⟨v0, vs0, d0, ds0, p0, q0, hargs, rfl, rfl, h0, r0⟩ := trodAll_cons hA
  obtain ⟨rfl, rfl, rfl⟩ := trodAll_nil r0
  obtain rfl : args = #[v0] := by cases args; simp_all
  obtain ⟨rfl, rfl⟩ := trodVars_none hV
  obtain ⟨l0, I0, J0⟩ := EN Tryz.underlying22 Tryz.underlying3 (show Tryz.prog.cellsOf 3 = 1 by kernel_rfl) (hval 0 22 v0 rfl rfl) h0
  clear hA r0
  simp only [List.append_nil] at hW' hA0
  have tab := table hL
  have mx := MaxL.shaped hSh
  refine (gs_walk (w := W) I0 J0 ⟨tab, mx⟩).mono ?_
  rintro e W' ⟨hbel, rfl⟩
  exact ⟨_, rfl, LW hW' hbel (fun _ _ _ => trodAll_cons_mk (shut_bool Tryz.underlying4 _) trodAll_mk0) (fun _ hs => GY kids full hbel Ls hA0 hs) (fun _ => rfl) (ok_one (by kernel_rfl) rfl (okWide_bool_mk Tryz.underlying4 _))⟩

/-- The cells that a listed datum lays. -/
def lit1 : DataW Unit → List Value
  | .lit (.int k z) => [.int k z]
  | _ => []
def lit2 : DataW Unit → List Value
  | .agg ps => ps.flatMap lit1
  | d => lit1 d
def Eo : DataW Unit → Array Value
  | .agg ps => (ps.flatMap lit2).toArray
  | _ => #[]
def ZT (d : DataW Unit) : Obj → Obj
  | .cells _ t frozen => .cells (Eo d) t frozen
  | o => o

def noArgs : Array Value := #[.slice none 0 0]
theorem Hj (os : Os) : laidMet Tryz.prog Rows.gridStandRow.laid (({ World.holding Tryz.prog os ⟨#[], #[], []⟩ with heap := (((((World.holding Tryz.prog os ⟨#[], #[], []⟩).heap.modify 1 (ZT Rows.laid_unicode_utf8_first)).modify 2 (ZT Rows.laid_unicode_utf8_acceptRanges)).modify 3 (ZT Rows.laid_internal_strconv_uint64pow10)).modify 4 (ZT Rows.laid_math_bits_deBruijn32tab)).modify 5 (ZT Rows.laid_math_bits_deBruijn64tab) } : World).forCall (fun _ _ => 0) ⟨#[], noArgs, []⟩).memory :=
  laidMet_of_run' 8 (by kernel_rfl) (by kernel_rfl)
theorem reads (os : Os) {H : Type} (enc : TypeId × Value → H) : ∃ places, DataW.whole enc Tryz.prog (({ World.holding Tryz.prog os ⟨#[], #[], []⟩ with heap := (((((World.holding Tryz.prog os ⟨#[], #[], []⟩).heap.modify 1 (ZT Rows.laid_unicode_utf8_first)).modify 2 (ZT Rows.laid_unicode_utf8_acceptRanges)).modify 3 (ZT Rows.laid_internal_strconv_uint64pow10)).modify 4 (ZT Rows.laid_math_bits_deBruijn32tab)).modify 5 (ZT Rows.laid_math_bits_deBruijn64tab) } : World).forCall (fun _ _ => 0) ⟨#[], noArgs, []⟩).memory Tryz.f3.params.toList Rows.gridStandSpec.vars false noArgs.toList 8 = some ([.nil], [], places) :=
  ⟨[], by kernel_rfl⟩

set_option maxRecDepth 100000 in
theorem CF (os : Os) (started : os.Started) (H : Type) (enc : TypeId × Value → H) (F : Stop.Interp) :
    ReturnsInHanded {} Tryz.checked os 3 .any ((OpenSpec.ofChange Rows.gridStandSpec).preRow enc Tryz.prog Tryz.f3 Rows.gridStandRow.domain false Rows.gridStandRow.laid) (((OpenSpec.ofChange Rows.gridStandSpec).at F).post enc Tryz.prog Tryz.f3 false true false false) := by
  obtain ⟨places, hx⟩ := reads os enc
  refine returnsInHanded_of_row (C := Tryz.checked) (s := OpenSpec.ofChange Rows.gridStandSpec) own started (by kernel_rfl) Tryz.func3
    (witness_row_at (enc := enc) (C := Tryz.checked) false ({ World.holding Tryz.prog os ⟨#[], #[], []⟩ with heap := (((((World.holding Tryz.prog os ⟨#[], #[], []⟩).heap.modify 1 (ZT Rows.laid_unicode_utf8_first)).modify 2 (ZT Rows.laid_unicode_utf8_acceptRanges)).modify 3 (ZT Rows.laid_internal_strconv_uint64pow10)).modify 4 (ZT Rows.laid_math_bits_deBruijn32tab)).modify 5 (ZT Rows.laid_math_bits_deBruijn64tab) } : World) noArgs rfl (by kernel_rfl) (by kernel_rfl) (by kernel_rfl)
      (OpenSpec.preRow_of_cond 8 hx (by kernel_rfl) (fun k hk => by cases hk) (by kernel_rfl) (Hj os))) ?_
  intro W base args ds gs before hval hW _ _ _ hL hSh _
  exact NH H enc W base args ds gs before hval hW hL hSh

theorem Lh : Rows.GridStandSaid :=
  OpenClaim.holds_of_cond 3 Tryz.f3 rfl rfl rfl rfl rfl rfl rfl ⟨rfl, rfl, rfl, rfl, rfl⟩ rfl rfl rfl rfl rfl (by kernel_rfl) Tryz.func3 joined
    (of_decide_eq_true (by kernel_rfl)) (by unfold Func.isWrapper; first | (rw [if_pos (by decide +kernel)]; kernel_rfl) | (rw [if_neg (by decide +kernel)]; exact ⟨rfl, rfl⟩))
    (fun os started H enc _ F => by rw [OpenClaim.pre_eq_preRow]; exact CF os started H enc F)

theorem EI (f : FuncId) (fn : Func) (hf : Tryz.pinned.checked.prog.funcNamed "compass/compasslaw.GridStand" = some f) (hfn : Tryz.pinned.checked.prog.funcs[f]? = some fn) :
    false = Tryz.pinned.checked.prog.looks [] ∧ ∀ (j : Nat) t, fn.params[j]? = some t → Tryz.pinned.checked.prog.wantsStandIn t = false := by
  obtain rfl : f = 3 := Option.some.inj ((show Tryz.prog.funcNamed "compass/compasslaw.GridStand" = some 3 by kernel_rfl).symm.trans hf) |>.symm
  obtain rfl : fn = Tryz.f3 := (Option.some.inj (Tryz.func3.symm.trans hfn)).symm
  refine ⟨by kernel_rfl, fun j t ht => ?_⟩
  rw [Tryz.params3] at ht
  have hm : t = 22 := by
    have := Array.mem_of_getElem? ht
    simp at this
    first | exact this | exact this.symm | omega | grind | (rcases this with h | h | h <;> simp [h])
  rcases hm with rfl
  exact (show Tryz.prog.wantsStandIn 22 = false by kernel_rfl)

/-- The card, in its first form. -/
theorem dstand_holds : Rows.GridStandCardSaid :=
  Claim7.holds_tied_plain_at .later [] _ _ _ _ Lh (fun _ h => by cases h) (by kernel_rfl) (fun _ h => by cases h) gridStand_row_tie rfl ⟨rfl, rfl⟩ main_is rfl EI goes_by
end Go.Proofs.YthhnabccdehmgaaGreatDoor
