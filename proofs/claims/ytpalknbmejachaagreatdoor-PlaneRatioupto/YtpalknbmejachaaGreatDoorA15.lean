/- Part 15 of the walks of the packages num, way, ruler, line and plane, and of the mathematics under them: RegInv RBX WPA WRA RM. -/
import Derived.Deep.RegionHeld3
import Derived.Test.YtpalknbmejachaaGreatDoorA14
import Derived.Test.YtpalknbmejachaaGreatDoorA10
import Derived.Deep.DeepCutAuto
/- A region that draws its order of evaluation, by an invariant: each operation is run once, whatever the order. -/
namespace Cx
open Go

/-- The state a0 in which the operations from number i on have left what τ says. -/
def putAll (a0 : Act) (τ : Nat → Value) : Nat → List Oper → Act
  | _, [] => a0
  | i, o :: os => putAll (a0.put o.dst (τ i)) τ (i + 1) os

def updOp (τ : Nat → Value) (i : Nat) (v : Value) : Nat → Value := fun j => if j = i then v else τ j
theorem updOp_at (τ : Nat → Value) (i : Nat) (v : Value) : updOp τ i v i = v := if_pos rfl
theorem updOp_ne (τ : Nat → Value) {i j : Nat} (v : Value) (h : j ≠ i) : updOp τ i v j = τ j := if_neg h

theorem putAll_upd_lt (τ : Nat → Value) (v : Value) (k : Nat) : ∀ (os : List Oper) (a0 : Act) (i : Nat), k < i → putAll a0 (updOp τ k v) i os = putAll a0 τ i os
  | [], _, _, _ => rfl
  | o :: os, a0, i, h => by
    show putAll (a0.put o.dst (updOp τ k v i)) _ (i + 1) os = _
    rw [updOp_ne τ v (by omega : i ≠ k), putAll_upd_lt τ v k os _ (i + 1) (by omega)]
    rfl

theorem put_same (a : Act) (d : Option Tmp) (u v : Value) : (a.put d u).put d v = a.put d v := by
  cases d with
  | none => rfl
  | some d => simp [Act.put]

theorem put_swap (a : Act) {d e : Option Tmp} (u v : Value) (h : ∀ x, d = some x → e ≠ some x) : (a.put d u).put e v = (a.put e v).put d u := by
  cases d with
  | none => rfl
  | some d =>
    cases e with
    | none => rfl
    | some e =>
      have hne : d ≠ e := fun q => h d rfl (by rw [q])
      simp only [Act.put]
      rw [Array.setIfInBounds_comm _ _ hne]

theorem putAll_put (τ : Nat → Value) (d : Option Tmp) (v : Value) : ∀ (os : List Oper) (b : Act) (i : Nat), (∀ x, d = some x → x ∉ os.filterMap (·.dst)) → (putAll b τ i os).put d v = putAll (b.put d v) τ i os
  | [], _, _, _ => rfl
  | o :: os, b, i, h => by
    show (putAll (b.put o.dst (τ i)) τ (i + 1) os).put d v = putAll ((b.put d v).put o.dst (τ i)) τ (i + 1) os
    rw [putAll_put τ d v os _ (i + 1) (fun x hx hm => h x hx (by
      cases ho : o.dst with
      | none => rw [List.filterMap_cons_none ho]; exact hm
      | some y => rw [List.filterMap_cons_some ho]; exact List.mem_cons_of_mem _ hm))]
    rw [put_swap]
    intro x hx hd
    refine h x hd ?_
    rw [List.filterMap_cons_some hx]
    exact List.mem_cons_self

theorem putAll_upd (τ : Nat → Value) (v : Value) : ∀ (os : List Oper) (a0 : Act) (i k : Nat) (o : Oper), (os.filterMap (·.dst)).Nodup → os[k]? = some o →
    (putAll a0 τ i os).put o.dst v = putAll a0 (updOp τ (i + k) v) i os
  | [], _, _, _, _, _, h => by simp at h
  | p :: os, a0, i, 0, o, hn, h => by
    have e : p = o := by simpa using h
    subst e
    show (putAll (a0.put p.dst (τ i)) τ (i + 1) os).put p.dst v = putAll (a0.put p.dst (updOp τ i v i)) (updOp τ i v) (i + 1) os
    have hnot : ∀ x, p.dst = some x → x ∉ os.filterMap (·.dst) := fun x hx => by
      rw [List.filterMap_cons_some hx] at hn
      exact (List.nodup_cons.1 hn).1
    rw [putAll_put τ _ v os _ _ hnot, put_same, updOp_at, putAll_upd_lt τ v i os _ (i + 1) (by omega)]
  | p :: os, a0, i, k + 1, o, hn, h => by
    have h' : os[k]? = some o := by simpa using h
    have hn' : (os.filterMap (·.dst)).Nodup := by
      cases hp : p.dst with
      | none => rwa [List.filterMap_cons_none hp] at hn
      | some y => rw [List.filterMap_cons_some hp] at hn; exact (List.nodup_cons.1 hn).2
    show (putAll (a0.put p.dst (τ i)) τ (i + 1) os).put o.dst v = putAll (a0.put p.dst (updOp τ (i + (k + 1)) v i)) (updOp τ (i + (k + 1)) v) (i + 1) os
    rw [putAll_upd τ v os _ (i + 1) k o hn' h', updOp_ne τ v (by omega : i ≠ i + (k + 1))]
    rw [show i + 1 + k = i + (k + 1) by omega]

/-- What stands in the state ahead of the region. -/
def beforeOps (a0 : Act) (os : List Oper) : Nat → Value := fun j => match (os[j]?).bind (·.dst) with
  | some d => a0.tmps.getD d undef
  | none => undef

theorem put_self (a : Act) (d : Tmp) : a.put (some d) (a.tmps.getD d undef) = a := by
  show { a with tmps := a.tmps.setIfInBounds d (a.tmps.getD d undef) } = a
  have : a.tmps.setIfInBounds d (a.tmps.getD d undef) = a.tmps := by
    apply Array.ext
    · simp
    · intro i h1 h2
      by_cases hi : d = i
      · subst hi
        simp [Array.getD, h2]
      · rw [Array.getElem_setIfInBounds_ne h2 hi]
  rw [this]

theorem putAll_before (a0 : Act) (all : List Oper) : ∀ (os : List Oper) (i : Nat), (∀ k, os[k]? = all[i + k]?) → putAll a0 (beforeOps a0 all) i os = a0
  | [], _, _ => rfl
  | o :: os, i, h => by
    show putAll (a0.put o.dst (beforeOps a0 all i)) _ (i + 1) os = a0
    have h0 : some o = all[i]? := by simpa using h 0
    have e : a0.put o.dst (beforeOps a0 all i) = a0 := by
      unfold beforeOps
      rw [← h0]
      cases hd : o.dst with
      | none => rfl
      | some d => simpa [hd] using put_self a0 d
    rw [e]
    exact putAll_before a0 all os (i + 1) (fun k => by have := h (k + 1); simp at this; rw [this]; congr 1; omega)

section
variable (P : Program) (Q : Exit → Act → World → Prop) (all : List Oper) (a0 : Act) (Inv : (Nat → Prop) → (Nat → Value) → World → Prop)

/-- Operation number i, o, run in any state that meets the invariant in which what it waits for is done. -/
def OpStep (i : Nat) (o : Oper) : Prop :=
  ∀ (d : Nat → Prop) (τ : Nat → Value) (w : World), (∀ e ∈ o.after, Region.binds .any e = true → d e.on) → ¬ d i → Inv d τ w →
    ∀ K : Act → World → Prop, Shut (∀ v w', Inv (fun j => j = i ∨ d j) (updOp τ i v) w' → K ((putAll a0 τ 0 all).put o.dst v) w') →
      if Region.wanted o (yielded all.toArray (putAll a0 τ 0 all).tmps) = true then Oper.wp P o (putAll a0 τ 0 all) w K Q else K ((putAll a0 τ 0 all).put o.dst undef) w

def OpSteps : Nat → List Oper → Prop
  | _, [] => True
  | i, o :: os => OpStep P Q all a0 Inv i o ∧ OpSteps (i + 1) os
end

theorem OpSteps.get {P : Program} {Q : Exit → Act → World → Prop} {all : List Oper} {a0 : Act} {Inv : (Nat → Prop) → (Nat → Value) → World → Prop} : ∀ {os : List Oper} {i k : Nat} {o : Oper}, OpSteps P Q all a0 Inv i os → os[k]? = some o → OpStep P Q all a0 Inv (i + k) o
  | [], _, _, _, _, h => by simp at h
  | p :: os, i, 0, o, hs, h => by
    have e : p = o := by simpa using h
    subst e
    exact hs.1
  | p :: os, i, k + 1, o, hs, h => by
    have h' : os[k]? = some o := by simpa using h
    have := OpSteps.get hs.2 h'
    rwa [show i + 1 + k = i + (k + 1) by omega] at this

theorem OpSteps.nil {P : Program} {Q : Exit → Act → World → Prop} {all : List Oper} {a0 : Act} {Inv : (Nat → Prop) → (Nat → Value) → World → Prop} {i : Nat} : OpSteps P Q all a0 Inv i [] := trivial
theorem OpSteps.cons {P : Program} {Q : Exit → Act → World → Prop} {all : List Oper} {a0 : Act} {Inv : (Nat → Prop) → (Nat → Value) → World → Prop} {i : Nat} {o : Oper} {os : List Oper} (h : OpStep P Q all a0 Inv i o) (hs : OpSteps P Q all a0 Inv (i + 1) os) : OpSteps P Q all a0 Inv i (o :: os) := ⟨h, hs⟩

/-- What is kept: of another operation, of this one. -/
theorem fact_old {d : Nat → Prop} {τ : Nat → Value} {w w' : World} {v : Value} {i j : Nat} {F : Value → World → Prop} (hne : j ≠ i) (h : d j → F (τ j) w) (k : F (τ j) w → F (τ j) w') : (j = i ∨ d j) → F (updOp τ i v j) w' := fun hh => by
  rw [updOp_ne τ v hne]
  exact k (h (hh.resolve_left hne))
theorem fact_new {d : Nat → Prop} {τ : Nat → Value} {w' : World} {v : Value} {i : Nat} {F : Value → World → Prop} (h : F v w') : (i = i ∨ d i) → F (updOp τ i v i) w' := fun _ => by
  rw [updOp_at]
  exact h

/-- Each operation waits for earlier ones alone. -/
def topoOps : Nat → List Oper → Bool
  | _, [] => true
  | i, o :: os => o.after.all (fun e => !Region.binds .any e || decide (e.on < i)) && topoOps (i + 1) os

theorem topoOps.get : ∀ {os : List Oper} {i k : Nat} {o : Oper}, topoOps i os = true → os[k]? = some o → ∀ e ∈ o.after, Region.binds .any e = true → e.on < i + k
  | [], _, _, _, _, h => by simp at h
  | p :: os, i, 0, o, ht, h => by
    have e : p = o := by simpa using h
    subst e
    simp only [topoOps, Bool.and_eq_true, Array.all_eq_true_iff_forall_mem, Bool.or_eq_true, Bool.not_eq_true', decide_eq_true_eq] at ht
    intro e he hb
    rcases ht.1 e he with h | h
    · rw [hb] at h; cases h
    · exact h
  | p :: os, i, k + 1, o, ht, h => by
    have h' : os[k]? = some o := by simpa using h
    simp only [topoOps, Bool.and_eq_true] at ht
    have := topoOps.get ht.2 h'
    intro e he hb
    have := this e he hb
    omega

theorem all_listed {os : List Oper} (ht : topoOps 0 os = true) {l : Array Bool} (hl : l.size = os.length) (hr : Region.ready .any os.toArray l = []) : ∀ j, j < os.length → l.getD j false = true := by
  intro j
  induction j using Nat.strongRecOn with
  | ind j ih =>
    intro hj
    have hlj : j < l.size := by omega
    by_cases h : l.getD j false = true
    · exact h
    · exfalso
      obtain ⟨o, ho⟩ : ∃ o, os[j]? = some o := ⟨os[j], by simp [hj]⟩
      have hm : j ∈ Region.ready .any os.toArray l := mem_ready.2 ⟨by
        have : l.getD j false = false := by simpa using h
        simpa [Array.getD, hlj] using this, o, by simpa using ho, fun e he hb => ih e.on (by have := topoOps.get ht ho e he hb; omega) (by have := topoOps.get ht ho e he hb; omega)⟩
      rw [hr] at hm
      cases hm

theorem wpAny_inv {P : Program} {Q : Exit → Act → World → Prop} {os : List Oper} {a0 : Act} {Inv : (Nat → Prop) → (Nat → Value) → World → Prop}
    (hn : (os.filterMap (·.dst)).Nodup) (ht : topoOps 0 os = true) (hs : OpSteps P Q os a0 Inv 0 os)
    (hd : ∀ d τ w, (∀ j, j < os.length → d j) → Inv d τ w → Q .normal (putAll a0 τ 0 os) w) :
    ∀ (fuel : Nat) (l : Array Bool) (τ : Nat → Value) (w : World), l.size = os.length → (List.range os.length).countP (fun i => !l.getD i true) ≤ fuel → Inv (fun j => l.getD j false = true) τ w →
      wpAny P .any os.toArray Q fuel l (putAll a0 τ 0 os) w := by
  intro fuel
  induction fuel with
  | zero =>
    intro l τ w hl hc hI
    have hr : Region.ready .any os.toArray l = [] := by
      rw [List.eq_nil_iff_forall_not_mem]
      intro j hj
      obtain ⟨h1, o, ho, _⟩ := mem_ready.1 hj
      have hj' : j < os.length := by
        have := (Array.getElem?_eq_some_iff.1 ho).1
        simpa using this
      have hp : 0 < (List.range os.length).countP (fun i => !l.getD i true) := List.countP_pos_iff.2 ⟨j, List.mem_range.2 hj', by simp only [h1]; rfl⟩
      omega
    exact ⟨hr, hd _ τ w (all_listed ht hl hr) hI⟩
  | succ fuel ih =>
    intro l τ w hl hc hI
    refine ⟨fun hr => hd _ τ w (all_listed ht hl hr) hI, fun i hi => ?_⟩
    obtain ⟨h1, o, ho, haft⟩ := mem_ready.1 hi
    have hi' : i < os.length := by
      have := (Array.getElem?_eq_some_iff.1 ho).1
      simpa using this
    have ho' : os[i]? = some o := by simpa using ho
    have hst := OpSteps.get hs ho'
    rw [Nat.zero_add] at hst
    refine wpOp_step ho (fun K hK => hst _ τ w haft (fun hc => by
      have hlt : i < l.size := by omega
      simp [Array.getD, hlt] at h1 hc
      rw [h1] at hc
      cases hc) hI K (fun v w' hI' => hK _ _ ?_))
    rw [putAll_upd τ v os a0 0 i o hn ho', Nat.zero_add]
    have hset : (fun j => (l.setIfInBounds i true).getD j false = true) = (fun j => j = i ∨ l.getD j false = true) := by
      funext j
      apply propext
      by_cases hij : i = j
      · subst hij
        have : i < l.size := by omega
        simp [Array.getD, this]
      · rw [getD_set_ne false hij]
        constructor
        · exact Or.inr
        · rintro (h | h)
          · exact absurd h.symm hij
          · exact h
    refine ih (l.setIfInBounds i true) (updOp τ i v) w' (by simpa using hl) ?_ (by rw [hset]; exact hI')
    have hlt : (List.range os.length).countP (fun j => !(l.setIfInBounds i true).getD j true) < (List.range os.length).countP (fun j => !l.getD j true) := by
      have hsplit := List.mem_range.2 hi'
      obtain ⟨s, t, e⟩ := List.append_of_mem hsplit
      have hnd : (List.range os.length).Nodup := List.nodup_range
      rw [e] at hnd ⊢
      have hmono : ∀ (u : List Nat), i ∉ u → u.countP (fun j => !(l.setIfInBounds i true).getD j true) = u.countP (fun j => !l.getD j true) := by
        intro u hu
        apply List.countP_congr
        intro x hx
        have hne : i ≠ x := fun q => hu (q ▸ hx)
        rw [getD_set_ne true hne]
      have hsn : i ∉ s := fun h => by
        have := List.nodup_append.1 hnd
        exact this.2.2 i h i List.mem_cons_self rfl
      have htn : i ∉ t := (List.nodup_cons.1 (List.nodup_append.1 hnd).2.1).1
      rw [List.countP_append, List.countP_append, hmono s hsn, List.countP_cons, List.countP_cons, hmono t htn]
      have h2 : (l.setIfInBounds i true).getD i true = true := by
        have : i < l.size := by omega
        simp [Array.getD, this]
      rw [h2, h1]
      simp
    omega

/-- A region that draws its order, by an invariant. -/
theorem region_inv {P : Program} {Q : Exit → Act → World → Prop} {os : List Oper} {a0 : Act} {w0 : World} {id : Nat} (Inv : (Nat → Prop) → (Nat → Value) → World → Prop)
    (hm : P.follows .mixedOrders = true) (hn : (os.filterMap (·.dst)).Nodup) (ht : topoOps 0 os = true)
    (h0 : ∀ τ, Inv (fun _ => False) τ w0.drew) (hs : OpSteps P Q os a0 Inv 0 os)
    (hd : ∀ d τ w, (∀ j, j < os.length → d j) → Inv d τ w → Q .normal (putAll a0 τ 0 os) w) :
    (Code.region id os.toArray true).wp P Q a0 w0 := by
  refine wp_region_any hm ?_
  have := wpAny_inv hn ht hs hd os.length (Array.replicate os.length false) (beforeOps a0 os) w0.drew (by simp) (by
    have := List.countP_le_length (p := fun i => !(Array.replicate os.length false).getD i true) (l := List.range os.length)
    simpa using this) (by
    have e : (fun j => (Array.replicate os.length false).getD j false = true) = (fun _ : Nat => False) := by
      funext j
      apply propext
      by_cases h : j < os.length <;> simp [Array.getD, h]
    rw [e]
    exact h0 _)
  rw [putAll_before a0 os os 0 (fun k => by rw [Nat.zero_add])] at this
  rw [show os.toArray.size = os.length by simp]
  exact this
end Cx
/- Boxes of points that a region makes, in whatever order. -/
namespace Go.Proofs.YtpalknbmejachaaGreatDoor
open Go.RowKit Cx

/-- A pointer to a block that is there, made behind the world W. -/
def Pb (W : World) (v : Value) (w : World) : Prop := ∃ G, v = .pointer (some ⟨G, 0, none⟩) ∧ W.heap.size ≤ G ∧ G < w.heap.size
/-- A pointer to a box of nothing yet. -/
def Zb (W : World) (v : Value) (w : World) : Prop := ∃ G, v = .pointer (some ⟨G, 0, none⟩) ∧ W.heap.size ≤ G ∧ Blk w G #[.pointer none, .pointer none] 30
/-- A pointer to a box of the point (x, y). -/
def Vb (W : World) (x y : Rat) (v : Value) (w : World) : Prop := ∃ G p q, v = .pointer (some ⟨G, 0, none⟩) ∧ W.heap.size ≤ G ∧ Blk w G #[p, q] 30 ∧ PR w p x ∧ PR w q y
/-- The value is X. -/
def Is (X : Value) (v : Value) (_ : World) : Prop := v = X
/-- The value is the point (x, y). -/
def Vv (x y : Rat) (v : Value) (w : World) : Prop := VV w v x y

theorem Pb.below {W w w' : World} {v : Value} (h : Pb W v w) (hb : Below w.heap.size w w') : Pb W v w' := by
  obtain ⟨G, e, h1, h2⟩ := h
  exact ⟨G, e, h1, Nat.lt_of_lt_of_le h2 hb.size⟩
theorem Zb.below {W w w' : World} {v : Value} (h : Zb W v w) (hb : Below w.heap.size w w') : Zb W v w' := by
  obtain ⟨G, e, h1, h2⟩ := h
  exact ⟨G, e, h1, h2.below hb h2.lt⟩
theorem Vb.below {W w w' : World} {x y : Rat} {v : Value} (h : Vb W x y v w) (hb : Below w.heap.size w w') : Vb W x y v w' := by
  obtain ⟨G, p, q, e, h1, h2, h3, h4⟩ := h
  exact ⟨G, p, q, e, h1, h2.below hb h2.lt, h3.below hb, h4.below hb⟩
theorem Vv.below {w w' : World} {x y : Rat} {v : Value} (h : Vv x y v w) (hb : Below w.heap.size w w') : Vv x y v w' := VV.below h hb
theorem Is.below {w w' : World} {X v : Value} (h : Is X v w) (_ : Below w.heap.size w w') : Is X v w' := h

theorem PR.put {w : World} {G : Nat} {v a b : Value} {x : Rat} (h : PR w v x) (hz : Blk w G #[.pointer none, .pointer none] 30) : PR ((w.setCell ⟨G, 0, none⟩ a).setCell ⟨G, 1, none⟩ b) v x := by
  obtain ⟨g, e, h⟩ := h
  exact ⟨g, e, h.put2 hz rfl rfl a b⟩
theorem Is.put {w : World} {G : Nat} {X v a b : Value} (h : Is X v w) : Is X v ((w.setCell ⟨G, 0, none⟩ a).setCell ⟨G, 1, none⟩ b) := h
theorem Vv.put {w : World} {G : Nat} {v a b : Value} {x y : Rat} (h : Vv x y v w) (hz : Blk w G #[.pointer none, .pointer none] 30) : Vv x y v ((w.setCell ⟨G, 0, none⟩ a).setCell ⟨G, 1, none⟩ b) := by
  obtain ⟨p, q, e, h1, h2⟩ := h
  exact ⟨p, q, e, h1.put hz, h2.put hz⟩
theorem Pb.put {W w : World} {G : Nat} {v a b : Value} (h : Pb W v w) : Pb W v ((w.setCell ⟨G, 0, none⟩ a).setCell ⟨G, 1, none⟩ b) := by
  obtain ⟨G', e, h1, h2⟩ := h
  exact ⟨G', e, h1, by simpa [World.setCell] using h2⟩
theorem ptr_ne {G G' : Nat} (h : ¬ ((.pointer (some ⟨G, 0, none⟩) : Value) = .pointer (some ⟨G', 0, none⟩))) : G' ≠ G := fun e => h (by rw [e])
theorem Zb.put {W w : World} {G : Nat} {v a b : Value} (h : Zb W v w) (hne : ¬ (.pointer (some ⟨G, 0, none⟩) = v)) : Zb W v ((w.setCell ⟨G, 0, none⟩ a).setCell ⟨G, 1, none⟩ b) := by
  obtain ⟨G', rfl, h1, h2⟩ := h
  exact ⟨G', rfl, h1, h2.off2 (Ne.symm (ptr_ne hne)) a b⟩
theorem Vb.put {W w : World} {G : Nat} {x y : Rat} {v a b : Value} (h : Vb W x y v w) (hz : Blk w G #[.pointer none, .pointer none] 30) (hne : ¬ (.pointer (some ⟨G, 0, none⟩) = v)) : Vb W x y v ((w.setCell ⟨G, 0, none⟩ a).setCell ⟨G, 1, none⟩ b) := by
  obtain ⟨G', p, q, rfl, h1, h2, h3, h4⟩ := h
  exact ⟨G', p, q, rfl, h1, h2.off2 (Ne.symm (ptr_ne hne)) a b, h3.put hz, h4.put hz⟩
theorem Vb.mk {W w : World} {G : Nat} {x y : Rat} {a b : Value} (hG : W.heap.size ≤ G) (hz : Blk w G #[.pointer none, .pointer none] 30) (ha : PR w a x) (hb : PR w b y) : Vb W x y (.pointer (some ⟨G, 0, none⟩)) ((w.setCell ⟨G, 0, none⟩ a).setCell ⟨G, 1, none⟩ b) :=
  ⟨G, a, b, rfl, hG, hz.put2 a b, ha.put hz, hb.put hz⟩
theorem Zb.new {W w : World} (h : Below W.heap.size W w) : Zb W (.pointer (some ⟨w.heap.size, 0, none⟩)) (w.alloc (.cells #[.pointer none, .pointer none] 30)) := ⟨_, rfl, h.size, Blk.new _ _ _⟩
theorem Pb.new {W w : World} {o : Obj} (h : Below W.heap.size W w) : Pb W (.pointer (some ⟨w.heap.size, 0, none⟩)) (w.alloc o) := ⟨_, rfl, h.size, by simp⟩

theorem Zb.use {W w : World} {v : Value} {Goal : Prop} (h : Zb W v w) (k : ∀ G, v = .pointer (some ⟨G, 0, none⟩) → W.heap.size ≤ G → Blk w G #[.pointer none, .pointer none] 30 → Goal) : Goal := by
  obtain ⟨G, e, h1, h2⟩ := h
  exact k G e h1 h2
theorem Vb.use {W w : World} {x y : Rat} {v : Value} {Goal : Prop} (h : Vb W x y v w) (k : ∀ G p q, v = .pointer (some ⟨G, 0, none⟩) → W.heap.size ≤ G → Blk w G #[p, q] 30 → PR w p x → PR w q y → Goal) : Goal := by
  obtain ⟨G, p, q, e, h1, h2, h3, h4⟩ := h
  exact k G p q e h1 h2 h3 h4
theorem Vv.use {w : World} {x y : Rat} {v : Value} {Goal : Prop} (h : Vv x y v w) (k : ∀ p q, v = .agg #[p, q] → PR w p x → PR w q y → Goal) : Goal := by
  obtain ⟨p, q, e, h1, h2⟩ := h
  exact k p q e h1 h2

theorem fact_absurd {d : Nat → Prop} {τ : Nat → Value} {w' : World} {v : Value} {i s : Nat} {F : Value → World → Prop} (hs : s ≠ i) (h : d s → d i) (hn : ¬ d i) : (s = i ∨ d s) → F (updOp τ i v i) w' := fun q => absurd (h (q.resolve_left hs)) hn
theorem imp_old {d : Nat → Prop} {i j s : Nat} (hs : s ≠ i) (h : d s → d j) : (s = i ∨ d s) → (j = i ∨ d j) := fun q => Or.inr (h (q.resolve_left hs))
theorem fact_two {d : Nat → Prop} {τ : Nat → Value} {w w' : World} {v : Value} {i j s : Nat} {F : Value → World → Prop} (hs : s ≠ i) (hne : j ≠ i) (h : d s → F (τ j) w) (k : F (τ j) w → F (τ j) w') : (s = i ∨ d s) → F (updOp τ i v j) w' := fun hh => by
  rw [updOp_ne τ v hne]
  exact k (h (hh.resolve_left hs))
theorem fact_did {d : Nat → Prop} {τ : Nat → Value} {w' : World} {v : Value} {i j : Nat} {F : Value → World → Prop} (hne : j ≠ i) (h : F (τ j) w') : (i = i ∨ d i) → F (updOp τ i v j) w' := fun _ => by
  rw [updOp_ne τ v hne]
  exact h
theorem fact_zero {d : Nat → Prop} {τ : Nat → Value} {w w' : World} {v : Value} {i j s : Nat} {F : Value → World → Prop} (hne : j ≠ i) (h : d j → ¬ d s → F (τ j) w) (k : F (τ j) w → F (τ j) w') : (j = i ∨ d j) → ¬ (s = i ∨ d s) → F (updOp τ i v j) w' := fun hh hs => by
  rw [updOp_ne τ v hne]
  exact k (h (hh.resolve_left hne) (fun q => hs (Or.inr q)))
theorem fact_zero_new {d : Nat → Prop} {τ : Nat → Value} {w' : World} {v : Value} {i s : Nat} {F : Value → World → Prop} (h : F v w') : (i = i ∨ d i) → ¬ (s = i ∨ d s) → F (updOp τ i v i) w' := fun _ _ => by
  rw [updOp_at]
  exact h
theorem fact_zero_did {d : Nat → Prop} {τ : Nat → Value} {w' : World} {v : Value} {i j : Nat} {F : Value → World → Prop} : (j = i ∨ d j) → ¬ (i = i ∨ d i) → F (updOp τ i v j) w' := fun _ h => absurd (Or.inl rfl) h
theorem ne_old {d : Nat → Prop} {τ : Nat → Value} {v : Value} {i j s : Nat} (hj : j ≠ i) (hs : s ≠ i) (h : d j → d s → ¬ τ j = τ s) : (j = i ∨ d j) → (s = i ∨ d s) → ¬ updOp τ i v j = updOp τ i v s := fun a b => by
  rw [updOp_ne τ v hj, updOp_ne τ v hs]
  exact h (a.resolve_left hj) (b.resolve_left hs)
theorem ne_new {d : Nat → Prop} {τ : Nat → Value} {W w : World} {i s : Nat} (hs : s ≠ i) (h : d s → Pb W (τ s) w) : (i = i ∨ d i) → (s = i ∨ d s) → ¬ updOp τ i (.pointer (some ⟨w.heap.size, 0, none⟩)) i = updOp τ i (.pointer (some ⟨w.heap.size, 0, none⟩)) s := fun _ b e => by
  rw [updOp_at, updOp_ne τ _ hs] at e
  obtain ⟨G, e', _, hlt⟩ := h (b.resolve_left hs)
  rw [e'] at e
  simp at e
  all_goals omega
theorem ne_new' {d : Nat → Prop} {τ : Nat → Value} {W w : World} {i s : Nat} (hs : s ≠ i) (h : d s → Pb W (τ s) w) : (s = i ∨ d s) → (i = i ∨ d i) → ¬ updOp τ i (.pointer (some ⟨w.heap.size, 0, none⟩)) s = updOp τ i (.pointer (some ⟨w.heap.size, 0, none⟩)) i := fun b a e => ne_new hs h a b e.symm
end Go.Proofs.YtpalknbmejachaaGreatDoor
/- Two ways that are put into boxes, in whatever order. -/
namespace Go.Proofs.YtpalknbmejachaaGreatDoor
open Go.RowKit Cx

theorem Blk.newAt {w : World} {g : Nat} {cs : Array Value} {t : TypeId} (h : g = w.heap.size) : Blk (w.alloc (.cells cs t)) g cs t := by
  subst h
  exact Blk.new _ _ _
theorem Blk.old {w : World} {g : Nat} {cs : Array Value} {t : TypeId} (o : Obj) (h : Blk w g cs t) : Blk (w.alloc o) g cs t := h.below (below_new _ _) h.lt
theorem nl6 (b1 b2 : Bool) (a1 a2 a3 a4 : Option Addr) (n1 n2 n3 n4 m1 m2 m3 m4 : Nat) : (#[.bool b1, .slice a1 n1 m1, .slice a2 n2 m2, .bool b2, .slice a3 n3 m3, .slice a4 n4 m4] : Array Value).all notLimb = true := by simp [notLimb]
theorem size_put6 (w : World) (g : Nat) (x0 x1 x2 x3 x4 x5 : Value) : w.heap.size = ((((((w.setCell ⟨g, 0, none⟩ (x0)).setCell ⟨g, 1, none⟩ (x1)).setCell ⟨g, 2, none⟩ (x2)).setCell ⟨g, 3, none⟩ (x3)).setCell ⟨g, 4, none⟩ (x4)).setCell ⟨g, 5, none⟩ (x5)).heap.size := by simp [World.setCell]

/-- In the world wc the pointers p and q lead to boxes of two ways. -/
def Two (W0 : World) (p q : Value) (wc : World) (x y z t : Rat) : Prop :=
  ∃ G H, p = .pointer (some ⟨G, 0, none⟩) ∧ q = .pointer (some ⟨H, 0, none⟩) ∧ W0.heap.size ≤ G ∧ W0.heap.size ≤ H ∧ Below W0.heap.size W0 wc ∧ ∃ d e f g : C3, Blk wc G #[.bool d.n, .slice d.u d.nu d.cu, .slice d.l d.nl d.cl, .bool e.n, .slice e.u e.nu e.cu, .slice e.l e.nl e.cl] 72 ∧ Blk wc H #[.bool f.n, .slice f.u f.nu f.cu, .slice f.l f.nl f.cl, .bool g.n, .slice g.u g.nu g.cu, .slice g.l g.nl g.cl] 72 ∧ QV wc (.agg #[.bool d.n, .slice d.u d.nu d.cu, .slice d.l d.nl d.cl]) x ∧ QV wc (.agg #[.bool e.n, .slice e.u e.nu e.cu, .slice e.l e.nl e.cl]) y ∧ QV wc (.agg #[.bool f.n, .slice f.u f.nu f.cu, .slice f.l f.nl f.cl]) z ∧ QV wc (.agg #[.bool g.n, .slice g.u g.nu g.cu, .slice g.l g.nl g.cl]) t

theorem Two.new {W0 w : World} {d1 e1 d2 e2 : C3} {x y z t : Rat} (hb : Below W0.heap.size W0 w) (h1 : QV w (.agg #[.bool d1.n, .slice d1.u d1.nu d1.cu, .slice d1.l d1.nl d1.cl]) x) (h2 : QV w (.agg #[.bool e1.n, .slice e1.u e1.nu e1.cu, .slice e1.l e1.nl e1.cl]) y) (h3 : QV w (.agg #[.bool d2.n, .slice d2.u d2.nu d2.cu, .slice d2.l d2.nl d2.cl]) z) (h4 : QV w (.agg #[.bool e2.n, .slice e2.u e2.nu e2.cu, .slice e2.l e2.nl e2.cl]) t) :
    Two W0 (.pointer (some ⟨w.heap.size, 0, none⟩)) (.pointer (some ⟨w.heap.size + 1, 0, none⟩)) ((w.alloc (.cells #[.bool d1.n, .slice d1.u d1.nu d1.cu, .slice d1.l d1.nl d1.cl, .bool e1.n, .slice e1.u e1.nu e1.cu, .slice e1.l e1.nl e1.cl] 72)).alloc (.cells #[.bool d2.n, .slice d2.u d2.nu d2.cu, .slice d2.l d2.nl d2.cl, .bool e2.n, .slice e2.u e2.nu e2.cu, .slice e2.l e2.nl e2.cl] 72)) x y z t := by
  obtain ⟨b0, k0, k1, hs⟩ := boxes2 w #[.bool d1.n, .slice d1.u d1.nu d1.cu, .slice d1.l d1.nl d1.cl, .bool e1.n, .slice e1.u e1.nu e1.cu, .slice e1.l e1.nl e1.cl] #[.bool d2.n, .slice d2.u d2.nu d2.cu, .slice d2.l d2.nl d2.cl, .bool e2.n, .slice e2.u e2.nu e2.cu, .slice e2.l e2.nl e2.cl] 72 72
  exact ⟨_, _, rfl, rfl, hb.size, Nat.le_succ_of_le hb.size, hb.trans (b0.mono hb.size), d1, e1, d2, e2, k0, k1, h1.below b0, h2.below b0, h3.below b0, h4.below b0⟩

theorem Two.new' {W0 w : World} {d1 e1 d2 e2 : C3} {x y z t : Rat} (hb : Below W0.heap.size W0 w) (h1 : QV w (.agg #[.bool d1.n, .slice d1.u d1.nu d1.cu, .slice d1.l d1.nl d1.cl]) x) (h2 : QV w (.agg #[.bool e1.n, .slice e1.u e1.nu e1.cu, .slice e1.l e1.nl e1.cl]) y) (h3 : QV w (.agg #[.bool d2.n, .slice d2.u d2.nu d2.cu, .slice d2.l d2.nl d2.cl]) z) (h4 : QV w (.agg #[.bool e2.n, .slice e2.u e2.nu e2.cu, .slice e2.l e2.nl e2.cl]) t) :
    Two W0 (.pointer (some ⟨w.heap.size + 1, 0, none⟩)) (.pointer (some ⟨w.heap.size, 0, none⟩)) ((w.alloc (.cells #[.bool d2.n, .slice d2.u d2.nu d2.cu, .slice d2.l d2.nl d2.cl, .bool e2.n, .slice e2.u e2.nu e2.cu, .slice e2.l e2.nl e2.cl] 72)).alloc (.cells #[.bool d1.n, .slice d1.u d1.nu d1.cu, .slice d1.l d1.nl d1.cl, .bool e1.n, .slice e1.u e1.nu e1.cu, .slice e1.l e1.nl e1.cl] 72)) x y z t := by
  obtain ⟨b0, k0, k1, hs⟩ := boxes2 w #[.bool d2.n, .slice d2.u d2.nu d2.cu, .slice d2.l d2.nl d2.cl, .bool e2.n, .slice e2.u e2.nu e2.cu, .slice e2.l e2.nl e2.cl] #[.bool d1.n, .slice d1.u d1.nu d1.cu, .slice d1.l d1.nl d1.cl, .bool e1.n, .slice e1.u e1.nu e1.cu, .slice e1.l e1.nl e1.cl] 72 72
  exact ⟨_, _, rfl, rfl, Nat.le_succ_of_le hb.size, hb.size, hb.trans (b0.mono hb.size), d1, e1, d2, e2, k1, k0, h1.below b0, h2.below b0, h3.below b0, h4.below b0⟩

theorem Two.half {W0 w : World} {G : Nat} {d1 e1 d2 e2 : C3} {x y z t : Rat} (hG : Blk w G #[.bool false, .slice none 0 0, .slice none 0 0, .bool false, .slice none 0 0, .slice none 0 0] 72) (hge : W0.heap.size ≤ G) (hb : Below W0.heap.size W0 w) (h1 : QV w (.agg #[.bool d1.n, .slice d1.u d1.nu d1.cu, .slice d1.l d1.nl d1.cl]) x) (h2 : QV w (.agg #[.bool e1.n, .slice e1.u e1.nu e1.cu, .slice e1.l e1.nl e1.cl]) y) (h3 : QV w (.agg #[.bool d2.n, .slice d2.u d2.nu d2.cu, .slice d2.l d2.nl d2.cl]) z) (h4 : QV w (.agg #[.bool e2.n, .slice e2.u e2.nu e2.cu, .slice e2.l e2.nl e2.cl]) t) :
    Two W0 (.pointer (some ⟨G, 0, none⟩)) (.pointer (some ⟨w.heap.size, 0, none⟩)) (((((((w.setCell ⟨G, 0, none⟩ (.bool d1.n)).setCell ⟨G, 1, none⟩ (.slice d1.u d1.nu d1.cu)).setCell ⟨G, 2, none⟩ (.slice d1.l d1.nl d1.cl)).setCell ⟨G, 3, none⟩ (.bool e1.n)).setCell ⟨G, 4, none⟩ (.slice e1.u e1.nu e1.cu)).setCell ⟨G, 5, none⟩ (.slice e1.l e1.nl e1.cl)).alloc (.cells #[.bool d2.n, .slice d2.u d2.nu d2.cu, .slice d2.l d2.nl d2.cl, .bool e2.n, .slice e2.u e2.nu e2.cu, .slice e2.l e2.nl e2.cl] 72)) x y z t := by
  have hst := Stays.put6 hG (nl6 _ _ _ _ _ _ _ _ _ _ _ _ _ _) (.bool d1.n) (.slice d1.u d1.nu d1.cu) (.slice d1.l d1.nl d1.cl) (.bool e1.n) (.slice e1.u e1.nu e1.cu) (.slice e1.l e1.nl e1.cl) rfl rfl rfl rfl rfl rfl
  have hs := hst.trans (Stays.of (below_new _ (.cells #[.bool d2.n, .slice d2.u d2.nu d2.cu, .slice d2.l d2.nl d2.cl, .bool e2.n, .slice e2.u e2.nu e2.cu, .slice e2.l e2.nl e2.cl] 72)))
  have hb1 := Below.put6 hb hge (.bool d1.n) (.slice d1.u d1.nu d1.cu) (.slice d1.l d1.nl d1.cl) (.bool e1.n) (.slice e1.u e1.nu e1.cu) (.slice e1.l e1.nl e1.cl)
  exact ⟨_, _, rfl, rfl, hge, hb.size, hb1.alloc hb1.size _, d1, e1, d2, e2, (hG.put6 (.bool d1.n) (.slice d1.u d1.nu d1.cu) (.slice d1.l d1.nl d1.cl) (.bool e1.n) (.slice e1.u e1.nu e1.cu) (.slice e1.l e1.nl e1.cl)).old _, Blk.newAt (size_put6 _ _ (.bool d1.n) (.slice d1.u d1.nu d1.cu) (.slice d1.l d1.nl d1.cl) (.bool e1.n) (.slice e1.u e1.nu e1.cu) (.slice e1.l e1.nl e1.cl)), hs.qv h1, hs.qv h2, hs.qv h3, hs.qv h4⟩

theorem Two.half' {W0 w : World} {G : Nat} {d1 e1 d2 e2 : C3} {x y z t : Rat} (hG : Blk w G #[.bool false, .slice none 0 0, .slice none 0 0, .bool false, .slice none 0 0, .slice none 0 0] 72) (hge : W0.heap.size ≤ G) (hb : Below W0.heap.size W0 w) (h1 : QV w (.agg #[.bool d1.n, .slice d1.u d1.nu d1.cu, .slice d1.l d1.nl d1.cl]) x) (h2 : QV w (.agg #[.bool e1.n, .slice e1.u e1.nu e1.cu, .slice e1.l e1.nl e1.cl]) y) (h3 : QV w (.agg #[.bool d2.n, .slice d2.u d2.nu d2.cu, .slice d2.l d2.nl d2.cl]) z) (h4 : QV w (.agg #[.bool e2.n, .slice e2.u e2.nu e2.cu, .slice e2.l e2.nl e2.cl]) t) :
    Two W0 (.pointer (some ⟨w.heap.size, 0, none⟩)) (.pointer (some ⟨G, 0, none⟩)) (((((((w.setCell ⟨G, 0, none⟩ (.bool d2.n)).setCell ⟨G, 1, none⟩ (.slice d2.u d2.nu d2.cu)).setCell ⟨G, 2, none⟩ (.slice d2.l d2.nl d2.cl)).setCell ⟨G, 3, none⟩ (.bool e2.n)).setCell ⟨G, 4, none⟩ (.slice e2.u e2.nu e2.cu)).setCell ⟨G, 5, none⟩ (.slice e2.l e2.nl e2.cl)).alloc (.cells #[.bool d1.n, .slice d1.u d1.nu d1.cu, .slice d1.l d1.nl d1.cl, .bool e1.n, .slice e1.u e1.nu e1.cu, .slice e1.l e1.nl e1.cl] 72)) x y z t := by
  have hst := Stays.put6 hG (nl6 _ _ _ _ _ _ _ _ _ _ _ _ _ _) (.bool d2.n) (.slice d2.u d2.nu d2.cu) (.slice d2.l d2.nl d2.cl) (.bool e2.n) (.slice e2.u e2.nu e2.cu) (.slice e2.l e2.nl e2.cl) rfl rfl rfl rfl rfl rfl
  have hs := hst.trans (Stays.of (below_new _ (.cells #[.bool d1.n, .slice d1.u d1.nu d1.cu, .slice d1.l d1.nl d1.cl, .bool e1.n, .slice e1.u e1.nu e1.cu, .slice e1.l e1.nl e1.cl] 72)))
  have hb1 := Below.put6 hb hge (.bool d2.n) (.slice d2.u d2.nu d2.cu) (.slice d2.l d2.nl d2.cl) (.bool e2.n) (.slice e2.u e2.nu e2.cu) (.slice e2.l e2.nl e2.cl)
  exact ⟨_, _, rfl, rfl, hb.size, hge, hb1.alloc hb1.size _, d1, e1, d2, e2, Blk.newAt (size_put6 _ _ (.bool d2.n) (.slice d2.u d2.nu d2.cu) (.slice d2.l d2.nl d2.cl) (.bool e2.n) (.slice e2.u e2.nu e2.cu) (.slice e2.l e2.nl e2.cl)), (hG.put6 (.bool d2.n) (.slice d2.u d2.nu d2.cu) (.slice d2.l d2.nl d2.cl) (.bool e2.n) (.slice e2.u e2.nu e2.cu) (.slice e2.l e2.nl e2.cl)).old _, hs.qv h1, hs.qv h2, hs.qv h3, hs.qv h4⟩

theorem Two.both {W0 w : World} {G H : Nat} {d1 e1 d2 e2 : C3} {x y z t : Rat} (hG : Blk w G #[.bool false, .slice none 0 0, .slice none 0 0, .bool false, .slice none 0 0, .slice none 0 0] 72) (hH : Blk w H #[.bool false, .slice none 0 0, .slice none 0 0, .bool false, .slice none 0 0, .slice none 0 0] 72) (hne : G ≠ H) (hge : W0.heap.size ≤ G) (hhe : W0.heap.size ≤ H) (hb : Below W0.heap.size W0 w) (h1 : QV w (.agg #[.bool d1.n, .slice d1.u d1.nu d1.cu, .slice d1.l d1.nl d1.cl]) x) (h2 : QV w (.agg #[.bool e1.n, .slice e1.u e1.nu e1.cu, .slice e1.l e1.nl e1.cl]) y) (h3 : QV w (.agg #[.bool d2.n, .slice d2.u d2.nu d2.cu, .slice d2.l d2.nl d2.cl]) z) (h4 : QV w (.agg #[.bool e2.n, .slice e2.u e2.nu e2.cu, .slice e2.l e2.nl e2.cl]) t) :
    Two W0 (.pointer (some ⟨G, 0, none⟩)) (.pointer (some ⟨H, 0, none⟩)) ((((((((((((w.setCell ⟨G, 0, none⟩ (.bool d1.n)).setCell ⟨G, 1, none⟩ (.slice d1.u d1.nu d1.cu)).setCell ⟨G, 2, none⟩ (.slice d1.l d1.nl d1.cl)).setCell ⟨G, 3, none⟩ (.bool e1.n)).setCell ⟨G, 4, none⟩ (.slice e1.u e1.nu e1.cu)).setCell ⟨G, 5, none⟩ (.slice e1.l e1.nl e1.cl)).setCell ⟨H, 0, none⟩ (.bool d2.n)).setCell ⟨H, 1, none⟩ (.slice d2.u d2.nu d2.cu)).setCell ⟨H, 2, none⟩ (.slice d2.l d2.nl d2.cl)).setCell ⟨H, 3, none⟩ (.bool e2.n)).setCell ⟨H, 4, none⟩ (.slice e2.u e2.nu e2.cu)).setCell ⟨H, 5, none⟩ (.slice e2.l e2.nl e2.cl)) x y z t := by
  have hst := Stays.put6 hG (nl6 _ _ _ _ _ _ _ _ _ _ _ _ _ _) (.bool d1.n) (.slice d1.u d1.nu d1.cu) (.slice d1.l d1.nl d1.cl) (.bool e1.n) (.slice e1.u e1.nu e1.cu) (.slice e1.l e1.nl e1.cl) rfl rfl rfl rfl rfl rfl
  have hH1 := hH.off6 (g := G) hne (.bool d1.n) (.slice d1.u d1.nu d1.cu) (.slice d1.l d1.nl d1.cl) (.bool e1.n) (.slice e1.u e1.nu e1.cu) (.slice e1.l e1.nl e1.cl)
  have hst2 := Stays.put6 hH1 (nl6 _ _ _ _ _ _ _ _ _ _ _ _ _ _) (.bool d2.n) (.slice d2.u d2.nu d2.cu) (.slice d2.l d2.nl d2.cl) (.bool e2.n) (.slice e2.u e2.nu e2.cu) (.slice e2.l e2.nl e2.cl) rfl rfl rfl rfl rfl rfl
  have hs := hst.trans hst2
  have hb1 := Below.put6 hb hge (.bool d1.n) (.slice d1.u d1.nu d1.cu) (.slice d1.l d1.nl d1.cl) (.bool e1.n) (.slice e1.u e1.nu e1.cu) (.slice e1.l e1.nl e1.cl)
  exact ⟨_, _, rfl, rfl, hge, hhe, Below.put6 hb1 hhe (.bool d2.n) (.slice d2.u d2.nu d2.cu) (.slice d2.l d2.nl d2.cl) (.bool e2.n) (.slice e2.u e2.nu e2.cu) (.slice e2.l e2.nl e2.cl), d1, e1, d2, e2, (hG.put6 (.bool d1.n) (.slice d1.u d1.nu d1.cu) (.slice d1.l d1.nl d1.cl) (.bool e1.n) (.slice e1.u e1.nu e1.cu) (.slice e1.l e1.nl e1.cl)).off6 hne.symm (.bool d2.n) (.slice d2.u d2.nu d2.cu) (.slice d2.l d2.nl d2.cl) (.bool e2.n) (.slice e2.u e2.nu e2.cu) (.slice e2.l e2.nl e2.cl), hH1.put6 (.bool d2.n) (.slice d2.u d2.nu d2.cu) (.slice d2.l d2.nl d2.cl) (.bool e2.n) (.slice e2.u e2.nu e2.cu) (.slice e2.l e2.nl e2.cl), hs.qv h1, hs.qv h2, hs.qv h3, hs.qv h4⟩

/-- In the world wc the pointer p leads to a box of a way. -/
def One (W0 : World) (p : Value) (wc : World) (x y : Rat) : Prop :=
  ∃ G, p = .pointer (some ⟨G, 0, none⟩) ∧ W0.heap.size ≤ G ∧ Below W0.heap.size W0 wc ∧ ∃ d e : C3, Blk wc G #[.bool d.n, .slice d.u d.nu d.cu, .slice d.l d.nl d.cl, .bool e.n, .slice e.u e.nu e.cu, .slice e.l e.nl e.cl] 72 ∧ QV wc (.agg #[.bool d.n, .slice d.u d.nu d.cu, .slice d.l d.nl d.cl]) x ∧ QV wc (.agg #[.bool e.n, .slice e.u e.nu e.cu, .slice e.l e.nl e.cl]) y

theorem One.new {W0 w : World} {d1 e1 : C3} {x y : Rat} (hb : Below W0.heap.size W0 w) (h1 : QV w (.agg #[.bool d1.n, .slice d1.u d1.nu d1.cu, .slice d1.l d1.nl d1.cl]) x) (h2 : QV w (.agg #[.bool e1.n, .slice e1.u e1.nu e1.cu, .slice e1.l e1.nl e1.cl]) y) :
    One W0 (.pointer (some ⟨w.heap.size, 0, none⟩)) (w.alloc (.cells #[.bool d1.n, .slice d1.u d1.nu d1.cu, .slice d1.l d1.nl d1.cl, .bool e1.n, .slice e1.u e1.nu e1.cu, .slice e1.l e1.nl e1.cl] 72)) x y :=
  ⟨_, rfl, hb.size, hb.alloc hb.size _, d1, e1, Blk.new _ _ _, h1.below (below_new _ _), h2.below (below_new _ _)⟩

theorem One.old {W0 w : World} {G : Nat} {d1 e1 : C3} {x y : Rat} (hG : Blk w G #[.bool false, .slice none 0 0, .slice none 0 0, .bool false, .slice none 0 0, .slice none 0 0] 72) (hge : W0.heap.size ≤ G) (hb : Below W0.heap.size W0 w) (h1 : QV w (.agg #[.bool d1.n, .slice d1.u d1.nu d1.cu, .slice d1.l d1.nl d1.cl]) x) (h2 : QV w (.agg #[.bool e1.n, .slice e1.u e1.nu e1.cu, .slice e1.l e1.nl e1.cl]) y) :
    One W0 (.pointer (some ⟨G, 0, none⟩)) ((((((w.setCell ⟨G, 0, none⟩ (.bool d1.n)).setCell ⟨G, 1, none⟩ (.slice d1.u d1.nu d1.cu)).setCell ⟨G, 2, none⟩ (.slice d1.l d1.nl d1.cl)).setCell ⟨G, 3, none⟩ (.bool e1.n)).setCell ⟨G, 4, none⟩ (.slice e1.u e1.nu e1.cu)).setCell ⟨G, 5, none⟩ (.slice e1.l e1.nl e1.cl)) x y := by
  have hst := Stays.put6 hG (nl6 _ _ _ _ _ _ _ _ _ _ _ _ _ _) (.bool d1.n) (.slice d1.u d1.nu d1.cu) (.slice d1.l d1.nl d1.cl) (.bool e1.n) (.slice e1.u e1.nu e1.cu) (.slice e1.l e1.nl e1.cl) rfl rfl rfl rfl rfl rfl
  exact ⟨_, rfl, hge, Below.put6 hb hge (.bool d1.n) (.slice d1.u d1.nu d1.cu) (.slice d1.l d1.nl d1.cl) (.bool e1.n) (.slice e1.u e1.nu e1.cu) (.slice e1.l e1.nl e1.cl), d1, e1, hG.put6 (.bool d1.n) (.slice d1.u d1.nu d1.cu) (.slice d1.l d1.nl d1.cl) (.bool e1.n) (.slice e1.u e1.nu e1.cu) (.slice e1.l e1.nl e1.cl), hst.qv h1, hst.qv h2⟩
end Go.Proofs.YtpalknbmejachaaGreatDoor
/- Walks: Ratio of points. -/
namespace Go.Proofs.YtpalknbmejachaaGreatDoor
open Go.RowKit Cx

attribute [local go_sem ↓] Go.wp_at_zero Go.wp_at_succ

/-- What is answered: for the whole way (x, y) and the part (u, v). -/
def RatioAns (x y u v : Rat) (l : List UInt8) (z : Int) : Prop :=
  ((x = 0 ∧ y = 0) ∧ z = 5 ∧ l = []) ∨ (¬ (x = 0 ∧ y = 0) ∧ ¬ x * v - y * u = 0 ∧ z = 6 ∧ l = []) ∨ (¬ (x = 0 ∧ y = 0) ∧ x * v - y * u = 0 ∧ z = 0 ∧ l = tx ((u * x + v * y) / (x * x + y * y)))

theorem qv_drew {w : World} {v : Value} {q : Rat} (h : QV w v q) : QV w.drew v q := h.below (Below.drew (Below.refl _ _))
theorem qv_bel {w w' : World} {v : Value} {q : Rat} (hb : Below w.heap.size w w') (h : QV w v q) : QV w' v q := h.below hb

set_option maxHeartbeats 8000000 in
set_option maxRecDepth 100000 in
theorem ratio_walk {w : World} {ax az bx bz px pz : ByteArray} (s1 : ax.size ≤ 1048576) (s2 : az.size ≤ 1048576) (s3 : bx.size ≤ 1048576) (s4 : bz.size ≤ 1048576) (s5 : px.size ≤ 1048576) (s6 : pz.size ≤ 1048576) (tab : Tab w) :
    Calls Tryz.prog 9 #[.agg #[.string ax, .string az], .agg #[.string bx, .string bz], .agg #[.string px, .string pz]] w fun e w' => Below w.heap.size w w' ∧ ∃ (s : ByteArray) (z : Int), e = .returned (.tuple #[.string s, .int .i64 z]) ∧ RatioAns (rd bx.data.toList - rd ax.data.toList) (rd bz.data.toList - rd az.data.toList) (rd px.data.toList - rd ax.data.toList) (rd pz.data.toList - rd az.data.toList) s.data.toList z := by
  obtain ⟨hb0, hk0, hk1, hk2, hsz⟩ := boxes3 w #[.string ax, .string az] #[.string bx, .string bz] #[.string px, .string pz] 24 24 24
  have HB0 := hideIt hb0
  have HSZ := hideIt hsz
  have HK0 := hideIt hk0
  have HK1 := hideIt hk1
  have HK2 := hideIt hk2
  have HTAB := hideIt (tab.below hb0)
  have S1 := hideIt s1
  have G1 : Hid (QS 4194309 (rd ax.data.toList)) := (QS.rd _).mono (by rw [str_len]; omega)
  have S2 := hideIt s2
  have G2 : Hid (QS 4194309 (rd az.data.toList)) := (QS.rd _).mono (by rw [str_len]; omega)
  have S3 := hideIt s3
  have G3 : Hid (QS 4194309 (rd bx.data.toList)) := (QS.rd _).mono (by rw [str_len]; omega)
  have S4 := hideIt s4
  have G4 : Hid (QS 4194309 (rd bz.data.toList)) := (QS.rd _).mono (by rw [str_len]; omega)
  have S5 := hideIt s5
  have G5 : Hid (QS 4194309 (rd px.data.toList)) := (QS.rd _).mono (by rw [str_len]; omega)
  have S6 := hideIt s6
  have G6 : Hid (QS 4194309 (rd pz.data.toList)) := (QS.rd _).mono (by rw [str_len]; omega)
  clear hb0 hsz hk0 hk1 hk2 tab s1 s2 s3 s4 s5 s6
  go_enter Tryz.func9, Tryz.ntmps9
  go_wp2_with fail
  generalize (((w.alloc (.cells #[.string ax, .string az] 24)).alloc (.cells #[.string bx, .string bz] 24)).alloc (.cells #[.string px, .string pz] 24)) = W0 at *
  have HS : Hid (∀ w', Below W0.heap.size W0 w' → w'.cell? ⟨w.heap.size, 0, none⟩ = some (.string ax) ∧ w'.cell? ⟨w.heap.size, 1, none⟩ = some (.string az) ∧ w'.cell? ⟨w.heap.size + 1, 0, none⟩ = some (.string bx) ∧ w'.cell? ⟨w.heap.size + 1, 1, none⟩ = some (.string bz) ∧ w'.cell? ⟨w.heap.size + 1 + 1, 0, none⟩ = some (.string px) ∧ w'.cell? ⟨w.heap.size + 1 + 1, 1, none⟩ = some (.string pz)) := fun w' hb => ⟨(HK0.out.below hb (by rw [HSZ.out]; omega)).cell 0, (HK0.out.below hb (by rw [HSZ.out]; omega)).cell 1, (HK1.out.below hb (by rw [HSZ.out]; omega)).cell 0, (HK1.out.below hb (by rw [HSZ.out]; omega)).cell 1, (HK2.out.below hb (by rw [HSZ.out]; omega)).cell 0, (HK2.out.below hb (by rw [HSZ.out]; omega)).cell 1⟩
  obtain ⟨z0, z1, z2, z3, z4, z5⟩ := HS.out W0 (Below.refl _ _)
  go_cut [8, 9] (fun p q wc => Two W0 p q wc (rd bx.data.toList - rd ax.data.toList) (rd bz.data.toList - rd az.data.toList) (rd px.data.toList - rd ax.data.toList) (rd pz.data.toList - rd az.data.toList))
  case first =>
    go_region_held3 (fun w' => w'.cell? ⟨w.heap.size, 0, none⟩ = some (.string ax) ∧ w'.cell? ⟨w.heap.size, 1, none⟩ = some (.string az) ∧ w'.cell? ⟨w.heap.size + 1, 0, none⟩ = some (.string bx) ∧ w'.cell? ⟨w.heap.size + 1, 1, none⟩ = some (.string bz) ∧ w'.cell? ⟨w.heap.size + 1 + 1, 0, none⟩ = some (.string px) ∧ w'.cell? ⟨w.heap.size + 1 + 1, 1, none⟩ = some (.string pz)) ((refine HS.out _ ?_; repeat' (first | with_reducible exact hbl2 | with_reducible exact hbl1 | with_reducible exact Below.refl _ _ | with_reducible refine Below.drew ?_ | with_reducible refine Below.alloc ?_ ?_ _ | with_reducible refine Below.put6 ?_ ?_ _ _ _ _ _ _ | (simp; done) | (simp; omega) | omega)))
      (first
        | (go_at_call_of 41 (Value.agg #[Value.string bx, Value.string bz]); refine (between_walk S1.out S2.out S3.out S4.out).mono ?_; rintro e w1 ⟨hb1, v1, rfl, hv1⟩; obtain ⟨d1, e1, rfl, hx1, hy1⟩ := hv1; (first | (have hbl1 : Below W0.heap.size W0 w1 := (Below.drew (Below.refl _ W0)).trans hb1) | (have hbl1 : Below W0.heap.size W0 w1 := (Below.drew (below_new W0 (.cells #[.bool false, .slice none 0 0, .slice none 0 0, .bool false, .slice none 0 0, .slice none 0 0] 72))).trans (hb1.mono (Nat.le_of_lt (Blk.new W0 #[.bool false, .slice none 0 0, .slice none 0 0, .bool false, .slice none 0 0, .slice none 0 0] 72).lt)); have hA1 := (show Blk (W0.alloc (.cells #[.bool false, .slice none 0 0, .slice none 0 0, .bool false, .slice none 0 0, .slice none 0 0] 72)).drew W0.heap.size #[.bool false, .slice none 0 0, .slice none 0 0, .bool false, .slice none 0 0, .slice none 0 0] 72 from Blk.new W0 #[.bool false, .slice none 0 0, .slice none 0 0, .bool false, .slice none 0 0, .slice none 0 0] 72).below hb1 (Blk.new W0 #[.bool false, .slice none 0 0, .slice none 0 0, .bool false, .slice none 0 0, .slice none 0 0] 72).lt) | (have hbl1 : Below W0.heap.size W0 w1 := (Below.drew (boxes2 W0 #[.bool false, .slice none 0 0, .slice none 0 0, .bool false, .slice none 0 0, .slice none 0 0] #[.bool false, .slice none 0 0, .slice none 0 0, .bool false, .slice none 0 0, .slice none 0 0] 72 72).1).trans (hb1.mono (boxes2 W0 #[.bool false, .slice none 0 0, .slice none 0 0, .bool false, .slice none 0 0, .slice none 0 0] #[.bool false, .slice none 0 0, .slice none 0 0, .bool false, .slice none 0 0, .slice none 0 0] 72 72).1.size); have hA1 := (show Blk ((W0.alloc (.cells #[.bool false, .slice none 0 0, .slice none 0 0, .bool false, .slice none 0 0, .slice none 0 0] 72)).alloc (.cells #[.bool false, .slice none 0 0, .slice none 0 0, .bool false, .slice none 0 0, .slice none 0 0] 72)).drew W0.heap.size #[.bool false, .slice none 0 0, .slice none 0 0, .bool false, .slice none 0 0, .slice none 0 0] 72 from (boxes2 W0 #[.bool false, .slice none 0 0, .slice none 0 0, .bool false, .slice none 0 0, .slice none 0 0] #[.bool false, .slice none 0 0, .slice none 0 0, .bool false, .slice none 0 0, .slice none 0 0] 72 72).2.1).below hb1 (boxes2 W0 #[.bool false, .slice none 0 0, .slice none 0 0, .bool false, .slice none 0 0, .slice none 0 0] #[.bool false, .slice none 0 0, .slice none 0 0, .bool false, .slice none 0 0, .slice none 0 0] 72 72).2.1.lt; have hB1 := (show Blk ((W0.alloc (.cells #[.bool false, .slice none 0 0, .slice none 0 0, .bool false, .slice none 0 0, .slice none 0 0] 72)).alloc (.cells #[.bool false, .slice none 0 0, .slice none 0 0, .bool false, .slice none 0 0, .slice none 0 0] 72)).drew (W0.heap.size + 1) #[.bool false, .slice none 0 0, .slice none 0 0, .bool false, .slice none 0 0, .slice none 0 0] 72 from (boxes2 W0 #[.bool false, .slice none 0 0, .slice none 0 0, .bool false, .slice none 0 0, .slice none 0 0] #[.bool false, .slice none 0 0, .slice none 0 0, .bool false, .slice none 0 0, .slice none 0 0] 72 72).2.2.1).below hb1 (boxes2 W0 #[.bool false, .slice none 0 0, .slice none 0 0, .bool false, .slice none 0 0, .slice none 0 0] #[.bool false, .slice none 0 0, .slice none 0 0, .bool false, .slice none 0 0, .slice none 0 0] 72 72).2.2.1.lt)); have hz1 := hbl1.size)
        | (go_at_call_of 41 (Value.agg #[Value.string px, Value.string pz]); refine (between_walk S1.out S2.out S5.out S6.out).mono ?_; rintro e w2 ⟨hb2, v2, rfl, hv2⟩; obtain ⟨d2, e2, rfl, hx2, hy2⟩ := hv2; (first | (have hc2 : Below w1.heap.size w1 w2 := hb2) | (have hc2 : Below w1.heap.size w1 w2 := (below_new w1 (.cells #[.bool false, .slice none 0 0, .slice none 0 0, .bool false, .slice none 0 0, .slice none 0 0] 72)).trans (hb2.mono (Nat.le_of_lt (Blk.new w1 #[.bool false, .slice none 0 0, .slice none 0 0, .bool false, .slice none 0 0, .slice none 0 0] 72).lt)); have hC2 := (Blk.new w1 #[.bool false, .slice none 0 0, .slice none 0 0, .bool false, .slice none 0 0, .slice none 0 0] 72).below hb2 (Blk.new w1 #[.bool false, .slice none 0 0, .slice none 0 0, .bool false, .slice none 0 0, .slice none 0 0] 72).lt) | (have hc2 : Below w1.heap.size w1 w2 := (boxes2 w1 #[.bool false, .slice none 0 0, .slice none 0 0, .bool false, .slice none 0 0, .slice none 0 0] #[.bool false, .slice none 0 0, .slice none 0 0, .bool false, .slice none 0 0, .slice none 0 0] 72 72).1.trans (hb2.mono (boxes2 w1 #[.bool false, .slice none 0 0, .slice none 0 0, .bool false, .slice none 0 0, .slice none 0 0] #[.bool false, .slice none 0 0, .slice none 0 0, .bool false, .slice none 0 0, .slice none 0 0] 72 72).1.size); have hC2 := (boxes2 w1 #[.bool false, .slice none 0 0, .slice none 0 0, .bool false, .slice none 0 0, .slice none 0 0] #[.bool false, .slice none 0 0, .slice none 0 0, .bool false, .slice none 0 0, .slice none 0 0] 72 72).2.1.below hb2 (boxes2 w1 #[.bool false, .slice none 0 0, .slice none 0 0, .bool false, .slice none 0 0, .slice none 0 0] #[.bool false, .slice none 0 0, .slice none 0 0, .bool false, .slice none 0 0, .slice none 0 0] 72 72).2.1.lt; have hD2 := (boxes2 w1 #[.bool false, .slice none 0 0, .slice none 0 0, .bool false, .slice none 0 0, .slice none 0 0] #[.bool false, .slice none 0 0, .slice none 0 0, .bool false, .slice none 0 0, .slice none 0 0] 72 72).2.2.1.below hb2 (boxes2 w1 #[.bool false, .slice none 0 0, .slice none 0 0, .bool false, .slice none 0 0, .slice none 0 0] #[.bool false, .slice none 0 0, .slice none 0 0, .bool false, .slice none 0 0, .slice none 0 0] 72 72).2.2.1.lt)); have hbl2 := hbl1.trans (hc2.mono hz1); have hz2 := hc2.size; (try have hA2 := hA1.below hc2 hA1.lt); (try have hB2 := hB1.below hc2 hB1.lt); (try have lA1 := hA1.lt); (try have lB1 := hB1.lt); (try have lA2 := hA2.lt); (try have lB2 := hB2.lt); (try have lC2 := hC2.lt); (try have lD2 := hD2.lt); (try obtain ⟨ra0, ra1, ra2, ra3, ra4, ra5, ra6, ra7, ra8, ra9, ra10, ra11⟩ := hA2.all6); (try obtain ⟨rb0, rb1, rb2, rb3, rb4, rb5, rb6, rb7, rb8, rb9, rb10, rb11⟩ := hB2.all6); (try obtain ⟨rc0, rc1, rc2, rc3, rc4, rc5, rc6, rc7, rc8, rc9, rc10, rc11⟩ := hC2.all6); (try obtain ⟨re0, re1, re2, re3, re4, re5, re6, re7, re8, re9, re10, re11⟩ := hD2.all6))
        )
    all_goals
      go_wp2_with fail
      go_meet
      first
        | with_reducible exact Two.new hbl2 (hx1.below hc2) (hy1.below hc2) hx2 hy2
        | with_reducible exact Two.new' hbl2 (hx1.below hc2) (hy1.below hc2) hx2 hy2
        | with_reducible exact Two.half hA2 (Nat.le_refl _) hbl2 (hx1.below hc2) (hy1.below hc2) hx2 hy2
        | with_reducible exact Two.half' hA2 (Nat.le_refl _) hbl2 (hx1.below hc2) (hy1.below hc2) hx2 hy2
        | with_reducible exact Two.half hC2 hz1 hbl2 (hx1.below hc2) (hy1.below hc2) hx2 hy2
        | with_reducible exact Two.half' hC2 hz1 hbl2 (hx1.below hc2) (hy1.below hc2) hx2 hy2
        | with_reducible exact Two.both hA2 hB2 (Nat.ne_of_lt (Nat.lt_succ_self _)) (Nat.le_refl _) (Nat.le_succ _) hbl2 (hx1.below hc2) (hy1.below hc2) hx2 hy2
        | with_reducible exact Two.both hB2 hA2 (Nat.ne_of_gt (Nat.lt_succ_self _)) (Nat.le_succ _) (Nat.le_refl _) hbl2 (hx1.below hc2) (hy1.below hc2) hx2 hy2
        | with_reducible exact Two.both hA2 hC2 (Nat.ne_of_lt lA1) (Nat.le_refl _) hz1 hbl2 (hx1.below hc2) (hy1.below hc2) hx2 hy2
        | with_reducible exact Two.both hC2 hA2 (Nat.ne_of_gt lA1) hz1 (Nat.le_refl _) hbl2 (hx1.below hc2) (hy1.below hc2) hx2 hy2
        | with_reducible exact Two.both hC2 hD2 (Nat.ne_of_lt (Nat.lt_succ_self _)) hz1 (Nat.le_succ_of_le hz1) hbl2 (hx1.below hc2) (hy1.below hc2) hx2 hy2
        | with_reducible exact Two.both hD2 hC2 (Nat.ne_of_gt (Nat.lt_succ_self _)) (Nat.le_succ_of_le hz1) hz1 hbl2 (hx1.below hc2) (hy1.below hc2) hx2 hy2
  case rest =>
    obtain ⟨G, H, rfl, rfl, hG, hH, hbl, d, e, f, g, hkG, hkH, hx, hy, hz, ht⟩ := hcut
    have HKG := hideIt hkG
    have HKH := hideIt hkH
    have HX := hideIt hx
    have HY := hideIt hy
    have HZ := hideIt hz
    have HT := hideIt ht
    have HBL := hideIt (HB0.out.trans (hbl.mono HB0.out.size))
    have HTC := hideIt (HTAB.out.below hbl)
    have F1 := hideIt (G3.out.sub G1.out)
    have F2 := hideIt (G4.out.sub G2.out)
    have F3 := hideIt (G5.out.sub G1.out)
    have F4 := hideIt (G6.out.sub G2.out)
    have FA := hideIt ((F3.out.mul F1.out).add (F4.out.mul F2.out))
    have FB := hideIt ((F1.out.mul F1.out).add (F2.out.mul F2.out))
    have FQ := hideIt (FA.out.div FB.out)
    generalize hx0 : (rd bx.data.toList - rd ax.data.toList) = x at *
    generalize hy0 : (rd bz.data.toList - rd az.data.toList) = y at *
    generalize hu0 : (rd px.data.toList - rd ax.data.toList) = u at *
    generalize hv0 : (rd pz.data.toList - rd az.data.toList) = v at *
    have HE := hideIt (And.intro hx0 (And.intro hy0 (And.intro hu0 hv0)))
    clear hx0 hy0 hu0 hv0
    obtain ⟨y0, y1, y2, y3, y4, y5, _⟩ := hkG.all6
    obtain ⟨x0, x1, x2, x3, x4, x5, _⟩ := hkH.all6
    clear hkG hkH hx hy hz ht hbl hG hH z0 z1 z2 z3 z4 z5
    have HGC : Hid (∀ w', Below wc.heap.size wc w' → Blk w' G #[.bool d.n, .slice d.u d.nu d.cu, .slice d.l d.nl d.cl, .bool e.n, .slice e.u e.nu e.cu, .slice e.l e.nl e.cl] 72 ∧ Blk w' H #[.bool f.n, .slice f.u f.nu f.cu, .slice f.l f.nl f.cl, .bool g.n, .slice g.u g.nu g.cu, .slice g.l g.nl g.cl] 72) := fun w' hb => ⟨HKG.out.below hb HKG.out.lt, HKH.out.below hb HKH.out.lt⟩
    go_wp2_with fail
    refine (nowhere_walk HX.out HY.out).mono ?_
    rintro _ w1 ⟨hb1, rfl⟩
    have HB1 := hideIt hb1
    obtain ⟨y0, y1, y2, y3, y4, y5, _⟩ := (HGC.out w1 hb1).1.all6
    obtain ⟨x0, x1, x2, x3, x4, x5, _⟩ := (HGC.out w1 hb1).2.all6
    clear hb1
    by_cases h1 : x = 0 ∧ y = 0
    · rw [decide_eq_true h1]
      have H1 := hideIt h1
      clear h1
      go_wp2
      go_ret2
      refine ⟨HBL.out.trans (HB1.out.mono HBL.out.size), ⟨#[]⟩, 5, rfl, ?_⟩
      rw [HE.out.1, HE.out.2.1, HE.out.2.2.1, HE.out.2.2.2]
      exact Or.inl ⟨H1.out, rfl, rfl⟩
    · rw [decide_eq_false h1]
      have H1 := hideIt h1
      clear h1
      go_wp2_with fail
      refine (wayCross_walk (HX.out.below HB1.out) (HY.out.below HB1.out) (HZ.out.below HB1.out) (HT.out.below HB1.out) F1.out F2.out F3.out F4.out (by decide)).mono ?_
      rintro _ w2 ⟨hb2, v2, rfl, hv2⟩
      have HB2 := hideIt (HB1.out.trans (hb2.mono HB1.out.size))
      have HV2 := hideIt hv2
      clear hb2 hv2
      go_wp2_with fail
      refine (sign_calls HV2.out).mono ?_
      rintro _ w3 ⟨hb3, rfl⟩
      have HB3 := hideIt (HB2.out.trans (hb3.mono HB2.out.size))
      obtain ⟨y0, y1, y2, y3, y4, y5, _⟩ := (HGC.out w3 HB3.out).1.all6
      obtain ⟨x0, x1, x2, x3, x4, x5, _⟩ := (HGC.out w3 HB3.out).2.all6
      clear hb3
      by_cases h2 : x * v - y * u = 0
      · rw [if_pos (sg_zero.2 h2)]
        have H2 := hideIt h2
        clear h2
        go_wp2_with fail
        have HS3 : Hid (∀ w', Below w3.heap.size w3 w' → w'.cell? ⟨G, 0, none⟩ = some (.bool d.n) ∧ w'.cell? ⟨G, 1, none⟩ = some (.slice d.u d.nu d.cu) ∧ w'.cell? ⟨G, 2, none⟩ = some (.slice d.l d.nl d.cl) ∧ w'.cell? ⟨G, 3, none⟩ = some (.bool e.n) ∧ w'.cell? ⟨G, 4, none⟩ = some (.slice e.u e.nu e.cu) ∧ w'.cell? ⟨G, 5, none⟩ = some (.slice e.l e.nl e.cl) ∧ w'.cell? ⟨H, 0, none⟩ = some (.bool f.n) ∧ w'.cell? ⟨H, 1, none⟩ = some (.slice f.u f.nu f.cu) ∧ w'.cell? ⟨H, 2, none⟩ = some (.slice f.l f.nl f.cl) ∧ w'.cell? ⟨H, 3, none⟩ = some (.bool g.n) ∧ w'.cell? ⟨H, 4, none⟩ = some (.slice g.u g.nu g.cu) ∧ w'.cell? ⟨H, 5, none⟩ = some (.slice g.l g.nl g.cl)) := fun w' hb => by
          have h := HGC.out w' (HB3.out.trans (hb.mono HB3.out.size))
          exact ⟨h.1.cell 0, h.1.cell 1, h.1.cell 2, h.1.cell 3, h.1.cell 4, h.1.cell 5, h.2.cell 0, h.2.cell 1, h.2.cell 2, h.2.cell 3, h.2.cell 4, h.2.cell 5⟩
        have HX3 := hideIt (HX.out.below HB3.out)
        have HY3 := hideIt (HY.out.below HB3.out)
        have HZ3 := hideIt (HZ.out.below HB3.out)
        have HT3 := hideIt (HT.out.below HB3.out)
        have HTC3 := hideIt (HTC.out.below HB3.out)
        go_region_held3 (fun w' => w'.cell? ⟨G, 0, none⟩ = some (.bool d.n) ∧ w'.cell? ⟨G, 1, none⟩ = some (.slice d.u d.nu d.cu) ∧ w'.cell? ⟨G, 2, none⟩ = some (.slice d.l d.nl d.cl) ∧ w'.cell? ⟨G, 3, none⟩ = some (.bool e.n) ∧ w'.cell? ⟨G, 4, none⟩ = some (.slice e.u e.nu e.cu) ∧ w'.cell? ⟨G, 5, none⟩ = some (.slice e.l e.nl e.cl) ∧ w'.cell? ⟨H, 0, none⟩ = some (.bool f.n) ∧ w'.cell? ⟨H, 1, none⟩ = some (.slice f.u f.nu f.cu) ∧ w'.cell? ⟨H, 2, none⟩ = some (.slice f.l f.nl f.cl) ∧ w'.cell? ⟨H, 3, none⟩ = some (.bool g.n) ∧ w'.cell? ⟨H, 4, none⟩ = some (.slice g.u g.nu g.cu) ∧ w'.cell? ⟨H, 5, none⟩ = some (.slice g.l g.nl g.cl)) (first | (refine HS3.out _ ?_; (repeat' first | with_reducible exact hbl7 | with_reducible exact hbl6 | with_reducible exact hbl5 | with_reducible exact hbl4 | with_reducible exact Below.refl _ _ | with_reducible refine Below.drew ?_); done) | go_keep)
          (first
            | (have hq := hbl6; go_at_call 47; refine (text_calls (by repeat' first | with_reducible exact hv6 | with_reducible refine qv_drew ?_) FQ.out (by decide) (HTC3.out.below (by repeat' first | with_reducible exact hbl6 | with_reducible exact hbl5 | with_reducible exact hbl4 | with_reducible exact Below.refl _ _ | with_reducible refine Below.drew ?_))).mono ?_; rintro _ w7 ⟨hb7, t7, rfl, ht7⟩; have hbl7 : Below w3.heap.size w3 w7 := (fun (h : Below w3.heap.size w3 _) => h.trans (hb7.mono h.size)) (by repeat' first | with_reducible exact hbl6 | with_reducible exact hbl5 | with_reducible exact hbl4 | with_reducible exact Below.refl _ _ | with_reducible refine Below.drew ?_))
            | (have hq := hbl5; go_at_call 46; refine (overQ_calls (by repeat' first | with_reducible exact hv4 | with_reducible refine qv_drew ?_ | with_reducible refine qv_bel hb5 ?_) (by repeat' first | with_reducible exact hv5 | with_reducible refine qv_drew ?_) FA.out FB.out (by decide)).mono ?_; rintro _ w6 ⟨hb6, v6, rfl, hv6⟩; have hbl6 : Below w3.heap.size w3 w6 := (fun (h : Below w3.heap.size w3 _) => h.trans (hb6.mono h.size)) (by repeat' first | with_reducible exact hbl5 | with_reducible exact hbl4 | with_reducible exact Below.refl _ _ | with_reducible refine Below.drew ?_))
            | (have hq := hbl4; go_at_call 45; refine (wayDot_walk (HX3.out.below (by repeat' first | with_reducible exact hbl4 | with_reducible exact Below.refl _ _ | with_reducible refine Below.drew ?_)) (HY3.out.below (by repeat' first | with_reducible exact hbl4 | with_reducible exact Below.refl _ _ | with_reducible refine Below.drew ?_)) (HX3.out.below (by repeat' first | with_reducible exact hbl4 | with_reducible exact Below.refl _ _ | with_reducible refine Below.drew ?_)) (HY3.out.below (by repeat' first | with_reducible exact hbl4 | with_reducible exact Below.refl _ _ | with_reducible refine Below.drew ?_)) F1.out F2.out F1.out F2.out (by decide)).mono ?_; rintro _ w5 ⟨hb5, v5, rfl, hv5⟩; have hbl5 : Below w3.heap.size w3 w5 := (fun (h : Below w3.heap.size w3 _) => h.trans (hb5.mono h.size)) (by repeat' first | with_reducible exact hbl4 | with_reducible exact Below.refl _ _ | with_reducible refine Below.drew ?_))
            | (go_at_call 45; refine (wayDot_walk (HZ3.out.below (by repeat' first | with_reducible exact Below.refl _ _ | with_reducible refine Below.drew ?_)) (HT3.out.below (by repeat' first | with_reducible exact Below.refl _ _ | with_reducible refine Below.drew ?_)) (HX3.out.below (by repeat' first | with_reducible exact Below.refl _ _ | with_reducible refine Below.drew ?_)) (HY3.out.below (by repeat' first | with_reducible exact Below.refl _ _ | with_reducible refine Below.drew ?_)) F3.out F4.out F1.out F2.out (by decide)).mono ?_; rintro _ w4 ⟨hb4, v4, rfl, hv4⟩; have hbl4 : Below w3.heap.size w3 w4 := (fun (h : Below w3.heap.size w3 _) => h.trans (hb4.mono h.size)) (by repeat' first | with_reducible exact Below.refl _ _ | with_reducible refine Below.drew ?_))
            )
        all_goals
          go_wp2
          go_ret2
          refine ⟨HBL.out.trans ((HB3.out.trans (hbl7.mono HB3.out.size)).mono HBL.out.size), t7, 0, rfl, ?_⟩
          rw [HE.out.1, HE.out.2.1, HE.out.2.2.1, HE.out.2.2.2]
          exact Or.inr (Or.inr ⟨H1.out, H2.out, rfl, ht7⟩)
      · rw [if_neg (fun h => h2 (sg_zero.1 h))]
        have hne : ((if (x * v - y * u).num < 0 then (-1 : Int) else 1) == 0) = false := by split <;> rfl
        have hne2 : ¬ (if (x * v - y * u).num < 0 then (-1 : Int) else 1) = 0 := by split <;> decide
        generalize (if (x * v - y * u).num < 0 then (-1 : Int) else 1) = z at *
        have H2 := hideIt h2
        clear h2
        go_wp2
        go_ret2
        refine ⟨HBL.out.trans (HB3.out.mono HBL.out.size), ⟨#[]⟩, 6, rfl, ?_⟩
        rw [HE.out.1, HE.out.2.1, HE.out.2.2.1, HE.out.2.2.2]
        exact Or.inr (Or.inl ⟨H1.out, H2.out, rfl, rfl⟩)
end Go.Proofs.YtpalknbmejachaaGreatDoor
/- Walks of package compasslaw: PlaneRatio. -/
namespace Go.Proofs.YtpalknbmejachaaGreatDoor
open Go.RowKit Cx

attribute [local go_sem ↓] Go.wp_at_zero Go.wp_at_succ

theorem bel_put2 {a w : World} {G : Nat} (h : Below a.heap.size a w) (hG : a.heap.size ≤ G) (x0 x1 : Value) : Below a.heap.size a ((w.setCell ⟨G, 0, none⟩ x0).setCell ⟨G, 1, none⟩ x1) := Below.put2 h hG x0 x1
theorem pr_new {w : World} {v : Value} {q : Rat} (o : Obj) (h : PR w v q) : PR (w.alloc o) v q := h.below (below_new _ _)
theorem pr_drew {w : World} {v : Value} {q : Rat} (h : PR w v q) : PR w.drew v q := h.below (Below.drew (Below.refl _ _))
theorem pr_bel {w w' : World} {v : Value} {q : Rat} (hb : Below w.heap.size w w') (h : PR w v q) : PR w' v q := h.below hb
theorem srow1 {w : World} {b : Nat} {s : ByteArray} (hb : Blk w b #[.string s] 22) : SRow w (.slice (some ⟨b, 0, none⟩) 1 1) [s] := by
  refine ⟨b, 0, 1, rfl, hb.lt, fun j hj => ?_⟩
  match j, hj with
  | 0, _ => exact hb.cell 0

theorem right_one (q : Rat) : ∀ s ∈ [(⟨(tx q).toArray⟩ : ByteArray)], right s := by
  intro s hs
  rw [List.mem_singleton.1 hs]
  show tx (rd (tx q)) = tx q
  rw [rd_tx]
theorem right_len {q : Rat} {k : Nat} (f : QS k q) (hk : 2 * k + 4 ≤ 4294967280) : ∀ s ∈ [(⟨(tx q).toArray⟩ : ByteArray)], s.size ≤ 4294967280 := by
  intro s hs
  rw [List.mem_singleton.1 hs]
  have := tx_len f
  show (tx q).toArray.size ≤ _
  rw [List.size_toArray]
  omega

theorem rat_sq_zero {a b : Rat} (h : a * a + b * b = 0) : a = 0 ∧ b = 0 := by
  have ha : 0 ≤ a * a := by
    rcases Rat.le_total (a := 0) (b := a) with h | h
    · exact Rat.mul_nonneg h h
    · have := Rat.mul_nonneg (Rat.neg_le_neg h) (Rat.neg_le_neg h)
      grind
  have hb : 0 ≤ b * b := by
    rcases Rat.le_total (a := 0) (b := b) with h | h
    · exact Rat.mul_nonneg h h
    · have := Rat.mul_nonneg (Rat.neg_le_neg h) (Rat.neg_le_neg h)
      grind
  have ea : a * a = 0 := by grind
  have eb : b * b = 0 := by grind
  exact ⟨(Rat.mul_eq_zero.1 ea).elim id id, (Rat.mul_eq_zero.1 eb).elim id id⟩

theorem ratio_fact {x y u v : Rat} (hn : ¬ (x = 0 ∧ y = 0)) (ht : x * v - y * u = 0) : x * ((u * x + v * y) / (x * x + y * y)) = u ∧ y * ((u * x + v * y) / (x * x + y * y)) = v := by
  have hN : x * x + y * y ≠ 0 := fun e => hn (rat_sq_zero e)
  constructor <;> grind

set_option maxHeartbeats 16000000 in
set_option maxRecDepth 100000 in
/-- The law of ratios. -/
theorem planeRatio_walk {w : World} {ax az bx bz px pz : ByteArray} (sax : ax.size ≤ 1048576) (saz : az.size ≤ 1048576) (sbx : bx.size ≤ 1048576) (sbz : bz.size ≤ 1048576) (spx : px.size ≤ 1048576) (spz : pz.size ≤ 1048576) (tab : Tab w) (mx : MaxL w) :
    Calls Tryz.prog 3 #[.agg #[.string ax, .string az], .agg #[.string bx, .string bz], .agg #[.string px, .string pz]] w fun e w' => Below w.heap.size w w' ∧ e = .returned (.bool true) := by
  obtain ⟨hb0, hk0, hk1, hk2, hsz⟩ := boxes3 w #[.string ax, .string az] #[.string bx, .string bz] #[.string px, .string pz] 24 24 24
  have HB0 := hideIt2 hb0
  have HSZ := hideIt2 hsz
  have HK0 := hideIt2 hk0
  have HK1 := hideIt2 hk1
  have HK2 := hideIt2 hk2
  have HT := hideIt2 (tab.below hb0)
  have HM := hideIt2 (mx.below hb0)
  have Gax : Hid (QS 4194309 (rd ax.data.toList)) := (QS.rd _).mono (by rw [str_len]; omega)
  have Gaz : Hid (QS 4194309 (rd az.data.toList)) := (QS.rd _).mono (by rw [str_len]; omega)
  have Gbx : Hid (QS 4194309 (rd bx.data.toList)) := (QS.rd _).mono (by rw [str_len]; omega)
  have Gbz : Hid (QS 4194309 (rd bz.data.toList)) := (QS.rd _).mono (by rw [str_len]; omega)
  have Gpx : Hid (QS 4194309 (rd px.data.toList)) := (QS.rd _).mono (by rw [str_len]; omega)
  have Gpz : Hid (QS 4194309 (rd pz.data.toList)) := (QS.rd _).mono (by rw [str_len]; omega)
  clear hb0 hsz tab mx hk0 hk1 hk2
  have FKK : Hid (QS 67108954 ((((rd px.data.toList) - (rd ax.data.toList)) * ((rd bx.data.toList) - (rd ax.data.toList)) + ((rd pz.data.toList) - (rd az.data.toList)) * ((rd bz.data.toList) - (rd az.data.toList))) / (((rd bx.data.toList) - (rd ax.data.toList)) * ((rd bx.data.toList) - (rd ax.data.toList)) + ((rd bz.data.toList) - (rd az.data.toList)) * ((rd bz.data.toList) - (rd az.data.toList))))) := ((((Gpx.out.sub Gax.out).mul (Gbx.out.sub Gax.out)).add ((Gpz.out.sub Gaz.out).mul (Gbz.out.sub Gaz.out))).div (((Gbx.out.sub Gax.out).mul (Gbx.out.sub Gax.out)).add ((Gbz.out.sub Gaz.out).mul (Gbz.out.sub Gaz.out))))
  go_enter Tryz.func3, Tryz.ntmps3
  go_wp2_with fail
  generalize (((w.alloc (.cells #[.string ax, .string az] 24)).alloc (.cells #[.string bx, .string bz] 24)).alloc (.cells #[.string px, .string pz] 24)) = W0 at *
  have HS : Hid (∀ w', Below W0.heap.size W0 w' → w'.cell? ⟨w.heap.size, 0, none⟩ = some (.string ax) ∧ w'.cell? ⟨w.heap.size, 1, none⟩ = some (.string az) ∧ w'.cell? ⟨w.heap.size + 1, 0, none⟩ = some (.string bx) ∧ w'.cell? ⟨w.heap.size + 1, 1, none⟩ = some (.string bz) ∧ w'.cell? ⟨w.heap.size + 1 + 1, 0, none⟩ = some (.string px) ∧ w'.cell? ⟨w.heap.size + 1 + 1, 1, none⟩ = some (.string pz)) := fun w' hb => ⟨(HK0.out.below hb (by rw [HSZ.out]; omega)).cell 0, (HK0.out.below hb (by rw [HSZ.out]; omega)).cell 1, (HK1.out.below hb (by rw [HSZ.out]; omega)).cell 0, (HK1.out.below hb (by rw [HSZ.out]; omega)).cell 1, (HK2.out.below hb (by rw [HSZ.out]; omega)).cell 0, (HK2.out.below hb (by rw [HSZ.out]; omega)).cell 1⟩
  refine (ratio_walk (w := W0) sax saz sbx sbz spx spz HT.out).mono ?_
  rintro e w1 ⟨hb1, k, er, rfl, hans⟩
  have HANS := hideIt2 hans
  have HBL1 := hideIt2 hb1
  have HS1 : Hid (∀ w', Below w1.heap.size w1 w' → w'.cell? ⟨w.heap.size, 0, none⟩ = some (.string ax) ∧ w'.cell? ⟨w.heap.size, 1, none⟩ = some (.string az) ∧ w'.cell? ⟨w.heap.size + 1, 0, none⟩ = some (.string bx) ∧ w'.cell? ⟨w.heap.size + 1, 1, none⟩ = some (.string bz) ∧ w'.cell? ⟨w.heap.size + 1 + 1, 0, none⟩ = some (.string px) ∧ w'.cell? ⟨w.heap.size + 1 + 1, 1, none⟩ = some (.string pz)) := fun w' hb => HS.out w' (bel_bel HBL1.out hb)
  have HM1 := hideIt2 (HM.out.below hb1)
  have HT1 := hideIt2 (HT.out.below hb1)
  obtain ⟨z0, z1, z2, z3, z4, z5⟩ := HS1.out w1 (Below.refl _ _)
  clear hans hb1
  go_wp2_with fail
  clear z0 z1 z2 z3 z4 z5
  obtain ⟨Inv, hInvI, hInvM⟩ : ∃ Inv : (Nat → Prop) → (Nat → Value) → World → Prop, (∀ (d : Nat → Prop) (τ : Nat → Value) (w' : World), Inv d τ w' → Below w1.heap.size w1 w' ∧ (d 0 → Is (.agg #[.string ax, .string az]) (τ 0) w') ∧ (d 1 → Vv (rd ax.data.toList) (rd az.data.toList) (τ 1) w') ∧ (d 2 → Is (.agg #[.string bx, .string bz]) (τ 2) w') ∧ (d 3 → Vv (rd bx.data.toList) (rd bz.data.toList) (τ 3) w') ∧ (d 4 → Is (.agg #[.string px, .string pz]) (τ 4) w') ∧ (d 5 → Vv (rd px.data.toList) (rd pz.data.toList) (τ 5) w') ∧ (d 6 → Pb w1 (τ 6) w') ∧ (d 6 → ¬ d 9 → Zb w1 (τ 6) w') ∧ (d 9 → Vb w1 (rd ax.data.toList) (rd az.data.toList) (τ 6) w') ∧ (d 9 → d 6) ∧ (d 7 → Pb w1 (τ 7) w') ∧ (d 7 → ¬ d 10 → Zb w1 (τ 7) w') ∧ (d 10 → Vb w1 (rd bx.data.toList) (rd bz.data.toList) (τ 7) w') ∧ (d 10 → d 7) ∧ (d 8 → Pb w1 (τ 8) w') ∧ (d 8 → ¬ d 11 → Zb w1 (τ 8) w') ∧ (d 11 → Vb w1 (rd px.data.toList) (rd pz.data.toList) (τ 8) w') ∧ (d 11 → d 8) ∧ (d 6 → d 7 → ¬ τ 6 = τ 7) ∧ (d 6 → d 8 → ¬ τ 6 = τ 8) ∧ (d 7 → d 8 → ¬ τ 7 = τ 8)) ∧ (∀ (d : Nat → Prop) (τ : Nat → Value) (w' : World), Below w1.heap.size w1 w' ∧ (d 0 → Is (.agg #[.string ax, .string az]) (τ 0) w') ∧ (d 1 → Vv (rd ax.data.toList) (rd az.data.toList) (τ 1) w') ∧ (d 2 → Is (.agg #[.string bx, .string bz]) (τ 2) w') ∧ (d 3 → Vv (rd bx.data.toList) (rd bz.data.toList) (τ 3) w') ∧ (d 4 → Is (.agg #[.string px, .string pz]) (τ 4) w') ∧ (d 5 → Vv (rd px.data.toList) (rd pz.data.toList) (τ 5) w') ∧ (d 6 → Pb w1 (τ 6) w') ∧ (d 6 → ¬ d 9 → Zb w1 (τ 6) w') ∧ (d 9 → Vb w1 (rd ax.data.toList) (rd az.data.toList) (τ 6) w') ∧ (d 9 → d 6) ∧ (d 7 → Pb w1 (τ 7) w') ∧ (d 7 → ¬ d 10 → Zb w1 (τ 7) w') ∧ (d 10 → Vb w1 (rd bx.data.toList) (rd bz.data.toList) (τ 7) w') ∧ (d 10 → d 7) ∧ (d 8 → Pb w1 (τ 8) w') ∧ (d 8 → ¬ d 11 → Zb w1 (τ 8) w') ∧ (d 11 → Vb w1 (rd px.data.toList) (rd pz.data.toList) (τ 8) w') ∧ (d 11 → d 8) ∧ (d 6 → d 7 → ¬ τ 6 = τ 7) ∧ (d 6 → d 8 → ¬ τ 6 = τ 8) ∧ (d 7 → d 8 → ¬ τ 7 = τ 8) → Inv d τ w') := ⟨fun d τ w' => Below w1.heap.size w1 w' ∧ (d 0 → Is (.agg #[.string ax, .string az]) (τ 0) w') ∧ (d 1 → Vv (rd ax.data.toList) (rd az.data.toList) (τ 1) w') ∧ (d 2 → Is (.agg #[.string bx, .string bz]) (τ 2) w') ∧ (d 3 → Vv (rd bx.data.toList) (rd bz.data.toList) (τ 3) w') ∧ (d 4 → Is (.agg #[.string px, .string pz]) (τ 4) w') ∧ (d 5 → Vv (rd px.data.toList) (rd pz.data.toList) (τ 5) w') ∧ (d 6 → Pb w1 (τ 6) w') ∧ (d 6 → ¬ d 9 → Zb w1 (τ 6) w') ∧ (d 9 → Vb w1 (rd ax.data.toList) (rd az.data.toList) (τ 6) w') ∧ (d 9 → d 6) ∧ (d 7 → Pb w1 (τ 7) w') ∧ (d 7 → ¬ d 10 → Zb w1 (τ 7) w') ∧ (d 10 → Vb w1 (rd bx.data.toList) (rd bz.data.toList) (τ 7) w') ∧ (d 10 → d 7) ∧ (d 8 → Pb w1 (τ 8) w') ∧ (d 8 → ¬ d 11 → Zb w1 (τ 8) w') ∧ (d 11 → Vb w1 (rd px.data.toList) (rd pz.data.toList) (τ 8) w') ∧ (d 11 → d 8) ∧ (d 6 → d 7 → ¬ τ 6 = τ 7) ∧ (d 6 → d 8 → ¬ τ 6 = τ 8) ∧ (d 7 → d 8 → ¬ τ 7 = τ 8), fun _ _ _ h => h, fun _ _ _ h => h⟩
  have HIN := hideIt2 hInvI
  have HMK := hideIt2 hInvM
  clear hInvI hInvM
  refine region_inv Inv (by kernel_rfl) (by decide) (by kernel_rfl) ?_ ?_ ?_
  · intro τ
    exact HMK.out _ _ _ ⟨Below.drew (Below.refl _ _), False.elim, False.elim, False.elim, False.elim, False.elim, False.elim, False.elim, fun h => h.elim, False.elim, False.elim, False.elim, fun h => h.elim, False.elim, False.elim, False.elim, fun h => h.elim, False.elim, False.elim, fun h => h.elim, fun h => h.elim, fun h => h.elim⟩
  · refine OpSteps.cons (i := 0) ?_ (OpSteps.cons (i := 1) ?_ (OpSteps.cons (i := 2) ?_ (OpSteps.cons (i := 3) ?_ (OpSteps.cons (i := 4) ?_ (OpSteps.cons (i := 5) ?_ (OpSteps.cons (i := 6) ?_ (OpSteps.cons (i := 7) ?_ (OpSteps.cons (i := 8) ?_ (OpSteps.cons (i := 9) ?_ (OpSteps.cons (i := 10) ?_ (OpSteps.cons (i := 11) ?_ (OpSteps.nil))))))))))))
    · intro d τ w' hd hn hI
      have HI := hideIt2 (HIN.out _ _ _ hI)
      have HD := hideIt2 hd
      have HN := hideIt2 hn
      clear hI hd hn
      have hz := HS1.out w' HI.out.1
      have z0 := hz.1
      have z1 := hz.2.1
      have z2 := hz.2.2.1
      have z3 := hz.2.2.2.1
      have z4 := hz.2.2.2.2.1
      have z5 := hz.2.2.2.2.2
      clear hz
      intro K hK
      simp only [putAll, Act.put, List.setIfInBounds_toArray, List.set_cons_zero, List.set_cons_succ] at hK ⊢
      go_simp
      obtain ⟨hb, l0, c0, l1, c1, l2, c2, p0, o0, v0, a0, p1, o1, v1, a1, p2, o2, v2, a2, n01, n02, n12⟩ := HI.out
      exact hK.out _ _ (HMK.out _ _ _ ⟨hb, fact_new rfl, fact_old (by decide) c0 (fun h => h), fact_old (by decide) l1 (fun h => h), fact_old (by decide) c1 (fun h => h), fact_old (by decide) l2 (fun h => h), fact_old (by decide) c2 (fun h => h), fact_old (by decide) p0 (fun h => h), fact_zero (by decide) o0 (fun h => h), fact_two (by decide) (by decide) v0 (fun h => h), imp_old (by decide) a0, fact_old (by decide) p1 (fun h => h), fact_zero (by decide) o1 (fun h => h), fact_two (by decide) (by decide) v1 (fun h => h), imp_old (by decide) a1, fact_old (by decide) p2 (fun h => h), fact_zero (by decide) o2 (fun h => h), fact_two (by decide) (by decide) v2 (fun h => h), imp_old (by decide) a2, ne_old (by decide) (by decide) n01, ne_old (by decide) (by decide) n02, ne_old (by decide) (by decide) n12⟩)
    · intro d τ w' hd hn hI
      have HI := hideIt2 (HIN.out _ _ _ hI)
      have HD := hideIt2 hd
      have HN := hideIt2 hn
      clear hI hd hn
      have e : τ 0 = .agg #[.string ax, .string az] := (HI.out.2.1) (HD.out ⟨0, .data⟩ (by simp) rfl)
      have HM2 := hideIt2 (HM1.out.below HI.out.1)
      intro K hK
      simp only [putAll, Act.put, List.setIfInBounds_toArray, List.set_cons_zero, List.set_cons_succ, e] at hK ⊢
      go_simp
      refine (refP_calls ax az _ HM2.out (by omega) (by omega)).mono ?_
      rintro _ w2 ⟨hb2, v, rfl, hv⟩
      obtain ⟨hb, l0, c0, l1, c1, l2, c2, p0, o0, v0, a0, p1, o1, v1, a1, p2, o2, v2, a2, n01, n02, n12⟩ := HI.out
      exact hK.out _ _ (HMK.out _ _ _ ⟨bel_bel hb hb2, fact_old (by decide) l0 (fun h => h.below hb2), fact_new hv, fact_old (by decide) l1 (fun h => h.below hb2), fact_old (by decide) c1 (fun h => h.below hb2), fact_old (by decide) l2 (fun h => h.below hb2), fact_old (by decide) c2 (fun h => h.below hb2), fact_old (by decide) p0 (fun h => h.below hb2), fact_zero (by decide) o0 (fun h => h.below hb2), fact_two (by decide) (by decide) v0 (fun h => h.below hb2), imp_old (by decide) a0, fact_old (by decide) p1 (fun h => h.below hb2), fact_zero (by decide) o1 (fun h => h.below hb2), fact_two (by decide) (by decide) v1 (fun h => h.below hb2), imp_old (by decide) a1, fact_old (by decide) p2 (fun h => h.below hb2), fact_zero (by decide) o2 (fun h => h.below hb2), fact_two (by decide) (by decide) v2 (fun h => h.below hb2), imp_old (by decide) a2, ne_old (by decide) (by decide) n01, ne_old (by decide) (by decide) n02, ne_old (by decide) (by decide) n12⟩)
    · intro d τ w' hd hn hI
      have HI := hideIt2 (HIN.out _ _ _ hI)
      have HD := hideIt2 hd
      have HN := hideIt2 hn
      clear hI hd hn
      have hz := HS1.out w' HI.out.1
      have z0 := hz.1
      have z1 := hz.2.1
      have z2 := hz.2.2.1
      have z3 := hz.2.2.2.1
      have z4 := hz.2.2.2.2.1
      have z5 := hz.2.2.2.2.2
      clear hz
      intro K hK
      simp only [putAll, Act.put, List.setIfInBounds_toArray, List.set_cons_zero, List.set_cons_succ] at hK ⊢
      go_simp
      obtain ⟨hb, l0, c0, l1, c1, l2, c2, p0, o0, v0, a0, p1, o1, v1, a1, p2, o2, v2, a2, n01, n02, n12⟩ := HI.out
      exact hK.out _ _ (HMK.out _ _ _ ⟨hb, fact_old (by decide) l0 (fun h => h), fact_old (by decide) c0 (fun h => h), fact_new rfl, fact_old (by decide) c1 (fun h => h), fact_old (by decide) l2 (fun h => h), fact_old (by decide) c2 (fun h => h), fact_old (by decide) p0 (fun h => h), fact_zero (by decide) o0 (fun h => h), fact_two (by decide) (by decide) v0 (fun h => h), imp_old (by decide) a0, fact_old (by decide) p1 (fun h => h), fact_zero (by decide) o1 (fun h => h), fact_two (by decide) (by decide) v1 (fun h => h), imp_old (by decide) a1, fact_old (by decide) p2 (fun h => h), fact_zero (by decide) o2 (fun h => h), fact_two (by decide) (by decide) v2 (fun h => h), imp_old (by decide) a2, ne_old (by decide) (by decide) n01, ne_old (by decide) (by decide) n02, ne_old (by decide) (by decide) n12⟩)
    · intro d τ w' hd hn hI
      have HI := hideIt2 (HIN.out _ _ _ hI)
      have HD := hideIt2 hd
      have HN := hideIt2 hn
      clear hI hd hn
      have e : τ 2 = .agg #[.string bx, .string bz] := (HI.out.2.2.2.1) (HD.out ⟨2, .data⟩ (by simp) rfl)
      have HM2 := hideIt2 (HM1.out.below HI.out.1)
      intro K hK
      simp only [putAll, Act.put, List.setIfInBounds_toArray, List.set_cons_zero, List.set_cons_succ, e] at hK ⊢
      go_simp
      refine (refP_calls bx bz _ HM2.out (by omega) (by omega)).mono ?_
      rintro _ w2 ⟨hb2, v, rfl, hv⟩
      obtain ⟨hb, l0, c0, l1, c1, l2, c2, p0, o0, v0, a0, p1, o1, v1, a1, p2, o2, v2, a2, n01, n02, n12⟩ := HI.out
      exact hK.out _ _ (HMK.out _ _ _ ⟨bel_bel hb hb2, fact_old (by decide) l0 (fun h => h.below hb2), fact_old (by decide) c0 (fun h => h.below hb2), fact_old (by decide) l1 (fun h => h.below hb2), fact_new hv, fact_old (by decide) l2 (fun h => h.below hb2), fact_old (by decide) c2 (fun h => h.below hb2), fact_old (by decide) p0 (fun h => h.below hb2), fact_zero (by decide) o0 (fun h => h.below hb2), fact_two (by decide) (by decide) v0 (fun h => h.below hb2), imp_old (by decide) a0, fact_old (by decide) p1 (fun h => h.below hb2), fact_zero (by decide) o1 (fun h => h.below hb2), fact_two (by decide) (by decide) v1 (fun h => h.below hb2), imp_old (by decide) a1, fact_old (by decide) p2 (fun h => h.below hb2), fact_zero (by decide) o2 (fun h => h.below hb2), fact_two (by decide) (by decide) v2 (fun h => h.below hb2), imp_old (by decide) a2, ne_old (by decide) (by decide) n01, ne_old (by decide) (by decide) n02, ne_old (by decide) (by decide) n12⟩)
    · intro d τ w' hd hn hI
      have HI := hideIt2 (HIN.out _ _ _ hI)
      have HD := hideIt2 hd
      have HN := hideIt2 hn
      clear hI hd hn
      have hz := HS1.out w' HI.out.1
      have z0 := hz.1
      have z1 := hz.2.1
      have z2 := hz.2.2.1
      have z3 := hz.2.2.2.1
      have z4 := hz.2.2.2.2.1
      have z5 := hz.2.2.2.2.2
      clear hz
      intro K hK
      simp only [putAll, Act.put, List.setIfInBounds_toArray, List.set_cons_zero, List.set_cons_succ] at hK ⊢
      go_simp
      obtain ⟨hb, l0, c0, l1, c1, l2, c2, p0, o0, v0, a0, p1, o1, v1, a1, p2, o2, v2, a2, n01, n02, n12⟩ := HI.out
      exact hK.out _ _ (HMK.out _ _ _ ⟨hb, fact_old (by decide) l0 (fun h => h), fact_old (by decide) c0 (fun h => h), fact_old (by decide) l1 (fun h => h), fact_old (by decide) c1 (fun h => h), fact_new rfl, fact_old (by decide) c2 (fun h => h), fact_old (by decide) p0 (fun h => h), fact_zero (by decide) o0 (fun h => h), fact_two (by decide) (by decide) v0 (fun h => h), imp_old (by decide) a0, fact_old (by decide) p1 (fun h => h), fact_zero (by decide) o1 (fun h => h), fact_two (by decide) (by decide) v1 (fun h => h), imp_old (by decide) a1, fact_old (by decide) p2 (fun h => h), fact_zero (by decide) o2 (fun h => h), fact_two (by decide) (by decide) v2 (fun h => h), imp_old (by decide) a2, ne_old (by decide) (by decide) n01, ne_old (by decide) (by decide) n02, ne_old (by decide) (by decide) n12⟩)
    · intro d τ w' hd hn hI
      have HI := hideIt2 (HIN.out _ _ _ hI)
      have HD := hideIt2 hd
      have HN := hideIt2 hn
      clear hI hd hn
      have e : τ 4 = .agg #[.string px, .string pz] := (HI.out.2.2.2.2.2.1) (HD.out ⟨4, .data⟩ (by simp) rfl)
      have HM2 := hideIt2 (HM1.out.below HI.out.1)
      intro K hK
      simp only [putAll, Act.put, List.setIfInBounds_toArray, List.set_cons_zero, List.set_cons_succ, e] at hK ⊢
      go_simp
      refine (refP_calls px pz _ HM2.out (by omega) (by omega)).mono ?_
      rintro _ w2 ⟨hb2, v, rfl, hv⟩
      obtain ⟨hb, l0, c0, l1, c1, l2, c2, p0, o0, v0, a0, p1, o1, v1, a1, p2, o2, v2, a2, n01, n02, n12⟩ := HI.out
      exact hK.out _ _ (HMK.out _ _ _ ⟨bel_bel hb hb2, fact_old (by decide) l0 (fun h => h.below hb2), fact_old (by decide) c0 (fun h => h.below hb2), fact_old (by decide) l1 (fun h => h.below hb2), fact_old (by decide) c1 (fun h => h.below hb2), fact_old (by decide) l2 (fun h => h.below hb2), fact_new hv, fact_old (by decide) p0 (fun h => h.below hb2), fact_zero (by decide) o0 (fun h => h.below hb2), fact_two (by decide) (by decide) v0 (fun h => h.below hb2), imp_old (by decide) a0, fact_old (by decide) p1 (fun h => h.below hb2), fact_zero (by decide) o1 (fun h => h.below hb2), fact_two (by decide) (by decide) v1 (fun h => h.below hb2), imp_old (by decide) a1, fact_old (by decide) p2 (fun h => h.below hb2), fact_zero (by decide) o2 (fun h => h.below hb2), fact_two (by decide) (by decide) v2 (fun h => h.below hb2), imp_old (by decide) a2, ne_old (by decide) (by decide) n01, ne_old (by decide) (by decide) n02, ne_old (by decide) (by decide) n12⟩)
    · intro d τ w' hd hn hI
      have HI := hideIt2 (HIN.out _ _ _ hI)
      have HD := hideIt2 hd
      have HN := hideIt2 hn
      clear hI hd hn
      intro K hK
      simp only [putAll, Act.put, List.setIfInBounds_toArray, List.set_cons_zero, List.set_cons_succ] at hK ⊢
      go_simp
      obtain ⟨hb, l0, c0, l1, c1, l2, c2, p0, o0, v0, a0, p1, o1, v1, a1, p2, o2, v2, a2, n01, n02, n12⟩ := HI.out
      exact hK.out _ _ (HMK.out _ _ _ ⟨Below.new hb _, fact_old (by decide) l0 (fun h => h.below (below_new _ _)), fact_old (by decide) c0 (fun h => h.below (below_new _ _)), fact_old (by decide) l1 (fun h => h.below (below_new _ _)), fact_old (by decide) c1 (fun h => h.below (below_new _ _)), fact_old (by decide) l2 (fun h => h.below (below_new _ _)), fact_old (by decide) c2 (fun h => h.below (below_new _ _)), fact_new (Pb.new hb), fact_zero_new (Zb.new hb), fact_absurd (by decide) a0 HN.out, imp_old (by decide) a0, fact_old (by decide) p1 (fun h => h.below (below_new _ _)), fact_zero (by decide) o1 (fun h => h.below (below_new _ _)), fact_two (by decide) (by decide) v1 (fun h => h.below (below_new _ _)), imp_old (by decide) a1, fact_old (by decide) p2 (fun h => h.below (below_new _ _)), fact_zero (by decide) o2 (fun h => h.below (below_new _ _)), fact_two (by decide) (by decide) v2 (fun h => h.below (below_new _ _)), imp_old (by decide) a2, ne_new (by decide) p1, ne_new (by decide) p2, ne_old (by decide) (by decide) n12⟩)
    · intro d τ w' hd hn hI
      have HI := hideIt2 (HIN.out _ _ _ hI)
      have HD := hideIt2 hd
      have HN := hideIt2 hn
      clear hI hd hn
      intro K hK
      simp only [putAll, Act.put, List.setIfInBounds_toArray, List.set_cons_zero, List.set_cons_succ] at hK ⊢
      go_simp
      obtain ⟨hb, l0, c0, l1, c1, l2, c2, p0, o0, v0, a0, p1, o1, v1, a1, p2, o2, v2, a2, n01, n02, n12⟩ := HI.out
      exact hK.out _ _ (HMK.out _ _ _ ⟨Below.new hb _, fact_old (by decide) l0 (fun h => h.below (below_new _ _)), fact_old (by decide) c0 (fun h => h.below (below_new _ _)), fact_old (by decide) l1 (fun h => h.below (below_new _ _)), fact_old (by decide) c1 (fun h => h.below (below_new _ _)), fact_old (by decide) l2 (fun h => h.below (below_new _ _)), fact_old (by decide) c2 (fun h => h.below (below_new _ _)), fact_old (by decide) p0 (fun h => h.below (below_new _ _)), fact_zero (by decide) o0 (fun h => h.below (below_new _ _)), fact_two (by decide) (by decide) v0 (fun h => h.below (below_new _ _)), imp_old (by decide) a0, fact_new (Pb.new hb), fact_zero_new (Zb.new hb), fact_absurd (by decide) a1 HN.out, imp_old (by decide) a1, fact_old (by decide) p2 (fun h => h.below (below_new _ _)), fact_zero (by decide) o2 (fun h => h.below (below_new _ _)), fact_two (by decide) (by decide) v2 (fun h => h.below (below_new _ _)), imp_old (by decide) a2, ne_new' (by decide) p0, ne_old (by decide) (by decide) n02, ne_new (by decide) p2⟩)
    · intro d τ w' hd hn hI
      have HI := hideIt2 (HIN.out _ _ _ hI)
      have HD := hideIt2 hd
      have HN := hideIt2 hn
      clear hI hd hn
      intro K hK
      simp only [putAll, Act.put, List.setIfInBounds_toArray, List.set_cons_zero, List.set_cons_succ] at hK ⊢
      go_simp
      obtain ⟨hb, l0, c0, l1, c1, l2, c2, p0, o0, v0, a0, p1, o1, v1, a1, p2, o2, v2, a2, n01, n02, n12⟩ := HI.out
      exact hK.out _ _ (HMK.out _ _ _ ⟨Below.new hb _, fact_old (by decide) l0 (fun h => h.below (below_new _ _)), fact_old (by decide) c0 (fun h => h.below (below_new _ _)), fact_old (by decide) l1 (fun h => h.below (below_new _ _)), fact_old (by decide) c1 (fun h => h.below (below_new _ _)), fact_old (by decide) l2 (fun h => h.below (below_new _ _)), fact_old (by decide) c2 (fun h => h.below (below_new _ _)), fact_old (by decide) p0 (fun h => h.below (below_new _ _)), fact_zero (by decide) o0 (fun h => h.below (below_new _ _)), fact_two (by decide) (by decide) v0 (fun h => h.below (below_new _ _)), imp_old (by decide) a0, fact_old (by decide) p1 (fun h => h.below (below_new _ _)), fact_zero (by decide) o1 (fun h => h.below (below_new _ _)), fact_two (by decide) (by decide) v1 (fun h => h.below (below_new _ _)), imp_old (by decide) a1, fact_new (Pb.new hb), fact_zero_new (Zb.new hb), fact_absurd (by decide) a2 HN.out, imp_old (by decide) a2, ne_old (by decide) (by decide) n01, ne_new' (by decide) p0, ne_new' (by decide) p1⟩)
    · intro d τ w' hd hn hI
      have HI := hideIt2 (HIN.out _ _ _ hI)
      have HD := hideIt2 hd
      have HN := hideIt2 hn
      clear hI hd hn
      have hA0 : d 6 := HD.out ⟨6, .data⟩ (by simp) rfl
      have hA1 : d 7 := HD.out ⟨7, .phase⟩ (by simp) rfl
      have hA2 : d 8 := HD.out ⟨8, .phase⟩ (by simp) rfl
      have hC : d 1 := HD.out ⟨1, .data⟩ (by simp) rfl
      obtain ⟨G, eG, hge, hz⟩ := (HI.out.2.2.2.2.2.2.2.2.1) hA0 HN.out
      obtain ⟨_, _, ep, ⟨gp, rfl, hrp⟩, ⟨gq, rfl, hrq⟩⟩ := (HI.out.2.2.1) hC
      have hp : PR w' (.pointer (some ⟨gp, 0, none⟩)) (rd ax.data.toList) := ⟨gp, rfl, hrp⟩
      have hq : PR w' (.pointer (some ⟨gq, 0, none⟩)) (rd az.data.toList) := ⟨gq, rfl, hrq⟩
      clear hrp hrq
      have hz4 := hz.all2
      have k0 := hz4.1
      have k1 := hz4.2.1
      have g0 := hz4.2.2.1
      have g1 := hz4.2.2.2
      have hlt := hz.lt
      have HZ := hideIt2 (And.intro hz (And.intro hge (And.intro hp hq)))
      have HA := hideIt2 (And.intro hA0 (And.intro hA1 hA2))
      clear hz hz4 hge hp hq hC hA0 hA1 hA2
      intro K hK
      simp only [putAll, Act.put, List.setIfInBounds_toArray, List.set_cons_zero, List.set_cons_succ, eG, ep] at hK ⊢
      go_simp
      obtain ⟨hb, l0, c0, l1, c1, l2, c2, p0, o0, v0, a0, p1, o1, v1, a1, p2, o2, v2, a2, n01, n02, n12⟩ := HI.out
      obtain ⟨hz, hge, hp, hq⟩ := HZ.out
      obtain ⟨hA0, hA1, hA2⟩ := HA.out
      exact hK.out undef _ (HMK.out _ _ _ ⟨bel_put2 hb hge _ _, fact_old (by decide) l0 (fun h => h), fact_old (by decide) c0 (fun h => h.put hz), fact_old (by decide) l1 (fun h => h), fact_old (by decide) c1 (fun h => h.put hz), fact_old (by decide) l2 (fun h => h), fact_old (by decide) c2 (fun h => h.put hz), fact_old (by decide) p0 (fun h => h.put), fact_zero_did, fact_did (by decide) (by rw [eG]; exact Vb.mk hge hz hp hq), (fun _ => Or.inr hA0), fact_old (by decide) p1 (fun h => h.put), fact_zero (by decide) o1 (fun h => h.put (by rw [← eG]; exact n01 hA0 hA1)), fact_two (by decide) (by decide) v1 (fun h => h.put hz (by rw [← eG]; exact n01 hA0 hA1)), imp_old (by decide) a1, fact_old (by decide) p2 (fun h => h.put), fact_zero (by decide) o2 (fun h => h.put (by rw [← eG]; exact n02 hA0 hA2)), fact_two (by decide) (by decide) v2 (fun h => h.put hz (by rw [← eG]; exact n02 hA0 hA2)), imp_old (by decide) a2, ne_old (by decide) (by decide) n01, ne_old (by decide) (by decide) n02, ne_old (by decide) (by decide) n12⟩)
    · intro d τ w' hd hn hI
      have HI := hideIt2 (HIN.out _ _ _ hI)
      have HD := hideIt2 hd
      have HN := hideIt2 hn
      clear hI hd hn
      have hA0 : d 6 := HD.out ⟨6, .phase⟩ (by simp) rfl
      have hA1 : d 7 := HD.out ⟨7, .data⟩ (by simp) rfl
      have hA2 : d 8 := HD.out ⟨8, .phase⟩ (by simp) rfl
      have hC : d 3 := HD.out ⟨3, .data⟩ (by simp) rfl
      obtain ⟨G, eG, hge, hz⟩ := (HI.out.2.2.2.2.2.2.2.2.2.2.2.2.1) hA1 HN.out
      obtain ⟨_, _, ep, ⟨gp, rfl, hrp⟩, ⟨gq, rfl, hrq⟩⟩ := (HI.out.2.2.2.2.1) hC
      have hp : PR w' (.pointer (some ⟨gp, 0, none⟩)) (rd bx.data.toList) := ⟨gp, rfl, hrp⟩
      have hq : PR w' (.pointer (some ⟨gq, 0, none⟩)) (rd bz.data.toList) := ⟨gq, rfl, hrq⟩
      clear hrp hrq
      have hz4 := hz.all2
      have k0 := hz4.1
      have k1 := hz4.2.1
      have g0 := hz4.2.2.1
      have g1 := hz4.2.2.2
      have hlt := hz.lt
      have HZ := hideIt2 (And.intro hz (And.intro hge (And.intro hp hq)))
      have HA := hideIt2 (And.intro hA0 (And.intro hA1 hA2))
      clear hz hz4 hge hp hq hC hA0 hA1 hA2
      intro K hK
      simp only [putAll, Act.put, List.setIfInBounds_toArray, List.set_cons_zero, List.set_cons_succ, eG, ep] at hK ⊢
      go_simp
      obtain ⟨hb, l0, c0, l1, c1, l2, c2, p0, o0, v0, a0, p1, o1, v1, a1, p2, o2, v2, a2, n01, n02, n12⟩ := HI.out
      obtain ⟨hz, hge, hp, hq⟩ := HZ.out
      obtain ⟨hA0, hA1, hA2⟩ := HA.out
      exact hK.out undef _ (HMK.out _ _ _ ⟨bel_put2 hb hge _ _, fact_old (by decide) l0 (fun h => h), fact_old (by decide) c0 (fun h => h.put hz), fact_old (by decide) l1 (fun h => h), fact_old (by decide) c1 (fun h => h.put hz), fact_old (by decide) l2 (fun h => h), fact_old (by decide) c2 (fun h => h.put hz), fact_old (by decide) p0 (fun h => h.put), fact_zero (by decide) o0 (fun h => h.put (by rw [← eG]; exact (fun q => n01 hA0 hA1 q.symm))), fact_two (by decide) (by decide) v0 (fun h => h.put hz (by rw [← eG]; exact (fun q => n01 hA0 hA1 q.symm))), imp_old (by decide) a0, fact_old (by decide) p1 (fun h => h.put), fact_zero_did, fact_did (by decide) (by rw [eG]; exact Vb.mk hge hz hp hq), (fun _ => Or.inr hA1), fact_old (by decide) p2 (fun h => h.put), fact_zero (by decide) o2 (fun h => h.put (by rw [← eG]; exact n12 hA1 hA2)), fact_two (by decide) (by decide) v2 (fun h => h.put hz (by rw [← eG]; exact n12 hA1 hA2)), imp_old (by decide) a2, ne_old (by decide) (by decide) n01, ne_old (by decide) (by decide) n02, ne_old (by decide) (by decide) n12⟩)
    · intro d τ w' hd hn hI
      have HI := hideIt2 (HIN.out _ _ _ hI)
      have HD := hideIt2 hd
      have HN := hideIt2 hn
      clear hI hd hn
      have hA0 : d 6 := HD.out ⟨6, .phase⟩ (by simp) rfl
      have hA1 : d 7 := HD.out ⟨7, .phase⟩ (by simp) rfl
      have hA2 : d 8 := HD.out ⟨8, .data⟩ (by simp) rfl
      have hC : d 5 := HD.out ⟨5, .data⟩ (by simp) rfl
      obtain ⟨G, eG, hge, hz⟩ := (HI.out.2.2.2.2.2.2.2.2.2.2.2.2.2.2.2.2.1) hA2 HN.out
      obtain ⟨_, _, ep, ⟨gp, rfl, hrp⟩, ⟨gq, rfl, hrq⟩⟩ := (HI.out.2.2.2.2.2.2.1) hC
      have hp : PR w' (.pointer (some ⟨gp, 0, none⟩)) (rd px.data.toList) := ⟨gp, rfl, hrp⟩
      have hq : PR w' (.pointer (some ⟨gq, 0, none⟩)) (rd pz.data.toList) := ⟨gq, rfl, hrq⟩
      clear hrp hrq
      have hz4 := hz.all2
      have k0 := hz4.1
      have k1 := hz4.2.1
      have g0 := hz4.2.2.1
      have g1 := hz4.2.2.2
      have hlt := hz.lt
      have HZ := hideIt2 (And.intro hz (And.intro hge (And.intro hp hq)))
      have HA := hideIt2 (And.intro hA0 (And.intro hA1 hA2))
      clear hz hz4 hge hp hq hC hA0 hA1 hA2
      intro K hK
      simp only [putAll, Act.put, List.setIfInBounds_toArray, List.set_cons_zero, List.set_cons_succ, eG, ep] at hK ⊢
      go_simp
      obtain ⟨hb, l0, c0, l1, c1, l2, c2, p0, o0, v0, a0, p1, o1, v1, a1, p2, o2, v2, a2, n01, n02, n12⟩ := HI.out
      obtain ⟨hz, hge, hp, hq⟩ := HZ.out
      obtain ⟨hA0, hA1, hA2⟩ := HA.out
      exact hK.out undef _ (HMK.out _ _ _ ⟨bel_put2 hb hge _ _, fact_old (by decide) l0 (fun h => h), fact_old (by decide) c0 (fun h => h.put hz), fact_old (by decide) l1 (fun h => h), fact_old (by decide) c1 (fun h => h.put hz), fact_old (by decide) l2 (fun h => h), fact_old (by decide) c2 (fun h => h.put hz), fact_old (by decide) p0 (fun h => h.put), fact_zero (by decide) o0 (fun h => h.put (by rw [← eG]; exact (fun q => n02 hA0 hA2 q.symm))), fact_two (by decide) (by decide) v0 (fun h => h.put hz (by rw [← eG]; exact (fun q => n02 hA0 hA2 q.symm))), imp_old (by decide) a0, fact_old (by decide) p1 (fun h => h.put), fact_zero (by decide) o1 (fun h => h.put (by rw [← eG]; exact (fun q => n12 hA1 hA2 q.symm))), fact_two (by decide) (by decide) v1 (fun h => h.put hz (by rw [← eG]; exact (fun q => n12 hA1 hA2 q.symm))), imp_old (by decide) a1, fact_old (by decide) p2 (fun h => h.put), fact_zero_did, fact_did (by decide) (by rw [eG]; exact Vb.mk hge hz hp hq), (fun _ => Or.inr hA2), ne_old (by decide) (by decide) n01, ne_old (by decide) (by decide) n02, ne_old (by decide) (by decide) n12⟩)
  · intro d τ wc hall hI
    have HI := hideIt2 (HIN.out _ _ _ hI)
    clear hI
    have hb := HI.out.1
    refine Vb.use ((HI.out.2.2.2.2.2.2.2.2.2.1) (hall 9 (by decide))) ?_
    intro G0 p0' q0' eG0 hg0 hk0 hp0 hq0
    refine Vb.use ((HI.out.2.2.2.2.2.2.2.2.2.2.2.2.2.1) (hall 10 (by decide))) ?_
    intro G1 p1' q1' eG1 hg1 hk1 hp1 hq1
    refine Vb.use ((HI.out.2.2.2.2.2.2.2.2.2.2.2.2.2.2.2.2.2.1) (hall 11 (by decide))) ?_
    intro G2 p2' q2' eG2 hg2 hk2 hp2 hq2
    have hn01 : ¬ G0 = G1 := fun q => (HI.out.2.2.2.2.2.2.2.2.2.2.2.2.2.2.2.2.2.2.2.1) (hall 6 (by decide)) (hall 7 (by decide)) (by rw [eG0, eG1, q])
    have hn02 : ¬ G0 = G2 := fun q => (HI.out.2.2.2.2.2.2.2.2.2.2.2.2.2.2.2.2.2.2.2.2.1) (hall 6 (by decide)) (hall 8 (by decide)) (by rw [eG0, eG2, q])
    have hn12 : ¬ G1 = G2 := fun q => (HI.out.2.2.2.2.2.2.2.2.2.2.2.2.2.2.2.2.2.2.2.2.2) (hall 7 (by decide)) (hall 8 (by decide)) (by rw [eG1, eG2, q])
    simp only [putAll, Act.put, List.setIfInBounds_toArray, List.set_cons_zero, List.set_cons_succ, eG0, eG1, eG2]
    clear HI eG0 eG1 eG2 hall
    generalize τ 0 = t0
    generalize τ 1 = t1
    generalize τ 2 = t2
    generalize τ 3 = t3
    generalize τ 4 = t4
    generalize τ 5 = t5
    generalize τ 6 = t6
    generalize τ 7 = t7
    generalize τ 8 = t8
    generalize τ 9 = t9
    generalize τ 10 = t10
    generalize τ 11 = t11
    have HBC := hideIt2 (bel_bel HBL1.out hb)
    have HTC := hideIt2 (HT1.out.below hb)
    have HMC := hideIt2 (HM1.out.below hb)
    have HSC : Hid (∀ w', Below wc.heap.size wc w' → w'.cell? ⟨G0, 0, none⟩ = some p0' ∧ w'.cell? ⟨G0, 1, none⟩ = some q0' ∧ w'.cell? ⟨G1, 0, none⟩ = some p1' ∧ w'.cell? ⟨G1, 1, none⟩ = some q1' ∧ w'.cell? ⟨G2, 0, none⟩ = some p2' ∧ w'.cell? ⟨G2, 1, none⟩ = some q2') := fun w' hb => ⟨(hk0.below hb hk0.lt).cell 0, (hk0.below hb hk0.lt).cell 1, (hk1.below hb hk1.lt).cell 0, (hk1.below hb hk1.lt).cell 1, (hk2.below hb hk2.lt).cell 0, (hk2.below hb hk2.lt).cell 1⟩
    have HP := hideIt2 (And.intro hp0 (And.intro hq0 (And.intro hp1 (And.intro hq1 (And.intro hp2 hq2)))))
    clear hb hg0 hg1 hg2 hk0 hk1 hk2 hp0 hq0 hp1 hq1 hp2 hq2 hn01 hn02 hn12
    go_wp2_with fail
    refine (pointed_calls _ HTC.out).mono ?_
    rintro e w3 ⟨hb3, rfl⟩
    have HB3 := hideIt2 hb3
    obtain ⟨z0, z1, z2, z3, z4, z5⟩ := HSC.out w3 hb3
    clear hb3
    go_wp2_with fail
    refine (vSame_calls ⟨_, _, rfl, HP.out.1.below HB3.out, HP.out.2.1.below HB3.out⟩ ⟨_, _, rfl, HP.out.2.2.1.below HB3.out, HP.out.2.2.2.1.below HB3.out⟩ Gax.out Gaz.out Gbx.out Gbz.out (by decide)).mono ?_
    rintro e w4 ⟨hb4, rfl⟩
    have HB4 := hideIt2 (bel_bel HB3.out hb4)
    obtain ⟨z0, z1, z2, z3, z4, z5⟩ := HSC.out w4 HB4.out
    clear hb4
    have hans := HANS.out
    by_cases hsame : (rd ax.data.toList) = (rd bx.data.toList) ∧ (rd az.data.toList) = (rd bz.data.toList)
    · rw [decide_eq_true hsame]
      have h1 : (((rd bx.data.toList) - (rd ax.data.toList)) = 0 ∧ ((rd bz.data.toList) - (rd az.data.toList)) = 0) := ⟨by rw [hsame.1]; exact Rat.sub_self, by rw [hsame.2]; exact Rat.sub_self⟩
      rcases hans with ⟨_, rfl, hl⟩ | ⟨hn, _⟩ | ⟨hn, _⟩
      · obtain rfl := bytes_of hl
        clear h1 hsame hl
        go_wp2
        go_ret
        exact ⟨bel_bel HB0.out (bel_bel HBC.out HB4.out), by first | rfl | simp⟩
      · exact absurd h1 hn
      · exact absurd h1 hn
    · rw [decide_eq_false hsame]
      have h1 : ¬ (((rd bx.data.toList) - (rd ax.data.toList)) = 0 ∧ ((rd bz.data.toList) - (rd az.data.toList)) = 0) := fun h => hsame ⟨by have := h.1; grind, by have := h.2; grind⟩
      clear hsame
      go_wp2_with fail
      refine (refTurn_calls ⟨_, _, rfl, HP.out.1.below HB4.out, HP.out.2.1.below HB4.out⟩ ⟨_, _, rfl, HP.out.2.2.1.below HB4.out, HP.out.2.2.2.1.below HB4.out⟩ ⟨_, _, rfl, HP.out.2.2.2.2.1.below HB4.out, HP.out.2.2.2.2.2.below HB4.out⟩ Gax.out Gaz.out Gbx.out Gbz.out Gpx.out Gpz.out (by decide)).mono ?_
      rintro e w5 ⟨hb5, v5, rfl, hv5⟩
      have HB5 := hideIt2 (bel_bel HB4.out hb5)
      have HV5 := hideIt2 hv5
      clear hb5 hv5
      go_wp2_with fail
      refine (refZero_calls HV5.out).mono ?_
      rintro e w6 ⟨hb6, rfl⟩
      have HB6 := hideIt2 (bel_bel HB5.out hb6)
      obtain ⟨z0, z1, z2, z3, z4, z5⟩ := HSC.out w6 HB6.out
      clear hb6
      by_cases ht : ((rd bx.data.toList) - (rd ax.data.toList)) * ((rd pz.data.toList) - (rd az.data.toList)) - ((rd bz.data.toList) - (rd az.data.toList)) * ((rd px.data.toList) - (rd ax.data.toList)) = 0
      · rw [decide_eq_true ht]
        rcases hans with ⟨h, _⟩ | ⟨_, h, _⟩ | ⟨_, _, rfl, hl⟩
        · exact absurd h h1
        · exact absurd ht h
        · obtain rfl := bytes_of hl
          have HF := hideIt2 (ratio_fact h1 ht)
          clear h1 ht hl
          go_wp2_with fail
          go_region_held3 (fun w' => w'.cell? ⟨G0, 0, none⟩ = some p0' ∧ w'.cell? ⟨G0, 1, none⟩ = some q0' ∧ w'.cell? ⟨G1, 0, none⟩ = some p1' ∧ w'.cell? ⟨G1, 1, none⟩ = some q1' ∧ w'.cell? ⟨G2, 0, none⟩ = some p2' ∧ w'.cell? ⟨G2, 1, none⟩ = some q2') (first | (refine HSC.out _ (bel_bel HB6.out ?_); (repeat' first | with_reducible exact hbl10 | with_reducible exact hbl9 | with_reducible exact hbl8 | with_reducible exact hbl7 | with_reducible exact hbl6 | with_reducible exact Below.refl _ _ | with_reducible refine Below.new ?_ _ | with_reducible refine Below.drew ?_); done) | go_keep)
            (first
              | (have hq9 := hbl9; go_at_call 12; refine (vSame_calls ⟨_, _, rfl, (by repeat' first | with_reducible exact hp9 | with_reducible refine pr_new _ ?_ | with_reducible refine pr_drew ?_), (by repeat' first | with_reducible exact hq9v | with_reducible refine pr_new _ ?_ | with_reducible refine pr_drew ?_)⟩ ⟨_, _, rfl, HP.out.2.2.2.2.1.below (bel_bel HB6.out (by repeat' first | with_reducible exact hbl9 | with_reducible exact hbl8 | with_reducible exact hbl7 | with_reducible exact hbl6 | with_reducible exact Below.refl _ _ | with_reducible refine Below.new ?_ _ | with_reducible refine Below.drew ?_)), HP.out.2.2.2.2.2.below (bel_bel HB6.out (by repeat' first | with_reducible exact hbl9 | with_reducible exact hbl8 | with_reducible exact hbl7 | with_reducible exact hbl6 | with_reducible exact Below.refl _ _ | with_reducible refine Below.new ?_ _ | with_reducible refine Below.drew ?_))⟩ (Gax.out.add ((Gbx.out.sub Gax.out).mul FKK.out)) (Gaz.out.add ((Gbz.out.sub Gaz.out).mul FKK.out)) (Gpx.out.mono (by decide)) (Gpz.out.mono (by decide)) (by decide)).mono ?_; rintro e w10 ⟨hb10, rfl⟩; rw [decide_eq_true (show (rd ax.data.toList) + ((rd bx.data.toList) - (rd ax.data.toList)) * ((((rd px.data.toList) - (rd ax.data.toList)) * ((rd bx.data.toList) - (rd ax.data.toList)) + ((rd pz.data.toList) - (rd az.data.toList)) * ((rd bz.data.toList) - (rd az.data.toList))) / (((rd bx.data.toList) - (rd ax.data.toList)) * ((rd bx.data.toList) - (rd ax.data.toList)) + ((rd bz.data.toList) - (rd az.data.toList)) * ((rd bz.data.toList) - (rd az.data.toList)))) = (rd px.data.toList) ∧ (rd az.data.toList) + ((rd bz.data.toList) - (rd az.data.toList)) * ((((rd px.data.toList) - (rd ax.data.toList)) * ((rd bx.data.toList) - (rd ax.data.toList)) + ((rd pz.data.toList) - (rd az.data.toList)) * ((rd bz.data.toList) - (rd az.data.toList))) / (((rd bx.data.toList) - (rd ax.data.toList)) * ((rd bx.data.toList) - (rd ax.data.toList)) + ((rd bz.data.toList) - (rd az.data.toList)) * ((rd bz.data.toList) - (rd az.data.toList)))) = (rd pz.data.toList) from by have h1 := HF.out.1; have h2 := HF.out.2; exact ⟨by rw [h1]; grind, by rw [h2]; grind⟩)]; have hbl10 : Below w6.heap.size w6 w10 := bel_bel (by repeat' first | with_reducible exact hbl9 | with_reducible exact hbl8 | with_reducible exact hbl7 | with_reducible exact hbl6 | with_reducible exact Below.refl _ _ | with_reducible refine Below.new ?_ _ | with_reducible refine Below.drew ?_) hb10)
              | (have hq8 := hbl8; go_at_call 16; refine (vOn_calls ⟨_, _, rfl, HP.out.1.below (bel_bel HB6.out (by repeat' first | with_reducible exact hbl8 | with_reducible exact hbl7 | with_reducible exact hbl6 | with_reducible exact Below.refl _ _ | with_reducible refine Below.new ?_ _ | with_reducible refine Below.drew ?_)), HP.out.2.1.below (bel_bel HB6.out (by repeat' first | with_reducible exact hbl8 | with_reducible exact hbl7 | with_reducible exact hbl6 | with_reducible exact Below.refl _ _ | with_reducible refine Below.new ?_ _ | with_reducible refine Below.drew ?_))⟩ ⟨_, _, rfl, HP.out.2.2.1.below (bel_bel HB6.out (by repeat' first | with_reducible exact hbl8 | with_reducible exact hbl7 | with_reducible exact hbl6 | with_reducible exact Below.refl _ _ | with_reducible refine Below.new ?_ _ | with_reducible refine Below.drew ?_)), HP.out.2.2.2.1.below (bel_bel HB6.out (by repeat' first | with_reducible exact hbl8 | with_reducible exact hbl7 | with_reducible exact hbl6 | with_reducible exact Below.refl _ _ | with_reducible refine Below.new ?_ _ | with_reducible refine Below.drew ?_))⟩ (by repeat' first | with_reducible exact hv8 | with_reducible refine pr_new _ ?_ | with_reducible refine pr_drew ?_) (Gax.out.mono (l := 67108954) (by decide)) (Gaz.out.mono (by decide)) (Gbx.out.mono (by decide)) (Gbz.out.mono (by decide)) FKK.out (by decide)).mono ?_; rintro e w9 ⟨hb9, _, rfl, p9, q9, rfl, hp9, hq9v⟩; have hbl9 : Below w6.heap.size w6 w9 := bel_bel (by repeat' first | with_reducible exact hbl8 | with_reducible exact hbl7 | with_reducible exact hbl6 | with_reducible exact Below.refl _ _ | with_reducible refine Below.new ?_ _ | with_reducible refine Below.drew ?_) hb9)
              | (have hq7 := hbl7; go_at_call 17; refine (refOfT_calls (HMC.out.below (bel_bel HB6.out (by repeat' first | with_reducible exact hbl7 | with_reducible exact hbl6 | with_reducible exact Below.refl _ _ | with_reducible refine Below.new ?_ _ | with_reducible refine Below.drew ?_))) FKK.out (by decide)).mono ?_; rintro e w8 ⟨hb8, _, rfl, hv8⟩; have hbl8 : Below w6.heap.size w6 w8 := bel_bel (by repeat' first | with_reducible exact hbl7 | with_reducible exact hbl6 | with_reducible exact Below.refl _ _ | with_reducible refine Below.new ?_ _ | with_reducible refine Below.drew ?_) hb8)
              | (go_at_call 15; refine (refRight_calls (srow1 (by repeat' first | with_reducible exact Blk.new _ _ _ | with_reducible refine blk_old _ ?_ | with_reducible refine blk_drew ?_)) (HMC.out.below (bel_bel HB6.out (by repeat' first | with_reducible exact hbl6 | with_reducible exact Below.refl _ _ | with_reducible refine Below.new ?_ _ | with_reducible refine Below.drew ?_))) (right_len FKK.out (by decide)) (by simp)).mono ?_; rintro e w7 ⟨hb7, rr, rfl, hrr⟩; have hrt := hrr.2 (right_one _); clear hrr; subst hrt; have hbl7 : Below w6.heap.size w6 w7 := bel_bel (by repeat' first | with_reducible exact hbl6 | with_reducible exact Below.refl _ _ | with_reducible refine Below.new ?_ _ | with_reducible refine Below.drew ?_) hb7)
              )
          all_goals
            go_wp2
            go_ret
            exact ⟨bel_bel HB0.out (bel_bel HBC.out (bel_bel HB6.out hbl10)), by first | rfl | simp⟩
      · rw [decide_eq_false ht]
        rcases hans with ⟨h, _⟩ | ⟨_, _, rfl, hl⟩ | ⟨_, h, _⟩
        · exact absurd h h1
        · obtain rfl := bytes_of hl
          clear h1 ht hl
          go_wp2
          go_ret
          exact ⟨bel_bel HB0.out (bel_bel HBC.out HB6.out), by first | rfl | simp⟩
        · exact absurd h ht
end Go.Proofs.YtpalknbmejachaaGreatDoor
