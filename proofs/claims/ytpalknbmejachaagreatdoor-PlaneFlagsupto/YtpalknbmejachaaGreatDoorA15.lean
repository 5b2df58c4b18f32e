/- Part 15 of the walks of the packages num, way, ruler, line and plane, and of the mathematics under them: RegInv RBX RBY BQU RN. -/
import Derived.Deep.RegionHeld3
import Derived.Test.YtpalknbmejachaaGreatDoorA14
import Derived.Test.YtpalknbmejachaaGreatDoorA10
/- A region that draws its order of evaluation, by an invariant: each operation is run once, whatever the order. -/
namespace Cx
open Go

/-- The state a0 in which the operations from number i on have left what τ says. -/
def putAll (a0 : Act) (τ : Nat → Value) : Nat → List Oper → Act
  | _, [] => a0
  | i, o :: os => putAll (a0.put o.dst (τ i)) τ (i + 1) os

def updOp (τ : Nat → Value) (i : Nat) (v : Value) : Nat → Value := fun j => if j = i then v else τ j
theorem updOp_at (τ : Nat → Value) (i : Nat) (v : Value) : updOp τ i v i = v := if_pos rfl
theorem updOp_ne (τ : Nat → Value) {i j : Nat} (v : Value) (h : j ≠ i) : updOp τ i v j = τ j := if_neg h

theorem putAll_upd_lt (τ : Nat → Value) (v : Value) (k : Nat) : ∀ (os : List Oper) (a0 : Act) (i : Nat), k < i → putAll a0 (updOp τ k v) i os = putAll a0 τ i os
  | [], _, _, _ => rfl
  | o :: os, a0, i, h => by
    show putAll (a0.put o.dst (updOp τ k v i)) _ (i + 1) os = _
    rw [updOp_ne τ v (by omega : i ≠ k), putAll_upd_lt τ v k os _ (i + 1) (by omega)]
    rfl

theorem put_same (a : Act) (d : Option Tmp) (u v : Value) : (a.put d u).put d v = a.put d v := by
  cases d with
  | none => rfl
  | some d => simp [Act.put]

theorem put_swap (a : Act) {d e : Option Tmp} (u v : Value) (h : ∀ x, d = some x → e ≠ some x) : (a.put d u).put e v = (a.put e v).put d u := by
  cases d with
  | none => rfl
  | some d =>
    cases e with
    | none => rfl
    | some e =>
      have hne : d ≠ e := fun q => h d rfl (by rw [q])
      simp only [Act.put]
      rw [Array.setIfInBounds_comm _ _ hne]

theorem putAll_put (τ : Nat → Value) (d : Option Tmp) (v : Value) : ∀ (os : List Oper) (b : Act) (i : Nat), (∀ x, d = some x → x ∉ os.filterMap (·.dst)) → (putAll b τ i os).put d v = putAll (b.put d v) τ i os
  | [], _, _, _ => rfl
  | o :: os, b, i, h => by
    show (putAll (b.put o.dst (τ i)) τ (i + 1) os).put d v = putAll ((b.put d v).put o.dst (τ i)) τ (i + 1) os
    rw [putAll_put τ d v os _ (i + 1) (fun x hx hm => h x hx (by
      cases ho : o.dst with
      | none => rw [List.filterMap_cons_none ho]; exact hm
      | some y => rw [List.filterMap_cons_some ho]; exact List.mem_cons_of_mem _ hm))]
    rw [put_swap]
    intro x hx hd
    refine h x hd ?_
    rw [List.filterMap_cons_some hx]
    exact List.mem_cons_self

theorem putAll_upd (τ : Nat → Value) (v : Value) : ∀ (os : List Oper) (a0 : Act) (i k : Nat) (o : Oper), (os.filterMap (·.dst)).Nodup → os[k]? = some o →
    (putAll a0 τ i os).put o.dst v = putAll a0 (updOp τ (i + k) v) i os
  | [], _, _, _, _, _, h => by simp at h
  | p :: os, a0, i, 0, o, hn, h => by
    have e : p = o := by simpa using h
    subst e
    show (putAll (a0.put p.dst (τ i)) τ (i + 1) os).put p.dst v = putAll (a0.put p.dst (updOp τ i v i)) (updOp τ i v) (i + 1) os
    have hnot : ∀ x, p.dst = some x → x ∉ os.filterMap (·.dst) := fun x hx => by
      rw [List.filterMap_cons_some hx] at hn
      exact (List.nodup_cons.1 hn).1
    rw [putAll_put τ _ v os _ _ hnot, put_same, updOp_at, putAll_upd_lt τ v i os _ (i + 1) (by omega)]
  | p :: os, a0, i, k + 1, o, hn, h => by
    have h' : os[k]? = some o := by simpa using h
    have hn' : (os.filterMap (·.dst)).Nodup := by
      cases hp : p.dst with
      | none => rwa [List.filterMap_cons_none hp] at hn
      | some y => rw [List.filterMap_cons_some hp] at hn; exact (List.nodup_cons.1 hn).2
    show (putAll (a0.put p.dst (τ i)) τ (i + 1) os).put o.dst v = putAll (a0.put p.dst (updOp τ (i + (k + 1)) v i)) (updOp τ (i + (k + 1)) v) (i + 1) os
    rw [putAll_upd τ v os _ (i + 1) k o hn' h', updOp_ne τ v (by omega : i ≠ i + (k + 1))]
    rw [show i + 1 + k = i + (k + 1) by omega]

/-- What stands in the state ahead of the region. -/
def beforeOps (a0 : Act) (os : List Oper) : Nat → Value := fun j => match (os[j]?).bind (·.dst) with
  | some d => a0.tmps.getD d undef
  | none => undef

theorem put_self (a : Act) (d : Tmp) : a.put (some d) (a.tmps.getD d undef) = a := by
  show { a with tmps := a.tmps.setIfInBounds d (a.tmps.getD d undef) } = a
  have : a.tmps.setIfInBounds d (a.tmps.getD d undef) = a.tmps := by
    apply Array.ext
    · simp
    · intro i h1 h2
      by_cases hi : d = i
      · subst hi
        simp [Array.getD, h2]
      · rw [Array.getElem_setIfInBounds_ne h2 hi]
  rw [this]

theorem putAll_before (a0 : Act) (all : List Oper) : ∀ (os : List Oper) (i : Nat), (∀ k, os[k]? = all[i + k]?) → putAll a0 (beforeOps a0 all) i os = a0
  | [], _, _ => rfl
  | o :: os, i, h => by
    show putAll (a0.put o.dst (beforeOps a0 all i)) _ (i + 1) os = a0
    have h0 : some o = all[i]? := by simpa using h 0
    have e : a0.put o.dst (beforeOps a0 all i) = a0 := by
      unfold beforeOps
      rw [← h0]
      cases hd : o.dst with
      | none => rfl
      | some d => simpa [hd] using put_self a0 d
    rw [e]
    exact putAll_before a0 all os (i + 1) (fun k => by have := h (k + 1); simp at this; rw [this]; congr 1; omega)

section
variable (P : Program) (Q : Exit → Act → World → Prop) (all : List Oper) (a0 : Act) (Inv : (Nat → Prop) → (Nat → Value) → World → Prop)

/-- Operation number i, o, run in any state that meets the invariant in which what it waits for is done. -/
def OpStep (i : Nat) (o : Oper) : Prop :=
  ∀ (d : Nat → Prop) (τ : Nat → Value) (w : World), (∀ e ∈ o.after, Region.binds .any e = true → d e.on) → ¬ d i → Inv d τ w →
    ∀ K : Act → World → Prop, Shut (∀ v w', Inv (fun j => j = i ∨ d j) (updOp τ i v) w' → K ((putAll a0 τ 0 all).put o.dst v) w') →
      if Region.wanted o (yielded all.toArray (putAll a0 τ 0 all).tmps) = true then Oper.wp P o (putAll a0 τ 0 all) w K Q else K ((putAll a0 τ 0 all).put o.dst undef) w

def OpSteps : Nat → List Oper → Prop
  | _, [] => True
  | i, o :: os => OpStep P Q all a0 Inv i o ∧ OpSteps (i + 1) os
end

theorem OpSteps.get {P : Program} {Q : Exit → Act → World → Prop} {all : List Oper} {a0 : Act} {Inv : (Nat → Prop) → (Nat → Value) → World → Prop} : ∀ {os : List Oper} {i k : Nat} {o : Oper}, OpSteps P Q all a0 Inv i os → os[k]? = some o → OpStep P Q all a0 Inv (i + k) o
  | [], _, _, _, _, h => by simp at h
  | p :: os, i, 0, o, hs, h => by
    have e : p = o := by simpa using h
    subst e
    exact hs.1
  | p :: os, i, k + 1, o, hs, h => by
    have h' : os[k]? = some o := by simpa using h
    have := OpSteps.get hs.2 h'
    rwa [show i + 1 + k = i + (k + 1) by omega] at this

theorem OpSteps.nil {P : Program} {Q : Exit → Act → World → Prop} {all : List Oper} {a0 : Act} {Inv : (Nat → Prop) → (Nat → Value) → World → Prop} {i : Nat} : OpSteps P Q all a0 Inv i [] := trivial
theorem OpSteps.cons {P : Program} {Q : Exit → Act → World → Prop} {all : List Oper} {a0 : Act} {Inv : (Nat → Prop) → (Nat → Value) → World → Prop} {i : Nat} {o : Oper} {os : List Oper} (h : OpStep P Q all a0 Inv i o) (hs : OpSteps P Q all a0 Inv (i + 1) os) : OpSteps P Q all a0 Inv i (o :: os) := ⟨h, hs⟩

/-- What is kept: of another operation, of this one. -/
theorem fact_old {d : Nat → Prop} {τ : Nat → Value} {w w' : World} {v : Value} {i j : Nat} {F : Value → World → Prop} (hne : j ≠ i) (h : d j → F (τ j) w) (k : F (τ j) w → F (τ j) w') : (j = i ∨ d j) → F (updOp τ i v j) w' := fun hh => by
  rw [updOp_ne τ v hne]
  exact k (h (hh.resolve_left hne))
theorem fact_new {d : Nat → Prop} {τ : Nat → Value} {w' : World} {v : Value} {i : Nat} {F : Value → World → Prop} (h : F v w') : (i = i ∨ d i) → F (updOp τ i v i) w' := fun _ => by
  rw [updOp_at]
  exact h

/-- Each operation waits for earlier ones alone. -/
def topoOps : Nat → List Oper → Bool
  | _, [] => true
  | i, o :: os => o.after.all (fun e => !Region.binds .any e || decide (e.on < i)) && topoOps (i + 1) os

theorem topoOps.get : ∀ {os : List Oper} {i k : Nat} {o : Oper}, topoOps i os = true → os[k]? = some o → ∀ e ∈ o.after, Region.binds .any e = true → e.on < i + k
  | [], _, _, _, _, h => by simp at h
  | p :: os, i, 0, o, ht, h => by
    have e : p = o := by simpa using h
    subst e
    simp only [topoOps, Bool.and_eq_true, Array.all_eq_true_iff_forall_mem, Bool.or_eq_true, Bool.not_eq_true', decide_eq_true_eq] at ht
    intro e he hb
    rcases ht.1 e he with h | h
    · rw [hb] at h; cases h
    · exact h
  | p :: os, i, k + 1, o, ht, h => by
    have h' : os[k]? = some o := by simpa using h
    simp only [topoOps, Bool.and_eq_true] at ht
    have := topoOps.get ht.2 h'
    intro e he hb
    have := this e he hb
    omega

theorem all_listed {os : List Oper} (ht : topoOps 0 os = true) {l : Array Bool} (hl : l.size = os.length) (hr : Region.ready .any os.toArray l = []) : ∀ j, j < os.length → l.getD j false = true := by
  intro j
  induction j using Nat.strongRecOn with
  | ind j ih =>
    intro hj
    have hlj : j < l.size := by omega
    by_cases h : l.getD j false = true
    · exact h
    · exfalso
      obtain ⟨o, ho⟩ : ∃ o, os[j]? = some o := ⟨os[j], by simp [hj]⟩
      have hm : j ∈ Region.ready .any os.toArray l := mem_ready.2 ⟨by
        have : l.getD j false = false := by simpa using h
        simpa [Array.getD, hlj] using this, o, by simpa using ho, fun e he hb => ih e.on (by have := topoOps.get ht ho e he hb; omega) (by have := topoOps.get ht ho e he hb; omega)⟩
      rw [hr] at hm
      cases hm

theorem wpAny_inv {P : Program} {Q : Exit → Act → World → Prop} {os : List Oper} {a0 : Act} {Inv : (Nat → Prop) → (Nat → Value) → World → Prop}
    (hn : (os.filterMap (·.dst)).Nodup) (ht : topoOps 0 os = true) (hs : OpSteps P Q os a0 Inv 0 os)
    (hd : ∀ d τ w, (∀ j, j < os.length → d j) → Inv d τ w → Q .normal (putAll a0 τ 0 os) w) :
    ∀ (fuel : Nat) (l : Array Bool) (τ : Nat → Value) (w : World), l.size = os.length → (List.range os.length).countP (fun i => !l.getD i true) ≤ fuel → Inv (fun j => l.getD j false = true) τ w →
      wpAny P .any os.toArray Q fuel l (putAll a0 τ 0 os) w := by
  intro fuel
  induction fuel with
  | zero =>
    intro l τ w hl hc hI
    have hr : Region.ready .any os.toArray l = [] := by
      rw [List.eq_nil_iff_forall_not_mem]
      intro j hj
      obtain ⟨h1, o, ho, _⟩ := mem_ready.1 hj
      have hj' : j < os.length := by
        have := (Array.getElem?_eq_some_iff.1 ho).1
        simpa using this
      have hp : 0 < (List.range os.length).countP (fun i => !l.getD i true) := List.countP_pos_iff.2 ⟨j, List.mem_range.2 hj', by simp only [h1]; rfl⟩
      omega
    exact ⟨hr, hd _ τ w (all_listed ht hl hr) hI⟩
  | succ fuel ih =>
    intro l τ w hl hc hI
    refine ⟨fun hr => hd _ τ w (all_listed ht hl hr) hI, fun i hi => ?_⟩
    obtain ⟨h1, o, ho, haft⟩ := mem_ready.1 hi
    have hi' : i < os.length := by
      have := (Array.getElem?_eq_some_iff.1 ho).1
      simpa using this
    have ho' : os[i]? = some o := by simpa using ho
    have hst := OpSteps.get hs ho'
    rw [Nat.zero_add] at hst
    refine wpOp_step ho (fun K hK => hst _ τ w haft (fun hc => by
      have hlt : i < l.size := by omega
      simp [Array.getD, hlt] at h1 hc
      rw [h1] at hc
      cases hc) hI K (fun v w' hI' => hK _ _ ?_))
    rw [putAll_upd τ v os a0 0 i o hn ho', Nat.zero_add]
    have hset : (fun j => (l.setIfInBounds i true).getD j false = true) = (fun j => j = i ∨ l.getD j false = true) := by
      funext j
      apply propext
      by_cases hij : i = j
      · subst hij
        have : i < l.size := by omega
        simp [Array.getD, this]
      · rw [getD_set_ne false hij]
        constructor
        · exact Or.inr
        · rintro (h | h)
          · exact absurd h.symm hij
          · exact h
    refine ih (l.setIfInBounds i true) (updOp τ i v) w' (by simpa using hl) ?_ (by rw [hset]; exact hI')
    have hlt : (List.range os.length).countP (fun j => !(l.setIfInBounds i true).getD j true) < (List.range os.length).countP (fun j => !l.getD j true) := by
      have hsplit := List.mem_range.2 hi'
      obtain ⟨s, t, e⟩ := List.append_of_mem hsplit
      have hnd : (List.range os.length).Nodup := List.nodup_range
      rw [e] at hnd ⊢
      have hmono : ∀ (u : List Nat), i ∉ u → u.countP (fun j => !(l.setIfInBounds i true).getD j true) = u.countP (fun j => !l.getD j true) := by
        intro u hu
        apply List.countP_congr
        intro x hx
        have hne : i ≠ x := fun q => hu (q ▸ hx)
        rw [getD_set_ne true hne]
      have hsn : i ∉ s := fun h => by
        have := List.nodup_append.1 hnd
        exact this.2.2 i h i List.mem_cons_self rfl
      have htn : i ∉ t := (List.nodup_cons.1 (List.nodup_append.1 hnd).2.1).1
      rw [List.countP_append, List.countP_append, hmono s hsn, List.countP_cons, List.countP_cons, hmono t htn]
      have h2 : (l.setIfInBounds i true).getD i true = true := by
        have : i < l.size := by omega
        simp [Array.getD, this]
      rw [h2, h1]
      simp
    omega

/-- A region that draws its order, by an invariant. -/
theorem region_inv {P : Program} {Q : Exit → Act → World → Prop} {os : List Oper} {a0 : Act} {w0 : World} {id : Nat} (Inv : (Nat → Prop) → (Nat → Value) → World → Prop)
    (hm : P.follows .mixedOrders = true) (hn : (os.filterMap (·.dst)).Nodup) (ht : topoOps 0 os = true)
    (h0 : ∀ τ, Inv (fun _ => False) τ w0.drew) (hs : OpSteps P Q os a0 Inv 0 os)
    (hd : ∀ d τ w, (∀ j, j < os.length → d j) → Inv d τ w → Q .normal (putAll a0 τ 0 os) w) :
    (Code.region id os.toArray true).wp P Q a0 w0 := by
  refine wp_region_any hm ?_
  have := wpAny_inv hn ht hs hd os.length (Array.replicate os.length false) (beforeOps a0 os) w0.drew (by simp) (by
    have := List.countP_le_length (p := fun i => !(Array.replicate os.length false).getD i true) (l := List.range os.length)
    simpa using this) (by
    have e : (fun j => (Array.replicate os.length false).getD j false = true) = (fun _ : Nat => False) := by
      funext j
      apply propext
      by_cases h : j < os.length <;> simp [Array.getD, h]
    rw [e]
    exact h0 _)
  rw [putAll_before a0 os os 0 (fun k => by rw [Nat.zero_add])] at this
  rw [show os.toArray.size = os.length by simp]
  exact this
end Cx
/- Boxes of points that a region makes, in whatever order. -/
namespace Go.Proofs.YtpalknbmejachaaGreatDoor
open Go.RowKit Cx

/-- A pointer to a block that is there, made behind the world W. -/
def Pb (W : World) (v : Value) (w : World) : Prop := ∃ G, v = .pointer (some ⟨G, 0, none⟩) ∧ W.heap.size ≤ G ∧ G < w.heap.size
/-- A pointer to a box of nothing yet. -/
def Zb (W : World) (v : Value) (w : World) : Prop := ∃ G, v = .pointer (some ⟨G, 0, none⟩) ∧ W.heap.size ≤ G ∧ Blk w G #[.pointer none, .pointer none] 30
/-- A pointer to a box of the point (x, y). -/
def Vb (W : World) (x y : Rat) (v : Value) (w : World) : Prop := ∃ G p q, v = .pointer (some ⟨G, 0, none⟩) ∧ W.heap.size ≤ G ∧ Blk w G #[p, q] 30 ∧ PR w p x ∧ PR w q y
/-- The value is X. -/
def Is (X : Value) (v : Value) (_ : World) : Prop := v = X
/-- The value is the point (x, y). -/
def Vv (x y : Rat) (v : Value) (w : World) : Prop := VV w v x y

theorem Pb.below {W w w' : World} {v : Value} (h : Pb W v w) (hb : Below w.heap.size w w') : Pb W v w' := by
  obtain ⟨G, e, h1, h2⟩ := h
  exact ⟨G, e, h1, Nat.lt_of_lt_of_le h2 hb.size⟩
theorem Zb.below {W w w' : World} {v : Value} (h : Zb W v w) (hb : Below w.heap.size w w') : Zb W v w' := by
  obtain ⟨G, e, h1, h2⟩ := h
  exact ⟨G, e, h1, h2.below hb h2.lt⟩
theorem Vb.below {W w w' : World} {x y : Rat} {v : Value} (h : Vb W x y v w) (hb : Below w.heap.size w w') : Vb W x y v w' := by
  obtain ⟨G, p, q, e, h1, h2, h3, h4⟩ := h
  exact ⟨G, p, q, e, h1, h2.below hb h2.lt, h3.below hb, h4.below hb⟩
theorem Vv.below {w w' : World} {x y : Rat} {v : Value} (h : Vv x y v w) (hb : Below w.heap.size w w') : Vv x y v w' := VV.below h hb
theorem Is.below {w w' : World} {X v : Value} (h : Is X v w) (_ : Below w.heap.size w w') : Is X v w' := h

theorem PR.put {w : World} {G : Nat} {v a b : Value} {x : Rat} (h : PR w v x) (hz : Blk w G #[.pointer none, .pointer none] 30) : PR ((w.setCell ⟨G, 0, none⟩ a).setCell ⟨G, 1, none⟩ b) v x := by
  obtain ⟨g, e, h⟩ := h
  exact ⟨g, e, h.put2 hz rfl rfl a b⟩
theorem Is.put {w : World} {G : Nat} {X v a b : Value} (h : Is X v w) : Is X v ((w.setCell ⟨G, 0, none⟩ a).setCell ⟨G, 1, none⟩ b) := h
theorem Vv.put {w : World} {G : Nat} {v a b : Value} {x y : Rat} (h : Vv x y v w) (hz : Blk w G #[.pointer none, .pointer none] 30) : Vv x y v ((w.setCell ⟨G, 0, none⟩ a).setCell ⟨G, 1, none⟩ b) := by
  obtain ⟨p, q, e, h1, h2⟩ := h
  exact ⟨p, q, e, h1.put hz, h2.put hz⟩
theorem Pb.put {W w : World} {G : Nat} {v a b : Value} (h : Pb W v w) : Pb W v ((w.setCell ⟨G, 0, none⟩ a).setCell ⟨G, 1, none⟩ b) := by
  obtain ⟨G', e, h1, h2⟩ := h
  exact ⟨G', e, h1, by simpa [World.setCell] using h2⟩
theorem ptr_ne {G G' : Nat} (h : ¬ ((.pointer (some ⟨G, 0, none⟩) : Value) = .pointer (some ⟨G', 0, none⟩))) : G' ≠ G := fun e => h (by rw [e])
theorem Zb.put {W w : World} {G : Nat} {v a b : Value} (h : Zb W v w) (hne : ¬ (.pointer (some ⟨G, 0, none⟩) = v)) : Zb W v ((w.setCell ⟨G, 0, none⟩ a).setCell ⟨G, 1, none⟩ b) := by
  obtain ⟨G', rfl, h1, h2⟩ := h
  exact ⟨G', rfl, h1, h2.off2 (Ne.symm (ptr_ne hne)) a b⟩
theorem Vb.put {W w : World} {G : Nat} {x y : Rat} {v a b : Value} (h : Vb W x y v w) (hz : Blk w G #[.pointer none, .pointer none] 30) (hne : ¬ (.pointer (some ⟨G, 0, none⟩) = v)) : Vb W x y v ((w.setCell ⟨G, 0, none⟩ a).setCell ⟨G, 1, none⟩ b) := by
  obtain ⟨G', p, q, rfl, h1, h2, h3, h4⟩ := h
  exact ⟨G', p, q, rfl, h1, h2.off2 (Ne.symm (ptr_ne hne)) a b, h3.put hz, h4.put hz⟩
theorem Vb.mk {W w : World} {G : Nat} {x y : Rat} {a b : Value} (hG : W.heap.size ≤ G) (hz : Blk w G #[.pointer none, .pointer none] 30) (ha : PR w a x) (hb : PR w b y) : Vb W x y (.pointer (some ⟨G, 0, none⟩)) ((w.setCell ⟨G, 0, none⟩ a).setCell ⟨G, 1, none⟩ b) :=
  ⟨G, a, b, rfl, hG, hz.put2 a b, ha.put hz, hb.put hz⟩
theorem Zb.new {W w : World} (h : Below W.heap.size W w) : Zb W (.pointer (some ⟨w.heap.size, 0, none⟩)) (w.alloc (.cells #[.pointer none, .pointer none] 30)) := ⟨_, rfl, h.size, Blk.new _ _ _⟩
theorem Pb.new {W w : World} {o : Obj} (h : Below W.heap.size W w) : Pb W (.pointer (some ⟨w.heap.size, 0, none⟩)) (w.alloc o) := ⟨_, rfl, h.size, by simp⟩

theorem Zb.use {W w : World} {v : Value} {Goal : Prop} (h : Zb W v w) (k : ∀ G, v = .pointer (some ⟨G, 0, none⟩) → W.heap.size ≤ G → Blk w G #[.pointer none, .pointer none] 30 → Goal) : Goal := by
  obtain ⟨G, e, h1, h2⟩ := h
  exact k G e h1 h2
theorem Vb.use {W w : World} {x y : Rat} {v : Value} {Goal : Prop} (h : Vb W x y v w) (k : ∀ G p q, v = .pointer (some ⟨G, 0, none⟩) → W.heap.size ≤ G → Blk w G #[p, q] 30 → PR w p x → PR w q y → Goal) : Goal := by
  obtain ⟨G, p, q, e, h1, h2, h3, h4⟩ := h
  exact k G p q e h1 h2 h3 h4
theorem Vv.use {w : World} {x y : Rat} {v : Value} {Goal : Prop} (h : Vv x y v w) (k : ∀ p q, v = .agg #[p, q] → PR w p x → PR w q y → Goal) : Goal := by
  obtain ⟨p, q, e, h1, h2⟩ := h
  exact k p q e h1 h2

theorem fact_absurd {d : Nat → Prop} {τ : Nat → Value} {w' : World} {v : Value} {i s : Nat} {F : Value → World → Prop} (hs : s ≠ i) (h : d s → d i) (hn : ¬ d i) : (s = i ∨ d s) → F (updOp τ i v i) w' := fun q => absurd (h (q.resolve_left hs)) hn
theorem imp_old {d : Nat → Prop} {i j s : Nat} (hs : s ≠ i) (h : d s → d j) : (s = i ∨ d s) → (j = i ∨ d j) := fun q => Or.inr (h (q.resolve_left hs))
theorem fact_two {d : Nat → Prop} {τ : Nat → Value} {w w' : World} {v : Value} {i j s : Nat} {F : Value → World → Prop} (hs : s ≠ i) (hne : j ≠ i) (h : d s → F (τ j) w) (k : F (τ j) w → F (τ j) w') : (s = i ∨ d s) → F (updOp τ i v j) w' := fun hh => by
  rw [updOp_ne τ v hne]
  exact k (h (hh.resolve_left hs))
theorem fact_did {d : Nat → Prop} {τ : Nat → Value} {w' : World} {v : Value} {i j : Nat} {F : Value → World → Prop} (hne : j ≠ i) (h : F (τ j) w') : (i = i ∨ d i) → F (updOp τ i v j) w' := fun _ => by
  rw [updOp_ne τ v hne]
  exact h
theorem fact_zero {d : Nat → Prop} {τ : Nat → Value} {w w' : World} {v : Value} {i j s : Nat} {F : Value → World → Prop} (hne : j ≠ i) (h : d j → ¬ d s → F (τ j) w) (k : F (τ j) w → F (τ j) w') : (j = i ∨ d j) → ¬ (s = i ∨ d s) → F (updOp τ i v j) w' := fun hh hs => by
  rw [updOp_ne τ v hne]
  exact k (h (hh.resolve_left hne) (fun q => hs (Or.inr q)))
theorem fact_zero_new {d : Nat → Prop} {τ : Nat → Value} {w' : World} {v : Value} {i s : Nat} {F : Value → World → Prop} (h : F v w') : (i = i ∨ d i) → ¬ (s = i ∨ d s) → F (updOp τ i v i) w' := fun _ _ => by
  rw [updOp_at]
  exact h
theorem fact_zero_did {d : Nat → Prop} {τ : Nat → Value} {w' : World} {v : Value} {i j : Nat} {F : Value → World → Prop} : (j = i ∨ d j) → ¬ (i = i ∨ d i) → F (updOp τ i v j) w' := fun _ h => absurd (Or.inl rfl) h
theorem ne_old {d : Nat → Prop} {τ : Nat → Value} {v : Value} {i j s : Nat} (hj : j ≠ i) (hs : s ≠ i) (h : d j → d s → ¬ τ j = τ s) : (j = i ∨ d j) → (s = i ∨ d s) → ¬ updOp τ i v j = updOp τ i v s := fun a b => by
  rw [updOp_ne τ v hj, updOp_ne τ v hs]
  exact h (a.resolve_left hj) (b.resolve_left hs)
theorem ne_new {d : Nat → Prop} {τ : Nat → Value} {W w : World} {i s : Nat} (hs : s ≠ i) (h : d s → Pb W (τ s) w) : (i = i ∨ d i) → (s = i ∨ d s) → ¬ updOp τ i (.pointer (some ⟨w.heap.size, 0, none⟩)) i = updOp τ i (.pointer (some ⟨w.heap.size, 0, none⟩)) s := fun _ b e => by
  rw [updOp_at, updOp_ne τ _ hs] at e
  obtain ⟨G, e', _, hlt⟩ := h (b.resolve_left hs)
  rw [e'] at e
  simp at e
  all_goals omega
theorem ne_new' {d : Nat → Prop} {τ : Nat → Value} {W w : World} {i s : Nat} (hs : s ≠ i) (h : d s → Pb W (τ s) w) : (s = i ∨ d s) → (i = i ∨ d i) → ¬ updOp τ i (.pointer (some ⟨w.heap.size, 0, none⟩)) s = updOp τ i (.pointer (some ⟨w.heap.size, 0, none⟩)) i := fun b a e => ne_new hs h a b e.symm
end Go.Proofs.YtpalknbmejachaaGreatDoor
/- Boxes of texts that a region makes, in whatever order. -/
namespace Go.Proofs.YtpalknbmejachaaGreatDoor
open Go.RowKit Cx

/-- A pointer to a box of two empty texts; of the cells c0 and c1. -/
def Zs (W : World) (v : Value) (w : World) : Prop := ∃ G, v = .pointer (some ⟨G, 0, none⟩) ∧ W.heap.size ≤ G ∧ Blk w G #[.string ⟨#[]⟩, .string ⟨#[]⟩] 24
def Sb (W : World) (c0 c1 : Value) (v : Value) (w : World) : Prop := ∃ G, v = .pointer (some ⟨G, 0, none⟩) ∧ W.heap.size ≤ G ∧ Blk w G #[c0, c1] 24
/-- The value is a pointer to the ratio q. -/
def Rr (q : Rat) (v : Value) (w : World) : Prop := PR w v q
theorem Rr.below {w w' : World} {q : Rat} {v : Value} (h : Rr q v w) (hb : Below w.heap.size w w') : Rr q v w' := PR.below h hb
theorem Zs.below {W w w' : World} {v : Value} (h : Zs W v w) (hb : Below w.heap.size w w') : Zs W v w' := by
  obtain ⟨G, e, h1, h2⟩ := h
  exact ⟨G, e, h1, h2.below hb h2.lt⟩
theorem Sb.below {W w w' : World} {c0 c1 v : Value} (h : Sb W c0 c1 v w) (hb : Below w.heap.size w w') : Sb W c0 c1 v w' := by
  obtain ⟨G, e, h1, h2⟩ := h
  exact ⟨G, e, h1, h2.below hb h2.lt⟩
theorem Rr.put {w : World} {G : Nat} {v a b : Value} {q : Rat} (h : Rr q v w) (hz : Blk w G #[.pointer none, .pointer none] 30) : Rr q v ((w.setCell ⟨G, 0, none⟩ a).setCell ⟨G, 1, none⟩ b) := PR.put h hz
theorem PR.putS {w : World} {G : Nat} {v a b : Value} {x : Rat} (h : PR w v x) (hz : Blk w G #[.string ⟨#[]⟩, .string ⟨#[]⟩] 24) : PR ((w.setCell ⟨G, 0, none⟩ a).setCell ⟨G, 1, none⟩ b) v x := by
  obtain ⟨g, e, h⟩ := h
  exact ⟨g, e, h.put2 hz rfl rfl a b⟩
theorem Rr.putS {w : World} {G : Nat} {v a b : Value} {q : Rat} (h : Rr q v w) (hz : Blk w G #[.string ⟨#[]⟩, .string ⟨#[]⟩] 24) : Rr q v ((w.setCell ⟨G, 0, none⟩ a).setCell ⟨G, 1, none⟩ b) := PR.putS h hz
theorem Vv.putS {w : World} {G : Nat} {v a b : Value} {x y : Rat} (h : Vv x y v w) (hz : Blk w G #[.string ⟨#[]⟩, .string ⟨#[]⟩] 24) : Vv x y v ((w.setCell ⟨G, 0, none⟩ a).setCell ⟨G, 1, none⟩ b) := by
  obtain ⟨p, q, e, h1, h2⟩ := h
  exact ⟨p, q, e, h1.putS hz, h2.putS hz⟩
theorem Vb.putS {W w : World} {G : Nat} {x y : Rat} {v a b : Value} (h : Vb W x y v w) (hz : Blk w G #[.string ⟨#[]⟩, .string ⟨#[]⟩] 24) (hne : ¬ (.pointer (some ⟨G, 0, none⟩) = v)) : Vb W x y v ((w.setCell ⟨G, 0, none⟩ a).setCell ⟨G, 1, none⟩ b) := by
  obtain ⟨G', p, q, rfl, h1, h2, h3, h4⟩ := h
  exact ⟨G', p, q, rfl, h1, h2.off2 (Ne.symm (ptr_ne hne)) a b, h3.putS hz, h4.putS hz⟩
theorem Zs.put {W w : World} {G : Nat} {v a b : Value} (h : Zs W v w) (hne : ¬ (.pointer (some ⟨G, 0, none⟩) = v)) : Zs W v ((w.setCell ⟨G, 0, none⟩ a).setCell ⟨G, 1, none⟩ b) := by
  obtain ⟨G', rfl, h1, h2⟩ := h
  exact ⟨G', rfl, h1, h2.off2 (Ne.symm (ptr_ne hne)) a b⟩
theorem Sb.put {W w : World} {G : Nat} {c0 c1 v a b : Value} (h : Sb W c0 c1 v w) (hne : ¬ (.pointer (some ⟨G, 0, none⟩) = v)) : Sb W c0 c1 v ((w.setCell ⟨G, 0, none⟩ a).setCell ⟨G, 1, none⟩ b) := by
  obtain ⟨G', rfl, h1, h2⟩ := h
  exact ⟨G', rfl, h1, h2.off2 (Ne.symm (ptr_ne hne)) a b⟩
theorem Sb.mk {W w : World} {G : Nat} {a b : Value} (hG : W.heap.size ≤ G) (hz : Blk w G #[.string ⟨#[]⟩, .string ⟨#[]⟩] 24) : Sb W a b (.pointer (some ⟨G, 0, none⟩)) ((w.setCell ⟨G, 0, none⟩ a).setCell ⟨G, 1, none⟩ b) := ⟨G, rfl, hG, hz.put2 a b⟩
theorem Zs.new {W w : World} (h : Below W.heap.size W w) : Zs W (.pointer (some ⟨w.heap.size, 0, none⟩)) (w.alloc (.cells #[.string ⟨#[]⟩, .string ⟨#[]⟩] 24)) := ⟨_, rfl, h.size, Blk.new _ _ _⟩
theorem Sb.use {W w : World} {c0 c1 v : Value} {Goal : Prop} (h : Sb W c0 c1 v w) (k : ∀ G, v = .pointer (some ⟨G, 0, none⟩) → W.heap.size ≤ G → Blk w G #[c0, c1] 24 → Goal) : Goal := by
  obtain ⟨G, e, h1, h2⟩ := h
  exact k G e h1 h2
theorem bel_put2 {a w : World} {G : Nat} (h : Below a.heap.size a w) (hG : a.heap.size ≤ G) (x0 x1 : Value) : Below a.heap.size a ((w.setCell ⟨G, 0, none⟩ x0).setCell ⟨G, 1, none⟩ x1) := Below.put2 h hG x0 x1
theorem pr_new {w : World} {v : Value} {q : Rat} (o : Obj) (h : PR w v q) : PR (w.alloc o) v q := h.below (below_new _ _)
theorem pr_drew {w : World} {v : Value} {q : Rat} (h : PR w v q) : PR w.drew v q := h.below (Below.drew (Below.refl _ _))
theorem pr_bel {w w' : World} {v : Value} {q : Rat} (hb : Below w.heap.size w w') (h : PR w v q) : PR w' v q := h.below hb

end Go.Proofs.YtpalknbmejachaaGreatDoor
/- Walks of package compassbig: Quo of ratios, by what is above 0; of compassref: Quo. -/
namespace Go.Proofs.YtpalknbmejachaaGreatDoor
open Go.RowKit Cx

attribute [local go_sem ↓] Go.wp_at_zero Go.wp_at_succ

theorem quo_mk (x y : Rat) (n : Nat) (hy : y.num = (n : Int)) : x / y = mkRat (x.num * (y.den : Int)) (x.den * n) := by
  have e : y⁻¹ = mkRat (y.den : Int) n := by
    rw [Rat.inv_def, hy]
    rfl
  rw [Rat.div_def, e]
  conv => lhs; rw [← Rat.mkRat_self x]
  exact Rat.mkRat_mul_mkRat ..

set_option maxHeartbeats 16000000 in
set_option maxRecDepth 100000 in
theorem ratQuo_calls {w : World} {g gx gy : Nat} {y0 y1 y2 y3 : Value} {x y : Rat} {k l : Nat} (hk : Blk w g #[y0, y1, y2, y3] 90) (hno : (#[y0, y1, y2, y3] : Array Value).all notLimb = true) (hx : RV w gx x) (hy : RV w gy y) (fx : QS k x) (fy : QS l y) (hkl : k + l + 1 ≤ 35184372088640) {n : Nat} (hyn : y.num = (n : Int)) (hn : 0 < n) :
    Calls Tryz.prog 71 #[.pointer (some ⟨g, 0, none⟩), .pointer (some ⟨gx, 0, none⟩), .pointer (some ⟨gy, 0, none⟩)] w fun e w' => e = .returned (.pointer (some ⟨g, 0, none⟩)) ∧ Save g w w' ∧ RV w' g (x / y) := by
  have LX := hideIt2 hx.lt
  have LY := hideIt2 hy.lt
  have LG := hideIt2 hk.lt
  have HX := hideIt2 hx
  have HY := hideIt2 hy
  have HK := hideIt2 hk
  have SX := hideIt2 (small_num fx (by omega))
  have SY := hideIt2 (small_num fy (by omega))
  have DX := hideIt2 (small_den fx (by omega))
  have DY := hideIt2 (small_den fy (by omega))
  have SXY := hideIt2 (small_cross fx fy hkl)
  have SD : Hid (Small (x.den * n)) := by
    show Small _
    have h1 := fy.num
    rw [hyn, Int.natAbs_natCast] at h1
    exact small_two (k := k + l) (by rw [Nat.pow_add]; exact Nat.mul_lt_mul_of_lt_of_lt fx.den h1) (by omega)
  have HQ := hideIt2 (quo_mk x y n hyn)
  have HD0 : Hid (0 < x.den * n) := Nat.mul_pos x.den_pos hn
  have HYN : Hid ((x.den : Int) * y.num = ((x.den * n : Nat) : Int)) := by show _ = _; rw [hyn, Int.natCast_mul]
  clear hx hy hk fx fy hyn
  go_enter Tryz.func71, Tryz.ntmps71
  go_wp2_with fail
  go_region_held3 (fun _ => True) (trivial)
    (first
      | (go_at_call_of 75 (Value.pointer (some { block := gy, off := 0 })); refine (den_calls (HY.out.below (by repeat' first | with_reducible exact Below.refl _ _ | with_reducible refine Below.new ?_ _ | with_reducible refine Below.drew ?_))).mono ?_; rintro e w1 ⟨hb1, p1, rfl, hv1, hap1⟩; have hbl1 : Below w.heap.size w w1 := bel_bel (by repeat' first | with_reducible exact Below.refl _ _ | with_reducible refine Below.new ?_ _ | with_reducible refine Below.drew ?_) hb1)
      | (go_at_call_of 77 (Value.pointer (some { block := gx, off := 0 })); have q0 := LX.out; have q00 := LY.out; have e1 := hb1.size; have d1 := hbl1.size; (try simp at e1); refine (intMul_new (by repeat' first | ((with_reducible refine blk_at ?_); (first | with_reducible rfl | (simp; done))) | with_reducible exact Blk.new _ _ _ | with_reducible refine blk_old _ ?_ | with_reducible refine blk_drew ?_ | with_reducible refine blk_bel hb1 ?_ | (first | omega | (simp; done) | (simp; omega))) (RV.num (HX.out.below (by repeat' first | with_reducible exact hbl1 | with_reducible exact Below.refl _ _ | with_reducible refine Below.new ?_ _ | with_reducible refine Below.drew ?_))) (show IV _ p1 (y.den : Int) from (by repeat' first | with_reducible exact hv1 | with_reducible refine iv_new _ ?_ | with_reducible refine iv_drew ?_)) (apart_ne (by (first | omega | (simp; done) | (simp; omega)))) (by first | (refine hv1.apart ?_; (first | omega | (simp; done) | (simp; omega))) | (refine hap1 _ ?_ ?_ <;> (first | omega | (simp; done) | (simp; omega)))) SX.out DY.out).mono ?_; clear q0 q00 e1 d1; rintro e w2 ⟨rfl, hs2, ho2, hh2⟩; have hbl2 : Below w.heap.size w w2 := bel_sav (by repeat' first | with_reducible exact hbl1 | with_reducible exact Below.refl _ _ | with_reducible refine Below.new ?_ _ | with_reducible refine Below.drew ?_) hs2 (by have d1 := hbl1.size; (first | omega | (simp; done) | (simp; omega))))
      | (go_at_call_of 75 (Value.pointer (some { block := gx, off := 0 })); refine (den_calls (HX.out.below (by repeat' first | with_reducible exact hbl2 | with_reducible exact hbl1 | with_reducible exact Below.refl _ _ | with_reducible refine Below.new ?_ _ | with_reducible refine Below.drew ?_))).mono ?_; rintro e w3 ⟨hb3, p3, rfl, hv3, hap3⟩; have hbl3 : Below w.heap.size w w3 := bel_bel (by repeat' first | with_reducible exact hbl2 | with_reducible exact hbl1 | with_reducible exact Below.refl _ _ | with_reducible refine Below.new ?_ _ | with_reducible refine Below.drew ?_) hb3)
      | (go_at_call_of 77 (Value.pointer (some { block := gy, off := 0 })); have q0 := LX.out; have q00 := LY.out; have e1 := hb1.size; have d1 := hbl1.size; (try simp at e1); have e2 := hs2.size; have d2 := hbl2.size; (try simp at e2); have e3 := hb3.size; have d3 := hbl3.size; (try simp at e3); have o2 := ho2.lt; refine (intMul_new (by repeat' first | ((with_reducible refine blk_at ?_); (first | with_reducible rfl | (simp; done))) | with_reducible exact Blk.new _ _ _ | with_reducible refine blk_old _ ?_ | with_reducible refine blk_drew ?_ | with_reducible refine blk_bel hb3 ?_ | with_reducible refine blk_sav hs2 ?_ ?_ | with_reducible refine blk_bel hb1 ?_ | (first | omega | (simp; done) | (simp; omega))) (show IV _ p3 (x.den : Int) from (by repeat' first | with_reducible exact hv3 | with_reducible refine iv_new _ ?_ | with_reducible refine iv_drew ?_)) (RV.num (HY.out.below (by repeat' first | with_reducible exact hbl3 | with_reducible exact hbl2 | with_reducible exact hbl1 | with_reducible exact Below.refl _ _ | with_reducible refine Below.new ?_ _ | with_reducible refine Below.drew ?_))) (by first | (refine hv3.apart ?_; (first | omega | (simp; done) | (simp; omega))) | (refine hap3 _ ?_ ?_ <;> (first | omega | (simp; done) | (simp; omega)))) (apart_ne (by (first | omega | (simp; done) | (simp; omega)))) DX.out SY.out).mono ?_; clear q0 q00 e1 d1 e2 d2 e3 d3 o2; rintro e w4 ⟨rfl, hs4, ho4, hh4⟩; rw [HYN.out] at ho4; have hbl4 : Below w.heap.size w w4 := bel_sav (by repeat' first | with_reducible exact hbl3 | with_reducible exact hbl2 | with_reducible exact hbl1 | with_reducible exact Below.refl _ _ | with_reducible refine Below.new ?_ _ | with_reducible refine Below.drew ?_) hs4 (by have d1 := hbl1.size; have d2 := hbl2.size; have d3 := hbl3.size; (first | omega | (simp; done) | (simp; omega))))
      | (go_at_call 59; have q0 := LX.out; have q00 := LY.out; have e1 := hb1.size; have d1 := hbl1.size; (try simp at e1); have e2 := hs2.size; have d2 := hbl2.size; (try simp at e2); have e3 := hb3.size; have d3 := hbl3.size; (try simp at e3); have e4 := hs4.size; have d4 := hbl4.size; (try simp at e4); have o2 := ho2.lt; have o4 := ho4.lt; refine (setFrac_walk (z := x.num * (y.den : Int)) (b := x.den * n) (HK.out.below (by repeat' first | with_reducible exact hbl4 | with_reducible exact hbl3 | with_reducible exact hbl2 | with_reducible exact hbl1 | with_reducible exact Below.refl _ _ | with_reducible refine Below.new ?_ _ | with_reducible refine Below.drew ?_) LG.out) hno (Own2.iv (by repeat' first | with_reducible exact ho2 | with_reducible refine own_new _ ?_ | with_reducible refine own_drew ?_ | with_reducible refine own_sav hs4 hh4 ?_ ?_ | with_reducible refine own_bel hb3 ?_ | (first | omega | (simp; done) | (simp; omega)))) (Own2.iv (by repeat' first | with_reducible exact ho4 | with_reducible refine own_new _ ?_ | with_reducible refine own_drew ?_ | (first | omega | (simp; done) | (simp; omega)))) HD0.out SXY.out SD.out).mono ?_; clear q0 q00 e1 d1 e2 d2 e3 d3 e4 d4 o2 o4; rintro e w5 ⟨rfl, hs5, hr5⟩; have hbk : Below w.heap.size w _ := (by repeat' first | with_reducible exact hbl4 | with_reducible exact hbl3 | with_reducible exact hbl2 | with_reducible exact hbl1 | with_reducible exact Below.refl _ _ | with_reducible refine Below.new ?_ _ | with_reducible refine Below.drew ?_); have hsv5 := (Save.of (g := g) hbk).trans hs5)
      )
  all_goals
    go_wp2
    go_ret
    exact ⟨rfl, hsv5, by rw [HQ.out]; exact hr5⟩

/-- Quo: by what is above 0. -/
theorem refQuo_calls {w : World} {px py : Value} {x y : Rat} {k l : Nat} (hx : PR w px x) (hy : PR w py y) (fx : QS k x) (fy : QS l y) (hkl : k + l + 1 ≤ 35184372088640) {n : Nat} (hyn : y.num = (n : Int)) (hn : 0 < n) :
    Calls Tryz.prog 31 #[px, py] w fun e w' => Below w.heap.size w w' ∧ ∃ v, e = .returned v ∧ PR w' v (x / y) := by
  obtain ⟨gx, rfl, hx⟩ := hx
  obtain ⟨gy, rfl, hy⟩ := hy
  have HX := hideIt2 hx
  have HY := hideIt2 hy
  have HYN := hideIt2 hyn
  clear hx hy hyn
  go_enter Tryz.func31, Tryz.ntmps31
  go_wp2_with fail
  refine (ratQuo_calls (Blk.new w _ _) (by simp [notLimb]) (HX.out.below (below_new _ _)) (HY.out.below (below_new _ _)) fx fy hkl HYN.out hn).mono ?_
  rintro e w1 ⟨rfl, hs, hr⟩
  have H1 := hideIt2 (And.intro (bel_sav (below_new _ _) hs (Nat.le_refl _)) hr)
  clear hs hr
  go_wp2
  go_ret
  exact ⟨H1.out.1, _, rfl, _, rfl, H1.out.2⟩
end Go.Proofs.YtpalknbmejachaaGreatDoor
/- Walks of package compasslaw: PlaneFlags. -/
namespace Go.Proofs.YtpalknbmejachaaGreatDoor
open Go.RowKit Cx

attribute [local go_sem ↓] Go.wp_at_zero Go.wp_at_succ

theorem rrow4 {w : World} {b : Nat} {p q r s : Value} {x y z t : Rat} (hb : Blk w b #[p, q, r, s] 28) (hx : PR w p x) (hy : PR w q y) (hz : PR w r z) (ht : PR w s t) : RRow w (.slice (some ⟨b, 0, none⟩) 4 4) [x, y, z, t] := by
  refine ⟨b, 0, 4, rfl, hb.lt, fun j hj => ?_⟩
  match j, hj with
  | 0, _ => exact ⟨p, hb.cell 0, hx⟩
  | 1, _ => exact ⟨q, hb.cell 1, hy⟩
  | 2, _ => exact ⟨r, hb.cell 2, hz⟩
  | 3, _ => exact ⟨s, hb.cell 3, ht⟩
theorem rsum4 (a b c d : Rat) : rsum [a, b, c, d] = a + b + c + d := by simp [rsum, Rat.zero_add]
theorem all4 {K : Nat} {a b c d : Rat} (h1 : QS K a) (h2 : QS K b) (h3 : QS K c) (h4 : QS K d) : ∀ q ∈ [a, b, c, d], QS K q := by
  intro q hq
  simp only [List.mem_cons, List.not_mem_nil, or_false] at hq
  rcases hq with rfl | rfl | rfl | rfl <;> assumption

theorem flags1 (ax az bx bz cx cz dx dz : Rat) (hx : dx = ax + cx - bx) (hz : dz = az + cz - bz) :
    ((bx - ax) * (bx - ax) + (bz - az) * (bz - az)) + ((cx - bx) * (cx - bx) + (cz - bz) * (cz - bz)) + ((dx - cx) * (dx - cx) + (dz - cz) * (dz - cz)) + ((ax - dx) * (ax - dx) + (az - dz) * (az - dz)) = ((cx - ax) * (cx - ax) + (cz - az) * (cz - az)) + ((dx - bx) * (dx - bx) + (dz - bz) * (dz - bz)) := by
  subst hx hz
  grind
theorem flags2 (ax az bx bz cx cz dx dz px pz : Rat) (hx : dx = ax + cx - bx) (hz : dz = az + cz - bz) :
    (((ax - px) * (ax - px) + (az - pz) * (az - pz)) + ((cx - px) * (cx - px) + (cz - pz) * (cz - pz))) - (((bx - px) * (bx - px) + (bz - pz) * (bz - pz)) + ((dx - px) * (dx - px) + (dz - pz) * (dz - pz))) = (((cx - ax) * (cx - ax) + (cz - az) * (cz - az)) - ((dx - bx) * (dx - bx) + (dz - bz) * (dz - bz))) / ((2 : Nat) : Rat) := by
  have e : ((2 : Nat) : Rat) = 2 := rfl
  rw [e]
  subst hx hz
  grind

theorem txb_rd (q : Rat) : rd (⟨(tx q).toArray⟩ : ByteArray).data.toList = q := by
  show rd (tx q) = q
  exact rd_tx q
theorem txb_size {q : Rat} {k : Nat} (f : QS k q) : (⟨(tx q).toArray⟩ : ByteArray).size ≤ 2 * k + 4 := by
  have := tx_len f
  show (tx q).toArray.size ≤ _
  rw [List.size_toArray]
  exact this

set_option maxHeartbeats 4000000 in
set_option maxRecDepth 100000 in
/-- The distance that is answered, squared, as a ratio. -/
theorem farFl_calls {w : World} {px pz qx qz : ByteArray} (s1 : px.size ≤ 4294967280) (s2 : pz.size ≤ 4294967280) (s3 : qx.size ≤ 4294967280) (s4 : qz.size ≤ 4294967280) {k : Nat} (g1 : QS k (rd px.data.toList)) (g2 : QS k (rd pz.data.toList)) (g3 : QS k (rd qx.data.toList)) (g4 : QS k (rd qz.data.toList)) (hk : 16 * k + 16 ≤ 4294967280) (tab : Tab w) (mx : MaxL w) :
    Calls Tryz.prog 28 #[.agg #[.string px, .string pz], .agg #[.string qx, .string qz]] w fun e w' => Below w.heap.size w w' ∧ ∃ v, e = .returned v ∧ PR w' v ((rd qx.data.toList - rd px.data.toList) * (rd qx.data.toList - rd px.data.toList) + (rd qz.data.toList - rd pz.data.toList) * (rd qz.data.toList - rd pz.data.toList)) := by
  have FQ := hideIt2 (((g3.sub g1).mul (g3.sub g1)).add ((g4.sub g2).mul (g4.sub g2)))
  have GG := hideIt2 (And.intro g1 (And.intro g2 (And.intro g3 g4)))
  obtain ⟨hb0, _, _, _⟩ := boxes2 w #[.string px, .string pz] #[.string qx, .string qz] 24 24
  have HB0 := hideIt2 hb0
  have HT := hideIt2 (tab.below hb0)
  have HM := hideIt2 (mx.below hb0)
  clear hb0 tab mx g1 g2 g3 g4
  go_enter Tryz.func28, Tryz.ntmps28
  go_wp2_with fail
  generalize ((w.alloc (.cells #[.string px, .string pz] 24)).alloc (.cells #[.string qx, .string qz] 24)) = W0 at *
  refine (far2G_walk (w := W0) (by omega) (by omega) (by omega) (by omega) GG.out.1 GG.out.2.1 GG.out.2.2.1 GG.out.2.2.2 (by omega) HT.out).mono ?_
  rintro e w1 ⟨hb1, s, rfl, hs⟩
  obtain rfl := bytes_of hs
  have H1 := hideIt2 hb1
  clear hb1 hs
  go_wp2_with fail
  refine (refOfT_calls (HM.out.below H1.out) FQ.out (by omega)).mono ?_
  rintro e w2 ⟨hb2, v, rfl, hv⟩
  have H2 := hideIt2 (And.intro (bel_bel H1.out hb2) hv)
  clear hb2 hv
  go_wp2
  go_ret
  exact ⟨HB0.out.trans (H2.out.1.mono HB0.out.size), _, rfl, H2.out.2⟩

set_option maxHeartbeats 8000000 in
set_option maxRecDepth 100000 in
/-- The law of the flags. -/
theorem planeFlags_walk {w : World} {ax az bx bz cx cz px pz : ByteArray} (sax : ax.size ≤ 1048576) (saz : az.size ≤ 1048576) (sbx : bx.size ≤ 1048576) (sbz : bz.size ≤ 1048576) (scx : cx.size ≤ 1048576) (scz : cz.size ≤ 1048576) (spx : px.size ≤ 1048576) (spz : pz.size ≤ 1048576) (tab : Tab w) (mx : MaxL w) :
    Calls Tryz.prog 5 #[.agg #[.string ax, .string az], .agg #[.string bx, .string bz], .agg #[.string cx, .string cz], .agg #[.string px, .string pz]] w fun e w' => Below w.heap.size w w' ∧ e = .returned (.bool true) := by
  obtain ⟨hb0, hk0, hk1, hk2, hk3, hsz⟩ := boxes4 w #[.string ax, .string az] #[.string bx, .string bz] #[.string cx, .string cz] #[.string px, .string pz] 24 24 24 24
  have HB0 := hideIt2 hb0
  have HSZ := hideIt2 hsz
  have HK0 := hideIt2 hk0
  have HK1 := hideIt2 hk1
  have HK2 := hideIt2 hk2
  have HK3 := hideIt2 hk3
  have HT := hideIt2 (tab.below hb0)
  have HM := hideIt2 (mx.below hb0)
  have Gax : Hid (QS 4194309 (rd ax.data.toList)) := (QS.rd _).mono (by rw [str_len]; omega)
  have Gaz : Hid (QS 4194309 (rd az.data.toList)) := (QS.rd _).mono (by rw [str_len]; omega)
  have Gbx : Hid (QS 4194309 (rd bx.data.toList)) := (QS.rd _).mono (by rw [str_len]; omega)
  have Gbz : Hid (QS 4194309 (rd bz.data.toList)) := (QS.rd _).mono (by rw [str_len]; omega)
  have Gcx : Hid (QS 4194309 (rd cx.data.toList)) := (QS.rd _).mono (by rw [str_len]; omega)
  have Gcz : Hid (QS 4194309 (rd cz.data.toList)) := (QS.rd _).mono (by rw [str_len]; omega)
  have Gpx : Hid (QS 4194309 (rd px.data.toList)) := (QS.rd _).mono (by rw [str_len]; omega)
  have Gpz : Hid (QS 4194309 (rd pz.data.toList)) := (QS.rd _).mono (by rw [str_len]; omega)
  clear hb0 hsz tab mx hk0 hk1 hk2 hk3
  go_enter Tryz.func5, Tryz.ntmps5
  go_wp2_with fail
  generalize ((((w.alloc (.cells #[.string ax, .string az] 24)).alloc (.cells #[.string bx, .string bz] 24)).alloc (.cells #[.string cx, .string cz] 24)).alloc (.cells #[.string px, .string pz] 24)) = W0 at *
  have HS : Hid (∀ w', Below W0.heap.size W0 w' → w'.cell? ⟨w.heap.size, 0, none⟩ = some (.string ax) ∧ w'.cell? ⟨w.heap.size, 1, none⟩ = some (.string az) ∧ w'.cell? ⟨w.heap.size + 1, 0, none⟩ = some (.string bx) ∧ w'.cell? ⟨w.heap.size + 1, 1, none⟩ = some (.string bz) ∧ w'.cell? ⟨w.heap.size + 1 + 1, 0, none⟩ = some (.string cx) ∧ w'.cell? ⟨w.heap.size + 1 + 1, 1, none⟩ = some (.string cz) ∧ w'.cell? ⟨w.heap.size + 1 + 1 + 1, 0, none⟩ = some (.string px) ∧ w'.cell? ⟨w.heap.size + 1 + 1 + 1, 1, none⟩ = some (.string pz)) := fun w' hb => ⟨(HK0.out.below hb (by rw [HSZ.out]; omega)).cell 0, (HK0.out.below hb (by rw [HSZ.out]; omega)).cell 1, (HK1.out.below hb (by rw [HSZ.out]; omega)).cell 0, (HK1.out.below hb (by rw [HSZ.out]; omega)).cell 1, (HK2.out.below hb (by rw [HSZ.out]; omega)).cell 0, (HK2.out.below hb (by rw [HSZ.out]; omega)).cell 1, (HK3.out.below hb (by rw [HSZ.out]; omega)).cell 0, (HK3.out.below hb (by rw [HSZ.out]; omega)).cell 1⟩
  obtain ⟨z0, z1, z2, z3, z4, z5, z6, z7⟩ := HS.out W0 (Below.refl _ _)
  obtain ⟨Inv, hInvI, hInvM⟩ : ∃ Inv : (Nat → Prop) → (Nat → Value) → World → Prop, (∀ (d : Nat → Prop) (τ : Nat → Value) (w' : World), Inv d τ w' → Below W0.heap.size W0 w' ∧ (d 0 → Is (.agg #[.string ax, .string az]) (τ 0) w') ∧ (d 1 → Vv (rd ax.data.toList) (rd az.data.toList) (τ 1) w') ∧ (d 2 → Is (.agg #[.string cx, .string cz]) (τ 2) w') ∧ (d 3 → Vv (rd cx.data.toList) (rd cz.data.toList) (τ 3) w') ∧ (d 4 → Vv ((rd ax.data.toList) + (rd cx.data.toList)) ((rd az.data.toList) + (rd cz.data.toList)) (τ 4) w') ∧ (d 5 → Is (.agg #[.string bx, .string bz]) (τ 5) w') ∧ (d 6 → Vv (rd bx.data.toList) (rd bz.data.toList) (τ 6) w') ∧ (d 7 → Vv ((rd ax.data.toList) + (rd cx.data.toList) - (rd bx.data.toList)) ((rd az.data.toList) + (rd cz.data.toList) - (rd bz.data.toList)) (τ 7) w') ∧ (d 8 → Is (.agg #[.string ⟨(tx ((rd ax.data.toList) + (rd cx.data.toList) - (rd bx.data.toList))).toArray⟩, .string ⟨(tx ((rd az.data.toList) + (rd cz.data.toList) - (rd bz.data.toList))).toArray⟩]) (τ 8) w') ∧ (d 9 → Pb W0 (τ 9) w') ∧ (d 9 → ¬ d 10 → Zs W0 (τ 9) w') ∧ (d 10 → Sb W0 (.string ⟨(tx ((rd ax.data.toList) + (rd cx.data.toList) - (rd bx.data.toList))).toArray⟩) (.string ⟨(tx ((rd az.data.toList) + (rd cz.data.toList) - (rd bz.data.toList))).toArray⟩) (τ 9) w') ∧ (d 10 → d 9)) ∧ (∀ (d : Nat → Prop) (τ : Nat → Value) (w' : World), Below W0.heap.size W0 w' ∧ (d 0 → Is (.agg #[.string ax, .string az]) (τ 0) w') ∧ (d 1 → Vv (rd ax.data.toList) (rd az.data.toList) (τ 1) w') ∧ (d 2 → Is (.agg #[.string cx, .string cz]) (τ 2) w') ∧ (d 3 → Vv (rd cx.data.toList) (rd cz.data.toList) (τ 3) w') ∧ (d 4 → Vv ((rd ax.data.toList) + (rd cx.data.toList)) ((rd az.data.toList) + (rd cz.data.toList)) (τ 4) w') ∧ (d 5 → Is (.agg #[.string bx, .string bz]) (τ 5) w') ∧ (d 6 → Vv (rd bx.data.toList) (rd bz.data.toList) (τ 6) w') ∧ (d 7 → Vv ((rd ax.data.toList) + (rd cx.data.toList) - (rd bx.data.toList)) ((rd az.data.toList) + (rd cz.data.toList) - (rd bz.data.toList)) (τ 7) w') ∧ (d 8 → Is (.agg #[.string ⟨(tx ((rd ax.data.toList) + (rd cx.data.toList) - (rd bx.data.toList))).toArray⟩, .string ⟨(tx ((rd az.data.toList) + (rd cz.data.toList) - (rd bz.data.toList))).toArray⟩]) (τ 8) w') ∧ (d 9 → Pb W0 (τ 9) w') ∧ (d 9 → ¬ d 10 → Zs W0 (τ 9) w') ∧ (d 10 → Sb W0 (.string ⟨(tx ((rd ax.data.toList) + (rd cx.data.toList) - (rd bx.data.toList))).toArray⟩) (.string ⟨(tx ((rd az.data.toList) + (rd cz.data.toList) - (rd bz.data.toList))).toArray⟩) (τ 9) w') ∧ (d 10 → d 9) → Inv d τ w') := ⟨fun d τ w' => Below W0.heap.size W0 w' ∧ (d 0 → Is (.agg #[.string ax, .string az]) (τ 0) w') ∧ (d 1 → Vv (rd ax.data.toList) (rd az.data.toList) (τ 1) w') ∧ (d 2 → Is (.agg #[.string cx, .string cz]) (τ 2) w') ∧ (d 3 → Vv (rd cx.data.toList) (rd cz.data.toList) (τ 3) w') ∧ (d 4 → Vv ((rd ax.data.toList) + (rd cx.data.toList)) ((rd az.data.toList) + (rd cz.data.toList)) (τ 4) w') ∧ (d 5 → Is (.agg #[.string bx, .string bz]) (τ 5) w') ∧ (d 6 → Vv (rd bx.data.toList) (rd bz.data.toList) (τ 6) w') ∧ (d 7 → Vv ((rd ax.data.toList) + (rd cx.data.toList) - (rd bx.data.toList)) ((rd az.data.toList) + (rd cz.data.toList) - (rd bz.data.toList)) (τ 7) w') ∧ (d 8 → Is (.agg #[.string ⟨(tx ((rd ax.data.toList) + (rd cx.data.toList) - (rd bx.data.toList))).toArray⟩, .string ⟨(tx ((rd az.data.toList) + (rd cz.data.toList) - (rd bz.data.toList))).toArray⟩]) (τ 8) w') ∧ (d 9 → Pb W0 (τ 9) w') ∧ (d 9 → ¬ d 10 → Zs W0 (τ 9) w') ∧ (d 10 → Sb W0 (.string ⟨(tx ((rd ax.data.toList) + (rd cx.data.toList) - (rd bx.data.toList))).toArray⟩) (.string ⟨(tx ((rd az.data.toList) + (rd cz.data.toList) - (rd bz.data.toList))).toArray⟩) (τ 9) w') ∧ (d 10 → d 9), fun _ _ _ h => h, fun _ _ _ h => h⟩
  have HIN := hideIt2 hInvI
  have HMK := hideIt2 hInvM
  clear hInvI hInvM
  refine region_inv Inv (by kernel_rfl) (by decide) (by kernel_rfl) ?_ ?_ ?_
  · intro τ
    exact HMK.out _ _ _ ⟨Below.drew (Below.refl _ _), False.elim, False.elim, False.elim, False.elim, False.elim, False.elim, False.elim, False.elim, False.elim, False.elim, fun h => h.elim, False.elim, False.elim⟩
  · refine OpSteps.cons (i := 0) ?_ (OpSteps.cons (i := 1) ?_ (OpSteps.cons (i := 2) ?_ (OpSteps.cons (i := 3) ?_ (OpSteps.cons (i := 4) ?_ (OpSteps.cons (i := 5) ?_ (OpSteps.cons (i := 6) ?_ (OpSteps.cons (i := 7) ?_ (OpSteps.cons (i := 8) ?_ (OpSteps.cons (i := 9) ?_ (OpSteps.cons (i := 10) ?_ (OpSteps.nil)))))))))))
    · intro d τ w' hd hn hI
      have HI := hideIt2 (HIN.out _ _ _ hI)
      have HD := hideIt2 hd
      have HN := hideIt2 hn
      clear hI hd hn
      have hz := HS.out w' HI.out.1
      have z0 := hz.1
      have z1 := hz.2.1
      have z2 := hz.2.2.1
      have z3 := hz.2.2.2.1
      have z4 := hz.2.2.2.2.1
      have z5 := hz.2.2.2.2.2.1
      have z6 := hz.2.2.2.2.2.2.1
      have z7 := hz.2.2.2.2.2.2.2
      clear hz
      intro K hK
      simp only [putAll, Act.put, List.setIfInBounds_toArray, List.set_cons_zero, List.set_cons_succ] at hK ⊢
      go_simp
      obtain ⟨hb, f0, f1, f2, f3, f4, f5, f6, f7, f8, p9, o9, v9, a9⟩ := HI.out
      exact hK.out _ _ (HMK.out _ _ _ ⟨hb, fact_new rfl, fact_old (by decide) f1 (fun h => h), fact_old (by decide) f2 (fun h => h), fact_old (by decide) f3 (fun h => h), fact_old (by decide) f4 (fun h => h), fact_old (by decide) f5 (fun h => h), fact_old (by decide) f6 (fun h => h), fact_old (by decide) f7 (fun h => h), fact_old (by decide) f8 (fun h => h), fact_old (by decide) p9 (fun h => h), fact_zero (by decide) o9 (fun h => h), fact_two (by decide) (by decide) v9 (fun h => h), imp_old (by decide) a9⟩)
    · intro d τ w' hd hn hI
      have HI := hideIt2 (HIN.out _ _ _ hI)
      have HD := hideIt2 hd
      have HN := hideIt2 hn
      clear hI hd hn
      have e0 : τ 0 = .agg #[.string ax, .string az] := ((HI.out.2.1) (HD.out ⟨0, .data⟩ (by simp) rfl))
      have hb := HI.out.1
      intro K hK
      simp only [putAll, Act.put, List.setIfInBounds_toArray, List.set_cons_zero, List.set_cons_succ, e0] at hK ⊢
      go_simp
      refine (refP_calls ax az _ (HM.out.below hb) (by omega) (by omega)).mono ?_
      rintro _ w2 ⟨hb2, v, rfl, hv⟩
      clear hb
      obtain ⟨hb, f0, f1, f2, f3, f4, f5, f6, f7, f8, p9, o9, v9, a9⟩ := HI.out
      exact hK.out _ _ (HMK.out _ _ _ ⟨bel_bel hb hb2, fact_old (by decide) f0 (fun h => h.below hb2), fact_new hv, fact_old (by decide) f2 (fun h => h.below hb2), fact_old (by decide) f3 (fun h => h.below hb2), fact_old (by decide) f4 (fun h => h.below hb2), fact_old (by decide) f5 (fun h => h.below hb2), fact_old (by decide) f6 (fun h => h.below hb2), fact_old (by decide) f7 (fun h => h.below hb2), fact_old (by decide) f8 (fun h => h.below hb2), fact_old (by decide) p9 (fun h => h.below hb2), fact_zero (by decide) o9 (fun h => h.below hb2), fact_two (by decide) (by decide) v9 (fun h => h.below hb2), imp_old (by decide) a9⟩)
    · intro d τ w' hd hn hI
      have HI := hideIt2 (HIN.out _ _ _ hI)
      have HD := hideIt2 hd
      have HN := hideIt2 hn
      clear hI hd hn
      have hz := HS.out w' HI.out.1
      have z0 := hz.1
      have z1 := hz.2.1
      have z2 := hz.2.2.1
      have z3 := hz.2.2.2.1
      have z4 := hz.2.2.2.2.1
      have z5 := hz.2.2.2.2.2.1
      have z6 := hz.2.2.2.2.2.2.1
      have z7 := hz.2.2.2.2.2.2.2
      clear hz
      intro K hK
      simp only [putAll, Act.put, List.setIfInBounds_toArray, List.set_cons_zero, List.set_cons_succ] at hK ⊢
      go_simp
      obtain ⟨hb, f0, f1, f2, f3, f4, f5, f6, f7, f8, p9, o9, v9, a9⟩ := HI.out
      exact hK.out _ _ (HMK.out _ _ _ ⟨hb, fact_old (by decide) f0 (fun h => h), fact_old (by decide) f1 (fun h => h), fact_new rfl, fact_old (by decide) f3 (fun h => h), fact_old (by decide) f4 (fun h => h), fact_old (by decide) f5 (fun h => h), fact_old (by decide) f6 (fun h => h), fact_old (by decide) f7 (fun h => h), fact_old (by decide) f8 (fun h => h), fact_old (by decide) p9 (fun h => h), fact_zero (by decide) o9 (fun h => h), fact_two (by decide) (by decide) v9 (fun h => h), imp_old (by decide) a9⟩)
    · intro d τ w' hd hn hI
      have HI := hideIt2 (HIN.out _ _ _ hI)
      have HD := hideIt2 hd
      have HN := hideIt2 hn
      clear hI hd hn
      have e2 : τ 2 = .agg #[.string cx, .string cz] := ((HI.out.2.2.2.1) (HD.out ⟨2, .data⟩ (by simp) rfl))
      have hb := HI.out.1
      intro K hK
      simp only [putAll, Act.put, List.setIfInBounds_toArray, List.set_cons_zero, List.set_cons_succ, e2] at hK ⊢
      go_simp
      refine (refP_calls cx cz _ (HM.out.below hb) (by omega) (by omega)).mono ?_
      rintro _ w2 ⟨hb2, v, rfl, hv⟩
      clear hb
      obtain ⟨hb, f0, f1, f2, f3, f4, f5, f6, f7, f8, p9, o9, v9, a9⟩ := HI.out
      exact hK.out _ _ (HMK.out _ _ _ ⟨bel_bel hb hb2, fact_old (by decide) f0 (fun h => h.below hb2), fact_old (by decide) f1 (fun h => h.below hb2), fact_old (by decide) f2 (fun h => h.below hb2), fact_new hv, fact_old (by decide) f4 (fun h => h.below hb2), fact_old (by decide) f5 (fun h => h.below hb2), fact_old (by decide) f6 (fun h => h.below hb2), fact_old (by decide) f7 (fun h => h.below hb2), fact_old (by decide) f8 (fun h => h.below hb2), fact_old (by decide) p9 (fun h => h.below hb2), fact_zero (by decide) o9 (fun h => h.below hb2), fact_two (by decide) (by decide) v9 (fun h => h.below hb2), imp_old (by decide) a9⟩)
    · intro d τ w' hd hn hI
      have HI := hideIt2 (HIN.out _ _ _ hI)
      have HD := hideIt2 hd
      have HN := hideIt2 hn
      clear hI hd hn
      obtain ⟨p1, q1, e1, hp1, hq1⟩ := ((HI.out.2.2.1) (HD.out ⟨1, .data⟩ (by simp) rfl))
      obtain ⟨p3, q3, e3, hp3, hq3⟩ := ((HI.out.2.2.2.2.1) (HD.out ⟨3, .data⟩ (by simp) rfl))
      have hb := HI.out.1
      intro K hK
      simp only [putAll, Act.put, List.setIfInBounds_toArray, List.set_cons_zero, List.set_cons_succ, e1, e3] at hK ⊢
      go_simp
      refine (vPlus_calls ⟨_, _, rfl, hp1, hq1⟩ ⟨_, _, rfl, hp3, hq3⟩ Gax.out Gaz.out Gcx.out Gcz.out (by decide)).mono ?_
      rintro _ w2 ⟨hb2, v, rfl, hv⟩
      clear hb
      obtain ⟨hb, f0, f1, f2, f3, f4, f5, f6, f7, f8, p9, o9, v9, a9⟩ := HI.out
      exact hK.out _ _ (HMK.out _ _ _ ⟨bel_bel hb hb2, fact_old (by decide) f0 (fun h => h.below hb2), fact_old (by decide) f1 (fun h => h.below hb2), fact_old (by decide) f2 (fun h => h.below hb2), fact_old (by decide) f3 (fun h => h.below hb2), fact_new hv, fact_old (by decide) f5 (fun h => h.below hb2), fact_old (by decide) f6 (fun h => h.below hb2), fact_old (by decide) f7 (fun h => h.below hb2), fact_old (by decide) f8 (fun h => h.below hb2), fact_old (by decide) p9 (fun h => h.below hb2), fact_zero (by decide) o9 (fun h => h.below hb2), fact_two (by decide) (by decide) v9 (fun h => h.below hb2), imp_old (by decide) a9⟩)
    · intro d τ w' hd hn hI
      have HI := hideIt2 (HIN.out _ _ _ hI)
      have HD := hideIt2 hd
      have HN := hideIt2 hn
      clear hI hd hn
      have hz := HS.out w' HI.out.1
      have z0 := hz.1
      have z1 := hz.2.1
      have z2 := hz.2.2.1
      have z3 := hz.2.2.2.1
      have z4 := hz.2.2.2.2.1
      have z5 := hz.2.2.2.2.2.1
      have z6 := hz.2.2.2.2.2.2.1
      have z7 := hz.2.2.2.2.2.2.2
      clear hz
      intro K hK
      simp only [putAll, Act.put, List.setIfInBounds_toArray, List.set_cons_zero, List.set_cons_succ] at hK ⊢
      go_simp
      obtain ⟨hb, f0, f1, f2, f3, f4, f5, f6, f7, f8, p9, o9, v9, a9⟩ := HI.out
      exact hK.out _ _ (HMK.out _ _ _ ⟨hb, fact_old (by decide) f0 (fun h => h), fact_old (by decide) f1 (fun h => h), fact_old (by decide) f2 (fun h => h), fact_old (by decide) f3 (fun h => h), fact_old (by decide) f4 (fun h => h), fact_new rfl, fact_old (by decide) f6 (fun h => h), fact_old (by decide) f7 (fun h => h), fact_old (by decide) f8 (fun h => h), fact_old (by decide) p9 (fun h => h), fact_zero (by decide) o9 (fun h => h), fact_two (by decide) (by decide) v9 (fun h => h), imp_old (by decide) a9⟩)
    · intro d τ w' hd hn hI
      have HI := hideIt2 (HIN.out _ _ _ hI)
      have HD := hideIt2 hd
      have HN := hideIt2 hn
      clear hI hd hn
      have e5 : τ 5 = .agg #[.string bx, .string bz] := ((HI.out.2.2.2.2.2.2.1) (HD.out ⟨5, .data⟩ (by simp) rfl))
      have hb := HI.out.1
      intro K hK
      simp only [putAll, Act.put, List.setIfInBounds_toArray, List.set_cons_zero, List.set_cons_succ, e5] at hK ⊢
      go_simp
      refine (refP_calls bx bz _ (HM.out.below hb) (by omega) (by omega)).mono ?_
      rintro _ w2 ⟨hb2, v, rfl, hv⟩
      clear hb
      obtain ⟨hb, f0, f1, f2, f3, f4, f5, f6, f7, f8, p9, o9, v9, a9⟩ := HI.out
      exact hK.out _ _ (HMK.out _ _ _ ⟨bel_bel hb hb2, fact_old (by decide) f0 (fun h => h.below hb2), fact_old (by decide) f1 (fun h => h.below hb2), fact_old (by decide) f2 (fun h => h.below hb2), fact_old (by decide) f3 (fun h => h.below hb2), fact_old (by decide) f4 (fun h => h.below hb2), fact_old (by decide) f5 (fun h => h.below hb2), fact_new hv, fact_old (by decide) f7 (fun h => h.below hb2), fact_old (by decide) f8 (fun h => h.below hb2), fact_old (by decide) p9 (fun h => h.below hb2), fact_zero (by decide) o9 (fun h => h.below hb2), fact_two (by decide) (by decide) v9 (fun h => h.below hb2), imp_old (by decide) a9⟩)
    · intro d τ w' hd hn hI
      have HI := hideIt2 (HIN.out _ _ _ hI)
      have HD := hideIt2 hd
      have HN := hideIt2 hn
      clear hI hd hn
      obtain ⟨p4, q4, e4, hp4, hq4⟩ := ((HI.out.2.2.2.2.2.1) (HD.out ⟨4, .data⟩ (by simp) rfl))
      obtain ⟨p6, q6, e6, hp6, hq6⟩ := ((HI.out.2.2.2.2.2.2.2.1) (HD.out ⟨6, .data⟩ (by simp) rfl))
      have hb := HI.out.1
      intro K hK
      simp only [putAll, Act.put, List.setIfInBounds_toArray, List.set_cons_zero, List.set_cons_succ, e4, e6] at hK ⊢
      go_simp
      refine (vMinus_calls ⟨_, _, rfl, hp4, hq4⟩ ⟨_, _, rfl, hp6, hq6⟩ (Gax.out.add Gcx.out) (Gaz.out.add Gcz.out) (QS.mono (l := 8388619) Gbx.out (by decide)) (QS.mono (l := 8388619) Gbz.out (by decide)) (by decide)).mono ?_
      rintro _ w2 ⟨hb2, v, rfl, hv⟩
      clear hb
      obtain ⟨hb, f0, f1, f2, f3, f4, f5, f6, f7, f8, p9, o9, v9, a9⟩ := HI.out
      exact hK.out _ _ (HMK.out _ _ _ ⟨bel_bel hb hb2, fact_old (by decide) f0 (fun h => h.below hb2), fact_old (by decide) f1 (fun h => h.below hb2), fact_old (by decide) f2 (fun h => h.below hb2), fact_old (by decide) f3 (fun h => h.below hb2), fact_old (by decide) f4 (fun h => h.below hb2), fact_old (by decide) f5 (fun h => h.below hb2), fact_old (by decide) f6 (fun h => h.below hb2), fact_new hv, fact_old (by decide) f8 (fun h => h.below hb2), fact_old (by decide) p9 (fun h => h.below hb2), fact_zero (by decide) o9 (fun h => h.below hb2), fact_two (by decide) (by decide) v9 (fun h => h.below hb2), imp_old (by decide) a9⟩)
    · intro d τ w' hd hn hI
      have HI := hideIt2 (HIN.out _ _ _ hI)
      have HD := hideIt2 hd
      have HN := hideIt2 hn
      clear hI hd hn
      obtain ⟨p7, q7, e7, hp7, hq7⟩ := ((HI.out.2.2.2.2.2.2.2.2.1) (HD.out ⟨7, .data⟩ (by simp) rfl))
      have hb := HI.out.1
      intro K hK
      simp only [putAll, Act.put, List.setIfInBounds_toArray, List.set_cons_zero, List.set_cons_succ, e7] at hK ⊢
      go_simp
      refine (vTell_calls ⟨_, _, rfl, hp7, hq7⟩ ((Gax.out.add Gcx.out).sub Gbx.out) ((Gaz.out.add Gcz.out).sub Gbz.out) (by decide)).mono ?_
      rintro _ w2 ⟨hb2, rfl⟩
      clear hb
      obtain ⟨hb, f0, f1, f2, f3, f4, f5, f6, f7, f8, p9, o9, v9, a9⟩ := HI.out
      exact hK.out _ _ (HMK.out _ _ _ ⟨bel_bel hb hb2, fact_old (by decide) f0 (fun h => h.below hb2), fact_old (by decide) f1 (fun h => h.below hb2), fact_old (by decide) f2 (fun h => h.below hb2), fact_old (by decide) f3 (fun h => h.below hb2), fact_old (by decide) f4 (fun h => h.below hb2), fact_old (by decide) f5 (fun h => h.below hb2), fact_old (by decide) f6 (fun h => h.below hb2), fact_old (by decide) f7 (fun h => h.below hb2), fact_new rfl, fact_old (by decide) p9 (fun h => h.below hb2), fact_zero (by decide) o9 (fun h => h.below hb2), fact_two (by decide) (by decide) v9 (fun h => h.below hb2), imp_old (by decide) a9⟩)
    · intro d τ w' hd hn hI
      have HI := hideIt2 (HIN.out _ _ _ hI)
      have HD := hideIt2 hd
      have HN := hideIt2 hn
      clear hI hd hn
      intro K hK
      simp only [putAll, Act.put, List.setIfInBounds_toArray, List.set_cons_zero, List.set_cons_succ] at hK ⊢
      go_simp
      obtain ⟨hb, f0, f1, f2, f3, f4, f5, f6, f7, f8, p9, o9, v9, a9⟩ := HI.out
      exact hK.out _ _ (HMK.out _ _ _ ⟨Below.new hb _, fact_old (by decide) f0 (fun h => h.below (below_new _ _)), fact_old (by decide) f1 (fun h => h.below (below_new _ _)), fact_old (by decide) f2 (fun h => h.below (below_new _ _)), fact_old (by decide) f3 (fun h => h.below (below_new _ _)), fact_old (by decide) f4 (fun h => h.below (below_new _ _)), fact_old (by decide) f5 (fun h => h.below (below_new _ _)), fact_old (by decide) f6 (fun h => h.below (below_new _ _)), fact_old (by decide) f7 (fun h => h.below (below_new _ _)), fact_old (by decide) f8 (fun h => h.below (below_new _ _)), fact_new (Pb.new hb), fact_zero_new (Zs.new hb), fact_absurd (by decide) a9 HN.out, imp_old (by decide) a9⟩)
    · intro d τ w' hd hn hI
      have HI := hideIt2 (HIN.out _ _ _ hI)
      have HD := hideIt2 hd
      have HN := hideIt2 hn
      clear hI hd hn
      have hA9 : d 9 := HD.out ⟨9, .data⟩ (by simp) rfl
      have hC : d 8 := HD.out ⟨8, .data⟩ (by simp) rfl
      obtain ⟨G, eG, hge, hz⟩ := (HI.out.2.2.2.2.2.2.2.2.2.2.2.1) hA9 HN.out
      have ep : τ 8 = .agg #[.string ⟨(tx ((rd ax.data.toList) + (rd cx.data.toList) - (rd bx.data.toList))).toArray⟩, .string ⟨(tx ((rd az.data.toList) + (rd cz.data.toList) - (rd bz.data.toList))).toArray⟩] := (HI.out.2.2.2.2.2.2.2.2.2.1) hC
      have hz4 := hz.all2
      have k0 := hz4.1
      have k1 := hz4.2.1
      have g0 := hz4.2.2.1
      have g1 := hz4.2.2.2
      have hlt := hz.lt
      have HZ := hideIt2 (And.intro hz hge)
      have HA := hideIt2 (And.intro hA9 trivial)
      clear hz4 hC hz hge hA9
      intro K hK
      simp only [putAll, Act.put, List.setIfInBounds_toArray, List.set_cons_zero, List.set_cons_succ, eG, ep] at hK ⊢
      go_simp
      obtain ⟨hb, f0, f1, f2, f3, f4, f5, f6, f7, f8, p9, o9, v9, a9⟩ := HI.out
      obtain ⟨hz, hge⟩ := HZ.out
      obtain ⟨hA9, _⟩ := HA.out
      exact hK.out undef _ (HMK.out _ _ _ ⟨bel_put2 hb hge _ _, fact_old (by decide) f0 (fun h => h), fact_old (by decide) f1 (fun h => h.putS hz), fact_old (by decide) f2 (fun h => h), fact_old (by decide) f3 (fun h => h.putS hz), fact_old (by decide) f4 (fun h => h.putS hz), fact_old (by decide) f5 (fun h => h), fact_old (by decide) f6 (fun h => h.putS hz), fact_old (by decide) f7 (fun h => h.putS hz), fact_old (by decide) f8 (fun h => h), fact_old (by decide) p9 (fun h => h.put), fact_zero_did, fact_did (by decide) (by rw [eG]; exact Sb.mk hge hz), (fun _ => Or.inr hA9)⟩)
  · intro d τ wc hall hI
    have HI := hideIt2 (HIN.out _ _ _ hI)
    clear hI
    have hb := HI.out.1
    refine Sb.use ((HI.out.2.2.2.2.2.2.2.2.2.2.2.2.1) (hall 10 (by decide))) ?_
    intro G0 eG0 hg0 hk0
    simp only [putAll, Act.put, List.setIfInBounds_toArray, List.set_cons_zero, List.set_cons_succ, eG0]
    clear HI eG0 hall
    generalize τ 0 = t0
    generalize τ 1 = t1
    generalize τ 2 = t2
    generalize τ 3 = t3
    generalize τ 4 = t4
    generalize τ 5 = t5
    generalize τ 6 = t6
    generalize τ 7 = t7
    generalize τ 8 = t8
    generalize τ 9 = t9
    generalize τ 10 = t10
    have EX := hideIt2 (And.intro (txb_rd ((rd ax.data.toList) + (rd cx.data.toList) - (rd bx.data.toList))) (txb_rd ((rd az.data.toList) + (rd cz.data.toList) - (rd bz.data.toList))))
    have SXZ := hideIt2 (And.intro (txb_size ((Gax.out.add Gcx.out).sub Gbx.out)) (txb_size ((Gaz.out.add Gcz.out).sub Gbz.out)))
    have Gdx : Hid (QS 12582929 (rd (⟨(tx ((rd ax.data.toList) + (rd cx.data.toList) - (rd bx.data.toList))).toArray⟩ : ByteArray).data.toList)) := by show QS _ _; rw [txb_rd]; exact (Gax.out.add Gcx.out).sub Gbx.out
    have Gdz : Hid (QS 12582929 (rd (⟨(tx ((rd az.data.toList) + (rd cz.data.toList) - (rd bz.data.toList))).toArray⟩ : ByteArray).data.toList)) := by show QS _ _; rw [txb_rd]; exact (Gaz.out.add Gcz.out).sub Gbz.out
    generalize (⟨(tx ((rd ax.data.toList) + (rd cx.data.toList) - (rd bx.data.toList))).toArray⟩ : ByteArray) = dx at *
    generalize (⟨(tx ((rd az.data.toList) + (rd cz.data.toList) - (rd bz.data.toList))).toArray⟩ : ByteArray) = dz at *
    have sdx := SXZ.out.1
    have sdz := SXZ.out.2
    clear SXZ
    have HBC := hideIt2 (bel_bel HB0.out hb)
    have HTC := hideIt2 (HT.out.below hb)
    have HMC := hideIt2 (HM.out.below hb)
    have HKD := hideIt2 hk0
    have HSC : Hid (∀ w', Below wc.heap.size wc w' → w'.cell? ⟨w.heap.size, 0, none⟩ = some (.string ax) ∧ w'.cell? ⟨w.heap.size, 1, none⟩ = some (.string az) ∧ w'.cell? ⟨w.heap.size + 1, 0, none⟩ = some (.string bx) ∧ w'.cell? ⟨w.heap.size + 1, 1, none⟩ = some (.string bz) ∧ w'.cell? ⟨w.heap.size + 1 + 1, 0, none⟩ = some (.string cx) ∧ w'.cell? ⟨w.heap.size + 1 + 1, 1, none⟩ = some (.string cz) ∧ w'.cell? ⟨w.heap.size + 1 + 1 + 1, 0, none⟩ = some (.string px) ∧ w'.cell? ⟨w.heap.size + 1 + 1 + 1, 1, none⟩ = some (.string pz) ∧ w'.cell? ⟨G0, 0, none⟩ = some (.string dx) ∧ w'.cell? ⟨G0, 1, none⟩ = some (.string dz)) := fun w' hb2 => by
      have h1 := HS.out w' (bel_bel hb hb2)
      have h2 := HKD.out.below hb2 HKD.out.lt
      exact ⟨h1.1, h1.2.1, h1.2.2.1, h1.2.2.2.1, h1.2.2.2.2.1, h1.2.2.2.2.2.1, h1.2.2.2.2.2.2.1, h1.2.2.2.2.2.2.2, h2.cell 0, h2.cell 1⟩
    clear hb hg0 hk0 HS HT HM
    have HS := HSC
    have HT := HTC
    have HM := HMC
    clear HSC HTC HMC
    obtain ⟨z0, z1, z2, z3, z4, z5, z6, z7, z8, z9⟩ := HS.out wc (Below.refl _ _)
    go_wp2_with fail
    go_region_held3 (fun w' => w'.cell? ⟨w.heap.size, 0, none⟩ = some (.string ax) ∧ w'.cell? ⟨w.heap.size, 1, none⟩ = some (.string az) ∧ w'.cell? ⟨w.heap.size + 1, 0, none⟩ = some (.string bx) ∧ w'.cell? ⟨w.heap.size + 1, 1, none⟩ = some (.string bz) ∧ w'.cell? ⟨w.heap.size + 1 + 1, 0, none⟩ = some (.string cx) ∧ w'.cell? ⟨w.heap.size + 1 + 1, 1, none⟩ = some (.string cz) ∧ w'.cell? ⟨w.heap.size + 1 + 1 + 1, 0, none⟩ = some (.string px) ∧ w'.cell? ⟨w.heap.size + 1 + 1 + 1, 1, none⟩ = some (.string pz) ∧ w'.cell? ⟨G0, 0, none⟩ = some (.string dx) ∧ w'.cell? ⟨G0, 1, none⟩ = some (.string dz)) (first | (refine HS.out _ ?_; (repeat' first | with_reducible exact hbl5 | with_reducible exact hbl4 | with_reducible exact hbl3 | with_reducible exact hbl2 | with_reducible exact hbl1 | with_reducible exact Below.refl _ _ | with_reducible refine Below.new ?_ _ | with_reducible refine Below.drew ?_); done) | go_keep)
      (first
        | (have hq5 := hbl4; go_at_call 20; refine (refAdd_calls (rrow4 (by repeat' first | with_reducible exact Blk.new _ _ _ | ((with_reducible refine blk_at ?_); (first | with_reducible rfl | (simp; done))) | with_reducible refine blk_old _ ?_ | with_reducible refine blk_drew ?_ | with_reducible refine blk_bel hb4 ?_ | with_reducible refine blk_bel hb3 ?_ | with_reducible refine blk_bel hb2 ?_ | with_reducible refine blk_bel hb1 ?_) ⟨_, rfl, (by repeat' first | with_reducible exact hv1 | with_reducible refine rv_new _ ?_ | with_reducible refine rv_drew ?_ | with_reducible refine rv_bel hb4 ?_ | with_reducible refine rv_bel hb3 ?_ | with_reducible refine rv_bel hb2 ?_)⟩ ⟨_, rfl, (by repeat' first | with_reducible exact hv2 | with_reducible refine rv_new _ ?_ | with_reducible refine rv_drew ?_ | with_reducible refine rv_bel hb4 ?_ | with_reducible refine rv_bel hb3 ?_)⟩ ⟨_, rfl, (by repeat' first | with_reducible exact hv3 | with_reducible refine rv_new _ ?_ | with_reducible refine rv_drew ?_ | with_reducible refine rv_bel hb4 ?_)⟩ ⟨_, rfl, (by repeat' first | with_reducible exact hv4 | with_reducible refine rv_new _ ?_ | with_reducible refine rv_drew ?_)⟩) (all4 (QS.mono (l := 67108957) (((Gbx.out.sub Gax.out).mul (Gbx.out.sub Gax.out)).add ((Gbz.out.sub Gaz.out).mul (Gbz.out.sub Gaz.out))) (by decide)) (QS.mono (l := 67108957) (((Gcx.out.sub Gbx.out).mul (Gcx.out.sub Gbx.out)).add ((Gcz.out.sub Gbz.out).mul (Gcz.out.sub Gbz.out))) (by decide)) (((Gdx.out.sub Gcx.out).mul (Gdx.out.sub Gcx.out)).add ((Gdz.out.sub Gcz.out).mul (Gdz.out.sub Gcz.out))) (((Gax.out.sub Gdx.out).mul (Gax.out.sub Gdx.out)).add ((Gaz.out.sub Gdz.out).mul (Gaz.out.sub Gdz.out)))) (by simp) (by simp only [List.length_cons, List.length_nil]; omega)).mono ?_; rintro e w5 ⟨hb5, _, rfl, g5, rfl, hv5⟩; rw [rsum4] at hv5; have hbl5 : Below wc.heap.size wc w5 := bel_bel (by repeat' first | with_reducible exact hbl4 | with_reducible exact hbl3 | with_reducible exact hbl2 | with_reducible exact hbl1 | with_reducible exact Below.refl _ _ | with_reducible refine Below.new ?_ _ | with_reducible refine Below.drew ?_) hb5; have hs5 := HS.out w5 hbl5)
        | (have hq4 := hbl3; go_at_call 28; refine (farFl_calls (by omega) (by omega) (by omega) (by omega) Gdx.out Gdz.out (QS.mono (l := 12582929) Gax.out (by decide)) (QS.mono (l := 12582929) Gaz.out (by decide)) (by decide) (HT.out.below (by repeat' first | with_reducible exact hbl3 | with_reducible exact hbl2 | with_reducible exact hbl1 | with_reducible exact Below.refl _ _ | with_reducible refine Below.new ?_ _ | with_reducible refine Below.drew ?_)) (HM.out.below (by repeat' first | with_reducible exact hbl3 | with_reducible exact hbl2 | with_reducible exact hbl1 | with_reducible exact Below.refl _ _ | with_reducible refine Below.new ?_ _ | with_reducible refine Below.drew ?_))).mono ?_; rintro e w4 ⟨hb4, _, rfl, g4, rfl, hv4⟩; have hbl4 : Below wc.heap.size wc w4 := bel_bel (by repeat' first | with_reducible exact hbl3 | with_reducible exact hbl2 | with_reducible exact hbl1 | with_reducible exact Below.refl _ _ | with_reducible refine Below.new ?_ _ | with_reducible refine Below.drew ?_) hb4; have hs4 := HS.out w4 hbl4)
        | (have hq3 := hbl2; go_at_call 28; refine (farFl_calls (by omega) (by omega) (by omega) (by omega) (QS.mono (l := 12582929) Gcx.out (by decide)) (QS.mono (l := 12582929) Gcz.out (by decide)) Gdx.out Gdz.out (by decide) (HT.out.below (by repeat' first | with_reducible exact hbl2 | with_reducible exact hbl1 | with_reducible exact Below.refl _ _ | with_reducible refine Below.new ?_ _ | with_reducible refine Below.drew ?_)) (HM.out.below (by repeat' first | with_reducible exact hbl2 | with_reducible exact hbl1 | with_reducible exact Below.refl _ _ | with_reducible refine Below.new ?_ _ | with_reducible refine Below.drew ?_))).mono ?_; rintro e w3 ⟨hb3, _, rfl, g3, rfl, hv3⟩; have hbl3 : Below wc.heap.size wc w3 := bel_bel (by repeat' first | with_reducible exact hbl2 | with_reducible exact hbl1 | with_reducible exact Below.refl _ _ | with_reducible refine Below.new ?_ _ | with_reducible refine Below.drew ?_) hb3; have hs3 := HS.out w3 hbl3)
        | (have hq2 := hbl1; go_at_call 28; refine (farFl_calls (by omega) (by omega) (by omega) (by omega) Gbx.out Gbz.out Gcx.out Gcz.out (by decide) (HT.out.below (by repeat' first | with_reducible exact hbl1 | with_reducible exact Below.refl _ _ | with_reducible refine Below.new ?_ _ | with_reducible refine Below.drew ?_)) (HM.out.below (by repeat' first | with_reducible exact hbl1 | with_reducible exact Below.refl _ _ | with_reducible refine Below.new ?_ _ | with_reducible refine Below.drew ?_))).mono ?_; rintro e w2 ⟨hb2, _, rfl, g2, rfl, hv2⟩; have hbl2 : Below wc.heap.size wc w2 := bel_bel (by repeat' first | with_reducible exact hbl1 | with_reducible exact Below.refl _ _ | with_reducible refine Below.new ?_ _ | with_reducible refine Below.drew ?_) hb2; have hs2 := HS.out w2 hbl2)
        | (go_at_call 28; refine (farFl_calls (by omega) (by omega) (by omega) (by omega) Gax.out Gaz.out Gbx.out Gbz.out (by decide) (HT.out.below (by repeat' first | with_reducible exact Below.refl _ _ | with_reducible refine Below.new ?_ _ | with_reducible refine Below.drew ?_)) (HM.out.below (by repeat' first | with_reducible exact Below.refl _ _ | with_reducible refine Below.new ?_ _ | with_reducible refine Below.drew ?_))).mono ?_; rintro e w1 ⟨hb1, _, rfl, g1, rfl, hv1⟩; have hbl1 : Below wc.heap.size wc w1 := bel_bel (by repeat' first | with_reducible exact Below.refl _ _ | with_reducible refine Below.new ?_ _ | with_reducible refine Below.drew ?_) hb1; have hs1 := HS.out w1 hbl1)
        )
    all_goals
      go_wp2_with fail
      go_region_held3 (fun w' => w'.cell? ⟨w.heap.size, 0, none⟩ = some (.string ax) ∧ w'.cell? ⟨w.heap.size, 1, none⟩ = some (.string az) ∧ w'.cell? ⟨w.heap.size + 1, 0, none⟩ = some (.string bx) ∧ w'.cell? ⟨w.heap.size + 1, 1, none⟩ = some (.string bz) ∧ w'.cell? ⟨w.heap.size + 1 + 1, 0, none⟩ = some (.string cx) ∧ w'.cell? ⟨w.heap.size + 1 + 1, 1, none⟩ = some (.string cz) ∧ w'.cell? ⟨w.heap.size + 1 + 1 + 1, 0, none⟩ = some (.string px) ∧ w'.cell? ⟨w.heap.size + 1 + 1 + 1, 1, none⟩ = some (.string pz) ∧ w'.cell? ⟨G0, 0, none⟩ = some (.string dx) ∧ w'.cell? ⟨G0, 1, none⟩ = some (.string dz)) (first | (refine HS.out _ ?_; (repeat' first | with_reducible exact hbl10 | with_reducible exact hbl9 | with_reducible exact hbl8 | with_reducible exact hbl7 | with_reducible exact hbl6 | with_reducible exact hbl5 | with_reducible exact hbl4 | with_reducible exact hbl3 | with_reducible exact hbl2 | with_reducible exact hbl1 | with_reducible exact Below.refl _ _ | with_reducible refine Below.new ?_ _ | with_reducible refine Below.drew ?_); done) | go_keep)
        (first
          | (have hq10 := hbl9; go_at_call 24; refine (refEq_calls ⟨_, rfl, (by repeat' first | with_reducible exact hv5 | with_reducible refine rv_new _ ?_ | with_reducible refine rv_drew ?_ | with_reducible refine rv_bel hb9 ?_ | with_reducible refine rv_bel hb8 ?_ | with_reducible refine rv_bel hb7 ?_ | with_reducible refine rv_bel hb6 ?_)⟩ ⟨_, rfl, (by repeat' first | with_reducible exact hv9 | with_reducible refine rv_new _ ?_ | with_reducible refine rv_drew ?_)⟩ ((((((Gbx.out.sub Gax.out).mul (Gbx.out.sub Gax.out)).add ((Gbz.out.sub Gaz.out).mul (Gbz.out.sub Gaz.out))).add (((Gcx.out.sub Gbx.out).mul (Gcx.out.sub Gbx.out)).add ((Gcz.out.sub Gbz.out).mul (Gcz.out.sub Gbz.out)))).add (((Gdx.out.sub Gcx.out).mul (Gdx.out.sub Gcx.out)).add ((Gdz.out.sub Gcz.out).mul (Gdz.out.sub Gcz.out)))).add (((Gax.out.sub Gdx.out).mul (Gax.out.sub Gdx.out)).add ((Gaz.out.sub Gdz.out).mul (Gaz.out.sub Gdz.out)))) ((((Gcx.out.sub Gax.out).mul (Gcx.out.sub Gax.out)).add ((Gcz.out.sub Gaz.out).mul (Gcz.out.sub Gaz.out))).add (((Gdx.out.sub Gbx.out).mul (Gdx.out.sub Gbx.out)).add ((Gdz.out.sub Gbz.out).mul (Gdz.out.sub Gbz.out)))) (by decide)).mono ?_; rintro e w10 ⟨hb10, rfl⟩; rw [decide_eq_true (flags1 _ _ _ _ _ _ _ _ EX.out.1 EX.out.2)]; have hbl10 : Below wc.heap.size wc w10 := bel_bel (by repeat' first | with_reducible exact hbl9 | with_reducible exact hbl8 | with_reducible exact hbl7 | with_reducible exact hbl6 | with_reducible exact hbl5 | with_reducible exact hbl4 | with_reducible exact hbl3 | with_reducible exact hbl2 | with_reducible exact hbl1 | with_reducible exact Below.refl _ _ | with_reducible refine Below.new ?_ _ | with_reducible refine Below.drew ?_) hb10; have hs10 := HS.out w10 hbl10)
          | (have hq9 := hbl8; go_at_call 20; refine (refAdd_calls (rrow2 (by repeat' first | with_reducible exact Blk.new _ _ _ | ((with_reducible refine blk_at ?_); (first | with_reducible rfl | (simp; done))) | with_reducible refine blk_old _ ?_ | with_reducible refine blk_drew ?_ | with_reducible refine blk_bel hb8 ?_ | with_reducible refine blk_bel hb7 ?_ | with_reducible refine blk_bel hb6 ?_ | with_reducible refine blk_bel hb5 ?_ | with_reducible refine blk_bel hb4 ?_ | with_reducible refine blk_bel hb3 ?_ | with_reducible refine blk_bel hb2 ?_ | with_reducible refine blk_bel hb1 ?_) ⟨_, rfl, (by repeat' first | with_reducible exact hv7 | with_reducible refine rv_new _ ?_ | with_reducible refine rv_drew ?_ | with_reducible refine rv_bel hb8 ?_)⟩ ⟨_, rfl, (by repeat' first | with_reducible exact hv8 | with_reducible refine rv_new _ ?_ | with_reducible refine rv_drew ?_)⟩) (all2 (QS.mono (l := 67108957) (((Gcx.out.sub Gax.out).mul (Gcx.out.sub Gax.out)).add ((Gcz.out.sub Gaz.out).mul (Gcz.out.sub Gaz.out))) (by decide)) (((Gdx.out.sub Gbx.out).mul (Gdx.out.sub Gbx.out)).add ((Gdz.out.sub Gbz.out).mul (Gdz.out.sub Gbz.out)))) (by simp) (by simp only [List.length_cons, List.length_nil]; omega)).mono ?_; rintro e w9 ⟨hb9, _, rfl, g9, rfl, hv9⟩; rw [rsum2] at hv9; have hbl9 : Below wc.heap.size wc w9 := bel_bel (by repeat' first | with_reducible exact hbl8 | with_reducible exact hbl7 | with_reducible exact hbl6 | with_reducible exact hbl5 | with_reducible exact hbl4 | with_reducible exact hbl3 | with_reducible exact hbl2 | with_reducible exact hbl1 | with_reducible exact Below.refl _ _ | with_reducible refine Below.new ?_ _ | with_reducible refine Below.drew ?_) hb9; have hs9 := HS.out w9 hbl9)
          | (have hq8 := hbl7; go_at_call 28; refine (farFl_calls (by omega) (by omega) (by omega) (by omega) (QS.mono (l := 12582929) Gbx.out (by decide)) (QS.mono (l := 12582929) Gbz.out (by decide)) Gdx.out Gdz.out (by decide) (HT.out.below (by repeat' first | with_reducible exact hbl7 | with_reducible exact hbl6 | with_reducible exact hbl5 | with_reducible exact hbl4 | with_reducible exact hbl3 | with_reducible exact hbl2 | with_reducible exact hbl1 | with_reducible exact Below.refl _ _ | with_reducible refine Below.new ?_ _ | with_reducible refine Below.drew ?_)) (HM.out.below (by repeat' first | with_reducible exact hbl7 | with_reducible exact hbl6 | with_reducible exact hbl5 | with_reducible exact hbl4 | with_reducible exact hbl3 | with_reducible exact hbl2 | with_reducible exact hbl1 | with_reducible exact Below.refl _ _ | with_reducible refine Below.new ?_ _ | with_reducible refine Below.drew ?_))).mono ?_; rintro e w8 ⟨hb8, _, rfl, g8, rfl, hv8⟩; have hbl8 : Below wc.heap.size wc w8 := bel_bel (by repeat' first | with_reducible exact hbl7 | with_reducible exact hbl6 | with_reducible exact hbl5 | with_reducible exact hbl4 | with_reducible exact hbl3 | with_reducible exact hbl2 | with_reducible exact hbl1 | with_reducible exact Below.refl _ _ | with_reducible refine Below.new ?_ _ | with_reducible refine Below.drew ?_) hb8; have hs8 := HS.out w8 hbl8)
          | (have hq7 := hbl6; go_at_call 28; refine (farFl_calls (by omega) (by omega) (by omega) (by omega) Gax.out Gaz.out Gcx.out Gcz.out (by decide) (HT.out.below (by repeat' first | with_reducible exact hbl6 | with_reducible exact hbl5 | with_reducible exact hbl4 | with_reducible exact hbl3 | with_reducible exact hbl2 | with_reducible exact hbl1 | with_reducible exact Below.refl _ _ | with_reducible refine Below.new ?_ _ | with_reducible refine Below.drew ?_)) (HM.out.below (by repeat' first | with_reducible exact hbl6 | with_reducible exact hbl5 | with_reducible exact hbl4 | with_reducible exact hbl3 | with_reducible exact hbl2 | with_reducible exact hbl1 | with_reducible exact Below.refl _ _ | with_reducible refine Below.new ?_ _ | with_reducible refine Below.drew ?_))).mono ?_; rintro e w7 ⟨hb7, _, rfl, g7, rfl, hv7⟩; have hbl7 : Below wc.heap.size wc w7 := bel_bel (by repeat' first | with_reducible exact hbl6 | with_reducible exact hbl5 | with_reducible exact hbl4 | with_reducible exact hbl3 | with_reducible exact hbl2 | with_reducible exact hbl1 | with_reducible exact Below.refl _ _ | with_reducible refine Below.new ?_ _ | with_reducible refine Below.drew ?_) hb7; have hs7 := HS.out w7 hbl7)
          | (go_at_call 11; refine (pointed_calls _ (HT.out.below (by repeat' first | with_reducible exact hbl5 | with_reducible exact hbl4 | with_reducible exact hbl3 | with_reducible exact hbl2 | with_reducible exact hbl1 | with_reducible exact Below.refl _ _ | with_reducible refine Below.new ?_ _ | with_reducible refine Below.drew ?_))).mono ?_; rintro e w6 ⟨hb6, rfl⟩; have hbl6 : Below wc.heap.size wc w6 := bel_bel (by repeat' first | with_reducible exact hbl5 | with_reducible exact hbl4 | with_reducible exact hbl3 | with_reducible exact hbl2 | with_reducible exact hbl1 | with_reducible exact Below.refl _ _ | with_reducible refine Below.new ?_ _ | with_reducible refine Below.drew ?_) hb6; have hs6 := HS.out w6 hbl6)
          )
      all_goals
        go_wp2_with fail
        go_region_held3 (fun w' => w'.cell? ⟨w.heap.size, 0, none⟩ = some (.string ax) ∧ w'.cell? ⟨w.heap.size, 1, none⟩ = some (.string az) ∧ w'.cell? ⟨w.heap.size + 1, 0, none⟩ = some (.string bx) ∧ w'.cell? ⟨w.heap.size + 1, 1, none⟩ = some (.string bz) ∧ w'.cell? ⟨w.heap.size + 1 + 1, 0, none⟩ = some (.string cx) ∧ w'.cell? ⟨w.heap.size + 1 + 1, 1, none⟩ = some (.string cz) ∧ w'.cell? ⟨w.heap.size + 1 + 1 + 1, 0, none⟩ = some (.string px) ∧ w'.cell? ⟨w.heap.size + 1 + 1 + 1, 1, none⟩ = some (.string pz) ∧ w'.cell? ⟨G0, 0, none⟩ = some (.string dx) ∧ w'.cell? ⟨G0, 1, none⟩ = some (.string dz)) (first | (refine HS.out _ ?_; (repeat' first | with_reducible exact hbl17 | with_reducible exact hbl16 | with_reducible exact hbl15 | with_reducible exact hbl14 | with_reducible exact hbl13 | with_reducible exact hbl12 | with_reducible exact hbl11 | with_reducible exact hbl10 | with_reducible exact hbl9 | with_reducible exact hbl8 | with_reducible exact hbl7 | with_reducible exact hbl6 | with_reducible exact hbl5 | with_reducible exact hbl4 | with_reducible exact hbl3 | with_reducible exact hbl2 | with_reducible exact hbl1 | with_reducible exact Below.refl _ _ | with_reducible refine Below.new ?_ _ | with_reducible refine Below.drew ?_); done) | go_keep)
          (first
            | (have hq17 := hbl16; go_at_call 30; refine (refSub_calls ⟨_, rfl, (by repeat' first | with_reducible exact hv13 | with_reducible refine rv_new _ ?_ | with_reducible refine rv_drew ?_ | with_reducible refine rv_bel hb16 ?_ | with_reducible refine rv_bel hb15 ?_ | with_reducible refine rv_bel hb14 ?_)⟩ ⟨_, rfl, (by repeat' first | with_reducible exact hv16 | with_reducible refine rv_new _ ?_ | with_reducible refine rv_drew ?_)⟩ ((((Gax.out.sub Gpx.out).mul (Gax.out.sub Gpx.out)).add ((Gaz.out.sub Gpz.out).mul (Gaz.out.sub Gpz.out))).add (((Gcx.out.sub Gpx.out).mul (Gcx.out.sub Gpx.out)).add ((Gcz.out.sub Gpz.out).mul (Gcz.out.sub Gpz.out)))) ((((Gbx.out.sub Gpx.out).mul (Gbx.out.sub Gpx.out)).add ((Gbz.out.sub Gpz.out).mul (Gbz.out.sub Gpz.out))).add (((Gdx.out.sub Gpx.out).mul (Gdx.out.sub Gpx.out)).add ((Gdz.out.sub Gpz.out).mul (Gdz.out.sub Gpz.out)))) (by decide)).mono ?_; rintro e w17 ⟨hb17, _, rfl, g17, rfl, hv17⟩; have hbl17 : Below wc.heap.size wc w17 := bel_bel (by repeat' first | with_reducible exact hbl16 | with_reducible exact hbl15 | with_reducible exact hbl14 | with_reducible exact hbl13 | with_reducible exact hbl12 | with_reducible exact hbl11 | with_reducible exact hbl10 | with_reducible exact hbl9 | with_reducible exact hbl8 | with_reducible exact hbl7 | with_reducible exact hbl6 | with_reducible exact hbl5 | with_reducible exact hbl4 | with_reducible exact hbl3 | with_reducible exact hbl2 | with_reducible exact hbl1 | with_reducible exact Below.refl _ _ | with_reducible refine Below.new ?_ _ | with_reducible refine Below.drew ?_) hb17; have hs17 := HS.out w17 hbl17)
            | (have hq16 := hbl15; go_at_call 20; refine (refAdd_calls (rrow2 (by repeat' first | with_reducible exact Blk.new _ _ _ | ((with_reducible refine blk_at ?_); (first | with_reducible rfl | (simp; done))) | with_reducible refine blk_old _ ?_ | with_reducible refine blk_drew ?_ | with_reducible refine blk_bel hb15 ?_ | with_reducible refine blk_bel hb14 ?_ | with_reducible refine blk_bel hb13 ?_ | with_reducible refine blk_bel hb12 ?_ | with_reducible refine blk_bel hb11 ?_ | with_reducible refine blk_bel hb10 ?_ | with_reducible refine blk_bel hb9 ?_ | with_reducible refine blk_bel hb8 ?_ | with_reducible refine blk_bel hb7 ?_ | with_reducible refine blk_bel hb6 ?_ | with_reducible refine blk_bel hb5 ?_ | with_reducible refine blk_bel hb4 ?_ | with_reducible refine blk_bel hb3 ?_ | with_reducible refine blk_bel hb2 ?_ | with_reducible refine blk_bel hb1 ?_) ⟨_, rfl, (by repeat' first | with_reducible exact hv14 | with_reducible refine rv_new _ ?_ | with_reducible refine rv_drew ?_ | with_reducible refine rv_bel hb15 ?_)⟩ ⟨_, rfl, (by repeat' first | with_reducible exact hv15 | with_reducible refine rv_new _ ?_ | with_reducible refine rv_drew ?_)⟩) (all2 (QS.mono (l := 67108957) (((Gbx.out.sub Gpx.out).mul (Gbx.out.sub Gpx.out)).add ((Gbz.out.sub Gpz.out).mul (Gbz.out.sub Gpz.out))) (by decide)) (((Gdx.out.sub Gpx.out).mul (Gdx.out.sub Gpx.out)).add ((Gdz.out.sub Gpz.out).mul (Gdz.out.sub Gpz.out)))) (by simp) (by simp only [List.length_cons, List.length_nil]; omega)).mono ?_; rintro e w16 ⟨hb16, _, rfl, g16, rfl, hv16⟩; rw [rsum2] at hv16; have hbl16 : Below wc.heap.size wc w16 := bel_bel (by repeat' first | with_reducible exact hbl15 | with_reducible exact hbl14 | with_reducible exact hbl13 | with_reducible exact hbl12 | with_reducible exact hbl11 | with_reducible exact hbl10 | with_reducible exact hbl9 | with_reducible exact hbl8 | with_reducible exact hbl7 | with_reducible exact hbl6 | with_reducible exact hbl5 | with_reducible exact hbl4 | with_reducible exact hbl3 | with_reducible exact hbl2 | with_reducible exact hbl1 | with_reducible exact Below.refl _ _ | with_reducible refine Below.new ?_ _ | with_reducible refine Below.drew ?_) hb16; have hs16 := HS.out w16 hbl16)
            | (have hq15 := hbl14; go_at_call 28; refine (farFl_calls (by omega) (by omega) (by omega) (by omega) (QS.mono (l := 12582929) Gpx.out (by decide)) (QS.mono (l := 12582929) Gpz.out (by decide)) Gdx.out Gdz.out (by decide) (HT.out.below (by repeat' first | with_reducible exact hbl14 | with_reducible exact hbl13 | with_reducible exact hbl12 | with_reducible exact hbl11 | with_reducible exact hbl10 | with_reducible exact hbl9 | with_reducible exact hbl8 | with_reducible exact hbl7 | with_reducible exact hbl6 | with_reducible exact hbl5 | with_reducible exact hbl4 | with_reducible exact hbl3 | with_reducible exact hbl2 | with_reducible exact hbl1 | with_reducible exact Below.refl _ _ | with_reducible refine Below.new ?_ _ | with_reducible refine Below.drew ?_)) (HM.out.below (by repeat' first | with_reducible exact hbl14 | with_reducible exact hbl13 | with_reducible exact hbl12 | with_reducible exact hbl11 | with_reducible exact hbl10 | with_reducible exact hbl9 | with_reducible exact hbl8 | with_reducible exact hbl7 | with_reducible exact hbl6 | with_reducible exact hbl5 | with_reducible exact hbl4 | with_reducible exact hbl3 | with_reducible exact hbl2 | with_reducible exact hbl1 | with_reducible exact Below.refl _ _ | with_reducible refine Below.new ?_ _ | with_reducible refine Below.drew ?_))).mono ?_; rintro e w15 ⟨hb15, _, rfl, g15, rfl, hv15⟩; have hbl15 : Below wc.heap.size wc w15 := bel_bel (by repeat' first | with_reducible exact hbl14 | with_reducible exact hbl13 | with_reducible exact hbl12 | with_reducible exact hbl11 | with_reducible exact hbl10 | with_reducible exact hbl9 | with_reducible exact hbl8 | with_reducible exact hbl7 | with_reducible exact hbl6 | with_reducible exact hbl5 | with_reducible exact hbl4 | with_reducible exact hbl3 | with_reducible exact hbl2 | with_reducible exact hbl1 | with_reducible exact Below.refl _ _ | with_reducible refine Below.new ?_ _ | with_reducible refine Below.drew ?_) hb15; have hs15 := HS.out w15 hbl15)
            | (have hq14 := hbl13; go_at_call 28; refine (farFl_calls (by omega) (by omega) (by omega) (by omega) Gpx.out Gpz.out Gbx.out Gbz.out (by decide) (HT.out.below (by repeat' first | with_reducible exact hbl13 | with_reducible exact hbl12 | with_reducible exact hbl11 | with_reducible exact hbl10 | with_reducible exact hbl9 | with_reducible exact hbl8 | with_reducible exact hbl7 | with_reducible exact hbl6 | with_reducible exact hbl5 | with_reducible exact hbl4 | with_reducible exact hbl3 | with_reducible exact hbl2 | with_reducible exact hbl1 | with_reducible exact Below.refl _ _ | with_reducible refine Below.new ?_ _ | with_reducible refine Below.drew ?_)) (HM.out.below (by repeat' first | with_reducible exact hbl13 | with_reducible exact hbl12 | with_reducible exact hbl11 | with_reducible exact hbl10 | with_reducible exact hbl9 | with_reducible exact hbl8 | with_reducible exact hbl7 | with_reducible exact hbl6 | with_reducible exact hbl5 | with_reducible exact hbl4 | with_reducible exact hbl3 | with_reducible exact hbl2 | with_reducible exact hbl1 | with_reducible exact Below.refl _ _ | with_reducible refine Below.new ?_ _ | with_reducible refine Below.drew ?_))).mono ?_; rintro e w14 ⟨hb14, _, rfl, g14, rfl, hv14⟩; have hbl14 : Below wc.heap.size wc w14 := bel_bel (by repeat' first | with_reducible exact hbl13 | with_reducible exact hbl12 | with_reducible exact hbl11 | with_reducible exact hbl10 | with_reducible exact hbl9 | with_reducible exact hbl8 | with_reducible exact hbl7 | with_reducible exact hbl6 | with_reducible exact hbl5 | with_reducible exact hbl4 | with_reducible exact hbl3 | with_reducible exact hbl2 | with_reducible exact hbl1 | with_reducible exact Below.refl _ _ | with_reducible refine Below.new ?_ _ | with_reducible refine Below.drew ?_) hb14; have hs14 := HS.out w14 hbl14)
            | (have hq13 := hbl12; go_at_call 20; refine (refAdd_calls (rrow2 (by repeat' first | with_reducible exact Blk.new _ _ _ | ((with_reducible refine blk_at ?_); (first | with_reducible rfl | (simp; done))) | with_reducible refine blk_old _ ?_ | with_reducible refine blk_drew ?_ | with_reducible refine blk_bel hb12 ?_ | with_reducible refine blk_bel hb11 ?_ | with_reducible refine blk_bel hb10 ?_ | with_reducible refine blk_bel hb9 ?_ | with_reducible refine blk_bel hb8 ?_ | with_reducible refine blk_bel hb7 ?_ | with_reducible refine blk_bel hb6 ?_ | with_reducible refine blk_bel hb5 ?_ | with_reducible refine blk_bel hb4 ?_ | with_reducible refine blk_bel hb3 ?_ | with_reducible refine blk_bel hb2 ?_ | with_reducible refine blk_bel hb1 ?_) ⟨_, rfl, (by repeat' first | with_reducible exact hv11 | with_reducible refine rv_new _ ?_ | with_reducible refine rv_drew ?_ | with_reducible refine rv_bel hb12 ?_)⟩ ⟨_, rfl, (by repeat' first | with_reducible exact hv12 | with_reducible refine rv_new _ ?_ | with_reducible refine rv_drew ?_)⟩) (all2 (((Gax.out.sub Gpx.out).mul (Gax.out.sub Gpx.out)).add ((Gaz.out.sub Gpz.out).mul (Gaz.out.sub Gpz.out))) (((Gcx.out.sub Gpx.out).mul (Gcx.out.sub Gpx.out)).add ((Gcz.out.sub Gpz.out).mul (Gcz.out.sub Gpz.out)))) (by simp) (by simp only [List.length_cons, List.length_nil]; omega)).mono ?_; rintro e w13 ⟨hb13, _, rfl, g13, rfl, hv13⟩; rw [rsum2] at hv13; have hbl13 : Below wc.heap.size wc w13 := bel_bel (by repeat' first | with_reducible exact hbl12 | with_reducible exact hbl11 | with_reducible exact hbl10 | with_reducible exact hbl9 | with_reducible exact hbl8 | with_reducible exact hbl7 | with_reducible exact hbl6 | with_reducible exact hbl5 | with_reducible exact hbl4 | with_reducible exact hbl3 | with_reducible exact hbl2 | with_reducible exact hbl1 | with_reducible exact Below.refl _ _ | with_reducible refine Below.new ?_ _ | with_reducible refine Below.drew ?_) hb13; have hs13 := HS.out w13 hbl13)
            | (have hq12 := hbl11; go_at_call 28; refine (farFl_calls (by omega) (by omega) (by omega) (by omega) Gpx.out Gpz.out Gcx.out Gcz.out (by decide) (HT.out.below (by repeat' first | with_reducible exact hbl11 | with_reducible exact hbl10 | with_reducible exact hbl9 | with_reducible exact hbl8 | with_reducible exact hbl7 | with_reducible exact hbl6 | with_reducible exact hbl5 | with_reducible exact hbl4 | with_reducible exact hbl3 | with_reducible exact hbl2 | with_reducible exact hbl1 | with_reducible exact Below.refl _ _ | with_reducible refine Below.new ?_ _ | with_reducible refine Below.drew ?_)) (HM.out.below (by repeat' first | with_reducible exact hbl11 | with_reducible exact hbl10 | with_reducible exact hbl9 | with_reducible exact hbl8 | with_reducible exact hbl7 | with_reducible exact hbl6 | with_reducible exact hbl5 | with_reducible exact hbl4 | with_reducible exact hbl3 | with_reducible exact hbl2 | with_reducible exact hbl1 | with_reducible exact Below.refl _ _ | with_reducible refine Below.new ?_ _ | with_reducible refine Below.drew ?_))).mono ?_; rintro e w12 ⟨hb12, _, rfl, g12, rfl, hv12⟩; have hbl12 : Below wc.heap.size wc w12 := bel_bel (by repeat' first | with_reducible exact hbl11 | with_reducible exact hbl10 | with_reducible exact hbl9 | with_reducible exact hbl8 | with_reducible exact hbl7 | with_reducible exact hbl6 | with_reducible exact hbl5 | with_reducible exact hbl4 | with_reducible exact hbl3 | with_reducible exact hbl2 | with_reducible exact hbl1 | with_reducible exact Below.refl _ _ | with_reducible refine Below.new ?_ _ | with_reducible refine Below.drew ?_) hb12; have hs12 := HS.out w12 hbl12)
            | (go_at_call 28; refine (farFl_calls (by omega) (by omega) (by omega) (by omega) Gpx.out Gpz.out Gax.out Gaz.out (by decide) (HT.out.below (by repeat' first | with_reducible exact hbl10 | with_reducible exact hbl9 | with_reducible exact hbl8 | with_reducible exact hbl7 | with_reducible exact hbl6 | with_reducible exact hbl5 | with_reducible exact hbl4 | with_reducible exact hbl3 | with_reducible exact hbl2 | with_reducible exact hbl1 | with_reducible exact Below.refl _ _ | with_reducible refine Below.new ?_ _ | with_reducible refine Below.drew ?_)) (HM.out.below (by repeat' first | with_reducible exact hbl10 | with_reducible exact hbl9 | with_reducible exact hbl8 | with_reducible exact hbl7 | with_reducible exact hbl6 | with_reducible exact hbl5 | with_reducible exact hbl4 | with_reducible exact hbl3 | with_reducible exact hbl2 | with_reducible exact hbl1 | with_reducible exact Below.refl _ _ | with_reducible refine Below.new ?_ _ | with_reducible refine Below.drew ?_))).mono ?_; rintro e w11 ⟨hb11, _, rfl, g11, rfl, hv11⟩; have hbl11 : Below wc.heap.size wc w11 := bel_bel (by repeat' first | with_reducible exact hbl10 | with_reducible exact hbl9 | with_reducible exact hbl8 | with_reducible exact hbl7 | with_reducible exact hbl6 | with_reducible exact hbl5 | with_reducible exact hbl4 | with_reducible exact hbl3 | with_reducible exact hbl2 | with_reducible exact hbl1 | with_reducible exact Below.refl _ _ | with_reducible refine Below.new ?_ _ | with_reducible refine Below.drew ?_) hb11; have hs11 := HS.out w11 hbl11)
            )
        all_goals
          go_wp2_with fail
          go_region_held3 (fun w' => w'.cell? ⟨w.heap.size, 0, none⟩ = some (.string ax) ∧ w'.cell? ⟨w.heap.size, 1, none⟩ = some (.string az) ∧ w'.cell? ⟨w.heap.size + 1, 0, none⟩ = some (.string bx) ∧ w'.cell? ⟨w.heap.size + 1, 1, none⟩ = some (.string bz) ∧ w'.cell? ⟨w.heap.size + 1 + 1, 0, none⟩ = some (.string cx) ∧ w'.cell? ⟨w.heap.size + 1 + 1, 1, none⟩ = some (.string cz) ∧ w'.cell? ⟨w.heap.size + 1 + 1 + 1, 0, none⟩ = some (.string px) ∧ w'.cell? ⟨w.heap.size + 1 + 1 + 1, 1, none⟩ = some (.string pz) ∧ w'.cell? ⟨G0, 0, none⟩ = some (.string dx) ∧ w'.cell? ⟨G0, 1, none⟩ = some (.string dz)) (first | (refine HS.out _ ?_; (repeat' first | with_reducible exact hbl23 | with_reducible exact hbl22 | with_reducible exact hbl21 | with_reducible exact hbl20 | with_reducible exact hbl19 | with_reducible exact hbl18 | with_reducible exact hbl17 | with_reducible exact hbl16 | with_reducible exact hbl15 | with_reducible exact hbl14 | with_reducible exact hbl13 | with_reducible exact hbl12 | with_reducible exact hbl11 | with_reducible exact hbl10 | with_reducible exact hbl9 | with_reducible exact hbl8 | with_reducible exact hbl7 | with_reducible exact hbl6 | with_reducible exact hbl5 | with_reducible exact hbl4 | with_reducible exact hbl3 | with_reducible exact hbl2 | with_reducible exact hbl1 | with_reducible exact Below.refl _ _ | with_reducible refine Below.new ?_ _ | with_reducible refine Below.drew ?_); done) | go_keep)
            (first
              | (have hq23 := hbl22; go_at_call 24; refine (refEq_calls ⟨_, rfl, (by repeat' first | with_reducible exact hv17 | with_reducible refine rv_new _ ?_ | with_reducible refine rv_drew ?_ | with_reducible refine rv_bel hb22 ?_ | with_reducible refine rv_bel hb21 ?_ | with_reducible refine rv_bel hb20 ?_ | with_reducible refine rv_bel hb19 ?_ | with_reducible refine rv_bel hb18 ?_)⟩ ⟨_, rfl, (by repeat' first | with_reducible exact hv22 | with_reducible refine rv_new _ ?_ | with_reducible refine rv_drew ?_)⟩ (((((Gax.out.sub Gpx.out).mul (Gax.out.sub Gpx.out)).add ((Gaz.out.sub Gpz.out).mul (Gaz.out.sub Gpz.out))).add (((Gcx.out.sub Gpx.out).mul (Gcx.out.sub Gpx.out)).add ((Gcz.out.sub Gpz.out).mul (Gcz.out.sub Gpz.out)))).sub ((((Gbx.out.sub Gpx.out).mul (Gbx.out.sub Gpx.out)).add ((Gbz.out.sub Gpz.out).mul (Gbz.out.sub Gpz.out))).add (((Gdx.out.sub Gpx.out).mul (Gdx.out.sub Gpx.out)).add ((Gdz.out.sub Gpz.out).mul (Gdz.out.sub Gpz.out))))) (((((Gcx.out.sub Gax.out).mul (Gcx.out.sub Gax.out)).add ((Gcz.out.sub Gaz.out).mul (Gcz.out.sub Gaz.out))).sub (((Gdx.out.sub Gbx.out).mul (Gdx.out.sub Gbx.out)).add ((Gdz.out.sub Gbz.out).mul (Gdz.out.sub Gbz.out)))).div qs_2) (by decide)).mono ?_; rintro e w23 ⟨hb23, rfl⟩; rw [decide_eq_true (flags2 _ _ _ _ _ _ _ _ _ _ EX.out.1 EX.out.2)]; have hbl23 : Below wc.heap.size wc w23 := bel_bel (by repeat' first | with_reducible exact hbl22 | with_reducible exact hbl21 | with_reducible exact hbl20 | with_reducible exact hbl19 | with_reducible exact hbl18 | with_reducible exact hbl17 | with_reducible exact hbl16 | with_reducible exact hbl15 | with_reducible exact hbl14 | with_reducible exact hbl13 | with_reducible exact hbl12 | with_reducible exact hbl11 | with_reducible exact hbl10 | with_reducible exact hbl9 | with_reducible exact hbl8 | with_reducible exact hbl7 | with_reducible exact hbl6 | with_reducible exact hbl5 | with_reducible exact hbl4 | with_reducible exact hbl3 | with_reducible exact hbl2 | with_reducible exact hbl1 | with_reducible exact Below.refl _ _ | with_reducible refine Below.new ?_ _ | with_reducible refine Below.drew ?_) hb23; have hs23 := HS.out w23 hbl23)
              | (have hq22 := hbl21; go_at_call 31; refine (refQuo_calls ⟨_, rfl, (by repeat' first | with_reducible exact hv20 | with_reducible refine rv_new _ ?_ | with_reducible refine rv_drew ?_ | with_reducible refine rv_bel hb21 ?_)⟩ ⟨_, rfl, (by repeat' first | with_reducible exact hv21 | with_reducible refine rv_new _ ?_ | with_reducible refine rv_drew ?_)⟩ ((((Gcx.out.sub Gax.out).mul (Gcx.out.sub Gax.out)).add ((Gcz.out.sub Gaz.out).mul (Gcz.out.sub Gaz.out))).sub (((Gdx.out.sub Gbx.out).mul (Gdx.out.sub Gbx.out)).add ((Gdz.out.sub Gbz.out).mul (Gdz.out.sub Gbz.out)))) qs_2 (by decide) (n := 2) rfl (by decide)).mono ?_; rintro e w22 ⟨hb22, _, rfl, g22, rfl, hv22⟩; have hbl22 : Below wc.heap.size wc w22 := bel_bel (by repeat' first | with_reducible exact hbl21 | with_reducible exact hbl20 | with_reducible exact hbl19 | with_reducible exact hbl18 | with_reducible exact hbl17 | with_reducible exact hbl16 | with_reducible exact hbl15 | with_reducible exact hbl14 | with_reducible exact hbl13 | with_reducible exact hbl12 | with_reducible exact hbl11 | with_reducible exact hbl10 | with_reducible exact hbl9 | with_reducible exact hbl8 | with_reducible exact hbl7 | with_reducible exact hbl6 | with_reducible exact hbl5 | with_reducible exact hbl4 | with_reducible exact hbl3 | with_reducible exact hbl2 | with_reducible exact hbl1 | with_reducible exact Below.refl _ _ | with_reducible refine Below.new ?_ _ | with_reducible refine Below.drew ?_) hb22; have hs22 := HS.out w22 hbl22)
              | (have hq21 := hbl20; go_at_call 26; refine (refNP_calls 2 (by decide) _).mono ?_; rintro e w21 ⟨hb21, _, rfl, g21, rfl, hv21⟩; have hbl21 : Below wc.heap.size wc w21 := bel_bel (by repeat' first | with_reducible exact hbl20 | with_reducible exact hbl19 | with_reducible exact hbl18 | with_reducible exact hbl17 | with_reducible exact hbl16 | with_reducible exact hbl15 | with_reducible exact hbl14 | with_reducible exact hbl13 | with_reducible exact hbl12 | with_reducible exact hbl11 | with_reducible exact hbl10 | with_reducible exact hbl9 | with_reducible exact hbl8 | with_reducible exact hbl7 | with_reducible exact hbl6 | with_reducible exact hbl5 | with_reducible exact hbl4 | with_reducible exact hbl3 | with_reducible exact hbl2 | with_reducible exact hbl1 | with_reducible exact Below.refl _ _ | with_reducible refine Below.new ?_ _ | with_reducible refine Below.drew ?_) hb21; have hs21 := HS.out w21 hbl21)
              | (have hq20 := hbl19; go_at_call 30; refine (refSub_calls ⟨_, rfl, (by repeat' first | with_reducible exact hv18 | with_reducible refine rv_new _ ?_ | with_reducible refine rv_drew ?_ | with_reducible refine rv_bel hb19 ?_)⟩ ⟨_, rfl, (by repeat' first | with_reducible exact hv19 | with_reducible refine rv_new _ ?_ | with_reducible refine rv_drew ?_)⟩ (((Gcx.out.sub Gax.out).mul (Gcx.out.sub Gax.out)).add ((Gcz.out.sub Gaz.out).mul (Gcz.out.sub Gaz.out))) (((Gdx.out.sub Gbx.out).mul (Gdx.out.sub Gbx.out)).add ((Gdz.out.sub Gbz.out).mul (Gdz.out.sub Gbz.out))) (by decide)).mono ?_; rintro e w20 ⟨hb20, _, rfl, g20, rfl, hv20⟩; have hbl20 : Below wc.heap.size wc w20 := bel_bel (by repeat' first | with_reducible exact hbl19 | with_reducible exact hbl18 | with_reducible exact hbl17 | with_reducible exact hbl16 | with_reducible exact hbl15 | with_reducible exact hbl14 | with_reducible exact hbl13 | with_reducible exact hbl12 | with_reducible exact hbl11 | with_reducible exact hbl10 | with_reducible exact hbl9 | with_reducible exact hbl8 | with_reducible exact hbl7 | with_reducible exact hbl6 | with_reducible exact hbl5 | with_reducible exact hbl4 | with_reducible exact hbl3 | with_reducible exact hbl2 | with_reducible exact hbl1 | with_reducible exact Below.refl _ _ | with_reducible refine Below.new ?_ _ | with_reducible refine Below.drew ?_) hb20; have hs20 := HS.out w20 hbl20)
              | (have hq19 := hbl18; go_at_call 28; refine (farFl_calls (by omega) (by omega) (by omega) (by omega) (QS.mono (l := 12582929) Gbx.out (by decide)) (QS.mono (l := 12582929) Gbz.out (by decide)) Gdx.out Gdz.out (by decide) (HT.out.below (by repeat' first | with_reducible exact hbl18 | with_reducible exact hbl17 | with_reducible exact hbl16 | with_reducible exact hbl15 | with_reducible exact hbl14 | with_reducible exact hbl13 | with_reducible exact hbl12 | with_reducible exact hbl11 | with_reducible exact hbl10 | with_reducible exact hbl9 | with_reducible exact hbl8 | with_reducible exact hbl7 | with_reducible exact hbl6 | with_reducible exact hbl5 | with_reducible exact hbl4 | with_reducible exact hbl3 | with_reducible exact hbl2 | with_reducible exact hbl1 | with_reducible exact Below.refl _ _ | with_reducible refine Below.new ?_ _ | with_reducible refine Below.drew ?_)) (HM.out.below (by repeat' first | with_reducible exact hbl18 | with_reducible exact hbl17 | with_reducible exact hbl16 | with_reducible exact hbl15 | with_reducible exact hbl14 | with_reducible exact hbl13 | with_reducible exact hbl12 | with_reducible exact hbl11 | with_reducible exact hbl10 | with_reducible exact hbl9 | with_reducible exact hbl8 | with_reducible exact hbl7 | with_reducible exact hbl6 | with_reducible exact hbl5 | with_reducible exact hbl4 | with_reducible exact hbl3 | with_reducible exact hbl2 | with_reducible exact hbl1 | with_reducible exact Below.refl _ _ | with_reducible refine Below.new ?_ _ | with_reducible refine Below.drew ?_))).mono ?_; rintro e w19 ⟨hb19, _, rfl, g19, rfl, hv19⟩; have hbl19 : Below wc.heap.size wc w19 := bel_bel (by repeat' first | with_reducible exact hbl18 | with_reducible exact hbl17 | with_reducible exact hbl16 | with_reducible exact hbl15 | with_reducible exact hbl14 | with_reducible exact hbl13 | with_reducible exact hbl12 | with_reducible exact hbl11 | with_reducible exact hbl10 | with_reducible exact hbl9 | with_reducible exact hbl8 | with_reducible exact hbl7 | with_reducible exact hbl6 | with_reducible exact hbl5 | with_reducible exact hbl4 | with_reducible exact hbl3 | with_reducible exact hbl2 | with_reducible exact hbl1 | with_reducible exact Below.refl _ _ | with_reducible refine Below.new ?_ _ | with_reducible refine Below.drew ?_) hb19; have hs19 := HS.out w19 hbl19)
              | (go_at_call 28; refine (farFl_calls (by omega) (by omega) (by omega) (by omega) Gax.out Gaz.out Gcx.out Gcz.out (by decide) (HT.out.below (by repeat' first | with_reducible exact hbl17 | with_reducible exact hbl16 | with_reducible exact hbl15 | with_reducible exact hbl14 | with_reducible exact hbl13 | with_reducible exact hbl12 | with_reducible exact hbl11 | with_reducible exact hbl10 | with_reducible exact hbl9 | with_reducible exact hbl8 | with_reducible exact hbl7 | with_reducible exact hbl6 | with_reducible exact hbl5 | with_reducible exact hbl4 | with_reducible exact hbl3 | with_reducible exact hbl2 | with_reducible exact hbl1 | with_reducible exact Below.refl _ _ | with_reducible refine Below.new ?_ _ | with_reducible refine Below.drew ?_)) (HM.out.below (by repeat' first | with_reducible exact hbl17 | with_reducible exact hbl16 | with_reducible exact hbl15 | with_reducible exact hbl14 | with_reducible exact hbl13 | with_reducible exact hbl12 | with_reducible exact hbl11 | with_reducible exact hbl10 | with_reducible exact hbl9 | with_reducible exact hbl8 | with_reducible exact hbl7 | with_reducible exact hbl6 | with_reducible exact hbl5 | with_reducible exact hbl4 | with_reducible exact hbl3 | with_reducible exact hbl2 | with_reducible exact hbl1 | with_reducible exact Below.refl _ _ | with_reducible refine Below.new ?_ _ | with_reducible refine Below.drew ?_))).mono ?_; rintro e w18 ⟨hb18, _, rfl, g18, rfl, hv18⟩; have hbl18 : Below wc.heap.size wc w18 := bel_bel (by repeat' first | with_reducible exact hbl17 | with_reducible exact hbl16 | with_reducible exact hbl15 | with_reducible exact hbl14 | with_reducible exact hbl13 | with_reducible exact hbl12 | with_reducible exact hbl11 | with_reducible exact hbl10 | with_reducible exact hbl9 | with_reducible exact hbl8 | with_reducible exact hbl7 | with_reducible exact hbl6 | with_reducible exact hbl5 | with_reducible exact hbl4 | with_reducible exact hbl3 | with_reducible exact hbl2 | with_reducible exact hbl1 | with_reducible exact Below.refl _ _ | with_reducible refine Below.new ?_ _ | with_reducible refine Below.drew ?_) hb18; have hs18 := HS.out w18 hbl18)
              )
          all_goals
            go_wp2
            go_ret
            exact ⟨bel_bel HBC.out hbl23, by first | rfl | simp⟩
end Go.Proofs.YtpalknbmejachaaGreatDoor
