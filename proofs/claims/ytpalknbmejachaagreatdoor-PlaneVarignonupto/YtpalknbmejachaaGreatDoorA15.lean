/- Part 15 of the walks of the packages num, way, ruler, line and plane, and of the mathematics under them: RegInv RBX RBY WAG RP. -/
import Derived.Deep.RegionHeld3
import Derived.Test.YtpalknbmejachaaGreatDoorA14
import Derived.Test.YtpalknbmejachaaGreatDoorA10
/- A region that draws its order of evaluation, by an invariant: each operation is run once, whatever the order. -/
namespace Cx
open Go

/-- The state a0 in which the operations from number i on have left what τ says. -/
def putAll (a0 : Act) (τ : Nat → Value) : Nat → List Oper → Act
  | _, [] => a0
  | i, o :: os => putAll (a0.put o.dst (τ i)) τ (i + 1) os

def updOp (τ : Nat → Value) (i : Nat) (v : Value) : Nat → Value := fun j => if j = i then v else τ j
theorem updOp_at (τ : Nat → Value) (i : Nat) (v : Value) : updOp τ i v i = v := if_pos rfl
theorem updOp_ne (τ : Nat → Value) {i j : Nat} (v : Value) (h : j ≠ i) : updOp τ i v j = τ j := if_neg h

theorem putAll_upd_lt (τ : Nat → Value) (v : Value) (k : Nat) : ∀ (os : List Oper) (a0 : Act) (i : Nat), k < i → putAll a0 (updOp τ k v) i os = putAll a0 τ i os
  | [], _, _, _ => rfl
  | o :: os, a0, i, h => by
    show putAll (a0.put o.dst (updOp τ k v i)) _ (i + 1) os = _
    rw [updOp_ne τ v (by omega : i ≠ k), putAll_upd_lt τ v k os _ (i + 1) (by omega)]
    rfl

theorem put_same (a : Act) (d : Option Tmp) (u v : Value) : (a.put d u).put d v = a.put d v := by
  cases d with
  | none => rfl
  | some d => simp [Act.put]

theorem put_swap (a : Act) {d e : Option Tmp} (u v : Value) (h : ∀ x, d = some x → e ≠ some x) : (a.put d u).put e v = (a.put e v).put d u := by
  cases d with
  | none => rfl
  | some d =>
    cases e with
    | none => rfl
    | some e =>
      have hne : d ≠ e := fun q => h d rfl (by rw [q])
      simp only [Act.put]
      rw [Array.setIfInBounds_comm _ _ hne]

theorem putAll_put (τ : Nat → Value) (d : Option Tmp) (v : Value) : ∀ (os : List Oper) (b : Act) (i : Nat), (∀ x, d = some x → x ∉ os.filterMap (·.dst)) → (putAll b τ i os).put d v = putAll (b.put d v) τ i os
  | [], _, _, _ => rfl
  | o :: os, b, i, h => by
    show (putAll (b.put o.dst (τ i)) τ (i + 1) os).put d v = putAll ((b.put d v).put o.dst (τ i)) τ (i + 1) os
    rw [putAll_put τ d v os _ (i + 1) (fun x hx hm => h x hx (by
      cases ho : o.dst with
      | none => rw [List.filterMap_cons_none ho]; exact hm
      | some y => rw [List.filterMap_cons_some ho]; exact List.mem_cons_of_mem _ hm))]
    rw [put_swap]
    intro x hx hd
    refine h x hd ?_
    rw [List.filterMap_cons_some hx]
    exact List.mem_cons_self

theorem putAll_upd (τ : Nat → Value) (v : Value) : ∀ (os : List Oper) (a0 : Act) (i k : Nat) (o : Oper), (os.filterMap (·.dst)).Nodup → os[k]? = some o →
    (putAll a0 τ i os).put o.dst v = putAll a0 (updOp τ (i + k) v) i os
  | [], _, _, _, _, _, h => by simp at h
  | p :: os, a0, i, 0, o, hn, h => by
    have e : p = o := by simpa using h
    subst e
    show (putAll (a0.put p.dst (τ i)) τ (i + 1) os).put p.dst v = putAll (a0.put p.dst (updOp τ i v i)) (updOp τ i v) (i + 1) os
    have hnot : ∀ x, p.dst = some x → x ∉ os.filterMap (·.dst) := fun x hx => by
      rw [List.filterMap_cons_some hx] at hn
      exact (List.nodup_cons.1 hn).1
    rw [putAll_put τ _ v os _ _ hnot, put_same, updOp_at, putAll_upd_lt τ v i os _ (i + 1) (by omega)]
  | p :: os, a0, i, k + 1, o, hn, h => by
    have h' : os[k]? = some o := by simpa using h
    have hn' : (os.filterMap (·.dst)).Nodup := by
      cases hp : p.dst with
      | none => rwa [List.filterMap_cons_none hp] at hn
      | some y => rw [List.filterMap_cons_some hp] at hn; exact (List.nodup_cons.1 hn).2
    show (putAll (a0.put p.dst (τ i)) τ (i + 1) os).put o.dst v = putAll (a0.put p.dst (updOp τ (i + (k + 1)) v i)) (updOp τ (i + (k + 1)) v) (i + 1) os
    rw [putAll_upd τ v os _ (i + 1) k o hn' h', updOp_ne τ v (by omega : i ≠ i + (k + 1))]
    rw [show i + 1 + k = i + (k + 1) by omega]

/-- What stands in the state ahead of the region. -/
def beforeOps (a0 : Act) (os : List Oper) : Nat → Value := fun j => match (os[j]?).bind (·.dst) with
  | some d => a0.tmps.getD d undef
  | none => undef

theorem put_self (a : Act) (d : Tmp) : a.put (some d) (a.tmps.getD d undef) = a := by
  show { a with tmps := a.tmps.setIfInBounds d (a.tmps.getD d undef) } = a
  have : a.tmps.setIfInBounds d (a.tmps.getD d undef) = a.tmps := by
    apply Array.ext
    · simp
    · intro i h1 h2
      by_cases hi : d = i
      · subst hi
        simp [Array.getD, h2]
      · rw [Array.getElem_setIfInBounds_ne h2 hi]
  rw [this]

theorem putAll_before (a0 : Act) (all : List Oper) : ∀ (os : List Oper) (i : Nat), (∀ k, os[k]? = all[i + k]?) → putAll a0 (beforeOps a0 all) i os = a0
  | [], _, _ => rfl
  | o :: os, i, h => by
    show putAll (a0.put o.dst (beforeOps a0 all i)) _ (i + 1) os = a0
    have h0 : some o = all[i]? := by simpa using h 0
    have e : a0.put o.dst (beforeOps a0 all i) = a0 := by
      unfold beforeOps
      rw [← h0]
      cases hd : o.dst with
      | none => rfl
      | some d => simpa [hd] using put_self a0 d
    rw [e]
    exact putAll_before a0 all os (i + 1) (fun k => by have := h (k + 1); simp at this; rw [this]; congr 1; omega)

section
variable (P : Program) (Q : Exit → Act → World → Prop) (all : List Oper) (a0 : Act) (Inv : (Nat → Prop) → (Nat → Value) → World → Prop)

/-- Operation number i, o, run in any state that meets the invariant in which what it waits for is done. -/
def OpStep (i : Nat) (o : Oper) : Prop :=
  ∀ (d : Nat → Prop) (τ : Nat → Value) (w : World), (∀ e ∈ o.after, Region.binds .any e = true → d e.on) → ¬ d i → Inv d τ w →
    ∀ K : Act → World → Prop, Shut (∀ v w', Inv (fun j => j = i ∨ d j) (updOp τ i v) w' → K ((putAll a0 τ 0 all).put o.dst v) w') →
      if Region.wanted o (yielded all.toArray (putAll a0 τ 0 all).tmps) = true then Oper.wp P o (putAll a0 τ 0 all) w K Q else K ((putAll a0 τ 0 all).put o.dst undef) w

def OpSteps : Nat → List Oper → Prop
  | _, [] => True
  | i, o :: os => OpStep P Q all a0 Inv i o ∧ OpSteps (i + 1) os
end

theorem OpSteps.get {P : Program} {Q : Exit → Act → World → Prop} {all : List Oper} {a0 : Act} {Inv : (Nat → Prop) → (Nat → Value) → World → Prop} : ∀ {os : List Oper} {i k : Nat} {o : Oper}, OpSteps P Q all a0 Inv i os → os[k]? = some o → OpStep P Q all a0 Inv (i + k) o
  | [], _, _, _, _, h => by simp at h
  | p :: os, i, 0, o, hs, h => by
    have e : p = o := by simpa using h
    subst e
    exact hs.1
  | p :: os, i, k + 1, o, hs, h => by
    have h' : os[k]? = some o := by simpa using h
    have := OpSteps.get hs.2 h'
    rwa [show i + 1 + k = i + (k + 1) by omega] at this

theorem OpSteps.nil {P : Program} {Q : Exit → Act → World → Prop} {all : List Oper} {a0 : Act} {Inv : (Nat → Prop) → (Nat → Value) → World → Prop} {i : Nat} : OpSteps P Q all a0 Inv i [] := trivial
theorem OpSteps.cons {P : Program} {Q : Exit → Act → World → Prop} {all : List Oper} {a0 : Act} {Inv : (Nat → Prop) → (Nat → Value) → World → Prop} {i : Nat} {o : Oper} {os : List Oper} (h : OpStep P Q all a0 Inv i o) (hs : OpSteps P Q all a0 Inv (i + 1) os) : OpSteps P Q all a0 Inv i (o :: os) := ⟨h, hs⟩

/-- What is kept: of another operation, of this one. -/
theorem fact_old {d : Nat → Prop} {τ : Nat → Value} {w w' : World} {v : Value} {i j : Nat} {F : Value → World → Prop} (hne : j ≠ i) (h : d j → F (τ j) w) (k : F (τ j) w → F (τ j) w') : (j = i ∨ d j) → F (updOp τ i v j) w' := fun hh => by
  rw [updOp_ne τ v hne]
  exact k (h (hh.resolve_left hne))
theorem fact_new {d : Nat → Prop} {τ : Nat → Value} {w' : World} {v : Value} {i : Nat} {F : Value → World → Prop} (h : F v w') : (i = i ∨ d i) → F (updOp τ i v i) w' := fun _ => by
  rw [updOp_at]
  exact h

/-- Each operation waits for earlier ones alone. -/
def topoOps : Nat → List Oper → Bool
  | _, [] => true
  | i, o :: os => o.after.all (fun e => !Region.binds .any e || decide (e.on < i)) && topoOps (i + 1) os

theorem topoOps.get : ∀ {os : List Oper} {i k : Nat} {o : Oper}, topoOps i os = true → os[k]? = some o → ∀ e ∈ o.after, Region.binds .any e = true → e.on < i + k
  | [], _, _, _, _, h => by simp at h
  | p :: os, i, 0, o, ht, h => by
    have e : p = o := by simpa using h
    subst e
    simp only [topoOps, Bool.and_eq_true, Array.all_eq_true_iff_forall_mem, Bool.or_eq_true, Bool.not_eq_true', decide_eq_true_eq] at ht
    intro e he hb
    rcases ht.1 e he with h | h
    · rw [hb] at h; cases h
    · exact h
  | p :: os, i, k + 1, o, ht, h => by
    have h' : os[k]? = some o := by simpa using h
    simp only [topoOps, Bool.and_eq_true] at ht
    have := topoOps.get ht.2 h'
    intro e he hb
    have := this e he hb
    omega

theorem all_listed {os : List Oper} (ht : topoOps 0 os = true) {l : Array Bool} (hl : l.size = os.length) (hr : Region.ready .any os.toArray l = []) : ∀ j, j < os.length → l.getD j false = true := by
  intro j
  induction j using Nat.strongRecOn with
  | ind j ih =>
    intro hj
    have hlj : j < l.size := by omega
    by_cases h : l.getD j false = true
    · exact h
    · exfalso
      obtain ⟨o, ho⟩ : ∃ o, os[j]? = some o := ⟨os[j], by simp [hj]⟩
      have hm : j ∈ Region.ready .any os.toArray l := mem_ready.2 ⟨by
        have : l.getD j false = false := by simpa using h
        simpa [Array.getD, hlj] using this, o, by simpa using ho, fun e he hb => ih e.on (by have := topoOps.get ht ho e he hb; omega) (by have := topoOps.get ht ho e he hb; omega)⟩
      rw [hr] at hm
      cases hm

theorem wpAny_inv {P : Program} {Q : Exit → Act → World → Prop} {os : List Oper} {a0 : Act} {Inv : (Nat → Prop) → (Nat → Value) → World → Prop}
    (hn : (os.filterMap (·.dst)).Nodup) (ht : topoOps 0 os = true) (hs : OpSteps P Q os a0 Inv 0 os)
    (hd : ∀ d τ w, (∀ j, j < os.length → d j) → Inv d τ w → Q .normal (putAll a0 τ 0 os) w) :
    ∀ (fuel : Nat) (l : Array Bool) (τ : Nat → Value) (w : World), l.size = os.length → (List.range os.length).countP (fun i => !l.getD i true) ≤ fuel → Inv (fun j => l.getD j false = true) τ w →
      wpAny P .any os.toArray Q fuel l (putAll a0 τ 0 os) w := by
  intro fuel
  induction fuel with
  | zero =>
    intro l τ w hl hc hI
    have hr : Region.ready .any os.toArray l = [] := by
      rw [List.eq_nil_iff_forall_not_mem]
      intro j hj
      obtain ⟨h1, o, ho, _⟩ := mem_ready.1 hj
      have hj' : j < os.length := by
        have := (Array.getElem?_eq_some_iff.1 ho).1
        simpa using this
      have hp : 0 < (List.range os.length).countP (fun i => !l.getD i true) := List.countP_pos_iff.2 ⟨j, List.mem_range.2 hj', by simp only [h1]; rfl⟩
      omega
    exact ⟨hr, hd _ τ w (all_listed ht hl hr) hI⟩
  | succ fuel ih =>
    intro l τ w hl hc hI
    refine ⟨fun hr => hd _ τ w (all_listed ht hl hr) hI, fun i hi => ?_⟩
    obtain ⟨h1, o, ho, haft⟩ := mem_ready.1 hi
    have hi' : i < os.length := by
      have := (Array.getElem?_eq_some_iff.1 ho).1
      simpa using this
    have ho' : os[i]? = some o := by simpa using ho
    have hst := OpSteps.get hs ho'
    rw [Nat.zero_add] at hst
    refine wpOp_step ho (fun K hK => hst _ τ w haft (fun hc => by
      have hlt : i < l.size := by omega
      simp [Array.getD, hlt] at h1 hc
      rw [h1] at hc
      cases hc) hI K (fun v w' hI' => hK _ _ ?_))
    rw [putAll_upd τ v os a0 0 i o hn ho', Nat.zero_add]
    have hset : (fun j => (l.setIfInBounds i true).getD j false = true) = (fun j => j = i ∨ l.getD j false = true) := by
      funext j
      apply propext
      by_cases hij : i = j
      · subst hij
        have : i < l.size := by omega
        simp [Array.getD, this]
      · rw [getD_set_ne false hij]
        constructor
        · exact Or.inr
        · rintro (h | h)
          · exact absurd h.symm hij
          · exact h
    refine ih (l.setIfInBounds i true) (updOp τ i v) w' (by simpa using hl) ?_ (by rw [hset]; exact hI')
    have hlt : (List.range os.length).countP (fun j => !(l.setIfInBounds i true).getD j true) < (List.range os.length).countP (fun j => !l.getD j true) := by
      have hsplit := List.mem_range.2 hi'
      obtain ⟨s, t, e⟩ := List.append_of_mem hsplit
      have hnd : (List.range os.length).Nodup := List.nodup_range
      rw [e] at hnd ⊢
      have hmono : ∀ (u : List Nat), i ∉ u → u.countP (fun j => !(l.setIfInBounds i true).getD j true) = u.countP (fun j => !l.getD j true) := by
        intro u hu
        apply List.countP_congr
        intro x hx
        have hne : i ≠ x := fun q => hu (q ▸ hx)
        rw [getD_set_ne true hne]
      have hsn : i ∉ s := fun h => by
        have := List.nodup_append.1 hnd
        exact this.2.2 i h i List.mem_cons_self rfl
      have htn : i ∉ t := (List.nodup_cons.1 (List.nodup_append.1 hnd).2.1).1
      rw [List.countP_append, List.countP_append, hmono s hsn, List.countP_cons, List.countP_cons, hmono t htn]
      have h2 : (l.setIfInBounds i true).getD i true = true := by
        have : i < l.size := by omega
        simp [Array.getD, this]
      rw [h2, h1]
      simp
    omega

/-- A region that draws its order, by an invariant. -/
theorem region_inv {P : Program} {Q : Exit → Act → World → Prop} {os : List Oper} {a0 : Act} {w0 : World} {id : Nat} (Inv : (Nat → Prop) → (Nat → Value) → World → Prop)
    (hm : P.follows .mixedOrders = true) (hn : (os.filterMap (·.dst)).Nodup) (ht : topoOps 0 os = true)
    (h0 : ∀ τ, Inv (fun _ => False) τ w0.drew) (hs : OpSteps P Q os a0 Inv 0 os)
    (hd : ∀ d τ w, (∀ j, j < os.length → d j) → Inv d τ w → Q .normal (putAll a0 τ 0 os) w) :
    (Code.region id os.toArray true).wp P Q a0 w0 := by
  refine wp_region_any hm ?_
  have := wpAny_inv hn ht hs hd os.length (Array.replicate os.length false) (beforeOps a0 os) w0.drew (by simp) (by
    have := List.countP_le_length (p := fun i => !(Array.replicate os.length false).getD i true) (l := List.range os.length)
    simpa using this) (by
    have e : (fun j => (Array.replicate os.length false).getD j false = true) = (fun _ : Nat => False) := by
      funext j
      apply propext
      by_cases h : j < os.length <;> simp [Array.getD, h]
    rw [e]
    exact h0 _)
  rw [putAll_before a0 os os 0 (fun k => by rw [Nat.zero_add])] at this
  rw [show os.toArray.size = os.length by simp]
  exact this
end Cx
/- Boxes of points that a region makes, in whatever order. -/
namespace Go.Proofs.YtpalknbmejachaaGreatDoor
open Go.RowKit Cx

/-- A pointer to a block that is there, made behind the world W. -/
def Pb (W : World) (v : Value) (w : World) : Prop := ∃ G, v = .pointer (some ⟨G, 0, none⟩) ∧ W.heap.size ≤ G ∧ G < w.heap.size
/-- A pointer to a box of nothing yet. -/
def Zb (W : World) (v : Value) (w : World) : Prop := ∃ G, v = .pointer (some ⟨G, 0, none⟩) ∧ W.heap.size ≤ G ∧ Blk w G #[.pointer none, .pointer none] 30
/-- A pointer to a box of the point (x, y). -/
def Vb (W : World) (x y : Rat) (v : Value) (w : World) : Prop := ∃ G p q, v = .pointer (some ⟨G, 0, none⟩) ∧ W.heap.size ≤ G ∧ Blk w G #[p, q] 30 ∧ PR w p x ∧ PR w q y
/-- The value is X. -/
def Is (X : Value) (v : Value) (_ : World) : Prop := v = X
/-- The value is the point (x, y). -/
def Vv (x y : Rat) (v : Value) (w : World) : Prop := VV w v x y

theorem Pb.below {W w w' : World} {v : Value} (h : Pb W v w) (hb : Below w.heap.size w w') : Pb W v w' := by
  obtain ⟨G, e, h1, h2⟩ := h
  exact ⟨G, e, h1, Nat.lt_of_lt_of_le h2 hb.size⟩
theorem Zb.below {W w w' : World} {v : Value} (h : Zb W v w) (hb : Below w.heap.size w w') : Zb W v w' := by
  obtain ⟨G, e, h1, h2⟩ := h
  exact ⟨G, e, h1, h2.below hb h2.lt⟩
theorem Vb.below {W w w' : World} {x y : Rat} {v : Value} (h : Vb W x y v w) (hb : Below w.heap.size w w') : Vb W x y v w' := by
  obtain ⟨G, p, q, e, h1, h2, h3, h4⟩ := h
  exact ⟨G, p, q, e, h1, h2.below hb h2.lt, h3.below hb, h4.below hb⟩
theorem Vv.below {w w' : World} {x y : Rat} {v : Value} (h : Vv x y v w) (hb : Below w.heap.size w w') : Vv x y v w' := VV.below h hb
theorem Is.below {w w' : World} {X v : Value} (h : Is X v w) (_ : Below w.heap.size w w') : Is X v w' := h

theorem PR.put {w : World} {G : Nat} {v a b : Value} {x : Rat} (h : PR w v x) (hz : Blk w G #[.pointer none, .pointer none] 30) : PR ((w.setCell ⟨G, 0, none⟩ a).setCell ⟨G, 1, none⟩ b) v x := by
  obtain ⟨g, e, h⟩ := h
  exact ⟨g, e, h.put2 hz rfl rfl a b⟩
theorem Is.put {w : World} {G : Nat} {X v a b : Value} (h : Is X v w) : Is X v ((w.setCell ⟨G, 0, none⟩ a).setCell ⟨G, 1, none⟩ b) := h
theorem Vv.put {w : World} {G : Nat} {v a b : Value} {x y : Rat} (h : Vv x y v w) (hz : Blk w G #[.pointer none, .pointer none] 30) : Vv x y v ((w.setCell ⟨G, 0, none⟩ a).setCell ⟨G, 1, none⟩ b) := by
  obtain ⟨p, q, e, h1, h2⟩ := h
  exact ⟨p, q, e, h1.put hz, h2.put hz⟩
theorem Pb.put {W w : World} {G : Nat} {v a b : Value} (h : Pb W v w) : Pb W v ((w.setCell ⟨G, 0, none⟩ a).setCell ⟨G, 1, none⟩ b) := by
  obtain ⟨G', e, h1, h2⟩ := h
  exact ⟨G', e, h1, by simpa [World.setCell] using h2⟩
theorem ptr_ne {G G' : Nat} (h : ¬ ((.pointer (some ⟨G, 0, none⟩) : Value) = .pointer (some ⟨G', 0, none⟩))) : G' ≠ G := fun e => h (by rw [e])
theorem Zb.put {W w : World} {G : Nat} {v a b : Value} (h : Zb W v w) (hne : ¬ (.pointer (some ⟨G, 0, none⟩) = v)) : Zb W v ((w.setCell ⟨G, 0, none⟩ a).setCell ⟨G, 1, none⟩ b) := by
  obtain ⟨G', rfl, h1, h2⟩ := h
  exact ⟨G', rfl, h1, h2.off2 (Ne.symm (ptr_ne hne)) a b⟩
theorem Vb.put {W w : World} {G : Nat} {x y : Rat} {v a b : Value} (h : Vb W x y v w) (hz : Blk w G #[.pointer none, .pointer none] 30) (hne : ¬ (.pointer (some ⟨G, 0, none⟩) = v)) : Vb W x y v ((w.setCell ⟨G, 0, none⟩ a).setCell ⟨G, 1, none⟩ b) := by
  obtain ⟨G', p, q, rfl, h1, h2, h3, h4⟩ := h
  exact ⟨G', p, q, rfl, h1, h2.off2 (Ne.symm (ptr_ne hne)) a b, h3.put hz, h4.put hz⟩
theorem Vb.mk {W w : World} {G : Nat} {x y : Rat} {a b : Value} (hG : W.heap.size ≤ G) (hz : Blk w G #[.pointer none, .pointer none] 30) (ha : PR w a x) (hb : PR w b y) : Vb W x y (.pointer (some ⟨G, 0, none⟩)) ((w.setCell ⟨G, 0, none⟩ a).setCell ⟨G, 1, none⟩ b) :=
  ⟨G, a, b, rfl, hG, hz.put2 a b, ha.put hz, hb.put hz⟩
theorem Zb.new {W w : World} (h : Below W.heap.size W w) : Zb W (.pointer (some ⟨w.heap.size, 0, none⟩)) (w.alloc (.cells #[.pointer none, .pointer none] 30)) := ⟨_, rfl, h.size, Blk.new _ _ _⟩
theorem Pb.new {W w : World} {o : Obj} (h : Below W.heap.size W w) : Pb W (.pointer (some ⟨w.heap.size, 0, none⟩)) (w.alloc o) := ⟨_, rfl, h.size, by simp⟩

theorem Zb.use {W w : World} {v : Value} {Goal : Prop} (h : Zb W v w) (k : ∀ G, v = .pointer (some ⟨G, 0, none⟩) → W.heap.size ≤ G → Blk w G #[.pointer none, .pointer none] 30 → Goal) : Goal := by
  obtain ⟨G, e, h1, h2⟩ := h
  exact k G e h1 h2
theorem Vb.use {W w : World} {x y : Rat} {v : Value} {Goal : Prop} (h : Vb W x y v w) (k : ∀ G p q, v = .pointer (some ⟨G, 0, none⟩) → W.heap.size ≤ G → Blk w G #[p, q] 30 → PR w p x → PR w q y → Goal) : Goal := by
  obtain ⟨G, p, q, e, h1, h2, h3, h4⟩ := h
  exact k G p q e h1 h2 h3 h4
theorem Vv.use {w : World} {x y : Rat} {v : Value} {Goal : Prop} (h : Vv x y v w) (k : ∀ p q, v = .agg #[p, q] → PR w p x → PR w q y → Goal) : Goal := by
  obtain ⟨p, q, e, h1, h2⟩ := h
  exact k p q e h1 h2

theorem fact_absurd {d : Nat → Prop} {τ : Nat → Value} {w' : World} {v : Value} {i s : Nat} {F : Value → World → Prop} (hs : s ≠ i) (h : d s → d i) (hn : ¬ d i) : (s = i ∨ d s) → F (updOp τ i v i) w' := fun q => absurd (h (q.resolve_left hs)) hn
theorem imp_old {d : Nat → Prop} {i j s : Nat} (hs : s ≠ i) (h : d s → d j) : (s = i ∨ d s) → (j = i ∨ d j) := fun q => Or.inr (h (q.resolve_left hs))
theorem fact_two {d : Nat → Prop} {τ : Nat → Value} {w w' : World} {v : Value} {i j s : Nat} {F : Value → World → Prop} (hs : s ≠ i) (hne : j ≠ i) (h : d s → F (τ j) w) (k : F (τ j) w → F (τ j) w') : (s = i ∨ d s) → F (updOp τ i v j) w' := fun hh => by
  rw [updOp_ne τ v hne]
  exact k (h (hh.resolve_left hs))
theorem fact_did {d : Nat → Prop} {τ : Nat → Value} {w' : World} {v : Value} {i j : Nat} {F : Value → World → Prop} (hne : j ≠ i) (h : F (τ j) w') : (i = i ∨ d i) → F (updOp τ i v j) w' := fun _ => by
  rw [updOp_ne τ v hne]
  exact h
theorem fact_zero {d : Nat → Prop} {τ : Nat → Value} {w w' : World} {v : Value} {i j s : Nat} {F : Value → World → Prop} (hne : j ≠ i) (h : d j → ¬ d s → F (τ j) w) (k : F (τ j) w → F (τ j) w') : (j = i ∨ d j) → ¬ (s = i ∨ d s) → F (updOp τ i v j) w' := fun hh hs => by
  rw [updOp_ne τ v hne]
  exact k (h (hh.resolve_left hne) (fun q => hs (Or.inr q)))
theorem fact_zero_new {d : Nat → Prop} {τ : Nat → Value} {w' : World} {v : Value} {i s : Nat} {F : Value → World → Prop} (h : F v w') : (i = i ∨ d i) → ¬ (s = i ∨ d s) → F (updOp τ i v i) w' := fun _ _ => by
  rw [updOp_at]
  exact h
theorem fact_zero_did {d : Nat → Prop} {τ : Nat → Value} {w' : World} {v : Value} {i j : Nat} {F : Value → World → Prop} : (j = i ∨ d j) → ¬ (i = i ∨ d i) → F (updOp τ i v j) w' := fun _ h => absurd (Or.inl rfl) h
theorem ne_old {d : Nat → Prop} {τ : Nat → Value} {v : Value} {i j s : Nat} (hj : j ≠ i) (hs : s ≠ i) (h : d j → d s → ¬ τ j = τ s) : (j = i ∨ d j) → (s = i ∨ d s) → ¬ updOp τ i v j = updOp τ i v s := fun a b => by
  rw [updOp_ne τ v hj, updOp_ne τ v hs]
  exact h (a.resolve_left hj) (b.resolve_left hs)
theorem ne_new {d : Nat → Prop} {τ : Nat → Value} {W w : World} {i s : Nat} (hs : s ≠ i) (h : d s → Pb W (τ s) w) : (i = i ∨ d i) → (s = i ∨ d s) → ¬ updOp τ i (.pointer (some ⟨w.heap.size, 0, none⟩)) i = updOp τ i (.pointer (some ⟨w.heap.size, 0, none⟩)) s := fun _ b e => by
  rw [updOp_at, updOp_ne τ _ hs] at e
  obtain ⟨G, e', _, hlt⟩ := h (b.resolve_left hs)
  rw [e'] at e
  simp at e
  all_goals omega
theorem ne_new' {d : Nat → Prop} {τ : Nat → Value} {W w : World} {i s : Nat} (hs : s ≠ i) (h : d s → Pb W (τ s) w) : (s = i ∨ d s) → (i = i ∨ d i) → ¬ updOp τ i (.pointer (some ⟨w.heap.size, 0, none⟩)) s = updOp τ i (.pointer (some ⟨w.heap.size, 0, none⟩)) i := fun b a e => ne_new hs h a b e.symm
end Go.Proofs.YtpalknbmejachaaGreatDoor
/- Boxes of texts that a region makes, in whatever order. -/
namespace Go.Proofs.YtpalknbmejachaaGreatDoor
open Go.RowKit Cx

/-- A pointer to a box of two empty texts; of the cells c0 and c1. -/
def Zs (W : World) (v : Value) (w : World) : Prop := ∃ G, v = .pointer (some ⟨G, 0, none⟩) ∧ W.heap.size ≤ G ∧ Blk w G #[.string ⟨#[]⟩, .string ⟨#[]⟩] 24
def Sb (W : World) (c0 c1 : Value) (v : Value) (w : World) : Prop := ∃ G, v = .pointer (some ⟨G, 0, none⟩) ∧ W.heap.size ≤ G ∧ Blk w G #[c0, c1] 24
/-- The value is a pointer to the ratio q. -/
def Rr (q : Rat) (v : Value) (w : World) : Prop := PR w v q
theorem Rr.below {w w' : World} {q : Rat} {v : Value} (h : Rr q v w) (hb : Below w.heap.size w w') : Rr q v w' := PR.below h hb
theorem Zs.below {W w w' : World} {v : Value} (h : Zs W v w) (hb : Below w.heap.size w w') : Zs W v w' := by
  obtain ⟨G, e, h1, h2⟩ := h
  exact ⟨G, e, h1, h2.below hb h2.lt⟩
theorem Sb.below {W w w' : World} {c0 c1 v : Value} (h : Sb W c0 c1 v w) (hb : Below w.heap.size w w') : Sb W c0 c1 v w' := by
  obtain ⟨G, e, h1, h2⟩ := h
  exact ⟨G, e, h1, h2.below hb h2.lt⟩
theorem Rr.put {w : World} {G : Nat} {v a b : Value} {q : Rat} (h : Rr q v w) (hz : Blk w G #[.pointer none, .pointer none] 30) : Rr q v ((w.setCell ⟨G, 0, none⟩ a).setCell ⟨G, 1, none⟩ b) := PR.put h hz
theorem PR.putS {w : World} {G : Nat} {v a b : Value} {x : Rat} (h : PR w v x) (hz : Blk w G #[.string ⟨#[]⟩, .string ⟨#[]⟩] 24) : PR ((w.setCell ⟨G, 0, none⟩ a).setCell ⟨G, 1, none⟩ b) v x := by
  obtain ⟨g, e, h⟩ := h
  exact ⟨g, e, h.put2 hz rfl rfl a b⟩
theorem Rr.putS {w : World} {G : Nat} {v a b : Value} {q : Rat} (h : Rr q v w) (hz : Blk w G #[.string ⟨#[]⟩, .string ⟨#[]⟩] 24) : Rr q v ((w.setCell ⟨G, 0, none⟩ a).setCell ⟨G, 1, none⟩ b) := PR.putS h hz
theorem Vv.putS {w : World} {G : Nat} {v a b : Value} {x y : Rat} (h : Vv x y v w) (hz : Blk w G #[.string ⟨#[]⟩, .string ⟨#[]⟩] 24) : Vv x y v ((w.setCell ⟨G, 0, none⟩ a).setCell ⟨G, 1, none⟩ b) := by
  obtain ⟨p, q, e, h1, h2⟩ := h
  exact ⟨p, q, e, h1.putS hz, h2.putS hz⟩
theorem Vb.putS {W w : World} {G : Nat} {x y : Rat} {v a b : Value} (h : Vb W x y v w) (hz : Blk w G #[.string ⟨#[]⟩, .string ⟨#[]⟩] 24) (hne : ¬ (.pointer (some ⟨G, 0, none⟩) = v)) : Vb W x y v ((w.setCell ⟨G, 0, none⟩ a).setCell ⟨G, 1, none⟩ b) := by
  obtain ⟨G', p, q, rfl, h1, h2, h3, h4⟩ := h
  exact ⟨G', p, q, rfl, h1, h2.off2 (Ne.symm (ptr_ne hne)) a b, h3.putS hz, h4.putS hz⟩
theorem Zs.put {W w : World} {G : Nat} {v a b : Value} (h : Zs W v w) (hne : ¬ (.pointer (some ⟨G, 0, none⟩) = v)) : Zs W v ((w.setCell ⟨G, 0, none⟩ a).setCell ⟨G, 1, none⟩ b) := by
  obtain ⟨G', rfl, h1, h2⟩ := h
  exact ⟨G', rfl, h1, h2.off2 (Ne.symm (ptr_ne hne)) a b⟩
theorem Sb.put {W w : World} {G : Nat} {c0 c1 v a b : Value} (h : Sb W c0 c1 v w) (hne : ¬ (.pointer (some ⟨G, 0, none⟩) = v)) : Sb W c0 c1 v ((w.setCell ⟨G, 0, none⟩ a).setCell ⟨G, 1, none⟩ b) := by
  obtain ⟨G', rfl, h1, h2⟩ := h
  exact ⟨G', rfl, h1, h2.off2 (Ne.symm (ptr_ne hne)) a b⟩
theorem Sb.mk {W w : World} {G : Nat} {a b : Value} (hG : W.heap.size ≤ G) (hz : Blk w G #[.string ⟨#[]⟩, .string ⟨#[]⟩] 24) : Sb W a b (.pointer (some ⟨G, 0, none⟩)) ((w.setCell ⟨G, 0, none⟩ a).setCell ⟨G, 1, none⟩ b) := ⟨G, rfl, hG, hz.put2 a b⟩
theorem Zs.new {W w : World} (h : Below W.heap.size W w) : Zs W (.pointer (some ⟨w.heap.size, 0, none⟩)) (w.alloc (.cells #[.string ⟨#[]⟩, .string ⟨#[]⟩] 24)) := ⟨_, rfl, h.size, Blk.new _ _ _⟩
theorem Sb.use {W w : World} {c0 c1 v : Value} {Goal : Prop} (h : Sb W c0 c1 v w) (k : ∀ G, v = .pointer (some ⟨G, 0, none⟩) → W.heap.size ≤ G → Blk w G #[c0, c1] 24 → Goal) : Goal := by
  obtain ⟨G, e, h1, h2⟩ := h
  exact k G e h1 h2
theorem bel_put2 {a w : World} {G : Nat} (h : Below a.heap.size a w) (hG : a.heap.size ≤ G) (x0 x1 : Value) : Below a.heap.size a ((w.setCell ⟨G, 0, none⟩ x0).setCell ⟨G, 1, none⟩ x1) := Below.put2 h hG x0 x1
theorem pr_new {w : World} {v : Value} {q : Rat} (o : Obj) (h : PR w v q) : PR (w.alloc o) v q := h.below (below_new _ _)
theorem pr_drew {w : World} {v : Value} {q : Rat} (h : PR w v q) : PR w.drew v q := h.below (Below.drew (Below.refl _ _))
theorem pr_bel {w w' : World} {v : Value} {q : Rat} (hb : Below w.heap.size w w') (h : PR w v q) : PR w' v q := h.below hb

end Go.Proofs.YtpalknbmejachaaGreatDoor
/- Walks: turn, Area2 of points of any texts. -/
namespace Go.Proofs.YtpalknbmejachaaGreatDoor
open Go.RowKit Cx

attribute [local go_sem ↓] Go.wp_at_zero Go.wp_at_succ

set_option maxHeartbeats 4000000 in
set_option maxRecDepth 100000 in
theorem turnG_walk {w : World} {ax az bx bz cx cz : ByteArray} (s1 : ax.size ≤ 4294967296) (s2 : az.size ≤ 4294967296) (s3 : bx.size ≤ 4294967296) (s4 : bz.size ≤ 4294967296) (s5 : cx.size ≤ 4294967296) (s6 : cz.size ≤ 4294967296) {k : Nat} (f1 : QS k (rd ax.data.toList)) (f2 : QS k (rd az.data.toList)) (f3 : QS k (rd bx.data.toList)) (f4 : QS k (rd bz.data.toList)) (f5 : QS k (rd cx.data.toList)) (f6 : QS k (rd cz.data.toList)) (hk : 8 * k + 5 ≤ 35184372088640) :
    Calls Tryz.prog 67 #[.agg #[.string ax, .string az], .agg #[.string bx, .string bz], .agg #[.string cx, .string cz]] w fun e w' => Below w.heap.size w w' ∧ ∃ v, e = .returned v ∧ QV w' v ((rd bx.data.toList - rd ax.data.toList) * (rd cz.data.toList - rd az.data.toList) - (rd bz.data.toList - rd az.data.toList) * (rd cx.data.toList - rd ax.data.toList)) := by
  obtain ⟨hb0, hk0, hk1, hk2, hk3, hsz⟩ := boxes4 w #[.string ax, .string az] #[.string bx, .string bz] #[.string cx, .string cz] #[.bool false, .slice none 0 0, .slice none 0 0] 24 24 24 70
  have HB0 := hideIt hb0
  have HSZ := hideIt hsz
  have HK0 := hideIt hk0
  have HK1 := hideIt hk1
  have HK2 := hideIt hk2
  have HK3 := hideIt hk3
  have S1 := hideIt s1
  have S2 := hideIt s2
  have S3 := hideIt s3
  have S4 := hideIt s4
  have S5 := hideIt s5
  have S6 := hideIt s6
  have F1 := hideIt f1
  have F2 := hideIt f2
  have F3 := hideIt f3
  have F4 := hideIt f4
  have F5 := hideIt f5
  have F6 := hideIt f6
  have HK := hideIt hk
  clear hb0 hsz hk0 hk1 hk2 hk3  s1 s2 s3 s4 s5 s6 f1 f2 f3 f4 f5 f6 hk
  have L1 : Hid (ax.data.toList.length ≤ 4294967296) := by rw [str_len]; exact S1.out
  have L2 : Hid (az.data.toList.length ≤ 4294967296) := by rw [str_len]; exact S2.out
  have L3 : Hid (bx.data.toList.length ≤ 4294967296) := by rw [str_len]; exact S3.out
  have L4 : Hid (bz.data.toList.length ≤ 4294967296) := by rw [str_len]; exact S4.out
  have L5 : Hid (cx.data.toList.length ≤ 4294967296) := by rw [str_len]; exact S5.out
  have L6 : Hid (cz.data.toList.length ≤ 4294967296) := by rw [str_len]; exact S6.out
  go_enter Tryz.func67, Tryz.ntmps67
  go_wp2_with fail
  generalize ((((w.alloc (.cells #[.string ax, .string az] 24)).alloc (.cells #[.string bx, .string bz] 24)).alloc (.cells #[.string cx, .string cz] 24)).alloc (.cells #[.bool false, .slice none 0 0, .slice none 0 0] 70)) = W0 at *
  have HS : Hid (∀ w', Below W0.heap.size W0 w' → w'.cell? ⟨w.heap.size, 0, none⟩ = some (.string ax) ∧ w'.cell? ⟨w.heap.size, 1, none⟩ = some (.string az) ∧ w'.cell? ⟨w.heap.size + 1, 0, none⟩ = some (.string bx) ∧ w'.cell? ⟨w.heap.size + 1, 1, none⟩ = some (.string bz) ∧ w'.cell? ⟨w.heap.size + 1 + 1, 0, none⟩ = some (.string cx) ∧ w'.cell? ⟨w.heap.size + 1 + 1, 1, none⟩ = some (.string cz)) := fun w' hb => ⟨(HK0.out.below hb (by rw [HSZ.out]; omega)).cell 0, (HK0.out.below hb (by rw [HSZ.out]; omega)).cell 1, (HK1.out.below hb (by rw [HSZ.out]; omega)).cell 0, (HK1.out.below hb (by rw [HSZ.out]; omega)).cell 1, (HK2.out.below hb (by rw [HSZ.out]; omega)).cell 0, (HK2.out.below hb (by rw [HSZ.out]; omega)).cell 1⟩
  have HSS : Hid (∀ w', Below W0.heap.size W0 w' → ∀ x0 x1 x2 : Value, (((w'.setCell ⟨w.heap.size + 1 + 1 + 1, 0, none⟩ (x0)).setCell ⟨w.heap.size + 1 + 1 + 1, 1, none⟩ (x1)).setCell ⟨w.heap.size + 1 + 1 + 1, 2, none⟩ (x2)).cell? ⟨w.heap.size, 0, none⟩ = some (.string ax) ∧ (((w'.setCell ⟨w.heap.size + 1 + 1 + 1, 0, none⟩ (x0)).setCell ⟨w.heap.size + 1 + 1 + 1, 1, none⟩ (x1)).setCell ⟨w.heap.size + 1 + 1 + 1, 2, none⟩ (x2)).cell? ⟨w.heap.size, 1, none⟩ = some (.string az) ∧ (((w'.setCell ⟨w.heap.size + 1 + 1 + 1, 0, none⟩ (x0)).setCell ⟨w.heap.size + 1 + 1 + 1, 1, none⟩ (x1)).setCell ⟨w.heap.size + 1 + 1 + 1, 2, none⟩ (x2)).cell? ⟨w.heap.size + 1, 0, none⟩ = some (.string bx) ∧ (((w'.setCell ⟨w.heap.size + 1 + 1 + 1, 0, none⟩ (x0)).setCell ⟨w.heap.size + 1 + 1 + 1, 1, none⟩ (x1)).setCell ⟨w.heap.size + 1 + 1 + 1, 2, none⟩ (x2)).cell? ⟨w.heap.size + 1, 1, none⟩ = some (.string bz) ∧ (((w'.setCell ⟨w.heap.size + 1 + 1 + 1, 0, none⟩ (x0)).setCell ⟨w.heap.size + 1 + 1 + 1, 1, none⟩ (x1)).setCell ⟨w.heap.size + 1 + 1 + 1, 2, none⟩ (x2)).cell? ⟨w.heap.size + 1 + 1, 0, none⟩ = some (.string cx) ∧ (((w'.setCell ⟨w.heap.size + 1 + 1 + 1, 0, none⟩ (x0)).setCell ⟨w.heap.size + 1 + 1 + 1, 1, none⟩ (x1)).setCell ⟨w.heap.size + 1 + 1 + 1, 2, none⟩ (x2)).cell? ⟨w.heap.size + 1 + 1, 1, none⟩ = some (.string cz)) := fun w' hb x0 x1 x2 => ⟨((HK0.out.below hb (by rw [HSZ.out]; omega)).off3 (g := w.heap.size + 1 + 1 + 1) (by omega) x0 x1 x2).cell 0, ((HK0.out.below hb (by rw [HSZ.out]; omega)).off3 (g := w.heap.size + 1 + 1 + 1) (by omega) x0 x1 x2).cell 1, ((HK1.out.below hb (by rw [HSZ.out]; omega)).off3 (g := w.heap.size + 1 + 1 + 1) (by omega) x0 x1 x2).cell 0, ((HK1.out.below hb (by rw [HSZ.out]; omega)).off3 (g := w.heap.size + 1 + 1 + 1) (by omega) x0 x1 x2).cell 1, ((HK2.out.below hb (by rw [HSZ.out]; omega)).off3 (g := w.heap.size + 1 + 1 + 1) (by omega) x0 x1 x2).cell 0, ((HK2.out.below hb (by rw [HSZ.out]; omega)).off3 (g := w.heap.size + 1 + 1 + 1) (by omega) x0 x1 x2).cell 1⟩
  obtain ⟨z0, z1, z2, z3, z4, z5⟩ := HS.out W0 (Below.refl _ _)
  go_region_held3 (fun w' => w'.cell? ⟨w.heap.size, 0, none⟩ = some (.string ax) ∧ w'.cell? ⟨w.heap.size, 1, none⟩ = some (.string az) ∧ w'.cell? ⟨w.heap.size + 1, 0, none⟩ = some (.string bx) ∧ w'.cell? ⟨w.heap.size + 1, 1, none⟩ = some (.string bz) ∧ w'.cell? ⟨w.heap.size + 1 + 1, 0, none⟩ = some (.string cx) ∧ w'.cell? ⟨w.heap.size + 1 + 1, 1, none⟩ = some (.string cz)) (first | go_keep | exact hs1 | exact hs2 | exact hs3 | exact hs4 | exact hkS)
    (first
      | (go_at_call_of 62 (Value.agg #[Value.string ax, Value.string az]); refine (wayRead_calls (w := W0.drew) ⟨ax, az, rfl, rfl, rfl⟩ L1.out L2.out).mono ?_; rintro e w1 ⟨hb1, v1, rfl, hv1⟩; have hbl1 : Below W0.heap.size W0 w1 := (Below.drew (Below.refl _ W0)).trans hb1; have hw1 := hv1; obtain ⟨d1, e1, rfl, hx1, hy1⟩ := hw1; have hs1 := HS.out w1 hbl1)
      | (go_at_call_of 62 (Value.agg #[Value.string bx, Value.string bz]); refine (wayRead_calls ⟨bx, bz, rfl, rfl, rfl⟩ L3.out L4.out).mono ?_; rintro e w2 ⟨hb2, v2, rfl, hv2⟩; have hbl2 := hbl1.trans (hb2.mono hbl1.size); have hw2 := hv2; obtain ⟨d2, e2, rfl, hx2, hy2⟩ := hw2; have hs2 := HS.out w2 hbl2)
      | (go_at_call_of 62 (Value.agg #[Value.string cx, Value.string cz]); refine (wayRead_calls ⟨cx, cz, rfl, rfl, rfl⟩ L5.out L6.out).mono ?_; rintro e w3 ⟨hb3, v3, rfl, hv3⟩; have hbl3 := hbl2.trans (hb3.mono hbl2.size); have hw3 := hv3; obtain ⟨d3, e3, rfl, hx3, hy3⟩ := hw3; have hs3 := HS.out w3 hbl3)
      | (go_at_call 122; refine (wayTurn_calls ((hv1.below hb2).below hb3) (hv2.below hb3) hv3 F1.out F2.out F3.out F4.out F5.out F6.out HK.out).mono ?_; rintro e w4 ⟨hb4, v4, rfl, hv4⟩; have hbl4 := hbl3.trans (hb4.mono hbl3.size); obtain ⟨d4, rfl⟩ := qv_open hv4; have hs4 := HS.out w4 hbl4; have hkr := HK3.out.below hbl4 (by rw [HSZ.out]; omega); obtain ⟨r0, r1, r2, f0, f1, f2⟩ := hkr.all3; have hkS := HSS.out w4 hbl4 (.bool d4.n) (.slice d4.u d4.nu d4.cu) (.slice d4.l d4.nl d4.cl))
      )
  all_goals
    go_wp2
    obtain ⟨k0, k1, k2, _, _, _⟩ := (hkr.put3 (.bool d4.n) (.slice d4.u d4.nu d4.cu) (.slice d4.l d4.nl d4.cl)).all3
    refine bodyPost_ret (v := .agg #[.bool d4.n, .slice d4.u d4.nu d4.cu, .slice d4.l d4.nl d4.cl]) (by simp [results, Tryz.results67, go_sem, k0, k1, k2]) rfl ⟨Below.put3 (HB0.out.trans (hbl4.mono HB0.out.size)) (by omega) (.bool d4.n) (.slice d4.u d4.nu d4.cu) (.slice d4.l d4.nl d4.cl), _, rfl, ?_⟩
    have hst := Stays.put3 hkr (by simp [notLimb]) (.bool d4.n) (.slice d4.u d4.nu d4.cu) (.slice d4.l d4.nl d4.cl) rfl rfl rfl
    exact hst.qv hv4

set_option maxHeartbeats 4000000 in
set_option maxRecDepth 100000 in
theorem area2G_walk {w : World} {ax az bx bz cx cz : ByteArray}       (s1 : ax.size ≤ 4294967296) (s2 : az.size ≤ 4294967296) (s3 : bx.size ≤ 4294967296) (s4 : bz.size ≤ 4294967296) (s5 : cx.size ≤ 4294967296) (s6 : cz.size ≤ 4294967296) {k : Nat} (f1 : QS k (rd ax.data.toList)) (f2 : QS k (rd az.data.toList)) (f3 : QS k (rd bx.data.toList)) (f4 : QS k (rd bz.data.toList)) (f5 : QS k (rd cx.data.toList)) (f6 : QS k (rd cz.data.toList)) (hk : 8 * k + 5 ≤ 35184372088640) (tab : Tab w) :
    Calls Tryz.prog 21 #[.agg #[.string ax, .string az], .agg #[.string bx, .string bz], .agg #[.string cx, .string cz]] w fun e w' => Below w.heap.size w w' ∧ ∃ s : ByteArray, e = .returned (.string s) ∧ s.data.toList = tx ((rd bx.data.toList - rd ax.data.toList) * (rd cz.data.toList - rd az.data.toList) - (rd bz.data.toList - rd az.data.toList) * (rd cx.data.toList - rd ax.data.toList)) := by
  have GG := hideIt (And.intro f1 (And.intro f2 (And.intro f3 (And.intro f4 (And.intro f5 f6)))))
  have FQ := hideIt (((f3.sub f1).mul (f6.sub f2)).sub ((f4.sub f2).mul (f5.sub f1)))
  clear f1 f2 f3 f4 f5 f6
  obtain ⟨hb0, _, _, _, _⟩ := boxes3 w #[.string ax, .string az] #[.string bx, .string bz] #[.string cx, .string cz] 24 24 24
  have HB0 := hideIt hb0
  have HT := hideIt (tab.below hb0)
  clear hb0 tab
  go_enter Tryz.func21, Tryz.ntmps21
  go_wp2_with fail
  generalize (((w.alloc (.cells #[.string ax, .string az] 24)).alloc (.cells #[.string bx, .string bz] 24)).alloc (.cells #[.string cx, .string cz] 24)) = W0 at *
  refine (turnG_walk (w := W0) s1 s2 s3 s4 s5 s6 GG.out.1 GG.out.2.1 GG.out.2.2.1 GG.out.2.2.2.1 GG.out.2.2.2.2.1 GG.out.2.2.2.2.2 hk).mono ?_
  rintro e w1 ⟨hb1, v1, rfl, hv1⟩
  have H1 := hideIt (And.intro hb1 hv1)
  clear hb1 hv1
  go_wp2_with fail
  refine (text_calls H1.out.2 FQ.out (by omega) (HT.out.below H1.out.1)).mono ?_
  rintro e w2 ⟨hb2, s, rfl, hs⟩
  have H2 := hideIt (And.intro (H1.out.1.trans (hb2.mono H1.out.1.size)) hs)
  clear hb2 hs
  go_wp2
  go_ret
  exact ⟨HB0.out.trans (H2.out.1.mono HB0.out.size), _, rfl, H2.out.2⟩

end Go.Proofs.YtpalknbmejachaaGreatDoor
/- Walks of package compasslaw: PlaneVarignon. -/
namespace Go.Proofs.YtpalknbmejachaaGreatDoor
open Go.RowKit Cx

attribute [local go_sem ↓] Go.wp_at_zero Go.wp_at_succ

/-- One halfQ. -/
def halfQ : Rat := mkRat 1 2
theorem halfQ_two : halfQ + halfQ = 1 := by decide +kernel
theorem qs_halfQ : QS 8 halfQ := ⟨by decide +kernel, by decide +kernel⟩
theorem rd_halfQ : rd (⟨#[49, 47, 50]⟩ : ByteArray).data.toList = halfQ := by decide +kernel

theorem txb_rd2 (q : Rat) : rd (⟨(tx q).toArray⟩ : ByteArray).data.toList = q := by
  show rd (tx q) = q
  exact rd_tx q
theorem txb_size2 {q : Rat} {k : Nat} (f : QS k q) : (⟨(tx q).toArray⟩ : ByteArray).size ≤ 2 * k + 4 := by
  have := tx_len f
  show (tx q).toArray.size ≤ _
  rw [List.size_toArray]
  exact this

/-- Area2 of points that are told. -/
theorem area2T_calls {w : World} {ax az bx bz cx cz : Rat} {k : Nat} (f1 : QS k ax) (f2 : QS k az) (f3 : QS k bx) (f4 : QS k bz) (f5 : QS k cx) (f6 : QS k cz) (hk : 8 * k + 5 ≤ 4294967296) (tab : Tab w) :
    Calls Tryz.prog 21 #[.agg #[.string ⟨(tx ax).toArray⟩, .string ⟨(tx az).toArray⟩], .agg #[.string ⟨(tx bx).toArray⟩, .string ⟨(tx bz).toArray⟩], .agg #[.string ⟨(tx cx).toArray⟩, .string ⟨(tx cz).toArray⟩]] w fun e w' => Below w.heap.size w w' ∧ e = .returned (.string ⟨(tx ((bx - ax) * (cz - az) - (bz - az) * (cx - ax))).toArray⟩) := by
  have h := area2G_walk (w := w) (ax := ⟨(tx ax).toArray⟩) (az := ⟨(tx az).toArray⟩) (bx := ⟨(tx bx).toArray⟩) (bz := ⟨(tx bz).toArray⟩) (cx := ⟨(tx cx).toArray⟩) (cz := ⟨(tx cz).toArray⟩) (k := k) (Nat.le_trans (txb_size2 f1) (by omega)) (Nat.le_trans (txb_size2 f2) (by omega)) (Nat.le_trans (txb_size2 f3) (by omega)) (Nat.le_trans (txb_size2 f4) (by omega)) (Nat.le_trans (txb_size2 f5) (by omega)) (Nat.le_trans (txb_size2 f6) (by omega)) (by rw [txb_rd2]; exact f1) (by rw [txb_rd2]; exact f2) (by rw [txb_rd2]; exact f3) (by rw [txb_rd2]; exact f4) (by rw [txb_rd2]; exact f5) (by rw [txb_rd2]; exact f6) (by omega) tab
  refine h.mono ?_
  rintro e w' ⟨hb, s, rfl, hs⟩
  rw [txb_rd2, txb_rd2, txb_rd2, txb_rd2, txb_rd2, txb_rd2] at hs
  exact ⟨hb, by rw [bytes_of hs]⟩

theorem varignon1 (ax bx cx dx : Rat) : (bx + (cx - bx) * halfQ) - (ax + (bx - ax) * halfQ) = (cx + (dx - cx) * halfQ) - (dx + (ax - dx) * halfQ) := by
  have := halfQ_two
  grind
theorem varignon2 (ax az bx bz cx cz dx dz : Rat) :
    (((bx - ax) * (cz - az) - (bz - az) * (cx - ax)) + ((cx - ax) * (dz - az) - (cz - az) * (dx - ax))) = (((2 : Nat) : Rat) * (((((bx + (cx - bx) * halfQ) - (ax + (bx - ax) * halfQ)) * ((cz + (dz - cz) * halfQ) - (az + (bz - az) * halfQ)) - ((bz + (cz - bz) * halfQ) - (az + (bz - az) * halfQ)) * ((cx + (dx - cx) * halfQ) - (ax + (bx - ax) * halfQ)))) + ((((cx + (dx - cx) * halfQ) - (ax + (bx - ax) * halfQ)) * ((dz + (az - dz) * halfQ) - (az + (bz - az) * halfQ)) - ((cz + (dz - cz) * halfQ) - (az + (bz - az) * halfQ)) * ((dx + (ax - dx) * halfQ) - (ax + (bx - ax) * halfQ)))))) := by
  have h := halfQ_two
  have e : ((2 : Nat) : Rat) = 2 := rfl
  have e2 : halfQ = 1 / 2 := by grind
  rw [e, e2]
  grind

set_option maxHeartbeats 8000000 in
set_option maxRecDepth 100000 in
/-- The middle of two points. -/
theorem midVa_calls {w : World} {px pz qx qz : ByteArray} (s1 : px.size ≤ 1048576) (s2 : pz.size ≤ 1048576) (s3 : qx.size ≤ 1048576) (s4 : qz.size ≤ 1048576) (tab : Tab w) (mx : MaxL w) :
    Calls Tryz.prog 18 #[.agg #[.string px, .string pz], .agg #[.string qx, .string qz]] w fun e w' => Below w.heap.size w w' ∧ ∃ v, e = .returned v ∧ VV w' v ((rd px.data.toList) + ((rd qx.data.toList) - (rd px.data.toList)) * halfQ) ((rd pz.data.toList) + ((rd qz.data.toList) - (rd pz.data.toList)) * halfQ) := by
  obtain ⟨hb0, hk0, hk1, hk2, hsz⟩ := boxes3 w #[.string px, .string pz] #[.string qx, .string qz] #[.pointer none, .pointer none] 24 24 30
  have HB0 := hideIt2 hb0
  have HSZ := hideIt2 hsz
  have HK2 := hideIt2 hk2
  have HT := hideIt2 (tab.below hb0)
  have HM := hideIt2 (mx.below hb0)
  have Gpx : Hid (QS 4194309 (rd px.data.toList)) := (QS.rd _).mono (by rw [str_len]; omega)
  have Gpz : Hid (QS 4194309 (rd pz.data.toList)) := (QS.rd _).mono (by rw [str_len]; omega)
  have Gqx : Hid (QS 4194309 (rd qx.data.toList)) := (QS.rd _).mono (by rw [str_len]; omega)
  have Gqz : Hid (QS 4194309 (rd qz.data.toList)) := (QS.rd _).mono (by rw [str_len]; omega)
  have FX : Hid (QS 12582937 ((rd px.data.toList) + ((rd qx.data.toList) - (rd px.data.toList)) * halfQ)) := Gpx.out.add ((Gqx.out.sub Gpx.out).mul qs_halfQ)
  have FZ : Hid (QS 12582937 ((rd pz.data.toList) + ((rd qz.data.toList) - (rd pz.data.toList)) * halfQ)) := Gpz.out.add ((Gqz.out.sub Gpz.out).mul qs_halfQ)
  clear hb0 hsz tab mx hk0 hk1 hk2
  go_enter Tryz.func18, Tryz.ntmps18
  go_wp2_with fail
  generalize (((w.alloc (.cells #[.string px, .string pz] 24)).alloc (.cells #[.string qx, .string qz] 24)).alloc (.cells #[.pointer none, .pointer none] 30)) = W0 at *
  refine (planeAt_walk (w := W0) (t := ⟨#[49, 47, 50]⟩) s1 s2 s3 s4 (by decide) HT.out).mono ?_
  rintro _ w1 ⟨hb1, _, rfl, sx, sz, rfl, hsx, hsz⟩
  rw [rd_halfQ] at hsx hsz
  have HX : Hid (rd sx.data.toList = ((rd px.data.toList) + ((rd qx.data.toList) - (rd px.data.toList)) * halfQ) ∧ rd sz.data.toList = ((rd pz.data.toList) + ((rd qz.data.toList) - (rd pz.data.toList)) * halfQ)) := by
    show _ ∧ _
    rw [hsx, hsz, rd_tx, rd_tx]
    exact ⟨rfl, rfl⟩
  have LX : sx.size ≤ 25165878 := by rw [← str_len, hsx]; exact tx_len FX.out
  have LZ : sz.size ≤ 25165878 := by rw [← str_len, hsz]; exact tx_len FZ.out
  have HB1 := hideIt2 hb1
  clear hb1 hsx hsz
  go_wp2_with fail
  refine (refP_calls sx sz _ (HM.out.below HB1.out) (by omega) (by omega)).mono ?_
  rintro _ w2 ⟨hb2, _, rfl, _, _, rfl, ⟨ga, rfl, ha⟩, ⟨gb, rfl, hb⟩⟩
  rw [HX.out.1] at ha
  rw [HX.out.2] at hb
  have HB2 := hideIt2 (bel_bel HB1.out hb2)
  have hkr := HK2.out.below HB2.out (by rw [HSZ.out]; omega)
  obtain ⟨r0, r1, g0, g1⟩ := hkr.all2
  have HV := hideIt2 (And.intro ha hb)
  clear ha hb hb2
  go_wp2
  obtain ⟨k0, k1, _, _⟩ := (hkr.put2 (.pointer (some ⟨ga, 0, none⟩)) (.pointer (some ⟨gb, 0, none⟩))).all2
  exact bodyPost_ret (v := .agg #[.pointer (some ⟨ga, 0, none⟩), .pointer (some ⟨gb, 0, none⟩)]) (by simp [results, Tryz.results18, go_sem, k0, k1]) rfl ⟨Below.put2 (bel_bel HB0.out HB2.out) (by omega) _ _, _, rfl, _, _, rfl, ⟨_, rfl, RV.put2 HV.out.1 hkr rfl rfl _ _⟩, ⟨_, rfl, RV.put2 HV.out.2 hkr rfl rfl _ _⟩⟩

set_option maxHeartbeats 8000000 in
set_option maxRecDepth 100000 in
/-- The law of Varignon. -/
theorem planeVarignon_walk {w : World} {ax az bx bz cx cz dx dz : ByteArray} (sax : ax.size ≤ 1048576) (saz : az.size ≤ 1048576) (sbx : bx.size ≤ 1048576) (sbz : bz.size ≤ 1048576) (scx : cx.size ≤ 1048576) (scz : cz.size ≤ 1048576) (sdx : dx.size ≤ 1048576) (sdz : dz.size ≤ 1048576) (tab : Tab w) (mx : MaxL w) :
    Calls Tryz.prog 4 #[.agg #[.string ax, .string az], .agg #[.string bx, .string bz], .agg #[.string cx, .string cz], .agg #[.string dx, .string dz]] w fun e w' => Below w.heap.size w w' ∧ e = .returned (.bool true) := by
  obtain ⟨hb0, hk0, hk1, hk2, hk3, hsz⟩ := boxes4 w #[.string ax, .string az] #[.string bx, .string bz] #[.string cx, .string cz] #[.string dx, .string dz] 24 24 24 24
  have HB0 := hideIt2 hb0
  have HSZ := hideIt2 hsz
  have HK0 := hideIt2 hk0
  have HK1 := hideIt2 hk1
  have HK2 := hideIt2 hk2
  have HK3 := hideIt2 hk3
  have HT := hideIt2 (tab.below hb0)
  have HM := hideIt2 (mx.below hb0)
  have Gax : Hid (QS 4194309 (rd ax.data.toList)) := (QS.rd _).mono (by rw [str_len]; omega)
  have Gaz : Hid (QS 4194309 (rd az.data.toList)) := (QS.rd _).mono (by rw [str_len]; omega)
  have Gbx : Hid (QS 4194309 (rd bx.data.toList)) := (QS.rd _).mono (by rw [str_len]; omega)
  have Gbz : Hid (QS 4194309 (rd bz.data.toList)) := (QS.rd _).mono (by rw [str_len]; omega)
  have Gcx : Hid (QS 4194309 (rd cx.data.toList)) := (QS.rd _).mono (by rw [str_len]; omega)
  have Gcz : Hid (QS 4194309 (rd cz.data.toList)) := (QS.rd _).mono (by rw [str_len]; omega)
  have Gdx : Hid (QS 4194309 (rd dx.data.toList)) := (QS.rd _).mono (by rw [str_len]; omega)
  have Gdz : Hid (QS 4194309 (rd dz.data.toList)) := (QS.rd _).mono (by rw [str_len]; omega)
  clear hb0 hsz tab mx hk0 hk1 hk2 hk3
  go_enter Tryz.func4, Tryz.ntmps4
  go_wp2_with fail
  generalize ((((w.alloc (.cells #[.string ax, .string az] 24)).alloc (.cells #[.string bx, .string bz] 24)).alloc (.cells #[.string cx, .string cz] 24)).alloc (.cells #[.string dx, .string dz] 24)) = W0 at *
  have HS : Hid (∀ w', Below W0.heap.size W0 w' → w'.cell? ⟨w.heap.size, 0, none⟩ = some (.string ax) ∧ w'.cell? ⟨w.heap.size, 1, none⟩ = some (.string az) ∧ w'.cell? ⟨w.heap.size + 1, 0, none⟩ = some (.string bx) ∧ w'.cell? ⟨w.heap.size + 1, 1, none⟩ = some (.string bz) ∧ w'.cell? ⟨w.heap.size + 1 + 1, 0, none⟩ = some (.string cx) ∧ w'.cell? ⟨w.heap.size + 1 + 1, 1, none⟩ = some (.string cz) ∧ w'.cell? ⟨w.heap.size + 1 + 1 + 1, 0, none⟩ = some (.string dx) ∧ w'.cell? ⟨w.heap.size + 1 + 1 + 1, 1, none⟩ = some (.string dz)) := fun w' hb => ⟨(HK0.out.below hb (by rw [HSZ.out]; omega)).cell 0, (HK0.out.below hb (by rw [HSZ.out]; omega)).cell 1, (HK1.out.below hb (by rw [HSZ.out]; omega)).cell 0, (HK1.out.below hb (by rw [HSZ.out]; omega)).cell 1, (HK2.out.below hb (by rw [HSZ.out]; omega)).cell 0, (HK2.out.below hb (by rw [HSZ.out]; omega)).cell 1, (HK3.out.below hb (by rw [HSZ.out]; omega)).cell 0, (HK3.out.below hb (by rw [HSZ.out]; omega)).cell 1⟩
  obtain ⟨z0, z1, z2, z3, z4, z5, z6, z7⟩ := HS.out W0 (Below.refl _ _)
  try go_wp2_with fail
  obtain ⟨Inv, hInvI, hInvM⟩ : ∃ Inv : (Nat → Prop) → (Nat → Value) → World → Prop, (∀ (d : Nat → Prop) (τ : Nat → Value) (w' : World), Inv d τ w' → Below W0.heap.size W0 w' ∧ (d 0 → Is (.func (.func 18) #[] #[]) (τ 0) w') ∧ (d 1 → Is (.agg #[.string ax, .string az]) (τ 1) w') ∧ (d 2 → Is (.agg #[.string bx, .string bz]) (τ 2) w') ∧ (d 3 → Vv ((rd ax.data.toList) + ((rd bx.data.toList) - (rd ax.data.toList)) * halfQ) ((rd az.data.toList) + ((rd bz.data.toList) - (rd az.data.toList)) * halfQ) (τ 3) w') ∧ (d 4 → Is (.func (.func 18) #[] #[]) (τ 4) w') ∧ (d 5 → Is (.agg #[.string bx, .string bz]) (τ 5) w') ∧ (d 6 → Is (.agg #[.string cx, .string cz]) (τ 6) w') ∧ (d 7 → Vv ((rd bx.data.toList) + ((rd cx.data.toList) - (rd bx.data.toList)) * halfQ) ((rd bz.data.toList) + ((rd cz.data.toList) - (rd bz.data.toList)) * halfQ) (τ 7) w') ∧ (d 8 → Is (.func (.func 18) #[] #[]) (τ 8) w') ∧ (d 9 → Is (.agg #[.string cx, .string cz]) (τ 9) w') ∧ (d 10 → Is (.agg #[.string dx, .string dz]) (τ 10) w') ∧ (d 11 → Vv ((rd cx.data.toList) + ((rd dx.data.toList) - (rd cx.data.toList)) * halfQ) ((rd cz.data.toList) + ((rd dz.data.toList) - (rd cz.data.toList)) * halfQ) (τ 11) w') ∧ (d 12 → Is (.func (.func 18) #[] #[]) (τ 12) w') ∧ (d 13 → Is (.agg #[.string dx, .string dz]) (τ 13) w') ∧ (d 14 → Is (.agg #[.string ax, .string az]) (τ 14) w') ∧ (d 15 → Vv ((rd dx.data.toList) + ((rd ax.data.toList) - (rd dx.data.toList)) * halfQ) ((rd dz.data.toList) + ((rd az.data.toList) - (rd dz.data.toList)) * halfQ) (τ 15) w') ∧ (d 16 → Pb W0 (τ 16) w') ∧ (d 16 → ¬ d 20 → Zb W0 (τ 16) w') ∧ (d 20 → Vb W0 ((rd ax.data.toList) + ((rd bx.data.toList) - (rd ax.data.toList)) * halfQ) ((rd az.data.toList) + ((rd bz.data.toList) - (rd az.data.toList)) * halfQ) (τ 16) w') ∧ (d 20 → d 16) ∧ (d 17 → Pb W0 (τ 17) w') ∧ (d 17 → ¬ d 21 → Zb W0 (τ 17) w') ∧ (d 21 → Vb W0 ((rd bx.data.toList) + ((rd cx.data.toList) - (rd bx.data.toList)) * halfQ) ((rd bz.data.toList) + ((rd cz.data.toList) - (rd bz.data.toList)) * halfQ) (τ 17) w') ∧ (d 21 → d 17) ∧ (d 18 → Pb W0 (τ 18) w') ∧ (d 18 → ¬ d 22 → Zb W0 (τ 18) w') ∧ (d 22 → Vb W0 ((rd cx.data.toList) + ((rd dx.data.toList) - (rd cx.data.toList)) * halfQ) ((rd cz.data.toList) + ((rd dz.data.toList) - (rd cz.data.toList)) * halfQ) (τ 18) w') ∧ (d 22 → d 18) ∧ (d 19 → Pb W0 (τ 19) w') ∧ (d 19 → ¬ d 23 → Zb W0 (τ 19) w') ∧ (d 23 → Vb W0 ((rd dx.data.toList) + ((rd ax.data.toList) - (rd dx.data.toList)) * halfQ) ((rd dz.data.toList) + ((rd az.data.toList) - (rd dz.data.toList)) * halfQ) (τ 19) w') ∧ (d 23 → d 19) ∧ (d 16 → d 17 → ¬ τ 16 = τ 17) ∧ (d 16 → d 18 → ¬ τ 16 = τ 18) ∧ (d 16 → d 19 → ¬ τ 16 = τ 19) ∧ (d 17 → d 18 → ¬ τ 17 = τ 18) ∧ (d 17 → d 19 → ¬ τ 17 = τ 19) ∧ (d 18 → d 19 → ¬ τ 18 = τ 19)) ∧ (∀ (d : Nat → Prop) (τ : Nat → Value) (w' : World), Below W0.heap.size W0 w' ∧ (d 0 → Is (.func (.func 18) #[] #[]) (τ 0) w') ∧ (d 1 → Is (.agg #[.string ax, .string az]) (τ 1) w') ∧ (d 2 → Is (.agg #[.string bx, .string bz]) (τ 2) w') ∧ (d 3 → Vv ((rd ax.data.toList) + ((rd bx.data.toList) - (rd ax.data.toList)) * halfQ) ((rd az.data.toList) + ((rd bz.data.toList) - (rd az.data.toList)) * halfQ) (τ 3) w') ∧ (d 4 → Is (.func (.func 18) #[] #[]) (τ 4) w') ∧ (d 5 → Is (.agg #[.string bx, .string bz]) (τ 5) w') ∧ (d 6 → Is (.agg #[.string cx, .string cz]) (τ 6) w') ∧ (d 7 → Vv ((rd bx.data.toList) + ((rd cx.data.toList) - (rd bx.data.toList)) * halfQ) ((rd bz.data.toList) + ((rd cz.data.toList) - (rd bz.data.toList)) * halfQ) (τ 7) w') ∧ (d 8 → Is (.func (.func 18) #[] #[]) (τ 8) w') ∧ (d 9 → Is (.agg #[.string cx, .string cz]) (τ 9) w') ∧ (d 10 → Is (.agg #[.string dx, .string dz]) (τ 10) w') ∧ (d 11 → Vv ((rd cx.data.toList) + ((rd dx.data.toList) - (rd cx.data.toList)) * halfQ) ((rd cz.data.toList) + ((rd dz.data.toList) - (rd cz.data.toList)) * halfQ) (τ 11) w') ∧ (d 12 → Is (.func (.func 18) #[] #[]) (τ 12) w') ∧ (d 13 → Is (.agg #[.string dx, .string dz]) (τ 13) w') ∧ (d 14 → Is (.agg #[.string ax, .string az]) (τ 14) w') ∧ (d 15 → Vv ((rd dx.data.toList) + ((rd ax.data.toList) - (rd dx.data.toList)) * halfQ) ((rd dz.data.toList) + ((rd az.data.toList) - (rd dz.data.toList)) * halfQ) (τ 15) w') ∧ (d 16 → Pb W0 (τ 16) w') ∧ (d 16 → ¬ d 20 → Zb W0 (τ 16) w') ∧ (d 20 → Vb W0 ((rd ax.data.toList) + ((rd bx.data.toList) - (rd ax.data.toList)) * halfQ) ((rd az.data.toList) + ((rd bz.data.toList) - (rd az.data.toList)) * halfQ) (τ 16) w') ∧ (d 20 → d 16) ∧ (d 17 → Pb W0 (τ 17) w') ∧ (d 17 → ¬ d 21 → Zb W0 (τ 17) w') ∧ (d 21 → Vb W0 ((rd bx.data.toList) + ((rd cx.data.toList) - (rd bx.data.toList)) * halfQ) ((rd bz.data.toList) + ((rd cz.data.toList) - (rd bz.data.toList)) * halfQ) (τ 17) w') ∧ (d 21 → d 17) ∧ (d 18 → Pb W0 (τ 18) w') ∧ (d 18 → ¬ d 22 → Zb W0 (τ 18) w') ∧ (d 22 → Vb W0 ((rd cx.data.toList) + ((rd dx.data.toList) - (rd cx.data.toList)) * halfQ) ((rd cz.data.toList) + ((rd dz.data.toList) - (rd cz.data.toList)) * halfQ) (τ 18) w') ∧ (d 22 → d 18) ∧ (d 19 → Pb W0 (τ 19) w') ∧ (d 19 → ¬ d 23 → Zb W0 (τ 19) w') ∧ (d 23 → Vb W0 ((rd dx.data.toList) + ((rd ax.data.toList) - (rd dx.data.toList)) * halfQ) ((rd dz.data.toList) + ((rd az.data.toList) - (rd dz.data.toList)) * halfQ) (τ 19) w') ∧ (d 23 → d 19) ∧ (d 16 → d 17 → ¬ τ 16 = τ 17) ∧ (d 16 → d 18 → ¬ τ 16 = τ 18) ∧ (d 16 → d 19 → ¬ τ 16 = τ 19) ∧ (d 17 → d 18 → ¬ τ 17 = τ 18) ∧ (d 17 → d 19 → ¬ τ 17 = τ 19) ∧ (d 18 → d 19 → ¬ τ 18 = τ 19) → Inv d τ w') := ⟨fun d τ w' => Below W0.heap.size W0 w' ∧ (d 0 → Is (.func (.func 18) #[] #[]) (τ 0) w') ∧ (d 1 → Is (.agg #[.string ax, .string az]) (τ 1) w') ∧ (d 2 → Is (.agg #[.string bx, .string bz]) (τ 2) w') ∧ (d 3 → Vv ((rd ax.data.toList) + ((rd bx.data.toList) - (rd ax.data.toList)) * halfQ) ((rd az.data.toList) + ((rd bz.data.toList) - (rd az.data.toList)) * halfQ) (τ 3) w') ∧ (d 4 → Is (.func (.func 18) #[] #[]) (τ 4) w') ∧ (d 5 → Is (.agg #[.string bx, .string bz]) (τ 5) w') ∧ (d 6 → Is (.agg #[.string cx, .string cz]) (τ 6) w') ∧ (d 7 → Vv ((rd bx.data.toList) + ((rd cx.data.toList) - (rd bx.data.toList)) * halfQ) ((rd bz.data.toList) + ((rd cz.data.toList) - (rd bz.data.toList)) * halfQ) (τ 7) w') ∧ (d 8 → Is (.func (.func 18) #[] #[]) (τ 8) w') ∧ (d 9 → Is (.agg #[.string cx, .string cz]) (τ 9) w') ∧ (d 10 → Is (.agg #[.string dx, .string dz]) (τ 10) w') ∧ (d 11 → Vv ((rd cx.data.toList) + ((rd dx.data.toList) - (rd cx.data.toList)) * halfQ) ((rd cz.data.toList) + ((rd dz.data.toList) - (rd cz.data.toList)) * halfQ) (τ 11) w') ∧ (d 12 → Is (.func (.func 18) #[] #[]) (τ 12) w') ∧ (d 13 → Is (.agg #[.string dx, .string dz]) (τ 13) w') ∧ (d 14 → Is (.agg #[.string ax, .string az]) (τ 14) w') ∧ (d 15 → Vv ((rd dx.data.toList) + ((rd ax.data.toList) - (rd dx.data.toList)) * halfQ) ((rd dz.data.toList) + ((rd az.data.toList) - (rd dz.data.toList)) * halfQ) (τ 15) w') ∧ (d 16 → Pb W0 (τ 16) w') ∧ (d 16 → ¬ d 20 → Zb W0 (τ 16) w') ∧ (d 20 → Vb W0 ((rd ax.data.toList) + ((rd bx.data.toList) - (rd ax.data.toList)) * halfQ) ((rd az.data.toList) + ((rd bz.data.toList) - (rd az.data.toList)) * halfQ) (τ 16) w') ∧ (d 20 → d 16) ∧ (d 17 → Pb W0 (τ 17) w') ∧ (d 17 → ¬ d 21 → Zb W0 (τ 17) w') ∧ (d 21 → Vb W0 ((rd bx.data.toList) + ((rd cx.data.toList) - (rd bx.data.toList)) * halfQ) ((rd bz.data.toList) + ((rd cz.data.toList) - (rd bz.data.toList)) * halfQ) (τ 17) w') ∧ (d 21 → d 17) ∧ (d 18 → Pb W0 (τ 18) w') ∧ (d 18 → ¬ d 22 → Zb W0 (τ 18) w') ∧ (d 22 → Vb W0 ((rd cx.data.toList) + ((rd dx.data.toList) - (rd cx.data.toList)) * halfQ) ((rd cz.data.toList) + ((rd dz.data.toList) - (rd cz.data.toList)) * halfQ) (τ 18) w') ∧ (d 22 → d 18) ∧ (d 19 → Pb W0 (τ 19) w') ∧ (d 19 → ¬ d 23 → Zb W0 (τ 19) w') ∧ (d 23 → Vb W0 ((rd dx.data.toList) + ((rd ax.data.toList) - (rd dx.data.toList)) * halfQ) ((rd dz.data.toList) + ((rd az.data.toList) - (rd dz.data.toList)) * halfQ) (τ 19) w') ∧ (d 23 → d 19) ∧ (d 16 → d 17 → ¬ τ 16 = τ 17) ∧ (d 16 → d 18 → ¬ τ 16 = τ 18) ∧ (d 16 → d 19 → ¬ τ 16 = τ 19) ∧ (d 17 → d 18 → ¬ τ 17 = τ 18) ∧ (d 17 → d 19 → ¬ τ 17 = τ 19) ∧ (d 18 → d 19 → ¬ τ 18 = τ 19), fun _ _ _ h => h, fun _ _ _ h => h⟩
  have HIN := hideIt2 hInvI
  have HMK := hideIt2 hInvM
  clear hInvI hInvM
  refine region_inv Inv (by kernel_rfl) (by decide) (by kernel_rfl) ?_ ?_ ?_
  · intro τ
    exact HMK.out _ _ _ ⟨Below.drew (Below.refl _ _), False.elim, False.elim, False.elim, False.elim, False.elim, False.elim, False.elim, False.elim, False.elim, False.elim, False.elim, False.elim, False.elim, False.elim, False.elim, False.elim, False.elim, fun h => h.elim, False.elim, False.elim, False.elim, fun h => h.elim, False.elim, False.elim, False.elim, fun h => h.elim, False.elim, False.elim, False.elim, fun h => h.elim, False.elim, False.elim, fun h => h.elim, fun h => h.elim, fun h => h.elim, fun h => h.elim, fun h => h.elim, fun h => h.elim⟩
  · refine OpSteps.cons (i := 0) ?_ (OpSteps.cons (i := 1) ?_ (OpSteps.cons (i := 2) ?_ (OpSteps.cons (i := 3) ?_ (OpSteps.cons (i := 4) ?_ (OpSteps.cons (i := 5) ?_ (OpSteps.cons (i := 6) ?_ (OpSteps.cons (i := 7) ?_ (OpSteps.cons (i := 8) ?_ (OpSteps.cons (i := 9) ?_ (OpSteps.cons (i := 10) ?_ (OpSteps.cons (i := 11) ?_ (OpSteps.cons (i := 12) ?_ (OpSteps.cons (i := 13) ?_ (OpSteps.cons (i := 14) ?_ (OpSteps.cons (i := 15) ?_ (OpSteps.cons (i := 16) ?_ (OpSteps.cons (i := 17) ?_ (OpSteps.cons (i := 18) ?_ (OpSteps.cons (i := 19) ?_ (OpSteps.cons (i := 20) ?_ (OpSteps.cons (i := 21) ?_ (OpSteps.cons (i := 22) ?_ (OpSteps.cons (i := 23) ?_ (OpSteps.nil))))))))))))))))))))))))
    · intro d τ w' hd hn hI
      have HI := hideIt2 (HIN.out _ _ _ hI)
      have HD := hideIt2 hd
      have HN := hideIt2 hn
      clear hI hd hn
      intro K hK
      simp only [putAll, Act.put, List.setIfInBounds_toArray, List.set_cons_zero, List.set_cons_succ] at hK ⊢
      go_simp
      obtain ⟨hb, f0, f1, f2, f3, f4, f5, f6, f7, f8, f9, f10, f11, f12, f13, f14, f15, p16, o16, v16, a16, p17, o17, v17, a17, p18, o18, v18, a18, p19, o19, v19, a19, n16_17, n16_18, n16_19, n17_18, n17_19, n18_19⟩ := HI.out
      exact hK.out _ _ (HMK.out _ _ _ ⟨hb, fact_new rfl, fact_old (by decide) f1 (fun h => h), fact_old (by decide) f2 (fun h => h), fact_old (by decide) f3 (fun h => h), fact_old (by decide) f4 (fun h => h), fact_old (by decide) f5 (fun h => h), fact_old (by decide) f6 (fun h => h), fact_old (by decide) f7 (fun h => h), fact_old (by decide) f8 (fun h => h), fact_old (by decide) f9 (fun h => h), fact_old (by decide) f10 (fun h => h), fact_old (by decide) f11 (fun h => h), fact_old (by decide) f12 (fun h => h), fact_old (by decide) f13 (fun h => h), fact_old (by decide) f14 (fun h => h), fact_old (by decide) f15 (fun h => h), fact_old (by decide) p16 (fun h => h), fact_zero (by decide) o16 (fun h => h), fact_two (by decide) (by decide) v16 (fun h => h), imp_old (by decide) a16, fact_old (by decide) p17 (fun h => h), fact_zero (by decide) o17 (fun h => h), fact_two (by decide) (by decide) v17 (fun h => h), imp_old (by decide) a17, fact_old (by decide) p18 (fun h => h), fact_zero (by decide) o18 (fun h => h), fact_two (by decide) (by decide) v18 (fun h => h), imp_old (by decide) a18, fact_old (by decide) p19 (fun h => h), fact_zero (by decide) o19 (fun h => h), fact_two (by decide) (by decide) v19 (fun h => h), imp_old (by decide) a19, ne_old (by decide) (by decide) n16_17, ne_old (by decide) (by decide) n16_18, ne_old (by decide) (by decide) n16_19, ne_old (by decide) (by decide) n17_18, ne_old (by decide) (by decide) n17_19, ne_old (by decide) (by decide) n18_19⟩)
    · intro d τ w' hd hn hI
      have HI := hideIt2 (HIN.out _ _ _ hI)
      have HD := hideIt2 hd
      have HN := hideIt2 hn
      clear hI hd hn
      have hz := HS.out w' HI.out.1
      have z0 := hz.1
      have z1 := hz.2.1
      have z2 := hz.2.2.1
      have z3 := hz.2.2.2.1
      have z4 := hz.2.2.2.2.1
      have z5 := hz.2.2.2.2.2.1
      have z6 := hz.2.2.2.2.2.2.1
      have z7 := hz.2.2.2.2.2.2.2
      clear hz
      intro K hK
      simp only [putAll, Act.put, List.setIfInBounds_toArray, List.set_cons_zero, List.set_cons_succ] at hK ⊢
      go_simp
      obtain ⟨hb, f0, f1, f2, f3, f4, f5, f6, f7, f8, f9, f10, f11, f12, f13, f14, f15, p16, o16, v16, a16, p17, o17, v17, a17, p18, o18, v18, a18, p19, o19, v19, a19, n16_17, n16_18, n16_19, n17_18, n17_19, n18_19⟩ := HI.out
      exact hK.out _ _ (HMK.out _ _ _ ⟨hb, fact_old (by decide) f0 (fun h => h), fact_new rfl, fact_old (by decide) f2 (fun h => h), fact_old (by decide) f3 (fun h => h), fact_old (by decide) f4 (fun h => h), fact_old (by decide) f5 (fun h => h), fact_old (by decide) f6 (fun h => h), fact_old (by decide) f7 (fun h => h), fact_old (by decide) f8 (fun h => h), fact_old (by decide) f9 (fun h => h), fact_old (by decide) f10 (fun h => h), fact_old (by decide) f11 (fun h => h), fact_old (by decide) f12 (fun h => h), fact_old (by decide) f13 (fun h => h), fact_old (by decide) f14 (fun h => h), fact_old (by decide) f15 (fun h => h), fact_old (by decide) p16 (fun h => h), fact_zero (by decide) o16 (fun h => h), fact_two (by decide) (by decide) v16 (fun h => h), imp_old (by decide) a16, fact_old (by decide) p17 (fun h => h), fact_zero (by decide) o17 (fun h => h), fact_two (by decide) (by decide) v17 (fun h => h), imp_old (by decide) a17, fact_old (by decide) p18 (fun h => h), fact_zero (by decide) o18 (fun h => h), fact_two (by decide) (by decide) v18 (fun h => h), imp_old (by decide) a18, fact_old (by decide) p19 (fun h => h), fact_zero (by decide) o19 (fun h => h), fact_two (by decide) (by decide) v19 (fun h => h), imp_old (by decide) a19, ne_old (by decide) (by decide) n16_17, ne_old (by decide) (by decide) n16_18, ne_old (by decide) (by decide) n16_19, ne_old (by decide) (by decide) n17_18, ne_old (by decide) (by decide) n17_19, ne_old (by decide) (by decide) n18_19⟩)
    · intro d τ w' hd hn hI
      have HI := hideIt2 (HIN.out _ _ _ hI)
      have HD := hideIt2 hd
      have HN := hideIt2 hn
      clear hI hd hn
      have hz := HS.out w' HI.out.1
      have z0 := hz.1
      have z1 := hz.2.1
      have z2 := hz.2.2.1
      have z3 := hz.2.2.2.1
      have z4 := hz.2.2.2.2.1
      have z5 := hz.2.2.2.2.2.1
      have z6 := hz.2.2.2.2.2.2.1
      have z7 := hz.2.2.2.2.2.2.2
      clear hz
      intro K hK
      simp only [putAll, Act.put, List.setIfInBounds_toArray, List.set_cons_zero, List.set_cons_succ] at hK ⊢
      go_simp
      obtain ⟨hb, f0, f1, f2, f3, f4, f5, f6, f7, f8, f9, f10, f11, f12, f13, f14, f15, p16, o16, v16, a16, p17, o17, v17, a17, p18, o18, v18, a18, p19, o19, v19, a19, n16_17, n16_18, n16_19, n17_18, n17_19, n18_19⟩ := HI.out
      exact hK.out _ _ (HMK.out _ _ _ ⟨hb, fact_old (by decide) f0 (fun h => h), fact_old (by decide) f1 (fun h => h), fact_new rfl, fact_old (by decide) f3 (fun h => h), fact_old (by decide) f4 (fun h => h), fact_old (by decide) f5 (fun h => h), fact_old (by decide) f6 (fun h => h), fact_old (by decide) f7 (fun h => h), fact_old (by decide) f8 (fun h => h), fact_old (by decide) f9 (fun h => h), fact_old (by decide) f10 (fun h => h), fact_old (by decide) f11 (fun h => h), fact_old (by decide) f12 (fun h => h), fact_old (by decide) f13 (fun h => h), fact_old (by decide) f14 (fun h => h), fact_old (by decide) f15 (fun h => h), fact_old (by decide) p16 (fun h => h), fact_zero (by decide) o16 (fun h => h), fact_two (by decide) (by decide) v16 (fun h => h), imp_old (by decide) a16, fact_old (by decide) p17 (fun h => h), fact_zero (by decide) o17 (fun h => h), fact_two (by decide) (by decide) v17 (fun h => h), imp_old (by decide) a17, fact_old (by decide) p18 (fun h => h), fact_zero (by decide) o18 (fun h => h), fact_two (by decide) (by decide) v18 (fun h => h), imp_old (by decide) a18, fact_old (by decide) p19 (fun h => h), fact_zero (by decide) o19 (fun h => h), fact_two (by decide) (by decide) v19 (fun h => h), imp_old (by decide) a19, ne_old (by decide) (by decide) n16_17, ne_old (by decide) (by decide) n16_18, ne_old (by decide) (by decide) n16_19, ne_old (by decide) (by decide) n17_18, ne_old (by decide) (by decide) n17_19, ne_old (by decide) (by decide) n18_19⟩)
    · intro d τ w' hd hn hI
      have HI := hideIt2 (HIN.out _ _ _ hI)
      have HD := hideIt2 hd
      have HN := hideIt2 hn
      clear hI hd hn
      have e0 : τ 0 = .func (.func 18) #[] #[] := ((HI.out.2.1) (HD.out ⟨0, .data⟩ (by simp) rfl))
      have e1 : τ 1 = .agg #[.string ax, .string az] := ((HI.out.2.2.1) (HD.out ⟨1, .data⟩ (by simp) rfl))
      have e2 : τ 2 = .agg #[.string bx, .string bz] := ((HI.out.2.2.2.1) (HD.out ⟨2, .data⟩ (by simp) rfl))
      have hb := HI.out.1
      intro K hK
      simp only [putAll, Act.put, List.setIfInBounds_toArray, List.set_cons_zero, List.set_cons_succ, e0, e1, e2] at hK ⊢
      go_simp
      refine (midVa_calls sax saz sbx sbz (HT.out.below hb) (HM.out.below hb)).mono ?_
      rintro _ w2 ⟨hb2, v, rfl, hv⟩
      clear hb
      obtain ⟨hb, f0, f1, f2, f3, f4, f5, f6, f7, f8, f9, f10, f11, f12, f13, f14, f15, p16, o16, v16, a16, p17, o17, v17, a17, p18, o18, v18, a18, p19, o19, v19, a19, n16_17, n16_18, n16_19, n17_18, n17_19, n18_19⟩ := HI.out
      exact hK.out _ _ (HMK.out _ _ _ ⟨bel_bel hb hb2, fact_old (by decide) f0 (fun h => h.below hb2), fact_old (by decide) f1 (fun h => h.below hb2), fact_old (by decide) f2 (fun h => h.below hb2), fact_new hv, fact_old (by decide) f4 (fun h => h.below hb2), fact_old (by decide) f5 (fun h => h.below hb2), fact_old (by decide) f6 (fun h => h.below hb2), fact_old (by decide) f7 (fun h => h.below hb2), fact_old (by decide) f8 (fun h => h.below hb2), fact_old (by decide) f9 (fun h => h.below hb2), fact_old (by decide) f10 (fun h => h.below hb2), fact_old (by decide) f11 (fun h => h.below hb2), fact_old (by decide) f12 (fun h => h.below hb2), fact_old (by decide) f13 (fun h => h.below hb2), fact_old (by decide) f14 (fun h => h.below hb2), fact_old (by decide) f15 (fun h => h.below hb2), fact_old (by decide) p16 (fun h => h.below hb2), fact_zero (by decide) o16 (fun h => h.below hb2), fact_two (by decide) (by decide) v16 (fun h => h.below hb2), imp_old (by decide) a16, fact_old (by decide) p17 (fun h => h.below hb2), fact_zero (by decide) o17 (fun h => h.below hb2), fact_two (by decide) (by decide) v17 (fun h => h.below hb2), imp_old (by decide) a17, fact_old (by decide) p18 (fun h => h.below hb2), fact_zero (by decide) o18 (fun h => h.below hb2), fact_two (by decide) (by decide) v18 (fun h => h.below hb2), imp_old (by decide) a18, fact_old (by decide) p19 (fun h => h.below hb2), fact_zero (by decide) o19 (fun h => h.below hb2), fact_two (by decide) (by decide) v19 (fun h => h.below hb2), imp_old (by decide) a19, ne_old (by decide) (by decide) n16_17, ne_old (by decide) (by decide) n16_18, ne_old (by decide) (by decide) n16_19, ne_old (by decide) (by decide) n17_18, ne_old (by decide) (by decide) n17_19, ne_old (by decide) (by decide) n18_19⟩)
    · intro d τ w' hd hn hI
      have HI := hideIt2 (HIN.out _ _ _ hI)
      have HD := hideIt2 hd
      have HN := hideIt2 hn
      clear hI hd hn
      intro K hK
      simp only [putAll, Act.put, List.setIfInBounds_toArray, List.set_cons_zero, List.set_cons_succ] at hK ⊢
      go_simp
      obtain ⟨hb, f0, f1, f2, f3, f4, f5, f6, f7, f8, f9, f10, f11, f12, f13, f14, f15, p16, o16, v16, a16, p17, o17, v17, a17, p18, o18, v18, a18, p19, o19, v19, a19, n16_17, n16_18, n16_19, n17_18, n17_19, n18_19⟩ := HI.out
      exact hK.out _ _ (HMK.out _ _ _ ⟨hb, fact_old (by decide) f0 (fun h => h), fact_old (by decide) f1 (fun h => h), fact_old (by decide) f2 (fun h => h), fact_old (by decide) f3 (fun h => h), fact_new rfl, fact_old (by decide) f5 (fun h => h), fact_old (by decide) f6 (fun h => h), fact_old (by decide) f7 (fun h => h), fact_old (by decide) f8 (fun h => h), fact_old (by decide) f9 (fun h => h), fact_old (by decide) f10 (fun h => h), fact_old (by decide) f11 (fun h => h), fact_old (by decide) f12 (fun h => h), fact_old (by decide) f13 (fun h => h), fact_old (by decide) f14 (fun h => h), fact_old (by decide) f15 (fun h => h), fact_old (by decide) p16 (fun h => h), fact_zero (by decide) o16 (fun h => h), fact_two (by decide) (by decide) v16 (fun h => h), imp_old (by decide) a16, fact_old (by decide) p17 (fun h => h), fact_zero (by decide) o17 (fun h => h), fact_two (by decide) (by decide) v17 (fun h => h), imp_old (by decide) a17, fact_old (by decide) p18 (fun h => h), fact_zero (by decide) o18 (fun h => h), fact_two (by decide) (by decide) v18 (fun h => h), imp_old (by decide) a18, fact_old (by decide) p19 (fun h => h), fact_zero (by decide) o19 (fun h => h), fact_two (by decide) (by decide) v19 (fun h => h), imp_old (by decide) a19, ne_old (by decide) (by decide) n16_17, ne_old (by decide) (by decide) n16_18, ne_old (by decide) (by decide) n16_19, ne_old (by decide) (by decide) n17_18, ne_old (by decide) (by decide) n17_19, ne_old (by decide) (by decide) n18_19⟩)
    · intro d τ w' hd hn hI
      have HI := hideIt2 (HIN.out _ _ _ hI)
      have HD := hideIt2 hd
      have HN := hideIt2 hn
      clear hI hd hn
      have hz := HS.out w' HI.out.1
      have z0 := hz.1
      have z1 := hz.2.1
      have z2 := hz.2.2.1
      have z3 := hz.2.2.2.1
      have z4 := hz.2.2.2.2.1
      have z5 := hz.2.2.2.2.2.1
      have z6 := hz.2.2.2.2.2.2.1
      have z7 := hz.2.2.2.2.2.2.2
      clear hz
      intro K hK
      simp only [putAll, Act.put, List.setIfInBounds_toArray, List.set_cons_zero, List.set_cons_succ] at hK ⊢
      go_simp
      obtain ⟨hb, f0, f1, f2, f3, f4, f5, f6, f7, f8, f9, f10, f11, f12, f13, f14, f15, p16, o16, v16, a16, p17, o17, v17, a17, p18, o18, v18, a18, p19, o19, v19, a19, n16_17, n16_18, n16_19, n17_18, n17_19, n18_19⟩ := HI.out
      exact hK.out _ _ (HMK.out _ _ _ ⟨hb, fact_old (by decide) f0 (fun h => h), fact_old (by decide) f1 (fun h => h), fact_old (by decide) f2 (fun h => h), fact_old (by decide) f3 (fun h => h), fact_old (by decide) f4 (fun h => h), fact_new rfl, fact_old (by decide) f6 (fun h => h), fact_old (by decide) f7 (fun h => h), fact_old (by decide) f8 (fun h => h), fact_old (by decide) f9 (fun h => h), fact_old (by decide) f10 (fun h => h), fact_old (by decide) f11 (fun h => h), fact_old (by decide) f12 (fun h => h), fact_old (by decide) f13 (fun h => h), fact_old (by decide) f14 (fun h => h), fact_old (by decide) f15 (fun h => h), fact_old (by decide) p16 (fun h => h), fact_zero (by decide) o16 (fun h => h), fact_two (by decide) (by decide) v16 (fun h => h), imp_old (by decide) a16, fact_old (by decide) p17 (fun h => h), fact_zero (by decide) o17 (fun h => h), fact_two (by decide) (by decide) v17 (fun h => h), imp_old (by decide) a17, fact_old (by decide) p18 (fun h => h), fact_zero (by decide) o18 (fun h => h), fact_two (by decide) (by decide) v18 (fun h => h), imp_old (by decide) a18, fact_old (by decide) p19 (fun h => h), fact_zero (by decide) o19 (fun h => h), fact_two (by decide) (by decide) v19 (fun h => h), imp_old (by decide) a19, ne_old (by decide) (by decide) n16_17, ne_old (by decide) (by decide) n16_18, ne_old (by decide) (by decide) n16_19, ne_old (by decide) (by decide) n17_18, ne_old (by decide) (by decide) n17_19, ne_old (by decide) (by decide) n18_19⟩)
    · intro d τ w' hd hn hI
      have HI := hideIt2 (HIN.out _ _ _ hI)
      have HD := hideIt2 hd
      have HN := hideIt2 hn
      clear hI hd hn
      have hz := HS.out w' HI.out.1
      have z0 := hz.1
      have z1 := hz.2.1
      have z2 := hz.2.2.1
      have z3 := hz.2.2.2.1
      have z4 := hz.2.2.2.2.1
      have z5 := hz.2.2.2.2.2.1
      have z6 := hz.2.2.2.2.2.2.1
      have z7 := hz.2.2.2.2.2.2.2
      clear hz
      intro K hK
      simp only [putAll, Act.put, List.setIfInBounds_toArray, List.set_cons_zero, List.set_cons_succ] at hK ⊢
      go_simp
      obtain ⟨hb, f0, f1, f2, f3, f4, f5, f6, f7, f8, f9, f10, f11, f12, f13, f14, f15, p16, o16, v16, a16, p17, o17, v17, a17, p18, o18, v18, a18, p19, o19, v19, a19, n16_17, n16_18, n16_19, n17_18, n17_19, n18_19⟩ := HI.out
      exact hK.out _ _ (HMK.out _ _ _ ⟨hb, fact_old (by decide) f0 (fun h => h), fact_old (by decide) f1 (fun h => h), fact_old (by decide) f2 (fun h => h), fact_old (by decide) f3 (fun h => h), fact_old (by decide) f4 (fun h => h), fact_old (by decide) f5 (fun h => h), fact_new rfl, fact_old (by decide) f7 (fun h => h), fact_old (by decide) f8 (fun h => h), fact_old (by decide) f9 (fun h => h), fact_old (by decide) f10 (fun h => h), fact_old (by decide) f11 (fun h => h), fact_old (by decide) f12 (fun h => h), fact_old (by decide) f13 (fun h => h), fact_old (by decide) f14 (fun h => h), fact_old (by decide) f15 (fun h => h), fact_old (by decide) p16 (fun h => h), fact_zero (by decide) o16 (fun h => h), fact_two (by decide) (by decide) v16 (fun h => h), imp_old (by decide) a16, fact_old (by decide) p17 (fun h => h), fact_zero (by decide) o17 (fun h => h), fact_two (by decide) (by decide) v17 (fun h => h), imp_old (by decide) a17, fact_old (by decide) p18 (fun h => h), fact_zero (by decide) o18 (fun h => h), fact_two (by decide) (by decide) v18 (fun h => h), imp_old (by decide) a18, fact_old (by decide) p19 (fun h => h), fact_zero (by decide) o19 (fun h => h), fact_two (by decide) (by decide) v19 (fun h => h), imp_old (by decide) a19, ne_old (by decide) (by decide) n16_17, ne_old (by decide) (by decide) n16_18, ne_old (by decide) (by decide) n16_19, ne_old (by decide) (by decide) n17_18, ne_old (by decide) (by decide) n17_19, ne_old (by decide) (by decide) n18_19⟩)
    · intro d τ w' hd hn hI
      have HI := hideIt2 (HIN.out _ _ _ hI)
      have HD := hideIt2 hd
      have HN := hideIt2 hn
      clear hI hd hn
      have e4 : τ 4 = .func (.func 18) #[] #[] := ((HI.out.2.2.2.2.2.1) (HD.out ⟨4, .data⟩ (by simp) rfl))
      have e5 : τ 5 = .agg #[.string bx, .string bz] := ((HI.out.2.2.2.2.2.2.1) (HD.out ⟨5, .data⟩ (by simp) rfl))
      have e6 : τ 6 = .agg #[.string cx, .string cz] := ((HI.out.2.2.2.2.2.2.2.1) (HD.out ⟨6, .data⟩ (by simp) rfl))
      have hb := HI.out.1
      intro K hK
      simp only [putAll, Act.put, List.setIfInBounds_toArray, List.set_cons_zero, List.set_cons_succ, e4, e5, e6] at hK ⊢
      go_simp
      refine (midVa_calls sbx sbz scx scz (HT.out.below hb) (HM.out.below hb)).mono ?_
      rintro _ w2 ⟨hb2, v, rfl, hv⟩
      clear hb
      obtain ⟨hb, f0, f1, f2, f3, f4, f5, f6, f7, f8, f9, f10, f11, f12, f13, f14, f15, p16, o16, v16, a16, p17, o17, v17, a17, p18, o18, v18, a18, p19, o19, v19, a19, n16_17, n16_18, n16_19, n17_18, n17_19, n18_19⟩ := HI.out
      exact hK.out _ _ (HMK.out _ _ _ ⟨bel_bel hb hb2, fact_old (by decide) f0 (fun h => h.below hb2), fact_old (by decide) f1 (fun h => h.below hb2), fact_old (by decide) f2 (fun h => h.below hb2), fact_old (by decide) f3 (fun h => h.below hb2), fact_old (by decide) f4 (fun h => h.below hb2), fact_old (by decide) f5 (fun h => h.below hb2), fact_old (by decide) f6 (fun h => h.below hb2), fact_new hv, fact_old (by decide) f8 (fun h => h.below hb2), fact_old (by decide) f9 (fun h => h.below hb2), fact_old (by decide) f10 (fun h => h.below hb2), fact_old (by decide) f11 (fun h => h.below hb2), fact_old (by decide) f12 (fun h => h.below hb2), fact_old (by decide) f13 (fun h => h.below hb2), fact_old (by decide) f14 (fun h => h.below hb2), fact_old (by decide) f15 (fun h => h.below hb2), fact_old (by decide) p16 (fun h => h.below hb2), fact_zero (by decide) o16 (fun h => h.below hb2), fact_two (by decide) (by decide) v16 (fun h => h.below hb2), imp_old (by decide) a16, fact_old (by decide) p17 (fun h => h.below hb2), fact_zero (by decide) o17 (fun h => h.below hb2), fact_two (by decide) (by decide) v17 (fun h => h.below hb2), imp_old (by decide) a17, fact_old (by decide) p18 (fun h => h.below hb2), fact_zero (by decide) o18 (fun h => h.below hb2), fact_two (by decide) (by decide) v18 (fun h => h.below hb2), imp_old (by decide) a18, fact_old (by decide) p19 (fun h => h.below hb2), fact_zero (by decide) o19 (fun h => h.below hb2), fact_two (by decide) (by decide) v19 (fun h => h.below hb2), imp_old (by decide) a19, ne_old (by decide) (by decide) n16_17, ne_old (by decide) (by decide) n16_18, ne_old (by decide) (by decide) n16_19, ne_old (by decide) (by decide) n17_18, ne_old (by decide) (by decide) n17_19, ne_old (by decide) (by decide) n18_19⟩)
    · intro d τ w' hd hn hI
      have HI := hideIt2 (HIN.out _ _ _ hI)
      have HD := hideIt2 hd
      have HN := hideIt2 hn
      clear hI hd hn
      intro K hK
      simp only [putAll, Act.put, List.setIfInBounds_toArray, List.set_cons_zero, List.set_cons_succ] at hK ⊢
      go_simp
      obtain ⟨hb, f0, f1, f2, f3, f4, f5, f6, f7, f8, f9, f10, f11, f12, f13, f14, f15, p16, o16, v16, a16, p17, o17, v17, a17, p18, o18, v18, a18, p19, o19, v19, a19, n16_17, n16_18, n16_19, n17_18, n17_19, n18_19⟩ := HI.out
      exact hK.out _ _ (HMK.out _ _ _ ⟨hb, fact_old (by decide) f0 (fun h => h), fact_old (by decide) f1 (fun h => h), fact_old (by decide) f2 (fun h => h), fact_old (by decide) f3 (fun h => h), fact_old (by decide) f4 (fun h => h), fact_old (by decide) f5 (fun h => h), fact_old (by decide) f6 (fun h => h), fact_old (by decide) f7 (fun h => h), fact_new rfl, fact_old (by decide) f9 (fun h => h), fact_old (by decide) f10 (fun h => h), fact_old (by decide) f11 (fun h => h), fact_old (by decide) f12 (fun h => h), fact_old (by decide) f13 (fun h => h), fact_old (by decide) f14 (fun h => h), fact_old (by decide) f15 (fun h => h), fact_old (by decide) p16 (fun h => h), fact_zero (by decide) o16 (fun h => h), fact_two (by decide) (by decide) v16 (fun h => h), imp_old (by decide) a16, fact_old (by decide) p17 (fun h => h), fact_zero (by decide) o17 (fun h => h), fact_two (by decide) (by decide) v17 (fun h => h), imp_old (by decide) a17, fact_old (by decide) p18 (fun h => h), fact_zero (by decide) o18 (fun h => h), fact_two (by decide) (by decide) v18 (fun h => h), imp_old (by decide) a18, fact_old (by decide) p19 (fun h => h), fact_zero (by decide) o19 (fun h => h), fact_two (by decide) (by decide) v19 (fun h => h), imp_old (by decide) a19, ne_old (by decide) (by decide) n16_17, ne_old (by decide) (by decide) n16_18, ne_old (by decide) (by decide) n16_19, ne_old (by decide) (by decide) n17_18, ne_old (by decide) (by decide) n17_19, ne_old (by decide) (by decide) n18_19⟩)
    · intro d τ w' hd hn hI
      have HI := hideIt2 (HIN.out _ _ _ hI)
      have HD := hideIt2 hd
      have HN := hideIt2 hn
      clear hI hd hn
      have hz := HS.out w' HI.out.1
      have z0 := hz.1
      have z1 := hz.2.1
      have z2 := hz.2.2.1
      have z3 := hz.2.2.2.1
      have z4 := hz.2.2.2.2.1
      have z5 := hz.2.2.2.2.2.1
      have z6 := hz.2.2.2.2.2.2.1
      have z7 := hz.2.2.2.2.2.2.2
      clear hz
      intro K hK
      simp only [putAll, Act.put, List.setIfInBounds_toArray, List.set_cons_zero, List.set_cons_succ] at hK ⊢
      go_simp
      obtain ⟨hb, f0, f1, f2, f3, f4, f5, f6, f7, f8, f9, f10, f11, f12, f13, f14, f15, p16, o16, v16, a16, p17, o17, v17, a17, p18, o18, v18, a18, p19, o19, v19, a19, n16_17, n16_18, n16_19, n17_18, n17_19, n18_19⟩ := HI.out
      exact hK.out _ _ (HMK.out _ _ _ ⟨hb, fact_old (by decide) f0 (fun h => h), fact_old (by decide) f1 (fun h => h), fact_old (by decide) f2 (fun h => h), fact_old (by decide) f3 (fun h => h), fact_old (by decide) f4 (fun h => h), fact_old (by decide) f5 (fun h => h), fact_old (by decide) f6 (fun h => h), fact_old (by decide) f7 (fun h => h), fact_old (by decide) f8 (fun h => h), fact_new rfl, fact_old (by decide) f10 (fun h => h), fact_old (by decide) f11 (fun h => h), fact_old (by decide) f12 (fun h => h), fact_old (by decide) f13 (fun h => h), fact_old (by decide) f14 (fun h => h), fact_old (by decide) f15 (fun h => h), fact_old (by decide) p16 (fun h => h), fact_zero (by decide) o16 (fun h => h), fact_two (by decide) (by decide) v16 (fun h => h), imp_old (by decide) a16, fact_old (by decide) p17 (fun h => h), fact_zero (by decide) o17 (fun h => h), fact_two (by decide) (by decide) v17 (fun h => h), imp_old (by decide) a17, fact_old (by decide) p18 (fun h => h), fact_zero (by decide) o18 (fun h => h), fact_two (by decide) (by decide) v18 (fun h => h), imp_old (by decide) a18, fact_old (by decide) p19 (fun h => h), fact_zero (by decide) o19 (fun h => h), fact_two (by decide) (by decide) v19 (fun h => h), imp_old (by decide) a19, ne_old (by decide) (by decide) n16_17, ne_old (by decide) (by decide) n16_18, ne_old (by decide) (by decide) n16_19, ne_old (by decide) (by decide) n17_18, ne_old (by decide) (by decide) n17_19, ne_old (by decide) (by decide) n18_19⟩)
    · intro d τ w' hd hn hI
      have HI := hideIt2 (HIN.out _ _ _ hI)
      have HD := hideIt2 hd
      have HN := hideIt2 hn
      clear hI hd hn
      have hz := HS.out w' HI.out.1
      have z0 := hz.1
      have z1 := hz.2.1
      have z2 := hz.2.2.1
      have z3 := hz.2.2.2.1
      have z4 := hz.2.2.2.2.1
      have z5 := hz.2.2.2.2.2.1
      have z6 := hz.2.2.2.2.2.2.1
      have z7 := hz.2.2.2.2.2.2.2
      clear hz
      intro K hK
      simp only [putAll, Act.put, List.setIfInBounds_toArray, List.set_cons_zero, List.set_cons_succ] at hK ⊢
      go_simp
      obtain ⟨hb, f0, f1, f2, f3, f4, f5, f6, f7, f8, f9, f10, f11, f12, f13, f14, f15, p16, o16, v16, a16, p17, o17, v17, a17, p18, o18, v18, a18, p19, o19, v19, a19, n16_17, n16_18, n16_19, n17_18, n17_19, n18_19⟩ := HI.out
      exact hK.out _ _ (HMK.out _ _ _ ⟨hb, fact_old (by decide) f0 (fun h => h), fact_old (by decide) f1 (fun h => h), fact_old (by decide) f2 (fun h => h), fact_old (by decide) f3 (fun h => h), fact_old (by decide) f4 (fun h => h), fact_old (by decide) f5 (fun h => h), fact_old (by decide) f6 (fun h => h), fact_old (by decide) f7 (fun h => h), fact_old (by decide) f8 (fun h => h), fact_old (by decide) f9 (fun h => h), fact_new rfl, fact_old (by decide) f11 (fun h => h), fact_old (by decide) f12 (fun h => h), fact_old (by decide) f13 (fun h => h), fact_old (by decide) f14 (fun h => h), fact_old (by decide) f15 (fun h => h), fact_old (by decide) p16 (fun h => h), fact_zero (by decide) o16 (fun h => h), fact_two (by decide) (by decide) v16 (fun h => h), imp_old (by decide) a16, fact_old (by decide) p17 (fun h => h), fact_zero (by decide) o17 (fun h => h), fact_two (by decide) (by decide) v17 (fun h => h), imp_old (by decide) a17, fact_old (by decide) p18 (fun h => h), fact_zero (by decide) o18 (fun h => h), fact_two (by decide) (by decide) v18 (fun h => h), imp_old (by decide) a18, fact_old (by decide) p19 (fun h => h), fact_zero (by decide) o19 (fun h => h), fact_two (by decide) (by decide) v19 (fun h => h), imp_old (by decide) a19, ne_old (by decide) (by decide) n16_17, ne_old (by decide) (by decide) n16_18, ne_old (by decide) (by decide) n16_19, ne_old (by decide) (by decide) n17_18, ne_old (by decide) (by decide) n17_19, ne_old (by decide) (by decide) n18_19⟩)
    · intro d τ w' hd hn hI
      have HI := hideIt2 (HIN.out _ _ _ hI)
      have HD := hideIt2 hd
      have HN := hideIt2 hn
      clear hI hd hn
      have e8 : τ 8 = .func (.func 18) #[] #[] := ((HI.out.2.2.2.2.2.2.2.2.2.1) (HD.out ⟨8, .data⟩ (by simp) rfl))
      have e9 : τ 9 = .agg #[.string cx, .string cz] := ((HI.out.2.2.2.2.2.2.2.2.2.2.1) (HD.out ⟨9, .data⟩ (by simp) rfl))
      have e10 : τ 10 = .agg #[.string dx, .string dz] := ((HI.out.2.2.2.2.2.2.2.2.2.2.2.1) (HD.out ⟨10, .data⟩ (by simp) rfl))
      have hb := HI.out.1
      intro K hK
      simp only [putAll, Act.put, List.setIfInBounds_toArray, List.set_cons_zero, List.set_cons_succ, e8, e9, e10] at hK ⊢
      go_simp
      refine (midVa_calls scx scz sdx sdz (HT.out.below hb) (HM.out.below hb)).mono ?_
      rintro _ w2 ⟨hb2, v, rfl, hv⟩
      clear hb
      obtain ⟨hb, f0, f1, f2, f3, f4, f5, f6, f7, f8, f9, f10, f11, f12, f13, f14, f15, p16, o16, v16, a16, p17, o17, v17, a17, p18, o18, v18, a18, p19, o19, v19, a19, n16_17, n16_18, n16_19, n17_18, n17_19, n18_19⟩ := HI.out
      exact hK.out _ _ (HMK.out _ _ _ ⟨bel_bel hb hb2, fact_old (by decide) f0 (fun h => h.below hb2), fact_old (by decide) f1 (fun h => h.below hb2), fact_old (by decide) f2 (fun h => h.below hb2), fact_old (by decide) f3 (fun h => h.below hb2), fact_old (by decide) f4 (fun h => h.below hb2), fact_old (by decide) f5 (fun h => h.below hb2), fact_old (by decide) f6 (fun h => h.below hb2), fact_old (by decide) f7 (fun h => h.below hb2), fact_old (by decide) f8 (fun h => h.below hb2), fact_old (by decide) f9 (fun h => h.below hb2), fact_old (by decide) f10 (fun h => h.below hb2), fact_new hv, fact_old (by decide) f12 (fun h => h.below hb2), fact_old (by decide) f13 (fun h => h.below hb2), fact_old (by decide) f14 (fun h => h.below hb2), fact_old (by decide) f15 (fun h => h.below hb2), fact_old (by decide) p16 (fun h => h.below hb2), fact_zero (by decide) o16 (fun h => h.below hb2), fact_two (by decide) (by decide) v16 (fun h => h.below hb2), imp_old (by decide) a16, fact_old (by decide) p17 (fun h => h.below hb2), fact_zero (by decide) o17 (fun h => h.below hb2), fact_two (by decide) (by decide) v17 (fun h => h.below hb2), imp_old (by decide) a17, fact_old (by decide) p18 (fun h => h.below hb2), fact_zero (by decide) o18 (fun h => h.below hb2), fact_two (by decide) (by decide) v18 (fun h => h.below hb2), imp_old (by decide) a18, fact_old (by decide) p19 (fun h => h.below hb2), fact_zero (by decide) o19 (fun h => h.below hb2), fact_two (by decide) (by decide) v19 (fun h => h.below hb2), imp_old (by decide) a19, ne_old (by decide) (by decide) n16_17, ne_old (by decide) (by decide) n16_18, ne_old (by decide) (by decide) n16_19, ne_old (by decide) (by decide) n17_18, ne_old (by decide) (by decide) n17_19, ne_old (by decide) (by decide) n18_19⟩)
    · intro d τ w' hd hn hI
      have HI := hideIt2 (HIN.out _ _ _ hI)
      have HD := hideIt2 hd
      have HN := hideIt2 hn
      clear hI hd hn
      intro K hK
      simp only [putAll, Act.put, List.setIfInBounds_toArray, List.set_cons_zero, List.set_cons_succ] at hK ⊢
      go_simp
      obtain ⟨hb, f0, f1, f2, f3, f4, f5, f6, f7, f8, f9, f10, f11, f12, f13, f14, f15, p16, o16, v16, a16, p17, o17, v17, a17, p18, o18, v18, a18, p19, o19, v19, a19, n16_17, n16_18, n16_19, n17_18, n17_19, n18_19⟩ := HI.out
      exact hK.out _ _ (HMK.out _ _ _ ⟨hb, fact_old (by decide) f0 (fun h => h), fact_old (by decide) f1 (fun h => h), fact_old (by decide) f2 (fun h => h), fact_old (by decide) f3 (fun h => h), fact_old (by decide) f4 (fun h => h), fact_old (by decide) f5 (fun h => h), fact_old (by decide) f6 (fun h => h), fact_old (by decide) f7 (fun h => h), fact_old (by decide) f8 (fun h => h), fact_old (by decide) f9 (fun h => h), fact_old (by decide) f10 (fun h => h), fact_old (by decide) f11 (fun h => h), fact_new rfl, fact_old (by decide) f13 (fun h => h), fact_old (by decide) f14 (fun h => h), fact_old (by decide) f15 (fun h => h), fact_old (by decide) p16 (fun h => h), fact_zero (by decide) o16 (fun h => h), fact_two (by decide) (by decide) v16 (fun h => h), imp_old (by decide) a16, fact_old (by decide) p17 (fun h => h), fact_zero (by decide) o17 (fun h => h), fact_two (by decide) (by decide) v17 (fun h => h), imp_old (by decide) a17, fact_old (by decide) p18 (fun h => h), fact_zero (by decide) o18 (fun h => h), fact_two (by decide) (by decide) v18 (fun h => h), imp_old (by decide) a18, fact_old (by decide) p19 (fun h => h), fact_zero (by decide) o19 (fun h => h), fact_two (by decide) (by decide) v19 (fun h => h), imp_old (by decide) a19, ne_old (by decide) (by decide) n16_17, ne_old (by decide) (by decide) n16_18, ne_old (by decide) (by decide) n16_19, ne_old (by decide) (by decide) n17_18, ne_old (by decide) (by decide) n17_19, ne_old (by decide) (by decide) n18_19⟩)
    · intro d τ w' hd hn hI
      have HI := hideIt2 (HIN.out _ _ _ hI)
      have HD := hideIt2 hd
      have HN := hideIt2 hn
      clear hI hd hn
      have hz := HS.out w' HI.out.1
      have z0 := hz.1
      have z1 := hz.2.1
      have z2 := hz.2.2.1
      have z3 := hz.2.2.2.1
      have z4 := hz.2.2.2.2.1
      have z5 := hz.2.2.2.2.2.1
      have z6 := hz.2.2.2.2.2.2.1
      have z7 := hz.2.2.2.2.2.2.2
      clear hz
      intro K hK
      simp only [putAll, Act.put, List.setIfInBounds_toArray, List.set_cons_zero, List.set_cons_succ] at hK ⊢
      go_simp
      obtain ⟨hb, f0, f1, f2, f3, f4, f5, f6, f7, f8, f9, f10, f11, f12, f13, f14, f15, p16, o16, v16, a16, p17, o17, v17, a17, p18, o18, v18, a18, p19, o19, v19, a19, n16_17, n16_18, n16_19, n17_18, n17_19, n18_19⟩ := HI.out
      exact hK.out _ _ (HMK.out _ _ _ ⟨hb, fact_old (by decide) f0 (fun h => h), fact_old (by decide) f1 (fun h => h), fact_old (by decide) f2 (fun h => h), fact_old (by decide) f3 (fun h => h), fact_old (by decide) f4 (fun h => h), fact_old (by decide) f5 (fun h => h), fact_old (by decide) f6 (fun h => h), fact_old (by decide) f7 (fun h => h), fact_old (by decide) f8 (fun h => h), fact_old (by decide) f9 (fun h => h), fact_old (by decide) f10 (fun h => h), fact_old (by decide) f11 (fun h => h), fact_old (by decide) f12 (fun h => h), fact_new rfl, fact_old (by decide) f14 (fun h => h), fact_old (by decide) f15 (fun h => h), fact_old (by decide) p16 (fun h => h), fact_zero (by decide) o16 (fun h => h), fact_two (by decide) (by decide) v16 (fun h => h), imp_old (by decide) a16, fact_old (by decide) p17 (fun h => h), fact_zero (by decide) o17 (fun h => h), fact_two (by decide) (by decide) v17 (fun h => h), imp_old (by decide) a17, fact_old (by decide) p18 (fun h => h), fact_zero (by decide) o18 (fun h => h), fact_two (by decide) (by decide) v18 (fun h => h), imp_old (by decide) a18, fact_old (by decide) p19 (fun h => h), fact_zero (by decide) o19 (fun h => h), fact_two (by decide) (by decide) v19 (fun h => h), imp_old (by decide) a19, ne_old (by decide) (by decide) n16_17, ne_old (by decide) (by decide) n16_18, ne_old (by decide) (by decide) n16_19, ne_old (by decide) (by decide) n17_18, ne_old (by decide) (by decide) n17_19, ne_old (by decide) (by decide) n18_19⟩)
    · intro d τ w' hd hn hI
      have HI := hideIt2 (HIN.out _ _ _ hI)
      have HD := hideIt2 hd
      have HN := hideIt2 hn
      clear hI hd hn
      have hz := HS.out w' HI.out.1
      have z0 := hz.1
      have z1 := hz.2.1
      have z2 := hz.2.2.1
      have z3 := hz.2.2.2.1
      have z4 := hz.2.2.2.2.1
      have z5 := hz.2.2.2.2.2.1
      have z6 := hz.2.2.2.2.2.2.1
      have z7 := hz.2.2.2.2.2.2.2
      clear hz
      intro K hK
      simp only [putAll, Act.put, List.setIfInBounds_toArray, List.set_cons_zero, List.set_cons_succ] at hK ⊢
      go_simp
      obtain ⟨hb, f0, f1, f2, f3, f4, f5, f6, f7, f8, f9, f10, f11, f12, f13, f14, f15, p16, o16, v16, a16, p17, o17, v17, a17, p18, o18, v18, a18, p19, o19, v19, a19, n16_17, n16_18, n16_19, n17_18, n17_19, n18_19⟩ := HI.out
      exact hK.out _ _ (HMK.out _ _ _ ⟨hb, fact_old (by decide) f0 (fun h => h), fact_old (by decide) f1 (fun h => h), fact_old (by decide) f2 (fun h => h), fact_old (by decide) f3 (fun h => h), fact_old (by decide) f4 (fun h => h), fact_old (by decide) f5 (fun h => h), fact_old (by decide) f6 (fun h => h), fact_old (by decide) f7 (fun h => h), fact_old (by decide) f8 (fun h => h), fact_old (by decide) f9 (fun h => h), fact_old (by decide) f10 (fun h => h), fact_old (by decide) f11 (fun h => h), fact_old (by decide) f12 (fun h => h), fact_old (by decide) f13 (fun h => h), fact_new rfl, fact_old (by decide) f15 (fun h => h), fact_old (by decide) p16 (fun h => h), fact_zero (by decide) o16 (fun h => h), fact_two (by decide) (by decide) v16 (fun h => h), imp_old (by decide) a16, fact_old (by decide) p17 (fun h => h), fact_zero (by decide) o17 (fun h => h), fact_two (by decide) (by decide) v17 (fun h => h), imp_old (by decide) a17, fact_old (by decide) p18 (fun h => h), fact_zero (by decide) o18 (fun h => h), fact_two (by decide) (by decide) v18 (fun h => h), imp_old (by decide) a18, fact_old (by decide) p19 (fun h => h), fact_zero (by decide) o19 (fun h => h), fact_two (by decide) (by decide) v19 (fun h => h), imp_old (by decide) a19, ne_old (by decide) (by decide) n16_17, ne_old (by decide) (by decide) n16_18, ne_old (by decide) (by decide) n16_19, ne_old (by decide) (by decide) n17_18, ne_old (by decide) (by decide) n17_19, ne_old (by decide) (by decide) n18_19⟩)
    · intro d τ w' hd hn hI
      have HI := hideIt2 (HIN.out _ _ _ hI)
      have HD := hideIt2 hd
      have HN := hideIt2 hn
      clear hI hd hn
      have e12 : τ 12 = .func (.func 18) #[] #[] := ((HI.out.2.2.2.2.2.2.2.2.2.2.2.2.2.1) (HD.out ⟨12, .data⟩ (by simp) rfl))
      have e13 : τ 13 = .agg #[.string dx, .string dz] := ((HI.out.2.2.2.2.2.2.2.2.2.2.2.2.2.2.1) (HD.out ⟨13, .data⟩ (by simp) rfl))
      have e14 : τ 14 = .agg #[.string ax, .string az] := ((HI.out.2.2.2.2.2.2.2.2.2.2.2.2.2.2.2.1) (HD.out ⟨14, .data⟩ (by simp) rfl))
      have hb := HI.out.1
      intro K hK
      simp only [putAll, Act.put, List.setIfInBounds_toArray, List.set_cons_zero, List.set_cons_succ, e12, e13, e14] at hK ⊢
      go_simp
      refine (midVa_calls sdx sdz sax saz (HT.out.below hb) (HM.out.below hb)).mono ?_
      rintro _ w2 ⟨hb2, v, rfl, hv⟩
      clear hb
      obtain ⟨hb, f0, f1, f2, f3, f4, f5, f6, f7, f8, f9, f10, f11, f12, f13, f14, f15, p16, o16, v16, a16, p17, o17, v17, a17, p18, o18, v18, a18, p19, o19, v19, a19, n16_17, n16_18, n16_19, n17_18, n17_19, n18_19⟩ := HI.out
      exact hK.out _ _ (HMK.out _ _ _ ⟨bel_bel hb hb2, fact_old (by decide) f0 (fun h => h.below hb2), fact_old (by decide) f1 (fun h => h.below hb2), fact_old (by decide) f2 (fun h => h.below hb2), fact_old (by decide) f3 (fun h => h.below hb2), fact_old (by decide) f4 (fun h => h.below hb2), fact_old (by decide) f5 (fun h => h.below hb2), fact_old (by decide) f6 (fun h => h.below hb2), fact_old (by decide) f7 (fun h => h.below hb2), fact_old (by decide) f8 (fun h => h.below hb2), fact_old (by decide) f9 (fun h => h.below hb2), fact_old (by decide) f10 (fun h => h.below hb2), fact_old (by decide) f11 (fun h => h.below hb2), fact_old (by decide) f12 (fun h => h.below hb2), fact_old (by decide) f13 (fun h => h.below hb2), fact_old (by decide) f14 (fun h => h.below hb2), fact_new hv, fact_old (by decide) p16 (fun h => h.below hb2), fact_zero (by decide) o16 (fun h => h.below hb2), fact_two (by decide) (by decide) v16 (fun h => h.below hb2), imp_old (by decide) a16, fact_old (by decide) p17 (fun h => h.below hb2), fact_zero (by decide) o17 (fun h => h.below hb2), fact_two (by decide) (by decide) v17 (fun h => h.below hb2), imp_old (by decide) a17, fact_old (by decide) p18 (fun h => h.below hb2), fact_zero (by decide) o18 (fun h => h.below hb2), fact_two (by decide) (by decide) v18 (fun h => h.below hb2), imp_old (by decide) a18, fact_old (by decide) p19 (fun h => h.below hb2), fact_zero (by decide) o19 (fun h => h.below hb2), fact_two (by decide) (by decide) v19 (fun h => h.below hb2), imp_old (by decide) a19, ne_old (by decide) (by decide) n16_17, ne_old (by decide) (by decide) n16_18, ne_old (by decide) (by decide) n16_19, ne_old (by decide) (by decide) n17_18, ne_old (by decide) (by decide) n17_19, ne_old (by decide) (by decide) n18_19⟩)
    · intro d τ w' hd hn hI
      have HI := hideIt2 (HIN.out _ _ _ hI)
      have HD := hideIt2 hd
      have HN := hideIt2 hn
      clear hI hd hn
      intro K hK
      simp only [putAll, Act.put, List.setIfInBounds_toArray, List.set_cons_zero, List.set_cons_succ] at hK ⊢
      go_simp
      obtain ⟨hb, f0, f1, f2, f3, f4, f5, f6, f7, f8, f9, f10, f11, f12, f13, f14, f15, p16, o16, v16, a16, p17, o17, v17, a17, p18, o18, v18, a18, p19, o19, v19, a19, n16_17, n16_18, n16_19, n17_18, n17_19, n18_19⟩ := HI.out
      exact hK.out _ _ (HMK.out _ _ _ ⟨Below.new hb _, fact_old (by decide) f0 (fun h => h.below (below_new _ _)), fact_old (by decide) f1 (fun h => h.below (below_new _ _)), fact_old (by decide) f2 (fun h => h.below (below_new _ _)), fact_old (by decide) f3 (fun h => h.below (below_new _ _)), fact_old (by decide) f4 (fun h => h.below (below_new _ _)), fact_old (by decide) f5 (fun h => h.below (below_new _ _)), fact_old (by decide) f6 (fun h => h.below (below_new _ _)), fact_old (by decide) f7 (fun h => h.below (below_new _ _)), fact_old (by decide) f8 (fun h => h.below (below_new _ _)), fact_old (by decide) f9 (fun h => h.below (below_new _ _)), fact_old (by decide) f10 (fun h => h.below (below_new _ _)), fact_old (by decide) f11 (fun h => h.below (below_new _ _)), fact_old (by decide) f12 (fun h => h.below (below_new _ _)), fact_old (by decide) f13 (fun h => h.below (below_new _ _)), fact_old (by decide) f14 (fun h => h.below (below_new _ _)), fact_old (by decide) f15 (fun h => h.below (below_new _ _)), fact_new (Pb.new hb), fact_zero_new (Zb.new hb), fact_absurd (by decide) a16 HN.out, imp_old (by decide) a16, fact_old (by decide) p17 (fun h => h.below (below_new _ _)), fact_zero (by decide) o17 (fun h => h.below (below_new _ _)), fact_two (by decide) (by decide) v17 (fun h => h.below (below_new _ _)), imp_old (by decide) a17, fact_old (by decide) p18 (fun h => h.below (below_new _ _)), fact_zero (by decide) o18 (fun h => h.below (below_new _ _)), fact_two (by decide) (by decide) v18 (fun h => h.below (below_new _ _)), imp_old (by decide) a18, fact_old (by decide) p19 (fun h => h.below (below_new _ _)), fact_zero (by decide) o19 (fun h => h.below (below_new _ _)), fact_two (by decide) (by decide) v19 (fun h => h.below (below_new _ _)), imp_old (by decide) a19, ne_new (by decide) p17, ne_new (by decide) p18, ne_new (by decide) p19, ne_old (by decide) (by decide) n17_18, ne_old (by decide) (by decide) n17_19, ne_old (by decide) (by decide) n18_19⟩)
    · intro d τ w' hd hn hI
      have HI := hideIt2 (HIN.out _ _ _ hI)
      have HD := hideIt2 hd
      have HN := hideIt2 hn
      clear hI hd hn
      intro K hK
      simp only [putAll, Act.put, List.setIfInBounds_toArray, List.set_cons_zero, List.set_cons_succ] at hK ⊢
      go_simp
      obtain ⟨hb, f0, f1, f2, f3, f4, f5, f6, f7, f8, f9, f10, f11, f12, f13, f14, f15, p16, o16, v16, a16, p17, o17, v17, a17, p18, o18, v18, a18, p19, o19, v19, a19, n16_17, n16_18, n16_19, n17_18, n17_19, n18_19⟩ := HI.out
      exact hK.out _ _ (HMK.out _ _ _ ⟨Below.new hb _, fact_old (by decide) f0 (fun h => h.below (below_new _ _)), fact_old (by decide) f1 (fun h => h.below (below_new _ _)), fact_old (by decide) f2 (fun h => h.below (below_new _ _)), fact_old (by decide) f3 (fun h => h.below (below_new _ _)), fact_old (by decide) f4 (fun h => h.below (below_new _ _)), fact_old (by decide) f5 (fun h => h.below (below_new _ _)), fact_old (by decide) f6 (fun h => h.below (below_new _ _)), fact_old (by decide) f7 (fun h => h.below (below_new _ _)), fact_old (by decide) f8 (fun h => h.below (below_new _ _)), fact_old (by decide) f9 (fun h => h.below (below_new _ _)), fact_old (by decide) f10 (fun h => h.below (below_new _ _)), fact_old (by decide) f11 (fun h => h.below (below_new _ _)), fact_old (by decide) f12 (fun h => h.below (below_new _ _)), fact_old (by decide) f13 (fun h => h.below (below_new _ _)), fact_old (by decide) f14 (fun h => h.below (below_new _ _)), fact_old (by decide) f15 (fun h => h.below (below_new _ _)), fact_old (by decide) p16 (fun h => h.below (below_new _ _)), fact_zero (by decide) o16 (fun h => h.below (below_new _ _)), fact_two (by decide) (by decide) v16 (fun h => h.below (below_new _ _)), imp_old (by decide) a16, fact_new (Pb.new hb), fact_zero_new (Zb.new hb), fact_absurd (by decide) a17 HN.out, imp_old (by decide) a17, fact_old (by decide) p18 (fun h => h.below (below_new _ _)), fact_zero (by decide) o18 (fun h => h.below (below_new _ _)), fact_two (by decide) (by decide) v18 (fun h => h.below (below_new _ _)), imp_old (by decide) a18, fact_old (by decide) p19 (fun h => h.below (below_new _ _)), fact_zero (by decide) o19 (fun h => h.below (below_new _ _)), fact_two (by decide) (by decide) v19 (fun h => h.below (below_new _ _)), imp_old (by decide) a19, ne_new' (by decide) p16, ne_old (by decide) (by decide) n16_18, ne_old (by decide) (by decide) n16_19, ne_new (by decide) p18, ne_new (by decide) p19, ne_old (by decide) (by decide) n18_19⟩)
    · intro d τ w' hd hn hI
      have HI := hideIt2 (HIN.out _ _ _ hI)
      have HD := hideIt2 hd
      have HN := hideIt2 hn
      clear hI hd hn
      intro K hK
      simp only [putAll, Act.put, List.setIfInBounds_toArray, List.set_cons_zero, List.set_cons_succ] at hK ⊢
      go_simp
      obtain ⟨hb, f0, f1, f2, f3, f4, f5, f6, f7, f8, f9, f10, f11, f12, f13, f14, f15, p16, o16, v16, a16, p17, o17, v17, a17, p18, o18, v18, a18, p19, o19, v19, a19, n16_17, n16_18, n16_19, n17_18, n17_19, n18_19⟩ := HI.out
      exact hK.out _ _ (HMK.out _ _ _ ⟨Below.new hb _, fact_old (by decide) f0 (fun h => h.below (below_new _ _)), fact_old (by decide) f1 (fun h => h.below (below_new _ _)), fact_old (by decide) f2 (fun h => h.below (below_new _ _)), fact_old (by decide) f3 (fun h => h.below (below_new _ _)), fact_old (by decide) f4 (fun h => h.below (below_new _ _)), fact_old (by decide) f5 (fun h => h.below (below_new _ _)), fact_old (by decide) f6 (fun h => h.below (below_new _ _)), fact_old (by decide) f7 (fun h => h.below (below_new _ _)), fact_old (by decide) f8 (fun h => h.below (below_new _ _)), fact_old (by decide) f9 (fun h => h.below (below_new _ _)), fact_old (by decide) f10 (fun h => h.below (below_new _ _)), fact_old (by decide) f11 (fun h => h.below (below_new _ _)), fact_old (by decide) f12 (fun h => h.below (below_new _ _)), fact_old (by decide) f13 (fun h => h.below (below_new _ _)), fact_old (by decide) f14 (fun h => h.below (below_new _ _)), fact_old (by decide) f15 (fun h => h.below (below_new _ _)), fact_old (by decide) p16 (fun h => h.below (below_new _ _)), fact_zero (by decide) o16 (fun h => h.below (below_new _ _)), fact_two (by decide) (by decide) v16 (fun h => h.below (below_new _ _)), imp_old (by decide) a16, fact_old (by decide) p17 (fun h => h.below (below_new _ _)), fact_zero (by decide) o17 (fun h => h.below (below_new _ _)), fact_two (by decide) (by decide) v17 (fun h => h.below (below_new _ _)), imp_old (by decide) a17, fact_new (Pb.new hb), fact_zero_new (Zb.new hb), fact_absurd (by decide) a18 HN.out, imp_old (by decide) a18, fact_old (by decide) p19 (fun h => h.below (below_new _ _)), fact_zero (by decide) o19 (fun h => h.below (below_new _ _)), fact_two (by decide) (by decide) v19 (fun h => h.below (below_new _ _)), imp_old (by decide) a19, ne_old (by decide) (by decide) n16_17, ne_new' (by decide) p16, ne_old (by decide) (by decide) n16_19, ne_new' (by decide) p17, ne_old (by decide) (by decide) n17_19, ne_new (by decide) p19⟩)
    · intro d τ w' hd hn hI
      have HI := hideIt2 (HIN.out _ _ _ hI)
      have HD := hideIt2 hd
      have HN := hideIt2 hn
      clear hI hd hn
      intro K hK
      simp only [putAll, Act.put, List.setIfInBounds_toArray, List.set_cons_zero, List.set_cons_succ] at hK ⊢
      go_simp
      obtain ⟨hb, f0, f1, f2, f3, f4, f5, f6, f7, f8, f9, f10, f11, f12, f13, f14, f15, p16, o16, v16, a16, p17, o17, v17, a17, p18, o18, v18, a18, p19, o19, v19, a19, n16_17, n16_18, n16_19, n17_18, n17_19, n18_19⟩ := HI.out
      exact hK.out _ _ (HMK.out _ _ _ ⟨Below.new hb _, fact_old (by decide) f0 (fun h => h.below (below_new _ _)), fact_old (by decide) f1 (fun h => h.below (below_new _ _)), fact_old (by decide) f2 (fun h => h.below (below_new _ _)), fact_old (by decide) f3 (fun h => h.below (below_new _ _)), fact_old (by decide) f4 (fun h => h.below (below_new _ _)), fact_old (by decide) f5 (fun h => h.below (below_new _ _)), fact_old (by decide) f6 (fun h => h.below (below_new _ _)), fact_old (by decide) f7 (fun h => h.below (below_new _ _)), fact_old (by decide) f8 (fun h => h.below (below_new _ _)), fact_old (by decide) f9 (fun h => h.below (below_new _ _)), fact_old (by decide) f10 (fun h => h.below (below_new _ _)), fact_old (by decide) f11 (fun h => h.below (below_new _ _)), fact_old (by decide) f12 (fun h => h.below (below_new _ _)), fact_old (by decide) f13 (fun h => h.below (below_new _ _)), fact_old (by decide) f14 (fun h => h.below (below_new _ _)), fact_old (by decide) f15 (fun h => h.below (below_new _ _)), fact_old (by decide) p16 (fun h => h.below (below_new _ _)), fact_zero (by decide) o16 (fun h => h.below (below_new _ _)), fact_two (by decide) (by decide) v16 (fun h => h.below (below_new _ _)), imp_old (by decide) a16, fact_old (by decide) p17 (fun h => h.below (below_new _ _)), fact_zero (by decide) o17 (fun h => h.below (below_new _ _)), fact_two (by decide) (by decide) v17 (fun h => h.below (below_new _ _)), imp_old (by decide) a17, fact_old (by decide) p18 (fun h => h.below (below_new _ _)), fact_zero (by decide) o18 (fun h => h.below (below_new _ _)), fact_two (by decide) (by decide) v18 (fun h => h.below (below_new _ _)), imp_old (by decide) a18, fact_new (Pb.new hb), fact_zero_new (Zb.new hb), fact_absurd (by decide) a19 HN.out, imp_old (by decide) a19, ne_old (by decide) (by decide) n16_17, ne_old (by decide) (by decide) n16_18, ne_new' (by decide) p16, ne_old (by decide) (by decide) n17_18, ne_new' (by decide) p17, ne_new' (by decide) p18⟩)
    · intro d τ w' hd hn hI
      have HI := hideIt2 (HIN.out _ _ _ hI)
      have HD := hideIt2 hd
      have HN := hideIt2 hn
      clear hI hd hn
      have hA16 : d 16 := HD.out ⟨16, .data⟩ (by simp) rfl
      have hA17 : d 17 := HD.out ⟨17, .phase⟩ (by simp) rfl
      have hA18 : d 18 := HD.out ⟨18, .phase⟩ (by simp) rfl
      have hA19 : d 19 := HD.out ⟨19, .phase⟩ (by simp) rfl
      have hC : d 3 := HD.out ⟨3, .data⟩ (by simp) rfl
      obtain ⟨G, eG, hge, hz⟩ := (HI.out.2.2.2.2.2.2.2.2.2.2.2.2.2.2.2.2.2.2.1) hA16 HN.out
      obtain ⟨_, _, ep, ⟨gp, rfl, hrp⟩, ⟨gq, rfl, hrq⟩⟩ := (HI.out.2.2.2.2.1) hC
      have hp : PR w' (.pointer (some ⟨gp, 0, none⟩)) ((rd ax.data.toList) + ((rd bx.data.toList) - (rd ax.data.toList)) * halfQ) := ⟨gp, rfl, hrp⟩
      have hq : PR w' (.pointer (some ⟨gq, 0, none⟩)) ((rd az.data.toList) + ((rd bz.data.toList) - (rd az.data.toList)) * halfQ) := ⟨gq, rfl, hrq⟩
      clear hrp hrq
      have hz4 := hz.all2
      have k0 := hz4.1
      have k1 := hz4.2.1
      have g0 := hz4.2.2.1
      have g1 := hz4.2.2.2
      have hlt := hz.lt
      have HZ := hideIt2 (And.intro hz (And.intro hge (And.intro hp hq)))
      have HA := hideIt2 ((And.intro hA16 (And.intro hA17 (And.intro hA18 hA19))))
      clear hz4 hC hz hge hp hq hA16 hA17 hA18 hA19
      intro K hK
      simp only [putAll, Act.put, List.setIfInBounds_toArray, List.set_cons_zero, List.set_cons_succ, eG, ep] at hK ⊢
      go_simp
      obtain ⟨hb, f0, f1, f2, f3, f4, f5, f6, f7, f8, f9, f10, f11, f12, f13, f14, f15, p16, o16, v16, a16, p17, o17, v17, a17, p18, o18, v18, a18, p19, o19, v19, a19, n16_17, n16_18, n16_19, n17_18, n17_19, n18_19⟩ := HI.out
      obtain ⟨hz, hge, hp, hq⟩ := HZ.out
      obtain ⟨hA16, hA17, hA18, hA19⟩ := HA.out
      exact hK.out undef _ (HMK.out _ _ _ ⟨bel_put2 hb hge _ _, fact_old (by decide) f0 (fun h => h), fact_old (by decide) f1 (fun h => h), fact_old (by decide) f2 (fun h => h), fact_old (by decide) f3 (fun h => h.put hz), fact_old (by decide) f4 (fun h => h), fact_old (by decide) f5 (fun h => h), fact_old (by decide) f6 (fun h => h), fact_old (by decide) f7 (fun h => h.put hz), fact_old (by decide) f8 (fun h => h), fact_old (by decide) f9 (fun h => h), fact_old (by decide) f10 (fun h => h), fact_old (by decide) f11 (fun h => h.put hz), fact_old (by decide) f12 (fun h => h), fact_old (by decide) f13 (fun h => h), fact_old (by decide) f14 (fun h => h), fact_old (by decide) f15 (fun h => h.put hz), fact_old (by decide) p16 (fun h => h.put), fact_zero_did, fact_did (by decide) (by rw [eG]; exact Vb.mk hge hz hp hq), (fun _ => Or.inr hA16), fact_old (by decide) p17 (fun h => h.put), fact_zero (by decide) o17 (fun h => h.put (by rw [← eG]; exact n16_17 hA16 hA17)), fact_two (by decide) (by decide) v17 (fun h => h.put hz (by rw [← eG]; exact n16_17 hA16 hA17)), imp_old (by decide) a17, fact_old (by decide) p18 (fun h => h.put), fact_zero (by decide) o18 (fun h => h.put (by rw [← eG]; exact n16_18 hA16 hA18)), fact_two (by decide) (by decide) v18 (fun h => h.put hz (by rw [← eG]; exact n16_18 hA16 hA18)), imp_old (by decide) a18, fact_old (by decide) p19 (fun h => h.put), fact_zero (by decide) o19 (fun h => h.put (by rw [← eG]; exact n16_19 hA16 hA19)), fact_two (by decide) (by decide) v19 (fun h => h.put hz (by rw [← eG]; exact n16_19 hA16 hA19)), imp_old (by decide) a19, ne_old (by decide) (by decide) n16_17, ne_old (by decide) (by decide) n16_18, ne_old (by decide) (by decide) n16_19, ne_old (by decide) (by decide) n17_18, ne_old (by decide) (by decide) n17_19, ne_old (by decide) (by decide) n18_19⟩)
    · intro d τ w' hd hn hI
      have HI := hideIt2 (HIN.out _ _ _ hI)
      have HD := hideIt2 hd
      have HN := hideIt2 hn
      clear hI hd hn
      have hA16 : d 16 := HD.out ⟨16, .phase⟩ (by simp) rfl
      have hA17 : d 17 := HD.out ⟨17, .data⟩ (by simp) rfl
      have hA18 : d 18 := HD.out ⟨18, .phase⟩ (by simp) rfl
      have hA19 : d 19 := HD.out ⟨19, .phase⟩ (by simp) rfl
      have hC : d 7 := HD.out ⟨7, .data⟩ (by simp) rfl
      obtain ⟨G, eG, hge, hz⟩ := (HI.out.2.2.2.2.2.2.2.2.2.2.2.2.2.2.2.2.2.2.2.2.2.2.1) hA17 HN.out
      obtain ⟨_, _, ep, ⟨gp, rfl, hrp⟩, ⟨gq, rfl, hrq⟩⟩ := (HI.out.2.2.2.2.2.2.2.2.1) hC
      have hp : PR w' (.pointer (some ⟨gp, 0, none⟩)) ((rd bx.data.toList) + ((rd cx.data.toList) - (rd bx.data.toList)) * halfQ) := ⟨gp, rfl, hrp⟩
      have hq : PR w' (.pointer (some ⟨gq, 0, none⟩)) ((rd bz.data.toList) + ((rd cz.data.toList) - (rd bz.data.toList)) * halfQ) := ⟨gq, rfl, hrq⟩
      clear hrp hrq
      have hz4 := hz.all2
      have k0 := hz4.1
      have k1 := hz4.2.1
      have g0 := hz4.2.2.1
      have g1 := hz4.2.2.2
      have hlt := hz.lt
      have HZ := hideIt2 (And.intro hz (And.intro hge (And.intro hp hq)))
      have HA := hideIt2 ((And.intro hA16 (And.intro hA17 (And.intro hA18 hA19))))
      clear hz4 hC hz hge hp hq hA16 hA17 hA18 hA19
      intro K hK
      simp only [putAll, Act.put, List.setIfInBounds_toArray, List.set_cons_zero, List.set_cons_succ, eG, ep] at hK ⊢
      go_simp
      obtain ⟨hb, f0, f1, f2, f3, f4, f5, f6, f7, f8, f9, f10, f11, f12, f13, f14, f15, p16, o16, v16, a16, p17, o17, v17, a17, p18, o18, v18, a18, p19, o19, v19, a19, n16_17, n16_18, n16_19, n17_18, n17_19, n18_19⟩ := HI.out
      obtain ⟨hz, hge, hp, hq⟩ := HZ.out
      obtain ⟨hA16, hA17, hA18, hA19⟩ := HA.out
      exact hK.out undef _ (HMK.out _ _ _ ⟨bel_put2 hb hge _ _, fact_old (by decide) f0 (fun h => h), fact_old (by decide) f1 (fun h => h), fact_old (by decide) f2 (fun h => h), fact_old (by decide) f3 (fun h => h.put hz), fact_old (by decide) f4 (fun h => h), fact_old (by decide) f5 (fun h => h), fact_old (by decide) f6 (fun h => h), fact_old (by decide) f7 (fun h => h.put hz), fact_old (by decide) f8 (fun h => h), fact_old (by decide) f9 (fun h => h), fact_old (by decide) f10 (fun h => h), fact_old (by decide) f11 (fun h => h.put hz), fact_old (by decide) f12 (fun h => h), fact_old (by decide) f13 (fun h => h), fact_old (by decide) f14 (fun h => h), fact_old (by decide) f15 (fun h => h.put hz), fact_old (by decide) p16 (fun h => h.put), fact_zero (by decide) o16 (fun h => h.put (by rw [← eG]; exact (fun q => n16_17 hA16 hA17 q.symm))), fact_two (by decide) (by decide) v16 (fun h => h.put hz (by rw [← eG]; exact (fun q => n16_17 hA16 hA17 q.symm))), imp_old (by decide) a16, fact_old (by decide) p17 (fun h => h.put), fact_zero_did, fact_did (by decide) (by rw [eG]; exact Vb.mk hge hz hp hq), (fun _ => Or.inr hA17), fact_old (by decide) p18 (fun h => h.put), fact_zero (by decide) o18 (fun h => h.put (by rw [← eG]; exact n17_18 hA17 hA18)), fact_two (by decide) (by decide) v18 (fun h => h.put hz (by rw [← eG]; exact n17_18 hA17 hA18)), imp_old (by decide) a18, fact_old (by decide) p19 (fun h => h.put), fact_zero (by decide) o19 (fun h => h.put (by rw [← eG]; exact n17_19 hA17 hA19)), fact_two (by decide) (by decide) v19 (fun h => h.put hz (by rw [← eG]; exact n17_19 hA17 hA19)), imp_old (by decide) a19, ne_old (by decide) (by decide) n16_17, ne_old (by decide) (by decide) n16_18, ne_old (by decide) (by decide) n16_19, ne_old (by decide) (by decide) n17_18, ne_old (by decide) (by decide) n17_19, ne_old (by decide) (by decide) n18_19⟩)
    · intro d τ w' hd hn hI
      have HI := hideIt2 (HIN.out _ _ _ hI)
      have HD := hideIt2 hd
      have HN := hideIt2 hn
      clear hI hd hn
      have hA16 : d 16 := HD.out ⟨16, .phase⟩ (by simp) rfl
      have hA17 : d 17 := HD.out ⟨17, .phase⟩ (by simp) rfl
      have hA18 : d 18 := HD.out ⟨18, .data⟩ (by simp) rfl
      have hA19 : d 19 := HD.out ⟨19, .phase⟩ (by simp) rfl
      have hC : d 11 := HD.out ⟨11, .data⟩ (by simp) rfl
      obtain ⟨G, eG, hge, hz⟩ := (HI.out.2.2.2.2.2.2.2.2.2.2.2.2.2.2.2.2.2.2.2.2.2.2.2.2.2.2.1) hA18 HN.out
      obtain ⟨_, _, ep, ⟨gp, rfl, hrp⟩, ⟨gq, rfl, hrq⟩⟩ := (HI.out.2.2.2.2.2.2.2.2.2.2.2.2.1) hC
      have hp : PR w' (.pointer (some ⟨gp, 0, none⟩)) ((rd cx.data.toList) + ((rd dx.data.toList) - (rd cx.data.toList)) * halfQ) := ⟨gp, rfl, hrp⟩
      have hq : PR w' (.pointer (some ⟨gq, 0, none⟩)) ((rd cz.data.toList) + ((rd dz.data.toList) - (rd cz.data.toList)) * halfQ) := ⟨gq, rfl, hrq⟩
      clear hrp hrq
      have hz4 := hz.all2
      have k0 := hz4.1
      have k1 := hz4.2.1
      have g0 := hz4.2.2.1
      have g1 := hz4.2.2.2
      have hlt := hz.lt
      have HZ := hideIt2 (And.intro hz (And.intro hge (And.intro hp hq)))
      have HA := hideIt2 ((And.intro hA16 (And.intro hA17 (And.intro hA18 hA19))))
      clear hz4 hC hz hge hp hq hA16 hA17 hA18 hA19
      intro K hK
      simp only [putAll, Act.put, List.setIfInBounds_toArray, List.set_cons_zero, List.set_cons_succ, eG, ep] at hK ⊢
      go_simp
      obtain ⟨hb, f0, f1, f2, f3, f4, f5, f6, f7, f8, f9, f10, f11, f12, f13, f14, f15, p16, o16, v16, a16, p17, o17, v17, a17, p18, o18, v18, a18, p19, o19, v19, a19, n16_17, n16_18, n16_19, n17_18, n17_19, n18_19⟩ := HI.out
      obtain ⟨hz, hge, hp, hq⟩ := HZ.out
      obtain ⟨hA16, hA17, hA18, hA19⟩ := HA.out
      exact hK.out undef _ (HMK.out _ _ _ ⟨bel_put2 hb hge _ _, fact_old (by decide) f0 (fun h => h), fact_old (by decide) f1 (fun h => h), fact_old (by decide) f2 (fun h => h), fact_old (by decide) f3 (fun h => h.put hz), fact_old (by decide) f4 (fun h => h), fact_old (by decide) f5 (fun h => h), fact_old (by decide) f6 (fun h => h), fact_old (by decide) f7 (fun h => h.put hz), fact_old (by decide) f8 (fun h => h), fact_old (by decide) f9 (fun h => h), fact_old (by decide) f10 (fun h => h), fact_old (by decide) f11 (fun h => h.put hz), fact_old (by decide) f12 (fun h => h), fact_old (by decide) f13 (fun h => h), fact_old (by decide) f14 (fun h => h), fact_old (by decide) f15 (fun h => h.put hz), fact_old (by decide) p16 (fun h => h.put), fact_zero (by decide) o16 (fun h => h.put (by rw [← eG]; exact (fun q => n16_18 hA16 hA18 q.symm))), fact_two (by decide) (by decide) v16 (fun h => h.put hz (by rw [← eG]; exact (fun q => n16_18 hA16 hA18 q.symm))), imp_old (by decide) a16, fact_old (by decide) p17 (fun h => h.put), fact_zero (by decide) o17 (fun h => h.put (by rw [← eG]; exact (fun q => n17_18 hA17 hA18 q.symm))), fact_two (by decide) (by decide) v17 (fun h => h.put hz (by rw [← eG]; exact (fun q => n17_18 hA17 hA18 q.symm))), imp_old (by decide) a17, fact_old (by decide) p18 (fun h => h.put), fact_zero_did, fact_did (by decide) (by rw [eG]; exact Vb.mk hge hz hp hq), (fun _ => Or.inr hA18), fact_old (by decide) p19 (fun h => h.put), fact_zero (by decide) o19 (fun h => h.put (by rw [← eG]; exact n18_19 hA18 hA19)), fact_two (by decide) (by decide) v19 (fun h => h.put hz (by rw [← eG]; exact n18_19 hA18 hA19)), imp_old (by decide) a19, ne_old (by decide) (by decide) n16_17, ne_old (by decide) (by decide) n16_18, ne_old (by decide) (by decide) n16_19, ne_old (by decide) (by decide) n17_18, ne_old (by decide) (by decide) n17_19, ne_old (by decide) (by decide) n18_19⟩)
    · intro d τ w' hd hn hI
      have HI := hideIt2 (HIN.out _ _ _ hI)
      have HD := hideIt2 hd
      have HN := hideIt2 hn
      clear hI hd hn
      have hA16 : d 16 := HD.out ⟨16, .phase⟩ (by simp) rfl
      have hA17 : d 17 := HD.out ⟨17, .phase⟩ (by simp) rfl
      have hA18 : d 18 := HD.out ⟨18, .phase⟩ (by simp) rfl
      have hA19 : d 19 := HD.out ⟨19, .data⟩ (by simp) rfl
      have hC : d 15 := HD.out ⟨15, .data⟩ (by simp) rfl
      obtain ⟨G, eG, hge, hz⟩ := (HI.out.2.2.2.2.2.2.2.2.2.2.2.2.2.2.2.2.2.2.2.2.2.2.2.2.2.2.2.2.2.2.1) hA19 HN.out
      obtain ⟨_, _, ep, ⟨gp, rfl, hrp⟩, ⟨gq, rfl, hrq⟩⟩ := (HI.out.2.2.2.2.2.2.2.2.2.2.2.2.2.2.2.2.1) hC
      have hp : PR w' (.pointer (some ⟨gp, 0, none⟩)) ((rd dx.data.toList) + ((rd ax.data.toList) - (rd dx.data.toList)) * halfQ) := ⟨gp, rfl, hrp⟩
      have hq : PR w' (.pointer (some ⟨gq, 0, none⟩)) ((rd dz.data.toList) + ((rd az.data.toList) - (rd dz.data.toList)) * halfQ) := ⟨gq, rfl, hrq⟩
      clear hrp hrq
      have hz4 := hz.all2
      have k0 := hz4.1
      have k1 := hz4.2.1
      have g0 := hz4.2.2.1
      have g1 := hz4.2.2.2
      have hlt := hz.lt
      have HZ := hideIt2 (And.intro hz (And.intro hge (And.intro hp hq)))
      have HA := hideIt2 ((And.intro hA16 (And.intro hA17 (And.intro hA18 hA19))))
      clear hz4 hC hz hge hp hq hA16 hA17 hA18 hA19
      intro K hK
      simp only [putAll, Act.put, List.setIfInBounds_toArray, List.set_cons_zero, List.set_cons_succ, eG, ep] at hK ⊢
      go_simp
      obtain ⟨hb, f0, f1, f2, f3, f4, f5, f6, f7, f8, f9, f10, f11, f12, f13, f14, f15, p16, o16, v16, a16, p17, o17, v17, a17, p18, o18, v18, a18, p19, o19, v19, a19, n16_17, n16_18, n16_19, n17_18, n17_19, n18_19⟩ := HI.out
      obtain ⟨hz, hge, hp, hq⟩ := HZ.out
      obtain ⟨hA16, hA17, hA18, hA19⟩ := HA.out
      exact hK.out undef _ (HMK.out _ _ _ ⟨bel_put2 hb hge _ _, fact_old (by decide) f0 (fun h => h), fact_old (by decide) f1 (fun h => h), fact_old (by decide) f2 (fun h => h), fact_old (by decide) f3 (fun h => h.put hz), fact_old (by decide) f4 (fun h => h), fact_old (by decide) f5 (fun h => h), fact_old (by decide) f6 (fun h => h), fact_old (by decide) f7 (fun h => h.put hz), fact_old (by decide) f8 (fun h => h), fact_old (by decide) f9 (fun h => h), fact_old (by decide) f10 (fun h => h), fact_old (by decide) f11 (fun h => h.put hz), fact_old (by decide) f12 (fun h => h), fact_old (by decide) f13 (fun h => h), fact_old (by decide) f14 (fun h => h), fact_old (by decide) f15 (fun h => h.put hz), fact_old (by decide) p16 (fun h => h.put), fact_zero (by decide) o16 (fun h => h.put (by rw [← eG]; exact (fun q => n16_19 hA16 hA19 q.symm))), fact_two (by decide) (by decide) v16 (fun h => h.put hz (by rw [← eG]; exact (fun q => n16_19 hA16 hA19 q.symm))), imp_old (by decide) a16, fact_old (by decide) p17 (fun h => h.put), fact_zero (by decide) o17 (fun h => h.put (by rw [← eG]; exact (fun q => n17_19 hA17 hA19 q.symm))), fact_two (by decide) (by decide) v17 (fun h => h.put hz (by rw [← eG]; exact (fun q => n17_19 hA17 hA19 q.symm))), imp_old (by decide) a17, fact_old (by decide) p18 (fun h => h.put), fact_zero (by decide) o18 (fun h => h.put (by rw [← eG]; exact (fun q => n18_19 hA18 hA19 q.symm))), fact_two (by decide) (by decide) v18 (fun h => h.put hz (by rw [← eG]; exact (fun q => n18_19 hA18 hA19 q.symm))), imp_old (by decide) a18, fact_old (by decide) p19 (fun h => h.put), fact_zero_did, fact_did (by decide) (by rw [eG]; exact Vb.mk hge hz hp hq), (fun _ => Or.inr hA19), ne_old (by decide) (by decide) n16_17, ne_old (by decide) (by decide) n16_18, ne_old (by decide) (by decide) n16_19, ne_old (by decide) (by decide) n17_18, ne_old (by decide) (by decide) n17_19, ne_old (by decide) (by decide) n18_19⟩)
  · intro d τ wc hall hI
    have HI := hideIt2 (HIN.out _ _ _ hI)
    clear hI
    have hb := HI.out.1
    refine Vb.use ((HI.out.2.2.2.2.2.2.2.2.2.2.2.2.2.2.2.2.2.2.2.1) (hall 20 (by decide))) ?_
    intro G0 p0' q0' eG0 hg0 hk0 hp0 hq0
    refine Vb.use ((HI.out.2.2.2.2.2.2.2.2.2.2.2.2.2.2.2.2.2.2.2.2.2.2.2.1) (hall 21 (by decide))) ?_
    intro G1 p1' q1' eG1 hg1 hk1 hp1 hq1
    refine Vb.use ((HI.out.2.2.2.2.2.2.2.2.2.2.2.2.2.2.2.2.2.2.2.2.2.2.2.2.2.2.2.1) (hall 22 (by decide))) ?_
    intro G2 p2' q2' eG2 hg2 hk2 hp2 hq2
    refine Vb.use ((HI.out.2.2.2.2.2.2.2.2.2.2.2.2.2.2.2.2.2.2.2.2.2.2.2.2.2.2.2.2.2.2.2.1) (hall 23 (by decide))) ?_
    intro G3 p3' q3' eG3 hg3 hk3 hp3 hq3
    have hn16_17 : ¬ G0 = G1 := fun q => (HI.out.2.2.2.2.2.2.2.2.2.2.2.2.2.2.2.2.2.2.2.2.2.2.2.2.2.2.2.2.2.2.2.2.2.1) (hall 16 (by decide)) (hall 17 (by decide)) (by rw [eG0, eG1, q])
    have hn16_18 : ¬ G0 = G2 := fun q => (HI.out.2.2.2.2.2.2.2.2.2.2.2.2.2.2.2.2.2.2.2.2.2.2.2.2.2.2.2.2.2.2.2.2.2.2.1) (hall 16 (by decide)) (hall 18 (by decide)) (by rw [eG0, eG2, q])
    have hn16_19 : ¬ G0 = G3 := fun q => (HI.out.2.2.2.2.2.2.2.2.2.2.2.2.2.2.2.2.2.2.2.2.2.2.2.2.2.2.2.2.2.2.2.2.2.2.2.1) (hall 16 (by decide)) (hall 19 (by decide)) (by rw [eG0, eG3, q])
    have hn17_18 : ¬ G1 = G2 := fun q => (HI.out.2.2.2.2.2.2.2.2.2.2.2.2.2.2.2.2.2.2.2.2.2.2.2.2.2.2.2.2.2.2.2.2.2.2.2.2.1) (hall 17 (by decide)) (hall 18 (by decide)) (by rw [eG1, eG2, q])
    have hn17_19 : ¬ G1 = G3 := fun q => (HI.out.2.2.2.2.2.2.2.2.2.2.2.2.2.2.2.2.2.2.2.2.2.2.2.2.2.2.2.2.2.2.2.2.2.2.2.2.2.1) (hall 17 (by decide)) (hall 19 (by decide)) (by rw [eG1, eG3, q])
    have hn18_19 : ¬ G2 = G3 := fun q => (HI.out.2.2.2.2.2.2.2.2.2.2.2.2.2.2.2.2.2.2.2.2.2.2.2.2.2.2.2.2.2.2.2.2.2.2.2.2.2.2) (hall 18 (by decide)) (hall 19 (by decide)) (by rw [eG2, eG3, q])
    simp only [putAll, Act.put, List.setIfInBounds_toArray, List.set_cons_zero, List.set_cons_succ, eG0, eG1, eG2, eG3]
    clear HI eG0 eG1 eG2 eG3 hall
    generalize τ 0 = t0
    generalize τ 1 = t1
    generalize τ 2 = t2
    generalize τ 3 = t3
    generalize τ 4 = t4
    generalize τ 5 = t5
    generalize τ 6 = t6
    generalize τ 7 = t7
    generalize τ 8 = t8
    generalize τ 9 = t9
    generalize τ 10 = t10
    generalize τ 11 = t11
    generalize τ 12 = t12
    generalize τ 13 = t13
    generalize τ 14 = t14
    generalize τ 15 = t15
    generalize τ 16 = t16
    generalize τ 17 = t17
    generalize τ 18 = t18
    generalize τ 19 = t19
    generalize τ 20 = t20
    generalize τ 21 = t21
    generalize τ 22 = t22
    generalize τ 23 = t23
    have HBC := hideIt2 (bel_bel HB0.out hb)
    have HTC := hideIt2 (HT.out.below hb)
    have HMC := hideIt2 (HM.out.below hb)
    have HSC : Hid (∀ w', Below wc.heap.size wc w' → w'.cell? ⟨w.heap.size, 0, none⟩ = some (.string ax) ∧ w'.cell? ⟨w.heap.size, 1, none⟩ = some (.string az) ∧ w'.cell? ⟨w.heap.size + 1, 0, none⟩ = some (.string bx) ∧ w'.cell? ⟨w.heap.size + 1, 1, none⟩ = some (.string bz) ∧ w'.cell? ⟨w.heap.size + 1 + 1, 0, none⟩ = some (.string cx) ∧ w'.cell? ⟨w.heap.size + 1 + 1, 1, none⟩ = some (.string cz) ∧ w'.cell? ⟨w.heap.size + 1 + 1 + 1, 0, none⟩ = some (.string dx) ∧ w'.cell? ⟨w.heap.size + 1 + 1 + 1, 1, none⟩ = some (.string dz) ∧ w'.cell? ⟨G0, 0, none⟩ = some (p0') ∧ w'.cell? ⟨G0, 1, none⟩ = some (q0') ∧ w'.cell? ⟨G1, 0, none⟩ = some (p1') ∧ w'.cell? ⟨G1, 1, none⟩ = some (q1') ∧ w'.cell? ⟨G2, 0, none⟩ = some (p2') ∧ w'.cell? ⟨G2, 1, none⟩ = some (q2') ∧ w'.cell? ⟨G3, 0, none⟩ = some (p3') ∧ w'.cell? ⟨G3, 1, none⟩ = some (q3')) := fun w' hb2 => by
      have h1 := HS.out w' (bel_bel hb hb2)
      exact ⟨h1.1, h1.2.1, h1.2.2.1, h1.2.2.2.1, h1.2.2.2.2.1, h1.2.2.2.2.2.1, h1.2.2.2.2.2.2.1, h1.2.2.2.2.2.2.2, (hk0.below hb2 hk0.lt).cell 0, (hk0.below hb2 hk0.lt).cell 1, (hk1.below hb2 hk1.lt).cell 0, (hk1.below hb2 hk1.lt).cell 1, (hk2.below hb2 hk2.lt).cell 0, (hk2.below hb2 hk2.lt).cell 1, (hk3.below hb2 hk3.lt).cell 0, (hk3.below hb2 hk3.lt).cell 1⟩
    have HP := hideIt2 (And.intro hp0 (And.intro hq0 (And.intro hp1 (And.intro hq1 (And.intro hp2 (And.intro hq2 (And.intro hp3 hq3)))))))
    clear hb hg0 hk0 hp0 hq0 hg1 hk1 hp1 hq1 hg2 hk2 hp2 hq2 hg3 hk3 hp3 hq3 HS HT HM hn16_17 hn16_18 hn16_19 hn17_18 hn17_19 hn18_19
    have HS := HSC
    have HT := HTC
    have HM := HMC
    clear HSC HTC HMC
    obtain ⟨z0, z1, z2, z3, z4, z5, z6, z7, z8, z9, z10, z11, z12, z13, z14, z15⟩ := HS.out wc (Below.refl _ _)
    go_wp2_with fail
    go_region_held3 (fun w' => w'.cell? ⟨w.heap.size, 0, none⟩ = some (.string ax) ∧ w'.cell? ⟨w.heap.size, 1, none⟩ = some (.string az) ∧ w'.cell? ⟨w.heap.size + 1, 0, none⟩ = some (.string bx) ∧ w'.cell? ⟨w.heap.size + 1, 1, none⟩ = some (.string bz) ∧ w'.cell? ⟨w.heap.size + 1 + 1, 0, none⟩ = some (.string cx) ∧ w'.cell? ⟨w.heap.size + 1 + 1, 1, none⟩ = some (.string cz) ∧ w'.cell? ⟨w.heap.size + 1 + 1 + 1, 0, none⟩ = some (.string dx) ∧ w'.cell? ⟨w.heap.size + 1 + 1 + 1, 1, none⟩ = some (.string dz) ∧ w'.cell? ⟨G0, 0, none⟩ = some (p0') ∧ w'.cell? ⟨G0, 1, none⟩ = some (q0') ∧ w'.cell? ⟨G1, 0, none⟩ = some (p1') ∧ w'.cell? ⟨G1, 1, none⟩ = some (q1') ∧ w'.cell? ⟨G2, 0, none⟩ = some (p2') ∧ w'.cell? ⟨G2, 1, none⟩ = some (q2') ∧ w'.cell? ⟨G3, 0, none⟩ = some (p3') ∧ w'.cell? ⟨G3, 1, none⟩ = some (q3')) (first | (refine HS.out _ ?_; (repeat' first | with_reducible exact hbl5 | with_reducible exact hbl4 | with_reducible exact hbl3 | with_reducible exact hbl2 | with_reducible exact hbl1 | with_reducible exact Below.refl _ _ | with_reducible refine Below.new ?_ _ | with_reducible refine Below.drew ?_); done) | go_keep)
      (first
        | (have hq5 := hbl4; go_at_call 20; refine (refAdd_calls (rrow2 (by repeat' first | with_reducible exact Blk.new _ _ _ | ((with_reducible refine blk_at ?_); (first | with_reducible rfl | (simp; done))) | with_reducible refine blk_old _ ?_ | with_reducible refine blk_drew ?_ | with_reducible refine blk_bel hb4 ?_ | with_reducible refine blk_bel hb3 ?_ | with_reducible refine blk_bel hb2 ?_ | with_reducible refine blk_bel hb1 ?_) ⟨_, rfl, (by repeat' first | with_reducible exact hv2 | with_reducible refine rv_new _ ?_ | with_reducible refine rv_drew ?_ | with_reducible refine rv_bel hb4 ?_ | with_reducible refine rv_bel hb3 ?_)⟩ ⟨_, rfl, (by repeat' first | with_reducible exact hv4 | with_reducible refine rv_new _ ?_ | with_reducible refine rv_drew ?_)⟩) (all2 (((Gbx.out.sub Gax.out).mul (Gcz.out.sub Gaz.out)).sub ((Gbz.out.sub Gaz.out).mul (Gcx.out.sub Gax.out))) (((Gcx.out.sub Gax.out).mul (Gdz.out.sub Gaz.out)).sub ((Gcz.out.sub Gaz.out).mul (Gdx.out.sub Gax.out)))) (by simp) (by simp only [List.length_cons, List.length_nil]; omega)).mono ?_; rintro e w5 ⟨hb5, _, rfl, g5, rfl, hv5⟩; rw [rsum2] at hv5; have hbl5 : Below wc.heap.size wc w5 := bel_bel (by repeat' first | with_reducible exact hbl4 | with_reducible exact hbl3 | with_reducible exact hbl2 | with_reducible exact hbl1 | with_reducible exact Below.refl _ _ | with_reducible refine Below.new ?_ _ | with_reducible refine Below.drew ?_) hb5; have hs5 := HS.out w5 hbl5)
        | (have hq4 := hbl3; go_at_call 17; refine (refOfT_calls (HM.out.below (by repeat' first | with_reducible exact hbl3 | with_reducible exact hbl2 | with_reducible exact hbl1 | with_reducible exact Below.refl _ _ | with_reducible refine Below.new ?_ _ | with_reducible refine Below.drew ?_)) (((Gcx.out.sub Gax.out).mul (Gdz.out.sub Gaz.out)).sub ((Gcz.out.sub Gaz.out).mul (Gdx.out.sub Gax.out))) (by decide)).mono ?_; rintro e w4 ⟨hb4, _, rfl, g4, rfl, hv4⟩; have hbl4 : Below wc.heap.size wc w4 := bel_bel (by repeat' first | with_reducible exact hbl3 | with_reducible exact hbl2 | with_reducible exact hbl1 | with_reducible exact Below.refl _ _ | with_reducible refine Below.new ?_ _ | with_reducible refine Below.drew ?_) hb4; have hs4 := HS.out w4 hbl4)
        | (have hq3 := hbl2; go_at_call 21; refine (area2_walk sax saz scx scz sdx sdz (HT.out.below (by repeat' first | with_reducible exact hbl2 | with_reducible exact hbl1 | with_reducible exact Below.refl _ _ | with_reducible refine Below.new ?_ _ | with_reducible refine Below.drew ?_))).mono ?_; rintro e w3 ⟨hb3, s3, rfl, ht3⟩; obtain rfl := bytes_of ht3; have hbl3 : Below wc.heap.size wc w3 := bel_bel (by repeat' first | with_reducible exact hbl2 | with_reducible exact hbl1 | with_reducible exact Below.refl _ _ | with_reducible refine Below.new ?_ _ | with_reducible refine Below.drew ?_) hb3; have hs3 := HS.out w3 hbl3)
        | (have hq2 := hbl1; go_at_call 17; refine (refOfT_calls (HM.out.below (by repeat' first | with_reducible exact hbl1 | with_reducible exact Below.refl _ _ | with_reducible refine Below.new ?_ _ | with_reducible refine Below.drew ?_)) (((Gbx.out.sub Gax.out).mul (Gcz.out.sub Gaz.out)).sub ((Gbz.out.sub Gaz.out).mul (Gcx.out.sub Gax.out))) (by decide)).mono ?_; rintro e w2 ⟨hb2, _, rfl, g2, rfl, hv2⟩; have hbl2 : Below wc.heap.size wc w2 := bel_bel (by repeat' first | with_reducible exact hbl1 | with_reducible exact Below.refl _ _ | with_reducible refine Below.new ?_ _ | with_reducible refine Below.drew ?_) hb2; have hs2 := HS.out w2 hbl2)
        | (go_at_call 21; refine (area2_walk sax saz sbx sbz scx scz (HT.out.below (by repeat' first | with_reducible exact Below.refl _ _ | with_reducible refine Below.new ?_ _ | with_reducible refine Below.drew ?_))).mono ?_; rintro e w1 ⟨hb1, s1, rfl, ht1⟩; obtain rfl := bytes_of ht1; have hbl1 : Below wc.heap.size wc w1 := bel_bel (by repeat' first | with_reducible exact Below.refl _ _ | with_reducible refine Below.new ?_ _ | with_reducible refine Below.drew ?_) hb1; have hs1 := HS.out w1 hbl1)
        )
    all_goals
      go_wp2_with fail
      go_region_held3 (fun w' => w'.cell? ⟨w.heap.size, 0, none⟩ = some (.string ax) ∧ w'.cell? ⟨w.heap.size, 1, none⟩ = some (.string az) ∧ w'.cell? ⟨w.heap.size + 1, 0, none⟩ = some (.string bx) ∧ w'.cell? ⟨w.heap.size + 1, 1, none⟩ = some (.string bz) ∧ w'.cell? ⟨w.heap.size + 1 + 1, 0, none⟩ = some (.string cx) ∧ w'.cell? ⟨w.heap.size + 1 + 1, 1, none⟩ = some (.string cz) ∧ w'.cell? ⟨w.heap.size + 1 + 1 + 1, 0, none⟩ = some (.string dx) ∧ w'.cell? ⟨w.heap.size + 1 + 1 + 1, 1, none⟩ = some (.string dz) ∧ w'.cell? ⟨G0, 0, none⟩ = some (p0') ∧ w'.cell? ⟨G0, 1, none⟩ = some (q0') ∧ w'.cell? ⟨G1, 0, none⟩ = some (p1') ∧ w'.cell? ⟨G1, 1, none⟩ = some (q1') ∧ w'.cell? ⟨G2, 0, none⟩ = some (p2') ∧ w'.cell? ⟨G2, 1, none⟩ = some (q2') ∧ w'.cell? ⟨G3, 0, none⟩ = some (p3') ∧ w'.cell? ⟨G3, 1, none⟩ = some (q3')) (first | (refine HS.out _ ?_; (repeat' first | with_reducible exact hbl16 | with_reducible exact hbl15 | with_reducible exact hbl14 | with_reducible exact hbl13 | with_reducible exact hbl12 | with_reducible exact hbl11 | with_reducible exact hbl10 | with_reducible exact hbl9 | with_reducible exact hbl8 | with_reducible exact hbl7 | with_reducible exact hbl6 | with_reducible exact hbl5 | with_reducible exact hbl4 | with_reducible exact hbl3 | with_reducible exact hbl2 | with_reducible exact hbl1 | with_reducible exact Below.refl _ _ | with_reducible refine Below.new ?_ _ | with_reducible refine Below.drew ?_); done) | go_keep)
        (first
          | (have hq16 := hbl15; go_at_call 20; refine (refAdd_calls (rrow2 (by repeat' first | with_reducible exact Blk.new _ _ _ | ((with_reducible refine blk_at ?_); (first | with_reducible rfl | (simp; done))) | with_reducible refine blk_old _ ?_ | with_reducible refine blk_drew ?_ | with_reducible refine blk_bel hb15 ?_ | with_reducible refine blk_bel hb14 ?_ | with_reducible refine blk_bel hb13 ?_ | with_reducible refine blk_bel hb12 ?_ | with_reducible refine blk_bel hb11 ?_ | with_reducible refine blk_bel hb10 ?_ | with_reducible refine blk_bel hb9 ?_ | with_reducible refine blk_bel hb8 ?_ | with_reducible refine blk_bel hb7 ?_ | with_reducible refine blk_bel hb6 ?_ | with_reducible refine blk_bel hb5 ?_ | with_reducible refine blk_bel hb4 ?_ | with_reducible refine blk_bel hb3 ?_ | with_reducible refine blk_bel hb2 ?_ | with_reducible refine blk_bel hb1 ?_) ⟨_, rfl, (by repeat' first | with_reducible exact hv10 | with_reducible refine rv_new _ ?_ | with_reducible refine rv_drew ?_ | with_reducible refine rv_bel hb15 ?_ | with_reducible refine rv_bel hb14 ?_ | with_reducible refine rv_bel hb13 ?_ | with_reducible refine rv_bel hb12 ?_ | with_reducible refine rv_bel hb11 ?_)⟩ ⟨_, rfl, (by repeat' first | with_reducible exact hv15 | with_reducible refine rv_new _ ?_ | with_reducible refine rv_drew ?_)⟩) (all2 ((((Gbx.out.add ((Gcx.out.sub Gbx.out).mul qs_halfQ)).sub (Gax.out.add ((Gbx.out.sub Gax.out).mul qs_halfQ))).mul ((Gcz.out.add ((Gdz.out.sub Gcz.out).mul qs_halfQ)).sub (Gaz.out.add ((Gbz.out.sub Gaz.out).mul qs_halfQ)))).sub (((Gbz.out.add ((Gcz.out.sub Gbz.out).mul qs_halfQ)).sub (Gaz.out.add ((Gbz.out.sub Gaz.out).mul qs_halfQ))).mul ((Gcx.out.add ((Gdx.out.sub Gcx.out).mul qs_halfQ)).sub (Gax.out.add ((Gbx.out.sub Gax.out).mul qs_halfQ))))) ((((Gcx.out.add ((Gdx.out.sub Gcx.out).mul qs_halfQ)).sub (Gax.out.add ((Gbx.out.sub Gax.out).mul qs_halfQ))).mul ((Gdz.out.add ((Gaz.out.sub Gdz.out).mul qs_halfQ)).sub (Gaz.out.add ((Gbz.out.sub Gaz.out).mul qs_halfQ)))).sub (((Gcz.out.add ((Gdz.out.sub Gcz.out).mul qs_halfQ)).sub (Gaz.out.add ((Gbz.out.sub Gaz.out).mul qs_halfQ))).mul ((Gdx.out.add ((Gax.out.sub Gdx.out).mul qs_halfQ)).sub (Gax.out.add ((Gbx.out.sub Gax.out).mul qs_halfQ)))))) (by simp) (by simp only [List.length_cons, List.length_nil]; omega)).mono ?_; rintro e w16 ⟨hb16, _, rfl, g16, rfl, hv16⟩; rw [rsum2] at hv16; have hbl16 : Below wc.heap.size wc w16 := bel_bel (by repeat' first | with_reducible exact hbl15 | with_reducible exact hbl14 | with_reducible exact hbl13 | with_reducible exact hbl12 | with_reducible exact hbl11 | with_reducible exact hbl10 | with_reducible exact hbl9 | with_reducible exact hbl8 | with_reducible exact hbl7 | with_reducible exact hbl6 | with_reducible exact hbl5 | with_reducible exact hbl4 | with_reducible exact hbl3 | with_reducible exact hbl2 | with_reducible exact hbl1 | with_reducible exact Below.refl _ _ | with_reducible refine Below.new ?_ _ | with_reducible refine Below.drew ?_) hb16; have hs16 := HS.out w16 hbl16)
          | (have hq15 := hbl14; go_at_call 17; refine (refOfT_calls (HM.out.below (by repeat' first | with_reducible exact hbl14 | with_reducible exact hbl13 | with_reducible exact hbl12 | with_reducible exact hbl11 | with_reducible exact hbl10 | with_reducible exact hbl9 | with_reducible exact hbl8 | with_reducible exact hbl7 | with_reducible exact hbl6 | with_reducible exact hbl5 | with_reducible exact hbl4 | with_reducible exact hbl3 | with_reducible exact hbl2 | with_reducible exact hbl1 | with_reducible exact Below.refl _ _ | with_reducible refine Below.new ?_ _ | with_reducible refine Below.drew ?_)) ((((Gcx.out.add ((Gdx.out.sub Gcx.out).mul qs_halfQ)).sub (Gax.out.add ((Gbx.out.sub Gax.out).mul qs_halfQ))).mul ((Gdz.out.add ((Gaz.out.sub Gdz.out).mul qs_halfQ)).sub (Gaz.out.add ((Gbz.out.sub Gaz.out).mul qs_halfQ)))).sub (((Gcz.out.add ((Gdz.out.sub Gcz.out).mul qs_halfQ)).sub (Gaz.out.add ((Gbz.out.sub Gaz.out).mul qs_halfQ))).mul ((Gdx.out.add ((Gax.out.sub Gdx.out).mul qs_halfQ)).sub (Gax.out.add ((Gbx.out.sub Gax.out).mul qs_halfQ))))) (by decide)).mono ?_; rintro e w15 ⟨hb15, _, rfl, g15, rfl, hv15⟩; have hbl15 : Below wc.heap.size wc w15 := bel_bel (by repeat' first | with_reducible exact hbl14 | with_reducible exact hbl13 | with_reducible exact hbl12 | with_reducible exact hbl11 | with_reducible exact hbl10 | with_reducible exact hbl9 | with_reducible exact hbl8 | with_reducible exact hbl7 | with_reducible exact hbl6 | with_reducible exact hbl5 | with_reducible exact hbl4 | with_reducible exact hbl3 | with_reducible exact hbl2 | with_reducible exact hbl1 | with_reducible exact Below.refl _ _ | with_reducible refine Below.new ?_ _ | with_reducible refine Below.drew ?_) hb15; have hs15 := HS.out w15 hbl15)
          | (have hq14 := hbl13; go_at_call 21; refine (area2T_calls (Gax.out.add ((Gbx.out.sub Gax.out).mul qs_halfQ)) (Gaz.out.add ((Gbz.out.sub Gaz.out).mul qs_halfQ)) (Gcx.out.add ((Gdx.out.sub Gcx.out).mul qs_halfQ)) (Gcz.out.add ((Gdz.out.sub Gcz.out).mul qs_halfQ)) (Gdx.out.add ((Gax.out.sub Gdx.out).mul qs_halfQ)) (Gdz.out.add ((Gaz.out.sub Gdz.out).mul qs_halfQ)) (by decide) (HT.out.below (by repeat' first | with_reducible exact hbl13 | with_reducible exact hbl12 | with_reducible exact hbl11 | with_reducible exact hbl10 | with_reducible exact hbl9 | with_reducible exact hbl8 | with_reducible exact hbl7 | with_reducible exact hbl6 | with_reducible exact hbl5 | with_reducible exact hbl4 | with_reducible exact hbl3 | with_reducible exact hbl2 | with_reducible exact hbl1 | with_reducible exact Below.refl _ _ | with_reducible refine Below.new ?_ _ | with_reducible refine Below.drew ?_))).mono ?_; rintro e w14 ⟨hb14, rfl⟩; have hbl14 : Below wc.heap.size wc w14 := bel_bel (by repeat' first | with_reducible exact hbl13 | with_reducible exact hbl12 | with_reducible exact hbl11 | with_reducible exact hbl10 | with_reducible exact hbl9 | with_reducible exact hbl8 | with_reducible exact hbl7 | with_reducible exact hbl6 | with_reducible exact hbl5 | with_reducible exact hbl4 | with_reducible exact hbl3 | with_reducible exact hbl2 | with_reducible exact hbl1 | with_reducible exact Below.refl _ _ | with_reducible refine Below.new ?_ _ | with_reducible refine Below.drew ?_) hb14; have hs14 := HS.out w14 hbl14)
          | (have hq13 := hbl12; go_at_call_of 22 (Value.agg #[p3', q3']); refine (vTell_calls ⟨_, _, rfl, HP.out.2.2.2.2.2.2.1.below (by repeat' first | with_reducible exact hbl12 | with_reducible exact hbl11 | with_reducible exact hbl10 | with_reducible exact hbl9 | with_reducible exact hbl8 | with_reducible exact hbl7 | with_reducible exact hbl6 | with_reducible exact hbl5 | with_reducible exact hbl4 | with_reducible exact hbl3 | with_reducible exact hbl2 | with_reducible exact hbl1 | with_reducible exact Below.refl _ _ | with_reducible refine Below.new ?_ _ | with_reducible refine Below.drew ?_), HP.out.2.2.2.2.2.2.2.below (by repeat' first | with_reducible exact hbl12 | with_reducible exact hbl11 | with_reducible exact hbl10 | with_reducible exact hbl9 | with_reducible exact hbl8 | with_reducible exact hbl7 | with_reducible exact hbl6 | with_reducible exact hbl5 | with_reducible exact hbl4 | with_reducible exact hbl3 | with_reducible exact hbl2 | with_reducible exact hbl1 | with_reducible exact Below.refl _ _ | with_reducible refine Below.new ?_ _ | with_reducible refine Below.drew ?_)⟩ (Gdx.out.add ((Gax.out.sub Gdx.out).mul qs_halfQ)) (Gdz.out.add ((Gaz.out.sub Gdz.out).mul qs_halfQ)) (by decide)).mono ?_; rintro e w13 ⟨hb13, rfl⟩; have hbl13 : Below wc.heap.size wc w13 := bel_bel (by repeat' first | with_reducible exact hbl12 | with_reducible exact hbl11 | with_reducible exact hbl10 | with_reducible exact hbl9 | with_reducible exact hbl8 | with_reducible exact hbl7 | with_reducible exact hbl6 | with_reducible exact hbl5 | with_reducible exact hbl4 | with_reducible exact hbl3 | with_reducible exact hbl2 | with_reducible exact hbl1 | with_reducible exact Below.refl _ _ | with_reducible refine Below.new ?_ _ | with_reducible refine Below.drew ?_) hb13; have hs13 := HS.out w13 hbl13)
          | (have hq12 := hbl11; go_at_call_of 22 (Value.agg #[p2', q2']); refine (vTell_calls ⟨_, _, rfl, HP.out.2.2.2.2.1.below (by repeat' first | with_reducible exact hbl11 | with_reducible exact hbl10 | with_reducible exact hbl9 | with_reducible exact hbl8 | with_reducible exact hbl7 | with_reducible exact hbl6 | with_reducible exact hbl5 | with_reducible exact hbl4 | with_reducible exact hbl3 | with_reducible exact hbl2 | with_reducible exact hbl1 | with_reducible exact Below.refl _ _ | with_reducible refine Below.new ?_ _ | with_reducible refine Below.drew ?_), HP.out.2.2.2.2.2.1.below (by repeat' first | with_reducible exact hbl11 | with_reducible exact hbl10 | with_reducible exact hbl9 | with_reducible exact hbl8 | with_reducible exact hbl7 | with_reducible exact hbl6 | with_reducible exact hbl5 | with_reducible exact hbl4 | with_reducible exact hbl3 | with_reducible exact hbl2 | with_reducible exact hbl1 | with_reducible exact Below.refl _ _ | with_reducible refine Below.new ?_ _ | with_reducible refine Below.drew ?_)⟩ (Gcx.out.add ((Gdx.out.sub Gcx.out).mul qs_halfQ)) (Gcz.out.add ((Gdz.out.sub Gcz.out).mul qs_halfQ)) (by decide)).mono ?_; rintro e w12 ⟨hb12, rfl⟩; have hbl12 : Below wc.heap.size wc w12 := bel_bel (by repeat' first | with_reducible exact hbl11 | with_reducible exact hbl10 | with_reducible exact hbl9 | with_reducible exact hbl8 | with_reducible exact hbl7 | with_reducible exact hbl6 | with_reducible exact hbl5 | with_reducible exact hbl4 | with_reducible exact hbl3 | with_reducible exact hbl2 | with_reducible exact hbl1 | with_reducible exact Below.refl _ _ | with_reducible refine Below.new ?_ _ | with_reducible refine Below.drew ?_) hb12; have hs12 := HS.out w12 hbl12)
          | (have hq11 := hbl10; go_at_call_of 22 (Value.agg #[p0', q0']); refine (vTell_calls ⟨_, _, rfl, HP.out.1.below (by repeat' first | with_reducible exact hbl10 | with_reducible exact hbl9 | with_reducible exact hbl8 | with_reducible exact hbl7 | with_reducible exact hbl6 | with_reducible exact hbl5 | with_reducible exact hbl4 | with_reducible exact hbl3 | with_reducible exact hbl2 | with_reducible exact hbl1 | with_reducible exact Below.refl _ _ | with_reducible refine Below.new ?_ _ | with_reducible refine Below.drew ?_), HP.out.2.1.below (by repeat' first | with_reducible exact hbl10 | with_reducible exact hbl9 | with_reducible exact hbl8 | with_reducible exact hbl7 | with_reducible exact hbl6 | with_reducible exact hbl5 | with_reducible exact hbl4 | with_reducible exact hbl3 | with_reducible exact hbl2 | with_reducible exact hbl1 | with_reducible exact Below.refl _ _ | with_reducible refine Below.new ?_ _ | with_reducible refine Below.drew ?_)⟩ (Gax.out.add ((Gbx.out.sub Gax.out).mul qs_halfQ)) (Gaz.out.add ((Gbz.out.sub Gaz.out).mul qs_halfQ)) (by decide)).mono ?_; rintro e w11 ⟨hb11, rfl⟩; have hbl11 : Below wc.heap.size wc w11 := bel_bel (by repeat' first | with_reducible exact hbl10 | with_reducible exact hbl9 | with_reducible exact hbl8 | with_reducible exact hbl7 | with_reducible exact hbl6 | with_reducible exact hbl5 | with_reducible exact hbl4 | with_reducible exact hbl3 | with_reducible exact hbl2 | with_reducible exact hbl1 | with_reducible exact Below.refl _ _ | with_reducible refine Below.new ?_ _ | with_reducible refine Below.drew ?_) hb11; have hs11 := HS.out w11 hbl11)
          | (have hq10 := hbl9; go_at_call 17; refine (refOfT_calls (HM.out.below (by repeat' first | with_reducible exact hbl9 | with_reducible exact hbl8 | with_reducible exact hbl7 | with_reducible exact hbl6 | with_reducible exact hbl5 | with_reducible exact hbl4 | with_reducible exact hbl3 | with_reducible exact hbl2 | with_reducible exact hbl1 | with_reducible exact Below.refl _ _ | with_reducible refine Below.new ?_ _ | with_reducible refine Below.drew ?_)) ((((Gbx.out.add ((Gcx.out.sub Gbx.out).mul qs_halfQ)).sub (Gax.out.add ((Gbx.out.sub Gax.out).mul qs_halfQ))).mul ((Gcz.out.add ((Gdz.out.sub Gcz.out).mul qs_halfQ)).sub (Gaz.out.add ((Gbz.out.sub Gaz.out).mul qs_halfQ)))).sub (((Gbz.out.add ((Gcz.out.sub Gbz.out).mul qs_halfQ)).sub (Gaz.out.add ((Gbz.out.sub Gaz.out).mul qs_halfQ))).mul ((Gcx.out.add ((Gdx.out.sub Gcx.out).mul qs_halfQ)).sub (Gax.out.add ((Gbx.out.sub Gax.out).mul qs_halfQ))))) (by decide)).mono ?_; rintro e w10 ⟨hb10, _, rfl, g10, rfl, hv10⟩; have hbl10 : Below wc.heap.size wc w10 := bel_bel (by repeat' first | with_reducible exact hbl9 | with_reducible exact hbl8 | with_reducible exact hbl7 | with_reducible exact hbl6 | with_reducible exact hbl5 | with_reducible exact hbl4 | with_reducible exact hbl3 | with_reducible exact hbl2 | with_reducible exact hbl1 | with_reducible exact Below.refl _ _ | with_reducible refine Below.new ?_ _ | with_reducible refine Below.drew ?_) hb10; have hs10 := HS.out w10 hbl10)
          | (have hq9 := hbl8; go_at_call 21; refine (area2T_calls (Gax.out.add ((Gbx.out.sub Gax.out).mul qs_halfQ)) (Gaz.out.add ((Gbz.out.sub Gaz.out).mul qs_halfQ)) (Gbx.out.add ((Gcx.out.sub Gbx.out).mul qs_halfQ)) (Gbz.out.add ((Gcz.out.sub Gbz.out).mul qs_halfQ)) (Gcx.out.add ((Gdx.out.sub Gcx.out).mul qs_halfQ)) (Gcz.out.add ((Gdz.out.sub Gcz.out).mul qs_halfQ)) (by decide) (HT.out.below (by repeat' first | with_reducible exact hbl8 | with_reducible exact hbl7 | with_reducible exact hbl6 | with_reducible exact hbl5 | with_reducible exact hbl4 | with_reducible exact hbl3 | with_reducible exact hbl2 | with_reducible exact hbl1 | with_reducible exact Below.refl _ _ | with_reducible refine Below.new ?_ _ | with_reducible refine Below.drew ?_))).mono ?_; rintro e w9 ⟨hb9, rfl⟩; have hbl9 : Below wc.heap.size wc w9 := bel_bel (by repeat' first | with_reducible exact hbl8 | with_reducible exact hbl7 | with_reducible exact hbl6 | with_reducible exact hbl5 | with_reducible exact hbl4 | with_reducible exact hbl3 | with_reducible exact hbl2 | with_reducible exact hbl1 | with_reducible exact Below.refl _ _ | with_reducible refine Below.new ?_ _ | with_reducible refine Below.drew ?_) hb9; have hs9 := HS.out w9 hbl9)
          | (have hq8 := hbl7; go_at_call_of 22 (Value.agg #[p2', q2']); refine (vTell_calls ⟨_, _, rfl, HP.out.2.2.2.2.1.below (by repeat' first | with_reducible exact hbl7 | with_reducible exact hbl6 | with_reducible exact hbl5 | with_reducible exact hbl4 | with_reducible exact hbl3 | with_reducible exact hbl2 | with_reducible exact hbl1 | with_reducible exact Below.refl _ _ | with_reducible refine Below.new ?_ _ | with_reducible refine Below.drew ?_), HP.out.2.2.2.2.2.1.below (by repeat' first | with_reducible exact hbl7 | with_reducible exact hbl6 | with_reducible exact hbl5 | with_reducible exact hbl4 | with_reducible exact hbl3 | with_reducible exact hbl2 | with_reducible exact hbl1 | with_reducible exact Below.refl _ _ | with_reducible refine Below.new ?_ _ | with_reducible refine Below.drew ?_)⟩ (Gcx.out.add ((Gdx.out.sub Gcx.out).mul qs_halfQ)) (Gcz.out.add ((Gdz.out.sub Gcz.out).mul qs_halfQ)) (by decide)).mono ?_; rintro e w8 ⟨hb8, rfl⟩; have hbl8 : Below wc.heap.size wc w8 := bel_bel (by repeat' first | with_reducible exact hbl7 | with_reducible exact hbl6 | with_reducible exact hbl5 | with_reducible exact hbl4 | with_reducible exact hbl3 | with_reducible exact hbl2 | with_reducible exact hbl1 | with_reducible exact Below.refl _ _ | with_reducible refine Below.new ?_ _ | with_reducible refine Below.drew ?_) hb8; have hs8 := HS.out w8 hbl8)
          | (have hq7 := hbl6; go_at_call_of 22 (Value.agg #[p1', q1']); refine (vTell_calls ⟨_, _, rfl, HP.out.2.2.1.below (by repeat' first | with_reducible exact hbl6 | with_reducible exact hbl5 | with_reducible exact hbl4 | with_reducible exact hbl3 | with_reducible exact hbl2 | with_reducible exact hbl1 | with_reducible exact Below.refl _ _ | with_reducible refine Below.new ?_ _ | with_reducible refine Below.drew ?_), HP.out.2.2.2.1.below (by repeat' first | with_reducible exact hbl6 | with_reducible exact hbl5 | with_reducible exact hbl4 | with_reducible exact hbl3 | with_reducible exact hbl2 | with_reducible exact hbl1 | with_reducible exact Below.refl _ _ | with_reducible refine Below.new ?_ _ | with_reducible refine Below.drew ?_)⟩ (Gbx.out.add ((Gcx.out.sub Gbx.out).mul qs_halfQ)) (Gbz.out.add ((Gcz.out.sub Gbz.out).mul qs_halfQ)) (by decide)).mono ?_; rintro e w7 ⟨hb7, rfl⟩; have hbl7 : Below wc.heap.size wc w7 := bel_bel (by repeat' first | with_reducible exact hbl6 | with_reducible exact hbl5 | with_reducible exact hbl4 | with_reducible exact hbl3 | with_reducible exact hbl2 | with_reducible exact hbl1 | with_reducible exact Below.refl _ _ | with_reducible refine Below.new ?_ _ | with_reducible refine Below.drew ?_) hb7; have hs7 := HS.out w7 hbl7)
          | (go_at_call_of 22 (Value.agg #[p0', q0']); refine (vTell_calls ⟨_, _, rfl, HP.out.1.below (by repeat' first | with_reducible exact hbl5 | with_reducible exact hbl4 | with_reducible exact hbl3 | with_reducible exact hbl2 | with_reducible exact hbl1 | with_reducible exact Below.refl _ _ | with_reducible refine Below.new ?_ _ | with_reducible refine Below.drew ?_), HP.out.2.1.below (by repeat' first | with_reducible exact hbl5 | with_reducible exact hbl4 | with_reducible exact hbl3 | with_reducible exact hbl2 | with_reducible exact hbl1 | with_reducible exact Below.refl _ _ | with_reducible refine Below.new ?_ _ | with_reducible refine Below.drew ?_)⟩ (Gax.out.add ((Gbx.out.sub Gax.out).mul qs_halfQ)) (Gaz.out.add ((Gbz.out.sub Gaz.out).mul qs_halfQ)) (by decide)).mono ?_; rintro e w6 ⟨hb6, rfl⟩; have hbl6 : Below wc.heap.size wc w6 := bel_bel (by repeat' first | with_reducible exact hbl5 | with_reducible exact hbl4 | with_reducible exact hbl3 | with_reducible exact hbl2 | with_reducible exact hbl1 | with_reducible exact Below.refl _ _ | with_reducible refine Below.new ?_ _ | with_reducible refine Below.drew ?_) hb6; have hs6 := HS.out w6 hbl6)
          )
      all_goals
        go_wp2_with fail
        go_region_held3 (fun w' => w'.cell? ⟨w.heap.size, 0, none⟩ = some (.string ax) ∧ w'.cell? ⟨w.heap.size, 1, none⟩ = some (.string az) ∧ w'.cell? ⟨w.heap.size + 1, 0, none⟩ = some (.string bx) ∧ w'.cell? ⟨w.heap.size + 1, 1, none⟩ = some (.string bz) ∧ w'.cell? ⟨w.heap.size + 1 + 1, 0, none⟩ = some (.string cx) ∧ w'.cell? ⟨w.heap.size + 1 + 1, 1, none⟩ = some (.string cz) ∧ w'.cell? ⟨w.heap.size + 1 + 1 + 1, 0, none⟩ = some (.string dx) ∧ w'.cell? ⟨w.heap.size + 1 + 1 + 1, 1, none⟩ = some (.string dz) ∧ w'.cell? ⟨G0, 0, none⟩ = some (p0') ∧ w'.cell? ⟨G0, 1, none⟩ = some (q0') ∧ w'.cell? ⟨G1, 0, none⟩ = some (p1') ∧ w'.cell? ⟨G1, 1, none⟩ = some (q1') ∧ w'.cell? ⟨G2, 0, none⟩ = some (p2') ∧ w'.cell? ⟨G2, 1, none⟩ = some (q2') ∧ w'.cell? ⟨G3, 0, none⟩ = some (p3') ∧ w'.cell? ⟨G3, 1, none⟩ = some (q3')) (first | (refine HS.out _ ?_; (repeat' first | with_reducible exact hbl23 | with_reducible exact hbl22 | with_reducible exact hbl21 | with_reducible exact hbl20 | with_reducible exact hbl19 | with_reducible exact hbl18 | with_reducible exact hbl17 | with_reducible exact hbl16 | with_reducible exact hbl15 | with_reducible exact hbl14 | with_reducible exact hbl13 | with_reducible exact hbl12 | with_reducible exact hbl11 | with_reducible exact hbl10 | with_reducible exact hbl9 | with_reducible exact hbl8 | with_reducible exact hbl7 | with_reducible exact hbl6 | with_reducible exact hbl5 | with_reducible exact hbl4 | with_reducible exact hbl3 | with_reducible exact hbl2 | with_reducible exact hbl1 | with_reducible exact Below.refl _ _ | with_reducible refine Below.new ?_ _ | with_reducible refine Below.drew ?_); done) | go_keep)
          (first
            | (have hq23 := hbl22; go_at_call 24; refine (refEq_calls ⟨_, rfl, (by repeat' first | with_reducible exact hv5 | with_reducible refine rv_new _ ?_ | with_reducible refine rv_drew ?_ | with_reducible refine rv_bel hb22 ?_ | with_reducible refine rv_bel hb21 ?_ | with_reducible refine rv_bel hb20 ?_ | with_reducible refine rv_bel hb19 ?_ | with_reducible refine rv_bel hb18 ?_ | with_reducible refine rv_bel hb17 ?_ | with_reducible refine rv_bel hb16 ?_ | with_reducible refine rv_bel hb15 ?_ | with_reducible refine rv_bel hb14 ?_ | with_reducible refine rv_bel hb13 ?_ | with_reducible refine rv_bel hb12 ?_ | with_reducible refine rv_bel hb11 ?_ | with_reducible refine rv_bel hb10 ?_ | with_reducible refine rv_bel hb9 ?_ | with_reducible refine rv_bel hb8 ?_ | with_reducible refine rv_bel hb7 ?_ | with_reducible refine rv_bel hb6 ?_)⟩ ⟨_, rfl, (by repeat' first | with_reducible exact hv22 | with_reducible refine rv_new _ ?_ | with_reducible refine rv_drew ?_)⟩ ((((Gbx.out.sub Gax.out).mul (Gcz.out.sub Gaz.out)).sub ((Gbz.out.sub Gaz.out).mul (Gcx.out.sub Gax.out))).add (((Gcx.out.sub Gax.out).mul (Gdz.out.sub Gaz.out)).sub ((Gcz.out.sub Gaz.out).mul (Gdx.out.sub Gax.out)))) (qs_2.mul (((((Gbx.out.add ((Gcx.out.sub Gbx.out).mul qs_halfQ)).sub (Gax.out.add ((Gbx.out.sub Gax.out).mul qs_halfQ))).mul ((Gcz.out.add ((Gdz.out.sub Gcz.out).mul qs_halfQ)).sub (Gaz.out.add ((Gbz.out.sub Gaz.out).mul qs_halfQ)))).sub (((Gbz.out.add ((Gcz.out.sub Gbz.out).mul qs_halfQ)).sub (Gaz.out.add ((Gbz.out.sub Gaz.out).mul qs_halfQ))).mul ((Gcx.out.add ((Gdx.out.sub Gcx.out).mul qs_halfQ)).sub (Gax.out.add ((Gbx.out.sub Gax.out).mul qs_halfQ))))).add ((((Gcx.out.add ((Gdx.out.sub Gcx.out).mul qs_halfQ)).sub (Gax.out.add ((Gbx.out.sub Gax.out).mul qs_halfQ))).mul ((Gdz.out.add ((Gaz.out.sub Gdz.out).mul qs_halfQ)).sub (Gaz.out.add ((Gbz.out.sub Gaz.out).mul qs_halfQ)))).sub (((Gcz.out.add ((Gdz.out.sub Gcz.out).mul qs_halfQ)).sub (Gaz.out.add ((Gbz.out.sub Gaz.out).mul qs_halfQ))).mul ((Gdx.out.add ((Gax.out.sub Gdx.out).mul qs_halfQ)).sub (Gax.out.add ((Gbx.out.sub Gax.out).mul qs_halfQ))))))) (by decide)).mono ?_; rintro e w23 ⟨hb23, rfl⟩; rw [decide_eq_true (varignon2 _ _ _ _ _ _ _ _)]; have hbl23 : Below wc.heap.size wc w23 := bel_bel (by repeat' first | with_reducible exact hbl22 | with_reducible exact hbl21 | with_reducible exact hbl20 | with_reducible exact hbl19 | with_reducible exact hbl18 | with_reducible exact hbl17 | with_reducible exact hbl16 | with_reducible exact hbl15 | with_reducible exact hbl14 | with_reducible exact hbl13 | with_reducible exact hbl12 | with_reducible exact hbl11 | with_reducible exact hbl10 | with_reducible exact hbl9 | with_reducible exact hbl8 | with_reducible exact hbl7 | with_reducible exact hbl6 | with_reducible exact hbl5 | with_reducible exact hbl4 | with_reducible exact hbl3 | with_reducible exact hbl2 | with_reducible exact hbl1 | with_reducible exact Below.refl _ _ | with_reducible refine Below.new ?_ _ | with_reducible refine Below.drew ?_) hb23; have hs23 := HS.out w23 hbl23)
            | (have hq22 := hbl21; go_at_call 25; refine (refMul_calls (rrow2 (by repeat' first | with_reducible exact Blk.new _ _ _ | ((with_reducible refine blk_at ?_); (first | with_reducible rfl | (simp; done))) | with_reducible refine blk_old _ ?_ | with_reducible refine blk_drew ?_ | with_reducible refine blk_bel hb21 ?_ | with_reducible refine blk_bel hb20 ?_ | with_reducible refine blk_bel hb19 ?_ | with_reducible refine blk_bel hb18 ?_ | with_reducible refine blk_bel hb17 ?_ | with_reducible refine blk_bel hb16 ?_ | with_reducible refine blk_bel hb15 ?_ | with_reducible refine blk_bel hb14 ?_ | with_reducible refine blk_bel hb13 ?_ | with_reducible refine blk_bel hb12 ?_ | with_reducible refine blk_bel hb11 ?_ | with_reducible refine blk_bel hb10 ?_ | with_reducible refine blk_bel hb9 ?_ | with_reducible refine blk_bel hb8 ?_ | with_reducible refine blk_bel hb7 ?_ | with_reducible refine blk_bel hb6 ?_ | with_reducible refine blk_bel hb5 ?_ | with_reducible refine blk_bel hb4 ?_ | with_reducible refine blk_bel hb3 ?_ | with_reducible refine blk_bel hb2 ?_ | with_reducible refine blk_bel hb1 ?_) ⟨_, rfl, (by repeat' first | with_reducible exact hv21 | with_reducible refine rv_new _ ?_ | with_reducible refine rv_drew ?_)⟩ ⟨_, rfl, (by repeat' first | with_reducible exact hv16 | with_reducible refine rv_new _ ?_ | with_reducible refine rv_drew ?_ | with_reducible refine rv_bel hb21 ?_ | with_reducible refine rv_bel hb20 ?_ | with_reducible refine rv_bel hb19 ?_ | with_reducible refine rv_bel hb18 ?_ | with_reducible refine rv_bel hb17 ?_)⟩) (all2 (QS.mono (l := 201327003) qs_2 (by decide)) (((((Gbx.out.add ((Gcx.out.sub Gbx.out).mul qs_halfQ)).sub (Gax.out.add ((Gbx.out.sub Gax.out).mul qs_halfQ))).mul ((Gcz.out.add ((Gdz.out.sub Gcz.out).mul qs_halfQ)).sub (Gaz.out.add ((Gbz.out.sub Gaz.out).mul qs_halfQ)))).sub (((Gbz.out.add ((Gcz.out.sub Gbz.out).mul qs_halfQ)).sub (Gaz.out.add ((Gbz.out.sub Gaz.out).mul qs_halfQ))).mul ((Gcx.out.add ((Gdx.out.sub Gcx.out).mul qs_halfQ)).sub (Gax.out.add ((Gbx.out.sub Gax.out).mul qs_halfQ))))).add ((((Gcx.out.add ((Gdx.out.sub Gcx.out).mul qs_halfQ)).sub (Gax.out.add ((Gbx.out.sub Gax.out).mul qs_halfQ))).mul ((Gdz.out.add ((Gaz.out.sub Gdz.out).mul qs_halfQ)).sub (Gaz.out.add ((Gbz.out.sub Gaz.out).mul qs_halfQ)))).sub (((Gcz.out.add ((Gdz.out.sub Gcz.out).mul qs_halfQ)).sub (Gaz.out.add ((Gbz.out.sub Gaz.out).mul qs_halfQ))).mul ((Gdx.out.add ((Gax.out.sub Gdx.out).mul qs_halfQ)).sub (Gax.out.add ((Gbx.out.sub Gax.out).mul qs_halfQ))))))) (by simp) (by simp only [List.length_cons, List.length_nil]; omega)).mono ?_; rintro e w22 ⟨hb22, _, rfl, g22, rfl, hv22⟩; rw [rprod2] at hv22; have hbl22 : Below wc.heap.size wc w22 := bel_bel (by repeat' first | with_reducible exact hbl21 | with_reducible exact hbl20 | with_reducible exact hbl19 | with_reducible exact hbl18 | with_reducible exact hbl17 | with_reducible exact hbl16 | with_reducible exact hbl15 | with_reducible exact hbl14 | with_reducible exact hbl13 | with_reducible exact hbl12 | with_reducible exact hbl11 | with_reducible exact hbl10 | with_reducible exact hbl9 | with_reducible exact hbl8 | with_reducible exact hbl7 | with_reducible exact hbl6 | with_reducible exact hbl5 | with_reducible exact hbl4 | with_reducible exact hbl3 | with_reducible exact hbl2 | with_reducible exact hbl1 | with_reducible exact Below.refl _ _ | with_reducible refine Below.new ?_ _ | with_reducible refine Below.drew ?_) hb22; have hs22 := HS.out w22 hbl22)
            | (have hq21 := hbl20; go_at_call 26; refine (refNP_calls 2 (by decide) _).mono ?_; rintro e w21 ⟨hb21, _, rfl, g21, rfl, hv21⟩; have hbl21 : Below wc.heap.size wc w21 := bel_bel (by repeat' first | with_reducible exact hbl20 | with_reducible exact hbl19 | with_reducible exact hbl18 | with_reducible exact hbl17 | with_reducible exact hbl16 | with_reducible exact hbl15 | with_reducible exact hbl14 | with_reducible exact hbl13 | with_reducible exact hbl12 | with_reducible exact hbl11 | with_reducible exact hbl10 | with_reducible exact hbl9 | with_reducible exact hbl8 | with_reducible exact hbl7 | with_reducible exact hbl6 | with_reducible exact hbl5 | with_reducible exact hbl4 | with_reducible exact hbl3 | with_reducible exact hbl2 | with_reducible exact hbl1 | with_reducible exact Below.refl _ _ | with_reducible refine Below.new ?_ _ | with_reducible refine Below.drew ?_) hb21; have hs21 := HS.out w21 hbl21)
            | (have hq20 := hbl19; go_at_call 12; refine (vSame_calls ⟨_, _, rfl, ⟨_, rfl, (by repeat' first | with_reducible exact hv18x | with_reducible refine rv_new _ ?_ | with_reducible refine rv_drew ?_ | with_reducible refine rv_bel hb19 ?_)⟩, ⟨_, rfl, (by repeat' first | with_reducible exact hv18z | with_reducible refine rv_new _ ?_ | with_reducible refine rv_drew ?_ | with_reducible refine rv_bel hb19 ?_)⟩⟩ ⟨_, _, rfl, ⟨_, rfl, (by repeat' first | with_reducible exact hv19x | with_reducible refine rv_new _ ?_ | with_reducible refine rv_drew ?_)⟩, ⟨_, rfl, (by repeat' first | with_reducible exact hv19z | with_reducible refine rv_new _ ?_ | with_reducible refine rv_drew ?_)⟩⟩ ((Gbx.out.add ((Gcx.out.sub Gbx.out).mul qs_halfQ)).sub (Gax.out.add ((Gbx.out.sub Gax.out).mul qs_halfQ))) ((Gbz.out.add ((Gcz.out.sub Gbz.out).mul qs_halfQ)).sub (Gaz.out.add ((Gbz.out.sub Gaz.out).mul qs_halfQ))) ((Gcx.out.add ((Gdx.out.sub Gcx.out).mul qs_halfQ)).sub (Gdx.out.add ((Gax.out.sub Gdx.out).mul qs_halfQ))) ((Gcz.out.add ((Gdz.out.sub Gcz.out).mul qs_halfQ)).sub (Gdz.out.add ((Gaz.out.sub Gdz.out).mul qs_halfQ))) (by decide)).mono ?_; rintro e w20 ⟨hb20, rfl⟩; rw [decide_eq_true (show (((rd bx.data.toList) + ((rd cx.data.toList) - (rd bx.data.toList)) * halfQ) - ((rd ax.data.toList) + ((rd bx.data.toList) - (rd ax.data.toList)) * halfQ)) = (((rd cx.data.toList) + ((rd dx.data.toList) - (rd cx.data.toList)) * halfQ) - ((rd dx.data.toList) + ((rd ax.data.toList) - (rd dx.data.toList)) * halfQ)) ∧ (((rd bz.data.toList) + ((rd cz.data.toList) - (rd bz.data.toList)) * halfQ) - ((rd az.data.toList) + ((rd bz.data.toList) - (rd az.data.toList)) * halfQ)) = (((rd cz.data.toList) + ((rd dz.data.toList) - (rd cz.data.toList)) * halfQ) - ((rd dz.data.toList) + ((rd az.data.toList) - (rd dz.data.toList)) * halfQ)) from ⟨varignon1 _ _ _ _, varignon1 _ _ _ _⟩)]; have hbl20 : Below wc.heap.size wc w20 := bel_bel (by repeat' first | with_reducible exact hbl19 | with_reducible exact hbl18 | with_reducible exact hbl17 | with_reducible exact hbl16 | with_reducible exact hbl15 | with_reducible exact hbl14 | with_reducible exact hbl13 | with_reducible exact hbl12 | with_reducible exact hbl11 | with_reducible exact hbl10 | with_reducible exact hbl9 | with_reducible exact hbl8 | with_reducible exact hbl7 | with_reducible exact hbl6 | with_reducible exact hbl5 | with_reducible exact hbl4 | with_reducible exact hbl3 | with_reducible exact hbl2 | with_reducible exact hbl1 | with_reducible exact Below.refl _ _ | with_reducible refine Below.new ?_ _ | with_reducible refine Below.drew ?_) hb20; have hs20 := HS.out w20 hbl20)
            | (have hq19 := hbl18; go_at_call 23; refine (vMinus_calls ⟨_, _, rfl, HP.out.2.2.2.2.1.below (by repeat' first | with_reducible exact hbl18 | with_reducible exact hbl17 | with_reducible exact hbl16 | with_reducible exact hbl15 | with_reducible exact hbl14 | with_reducible exact hbl13 | with_reducible exact hbl12 | with_reducible exact hbl11 | with_reducible exact hbl10 | with_reducible exact hbl9 | with_reducible exact hbl8 | with_reducible exact hbl7 | with_reducible exact hbl6 | with_reducible exact hbl5 | with_reducible exact hbl4 | with_reducible exact hbl3 | with_reducible exact hbl2 | with_reducible exact hbl1 | with_reducible exact Below.refl _ _ | with_reducible refine Below.new ?_ _ | with_reducible refine Below.drew ?_), HP.out.2.2.2.2.2.1.below (by repeat' first | with_reducible exact hbl18 | with_reducible exact hbl17 | with_reducible exact hbl16 | with_reducible exact hbl15 | with_reducible exact hbl14 | with_reducible exact hbl13 | with_reducible exact hbl12 | with_reducible exact hbl11 | with_reducible exact hbl10 | with_reducible exact hbl9 | with_reducible exact hbl8 | with_reducible exact hbl7 | with_reducible exact hbl6 | with_reducible exact hbl5 | with_reducible exact hbl4 | with_reducible exact hbl3 | with_reducible exact hbl2 | with_reducible exact hbl1 | with_reducible exact Below.refl _ _ | with_reducible refine Below.new ?_ _ | with_reducible refine Below.drew ?_)⟩ ⟨_, _, rfl, HP.out.2.2.2.2.2.2.1.below (by repeat' first | with_reducible exact hbl18 | with_reducible exact hbl17 | with_reducible exact hbl16 | with_reducible exact hbl15 | with_reducible exact hbl14 | with_reducible exact hbl13 | with_reducible exact hbl12 | with_reducible exact hbl11 | with_reducible exact hbl10 | with_reducible exact hbl9 | with_reducible exact hbl8 | with_reducible exact hbl7 | with_reducible exact hbl6 | with_reducible exact hbl5 | with_reducible exact hbl4 | with_reducible exact hbl3 | with_reducible exact hbl2 | with_reducible exact hbl1 | with_reducible exact Below.refl _ _ | with_reducible refine Below.new ?_ _ | with_reducible refine Below.drew ?_), HP.out.2.2.2.2.2.2.2.below (by repeat' first | with_reducible exact hbl18 | with_reducible exact hbl17 | with_reducible exact hbl16 | with_reducible exact hbl15 | with_reducible exact hbl14 | with_reducible exact hbl13 | with_reducible exact hbl12 | with_reducible exact hbl11 | with_reducible exact hbl10 | with_reducible exact hbl9 | with_reducible exact hbl8 | with_reducible exact hbl7 | with_reducible exact hbl6 | with_reducible exact hbl5 | with_reducible exact hbl4 | with_reducible exact hbl3 | with_reducible exact hbl2 | with_reducible exact hbl1 | with_reducible exact Below.refl _ _ | with_reducible refine Below.new ?_ _ | with_reducible refine Below.drew ?_)⟩ (Gcx.out.add ((Gdx.out.sub Gcx.out).mul qs_halfQ)) (Gcz.out.add ((Gdz.out.sub Gcz.out).mul qs_halfQ)) (Gdx.out.add ((Gax.out.sub Gdx.out).mul qs_halfQ)) (Gdz.out.add ((Gaz.out.sub Gdz.out).mul qs_halfQ)) (by decide)).mono ?_; rintro e w19 ⟨hb19, _, rfl, _, _, rfl, ⟨g19x, rfl, hv19x⟩, ⟨g19z, rfl, hv19z⟩⟩; have hbl19 : Below wc.heap.size wc w19 := bel_bel (by repeat' first | with_reducible exact hbl18 | with_reducible exact hbl17 | with_reducible exact hbl16 | with_reducible exact hbl15 | with_reducible exact hbl14 | with_reducible exact hbl13 | with_reducible exact hbl12 | with_reducible exact hbl11 | with_reducible exact hbl10 | with_reducible exact hbl9 | with_reducible exact hbl8 | with_reducible exact hbl7 | with_reducible exact hbl6 | with_reducible exact hbl5 | with_reducible exact hbl4 | with_reducible exact hbl3 | with_reducible exact hbl2 | with_reducible exact hbl1 | with_reducible exact Below.refl _ _ | with_reducible refine Below.new ?_ _ | with_reducible refine Below.drew ?_) hb19; have hs19 := HS.out w19 hbl19)
            | (have hq18 := hbl17; go_at_call 23; refine (vMinus_calls ⟨_, _, rfl, HP.out.2.2.1.below (by repeat' first | with_reducible exact hbl17 | with_reducible exact hbl16 | with_reducible exact hbl15 | with_reducible exact hbl14 | with_reducible exact hbl13 | with_reducible exact hbl12 | with_reducible exact hbl11 | with_reducible exact hbl10 | with_reducible exact hbl9 | with_reducible exact hbl8 | with_reducible exact hbl7 | with_reducible exact hbl6 | with_reducible exact hbl5 | with_reducible exact hbl4 | with_reducible exact hbl3 | with_reducible exact hbl2 | with_reducible exact hbl1 | with_reducible exact Below.refl _ _ | with_reducible refine Below.new ?_ _ | with_reducible refine Below.drew ?_), HP.out.2.2.2.1.below (by repeat' first | with_reducible exact hbl17 | with_reducible exact hbl16 | with_reducible exact hbl15 | with_reducible exact hbl14 | with_reducible exact hbl13 | with_reducible exact hbl12 | with_reducible exact hbl11 | with_reducible exact hbl10 | with_reducible exact hbl9 | with_reducible exact hbl8 | with_reducible exact hbl7 | with_reducible exact hbl6 | with_reducible exact hbl5 | with_reducible exact hbl4 | with_reducible exact hbl3 | with_reducible exact hbl2 | with_reducible exact hbl1 | with_reducible exact Below.refl _ _ | with_reducible refine Below.new ?_ _ | with_reducible refine Below.drew ?_)⟩ ⟨_, _, rfl, HP.out.1.below (by repeat' first | with_reducible exact hbl17 | with_reducible exact hbl16 | with_reducible exact hbl15 | with_reducible exact hbl14 | with_reducible exact hbl13 | with_reducible exact hbl12 | with_reducible exact hbl11 | with_reducible exact hbl10 | with_reducible exact hbl9 | with_reducible exact hbl8 | with_reducible exact hbl7 | with_reducible exact hbl6 | with_reducible exact hbl5 | with_reducible exact hbl4 | with_reducible exact hbl3 | with_reducible exact hbl2 | with_reducible exact hbl1 | with_reducible exact Below.refl _ _ | with_reducible refine Below.new ?_ _ | with_reducible refine Below.drew ?_), HP.out.2.1.below (by repeat' first | with_reducible exact hbl17 | with_reducible exact hbl16 | with_reducible exact hbl15 | with_reducible exact hbl14 | with_reducible exact hbl13 | with_reducible exact hbl12 | with_reducible exact hbl11 | with_reducible exact hbl10 | with_reducible exact hbl9 | with_reducible exact hbl8 | with_reducible exact hbl7 | with_reducible exact hbl6 | with_reducible exact hbl5 | with_reducible exact hbl4 | with_reducible exact hbl3 | with_reducible exact hbl2 | with_reducible exact hbl1 | with_reducible exact Below.refl _ _ | with_reducible refine Below.new ?_ _ | with_reducible refine Below.drew ?_)⟩ (Gbx.out.add ((Gcx.out.sub Gbx.out).mul qs_halfQ)) (Gbz.out.add ((Gcz.out.sub Gbz.out).mul qs_halfQ)) (Gax.out.add ((Gbx.out.sub Gax.out).mul qs_halfQ)) (Gaz.out.add ((Gbz.out.sub Gaz.out).mul qs_halfQ)) (by decide)).mono ?_; rintro e w18 ⟨hb18, _, rfl, _, _, rfl, ⟨g18x, rfl, hv18x⟩, ⟨g18z, rfl, hv18z⟩⟩; have hbl18 : Below wc.heap.size wc w18 := bel_bel (by repeat' first | with_reducible exact hbl17 | with_reducible exact hbl16 | with_reducible exact hbl15 | with_reducible exact hbl14 | with_reducible exact hbl13 | with_reducible exact hbl12 | with_reducible exact hbl11 | with_reducible exact hbl10 | with_reducible exact hbl9 | with_reducible exact hbl8 | with_reducible exact hbl7 | with_reducible exact hbl6 | with_reducible exact hbl5 | with_reducible exact hbl4 | with_reducible exact hbl3 | with_reducible exact hbl2 | with_reducible exact hbl1 | with_reducible exact Below.refl _ _ | with_reducible refine Below.new ?_ _ | with_reducible refine Below.drew ?_) hb18; have hs18 := HS.out w18 hbl18)
            | (go_at_call 11; refine (pointed_calls _ (HT.out.below (by repeat' first | with_reducible exact hbl16 | with_reducible exact hbl15 | with_reducible exact hbl14 | with_reducible exact hbl13 | with_reducible exact hbl12 | with_reducible exact hbl11 | with_reducible exact hbl10 | with_reducible exact hbl9 | with_reducible exact hbl8 | with_reducible exact hbl7 | with_reducible exact hbl6 | with_reducible exact hbl5 | with_reducible exact hbl4 | with_reducible exact hbl3 | with_reducible exact hbl2 | with_reducible exact hbl1 | with_reducible exact Below.refl _ _ | with_reducible refine Below.new ?_ _ | with_reducible refine Below.drew ?_))).mono ?_; rintro e w17 ⟨hb17, rfl⟩; have hbl17 : Below wc.heap.size wc w17 := bel_bel (by repeat' first | with_reducible exact hbl16 | with_reducible exact hbl15 | with_reducible exact hbl14 | with_reducible exact hbl13 | with_reducible exact hbl12 | with_reducible exact hbl11 | with_reducible exact hbl10 | with_reducible exact hbl9 | with_reducible exact hbl8 | with_reducible exact hbl7 | with_reducible exact hbl6 | with_reducible exact hbl5 | with_reducible exact hbl4 | with_reducible exact hbl3 | with_reducible exact hbl2 | with_reducible exact hbl1 | with_reducible exact Below.refl _ _ | with_reducible refine Below.new ?_ _ | with_reducible refine Below.drew ?_) hb17; have hs17 := HS.out w17 hbl17)
            )
        all_goals
          go_wp2
          go_ret
          exact ⟨bel_bel HBC.out hbl23, by first | rfl | simp⟩
end Go.Proofs.YtpalknbmejachaaGreatDoor
