/- Part 16 of the walks of the packages num, way, ruler, line and plane, and of the mathematics under them: RegInv RBX RBY WMI RS. -/
import Derived.Deep.RegionHeld3
import Derived.Test.YtpalknbmejachaaGreatDoorA14
import Derived.Test.YtpalknbmejachaaGreatDoorA15
/- A region that draws its order of evaluation, by an invariant: each operation is run once, whatever the order. -/
namespace Cx
open Go

/-- The state a0 in which the operations from number i on have left what τ says. -/
def putAll (a0 : Act) (τ : Nat → Value) : Nat → List Oper → Act
  | _, [] => a0
  | i, o :: os => putAll (a0.put o.dst (τ i)) τ (i + 1) os

def updOp (τ : Nat → Value) (i : Nat) (v : Value) : Nat → Value := fun j => if j = i then v else τ j
theorem updOp_at (τ : Nat → Value) (i : Nat) (v : Value) : updOp τ i v i = v := if_pos rfl
theorem updOp_ne (τ : Nat → Value) {i j : Nat} (v : Value) (h : j ≠ i) : updOp τ i v j = τ j := if_neg h

theorem putAll_upd_lt (τ : Nat → Value) (v : Value) (k : Nat) : ∀ (os : List Oper) (a0 : Act) (i : Nat), k < i → putAll a0 (updOp τ k v) i os = putAll a0 τ i os
  | [], _, _, _ => rfl
  | o :: os, a0, i, h => by
    show putAll (a0.put o.dst (updOp τ k v i)) _ (i + 1) os = _
    rw [updOp_ne τ v (by omega : i ≠ k), putAll_upd_lt τ v k os _ (i + 1) (by omega)]
    rfl

theorem put_same (a : Act) (d : Option Tmp) (u v : Value) : (a.put d u).put d v = a.put d v := by
  cases d with
  | none => rfl
  | some d => simp [Act.put]

theorem put_swap (a : Act) {d e : Option Tmp} (u v : Value) (h : ∀ x, d = some x → e ≠ some x) : (a.put d u).put e v = (a.put e v).put d u := by
  cases d with
  | none => rfl
  | some d =>
    cases e with
    | none => rfl
    | some e =>
      have hne : d ≠ e := fun q => h d rfl (by rw [q])
      simp only [Act.put]
      rw [Array.setIfInBounds_comm _ _ hne]

theorem putAll_put (τ : Nat → Value) (d : Option Tmp) (v : Value) : ∀ (os : List Oper) (b : Act) (i : Nat), (∀ x, d = some x → x ∉ os.filterMap (·.dst)) → (putAll b τ i os).put d v = putAll (b.put d v) τ i os
  | [], _, _, _ => rfl
  | o :: os, b, i, h => by
    show (putAll (b.put o.dst (τ i)) τ (i + 1) os).put d v = putAll ((b.put d v).put o.dst (τ i)) τ (i + 1) os
    rw [putAll_put τ d v os _ (i + 1) (fun x hx hm => h x hx (by
      cases ho : o.dst with
      | none => rw [List.filterMap_cons_none ho]; exact hm
      | some y => rw [List.filterMap_cons_some ho]; exact List.mem_cons_of_mem _ hm))]
    rw [put_swap]
    intro x hx hd
    refine h x hd ?_
    rw [List.filterMap_cons_some hx]
    exact List.mem_cons_self

theorem putAll_upd (τ : Nat → Value) (v : Value) : ∀ (os : List Oper) (a0 : Act) (i k : Nat) (o : Oper), (os.filterMap (·.dst)).Nodup → os[k]? = some o →
    (putAll a0 τ i os).put o.dst v = putAll a0 (updOp τ (i + k) v) i os
  | [], _, _, _, _, _, h => by simp at h
  | p :: os, a0, i, 0, o, hn, h => by
    have e : p = o := by simpa using h
    subst e
    show (putAll (a0.put p.dst (τ i)) τ (i + 1) os).put p.dst v = putAll (a0.put p.dst (updOp τ i v i)) (updOp τ i v) (i + 1) os
    have hnot : ∀ x, p.dst = some x → x ∉ os.filterMap (·.dst) := fun x hx => by
      rw [List.filterMap_cons_some hx] at hn
      exact (List.nodup_cons.1 hn).1
    rw [putAll_put τ _ v os _ _ hnot, put_same, updOp_at, putAll_upd_lt τ v i os _ (i + 1) (by omega)]
  | p :: os, a0, i, k + 1, o, hn, h => by
    have h' : os[k]? = some o := by simpa using h
    have hn' : (os.filterMap (·.dst)).Nodup := by
      cases hp : p.dst with
      | none => rwa [List.filterMap_cons_none hp] at hn
      | some y => rw [List.filterMap_cons_some hp] at hn; exact (List.nodup_cons.1 hn).2
    show (putAll (a0.put p.dst (τ i)) τ (i + 1) os).put o.dst v = putAll (a0.put p.dst (updOp τ (i + (k + 1)) v i)) (updOp τ (i + (k + 1)) v) (i + 1) os
    rw [putAll_upd τ v os _ (i + 1) k o hn' h', updOp_ne τ v (by omega : i ≠ i + (k + 1))]
    rw [show i + 1 + k = i + (k + 1) by omega]

/-- What stands in the state ahead of the region. -/
def beforeOps (a0 : Act) (os : List Oper) : Nat → Value := fun j => match (os[j]?).bind (·.dst) with
  | some d => a0.tmps.getD d undef
  | none => undef

theorem put_self (a : Act) (d : Tmp) : a.put (some d) (a.tmps.getD d undef) = a := by
  show { a with tmps := a.tmps.setIfInBounds d (a.tmps.getD d undef) } = a
  have : a.tmps.setIfInBounds d (a.tmps.getD d undef) = a.tmps := by
    apply Array.ext
    · simp
    · intro i h1 h2
      by_cases hi : d = i
      · subst hi
        simp [Array.getD, h2]
      · rw [Array.getElem_setIfInBounds_ne h2 hi]
  rw [this]

theorem putAll_before (a0 : Act) (all : List Oper) : ∀ (os : List Oper) (i : Nat), (∀ k, os[k]? = all[i + k]?) → putAll a0 (beforeOps a0 all) i os = a0
  | [], _, _ => rfl
  | o :: os, i, h => by
    show putAll (a0.put o.dst (beforeOps a0 all i)) _ (i + 1) os = a0
    have h0 : some o = all[i]? := by simpa using h 0
    have e : a0.put o.dst (beforeOps a0 all i) = a0 := by
      unfold beforeOps
      rw [← h0]
      cases hd : o.dst with
      | none => rfl
      | some d => simpa [hd] using put_self a0 d
    rw [e]
    exact putAll_before a0 all os (i + 1) (fun k => by have := h (k + 1); simp at this; rw [this]; congr 1; omega)

section
variable (P : Program) (Q : Exit → Act → World → Prop) (all : List Oper) (a0 : Act) (Inv : (Nat → Prop) → (Nat → Value) → World → Prop)

/-- Operation number i, o, run in any state that meets the invariant in which what it waits for is done. -/
def OpStep (i : Nat) (o : Oper) : Prop :=
  ∀ (d : Nat → Prop) (τ : Nat → Value) (w : World), (∀ e ∈ o.after, Region.binds .any e = true → d e.on) → ¬ d i → Inv d τ w →
    ∀ K : Act → World → Prop, Shut (∀ v w', Inv (fun j => j = i ∨ d j) (updOp τ i v) w' → K ((putAll a0 τ 0 all).put o.dst v) w') →
      if Region.wanted o (yielded all.toArray (putAll a0 τ 0 all).tmps) = true then Oper.wp P o (putAll a0 τ 0 all) w K Q else K ((putAll a0 τ 0 all).put o.dst undef) w

def OpSteps : Nat → List Oper → Prop
  | _, [] => True
  | i, o :: os => OpStep P Q all a0 Inv i o ∧ OpSteps (i + 1) os
end

theorem OpSteps.get {P : Program} {Q : Exit → Act → World → Prop} {all : List Oper} {a0 : Act} {Inv : (Nat → Prop) → (Nat → Value) → World → Prop} : ∀ {os : List Oper} {i k : Nat} {o : Oper}, OpSteps P Q all a0 Inv i os → os[k]? = some o → OpStep P Q all a0 Inv (i + k) o
  | [], _, _, _, _, h => by simp at h
  | p :: os, i, 0, o, hs, h => by
    have e : p = o := by simpa using h
    subst e
    exact hs.1
  | p :: os, i, k + 1, o, hs, h => by
    have h' : os[k]? = some o := by simpa using h
    have := OpSteps.get hs.2 h'
    rwa [show i + 1 + k = i + (k + 1) by omega] at this

theorem OpSteps.nil {P : Program} {Q : Exit → Act → World → Prop} {all : List Oper} {a0 : Act} {Inv : (Nat → Prop) → (Nat → Value) → World → Prop} {i : Nat} : OpSteps P Q all a0 Inv i [] := trivial
theorem OpSteps.cons {P : Program} {Q : Exit → Act → World → Prop} {all : List Oper} {a0 : Act} {Inv : (Nat → Prop) → (Nat → Value) → World → Prop} {i : Nat} {o : Oper} {os : List Oper} (h : OpStep P Q all a0 Inv i o) (hs : OpSteps P Q all a0 Inv (i + 1) os) : OpSteps P Q all a0 Inv i (o :: os) := ⟨h, hs⟩

/-- What is kept: of another operation, of this one. -/
theorem fact_old {d : Nat → Prop} {τ : Nat → Value} {w w' : World} {v : Value} {i j : Nat} {F : Value → World → Prop} (hne : j ≠ i) (h : d j → F (τ j) w) (k : F (τ j) w → F (τ j) w') : (j = i ∨ d j) → F (updOp τ i v j) w' := fun hh => by
  rw [updOp_ne τ v hne]
  exact k (h (hh.resolve_left hne))
theorem fact_new {d : Nat → Prop} {τ : Nat → Value} {w' : World} {v : Value} {i : Nat} {F : Value → World → Prop} (h : F v w') : (i = i ∨ d i) → F (updOp τ i v i) w' := fun _ => by
  rw [updOp_at]
  exact h

/-- Each operation waits for earlier ones alone. -/
def topoOps : Nat → List Oper → Bool
  | _, [] => true
  | i, o :: os => o.after.all (fun e => !Region.binds .any e || decide (e.on < i)) && topoOps (i + 1) os

theorem topoOps.get : ∀ {os : List Oper} {i k : Nat} {o : Oper}, topoOps i os = true → os[k]? = some o → ∀ e ∈ o.after, Region.binds .any e = true → e.on < i + k
  | [], _, _, _, _, h => by simp at h
  | p :: os, i, 0, o, ht, h => by
    have e : p = o := by simpa using h
    subst e
    simp only [topoOps, Bool.and_eq_true, Array.all_eq_true_iff_forall_mem, Bool.or_eq_true, Bool.not_eq_true', decide_eq_true_eq] at ht
    intro e he hb
    rcases ht.1 e he with h | h
    · rw [hb] at h; cases h
    · exact h
  | p :: os, i, k + 1, o, ht, h => by
    have h' : os[k]? = some o := by simpa using h
    simp only [topoOps, Bool.and_eq_true] at ht
    have := topoOps.get ht.2 h'
    intro e he hb
    have := this e he hb
    omega

theorem all_listed {os : List Oper} (ht : topoOps 0 os = true) {l : Array Bool} (hl : l.size = os.length) (hr : Region.ready .any os.toArray l = []) : ∀ j, j < os.length → l.getD j false = true := by
  intro j
  induction j using Nat.strongRecOn with
  | ind j ih =>
    intro hj
    have hlj : j < l.size := by omega
    by_cases h : l.getD j false = true
    · exact h
    · exfalso
      obtain ⟨o, ho⟩ : ∃ o, os[j]? = some o := ⟨os[j], by simp [hj]⟩
      have hm : j ∈ Region.ready .any os.toArray l := mem_ready.2 ⟨by
        have : l.getD j false = false := by simpa using h
        simpa [Array.getD, hlj] using this, o, by simpa using ho, fun e he hb => ih e.on (by have := topoOps.get ht ho e he hb; omega) (by have := topoOps.get ht ho e he hb; omega)⟩
      rw [hr] at hm
      cases hm

theorem wpAny_inv {P : Program} {Q : Exit → Act → World → Prop} {os : List Oper} {a0 : Act} {Inv : (Nat → Prop) → (Nat → Value) → World → Prop}
    (hn : (os.filterMap (·.dst)).Nodup) (ht : topoOps 0 os = true) (hs : OpSteps P Q os a0 Inv 0 os)
    (hd : ∀ d τ w, (∀ j, j < os.length → d j) → Inv d τ w → Q .normal (putAll a0 τ 0 os) w) :
    ∀ (fuel : Nat) (l : Array Bool) (τ : Nat → Value) (w : World), l.size = os.length → (List.range os.length).countP (fun i => !l.getD i true) ≤ fuel → Inv (fun j => l.getD j false = true) τ w →
      wpAny P .any os.toArray Q fuel l (putAll a0 τ 0 os) w := by
  intro fuel
  induction fuel with
  | zero =>
    intro l τ w hl hc hI
    have hr : Region.ready .any os.toArray l = [] := by
      rw [List.eq_nil_iff_forall_not_mem]
      intro j hj
      obtain ⟨h1, o, ho, _⟩ := mem_ready.1 hj
      have hj' : j < os.length := by
        have := (Array.getElem?_eq_some_iff.1 ho).1
        simpa using this
      have hp : 0 < (List.range os.length).countP (fun i => !l.getD i true) := List.countP_pos_iff.2 ⟨j, List.mem_range.2 hj', by simp only [h1]; rfl⟩
      omega
    exact ⟨hr, hd _ τ w (all_listed ht hl hr) hI⟩
  | succ fuel ih =>
    intro l τ w hl hc hI
    refine ⟨fun hr => hd _ τ w (all_listed ht hl hr) hI, fun i hi => ?_⟩
    obtain ⟨h1, o, ho, haft⟩ := mem_ready.1 hi
    have hi' : i < os.length := by
      have := (Array.getElem?_eq_some_iff.1 ho).1
      simpa using this
    have ho' : os[i]? = some o := by simpa using ho
    have hst := OpSteps.get hs ho'
    rw [Nat.zero_add] at hst
    refine wpOp_step ho (fun K hK => hst _ τ w haft (fun hc => by
      have hlt : i < l.size := by omega
      simp [Array.getD, hlt] at h1 hc
      rw [h1] at hc
      cases hc) hI K (fun v w' hI' => hK _ _ ?_))
    rw [putAll_upd τ v os a0 0 i o hn ho', Nat.zero_add]
    have hset : (fun j => (l.setIfInBounds i true).getD j false = true) = (fun j => j = i ∨ l.getD j false = true) := by
      funext j
      apply propext
      by_cases hij : i = j
      · subst hij
        have : i < l.size := by omega
        simp [Array.getD, this]
      · rw [getD_set_ne false hij]
        constructor
        · exact Or.inr
        · rintro (h | h)
          · exact absurd h.symm hij
          · exact h
    refine ih (l.setIfInBounds i true) (updOp τ i v) w' (by simpa using hl) ?_ (by rw [hset]; exact hI')
    have hlt : (List.range os.length).countP (fun j => !(l.setIfInBounds i true).getD j true) < (List.range os.length).countP (fun j => !l.getD j true) := by
      have hsplit := List.mem_range.2 hi'
      obtain ⟨s, t, e⟩ := List.append_of_mem hsplit
      have hnd : (List.range os.length).Nodup := List.nodup_range
      rw [e] at hnd ⊢
      have hmono : ∀ (u : List Nat), i ∉ u → u.countP (fun j => !(l.setIfInBounds i true).getD j true) = u.countP (fun j => !l.getD j true) := by
        intro u hu
        apply List.countP_congr
        intro x hx
        have hne : i ≠ x := fun q => hu (q ▸ hx)
        rw [getD_set_ne true hne]
      have hsn : i ∉ s := fun h => by
        have := List.nodup_append.1 hnd
        exact this.2.2 i h i List.mem_cons_self rfl
      have htn : i ∉ t := (List.nodup_cons.1 (List.nodup_append.1 hnd).2.1).1
      rw [List.countP_append, List.countP_append, hmono s hsn, List.countP_cons, List.countP_cons, hmono t htn]
      have h2 : (l.setIfInBounds i true).getD i true = true := by
        have : i < l.size := by omega
        simp [Array.getD, this]
      rw [h2, h1]
      simp
    omega

/-- A region that draws its order, by an invariant. -/
theorem region_inv {P : Program} {Q : Exit → Act → World → Prop} {os : List Oper} {a0 : Act} {w0 : World} {id : Nat} (Inv : (Nat → Prop) → (Nat → Value) → World → Prop)
    (hm : P.follows .mixedOrders = true) (hn : (os.filterMap (·.dst)).Nodup) (ht : topoOps 0 os = true)
    (h0 : ∀ τ, Inv (fun _ => False) τ w0.drew) (hs : OpSteps P Q os a0 Inv 0 os)
    (hd : ∀ d τ w, (∀ j, j < os.length → d j) → Inv d τ w → Q .normal (putAll a0 τ 0 os) w) :
    (Code.region id os.toArray true).wp P Q a0 w0 := by
  refine wp_region_any hm ?_
  have := wpAny_inv hn ht hs hd os.length (Array.replicate os.length false) (beforeOps a0 os) w0.drew (by simp) (by
    have := List.countP_le_length (p := fun i => !(Array.replicate os.length false).getD i true) (l := List.range os.length)
    simpa using this) (by
    have e : (fun j => (Array.replicate os.length false).getD j false = true) = (fun _ : Nat => False) := by
      funext j
      apply propext
      by_cases h : j < os.length <;> simp [Array.getD, h]
    rw [e]
    exact h0 _)
  rw [putAll_before a0 os os 0 (fun k => by rw [Nat.zero_add])] at this
  rw [show os.toArray.size = os.length by simp]
  exact this
end Cx
/- Boxes of points that a region makes, in whatever order. -/
namespace Go.Proofs.YtpalknbmejachaaGreatDoor
open Go.RowKit Cx

/-- A pointer to a block that is there, made behind the world W. -/
def Pb (W : World) (v : Value) (w : World) : Prop := ∃ G, v = .pointer (some ⟨G, 0, none⟩) ∧ W.heap.size ≤ G ∧ G < w.heap.size
/-- A pointer to a box of nothing yet. -/
def Zb (W : World) (v : Value) (w : World) : Prop := ∃ G, v = .pointer (some ⟨G, 0, none⟩) ∧ W.heap.size ≤ G ∧ Blk w G #[.pointer none, .pointer none] 30
/-- A pointer to a box of the point (x, y). -/
def Vb (W : World) (x y : Rat) (v : Value) (w : World) : Prop := ∃ G p q, v = .pointer (some ⟨G, 0, none⟩) ∧ W.heap.size ≤ G ∧ Blk w G #[p, q] 30 ∧ PR w p x ∧ PR w q y
/-- The value is X. -/
def Is (X : Value) (v : Value) (_ : World) : Prop := v = X
/-- The value is the point (x, y). -/
def Vv (x y : Rat) (v : Value) (w : World) : Prop := VV w v x y

theorem Pb.below {W w w' : World} {v : Value} (h : Pb W v w) (hb : Below w.heap.size w w') : Pb W v w' := by
  obtain ⟨G, e, h1, h2⟩ := h
  exact ⟨G, e, h1, Nat.lt_of_lt_of_le h2 hb.size⟩
theorem Zb.below {W w w' : World} {v : Value} (h : Zb W v w) (hb : Below w.heap.size w w') : Zb W v w' := by
  obtain ⟨G, e, h1, h2⟩ := h
  exact ⟨G, e, h1, h2.below hb h2.lt⟩
theorem Vb.below {W w w' : World} {x y : Rat} {v : Value} (h : Vb W x y v w) (hb : Below w.heap.size w w') : Vb W x y v w' := by
  obtain ⟨G, p, q, e, h1, h2, h3, h4⟩ := h
  exact ⟨G, p, q, e, h1, h2.below hb h2.lt, h3.below hb, h4.below hb⟩
theorem Vv.below {w w' : World} {x y : Rat} {v : Value} (h : Vv x y v w) (hb : Below w.heap.size w w') : Vv x y v w' := VV.below h hb
theorem Is.below {w w' : World} {X v : Value} (h : Is X v w) (_ : Below w.heap.size w w') : Is X v w' := h

theorem PR.put {w : World} {G : Nat} {v a b : Value} {x : Rat} (h : PR w v x) (hz : Blk w G #[.pointer none, .pointer none] 30) : PR ((w.setCell ⟨G, 0, none⟩ a).setCell ⟨G, 1, none⟩ b) v x := by
  obtain ⟨g, e, h⟩ := h
  exact ⟨g, e, h.put2 hz rfl rfl a b⟩
theorem Is.put {w : World} {G : Nat} {X v a b : Value} (h : Is X v w) : Is X v ((w.setCell ⟨G, 0, none⟩ a).setCell ⟨G, 1, none⟩ b) := h
theorem Vv.put {w : World} {G : Nat} {v a b : Value} {x y : Rat} (h : Vv x y v w) (hz : Blk w G #[.pointer none, .pointer none] 30) : Vv x y v ((w.setCell ⟨G, 0, none⟩ a).setCell ⟨G, 1, none⟩ b) := by
  obtain ⟨p, q, e, h1, h2⟩ := h
  exact ⟨p, q, e, h1.put hz, h2.put hz⟩
theorem Pb.put {W w : World} {G : Nat} {v a b : Value} (h : Pb W v w) : Pb W v ((w.setCell ⟨G, 0, none⟩ a).setCell ⟨G, 1, none⟩ b) := by
  obtain ⟨G', e, h1, h2⟩ := h
  exact ⟨G', e, h1, by simpa [World.setCell] using h2⟩
theorem ptr_ne {G G' : Nat} (h : ¬ ((.pointer (some ⟨G, 0, none⟩) : Value) = .pointer (some ⟨G', 0, none⟩))) : G' ≠ G := fun e => h (by rw [e])
theorem Zb.put {W w : World} {G : Nat} {v a b : Value} (h : Zb W v w) (hne : ¬ (.pointer (some ⟨G, 0, none⟩) = v)) : Zb W v ((w.setCell ⟨G, 0, none⟩ a).setCell ⟨G, 1, none⟩ b) := by
  obtain ⟨G', rfl, h1, h2⟩ := h
  exact ⟨G', rfl, h1, h2.off2 (Ne.symm (ptr_ne hne)) a b⟩
theorem Vb.put {W w : World} {G : Nat} {x y : Rat} {v a b : Value} (h : Vb W x y v w) (hz : Blk w G #[.pointer none, .pointer none] 30) (hne : ¬ (.pointer (some ⟨G, 0, none⟩) = v)) : Vb W x y v ((w.setCell ⟨G, 0, none⟩ a).setCell ⟨G, 1, none⟩ b) := by
  obtain ⟨G', p, q, rfl, h1, h2, h3, h4⟩ := h
  exact ⟨G', p, q, rfl, h1, h2.off2 (Ne.symm (ptr_ne hne)) a b, h3.put hz, h4.put hz⟩
theorem Vb.mk {W w : World} {G : Nat} {x y : Rat} {a b : Value} (hG : W.heap.size ≤ G) (hz : Blk w G #[.pointer none, .pointer none] 30) (ha : PR w a x) (hb : PR w b y) : Vb W x y (.pointer (some ⟨G, 0, none⟩)) ((w.setCell ⟨G, 0, none⟩ a).setCell ⟨G, 1, none⟩ b) :=
  ⟨G, a, b, rfl, hG, hz.put2 a b, ha.put hz, hb.put hz⟩
theorem Zb.new {W w : World} (h : Below W.heap.size W w) : Zb W (.pointer (some ⟨w.heap.size, 0, none⟩)) (w.alloc (.cells #[.pointer none, .pointer none] 30)) := ⟨_, rfl, h.size, Blk.new _ _ _⟩
theorem Pb.new {W w : World} {o : Obj} (h : Below W.heap.size W w) : Pb W (.pointer (some ⟨w.heap.size, 0, none⟩)) (w.alloc o) := ⟨_, rfl, h.size, by simp⟩

theorem Zb.use {W w : World} {v : Value} {Goal : Prop} (h : Zb W v w) (k : ∀ G, v = .pointer (some ⟨G, 0, none⟩) → W.heap.size ≤ G → Blk w G #[.pointer none, .pointer none] 30 → Goal) : Goal := by
  obtain ⟨G, e, h1, h2⟩ := h
  exact k G e h1 h2
theorem Vb.use {W w : World} {x y : Rat} {v : Value} {Goal : Prop} (h : Vb W x y v w) (k : ∀ G p q, v = .pointer (some ⟨G, 0, none⟩) → W.heap.size ≤ G → Blk w G #[p, q] 30 → PR w p x → PR w q y → Goal) : Goal := by
  obtain ⟨G, p, q, e, h1, h2, h3, h4⟩ := h
  exact k G p q e h1 h2 h3 h4
theorem Vv.use {w : World} {x y : Rat} {v : Value} {Goal : Prop} (h : Vv x y v w) (k : ∀ p q, v = .agg #[p, q] → PR w p x → PR w q y → Goal) : Goal := by
  obtain ⟨p, q, e, h1, h2⟩ := h
  exact k p q e h1 h2

theorem fact_absurd {d : Nat → Prop} {τ : Nat → Value} {w' : World} {v : Value} {i s : Nat} {F : Value → World → Prop} (hs : s ≠ i) (h : d s → d i) (hn : ¬ d i) : (s = i ∨ d s) → F (updOp τ i v i) w' := fun q => absurd (h (q.resolve_left hs)) hn
theorem imp_old {d : Nat → Prop} {i j s : Nat} (hs : s ≠ i) (h : d s → d j) : (s = i ∨ d s) → (j = i ∨ d j) := fun q => Or.inr (h (q.resolve_left hs))
theorem fact_two {d : Nat → Prop} {τ : Nat → Value} {w w' : World} {v : Value} {i j s : Nat} {F : Value → World → Prop} (hs : s ≠ i) (hne : j ≠ i) (h : d s → F (τ j) w) (k : F (τ j) w → F (τ j) w') : (s = i ∨ d s) → F (updOp τ i v j) w' := fun hh => by
  rw [updOp_ne τ v hne]
  exact k (h (hh.resolve_left hs))
theorem fact_did {d : Nat → Prop} {τ : Nat → Value} {w' : World} {v : Value} {i j : Nat} {F : Value → World → Prop} (hne : j ≠ i) (h : F (τ j) w') : (i = i ∨ d i) → F (updOp τ i v j) w' := fun _ => by
  rw [updOp_ne τ v hne]
  exact h
theorem fact_zero {d : Nat → Prop} {τ : Nat → Value} {w w' : World} {v : Value} {i j s : Nat} {F : Value → World → Prop} (hne : j ≠ i) (h : d j → ¬ d s → F (τ j) w) (k : F (τ j) w → F (τ j) w') : (j = i ∨ d j) → ¬ (s = i ∨ d s) → F (updOp τ i v j) w' := fun hh hs => by
  rw [updOp_ne τ v hne]
  exact k (h (hh.resolve_left hne) (fun q => hs (Or.inr q)))
theorem fact_zero_new {d : Nat → Prop} {τ : Nat → Value} {w' : World} {v : Value} {i s : Nat} {F : Value → World → Prop} (h : F v w') : (i = i ∨ d i) → ¬ (s = i ∨ d s) → F (updOp τ i v i) w' := fun _ _ => by
  rw [updOp_at]
  exact h
theorem fact_zero_did {d : Nat → Prop} {τ : Nat → Value} {w' : World} {v : Value} {i j : Nat} {F : Value → World → Prop} : (j = i ∨ d j) → ¬ (i = i ∨ d i) → F (updOp τ i v j) w' := fun _ h => absurd (Or.inl rfl) h
theorem ne_old {d : Nat → Prop} {τ : Nat → Value} {v : Value} {i j s : Nat} (hj : j ≠ i) (hs : s ≠ i) (h : d j → d s → ¬ τ j = τ s) : (j = i ∨ d j) → (s = i ∨ d s) → ¬ updOp τ i v j = updOp τ i v s := fun a b => by
  rw [updOp_ne τ v hj, updOp_ne τ v hs]
  exact h (a.resolve_left hj) (b.resolve_left hs)
theorem ne_new {d : Nat → Prop} {τ : Nat → Value} {W w : World} {i s : Nat} (hs : s ≠ i) (h : d s → Pb W (τ s) w) : (i = i ∨ d i) → (s = i ∨ d s) → ¬ updOp τ i (.pointer (some ⟨w.heap.size, 0, none⟩)) i = updOp τ i (.pointer (some ⟨w.heap.size, 0, none⟩)) s := fun _ b e => by
  rw [updOp_at, updOp_ne τ _ hs] at e
  obtain ⟨G, e', _, hlt⟩ := h (b.resolve_left hs)
  rw [e'] at e
  simp at e
  all_goals omega
theorem ne_new' {d : Nat → Prop} {τ : Nat → Value} {W w : World} {i s : Nat} (hs : s ≠ i) (h : d s → Pb W (τ s) w) : (s = i ∨ d s) → (i = i ∨ d i) → ¬ updOp τ i (.pointer (some ⟨w.heap.size, 0, none⟩)) s = updOp τ i (.pointer (some ⟨w.heap.size, 0, none⟩)) i := fun b a e => ne_new hs h a b e.symm
end Go.Proofs.YtpalknbmejachaaGreatDoor
/- Boxes of texts that a region makes, in whatever order. -/
namespace Go.Proofs.YtpalknbmejachaaGreatDoor
open Go.RowKit Cx

/-- A pointer to a box of two empty texts; of the cells c0 and c1. -/
def Zs (W : World) (v : Value) (w : World) : Prop := ∃ G, v = .pointer (some ⟨G, 0, none⟩) ∧ W.heap.size ≤ G ∧ Blk w G #[.string ⟨#[]⟩, .string ⟨#[]⟩] 24
def Sb (W : World) (c0 c1 : Value) (v : Value) (w : World) : Prop := ∃ G, v = .pointer (some ⟨G, 0, none⟩) ∧ W.heap.size ≤ G ∧ Blk w G #[c0, c1] 24
/-- The value is a pointer to the ratio q. -/
def Rr (q : Rat) (v : Value) (w : World) : Prop := PR w v q
theorem Rr.below {w w' : World} {q : Rat} {v : Value} (h : Rr q v w) (hb : Below w.heap.size w w') : Rr q v w' := PR.below h hb
theorem Zs.below {W w w' : World} {v : Value} (h : Zs W v w) (hb : Below w.heap.size w w') : Zs W v w' := by
  obtain ⟨G, e, h1, h2⟩ := h
  exact ⟨G, e, h1, h2.below hb h2.lt⟩
theorem Sb.below {W w w' : World} {c0 c1 v : Value} (h : Sb W c0 c1 v w) (hb : Below w.heap.size w w') : Sb W c0 c1 v w' := by
  obtain ⟨G, e, h1, h2⟩ := h
  exact ⟨G, e, h1, h2.below hb h2.lt⟩
theorem Rr.put {w : World} {G : Nat} {v a b : Value} {q : Rat} (h : Rr q v w) (hz : Blk w G #[.pointer none, .pointer none] 30) : Rr q v ((w.setCell ⟨G, 0, none⟩ a).setCell ⟨G, 1, none⟩ b) := PR.put h hz
theorem PR.putS {w : World} {G : Nat} {v a b : Value} {x : Rat} (h : PR w v x) (hz : Blk w G #[.string ⟨#[]⟩, .string ⟨#[]⟩] 24) : PR ((w.setCell ⟨G, 0, none⟩ a).setCell ⟨G, 1, none⟩ b) v x := by
  obtain ⟨g, e, h⟩ := h
  exact ⟨g, e, h.put2 hz rfl rfl a b⟩
theorem Rr.putS {w : World} {G : Nat} {v a b : Value} {q : Rat} (h : Rr q v w) (hz : Blk w G #[.string ⟨#[]⟩, .string ⟨#[]⟩] 24) : Rr q v ((w.setCell ⟨G, 0, none⟩ a).setCell ⟨G, 1, none⟩ b) := PR.putS h hz
theorem Vv.putS {w : World} {G : Nat} {v a b : Value} {x y : Rat} (h : Vv x y v w) (hz : Blk w G #[.string ⟨#[]⟩, .string ⟨#[]⟩] 24) : Vv x y v ((w.setCell ⟨G, 0, none⟩ a).setCell ⟨G, 1, none⟩ b) := by
  obtain ⟨p, q, e, h1, h2⟩ := h
  exact ⟨p, q, e, h1.putS hz, h2.putS hz⟩
theorem Vb.putS {W w : World} {G : Nat} {x y : Rat} {v a b : Value} (h : Vb W x y v w) (hz : Blk w G #[.string ⟨#[]⟩, .string ⟨#[]⟩] 24) (hne : ¬ (.pointer (some ⟨G, 0, none⟩) = v)) : Vb W x y v ((w.setCell ⟨G, 0, none⟩ a).setCell ⟨G, 1, none⟩ b) := by
  obtain ⟨G', p, q, rfl, h1, h2, h3, h4⟩ := h
  exact ⟨G', p, q, rfl, h1, h2.off2 (Ne.symm (ptr_ne hne)) a b, h3.putS hz, h4.putS hz⟩
theorem Zs.put {W w : World} {G : Nat} {v a b : Value} (h : Zs W v w) (hne : ¬ (.pointer (some ⟨G, 0, none⟩) = v)) : Zs W v ((w.setCell ⟨G, 0, none⟩ a).setCell ⟨G, 1, none⟩ b) := by
  obtain ⟨G', rfl, h1, h2⟩ := h
  exact ⟨G', rfl, h1, h2.off2 (Ne.symm (ptr_ne hne)) a b⟩
theorem Sb.put {W w : World} {G : Nat} {c0 c1 v a b : Value} (h : Sb W c0 c1 v w) (hne : ¬ (.pointer (some ⟨G, 0, none⟩) = v)) : Sb W c0 c1 v ((w.setCell ⟨G, 0, none⟩ a).setCell ⟨G, 1, none⟩ b) := by
  obtain ⟨G', rfl, h1, h2⟩ := h
  exact ⟨G', rfl, h1, h2.off2 (Ne.symm (ptr_ne hne)) a b⟩
theorem Sb.mk {W w : World} {G : Nat} {a b : Value} (hG : W.heap.size ≤ G) (hz : Blk w G #[.string ⟨#[]⟩, .string ⟨#[]⟩] 24) : Sb W a b (.pointer (some ⟨G, 0, none⟩)) ((w.setCell ⟨G, 0, none⟩ a).setCell ⟨G, 1, none⟩ b) := ⟨G, rfl, hG, hz.put2 a b⟩
theorem Zs.new {W w : World} (h : Below W.heap.size W w) : Zs W (.pointer (some ⟨w.heap.size, 0, none⟩)) (w.alloc (.cells #[.string ⟨#[]⟩, .string ⟨#[]⟩] 24)) := ⟨_, rfl, h.size, Blk.new _ _ _⟩
theorem Sb.use {W w : World} {c0 c1 v : Value} {Goal : Prop} (h : Sb W c0 c1 v w) (k : ∀ G, v = .pointer (some ⟨G, 0, none⟩) → W.heap.size ≤ G → Blk w G #[c0, c1] 24 → Goal) : Goal := by
  obtain ⟨G, e, h1, h2⟩ := h
  exact k G e h1 h2
theorem bel_put2 {a w : World} {G : Nat} (h : Below a.heap.size a w) (hG : a.heap.size ≤ G) (x0 x1 : Value) : Below a.heap.size a ((w.setCell ⟨G, 0, none⟩ x0).setCell ⟨G, 1, none⟩ x1) := Below.put2 h hG x0 x1
theorem pr_new {w : World} {v : Value} {q : Rat} (o : Obj) (h : PR w v q) : PR (w.alloc o) v q := h.below (below_new _ _)
theorem pr_drew {w : World} {v : Value} {q : Rat} (h : PR w v q) : PR w.drew v q := h.below (Below.drew (Below.refl _ _))
theorem pr_bel {w w' : World} {v : Value} {q : Rat} (hb : Below w.heap.size w w') (h : PR w v q) : PR w' v q := h.below hb

end Go.Proofs.YtpalknbmejachaaGreatDoor
/- Walks of package line: Mirror. -/
namespace Go.Proofs.YtpalknbmejachaaGreatDoor
open Go.RowKit Cx

attribute [local go_sem ↓] Go.wp_at_zero Go.wp_at_succ

set_option maxHeartbeats 8000000 in
set_option maxRecDepth 100000 in
theorem mirror_walk {w : World} {la lb lc px py : ByteArray} (s1 : la.data.toList.length ≤ 4294967296) (s2 : lb.data.toList.length ≤ 4294967296) (s3 : lc.data.toList.length ≤ 4294967296) (s4 : px.data.toList.length ≤ 4294967296) (s5 : py.data.toList.length ≤ 4294967296) {k : Nat} (f1 : QS k (rd la.data.toList)) (f2 : QS k (rd lb.data.toList)) (f3 : QS k (rd lc.data.toList)) (f4 : QS k (rd px.data.toList)) (f5 : QS k (rd py.data.toList)) (h8 : 8 ≤ k) (hk : 100 * (k + 1) ≤ 35184372088640) (tab : Tab w) :
    Calls Tryz.prog 34 #[.agg #[.string la, .string lb, .string lc], .agg #[.string px, .string py]] w fun e w' => Below w.heap.size w w' ∧ ∃ (sa sb : ByteArray) (z : Int), e = .returned (.tuple #[.agg #[.string sa, .string sb], .int .i64 z]) ∧ DropAns (rd la.data.toList) (rd lb.data.toList) (rd lc.data.toList) (rd px.data.toList) (rd py.data.toList) ((2 : Nat) : Rat) sa.data.toList sb.data.toList z := by
  obtain ⟨hb0, hk0, hk1, hk2, hsz⟩ := boxes3 w #[.string la, .string lb, .string lc] #[.string px, .string py] #[.string ⟨#[]⟩, .string ⟨#[]⟩] 53 24 24
  have HB0 := hideIt hb0
  have HSZ := hideIt hsz
  have HK0 := hideIt hk0
  have HK1 := hideIt hk1
  have HK2 := hideIt hk2
  have HTAB := hideIt (tab.below hb0)
  have S1 := hideIt s1
  have F1 := hideIt f1
  have S2 := hideIt s2
  have F2 := hideIt f2
  have S3 := hideIt s3
  have F3 := hideIt f3
  have S4 := hideIt s4
  have F4 := hideIt f4
  have S5 := hideIt s5
  have F5 := hideIt f5
  have F6 : Hid (QS k ((2 : Nat) : Rat)) := (⟨by decide, by decide⟩ : QS 8 ((2 : Nat) : Rat)).mono h8
  have HK := hideIt hk
  clear hb0 hsz hk0 hk1 hk2 tab s1 s2 s3 s4 s5 f1 f2 f3 f4 f5 hk
  go_enter Tryz.func34, Tryz.ntmps34
  go_wp2_with fail
  generalize (((w.alloc (.cells #[.string la, .string lb, .string lc] 53)).alloc (.cells #[.string px, .string py] 24)).alloc (.cells #[.string ⟨#[]⟩, .string ⟨#[]⟩] 24)) = W0 at *
  have HS : Hid (∀ w', Below W0.heap.size W0 w' → w'.cell? ⟨w.heap.size, 0, none⟩ = some (.string la) ∧ w'.cell? ⟨w.heap.size, 1, none⟩ = some (.string lb) ∧ w'.cell? ⟨w.heap.size, 2, none⟩ = some (.string lc) ∧ w'.cell? ⟨w.heap.size + 1, 0, none⟩ = some (.string px) ∧ w'.cell? ⟨w.heap.size + 1, 1, none⟩ = some (.string py)) := fun w' hb => ⟨(HK0.out.below hb (by rw [HSZ.out]; omega)).cell 0, (HK0.out.below hb (by rw [HSZ.out]; omega)).cell 1, (HK0.out.below hb (by rw [HSZ.out]; omega)).cell 2, (HK1.out.below hb (by rw [HSZ.out]; omega)).cell 0, (HK1.out.below hb (by rw [HSZ.out]; omega)).cell 1⟩
  have HSS : Hid (∀ w', Below W0.heap.size W0 w' → ∀ x0 x1 : Value, ((w'.setCell ⟨w.heap.size + 1 + 1, 0, none⟩ (x0)).setCell ⟨w.heap.size + 1 + 1, 1, none⟩ (x1)).cell? ⟨w.heap.size, 0, none⟩ = some (.string la) ∧ ((w'.setCell ⟨w.heap.size + 1 + 1, 0, none⟩ (x0)).setCell ⟨w.heap.size + 1 + 1, 1, none⟩ (x1)).cell? ⟨w.heap.size, 1, none⟩ = some (.string lb) ∧ ((w'.setCell ⟨w.heap.size + 1 + 1, 0, none⟩ (x0)).setCell ⟨w.heap.size + 1 + 1, 1, none⟩ (x1)).cell? ⟨w.heap.size, 2, none⟩ = some (.string lc) ∧ ((w'.setCell ⟨w.heap.size + 1 + 1, 0, none⟩ (x0)).setCell ⟨w.heap.size + 1 + 1, 1, none⟩ (x1)).cell? ⟨w.heap.size + 1, 0, none⟩ = some (.string px) ∧ ((w'.setCell ⟨w.heap.size + 1 + 1, 0, none⟩ (x0)).setCell ⟨w.heap.size + 1 + 1, 1, none⟩ (x1)).cell? ⟨w.heap.size + 1, 1, none⟩ = some (.string py)) := fun w' hb x0 x1 => ⟨((HK0.out.below hb (by rw [HSZ.out]; omega)).off2 (g := w.heap.size + 1 + 1) (by omega) x0 x1).cell 0, ((HK0.out.below hb (by rw [HSZ.out]; omega)).off2 (g := w.heap.size + 1 + 1) (by omega) x0 x1).cell 1, ((HK0.out.below hb (by rw [HSZ.out]; omega)).off2 (g := w.heap.size + 1 + 1) (by omega) x0 x1).cell 2, ((HK1.out.below hb (by rw [HSZ.out]; omega)).off2 (g := w.heap.size + 1 + 1) (by omega) x0 x1).cell 0, ((HK1.out.below hb (by rw [HSZ.out]; omega)).off2 (g := w.heap.size + 1 + 1) (by omega) x0 x1).cell 1⟩
  obtain ⟨z0, z1, z2, z3, z4⟩ := HS.out W0 (Below.refl _ _)
  go_region_held3 (fun w' => w'.cell? ⟨w.heap.size, 0, none⟩ = some (.string la) ∧ w'.cell? ⟨w.heap.size, 1, none⟩ = some (.string lb) ∧ w'.cell? ⟨w.heap.size, 2, none⟩ = some (.string lc) ∧ w'.cell? ⟨w.heap.size + 1, 0, none⟩ = some (.string px) ∧ w'.cell? ⟨w.heap.size + 1, 1, none⟩ = some (.string py)) (first | go_keep | exact hs1 | exact hs2 | exact hkS)
    (first
      | (go_at_call 73; refine (int_calls 2 (by decide) W0.drew).mono ?_; rintro _ w1 ⟨hb1, v1, rfl, hv1⟩; obtain ⟨d1, rfl⟩ := qv_open hv1; have hbl1 : Below W0.heap.size W0 w1 := (Below.drew (Below.refl _ W0)).trans hb1; have hs1 := HS.out w1 hbl1)
      | (go_at_call 72; refine (dropped_calls ⟨la, lb, lc, rfl, rfl, rfl, rfl⟩ ⟨px, py, rfl, rfl, rfl⟩ hv1 S1.out S2.out S3.out S4.out S5.out F1.out F2.out F3.out F4.out F5.out F6.out HK.out (HTAB.out.below hbl1)).mono ?_; rintro _ w2 ⟨hb2, sa, sb, z, rfl, hans⟩; have hbl2 := hbl1.trans (hb2.mono hbl1.size); have hs2 := HS.out w2 hbl2; have hkr := HK2.out.below hbl2 (by rw [HSZ.out]; omega); obtain ⟨r0, r1, j0, j1⟩ := hkr.all2; have hkS := HSS.out w2 hbl2 (.string sa) (.string sb); have HANS := hideIt hans; clear hans)
      )
  all_goals
    go_wp2
    obtain ⟨k0, k1, _⟩ := (hkr.put2 (.string sa) (.string sb)).all2
    exact bodyPost_ret (v := .tuple #[.agg #[.string sa, .string sb], .int .i64 z]) (by simp [results, Tryz.results34, go_sem, k0, k1]) rfl ⟨Below.put2 (HB0.out.trans (hbl2.mono HB0.out.size)) (by omega) _ _, sa, sb, z, rfl, HANS.out⟩

end Go.Proofs.YtpalknbmejachaaGreatDoor
/- Walks of package compasslaw: LineNearest. -/
namespace Go.Proofs.YtpalknbmejachaaGreatDoor
open Go.RowKit Cx

attribute [local go_sem ↓] Go.wp_at_zero Go.wp_at_succ

theorem qs_T1 : QS 8 ((1 : Nat) : Rat) := ⟨by decide, by decide⟩
theorem qs_T2 : QS 8 ((2 : Nat) : Rat) := ⟨by decide, by decide⟩
theorem foot_far (a b c px pz qx qz fx fz gx gz : Rat) (hN : a * a + b * b ≠ 0)
  (hfx : fx = px + a * -(a * px + b * pz + c) / (a * a + b * b) * ((1 : Nat) : Rat)) (hfz : fz = pz + b * -(a * px + b * pz + c) / (a * a + b * b) * ((1 : Nat) : Rat))
  (hgx : gx = qx + a * -(a * qx + b * qz + c) / (a * a + b * b) * ((1 : Nat) : Rat)) (hgz : gz = qz + b * -(a * qx + b * qz + c) / (a * a + b * b) * ((1 : Nat) : Rat)) :
  (px - gx) * (px - gx) + (pz - gz) * (pz - gz) = ((px - fx) * (px - fx) + (pz - fz) * (pz - fz)) + (a * (pz - gz) - b * (px - gx)) * (a * (pz - gz) - b * (px - gx)) / (a * a + b * b) := by
  have e : ((1 : Nat) : Rat) = 1 := rfl
  rw [e] at *
  have hg0 : a * gx + b * gz + c = 0 := by rw [hgx, hgz]; grind
  have h1 : a * (px - gx) + b * (pz - gz) = a * px + b * pz + c := by grind
  have hf : ((px - fx) * (px - fx) + (pz - fz) * (pz - fz)) = (a * px + b * pz + c) * (a * px + b * pz + c) / (a * a + b * b) := by rw [hfx, hfz]; grind
  rw [hf, ← h1]
  grind
theorem mirror_twice (a b c px pz mx mz : Rat) (hN : a * a + b * b ≠ 0)
  (hx : mx = px + a * -(a * px + b * pz + c) / (a * a + b * b) * ((2 : Nat) : Rat)) (hz : mz = pz + b * -(a * px + b * pz + c) / (a * a + b * b) * ((2 : Nat) : Rat)) :
  mx + a * -(a * mx + b * mz + c) / (a * a + b * b) * ((2 : Nat) : Rat) = px ∧ mz + b * -(a * mx + b * mz + c) / (a * a + b * b) * ((2 : Nat) : Rat) = pz := by
  have e : ((2 : Nat) : Rat) = 2 := rfl
  rw [e] at *
  have h : a * mx + b * mz + c = -(a * px + b * pz + c) := by rw [hx, hz]; grind
  rw [h, hx, hz]
  constructor <;> grind
theorem mirror_far (a b c px pz qx qz mx mz nx nz : Rat) (hN : a * a + b * b ≠ 0)
  (hx : mx = px + a * -(a * px + b * pz + c) / (a * a + b * b) * ((2 : Nat) : Rat)) (hz : mz = pz + b * -(a * px + b * pz + c) / (a * a + b * b) * ((2 : Nat) : Rat))
  (hnx : nx = qx + a * -(a * qx + b * qz + c) / (a * a + b * b) * ((2 : Nat) : Rat)) (hnz : nz = qz + b * -(a * qx + b * qz + c) / (a * a + b * b) * ((2 : Nat) : Rat)) :
  (mx - nx) * (mx - nx) + (mz - nz) * (mz - nz) = (px - qx) * (px - qx) + (pz - qz) * (pz - qz) := by
  have e : ((2 : Nat) : Rat) = 2 := rfl
  rw [e] at *
  have h1 : mx - nx = (px - qx) - 2 * a * ((a * (px - qx) + b * (pz - qz)) / (a * a + b * b)) := by rw [hx, hnx]; grind
  have h2 : mz - nz = (pz - qz) - 2 * b * ((a * (px - qx) + b * (pz - qz)) / (a * a + b * b)) := by rw [hz, hnz]; grind
  have ht : (a * (px - qx) + b * (pz - qz)) / (a * a + b * b) * (a * a + b * b) = a * (px - qx) + b * (pz - qz) := by grind
  rw [h1, h2]
  clear h1 h2 hx hz hnx hnz hN
  generalize (a * (px - qx) + b * (pz - qz)) / (a * a + b * b) = t at *
  grind
theorem sq_pos_le (x y d n : Rat) (hn : 0 < n) (h : y = x + d * d / n) : x ≤ y := by
  rw [Rat.le_iff_sub_nonneg, h]
  have hd : 0 ≤ d * d := by
    rcases Rat.le_total (a := 0) (b := d) with h | h
    · exact Rat.mul_nonneg h h
    · have := Rat.mul_nonneg (Rat.neg_le_neg h) (Rat.neg_le_neg h)
      grind
  have h2 : 0 ≤ d * d * n⁻¹ := Rat.mul_nonneg hd (Rat.le_of_lt (Rat.inv_pos.2 hn))
  have e : x + d * d / n - x = d * d * n⁻¹ := by grind
  rw [e]
  exact h2
theorem norm_pos {a b : Rat} (h : ¬ (a = 0 ∧ b = 0)) : 0 < a * a + b * b := by
  have ha : 0 ≤ a * a := by
    rcases Rat.le_total (a := 0) (b := a) with h | h
    · exact Rat.mul_nonneg h h
    · have := Rat.mul_nonneg (Rat.neg_le_neg h) (Rat.neg_le_neg h)
      grind
  have hb : 0 ≤ b * b := by
    rcases Rat.le_total (a := 0) (b := b) with h | h
    · exact Rat.mul_nonneg h h
    · have := Rat.mul_nonneg (Rat.neg_le_neg h) (Rat.neg_le_neg h)
      grind
  by_cases e : a * a + b * b = 0
  · have ea : a * a = 0 := by grind
    have eb : b * b = 0 := by grind
    exact absurd ⟨(Rat.mul_eq_zero.1 ea).elim id id, (Rat.mul_eq_zero.1 eb).elim id id⟩ h
  · grind
theorem cmp_le {x y : Rat} {c : Int} (h : x ≤ y) (h1 : c < 0 ↔ x.num * (y.den : Int) < y.num * (x.den : Int)) (h2 : c = 0 ↔ x = y) : c ≤ 0 := by
  by_cases e : x = y
  · have := h2.2 e
    omega
  · have hle := (Rat.le_iff x y).1 h
    have hne : x.num * (y.den : Int) ≠ y.num * (x.den : Int) := fun q => e (by
      have := (Rat.mkRat_eq_iff (n₁ := x.num) (n₂ := y.num) x.den_nz y.den_nz).2 q
      rwa [Rat.mkRat_self, Rat.mkRat_self] at this)
    have := h1.2 (by omega)
    omega

theorem drop_flat {a b c x y t : Rat} {sa sb : List UInt8} {z : Int} (h : DropAns a b c x y t sa sb z) : (z = 5 ∧ a = 0 ∧ b = 0) ∨ (z = 0 ∧ ¬ (a = 0 ∧ b = 0) ∧ sa = tx (x + a * -(a * x + b * y + c) / (a * a + b * b) * t) ∧ sb = tx (y + b * -(a * x + b * y + c) / (a * a + b * b) * t)) := by
  rcases h with ⟨h1, h2, h3⟩ | ⟨h1, h2, h3, h4⟩
  · exact Or.inl ⟨h3, h1, h2⟩
  · exact Or.inr ⟨h2, h1, h3, h4⟩
theorem drop_ok {a b c x y t : Rat} {sa sb : List UInt8} {z : Int} (hn : ¬ (a = 0 ∧ b = 0)) (h : DropAns a b c x y t sa sb z) : z = 0 ∧ sa = tx (x + a * -(a * x + b * y + c) / (a * a + b * b) * t) ∧ sb = tx (y + b * -(a * x + b * y + c) / (a * a + b * b) * t) := by
  rcases drop_flat h with ⟨_, h1, h2⟩ | ⟨h1, _, h3, h4⟩
  · exact absurd ⟨h1, h2⟩ hn
  · exact ⟨h1, h3, h4⟩
/-- What is told by a text: its value, its length, its size. -/
theorem told {s : ByteArray} {q : Rat} {k : Nat} (h : s.data.toList = tx q) (f : QS k q) : rd s.data.toList = q ∧ QS k (rd s.data.toList) ∧ s.data.toList.length ≤ 2 * k + 4 ∧ s.size ≤ 2 * k + 4 := by
  have e : rd s.data.toList = q := by rw [h, rd_tx]
  have hl : s.data.toList.length ≤ 2 * k + 4 := by rw [h]; exact tx_len f
  exact ⟨e, by rw [e]; exact f, hl, by rw [← str_len]; exact hl⟩

set_option maxHeartbeats 16000000 in
set_option maxRecDepth 100000 in
/-- The law of the nearest point. -/
theorem lineNearest_walk {w : World} {la lb lc px pz qx qz : ByteArray} (sla : la.size ≤ 1048576) (slb : lb.size ≤ 1048576) (slc : lc.size ≤ 1048576) (spx : px.size ≤ 1048576) (spz : pz.size ≤ 1048576) (sqx : qx.size ≤ 1048576) (sqz : qz.size ≤ 1048576) (tab : Tab w) (mx : MaxL w) :
    Calls Tryz.prog 6 #[.agg #[.string la, .string lb, .string lc], .agg #[.string px, .string pz], .agg #[.string qx, .string qz]] w fun e w' => Below w.heap.size w w' ∧ e = .returned (.bool true) := by
  obtain ⟨hb0, hkl, hkp, hkq, hsz⟩ := boxes3 w #[.string la, .string lb, .string lc] #[.string px, .string pz] #[.string qx, .string qz] 53 24 24
  have HB0 := hideIt2 hb0
  have HSZ := hideIt2 hsz
  have HKl := hideIt2 hkl
  have HKp := hideIt2 hkp
  have HKq := hideIt2 hkq
  have HT := hideIt2 (tab.below hb0)
  have HM := hideIt2 (mx.below hb0)
  have Gla : Hid (QS 4194309 (rd la.data.toList)) := (QS.rd _).mono (by rw [str_len]; omega)
  have Lla : Hid (la.data.toList.length ≤ 4294967296) := by rw [str_len]; exact Nat.le_trans sla (by decide)
  have Glb : Hid (QS 4194309 (rd lb.data.toList)) := (QS.rd _).mono (by rw [str_len]; omega)
  have Llb : Hid (lb.data.toList.length ≤ 4294967296) := by rw [str_len]; exact Nat.le_trans slb (by decide)
  have Glc : Hid (QS 4194309 (rd lc.data.toList)) := (QS.rd _).mono (by rw [str_len]; omega)
  have Llc : Hid (lc.data.toList.length ≤ 4294967296) := by rw [str_len]; exact Nat.le_trans slc (by decide)
  have Gpx : Hid (QS 4194309 (rd px.data.toList)) := (QS.rd _).mono (by rw [str_len]; omega)
  have Lpx : Hid (px.data.toList.length ≤ 4294967296) := by rw [str_len]; exact Nat.le_trans spx (by decide)
  have Gpz : Hid (QS 4194309 (rd pz.data.toList)) := (QS.rd _).mono (by rw [str_len]; omega)
  have Lpz : Hid (pz.data.toList.length ≤ 4294967296) := by rw [str_len]; exact Nat.le_trans spz (by decide)
  have Gqx : Hid (QS 4194309 (rd qx.data.toList)) := (QS.rd _).mono (by rw [str_len]; omega)
  have Lqx : Hid (qx.data.toList.length ≤ 4294967296) := by rw [str_len]; exact Nat.le_trans sqx (by decide)
  have Gqz : Hid (QS 4194309 (rd qz.data.toList)) := (QS.rd _).mono (by rw [str_len]; omega)
  have Lqz : Hid (qz.data.toList.length ≤ 4294967296) := by rw [str_len]; exact Nat.le_trans sqz (by decide)
  clear hb0 hsz tab mx hkl hkp hkq
  have Fp1x : Hid (QS 46137411 ((rd px.data.toList) + (rd la.data.toList) * -((rd la.data.toList) * (rd px.data.toList) + (rd lb.data.toList) * (rd pz.data.toList) + (rd lc.data.toList)) / ((rd la.data.toList) * (rd la.data.toList) + (rd lb.data.toList) * (rd lb.data.toList)) * ((1 : Nat) : Rat))) := (Gpx.out.add (((Gla.out.mul (((Gla.out.mul Gpx.out).add (Glb.out.mul Gpz.out)).add Glc.out).neg).div ((Gla.out.mul Gla.out).add (Glb.out.mul Glb.out))).mul qs_T1))
  have Fp1z : Hid (QS 46137411 ((rd pz.data.toList) + (rd lb.data.toList) * -((rd la.data.toList) * (rd px.data.toList) + (rd lb.data.toList) * (rd pz.data.toList) + (rd lc.data.toList)) / ((rd la.data.toList) * (rd la.data.toList) + (rd lb.data.toList) * (rd lb.data.toList)) * ((1 : Nat) : Rat))) := (Gpz.out.add (((Glb.out.mul (((Gla.out.mul Gpx.out).add (Glb.out.mul Gpz.out)).add Glc.out).neg).div ((Gla.out.mul Gla.out).add (Glb.out.mul Glb.out))).mul qs_T1))
  have Fp2x : Hid (QS 46137411 ((rd px.data.toList) + (rd la.data.toList) * -((rd la.data.toList) * (rd px.data.toList) + (rd lb.data.toList) * (rd pz.data.toList) + (rd lc.data.toList)) / ((rd la.data.toList) * (rd la.data.toList) + (rd lb.data.toList) * (rd lb.data.toList)) * ((2 : Nat) : Rat))) := (Gpx.out.add (((Gla.out.mul (((Gla.out.mul Gpx.out).add (Glb.out.mul Gpz.out)).add Glc.out).neg).div ((Gla.out.mul Gla.out).add (Glb.out.mul Glb.out))).mul qs_T2))
  have Fp2z : Hid (QS 46137411 ((rd pz.data.toList) + (rd lb.data.toList) * -((rd la.data.toList) * (rd px.data.toList) + (rd lb.data.toList) * (rd pz.data.toList) + (rd lc.data.toList)) / ((rd la.data.toList) * (rd la.data.toList) + (rd lb.data.toList) * (rd lb.data.toList)) * ((2 : Nat) : Rat))) := (Gpz.out.add (((Glb.out.mul (((Gla.out.mul Gpx.out).add (Glb.out.mul Gpz.out)).add Glc.out).neg).div ((Gla.out.mul Gla.out).add (Glb.out.mul Glb.out))).mul qs_T2))
  have Fq1x : Hid (QS 46137411 ((rd qx.data.toList) + (rd la.data.toList) * -((rd la.data.toList) * (rd qx.data.toList) + (rd lb.data.toList) * (rd qz.data.toList) + (rd lc.data.toList)) / ((rd la.data.toList) * (rd la.data.toList) + (rd lb.data.toList) * (rd lb.data.toList)) * ((1 : Nat) : Rat))) := (Gqx.out.add (((Gla.out.mul (((Gla.out.mul Gqx.out).add (Glb.out.mul Gqz.out)).add Glc.out).neg).div ((Gla.out.mul Gla.out).add (Glb.out.mul Glb.out))).mul qs_T1))
  have Fq1z : Hid (QS 46137411 ((rd qz.data.toList) + (rd lb.data.toList) * -((rd la.data.toList) * (rd qx.data.toList) + (rd lb.data.toList) * (rd qz.data.toList) + (rd lc.data.toList)) / ((rd la.data.toList) * (rd la.data.toList) + (rd lb.data.toList) * (rd lb.data.toList)) * ((1 : Nat) : Rat))) := (Gqz.out.add (((Glb.out.mul (((Gla.out.mul Gqx.out).add (Glb.out.mul Gqz.out)).add Glc.out).neg).div ((Gla.out.mul Gla.out).add (Glb.out.mul Glb.out))).mul qs_T1))
  have Fq2x : Hid (QS 46137411 ((rd qx.data.toList) + (rd la.data.toList) * -((rd la.data.toList) * (rd qx.data.toList) + (rd lb.data.toList) * (rd qz.data.toList) + (rd lc.data.toList)) / ((rd la.data.toList) * (rd la.data.toList) + (rd lb.data.toList) * (rd lb.data.toList)) * ((2 : Nat) : Rat))) := (Gqx.out.add (((Gla.out.mul (((Gla.out.mul Gqx.out).add (Glb.out.mul Gqz.out)).add Glc.out).neg).div ((Gla.out.mul Gla.out).add (Glb.out.mul Glb.out))).mul qs_T2))
  have Fq2z : Hid (QS 46137411 ((rd qz.data.toList) + (rd lb.data.toList) * -((rd la.data.toList) * (rd qx.data.toList) + (rd lb.data.toList) * (rd qz.data.toList) + (rd lc.data.toList)) / ((rd la.data.toList) * (rd la.data.toList) + (rd lb.data.toList) * (rd lb.data.toList)) * ((2 : Nat) : Rat))) := (Gqz.out.add (((Glb.out.mul (((Gla.out.mul Gqx.out).add (Glb.out.mul Gqz.out)).add Glc.out).neg).div ((Gla.out.mul Gla.out).add (Glb.out.mul Glb.out))).mul qs_T2))
  go_enter Tryz.func6, Tryz.ntmps6
  go_wp2_with fail
  generalize (((w.alloc (.cells #[.string la, .string lb, .string lc] 53)).alloc (.cells #[.string px, .string pz] 24)).alloc (.cells #[.string qx, .string qz] 24)) = W0 at *
  refine (foot_walk (w := W0) Lla.out Llb.out Llc.out Lpx.out Lpz.out Gla.out Glb.out Glc.out Gpx.out Gpz.out (by decide) HT.out).mono ?_
  rintro _ w1 ⟨hb1, fx, fz, y1, rfl, hans⟩
  have HB1 := hideIt2 hb1
  have HKl1 := hideIt2 (HKl.out.below HB1.out (by rw [HSZ.out]; omega))
  have HKp1 := hideIt2 (HKp.out.below HB1.out (by rw [HSZ.out]; omega))
  have HKq1 := hideIt2 (HKq.out.below HB1.out (by rw [HSZ.out]; omega))
  have HD1 := hideIt2 (drop_flat hans)
  clear hb1 hans
  go_wp2_with fail
  obtain ⟨w2, hw2⟩ : ∃ w2, w2 = w1.alloc (.cells #[.string fx, .string fz] 24) := ⟨_, rfl⟩
  have hbA := below_new w1 (.cells #[.string fx, .string fz] 24)
  have HKF := hideIt2 (Blk.new w1 #[.string fx, .string fz] 24)
  rw [← hw2] at hbA HKF ⊢
  obtain ⟨F, hF⟩ : ∃ F, F = w1.heap.size := ⟨_, rfl⟩
  rw [← hF] at HKF ⊢
  clear hF hw2
  have HB2 := hideIt2 (bel_bel HB1.out hbA)
  have HKl2 := hideIt2 (HKl.out.below HB2.out (by rw [HSZ.out]; omega))
  have HKp2 := hideIt2 (HKp.out.below HB2.out (by rw [HSZ.out]; omega))
  have HKq2 := hideIt2 (HKq.out.below HB2.out (by rw [HSZ.out]; omega))
  clear hbA 
  rcases HD1.out with ⟨hy, _, _⟩ | ⟨hy, hn, hfx, hfz⟩
  · subst hy
    go_wp2_with fail
    refine (lined_calls _ (HT.out.below HB2.out)).mono ?_
    rintro _ v1 ⟨hc1, rfl⟩
    have HC1 := hideIt2 (bel_bel HB2.out hc1)
    clear hc1
    go_wp2_with fail
    refine (lined_calls _ (HT.out.below HC1.out)).mono ?_
    rintro _ v2 ⟨hc2, rfl⟩
    have HC2 := hideIt2 (bel_bel HC1.out hc2)
    clear hc2
    go_wp2
    go_ret
    exact ⟨bel_bel HB0.out HC2.out, by first | rfl | simp⟩
  · subst hy
    have HN := hideIt2 hn
    have TFx := hideIt2 (told hfx Fp1x.out)
    have TFz := hideIt2 (told hfz Fp1z.out)
    clear hn hfx hfz HD1
    go_wp2_with fail
    refine (lined_calls _ (HT.out.below HB2.out)).mono ?_
    rintro _ w3 ⟨hb3, rfl⟩
    have HB3 := hideIt2 (bel_bel HB2.out hb3)
    have HKl3 := hideIt2 (HKl.out.below HB3.out (by rw [HSZ.out]; omega))
    have HKp3 := hideIt2 (HKp.out.below HB3.out (by rw [HSZ.out]; omega))
    have HKq3 := hideIt2 (HKq.out.below HB3.out (by rw [HSZ.out]; omega))
    have HKF3 := hideIt2 (HKF.out.below hb3 HKF.out.lt)
    clear hb3
    have ql0 := HKl3.out.cell 0
    have ql1 := HKl3.out.cell 1
    have ql2 := HKl3.out.cell 2
    have qq0 := HKq3.out.cell 0
    have qq1 := HKq3.out.cell 1
    go_wp2_with fail
    refine (foot_walk (w := w3) Lla.out Llb.out Llc.out Lqx.out Lqz.out Gla.out Glb.out Glc.out Gqx.out Gqz.out (by decide) (HT.out.below HB3.out)).mono ?_
    rintro _ w4 ⟨hb4, gx, gz, y4, rfl, hans⟩
    obtain ⟨rfl, h1, h2⟩ := drop_ok HN.out hans
    have HB4 := hideIt2 (bel_bel HB3.out hb4)
    have HKl4 := hideIt2 (HKl.out.below HB4.out (by rw [HSZ.out]; omega))
    have HKp4 := hideIt2 (HKp.out.below HB4.out (by rw [HSZ.out]; omega))
    have HKq4 := hideIt2 (HKq.out.below HB4.out (by rw [HSZ.out]; omega))
    have HKF4 := hideIt2 (HKF3.out.below hb4 HKF3.out.lt)
    have TGx := hideIt2 (told h1 Fq1x.out)
    have TGz := hideIt2 (told h2 Fq1z.out)
    clear hb4 hans h1 h2
    have ul0 : ∀ o, (w4.alloc o).cell? ⟨w.heap.size, 0, none⟩ = some (.string la) := fun o => (HKl4.out.old o).cell 0
    have ul1 : ∀ o, (w4.alloc o).cell? ⟨w.heap.size, 1, none⟩ = some (.string lb) := fun o => (HKl4.out.old o).cell 1
    have ul2 : ∀ o, (w4.alloc o).cell? ⟨w.heap.size, 2, none⟩ = some (.string lc) := fun o => (HKl4.out.old o).cell 2
    have up0 : ∀ o, (w4.alloc o).cell? ⟨w.heap.size + 1, 0, none⟩ = some (.string px) := fun o => (HKp4.out.old o).cell 0
    have up1 : ∀ o, (w4.alloc o).cell? ⟨w.heap.size + 1, 1, none⟩ = some (.string pz) := fun o => (HKp4.out.old o).cell 1
    go_wp2_with fail
    obtain ⟨w5, hw5⟩ : ∃ w5, w5 = w4.alloc (.cells #[.string gx, .string gz] 24) := ⟨_, rfl⟩
    have hbA := below_new w4 (.cells #[.string gx, .string gz] 24)
    have HKG := hideIt2 (Blk.new w4 #[.string gx, .string gz] 24)
    rw [← hw5] at hbA HKG ⊢
    obtain ⟨G, hG⟩ : ∃ G, G = w4.heap.size := ⟨_, rfl⟩
    rw [← hG] at HKG ⊢
    clear hG hw5
    have HB5 := hideIt2 (bel_bel HB4.out hbA)
    have HKl5 := hideIt2 (HKl.out.below HB5.out (by rw [HSZ.out]; omega))
    have HKp5 := hideIt2 (HKp.out.below HB5.out (by rw [HSZ.out]; omega))
    have HKq5 := hideIt2 (HKq.out.below HB5.out (by rw [HSZ.out]; omega))
    have HKF5 := hideIt2 (HKF4.out.below hbA HKF4.out.lt)
    clear hbA ul0 ul1 ul2 up0 up1
    clear ql0 ql1 ql2 qq0 qq1
    refine (mirror_walk (w := w5) Lla.out Llb.out Llc.out Lpx.out Lpz.out Gla.out Glb.out Glc.out Gpx.out Gpz.out (by decide) (by decide) (HT.out.below HB5.out)).mono ?_
    rintro _ w6 ⟨hb6, mx, mz, y6, rfl, hans⟩
    obtain ⟨rfl, h1, h2⟩ := drop_ok HN.out hans
    have HB6 := hideIt2 (bel_bel HB5.out hb6)
    have HKl6 := hideIt2 (HKl.out.below HB6.out (by rw [HSZ.out]; omega))
    have HKp6 := hideIt2 (HKp.out.below HB6.out (by rw [HSZ.out]; omega))
    have HKq6 := hideIt2 (HKq.out.below HB6.out (by rw [HSZ.out]; omega))
    have HKF6 := hideIt2 (HKF5.out.below hb6 HKF5.out.lt)
    have HKG6 := hideIt2 (HKG.out.below hb6 HKG.out.lt)
    have TMx := hideIt2 (told h1 Fp2x.out)
    have TMz := hideIt2 (told h2 Fp2z.out)
    clear hb6 hans h1 h2
    have ul0 : ∀ o, (w6.alloc o).cell? ⟨w.heap.size, 0, none⟩ = some (.string la) := fun o => (HKl6.out.old o).cell 0
    have ul1 : ∀ o, (w6.alloc o).cell? ⟨w.heap.size, 1, none⟩ = some (.string lb) := fun o => (HKl6.out.old o).cell 1
    have ul2 : ∀ o, (w6.alloc o).cell? ⟨w.heap.size, 2, none⟩ = some (.string lc) := fun o => (HKl6.out.old o).cell 2
    have uq0 : ∀ o, (w6.alloc o).cell? ⟨w.heap.size + 1 + 1, 0, none⟩ = some (.string qx) := fun o => (HKq6.out.old o).cell 0
    have uq1 : ∀ o, (w6.alloc o).cell? ⟨w.heap.size + 1 + 1, 1, none⟩ = some (.string qz) := fun o => (HKq6.out.old o).cell 1
    go_wp2_with fail
    obtain ⟨w7, hw7⟩ : ∃ w7, w7 = w6.alloc (.cells #[.string mx, .string mz] 24) := ⟨_, rfl⟩
    have hbA := below_new w6 (.cells #[.string mx, .string mz] 24)
    have HKM := hideIt2 (Blk.new w6 #[.string mx, .string mz] 24)
    rw [← hw7] at hbA HKM ⊢
    obtain ⟨M, hM⟩ : ∃ M, M = w6.heap.size := ⟨_, rfl⟩
    rw [← hM] at HKM ⊢
    clear hM hw7
    have HB7 := hideIt2 (bel_bel HB6.out hbA)
    have HKl7 := hideIt2 (HKl.out.below HB7.out (by rw [HSZ.out]; omega))
    have HKp7 := hideIt2 (HKp.out.below HB7.out (by rw [HSZ.out]; omega))
    have HKq7 := hideIt2 (HKq.out.below HB7.out (by rw [HSZ.out]; omega))
    have HKF7 := hideIt2 (HKF6.out.below hbA HKF6.out.lt)
    have HKG7 := hideIt2 (HKG6.out.below hbA HKG6.out.lt)
    clear hbA ul0 ul1 ul2 uq0 uq1
    refine (mirror_walk (w := w7) Lla.out Llb.out Llc.out Lqx.out Lqz.out Gla.out Glb.out Glc.out Gqx.out Gqz.out (by decide) (by decide) (HT.out.below HB7.out)).mono ?_
    rintro _ w8 ⟨hb8, nx, nz, y8, rfl, hans⟩
    obtain ⟨rfl, h1, h2⟩ := drop_ok HN.out hans
    have HB8 := hideIt2 (bel_bel HB7.out hb8)
    have HKl8 := hideIt2 (HKl.out.below HB8.out (by rw [HSZ.out]; omega))
    have HKp8 := hideIt2 (HKp.out.below HB8.out (by rw [HSZ.out]; omega))
    have HKq8 := hideIt2 (HKq.out.below HB8.out (by rw [HSZ.out]; omega))
    have HKF8 := hideIt2 (HKF7.out.below hb8 HKF7.out.lt)
    have HKG8 := hideIt2 (HKG7.out.below hb8 HKG7.out.lt)
    have HKM8 := hideIt2 (HKM.out.below hb8 HKM.out.lt)
    have TNNx := hideIt2 (told h1 Fq2x.out)
    have TNNz := hideIt2 (told h2 Fq2z.out)
    clear hb8 hans h1 h2
    have ul0 : ∀ o, (w8.alloc o).cell? ⟨w.heap.size, 0, none⟩ = some (.string la) := fun o => (HKl8.out.old o).cell 0
    have ul1 : ∀ o, (w8.alloc o).cell? ⟨w.heap.size, 1, none⟩ = some (.string lb) := fun o => (HKl8.out.old o).cell 1
    have ul2 : ∀ o, (w8.alloc o).cell? ⟨w.heap.size, 2, none⟩ = some (.string lc) := fun o => (HKl8.out.old o).cell 2
    have uM0 : ∀ o, (w8.alloc o).cell? ⟨M, 0, none⟩ = some (.string mx) := fun o => (HKM8.out.old o).cell 0
    have uM1 : ∀ o, (w8.alloc o).cell? ⟨M, 1, none⟩ = some (.string mz) := fun o => (HKM8.out.old o).cell 1
    go_wp2_with fail
    obtain ⟨w9, hw9⟩ : ∃ w9, w9 = w8.alloc (.cells #[.string nx, .string nz] 24) := ⟨_, rfl⟩
    have hbA := below_new w8 (.cells #[.string nx, .string nz] 24)
    have HKNN := hideIt2 (Blk.new w8 #[.string nx, .string nz] 24)
    rw [← hw9] at hbA HKNN ⊢
    obtain ⟨NN, hNN⟩ : ∃ NN, NN = w8.heap.size := ⟨_, rfl⟩
    rw [← hNN] at HKNN ⊢
    clear hNN hw9
    have HB9 := hideIt2 (bel_bel HB8.out hbA)
    have HKl9 := hideIt2 (HKl.out.below HB9.out (by rw [HSZ.out]; omega))
    have HKp9 := hideIt2 (HKp.out.below HB9.out (by rw [HSZ.out]; omega))
    have HKq9 := hideIt2 (HKq.out.below HB9.out (by rw [HSZ.out]; omega))
    have HKF9 := hideIt2 (HKF8.out.below hbA HKF8.out.lt)
    have HKG9 := hideIt2 (HKG8.out.below hbA HKG8.out.lt)
    have HKM9 := hideIt2 (HKM8.out.below hbA HKM8.out.lt)
    clear hbA ul0 ul1 ul2 uM0 uM1
    refine (mirror_walk (w := w9) Lla.out Llb.out Llc.out (Nat.le_trans TMx.out.2.2.1 (by decide)) (Nat.le_trans TMz.out.2.2.1 (by decide)) (Gla.out.mono (l := 46137411) (by decide)) (Glb.out.mono (by decide)) (Glc.out.mono (by decide)) TMx.out.2.1 TMz.out.2.1 (by decide) (by decide) (HT.out.below HB9.out)).mono ?_
    rintro _ w10 ⟨hb10, ox, oz, y10, rfl, hans⟩
    obtain ⟨rfl, h1, h2⟩ := drop_ok HN.out hans
    have HB10 := hideIt2 (bel_bel HB9.out hb10)
    have HKl10 := hideIt2 (HKl.out.below HB10.out (by rw [HSZ.out]; omega))
    have HKp10 := hideIt2 (HKp.out.below HB10.out (by rw [HSZ.out]; omega))
    have HKq10 := hideIt2 (HKq.out.below HB10.out (by rw [HSZ.out]; omega))
    have HKF10 := hideIt2 (HKF9.out.below hb10 HKF9.out.lt)
    have HKG10 := hideIt2 (HKG9.out.below hb10 HKG9.out.lt)
    have HKM10 := hideIt2 (HKM9.out.below hb10 HKM9.out.lt)
    have HKNN10 := hideIt2 (HKNN.out.below hb10 HKNN.out.lt)
    have TOx := hideIt2 (told (k := 507511533) h1 (TMx.out.2.1.add ((((Gla.out.mono (l := 46137411) (by decide)).mul ((((Gla.out.mono (l := 46137411) (by decide)).mul TMx.out.2.1).add ((Glb.out.mono (l := 46137411) (by decide)).mul TMz.out.2.1)).add (Glc.out.mono (l := 46137411) (by decide))).neg).div (((Gla.out.mono (l := 46137411) (by decide)).mul (Gla.out.mono (l := 46137411) (by decide))).add ((Glb.out.mono (l := 46137411) (by decide)).mul (Glb.out.mono (l := 46137411) (by decide))))).mul qs_T2)))
    have TOz := hideIt2 (told (k := 507511533) h2 (TMz.out.2.1.add ((((Glb.out.mono (l := 46137411) (by decide)).mul ((((Gla.out.mono (l := 46137411) (by decide)).mul TMx.out.2.1).add ((Glb.out.mono (l := 46137411) (by decide)).mul TMz.out.2.1)).add (Glc.out.mono (l := 46137411) (by decide))).neg).div (((Gla.out.mono (l := 46137411) (by decide)).mul (Gla.out.mono (l := 46137411) (by decide))).add ((Glb.out.mono (l := 46137411) (by decide)).mul (Glb.out.mono (l := 46137411) (by decide))))).mul qs_T2)))
    clear hb10 hans h1 h2
    have up0 : ∀ o, (w10.alloc o).cell? ⟨w.heap.size + 1, 0, none⟩ = some (.string px) := fun o => (HKp10.out.old o).cell 0
    have up1 : ∀ o, (w10.alloc o).cell? ⟨w.heap.size + 1, 1, none⟩ = some (.string pz) := fun o => (HKp10.out.old o).cell 1
    have uq0 : ∀ o, (w10.alloc o).cell? ⟨w.heap.size + 1 + 1, 0, none⟩ = some (.string qx) := fun o => (HKq10.out.old o).cell 0
    have uq1 : ∀ o, (w10.alloc o).cell? ⟨w.heap.size + 1 + 1, 1, none⟩ = some (.string qz) := fun o => (HKq10.out.old o).cell 1
    go_wp2_with fail
    obtain ⟨w11, hw11⟩ : ∃ w11, w11 = w10.alloc (.cells #[.string ox, .string oz] 24) := ⟨_, rfl⟩
    have hbA := below_new w10 (.cells #[.string ox, .string oz] 24)
    have HKO := hideIt2 (Blk.new w10 #[.string ox, .string oz] 24)
    rw [← hw11] at hbA HKO ⊢
    obtain ⟨O, hO⟩ : ∃ O, O = w10.heap.size := ⟨_, rfl⟩
    rw [← hO] at HKO ⊢
    clear hO hw11
    have HB11 := hideIt2 (bel_bel HB10.out hbA)
    have HKl11 := hideIt2 (HKl.out.below HB11.out (by rw [HSZ.out]; omega))
    have HKp11 := hideIt2 (HKp.out.below HB11.out (by rw [HSZ.out]; omega))
    have HKq11 := hideIt2 (HKq.out.below HB11.out (by rw [HSZ.out]; omega))
    have HKF11 := hideIt2 (HKF10.out.below hbA HKF10.out.lt)
    have HKG11 := hideIt2 (HKG10.out.below hbA HKG10.out.lt)
    have HKM11 := hideIt2 (HKM10.out.below hbA HKM10.out.lt)
    have HKNN11 := hideIt2 (HKNN10.out.below hbA HKNN10.out.lt)
    clear hbA up0 up1 uq0 uq1
    have HSP : Hid (∀ w', Below w11.heap.size w11 w' → w'.cell? ⟨w.heap.size + 1, 0, none⟩ = some (.string px) ∧ w'.cell? ⟨w.heap.size + 1, 1, none⟩ = some (.string pz) ∧ w'.cell? ⟨w.heap.size + 1 + 1, 0, none⟩ = some (.string qx) ∧ w'.cell? ⟨w.heap.size + 1 + 1, 1, none⟩ = some (.string qz)) := fun w' hb => ⟨(HKp11.out.below hb HKp11.out.lt).cell 0, (HKp11.out.below hb HKp11.out.lt).cell 1, (HKq11.out.below hb HKq11.out.lt).cell 0, (HKq11.out.below hb HKq11.out.lt).cell 1⟩
    have HMW := hideIt2 (HM.out.below HB11.out)
    try go_wp2_with fail
    obtain ⟨Inv, hInvI, hInvM⟩ : ∃ Inv : (Nat → Prop) → (Nat → Value) → World → Prop, (∀ (d : Nat → Prop) (τ : Nat → Value) (w' : World), Inv d τ w' → Below w11.heap.size w11 w' ∧ (d 0 → Is (.agg #[.string px, .string pz]) (τ 0) w') ∧ (d 1 → Vv (rd px.data.toList) (rd pz.data.toList) (τ 1) w') ∧ (d 2 → Is (.agg #[.string qx, .string qz]) (τ 2) w') ∧ (d 3 → Vv (rd qx.data.toList) (rd qz.data.toList) (τ 3) w') ∧ (d 4 → Pb w11 (τ 4) w') ∧ (d 4 → ¬ d 6 → Zb w11 (τ 4) w') ∧ (d 6 → Vb w11 (rd px.data.toList) (rd pz.data.toList) (τ 4) w') ∧ (d 6 → d 4) ∧ (d 5 → Pb w11 (τ 5) w') ∧ (d 5 → ¬ d 7 → Zb w11 (τ 5) w') ∧ (d 7 → Vb w11 (rd qx.data.toList) (rd qz.data.toList) (τ 5) w') ∧ (d 7 → d 5) ∧ (d 4 → d 5 → ¬ τ 4 = τ 5)) ∧ (∀ (d : Nat → Prop) (τ : Nat → Value) (w' : World), Below w11.heap.size w11 w' ∧ (d 0 → Is (.agg #[.string px, .string pz]) (τ 0) w') ∧ (d 1 → Vv (rd px.data.toList) (rd pz.data.toList) (τ 1) w') ∧ (d 2 → Is (.agg #[.string qx, .string qz]) (τ 2) w') ∧ (d 3 → Vv (rd qx.data.toList) (rd qz.data.toList) (τ 3) w') ∧ (d 4 → Pb w11 (τ 4) w') ∧ (d 4 → ¬ d 6 → Zb w11 (τ 4) w') ∧ (d 6 → Vb w11 (rd px.data.toList) (rd pz.data.toList) (τ 4) w') ∧ (d 6 → d 4) ∧ (d 5 → Pb w11 (τ 5) w') ∧ (d 5 → ¬ d 7 → Zb w11 (τ 5) w') ∧ (d 7 → Vb w11 (rd qx.data.toList) (rd qz.data.toList) (τ 5) w') ∧ (d 7 → d 5) ∧ (d 4 → d 5 → ¬ τ 4 = τ 5) → Inv d τ w') := ⟨fun d τ w' => Below w11.heap.size w11 w' ∧ (d 0 → Is (.agg #[.string px, .string pz]) (τ 0) w') ∧ (d 1 → Vv (rd px.data.toList) (rd pz.data.toList) (τ 1) w') ∧ (d 2 → Is (.agg #[.string qx, .string qz]) (τ 2) w') ∧ (d 3 → Vv (rd qx.data.toList) (rd qz.data.toList) (τ 3) w') ∧ (d 4 → Pb w11 (τ 4) w') ∧ (d 4 → ¬ d 6 → Zb w11 (τ 4) w') ∧ (d 6 → Vb w11 (rd px.data.toList) (rd pz.data.toList) (τ 4) w') ∧ (d 6 → d 4) ∧ (d 5 → Pb w11 (τ 5) w') ∧ (d 5 → ¬ d 7 → Zb w11 (τ 5) w') ∧ (d 7 → Vb w11 (rd qx.data.toList) (rd qz.data.toList) (τ 5) w') ∧ (d 7 → d 5) ∧ (d 4 → d 5 → ¬ τ 4 = τ 5), fun _ _ _ h => h, fun _ _ _ h => h⟩
    have HIN := hideIt2 hInvI
    have HMK := hideIt2 hInvM
    clear hInvI hInvM
    refine region_inv Inv (by kernel_rfl) (by decide) (by kernel_rfl) ?_ ?_ ?_
    · intro τ
      exact HMK.out _ _ _ ⟨Below.drew (Below.refl _ _), False.elim, False.elim, False.elim, False.elim, False.elim, fun h => h.elim, False.elim, False.elim, False.elim, fun h => h.elim, False.elim, False.elim, fun h => h.elim⟩
    · refine OpSteps.cons (i := 0) ?_ (OpSteps.cons (i := 1) ?_ (OpSteps.cons (i := 2) ?_ (OpSteps.cons (i := 3) ?_ (OpSteps.cons (i := 4) ?_ (OpSteps.cons (i := 5) ?_ (OpSteps.cons (i := 6) ?_ (OpSteps.cons (i := 7) ?_ (OpSteps.nil))))))))
      · intro d τ w' hd hn hI
        have HI := hideIt2 (HIN.out _ _ _ hI)
        have HD := hideIt2 hd
        have HN := hideIt2 hn
        clear hI hd hn
        have hz := HSP.out w' HI.out.1
        have z0 := hz.1
        have z1 := hz.2.1
        have z2 := hz.2.2.1
        have z3 := hz.2.2.2
        clear hz
        intro K hK
        simp only [putAll, Act.put, List.setIfInBounds_toArray, List.set_cons_zero, List.set_cons_succ] at hK ⊢
        go_simp
        obtain ⟨hb, f0, f1, f2, f3, p4, o4, v4, a4, p5, o5, v5, a5, n4_5⟩ := HI.out
        exact hK.out _ _ (HMK.out _ _ _ ⟨hb, fact_new rfl, fact_old (by decide) f1 (fun h => h), fact_old (by decide) f2 (fun h => h), fact_old (by decide) f3 (fun h => h), fact_old (by decide) p4 (fun h => h), fact_zero (by decide) o4 (fun h => h), fact_two (by decide) (by decide) v4 (fun h => h), imp_old (by decide) a4, fact_old (by decide) p5 (fun h => h), fact_zero (by decide) o5 (fun h => h), fact_two (by decide) (by decide) v5 (fun h => h), imp_old (by decide) a5, ne_old (by decide) (by decide) n4_5⟩)
      · intro d τ w' hd hn hI
        have HI := hideIt2 (HIN.out _ _ _ hI)
        have HD := hideIt2 hd
        have HN := hideIt2 hn
        clear hI hd hn
        have e0 : τ 0 = .agg #[.string px, .string pz] := ((HI.out.2.1) (HD.out ⟨0, .data⟩ (by simp) rfl))
        have hb := HI.out.1
        intro K hK
        simp only [putAll, Act.put, List.setIfInBounds_toArray, List.set_cons_zero, List.set_cons_succ, e0] at hK ⊢
        go_simp
        refine (refP_calls px pz _ (HMW.out.below hb) (by omega) (by omega)).mono ?_
        rintro _ w2 ⟨hb2, v, rfl, hv⟩
        clear hb
        obtain ⟨hb, f0, f1, f2, f3, p4, o4, v4, a4, p5, o5, v5, a5, n4_5⟩ := HI.out
        exact hK.out _ _ (HMK.out _ _ _ ⟨bel_bel hb hb2, fact_old (by decide) f0 (fun h => h.below hb2), fact_new hv, fact_old (by decide) f2 (fun h => h.below hb2), fact_old (by decide) f3 (fun h => h.below hb2), fact_old (by decide) p4 (fun h => h.below hb2), fact_zero (by decide) o4 (fun h => h.below hb2), fact_two (by decide) (by decide) v4 (fun h => h.below hb2), imp_old (by decide) a4, fact_old (by decide) p5 (fun h => h.below hb2), fact_zero (by decide) o5 (fun h => h.below hb2), fact_two (by decide) (by decide) v5 (fun h => h.below hb2), imp_old (by decide) a5, ne_old (by decide) (by decide) n4_5⟩)
      · intro d τ w' hd hn hI
        have HI := hideIt2 (HIN.out _ _ _ hI)
        have HD := hideIt2 hd
        have HN := hideIt2 hn
        clear hI hd hn
        have hz := HSP.out w' HI.out.1
        have z0 := hz.1
        have z1 := hz.2.1
        have z2 := hz.2.2.1
        have z3 := hz.2.2.2
        clear hz
        intro K hK
        simp only [putAll, Act.put, List.setIfInBounds_toArray, List.set_cons_zero, List.set_cons_succ] at hK ⊢
        go_simp
        obtain ⟨hb, f0, f1, f2, f3, p4, o4, v4, a4, p5, o5, v5, a5, n4_5⟩ := HI.out
        exact hK.out _ _ (HMK.out _ _ _ ⟨hb, fact_old (by decide) f0 (fun h => h), fact_old (by decide) f1 (fun h => h), fact_new rfl, fact_old (by decide) f3 (fun h => h), fact_old (by decide) p4 (fun h => h), fact_zero (by decide) o4 (fun h => h), fact_two (by decide) (by decide) v4 (fun h => h), imp_old (by decide) a4, fact_old (by decide) p5 (fun h => h), fact_zero (by decide) o5 (fun h => h), fact_two (by decide) (by decide) v5 (fun h => h), imp_old (by decide) a5, ne_old (by decide) (by decide) n4_5⟩)
      · intro d τ w' hd hn hI
        have HI := hideIt2 (HIN.out _ _ _ hI)
        have HD := hideIt2 hd
        have HN := hideIt2 hn
        clear hI hd hn
        have e2 : τ 2 = .agg #[.string qx, .string qz] := ((HI.out.2.2.2.1) (HD.out ⟨2, .data⟩ (by simp) rfl))
        have hb := HI.out.1
        intro K hK
        simp only [putAll, Act.put, List.setIfInBounds_toArray, List.set_cons_zero, List.set_cons_succ, e2] at hK ⊢
        go_simp
        refine (refP_calls qx qz _ (HMW.out.below hb) (by omega) (by omega)).mono ?_
        rintro _ w2 ⟨hb2, v, rfl, hv⟩
        clear hb
        obtain ⟨hb, f0, f1, f2, f3, p4, o4, v4, a4, p5, o5, v5, a5, n4_5⟩ := HI.out
        exact hK.out _ _ (HMK.out _ _ _ ⟨bel_bel hb hb2, fact_old (by decide) f0 (fun h => h.below hb2), fact_old (by decide) f1 (fun h => h.below hb2), fact_old (by decide) f2 (fun h => h.below hb2), fact_new hv, fact_old (by decide) p4 (fun h => h.below hb2), fact_zero (by decide) o4 (fun h => h.below hb2), fact_two (by decide) (by decide) v4 (fun h => h.below hb2), imp_old (by decide) a4, fact_old (by decide) p5 (fun h => h.below hb2), fact_zero (by decide) o5 (fun h => h.below hb2), fact_two (by decide) (by decide) v5 (fun h => h.below hb2), imp_old (by decide) a5, ne_old (by decide) (by decide) n4_5⟩)
      · intro d τ w' hd hn hI
        have HI := hideIt2 (HIN.out _ _ _ hI)
        have HD := hideIt2 hd
        have HN := hideIt2 hn
        clear hI hd hn
        intro K hK
        simp only [putAll, Act.put, List.setIfInBounds_toArray, List.set_cons_zero, List.set_cons_succ] at hK ⊢
        go_simp
        obtain ⟨hb, f0, f1, f2, f3, p4, o4, v4, a4, p5, o5, v5, a5, n4_5⟩ := HI.out
        exact hK.out _ _ (HMK.out _ _ _ ⟨Below.new hb _, fact_old (by decide) f0 (fun h => h.below (below_new _ _)), fact_old (by decide) f1 (fun h => h.below (below_new _ _)), fact_old (by decide) f2 (fun h => h.below (below_new _ _)), fact_old (by decide) f3 (fun h => h.below (below_new _ _)), fact_new (Pb.new hb), fact_zero_new (Zb.new hb), fact_absurd (by decide) a4 HN.out, imp_old (by decide) a4, fact_old (by decide) p5 (fun h => h.below (below_new _ _)), fact_zero (by decide) o5 (fun h => h.below (below_new _ _)), fact_two (by decide) (by decide) v5 (fun h => h.below (below_new _ _)), imp_old (by decide) a5, ne_new (by decide) p5⟩)
      · intro d τ w' hd hn hI
        have HI := hideIt2 (HIN.out _ _ _ hI)
        have HD := hideIt2 hd
        have HN := hideIt2 hn
        clear hI hd hn
        intro K hK
        simp only [putAll, Act.put, List.setIfInBounds_toArray, List.set_cons_zero, List.set_cons_succ] at hK ⊢
        go_simp
        obtain ⟨hb, f0, f1, f2, f3, p4, o4, v4, a4, p5, o5, v5, a5, n4_5⟩ := HI.out
        exact hK.out _ _ (HMK.out _ _ _ ⟨Below.new hb _, fact_old (by decide) f0 (fun h => h.below (below_new _ _)), fact_old (by decide) f1 (fun h => h.below (below_new _ _)), fact_old (by decide) f2 (fun h => h.below (below_new _ _)), fact_old (by decide) f3 (fun h => h.below (below_new _ _)), fact_old (by decide) p4 (fun h => h.below (below_new _ _)), fact_zero (by decide) o4 (fun h => h.below (below_new _ _)), fact_two (by decide) (by decide) v4 (fun h => h.below (below_new _ _)), imp_old (by decide) a4, fact_new (Pb.new hb), fact_zero_new (Zb.new hb), fact_absurd (by decide) a5 HN.out, imp_old (by decide) a5, ne_new' (by decide) p4⟩)
      · intro d τ w' hd hn hI
        have HI := hideIt2 (HIN.out _ _ _ hI)
        have HD := hideIt2 hd
        have HN := hideIt2 hn
        clear hI hd hn
        have hA4 : d 4 := HD.out ⟨4, .data⟩ (by simp) rfl
        have hA5 : d 5 := HD.out ⟨5, .phase⟩ (by simp) rfl
        have hC : d 1 := HD.out ⟨1, .data⟩ (by simp) rfl
        obtain ⟨G, eG, hge, hz⟩ := (HI.out.2.2.2.2.2.2.1) hA4 HN.out
        obtain ⟨_, _, ep, ⟨gp, rfl, hrp⟩, ⟨gq, rfl, hrq⟩⟩ := (HI.out.2.2.1) hC
        have hp : PR w' (.pointer (some ⟨gp, 0, none⟩)) (rd px.data.toList) := ⟨gp, rfl, hrp⟩
        have hq : PR w' (.pointer (some ⟨gq, 0, none⟩)) (rd pz.data.toList) := ⟨gq, rfl, hrq⟩
        clear hrp hrq
        have hz4 := hz.all2
        have k0 := hz4.1
        have k1 := hz4.2.1
        have g0 := hz4.2.2.1
        have g1 := hz4.2.2.2
        have hlt := hz.lt
        have HZ := hideIt2 (And.intro hz (And.intro hge (And.intro hp hq)))
        have HA := hideIt2 ((And.intro hA4 hA5))
        clear hz4 hC hz hge hp hq hA4 hA5
        intro K hK
        simp only [putAll, Act.put, List.setIfInBounds_toArray, List.set_cons_zero, List.set_cons_succ, eG, ep] at hK ⊢
        go_simp
        obtain ⟨hb, f0, f1, f2, f3, p4, o4, v4, a4, p5, o5, v5, a5, n4_5⟩ := HI.out
        obtain ⟨hz, hge, hp, hq⟩ := HZ.out
        obtain ⟨hA4, hA5⟩ := HA.out
        exact hK.out undef _ (HMK.out _ _ _ ⟨bel_put2 hb hge _ _, fact_old (by decide) f0 (fun h => h), fact_old (by decide) f1 (fun h => h.put hz), fact_old (by decide) f2 (fun h => h), fact_old (by decide) f3 (fun h => h.put hz), fact_old (by decide) p4 (fun h => h.put), fact_zero_did, fact_did (by decide) (by rw [eG]; exact Vb.mk hge hz hp hq), (fun _ => Or.inr hA4), fact_old (by decide) p5 (fun h => h.put), fact_zero (by decide) o5 (fun h => h.put (by rw [← eG]; exact n4_5 hA4 hA5)), fact_two (by decide) (by decide) v5 (fun h => h.put hz (by rw [← eG]; exact n4_5 hA4 hA5)), imp_old (by decide) a5, ne_old (by decide) (by decide) n4_5⟩)
      · intro d τ w' hd hn hI
        have HI := hideIt2 (HIN.out _ _ _ hI)
        have HD := hideIt2 hd
        have HN := hideIt2 hn
        clear hI hd hn
        have hA4 : d 4 := HD.out ⟨4, .phase⟩ (by simp) rfl
        have hA5 : d 5 := HD.out ⟨5, .data⟩ (by simp) rfl
        have hC : d 3 := HD.out ⟨3, .data⟩ (by simp) rfl
        obtain ⟨G, eG, hge, hz⟩ := (HI.out.2.2.2.2.2.2.2.2.2.2.1) hA5 HN.out
        obtain ⟨_, _, ep, ⟨gp, rfl, hrp⟩, ⟨gq, rfl, hrq⟩⟩ := (HI.out.2.2.2.2.1) hC
        have hp : PR w' (.pointer (some ⟨gp, 0, none⟩)) (rd qx.data.toList) := ⟨gp, rfl, hrp⟩
        have hq : PR w' (.pointer (some ⟨gq, 0, none⟩)) (rd qz.data.toList) := ⟨gq, rfl, hrq⟩
        clear hrp hrq
        have hz4 := hz.all2
        have k0 := hz4.1
        have k1 := hz4.2.1
        have g0 := hz4.2.2.1
        have g1 := hz4.2.2.2
        have hlt := hz.lt
        have HZ := hideIt2 (And.intro hz (And.intro hge (And.intro hp hq)))
        have HA := hideIt2 ((And.intro hA4 hA5))
        clear hz4 hC hz hge hp hq hA4 hA5
        intro K hK
        simp only [putAll, Act.put, List.setIfInBounds_toArray, List.set_cons_zero, List.set_cons_succ, eG, ep] at hK ⊢
        go_simp
        obtain ⟨hb, f0, f1, f2, f3, p4, o4, v4, a4, p5, o5, v5, a5, n4_5⟩ := HI.out
        obtain ⟨hz, hge, hp, hq⟩ := HZ.out
        obtain ⟨hA4, hA5⟩ := HA.out
        exact hK.out undef _ (HMK.out _ _ _ ⟨bel_put2 hb hge _ _, fact_old (by decide) f0 (fun h => h), fact_old (by decide) f1 (fun h => h.put hz), fact_old (by decide) f2 (fun h => h), fact_old (by decide) f3 (fun h => h.put hz), fact_old (by decide) p4 (fun h => h.put), fact_zero (by decide) o4 (fun h => h.put (by rw [← eG]; exact (fun q => n4_5 hA4 hA5 q.symm))), fact_two (by decide) (by decide) v4 (fun h => h.put hz (by rw [← eG]; exact (fun q => n4_5 hA4 hA5 q.symm))), imp_old (by decide) a4, fact_old (by decide) p5 (fun h => h.put), fact_zero_did, fact_did (by decide) (by rw [eG]; exact Vb.mk hge hz hp hq), (fun _ => Or.inr hA5), ne_old (by decide) (by decide) n4_5⟩)
    · intro d τ wc hall hI
      have HI := hideIt2 (HIN.out _ _ _ hI)
      clear hI
      have hb := HI.out.1
      refine Vb.use ((HI.out.2.2.2.2.2.2.2.1) (hall 6 (by decide))) ?_
      intro G0 p0' q0' eG0 hg0 hk0 hp0 hq0
      refine Vb.use ((HI.out.2.2.2.2.2.2.2.2.2.2.2.1) (hall 7 (by decide))) ?_
      intro G1 p1' q1' eG1 hg1 hk1 hp1 hq1
      have hn4_5 : ¬ G0 = G1 := fun q => (HI.out.2.2.2.2.2.2.2.2.2.2.2.2.2) (hall 4 (by decide)) (hall 5 (by decide)) (by rw [eG0, eG1, q])
      simp only [putAll, Act.put, List.setIfInBounds_toArray, List.set_cons_zero, List.set_cons_succ, eG0, eG1]
      clear HI eG0 eG1 hall
      generalize τ 0 = t0
      generalize τ 1 = t1
      generalize τ 2 = t2
      generalize τ 3 = t3
      generalize τ 4 = t4
      generalize τ 5 = t5
      generalize τ 6 = t6
      generalize τ 7 = t7
      have HCF := hideIt2 (HKF11.out.below hb HKF11.out.lt)
      have HCG := hideIt2 (HKG11.out.below hb HKG11.out.lt)
      have HCM := hideIt2 (HKM11.out.below hb HKM11.out.lt)
      have HCNN := hideIt2 (HKNN11.out.below hb HKNN11.out.lt)
      have HCO := hideIt2 (HKO.out.below hb HKO.out.lt)
      have HBC := hideIt2 (bel_bel HB11.out hb)
      have HMC := hideIt2 (HMW.out.below hb)
      have HSC : Hid (∀ w', Below wc.heap.size wc w' → w'.cell? ⟨F, 0, none⟩ = some (.string fx) ∧ w'.cell? ⟨F, 1, none⟩ = some (.string fz) ∧ w'.cell? ⟨G, 0, none⟩ = some (.string gx) ∧ w'.cell? ⟨G, 1, none⟩ = some (.string gz) ∧ w'.cell? ⟨M, 0, none⟩ = some (.string mx) ∧ w'.cell? ⟨M, 1, none⟩ = some (.string mz) ∧ w'.cell? ⟨NN, 0, none⟩ = some (.string nx) ∧ w'.cell? ⟨NN, 1, none⟩ = some (.string nz) ∧ w'.cell? ⟨O, 0, none⟩ = some (.string ox) ∧ w'.cell? ⟨O, 1, none⟩ = some (.string oz) ∧ w'.cell? ⟨G0, 0, none⟩ = some p0' ∧ w'.cell? ⟨G0, 1, none⟩ = some q0' ∧ w'.cell? ⟨G1, 0, none⟩ = some p1' ∧ w'.cell? ⟨G1, 1, none⟩ = some q1') := fun w' hb => ⟨(HCF.out.below hb HCF.out.lt).cell 0, (HCF.out.below hb HCF.out.lt).cell 1, (HCG.out.below hb HCG.out.lt).cell 0, (HCG.out.below hb HCG.out.lt).cell 1, (HCM.out.below hb HCM.out.lt).cell 0, (HCM.out.below hb HCM.out.lt).cell 1, (HCNN.out.below hb HCNN.out.lt).cell 0, (HCNN.out.below hb HCNN.out.lt).cell 1, (HCO.out.below hb HCO.out.lt).cell 0, (HCO.out.below hb HCO.out.lt).cell 1, (hk0.below hb hk0.lt).cell 0, (hk0.below hb hk0.lt).cell 1, (hk1.below hb hk1.lt).cell 0, (hk1.below hb hk1.lt).cell 1⟩
      have HP := hideIt2 (And.intro hp0 (And.intro hq0 (And.intro hp1 hq1)))
      clear hb hg0 hg1 hk0 hk1 hp0 hq0 hp1 hq1 hn4_5
      have E1 : Hid ((rd ox.data.toList) = (rd px.data.toList) ∧ (rd oz.data.toList) = (rd pz.data.toList)) := by
        show _ ∧ _
        rw [TOx.out.1, TOz.out.1]
        exact mirror_twice _ _ _ _ _ _ _ (Rat.ne_of_gt (norm_pos HN.out)) TMx.out.1 TMz.out.1
      have E2 : Hid ((((rd px.data.toList) - (rd fx.data.toList)) * ((rd px.data.toList) - (rd fx.data.toList)) + ((rd pz.data.toList) - (rd fz.data.toList)) * ((rd pz.data.toList) - (rd fz.data.toList))) ≤ (((rd px.data.toList) - (rd gx.data.toList)) * ((rd px.data.toList) - (rd gx.data.toList)) + ((rd pz.data.toList) - (rd gz.data.toList)) * ((rd pz.data.toList) - (rd gz.data.toList)))) := sq_pos_le _ _ _ _ (norm_pos HN.out) (foot_far _ _ _ _ _ _ _ _ _ _ _ (Rat.ne_of_gt (norm_pos HN.out)) TFx.out.1 TFz.out.1 TGx.out.1 TGz.out.1)
      have E3 : Hid ((((rd mx.data.toList) - (rd nx.data.toList)) * ((rd mx.data.toList) - (rd nx.data.toList)) + ((rd mz.data.toList) - (rd nz.data.toList)) * ((rd mz.data.toList) - (rd nz.data.toList))) = (((rd px.data.toList) - (rd qx.data.toList)) * ((rd px.data.toList) - (rd qx.data.toList)) + ((rd pz.data.toList) - (rd qz.data.toList)) * ((rd pz.data.toList) - (rd qz.data.toList)))) := mirror_far _ _ _ _ _ _ _ _ _ _ _ (Rat.ne_of_gt (norm_pos HN.out)) TMx.out.1 TMz.out.1 TNNx.out.1 TNNz.out.1
      obtain ⟨z0, z1, z2, z3, z4, z5, z6, z7, z8, z9, z10, z11, z12, z13⟩ := HSC.out wc (Below.refl _ _)
      go_wp2_with fail
      go_region_held3 (fun w' => w'.cell? ⟨F, 0, none⟩ = some (.string fx) ∧ w'.cell? ⟨F, 1, none⟩ = some (.string fz) ∧ w'.cell? ⟨G, 0, none⟩ = some (.string gx) ∧ w'.cell? ⟨G, 1, none⟩ = some (.string gz) ∧ w'.cell? ⟨M, 0, none⟩ = some (.string mx) ∧ w'.cell? ⟨M, 1, none⟩ = some (.string mz) ∧ w'.cell? ⟨NN, 0, none⟩ = some (.string nx) ∧ w'.cell? ⟨NN, 1, none⟩ = some (.string nz) ∧ w'.cell? ⟨O, 0, none⟩ = some (.string ox) ∧ w'.cell? ⟨O, 1, none⟩ = some (.string oz) ∧ w'.cell? ⟨G0, 0, none⟩ = some p0' ∧ w'.cell? ⟨G0, 1, none⟩ = some q0' ∧ w'.cell? ⟨G1, 0, none⟩ = some p1' ∧ w'.cell? ⟨G1, 1, none⟩ = some q1') (first | (refine HSC.out _ ?_; (repeat' first | with_reducible exact hcl12 | with_reducible exact hcl11 | with_reducible exact hcl10 | with_reducible exact hcl9 | with_reducible exact hcl8 | with_reducible exact hcl7 | with_reducible exact hcl6 | with_reducible exact hcl5 | with_reducible exact hcl4 | with_reducible exact hcl3 | with_reducible exact hcl2 | with_reducible exact hcl1 | with_reducible exact Below.refl _ _ | with_reducible refine Below.new ?_ _ | with_reducible refine Below.drew ?_); done) | go_keep)
        (first
          | (have hq12 := hcl11; go_at_call 24; refine (refEq_calls ⟨_, rfl, (by repeat' first | with_reducible exact hv10 | with_reducible refine rv_new _ ?_ | with_reducible refine rv_drew ?_ | with_reducible refine rv_bel hc11 ?_)⟩ ⟨_, rfl, (by repeat' first | with_reducible exact hv11 | with_reducible refine rv_new _ ?_ | with_reducible refine rv_drew ?_)⟩ (((TMx.out.2.1.sub TNNx.out.2.1).mul (TMx.out.2.1.sub TNNx.out.2.1)).add ((TMz.out.2.1.sub TNNz.out.2.1).mul (TMz.out.2.1.sub TNNz.out.2.1))) (((Gpx.out.sub Gqx.out).mul (Gpx.out.sub Gqx.out)).add ((Gpz.out.sub Gqz.out).mul (Gpz.out.sub Gqz.out))) (by decide)).mono ?_; rintro e v12 ⟨hc12, rfl⟩; rw [decide_eq_true E3.out]; have hcl12 : Below wc.heap.size wc v12 := bel_bel (by repeat' first | with_reducible exact hcl11 | with_reducible exact hcl10 | with_reducible exact hcl9 | with_reducible exact hcl8 | with_reducible exact hcl7 | with_reducible exact hcl6 | with_reducible exact hcl5 | with_reducible exact hcl4 | with_reducible exact hcl3 | with_reducible exact hcl2 | with_reducible exact hcl1 | with_reducible exact Below.refl _ _ | with_reducible refine Below.new ?_ _ | with_reducible refine Below.drew ?_) hc12; have hs12 := HSC.out v12 hcl12)
          | (have hq11 := hcl10; go_at_call 35; refine (vFar2_calls ⟨_, _, rfl, HP.out.1.below (by repeat' first | with_reducible exact hcl10 | with_reducible exact hcl9 | with_reducible exact hcl8 | with_reducible exact hcl7 | with_reducible exact hcl6 | with_reducible exact hcl5 | with_reducible exact hcl4 | with_reducible exact hcl3 | with_reducible exact hcl2 | with_reducible exact hcl1 | with_reducible exact Below.refl _ _ | with_reducible refine Below.new ?_ _ | with_reducible refine Below.drew ?_), HP.out.2.1.below (by repeat' first | with_reducible exact hcl10 | with_reducible exact hcl9 | with_reducible exact hcl8 | with_reducible exact hcl7 | with_reducible exact hcl6 | with_reducible exact hcl5 | with_reducible exact hcl4 | with_reducible exact hcl3 | with_reducible exact hcl2 | with_reducible exact hcl1 | with_reducible exact Below.refl _ _ | with_reducible refine Below.new ?_ _ | with_reducible refine Below.drew ?_)⟩ ⟨_, _, rfl, HP.out.2.2.1.below (by repeat' first | with_reducible exact hcl10 | with_reducible exact hcl9 | with_reducible exact hcl8 | with_reducible exact hcl7 | with_reducible exact hcl6 | with_reducible exact hcl5 | with_reducible exact hcl4 | with_reducible exact hcl3 | with_reducible exact hcl2 | with_reducible exact hcl1 | with_reducible exact Below.refl _ _ | with_reducible refine Below.new ?_ _ | with_reducible refine Below.drew ?_), HP.out.2.2.2.below (by repeat' first | with_reducible exact hcl10 | with_reducible exact hcl9 | with_reducible exact hcl8 | with_reducible exact hcl7 | with_reducible exact hcl6 | with_reducible exact hcl5 | with_reducible exact hcl4 | with_reducible exact hcl3 | with_reducible exact hcl2 | with_reducible exact hcl1 | with_reducible exact Below.refl _ _ | with_reducible refine Below.new ?_ _ | with_reducible refine Below.drew ?_)⟩ Gpx.out Gpz.out Gqx.out Gqz.out (by decide)).mono ?_; rintro e v11 ⟨hc11, _, rfl, g11, rfl, hv11⟩; have hcl11 : Below wc.heap.size wc v11 := bel_bel (by repeat' first | with_reducible exact hcl10 | with_reducible exact hcl9 | with_reducible exact hcl8 | with_reducible exact hcl7 | with_reducible exact hcl6 | with_reducible exact hcl5 | with_reducible exact hcl4 | with_reducible exact hcl3 | with_reducible exact hcl2 | with_reducible exact hcl1 | with_reducible exact Below.refl _ _ | with_reducible refine Below.new ?_ _ | with_reducible refine Below.drew ?_) hc11; have hs11 := HSC.out v11 hcl11)
          | (have hq10 := hcl9; go_at_call 35; refine (vFar2_calls ⟨_, _, rfl, ⟨_, rfl, (by repeat' first | with_reducible exact hv8x | with_reducible refine rv_new _ ?_ | with_reducible refine rv_drew ?_ | with_reducible refine rv_bel hc9 ?_)⟩, ⟨_, rfl, (by repeat' first | with_reducible exact hv8z | with_reducible refine rv_new _ ?_ | with_reducible refine rv_drew ?_ | with_reducible refine rv_bel hc9 ?_)⟩⟩ ⟨_, _, rfl, ⟨_, rfl, (by repeat' first | with_reducible exact hv9x | with_reducible refine rv_new _ ?_ | with_reducible refine rv_drew ?_)⟩, ⟨_, rfl, (by repeat' first | with_reducible exact hv9z | with_reducible refine rv_new _ ?_ | with_reducible refine rv_drew ?_)⟩⟩ TMx.out.2.1 TMz.out.2.1 TNNx.out.2.1 TNNz.out.2.1 (by decide)).mono ?_; rintro e v10 ⟨hc10, _, rfl, g10, rfl, hv10⟩; have hcl10 : Below wc.heap.size wc v10 := bel_bel (by repeat' first | with_reducible exact hcl9 | with_reducible exact hcl8 | with_reducible exact hcl7 | with_reducible exact hcl6 | with_reducible exact hcl5 | with_reducible exact hcl4 | with_reducible exact hcl3 | with_reducible exact hcl2 | with_reducible exact hcl1 | with_reducible exact Below.refl _ _ | with_reducible refine Below.new ?_ _ | with_reducible refine Below.drew ?_) hc10; have hs10 := HSC.out v10 hcl10)
          | (have hq9 := hcl8; go_at_call_of 10 (Value.agg #[Value.string nx, Value.string nz]); refine (refP_calls nx nz _ (HMC.out.below (by repeat' first | with_reducible exact hcl8 | with_reducible exact hcl7 | with_reducible exact hcl6 | with_reducible exact hcl5 | with_reducible exact hcl4 | with_reducible exact hcl3 | with_reducible exact hcl2 | with_reducible exact hcl1 | with_reducible exact Below.refl _ _ | with_reducible refine Below.new ?_ _ | with_reducible refine Below.drew ?_)) (Nat.le_trans TNNx.out.2.2.2 (by decide)) (Nat.le_trans TNNz.out.2.2.2 (by decide))).mono ?_; rintro e v9 ⟨hc9, _, rfl, _, _, rfl, ⟨g9x, rfl, hv9x⟩, ⟨g9z, rfl, hv9z⟩⟩; have hcl9 : Below wc.heap.size wc v9 := bel_bel (by repeat' first | with_reducible exact hcl8 | with_reducible exact hcl7 | with_reducible exact hcl6 | with_reducible exact hcl5 | with_reducible exact hcl4 | with_reducible exact hcl3 | with_reducible exact hcl2 | with_reducible exact hcl1 | with_reducible exact Below.refl _ _ | with_reducible refine Below.new ?_ _ | with_reducible refine Below.drew ?_) hc9; have hs9 := HSC.out v9 hcl9)
          | (have hq8 := hcl7; go_at_call_of 10 (Value.agg #[Value.string mx, Value.string mz]); refine (refP_calls mx mz _ (HMC.out.below (by repeat' first | with_reducible exact hcl7 | with_reducible exact hcl6 | with_reducible exact hcl5 | with_reducible exact hcl4 | with_reducible exact hcl3 | with_reducible exact hcl2 | with_reducible exact hcl1 | with_reducible exact Below.refl _ _ | with_reducible refine Below.new ?_ _ | with_reducible refine Below.drew ?_)) (Nat.le_trans TMx.out.2.2.2 (by decide)) (Nat.le_trans TMz.out.2.2.2 (by decide))).mono ?_; rintro e v8 ⟨hc8, _, rfl, _, _, rfl, ⟨g8x, rfl, hv8x⟩, ⟨g8z, rfl, hv8z⟩⟩; have hcl8 : Below wc.heap.size wc v8 := bel_bel (by repeat' first | with_reducible exact hcl7 | with_reducible exact hcl6 | with_reducible exact hcl5 | with_reducible exact hcl4 | with_reducible exact hcl3 | with_reducible exact hcl2 | with_reducible exact hcl1 | with_reducible exact Below.refl _ _ | with_reducible refine Below.new ?_ _ | with_reducible refine Below.drew ?_) hc8; have hs8 := HSC.out v8 hcl8)
          | (have hq7 := hcl6; go_at_call 36; refine (ratCmp_calls (by repeat' first | with_reducible exact hv4 | with_reducible refine rv_new _ ?_ | with_reducible refine rv_drew ?_ | with_reducible refine rv_bel hc6 ?_ | with_reducible refine rv_bel hc5 ?_) (by repeat' first | with_reducible exact hv6 | with_reducible refine rv_new _ ?_ | with_reducible refine rv_drew ?_) (((Gpx.out.sub TFx.out.2.1).mul (Gpx.out.sub TFx.out.2.1)).add ((Gpz.out.sub TFz.out.2.1).mul (Gpz.out.sub TFz.out.2.1))) (((Gpx.out.sub TGx.out.2.1).mul (Gpx.out.sub TGx.out.2.1)).add ((Gpz.out.sub TGz.out.2.1).mul (Gpz.out.sub TGz.out.2.1))) (by decide)).mono ?_; rintro e v7 ⟨hc7, c7, rfl, hlt7, heq7⟩; have hle7 : c7 ≤ 0 := cmp_le E2.out hlt7 heq7; clear hlt7 heq7; have hcl7 : Below wc.heap.size wc v7 := bel_bel (by repeat' first | with_reducible exact hcl6 | with_reducible exact hcl5 | with_reducible exact hcl4 | with_reducible exact hcl3 | with_reducible exact hcl2 | with_reducible exact hcl1 | with_reducible exact Below.refl _ _ | with_reducible refine Below.new ?_ _ | with_reducible refine Below.drew ?_) hc7; have hs7 := HSC.out v7 hcl7)
          | (have hq6 := hcl5; go_at_call 35; refine (vFar2_calls ⟨_, _, rfl, HP.out.1.below (by repeat' first | with_reducible exact hcl5 | with_reducible exact hcl4 | with_reducible exact hcl3 | with_reducible exact hcl2 | with_reducible exact hcl1 | with_reducible exact Below.refl _ _ | with_reducible refine Below.new ?_ _ | with_reducible refine Below.drew ?_), HP.out.2.1.below (by repeat' first | with_reducible exact hcl5 | with_reducible exact hcl4 | with_reducible exact hcl3 | with_reducible exact hcl2 | with_reducible exact hcl1 | with_reducible exact Below.refl _ _ | with_reducible refine Below.new ?_ _ | with_reducible refine Below.drew ?_)⟩ ⟨_, _, rfl, ⟨_, rfl, (by repeat' first | with_reducible exact hv5x | with_reducible refine rv_new _ ?_ | with_reducible refine rv_drew ?_)⟩, ⟨_, rfl, (by repeat' first | with_reducible exact hv5z | with_reducible refine rv_new _ ?_ | with_reducible refine rv_drew ?_)⟩⟩ (QS.mono (l := 46137411) Gpx.out (by decide)) (QS.mono (l := 46137411) Gpz.out (by decide)) TGx.out.2.1 TGz.out.2.1 (by decide)).mono ?_; rintro e v6 ⟨hc6, _, rfl, g6, rfl, hv6⟩; have hcl6 : Below wc.heap.size wc v6 := bel_bel (by repeat' first | with_reducible exact hcl5 | with_reducible exact hcl4 | with_reducible exact hcl3 | with_reducible exact hcl2 | with_reducible exact hcl1 | with_reducible exact Below.refl _ _ | with_reducible refine Below.new ?_ _ | with_reducible refine Below.drew ?_) hc6; have hs6 := HSC.out v6 hcl6)
          | (have hq5 := hcl4; go_at_call_of 10 (Value.agg #[Value.string gx, Value.string gz]); refine (refP_calls gx gz _ (HMC.out.below (by repeat' first | with_reducible exact hcl4 | with_reducible exact hcl3 | with_reducible exact hcl2 | with_reducible exact hcl1 | with_reducible exact Below.refl _ _ | with_reducible refine Below.new ?_ _ | with_reducible refine Below.drew ?_)) (Nat.le_trans TGx.out.2.2.2 (by decide)) (Nat.le_trans TGz.out.2.2.2 (by decide))).mono ?_; rintro e v5 ⟨hc5, _, rfl, _, _, rfl, ⟨g5x, rfl, hv5x⟩, ⟨g5z, rfl, hv5z⟩⟩; have hcl5 : Below wc.heap.size wc v5 := bel_bel (by repeat' first | with_reducible exact hcl4 | with_reducible exact hcl3 | with_reducible exact hcl2 | with_reducible exact hcl1 | with_reducible exact Below.refl _ _ | with_reducible refine Below.new ?_ _ | with_reducible refine Below.drew ?_) hc5; have hs5 := HSC.out v5 hcl5)
          | (have hq4 := hcl3; go_at_call 35; refine (vFar2_calls ⟨_, _, rfl, HP.out.1.below (by repeat' first | with_reducible exact hcl3 | with_reducible exact hcl2 | with_reducible exact hcl1 | with_reducible exact Below.refl _ _ | with_reducible refine Below.new ?_ _ | with_reducible refine Below.drew ?_), HP.out.2.1.below (by repeat' first | with_reducible exact hcl3 | with_reducible exact hcl2 | with_reducible exact hcl1 | with_reducible exact Below.refl _ _ | with_reducible refine Below.new ?_ _ | with_reducible refine Below.drew ?_)⟩ ⟨_, _, rfl, ⟨_, rfl, (by repeat' first | with_reducible exact hv3x | with_reducible refine rv_new _ ?_ | with_reducible refine rv_drew ?_)⟩, ⟨_, rfl, (by repeat' first | with_reducible exact hv3z | with_reducible refine rv_new _ ?_ | with_reducible refine rv_drew ?_)⟩⟩ (QS.mono (l := 46137411) Gpx.out (by decide)) (QS.mono (l := 46137411) Gpz.out (by decide)) TFx.out.2.1 TFz.out.2.1 (by decide)).mono ?_; rintro e v4 ⟨hc4, _, rfl, g4, rfl, hv4⟩; have hcl4 : Below wc.heap.size wc v4 := bel_bel (by repeat' first | with_reducible exact hcl3 | with_reducible exact hcl2 | with_reducible exact hcl1 | with_reducible exact Below.refl _ _ | with_reducible refine Below.new ?_ _ | with_reducible refine Below.drew ?_) hc4; have hs4 := HSC.out v4 hcl4)
          | (have hq3 := hcl2; go_at_call_of 10 (Value.agg #[Value.string fx, Value.string fz]); refine (refP_calls fx fz _ (HMC.out.below (by repeat' first | with_reducible exact hcl2 | with_reducible exact hcl1 | with_reducible exact Below.refl _ _ | with_reducible refine Below.new ?_ _ | with_reducible refine Below.drew ?_)) (Nat.le_trans TFx.out.2.2.2 (by decide)) (Nat.le_trans TFz.out.2.2.2 (by decide))).mono ?_; rintro e v3 ⟨hc3, _, rfl, _, _, rfl, ⟨g3x, rfl, hv3x⟩, ⟨g3z, rfl, hv3z⟩⟩; have hcl3 : Below wc.heap.size wc v3 := bel_bel (by repeat' first | with_reducible exact hcl2 | with_reducible exact hcl1 | with_reducible exact Below.refl _ _ | with_reducible refine Below.new ?_ _ | with_reducible refine Below.drew ?_) hc3; have hs3 := HSC.out v3 hcl3)
          | (have hq2 := hcl1; go_at_call 12; refine (vSame_calls ⟨_, _, rfl, ⟨_, rfl, (by repeat' first | with_reducible exact hv1x | with_reducible refine rv_new _ ?_ | with_reducible refine rv_drew ?_)⟩, ⟨_, rfl, (by repeat' first | with_reducible exact hv1z | with_reducible refine rv_new _ ?_ | with_reducible refine rv_drew ?_)⟩⟩ ⟨_, _, rfl, HP.out.1.below (by repeat' first | with_reducible exact hcl1 | with_reducible exact Below.refl _ _ | with_reducible refine Below.new ?_ _ | with_reducible refine Below.drew ?_), HP.out.2.1.below (by repeat' first | with_reducible exact hcl1 | with_reducible exact Below.refl _ _ | with_reducible refine Below.new ?_ _ | with_reducible refine Below.drew ?_)⟩ TOx.out.2.1 TOz.out.2.1 (QS.mono (l := 507511533) Gpx.out (by decide)) (QS.mono (l := 507511533) Gpz.out (by decide)) (by decide)).mono ?_; rintro e v2 ⟨hc2, rfl⟩; rw [decide_eq_true E1.out]; have hcl2 : Below wc.heap.size wc v2 := bel_bel (by repeat' first | with_reducible exact hcl1 | with_reducible exact Below.refl _ _ | with_reducible refine Below.new ?_ _ | with_reducible refine Below.drew ?_) hc2; have hs2 := HSC.out v2 hcl2)
          | (go_at_call_of 10 (Value.agg #[Value.string ox, Value.string oz]); refine (refP_calls ox oz _ (HMC.out.below (by repeat' first | with_reducible exact Below.refl _ _ | with_reducible refine Below.new ?_ _ | with_reducible refine Below.drew ?_)) (Nat.le_trans TOx.out.2.2.2 (by decide)) (Nat.le_trans TOz.out.2.2.2 (by decide))).mono ?_; rintro e v1 ⟨hc1, _, rfl, _, _, rfl, ⟨g1x, rfl, hv1x⟩, ⟨g1z, rfl, hv1z⟩⟩; have hcl1 : Below wc.heap.size wc v1 := bel_bel (by repeat' first | with_reducible exact Below.refl _ _ | with_reducible refine Below.new ?_ _ | with_reducible refine Below.drew ?_) hc1; have hs1 := HSC.out v1 hcl1)
          )
      all_goals
        go_wp2
        go_ret
        exact ⟨bel_bel HB0.out (bel_bel HBC.out hcl12), by first | rfl | simp⟩
end Go.Proofs.YtpalknbmejachaaGreatDoor
