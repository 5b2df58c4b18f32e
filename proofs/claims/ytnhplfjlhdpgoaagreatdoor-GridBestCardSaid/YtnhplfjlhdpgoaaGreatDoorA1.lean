/- Part 1 of the walks and of the mathematics under them: RegInv Math Base NumA NumB BA NumC BB NumD BC Math2 NumE MathK MathS MathL MathM MathN BD NumF NumG NumH NumI. -/
import Derived.Deep.RegionHeld3
import Derived.Test.YtnhplfjlhdpgoaaGreatDoorProg
import Derived.WalkKit
import Derived.WalkSpells
import Derived.Deep.QuietTactic
import Derived.BigQuiet
import Derived.Lib.SliceRun
set_option maxHeartbeats 16000000
set_option maxRecDepth 100000
/- RegInv -/
namespace Cx
open Go
def Qi (a0 : Act) (τ : Nat→Value) : Nat→List Oper→Act
 | _,[] => a0
 | i,o :: os => Qi (a0.put o.dst (τ i)) τ (i+1) os
def Ya (τ : Nat→Value) (i : Nat) (v : Value) : Nat→Value := fun j => if j=i then v else τ j
theorem YG (τ : Nat→Value) (i : Nat) (v : Value) : Ya τ i v i=v := if_pos rfl
theorem QQ (τ : Nat→Value) {i j : Nat} (v : Value) (h : j ≠ i) : Ya τ i v j=τ j := if_neg h
theorem Oa (τ : Nat→Value) (v : Value) (k : Nat) : ∀ (os : List Oper) (a0 : Act) (i : Nat),k < i→Qi a0 (Ya τ k v) i os=Qi a0 τ i os
 | [],_,_,_ => rfl
 | o :: os,a0,i,h => by
  show Qi (a0.put o.dst (Ya τ k v i)) _ (i+1) os=_
  rw [QQ τ v (by omega : i ≠ k),Oa τ v k os _ (i+1) (by omega)]
  rfl
theorem Ll (a : Act) (d : Option Tmp) (u v : Value) : (a.put d u).put d v=a.put d v := by
 cases d with
 | none => rfl
 | some d => simp [Act.put]
theorem Hj (a : Act) {d e : Option Tmp} (u v : Value) (h : ∀ x,d=some x→e ≠ some x) : (a.put d u).put e v=(a.put e v).put d u := by
 cases d with
 | none => rfl
 | some d =>
  cases e with
  | none => rfl
  | some e =>
   have hne : d ≠ e := fun q => h d rfl (by rw [q])
   simp only [Act.put]
   rw [Array.setIfInBounds_comm _ _ hne]
theorem TS (τ : Nat→Value) (d : Option Tmp) (v : Value) : ∀ (os : List Oper) (b : Act) (i : Nat),(∀ x,d=some x→x ∉ os.filterMap (·.dst))→(Qi b τ i os).put d v=Qi (b.put d v) τ i os
 | [],_,_,_ => rfl
 | o :: os,b,i,h => by
  show (Qi (b.put o.dst (τ i)) τ (i+1) os).put d v=Qi ((b.put d v).put o.dst (τ i)) τ (i+1) os
  rw [TS τ d v os _ (i+1) (fun x hx hm => h x hx (by
   cases ho : o.dst with
   | none => rw [List.filterMap_cons_none ho]; exact hm
   | some y => rw [List.filterMap_cons_some ho]; exact List.mem_cons_of_mem _ hm))]
  rw [Hj]
  intro x hx hd
  refine h x hd ?_
  rw [List.filterMap_cons_some hx]
  exact List.mem_cons_self
theorem Ow (τ : Nat→Value) (v : Value) : ∀ (os : List Oper) (a0 : Act) (i k : Nat) (o : Oper),(os.filterMap (·.dst)).Nodup→os[k]? = some o →
  (Qi a0 τ i os).put o.dst v=Qi a0 (Ya τ (i+k) v) i os
 | [],_,_,_,_,_,h => by simp at h
 | p :: os,a0,i,0,o,hn,h => by
  have e : p=o := by simpa using h
  subst e
  show (Qi (a0.put p.dst (τ i)) τ (i+1) os).put p.dst v=Qi (a0.put p.dst (Ya τ i v i)) (Ya τ i v) (i+1) os
  have hnot : ∀ x,p.dst=some x→x ∉ os.filterMap (·.dst) := fun x hx => by
   rw [List.filterMap_cons_some hx] at hn
   exact (List.nodup_cons.1 hn).1
  rw [TS τ _ v os _ _ hnot,Ll,YG,Oa τ v i os _ (i+1) (by omega)]
 | p :: os,a0,i,k+1,o,hn,h => by
  have h' : os[k]? = some o := by simpa using h
  have hn' : (os.filterMap (·.dst)).Nodup := by
   cases hp : p.dst with
   | none => rwa [List.filterMap_cons_none hp] at hn
   | some y => rw [List.filterMap_cons_some hp] at hn; exact (List.nodup_cons.1 hn).2
  show (Qi (a0.put p.dst (τ i)) τ (i+1) os).put o.dst v=Qi (a0.put p.dst (Ya τ (i+(k+1)) v i)) (Ya τ (i+(k+1)) v) (i+1) os
  rw [Ow τ v os _ (i+1) k o hn' h',QQ τ v (by omega : i ≠ i+(k+1))]
  rw [show i+1+k=i+(k+1) by omega]
def ZJ (a0 : Act) (os : List Oper) : Nat→Value := fun j => match (os[j]?).bind (·.dst) with
 | some d => a0.tmps.getD d undef
 | none => undef
theorem Lq (a : Act) (d : Tmp) : a.put (some d) (a.tmps.getD d undef)=a := by
 show { a with tmps := a.tmps.setIfInBounds d (a.tmps.getD d undef) }=a
 have : a.tmps.setIfInBounds d (a.tmps.getD d undef)=a.tmps := by
  apply Array.ext
  ·simp
  ·intro i h1 h2
   by_cases hi : d=i
   ·subst hi
    simp [Array.getD,h2]
   ·rw [Array.getElem_setIfInBounds_ne h2 hi]
 rw [this]
theorem Vm (a0 : Act) (all : List Oper) : ∀ (os : List Oper) (i : Nat),(∀ k,os[k]? = all[i+k]?)→Qi a0 (ZJ a0 all) i os=a0
 | [],_,_ => rfl
 | o :: os,i,h => by
  show Qi (a0.put o.dst (ZJ a0 all i)) _ (i+1) os=a0
  have h0 : some o=all[i]? := by simpa using h 0
  have e : a0.put o.dst (ZJ a0 all i)=a0 := by
   unfold ZJ
   rw [← h0]
   cases hd : o.dst with
   | none => rfl
   | some d => simpa [hd] using Lq a0 d
  rw [e]
  exact Vm a0 all os (i+1) (fun k => by have := h (k+1); simp at this; rw [this]; congr 1; omega)
section
variable (P : Program) (Q : Exit→Act→World→Prop) (all : List Oper) (a0 : Act) (Inv : (Nat→Prop)→(Nat→Value)→World→Prop)
def Dq (i : Nat) (o : Oper) : Prop :=
 ∀ (d : Nat→Prop) (τ : Nat→Value) (w : World),(∀ e ∈ o.after,Region.binds .any e=true→d e.on)→¬ d i→Inv d τ w →
  ∀ K : Act→World→Prop,Shut (∀ v w',Inv (fun j => j=i ∨ d j) (Ya τ i v) w'→K ((Qi a0 τ 0 all).put o.dst v) w') →
   if Region.wanted o (yielded all.toArray (Qi a0 τ 0 all).tmps)=true then Oper.wp P o (Qi a0 τ 0 all) w K Q else K ((Qi a0 τ 0 all).put o.dst undef) w
def OpSteps : Nat→List Oper→Prop
 | _,[] => True
 | i,o :: os => Dq P Q all a0 Inv i o∧OpSteps (i+1) os
end
theorem OpSteps.get {P : Program} {Q : Exit→Act→World→Prop} {all : List Oper} {a0 : Act} {Inv : (Nat→Prop)→(Nat→Value)→World→Prop} : ∀ {os : List Oper} {i k : Nat} {o : Oper},OpSteps P Q all a0 Inv i os→os[k]? = some o→Dq P Q all a0 Inv (i+k) o
 | [],_,_,_,_,h => by simp at h
 | p :: os,i,0,o,hs,h => by
  have e : p=o := by simpa using h
  subst e
  exact hs.1
 | p :: os,i,k+1,o,hs,h => by
  have h' : os[k]? = some o := by simpa using h
  have := OpSteps.get hs.2 h'
  rwa [show i+1+k=i+(k+1) by omega] at this
theorem OpSteps.nil {P : Program} {Q : Exit→Act→World→Prop} {all : List Oper} {a0 : Act} {Inv : (Nat→Prop)→(Nat→Value)→World→Prop} {i : Nat} : OpSteps P Q all a0 Inv i [] := trivial
theorem OpSteps.cons {P : Program} {Q : Exit→Act→World→Prop} {all : List Oper} {a0 : Act} {Inv : (Nat→Prop)→(Nat→Value)→World→Prop} {i : Nat} {o : Oper} {os : List Oper} (h : Dq P Q all a0 Inv i o) (hs : OpSteps P Q all a0 Inv (i+1) os) : OpSteps P Q all a0 Inv i (o :: os) := ⟨h,hs⟩
def topoOps : Nat→List Oper→Bool
 | _,[] => true
 | i,o :: os => o.after.all (fun e => !Region.binds .any e || decide (e.on < i)) && topoOps (i+1) os
theorem topoOps.get : ∀ {os : List Oper} {i k : Nat} {o : Oper},topoOps i os=true→os[k]? = some o→∀ e ∈ o.after,Region.binds .any e=true→e.on < i+k
 | [],_,_,_,_,h => by simp at h
 | p :: os,i,0,o,ht,h => by
  have e : p=o := by simpa using h
  subst e
  simp only [topoOps,Bool.and_eq_true,Array.all_eq_true_iff_forall_mem,Bool.or_eq_true,Bool.not_eq_true',decide_eq_true_eq] at ht
  intro e he hb
  rcases ht.1 e he with h | h
  ·rw [hb] at h; cases h
  ·exact h
 | p :: os,i,k+1,o,ht,h => by
  have h' : os[k]? = some o := by simpa using h
  simp only [topoOps,Bool.and_eq_true] at ht
  have := topoOps.get ht.2 h'
  intro e he hb
  have := this e he hb
  omega
theorem Kb {os : List Oper} (ht : topoOps 0 os=true) {l : Array Bool} (hl : l.size=os.length) (hr : Region.ready .any os.toArray l=[]) : ∀ j,j < os.length→l.getD j false=true := by
 intro j
 induction j using Nat.strongRecOn with
 | ind j ih =>
  intro hj
  have hlj : j < l.size := by omega
  by_cases h : l.getD j false=true
  ·exact h
  ·exfalso
   obtain ⟨o,ho⟩ : ∃ o,os[j]? = some o := ⟨os[j],by simp [hj]⟩
   have hm : j ∈ Region.ready .any os.toArray l := mem_ready.2 ⟨by
    have : l.getD j false=false := by simpa using h
    simpa [Array.getD,hlj] using this,o,by simpa using ho,fun e he hb => ih e.on (by have := topoOps.get ht ho e he hb; omega) (by have := topoOps.get ht ho e he hb; omega)⟩
   rw [hr] at hm
   cases hm
theorem NK {P : Program} {Q : Exit→Act→World→Prop} {os : List Oper} {a0 : Act} {Inv : (Nat→Prop)→(Nat→Value)→World→Prop}
  (hn : (os.filterMap (·.dst)).Nodup) (ht : topoOps 0 os=true) (hs : OpSteps P Q os a0 Inv 0 os)
  (hd : ∀ d τ w,(∀ j,j < os.length→d j)→Inv d τ w→Q .normal (Qi a0 τ 0 os) w) :
  ∀ (fuel : Nat) (l : Array Bool) (τ : Nat→Value) (w : World),l.size=os.length→(List.range os.length).countP (fun i => !l.getD i true)≤fuel→Inv (fun j => l.getD j false=true) τ w →
   wpAny P .any os.toArray Q fuel l (Qi a0 τ 0 os) w := by
 intro fuel
 induction fuel with
 | zero =>
  intro l τ w hl hc hI
  have hr : Region.ready .any os.toArray l=[] := by
   rw [List.eq_nil_iff_forall_not_mem]
   intro j hj
   obtain ⟨h1,o,ho,_⟩ := mem_ready.1 hj
   have hj' : j < os.length := by
    have := (Array.getElem?_eq_some_iff.1 ho).1
    simpa using this
   have hp : 0 < (List.range os.length).countP (fun i => !l.getD i true) := List.countP_pos_iff.2 ⟨j,List.mem_range.2 hj',by simp only [h1]; rfl⟩
   omega
  exact ⟨hr,hd _ τ w (Kb ht hl hr) hI⟩
 | succ fuel ih =>
  intro l τ w hl hc hI
  refine ⟨fun hr => hd _ τ w (Kb ht hl hr) hI,fun i hi => ?_⟩
  obtain ⟨h1,o,ho,haft⟩ := mem_ready.1 hi
  have hi' : i < os.length := by
   have := (Array.getElem?_eq_some_iff.1 ho).1
   simpa using this
  have ho' : os[i]? = some o := by simpa using ho
  have hst := OpSteps.get hs ho'
  rw [Nat.zero_add] at hst
  refine wpOp_step ho (fun K hK => hst _ τ w haft (fun hc => by
   have hlt : i < l.size := by omega
   simp [Array.getD,hlt] at h1 hc
   rw [h1] at hc
   cases hc) hI K (fun v w' hI' => hK _ _ ?_))
  rw [Ow τ v os a0 0 i o hn ho',Nat.zero_add]
  have IJ : (fun j => (l.setIfInBounds i true).getD j false=true)=(fun j => j=i ∨ l.getD j false=true) := by
   funext j
   apply propext
   by_cases hij : i=j
   ·subst hij
    have : i < l.size := by omega
    simp [Array.getD,this]
   ·rw [getD_set_ne false hij]
    constructor
    ·exact Or.inr
    ·rintro (h | h)
     ·exact absurd h.symm hij
     ·exact h
  refine ih (l.setIfInBounds i true) (Ya τ i v) w' (by simpa using hl) ?_ (by rw [IJ]; exact hI')
  have hlt : (List.range os.length).countP (fun j => !(l.setIfInBounds i true).getD j true) < (List.range os.length).countP (fun j => !l.getD j true) := by
   have hsplit := List.mem_range.2 hi'
   obtain ⟨s,t,e⟩ := List.append_of_mem hsplit
   have hnd : (List.range os.length).Nodup := List.nodup_range
   rw [e] at hnd ⊢
   have hmono : ∀ (u : List Nat),i ∉ u→u.countP (fun j => !(l.setIfInBounds i true).getD j true)=u.countP (fun j => !l.getD j true) := by
    intro u hu
    apply List.countP_congr
    intro x hx
    have hne : i ≠ x := fun q => hu (q ▸ hx)
    rw [getD_set_ne true hne]
   have hsn : i ∉ s := fun h => by
    have := List.nodup_append.1 hnd
    exact this.2.2 i h i List.mem_cons_self rfl
   have htn : i ∉ t := (List.nodup_cons.1 (List.nodup_append.1 hnd).2.1).1
   rw [List.countP_append,List.countP_append,hmono s hsn,List.countP_cons,List.countP_cons,hmono t htn]
   have h2 : (l.setIfInBounds i true).getD i true=true := by
    have : i < l.size := by omega
    simp [Array.getD,this]
   rw [h2,h1]
   simp
  omega
end Cx
/- Math -/
namespace Cx
def val : List Nat→Nat
 | [] => 0
 | x :: l => x+4294967296*val l
def Lim (l : List Nat) : Prop := ∀ x,x ∈ l→x < 4294967296
def nth (l : List Nat) (k : Nat) : Nat := l.getD k 0
def pw (k : Nat) : Nat := 4294967296 ^ k
theorem pw_zero : pw 0=1 := rfl
theorem Qx (k : Nat) : pw (k+1)=4294967296*pw k := by unfold pw; rw [Nat.pow_succ,Nat.mul_comm]
theorem Xv (k : Nat) : 0 < pw k := by unfold pw; exact Nat.pow_pos (by omega)
theorem DS (a b : Nat) : pw (a+b)=pw a*pw b := by unfold pw; exact Nat.pow_add _ _ _
theorem QF {l : List Nat} (h : Lim l) (k : Nat) : nth l k < 4294967296 := by
 unfold nth
 by_cases hk : k < l.length
 ·rw [List.getD_eq_getElem?_getD,List.getElem?_eq_getElem hk]; exact h _ (List.getElem_mem hk)
 ·rw [List.getD_eq_getElem?_getD,List.getElem?_eq_none (by omega)]; decide
theorem Vn (x : Nat) (l : List Nat) : nth (x :: l) 0=x := rfl
theorem Wh (x : Nat) (l : List Nat) (k : Nat) : nth (x :: l) (k+1)=nth l k := rfl
theorem QL {l : List Nat} {k : Nat} (h : l.length≤k) : nth l k=0 := by
 unfold nth; rw [List.getD_eq_getElem?_getD,List.getElem?_eq_none h]; rfl
theorem Xx {l : List Nat} {k : Nat} (h : k < l.length) : nth l k=l[k] := by
 unfold nth; rw [List.getD_eq_getElem?_getD,List.getElem?_eq_getElem h]; rfl
theorem Lim.nil : Lim [] := by intro x hx; cases hx
theorem Lim.cons {x : Nat} {l : List Nat} (hx : x < 4294967296) (h : Lim l) : Lim (x :: l) := by
 intro y hy; rcases List.mem_cons.1 hy with rfl | hy
 ·exact hx
 ·exact h y hy
theorem Lim.head {x : Nat} {l : List Nat} (h : Lim (x :: l)) : x < 4294967296 := h x (List.mem_cons_self)
theorem Lim.tail {x : Nat} {l : List Nat} (h : Lim (x :: l)) : Lim l := fun y hy => h y (List.mem_cons_of_mem _ hy)
theorem Lim.take {l : List Nat} (h : Lim l) (k : Nat) : Lim (l.take k) := fun y hy => h y (List.mem_of_mem_take hy)
theorem Lim.drop {l : List Nat} (h : Lim l) (k : Nat) : Lim (l.drop k) := fun y hy => h y (List.mem_of_mem_drop hy)
theorem Lim.append {l m : List Nat} (h : Lim l) (h' : Lim m) : Lim (l ++ m) := fun y hy => by
 rcases List.mem_append.1 hy with hy | hy
 ·exact h y hy
 ·exact h' y hy
theorem Us : val []=0 := rfl
theorem Vs (x : Nat) (l : List Nat) : val (x :: l)=x+4294967296*val l := rfl
theorem Ju (l m : List Nat) : val (l ++ m)=val l+pw l.length*val m := by
 induction l with
 | nil => simp [val,pw]
 | cons x l ih =>
  simp only [List.cons_append,Vs,ih,List.length_cons,Qx]
  rw [Nat.mul_add,Nat.mul_assoc,Nat.add_assoc]
theorem NZ (l : List Nat) (x : Nat) : val (l ++ [x])=val l+pw l.length*x := by
 rw [Ju]; simp [val]
theorem ND {l : List Nat} {k : Nat} (h : k < l.length) : l.take (k+1)=l.take k ++ [nth l k] := by
 rw [List.take_succ_eq_append_getElem h,Xx h]
theorem Qf (l : List Nat) (k : Nat) : val (l.take (k+1))=val (l.take k)+pw k*nth l k := by
 by_cases h : k < l.length
 ·rw [ND h,NZ,List.length_take,Nat.min_eq_left (by omega)]
 ·rw [List.take_of_length_le (by omega),List.take_of_length_le (by omega),QL (by omega)]; simp
theorem ZB {l : List Nat} (h : Lim l) : val l < pw l.length := by
 induction l with
 | nil => simp [val,pw]
 | cons x l ih =>
  have h1 := ih h.tail
  have h2 := h.head
  simp only [Vs,List.length_cons,Qx]
  omega
theorem Jl {l : List Nat} (h : Lim l) (k : Nat) : val (l.take k) < pw k := by
 by_cases hk : k≤l.length
 ·have := ZB (h.take k); rwa [List.length_take,Nat.min_eq_left hk] at this
 ·rw [List.take_of_length_le (by omega)]
  have h1 := ZB h
  have h2 : pw l.length≤pw k := Nat.pow_le_pow_right (by omega) (by omega)
  omega
theorem Xm (l : List Nat) (k : Nat) (hk : k≤l.length) : val l=val (l.take k)+pw k*val (l.drop k) := by
 conv => lhs; rw [← List.take_append_drop k l]
 rw [Ju,List.length_take,Nat.min_eq_left hk]
def Trim (l : List Nat) : Prop := l=[] ∨ nth l (l.length - 1) ≠ 0
def sig : List Nat→Nat
 | [] => 0
 | x :: l => if sig l=0 then (if x=0 then 0 else 1) else sig l+1
theorem IZ (l : List Nat) : sig l≤l.length := by
 induction l with
 | nil => exact Nat.le_refl _
 | cons x l ih => simp only [sig,List.length_cons]; split <;> (try split) <;> omega
theorem Km (l : List Nat) (k : Nat) (h : sig l≤k) : nth l k=0 := by
 induction l generalizing k with
 | nil => rfl
 | cons x l ih =>
  simp only [sig] at h
  cases k with
  | zero =>
   rw [Vn]
   split at h
   ·split at h
    ·assumption
    ·omega
   ·omega
  | succ k =>
   rw [Wh]
   refine ih k ?_
   split at h <;> omega
theorem Be (l : List Nat) (h : sig l ≠ 0) : nth l (sig l - 1) ≠ 0 := by
 induction l with
 | nil => exact absurd rfl h
 | cons x l ih =>
  by_cases hs : sig l=0
  ·simp only [sig,hs,if_true] at h ⊢
   by_cases hx : x=0
   ·simp [hx] at h
   ·simp [hx,Vn]
  ·have e : sig (x :: l)=sig l+1 := by simp [sig,hs]
   rw [e]
   have : sig l+1 - 1=(sig l - 1)+1 := by omega
   rw [this,Wh]
   exact ih hs
theorem Uw {l : List Nat} {n : Nat} (_h0 : n≤l.length) (h1 : ∀ k,n≤k→nth l k=0) (h2 : n=0 ∨ nth l (n - 1) ≠ 0) : sig l=n := by
 rcases Nat.lt_trichotomy (sig l) n with h | h | h
 ·rcases h2 with h2 | h2
  ·omega
  ·exact absurd (Km l (n - 1) (by omega)) h2
 ·exact h
 ·exact absurd (h1 (sig l - 1) (by omega)) (Be l (by omega))
def strip (l : List Nat) : List Nat := l.take (sig l)
theorem Js (l : List Nat) : (strip l).length=sig l := by
 unfold strip; rw [List.length_take]; exact Nat.min_eq_left (IZ l)
theorem IC {l : List Nat} (h : ∀ k,nth l k=0) : val l=0 := by
 induction l with
 | nil => rfl
 | cons x l ih =>
  have h0 := h 0
  rw [Vn] at h0
  have := ih (fun k => by have := h (k+1); rwa [Wh] at this)
  simp [val,h0,this]
theorem JT (l : List Nat) (n k : Nat) : nth (l.drop n) k=nth l (n+k) := by
 unfold nth; simp [List.getD_eq_getElem?_getD]
theorem YS {l : List Nat} {n k : Nat} (h : k < n) : nth (l.take n) k=nth l k := by
 unfold nth; simp [List.getD_eq_getElem?_getD,h]
theorem Tf {l m : List Nat} {k : Nat} (h : k < l.length) : nth (l ++ m) k=nth l k := by
 unfold nth; simp [List.getD_eq_getElem?_getD,List.getElem?_append_left h]
theorem Ra {l m : List Nat} {k : Nat} (h : l.length≤k) : nth (l ++ m) k=nth m (k - l.length) := by
 unfold nth; simp [List.getD_eq_getElem?_getD,List.getElem?_append_right h]
theorem Vt (l : List Nat) : val (strip l)=val l := by
 rw [Xm l (sig l) (IZ l)]
 rw [IC (l := l.drop (sig l)) (fun k => by rw [JT]; exact Km l _ (by omega))]
 simp [strip]
theorem YJ (l : List Nat) : Trim (strip l) := by
 by_cases h : sig l=0
 ·left; unfold strip; rw [h]; simp
 ·right
  rw [Js]
  unfold strip
  rw [YS (by omega)]
  exact Be l h
theorem Lim.strip {l : List Nat} (h : Lim l) : Lim (strip l) := h.take _
theorem JX {l : List Nat} (h : Trim l) (hne : l ≠ []) : pw (l.length - 1)≤val l := by
 rcases h with h | h
 ·exact absurd h hne
 have hlen : 0 < l.length := List.length_pos_iff.2 hne
 rw [Xm l (l.length - 1) (by omega)]
 have : l.drop (l.length - 1)=[nth l (l.length - 1)] := by
  apply List.ext_getElem
  ·simp; omega
  ·intro i h1 h2
   simp at h1 h2
   subst h2
   simp [Xx (show l.length - 1 < l.length by omega)]
 rw [this]
 simp only [val,Nat.mul_zero,Nat.add_zero]
 have := Nat.mul_le_mul_left (pw (l.length - 1)) (Nat.one_le_iff_ne_zero.2 h)
 omega
theorem Oc {l : List Nat} (h : Trim l) (h0 : val l=0) : l=[] := by
 by_cases hne : l=[]
 ·exact hne
 ·have := JX h hne; have := Xv (l.length - 1); omega
theorem Jy {l m : List Nat} (h : ∀ k,nth l k=nth m k) : val l=val m := by
 induction l generalizing m with
 | nil => exact (IC (fun k => (h k).symm)).symm
 | cons x l ih =>
  cases m with
  | nil => exact IC h
  | cons y m =>
   have h0 := h 0
   rw [Vn,Vn] at h0
   have := ih (m := m) (fun k => by have := h (k+1); rwa [Wh,Wh] at this)
   rw [Vs,Vs,h0,this]
theorem ZS {l : List Nat} {k y : Nat} (h : k < l.length) : nth (l.set k y) k=y := by
 unfold nth; simp [List.getD_eq_getElem?_getD,h]
theorem Zb {l : List Nat} {j k y : Nat} (h : j ≠ k) : nth (l.set k y) j=nth l j := by
 unfold nth; simp [List.getD_eq_getElem?_getD,List.getElem?_set_ne (Ne.symm h)]
theorem Lim.set {l : List Nat} (h : Lim l) {k y : Nat} (hy : y < 4294967296) : Lim (l.set k y) := by
 intro x hx
 rcases List.mem_or_eq_of_mem_set hx with hx | rfl
 ·exact h x hx
 ·exact hy
theorem Sd {l : List Nat} {j k y : Nat} (h : j≤k) : (l.set k y).take j=l.take j := by
 apply List.ext_getElem
 ·simp
 ·intro i h1 h2
  simp at h1 h2
  simp [List.getElem_set_ne (show k ≠ i by omega)]
theorem Qo {l : List Nat} {k y : Nat} (h : k < l.length) : val ((l.set k y).take (k+1))=val (l.take k)+pw k*y := by
 rw [Qf,Sd (Nat.le_refl _),ZS h]
theorem Zi (n : Nat) : Lim (List.replicate n 0) := by
 intro x hx; rw [(List.mem_replicate.1 hx).2]; omega
theorem Rj (n : Nat) : val (List.replicate n 0)=0 := by
 induction n with
 | zero => rfl
 | succ n ih => rw [List.replicate_succ,Vs,ih]
theorem YH {a b : Nat} (h : a≤b) : pw a≤pw b := Nat.pow_le_pow_right (by omega) h
theorem AL {a b : Nat} (h : a < b) : pw a < pw b := Nat.pow_lt_pow_right (by omega) h
structure Small (n : Nat) : Prop where
 lt : n < pw 1099511627770
theorem Wi {l : List Nat} (h : Trim l) {n : Nat} (hv : val l < pw n) : l.length≤n := by
 by_cases e : l=[]
 ·subst e; simp
 ·have h1 := JX h e
  have h2 : 0 < l.length := List.length_pos_iff.2 e
  by_cases hc : l.length≤n
  ·exact hc
  ·have h3 := YH (a := n) (b := l.length - 1) (by omega)
   omega
theorem Small.len0 {l : List Nat} (hs : Small (val l)) (h : Trim l) : l.length≤1099511627770 := Wi h hs.lt
theorem Small.len {l : List Nat} (hs : Small (val l)) (h : Trim l) : l.length≤1099511627776 := Nat.le_trans (hs.len0 h) (by omega)
theorem XW (u v x y c1 c2 br P A B V p q c1' c2' br' out : Nat) (h : V+c1*P+v*B=u*A+(c2+br)*P)
  (e1 : p+4294967296*c1'=c1+u*x) (e2 : q+4294967296*c2'=c2+v*y) (e3 : out+q+br=p+4294967296*br') :
  V+P*out+c1'*(4294967296*P)+v*(B+P*y)=u*(A+P*x)+(c2'+br')*(4294967296*P) := by grind
theorem Ye (u x c P A c' p : Nat) (h : c*P≤u*A) (e : p+4294967296*c'=c+u*x) : c'*(4294967296*P)≤u*(A+P*x) := by
 have h1 : 4294967296*c'≤c+u*x := by omega
 have h2 := Nat.mul_le_mul_right P h1
 grind
theorem Ja {x y : Nat} (hx : x < 4294967296) (hy : y < 4294967296) : x*y≤18446744065119617025 := by
 have h1 : x*y≤4294967295*4294967295 := Nat.mul_le_mul (by omega) (by omega)
 omega
theorem XC {l m : List Nat} (hl : Lim l) {k : Nat} (hk : nth l k < nth m k) (he : ∀ j,k < j→nth l j=nth m j) (hlen : l.length=m.length) : val l < val m := by
 have hkl : k < l.length := by
  rcases Nat.lt_or_ge k l.length with h | h
  ·exact h
  ·rw [QL (l := m) (by omega)] at hk; omega
 have e : val (l.drop (k+1))=val (m.drop (k+1)) := Jy fun j => by
  rw [JT,JT]; exact he _ (by omega)
 rw [Xm l (k+1) (by omega),Xm m (k+1) (by omega),e,Qf,Qf]
 have h1 := Jl hl k
 have h2 : pw k*(nth l k+1)≤pw k*nth m k := Nat.mul_le_mul (Nat.le_refl _) hk
 rw [Nat.mul_add,Nat.mul_one] at h2
 omega
theorem ZZ {l m : List Nat} (hl : Lim l) (tm : Trim m) (h : l.length < m.length) : val l < val m := by
 have h1 := ZB hl
 have h2 := JX tm (by intro e; rw [e] at h; simp at h)
 have h3 := YH (a := l.length) (b := m.length - 1) (by omega)
 omega
theorem GO (V c P C0 Q R x B y o s c' : Nat) (h : V+c*P=C0+Q*x*B) (e : s+4294967296*c'=c+x*y+o) (hP : P=Q*R) :
  V+P*s+c'*(4294967296*P)=(C0+P*o)+Q*x*(B+R*y) := by grind
end Cx
/- Base -/
namespace Go.Proofs.YtnhplfjlhdpgoaaGreatDoor
open Go.RowKit Cx
def Seg (w : World) (b off : Nat) (l : List Nat) : Prop :=
 ∀ j,j < l.length→w.cell? ⟨b,off+j,none⟩=some (.int .u32 (nth l j : Int))
def Zu (l : List Nat) : Array Value := (l.map fun x : Nat => Value.int .u32 (x : Int)).toArray
def Row (w : World) (g : Nat) (l : List Nat) : Prop := ∃ sp : Array Value,w.heap[g]? = some (.cells (Zu l ++ sp) 128 (0,0))
theorem Row.lt {w : World} {g : Nat} {l : List Nat} (h : Row w g l) : g < w.heap.size := by
 obtain ⟨sp,h⟩ := h
 by_cases hg : g < w.heap.size
 ·exact hg
 ·rw [Array.getElem?_eq_none (by omega)] at h; cases h
theorem XO (l : List Nat) : (Zu l).size=l.length := by simp [Zu]
theorem Row.cell {w : World} {g : Nat} {l : List Nat} (h : Row w g l) {j : Nat} (hj : j < l.length) : w.cell? ⟨g,j,none⟩=some (.int .u32 (nth l j : Int)) := by
 obtain ⟨sp,h⟩ := h
 simp [World.cell?,h,Array.getElem?_append_left (show j < (Zu l).size by rw [XO]; exact hj)]
 simp [Zu,hj,Xx hj]
theorem Row.frozen {w : World} {g : Nat} {l : List Nat} (h : Row w g l) (j : Nat) : w.frozen? ⟨g,j,none⟩=false := by
 obtain ⟨sp,h⟩ := h
 simp [World.frozen?,h]
theorem GY (l : List Nat) (j y : Nat) : (Zu l).setIfInBounds j (.int .u32 (y : Int))=Zu (l.set j y) := by
 unfold Zu
 simp [List.map_set]
theorem Row.set {w : World} {g : Nat} {l : List Nat} (h : Row w g l) (j y : Nat) : Row (w.setCell ⟨g,j,none⟩ (.int .u32 (y : Int))) g (l.set j y) := by
 obtain ⟨sp,h⟩ := h
 by_cases hj : j < l.length
 ·refine ⟨sp,?_⟩
  rw [heap_setCell_same w g j _ _ _ h,Array.setIfInBounds_append_left (by rw [XO]; exact hj),GY]
 ·refine ⟨sp.setIfInBounds (j - l.length) (.int .u32 (y : Int)),?_⟩
  rw [heap_setCell_same w g j _ _ _ h,Array.setIfInBounds_append_right (by rw [XO]; omega),XO,List.set_eq_of_length_le (by omega)]
theorem Row.set' {w : World} {g : Nat} {l : List Nat} (h : Row w g l) (j y : Nat) {z : Int} (hz : z=(y : Int)) : Row (w.setCell ⟨g,j,none⟩ (.int .u32 z)) g (l.set j y) := by
 rw [hz]; exact h.set j y
theorem Row.below {w w' : World} {g B : Nat} {l : List Nat} (h : Row w g l) (hb : Below B w w') (hg : g < B) : Row w' g l := by
 obtain ⟨sp,h⟩ := h
 exact ⟨sp,by rw [hb.block g hg,h]⟩
theorem Row.seg {w : World} {g : Nat} {l : List Nat} (h : Row w g l) : Seg w g 0 l := by
 intro j hj
 rw [Nat.zero_add]
 exact h.cell hj
theorem Row.new (w : World) (l : List Nat) : Row (w.alloc (.cells (Zu l) 128)) w.heap.size l := by
 refine ⟨#[],?_⟩
 show (w.heap.push _)[w.heap.size]? = _
 simp
theorem Seg.below {w w' : World} {b off B : Nat} {l : List Nat} (h : Seg w b off l) (hb : Below B w w') (hB : b < B) : Seg w' b off l := by
 intro j hj
 rw [hb.cell (p := ⟨b,off+j,none⟩) hB]
 exact h j hj
theorem Seg.part {w : World} {b off : Nat} {l : List Nat} (h : Seg w b off l) (i n : Nat) : Seg w b (off+i) ((l.drop i).take n) := by
 intro j hj
 have h1 : j < n := by simp at hj; omega
 have h2 : i+j < l.length := by simp at hj; omega
 rw [YS h1,JT,Nat.add_assoc]
 exact h _ h2
theorem Seg.pre {w : World} {b off : Nat} {l : List Nat} (h : Seg w b off l) (n : Nat) : Seg w b off (l.take n) := by
 have := h.part 0 n
 simpa using this
def NatV (w : World) (v : Value) (l : List Nat) : Prop :=
 Lim l∧((l=[]∧∃ ao cap,v=.slice ao 0 cap) ∨ (∃ b off cap,v=.slice (some ⟨b,off,none⟩) l.length cap∧l.length≤cap∧cap≤maxLen∧b < w.heap.size∧Seg w b off l))
theorem NatV.below {w w' : World} {v : Value} {l : List Nat} (h : NatV w v l) (hb : Below w.heap.size w w') : NatV w' v l := by
 obtain ⟨h1,h2⟩ := h
 refine ⟨h1,?_⟩
 rcases h2 with h2 | ⟨b,off,cap,rfl,hc,hm,hlt,hs⟩
 ·exact Or.inl h2
 ·exact Or.inr ⟨b,off,cap,rfl,hc,hm,Nat.lt_of_lt_of_le hlt hb.size,hs.below hb hlt⟩
theorem NatV.nil (w : World) (ao : Option Addr) (cap : Nat) : NatV w (.slice ao 0 cap) [] := ⟨Lim.nil,Or.inl ⟨rfl,ao,cap,rfl⟩⟩
theorem NatV.ofRow {w : World} {g cap n : Nat} {l : List Nat} (h : Row w g l) (hl : Lim l) (hn : n≤l.length) (hc : l.length≤cap) (hm : cap≤maxLen) : NatV w (.slice (some ⟨g,0,none⟩) n cap) (l.take n) := by
 refine ⟨hl.take n,Or.inr ⟨g,0,cap,?_,?_,hm,h.lt,h.seg.pre n⟩⟩
 ·rw [List.length_take,Nat.min_eq_left hn]
 ·rw [List.length_take]; omega
def NatN (w : World) (v : Value) (n : Nat) : Prop := ∃ l,NatV w v l∧Trim l∧val l=n
theorem NatN.below {w w' : World} {v : Value} {n : Nat} (h : NatN w v n) (hb : Below w.heap.size w w') : NatN w' v n := by
 obtain ⟨l,h1,h2,h3⟩ := h
 exact ⟨l,h1.below hb,h2,h3⟩
theorem Tryz.infoU32 : (Tryz.prog.info? 128).map (fun i => (i.zero,i.size,i.bytes))=some (some (.int .u32 0),1,4) := by kernel_rfl
theorem Bx (n : Nat) : madeCells (Value.int .u32 0).cells (n*1)=Zu (List.replicate n 0) := by
 apply Array.ext
 ·simp [size_madeCells,Zu]
 ·intro i h1 h2
  simp [madeCells,Zu,Value.cells,Nat.mod_one]
theorem Zy {t : TypeId} (ht : Tryz.prog.underlying t=some (.slice 128)) (n : Nat) (hn : n≤70368744177664) (w : World) :
  (Instr.makeSlice t (.int .i64 n) (.int .i64 n)).run Tryz.prog w=.ok (.slice (some ⟨w.heap.size,0,none⟩) n n) (w.alloc (.cells (Zu (List.replicate n 0)) 128)) := by
 obtain ⟨i,hi,hz0,hz1,hz2⟩ := info_parts Tryz.infoU32
 have h := run_make (P := Tryz.prog) w t 128 i (.int .u32 0) ht hi hz0 .i64 .i64 n n (by omega) (by omega) (by rw [hz2]; omega) (by omega)
 rw [hz1] at h
 rw [← Bx]
 simpa using h
theorem Qh (w : World) (o : Obj) : Below w.heap.size w (w.alloc o) := (Below.refl _ _).alloc (Nat.le_refl _) _
theorem QM {B : Nat} {a w : World} (h : Below B a w) (n : Nat) : Below B a (w.drewN n) := h.trans ⟨rfl,rfl,rfl,Nat.le_refl _,fun _ _ => rfl⟩
theorem Xz (x : Nat) (h : x < 18446744073709551616) : bits .and .u64 (x : Int) 4294967295=((x % 4294967296 : Nat) : Int) := by
 have := u64_and_nat x 4294967295 h (by omega)
 rw [show ((4294967295 : Nat) : Int)=4294967295 from rfl] at this
 rw [this,show (4294967295 : Nat)=2 ^ 32 - 1 from rfl,Nat.and_two_pow_sub_one_eq_mod]
theorem Yj (p q br : Nat) (hp : p < 4294967296) (hq : q < 4294967296) (hb : br≤1) :
  ∃ br' out : Nat,IntKind.u64.wrap (IntKind.u64.wrap ((p : Int) - q) - br) / 9223372036854775808=(br' : Int)∧IntKind.u64.wrap (IntKind.u64.wrap ((p : Int) - q) - br) % 4294967296=(out : Int)∧br'≤1∧out < 4294967296∧out+q+br=p+4294967296*br' := by
 simp only [IntKind.wrap_u64]
 by_cases h : q+br≤p
 ·exact ⟨0,p - q - br,by omega,by omega,by omega,by omega,by omega⟩
 ·exact ⟨1,p+4294967296 - q - br,by omega,by omega,by omega,by omega,by omega⟩
end Go.Proofs.YtnhplfjlhdpgoaaGreatDoor
/- NumA -/
namespace Go.Proofs.YtnhplfjlhdpgoaaGreatDoor
open Go.RowKit Cx
theorem GT (b off cap : Nat) (l : List Nat) (w : World) (hcap : l.length≤cap) (hm : cap≤maxLen) (hs : Seg w b off l) :
  Calls Tryz.prog 146 #[.slice (some ⟨b,off,none⟩) l.length cap] w fun e w' => e=.returned (.slice (some ⟨b,off,none⟩) (sig l) cap)∧w'=w := by
 unfold maxLen at hm
 go_enter Tryz.func146,Tryz.ntmps146
 go_wp2
 go_loop [0] (fun v => ∃ n : Nat,n≤l.length∧(∀ k,n≤k→nth l k=0)∧v=.slice (some ⟨b,off,none⟩) n cap) (fun v => match v with | .slice _ n _ => n | _ => 0)
 case atStart => exact ⟨l.length,Nat.le_refl _,fun k hk => QL hk,rfl⟩
 case round =>
  obtain ⟨n,hn,hz,rfl⟩ := hrel
  have HZ : Hid (∀ k,n≤k→nth l k=0) := hz
  clear hz
  by_cases h0 : n=0
  ·subst h0
   go_wp2
   go_ret
   exact ⟨by rw [Uw (Nat.zero_le _) HZ.out (Or.inl rfl)]; rfl,rfl⟩
  ·obtain ⟨m,rfl⟩ : ∃ m,n=m+1 := ⟨n - 1,by omega⟩
   have hc := hs m (by omega)
   by_cases hx : nth l m=0
   ·rw [hx] at hc
    go_wp2
    go_round
    case rel => exact ⟨m,by omega,fun k hk => by by_cases e : k=m; (· rw [e]; exact hx); (· exact HZ.out k (by omega)),by simp⟩
    case measure => simp
   ·have hb : ((nth l m : Int) == 0)=false := by simp; omega
    go_wp2
    go_ret
    exact ⟨by rw [Uw hn HZ.out (Or.inr hx)]; rfl,rfl⟩
theorem EM (ao : Option Addr) (cap : Nat) (w : World) :
  Calls Tryz.prog 146 #[.slice ao 0 cap] w fun e w' => e=.returned (.slice ao 0 cap)∧w'=w := by
 go_enter Tryz.func146,Tryz.ntmps146
 go_wp2
 go_loop [0] (fun v => v=.slice ao 0 cap) (fun _ => 0)
 case atStart => rfl
 case round =>
  subst hrel
  go_wp2
  go_ret
  exact ⟨rfl,rfl⟩
theorem Kt {w : World} {v : Value} {l : List Nat} (h : NatV w v l) :
  Calls Tryz.prog 146 #[v] w fun e w' => w'=w∧∃ v',e=.returned v'∧NatV w v' (strip l) := by
 obtain ⟨hl,h | ⟨b,off,cap,rfl,hc,hm,hlt,hs⟩⟩ := h
 ·obtain ⟨rfl,ao,cap,rfl⟩ := h
  refine (EM ao cap w).mono ?_
  rintro e w' ⟨rfl,rfl⟩
  exact ⟨rfl,_,rfl,NatV.nil _ _ _⟩
 ·refine (GT b off cap l w hc hm hs).mono ?_
  rintro e w' ⟨rfl,rfl⟩
  refine ⟨rfl,_,rfl,hl.strip,Or.inr ⟨b,off,cap,by rw [Js],?_,hm,hlt,hs.pre _⟩⟩
  rw [Js]; have := IZ l; omega
theorem YQ {w : World} {g n : Nat} {l : List Nat} (h : Row w g l) (hl : Lim l) (hn : l.length=n) (hm : n≤9223372036854775807) :
  Calls Tryz.prog 146 #[.slice (some ⟨g,0,none⟩) n n] w fun e w' => w'=w∧∃ v',e=.returned v'∧NatN w v' (val l) := by
 subst hn
 have hv := NatV.ofRow h hl (Nat.le_refl _) (Nat.le_refl _) (by unfold maxLen; omega)
 rw [List.take_length] at hv
 refine (Kt hv).mono ?_
 rintro e w' ⟨rfl,v',rfl,hv'⟩
 exact ⟨rfl,v',rfl,strip l,hv',YJ l,Vt l⟩
theorem Kw (ao : Option Addr) (cap : Nat) (w : World) :
  Calls Tryz.prog 141 #[.slice ao 0 cap] w fun e w' => e=.returned (.bool false)∧w'=w := by
 go_enter Tryz.func141,Tryz.ntmps141
 go_wp2
 go_ret
 exact ⟨rfl,rfl⟩
theorem EK (b off cap x : Nat) (w : World) (hc : w.cell? ⟨b,off,none⟩=some (.int .u32 (x : Int))) :
  Calls Tryz.prog 141 #[.slice (some ⟨b,off,none⟩) 1 cap] w fun e w' => e=.returned (.bool (decide (x=1)))∧w'=w := by
 by_cases hx : x=1
 ·subst hx
  go_enter Tryz.func141,Tryz.ntmps141
  go_wp2
  go_ret
  exact ⟨rfl,rfl⟩
 ·have hb : ((x : Int) == 1)=false := by simp; omega
  rw [decide_eq_false hx]
  clear hx
  go_enter Tryz.func141,Tryz.ntmps141
  go_wp2
  go_ret
  exact ⟨rfl,rfl⟩
theorem Cu (ao : Option Addr) (n cap : Nat) (w : World) (hn : 2≤n) :
  Calls Tryz.prog 141 #[.slice ao n cap] w fun e w' => e=.returned (.bool false)∧w'=w := by
 have hb : ((n : Int) == 1)=false := by simp; omega
 go_enter Tryz.func141,Tryz.ntmps141
 go_wp2
 go_ret
 exact ⟨rfl,rfl⟩
theorem Zj {w : World} {v : Value} {n : Nat} (h : NatN w v n) :
  Calls Tryz.prog 141 #[v] w fun e w' => e=.returned (.bool (decide (n=1)))∧w'=w := by
 obtain ⟨l,⟨hl,h⟩,ht,rfl⟩ := h
 rcases h with ⟨rfl,ao,cap,rfl⟩ | ⟨b,off,cap,rfl,hc,hm,hlt,hs⟩
 ·exact Kw ao cap w
 ·match l,hl,ht,hc,hs with
  | [],_,_,_,_ => exact Kw _ cap w
  | [x],_,_,_,hs =>
   have h0 := hs 0 (by simp)
   rw [Vn] at h0
   have e : val [x]=x := by simp [val]
   rw [e]
   exact EK b off cap x w h0
  | x :: y :: l,hl,ht,_,_ =>
   have h1 := JX ht (by simp)
   have h2 : pw ((x :: y :: l).length - 1)=4294967296*pw l.length := by
    show pw (l.length+1)=_
    exact Qx _
   have h3 := Xv l.length
   have : decide (val (x :: y :: l)=1)=false := by
    apply decide_eq_false
    intro e
    rw [e,h2] at h1
    omega
   rw [this]
   exact Cu _ _ cap w (by simp)
theorem Hh (w : World) :
  Calls Tryz.prog 105 #[] w fun e w' => e=.returned (.slice (some ⟨w.heap.size,0,none⟩) 1 1)∧w'=w.alloc (.cells #[.int .u32 1] 128) := by
 go_enter Tryz.func105,Tryz.ntmps105
 go_wp2
 go_ret
 exact ⟨rfl,rfl⟩
theorem Wx (w : World) :
  Calls Tryz.prog 105 #[] w fun e w' => Below w.heap.size w w'∧∃ v,e=.returned v∧NatN w' v 1 := by
 refine (Hh w).mono ?_
 rintro e w' ⟨rfl,rfl⟩
 have hr : Row (w.alloc (.cells #[.int .u32 1] 128)) w.heap.size [1] := Row.new w [1]
 exact ⟨Qh _ _,_,rfl,[1],NatV.ofRow hr (Lim.cons (by omega) Lim.nil) (n := 1) (by simp) (by simp) (by decide),Or.inr (by simp [nth]),rfl⟩
theorem Xj (x : Nat) (w : World) (hx : x < 18446744073709551616) :
  Calls Tryz.prog 123 #[.int .u64 x] w fun e w' => Below w.heap.size w w'∧∃ v,e=.returned v∧NatN w' v x := by
 have hr : Row (w.alloc (.cells #[.int .u32 ((x : Int) % 4294967296),.int .u32 ((x : Int) / 4294967296)] 128)) w.heap.size [x % 4294967296,x / 4294967296] := Row.new w [x % 4294967296,x / 4294967296]
 have hv : val [x % 4294967296,x / 4294967296]=x := by simp [val]; omega
 have HV : Hid (val [x % 4294967296,x / 4294967296]=x) := hv
 clear hv
 go_enter Tryz.func123,Tryz.ntmps123
 go_wp2_with fail
 refine (YQ hr (n := 2) (Lim.cons (by omega) (Lim.cons (by omega) Lim.nil)) rfl (by omega)).mono ?_
 rintro e w' ⟨rfl,v',rfl,hv'⟩
 go_wp2
 go_ret
 exact ⟨Qh _ _,_,rfl,by rw [HV.out] at hv'; exact hv'⟩
end Go.Proofs.YtnhplfjlhdpgoaaGreatDoor
/- NumB -/
namespace Go.Proofs.YtnhplfjlhdpgoaaGreatDoor
open Go.RowKit Cx
structure Sl (w : World) (t : TypeId) (ao : Option Addr) (cap : Nat) (l : List Nat) (b off : Nat) : Prop where
 lim : Lim l
 idx : ∀ k : Nat,k < l.length→∀ wx,(Instr.indexAt t (.slice ao l.length cap) (.int .i64 k)).run Tryz.prog wx=.ok (.pointer (some ⟨b,off+k,none⟩)) wx
 seg : ∀ k : Nat,k < l.length→w.cell? ⟨b,off+k,none⟩=some (.int .u32 (nth l k : Int))
 lt : 0 < l.length→b < w.heap.size
theorem NatV.sl {w : World} {v : Value} {l : List Nat} (h : NatV w v l) {t e : TypeId} (ht : Tryz.prog.underlying t=some (.slice e)) (hz : ∀ wx,(sizeOf e).run Tryz.prog wx=.ok 1 wx) : ∃ ao cap b off,v=.slice ao l.length cap∧Sl w t ao cap l b off := by
 obtain ⟨hl,⟨rfl,ao,cap,rfl⟩ | ⟨b,off,cap,rfl,hc,hm,hlt,hs⟩⟩ := h
 ·exact ⟨ao,cap,0,0,rfl,hl,fun k hk => absurd hk (by simp),fun k hk => absurd hk (by simp),fun h => absurd h (by simp)⟩
 ·refine ⟨_,cap,b,off,rfl,hl,?_,hs,fun _ => hlt⟩
  intro k hk wx
  have he : Tryz.prog.elem t=e := by simp [Program.elem,ht]
  rw [run_indexAt_slice (h := by rw [he]; exact ht),if_pos (by omega),he,hz]
  simp [Result.andThen,Addr.add]
theorem NatV.slN {w : World} {v : Value} {l : List Nat} (h : NatV w v l) : ∃ ao cap b off,v=.slice ao l.length cap∧Sl w 56 ao cap l b off :=
 h.sl Tryz.underlying56 Tryz.sizeOf128
theorem ZQ (A B P c x y V : Nat) (h : V+c*P=A+B) :
  V+P*((c+x+y) % 4294967296)+((c+x+y) / 4294967296)*(4294967296*P)=(A+P*x)+(B+P*y) := by
 have e : (c+x+y) % 4294967296+4294967296*((c+x+y) / 4294967296)=c+x+y := Nat.mod_add_div _ _
 have : P*((c+x+y) % 4294967296)+((c+x+y) / 4294967296)*(4294967296*P)=P*(c+x+y) := by
  rw [← e]
  grind
 grind
theorem Ah {w : World} {ao bo : Option Addr} {ca cb b1 o1 b2 o2 : Nat} {la lb : List Nat} (ha : Sl w 56 ao ca la b1 o1) (hb : Sl w 56 bo cb lb b2 o2) (hla : la.length≤1099511627776) (hlb : lb.length≤la.length) :
  Calls Tryz.prog 109 #[.slice ao la.length ca,.slice bo lb.length cb] w fun e w' => Below w.heap.size w w'∧∃ v,e=.returned v∧NatN w' v (val la+val lb) := by
 have hmk := Zy (t := 56) (by kernel_rfl) (la.length+1) (by omega)
 have ec : ((la.length+1 : Nat) : Int)=(la.length : Int)+1 := by omega
 rw [ec] at hmk
 clear ec
 have HA : Hid (Sl w 56 ao ca la b1 o1) := ha
 have HB : Hid (Sl w 56 bo cb lb b2 o2) := hb
 clear ha hb
 go_enter Tryz.func109,Tryz.ntmps109
 go_wp2
 go_loopw [6,22] (fun c i wr => ∃ (k cy : Nat) (cur : List Nat),k≤la.length∧i=.int .i64 k∧c=.int .u64 cy∧cy≤1∧Row wr w.heap.size cur∧cur.length=la.length+1∧Lim cur∧val (cur.take k)+cy*pw k=val (la.take k)+val (lb.take k)∧Below w.heap.size w wr) (fun _ i _ => la.length - (intOf i).toNat)
 case atStart => exact ⟨0,0,List.replicate (la.length+1) 0,Nat.zero_le _,rfl,rfl,Nat.zero_le _,Row.new _ _,by simp,Zi _,by simp [val],Qh _ _⟩
 case round =>
  obtain ⟨k,cy,cur,hk,rfl,rfl,hcy,hrow,hcl,hcm,hval,hbel⟩ := hrel
  have HV : Hid (val (cur.take k)+cy*pw k=val (la.take k)+val (lb.take k)) := hval
  have HL : Hid (cur.length=la.length+1) := hcl
  clear hval hcl
  have hfz := hrow.frozen k
  by_cases hlt : k < la.length
  ·have hia := HA.out.idx k hlt
   have hca := (hbel.cell (p := ⟨b1,o1+k,none⟩) (HA.out.lt (by omega))).trans (HA.out.seg k hlt)
   have hxa := QF HA.out.lim k
   have hcc := hrow.cell (j := k) (by rw [HL.out]; omega)
   by_cases hlt2 : k < lb.length
   ·have hib := HB.out.idx k hlt2
    have hcb := (hbel.cell (p := ⟨b2,o2+k,none⟩) (HB.out.lt (by omega))).trans (HB.out.seg k hlt2)
    have hxb := QF HB.out.lim k
    go_wp2
    go_roundw
    case rel =>
     refine ⟨k+1,(cy+nth la k+nth lb k) / 4294967296,cur.set k ((cy+nth la k+nth lb k) % 4294967296),by omega,by go_num,by go_num,by omega,hrow.set' _ _ (by omega),by rw [List.length_set,HL.out],hcm.set (by omega),?_,hbel.setCell (Nat.le_refl _) _⟩
     rw [Qo (by rw [HL.out]; omega),Qf,Qf,Qx]
     exact ZQ _ _ _ _ _ _ _ HV.out
    case measure => simp [intOf]; omega
   ·go_wp2
    go_roundw
    case rel =>
     refine ⟨k+1,(cy+nth la k) / 4294967296,cur.set k ((cy+nth la k) % 4294967296),by omega,by go_num,by go_num,by omega,hrow.set' _ _ (by omega),by rw [List.length_set,HL.out],hcm.set (by omega),?_,hbel.setCell (Nat.le_refl _) _⟩
     rw [Qo (by rw [HL.out]; omega),Qf,Qf,Qx,QL (l := lb) (by omega)]
     exact ZQ _ _ _ _ _ 0 _ HV.out
    case measure => simp [intOf]; omega
  ·obtain rfl : k=la.length := by omega
   have hcc := hrow.cell (j := la.length) (by rw [HL.out]; omega)
   go_wp2_with fail
   refine (YQ (hrow.set' la.length cy (by omega)) (hcm.set (by omega)) (by rw [List.length_set,HL.out]) (by omega)).mono ?_
   rintro e w' ⟨rfl,v',rfl,hv'⟩
   go_wp2
   go_ret
   refine ⟨hbel.setCell (Nat.le_refl _) _,v',rfl,?_⟩
   have hvv : val (cur.set la.length cy)=val la+val lb := by
    have h1 := HV.out
    rw [List.take_length,List.take_of_length_le hlb] at h1
    have h2 := Qo (l := cur) (k := la.length) (y := cy) (by rw [HL.out]; omega)
    rw [List.take_of_length_le (by rw [List.length_set,HL.out]; omega)] at h2
    rw [h2,Nat.mul_comm (pw _)]; exact h1
   rw [hvv] at hv'
   exact hv'
theorem Ag {w : World} {ao bo : Option Addr} {ca cb b1 o1 b2 o2 : Nat} {la lb : List Nat} (ha : Sl w 56 ao ca la b1 o1) (hb : Sl w 56 bo cb lb b2 o2) (hla : la.length≤1099511627776) (hlt0 : lb.length < la.length) :
  Calls Tryz.prog 109 #[.slice bo lb.length cb,.slice ao la.length ca] w fun e w' => Below w.heap.size w w'∧∃ v,e=.returned v∧NatN w' v (val la+val lb) := by
 have hmk := Zy (t := 56) (by kernel_rfl) (la.length+1) (by omega)
 have ec : ((la.length+1 : Nat) : Int)=(la.length : Int)+1 := by omega
 rw [ec] at hmk
 clear ec
 have HA : Hid (Sl w 56 ao ca la b1 o1) := ha
 have HB : Hid (Sl w 56 bo cb lb b2 o2) := hb
 clear ha hb
 go_enter Tryz.func109,Tryz.ntmps109
 go_wp2
 go_loopw [6,22] (fun c i wr => ∃ (k cy : Nat) (cur : List Nat),k≤la.length∧i=.int .i64 k∧c=.int .u64 cy∧cy≤1∧Row wr w.heap.size cur∧cur.length=la.length+1∧Lim cur∧val (cur.take k)+cy*pw k=val (la.take k)+val (lb.take k)∧Below w.heap.size w wr) (fun _ i _ => la.length - (intOf i).toNat)
 case atStart => exact ⟨0,0,List.replicate (la.length+1) 0,Nat.zero_le _,rfl,rfl,Nat.zero_le _,Row.new _ _,by simp,Zi _,by simp [val],Qh _ _⟩
 case round =>
  obtain ⟨k,cy,cur,hk,rfl,rfl,hcy,hrow,hcl,hcm,hval,hbel⟩ := hrel
  have HV : Hid (val (cur.take k)+cy*pw k=val (la.take k)+val (lb.take k)) := hval
  have HL : Hid (cur.length=la.length+1) := hcl
  clear hval hcl
  have hfz := hrow.frozen k
  by_cases hlt : k < la.length
  ·have hia := HA.out.idx k hlt
   have hca := (hbel.cell (p := ⟨b1,o1+k,none⟩) (HA.out.lt (by omega))).trans (HA.out.seg k hlt)
   have hxa := QF HA.out.lim k
   have hcc := hrow.cell (j := k) (by rw [HL.out]; omega)
   by_cases hlt2 : k < lb.length
   ·have hib := HB.out.idx k hlt2
    have hcb := (hbel.cell (p := ⟨b2,o2+k,none⟩) (HB.out.lt (by omega))).trans (HB.out.seg k hlt2)
    have hxb := QF HB.out.lim k
    go_wp2
    go_roundw
    case rel =>
     refine ⟨k+1,(cy+nth la k+nth lb k) / 4294967296,cur.set k ((cy+nth la k+nth lb k) % 4294967296),by omega,by go_num,by go_num,by omega,hrow.set' _ _ (by omega),by rw [List.length_set,HL.out],hcm.set (by omega),?_,hbel.setCell (Nat.le_refl _) _⟩
     rw [Qo (by rw [HL.out]; omega),Qf,Qf,Qx]
     exact ZQ _ _ _ _ _ _ _ HV.out
    case measure => simp [intOf]; omega
   ·go_wp2
    go_roundw
    case rel =>
     refine ⟨k+1,(cy+nth la k) / 4294967296,cur.set k ((cy+nth la k) % 4294967296),by omega,by go_num,by go_num,by omega,hrow.set' _ _ (by omega),by rw [List.length_set,HL.out],hcm.set (by omega),?_,hbel.setCell (Nat.le_refl _) _⟩
     rw [Qo (by rw [HL.out]; omega),Qf,Qf,Qx,QL (l := lb) (by omega)]
     exact ZQ _ _ _ _ _ 0 _ HV.out
    case measure => simp [intOf]; omega
  ·obtain rfl : k=la.length := by omega
   have hcc := hrow.cell (j := la.length) (by rw [HL.out]; omega)
   go_wp2_with fail
   refine (YQ (hrow.set' la.length cy (by omega)) (hcm.set (by omega)) (by rw [List.length_set,HL.out]) (by omega)).mono ?_
   rintro e w' ⟨rfl,v',rfl,hv'⟩
   go_wp2
   go_ret
   refine ⟨hbel.setCell (Nat.le_refl _) _,v',rfl,?_⟩
   have hvv : val (cur.set la.length cy)=val la+val lb := by
    have h1 := HV.out
    rw [List.take_length,List.take_of_length_le (l := lb) (by omega)] at h1
    have h2 := Qo (l := cur) (k := la.length) (y := cy) (by rw [HL.out]; omega)
    rw [List.take_of_length_le (by rw [List.length_set,HL.out]; omega)] at h2
    rw [h2,Nat.mul_comm (pw _)]; exact h1
   rw [hvv] at hv'
   exact hv'
theorem Rk {w : World} {va vb : Value} {a b : Nat} (ha : NatN w va a) (hb : NatN w vb b) (hla : Small a) (hlb : Small b) :
  Calls Tryz.prog 109 #[va,vb] w fun e w' => Below w.heap.size w w'∧∃ v,e=.returned v∧NatN w' v (a+b) := by
 obtain ⟨la,ha,ta,rfl⟩ := ha
 obtain ⟨lb,hb,tb,rfl⟩ := hb
 obtain ⟨ao,ca,b1,o1,rfl,sa⟩ := ha.slN
 obtain ⟨bo,cb,b2,o2,rfl,sb⟩ := hb.slN
 have h1 := hla.len ta
 have h2 := hlb.len tb
 by_cases h : la.length < lb.length
 ·have := Ag sb sa h2 h
  rwa [Nat.add_comm (val lb)] at this
 ·exact Ah sa sb h1 (by omega)
end Go.Proofs.YtnhplfjlhdpgoaaGreatDoor
/- BA -/
namespace Go.Proofs.YtnhplfjlhdpgoaaGreatDoor
open Go.RowKit Cx
theorem NatV.sl32 {w : World} {v : Value} {l : List Nat} (h : NatV w v l) : ∃ ao cap b off,v=.slice ao l.length cap∧Sl w 31 ao cap l b off :=
 h.sl Tryz.underlying31 Tryz.sizeOf128
theorem Iu (b off cap : Nat) (l : List Nat) (w : World) (hcap : l.length≤cap) (hm : cap≤maxLen) (hs : Seg w b off l) :
  Calls Tryz.prog 101 #[.slice (some ⟨b,off,none⟩) l.length cap] w fun e w' => e=.returned (.slice (some ⟨b,off,none⟩) (sig l) cap)∧w'=w := by
 unfold maxLen at hm
 go_enter Tryz.func101,Tryz.ntmps101
 go_wp2
 go_loop [3] (fun v => ∃ n : Nat,n≤l.length∧(∀ k,n≤k→nth l k=0)∧v=.int .i64 (n : Int)) (fun v => (intOf v).toNat)
 case atStart => exact ⟨l.length,Nat.le_refl _,fun k hk => QL hk,rfl⟩
 case round =>
  obtain ⟨n,hn,hz,rfl⟩ := hrel
  have HZ : Hid (∀ k,n≤k→nth l k=0) := hz
  clear hz
  by_cases h0 : n=0
  ·subst h0
   go_wp2
   go_ret
   exact ⟨by rw [Uw (Nat.zero_le _) HZ.out (Or.inl rfl)]; rfl,rfl⟩
  ·obtain ⟨m,rfl⟩ : ∃ m,n=m+1 := ⟨n - 1,by omega⟩
   have hc := hs m (by omega)
   by_cases hx : nth l m=0
   ·rw [hx] at hc
    go_wp2
    go_round
    case rel => exact ⟨m,by omega,fun k hk => by by_cases e : k=m; (· rw [e]; exact hx); (· exact HZ.out k (by omega)),by go_num⟩
    case measure => simp [intOf]
   ·have hb : ((nth l m : Int) == 0)=false := by simp; omega
    go_wp2
    go_ret
    exact ⟨by rw [Uw hn HZ.out (Or.inr hx)]; rfl,rfl⟩
theorem Iq (ao : Option Addr) (cap : Nat) (w : World) :
  Calls Tryz.prog 101 #[.slice ao 0 cap] w fun e w' => e=.returned (.slice ao 0 cap)∧w'=w := by
 go_enter Tryz.func101,Tryz.ntmps101
 go_wp2
 go_loop [3] (fun v => v=.int .i64 0) (fun _ => 0)
 case atStart => rfl
 case round =>
  subst hrel
  go_wp2
  go_ret
  exact ⟨rfl,rfl⟩
theorem Gt {w : World} {v : Value} {l : List Nat} (h : NatV w v l) :
  Calls Tryz.prog 101 #[v] w fun e w' => w'=w∧∃ v',e=.returned v'∧NatV w v' (strip l) := by
 obtain ⟨hl,h | ⟨b,off,cap,rfl,hc,hm,hlt,hs⟩⟩ := h
 ·obtain ⟨rfl,ao,cap,rfl⟩ := h
  refine (Iq ao cap w).mono ?_
  rintro e w' ⟨rfl,rfl⟩
  exact ⟨rfl,_,rfl,NatV.nil _ _ _⟩
 ·refine (Iu b off cap l w hc hm hs).mono ?_
  rintro e w' ⟨rfl,rfl⟩
  refine ⟨rfl,_,rfl,hl.strip,Or.inr ⟨b,off,cap,by rw [Js],?_,hm,hlt,hs.pre _⟩⟩
  rw [Js]; have := IZ l; omega
theorem ZA {w : World} {g n : Nat} {l : List Nat} (h : Row w g l) (hl : Lim l) (hn : l.length=n) (hm : n≤9223372036854775807) :
  Calls Tryz.prog 101 #[.slice (some ⟨g,0,none⟩) n n] w fun e w' => w'=w∧∃ v',e=.returned v'∧NatN w v' (val l) := by
 subst hn
 have hv := NatV.ofRow h hl (Nat.le_refl _) (Nat.le_refl _) (by unfold maxLen; omega)
 rw [List.take_length] at hv
 refine (Gt hv).mono ?_
 rintro e w' ⟨rfl,v',rfl,hv'⟩
 exact ⟨rfl,v',rfl,strip l,hv',YJ l,Vt l⟩
end Go.Proofs.YtnhplfjlhdpgoaaGreatDoor
/- NumC -/
namespace Go.Proofs.YtnhplfjlhdpgoaaGreatDoor
open Go.RowKit Cx
theorem FW {u v n c1 c2 br : Nat} {la lb cur : List Nat} (hval : val (cur.take (n+1))+c1*pw (n+1)+v*val (lb.take (n+1))=u*val (la.take (n+1))+(c2+br)*pw (n+1))
  (hp1 : c1*pw (n+1)≤u*val (la.take (n+1))) (hp2 : c2*pw (n+1)≤v*val (lb.take (n+1))) (hle : v*val lb≤u*val la) (hu : u < 4294967296) (hv : v < 4294967296)
  (la1 : Lim la) (lb1 : Lim lb) (hla : la.length≤n) (hlb : lb.length≤n) (hcl : cur.length=n+1) (hcm : Lim cur) : val cur=u*val la - v*val lb := by
 rw [List.take_of_length_le (l := la) (by omega),List.take_of_length_le (l := lb) (by omega)] at hval
 rw [List.take_of_length_le (l := la) (by omega)] at hp1
 rw [List.take_of_length_le (l := lb) (by omega)] at hp2
 rw [List.take_of_length_le (l := cur) (by omega)] at hval
 have key : ∀ {x c : Nat} {l : List Nat},x < 4294967296→Lim l→l.length≤n→c*pw (n+1)≤x*val l→c=0 := by
  intro x c l hx hl hn h
  have h1 := ZB hl
  have h2 := YH hn
  have h3 : x*val l < 4294967296*pw n := Nat.lt_of_le_of_lt (Nat.mul_le_mul (Nat.le_of_lt hx) (Nat.le_refl _)) (Nat.mul_lt_mul_of_pos_left (by omega) (by omega))
  rw [← Qx] at h3
  cases c with
  | zero => rfl
  | succ c =>
   have h4 : 1*pw (n+1)≤(c+1)*pw (n+1) := Nat.mul_le_mul (by omega) (Nat.le_refl _)
   omega
 have z1 := key hu la1 hla hp1
 have z2 := key hv lb1 hlb hp2
 subst z1 z2
 have h1 := ZB hcm
 rw [hcl] at h1
 cases br with
 | zero => simp at hval; omega
 | succ br =>
  have h4 : 1*pw (n+1)≤(0+(br+1))*pw (n+1) := Nat.mul_le_mul (by omega) (Nat.le_refl _)
  omega
theorem OV {w : World} {ao bo : Option Addr} {ca cb b1 o1 b2 o2 u v n : Nat} {la lb : List Nat} (ha : Sl w 56 ao ca la b1 o1) (hb : Sl w 56 bo cb lb b2 o2) (hu : u < 4294967296) (hv : v < 4294967296) (hla : la.length≤n) (hlb : lb.length≤n) (hn : n≤1099511627776) (hnm : (if la.length < lb.length then (lb.length : Int) else (la.length : Int))=n) (hle : v*val lb≤u*val la) :
  Calls Tryz.prog 171 #[.slice ao la.length ca,.int .u32 u,.slice bo lb.length cb,.int .u32 v] w fun e w' => Below w.heap.size w w'∧∃ v',e=.returned v'∧NatN w' v' (u*val la - v*val lb) := by
 have hmk := Zy (t := 56) (by kernel_rfl) (n+1) (by omega)
 have ec : ((n+1 : Nat) : Int)=(n : Int)+1 := by omega
 rw [ec] at hmk
 clear ec
 have HA : Hid (Sl w 56 ao ca la b1 o1) := ha
 have HB : Hid (Sl w 56 bo cb lb b2 o2) := hb
 have HLE : Hid (v*val lb≤u*val la) := hle
 clear ha hb hle
 go_enter Tryz.func171,Tryz.ntmps171
 go_wp2
 go_loopw [11,12,13,26] (fun p m bw i wr => ∃ (k c1 c2 br : Nat) (cur : List Nat),k≤n+1∧i=.int .i64 k∧p=.int .u64 c1∧m=.int .u64 c2∧bw=.int .u64 br∧c1 < 4294967296∧c2 < 4294967296∧br≤1∧Row wr w.heap.size cur∧cur.length=n+1∧Lim cur∧c1*pw k≤u*val (la.take k)∧c2*pw k≤v*val (lb.take k)∧val (cur.take k)+c1*pw k+v*val (lb.take k)=u*val (la.take k)+(c2+br)*pw k∧Below w.heap.size w wr) (fun _ _ _ i _ => n+1 - (intOf i).toNat)
 case atStart => exact ⟨0,0,0,0,List.replicate (n+1) 0,Nat.zero_le _,rfl,rfl,rfl,rfl,by omega,by omega,by omega,Row.new _ _,by simp,Zi _,by simp,by simp,by simp [val],Qh _ _⟩
 case round =>
  obtain ⟨k,c1,c2,br,cur,hk,rfl,rfl,rfl,rfl,hc1,hc2,hbr,hrow,hcl,hcm,hp1,hp2,hval,hbel⟩ := hrel
  have HV : Hid (val (cur.take k)+c1*pw k+v*val (lb.take k)=u*val (la.take k)+(c2+br)*pw k) := hval
  have HL : Hid (cur.length=n+1) := hcl
  have HP : Hid (c1*pw k≤u*val (la.take k)∧c2*pw k≤v*val (lb.take k)) := ⟨hp1,hp2⟩
  clear hval hcl hp1 hp2
  have hfz := hrow.frozen k
  by_cases hlt : k < n+1
  ·have hcc := hrow.cell (j := k) (by rw [HL.out]; omega)
   by_cases h1 : k < la.length
   ·have hia := HA.out.idx k h1
    have hca := (hbel.cell (p := ⟨b1,o1+k,none⟩) (HA.out.lt (by omega))).trans (HA.out.seg k h1)
    have hxa := QF HA.out.lim k
    by_cases h2 : k < lb.length
    ·have hib := HB.out.idx k h2
     have hcb := (hbel.cell (p := ⟨b2,o2+k,none⟩) (HB.out.lt (by omega))).trans (HB.out.seg k h2)
     have hxb := QF HB.out.lim k
     obtain ⟨m1,hm1⟩ : ∃ m1,m1=u*nth la k := ⟨_,rfl⟩
     obtain ⟨m2,hm2⟩ : ∃ m2,m2=v*nth lb k := ⟨_,rfl⟩
     have hb1 : m1≤18446744065119617025 := by rw [hm1]; exact Ja hu hxa
     have hb2 : m2≤18446744065119617025 := by rw [hm2]; exact Ja hv hxb
     have hr1 : (u : Int)*(nth la k : Int)=(m1 : Int) := by rw [hm1]; exact (Int.natCast_mul _ _).symm
     have hr2 : (v : Int)*(nth lb k : Int)=(m2 : Int) := by rw [hm2]; exact (Int.natCast_mul _ _).symm
     obtain ⟨p,hp⟩ : ∃ p,p=(c1+m1) % 4294967296 := ⟨_,rfl⟩
     obtain ⟨q,hq⟩ : ∃ q,q=(c2+m2) % 4294967296 := ⟨_,rfl⟩
     have ha1 : bits .and .u64 ((c1 : Int)+m1 : Int) 4294967295=(p : Int) := by
      have := Xz (c1+m1) (by omega)
      rw [hp,← this]; rw [Int.natCast_add]
     have ha2 : bits .and .u64 ((c2 : Int)+m2 : Int) 4294967295=(q : Int) := by
      have := Xz (c2+m2) (by omega)
      rw [hq,← this]; rw [Int.natCast_add]
     obtain ⟨br',out,hs1,hs2,hbr',hout,hsum⟩ := Yj p q br (by omega) (by omega) hbr
     have F : Hid (m1=u*nth la k∧m2=v*nth lb k∧p=(c1+m1) % 4294967296∧q=(c2+m2) % 4294967296∧out+q+br=p+4294967296*br') := ⟨hm1,hm2,hp,hq,hsum⟩
     clear hm1 hm2 hp hq hsum
     go_wp2
     go_roundw
     case rel =>
      obtain ⟨hm1,hm2,hp,hq,hsum⟩ := F.out
      have e1 : p+4294967296*((c1+m1) / 4294967296)=c1+u*nth la k := by rw [← hm1]; omega
      have e2 : q+4294967296*((c2+m2) / 4294967296)=c2+v*nth lb k := by rw [← hm2]; omega
      refine ⟨k+1,(c1+m1) / 4294967296,(c2+m2) / 4294967296,br',cur.set k out,by omega,by go_num,by go_num,by go_num,by go_num,by omega,by omega,hbr',hrow.set' _ _ (by omega),by rw [List.length_set,HL.out],hcm.set hout,?_,?_,?_,hbel.setCell (Nat.le_refl _) _⟩
      ·rw [Qf,Qx]; exact Ye _ _ _ _ _ _ _ HP.out.1 e1
      ·rw [Qf,Qx]; exact Ye _ _ _ _ _ _ _ HP.out.2 e2
      ·rw [Qo (by rw [HL.out]; omega),Qf,Qf,Qx]
       exact XW _ _ _ _ _ _ _ _ _ _ _ _ _ _ _ _ _ HV.out e1 e2 hsum
     case measure => simp [intOf]; omega
    ·obtain ⟨m1,hm1⟩ : ∃ m1,m1=u*nth la k := ⟨_,rfl⟩
     obtain ⟨m2,hm2⟩ : ∃ m2,m2=0 := ⟨_,rfl⟩
     have hb1 : m1≤18446744065119617025 := by rw [hm1]; exact Ja hu hxa
     have hb2 : m2≤18446744065119617025 := by rw [hm2]; omega
     have hr1 : (u : Int)*(nth la k : Int)=(m1 : Int) := by rw [hm1]; exact (Int.natCast_mul _ _).symm
     obtain ⟨p,hp⟩ : ∃ p,p=(c1+m1) % 4294967296 := ⟨_,rfl⟩
     obtain ⟨q,hq⟩ : ∃ q,q=(c2+m2) % 4294967296 := ⟨_,rfl⟩
     have ha1 : bits .and .u64 ((c1 : Int)+m1 : Int) 4294967295=(p : Int) := by
      have := Xz (c1+m1) (by omega)
      rw [hp,← this]; rw [Int.natCast_add]
     have ha2 : bits .and .u64 (c2 : Int) 4294967295=(q : Int) := by
      have := Xz (c2+m2) (by omega)
      rw [hq,← this]; rw [hm2,Nat.add_zero]
     obtain ⟨br',out,hs1,hs2,hbr',hout,hsum⟩ := Yj p q br (by omega) (by omega) hbr
     have F : Hid (m1=u*nth la k∧m2=0∧p=(c1+m1) % 4294967296∧q=(c2+m2) % 4294967296∧out+q+br=p+4294967296*br') := ⟨hm1,hm2,hp,hq,hsum⟩
     clear hm1 hm2 hp hq hsum
     go_wp2
     go_roundw
     case rel =>
      obtain ⟨hm1,hm2,hp,hq,hsum⟩ := F.out
      have e1 : p+4294967296*((c1+m1) / 4294967296)=c1+u*nth la k := by rw [← hm1]; omega
      have e2 : q+4294967296*((c2+m2) / 4294967296)=c2+v*nth lb k := by rw [QL (l := lb) (by omega),Nat.mul_zero,← hm2]; omega
      refine ⟨k+1,(c1+m1) / 4294967296,(c2+m2) / 4294967296,br',cur.set k out,by omega,by go_num,by go_num,by rw [hm2]; go_num,by go_num,by omega,by omega,hbr',hrow.set' _ _ (by omega),by rw [List.length_set,HL.out],hcm.set hout,?_,?_,?_,hbel.setCell (Nat.le_refl _) _⟩
      ·rw [Qf,Qx]; exact Ye _ _ _ _ _ _ _ HP.out.1 e1
      ·rw [Qf,Qx]; exact Ye _ _ _ _ _ _ _ HP.out.2 e2
      ·rw [Qo (by rw [HL.out]; omega),Qf,Qf,Qx]
       exact XW _ _ _ _ _ _ _ _ _ _ _ _ _ _ _ _ _ HV.out e1 e2 hsum
     case measure => simp [intOf]; omega
   ·by_cases h2 : k < lb.length
    ·have hib := HB.out.idx k h2
     have hcb := (hbel.cell (p := ⟨b2,o2+k,none⟩) (HB.out.lt (by omega))).trans (HB.out.seg k h2)
     have hxb := QF HB.out.lim k
     obtain ⟨m1,hm1⟩ : ∃ m1,m1=0 := ⟨_,rfl⟩
     obtain ⟨m2,hm2⟩ : ∃ m2,m2=v*nth lb k := ⟨_,rfl⟩
     have hb1 : m1≤18446744065119617025 := by rw [hm1]; omega
     have hb2 : m2≤18446744065119617025 := by rw [hm2]; exact Ja hv hxb
     have hr2 : (v : Int)*(nth lb k : Int)=(m2 : Int) := by rw [hm2]; exact (Int.natCast_mul _ _).symm
     obtain ⟨p,hp⟩ : ∃ p,p=(c1+m1) % 4294967296 := ⟨_,rfl⟩
     obtain ⟨q,hq⟩ : ∃ q,q=(c2+m2) % 4294967296 := ⟨_,rfl⟩
     have ha1 : bits .and .u64 (c1 : Int) 4294967295=(p : Int) := by
      have := Xz (c1+m1) (by omega)
      rw [hp,← this]; rw [hm1,Nat.add_zero]
     have ha2 : bits .and .u64 ((c2 : Int)+m2 : Int) 4294967295=(q : Int) := by
      have := Xz (c2+m2) (by omega)
      rw [hq,← this]; rw [Int.natCast_add]
     obtain ⟨br',out,hs1,hs2,hbr',hout,hsum⟩ := Yj p q br (by omega) (by omega) hbr
     have F : Hid (m1=0∧m2=v*nth lb k∧p=(c1+m1) % 4294967296∧q=(c2+m2) % 4294967296∧out+q+br=p+4294967296*br') := ⟨hm1,hm2,hp,hq,hsum⟩
     clear hm1 hm2 hp hq hsum
     go_wp2
     go_roundw
     case rel =>
      obtain ⟨hm1,hm2,hp,hq,hsum⟩ := F.out
      have e1 : p+4294967296*((c1+m1) / 4294967296)=c1+u*nth la k := by rw [QL (l := la) (by omega),Nat.mul_zero,← hm1]; omega
      have e2 : q+4294967296*((c2+m2) / 4294967296)=c2+v*nth lb k := by rw [← hm2]; omega
      refine ⟨k+1,(c1+m1) / 4294967296,(c2+m2) / 4294967296,br',cur.set k out,by omega,by go_num,by rw [hm1]; go_num,by go_num,by go_num,by omega,by omega,hbr',hrow.set' _ _ (by omega),by rw [List.length_set,HL.out],hcm.set hout,?_,?_,?_,hbel.setCell (Nat.le_refl _) _⟩
      ·rw [Qf,Qx]; exact Ye _ _ _ _ _ _ _ HP.out.1 e1
      ·rw [Qf,Qx]; exact Ye _ _ _ _ _ _ _ HP.out.2 e2
      ·rw [Qo (by rw [HL.out]; omega),Qf,Qf,Qx]
       exact XW _ _ _ _ _ _ _ _ _ _ _ _ _ _ _ _ _ HV.out e1 e2 hsum
     case measure => simp [intOf]; omega
    ·obtain ⟨m1,hm1⟩ : ∃ m1,m1=0 := ⟨_,rfl⟩
     obtain ⟨m2,hm2⟩ : ∃ m2,m2=0 := ⟨_,rfl⟩
     have hb1 : m1≤18446744065119617025 := by rw [hm1]; omega
     have hb2 : m2≤18446744065119617025 := by rw [hm2]; omega
     obtain ⟨p,hp⟩ : ∃ p,p=(c1+m1) % 4294967296 := ⟨_,rfl⟩
     obtain ⟨q,hq⟩ : ∃ q,q=(c2+m2) % 4294967296 := ⟨_,rfl⟩
     have ha1 : bits .and .u64 (c1 : Int) 4294967295=(p : Int) := by
      have := Xz (c1+m1) (by omega)
      rw [hp,← this]; rw [hm1,Nat.add_zero]
     have ha2 : bits .and .u64 (c2 : Int) 4294967295=(q : Int) := by
      have := Xz (c2+m2) (by omega)
      rw [hq,← this]; rw [hm2,Nat.add_zero]
     obtain ⟨br',out,hs1,hs2,hbr',hout,hsum⟩ := Yj p q br (by omega) (by omega) hbr
     have F : Hid (m1=0∧m2=0∧p=(c1+m1) % 4294967296∧q=(c2+m2) % 4294967296∧out+q+br=p+4294967296*br') := ⟨hm1,hm2,hp,hq,hsum⟩
     clear hm1 hm2 hp hq hsum
     go_wp2
     go_roundw
     case rel =>
      obtain ⟨hm1,hm2,hp,hq,hsum⟩ := F.out
      have e1 : p+4294967296*((c1+m1) / 4294967296)=c1+u*nth la k := by rw [QL (l := la) (by omega),Nat.mul_zero,← hm1]; omega
      have e2 : q+4294967296*((c2+m2) / 4294967296)=c2+v*nth lb k := by rw [QL (l := lb) (by omega),Nat.mul_zero,← hm2]; omega
      refine ⟨k+1,(c1+m1) / 4294967296,(c2+m2) / 4294967296,br',cur.set k out,by omega,by go_num,by rw [hm1]; go_num,by rw [hm2]; go_num,by go_num,by omega,by omega,hbr',hrow.set' _ _ (by omega),by rw [List.length_set,HL.out],hcm.set hout,?_,?_,?_,hbel.setCell (Nat.le_refl _) _⟩
      ·rw [Qf,Qx]; exact Ye _ _ _ _ _ _ _ HP.out.1 e1
      ·rw [Qf,Qx]; exact Ye _ _ _ _ _ _ _ HP.out.2 e2
      ·rw [Qo (by rw [HL.out]; omega),Qf,Qf,Qx]
       exact XW _ _ _ _ _ _ _ _ _ _ _ _ _ _ _ _ _ HV.out e1 e2 hsum
     case measure => simp [intOf]; omega
  ·obtain rfl : k=n+1 := by omega
   go_wp2_with fail
   refine (YQ hrow hcm HL.out (by omega)).mono ?_
   rintro e w' ⟨rfl,v',rfl,hv'⟩
   go_wp2
   go_ret
   refine ⟨hbel,v',rfl,?_⟩
   have hvv := FW HV.out HP.out.1 HP.out.2 HLE.out hu hv (HA.out.lim) (HB.out.lim) hla hlb HL.out hcm
   rw [hvv] at hv'
   exact hv'
theorem JW {w : World} {va vb : Value} {a b u v : Nat} (ha : NatN w va a) (hb : NatN w vb b) (hla : Small a) (hlb : Small b) (hu : u < 4294967296) (hv : v < 4294967296) (hle : v*b≤u*a) :
  Calls Tryz.prog 171 #[va,.int .u32 u,vb,.int .u32 v] w fun e w' => Below w.heap.size w w'∧∃ v',e=.returned v'∧NatN w' v' (u*a - v*b) := by
 obtain ⟨la,ha,ta,rfl⟩ := ha
 obtain ⟨lb,hb,tb,rfl⟩ := hb
 obtain ⟨ao,ca,b1,o1,rfl,sa⟩ := ha.slN
 obtain ⟨bo,cb,b2,o2,rfl,sb⟩ := hb.slN
 have h1 := hla.len ta
 have h2 := hlb.len tb
 by_cases h : la.length < lb.length
 ·exact OV sa sb hu hv (n := lb.length) (by omega) (by omega) h2 (by rw [if_pos h]) hle
 ·exact OV sa sb hu hv (n := la.length) (by omega) (by omega) h1 (by rw [if_neg h]) hle
theorem XA {w : World} {va vb : Value} {a b : Nat} (ha : NatN w va a) (hb : NatN w vb b) (hla : Small a) (hlb : Small b) (hle : b≤a) :
  Calls Tryz.prog 165 #[va,vb] w fun e w' => Below w.heap.size w w'∧∃ v',e=.returned v'∧NatN w' v' (a - b) := by
 have H := JW ha hb hla hlb (u := 1) (v := 1) (by omega) (by omega) (by omega)
 have HH : Hid _ := H
 clear H
 go_enter Tryz.func165,Tryz.ntmps165
 go_wp2_with fail
 refine Calls.mono HH.out ?_
 rintro e w' ⟨hbel,v',rfl,hv'⟩
 go_wp2
 go_ret
 rw [Nat.one_mul,Nat.one_mul] at hv'
 exact ⟨hbel,_,rfl,hv'⟩
theorem Ft {w : World} {ao bo : Option Addr} {ca cb b1 o1 b2 o2 : Nat} {la lb : List Nat} (ha : Sl w 56 ao ca la b1 o1) (hb : Sl w 56 bo cb lb b2 o2) (hla : la.length≤1099511627776) (hll : la.length=lb.length) :
  Calls Tryz.prog 142 #[.slice ao la.length ca,.slice bo lb.length cb] w fun e w' => Below w.heap.size w w'∧∃ c : Int,e=.returned (.int .i64 c)∧(c < 0 ↔ val la < val lb)∧(c=0 ↔ val la=val lb) := by
 have hbb : ((la.length : Int) != (lb.length : Int))=false := by simp [hll]
 have HLL : Hid (la.length=lb.length) := hll
 clear hll
 have HA : Hid (Sl w 56 ao ca la b1 o1) := ha
 have HB : Hid (Sl w 56 bo cb lb b2 o2) := hb
 clear ha hb
 go_enter Tryz.func142,Tryz.ntmps142
 go_wp2
 go_loopw [5] (fun i wr => ∃ k : Nat,k≤la.length∧i=.int .i64 ((k : Int) - 1)∧(∀ j,k≤j→nth la j=nth lb j)∧Below w.heap.size w wr) (fun i _ => (intOf i+1).toNat)
 case atStart => exact ⟨la.length,Nat.le_refl _,rfl,fun j hj => by rw [QL hj,QL (by rw [← HLL.out]; exact hj)],Below.refl _ _⟩
 case round =>
  obtain ⟨k,hk,rfl,he,hbel⟩ := hrel
  have HE : Hid (∀ j,k≤j→nth la j=nth lb j) := he
  clear he
  by_cases h0 : k=0
  ·subst h0
   go_wp2
   go_ret
   refine ⟨hbel,0,rfl,?_⟩
   have := Jy (l := la) (m := lb) (fun j => HE.out j (Nat.zero_le _))
   omega
  ·obtain ⟨m,rfl⟩ : ∃ m,k=m+1 := ⟨k - 1,by omega⟩
   rw [show (((m+1 : Nat) : Int) - 1)=(m : Int) from by omega]
   have hia := HA.out.idx m (by omega)
   have hib := HB.out.idx m (by rw [← HLL.out]; omega)
   have hca := (hbel.cell (p := ⟨b1,o1+m,none⟩) (HA.out.lt (by omega))).trans (HA.out.seg m (by omega))
   have hcb := (hbel.cell (p := ⟨b2,o2+m,none⟩) (HB.out.lt (by rw [← HLL.out]; omega))).trans (HB.out.seg m (by rw [← HLL.out]; omega))
   rcases Nat.lt_trichotomy (nth la m) (nth lb m) with h | h | h
   ·go_wp2
    go_quiet (fail)
    go_wp2
    go_ret
    have hv := XC HA.out.lim h (fun j hj => HE.out j (by omega)) HLL.out
    exact ⟨QM hbel _,-1,rfl,by omega,by omega⟩
   ·have e1 : ¬ (nth la m : Int) < nth lb m := by omega
    have e2 : ¬ (nth lb m : Int) < nth la m := by omega
    have HH : Hid (nth la m=nth lb m) := h
    clear h
    go_wp2
    go_quiet (fail)
    go_wp2
    go_quiet (fail)
    go_wp2
    go_roundw
    case rel =>
     refine ⟨m,by omega,by go_num,fun j hj => ?_,QM hbel _⟩
     by_cases e : j=m
     ·rw [e]; exact HH.out
     ·exact HE.out j (by omega)
    case measure => simp [intOf]
   ·have e1 : ¬ (nth la m : Int) < nth lb m := by omega
    go_wp2
    go_quiet (fail)
    go_wp2
    go_quiet (fail)
    go_wp2
    go_ret
    have hv := XC HB.out.lim h (fun j hj => (HE.out j (by omega)).symm) HLL.out.symm
    exact ⟨QM (QM hbel _) _,1,rfl,by omega,by omega⟩
theorem DZ (ao bo : Option Addr) (n m ca cb : Nat) (w : World) (hn : n≤1099511627776) (hm : m≤1099511627776) (h : n ≠ m) :
  Calls Tryz.prog 142 #[.slice ao n ca,.slice bo m cb] w fun e w' => e=.returned (.int .i64 ((n : Int) - m))∧w'=w := by
 have hb : ((n : Int) != (m : Int))=true := by simp; omega
 go_enter Tryz.func142,Tryz.ntmps142
 go_wp2
 go_ret
 exact ⟨rfl,rfl⟩
theorem ZI {w : World} {va vb : Value} {a b : Nat} (ha : NatN w va a) (hb : NatN w vb b) (hla : Small a) (hlb : Small b) :
  Calls Tryz.prog 142 #[va,vb] w fun e w' => Below w.heap.size w w'∧∃ c : Int,e=.returned (.int .i64 c)∧(c < 0 ↔ a < b)∧(c=0 ↔ a=b) := by
 obtain ⟨la,ha,ta,rfl⟩ := ha
 obtain ⟨lb,hb,tb,rfl⟩ := hb
 obtain ⟨ao,ca,b1,o1,rfl,sa⟩ := ha.slN
 obtain ⟨bo,cb,b2,o2,rfl,sb⟩ := hb.slN
 have h1 := hla.len ta
 have h2 := hlb.len tb
 by_cases h : la.length=lb.length
 ·exact Ft sa sb h1 h
 ·refine (DZ ao bo _ _ ca cb w h1 h2 h).mono ?_
  rintro e w' ⟨rfl,rfl⟩
  refine ⟨Below.refl _ _,_,rfl,?_⟩
  rcases Nat.lt_or_ge la.length lb.length with hlt | hge
  ·have := ZZ sa.lim tb hlt
   omega
  ·have := ZZ sb.lim ta (by omega)
   omega
end Go.Proofs.YtnhplfjlhdpgoaaGreatDoor
/- BB -/
namespace Go.Proofs.YtnhplfjlhdpgoaaGreatDoor
open Go.RowKit Cx
theorem ZL (x : Nat) (w : World) (hx : x < 18446744073709551616) :
  Calls Tryz.prog 91 #[.int .u64 x] w fun e w' => Below w.heap.size w w'∧∃ v,e=.returned v∧NatN w' v x := by
 have hr : Row (w.alloc (.cells #[.int .u32 ((x : Int) % 4294967296),.int .u32 ((x : Int) / 4294967296)] 128)) w.heap.size [x % 4294967296,x / 4294967296] := Row.new w [x % 4294967296,x / 4294967296]
 have hv : val [x % 4294967296,x / 4294967296]=x := by simp [val]; omega
 have HV : Hid (val [x % 4294967296,x / 4294967296]=x) := hv
 clear hv
 go_enter Tryz.func91,Tryz.ntmps91
 go_wp2_with fail
 refine (ZA hr (n := 2) (Lim.cons (by omega) (Lim.cons (by omega) Lim.nil)) rfl (by omega)).mono ?_
 rintro e w' ⟨rfl,v',rfl,hv'⟩
 go_wp2
 go_ret
 exact ⟨Qh _ _,_,rfl,by rw [HV.out] at hv'; exact hv'⟩
theorem FH {w : World} {ao bo : Option Addr} {ca cb b1 o1 b2 o2 : Nat} {la lb : List Nat} (ha : Sl w 31 ao ca la b1 o1) (hb : Sl w 31 bo cb lb b2 o2) (hla : la.length≤1099511627776) (hlb : lb.length≤la.length) :
  Calls Tryz.prog 90 #[.slice ao la.length ca,.slice bo lb.length cb] w fun e w' => Below w.heap.size w w'∧∃ v,e=.returned v∧NatN w' v (val la+val lb) := by
 have hmk := Zy (t := 31) (by kernel_rfl) (la.length+1) (by omega)
 have ec : ((la.length+1 : Nat) : Int)=(la.length : Int)+1 := by omega
 rw [ec] at hmk
 clear ec
 have HA : Hid (Sl w 31 ao ca la b1 o1) := ha
 have HB : Hid (Sl w 31 bo cb lb b2 o2) := hb
 clear ha hb
 go_enter Tryz.func90,Tryz.ntmps90
 go_wp2
 go_loopw [6,7] (fun c i wr => ∃ (k cy : Nat) (cur : List Nat),k≤la.length∧i=.int .i64 k∧c=.int .u64 cy∧cy≤1∧Row wr w.heap.size cur∧cur.length=la.length+1∧Lim cur∧val (cur.take k)+cy*pw k=val (la.take k)+val (lb.take k)∧Below w.heap.size w wr) (fun _ i _ => la.length - (intOf i).toNat)
 case atStart => exact ⟨0,0,List.replicate (la.length+1) 0,Nat.zero_le _,rfl,rfl,Nat.zero_le _,Row.new _ _,by simp,Zi _,by simp [val],Qh _ _⟩
 case round =>
  obtain ⟨k,cy,cur,hk,rfl,rfl,hcy,hrow,hcl,hcm,hval,hbel⟩ := hrel
  have HV : Hid (val (cur.take k)+cy*pw k=val (la.take k)+val (lb.take k)) := hval
  have HL : Hid (cur.length=la.length+1) := hcl
  clear hval hcl
  have hfz := hrow.frozen k
  by_cases hlt : k < la.length
  ·have hia := HA.out.idx k hlt
   have hca := (hbel.cell (p := ⟨b1,o1+k,none⟩) (HA.out.lt (by omega))).trans (HA.out.seg k hlt)
   have hxa := QF HA.out.lim k
   have hcc := hrow.cell (j := k) (by rw [HL.out]; omega)
   by_cases hlt2 : k < lb.length
   ·have hib := HB.out.idx k hlt2
    have hcb := (hbel.cell (p := ⟨b2,o2+k,none⟩) (HB.out.lt (by omega))).trans (HB.out.seg k hlt2)
    have hxb := QF HB.out.lim k
    go_wp2
    go_roundw
    case rel =>
     refine ⟨k+1,(cy+nth la k+nth lb k) / 4294967296,cur.set k ((cy+nth la k+nth lb k) % 4294967296),by omega,by go_num,by go_num,by omega,hrow.set' _ _ (by omega),by rw [List.length_set,HL.out],hcm.set (by omega),?_,hbel.setCell (Nat.le_refl _) _⟩
     rw [Qo (by rw [HL.out]; omega),Qf,Qf,Qx]
     exact ZQ _ _ _ _ _ _ _ HV.out
    case measure => simp [intOf]; omega
   ·go_wp2
    go_roundw
    case rel =>
     refine ⟨k+1,(cy+nth la k) / 4294967296,cur.set k ((cy+nth la k) % 4294967296),by omega,by go_num,by go_num,by omega,hrow.set' _ _ (by omega),by rw [List.length_set,HL.out],hcm.set (by omega),?_,hbel.setCell (Nat.le_refl _) _⟩
     rw [Qo (by rw [HL.out]; omega),Qf,Qf,Qx,QL (l := lb) (by omega)]
     exact ZQ _ _ _ _ _ 0 _ HV.out
    case measure => simp [intOf]; omega
  ·obtain rfl : k=la.length := by omega
   have hcc := hrow.cell (j := la.length) (by rw [HL.out]; omega)
   go_wp2_with fail
   refine (ZA (hrow.set' la.length cy (by omega)) (hcm.set (by omega)) (by rw [List.length_set,HL.out]) (by omega)).mono ?_
   rintro e w' ⟨rfl,v',rfl,hv'⟩
   go_wp2
   go_ret
   refine ⟨hbel.setCell (Nat.le_refl _) _,v',rfl,?_⟩
   have hvv : val (cur.set la.length cy)=val la+val lb := by
    have h1 := HV.out
    rw [List.take_length,List.take_of_length_le hlb] at h1
    have h2 := Qo (l := cur) (k := la.length) (y := cy) (by rw [HL.out]; omega)
    rw [List.take_of_length_le (by rw [List.length_set,HL.out]; omega)] at h2
    rw [h2,Nat.mul_comm (pw _)]; exact h1
   rw [hvv] at hv'
   exact hv'
theorem Sv {w : World} {ao bo : Option Addr} {ca cb b1 o1 b2 o2 : Nat} {la lb : List Nat} (ha : Sl w 31 ao ca la b1 o1) (hb : Sl w 31 bo cb lb b2 o2) (hla : la.length≤1099511627776) (hlt0 : lb.length < la.length) :
  Calls Tryz.prog 90 #[.slice bo lb.length cb,.slice ao la.length ca] w fun e w' => Below w.heap.size w w'∧∃ v,e=.returned v∧NatN w' v (val la+val lb) := by
 have hmk := Zy (t := 31) (by kernel_rfl) (la.length+1) (by omega)
 have ec : ((la.length+1 : Nat) : Int)=(la.length : Int)+1 := by omega
 rw [ec] at hmk
 clear ec
 have HA : Hid (Sl w 31 ao ca la b1 o1) := ha
 have HB : Hid (Sl w 31 bo cb lb b2 o2) := hb
 clear ha hb
 go_enter Tryz.func90,Tryz.ntmps90
 go_wp2
 go_loopw [6,7] (fun c i wr => ∃ (k cy : Nat) (cur : List Nat),k≤la.length∧i=.int .i64 k∧c=.int .u64 cy∧cy≤1∧Row wr w.heap.size cur∧cur.length=la.length+1∧Lim cur∧val (cur.take k)+cy*pw k=val (la.take k)+val (lb.take k)∧Below w.heap.size w wr) (fun _ i _ => la.length - (intOf i).toNat)
 case atStart => exact ⟨0,0,List.replicate (la.length+1) 0,Nat.zero_le _,rfl,rfl,Nat.zero_le _,Row.new _ _,by simp,Zi _,by simp [val],Qh _ _⟩
 case round =>
  obtain ⟨k,cy,cur,hk,rfl,rfl,hcy,hrow,hcl,hcm,hval,hbel⟩ := hrel
  have HV : Hid (val (cur.take k)+cy*pw k=val (la.take k)+val (lb.take k)) := hval
  have HL : Hid (cur.length=la.length+1) := hcl
  clear hval hcl
  have hfz := hrow.frozen k
  by_cases hlt : k < la.length
  ·have hia := HA.out.idx k hlt
   have hca := (hbel.cell (p := ⟨b1,o1+k,none⟩) (HA.out.lt (by omega))).trans (HA.out.seg k hlt)
   have hxa := QF HA.out.lim k
   have hcc := hrow.cell (j := k) (by rw [HL.out]; omega)
   by_cases hlt2 : k < lb.length
   ·have hib := HB.out.idx k hlt2
    have hcb := (hbel.cell (p := ⟨b2,o2+k,none⟩) (HB.out.lt (by omega))).trans (HB.out.seg k hlt2)
    have hxb := QF HB.out.lim k
    go_wp2
    go_roundw
    case rel =>
     refine ⟨k+1,(cy+nth la k+nth lb k) / 4294967296,cur.set k ((cy+nth la k+nth lb k) % 4294967296),by omega,by go_num,by go_num,by omega,hrow.set' _ _ (by omega),by rw [List.length_set,HL.out],hcm.set (by omega),?_,hbel.setCell (Nat.le_refl _) _⟩
     rw [Qo (by rw [HL.out]; omega),Qf,Qf,Qx]
     exact ZQ _ _ _ _ _ _ _ HV.out
    case measure => simp [intOf]; omega
   ·go_wp2
    go_roundw
    case rel =>
     refine ⟨k+1,(cy+nth la k) / 4294967296,cur.set k ((cy+nth la k) % 4294967296),by omega,by go_num,by go_num,by omega,hrow.set' _ _ (by omega),by rw [List.length_set,HL.out],hcm.set (by omega),?_,hbel.setCell (Nat.le_refl _) _⟩
     rw [Qo (by rw [HL.out]; omega),Qf,Qf,Qx,QL (l := lb) (by omega)]
     exact ZQ _ _ _ _ _ 0 _ HV.out
    case measure => simp [intOf]; omega
  ·obtain rfl : k=la.length := by omega
   have hcc := hrow.cell (j := la.length) (by rw [HL.out]; omega)
   go_wp2_with fail
   refine (ZA (hrow.set' la.length cy (by omega)) (hcm.set (by omega)) (by rw [List.length_set,HL.out]) (by omega)).mono ?_
   rintro e w' ⟨rfl,v',rfl,hv'⟩
   go_wp2
   go_ret
   refine ⟨hbel.setCell (Nat.le_refl _) _,v',rfl,?_⟩
   have hvv : val (cur.set la.length cy)=val la+val lb := by
    have h1 := HV.out
    rw [List.take_length,List.take_of_length_le (l := lb) (by omega)] at h1
    have h2 := Qo (l := cur) (k := la.length) (y := cy) (by rw [HL.out]; omega)
    rw [List.take_of_length_le (by rw [List.length_set,HL.out]; omega)] at h2
    rw [h2,Nat.mul_comm (pw _)]; exact h1
   rw [hvv] at hv'
   exact hv'
theorem Il {w : World} {va vb : Value} {a b : Nat} (ha : NatN w va a) (hb : NatN w vb b) (hla : Small a) (hlb : Small b) :
  Calls Tryz.prog 90 #[va,vb] w fun e w' => Below w.heap.size w w'∧∃ v,e=.returned v∧NatN w' v (a+b) := by
 obtain ⟨la,ha,ta,rfl⟩ := ha
 obtain ⟨lb,hb,tb,rfl⟩ := hb
 obtain ⟨ao,ca,b1,o1,rfl,sa⟩ := ha.sl32
 obtain ⟨bo,cb,b2,o2,rfl,sb⟩ := hb.sl32
 have h1 := hla.len ta
 have h2 := hlb.len tb
 by_cases h : la.length < lb.length
 ·have := Sv sb sa h2 h
  rwa [Nat.add_comm (val lb)] at this
 ·exact FH sa sb h1 (by omega)
theorem Su {w : World} {ao bo : Option Addr} {ca cb b1 o1 b2 o2 : Nat} {la lb : List Nat} (ha : Sl w 31 ao ca la b1 o1) (hb : Sl w 31 bo cb lb b2 o2) (hla : la.length≤1099511627776) (hll : la.length=lb.length) :
  Calls Tryz.prog 102 #[.slice ao la.length ca,.slice bo lb.length cb] w fun e w' => Below w.heap.size w w'∧∃ c : Int,e=.returned (.int .i64 c)∧(c < 0 ↔ val la < val lb)∧(c=0 ↔ val la=val lb)∧-1≤c∧c≤1 := by
 have hbb : ((la.length : Int) != (lb.length : Int))=false := by simp [hll]
 have HLL : Hid (la.length=lb.length) := hll
 clear hll
 have HA : Hid (Sl w 31 ao ca la b1 o1) := ha
 have HB : Hid (Sl w 31 bo cb lb b2 o2) := hb
 clear ha hb
 go_enter Tryz.func102,Tryz.ntmps102
 go_wp2
 go_loopw [5] (fun i wr => ∃ k : Nat,k≤la.length∧i=.int .i64 ((k : Int) - 1)∧(∀ j,k≤j→nth la j=nth lb j)∧Below w.heap.size w wr) (fun i _ => (intOf i+1).toNat)
 case atStart => exact ⟨la.length,Nat.le_refl _,rfl,fun j hj => by rw [QL hj,QL (by rw [← HLL.out]; exact hj)],Below.refl _ _⟩
 case round =>
  obtain ⟨k,hk,rfl,he,hbel⟩ := hrel
  have HE : Hid (∀ j,k≤j→nth la j=nth lb j) := he
  clear he
  by_cases h0 : k=0
  ·subst h0
   go_wp2
   go_ret
   refine ⟨hbel,0,rfl,?_⟩
   have := Jy (l := la) (m := lb) (fun j => HE.out j (Nat.zero_le _))
   omega
  ·obtain ⟨m,rfl⟩ : ∃ m,k=m+1 := ⟨k - 1,by omega⟩
   rw [show (((m+1 : Nat) : Int) - 1)=(m : Int) from by omega]
   have hia := HA.out.idx m (by omega)
   have hib := HB.out.idx m (by rw [← HLL.out]; omega)
   have hca := (hbel.cell (p := ⟨b1,o1+m,none⟩) (HA.out.lt (by omega))).trans (HA.out.seg m (by omega))
   have hcb := (hbel.cell (p := ⟨b2,o2+m,none⟩) (HB.out.lt (by rw [← HLL.out]; omega))).trans (HB.out.seg m (by rw [← HLL.out]; omega))
   rcases Nat.lt_trichotomy (nth la m) (nth lb m) with h | h | h
   ·have e0 : ((nth la m : Int) != (nth lb m : Int))=true := by simp; omega
    have e1 : (nth la m : Int) < nth lb m := by omega
    have HH : Hid (nth la m < nth lb m) := h
    clear h
    go_wp2
    go_quiet (fail)
    go_wp2
    go_quiet (fail)
    go_wp2
    go_ret
    have hv := XC HA.out.lim HH.out (fun j hj => HE.out j (by omega)) HLL.out
    exact ⟨QM (QM hbel _) _,-1,rfl,by omega,by omega,by decide,by decide⟩
   ·have e0 : ((nth la m : Int) != (nth lb m : Int))=false := by simp; omega
    have HH : Hid (nth la m=nth lb m) := h
    clear h
    go_wp2
    go_quiet (fail)
    go_wp2
    go_roundw
    case rel =>
     refine ⟨m,by omega,by go_num,fun j hj => ?_,QM hbel _⟩
     by_cases e : j=m
     ·rw [e]; exact HH.out
     ·exact HE.out j (by omega)
    case measure => simp [intOf]
   ·have e0 : ((nth la m : Int) != (nth lb m : Int))=true := by simp; omega
    have e1 : ¬ (nth la m : Int) < nth lb m := by omega
    have HH : Hid (nth lb m < nth la m) := h
    clear h
    go_wp2
    go_quiet (fail)
    go_wp2
    go_quiet (fail)
    go_wp2
    go_ret
    have hv := XC HB.out.lim HH.out (fun j hj => (HE.out j (by omega)).symm) HLL.out.symm
    exact ⟨QM (QM hbel _) _,1,rfl,by omega,by omega,by decide,by decide⟩
theorem Bg (ao bo : Option Addr) (n m ca cb : Nat) (w : World) (h : n ≠ m) :
  Calls Tryz.prog 102 #[.slice ao n ca,.slice bo m cb] w fun e w' => e=.returned (.int .i64 (if n < m then -1 else 1))∧w'=w := by
 have hb : ((n : Int) != (m : Int))=true := by simp; omega
 by_cases hlt : n < m
 ·rw [if_pos hlt]
  go_enter Tryz.func102,Tryz.ntmps102
  go_wp2
  go_ret
  exact ⟨rfl,rfl⟩
 ·rw [if_neg hlt]
  go_enter Tryz.func102,Tryz.ntmps102
  go_wp2
  go_ret
  exact ⟨rfl,rfl⟩
theorem Un {w : World} {va vb : Value} {a b : Nat} (ha : NatN w va a) (hb : NatN w vb b) (hla : Small a) (hlb : Small b) :
  Calls Tryz.prog 102 #[va,vb] w fun e w' => Below w.heap.size w w'∧∃ c : Int,e=.returned (.int .i64 c)∧(c < 0 ↔ a < b)∧(c=0 ↔ a=b)∧-1≤c∧c≤1 := by
 obtain ⟨la,ha,ta,rfl⟩ := ha
 obtain ⟨lb,hb,tb,rfl⟩ := hb
 obtain ⟨ao,ca,b1,o1,rfl,sa⟩ := ha.sl32
 obtain ⟨bo,cb,b2,o2,rfl,sb⟩ := hb.sl32
 have h1 := hla.len ta
 have h2 := hlb.len tb
 by_cases h : la.length=lb.length
 ·exact Su sa sb h1 h
 ·refine (Bg ao bo _ _ ca cb w h).mono ?_
  rintro e w' ⟨rfl,rfl⟩
  refine ⟨Below.refl _ _,_,rfl,?_⟩
  rcases Nat.lt_or_ge la.length lb.length with hlt | hge
  ·have := ZZ sa.lim tb hlt
   rw [if_pos hlt]
   omega
  ·have := ZZ sb.lim ta (by omega)
   rw [if_neg (by omega)]
   omega
theorem Xt {w : World} {va vb : Value} {a b : Nat} (ha : NatN w va a) (hb : NatN w vb b) (hla : Small a) (hlb : Small b) :
  Calls Tryz.prog 102 #[va,vb] w fun e w' => Below w.heap.size w w'∧∃ c : Int,e=.returned (.int .i64 c)∧(c < 0 ↔ a < b)∧(c=0 ↔ a=b) := by
 refine (Un ha hb hla hlb).mono ?_
 rintro e w' ⟨hbl,c,rfl,h1,h2,_⟩
 exact ⟨hbl,c,rfl,h1,h2⟩
end Go.Proofs.YtnhplfjlhdpgoaaGreatDoor
/- NumD -/
namespace Go.Proofs.YtnhplfjlhdpgoaaGreatDoor
open Go.RowKit Cx
theorem GG {w : World} {ao bo : Option Addr} {ca cb b1 o1 b2 o2 : Nat} {la lb : List Nat} (ha : Sl w 56 ao ca la b1 o1) (hb : Sl w 56 bo cb lb b2 o2) (hla : la.length≤1099511627776) (hlb : lb.length≤1099511627776)
  (na : ∀ wx,Below w.heap.size w wx→Calls Tryz.prog 141 #[.slice ao la.length ca] wx fun e w' => e=.returned (.bool false)∧w'=wx)
  (nb : ∀ wx,Below w.heap.size w wx→Calls Tryz.prog 141 #[.slice bo lb.length cb] wx fun e w' => e=.returned (.bool false)∧w'=wx) :
  Calls Tryz.prog 108 #[.slice ao la.length ca,.slice bo lb.length cb] w fun e w' => Below w.heap.size w w'∧∃ v,e=.returned v∧NatN w' v (val la*val lb) := by
 have hmk := Zy (t := 56) (by kernel_rfl) (la.length+lb.length) (by omega)
 have ec : ((la.length+lb.length : Nat) : Int)=(la.length : Int)+lb.length := by omega
 rw [ec] at hmk
 clear ec
 have HA : Hid (Sl w 56 ao ca la b1 o1) := ha
 have HB : Hid (Sl w 56 bo cb lb b2 o2) := hb
 have NA : Hid (∀ wx,Below w.heap.size w wx→Calls Tryz.prog 141 #[.slice ao la.length ca] wx fun e w' => e=.returned (.bool false)∧w'=wx) := na
 have NB : Hid (∀ wx,Below w.heap.size w wx→Calls Tryz.prog 141 #[.slice bo lb.length cb] wx fun e w' => e=.returned (.bool false)∧w'=wx) := nb
 clear ha hb na nb
 go_enter Tryz.func108,Tryz.ntmps108
 go_wp2_with fail
 refine (NA.out _ (Below.refl _ _)).mono ?_
 rintro e w1 ⟨rfl,hw1⟩
 have hw2 := hw1.symm; subst hw2; clear hw1
 go_wp2_with fail
 refine (NB.out _ (Below.refl _ _)).mono ?_
 rintro e w1 ⟨rfl,hw1⟩
 have hw2 := hw1.symm; subst hw2; clear hw1
 go_wp2
 go_loopw [25] (fun i wr => ∃ (k : Nat) (cur : List Nat),k≤la.length∧i=.int .i64 k∧Row wr w.heap.size cur∧cur.length=la.length+lb.length∧Lim cur∧val (cur.take (k+lb.length))=val (la.take k)*val lb∧Below w.heap.size w wr) (fun i _ => la.length - (intOf i).toNat)
 case atStart => exact ⟨0,List.replicate (la.length+lb.length) 0,Nat.zero_le _,rfl,Row.new _ _,by simp,Zi _,by rw [List.take_replicate,Rj]; simp [val],Qh _ _⟩
 case round =>
  obtain ⟨k,cur,hk,rfl,hrow,hcl,hcm,hval,hbel⟩ := hrel
  have HV : Hid (val (cur.take (k+lb.length))=val (la.take k)*val lb) := hval
  have HL : Hid (cur.length=la.length+lb.length) := hcl
  clear hval hcl
  by_cases hlt : k < la.length
  ·have hia := HA.out.idx k hlt
   have hca := (hbel.cell (p := ⟨b1,o1+k,none⟩) (HA.out.lt (by omega))).trans (HA.out.seg k hlt)
   have hxa := QF HA.out.lim k
   go_wp2
   go_loopw [8,32] (fun c i wq => ∃ (j cy : Nat) (cu : List Nat),j≤lb.length∧i=.int .i64 j∧c=.int .u64 cy∧cy < 4294967296∧Row wq w.heap.size cu∧cu.length=la.length+lb.length∧Lim cu∧val (cu.take (k+j))+cy*pw (k+j)=val (cur.take (k+j))+pw k*nth la k*val (lb.take j)∧(∀ r,k+j≤r→nth cu r=nth cur r)∧Below w.heap.size w wq) (fun _ i _ => lb.length - (intOf i).toNat)
   case atStart => exact ⟨0,0,cur,Nat.zero_le _,rfl,rfl,by omega,hrow,HL.out,hcm,by simp [val],fun _ _ => rfl,hbel⟩
   case round =>
    obtain ⟨j,cy,cu,hj,rfl,rfl,hcy,hrw,hcul,hcum,hv2,hag,hbl⟩ := hrel
    clear hrow hbel hca hia
    have HV2 : Hid (val (cu.take (k+j))+cy*pw (k+j)=val (cur.take (k+j))+pw k*nth la k*val (lb.take j)) := hv2
    have HL2 : Hid (cu.length=la.length+lb.length) := hcul
    have HG : Hid (∀ r,k+j≤r→nth cu r=nth cur r) := hag
    clear hv2 hcul hag
    by_cases hjl : j < lb.length
    ·have hib := HB.out.idx j hjl
     have hcb := (hbl.cell (p := ⟨b2,o2+j,none⟩) (HB.out.lt (by omega))).trans (HB.out.seg j hjl)
     have hxb := QF HB.out.lim j
     have hcc := hrw.cell (j := k+j) (by rw [HL2.out]; omega)
     have hxc := QF hcum (k+j)
     have hfz := hrw.frozen (k+j)
     obtain ⟨m1,hm1⟩ : ∃ m1,m1=nth la k*nth lb j := ⟨_,rfl⟩
     have hb1 : m1≤18446744065119617025 := by rw [hm1]; exact Ja hxa hxb
     have hr1 : (nth la k : Int)*(nth lb j : Int)=(m1 : Int) := by rw [hm1]; exact (Int.natCast_mul _ _).symm
     have HM : Hid (m1=nth la k*nth lb j) := hm1
     clear hm1
     go_wp2
     go_roundw
     case rel =>
      refine ⟨j+1,(cy+(m1+nth cu (k+j))) / 4294967296,cu.set (k+j) ((cy+(m1+nth cu (k+j))) % 4294967296),by omega,by go_num,by go_num,by omega,hrw.set' _ _ (by omega),by rw [List.length_set,HL2.out],hcum.set (by omega),?_,?_,hbl.setCell (Nat.le_refl _) _⟩
      ·rw [← Nat.add_assoc k j 1,Qo (by rw [HL2.out]; omega),Qf,Qf,Qx,← HG.out (k+j) (Nat.le_refl _)]
       exact GO _ _ _ _ _ (pw j) _ _ _ _ _ _ HV2.out (by rw [← HM.out]; omega) (DS _ _)
      ·intro r hr
       rw [Zb (by omega)]
       exact HG.out r (by omega)
     case measure => simp [intOf]; omega
    ·obtain rfl : j=lb.length := by omega
     have hcc := hrw.cell (j := k+lb.length) (by rw [HL2.out]; omega)
     have hfz := hrw.frozen (k+lb.length)
     go_wp2
     go_roundw
     case rel =>
      refine ⟨k+1,cu.set (k+lb.length) cy,by omega,by go_num,hrw.set' _ _ (by omega),by rw [List.length_set,HL2.out],hcum.set (by omega),?_,hbl.setCell (Nat.le_refl _) _⟩
      have h1 := HV2.out
      rw [List.take_length,HV.out] at h1
      rw [show k+1+lb.length=k+lb.length+1 from by omega,Qo (by rw [HL2.out]; omega),Qf,Nat.add_mul,Nat.mul_comm (pw (k+lb.length))]
      exact h1
     case measure => simp [intOf]; omega
  ·obtain rfl : k=la.length := by omega
   go_wp2_with fail
   refine (YQ hrow hcm HL.out (by omega)).mono ?_
   rintro e w' ⟨rfl,v',rfl,hv'⟩
   go_wp2
   go_ret
   refine ⟨hbel,v',rfl,?_⟩
   have h1 := HV.out
   rw [List.take_length,List.take_of_length_le (by rw [HL.out]; omega)] at h1
   rw [h1] at hv'
   exact hv'
theorem Ji {w : World} {va vb : Value} {a b : Nat} (ha : NatN w va a) (hb : NatN w vb b) (hla : Small a) (hlb : Small b) :
  Calls Tryz.prog 108 #[va,vb] w fun e w' => Below w.heap.size w w'∧∃ v,e=.returned v∧NatN w' v (a*b) := by
 by_cases h1 : a=1
 ·have H : Hid (NatN w vb (a*b)) := by rw [h1,Nat.one_mul]; exact hb
  have HA : Hid _ := Zj ha
  rw [decide_eq_true h1] at HA
  clear ha hb h1
  go_enter Tryz.func108,Tryz.ntmps108
  go_wp2_with fail
  refine Calls.mono HA.out ?_
  rintro e w1 ⟨rfl,hw1⟩
  have hw2 := hw1.symm; subst hw2; clear hw1
  go_wp2
  go_ret
  exact ⟨Below.refl _ _,_,rfl,H.out⟩
 by_cases h2 : b=1
 ·have H : Hid (NatN w va (a*b)) := by rw [h2,Nat.mul_one]; exact ha
  have HA : Hid _ := Zj ha
  rw [decide_eq_false h1] at HA
  have HB : Hid _ := Zj hb
  rw [decide_eq_true h2] at HB
  clear ha hb h1 h2
  go_enter Tryz.func108,Tryz.ntmps108
  go_wp2_with fail
  refine Calls.mono HA.out ?_
  rintro e w1 ⟨rfl,hw1⟩
  have hw2 := hw1.symm; subst hw2; clear hw1
  go_wp2_with fail
  refine Calls.mono HB.out ?_
  rintro e w1 ⟨rfl,hw1⟩
  have hw2 := hw1.symm; subst hw2; clear hw1
  go_wp2
  go_ret
  exact ⟨Below.refl _ _,_,rfl,H.out⟩
 have na : ∀ wx,Below w.heap.size w wx→Calls Tryz.prog 141 #[va] wx fun e w' => e=.returned (.bool false)∧w'=wx := fun wx hx => by
  have := Zj (ha.below hx)
  rwa [decide_eq_false h1] at this
 have nb : ∀ wx,Below w.heap.size w wx→Calls Tryz.prog 141 #[vb] wx fun e w' => e=.returned (.bool false)∧w'=wx := fun wx hx => by
  have := Zj (hb.below hx)
  rwa [decide_eq_false h2] at this
 obtain ⟨la,ha,ta,rfl⟩ := ha
 obtain ⟨lb,hb,tb,rfl⟩ := hb
 obtain ⟨ao,ca,b1,o1,rfl,sa⟩ := ha.slN
 obtain ⟨bo,cb,b2,o2,rfl,sb⟩ := hb.slN
 exact GG sa sb (hla.len ta) (hlb.len tb) na nb
end Go.Proofs.YtnhplfjlhdpgoaaGreatDoor
/- BC -/
namespace Go.Proofs.YtnhplfjlhdpgoaaGreatDoor
open Go.RowKit Cx
theorem EO (p br : Nat) (hp : p < 4294967296) (hb : br≤1) :
  ∃ br' out : Nat,IntKind.u64.wrap ((p : Int) - br) / 9223372036854775808=(br' : Int)∧IntKind.u64.wrap ((p : Int) - br) % 4294967296=(out : Int)∧br'≤1∧out < 4294967296∧out+br=p+4294967296*br' := by
 simp only [IntKind.wrap_u64]
 by_cases h : br≤p
 ·exact ⟨0,p - br,by omega,by omega,by omega,by omega,by omega⟩
 ·exact ⟨1,p+4294967296 - br,by omega,by omega,by omega,by omega,by omega⟩
theorem NS (p q br : Nat) (hp : p < 4294967296) (hq : q < 4294967296) (hb : br≤1) :
  ∃ br' out : Nat,IntKind.u64.wrap (IntKind.u64.wrap ((p : Int) - br) - q) / 9223372036854775808=(br' : Int)∧IntKind.u64.wrap (IntKind.u64.wrap ((p : Int) - br) - q) % 4294967296=(out : Int)∧br'≤1∧out < 4294967296∧out+q+br=p+4294967296*br' := by
 simp only [IntKind.wrap_u64]
 by_cases h : q+br≤p
 ·exact ⟨0,p - q - br,by omega,by omega,by omega,by omega,by omega⟩
 ·exact ⟨1,p+4294967296 - q - br,by omega,by omega,by omega,by omega,by omega⟩
theorem PE (A B P c x y V o c' : Nat) (h : V+B=A+c*P) (e : o+y+c=x+4294967296*c') : V+P*o+(B+P*y)=A+P*x+c'*(4294967296*P) := by
 have h2 : P*o+P*y+P*c=P*x+P*(4294967296*c') := by rw [← Nat.mul_add,← Nat.mul_add,e,Nat.mul_add]
 have h3 : P*(4294967296*c')=c'*(4294967296*P) := by rw [Nat.mul_left_comm,Nat.mul_comm P c',Nat.mul_left_comm]
 have h4 : P*c=c*P := Nat.mul_comm _ _
 omega
theorem SK {w : World} {ao bo : Option Addr} {ca cb b1 o1 b2 o2 : Nat} {la lb : List Nat} (ha : Sl w 31 ao ca la b1 o1) (hb : Sl w 31 bo cb lb b2 o2) (hla : la.length≤1099511627776) (hlb : lb.length≤1099511627776)
  (ea : la.length ≠ 0) (eb : lb.length ≠ 0) :
  Calls Tryz.prog 55 #[.slice ao la.length ca,.slice bo lb.length cb] w fun e w' => Below w.heap.size w w'∧∃ v,e=.returned v∧NatN w' v (val la*val lb) := by
 have hmk := Zy (t := 31) (by kernel_rfl) (la.length+lb.length) (by omega)
 have ec : ((la.length+lb.length : Nat) : Int)=(la.length : Int)+lb.length := by omega
 rw [ec] at hmk
 clear ec
 have HA : Hid (Sl w 31 ao ca la b1 o1) := ha
 have HB : Hid (Sl w 31 bo cb lb b2 o2) := hb
 clear ha hb
 have xa : ((la.length : Int) == 0)=false := beq_eq_false_iff_ne.mpr (by omega)
 have xb : ((lb.length : Int) == 0)=false := beq_eq_false_iff_ne.mpr (by omega)
 go_enter Tryz.func55,Tryz.ntmps55
 go_wp2
 go_loopw [6] (fun i wr => ∃ (k : Nat) (cur : List Nat),k≤la.length∧i=.int .i64 k∧Row wr w.heap.size cur∧cur.length=la.length+lb.length∧Lim cur∧val (cur.take (k+lb.length))=val (la.take k)*val lb∧Below w.heap.size w wr) (fun i _ => la.length - (intOf i).toNat)
 case atStart => exact ⟨0,List.replicate (la.length+lb.length) 0,Nat.zero_le _,rfl,Row.new _ _,by simp,Zi _,by rw [List.take_replicate,Rj]; simp [val],Qh _ _⟩
 case round =>
  obtain ⟨k,cur,hk,rfl,hrow,hcl,hcm,hval,hbel⟩ := hrel
  have HV : Hid (val (cur.take (k+lb.length))=val (la.take k)*val lb) := hval
  have HL : Hid (cur.length=la.length+lb.length) := hcl
  clear hval hcl
  by_cases hlt : k < la.length
  ·have hia := HA.out.idx k hlt
   have hca := (hbel.cell (p := ⟨b1,o1+k,none⟩) (HA.out.lt (by omega))).trans (HA.out.seg k hlt)
   have hxa := QF HA.out.lim k
   go_wp2
   go_loopw [7,8] (fun c i wq => ∃ (j cy : Nat) (cu : List Nat),j≤lb.length∧i=.int .i64 j∧c=.int .u64 cy∧cy < 4294967296∧Row wq w.heap.size cu∧cu.length=la.length+lb.length∧Lim cu∧val (cu.take (k+j))+cy*pw (k+j)=val (cur.take (k+j))+pw k*nth la k*val (lb.take j)∧(∀ r,k+j≤r→nth cu r=nth cur r)∧Below w.heap.size w wq) (fun _ i _ => lb.length - (intOf i).toNat)
   case atStart => exact ⟨0,0,cur,Nat.zero_le _,rfl,rfl,by omega,hrow,HL.out,hcm,by simp [val],fun _ _ => rfl,hbel⟩
   case round =>
    obtain ⟨j,cy,cu,hj,rfl,rfl,hcy,hrw,hcul,hcum,hv2,hag,hbl⟩ := hrel
    clear hrow hbel hca
    have hca := (hbl.cell (p := ⟨b1,o1+k,none⟩) (HA.out.lt (by omega))).trans (HA.out.seg k hlt)
    have HV2 : Hid (val (cu.take (k+j))+cy*pw (k+j)=val (cur.take (k+j))+pw k*nth la k*val (lb.take j)) := hv2
    have HL2 : Hid (cu.length=la.length+lb.length) := hcul
    have HG : Hid (∀ r,k+j≤r→nth cu r=nth cur r) := hag
    clear hv2 hcul hag
    by_cases hjl : j < lb.length
    ·have hib := HB.out.idx j hjl
     have hcb := (hbl.cell (p := ⟨b2,o2+j,none⟩) (HB.out.lt (by omega))).trans (HB.out.seg j hjl)
     have hxb := QF HB.out.lim j
     have hcc := hrw.cell (j := k+j) (by rw [HL2.out]; omega)
     have hxc := QF hcum (k+j)
     have hfz := hrw.frozen (k+j)
     obtain ⟨m1,hm1⟩ : ∃ m1,m1=nth la k*nth lb j := ⟨_,rfl⟩
     have hb1 : m1≤18446744065119617025 := by rw [hm1]; exact Ja hxa hxb
     have hr1 : (nth la k : Int)*(nth lb j : Int)=(m1 : Int) := by rw [hm1]; exact (Int.natCast_mul _ _).symm
     have HM : Hid (m1=nth la k*nth lb j) := hm1
     clear hm1
     go_wp2
     go_quiet (fail)
     go_wp2
     go_roundw
     case rel =>
      refine ⟨j+1,(cy+(m1+nth cu (k+j))) / 4294967296,cu.set (k+j) ((cy+(m1+nth cu (k+j))) % 4294967296),by omega,by go_num,by go_num,by omega,Row.set' (w := wr.drewN _) hrw _ _ (by omega),by rw [List.length_set,HL2.out],hcum.set (by omega),?_,?_,(QM hbl _).setCell (Nat.le_refl _) _⟩
      ·rw [← Nat.add_assoc k j 1,Qo (by rw [HL2.out]; omega),Qf,Qf,Qx,← HG.out (k+j) (Nat.le_refl _)]
       exact GO _ _ _ _ _ (pw j) _ _ _ _ _ _ HV2.out (by rw [← HM.out]; omega) (DS _ _)
      ·intro r hr
       rw [Zb (by omega)]
       exact HG.out r (by omega)
     case measure => simp [intOf]; omega
    ·obtain rfl : j=lb.length := by omega
     have hcc := hrw.cell (j := k+lb.length) (by rw [HL2.out]; omega)
     have hfz := hrw.frozen (k+lb.length)
     go_wp2
     go_roundw
     case rel =>
      refine ⟨k+1,cu.set (k+lb.length) cy,by omega,by go_num,hrw.set' _ _ (by omega),by rw [List.length_set,HL2.out],hcum.set (by omega),?_,hbl.setCell (Nat.le_refl _) _⟩
      have h1 := HV2.out
      rw [List.take_length,HV.out] at h1
      rw [show k+1+lb.length=k+lb.length+1 from by omega,Qo (by rw [HL2.out]; omega),Qf,Nat.add_mul,Nat.mul_comm (pw (k+lb.length))]
      exact h1
     case measure => simp [intOf]; omega
  ·obtain rfl : k=la.length := by omega
   go_wp2_with fail
   refine (ZA hrow hcm HL.out (by omega)).mono ?_
   rintro e w' ⟨rfl,v',rfl,hv'⟩
   go_wp2
   go_ret
   refine ⟨hbel,v',rfl,?_⟩
   have h1 := HV.out
   rw [List.take_length,List.take_of_length_le (by rw [HL.out]; omega)] at h1
   rw [h1] at hv'
   exact hv'
theorem Fv (ao bo : Option Addr) (ca m cb : Nat) (w : World) :
  Calls Tryz.prog 55 #[.slice ao 0 ca,.slice bo m cb] w fun e w' => e=.returned (.slice none 0 0)∧w'=w := by
 go_enter Tryz.func55,Tryz.ntmps55
 go_wp2
 go_ret
 exact ⟨rfl,rfl⟩
theorem FL (ao bo : Option Addr) (ca n cb : Nat) (w : World) (h : n ≠ 0) :
  Calls Tryz.prog 55 #[.slice ao n ca,.slice bo 0 cb] w fun e w' => e=.returned (.slice none 0 0)∧w'=w := by
 have xa : ((n : Int) == 0)=false := beq_eq_false_iff_ne.mpr (by omega)
 go_enter Tryz.func55,Tryz.ntmps55
 go_wp2
 go_ret
 exact ⟨rfl,rfl⟩
theorem OP {w : World} {va vb : Value} {a b : Nat} (ha : NatN w va a) (hb : NatN w vb b) (hla : Small a) (hlb : Small b) :
  Calls Tryz.prog 55 #[va,vb] w fun e w' => Below w.heap.size w w'∧∃ v,e=.returned v∧NatN w' v (a*b) := by
 obtain ⟨la,ha,ta,rfl⟩ := ha
 obtain ⟨lb,hb,tb,rfl⟩ := hb
 obtain ⟨ao,ca,b1,o1,rfl,sa⟩ := ha.sl32
 obtain ⟨bo,cb,b2,o2,rfl,sb⟩ := hb.sl32
 by_cases h1 : la.length=0
 ·have e1 : la=[] := List.length_eq_zero_iff.mp h1
  subst e1
  refine (Fv ao bo ca _ cb w).mono ?_
  rintro e w' ⟨rfl,rfl⟩
  exact ⟨Below.refl _ _,_,rfl,[],NatV.nil _ _ _,Or.inl rfl,by simp [val]⟩
 by_cases h2 : lb.length=0
 ·have e1 : lb=[] := List.length_eq_zero_iff.mp h2
  subst e1
  refine (FL ao bo ca _ cb w h1).mono ?_
  rintro e w' ⟨rfl,rfl⟩
  exact ⟨Below.refl _ _,_,rfl,[],NatV.nil _ _ _,Or.inl rfl,by simp [val]⟩
 exact SK sa sb (hla.len ta) (hlb.len tb) h1 h2
theorem Ca {w : World} {ao bo : Option Addr} {ca cb b1 o1 b2 o2 : Nat} {la lb : List Nat} (ha : Sl w 31 ao ca la b1 o1) (hb : Sl w 31 bo cb lb b2 o2) (hla : la.length≤1099511627776) (hlb : lb.length≤la.length) (hle : val lb≤val la) :
  Calls Tryz.prog 164 #[.slice ao la.length ca,.slice bo lb.length cb] w fun e w' => Below w.heap.size w w'∧∃ v,e=.returned v∧NatN w' v (val la - val lb) := by
 have hmk := Zy (t := 31) (by kernel_rfl) la.length (by omega)
 have HA : Hid (Sl w 31 ao ca la b1 o1) := ha
 have HB : Hid (Sl w 31 bo cb lb b2 o2) := hb
 have HLE : Hid (val lb≤val la) := hle
 clear ha hb hle
 go_enter Tryz.func164,Tryz.ntmps164
 go_wp2
 go_loopw [6,7] (fun c i wr => ∃ (k br : Nat) (cur : List Nat),k≤la.length∧i=.int .i64 k∧c=.int .u64 br∧br≤1∧Row wr w.heap.size cur∧cur.length=la.length∧Lim cur∧val (cur.take k)+val (lb.take k)=val (la.take k)+br*pw k∧Below w.heap.size w wr) (fun _ i _ => la.length - (intOf i).toNat)
 case atStart => exact ⟨0,0,List.replicate la.length 0,Nat.zero_le _,rfl,rfl,Nat.zero_le _,Row.new _ _,by simp,Zi _,by simp [val],Qh _ _⟩
 case round =>
  obtain ⟨k,br,cur,hk,rfl,rfl,hbr,hrow,hcl,hcm,hval,hbel⟩ := hrel
  have HV : Hid (val (cur.take k)+val (lb.take k)=val (la.take k)+br*pw k) := hval
  have HL : Hid (cur.length=la.length) := hcl
  clear hval hcl
  have hfz := hrow.frozen k
  by_cases hlt : k < la.length
  ·have hia := HA.out.idx k hlt
   have hca := (hbel.cell (p := ⟨b1,o1+k,none⟩) (HA.out.lt (by omega))).trans (HA.out.seg k hlt)
   have hxa := QF HA.out.lim k
   have hcc := hrow.cell (j := k) (by rw [HL.out]; omega)
   by_cases hlt2 : k < lb.length
   ·have hib := HB.out.idx k hlt2
    have hcb := (hbel.cell (p := ⟨b2,o2+k,none⟩) (HB.out.lt (by omega))).trans (HB.out.seg k hlt2)
    have hxb := QF HB.out.lim k
    obtain ⟨br',out,hw1,hw2,hb',ho',hsum⟩ := NS (nth la k) (nth lb k) br hxa hxb hbr
    go_wp2
    go_roundw
    case rel =>
     refine ⟨k+1,br',cur.set k out,by omega,by go_num,by go_num,hb',hrow.set' _ _ (by go_num),by rw [List.length_set,HL.out],hcm.set (by omega),?_,hbel.setCell (Nat.le_refl _) _⟩
     rw [Qo (by rw [HL.out]; omega),Qf,Qf,Qx]
     exact PE _ _ _ _ _ _ _ _ _ HV.out hsum
    case measure => simp [intOf]; omega
   ·obtain ⟨br',out,hw1,hw2,hb',ho',hsum⟩ := EO (nth la k) br hxa hbr
    go_wp2
    go_roundw
    case rel =>
     refine ⟨k+1,br',cur.set k out,by omega,by go_num,by go_num,hb',hrow.set' _ _ (by go_num),by rw [List.length_set,HL.out],hcm.set (by omega),?_,hbel.setCell (Nat.le_refl _) _⟩
     rw [Qo (by rw [HL.out]; omega),Qf,Qf,Qx,QL (l := lb) (by omega)]
     exact PE _ _ _ _ _ 0 _ _ _ HV.out (by omega)
    case measure => simp [intOf]; omega
  ·obtain rfl : k=la.length := by omega
   go_wp2_with fail
   refine (ZA hrow hcm HL.out (by omega)).mono ?_
   rintro e w' ⟨rfl,v',rfl,hv'⟩
   go_wp2
   go_ret
   refine ⟨hbel,v',rfl,?_⟩
   have hvv : val cur=val la - val lb := by
    have h1 := HV.out
    rw [List.take_length,List.take_of_length_le (l := lb) hlb,List.take_of_length_le (l := cur) (by rw [HL.out]; omega)] at h1
    have h2 := ZB hcm
    rw [HL.out] at h2
    have h3 := HLE.out
    rcases Nat.lt_or_ge br 1 with h | h
    ·have : br=0 := by omega
     subst this; omega
    ·have : br=1 := by omega
     subst this; omega
   rw [hvv] at hv'
   exact hv'
theorem Ij {w : World} {va vb : Value} {a b : Nat} (ha : NatN w va a) (hb : NatN w vb b) (hla : Small a) (hle : b≤a) :
  Calls Tryz.prog 164 #[va,vb] w fun e w' => Below w.heap.size w w'∧∃ v,e=.returned v∧NatN w' v (a - b) := by
 obtain ⟨la,ha,ta,rfl⟩ := ha
 obtain ⟨lb,hb,tb,rfl⟩ := hb
 obtain ⟨ao,ca,b1,o1,rfl,sa⟩ := ha.sl32
 obtain ⟨bo,cb,b2,o2,rfl,sb⟩ := hb.sl32
 refine Ca sa sb (hla.len ta) ?_ hle
 rcases Nat.lt_or_ge la.length lb.length with h | h
 ·have := ZZ sa.lim tb h
  omega
 ·exact h
end Go.Proofs.YtnhplfjlhdpgoaaGreatDoor
/- Math2 -/
namespace Cx
theorem Ns {l : List Nat} {k : Nat} (h : k < l.length) : l.drop k=nth l k :: l.drop (k+1) := by
 rw [List.drop_eq_getElem_cons h,Xx h]
theorem JS {l : List Nat} {k : Nat} (h : k < l.length) : val (l.drop k)=nth l k+4294967296*val (l.drop (k+1)) := by
 rw [Ns h,Vs]
theorem Ou (H q r x d : Nat) (h : H=d*q+r) :
  x+4294967296*H=d*((r*4294967296+x) / d+4294967296*q)+(r*4294967296+x) % d := by
 have e := Nat.div_add_mod (r*4294967296+x) d
 subst h
 grind
theorem Ug (r x d : Nat) (hr : r < d) (hx : x < 4294967296) : (r*4294967296+x) / d < 4294967296 := by
 rw [Nat.div_lt_iff_lt_mul (by omega)]
 have : (r+1)*4294967296≤d*4294967296 := Nat.mul_le_mul_right _ hr
 rw [Nat.mul_comm 4294967296 d]
 omega
theorem UM {l : List Nat} {n k : Nat} (h : n≤k) : nth (l.take n) k=0 := QL (by simp; omega)
theorem Ii (l : List Nat) (n m y : Nat) : val (((l.set m y).take n).drop (m+1))=val ((l.take n).drop (m+1)) := by
 apply Jy
 intro j
 rw [JT,JT]
 by_cases h : m+1+j < n
 ·rw [YS h,YS h,Zb (by omega)]
 ·rw [UM (by omega),UM (by omega)]
theorem UC (V k B A cy br P y x c' q br' out : Nat) (h : V+k*B=A+(cy+br)*P) (e : q+4294967296*c'=cy+k*y) (e3 : out+q+br=x+4294967296*br') :
  V+P*out+k*(B+P*y)=(A+P*x)+(c'+br')*(4294967296*P) := by grind
end Cx
/- NumE -/
namespace Go.Proofs.YtnhplfjlhdpgoaaGreatDoor
open Go.RowKit Cx
structure Only (g : Nat) (w w' : World) : Prop where
 os : w'.os=w.os
 tape : w'.tape=w.tape
 output : w'.output=w.output
 size : w'.heap.size=w.heap.size
 block : ∀ k,k ≠ g→w'.heap[k]? = w.heap[k]?
theorem Only.refl (g : Nat) (w : World) : Only g w w := ⟨rfl,rfl,rfl,rfl,fun _ _ => rfl⟩
theorem Only.trans {g : Nat} {a b c : World} (h : Only g a b) (k : Only g b c) : Only g a c :=
 ⟨k.os.trans h.os,k.tape.trans h.tape,k.output.trans h.output,k.size.trans h.size,fun i hi => (k.block i hi).trans (h.block i hi)⟩
theorem Only.set {g : Nat} {a w : World} (h : Only g a w) (j : Nat) (v : Value) : Only g a (w.setCell ⟨g,j,none⟩ v) :=
 h.trans ⟨rfl,rfl,rfl,by simp [World.setCell],fun k hk => Below.heap_setCell _ _ _ _ hk⟩
theorem Only.drewN {g : Nat} {a w : World} (h : Only g a w) (n : Nat) : Only g a (w.drewN n) := h.trans ⟨rfl,rfl,rfl,rfl,fun _ _ => rfl⟩
theorem Only.cell {g : Nat} {w w' : World} (h : Only g w w') {p : Addr} (hp : p.block ≠ g) : w'.cell? p=w.cell? p := World.cell?_of_block (w := w) (h.block p.block hp)
theorem Only.below {g B : Nat} {a w w' : World} (h : Only g w w') (hb : Below B a w) (hB : B≤g) : Below B a w' :=
 hb.trans ⟨h.os,h.tape,h.output,by rw [h.size]; exact Nat.le_refl _,fun k hk => h.block k (by omega)⟩
theorem UV (x y d : Nat) : (((x*4294967296+y) / d : Nat) : Int)=((x : Int)*4294967296+(y : Int)) / (d : Int) := by
 rw [Int.natCast_ediv,Int.natCast_add,Int.natCast_mul]; rfl
theorem UW (x y d : Nat) : (((x*4294967296+y) % d : Nat) : Int)=((x : Int)*4294967296+(y : Int)) % (d : Int) := by
 rw [Int.natCast_emod,Int.natCast_add,Int.natCast_mul]; rfl
theorem CX {q : Nat} (h : q < 4294967296) : (q : Int) % 4294967296=(q : Int) := by omega
theorem WN {k : IntKind} {a b : Int} (h : a=b) : Ending.returned (.int k a)=.returned (.int k b) := by rw [h]
theorem UP (x y : Nat) (hx : x < 4294967296) (hy : y < 4294967296) : bits .or .u64 ((x : Int)*4294967296) (y : Int)=((x*4294967296+y : Nat) : Int) := by
 have := u64_or_nat (x*4294967296) y (by omega) (by omega)
 rw [Int.natCast_mul] at this
 rw [show ((4294967296 : Nat) : Int)=4294967296 from rfl] at this
 rw [this]
 congr 1
 have h := Nat.shiftLeft_add_eq_or_of_lt (i := 32) (b := y) (by omega) x
 rw [Nat.shiftLeft_eq] at h
 exact h.symm
theorem Uc {w : World} {g n cap d : Nat} {l : List Nat} (hr : Row w g l) (hl : Lim l) (hn : n≤l.length) (hm : n≤1099511627776) (hd : 0 < d) (hd2 : d < 4294967296) :
  Calls Tryz.prog 145 #[.slice (some ⟨g,0,none⟩) n cap,.int .u32 d] w fun e w' => e=.returned (.int .u32 (val (l.take n) % d : Nat))∧Only g w w'∧∃ l',Row w' g l'∧Lim l'∧l'.length=l.length∧val (l'.take n)=val (l.take n) / d := by
 go_enter Tryz.func145,Tryz.ntmps145
 go_wp2
 go_loopw [5,6] (fun lf i wr => ∃ (k r : Nat) (cur : List Nat),k≤n∧i=.int .i64 ((k : Int) - 1)∧lf=.int .u64 r∧r < d∧Row wr g cur∧cur.length=l.length∧Lim cur∧(∀ j,j < k→nth cur j=nth l j)∧val ((l.take n).drop k)=d*val ((cur.take n).drop k)+r∧Only g w wr) (fun _ i _ => (intOf i+1).toNat)
 case atStart => exact ⟨n,0,l,Nat.le_refl _,rfl,rfl,hd,hr,rfl,hl,fun _ _ => rfl,by rw [List.drop_of_length_le (by simp; omega)]; simp [val],Only.refl _ _⟩
 case round =>
  obtain ⟨k,r,cur,hk,rfl,rfl,hrd,hrow,hcl,hcm,hag,hval,honly⟩ := hrel
  have HV : Hid (val ((l.take n).drop k)=d*val ((cur.take n).drop k)+r) := hval
  have HL : Hid (cur.length=l.length) := hcl
  have HG : Hid (∀ j,j < k→nth cur j=nth l j) := hag
  clear hval hcl hag
  by_cases h0 : k=0
  ·subst h0
   go_wp2
   go_ret
   have h1 := HV.out
   rw [List.drop_zero,List.drop_zero] at h1
   have hq : val (cur.take n)=val (l.take n) / d := by
    rw [h1,Nat.mul_add_div hd,Nat.div_eq_of_lt hrd,Nat.add_zero]
   have hm2 : val (l.take n) % d=r := by
    rw [h1,Nat.mul_add_mod,Nat.mod_eq_of_lt hrd]
   refine ⟨?_,honly,cur,hrow,hcm,HL.out,hq⟩
   rw [hm2]
   exact WN (by omega)
  ·obtain ⟨m,rfl⟩ : ∃ m,k=m+1 := ⟨k - 1,by omega⟩
   rw [show (((m+1 : Nat) : Int) - 1)=(m : Int) from by omega]
   have hcc := hrow.cell (j := m) (by rw [HL.out]; omega)
   have hfz := hrow.frozen m
   have hx := QF hcm m
   have hor := UP r (nth cur m) (by omega) hx
   go_wp2
   go_roundw
   case rel =>
    have hq := Ug r (nth cur m) d hrd hx
    have e1 : (((r*4294967296+nth cur m) % d : Nat) : Int)=((r : Int)*4294967296+(nth cur m : Int)) % (d : Int) := UW _ _ _
    have e2 : (((r*4294967296+nth cur m) / d : Nat) : Int)=((r : Int)*4294967296+(nth cur m : Int)) / (d : Int) := UV _ _ _
    refine ⟨m,(r*4294967296+nth cur m) % d,cur.set m ((r*4294967296+nth cur m) / d),by omega,rfl,by rw [e1],Nat.mod_lt _ hd,hrow.set' _ _ (by rw [← e2]; exact CX hq),by rw [List.length_set,HL.out],hcm.set hq,?_,?_,honly.set _ _⟩
    ·intro j hj
     rw [Zb (by omega)]
     exact HG.out j (by omega)
    ·rw [JS (l := l.take n) (by simp; omega),JS (l := (cur.set m _).take n) (by simp; rw [HL.out]; omega),Ii,YS (by omega),YS (by omega),ZS (by rw [HL.out]; omega),← HG.out m (by omega)]
     exact Ou _ _ _ _ _ HV.out
   case measure => simp [intOf]
theorem Row.mid {w : World} {g : Nat} {p u s : List Nat} (h : Row w g (p ++ u ++ s)) {j : Nat} (hj : j < u.length) : w.cell? ⟨g,p.length+j,none⟩=some (.int .u32 (nth u j : Int)) := by
 rw [h.cell (by simp; omega),Tf (by simp; omega),Ra (by omega)]
 simp
theorem Row.midSet {w : World} {g : Nat} {p u s : List Nat} (h : Row w g (p ++ u ++ s)) {j y : Nat} (hj : j < u.length) {z : Int} (hz : z=(y : Int)) : Row (w.setCell ⟨g,p.length+j,none⟩ (.int .u32 z)) g (p ++ u.set j y ++ s) := by
 have := h.set' (p.length+j) y hz
 rw [List.set_append_left _ _ (by simp; omega),List.set_append_right _ _ (by omega)] at this
 simpa using this
theorem We {w : World} {g cu cv gv ov k n : Nat} {p u s v : List Nat} (hr : Row w g (p ++ u ++ s)) (hu : Lim u) (hv : Lim v) (hsv : Seg w gv ov v) (hne : gv ≠ g) (hn : v.length=n) (hun : u.length=n+1) (hm : n≤1099511627776) (hk : k < 4294967296) :
  Calls Tryz.prog 185 #[.slice (some ⟨g,p.length,none⟩) (n+1) cu,.slice (some ⟨gv,ov,none⟩) n cv,.int .u64 k] w fun e w' => Only g w w'∧∃ (u' : List Nat) (br : Nat),e=.returned (.bool (decide (br=1)))∧br≤1∧Row w' g (p ++ u' ++ s)∧Lim u'∧u'.length=n+1∧val u'+k*val v=val u+br*pw (n+1) := by
 have HN : Hid (v.length=n) := hn
 have HU : Hid (u.length=n+1) := hun
 clear hn hun
 have HS : Hid (Seg w gv ov v) := hsv
 clear hsv
 go_enter Tryz.func185,Tryz.ntmps185
 go_wp2
 go_loopw [7,8,15] (fun c b i wr => ∃ (j cy br : Nat) (cur : List Nat),j≤n∧i=.int .i64 j∧c=.int .u64 cy∧b=.int .u64 br∧cy < 4294967296∧br≤1∧Row wr g (p ++ cur ++ s)∧cur.length=n+1∧Lim cur∧(∀ r,j≤r→nth cur r=nth u r)∧val (cur.take j)+k*val (v.take j)=val (u.take j)+(cy+br)*pw j∧Only g w wr) (fun _ _ i _ => n - (intOf i).toNat)
 case atStart => exact ⟨0,0,0,u,Nat.zero_le _,rfl,rfl,rfl,by omega,by omega,hr,HU.out,hu,fun _ _ => rfl,by simp [val],Only.refl _ _⟩
 case round =>
  obtain ⟨j,cy,br,cur,hj,rfl,rfl,rfl,hcy,hbr,hrow,hcl,hcm,hag,hval,honly⟩ := hrel
  have HV : Hid (val (cur.take j)+k*val (v.take j)=val (u.take j)+(cy+br)*pw j) := hval
  have HL : Hid (cur.length=n+1) := hcl
  have HG : Hid (∀ r,j≤r→nth cur r=nth u r) := hag
  clear hval hcl hag hr
  have hcc := hrow.mid (j := j) (by rw [HL.out]; omega)
  have hfz := hrow.frozen (p.length+j)
  have hx := QF hcm j
  by_cases hlt : j < n
  ·have hcv := (honly.cell (p := ⟨gv,ov+j,none⟩) hne).trans (HS.out j (by rw [HN.out]; exact hlt))
   have hxv := QF hv j
   obtain ⟨m1,hm1⟩ : ∃ m1,m1=k*nth v j := ⟨_,rfl⟩
   have hb1 : m1≤18446744065119617025 := by rw [hm1]; exact Ja hk hxv
   have hr1 : (k : Int)*(nth v j : Int)=(m1 : Int) := by rw [hm1]; exact (Int.natCast_mul _ _).symm
   obtain ⟨q,hq⟩ : ∃ q,q=(cy+m1) % 4294967296 := ⟨_,rfl⟩
   have ha2 : bits .and .u64 ((cy : Int)+m1) 4294967295=(q : Int) := by
    have := Xz (cy+m1) (by omega)
    rw [hq,← this,Int.natCast_add]
   obtain ⟨br',out,hs1,hs2,hbr',hout,hsum⟩ := Yj (nth cur j) q br hx (by omega) hbr
   have F : Hid (m1=k*nth v j∧q=(cy+m1) % 4294967296∧out+q+br=nth cur j+4294967296*br') := ⟨hm1,hq,hsum⟩
   clear hm1 hq hsum
   go_wp2
   go_roundw
   case rel =>
    obtain ⟨hm1,hq,hsum⟩ := F.out
    refine ⟨j+1,(cy+m1) / 4294967296,br',cur.set j out,by omega,by go_num,by go_num,by go_num,by omega,hbr',hrow.midSet (by rw [HL.out]; omega) (by omega),by rw [List.length_set,HL.out],hcm.set hout,?_,?_,honly.set _ _⟩
    ·intro r hr
     rw [Zb (by omega)]
     exact HG.out r (by omega)
    ·rw [Qo (by rw [HL.out]; omega),Qf,Qf,Qx,← HG.out j (Nat.le_refl _)]
     exact UC _ _ _ _ _ _ _ _ _ _ _ _ _ HV.out (by rw [← hm1]; omega) hsum
   case measure => simp [intOf]; omega
  ·obtain rfl : j=n := by omega
   obtain ⟨br',out,hs1,hs2,hbr',hout,hsum⟩ := Yj (nth cur j) cy br hx hcy hbr
   have F : Hid (out+cy+br=nth cur j+4294967296*br') := hsum
   clear hsum
   go_wp2
   go_ret
   refine ⟨honly.set _ _,cur.set j out,br',?_,hbr',hrow.midSet (by rw [HL.out]; omega) (by omega),hcm.set hout,by rw [List.length_set,HL.out],?_⟩
   ·have : ((br' : Int) != 0)=decide (br'=1) := by
     have : br'=0 ∨ br'=1 := by omega
     rcases this with rfl | rfl <;> rfl
    rw [← this]
    rfl
   ·have h1 := Qo (l := cur) (k := j) (y := out) (by rw [HL.out]; omega)
    rw [List.take_of_length_le (by rw [List.length_set,HL.out]; omega)] at h1
    have h2 := Qf u j
    rw [List.take_of_length_le (by rw [HU.out]; omega)] at h2
    have h3 := UC _ _ _ _ _ _ _ 0 _ 0 _ br' out HV.out (by simp) F.out
    rw [List.take_of_length_le (l := v) (by rw [HN.out]; omega)] at h3
    rw [h1,h2,Qx,← HG.out j (Nat.le_refl _)]
    simpa using h3
theorem Wd {w : World} {g cu cv gv ov n : Nat} {p u s v : List Nat} (hr : Row w g (p ++ u ++ s)) (hu : Lim u) (hv : Lim v) (hsv : Seg w gv ov v) (hne : gv ≠ g) (hn : v.length=n) (hun : u.length=n+1) (hm : n≤1099511627776) :
  Calls Tryz.prog 186 #[.slice (some ⟨g,p.length,none⟩) (n+1) cu,.slice (some ⟨gv,ov,none⟩) n cv] w fun e w' => e=.returned (.tuple #[])∧Only g w w'∧∃ (u' : List Nat) (c : Nat),Row w' g (p ++ u' ++ s)∧Lim u'∧u'.length=n+1∧val u'+c*pw (n+1)=val u+val v := by
 have HN : Hid (v.length=n) := hn
 have HU : Hid (u.length=n+1) := hun
 clear hn hun
 have HS : Hid (Seg w gv ov v) := hsv
 clear hsv
 go_enter Tryz.func186,Tryz.ntmps186
 go_wp2
 go_loopw [4,9] (fun c i wr => ∃ (j cy : Nat) (cur : List Nat),j≤n∧i=.int .i64 j∧c=.int .u64 cy∧cy≤1∧Row wr g (p ++ cur ++ s)∧cur.length=n+1∧Lim cur∧(∀ r,j≤r→nth cur r=nth u r)∧val (cur.take j)+cy*pw j=val (u.take j)+val (v.take j)∧Only g w wr) (fun _ i _ => n - (intOf i).toNat)
 case atStart => exact ⟨0,0,u,Nat.zero_le _,rfl,rfl,by omega,hr,HU.out,hu,fun _ _ => rfl,by simp [val],Only.refl _ _⟩
 case round =>
  obtain ⟨j,cy,cur,hj,rfl,rfl,hcy,hrow,hcl,hcm,hag,hval,honly⟩ := hrel
  have HV : Hid (val (cur.take j)+cy*pw j=val (u.take j)+val (v.take j)) := hval
  have HL : Hid (cur.length=n+1) := hcl
  have HG : Hid (∀ r,j≤r→nth cur r=nth u r) := hag
  clear hval hcl hag hr
  have hcc := hrow.mid (j := j) (by rw [HL.out]; omega)
  have hfz := hrow.frozen (p.length+j)
  have hx := QF hcm j
  by_cases hlt : j < n
  ·have hcv := (honly.cell (p := ⟨gv,ov+j,none⟩) hne).trans (HS.out j (by rw [HN.out]; exact hlt))
   have hxv := QF hv j
   go_wp2
   go_roundw
   case rel =>
    refine ⟨j+1,(cy+nth cur j+nth v j) / 4294967296,cur.set j ((cy+nth cur j+nth v j) % 4294967296),by omega,by go_num,by go_num,by omega,hrow.midSet (by rw [HL.out]; omega) (by omega),by rw [List.length_set,HL.out],hcm.set (by omega),?_,?_,honly.set _ _⟩
    ·intro r hr
     rw [Zb (by omega)]
     exact HG.out r (by omega)
    ·rw [Qo (by rw [HL.out]; omega),Qf,Qf,Qx,← HG.out j (Nat.le_refl _)]
     exact ZQ _ _ _ _ _ _ _ HV.out
   case measure => simp [intOf]; omega
  ·obtain rfl : j=n := by omega
   have hw32 : IntKind.u32.wrap ((nth cur j : Int)+(cy : Int))=(((cy+nth cur j+0) % 4294967296 : Nat) : Int) := by
    simp only [IntKind.wrap_u32]; omega
   have HW : Hid (IntKind.u32.wrap ((nth cur j : Int)+(cy : Int))=(((cy+nth cur j+0) % 4294967296 : Nat) : Int)) := hw32
   clear hw32
   go_wp2
   go_end0
   refine ⟨rfl,honly.set _ _,cur.set j ((cy+nth cur j+0) % 4294967296),(cy+nth cur j+0) / 4294967296,hrow.midSet (by rw [HL.out]; omega) HW.out,hcm.set (by omega),by rw [List.length_set,HL.out],?_⟩
   have h1 := Qo (l := cur) (k := j) (y := (cy+nth cur j+0) % 4294967296) (by rw [HL.out]; omega)
   rw [List.take_of_length_le (by rw [List.length_set,HL.out]; omega)] at h1
   have h2 := Qf u j
   rw [List.take_of_length_le (by rw [HU.out]; omega)] at h2
   have h3 := ZQ _ _ _ _ (nth cur j) 0 _ HV.out
   rw [List.take_of_length_le (l := v) (by rw [HN.out]; omega)] at h3
   rw [h1,h2,Qx,← HG.out j (Nat.le_refl _)]
   simpa using h3
end Go.Proofs.YtnhplfjlhdpgoaaGreatDoor
/- MathK -/
namespace Cx
structure Lead (U V P top u2 lead v2 : Nat) : Prop where
 hU : ∃ ul,ul < P∧U=(top*4294967296+u2)*P+ul
 hV : ∃ vl,vl < P∧V=(lead*4294967296+v2)*P+vl
 hu2 : u2 < 4294967296
 hv2 : v2 < 4294967296
 hl : 0 < lead
theorem Lead.start {U V P top u2 lead v2 : Nat} (h : Lead U V P top u2 lead v2) : U < (top / lead+1)*V := by
 obtain ⟨ul,hul,rfl⟩ := h.hU
 obtain ⟨vl,hvl,rfl⟩ := h.hV
 have h1 : top < (top / lead+1)*lead := by
  have := Nat.div_add_mod top lead
  have := Nat.mod_lt top h.hl
  rw [Nat.add_mul,Nat.mul_comm (top / lead)]
  omega
 have hu2 := h.hu2
 generalize top / lead+1=g at *
 have h2 : (top+1)*(4294967296*P)≤g*lead*(4294967296*P) := Nat.mul_le_mul_right _ h1
 have h3 : u2*P+P≤4294967296*P := by
  have : (u2+1)*P≤4294967296*P := Nat.mul_le_mul_right _ hu2
  rwa [Nat.add_mul,Nat.one_mul] at this
 have h4 : (top*4294967296+u2)*P+ul < (top+1)*(4294967296*P) := by
  have : (top*4294967296+u2)*P+P≤(top+1)*(4294967296*P) := by
   have e1 : (top*4294967296+u2)*P=top*(4294967296*P)+u2*P := by grind
   have e2 : (top+1)*(4294967296*P)=top*(4294967296*P)+4294967296*P := by grind
   omega
  omega
 have h5 : g*lead*(4294967296*P)≤g*((lead*4294967296+v2)*P+vl) := by
  have : g*((lead*4294967296+v2)*P+vl)=g*lead*(4294967296*P)+g*(v2*P+vl) := by grind
  omega
 omega
theorem Lead.down {U V P top u2 lead v2 g r : Nat} (h : Lead U V P top u2 lead v2) (ht : top=g*lead+r) (hg : r*4294967296+u2 < g*v2) : U < g*V := by
 obtain ⟨ul,hul,rfl⟩ := h.hU
 obtain ⟨vl,hvl,rfl⟩ := h.hV
 subst ht
 have h1 : (r*4294967296+u2+1)*P≤g*v2*P := Nat.mul_le_mul_right _ hg
 have e1 : ((g*lead+r)*4294967296+u2)*P+ul+P=g*lead*4294967296*P+(r*4294967296+u2+1)*P+ul := by grind
 have e2 : g*((lead*4294967296+v2)*P+vl)=g*lead*4294967296*P+g*v2*P+g*vl := by grind
 omega
theorem Lead.top_le {U V P u0 u1 u2 lead v2 : Nat} (h : Lead U V P (u0*4294967296+u1) u2 lead v2) (hq : U < 4294967296*V) : u0≤lead := by
 obtain ⟨ul,hul,rfl⟩ := h.hU
 obtain ⟨vl,hvl,rfl⟩ := h.hV
 have hv2 := h.hv2
 have hP : 0 < P := by omega
 rcases Nat.lt_or_ge lead u0 with hc | hc
 ·exfalso
  have h1 : (lead+1)*(4294967296*4294967296*P)≤u0*(4294967296*4294967296*P) := Nat.mul_le_mul_right _ hc
  have h2 : (v2+1)*P≤4294967296*P := Nat.mul_le_mul_right _ hv2
  have e1 : ((u0*4294967296+u1)*4294967296+u2)*P+ul=u0*(4294967296*4294967296*P)+(u1*4294967296+u2)*P+ul := by grind
  have e2 : 4294967296*((lead*4294967296+v2)*P+vl)=lead*(4294967296*4294967296*P)+4294967296*(v2*P+vl) := by grind
  have e3 : (v2+1)*P=v2*P+P := by grind
  have e4 : (lead+1)*(4294967296*4294967296*P)=lead*(4294967296*4294967296*P)+4294967296*(4294967296*P) := by grind
  have h3 : 4294967296*(v2*P+vl) < 4294967296*(4294967296*P) := by omega
  omega
 ·exact hc
theorem Lead.done {U V P top u2 lead v2 g r : Nat} (h : Lead U V P top u2 lead v2) (ht : top=g*lead+r) (hg : g < 4294967296) (he : 4294967296≤r ∨ g*v2≤r*4294967296+u2) : g*V < U+V := by
 obtain ⟨ul,hul,rfl⟩ := h.hU
 obtain ⟨vl,hvl,rfl⟩ := h.hV
 have hv2 := h.hv2
 have hl := h.hl
 have h0 : g*v2≤r*4294967296+u2 := by
  rcases he with he | he
  ·have h1 : g*v2≤4294967296*4294967296 := Nat.mul_le_mul (by omega) (by omega)
   omega
  ·exact he
 subst ht
 have h1 : g*v2*P≤(r*4294967296+u2)*P := Nat.mul_le_mul_right _ h0
 have h2 : g*vl≤4294967296*P := Nat.mul_le_mul (by omega) (by omega)
 have h2' : g*vl < 4294967296*P+1 := by omega
 have h3 : 1*(4294967296*P)≤lead*(4294967296*P) := Nat.mul_le_mul_right _ hl
 have e1 : ((g*lead+r)*4294967296+u2)*P=g*lead*4294967296*P+(r*4294967296+u2)*P := by grind
 have e2 : g*((lead*4294967296+v2)*P+vl)=g*lead*4294967296*P+g*v2*P+g*vl := by grind
 have e3 : (lead*4294967296+v2)*P=lead*(4294967296*P)+v2*P := by grind
 have h4 : g*vl < 4294967296*P := by
  cases g with
  | zero => omega
  | succ g =>
   have : (g+1)*vl+(g+1)≤(g+1)*P := by
    have : (g+1)*(vl+1)≤(g+1)*P := Nat.mul_le_mul_left _ hvl
    rwa [Nat.mul_add,Nat.mul_one] at this
   have : (g+1)*P≤4294967296*P := Nat.mul_le_mul_right _ (by omega)
   omega
 omega
theorem Lead.below {u0 u1 lead g r : Nat} (hu1 : u1 < 4294967296) (hle : u0≤lead) (ht : u0*4294967296+u1=g*lead+r) (hg : 4294967296≤g) : r < 4294967296 := by
 have : 4294967296*lead≤g*lead := Nat.mul_le_mul_right _ hg
 omega
theorem Lead.of {u v : List Nat} {n : Nat} (hu : Lim u) (hv : Lim v) (hun : u.length=n+1) (hvn : v.length=n) (h2 : 2≤n) (hl : 0 < nth v (n - 1)) :
  Lead (val u) (val v) (pw (n - 2)) (nth u n*4294967296+nth u (n - 1)) (nth u (n - 2)) (nth v (n - 1)) (nth v (n - 2)) := by
 obtain ⟨m,rfl⟩ : ∃ m,n=m+2 := ⟨n - 2,by omega⟩
 refine ⟨⟨val (u.take m),Jl hu m,?_⟩,⟨val (v.take m),Jl hv m,?_⟩,QF hu _,QF hv _,hl⟩
 ·have h1 := Qf u m
  have h2 := Qf u (m+1)
  have h3 := Qf u (m+2)
  rw [List.take_of_length_le (by omega)] at h3
  have e2 : pw (m+2)=4294967296*(4294967296*pw m) := by rw [show m+2=(m+1)+1 from rfl,Qx,Qx]
  rw [h3,h2,h1,e2,Qx m]
  show _=((nth u (m+2)*4294967296+nth u (m+1))*4294967296+nth u m)*pw m+_
  clear h1 h2 h3 e2 hun hvn hu hv hl
  generalize pw m=P
  generalize nth u (m+2)=a
  generalize nth u (m+1)=b
  generalize nth u m=c
  generalize val (u.take m)=d
  grind
 ·have h1 := Qf v m
  have h2 := Qf v (m+1)
  rw [List.take_of_length_le (by omega)] at h2
  rw [h2,h1,Qx m]
  show _=(nth v (m+1)*4294967296+nth v m)*pw m+_
  clear h1 h2 hun hvn hu hv hl
  generalize pw m=P
  generalize nth v (m+1)=b
  generalize nth v m=c
  generalize val (v.take m)=d
  grind
end Cx
/- MathS -/
namespace Cx
theorem Um {s : Nat} (h : s < 32) : 2 ^ s≤2147483648 := by
 have := Nat.pow_le_pow_right (show 0 < 2 by omega) (show s≤31 by omega)
 omega
theorem Xb {s : Nat} (h : s < 32) : 4294967296=2 ^ (32 - s)*2 ^ s := by
 rw [← Nat.pow_add,show 32 - s+s=32 from by omega]
theorem Ea {s x c : Nat} (h : s < 32) (hc : c < 2 ^ s) : (x*2 ^ s % 4294967296) ||| c=x*2 ^ s % 4294967296+c := by
 have e : x*2 ^ s % 4294967296=(x % 2 ^ (32 - s)) <<< s := by
  rw [Nat.shiftLeft_eq]
  conv => lhs; rw [Xb h]
  rw [Nat.mul_mod_mul_right]
 rw [e]
 exact (Nat.shiftLeft_add_eq_or_of_lt hc _).symm
theorem CI {s x c : Nat} (h : s < 32) (hc : c < 2 ^ s) : x*2 ^ s % 4294967296+c < 4294967296 := by
 have e : x*2 ^ s % 4294967296=(x % 2 ^ (32 - s))*2 ^ s := by
  conv => lhs; rw [Xb h]
  rw [Nat.mul_mod_mul_right]
 have h1 : x % 2 ^ (32 - s)+1≤2 ^ (32 - s) := Nat.mod_lt _ (Nat.two_pow_pos _)
 have h2 := Nat.mul_le_mul_right (2 ^ s) h1
 rw [← Xb h,Nat.add_mul,Nat.one_mul,← e] at h2
 omega
theorem Pu (V c P A S x m : Nat) (h : V+c*P=A*S) (e : m=x*S) :
  V+P*(m % 4294967296+c)+(m / 4294967296)*(4294967296*P)=(A+P*x)*S := by
 have e2 := Nat.mod_add_div m 4294967296
 generalize m % 4294967296=a at *
 generalize m / 4294967296=b at *
 subst e
 grind
theorem LI {s x : Nat} (h : s < 32) : x*4294967296 / 2 ^ s % 4294967296=(x % 2 ^ s)*2 ^ (32 - s) := by
 have hS := Nat.two_pow_pos s
 have e1 : x*4294967296 / 2 ^ s=x*2 ^ (32 - s) := by
  conv => lhs; rw [Xb h,← Nat.mul_assoc]
  exact Nat.mul_div_cancel _ hS
 rw [e1]
 conv => lhs; rw [Xb h,Nat.mul_comm (2 ^ (32 - s)) (2 ^ s)]
 rw [Nat.mul_mod_mul_right]
theorem shr_or {s x r : Nat} (h : s < 32) (hx : x < 4294967296) : (x / 2 ^ s) ||| (r*2 ^ (32 - s))=x / 2 ^ s+r*2 ^ (32 - s) := by
 have h1 : x / 2 ^ s < 2 ^ (32 - s) := by
  rw [Nat.div_lt_iff_lt_mul (Nat.two_pow_pos _),← Xb h]; exact hx
 have := Nat.shiftLeft_add_eq_or_of_lt h1 r
 rw [Nat.shiftLeft_eq] at this
 rw [Nat.or_comm,← this,Nat.add_comm]
theorem Lv {s x r : Nat} (h : s < 32) (hx : x < 4294967296) (hr : r < 2 ^ s) : x / 2 ^ s+r*2 ^ (32 - s) < 4294967296 := by
 have h1 : x / 2 ^ s < 2 ^ (32 - s) := by
  rw [Nat.div_lt_iff_lt_mul (Nat.two_pow_pos _),← Xb h]; exact hx
 have h2 : (r+1)*2 ^ (32 - s)≤2 ^ s*2 ^ (32 - s) := Nat.mul_le_mul_right _ hr
 rw [Nat.mul_comm (2 ^ s),← Xb h,Nat.add_mul,Nat.one_mul] at h2
 omega
theorem Wq (H q r x S T : Nat) (h : H=S*q+r) (e : 4294967296=T*S) :
  x+4294967296*H=S*(x / S+r*T+4294967296*q)+x % S := by
 have e2 := Nat.div_add_mod x S
 generalize x / S=a at *
 generalize x % S=b at *
 subst h
 have : 4294967296*r=S*(r*T) := by rw [e]; grind
 grind
end Cx
/- MathL -/
namespace Cx
theorem MA {l : List Nat} {n s : Nat} (hl : Lim l) (hn : l.length≤n) (h3 : 3≤n) (hs : s < 32) :
  ∃ al,al < pw (n - 2)∧val l*2 ^ s=((nth l (n - 1)*4294967296+nth l (n - 2))*2 ^ s+nth l (n - 3)*2 ^ s / 4294967296)*pw (n - 2)+al := by
 obtain ⟨m,rfl⟩ : ∃ m,n=m+3 := ⟨n - 3,by omega⟩
 show ∃ al,al < pw (m+1)∧val l*2 ^ s=((nth l (m+2)*4294967296+nth l (m+1))*2 ^ s+nth l m*2 ^ s / 4294967296)*pw (m+1)+al
 have e1 := Qf l m
 have e2 := Qf l (m+1)
 have e3 := Qf l (m+2)
 rw [List.take_of_length_le (by omega)] at e3
 have p1 := Qx m
 have p2 := Qx (m+1)
 have hlow := Jl hl m
 have hS := Nat.two_pow_pos s
 have hz : nth l m*2 ^ s % 4294967296+2 ^ s≤4294967296 := by
  have := CI (x := nth l m) (c := 2 ^ s - 1) hs (by omega)
  omega
 have hdm := Nat.div_add_mod (nth l m*2 ^ s) 4294967296
 generalize 2 ^ s=S at *
 generalize nth l m*S / 4294967296=q at *
 generalize nth l m*S % 4294967296=r at *
 refine ⟨r*pw m+val (l.take m)*S,?_,?_⟩
 ·rw [p1]
  have h1 : (r+S)*pw m≤4294967296*pw m := Nat.mul_le_mul_right _ hz
  have h2 : val (l.take m)*S < pw m*S := Nat.mul_lt_mul_of_pos_right hlow hS
  rw [Nat.add_mul,Nat.mul_comm S] at h1
  omega
 ·rw [e3,e2,e1,p2,p1]
  generalize pw m=P at *
  generalize val (l.take m)=L at *
  generalize nth l (m+2)=a at *
  generalize nth l (m+1)=b at *
  generalize nth l m=c at *
  have : (L+P*c+4294967296*P*b+4294967296*(4294967296*P)*a)*S=L*S+P*(c*S)+(a*4294967296+b)*S*(4294967296*P) := by grind
  rw [this,← hdm]
  grind
structure Bits (a b S D x0 y0 : Nat) : Prop where
 ha : ∃ al,al < D∧a*S=x0*D+al
 hb : ∃ be,be < D∧b*S=y0*D+be
 hS : 0 < S
 hx : x0 < 18446744073709551616
 hle : b≤a
structure Steps (a b x0 y0 x y A0 A1 A2 B0 B1 B2 : Nat) (ev : Bool) : Prop where
 hx : if ev then B1*y0=A1*x0+x else A1*x0=B1*y0+x
 hy : if ev then A2*x0=B2*y0+y else B2*y0=A2*x0+y
 det : if ev then A2*B1=A1*B2+1 else A1*B2=A2*B1+1
 lt : y≤x
 ab : A2≤B2
 pos : 1≤B2
 later : (ev=false∧A0=0∧A1=1∧A2=0∧B0=0∧B1=0∧B2=1) ∨
  (A1≤B1∧B1 < 4294967296∧(if ev then A0*B1=A1*B0+1 else A1*B0=A0*B1+1) ∧
   (∃ r1,(if ev then B1*b=A1*a+r1 else A1*a=B1*b+r1)∧r1≤b ∧
    ((B0=0) ∨ (A0 < 4294967296∧B0 < 4294967296∧∃ r0,(if ev then A0*a=B0*b+r0 else B0*b=A0*a+r0)∧r1 < r0∧r0≤b))))
theorem Steps.start (a b x0 y0 : Nat) (h : y0≤x0) : Steps a b x0 y0 x0 y0 0 1 0 0 0 1 false :=
 ⟨by simp,by simp,by simp,h,by omega,by omega,Or.inl ⟨rfl,rfl,rfl,rfl,rfl,rfl,rfl⟩⟩
theorem Steps.whole {a b x0 y0 x y A0 A1 A2 B0 B1 B2 : Nat} {ev : Bool} (h : Steps a b x0 y0 x y A0 A1 A2 B0 B1 B2 ev) : x*B2+y*B1=x0 := by
 have hx := h.hx
 have hy := h.hy
 have hd := h.det
 cases ev
 ·simp at hx hy hd
  have e1 : A1*x0*B2=(B1*y0+x)*B2 := by rw [hx]
  have e2 : B2*y0*B1=(A2*x0+y)*B1 := by rw [hy]
  have e3 : A1*B2*x0=(A2*B1+1)*x0 := by rw [hd]
  grind
 ·simp at hx hy hd
  have e1 : B1*y0*B2=(A1*x0+x)*B2 := by rw [hx]
  have e2 : A2*x0*B1=(B2*y0+y)*B1 := by rw [hy]
  have e3 : A2*B1*x0=(A1*B2+1)*x0 := by rw [hd]
  grind
theorem Steps.short {a b x0 y0 x y A0 A1 A2 B0 B1 B2 : Nat} {ev : Bool} (h : Steps a b x0 y0 x y A0 A1 A2 B0 B1 B2 ev) (hx0 : x0 < 18446744073709551616) (hy : B2≤y) : B2 < 4294967296 := by
 have hw := h.whole
 rcases Nat.lt_or_ge B2 4294967296 with hc | hc
 ·exact hc
 ·have h1 : 4294967296*4294967296≤x*B2 := Nat.mul_le_mul (Nat.le_trans hc (Nat.le_trans hy h.lt)) hc
  omega
end Cx
/- MathM -/
namespace Cx
theorem Bp {a b S D x0 y0 y A B : Nat} {ev : Bool} (h : Bits a b S D x0 y0) (hy : if ev then A*x0=B*y0+y else B*y0=A*x0+y) (hA : A≤y) (hB : B≤y) :
  ∃ r,if ev then A*a=B*b+r else B*b=A*a+r := by
 obtain ⟨al,hal,ha⟩ := h.ha
 obtain ⟨be,hbe,hb⟩ := h.hb
 cases ev
 ·simp at hy ⊢
  have h1 : A*a*S≤B*b*S := by
   have e1 : A*a*S=A*x0*D+A*al := by rw [Nat.mul_assoc,ha]; grind
   have e2 : B*b*S=(A*x0+y)*D+B*be := by rw [Nat.mul_assoc,hb,← hy]; grind
   have h2 : A*al≤y*D := Nat.mul_le_mul hA (by omega)
   rw [Nat.add_mul] at e2
   omega
  have := Nat.le_of_mul_le_mul_right h1 h.hS
  exact ⟨B*b - A*a,by omega⟩
 ·simp at hy ⊢
  have h1 : B*b*S≤A*a*S := by
   have e1 : B*b*S=B*y0*D+B*be := by rw [Nat.mul_assoc,hb]; grind
   have e2 : A*a*S=(B*y0+y)*D+A*al := by rw [Nat.mul_assoc,ha,← hy]; grind
   have h2 : B*be≤y*D := Nat.mul_le_mul hB (by omega)
   rw [Nat.add_mul] at e2
   omega
  have := Nat.le_of_mul_le_mul_right h1 h.hS
  exact ⟨A*a - B*b,by omega⟩
theorem Pd {a b S D x0 y0 x y A1 A2 B1 B2 r r' : Nat} {ev : Bool} (h : Bits a b S D x0 y0) (hx : if ev then B1*y0=A1*x0+x else A1*x0=B1*y0+x)
  (hy : if ev then A2*x0=B2*y0+y else B2*y0=A2*x0+y) (hA2 : ev=true→1≤A2) (hB2 : 1≤B2) (hab : A1+A2≤B1+B2) (ht : B1+B2+y≤x)
  (h1 : if ev then B1*b=A1*a+r else A1*a=B1*b+r) (h2 : if ev then A2*a=B2*b+r' else B2*b=A2*a+r') : r' < r := by
 obtain ⟨al,hal,ha⟩ := h.ha
 obtain ⟨be,hbe,hb⟩ := h.hb
 obtain ⟨d,hd⟩ : ∃ d,x=y+(B1+B2)+d := ⟨x - y - (B1+B2),by omega⟩
 cases ev
 ·simp at hx hy h1 h2
  have hc : (B1+B2)*b < (A1+A2)*a := by
   apply Nat.lt_of_mul_lt_mul_right (a := S)
   have e1 : (B1+B2)*b*S=(B1+B2)*y0*D+(B1+B2)*be := by rw [Nat.mul_assoc,hb]; grind
   have e3 : (A1+A2)*x0=(B1+B2)*y0+(B1+B2)+d := by grind
   have e2 : (A1+A2)*a*S=((B1+B2)*y0+(B1+B2)+d)*D+(A1+A2)*al := by rw [Nat.mul_assoc,ha,← e3]; grind
   have h3 : (B1+B2)*be < (B1+B2)*D := Nat.mul_lt_mul_of_pos_left hbe (by omega)
   have e4 : ((B1+B2)*y0+(B1+B2)+d)*D=(B1+B2)*y0*D+(B1+B2)*D+d*D := by rw [Nat.add_mul,Nat.add_mul]
   omega
  rw [Nat.add_mul,Nat.add_mul] at hc
  omega
 ·simp at hx hy h1 h2 hA2
  have hc : (A1+A2)*a < (B1+B2)*b := by
   apply Nat.lt_of_mul_lt_mul_right (a := S)
   have e1 : (A1+A2)*a*S=(A1+A2)*x0*D+(A1+A2)*al := by rw [Nat.mul_assoc,ha]; grind
   have e3 : (B1+B2)*y0=(A1+A2)*x0+(B1+B2)+d := by grind
   have e2 : (B1+B2)*b*S=((A1+A2)*x0+(B1+B2)+d)*D+(B1+B2)*be := by rw [Nat.mul_assoc,hb,← e3]; grind
   have h3 : (A1+A2)*al < (A1+A2)*D := Nat.mul_lt_mul_of_pos_left hal (by omega)
   have h4 : (A1+A2)*D≤(B1+B2)*D := Nat.mul_le_mul_right _ hab
   have e4 : ((A1+A2)*x0+(B1+B2)+d)*D=(A1+A2)*x0*D+(B1+B2)*D+d*D := by rw [Nat.add_mul,Nat.add_mul]
   omega
  rw [Nat.add_mul,Nat.add_mul] at hc
  omega
theorem Steps.step {a b S D x0 y0 x y A0 A1 A2 B0 B1 B2 : Nat} {ev : Bool} (h : Steps a b x0 y0 x y A0 A1 A2 B0 B1 B2 ev) (hB : Bits a b S D x0 y0) (h1 : B2≤y) (h2 : B1+B2≤x - y) :
  Steps a b x0 y0 y (x % y) A1 A2 (A1+x / y*A2) B1 B2 (B1+x / y*B2) (!ev) := by
 have hpos := h.pos
 have hab := h.ab
 have hle := h.lt
 have hy0 : 0 < y := by omega
 have hdm := Nat.div_add_mod x y
 have hr := Nat.mod_lt x hy0
 have hq : 1≤x / y := (Nat.le_div_iff_mul_le hy0).2 (by omega)
 have hshort := h.short hB.hx h1
 have hx := h.hx
 have hy := h.hy
 have hd := h.det
 have hl := h.later
 obtain ⟨r',hr'⟩ := Bp hB hy (by omega) (by omega)
 generalize x / y=q at *
 generalize x % y=s at *
 have habq : q*A2≤q*B2 := Nat.mul_le_mul_left _ hab
 have hqb : 1*B2≤q*B2 := Nat.mul_le_mul_right _ hq
 refine ⟨?_,?_,?_,by omega,?_,by omega,Or.inr ⟨hab,hshort,?_,r',?_,?_,?_⟩⟩
 ·cases ev <;> simp at hy ⊢ <;> exact hy
 ·cases ev <;> simp at hx hy ⊢ <;> grind
 ·cases ev <;> simp at hd ⊢ <;> grind
 ·rcases hl with ⟨_,_,rfl,rfl,_,rfl,rfl⟩ | ⟨hl,_⟩ <;> omega
 ·cases ev <;> simp at hd ⊢ <;> exact hd
 ·cases ev <;> simp at hr' ⊢ <;> exact hr'
 ·rcases hl with ⟨rfl,_,rfl,rfl,_,rfl,rfl⟩ | ⟨hl,_,_,r1,hr1,hr1b,_⟩
  ·simp at hr'; omega
  ·have hA2 : ev=true→1≤A2 := by
    intro e
    subst e
    simp at hd
    rcases Nat.eq_zero_or_pos A2 with h | h
    ·rw [h,Nat.zero_mul] at hd; omega
    ·exact h
   have := Pd hB hx hy hA2 hpos (by omega) (by omega) hr1 hr'
   omega
 ·rcases hl with ⟨rfl,_,rfl,rfl,_,rfl,rfl⟩ | ⟨hl,hB1,_,r1,hr1,hr1b,_⟩
  ·exact Or.inl rfl
  ·right
   have hA2 : ev=true→1≤A2 := by
    intro e
    subst e
    simp at hd
    rcases Nat.eq_zero_or_pos A2 with h | h
    ·rw [h,Nat.zero_mul] at hd; omega
    ·exact h
   refine ⟨by omega,hB1,r1,?_,Pd hB hx hy hA2 hpos (by omega) (by omega) hr1 hr',hr1b⟩
   cases ev <;> simp at hr1 ⊢ <;> exact hr1
theorem Steps.fits {a b x0 y0 x y A0 A1 A2 B0 B1 B2 : Nat} {ev : Bool} (h : Steps a b x0 y0 x y A0 A1 A2 B0 B1 B2 ev) (hx0 : x0 < 18446744073709551616) (hx : 1≤x) : B2 < 18446744073709551616 := by
 have hw := h.whole
 have : 1*B2≤x*B2 := Nat.mul_le_mul_right _ hx
 omega
theorem Pn {a b A0 A1 B0 B1 r0 r1 : Nat} (hd : A0*B1=A1*B0+1) (h0 : A0*a=B0*b+r0) (h1 : B1*b=A1*a+r1) : Nat.gcd r0 r1=Nat.gcd a b := by
 have ea : a=B1*r0+B0*r1 := by
  have e1 : A0*a*B1=(B0*b+r0)*B1 := by rw [h0]
  have e2 : B1*b*B0=(A1*a+r1)*B0 := by rw [h1]
  have e3 : A0*B1*a=(A1*B0+1)*a := by rw [hd]
  grind
 have eb : b=A1*r0+A0*r1 := by
  have e1 : A0*a*A1=(B0*b+r0)*A1 := by rw [h0]
  have e2 : B1*b*A0=(A1*a+r1)*A0 := by rw [h1]
  have e3 : A0*B1*b=(A1*B0+1)*b := by rw [hd]
  grind
 apply Nat.dvd_antisymm
 ·apply Nat.dvd_gcd
  ·rw [ea]
   exact Nat.dvd_add (Nat.dvd_mul_left_of_dvd (Nat.gcd_dvd_left _ _) _) (Nat.dvd_mul_left_of_dvd (Nat.gcd_dvd_right _ _) _)
  ·rw [eb]
   exact Nat.dvd_add (Nat.dvd_mul_left_of_dvd (Nat.gcd_dvd_left _ _) _) (Nat.dvd_mul_left_of_dvd (Nat.gcd_dvd_right _ _) _)
 ·apply Nat.dvd_gcd
  ·have : Nat.gcd a b ∣ B0*b+r0 := by rw [← h0]; exact Nat.dvd_mul_left_of_dvd (Nat.gcd_dvd_left _ _) _
   exact (Nat.dvd_add_right (Nat.dvd_mul_left_of_dvd (Nat.gcd_dvd_right _ _) _)).1 this
  ·have : Nat.gcd a b ∣ A1*a+r1 := by rw [← h1]; exact Nat.dvd_mul_left_of_dvd (Nat.gcd_dvd_right _ _) _
   exact (Nat.dvd_add_right (Nat.dvd_mul_left_of_dvd (Nat.gcd_dvd_left _ _) _)).1 this
end Cx
/- MathN -/
namespace Cx
theorem PC {l : List Nat} {n : Nat} (h : val l < pw n) (k : Nat) (hk : n≤k) : nth l k=0 := by
 rcases Nat.eq_zero_or_pos (nth l k) with h0 | h0
 ·exact h0
 ·exfalso
  by_cases hl : k < l.length
  ·have h1 : pw k≤val l := by
    rw [Xm l (k+1) (by omega),Qf]
    have : pw k*1≤pw k*nth l k := Nat.mul_le_mul_left _ h0
    omega
   have := YH hk
   omega
  ·rw [QL (by omega)] at h0; omega
theorem YK {l : List Nat} {n : Nat} (h : val l < pw n) : val (l.take n)=val l := by
 apply Jy
 intro k
 by_cases hk : k < n
 ·rw [YS hk]
 ·rw [UM (by omega),PC h k (by omega)]
theorem Vh (l : List Nat) (m y : Nat) : val ((l.set m y).drop (m+1))=val (l.drop (m+1)) := by
 apply Jy
 intro j
 rw [JT,JT,Zb (by omega)]
structure Div (A B n k : Nat) (cu cq : List Nat) : Prop where
 limU : Lim cu
 limQ : Lim cq
 lenU : cu.length=cq.length+n
 whole : A=B*(pw k*val (cq.drop k))+val cu
 high : val (cu.drop k) < B
theorem Div.window {A B n m : Nat} {cu cq : List Nat} (h : Div A B n (m+1) cu cq) (hm : m < cq.length) (hB : B < pw n) :
  val ((cu.drop m).take (n+1))=val (cu.drop m)∧val ((cu.drop m).take (n+1)) < 4294967296*B∧val (cu.drop (m+n+1))=0∧((cu.drop m).take (n+1)).length=n+1 := by
 have hl := h.lenU
 have hd : val (cu.drop m)=nth cu m+4294967296*val (cu.drop (m+1)) := JS (by omega)
 have hh := h.high
 have hx := QF h.limU m
 have hlt : val (cu.drop m) < 4294967296*B := by omega
 have hpn : val (cu.drop m) < pw (n+1) := by rw [Qx]; omega
 have e := YK hpn
 refine ⟨e,by omega,?_,by simp; omega⟩
 apply IC
 intro k
 rw [JT]
 have := PC hpn (n+1+k) (by omega)
 rw [JT] at this
 rw [show m+n+1+k=m+(n+1+k) from by omega]
 exact this
theorem Wg (l : List Nat) (m n : Nat) : l=l.take m ++ (l.drop m).take (n+1) ++ l.drop (m+n+1) := by
 conv => lhs; rw [← List.take_append_drop m l]
 rw [List.append_assoc]
 congr 1
 conv => lhs; rw [← List.take_append_drop (n+1) (l.drop m)]
 rw [List.drop_drop,show m+(n+1)=m+n+1 from by omega]
theorem Div.next {A B n m : Nat} {cu cq u' : List Nat} (h : Div A B n (m+1) cu cq) (hm : m < cq.length) (hB : B < pw n) (hB0 : 0 < B) (hu : Lim u') (hul : u'.length=n+1)
  (hv : val u'=val ((cu.drop m).take (n+1)) % B) :
  Div A B n m (cu.take m ++ u' ++ cu.drop (m+n+1)) (cq.set m (val ((cu.drop m).take (n+1)) / B)) := by
 obtain ⟨e1,e2,e3,e4⟩ := h.window hm hB
 have hl := h.lenU
 have hq : val ((cu.drop m).take (n+1)) / B < 4294967296 := by
  rw [Nat.div_lt_iff_lt_mul hB0]; exact e2
 have hlt : (cu.take m).length=m := by simp; omega
 have hcu := Wg cu m n
 have hval : val cu=val (cu.take m)+pw m*val ((cu.drop m).take (n+1)) := by
  conv => lhs; rw [hcu]
  rw [Ju,Ju,e3,hlt]; simp
 have hw := h.whole
 have hdm := Nat.div_add_mod (val ((cu.drop m).take (n+1))) B
 rw [← hv] at hdm
 refine ⟨(h.limU.take m).append hu |>.append (h.limU.drop _),h.limQ.set hq,?_,?_,?_⟩
 ·simp; omega
 ·have ed : val ((cq.set m (val ((cu.drop m).take (n+1)) / B)).drop (m+1))=val (cq.drop (m+1)) := Vh _ _ _
  rw [JS (l := cq.set m _) (by simpa using hm),ZS hm,ed,Ju,Ju,e3,hlt,hw,hval,Qx]
  generalize val ((cu.drop m).take (n+1))=V at *
  generalize V / B=q at *
  generalize val u'=U at *
  generalize val (cu.take m)=p at *
  generalize pw m=P at *
  generalize val (cq.drop (m+1))=X at *
  clear hcu hval e1 e2 e3 e4 hq hlt hv hw ed hB h
  subst hdm
  grind
 ·have : (cu.take m ++ u' ++ cu.drop (m+n+1)).drop m=u' ++ cu.drop (m+n+1) := by
   rw [List.append_assoc,List.drop_append_of_le_length (by omega),List.drop_of_length_le (by omega)]; simp
  rw [this,Ju,e3,hv]
  simp
  exact Nat.mod_lt _ hB0
theorem Div.last {a b S n : Nat} {cu cq : List Nat} (h : Div (a*S) (b*S) n 0 cu cq) (hS : 0 < S) (hb : 0 < b) : val cq=a / b∧val cu=(a % b)*S := by
 have hw := h.whole
 have hh := h.high
 rw [List.drop_zero,pw_zero,Nat.one_mul] at hw
 rw [List.drop_zero] at hh
 have hB : 0 < b*S := Nat.mul_pos hb hS
 have h1 : a*S / (b*S)=val cq := by
  rw [hw,Nat.mul_add_div hB,Nat.div_eq_of_lt hh,Nat.add_zero]
 have h2 : a*S % (b*S)=val cu := by
  rw [hw,Nat.mul_add_mod,Nat.mod_eq_of_lt hh]
 rw [Nat.mul_div_mul_right _ _ hS] at h1
 rw [Nat.mul_mod_mul_right] at h2
 exact ⟨h1.symm,h2.symm⟩
end Cx
/- BD -/
namespace Go.Proofs.YtnhplfjlhdpgoaaGreatDoor
open Go.RowKit Cx
theorem MX (x y : Nat) (hx : x < 4294967296) (hy : y < 4294967296) : bits .or .u64 (y : Int) ((x : Int)*4294967296)=((x*4294967296+y : Nat) : Int) := by
 have := u64_or_nat y (x*4294967296) (by omega) (by omega)
 rw [Int.natCast_mul] at this
 rw [show ((4294967296 : Nat) : Int)=4294967296 from rfl] at this
 rw [this]
 congr 1
 have h := Nat.shiftLeft_add_eq_or_of_lt (i := 32) (b := y) (by omega) x
 rw [Nat.shiftLeft_eq] at h
 rw [Nat.or_comm]
 exact h.symm
theorem Du (ao : Option Addr) (ca : Nat) (w : World) :
  Calls Tryz.prog 136 #[.slice ao 0 ca] w fun e w' => e=.returned (.int .u64 0)∧w'=w := by
 go_enter Tryz.func136,Tryz.ntmps136
 go_wp2
 go_ret
 exact ⟨rfl,rfl⟩
theorem Dv {w : World} {ao : Option Addr} {ca b1 o1 x : Nat} (ha : Sl w 31 ao ca [x] b1 o1) :
  Calls Tryz.prog 136 #[.slice ao 1 ca] w fun e w' => e=.returned (.int .u64 x)∧w'=w := by
 have hia : ∀ wx,(Instr.indexAt 31 (.slice ao 1 ca) (.int .i64 0)).run Tryz.prog wx=.ok (.pointer (some ⟨b1,o1,none⟩)) wx := ha.idx 0 (by simp)
 have hca : w.cell? ⟨b1,o1,none⟩=some (.int .u32 (x : Int)) := ha.seg 0 (by simp)
 have hx : x < 4294967296 := ha.lim.head
 clear ha
 go_enter Tryz.func136,Tryz.ntmps136
 go_wp2
 go_ret
 exact ⟨rfl,rfl⟩
theorem PX {w : World} {ao : Option Addr} {ca b1 o1 x y : Nat} (ha : Sl w 31 ao ca [x,y] b1 o1) :
  Calls Tryz.prog 136 #[.slice ao 2 ca] w fun e w' => e=.returned (.int .u64 ((y*4294967296+x : Nat) : Int))∧w'=w := by
 have hia : ∀ wx,(Instr.indexAt 31 (.slice ao 2 ca) (.int .i64 0)).run Tryz.prog wx=.ok (.pointer (some ⟨b1,o1,none⟩)) wx := ha.idx 0 (by simp)
 have hca : w.cell? ⟨b1,o1,none⟩=some (.int .u32 (x : Int)) := ha.seg 0 (by simp)
 have hib : ∀ wx,(Instr.indexAt 31 (.slice ao 2 ca) (.int .i64 1)).run Tryz.prog wx=.ok (.pointer (some ⟨b1,o1+1,none⟩)) wx := ha.idx 1 (by simp)
 have hcb : w.cell? ⟨b1,o1+1,none⟩=some (.int .u32 (y : Int)) := ha.seg 1 (by simp)
 have hx : x < 4294967296 := ha.lim.head
 have hy : y < 4294967296 := ha.lim.tail.head
 have hor := MX y x hy hx
 clear ha
 go_enter Tryz.func136,Tryz.ntmps136
 go_wp2
 go_ret
 exact ⟨by go_num,rfl⟩
theorem GJ {w : World} {ao : Option Addr} {ca b1 o1 d : Nat} {la : List Nat} (ha : Sl w 31 ao ca la b1 o1) (hla : la.length≤1099511627776) (hd : 0 < d) (hd2 : d < 4294967296) :
  Calls Tryz.prog 135 #[.slice ao la.length ca,.int .u32 d] w fun e w' => Below w.heap.size w w'∧∃ v,e=.returned (.tuple #[v,.int .u32 (val la % d : Nat)])∧NatN w' v (val la / d) := by
 have hmk := Zy (t := 31) (by kernel_rfl) la.length (by omega)
 have HA : Hid (Sl w 31 ao ca la b1 o1) := ha
 clear ha
 go_enter Tryz.func135,Tryz.ntmps135
 go_wp2
 go_loopw [7,8] (fun lf i wr => ∃ (k r : Nat) (cur : List Nat),k≤la.length∧i=.int .i64 ((k : Int) - 1)∧lf=.int .u64 r∧r < d∧Row wr w.heap.size cur∧cur.length=la.length∧Lim cur∧val (la.drop k)=d*val (cur.drop k)+r∧Below w.heap.size w wr) (fun _ i _ => (intOf i+1).toNat)
 case atStart => exact ⟨la.length,0,List.replicate la.length 0,Nat.le_refl _,rfl,rfl,hd,Row.new _ _,by simp,Zi _,by rw [List.drop_length,List.drop_of_length_le (by simp)]; simp [val],Qh _ _⟩
 case round =>
  obtain ⟨k,r,cur,hk,rfl,rfl,hrd,hrow,hcl,hcm,hval,hbel⟩ := hrel
  have HV : Hid (val (la.drop k)=d*val (cur.drop k)+r) := hval
  have HL : Hid (cur.length=la.length) := hcl
  clear hval hcl
  by_cases h0 : k=0
  ·subst h0
   go_wp2_with fail
   refine (ZA hrow hcm HL.out (by omega)).mono ?_
   rintro e w' ⟨rfl,v',rfl,hv'⟩
   go_wp2
   go_ret2
   have h1 := HV.out
   rw [List.drop_zero,List.drop_zero] at h1
   have hq : val cur=val la / d := by
    rw [h1,Nat.mul_add_div hd,Nat.div_eq_of_lt hrd,Nat.add_zero]
   have hm2 : val la % d=r := by
    rw [h1,Nat.mul_add_mod,Nat.mod_eq_of_lt hrd]
   rw [hq] at hv'
   rw [hm2]
   refine ⟨hbel,v',by go_num,hv'⟩
  ·obtain ⟨m,rfl⟩ : ∃ m,k=m+1 := ⟨k - 1,by omega⟩
   rw [show (((m+1 : Nat) : Int) - 1)=(m : Int) from by omega]
   have hia := HA.out.idx m (by omega)
   have hca := (hbel.cell (p := ⟨b1,o1+m,none⟩) (HA.out.lt (by omega))).trans (HA.out.seg m (by omega))
   have hcc := hrow.cell (j := m) (by rw [HL.out]; omega)
   have hfz := hrow.frozen m
   have hx := QF HA.out.lim m
   have hor := UP r (nth la m) (by omega) hx
   go_wp2
   go_roundw
   case rel =>
    have hq := Ug r (nth la m) d hrd hx
    have e1 : (((r*4294967296+nth la m) % d : Nat) : Int)=((r : Int)*4294967296+(nth la m : Int)) % (d : Int) := UW _ _ _
    have e2 : (((r*4294967296+nth la m) / d : Nat) : Int)=((r : Int)*4294967296+(nth la m : Int)) / (d : Int) := UV _ _ _
    refine ⟨m,(r*4294967296+nth la m) % d,cur.set m ((r*4294967296+nth la m) / d),by omega,rfl,by rw [e1],Nat.mod_lt _ hd,hrow.set' _ _ (by rw [← e2]; exact CX hq),by rw [List.length_set,HL.out],hcm.set hq,?_,hbel.setCell (Nat.le_refl _) _⟩
    rw [JS (l := la) (by omega),JS (l := cur.set m _) (by rw [List.length_set,HL.out]; omega),Vh,ZS (by rw [HL.out]; omega)]
    exact Ou _ _ _ _ _ HV.out
   case measure => simp [intOf]
theorem KO {w : World} {va : Value} {a d : Nat} (ha : NatN w va a) (hla : Small a) (hd : 0 < d) (hd2 : d < 4294967296) :
  Calls Tryz.prog 135 #[va,.int .u32 d] w fun e w' => Below w.heap.size w w'∧∃ v,e=.returned (.tuple #[v,.int .u32 (a % d : Nat)])∧NatN w' v (a / d) := by
 obtain ⟨la,ha,ta,rfl⟩ := ha
 obtain ⟨ao,ca,b1,o1,rfl,sa⟩ := ha.sl32
 exact GJ sa (hla.len ta) hd hd2
theorem Jf {w : World} {va : Value} {a : Nat} (ha : NatN w va a) (h : a < 18446744073709551616) :
  Calls Tryz.prog 136 #[va] w fun e w' => e=.returned (.int .u64 a)∧w'=w := by
 obtain ⟨la,ha,ta,rfl⟩ := ha
 obtain ⟨ao,ca,b1,o1,rfl,sa⟩ := ha.sl32
 match la,ta,h,sa with
 | [],_,_,_ => exact Du ao ca w
 | [x],_,_,sa => rw [show val [x]=x from by simp [val]]; exact Dv sa
 | [x,y],_,_,sa =>
  rw [show val [x,y]=y*4294967296+x from by simp [val]; omega]
  exact PX sa
 | x :: y :: z :: t,ta,h,_ =>
  have h1 := Wi (n := 2) ta (by simpa [pw] using h)
  simp at h1
end Go.Proofs.YtnhplfjlhdpgoaaGreatDoor
/- NumF -/
namespace Go.Proofs.YtnhplfjlhdpgoaaGreatDoor
open Go.RowKit Cx
theorem JY {G L R : Nat} (h : 0 < G) : G*L+R=(G - 1)*L+(R+L) := by
 obtain ⟨k,rfl⟩ : ∃ k,G=k+1 := ⟨G - 1,by omega⟩
 rw [Nat.add_sub_cancel,Nat.add_mul,Nat.one_mul]
 omega
theorem Rl {U V G u' P : Nat} (h : u'+G*V=U+0*P) (hu : U < (G+1)*V) : U / V=G∧u'=U % V := by
 rw [Nat.zero_mul,Nat.add_zero] at h
 rw [Nat.add_mul,Nat.one_mul] at hu
 have hlt : u' < V := by omega
 have e : U=V*G+u' := by rw [Nat.mul_comm]; omega
 exact ⟨by rw [e,Nat.mul_add_div (by omega),Nat.div_eq_of_lt hlt,Nat.add_zero],by rw [e,Nat.mul_add_mod,Nat.mod_eq_of_lt hlt]⟩
theorem Gl {U V G u' P : Nat} (h : u'+G*V=U+1*P) (hu : u' < P) : U < G*V := by omega
theorem IR {U V G u' u2 c P : Nat} (h : u'+G*V=U+1*P) (h2 : u2+c*P=u'+V) (hlt : U < G*V) (hd : G*V < U+V) (hV : V < P) (hu2 : u2 < P) : U / V=G - 1∧u2=U % V := by
 obtain ⟨k,rfl⟩ : ∃ k,G=k+1 := ⟨G - 1,by
  rcases Nat.eq_zero_or_pos G with h | h
  ·subst h; omega
  ·omega⟩
 rw [Nat.add_mul,Nat.one_mul] at h hlt hd
 have hc : c=1 := by
  match c with
  | 0 => omega
  | 1 => rfl
  | c+2 =>
   have : (c+2)*P=c*P+2*P := by rw [Nat.add_mul]
   omega
 subst hc
 have e : U=V*k+u2 := by rw [Nat.mul_comm]; omega
 have hlt2 : u2 < V := by omega
 exact ⟨by rw [e,Nat.mul_add_div (by omega),Nat.div_eq_of_lt hlt2]; omega,by rw [e,Nat.mul_add_mod,Nat.mod_eq_of_lt hlt2]⟩
theorem Ti {w : World} {g cu cv gv ov m : Nat} {p u s v : List Nat} (hr : Row w g (p ++ u ++ s)) (hu : Lim u) (hv : Lim v) (hsv : Seg w gv ov v) (hne : gv ≠ g) (hn : v.length=m+2) (hun : u.length=m+3) (hm : m≤1099511627770)
  (hlead : 2147483648≤nth v (m+1)) (hq : val u < 4294967296*val v) :
  Calls Tryz.prog 168 #[.slice (some ⟨g,p.length,none⟩) (m+3) cu,.slice (some ⟨gv,ov,none⟩) (m+2) cv] w fun e w' => e=.returned (.int .u32 (val u / val v : Nat))∧Only g w w'∧∃ u' : List Nat,Row w' g (p ++ u' ++ s)∧Lim u'∧u'.length=m+3∧val u'=val u % val v := by
 have HN : Hid (v.length=m+2) := hn
 have HU : Hid (u.length=m+3) := hun
 have HS : Hid (Seg w gv ov v) := hsv
 have HR : Hid (Row w g (p ++ u ++ s)) := hr
 have HQ : Hid (val u < 4294967296*val v) := hq
 have c0 := hr.mid (j := m+2) (by omega)
 have c1 := hr.mid (j := m+1) (by omega)
 have c2 := hr.mid (j := m) (by omega)
 have d1 := hsv (m+1) (by omega)
 have d2 := hsv m (by omega)
 clear hn hun hsv hr hq
 have x0 := QF hu (m+2)
 have x1 := QF hu (m+1)
 have x2 := QF hu m
 have y1 := QF hv (m+1)
 have y2 := QF hv m
 have hor := UP (nth u (m+2)) (nth u (m+1)) x0 x1
 go_enter Tryz.func168,Tryz.ntmps168
 go_wp2
 go_quiet (fail)
 go_wp2
 go_quiet (fail)
 go_wp2
 have HLD : Hid (Lead (val u) (val v) (pw m) (nth u (m+2)*4294967296+nth u (m+1)) (nth u m) (nth v (m+1)) (nth v m)) := Lead.of hu hv (n := m+2) HU.out HN.out (by omega) (by show 0 < nth v (m+1); omega)
 have HTL : Hid (nth u (m+2)≤nth v (m+1)) := HLD.out.top_le HQ.out
 go_loopw [8,9] (fun gs rs wr => ∃ G R q : Nat,gs=.int .u64 G∧rs=.int .u64 R∧wr=w.drewN q∧nth u (m+2)*4294967296+nth u (m+1)=G*nth v (m+1)+R∧val u < (G+1)*val v∧G≤18446744073709551615∧R≤9223372036854775807) (fun gs _ _ => (intOf gs).toNat)
 case atStart =>
  refine ⟨(nth u (m+2)*4294967296+nth u (m+1)) / nth v (m+1),(nth u (m+2)*4294967296+nth u (m+1)) % nth v (m+1),_,by rw [UV],by rw [UW],World.drewN_drewN _ _ _,?_,HLD.out.start,?_,?_⟩
  ·exact (Nat.div_add_mod' _ _).symm
  ·exact Nat.le_trans (Nat.div_le_self _ _) (by omega)
  ·have := Nat.mod_lt (nth u (m+2)*4294967296+nth u (m+1)) (show 0 < nth v (m+1) by omega)
   omega
 case round =>
  obtain ⟨G,R,q,rfl,rfl,rfl,htop,hub,hG,hR⟩ := hrel
  have HT : Hid (nth u (m+2)*4294967296+nth u (m+1)=G*nth v (m+1)+R∧val u < (G+1)*val v) := ⟨htop,hub⟩
  clear htop hub hor
  by_cases hA : 4294967296≤R
  ·have hg1 : ((R : Int) / 4294967296 == 0)=false := by rw [beq_eq_false_iff_ne]; omega
   have hGl : Hid (G < 4294967296) := by
    rcases Nat.lt_or_ge G 4294967296 with h | h
    ·exact h
    ·have := Lead.below x1 HTL.out HT.out.1 h; omega
   have HD : Hid (G*val v < val u+val v) := HLD.out.done HT.out.1 hGl.out (Or.inl hA)
   go_wp2
   go_quiet (fail)
   go_wp2_with fail
   have GL : G < 4294967296 := hGl.out
   refine (We (k := G) (n := m+2) (p := p) (u := u) (s := s) (v := v) (by exact HR.out) hu hv (by exact HS.out) hne HN.out HU.out (by omega) GL).mono ?_
   rintro e w1 ⟨honly,u',br,rfl,hbr,hrow,hlu,hul,hval⟩
   have ho : Only g w w1 := (Only.drewN (Only.refl g w) _).trans honly
   have HO : Hid (Only g w w1) := ho
   have HV2 : Hid (val u'+G*val v=val u+br*pw (m+3)) := hval
   have HL2 : Hid (u'.length=m+3) := hul
   clear hval hul honly ho c0 c1 c2 d1 d2
   rcases (show br=0 ∨ br=1 by omega) with rfl | rfl
   ·rw [show decide (0=1)=false from rfl]
    go_wp2
    go_ret
    obtain ⟨h1,h2⟩ := Rl HV2.out HT.out.2
    exact ⟨by rw [h1]; exact WN rfl,HO.out,u',hrow,hlu,HL2.out,h2⟩
   ·rw [show decide (1=1)=true from rfl]
    have HP : Hid (val u < G*val v) := Gl HV2.out (by rw [← HL2.out]; exact ZB hlu)
    have hpos : 0 < G := by
     rcases Nat.eq_zero_or_pos G with h | h
     ·have := HP.out; rw [h,Nat.zero_mul] at this; omega
     ·exact h
    have HS2 : Hid (Seg w1 gv ov v) := fun j hj => (HO.out.cell (p := ⟨gv,ov+j,none⟩) hne).trans (HS.out j hj)
    go_wp2_with fail
    refine (Wd hrow hlu hv HS2.out hne HN.out HL2.out (by omega)).mono ?_
    rintro e w2 ⟨rfl,honly2,u2,c,hrow2,hlu2,hul2,hval2⟩
    have HV3 : Hid (val u2+c*pw (m+3)=val u'+val v) := hval2
    have HL3 : Hid (u2.length=m+3) := hul2
    clear hval2 hul2 hrow
    go_wp2
    go_ret
    have hvl := ZB hv
    rw [HN.out] at hvl
    have hpw := AL (show m+2 < m+3 by omega)
    have hu2l := ZB hlu2
    rw [HL3.out] at hu2l
    obtain ⟨h1,h2⟩ := IR HV2.out HV3.out HP.out HD.out (by omega) hu2l
    exact ⟨by rw [h1]; exact WN (by omega),HO.out.trans honly2,u2,hrow2,hlu2,HL3.out,h2⟩
  ·by_cases hB : 4294967296≤G
   ·have hg1 : ((R : Int) / 4294967296 == 0)=true := by rw [beq_iff_eq]; omega
    have hg2 : ((G : Int) / 4294967296 != 0)=true := by rw [bne_iff_ne]; omega
    go_wp2
    go_quiet (fail)
    go_wp2
    go_roundw
    case rel =>
     refine ⟨G - 1,R+nth v (m+1),_,by go_num,by go_num,rfl,?_,?_,by omega,by omega⟩
     ·rw [HT.out.1]; exact JY (by omega)
     ·rw [show G - 1+1=G from by omega]
      exact Nat.lt_of_lt_of_le HQ.out (Nat.mul_le_mul_right _ hB)
    case measure => simp [intOf]; omega
   ·have hg1 : ((R : Int) / 4294967296 == 0)=true := by rw [beq_iff_eq]; omega
    have hg2 : ((G : Int) / 4294967296 != 0)=false := by rw [bne_eq_false_iff_eq]; omega
    obtain ⟨m1,hm1⟩ : ∃ m1,m1=G*nth v m := ⟨_,rfl⟩
    have hb1 : m1≤18446744065119617025 := by rw [hm1]; exact Ja (by omega) y2
    have hr1 : (G : Int)*(nth v m : Int)=(m1 : Int) := by rw [hm1]; exact (Int.natCast_mul _ _).symm
    have HM : Hid (m1=G*nth v m) := hm1
    clear hm1
    have hor := UP R (nth u m) (by omega) x2
    by_cases hC : R*4294967296+nth u m < m1
    ·have hpos : 0 < G := by
      rcases Nat.eq_zero_or_pos G with h | h
      ·have := HM.out; rw [h,Nat.zero_mul] at this; omega
      ·exact h
     go_wp2
     go_quiet (fail)
     go_wp2
     go_roundw
     case rel =>
      refine ⟨G - 1,R+nth v (m+1),_,by go_num,by go_num,rfl,?_,?_,by omega,by omega⟩
      ·rw [HT.out.1]; exact JY (by omega)
      ·rw [show G - 1+1=G from by omega]
       exact HLD.out.down HT.out.1 (by rw [← HM.out]; exact hC)
     case measure => simp [intOf]; omega
    ·have HD : Hid (G*val v < val u+val v) := HLD.out.done HT.out.1 (by omega) (Or.inr (by rw [← HM.out]; omega))
     go_wp2
     go_quiet (fail)
     go_wp2_with fail
     have GL : G < 4294967296 := by omega
     refine (We (k := G) (n := m+2) (p := p) (u := u) (s := s) (v := v) (by exact HR.out) hu hv (by exact HS.out) hne HN.out HU.out (by omega) GL).mono ?_
     rintro e w1 ⟨honly,u',br,rfl,hbr,hrow,hlu,hul,hval⟩
     have ho : Only g w w1 := (Only.drewN (Only.refl g w) _).trans honly
     have HO : Hid (Only g w w1) := ho
     have HV2 : Hid (val u'+G*val v=val u+br*pw (m+3)) := hval
     have HL2 : Hid (u'.length=m+3) := hul
     clear hval hul honly ho c0 c1 c2 d1 d2
     rcases (show br=0 ∨ br=1 by omega) with rfl | rfl
     ·rw [show decide (0=1)=false from rfl]
      go_wp2
      go_ret
      obtain ⟨h1,h2⟩ := Rl HV2.out HT.out.2
      exact ⟨by rw [h1]; exact WN rfl,HO.out,u',hrow,hlu,HL2.out,h2⟩
     ·rw [show decide (1=1)=true from rfl]
      have HP : Hid (val u < G*val v) := Gl HV2.out (by rw [← HL2.out]; exact ZB hlu)
      have hpos : 0 < G := by
       rcases Nat.eq_zero_or_pos G with h | h
       ·have := HP.out; rw [h,Nat.zero_mul] at this; omega
       ·exact h
      have HS2 : Hid (Seg w1 gv ov v) := fun j hj => (HO.out.cell (p := ⟨gv,ov+j,none⟩) hne).trans (HS.out j hj)
      go_wp2_with fail
      refine (Wd hrow hlu hv HS2.out hne HN.out HL2.out (by omega)).mono ?_
      rintro e w2 ⟨rfl,honly2,u2,c,hrow2,hlu2,hul2,hval2⟩
      have HV3 : Hid (val u2+c*pw (m+3)=val u'+val v) := hval2
      have HL3 : Hid (u2.length=m+3) := hul2
      clear hval2 hul2 hrow
      go_wp2
      go_ret
      have hvl := ZB hv
      rw [HN.out] at hvl
      have hpw := AL (show m+2 < m+3 by omega)
      have hu2l := ZB hlu2
      rw [HL3.out] at hu2l
      obtain ⟨h1,h2⟩ := IR HV2.out HV3.out HP.out HD.out (by omega) hu2l
      exact ⟨by rw [h1]; exact WN (by omega),HO.out.trans honly2,u2,hrow2,hlu2,HL3.out,h2⟩
end Go.Proofs.YtnhplfjlhdpgoaaGreatDoor
/- NumG -/
namespace Go.Proofs.YtnhplfjlhdpgoaaGreatDoor
open Go.RowKit Cx
theorem Kc {w : World} {ao : Option Addr} {ca b1 o1 sh : Nat} {la : List Nat} (ha : Sl w 56 ao ca la b1 o1) (hla : la.length≤1099511627776) (hsh : sh < 32) :
  Calls Tryz.prog 167 #[.slice ao la.length ca,.int .i64 sh] w fun e w' => Below w.heap.size w w'∧e=.returned (.slice (some ⟨w.heap.size,0,none⟩) (la.length+1) (la.length+1))∧∃ l',Row w' w.heap.size l'∧Lim l'∧l'.length=la.length+1∧val l'=val la*2 ^ sh := by
 have hmk := Zy (t := 56) (by kernel_rfl) (la.length+1) (by omega)
 have ec : ((la.length+1 : Nat) : Int)=(la.length : Int)+1 := by omega
 rw [ec] at hmk
 clear ec
 have HA : Hid (Sl w 56 ao ca la b1 o1) := ha
 clear ha
 go_enter Tryz.func167,Tryz.ntmps167
 go_wp2
 go_loopw [6,15] (fun c i wr => ∃ (k cy : Nat) (cur : List Nat),k≤la.length∧i=.int .i64 k∧c=.int .u32 cy∧cy < 2 ^ sh∧Row wr w.heap.size cur∧cur.length=la.length+1∧Lim cur∧val (cur.take k)+cy*pw k=val (la.take k)*2 ^ sh∧Below w.heap.size w wr) (fun _ i _ => la.length - (intOf i).toNat)
 case atStart => exact ⟨0,0,List.replicate (la.length+1) 0,Nat.zero_le _,rfl,rfl,Nat.two_pow_pos _,Row.new _ _,by simp,Zi _,by simp [val],Qh _ _⟩
 case round =>
  obtain ⟨k,cy,cur,hk,rfl,rfl,hcy,hrow,hcl,hcm,hval,hbel⟩ := hrel
  have HV : Hid (val (cur.take k)+cy*pw k=val (la.take k)*2 ^ sh) := hval
  have HL : Hid (cur.length=la.length+1) := hcl
  clear hval hcl
  have hfz := hrow.frozen k
  by_cases hlt : k < la.length
  ·have hia := HA.out.idx k hlt
   have hca := (hbel.cell (p := ⟨b1,o1+k,none⟩) (HA.out.lt (by omega))).trans (HA.out.seg k hlt)
   have hxa := QF HA.out.lim k
   have hcc := hrow.cell (j := k) (by rw [HL.out]; omega)
   obtain ⟨m1,hm1⟩ : ∃ m1,m1=nth la k*2 ^ sh := ⟨_,rfl⟩
   have h2p := Um hsh
   have hb1 : m1≤9223372034707292160 := by
    rw [hm1]
    exact Nat.le_trans (Nat.mul_le_mul (show nth la k≤4294967295 by omega) h2p) (by omega)
   have hr1 : (nth la k : Int)*2 ^ sh=(m1 : Int) := by rw [hm1,Int.natCast_mul,Int.natCast_pow]; rfl
   have ho1 : bits .or .u32 ((m1 : Int) % 4294967296) (cy : Int)=((m1 % 4294967296+cy : Nat) : Int) := by
    have := u32_or_nat (m1 % 4294967296) cy (by omega) (by omega)
    rw [hm1] at this ⊢
    rw [Ea hsh hcy] at this
    exact this
   have HM : Hid (m1=nth la k*2 ^ sh) := hm1
   have HLT : Hid (m1 % 4294967296+cy < 4294967296) := by show m1 % 4294967296+cy < 4294967296; rw [hm1]; exact CI hsh hcy
   have HCL : Hid (m1 / 4294967296 < 2 ^ sh) := by
    show m1 / 4294967296 < 2 ^ sh
    rw [Nat.div_lt_iff_lt_mul (by omega),hm1,Nat.mul_comm (2 ^ sh)]
    exact Nat.mul_lt_mul_of_pos_right hxa (Nat.two_pow_pos _)
   clear hm1 h2p
   go_wp2
   go_roundw
   case rel =>
    refine ⟨k+1,m1 / 4294967296,cur.set k (m1 % 4294967296+cy),by omega,by go_num,by go_num,HCL.out,hrow.set' _ _ rfl,by rw [List.length_set,HL.out],hcm.set HLT.out,?_,hbel.setCell (Nat.le_refl _) _⟩
    rw [Qo (by rw [HL.out]; omega),Qf,Qx]
    exact Pu _ _ _ _ _ _ _ HV.out HM.out
   case measure => simp [intOf]; omega
  ·obtain rfl : k=la.length := by omega
   have hcc := hrow.cell (j := la.length) (by rw [HL.out]; omega)
   go_wp2
   go_ret
   have h2p := Um hsh
   refine ⟨hbel.setCell (Nat.le_refl _) _,rfl,cur.set la.length cy,hrow.set' _ _ rfl,hcm.set (by omega),by rw [List.length_set,HL.out],?_⟩
   have h2 := Qo (l := cur) (k := la.length) (y := cy) (by rw [HL.out]; omega)
   rw [List.take_of_length_le (by rw [List.length_set,HL.out]; omega)] at h2
   have h1 := HV.out
   rw [List.take_length] at h1
   rw [h2,Nat.mul_comm (pw _)]; exact h1
theorem UE {w : World} {v : Value} {l : List Nat} {sh : Nat} (h : NatV w v l) (hl : l.length≤1099511627776) (hsh : sh < 32) :
  Calls Tryz.prog 167 #[v,.int .i64 sh] w fun e w' => Below w.heap.size w w'∧e=.returned (.slice (some ⟨w.heap.size,0,none⟩) (l.length+1) (l.length+1))∧∃ l',Row w' w.heap.size l'∧Lim l'∧l'.length=l.length+1∧val l'=val l*2 ^ sh := by
 obtain ⟨ao,ca,b1,o1,rfl,sa⟩ := h.slN
 exact Kc sa hl hsh
theorem Tl {w : World} {ao : Option Addr} {ca b1 o1 sh : Nat} {la : List Nat} (ha : Sl w 56 ao ca la b1 o1) (hla : la.length≤1099511627776) (hsh : sh < 32) :
  Calls Tryz.prog 169 #[.slice ao la.length ca,.int .i64 sh] w fun e w' => Below w.heap.size w w'∧∃ v,e=.returned v∧NatN w' v (val la / 2 ^ sh) := by
 have hmk := Zy (t := 56) (by kernel_rfl) la.length (by omega)
 have HA : Hid (Sl w 56 ao ca la b1 o1) := ha
 clear ha
 go_enter Tryz.func169,Tryz.ntmps169
 go_wp2
 go_loopw [6,7] (fun c i wr => ∃ (k r cy : Nat) (cur : List Nat),k≤la.length∧i=.int .i64 ((k : Int) - 1)∧c=.int .u32 cy∧cy=r*2 ^ (32 - sh)∧cy < 4294967296∧r < 2 ^ sh∧Row wr w.heap.size cur∧cur.length=la.length∧Lim cur∧val (la.drop k)=2 ^ sh*val (cur.drop k)+r∧Below w.heap.size w wr) (fun _ i _ => (intOf i+1).toNat)
 case atStart => exact ⟨la.length,0,0,List.replicate la.length 0,Nat.le_refl _,rfl,rfl,by simp,by omega,Nat.two_pow_pos _,Row.new _ _,by simp,Zi _,by rw [List.drop_length,List.drop_of_length_le (by simp)]; simp [val],Qh _ _⟩
 case round =>
  obtain ⟨k,r,cy,cur,hk,rfl,rfl,hcy,hcy2,hr,hrow,hcl,hcm,hval,hbel⟩ := hrel
  have HC : Hid (cy=r*2 ^ (32 - sh)) := hcy
  clear hcy
  have HV : Hid (val (la.drop k)=2 ^ sh*val (cur.drop k)+r) := hval
  have HL : Hid (cur.length=la.length) := hcl
  clear hval hcl
  by_cases h0 : k=0
  ·subst h0
   go_wp2_with fail
   refine (YQ hrow hcm HL.out (by omega)).mono ?_
   rintro e w' ⟨rfl,v',rfl,hv'⟩
   go_wp2
   go_ret
   refine ⟨hbel,v',rfl,?_⟩
   have h1 := HV.out
   rw [List.drop_zero,List.drop_zero] at h1
   rw [h1,Nat.mul_add_div (Nat.two_pow_pos _),Nat.div_eq_of_lt hr,Nat.add_zero]
   exact hv'
  ·obtain ⟨m,rfl⟩ : ∃ m,k=m+1 := ⟨k - 1,by omega⟩
   rw [show (((m+1 : Nat) : Int) - 1)=(m : Int) from by omega]
   have hia := HA.out.idx m (by omega)
   have hca := (hbel.cell (p := ⟨b1,o1+m,none⟩) (HA.out.lt (by omega))).trans (HA.out.seg m (by omega))
   have hxa := QF HA.out.lim m
   have hcc := hrow.cell (j := m) (by rw [HL.out]; omega)
   have hfz := hrow.frozen m
   have hb1 : b1 < w.heap.size := HA.out.lt (by omega)
   obtain ⟨q,hq⟩ : ∃ q,q=nth la m / 2 ^ sh := ⟨_,rfl⟩
   have hq1 : (nth la m : Int) / 2 ^ sh=(q : Int) := by rw [hq,Int.natCast_ediv,Int.natCast_pow]; rfl
   have hql : q < 4294967296 := by rw [hq]; exact Nat.lt_of_le_of_lt (Nat.div_le_self _ _) hxa
   have ho1 : bits .or .u32 (q : Int) (cy : Int)=((q+cy : Nat) : Int) := by
    have := u32_or_nat q cy hql hcy2
    rw [hq,HC.out] at this ⊢
    rw [shr_or hsh hxa] at this
    exact this
   obtain ⟨h,hh⟩ : ∃ h,h=(nth la m % 2 ^ sh)*2 ^ (32 - sh) := ⟨_,rfl⟩
   have hh1 : (nth la m : Int)*4294967296 / 2 ^ sh % 4294967296=(h : Int) := by
    rw [hh,← LI hsh,Int.natCast_emod,Int.natCast_ediv,Int.natCast_mul,Int.natCast_pow]; rfl
   have HH : Hid (q=nth la m / 2 ^ sh∧h=(nth la m % 2 ^ sh)*2 ^ (32 - sh)) := ⟨hq,hh⟩
   clear hq hh
   go_wp2
   go_roundw
   case rel =>
    have hS := Nat.two_pow_pos sh
    have hrl := Nat.mod_lt (nth la m) hS
    have hsl : q+cy < 4294967296 := by rw [HH.out.1,HC.out]; exact Lv hsh hxa hr
    refine ⟨m,nth la m % 2 ^ sh,h,cur.set m (q+cy),by omega,rfl,by first | rfl | rw [hh1],HH.out.2,?_,hrl,hrow.set' _ _ rfl,by rw [List.length_set,HL.out],hcm.set hsl,?_,hbel.setCell (Nat.le_refl _) _⟩
    ·have := Lv (x := 0) hsh (by omega) hrl
     rw [Nat.zero_div,Nat.zero_add] at this
     rw [HH.out.2]; exact this
    ·rw [JS (l := la) (by omega),JS (l := cur.set m _) (by simp; rw [HL.out]; omega),ZS (by rw [HL.out]; omega)]
     have e : val ((cur.set m (q+cy)).drop (m+1))=val (cur.drop (m+1)) := by
      have := Ii cur cur.length m (q+cy)
      rwa [List.take_of_length_le (by simp),List.take_of_length_le (by simp)] at this
     rw [e,HH.out.1,HC.out]
     exact Wq _ _ _ _ _ _ HV.out (Xb hsh)
   case measure => simp [intOf]
theorem IP {w : World} {v : Value} {l : List Nat} {sh : Nat} (h : NatV w v l) (hl : l.length≤1099511627776) (hsh : sh < 32) :
  Calls Tryz.prog 169 #[v,.int .i64 sh] w fun e w' => Below w.heap.size w w'∧∃ v',e=.returned v'∧NatN w' v' (val l / 2 ^ sh) := by
 obtain ⟨ao,ca,b1,o1,rfl,sa⟩ := h.slN
 exact Tl sa hl hsh
end Go.Proofs.YtnhplfjlhdpgoaaGreatDoor
/- NumH -/
namespace Go.Proofs.YtnhplfjlhdpgoaaGreatDoor
open Go.RowKit Cx
theorem or_shl (x y : Nat) (hx : x < 4294967296) (hy : y < 4294967296) : bits .or .u64 (x : Int) ((y : Int)*4294967296)=((x+y*4294967296 : Nat) : Int) := by
 have := u64_or_nat x (y*4294967296) (by omega) (by omega)
 rw [Int.natCast_mul] at this
 rw [show ((4294967296 : Nat) : Int)=4294967296 from rfl] at this
 rw [this]
 congr 1
 have h := Nat.shiftLeft_add_eq_or_of_lt (i := 32) (b := x) (by omega) y
 rw [Nat.shiftLeft_eq] at h
 rw [Nat.or_comm,Nat.add_comm]
 exact h.symm
theorem or_zero (y : Nat) (hy : y < 4294967296) : bits .or .u64 0 (y : Int)=(y : Int) := by
 have := u64_or_nat 0 y (by omega) (by omega)
 simpa using this
theorem Mk {w : World} {ao : Option Addr} {ca b1 o1 : Nat} {la : List Nat} (ha : Sl w 56 ao ca la b1 o1) (hla : la.length≤2) :
  Calls Tryz.prog 143 #[.slice ao la.length ca] w fun e w' => e=.returned (.int .u64 (val la))∧w'=w := by
 have HA : Hid (Sl w 56 ao ca la b1 o1) := ha
 clear ha
 go_enter Tryz.func143,Tryz.ntmps143
 go_wp2
 go_loop [3,8] (fun x i => ∃ k : Nat,k≤la.length∧i=.int .i64 k∧x=.int .u64 (val (la.take k))) (fun _ i => la.length - (intOf i).toNat)
 case atStart => exact ⟨0,Nat.zero_le _,rfl,by simp [val]⟩
 case round =>
  obtain ⟨k,hk,rfl,rfl⟩ := hrel
  by_cases hlt : k < la.length
  ·have hia := HA.out.idx k hlt
   have hca := HA.out.seg k hlt
   have hxa := QF HA.out.lim k
   have hv := Qf la k
   rcases (show k=0 ∨ k=1 by omega) with rfl | rfl
   ·have hia0 : ∀ wx,(Instr.indexAt 56 (.slice ao la.length ca) (.int .i64 0)).run Tryz.prog wx=.ok (.pointer (some ⟨b1,o1,none⟩)) wx := hia
    have hca0 : w.cell? ⟨b1,o1,none⟩=some (.int .u32 (nth la 0 : Int)) := hca
    clear hia hca
    have h0 : val (la.take 0)=0 := by simp [val]
    rw [h0] at hv ⊢
    have ho := or_zero (nth la 0) hxa
    have HV : Hid (val (la.take (0+1))=0+pw 0*nth la 0) := hv
    clear hv h0
    go_wp2
    go_round
    case rel => exact ⟨1,by omega,rfl,by rw [HV.out]; simp [pw]⟩
    case measure => simp [intOf]; omega
   ·have hia0 : ∀ wx,(Instr.indexAt 56 (.slice ao la.length ca) (.int .i64 1)).run Tryz.prog wx=.ok (.pointer (some ⟨b1,o1+1,none⟩)) wx := hia
    clear hia
    have h1 := Jl HA.out.lim 1
    have hp : pw 1=4294967296 := by simp [pw]
    rw [hp] at h1
    obtain ⟨y,hy⟩ : ∃ y,y=val (la.take 1) := ⟨_,rfl⟩
    rw [← hy] at hv h1 ⊢
    have ho := or_shl y (nth la 1) h1 hxa
    have HV : Hid (val (la.take (1+1))=y+pw 1*nth la 1) := hv
    clear hv hy hp
    go_wp2
    go_round
    case rel => exact ⟨2,by omega,rfl,by rw [HV.out,show pw 1=4294967296 from by simp [pw]]; first | (rw [Nat.mul_comm 4294967296]; rfl) | go_num⟩
    case measure => simp [intOf]; omega
  ·obtain rfl : k=la.length := by omega
   rw [List.take_length]
   go_wp2
   go_ret
   exact ⟨rfl,rfl⟩
theorem Yg {w : World} {v : Value} {n : Nat} (h : NatN w v n) (hn : n < 18446744073709551616) :
  Calls Tryz.prog 143 #[v] w fun e w' => e=.returned (.int .u64 n)∧w'=w := by
 obtain ⟨l,h,t,rfl⟩ := h
 obtain ⟨ao,ca,b1,o1,rfl,sa⟩ := h.slN
 exact Mk sa (Wi t (by simpa [pw] using hn))
theorem Kf (a b : Nat) (w : World) (ha : a < 18446744073709551616) (hb : b < 18446744073709551616) :
  Calls Tryz.prog 149 #[.int .u64 a,.int .u64 b] w fun e w' => e=.returned (.int .u64 (Nat.gcd a b))∧∃ q,w'=w.drewN q := by
 go_enter Tryz.func149,Tryz.ntmps149
 go_wp2
 go_loopw [0,1] (fun x y wr => ∃ X Y q : Nat,x=.int .u64 X∧y=.int .u64 Y∧X < 18446744073709551616∧Y < 18446744073709551616∧Nat.gcd X Y=Nat.gcd a b∧wr=w.drewN q) (fun _ y _ => (intOf y).toNat)
 case atStart => exact ⟨a,b,0,rfl,rfl,ha,hb,rfl,rfl⟩
 case round =>
  obtain ⟨X,Y,q,rfl,rfl,hX,hY,hg,rfl⟩ := hrel
  have HG : Hid (Nat.gcd X Y=Nat.gcd a b) := hg
  clear hg
  by_cases h0 : Y=0
  ·subst h0
   go_wp2
   go_ret
   exact ⟨by rw [← HG.out,Nat.gcd_zero_right]; rfl,_,rfl⟩
  ·have hne : ((Y : Int) != 0)=true := by rw [bne_iff_ne]; omega
   have hpos : 0 < Y := by omega
   go_wp2
   go_quiet (fail)
   go_wp2
   go_roundw
   case rel =>
    have e : ((X % Y : Nat) : Int)=(X : Int) % (Y : Int) := Int.natCast_emod _ _
    exact ⟨Y,X % Y,_,rfl,by rw [e],hY,Nat.lt_trans (Nat.mod_lt _ hpos) hY,by rw [← HG.out,Nat.gcd_comm Y,← Nat.gcd_rec,Nat.gcd_comm],World.drewN_drewN _ _ _⟩
   case measure =>
    have e : ((X % Y : Nat) : Int)=(X : Int) % (Y : Int) := Int.natCast_emod _ _
    have := Nat.mod_lt X hpos
    simp only [intOf,← e]
    simp
    omega
end Go.Proofs.YtnhplfjlhdpgoaaGreatDoor
/- NumI -/
namespace Go.Proofs.YtnhplfjlhdpgoaaGreatDoor
open Go.RowKit Cx
theorem Mt (cap : Nat) (w : World) :
  Calls Tryz.prog 144 #[.slice none 0 cap] w fun e w' => e=.returned (.slice none 0 0)∧w'=w := by
 have heq := fun wx => Lib.run_eql_slice_nil (P := Tryz.prog) wx 56 128 none 0 cap 0 0 Tryz.underlying56
 go_enter Tryz.func144,Tryz.ntmps144
 go_wp2
 go_ret
 exact ⟨rfl,rfl⟩
theorem RN {w : World} {base n : Nat} {v : Value} {l : List Nat} (h : w.ownsRow base 128 1 v n (l.map fun x : Nat => Value.int .u32 (x : Int))) (hv : v ≠ .slice none 0 0) :
  ∃ g cap,v=.slice (some ⟨g,0,none⟩) n cap∧base≤g∧n≤cap∧cap≤maxLen∧Row w g l := by
 rcases h.2 with ⟨h1,_⟩ | ⟨g,cap,cur,rfl,hb,hh,hc,hm,hs,ht⟩
 ·exact absurd h1 hv
 ·refine ⟨g,cap,rfl,hb,hc,hm,(cur.toList.drop n).toArray,?_⟩
  rw [hh]
  have : cur=Zu l ++ (cur.toList.drop n).toArray := by
   apply Array.ext'
   rw [Array.toList_append]
   rw [Nat.mul_one] at ht
   have := List.take_append_drop n cur.toList
   rw [ht] at this
   simp [Zu,this]
  rw [← this]
theorem CG (w : World) (base : Nat) (hb : base≤w.heap.size) : (w.alloc (.cells #[] 128)).ownsRow base 128 1 (.slice (some ⟨w.heap.size,0,none⟩) 0 0) 0 [] := by
 refine ⟨rfl,Or.inr ⟨w.heap.size,0,#[],rfl,hb,?_,Nat.le_refl _,by decide,rfl,rfl⟩⟩
 show (w.heap.push _)[w.heap.size]? = _
 simp
theorem KE (ad : Addr) (cap : Nat) (l : List Nat) (w : World) (hl : l.length≤1099511627776) (hs : ∀ j,j < l.length→w.cell? (ad.add j)=some (.int .u32 (nth l j : Int))) (hlt : 0 < l.length→ad.block < w.heap.size) :
  Calls Tryz.prog 144 #[.slice (some ad) l.length cap] w fun e w' => Below w.heap.size w w'∧∃ g cap',e=.returned (.slice (some ⟨g,0,none⟩) l.length cap')∧w.heap.size≤g∧l.length≤cap'∧cap'≤maxLen∧Row w' g l := by
 have heq := fun wx => Lib.run_eql_slice_nil (P := Tryz.prog) wx 56 128 (some ad) l.length cap 0 0 Tryz.underlying56
 obtain ⟨i0,hi,hz0,hz1,hz2⟩ := info_parts Tryz.infoU32
 have hown := CG w w.heap.size (Nat.le_refl _)
 have hnews : ∀ j u,(l.map fun x : Nat => Value.int .u32 (x : Int))[j]? = some u→(w.alloc (.cells #[] 128)).cell? (ad.add j)=some u := by
  intro j u hj
  rw [List.getElem?_map,Option.map_eq_some_iff] at hj
  obtain ⟨x,hx,rfl⟩ := hj
  obtain ⟨hjl,hx⟩ := List.getElem?_eq_some_iff.1 hx
  rw [(Qh w _).cell (p := ad.add j) (by simp only [Addr.add]; split <;> exact hlt (by omega)),hs j hjl,Xx hjl,hx]
 have h1 : ∀ u ∈ (l.map fun x : Nat => Value.int .u32 (x : Int)),u.oneCell'=true := by
  intro u hu
  obtain ⟨x,_,rfl⟩ := List.mem_map.1 hu
  rfl
 have HS : Hid (∀ j u,(l.map fun x : Nat => Value.int .u32 (x : Int))[j]? = some u→(w.alloc (.cells #[] 128)).cell? (ad.add j)=some u) := hnews
 clear hnews hs
 go_enter Tryz.func144,Tryz.ntmps144
 go_wp2_with (at_builtin; refine wpList_append_own _ rfl _ _ 56 rfl w.heap.size 128 i0 (.int .u32 0) 1 4 Tryz.underlying56 hi hz0 hz1 hz2 rfl (by decide) (.slice (some ⟨w.heap.size,0,none⟩) 0 0) 0 [] rfl hown ad l.length cap (l.map fun x : Nat => Value.int .u32 (x : Int)) rfl (by simp) HS.out h1 (by unfold maxLen; omega) (by omega) (by simp) ?_; intro v' w1 hown1 hgrow hnil)
 go_ret
 simp only [Nat.zero_add,List.nil_append] at hown1
 obtain ⟨g,cap',rfl,hb,hc,hm,hrow⟩ := RN hown1 (by
  intro e
  have := hnil.1 e
  simp at this)
 refine ⟨?_,g,cap',rfl,hb,hc,hm,hrow⟩
 exact (Qh w _).grown hgrow (by simp) (fun k hk => by simp [Value.ownBlock] at hk; omega)
theorem Ro {w : World} {v : Value} {l : List Nat} (h : NatV w v l) (hl : l.length≤1099511627776) :
  Calls Tryz.prog 144 #[v] w fun e w' => Below w.heap.size w w'∧((l=[]∧e=.returned (.slice none 0 0)) ∨ ∃ g cap',e=.returned (.slice (some ⟨g,0,none⟩) l.length cap')∧w.heap.size≤g∧l.length≤cap'∧cap'≤maxLen∧Row w' g l) := by
 obtain ⟨hlim,⟨rfl,ao,cap,rfl⟩ | ⟨b,off,cap,rfl,hc,hm,hlt,hs⟩⟩ := h
 ·cases ao with
  | none =>
   refine (Mt cap w).mono ?_
   rintro e w' ⟨rfl,rfl⟩
   exact ⟨Below.refl _ _,Or.inl ⟨rfl,rfl⟩⟩
  | some ad =>
   refine (KE ad cap [] w (by simp) (fun j hj => absurd hj (by simp)) (fun h => absurd h (by simp))).mono ?_
   rintro e w' ⟨hb,h⟩
   exact ⟨hb,Or.inr h⟩
 ·refine (KE ⟨b,off,none⟩ cap l w hl (fun j hj => ?_) (fun _ => hlt)).mono ?_
  ·have := hs j hj
   simp only [Addr.add]
   split
   ·rename_i e; rw [e] at this ⊢; exact this
   ·exact this
  ·rintro e w' ⟨hb,h⟩
   exact ⟨hb,Or.inr h⟩
end Go.Proofs.YtnhplfjlhdpgoaaGreatDoor
