/- Part 10 of the walks and of the mathematics under them: VN VO QSD MathX WK WL BN BO BP BTA. -/
import Derived.Test.YtnhplfjlhdpgoaaGreatDoorA9
import Derived.LoopN
import Derived.Test.YtnhplfjlhdpgoaaGreatDoorA6
import Derived.Test.YtnhplfjlhdpgoaaGreatDoorA7
import Derived.Deep.DeepCutAuto
set_option maxHeartbeats 16000000
set_option maxRecDepth 100000
/- VN -/
namespace Cx
open Go Go.RowKit
def Oh : Nat→Exit
 | 0 => .normal
 | 1 => .ret
 | n+2 => .exit n
section
variable {S : Sx} {E : Ev S.nb} {w0 : World} {call : WY} {n : Nat}
structure Stt (S : Sx) (E : Ev S.nb) (w0 : World) (n : Nat) (s : St) (γ : Nat→Option Nat) (a : Act) (w : World) : Prop where
 wi : WI w0 γ w
 tm : ∀ t v,Vw t s.tm=some v→avOn (cOn E S.K γ w) v (a.tmps.getD t undef)
 bx : ∀ x ∈ s.h,boxOn E S.K γ w x
 lt : ∀ x ∈ s.h,x.1 < s.nx
 sz : a.tmps.size=n
 df : a.defers=[]
theorem Stt.live {s : St} {γ : Nat→Option Nat} {a : Act} {w : World} (hs : Stt S E w0 n s γ a w) : ∀ b ∈ s.h.map (·.1),KU γ b := fun b hb => by
 obtain ⟨x,hx,rfl⟩ := List.mem_map.1 hb
 exact (hs.bx x hx).live
def RunOk (S : Sx) (E : Ev S.nb) (w0 : World) (n : Nat) (f : St→Option (Nat × St)) (wp : (Exit→Act→World→Prop)→Act→World→Prop) : Prop :=
 ∀ s e s',f s=some (e,s')→s.nx≤s'.nx∧(∀ x ∈ s'.h,x.1 ∈ s.h.map (·.1) ∨ (s.nx≤x.1∧x.1 < s'.nx))∧∀ (γ : Nat→Option Nat) (a : Act) (w : World) (Q : Exit→Act→World→Prop),Stt S E w0 n s γ a w→(∀ b,s.nx≤b→b < s'.nx→γ b=none) →
  (∀ a' w' γ',Ef S.nb w0 (s.h.map (·.1)) s.nx s'.nx γ w γ' w'→Stt S E w0 n s' γ' a' w'→Q (Oh e) a' w')→wp Q a w
theorem Kj : ∀ {os : List Oper} {seen : List Nat},Cd n seen os=true→(os.filterMap (·.dst)).Nodup∧(∀ t ∈ os.filterMap (·.dst),t ∉ seen)∧∀ o ∈ os,∀ t,o.dst=some t→t < n
 | [],seen,_ => ⟨List.nodup_nil,by simp,by simp⟩
 | o :: os,seen,h => by
  unfold Cd at h
  cases hd : o.dst with
  | none =>
   rw [hd] at h
   obtain ⟨h1,h2,h3⟩ := Kj h
   rw [List.filterMap_cons_none hd]
   exact ⟨h1,h2,fun o' ho' t ht => by
    rcases List.mem_cons.1 ho' with rfl | ho'
    ·rw [hd] at ht; cases ht
    ·exact h3 o' ho' t ht⟩
  | some u =>
   rw [hd] at h
   simp only [Bool.and_eq_true,Bool.not_eq_true',memN_not] at h
   obtain ⟨h1,h2,h3⟩ := h
   obtain ⟨g1,g2,g3⟩ := Kj h3
   rw [List.filterMap_cons_some hd]
   refine ⟨List.nodup_cons.2 ⟨fun q => g2 u q List.mem_cons_self,g1⟩,fun t ht => ?_,fun o' ho' t ht => ?_⟩
   ·rcases List.mem_cons.1 ht with rfl | ht
    ·exact h2
    ·exact fun q => g2 t ht (List.mem_cons_of_mem _ q)
   ·rcases List.mem_cons.1 ho' with rfl | ho'
    ·rw [hd] at ht
     cases ht
     simpa [Nat.blt_eq] using h1
    ·exact g3 o' ho' t ht
theorem RunOk.region (hm : S.P.follows .mixedOrders=true) (N : Knows S E) (hP : Om S E w0) (hC : IY S E w0 call) (id : Nat) (os : Array Oper) (dr : Bool) :
  RunOk S E w0 n (Oj S call n (.region id os dr)) (fun Q a w => (Code.region id os dr).wp S.P Q a w) := by
 intro s e s' hr
 unfold Oj at hr
 simp only [ifO_some,Option.bind_eq_some_iff,Bool.and_eq_true] at hr
 obtain ⟨⟨h1,h2⟩,rs,h3,h4,h5⟩ := hr
 cases h5
 have hlay := TQ N hP hC h3
 obtain ⟨d1,_,d3⟩ := Kj h1
 have mk : ∀ a : Act,a.tmps.size=n→(∀ x ∈ s.h,x.1 < s.nx)→RS S E w0 s.tm os.toList rs s.h s.nx a := fun a ha hlt => ⟨hlay,h4,d1,fun o ho t ht => by rw [ha]; exact d3 o ho t ht,hlt⟩
 have le : ∀ (rs' : List OR) (os' : List Oper) (i : Nat) (prev : Rg) (h : List HB) (nx : Nat),Lay S E w0 s.tm i os' prev h nx rs'→nx≤Vq nx rs'∧∀ x ∈ WU h rs',x.1 ∈ h.map (·.1) ∨ (nx≤x.1∧x.1 < Vq nx rs') := by
  intro rs'
  induction rs' with
  | nil => exact fun os' i prev h nx _ => ⟨Nat.le_refl _,fun x hx => Or.inl (List.mem_map_of_mem hx)⟩
  | cons r rs' ih =>
   intro os' i prev h nx hl
   cases os' with
   | nil => exact hl.elim
   | cons o os' =>
    obtain ⟨⟨wt,_,g1,g2⟩,_,_,_,hl'⟩ := hl
    obtain ⟨q1,q2⟩ := ih os' (i+1) _ _ _ hl'
    have hh : nx≤r.nx∧∀ x ∈ r.h,x.1 ∈ h.map (·.1) ∨ (nx≤x.1∧x.1 < r.nx) := by
     cases wt with
     | true =>
      have := g1 rfl
      refine ⟨this.le,fun x hx => ?_⟩
      rcases this.fp x hx with q | q | q
      ·exact Or.inl (List.mem_map_of_mem q)
      ·obtain ⟨y,hy,e⟩ := this.wh _ q
       exact Or.inl (e ▸ List.mem_map_of_mem hy)
      ·exact Or.inr q
     | false =>
      rw [g2 rfl]
      exact ⟨Nat.le_refl _,fun x hx => Or.inl (List.mem_map_of_mem hx)⟩
    refine ⟨Nat.le_trans hh.1 q1,fun x hx => ?_⟩
    rcases q2 x hx with q | q
    ·obtain ⟨y,hy,e⟩ := List.mem_map.1 q
     rcases hh.2 y hy with q' | q'
     ·exact Or.inl (e ▸ q')
     ·rw [e] at q'
      exact Or.inr ⟨q'.1,Nat.lt_of_lt_of_le q'.2 q1⟩
    ·exact Or.inr ⟨Nat.le_trans hh.1 q.1,q.2⟩
 obtain ⟨le1,le2⟩ := le rs os.toList 0 [] s.h s.nx hlay
 refine ⟨le1,le2,fun γ a w Q hs hf hQ => ?_⟩
 have := Bc (id := id) (dr := dr) (Q := Q) hm h2 (mk a hs.sz hs.lt) hs.wi hs.tm hs.bx hf (fun a' w' γ' hef htm hbx hsz hdf => hQ a' w' γ' hef ⟨hef.wi,htm,hbx,fun x hx => ?_,hsz.trans hs.sz,hdf.trans hs.df⟩)
 ·simpa using this
 ·rcases le2 x hx with q | q
  ·obtain ⟨y,hy,e⟩ := List.mem_map.1 q
   have := hs.lt y hy
   dsimp only
   omega
  ·exact q.2
theorem Ef.seq {s s1 s2 : St} {γ γ1 γ2 : Nat→Option Nat} {w w1 w2 : World} (h : Ef S.nb w0 (s.h.map (·.1)) s.nx s1.nx γ w γ1 w1) (k : Ef S.nb w0 (s1.h.map (·.1)) s1.nx s2.nx γ1 w1 γ2 w2) (h1 : s.nx≤s1.nx) (h2 : s1.nx≤s2.nx) (hf : ∀ b,s.nx≤b→b < s2.nx→γ b=none)
  (hi : ∀ x ∈ s1.h,x.1 ∈ s.h.map (·.1) ∨ (s.nx≤x.1∧x.1 < s1.nx)) : Ef S.nb w0 (s.h.map (·.1)) s.nx s2.nx γ w γ2 w2 :=
 h.trans k h1 h2 hf fun b hb => by
  obtain ⟨x,hx,e⟩ := List.mem_map.1 hb
  rw [← e]
  exact hi x hx
theorem En {s s1 s2 : St} (h1 : s.nx≤s1.nx) (h2 : s1.nx≤s2.nx) (hi : ∀ x ∈ s1.h,x.1 ∈ s.h.map (·.1) ∨ (s.nx≤x.1∧x.1 < s1.nx)) (hj : ∀ x ∈ s2.h,x.1 ∈ s1.h.map (·.1) ∨ (s1.nx≤x.1∧x.1 < s2.nx)) : ∀ x ∈ s2.h,x.1 ∈ s.h.map (·.1) ∨ (s.nx≤x.1∧x.1 < s2.nx) := fun x hx => by
 rcases hj x hx with q | q
 ·obtain ⟨y,hy,e⟩ := List.mem_map.1 q
  rcases hi y hy with q' | q'
  ·exact Or.inl (e ▸ q')
  ·rw [e] at q'
   exact Or.inr ⟨q'.1,by omega⟩
 ·exact Or.inr ⟨by omega,q.2⟩
theorem Pf {e : Nat} (h : Nat.beq e 0=false) : Oh e ≠ .normal := by
 match e,h with
 | 0,h => cases h
 | 1,_ => simp [Oh]
 | n+2,_ => simp [Oh]
theorem TR {K : Act→World→Prop} {Q : Exit→Act→World→Prop} {e : Exit} {a : Act} {w : World} (he : e ≠ .normal) (h : Q e a w) : Exit.then K Q e a w := by
 cases e <;> first | exact h | exact absurd rfl he
theorem Gu {id e : Nat} {Q : Exit→Act→World→Prop} {a : Act} {w : World} (he : Nat.beq e (id+2)=false) (h : Q (Oh e) a w) : Exit.inBlock id Q (Oh e) a w := by
 match e,he with
 | 0,_ => exact h
 | 1,_ => exact h
 | k+2,he =>
  show (if k=id then Q .normal a w else Q (.exit k) a w)
  rw [if_neg (fun q => by rw [q,Nat.beq_refl] at he; cases he)]
  exact h
theorem Up (hm : S.P.follows .mixedOrders=true) (N : Knows S E) (hP : Om S E w0) (hC : IY S E w0 call) : ∀ (c : Code),RunOk S E w0 n (Oj S call n c) (fun Q a w => c.wp S.P Q a w)
 | .region id os dr => RunOk.region hm N hP hC id os dr
 | .skip => fun s e s' hr => by
  cases hr
  exact ⟨Nat.le_refl _,fun x hx => Or.inl (List.mem_map_of_mem hx),fun γ a w Q hs _ hQ => wp_skip (hQ a w γ (Ef.refl hs.wi _ _ hs.live) hs)⟩
 | .exit id => fun s e s' hr => by
  cases hr
  exact ⟨Nat.le_refl _,fun x hx => Or.inl (List.mem_map_of_mem hx),fun γ a w Q hs _ hQ => wp_exit (hQ a w γ (Ef.refl hs.wi _ _ hs.live) hs)⟩
 | .ret => fun s e s' hr => by
  cases hr
  exact ⟨Nat.le_refl _,fun x hx => Or.inl (List.mem_map_of_mem hx),fun γ a w Q hs _ hQ => wp_ret (hQ a w γ (Ef.refl hs.wi _ _ hs.live) hs)⟩
 | .seq c1 c2 => fun s e s' hr => by
  unfold Oj at hr
  rw [Option.bind_eq_some_iff] at hr
  obtain ⟨⟨e1,s1⟩,h1,hr⟩ := hr
  obtain ⟨l1,i1,r1⟩ := Up hm N hP hC c1 s e1 s1 h1
  dsimp only at hr
  cases hz : Nat.beq e1 0 with
  | true =>
   rw [hz] at hr
   obtain ⟨l2,i2,r2⟩ := Up hm N hP hC c2 s1 e s' hr
   rw [Nat.beq_eq] at hz
   subst hz
   refine ⟨Nat.le_trans l1 l2,En l1 l2 i1 i2,fun γ a w Q hs hf hQ => wp_seq (r1 γ a w _ hs (fun b q1 q2 => hf b q1 (by omega)) fun a1 w1 γ1 he1 hs1 => ?_)⟩
   refine r2 γ1 a1 w1 Q hs1 (fun b q1 q2 => ?_) fun a2 w2 γ2 he2 hs2 => hQ a2 w2 γ2 (he1.seq he2 l1 l2 hf i1) hs2
   rw [he1.same b (by omega)]
   exact hf b (by omega) q2
  | false =>
   rw [hz] at hr
   cases hr
   exact ⟨l1,i1,fun γ a w Q hs hf hQ => wp_seq (r1 γ a w _ hs hf fun a1 w1 γ1 he1 hs1 => TR (Pf hz) (hQ a1 w1 γ1 he1 hs1))⟩
 | .cond x c1 c2 => fun s e s' hr => by
  unfold Oj at hr
  split at hr
  ·rename_i t
   simp only [Option.bind_eq_some_iff] at hr
   obtain ⟨v,h1,b,h2,hr⟩ := hr
   cases b with
   | true =>
    obtain ⟨l,i,r⟩ := Up hm N hP hC c1 s e s' hr
    exact ⟨l,i,fun γ a w Q hs hf hQ => wp_cond_true (OE h2 (hs.tm t v h1)) (r γ a w Q hs hf hQ)⟩
   | false =>
    obtain ⟨l,i,r⟩ := Up hm N hP hC c2 s e s' hr
    exact ⟨l,i,fun γ a w Q hs hf hQ => wp_cond_false (OE h2 (hs.tm t v h1)) (r γ a w Q hs hf hQ)⟩
  ·cases hr
 | .block id c => fun s e s' hr => by
  unfold Oj at hr
  rw [Option.map_eq_some_iff] at hr
  obtain ⟨⟨e1,s1⟩,h1,hr⟩ := hr
  obtain ⟨l,i,r⟩ := Up hm N hP hC c s e1 s1 h1
  dsimp only at hr
  cases hz : Nat.beq e1 (id+2) with
  | true =>
   rw [hz] at hr
   cases hr
   rw [Nat.beq_eq] at hz
   subst hz
   refine ⟨l,i,fun γ a w Q hs hf hQ => wp_block (r γ a w _ hs hf fun a1 w1 γ1 he1 hs1 => ?_)⟩
   show (if id=id then Q .normal a1 w1 else Q (.exit id) a1 w1)
   rw [if_pos rfl]
   exact hQ a1 w1 γ1 he1 hs1
  | false =>
   rw [hz] at hr
   cases hr
   exact ⟨l,i,fun γ a w Q hs hf hQ => wp_block (r γ a w _ hs hf fun a1 w1 γ1 he1 hs1 => Gu hz (hQ a1 w1 γ1 he1 hs1))⟩
 | .loop c => fun s e s' hr => by
  unfold Oj at hr
  have hc := Up hm N hP hC c
  have key : ∀ (k : Nat) (s : St) (e : Nat) (s' : St),Eh (Oj S call n c) k s=some (e,s')→s.nx≤s'.nx∧(∀ x ∈ s'.h,x.1 ∈ s.h.map (·.1) ∨ (s.nx≤x.1∧x.1 < s'.nx))∧∀ (γ : Nat→Option Nat) (a : Act) (w : World) (Q : Exit→Act→World→Prop),Stt S E w0 n s γ a w→(∀ b,s.nx≤b→b < s'.nx→γ b=none) →
    (∀ a' w' γ',Ef S.nb w0 (s.h.map (·.1)) s.nx s'.nx γ w γ' w'→Stt S E w0 n s' γ' a' w'→Q (Oh e) a' w')→Code.rounds S.P c Q k a w := by
   intro k
   induction k with
   | zero => intro s e s' hr; cases hr
   | succ k ih =>
    intro s e s' hr
    unfold Eh at hr
    rw [Option.bind_eq_some_iff] at hr
    obtain ⟨⟨e1,s1⟩,h1,hr⟩ := hr
    obtain ⟨l1,i1,r1⟩ := hc s e1 s1 h1
    dsimp only at hr
    cases hz : Nat.beq e1 0 with
    | true =>
     rw [hz] at hr
     obtain ⟨l2,i2,r2⟩ := ih s1 e s' hr
     rw [Nat.beq_eq] at hz
     subst hz
     refine ⟨Nat.le_trans l1 l2,En l1 l2 i1 i2,fun γ a w Q hs hf hQ => ?_⟩
     show c.wp S.P (Exit.then (fun a w => Code.rounds S.P c Q k a w) Q) a w
     refine r1 γ a w _ hs (fun b q1 q2 => hf b q1 (by omega)) fun a1 w1 γ1 he1 hs1 => ?_
     refine r2 γ1 a1 w1 Q hs1 (fun b q1 q2 => ?_) fun a2 w2 γ2 he2 hs2 => hQ a2 w2 γ2 (he1.seq he2 l1 l2 hf i1) hs2
     rw [he1.same b (by omega)]
     exact hf b (by omega) q2
    | false =>
     rw [hz] at hr
     cases hr
     refine ⟨l1,i1,fun γ a w Q hs hf hQ => ?_⟩
     show c.wp S.P (Exit.then (fun a w => Code.rounds S.P c Q k a w) Q) a w
     exact r1 γ a w _ hs hf fun a1 w1 γ1 he1 hs1 => TR (Pf hz) (hQ a1 w1 γ1 he1 hs1)
  obtain ⟨l,i,r⟩ := key 100 s e s' hr
  exact ⟨l,i,fun γ a w Q hs hf hQ => wp_loop_rounds 100 (r γ a w Q hs hf hQ)⟩
 | .rangeFunc _ _ _ _ => fun _ _ _ hr => by cases hr
 | .scope _ => fun _ _ _ hr => by cases hr
 | .label _ => fun _ _ _ hr => by cases hr
 | .goto _ => fun _ _ _ hr => by cases hr
 | .refuse _ => fun _ _ _ hr => by cases hr
end
end Cx
/- VO -/
namespace Cx
open Go Go.RowKit
section
variable {S : Sx} {E : Ev S.nb} {w0 : World} {n : Nat}
def NI (tmps : Array Value) : ResultVar→Sem Value
 | .tmp t => pure (tmps.getD t undef)
 | .cell a t => do loadVar t (← asAddr (tmps.getD a undef))
theorem res_run {s : St} {γ : Nat→Option Nat} {a : Act} {w : World} (hs : Stt S E w0 n s γ a w) {v : ResultVar} {x : A1} (hx : EU S.P s v=some x) : ∃ u,(NI a.tmps v).run S.P w=.ok u w∧a1On (cOn E S.K γ w) x u := by
 have one : ∀ {y : AV} {u : Value},one1 y=some x→avOn (cOn E S.K γ w) y u→a1On (cOn E S.K γ w) x u := fun {y u} h1 h2 => by
  unfold one1 at h1
  split at h1
  ·cases h1
   exact h2.1
  ·cases h1
 cases v with
 | tmp t =>
  unfold EU at hx
  rw [Option.bind_eq_some_iff] at hx
  obtain ⟨y,h1,h2⟩ := hx
  exact ⟨_,rfl,one h2 (hs.tm t y h1)⟩
 | cell t ty =>
  unfold EU at hx
  simp only [Option.bind_eq_some_iff] at hx
  obtain ⟨y,h1,p,h2,cs,h3,z,h4,h5⟩ := hx
  obtain ⟨G,hG,e⟩ := OD h2 (hs.tm t y h1)
  obtain ⟨G',vs,t',g1,_,⟨us,g2,_⟩,g3,g4⟩ := hs.bx (p.1,cs) (Zt h3)
  rw [hG] at g1
  cases g1
  obtain ⟨u,hu,hv⟩ := RM g2 h4 g4
  refine ⟨u,?_,one h5 hv⟩
  show (asAddr (a.tmps.getD t undef) >>= fun q => loadVar ty q : Sem Value).run S.P w=_
  rw [e]
  exact hu
theorem FU {s : St} {γ : Nat→Option Nat} {a : Act} {w : World} (hs : Stt S E w0 n s γ a w) : ∀ {l : List ResultVar} {xs : List A1},ZX (EU S.P s) l=some xs→∃ us : List Value,(l.mapM (NI a.tmps)).run S.P w=.ok us w∧A2 (a1On (cOn E S.K γ w)) xs us
 | [],_,h => by
  cases h
  exact ⟨[],rfl,trivial⟩
 | v :: l,xs,h => by
  unfold ZX at h
  simp only [Option.bind_eq_some_iff,Option.map_eq_some_iff] at h
  obtain ⟨x,h1,ys,h2,rfl⟩ := h
  obtain ⟨u,hu,hx⟩ := res_run hs h1
  obtain ⟨us,hus,hxs⟩ := FU hs h2
  refine ⟨u :: us,?_,hx,hxs⟩
  rw [List.mapM_cons,Sem.run_bind,hu]
  show ((l.mapM (NI a.tmps)) >>= fun ys => pure (u :: ys) : Sem (List Value)).run S.P w=_
  rw [Sem.run_bind,hus]
  rfl
theorem tup_on {R : AC→Value→Prop} {xs : List A1} {us : List Value} (h : A2 (a1On R) xs us) : avOn R (tupB xs) (if hh : us.toArray.size=1 then us.toArray[0] else .tuple us.toArray) := by
 match xs,us,h with
 | [],[],h => exact ⟨[],rfl,h⟩
 | [x],[u],h => exact h
 | x :: y :: xs,u :: v :: us,h => exact ⟨u :: v :: us,by simp,h⟩
theorem FT {fn : Func} {s : St} {γ : Nat→Option Nat} {a : Act} {w : World} (hs : Stt S E w0 n s γ a w) {xs : List A1} (hx : ZX (EU S.P s) fn.results.toList=some xs) : ∃ v,(results fn a.tmps).run S.P w=.ok v w∧avOn (cOn E S.K γ w) (tupB xs) v := by
 obtain ⟨us,hu,hA⟩ := FU hs hx
 refine ⟨_,?_,tup_on hA⟩
 have e : results fn a.tmps=(fn.results.mapM (NI a.tmps) >>= fun vs => pure (if h : vs.size=1 then vs[0] else .tuple vs)) := by
  unfold results
  congr 1
 have e2 : fn.results.mapM (NI a.tmps)=List.toArray <$> (fn.results.toList.mapM (NI a.tmps)) := by
  rw [← List.mapM_toArray]
 rw [e,Sem.run_bind,e2,Sem.run_map,hu]
 rfl
theorem GP : ∀ {args : List AV} {i t : Nat} {v : AV},Vw t (My i args)=some v→i≤t∧args[t - i]? = some v
 | [],_,_,_,h => by cases h
 | a :: args,i,t,v,h => by
  unfold My Vw at h
  cases e : Nat.beq t i with
  | true =>
   rw [e] at h
   cases h
   rw [Nat.beq_eq] at e
   subst e
   exact ⟨Nat.le_refl _,by simp⟩
  | false =>
   rw [e] at h
   obtain ⟨h1,h2⟩ := GP (args := args) h
   refine ⟨by omega,?_⟩
   rw [show t - i=t - (i+1)+1 by omega]
   simpa using h2
theorem FP (hm : S.P.follows .mixedOrders=true) (N : Knows S E) (hP : Om S E w0) : ∀ k,IY S E w0 (GR S k)
 | 0 => fun _ _ _ _ _ h => by cases h
 | k+1 => fun f args h nx p hp γ w vs hi hA hb hlt hf => by
  unfold GR at hp
  simp only [Option.bind_eq_some_iff,ifO_some,Option.map_eq_some_iff,Nat.ble_eq] at hp
  obtain ⟨fn,h1,c,h2,h3,⟨e,s'⟩,h4,h5,xs,h6,rfl⟩ := hp
  dsimp only at h5 h6
  rcases (show e=0 ∨ e=1 by omega) with rfl | rfl
  all_goals
   obtain ⟨_,_,r⟩ := Up hm N hP (FP hm N hP k) c _ _ _ h4
   refine calls_of_wp h1 h2 (r γ _ w _ ⟨hi,fun t v q => ?_,hb,hlt,?_,rfl⟩ hf fun a' w' γ' hef hs => ?_)
   ·obtain ⟨_,q2⟩ := GP q
    rw [Nat.sub_zero] at q2
    obtain ⟨u,hu,hv⟩ := hA.get q2
    have hlt : t < vs.length := (List.getElem?_eq_some_iff.1 hu).1
    have : (vs.toArray ++ Array.replicate (fn.ntmps - vs.toArray.size) undef).getD t undef=u := by
     rw [Array.getD_eq_getD_getElem?,Array.getElem?_append_left (by simpa using hlt)]
     simp [hu]
    show avOn _ v ((vs.toArray ++ Array.replicate (fn.ntmps - vs.toArray.size) undef).getD t undef)
    rw [this]
    exact hv
   ·have := hA.len
    simp
    omega
   ·obtain ⟨v,hv,hx⟩ := FT hs h6
    exact ⟨hs.df,v,hv,v,γ',rfl,hef,hx,hs.bx⟩
end
end Cx
/- QSD -/
namespace Go.Proofs.YtnhplfjlhdpgoaaGreatDoor
open Go.RowKit Cx
theorem QS.div {k l : Nat} {a b : Rat} (h1 : QS k a) (h2 : QS l b) : QS (k+l) (a / b) := by
 rw [Rat.div_def]
 by_cases h0 : b.num=0
 ·rw [Rat.num_eq_zero.1 h0,Rat.inv_zero,Rat.mul_zero]
  exact QS.zero.mono (by have := h1.pos; omega)
 ·exact h1.mul (h2.inv h0)
end Go.Proofs.YtnhplfjlhdpgoaaGreatDoor
/- MathX -/
namespace Cx
open Go
def gN (qs : List Rat) : Nat := qs.foldl (fun g q => Nat.gcd g q.num.natAbs) 0
def lD (qs : List Rat) : Nat := qs.foldl (fun m q => m*(q.den / Nat.gcd m q.den)) 1
def fb : List Rat→Bool
 | [] => false
 | q :: r => if q.num=0 then fb r else decide (q.num < 0)
def pl (G M : Nat) (flip : Bool) (q : Rat) : Rat := ((sg (decide (q.num < 0) != flip) (q.num.natAbs / G*(M / q.den)) : Int) : Rat)
def plain (qs : List Rat) : List Rat := qs.map (pl (gN qs) (lD qs) (fb qs))
theorem lD_take {qs : List Rat} {k : Nat} (h : k < qs.length) : lD (qs.take (k+1))=lD (qs.take k)*((qs[k]).den / Nat.gcd (lD (qs.take k)) (qs[k]).den) := by
 unfold lD; rw [List.take_succ_eq_append_getElem h,List.foldl_append]; rfl
theorem Nf (l : List Rat) (g : Nat) : (l.foldl (fun g q => Nat.gcd g q.num.natAbs) g) ∣ g∧∀ q ∈ l,(l.foldl (fun g q => Nat.gcd g q.num.natAbs) g) ∣ q.num.natAbs := by
 induction l generalizing g with
 | nil => exact ⟨Nat.dvd_refl _,fun q hq => by simp at hq⟩
 | cons a l ih =>
  obtain ⟨h1,h2⟩ := ih (Nat.gcd g a.num.natAbs)
  refine ⟨Nat.dvd_trans h1 (Nat.gcd_dvd_left _ _),fun q hq => ?_⟩
  rcases List.mem_cons.1 hq with rfl | hq
  ·exact Nat.dvd_trans h1 (Nat.gcd_dvd_right _ _)
  ·exact h2 q hq
theorem Hm {qs : List Rat} {q : Rat} (h : q ∈ qs) : gN qs ∣ q.num.natAbs := (Nf qs 0).2 q h
theorem Nh (l : List Rat) (m : Nat) : m ∣ (l.foldl (fun m q => m*(q.den / Nat.gcd m q.den)) m)∧∀ q ∈ l,q.den ∣ (l.foldl (fun m q => m*(q.den / Nat.gcd m q.den)) m) := by
 induction l generalizing m with
 | nil => exact ⟨Nat.dvd_refl _,fun q hq => by simp at hq⟩
 | cons a l ih =>
  obtain ⟨h1,h2⟩ := ih (m*(a.den / Nat.gcd m a.den))
  refine ⟨Nat.dvd_trans (Nat.dvd_mul_right _ _) h1,fun q hq => ?_⟩
  rcases List.mem_cons.1 hq with rfl | hq
  ·refine Nat.dvd_trans ?_ h1
   have : Nat.gcd m q.den ∣ m := Nat.gcd_dvd_left _ _
   obtain ⟨c,hc⟩ := this
   obtain ⟨d,hd⟩ := Nat.gcd_dvd_right m q.den
   have hg : 0 < Nat.gcd m q.den := Nat.gcd_pos_of_pos_right _ (Nat.pos_of_ne_zero q.den_nz)
   generalize Nat.gcd m q.den=g at *
   rw [hd,Nat.mul_div_cancel_left _ hg,hc]
   exact ⟨c,by grind⟩
  ·exact h2 q hq
theorem lD_dvd {qs : List Rat} {q : Rat} (h : q ∈ qs) : q.den ∣ lD qs := (Nh qs 1).2 q h
theorem gN_pos {qs : List Rat} {q : Rat} (h : q ∈ qs) (h0 : q.num ≠ 0) : 0 < gN qs := by
 rcases Nat.eq_zero_or_pos (gN qs) with e | e
 ·have := Hm h
  rw [e] at this
  have := Nat.eq_zero_of_zero_dvd this
  omega
 ·exact e
theorem lD_le {K : Nat} {qs : List Rat} (h : ∀ q ∈ qs,Go.Proofs.YtnhplfjlhdpgoaaGreatDoor.QS K q) : ∀ k,lD (qs.take k)≤2 ^ (k*K)
 | 0 => by simp [lD]
 | k+1 => by
  have ih := lD_le h k
  by_cases hk : k < qs.length
  ·rw [lD_take hk,Nat.succ_mul,Nat.pow_add]
   refine Nat.mul_le_mul ih (Nat.le_trans (Nat.div_le_self _ _) (Nat.le_of_lt (h _ (List.getElem_mem hk)).den))
  ·rw [List.take_of_length_le (by omega)]
   rw [List.take_of_length_le (by omega)] at ih
   exact Nat.le_trans ih (Nat.pow_le_pow_right (by decide) (by rw [Nat.succ_mul]; omega))
theorem pl_zero (G M : Nat) (flip : Bool) {q : Rat} (h : q.num=0) : pl G M flip q=0 := by
 unfold pl
 rw [h]
 simp [sg]
def fac (qs : List Rat) : Rat := mkRat (sg (fb qs) (lD qs)) (gN qs)
theorem Aj {qs : List Rat} {q : Rat} (h : q ∈ qs) : pl (gN qs) (lD qs) (fb qs) q=q*fac qs := by
 by_cases h0 : q.num=0
 ·rw [pl_zero _ _ _ h0,Rat.num_eq_zero.1 h0,Rat.zero_mul]
 ·have hg := gN_pos h h0
  obtain ⟨a,ha⟩ := Hm h
  obtain ⟨b,hb⟩ := lD_dvd h
  have hd : 0 < q.den := Nat.pos_of_ne_zero q.den_nz
  unfold pl fac
  generalize gN qs=G at *
  generalize lD qs=M at *
  rw [ha,Nat.mul_div_cancel_left _ hg,hb,Nat.mul_div_cancel_left _ hd]
  have eq : q=mkRat (sg (decide (q.num < 0)) (G*a)) q.den := by rw [← ha,Oy,Rat.mkRat_self]
  have e1 : ((sg (decide (q.num < 0) != fb qs) (a*b) : Int) : Rat)=mkRat (sg (decide (q.num < 0) != fb qs) (a*b)) 1 := (Rat.mkRat_one _).symm
  rw [e1]
  conv => rhs; lhs; rw [eq]
  rw [Rat.mkRat_mul_mkRat,Rat.mkRat_eq_iff (by decide) (Nat.mul_ne_zero q.den_nz (by omega))]
  generalize decide (q.num < 0)=s
  generalize fb qs=t
  have c1 : ((q.den*G : Nat) : Int)=(q.den : Int)*G := Int.natCast_mul _ _
  rw [c1]
  have m1 : ((a*b : Nat) : Int)=(a : Int)*b := Int.natCast_mul _ _
  have m2 : ((G*a : Nat) : Int)=(G : Int)*a := Int.natCast_mul _ _
  have m3 : ((q.den*b : Nat) : Int)=(q.den : Int)*b := Int.natCast_mul _ _
  generalize (q.den : Int)=D at *
  cases s <;> cases t <;> simp only [sg,bne_self_eq_false,Bool.false_eq_true,if_false,if_true,m1,m2,m3,Bool.true_bne,Bool.false_bne,Bool.not_false] <;> grind
end Cx
/- WK -/
namespace Go.Proofs.YtnhplfjlhdpgoaaGreatDoor
open Go.RowKit Cx
attribute [local go_sem ↓] Go.wp_at_zero Go.wp_at_succ
end Go.Proofs.YtnhplfjlhdpgoaaGreatDoor
/- WL -/
namespace Go.Proofs.YtnhplfjlhdpgoaaGreatDoor
open Go.RowKit Cx
attribute [local go_sem ↓] Go.wp_at_zero Go.wp_at_succ
end Go.Proofs.YtnhplfjlhdpgoaaGreatDoor
/- BN -/
namespace Go.Proofs.YtnhplfjlhdpgoaaGreatDoor
open Go.RowKit Cx
attribute [local go_sem ↓] Go.wp_at_zero Go.wp_at_succ
theorem Vz {w : World} {ao : Option Addr} {c n : Nat} (h : NatN w (.slice ao 1 c) n) : ∃ b o,(∀ wx,(Instr.indexAt 31 (.slice ao 1 c) (.int .i64 0)).run Tryz.prog wx=.ok (.pointer (some ⟨b,o,none⟩)) wx)∧w.cell? ⟨b,o,none⟩=some (.int .u32 (n : Int))∧b < w.heap.size∧n < 4294967296 := by
 obtain ⟨l,hl,t,rfl⟩ := h
 obtain ⟨ao',c',b,o,e,sl⟩ := hl.sl32
 simp only [Value.slice.injEq] at e
 obtain ⟨rfl,hlen,rfl⟩ := e
 obtain ⟨x,rfl⟩ := List.length_eq_one_iff.1 hlen.symm
 have e1 : val [x]=x := by simp [val]
 rw [e1]
 exact ⟨b,o,sl.idx 0 (by simp),sl.seg 0 (by simp),sl.lt (by simp),sl.lim.head⟩
theorem Ov {w : World} {ao : Option Addr} {l c n : Nat} (h : NatN w (.slice ao l c) n) (hl : l ≠ 1) : n ≠ 1 := by
 obtain ⟨ls,hv,t,rfl⟩ := h
 obtain ⟨ao',c',b,o,e,sl⟩ := hv.sl32
 cases e
 intro h
 by_cases h0 : ls.length=0
 ·rw [List.length_eq_zero_iff.1 h0,Us] at h
  omega
 ·have h1 := Wi t (show val ls < pw 1 by rw [h]; decide)
  omega
theorem Ar {z : Int} {b : Nat} (hb : 0 < b) : decide ((mkRat z b).num < 0)=decide (z < 0)∧(mkRat z b).num.natAbs=z.natAbs / Nat.gcd z.natAbs b∧(mkRat z b).den=b / Nat.gcd z.natAbs b := by
 rw [Rat.mkRat_def,dif_neg (by omega),Rat.normalize_eq]
 have hG : 0 < Nat.gcd z.natAbs b := Nat.gcd_pos_of_pos_right _ hb
 obtain ⟨k,hk⟩ : (Nat.gcd z.natAbs b : Int) ∣ z := Int.ofNat_dvd_left.2 (Nat.gcd_dvd_left _ _)
 show decide (z / (Nat.gcd z.natAbs b : Int) < 0)=_∧(z / (Nat.gcd z.natAbs b : Int)).natAbs=_∧b / Nat.gcd z.natAbs b=b / Nat.gcd z.natAbs b
 generalize Nat.gcd z.natAbs b=G at *
 have e1 : z / (G : Int)=k := by rw [hk,Int.mul_ediv_cancel_left _ (by omega)]
 have e2 : z.natAbs / G=k.natAbs := by rw [hk,Int.natAbs_mul,Int.natAbs_natCast,Nat.mul_div_cancel_left _ hG]
 rw [e1,e2]
 refine ⟨?_,rfl,rfl⟩
 have hGi : (0 : Int) < G := by omega
 by_cases h : k < 0
 ·have := Int.mul_neg_of_pos_of_neg hGi h
  rw [← hk] at this
  simp [h,this]
 ·have := Int.mul_nonneg (Int.le_of_lt hGi) (Int.not_lt.1 h)
  rw [← hk] at this
  simp [h,Int.not_lt.2 this]
theorem RV.mk {w : World} {g : Nat} {z : Int} {b : Nat} {a1 a2 : Option Addr} {l1 c1 l2 c2 : Nat} (hb : 0 < b) (hk : Blk w g #[.bool (decide (z < 0)),.slice a1 l1 c1,.bool false,.slice a2 l2 c2] 35) (h1 : NatN w (.slice a1 l1 c1) (z.natAbs / Nat.gcd z.natAbs b)) (h2 : NatN w (.slice a2 l2 c2) (b / Nat.gcd z.natAbs b)) : RV w g (mkRat z b) := by
 obtain ⟨e1,e2,e3⟩ := Ar (z := z) hb
 exact ⟨a1,l1,c1,a2,l2,c2,by rw [e1]; exact hk,by rw [e2]; exact h1,Or.inl (by rw [e3]; exact h2)⟩
theorem NT {w : World} {g : Nat} {a1 a2 : Option Addr} {l1 c1 l2 c2 b : Nat} {z : Int} (hk : Blk w g #[.bool (decide (z < 0)),.slice a1 l1 c1,.bool false,.slice a2 l2 c2] 35) (ha : NatN w (.slice a1 l1 c1) z.natAbs) (hb : NatN w (.slice a2 l2 c2) b) (hb0 : 0 < b) (sa : Small z.natAbs) (sb : Small b) :
  Calls Tryz.prog 52 #[.pointer (some ⟨g,0,none⟩)] w fun e w' => e=.returned (.pointer (some ⟨g,0,none⟩))∧Save g w w'∧RV w' g (mkRat z b) := by
 obtain ⟨_,_,_,ea,hal,habig,haz⟩ := Zf ha
 obtain ⟨_,_,_,eb,hbl,hbbig,hbz⟩ := Zf hb
 cases ea
 cases eb
 have hl2 : l2 ≠ 0 := fun h => by have := hbz.1 h; omega
 have hne : ((l2 : Int) == 0)=false := beq_eq_false_iff_ne.mpr (by omega)
 have HK := Qb hk
 have HA := Qb ha
 have HB := Qb hb
 have SA := Qb sa
 have SB := Qb sb
 have HZ := Qb haz
 obtain ⟨x0,x1,x2,x3⟩ : w.cell? ⟨g,0,none⟩=_∧w.cell? ⟨g,1,none⟩=_∧w.cell? ⟨g,2,none⟩=_∧w.cell? ⟨g,3,none⟩=_ := ⟨hk.cell 0,hk.cell 1,hk.cell 2,hk.cell 3⟩
 clear hk ha hb sa sb habig hbbig haz hbz
 by_cases h1 : l1=0
 ·have hz : z=0 := by have := HZ.out.1 h1; omega
  subst h1
  subst hz
  have hat : At2 w g 2 := ⟨⟨_,HK.out.cell 2⟩,⟨_,HK.out.cell 3⟩,HK.out.frozen 2,HK.out.frozen 3,HK.out.lt⟩
  have HAT := Qb hat
  clear hat
  go_enter Tryz.func52,Tryz.ntmps52
  go_wp2_with fail
  refine (UU 1 (by decide) HAT.out).mono ?_
  rintro e w1 ⟨rfl,wz,ao,n,c,hbl1,rfl,hn⟩
  have HN := Qb hn
  have HB1 := Qb hbl1
  clear hn hbl1
  go_wp2
  go_ret
  have hkz := HK.out.below HB1.out HK.out.lt
  refine ⟨rfl,((Save.of HB1.out).set _ _).set _ _,a1,0,c1,ao,n,c,?_,?_,Or.inl ?_⟩
  ·have := (hkz.set 3 (.slice ao n c)).set 2 (.bool (decide (((1 : Nat) : Int) < 0)))
   simpa using this
  ·have := (HA.out.below HB1.out).two (g := g) (i := 3) (j := 2) (x := .slice ao n c) (y := .bool (decide (((1 : Nat) : Int) < 0))) ⟨_,_,hkz,by simp [Qm]⟩ rfl
   simpa using this
  ·have := HN.out.two (g := g) (i := 3) (j := 2) (x := .slice ao n c) (y := .bool (decide (((1 : Nat) : Int) < 0))) ⟨_,_,hkz,by simp [Qm]⟩ rfl
   simpa using this
 ·have hne1 : ((l1 : Int) == 0)=false := beq_eq_false_iff_ne.mpr (by omega)
  by_cases hone : b=1
  ·have hl21 : l2=1 := by
    by_cases h : l2=1
    ·exact h
    ·exact absurd hone (Ov HB.out h)
   subst hl21
   obtain ⟨b3,o3,hi3,hc3,hlt3,hs3⟩ := Vz HB.out
   rw [hone] at hc3
   go_enter Tryz.func52,Tryz.ntmps52
   go_wp2
   go_ret
   refine ⟨rfl,Save.of (Below.refl _ _),RV.mk hb0 HK.out ?_ ?_⟩
   ·rw [hone,Nat.gcd_one_right,Nat.div_one]; exact HA.out
   ·rw [show b / Nat.gcd z.natAbs b=b by rw [hone,Nat.gcd_one_right,Nat.div_one]]; exact HB.out
  ·by_cases hl21 : l2=1
   ·subst hl21
    obtain ⟨b3,o3,hi3,hc3,hlt3,hs3⟩ := Vz HB.out
    have hne3 : ((b : Int) == 1)=false := beq_eq_false_iff_ne.mpr (by omega)
    go_enter Tryz.func52,Tryz.ntmps52
    go_wp2_with fail
    have HS : Hid (∀ w',Below w.heap.size w w'→w'.cell? ⟨g,1,none⟩=some (.slice a1 l1 c1)∧w'.cell? ⟨g,3,none⟩=some (.slice a2 1 c2)) := fun w' hb => ⟨(HK.out.below hb HK.out.lt).cell 1,(HK.out.below hb HK.out.lt).cell 3⟩
    go_region_held3 (fun w' => w'.cell? ⟨g,1,none⟩=some (.slice a1 l1 c1)∧w'.cell? ⟨g,3,none⟩=some (.slice a2 1 c2)) (first | go_keep | exact hs1)
     (first
      | (go_at_call 99; refine (UD (w := w.drew) (HA.out.below (Below.drew (Below.refl _ _))) (HB.out.below (Below.drew (Below.refl _ _))) SA.out SB.out).mono ?_; rintro e w1 ⟨hb0',vg,rfl,hvg⟩; obtain ⟨ag,lg,cg,rfl,hgl,_,hgz⟩ := Zf hvg; have hb1 : Below w.heap.size w w1 := (Below.drew (Below.refl _ w)).trans hb0'; have hs1 := HS.out w1 hb1; clear hb0'))
    clear hs1
    have HG := Qb hvg
    have HB1 := Qb hb1
    have HK1 := Qb (HK.out.below hb1 HK.out.lt)
    obtain ⟨k0,k1,k2,k3⟩ : w1.cell? ⟨g,0,none⟩=_∧w1.cell? ⟨g,1,none⟩=_∧w1.cell? ⟨g,2,none⟩=_∧w1.cell? ⟨g,3,none⟩=_ := ⟨HK1.out.cell 0,HK1.out.cell 1,HK1.out.cell 2,HK1.out.cell 3⟩
    have hG0 : 0 < Nat.gcd z.natAbs b := Nat.gcd_pos_of_pos_right _ hb0
    have HSG : Hid (Small (Nat.gcd z.natAbs b)) := UR SB.out (Nat.le_of_dvd hb0 (Nat.gcd_dvd_right _ _))
    clear hvg hb1 hgz x0 x1 x2 x3
    by_cases hg1 : Nat.gcd z.natAbs b=1
    ·have hlg : lg=1 := by
      by_cases h : lg=1
      ·exact h
      ·exact absurd hg1 (Ov HG.out h)
     subst hlg
     obtain ⟨b4,o4,hi4,hc4,hlt4,hs4⟩ := Vz HG.out
     rw [hg1] at hc4
     go_wp2
     go_ret
     refine ⟨rfl,Save.of HB1.out,RV.mk hb0 HK1.out ?_ ?_⟩
     ·rw [hg1,Nat.div_one]; exact HA.out.below HB1.out
     ·rw [hg1,Nat.div_one]; exact HB.out.below HB1.out
    ·by_cases hlg : lg=1
     ·subst hlg
      obtain ⟨b4,o4,hi4,hc4,hlt4,hs4⟩ := Vz HG.out
      have hne4 : ((Nat.gcd z.natAbs b : Int) == 1)=false := beq_eq_false_iff_ne.mpr (by omega)
      go_wp2_with fail
      refine (Zv (HA.out.below HB1.out) HG.out SA.out HSG.out hG0).mono ?_
      rintro e w2 ⟨hb2,vp,vr,rfl,hvp,_⟩
      obtain ⟨ap,lp,cp,rfl,hpl,_,_⟩ := Zf hvp
      have hbl2 := HB1.out.trans (hb2.mono HB1.out.size)
      have HP := Qb hvp
      have HG2 := Qb (HG.out.below hb2)
      have HK2 := Qb (HK1.out.below hb2 HK1.out.lt)
      have HB2 := Qb hbl2
      obtain ⟨m0,m1,m2,m3⟩ : w2.cell? ⟨g,0,none⟩=_∧w2.cell? ⟨g,1,none⟩=_∧w2.cell? ⟨g,2,none⟩=_∧w2.cell? ⟨g,3,none⟩=_ := ⟨HK2.out.cell 0,HK2.out.cell 1,HK2.out.cell 2,HK2.out.cell 3⟩
      clear hvp hb2 hbl2 k0 k1 k2 k3
      go_wp2_with fail
      refine (Zv (HB.out.below HB2.out) HG2.out SB.out HSG.out hG0).mono ?_
      rintro e w3 ⟨hb3,vq,vr2,rfl,hvq,_⟩
      obtain ⟨aq,lq,cq,rfl,hql,_,_⟩ := Zf hvq
      have HQ := Qb hvq
      have HP3 := Qb (HP.out.below hb3)
      have HK3 := Qb (HK2.out.below hb3 HK2.out.lt)
      have HB3 := Qb (HB2.out.trans (hb3.mono HB2.out.size))
      have q1 := HK3.out.cell 1
      have f1 := HK3.out.frozen 1
      have HK4 := Qb (HK3.out.set 1 (.slice ap lp cp))
      have q3 := HK4.out.cell 3
      have f3 := HK4.out.frozen 3
      clear hvq hb3 m0 m1 m2 m3
      go_wp2
      go_ret
      have hh : YU w3 g := ⟨_,_,HK3.out,by simp [Qm]⟩
      refine ⟨rfl,((Save.of HB3.out).set _ _).set _ _,RV.mk hb0 (by have := HK4.out.set 3 (.slice aq lq cq); simpa using this) (HP3.out.two hh rfl) (HQ.out.two hh rfl)⟩
     ·have hne4 : ((lg : Int) == 1)=false := beq_eq_false_iff_ne.mpr (by omega)
      go_wp2_with fail
      refine (Zv (HA.out.below HB1.out) HG.out SA.out HSG.out hG0).mono ?_
      rintro e w2 ⟨hb2,vp,vr,rfl,hvp,_⟩
      obtain ⟨ap,lp,cp,rfl,hpl,_,_⟩ := Zf hvp
      have hbl2 := HB1.out.trans (hb2.mono HB1.out.size)
      have HP := Qb hvp
      have HG2 := Qb (HG.out.below hb2)
      have HK2 := Qb (HK1.out.below hb2 HK1.out.lt)
      have HB2 := Qb hbl2
      obtain ⟨m0,m1,m2,m3⟩ : w2.cell? ⟨g,0,none⟩=_∧w2.cell? ⟨g,1,none⟩=_∧w2.cell? ⟨g,2,none⟩=_∧w2.cell? ⟨g,3,none⟩=_ := ⟨HK2.out.cell 0,HK2.out.cell 1,HK2.out.cell 2,HK2.out.cell 3⟩
      clear hvp hb2 hbl2 k0 k1 k2 k3
      go_wp2_with fail
      refine (Zv (HB.out.below HB2.out) HG2.out SB.out HSG.out hG0).mono ?_
      rintro e w3 ⟨hb3,vq,vr2,rfl,hvq,_⟩
      obtain ⟨aq,lq,cq,rfl,hql,_,_⟩ := Zf hvq
      have HQ := Qb hvq
      have HP3 := Qb (HP.out.below hb3)
      have HK3 := Qb (HK2.out.below hb3 HK2.out.lt)
      have HB3 := Qb (HB2.out.trans (hb3.mono HB2.out.size))
      have q1 := HK3.out.cell 1
      have f1 := HK3.out.frozen 1
      have HK4 := Qb (HK3.out.set 1 (.slice ap lp cp))
      have q3 := HK4.out.cell 3
      have f3 := HK4.out.frozen 3
      clear hvq hb3 m0 m1 m2 m3
      go_wp2
      go_ret
      have hh : YU w3 g := ⟨_,_,HK3.out,by simp [Qm]⟩
      refine ⟨rfl,((Save.of HB3.out).set _ _).set _ _,RV.mk hb0 (by have := HK4.out.set 3 (.slice aq lq cq); simpa using this) (HP3.out.two hh rfl) (HQ.out.two hh rfl)⟩
   ·have hne3 : ((l2 : Int) == 1)=false := beq_eq_false_iff_ne.mpr (by omega)
    go_enter Tryz.func52,Tryz.ntmps52
    go_wp2_with fail
    have HS : Hid (∀ w',Below w.heap.size w w'→w'.cell? ⟨g,1,none⟩=some (.slice a1 l1 c1)∧w'.cell? ⟨g,3,none⟩=some (.slice a2 l2 c2)) := fun w' hb => ⟨(HK.out.below hb HK.out.lt).cell 1,(HK.out.below hb HK.out.lt).cell 3⟩
    go_region_held3 (fun w' => w'.cell? ⟨g,1,none⟩=some (.slice a1 l1 c1)∧w'.cell? ⟨g,3,none⟩=some (.slice a2 l2 c2)) (first | go_keep | exact hs1)
     (first
      | (go_at_call 99; refine (UD (w := w.drew) (HA.out.below (Below.drew (Below.refl _ _))) (HB.out.below (Below.drew (Below.refl _ _))) SA.out SB.out).mono ?_; rintro e w1 ⟨hb0',vg,rfl,hvg⟩; obtain ⟨ag,lg,cg,rfl,hgl,_,hgz⟩ := Zf hvg; have hb1 : Below w.heap.size w w1 := (Below.drew (Below.refl _ w)).trans hb0'; have hs1 := HS.out w1 hb1; clear hb0'))
    clear hs1
    have HG := Qb hvg
    have HB1 := Qb hb1
    have HK1 := Qb (HK.out.below hb1 HK.out.lt)
    obtain ⟨k0,k1,k2,k3⟩ : w1.cell? ⟨g,0,none⟩=_∧w1.cell? ⟨g,1,none⟩=_∧w1.cell? ⟨g,2,none⟩=_∧w1.cell? ⟨g,3,none⟩=_ := ⟨HK1.out.cell 0,HK1.out.cell 1,HK1.out.cell 2,HK1.out.cell 3⟩
    have hG0 : 0 < Nat.gcd z.natAbs b := Nat.gcd_pos_of_pos_right _ hb0
    have HSG : Hid (Small (Nat.gcd z.natAbs b)) := UR SB.out (Nat.le_of_dvd hb0 (Nat.gcd_dvd_right _ _))
    clear hvg hb1 hgz x0 x1 x2 x3
    by_cases hg1 : Nat.gcd z.natAbs b=1
    ·have hlg : lg=1 := by
      by_cases h : lg=1
      ·exact h
      ·exact absurd hg1 (Ov HG.out h)
     subst hlg
     obtain ⟨b4,o4,hi4,hc4,hlt4,hs4⟩ := Vz HG.out
     rw [hg1] at hc4
     go_wp2
     go_ret
     refine ⟨rfl,Save.of HB1.out,RV.mk hb0 HK1.out ?_ ?_⟩
     ·rw [hg1,Nat.div_one]; exact HA.out.below HB1.out
     ·rw [hg1,Nat.div_one]; exact HB.out.below HB1.out
    ·by_cases hlg : lg=1
     ·subst hlg
      obtain ⟨b4,o4,hi4,hc4,hlt4,hs4⟩ := Vz HG.out
      have hne4 : ((Nat.gcd z.natAbs b : Int) == 1)=false := beq_eq_false_iff_ne.mpr (by omega)
      go_wp2_with fail
      refine (Zv (HA.out.below HB1.out) HG.out SA.out HSG.out hG0).mono ?_
      rintro e w2 ⟨hb2,vp,vr,rfl,hvp,_⟩
      obtain ⟨ap,lp,cp,rfl,hpl,_,_⟩ := Zf hvp
      have hbl2 := HB1.out.trans (hb2.mono HB1.out.size)
      have HP := Qb hvp
      have HG2 := Qb (HG.out.below hb2)
      have HK2 := Qb (HK1.out.below hb2 HK1.out.lt)
      have HB2 := Qb hbl2
      obtain ⟨m0,m1,m2,m3⟩ : w2.cell? ⟨g,0,none⟩=_∧w2.cell? ⟨g,1,none⟩=_∧w2.cell? ⟨g,2,none⟩=_∧w2.cell? ⟨g,3,none⟩=_ := ⟨HK2.out.cell 0,HK2.out.cell 1,HK2.out.cell 2,HK2.out.cell 3⟩
      clear hvp hb2 hbl2 k0 k1 k2 k3
      go_wp2_with fail
      refine (Zv (HB.out.below HB2.out) HG2.out SB.out HSG.out hG0).mono ?_
      rintro e w3 ⟨hb3,vq,vr2,rfl,hvq,_⟩
      obtain ⟨aq,lq,cq,rfl,hql,_,_⟩ := Zf hvq
      have HQ := Qb hvq
      have HP3 := Qb (HP.out.below hb3)
      have HK3 := Qb (HK2.out.below hb3 HK2.out.lt)
      have HB3 := Qb (HB2.out.trans (hb3.mono HB2.out.size))
      have q1 := HK3.out.cell 1
      have f1 := HK3.out.frozen 1
      have HK4 := Qb (HK3.out.set 1 (.slice ap lp cp))
      have q3 := HK4.out.cell 3
      have f3 := HK4.out.frozen 3
      clear hvq hb3 m0 m1 m2 m3
      go_wp2
      go_ret
      have hh : YU w3 g := ⟨_,_,HK3.out,by simp [Qm]⟩
      refine ⟨rfl,((Save.of HB3.out).set _ _).set _ _,RV.mk hb0 (by have := HK4.out.set 3 (.slice aq lq cq); simpa using this) (HP3.out.two hh rfl) (HQ.out.two hh rfl)⟩
     ·have hne4 : ((lg : Int) == 1)=false := beq_eq_false_iff_ne.mpr (by omega)
      go_wp2_with fail
      refine (Zv (HA.out.below HB1.out) HG.out SA.out HSG.out hG0).mono ?_
      rintro e w2 ⟨hb2,vp,vr,rfl,hvp,_⟩
      obtain ⟨ap,lp,cp,rfl,hpl,_,_⟩ := Zf hvp
      have hbl2 := HB1.out.trans (hb2.mono HB1.out.size)
      have HP := Qb hvp
      have HG2 := Qb (HG.out.below hb2)
      have HK2 := Qb (HK1.out.below hb2 HK1.out.lt)
      have HB2 := Qb hbl2
      obtain ⟨m0,m1,m2,m3⟩ : w2.cell? ⟨g,0,none⟩=_∧w2.cell? ⟨g,1,none⟩=_∧w2.cell? ⟨g,2,none⟩=_∧w2.cell? ⟨g,3,none⟩=_ := ⟨HK2.out.cell 0,HK2.out.cell 1,HK2.out.cell 2,HK2.out.cell 3⟩
      clear hvp hb2 hbl2 k0 k1 k2 k3
      go_wp2_with fail
      refine (Zv (HB.out.below HB2.out) HG2.out SB.out HSG.out hG0).mono ?_
      rintro e w3 ⟨hb3,vq,vr2,rfl,hvq,_⟩
      obtain ⟨aq,lq,cq,rfl,hql,_,_⟩ := Zf hvq
      have HQ := Qb hvq
      have HP3 := Qb (HP.out.below hb3)
      have HK3 := Qb (HK2.out.below hb3 HK2.out.lt)
      have HB3 := Qb (HB2.out.trans (hb3.mono HB2.out.size))
      have q1 := HK3.out.cell 1
      have f1 := HK3.out.frozen 1
      have HK4 := Qb (HK3.out.set 1 (.slice ap lp cp))
      have q3 := HK4.out.cell 3
      have f3 := HK4.out.frozen 3
      clear hvq hb3 m0 m1 m2 m3
      go_wp2
      go_ret
      have hh : YU w3 g := ⟨_,_,HK3.out,by simp [Qm]⟩
      refine ⟨rfl,((Save.of HB3.out).set _ _).set _ _,RV.mk hb0 (by have := HK4.out.set 3 (.slice aq lq cq); simpa using this) (HP3.out.two hh rfl) (HQ.out.two hh rfl)⟩
end Go.Proofs.YtnhplfjlhdpgoaaGreatDoor
/- BO -/
namespace Go.Proofs.YtnhplfjlhdpgoaaGreatDoor
open Go.RowKit Cx
attribute [local go_sem ↓] Go.wp_at_zero Go.wp_at_succ
theorem IV.apart {w : World} {p : Value} {z : Int} {g : Nat} (h : IV w p z) (hg : w.heap.size≤g) : YX p g := by
 obtain ⟨g1,o1,_,_,_,rfl,_,_,_,hl⟩ := h
 intro g2 o2 t e
 cases e
 omega
theorem Jo {w : World} {g : Nat} {y0 y1 y2 y3 : Value} {pa pb : Value} {z : Int} {b : Nat} (hk : Blk w g #[y0,y1,y2,y3] 35) (hno : (#[y0,y1,y2,y3] : Array Value).all Qm=true) (ha : IV w pa z) (hb : IV w pb b) (hb0 : 0 < b) (sa : Small z.natAbs) (sb : Small b) :
  Calls Tryz.prog 20 #[.pointer (some ⟨g,0,none⟩),pa,pb] w fun e w' => e=.returned (.pointer (some ⟨g,0,none⟩))∧Save g w w'∧RV w' g (mkRat z b) := by
 have HA := Qb ha
 have HB := Qb hb
 obtain ⟨g2,o2,a2,n2,c2,rfl,z0,z1,z2,zl⟩ := hb
 have hn2 : n2 ≠ 0 := fun h => by
  obtain ⟨_,_,_,e,_,_,hz⟩ := Zf z2
  cases e
  have := hz.1 h
  omega
 have hne : ((n2 : Int) == 0)=false := beq_eq_false_iff_ne.mpr (by omega)
 have HK := Qb hk
 have SA := Qb sa
 have SB := Qb sb
 clear hk ha sa sb z2
 go_enter Tryz.func20,Tryz.ntmps20
 go_wp2_with fail
 have hkp := Blk.new w #[.bool false,.slice none 0 0] 33
 have hbp := Qh w (.cells #[.bool false,.slice none 0 0] 33)
 refine (Ys (At2.blk hkp) (HA.out.below hbp) (HA.out.apart (Nat.le_refl _)) SA.out).mono ?_
 rintro e w1 ⟨rfl,hg⟩
 obtain ⟨ho,hbl⟩ := hg.own hkp
 have hb1 := hbp.trans (hbl _ (Nat.le_refl _) hbp.size)
 obtain ⟨gp,hgp⟩ : ∃ gp,gp=w.heap.size := ⟨_,rfl⟩
 rw [← hgp] at ho ⊢
 have HOP := Qb ho
 have HB1 := Qb hb1
 have HGP := Qb hgp
 clear ho hbl hg hkp hbp hb1 hgp
 go_wp2_with fail
 have hkq := Blk.new w1 #[.bool false,.slice none 0 0] 33
 have hbq := Qh w1 (.cells #[.bool false,.slice none 0 0] 33)
 have HBq : Hid (Below w.heap.size w (w1.alloc (.cells #[.bool false,.slice none 0 0] 33))) := HB1.out.trans (hbq.mono HB1.out.size)
 refine (Ys (x := (b : Int)) (At2.blk hkq) (HB.out.below HBq.out) (HB.out.apart HB1.out.size) (by simpa using SB.out)).mono ?_
 rintro e w2 ⟨rfl,hg⟩
 obtain ⟨ho,hbl⟩ := hg.own hkq
 have hb2 := hbq.trans (hbl _ (Nat.le_refl _) hbq.size)
 have HGQ : Hid (w.heap.size≤w1.heap.size) := HB1.out.size
 obtain ⟨gq,hgq⟩ : ∃ gq,gq=w1.heap.size := ⟨_,rfl⟩
 rw [← hgq] at ho HGQ ⊢
 have HOQ := Qb ho
 have HOP2 := Qb (HOP.out.below hb2)
 have HB2 := Qb (HB1.out.trans (hb2.mono HB1.out.size))
 have HK2 := Qb (HK.out.below HB2.out HK.out.lt)
 have HNG : Hid (g ≠ gp∧g ≠ gq) := by
  have h1 := HK.out.lt
  have h2 := HGQ.out
  have h3 := HGP.out
  constructor <;> omega
 clear ho hbl hg hkq hbq hb2 hgq
 obtain ⟨ap,np,cp,kp,hnp⟩ := HOP2.out
 obtain ⟨aq,nq,cq,kq,hnq⟩ := HOQ.out
 have HNP := Qb hnp
 have HNQ := Qb hnq
 obtain ⟨p0,p1,_⟩ := kp.all2
 obtain ⟨m0,m1,m2,m3⟩ : w2.cell? ⟨g,0,none⟩=_∧w2.cell? ⟨g,1,none⟩=_∧w2.frozen? ⟨g,0,none⟩=_∧w2.frozen? ⟨g,1,none⟩=_ := ⟨HK2.out.cell 0,HK2.out.cell 1,HK2.out.frozen 0,HK2.out.frozen 1⟩
 have HKA := Qb ((HK2.out.set 0 (.bool (decide (z < 0)))).set 1 (.slice ap np cp))
 obtain ⟨r0,r1,r2,r3⟩ : ((w2.setCell ⟨g,0,none⟩ (.bool (decide (z < 0)))).setCell ⟨g,1,none⟩ (.slice ap np cp)).cell? ⟨g,2,none⟩=_∧((w2.setCell ⟨g,0,none⟩ (.bool (decide (z < 0)))).setCell ⟨g,1,none⟩ (.slice ap np cp)).cell? ⟨g,3,none⟩=_∧((w2.setCell ⟨g,0,none⟩ (.bool (decide (z < 0)))).setCell ⟨g,1,none⟩ (.slice ap np cp)).frozen? ⟨g,2,none⟩=_∧((w2.setCell ⟨g,0,none⟩ (.bool (decide (z < 0)))).setCell ⟨g,1,none⟩ (.slice ap np cp)).frozen? ⟨g,3,none⟩=_ := ⟨HKA.out.cell 2,HKA.out.cell 3,HKA.out.frozen 2,HKA.out.frozen 3⟩
 have q0 : ((w2.setCell ⟨g,0,none⟩ (.bool (decide (z < 0)))).setCell ⟨g,1,none⟩ (.slice ap np cp)).cell? ⟨gq,0,none⟩=_ := (Jw HNG.out.2.symm).trans (kq.cell 0)
 have q1 : ((w2.setCell ⟨g,0,none⟩ (.bool (decide (z < 0)))).setCell ⟨g,1,none⟩ (.slice ap np cp)).cell? ⟨gq,1,none⟩=_ := (Jw HNG.out.2.symm).trans (kq.cell 1)
 clear hnp hnq kp kq
 go_wp2_with fail
 have HKB := Qb ((HKA.out.set 2 (.bool (decide ((b : Int) < 0)))).set 3 (.slice aq nq cq))
 have hno2 : (#[y0,y1,y2,y3] : Array Value).all Qm=true := hno
 have hh : YU w2 g := ⟨_,_,HK2.out,hno2⟩
 have hh2 : YU ((w2.setCell ⟨g,0,none⟩ (.bool (decide (z < 0)))).setCell ⟨g,1,none⟩ (.slice ap np cp)) g := ⟨_,_,HKA.out,Xc (Xc hno2 0 rfl) 1 rfl⟩
 have h1 := (HNP.out.two (i := 0) (j := 1) (x := .bool (decide (z < 0))) (y := .slice ap np cp) hh rfl).two (i := 2) (j := 3) (x := .bool (decide ((b : Int) < 0))) (y := .slice aq nq cq) hh2 rfl
 have h2 := (HNQ.out.two (i := 0) (j := 1) (x := .bool (decide (z < 0))) (y := .slice ap np cp) hh rfl).two (i := 2) (j := 3) (x := .bool (decide ((b : Int) < 0))) (y := .slice aq nq cq) hh2 rfl
 have hs : Save g w ((((w2.setCell ⟨g,0,none⟩ (.bool (decide (z < 0)))).setCell ⟨g,1,none⟩ (.slice ap np cp)).setCell ⟨g,2,none⟩ (.bool (decide ((b : Int) < 0)))).setCell ⟨g,3,none⟩ (.slice aq nq cq)) := ((((Save.of HB2.out).set _ _).set _ _).set _ _).set _ _
 have HSV := Qb hs
 rw [Int.natAbs_natCast] at h2
 have hkb : Blk ((((w2.setCell ⟨g,0,none⟩ (.bool (decide (z < 0)))).setCell ⟨g,1,none⟩ (.slice ap np cp)).setCell ⟨g,2,none⟩ (.bool (decide ((b : Int) < 0)))).setCell ⟨g,3,none⟩ (.slice aq nq cq)) g #[.bool (decide (z < 0)),.slice ap np cp,.bool false,.slice aq nq cq] 35 := by
  have h : Blk ((((w2.setCell ⟨g,0,none⟩ (.bool (decide (z < 0)))).setCell ⟨g,1,none⟩ (.slice ap np cp)).setCell ⟨g,2,none⟩ (.bool (decide ((b : Int) < 0)))).setCell ⟨g,3,none⟩ (.slice aq nq cq)) g #[.bool (decide (z < 0)),.slice ap np cp,.bool (decide ((b : Int) < 0)),.slice aq nq cq] 35 := HKB.out
  have e : (#[.bool (decide (z < 0)),.slice ap np cp,.bool (decide ((b : Int) < 0)),.slice aq nq cq] : Array Value)=#[.bool (decide (z < 0)),.slice ap np cp,.bool false,.slice aq nq cq] := by
   rw [show decide ((b : Int) < 0)=false by simp]
  rwa [e] at h
 refine (NT (z := z) (b := b) hkb h1 h2 hb0 SA.out SB.out).mono ?_
 rintro e w5 ⟨rfl,hsv,hrv⟩
 have HR := Qb (And.intro (HSV.out.trans hsv) hrv)
 clear hsv hrv hs h1 h2 hh hh2
 go_wp2
 go_ret
 exact ⟨rfl,HR.out.1,HR.out.2⟩
end Go.Proofs.YtnhplfjlhdpgoaaGreatDoor
/- BP -/
namespace Go.Proofs.YtnhplfjlhdpgoaaGreatDoor
open Go.RowKit Cx
attribute [local go_sem ↓] Go.wp_at_zero Go.wp_at_succ
theorem Below.new {a w : World} (h : Below a.heap.size a w) (o : Obj) : Below a.heap.size a (w.alloc o) := h.alloc h.size o
theorem Own2.save {w w' : World} {g g' : Nat} {z : Int} (h : Own2 w g' z) (hne : g' ≠ g) (hh : YU w g) (hs : Save g w w') : Own2 w' g' z := by
 obtain ⟨ao,n,c,h0,h1⟩ := h
 exact ⟨ao,n,c,hs.blk h0 hne,h1.save hh hs⟩
theorem Own2.lt {w : World} {g : Nat} {z : Int} (h : Own2 w g z) : g < w.heap.size := by
 obtain ⟨ao,n,c,h0,_⟩ := h
 exact h0.lt
theorem Gave.save {w w' : World} {g o : Nat} {z : Int} (h : Gave w g o z w') : Save g w w' := by
 obtain ⟨w1,ao,n',c',hbl,rfl,hn⟩ := h
 exact ((Save.of hbl).set _ _).set _ _
theorem Io {w : World} {g : Nat} {cs : Array Value} {t : TypeId} (o : Obj) (h : Blk w g cs t) : Blk (w.alloc o) g cs t := h.below (Qh _ _) h.lt
theorem TN {w : World} {g : Nat} {cs : Array Value} {t : TypeId} (h : g=w.heap.size) : Blk (w.alloc (.cells cs t)) g cs t := by
 subst h
 exact Blk.new _ _ _
theorem YE {w : World} {g : Nat} {px py : Value} {x y : Int} (hk : Blk w g #[.bool false,.slice none 0 0] 33) (hx : IV w px x) (hy : IV w py y) (ax : YX px g) (ay : YX py g) (sx : Small x.natAbs) (sy : Small y.natAbs) :
  Calls Tryz.prog 22 #[.pointer (some ⟨g,0,none⟩),px,py] w fun e w' => e=.returned (.pointer (some ⟨g,0,none⟩))∧Save g w w'∧Own2 w' g (x*y)∧YU w g := by
 refine (IA (At2.blk hk) hx hy ax ay sx sy).mono ?_
 rintro e w' ⟨rfl,hg⟩
 exact ⟨rfl,hg.save,(hg.own hk).1,_,_,hk,by simp [Qm]⟩
theorem XK {k : Nat} {q : Rat} (f : QS k q) (hk : k≤35184372088640) : Small q.num.natAbs := Qs f.num hk
theorem Yu {k : Nat} {q : Rat} (f : QS k q) (hk : k≤35184372088640) : Small (q.den : Int).natAbs := by
 rw [Int.natAbs_natCast]
 exact Qs f.den hk
end Go.Proofs.YtnhplfjlhdpgoaaGreatDoor
/- BTA -/
namespace Go.Proofs.YtnhplfjlhdpgoaaGreatDoor
open Go.RowKit Cx
attribute [local go_sem ↓] Go.wp_at_zero Go.wp_at_succ
theorem Xr {w w' : World} {g : Nat} {cs : Array Value} {t : TypeId} (hb : Below w.heap.size w w') (h : Blk w g cs t) : Blk w' g cs t := h.below hb h.lt
theorem TL {w w' : World} {g g' : Nat} {cs : Array Value} {t : TypeId} (hs : Save g w w') (h : Blk w g' cs t) (hne : g' ≠ g) : Blk w' g' cs t := hs.blk h hne
theorem JE {w : World} {g : Nat} {z : Int} (o : Obj) (h : Own2 w g z) : Own2 (w.alloc o) g z := h.below (Qh _ _)
theorem MY {w w' : World} {g : Nat} {z : Int} (hb : Below w.heap.size w w') (h : Own2 w g z) : Own2 w' g z := h.below hb
theorem Tw {w w' : World} {g g' : Nat} {z : Int} (hs : Save g w w') (hh : YU w g) (h : Own2 w g' z) (hne : g' ≠ g) : Own2 w' g' z := h.save hne hh hs
theorem Dp {w : World} {p : Value} {z : Int} (o : Obj) (h : IV w p z) : IV (w.alloc o) p z := h.below (Qh _ _)
theorem iv_bel {w w' : World} {p : Value} {z : Int} (hb : Below w.heap.size w w') (h : IV w p z) : IV w' p z := h.below hb
theorem Wl {w : World} {g : Nat} {cs : Array Value} {t : TypeId} (h : Blk w g cs t) : Blk w.drew g cs t := h.below (Below.drew (Below.refl _ _)) h.lt
theorem OU {w : World} {g : Nat} {z : Int} (h : Own2 w g z) : Own2 w.drew g z := h.below (Below.drew (Below.refl _ _))
theorem Tp {w : World} {p : Value} {z : Int} (h : IV w p z) : IV w.drew p z := h.below (Below.drew (Below.refl _ _))
theorem Vr {g g' o : Nat} (h : g' ≠ g) : YX (.pointer (some ⟨g',o,none⟩)) g := by
 intro g1 o1 t e
 cases e
 exact h
theorem ZC {a w w' : World} {g : Nat} (h : Below a.heap.size a w) (hs : Save g w w') (hg : a.heap.size≤g) : Below a.heap.size a w' := h.trans (hs.below hg h.size)
theorem Qq {a w w' : World} (h : Below a.heap.size a w) (hs : Below w.heap.size w w') : Below a.heap.size a w' := h.trans (hs.mono h.size)
theorem ge_at {w a b : World} {g : Nat} (_ : Save g a b) (h : w.heap.size≤g) : w.heap.size≤g := h
theorem CD {w : World} {g : Nat} {px py : Value} {x y : Int} (hk : Blk w g #[.bool false,.slice none 0 0] 33) (hx : IV w px x) (hy : IV w py y) (ax : YX px g) (ay : YX py g) (sx : Small x.natAbs) (sy : Small y.natAbs) :
  Calls Tryz.prog 95 #[.pointer (some ⟨g,0,none⟩),px,py] w fun e w' => e=.returned (.pointer (some ⟨g,0,none⟩))∧Save g w w'∧Own2 w' g (x - y)∧YU w g := by
 refine (DL (At2.blk hk) hx hy ax ay sx sy).mono ?_
 rintro e w' ⟨rfl,hg⟩
 exact ⟨rfl,hg.save,(hg.own hk).1,_,_,hk,by simp [Qm]⟩
theorem Ve {x y : Rat} {k l : Nat} (fx : QS k x) (fy : QS l y) (hkl : k+l+1≤35184372088640) : Small (x.num*(y.den : Int)).natAbs := by
 rw [Int.natAbs_mul,Int.natAbs_natCast]
 exact Qs (k := k+l) (by rw [Nat.pow_add]; exact Nat.mul_lt_mul_of_lt_of_lt fx.num fy.den) (by omega)
theorem FY {x y : Rat} {k l : Nat} (fx : QS k x) (fy : QS l y) : (x.num*(y.den : Int)).natAbs < 2 ^ (k+l) := by
 rw [Int.natAbs_mul,Int.natAbs_natCast,Nat.pow_add]
 exact Nat.mul_lt_mul_of_lt_of_lt fx.num fy.den
theorem KP {x y : Rat} {k l : Nat} (fx : QS k x) (fy : QS l y) (hkl : k+l+1≤35184372088640) : Small (x.num*(y.den : Int) - y.num*(x.den : Int)).natAbs := by
 have h1 := FY fx fy
 have h2 := FY fy fx
 rw [Nat.add_comm l k] at h2
 exact Qs (k := k+l+1) (by rw [Nat.pow_succ]; omega) (by omega)
theorem DJ (x y : Rat) : x+y=mkRat (x.num*(y.den : Int)+y.num*(x.den : Int)) (x.den*y.den) := by
 conv => lhs; rw [← Rat.mkRat_self x,← Rat.mkRat_self y]
 exact Rat.mkRat_add_mkRat _ _ x.den_nz y.den_nz
theorem DD (x y : Rat) : x - y=mkRat (x.num*(y.den : Int) - y.num*(x.den : Int)) (x.den*y.den) := by
 rw [Rat.sub_eq_add_neg]
 refine (DJ x (-y)).trans ?_
 show mkRat (x.num*(y.den : Int)+(-y.num)*(x.den : Int)) (x.den*y.den)=_
 rw [Int.neg_mul,← Int.sub_eq_add_neg]
end Go.Proofs.YtnhplfjlhdpgoaaGreatDoor
