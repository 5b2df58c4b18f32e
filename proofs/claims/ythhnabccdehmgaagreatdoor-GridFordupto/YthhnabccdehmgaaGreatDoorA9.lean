/- Part 9 of the walks and of the mathematics under them: VK FLR ZWL VL VLA VM VN VO QSD MathX WK WL. -/
import Derived.Test.YthhnabccdehmgaaGreatDoorA8
import Derived.Laws.Strings
import Derived.ArgAppend
import Derived.Laws.CopyRow
import Derived.LoopN
import Derived.Test.YthhnabccdehmgaaGreatDoorA6
import Derived.Test.YthhnabccdehmgaaGreatDoorA7
set_option maxHeartbeats 16000000
set_option maxRecDepth 100000
/- VK -/
namespace Cx
open Go Go.RowKit
def flq (r : Rat) : Int := r.num / (r.den : Int)
def QM (q : Rat) : Int := if q < 0 then -1 else if q=0 then 0 else 1
structure Knows (S : Sx) (E : Ev S.nb) : Prop where
 k0 : ∀ a r,S.kn 0 a 0=some r→(Nat.beq 1 r=true ↔ E.q a=0)
 k1 : ∀ a r,S.kn 1 a 0=some r→(Nat.beq 1 r=true ↔ E.q a < 0)
 k2 : ∀ a r,S.kn 2 a 0=some r→(Nat.beq 1 r=true ↔ 0 < E.q a)
 k3 : ∀ a b r,S.kn 3 a b=some r→(Nat.beq 1 r=true ↔ E.q a=E.q b)
 k4 : ∀ l a b r,YC l S.C=some b→S.kn 4 a b=some r→(Nat.beq 1 r=true ↔ Jv (E.tell (E.q a))=l)
 k5 : ∀ a r,S.kn 5 a 0=some r→(r=0→E.q a < 0)∧(r=1→E.q a=0)∧(r=2→0 < E.q a)
 k7 : ∀ a b c,S.nd 4 [a,b]=some c→E.q c=E.q a*E.q b
 k8 : ∀ a b c,S.nd 2 [a,b]=some c→E.q c=E.q a+E.q b
 k9 : ∀ a b c,S.nd 3 [a,b]=some c→E.q c=E.q a - E.q b
 k10 : ∀ a b i j n,S.nd 7 [a,b,i,j]=some n→(E.q n=0 ↔ (E.tell (E.q a)=E.σ i∧E.tell (E.q b)=E.σ j))
 z0 : ∀ t i,isR S.nb t=true→S.nd 0 [0,0,1]=some i→∃ cs : List Value,Va S.P t=some (cs.map Sum.inl)∧∀ w : World,(E.X 0 (E.q i)).on (.pointer (some ⟨w.heap.size,0,none⟩)) (w.alloc (.cells cs.toArray t))
 x4 : ∀ q v w,(E.X 4 q).on v w ↔ v=.int .i64 (QM q)
 x5 : ∀ q v w,(E.X 5 q).on v w→∃ c : Int,v=.int .i64 c∧(c=0 ↔ q=0)∧(c < 0 ↔ q < 0)
 x6 : ∀ q v w,(E.X 6 q).on v w→∃ n : Int,v=.int .i64 n∧((n : Int) : Rat)=q
 x7 : ∀ q v w,(E.X 7 q).on v w ↔ ∃ c : Int,v=.int .i64 c∧(c=0 ↔ q=0)
 xp : ∀ q v w,(E.X 0 q).on v w→∃ a,v=.pointer (some a)
 c0 : ∀ z c,Rc S z=some c→E.q c=((z : Int) : Rat)
 tne : ∀ q,Jv (E.tell q) ≠ []
 tin : ∀ q q',E.tell q=E.tell q'→q=q'
 eqs : ∀ t n,IJ t S.eqT=some n→n < 1000→∀ (ar bs : List ByteArray),ar.length=n→bs.length=n→∀ (x y : Operand) (w : World),
  (do eqGuard .eql t x y (.agg (ar.map Value.string).toArray) (.agg (bs.map Value.string).toArray); binOp .eql t (.agg (ar.map Value.string).toArray) (.agg (bs.map Value.string).toArray) : Sem Value).run S.P w=.ok (.bool (decide (ar=bs))) w ∧
  (do eqGuard .neq t x y (.agg (ar.map Value.string).toArray) (.agg (bs.map Value.string).toArray); binOp .neq t (.agg (ar.map Value.string).toArray) (.agg (bs.map Value.string).toArray) : Sem Value).run S.P w=.ok (.bool (!decide (ar=bs))) w
 eqz : ∀ t n,IJ t S.eqT=some (n+1000)→∀ (l m : List Int),l.length=n→m.length=n→∀ (x y : Operand) (w : World),
  (do eqGuard .eql t x y (.agg (l.map fun (z : Int) => Value.int .i64 z).toArray) (.agg (m.map fun (z : Int) => Value.int .i64 z).toArray); binOp .eql t (.agg (l.map fun (z : Int) => Value.int .i64 z).toArray) (.agg (m.map fun (z : Int) => Value.int .i64 z).toArray) : Sem Value).run S.P w=.ok (.bool (decide (l=m))) w ∧
  (do eqGuard .neq t x y (.agg (l.map fun (z : Int) => Value.int .i64 z).toArray) (.agg (m.map fun (z : Int) => Value.int .i64 z).toArray); binOp .neq t (.agg (l.map fun (z : Int) => Value.int .i64 z).toArray) (.agg (m.map fun (z : Int) => Value.int .i64 z).toArray) : Sem Value).run S.P w=.ok (.bool (!decide (l=m))) w
theorem OX {a b : ByteArray} (h : Jv a=Jv b) : a=b := by
 unfold Jv at h
 have : a.data.toList=b.data.toList := (List.map_inj_right (fun x y e => UInt8.toNat_inj.1 e)).1 h
 exact ByteArray.ext (Array.ext' this)
section
variable {S : Sx} {E : Ev S.nb} {w0 : World} {h : List HB} {nx : Nat} {ρ : Operand→Option AV} {o : Oper}
theorem Ym {γ : Nat→Option Nat} {w : World} (b : Bool) : avOn (cOn E S.K γ w) (kB b) (.bool b) := Zp ⟨rfl,rfl⟩
theorem WU {γ : Nat→Option Nat} {w : World} (z : Int) : avOn (cOn E S.K γ w) (kI z) (.int .i64 z) := Zp ⟨rfl,rfl⟩
theorem JB {γ : Nat→Option Nat} {w : World} {d k : Nat} {ov : Option Operand} {a : Act} (hρ : ∀ x v,ρ x=some v→avOn (cOn E S.K γ w) v (a.eval x)) (hb : IZ d (ov.map ρ)=some k) :
  (ov.map a.eval=none∧k=d) ∨ ov.map a.eval=some (.int .i64 k) := by
 cases ov with
 | none =>
  cases hb
  exact Or.inl ⟨rfl,rfl⟩
 | some x =>
  have hb' : IZ d (some (ρ x))=some k := hb
  unfold IZ at hb'
  split at hb'
  ·rename_i e
   cases e
  ·rename_i v e
   have e' : ρ x=some v := Option.some.inj e
   exact Or.inr (congrArg some (UL hb' (hρ x v e')))
  ·cases hb'
theorem UH {P : Program} {w : World} {k n : Nat} (hk : k≤n) (code : BoundsCode) : (Instr.sliceBound (.int .i64 k) n code).run P w=.ok k w := by
 unfold Instr.sliceBound
 have e3 : (asIntOf (.int .i64 (k : Int))).run P w=.ok (.i64,(k : Int)) w := rfl
 rw [Sem.run_bind,e3]
 show (if (0 : Int)≤(k : Int)∧(k : Int)≤(n : Int) then pure (k : Int).toNat else boundsPanic .i64 k n code : Sem Nat).run P w=_
 rw [if_pos (by omega)]
 rfl
theorem UT {P : Program} {w : World} {b : Bool} {len cap l k : Nat} {lv hv : Option Value} (hh : (hv=none∧k=len) ∨ hv=some (.int .i64 k)) (hl : (lv=none∧l=0) ∨ lv=some (.int .i64 l)) (h1 : l≤k) (h2 : k≤cap) : (Instr.sliceBounds b len cap lv hv none).run P w=.ok (l,k,cap) w := by
 unfold Instr.sliceBounds
 rcases hh with ⟨rfl,rfl⟩ | rfl <;> rcases hl with ⟨rfl,rfl⟩ | rfl <;> simp only [Sem.run_bind,Sem.run_pure,UH h1,UH h2,Result.andThen]
theorem Nm {t : TypeId} {x : Operand} {lo hi : Option Operand} (hop : o.op=.slice t x lo hi none) {v : AV} {y : AV} (h1 : ρ x=some v) (h2 : DR S.P t v (lo.map ρ) (hi.map ρ)=some y) : OpOk S E w0 h nx ρ o (QU h nx y) := by
 refine OpOk.pure fun γ w a hρ => ?_
 have hexec : ∀ (q : Value),(Instr.sliceAt t (a.eval x) (lo.map a.eval) (hi.map a.eval) none).run S.P w=.ok q w→(execOp a.eval o).run S.P w=.ok (.value q) w := fun q hq => by
  unfold execOp
  rw [hop]
  exact ZR hq
 unfold DR at h2
 split at h2
 ·rename_i n e ha
  simp only [Option.bind_eq_some_iff,ifO_some,Bool.and_eq_true,Nat.ble_eq] at h2
  obtain ⟨p,h3,hh,h4,l,h5,z,h6,⟨h7,h8,h9⟩,e'⟩ := h2
  cases e'
  have h9 : l < n := by simpa [Nat.blt_eq] using h9
  obtain ⟨G,hG,hx⟩ := OT h3 (hρ x v h1)
  refine ⟨.slice (some ⟨G,p.2+l*z,none⟩) (hh - l) (n - l),hexec _ ?_,Zp ⟨G,hG,rfl⟩⟩
  rw [hx]
  unfold Instr.sliceAt
  rw [Sem.run_bind,Qu (YT ha)]
  have hbs : (Instr.sliceBounds false n n (lo.map a.eval) (hi.map a.eval) none).run S.P w=.ok (l,hh,n) w := UT (JB hρ h4) (JB hρ h5) h7 h8
  show ((Instr.sliceBounds false n n (lo.map a.eval) (hi.map a.eval) none) >>= fun (l,h,m) => (Go.sizeOf e >>= fun size => pure (Value.slice (some (if m=l then (⟨G,p.2,none⟩ : Addr) else (⟨G,p.2,none⟩ : Addr).add (l*size))) (h - l) (m - l))) : Sem Value).run S.P w=_
  rw [Sem.run_bind,hbs]
  show (Go.sizeOf e >>= fun size => pure (Value.slice (some (if n=l then (⟨G,p.2,none⟩ : Addr) else (⟨G,p.2,none⟩ : Addr).add (l*size))) (hh - l) (n - l)) : Sem Value).run S.P w=_
  rw [Sem.run_bind,Zi h6]
  show Result.ok (Value.slice (some (if n=l then (⟨G,p.2,none⟩ : Addr) else (⟨G,p.2,none⟩ : Addr).add (l*z))) (hh - l) (n - l)) w=_
  rw [if_neg (by omega),YW]
 ·simp only [Option.bind_eq_some_iff] at h2
  obtain ⟨e,ha,z,h6,h2⟩ := h2
  have slc_run : ∀ (ao : Option Addr) (n m l hh : Nat),(Instr.sliceBounds true n m (lo.map a.eval) (hi.map a.eval) none).run S.P w=.ok (l,hh,m) w→(Instr.sliceAt t (.slice ao n m) (lo.map a.eval) (hi.map a.eval) none).run S.P w=.ok (.slice (if m=l then ao else ao.map (·.add (l*z))) (hh - l) (m - l)) w := fun ao n m l hh hbs => by
   unfold Instr.sliceAt
   rw [Sem.run_bind,Qu (Zc ha)]
   show (Instr.slice t (.slice ao n m) (lo.map a.eval) (hi.map a.eval) none).run S.P w=_
   unfold Instr.slice
   rw [Sem.run_bind,Qu (Zc ha)]
   show ((Instr.sliceBounds true n m (lo.map a.eval) (hi.map a.eval) none) >>= fun (l,h,m) => (Go.sizeOf e >>= fun size => pure (Value.slice (if m=l then ao else ao.map (·.add (l*size))) (h - l) (m - l))) : Sem Value).run S.P w=_
   rw [Sem.run_bind,hbs]
   show (Go.sizeOf e >>= fun size => pure (Value.slice (if m=l then ao else ao.map (·.add (l*size))) (hh - l) (m - l)) : Sem Value).run S.P w=_
   rw [Sem.run_bind,Zi h6]
   rfl
  split at h2
  ·rename_i p h3
   simp only [Option.bind_eq_some_iff,ifO_some,Bool.and_eq_true,Nat.ble_eq] at h2
   obtain ⟨hh,h4,l,h5,⟨h7,h8⟩,e'⟩ := h2
   cases e'
   obtain ⟨G,hG,hx⟩ := asS_on h3 (hρ x v h1)
   have hrun := slc_run (some ⟨G,p.2.1,none⟩) p.2.2.1 p.2.2.2 l hh (UT (JB hρ h4) (JB hρ h5) h7 h8)
   cases h9 : Nat.blt l p.2.2.2 with
   | true =>
    have h9' : l < p.2.2.2 := by simpa [Nat.blt_eq] using h9
    refine ⟨.slice (some ⟨G,p.2.1+l*z,none⟩) (hh - l) (p.2.2.2 - l),hexec _ ?_,Zp ⟨G,hG,rfl⟩⟩
    rw [hx,hrun,if_neg (by omega),Option.map_some,YW]
   | false =>
    have h9' : ¬ l < p.2.2.2 := fun q => by
     have : Nat.blt l p.2.2.2=true := by simpa [Nat.blt_eq] using q
     rw [this] at h9
     cases h9
    have e1 : l=p.2.2.2 := by omega
    have e2 : hh=l := by omega
    refine ⟨.slice (some ⟨G,p.2.1,none⟩) 0 0,hexec _ ?_,Zp ⟨_,_,rfl,fun _ => rfl⟩⟩
    rw [hx,hrun,if_pos e1.symm,e2,e1,Nat.sub_self]
  ·simp only [Option.bind_eq_some_iff,ifO_some,Bool.and_eq_true,Nat.ble_eq] at h2
   obtain ⟨p,h3,hh,h4,l,h5,⟨⟨h7,h8⟩,hz⟩,e'⟩ := h2
   cases e'
   rw [Nat.beq_eq] at hz
   obtain ⟨G,m,hG,hx,hnm,cs,t',hk,hl⟩ := Mb h3 (hρ x v h1)
   have hrun := slc_run (some ⟨G,p.2.1,none⟩) p.2.2.1 m l hh (UT (JB hρ h4) (JB hρ h5) h7 (by omega))
   cases h9 : Nat.blt l p.2.2.1 with
   | true =>
    have h9' : l < p.2.2.1 := by simpa [Nat.blt_eq] using h9
    refine ⟨.slice (some ⟨G,p.2.1+l*z,none⟩) (hh - l) (m - l),hexec _ ?_,Zp ⟨G,m - l,hG,rfl,by omega,cs,t',hk,?_⟩⟩
    ·rw [hx,hrun,if_neg (by omega),Option.map_some,YW]
    ·rw [hl,← hz]
     have : l*z+(m - l)*z=m*z := by rw [← Nat.add_mul]; congr 1; omega
     omega
   | false =>
    have h9' : ¬ l < p.2.2.1 := fun q => by
     have : Nat.blt l p.2.2.1=true := by simpa [Nat.blt_eq] using q
     rw [this] at h9
     cases h9
    have e2 : hh=l := by omega
    exact ⟨_,hexec _ (by rw [hx,hrun]),Zp ⟨_,_,by rw [e2,Nat.sub_self],fun q => by cases q⟩⟩
theorem Sh {P : Program} {w : World} {b : Bool} {len cap l k m : Nat} {lv hv : Option Value} (hh : hv=some (.int .i64 k)) (hl : (lv=none∧l=0) ∨ lv=some (.int .i64 l)) (h1 : l≤k) (h2 : k≤m) (h3 : m≤cap) : (Instr.sliceBounds b len cap lv hv (some (.int .i64 m))).run P w=.ok (l,k,m) w := by
 unfold Instr.sliceBounds
 subst hh
 rcases hl with ⟨rfl,rfl⟩ | rfl <;> simp only [Sem.run_bind,Sem.run_pure,UH h1,UH h2,UH h3,Result.andThen]
theorem PN {P : Program} {t e : TypeId} {z : Nat} (ha : ZU P t=some e) (h6 : Zw P e=some z) {w : World} {lv hv mv : Option Value} (ao : Option Addr) (n m l hh k : Nat) (hbs : (Instr.sliceBounds true n m lv hv mv).run P w=.ok (l,hh,k) w) : (Instr.sliceAt t (.slice ao n m) lv hv mv).run P w=.ok (.slice (if k=l then ao else ao.map (·.add (l*z))) (hh - l) (k - l)) w := by
 unfold Instr.sliceAt
 rw [Sem.run_bind,Qu (Zc ha)]
 show (Instr.slice t (.slice ao n m) lv hv mv).run P w=_
 unfold Instr.slice
 rw [Sem.run_bind,Qu (Zc ha)]
 show ((Instr.sliceBounds true n m lv hv mv) >>= fun (l,h,m) => (Go.sizeOf e >>= fun size => pure (Value.slice (if m=l then ao else ao.map (·.add (l*size))) (h - l) (m - l))) : Sem Value).run P w=_
 rw [Sem.run_bind,hbs]
 show (Go.sizeOf e >>= fun size => pure (Value.slice (if k=l then ao else ao.map (·.add (l*size))) (hh - l) (k - l)) : Sem Value).run P w=_
 rw [Sem.run_bind,Zi h6]
 rfl
theorem OpOk.read {rd : List Nat} {y : AV} (hr : ∀ (γ : Nat→Option Nat) (w : World) (a : Act),(∀ x v,ρ x=some v→avOn (cOn E S.K γ w) v (a.eval x))→(∀ x ∈ h,x.1 ∈ rd→boxOn E S.K γ w x)→∃ q,(execOp a.eval o).run S.P w=.ok (.value q) w∧avOn (cOn E S.K γ w) y q) :
  OpOk S E w0 h nx ρ o { res := some y,rd := rd,wr := [],h := h,nx := nx } :=
 ⟨Nat.le_refl _,(fun b hb => by cases hb),fun x hx => Or.inl hx,fun γ w a Q hi hρ hb _ hlt K hK => by
  obtain ⟨q,e,hq⟩ := hr γ w a hρ fun x hx hd => hb x hx (Or.inl hd)
  unfold Oper.wp
  rw [e]
  refine hK q w γ (Ef.refl hi _ _ YE) (fun y' hy' => by cases hy'; exact hq) fun x hx hw => ?_
  rcases hw with hw | hw
  ·cases hw
  ·dsimp only at hw
   omega⟩
theorem Ac {t : TypeId} {x : Operand} {lo hi mx : Option Operand} {r : OR} (hop : o.op=.slice t x lo hi mx) (hr : (bif mx.isNone then ((ρ x).bind fun v => match DR S.P t v (lo.map ρ) (hi.map ρ) with
   | some y => some (QU h nx y)
   | none => sliceO S.P h nx t v (lo.map ρ) (hi.map ρ)) else (ρ x).bind fun v => (CW S.P t v (lo.map ρ) (hi.map ρ) (mx.map ρ)).map (QU h nx))=some r) : OpOk S E w0 h nx ρ o r := by
 have hexec : ∀ (a : Act) (w : World) (q : Value),(Instr.sliceAt t (a.eval x) (lo.map a.eval) (hi.map a.eval) (mx.map a.eval)).run S.P w=.ok q w→(execOp a.eval o).run S.P w=.ok (.value q) w := fun a w q hq => by
  unfold execOp
  rw [hop]
  exact ZR hq
 cases mx with
 | none =>
  simp only [Option.isNone_none,cond_true,Option.bind_eq_some_iff] at hr
  obtain ⟨v,h1,hr⟩ := hr
  split at hr
  ·rename_i y h2
   cases hr
   exact Nm hop h1 h2
  ·unfold sliceO at hr
   simp only [Option.bind_eq_some_iff,ifO_some,Bool.and_eq_true,Nat.ble_eq,Nat.beq_eq] at hr
   obtain ⟨e,ha,z,h6,p,h3,hh,h4,l,h5,cs,hcs,⟨⟨⟨h7,h8⟩,h9,h10⟩,hz⟩,e'⟩ := hr
   cases e'
   have h9 : p.2.1+l*z < cs.length := by simpa [Nat.blt_eq] using h9
   have h10 : 0 < z := by simpa [Nat.blt_eq] using h10
   refine OpOk.read fun γ w a hρ hb => ?_
   obtain ⟨G,m,hG,hx,hnm,cs0,t',hk,hl⟩ := Mb h3 (hρ x v h1)
   obtain ⟨G',vs,t1,g1,_,⟨us,g2,_⟩,_,g4⟩ := hb (p.1,cs) (ZG hcs) List.mem_cons_self
   rw [hG] at g1
   cases g1
   obtain ⟨e1,e2⟩ := Bk.uniq hk g2
   subst e1 e2
   have hvl : vs.length=cs.length := g4.len
   rw [List.length_append,← hz] at hl
   have hhm : hh≤m := Nat.le_of_mul_le_mul_right (c := z) (by omega) h10
   have hlm : l < m := Nat.lt_of_mul_lt_mul_right (a := z) (by omega)
   have hrun := PN ha h6 (some ⟨G,p.2.1,none⟩) p.2.2.1 m l hh m (UT (w := w) (JB hρ h4) (JB hρ h5) h7 hhm)
   refine ⟨.slice (some ⟨G,p.2.1+l*z,none⟩) (hh - l) (m - l),hexec a w _ ?_,Zp ⟨G,m - l,hG,rfl,by omega,_,_,hk,?_⟩⟩
   ·rw [hx]
    refine hrun.trans ?_
    rw [if_neg (by omega),Option.map_some,YW]
   ·rw [List.length_append,hl]
    have : l*z+(m - l)*z=m*z := by rw [← Nat.add_mul]; congr 1; omega
    omega
 | some mv =>
  simp only [Option.isNone_some,cond_false,Option.bind_eq_some_iff,Option.map_eq_some_iff] at hr
  obtain ⟨v,h1,y,h2,rfl⟩ := hr
  unfold CW at h2
  simp only [Option.bind_eq_some_iff,ifO_some,Bool.and_eq_true,Nat.ble_eq] at h2
  obtain ⟨e,ha,z,h6,p,h3,k,h4,hh,h5,l,h7,⟨⟨⟨q1,q2⟩,q3,q4⟩,q5,q6⟩,e'⟩ := h2
  cases e'
  have q4 : l < k := by simpa [Nat.blt_eq] using q4
  refine OpOk.pure fun γ w a hρ => ?_
  obtain ⟨G,m,hG,hx,hnm,_⟩ := Mb h3 (hρ x v h1)
  have b1 : hi.map a.eval=some (.int .i64 hh) := by
   rcases JB hρ h5 with ⟨q,_⟩ | q
   ·cases hi with
    | none => cases q5
    | some u => cases q
   ·exact q
  have b2 : (some mv).map a.eval=some (.int .i64 k) := by
   rcases JB hρ h4 with ⟨q,_⟩ | q
   ·cases q
   ·exact q
  have hrun := PN ha h6 (some ⟨G,p.2.1,none⟩) p.2.2.1 m l hh k (Sh (w := w) b1 (JB hρ h7) q1 q2 (Nat.le_trans q3 hnm))
  refine ⟨.slice (some ⟨G,p.2.1+l*z,none⟩) (hh - l) (k - l),hexec a w _ ?_,Zp ⟨G,hG,rfl⟩⟩
  rw [hx,b2]
  refine hrun.trans ?_
  rw [if_neg (by omega),Option.map_some,YW]
end
end Cx
/- FLR -/
namespace Go.Proofs.YthhnabccdehmgaaGreatDoor
open Go.RowKit Cx
attribute [local go_sem ↓] Go.wp_at_zero Go.wp_at_succ
theorem Hl (n : Int) (d : Nat) (hd : 0 < d) : flq (mkRat n d)=n / (d : Int) := by
 unfold flq
 generalize hr : mkRat n d=r
 have hd' : d ≠ 0 := by omega
 have hp : (0 : Int) < r.den := by have := r.den_pos; omega
 have hq : (0 : Int) < d := by omega
 have e : r.num*d=n*r.den := by
  have h1 : mkRat n d=mkRat r.num r.den := by rw [hr,Rat.mkRat_self]
  exact ((Rat.mkRat_eq_iff hd' r.den_nz).1 h1).symm
 rw [← Int.mul_ediv_mul_of_pos_left n d hp,← e,Int.mul_comm (d : Int),Int.mul_ediv_mul_of_pos_left _ _ hq]
theorem fl_sga (x y : Int) : sg (decide (x < 0) != decide (y < 0)) x.natAbs*y=x*y.natAbs := by
 by_cases h1 : x < 0 <;> by_cases h2 : y < 0
 ·have e1 : (x.natAbs : Int)=-x := by omega
  have e2 : (y.natAbs : Int)=-y := by omega
  rw [decide_eq_true h1,decide_eq_true h2,e2]
  show (x.natAbs : Int)*y=x*-y
  rw [e1,Int.neg_mul,Int.mul_neg]
 ·have e1 : (x.natAbs : Int)=-x := by omega
  have e2 : (y.natAbs : Int)=y := by omega
  rw [decide_eq_true h1,decide_eq_false h2,e2]
  show -(x.natAbs : Int)*y=x*y
  rw [e1,Int.neg_neg]
 ·have e1 : (x.natAbs : Int)=x := by omega
  have e2 : (y.natAbs : Int)=-y := by omega
  rw [decide_eq_false h1,decide_eq_true h2,e2]
  show -(x.natAbs : Int)*y=x*-y
  rw [e1,Int.neg_mul,Int.mul_neg]
 ·have e1 : (x.natAbs : Int)=x := by omega
  have e2 : (y.natAbs : Int)=y := by omega
  rw [decide_eq_false h1,decide_eq_false h2,e2]
  show (x.natAbs : Int)*y=x*y
  rw [e1]
theorem Lm {a b : Rat} (hb : b ≠ 0) : a / b=mkRat (sg (decide (a.num < 0) != decide (b.num < 0)) (a.num.natAbs*b.den)) (b.num.natAbs*a.den) := by
 have hn : b.num ≠ 0 := fun h => hb (Rat.num_eq_zero.1 h)
 have hy : b.num.natAbs*a.den ≠ 0 := Nat.mul_ne_zero (by omega) a.den_nz
 have key : mkRat (sg (decide (a.num < 0) != decide (b.num < 0)) (a.num.natAbs*b.den)) (b.num.natAbs*a.den)*b=a := by
  conv => lhs; rhs; rw [← Rat.mkRat_self b]
  conv => rhs; rw [← Rat.mkRat_self a]
  rw [Rat.mkRat_mul_mkRat,Rat.mkRat_eq_iff (Nat.mul_ne_zero hy b.den_nz) a.den_nz]
  have e : sg (decide (a.num < 0) != decide (b.num < 0)) (a.num.natAbs*b.den)=sg (decide (a.num < 0) != decide (b.num < 0)) a.num.natAbs*b.den := by
   unfold sg
   split <;> push_cast <;> simp [Int.neg_mul]
  have h := fl_sga a.num b.num
  rw [e]
  push_cast
  generalize sg (decide (a.num < 0) != decide (b.num < 0)) a.num.natAbs=s at *
  have : s*(b.den : Int)*b.num*a.den=(s*b.num)*(b.den*a.den) := by grind
  rw [this,h]
  push_cast
  grind
 rw [← key,Rat.mul_div_cancel hb]
 rw [key]
theorem fl_pos {a b : Rat} (hb : b ≠ 0) (h : (decide (a.num < 0) != decide (b.num < 0))=false) : flq (a / b)=((a.num.natAbs*b.den / (b.num.natAbs*a.den) : Nat) : Int) := by
 have hn : b.num ≠ 0 := fun h => hb (Rat.num_eq_zero.1 h)
 have hy : 0 < b.num.natAbs*a.den := Nat.mul_pos (by omega) a.den_pos
 rw [Lm hb,Hl _ _ hy,h]
 unfold sg
 simp
theorem fl_ndiv (x y : Nat) (hy : 0 < y) : -(x : Int) / (y : Int)=if x % y=0 then -((x / y : Nat) : Int) else -((x / y+1 : Nat) : Int) := by
 have h1 := Nat.div_add_mod x y
 have h2 := Nat.mod_lt x hy
 generalize x / y=q at *
 generalize x % y=r at *
 subst h1
 have hyi : (0 : Int) < y := by omega
 split
 ·rename_i h
  subst h
  rw [Nat.add_zero]
  push_cast
  rw [← Int.mul_neg,Int.mul_ediv_cancel_left _ (by omega)]
 ·rename_i h
  have e : -((y*q+r : Nat) : Int)=((y - r : Nat) : Int)+(y : Int)*(-((q+1 : Nat) : Int)) := by
   rw [Int.ofNat_sub (by omega)]
   push_cast
   grind
  rw [e,Int.add_mul_ediv_left _ _ (by omega),Int.ediv_eq_zero_of_lt (by omega) (by omega),Int.zero_add]
theorem Hx {a b : Rat} (hb : b ≠ 0) (h : (decide (a.num < 0) != decide (b.num < 0))=true) : flq (a / b)=if a.num.natAbs*b.den % (b.num.natAbs*a.den)=0 then -((a.num.natAbs*b.den / (b.num.natAbs*a.den) : Nat) : Int) else -((a.num.natAbs*b.den / (b.num.natAbs*a.den)+1 : Nat) : Int) := by
 have hn : b.num ≠ 0 := fun h => hb (Rat.num_eq_zero.1 h)
 have hy : 0 < b.num.natAbs*a.den := Nat.mul_pos (by omega) a.den_pos
 rw [Lm hb,Hl _ _ hy,h,← fl_ndiv _ _ hy]
 unfold sg
 simp
theorem Ug (vs : Array Value) (w : World) : (callFunc 140 vs).run Tryz.prog w=.ok (.enter 140 vs) w := Zd Tryz.func140 (by kernel_rfl) (by kernel_rfl) vs w
theorem Ma (vs : Array Value) (w : World) : (callFunc 151 vs).run Tryz.prog w=.ok (.enter 151 vs) w := Zd Tryz.func151 (by kernel_rfl) (by kernel_rfl) vs w
theorem Dp {a b : Nat} (s1 : Small a) (s2 : Small b) (hb0 : 0 < b) : Con Tryz.prog Jz 140 [Nt a,Nt b] (Tup [Nt (a / b),Nt (a % b)]) := fun w vs _ h => by
 match vs,h with
 | [va,vb],⟨h0,h1,_⟩ => exact (Ve h0 h1 s1 s2 hb0).mono fun e w' ⟨hb,v1,v2,e1,h1,h2⟩ => ⟨hb,_,e1,[v1,v2],rfl,h1,h2,trivial⟩
theorem con_add {a b : Nat} (s1 : Small a) (s2 : Small b) : Con Tryz.prog Jz 151 [Nt a,Nt b] (Nt (a+b)) := fun w vs _ h => by
 match vs,h with
 | [va,vb],⟨h0,h1,_⟩ => exact (RO h0 h1 s1 s2).mono fun e w' ⟨hb,v,e1,h⟩ => ⟨hb,v,e1,h⟩
theorem Uy {a b c : Nat} (s1 : Small a) (s2 : Small b) (e : a*b=c) : Con Tryz.prog Jz 95 [Nt a,Nt b] (Nt c) := e ▸ Fw s1 s2
theorem Wm (x y : Operand) (a b : Bool) (c : Bool) (h : (a != b)=c) (w : World) : (do eqGuard .neq 4 x y (.bool a) (.bool b); binOp .neq 4 (.bool a) (.bool b) : Sem Value).run Tryz.prog w=.ok (.bool c) w := by
 subst h
 cases a <;> cases b <;> simp [go_sem]
def Ln (n : Nat) : Fact := ⟨fun v _ => ∃ k : Nat,v=.int .i64 k∧(k=0 ↔ n=0),fun _ h => h⟩
section
variable {Q : Exit→Act→World→Prop} {w0 : World} {n : Nat} {tm : List (Nat × Fact)} {bx : List (Nat × TypeId × Fact)} {a0 : Act} {wr : World} {os : List Oper} {pl : List Plan}
theorem Ur {i m : Nat} {o : Oper} {x : Operand} {t e : TypeId} (ho : os[i]? = some o) (hp : pl[i]? = some (.pure (Ln m))) (hw : XJ w0 bx a0 wr os pl o true) (hop : o.op=.call { callee := .builtin .len,args := #[x],argTypes := #[t] })
  (hx : Opn w0 bx a0 wr os pl i o x (Nt m)) (hu : Tryz.prog.underlying t=some (.slice e)) : AStep Tryz.prog Q os a0 (RInv w0 bx a0 wr os pl) i o := Jd ho hp hw fun d τ w hr hd hn => by
 obtain ⟨ao,len,cap,ev,_,_,hz⟩ := QH (hx d τ w hr hd hn)
 refine ⟨.int .i64 (len : Nat),w,?_,Below.refl _ _,len,rfl,hz⟩
 unfold execOp
 rw [hop]
 show (resolve (Qn a0 τ 0 os).eval _ o.type >>= fun d => invoke d.target d.args).run Tryz.prog w=_
 unfold resolve
 show (Builtin.len_ #[t] o.type (#[x].map (Qn a0 τ 0 os).eval) >>= fun v => pure (Next.value v) : Sem Next).run Tryz.prog w=_
 have e4 : (Builtin.len_ #[t] o.type (#[x].map (Qn a0 τ 0 os).eval)).run Tryz.prog w=.ok (.int .i64 (len : Nat)) w := by
  unfold Builtin.len_
  simp only [List.map_toArray,List.map_cons,List.map_nil,ev]
  show (Go.underlying t >>= _ : Sem Value).run _ _=_
  rw [Sem.run_bind,Qu hu]
  rfl
 rw [Sem.run_bind,e4]
 rfl
theorem Od {i m : Nat} {o : Oper} {op : BinOp} {xT yT : TypeId} {x y : Operand} {b : Bool} (ho : os[i]? = some o) (hp : pl[i]? = some (.pure (Jus (.bool b)))) (hw : XJ w0 bx a0 wr os pl o true) (hop : o.op=.binOp op xT x y yT) (hx : Opn w0 bx a0 wr os pl i o x (Ln m)) (hy : Opn w0 bx a0 wr os pl i o y (Jus (.int .i64 0)))
  (hr : ∀ (k : Nat) w,(k=0 ↔ m=0)→(do eqGuard op xT x y (.int .i64 k) (.int .i64 0); binOp op xT (.int .i64 k) (.int .i64 0) : Sem Value).run Tryz.prog w=.ok (.bool b) w) :
  AStep Tryz.prog Q os a0 (RInv w0 bx a0 wr os pl) i o := Jd ho hp hw fun d τ w hri hd hn => by
 obtain ⟨k,hx',hz⟩ := hx d τ w hri hd hn
 have hy' : (Qn a0 τ 0 os).eval y=.int .i64 0 := hy d τ w hri hd hn
 refine ⟨.bool b,w,?_,Below.refl _ _,rfl⟩
 unfold execOp
 rw [hop]
 show (do pure (Next.value (← (do eqGuard op xT x y ((Qn a0 τ 0 os).eval x) ((Qn a0 τ 0 os).eval y); binOp op xT ((Qn a0 τ 0 os).eval x) ((Qn a0 τ 0 os).eval y) : Sem Value))) : Sem Next).run Tryz.prog w=_
 rw [hx',hy']
 have h := hr k w hz
 revert h
 generalize (do eqGuard op xT x y (.int .i64 k) (.int .i64 0); binOp op xT (.int .i64 k) (.int .i64 0) : Sem Value)=s
 intro h
 simp [go_sem,h]
end
theorem Dn {T : TypeId} {x y : Operand} {m : Nat} (hm : m=0) (k : Nat) (w : World) (hz : k=0 ↔ m=0) : (do eqGuard .eql T x y (.int .i64 k) (.int .i64 0); binOp .eql T (.int .i64 k) (.int .i64 0) : Sem Value).run Tryz.prog w=.ok (.bool true) w := by
 have := hz.2 hm
 subst this
 simp [go_sem]
theorem UU {T : TypeId} {x y : Operand} {m : Nat} (hm : ¬ m=0) (k : Nat) (w : World) (hz : k=0 ↔ m=0) : (do eqGuard .eql T x y (.int .i64 k) (.int .i64 0); binOp .eql T (.int .i64 k) (.int .i64 0) : Sem Value).run Tryz.prog w=.ok (.bool false) w := by
 have e : ((k : Int) == 0)=false := by
  rw [beq_eq_false_iff_ne]
  intro e
  exact hm (hz.1 (by omega))
 simp [go_sem,e]
theorem FH {T : TypeId} {x y : Operand} {m : Nat} (hm : m=0) (k : Nat) (w : World) (hz : k=0 ↔ m=0) : (do eqGuard .neq T x y (.int .i64 k) (.int .i64 0); binOp .neq T (.int .i64 k) (.int .i64 0) : Sem Value).run Tryz.prog w=.ok (.bool false) w := by
 have := hz.2 hm
 subst this
 simp [go_sem]
theorem Dl {T : TypeId} {x y : Operand} {m : Nat} (hm : ¬ m=0) (k : Nat) (w : World) (hz : k=0 ↔ m=0) : (do eqGuard .neq T x y (.int .i64 k) (.int .i64 0); binOp .neq T (.int .i64 k) (.int .i64 0) : Sem Value).run Tryz.prog w=.ok (.bool true) w := by
 have e : ((k : Int) != 0)=true := by
  rw [bne_iff_ne]
  intro e
  exact hm (hz.1 (by omega))
 simp [go_sem,e]
theorem Nj (w : World) (ρ : Operand→Value) (_ : All2 w [] (([] : List Operand).map ρ)) : ∃ v,(Instr.build 63 ((#[] : Array (Nat × Operand)).map fun (i,x) => (i,ρ x))).run Tryz.prog w=.ok v w∧(Qv 0).on v w :=
 ⟨.agg #[.bool false,.slice none 0 0,.slice none 0 0],by simp [go_sem],Ci _⟩
theorem GG {a b : Rat} (hb : b.num.natAbs=0) :
  Con Tryz.prog Jz 129 [Qv a,Qv b] (Qv 0) := by
 refine Wh (n := 45) Tryz.func129 rfl rfl (Nat.le_of_ble_eq_true rfl) ?_
 intro w a0 hp S0
 have HPRE : ∀ w',Below w.heap.size w w'→Jz w' := fun _ _ => trivial
 refine wp_seq ?_
 refine QF [.alloc 63 (Qv a),.alloc 63 (Qv b),.alloc 63 (Any)] ⟨S0,by decide +kernel⟩ (by kernel_rfl) (by kernel_rfl) rfl (by kernel_rfl) ?_ ?_
 ·intro C
  refine ASteps.cons ?_ (ASteps.cons ?_ (ASteps.cons ?_ (ASteps.nil)))
  ·exact Jp rfl rfl (Qb rfl) rfl (ZB (by kernel_rfl)) (Qi C 0 (by kernel_rfl) rfl) (Xn (Je _))
  ·exact Jp rfl rfl (Qb rfl) rfl (ZB (by kernel_rfl)) (Qi C 1 (by kernel_rfl) rfl) (Xn (Je _))
  ·exact ZF [.bool false,.slice none 0 0,.slice none 0 0] Uo rfl rfl (Qb rfl) rfl (ZB (by kernel_rfl)) XD (by simp [Ql]) (by kernel_rfl)
 intro γ a1 w1 S1
 replace S1 : AS w 45 [(4,Jus (.pointer (some ⟨γ 2,0,none⟩))),(3,Jus (.pointer (some ⟨γ 1,0,none⟩))),(2,Jus (.pointer (some ⟨γ 0,0,none⟩)))] [(γ 0,63,Qv a),(γ 1,63,Qv b),(γ 2,63,Any)] a1 w1 := cast (by kernel_rfl) (S1.keep [2,3,4])
 generalize γ 0=G1_0 at S1
 generalize γ 1=G1_1 at S1
 generalize γ 2=G1_2 at S1
 clear S0
 refine Qh ?_
 refine wp_seq ?_
 refine wp_seq ?_
 refine QF [.pure (Jus (.pointer (some ⟨G1_1,1,none⟩))),.pure (Nt (b.num.natAbs)),.pure (Ln (b.num.natAbs)),.pure (Bo true)] ⟨S1,by decide +kernel⟩ (by kernel_rfl) (by kernel_rfl) rfl (by kernel_rfl) ?_ ?_
 ·intro C
  refine ASteps.cons ?_ (ASteps.cons ?_ (ASteps.cons ?_ (ASteps.cons ?_ (ASteps.nil))))
  ·exact Qp rfl rfl (Qb rfl) rfl (Qi C 1 (by kernel_rfl) rfl) (ZZ _)
  ·exact QJ (k := 1) rfl rfl rfl (Qb rfl) rfl (Qc C 0 0 rfl rfl rfl rfl rfl rfl) (Qy (by kernel_rfl)) Xj
  ·exact Ur rfl rfl (Qb rfl) rfl (Qc C 1 0 rfl rfl rfl rfl rfl rfl) rfl
  ·exact Od rfl rfl (Qb rfl) rfl (Qc C 2 0 rfl rfl rfl rfl rfl rfl) (QN _) (Dn hb)
 intro γ a2 w2 S2
 replace S2 : AS w 45 [(11,Bo true),(4,Jus (.pointer (some ⟨G1_2,0,none⟩))),(3,Jus (.pointer (some ⟨G1_1,0,none⟩))),(2,Jus (.pointer (some ⟨G1_0,0,none⟩)))] [(G1_0,63,Qv a),(G1_1,63,Qv b),(G1_2,63,Any)] a2 w2 := cast (by kernel_rfl) (S2.keep [2,3,4,11])
 clear S1
 refine Qh ?_
 refine wp_cond_true (S2.val 0 rfl) ?_
 refine wp_seq ?_
 refine QF [.pure (Qv 0),.over 2 (Qv 0)] ⟨S2,by decide +kernel⟩ (by kernel_rfl) (by kernel_rfl) rfl (by kernel_rfl) ?_ ?_
 ·intro C
  refine ASteps.cons ?_ (ASteps.cons ?_ (ASteps.nil))
  ·exact Jt rfl rfl (Qb rfl) rfl Opns.nil Nj
  ·exact XM C (k := 2) rfl rfl rfl (Qb rfl) rfl (Qi C 1 (by kernel_rfl) rfl) (by decide) (YP (by kernel_rfl)) (Qc C 0 0 rfl rfl rfl rfl rfl rfl) (Xx (Je _))
 intro γ a3 w3 S3
 replace S3 : AS w 45 [(4,Jus (.pointer (some ⟨G1_2,0,none⟩))),(3,Jus (.pointer (some ⟨G1_1,0,none⟩))),(2,Jus (.pointer (some ⟨G1_0,0,none⟩)))] [(G1_0,63,Qv a),(G1_1,63,Qv b),(G1_2,63,Qv 0)] a3 w3 := cast (by kernel_rfl) (S3.keep [2,3,4])
 clear S2
 refine Qh ?_
 refine wp_ret ?_
 refine Gq ?_
 exact S3.retCell 0 2 rfl rfl rfl Zk fun v hv => ⟨S3.bel,v,rfl,hv⟩
theorem Ph {a b r : Rat} {X Y : Nat} (s1 : Small a.num.natAbs) (s2 : Small b.den) (s3 : Small b.num.natAbs) (s4 : Small a.den) (sX : Small X) (sY : Small Y) (hX : a.num.natAbs*b.den=X) (hY0 : b.num.natAbs*a.den=Y) (hY : 0 < Y) (hb : ¬ b.num.natAbs=0) (hn : (decide (a.num < 0) != decide (b.num < 0))=false) (hr : fr false (X / Y) 1 (by decide) (Nat.coprime_one_right _)=r) :
  Con Tryz.prog Jz 129 [Qv a,Qv b] (Qv r) := by
 refine Wh (n := 45) Tryz.func129 rfl rfl (Nat.le_of_ble_eq_true rfl) ?_
 intro w a0 hp S0
 have HPRE : ∀ w',Below w.heap.size w w'→Jz w' := fun _ _ => trivial
 refine wp_seq ?_
 refine QF [.alloc 63 (Qv a),.alloc 63 (Qv b),.alloc 63 (Any)] ⟨S0,by decide +kernel⟩ (by kernel_rfl) (by kernel_rfl) rfl (by kernel_rfl) ?_ ?_
 ·intro C
  refine ASteps.cons ?_ (ASteps.cons ?_ (ASteps.cons ?_ (ASteps.nil)))
  ·exact Jp rfl rfl (Qb rfl) rfl (ZB (by kernel_rfl)) (Qi C 0 (by kernel_rfl) rfl) (Xn (Je _))
  ·exact Jp rfl rfl (Qb rfl) rfl (ZB (by kernel_rfl)) (Qi C 1 (by kernel_rfl) rfl) (Xn (Je _))
  ·exact ZF [.bool false,.slice none 0 0,.slice none 0 0] Uo rfl rfl (Qb rfl) rfl (ZB (by kernel_rfl)) XD (by simp [Ql]) (by kernel_rfl)
 intro γ a1 w1 S1
 replace S1 : AS w 45 [(4,Jus (.pointer (some ⟨γ 2,0,none⟩))),(3,Jus (.pointer (some ⟨γ 1,0,none⟩))),(2,Jus (.pointer (some ⟨γ 0,0,none⟩)))] [(γ 0,63,Qv a),(γ 1,63,Qv b),(γ 2,63,Any)] a1 w1 := cast (by kernel_rfl) (S1.keep [2,3,4])
 generalize γ 0=G1_0 at S1
 generalize γ 1=G1_1 at S1
 generalize γ 2=G1_2 at S1
 clear S0
 refine Qh ?_
 refine wp_seq ?_
 refine wp_seq ?_
 refine QF [.pure (Jus (.pointer (some ⟨G1_1,1,none⟩))),.pure (Nt (b.num.natAbs)),.pure (Ln (b.num.natAbs)),.pure (Bo false)] ⟨S1,by decide +kernel⟩ (by kernel_rfl) (by kernel_rfl) rfl (by kernel_rfl) ?_ ?_
 ·intro C
  refine ASteps.cons ?_ (ASteps.cons ?_ (ASteps.cons ?_ (ASteps.cons ?_ (ASteps.nil))))
  ·exact Qp rfl rfl (Qb rfl) rfl (Qi C 1 (by kernel_rfl) rfl) (ZZ _)
  ·exact QJ (k := 1) rfl rfl rfl (Qb rfl) rfl (Qc C 0 0 rfl rfl rfl rfl rfl rfl) (Qy (by kernel_rfl)) Xj
  ·exact Ur rfl rfl (Qb rfl) rfl (Qc C 1 0 rfl rfl rfl rfl rfl rfl) rfl
  ·exact Od rfl rfl (Qb rfl) rfl (Qc C 2 0 rfl rfl rfl rfl rfl rfl) (QN _) (UU hb)
 intro γ a2 w2 S2
 replace S2 : AS w 45 [(11,Bo false),(4,Jus (.pointer (some ⟨G1_2,0,none⟩))),(3,Jus (.pointer (some ⟨G1_1,0,none⟩))),(2,Jus (.pointer (some ⟨G1_0,0,none⟩)))] [(G1_0,63,Qv a),(G1_1,63,Qv b),(G1_2,63,Any)] a2 w2 := cast (by kernel_rfl) (S2.keep [2,3,4,11])
 clear S1
 refine Qh ?_
 refine wp_cond_false (S2.val 0 rfl) ?_
 refine wp_skip ?_
 refine Qh ?_
 refine wp_seq ?_
 refine QF [.pure (Jus (.pointer (some ⟨G1_0,0,none⟩))),.pure (Bo (decide (a.num < 0))),.pure (Jus (.pointer (some ⟨G1_1,0,none⟩))),.pure (Bo (decide (b.num < 0))),.pure (Bo false),.pure (Bo false)] ⟨S2,by decide +kernel⟩ (by kernel_rfl) (by kernel_rfl) rfl (by kernel_rfl) ?_ ?_
 ·intro C
  refine ASteps.cons ?_ (ASteps.cons ?_ (ASteps.cons ?_ (ASteps.cons ?_ (ASteps.cons ?_ (ASteps.cons ?_ (ASteps.nil))))))
  ·exact Qp rfl rfl (Qb rfl) rfl (Qi C 3 (by kernel_rfl) rfl) (Yu _)
  ·exact QJ (k := 0) rfl rfl rfl (Qb rfl) rfl (Qc C 0 0 rfl rfl rfl rfl rfl rfl) (Qy (by kernel_rfl)) Wf
  ·exact Qp rfl rfl (Qb rfl) rfl (Qi C 2 (by kernel_rfl) rfl) (Yu _)
  ·exact QJ (k := 1) rfl rfl rfl (Qb rfl) rfl (Qc C 2 0 rfl rfl rfl rfl rfl rfl) (Qy (by kernel_rfl)) Wf
  ·exact YH rfl rfl (Qb rfl) rfl (Qc C 1 0 rfl rfl rfl rfl rfl rfl) (Qc C 3 1 rfl rfl rfl rfl rfl rfl) (Wm _ _ _ _ _ hn)
  ·exact Qr rfl rfl (Qb rfl) rfl (Qc C 4 0 rfl rfl rfl rfl rfl rfl)
 intro γ a3 w3 S3
 replace S3 : AS w 45 [(5,Bo false),(4,Jus (.pointer (some ⟨G1_2,0,none⟩))),(3,Jus (.pointer (some ⟨G1_1,0,none⟩))),(2,Jus (.pointer (some ⟨G1_0,0,none⟩)))] [(G1_0,63,Qv a),(G1_1,63,Qv b),(G1_2,63,Any)] a3 w3 := cast (by kernel_rfl) (S3.keep [2,3,4,5])
 clear S2
 refine Qh ?_
 refine wp_seq ?_
 refine QF [.pure (Jus (.pointer (some ⟨G1_0,1,none⟩))),.pure (Nt (a.num.natAbs)),.pure (Qv b),.pure (Nt (b.den)),.pure (Nt (X)),.pure (Jus (.pointer (some ⟨G1_1,1,none⟩))),.pure (Nt (b.num.natAbs)),.pure (Qv a),.pure (Nt (a.den)),.pure (Nt (Y)),.pure (Tup [Nt (X / Y),Nt (X % Y)]),.pure (Tup [Nt (X / Y),Nt (X % Y)]),.pure (Nt (X / Y)),.pure (Nt (X % Y)),.pure (Nt (X / Y)),.pure (Nt (X % Y))] ⟨S3,by decide +kernel⟩ (by kernel_rfl) (by kernel_rfl) rfl (by kernel_rfl) ?_ ?_
 ·intro C
  refine ASteps.cons ?_ (ASteps.cons ?_ (ASteps.cons ?_ (ASteps.cons ?_ (ASteps.cons ?_ (ASteps.cons ?_ (ASteps.cons ?_ (ASteps.cons ?_ (ASteps.cons ?_ (ASteps.cons ?_ (ASteps.cons ?_ (ASteps.cons ?_ (ASteps.cons ?_ (ASteps.cons ?_ (ASteps.cons ?_ (ASteps.cons ?_ (ASteps.nil))))))))))))))))
  ·exact Qp rfl rfl (Qb rfl) rfl (Qi C 3 (by kernel_rfl) rfl) (ZZ _)
  ·exact QJ (k := 0) rfl rfl rfl (Qb rfl) rfl (Qc C 0 0 rfl rfl rfl rfl rfl rfl) (Qy (by kernel_rfl)) Xj
  ·exact QX (k := 1) rfl rfl rfl (Qb rfl) rfl (Qi C 2 (by kernel_rfl) rfl) (Qy (by kernel_rfl)) Zk
  ·exact Qj HPRE rfl rfl (Qb rfl) rfl Zv (Opns.cons (Qc C 2 0 rfl rfl rfl rfl rfl rfl) Opns.nil) (Xq)
  ·exact Qj HPRE rfl rfl (Qb rfl) rfl Zz (Opns.cons (Qc C 1 0 rfl rfl rfl rfl rfl rfl) (Opns.cons (Qc C 3 1 rfl rfl rfl rfl rfl rfl) Opns.nil)) ((Uy s1 s2 hX))
  ·exact Qp rfl rfl (Qb rfl) rfl (Qi C 2 (by kernel_rfl) rfl) (ZZ _)
  ·exact QJ (k := 1) rfl rfl rfl (Qb rfl) rfl (Qc C 5 0 rfl rfl rfl rfl rfl rfl) (Qy (by kernel_rfl)) Xj
  ·exact QX (k := 0) rfl rfl rfl (Qb rfl) rfl (Qi C 3 (by kernel_rfl) rfl) (Qy (by kernel_rfl)) Zk
  ·exact Qj HPRE rfl rfl (Qb rfl) rfl Zv (Opns.cons (Qc C 7 0 rfl rfl rfl rfl rfl rfl) Opns.nil) (Xq)
  ·exact Qj HPRE rfl rfl (Qb rfl) rfl Zz (Opns.cons (Qc C 6 0 rfl rfl rfl rfl rfl rfl) (Opns.cons (Qc C 8 1 rfl rfl rfl rfl rfl rfl) Opns.nil)) ((Uy s3 s4 hY0))
  ·exact Qj HPRE rfl rfl (Qb rfl) rfl Ug (Opns.cons (Qc C 4 0 rfl rfl rfl rfl rfl rfl) (Opns.cons (Qc C 9 1 rfl rfl rfl rfl rfl rfl) Opns.nil)) ((Dp sX sY hY))
  ·exact Qk rfl rfl (Qb rfl) rfl (Qc C 10 0 rfl rfl rfl rfl rfl rfl)
  ·exact Jk (k := 0) rfl rfl (Qb rfl) rfl (Qc C 11 0 rfl rfl rfl rfl rfl rfl) rfl
  ·exact Jk (k := 1) rfl rfl (Qb rfl) rfl (Qc C 11 0 rfl rfl rfl rfl rfl rfl) rfl
  ·exact Qr rfl rfl (Qb rfl) rfl (Qc C 12 0 rfl rfl rfl rfl rfl rfl)
  ·exact Qr rfl rfl (Qb rfl) rfl (Qc C 13 0 rfl rfl rfl rfl rfl rfl)
 intro γ a4 w4 S4
 replace S4 : AS w 45 [(7,Nt (X % Y)),(6,Nt (X / Y)),(5,Bo false),(4,Jus (.pointer (some ⟨G1_2,0,none⟩)))] [(G1_0,63,Qv a),(G1_1,63,Qv b),(G1_2,63,Any)] a4 w4 := cast (by kernel_rfl) (S4.keep [4,5,6,7])
 clear S3
 refine Qh ?_
 refine wp_seq ?_
 refine wp_seq ?_
 refine QF [.pure (Bo false),.pure (Bo false),.skip,.skip,.skip,.pure (Bo false)] ⟨S4,by decide +kernel⟩ (by kernel_rfl) (by kernel_rfl) rfl (by kernel_rfl) ?_ ?_
 ·intro C
  refine ASteps.cons ?_ (ASteps.cons ?_ (ASteps.cons ?_ (ASteps.cons ?_ (ASteps.cons ?_ (ASteps.cons ?_ (ASteps.nil))))))
  ·exact Qk rfl rfl (Qb rfl) rfl (Qi C 2 (by kernel_rfl) rfl)
  ·exact Qk rfl rfl (Qb rfl) rfl (Qc C 0 0 rfl rfl rfl rfl rfl rfl)
  ·exact Rp rfl rfl (FF C 1 0 true false rfl rfl rfl rfl rfl rfl rfl rfl)
  ·exact Rp rfl rfl (FF C 1 1 true false rfl rfl rfl rfl rfl rfl rfl rfl)
  ·exact Rp rfl rfl (FF C 1 1 true false rfl rfl rfl rfl rfl rfl rfl rfl)
  ·exact XQ false rfl rfl (Qb rfl) rfl (Qc C 1 0 rfl rfl rfl rfl rfl rfl) (QN _)
 intro γ a5 w5 S5
 replace S5 : AS w 45 [(37,Bo false),(6,Nt (X / Y)),(5,Bo false),(4,Jus (.pointer (some ⟨G1_2,0,none⟩)))] [(G1_0,63,Qv a),(G1_1,63,Qv b),(G1_2,63,Any)] a5 w5 := cast (by kernel_rfl) (S5.keep [4,5,6,37])
 clear S4
 refine Qh ?_
 refine wp_cond_false (S5.val 0 rfl) ?_
 refine wp_skip ?_
 refine Qh ?_
 refine wp_seq ?_
 refine QF [.pure (Bo false),.pure (Nt (X / Y)),.pure (Nt (1)),.pure (Qv r),.over 2 (Qv r)] ⟨S5,by decide +kernel⟩ (by kernel_rfl) (by kernel_rfl) rfl (by kernel_rfl) ?_ ?_
 ·intro C
  refine ASteps.cons ?_ (ASteps.cons ?_ (ASteps.cons ?_ (ASteps.cons ?_ (ASteps.cons ?_ (ASteps.nil)))))
  ·exact Qk rfl rfl (Qb rfl) rfl (Qi C 2 (by kernel_rfl) rfl)
  ·exact Qk rfl rfl (Qb rfl) rfl (Qi C 1 (by kernel_rfl) rfl)
  ·exact Qj HPRE rfl rfl (Qb rfl) rfl Yo Opns.nil (Oq)
  ·exact Qj HPRE rfl rfl (Qb rfl) rfl Yg (Opns.cons (Qc C 0 0 rfl rfl rfl rfl rfl rfl) (Opns.cons (Qc C 1 1 rfl rfl rfl rfl rfl rfl) (Opns.cons (Qc C 2 2 rfl rfl rfl rfl rfl rfl) Opns.nil))) ((UD (by decide) (Nat.coprime_one_right _) hr))
  ·exact XM C (k := 2) rfl rfl rfl (Qb rfl) rfl (Qi C 3 (by kernel_rfl) rfl) (by decide) (YP (by kernel_rfl)) (Qc C 3 0 rfl rfl rfl rfl rfl rfl) (Xx (Je _))
 intro γ a6 w6 S6
 replace S6 : AS w 45 [(4,Jus (.pointer (some ⟨G1_2,0,none⟩)))] [(G1_0,63,Qv a),(G1_1,63,Qv b),(G1_2,63,Qv r)] a6 w6 := cast (by kernel_rfl) (S6.keep [4])
 clear S5
 refine Qh ?_
 refine wp_ret ?_
 exact S6.retCell 0 2 rfl rfl rfl Zk fun v hv => ⟨S6.bel,v,rfl,hv⟩
theorem Kx {a b r : Rat} {X Y : Nat} (s1 : Small a.num.natAbs) (s2 : Small b.den) (s3 : Small b.num.natAbs) (s4 : Small a.den) (sX : Small X) (sY : Small Y) (hX : a.num.natAbs*b.den=X) (hY0 : b.num.natAbs*a.den=Y) (hY : 0 < Y) (hb : ¬ b.num.natAbs=0) (h0 : X % Y=0) (hn : (decide (a.num < 0) != decide (b.num < 0))=true) (hr : fr true (X / Y) 1 (by decide) (Nat.coprime_one_right _)=r) :
  Con Tryz.prog Jz 129 [Qv a,Qv b] (Qv r) := by
 refine Wh (n := 45) Tryz.func129 rfl rfl (Nat.le_of_ble_eq_true rfl) ?_
 intro w a0 hp S0
 have HPRE : ∀ w',Below w.heap.size w w'→Jz w' := fun _ _ => trivial
 refine wp_seq ?_
 refine QF [.alloc 63 (Qv a),.alloc 63 (Qv b),.alloc 63 (Any)] ⟨S0,by decide +kernel⟩ (by kernel_rfl) (by kernel_rfl) rfl (by kernel_rfl) ?_ ?_
 ·intro C
  refine ASteps.cons ?_ (ASteps.cons ?_ (ASteps.cons ?_ (ASteps.nil)))
  ·exact Jp rfl rfl (Qb rfl) rfl (ZB (by kernel_rfl)) (Qi C 0 (by kernel_rfl) rfl) (Xn (Je _))
  ·exact Jp rfl rfl (Qb rfl) rfl (ZB (by kernel_rfl)) (Qi C 1 (by kernel_rfl) rfl) (Xn (Je _))
  ·exact ZF [.bool false,.slice none 0 0,.slice none 0 0] Uo rfl rfl (Qb rfl) rfl (ZB (by kernel_rfl)) XD (by simp [Ql]) (by kernel_rfl)
 intro γ a1 w1 S1
 replace S1 : AS w 45 [(4,Jus (.pointer (some ⟨γ 2,0,none⟩))),(3,Jus (.pointer (some ⟨γ 1,0,none⟩))),(2,Jus (.pointer (some ⟨γ 0,0,none⟩)))] [(γ 0,63,Qv a),(γ 1,63,Qv b),(γ 2,63,Any)] a1 w1 := cast (by kernel_rfl) (S1.keep [2,3,4])
 generalize γ 0=G1_0 at S1
 generalize γ 1=G1_1 at S1
 generalize γ 2=G1_2 at S1
 clear S0
 refine Qh ?_
 refine wp_seq ?_
 refine wp_seq ?_
 refine QF [.pure (Jus (.pointer (some ⟨G1_1,1,none⟩))),.pure (Nt (b.num.natAbs)),.pure (Ln (b.num.natAbs)),.pure (Bo false)] ⟨S1,by decide +kernel⟩ (by kernel_rfl) (by kernel_rfl) rfl (by kernel_rfl) ?_ ?_
 ·intro C
  refine ASteps.cons ?_ (ASteps.cons ?_ (ASteps.cons ?_ (ASteps.cons ?_ (ASteps.nil))))
  ·exact Qp rfl rfl (Qb rfl) rfl (Qi C 1 (by kernel_rfl) rfl) (ZZ _)
  ·exact QJ (k := 1) rfl rfl rfl (Qb rfl) rfl (Qc C 0 0 rfl rfl rfl rfl rfl rfl) (Qy (by kernel_rfl)) Xj
  ·exact Ur rfl rfl (Qb rfl) rfl (Qc C 1 0 rfl rfl rfl rfl rfl rfl) rfl
  ·exact Od rfl rfl (Qb rfl) rfl (Qc C 2 0 rfl rfl rfl rfl rfl rfl) (QN _) (UU hb)
 intro γ a2 w2 S2
 replace S2 : AS w 45 [(11,Bo false),(4,Jus (.pointer (some ⟨G1_2,0,none⟩))),(3,Jus (.pointer (some ⟨G1_1,0,none⟩))),(2,Jus (.pointer (some ⟨G1_0,0,none⟩)))] [(G1_0,63,Qv a),(G1_1,63,Qv b),(G1_2,63,Any)] a2 w2 := cast (by kernel_rfl) (S2.keep [2,3,4,11])
 clear S1
 refine Qh ?_
 refine wp_cond_false (S2.val 0 rfl) ?_
 refine wp_skip ?_
 refine Qh ?_
 refine wp_seq ?_
 refine QF [.pure (Jus (.pointer (some ⟨G1_0,0,none⟩))),.pure (Bo (decide (a.num < 0))),.pure (Jus (.pointer (some ⟨G1_1,0,none⟩))),.pure (Bo (decide (b.num < 0))),.pure (Bo true),.pure (Bo true)] ⟨S2,by decide +kernel⟩ (by kernel_rfl) (by kernel_rfl) rfl (by kernel_rfl) ?_ ?_
 ·intro C
  refine ASteps.cons ?_ (ASteps.cons ?_ (ASteps.cons ?_ (ASteps.cons ?_ (ASteps.cons ?_ (ASteps.cons ?_ (ASteps.nil))))))
  ·exact Qp rfl rfl (Qb rfl) rfl (Qi C 3 (by kernel_rfl) rfl) (Yu _)
  ·exact QJ (k := 0) rfl rfl rfl (Qb rfl) rfl (Qc C 0 0 rfl rfl rfl rfl rfl rfl) (Qy (by kernel_rfl)) Wf
  ·exact Qp rfl rfl (Qb rfl) rfl (Qi C 2 (by kernel_rfl) rfl) (Yu _)
  ·exact QJ (k := 1) rfl rfl rfl (Qb rfl) rfl (Qc C 2 0 rfl rfl rfl rfl rfl rfl) (Qy (by kernel_rfl)) Wf
  ·exact YH rfl rfl (Qb rfl) rfl (Qc C 1 0 rfl rfl rfl rfl rfl rfl) (Qc C 3 1 rfl rfl rfl rfl rfl rfl) (Wm _ _ _ _ _ hn)
  ·exact Qr rfl rfl (Qb rfl) rfl (Qc C 4 0 rfl rfl rfl rfl rfl rfl)
 intro γ a3 w3 S3
 replace S3 : AS w 45 [(5,Bo true),(4,Jus (.pointer (some ⟨G1_2,0,none⟩))),(3,Jus (.pointer (some ⟨G1_1,0,none⟩))),(2,Jus (.pointer (some ⟨G1_0,0,none⟩)))] [(G1_0,63,Qv a),(G1_1,63,Qv b),(G1_2,63,Any)] a3 w3 := cast (by kernel_rfl) (S3.keep [2,3,4,5])
 clear S2
 refine Qh ?_
 refine wp_seq ?_
 refine QF [.pure (Jus (.pointer (some ⟨G1_0,1,none⟩))),.pure (Nt (a.num.natAbs)),.pure (Qv b),.pure (Nt (b.den)),.pure (Nt (X)),.pure (Jus (.pointer (some ⟨G1_1,1,none⟩))),.pure (Nt (b.num.natAbs)),.pure (Qv a),.pure (Nt (a.den)),.pure (Nt (Y)),.pure (Tup [Nt (X / Y),Nt (X % Y)]),.pure (Tup [Nt (X / Y),Nt (X % Y)]),.pure (Nt (X / Y)),.pure (Nt (X % Y)),.pure (Nt (X / Y)),.pure (Nt (X % Y))] ⟨S3,by decide +kernel⟩ (by kernel_rfl) (by kernel_rfl) rfl (by kernel_rfl) ?_ ?_
 ·intro C
  refine ASteps.cons ?_ (ASteps.cons ?_ (ASteps.cons ?_ (ASteps.cons ?_ (ASteps.cons ?_ (ASteps.cons ?_ (ASteps.cons ?_ (ASteps.cons ?_ (ASteps.cons ?_ (ASteps.cons ?_ (ASteps.cons ?_ (ASteps.cons ?_ (ASteps.cons ?_ (ASteps.cons ?_ (ASteps.cons ?_ (ASteps.cons ?_ (ASteps.nil))))))))))))))))
  ·exact Qp rfl rfl (Qb rfl) rfl (Qi C 3 (by kernel_rfl) rfl) (ZZ _)
  ·exact QJ (k := 0) rfl rfl rfl (Qb rfl) rfl (Qc C 0 0 rfl rfl rfl rfl rfl rfl) (Qy (by kernel_rfl)) Xj
  ·exact QX (k := 1) rfl rfl rfl (Qb rfl) rfl (Qi C 2 (by kernel_rfl) rfl) (Qy (by kernel_rfl)) Zk
  ·exact Qj HPRE rfl rfl (Qb rfl) rfl Zv (Opns.cons (Qc C 2 0 rfl rfl rfl rfl rfl rfl) Opns.nil) (Xq)
  ·exact Qj HPRE rfl rfl (Qb rfl) rfl Zz (Opns.cons (Qc C 1 0 rfl rfl rfl rfl rfl rfl) (Opns.cons (Qc C 3 1 rfl rfl rfl rfl rfl rfl) Opns.nil)) ((Uy s1 s2 hX))
  ·exact Qp rfl rfl (Qb rfl) rfl (Qi C 2 (by kernel_rfl) rfl) (ZZ _)
  ·exact QJ (k := 1) rfl rfl rfl (Qb rfl) rfl (Qc C 5 0 rfl rfl rfl rfl rfl rfl) (Qy (by kernel_rfl)) Xj
  ·exact QX (k := 0) rfl rfl rfl (Qb rfl) rfl (Qi C 3 (by kernel_rfl) rfl) (Qy (by kernel_rfl)) Zk
  ·exact Qj HPRE rfl rfl (Qb rfl) rfl Zv (Opns.cons (Qc C 7 0 rfl rfl rfl rfl rfl rfl) Opns.nil) (Xq)
  ·exact Qj HPRE rfl rfl (Qb rfl) rfl Zz (Opns.cons (Qc C 6 0 rfl rfl rfl rfl rfl rfl) (Opns.cons (Qc C 8 1 rfl rfl rfl rfl rfl rfl) Opns.nil)) ((Uy s3 s4 hY0))
  ·exact Qj HPRE rfl rfl (Qb rfl) rfl Ug (Opns.cons (Qc C 4 0 rfl rfl rfl rfl rfl rfl) (Opns.cons (Qc C 9 1 rfl rfl rfl rfl rfl rfl) Opns.nil)) ((Dp sX sY hY))
  ·exact Qk rfl rfl (Qb rfl) rfl (Qc C 10 0 rfl rfl rfl rfl rfl rfl)
  ·exact Jk (k := 0) rfl rfl (Qb rfl) rfl (Qc C 11 0 rfl rfl rfl rfl rfl rfl) rfl
  ·exact Jk (k := 1) rfl rfl (Qb rfl) rfl (Qc C 11 0 rfl rfl rfl rfl rfl rfl) rfl
  ·exact Qr rfl rfl (Qb rfl) rfl (Qc C 12 0 rfl rfl rfl rfl rfl rfl)
  ·exact Qr rfl rfl (Qb rfl) rfl (Qc C 13 0 rfl rfl rfl rfl rfl rfl)
 intro γ a4 w4 S4
 replace S4 : AS w 45 [(7,Nt (X % Y)),(6,Nt (X / Y)),(5,Bo true),(4,Jus (.pointer (some ⟨G1_2,0,none⟩)))] [(G1_0,63,Qv a),(G1_1,63,Qv b),(G1_2,63,Any)] a4 w4 := cast (by kernel_rfl) (S4.keep [4,5,6,7])
 clear S3
 refine Qh ?_
 refine wp_seq ?_
 refine wp_seq ?_
 refine QF [.pure (Bo true),.pure (Bo true),.pure (Nt (X % Y)),.pure (Ln (X % Y)),.pure (Bo false),.pure (Bo false)] ⟨S4,by decide +kernel⟩ (by kernel_rfl) (by kernel_rfl) rfl (by kernel_rfl) ?_ ?_
 ·intro C
  refine ASteps.cons ?_ (ASteps.cons ?_ (ASteps.cons ?_ (ASteps.cons ?_ (ASteps.cons ?_ (ASteps.cons ?_ (ASteps.nil))))))
  ·exact Qk rfl rfl (Qb rfl) rfl (Qi C 2 (by kernel_rfl) rfl)
  ·exact Qk rfl rfl (Qb rfl) rfl (Qc C 0 0 rfl rfl rfl rfl rfl rfl)
  ·exact Qk rfl rfl (Qt C 1 0 true rfl rfl rfl rfl rfl rfl rfl) rfl (Qi C 0 (by kernel_rfl) rfl)
  ·exact Ur rfl rfl (Qt C 1 1 true rfl rfl rfl rfl rfl rfl rfl) rfl (Qc C 2 0 rfl rfl rfl rfl rfl rfl) rfl
  ·exact Od rfl rfl (Qt C 1 1 true rfl rfl rfl rfl rfl rfl rfl) rfl (Qc C 3 0 rfl rfl rfl rfl rfl rfl) (QN _) (FH h0)
  ·exact XQ true rfl rfl (Qb rfl) rfl (Qc C 1 0 rfl rfl rfl rfl rfl rfl) (Qc C 4 1 rfl rfl rfl rfl rfl rfl)
 intro γ a5 w5 S5
 replace S5 : AS w 45 [(37,Bo false),(6,Nt (X / Y)),(5,Bo true),(4,Jus (.pointer (some ⟨G1_2,0,none⟩)))] [(G1_0,63,Qv a),(G1_1,63,Qv b),(G1_2,63,Any)] a5 w5 := cast (by kernel_rfl) (S5.keep [4,5,6,37])
 clear S4
 refine Qh ?_
 refine wp_cond_false (S5.val 0 rfl) ?_
 refine wp_skip ?_
 refine Qh ?_
 refine wp_seq ?_
 refine QF [.pure (Bo true),.pure (Nt (X / Y)),.pure (Nt (1)),.pure (Qv r),.over 2 (Qv r)] ⟨S5,by decide +kernel⟩ (by kernel_rfl) (by kernel_rfl) rfl (by kernel_rfl) ?_ ?_
 ·intro C
  refine ASteps.cons ?_ (ASteps.cons ?_ (ASteps.cons ?_ (ASteps.cons ?_ (ASteps.cons ?_ (ASteps.nil)))))
  ·exact Qk rfl rfl (Qb rfl) rfl (Qi C 2 (by kernel_rfl) rfl)
  ·exact Qk rfl rfl (Qb rfl) rfl (Qi C 1 (by kernel_rfl) rfl)
  ·exact Qj HPRE rfl rfl (Qb rfl) rfl Yo Opns.nil (Oq)
  ·exact Qj HPRE rfl rfl (Qb rfl) rfl Yg (Opns.cons (Qc C 0 0 rfl rfl rfl rfl rfl rfl) (Opns.cons (Qc C 1 1 rfl rfl rfl rfl rfl rfl) (Opns.cons (Qc C 2 2 rfl rfl rfl rfl rfl rfl) Opns.nil))) ((UD (by decide) (Nat.coprime_one_right _) hr))
  ·exact XM C (k := 2) rfl rfl rfl (Qb rfl) rfl (Qi C 3 (by kernel_rfl) rfl) (by decide) (YP (by kernel_rfl)) (Qc C 3 0 rfl rfl rfl rfl rfl rfl) (Xx (Je _))
 intro γ a6 w6 S6
 replace S6 : AS w 45 [(4,Jus (.pointer (some ⟨G1_2,0,none⟩)))] [(G1_0,63,Qv a),(G1_1,63,Qv b),(G1_2,63,Qv r)] a6 w6 := cast (by kernel_rfl) (S6.keep [4])
 clear S5
 refine Qh ?_
 refine wp_ret ?_
 exact S6.retCell 0 2 rfl rfl rfl Zk fun v hv => ⟨S6.bel,v,rfl,hv⟩
theorem Ks {a b r : Rat} {X Y : Nat} (s1 : Small a.num.natAbs) (s2 : Small b.den) (s3 : Small b.num.natAbs) (s4 : Small a.den) (sX : Small X) (sY : Small Y) (hX : a.num.natAbs*b.den=X) (hY0 : b.num.natAbs*a.den=Y) (hY : 0 < Y) (hb : ¬ b.num.natAbs=0) (h0 : ¬ X % Y=0) (sD : Small (X / Y)) (hn : (decide (a.num < 0) != decide (b.num < 0))=true) (hr : fr true (X / Y+1) 1 (by decide) (Nat.coprime_one_right _)=r) :
  Con Tryz.prog Jz 129 [Qv a,Qv b] (Qv r) := by
 refine Wh (n := 45) Tryz.func129 rfl rfl (Nat.le_of_ble_eq_true rfl) ?_
 intro w a0 hp S0
 have HPRE : ∀ w',Below w.heap.size w w'→Jz w' := fun _ _ => trivial
 refine wp_seq ?_
 refine QF [.alloc 63 (Qv a),.alloc 63 (Qv b),.alloc 63 (Any)] ⟨S0,by decide +kernel⟩ (by kernel_rfl) (by kernel_rfl) rfl (by kernel_rfl) ?_ ?_
 ·intro C
  refine ASteps.cons ?_ (ASteps.cons ?_ (ASteps.cons ?_ (ASteps.nil)))
  ·exact Jp rfl rfl (Qb rfl) rfl (ZB (by kernel_rfl)) (Qi C 0 (by kernel_rfl) rfl) (Xn (Je _))
  ·exact Jp rfl rfl (Qb rfl) rfl (ZB (by kernel_rfl)) (Qi C 1 (by kernel_rfl) rfl) (Xn (Je _))
  ·exact ZF [.bool false,.slice none 0 0,.slice none 0 0] Uo rfl rfl (Qb rfl) rfl (ZB (by kernel_rfl)) XD (by simp [Ql]) (by kernel_rfl)
 intro γ a1 w1 S1
 replace S1 : AS w 45 [(4,Jus (.pointer (some ⟨γ 2,0,none⟩))),(3,Jus (.pointer (some ⟨γ 1,0,none⟩))),(2,Jus (.pointer (some ⟨γ 0,0,none⟩)))] [(γ 0,63,Qv a),(γ 1,63,Qv b),(γ 2,63,Any)] a1 w1 := cast (by kernel_rfl) (S1.keep [2,3,4])
 generalize γ 0=G1_0 at S1
 generalize γ 1=G1_1 at S1
 generalize γ 2=G1_2 at S1
 clear S0
 refine Qh ?_
 refine wp_seq ?_
 refine wp_seq ?_
 refine QF [.pure (Jus (.pointer (some ⟨G1_1,1,none⟩))),.pure (Nt (b.num.natAbs)),.pure (Ln (b.num.natAbs)),.pure (Bo false)] ⟨S1,by decide +kernel⟩ (by kernel_rfl) (by kernel_rfl) rfl (by kernel_rfl) ?_ ?_
 ·intro C
  refine ASteps.cons ?_ (ASteps.cons ?_ (ASteps.cons ?_ (ASteps.cons ?_ (ASteps.nil))))
  ·exact Qp rfl rfl (Qb rfl) rfl (Qi C 1 (by kernel_rfl) rfl) (ZZ _)
  ·exact QJ (k := 1) rfl rfl rfl (Qb rfl) rfl (Qc C 0 0 rfl rfl rfl rfl rfl rfl) (Qy (by kernel_rfl)) Xj
  ·exact Ur rfl rfl (Qb rfl) rfl (Qc C 1 0 rfl rfl rfl rfl rfl rfl) rfl
  ·exact Od rfl rfl (Qb rfl) rfl (Qc C 2 0 rfl rfl rfl rfl rfl rfl) (QN _) (UU hb)
 intro γ a2 w2 S2
 replace S2 : AS w 45 [(11,Bo false),(4,Jus (.pointer (some ⟨G1_2,0,none⟩))),(3,Jus (.pointer (some ⟨G1_1,0,none⟩))),(2,Jus (.pointer (some ⟨G1_0,0,none⟩)))] [(G1_0,63,Qv a),(G1_1,63,Qv b),(G1_2,63,Any)] a2 w2 := cast (by kernel_rfl) (S2.keep [2,3,4,11])
 clear S1
 refine Qh ?_
 refine wp_cond_false (S2.val 0 rfl) ?_
 refine wp_skip ?_
 refine Qh ?_
 refine wp_seq ?_
 refine QF [.pure (Jus (.pointer (some ⟨G1_0,0,none⟩))),.pure (Bo (decide (a.num < 0))),.pure (Jus (.pointer (some ⟨G1_1,0,none⟩))),.pure (Bo (decide (b.num < 0))),.pure (Bo true),.pure (Bo true)] ⟨S2,by decide +kernel⟩ (by kernel_rfl) (by kernel_rfl) rfl (by kernel_rfl) ?_ ?_
 ·intro C
  refine ASteps.cons ?_ (ASteps.cons ?_ (ASteps.cons ?_ (ASteps.cons ?_ (ASteps.cons ?_ (ASteps.cons ?_ (ASteps.nil))))))
  ·exact Qp rfl rfl (Qb rfl) rfl (Qi C 3 (by kernel_rfl) rfl) (Yu _)
  ·exact QJ (k := 0) rfl rfl rfl (Qb rfl) rfl (Qc C 0 0 rfl rfl rfl rfl rfl rfl) (Qy (by kernel_rfl)) Wf
  ·exact Qp rfl rfl (Qb rfl) rfl (Qi C 2 (by kernel_rfl) rfl) (Yu _)
  ·exact QJ (k := 1) rfl rfl rfl (Qb rfl) rfl (Qc C 2 0 rfl rfl rfl rfl rfl rfl) (Qy (by kernel_rfl)) Wf
  ·exact YH rfl rfl (Qb rfl) rfl (Qc C 1 0 rfl rfl rfl rfl rfl rfl) (Qc C 3 1 rfl rfl rfl rfl rfl rfl) (Wm _ _ _ _ _ hn)
  ·exact Qr rfl rfl (Qb rfl) rfl (Qc C 4 0 rfl rfl rfl rfl rfl rfl)
 intro γ a3 w3 S3
 replace S3 : AS w 45 [(5,Bo true),(4,Jus (.pointer (some ⟨G1_2,0,none⟩))),(3,Jus (.pointer (some ⟨G1_1,0,none⟩))),(2,Jus (.pointer (some ⟨G1_0,0,none⟩)))] [(G1_0,63,Qv a),(G1_1,63,Qv b),(G1_2,63,Any)] a3 w3 := cast (by kernel_rfl) (S3.keep [2,3,4,5])
 clear S2
 refine Qh ?_
 refine wp_seq ?_
 refine QF [.pure (Jus (.pointer (some ⟨G1_0,1,none⟩))),.pure (Nt (a.num.natAbs)),.pure (Qv b),.pure (Nt (b.den)),.pure (Nt (X)),.pure (Jus (.pointer (some ⟨G1_1,1,none⟩))),.pure (Nt (b.num.natAbs)),.pure (Qv a),.pure (Nt (a.den)),.pure (Nt (Y)),.pure (Tup [Nt (X / Y),Nt (X % Y)]),.pure (Tup [Nt (X / Y),Nt (X % Y)]),.pure (Nt (X / Y)),.pure (Nt (X % Y)),.pure (Nt (X / Y)),.pure (Nt (X % Y))] ⟨S3,by decide +kernel⟩ (by kernel_rfl) (by kernel_rfl) rfl (by kernel_rfl) ?_ ?_
 ·intro C
  refine ASteps.cons ?_ (ASteps.cons ?_ (ASteps.cons ?_ (ASteps.cons ?_ (ASteps.cons ?_ (ASteps.cons ?_ (ASteps.cons ?_ (ASteps.cons ?_ (ASteps.cons ?_ (ASteps.cons ?_ (ASteps.cons ?_ (ASteps.cons ?_ (ASteps.cons ?_ (ASteps.cons ?_ (ASteps.cons ?_ (ASteps.cons ?_ (ASteps.nil))))))))))))))))
  ·exact Qp rfl rfl (Qb rfl) rfl (Qi C 3 (by kernel_rfl) rfl) (ZZ _)
  ·exact QJ (k := 0) rfl rfl rfl (Qb rfl) rfl (Qc C 0 0 rfl rfl rfl rfl rfl rfl) (Qy (by kernel_rfl)) Xj
  ·exact QX (k := 1) rfl rfl rfl (Qb rfl) rfl (Qi C 2 (by kernel_rfl) rfl) (Qy (by kernel_rfl)) Zk
  ·exact Qj HPRE rfl rfl (Qb rfl) rfl Zv (Opns.cons (Qc C 2 0 rfl rfl rfl rfl rfl rfl) Opns.nil) (Xq)
  ·exact Qj HPRE rfl rfl (Qb rfl) rfl Zz (Opns.cons (Qc C 1 0 rfl rfl rfl rfl rfl rfl) (Opns.cons (Qc C 3 1 rfl rfl rfl rfl rfl rfl) Opns.nil)) ((Uy s1 s2 hX))
  ·exact Qp rfl rfl (Qb rfl) rfl (Qi C 2 (by kernel_rfl) rfl) (ZZ _)
  ·exact QJ (k := 1) rfl rfl rfl (Qb rfl) rfl (Qc C 5 0 rfl rfl rfl rfl rfl rfl) (Qy (by kernel_rfl)) Xj
  ·exact QX (k := 0) rfl rfl rfl (Qb rfl) rfl (Qi C 3 (by kernel_rfl) rfl) (Qy (by kernel_rfl)) Zk
  ·exact Qj HPRE rfl rfl (Qb rfl) rfl Zv (Opns.cons (Qc C 7 0 rfl rfl rfl rfl rfl rfl) Opns.nil) (Xq)
  ·exact Qj HPRE rfl rfl (Qb rfl) rfl Zz (Opns.cons (Qc C 6 0 rfl rfl rfl rfl rfl rfl) (Opns.cons (Qc C 8 1 rfl rfl rfl rfl rfl rfl) Opns.nil)) ((Uy s3 s4 hY0))
  ·exact Qj HPRE rfl rfl (Qb rfl) rfl Ug (Opns.cons (Qc C 4 0 rfl rfl rfl rfl rfl rfl) (Opns.cons (Qc C 9 1 rfl rfl rfl rfl rfl rfl) Opns.nil)) ((Dp sX sY hY))
  ·exact Qk rfl rfl (Qb rfl) rfl (Qc C 10 0 rfl rfl rfl rfl rfl rfl)
  ·exact Jk (k := 0) rfl rfl (Qb rfl) rfl (Qc C 11 0 rfl rfl rfl rfl rfl rfl) rfl
  ·exact Jk (k := 1) rfl rfl (Qb rfl) rfl (Qc C 11 0 rfl rfl rfl rfl rfl rfl) rfl
  ·exact Qr rfl rfl (Qb rfl) rfl (Qc C 12 0 rfl rfl rfl rfl rfl rfl)
  ·exact Qr rfl rfl (Qb rfl) rfl (Qc C 13 0 rfl rfl rfl rfl rfl rfl)
 intro γ a4 w4 S4
 replace S4 : AS w 45 [(7,Nt (X % Y)),(6,Nt (X / Y)),(5,Bo true),(4,Jus (.pointer (some ⟨G1_2,0,none⟩)))] [(G1_0,63,Qv a),(G1_1,63,Qv b),(G1_2,63,Any)] a4 w4 := cast (by kernel_rfl) (S4.keep [4,5,6,7])
 clear S3
 refine Qh ?_
 refine wp_seq ?_
 refine wp_seq ?_
 refine QF [.pure (Bo true),.pure (Bo true),.pure (Nt (X % Y)),.pure (Ln (X % Y)),.pure (Bo true),.pure (Bo true)] ⟨S4,by decide +kernel⟩ (by kernel_rfl) (by kernel_rfl) rfl (by kernel_rfl) ?_ ?_
 ·intro C
  refine ASteps.cons ?_ (ASteps.cons ?_ (ASteps.cons ?_ (ASteps.cons ?_ (ASteps.cons ?_ (ASteps.cons ?_ (ASteps.nil))))))
  ·exact Qk rfl rfl (Qb rfl) rfl (Qi C 2 (by kernel_rfl) rfl)
  ·exact Qk rfl rfl (Qb rfl) rfl (Qc C 0 0 rfl rfl rfl rfl rfl rfl)
  ·exact Qk rfl rfl (Qt C 1 0 true rfl rfl rfl rfl rfl rfl rfl) rfl (Qi C 0 (by kernel_rfl) rfl)
  ·exact Ur rfl rfl (Qt C 1 1 true rfl rfl rfl rfl rfl rfl rfl) rfl (Qc C 2 0 rfl rfl rfl rfl rfl rfl) rfl
  ·exact Od rfl rfl (Qt C 1 1 true rfl rfl rfl rfl rfl rfl rfl) rfl (Qc C 3 0 rfl rfl rfl rfl rfl rfl) (QN _) (Dl h0)
  ·exact XQ true rfl rfl (Qb rfl) rfl (Qc C 1 0 rfl rfl rfl rfl rfl rfl) (Qc C 4 1 rfl rfl rfl rfl rfl rfl)
 intro γ a5 w5 S5
 replace S5 : AS w 45 [(37,Bo true),(6,Nt (X / Y)),(5,Bo true),(4,Jus (.pointer (some ⟨G1_2,0,none⟩)))] [(G1_0,63,Qv a),(G1_1,63,Qv b),(G1_2,63,Any)] a5 w5 := cast (by kernel_rfl) (S5.keep [4,5,6,37])
 clear S4
 refine Qh ?_
 refine wp_cond_true (S5.val 0 rfl) ?_
 refine QF [.pure (Nt (X / Y)),.pure (Nt (1)),.pure (Nt (X / Y+1)),.pure (Nt (X / Y+1))] ⟨S5,by decide +kernel⟩ (by kernel_rfl) (by kernel_rfl) rfl (by kernel_rfl) ?_ ?_
 ·intro C
  refine ASteps.cons ?_ (ASteps.cons ?_ (ASteps.cons ?_ (ASteps.cons ?_ (ASteps.nil))))
  ·exact Qk rfl rfl (Qb rfl) rfl (opn_pre C 3 2 1 rfl rfl rfl rfl rfl rfl rfl)
  ·exact Qj HPRE rfl rfl (Qb rfl) rfl Yo Opns.nil (Oq)
  ·exact Qj HPRE rfl rfl (Qb rfl) rfl Ma (Opns.cons (Qc C 0 0 rfl rfl rfl rfl rfl rfl) (Opns.cons (Qc C 1 1 rfl rfl rfl rfl rfl rfl) Opns.nil)) ((con_add sD (ZT sY hY)))
  ·exact Qr rfl rfl (Qb rfl) rfl (Qc C 2 0 rfl rfl rfl rfl rfl rfl)
 intro γ a6 w6 S6
 replace S6 : AS w 45 [(6,Nt (X / Y+1)),(5,Bo true),(4,Jus (.pointer (some ⟨G1_2,0,none⟩)))] [(G1_0,63,Qv a),(G1_1,63,Qv b),(G1_2,63,Any)] a6 w6 := cast (by kernel_rfl) (S6.keep [4,5,6])
 clear S5
 refine Qh ?_
 refine wp_seq ?_
 refine QF [.pure (Bo true),.pure (Nt (X / Y+1)),.pure (Nt (1)),.pure (Qv r),.over 2 (Qv r)] ⟨S6,by decide +kernel⟩ (by kernel_rfl) (by kernel_rfl) rfl (by kernel_rfl) ?_ ?_
 ·intro C
  refine ASteps.cons ?_ (ASteps.cons ?_ (ASteps.cons ?_ (ASteps.cons ?_ (ASteps.cons ?_ (ASteps.nil)))))
  ·exact Qk rfl rfl (Qb rfl) rfl (Qi C 1 (by kernel_rfl) rfl)
  ·exact Qk rfl rfl (Qb rfl) rfl (Qi C 0 (by kernel_rfl) rfl)
  ·exact Qj HPRE rfl rfl (Qb rfl) rfl Yo Opns.nil (Oq)
  ·exact Qj HPRE rfl rfl (Qb rfl) rfl Yg (Opns.cons (Qc C 0 0 rfl rfl rfl rfl rfl rfl) (Opns.cons (Qc C 1 1 rfl rfl rfl rfl rfl rfl) (Opns.cons (Qc C 2 2 rfl rfl rfl rfl rfl rfl) Opns.nil))) ((UD (by decide) (Nat.coprime_one_right _) hr))
  ·exact XM C (k := 2) rfl rfl rfl (Qb rfl) rfl (Qi C 2 (by kernel_rfl) rfl) (by decide) (YP (by kernel_rfl)) (Qc C 3 0 rfl rfl rfl rfl rfl rfl) (Xx (Je _))
 intro γ a7 w7 S7
 replace S7 : AS w 45 [(4,Jus (.pointer (some ⟨G1_2,0,none⟩)))] [(G1_0,63,Qv a),(G1_1,63,Qv b),(G1_2,63,Qv r)] a7 w7 := cast (by kernel_rfl) (S7.keep [4])
 clear S6
 refine Qh ?_
 refine wp_ret ?_
 exact S7.retCell 0 2 rfl rfl rfl Zk fun v hv => ⟨S7.bel,v,rfl,hv⟩
theorem Mf (neg : Bool) (n : Nat) : fr neg n 1 (by decide) (Nat.coprime_one_right _)=((sg neg n : Int) : Rat) := by
 have := OG (neg := neg) (u := n) (l := 1) (hl := by decide) (hc := Nat.coprime_one_right _) (n := sg neg n) (d := 1) (by decide) (by simp)
 rw [this,Rat.mkRat_one]
theorem Fa {w : World} {va vb : Value} {a b : Rat} {k l : Nat} (ha : QV w va a) (hb : QV w vb b) (fa : QS k a) (fb : QS l b) (hk : k+l≤35184372088640) :
  Calls Tryz.prog 129 #[va,vb] w fun e w' => Below w.heap.size w w'∧∃ v,e=.returned v∧QV w' v ((flq (a / b) : Int) : Rat) := by
 by_cases h0 : b.num=0
 ·have e0 : b=0 := Rat.num_eq_zero.1 h0
  have ez : ((flq (a / b) : Int) : Rat)=0 := by rw [e0,Rat.div_def,Rat.inv_zero,Rat.mul_zero]; rfl
  rw [ez]
  exact (GG (a := a) (by rw [h0]; rfl) w [va,vb] trivial ⟨ha,hb,trivial⟩).mono fun e w' ⟨hb,v,e1,h⟩ => ⟨hb,v,e1,h⟩
 ·have hb0 : b ≠ 0 := fun e => h0 (by rw [e]; rfl)
  have hp : 0 < b.num.natAbs*a.den := Nat.mul_pos (by omega) a.den_pos
  have s1 := Qm fa.num (by omega)
  have s2 := Qm fb.den (by omega)
  have s3 := Qm fb.num (by omega)
  have s4 := Qm fa.den (by omega)
  have s5 := ZI fa.num fb.den hk
  have s6 := ZI fb.num fa.den (by omega)
  have fin : ∀ {r : Rat},Con Tryz.prog Jz 129 [Qv a,Qv b] (Qv r)→r=((flq (a / b) : Int) : Rat)→Calls Tryz.prog 129 #[va,vb] w fun e w' => Below w.heap.size w w'∧∃ v,e=.returned v∧QV w' v ((flq (a / b) : Int) : Rat) := fun hc e => by
   refine (hc w [va,vb] trivial ⟨ha,hb,trivial⟩).mono ?_
   rintro e' w' ⟨hb,v,rfl,h⟩
   exact ⟨hb,v,rfl,e ▸ h⟩
  cases hn : (decide (a.num < 0) != decide (b.num < 0)) with
  | false =>
   refine fin (Ph s1 s2 s3 s4 s5 s6 rfl rfl hp (by omega) hn rfl) ?_
   rw [Mf,fl_pos hb0 hn]
   rfl
  | true =>
   by_cases hm : a.num.natAbs*b.den % (b.num.natAbs*a.den)=0
   ·refine fin (Kx s1 s2 s3 s4 s5 s6 rfl rfl hp (by omega) hm hn rfl) ?_
    rw [Mf,Hx hb0 hn,if_pos hm]
    rfl
   ·refine fin (Ks s1 s2 s3 s4 s5 s6 rfl rfl hp (by omega) hm (ZT s5 (Nat.div_le_self _ _)) hn rfl) ?_
    rw [Mf,Hx hb0 hn,if_neg hm]
    rfl
end Go.Proofs.YthhnabccdehmgaaGreatDoor
/- ZWL -/
namespace Cx
open Go
def OK (k : Nat) (o : Oper) : Oper := { o with after := ((o.after.toList.filter fun e => Nat.ble k e.on).map fun e => { e with on := e.on - k }).toArray }
theorem IF {P : Program} {ops : Array Oper} {Q : Exit→Act→World→Prop} (k : Nat) : ∀ (l : List Oper),wpList P ops Q (l.map (OK k))=wpList P ops Q l
 | [] => rfl
 | o :: l => by
  funext a w
  show (if Region.wanted (OK k o) (yielded ops a.tmps) then (OK k o).wp P a w (wpList P ops Q (l.map (OK k))) Q ∨ ((OK k o).asks P a w∧LetsOut Q) else wpList P ops Q (l.map (OK k)) (a.put o.dst undef) w)=_
  rw [IF k l]
  rfl
theorem Gt {P : Program} {ops ops' : Array Oper} {Q : Exit→Act→World→Prop} : ∀ {l : List Oper},(∀ o ∈ l,o.guard=none)→wpList P ops Q l=wpList P ops' Q l
 | [],_ => rfl
 | o :: l,h => by
  funext a w
  have e : ∀ y,Region.wanted o y=true := fun y => by
   unfold Region.wanted
   rw [h o List.mem_cons_self]
  have ih : wpList P ops Q l=wpList P ops' Q l := Gt fun o ho => h o (List.mem_cons_of_mem _ ho)
  unfold wpList
  rw [ih]
  simp only [e,if_true]
theorem Ho {P : Program} {o : Oper} {a : Act} {w : World} {K K' : Act→World→Prop} {Q : Exit→Act→World→Prop} : o.wp P a w K (Exit.then K' Q)=o.wp P a w K Q := by
 unfold Oper.wp
 cases (execOp a.eval o).run P w with
 | ok r w' =>
  cases r with
  | enter f args =>
   show Calls P f args w' _=Calls P f args w' _
   congr 1
  | _ => rfl
 | halt h w' => cases h <;> rfl
theorem WW {P : Program} {ops : Array Oper} {Q : Exit→Act→World→Prop} {l2 : List Oper} : ∀ {l1 : List Oper},wpList P ops (Exit.then (wpList P ops Q l2) Q) l1=wpList P ops Q (l1 ++ l2)
 | [] => rfl
 | o :: l1 => by
  funext a w
  show (if Region.wanted o (yielded ops a.tmps) then o.wp P a w (wpList P ops (Exit.then (wpList P ops Q l2) Q) l1) (Exit.then (wpList P ops Q l2) Q) ∨ (o.asks P a w∧LetsOut (Exit.then (wpList P ops Q l2) Q)) else wpList P ops (Exit.then (wpList P ops Q l2) Q) l1 (a.put o.dst undef) w)=_
  rw [WW (l1 := l1),Ho]
  rfl
theorem Io {P : Program} {Q : Exit→Act→World→Prop} {os : List Oper} {id : Nat} {a : Act} {w : World} (k : Nat) (h : wpList P os.toArray (Exit.then (wpList P os.toArray Q (os.drop k)) Q) (os.take k) a w) : (Code.region id os.toArray false).wp P Q a w := by
 rw [WW,List.take_append_drop] at h
 exact wp_region_lit h
theorem Xy {P : Program} {Q : Exit→Act→World→Prop} {ops : Array Oper} {os : List Oper} {a : Act} {w : World} (k : Nat) (h : wpList P ops (Exit.then (wpList P ops Q (os.drop k)) Q) (os.take k) a w) : wpList P ops Q os a w := by
 rw [WW,List.take_append_drop] at h
 exact h
theorem Zr {P : Program} {Q : Exit→Act→World→Prop} {ops : Array Oper} {os : List Oper} {a : Act} {w : World} (k : Nat) (h : wpList P ops Q (os.map (OK k)) a w) : wpList P ops Q os a w := by
 rw [IF] at h
 exact h
end Cx
namespace Go.Proofs.YthhnabccdehmgaaGreatDoor
open Go.RowKit Cx
section
variable {P : Program} {Q : Exit→Act→World→Prop} {w0 : World} {n : Nat} {tm : List (Nat × Fact)} {bx : List (Nat × TypeId × Fact)} {a0 : Act} {wr : World} {os : List Oper}
theorem ZD {ops : Array Oper} (pl : List Plan) (C : RC w0 n tm bx a0 wr os) (hg : os.all (fun o => o.guard.isNone)=true) (ht : topoOps 0 os=true)
  (hlen : pl.length=os.length) (hbd : os.all (fun o => match o.dst with | some t => Nat.blt t n | none => true)=true)
  (hs : RC w0 n tm bx a0 wr os→ASteps P Q os a0 (RInv w0 bx a0 wr os pl) 0 os)
  (hd : ∀ (γ : Nat→Nat) (a : Act) (w : World),Grows wr w→AS w0 n (Ou γ 0 os pl tm) (XX pl 0 bx ++ UC γ pl 0 pl) a w→Q .normal a w) : wpList P ops Q os a0 wr := by
 have hno : ∀ o ∈ os,o.guard=none := fun o ho => by
  have := List.all_eq_true.1 hg o ho
  simpa using this
 have h := RY C.nd ht (hs C).ops (fun d τ w hall hr => by
  obtain ⟨γ,h⟩ := hr.done C.has hall hlen (fun o ho t ht => by
   have := List.all_eq_true.1 hbd o ho
   rw [ht] at this
   simpa using this)
  exact hd γ _ w hr.gro h) os.length 0 (Jb a0 os) wr (by omega) (by
   have e : (fun j : Nat => j < 0)=(fun _ : Nat => False) := by
    funext j
    apply propext
    simp
   rw [e]
   exact RInv.init C.has (Below.refl _ _))
 rw [Um a0 os os 0 (fun k => by rw [Nat.zero_add])] at h
 rw [wpOps_eq_wpList os 0 (by simp)] at h
 rw [Gt (ops' := os.toArray) hno]
 exact h
end
theorem AS.put {w0 : World} {n : Nat} {tm tm' : List (Nat × Fact)} {bx bx' : List (Nat × TypeId × Fact)} {a : Act} {w w' : World} {t : Tmp} {v : Value} {F : Fact} (h : AS w0 n tm bx a w) (ht : t < n) (hb : Below w0.heap.size w0 w') (hF : F.on v w') (hne : ∀ x ∈ tm',x.1 ≠ t) (htm : ∀ u G,(u,G) ∈ tm'→G.on (a.tmps.getD u undef) w')
  (hbx : ∀ (k G : Nat) (t : TypeId) (Fs : Fact),bx'[k]? = some (G,t,Fs)→w0.heap.size≤G∧BoxIs w' G t Fs) (hnd : (bx'.map (·.1)).Nodup) : AS w0 n ((t,F) :: tm') bx' (a.put (some t) v) w' where
 bel := hb
 siz := by show (a.tmps.setIfInBounds t v).size=n; rw [Array.size_setIfInBounds]; exact h.siz
 nod := h.nod
 tmp := fun u G hm => by
  rcases List.mem_cons.1 hm with e | hm
  ·cases e
   rw [KE a v (by rw [h.siz]; exact ht)]
   exact hF
  ·rw [Kc a v (fun e => hne _ hm (Option.some.inj e).symm)]
   exact htm u G hm
 box := hbx
 dis := hnd
theorem QL {P : Program} {ops : Array Oper} {Q : Exit→Act→World→Prop} {rest : List Oper} {o : Oper} {a : Act} {w : World} {f : FuncId} {xs : Array Operand} {ats : Array TypeId} (hgd : o.guard=none) (hop : o.op=.call { callee := .value (.func f),args := xs,argTypes := ats })
  (hen : ∀ (vs : Array Value) (w : World),(callFunc f vs).run P w=.ok (.enter f vs) w)
  (hc : Calls P f (xs.map a.eval) w fun e w' => ∃ v,e=.returned v∧wpList P ops Q rest (a.put o.dst v) w') : wpList P ops Q (o :: rest) a w := by
 refine wpList_plain hgd fun K hK => ?_
 have e : (execOp a.eval o).run P w=.ok (.enter f (xs.map a.eval)) w := by
  obtain ⟨dst,op,ty,pos,after,guard⟩ := o
  cases hop
  have em : xs.map a.eval=#[] ++ xs.map a.eval ++ #[] := by simp
  rw [execOp_call_go,hen,← em]
 unfold Oper.wp
 rw [e]
 refine Calls.mono hc ?_
 rintro _ w' ⟨v,rfl,h⟩
 exact hK _ _ h
section
variable {P : Program} {Q : Exit→Act→World→Prop} {w0 : World} {n : Nat} {tm : List (Nat × Fact)} {bx : List (Nat × TypeId × Fact)} {a0 : Act} {wr : World} {os : List Oper} {pl : List Plan}
end
end Go.Proofs.YthhnabccdehmgaaGreatDoor
/- VL -/
namespace Cx
open Go Go.RowKit
theorem Wr {nb : List Nat} {E : Ev nb} {K : List (FuncId × List AC)} {γ : Nat→Option Nat} {w : World} {d d' : Nat} : ∀ {cs : List AC} {vs : List Value},CD cs=true→A2 (QT E K γ w d) cs vs→A2 (QT E K γ w d') cs vs
 | [],[],_,_ => trivial
 | [],_ :: _,_,h => h.elim
 | _ :: _,[],_,h => h.elim
 | .inl u :: cs,v :: vs,hn,⟨h1,h2⟩ => by
  refine ⟨?_,Wr hn h2⟩
  unfold QT at h1 ⊢
  exact h1
 | .inr (k,a,b,n,c) :: cs,v :: vs,hn,⟨h1,h2⟩ => by
  unfold CD at hn
  rw [Bool.and_eq_true] at hn
  refine ⟨?_,Wr hn.2 h2⟩
  unfold QT at h1 ⊢
  match k,h1,hn.1 with
  | 0,h,_ => exact h
  | 1,h,_ => exact h
  | 2,h,_ => exact h
  | 3,h,_ => exact h
  | 4,h,_ => exact h
  | 5,h,q => simp at q
  | 6,h,_ => exact h
  | 7,h,_ => exact h
  | 8,h,_ => exact h
  | 9,h,_ => exact h
  | 10,h,_ => exact h
  | k+11,h,_ => exact h.elim
theorem Ie {nb : List Nat} {E : Ev nb} {K : List (FuncId × List AC)} {γ : Nat→Option Nat} {w : World} {d : Nat} : ∀ {cs : List AC} {vs : List Value},Da K cs=true→A2 (QT E K γ w (d+2)) cs vs→A2 (QT E K γ w (d+1)) cs vs
 | [],[],_,_ => trivial
 | [],_ :: _,_,h => h.elim
 | _ :: _,[],_,h => h.elim
 | .inl u :: cs,v :: vs,hn,⟨h1,h2⟩ => by
  refine ⟨?_,Ie hn h2⟩
  unfold QT at h1 ⊢
  exact h1
 | .inr (k,a,b,n,c) :: cs,v :: vs,hn,⟨h1,h2⟩ => by
  unfold Da at hn
  rw [Bool.and_eq_true] at hn
  refine ⟨?_,Ie hn.2 h2⟩
  unfold QT at h1 ⊢
  match k,h1,hn.1 with
  | 0,h,_ => exact h
  | 1,h,_ => exact h
  | 2,h,_ => exact h
  | 3,h,_ => exact h
  | 4,h,_ => exact h
  | 5,⟨f,ds,us,g1,g2,g3⟩,q =>
   rw [g1] at q
   exact ⟨f,ds,us,g1,g2,Wr (by simpa using q) g3⟩
  | 6,h,_ => exact h
  | 7,h,_ => exact h
  | 8,h,_ => exact h
  | 9,h,_ => exact h
  | 10,h,_ => exact h
  | k+11,h,_ => exact h.elim
section
variable {S : Sx} {E : Ev S.nb} {w0 : World} {h : List HB} {nx : Nat} {ρ : Operand→Option AV} {o : Oper}
theorem Ch {f : FuncId} {first captured : Array Operand} {r : OR} (hop : o.op=.makeFunc (.func f) first captured) (hr : ifO first.toList.isEmpty ((Jc (fun x => (ρ x).bind asC) captured.toList).bind fun cs =>
   ifO (Da S.K cs) ((Om f cs 0 S.K).map fun i => QU h nx (v1 (.inr (5,i,0,0,0)))))=some r) : OpOk S E w0 h nx ρ o r := by
 simp only [ifO_some,Option.bind_eq_some_iff,Option.map_eq_some_iff] at hr
 obtain ⟨h1,cs,h2,h3,i,h4,rfl⟩ := hr
 refine OpOk.pure fun γ w a hρ => ?_
 have hA := Kg (T := cOn E S.K γ w) (ev := a.eval) h2 (fun x y hy => by
  rw [Option.bind_eq_some_iff] at hy
  obtain ⟨v,e1,e2⟩ := hy
  exact Zg e2 (hρ x v e1))
 obtain ⟨_,hK⟩ := Wb h4
 refine ⟨.func (.func f) #[] (captured.toList.map a.eval).toArray,?_,Zp ⟨f,cs,captured.toList.map a.eval,by simpa using hK,rfl,Ie h3 hA⟩⟩
 have hfirst : first=#[] := by
  have : first.toList=[] := by simpa using h1
  exact Array.toList_eq_nil_iff.1 this
 unfold execOp
 rw [hop]
 refine ZR ?_
 rw [hfirst]
 have e : captured.map a.eval=(captured.toList.map a.eval).toArray := by
  apply Array.ext'
  simp
 show Result.ok (Value.func (.func f) ((#[] : Array Operand).map a.eval) (captured.map a.eval)) w=_
 rw [e,Array.map_empty]
theorem Ki {P : Program} {op : BinOp} {t : TypeId} {x y : Operand} {a b : Int} {v : AV} {γ : Nat→Option Nat} {w : World} (hv : Vl op a b=some v) : ∃ q,(do eqGuard op t x y (.int .i64 a) (.int .i64 b); binOp op t (.int .i64 a) (.int .i64 b) : Sem Value).run P w=.ok q w∧avOn (cOn E S.K γ w) v q := by
 cases op <;> simp only [Vl,ifO_some,Option.some.injEq,reduceCtorEq] at hv
 case add => obtain ⟨h1,rfl⟩ := hv; exact ⟨.int .i64 (a+b),by simp [go_sem,wrap_i64 h1],WU _⟩
 case sub => obtain ⟨h1,rfl⟩ := hv; exact ⟨.int .i64 (a - b),by simp [go_sem,wrap_i64 h1],WU _⟩
 case mul => obtain ⟨h1,rfl⟩ := hv; exact ⟨.int .i64 (a*b),by simp [go_sem,wrap_i64 h1],WU _⟩
 case eql => subst hv; exact ⟨.bool (a == b),by simp [go_sem],Ym _⟩
 case neq => subst hv; exact ⟨.bool (a != b),by simp [go_sem],Ym _⟩
 case lss => subst hv; exact ⟨.bool (decide (a < b)),by simp [go_sem],Ym _⟩
 case leq => subst hv; exact ⟨.bool (decide (a≤b)),by simp [go_sem],Ym _⟩
 case gtr => subst hv; exact ⟨.bool (decide (a > b)),by simp [go_sem],Ym _⟩
 case geq => subst hv; exact ⟨.bool (decide (a ≥ b)),by simp [go_sem],Ym _⟩
 case rem =>
  obtain ⟨h1,rfl⟩ := hv
  simp only [Bool.and_eq_true,Bool.not_eq_true',decide_eq_false_iff_not] at h1
  refine ⟨.int .i64 (a.tmod b),?_,WU _⟩
  have hb : ¬ b=0 := h1.1
  simp [go_sem,hb]
 case quo =>
  obtain ⟨h1,rfl⟩ := hv
  simp only [Bool.and_eq_true,decide_eq_true_eq] at h1
  refine ⟨.int .i64 (a / b),?_,WU _⟩
  have e : a.tdiv b=a / b := Int.tdiv_eq_ediv_of_nonneg h1.1
  have hb : ¬ b=0 := by omega
  simp [go_sem,e,hb,wrap_i64 h1.2.2]
theorem str_run {P : Program} {t : TypeId} {x y : Operand} {a b : ByteArray} (w : World) : (do eqGuard .eql t x y (.string a) (.string b); binOp .eql t (.string a) (.string b) : Sem Value).run P w=.ok (.bool (decide (a=b))) w∧(do eqGuard .neq t x y (.string a) (.string b); binOp .neq t (.string a) (.string b) : Sem Value).run P w=.ok (.bool (!decide (a=b))) w := by
 have e : (a.toList == b.toList)=decide (a=b) := by
  by_cases hab : a=b
  ·subst hab
   simp
  ·have : ¬ a.toList=b.toList := fun q => hab (by
    rw [Go.ByteArray.toList_eq,Go.ByteArray.toList_eq] at q
    exact ByteArray.ext (Array.ext' q))
   simp [this,hab]
 constructor <;> simp [go_sem,binOp,Op.stringOp,e]
theorem Az {P : Program} {t : TypeId} {x y : Operand} {a b : Bool} (ht : DD P t=true) (w : World) : (do eqGuard .eql t x y (.bool a) (.bool b); binOp .eql t (.bool a) (.bool b) : Sem Value).run P w=.ok (.bool (a == b)) w∧(do eqGuard .neq t x y (.bool a) (.bool b); binOp .neq t (.bool a) (.bool b) : Sem Value).run P w=.ok (.bool (a != b)) w := by
 have hu : P.underlying t=some .bool := by
  unfold DD at ht
  split at ht
  ·assumption
  ·cases ht
 have e : (Op.equal t (.bool a) (.bool b)).run P w=.ok (a == b) w := by
  show (Op.equalIn (9999+1) t (.bool a) (.bool b)).run P w=_
  unfold Op.equalIn
  rw [Sem.run_bind,Qu hu]
  rfl
 constructor
 ·show (Op.equal t (.bool a) (.bool b) >>= fun r => pure (Value.bool r) : Sem Value).run P w=_
  rw [Sem.run_bind,e]
  rfl
 ·show (Op.equal t (.bool a) (.bool b) >>= fun r => pure (Value.bool !r) : Sem Value).run P w=_
  rw [Sem.run_bind,e]
  rfl
theorem nil_run {P : Program} {t e : TypeId} {x y : Operand} {v : Option Addr} {n m : Nat} (hu : P.underlying t=some (.slice e)) (w : World) : (do eqGuard .eql t x y (.slice v n m) (.slice none 0 0); binOp .eql t (.slice v n m) (.slice none 0 0) : Sem Value).run P w=.ok (.bool v.isNone) w∧(do eqGuard .neq t x y (.slice v n m) (.slice none 0 0); binOp .neq t (.slice v n m) (.slice none 0 0) : Sem Value).run P w=.ok (.bool !v.isNone) w := by
 have e : (Op.equal t (.slice v n m) (.slice none 0 0)).run P w=.ok v.isNone w := by
  show (Op.equalIn (9999+1) t (.slice v n m) (.slice none 0 0)).run P w=_
  unfold Op.equalIn
  rw [Sem.run_bind,Qu hu]
  cases v <;> rfl
 constructor
 ·show (Op.equal t (.slice v n m) (.slice none 0 0) >>= fun r => pure (Value.bool r) : Sem Value).run P w=_
  rw [Sem.run_bind,e]
  rfl
 ·show (Op.equal t (.slice v n m) (.slice none 0 0) >>= fun r => pure (Value.bool !r) : Sem Value).run P w=_
  rw [Sem.run_bind,e]
  rfl
theorem PT {c : AC} {γ : Nat→Option Nat} {w : World} {v : Value} (h : Gi c=true) (hc : cOn E S.K γ w c v) : v=.pointer none := by
 unfold Gi at h
 split at h
 ·exact hc.1
 ·cases h
theorem ptr_run {P : Program} {t e : TypeId} {x y : Operand} {v : Option Addr} (hu : P.underlying t=some (.pointer e)) (w : World) : (do eqGuard .eql t x y (.pointer v) (.pointer none); binOp .eql t (.pointer v) (.pointer none) : Sem Value).run P w=.ok (.bool v.isNone) w∧(do eqGuard .neq t x y (.pointer v) (.pointer none); binOp .neq t (.pointer v) (.pointer none) : Sem Value).run P w=.ok (.bool !v.isNone) w := by
 have e : (Op.equal t (.pointer v) (.pointer none)).run P w=.ok v.isNone w := by
  show (Op.equalIn (9999+1) t (.pointer v) (.pointer none)).run P w=_
  unfold Op.equalIn
  rw [Sem.run_bind,Qu hu]
  cases v <;> rfl
 constructor
 ·show (Op.equal t (.pointer v) (.pointer none) >>= fun r => pure (Value.bool r) : Sem Value).run P w=_
  rw [Sem.run_bind,e]
  rfl
 ·show (Op.equal t (.pointer v) (.pointer none) >>= fun r => pure (Value.bool !r) : Sem Value).run P w=_
  rw [Sem.run_bind,e]
  rfl
theorem Ew (N : Knows S E) {c d : AC} {r : Bool} {γ : Nat→Option Nat} {w : World} {u v : Value} (hr : txEq S c d=some r) (hc : cOn E S.K γ w c u) (hd : cOn E S.K γ w d v) : ∃ a b : ByteArray,u=.string a∧v=.string b∧r=decide (a=b) := by
 have told : ∀ {c : AC} {a : Nat} {u : Value},JV c=some a→cOn E S.K γ w c u→u=.string (E.tell (E.q a)) := fun {c a u} hh hu => by
  unfold JV at hh
  split at hh
  ·rw [ifO_some,Nat.beq_eq] at hh
   obtain ⟨e1,e2⟩ := hh
   cases e2
   subst e1
   exact hu
  ·cases hh
 have str : ∀ {c : AC} {s : ByteArray} {u : Value},II c=some s→cOn E S.K γ w c u→u=.string s := fun {c s u} hh hu => by
  unfold II at hh
  split at hh
  ·cases hh
   exact hu.1
  ·cases hh
 unfold txEq at hr
 split at hr
 ·rename_i a ha
  have hu := told ha hc
  split at hr
  ·rename_i b hb
   have hv := told hb hd
   refine ⟨_,_,hu,hv,?_⟩
   cases e : Nat.beq a b with
   | true =>
    rw [e] at hr
    cases hr
    rw [Nat.beq_eq] at e
    subst e
    simp
   | false =>
    rw [e] at hr
    simp only [cond_false,Option.map_eq_some_iff] at hr
    obtain ⟨q,h1,rfl⟩ := hr
    have := N.k3 a b q h1
    rw [Bool.eq_iff_iff,this,decide_eq_true_eq]
    exact ⟨fun e => by rw [e],fun e => N.tin _ _ e⟩
  ·rw [Option.bind_eq_some_iff] at hr
   obtain ⟨s,h1,hr⟩ := hr
   have hv := str h1 hd
   refine ⟨_,_,hu,hv,?_⟩
   split at hr
   ·rename_i e
    cases hr
    symm
    rw [decide_eq_false_iff_not]
    intro q
    rw [← q] at e
    exact N.tne _ e
   ·rename_i e
    simp only [Option.bind_eq_some_iff,Option.map_eq_some_iff] at hr
    obtain ⟨b,h2,q,h3,rfl⟩ := hr
    have := N.k4 _ a b q h2 h3
    rw [Bool.eq_iff_iff,this,decide_eq_true_eq]
    exact ⟨fun e => OX e,fun e => by rw [e]⟩
 ·simp only [Option.bind_eq_some_iff,Option.map_eq_some_iff] at hr
  obtain ⟨s,h1,t,h2,rfl⟩ := hr
  refine ⟨_,_,str h1 hc,str h2 hd,?_⟩
  rw [Bool.eq_iff_iff,decide_eq_true_eq]
  exact ⟨fun e => OX (Og e),fun e => by
   rw [e]
   generalize Jv t=l
   induction l with
   | nil => rfl
   | cons x l ih => unfold It; rw [Nat.beq_refl,ih]; rfl⟩
theorem SQ (N : Knows S E) {γ : Nat→Option Nat} {w : World} : ∀ {ar bs : List AC} {r : Bool} {us vs : List Value},Eg S ar bs=some r→A2 (cOn E S.K γ w) ar us→A2 (cOn E S.K γ w) bs vs→∃ ss ts : List ByteArray,us=ss.map Value.string∧vs=ts.map Value.string∧ss.length=ar.length∧ts.length=bs.length∧r=decide (ss=ts)
 | [],[],r,[],[],hr,_,_ => by
  cases hr
  exact ⟨[],[],rfl,rfl,rfl,rfl,by simp⟩
 | a :: ar,b :: bs,r,u :: us,v :: vs,hr,⟨h1,h2⟩,⟨h3,h4⟩ => by
  unfold Eg at hr
  simp only [Option.bind_eq_some_iff,Option.map_eq_some_iff] at hr
  obtain ⟨p,e1,q,e2,rfl⟩ := hr
  obtain ⟨s,t,rfl,rfl,rfl⟩ := Ew N e1 h1 h3
  obtain ⟨ss,ts,rfl,rfl,l1,l2,rfl⟩ := SQ N e2 h2 h4
  refine ⟨s :: ss,t :: ts,rfl,rfl,by simp [l1],by simp [l2],?_⟩
  rw [Bool.eq_iff_iff,Bool.and_eq_true]
  simp
 | [],[],_,_ :: _,_,_,h,_ => h.elim
 | [],[],_,[],_ :: _,_,_,h => h.elim
 | [],_ :: _,_,_,_,hr,_,_ => by cases hr
 | _ :: _,[],_,_,_,hr,_,_ => by cases hr
 | _ :: _,_ :: _,_,[],_,_,h,_ => h.elim
 | _ :: _,_ :: _,_,_ :: _,[],_,_,h => h.elim
theorem sg_on (N : Knows S E) {c : AC} {n : Nat} {γ : Nat→Option Nat} {w : World} {v : Value} (h : acSg c=some n) (hc : cOn E S.K γ w c v) : ∃ c : Int,v=.int .i64 c∧(c=0 ↔ E.q n=0)∧(c < 0 ↔ E.q n < 0) := by
 unfold acSg at h
 split at h
 ·rw [ifO_some,Bool.and_eq_true,Bool.or_eq_true,Nat.beq_eq,Nat.beq_eq,Nat.beq_eq] at h
  obtain ⟨⟨h1,h2⟩,h3⟩ := h
  cases h3
  subst h1
  rcases h2 with h2 | h2
  ·subst h2
   refine ⟨_,(N.x4 _ _ _).1 hc,?_,?_⟩
   ·unfold QM
    split
    ·rename_i hlt
     constructor
     ·intro q; cases q
     ·intro q; rw [q] at hlt; exact absurd hlt (by decide)
    ·split <;> simp_all
   ·unfold QM
    split
    ·simp_all
    ·split <;> simp_all
  ·subst h2
   exact N.x5 _ _ _ hc
 ·cases h
theorem PF (x y : Rat) : (x < 0→y < 0→0 < x*y)∧(x < 0→0 < y→x*y < 0)∧(0 < x→y < 0→x*y < 0)∧(0 < x→0 < y→0 < x*y) := by
 have pp : ∀ {a b : Rat},0 < a→0 < b→0 < a*b := fun ha hb => Rat.mul_pos ha hb
 refine ⟨fun hx hy => ?_,fun hx hy => ?_,fun hx hy => ?_,pp⟩
 ·have := pp (a := -x) (b := -y) (by grind) (by grind)
  grind
 ·have := pp (a := -x) (b := y) (by grind) hy
  grind
 ·have := pp (a := x) (b := -y) hx (by grind)
  grind
theorem LQ (x y : Rat) : QM (x*y)=QM x*QM y := by
 have h := PF x y
 unfold QM
 by_cases hx : x < 0
 ·by_cases hy : y < 0
  ·have := h.1 hx hy
   rw [if_pos hx,if_pos hy,if_neg (by grind),if_neg (by grind)]
   rfl
  ·rw [if_pos hx,if_neg hy]
   by_cases h0 : y=0
   ·rw [if_pos h0,h0,Rat.mul_zero,if_neg (by decide),if_pos rfl]
    rfl
   ·have := h.2.1 hx (by grind)
    rw [if_neg h0,if_pos this]
    rfl
 ·rw [if_neg hx]
  by_cases h0 : x=0
  ·rw [if_pos h0,h0,Rat.zero_mul,if_neg (by decide),if_pos rfl,Int.zero_mul]
  ·rw [if_neg h0,Int.one_mul]
   by_cases hy : y < 0
   ·have := h.2.2.1 (by grind) hy
    rw [if_pos hy,if_pos this]
   ·rw [if_neg hy]
    by_cases h1 : y=0
    ·rw [if_pos h1,h1,Rat.mul_zero,if_neg (by decide),if_pos rfl]
    ·have := h.2.2.2 (by grind) (by grind)
     rw [if_neg h1,if_neg (by grind),if_neg (by grind)]
theorem KG (x : Rat) : -1≤QM x∧QM x≤1 := by
 unfold QM
 split
 ·decide
 ·split <;> decide
theorem sgnB_on (N : Knows S E) {a : Nat} {γ : Nat→Option Nat} {w : World} : avOn (cOn E S.K γ w) (Sq S a) (.int .i64 (QM (E.q a))) := by
 unfold Sq
 split
 ·rename_i e
  have := (N.k5 _ _ e).1 rfl
  rw [show QM (E.q a)=-1 by unfold QM; rw [if_pos this]]
  exact WU _
 ·rename_i e
  have := (N.k5 _ _ e).2.1 rfl
  rw [show QM (E.q a)=0 by unfold QM; rw [this]; decide]
  exact WU _
 ·rename_i e
  have := (N.k5 _ _ e).2.2 rfl
  rw [show QM (E.q a)=1 by unfold QM; rw [if_neg (by grind),if_neg (by grind)]]
  exact WU _
 ·exact Zp ((N.x4 _ _ _).2 rfl)
theorem Ht (x : Rat) : 0≤x*x := by
 rcases Classical.em (x=0) with h | h
 ·rw [h,Rat.zero_mul]; exact Rat.le_refl
 ·have := PF x x
  by_cases g : x < 0
  ·exact Rat.le_of_lt (this.1 g g)
  ·exact Rat.le_of_lt (this.2.2.2 (by grind) (by grind))
theorem AM (N : Knows S E) : ∀ {l : List Nat} {s t : Nat},sqF S s l=some t→0≤E.q s→0≤E.q t∧(E.q t=0 ↔ E.q s=0∧∀ d ∈ l,E.q d=0)
 | [],s,t,h,hs => by
  cases h
  exact ⟨hs,fun e => ⟨e,fun d hd => by cases hd⟩,fun e => e.1⟩
 | a :: l,s,t,h,hs => by
  unfold sqF at h
  simp only [Option.bind_eq_some_iff] at h
  obtain ⟨b,h1,c,h2,h3⟩ := h
  have e1 := N.k7 _ _ _ h1
  have e2 := N.k8 _ _ _ h2
  have n := Ht (E.q a)
  obtain ⟨g1,g2⟩ := AM N h3 (by rw [e2,e1]; grind)
  refine ⟨g1,g2.trans ?_⟩
  rw [e2,e1]
  constructor
  ·rintro ⟨x,z⟩
   have x1 : E.q s=0 := by grind
   have x2 : E.q a*E.q a=0 := by grind
   refine ⟨x1,fun d hd => ?_⟩
   rcases List.mem_cons.1 hd with rfl | hd
   ·rcases Rat.mul_eq_zero.1 x2 with g | g <;> exact g
   ·exact z d hd
  ·rintro ⟨x,y⟩
   refine ⟨by rw [x,y a List.mem_cons_self,Rat.zero_mul]; exact Rat.add_zero 0,fun d hd => y d (List.mem_cons_of_mem _ hd)⟩
theorem sqN_kn (N : Knows S E) {l : List Nat} {s : Nat} (h : sqN S l=some s) : E.q s=0 ↔ ∀ d ∈ l,E.q d=0 := by
 unfold sqN at h
 split at h
 ·cases h
 ·rename_i a l
  rw [Option.bind_eq_some_iff] at h
  obtain ⟨b,h1,h2⟩ := h
  have e1 := N.k7 _ _ _ h1
  obtain ⟨_,g⟩ := AM N h2 (by rw [e1]; exact Ht _)
  rw [g,e1]
  constructor
  ·rintro ⟨x,y⟩ d hd
   rcases List.mem_cons.1 hd with rfl | hd
   ·rcases Rat.mul_eq_zero.1 x with x | x <;> exact x
   ·exact y d hd
  ·intro y
   exact ⟨by rw [y a List.mem_cons_self,Rat.zero_mul],fun d hd => y d (List.mem_cons_of_mem _ hd)⟩
theorem told_on {c : AC} {a : Nat} {γ : Nat→Option Nat} {w : World} {u : Value} (hh : JV c=some a) (hu : cOn E S.K γ w c u) : u=.string (E.tell (E.q a)) := by
 unfold JV at hh
 split at hh
 ·rw [ifO_some,Nat.beq_eq] at hh
  obtain ⟨e1,e2⟩ := hh
  cases e2
  subst e1
  exact hu
 ·cases hh
theorem Gg {γ : Nat→Option Nat} {w : World} : ∀ {ar : List AC} {l : List Nat} {us : List Value},Jc JV ar=some l→A2 (cOn E S.K γ w) ar us→us=(l.map fun a => E.tell (E.q a)).map Value.string∧l.length=ar.length
 | [],l,[],h,_ => by
  cases h
  exact ⟨rfl,rfl⟩
 | c :: ar,l,u :: us,h,⟨h1,h2⟩ => by
  unfold Jc at h
  simp only [Option.bind_eq_some_iff,Option.map_eq_some_iff] at h
  obtain ⟨a,g1,m,g2,rfl⟩ := h
  obtain ⟨e1,e2⟩ := Gg g2 h2
  rw [told_on g1 h1,e1]
  exact ⟨rfl,by simp [e2]⟩
 | [],_,_ :: _,_,h => h.elim
 | _ :: _,_,[],_,h => h.elim
theorem Sf (N : Knows S E) : ∀ {l m ds : List Nat},De S l m=some ds→((∀ d ∈ ds,E.q d=0) ↔ (l.map fun a => E.tell (E.q a))=(m.map fun a => E.tell (E.q a)))
 | [],[],ds,h => by
  cases h
  exact ⟨fun _ => rfl,fun _ d hd => by cases hd⟩
 | a :: l,b :: m,ds,h => by
  unfold De at h
  simp only [Option.bind_eq_some_iff,Option.map_eq_some_iff] at h
  obtain ⟨d,h1,r,h2,rfl⟩ := h
  have e := N.k9 _ _ _ h1
  have ih := Sf N h2
  simp only [List.mem_cons,forall_eq_or_imp,List.map_cons,List.cons.injEq]
  refine and_congr ?_ ih
  constructor
  ·intro z
   rw [show E.q a=E.q b by rw [z] at e; grind]
  ·intro z
   rw [e,N.tin _ _ z]
   grind
 | [],_ :: _,_,h => by cases h
 | _ :: _,[],_,h => by cases h
theorem PG {γ : Nat→Option Nat} {w : World} {c : AC} {a : Nat} {x : Value} (h : JV c=some a) (hc : cOn E S.K γ w c x) : x=.string (E.tell (E.q a)) := by
 unfold JV at h
 split at h
 ·rw [ifO_some,Nat.beq_eq] at h
  obtain ⟨rfl,h2⟩ := h
  cases h2
  exact hc
 ·cases h
theorem Sz {γ : Nat→Option Nat} {w : World} {c : AC} {a : Nat} {x : Value} (h : PM c=some a) (hc : cOn E S.K γ w c x) : x=.string (E.σ a) := by
 unfold PM at h
 split at h
 ·rw [ifO_some,Nat.beq_eq] at h
  obtain ⟨rfl,h2⟩ := h
  cases h2
  exact hc
 ·cases h
theorem Dy : ∀ {l m : List Int},Cp l m=decide (l=m)
 | [],[] => by simp [Cp]
 | a :: l,b :: m => by
  unfold Cp
  rw [Dy (l := l) (m := m)]
  simp [Bool.beq_eq_decide_eq]
 | [],_ :: _ => by simp [Cp]
 | _ :: _,[] => by simp [Cp]
theorem FJ {γ : Nat→Option Nat} {w : World} : ∀ {ar : List AC} {l : List Int} {us : List Value},Jc acI ar=some l→A2 (cOn E S.K γ w) ar us→us=l.map fun (z : Int) => Value.int .i64 z
 | [],l,us,h,hU => by
  cases h
  match us,hU with
  | [],_ => rfl
 | c :: ar,l,us,h,hU => by
  unfold Jc at h
  simp only [Option.bind_eq_some_iff,Option.map_eq_some_iff] at h
  obtain ⟨z,h1,l',h2,rfl⟩ := h
  match us,hU with
  | u :: us,⟨hu,hU⟩ =>
   rw [List.map_cons,← FJ h2 hU]
   congr 1
   unfold acI at h1
   split at h1
   ·cases h1
    exact hu.1
   ·cases h1
theorem Bm (N : Knows S E) {γ : Nat→Option Nat} {w : World} {ar bs : List AC} {r : Bool} {us vs : List Value} (hr : Ea S ar bs=some r) (hU : A2 (cOn E S.K γ w) ar us) (hV : A2 (cOn E S.K γ w) bs vs) : ∃ ss ts : List ByteArray,us=ss.map Value.string∧vs=ts.map Value.string∧ss.length=ar.length∧ts.length=bs.length∧r=decide (ss=ts) := by
 unfold Ea at hr
 split at hr
 ·rename_i r' h
  cases hr
  exact SQ N h hU hV
 split at hr
 ·rename_i r' h
  cases hr
  unfold parEq at h
  split at h
  ·rename_i x y u v
   simp only [Option.bind_eq_some_iff,Option.map_eq_some_iff] at h
   obtain ⟨a,h1,b,h2,i,h3,j,h4,n,h5,rr,h6,rfl⟩ := h
   match us,vs,hU,hV with
   | [p,s],[p',s'],⟨c1,c2,_⟩,⟨d1,d2,_⟩ =>
    refine ⟨[E.tell (E.q a),E.tell (E.q b)],[E.σ i,E.σ j],?_,?_,rfl,rfl,?_⟩
    ·rw [PG h1 c1,PG h2 c2]
     rfl
    ·rw [Sz h3 d1,Sz h4 d2]
     rfl
    ·rw [Bool.eq_iff_iff,N.k0 _ _ h6,N.k10 _ _ _ _ _ h5,decide_eq_true_eq]
     simp
  ·cases h
 ·simp only [Option.bind_eq_some_iff,Option.map_eq_some_iff] at hr
  obtain ⟨l,h1,m,h2,ds,h3,s,h4,rr,h5,rfl⟩ := hr
  obtain ⟨e1,l1⟩ := Gg h1 hU
  obtain ⟨e2,l2⟩ := Gg h2 hV
  refine ⟨_,_,e1,e2,by simp [l1],by simp [l2],?_⟩
  rw [Bool.eq_iff_iff,N.k0 _ _ h5,sqN_kn N h4,Sf N h3,decide_eq_true_eq]
theorem cmp_on (N : Knows S E) {γ : Nat→Option Nat} {w : World} {b : Int} {c : AC} {n : Nat} {v : Value} (h : FO S b c=some n) (hc : cOn E S.K γ w c v) : ∃ sg : Int,v=.int .i64 sg∧(sg=b ↔ E.q n=0)∧(sg < b ↔ E.q n < 0) := by
 unfold FO at h
 split at h
 ·rename_i a ha
  rw [Option.bind_eq_some_iff] at h
  obtain ⟨k,h1,h2⟩ := h
  obtain ⟨m,rfl,hm⟩ := N.x6 _ _ _ (Uh ha hc)
  have e := N.k9 a k n h2
  rw [← hm,N.c0 b k h1] at e
  refine ⟨m,rfl,?_,?_⟩
  ·rw [e]
   constructor
   ·intro q
    rw [q]
    grind
   ·intro q
    have : ((m : Int) : Rat)=((b : Int) : Rat) := by grind
    exact Rat.intCast_inj.1 this
  ·rw [e]
   constructor
   ·intro q
    have := Rat.intCast_lt_intCast.2 q
    grind
   ·intro q
    exact Rat.intCast_lt_intCast.1 (by grind)
 ·simp only [Option.bind_eq_some_iff,ifO_some,decide_eq_true_eq] at h
  obtain ⟨a,h1,rfl,h2⟩ := h
  cases h2
  exact sg_on N h1 hc
theorem op_bin (N : Knows S E) {op : BinOp} {t t' : TypeId} {x y : Operand} {r : OR} (hop : o.op=.binOp op t x y t') (hr : ((ρ x).bind fun a => (ρ y).bind fun b => (binB S op t a b).map (QU h nx))=some r) : OpOk S E w0 h nx ρ o r := by
 simp only [Option.bind_eq_some_iff,Option.map_eq_some_iff] at hr
 obtain ⟨a,h1,b,h2,v,h3,rfl⟩ := hr
 refine OpOk.pure fun γ w ac hρ => ?_
 have hx := hρ x a h1
 have hy := hρ y b h2
 have hexec : ∀ q : Value,(do eqGuard op t x y (ac.eval x) (ac.eval y); binOp op t (ac.eval x) (ac.eval y) : Sem Value).run S.P w=.ok q w→(execOp ac.eval o).run S.P w=.ok (.value q) w := fun q hq => by
  unfold execOp
  rw [hop]
  exact ZR hq
 unfold binB at h3
 split at h3
 ·rename_i zb hb
  have ey := Vy hb hy
  split at h3
  ·rename_i za ha
   have ex := Vy ha hx
   obtain ⟨q,e1,e2⟩ := Ki (S := S) (E := E) (P := S.P) (t := t) (x := x) (y := y) (γ := γ) (w := w) h3
   exact ⟨q,hexec q (by rw [ex,ey]; exact e1),e2⟩
  ·split at h3
   ·rename_i n g1
    rw [Option.bind_eq_some_iff] at g1
    obtain ⟨c,g1,g2⟩ := g1
    simp only [Option.map_eq_some_iff] at h3
    obtain ⟨bb,g3,rfl⟩ := h3
    obtain ⟨sg,ex,zero⟩ := (N.x7 _ _ _).1 (Uh g2 (Zg g1 hx))
    unfold zerOp at g3
    rw [ifO_some,decide_eq_true_eq] at g3
    obtain ⟨rfl,g3⟩ := g3
    have key : ∀ (op' : BinOp) (res : Bool),Vl op' sg 0=some (kB res)→op=op'→∃ q,(execOp ac.eval o).run S.P w=.ok (.value q) w∧avOn (cOn E S.K γ w) (kB res) q := fun op' res hi he => by
     subst he
     obtain ⟨q,e1,e2⟩ := Ki (S := S) (E := E) (P := S.P) (t := t) (x := x) (y := y) (γ := γ) (w := w) hi
     exact ⟨q,hexec q (by rw [ex,ey]; exact e1),e2⟩
    split at g3 <;> first | (cases g3; done) | skip
    all_goals
     simp only [Option.map_eq_some_iff] at g3
     obtain ⟨rr,g4,rfl⟩ := g3
    ·exact key .eql _ (by simp only [Vl]; rw [show ((sg == 0)=Nat.beq 1 rr) by rw [Bool.eq_iff_iff,N.k0 n rr g4,beq_iff_eq]; exact zero]) rfl
    ·exact key .neq _ (by simp only [Vl]; rw [show ((sg != 0)=!Nat.beq 1 rr) by rw [bne,show ((sg == 0)=Nat.beq 1 rr) by rw [Bool.eq_iff_iff,N.k0 n rr g4,beq_iff_eq]; exact zero]]) rfl
   ·simp only [Option.bind_eq_some_iff,Option.map_eq_some_iff] at h3
    obtain ⟨n,⟨c,g1,g2⟩,bb,g3,rfl⟩ := h3
    obtain ⟨sg,ex,zero,neg⟩ := cmp_on N g2 (Zg g1 hx)
    have key : ∀ (op' : BinOp) (res : Bool),Vl op' sg zb=some (kB res)→op=op'→∃ q,(execOp ac.eval o).run S.P w=.ok (.value q) w∧avOn (cOn E S.K γ w) (kB res) q := fun op' res hi he => by
     subst he
     obtain ⟨q,e1,e2⟩ := Ki (S := S) (E := E) (P := S.P) (t := t) (x := x) (y := y) (γ := γ) (w := w) hi
     exact ⟨q,hexec q (by rw [ex,ey]; exact e1),e2⟩
    have pos : sg > zb ↔ 0 < E.q n := by
     constructor
     ·intro hq
      have h1 : ¬ E.q n < 0 := fun q => by have := neg.2 q; omega
      have h2 : ¬ E.q n=0 := fun q => by have := zero.2 q; omega
      rcases Rat.le_iff_lt_or_eq.1 (Rat.not_lt.1 h1) with q | q
      ·exact q
      ·exact absurd q.symm h2
     ·intro hq
      have h1 : ¬ sg < zb := fun q => by have := neg.1 q; grind
      have h2 : ¬ sg=zb := fun q => by have := zero.1 q; grind
      omega
    unfold sgnOp at g3
    split at g3 <;> first | (cases g3; done) | skip
    all_goals
     simp only [Option.map_eq_some_iff] at g3
     obtain ⟨rr,g4,rfl⟩ := g3
    ·exact key .eql _ (by simp only [Vl]; rw [show ((sg == zb)=Nat.beq 1 rr) by rw [Bool.eq_iff_iff,N.k0 n rr g4,beq_iff_eq]; exact zero]) rfl
    ·exact key .neq _ (by simp only [Vl]; rw [show ((sg != zb)=!Nat.beq 1 rr) by rw [bne,show ((sg == zb)=Nat.beq 1 rr) by rw [Bool.eq_iff_iff,N.k0 n rr g4,beq_iff_eq]; exact zero]]) rfl
    ·exact key .lss _ (by simp only [Vl]; rw [show (decide (sg < zb)=Nat.beq 1 rr) by rw [Bool.eq_iff_iff,N.k1 n rr g4,decide_eq_true_eq]; exact neg]) rfl
    ·exact key .geq _ (by simp only [Vl]; rw [show (decide (sg ≥ zb)=!Nat.beq 1 rr) by rw [← show (decide (sg < zb)=Nat.beq 1 rr) by rw [Bool.eq_iff_iff,N.k1 n rr g4,decide_eq_true_eq]; exact neg]; simp [← Int.not_lt]]) rfl
    ·exact key .gtr _ (by simp only [Vl]; rw [show (decide (sg > zb)=Nat.beq 1 rr) by rw [Bool.eq_iff_iff,N.k2 n rr g4,decide_eq_true_eq]; exact pos]) rfl
    ·exact key .leq _ (by simp only [Vl]; rw [show (decide (sg≤zb)=!Nat.beq 1 rr) by rw [← show (decide (sg > zb)=Nat.beq 1 rr) by rw [Bool.eq_iff_iff,N.k2 n rr g4,decide_eq_true_eq]; exact pos]; simp [← Int.not_lt]]) rfl
 ·split at h3
  ·rename_i bb hb
   have ey := Im hb hy
   rw [Option.bind_eq_some_iff] at h3
   obtain ⟨ba,ha,h3⟩ := h3
   rw [ifO_some] at h3
   obtain ⟨hT,h3⟩ := h3
   have ex := Im ha hx
   have hb2 := Az (P := S.P) (x := x) (y := y) (a := ba) (b := bb) hT w
   split at h3
   ·cases h3
    exact ⟨.bool (ba == bb),hexec _ (by rw [ex,ey]; exact hb2.1),Ym _⟩
   ·cases h3
    exact ⟨.bool (ba != bb),hexec _ (by rw [ex,ey]; exact hb2.2),Ym _⟩
   ·cases h3
  ·split at h3
   ·rename_i vv hm
    cases h3
    unfold mulSg at hm
    split at hm
    ·simp only [Option.bind_eq_some_iff,Option.map_eq_some_iff] at hm
     obtain ⟨na,⟨c,g1,g2⟩,nb,⟨d,g3,g4⟩,nc,g5,rfl⟩ := hm
     have ex := (N.x4 _ _ _).1 (Uh g2 (Zg g1 hx))
     have ey := (N.x4 _ _ _).1 (Uh g4 (Zg g3 hy))
     have r1 := KG (E.q na)
     have r2 := KG (E.q nb)
     have hz : OI (QM (E.q na)*QM (E.q nb))=true := by
      rcases (show QM (E.q na)=-1 ∨ QM (E.q na)=0 ∨ QM (E.q na)=1 by omega) with e | e | e <;> rcases (show QM (E.q nb)=-1 ∨ QM (E.q nb)=0 ∨ QM (E.q nb)=1 by omega) with e' | e' | e' <;> rw [e,e'] <;> decide
     have hi : Vl .mul (QM (E.q na)) (QM (E.q nb))=some (kI (QM (E.q na)*QM (E.q nb))) := by simp only [Vl,hz]; rfl
     obtain ⟨q,e1,e2⟩ := Ki (S := S) (E := E) (P := S.P) (t := t) (x := x) (y := y) (γ := γ) (w := w) hi
     have eq : q=.int .i64 (QM (E.q na)*QM (E.q nb)) := Vy rfl e2
     refine ⟨q,hexec q (by rw [ex,ey]; exact e1),?_⟩
     rw [eq,← LQ,← N.k7 _ _ _ g5]
     exact sgnB_on N
    ·cases hm
   split at h3
   ·rename_i v' hm
    cases h3
    unfold arrZ at hm
    simp only [Option.bind_eq_some_iff,ifO_some,Bool.and_eq_true,Nat.beq_eq] at hm
    obtain ⟨n,g1,ar,g2,bs,g3,l,g4,m,g5,⟨g6,g7⟩,hm⟩ := hm
    obtain ⟨us,ex,hU⟩ := ON g2 hx
    obtain ⟨vs,ey,hV⟩ := ON g3 hy
    have eu := FJ g4 hU
    have ev := FJ g5 hV
    subst eu ev g6
    split at hm
    ·cases hm
     exact ⟨_,hexec _ (by rw [ex,ey,Dy]; exact (N.eqz t _ g1 l m rfl g7 x y w).1),Ym _⟩
    ·cases hm
     exact ⟨_,hexec _ (by rw [ex,ey,Dy]; exact (N.eqz t _ g1 l m rfl g7 x y w).2),Ym _⟩
    ·cases hm
   split at h3
   ·rename_i v' hm
    cases h3
    unfold nilS at hm
    simp only [Option.bind_eq_some_iff,ifO_some] at hm
    obtain ⟨e,g1,d,g2,c,g3,g4,rr,g5,hm⟩ := hm
    have hu : ∃ e',S.P.underlying t=some (.slice e') := by
     unfold ZU at g1
     rw [Option.bind_eq_some_iff] at g1
     obtain ⟨d',k1,k2⟩ := g1
     split at k2
     ·exact ⟨_,k1⟩
     ·cases k2
    obtain ⟨e',hu⟩ := hu
    have ey := Uw g4 (Zg g2 hy)
    have ex : ∃ v n m,ac.eval x=.slice v n m∧rr=v.isNone := by
     cases hn : Uj c
     ·rw [hn] at g5
      simp only [cond_false,Option.map_eq_some_iff] at g5
      obtain ⟨q,g6,rfl⟩ := g5
      obtain ⟨G,m,_,e1⟩ := Rx g6 (Zg g3 hx)
      exact ⟨_,_,_,e1,rfl⟩
     ·rw [hn] at g5
      cases g5
      exact ⟨_,_,_,Uw hn (Zg g3 hx),rfl⟩
    obtain ⟨v,n,m,ex,er⟩ := ex
    subst er
    have hr := nil_run (x := x) (y := y) (v := v) (n := n) (m := m) hu w
    split at hm
    ·cases hm
     exact ⟨_,hexec _ (by rw [ex,ey]; exact hr.1),Ym _⟩
    ·cases hm
     exact ⟨_,hexec _ (by rw [ex,ey]; exact hr.2),Ym _⟩
    ·cases hm
   split at h3
   ·rename_i v' hm
    cases h3
    unfold nilP at hm
    simp only [Option.bind_eq_some_iff,ifO_some,Bool.and_eq_true] at hm
    obtain ⟨u,g1,d,g2,c,g3,⟨g4,g7⟩,rr,g5,hm⟩ := hm
    have hu : ∃ e',S.P.underlying t=some (.pointer e') := by
     split at g7
     ·exact ⟨_,g1⟩
     ·cases g7
    obtain ⟨e',hu⟩ := hu
    have ey := PT g4 (Zg g2 hy)
    have ex : ∃ v,ac.eval x=.pointer v∧rr=v.isNone := by
     cases hn : Gi c
     ·rw [hn] at g5
      simp only [cond_false,Option.map_eq_some_iff] at g5
      obtain ⟨q,g6,rfl⟩ := g5
      obtain ⟨G,e1⟩ := N.xp _ _ _ (Uh g6 (Zg g3 hx))
      exact ⟨_,e1,rfl⟩
     ·rw [hn] at g5
      cases g5
      exact ⟨_,PT hn (Zg g3 hx),rfl⟩
    obtain ⟨v,ex,er⟩ := ex
    subst er
    have hr := ptr_run (x := x) (y := y) (v := v) hu w
    split at hm
    ·cases hm
     exact ⟨_,hexec _ (by rw [ex,ey]; exact hr.1),Ym _⟩
    ·cases hm
     exact ⟨_,hexec _ (by rw [ex,ey]; exact hr.2),Ym _⟩
    ·cases hm
   unfold eqlB at h3
   split at h3
   ·rename_i res hres
    simp only [Option.bind_eq_some_iff] at hres
    obtain ⟨c,g1,d,g2,g3⟩ := hres
    obtain ⟨s,u,ex,ey,rfl⟩ := Ew N g3 (Zg g1 hx) (Zg g2 hy)
    have hs := str_run (P := S.P) (t := t) (x := x) (y := y) (a := s) (b := u) w
    split at h3
    ·cases h3
     exact ⟨_,hexec _ (by rw [ex,ey]; exact hs.1),Ym _⟩
    ·cases h3
     exact ⟨_,hexec _ (by rw [ex,ey]; exact hs.2),Ym _⟩
    ·cases h3
   ·simp only [Option.bind_eq_some_iff,ifO_some,Bool.and_eq_true,Nat.beq_eq] at h3
    obtain ⟨n,g1,ar,g2,bs,g3,⟨⟨g4,g5⟩,g6⟩,h3⟩ := h3
    have hn := Nat.lt_of_lt_of_le (Nat.lt_succ_self n) (Nat.le_of_ble_eq_true g6)
    obtain ⟨us,ex,hU⟩ := ON g2 hx
    obtain ⟨vs,ey,hV⟩ := ON g3 hy
    split at h3
    ·simp only [Option.map_eq_some_iff] at h3
     obtain ⟨res,g7,rfl⟩ := h3
     obtain ⟨ss,ts,rfl,rfl,l1,l2,rfl⟩ := Bm N g7 hU hV
     exact ⟨_,hexec _ (by rw [ex,ey]; exact (N.eqs t n g1 hn ss ts (by omega) (by omega) x y w).1),Ym _⟩
    ·simp only [Option.map_eq_some_iff] at h3
     obtain ⟨res,g7,rfl⟩ := h3
     obtain ⟨ss,ts,rfl,rfl,l1,l2,rfl⟩ := Bm N g7 hU hV
     exact ⟨_,hexec _ (by rw [ex,ey]; exact (N.eqs t n g1 hn ss ts (by omega) (by omega) x y w).2),Ym _⟩
    ·cases h3
end
end Cx
/- VLA -/
namespace Cx
open Go Go.RowKit
theorem GQ {zs : Array Value} {n : Nat} (h : 0 < zs.size) : ∀ u ∈ (Builtin.zeroCells zs n).toList,u ∈ zs.toList := fun u hu => by
 unfold Builtin.zeroCells at hu
 simp only [Array.toList_map,List.mem_map] at hu
 obtain ⟨i,_,rfl⟩ := hu
 have hlt : i % zs.size < zs.size := Nat.mod_lt _ h
 rw [getElem!_pos zs _ hlt]
 exact Array.getElem_mem_toList hlt
theorem Ef.more {nb : List Nat} {w0 w w' : World} {γ γ' : Nat→Option Nat} {wr wr2 : List Nat} {lo hi : Nat} (h : Ef nb w0 wr lo hi γ w γ' w') (hw : ∀ b ∈ wr,b ∈ wr2) (hl : ∀ b ∈ wr2,Gb γ b) : Ef nb w0 wr2 lo hi γ w γ' w' :=
 ⟨h.le,h.same,fun b G q => (h.fresh b G q).imp id (Or.imp id fun ⟨k,hk,e⟩ => ⟨k,hw k hk,e⟩),h.wi,h.gr,fun G hG hn => h.keep G hG fun b hb => hn b (hw b hb),hl⟩
theorem KR (w : World) (x : Obj) : Below w.heap.size w (w.drew.alloc x) := (Below.drew (Below.refl _ w)).trans (Vo w.drew x)
section
variable {S : Sx} {E : Ev S.nb} {w0 : World} {h : List HB} {nx : Nat} {ρ : Operand→Option AV} {o : Oper}
theorem Uq {c} {s x : Operand} {t : TypeId} (hop : o.op=.call c) (hc : c.callee=.builtin .append) (ha : c.args.toList=[s,x]) (ht : c.argTypes.toList=[t,t]) {a : Act} {w w' : World} {v : Value}
  (hrun : (Builtin.append_ #[t,t] o.type #[a.eval s,a.eval x]).run S.P w=.ok v w') : (execOp a.eval o).run S.P w=.ok (.value v) w' := by
 have e2 : c.args=#[s,x] := by
  apply Array.ext'
  simpa using ha
 have e3 : c.argTypes=#[t,t] := by
  apply Array.ext'
  simpa using ht
 unfold execOp
 rw [hop]
 show (resolve a.eval c o.type >>= fun d => invoke d.target d.args).run S.P w=_
 unfold resolve
 rw [hc]
 show (Builtin.append_ c.argTypes o.type (c.args.map a.eval) >>= fun v => pure (Next.value v) : Sem Next).run S.P w=_
 have e4 : (#[s,x] : Array Operand).map a.eval=#[a.eval s,a.eval x] := by simp
 rw [e2,e3,Sem.run_bind,e4,hrun]
 rfl
theorem Ll {P : Program} {t ty e : TypeId} {n : Nat} (ht : ZU P t=some e) (hz : Zw P e=some n) {ao ax : Option Addr} {k m c : Nat} (hk : k≤m) (w : World) : (Builtin.append_ #[t,t] ty #[.slice ao k m,.slice ax 0 c]).run P w=.ok (.slice ao k m) w := by
 obtain ⟨i,hi,_⟩ := OS hz
 cases ao <;> cases ax <;> simp [Builtin.append_,run_underlying (Zc ht),Zi hz,Builtin.lenOf,hk,Builtin.firstCells,loadCells,loadCellsFrom,storeCells,Result.andThen]
theorem FE {P : Program} {w : World} {t ty e : TypeId} {i : TypeInfo} {z : Value} (ht : P.underlying t=some (.slice e)) (hi : P.info? e=some i) (hz : i.zero=some z) (hsz : z.cells.size=i.size) (h0 : 0 < i.size) {ao : Option Addr} {k c : Nat} {olds : List Value} (hlo : olds.length=k*i.size) (holds : ∀ b,ao=some b→∀ j v,olds[j]? = some v→w.cell? (b.add j)=some v) (hnone : ao=none→k=0∧c=0)
  {ad : Addr} {m cy : Nat} {news : List Value} (hl : news.length=m*i.size) (hnews : ∀ j v,news[j]? = some v→w.cell? (ad.add j)=some v) (hm : 0 < m) (hg : c < k+m) (hb : k+m≤4000000) (hbt : (k+m)*i.bytes≤140737488355328) :
  ∃ (cap : Nat) (us : List Value),k+m≤cap∧(olds ++ news ++ us).length=cap*i.size∧(∀ u ∈ us,u ∈ z.cells.toList)∧(Builtin.append_ #[t,t] ty #[.slice ao k c,.slice (some ad) m cy]).run P w=.ok (.slice (some ⟨w.heap.size,0,none⟩) (k+m) cap) (w.drew.alloc (.cells (olds ++ news ++ us).toArray e)) := by
 have hge := grownCap_ge w (k+m) c e
 refine ⟨grownCap w (k+m) c e,(Builtin.zeroCells z.cells (grownCap w (k+m) c e - (k+m))).toList,hge,?_,GQ (by omega),?_⟩
 ·simp only [List.length_append,hlo,hl,Array.length_toList,size_zeroCells,hsz]
  rw [← Nat.add_mul,← Nat.add_mul]
  congr 1
  omega
 ·have ea : (olds ++ news ++ (Builtin.zeroCells z.cells (grownCap w (k+m) c e - (k+m))).toList).toArray=olds.toArray ++ news.toArray ++ Builtin.zeroCells z.cells (grownCap w (k+m) c e - (k+m)) := by
   apply Array.ext'
   simp
  rw [ea]
  cases ao with
  | some b => exact run_append_grow (P := P) w t ty e i z ht hi hz b k c olds hlo (holds b rfl) ad m cy news hl hnews hg (by omega) (growslice_fits hg hbt)
  | none =>
   obtain ⟨rfl,rfl⟩ := hnone rfl
   obtain rfl : olds=[] := List.eq_nil_of_length_eq_zero (by simpa using hlo)
   have := run_append_nil (P := P) w t ty e i z ht hi hz ad m cy news hl hnews hm (by omega) (by rw [Nat.zero_add] at hbt; omega)
   rw [Nat.zero_add]
   rw [this]
   simp
theorem OpOk.grow {rd : List Nat} {cells : List AC} {n z : Nat} (hr : ∀ (γ : Nat→Option Nat) (w : World) (a : Act),(∀ x v,ρ x=some v→avOn (cOn E S.K γ w) v (a.eval x))→(∀ x ∈ h,x.1 ∈ rd→boxOn E S.K γ w x) →
  ∃ vs us e cap,(execOp a.eval o).run S.P w=.ok (.value (.slice (some ⟨w.heap.size,0,none⟩) n cap)) (w.drew.alloc (.cells (vs ++ us).toArray e))∧Xv e S.nb=false∧A2 (cOn E S.K γ w) cells vs∧(∀ u ∈ us,okV u=true)∧n≤cap∧(vs ++ us).length=cap*z) :
  OpOk S E w0 h nx ρ o { res := some (v1 (.inr (6,nx,0,n,z))),rd := rd,wr := [],h := h ++ [(nx,cells)],nx := nx+1 } where
 le := Nat.le_succ _
 wh := fun b hb => by cases hb
 fp := fun x hx => by
  rcases List.mem_append.1 hx with hx | hx
  ·exact Or.inl hx
  ·rw [List.mem_singleton] at hx
   rw [hx]
   exact Or.inr (Or.inr ⟨Nat.le_refl _,Nat.lt_succ_self _⟩)
 run := fun γ w a Q hi hρ hbx hf hlt K hK => by
  obtain ⟨vs,us,e,cap,hrun,ht,hA,hu,hn,hl⟩ := hr γ w a hρ fun x hx hd => hbx x hx (Or.inl hd)
  unfold Oper.wp
  rw [hrun]
  have hk : Bk (w.drew.alloc (.cells (vs ++ us).toArray e)) w.heap.size (vs ++ us) e := Bk.new w.drew _ _
  have hef : Ef S.nb w0 [] nx (nx+1) γ w (FY γ nx w.heap.size) (w.drew.alloc (.cells (vs ++ us).toArray e)) := Ef.new hi (hf nx (Nat.le_refl _) (Nat.lt_succ_self _)) (KR _ _) (Nat.le_refl _) hk.lt
  refine hK _ _ _ hef (fun y hy => ?_) fun x hx hw => ?_
  ·cases hy
   exact Zp ⟨_,cap,JX _ _ _,rfl,hn,_,_,hk,by rw [hl]; omega⟩
  ·rcases List.mem_append.1 hx with hx | hx
   ·have := hlt x hx
    rcases hw with hw | hw
    ·cases hw
    ·omega
   ·rw [List.mem_singleton] at hx
    rw [hx]
    exact ⟨_,vs,e,JX _ _ _,Ku hi (Nat.le_refl _),⟨us,hk,hu⟩,ht,hA.mono fun _ _ q => hef.cell q⟩
theorem OpOk.turn {rd : List Nat} {b : Nat} {xs cells : List AC} {n z : Nat} (hb : (b,xs) ∈ h) (hr : ∀ (γ : Nat→Option Nat) (w : World) (a : Act),(∀ x v,ρ x=some v→avOn (cOn E S.K γ w) v (a.eval x))→(∀ x ∈ h,x.1 ∈ rd ∨ x.1=b→boxOn E S.K γ w x) →
  (∃ vs us e cap,(execOp a.eval o).run S.P w=.ok (.value (.slice (some ⟨w.heap.size,0,none⟩) n cap)) (w.drew.alloc (.cells (vs ++ us).toArray e))∧Xv e S.nb=false∧A2 (cOn E S.K γ w) cells vs∧(∀ u ∈ us,okV u=true)∧n≤cap∧(vs ++ us).length=cap*z) ∨
  (∃ G vs us t w' cap old,γ b=some G∧(execOp a.eval o).run S.P w=.ok (.value (.slice (some ⟨G,0,none⟩) n cap)) w'∧Bk w' G (vs ++ us) t∧Sav G w w'∧Xv t S.nb=false∧A2 (cOn E S.K γ w) cells vs∧(∀ u ∈ us,okV u=true)∧n≤cap∧(vs ++ us).length=cap*z∧Bk w G old t∧old.length=(vs ++ us).length)) :
  OpOk S E w0 h nx ρ o { res := some (v1 (.inr (6,nx,0,n,z))),rd := rd,wr := [b],h := (h.filter fun c => !Nat.beq c.1 b) ++ [(nx,cells)],nx := nx+1 } where
 le := Nat.le_succ _
 wh := fun c hc => ⟨(b,xs),hb,(List.mem_singleton.1 hc).symm⟩
 fp := fun x hx => by
  rcases List.mem_append.1 hx with hx | hx
  ·exact Or.inl (List.mem_filter.1 hx).1
  ·rw [List.mem_singleton] at hx
   rw [hx]
   exact Or.inr (Or.inr ⟨Nat.le_refl _,Nat.lt_succ_self _⟩)
 run := fun γ w a Q hi hρ hbx hf hlt K hK => by
  have hlive : Gb γ b := (hbx _ hb (Or.inr List.mem_cons_self)).live
  have hll : ∀ c ∈ [b],Gb γ c := fun c hc => by rw [List.mem_singleton.1 hc]; exact hlive
  have hbn : b < nx := hlt _ hb
  have hnew : γ nx=none := hf nx (Nat.le_refl _) (Nat.lt_succ_self _)
  have rest : ∀ x ∈ (h.filter fun c => !Nat.beq c.1 b) ++ [(nx,cells)],(x.1 ∈ [b] ∨ (nx≤x.1∧x.1 < nx+1))→x=(nx,cells) := fun x hx hw => by
   rcases List.mem_append.1 hx with hx | hx
   ·obtain ⟨q1,q2⟩ := List.mem_filter.1 hx
    have := hlt x q1
    rcases hw with hw | hw
    ·rw [List.mem_singleton.1 hw,Nat.beq_refl] at q2
     cases q2
    ·omega
   ·exact List.mem_singleton.1 hx
  rcases hr γ w a hρ (fun x hx hd => hbx x hx (hd.imp id fun e => by rw [e]; exact List.mem_cons_self)) with ⟨vs,us,e,cap,hrun,ht,hA,hu,hn,hl⟩ | ⟨G,vs,us,t,w',cap,old,hG,hrun,hk,hsv,ht,hA,hu,hn,hl,hold,hol⟩
  ·unfold Oper.wp
   rw [hrun]
   have hk : Bk (w.drew.alloc (.cells (vs ++ us).toArray e)) w.heap.size (vs ++ us) e := Bk.new w.drew _ _
   have hef0 : Ef S.nb w0 [] nx (nx+1) γ w (FY γ nx w.heap.size) (w.drew.alloc (.cells (vs ++ us).toArray e)) := Ef.new hi hnew (KR _ _) (Nat.le_refl _) hk.lt
   have hef := hef0.more (wr2 := [b]) (fun c hc => by cases hc) hll
   refine hK _ _ _ hef (fun y hy => ?_) fun x hx hw => ?_
   ·cases hy
    exact Zp ⟨_,cap,JX _ _ _,rfl,hn,_,_,hk,by rw [hl]; omega⟩
   ·rw [rest x hx hw]
    exact ⟨_,vs,e,JX _ _ _,Ku hi (Nat.le_refl _),⟨us,hk,hu⟩,ht,hA.mono fun _ _ q => hef.cell q⟩
  ·unfold Oper.wp
   rw [hrun]
   have hB : Bxd S.nb w G := (hbx _ hb (Or.inr List.mem_cons_self)).bxd hG
   have hlo := hi.lo _ _ hG
   have hef : Ef S.nb w0 [b] nx (nx+1) γ w (FY γ nx G) w' := {
    le := fun c G' q => by
     have : c ≠ nx := fun e => by rw [e,hnew] at q; cases q
     rw [Yy _ _ this]
     exact q
    same := fun c hc => Yy _ _ (by omega)
    fresh := fun c G' q => by
     by_cases e : c=nx
     ·rw [e,JX] at q
      cases q
      exact Or.inr (Or.inr ⟨b,List.mem_cons_self,hG⟩)
     ·rw [Yy _ _ e] at q
      exact Or.inl q
    wi := ⟨hi.bel.trans ⟨hsv.os,hsv.tape,hsv.output,by rw [hsv.size]; exact Nat.le_refl _,fun k hk => hsv.block k (by omega)⟩,fun c G' q => by
     rw [hsv.size]
     by_cases e : c=nx
     ·rw [e,JX] at q
      cases q
      exact hlo
     ·rw [Yy _ _ e] at q
      exact hi.lo c G' q⟩
    gr := ⟨by rw [hsv.size]; exact Nat.le_refl _,fun k _ hk => hsv.block k fun q => hk (q ▸ hB),fun k es t' hd => by
     by_cases e : k=G
     ·subst e
      obtain ⟨e1,e2⟩ := Bk.uniq hd hold
      subst e1 e2
      exact ⟨_,hk,hol.symm⟩
     ·exact ⟨es,(hsv.block k e).trans hd,rfl⟩⟩
    keep := fun G' _ hn => hsv.block G' fun q => hn b List.mem_cons_self (q ▸ hG)
    live := hll }
   refine hK _ _ _ hef (fun y hy => ?_) fun x hx hw => ?_
   ·cases hy
    exact Zp ⟨_,cap,JX _ _ _,rfl,hn,_,_,hk,by rw [hl]; omega⟩
   ·rw [rest x hx hw]
    refine ⟨_,vs,t,JX _ _ _,fun G' c q q' => ?_,⟨us,hk,hu⟩,ht,hA.mono fun _ _ q => hef.cell q⟩
    rw [JX] at q
    cases q
    by_cases e : c=nx
    ·omega
    ·rw [Yy _ _ e] at q'
     have := hlive G c hG q'
     omega
theorem Ox {γ : Nat→Option Nat} {w : World} {G off n : Nat} {cs : List AC} {vs us : List Value} {t : TypeId} (hk : Bk w G (vs ++ us) t) (hA : A2 (cOn E S.K γ w) cs vs) (hl : off+n≤cs.length) : ((vs.drop off).take n).length=n∧A2 (cOn E S.K γ w) ((cs.drop off).take n) ((vs.drop off).take n)∧∀ j v,((vs.drop off).take n)[j]? = some v→w.cell? ((⟨G,off,none⟩ : Addr).add j)=some v := by
 have hv : vs.length=cs.length := hA.len
 refine ⟨by rw [List.length_take,List.length_drop]; omega,(hA.drop _).take _,fun j v hj => ?_⟩
 rw [YW,hk.cell]
 rw [List.getElem?_take] at hj
 split at hj
 ·rw [List.getElem?_drop] at hj
  rw [List.getElem?_append_left (List.getElem?_eq_some_iff.1 hj).1]
  exact hj
 ·cases hj
theorem NU {c} {s x : Operand} {t t' : TypeId} {r : OR} (hop : o.op=.call c) (hc : c.callee=.builtin .append) (ha : c.args.toList=[s,x]) (hta : c.argTypes.toList=[t,t'])
  (hr : ifO (Nat.beq t t') ((ZU S.P t).bind fun e => (ρ s).bind fun u => (asC u).bind fun cs => (ρ x).bind fun v => (asC v).bind fun cx => LA S h nx e cs cx)=some r) : OpOk S E w0 h nx ρ o r := by
 simp only [Option.bind_eq_some_iff,ifO_some] at hr
 obtain ⟨htt,e,hsl,u,hu,cs,hcs,v,hv,cx,hcx,hr⟩ := hr
 rw [Nat.beq_eq] at htt
 subst htt
 unfold LA at hr
 simp only [Option.bind_eq_some_iff] at hr
 obtain ⟨z,hz,m,hm,hr⟩ := hr
 cases hm0 : Nat.beq m 0 with
 | true =>
  rw [hm0] at hr
  simp only [cond_true,ifO_some] at hr
  obtain ⟨hk,hr⟩ := hr
  cases hr
  rw [Nat.beq_eq] at hm0
  subst hm0
  refine OpOk.pure fun γ w a hρ => ?_
  have hS := Zg hcs (hρ s u hu)
  obtain ⟨ax,cc,ex⟩ := Ca hm (Zg hcx (hρ x v hv))
  have key : ∃ ao n m,a.eval s=.slice ao n m∧n≤m := by
   simp only [Bool.or_eq_true] at hk
   rcases hk with hk | hk | hk | hk
   ·exact ⟨_,_,_,Uw hk hS,Nat.le_refl _⟩
   ·rw [Option.isSome_iff_exists] at hk
    obtain ⟨f,hf⟩ := hk
    obtain ⟨ao,m,e1,_⟩ := Mu hf hS
    exact ⟨ao,0,m,e1,Nat.zero_le _⟩
   ·rw [Option.isSome_iff_exists] at hk
    obtain ⟨f,hf⟩ := hk
    obtain ⟨G,m,_,e1,e2,_⟩ := DV hf hS
    exact ⟨_,_,m,e1,e2⟩
   ·split at hk
    ·rename_i p hp
     rw [Nat.ble_eq] at hk
     obtain ⟨G,_,e1⟩ := MN hp hS
     exact ⟨_,_,_,e1,hk⟩
    ·cases hk
  obtain ⟨ao,n,m,es,hnm⟩ := key
  refine ⟨a.eval s,Uq hop hc ha hta ?_,Zp hS⟩
  rw [es,ex]
  exact Ll hsl hz hnm w
 | false =>
  rw [hm0] at hr
  simp only [cond_false,Option.bind_eq_some_iff,ifO_some,Bool.and_eq_true,Nat.ble_eq] at hr
  obtain ⟨y,hy,ys,hys,bt,hbt,zc,hzc,⟨⟨⟨h0,hzl⟩,hyl,hnb⟩,hm1,hb1⟩,hr⟩ := hr
  have h0 : 0 < z := by simpa [Nat.blt_eq] using h0
  rw [Nat.beq_eq] at hzl
  have hnb : Xv e S.nb=false := by simpa using hnb
  obtain ⟨i,hi,hiz⟩ := OS hz
  have hib : i.bytes=bt := by
   unfold Fr at hbt
   rw [hi] at hbt
   exact Option.some.inj hbt
  obtain ⟨z0,hz0,hz1,hz2⟩ : ∃ z0 : Value,i.zero=some z0∧z0.cells.toList.all okV=true∧z0.cells.size=i.size := by
   unfold Va at hzc
   rw [hi] at hzc
   simp only [Option.bind_some,Option.bind_eq_some_iff,ifO_some] at hzc
   obtain ⟨z0,q1,q2,q3⟩ := hzc
   cases q3
   exact ⟨z0,q1,q2,by rw [hiz,← hzl]; simp⟩
  have hmy : m=y.2.2 := by
   unfold Bd at hm
   unfold acR at hy
   split at hy
   ·rename_i k b o' n c'
    rw [ifO_some] at hy
    obtain ⟨q1,q2⟩ := hy
    cases q2
    have q7 : Nat.beq k 7=false := by
     rw [Bool.or_eq_true,Nat.beq_eq,Nat.beq_eq] at q1
     rcases q1 with q | q <;> subst q <;> rfl
    have q8 : acE (.inr (k,b,o',n,c'))=none := by unfold acE; simp [q7,ifO]
    have q9 : acH (.inr (k,b,o',n,c'))=none := by
     rw [Bool.or_eq_true,Nat.beq_eq,Nat.beq_eq] at q1
     unfold acH
     rcases q1 with q | q <;> subst q <;> rfl
    rw [show Uj (.inr (k,b,o',n,c'))=false from rfl,q8,q9] at hm
    simp only [cond_false,acR,q1,ifO,cond_true,Option.map_some] at hm
    exact (Option.some.inj hm).symm
   ·cases hy
  have hm1p : 0 < y.2.2 := by
   rw [← hmy]
   refine Nat.pos_of_ne_zero fun q => ?_
   rw [q] at hm0
   cases hm0
  have hus : ∀ us : List Value,(∀ u ∈ us,u ∈ z0.cells.toList)→∀ u ∈ us,okV u=true := fun us q u hu => by
   rw [List.all_eq_true] at hz1
   exact hz1 u (q u hu)
  have hbts : ∀ k,k≤200000→k*i.bytes≤140737488355328 := fun k hk => by
   rw [hib]
   exact Nat.le_trans (Nat.mul_le_mul_right _ hk) hb1
  -- the cells that are appended
  have news : ∀ (γ : Nat→Option Nat) (w : World) (a : Act),(∀ x v,ρ x=some v→avOn (cOn E S.K γ w) v (a.eval x))→boxOn E S.K γ w (y.1,ys)→∃ (ad : Addr) (cy : Nat) (ns : List Value),a.eval x=.slice (some ad) y.2.2 cy∧ns.length=y.2.2*i.size∧A2 (cOn E S.K γ w) ((ys.drop y.2.1).take (y.2.2*z)) ns∧∀ j v,ns[j]? = some v→w.cell? (ad.add j)=some v := fun γ w a hρ hb => by
   obtain ⟨G,cy,hG,ex⟩ := Rx hy (Zg hcx (hρ x v hv))
   obtain ⟨G',vs,t',g1,_,⟨us,g2,_⟩,_,g4⟩ := hb
   rw [hG] at g1
   cases g1
   obtain ⟨q1,q2,q3⟩ := Ox g2 g4 hyl
   exact ⟨_,cy,_,ex,by rw [hiz]; exact q1,q2,q3⟩
  cases hcap : TW cs with
  | true =>
   rw [hcap] at hr
   cases hr
   refine OpOk.grow fun γ w a hρ hb => ?_
   obtain ⟨ad,cy,ns,ex,n1,n2,n3⟩ := news γ w a hρ (hb _ (ZG hys) List.mem_cons_self)
   have hS := Zg hcs (hρ s u hu)
   have es : ∃ ao,a.eval s=.slice ao 0 0 := by
    unfold TW at hcap
    rw [Bool.or_eq_true] at hcap
    rcases hcap with q | q
    ·exact ⟨none,Uw q hS⟩
    ·split at q
     ·rename_i f hf
      rw [Nat.beq_eq] at q
      obtain ⟨ao,m',e1,e2⟩ := Mu hf hS
      exact ⟨ao,by rw [e1,e2 q]⟩
     ·cases q
   obtain ⟨ao,es⟩ := es
   obtain ⟨cap,us,k1,k2,k3,k4⟩ := FE (P := S.P) (w := w) (ty := o.type) (Zc hsl) hi hz0 hz2 (by omega) (ao := ao) (k := 0) (c := 0) (olds := []) (by simp) (fun _ _ _ _ q => by simp at q) (fun _ => ⟨rfl,rfl⟩) (cy := cy) n1 n3 hm1p (by omega) (by omega) (hbts _ (by omega))
   rw [List.nil_append] at k2 k4
   rw [Nat.zero_add] at k1 k4
   exact ⟨ns,us,e,cap,Uq hop hc ha hta (by rw [es,ex]; exact k4),hnb,n2,hus us k3,k1,by rw [k2,hiz]⟩
  | false =>
   rw [hcap] at hr
   simp only [cond_false] at hr
   split at hr
   ·rename_i p hp
    simp only [Option.bind_eq_some_iff,ifO_some,Bool.and_eq_true,Nat.ble_eq] at hr
    obtain ⟨xs,hxs,⟨⟨p1,p2⟩,p3⟩,hr⟩ := hr
    cases hr
    have p1 : p.2.2.2 < p.2.2.1+y.2.2 := by simpa [Nat.blt_eq] using p1
    refine OpOk.grow fun γ w a hρ hb => ?_
    obtain ⟨ad,cy,ns,ex,n1,n2,n3⟩ := news γ w a hρ (hb _ (ZG hys) List.mem_cons_self)
    obtain ⟨G,hG,es⟩ := MN hp (Zg hcs (hρ s u hu))
    obtain ⟨G',vs,t',g1,_,⟨us',g2,_⟩,_,g4⟩ := hb _ (ZG hxs) (List.mem_cons_of_mem _ List.mem_cons_self)
    rw [hG] at g1
    cases g1
    obtain ⟨q1,q2,q3⟩ := Ox g2 g4 p3
    obtain ⟨cap,us,k1,k2,k3,k4⟩ := FE (P := S.P) (w := w) (ty := o.type) (Zc hsl) hi hz0 hz2 (by omega) (ao := some ⟨G,p.2.1,none⟩) (k := p.2.2.1) (c := p.2.2.2) (by rw [q1,hiz]) (fun b q => by cases q; exact q3) (fun q => by cases q) (cy := cy) n1 n3 hm1p p1 (by omega) (hbts _ (by omega))
    exact ⟨_,us,e,cap,Uq hop hc ha hta (by rw [es,ex]; exact k4),hnb,q2.append n2,hus us k3,k1,by rw [k2,hiz]⟩
   ·simp only [Option.bind_eq_some_iff,ifO_some,Bool.and_eq_true,Nat.ble_eq,Nat.beq_eq] at hr
    obtain ⟨p,hp,xs,hxs,⟨⟨p1,p2,p3⟩,p4,p5⟩,hr⟩ := hr
    cases hr
    refine OpOk.turn (ZG hxs) fun γ w a hρ hb => ?_
    obtain ⟨ad,cy,ns,ex,n1,n2,n3⟩ := news γ w a hρ (hb _ (ZG hys) (Or.inl List.mem_cons_self))
    obtain ⟨G,TW,hG,es,hnc,cs0,t0,hk0,hl0⟩ := DV hp (Zg hcs (hρ s u hu))
    obtain ⟨G',vs,t',g1,_,⟨us',g2,gu⟩,g3,g4⟩ := hb _ (ZG hxs) (Or.inr rfl)
    rw [hG] at g1
    cases g1
    obtain ⟨q1,q2,q3⟩ := Ox (off := 0) (n := p.2.2.1*z) g2 g4 (by show 0+p.2.2.1*z≤xs.length; omega)
    rw [List.drop_zero] at q1 q2 q3
    rw [List.drop_zero] at q2
    rw [p1] at es
    by_cases hroom : p.2.2.1+y.2.2≤TW
    ·right
     obtain ⟨e1,e2⟩ := Bk.uniq hk0 g2
     subst e1 e2
     rw [p1,p2,Nat.zero_add] at hl0
     have hl1 : vs.length+us'.length=TW*z := by rw [← List.length_append]; exact hl0
     have hvl : vs.length=xs.length := g4.len
     have hmul : (p.2.2.1+y.2.2)*z≤TW*z := Nat.mul_le_mul_right _ hroom
     rw [Nat.add_mul] at hmul
     have hnl : ns.length=y.2.2*z := by rw [n1,hiz]
     obtain ⟨w',hs,hk,hsv⟩ := Xg (P := S.P) (o := p.2.2.1*z) ns 0 w (vs ++ us') g2 (A2.all (fun a v q => Yr _ a v q) n2) (by rw [List.length_append]; omega)
     have hfc := run_firstCells_some (P := S.P) w i.size y.2.2 ad y.2.2 cy ns n1 n3
     have hrun : (Builtin.append_ #[t,t] o.type #[.slice (some ⟨G,0,none⟩) p.2.2.1 TW,.slice (some ad) y.2.2 cy]).run S.P w=.ok (.slice (some ⟨G,0,none⟩) (p.2.2.1+y.2.2) TW) w' := by
      rw [← hiz] at hs
      simp [Builtin.append_,run_underlying (Zc hsl),Go.sizeOf,typeInfo,hi,Builtin.lenOf,hroom,hfc,Addr.add_lit,hs]
     rw [Nat.add_zero] at hk
     have hcut : (vs ++ us').take (p.2.2.1*z)=vs.take (p.2.2.1*z) := List.take_append_of_le_length (by omega)
     refine ⟨G,vs.take (p.2.2.1*z) ++ ns,(vs ++ us').drop (p.2.2.1*z+ns.length),t0,w',TW,vs ++ us',hG,Uq hop hc ha hta (by rw [es,ex]; exact hrun),?_,hsv,g3,q2.append n2,?_,hroom,?_,g2,?_⟩
     ·rw [hcut] at hk
      simpa [List.append_assoc] using hk
     ·intro q hq
      have hq := List.mem_of_mem_drop hq
      rcases List.mem_append.1 hq with q' | q'
      ·exact A2.all (p := fun v => okV v=true) (fun a v q => Yr _ a v q) g4 q q'
      ·exact gu q q'
     ·rw [List.length_append,List.length_append,List.length_drop,List.length_append,q1,hnl]
      omega
     ·rw [List.length_append,List.length_append,List.length_append,List.length_drop,List.length_append,q1,hnl]
      omega
    ·left
     obtain ⟨cap,us,k1,k2,k3,k4⟩ := FE (P := S.P) (w := w) (ty := o.type) (Zc hsl) hi hz0 hz2 (by omega) (ao := some ⟨G,0,none⟩) (k := p.2.2.1) (c := TW) (by rw [q1,hiz]) (fun b q => by cases q; exact q3) (fun q => by cases q) (cy := cy) n1 n3 hm1p (by omega) (by omega) (hbts _ (by omega))
     exact ⟨_,us,e,cap,Uq hop hc ha hta (by rw [es,ex]; exact k4),hnb,q2.append n2,hus us k3,k1,by rw [k2,hiz]⟩
end
end Cx
/- VM -/
namespace Cx
open Go Go.RowKit
section
variable (S : Sx) (E : Ev S.nb) (w0 : World)
def Rs (call : OA) : Prop := ∀ f args h nx p,call f args h nx=some p→∀ (γ : Nat→Option Nat) (w : World) (vs : List Value),WI w0 γ w→A2 (avOn (cOn E S.K γ w)) args vs→(∀ x ∈ h,boxOn E S.K γ w x)→(∀ x ∈ h,x.1 < nx)→(∀ b,nx≤b→b < p.2.2→γ b=none) →
 Calls S.P f vs.toArray w fun e w' => ∃ r γ',e=.returned r∧Ef S.nb w0 (h.map (·.1)) nx p.2.2 γ w γ' w'∧avOn (cOn E S.K γ' w') p.1 r∧∀ x ∈ p.2.1,boxOn E S.K γ' w' x
def Iq : Prop := (hdB S.pr=true→AY S.K E.σ w0)∧∀ f c,IJ f S.pr=some c→∀ args h nx p,Cd S h nx c args=some p→∀ (γ : Nat→Option Nat) (w : World) (vs : List Value),WI w0 γ w→A2 (avOn (cOn E S.K γ w)) args vs→(∀ x ∈ h,x.1 ∈ p.2.1→boxOn E S.K γ w x)→(∀ b,nx≤b→b < p.2.2.2→γ b=none) →
 Calls S.P f vs.toArray w fun e w' => ∃ r γ',e=.returned r∧Ef S.nb w0 [] nx p.2.2.2 γ w γ' w'∧avOn (cOn E S.K γ' w') p.1 r∧∀ x ∈ p.2.2.1,boxOn E S.K γ' w' x
end
theorem Bc {P : Program} {f : FuncId} (h : entB P f=true) (vs : Array Value) (w : World) : (callFunc f vs).run P w=.ok (.enter f vs) w := by
 unfold entB at h
 split at h
 ·rename_i fn hf
  rw [Bool.and_eq_true] at h
  have h1 : ¬ fn.name = "runtime.NumGoroutine" := by simpa using h.1
  have h2 : ¬ fn.body=none := fun e => by rw [e] at h; simp at h
  unfold callFunc
  simp [go_sem,hf,h1,h2]
 ·cases h
section
variable {S : Sx} {E : Ev S.nb} {w0 : World} {h : List HB} {nx : Nat} {ρ : Operand→Option AV} {o : Oper} {call : OA}
theorem EC {lo hi b : Nat} : inR lo hi b=true ↔ lo≤b∧b < hi := by
 unfold inR
 rw [Bool.and_eq_true,Nat.ble_eq]
 constructor
 ·rintro ⟨h1,h2⟩
  exact ⟨h1,by simpa [Nat.blt_eq] using h2⟩
 ·rintro ⟨h1,h2⟩
  exact ⟨h1,by simpa [Nat.blt_eq] using h2⟩
theorem fn_ok (hP : Iq S E w0) (hC : Rs S E w0 call) {f : FuncId} {args : List AV} {r : OR} (hr : fnB S call f args h nx=some r)
  (hx : ∀ (γ : Nat→Option Nat) (w : World) (a : Act),(∀ x v,ρ x=some v→avOn (cOn E S.K γ w) v (a.eval x))→∃ vs : List Value,execOp a.eval o=callFunc f vs.toArray∧A2 (avOn (cOn E S.K γ w)) args vs) : OpOk S E w0 h nx ρ o r := by
 unfold fnB at hr
 rw [ifO_some] at hr
 obtain ⟨hent,hr⟩ := hr
 split at hr
 ·rename_i c hc
  simp only [Option.bind_eq_some_iff,ifO_some,Bool.and_eq_true,Nat.ble_eq,List.all_eq_true,EC] at hr
  obtain ⟨p,h1,⟨h2,h3⟩,e⟩ := hr
  cases e
  refine ⟨h2,(fun b hb => by cases hb),fun x hx => ?_,fun γ w a Q hi hρ hb hf hlt K hK => ?_⟩
  ·rcases List.mem_append.1 hx with q | q
   ·exact Or.inl q
   ·exact Or.inr (Or.inr (h3 x q))
  ·obtain ⟨vs,ev,hA⟩ := hx γ w a hρ
   have hcall := hP.2 f c hc args h nx p h1 γ w vs hi hA (fun x hx q => hb x hx (Or.inl q)) hf
   unfold Oper.wp
   rw [ev,Bc hent]
   refine Calls.mono hcall ?_
   rintro _ w' ⟨v,γ',rfl,hef,hv,hbx⟩
   refine hK v w' γ' hef (fun y hy => by cases hy; exact hv) fun x hx hw => ?_
   rcases List.mem_append.1 hx with q | q
   ·have := hlt x q
    rcases hw with hw | hw
    ·cases hw
    ·omega
   ·exact hbx x q
 ·simp only [Option.bind_eq_some_iff,ifO_some,Bool.and_eq_true,Nat.ble_eq,List.all_eq_true,Bool.or_eq_true,EC,GN] at hr
  obtain ⟨p,h1,⟨h2,h3⟩,e⟩ := hr
  cases e
  generalize hh1 : h.filter (fun b => Xv b.1 (MR S h 3 (args.flatMap (AQ S))))=h1' at h1 h3
  have hsub : ∀ x ∈ h1',x ∈ h := fun x hx => by
   rw [← hh1] at hx
   exact (List.mem_filter.1 hx).1
  have hfpx : ∀ x ∈ MV S h p.2.1 (h1'.map (·.1)) p.1,(x ∈ h∧(x.1 ∉ h1'.map (·.1) ∨ h1'=[])) ∨ x ∈ p.2.1 := fun x hx => by
   unfold MV at hx
   split at hx
   ·rename_i e _
    exact Or.inl ⟨hx,Or.inr (by simpa using e)⟩
   ·rcases List.mem_append.1 hx with q | q
    ·rw [List.mem_filter] at q
     exact Or.inl ⟨q.1,Or.inl (by have := q.2; rw [Bool.not_eq_true',memN_not] at this; exact this)⟩
    ·exact Or.inr q
  refine ⟨h2,fun b hb => ?_,fun x hx => ?_,fun γ w a Q hi hρ hb hf hlt K hK => ?_⟩
  ·obtain ⟨x,hx,e⟩ := List.mem_map.1 hb
   exact ⟨x,hsub x hx,e⟩
  ·rcases hfpx x hx with q | q
   ·exact Or.inl q.1
   ·exact Or.inr (h3 x q)
  ·obtain ⟨vs,ev,hA⟩ := hx γ w a hρ
   have hcall := hC f args h1' nx p h1 γ w vs hi hA (fun x hx => hb x (hsub x hx) (Or.inr (List.mem_map_of_mem hx))) (fun x hx => hlt x (hsub x hx)) hf
   unfold Oper.wp
   rw [ev,Bc hent]
   refine Calls.mono hcall ?_
   rintro _ w' ⟨v,γ',rfl,hef,hv,hbx⟩
   refine hK v w' γ' hef (fun y hy => by cases hy; exact hv) fun x hx hw => ?_
   rcases hfpx x hx with ⟨q1,q2⟩ | q
   ·have := hlt x q1
    rcases hw with hw | hw
    ·rcases q2 with q2 | q2
     ·exact absurd hw q2
     ·rw [q2] at hw
      cases hw
    ·dsimp only at hw
     omega
   ·exact hbx x q
theorem Kn {γ : Nat→Option Nat} {w : World} {a : Act} {l : List Operand} {args : List AV} (hρ : ∀ x v,ρ x=some v→avOn (cOn E S.K γ w) v (a.eval x)) (hm : Jc ρ l=some args) : A2 (avOn (cOn E S.K γ w)) args (l.map a.eval) := Kg hm fun x y hy => hρ x y hy
theorem NS (N : Knows S E) {t : TypeId} {r : OR} (hop : o.op=.alloc t) (hr : (bif isR S.nb t then (S.nd 0 [0,0,1]).map fun i => QU h nx (r1 i) else ifO (!Xv t S.nb) ((Va S.P t).map fun cs => Pk h nx cs (ptr nx 0)))=some r) : OpOk S E w0 h nx ρ o r := by
 cases e : isR S.nb t with
 | false =>
  rw [e] at hr
  exact LC hop hr
 | true =>
  rw [e] at hr
  replace hr : ((S.nd 0 [0,0,1]).map fun i => QU h nx (r1 i))=some r := hr
  rw [Option.map_eq_some_iff] at hr
  obtain ⟨i,hi,rfl⟩ := hr
  obtain ⟨cs,hz,hx⟩ := N.z0 t i e hi
  refine OpOk.calm fun γ w a hρ => ?_
  obtain ⟨z,h1,h2,h3⟩ := WM hz w
  have h4 : z.cells.toList=cs := ((List.map_inj_right (fun x y q => Sum.inl.inj q)).1 h3).symm
  refine ⟨.pointer (some ⟨w.heap.size,0,none⟩),w.alloc (.cells cs.toArray t),?_,Vo _ _,Zp (hx w)⟩
  unfold execOp
  rw [hop]
  refine ZR ?_
  unfold Instr.alloc
  rw [Sem.run_bind,h1,← h4]
  simp [go_sem,newVar,newRow]
theorem minB_eq (a b : Nat) : Nx a b=Nat.min a b := by
 unfold Nx
 cases e : Nat.ble a b with
 | true =>
  rw [Nat.ble_eq] at e
  exact (Nat.min_eq_left e).symm
 | false =>
  have : ¬ a≤b := fun h => by rw [← Nat.ble_eq,e] at h; cases h
  exact (Nat.min_eq_right (show b≤a by omega)).symm
theorem op_copy {c} {d s : Operand} {t t' : TypeId} {r : OR} (hop : o.op=.call c) (hc : c.callee=.builtin .copy) (ha : c.args.toList=[d,s]) (hta : c.argTypes.toList=[t,t'])
  (hr : ((ρ d).bind fun u => (ρ s).bind fun v => Hu S.P h nx t u v)=some r) : OpOk S E w0 h nx ρ o r := by
 unfold Hu TO at hr
 simp only [Option.bind_eq_some_iff,Option.map_eq_some_iff,ifO_some,Bool.and_eq_true,Nat.beq_eq,Nat.ble_eq] at hr
 obtain ⟨u,hu,v,hv,e,hsl,z,hz,p,hp,q,hq,ys,hys,xs,hxs,⟨⟨hz1,_⟩,hfx⟩,cs',⟨hfy,hcs⟩,rfl⟩ := hr
 subst hz1
 cases hcs
 generalize hk0 : Nx q.2.2 p.2.2=k at *
 have hkm : k=Nat.min q.2.2 p.2.2 := hk0 ▸ minB_eq _ _
 have hdl : ((xs.drop q.2.1).take k).length=k := by
  rw [List.length_take,List.length_drop]
  omega
 refine ⟨Nat.le_refl _,fun b hb => ⟨(p.1,ys),ZG hys,(List.mem_singleton.1 hb).symm⟩,fun x hx => ?_,fun γ w a Q hi hρ hb _ _ K hK => ?_⟩
 ·rcases VP hx with q' | q'
  ·rw [q']
   exact Or.inr (Or.inl List.mem_cons_self)
  ·exact Or.inl q'.1
 ·obtain ⟨G,m1,hG,hd⟩ := Kv hp (hρ d u hu)
  obtain ⟨H,m2,hH,hs⟩ := Kv hq (hρ s v hv)
  have hbx := hb (p.1,ys) (ZG hys) (Or.inr List.mem_cons_self)
  have hby := hb (q.1,xs) (ZG hxs) (Or.inl List.mem_cons_self)
  have hB := hbx.bxd hG
  obtain ⟨G',vs,t1,g1,glive,⟨rs,g2,grs⟩,g3,g4⟩ := hbx
  rw [hG] at g1
  cases g1
  obtain ⟨H',us,t2,k1,_,⟨rs',k2,_⟩,_,k4⟩ := hby
  rw [hH] at k1
  cases k1
  have hvl : vs.length=ys.length := g4.len
  have hul : us.length=xs.length := k4.len
  have hcl : ((us.drop q.2.1).take k).length=k := by
   rw [List.length_take,List.length_drop]
   omega
  have hU : A2 (cOn E S.K γ w) ((xs.drop q.2.1).take k) ((us.drop q.2.1).take k) := (k4.drop _).take _
  have hrun := run_copy_row (P := S.P) w t t' o.type e G p.2.1 p.2.2 m1 ⟨H,q.2.1,none⟩ q.2.2 m2 (vs ++ rs).toArray t1 ((us.drop q.2.1).take k) (Zc hsl) hz g2 (by rw [hcl]; exact hkm)
   (fun j x hx => by
    have hj : j < k := by
     have := (List.getElem?_eq_some_iff.1 hx).1
     omega
    have e1 : us[q.2.1+j]? = some x := by
     rw [List.getElem?_take_of_lt hj,List.getElem?_drop] at hx
     exact hx
    have e2 := k2.cell (q.2.1+j)
    rw [List.getElem?_append_left (by omega),e1] at e2
    rw [YW]
    exact e2)
   (by rw [hcl]; simp only [List.size_toArray,List.length_append]; omega)
   (fun x hx => by
    have := A2.all (p := fun v => okV v=true) (fun a v q => Yr _ a v q) hU x hx
    unfold okV at this
    exact (Bool.and_eq_true _ _ ▸ this).2)
  rw [hcl] at hrun
  obtain ⟨w',hw'⟩ : ∃ w',w'=w.setRow G ((vs ++ rs).toArray.toList.take p.2.1 ++ (us.drop q.2.1).take k ++ (vs ++ rs).toArray.toList.drop (p.2.1+k)).toArray := ⟨_,rfl⟩
  rw [← hw'] at hrun
  have hsv : Sav G w w' := by
   rw [hw']
   exact ⟨rfl,rfl,rfl,setRow_size _ _ _,fun j hj => setRow_other w G j _ hj⟩
  have hk : Bk w' G (vs.take p.2.1 ++ ((us.drop q.2.1).take k ++ vs.drop (p.2.1+k)) ++ rs) t1 := by
   unfold Bk
   rw [hw',setRow_heap w G _ _ t1 (0,0) g2]
   rw [show (vs ++ rs).toArray.toList=vs ++ rs from rfl,List.take_append_of_le_length (by omega),List.drop_append_of_le_length (by omega)]
   simp [List.append_assoc]
  have e : (execOp a.eval o).run S.P w=.ok (.value (.int .i64 k)) w' := by
   have e2 : c.args=#[d,s] := by
    apply Array.ext'
    simpa using ha
   have e3 : c.argTypes=#[t,t'] := by
    apply Array.ext'
    simpa using hta
   unfold execOp
   rw [hop]
   show (resolve a.eval c o.type >>= fun d => invoke d.target d.args).run S.P w=_
   unfold resolve
   rw [hc]
   show (Builtin.copy_ c.argTypes o.type (c.args.map a.eval) >>= fun v => pure (Next.value v) : Sem Next).run S.P w=_
   have e4 : (Builtin.copy_ c.argTypes o.type (c.args.map a.eval)).run S.P w=.ok (.int .i64 k) w' := by
    rw [e2,e3]
    rw [show Array.map a.eval #[d,s]=#[a.eval d,a.eval s] by simp,hd,hs]
    exact hrun
   rw [Sem.run_bind,e4]
   rfl
  unfold Oper.wp
  rw [e]
  have hgr : Gr S.nb w w' := ⟨by rw [hsv.size]; exact Nat.le_refl _,fun j _ hj => hsv.block j fun q => hj (q ▸ hB),fun j es t hj => by
   by_cases e : j=G
   ·subst e
    obtain ⟨e1,e2⟩ := Bk.uniq hj g2
    subst e1 e2
    refine ⟨_,hk,?_⟩
    simp only [List.length_append,List.length_take,List.length_drop]
    omega
   ·exact ⟨es,(hsv.block j e).trans hj,rfl⟩⟩
  have hlo := hi.lo _ _ hG
  have hef : Ef S.nb w0 [p.1] nx nx γ w γ w' := ⟨leG.refl _,fun _ _ => rfl,fun _ _ q => Or.inl q,
   ⟨hi.bel.trans ⟨hsv.os,hsv.tape,hsv.output,by rw [hsv.size]; exact Nat.le_refl _,fun k hk => hsv.block k (by omega)⟩,fun b G' q => by rw [hsv.size]; exact hi.lo b G' q⟩,hgr,
   (fun G' _ hn => hsv.block G' fun q => hn p.1 List.mem_cons_self (q ▸ hG)),fun b hb' => by rw [List.mem_singleton.1 hb']; exact glive⟩
  refine hK _ w' γ hef (fun y' hy' => by cases hy'; exact WU _) fun x hx hw => ?_
  rcases hw with hw | hw
  ·rw [List.mem_singleton] at hw
   rcases VP hx with q' | q'
   ·rw [q']
    refine ⟨G,vs.take p.2.1 ++ ((us.drop q.2.1).take k ++ vs.drop (p.2.1+k)),t1,hG,glive,⟨rs,hk,grs⟩,g3,?_⟩
    rw [hdl]
    exact A2.append ((g4.mono fun _ _ q => hef.cell q).take _) (A2.append (hU.mono fun _ _ q => hef.cell q) ((g4.mono fun _ _ q => hef.cell q).drop _))
   ·exact absurd hw q'.2
  ·dsimp only at hw
   omega
theorem OpOk.put {b : Nat} {ys ds cs' : List AC} {off : Nat} {res : AV} (hys : Vs b h=some ys) (hput : TO ys off ds=some cs')
  (hr : ∀ (γ : Nat→Option Nat) (w : World) (a : Act),(∀ x v,ρ x=some v→avOn (cOn E S.K γ w) v (a.eval x))→∀ (G : Nat) (vs rs : List Value) (t : TypeId),γ b=some G→Bk w G (vs ++ rs) t→A2 (cOn E S.K γ w) ys vs →
   ∃ v us w',(execOp a.eval o).run S.P w=.ok (.value v) w'∧Sav G w w'∧A2 (cOn E S.K γ w) ds us∧Bk w' G (vs.take off ++ (us ++ vs.drop (off+us.length)) ++ rs) t∧avOn (cOn E S.K γ w') res v) :
  OpOk S E w0 h nx ρ o { res := some res,rd := [],wr := [b],h := Rw b cs' h,nx := nx } := by
 unfold TO at hput
 rw [ifO_some,Nat.ble_eq] at hput
 obtain ⟨hfy,hcs⟩ := hput
 cases hcs
 refine ⟨Nat.le_refl _,fun b' hb => ⟨(b,ys),ZG hys,(List.mem_singleton.1 hb).symm⟩,fun x hx => ?_,fun γ w a Q hi hρ hb _ _ K hK => ?_⟩
 ·rcases VP hx with q' | q'
  ·rw [q']
   exact Or.inr (Or.inl List.mem_cons_self)
  ·exact Or.inl q'.1
 ·have hbx := hb (b,ys) (ZG hys) (Or.inr List.mem_cons_self)
  obtain ⟨G,vs,t1,hG,glive,⟨rs,g2,grs⟩,g3,g4⟩ := id hbx
  have hB := hbx.bxd hG
  have hvl : vs.length=ys.length := g4.len
  obtain ⟨v,us,w',hrun,hsv,hU,hk,hv⟩ := hr γ w a hρ G vs rs t1 hG g2 g4
  have hul : us.length=ds.length := hU.len
  unfold Oper.wp
  rw [hrun]
  have hgr : Gr S.nb w w' := ⟨by rw [hsv.size]; exact Nat.le_refl _,fun j _ hj => hsv.block j fun q => hj (q ▸ hB),fun j es t hj => by
   by_cases e : j=G
   ·subst e
    obtain ⟨e1,e2⟩ := Bk.uniq hj g2
    subst e1 e2
    refine ⟨_,hk,?_⟩
    simp only [List.length_append,List.length_take,List.length_drop]
    omega
   ·exact ⟨es,(hsv.block j e).trans hj,rfl⟩⟩
  have hlo := hi.lo _ _ hG
  have hef : Ef S.nb w0 [b] nx nx γ w γ w' := ⟨leG.refl _,fun _ _ => rfl,fun _ _ q => Or.inl q,
   ⟨hi.bel.trans ⟨hsv.os,hsv.tape,hsv.output,by rw [hsv.size]; exact Nat.le_refl _,fun k hk => hsv.block k (by omega)⟩,fun b G' q => by rw [hsv.size]; exact hi.lo b G' q⟩,hgr,
   (fun G' _ hn => hsv.block G' fun q => hn b List.mem_cons_self (q ▸ hG)),fun b hb' => by rw [List.mem_singleton.1 hb']; exact glive⟩
  refine hK _ w' γ hef (fun y' hy' => by cases hy'; exact hv) fun x hx hw => ?_
  rcases hw with hw | hw
  ·rw [List.mem_singleton] at hw
   rcases VP hx with q' | q'
   ·rw [q']
    refine ⟨G,vs.take off ++ (us ++ vs.drop (off+us.length)),t1,hG,glive,⟨rs,hk,grs⟩,g3,?_⟩
    rw [hul]
    exact A2.append ((g4.mono fun _ _ q => hef.cell q).take _) (A2.append (hU.mono fun _ _ q => hef.cell q) ((g4.mono fun _ _ q => hef.cell q).drop _))
   ·exact absurd hw q'.2
  ·dsimp only at hw
   omega
theorem rep_one (u : Value) (n : Nat) : (Builtin.zeroCells #[u] n).toList=List.replicate n u := by
 apply List.ext_getElem
 ·simp [Builtin.zeroCells]
 ·intro i h1 h2
  simp [Builtin.zeroCells,Nat.mod_one]
theorem Dv {R : AC→Value→Prop} {c : AC} {u : Value} (h : R c u) : ∀ n,A2 R (repL [c] n) (List.replicate n u)
 | 0 => trivial
 | n+1 => ⟨h,Dv h n⟩
theorem AO {c} {x : Operand} {t : TypeId} {r : OR} (hop : o.op=.call c) (hc : c.callee=.builtin .clear) (ha : c.args.toList=[x]) (hta : c.argTypes.toList=[t]) (hr : ((ρ x).bind fun v => AE S.P h nx t v)=some r) : OpOk S E w0 h nx ρ o r := by
 unfold AE at hr
 simp only [Option.bind_eq_some_iff,Option.map_eq_some_iff,ifO_some,Bool.and_eq_true,Nat.beq_eq] at hr
 obtain ⟨v,hv,e,hsl,z,hz,zs,hzs,p,hp,ys,hys,⟨⟨hzl,hz1⟩,hn0⟩,cs',hput,rfl⟩ := hr
 refine OpOk.put hys hput fun γ w a hρ G vs rs t1 hG g2 g4 => ?_
 have hvl : vs.length=ys.length := g4.len
 obtain ⟨G',m,hG',hx⟩ := Kv hp (hρ x v hv)
 rw [hG] at hG'
 cases hG'
 obtain ⟨z0,q1,q2,q3⟩ := WM hzs w
 subst q3
 have hl : z0.cells.toList.length=1 := by simpa using hzl
 obtain ⟨u,hu⟩ : ∃ u,z0.cells=#[u] := by
  match hq : z0.cells.toList,hl with
  | [u],_ => exact ⟨u,by apply Array.ext'; simpa using hq⟩
 have hok : okV u=true := by
  have := List.all_eq_true.1 q2 u (by rw [hu]; simp)
  exact this
 have hput' := hput
 unfold TO at hput'
 rw [ifO_some,Nat.ble_eq] at hput'
 have hrl : (repL (z0.cells.toList.map Sum.inl) p.2.2).length=p.2.2 := by
  rw [hu]
  have := (Dv (R := fun _ _ => True) (c := (Sum.inl u : AC)) (u := u) trivial p.2.2).len
  simpa using this.symm
 obtain ⟨w',hs,hk,hsv⟩ := Xg (P := S.P) (o := p.2.1) (List.replicate p.2.2 u) 0 w (vs ++ rs) g2 (fun d hd => by rw [(List.mem_replicate.1 hd).2]; exact hok) (by rw [List.length_replicate,List.length_append]; omega)
 have hle : p.2.1+p.2.2≤vs.length := by omega
 refine ⟨.tuple #[],List.replicate p.2.2 u,w',?_,hsv,?_,?_,⟨[],rfl,trivial⟩⟩
 ·have e2 : c.args=#[x] := by
   apply Array.ext'
   simpa using ha
  have e3 : c.argTypes=#[t] := by
   apply Array.ext'
   simpa using hta
  unfold execOp
  rw [hop]
  show (resolve a.eval c o.type >>= fun d => invoke d.target d.args).run S.P w=_
  unfold resolve
  rw [hc]
  show (Builtin.clear_ c.argTypes o.type (c.args.map a.eval) >>= fun v => pure (Next.value v) : Sem Next).run S.P w=_
  have e4 : (Builtin.clear_ c.argTypes o.type (c.args.map a.eval)).run S.P w=.ok (.tuple #[]) w' := by
   obtain ⟨k,hk0⟩ : ∃ k,p.2.2=k+1 := ⟨p.2.2 - 1,by have : 0 < p.2.2 := (by simpa [Nat.blt_eq] using hn0); omega⟩
   rw [e2,e3]
   rw [show Array.map a.eval #[x]=#[a.eval x] by simp,hx]
   rw [hk0] at hs ⊢
   simp [Builtin.clear_,run_underlying (Zc hsl),q1,hu,rep_one,hs]
  rw [Sem.run_bind,e4]
  rfl
 ·rw [hu]
  exact Dv (show cOn E S.K γ w (.inl u) u from ⟨rfl,hok⟩) _
 ·rw [Nat.add_zero,List.length_replicate] at hk
  rw [List.take_append_of_le_length (by omega),List.drop_append_of_le_length (by omega)] at hk
  rw [List.length_replicate]
  simpa [List.append_assoc] using hk
theorem op_own {c} {s x : Operand} {t e : TypeId} {u v : AV} {cs cx : AC} {r : OR} (hop : o.op=.call c) (hc : c.callee=.builtin .append) (ha : c.args.toList=[s,x]) (hta : c.argTypes.toList=[t,t]) (hsl : ZU S.P t=some e)
  (hu : ρ s=some u) (hcs : asC u=some cs) (hv : ρ x=some v) (hcx : asC v=some cx) (hr : LS S h nx e cs cx=some r) : OpOk S E w0 h nx ρ o r := by
 unfold LS at hr
 simp only [Option.bind_eq_some_iff,Option.map_eq_some_iff,ifO_some,Bool.and_eq_true,Nat.beq_eq,Nat.ble_eq] at hr
 obtain ⟨z,hz,p,hp,y,hy,xs,hxs,⟨⟨⟨hb,h0⟩,hzz,hz0⟩,⟨hyl,hro⟩,hy0⟩,cs',hput,rfl⟩ := hr
 have hz0 : 0 < z := by simpa [Nat.blt_eq] using hz0
 have hy0 : 0 < y.2.2 := by simpa [Nat.blt_eq] using hy0
 obtain ⟨i,hi,hiz⟩ := OS hz
 refine OpOk.put hxs hput fun γ w a hρ G vs rs t1 hG g2 g4 => ?_
 have hvl : vs.length=xs.length := g4.len
 obtain ⟨G',m,hG',hsx,hnm,cs0,t',hk0,hl0⟩ := DV hp (Zg hcs (hρ s u hu))
 rw [hG] at hG'
 cases hG'
 obtain ⟨e1,e2⟩ := Bk.uniq hk0 g2
 subst e1 e2
 obtain ⟨G',cy,hG',hx⟩ := Rx hy (Zg hcx (hρ x v hv))
 rw [← hb,hG] at hG'
 cases hG'
 rw [h0,Nat.zero_add,← hzz] at hl0
 rw [h0] at hsx
 have hll : vs.length+rs.length=m*z := by rw [← List.length_append]; exact hl0
 have hroom : p.2.2.1+y.2.2≤m := Nat.le_of_mul_le_mul_right (c := z) (by omega) hz0
 obtain ⟨q1,q2,q3⟩ := Ox g2 g4 hyl
 have hns : ((vs.drop y.2.1).take (y.2.2*z)).length=y.2.2*i.size := by rw [hiz]; exact q1
 rw [Nat.add_mul] at hro
 obtain ⟨w',hs,hk,hsv⟩ := Xg (P := S.P) (o := p.2.2.1*i.size) ((vs.drop y.2.1).take (y.2.2*z)) 0 w (vs ++ rs) g2 (A2.all (fun a v q => Yr _ a v q) q2) (by rw [q1,hiz,List.length_append]; omega)
 have hfc := run_firstCells_some (P := S.P) w i.size y.2.2 ⟨G,y.2.1,none⟩ y.2.2 cy _ hns q3
 have hrun : (Builtin.append_ #[t,t] o.type #[.slice (some ⟨G,0,none⟩) p.2.2.1 m,.slice (some ⟨G,y.2.1,none⟩) y.2.2 cy]).run S.P w=.ok (.slice (some ⟨G,0,none⟩) (p.2.2.1+y.2.2) m) w' := by
  simp [Builtin.append_,run_underlying (Zc hsl),Go.sizeOf,typeInfo,hi,Builtin.lenOf,hroom,hfc,Addr.add_lit,hs]
 rw [Nat.add_zero,hiz,q1,List.take_append_of_le_length (by omega),List.drop_append_of_le_length (by omega)] at hk
 have hk' : Bk w' G (vs.take (p.2.2.1*z) ++ ((vs.drop y.2.1).take (y.2.2*z) ++ vs.drop (p.2.2.1*z+((vs.drop y.2.1).take (y.2.2*z)).length)) ++ rs) t' := by
  rw [q1]
  simpa [List.append_assoc] using hk
 refine ⟨_,(vs.drop y.2.1).take (y.2.2*z),w',Uq hop hc ha hta (by rw [hsx,hx]; exact hrun),hsv,q2,hk',Zp ⟨G,m,hG,rfl,hroom,_,_,hk',?_⟩⟩
 rw [List.length_append,List.length_append,List.length_append,List.length_take,List.length_drop,q1]
 omega
theorem op_max {c} {x y : Operand} {r : OR} (hop : o.op=.call c) (hc : c.callee=.builtin .max) (ha : c.args.toList=[x,y]) (hr : ((ρ x).bind fun u => (asI u).bind fun a => (ρ y).bind fun v => (asI v).map fun b => QU h nx (kI (if b > a then b else a)))=some r) : OpOk S E w0 h nx ρ o r := by
 simp only [Option.bind_eq_some_iff,Option.map_eq_some_iff] at hr
 obtain ⟨u,h1,p,h2,v,h3,q,h4,rfl⟩ := hr
 refine OpOk.pure fun γ w a hρ => ⟨.int .i64 (if q > p then q else p),?_,Zp ⟨rfl,rfl⟩⟩
 have hx := Vy h2 (hρ x u h1)
 have hy := Vy h4 (hρ y v h3)
 have e2 : c.args=#[x,y] := by
  apply Array.ext'
  simpa using ha
 unfold execOp
 rw [hop]
 show (resolve a.eval c o.type >>= fun d => invoke d.target d.args).run S.P w=_
 unfold resolve
 rw [hc]
 show (Builtin.max_ c.argTypes o.type (c.args.map a.eval) >>= fun v => pure (Next.value v) : Sem Next).run S.P w=_
 have e4 : (c.args.map a.eval)=#[.int .i64 p,.int .i64 q] := by
  rw [e2]
  simp [hx,hy]
 rw [e4,Sem.run_bind,run_max_int2]
 rfl
theorem op_min {c} {x y : Operand} {r : OR} (hop : o.op=.call c) (hc : c.callee=.builtin .min) (ha : c.args.toList=[x,y]) (hr : ((ρ x).bind fun u => (asI u).bind fun a => (ρ y).bind fun v => (asI v).map fun b => QU h nx (kI (if b < a then b else a)))=some r) : OpOk S E w0 h nx ρ o r := by
 simp only [Option.bind_eq_some_iff,Option.map_eq_some_iff] at hr
 obtain ⟨u,h1,p,h2,v,h3,q,h4,rfl⟩ := hr
 refine OpOk.pure fun γ w a hρ => ⟨.int .i64 (if q < p then q else p),?_,Zp ⟨rfl,rfl⟩⟩
 have hx := Vy h2 (hρ x u h1)
 have hy := Vy h4 (hρ y v h3)
 have e2 : c.args=#[x,y] := by
  apply Array.ext'
  simpa using ha
 unfold execOp
 rw [hop]
 show (resolve a.eval c o.type >>= fun d => invoke d.target d.args).run S.P w=_
 unfold resolve
 rw [hc]
 show (Builtin.min_ c.argTypes o.type (c.args.map a.eval) >>= fun v => pure (Next.value v) : Sem Next).run S.P w=_
 have e4 : (c.args.map a.eval)=#[.int .i64 p,.int .i64 q] := by
  rw [e2]
  simp [hx,hy]
 rw [e4,Sem.run_bind,run_min_int2]
 rfl
theorem op_lenS {c : Call} {n : Nat} (e : o.op=.call c) (hc : c.callee=.builtin .len) (hr : lenS S.P ρ c=some n) : OpOk S E w0 h nx ρ o (QU h nx (kI (n : Int))) := by
 unfold lenS at hr
 simp only [Option.bind_eq_some_iff,ifO_some] at hr
 obtain ⟨t,h1,h2,args,h3,h4⟩ := hr
 unfold arg1 at h4
 split at h4
 ·rename_i v
  simp only [Option.bind_eq_some_iff,Option.map_eq_some_iff] at h4
  obtain ⟨cc,h5,s,h6,rfl⟩ := h4
  refine OpOk.pure fun γ w a hρ => ?_
  have hA := Kn hρ h3
  have hl : ∃ x0,c.args.toList=[x0] := by
   have := hA.len
   match hq : c.args.toList,this with
   | [x0],_ => exact ⟨x0,rfl⟩
   | [],q => simp at q
   | _ :: _ :: _,q => simp at q
  obtain ⟨x0,hx0⟩ := hl
  rw [hx0] at hA
  have hx : a.eval x0=.string s := by
   have hy := Zg h5 hA.1
   unfold II at h6
   split at h6
   ·cases h6
    exact hy.1
   ·cases h6
  refine ⟨.int .i64 (s.size : Nat),?_,WU _⟩
  have e2 : c.args=#[x0] := by
   apply Array.ext'
   simpa using hx0
  have e3 : c.argTypes[0]? = some t := by
   have := h1
   rw [List.head?_eq_getElem?] at this
   simpa using this
  unfold execOp
  rw [e]
  show (resolve a.eval c o.type >>= fun d => invoke d.target d.args).run S.P w=_
  unfold resolve
  rw [hc]
  show (Builtin.len_ c.argTypes o.type (c.args.map a.eval) >>= fun v => pure (Next.value v) : Sem Next).run S.P w=_
  have hu : S.P.underlying t=some .string := by
   unfold strT at h2
   split at h2
   ·assumption
   ·cases h2
  have e4 : (Builtin.len_ c.argTypes o.type (c.args.map a.eval)).run S.P w=.ok (.int .i64 (s.size : Nat)) w := by
   unfold Builtin.len_
   have e5 : (c.args.map a.eval)[0]? = some (a.eval x0) := by
    rw [e2]
    simp
   rw [e3,e5,hx]
   dsimp only
   rw [Sem.run_bind,Qu hu]
   rfl
  rw [Sem.run_bind,e4]
  rfl
 ·cases h4
theorem opB_ok (N : Knows S E) (hP : Iq S E w0) (hC : Rs S E w0 call) {r : OR} (hr : opB S call ρ h nx o.op=some r) : OpOk S E w0 h nx ρ o r := by
 unfold opB at hr
 split at hr
 ·rename_i e; exact Ep (Or.inl e) hr
 ·rename_i e; exact Ep (Or.inr e) hr
 ·rename_i e; exact op_pick e hr
 ·rename_i e; exact CS e hr
 ·rename_i e; exact FW e hr
 ·rename_i e; exact Mo e hr
 ·rename_i e; exact NS N e hr
 ·rename_i e; exact op_box e hr
 ·rename_i e; exact op_load hP.1 e hr
 ·rename_i e; exact Hz e hr
 ·rename_i e; exact DA e hr
 ·rename_i e; exact AK e hr
 ·rename_i e; exact Fe e hr
 ·rename_i e; exact Lq e hr
 ·rename_i e; exact Ac e hr
 ·rename_i e; exact Hm e hr
 ·rename_i e; exact GO e hr
 ·rename_i e; exact Dg e hr
 ·rename_i e; exact op_not e hr
 ·rename_i e; exact op_neg e hr
 ·rename_i e; exact op_bin N e hr
 ·rename_i e; exact Ch e hr
 ·rename_i c e
  split at hr
  ·rename_i f hc
   rw [Option.bind_eq_some_iff] at hr
   obtain ⟨args,h1,h2⟩ := hr
   refine fn_ok hP hC h2 fun γ w a hρ => ⟨c.args.toList.map a.eval,?_,Kn hρ h1⟩
   have em : (c.args.toList.map a.eval).toArray=#[] ++ c.args.map a.eval ++ #[] := by
    apply Array.ext'
    simp
   obtain ⟨dst,op,ty,pos,after,guard⟩ := o
   obtain ⟨callee,cargs,ats⟩ := c
   dsimp only at e hc em ⊢
   subst hc
   subst e
   rw [execOp_call_go,em]
  ·rename_i x hn hc
   simp only [Option.bind_eq_some_iff] at hr
   obtain ⟨v,h1,k,⟨cc,h2,h3⟩,args,h4,p,h5,h6⟩ := hr
   refine fn_ok hP hC h6 fun γ w a hρ => ?_
   obtain ⟨f,cs,us,g1,g2,g3⟩ := acF_on h3 (Zg h2 (hρ x v h1))
   rw [h5] at g1
   cases g1
   refine ⟨c.args.toList.map a.eval ++ us,?_,(Kn hρ h4).append (A2.map v1 (fun c v q => Zp (PP _ _ _ q)) g3)⟩
   unfold execOp
   rw [e]
   show (resolve a.eval c o.type >>= fun d => invoke d.target d.args)=_
   unfold resolve
   rw [hc]
   dsimp only
   rw [g2]
   show callFunc f ((#[] ++ c.args.map a.eval) ++ us.toArray)=_
   congr 1
   apply Array.ext'
   simp
  ·rename_i hc
   split at hr
   ·rename_i n hn
    cases hr
    exact op_lenS e hc hn
   ·simp only [Option.bind_eq_some_iff] at hr
    obtain ⟨t,h1,e1,h2,args,h3,h4⟩ := hr
    unfold arg1 at h4
    split at h4
    ·rename_i v
     rw [Option.bind_eq_some_iff] at h4
     obtain ⟨cc,h5,h4⟩ := h4
     obtain ⟨y,rfl,hy⟩ : ∃ y,r=QU h nx y∧∀ (γ : Nat→Option Nat) (w : World) (x : Value),cOn E S.K γ w cc x→∃ ao n m,x=.slice ao n m∧avOn (cOn E S.K γ w) y (.int .i64 (n : Int)) := by
      split at h4
      ·rename_i b hb
       cases h4
       refine ⟨_,rfl,fun γ w x hx => ?_⟩
       obtain ⟨ao,n,m,e1,e2⟩ := acHL_on hb hx
       exact ⟨ao,n,m,e1,Zp (e2 w)⟩
      ·rw [Option.map_eq_some_iff] at h4
       obtain ⟨n,h6,rfl⟩ := h4
       refine ⟨_,rfl,fun γ w x hx => ?_⟩
       obtain ⟨ao,m,e1⟩ := Ca h6 hx
       exact ⟨ao,n,m,e1,WU _⟩
     refine OpOk.pure fun γ w a hρ => ?_
     have hA := Kn hρ h3
     have hl : ∃ x0,c.args.toList=[x0] := by
      have := hA.len
      match hq : c.args.toList,this with
      | [x0],_ => exact ⟨x0,rfl⟩
      | [],q => simp at q
      | _ :: _ :: _,q => simp at q
     obtain ⟨x0,hx0⟩ := hl
     rw [hx0] at hA
     obtain ⟨ao,n,cp,hx,hy⟩ := hy γ w _ (Zg h5 hA.1)
     refine ⟨.int .i64 n,?_,hy⟩
     have e2 : c.args=#[x0] := by
      apply Array.ext'
      simpa using hx0
     have e3 : c.argTypes[0]? = some t := by
      have := h1
      rw [List.head?_eq_getElem?] at this
      simpa using this
     unfold execOp
     rw [e]
     show (resolve a.eval c o.type >>= fun d => invoke d.target d.args).run S.P w=_
     unfold resolve
     rw [hc]
     show (Builtin.len_ c.argTypes o.type (c.args.map a.eval) >>= fun v => pure (Next.value v) : Sem Next).run S.P w=_
     have e4 : (Builtin.len_ c.argTypes o.type (c.args.map a.eval)).run S.P w=.ok (.int .i64 n) w := by
      unfold Builtin.len_
      have e5 : (c.args.map a.eval)[0]? = some (a.eval x0) := by
       rw [e2]
       simp
      rw [e3,e5,hx]
      dsimp only
      rw [Sem.run_bind,Qu (Zc h2)]
      rfl
     rw [Sem.run_bind,e4]
     rfl
    ·cases h4
  ·rename_i hc
   split at hr
   ·rename_i h1 h2
    have hr' := hr
    simp only [Option.bind_eq_some_iff,ifO_some] at hr'
    obtain ⟨htt,e1,hsl,u,hu,cs,hcs,v,hv,cx,hcx,hq⟩ := hr'
    unfold appO at hq
    split at hq
    ·cases hq
     rename_i hq
     rw [Nat.beq_eq] at htt
     subst htt
     exact op_own e hc h1 h2 hsl hu hcs hv hcx hq
    ·refine NU e hc h1 h2 ?_
     simp only [Option.bind_eq_some_iff,ifO_some]
     exact ⟨htt,e1,hsl,u,hu,cs,hcs,v,hv,cx,hcx,hq⟩
   ·cases hr
  ·rename_i hc
   split at hr
   ·rename_i h1 h2
    exact op_copy e hc h1 h2 hr
   ·cases hr
  ·rename_i hc
   split at hr
   ·rename_i h1 h2
    exact AO e hc h1 h2 hr
   ·cases hr
  ·rename_i hc
   split at hr
   ·rename_i h1
    exact op_max e hc h1 hr
   ·cases hr
  ·rename_i hc
   split at hr
   ·rename_i h1
    exact op_min e hc h1 hr
   ·cases hr
  ·cases hr
 ·cases hr
theorem Hv {b : Nat} {h h2 : List HB} (hs : Gp b h h2=true) {x : HB} (hx : x ∈ h) (e : x.1=b) : x ∈ h2 := by
 unfold Gp at hs
 simp only [Bool.and_eq_true,List.all_eq_true,Bool.or_eq_true,Bool.not_eq_true',List.any_eq_true] at hs
 rcases hs.1 x hx with q | ⟨y,hy,q1,q2⟩
 ·rw [e,Nat.beq_refl] at q
  cases q
 ·have e1 : y.1=b := Nat.eq_of_beq_eq_true q1
  have e2 := Kd q2
  obtain ⟨x1,x2⟩ := x
  obtain ⟨y1,y2⟩ := y
  dsimp only at e e1 e2
  subst e e1 e2
  exact hy
theorem Ai {b : Nat} {h h2 : List HB} (hs : Gp b h h2=true) {x : HB} (hx : x ∈ h2) (e : x.1=b) : x ∈ h := by
 unfold Gp at hs
 simp only [Bool.and_eq_true,List.all_eq_true,Bool.or_eq_true,Bool.not_eq_true',List.any_eq_true] at hs
 rcases hs.2 x hx with q | ⟨y,hy,q1,q2⟩
 ·rw [e,Nat.beq_refl] at q
  cases q
 ·have e1 : y.1=b := Nat.eq_of_beq_eq_true q1
  have e2 := Kd q2
  obtain ⟨x1,x2⟩ := x
  obtain ⟨y1,y2⟩ := y
  dsimp only at e e1 e2
  subst e e1 e2
  exact hy
def Kp (h : List HB) (o : Option OR) : Prop := ∀ r,o=some r→∀ x ∈ h,x.1 ∉ r.wr→x ∈ r.h
theorem Kp.non {h : List HB} : Kp h none := fun _ e => by cases e
theorem Kp.bind {α : Type} {h : List HB} {o : Option α} {f : α→Option OR} (hf : ∀ a,Kp h (f a)) : Kp h (o.bind f) := fun r e => by
 rw [Option.bind_eq_some_iff] at e
 obtain ⟨a,_,e⟩ := e
 exact hf a r e
theorem Kp.map {α : Type} {h : List HB} {o : Option α} {f : α→OR} (hf : ∀ a,∀ x ∈ h,x.1 ∉ (f a).wr→x ∈ (f a).h) : Kp h (o.map f) := fun r e => by
 rw [Option.map_eq_some_iff] at e
 obtain ⟨a,_,rfl⟩ := e
 exact hf a
theorem Kp.ifO {h : List HB} {c : Bool} {o : Option OR} (ho : Kp h o) : Kp h (ifO c o) := fun r e => ho r (ifO_some.1 e).2
theorem Kp.one {h : List HB} {r : OR} (hr : ∀ x ∈ h,x.1 ∉ r.wr→x ∈ r.h) : Kp h (some r) := fun r' e => by
 cases e
 exact hr
theorem Kp.arg1 {h : List HB} {f : AV→Option OR} (hf : ∀ a,Kp h (f a)) : ∀ (l : List AV),Kp h (arg1 f l)
 | [] => Kp.non
 | [a] => hf a
 | _ :: _ :: _ => Kp.non
theorem Vh {b : Nat} {cs : List AC} {x : HB} : ∀ {h : List HB},x ∈ h→x.1 ≠ b→x ∈ Rw b cs h
 | y :: h,hx,hn => by
  unfold Rw
  cases e : Nat.beq b y.1 with
  | true =>
   rcases List.mem_cons.1 hx with rfl | q
   ·rw [Nat.beq_eq] at e
    exact absurd e.symm hn
   ·simp [Vh q hn]
  | false =>
   rcases List.mem_cons.1 hx with rfl | q
   ·simp
   ·simp [Vh q hn]
theorem Kp.fn {h : List HB} {nx : Nat} {S : Sx} {call : OA} {f : FuncId} {args : List AV} : Kp h (fnB S call f args h nx) := by
 unfold fnB
 refine Kp.ifO ?_
 split
 ·exact Kp.bind fun p => Kp.ifO (Kp.one fun x hx _ => List.mem_append_left _ hx)
 ·refine Kp.bind fun p => Kp.ifO (Kp.one fun x hx hn => ?_)
  dsimp only at hn ⊢
  unfold MV
  split
  ·exact hx
  ·exact List.mem_append_left _ (List.mem_filter.2 ⟨hx,by rw [Bool.not_eq_true',memN_not]; exact hn⟩)
theorem Kp.bif {h : List HB} {c : Bool} {o o' : Option OR} (ho : Kp h o) (ho' : Kp h o') : Kp h (bif c then o else o') := by
 cases c
 ·exact ho'
 ·exact ho
theorem Kp.app {S : Sx} {h : List HB} {nx : Nat} {e : TypeId} {s x : AC} : Kp h (LA S h nx e s x) := by
 unfold LA
 refine Kp.bind fun z => Kp.bind fun m => Kp.bif (Kp.ifO (Kp.one fun x hx _ => hx)) (Kp.bind fun y => Kp.bind fun ys => Kp.bind fun bt => Kp.bind fun zc => Kp.ifO (Kp.bif (Kp.one fun x hx _ => List.mem_append_left _ hx) ?_))
 split
 ·exact Kp.bind fun xs => Kp.ifO (Kp.one fun x hx _ => List.mem_append_left _ hx)
 ·refine Kp.bind fun p => Kp.bind fun xs => Kp.ifO (Kp.one fun x hx hn => List.mem_append_left _ (List.mem_filter.2 ⟨hx,?_⟩))
  rw [Bool.not_eq_true']
  cases hb : Nat.beq x.1 p.1 with
  | false => rfl
  | true => exact absurd (by rw [Nat.eq_of_beq_eq_true hb]; exact List.mem_cons_self) hn
theorem Kp.cpy {P : Program} {h : List HB} {nx : Nat} {t : TypeId} {d s : AV} : Kp h (Hu P h nx t d s) := by
 unfold Hu
 exact Kp.bind fun e => Kp.bind fun z => Kp.bind fun p => Kp.bind fun q => Kp.bind fun ys => Kp.bind fun xs => Kp.ifO (Kp.map fun a x hx hn => Vh hx (by simpa using hn))
theorem Kp.appO {S : Sx} {h : List HB} {nx : Nat} {e : TypeId} {s x : AC} : Kp h (appO S h nx e s x) := by
 unfold Cx.appO
 split
 ·rename_i r hr
  intro r' e
  cases e
  have : Kp h (LS S h nx e s x) := by
   unfold LS
   exact Kp.bind fun z => Kp.bind fun p => Kp.bind fun y => Kp.bind fun xs => Kp.ifO (Kp.map fun a x hx hn => Vh hx (by simpa using hn))
  exact this r hr
 ·exact Kp.app
theorem Kp.clr {P : Program} {h : List HB} {nx : Nat} {t : TypeId} {x : AV} : Kp h (AE P h nx t x) := by
 unfold AE
 exact Kp.bind fun e => Kp.bind fun z => Kp.bind fun zs => Kp.bind fun p => Kp.bind fun ys => Kp.ifO (Kp.map fun a x hx hn => Vh hx (by simpa using hn))
theorem Kp.sliceO {P : Program} {h : List HB} {nx : Nat} {t : TypeId} {x : AV} {lo hi : Option (Option AV)} : Kp h (sliceO P h nx t x lo hi) := by
 unfold Cx.sliceO
 exact Kp.bind fun e => Kp.bind fun z => Kp.bind fun p => Kp.bind fun k => Kp.bind fun l => Kp.bind fun cs => Kp.ifO (Kp.one fun x hx _ => hx)
theorem NR {S : Sx} {call : OA} {ρ : Operand→Option AV} {h : List HB} {nx : Nat} {op : Op} : Kp h (opB S call ρ h nx op) := by
 unfold opB
 split
 all_goals
  repeat' first
   | exact Kp.non
   | exact Kp.fn
   | exact Kp.appO
   | exact Kp.clr
   | exact Kp.sliceO
   | exact Kp.cpy
   | refine Kp.bif ?_ ?_
   | exact Kp.map fun a x hx _ => hx
   | exact Kp.map fun a x hx _ => List.mem_append_left _ hx
   | exact Kp.map fun a x hx hn => Vh hx (by simpa using hn)
   | exact Kp.one fun x hx _ => hx
   | exact Kp.one fun x hx _ => List.mem_append_left _ hx
   | refine Kp.ifO ?_
   | refine Kp.arg1 (fun a => ?_) _
   | refine Kp.bind fun a => ?_
   | split
theorem KB (N : Knows S E) (hP : Iq S E w0) (hC : Rs S E w0 call) {tm : List (Nat × AV)} : ∀ {os : List Oper} {i : Nat} {prev : Rr} {h : List HB} {nx : Nat} {rs : List OR},Km S call tm i os prev h nx=some rs→Lay S E w0 tm i os prev h nx rs
 | [],i,prev,h,nx,rs,hr => by
  cases hr
  trivial
 | o :: os,i,prev,h,nx,rs,hr => by
  unfold Km at hr
  simp only [Option.bind_eq_some_iff,ifO_some,Option.map_eq_some_iff,Bool.and_eq_true,List.all_eq_true] at hr
  obtain ⟨wt,h1,r,h2,⟨⟨h3,h4⟩,h6⟩,l,h5,rfl⟩ := hr
  have hsame : ∀ b ∈ r.wr,b ∈ r.rd→Gp b h r.h=true := fun b hb hd => by
   have := h6 b hb
   rw [Bool.or_eq_true,Bool.not_eq_true',memN_not] at this
   exact this.resolve_left fun q => q hd
  have hkeep : ∀ x ∈ h,x.1 ∉ r.wr→x ∈ r.h := by
   cases wt with
   | true => exact NR r h2
   | false =>
    cases h2
    exact fun x hx _ => hx
  have hkp : Kept h r := ⟨fun x hx hn => by
   by_cases q : x.1 ∈ r.wr
   ·exact Hv (hsame _ q (Classical.byContradiction fun q' => hn (mem_wrs.2 ⟨q,q'⟩))) hx rfl
   ·exact hkeep x hx q,fun x hx q1 q2 => Ai (hsame _ q1 q2) hx rfl⟩
  refine ⟨⟨wt,h1,fun e => ?_,fun e => ?_⟩,fun b hb => by simpa [Nat.blt_eq] using h3 b hb,fun b hb => by simpa [Nat.blt_eq] using h4 b hb,hkp,KB N hP hC h5⟩
  ·subst e
   exact opB_ok N hP hC h2
  ·subst e
   cases h2
   rfl
end
end Cx
/- VN -/
namespace Cx
open Go Go.RowKit
def OQ : Nat→Exit
 | 0 => .normal
 | 1 => .ret
 | n+2 => .exit n
section
variable {S : Sx} {E : Ev S.nb} {w0 : World} {call : OA} {n : Nat}
structure Stt (S : Sx) (E : Ev S.nb) (w0 : World) (n : Nat) (s : St) (γ : Nat→Option Nat) (a : Act) (w : World) : Prop where
 wi : WI w0 γ w
 tm : ∀ t v,Ut t s.tm=some v→avOn (cOn E S.K γ w) v (a.tmps.getD t undef)
 bx : ∀ x ∈ s.h,boxOn E S.K γ w x
 lt : ∀ x ∈ s.h,x.1 < s.nx
 sz : a.tmps.size=n
 df : a.defers=[]
theorem Stt.live {s : St} {γ : Nat→Option Nat} {a : Act} {w : World} (hs : Stt S E w0 n s γ a w) : ∀ b ∈ s.h.map (·.1),Gb γ b := fun b hb => by
 obtain ⟨x,hx,rfl⟩ := List.mem_map.1 hb
 exact (hs.bx x hx).live
def RunOk (S : Sx) (E : Ev S.nb) (w0 : World) (n : Nat) (f : St→Option (Nat × St)) (wp : (Exit→Act→World→Prop)→Act→World→Prop) : Prop :=
 ∀ s e s',f s=some (e,s')→s.nx≤s'.nx∧(∀ x ∈ s'.h,x.1 ∈ s.h.map (·.1) ∨ (s.nx≤x.1∧x.1 < s'.nx))∧∀ (γ : Nat→Option Nat) (a : Act) (w : World) (Q : Exit→Act→World→Prop),Stt S E w0 n s γ a w→(∀ b,s.nx≤b→b < s'.nx→γ b=none) →
  (∀ a' w' γ',Ef S.nb w0 (s.h.map (·.1)) s.nx s'.nx γ w γ' w'→Stt S E w0 n s' γ' a' w'→Q (OQ e) a' w')→wp Q a w
theorem Kr : ∀ {os : List Oper} {seen : List Nat},Bq n seen os=true→(os.filterMap (·.dst)).Nodup∧(∀ t ∈ os.filterMap (·.dst),t ∉ seen)∧∀ o ∈ os,∀ t,o.dst=some t→t < n
 | [],seen,_ => ⟨List.nodup_nil,by simp,by simp⟩
 | o :: os,seen,h => by
  unfold Bq at h
  cases hd : o.dst with
  | none =>
   rw [hd] at h
   obtain ⟨h1,h2,h3⟩ := Kr h
   rw [List.filterMap_cons_none hd]
   exact ⟨h1,h2,fun o' ho' t ht => by
    rcases List.mem_cons.1 ho' with rfl | ho'
    ·rw [hd] at ht; cases ht
    ·exact h3 o' ho' t ht⟩
  | some u =>
   rw [hd] at h
   simp only [Bool.and_eq_true,Bool.not_eq_true',memN_not] at h
   obtain ⟨h1,h2,h3⟩ := h
   obtain ⟨g1,g2,g3⟩ := Kr h3
   rw [List.filterMap_cons_some hd]
   refine ⟨List.nodup_cons.2 ⟨fun q => g2 u q List.mem_cons_self,g1⟩,fun t ht => ?_,fun o' ho' t ht => ?_⟩
   ·rcases List.mem_cons.1 ht with rfl | ht
    ·exact h2
    ·exact fun q => g2 t ht (List.mem_cons_of_mem _ q)
   ·rcases List.mem_cons.1 ho' with rfl | ho'
    ·rw [hd] at ht
     cases ht
     simpa [Nat.blt_eq] using h1
    ·exact g3 o' ho' t ht
theorem RunOk.region (hm : S.P.follows .mixedOrders=true) (N : Knows S E) (hP : Iq S E w0) (hC : Rs S E w0 call) (id : Nat) (os : Array Oper) (dr : Bool) :
  RunOk S E w0 n (OM S call n (.region id os dr)) (fun Q a w => (Code.region id os dr).wp S.P Q a w) := by
 intro s e s' hr
 unfold OM at hr
 simp only [ifO_some,Option.bind_eq_some_iff,Bool.and_eq_true] at hr
 obtain ⟨⟨h1,h2⟩,rs,h3,h4,h5⟩ := hr
 cases h5
 have hlay := KB N hP hC h3
 obtain ⟨d1,_,d3⟩ := Kr h1
 have mk : ∀ a : Act,a.tmps.size=n→(∀ x ∈ s.h,x.1 < s.nx)→RS S E w0 s.tm os.toList rs s.h s.nx a := fun a ha hlt => ⟨hlay,h4,d1,fun o ho t ht => by rw [ha]; exact d3 o ho t ht,hlt⟩
 have le : ∀ (rs' : List OR) (os' : List Oper) (i : Nat) (prev : Rr) (h : List HB) (nx : Nat),Lay S E w0 s.tm i os' prev h nx rs'→nx≤Uu nx rs'∧∀ x ∈ OH h rs',x.1 ∈ h.map (·.1) ∨ (nx≤x.1∧x.1 < Uu nx rs') := by
  intro rs'
  induction rs' with
  | nil => exact fun os' i prev h nx _ => ⟨Nat.le_refl _,fun x hx => Or.inl (List.mem_map_of_mem hx)⟩
  | cons r rs' ih =>
   intro os' i prev h nx hl
   cases os' with
   | nil => exact hl.elim
   | cons o os' =>
    obtain ⟨⟨wt,_,g1,g2⟩,_,_,_,hl'⟩ := hl
    obtain ⟨q1,q2⟩ := ih os' (i+1) _ _ _ hl'
    have hh : nx≤r.nx∧∀ x ∈ r.h,x.1 ∈ h.map (·.1) ∨ (nx≤x.1∧x.1 < r.nx) := by
     cases wt with
     | true =>
      have := g1 rfl
      refine ⟨this.le,fun x hx => ?_⟩
      rcases this.fp x hx with q | q | q
      ·exact Or.inl (List.mem_map_of_mem q)
      ·obtain ⟨y,hy,e⟩ := this.wh _ q
       exact Or.inl (e ▸ List.mem_map_of_mem hy)
      ·exact Or.inr q
     | false =>
      rw [g2 rfl]
      exact ⟨Nat.le_refl _,fun x hx => Or.inl (List.mem_map_of_mem hx)⟩
    refine ⟨Nat.le_trans hh.1 q1,fun x hx => ?_⟩
    rcases q2 x hx with q | q
    ·obtain ⟨y,hy,e⟩ := List.mem_map.1 q
     rcases hh.2 y hy with q' | q'
     ·exact Or.inl (e ▸ q')
     ·rw [e] at q'
      exact Or.inr ⟨q'.1,Nat.lt_of_lt_of_le q'.2 q1⟩
    ·exact Or.inr ⟨Nat.le_trans hh.1 q.1,q.2⟩
 obtain ⟨le1,le2⟩ := le rs os.toList 0 [] s.h s.nx hlay
 refine ⟨le1,le2,fun γ a w Q hs hf hQ => ?_⟩
 have := Sg (id := id) (dr := dr) (Q := Q) hm h2 (mk a hs.sz hs.lt) hs.wi hs.tm hs.bx hf (fun a' w' γ' hef htm hbx hsz hdf => hQ a' w' γ' hef ⟨hef.wi,htm,hbx,fun x hx => ?_,hsz.trans hs.sz,hdf.trans hs.df⟩)
 ·simpa using this
 ·rcases le2 x hx with q | q
  ·obtain ⟨y,hy,e⟩ := List.mem_map.1 q
   have := hs.lt y hy
   dsimp only
   omega
  ·exact q.2
theorem Ef.seq {s s1 s2 : St} {γ γ1 γ2 : Nat→Option Nat} {w w1 w2 : World} (h : Ef S.nb w0 (s.h.map (·.1)) s.nx s1.nx γ w γ1 w1) (k : Ef S.nb w0 (s1.h.map (·.1)) s1.nx s2.nx γ1 w1 γ2 w2) (h1 : s.nx≤s1.nx) (h2 : s1.nx≤s2.nx) (hf : ∀ b,s.nx≤b→b < s2.nx→γ b=none)
  (hi : ∀ x ∈ s1.h,x.1 ∈ s.h.map (·.1) ∨ (s.nx≤x.1∧x.1 < s1.nx)) : Ef S.nb w0 (s.h.map (·.1)) s.nx s2.nx γ w γ2 w2 :=
 h.trans k h1 h2 hf fun b hb => by
  obtain ⟨x,hx,e⟩ := List.mem_map.1 hb
  rw [← e]
  exact hi x hx
theorem EM {s s1 s2 : St} (h1 : s.nx≤s1.nx) (h2 : s1.nx≤s2.nx) (hi : ∀ x ∈ s1.h,x.1 ∈ s.h.map (·.1) ∨ (s.nx≤x.1∧x.1 < s1.nx)) (hj : ∀ x ∈ s2.h,x.1 ∈ s1.h.map (·.1) ∨ (s1.nx≤x.1∧x.1 < s2.nx)) : ∀ x ∈ s2.h,x.1 ∈ s.h.map (·.1) ∨ (s.nx≤x.1∧x.1 < s2.nx) := fun x hx => by
 rcases hj x hx with q | q
 ·obtain ⟨y,hy,e⟩ := List.mem_map.1 q
  rcases hi y hy with q' | q'
  ·exact Or.inl (e ▸ q')
  ·rw [e] at q'
   exact Or.inr ⟨q'.1,by omega⟩
 ·exact Or.inr ⟨by omega,q.2⟩
theorem Dc {e : Nat} (h : Nat.beq e 0=false) : OQ e ≠ .normal := by
 match e,h with
 | 0,h => cases h
 | 1,_ => simp [OQ]
 | n+2,_ => simp [OQ]
theorem Kt {K : Act→World→Prop} {Q : Exit→Act→World→Prop} {e : Exit} {a : Act} {w : World} (he : e ≠ .normal) (h : Q e a w) : Exit.then K Q e a w := by
 cases e <;> first | exact h | exact absurd rfl he
theorem Pc {id e : Nat} {Q : Exit→Act→World→Prop} {a : Act} {w : World} (he : Nat.beq e (id+2)=false) (h : Q (OQ e) a w) : Exit.inBlock id Q (OQ e) a w := by
 match e,he with
 | 0,_ => exact h
 | 1,_ => exact h
 | k+2,he =>
  show (if k=id then Q .normal a w else Q (.exit k) a w)
  rw [if_neg (fun q => by rw [q,Nat.beq_refl] at he; cases he)]
  exact h
theorem UQ (hm : S.P.follows .mixedOrders=true) (N : Knows S E) (hP : Iq S E w0) (hC : Rs S E w0 call) : ∀ (c : Code),RunOk S E w0 n (OM S call n c) (fun Q a w => c.wp S.P Q a w)
 | .region id os dr => RunOk.region hm N hP hC id os dr
 | .skip => fun s e s' hr => by
  cases hr
  exact ⟨Nat.le_refl _,fun x hx => Or.inl (List.mem_map_of_mem hx),fun γ a w Q hs _ hQ => wp_skip (hQ a w γ (Ef.refl hs.wi _ _ hs.live) hs)⟩
 | .exit id => fun s e s' hr => by
  cases hr
  exact ⟨Nat.le_refl _,fun x hx => Or.inl (List.mem_map_of_mem hx),fun γ a w Q hs _ hQ => wp_exit (hQ a w γ (Ef.refl hs.wi _ _ hs.live) hs)⟩
 | .ret => fun s e s' hr => by
  cases hr
  exact ⟨Nat.le_refl _,fun x hx => Or.inl (List.mem_map_of_mem hx),fun γ a w Q hs _ hQ => wp_ret (hQ a w γ (Ef.refl hs.wi _ _ hs.live) hs)⟩
 | .seq c1 c2 => fun s e s' hr => by
  unfold OM at hr
  rw [Option.bind_eq_some_iff] at hr
  obtain ⟨⟨e1,s1⟩,h1,hr⟩ := hr
  obtain ⟨l1,i1,r1⟩ := UQ hm N hP hC c1 s e1 s1 h1
  dsimp only at hr
  cases hz : Nat.beq e1 0 with
  | true =>
   rw [hz] at hr
   obtain ⟨l2,i2,r2⟩ := UQ hm N hP hC c2 s1 e s' hr
   rw [Nat.beq_eq] at hz
   subst hz
   refine ⟨Nat.le_trans l1 l2,EM l1 l2 i1 i2,fun γ a w Q hs hf hQ => wp_seq (r1 γ a w _ hs (fun b q1 q2 => hf b q1 (by omega)) fun a1 w1 γ1 he1 hs1 => ?_)⟩
   refine r2 γ1 a1 w1 Q hs1 (fun b q1 q2 => ?_) fun a2 w2 γ2 he2 hs2 => hQ a2 w2 γ2 (he1.seq he2 l1 l2 hf i1) hs2
   rw [he1.same b (by omega)]
   exact hf b (by omega) q2
  | false =>
   rw [hz] at hr
   cases hr
   exact ⟨l1,i1,fun γ a w Q hs hf hQ => wp_seq (r1 γ a w _ hs hf fun a1 w1 γ1 he1 hs1 => Kt (Dc hz) (hQ a1 w1 γ1 he1 hs1))⟩
 | .cond x c1 c2 => fun s e s' hr => by
  unfold OM at hr
  split at hr
  ·rename_i t
   simp only [Option.bind_eq_some_iff] at hr
   obtain ⟨v,h1,b,h2,hr⟩ := hr
   cases b with
   | true =>
    obtain ⟨l,i,r⟩ := UQ hm N hP hC c1 s e s' hr
    exact ⟨l,i,fun γ a w Q hs hf hQ => wp_cond_true (Im h2 (hs.tm t v h1)) (r γ a w Q hs hf hQ)⟩
   | false =>
    obtain ⟨l,i,r⟩ := UQ hm N hP hC c2 s e s' hr
    exact ⟨l,i,fun γ a w Q hs hf hQ => wp_cond_false (Im h2 (hs.tm t v h1)) (r γ a w Q hs hf hQ)⟩
  ·cases hr
 | .block id c => fun s e s' hr => by
  unfold OM at hr
  rw [Option.map_eq_some_iff] at hr
  obtain ⟨⟨e1,s1⟩,h1,hr⟩ := hr
  obtain ⟨l,i,r⟩ := UQ hm N hP hC c s e1 s1 h1
  dsimp only at hr
  cases hz : Nat.beq e1 (id+2) with
  | true =>
   rw [hz] at hr
   cases hr
   rw [Nat.beq_eq] at hz
   subst hz
   refine ⟨l,i,fun γ a w Q hs hf hQ => wp_block (r γ a w _ hs hf fun a1 w1 γ1 he1 hs1 => ?_)⟩
   show (if id=id then Q .normal a1 w1 else Q (.exit id) a1 w1)
   rw [if_pos rfl]
   exact hQ a1 w1 γ1 he1 hs1
  | false =>
   rw [hz] at hr
   cases hr
   exact ⟨l,i,fun γ a w Q hs hf hQ => wp_block (r γ a w _ hs hf fun a1 w1 γ1 he1 hs1 => Pc hz (hQ a1 w1 γ1 he1 hs1))⟩
 | .loop c => fun s e s' hr => by
  unfold OM at hr
  have hc := UQ hm N hP hC c
  have key : ∀ (k : Nat) (s : St) (e : Nat) (s' : St),EF (OM S call n c) k s=some (e,s')→s.nx≤s'.nx∧(∀ x ∈ s'.h,x.1 ∈ s.h.map (·.1) ∨ (s.nx≤x.1∧x.1 < s'.nx))∧∀ (γ : Nat→Option Nat) (a : Act) (w : World) (Q : Exit→Act→World→Prop),Stt S E w0 n s γ a w→(∀ b,s.nx≤b→b < s'.nx→γ b=none) →
    (∀ a' w' γ',Ef S.nb w0 (s.h.map (·.1)) s.nx s'.nx γ w γ' w'→Stt S E w0 n s' γ' a' w'→Q (OQ e) a' w')→Code.rounds S.P c Q k a w := by
   intro k
   induction k with
   | zero => intro s e s' hr; cases hr
   | succ k ih =>
    intro s e s' hr
    unfold EF at hr
    rw [Option.bind_eq_some_iff] at hr
    obtain ⟨⟨e1,s1⟩,h1,hr⟩ := hr
    obtain ⟨l1,i1,r1⟩ := hc s e1 s1 h1
    dsimp only at hr
    cases hz : Nat.beq e1 0 with
    | true =>
     rw [hz] at hr
     obtain ⟨l2,i2,r2⟩ := ih s1 e s' hr
     rw [Nat.beq_eq] at hz
     subst hz
     refine ⟨Nat.le_trans l1 l2,EM l1 l2 i1 i2,fun γ a w Q hs hf hQ => ?_⟩
     show c.wp S.P (Exit.then (fun a w => Code.rounds S.P c Q k a w) Q) a w
     refine r1 γ a w _ hs (fun b q1 q2 => hf b q1 (by omega)) fun a1 w1 γ1 he1 hs1 => ?_
     refine r2 γ1 a1 w1 Q hs1 (fun b q1 q2 => ?_) fun a2 w2 γ2 he2 hs2 => hQ a2 w2 γ2 (he1.seq he2 l1 l2 hf i1) hs2
     rw [he1.same b (by omega)]
     exact hf b (by omega) q2
    | false =>
     rw [hz] at hr
     cases hr
     refine ⟨l1,i1,fun γ a w Q hs hf hQ => ?_⟩
     show c.wp S.P (Exit.then (fun a w => Code.rounds S.P c Q k a w) Q) a w
     exact r1 γ a w _ hs hf fun a1 w1 γ1 he1 hs1 => Kt (Dc hz) (hQ a1 w1 γ1 he1 hs1)
  obtain ⟨l,i,r⟩ := key 100 s e s' hr
  exact ⟨l,i,fun γ a w Q hs hf hQ => wp_loop_rounds 100 (r γ a w Q hs hf hQ)⟩
 | .rangeFunc _ _ _ _ => fun _ _ _ hr => by cases hr
 | .scope _ => fun _ _ _ hr => by cases hr
 | .label _ => fun _ _ _ hr => by cases hr
 | .goto _ => fun _ _ _ hr => by cases hr
 | .refuse _ => fun _ _ _ hr => by cases hr
end
end Cx
/- VO -/
namespace Cx
open Go Go.RowKit
section
variable {S : Sx} {E : Ev S.nb} {w0 : World} {n : Nat}
def Hc (tmps : Array Value) : ResultVar→Sem Value
 | .tmp t => pure (tmps.getD t undef)
 | .cell a t => do loadVar t (← asAddr (tmps.getD a undef))
theorem res_run {s : St} {γ : Nat→Option Nat} {a : Act} {w : World} (hs : Stt S E w0 n s γ a w) {v : ResultVar} {x : A1} (hx : Hi S.P s v=some x) : ∃ u,(Hc a.tmps v).run S.P w=.ok u w∧a1On (cOn E S.K γ w) x u := by
 have one : ∀ {y : AV} {u : Value},one1 y=some x→avOn (cOn E S.K γ w) y u→a1On (cOn E S.K γ w) x u := fun {y u} h1 h2 => by
  unfold one1 at h1
  split at h1
  ·cases h1
   exact h2.1
  ·cases h1
 cases v with
 | tmp t =>
  unfold Hi at hx
  rw [Option.bind_eq_some_iff] at hx
  obtain ⟨y,h1,h2⟩ := hx
  exact ⟨_,rfl,one h2 (hs.tm t y h1)⟩
 | cell t ty =>
  unfold Hi at hx
  simp only [Option.bind_eq_some_iff] at hx
  obtain ⟨y,h1,p,h2,cs,h3,z,h4,h5⟩ := hx
  obtain ⟨G,hG,e⟩ := OT h2 (hs.tm t y h1)
  obtain ⟨G',vs,t',g1,_,⟨us,g2,_⟩,g3,g4⟩ := hs.bx (p.1,cs) (ZG h3)
  rw [hG] at g1
  cases g1
  obtain ⟨u,hu,hv⟩ := Tz g2 h4 g4
  refine ⟨u,?_,one h5 hv⟩
  show (asAddr (a.tmps.getD t undef) >>= fun q => loadVar ty q : Sem Value).run S.P w=_
  rw [e]
  exact hu
theorem SO {s : St} {γ : Nat→Option Nat} {a : Act} {w : World} (hs : Stt S E w0 n s γ a w) : ∀ {l : List ResultVar} {xs : List A1},Jc (Hi S.P s) l=some xs→∃ us : List Value,(l.mapM (Hc a.tmps)).run S.P w=.ok us w∧A2 (a1On (cOn E S.K γ w)) xs us
 | [],_,h => by
  cases h
  exact ⟨[],rfl,trivial⟩
 | v :: l,xs,h => by
  unfold Jc at h
  simp only [Option.bind_eq_some_iff,Option.map_eq_some_iff] at h
  obtain ⟨x,h1,ys,h2,rfl⟩ := h
  obtain ⟨u,hu,hx⟩ := res_run hs h1
  obtain ⟨us,hus,hxs⟩ := SO hs h2
  refine ⟨u :: us,?_,hx,hxs⟩
  rw [List.mapM_cons,Sem.run_bind,hu]
  show ((l.mapM (Hc a.tmps)) >>= fun ys => pure (u :: ys) : Sem (List Value)).run S.P w=_
  rw [Sem.run_bind,hus]
  rfl
theorem tup_on {R : AC→Value→Prop} {xs : List A1} {us : List Value} (h : A2 (a1On R) xs us) : avOn R (tupB xs) (if hh : us.toArray.size=1 then us.toArray[0] else .tuple us.toArray) := by
 match xs,us,h with
 | [],[],h => exact ⟨[],rfl,h⟩
 | [x],[u],h => exact h
 | x :: y :: xs,u :: v :: us,h => exact ⟨u :: v :: us,by simp,h⟩
theorem SS {fn : Func} {s : St} {γ : Nat→Option Nat} {a : Act} {w : World} (hs : Stt S E w0 n s γ a w) {xs : List A1} (hx : Jc (Hi S.P s) fn.results.toList=some xs) : ∃ v,(results fn a.tmps).run S.P w=.ok v w∧avOn (cOn E S.K γ w) (tupB xs) v := by
 obtain ⟨us,hu,hA⟩ := SO hs hx
 refine ⟨_,?_,tup_on hA⟩
 have e : results fn a.tmps=(fn.results.mapM (Hc a.tmps) >>= fun vs => pure (if h : vs.size=1 then vs[0] else .tuple vs)) := by
  unfold results
  congr 1
 have e2 : fn.results.mapM (Hc a.tmps)=List.toArray <$> (fn.results.toList.mapM (Hc a.tmps)) := by
  rw [← List.mapM_toArray]
 rw [e,Sem.run_bind,e2,Sem.run_map,hu]
 rfl
theorem Pt : ∀ {args : List AV} {i t : Nat} {v : AV},Ut t (EN i args)=some v→i≤t∧args[t - i]? = some v
 | [],_,_,_,h => by cases h
 | a :: args,i,t,v,h => by
  unfold EN Ut at h
  cases e : Nat.beq t i with
  | true =>
   rw [e] at h
   cases h
   rw [Nat.beq_eq] at e
   subst e
   exact ⟨Nat.le_refl _,by simp⟩
  | false =>
   rw [e] at h
   obtain ⟨h1,h2⟩ := Pt (args := args) h
   refine ⟨by omega,?_⟩
   rw [show t - i=t - (i+1)+1 by omega]
   simpa using h2
theorem Cc (hm : S.P.follows .mixedOrders=true) (N : Knows S E) (hP : Iq S E w0) : ∀ k,Rs S E w0 (PH S k)
 | 0 => fun _ _ _ _ _ h => by cases h
 | k+1 => fun f args h nx p hp γ w vs hi hA hb hlt hf => by
  unfold PH at hp
  simp only [Option.bind_eq_some_iff,ifO_some,Option.map_eq_some_iff,Nat.ble_eq] at hp
  obtain ⟨fn,h1,c,h2,h3,⟨e,s'⟩,h4,h5,xs,h6,rfl⟩ := hp
  dsimp only at h5 h6
  rcases (show e=0 ∨ e=1 by omega) with rfl | rfl
  all_goals
   obtain ⟨_,_,r⟩ := UQ hm N hP (Cc hm N hP k) c _ _ _ h4
   refine calls_of_wp h1 h2 (r γ _ w _ ⟨hi,fun t v q => ?_,hb,hlt,?_,rfl⟩ hf fun a' w' γ' hef hs => ?_)
   ·obtain ⟨_,q2⟩ := Pt q
    rw [Nat.sub_zero] at q2
    obtain ⟨u,hu,hv⟩ := hA.get q2
    have hlt : t < vs.length := (List.getElem?_eq_some_iff.1 hu).1
    have : (vs.toArray ++ Array.replicate (fn.ntmps - vs.toArray.size) undef).getD t undef=u := by
     rw [Array.getD_eq_getD_getElem?,Array.getElem?_append_left (by simpa using hlt)]
     simp [hu]
    show avOn _ v ((vs.toArray ++ Array.replicate (fn.ntmps - vs.toArray.size) undef).getD t undef)
    rw [this]
    exact hv
   ·have := hA.len
    simp
    omega
   ·obtain ⟨v,hv,hx⟩ := SS hs h6
    exact ⟨hs.df,v,hv,v,γ',rfl,hef,hx,hs.bx⟩
end
end Cx
/- QSD -/
namespace Go.Proofs.YthhnabccdehmgaaGreatDoor
open Go.RowKit Cx
theorem QS.div {k l : Nat} {a b : Rat} (h1 : QS k a) (h2 : QS l b) : QS (k+l) (a / b) := by
 rw [Rat.div_def]
 by_cases h0 : b.num=0
 ·rw [Rat.num_eq_zero.1 h0,Rat.inv_zero,Rat.mul_zero]
  exact QS.zero.mono (by have := h1.pos; omega)
 ·exact h1.mul (h2.inv h0)
end Go.Proofs.YthhnabccdehmgaaGreatDoor
/- MathX -/
namespace Cx
open Go
def gN (qs : List Rat) : Nat := qs.foldl (fun g q => Nat.gcd g q.num.natAbs) 0
def lD (qs : List Rat) : Nat := qs.foldl (fun m q => m*(q.den / Nat.gcd m q.den)) 1
def fb : List Rat→Bool
 | [] => false
 | q :: r => if q.num=0 then fb r else decide (q.num < 0)
def pl (G M : Nat) (flip : Bool) (q : Rat) : Rat := ((sg (decide (q.num < 0) != flip) (q.num.natAbs / G*(M / q.den)) : Int) : Rat)
def plain (qs : List Rat) : List Rat := qs.map (pl (gN qs) (lD qs) (fb qs))
theorem lD_take {qs : List Rat} {k : Nat} (h : k < qs.length) : lD (qs.take (k+1))=lD (qs.take k)*((qs[k]).den / Nat.gcd (lD (qs.take k)) (qs[k]).den) := by
 unfold lD; rw [List.take_succ_eq_append_getElem h,List.foldl_append]; rfl
theorem Ni (l : List Rat) (g : Nat) : (l.foldl (fun g q => Nat.gcd g q.num.natAbs) g) ∣ g∧∀ q ∈ l,(l.foldl (fun g q => Nat.gcd g q.num.natAbs) g) ∣ q.num.natAbs := by
 induction l generalizing g with
 | nil => exact ⟨Nat.dvd_refl _,fun q hq => by simp at hq⟩
 | cons a l ih =>
  obtain ⟨h1,h2⟩ := ih (Nat.gcd g a.num.natAbs)
  refine ⟨Nat.dvd_trans h1 (Nat.gcd_dvd_left _ _),fun q hq => ?_⟩
  rcases List.mem_cons.1 hq with rfl | hq
  ·exact Nat.dvd_trans h1 (Nat.gcd_dvd_right _ _)
  ·exact h2 q hq
theorem Lo {qs : List Rat} {q : Rat} (h : q ∈ qs) : gN qs ∣ q.num.natAbs := (Ni qs 0).2 q h
theorem Nz (l : List Rat) (m : Nat) : m ∣ (l.foldl (fun m q => m*(q.den / Nat.gcd m q.den)) m)∧∀ q ∈ l,q.den ∣ (l.foldl (fun m q => m*(q.den / Nat.gcd m q.den)) m) := by
 induction l generalizing m with
 | nil => exact ⟨Nat.dvd_refl _,fun q hq => by simp at hq⟩
 | cons a l ih =>
  obtain ⟨h1,h2⟩ := ih (m*(a.den / Nat.gcd m a.den))
  refine ⟨Nat.dvd_trans (Nat.dvd_mul_right _ _) h1,fun q hq => ?_⟩
  rcases List.mem_cons.1 hq with rfl | hq
  ·refine Nat.dvd_trans ?_ h1
   have : Nat.gcd m q.den ∣ m := Nat.gcd_dvd_left _ _
   obtain ⟨c,hc⟩ := this
   obtain ⟨d,hd⟩ := Nat.gcd_dvd_right m q.den
   have hg : 0 < Nat.gcd m q.den := Nat.gcd_pos_of_pos_right _ (Nat.pos_of_ne_zero q.den_nz)
   generalize Nat.gcd m q.den=g at *
   rw [hd,Nat.mul_div_cancel_left _ hg,hc]
   exact ⟨c,by grind⟩
  ·exact h2 q hq
theorem lD_dvd {qs : List Rat} {q : Rat} (h : q ∈ qs) : q.den ∣ lD qs := (Nz qs 1).2 q h
theorem gN_pos {qs : List Rat} {q : Rat} (h : q ∈ qs) (h0 : q.num ≠ 0) : 0 < gN qs := by
 rcases Nat.eq_zero_or_pos (gN qs) with e | e
 ·have := Lo h
  rw [e] at this
  have := Nat.eq_zero_of_zero_dvd this
  omega
 ·exact e
theorem lD_le {K : Nat} {qs : List Rat} (h : ∀ q ∈ qs,Go.Proofs.YthhnabccdehmgaaGreatDoor.QS K q) : ∀ k,lD (qs.take k)≤2 ^ (k*K)
 | 0 => by simp [lD]
 | k+1 => by
  have ih := lD_le h k
  by_cases hk : k < qs.length
  ·rw [lD_take hk,Nat.succ_mul,Nat.pow_add]
   refine Nat.mul_le_mul ih (Nat.le_trans (Nat.div_le_self _ _) (Nat.le_of_lt (h _ (List.getElem_mem hk)).den))
  ·rw [List.take_of_length_le (by omega)]
   rw [List.take_of_length_le (by omega)] at ih
   exact Nat.le_trans ih (Nat.pow_le_pow_right (by decide) (by rw [Nat.succ_mul]; omega))
theorem pl_zero (G M : Nat) (flip : Bool) {q : Rat} (h : q.num=0) : pl G M flip q=0 := by
 unfold pl
 rw [h]
 simp [sg]
def fac (qs : List Rat) : Rat := mkRat (sg (fb qs) (lD qs)) (gN qs)
theorem Aa {qs : List Rat} {q : Rat} (h : q ∈ qs) : pl (gN qs) (lD qs) (fb qs) q=q*fac qs := by
 by_cases h0 : q.num=0
 ·rw [pl_zero _ _ _ h0,Rat.num_eq_zero.1 h0,Rat.zero_mul]
 ·have hg := gN_pos h h0
  obtain ⟨a,ha⟩ := Lo h
  obtain ⟨b,hb⟩ := lD_dvd h
  have hd : 0 < q.den := Nat.pos_of_ne_zero q.den_nz
  unfold pl fac
  generalize gN qs=G at *
  generalize lD qs=M at *
  rw [ha,Nat.mul_div_cancel_left _ hg,hb,Nat.mul_div_cancel_left _ hd]
  have eq : q=mkRat (sg (decide (q.num < 0)) (G*a)) q.den := by rw [← ha,Ip,Rat.mkRat_self]
  have e1 : ((sg (decide (q.num < 0) != fb qs) (a*b) : Int) : Rat)=mkRat (sg (decide (q.num < 0) != fb qs) (a*b)) 1 := (Rat.mkRat_one _).symm
  rw [e1]
  conv => rhs; lhs; rw [eq]
  rw [Rat.mkRat_mul_mkRat,Rat.mkRat_eq_iff (by decide) (Nat.mul_ne_zero q.den_nz (by omega))]
  generalize decide (q.num < 0)=s
  generalize fb qs=t
  have c1 : ((q.den*G : Nat) : Int)=(q.den : Int)*G := Int.natCast_mul _ _
  rw [c1]
  have m1 : ((a*b : Nat) : Int)=(a : Int)*b := Int.natCast_mul _ _
  have m2 : ((G*a : Nat) : Int)=(G : Int)*a := Int.natCast_mul _ _
  have m3 : ((q.den*b : Nat) : Int)=(q.den : Int)*b := Int.natCast_mul _ _
  generalize (q.den : Int)=D at *
  cases s <;> cases t <;> simp only [sg,bne_self_eq_false,Bool.false_eq_true,if_false,if_true,m1,m2,m3,Bool.true_bne,Bool.false_bne,Bool.not_false] <;> grind
end Cx
/- WK -/
namespace Go.Proofs.YthhnabccdehmgaaGreatDoor
open Go.RowKit Cx
attribute [local go_sem ↓] Go.wp_at_zero Go.wp_at_succ
end Go.Proofs.YthhnabccdehmgaaGreatDoor
/- WL -/
namespace Go.Proofs.YthhnabccdehmgaaGreatDoor
open Go.RowKit Cx
attribute [local go_sem ↓] Go.wp_at_zero Go.wp_at_succ
end Go.Proofs.YthhnabccdehmgaaGreatDoor
