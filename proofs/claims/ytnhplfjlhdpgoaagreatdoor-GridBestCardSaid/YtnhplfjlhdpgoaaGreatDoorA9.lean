/- Part 9 of the walks and of the mathematics under them: VJ VK FLR ZWL VL VLA VM. -/
import Derived.Test.YtnhplfjlhdpgoaaGreatDoorA8
import Derived.Laws.MakeOwn
import Derived.Laws.Strings
import Derived.ArgAppend
import Derived.Laws.CopyRow
set_option maxHeartbeats 16000000
set_option maxRecDepth 100000
/- VJ -/
namespace Cx
open Go Go.RowKit
theorem WJ : ∀ {a b : List Nat},OZ a b=true→a=b
 | [],[],_ => rfl
 | x :: a,y :: b,h => by
  unfold OZ at h
  rw [Bool.and_eq_true,Nat.beq_eq] at h
  rw [h.1,WJ h.2]
 | [],_ :: _,h => by cases h
 | _ :: _,[],h => by cases h
theorem TX {n : Nat} : ∀ (us : List (Nat × Value)) (dss : List (List Value)) (k : Nat) (pre rest : List Value),us.map (·.1)=List.range' k us.length→A2 (fun (ds : List Value) v => v.cells=ds.toArray∧ds.length=n) dss (us.map (·.2))→pre.length=k*n→rest.length=us.length*n →
  Instr.fill (fun i => some (i*n,n)) (pre ++ rest).toArray us=some (pre ++ dss.flatten).toArray
 | [],[],k,pre,rest,_,_,_,hr => by
  have : rest=[] := List.length_eq_zero_iff.1 (by simpa using hr)
  subst this
  rfl
 | [],_ :: _,_,_,_,_,hA,_,_ => hA.elim
 | _ :: _,[],_,_,_,_,hA,_,_ => hA.elim
 | (i,v) :: us,ds :: dss,k,pre,rest,e,hA,hp,hr => by
  rw [List.map_cons,List.length_cons,List.range'_succ] at e
  injection e with e1 e2
  dsimp only at e1
  subst e1
  obtain ⟨⟨h1,h2⟩,hA⟩ := hA
  dsimp only at h1
  rw [List.length_cons,Nat.succ_mul] at hr
  rw [Sp (off := i*n) (n := n) h1 rfl h2 (by rw [List.length_append,hp]; omega)]
  have e3 : (pre ++ rest).take (i*n) ++ (ds ++ (pre ++ rest).drop (i*n+n))=(pre ++ ds) ++ rest.drop n := by
   rw [← hp,List.take_left,List.drop_append]
   simp
  rw [e3,TX us dss (i+1) (pre ++ ds) (rest.drop n) e2 hA (by rw [List.length_append,hp,h2,Nat.succ_mul]) (by rw [List.length_drop]; omega)]
  simp
section
variable {S : Sx} {E : Ev S.nb} {w0 : World} {h : List HB} {nx : Nat} {ρ : Operand→Option AV} {o : Oper}
theorem Br {γ : Nat→Option Nat} {w : World} {a : Act} {n : Nat} (hρ : ∀ x v,ρ x=some v→avOn (cOn E S.K γ w) v (a.eval x)) : ∀ {l : List (Nat × Operand)} {ps : List (List AC)},ZX (fun p => (ρ p.2).bind asL) l=some ps→ps.all (fun cs => Nat.beq cs.length n)=true →
  ∃ dss : List (List Value),A2 (fun (ds : List Value) v => v.cells=ds.toArray∧ds.length=n) dss (l.map fun p => a.eval p.2)∧A2 (cOn E S.K γ w) ps.flatten dss.flatten
 | [],_,hm,_ => by
  cases hm
  exact ⟨[],trivial,trivial⟩
 | p :: l,ps,hm,hl => by
  unfold ZX at hm
  simp only [Option.bind_eq_some_iff,Option.map_eq_some_iff] at hm
  obtain ⟨cs,⟨v,h1,h2⟩,qs,h3,rfl⟩ := hm
  rw [List.all_cons,Bool.and_eq_true,Nat.beq_eq] at hl
  obtain ⟨ds,h4,h5⟩ := PI h2 (hρ _ v h1)
  obtain ⟨dss,h6,h7⟩ := Br hρ h3 hl.2
  exact ⟨ds :: dss,⟨⟨h4,by rw [h5.len]; exact hl.1⟩,h6⟩,by rw [List.flatten_cons,List.flatten_cons]; exact h5.append h7⟩
theorem Kd {t : TypeId} {len : Nat} {parts : Array (Nat × Operand)} {r : OR} (hop : o.op=.buildSlice t len parts) (h0 : len=0) (hr : ((ZH S.P t).bind fun e => (Zh S.P e).bind fun _ => ifO parts.toList.isEmpty (some (QO h nx (v1 (Ni 1)))))=some r) : OpOk S E w0 h nx ρ o r := by
 simp only [Option.bind_eq_some_iff,ifO_some] at hr
 obtain ⟨e,h1,n,h2,h3,h4⟩ := hr
 cases h4
 subst h0
 have hp : parts=#[] := Array.toList_eq_nil_iff.1 (by simpa using h3)
 refine OpOk.calm fun γ w a hρ => ⟨.slice (some ⟨w.heap.size,0,none⟩) 0 0,w.alloc (.cells #[] e),?_,YD _ _,Zk ⟨_,_,rfl,fun _ => rfl⟩⟩
 unfold execOp
 rw [hop]
 refine Zs ?_
 unfold Instr.buildSlice
 rw [Sem.run_bind,Qr (QR h1)]
 show ((Go.sizeOf e) >>= _ : Sem Value).run S.P w=_
 rw [Sem.run_bind,QW h2]
 subst hp
 simp [go_sem,newRow,Instr.fill]
theorem Kk {t : TypeId} {len : Nat} {parts : Array (Nat × Operand)} {r : OR} (hop : o.op=.buildSlice t len parts) (hr : ((ZH S.P t).bind fun e => (Zh S.P e).bind fun n => (ZX (fun p => (ρ p.2).bind asL) parts.toList).bind fun ps =>
   ifO ((!JU e S.nb && (OZ (parts.toList.map (·.1)) (List.range' 0 len) && (Yp S.P e).isSome)) && (ps.all (fun cs => Nat.beq cs.length n) && (Nat.ble (len*n) 16777216 && (Nat.blt 0 len && Nat.blt 0 n))))
    (some (Gw h nx ps.flatten (slc nx 0 len len))))=some r) : OpOk S E w0 h nx ρ o r := by
 simp only [Option.bind_eq_some_iff,ifO_some,Bool.and_eq_true,Nat.ble_eq] at hr
 obtain ⟨e,h1,n,h2,ps,h3,⟨⟨h4,h5,h6⟩,h7,h8,h9,h10⟩,e'⟩ := hr
 cases e'
 have h5 := WJ h5
 have hlen : parts.toList.length=len := by
  have := congrArg List.length h5
  simpa using this
 have hl0 : 0 < len := by simpa [Nat.blt_eq] using h9
 have hn0 : 0 < n := by simpa [Nat.blt_eq] using h10
 rw [Option.isSome_iff_exists] at h6
 obtain ⟨zc,h6⟩ := h6
 refine OpOk.new fun γ w a hρ => ?_
 obtain ⟨dss,g1,g2⟩ := Br (n := n) hρ h3 h7
 obtain ⟨z,g3,_⟩ := UO h6 w
 refine ⟨.slice (some ⟨w.heap.size,0,none⟩) len len,dss.flatten,e,?_,by simpa using h4,g2,fun γ' w' hγ => ⟨_,hγ,rfl⟩⟩
 unfold execOp
 rw [hop]
 refine Zs ?_
 unfold Instr.buildSlice
 rw [Sem.run_bind,Qr (QR h1)]
 show ((Go.sizeOf e) >>= _ : Sem Value).run S.P w=_
 rw [Sem.run_bind,QW h2]
 have hfill : Instr.fill (fun i => some (i*n,n)) ((Array.range (len*n)).map (z.cells[· % z.cells.size]!)) (parts.map fun (i,x) => (i,a.eval x)).toList=some dss.flatten.toArray := by
  have := TX (n := n) ((parts.map fun (i,x) => (i,a.eval x)).toList) dss 0 [] ((Array.range (len*n)).map (z.cells[· % z.cells.size]!)).toList (by simpa [Function.comp_def,hlen] using h5) (by simpa [Function.comp_def] using g1) (by simp) (by
   have : parts.size=len := by simpa using hlen
   simp [this])
  rw [List.nil_append,List.nil_append,Array.toArray_toList] at this
  exact this
 have hne : ¬ (len*n=0) := by
  have := Nat.mul_pos hl0 hn0
  omega
 have hno : ¬ (len*n > 2 ^ 24) := by omega
 show (if len*n > 2 ^ 24 then _ else _ : Sem Value).run S.P w=_
 rw [if_neg hno]
 show (if len*n=0 then _ else (zeroValue e >>= fun v => (pure v.cells >>= fun zero => match Instr.fill (fun i => some (i*n,n)) ((Array.range (len*n)).map (zero[· % zero.size]!)) (parts.map fun (i,x) => (i,a.eval x)).toList with
  | some cells => (newRow e cells >>= fun q => pure (Value.slice (some q) len len) : Sem Value) | x => stuck "buildSlice: a part of the wrong size")) : Sem Value).run S.P w = _
 rw [if_neg hne,Sem.run_bind,g3]
 show (match Instr.fill (fun i => some (i*n,n)) ((Array.range (len*n)).map (z.cells[· % z.cells.size]!)) (parts.map fun (i,x) => (i,a.eval x)).toList with
  | some cells => (newRow e cells >>= fun q => pure (Value.slice (some q) len len) : Sem Value) | x => stuck "buildSlice: a part of the wrong size" : Sem Value).run S.P w = _
 rw [hfill]
 simp [go_sem,newRow]
theorem Gx {t : TypeId} {len : Nat} {parts : Array (Nat × Operand)} {r : OR} (hop : o.op=.buildSlice t len parts) (hr : (bif Nat.beq len 0 then (ZH S.P t).bind fun e => (Zh S.P e).bind fun _ => ifO parts.toList.isEmpty (some (QO h nx (v1 (Ni 1)))) else (ZH S.P t).bind fun e => (Zh S.P e).bind fun n => (ZX (fun p => (ρ p.2).bind asL) parts.toList).bind fun ps =>
   ifO ((!JU e S.nb && (OZ (parts.toList.map (·.1)) (List.range' 0 len) && (Yp S.P e).isSome)) && (ps.all (fun cs => Nat.beq cs.length n) && (Nat.ble (len*n) 16777216 && (Nat.blt 0 len && Nat.blt 0 n))))
    (some (Gw h nx ps.flatten (slc nx 0 len len))))=some r) : OpOk S E w0 h nx ρ o r := by
 cases hz : Nat.beq len 0 with
 | true =>
  rw [hz] at hr
  exact Kd hop (Nat.eq_of_beq_eq_true hz) hr
 | false =>
  rw [hz] at hr
  exact Kk hop hr
theorem CV {zs : List Value} {z : Nat} (hz : zs.length=z) (h0 : 0 < z) : ∀ (n : Nat),(List.range (n*z)).map (fun i => zs.toArray[i % zs.toArray.size]!)=(List.replicate n zs).flatten
 | 0 => by simp
 | n+1 => by
  rw [List.replicate_succ',List.flatten_append,← CV hz h0 n,Nat.add_mul,Nat.one_mul,List.range_add,List.map_append]
  congr 1
  rw [List.map_map]
  apply List.ext_getElem?
  intro i
  rw [List.flatten_cons,List.flatten_nil,List.append_nil,List.getElem?_map]
  by_cases hi : i < z
  ·rw [List.getElem?_range hi,List.getElem?_eq_getElem (by omega)]
   simp only [Option.map_some,Function.comp_apply,List.size_toArray,hz]
   rw [Nat.mul_comm,Nat.mul_add_mod,Nat.mod_eq_of_lt hi]
   simp [hz,hi]
  ·rw [List.getElem?_eq_none (by simpa using hi),List.getElem?_eq_none (by omega)]
   rfl
theorem AH {R : AC→Value→Prop} {cs : List AC} {vs : List Value} (h : A2 R cs vs) : ∀ n,A2 R (repB cs n) (List.replicate n vs).flatten
 | 0 => trivial
 | n+1 => by
  rw [List.replicate_succ,List.flatten_cons]
  exact h.append (AH h n)
theorem Dd {t : TypeId} {l c : Operand} {r : OR} (hop : o.op=.makeSlice t l c) (hr : ((ρ l).bind fun u => (ρ c).bind fun v => mkB S.P S.nb h nx t u v)=some r) : OpOk S E w0 h nx ρ o r := by
 unfold mkB at hr
 simp only [Option.bind_eq_some_iff,ifO_some,Bool.and_eq_true,Nat.ble_eq,Nat.beq_eq] at hr
 obtain ⟨u,h1,v,h2,n,h3,m,h4,e,h5,z,h6,bt,h7,zc,h8,⟨⟨rfl,h9⟩,h10⟩,hr⟩ := hr
 have hz8 := h8
 unfold Yp at hz8
 simp only [Option.bind_eq_some_iff,ifO_some] at hz8
 obtain ⟨ti,k1,zv,k2,k3,k4⟩ := hz8
 cases k4
 have hb : ti.bytes=bt := by
  unfold DV at h7
  rw [k1] at h7
  cases h7
  rfl
 have hs : ti.size=z := by
  unfold Zh at h6
  rw [k1] at h6
  cases h6
  rfl
 have hrun : ∀ (a : Act) (w : World),a.eval l=.int .i64 n→a.eval c=.int .i64 n→(execOp a.eval o).run S.P w=.ok (.value (.slice (some ⟨w.heap.size,0,none⟩) n n)) (w.alloc (.cells (madeCells zv.cells (n*z)) e)) := fun a w e1 e2 => by
  unfold execOp
  rw [hop]
  refine Zs ?_
  rw [e1,e2]
  have hle : ti.bytes*n≤281474976710656 := by
   have : ti.bytes*n≤bt*100000 := by rw [hb]; exact Nat.mul_le_mul_left _ h9
   omega
  have := run_make (P := S.P) w t e ti zv (QR h5) k1 k2 .i64 .i64 n n (by omega) (Int.le_refl _) (by
   have h' : ((ti.bytes*n : Nat) : Int)≤281474976710656 := by omega
   rwa [Int.natCast_mul] at h') (by omega)
  rw [Int.toNat_natCast,hs] at this
  exact this
 cases hn : Nat.beq n 0 with
 | true =>
  rw [hn] at hr
  cases hr
  rw [Nat.beq_eq] at hn
  subst hn
  exact OpOk.calm fun γ w a hρ => ⟨_,_,hrun a w (Uh h3 (hρ l u h1)) (Uh h4 (hρ c v h2)),YD _ _,Zk ⟨_,_,rfl,fun _ => rfl⟩⟩
 | false =>
  rw [hn] at hr
  simp only [cond_false,ifO_some,Bool.and_eq_true,Nat.beq_eq] at hr
  obtain ⟨⟨⟨h11,h12⟩,h13⟩,e'⟩ := hr
  cases e'
  have h0 : 0 < z := by simpa [Nat.blt_eq] using h12
  have hl : zv.cells.toList.length=z := by simpa using h11
  refine OpOk.new fun γ w a hρ => ⟨_,(List.replicate n zv.cells.toList).flatten,e,?_,by simpa using h13,AH (Dc k3) n,fun γ' w' hγ => ⟨_,hγ,rfl⟩⟩
  have := hrun a w (Uh h3 (hρ l u h1)) (Uh h4 (hρ c v h2))
  rw [this]
  congr 3
  apply Array.ext'
  unfold madeCells
  have := CV hl h0 n
  simpa using this
end
end Cx
/- VK -/
namespace Cx
open Go Go.RowKit
def flq (r : Rat) : Int := r.num / (r.den : Int)
def QK (q : Rat) : Int := if q < 0 then -1 else if q=0 then 0 else 1
structure Knows (S : Sx) (E : Ev S.nb) : Prop where
 k0 : ∀ a r,S.kn 0 a 0=some r→(Nat.beq 1 r=true ↔ E.q a=0)
 k1 : ∀ a r,S.kn 1 a 0=some r→(Nat.beq 1 r=true ↔ E.q a < 0)
 k2 : ∀ a r,S.kn 2 a 0=some r→(Nat.beq 1 r=true ↔ 0 < E.q a)
 k3 : ∀ a b r,S.kn 3 a b=some r→(Nat.beq 1 r=true ↔ E.q a=E.q b)
 k4 : ∀ l a b r,XU l S.C=some b→S.kn 4 a b=some r→(Nat.beq 1 r=true ↔ ZV (E.tell (E.q a))=l)
 k5 : ∀ a r,S.kn 5 a 0=some r→(r=0→E.q a < 0)∧(r=1→E.q a=0)∧(r=2→0 < E.q a)
 k7 : ∀ a b c,S.nd 4 [a,b]=some c→E.q c=E.q a*E.q b
 k8 : ∀ a b c,S.nd 2 [a,b]=some c→E.q c=E.q a+E.q b
 k9 : ∀ a b c,S.nd 3 [a,b]=some c→E.q c=E.q a - E.q b
 k10 : ∀ a b i j n,S.nd 7 [a,b,i,j]=some n→(E.q n=0 ↔ (E.tell (E.q a)=E.σ i∧E.tell (E.q b)=E.σ j))
 z0 : ∀ t i,isR S.nb t=true→S.nd 0 [0,0,1]=some i→∃ cs : List Value,Yp S.P t=some (cs.map Sum.inl)∧∀ w : World,(E.X 0 (E.q i)).on (.pointer (some ⟨w.heap.size,0,none⟩)) (w.alloc (.cells cs.toArray t))
 x4 : ∀ q v w,(E.X 4 q).on v w ↔ v=.int .i64 (QK q)
 x5 : ∀ q v w,(E.X 5 q).on v w→∃ c : Int,v=.int .i64 c∧(c=0 ↔ q=0)∧(c < 0 ↔ q < 0)
 x6 : ∀ q v w,(E.X 6 q).on v w→∃ n : Int,v=.int .i64 n∧((n : Int) : Rat)=q
 x7 : ∀ q v w,(E.X 7 q).on v w ↔ ∃ c : Int,v=.int .i64 c∧(c=0 ↔ q=0)
 xp : ∀ q v w,(E.X 0 q).on v w→∃ a,v=.pointer (some a)
 c0 : ∀ z c,OI S z=some c→E.q c=((z : Int) : Rat)
 tne : ∀ q,ZV (E.tell q) ≠ []
 tin : ∀ q q',E.tell q=E.tell q'→q=q'
 eqs : ∀ t n,Ir t S.eqT=some n→n < 1000→∀ (ar bs : List ByteArray),ar.length=n→bs.length=n→∀ (x y : Operand) (w : World),
  (do eqGuard .eql t x y (.agg (ar.map Value.string).toArray) (.agg (bs.map Value.string).toArray); binOp .eql t (.agg (ar.map Value.string).toArray) (.agg (bs.map Value.string).toArray) : Sem Value).run S.P w=.ok (.bool (decide (ar=bs))) w ∧
  (do eqGuard .neq t x y (.agg (ar.map Value.string).toArray) (.agg (bs.map Value.string).toArray); binOp .neq t (.agg (ar.map Value.string).toArray) (.agg (bs.map Value.string).toArray) : Sem Value).run S.P w=.ok (.bool (!decide (ar=bs))) w
 eqz : ∀ t n,Ir t S.eqT=some (n+1000)→∀ (l m : List Int),l.length=n→m.length=n→∀ (x y : Operand) (w : World),
  (do eqGuard .eql t x y (.agg (l.map fun (z : Int) => Value.int .i64 z).toArray) (.agg (m.map fun (z : Int) => Value.int .i64 z).toArray); binOp .eql t (.agg (l.map fun (z : Int) => Value.int .i64 z).toArray) (.agg (m.map fun (z : Int) => Value.int .i64 z).toArray) : Sem Value).run S.P w=.ok (.bool (decide (l=m))) w ∧
  (do eqGuard .neq t x y (.agg (l.map fun (z : Int) => Value.int .i64 z).toArray) (.agg (m.map fun (z : Int) => Value.int .i64 z).toArray); binOp .neq t (.agg (l.map fun (z : Int) => Value.int .i64 z).toArray) (.agg (m.map fun (z : Int) => Value.int .i64 z).toArray) : Sem Value).run S.P w=.ok (.bool (!decide (l=m))) w
theorem OA {a b : ByteArray} (h : ZV a=ZV b) : a=b := by
 unfold ZV at h
 have : a.data.toList=b.data.toList := (List.map_inj_right (fun x y e => UInt8.toNat_inj.1 e)).1 h
 exact ByteArray.ext (Array.ext' this)
section
variable {S : Sx} {E : Ev S.nb} {w0 : World} {h : List HB} {nx : Nat} {ρ : Operand→Option AV} {o : Oper}
theorem XG {γ : Nat→Option Nat} {w : World} (b : Bool) : avOn (cOn E S.K γ w) (kB b) (.bool b) := Zk ⟨rfl,rfl⟩
theorem Wj {γ : Nat→Option Nat} {w : World} (z : Int) : avOn (cOn E S.K γ w) (kI z) (.int .i64 z) := Zk ⟨rfl,rfl⟩
theorem Jh {γ : Nat→Option Nat} {w : World} {d k : Nat} {ov : Option Operand} {a : Act} (hρ : ∀ x v,ρ x=some v→avOn (cOn E S.K γ w) v (a.eval x)) (hb : IE d (ov.map ρ)=some k) :
  (ov.map a.eval=none∧k=d) ∨ ov.map a.eval=some (.int .i64 k) := by
 cases ov with
 | none =>
  cases hb
  exact Or.inl ⟨rfl,rfl⟩
 | some x =>
  have hb' : IE d (some (ρ x))=some k := hb
  unfold IE at hb'
  split at hb'
  ·rename_i e
   cases e
  ·rename_i v e
   have e' : ρ x=some v := Option.some.inj e
   exact Or.inr (congrArg some (Uh hb' (hρ x v e')))
  ·cases hb'
theorem Ub {P : Program} {w : World} {k n : Nat} (hk : k≤n) (code : BoundsCode) : (Instr.sliceBound (.int .i64 k) n code).run P w=.ok k w := by
 unfold Instr.sliceBound
 have e3 : (asIntOf (.int .i64 (k : Int))).run P w=.ok (.i64,(k : Int)) w := rfl
 rw [Sem.run_bind,e3]
 show (if (0 : Int)≤(k : Int)∧(k : Int)≤(n : Int) then pure (k : Int).toNat else boundsPanic .i64 k n code : Sem Nat).run P w=_
 rw [if_pos (by omega)]
 rfl
theorem Uj {P : Program} {w : World} {b : Bool} {len cap l k : Nat} {lv hv : Option Value} (hh : (hv=none∧k=len) ∨ hv=some (.int .i64 k)) (hl : (lv=none∧l=0) ∨ lv=some (.int .i64 l)) (h1 : l≤k) (h2 : k≤cap) : (Instr.sliceBounds b len cap lv hv none).run P w=.ok (l,k,cap) w := by
 unfold Instr.sliceBounds
 rcases hh with ⟨rfl,rfl⟩ | rfl <;> rcases hl with ⟨rfl,rfl⟩ | rfl <;> simp only [Sem.run_bind,Sem.run_pure,Ub h1,Ub h2,Result.andThen]
theorem EZ {t : TypeId} {x : Operand} {lo hi : Option Operand} (hop : o.op=.slice t x lo hi none) {v : AV} {y : AV} (h1 : ρ x=some v) (h2 : PZ S.P t v (lo.map ρ) (hi.map ρ)=some y) : OpOk S E w0 h nx ρ o (QO h nx y) := by
 refine OpOk.pure fun γ w a hρ => ?_
 have hexec : ∀ (q : Value),(Instr.sliceAt t (a.eval x) (lo.map a.eval) (hi.map a.eval) none).run S.P w=.ok q w→(execOp a.eval o).run S.P w=.ok (.value q) w := fun q hq => by
  unfold execOp
  rw [hop]
  exact Zs hq
 unfold PZ at h2
 split at h2
 ·rename_i n e ha
  simp only [Option.bind_eq_some_iff,ifO_some,Bool.and_eq_true,Nat.ble_eq] at h2
  obtain ⟨p,h3,hh,h4,l,h5,z,h6,⟨h7,h8,h9⟩,e'⟩ := h2
  cases e'
  have h9 : l < n := by simpa [Nat.blt_eq] using h9
  obtain ⟨G,hG,hx⟩ := OD h3 (hρ x v h1)
  refine ⟨.slice (some ⟨G,p.2+l*z,none⟩) (hh - l) (n - l),hexec _ ?_,Zk ⟨G,hG,rfl⟩⟩
  rw [hx]
  unfold Instr.sliceAt
  rw [Sem.run_bind,Qr (Yc ha)]
  have hbs : (Instr.sliceBounds false n n (lo.map a.eval) (hi.map a.eval) none).run S.P w=.ok (l,hh,n) w := Uj (Jh hρ h4) (Jh hρ h5) h7 h8
  show ((Instr.sliceBounds false n n (lo.map a.eval) (hi.map a.eval) none) >>= fun (l,h,m) => (Go.sizeOf e >>= fun size => pure (Value.slice (some (if m=l then (⟨G,p.2,none⟩ : Addr) else (⟨G,p.2,none⟩ : Addr).add (l*size))) (h - l) (m - l))) : Sem Value).run S.P w=_
  rw [Sem.run_bind,hbs]
  show (Go.sizeOf e >>= fun size => pure (Value.slice (some (if n=l then (⟨G,p.2,none⟩ : Addr) else (⟨G,p.2,none⟩ : Addr).add (l*size))) (hh - l) (n - l)) : Sem Value).run S.P w=_
  rw [Sem.run_bind,QW h6]
  show Result.ok (Value.slice (some (if n=l then (⟨G,p.2,none⟩ : Addr) else (⟨G,p.2,none⟩ : Addr).add (l*z))) (hh - l) (n - l)) w=_
  rw [if_neg (by omega),Yl]
 ·simp only [Option.bind_eq_some_iff] at h2
  obtain ⟨e,ha,z,h6,h2⟩ := h2
  have slc_run : ∀ (ao : Option Addr) (n m l hh : Nat),(Instr.sliceBounds true n m (lo.map a.eval) (hi.map a.eval) none).run S.P w=.ok (l,hh,m) w→(Instr.sliceAt t (.slice ao n m) (lo.map a.eval) (hi.map a.eval) none).run S.P w=.ok (.slice (if m=l then ao else ao.map (·.add (l*z))) (hh - l) (m - l)) w := fun ao n m l hh hbs => by
   unfold Instr.sliceAt
   rw [Sem.run_bind,Qr (QR ha)]
   show (Instr.slice t (.slice ao n m) (lo.map a.eval) (hi.map a.eval) none).run S.P w=_
   unfold Instr.slice
   rw [Sem.run_bind,Qr (QR ha)]
   show ((Instr.sliceBounds true n m (lo.map a.eval) (hi.map a.eval) none) >>= fun (l,h,m) => (Go.sizeOf e >>= fun size => pure (Value.slice (if m=l then ao else ao.map (·.add (l*size))) (h - l) (m - l))) : Sem Value).run S.P w=_
   rw [Sem.run_bind,hbs]
   show (Go.sizeOf e >>= fun size => pure (Value.slice (if m=l then ao else ao.map (·.add (l*size))) (hh - l) (m - l)) : Sem Value).run S.P w=_
   rw [Sem.run_bind,QW h6]
   rfl
  split at h2
  ·rename_i p h3
   simp only [Option.bind_eq_some_iff,ifO_some,Bool.and_eq_true,Nat.ble_eq] at h2
   obtain ⟨hh,h4,l,h5,⟨h7,h8⟩,e'⟩ := h2
   cases e'
   obtain ⟨G,hG,hx⟩ := asS_on h3 (hρ x v h1)
   have hrun := slc_run (some ⟨G,p.2.1,none⟩) p.2.2.1 p.2.2.2 l hh (Uj (Jh hρ h4) (Jh hρ h5) h7 h8)
   cases h9 : Nat.blt l p.2.2.2 with
   | true =>
    have h9' : l < p.2.2.2 := by simpa [Nat.blt_eq] using h9
    refine ⟨.slice (some ⟨G,p.2.1+l*z,none⟩) (hh - l) (p.2.2.2 - l),hexec _ ?_,Zk ⟨G,hG,rfl⟩⟩
    rw [hx,hrun,if_neg (by omega),Option.map_some,Yl]
   | false =>
    have h9' : ¬ l < p.2.2.2 := fun q => by
     have : Nat.blt l p.2.2.2=true := by simpa [Nat.blt_eq] using q
     rw [this] at h9
     cases h9
    have e1 : l=p.2.2.2 := by omega
    have e2 : hh=l := by omega
    refine ⟨.slice (some ⟨G,p.2.1,none⟩) 0 0,hexec _ ?_,Zk ⟨_,_,rfl,fun _ => rfl⟩⟩
    rw [hx,hrun,if_pos e1.symm,e2,e1,Nat.sub_self]
  ·simp only [Option.bind_eq_some_iff,ifO_some,Bool.and_eq_true,Nat.ble_eq] at h2
   obtain ⟨p,h3,hh,h4,l,h5,⟨⟨h7,h8⟩,hz⟩,e'⟩ := h2
   cases e'
   rw [Nat.beq_eq] at hz
   obtain ⟨G,m,hG,hx,hnm,cs,t',hk,hl⟩ := Cw h3 (hρ x v h1)
   have hrun := slc_run (some ⟨G,p.2.1,none⟩) p.2.2.1 m l hh (Uj (Jh hρ h4) (Jh hρ h5) h7 (by omega))
   cases h9 : Nat.blt l p.2.2.1 with
   | true =>
    have h9' : l < p.2.2.1 := by simpa [Nat.blt_eq] using h9
    refine ⟨.slice (some ⟨G,p.2.1+l*z,none⟩) (hh - l) (m - l),hexec _ ?_,Zk ⟨G,m - l,hG,rfl,by omega,cs,t',hk,?_⟩⟩
    ·rw [hx,hrun,if_neg (by omega),Option.map_some,Yl]
    ·rw [hl,← hz]
     have : l*z+(m - l)*z=m*z := by rw [← Nat.add_mul]; congr 1; omega
     omega
   | false =>
    have h9' : ¬ l < p.2.2.1 := fun q => by
     have : Nat.blt l p.2.2.1=true := by simpa [Nat.blt_eq] using q
     rw [this] at h9
     cases h9
    have e2 : hh=l := by omega
    exact ⟨_,hexec _ (by rw [hx,hrun]),Zk ⟨_,_,by rw [e2,Nat.sub_self],fun q => by cases q⟩⟩
theorem Cg {P : Program} {w : World} {b : Bool} {len cap l k m : Nat} {lv hv : Option Value} (hh : hv=some (.int .i64 k)) (hl : (lv=none∧l=0) ∨ lv=some (.int .i64 l)) (h1 : l≤k) (h2 : k≤m) (h3 : m≤cap) : (Instr.sliceBounds b len cap lv hv (some (.int .i64 m))).run P w=.ok (l,k,m) w := by
 unfold Instr.sliceBounds
 subst hh
 rcases hl with ⟨rfl,rfl⟩ | rfl <;> simp only [Sem.run_bind,Sem.run_pure,Ub h1,Ub h2,Ub h3,Result.andThen]
theorem GV {P : Program} {t e : TypeId} {z : Nat} (ha : ZH P t=some e) (h6 : Zh P e=some z) {w : World} {lv hv mv : Option Value} (ao : Option Addr) (n m l hh k : Nat) (hbs : (Instr.sliceBounds true n m lv hv mv).run P w=.ok (l,hh,k) w) : (Instr.sliceAt t (.slice ao n m) lv hv mv).run P w=.ok (.slice (if k=l then ao else ao.map (·.add (l*z))) (hh - l) (k - l)) w := by
 unfold Instr.sliceAt
 rw [Sem.run_bind,Qr (QR ha)]
 show (Instr.slice t (.slice ao n m) lv hv mv).run P w=_
 unfold Instr.slice
 rw [Sem.run_bind,Qr (QR ha)]
 show ((Instr.sliceBounds true n m lv hv mv) >>= fun (l,h,m) => (Go.sizeOf e >>= fun size => pure (Value.slice (if m=l then ao else ao.map (·.add (l*size))) (h - l) (m - l))) : Sem Value).run P w=_
 rw [Sem.run_bind,hbs]
 show (Go.sizeOf e >>= fun size => pure (Value.slice (if k=l then ao else ao.map (·.add (l*size))) (hh - l) (k - l)) : Sem Value).run P w=_
 rw [Sem.run_bind,QW h6]
 rfl
theorem OpOk.read {rd : List Nat} {y : AV} (hr : ∀ (γ : Nat→Option Nat) (w : World) (a : Act),(∀ x v,ρ x=some v→avOn (cOn E S.K γ w) v (a.eval x))→(∀ x ∈ h,x.1 ∈ rd→boxOn E S.K γ w x)→∃ q,(execOp a.eval o).run S.P w=.ok (.value q) w∧avOn (cOn E S.K γ w) y q) :
  OpOk S E w0 h nx ρ o { res := some y,rd := rd,wr := [],h := h,nx := nx } :=
 ⟨Nat.le_refl _,(fun b hb => by cases hb),fun x hx => Or.inl hx,fun γ w a Q hi hρ hb _ hlt K hK => by
  obtain ⟨q,e,hq⟩ := hr γ w a hρ fun x hx hd => hb x hx (Or.inl hd)
  unfold Oper.wp
  rw [e]
  refine hK q w γ (Ef.refl hi _ _ XR) (fun y' hy' => by cases hy'; exact hq) fun x hx hw => ?_
  rcases hw with hw | hw
  ·cases hw
  ·dsimp only at hw
   omega⟩
theorem Ld {t : TypeId} {x : Operand} {lo hi mx : Option Operand} {r : OR} (hop : o.op=.slice t x lo hi mx) (hr : (bif mx.isNone then ((ρ x).bind fun v => match PZ S.P t v (lo.map ρ) (hi.map ρ) with
   | some y => some (QO h nx y)
   | none => sliceO S.P h nx t v (lo.map ρ) (hi.map ρ)) else (ρ x).bind fun v => (CT S.P t v (lo.map ρ) (hi.map ρ) (mx.map ρ)).map (QO h nx))=some r) : OpOk S E w0 h nx ρ o r := by
 have hexec : ∀ (a : Act) (w : World) (q : Value),(Instr.sliceAt t (a.eval x) (lo.map a.eval) (hi.map a.eval) (mx.map a.eval)).run S.P w=.ok q w→(execOp a.eval o).run S.P w=.ok (.value q) w := fun a w q hq => by
  unfold execOp
  rw [hop]
  exact Zs hq
 cases mx with
 | none =>
  simp only [Option.isNone_none,cond_true,Option.bind_eq_some_iff] at hr
  obtain ⟨v,h1,hr⟩ := hr
  split at hr
  ·rename_i y h2
   cases hr
   exact EZ hop h1 h2
  ·unfold sliceO at hr
   simp only [Option.bind_eq_some_iff,ifO_some,Bool.and_eq_true,Nat.ble_eq,Nat.beq_eq] at hr
   obtain ⟨e,ha,z,h6,p,h3,hh,h4,l,h5,cs,hcs,⟨⟨⟨h7,h8⟩,h9,h10⟩,hz⟩,e'⟩ := hr
   cases e'
   have h9 : p.2.1+l*z < cs.length := by simpa [Nat.blt_eq] using h9
   have h10 : 0 < z := by simpa [Nat.blt_eq] using h10
   refine OpOk.read fun γ w a hρ hb => ?_
   obtain ⟨G,m,hG,hx,hnm,cs0,t',hk,hl⟩ := Cw h3 (hρ x v h1)
   obtain ⟨G',vs,t1,g1,_,⟨us,g2,_⟩,_,g4⟩ := hb (p.1,cs) (Zt hcs) List.mem_cons_self
   rw [hG] at g1
   cases g1
   obtain ⟨e1,e2⟩ := Bk.uniq hk g2
   subst e1 e2
   have hvl : vs.length=cs.length := g4.len
   rw [List.length_append,← hz] at hl
   have hhm : hh≤m := Nat.le_of_mul_le_mul_right (c := z) (by omega) h10
   have hlm : l < m := Nat.lt_of_mul_lt_mul_right (a := z) (by omega)
   have hrun := GV ha h6 (some ⟨G,p.2.1,none⟩) p.2.2.1 m l hh m (Uj (w := w) (Jh hρ h4) (Jh hρ h5) h7 hhm)
   refine ⟨.slice (some ⟨G,p.2.1+l*z,none⟩) (hh - l) (m - l),hexec a w _ ?_,Zk ⟨G,m - l,hG,rfl,by omega,_,_,hk,?_⟩⟩
   ·rw [hx]
    refine hrun.trans ?_
    rw [if_neg (by omega),Option.map_some,Yl]
   ·rw [List.length_append,hl]
    have : l*z+(m - l)*z=m*z := by rw [← Nat.add_mul]; congr 1; omega
    omega
 | some mv =>
  simp only [Option.isNone_some,cond_false,Option.bind_eq_some_iff,Option.map_eq_some_iff] at hr
  obtain ⟨v,h1,y,h2,rfl⟩ := hr
  unfold CT at h2
  simp only [Option.bind_eq_some_iff,ifO_some,Bool.and_eq_true,Nat.ble_eq] at h2
  obtain ⟨e,ha,z,h6,p,h3,k,h4,hh,h5,l,h7,⟨⟨⟨q1,q2⟩,q3,q4⟩,q5,q6⟩,e'⟩ := h2
  cases e'
  have q4 : l < k := by simpa [Nat.blt_eq] using q4
  refine OpOk.pure fun γ w a hρ => ?_
  obtain ⟨G,m,hG,hx,hnm,_⟩ := Cw h3 (hρ x v h1)
  have b1 : hi.map a.eval=some (.int .i64 hh) := by
   rcases Jh hρ h5 with ⟨q,_⟩ | q
   ·cases hi with
    | none => cases q5
    | some u => cases q
   ·exact q
  have b2 : (some mv).map a.eval=some (.int .i64 k) := by
   rcases Jh hρ h4 with ⟨q,_⟩ | q
   ·cases q
   ·exact q
  have hrun := GV ha h6 (some ⟨G,p.2.1,none⟩) p.2.2.1 m l hh k (Cg (w := w) b1 (Jh hρ h7) q1 q2 (Nat.le_trans q3 hnm))
  refine ⟨.slice (some ⟨G,p.2.1+l*z,none⟩) (hh - l) (k - l),hexec a w _ ?_,Zk ⟨G,hG,rfl⟩⟩
  rw [hx,b2]
  refine hrun.trans ?_
  rw [if_neg (by omega),Option.map_some,Yl]
end
end Cx
/- FLR -/
namespace Go.Proofs.YtnhplfjlhdpgoaaGreatDoor
open Go.RowKit Cx
attribute [local go_sem ↓] Go.wp_at_zero Go.wp_at_succ
theorem CH (n : Int) (d : Nat) (hd : 0 < d) : flq (mkRat n d)=n / (d : Int) := by
 unfold flq
 generalize hr : mkRat n d=r
 have hd' : d ≠ 0 := by omega
 have hp : (0 : Int) < r.den := by have := r.den_pos; omega
 have hq : (0 : Int) < d := by omega
 have e : r.num*d=n*r.den := by
  have h1 : mkRat n d=mkRat r.num r.den := by rw [hr,Rat.mkRat_self]
  exact ((Rat.mkRat_eq_iff hd' r.den_nz).1 h1).symm
 rw [← Int.mul_ediv_mul_of_pos_left n d hp,← e,Int.mul_comm (d : Int),Int.mul_ediv_mul_of_pos_left _ _ hq]
theorem fl_sga (x y : Int) : sg (decide (x < 0) != decide (y < 0)) x.natAbs*y=x*y.natAbs := by
 by_cases h1 : x < 0 <;> by_cases h2 : y < 0
 ·have e1 : (x.natAbs : Int)=-x := by omega
  have e2 : (y.natAbs : Int)=-y := by omega
  rw [decide_eq_true h1,decide_eq_true h2,e2]
  show (x.natAbs : Int)*y=x*-y
  rw [e1,Int.neg_mul,Int.mul_neg]
 ·have e1 : (x.natAbs : Int)=-x := by omega
  have e2 : (y.natAbs : Int)=y := by omega
  rw [decide_eq_true h1,decide_eq_false h2,e2]
  show -(x.natAbs : Int)*y=x*y
  rw [e1,Int.neg_neg]
 ·have e1 : (x.natAbs : Int)=x := by omega
  have e2 : (y.natAbs : Int)=-y := by omega
  rw [decide_eq_false h1,decide_eq_true h2,e2]
  show -(x.natAbs : Int)*y=x*-y
  rw [e1,Int.neg_mul,Int.mul_neg]
 ·have e1 : (x.natAbs : Int)=x := by omega
  have e2 : (y.natAbs : Int)=y := by omega
  rw [decide_eq_false h1,decide_eq_false h2,e2]
  show (x.natAbs : Int)*y=x*y
  rw [e1]
theorem Hp {a b : Rat} (hb : b ≠ 0) : a / b=mkRat (sg (decide (a.num < 0) != decide (b.num < 0)) (a.num.natAbs*b.den)) (b.num.natAbs*a.den) := by
 have hn : b.num ≠ 0 := fun h => hb (Rat.num_eq_zero.1 h)
 have hy : b.num.natAbs*a.den ≠ 0 := Nat.mul_ne_zero (by omega) a.den_nz
 have key : mkRat (sg (decide (a.num < 0) != decide (b.num < 0)) (a.num.natAbs*b.den)) (b.num.natAbs*a.den)*b=a := by
  conv => lhs; rhs; rw [← Rat.mkRat_self b]
  conv => rhs; rw [← Rat.mkRat_self a]
  rw [Rat.mkRat_mul_mkRat,Rat.mkRat_eq_iff (Nat.mul_ne_zero hy b.den_nz) a.den_nz]
  have e : sg (decide (a.num < 0) != decide (b.num < 0)) (a.num.natAbs*b.den)=sg (decide (a.num < 0) != decide (b.num < 0)) a.num.natAbs*b.den := by
   unfold sg
   split <;> push_cast <;> simp [Int.neg_mul]
  have h := fl_sga a.num b.num
  rw [e]
  push_cast
  generalize sg (decide (a.num < 0) != decide (b.num < 0)) a.num.natAbs=s at *
  have : s*(b.den : Int)*b.num*a.den=(s*b.num)*(b.den*a.den) := by grind
  rw [this,h]
  push_cast
  grind
 rw [← key,Rat.mul_div_cancel hb]
 rw [key]
theorem fl_pos {a b : Rat} (hb : b ≠ 0) (h : (decide (a.num < 0) != decide (b.num < 0))=false) : flq (a / b)=((a.num.natAbs*b.den / (b.num.natAbs*a.den) : Nat) : Int) := by
 have hn : b.num ≠ 0 := fun h => hb (Rat.num_eq_zero.1 h)
 have hy : 0 < b.num.natAbs*a.den := Nat.mul_pos (by omega) a.den_pos
 rw [Hp hb,CH _ _ hy,h]
 unfold sg
 simp
theorem fl_ndiv (x y : Nat) (hy : 0 < y) : -(x : Int) / (y : Int)=if x % y=0 then -((x / y : Nat) : Int) else -((x / y+1 : Nat) : Int) := by
 have h1 := Nat.div_add_mod x y
 have h2 := Nat.mod_lt x hy
 generalize x / y=q at *
 generalize x % y=r at *
 subst h1
 have hyi : (0 : Int) < y := by omega
 split
 ·rename_i h
  subst h
  rw [Nat.add_zero]
  push_cast
  rw [← Int.mul_neg,Int.mul_ediv_cancel_left _ (by omega)]
 ·rename_i h
  have e : -((y*q+r : Nat) : Int)=((y - r : Nat) : Int)+(y : Int)*(-((q+1 : Nat) : Int)) := by
   rw [Int.ofNat_sub (by omega)]
   push_cast
   grind
  rw [e,Int.add_mul_ediv_left _ _ (by omega),Int.ediv_eq_zero_of_lt (by omega) (by omega),Int.zero_add]
theorem Aa {a b : Rat} (hb : b ≠ 0) (h : (decide (a.num < 0) != decide (b.num < 0))=true) : flq (a / b)=if a.num.natAbs*b.den % (b.num.natAbs*a.den)=0 then -((a.num.natAbs*b.den / (b.num.natAbs*a.den) : Nat) : Int) else -((a.num.natAbs*b.den / (b.num.natAbs*a.den)+1 : Nat) : Int) := by
 have hn : b.num ≠ 0 := fun h => hb (Rat.num_eq_zero.1 h)
 have hy : 0 < b.num.natAbs*a.den := Nat.mul_pos (by omega) a.den_pos
 rw [Hp hb,CH _ _ hy,h,← fl_ndiv _ _ hy]
 unfold sg
 simp
theorem Vi (vs : Array Value) (w : World) : (callFunc 107 vs).run Tryz.prog w=.ok (.enter 107 vs) w := QY Tryz.func107 (by kernel_rfl) (by kernel_rfl) vs w
theorem Mj (vs : Array Value) (w : World) : (callFunc 109 vs).run Tryz.prog w=.ok (.enter 109 vs) w := QY Tryz.func109 (by kernel_rfl) (by kernel_rfl) vs w
theorem Dn {a b : Nat} (s1 : Small a) (s2 : Small b) (hb0 : 0 < b) : Con Tryz.prog Zx 107 [Nt a,Nt b] (Tup [Nt (a / b),Nt (a % b)]) := fun w vs _ h => by
 match vs,h with
 | [va,vb],⟨h0,h1,_⟩ => exact (Yq h0 h1 s1 s2 hb0).mono fun e w' ⟨hb,v1,v2,e1,h1,h2⟩ => ⟨hb,_,e1,[v1,v2],rfl,h1,h2,trivial⟩
theorem con_add {a b : Nat} (s1 : Small a) (s2 : Small b) : Con Tryz.prog Zx 109 [Nt a,Nt b] (Nt (a+b)) := fun w vs _ h => by
 match vs,h with
 | [va,vb],⟨h0,h1,_⟩ => exact (Rk h0 h1 s1 s2).mono fun e w' ⟨hb,v,e1,h⟩ => ⟨hb,v,e1,h⟩
theorem Vu {a b c : Nat} (s1 : Small a) (s2 : Small b) (e : a*b=c) : Con Tryz.prog Zx 108 [Nt a,Nt b] (Nt c) := e ▸ DB s1 s2
theorem Ue (x y : Operand) (a b : Bool) (c : Bool) (h : (a != b)=c) (w : World) : (do eqGuard .neq 4 x y (.bool a) (.bool b); binOp .neq 4 (.bool a) (.bool b) : Sem Value).run Tryz.prog w=.ok (.bool c) w := by
 subst h
 cases a <;> cases b <;> simp [go_sem]
def Ln (n : Nat) : Fact := ⟨fun v _ => ∃ k : Nat,v=.int .i64 k∧(k=0 ↔ n=0),fun _ h => h⟩
section
variable {Q : Exit→Act→World→Prop} {w0 : World} {n : Nat} {tm : List (Nat × Fact)} {bx : List (Nat × TypeId × Fact)} {a0 : Act} {wr : World} {os : List Oper} {pl : List Plan}
theorem VZ {i m : Nat} {o : Oper} {x : Operand} {t e : TypeId} (ho : os[i]? = some o) (hp : pl[i]? = some (.pure (Ln m))) (hw : JM w0 bx a0 wr os pl o true) (hop : o.op=.call { callee := .builtin .len,args := #[x],argTypes := #[t] })
  (hx : Opn w0 bx a0 wr os pl i o x (Nt m)) (hu : Tryz.prog.underlying t=some (.slice e)) : AStep Tryz.prog Q os a0 (RInv w0 bx a0 wr os pl) i o := Zg ho hp hw fun d τ w hr hd hn => by
 obtain ⟨ao,len,cap,ev,_,_,hz⟩ := QH (hx d τ w hr hd hn)
 refine ⟨.int .i64 (len : Nat),w,?_,Below.refl _ _,len,rfl,hz⟩
 unfold execOp
 rw [hop]
 show (resolve (Qi a0 τ 0 os).eval _ o.type >>= fun d => invoke d.target d.args).run Tryz.prog w=_
 unfold resolve
 show (Builtin.len_ #[t] o.type (#[x].map (Qi a0 τ 0 os).eval) >>= fun v => pure (Next.value v) : Sem Next).run Tryz.prog w=_
 have e4 : (Builtin.len_ #[t] o.type (#[x].map (Qi a0 τ 0 os).eval)).run Tryz.prog w=.ok (.int .i64 (len : Nat)) w := by
  unfold Builtin.len_
  simp only [List.map_toArray,List.map_cons,List.map_nil,ev]
  show (Go.underlying t >>= _ : Sem Value).run _ _=_
  rw [Sem.run_bind,Qr hu]
  rfl
 rw [Sem.run_bind,e4]
 rfl
theorem WH {i m : Nat} {o : Oper} {op : BinOp} {xT yT : TypeId} {x y : Operand} {b : Bool} (ho : os[i]? = some o) (hp : pl[i]? = some (.pure (Jus (.bool b)))) (hw : JM w0 bx a0 wr os pl o true) (hop : o.op=.binOp op xT x y yT) (hx : Opn w0 bx a0 wr os pl i o x (Ln m)) (hy : Opn w0 bx a0 wr os pl i o y (Jus (.int .i64 0)))
  (hr : ∀ (k : Nat) w,(k=0 ↔ m=0)→(do eqGuard op xT x y (.int .i64 k) (.int .i64 0); binOp op xT (.int .i64 k) (.int .i64 0) : Sem Value).run Tryz.prog w=.ok (.bool b) w) :
  AStep Tryz.prog Q os a0 (RInv w0 bx a0 wr os pl) i o := Zg ho hp hw fun d τ w hri hd hn => by
 obtain ⟨k,hx',hz⟩ := hx d τ w hri hd hn
 have hy' : (Qi a0 τ 0 os).eval y=.int .i64 0 := hy d τ w hri hd hn
 refine ⟨.bool b,w,?_,Below.refl _ _,rfl⟩
 unfold execOp
 rw [hop]
 show (do pure (Next.value (← (do eqGuard op xT x y ((Qi a0 τ 0 os).eval x) ((Qi a0 τ 0 os).eval y); binOp op xT ((Qi a0 τ 0 os).eval x) ((Qi a0 τ 0 os).eval y) : Sem Value))) : Sem Next).run Tryz.prog w=_
 rw [hx',hy']
 have h := hr k w hz
 revert h
 generalize (do eqGuard op xT x y (.int .i64 k) (.int .i64 0); binOp op xT (.int .i64 k) (.int .i64 0) : Sem Value)=s
 intro h
 simp [go_sem,h]
end
theorem PW {T : TypeId} {x y : Operand} {m : Nat} (hm : m=0) (k : Nat) (w : World) (hz : k=0 ↔ m=0) : (do eqGuard .eql T x y (.int .i64 k) (.int .i64 0); binOp .eql T (.int .i64 k) (.int .i64 0) : Sem Value).run Tryz.prog w=.ok (.bool true) w := by
 have := hz.2 hm
 subst this
 simp [go_sem]
theorem Uo {T : TypeId} {x y : Operand} {m : Nat} (hm : ¬ m=0) (k : Nat) (w : World) (hz : k=0 ↔ m=0) : (do eqGuard .eql T x y (.int .i64 k) (.int .i64 0); binOp .eql T (.int .i64 k) (.int .i64 0) : Sem Value).run Tryz.prog w=.ok (.bool false) w := by
 have e : ((k : Int) == 0)=false := by
  rw [beq_eq_false_iff_ne]
  intro e
  exact hm (hz.1 (by omega))
 simp [go_sem,e]
theorem De {T : TypeId} {x y : Operand} {m : Nat} (hm : m=0) (k : Nat) (w : World) (hz : k=0 ↔ m=0) : (do eqGuard .neq T x y (.int .i64 k) (.int .i64 0); binOp .neq T (.int .i64 k) (.int .i64 0) : Sem Value).run Tryz.prog w=.ok (.bool false) w := by
 have := hz.2 hm
 subst this
 simp [go_sem]
theorem PQ {T : TypeId} {x y : Operand} {m : Nat} (hm : ¬ m=0) (k : Nat) (w : World) (hz : k=0 ↔ m=0) : (do eqGuard .neq T x y (.int .i64 k) (.int .i64 0); binOp .neq T (.int .i64 k) (.int .i64 0) : Sem Value).run Tryz.prog w=.ok (.bool true) w := by
 have e : ((k : Int) != 0)=true := by
  rw [bne_iff_ne]
  intro e
  exact hm (hz.1 (by omega))
 simp [go_sem,e]
theorem ET (w : World) (ρ : Operand→Value) (_ : All2 w [] (([] : List Operand).map ρ)) : ∃ v,(Instr.build 58 ((#[] : Array (Nat × Operand)).map fun (i,x) => (i,ρ x))).run Tryz.prog w=.ok v w∧(Qv 0).on v w :=
 ⟨.agg #[.bool false,.slice none 0 0,.slice none 0 0],by simp [go_sem],SM _⟩
theorem Gd {a b : Rat} (hb : b.num.natAbs=0) :
  Con Tryz.prog Zx 63 [Qv a,Qv b] (Qv 0) := by
 refine Uv (n := 45) Tryz.func63 rfl rfl (Nat.le_of_ble_eq_true rfl) ?_
 intro w a0 hp S0
 have HPRE : ∀ w',Below w.heap.size w w'→Zx w' := fun _ _ => trivial
 refine wp_seq ?_
 refine Qz [.alloc 58 (Qv a),.alloc 58 (Qv b),.alloc 58 (Any)] ⟨S0,by decide +kernel⟩ (by kernel_rfl) (by kernel_rfl) rfl (by kernel_rfl) ?_ ?_
 ·intro C
  refine ASteps.cons ?_ (ASteps.cons ?_ (ASteps.cons ?_ (ASteps.nil)))
  ·exact ZF rfl rfl (Qa rfl) rfl (Ze (by kernel_rfl)) (Qg C 0 (by kernel_rfl) rfl) (Jp (Zm _))
  ·exact ZF rfl rfl (Qa rfl) rfl (Ze (by kernel_rfl)) (Qg C 1 (by kernel_rfl) rfl) (Jp (Zm _))
  ·exact Zo [.bool false,.slice none 0 0,.slice none 0 0] YC rfl rfl (Qa rfl) rfl (Ze (by kernel_rfl)) JH (by simp [Qm]) (by kernel_rfl)
 intro γ a1 w1 S1
 replace S1 : AS w 45 [(4,Jus (.pointer (some ⟨γ 2,0,none⟩))),(3,Jus (.pointer (some ⟨γ 1,0,none⟩))),(2,Jus (.pointer (some ⟨γ 0,0,none⟩)))] [(γ 0,58,Qv a),(γ 1,58,Qv b),(γ 2,58,Any)] a1 w1 := cast (by kernel_rfl) (S1.keep [2,3,4])
 generalize γ 0=G1_0 at S1
 generalize γ 1=G1_1 at S1
 generalize γ 2=G1_2 at S1
 clear S0
 refine Qe ?_
 refine wp_seq ?_
 refine wp_seq ?_
 refine Qz [.pure (Jus (.pointer (some ⟨G1_1,1,none⟩))),.pure (Nt (b.num.natAbs)),.pure (Ln (b.num.natAbs)),.pure (Bo true)] ⟨S1,by decide +kernel⟩ (by kernel_rfl) (by kernel_rfl) rfl (by kernel_rfl) ?_ ?_
 ·intro C
  refine ASteps.cons ?_ (ASteps.cons ?_ (ASteps.cons ?_ (ASteps.cons ?_ (ASteps.nil))))
  ·exact Qw rfl rfl (Qa rfl) rfl (Qg C 1 (by kernel_rfl) rfl) (ZK _)
  ·exact QP (k := 1) rfl rfl rfl (Qa rfl) rfl (Qc C 0 0 rfl rfl rfl rfl rfl rfl) (QE (by kernel_rfl)) JL
  ·exact VZ rfl rfl (Qa rfl) rfl (Qc C 1 0 rfl rfl rfl rfl rfl rfl) rfl
  ·exact WH rfl rfl (Qa rfl) rfl (Qc C 2 0 rfl rfl rfl rfl rfl rfl) (Qp _) (PW hb)
 intro γ a2 w2 S2
 replace S2 : AS w 45 [(11,Bo true),(4,Jus (.pointer (some ⟨G1_2,0,none⟩))),(3,Jus (.pointer (some ⟨G1_1,0,none⟩))),(2,Jus (.pointer (some ⟨G1_0,0,none⟩)))] [(G1_0,58,Qv a),(G1_1,58,Qv b),(G1_2,58,Any)] a2 w2 := cast (by kernel_rfl) (S2.keep [2,3,4,11])
 clear S1
 refine Qe ?_
 refine wp_cond_true (S2.val 0 rfl) ?_
 refine wp_seq ?_
 refine Qz [.pure (Qv 0),.over 2 (Qv 0)] ⟨S2,by decide +kernel⟩ (by kernel_rfl) (by kernel_rfl) rfl (by kernel_rfl) ?_ ?_
 ·intro C
  refine ASteps.cons ?_ (ASteps.cons ?_ (ASteps.nil))
  ·exact Ko rfl rfl (Qa rfl) rfl Opns.nil ET
  ·exact ZE C (k := 2) rfl rfl rfl (Qa rfl) rfl (Qg C 1 (by kernel_rfl) rfl) (by decide) (ZM (by kernel_rfl)) (Qc C 0 0 rfl rfl rfl rfl rfl rfl) (Jg (Zm _))
 intro γ a3 w3 S3
 replace S3 : AS w 45 [(4,Jus (.pointer (some ⟨G1_2,0,none⟩))),(3,Jus (.pointer (some ⟨G1_1,0,none⟩))),(2,Jus (.pointer (some ⟨G1_0,0,none⟩)))] [(G1_0,58,Qv a),(G1_1,58,Qv b),(G1_2,58,Qv 0)] a3 w3 := cast (by kernel_rfl) (S3.keep [2,3,4])
 clear S2
 refine Qe ?_
 refine wp_ret ?_
 refine Im ?_
 exact S3.retCell 0 2 rfl rfl rfl QT fun v hv => ⟨S3.bel,v,rfl,hv⟩
theorem GN {a b r : Rat} {X Y : Nat} (s1 : Small a.num.natAbs) (s2 : Small b.den) (s3 : Small b.num.natAbs) (s4 : Small a.den) (sX : Small X) (sY : Small Y) (hX : a.num.natAbs*b.den=X) (hY0 : b.num.natAbs*a.den=Y) (hY : 0 < Y) (hb : ¬ b.num.natAbs=0) (hn : (decide (a.num < 0) != decide (b.num < 0))=false) (hr : fr false (X / Y) 1 (by decide) (Nat.coprime_one_right _)=r) :
  Con Tryz.prog Zx 63 [Qv a,Qv b] (Qv r) := by
 refine Uv (n := 45) Tryz.func63 rfl rfl (Nat.le_of_ble_eq_true rfl) ?_
 intro w a0 hp S0
 have HPRE : ∀ w',Below w.heap.size w w'→Zx w' := fun _ _ => trivial
 refine wp_seq ?_
 refine Qz [.alloc 58 (Qv a),.alloc 58 (Qv b),.alloc 58 (Any)] ⟨S0,by decide +kernel⟩ (by kernel_rfl) (by kernel_rfl) rfl (by kernel_rfl) ?_ ?_
 ·intro C
  refine ASteps.cons ?_ (ASteps.cons ?_ (ASteps.cons ?_ (ASteps.nil)))
  ·exact ZF rfl rfl (Qa rfl) rfl (Ze (by kernel_rfl)) (Qg C 0 (by kernel_rfl) rfl) (Jp (Zm _))
  ·exact ZF rfl rfl (Qa rfl) rfl (Ze (by kernel_rfl)) (Qg C 1 (by kernel_rfl) rfl) (Jp (Zm _))
  ·exact Zo [.bool false,.slice none 0 0,.slice none 0 0] YC rfl rfl (Qa rfl) rfl (Ze (by kernel_rfl)) JH (by simp [Qm]) (by kernel_rfl)
 intro γ a1 w1 S1
 replace S1 : AS w 45 [(4,Jus (.pointer (some ⟨γ 2,0,none⟩))),(3,Jus (.pointer (some ⟨γ 1,0,none⟩))),(2,Jus (.pointer (some ⟨γ 0,0,none⟩)))] [(γ 0,58,Qv a),(γ 1,58,Qv b),(γ 2,58,Any)] a1 w1 := cast (by kernel_rfl) (S1.keep [2,3,4])
 generalize γ 0=G1_0 at S1
 generalize γ 1=G1_1 at S1
 generalize γ 2=G1_2 at S1
 clear S0
 refine Qe ?_
 refine wp_seq ?_
 refine wp_seq ?_
 refine Qz [.pure (Jus (.pointer (some ⟨G1_1,1,none⟩))),.pure (Nt (b.num.natAbs)),.pure (Ln (b.num.natAbs)),.pure (Bo false)] ⟨S1,by decide +kernel⟩ (by kernel_rfl) (by kernel_rfl) rfl (by kernel_rfl) ?_ ?_
 ·intro C
  refine ASteps.cons ?_ (ASteps.cons ?_ (ASteps.cons ?_ (ASteps.cons ?_ (ASteps.nil))))
  ·exact Qw rfl rfl (Qa rfl) rfl (Qg C 1 (by kernel_rfl) rfl) (ZK _)
  ·exact QP (k := 1) rfl rfl rfl (Qa rfl) rfl (Qc C 0 0 rfl rfl rfl rfl rfl rfl) (QE (by kernel_rfl)) JL
  ·exact VZ rfl rfl (Qa rfl) rfl (Qc C 1 0 rfl rfl rfl rfl rfl rfl) rfl
  ·exact WH rfl rfl (Qa rfl) rfl (Qc C 2 0 rfl rfl rfl rfl rfl rfl) (Qp _) (Uo hb)
 intro γ a2 w2 S2
 replace S2 : AS w 45 [(11,Bo false),(4,Jus (.pointer (some ⟨G1_2,0,none⟩))),(3,Jus (.pointer (some ⟨G1_1,0,none⟩))),(2,Jus (.pointer (some ⟨G1_0,0,none⟩)))] [(G1_0,58,Qv a),(G1_1,58,Qv b),(G1_2,58,Any)] a2 w2 := cast (by kernel_rfl) (S2.keep [2,3,4,11])
 clear S1
 refine Qe ?_
 refine wp_cond_false (S2.val 0 rfl) ?_
 refine wp_skip ?_
 refine Qe ?_
 refine wp_seq ?_
 refine Qz [.pure (Jus (.pointer (some ⟨G1_0,0,none⟩))),.pure (Bo (decide (a.num < 0))),.pure (Jus (.pointer (some ⟨G1_1,0,none⟩))),.pure (Bo (decide (b.num < 0))),.pure (Bo false),.pure (Bo false)] ⟨S2,by decide +kernel⟩ (by kernel_rfl) (by kernel_rfl) rfl (by kernel_rfl) ?_ ?_
 ·intro C
  refine ASteps.cons ?_ (ASteps.cons ?_ (ASteps.cons ?_ (ASteps.cons ?_ (ASteps.cons ?_ (ASteps.cons ?_ (ASteps.nil))))))
  ·exact Qw rfl rfl (Qa rfl) rfl (Qg C 3 (by kernel_rfl) rfl) (XI _)
  ·exact QP (k := 0) rfl rfl rfl (Qa rfl) rfl (Qc C 0 0 rfl rfl rfl rfl rfl rfl) (QE (by kernel_rfl)) Ud
  ·exact Qw rfl rfl (Qa rfl) rfl (Qg C 2 (by kernel_rfl) rfl) (XI _)
  ·exact QP (k := 1) rfl rfl rfl (Qa rfl) rfl (Qc C 2 0 rfl rfl rfl rfl rfl rfl) (QE (by kernel_rfl)) Ud
  ·exact QU rfl rfl (Qa rfl) rfl (Qc C 1 0 rfl rfl rfl rfl rfl rfl) (Qc C 3 1 rfl rfl rfl rfl rfl rfl) (Ue _ _ _ _ _ hn)
  ·exact Qk rfl rfl (Qa rfl) rfl (Qc C 4 0 rfl rfl rfl rfl rfl rfl)
 intro γ a3 w3 S3
 replace S3 : AS w 45 [(5,Bo false),(4,Jus (.pointer (some ⟨G1_2,0,none⟩))),(3,Jus (.pointer (some ⟨G1_1,0,none⟩))),(2,Jus (.pointer (some ⟨G1_0,0,none⟩)))] [(G1_0,58,Qv a),(G1_1,58,Qv b),(G1_2,58,Any)] a3 w3 := cast (by kernel_rfl) (S3.keep [2,3,4,5])
 clear S2
 refine Qe ?_
 refine wp_seq ?_
 refine Qz [.pure (Jus (.pointer (some ⟨G1_0,1,none⟩))),.pure (Nt (a.num.natAbs)),.pure (Qv b),.pure (Nt (b.den)),.pure (Nt (X)),.pure (Jus (.pointer (some ⟨G1_1,1,none⟩))),.pure (Nt (b.num.natAbs)),.pure (Qv a),.pure (Nt (a.den)),.pure (Nt (Y)),.pure (Tup [Nt (X / Y),Nt (X % Y)]),.pure (Tup [Nt (X / Y),Nt (X % Y)]),.pure (Nt (X / Y)),.pure (Nt (X % Y)),.pure (Nt (X / Y)),.pure (Nt (X % Y))] ⟨S3,by decide +kernel⟩ (by kernel_rfl) (by kernel_rfl) rfl (by kernel_rfl) ?_ ?_
 ·intro C
  refine ASteps.cons ?_ (ASteps.cons ?_ (ASteps.cons ?_ (ASteps.cons ?_ (ASteps.cons ?_ (ASteps.cons ?_ (ASteps.cons ?_ (ASteps.cons ?_ (ASteps.cons ?_ (ASteps.cons ?_ (ASteps.cons ?_ (ASteps.cons ?_ (ASteps.cons ?_ (ASteps.cons ?_ (ASteps.cons ?_ (ASteps.cons ?_ (ASteps.nil))))))))))))))))
  ·exact Qw rfl rfl (Qa rfl) rfl (Qg C 3 (by kernel_rfl) rfl) (ZK _)
  ·exact QP (k := 0) rfl rfl rfl (Qa rfl) rfl (Qc C 0 0 rfl rfl rfl rfl rfl rfl) (QE (by kernel_rfl)) JL
  ·exact QG (k := 1) rfl rfl rfl (Qa rfl) rfl (Qg C 2 (by kernel_rfl) rfl) (QE (by kernel_rfl)) QT
  ·exact Ql HPRE rfl rfl (Qa rfl) rfl Zl (Opns.cons (Qc C 2 0 rfl rfl rfl rfl rfl rfl) Opns.nil) (JK)
  ·exact Ql HPRE rfl rfl (Qa rfl) rfl Zq (Opns.cons (Qc C 1 0 rfl rfl rfl rfl rfl rfl) (Opns.cons (Qc C 3 1 rfl rfl rfl rfl rfl rfl) Opns.nil)) ((Vu s1 s2 hX))
  ·exact Qw rfl rfl (Qa rfl) rfl (Qg C 2 (by kernel_rfl) rfl) (ZK _)
  ·exact QP (k := 1) rfl rfl rfl (Qa rfl) rfl (Qc C 5 0 rfl rfl rfl rfl rfl rfl) (QE (by kernel_rfl)) JL
  ·exact QG (k := 0) rfl rfl rfl (Qa rfl) rfl (Qg C 3 (by kernel_rfl) rfl) (QE (by kernel_rfl)) QT
  ·exact Ql HPRE rfl rfl (Qa rfl) rfl Zl (Opns.cons (Qc C 7 0 rfl rfl rfl rfl rfl rfl) Opns.nil) (JK)
  ·exact Ql HPRE rfl rfl (Qa rfl) rfl Zq (Opns.cons (Qc C 6 0 rfl rfl rfl rfl rfl rfl) (Opns.cons (Qc C 8 1 rfl rfl rfl rfl rfl rfl) Opns.nil)) ((Vu s3 s4 hY0))
  ·exact Ql HPRE rfl rfl (Qa rfl) rfl Vi (Opns.cons (Qc C 4 0 rfl rfl rfl rfl rfl rfl) (Opns.cons (Qc C 9 1 rfl rfl rfl rfl rfl rfl) Opns.nil)) ((Dn sX sY hY))
  ·exact Qj rfl rfl (Qa rfl) rfl (Qc C 10 0 rfl rfl rfl rfl rfl rfl)
  ·exact QX (k := 0) rfl rfl (Qa rfl) rfl (Qc C 11 0 rfl rfl rfl rfl rfl rfl) rfl
  ·exact QX (k := 1) rfl rfl (Qa rfl) rfl (Qc C 11 0 rfl rfl rfl rfl rfl rfl) rfl
  ·exact Qk rfl rfl (Qa rfl) rfl (Qc C 12 0 rfl rfl rfl rfl rfl rfl)
  ·exact Qk rfl rfl (Qa rfl) rfl (Qc C 13 0 rfl rfl rfl rfl rfl rfl)
 intro γ a4 w4 S4
 replace S4 : AS w 45 [(7,Nt (X % Y)),(6,Nt (X / Y)),(5,Bo false),(4,Jus (.pointer (some ⟨G1_2,0,none⟩)))] [(G1_0,58,Qv a),(G1_1,58,Qv b),(G1_2,58,Any)] a4 w4 := cast (by kernel_rfl) (S4.keep [4,5,6,7])
 clear S3
 refine Qe ?_
 refine wp_seq ?_
 refine wp_seq ?_
 refine Qz [.pure (Bo false),.pure (Bo false),.skip,.skip,.skip,.pure (Bo false)] ⟨S4,by decide +kernel⟩ (by kernel_rfl) (by kernel_rfl) rfl (by kernel_rfl) ?_ ?_
 ·intro C
  refine ASteps.cons ?_ (ASteps.cons ?_ (ASteps.cons ?_ (ASteps.cons ?_ (ASteps.cons ?_ (ASteps.cons ?_ (ASteps.nil))))))
  ·exact Qj rfl rfl (Qa rfl) rfl (Qg C 2 (by kernel_rfl) rfl)
  ·exact Qj rfl rfl (Qa rfl) rfl (Qc C 0 0 rfl rfl rfl rfl rfl rfl)
  ·exact II rfl rfl (Ff C 1 0 true false rfl rfl rfl rfl rfl rfl rfl rfl)
  ·exact II rfl rfl (Ff C 1 1 true false rfl rfl rfl rfl rfl rfl rfl rfl)
  ·exact II rfl rfl (Ff C 1 1 true false rfl rfl rfl rfl rfl rfl rfl rfl)
  ·exact Yz false rfl rfl (Qa rfl) rfl (Qc C 1 0 rfl rfl rfl rfl rfl rfl) (Qp _)
 intro γ a5 w5 S5
 replace S5 : AS w 45 [(37,Bo false),(6,Nt (X / Y)),(5,Bo false),(4,Jus (.pointer (some ⟨G1_2,0,none⟩)))] [(G1_0,58,Qv a),(G1_1,58,Qv b),(G1_2,58,Any)] a5 w5 := cast (by kernel_rfl) (S5.keep [4,5,6,37])
 clear S4
 refine Qe ?_
 refine wp_cond_false (S5.val 0 rfl) ?_
 refine wp_skip ?_
 refine Qe ?_
 refine wp_seq ?_
 refine Qz [.pure (Bo false),.pure (Nt (X / Y)),.pure (Nt (1)),.pure (Qv r),.over 2 (Qv r)] ⟨S5,by decide +kernel⟩ (by kernel_rfl) (by kernel_rfl) rfl (by kernel_rfl) ?_ ?_
 ·intro C
  refine ASteps.cons ?_ (ASteps.cons ?_ (ASteps.cons ?_ (ASteps.cons ?_ (ASteps.cons ?_ (ASteps.nil)))))
  ·exact Qj rfl rfl (Qa rfl) rfl (Qg C 2 (by kernel_rfl) rfl)
  ·exact Qj rfl rfl (Qa rfl) rfl (Qg C 1 (by kernel_rfl) rfl)
  ·exact Ql HPRE rfl rfl (Qa rfl) rfl XH Opns.nil (Wu)
  ·exact Ql HPRE rfl rfl (Qa rfl) rfl Xs (Opns.cons (Qc C 0 0 rfl rfl rfl rfl rfl rfl) (Opns.cons (Qc C 1 1 rfl rfl rfl rfl rfl rfl) (Opns.cons (Qc C 2 2 rfl rfl rfl rfl rfl rfl) Opns.nil))) ((Vx (by decide) (Nat.coprime_one_right _) hr))
  ·exact ZE C (k := 2) rfl rfl rfl (Qa rfl) rfl (Qg C 3 (by kernel_rfl) rfl) (by decide) (ZM (by kernel_rfl)) (Qc C 3 0 rfl rfl rfl rfl rfl rfl) (Jg (Zm _))
 intro γ a6 w6 S6
 replace S6 : AS w 45 [(4,Jus (.pointer (some ⟨G1_2,0,none⟩)))] [(G1_0,58,Qv a),(G1_1,58,Qv b),(G1_2,58,Qv r)] a6 w6 := cast (by kernel_rfl) (S6.keep [4])
 clear S5
 refine Qe ?_
 refine wp_ret ?_
 exact S6.retCell 0 2 rfl rfl rfl QT fun v hv => ⟨S6.bel,v,rfl,hv⟩
theorem Ky {a b r : Rat} {X Y : Nat} (s1 : Small a.num.natAbs) (s2 : Small b.den) (s3 : Small b.num.natAbs) (s4 : Small a.den) (sX : Small X) (sY : Small Y) (hX : a.num.natAbs*b.den=X) (hY0 : b.num.natAbs*a.den=Y) (hY : 0 < Y) (hb : ¬ b.num.natAbs=0) (h0 : X % Y=0) (hn : (decide (a.num < 0) != decide (b.num < 0))=true) (hr : fr true (X / Y) 1 (by decide) (Nat.coprime_one_right _)=r) :
  Con Tryz.prog Zx 63 [Qv a,Qv b] (Qv r) := by
 refine Uv (n := 45) Tryz.func63 rfl rfl (Nat.le_of_ble_eq_true rfl) ?_
 intro w a0 hp S0
 have HPRE : ∀ w',Below w.heap.size w w'→Zx w' := fun _ _ => trivial
 refine wp_seq ?_
 refine Qz [.alloc 58 (Qv a),.alloc 58 (Qv b),.alloc 58 (Any)] ⟨S0,by decide +kernel⟩ (by kernel_rfl) (by kernel_rfl) rfl (by kernel_rfl) ?_ ?_
 ·intro C
  refine ASteps.cons ?_ (ASteps.cons ?_ (ASteps.cons ?_ (ASteps.nil)))
  ·exact ZF rfl rfl (Qa rfl) rfl (Ze (by kernel_rfl)) (Qg C 0 (by kernel_rfl) rfl) (Jp (Zm _))
  ·exact ZF rfl rfl (Qa rfl) rfl (Ze (by kernel_rfl)) (Qg C 1 (by kernel_rfl) rfl) (Jp (Zm _))
  ·exact Zo [.bool false,.slice none 0 0,.slice none 0 0] YC rfl rfl (Qa rfl) rfl (Ze (by kernel_rfl)) JH (by simp [Qm]) (by kernel_rfl)
 intro γ a1 w1 S1
 replace S1 : AS w 45 [(4,Jus (.pointer (some ⟨γ 2,0,none⟩))),(3,Jus (.pointer (some ⟨γ 1,0,none⟩))),(2,Jus (.pointer (some ⟨γ 0,0,none⟩)))] [(γ 0,58,Qv a),(γ 1,58,Qv b),(γ 2,58,Any)] a1 w1 := cast (by kernel_rfl) (S1.keep [2,3,4])
 generalize γ 0=G1_0 at S1
 generalize γ 1=G1_1 at S1
 generalize γ 2=G1_2 at S1
 clear S0
 refine Qe ?_
 refine wp_seq ?_
 refine wp_seq ?_
 refine Qz [.pure (Jus (.pointer (some ⟨G1_1,1,none⟩))),.pure (Nt (b.num.natAbs)),.pure (Ln (b.num.natAbs)),.pure (Bo false)] ⟨S1,by decide +kernel⟩ (by kernel_rfl) (by kernel_rfl) rfl (by kernel_rfl) ?_ ?_
 ·intro C
  refine ASteps.cons ?_ (ASteps.cons ?_ (ASteps.cons ?_ (ASteps.cons ?_ (ASteps.nil))))
  ·exact Qw rfl rfl (Qa rfl) rfl (Qg C 1 (by kernel_rfl) rfl) (ZK _)
  ·exact QP (k := 1) rfl rfl rfl (Qa rfl) rfl (Qc C 0 0 rfl rfl rfl rfl rfl rfl) (QE (by kernel_rfl)) JL
  ·exact VZ rfl rfl (Qa rfl) rfl (Qc C 1 0 rfl rfl rfl rfl rfl rfl) rfl
  ·exact WH rfl rfl (Qa rfl) rfl (Qc C 2 0 rfl rfl rfl rfl rfl rfl) (Qp _) (Uo hb)
 intro γ a2 w2 S2
 replace S2 : AS w 45 [(11,Bo false),(4,Jus (.pointer (some ⟨G1_2,0,none⟩))),(3,Jus (.pointer (some ⟨G1_1,0,none⟩))),(2,Jus (.pointer (some ⟨G1_0,0,none⟩)))] [(G1_0,58,Qv a),(G1_1,58,Qv b),(G1_2,58,Any)] a2 w2 := cast (by kernel_rfl) (S2.keep [2,3,4,11])
 clear S1
 refine Qe ?_
 refine wp_cond_false (S2.val 0 rfl) ?_
 refine wp_skip ?_
 refine Qe ?_
 refine wp_seq ?_
 refine Qz [.pure (Jus (.pointer (some ⟨G1_0,0,none⟩))),.pure (Bo (decide (a.num < 0))),.pure (Jus (.pointer (some ⟨G1_1,0,none⟩))),.pure (Bo (decide (b.num < 0))),.pure (Bo true),.pure (Bo true)] ⟨S2,by decide +kernel⟩ (by kernel_rfl) (by kernel_rfl) rfl (by kernel_rfl) ?_ ?_
 ·intro C
  refine ASteps.cons ?_ (ASteps.cons ?_ (ASteps.cons ?_ (ASteps.cons ?_ (ASteps.cons ?_ (ASteps.cons ?_ (ASteps.nil))))))
  ·exact Qw rfl rfl (Qa rfl) rfl (Qg C 3 (by kernel_rfl) rfl) (XI _)
  ·exact QP (k := 0) rfl rfl rfl (Qa rfl) rfl (Qc C 0 0 rfl rfl rfl rfl rfl rfl) (QE (by kernel_rfl)) Ud
  ·exact Qw rfl rfl (Qa rfl) rfl (Qg C 2 (by kernel_rfl) rfl) (XI _)
  ·exact QP (k := 1) rfl rfl rfl (Qa rfl) rfl (Qc C 2 0 rfl rfl rfl rfl rfl rfl) (QE (by kernel_rfl)) Ud
  ·exact QU rfl rfl (Qa rfl) rfl (Qc C 1 0 rfl rfl rfl rfl rfl rfl) (Qc C 3 1 rfl rfl rfl rfl rfl rfl) (Ue _ _ _ _ _ hn)
  ·exact Qk rfl rfl (Qa rfl) rfl (Qc C 4 0 rfl rfl rfl rfl rfl rfl)
 intro γ a3 w3 S3
 replace S3 : AS w 45 [(5,Bo true),(4,Jus (.pointer (some ⟨G1_2,0,none⟩))),(3,Jus (.pointer (some ⟨G1_1,0,none⟩))),(2,Jus (.pointer (some ⟨G1_0,0,none⟩)))] [(G1_0,58,Qv a),(G1_1,58,Qv b),(G1_2,58,Any)] a3 w3 := cast (by kernel_rfl) (S3.keep [2,3,4,5])
 clear S2
 refine Qe ?_
 refine wp_seq ?_
 refine Qz [.pure (Jus (.pointer (some ⟨G1_0,1,none⟩))),.pure (Nt (a.num.natAbs)),.pure (Qv b),.pure (Nt (b.den)),.pure (Nt (X)),.pure (Jus (.pointer (some ⟨G1_1,1,none⟩))),.pure (Nt (b.num.natAbs)),.pure (Qv a),.pure (Nt (a.den)),.pure (Nt (Y)),.pure (Tup [Nt (X / Y),Nt (X % Y)]),.pure (Tup [Nt (X / Y),Nt (X % Y)]),.pure (Nt (X / Y)),.pure (Nt (X % Y)),.pure (Nt (X / Y)),.pure (Nt (X % Y))] ⟨S3,by decide +kernel⟩ (by kernel_rfl) (by kernel_rfl) rfl (by kernel_rfl) ?_ ?_
 ·intro C
  refine ASteps.cons ?_ (ASteps.cons ?_ (ASteps.cons ?_ (ASteps.cons ?_ (ASteps.cons ?_ (ASteps.cons ?_ (ASteps.cons ?_ (ASteps.cons ?_ (ASteps.cons ?_ (ASteps.cons ?_ (ASteps.cons ?_ (ASteps.cons ?_ (ASteps.cons ?_ (ASteps.cons ?_ (ASteps.cons ?_ (ASteps.cons ?_ (ASteps.nil))))))))))))))))
  ·exact Qw rfl rfl (Qa rfl) rfl (Qg C 3 (by kernel_rfl) rfl) (ZK _)
  ·exact QP (k := 0) rfl rfl rfl (Qa rfl) rfl (Qc C 0 0 rfl rfl rfl rfl rfl rfl) (QE (by kernel_rfl)) JL
  ·exact QG (k := 1) rfl rfl rfl (Qa rfl) rfl (Qg C 2 (by kernel_rfl) rfl) (QE (by kernel_rfl)) QT
  ·exact Ql HPRE rfl rfl (Qa rfl) rfl Zl (Opns.cons (Qc C 2 0 rfl rfl rfl rfl rfl rfl) Opns.nil) (JK)
  ·exact Ql HPRE rfl rfl (Qa rfl) rfl Zq (Opns.cons (Qc C 1 0 rfl rfl rfl rfl rfl rfl) (Opns.cons (Qc C 3 1 rfl rfl rfl rfl rfl rfl) Opns.nil)) ((Vu s1 s2 hX))
  ·exact Qw rfl rfl (Qa rfl) rfl (Qg C 2 (by kernel_rfl) rfl) (ZK _)
  ·exact QP (k := 1) rfl rfl rfl (Qa rfl) rfl (Qc C 5 0 rfl rfl rfl rfl rfl rfl) (QE (by kernel_rfl)) JL
  ·exact QG (k := 0) rfl rfl rfl (Qa rfl) rfl (Qg C 3 (by kernel_rfl) rfl) (QE (by kernel_rfl)) QT
  ·exact Ql HPRE rfl rfl (Qa rfl) rfl Zl (Opns.cons (Qc C 7 0 rfl rfl rfl rfl rfl rfl) Opns.nil) (JK)
  ·exact Ql HPRE rfl rfl (Qa rfl) rfl Zq (Opns.cons (Qc C 6 0 rfl rfl rfl rfl rfl rfl) (Opns.cons (Qc C 8 1 rfl rfl rfl rfl rfl rfl) Opns.nil)) ((Vu s3 s4 hY0))
  ·exact Ql HPRE rfl rfl (Qa rfl) rfl Vi (Opns.cons (Qc C 4 0 rfl rfl rfl rfl rfl rfl) (Opns.cons (Qc C 9 1 rfl rfl rfl rfl rfl rfl) Opns.nil)) ((Dn sX sY hY))
  ·exact Qj rfl rfl (Qa rfl) rfl (Qc C 10 0 rfl rfl rfl rfl rfl rfl)
  ·exact QX (k := 0) rfl rfl (Qa rfl) rfl (Qc C 11 0 rfl rfl rfl rfl rfl rfl) rfl
  ·exact QX (k := 1) rfl rfl (Qa rfl) rfl (Qc C 11 0 rfl rfl rfl rfl rfl rfl) rfl
  ·exact Qk rfl rfl (Qa rfl) rfl (Qc C 12 0 rfl rfl rfl rfl rfl rfl)
  ·exact Qk rfl rfl (Qa rfl) rfl (Qc C 13 0 rfl rfl rfl rfl rfl rfl)
 intro γ a4 w4 S4
 replace S4 : AS w 45 [(7,Nt (X % Y)),(6,Nt (X / Y)),(5,Bo true),(4,Jus (.pointer (some ⟨G1_2,0,none⟩)))] [(G1_0,58,Qv a),(G1_1,58,Qv b),(G1_2,58,Any)] a4 w4 := cast (by kernel_rfl) (S4.keep [4,5,6,7])
 clear S3
 refine Qe ?_
 refine wp_seq ?_
 refine wp_seq ?_
 refine Qz [.pure (Bo true),.pure (Bo true),.pure (Nt (X % Y)),.pure (Ln (X % Y)),.pure (Bo false),.pure (Bo false)] ⟨S4,by decide +kernel⟩ (by kernel_rfl) (by kernel_rfl) rfl (by kernel_rfl) ?_ ?_
 ·intro C
  refine ASteps.cons ?_ (ASteps.cons ?_ (ASteps.cons ?_ (ASteps.cons ?_ (ASteps.cons ?_ (ASteps.cons ?_ (ASteps.nil))))))
  ·exact Qj rfl rfl (Qa rfl) rfl (Qg C 2 (by kernel_rfl) rfl)
  ·exact Qj rfl rfl (Qa rfl) rfl (Qc C 0 0 rfl rfl rfl rfl rfl rfl)
  ·exact Qj rfl rfl (Zp C 1 0 true rfl rfl rfl rfl rfl rfl rfl) rfl (Qg C 0 (by kernel_rfl) rfl)
  ·exact VZ rfl rfl (Zp C 1 1 true rfl rfl rfl rfl rfl rfl rfl) rfl (Qc C 2 0 rfl rfl rfl rfl rfl rfl) rfl
  ·exact WH rfl rfl (Zp C 1 1 true rfl rfl rfl rfl rfl rfl rfl) rfl (Qc C 3 0 rfl rfl rfl rfl rfl rfl) (Qp _) (De h0)
  ·exact Yz true rfl rfl (Qa rfl) rfl (Qc C 1 0 rfl rfl rfl rfl rfl rfl) (Qc C 4 1 rfl rfl rfl rfl rfl rfl)
 intro γ a5 w5 S5
 replace S5 : AS w 45 [(37,Bo false),(6,Nt (X / Y)),(5,Bo true),(4,Jus (.pointer (some ⟨G1_2,0,none⟩)))] [(G1_0,58,Qv a),(G1_1,58,Qv b),(G1_2,58,Any)] a5 w5 := cast (by kernel_rfl) (S5.keep [4,5,6,37])
 clear S4
 refine Qe ?_
 refine wp_cond_false (S5.val 0 rfl) ?_
 refine wp_skip ?_
 refine Qe ?_
 refine wp_seq ?_
 refine Qz [.pure (Bo true),.pure (Nt (X / Y)),.pure (Nt (1)),.pure (Qv r),.over 2 (Qv r)] ⟨S5,by decide +kernel⟩ (by kernel_rfl) (by kernel_rfl) rfl (by kernel_rfl) ?_ ?_
 ·intro C
  refine ASteps.cons ?_ (ASteps.cons ?_ (ASteps.cons ?_ (ASteps.cons ?_ (ASteps.cons ?_ (ASteps.nil)))))
  ·exact Qj rfl rfl (Qa rfl) rfl (Qg C 2 (by kernel_rfl) rfl)
  ·exact Qj rfl rfl (Qa rfl) rfl (Qg C 1 (by kernel_rfl) rfl)
  ·exact Ql HPRE rfl rfl (Qa rfl) rfl XH Opns.nil (Wu)
  ·exact Ql HPRE rfl rfl (Qa rfl) rfl Xs (Opns.cons (Qc C 0 0 rfl rfl rfl rfl rfl rfl) (Opns.cons (Qc C 1 1 rfl rfl rfl rfl rfl rfl) (Opns.cons (Qc C 2 2 rfl rfl rfl rfl rfl rfl) Opns.nil))) ((Vx (by decide) (Nat.coprime_one_right _) hr))
  ·exact ZE C (k := 2) rfl rfl rfl (Qa rfl) rfl (Qg C 3 (by kernel_rfl) rfl) (by decide) (ZM (by kernel_rfl)) (Qc C 3 0 rfl rfl rfl rfl rfl rfl) (Jg (Zm _))
 intro γ a6 w6 S6
 replace S6 : AS w 45 [(4,Jus (.pointer (some ⟨G1_2,0,none⟩)))] [(G1_0,58,Qv a),(G1_1,58,Qv b),(G1_2,58,Qv r)] a6 w6 := cast (by kernel_rfl) (S6.keep [4])
 clear S5
 refine Qe ?_
 refine wp_ret ?_
 exact S6.retCell 0 2 rfl rfl rfl QT fun v hv => ⟨S6.bel,v,rfl,hv⟩
theorem KR {a b r : Rat} {X Y : Nat} (s1 : Small a.num.natAbs) (s2 : Small b.den) (s3 : Small b.num.natAbs) (s4 : Small a.den) (sX : Small X) (sY : Small Y) (hX : a.num.natAbs*b.den=X) (hY0 : b.num.natAbs*a.den=Y) (hY : 0 < Y) (hb : ¬ b.num.natAbs=0) (h0 : ¬ X % Y=0) (sD : Small (X / Y)) (hn : (decide (a.num < 0) != decide (b.num < 0))=true) (hr : fr true (X / Y+1) 1 (by decide) (Nat.coprime_one_right _)=r) :
  Con Tryz.prog Zx 63 [Qv a,Qv b] (Qv r) := by
 refine Uv (n := 45) Tryz.func63 rfl rfl (Nat.le_of_ble_eq_true rfl) ?_
 intro w a0 hp S0
 have HPRE : ∀ w',Below w.heap.size w w'→Zx w' := fun _ _ => trivial
 refine wp_seq ?_
 refine Qz [.alloc 58 (Qv a),.alloc 58 (Qv b),.alloc 58 (Any)] ⟨S0,by decide +kernel⟩ (by kernel_rfl) (by kernel_rfl) rfl (by kernel_rfl) ?_ ?_
 ·intro C
  refine ASteps.cons ?_ (ASteps.cons ?_ (ASteps.cons ?_ (ASteps.nil)))
  ·exact ZF rfl rfl (Qa rfl) rfl (Ze (by kernel_rfl)) (Qg C 0 (by kernel_rfl) rfl) (Jp (Zm _))
  ·exact ZF rfl rfl (Qa rfl) rfl (Ze (by kernel_rfl)) (Qg C 1 (by kernel_rfl) rfl) (Jp (Zm _))
  ·exact Zo [.bool false,.slice none 0 0,.slice none 0 0] YC rfl rfl (Qa rfl) rfl (Ze (by kernel_rfl)) JH (by simp [Qm]) (by kernel_rfl)
 intro γ a1 w1 S1
 replace S1 : AS w 45 [(4,Jus (.pointer (some ⟨γ 2,0,none⟩))),(3,Jus (.pointer (some ⟨γ 1,0,none⟩))),(2,Jus (.pointer (some ⟨γ 0,0,none⟩)))] [(γ 0,58,Qv a),(γ 1,58,Qv b),(γ 2,58,Any)] a1 w1 := cast (by kernel_rfl) (S1.keep [2,3,4])
 generalize γ 0=G1_0 at S1
 generalize γ 1=G1_1 at S1
 generalize γ 2=G1_2 at S1
 clear S0
 refine Qe ?_
 refine wp_seq ?_
 refine wp_seq ?_
 refine Qz [.pure (Jus (.pointer (some ⟨G1_1,1,none⟩))),.pure (Nt (b.num.natAbs)),.pure (Ln (b.num.natAbs)),.pure (Bo false)] ⟨S1,by decide +kernel⟩ (by kernel_rfl) (by kernel_rfl) rfl (by kernel_rfl) ?_ ?_
 ·intro C
  refine ASteps.cons ?_ (ASteps.cons ?_ (ASteps.cons ?_ (ASteps.cons ?_ (ASteps.nil))))
  ·exact Qw rfl rfl (Qa rfl) rfl (Qg C 1 (by kernel_rfl) rfl) (ZK _)
  ·exact QP (k := 1) rfl rfl rfl (Qa rfl) rfl (Qc C 0 0 rfl rfl rfl rfl rfl rfl) (QE (by kernel_rfl)) JL
  ·exact VZ rfl rfl (Qa rfl) rfl (Qc C 1 0 rfl rfl rfl rfl rfl rfl) rfl
  ·exact WH rfl rfl (Qa rfl) rfl (Qc C 2 0 rfl rfl rfl rfl rfl rfl) (Qp _) (Uo hb)
 intro γ a2 w2 S2
 replace S2 : AS w 45 [(11,Bo false),(4,Jus (.pointer (some ⟨G1_2,0,none⟩))),(3,Jus (.pointer (some ⟨G1_1,0,none⟩))),(2,Jus (.pointer (some ⟨G1_0,0,none⟩)))] [(G1_0,58,Qv a),(G1_1,58,Qv b),(G1_2,58,Any)] a2 w2 := cast (by kernel_rfl) (S2.keep [2,3,4,11])
 clear S1
 refine Qe ?_
 refine wp_cond_false (S2.val 0 rfl) ?_
 refine wp_skip ?_
 refine Qe ?_
 refine wp_seq ?_
 refine Qz [.pure (Jus (.pointer (some ⟨G1_0,0,none⟩))),.pure (Bo (decide (a.num < 0))),.pure (Jus (.pointer (some ⟨G1_1,0,none⟩))),.pure (Bo (decide (b.num < 0))),.pure (Bo true),.pure (Bo true)] ⟨S2,by decide +kernel⟩ (by kernel_rfl) (by kernel_rfl) rfl (by kernel_rfl) ?_ ?_
 ·intro C
  refine ASteps.cons ?_ (ASteps.cons ?_ (ASteps.cons ?_ (ASteps.cons ?_ (ASteps.cons ?_ (ASteps.cons ?_ (ASteps.nil))))))
  ·exact Qw rfl rfl (Qa rfl) rfl (Qg C 3 (by kernel_rfl) rfl) (XI _)
  ·exact QP (k := 0) rfl rfl rfl (Qa rfl) rfl (Qc C 0 0 rfl rfl rfl rfl rfl rfl) (QE (by kernel_rfl)) Ud
  ·exact Qw rfl rfl (Qa rfl) rfl (Qg C 2 (by kernel_rfl) rfl) (XI _)
  ·exact QP (k := 1) rfl rfl rfl (Qa rfl) rfl (Qc C 2 0 rfl rfl rfl rfl rfl rfl) (QE (by kernel_rfl)) Ud
  ·exact QU rfl rfl (Qa rfl) rfl (Qc C 1 0 rfl rfl rfl rfl rfl rfl) (Qc C 3 1 rfl rfl rfl rfl rfl rfl) (Ue _ _ _ _ _ hn)
  ·exact Qk rfl rfl (Qa rfl) rfl (Qc C 4 0 rfl rfl rfl rfl rfl rfl)
 intro γ a3 w3 S3
 replace S3 : AS w 45 [(5,Bo true),(4,Jus (.pointer (some ⟨G1_2,0,none⟩))),(3,Jus (.pointer (some ⟨G1_1,0,none⟩))),(2,Jus (.pointer (some ⟨G1_0,0,none⟩)))] [(G1_0,58,Qv a),(G1_1,58,Qv b),(G1_2,58,Any)] a3 w3 := cast (by kernel_rfl) (S3.keep [2,3,4,5])
 clear S2
 refine Qe ?_
 refine wp_seq ?_
 refine Qz [.pure (Jus (.pointer (some ⟨G1_0,1,none⟩))),.pure (Nt (a.num.natAbs)),.pure (Qv b),.pure (Nt (b.den)),.pure (Nt (X)),.pure (Jus (.pointer (some ⟨G1_1,1,none⟩))),.pure (Nt (b.num.natAbs)),.pure (Qv a),.pure (Nt (a.den)),.pure (Nt (Y)),.pure (Tup [Nt (X / Y),Nt (X % Y)]),.pure (Tup [Nt (X / Y),Nt (X % Y)]),.pure (Nt (X / Y)),.pure (Nt (X % Y)),.pure (Nt (X / Y)),.pure (Nt (X % Y))] ⟨S3,by decide +kernel⟩ (by kernel_rfl) (by kernel_rfl) rfl (by kernel_rfl) ?_ ?_
 ·intro C
  refine ASteps.cons ?_ (ASteps.cons ?_ (ASteps.cons ?_ (ASteps.cons ?_ (ASteps.cons ?_ (ASteps.cons ?_ (ASteps.cons ?_ (ASteps.cons ?_ (ASteps.cons ?_ (ASteps.cons ?_ (ASteps.cons ?_ (ASteps.cons ?_ (ASteps.cons ?_ (ASteps.cons ?_ (ASteps.cons ?_ (ASteps.cons ?_ (ASteps.nil))))))))))))))))
  ·exact Qw rfl rfl (Qa rfl) rfl (Qg C 3 (by kernel_rfl) rfl) (ZK _)
  ·exact QP (k := 0) rfl rfl rfl (Qa rfl) rfl (Qc C 0 0 rfl rfl rfl rfl rfl rfl) (QE (by kernel_rfl)) JL
  ·exact QG (k := 1) rfl rfl rfl (Qa rfl) rfl (Qg C 2 (by kernel_rfl) rfl) (QE (by kernel_rfl)) QT
  ·exact Ql HPRE rfl rfl (Qa rfl) rfl Zl (Opns.cons (Qc C 2 0 rfl rfl rfl rfl rfl rfl) Opns.nil) (JK)
  ·exact Ql HPRE rfl rfl (Qa rfl) rfl Zq (Opns.cons (Qc C 1 0 rfl rfl rfl rfl rfl rfl) (Opns.cons (Qc C 3 1 rfl rfl rfl rfl rfl rfl) Opns.nil)) ((Vu s1 s2 hX))
  ·exact Qw rfl rfl (Qa rfl) rfl (Qg C 2 (by kernel_rfl) rfl) (ZK _)
  ·exact QP (k := 1) rfl rfl rfl (Qa rfl) rfl (Qc C 5 0 rfl rfl rfl rfl rfl rfl) (QE (by kernel_rfl)) JL
  ·exact QG (k := 0) rfl rfl rfl (Qa rfl) rfl (Qg C 3 (by kernel_rfl) rfl) (QE (by kernel_rfl)) QT
  ·exact Ql HPRE rfl rfl (Qa rfl) rfl Zl (Opns.cons (Qc C 7 0 rfl rfl rfl rfl rfl rfl) Opns.nil) (JK)
  ·exact Ql HPRE rfl rfl (Qa rfl) rfl Zq (Opns.cons (Qc C 6 0 rfl rfl rfl rfl rfl rfl) (Opns.cons (Qc C 8 1 rfl rfl rfl rfl rfl rfl) Opns.nil)) ((Vu s3 s4 hY0))
  ·exact Ql HPRE rfl rfl (Qa rfl) rfl Vi (Opns.cons (Qc C 4 0 rfl rfl rfl rfl rfl rfl) (Opns.cons (Qc C 9 1 rfl rfl rfl rfl rfl rfl) Opns.nil)) ((Dn sX sY hY))
  ·exact Qj rfl rfl (Qa rfl) rfl (Qc C 10 0 rfl rfl rfl rfl rfl rfl)
  ·exact QX (k := 0) rfl rfl (Qa rfl) rfl (Qc C 11 0 rfl rfl rfl rfl rfl rfl) rfl
  ·exact QX (k := 1) rfl rfl (Qa rfl) rfl (Qc C 11 0 rfl rfl rfl rfl rfl rfl) rfl
  ·exact Qk rfl rfl (Qa rfl) rfl (Qc C 12 0 rfl rfl rfl rfl rfl rfl)
  ·exact Qk rfl rfl (Qa rfl) rfl (Qc C 13 0 rfl rfl rfl rfl rfl rfl)
 intro γ a4 w4 S4
 replace S4 : AS w 45 [(7,Nt (X % Y)),(6,Nt (X / Y)),(5,Bo true),(4,Jus (.pointer (some ⟨G1_2,0,none⟩)))] [(G1_0,58,Qv a),(G1_1,58,Qv b),(G1_2,58,Any)] a4 w4 := cast (by kernel_rfl) (S4.keep [4,5,6,7])
 clear S3
 refine Qe ?_
 refine wp_seq ?_
 refine wp_seq ?_
 refine Qz [.pure (Bo true),.pure (Bo true),.pure (Nt (X % Y)),.pure (Ln (X % Y)),.pure (Bo true),.pure (Bo true)] ⟨S4,by decide +kernel⟩ (by kernel_rfl) (by kernel_rfl) rfl (by kernel_rfl) ?_ ?_
 ·intro C
  refine ASteps.cons ?_ (ASteps.cons ?_ (ASteps.cons ?_ (ASteps.cons ?_ (ASteps.cons ?_ (ASteps.cons ?_ (ASteps.nil))))))
  ·exact Qj rfl rfl (Qa rfl) rfl (Qg C 2 (by kernel_rfl) rfl)
  ·exact Qj rfl rfl (Qa rfl) rfl (Qc C 0 0 rfl rfl rfl rfl rfl rfl)
  ·exact Qj rfl rfl (Zp C 1 0 true rfl rfl rfl rfl rfl rfl rfl) rfl (Qg C 0 (by kernel_rfl) rfl)
  ·exact VZ rfl rfl (Zp C 1 1 true rfl rfl rfl rfl rfl rfl rfl) rfl (Qc C 2 0 rfl rfl rfl rfl rfl rfl) rfl
  ·exact WH rfl rfl (Zp C 1 1 true rfl rfl rfl rfl rfl rfl rfl) rfl (Qc C 3 0 rfl rfl rfl rfl rfl rfl) (Qp _) (PQ h0)
  ·exact Yz true rfl rfl (Qa rfl) rfl (Qc C 1 0 rfl rfl rfl rfl rfl rfl) (Qc C 4 1 rfl rfl rfl rfl rfl rfl)
 intro γ a5 w5 S5
 replace S5 : AS w 45 [(37,Bo true),(6,Nt (X / Y)),(5,Bo true),(4,Jus (.pointer (some ⟨G1_2,0,none⟩)))] [(G1_0,58,Qv a),(G1_1,58,Qv b),(G1_2,58,Any)] a5 w5 := cast (by kernel_rfl) (S5.keep [4,5,6,37])
 clear S4
 refine Qe ?_
 refine wp_cond_true (S5.val 0 rfl) ?_
 refine Qz [.pure (Nt (X / Y)),.pure (Nt (1)),.pure (Nt (X / Y+1)),.pure (Nt (X / Y+1))] ⟨S5,by decide +kernel⟩ (by kernel_rfl) (by kernel_rfl) rfl (by kernel_rfl) ?_ ?_
 ·intro C
  refine ASteps.cons ?_ (ASteps.cons ?_ (ASteps.cons ?_ (ASteps.cons ?_ (ASteps.nil))))
  ·exact Qj rfl rfl (Qa rfl) rfl (Tu C 3 2 1 rfl rfl rfl rfl rfl rfl rfl)
  ·exact Ql HPRE rfl rfl (Qa rfl) rfl XH Opns.nil (Wu)
  ·exact Ql HPRE rfl rfl (Qa rfl) rfl Mj (Opns.cons (Qc C 0 0 rfl rfl rfl rfl rfl rfl) (Opns.cons (Qc C 1 1 rfl rfl rfl rfl rfl rfl) Opns.nil)) ((con_add sD (ZG sY hY)))
  ·exact Qk rfl rfl (Qa rfl) rfl (Qc C 2 0 rfl rfl rfl rfl rfl rfl)
 intro γ a6 w6 S6
 replace S6 : AS w 45 [(6,Nt (X / Y+1)),(5,Bo true),(4,Jus (.pointer (some ⟨G1_2,0,none⟩)))] [(G1_0,58,Qv a),(G1_1,58,Qv b),(G1_2,58,Any)] a6 w6 := cast (by kernel_rfl) (S6.keep [4,5,6])
 clear S5
 refine Qe ?_
 refine wp_seq ?_
 refine Qz [.pure (Bo true),.pure (Nt (X / Y+1)),.pure (Nt (1)),.pure (Qv r),.over 2 (Qv r)] ⟨S6,by decide +kernel⟩ (by kernel_rfl) (by kernel_rfl) rfl (by kernel_rfl) ?_ ?_
 ·intro C
  refine ASteps.cons ?_ (ASteps.cons ?_ (ASteps.cons ?_ (ASteps.cons ?_ (ASteps.cons ?_ (ASteps.nil)))))
  ·exact Qj rfl rfl (Qa rfl) rfl (Qg C 1 (by kernel_rfl) rfl)
  ·exact Qj rfl rfl (Qa rfl) rfl (Qg C 0 (by kernel_rfl) rfl)
  ·exact Ql HPRE rfl rfl (Qa rfl) rfl XH Opns.nil (Wu)
  ·exact Ql HPRE rfl rfl (Qa rfl) rfl Xs (Opns.cons (Qc C 0 0 rfl rfl rfl rfl rfl rfl) (Opns.cons (Qc C 1 1 rfl rfl rfl rfl rfl rfl) (Opns.cons (Qc C 2 2 rfl rfl rfl rfl rfl rfl) Opns.nil))) ((Vx (by decide) (Nat.coprime_one_right _) hr))
  ·exact ZE C (k := 2) rfl rfl rfl (Qa rfl) rfl (Qg C 2 (by kernel_rfl) rfl) (by decide) (ZM (by kernel_rfl)) (Qc C 3 0 rfl rfl rfl rfl rfl rfl) (Jg (Zm _))
 intro γ a7 w7 S7
 replace S7 : AS w 45 [(4,Jus (.pointer (some ⟨G1_2,0,none⟩)))] [(G1_0,58,Qv a),(G1_1,58,Qv b),(G1_2,58,Qv r)] a7 w7 := cast (by kernel_rfl) (S7.keep [4])
 clear S6
 refine Qe ?_
 refine wp_ret ?_
 exact S7.retCell 0 2 rfl rfl rfl QT fun v hv => ⟨S7.bel,v,rfl,hv⟩
theorem CY (neg : Bool) (n : Nat) : fr neg n 1 (by decide) (Nat.coprime_one_right _)=((sg neg n : Int) : Rat) := by
 have := WX (neg := neg) (u := n) (l := 1) (hl := by decide) (hc := Nat.coprime_one_right _) (n := sg neg n) (d := 1) (by decide) (by simp)
 rw [this,Rat.mkRat_one]
theorem OG {w : World} {va vb : Value} {a b : Rat} {k l : Nat} (ha : QV w va a) (hb : QV w vb b) (fa : QS k a) (fb : QS l b) (hk : k+l≤35184372088640) :
  Calls Tryz.prog 63 #[va,vb] w fun e w' => Below w.heap.size w w'∧∃ v,e=.returned v∧QV w' v ((flq (a / b) : Int) : Rat) := by
 by_cases h0 : b.num=0
 ·have e0 : b=0 := Rat.num_eq_zero.1 h0
  have ez : ((flq (a / b) : Int) : Rat)=0 := by rw [e0,Rat.div_def,Rat.inv_zero,Rat.mul_zero]; rfl
  rw [ez]
  exact (Gd (a := a) (by rw [h0]; rfl) w [va,vb] trivial ⟨ha,hb,trivial⟩).mono fun e w' ⟨hb,v,e1,h⟩ => ⟨hb,v,e1,h⟩
 ·have hb0 : b ≠ 0 := fun e => h0 (by rw [e]; rfl)
  have hp : 0 < b.num.natAbs*a.den := Nat.mul_pos (by omega) a.den_pos
  have s1 := Qs fa.num (by omega)
  have s2 := Qs fb.den (by omega)
  have s3 := Qs fb.num (by omega)
  have s4 := Qs fa.den (by omega)
  have s5 := YB fa.num fb.den hk
  have s6 := YB fb.num fa.den (by omega)
  have fin : ∀ {r : Rat},Con Tryz.prog Zx 63 [Qv a,Qv b] (Qv r)→r=((flq (a / b) : Int) : Rat)→Calls Tryz.prog 63 #[va,vb] w fun e w' => Below w.heap.size w w'∧∃ v,e=.returned v∧QV w' v ((flq (a / b) : Int) : Rat) := fun hc e => by
   refine (hc w [va,vb] trivial ⟨ha,hb,trivial⟩).mono ?_
   rintro e' w' ⟨hb,v,rfl,h⟩
   exact ⟨hb,v,rfl,e ▸ h⟩
  cases hn : (decide (a.num < 0) != decide (b.num < 0)) with
  | false =>
   refine fin (GN s1 s2 s3 s4 s5 s6 rfl rfl hp (by omega) hn rfl) ?_
   rw [CY,fl_pos hb0 hn]
   rfl
  | true =>
   by_cases hm : a.num.natAbs*b.den % (b.num.natAbs*a.den)=0
   ·refine fin (Ky s1 s2 s3 s4 s5 s6 rfl rfl hp (by omega) hm hn rfl) ?_
    rw [CY,Aa hb0 hn,if_pos hm]
    rfl
   ·refine fin (KR s1 s2 s3 s4 s5 s6 rfl rfl hp (by omega) hm (ZG s5 (Nat.div_le_self _ _)) hn rfl) ?_
    rw [CY,Aa hb0 hn,if_neg hm]
    rfl
end Go.Proofs.YtnhplfjlhdpgoaaGreatDoor
/- ZWL -/
namespace Cx
open Go
def Og (k : Nat) (o : Oper) : Oper := { o with after := ((o.after.toList.filter fun e => Nat.ble k e.on).map fun e => { e with on := e.on - k }).toArray }
theorem OO {P : Program} {ops : Array Oper} {Q : Exit→Act→World→Prop} (k : Nat) : ∀ (l : List Oper),wpList P ops Q (l.map (Og k))=wpList P ops Q l
 | [] => rfl
 | o :: l => by
  funext a w
  show (if Region.wanted (Og k o) (yielded ops a.tmps) then (Og k o).wp P a w (wpList P ops Q (l.map (Og k))) Q ∨ ((Og k o).asks P a w∧LetsOut Q) else wpList P ops Q (l.map (Og k)) (a.put o.dst undef) w)=_
  rw [OO k l]
  rfl
theorem Gg {P : Program} {ops ops' : Array Oper} {Q : Exit→Act→World→Prop} : ∀ {l : List Oper},(∀ o ∈ l,o.guard=none)→wpList P ops Q l=wpList P ops' Q l
 | [],_ => rfl
 | o :: l,h => by
  funext a w
  have e : ∀ y,Region.wanted o y=true := fun y => by
   unfold Region.wanted
   rw [h o List.mem_cons_self]
  have ih : wpList P ops Q l=wpList P ops' Q l := Gg fun o ho => h o (List.mem_cons_of_mem _ ho)
  unfold wpList
  rw [ih]
  simp only [e,if_true]
theorem Lr {P : Program} {o : Oper} {a : Act} {w : World} {K K' : Act→World→Prop} {Q : Exit→Act→World→Prop} : o.wp P a w K (Exit.then K' Q)=o.wp P a w K Q := by
 unfold Oper.wp
 cases (execOp a.eval o).run P w with
 | ok r w' =>
  cases r with
  | enter f args =>
   show Calls P f args w' _=Calls P f args w' _
   congr 1
  | _ => rfl
 | halt h w' => cases h <;> rfl
theorem UQ {P : Program} {ops : Array Oper} {Q : Exit→Act→World→Prop} {l2 : List Oper} : ∀ {l1 : List Oper},wpList P ops (Exit.then (wpList P ops Q l2) Q) l1=wpList P ops Q (l1 ++ l2)
 | [] => rfl
 | o :: l1 => by
  funext a w
  show (if Region.wanted o (yielded ops a.tmps) then o.wp P a w (wpList P ops (Exit.then (wpList P ops Q l2) Q) l1) (Exit.then (wpList P ops Q l2) Q) ∨ (o.asks P a w∧LetsOut (Exit.then (wpList P ops Q l2) Q)) else wpList P ops (Exit.then (wpList P ops Q l2) Q) l1 (a.put o.dst undef) w)=_
  rw [UQ (l1 := l1),Lr]
  rfl
theorem JF {P : Program} {Q : Exit→Act→World→Prop} {os : List Oper} {id : Nat} {a : Act} {w : World} (k : Nat) (h : wpList P os.toArray (Exit.then (wpList P os.toArray Q (os.drop k)) Q) (os.take k) a w) : (Code.region id os.toArray false).wp P Q a w := by
 rw [UQ,List.take_append_drop] at h
 exact wp_region_lit h
theorem Is {P : Program} {Q : Exit→Act→World→Prop} {ops : Array Oper} {os : List Oper} {a : Act} {w : World} (k : Nat) (h : wpList P ops (Exit.then (wpList P ops Q (os.drop k)) Q) (os.take k) a w) : wpList P ops Q os a w := by
 rw [UQ,List.take_append_drop] at h
 exact h
theorem Zn {P : Program} {Q : Exit→Act→World→Prop} {ops : Array Oper} {os : List Oper} {a : Act} {w : World} (k : Nat) (h : wpList P ops Q (os.map (Og k)) a w) : wpList P ops Q os a w := by
 rw [OO] at h
 exact h
end Cx
namespace Go.Proofs.YtnhplfjlhdpgoaaGreatDoor
open Go.RowKit Cx
section
variable {P : Program} {Q : Exit→Act→World→Prop} {w0 : World} {n : Nat} {tm : List (Nat × Fact)} {bx : List (Nat × TypeId × Fact)} {a0 : Act} {wr : World} {os : List Oper}
theorem Zd {ops : Array Oper} (pl : List Plan) (C : RC w0 n tm bx a0 wr os) (hg : os.all (fun o => o.guard.isNone)=true) (ht : topoOps 0 os=true)
  (hlen : pl.length=os.length) (hbd : os.all (fun o => match o.dst with | some t => Nat.blt t n | none => true)=true)
  (hs : RC w0 n tm bx a0 wr os→ASteps P Q os a0 (RInv w0 bx a0 wr os pl) 0 os)
  (hd : ∀ (γ : Nat→Nat) (a : Act) (w : World),BehN pl γ bx wr w→AS w0 n (WM γ 0 os pl tm) (ZT pl 0 bx ++ JQ γ pl 0 pl) a w→Q .normal a w) : wpList P ops Q os a0 wr := by
 have hno : ∀ o ∈ os,o.guard=none := fun o ho => by
  have := List.all_eq_true.1 hg o ho
  simpa using this
 have h := IU C.nd ht (hs C).ops (fun d τ w hall hr => by
  obtain ⟨γ,hf,h⟩ := hr.done C.has hall hlen (fun o ho t ht => by
   have := List.all_eq_true.1 hbd o ho
   rw [ht] at this
   simpa using this)
  exact hd γ _ w ⟨⟨hr.gro,hr.frm⟩,Rr hf⟩ h) os.length 0 (ZJ a0 os) wr (by omega) (by
   have e : (fun j : Nat => j < 0)=(fun _ : Nat => False) := by
    funext j
    apply propext
    simp
   rw [e]
   exact RInv.init C.has (Below.refl _ _))
 rw [Vm a0 os os 0 (fun k => by rw [Nat.zero_add])] at h
 rw [wpOps_eq_wpList os 0 (by simp)] at h
 rw [Gg (ops' := os.toArray) hno]
 exact h
end
theorem AS.put {w0 : World} {n : Nat} {tm tm' : List (Nat × Fact)} {bx bx' : List (Nat × TypeId × Fact)} {a : Act} {w w' : World} {t : Tmp} {v : Value} {F : Fact} (h : AS w0 n tm bx a w) (ht : t < n) (hb : Below w0.heap.size w0 w') (hF : F.on v w') (hne : ∀ x ∈ tm',x.1 ≠ t) (htm : ∀ u G,(u,G) ∈ tm'→G.on (a.tmps.getD u undef) w')
  (hbx : ∀ (k G : Nat) (t : TypeId) (Fs : Fact),bx'[k]? = some (G,t,Fs)→w0.heap.size≤G∧BoxIs w' G t Fs) (hnd : (bx'.map (·.1)).Nodup) : AS w0 n ((t,F) :: tm') bx' (a.put (some t) v) w' where
 bel := hb
 siz := by show (a.tmps.setIfInBounds t v).size=n; rw [Array.size_setIfInBounds]; exact h.siz
 nod := h.nod
 tmp := fun u G hm => by
  rcases List.mem_cons.1 hm with e | hm
  ·cases e
   rw [UA a v (by rw [h.siz]; exact ht)]
   exact hF
  ·rw [XV a v (fun e => hne _ hm (Option.some.inj e).symm)]
   exact htm u G hm
 box := hbx
 dis := hnd
theorem AS.conv {w0 : World} {n : Nat} {tm tm' : List (Nat × Fact)} {bx bx' : List (Nat × TypeId × Fact)} {a : Act} {w : World} (h : AS w0 n tm bx a w) (e1 : tm=tm') (e2 : bx=bx') : AS w0 n tm' bx' a w := e1 ▸ e2 ▸ h
theorem BoxIs.same {w w' : World} {G : Nat} {t : TypeId} {F : Fact} (h : BoxIs w G t F) (hg : Grows w w') (e : w'.heap[G]? = w.heap[G]?) : BoxIs w' G t F := by
 obtain ⟨cs,h1,h2,h3,h4⟩ := h
 exact ⟨cs,e.trans h1,F.st hg h2,h3,h4⟩
theorem AS.takeB {w0 : World} {n : Nat} {tm : List (Nat × Fact)} {bx : List (Nat × TypeId × Fact)} {a : Act} {w : World} (m : Nat) (h : AS w0 n tm bx a w) : AS w0 n tm (bx.take m) a w where
 bel := h.bel
 siz := h.siz
 nod := h.nod
 tmp := h.tmp
 box := fun k G t F hk => h.box k G t F (by
  rw [List.getElem?_take] at hk
  split at hk
  ·exact hk
  ·cases hk)
 dis := by
  rw [List.map_take]
  exact h.dis.sublist (List.take_sublist _ _)
theorem AS.call {w0 : World} {n : Nat} {tm : List (Nat × Fact)} {bx nbx : List (Nat × TypeId × Fact)} {a : Act} {w w' : World} {t : Tmp} {v : Value} {F : Fact} (h : AS w0 n tm bx a w) (ht : Nat.blt t n=true) (hb : Below w.heap.size w w') (hF : F.on v w') (hnb : ∀ (k G : Nat) (t : TypeId) (Fs : Fact),nbx[k]? = some (G,t,Fs)→w.heap.size≤G∧BoxIs w' G t Fs) (hnd : (nbx.map (·.1)).Nodup) :
  AS w0 n ((t,F) :: tm.filter fun x => !Nat.beq x.1 t) (bx ++ nbx) (a.put (some t) v) w' := by
 refine h.put (by simpa using ht) (h.bel.trans (hb.mono h.bel.size)) hF (fun x hx e => ?_) (fun u G hm => G.st (Grows.of hb) (h.tmp u G (List.mem_filter.1 hm).1)) (fun k G t Fs hk => ?_) ?_
 ·have := (List.mem_filter.1 hx).2
  rw [e,Nat.beq_refl] at this
  cases this
 ·rw [List.getElem?_append] at hk
  split at hk
  ·obtain ⟨h1,h2⟩ := h.box k G t Fs hk
   exact ⟨h1,h2.below hb⟩
  ·obtain ⟨h1,h2⟩ := hnb _ G t Fs hk
   exact ⟨Nat.le_trans h.bel.size h1,h2⟩
 ·rw [List.map_append]
  refine List.nodup_append.2 ⟨h.dis,hnd,fun x hx y hy e => ?_⟩
  obtain ⟨⟨G,t,F⟩,hG,rfl⟩ := List.mem_map.1 hx
  obtain ⟨⟨G',t',F'⟩,hG',rfl⟩ := List.mem_map.1 hy
  obtain ⟨k,hk⟩ := List.getElem?_of_mem hG
  obtain ⟨k',hk'⟩ := List.getElem?_of_mem hG'
  have h1 := (h.box k G t F hk).2.lt
  have h2 := (hnb k' G' t' F' hk').1
  dsimp only at e
  omega
theorem Zw {P : Program} {ops : Array Oper} {Q : Exit→Act→World→Prop} {rest : List Oper} {o : Oper} {a : Act} {w : World} {f : FuncId} {xs : Array Operand} {ats : Array TypeId} (hgd : o.guard=none) (hop : o.op=.call { callee := .value (.func f),args := xs,argTypes := ats })
  (hen : ∀ (vs : Array Value) (w : World),(callFunc f vs).run P w=.ok (.enter f vs) w)
  (hc : Calls P f (xs.map a.eval) w fun e w' => ∃ v,e=.returned v∧wpList P ops Q rest (a.put o.dst v) w') : wpList P ops Q (o :: rest) a w := by
 refine wpList_plain hgd fun K hK => ?_
 have e : (execOp a.eval o).run P w=.ok (.enter f (xs.map a.eval)) w := by
  obtain ⟨dst,op,ty,pos,after,guard⟩ := o
  cases hop
  have em : xs.map a.eval=#[] ++ xs.map a.eval ++ #[] := by simp
  rw [execOp_call_go,hen,← em]
 unfold Oper.wp
 rw [e]
 refine Calls.mono hc ?_
 rintro _ w' ⟨v,rfl,h⟩
 exact hK _ _ h
theorem DI {P : Program} {ops : Array Oper} {Q : Exit→Act→World→Prop} {rest : List Oper} {o : Oper} {a : Act} {w : World} {f : FuncId} {x : Operand} {xs : Array Operand} {ats : Array TypeId} {caps : Array Value} (hgd : o.guard=none) (hop : o.op=.call { callee := .value x,args := xs,argTypes := ats })
  (hx : a.eval x=.func (.func f) #[] caps) (hen : ∀ (vs : Array Value) (w : World),(callFunc f vs).run P w=.ok (.enter f vs) w)
  (hc : Calls P f (xs.map a.eval ++ caps) w fun e w' => ∃ v,e=.returned v∧wpList P ops Q rest (a.put o.dst v) w') : wpList P ops Q (o :: rest) a w := by
 refine wpList_plain hgd fun K hK => ?_
 have e : (execOp a.eval o).run P w=.ok (.enter f (xs.map a.eval ++ caps)) w := by
  obtain ⟨dst,op,ty,pos,after,guard⟩ := o
  cases hop
  have em : xs.map a.eval ++ caps=#[] ++ xs.map a.eval ++ caps := by simp
  rw [em,← hen (#[] ++ xs.map a.eval ++ caps) w]
  unfold execOp
  show (resolve a.eval _ ty >>= fun d => invoke d.target d.args).run P w=_
  unfold resolve
  simp only [hx]
  rfl
 unfold Oper.wp
 rw [e]
 refine Calls.mono hc ?_
 rintro _ w' ⟨v,rfl,h⟩
 exact hK _ _ h
section
variable {P : Program} {Q : Exit→Act→World→Prop} {w0 : World} {n : Nat} {tm : List (Nat × Fact)} {bx : List (Nat × TypeId × Fact)} {a0 : Act} {wr : World} {os : List Oper} {pl : List Plan}
theorem LJ {i : Nat} {o : Oper} {f : FuncId} {xs : Array Operand} {vs : List Value} (ho : os[i]? = some o) (hp : pl[i]? = some (.pure (Jus (.func (.func f) #[] vs.toArray)))) (hw : JM w0 bx a0 wr os pl o true) (hop : o.op=.makeFunc (.func f) #[] xs)
  (hxs : Opns w0 bx a0 wr os pl i o xs.toList (vs.map Jus)) : AStep P Q os a0 (RInv w0 bx a0 wr os pl) i o := Zg ho hp hw fun d τ w hr hd hn => by
 have hall := hxs.all hr hd hn
 have key : ∀ {us vs : List Value},All2 w (vs.map Jus) us→us=vs := by
  intro us vs
  induction vs generalizing us with
  | nil => intro h; match us,h with | [],_ => rfl
  | cons v vs ih =>
   intro h
   match us,h with
   | u :: us,h => rw [ih h.2,show u=v from h.1]
 have e := key hall
 refine ⟨_,w,?_,Below.refl _ _,rfl⟩
 unfold execOp
 rw [hop]
 show Result.ok (Next.value (Value.func (.func f) ((#[] : Array Operand).map (Qi a0 τ 0 os).eval) (xs.map (Qi a0 τ 0 os).eval))) w=_
 have e2 : xs.map (Qi a0 τ 0 os).eval=vs.toArray := by
  rw [← e]
  apply Array.ext'
  simp
 rw [e2,Array.map_empty]
end
theorem Ux {z : Int} (h1 : -9223372036854775808≤z) (h2 : z < 9223372036854775808) : IntKind.i64.wrap z=z := by
 simp [IntKind.wrap,IntKind.signed,IntKind.bits]
 omega
theorem Xg (T : TypeId) (x y : Operand) (a b : Int) (c : Bool) (h : decide (a < b)=c) (w : World) : (do eqGuard .lss T x y (.int .i64 a) (.int .i64 b); binOp .lss T (.int .i64 a) (.int .i64 b) : Sem Value).run Tryz.prog w=.ok (.bool c) w := by
 subst h
 simp [go_sem]
theorem UT (T : TypeId) (x y : Operand) (a b : Int) (c : Bool) (h : decide (b < a)=c) (w : World) : (do eqGuard .gtr T x y (.int .i64 a) (.int .i64 b); binOp .gtr T (.int .i64 a) (.int .i64 b) : Sem Value).run Tryz.prog w=.ok (.bool c) w := by
 subst h
 simp [go_sem]
theorem Bu (T : TypeId) (x y : Operand) (a b : Int) (c : Bool) (h : decide (a=b)=c) (w : World) : (do eqGuard .eql T x y (.int .i64 a) (.int .i64 b); binOp .eql T (.int .i64 a) (.int .i64 b) : Sem Value).run Tryz.prog w=.ok (.bool c) w := by
 subst h
 simp [go_sem]
 rfl
theorem Xp (T : TypeId) (x y : Operand) (a b z : Int) (h : IntKind.i64.wrap (a+b)=z) (w : World) : (do eqGuard .add T x y (.int .i64 a) (.int .i64 b); binOp .add T (.int .i64 a) (.int .i64 b) : Sem Value).run Tryz.prog w=.ok (.int .i64 z) w := by
 subst h
 simp [go_sem]
theorem Bd (T : TypeId) (x y : Operand) (a b z : Int) (h : IntKind.i64.wrap (a - b)=z) (w : World) : (do eqGuard .sub T x y (.int .i64 a) (.int .i64 b); binOp .sub T (.int .i64 a) (.int .i64 b) : Sem Value).run Tryz.prog w=.ok (.int .i64 z) w := by
 subst h
 simp [go_sem]
end Go.Proofs.YtnhplfjlhdpgoaaGreatDoor
/- VL -/
namespace Cx
open Go Go.RowKit
theorem UN {nb : List Nat} {E : Ev nb} {K : List (FuncId × List AC)} {γ : Nat→Option Nat} {w : World} {d d' : Nat} : ∀ {cs : List AC} {vs : List Value},SF cs=true→A2 (QN E K γ w d) cs vs→A2 (QN E K γ w d') cs vs
 | [],[],_,_ => trivial
 | [],_ :: _,_,h => h.elim
 | _ :: _,[],_,h => h.elim
 | .inl u :: cs,v :: vs,hn,⟨h1,h2⟩ => by
  refine ⟨?_,UN hn h2⟩
  unfold QN at h1 ⊢
  exact h1
 | .inr (k,a,b,n,c) :: cs,v :: vs,hn,⟨h1,h2⟩ => by
  unfold SF at hn
  rw [Bool.and_eq_true] at hn
  refine ⟨?_,UN hn.2 h2⟩
  unfold QN at h1 ⊢
  match k,h1,hn.1 with
  | 0,h,_ => exact h
  | 1,h,_ => exact h
  | 2,h,_ => exact h
  | 3,h,_ => exact h
  | 4,h,_ => exact h
  | 5,h,q => simp at q
  | 6,h,_ => exact h
  | 7,h,_ => exact h
  | 8,h,_ => exact h
  | 9,h,_ => exact h
  | 10,h,_ => exact h
  | k+11,h,_ => exact h.elim
theorem Od {nb : List Nat} {E : Ev nb} {K : List (FuncId × List AC)} {γ : Nat→Option Nat} {w : World} {d : Nat} : ∀ {cs : List AC} {vs : List Value},Pb K cs=true→A2 (QN E K γ w (d+2)) cs vs→A2 (QN E K γ w (d+1)) cs vs
 | [],[],_,_ => trivial
 | [],_ :: _,_,h => h.elim
 | _ :: _,[],_,h => h.elim
 | .inl u :: cs,v :: vs,hn,⟨h1,h2⟩ => by
  refine ⟨?_,Od hn h2⟩
  unfold QN at h1 ⊢
  exact h1
 | .inr (k,a,b,n,c) :: cs,v :: vs,hn,⟨h1,h2⟩ => by
  unfold Pb at hn
  rw [Bool.and_eq_true] at hn
  refine ⟨?_,Od hn.2 h2⟩
  unfold QN at h1 ⊢
  match k,h1,hn.1 with
  | 0,h,_ => exact h
  | 1,h,_ => exact h
  | 2,h,_ => exact h
  | 3,h,_ => exact h
  | 4,h,_ => exact h
  | 5,⟨f,ds,us,g1,g2,g3⟩,q =>
   rw [g1] at q
   exact ⟨f,ds,us,g1,g2,UN (by simpa using q) g3⟩
  | 6,h,_ => exact h
  | 7,h,_ => exact h
  | 8,h,_ => exact h
  | 9,h,_ => exact h
  | 10,h,_ => exact h
  | k+11,h,_ => exact h.elim
section
variable {S : Sx} {E : Ev S.nb} {w0 : World} {h : List HB} {nx : Nat} {ρ : Operand→Option AV} {o : Oper}
theorem Ce {f : FuncId} {first captured : Array Operand} {r : OR} (hop : o.op=.makeFunc (.func f) first captured) (hr : ifO first.toList.isEmpty ((ZX (fun x => (ρ x).bind asC) captured.toList).bind fun cs =>
   ifO (Pb S.K cs) ((WP f cs 0 S.K).map fun i => QO h nx (v1 (.inr (5,i,0,0,0)))))=some r) : OpOk S E w0 h nx ρ o r := by
 simp only [ifO_some,Option.bind_eq_some_iff,Option.map_eq_some_iff] at hr
 obtain ⟨h1,cs,h2,h3,i,h4,rfl⟩ := hr
 refine OpOk.pure fun γ w a hρ => ?_
 have hA := Tr (T := cOn E S.K γ w) (ev := a.eval) h2 (fun x y hy => by
  rw [Option.bind_eq_some_iff] at hy
  obtain ⟨v,e1,e2⟩ := hy
  exact Za e2 (hρ x v e1))
 obtain ⟨_,hK⟩ := Ui h4
 refine ⟨.func (.func f) #[] (captured.toList.map a.eval).toArray,?_,Zk ⟨f,cs,captured.toList.map a.eval,by simpa using hK,rfl,Od h3 hA⟩⟩
 have hfirst : first=#[] := by
  have : first.toList=[] := by simpa using h1
  exact Array.toList_eq_nil_iff.1 this
 unfold execOp
 rw [hop]
 refine Zs ?_
 rw [hfirst]
 have e : captured.map a.eval=(captured.toList.map a.eval).toArray := by
  apply Array.ext'
  simp
 show Result.ok (Value.func (.func f) ((#[] : Array Operand).map a.eval) (captured.map a.eval)) w=_
 rw [e,Array.map_empty]
theorem Tq {P : Program} {op : BinOp} {t : TypeId} {x y : Operand} {a b : Int} {v : AV} {γ : Nat→Option Nat} {w : World} (hv : YF op a b=some v) : ∃ q,(do eqGuard op t x y (.int .i64 a) (.int .i64 b); binOp op t (.int .i64 a) (.int .i64 b) : Sem Value).run P w=.ok q w∧avOn (cOn E S.K γ w) v q := by
 cases op <;> simp only [YF,ifO_some,Option.some.injEq,reduceCtorEq] at hv
 case add => obtain ⟨h1,rfl⟩ := hv; exact ⟨.int .i64 (a+b),by simp [go_sem,wrap_i64 h1],Wj _⟩
 case sub => obtain ⟨h1,rfl⟩ := hv; exact ⟨.int .i64 (a - b),by simp [go_sem,wrap_i64 h1],Wj _⟩
 case mul => obtain ⟨h1,rfl⟩ := hv; exact ⟨.int .i64 (a*b),by simp [go_sem,wrap_i64 h1],Wj _⟩
 case eql => subst hv; exact ⟨.bool (a == b),by simp [go_sem],XG _⟩
 case neq => subst hv; exact ⟨.bool (a != b),by simp [go_sem],XG _⟩
 case lss => subst hv; exact ⟨.bool (decide (a < b)),by simp [go_sem],XG _⟩
 case leq => subst hv; exact ⟨.bool (decide (a≤b)),by simp [go_sem],XG _⟩
 case gtr => subst hv; exact ⟨.bool (decide (a > b)),by simp [go_sem],XG _⟩
 case geq => subst hv; exact ⟨.bool (decide (a ≥ b)),by simp [go_sem],XG _⟩
 case rem =>
  obtain ⟨h1,rfl⟩ := hv
  simp only [Bool.and_eq_true,Bool.not_eq_true',decide_eq_false_iff_not] at h1
  refine ⟨.int .i64 (a.tmod b),?_,Wj _⟩
  have hb : ¬ b=0 := h1.1
  simp [go_sem,hb]
 case quo =>
  obtain ⟨h1,rfl⟩ := hv
  simp only [Bool.and_eq_true,decide_eq_true_eq] at h1
  refine ⟨.int .i64 (a / b),?_,Wj _⟩
  have e : a.tdiv b=a / b := Int.tdiv_eq_ediv_of_nonneg h1.1
  have hb : ¬ b=0 := by omega
  simp [go_sem,e,hb,wrap_i64 h1.2.2]
theorem str_run {P : Program} {t : TypeId} {x y : Operand} {a b : ByteArray} (w : World) : (do eqGuard .eql t x y (.string a) (.string b); binOp .eql t (.string a) (.string b) : Sem Value).run P w=.ok (.bool (decide (a=b))) w∧(do eqGuard .neq t x y (.string a) (.string b); binOp .neq t (.string a) (.string b) : Sem Value).run P w=.ok (.bool (!decide (a=b))) w := by
 have e : (a.toList == b.toList)=decide (a=b) := by
  by_cases hab : a=b
  ·subst hab
   simp
  ·have : ¬ a.toList=b.toList := fun q => hab (by
    rw [Go.ByteArray.toList_eq,Go.ByteArray.toList_eq] at q
    exact ByteArray.ext (Array.ext' q))
   simp [this,hab]
 constructor <;> simp [go_sem,binOp,Op.stringOp,e]
theorem Hg {P : Program} {t : TypeId} {x y : Operand} {a b : Bool} (ht : Fu P t=true) (w : World) : (do eqGuard .eql t x y (.bool a) (.bool b); binOp .eql t (.bool a) (.bool b) : Sem Value).run P w=.ok (.bool (a == b)) w∧(do eqGuard .neq t x y (.bool a) (.bool b); binOp .neq t (.bool a) (.bool b) : Sem Value).run P w=.ok (.bool (a != b)) w := by
 have hu : P.underlying t=some .bool := by
  unfold Fu at ht
  split at ht
  ·assumption
  ·cases ht
 have e : (Op.equal t (.bool a) (.bool b)).run P w=.ok (a == b) w := by
  show (Op.equalIn (9999+1) t (.bool a) (.bool b)).run P w=_
  unfold Op.equalIn
  rw [Sem.run_bind,Qr hu]
  rfl
 constructor
 ·show (Op.equal t (.bool a) (.bool b) >>= fun r => pure (Value.bool r) : Sem Value).run P w=_
  rw [Sem.run_bind,e]
  rfl
 ·show (Op.equal t (.bool a) (.bool b) >>= fun r => pure (Value.bool !r) : Sem Value).run P w=_
  rw [Sem.run_bind,e]
  rfl
theorem nil_run {P : Program} {t e : TypeId} {x y : Operand} {v : Option Addr} {n m : Nat} (hu : P.underlying t=some (.slice e)) (w : World) : (do eqGuard .eql t x y (.slice v n m) (.slice none 0 0); binOp .eql t (.slice v n m) (.slice none 0 0) : Sem Value).run P w=.ok (.bool v.isNone) w∧(do eqGuard .neq t x y (.slice v n m) (.slice none 0 0); binOp .neq t (.slice v n m) (.slice none 0 0) : Sem Value).run P w=.ok (.bool !v.isNone) w := by
 have e : (Op.equal t (.slice v n m) (.slice none 0 0)).run P w=.ok v.isNone w := by
  show (Op.equalIn (9999+1) t (.slice v n m) (.slice none 0 0)).run P w=_
  unfold Op.equalIn
  rw [Sem.run_bind,Qr hu]
  cases v <;> rfl
 constructor
 ·show (Op.equal t (.slice v n m) (.slice none 0 0) >>= fun r => pure (Value.bool r) : Sem Value).run P w=_
  rw [Sem.run_bind,e]
  rfl
 ·show (Op.equal t (.slice v n m) (.slice none 0 0) >>= fun r => pure (Value.bool !r) : Sem Value).run P w=_
  rw [Sem.run_bind,e]
  rfl
theorem GU {c : AC} {γ : Nat→Option Nat} {w : World} {v : Value} (h : Kn c=true) (hc : cOn E S.K γ w c v) : v=.pointer none := by
 unfold Kn at h
 split at h
 ·exact hc.1
 ·cases h
theorem ptr_run {P : Program} {t e : TypeId} {x y : Operand} {v : Option Addr} (hu : P.underlying t=some (.pointer e)) (w : World) : (do eqGuard .eql t x y (.pointer v) (.pointer none); binOp .eql t (.pointer v) (.pointer none) : Sem Value).run P w=.ok (.bool v.isNone) w∧(do eqGuard .neq t x y (.pointer v) (.pointer none); binOp .neq t (.pointer v) (.pointer none) : Sem Value).run P w=.ok (.bool !v.isNone) w := by
 have e : (Op.equal t (.pointer v) (.pointer none)).run P w=.ok v.isNone w := by
  show (Op.equalIn (9999+1) t (.pointer v) (.pointer none)).run P w=_
  unfold Op.equalIn
  rw [Sem.run_bind,Qr hu]
  cases v <;> rfl
 constructor
 ·show (Op.equal t (.pointer v) (.pointer none) >>= fun r => pure (Value.bool r) : Sem Value).run P w=_
  rw [Sem.run_bind,e]
  rfl
 ·show (Op.equal t (.pointer v) (.pointer none) >>= fun r => pure (Value.bool !r) : Sem Value).run P w=_
  rw [Sem.run_bind,e]
  rfl
theorem ML (N : Knows S E) {c d : AC} {r : Bool} {γ : Nat→Option Nat} {w : World} {u v : Value} (hr : txEq S c d=some r) (hc : cOn E S.K γ w c u) (hd : cOn E S.K γ w d v) : ∃ a b : ByteArray,u=.string a∧v=.string b∧r=decide (a=b) := by
 have told : ∀ {c : AC} {a : Nat} {u : Value},JB c=some a→cOn E S.K γ w c u→u=.string (E.tell (E.q a)) := fun {c a u} hh hu => by
  unfold JB at hh
  split at hh
  ·rw [ifO_some,Nat.beq_eq] at hh
   obtain ⟨e1,e2⟩ := hh
   cases e2
   subst e1
   exact hu
  ·cases hh
 have str : ∀ {c : AC} {s : ByteArray} {u : Value},Ih c=some s→cOn E S.K γ w c u→u=.string s := fun {c s u} hh hu => by
  unfold Ih at hh
  split at hh
  ·cases hh
   exact hu.1
  ·cases hh
 unfold txEq at hr
 split at hr
 ·rename_i a ha
  have hu := told ha hc
  split at hr
  ·rename_i b hb
   have hv := told hb hd
   refine ⟨_,_,hu,hv,?_⟩
   cases e : Nat.beq a b with
   | true =>
    rw [e] at hr
    cases hr
    rw [Nat.beq_eq] at e
    subst e
    simp
   | false =>
    rw [e] at hr
    simp only [cond_false,Option.map_eq_some_iff] at hr
    obtain ⟨q,h1,rfl⟩ := hr
    have := N.k3 a b q h1
    rw [Bool.eq_iff_iff,this,decide_eq_true_eq]
    exact ⟨fun e => by rw [e],fun e => N.tin _ _ e⟩
  ·rw [Option.bind_eq_some_iff] at hr
   obtain ⟨s,h1,hr⟩ := hr
   have hv := str h1 hd
   refine ⟨_,_,hu,hv,?_⟩
   split at hr
   ·rename_i e
    cases hr
    symm
    rw [decide_eq_false_iff_not]
    intro q
    rw [← q] at e
    exact N.tne _ e
   ·rename_i e
    simp only [Option.bind_eq_some_iff,Option.map_eq_some_iff] at hr
    obtain ⟨b,h2,q,h3,rfl⟩ := hr
    have := N.k4 _ a b q h2 h3
    rw [Bool.eq_iff_iff,this,decide_eq_true_eq]
    exact ⟨fun e => OA e,fun e => by rw [e]⟩
 ·simp only [Option.bind_eq_some_iff,Option.map_eq_some_iff] at hr
  obtain ⟨s,h1,t,h2,rfl⟩ := hr
  refine ⟨_,_,str h1 hc,str h2 hd,?_⟩
  rw [Bool.eq_iff_iff,decide_eq_true_eq]
  exact ⟨fun e => OA (WJ e),fun e => by
   rw [e]
   generalize ZV t=l
   induction l with
   | nil => rfl
   | cons x l ih => unfold OZ; rw [Nat.beq_refl,ih]; rfl⟩
theorem SO (N : Knows S E) {γ : Nat→Option Nat} {w : World} : ∀ {ar bs : List AC} {r : Bool} {us vs : List Value},Ep S ar bs=some r→A2 (cOn E S.K γ w) ar us→A2 (cOn E S.K γ w) bs vs→∃ ss ts : List ByteArray,us=ss.map Value.string∧vs=ts.map Value.string∧ss.length=ar.length∧ts.length=bs.length∧r=decide (ss=ts)
 | [],[],r,[],[],hr,_,_ => by
  cases hr
  exact ⟨[],[],rfl,rfl,rfl,rfl,by simp⟩
 | a :: ar,b :: bs,r,u :: us,v :: vs,hr,⟨h1,h2⟩,⟨h3,h4⟩ => by
  unfold Ep at hr
  simp only [Option.bind_eq_some_iff,Option.map_eq_some_iff] at hr
  obtain ⟨p,e1,q,e2,rfl⟩ := hr
  obtain ⟨s,t,rfl,rfl,rfl⟩ := ML N e1 h1 h3
  obtain ⟨ss,ts,rfl,rfl,l1,l2,rfl⟩ := SO N e2 h2 h4
  refine ⟨s :: ss,t :: ts,rfl,rfl,by simp [l1],by simp [l2],?_⟩
  rw [Bool.eq_iff_iff,Bool.and_eq_true]
  simp
 | [],[],_,_ :: _,_,_,h,_ => h.elim
 | [],[],_,[],_ :: _,_,_,h => h.elim
 | [],_ :: _,_,_,_,hr,_,_ => by cases hr
 | _ :: _,[],_,_,_,hr,_,_ => by cases hr
 | _ :: _,_ :: _,_,[],_,_,h,_ => h.elim
 | _ :: _,_ :: _,_,_ :: _,[],_,_,h => h.elim
theorem sg_on (N : Knows S E) {c : AC} {n : Nat} {γ : Nat→Option Nat} {w : World} {v : Value} (h : acSg c=some n) (hc : cOn E S.K γ w c v) : ∃ c : Int,v=.int .i64 c∧(c=0 ↔ E.q n=0)∧(c < 0 ↔ E.q n < 0) := by
 unfold acSg at h
 split at h
 ·rw [ifO_some,Bool.and_eq_true,Bool.or_eq_true,Nat.beq_eq,Nat.beq_eq,Nat.beq_eq] at h
  obtain ⟨⟨h1,h2⟩,h3⟩ := h
  cases h3
  subst h1
  rcases h2 with h2 | h2
  ·subst h2
   refine ⟨_,(N.x4 _ _ _).1 hc,?_,?_⟩
   ·unfold QK
    split
    ·rename_i hlt
     constructor
     ·intro q; cases q
     ·intro q; rw [q] at hlt; exact absurd hlt (by decide)
    ·split <;> simp_all
   ·unfold QK
    split
    ·simp_all
    ·split <;> simp_all
  ·subst h2
   exact N.x5 _ _ _ hc
 ·cases h
theorem PA (x y : Rat) : (x < 0→y < 0→0 < x*y)∧(x < 0→0 < y→x*y < 0)∧(0 < x→y < 0→x*y < 0)∧(0 < x→0 < y→0 < x*y) := by
 have pp : ∀ {a b : Rat},0 < a→0 < b→0 < a*b := fun ha hb => Rat.mul_pos ha hb
 refine ⟨fun hx hy => ?_,fun hx hy => ?_,fun hx hy => ?_,pp⟩
 ·have := pp (a := -x) (b := -y) (by grind) (by grind)
  grind
 ·have := pp (a := -x) (b := y) (by grind) hy
  grind
 ·have := pp (a := x) (b := -y) hx (by grind)
  grind
theorem AW (x y : Rat) : QK (x*y)=QK x*QK y := by
 have h := PA x y
 unfold QK
 by_cases hx : x < 0
 ·by_cases hy : y < 0
  ·have := h.1 hx hy
   rw [if_pos hx,if_pos hy,if_neg (by grind),if_neg (by grind)]
   rfl
  ·rw [if_pos hx,if_neg hy]
   by_cases h0 : y=0
   ·rw [if_pos h0,h0,Rat.mul_zero,if_neg (by decide),if_pos rfl]
    rfl
   ·have := h.2.1 hx (by grind)
    rw [if_neg h0,if_pos this]
    rfl
 ·rw [if_neg hx]
  by_cases h0 : x=0
  ·rw [if_pos h0,h0,Rat.zero_mul,if_neg (by decide),if_pos rfl,Int.zero_mul]
  ·rw [if_neg h0,Int.one_mul]
   by_cases hy : y < 0
   ·have := h.2.2.1 (by grind) hy
    rw [if_pos hy,if_pos this]
   ·rw [if_neg hy]
    by_cases h1 : y=0
    ·rw [if_pos h1,h1,Rat.mul_zero,if_neg (by decide),if_pos rfl]
    ·have := h.2.2.2 (by grind) (by grind)
     rw [if_neg h1,if_neg (by grind),if_neg (by grind)]
theorem Ks (x : Rat) : -1≤QK x∧QK x≤1 := by
 unfold QK
 split
 ·decide
 ·split <;> decide
theorem sgnB_on (N : Knows S E) {a : Nat} {γ : Nat→Option Nat} {w : World} : avOn (cOn E S.K γ w) (FO S a) (.int .i64 (QK (E.q a))) := by
 unfold FO
 split
 ·rename_i e
  have := (N.k5 _ _ e).1 rfl
  rw [show QK (E.q a)=-1 by unfold QK; rw [if_pos this]]
  exact Wj _
 ·rename_i e
  have := (N.k5 _ _ e).2.1 rfl
  rw [show QK (E.q a)=0 by unfold QK; rw [this]; decide]
  exact Wj _
 ·rename_i e
  have := (N.k5 _ _ e).2.2 rfl
  rw [show QK (E.q a)=1 by unfold QK; rw [if_neg (by grind),if_neg (by grind)]]
  exact Wj _
 ·exact Zk ((N.x4 _ _ _).2 rfl)
theorem LR (x : Rat) : 0≤x*x := by
 rcases Classical.em (x=0) with h | h
 ·rw [h,Rat.zero_mul]; exact Rat.le_refl
 ·have := PA x x
  by_cases g : x < 0
  ·exact Rat.le_of_lt (this.1 g g)
  ·exact Rat.le_of_lt (this.2.2.2 (by grind) (by grind))
theorem Hc (N : Knows S E) : ∀ {l : List Nat} {s t : Nat},sqF S s l=some t→0≤E.q s→0≤E.q t∧(E.q t=0 ↔ E.q s=0∧∀ d ∈ l,E.q d=0)
 | [],s,t,h,hs => by
  cases h
  exact ⟨hs,fun e => ⟨e,fun d hd => by cases hd⟩,fun e => e.1⟩
 | a :: l,s,t,h,hs => by
  unfold sqF at h
  simp only [Option.bind_eq_some_iff] at h
  obtain ⟨b,h1,c,h2,h3⟩ := h
  have e1 := N.k7 _ _ _ h1
  have e2 := N.k8 _ _ _ h2
  have n := LR (E.q a)
  obtain ⟨g1,g2⟩ := Hc N h3 (by rw [e2,e1]; grind)
  refine ⟨g1,g2.trans ?_⟩
  rw [e2,e1]
  constructor
  ·rintro ⟨x,z⟩
   have x1 : E.q s=0 := by grind
   have x2 : E.q a*E.q a=0 := by grind
   refine ⟨x1,fun d hd => ?_⟩
   rcases List.mem_cons.1 hd with rfl | hd
   ·rcases Rat.mul_eq_zero.1 x2 with g | g <;> exact g
   ·exact z d hd
  ·rintro ⟨x,y⟩
   refine ⟨by rw [x,y a List.mem_cons_self,Rat.zero_mul]; exact Rat.add_zero 0,fun d hd => y d (List.mem_cons_of_mem _ hd)⟩
theorem sqN_kn (N : Knows S E) {l : List Nat} {s : Nat} (h : sqN S l=some s) : E.q s=0 ↔ ∀ d ∈ l,E.q d=0 := by
 unfold sqN at h
 split at h
 ·cases h
 ·rename_i a l
  rw [Option.bind_eq_some_iff] at h
  obtain ⟨b,h1,h2⟩ := h
  have e1 := N.k7 _ _ _ h1
  obtain ⟨_,g⟩ := Hc N h2 (by rw [e1]; exact LR _)
  rw [g,e1]
  constructor
  ·rintro ⟨x,y⟩ d hd
   rcases List.mem_cons.1 hd with rfl | hd
   ·rcases Rat.mul_eq_zero.1 x with x | x <;> exact x
   ·exact y d hd
  ·intro y
   exact ⟨by rw [y a List.mem_cons_self,Rat.zero_mul],fun d hd => y d (List.mem_cons_of_mem _ hd)⟩
theorem told_on {c : AC} {a : Nat} {γ : Nat→Option Nat} {w : World} {u : Value} (hh : JB c=some a) (hu : cOn E S.K γ w c u) : u=.string (E.tell (E.q a)) := by
 unfold JB at hh
 split at hh
 ·rw [ifO_some,Nat.beq_eq] at hh
  obtain ⟨e1,e2⟩ := hh
  cases e2
  subst e1
  exact hu
 ·cases hh
theorem TW {γ : Nat→Option Nat} {w : World} : ∀ {ar : List AC} {l : List Nat} {us : List Value},ZX JB ar=some l→A2 (cOn E S.K γ w) ar us→us=(l.map fun a => E.tell (E.q a)).map Value.string∧l.length=ar.length
 | [],l,[],h,_ => by
  cases h
  exact ⟨rfl,rfl⟩
 | c :: ar,l,u :: us,h,⟨h1,h2⟩ => by
  unfold ZX at h
  simp only [Option.bind_eq_some_iff,Option.map_eq_some_iff] at h
  obtain ⟨a,g1,m,g2,rfl⟩ := h
  obtain ⟨e1,e2⟩ := TW g2 h2
  rw [told_on g1 h1,e1]
  exact ⟨rfl,by simp [e2]⟩
 | [],_,_ :: _,_,h => h.elim
 | _ :: _,_,[],_,h => h.elim
theorem SZ (N : Knows S E) : ∀ {l m ds : List Nat},Ds S l m=some ds→((∀ d ∈ ds,E.q d=0) ↔ (l.map fun a => E.tell (E.q a))=(m.map fun a => E.tell (E.q a)))
 | [],[],ds,h => by
  cases h
  exact ⟨fun _ => rfl,fun _ d hd => by cases hd⟩
 | a :: l,b :: m,ds,h => by
  unfold Ds at h
  simp only [Option.bind_eq_some_iff,Option.map_eq_some_iff] at h
  obtain ⟨d,h1,r,h2,rfl⟩ := h
  have e := N.k9 _ _ _ h1
  have ih := SZ N h2
  simp only [List.mem_cons,forall_eq_or_imp,List.map_cons,List.cons.injEq]
  refine and_congr ?_ ih
  constructor
  ·intro z
   rw [show E.q a=E.q b by rw [z] at e; grind]
  ·intro z
   rw [e,N.tin _ _ z]
   grind
 | [],_ :: _,_,h => by cases h
 | _ :: _,[],_,h => by cases h
theorem Px {γ : Nat→Option Nat} {w : World} {c : AC} {a : Nat} {x : Value} (h : JB c=some a) (hc : cOn E S.K γ w c x) : x=.string (E.tell (E.q a)) := by
 unfold JB at h
 split at h
 ·rw [ifO_some,Nat.beq_eq] at h
  obtain ⟨rfl,h2⟩ := h
  cases h2
  exact hc
 ·cases h
theorem Cc {γ : Nat→Option Nat} {w : World} {c : AC} {a : Nat} {x : Value} (h : Ph c=some a) (hc : cOn E S.K γ w c x) : x=.string (E.σ a) := by
 unfold Ph at h
 split at h
 ·rw [ifO_some,Nat.beq_eq] at h
  obtain ⟨rfl,h2⟩ := h
  cases h2
  exact hc
 ·cases h
theorem PS : ∀ {l m : List Int},SP l m=decide (l=m)
 | [],[] => by simp [SP]
 | a :: l,b :: m => by
  unfold SP
  rw [PS (l := l) (m := m)]
  simp [Bool.beq_eq_decide_eq]
 | [],_ :: _ => by simp [SP]
 | _ :: _,[] => by simp [SP]
theorem PJ {γ : Nat→Option Nat} {w : World} : ∀ {ar : List AC} {l : List Int} {us : List Value},ZX acI ar=some l→A2 (cOn E S.K γ w) ar us→us=l.map fun (z : Int) => Value.int .i64 z
 | [],l,us,h,hU => by
  cases h
  match us,hU with
  | [],_ => rfl
 | c :: ar,l,us,h,hU => by
  unfold ZX at h
  simp only [Option.bind_eq_some_iff,Option.map_eq_some_iff] at h
  obtain ⟨z,h1,l',h2,rfl⟩ := h
  match us,hU with
  | u :: us,⟨hu,hU⟩ =>
   rw [List.map_cons,← PJ h2 hU]
   congr 1
   unfold acI at h1
   split at h1
   ·cases h1
    exact hu.1
   ·cases h1
theorem Cf (N : Knows S E) {γ : Nat→Option Nat} {w : World} {ar bs : List AC} {r : Bool} {us vs : List Value} (hr : ME S ar bs=some r) (hU : A2 (cOn E S.K γ w) ar us) (hV : A2 (cOn E S.K γ w) bs vs) : ∃ ss ts : List ByteArray,us=ss.map Value.string∧vs=ts.map Value.string∧ss.length=ar.length∧ts.length=bs.length∧r=decide (ss=ts) := by
 unfold ME at hr
 split at hr
 ·rename_i r' h
  cases hr
  exact SO N h hU hV
 split at hr
 ·rename_i r' h
  cases hr
  unfold parEq at h
  split at h
  ·rename_i x y u v
   simp only [Option.bind_eq_some_iff,Option.map_eq_some_iff] at h
   obtain ⟨a,h1,b,h2,i,h3,j,h4,n,h5,rr,h6,rfl⟩ := h
   match us,vs,hU,hV with
   | [p,s],[p',s'],⟨c1,c2,_⟩,⟨d1,d2,_⟩ =>
    refine ⟨[E.tell (E.q a),E.tell (E.q b)],[E.σ i,E.σ j],?_,?_,rfl,rfl,?_⟩
    ·rw [Px h1 c1,Px h2 c2]
     rfl
    ·rw [Cc h3 d1,Cc h4 d2]
     rfl
    ·rw [Bool.eq_iff_iff,N.k0 _ _ h6,N.k10 _ _ _ _ _ h5,decide_eq_true_eq]
     simp
  ·cases h
 ·simp only [Option.bind_eq_some_iff,Option.map_eq_some_iff] at hr
  obtain ⟨l,h1,m,h2,ds,h3,s,h4,rr,h5,rfl⟩ := hr
  obtain ⟨e1,l1⟩ := TW h1 hU
  obtain ⟨e2,l2⟩ := TW h2 hV
  refine ⟨_,_,e1,e2,by simp [l1],by simp [l2],?_⟩
  rw [Bool.eq_iff_iff,N.k0 _ _ h5,sqN_kn N h4,SZ N h3,decide_eq_true_eq]
theorem cmp_on (N : Knows S E) {γ : Nat→Option Nat} {w : World} {b : Int} {c : AC} {n : Nat} {v : Value} (h : DP S b c=some n) (hc : cOn E S.K γ w c v) : ∃ sg : Int,v=.int .i64 sg∧(sg=b ↔ E.q n=0)∧(sg < b ↔ E.q n < 0) := by
 unfold DP at h
 split at h
 ·rename_i a ha
  rw [Option.bind_eq_some_iff] at h
  obtain ⟨k,h1,h2⟩ := h
  obtain ⟨m,rfl,hm⟩ := N.x6 _ _ _ (UK ha hc)
  have e := N.k9 a k n h2
  rw [← hm,N.c0 b k h1] at e
  refine ⟨m,rfl,?_,?_⟩
  ·rw [e]
   constructor
   ·intro q
    rw [q]
    grind
   ·intro q
    have : ((m : Int) : Rat)=((b : Int) : Rat) := by grind
    exact Rat.intCast_inj.1 this
  ·rw [e]
   constructor
   ·intro q
    have := Rat.intCast_lt_intCast.2 q
    grind
   ·intro q
    exact Rat.intCast_lt_intCast.1 (by grind)
 ·simp only [Option.bind_eq_some_iff,ifO_some,decide_eq_true_eq] at h
  obtain ⟨a,h1,rfl,h2⟩ := h
  cases h2
  exact sg_on N h1 hc
theorem op_bin (N : Knows S E) {op : BinOp} {t t' : TypeId} {x y : Operand} {r : OR} (hop : o.op=.binOp op t x y t') (hr : ((ρ x).bind fun a => (ρ y).bind fun b => (binB S op t a b).map (QO h nx))=some r) : OpOk S E w0 h nx ρ o r := by
 simp only [Option.bind_eq_some_iff,Option.map_eq_some_iff] at hr
 obtain ⟨a,h1,b,h2,v,h3,rfl⟩ := hr
 refine OpOk.pure fun γ w ac hρ => ?_
 have hx := hρ x a h1
 have hy := hρ y b h2
 have hexec : ∀ q : Value,(do eqGuard op t x y (ac.eval x) (ac.eval y); binOp op t (ac.eval x) (ac.eval y) : Sem Value).run S.P w=.ok q w→(execOp ac.eval o).run S.P w=.ok (.value q) w := fun q hq => by
  unfold execOp
  rw [hop]
  exact Zs hq
 unfold binB at h3
 split at h3
 ·rename_i zb hb
  have ey := Vk hb hy
  split at h3
  ·rename_i za ha
   have ex := Vk ha hx
   obtain ⟨q,e1,e2⟩ := Tq (S := S) (E := E) (P := S.P) (t := t) (x := x) (y := y) (γ := γ) (w := w) h3
   exact ⟨q,hexec q (by rw [ex,ey]; exact e1),e2⟩
  ·split at h3
   ·rename_i n g1
    rw [Option.bind_eq_some_iff] at g1
    obtain ⟨c,g1,g2⟩ := g1
    simp only [Option.map_eq_some_iff] at h3
    obtain ⟨bb,g3,rfl⟩ := h3
    obtain ⟨sg,ex,zero⟩ := (N.x7 _ _ _).1 (UK g2 (Za g1 hx))
    unfold zerOp at g3
    rw [ifO_some,decide_eq_true_eq] at g3
    obtain ⟨rfl,g3⟩ := g3
    have key : ∀ (op' : BinOp) (res : Bool),YF op' sg 0=some (kB res)→op=op'→∃ q,(execOp ac.eval o).run S.P w=.ok (.value q) w∧avOn (cOn E S.K γ w) (kB res) q := fun op' res hi he => by
     subst he
     obtain ⟨q,e1,e2⟩ := Tq (S := S) (E := E) (P := S.P) (t := t) (x := x) (y := y) (γ := γ) (w := w) hi
     exact ⟨q,hexec q (by rw [ex,ey]; exact e1),e2⟩
    split at g3 <;> first | (cases g3; done) | skip
    all_goals
     simp only [Option.map_eq_some_iff] at g3
     obtain ⟨rr,g4,rfl⟩ := g3
    ·exact key .eql _ (by simp only [YF]; rw [show ((sg == 0)=Nat.beq 1 rr) by rw [Bool.eq_iff_iff,N.k0 n rr g4,beq_iff_eq]; exact zero]) rfl
    ·exact key .neq _ (by simp only [YF]; rw [show ((sg != 0)=!Nat.beq 1 rr) by rw [bne,show ((sg == 0)=Nat.beq 1 rr) by rw [Bool.eq_iff_iff,N.k0 n rr g4,beq_iff_eq]; exact zero]]) rfl
   ·simp only [Option.bind_eq_some_iff,Option.map_eq_some_iff] at h3
    obtain ⟨n,⟨c,g1,g2⟩,bb,g3,rfl⟩ := h3
    obtain ⟨sg,ex,zero,neg⟩ := cmp_on N g2 (Za g1 hx)
    have key : ∀ (op' : BinOp) (res : Bool),YF op' sg zb=some (kB res)→op=op'→∃ q,(execOp ac.eval o).run S.P w=.ok (.value q) w∧avOn (cOn E S.K γ w) (kB res) q := fun op' res hi he => by
     subst he
     obtain ⟨q,e1,e2⟩ := Tq (S := S) (E := E) (P := S.P) (t := t) (x := x) (y := y) (γ := γ) (w := w) hi
     exact ⟨q,hexec q (by rw [ex,ey]; exact e1),e2⟩
    have pos : sg > zb ↔ 0 < E.q n := by
     constructor
     ·intro hq
      have h1 : ¬ E.q n < 0 := fun q => by have := neg.2 q; omega
      have h2 : ¬ E.q n=0 := fun q => by have := zero.2 q; omega
      rcases Rat.le_iff_lt_or_eq.1 (Rat.not_lt.1 h1) with q | q
      ·exact q
      ·exact absurd q.symm h2
     ·intro hq
      have h1 : ¬ sg < zb := fun q => by have := neg.1 q; grind
      have h2 : ¬ sg=zb := fun q => by have := zero.1 q; grind
      omega
    unfold sgnOp at g3
    split at g3 <;> first | (cases g3; done) | skip
    all_goals
     simp only [Option.map_eq_some_iff] at g3
     obtain ⟨rr,g4,rfl⟩ := g3
    ·exact key .eql _ (by simp only [YF]; rw [show ((sg == zb)=Nat.beq 1 rr) by rw [Bool.eq_iff_iff,N.k0 n rr g4,beq_iff_eq]; exact zero]) rfl
    ·exact key .neq _ (by simp only [YF]; rw [show ((sg != zb)=!Nat.beq 1 rr) by rw [bne,show ((sg == zb)=Nat.beq 1 rr) by rw [Bool.eq_iff_iff,N.k0 n rr g4,beq_iff_eq]; exact zero]]) rfl
    ·exact key .lss _ (by simp only [YF]; rw [show (decide (sg < zb)=Nat.beq 1 rr) by rw [Bool.eq_iff_iff,N.k1 n rr g4,decide_eq_true_eq]; exact neg]) rfl
    ·exact key .geq _ (by simp only [YF]; rw [show (decide (sg ≥ zb)=!Nat.beq 1 rr) by rw [← show (decide (sg < zb)=Nat.beq 1 rr) by rw [Bool.eq_iff_iff,N.k1 n rr g4,decide_eq_true_eq]; exact neg]; simp [← Int.not_lt]]) rfl
    ·exact key .gtr _ (by simp only [YF]; rw [show (decide (sg > zb)=Nat.beq 1 rr) by rw [Bool.eq_iff_iff,N.k2 n rr g4,decide_eq_true_eq]; exact pos]) rfl
    ·exact key .leq _ (by simp only [YF]; rw [show (decide (sg≤zb)=!Nat.beq 1 rr) by rw [← show (decide (sg > zb)=Nat.beq 1 rr) by rw [Bool.eq_iff_iff,N.k2 n rr g4,decide_eq_true_eq]; exact pos]; simp [← Int.not_lt]]) rfl
 ·split at h3
  ·rename_i bb hb
   have ey := OE hb hy
   rw [Option.bind_eq_some_iff] at h3
   obtain ⟨ba,ha,h3⟩ := h3
   rw [ifO_some] at h3
   obtain ⟨hT,h3⟩ := h3
   have ex := OE ha hx
   have hb2 := Hg (P := S.P) (x := x) (y := y) (a := ba) (b := bb) hT w
   split at h3
   ·cases h3
    exact ⟨.bool (ba == bb),hexec _ (by rw [ex,ey]; exact hb2.1),XG _⟩
   ·cases h3
    exact ⟨.bool (ba != bb),hexec _ (by rw [ex,ey]; exact hb2.2),XG _⟩
   ·cases h3
  ·split at h3
   ·rename_i vv hm
    cases h3
    unfold mulSg at hm
    split at hm
    ·simp only [Option.bind_eq_some_iff,Option.map_eq_some_iff] at hm
     obtain ⟨na,⟨c,g1,g2⟩,nb,⟨d,g3,g4⟩,nc,g5,rfl⟩ := hm
     have ex := (N.x4 _ _ _).1 (UK g2 (Za g1 hx))
     have ey := (N.x4 _ _ _).1 (UK g4 (Za g3 hy))
     have r1 := Ks (E.q na)
     have r2 := Ks (E.q nb)
     have hz : WZ (QK (E.q na)*QK (E.q nb))=true := by
      rcases (show QK (E.q na)=-1 ∨ QK (E.q na)=0 ∨ QK (E.q na)=1 by omega) with e | e | e <;> rcases (show QK (E.q nb)=-1 ∨ QK (E.q nb)=0 ∨ QK (E.q nb)=1 by omega) with e' | e' | e' <;> rw [e,e'] <;> decide
     have hi : YF .mul (QK (E.q na)) (QK (E.q nb))=some (kI (QK (E.q na)*QK (E.q nb))) := by simp only [YF,hz]; rfl
     obtain ⟨q,e1,e2⟩ := Tq (S := S) (E := E) (P := S.P) (t := t) (x := x) (y := y) (γ := γ) (w := w) hi
     have eq : q=.int .i64 (QK (E.q na)*QK (E.q nb)) := Vk rfl e2
     refine ⟨q,hexec q (by rw [ex,ey]; exact e1),?_⟩
     rw [eq,← AW,← N.k7 _ _ _ g5]
     exact sgnB_on N
    ·cases hm
   split at h3
   ·rename_i v' hm
    cases h3
    unfold arrZ at hm
    simp only [Option.bind_eq_some_iff,ifO_some,Bool.and_eq_true,Nat.beq_eq] at hm
    obtain ⟨n,g1,ar,g2,bs,g3,l,g4,m,g5,⟨g6,g7⟩,hm⟩ := hm
    obtain ⟨us,ex,hU⟩ := Oi g2 hx
    obtain ⟨vs,ey,hV⟩ := Oi g3 hy
    have eu := PJ g4 hU
    have ev := PJ g5 hV
    subst eu ev g6
    split at hm
    ·cases hm
     exact ⟨_,hexec _ (by rw [ex,ey,PS]; exact (N.eqz t _ g1 l m rfl g7 x y w).1),XG _⟩
    ·cases hm
     exact ⟨_,hexec _ (by rw [ex,ey,PS]; exact (N.eqz t _ g1 l m rfl g7 x y w).2),XG _⟩
    ·cases hm
   split at h3
   ·rename_i v' hm
    cases h3
    unfold nilS at hm
    simp only [Option.bind_eq_some_iff,ifO_some] at hm
    obtain ⟨e,g1,d,g2,c,g3,g4,rr,g5,hm⟩ := hm
    have hu : ∃ e',S.P.underlying t=some (.slice e') := by
     unfold ZH at g1
     rw [Option.bind_eq_some_iff] at g1
     obtain ⟨d',k1,k2⟩ := g1
     split at k2
     ·exact ⟨_,k1⟩
     ·cases k2
    obtain ⟨e',hu⟩ := hu
    have ey := Vp g4 (Za g2 hy)
    have ex : ∃ v n m,ac.eval x=.slice v n m∧rr=v.isNone := by
     cases hn : Vj c
     ·rw [hn] at g5
      simp only [cond_false,Option.map_eq_some_iff] at g5
      obtain ⟨q,g6,rfl⟩ := g5
      obtain ⟨G,m,_,e1⟩ := Rf g6 (Za g3 hx)
      exact ⟨_,_,_,e1,rfl⟩
     ·rw [hn] at g5
      cases g5
      exact ⟨_,_,_,Vp hn (Za g3 hx),rfl⟩
    obtain ⟨v,n,m,ex,er⟩ := ex
    subst er
    have hr := nil_run (x := x) (y := y) (v := v) (n := n) (m := m) hu w
    split at hm
    ·cases hm
     exact ⟨_,hexec _ (by rw [ex,ey]; exact hr.1),XG _⟩
    ·cases hm
     exact ⟨_,hexec _ (by rw [ex,ey]; exact hr.2),XG _⟩
    ·cases hm
   split at h3
   ·rename_i v' hm
    cases h3
    unfold nilP at hm
    simp only [Option.bind_eq_some_iff,ifO_some,Bool.and_eq_true] at hm
    obtain ⟨u,g1,d,g2,c,g3,⟨g4,g7⟩,rr,g5,hm⟩ := hm
    have hu : ∃ e',S.P.underlying t=some (.pointer e') := by
     split at g7
     ·exact ⟨_,g1⟩
     ·cases g7
    obtain ⟨e',hu⟩ := hu
    have ey := GU g4 (Za g2 hy)
    have ex : ∃ v,ac.eval x=.pointer v∧rr=v.isNone := by
     cases hn : Kn c
     ·rw [hn] at g5
      simp only [cond_false,Option.map_eq_some_iff] at g5
      obtain ⟨q,g6,rfl⟩ := g5
      obtain ⟨G,e1⟩ := N.xp _ _ _ (UK g6 (Za g3 hx))
      exact ⟨_,e1,rfl⟩
     ·rw [hn] at g5
      cases g5
      exact ⟨_,GU hn (Za g3 hx),rfl⟩
    obtain ⟨v,ex,er⟩ := ex
    subst er
    have hr := ptr_run (x := x) (y := y) (v := v) hu w
    split at hm
    ·cases hm
     exact ⟨_,hexec _ (by rw [ex,ey]; exact hr.1),XG _⟩
    ·cases hm
     exact ⟨_,hexec _ (by rw [ex,ey]; exact hr.2),XG _⟩
    ·cases hm
   unfold eqlB at h3
   split at h3
   ·rename_i res hres
    simp only [Option.bind_eq_some_iff] at hres
    obtain ⟨c,g1,d,g2,g3⟩ := hres
    obtain ⟨s,u,ex,ey,rfl⟩ := ML N g3 (Za g1 hx) (Za g2 hy)
    have hs := str_run (P := S.P) (t := t) (x := x) (y := y) (a := s) (b := u) w
    split at h3
    ·cases h3
     exact ⟨_,hexec _ (by rw [ex,ey]; exact hs.1),XG _⟩
    ·cases h3
     exact ⟨_,hexec _ (by rw [ex,ey]; exact hs.2),XG _⟩
    ·cases h3
   ·simp only [Option.bind_eq_some_iff,ifO_some,Bool.and_eq_true,Nat.beq_eq] at h3
    obtain ⟨n,g1,ar,g2,bs,g3,⟨⟨g4,g5⟩,g6⟩,h3⟩ := h3
    have hn := Nat.lt_of_lt_of_le (Nat.lt_succ_self n) (Nat.le_of_ble_eq_true g6)
    obtain ⟨us,ex,hU⟩ := Oi g2 hx
    obtain ⟨vs,ey,hV⟩ := Oi g3 hy
    split at h3
    ·simp only [Option.map_eq_some_iff] at h3
     obtain ⟨res,g7,rfl⟩ := h3
     obtain ⟨ss,ts,rfl,rfl,l1,l2,rfl⟩ := Cf N g7 hU hV
     exact ⟨_,hexec _ (by rw [ex,ey]; exact (N.eqs t n g1 hn ss ts (by omega) (by omega) x y w).1),XG _⟩
    ·simp only [Option.map_eq_some_iff] at h3
     obtain ⟨res,g7,rfl⟩ := h3
     obtain ⟨ss,ts,rfl,rfl,l1,l2,rfl⟩ := Cf N g7 hU hV
     exact ⟨_,hexec _ (by rw [ex,ey]; exact (N.eqs t n g1 hn ss ts (by omega) (by omega) x y w).2),XG _⟩
    ·cases h3
end
end Cx
/- VLA -/
namespace Cx
open Go Go.RowKit
theorem Gp {zs : Array Value} {n : Nat} (h : 0 < zs.size) : ∀ u ∈ (Builtin.zeroCells zs n).toList,u ∈ zs.toList := fun u hu => by
 unfold Builtin.zeroCells at hu
 simp only [Array.toList_map,List.mem_map] at hu
 obtain ⟨i,_,rfl⟩ := hu
 have hlt : i % zs.size < zs.size := Nat.mod_lt _ h
 rw [getElem!_pos zs _ hlt]
 exact Array.getElem_mem_toList hlt
theorem Ef.more {nb : List Nat} {w0 w w' : World} {γ γ' : Nat→Option Nat} {wr wr2 : List Nat} {lo hi : Nat} (h : Ef nb w0 wr lo hi γ w γ' w') (hw : ∀ b ∈ wr,b ∈ wr2) (hl : ∀ b ∈ wr2,KU γ b) : Ef nb w0 wr2 lo hi γ w γ' w' :=
 ⟨h.le,h.same,fun b G q => (h.fresh b G q).imp id (Or.imp id fun ⟨k,hk,e⟩ => ⟨k,hw k hk,e⟩),h.wi,h.gr,fun G hG hn => h.keep G hG fun b hb => hn b (hw b hb),hl⟩
theorem Ot (w : World) (x : Obj) : Below w.heap.size w (w.drew.alloc x) := (Below.drew (Below.refl _ w)).trans (YD w.drew x)
section
variable {S : Sx} {E : Ev S.nb} {w0 : World} {h : List HB} {nx : Nat} {ρ : Operand→Option AV} {o : Oper}
theorem VP {c} {s x : Operand} {t : TypeId} (hop : o.op=.call c) (hc : c.callee=.builtin .append) (ha : c.args.toList=[s,x]) (ht : c.argTypes.toList=[t,t]) {a : Act} {w w' : World} {v : Value}
  (hrun : (Builtin.append_ #[t,t] o.type #[a.eval s,a.eval x]).run S.P w=.ok v w') : (execOp a.eval o).run S.P w=.ok (.value v) w' := by
 have e2 : c.args=#[s,x] := by
  apply Array.ext'
  simpa using ha
 have e3 : c.argTypes=#[t,t] := by
  apply Array.ext'
  simpa using ht
 unfold execOp
 rw [hop]
 show (resolve a.eval c o.type >>= fun d => invoke d.target d.args).run S.P w=_
 unfold resolve
 rw [hc]
 show (Builtin.append_ c.argTypes o.type (c.args.map a.eval) >>= fun v => pure (Next.value v) : Sem Next).run S.P w=_
 have e4 : (#[s,x] : Array Operand).map a.eval=#[a.eval s,a.eval x] := by simp
 rw [e2,e3,Sem.run_bind,e4,hrun]
 rfl
theorem Hd {P : Program} {t ty e : TypeId} {n : Nat} (ht : ZH P t=some e) (hz : Zh P e=some n) {ao ax : Option Addr} {k m c : Nat} (hk : k≤m) (w : World) : (Builtin.append_ #[t,t] ty #[.slice ao k m,.slice ax 0 c]).run P w=.ok (.slice ao k m) w := by
 obtain ⟨i,hi,_⟩ := OC hz
 cases ao <;> cases ax <;> simp [Builtin.append_,run_underlying (QR ht),QW hz,Builtin.lenOf,hk,Builtin.firstCells,loadCells,loadCellsFrom,storeCells,Result.andThen]
theorem To {P : Program} {w : World} {t ty e : TypeId} {i : TypeInfo} {z : Value} (ht : P.underlying t=some (.slice e)) (hi : P.info? e=some i) (hz : i.zero=some z) (hsz : z.cells.size=i.size) (h0 : 0 < i.size) {ao : Option Addr} {k c : Nat} {olds : List Value} (hlo : olds.length=k*i.size) (holds : ∀ b,ao=some b→∀ j v,olds[j]? = some v→w.cell? (b.add j)=some v) (hnone : ao=none→k=0∧c=0)
  {ad : Addr} {m cy : Nat} {news : List Value} (hl : news.length=m*i.size) (hnews : ∀ j v,news[j]? = some v→w.cell? (ad.add j)=some v) (hm : 0 < m) (hg : c < k+m) (hb : k+m≤4000000) (hbt : (k+m)*i.bytes≤140737488355328) :
  ∃ (cap : Nat) (us : List Value),k+m≤cap∧(olds ++ news ++ us).length=cap*i.size∧(∀ u ∈ us,u ∈ z.cells.toList)∧(Builtin.append_ #[t,t] ty #[.slice ao k c,.slice (some ad) m cy]).run P w=.ok (.slice (some ⟨w.heap.size,0,none⟩) (k+m) cap) (w.drew.alloc (.cells (olds ++ news ++ us).toArray e)) := by
 have hge := grownCap_ge w (k+m) c e
 refine ⟨grownCap w (k+m) c e,(Builtin.zeroCells z.cells (grownCap w (k+m) c e - (k+m))).toList,hge,?_,Gp (by omega),?_⟩
 ·simp only [List.length_append,hlo,hl,Array.length_toList,size_zeroCells,hsz]
  rw [← Nat.add_mul,← Nat.add_mul]
  congr 1
  omega
 ·have ea : (olds ++ news ++ (Builtin.zeroCells z.cells (grownCap w (k+m) c e - (k+m))).toList).toArray=olds.toArray ++ news.toArray ++ Builtin.zeroCells z.cells (grownCap w (k+m) c e - (k+m)) := by
   apply Array.ext'
   simp
  rw [ea]
  cases ao with
  | some b => exact run_append_grow (P := P) w t ty e i z ht hi hz b k c olds hlo (holds b rfl) ad m cy news hl hnews hg (by omega) (growslice_fits hg hbt)
  | none =>
   obtain ⟨rfl,rfl⟩ := hnone rfl
   obtain rfl : olds=[] := List.eq_nil_of_length_eq_zero (by simpa using hlo)
   have := run_append_nil (P := P) w t ty e i z ht hi hz ad m cy news hl hnews hm (by omega) (by rw [Nat.zero_add] at hbt; omega)
   rw [Nat.zero_add]
   rw [this]
   simp
theorem OpOk.grow {rd : List Nat} {cells : List AC} {n z : Nat} (hr : ∀ (γ : Nat→Option Nat) (w : World) (a : Act),(∀ x v,ρ x=some v→avOn (cOn E S.K γ w) v (a.eval x))→(∀ x ∈ h,x.1 ∈ rd→boxOn E S.K γ w x) →
  ∃ vs us e cap,(execOp a.eval o).run S.P w=.ok (.value (.slice (some ⟨w.heap.size,0,none⟩) n cap)) (w.drew.alloc (.cells (vs ++ us).toArray e))∧JU e S.nb=false∧A2 (cOn E S.K γ w) cells vs∧(∀ u ∈ us,okV u=true)∧n≤cap∧(vs ++ us).length=cap*z) :
  OpOk S E w0 h nx ρ o { res := some (v1 (.inr (6,nx,0,n,z))),rd := rd,wr := [],h := h ++ [(nx,cells)],nx := nx+1 } where
 le := Nat.le_succ _
 wh := fun b hb => by cases hb
 fp := fun x hx => by
  rcases List.mem_append.1 hx with hx | hx
  ·exact Or.inl hx
  ·rw [List.mem_singleton] at hx
   rw [hx]
   exact Or.inr (Or.inr ⟨Nat.le_refl _,Nat.lt_succ_self _⟩)
 run := fun γ w a Q hi hρ hbx hf hlt K hK => by
  obtain ⟨vs,us,e,cap,hrun,ht,hA,hu,hn,hl⟩ := hr γ w a hρ fun x hx hd => hbx x hx (Or.inl hd)
  unfold Oper.wp
  rw [hrun]
  have hk : Bk (w.drew.alloc (.cells (vs ++ us).toArray e)) w.heap.size (vs ++ us) e := Bk.new w.drew _ _
  have hef : Ef S.nb w0 [] nx (nx+1) γ w (Bt γ nx w.heap.size) (w.drew.alloc (.cells (vs ++ us).toArray e)) := Ef.new hi (hf nx (Nat.le_refl _) (Nat.lt_succ_self _)) (Ot _ _) (Nat.le_refl _) hk.lt
  refine hK _ _ _ hef (fun y hy => ?_) fun x hx hw => ?_
  ·cases hy
   exact Zk ⟨_,cap,JD _ _ _,rfl,hn,_,_,hk,by rw [hl]; omega⟩
  ·rcases List.mem_append.1 hx with hx | hx
   ·have := hlt x hx
    rcases hw with hw | hw
    ·cases hw
    ·omega
   ·rw [List.mem_singleton] at hx
    rw [hx]
    exact ⟨_,vs,e,JD _ _ _,KI hi (Nat.le_refl _),⟨us,hk,hu⟩,ht,hA.mono fun _ _ q => hef.cell q⟩
theorem OpOk.turn {rd : List Nat} {b : Nat} {xs cells : List AC} {n z : Nat} (hb : (b,xs) ∈ h) (hr : ∀ (γ : Nat→Option Nat) (w : World) (a : Act),(∀ x v,ρ x=some v→avOn (cOn E S.K γ w) v (a.eval x))→(∀ x ∈ h,x.1 ∈ rd ∨ x.1=b→boxOn E S.K γ w x) →
  (∃ vs us e cap,(execOp a.eval o).run S.P w=.ok (.value (.slice (some ⟨w.heap.size,0,none⟩) n cap)) (w.drew.alloc (.cells (vs ++ us).toArray e))∧JU e S.nb=false∧A2 (cOn E S.K γ w) cells vs∧(∀ u ∈ us,okV u=true)∧n≤cap∧(vs ++ us).length=cap*z) ∨
  (∃ G vs us t w' cap old,γ b=some G∧(execOp a.eval o).run S.P w=.ok (.value (.slice (some ⟨G,0,none⟩) n cap)) w'∧Bk w' G (vs ++ us) t∧Sav G w w'∧JU t S.nb=false∧A2 (cOn E S.K γ w) cells vs∧(∀ u ∈ us,okV u=true)∧n≤cap∧(vs ++ us).length=cap*z∧Bk w G old t∧old.length=(vs ++ us).length)) :
  OpOk S E w0 h nx ρ o { res := some (v1 (.inr (6,nx,0,n,z))),rd := rd,wr := [b],h := (h.filter fun c => !Nat.beq c.1 b) ++ [(nx,cells)],nx := nx+1 } where
 le := Nat.le_succ _
 wh := fun c hc => ⟨(b,xs),hb,(List.mem_singleton.1 hc).symm⟩
 fp := fun x hx => by
  rcases List.mem_append.1 hx with hx | hx
  ·exact Or.inl (List.mem_filter.1 hx).1
  ·rw [List.mem_singleton] at hx
   rw [hx]
   exact Or.inr (Or.inr ⟨Nat.le_refl _,Nat.lt_succ_self _⟩)
 run := fun γ w a Q hi hρ hbx hf hlt K hK => by
  have hlive : KU γ b := (hbx _ hb (Or.inr List.mem_cons_self)).live
  have hll : ∀ c ∈ [b],KU γ c := fun c hc => by rw [List.mem_singleton.1 hc]; exact hlive
  have hbn : b < nx := hlt _ hb
  have hnew : γ nx=none := hf nx (Nat.le_refl _) (Nat.lt_succ_self _)
  have rest : ∀ x ∈ (h.filter fun c => !Nat.beq c.1 b) ++ [(nx,cells)],(x.1 ∈ [b] ∨ (nx≤x.1∧x.1 < nx+1))→x=(nx,cells) := fun x hx hw => by
   rcases List.mem_append.1 hx with hx | hx
   ·obtain ⟨q1,q2⟩ := List.mem_filter.1 hx
    have := hlt x q1
    rcases hw with hw | hw
    ·rw [List.mem_singleton.1 hw,Nat.beq_refl] at q2
     cases q2
    ·omega
   ·exact List.mem_singleton.1 hx
  rcases hr γ w a hρ (fun x hx hd => hbx x hx (hd.imp id fun e => by rw [e]; exact List.mem_cons_self)) with ⟨vs,us,e,cap,hrun,ht,hA,hu,hn,hl⟩ | ⟨G,vs,us,t,w',cap,old,hG,hrun,hk,hsv,ht,hA,hu,hn,hl,hold,hol⟩
  ·unfold Oper.wp
   rw [hrun]
   have hk : Bk (w.drew.alloc (.cells (vs ++ us).toArray e)) w.heap.size (vs ++ us) e := Bk.new w.drew _ _
   have hef0 : Ef S.nb w0 [] nx (nx+1) γ w (Bt γ nx w.heap.size) (w.drew.alloc (.cells (vs ++ us).toArray e)) := Ef.new hi hnew (Ot _ _) (Nat.le_refl _) hk.lt
   have hef := hef0.more (wr2 := [b]) (fun c hc => by cases hc) hll
   refine hK _ _ _ hef (fun y hy => ?_) fun x hx hw => ?_
   ·cases hy
    exact Zk ⟨_,cap,JD _ _ _,rfl,hn,_,_,hk,by rw [hl]; omega⟩
   ·rw [rest x hx hw]
    exact ⟨_,vs,e,JD _ _ _,KI hi (Nat.le_refl _),⟨us,hk,hu⟩,ht,hA.mono fun _ _ q => hef.cell q⟩
  ·unfold Oper.wp
   rw [hrun]
   have hB : Bxd S.nb w G := (hbx _ hb (Or.inr List.mem_cons_self)).bxd hG
   have hlo := hi.lo _ _ hG
   have hef : Ef S.nb w0 [b] nx (nx+1) γ w (Bt γ nx G) w' := {
    le := fun c G' q => by
     have : c ≠ nx := fun e => by rw [e,hnew] at q; cases q
     rw [XT _ _ this]
     exact q
    same := fun c hc => XT _ _ (by omega)
    fresh := fun c G' q => by
     by_cases e : c=nx
     ·rw [e,JD] at q
      cases q
      exact Or.inr (Or.inr ⟨b,List.mem_cons_self,hG⟩)
     ·rw [XT _ _ e] at q
      exact Or.inl q
    wi := ⟨hi.bel.trans ⟨hsv.os,hsv.tape,hsv.output,by rw [hsv.size]; exact Nat.le_refl _,fun k hk => hsv.block k (by omega)⟩,fun c G' q => by
     rw [hsv.size]
     by_cases e : c=nx
     ·rw [e,JD] at q
      cases q
      exact hlo
     ·rw [XT _ _ e] at q
      exact hi.lo c G' q⟩
    gr := ⟨by rw [hsv.size]; exact Nat.le_refl _,fun k _ hk => hsv.block k fun q => hk (q ▸ hB),fun k es t' hd => by
     by_cases e : k=G
     ·subst e
      obtain ⟨e1,e2⟩ := Bk.uniq hd hold
      subst e1 e2
      exact ⟨_,hk,hol.symm⟩
     ·exact ⟨es,(hsv.block k e).trans hd,rfl⟩⟩
    keep := fun G' _ hn => hsv.block G' fun q => hn b List.mem_cons_self (q ▸ hG)
    live := hll }
   refine hK _ _ _ hef (fun y hy => ?_) fun x hx hw => ?_
   ·cases hy
    exact Zk ⟨_,cap,JD _ _ _,rfl,hn,_,_,hk,by rw [hl]; omega⟩
   ·rw [rest x hx hw]
    refine ⟨_,vs,t,JD _ _ _,fun G' c q q' => ?_,⟨us,hk,hu⟩,ht,hA.mono fun _ _ q => hef.cell q⟩
    rw [JD] at q
    cases q
    by_cases e : c=nx
    ·omega
    ·rw [XT _ _ e] at q'
     have := hlive G c hG q'
     omega
theorem Wp {γ : Nat→Option Nat} {w : World} {G off n : Nat} {cs : List AC} {vs us : List Value} {t : TypeId} (hk : Bk w G (vs ++ us) t) (hA : A2 (cOn E S.K γ w) cs vs) (hl : off+n≤cs.length) : ((vs.drop off).take n).length=n∧A2 (cOn E S.K γ w) ((cs.drop off).take n) ((vs.drop off).take n)∧∀ j v,((vs.drop off).take n)[j]? = some v→w.cell? ((⟨G,off,none⟩ : Addr).add j)=some v := by
 have hv : vs.length=cs.length := hA.len
 refine ⟨by rw [List.length_take,List.length_drop]; omega,(hA.drop _).take _,fun j v hj => ?_⟩
 rw [Yl,hk.cell]
 rw [List.getElem?_take] at hj
 split at hj
 ·rw [List.getElem?_drop] at hj
  rw [List.getElem?_append_left (List.getElem?_eq_some_iff.1 hj).1]
  exact hj
 ·cases hj
theorem NM {c} {s x : Operand} {t t' : TypeId} {r : OR} (hop : o.op=.call c) (hc : c.callee=.builtin .append) (ha : c.args.toList=[s,x]) (hta : c.argTypes.toList=[t,t'])
  (hr : ifO (Nat.beq t t') ((ZH S.P t).bind fun e => (ρ s).bind fun u => (asC u).bind fun cs => (ρ x).bind fun v => (asC v).bind fun cx => Au S h nx e cs cx)=some r) : OpOk S E w0 h nx ρ o r := by
 simp only [Option.bind_eq_some_iff,ifO_some] at hr
 obtain ⟨htt,e,hsl,u,hu,cs,hcs,v,hv,cx,hcx,hr⟩ := hr
 rw [Nat.beq_eq] at htt
 subst htt
 unfold Au at hr
 simp only [Option.bind_eq_some_iff] at hr
 obtain ⟨z,hz,m,hm,hr⟩ := hr
 cases hm0 : Nat.beq m 0 with
 | true =>
  rw [hm0] at hr
  simp only [cond_true,ifO_some] at hr
  obtain ⟨hk,hr⟩ := hr
  cases hr
  rw [Nat.beq_eq] at hm0
  subst hm0
  refine OpOk.pure fun γ w a hρ => ?_
  have hS := Za hcs (hρ s u hu)
  obtain ⟨ax,cc,ex⟩ := FN hm (Za hcx (hρ x v hv))
  have key : ∃ ao n m,a.eval s=.slice ao n m∧n≤m := by
   simp only [Bool.or_eq_true] at hk
   rcases hk with hk | hk | hk | hk
   ·exact ⟨_,_,_,Vp hk hS,Nat.le_refl _⟩
   ·rw [Option.isSome_iff_exists] at hk
    obtain ⟨f,hf⟩ := hk
    obtain ⟨ao,m,e1,_⟩ := Mu hf hS
    exact ⟨ao,0,m,e1,Nat.zero_le _⟩
   ·rw [Option.isSome_iff_exists] at hk
    obtain ⟨f,hf⟩ := hk
    obtain ⟨G,m,_,e1,e2,_⟩ := PL hf hS
    exact ⟨_,_,m,e1,e2⟩
   ·split at hk
    ·rename_i p hp
     rw [Nat.ble_eq] at hk
     obtain ⟨G,_,e1⟩ := Md hp hS
     exact ⟨_,_,_,e1,hk⟩
    ·cases hk
  obtain ⟨ao,n,m,es,hnm⟩ := key
  refine ⟨a.eval s,VP hop hc ha hta ?_,Zk hS⟩
  rw [es,ex]
  exact Hd hsl hz hnm w
 | false =>
  rw [hm0] at hr
  simp only [cond_false,Option.bind_eq_some_iff,ifO_some,Bool.and_eq_true,Nat.ble_eq] at hr
  obtain ⟨y,hy,ys,hys,bt,hbt,zc,hzc,⟨⟨⟨h0,hzl⟩,hyl,hnb⟩,hm1,hb1⟩,hr⟩ := hr
  have h0 : 0 < z := by simpa [Nat.blt_eq] using h0
  rw [Nat.beq_eq] at hzl
  have hnb : JU e S.nb=false := by simpa using hnb
  obtain ⟨i,hi,hiz⟩ := OC hz
  have hib : i.bytes=bt := by
   unfold DV at hbt
   rw [hi] at hbt
   exact Option.some.inj hbt
  obtain ⟨z0,hz0,hz1,hz2⟩ : ∃ z0 : Value,i.zero=some z0∧z0.cells.toList.all okV=true∧z0.cells.size=i.size := by
   unfold Yp at hzc
   rw [hi] at hzc
   simp only [Option.bind_some,Option.bind_eq_some_iff,ifO_some] at hzc
   obtain ⟨z0,q1,q2,q3⟩ := hzc
   cases q3
   exact ⟨z0,q1,q2,by rw [hiz,← hzl]; simp⟩
  have hmy : m=y.2.2 := by
   unfold Bf at hm
   unfold acR at hy
   split at hy
   ·rename_i k b o' n c'
    rw [ifO_some] at hy
    obtain ⟨q1,q2⟩ := hy
    cases q2
    have q7 : Nat.beq k 7=false := by
     rw [Bool.or_eq_true,Nat.beq_eq,Nat.beq_eq] at q1
     rcases q1 with q | q <;> subst q <;> rfl
    have q8 : acE (.inr (k,b,o',n,c'))=none := by unfold acE; simp [q7,ifO]
    have q9 : acH (.inr (k,b,o',n,c'))=none := by
     rw [Bool.or_eq_true,Nat.beq_eq,Nat.beq_eq] at q1
     unfold acH
     rcases q1 with q | q <;> subst q <;> rfl
    rw [show Vj (.inr (k,b,o',n,c'))=false from rfl,q8,q9] at hm
    simp only [cond_false,acR,q1,ifO,cond_true,Option.map_some] at hm
    exact (Option.some.inj hm).symm
   ·cases hy
  have hm1p : 0 < y.2.2 := by
   rw [← hmy]
   refine Nat.pos_of_ne_zero fun q => ?_
   rw [q] at hm0
   cases hm0
  have hus : ∀ us : List Value,(∀ u ∈ us,u ∈ z0.cells.toList)→∀ u ∈ us,okV u=true := fun us q u hu => by
   rw [List.all_eq_true] at hz1
   exact hz1 u (q u hu)
  have hbts : ∀ k,k≤200000→k*i.bytes≤140737488355328 := fun k hk => by
   rw [hib]
   exact Nat.le_trans (Nat.mul_le_mul_right _ hk) hb1
  -- the cells that are appended
  have news : ∀ (γ : Nat→Option Nat) (w : World) (a : Act),(∀ x v,ρ x=some v→avOn (cOn E S.K γ w) v (a.eval x))→boxOn E S.K γ w (y.1,ys)→∃ (ad : Addr) (cy : Nat) (ns : List Value),a.eval x=.slice (some ad) y.2.2 cy∧ns.length=y.2.2*i.size∧A2 (cOn E S.K γ w) ((ys.drop y.2.1).take (y.2.2*z)) ns∧∀ j v,ns[j]? = some v→w.cell? (ad.add j)=some v := fun γ w a hρ hb => by
   obtain ⟨G,cy,hG,ex⟩ := Rf hy (Za hcx (hρ x v hv))
   obtain ⟨G',vs,t',g1,_,⟨us,g2,_⟩,_,g4⟩ := hb
   rw [hG] at g1
   cases g1
   obtain ⟨q1,q2,q3⟩ := Wp g2 g4 hyl
   exact ⟨_,cy,_,ex,by rw [hiz]; exact q1,q2,q3⟩
  cases hcap : Tj cs with
  | true =>
   rw [hcap] at hr
   cases hr
   refine OpOk.grow fun γ w a hρ hb => ?_
   obtain ⟨ad,cy,ns,ex,n1,n2,n3⟩ := news γ w a hρ (hb _ (Zt hys) List.mem_cons_self)
   have hS := Za hcs (hρ s u hu)
   have es : ∃ ao,a.eval s=.slice ao 0 0 := by
    unfold Tj at hcap
    rw [Bool.or_eq_true] at hcap
    rcases hcap with q | q
    ·exact ⟨none,Vp q hS⟩
    ·split at q
     ·rename_i f hf
      rw [Nat.beq_eq] at q
      obtain ⟨ao,m',e1,e2⟩ := Mu hf hS
      exact ⟨ao,by rw [e1,e2 q]⟩
     ·cases q
   obtain ⟨ao,es⟩ := es
   obtain ⟨cap,us,k1,k2,k3,k4⟩ := To (P := S.P) (w := w) (ty := o.type) (QR hsl) hi hz0 hz2 (by omega) (ao := ao) (k := 0) (c := 0) (olds := []) (by simp) (fun _ _ _ _ q => by simp at q) (fun _ => ⟨rfl,rfl⟩) (cy := cy) n1 n3 hm1p (by omega) (by omega) (hbts _ (by omega))
   rw [List.nil_append] at k2 k4
   rw [Nat.zero_add] at k1 k4
   exact ⟨ns,us,e,cap,VP hop hc ha hta (by rw [es,ex]; exact k4),hnb,n2,hus us k3,k1,by rw [k2,hiz]⟩
  | false =>
   rw [hcap] at hr
   simp only [cond_false] at hr
   split at hr
   ·rename_i p hp
    simp only [Option.bind_eq_some_iff,ifO_some,Bool.and_eq_true,Nat.ble_eq] at hr
    obtain ⟨xs,hxs,⟨⟨p1,p2⟩,p3⟩,hr⟩ := hr
    cases hr
    have p1 : p.2.2.2 < p.2.2.1+y.2.2 := by simpa [Nat.blt_eq] using p1
    refine OpOk.grow fun γ w a hρ hb => ?_
    obtain ⟨ad,cy,ns,ex,n1,n2,n3⟩ := news γ w a hρ (hb _ (Zt hys) List.mem_cons_self)
    obtain ⟨G,hG,es⟩ := Md hp (Za hcs (hρ s u hu))
    obtain ⟨G',vs,t',g1,_,⟨us',g2,_⟩,_,g4⟩ := hb _ (Zt hxs) (List.mem_cons_of_mem _ List.mem_cons_self)
    rw [hG] at g1
    cases g1
    obtain ⟨q1,q2,q3⟩ := Wp g2 g4 p3
    obtain ⟨cap,us,k1,k2,k3,k4⟩ := To (P := S.P) (w := w) (ty := o.type) (QR hsl) hi hz0 hz2 (by omega) (ao := some ⟨G,p.2.1,none⟩) (k := p.2.2.1) (c := p.2.2.2) (by rw [q1,hiz]) (fun b q => by cases q; exact q3) (fun q => by cases q) (cy := cy) n1 n3 hm1p p1 (by omega) (hbts _ (by omega))
    exact ⟨_,us,e,cap,VP hop hc ha hta (by rw [es,ex]; exact k4),hnb,q2.append n2,hus us k3,k1,by rw [k2,hiz]⟩
   ·simp only [Option.bind_eq_some_iff,ifO_some,Bool.and_eq_true,Nat.ble_eq,Nat.beq_eq] at hr
    obtain ⟨p,hp,xs,hxs,⟨⟨p1,p2,p3⟩,p4,p5⟩,hr⟩ := hr
    cases hr
    refine OpOk.turn (Zt hxs) fun γ w a hρ hb => ?_
    obtain ⟨ad,cy,ns,ex,n1,n2,n3⟩ := news γ w a hρ (hb _ (Zt hys) (Or.inl List.mem_cons_self))
    obtain ⟨G,Tj,hG,es,hnc,cs0,t0,hk0,hl0⟩ := PL hp (Za hcs (hρ s u hu))
    obtain ⟨G',vs,t',g1,_,⟨us',g2,gu⟩,g3,g4⟩ := hb _ (Zt hxs) (Or.inr rfl)
    rw [hG] at g1
    cases g1
    obtain ⟨q1,q2,q3⟩ := Wp (off := 0) (n := p.2.2.1*z) g2 g4 (by show 0+p.2.2.1*z≤xs.length; omega)
    rw [List.drop_zero] at q1 q2 q3
    rw [List.drop_zero] at q2
    rw [p1] at es
    by_cases hroom : p.2.2.1+y.2.2≤Tj
    ·right
     obtain ⟨e1,e2⟩ := Bk.uniq hk0 g2
     subst e1 e2
     rw [p1,p2,Nat.zero_add] at hl0
     have hl1 : vs.length+us'.length=Tj*z := by rw [← List.length_append]; exact hl0
     have hvl : vs.length=xs.length := g4.len
     have hmul : (p.2.2.1+y.2.2)*z≤Tj*z := Nat.mul_le_mul_right _ hroom
     rw [Nat.add_mul] at hmul
     have hnl : ns.length=y.2.2*z := by rw [n1,hiz]
     obtain ⟨w',hs,hk,hsv⟩ := ZN (P := S.P) (o := p.2.2.1*z) ns 0 w (vs ++ us') g2 (A2.all (fun a v q => XM _ a v q) n2) (by rw [List.length_append]; omega)
     have hfc := run_firstCells_some (P := S.P) w i.size y.2.2 ad y.2.2 cy ns n1 n3
     have hrun : (Builtin.append_ #[t,t] o.type #[.slice (some ⟨G,0,none⟩) p.2.2.1 Tj,.slice (some ad) y.2.2 cy]).run S.P w=.ok (.slice (some ⟨G,0,none⟩) (p.2.2.1+y.2.2) Tj) w' := by
      rw [← hiz] at hs
      simp [Builtin.append_,run_underlying (QR hsl),Go.sizeOf,typeInfo,hi,Builtin.lenOf,hroom,hfc,Addr.add_lit,hs]
     rw [Nat.add_zero] at hk
     have hcut : (vs ++ us').take (p.2.2.1*z)=vs.take (p.2.2.1*z) := List.take_append_of_le_length (by omega)
     refine ⟨G,vs.take (p.2.2.1*z) ++ ns,(vs ++ us').drop (p.2.2.1*z+ns.length),t0,w',Tj,vs ++ us',hG,VP hop hc ha hta (by rw [es,ex]; exact hrun),?_,hsv,g3,q2.append n2,?_,hroom,?_,g2,?_⟩
     ·rw [hcut] at hk
      simpa [List.append_assoc] using hk
     ·intro q hq
      have hq := List.mem_of_mem_drop hq
      rcases List.mem_append.1 hq with q' | q'
      ·exact A2.all (p := fun v => okV v=true) (fun a v q => XM _ a v q) g4 q q'
      ·exact gu q q'
     ·rw [List.length_append,List.length_append,List.length_drop,List.length_append,q1,hnl]
      omega
     ·rw [List.length_append,List.length_append,List.length_append,List.length_drop,List.length_append,q1,hnl]
      omega
    ·left
     obtain ⟨cap,us,k1,k2,k3,k4⟩ := To (P := S.P) (w := w) (ty := o.type) (QR hsl) hi hz0 hz2 (by omega) (ao := some ⟨G,0,none⟩) (k := p.2.2.1) (c := Tj) (by rw [q1,hiz]) (fun b q => by cases q; exact q3) (fun q => by cases q) (cy := cy) n1 n3 hm1p (by omega) (by omega) (hbts _ (by omega))
     exact ⟨_,us,e,cap,VP hop hc ha hta (by rw [es,ex]; exact k4),hnb,q2.append n2,hus us k3,k1,by rw [k2,hiz]⟩
end
end Cx
/- VM -/
namespace Cx
open Go Go.RowKit
section
variable (S : Sx) (E : Ev S.nb) (w0 : World)
def IY (call : WY) : Prop := ∀ f args h nx p,call f args h nx=some p→∀ (γ : Nat→Option Nat) (w : World) (vs : List Value),WI w0 γ w→A2 (avOn (cOn E S.K γ w)) args vs→(∀ x ∈ h,boxOn E S.K γ w x)→(∀ x ∈ h,x.1 < nx)→(∀ b,nx≤b→b < p.2.2→γ b=none) →
 Calls S.P f vs.toArray w fun e w' => ∃ r γ',e=.returned r∧Ef S.nb w0 (h.map (·.1)) nx p.2.2 γ w γ' w'∧avOn (cOn E S.K γ' w') p.1 r∧∀ x ∈ p.2.1,boxOn E S.K γ' w' x
def Om : Prop := (hdB S.pr=true→Hs S.K E.σ w0)∧∀ f c,Ir f S.pr=some c→∀ args h nx p,SJ S h nx c args=some p→∀ (γ : Nat→Option Nat) (w : World) (vs : List Value),WI w0 γ w→A2 (avOn (cOn E S.K γ w)) args vs→(∀ x ∈ h,x.1 ∈ p.2.1→boxOn E S.K γ w x)→(∀ b,nx≤b→b < p.2.2.2→γ b=none) →
 Calls S.P f vs.toArray w fun e w' => ∃ r γ',e=.returned r∧Ef S.nb w0 [] nx p.2.2.2 γ w γ' w'∧avOn (cOn E S.K γ' w') p.1 r∧∀ x ∈ p.2.2.1,boxOn E S.K γ' w' x
end
theorem SS {P : Program} {f : FuncId} (h : entB P f=true) (vs : Array Value) (w : World) : (callFunc f vs).run P w=.ok (.enter f vs) w := by
 unfold entB at h
 split at h
 ·rename_i fn hf
  rw [Bool.and_eq_true] at h
  have h1 : ¬ fn.name = "runtime.NumGoroutine" := by simpa using h.1
  have h2 : ¬ fn.body=none := fun e => by rw [e] at h; simp at h
  unfold callFunc
  simp [go_sem,hf,h1,h2]
 ·cases h
section
variable {S : Sx} {E : Ev S.nb} {w0 : World} {h : List HB} {nx : Nat} {ρ : Operand→Option AV} {o : Oper} {call : WY}
theorem MN {lo hi b : Nat} : inR lo hi b=true ↔ lo≤b∧b < hi := by
 unfold inR
 rw [Bool.and_eq_true,Nat.ble_eq]
 constructor
 ·rintro ⟨h1,h2⟩
  exact ⟨h1,by simpa [Nat.blt_eq] using h2⟩
 ·rintro ⟨h1,h2⟩
  exact ⟨h1,by simpa [Nat.blt_eq] using h2⟩
theorem fn_ok (hP : Om S E w0) (hC : IY S E w0 call) {f : FuncId} {args : List AV} {r : OR} (hr : fnB S call f args h nx=some r)
  (hx : ∀ (γ : Nat→Option Nat) (w : World) (a : Act),(∀ x v,ρ x=some v→avOn (cOn E S.K γ w) v (a.eval x))→∃ vs : List Value,execOp a.eval o=callFunc f vs.toArray∧A2 (avOn (cOn E S.K γ w)) args vs) : OpOk S E w0 h nx ρ o r := by
 unfold fnB at hr
 rw [ifO_some] at hr
 obtain ⟨hent,hr⟩ := hr
 split at hr
 ·rename_i c hc
  simp only [Option.bind_eq_some_iff,ifO_some,Bool.and_eq_true,Nat.ble_eq,List.all_eq_true,MN] at hr
  obtain ⟨p,h1,⟨h2,h3⟩,e⟩ := hr
  cases e
  refine ⟨h2,(fun b hb => by cases hb),fun x hx => ?_,fun γ w a Q hi hρ hb hf hlt K hK => ?_⟩
  ·rcases List.mem_append.1 hx with q | q
   ·exact Or.inl q
   ·exact Or.inr (Or.inr (h3 x q))
  ·obtain ⟨vs,ev,hA⟩ := hx γ w a hρ
   have hcall := hP.2 f c hc args h nx p h1 γ w vs hi hA (fun x hx q => hb x hx (Or.inl q)) hf
   unfold Oper.wp
   rw [ev,SS hent]
   refine Calls.mono hcall ?_
   rintro _ w' ⟨v,γ',rfl,hef,hv,hbx⟩
   refine hK v w' γ' hef (fun y hy => by cases hy; exact hv) fun x hx hw => ?_
   rcases List.mem_append.1 hx with q | q
   ·have := hlt x q
    rcases hw with hw | hw
    ·cases hw
    ·omega
   ·exact hbx x q
 ·simp only [Option.bind_eq_some_iff,ifO_some,Bool.and_eq_true,Nat.ble_eq,List.all_eq_true,Bool.or_eq_true,MN,KB] at hr
  obtain ⟨p,h1,⟨h2,h3⟩,e⟩ := hr
  cases e
  generalize hh1 : h.filter (fun b => JU b.1 (Ej S h 3 (args.flatMap (Av S))))=h1' at h1 h3
  have hsub : ∀ x ∈ h1',x ∈ h := fun x hx => by
   rw [← hh1] at hx
   exact (List.mem_filter.1 hx).1
  have hfpx : ∀ x ∈ MO S h p.2.1 (h1'.map (·.1)) p.1,(x ∈ h∧(x.1 ∉ h1'.map (·.1) ∨ h1'=[])) ∨ x ∈ p.2.1 := fun x hx => by
   unfold MO at hx
   split at hx
   ·rename_i e _
    exact Or.inl ⟨hx,Or.inr (by simpa using e)⟩
   ·rcases List.mem_append.1 hx with q | q
    ·rw [List.mem_filter] at q
     exact Or.inl ⟨q.1,Or.inl (by have := q.2; rw [Bool.not_eq_true',memN_not] at this; exact this)⟩
    ·exact Or.inr q
  refine ⟨h2,fun b hb => ?_,fun x hx => ?_,fun γ w a Q hi hρ hb hf hlt K hK => ?_⟩
  ·obtain ⟨x,hx,e⟩ := List.mem_map.1 hb
   exact ⟨x,hsub x hx,e⟩
  ·rcases hfpx x hx with q | q
   ·exact Or.inl q.1
   ·exact Or.inr (h3 x q)
  ·obtain ⟨vs,ev,hA⟩ := hx γ w a hρ
   have hcall := hC f args h1' nx p h1 γ w vs hi hA (fun x hx => hb x (hsub x hx) (Or.inr (List.mem_map_of_mem hx))) (fun x hx => hlt x (hsub x hx)) hf
   unfold Oper.wp
   rw [ev,SS hent]
   refine Calls.mono hcall ?_
   rintro _ w' ⟨v,γ',rfl,hef,hv,hbx⟩
   refine hK v w' γ' hef (fun y hy => by cases hy; exact hv) fun x hx hw => ?_
   rcases hfpx x hx with ⟨q1,q2⟩ | q
   ·have := hlt x q1
    rcases hw with hw | hw
    ·rcases q2 with q2 | q2
     ·exact absurd hw q2
     ·rw [q2] at hw
      cases hw
    ·dsimp only at hw
     omega
   ·exact hbx x q
theorem TI {γ : Nat→Option Nat} {w : World} {a : Act} {l : List Operand} {args : List AV} (hρ : ∀ x v,ρ x=some v→avOn (cOn E S.K γ w) v (a.eval x)) (hm : ZX ρ l=some args) : A2 (avOn (cOn E S.K γ w)) args (l.map a.eval) := Tr hm fun x y hy => hρ x y hy
theorem NV (N : Knows S E) {t : TypeId} {r : OR} (hop : o.op=.alloc t) (hr : (bif isR S.nb t then (S.nd 0 [0,0,1]).map fun i => QO h nx (r1 i) else ifO (!JU t S.nb) ((Yp S.P t).map fun cs => Gw h nx cs (ptr nx 0)))=some r) : OpOk S E w0 h nx ρ o r := by
 cases e : isR S.nb t with
 | false =>
  rw [e] at hr
  exact Li hop hr
 | true =>
  rw [e] at hr
  replace hr : ((S.nd 0 [0,0,1]).map fun i => QO h nx (r1 i))=some r := hr
  rw [Option.map_eq_some_iff] at hr
  obtain ⟨i,hi,rfl⟩ := hr
  obtain ⟨cs,hz,hx⟩ := N.z0 t i e hi
  refine OpOk.calm fun γ w a hρ => ?_
  obtain ⟨z,h1,h2,h3⟩ := UO hz w
  have h4 : z.cells.toList=cs := ((List.map_inj_right (fun x y q => Sum.inl.inj q)).1 h3).symm
  refine ⟨.pointer (some ⟨w.heap.size,0,none⟩),w.alloc (.cells cs.toArray t),?_,YD _ _,Zk (hx w)⟩
  unfold execOp
  rw [hop]
  refine Zs ?_
  unfold Instr.alloc
  rw [Sem.run_bind,h1,← h4]
  simp [go_sem,newVar,newRow]
theorem minB_eq (a b : Nat) : Nb a b=Nat.min a b := by
 unfold Nb
 cases e : Nat.ble a b with
 | true =>
  rw [Nat.ble_eq] at e
  exact (Nat.min_eq_left e).symm
 | false =>
  have : ¬ a≤b := fun h => by rw [← Nat.ble_eq,e] at h; cases h
  exact (Nat.min_eq_right (show b≤a by omega)).symm
theorem op_copy {c} {d s : Operand} {t t' : TypeId} {r : OR} (hop : o.op=.call c) (hc : c.callee=.builtin .copy) (ha : c.args.toList=[d,s]) (hta : c.argTypes.toList=[t,t'])
  (hr : ((ρ d).bind fun u => (ρ s).bind fun v => Ho S.P h nx t u v)=some r) : OpOk S E w0 h nx ρ o r := by
 unfold Ho Tn at hr
 simp only [Option.bind_eq_some_iff,Option.map_eq_some_iff,ifO_some,Bool.and_eq_true,Nat.beq_eq,Nat.ble_eq] at hr
 obtain ⟨u,hu,v,hv,e,hsl,z,hz,p,hp,q,hq,ys,hys,xs,hxs,⟨⟨hz1,_⟩,hfx⟩,cs',⟨hfy,hcs⟩,rfl⟩ := hr
 subst hz1
 cases hcs
 generalize hk0 : Nb q.2.2 p.2.2=k at *
 have hkm : k=Nat.min q.2.2 p.2.2 := hk0 ▸ minB_eq _ _
 have hdl : ((xs.drop q.2.1).take k).length=k := by
  rw [List.length_take,List.length_drop]
  omega
 refine ⟨Nat.le_refl _,fun b hb => ⟨(p.1,ys),Zt hys,(List.mem_singleton.1 hb).symm⟩,fun x hx => ?_,fun γ w a Q hi hρ hb _ _ K hK => ?_⟩
 ·rcases YM hx with q' | q'
  ·rw [q']
   exact Or.inr (Or.inl List.mem_cons_self)
  ·exact Or.inl q'.1
 ·obtain ⟨G,m1,hG,hd⟩ := KY hp (hρ d u hu)
  obtain ⟨H,m2,hH,hs⟩ := KY hq (hρ s v hv)
  have hbx := hb (p.1,ys) (Zt hys) (Or.inr List.mem_cons_self)
  have hby := hb (q.1,xs) (Zt hxs) (Or.inl List.mem_cons_self)
  have hB := hbx.bxd hG
  obtain ⟨G',vs,t1,g1,glive,⟨rs,g2,grs⟩,g3,g4⟩ := hbx
  rw [hG] at g1
  cases g1
  obtain ⟨H',us,t2,k1,_,⟨rs',k2,_⟩,_,k4⟩ := hby
  rw [hH] at k1
  cases k1
  have hvl : vs.length=ys.length := g4.len
  have hul : us.length=xs.length := k4.len
  have hcl : ((us.drop q.2.1).take k).length=k := by
   rw [List.length_take,List.length_drop]
   omega
  have hU : A2 (cOn E S.K γ w) ((xs.drop q.2.1).take k) ((us.drop q.2.1).take k) := (k4.drop _).take _
  have hrun := run_copy_row (P := S.P) w t t' o.type e G p.2.1 p.2.2 m1 ⟨H,q.2.1,none⟩ q.2.2 m2 (vs ++ rs).toArray t1 ((us.drop q.2.1).take k) (QR hsl) hz g2 (by rw [hcl]; exact hkm)
   (fun j x hx => by
    have hj : j < k := by
     have := (List.getElem?_eq_some_iff.1 hx).1
     omega
    have e1 : us[q.2.1+j]? = some x := by
     rw [List.getElem?_take_of_lt hj,List.getElem?_drop] at hx
     exact hx
    have e2 := k2.cell (q.2.1+j)
    rw [List.getElem?_append_left (by omega),e1] at e2
    rw [Yl]
    exact e2)
   (by rw [hcl]; simp only [List.size_toArray,List.length_append]; omega)
   (fun x hx => by
    have := A2.all (p := fun v => okV v=true) (fun a v q => XM _ a v q) hU x hx
    unfold okV at this
    exact (Bool.and_eq_true _ _ ▸ this).2)
  rw [hcl] at hrun
  obtain ⟨w',hw'⟩ : ∃ w',w'=w.setRow G ((vs ++ rs).toArray.toList.take p.2.1 ++ (us.drop q.2.1).take k ++ (vs ++ rs).toArray.toList.drop (p.2.1+k)).toArray := ⟨_,rfl⟩
  rw [← hw'] at hrun
  have hsv : Sav G w w' := by
   rw [hw']
   exact ⟨rfl,rfl,rfl,setRow_size _ _ _,fun j hj => setRow_other w G j _ hj⟩
  have hk : Bk w' G (vs.take p.2.1 ++ ((us.drop q.2.1).take k ++ vs.drop (p.2.1+k)) ++ rs) t1 := by
   unfold Bk
   rw [hw',setRow_heap w G _ _ t1 (0,0) g2]
   rw [show (vs ++ rs).toArray.toList=vs ++ rs from rfl,List.take_append_of_le_length (by omega),List.drop_append_of_le_length (by omega)]
   simp [List.append_assoc]
  have e : (execOp a.eval o).run S.P w=.ok (.value (.int .i64 k)) w' := by
   have e2 : c.args=#[d,s] := by
    apply Array.ext'
    simpa using ha
   have e3 : c.argTypes=#[t,t'] := by
    apply Array.ext'
    simpa using hta
   unfold execOp
   rw [hop]
   show (resolve a.eval c o.type >>= fun d => invoke d.target d.args).run S.P w=_
   unfold resolve
   rw [hc]
   show (Builtin.copy_ c.argTypes o.type (c.args.map a.eval) >>= fun v => pure (Next.value v) : Sem Next).run S.P w=_
   have e4 : (Builtin.copy_ c.argTypes o.type (c.args.map a.eval)).run S.P w=.ok (.int .i64 k) w' := by
    rw [e2,e3]
    rw [show Array.map a.eval #[d,s]=#[a.eval d,a.eval s] by simp,hd,hs]
    exact hrun
   rw [Sem.run_bind,e4]
   rfl
  unfold Oper.wp
  rw [e]
  have hgr : Gr S.nb w w' := ⟨by rw [hsv.size]; exact Nat.le_refl _,fun j _ hj => hsv.block j fun q => hj (q ▸ hB),fun j es t hj => by
   by_cases e : j=G
   ·subst e
    obtain ⟨e1,e2⟩ := Bk.uniq hj g2
    subst e1 e2
    refine ⟨_,hk,?_⟩
    simp only [List.length_append,List.length_take,List.length_drop]
    omega
   ·exact ⟨es,(hsv.block j e).trans hj,rfl⟩⟩
  have hlo := hi.lo _ _ hG
  have hef : Ef S.nb w0 [p.1] nx nx γ w γ w' := ⟨leG.refl _,fun _ _ => rfl,fun _ _ q => Or.inl q,
   ⟨hi.bel.trans ⟨hsv.os,hsv.tape,hsv.output,by rw [hsv.size]; exact Nat.le_refl _,fun k hk => hsv.block k (by omega)⟩,fun b G' q => by rw [hsv.size]; exact hi.lo b G' q⟩,hgr,
   (fun G' _ hn => hsv.block G' fun q => hn p.1 List.mem_cons_self (q ▸ hG)),fun b hb' => by rw [List.mem_singleton.1 hb']; exact glive⟩
  refine hK _ w' γ hef (fun y' hy' => by cases hy'; exact Wj _) fun x hx hw => ?_
  rcases hw with hw | hw
  ·rw [List.mem_singleton] at hw
   rcases YM hx with q' | q'
   ·rw [q']
    refine ⟨G,vs.take p.2.1 ++ ((us.drop q.2.1).take k ++ vs.drop (p.2.1+k)),t1,hG,glive,⟨rs,hk,grs⟩,g3,?_⟩
    rw [hdl]
    exact A2.append ((g4.mono fun _ _ q => hef.cell q).take _) (A2.append (hU.mono fun _ _ q => hef.cell q) ((g4.mono fun _ _ q => hef.cell q).drop _))
   ·exact absurd hw q'.2
  ·dsimp only at hw
   omega
theorem OpOk.put {b : Nat} {ys ds cs' : List AC} {off : Nat} {res : AV} (hys : YR b h=some ys) (hput : Tn ys off ds=some cs')
  (hr : ∀ (γ : Nat→Option Nat) (w : World) (a : Act),(∀ x v,ρ x=some v→avOn (cOn E S.K γ w) v (a.eval x))→∀ (G : Nat) (vs rs : List Value) (t : TypeId),γ b=some G→Bk w G (vs ++ rs) t→A2 (cOn E S.K γ w) ys vs →
   ∃ v us w',(execOp a.eval o).run S.P w=.ok (.value v) w'∧Sav G w w'∧A2 (cOn E S.K γ w) ds us∧Bk w' G (vs.take off ++ (us ++ vs.drop (off+us.length)) ++ rs) t∧avOn (cOn E S.K γ w') res v) :
  OpOk S E w0 h nx ρ o { res := some res,rd := [],wr := [b],h := IJ b cs' h,nx := nx } := by
 unfold Tn at hput
 rw [ifO_some,Nat.ble_eq] at hput
 obtain ⟨hfy,hcs⟩ := hput
 cases hcs
 refine ⟨Nat.le_refl _,fun b' hb => ⟨(b,ys),Zt hys,(List.mem_singleton.1 hb).symm⟩,fun x hx => ?_,fun γ w a Q hi hρ hb _ _ K hK => ?_⟩
 ·rcases YM hx with q' | q'
  ·rw [q']
   exact Or.inr (Or.inl List.mem_cons_self)
  ·exact Or.inl q'.1
 ·have hbx := hb (b,ys) (Zt hys) (Or.inr List.mem_cons_self)
  obtain ⟨G,vs,t1,hG,glive,⟨rs,g2,grs⟩,g3,g4⟩ := id hbx
  have hB := hbx.bxd hG
  have hvl : vs.length=ys.length := g4.len
  obtain ⟨v,us,w',hrun,hsv,hU,hk,hv⟩ := hr γ w a hρ G vs rs t1 hG g2 g4
  have hul : us.length=ds.length := hU.len
  unfold Oper.wp
  rw [hrun]
  have hgr : Gr S.nb w w' := ⟨by rw [hsv.size]; exact Nat.le_refl _,fun j _ hj => hsv.block j fun q => hj (q ▸ hB),fun j es t hj => by
   by_cases e : j=G
   ·subst e
    obtain ⟨e1,e2⟩ := Bk.uniq hj g2
    subst e1 e2
    refine ⟨_,hk,?_⟩
    simp only [List.length_append,List.length_take,List.length_drop]
    omega
   ·exact ⟨es,(hsv.block j e).trans hj,rfl⟩⟩
  have hlo := hi.lo _ _ hG
  have hef : Ef S.nb w0 [b] nx nx γ w γ w' := ⟨leG.refl _,fun _ _ => rfl,fun _ _ q => Or.inl q,
   ⟨hi.bel.trans ⟨hsv.os,hsv.tape,hsv.output,by rw [hsv.size]; exact Nat.le_refl _,fun k hk => hsv.block k (by omega)⟩,fun b G' q => by rw [hsv.size]; exact hi.lo b G' q⟩,hgr,
   (fun G' _ hn => hsv.block G' fun q => hn b List.mem_cons_self (q ▸ hG)),fun b hb' => by rw [List.mem_singleton.1 hb']; exact glive⟩
  refine hK _ w' γ hef (fun y' hy' => by cases hy'; exact hv) fun x hx hw => ?_
  rcases hw with hw | hw
  ·rw [List.mem_singleton] at hw
   rcases YM hx with q' | q'
   ·rw [q']
    refine ⟨G,vs.take off ++ (us ++ vs.drop (off+us.length)),t1,hG,glive,⟨rs,hk,grs⟩,g3,?_⟩
    rw [hul]
    exact A2.append ((g4.mono fun _ _ q => hef.cell q).take _) (A2.append (hU.mono fun _ _ q => hef.cell q) ((g4.mono fun _ _ q => hef.cell q).drop _))
   ·exact absurd hw q'.2
  ·dsimp only at hw
   omega
theorem rep_one (u : Value) (n : Nat) : (Builtin.zeroCells #[u] n).toList=List.replicate n u := by
 apply List.ext_getElem
 ·simp [Builtin.zeroCells]
 ·intro i h1 h2
  simp [Builtin.zeroCells,Nat.mod_one]
theorem Dj {R : AC→Value→Prop} {c : AC} {u : Value} (h : R c u) : ∀ n,A2 R (repL [c] n) (List.replicate n u)
 | 0 => trivial
 | n+1 => ⟨h,Dj h n⟩
theorem Lo {c} {x : Operand} {t : TypeId} {r : OR} (hop : o.op=.call c) (hc : c.callee=.builtin .clear) (ha : c.args.toList=[x]) (hta : c.argTypes.toList=[t]) (hr : ((ρ x).bind fun v => Am S.P h nx t v)=some r) : OpOk S E w0 h nx ρ o r := by
 unfold Am at hr
 simp only [Option.bind_eq_some_iff,Option.map_eq_some_iff,ifO_some,Bool.and_eq_true,Nat.beq_eq] at hr
 obtain ⟨v,hv,e,hsl,z,hz,zs,hzs,p,hp,ys,hys,⟨⟨hzl,hz1⟩,hn0⟩,cs',hput,rfl⟩ := hr
 refine OpOk.put hys hput fun γ w a hρ G vs rs t1 hG g2 g4 => ?_
 have hvl : vs.length=ys.length := g4.len
 obtain ⟨G',m,hG',hx⟩ := KY hp (hρ x v hv)
 rw [hG] at hG'
 cases hG'
 obtain ⟨z0,q1,q2,q3⟩ := UO hzs w
 subst q3
 have hl : z0.cells.toList.length=1 := by simpa using hzl
 obtain ⟨u,hu⟩ : ∃ u,z0.cells=#[u] := by
  match hq : z0.cells.toList,hl with
  | [u],_ => exact ⟨u,by apply Array.ext'; simpa using hq⟩
 have hok : okV u=true := by
  have := List.all_eq_true.1 q2 u (by rw [hu]; simp)
  exact this
 have hput' := hput
 unfold Tn at hput'
 rw [ifO_some,Nat.ble_eq] at hput'
 have hrl : (repL (z0.cells.toList.map Sum.inl) p.2.2).length=p.2.2 := by
  rw [hu]
  have := (Dj (R := fun _ _ => True) (c := (Sum.inl u : AC)) (u := u) trivial p.2.2).len
  simpa using this.symm
 obtain ⟨w',hs,hk,hsv⟩ := ZN (P := S.P) (o := p.2.1) (List.replicate p.2.2 u) 0 w (vs ++ rs) g2 (fun d hd => by rw [(List.mem_replicate.1 hd).2]; exact hok) (by rw [List.length_replicate,List.length_append]; omega)
 have hle : p.2.1+p.2.2≤vs.length := by omega
 refine ⟨.tuple #[],List.replicate p.2.2 u,w',?_,hsv,?_,?_,⟨[],rfl,trivial⟩⟩
 ·have e2 : c.args=#[x] := by
   apply Array.ext'
   simpa using ha
  have e3 : c.argTypes=#[t] := by
   apply Array.ext'
   simpa using hta
  unfold execOp
  rw [hop]
  show (resolve a.eval c o.type >>= fun d => invoke d.target d.args).run S.P w=_
  unfold resolve
  rw [hc]
  show (Builtin.clear_ c.argTypes o.type (c.args.map a.eval) >>= fun v => pure (Next.value v) : Sem Next).run S.P w=_
  have e4 : (Builtin.clear_ c.argTypes o.type (c.args.map a.eval)).run S.P w=.ok (.tuple #[]) w' := by
   obtain ⟨k,hk0⟩ : ∃ k,p.2.2=k+1 := ⟨p.2.2 - 1,by have : 0 < p.2.2 := (by simpa [Nat.blt_eq] using hn0); omega⟩
   rw [e2,e3]
   rw [show Array.map a.eval #[x]=#[a.eval x] by simp,hx]
   rw [hk0] at hs ⊢
   simp [Builtin.clear_,run_underlying (QR hsl),q1,hu,rep_one,hs]
  rw [Sem.run_bind,e4]
  rfl
 ·rw [hu]
  exact Dj (show cOn E S.K γ w (.inl u) u from ⟨rfl,hok⟩) _
 ·rw [Nat.add_zero,List.length_replicate] at hk
  rw [List.take_append_of_le_length (by omega),List.drop_append_of_le_length (by omega)] at hk
  rw [List.length_replicate]
  simpa [List.append_assoc] using hk
theorem op_own {c} {s x : Operand} {t e : TypeId} {u v : AV} {cs cx : AC} {r : OR} (hop : o.op=.call c) (hc : c.callee=.builtin .append) (ha : c.args.toList=[s,x]) (hta : c.argTypes.toList=[t,t]) (hsl : ZH S.P t=some e)
  (hu : ρ s=some u) (hcs : asC u=some cs) (hv : ρ x=some v) (hcx : asC v=some cx) (hr : AY S h nx e cs cx=some r) : OpOk S E w0 h nx ρ o r := by
 unfold AY at hr
 simp only [Option.bind_eq_some_iff,Option.map_eq_some_iff,ifO_some,Bool.and_eq_true,Nat.beq_eq,Nat.ble_eq] at hr
 obtain ⟨z,hz,p,hp,y,hy,xs,hxs,⟨⟨⟨hb,h0⟩,hzz,hz0⟩,⟨hyl,hro⟩,hy0⟩,cs',hput,rfl⟩ := hr
 have hz0 : 0 < z := by simpa [Nat.blt_eq] using hz0
 have hy0 : 0 < y.2.2 := by simpa [Nat.blt_eq] using hy0
 obtain ⟨i,hi,hiz⟩ := OC hz
 refine OpOk.put hxs hput fun γ w a hρ G vs rs t1 hG g2 g4 => ?_
 have hvl : vs.length=xs.length := g4.len
 obtain ⟨G',m,hG',hsx,hnm,cs0,t',hk0,hl0⟩ := PL hp (Za hcs (hρ s u hu))
 rw [hG] at hG'
 cases hG'
 obtain ⟨e1,e2⟩ := Bk.uniq hk0 g2
 subst e1 e2
 obtain ⟨G',cy,hG',hx⟩ := Rf hy (Za hcx (hρ x v hv))
 rw [← hb,hG] at hG'
 cases hG'
 rw [h0,Nat.zero_add,← hzz] at hl0
 rw [h0] at hsx
 have hll : vs.length+rs.length=m*z := by rw [← List.length_append]; exact hl0
 have hroom : p.2.2.1+y.2.2≤m := Nat.le_of_mul_le_mul_right (c := z) (by omega) hz0
 obtain ⟨q1,q2,q3⟩ := Wp g2 g4 hyl
 have hns : ((vs.drop y.2.1).take (y.2.2*z)).length=y.2.2*i.size := by rw [hiz]; exact q1
 rw [Nat.add_mul] at hro
 obtain ⟨w',hs,hk,hsv⟩ := ZN (P := S.P) (o := p.2.2.1*i.size) ((vs.drop y.2.1).take (y.2.2*z)) 0 w (vs ++ rs) g2 (A2.all (fun a v q => XM _ a v q) q2) (by rw [q1,hiz,List.length_append]; omega)
 have hfc := run_firstCells_some (P := S.P) w i.size y.2.2 ⟨G,y.2.1,none⟩ y.2.2 cy _ hns q3
 have hrun : (Builtin.append_ #[t,t] o.type #[.slice (some ⟨G,0,none⟩) p.2.2.1 m,.slice (some ⟨G,y.2.1,none⟩) y.2.2 cy]).run S.P w=.ok (.slice (some ⟨G,0,none⟩) (p.2.2.1+y.2.2) m) w' := by
  simp [Builtin.append_,run_underlying (QR hsl),Go.sizeOf,typeInfo,hi,Builtin.lenOf,hroom,hfc,Addr.add_lit,hs]
 rw [Nat.add_zero,hiz,q1,List.take_append_of_le_length (by omega),List.drop_append_of_le_length (by omega)] at hk
 have hk' : Bk w' G (vs.take (p.2.2.1*z) ++ ((vs.drop y.2.1).take (y.2.2*z) ++ vs.drop (p.2.2.1*z+((vs.drop y.2.1).take (y.2.2*z)).length)) ++ rs) t' := by
  rw [q1]
  simpa [List.append_assoc] using hk
 refine ⟨_,(vs.drop y.2.1).take (y.2.2*z),w',VP hop hc ha hta (by rw [hsx,hx]; exact hrun),hsv,q2,hk',Zk ⟨G,m,hG,rfl,hroom,_,_,hk',?_⟩⟩
 rw [List.length_append,List.length_append,List.length_append,List.length_take,List.length_drop,q1]
 omega
theorem op_max {c} {x y : Operand} {r : OR} (hop : o.op=.call c) (hc : c.callee=.builtin .max) (ha : c.args.toList=[x,y]) (hr : ((ρ x).bind fun u => (asI u).bind fun a => (ρ y).bind fun v => (asI v).map fun b => QO h nx (kI (if b > a then b else a)))=some r) : OpOk S E w0 h nx ρ o r := by
 simp only [Option.bind_eq_some_iff,Option.map_eq_some_iff] at hr
 obtain ⟨u,h1,p,h2,v,h3,q,h4,rfl⟩ := hr
 refine OpOk.pure fun γ w a hρ => ⟨.int .i64 (if q > p then q else p),?_,Zk ⟨rfl,rfl⟩⟩
 have hx := Vk h2 (hρ x u h1)
 have hy := Vk h4 (hρ y v h3)
 have e2 : c.args=#[x,y] := by
  apply Array.ext'
  simpa using ha
 unfold execOp
 rw [hop]
 show (resolve a.eval c o.type >>= fun d => invoke d.target d.args).run S.P w=_
 unfold resolve
 rw [hc]
 show (Builtin.max_ c.argTypes o.type (c.args.map a.eval) >>= fun v => pure (Next.value v) : Sem Next).run S.P w=_
 have e4 : (c.args.map a.eval)=#[.int .i64 p,.int .i64 q] := by
  rw [e2]
  simp [hx,hy]
 rw [e4,Sem.run_bind,run_max_int2]
 rfl
theorem op_min {c} {x y : Operand} {r : OR} (hop : o.op=.call c) (hc : c.callee=.builtin .min) (ha : c.args.toList=[x,y]) (hr : ((ρ x).bind fun u => (asI u).bind fun a => (ρ y).bind fun v => (asI v).map fun b => QO h nx (kI (if b < a then b else a)))=some r) : OpOk S E w0 h nx ρ o r := by
 simp only [Option.bind_eq_some_iff,Option.map_eq_some_iff] at hr
 obtain ⟨u,h1,p,h2,v,h3,q,h4,rfl⟩ := hr
 refine OpOk.pure fun γ w a hρ => ⟨.int .i64 (if q < p then q else p),?_,Zk ⟨rfl,rfl⟩⟩
 have hx := Vk h2 (hρ x u h1)
 have hy := Vk h4 (hρ y v h3)
 have e2 : c.args=#[x,y] := by
  apply Array.ext'
  simpa using ha
 unfold execOp
 rw [hop]
 show (resolve a.eval c o.type >>= fun d => invoke d.target d.args).run S.P w=_
 unfold resolve
 rw [hc]
 show (Builtin.min_ c.argTypes o.type (c.args.map a.eval) >>= fun v => pure (Next.value v) : Sem Next).run S.P w=_
 have e4 : (c.args.map a.eval)=#[.int .i64 p,.int .i64 q] := by
  rw [e2]
  simp [hx,hy]
 rw [e4,Sem.run_bind,run_min_int2]
 rfl
theorem op_lenS {c : Call} {n : Nat} (e : o.op=.call c) (hc : c.callee=.builtin .len) (hr : lenS S.P ρ c=some n) : OpOk S E w0 h nx ρ o (QO h nx (kI (n : Int))) := by
 unfold lenS at hr
 simp only [Option.bind_eq_some_iff,ifO_some] at hr
 obtain ⟨t,h1,h2,args,h3,h4⟩ := hr
 unfold arg1 at h4
 split at h4
 ·rename_i v
  simp only [Option.bind_eq_some_iff,Option.map_eq_some_iff] at h4
  obtain ⟨cc,h5,s,h6,rfl⟩ := h4
  refine OpOk.pure fun γ w a hρ => ?_
  have hA := TI hρ h3
  have hl : ∃ x0,c.args.toList=[x0] := by
   have := hA.len
   match hq : c.args.toList,this with
   | [x0],_ => exact ⟨x0,rfl⟩
   | [],q => simp at q
   | _ :: _ :: _,q => simp at q
  obtain ⟨x0,hx0⟩ := hl
  rw [hx0] at hA
  have hx : a.eval x0=.string s := by
   have hy := Za h5 hA.1
   unfold Ih at h6
   split at h6
   ·cases h6
    exact hy.1
   ·cases h6
  refine ⟨.int .i64 (s.size : Nat),?_,Wj _⟩
  have e2 : c.args=#[x0] := by
   apply Array.ext'
   simpa using hx0
  have e3 : c.argTypes[0]? = some t := by
   have := h1
   rw [List.head?_eq_getElem?] at this
   simpa using this
  unfold execOp
  rw [e]
  show (resolve a.eval c o.type >>= fun d => invoke d.target d.args).run S.P w=_
  unfold resolve
  rw [hc]
  show (Builtin.len_ c.argTypes o.type (c.args.map a.eval) >>= fun v => pure (Next.value v) : Sem Next).run S.P w=_
  have hu : S.P.underlying t=some .string := by
   unfold strT at h2
   split at h2
   ·assumption
   ·cases h2
  have e4 : (Builtin.len_ c.argTypes o.type (c.args.map a.eval)).run S.P w=.ok (.int .i64 (s.size : Nat)) w := by
   unfold Builtin.len_
   have e5 : (c.args.map a.eval)[0]? = some (a.eval x0) := by
    rw [e2]
    simp
   rw [e3,e5,hx]
   dsimp only
   rw [Sem.run_bind,Qr hu]
   rfl
  rw [Sem.run_bind,e4]
  rfl
 ·cases h4
theorem opB_ok (N : Knows S E) (hP : Om S E w0) (hC : IY S E w0 call) {r : OR} (hr : opB S call ρ h nx o.op=some r) : OpOk S E w0 h nx ρ o r := by
 unfold opB at hr
 split at hr
 ·rename_i e; exact MB (Or.inl e) hr
 ·rename_i e; exact MB (Or.inr e) hr
 ·rename_i e; exact op_pick e hr
 ·rename_i e; exact CQ e hr
 ·rename_i e; exact Sn e hr
 ·rename_i e; exact Mb e hr
 ·rename_i e; exact NV N e hr
 ·rename_i e; exact op_box e hr
 ·rename_i e; exact op_load hP.1 e hr
 ·rename_i e; exact Lt e hr
 ·rename_i e; exact DG e hr
 ·rename_i e; exact Aq e hr
 ·rename_i e; exact Db e hr
 ·rename_i e; exact LN e hr
 ·rename_i e; exact Ld e hr
 ·rename_i e; exact Ls e hr
 ·rename_i e; exact Gx e hr
 ·rename_i e; exact Dd e hr
 ·rename_i e; exact op_not e hr
 ·rename_i e; exact op_neg e hr
 ·rename_i e; exact op_bin N e hr
 ·rename_i e; exact Ce e hr
 ·rename_i c e
  split at hr
  ·rename_i f hc
   rw [Option.bind_eq_some_iff] at hr
   obtain ⟨args,h1,h2⟩ := hr
   refine fn_ok hP hC h2 fun γ w a hρ => ⟨c.args.toList.map a.eval,?_,TI hρ h1⟩
   have em : (c.args.toList.map a.eval).toArray=#[] ++ c.args.map a.eval ++ #[] := by
    apply Array.ext'
    simp
   obtain ⟨dst,op,ty,pos,after,guard⟩ := o
   obtain ⟨callee,cargs,ats⟩ := c
   dsimp only at e hc em ⊢
   subst hc
   subst e
   rw [execOp_call_go,em]
  ·rename_i x hn hc
   simp only [Option.bind_eq_some_iff] at hr
   obtain ⟨v,h1,k,⟨cc,h2,h3⟩,args,h4,p,h5,h6⟩ := hr
   refine fn_ok hP hC h6 fun γ w a hρ => ?_
   obtain ⟨f,cs,us,g1,g2,g3⟩ := acF_on h3 (Za h2 (hρ x v h1))
   rw [h5] at g1
   cases g1
   refine ⟨c.args.toList.map a.eval ++ us,?_,(TI hρ h4).append (A2.map v1 (fun c v q => Zk (Ps _ _ _ q)) g3)⟩
   unfold execOp
   rw [e]
   show (resolve a.eval c o.type >>= fun d => invoke d.target d.args)=_
   unfold resolve
   rw [hc]
   dsimp only
   rw [g2]
   show callFunc f ((#[] ++ c.args.map a.eval) ++ us.toArray)=_
   congr 1
   apply Array.ext'
   simp
  ·rename_i hc
   split at hr
   ·rename_i n hn
    cases hr
    exact op_lenS e hc hn
   ·simp only [Option.bind_eq_some_iff] at hr
    obtain ⟨t,h1,e1,h2,args,h3,h4⟩ := hr
    unfold arg1 at h4
    split at h4
    ·rename_i v
     rw [Option.bind_eq_some_iff] at h4
     obtain ⟨cc,h5,h4⟩ := h4
     obtain ⟨y,rfl,hy⟩ : ∃ y,r=QO h nx y∧∀ (γ : Nat→Option Nat) (w : World) (x : Value),cOn E S.K γ w cc x→∃ ao n m,x=.slice ao n m∧avOn (cOn E S.K γ w) y (.int .i64 (n : Int)) := by
      split at h4
      ·rename_i b hb
       cases h4
       refine ⟨_,rfl,fun γ w x hx => ?_⟩
       obtain ⟨ao,n,m,e1,e2⟩ := acHL_on hb hx
       exact ⟨ao,n,m,e1,Zk (e2 w)⟩
      ·rw [Option.map_eq_some_iff] at h4
       obtain ⟨n,h6,rfl⟩ := h4
       refine ⟨_,rfl,fun γ w x hx => ?_⟩
       obtain ⟨ao,m,e1⟩ := FN h6 hx
       exact ⟨ao,n,m,e1,Wj _⟩
     refine OpOk.pure fun γ w a hρ => ?_
     have hA := TI hρ h3
     have hl : ∃ x0,c.args.toList=[x0] := by
      have := hA.len
      match hq : c.args.toList,this with
      | [x0],_ => exact ⟨x0,rfl⟩
      | [],q => simp at q
      | _ :: _ :: _,q => simp at q
     obtain ⟨x0,hx0⟩ := hl
     rw [hx0] at hA
     obtain ⟨ao,n,cp,hx,hy⟩ := hy γ w _ (Za h5 hA.1)
     refine ⟨.int .i64 n,?_,hy⟩
     have e2 : c.args=#[x0] := by
      apply Array.ext'
      simpa using hx0
     have e3 : c.argTypes[0]? = some t := by
      have := h1
      rw [List.head?_eq_getElem?] at this
      simpa using this
     unfold execOp
     rw [e]
     show (resolve a.eval c o.type >>= fun d => invoke d.target d.args).run S.P w=_
     unfold resolve
     rw [hc]
     show (Builtin.len_ c.argTypes o.type (c.args.map a.eval) >>= fun v => pure (Next.value v) : Sem Next).run S.P w=_
     have e4 : (Builtin.len_ c.argTypes o.type (c.args.map a.eval)).run S.P w=.ok (.int .i64 n) w := by
      unfold Builtin.len_
      have e5 : (c.args.map a.eval)[0]? = some (a.eval x0) := by
       rw [e2]
       simp
      rw [e3,e5,hx]
      dsimp only
      rw [Sem.run_bind,Qr (QR h2)]
      rfl
     rw [Sem.run_bind,e4]
     rfl
    ·cases h4
  ·rename_i hc
   split at hr
   ·rename_i h1 h2
    have hr' := hr
    simp only [Option.bind_eq_some_iff,ifO_some] at hr'
    obtain ⟨htt,e1,hsl,u,hu,cs,hcs,v,hv,cx,hcx,hq⟩ := hr'
    unfold appO at hq
    split at hq
    ·cases hq
     rename_i hq
     rw [Nat.beq_eq] at htt
     subst htt
     exact op_own e hc h1 h2 hsl hu hcs hv hcx hq
    ·refine NM e hc h1 h2 ?_
     simp only [Option.bind_eq_some_iff,ifO_some]
     exact ⟨htt,e1,hsl,u,hu,cs,hcs,v,hv,cx,hcx,hq⟩
   ·cases hr
  ·rename_i hc
   split at hr
   ·rename_i h1 h2
    exact op_copy e hc h1 h2 hr
   ·cases hr
  ·rename_i hc
   split at hr
   ·rename_i h1 h2
    exact Lo e hc h1 h2 hr
   ·cases hr
  ·rename_i hc
   split at hr
   ·rename_i h1
    exact op_max e hc h1 hr
   ·cases hr
  ·rename_i hc
   split at hr
   ·rename_i h1
    exact op_min e hc h1 hr
   ·cases hr
  ·cases hr
 ·cases hr
theorem AU {b : Nat} {h h2 : List HB} (hs : Kq b h h2=true) {x : HB} (hx : x ∈ h) (e : x.1=b) : x ∈ h2 := by
 unfold Kq at hs
 simp only [Bool.and_eq_true,List.all_eq_true,Bool.or_eq_true,Bool.not_eq_true',List.any_eq_true] at hs
 rcases hs.1 x hx with q | ⟨y,hy,q1,q2⟩
 ·rw [e,Nat.beq_refl] at q
  cases q
 ·have e1 : y.1=b := Nat.eq_of_beq_eq_true q1
  have e2 := Ty q2
  obtain ⟨x1,x2⟩ := x
  obtain ⟨y1,y2⟩ := y
  dsimp only at e e1 e2
  subst e e1 e2
  exact hy
theorem LC {b : Nat} {h h2 : List HB} (hs : Kq b h h2=true) {x : HB} (hx : x ∈ h2) (e : x.1=b) : x ∈ h := by
 unfold Kq at hs
 simp only [Bool.and_eq_true,List.all_eq_true,Bool.or_eq_true,Bool.not_eq_true',List.any_eq_true] at hs
 rcases hs.2 x hx with q | ⟨y,hy,q1,q2⟩
 ·rw [e,Nat.beq_refl] at q
  cases q
 ·have e1 : y.1=b := Nat.eq_of_beq_eq_true q1
  have e2 := Ty q2
  obtain ⟨x1,x2⟩ := x
  obtain ⟨y1,y2⟩ := y
  dsimp only at e e1 e2
  subst e e1 e2
  exact hy
def Kp (h : List HB) (o : Option OR) : Prop := ∀ r,o=some r→∀ x ∈ h,x.1 ∉ r.wr→x ∈ r.h
theorem Kp.non {h : List HB} : Kp h none := fun _ e => by cases e
theorem Kp.bind {α : Type} {h : List HB} {o : Option α} {f : α→Option OR} (hf : ∀ a,Kp h (f a)) : Kp h (o.bind f) := fun r e => by
 rw [Option.bind_eq_some_iff] at e
 obtain ⟨a,_,e⟩ := e
 exact hf a r e
theorem Kp.map {α : Type} {h : List HB} {o : Option α} {f : α→OR} (hf : ∀ a,∀ x ∈ h,x.1 ∉ (f a).wr→x ∈ (f a).h) : Kp h (o.map f) := fun r e => by
 rw [Option.map_eq_some_iff] at e
 obtain ⟨a,_,rfl⟩ := e
 exact hf a
theorem Kp.ifO {h : List HB} {c : Bool} {o : Option OR} (ho : Kp h o) : Kp h (ifO c o) := fun r e => ho r (ifO_some.1 e).2
theorem Kp.one {h : List HB} {r : OR} (hr : ∀ x ∈ h,x.1 ∉ r.wr→x ∈ r.h) : Kp h (some r) := fun r' e => by
 cases e
 exact hr
theorem Kp.arg1 {h : List HB} {f : AV→Option OR} (hf : ∀ a,Kp h (f a)) : ∀ (l : List AV),Kp h (arg1 f l)
 | [] => Kp.non
 | [a] => hf a
 | _ :: _ :: _ => Kp.non
theorem Yy {b : Nat} {cs : List AC} {x : HB} : ∀ {h : List HB},x ∈ h→x.1 ≠ b→x ∈ IJ b cs h
 | y :: h,hx,hn => by
  unfold IJ
  cases e : Nat.beq b y.1 with
  | true =>
   rcases List.mem_cons.1 hx with rfl | q
   ·rw [Nat.beq_eq] at e
    exact absurd e.symm hn
   ·simp [Yy q hn]
  | false =>
   rcases List.mem_cons.1 hx with rfl | q
   ·simp
   ·simp [Yy q hn]
theorem Kp.fn {h : List HB} {nx : Nat} {S : Sx} {call : WY} {f : FuncId} {args : List AV} : Kp h (fnB S call f args h nx) := by
 unfold fnB
 refine Kp.ifO ?_
 split
 ·exact Kp.bind fun p => Kp.ifO (Kp.one fun x hx _ => List.mem_append_left _ hx)
 ·refine Kp.bind fun p => Kp.ifO (Kp.one fun x hx hn => ?_)
  dsimp only at hn ⊢
  unfold MO
  split
  ·exact hx
  ·exact List.mem_append_left _ (List.mem_filter.2 ⟨hx,by rw [Bool.not_eq_true',memN_not]; exact hn⟩)
theorem Kp.bif {h : List HB} {c : Bool} {o o' : Option OR} (ho : Kp h o) (ho' : Kp h o') : Kp h (bif c then o else o') := by
 cases c
 ·exact ho'
 ·exact ho
theorem Kp.app {S : Sx} {h : List HB} {nx : Nat} {e : TypeId} {s x : AC} : Kp h (Au S h nx e s x) := by
 unfold Au
 refine Kp.bind fun z => Kp.bind fun m => Kp.bif (Kp.ifO (Kp.one fun x hx _ => hx)) (Kp.bind fun y => Kp.bind fun ys => Kp.bind fun bt => Kp.bind fun zc => Kp.ifO (Kp.bif (Kp.one fun x hx _ => List.mem_append_left _ hx) ?_))
 split
 ·exact Kp.bind fun xs => Kp.ifO (Kp.one fun x hx _ => List.mem_append_left _ hx)
 ·refine Kp.bind fun p => Kp.bind fun xs => Kp.ifO (Kp.one fun x hx hn => List.mem_append_left _ (List.mem_filter.2 ⟨hx,?_⟩))
  rw [Bool.not_eq_true']
  cases hb : Nat.beq x.1 p.1 with
  | false => rfl
  | true => exact absurd (by rw [Nat.eq_of_beq_eq_true hb]; exact List.mem_cons_self) hn
theorem Kp.cpy {P : Program} {h : List HB} {nx : Nat} {t : TypeId} {d s : AV} : Kp h (Ho P h nx t d s) := by
 unfold Ho
 exact Kp.bind fun e => Kp.bind fun z => Kp.bind fun p => Kp.bind fun q => Kp.bind fun ys => Kp.bind fun xs => Kp.ifO (Kp.map fun a x hx hn => Yy hx (by simpa using hn))
theorem Kp.appO {S : Sx} {h : List HB} {nx : Nat} {e : TypeId} {s x : AC} : Kp h (appO S h nx e s x) := by
 unfold Cx.appO
 split
 ·rename_i r hr
  intro r' e
  cases e
  have : Kp h (AY S h nx e s x) := by
   unfold AY
   exact Kp.bind fun z => Kp.bind fun p => Kp.bind fun y => Kp.bind fun xs => Kp.ifO (Kp.map fun a x hx hn => Yy hx (by simpa using hn))
  exact this r hr
 ·exact Kp.app
theorem Kp.clr {P : Program} {h : List HB} {nx : Nat} {t : TypeId} {x : AV} : Kp h (Am P h nx t x) := by
 unfold Am
 exact Kp.bind fun e => Kp.bind fun z => Kp.bind fun zs => Kp.bind fun p => Kp.bind fun ys => Kp.ifO (Kp.map fun a x hx hn => Yy hx (by simpa using hn))
theorem Kp.sliceO {P : Program} {h : List HB} {nx : Nat} {t : TypeId} {x : AV} {lo hi : Option (Option AV)} : Kp h (sliceO P h nx t x lo hi) := by
 unfold Cx.sliceO
 exact Kp.bind fun e => Kp.bind fun z => Kp.bind fun p => Kp.bind fun k => Kp.bind fun l => Kp.bind fun cs => Kp.ifO (Kp.one fun x hx _ => hx)
theorem Ny {S : Sx} {call : WY} {ρ : Operand→Option AV} {h : List HB} {nx : Nat} {op : Op} : Kp h (opB S call ρ h nx op) := by
 unfold opB
 split
 all_goals
  repeat' first
   | exact Kp.non
   | exact Kp.fn
   | exact Kp.appO
   | exact Kp.clr
   | exact Kp.sliceO
   | exact Kp.cpy
   | refine Kp.bif ?_ ?_
   | exact Kp.map fun a x hx _ => hx
   | exact Kp.map fun a x hx _ => List.mem_append_left _ hx
   | exact Kp.map fun a x hx hn => Yy hx (by simpa using hn)
   | exact Kp.one fun x hx _ => hx
   | exact Kp.one fun x hx _ => List.mem_append_left _ hx
   | refine Kp.ifO ?_
   | refine Kp.arg1 (fun a => ?_) _
   | refine Kp.bind fun a => ?_
   | split
theorem TQ (N : Knows S E) (hP : Om S E w0) (hC : IY S E w0 call) {tm : List (Nat × AV)} : ∀ {os : List Oper} {i : Nat} {prev : Rg} {h : List HB} {nx : Nat} {rs : List OR},Tv S call tm i os prev h nx=some rs→Lay S E w0 tm i os prev h nx rs
 | [],i,prev,h,nx,rs,hr => by
  cases hr
  trivial
 | o :: os,i,prev,h,nx,rs,hr => by
  unfold Tv at hr
  simp only [Option.bind_eq_some_iff,ifO_some,Option.map_eq_some_iff,Bool.and_eq_true,List.all_eq_true] at hr
  obtain ⟨wt,h1,r,h2,⟨⟨h3,h4⟩,h6⟩,l,h5,rfl⟩ := hr
  have hsame : ∀ b ∈ r.wr,b ∈ r.rd→Kq b h r.h=true := fun b hb hd => by
   have := h6 b hb
   rw [Bool.or_eq_true,Bool.not_eq_true',memN_not] at this
   exact this.resolve_left fun q => q hd
  have hkeep : ∀ x ∈ h,x.1 ∉ r.wr→x ∈ r.h := by
   cases wt with
   | true => exact Ny r h2
   | false =>
    cases h2
    exact fun x hx _ => hx
  have hkp : Kept h r := ⟨fun x hx hn => by
   by_cases q : x.1 ∈ r.wr
   ·exact AU (hsame _ q (Classical.byContradiction fun q' => hn (mem_wrs.2 ⟨q,q'⟩))) hx rfl
   ·exact hkeep x hx q,fun x hx q1 q2 => LC (hsame _ q1 q2) hx rfl⟩
  refine ⟨⟨wt,h1,fun e => ?_,fun e => ?_⟩,fun b hb => by simpa [Nat.blt_eq] using h3 b hb,fun b hb => by simpa [Nat.blt_eq] using h4 b hb,hkp,TQ N hP hC h5⟩
  ·subst e
   exact opB_ok N hP hC h2
  ·subst e
   cases h2
   rfl
end
end Cx
