/- Part 10 of the walks and of the mathematics under them: VM VN VO QSD MathX WK WL BN BO BP BTA. -/
import Derived.Test.YthhnabccdehmgaaGreatDoorA9
import Derived.Laws.CopyRow
import Derived.LoopN
import Derived.Test.YthhnabccdehmgaaGreatDoorA6
import Derived.Test.YthhnabccdehmgaaGreatDoorA7
import Derived.Deep.DeepCutAuto
set_option maxHeartbeats 16000000
set_option maxRecDepth 100000
/- VM -/
namespace Cx
open Go Go.RowKit
section
variable (S : Sx) (E : Ev S.nb) (w0 : World)
def IB (call : WP) : Prop := ∀ f args h nx p,call f args h nx=some p→∀ (γ : Nat→Option Nat) (w : World) (vs : List Value),WI w0 γ w→A2 (avOn (cOn E S.K γ w)) args vs→(∀ x ∈ h,boxOn E S.K γ w x)→(∀ x ∈ h,x.1 < nx)→(∀ b,nx≤b→b < p.2.2→γ b=none) →
 Calls S.P f vs.toArray w fun e w' => ∃ r γ',e=.returned r∧Ef S.nb w0 (h.map (·.1)) nx p.2.2 γ w γ' w'∧avOn (cOn E S.K γ' w') p.1 r∧∀ x ∈ p.2.1,boxOn E S.K γ' w' x
def Oq : Prop := (hdB S.pr=true→Nr S.K E.σ w0)∧∀ f c,OJ f S.pr=some c→∀ args h nx p,Fp S h nx c args=some p→∀ (γ : Nat→Option Nat) (w : World) (vs : List Value),WI w0 γ w→A2 (avOn (cOn E S.K γ w)) args vs→(∀ x ∈ h,x.1 ∈ p.2.1→boxOn E S.K γ w x)→(∀ b,nx≤b→b < p.2.2.2→γ b=none) →
 Calls S.P f vs.toArray w fun e w' => ∃ r γ',e=.returned r∧Ef S.nb w0 [] nx p.2.2.2 γ w γ' w'∧avOn (cOn E S.K γ' w') p.1 r∧∀ x ∈ p.2.2.1,boxOn E S.K γ' w' x
end
theorem Su {P : Program} {f : FuncId} (h : entB P f=true) (vs : Array Value) (w : World) : (callFunc f vs).run P w=.ok (.enter f vs) w := by
 unfold entB at h
 split at h
 ·rename_i fn hf
  rw [Bool.and_eq_true] at h
  have h1 : ¬ fn.name = "runtime.NumGoroutine" := by simpa using h.1
  have h2 : ¬ fn.body=none := fun e => by rw [e] at h; simp at h
  unfold callFunc
  simp [go_sem,hf,h1,h2]
 ·cases h
section
variable {S : Sx} {E : Ev S.nb} {w0 : World} {h : List HB} {nx : Nat} {ρ : Operand→Option AV} {o : Oper} {call : WP}
theorem ML {lo hi b : Nat} : inR lo hi b=true ↔ lo≤b∧b < hi := by
 unfold inR
 rw [Bool.and_eq_true,Nat.ble_eq]
 constructor
 ·rintro ⟨h1,h2⟩
  exact ⟨h1,by simpa [Nat.blt_eq] using h2⟩
 ·rintro ⟨h1,h2⟩
  exact ⟨h1,by simpa [Nat.blt_eq] using h2⟩
theorem fn_ok (hP : Oq S E w0) (hC : IB S E w0 call) {f : FuncId} {args : List AV} {r : OR} (hr : fnB S call f args h nx=some r)
  (hx : ∀ (γ : Nat→Option Nat) (w : World) (a : Act),(∀ x v,ρ x=some v→avOn (cOn E S.K γ w) v (a.eval x))→∃ vs : List Value,execOp a.eval o=callFunc f vs.toArray∧A2 (avOn (cOn E S.K γ w)) args vs) : OpOk S E w0 h nx ρ o r := by
 unfold fnB at hr
 rw [ifO_some] at hr
 obtain ⟨hent,hr⟩ := hr
 split at hr
 ·rename_i c hc
  simp only [Option.bind_eq_some_iff,ifO_some,Bool.and_eq_true,Nat.ble_eq,List.all_eq_true,ML] at hr
  obtain ⟨p,h1,⟨h2,h3⟩,e⟩ := hr
  cases e
  refine ⟨h2,(fun b hb => by cases hb),fun x hx => ?_,fun γ w a Q hi hρ hb hf hlt K hK => ?_⟩
  ·rcases List.mem_append.1 hx with q | q
   ·exact Or.inl q
   ·exact Or.inr (Or.inr (h3 x q))
  ·obtain ⟨vs,ev,hA⟩ := hx γ w a hρ
   have hcall := hP.2 f c hc args h nx p h1 γ w vs hi hA (fun x hx q => hb x hx (Or.inl q)) hf
   unfold Oper.wp
   rw [ev,Su hent]
   refine Calls.mono hcall ?_
   rintro _ w' ⟨v,γ',rfl,hef,hv,hbx⟩
   refine hK v w' γ' hef (fun y hy => by cases hy; exact hv) fun x hx hw => ?_
   rcases List.mem_append.1 hx with q | q
   ·have := hlt x q
    rcases hw with hw | hw
    ·cases hw
    ·omega
   ·exact hbx x q
 ·simp only [Option.bind_eq_some_iff,ifO_some,Bool.and_eq_true,Nat.ble_eq,List.all_eq_true,Bool.or_eq_true,ML,TP] at hr
  obtain ⟨p,h1,⟨h2,h3⟩,e⟩ := hr
  cases e
  generalize hh1 : h.filter (fun b => Xd b.1 (MG S h 3 (args.flatMap (Hn S))))=h1' at h1 h3
  have hsub : ∀ x ∈ h1',x ∈ h := fun x hx => by
   rw [← hh1] at hx
   exact (List.mem_filter.1 hx).1
  have hfpx : ∀ x ∈ Mb S h p.2.1 (h1'.map (·.1)) p.1,(x ∈ h∧(x.1 ∉ h1'.map (·.1) ∨ h1'=[])) ∨ x ∈ p.2.1 := fun x hx => by
   unfold Mb at hx
   split at hx
   ·rename_i e _
    exact Or.inl ⟨hx,Or.inr (by simpa using e)⟩
   ·rcases List.mem_append.1 hx with q | q
    ·rw [List.mem_filter] at q
     exact Or.inl ⟨q.1,Or.inl (by have := q.2; rw [Bool.not_eq_true',memN_not] at this; exact this)⟩
    ·exact Or.inr q
  refine ⟨h2,fun b hb => ?_,fun x hx => ?_,fun γ w a Q hi hρ hb hf hlt K hK => ?_⟩
  ·obtain ⟨x,hx,e⟩ := List.mem_map.1 hb
   exact ⟨x,hsub x hx,e⟩
  ·rcases hfpx x hx with q | q
   ·exact Or.inl q.1
   ·exact Or.inr (h3 x q)
  ·obtain ⟨vs,ev,hA⟩ := hx γ w a hρ
   have hcall := hC f args h1' nx p h1 γ w vs hi hA (fun x hx => hb x (hsub x hx) (Or.inr (List.mem_map_of_mem hx))) (fun x hx => hlt x (hsub x hx)) hf
   unfold Oper.wp
   rw [ev,Su hent]
   refine Calls.mono hcall ?_
   rintro _ w' ⟨v,γ',rfl,hef,hv,hbx⟩
   refine hK v w' γ' hef (fun y hy => by cases hy; exact hv) fun x hx hw => ?_
   rcases hfpx x hx with ⟨q1,q2⟩ | q
   ·have := hlt x q1
    rcases hw with hw | hw
    ·rcases q2 with q2 | q2
     ·exact absurd hw q2
     ·rw [q2] at hw
      cases hw
    ·dsimp only at hw
     omega
   ·exact hbx x q
theorem Tp {γ : Nat→Option Nat} {w : World} {a : Act} {l : List Operand} {args : List AV} (hρ : ∀ x v,ρ x=some v→avOn (cOn E S.K γ w) v (a.eval x)) (hm : ZO ρ l=some args) : A2 (avOn (cOn E S.K γ w)) args (l.map a.eval) := To hm fun x y hy => hρ x y hy
theorem Et (N : Knows S E) {t : TypeId} {r : OR} (hop : o.op=.alloc t) (hr : (bif isR S.nb t then (S.nd 0 [0,0,1]).map fun i => QN h nx (r1 i) else ifO (!Xd t S.nb) ((Yo S.P t).map fun cs => Gm h nx cs (ptr nx 0)))=some r) : OpOk S E w0 h nx ρ o r := by
 cases e : isR S.nb t with
 | false =>
  rw [e] at hr
  exact Hr hop hr
 | true =>
  rw [e] at hr
  replace hr : ((S.nd 0 [0,0,1]).map fun i => QN h nx (r1 i))=some r := hr
  rw [Option.map_eq_some_iff] at hr
  obtain ⟨i,hi,rfl⟩ := hr
  obtain ⟨cs,hz,hx⟩ := N.z0 t i e hi
  refine OpOk.calm fun γ w a hρ => ?_
  obtain ⟨z,h1,h2,h3⟩ := UL hz w
  have h4 : z.cells.toList=cs := ((List.map_inj_right (fun x y q => Sum.inl.inj q)).1 h3).symm
  refine ⟨.pointer (some ⟨w.heap.size,0,none⟩),w.alloc (.cells cs.toArray t),?_,YE _ _,Zg (hx w)⟩
  unfold execOp
  rw [hop]
  refine ZF ?_
  unfold Instr.alloc
  rw [Sem.run_bind,h1,← h4]
  simp [go_sem,newVar,newRow]
theorem minB_eq (a b : Nat) : Es a b=Nat.min a b := by
 unfold Es
 cases e : Nat.ble a b with
 | true =>
  rw [Nat.ble_eq] at e
  exact (Nat.min_eq_left e).symm
 | false =>
  have : ¬ a≤b := fun h => by rw [← Nat.ble_eq,e] at h; cases h
  exact (Nat.min_eq_right (show b≤a by omega)).symm
theorem op_copy {c} {d s : Operand} {t t' : TypeId} {r : OR} (hop : o.op=.call c) (hc : c.callee=.builtin .copy) (ha : c.args.toList=[d,s]) (hta : c.argTypes.toList=[t,t'])
  (hr : ((ρ d).bind fun u => (ρ s).bind fun v => ND S.P h nx t u v)=some r) : OpOk S E w0 h nx ρ o r := by
 unfold ND RR at hr
 simp only [Option.bind_eq_some_iff,Option.map_eq_some_iff,ifO_some,Bool.and_eq_true,Nat.beq_eq,Nat.ble_eq] at hr
 obtain ⟨u,hu,v,hv,e,hsl,z,hz,p,hp,q,hq,ys,hys,xs,hxs,⟨⟨hz1,_⟩,hfx⟩,cs',⟨hfy,hcs⟩,rfl⟩ := hr
 subst hz1
 cases hcs
 generalize hk0 : Es q.2.2 p.2.2=k at *
 have hkm : k=Nat.min q.2.2 p.2.2 := hk0 ▸ minB_eq _ _
 have hdl : ((xs.drop q.2.1).take k).length=k := by
  rw [List.length_take,List.length_drop]
  omega
 refine ⟨Nat.le_refl _,fun b hb => ⟨(p.1,ys),Zt hys,(List.mem_singleton.1 hb).symm⟩,fun x hx => ?_,fun γ w a Q hi hρ hb _ _ K hK => ?_⟩
 ·rcases YB hx with q' | q'
  ·rw [q']
   exact Or.inr (Or.inl List.mem_cons_self)
  ·exact Or.inl q'.1
 ·obtain ⟨G,m1,hG,hd⟩ := KF hp (hρ d u hu)
  obtain ⟨H,m2,hH,hs⟩ := KF hq (hρ s v hv)
  have hbx := hb (p.1,ys) (Zt hys) (Or.inr List.mem_cons_self)
  have hby := hb (q.1,xs) (Zt hxs) (Or.inl List.mem_cons_self)
  have hB := hbx.bxd hG
  obtain ⟨G',vs,t1,g1,glive,⟨rs,g2,grs⟩,g3,g4⟩ := hbx
  rw [hG] at g1
  cases g1
  obtain ⟨H',us,t2,k1,_,⟨rs',k2,_⟩,_,k4⟩ := hby
  rw [hH] at k1
  cases k1
  have hvl : vs.length=ys.length := g4.len
  have hul : us.length=xs.length := k4.len
  have hcl : ((us.drop q.2.1).take k).length=k := by
   rw [List.length_take,List.length_drop]
   omega
  have hU : A2 (cOn E S.K γ w) ((xs.drop q.2.1).take k) ((us.drop q.2.1).take k) := (k4.drop _).take _
  have hrun := run_copy_row (P := S.P) w t t' o.type e G p.2.1 p.2.2 m1 ⟨H,q.2.1,none⟩ q.2.2 m2 (vs ++ rs).toArray t1 ((us.drop q.2.1).take k) (QU hsl) hz g2 (by rw [hcl]; exact hkm)
   (fun j x hx => by
    have hj : j < k := by
     have := (List.getElem?_eq_some_iff.1 hx).1
     omega
    have e1 : us[q.2.1+j]? = some x := by
     rw [List.getElem?_take_of_lt hj,List.getElem?_drop] at hx
     exact hx
    have e2 := k2.cell (q.2.1+j)
    rw [List.getElem?_append_left (by omega),e1] at e2
    rw [Yj]
    exact e2)
   (by rw [hcl]; simp only [List.size_toArray,List.length_append]; omega)
   (fun x hx => by
    have := A2.all (p := fun v => okV v=true) (fun a v q => XM _ a v q) hU x hx
    unfold okV at this
    exact (Bool.and_eq_true _ _ ▸ this).2)
  rw [hcl] at hrun
  obtain ⟨w',hw'⟩ : ∃ w',w'=w.setRow G ((vs ++ rs).toArray.toList.take p.2.1 ++ (us.drop q.2.1).take k ++ (vs ++ rs).toArray.toList.drop (p.2.1+k)).toArray := ⟨_,rfl⟩
  rw [← hw'] at hrun
  have hsv : Sav G w w' := by
   rw [hw']
   exact ⟨rfl,rfl,rfl,setRow_size _ _ _,fun j hj => setRow_other w G j _ hj⟩
  have hk : Bk w' G (vs.take p.2.1 ++ ((us.drop q.2.1).take k ++ vs.drop (p.2.1+k)) ++ rs) t1 := by
   unfold Bk
   rw [hw',setRow_heap w G _ _ t1 (0,0) g2]
   rw [show (vs ++ rs).toArray.toList=vs ++ rs from rfl,List.take_append_of_le_length (by omega),List.drop_append_of_le_length (by omega)]
   simp [List.append_assoc]
  have e : (execOp a.eval o).run S.P w=.ok (.value (.int .i64 k)) w' := by
   have e2 : c.args=#[d,s] := by
    apply Array.ext'
    simpa using ha
   have e3 : c.argTypes=#[t,t'] := by
    apply Array.ext'
    simpa using hta
   unfold execOp
   rw [hop]
   show (resolve a.eval c o.type >>= fun d => invoke d.target d.args).run S.P w=_
   unfold resolve
   rw [hc]
   show (Builtin.copy_ c.argTypes o.type (c.args.map a.eval) >>= fun v => pure (Next.value v) : Sem Next).run S.P w=_
   have e4 : (Builtin.copy_ c.argTypes o.type (c.args.map a.eval)).run S.P w=.ok (.int .i64 k) w' := by
    rw [e2,e3]
    rw [show Array.map a.eval #[d,s]=#[a.eval d,a.eval s] by simp,hd,hs]
    exact hrun
   rw [Sem.run_bind,e4]
   rfl
  unfold Oper.wp
  rw [e]
  have hgr : Gr S.nb w w' := ⟨by rw [hsv.size]; exact Nat.le_refl _,fun j _ hj => hsv.block j fun q => hj (q ▸ hB),fun j es t hj => by
   by_cases e : j=G
   ·subst e
    obtain ⟨e1,e2⟩ := Bk.uniq hj g2
    subst e1 e2
    refine ⟨_,hk,?_⟩
    simp only [List.length_append,List.length_take,List.length_drop]
    omega
   ·exact ⟨es,(hsv.block j e).trans hj,rfl⟩⟩
  have hlo := hi.lo _ _ hG
  have hef : Ef S.nb w0 [p.1] nx nx γ w γ w' := ⟨leG.refl _,fun _ _ => rfl,fun _ _ q => Or.inl q,
   ⟨hi.bel.trans ⟨hsv.os,hsv.tape,hsv.output,by rw [hsv.size]; exact Nat.le_refl _,fun k hk => hsv.block k (by omega)⟩,fun b G' q => by rw [hsv.size]; exact hi.lo b G' q⟩,hgr,
   (fun G' _ hn => hsv.block G' fun q => hn p.1 List.mem_cons_self (q ▸ hG)),fun b hb' => by rw [List.mem_singleton.1 hb']; exact glive⟩
  refine hK _ w' γ hef (fun y' hy' => by cases hy'; exact Wf _) fun x hx hw => ?_
  rcases hw with hw | hw
  ·rw [List.mem_singleton] at hw
   rcases YB hx with q' | q'
   ·rw [q']
    refine ⟨G,vs.take p.2.1 ++ ((us.drop q.2.1).take k ++ vs.drop (p.2.1+k)),t1,hG,glive,⟨rs,hk,grs⟩,g3,?_⟩
    rw [hdl]
    exact A2.append ((g4.mono fun _ _ q => hef.cell q).take _) (A2.append (hU.mono fun _ _ q => hef.cell q) ((g4.mono fun _ _ q => hef.cell q).drop _))
   ·exact absurd hw q'.2
  ·dsimp only at hw
   omega
theorem OpOk.put {b : Nat} {ys ds cs' : List AC} {off : Nat} {res : AV} (hys : YK b h=some ys) (hput : RR ys off ds=some cs')
  (hr : ∀ (γ : Nat→Option Nat) (w : World) (a : Act),(∀ x v,ρ x=some v→avOn (cOn E S.K γ w) v (a.eval x))→∀ (G : Nat) (vs rs : List Value) (t : TypeId),γ b=some G→Bk w G (vs ++ rs) t→A2 (cOn E S.K γ w) ys vs →
   ∃ v us w',(execOp a.eval o).run S.P w=.ok (.value v) w'∧Sav G w w'∧A2 (cOn E S.K γ w) ds us∧Bk w' G (vs.take off ++ (us ++ vs.drop (off+us.length)) ++ rs) t∧avOn (cOn E S.K γ w') res v) :
  OpOk S E w0 h nx ρ o { res := some res,rd := [],wr := [b],h := Iw b cs' h,nx := nx } := by
 unfold RR at hput
 rw [ifO_some,Nat.ble_eq] at hput
 obtain ⟨hfy,hcs⟩ := hput
 cases hcs
 refine ⟨Nat.le_refl _,fun b' hb => ⟨(b,ys),Zt hys,(List.mem_singleton.1 hb).symm⟩,fun x hx => ?_,fun γ w a Q hi hρ hb _ _ K hK => ?_⟩
 ·rcases YB hx with q' | q'
  ·rw [q']
   exact Or.inr (Or.inl List.mem_cons_self)
  ·exact Or.inl q'.1
 ·have hbx := hb (b,ys) (Zt hys) (Or.inr List.mem_cons_self)
  obtain ⟨G,vs,t1,hG,glive,⟨rs,g2,grs⟩,g3,g4⟩ := id hbx
  have hB := hbx.bxd hG
  have hvl : vs.length=ys.length := g4.len
  obtain ⟨v,us,w',hrun,hsv,hU,hk,hv⟩ := hr γ w a hρ G vs rs t1 hG g2 g4
  have hul : us.length=ds.length := hU.len
  unfold Oper.wp
  rw [hrun]
  have hgr : Gr S.nb w w' := ⟨by rw [hsv.size]; exact Nat.le_refl _,fun j _ hj => hsv.block j fun q => hj (q ▸ hB),fun j es t hj => by
   by_cases e : j=G
   ·subst e
    obtain ⟨e1,e2⟩ := Bk.uniq hj g2
    subst e1 e2
    refine ⟨_,hk,?_⟩
    simp only [List.length_append,List.length_take,List.length_drop]
    omega
   ·exact ⟨es,(hsv.block j e).trans hj,rfl⟩⟩
  have hlo := hi.lo _ _ hG
  have hef : Ef S.nb w0 [b] nx nx γ w γ w' := ⟨leG.refl _,fun _ _ => rfl,fun _ _ q => Or.inl q,
   ⟨hi.bel.trans ⟨hsv.os,hsv.tape,hsv.output,by rw [hsv.size]; exact Nat.le_refl _,fun k hk => hsv.block k (by omega)⟩,fun b G' q => by rw [hsv.size]; exact hi.lo b G' q⟩,hgr,
   (fun G' _ hn => hsv.block G' fun q => hn b List.mem_cons_self (q ▸ hG)),fun b hb' => by rw [List.mem_singleton.1 hb']; exact glive⟩
  refine hK _ w' γ hef (fun y' hy' => by cases hy'; exact hv) fun x hx hw => ?_
  rcases hw with hw | hw
  ·rw [List.mem_singleton] at hw
   rcases YB hx with q' | q'
   ·rw [q']
    refine ⟨G,vs.take off ++ (us ++ vs.drop (off+us.length)),t1,hG,glive,⟨rs,hk,grs⟩,g3,?_⟩
    rw [hul]
    exact A2.append ((g4.mono fun _ _ q => hef.cell q).take _) (A2.append (hU.mono fun _ _ q => hef.cell q) ((g4.mono fun _ _ q => hef.cell q).drop _))
   ·exact absurd hw q'.2
  ·dsimp only at hw
   omega
theorem AE (u : Value) (n : Nat) : (Builtin.zeroCells #[u] n).toList=List.replicate n u := by
 apply List.ext_getElem
 ·simp [Builtin.zeroCells]
 ·intro i h1 h2
  simp [Builtin.zeroCells,Nat.mod_one]
theorem DO {R : AC→Value→Prop} {c : AC} {u : Value} (h : R c u) : ∀ n,A2 R (repL [c] n) (List.replicate n u)
 | 0 => trivial
 | n+1 => ⟨h,DO h n⟩
theorem LI {c} {x : Operand} {t : TypeId} {r : OR} (hop : o.op=.call c) (hc : c.callee=.builtin .clear) (ha : c.args.toList=[x]) (hta : c.argTypes.toList=[t]) (hr : ((ρ x).bind fun v => Lz S.P h nx t v)=some r) : OpOk S E w0 h nx ρ o r := by
 unfold Lz at hr
 simp only [Option.bind_eq_some_iff,Option.map_eq_some_iff,ifO_some,Bool.and_eq_true,Nat.beq_eq] at hr
 obtain ⟨v,hv,e,hsl,z,hz,zs,hzs,p,hp,ys,hys,⟨⟨hzl,hz1⟩,hn0⟩,cs',hput,rfl⟩ := hr
 refine OpOk.put hys hput fun γ w a hρ G vs rs t1 hG g2 g4 => ?_
 have hvl : vs.length=ys.length := g4.len
 obtain ⟨G',m,hG',hx⟩ := KF hp (hρ x v hv)
 rw [hG] at hG'
 cases hG'
 obtain ⟨z0,q1,q2,q3⟩ := UL hzs w
 subst q3
 have hl : z0.cells.toList.length=1 := by simpa using hzl
 obtain ⟨u,hu⟩ : ∃ u,z0.cells=#[u] := by
  match hq : z0.cells.toList,hl with
  | [u],_ => exact ⟨u,by apply Array.ext'; simpa using hq⟩
 have hok : okV u=true := by
  have := List.all_eq_true.1 q2 u (by rw [hu]; simp)
  exact this
 have hput' := hput
 unfold RR at hput'
 rw [ifO_some,Nat.ble_eq] at hput'
 have hrl : (repL (z0.cells.toList.map Sum.inl) p.2.2).length=p.2.2 := by
  rw [hu]
  have := (DO (R := fun _ _ => True) (c := (Sum.inl u : AC)) (u := u) trivial p.2.2).len
  simpa using this.symm
 obtain ⟨w',hs,hk,hsv⟩ := JO (P := S.P) (o := p.2.1) (List.replicate p.2.2 u) 0 w (vs ++ rs) g2 (fun d hd => by rw [(List.mem_replicate.1 hd).2]; exact hok) (by rw [List.length_replicate,List.length_append]; omega)
 have hle : p.2.1+p.2.2≤vs.length := by omega
 refine ⟨.tuple #[],List.replicate p.2.2 u,w',?_,hsv,?_,?_,⟨[],rfl,trivial⟩⟩
 ·have e2 : c.args=#[x] := by
   apply Array.ext'
   simpa using ha
  have e3 : c.argTypes=#[t] := by
   apply Array.ext'
   simpa using hta
  unfold execOp
  rw [hop]
  show (resolve a.eval c o.type >>= fun d => invoke d.target d.args).run S.P w=_
  unfold resolve
  rw [hc]
  show (Builtin.clear_ c.argTypes o.type (c.args.map a.eval) >>= fun v => pure (Next.value v) : Sem Next).run S.P w=_
  have e4 : (Builtin.clear_ c.argTypes o.type (c.args.map a.eval)).run S.P w=.ok (.tuple #[]) w' := by
   obtain ⟨k,hk0⟩ : ∃ k,p.2.2=k+1 := ⟨p.2.2 - 1,by have : 0 < p.2.2 := (by simpa [Nat.blt_eq] using hn0); omega⟩
   rw [e2,e3]
   rw [show Array.map a.eval #[x]=#[a.eval x] by simp,hx]
   rw [hk0] at hs ⊢
   simp [Builtin.clear_,run_underlying (QU hsl),q1,hu,AE,hs]
  rw [Sem.run_bind,e4]
  rfl
 ·rw [hu]
  exact DO (show cOn E S.K γ w (.inl u) u from ⟨rfl,hok⟩) _
 ·rw [Nat.add_zero,List.length_replicate] at hk
  rw [List.take_append_of_le_length (by omega),List.drop_append_of_le_length (by omega)] at hk
  rw [List.length_replicate]
  simpa [List.append_assoc] using hk
theorem op_own {c} {s x : Operand} {t e : TypeId} {u v : AV} {cs cx : AC} {r : OR} (hop : o.op=.call c) (hc : c.callee=.builtin .append) (ha : c.args.toList=[s,x]) (hta : c.argTypes.toList=[t,t]) (hsl : ZJ S.P t=some e)
  (hu : ρ s=some u) (hcs : asC u=some cs) (hv : ρ x=some v) (hcx : asC v=some cx) (hr : Hk S h nx e cs cx=some r) : OpOk S E w0 h nx ρ o r := by
 unfold Hk at hr
 simp only [Option.bind_eq_some_iff,Option.map_eq_some_iff,ifO_some,Bool.and_eq_true,Nat.beq_eq,Nat.ble_eq] at hr
 obtain ⟨z,hz,p,hp,y,hy,xs,hxs,⟨⟨⟨hb,h0⟩,hzz,hz0⟩,⟨hyl,hro⟩,hy0⟩,cs',hput,rfl⟩ := hr
 have hz0 : 0 < z := by simpa [Nat.blt_eq] using hz0
 have hy0 : 0 < y.2.2 := by simpa [Nat.blt_eq] using hy0
 obtain ⟨i,hi,hiz⟩ := Og hz
 refine OpOk.put hxs hput fun γ w a hρ G vs rs t1 hG g2 g4 => ?_
 have hvl : vs.length=xs.length := g4.len
 obtain ⟨G',m,hG',hsx,hnm,cs0,t',hk0,hl0⟩ := PB hp (Za hcs (hρ s u hu))
 rw [hG] at hG'
 cases hG'
 obtain ⟨e1,e2⟩ := Bk.uniq hk0 g2
 subst e1 e2
 obtain ⟨G',cy,hG',hx⟩ := II hy (Za hcx (hρ x v hv))
 rw [← hb,hG] at hG'
 cases hG'
 rw [h0,Nat.zero_add,← hzz] at hl0
 rw [h0] at hsx
 have hll : vs.length+rs.length=m*z := by rw [← List.length_append]; exact hl0
 have hroom : p.2.2.1+y.2.2≤m := Nat.le_of_mul_le_mul_right (c := z) (by omega) hz0
 obtain ⟨q1,q2,q3⟩ := Wy g2 g4 hyl
 have hns : ((vs.drop y.2.1).take (y.2.2*z)).length=y.2.2*i.size := by rw [hiz]; exact q1
 rw [Nat.add_mul] at hro
 obtain ⟨w',hs,hk,hsv⟩ := JO (P := S.P) (o := p.2.2.1*i.size) ((vs.drop y.2.1).take (y.2.2*z)) 0 w (vs ++ rs) g2 (A2.all (fun a v q => XM _ a v q) q2) (by rw [q1,hiz,List.length_append]; omega)
 have hfc := run_firstCells_some (P := S.P) w i.size y.2.2 ⟨G,y.2.1,none⟩ y.2.2 cy _ hns q3
 have hrun : (Builtin.append_ #[t,t] o.type #[.slice (some ⟨G,0,none⟩) p.2.2.1 m,.slice (some ⟨G,y.2.1,none⟩) y.2.2 cy]).run S.P w=.ok (.slice (some ⟨G,0,none⟩) (p.2.2.1+y.2.2) m) w' := by
  simp [Builtin.append_,run_underlying (QU hsl),Go.sizeOf,typeInfo,hi,Builtin.lenOf,hroom,hfc,Addr.add_lit,hs]
 rw [Nat.add_zero,hiz,q1,List.take_append_of_le_length (by omega),List.drop_append_of_le_length (by omega)] at hk
 have hk' : Bk w' G (vs.take (p.2.2.1*z) ++ ((vs.drop y.2.1).take (y.2.2*z) ++ vs.drop (p.2.2.1*z+((vs.drop y.2.1).take (y.2.2*z)).length)) ++ rs) t' := by
  rw [q1]
  simpa [List.append_assoc] using hk
 refine ⟨_,(vs.drop y.2.1).take (y.2.2*z),w',Vp hop hc ha hta (by rw [hsx,hx]; exact hrun),hsv,q2,hk',Zg ⟨G,m,hG,rfl,hroom,_,_,hk',?_⟩⟩
 rw [List.length_append,List.length_append,List.length_append,List.length_take,List.length_drop,q1]
 omega
theorem op_max {c} {x y : Operand} {r : OR} (hop : o.op=.call c) (hc : c.callee=.builtin .max) (ha : c.args.toList=[x,y]) (hr : ((ρ x).bind fun u => (asI u).bind fun a => (ρ y).bind fun v => (asI v).map fun b => QN h nx (kI (if b > a then b else a)))=some r) : OpOk S E w0 h nx ρ o r := by
 simp only [Option.bind_eq_some_iff,Option.map_eq_some_iff] at hr
 obtain ⟨u,h1,p,h2,v,h3,q,h4,rfl⟩ := hr
 refine OpOk.pure fun γ w a hρ => ⟨.int .i64 (if q > p then q else p),?_,Zg ⟨rfl,rfl⟩⟩
 have hx := YO h2 (hρ x u h1)
 have hy := YO h4 (hρ y v h3)
 have e2 : c.args=#[x,y] := by
  apply Array.ext'
  simpa using ha
 unfold execOp
 rw [hop]
 show (resolve a.eval c o.type >>= fun d => invoke d.target d.args).run S.P w=_
 unfold resolve
 rw [hc]
 show (Builtin.max_ c.argTypes o.type (c.args.map a.eval) >>= fun v => pure (Next.value v) : Sem Next).run S.P w=_
 have e4 : (c.args.map a.eval)=#[.int .i64 p,.int .i64 q] := by
  rw [e2]
  simp [hx,hy]
 rw [e4,Sem.run_bind,run_max_int2]
 rfl
theorem op_min {c} {x y : Operand} {r : OR} (hop : o.op=.call c) (hc : c.callee=.builtin .min) (ha : c.args.toList=[x,y]) (hr : ((ρ x).bind fun u => (asI u).bind fun a => (ρ y).bind fun v => (asI v).map fun b => QN h nx (kI (if b < a then b else a)))=some r) : OpOk S E w0 h nx ρ o r := by
 simp only [Option.bind_eq_some_iff,Option.map_eq_some_iff] at hr
 obtain ⟨u,h1,p,h2,v,h3,q,h4,rfl⟩ := hr
 refine OpOk.pure fun γ w a hρ => ⟨.int .i64 (if q < p then q else p),?_,Zg ⟨rfl,rfl⟩⟩
 have hx := YO h2 (hρ x u h1)
 have hy := YO h4 (hρ y v h3)
 have e2 : c.args=#[x,y] := by
  apply Array.ext'
  simpa using ha
 unfold execOp
 rw [hop]
 show (resolve a.eval c o.type >>= fun d => invoke d.target d.args).run S.P w=_
 unfold resolve
 rw [hc]
 show (Builtin.min_ c.argTypes o.type (c.args.map a.eval) >>= fun v => pure (Next.value v) : Sem Next).run S.P w=_
 have e4 : (c.args.map a.eval)=#[.int .i64 p,.int .i64 q] := by
  rw [e2]
  simp [hx,hy]
 rw [e4,Sem.run_bind,run_min_int2]
 rfl
theorem AP {c : Call} {n : Nat} (e : o.op=.call c) (hc : c.callee=.builtin .len) (hr : lenS S.P ρ c=some n) : OpOk S E w0 h nx ρ o (QN h nx (kI (n : Int))) := by
 unfold lenS at hr
 simp only [Option.bind_eq_some_iff,ifO_some] at hr
 obtain ⟨t,h1,h2,args,h3,h4⟩ := hr
 unfold arg1 at h4
 split at h4
 ·rename_i v
  simp only [Option.bind_eq_some_iff,Option.map_eq_some_iff] at h4
  obtain ⟨cc,h5,s,h6,rfl⟩ := h4
  refine OpOk.pure fun γ w a hρ => ?_
  have hA := Tp hρ h3
  have hl : ∃ x0,c.args.toList=[x0] := by
   have := hA.len
   match hq : c.args.toList,this with
   | [x0],_ => exact ⟨x0,rfl⟩
   | [],q => simp at q
   | _ :: _ :: _,q => simp at q
  obtain ⟨x0,hx0⟩ := hl
  rw [hx0] at hA
  have hx : a.eval x0=.string s := by
   have hy := Za h5 hA.1
   unfold OD at h6
   split at h6
   ·cases h6
    exact hy.1
   ·cases h6
  refine ⟨.int .i64 (s.size : Nat),?_,Wf _⟩
  have e2 : c.args=#[x0] := by
   apply Array.ext'
   simpa using hx0
  have e3 : c.argTypes[0]? = some t := by
   have := h1
   rw [List.head?_eq_getElem?] at this
   simpa using this
  unfold execOp
  rw [e]
  show (resolve a.eval c o.type >>= fun d => invoke d.target d.args).run S.P w=_
  unfold resolve
  rw [hc]
  show (Builtin.len_ c.argTypes o.type (c.args.map a.eval) >>= fun v => pure (Next.value v) : Sem Next).run S.P w=_
  have hu : S.P.underlying t=some .string := by
   unfold strT at h2
   split at h2
   ·assumption
   ·cases h2
  have e4 : (Builtin.len_ c.argTypes o.type (c.args.map a.eval)).run S.P w=.ok (.int .i64 (s.size : Nat)) w := by
   unfold Builtin.len_
   have e5 : (c.args.map a.eval)[0]? = some (a.eval x0) := by
    rw [e2]
    simp
   rw [e3,e5,hx]
   dsimp only
   rw [Sem.run_bind,Qs hu]
   rfl
  rw [Sem.run_bind,e4]
  rfl
 ·cases h4
theorem opB_ok (N : Knows S E) (hP : Oq S E w0) (hC : IB S E w0 call) {r : OR} (hr : opB S call ρ h nx o.op=some r) : OpOk S E w0 h nx ρ o r := by
 unfold opB at hr
 split at hr
 ·rename_i e; exact MA (Or.inl e) hr
 ·rename_i e; exact MA (Or.inr e) hr
 ·rename_i e; exact AO e hr
 ·rename_i e; exact CM e hr
 ·rename_i e; exact Sk e hr
 ·rename_i e; exact SZ e hr
 ·rename_i e; exact Et N e hr
 ·rename_i e; exact op_box e hr
 ·rename_i e; exact op_load hP.1 e hr
 ·rename_i e; exact Lj e hr
 ·rename_i e; exact Do e hr
 ·rename_i e; exact Ha e hr
 ·rename_i e; exact Pt e hr
 ·rename_i e; exact NQ e hr
 ·rename_i e; exact NK e hr
 ·rename_i e; exact Lv e hr
 ·rename_i e; exact Gi e hr
 ·rename_i e; exact PP e hr
 ·rename_i e; exact op_not e hr
 ·rename_i e; exact op_neg e hr
 ·rename_i e; exact op_bin N e hr
 ·rename_i e; exact Bi e hr
 ·rename_i c e
  split at hr
  ·rename_i f hc
   rw [Option.bind_eq_some_iff] at hr
   obtain ⟨args,h1,h2⟩ := hr
   refine fn_ok hP hC h2 fun γ w a hρ => ⟨c.args.toList.map a.eval,?_,Tp hρ h1⟩
   have em : (c.args.toList.map a.eval).toArray=#[] ++ c.args.map a.eval ++ #[] := by
    apply Array.ext'
    simp
   obtain ⟨dst,op,ty,pos,after,guard⟩ := o
   obtain ⟨callee,cargs,ats⟩ := c
   dsimp only at e hc em ⊢
   subst hc
   subst e
   rw [execOp_call_go,em]
  ·rename_i x hn hc
   simp only [Option.bind_eq_some_iff] at hr
   obtain ⟨v,h1,k,⟨cc,h2,h3⟩,args,h4,p,h5,h6⟩ := hr
   refine fn_ok hP hC h6 fun γ w a hρ => ?_
   obtain ⟨f,cs,us,g1,g2,g3⟩ := acF_on h3 (Za h2 (hρ x v h1))
   rw [h5] at g1
   cases g1
   refine ⟨c.args.toList.map a.eval ++ us,?_,(Tp hρ h4).append (A2.map v1 (fun c v q => Zg (Pf _ _ _ q)) g3)⟩
   unfold execOp
   rw [e]
   show (resolve a.eval c o.type >>= fun d => invoke d.target d.args)=_
   unfold resolve
   rw [hc]
   dsimp only
   rw [g2]
   show callFunc f ((#[] ++ c.args.map a.eval) ++ us.toArray)=_
   congr 1
   apply Array.ext'
   simp
  ·rename_i hc
   split at hr
   ·rename_i n hn
    cases hr
    exact AP e hc hn
   ·simp only [Option.bind_eq_some_iff] at hr
    obtain ⟨t,h1,e1,h2,args,h3,h4⟩ := hr
    unfold arg1 at h4
    split at h4
    ·rename_i v
     rw [Option.bind_eq_some_iff] at h4
     obtain ⟨cc,h5,h4⟩ := h4
     obtain ⟨y,rfl,hy⟩ : ∃ y,r=QN h nx y∧∀ (γ : Nat→Option Nat) (w : World) (x : Value),cOn E S.K γ w cc x→∃ ao n m,x=.slice ao n m∧avOn (cOn E S.K γ w) y (.int .i64 (n : Int)) := by
      split at h4
      ·rename_i b hb
       cases h4
       refine ⟨_,rfl,fun γ w x hx => ?_⟩
       obtain ⟨ao,n,m,e1,e2⟩ := acHL_on hb hx
       exact ⟨ao,n,m,e1,Zg (e2 w)⟩
      ·rw [Option.map_eq_some_iff] at h4
       obtain ⟨n,h6,rfl⟩ := h4
       refine ⟨_,rfl,fun γ w x hx => ?_⟩
       obtain ⟨ao,m,e1⟩ := FN h6 hx
       exact ⟨ao,n,m,e1,Wf _⟩
     refine OpOk.pure fun γ w a hρ => ?_
     have hA := Tp hρ h3
     have hl : ∃ x0,c.args.toList=[x0] := by
      have := hA.len
      match hq : c.args.toList,this with
      | [x0],_ => exact ⟨x0,rfl⟩
      | [],q => simp at q
      | _ :: _ :: _,q => simp at q
     obtain ⟨x0,hx0⟩ := hl
     rw [hx0] at hA
     obtain ⟨ao,n,cp,hx,hy⟩ := hy γ w _ (Za h5 hA.1)
     refine ⟨.int .i64 n,?_,hy⟩
     have e2 : c.args=#[x0] := by
      apply Array.ext'
      simpa using hx0
     have e3 : c.argTypes[0]? = some t := by
      have := h1
      rw [List.head?_eq_getElem?] at this
      simpa using this
     unfold execOp
     rw [e]
     show (resolve a.eval c o.type >>= fun d => invoke d.target d.args).run S.P w=_
     unfold resolve
     rw [hc]
     show (Builtin.len_ c.argTypes o.type (c.args.map a.eval) >>= fun v => pure (Next.value v) : Sem Next).run S.P w=_
     have e4 : (Builtin.len_ c.argTypes o.type (c.args.map a.eval)).run S.P w=.ok (.int .i64 n) w := by
      unfold Builtin.len_
      have e5 : (c.args.map a.eval)[0]? = some (a.eval x0) := by
       rw [e2]
       simp
      rw [e3,e5,hx]
      dsimp only
      rw [Sem.run_bind,Qs (QU h2)]
      rfl
     rw [Sem.run_bind,e4]
     rfl
    ·cases h4
  ·rename_i hc
   split at hr
   ·rename_i h1 h2
    have hr' := hr
    simp only [Option.bind_eq_some_iff,ifO_some] at hr'
    obtain ⟨htt,e1,hsl,u,hu,cs,hcs,v,hv,cx,hcx,hq⟩ := hr'
    unfold appO at hq
    split at hq
    ·cases hq
     rename_i hq
     rw [Nat.beq_eq] at htt
     subst htt
     exact op_own e hc h1 h2 hsl hu hcs hv hcx hq
    ·refine El e hc h1 h2 ?_
     simp only [Option.bind_eq_some_iff,ifO_some]
     exact ⟨htt,e1,hsl,u,hu,cs,hcs,v,hv,cx,hcx,hq⟩
   ·cases hr
  ·rename_i hc
   split at hr
   ·rename_i h1 h2
    exact op_copy e hc h1 h2 hr
   ·cases hr
  ·rename_i hc
   split at hr
   ·rename_i h1 h2
    exact LI e hc h1 h2 hr
   ·cases hr
  ·rename_i hc
   split at hr
   ·rename_i h1
    exact op_max e hc h1 hr
   ·cases hr
  ·rename_i hc
   split at hr
   ·rename_i h1
    exact op_min e hc h1 hr
   ·cases hr
  ·cases hr
 ·cases hr
theorem LJ {b : Nat} {h h2 : List HB} (hs : KS b h h2=true) {x : HB} (hx : x ∈ h) (e : x.1=b) : x ∈ h2 := by
 unfold KS at hs
 simp only [Bool.and_eq_true,List.all_eq_true,Bool.or_eq_true,Bool.not_eq_true',List.any_eq_true] at hs
 rcases hs.1 x hx with q | ⟨y,hy,q1,q2⟩
 ·rw [e,Nat.beq_refl] at q
  cases q
 ·have e1 : y.1=b := Nat.eq_of_beq_eq_true q1
  have e2 := Th q2
  obtain ⟨x1,x2⟩ := x
  obtain ⟨y1,y2⟩ := y
  dsimp only at e e1 e2
  subst e e1 e2
  exact hy
theorem Ah {b : Nat} {h h2 : List HB} (hs : KS b h h2=true) {x : HB} (hx : x ∈ h2) (e : x.1=b) : x ∈ h := by
 unfold KS at hs
 simp only [Bool.and_eq_true,List.all_eq_true,Bool.or_eq_true,Bool.not_eq_true',List.any_eq_true] at hs
 rcases hs.2 x hx with q | ⟨y,hy,q1,q2⟩
 ·rw [e,Nat.beq_refl] at q
  cases q
 ·have e1 : y.1=b := Nat.eq_of_beq_eq_true q1
  have e2 := Th q2
  obtain ⟨x1,x2⟩ := x
  obtain ⟨y1,y2⟩ := y
  dsimp only at e e1 e2
  subst e e1 e2
  exact hy
def Kp (h : List HB) (o : Option OR) : Prop := ∀ r,o=some r→∀ x ∈ h,x.1 ∉ r.wr→x ∈ r.h
theorem Kp.non {h : List HB} : Kp h none := fun _ e => by cases e
theorem Kp.bind {α : Type} {h : List HB} {o : Option α} {f : α→Option OR} (hf : ∀ a,Kp h (f a)) : Kp h (o.bind f) := fun r e => by
 rw [Option.bind_eq_some_iff] at e
 obtain ⟨a,_,e⟩ := e
 exact hf a r e
theorem Kp.map {α : Type} {h : List HB} {o : Option α} {f : α→OR} (hf : ∀ a,∀ x ∈ h,x.1 ∉ (f a).wr→x ∈ (f a).h) : Kp h (o.map f) := fun r e => by
 rw [Option.map_eq_some_iff] at e
 obtain ⟨a,_,rfl⟩ := e
 exact hf a
theorem Kp.ifO {h : List HB} {c : Bool} {o : Option OR} (ho : Kp h o) : Kp h (ifO c o) := fun r e => ho r (ifO_some.1 e).2
theorem Kp.one {h : List HB} {r : OR} (hr : ∀ x ∈ h,x.1 ∉ r.wr→x ∈ r.h) : Kp h (some r) := fun r' e => by
 cases e
 exact hr
theorem Kp.arg1 {h : List HB} {f : AV→Option OR} (hf : ∀ a,Kp h (f a)) : ∀ (l : List AV),Kp h (arg1 f l)
 | [] => Kp.non
 | [a] => hf a
 | _ :: _ :: _ => Kp.non
theorem Yt {b : Nat} {cs : List AC} {x : HB} : ∀ {h : List HB},x ∈ h→x.1 ≠ b→x ∈ Iw b cs h
 | y :: h,hx,hn => by
  unfold Iw
  cases e : Nat.beq b y.1 with
  | true =>
   rcases List.mem_cons.1 hx with rfl | q
   ·rw [Nat.beq_eq] at e
    exact absurd e.symm hn
   ·simp [Yt q hn]
  | false =>
   rcases List.mem_cons.1 hx with rfl | q
   ·simp
   ·simp [Yt q hn]
theorem Kp.fn {h : List HB} {nx : Nat} {S : Sx} {call : WP} {f : FuncId} {args : List AV} : Kp h (fnB S call f args h nx) := by
 unfold fnB
 refine Kp.ifO ?_
 split
 ·exact Kp.bind fun p => Kp.ifO (Kp.one fun x hx _ => List.mem_append_left _ hx)
 ·refine Kp.bind fun p => Kp.ifO (Kp.one fun x hx hn => ?_)
  dsimp only at hn ⊢
  unfold Mb
  split
  ·exact hx
  ·exact List.mem_append_left _ (List.mem_filter.2 ⟨hx,by rw [Bool.not_eq_true',memN_not]; exact hn⟩)
theorem Kp.bif {h : List HB} {c : Bool} {o o' : Option OR} (ho : Kp h o) (ho' : Kp h o') : Kp h (bif c then o else o') := by
 cases c
 ·exact ho'
 ·exact ho
theorem Kp.app {S : Sx} {h : List HB} {nx : Nat} {e : TypeId} {s x : AC} : Kp h (LD S h nx e s x) := by
 unfold LD
 refine Kp.bind fun z => Kp.bind fun m => Kp.bif (Kp.ifO (Kp.one fun x hx _ => hx)) (Kp.bind fun y => Kp.bind fun ys => Kp.bind fun bt => Kp.bind fun zc => Kp.ifO (Kp.bif (Kp.one fun x hx _ => List.mem_append_left _ hx) ?_))
 split
 ·exact Kp.bind fun xs => Kp.ifO (Kp.one fun x hx _ => List.mem_append_left _ hx)
 ·refine Kp.bind fun p => Kp.bind fun xs => Kp.ifO (Kp.one fun x hx hn => List.mem_append_left _ (List.mem_filter.2 ⟨hx,?_⟩))
  rw [Bool.not_eq_true']
  cases hb : Nat.beq x.1 p.1 with
  | false => rfl
  | true => exact absurd (by rw [Nat.eq_of_beq_eq_true hb]; exact List.mem_cons_self) hn
theorem Kp.cpy {P : Program} {h : List HB} {nx : Nat} {t : TypeId} {d s : AV} : Kp h (ND P h nx t d s) := by
 unfold ND
 exact Kp.bind fun e => Kp.bind fun z => Kp.bind fun p => Kp.bind fun q => Kp.bind fun ys => Kp.bind fun xs => Kp.ifO (Kp.map fun a x hx hn => Yt hx (by simpa using hn))
theorem Kp.appO {S : Sx} {h : List HB} {nx : Nat} {e : TypeId} {s x : AC} : Kp h (appO S h nx e s x) := by
 unfold Cx.appO
 split
 ·rename_i r hr
  intro r' e
  cases e
  have : Kp h (Hk S h nx e s x) := by
   unfold Hk
   exact Kp.bind fun z => Kp.bind fun p => Kp.bind fun y => Kp.bind fun xs => Kp.ifO (Kp.map fun a x hx hn => Yt hx (by simpa using hn))
  exact this r hr
 ·exact Kp.app
theorem Kp.clr {P : Program} {h : List HB} {nx : Nat} {t : TypeId} {x : AV} : Kp h (Lz P h nx t x) := by
 unfold Lz
 exact Kp.bind fun e => Kp.bind fun z => Kp.bind fun zs => Kp.bind fun p => Kp.bind fun ys => Kp.ifO (Kp.map fun a x hx hn => Yt hx (by simpa using hn))
theorem Kp.sliceO {P : Program} {h : List HB} {nx : Nat} {t : TypeId} {x : AV} {lo hi : Option (Option AV)} : Kp h (sliceO P h nx t x lo hi) := by
 unfold Cx.sliceO
 exact Kp.bind fun e => Kp.bind fun z => Kp.bind fun p => Kp.bind fun k => Kp.bind fun l => Kp.bind fun cs => Kp.ifO (Kp.one fun x hx _ => hx)
theorem EP {S : Sx} {call : WP} {ρ : Operand→Option AV} {h : List HB} {nx : Nat} {op : Op} : Kp h (opB S call ρ h nx op) := by
 unfold opB
 split
 all_goals
  repeat' first
   | exact Kp.non
   | exact Kp.fn
   | exact Kp.appO
   | exact Kp.clr
   | exact Kp.sliceO
   | exact Kp.cpy
   | refine Kp.bif ?_ ?_
   | exact Kp.map fun a x hx _ => hx
   | exact Kp.map fun a x hx _ => List.mem_append_left _ hx
   | exact Kp.map fun a x hx hn => Yt hx (by simpa using hn)
   | exact Kp.one fun x hx _ => hx
   | exact Kp.one fun x hx _ => List.mem_append_left _ hx
   | refine Kp.ifO ?_
   | refine Kp.arg1 (fun a => ?_) _
   | refine Kp.bind fun a => ?_
   | split
theorem TW (N : Knows S E) (hP : Oq S E w0) (hC : IB S E w0 call) {tm : List (Nat × AV)} : ∀ {os : List Oper} {i : Nat} {prev : IG} {h : List HB} {nx : Nat} {rs : List OR},Tj S call tm i os prev h nx=some rs→Lay S E w0 tm i os prev h nx rs
 | [],i,prev,h,nx,rs,hr => by
  cases hr
  trivial
 | o :: os,i,prev,h,nx,rs,hr => by
  unfold Tj at hr
  simp only [Option.bind_eq_some_iff,ifO_some,Option.map_eq_some_iff,Bool.and_eq_true,List.all_eq_true] at hr
  obtain ⟨wt,h1,r,h2,⟨⟨h3,h4⟩,h6⟩,l,h5,rfl⟩ := hr
  have hsame : ∀ b ∈ r.wr,b ∈ r.rd→KS b h r.h=true := fun b hb hd => by
   have := h6 b hb
   rw [Bool.or_eq_true,Bool.not_eq_true',memN_not] at this
   exact this.resolve_left fun q => q hd
  have hkeep : ∀ x ∈ h,x.1 ∉ r.wr→x ∈ r.h := by
   cases wt with
   | true => exact EP r h2
   | false =>
    cases h2
    exact fun x hx _ => hx
  have hkp : Kept h r := ⟨fun x hx hn => by
   by_cases q : x.1 ∈ r.wr
   ·exact LJ (hsame _ q (Classical.byContradiction fun q' => hn (mem_wrs.2 ⟨q,q'⟩))) hx rfl
   ·exact hkeep x hx q,fun x hx q1 q2 => Ah (hsame _ q1 q2) hx rfl⟩
  refine ⟨⟨wt,h1,fun e => ?_,fun e => ?_⟩,fun b hb => by simpa [Nat.blt_eq] using h3 b hb,fun b hb => by simpa [Nat.blt_eq] using h4 b hb,hkp,TW N hP hC h5⟩
  ·subst e
   exact opB_ok N hP hC h2
  ·subst e
   cases h2
   rfl
end
end Cx
/- VN -/
namespace Cx
open Go Go.RowKit
def Ow : Nat→Exit
 | 0 => .normal
 | 1 => .ret
 | n+2 => .exit n
section
variable {S : Sx} {E : Ev S.nb} {w0 : World} {call : WP} {n : Nat}
structure Stt (S : Sx) (E : Ev S.nb) (w0 : World) (n : Nat) (s : St) (γ : Nat→Option Nat) (a : Act) (w : World) : Prop where
 wi : WI w0 γ w
 tm : ∀ t v,VP t s.tm=some v→avOn (cOn E S.K γ w) v (a.tmps.getD t undef)
 bx : ∀ x ∈ s.h,boxOn E S.K γ w x
 lt : ∀ x ∈ s.h,x.1 < s.nx
 sz : a.tmps.size=n
 df : a.defers=[]
theorem Stt.live {s : St} {γ : Nat→Option Nat} {a : Act} {w : World} (hs : Stt S E w0 n s γ a w) : ∀ b ∈ s.h.map (·.1),TX γ b := fun b hb => by
 obtain ⟨x,hx,rfl⟩ := List.mem_map.1 hb
 exact (hs.bx x hx).live
def RunOk (S : Sx) (E : Ev S.nb) (w0 : World) (n : Nat) (f : St→Option (Nat × St)) (wp : (Exit→Act→World→Prop)→Act→World→Prop) : Prop :=
 ∀ s e s',f s=some (e,s')→s.nx≤s'.nx∧(∀ x ∈ s'.h,x.1 ∈ s.h.map (·.1) ∨ (s.nx≤x.1∧x.1 < s'.nx))∧∀ (γ : Nat→Option Nat) (a : Act) (w : World) (Q : Exit→Act→World→Prop),Stt S E w0 n s γ a w→(∀ b,s.nx≤b→b < s'.nx→γ b=none) →
  (∀ a' w' γ',Ef S.nb w0 (s.h.map (·.1)) s.nx s'.nx γ w γ' w'→Stt S E w0 n s' γ' a' w'→Q (Ow e) a' w')→wp Q a w
theorem Kd : ∀ {os : List Oper} {seen : List Nat},Fa n seen os=true→(os.filterMap (·.dst)).Nodup∧(∀ t ∈ os.filterMap (·.dst),t ∉ seen)∧∀ o ∈ os,∀ t,o.dst=some t→t < n
 | [],seen,_ => ⟨List.nodup_nil,by simp,by simp⟩
 | o :: os,seen,h => by
  unfold Fa at h
  cases hd : o.dst with
  | none =>
   rw [hd] at h
   obtain ⟨h1,h2,h3⟩ := Kd h
   rw [List.filterMap_cons_none hd]
   exact ⟨h1,h2,fun o' ho' t ht => by
    rcases List.mem_cons.1 ho' with rfl | ho'
    ·rw [hd] at ht; cases ht
    ·exact h3 o' ho' t ht⟩
  | some u =>
   rw [hd] at h
   simp only [Bool.and_eq_true,Bool.not_eq_true',memN_not] at h
   obtain ⟨h1,h2,h3⟩ := h
   obtain ⟨g1,g2,g3⟩ := Kd h3
   rw [List.filterMap_cons_some hd]
   refine ⟨List.nodup_cons.2 ⟨fun q => g2 u q List.mem_cons_self,g1⟩,fun t ht => ?_,fun o' ho' t ht => ?_⟩
   ·rcases List.mem_cons.1 ht with rfl | ht
    ·exact h2
    ·exact fun q => g2 t ht (List.mem_cons_of_mem _ q)
   ·rcases List.mem_cons.1 ho' with rfl | ho'
    ·rw [hd] at ht
     cases ht
     simpa [Nat.blt_eq] using h1
    ·exact g3 o' ho' t ht
theorem RunOk.region (hm : S.P.follows .mixedOrders=true) (N : Knows S E) (hP : Oq S E w0) (hC : IB S E w0 call) (id : Nat) (os : Array Oper) (dr : Bool) :
  RunOk S E w0 n (Of S call n (.region id os dr)) (fun Q a w => (Code.region id os dr).wp S.P Q a w) := by
 intro s e s' hr
 unfold Of at hr
 simp only [ifO_some,Option.bind_eq_some_iff,Bool.and_eq_true] at hr
 obtain ⟨⟨h1,h2⟩,rs,h3,h4,h5⟩ := hr
 cases h5
 have hlay := TW N hP hC h3
 obtain ⟨d1,_,d3⟩ := Kd h1
 have mk : ∀ a : Act,a.tmps.size=n→(∀ x ∈ s.h,x.1 < s.nx)→RS S E w0 s.tm os.toList rs s.h s.nx a := fun a ha hlt => ⟨hlay,h4,d1,fun o ho t ht => by rw [ha]; exact d3 o ho t ht,hlt⟩
 have le : ∀ (rs' : List OR) (os' : List Oper) (i : Nat) (prev : IG) (h : List HB) (nx : Nat),Lay S E w0 s.tm i os' prev h nx rs'→nx≤VX nx rs'∧∀ x ∈ WM h rs',x.1 ∈ h.map (·.1) ∨ (nx≤x.1∧x.1 < VX nx rs') := by
  intro rs'
  induction rs' with
  | nil => exact fun os' i prev h nx _ => ⟨Nat.le_refl _,fun x hx => Or.inl (List.mem_map_of_mem hx)⟩
  | cons r rs' ih =>
   intro os' i prev h nx hl
   cases os' with
   | nil => exact hl.elim
   | cons o os' =>
    obtain ⟨⟨wt,_,g1,g2⟩,_,_,_,hl'⟩ := hl
    obtain ⟨q1,q2⟩ := ih os' (i+1) _ _ _ hl'
    have hh : nx≤r.nx∧∀ x ∈ r.h,x.1 ∈ h.map (·.1) ∨ (nx≤x.1∧x.1 < r.nx) := by
     cases wt with
     | true =>
      have := g1 rfl
      refine ⟨this.le,fun x hx => ?_⟩
      rcases this.fp x hx with q | q | q
      ·exact Or.inl (List.mem_map_of_mem q)
      ·obtain ⟨y,hy,e⟩ := this.wh _ q
       exact Or.inl (e ▸ List.mem_map_of_mem hy)
      ·exact Or.inr q
     | false =>
      rw [g2 rfl]
      exact ⟨Nat.le_refl _,fun x hx => Or.inl (List.mem_map_of_mem hx)⟩
    refine ⟨Nat.le_trans hh.1 q1,fun x hx => ?_⟩
    rcases q2 x hx with q | q
    ·obtain ⟨y,hy,e⟩ := List.mem_map.1 q
     rcases hh.2 y hy with q' | q'
     ·exact Or.inl (e ▸ q')
     ·rw [e] at q'
      exact Or.inr ⟨q'.1,Nat.lt_of_lt_of_le q'.2 q1⟩
    ·exact Or.inr ⟨Nat.le_trans hh.1 q.1,q.2⟩
 obtain ⟨le1,le2⟩ := le rs os.toList 0 [] s.h s.nx hlay
 refine ⟨le1,le2,fun γ a w Q hs hf hQ => ?_⟩
 have := So (id := id) (dr := dr) (Q := Q) hm h2 (mk a hs.sz hs.lt) hs.wi hs.tm hs.bx hf (fun a' w' γ' hef htm hbx hsz hdf => hQ a' w' γ' hef ⟨hef.wi,htm,hbx,fun x hx => ?_,hsz.trans hs.sz,hdf.trans hs.df⟩)
 ·simpa using this
 ·rcases le2 x hx with q | q
  ·obtain ⟨y,hy,e⟩ := List.mem_map.1 q
   have := hs.lt y hy
   dsimp only
   omega
  ·exact q.2
theorem Ef.seq {s s1 s2 : St} {γ γ1 γ2 : Nat→Option Nat} {w w1 w2 : World} (h : Ef S.nb w0 (s.h.map (·.1)) s.nx s1.nx γ w γ1 w1) (k : Ef S.nb w0 (s1.h.map (·.1)) s1.nx s2.nx γ1 w1 γ2 w2) (h1 : s.nx≤s1.nx) (h2 : s1.nx≤s2.nx) (hf : ∀ b,s.nx≤b→b < s2.nx→γ b=none)
  (hi : ∀ x ∈ s1.h,x.1 ∈ s.h.map (·.1) ∨ (s.nx≤x.1∧x.1 < s1.nx)) : Ef S.nb w0 (s.h.map (·.1)) s.nx s2.nx γ w γ2 w2 :=
 h.trans k h1 h2 hf fun b hb => by
  obtain ⟨x,hx,e⟩ := List.mem_map.1 hb
  rw [← e]
  exact hi x hx
theorem Mc {s s1 s2 : St} (h1 : s.nx≤s1.nx) (h2 : s1.nx≤s2.nx) (hi : ∀ x ∈ s1.h,x.1 ∈ s.h.map (·.1) ∨ (s.nx≤x.1∧x.1 < s1.nx)) (hj : ∀ x ∈ s2.h,x.1 ∈ s1.h.map (·.1) ∨ (s1.nx≤x.1∧x.1 < s2.nx)) : ∀ x ∈ s2.h,x.1 ∈ s.h.map (·.1) ∨ (s.nx≤x.1∧x.1 < s2.nx) := fun x hx => by
 rcases hj x hx with q | q
 ·obtain ⟨y,hy,e⟩ := List.mem_map.1 q
  rcases hi y hy with q' | q'
  ·exact Or.inl (e ▸ q')
  ·rw [e] at q'
   exact Or.inr ⟨q'.1,by omega⟩
 ·exact Or.inr ⟨by omega,q.2⟩
theorem GF {e : Nat} (h : Nat.beq e 0=false) : Ow e ≠ .normal := by
 match e,h with
 | 0,h => cases h
 | 1,_ => simp [Ow]
 | n+2,_ => simp [Ow]
theorem KG {K : Act→World→Prop} {Q : Exit→Act→World→Prop} {e : Exit} {a : Act} {w : World} (he : e ≠ .normal) (h : Q e a w) : Exit.then K Q e a w := by
 cases e <;> first | exact h | exact absurd rfl he
theorem Gh {id e : Nat} {Q : Exit→Act→World→Prop} {a : Act} {w : World} (he : Nat.beq e (id+2)=false) (h : Q (Ow e) a w) : Exit.inBlock id Q (Ow e) a w := by
 match e,he with
 | 0,_ => exact h
 | 1,_ => exact h
 | k+2,he =>
  show (if k=id then Q .normal a w else Q (.exit k) a w)
  rw [if_neg (fun q => by rw [q,Nat.beq_refl] at he; cases he)]
  exact h
theorem Uo (hm : S.P.follows .mixedOrders=true) (N : Knows S E) (hP : Oq S E w0) (hC : IB S E w0 call) : ∀ (c : Code),RunOk S E w0 n (Of S call n c) (fun Q a w => c.wp S.P Q a w)
 | .region id os dr => RunOk.region hm N hP hC id os dr
 | .skip => fun s e s' hr => by
  cases hr
  exact ⟨Nat.le_refl _,fun x hx => Or.inl (List.mem_map_of_mem hx),fun γ a w Q hs _ hQ => wp_skip (hQ a w γ (Ef.refl hs.wi _ _ hs.live) hs)⟩
 | .exit id => fun s e s' hr => by
  cases hr
  exact ⟨Nat.le_refl _,fun x hx => Or.inl (List.mem_map_of_mem hx),fun γ a w Q hs _ hQ => wp_exit (hQ a w γ (Ef.refl hs.wi _ _ hs.live) hs)⟩
 | .ret => fun s e s' hr => by
  cases hr
  exact ⟨Nat.le_refl _,fun x hx => Or.inl (List.mem_map_of_mem hx),fun γ a w Q hs _ hQ => wp_ret (hQ a w γ (Ef.refl hs.wi _ _ hs.live) hs)⟩
 | .seq c1 c2 => fun s e s' hr => by
  unfold Of at hr
  rw [Option.bind_eq_some_iff] at hr
  obtain ⟨⟨e1,s1⟩,h1,hr⟩ := hr
  obtain ⟨l1,i1,r1⟩ := Uo hm N hP hC c1 s e1 s1 h1
  dsimp only at hr
  cases hz : Nat.beq e1 0 with
  | true =>
   rw [hz] at hr
   obtain ⟨l2,i2,r2⟩ := Uo hm N hP hC c2 s1 e s' hr
   rw [Nat.beq_eq] at hz
   subst hz
   refine ⟨Nat.le_trans l1 l2,Mc l1 l2 i1 i2,fun γ a w Q hs hf hQ => wp_seq (r1 γ a w _ hs (fun b q1 q2 => hf b q1 (by omega)) fun a1 w1 γ1 he1 hs1 => ?_)⟩
   refine r2 γ1 a1 w1 Q hs1 (fun b q1 q2 => ?_) fun a2 w2 γ2 he2 hs2 => hQ a2 w2 γ2 (he1.seq he2 l1 l2 hf i1) hs2
   rw [he1.same b (by omega)]
   exact hf b (by omega) q2
  | false =>
   rw [hz] at hr
   cases hr
   exact ⟨l1,i1,fun γ a w Q hs hf hQ => wp_seq (r1 γ a w _ hs hf fun a1 w1 γ1 he1 hs1 => KG (GF hz) (hQ a1 w1 γ1 he1 hs1))⟩
 | .cond x c1 c2 => fun s e s' hr => by
  unfold Of at hr
  split at hr
  ·rename_i t
   simp only [Option.bind_eq_some_iff] at hr
   obtain ⟨v,h1,b,h2,hr⟩ := hr
   cases b with
   | true =>
    obtain ⟨l,i,r⟩ := Uo hm N hP hC c1 s e s' hr
    exact ⟨l,i,fun γ a w Q hs hf hQ => wp_cond_true (WZ h2 (hs.tm t v h1)) (r γ a w Q hs hf hQ)⟩
   | false =>
    obtain ⟨l,i,r⟩ := Uo hm N hP hC c2 s e s' hr
    exact ⟨l,i,fun γ a w Q hs hf hQ => wp_cond_false (WZ h2 (hs.tm t v h1)) (r γ a w Q hs hf hQ)⟩
  ·cases hr
 | .block id c => fun s e s' hr => by
  unfold Of at hr
  rw [Option.map_eq_some_iff] at hr
  obtain ⟨⟨e1,s1⟩,h1,hr⟩ := hr
  obtain ⟨l,i,r⟩ := Uo hm N hP hC c s e1 s1 h1
  dsimp only at hr
  cases hz : Nat.beq e1 (id+2) with
  | true =>
   rw [hz] at hr
   cases hr
   rw [Nat.beq_eq] at hz
   subst hz
   refine ⟨l,i,fun γ a w Q hs hf hQ => wp_block (r γ a w _ hs hf fun a1 w1 γ1 he1 hs1 => ?_)⟩
   show (if id=id then Q .normal a1 w1 else Q (.exit id) a1 w1)
   rw [if_pos rfl]
   exact hQ a1 w1 γ1 he1 hs1
  | false =>
   rw [hz] at hr
   cases hr
   exact ⟨l,i,fun γ a w Q hs hf hQ => wp_block (r γ a w _ hs hf fun a1 w1 γ1 he1 hs1 => Gh hz (hQ a1 w1 γ1 he1 hs1))⟩
 | .loop c => fun s e s' hr => by
  unfold Of at hr
  have hc := Uo hm N hP hC c
  have key : ∀ (k : Nat) (s : St) (e : Nat) (s' : St),Mu (Of S call n c) k s=some (e,s')→s.nx≤s'.nx∧(∀ x ∈ s'.h,x.1 ∈ s.h.map (·.1) ∨ (s.nx≤x.1∧x.1 < s'.nx))∧∀ (γ : Nat→Option Nat) (a : Act) (w : World) (Q : Exit→Act→World→Prop),Stt S E w0 n s γ a w→(∀ b,s.nx≤b→b < s'.nx→γ b=none) →
    (∀ a' w' γ',Ef S.nb w0 (s.h.map (·.1)) s.nx s'.nx γ w γ' w'→Stt S E w0 n s' γ' a' w'→Q (Ow e) a' w')→Code.rounds S.P c Q k a w := by
   intro k
   induction k with
   | zero => intro s e s' hr; cases hr
   | succ k ih =>
    intro s e s' hr
    unfold Mu at hr
    rw [Option.bind_eq_some_iff] at hr
    obtain ⟨⟨e1,s1⟩,h1,hr⟩ := hr
    obtain ⟨l1,i1,r1⟩ := hc s e1 s1 h1
    dsimp only at hr
    cases hz : Nat.beq e1 0 with
    | true =>
     rw [hz] at hr
     obtain ⟨l2,i2,r2⟩ := ih s1 e s' hr
     rw [Nat.beq_eq] at hz
     subst hz
     refine ⟨Nat.le_trans l1 l2,Mc l1 l2 i1 i2,fun γ a w Q hs hf hQ => ?_⟩
     show c.wp S.P (Exit.then (fun a w => Code.rounds S.P c Q k a w) Q) a w
     refine r1 γ a w _ hs (fun b q1 q2 => hf b q1 (by omega)) fun a1 w1 γ1 he1 hs1 => ?_
     refine r2 γ1 a1 w1 Q hs1 (fun b q1 q2 => ?_) fun a2 w2 γ2 he2 hs2 => hQ a2 w2 γ2 (he1.seq he2 l1 l2 hf i1) hs2
     rw [he1.same b (by omega)]
     exact hf b (by omega) q2
    | false =>
     rw [hz] at hr
     cases hr
     refine ⟨l1,i1,fun γ a w Q hs hf hQ => ?_⟩
     show c.wp S.P (Exit.then (fun a w => Code.rounds S.P c Q k a w) Q) a w
     exact r1 γ a w _ hs hf fun a1 w1 γ1 he1 hs1 => KG (GF hz) (hQ a1 w1 γ1 he1 hs1)
  obtain ⟨l,i,r⟩ := key 100 s e s' hr
  exact ⟨l,i,fun γ a w Q hs hf hQ => wp_loop_rounds 100 (r γ a w Q hs hf hQ)⟩
 | .rangeFunc _ _ _ _ => fun _ _ _ hr => by cases hr
 | .scope _ => fun _ _ _ hr => by cases hr
 | .label _ => fun _ _ _ hr => by cases hr
 | .goto _ => fun _ _ _ hr => by cases hr
 | .refuse _ => fun _ _ _ hr => by cases hr
end
end Cx
/- VO -/
namespace Cx
open Go Go.RowKit
section
variable {S : Sx} {E : Ev S.nb} {w0 : World} {n : Nat}
def Nf (tmps : Array Value) : ResultVar→Sem Value
 | .tmp t => pure (tmps.getD t undef)
 | .cell a t => do loadVar t (← asAddr (tmps.getD a undef))
theorem res_run {s : St} {γ : Nat→Option Nat} {a : Act} {w : World} (hs : Stt S E w0 n s γ a w) {v : ResultVar} {x : A1} (hx : Ew S.P s v=some x) : ∃ u,(Nf a.tmps v).run S.P w=.ok u w∧a1On (cOn E S.K γ w) x u := by
 have one : ∀ {y : AV} {u : Value},one1 y=some x→avOn (cOn E S.K γ w) y u→a1On (cOn E S.K γ w) x u := fun {y u} h1 h2 => by
  unfold one1 at h1
  split at h1
  ·cases h1
   exact h2.1
  ·cases h1
 cases v with
 | tmp t =>
  unfold Ew at hx
  rw [Option.bind_eq_some_iff] at hx
  obtain ⟨y,h1,h2⟩ := hx
  exact ⟨_,rfl,one h2 (hs.tm t y h1)⟩
 | cell t ty =>
  unfold Ew at hx
  simp only [Option.bind_eq_some_iff] at hx
  obtain ⟨y,h1,p,h2,cs,h3,z,h4,h5⟩ := hx
  obtain ⟨G,hG,e⟩ := Oo h2 (hs.tm t y h1)
  obtain ⟨G',vs,t',g1,_,⟨us,g2,_⟩,g3,g4⟩ := hs.bx (p.1,cs) (Zt h3)
  rw [hG] at g1
  cases g1
  obtain ⟨u,hu,hv⟩ := Ri g2 h4 g4
  refine ⟨u,?_,one h5 hv⟩
  show (asAddr (a.tmps.getD t undef) >>= fun q => loadVar ty q : Sem Value).run S.P w=_
  rw [e]
  exact hu
theorem Bw {s : St} {γ : Nat→Option Nat} {a : Act} {w : World} (hs : Stt S E w0 n s γ a w) : ∀ {l : List ResultVar} {xs : List A1},ZO (Ew S.P s) l=some xs→∃ us : List Value,(l.mapM (Nf a.tmps)).run S.P w=.ok us w∧A2 (a1On (cOn E S.K γ w)) xs us
 | [],_,h => by
  cases h
  exact ⟨[],rfl,trivial⟩
 | v :: l,xs,h => by
  unfold ZO at h
  simp only [Option.bind_eq_some_iff,Option.map_eq_some_iff] at h
  obtain ⟨x,h1,ys,h2,rfl⟩ := h
  obtain ⟨u,hu,hx⟩ := res_run hs h1
  obtain ⟨us,hus,hxs⟩ := Bw hs h2
  refine ⟨u :: us,?_,hx,hxs⟩
  rw [List.mapM_cons,Sem.run_bind,hu]
  show ((l.mapM (Nf a.tmps)) >>= fun ys => pure (u :: ys) : Sem (List Value)).run S.P w=_
  rw [Sem.run_bind,hus]
  rfl
theorem tup_on {R : AC→Value→Prop} {xs : List A1} {us : List Value} (h : A2 (a1On R) xs us) : avOn R (tupB xs) (if hh : us.toArray.size=1 then us.toArray[0] else .tuple us.toArray) := by
 match xs,us,h with
 | [],[],h => exact ⟨[],rfl,h⟩
 | [x],[u],h => exact h
 | x :: y :: xs,u :: v :: us,h => exact ⟨u :: v :: us,by simp,h⟩
theorem Sd {fn : Func} {s : St} {γ : Nat→Option Nat} {a : Act} {w : World} (hs : Stt S E w0 n s γ a w) {xs : List A1} (hx : ZO (Ew S.P s) fn.results.toList=some xs) : ∃ v,(results fn a.tmps).run S.P w=.ok v w∧avOn (cOn E S.K γ w) (tupB xs) v := by
 obtain ⟨us,hu,hA⟩ := Bw hs hx
 refine ⟨_,?_,tup_on hA⟩
 have e : results fn a.tmps=(fn.results.mapM (Nf a.tmps) >>= fun vs => pure (if h : vs.size=1 then vs[0] else .tuple vs)) := by
  unfold results
  congr 1
 have e2 : fn.results.mapM (Nf a.tmps)=List.toArray <$> (fn.results.toList.mapM (Nf a.tmps)) := by
  rw [← List.mapM_toArray]
 rw [e,Sem.run_bind,e2,Sem.run_map,hu]
 rfl
theorem Pe : ∀ {args : List AV} {i t : Nat} {v : AV},VP t (Mt i args)=some v→i≤t∧args[t - i]? = some v
 | [],_,_,_,h => by cases h
 | a :: args,i,t,v,h => by
  unfold Mt VP at h
  cases e : Nat.beq t i with
  | true =>
   rw [e] at h
   cases h
   rw [Nat.beq_eq] at e
   subst e
   exact ⟨Nat.le_refl _,by simp⟩
  | false =>
   rw [e] at h
   obtain ⟨h1,h2⟩ := Pe (args := args) h
   refine ⟨by omega,?_⟩
   rw [show t - i=t - (i+1)+1 by omega]
   simpa using h2
theorem Fb (hm : S.P.follows .mixedOrders=true) (N : Knows S E) (hP : Oq S E w0) : ∀ k,IB S E w0 (GN S k)
 | 0 => fun _ _ _ _ _ h => by cases h
 | k+1 => fun f args h nx p hp γ w vs hi hA hb hlt hf => by
  unfold GN at hp
  simp only [Option.bind_eq_some_iff,ifO_some,Option.map_eq_some_iff,Nat.ble_eq] at hp
  obtain ⟨fn,h1,c,h2,h3,⟨e,s'⟩,h4,h5,xs,h6,rfl⟩ := hp
  dsimp only at h5 h6
  rcases (show e=0 ∨ e=1 by omega) with rfl | rfl
  all_goals
   obtain ⟨_,_,r⟩ := Uo hm N hP (Fb hm N hP k) c _ _ _ h4
   refine calls_of_wp h1 h2 (r γ _ w _ ⟨hi,fun t v q => ?_,hb,hlt,?_,rfl⟩ hf fun a' w' γ' hef hs => ?_)
   ·obtain ⟨_,q2⟩ := Pe q
    rw [Nat.sub_zero] at q2
    obtain ⟨u,hu,hv⟩ := hA.get q2
    have hlt : t < vs.length := (List.getElem?_eq_some_iff.1 hu).1
    have : (vs.toArray ++ Array.replicate (fn.ntmps - vs.toArray.size) undef).getD t undef=u := by
     rw [Array.getD_eq_getD_getElem?,Array.getElem?_append_left (by simpa using hlt)]
     simp [hu]
    show avOn _ v ((vs.toArray ++ Array.replicate (fn.ntmps - vs.toArray.size) undef).getD t undef)
    rw [this]
    exact hv
   ·have := hA.len
    simp
    omega
   ·obtain ⟨v,hv,hx⟩ := Sd hs h6
    exact ⟨hs.df,v,hv,v,γ',rfl,hef,hx,hs.bx⟩
end
end Cx
/- QSD -/
namespace Go.Proofs.YthhnabccdehmgaaGreatDoor
open Go.RowKit Cx
theorem QS.div {k l : Nat} {a b : Rat} (h1 : QS k a) (h2 : QS l b) : QS (k+l) (a / b) := by
 rw [Rat.div_def]
 by_cases h0 : b.num=0
 ·rw [Rat.num_eq_zero.1 h0,Rat.inv_zero,Rat.mul_zero]
  exact QS.zero.mono (by have := h1.pos; omega)
 ·exact h1.mul (h2.inv h0)
end Go.Proofs.YthhnabccdehmgaaGreatDoor
/- MathX -/
namespace Cx
open Go
def gN (qs : List Rat) : Nat := qs.foldl (fun g q => Nat.gcd g q.num.natAbs) 0
def lD (qs : List Rat) : Nat := qs.foldl (fun m q => m*(q.den / Nat.gcd m q.den)) 1
def fb : List Rat→Bool
 | [] => false
 | q :: r => if q.num=0 then fb r else decide (q.num < 0)
def pl (G M : Nat) (flip : Bool) (q : Rat) : Rat := ((sg (decide (q.num < 0) != flip) (q.num.natAbs / G*(M / q.den)) : Int) : Rat)
def plain (qs : List Rat) : List Rat := qs.map (pl (gN qs) (lD qs) (fb qs))
theorem lD_take {qs : List Rat} {k : Nat} (h : k < qs.length) : lD (qs.take (k+1))=lD (qs.take k)*((qs[k]).den / Nat.gcd (lD (qs.take k)) (qs[k]).den) := by
 unfold lD; rw [List.take_succ_eq_append_getElem h,List.foldl_append]; rfl
theorem EO (l : List Rat) (g : Nat) : (l.foldl (fun g q => Nat.gcd g q.num.natAbs) g) ∣ g∧∀ q ∈ l,(l.foldl (fun g q => Nat.gcd g q.num.natAbs) g) ∣ q.num.natAbs := by
 induction l generalizing g with
 | nil => exact ⟨Nat.dvd_refl _,fun q hq => by simp at hq⟩
 | cons a l ih =>
  obtain ⟨h1,h2⟩ := ih (Nat.gcd g a.num.natAbs)
  refine ⟨Nat.dvd_trans h1 (Nat.gcd_dvd_left _ _),fun q hq => ?_⟩
  rcases List.mem_cons.1 hq with rfl | hq
  ·exact Nat.dvd_trans h1 (Nat.gcd_dvd_right _ _)
  ·exact h2 q hq
theorem NI {qs : List Rat} {q : Rat} (h : q ∈ qs) : gN qs ∣ q.num.natAbs := (EO qs 0).2 q h
theorem EM (l : List Rat) (m : Nat) : m ∣ (l.foldl (fun m q => m*(q.den / Nat.gcd m q.den)) m)∧∀ q ∈ l,q.den ∣ (l.foldl (fun m q => m*(q.den / Nat.gcd m q.den)) m) := by
 induction l generalizing m with
 | nil => exact ⟨Nat.dvd_refl _,fun q hq => by simp at hq⟩
 | cons a l ih =>
  obtain ⟨h1,h2⟩ := ih (m*(a.den / Nat.gcd m a.den))
  refine ⟨Nat.dvd_trans (Nat.dvd_mul_right _ _) h1,fun q hq => ?_⟩
  rcases List.mem_cons.1 hq with rfl | hq
  ·refine Nat.dvd_trans ?_ h1
   have : Nat.gcd m q.den ∣ m := Nat.gcd_dvd_left _ _
   obtain ⟨c,hc⟩ := this
   obtain ⟨d,hd⟩ := Nat.gcd_dvd_right m q.den
   have hg : 0 < Nat.gcd m q.den := Nat.gcd_pos_of_pos_right _ (Nat.pos_of_ne_zero q.den_nz)
   generalize Nat.gcd m q.den=g at *
   rw [hd,Nat.mul_div_cancel_left _ hg,hc]
   exact ⟨c,by grind⟩
  ·exact h2 q hq
theorem lD_dvd {qs : List Rat} {q : Rat} (h : q ∈ qs) : q.den ∣ lD qs := (EM qs 1).2 q h
theorem gN_pos {qs : List Rat} {q : Rat} (h : q ∈ qs) (h0 : q.num ≠ 0) : 0 < gN qs := by
 rcases Nat.eq_zero_or_pos (gN qs) with e | e
 ·have := NI h
  rw [e] at this
  have := Nat.eq_zero_of_zero_dvd this
  omega
 ·exact e
theorem lD_le {K : Nat} {qs : List Rat} (h : ∀ q ∈ qs,Go.Proofs.YthhnabccdehmgaaGreatDoor.QS K q) : ∀ k,lD (qs.take k)≤2 ^ (k*K)
 | 0 => by simp [lD]
 | k+1 => by
  have ih := lD_le h k
  by_cases hk : k < qs.length
  ·rw [lD_take hk,Nat.succ_mul,Nat.pow_add]
   refine Nat.mul_le_mul ih (Nat.le_trans (Nat.div_le_self _ _) (Nat.le_of_lt (h _ (List.getElem_mem hk)).den))
  ·rw [List.take_of_length_le (by omega)]
   rw [List.take_of_length_le (by omega)] at ih
   exact Nat.le_trans ih (Nat.pow_le_pow_right (by decide) (by rw [Nat.succ_mul]; omega))
theorem pl_zero (G M : Nat) (flip : Bool) {q : Rat} (h : q.num=0) : pl G M flip q=0 := by
 unfold pl
 rw [h]
 simp [sg]
def fac (qs : List Rat) : Rat := mkRat (sg (fb qs) (lD qs)) (gN qs)
theorem Np {qs : List Rat} {q : Rat} (h : q ∈ qs) : pl (gN qs) (lD qs) (fb qs) q=q*fac qs := by
 by_cases h0 : q.num=0
 ·rw [pl_zero _ _ _ h0,Rat.num_eq_zero.1 h0,Rat.zero_mul]
 ·have hg := gN_pos h h0
  obtain ⟨a,ha⟩ := NI h
  obtain ⟨b,hb⟩ := lD_dvd h
  have hd : 0 < q.den := Nat.pos_of_ne_zero q.den_nz
  unfold pl fac
  generalize gN qs=G at *
  generalize lD qs=M at *
  rw [ha,Nat.mul_div_cancel_left _ hg,hb,Nat.mul_div_cancel_left _ hd]
  have eq : q=mkRat (sg (decide (q.num < 0)) (G*a)) q.den := by rw [← ha,Ol,Rat.mkRat_self]
  have e1 : ((sg (decide (q.num < 0) != fb qs) (a*b) : Int) : Rat)=mkRat (sg (decide (q.num < 0) != fb qs) (a*b)) 1 := (Rat.mkRat_one _).symm
  rw [e1]
  conv => rhs; lhs; rw [eq]
  rw [Rat.mkRat_mul_mkRat,Rat.mkRat_eq_iff (by decide) (Nat.mul_ne_zero q.den_nz (by omega))]
  generalize decide (q.num < 0)=s
  generalize fb qs=t
  have c1 : ((q.den*G : Nat) : Int)=(q.den : Int)*G := Int.natCast_mul _ _
  rw [c1]
  have m1 : ((a*b : Nat) : Int)=(a : Int)*b := Int.natCast_mul _ _
  have m2 : ((G*a : Nat) : Int)=(G : Int)*a := Int.natCast_mul _ _
  have m3 : ((q.den*b : Nat) : Int)=(q.den : Int)*b := Int.natCast_mul _ _
  generalize (q.den : Int)=D at *
  cases s <;> cases t <;> simp only [sg,bne_self_eq_false,Bool.false_eq_true,if_false,if_true,m1,m2,m3,Bool.true_bne,Bool.false_bne,Bool.not_false] <;> grind
end Cx
/- WK -/
namespace Go.Proofs.YthhnabccdehmgaaGreatDoor
open Go.RowKit Cx
attribute [local go_sem ↓] Go.wp_at_zero Go.wp_at_succ
end Go.Proofs.YthhnabccdehmgaaGreatDoor
/- WL -/
namespace Go.Proofs.YthhnabccdehmgaaGreatDoor
open Go.RowKit Cx
attribute [local go_sem ↓] Go.wp_at_zero Go.wp_at_succ
end Go.Proofs.YthhnabccdehmgaaGreatDoor
/- BN -/
namespace Go.Proofs.YthhnabccdehmgaaGreatDoor
open Go.RowKit Cx
attribute [local go_sem ↓] Go.wp_at_zero Go.wp_at_succ
theorem Jy {w : World} {ao : Option Addr} {c n : Nat} (h : NatN w (.slice ao 1 c) n) : ∃ b o,(∀ wx,(Instr.indexAt 30 (.slice ao 1 c) (.int .i64 0)).run Tryz.prog wx=.ok (.pointer (some ⟨b,o,none⟩)) wx)∧w.cell? ⟨b,o,none⟩=some (.int .u32 (n : Int))∧b < w.heap.size∧n < 4294967296 := by
 obtain ⟨l,hl,t,rfl⟩ := h
 obtain ⟨ao',c',b,o,e,sl⟩ := hl.sl32
 simp only [Value.slice.injEq] at e
 obtain ⟨rfl,hlen,rfl⟩ := e
 obtain ⟨x,rfl⟩ := List.length_eq_one_iff.1 hlen.symm
 have e1 : val [x]=x := by simp [val]
 rw [e1]
 exact ⟨b,o,sl.idx 0 (by simp),sl.seg 0 (by simp),sl.lt (by simp),sl.lim.head⟩
theorem XL {w : World} {ao : Option Addr} {l c n : Nat} (h : NatN w (.slice ao l c) n) (hl : l ≠ 1) : n ≠ 1 := by
 obtain ⟨ls,hv,t,rfl⟩ := h
 obtain ⟨ao',c',b,o,e,sl⟩ := hv.sl32
 cases e
 intro h
 by_cases h0 : ls.length=0
 ·rw [List.length_eq_zero_iff.1 h0,Ul] at h
  omega
 ·have h1 := UZ t (show val ls < pw 1 by rw [h]; decide)
  omega
theorem Nm {z : Int} {b : Nat} (hb : 0 < b) : decide ((mkRat z b).num < 0)=decide (z < 0)∧(mkRat z b).num.natAbs=z.natAbs / Nat.gcd z.natAbs b∧(mkRat z b).den=b / Nat.gcd z.natAbs b := by
 rw [Rat.mkRat_def,dif_neg (by omega),Rat.normalize_eq]
 have hG : 0 < Nat.gcd z.natAbs b := Nat.gcd_pos_of_pos_right _ hb
 obtain ⟨k,hk⟩ : (Nat.gcd z.natAbs b : Int) ∣ z := Int.ofNat_dvd_left.2 (Nat.gcd_dvd_left _ _)
 show decide (z / (Nat.gcd z.natAbs b : Int) < 0)=_∧(z / (Nat.gcd z.natAbs b : Int)).natAbs=_∧b / Nat.gcd z.natAbs b=b / Nat.gcd z.natAbs b
 generalize Nat.gcd z.natAbs b=G at *
 have e1 : z / (G : Int)=k := by rw [hk,Int.mul_ediv_cancel_left _ (by omega)]
 have e2 : z.natAbs / G=k.natAbs := by rw [hk,Int.natAbs_mul,Int.natAbs_natCast,Nat.mul_div_cancel_left _ hG]
 rw [e1,e2]
 refine ⟨?_,rfl,rfl⟩
 have hGi : (0 : Int) < G := by omega
 by_cases h : k < 0
 ·have := Int.mul_neg_of_pos_of_neg hGi h
  rw [← hk] at this
  simp [h,this]
 ·have := Int.mul_nonneg (Int.le_of_lt hGi) (Int.not_lt.1 h)
  rw [← hk] at this
  simp [h,Int.not_lt.2 this]
theorem RV.mk {w : World} {g : Nat} {z : Int} {b : Nat} {a1 a2 : Option Addr} {l1 c1 l2 c2 : Nat} (hb : 0 < b) (hk : Blk w g #[.bool (decide (z < 0)),.slice a1 l1 c1,.bool false,.slice a2 l2 c2] 34) (h1 : NatN w (.slice a1 l1 c1) (z.natAbs / Nat.gcd z.natAbs b)) (h2 : NatN w (.slice a2 l2 c2) (b / Nat.gcd z.natAbs b)) : RV w g (mkRat z b) := by
 obtain ⟨e1,e2,e3⟩ := Nm (z := z) hb
 exact ⟨a1,l1,c1,a2,l2,c2,by rw [e1]; exact hk,by rw [e2]; exact h1,Or.inl (by rw [e3]; exact h2)⟩
theorem MU {w : World} {g : Nat} {a1 a2 : Option Addr} {l1 c1 l2 c2 b : Nat} {z : Int} (hk : Blk w g #[.bool (decide (z < 0)),.slice a1 l1 c1,.bool false,.slice a2 l2 c2] 34) (ha : NatN w (.slice a1 l1 c1) z.natAbs) (hb : NatN w (.slice a2 l2 c2) b) (hb0 : 0 < b) (sa : Small z.natAbs) (sb : Small b) :
  Calls Tryz.prog 85 #[.pointer (some ⟨g,0,none⟩)] w fun e w' => e=.returned (.pointer (some ⟨g,0,none⟩))∧Save g w w'∧RV w' g (mkRat z b) := by
 obtain ⟨_,_,_,ea,hal,habig,haz⟩ := QL ha
 obtain ⟨_,_,_,eb,hbl,hbbig,hbz⟩ := QL hb
 cases ea
 cases eb
 have hl2 : l2 ≠ 0 := fun h => by have := hbz.1 h; omega
 have hne : ((l2 : Int) == 0)=false := beq_eq_false_iff_ne.mpr (by omega)
 have HK := Qb hk
 have HA := Qb ha
 have HB := Qb hb
 have SA := Qb sa
 have SB := Qb sb
 have HZ := Qb haz
 obtain ⟨x0,x1,x2,x3⟩ : w.cell? ⟨g,0,none⟩=_∧w.cell? ⟨g,1,none⟩=_∧w.cell? ⟨g,2,none⟩=_∧w.cell? ⟨g,3,none⟩=_ := ⟨hk.cell 0,hk.cell 1,hk.cell 2,hk.cell 3⟩
 clear hk ha hb sa sb habig hbbig haz hbz
 by_cases h1 : l1=0
 ·have hz : z=0 := by have := HZ.out.1 h1; omega
  subst h1
  subst hz
  have hat : At2 w g 2 := ⟨⟨_,HK.out.cell 2⟩,⟨_,HK.out.cell 3⟩,HK.out.frozen 2,HK.out.frozen 3,HK.out.lt⟩
  have HAT := Qb hat
  clear hat
  go_enter Tryz.func85,Tryz.ntmps85
  go_wp2_with fail
  refine (YF 1 (by decide) HAT.out).mono ?_
  rintro e w1 ⟨rfl,wz,ao,n,c,hbl1,rfl,hn⟩
  have HN := Qb hn
  have HB1 := Qb hbl1
  clear hn hbl1
  go_wp2
  go_ret
  have hkz := HK.out.below HB1.out HK.out.lt
  refine ⟨rfl,((Save.of HB1.out).set _ _).set _ _,a1,0,c1,ao,n,c,?_,?_,Or.inl ?_⟩
  ·have := (hkz.set 3 (.slice ao n c)).set 2 (.bool (decide (((1 : Nat) : Int) < 0)))
   simpa using this
  ·have := (HA.out.below HB1.out).two (g := g) (i := 3) (j := 2) (x := .slice ao n c) (y := .bool (decide (((1 : Nat) : Int) < 0))) ⟨_,_,hkz,by simp [Qk]⟩ rfl
   simpa using this
  ·have := HN.out.two (g := g) (i := 3) (j := 2) (x := .slice ao n c) (y := .bool (decide (((1 : Nat) : Int) < 0))) ⟨_,_,hkz,by simp [Qk]⟩ rfl
   simpa using this
 ·have hne1 : ((l1 : Int) == 0)=false := beq_eq_false_iff_ne.mpr (by omega)
  by_cases hone : b=1
  ·have hl21 : l2=1 := by
    by_cases h : l2=1
    ·exact h
    ·exact absurd hone (XL HB.out h)
   subst hl21
   obtain ⟨b3,o3,hi3,hc3,hlt3,hs3⟩ := Jy HB.out
   rw [hone] at hc3
   go_enter Tryz.func85,Tryz.ntmps85
   go_wp2
   go_ret
   refine ⟨rfl,Save.of (Below.refl _ _),RV.mk hb0 HK.out ?_ ?_⟩
   ·rw [hone,Nat.gcd_one_right,Nat.div_one]; exact HA.out
   ·rw [show b / Nat.gcd z.natAbs b=b by rw [hone,Nat.gcd_one_right,Nat.div_one]]; exact HB.out
  ·by_cases hl21 : l2=1
   ·subst hl21
    obtain ⟨b3,o3,hi3,hc3,hlt3,hs3⟩ := Jy HB.out
    have hne3 : ((b : Int) == 1)=false := beq_eq_false_iff_ne.mpr (by omega)
    go_enter Tryz.func85,Tryz.ntmps85
    go_wp2_with fail
    have HS : Hid (∀ w',Below w.heap.size w w'→w'.cell? ⟨g,1,none⟩=some (.slice a1 l1 c1)∧w'.cell? ⟨g,3,none⟩=some (.slice a2 1 c2)) := fun w' hb => ⟨(HK.out.below hb HK.out.lt).cell 1,(HK.out.below hb HK.out.lt).cell 3⟩
    go_region_held3 (fun w' => w'.cell? ⟨g,1,none⟩=some (.slice a1 l1 c1)∧w'.cell? ⟨g,3,none⟩=some (.slice a2 1 c2)) (first | go_keep | exact hs1)
     (first
      | (go_at_call 130; refine (Xh (w := w.drew) (HA.out.below (Below.drew (Below.refl _ _))) (HB.out.below (Below.drew (Below.refl _ _))) SA.out SB.out).mono ?_; rintro e w1 ⟨hb0',vg,rfl,hvg⟩; obtain ⟨ag,lg,cg,rfl,hgl,_,hgz⟩ := QL hvg; have hb1 : Below w.heap.size w w1 := (Below.drew (Below.refl _ w)).trans hb0'; have hs1 := HS.out w1 hb1; clear hb0'))
    clear hs1
    have HG := Qb hvg
    have HB1 := Qb hb1
    have HK1 := Qb (HK.out.below hb1 HK.out.lt)
    obtain ⟨k0,k1,k2,k3⟩ : w1.cell? ⟨g,0,none⟩=_∧w1.cell? ⟨g,1,none⟩=_∧w1.cell? ⟨g,2,none⟩=_∧w1.cell? ⟨g,3,none⟩=_ := ⟨HK1.out.cell 0,HK1.out.cell 1,HK1.out.cell 2,HK1.out.cell 3⟩
    have hG0 : 0 < Nat.gcd z.natAbs b := Nat.gcd_pos_of_pos_right _ hb0
    have HSG : Hid (Small (Nat.gcd z.natAbs b)) := Yz SB.out (Nat.le_of_dvd hb0 (Nat.gcd_dvd_right _ _))
    clear hvg hb1 hgz x0 x1 x2 x3
    by_cases hg1 : Nat.gcd z.natAbs b=1
    ·have hlg : lg=1 := by
      by_cases h : lg=1
      ·exact h
      ·exact absurd hg1 (XL HG.out h)
     subst hlg
     obtain ⟨b4,o4,hi4,hc4,hlt4,hs4⟩ := Jy HG.out
     rw [hg1] at hc4
     go_wp2
     go_ret
     refine ⟨rfl,Save.of HB1.out,RV.mk hb0 HK1.out ?_ ?_⟩
     ·rw [hg1,Nat.div_one]; exact HA.out.below HB1.out
     ·rw [hg1,Nat.div_one]; exact HB.out.below HB1.out
    ·by_cases hlg : lg=1
     ·subst hlg
      obtain ⟨b4,o4,hi4,hc4,hlt4,hs4⟩ := Jy HG.out
      have hne4 : ((Nat.gcd z.natAbs b : Int) == 1)=false := beq_eq_false_iff_ne.mpr (by omega)
      go_wp2_with fail
      refine (QO (HA.out.below HB1.out) HG.out SA.out HSG.out hG0).mono ?_
      rintro e w2 ⟨hb2,vp,vr,rfl,hvp,_⟩
      obtain ⟨ap,lp,cp,rfl,hpl,_,_⟩ := QL hvp
      have hbl2 := HB1.out.trans (hb2.mono HB1.out.size)
      have HP := Qb hvp
      have HG2 := Qb (HG.out.below hb2)
      have HK2 := Qb (HK1.out.below hb2 HK1.out.lt)
      have HB2 := Qb hbl2
      obtain ⟨m0,m1,m2,m3⟩ : w2.cell? ⟨g,0,none⟩=_∧w2.cell? ⟨g,1,none⟩=_∧w2.cell? ⟨g,2,none⟩=_∧w2.cell? ⟨g,3,none⟩=_ := ⟨HK2.out.cell 0,HK2.out.cell 1,HK2.out.cell 2,HK2.out.cell 3⟩
      clear hvp hb2 hbl2 k0 k1 k2 k3
      go_wp2_with fail
      refine (QO (HB.out.below HB2.out) HG2.out SB.out HSG.out hG0).mono ?_
      rintro e w3 ⟨hb3,vq,vr2,rfl,hvq,_⟩
      obtain ⟨aq,lq,cq,rfl,hql,_,_⟩ := QL hvq
      have HQ := Qb hvq
      have HP3 := Qb (HP.out.below hb3)
      have HK3 := Qb (HK2.out.below hb3 HK2.out.lt)
      have HB3 := Qb (HB2.out.trans (hb3.mono HB2.out.size))
      have q1 := HK3.out.cell 1
      have f1 := HK3.out.frozen 1
      have HK4 := Qb (HK3.out.set 1 (.slice ap lp cp))
      have q3 := HK4.out.cell 3
      have f3 := HK4.out.frozen 3
      clear hvq hb3 m0 m1 m2 m3
      go_wp2
      go_ret
      have hh : XY w3 g := ⟨_,_,HK3.out,by simp [Qk]⟩
      refine ⟨rfl,((Save.of HB3.out).set _ _).set _ _,RV.mk hb0 (by have := HK4.out.set 3 (.slice aq lq cq); simpa using this) (HP3.out.two hh rfl) (HQ.out.two hh rfl)⟩
     ·have hne4 : ((lg : Int) == 1)=false := beq_eq_false_iff_ne.mpr (by omega)
      go_wp2_with fail
      refine (QO (HA.out.below HB1.out) HG.out SA.out HSG.out hG0).mono ?_
      rintro e w2 ⟨hb2,vp,vr,rfl,hvp,_⟩
      obtain ⟨ap,lp,cp,rfl,hpl,_,_⟩ := QL hvp
      have hbl2 := HB1.out.trans (hb2.mono HB1.out.size)
      have HP := Qb hvp
      have HG2 := Qb (HG.out.below hb2)
      have HK2 := Qb (HK1.out.below hb2 HK1.out.lt)
      have HB2 := Qb hbl2
      obtain ⟨m0,m1,m2,m3⟩ : w2.cell? ⟨g,0,none⟩=_∧w2.cell? ⟨g,1,none⟩=_∧w2.cell? ⟨g,2,none⟩=_∧w2.cell? ⟨g,3,none⟩=_ := ⟨HK2.out.cell 0,HK2.out.cell 1,HK2.out.cell 2,HK2.out.cell 3⟩
      clear hvp hb2 hbl2 k0 k1 k2 k3
      go_wp2_with fail
      refine (QO (HB.out.below HB2.out) HG2.out SB.out HSG.out hG0).mono ?_
      rintro e w3 ⟨hb3,vq,vr2,rfl,hvq,_⟩
      obtain ⟨aq,lq,cq,rfl,hql,_,_⟩ := QL hvq
      have HQ := Qb hvq
      have HP3 := Qb (HP.out.below hb3)
      have HK3 := Qb (HK2.out.below hb3 HK2.out.lt)
      have HB3 := Qb (HB2.out.trans (hb3.mono HB2.out.size))
      have q1 := HK3.out.cell 1
      have f1 := HK3.out.frozen 1
      have HK4 := Qb (HK3.out.set 1 (.slice ap lp cp))
      have q3 := HK4.out.cell 3
      have f3 := HK4.out.frozen 3
      clear hvq hb3 m0 m1 m2 m3
      go_wp2
      go_ret
      have hh : XY w3 g := ⟨_,_,HK3.out,by simp [Qk]⟩
      refine ⟨rfl,((Save.of HB3.out).set _ _).set _ _,RV.mk hb0 (by have := HK4.out.set 3 (.slice aq lq cq); simpa using this) (HP3.out.two hh rfl) (HQ.out.two hh rfl)⟩
   ·have hne3 : ((l2 : Int) == 1)=false := beq_eq_false_iff_ne.mpr (by omega)
    go_enter Tryz.func85,Tryz.ntmps85
    go_wp2_with fail
    have HS : Hid (∀ w',Below w.heap.size w w'→w'.cell? ⟨g,1,none⟩=some (.slice a1 l1 c1)∧w'.cell? ⟨g,3,none⟩=some (.slice a2 l2 c2)) := fun w' hb => ⟨(HK.out.below hb HK.out.lt).cell 1,(HK.out.below hb HK.out.lt).cell 3⟩
    go_region_held3 (fun w' => w'.cell? ⟨g,1,none⟩=some (.slice a1 l1 c1)∧w'.cell? ⟨g,3,none⟩=some (.slice a2 l2 c2)) (first | go_keep | exact hs1)
     (first
      | (go_at_call 130; refine (Xh (w := w.drew) (HA.out.below (Below.drew (Below.refl _ _))) (HB.out.below (Below.drew (Below.refl _ _))) SA.out SB.out).mono ?_; rintro e w1 ⟨hb0',vg,rfl,hvg⟩; obtain ⟨ag,lg,cg,rfl,hgl,_,hgz⟩ := QL hvg; have hb1 : Below w.heap.size w w1 := (Below.drew (Below.refl _ w)).trans hb0'; have hs1 := HS.out w1 hb1; clear hb0'))
    clear hs1
    have HG := Qb hvg
    have HB1 := Qb hb1
    have HK1 := Qb (HK.out.below hb1 HK.out.lt)
    obtain ⟨k0,k1,k2,k3⟩ : w1.cell? ⟨g,0,none⟩=_∧w1.cell? ⟨g,1,none⟩=_∧w1.cell? ⟨g,2,none⟩=_∧w1.cell? ⟨g,3,none⟩=_ := ⟨HK1.out.cell 0,HK1.out.cell 1,HK1.out.cell 2,HK1.out.cell 3⟩
    have hG0 : 0 < Nat.gcd z.natAbs b := Nat.gcd_pos_of_pos_right _ hb0
    have HSG : Hid (Small (Nat.gcd z.natAbs b)) := Yz SB.out (Nat.le_of_dvd hb0 (Nat.gcd_dvd_right _ _))
    clear hvg hb1 hgz x0 x1 x2 x3
    by_cases hg1 : Nat.gcd z.natAbs b=1
    ·have hlg : lg=1 := by
      by_cases h : lg=1
      ·exact h
      ·exact absurd hg1 (XL HG.out h)
     subst hlg
     obtain ⟨b4,o4,hi4,hc4,hlt4,hs4⟩ := Jy HG.out
     rw [hg1] at hc4
     go_wp2
     go_ret
     refine ⟨rfl,Save.of HB1.out,RV.mk hb0 HK1.out ?_ ?_⟩
     ·rw [hg1,Nat.div_one]; exact HA.out.below HB1.out
     ·rw [hg1,Nat.div_one]; exact HB.out.below HB1.out
    ·by_cases hlg : lg=1
     ·subst hlg
      obtain ⟨b4,o4,hi4,hc4,hlt4,hs4⟩ := Jy HG.out
      have hne4 : ((Nat.gcd z.natAbs b : Int) == 1)=false := beq_eq_false_iff_ne.mpr (by omega)
      go_wp2_with fail
      refine (QO (HA.out.below HB1.out) HG.out SA.out HSG.out hG0).mono ?_
      rintro e w2 ⟨hb2,vp,vr,rfl,hvp,_⟩
      obtain ⟨ap,lp,cp,rfl,hpl,_,_⟩ := QL hvp
      have hbl2 := HB1.out.trans (hb2.mono HB1.out.size)
      have HP := Qb hvp
      have HG2 := Qb (HG.out.below hb2)
      have HK2 := Qb (HK1.out.below hb2 HK1.out.lt)
      have HB2 := Qb hbl2
      obtain ⟨m0,m1,m2,m3⟩ : w2.cell? ⟨g,0,none⟩=_∧w2.cell? ⟨g,1,none⟩=_∧w2.cell? ⟨g,2,none⟩=_∧w2.cell? ⟨g,3,none⟩=_ := ⟨HK2.out.cell 0,HK2.out.cell 1,HK2.out.cell 2,HK2.out.cell 3⟩
      clear hvp hb2 hbl2 k0 k1 k2 k3
      go_wp2_with fail
      refine (QO (HB.out.below HB2.out) HG2.out SB.out HSG.out hG0).mono ?_
      rintro e w3 ⟨hb3,vq,vr2,rfl,hvq,_⟩
      obtain ⟨aq,lq,cq,rfl,hql,_,_⟩ := QL hvq
      have HQ := Qb hvq
      have HP3 := Qb (HP.out.below hb3)
      have HK3 := Qb (HK2.out.below hb3 HK2.out.lt)
      have HB3 := Qb (HB2.out.trans (hb3.mono HB2.out.size))
      have q1 := HK3.out.cell 1
      have f1 := HK3.out.frozen 1
      have HK4 := Qb (HK3.out.set 1 (.slice ap lp cp))
      have q3 := HK4.out.cell 3
      have f3 := HK4.out.frozen 3
      clear hvq hb3 m0 m1 m2 m3
      go_wp2
      go_ret
      have hh : XY w3 g := ⟨_,_,HK3.out,by simp [Qk]⟩
      refine ⟨rfl,((Save.of HB3.out).set _ _).set _ _,RV.mk hb0 (by have := HK4.out.set 3 (.slice aq lq cq); simpa using this) (HP3.out.two hh rfl) (HQ.out.two hh rfl)⟩
     ·have hne4 : ((lg : Int) == 1)=false := beq_eq_false_iff_ne.mpr (by omega)
      go_wp2_with fail
      refine (QO (HA.out.below HB1.out) HG.out SA.out HSG.out hG0).mono ?_
      rintro e w2 ⟨hb2,vp,vr,rfl,hvp,_⟩
      obtain ⟨ap,lp,cp,rfl,hpl,_,_⟩ := QL hvp
      have hbl2 := HB1.out.trans (hb2.mono HB1.out.size)
      have HP := Qb hvp
      have HG2 := Qb (HG.out.below hb2)
      have HK2 := Qb (HK1.out.below hb2 HK1.out.lt)
      have HB2 := Qb hbl2
      obtain ⟨m0,m1,m2,m3⟩ : w2.cell? ⟨g,0,none⟩=_∧w2.cell? ⟨g,1,none⟩=_∧w2.cell? ⟨g,2,none⟩=_∧w2.cell? ⟨g,3,none⟩=_ := ⟨HK2.out.cell 0,HK2.out.cell 1,HK2.out.cell 2,HK2.out.cell 3⟩
      clear hvp hb2 hbl2 k0 k1 k2 k3
      go_wp2_with fail
      refine (QO (HB.out.below HB2.out) HG2.out SB.out HSG.out hG0).mono ?_
      rintro e w3 ⟨hb3,vq,vr2,rfl,hvq,_⟩
      obtain ⟨aq,lq,cq,rfl,hql,_,_⟩ := QL hvq
      have HQ := Qb hvq
      have HP3 := Qb (HP.out.below hb3)
      have HK3 := Qb (HK2.out.below hb3 HK2.out.lt)
      have HB3 := Qb (HB2.out.trans (hb3.mono HB2.out.size))
      have q1 := HK3.out.cell 1
      have f1 := HK3.out.frozen 1
      have HK4 := Qb (HK3.out.set 1 (.slice ap lp cp))
      have q3 := HK4.out.cell 3
      have f3 := HK4.out.frozen 3
      clear hvq hb3 m0 m1 m2 m3
      go_wp2
      go_ret
      have hh : XY w3 g := ⟨_,_,HK3.out,by simp [Qk]⟩
      refine ⟨rfl,((Save.of HB3.out).set _ _).set _ _,RV.mk hb0 (by have := HK4.out.set 3 (.slice aq lq cq); simpa using this) (HP3.out.two hh rfl) (HQ.out.two hh rfl)⟩
end Go.Proofs.YthhnabccdehmgaaGreatDoor
/- BO -/
namespace Go.Proofs.YthhnabccdehmgaaGreatDoor
open Go.RowKit Cx
attribute [local go_sem ↓] Go.wp_at_zero Go.wp_at_succ
theorem IV.apart {w : World} {p : Value} {z : Int} {g : Nat} (h : IV w p z) (hg : w.heap.size≤g) : Ym p g := by
 obtain ⟨g1,o1,_,_,_,rfl,_,_,_,hl⟩ := h
 intro g2 o2 t e
 cases e
 omega
theorem Zi {w : World} {g : Nat} {y0 y1 y2 y3 : Value} {pa pb : Value} {z : Int} {b : Nat} (hk : Blk w g #[y0,y1,y2,y3] 34) (hno : (#[y0,y1,y2,y3] : Array Value).all Qk=true) (ha : IV w pa z) (hb : IV w pb b) (hb0 : 0 < b) (sa : Small z.natAbs) (sb : Small b) :
  Calls Tryz.prog 40 #[.pointer (some ⟨g,0,none⟩),pa,pb] w fun e w' => e=.returned (.pointer (some ⟨g,0,none⟩))∧Save g w w'∧RV w' g (mkRat z b) := by
 have HA := Qb ha
 have HB := Qb hb
 obtain ⟨g2,o2,a2,n2,c2,rfl,z0,z1,z2,zl⟩ := hb
 have hn2 : n2 ≠ 0 := fun h => by
  obtain ⟨_,_,_,e,_,_,hz⟩ := QL z2
  cases e
  have := hz.1 h
  omega
 have hne : ((n2 : Int) == 0)=false := beq_eq_false_iff_ne.mpr (by omega)
 have HK := Qb hk
 have SA := Qb sa
 have SB := Qb sb
 clear hk ha sa sb z2
 go_enter Tryz.func40,Tryz.ntmps40
 go_wp2_with fail
 have hkp := Blk.new w #[.bool false,.slice none 0 0] 32
 have hbp := Qg w (.cells #[.bool false,.slice none 0 0] 32)
 refine (XE (At2.blk hkp) (HA.out.below hbp) (HA.out.apart (Nat.le_refl _)) SA.out).mono ?_
 rintro e w1 ⟨rfl,hg⟩
 obtain ⟨ho,hbl⟩ := hg.own hkp
 have hb1 := hbp.trans (hbl _ (Nat.le_refl _) hbp.size)
 obtain ⟨gp,hgp⟩ : ∃ gp,gp=w.heap.size := ⟨_,rfl⟩
 rw [← hgp] at ho ⊢
 have HOP := Qb ho
 have HB1 := Qb hb1
 have HGP := Qb hgp
 clear ho hbl hg hkp hbp hb1 hgp
 go_wp2_with fail
 have hkq := Blk.new w1 #[.bool false,.slice none 0 0] 32
 have hbq := Qg w1 (.cells #[.bool false,.slice none 0 0] 32)
 have HBq : Hid (Below w.heap.size w (w1.alloc (.cells #[.bool false,.slice none 0 0] 32))) := HB1.out.trans (hbq.mono HB1.out.size)
 refine (XE (x := (b : Int)) (At2.blk hkq) (HB.out.below HBq.out) (HB.out.apart HB1.out.size) (by simpa using SB.out)).mono ?_
 rintro e w2 ⟨rfl,hg⟩
 obtain ⟨ho,hbl⟩ := hg.own hkq
 have hb2 := hbq.trans (hbl _ (Nat.le_refl _) hbq.size)
 have HGQ : Hid (w.heap.size≤w1.heap.size) := HB1.out.size
 obtain ⟨gq,hgq⟩ : ∃ gq,gq=w1.heap.size := ⟨_,rfl⟩
 rw [← hgq] at ho HGQ ⊢
 have HOQ := Qb ho
 have HOP2 := Qb (HOP.out.below hb2)
 have HB2 := Qb (HB1.out.trans (hb2.mono HB1.out.size))
 have HK2 := Qb (HK.out.below HB2.out HK.out.lt)
 have HNG : Hid (g ≠ gp∧g ≠ gq) := by
  have h1 := HK.out.lt
  have h2 := HGQ.out
  have h3 := HGP.out
  constructor <;> omega
 clear ho hbl hg hkq hbq hb2 hgq
 obtain ⟨ap,np,cp,kp,hnp⟩ := HOP2.out
 obtain ⟨aq,nq,cq,kq,hnq⟩ := HOQ.out
 have HNP := Qb hnp
 have HNQ := Qb hnq
 obtain ⟨p0,p1,_⟩ := kp.all2
 obtain ⟨m0,m1,m2,m3⟩ : w2.cell? ⟨g,0,none⟩=_∧w2.cell? ⟨g,1,none⟩=_∧w2.frozen? ⟨g,0,none⟩=_∧w2.frozen? ⟨g,1,none⟩=_ := ⟨HK2.out.cell 0,HK2.out.cell 1,HK2.out.frozen 0,HK2.out.frozen 1⟩
 have HKA := Qb ((HK2.out.set 0 (.bool (decide (z < 0)))).set 1 (.slice ap np cp))
 obtain ⟨r0,r1,r2,r3⟩ : ((w2.setCell ⟨g,0,none⟩ (.bool (decide (z < 0)))).setCell ⟨g,1,none⟩ (.slice ap np cp)).cell? ⟨g,2,none⟩=_∧((w2.setCell ⟨g,0,none⟩ (.bool (decide (z < 0)))).setCell ⟨g,1,none⟩ (.slice ap np cp)).cell? ⟨g,3,none⟩=_∧((w2.setCell ⟨g,0,none⟩ (.bool (decide (z < 0)))).setCell ⟨g,1,none⟩ (.slice ap np cp)).frozen? ⟨g,2,none⟩=_∧((w2.setCell ⟨g,0,none⟩ (.bool (decide (z < 0)))).setCell ⟨g,1,none⟩ (.slice ap np cp)).frozen? ⟨g,3,none⟩=_ := ⟨HKA.out.cell 2,HKA.out.cell 3,HKA.out.frozen 2,HKA.out.frozen 3⟩
 have q0 : ((w2.setCell ⟨g,0,none⟩ (.bool (decide (z < 0)))).setCell ⟨g,1,none⟩ (.slice ap np cp)).cell? ⟨gq,0,none⟩=_ := (Zs HNG.out.2.symm).trans (kq.cell 0)
 have q1 : ((w2.setCell ⟨g,0,none⟩ (.bool (decide (z < 0)))).setCell ⟨g,1,none⟩ (.slice ap np cp)).cell? ⟨gq,1,none⟩=_ := (Zs HNG.out.2.symm).trans (kq.cell 1)
 clear hnp hnq kp kq
 go_wp2_with fail
 have HKB := Qb ((HKA.out.set 2 (.bool (decide ((b : Int) < 0)))).set 3 (.slice aq nq cq))
 have hno2 : (#[y0,y1,y2,y3] : Array Value).all Qk=true := hno
 have hh : XY w2 g := ⟨_,_,HK2.out,hno2⟩
 have hh2 : XY ((w2.setCell ⟨g,0,none⟩ (.bool (decide (z < 0)))).setCell ⟨g,1,none⟩ (.slice ap np cp)) g := ⟨_,_,HKA.out,JE (JE hno2 0 rfl) 1 rfl⟩
 have h1 := (HNP.out.two (i := 0) (j := 1) (x := .bool (decide (z < 0))) (y := .slice ap np cp) hh rfl).two (i := 2) (j := 3) (x := .bool (decide ((b : Int) < 0))) (y := .slice aq nq cq) hh2 rfl
 have h2 := (HNQ.out.two (i := 0) (j := 1) (x := .bool (decide (z < 0))) (y := .slice ap np cp) hh rfl).two (i := 2) (j := 3) (x := .bool (decide ((b : Int) < 0))) (y := .slice aq nq cq) hh2 rfl
 have hs : Save g w ((((w2.setCell ⟨g,0,none⟩ (.bool (decide (z < 0)))).setCell ⟨g,1,none⟩ (.slice ap np cp)).setCell ⟨g,2,none⟩ (.bool (decide ((b : Int) < 0)))).setCell ⟨g,3,none⟩ (.slice aq nq cq)) := ((((Save.of HB2.out).set _ _).set _ _).set _ _).set _ _
 have HSV := Qb hs
 rw [Int.natAbs_natCast] at h2
 have hkb : Blk ((((w2.setCell ⟨g,0,none⟩ (.bool (decide (z < 0)))).setCell ⟨g,1,none⟩ (.slice ap np cp)).setCell ⟨g,2,none⟩ (.bool (decide ((b : Int) < 0)))).setCell ⟨g,3,none⟩ (.slice aq nq cq)) g #[.bool (decide (z < 0)),.slice ap np cp,.bool false,.slice aq nq cq] 34 := by
  have h : Blk ((((w2.setCell ⟨g,0,none⟩ (.bool (decide (z < 0)))).setCell ⟨g,1,none⟩ (.slice ap np cp)).setCell ⟨g,2,none⟩ (.bool (decide ((b : Int) < 0)))).setCell ⟨g,3,none⟩ (.slice aq nq cq)) g #[.bool (decide (z < 0)),.slice ap np cp,.bool (decide ((b : Int) < 0)),.slice aq nq cq] 34 := HKB.out
  have e : (#[.bool (decide (z < 0)),.slice ap np cp,.bool (decide ((b : Int) < 0)),.slice aq nq cq] : Array Value)=#[.bool (decide (z < 0)),.slice ap np cp,.bool false,.slice aq nq cq] := by
   rw [show decide ((b : Int) < 0)=false by simp]
  rwa [e] at h
 refine (MU (z := z) (b := b) hkb h1 h2 hb0 SA.out SB.out).mono ?_
 rintro e w5 ⟨rfl,hsv,hrv⟩
 have HR := Qb (And.intro (HSV.out.trans hsv) hrv)
 clear hsv hrv hs h1 h2 hh hh2
 go_wp2
 go_ret
 exact ⟨rfl,HR.out.1,HR.out.2⟩
end Go.Proofs.YthhnabccdehmgaaGreatDoor
/- BP -/
namespace Go.Proofs.YthhnabccdehmgaaGreatDoor
open Go.RowKit Cx
attribute [local go_sem ↓] Go.wp_at_zero Go.wp_at_succ
theorem Below.new {a w : World} (h : Below a.heap.size a w) (o : Obj) : Below a.heap.size a (w.alloc o) := h.alloc h.size o
theorem Own2.save {w w' : World} {g g' : Nat} {z : Int} (h : Own2 w g' z) (hne : g' ≠ g) (hh : XY w g) (hs : Save g w w') : Own2 w' g' z := by
 obtain ⟨ao,n,c,h0,h1⟩ := h
 exact ⟨ao,n,c,hs.blk h0 hne,h1.save hh hs⟩
theorem Own2.lt {w : World} {g : Nat} {z : Int} (h : Own2 w g z) : g < w.heap.size := by
 obtain ⟨ao,n,c,h0,_⟩ := h
 exact h0.lt
theorem Gave.save {w w' : World} {g o : Nat} {z : Int} (h : Gave w g o z w') : Save g w w' := by
 obtain ⟨w1,ao,n',c',hbl,rfl,hn⟩ := h
 exact ((Save.of hbl).set _ _).set _ _
theorem Jj {w : World} {g : Nat} {cs : Array Value} {t : TypeId} (o : Obj) (h : Blk w g cs t) : Blk (w.alloc o) g cs t := h.below (Qg _ _) h.lt
theorem JD {w : World} {g : Nat} {cs : Array Value} {t : TypeId} (h : g=w.heap.size) : Blk (w.alloc (.cells cs t)) g cs t := by
 subst h
 exact Blk.new _ _ _
theorem early {w w1 w2 w3 : World} {g g' : Nat} {cs : Array Value} {t : TypeId} (hs : Save g w w1) (h2 : Below w1.heap.size w1 w2) (h3 : Below w2.heap.size w2 w3) (hb : Blk w g' cs t) (hne : g' ≠ g) : Blk w3 g' cs t := by
 have h1 := hs.blk hb hne
 have h2' := h1.below h2 h1.lt
 exact h2'.below h3 h2'.lt
theorem Zf {w : World} {g : Nat} {px py : Value} {x y : Int} (hk : Blk w g #[.bool false,.slice none 0 0] 32) (hx : IV w px x) (hy : IV w py y) (ax : Ym px g) (ay : Ym py g) (sx : Small x.natAbs) (sy : Small y.natAbs) :
  Calls Tryz.prog 16 #[.pointer (some ⟨g,0,none⟩),px,py] w fun e w' => e=.returned (.pointer (some ⟨g,0,none⟩))∧Save g w w'∧Own2 w' g (x*y)∧XY w g := by
 refine (PQ (At2.blk hk) hx hy ax ay sx sy).mono ?_
 rintro e w' ⟨rfl,hg⟩
 exact ⟨rfl,hg.save,(hg.own hk).1,_,_,hk,by simp [Qk]⟩
theorem Zo {k : Nat} {q : Rat} (f : QS k q) (hk : k≤35184372088640) : Small q.num.natAbs := Qq f.num hk
theorem Zp {k : Nat} {q : Rat} (f : QS k q) (hk : k≤35184372088640) : Small (q.den : Int).natAbs := by
 rw [Int.natAbs_natCast]
 exact Qq f.den hk
theorem Db {w : World} {g gx gy : Nat} {y0 y1 y2 y3 : Value} {x y : Rat} {k l : Nat} (hk : Blk w g #[y0,y1,y2,y3] 34) (hno : (#[y0,y1,y2,y3] : Array Value).all Qk=true) (hx : RV w gx x) (hy : RV w gy y) (fx : QS k x) (fy : QS l y) (hkl : k+l+1≤35184372088640) :
  Calls Tryz.prog 56 #[.pointer (some ⟨g,0,none⟩),.pointer (some ⟨gx,0,none⟩),.pointer (some ⟨gy,0,none⟩)] w fun e w' => e=.returned (.pointer (some ⟨g,0,none⟩))∧Save g w w'∧RV w' g (x*y) := by
 have LX := Qb hx.lt
 have LY := Qb hy.lt
 have LG := Qb hk.lt
 have HX := Qb hx
 have HY := Qb hy
 have HK := Qb hk
 have SX := Qb (Zo fx (by omega))
 have SY := Qb (Zo fy (by omega))
 have DX := Qb (Zp fx (by omega))
 have DY := Qb (Zp fy (by omega))
 have SN : Hid (Small (x.num*y.num).natAbs) := by
  show Small _
  rw [Int.natAbs_mul]
  exact Qq (k := k+l) (by rw [Nat.pow_add]; exact Nat.mul_lt_mul_of_lt_of_lt fx.num fy.num) (by omega)
 have SD : Hid (Small (x.den*y.den)) := Qq (k := k+l) (by rw [Nat.pow_add]; exact Nat.mul_lt_mul_of_lt_of_lt fx.den fy.den) (by omega)
 have HQ : Hid (x*y=mkRat (x.num*y.num) (x.den*y.den)) := by
  show _=_
  conv => lhs; rw [← Rat.mkRat_self x,← Rat.mkRat_self y]
  exact Rat.mkRat_mul_mkRat ..
 have HD0 : Hid (0 < x.den*y.den) := Nat.mul_pos x.den_pos y.den_pos
 clear hx hy hk fx fy
 go_enter Tryz.func56,Tryz.ntmps56
 go_wp2_with fail
 go_region_held3 (fun _ => True) (trivial)
  (first
   | (go_at_call_of 16 (Value.pointer (some { block := gx,off := 0 })); refine (Zf (by first | with_reducible exact Blk.new _ _ _ | (refine JD ?_; (first | with_reducible rfl | (simp; done))) | (refine Jj _ (JD ?_); (first | with_reducible rfl | (simp; done)))) (RV.num (HX.out.below (by repeat' first | with_reducible exact hbl3 | with_reducible exact hbl2 | with_reducible exact hbl1 | with_reducible exact Below.refl _ _ | apply Below.new | apply Below.drew))) (RV.num (HY.out.below (by repeat' first | with_reducible exact hbl3 | with_reducible exact hbl2 | with_reducible exact hbl1 | with_reducible exact Below.refl _ _ | apply Below.new | apply Below.drew))) (HX.out.num.apart (by first | with_reducible exact Nat.le_refl _ | with_reducible exact hbl3.size | with_reducible exact hbl2.size | with_reducible exact hbl1.size | (simp; done) | (simp; omega))) (HY.out.num.apart (by first | with_reducible exact Nat.le_refl _ | with_reducible exact hbl3.size | with_reducible exact hbl2.size | with_reducible exact hbl1.size | (simp; done) | (simp; omega))) SX.out SY.out).mono ?_; rintro e w1 ⟨rfl,hsv1,ho1,_⟩; have hbl1 : Below w.heap.size w w1 := Below.trans (by repeat' first | with_reducible exact hbl3 | with_reducible exact hbl2 | with_reducible exact hbl1 | with_reducible exact Below.refl _ _ | apply Below.new | apply Below.drew) (hsv1.below (by first | with_reducible exact Nat.le_refl _ | with_reducible exact hbl3.size | with_reducible exact hbl2.size | with_reducible exact hbl1.size | (simp; done) | (simp; omega)) (by first | with_reducible exact Nat.le_refl _ | with_reducible exact hbl3.size | with_reducible exact hbl2.size | with_reducible exact hbl1.size | (simp; done) | (simp; omega))))
   | (go_at_call_of 60 (Value.pointer (some { block := gx,off := 0 })); refine (QW (HX.out.below (by repeat' first | with_reducible exact hbl3 | with_reducible exact hbl2 | with_reducible exact hbl1 | with_reducible exact Below.refl _ _ | apply Below.new | apply Below.drew))).mono ?_; rintro e w2 ⟨hb2,p1,rfl,hv2,hap2⟩; have hbl2 : Below w.heap.size w w2 := (fun (h : Below w.heap.size w _) => h.trans (hb2.mono h.size)) (by repeat' first | with_reducible exact hbl3 | with_reducible exact hbl2 | with_reducible exact hbl1 | with_reducible exact Below.refl _ _ | apply Below.new | apply Below.drew); have hc2 : Below w1.heap.size w1 w2 := (fun (h : Below w1.heap.size w1 _) => h.trans (hb2.mono h.size)) (by repeat' first | with_reducible exact Below.refl _ _ | apply Below.new | apply Below.drew); have ho2 := ho1.below hc2)
   | (go_at_call_of 60 (Value.pointer (some { block := gy,off := 0 })); refine (QW (HY.out.below (by repeat' first | with_reducible exact hbl3 | with_reducible exact hbl2 | with_reducible exact hbl1 | with_reducible exact Below.refl _ _ | apply Below.new | apply Below.drew))).mono ?_; rintro e w3 ⟨hb3,p2,rfl,hv3,hap3⟩; have hbl3 : Below w.heap.size w w3 := (fun (h : Below w.heap.size w _) => h.trans (hb3.mono h.size)) (by repeat' first | with_reducible exact hbl3 | with_reducible exact hbl2 | with_reducible exact hbl1 | with_reducible exact Below.refl _ _ | apply Below.new | apply Below.drew); have hc3 : Below w2.heap.size w2 w3 := (fun (h : Below w2.heap.size w2 _) => h.trans (hb3.mono h.size)) (by repeat' first | with_reducible exact Below.refl _ _ | apply Below.new | apply Below.drew); have ho3 := ho2.below hc3; have hv2' := hv2.below hc3)
   | (go_at_call 40; refine (Zi (z := x.num*y.num) (b := x.den*y.den) (HK.out.below hbl4 LG.out) hno hoA.iv (by have := ho4.iv; rwa [← Int.natCast_mul] at this) HD0.out SN.out SD.out).mono ?_; rintro e w5 ⟨rfl,hs5,hr5⟩)
   | (go_at_call_of 16 p1; have q0 := LX.out; have q00 := LY.out; have q1 := ho1.lt; have q2 := hc2.size; have q3 := hc3.size; have q4 := hbl1.size; have q5 := ho2.lt; have q6 := hb2.size; have q7 := hb3.size; have q8 := hsv1.size; (try simp at q8); (try simp at q6); (try simp at q7); refine Calls.mono (Zf (by first | with_reducible exact Blk.new w3 _ _ | with_reducible exact (Blk.new w2 _ _).below hb3 (Blk.new w2 _ _).lt | with_reducible exact ((Blk.new w1 _ _).below hb2 (Blk.new w1 _ _).lt).below hb3 (((Blk.new w1 _ _).below hb2 (Blk.new w1 _ _).lt).lt) | (refine early hsv1 hb2 hb3 (JD ?_) ?_ <;> (simp; done)) | (refine early hsv1 hb2 hb3 (Jj _ (JD ?_)) ?_ <;> (simp; done))) (show IV _ p1 (x.den : Int) by first | with_reducible exact hv2' | exact hv2'.below (Qg _ _)) (show IV _ p2 (y.den : Int) by first | with_reducible exact hv3 | exact hv3.below (Qg _ _)) (by first | with_reducible exact hv2'.apart (Nat.le_refl _) | with_reducible exact hv2.apart (Nat.le_refl _) | exact hap2 _ (by omega) (by first | omega | (simp; done) | (simp; omega))) (by first | with_reducible exact hv3.apart (Nat.le_refl _) | exact hap3 _ (by omega) (by first | omega | (simp; done) | (simp; omega))) DX.out DY.out) ?_; rintro e w4 ⟨rfl,hsv4,ho4,hh4⟩; have hbl4 : Below w.heap.size w w4 := (fun (h : Below w.heap.size w _) => h.trans (hsv4.below (by first | with_reducible exact hbl3.size | with_reducible exact hbl2.size | with_reducible exact hbl1.size | omega | (simp; done)) h.size)) (by repeat' first | with_reducible exact hbl3 | with_reducible exact hbl2 | with_reducible exact hbl1 | with_reducible exact Below.refl _ _ | apply Below.new | apply Below.drew); have hoA : Own2 w4 _ (x.num*y.num) := (show Own2 _ _ (x.num*y.num) by first | with_reducible exact ho3 | exact ho3.below (Qg _ _)).save (by first | omega | (simp; done) | (simp; omega)) hh4 hsv4)
   )
 all_goals
  go_wp2
  go_ret
  exact ⟨rfl,(Save.of hbl4).trans hs5,by rw [HQ.out]; exact hr5⟩
end Go.Proofs.YthhnabccdehmgaaGreatDoor
/- BTA -/
namespace Go.Proofs.YthhnabccdehmgaaGreatDoor
open Go.RowKit Cx
attribute [local go_sem ↓] Go.wp_at_zero Go.wp_at_succ
theorem Ze {w w' : World} {g : Nat} {cs : Array Value} {t : TypeId} (hb : Below w.heap.size w w') (h : Blk w g cs t) : Blk w' g cs t := h.below hb h.lt
theorem XP {w w' : World} {g g' : Nat} {cs : Array Value} {t : TypeId} (hs : Save g w w') (h : Blk w g' cs t) (hne : g' ≠ g) : Blk w' g' cs t := hs.blk h hne
theorem Zx {w : World} {g : Nat} {z : Int} (o : Obj) (h : Own2 w g z) : Own2 (w.alloc o) g z := h.below (Qg _ _)
theorem OA {w w' : World} {g : Nat} {z : Int} (hb : Below w.heap.size w w') (h : Own2 w g z) : Own2 w' g z := h.below hb
theorem Ut {w w' : World} {g g' : Nat} {z : Int} (hs : Save g w w') (hh : XY w g) (h : Own2 w g' z) (hne : g' ≠ g) : Own2 w' g' z := h.save hne hh hs
theorem Yl {w : World} {p : Value} {z : Int} (o : Obj) (h : IV w p z) : IV (w.alloc o) p z := h.below (Qg _ _)
theorem Af {w w' : World} {p : Value} {z : Int} (hb : Below w.heap.size w w') (h : IV w p z) : IV w' p z := h.below hb
theorem ZY {w : World} {g : Nat} {cs : Array Value} {t : TypeId} (h : Blk w g cs t) : Blk w.drew g cs t := h.below (Below.drew (Below.refl _ _)) h.lt
theorem JI {w : World} {g : Nat} {z : Int} (h : Own2 w g z) : Own2 w.drew g z := h.below (Below.drew (Below.refl _ _))
theorem Xg {w : World} {p : Value} {z : Int} (h : IV w p z) : IV w.drew p z := h.below (Below.drew (Below.refl _ _))
theorem ZI {g g' o : Nat} (h : g' ≠ g) : Ym (.pointer (some ⟨g',o,none⟩)) g := by
 intro g1 o1 t e
 cases e
 exact h
theorem QQ {a w w' : World} {g : Nat} (h : Below a.heap.size a w) (hs : Save g w w') (hg : a.heap.size≤g) : Below a.heap.size a w' := h.trans (hs.below hg h.size)
theorem Qp {a w w' : World} (h : Below a.heap.size a w) (hs : Below w.heap.size w w') : Below a.heap.size a w' := h.trans (hs.mono h.size)
theorem ge_at {w a b : World} {g : Nat} (_ : Save g a b) (h : w.heap.size≤g) : w.heap.size≤g := h
theorem Ca {w : World} {g : Nat} {px py : Value} {x y : Int} (hk : Blk w g #[.bool false,.slice none 0 0] 32) (hx : IV w px x) (hy : IV w py y) (ax : Ym px g) (ay : Ym py g) (sx : Small x.natAbs) (sy : Small y.natAbs) :
  Calls Tryz.prog 86 #[.pointer (some ⟨g,0,none⟩),px,py] w fun e w' => e=.returned (.pointer (some ⟨g,0,none⟩))∧Save g w w'∧Own2 w' g (x+y)∧XY w g := by
 refine (Dq (At2.blk hk) hx hy ax ay sx sy).mono ?_
 rintro e w' ⟨rfl,hg⟩
 exact ⟨rfl,hg.save,(hg.own hk).1,_,_,hk,by simp [Qk]⟩
theorem CX {w : World} {g : Nat} {px py : Value} {x y : Int} (hk : Blk w g #[.bool false,.slice none 0 0] 32) (hx : IV w px x) (hy : IV w py y) (ax : Ym px g) (ay : Ym py g) (sx : Small x.natAbs) (sy : Small y.natAbs) :
  Calls Tryz.prog 23 #[.pointer (some ⟨g,0,none⟩),px,py] w fun e w' => e=.returned (.pointer (some ⟨g,0,none⟩))∧Save g w w'∧Own2 w' g (x - y)∧XY w g := by
 refine (Dy (At2.blk hk) hx hy ax ay sx sy).mono ?_
 rintro e w' ⟨rfl,hg⟩
 exact ⟨rfl,hg.save,(hg.own hk).1,_,_,hk,by simp [Qk]⟩
theorem ZZ {x y : Rat} {k l : Nat} (fx : QS k x) (fy : QS l y) (hkl : k+l+1≤35184372088640) : Small (x.num*(y.den : Int)).natAbs := by
 rw [Int.natAbs_mul,Int.natAbs_natCast]
 exact Qq (k := k+l) (by rw [Nat.pow_add]; exact Nat.mul_lt_mul_of_lt_of_lt fx.num fy.den) (by omega)
theorem Ii {x y : Rat} {k l : Nat} (fx : QS k x) (fy : QS l y) : (x.num*(y.den : Int)).natAbs < 2 ^ (k+l) := by
 rw [Int.natAbs_mul,Int.natAbs_natCast,Nat.pow_add]
 exact Nat.mul_lt_mul_of_lt_of_lt fx.num fy.den
theorem Ki {x y : Rat} {k l : Nat} (fx : QS k x) (fy : QS l y) (hkl : k+l+1≤35184372088640) : Small (x.num*(y.den : Int)+y.num*(x.den : Int)).natAbs := by
 have h1 := Ii fx fy
 have h2 := Ii fy fx
 rw [Nat.add_comm l k] at h2
 exact Qq (k := k+l+1) (by rw [Nat.pow_succ]; omega) (by omega)
theorem KR {x y : Rat} {k l : Nat} (fx : QS k x) (fy : QS l y) (hkl : k+l+1≤35184372088640) : Small (x.num*(y.den : Int) - y.num*(x.den : Int)).natAbs := by
 have h1 := Ii fx fy
 have h2 := Ii fy fx
 rw [Nat.add_comm l k] at h2
 exact Qq (k := k+l+1) (by rw [Nat.pow_succ]; omega) (by omega)
theorem OX (x y : Rat) : x+y=mkRat (x.num*(y.den : Int)+y.num*(x.den : Int)) (x.den*y.den) := by
 conv => lhs; rw [← Rat.mkRat_self x,← Rat.mkRat_self y]
 exact Rat.mkRat_add_mkRat _ _ x.den_nz y.den_nz
theorem Dz (x y : Rat) : x - y=mkRat (x.num*(y.den : Int) - y.num*(x.den : Int)) (x.den*y.den) := by
 rw [Rat.sub_eq_add_neg]
 refine (OX x (-y)).trans ?_
 show mkRat (x.num*(y.den : Int)+(-y.num)*(x.den : Int)) (x.den*y.den)=_
 rw [Int.neg_mul,← Int.sub_eq_add_neg]
end Go.Proofs.YthhnabccdehmgaaGreatDoor
