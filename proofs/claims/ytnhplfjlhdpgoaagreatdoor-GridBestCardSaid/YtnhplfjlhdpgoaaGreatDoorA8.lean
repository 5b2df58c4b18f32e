/- Part 8 of the walks and of the mathematics under them: PRT WB ZWW VA VB VC VD VE VF VG VH VI. -/
import Derived.Test.YtnhplfjlhdpgoaaGreatDoorA7
import Derived.Test.YtnhplfjlhdpgoaaGreatDoorA6
import Derived.Test.YtnhplfjlhdpgoaaGreatDoorA1
import Derived.Below
import Derived.BigCall
set_option maxHeartbeats 16000000
set_option maxRecDepth 100000
/- PRT -/
namespace Go.Proofs.YtnhplfjlhdpgoaaGreatDoor
open Go.RowKit Cx
theorem fr_up (q : Rat) : fr (decide (q.num < 0)) q.num.natAbs 1 (by decide) (Nat.coprime_one_right _)=(q.num : Rat) := by
 have := WX (neg := decide (q.num < 0)) (u := q.num.natAbs) (l := 1) (hl := by decide) (hc := Nat.coprime_one_right _) (n := q.num) (d := 1) (by decide) (by rw [Oy])
 rw [this,Rat.mkRat_one]
theorem fr_low (n : Nat) : fr false n 1 (by decide) (Nat.coprime_one_right _)=((n : Int) : Rat) := by
 have := WX (neg := false) (u := n) (l := 1) (hl := by decide) (hc := Nat.coprime_one_right _) (n := (n : Int)) (d := 1) (by decide) (by simp [sg])
 rw [this,Rat.mkRat_one]
theorem AS.ret22 {P : Program} {fn : Func} {R : Ending→World→Prop} {w0 : World} {n : Nat} {tm : List (Nat × Fact)} {bx : List (Nat × TypeId × Fact)} {a : Act} {w : World} (h : AS w0 n tm bx a w) (k b k2 b2 : Nat) {t t2 : Tmp} {ty : TypeId} {G G2 : Nat} {F Fs F2 Fs2 : Fact} (hr : fn.results=#[.cell t ty,.cell t2 ty]) (hk : tm[k]? = some (t,Jus (.pointer (some ⟨G,0,none⟩)))) (hb : bx[b]? = some (G,ty,Fs)) (hl : Pc P ty Fs F) (hk2 : tm[k2]? = some (t2,Jus (.pointer (some ⟨G2,0,none⟩)))) (hb2 : bx[b2]? = some (G2,ty,Fs2)) (hl2 : Pc P ty Fs2 F2) (hR : ∀ v,(Tup [F,F2]).on v w→R (.returned v) w) : bodyPost P fn R .ret a w := by
 obtain ⟨v,e,hF⟩ := hl w G (h.box b G ty Fs hb).2
 obtain ⟨v',e',hF'⟩ := hl2 w G2 (h.box b2 G2 ty Fs2 hb2).2
 have hv : a.tmps.getD t undef=.pointer (some ⟨G,0,none⟩) := h.tmp t _ (List.mem_of_getElem? hk)
 have hv' : a.tmps.getD t2 undef=.pointer (some ⟨G2,0,none⟩) := h.tmp t2 _ (List.mem_of_getElem? hk2)
 refine ⟨h.nod,.tuple #[v,v'],?_,hR _ ⟨[_,_],rfl,hF,hF',trivial⟩⟩
 have e2 : (loadVar ty ⟨G,0,none⟩).run P w=.ok v w := by
  have : Instr.loadAt ty (.pointer (some ⟨G,0,none⟩))=loadVar ty ⟨G,0,none⟩ := rfl
  rw [← this]
  exact e
 have e2' : (loadVar ty ⟨G2,0,none⟩).run P w=.ok v' w := by
  have : Instr.loadAt ty (.pointer (some ⟨G2,0,none⟩))=loadVar ty ⟨G2,0,none⟩ := rfl
  rw [← this]
  exact e'
 unfold results
 rw [hr]
 have e3 : ((do loadVar ty (← asAddr (a.tmps.getD t undef)) : Sem Value)).run P w=.ok v w := by
  rw [hv]
  exact e2
 have e3' : ((do loadVar ty (← asAddr (a.tmps.getD t2 undef)) : Sem Value)).run P w=.ok v' w := by
  rw [hv']
  exact e2'
 revert e3 e3'
 simp only [List.mapM_toArray,List.mapM_cons,List.mapM_nil]
 generalize (do loadVar ty (← asAddr (a.tmps.getD t undef)) : Sem Value)=s
 generalize (do loadVar ty (← asAddr (a.tmps.getD t2 undef)) : Sem Value)=s'
 intro e3 e3'
 simp [go_sem,e3,e3']
theorem GX {q : Rat} : Con Tryz.prog Zx 61 [Qv q] (Tup [Qv (q.num : Rat),Qv ((q.den : Int) : Rat)]) := by
 refine Uv (n := 14) Tryz.func61 rfl rfl (Nat.le_of_ble_eq_true rfl) ?_
 intro w a0 hp S0
 have HPRE : ∀ w',Below w.heap.size w w'→Zx w' := fun _ _ => trivial
 refine wp_seq ?_
 refine Qz [.alloc 58 (Qv q),.alloc 58 Any,.alloc 58 Any] ⟨S0,by decide +kernel⟩ (by kernel_rfl) (by kernel_rfl) rfl (by kernel_rfl) ?_ ?_
 ·intro C
  refine ASteps.cons ?_ (ASteps.cons ?_ (ASteps.cons ?_ (ASteps.nil)))
  ·exact ZF rfl rfl (Qa rfl) rfl (Ze (by kernel_rfl)) (Qg C 0 (by kernel_rfl) rfl) (Jp (Zm _))
  ·exact Zo [.bool false,.slice none 0 0,.slice none 0 0] YC rfl rfl (Qa rfl) rfl (Ze (by kernel_rfl)) JH (by simp [Qm]) (by kernel_rfl)
  ·exact Zo [.bool false,.slice none 0 0,.slice none 0 0] YC rfl rfl (Qa rfl) rfl (Ze (by kernel_rfl)) JH (by simp [Qm]) (by kernel_rfl)
 intro γ a1 w1 S1
 replace S1 : AS w 14 [(3,Jus (.pointer (some ⟨γ 2,0,none⟩))),(2,Jus (.pointer (some ⟨γ 1,0,none⟩))),(1,Jus (.pointer (some ⟨γ 0,0,none⟩)))] [(γ 0,58,Qv q),(γ 1,58,Any),(γ 2,58,Any)] a1 w1 := cast (by kernel_rfl) (S1.keep [1,2,3])
 generalize γ 0=G0 at S1
 generalize γ 1=G1 at S1
 generalize γ 2=G2 at S1
 clear S0
 refine Qe ?_
 refine wp_seq ?_
 refine Qz [.pure (Jus (.pointer (some ⟨G0,0,none⟩))),.pure (Bo (decide (q.num < 0))),.pure (Jus (.pointer (some ⟨G0,1,none⟩))),.pure (Nt q.num.natAbs),.pure (Nt 1),.pure (Qv (q.num : Rat)),.pure (Qv q),.pure (Nt q.den),.pure (Nt 1),.pure (Qv ((q.den : Int) : Rat)),.over 1 (Qv (q.num : Rat)),.over 2 (Qv ((q.den : Int) : Rat))] ⟨S1,by decide +kernel⟩ (by kernel_rfl) (by kernel_rfl) rfl (by kernel_rfl) ?_ ?_
 ·intro C
  refine ASteps.cons ?_ (ASteps.cons ?_ (ASteps.cons ?_ (ASteps.cons ?_ (ASteps.cons ?_ (ASteps.cons ?_ (ASteps.cons ?_ (ASteps.cons ?_ (ASteps.cons ?_ (ASteps.cons ?_ (ASteps.cons ?_ (ASteps.cons ?_ (ASteps.nil))))))))))))
  ·exact Qw rfl rfl (Qa rfl) rfl (Qg C 2 (by kernel_rfl) rfl) (XI _)
  ·exact QP (k := 0) rfl rfl rfl (Qa rfl) rfl (Qc C 0 0 rfl rfl rfl rfl rfl rfl) (QE (by kernel_rfl)) Ud
  ·exact Qw rfl rfl (Qa rfl) rfl (Qg C 2 (by kernel_rfl) rfl) (ZK _)
  ·exact QP (k := 0) rfl rfl rfl (Qa rfl) rfl (Qc C 2 0 rfl rfl rfl rfl rfl rfl) (QE (by kernel_rfl)) JL
  ·exact Ql HPRE rfl rfl (Qa rfl) rfl XH Opns.nil Wu
  ·exact Ql HPRE rfl rfl (Qa rfl) rfl Xs (Opns.cons (Qc C 1 0 rfl rfl rfl rfl rfl rfl) (Opns.cons (Qc C 3 1 rfl rfl rfl rfl rfl rfl) (Opns.cons (Qc C 4 2 rfl rfl rfl rfl rfl rfl) Opns.nil))) (Vx (by decide) (Nat.coprime_one_right _) (fr_up q))
  ·exact QG (k := 0) rfl rfl rfl (Qa rfl) rfl (Qg C 2 (by kernel_rfl) rfl) (QE (by kernel_rfl)) QT
  ·exact Ql HPRE rfl rfl (Qa rfl) rfl Zl (Opns.cons (Qc C 6 0 rfl rfl rfl rfl rfl rfl) Opns.nil) JK
  ·exact Ql HPRE rfl rfl (Qa rfl) rfl XH Opns.nil Wu
  ·exact Ql HPRE rfl rfl (Qa rfl) rfl Xs (Opns.cons (Qp _) (Opns.cons (Qc C 7 0 rfl rfl rfl rfl rfl rfl) (Opns.cons (Qc C 8 1 rfl rfl rfl rfl rfl rfl) Opns.nil))) (Vx (by decide) (Nat.coprime_one_right _) (fr_low q.den))
  ·exact ZE C (k := 1) rfl rfl rfl (Qa rfl) rfl (Qg C 1 (by kernel_rfl) rfl) (by decide) (ZM (by kernel_rfl)) (Qc C 5 0 rfl rfl rfl rfl rfl rfl) (Jg (Zm _))
  ·exact ZE C (k := 2) rfl rfl rfl (Qa rfl) rfl (Qg C 0 (by kernel_rfl) rfl) (by decide) (ZM (by kernel_rfl)) (Qc C 9 0 rfl rfl rfl rfl rfl rfl) (Jg (Zm _))
 intro γ a2 w2 S2
 replace S2 : AS w 14 [(3,Jus (.pointer (some ⟨G2,0,none⟩))),(2,Jus (.pointer (some ⟨G1,0,none⟩))),(1,Jus (.pointer (some ⟨G0,0,none⟩)))] [(G0,58,Qv q),(G1,58,Qv (q.num : Rat)),(G2,58,Qv ((q.den : Int) : Rat))] a2 w2 := cast (by kernel_rfl) (S2.keep [1,2,3])
 clear S1
 refine Qe ?_
 refine wp_ret ?_
 exact S2.ret22 1 1 0 2 rfl rfl rfl QT rfl rfl QT fun v hv => ⟨S2.bel,v,rfl,hv⟩
theorem two_of {w w' : World} {v : Value} {x y : Rat} (hb : Below w.heap.size w w') (h : (Tup [Qv x,Qv y]).on v w') : Below w.heap.size w w'∧∃ v1 v2,Ending.returned v=.returned (.tuple #[v1,v2])∧QV w' v1 x∧QV w' v2 y := by
 obtain ⟨cs,e,hall⟩ := h
 obtain ⟨v1,v2,rfl,h1,h2⟩ := Yi hall
 exact ⟨hb,v1,v2,congrArg Ending.returned e,h1,h2⟩
theorem FV {w : World} {v : Value} {q : Rat} (h : QV w v q) :
  Calls Tryz.prog 61 #[v] w fun e w' => Below w.heap.size w w'∧∃ v1 v2,e=.returned (.tuple #[v1,v2])∧QV w' v1 (q.num : Rat)∧QV w' v2 ((q.den : Int) : Rat) :=
 Calls.mono (GX w [v] trivial ⟨h,trivial⟩) fun e w' hr => by
  obtain ⟨hb,x,rfl,hx⟩ := hr
  exact two_of hb hx
end Go.Proofs.YtnhplfjlhdpgoaaGreatDoor
/- WB -/
namespace Go.Proofs.YtnhplfjlhdpgoaaGreatDoor
open Go.RowKit Cx
attribute [local go_sem ↓] Go.wp_at_zero Go.wp_at_succ
theorem DO {w : World} {cax cay cbx cbz : C3} {ax ay bx bz : Rat} (hax : QV w (.agg #[.bool cax.n,.slice cax.u cax.nu cax.cu,.slice cax.l cax.nl cax.cl]) ax) (hay : QV w (.agg #[.bool cay.n,.slice cay.u cay.nu cay.cu,.slice cay.l cay.nl cay.cl]) ay) (hbx : QV w (.agg #[.bool cbx.n,.slice cbx.u cbx.nu cbx.cu,.slice cbx.l cbx.nl cbx.cl]) bx) (hbz : QV w (.agg #[.bool cbz.n,.slice cbz.u cbz.nu cbz.cu,.slice cbz.l cbz.nl cbz.cl]) bz) {k l : Nat} (f1 : QS k ax) (f2 : QS k ay) (f3 : QS l bx) (f4 : QS l bz) (hk : k+l+1≤35184372088640) :
  Calls Tryz.prog 59 #[.agg #[.bool cax.n,.slice cax.u cax.nu cax.cu,.slice cax.l cax.nl cax.cl,.bool cay.n,.slice cay.u cay.nu cay.cu,.slice cay.l cay.nl cay.cl],.agg #[.bool cbx.n,.slice cbx.u cbx.nu cbx.cu,.slice cbx.l cbx.nl cbx.cl,.bool cbz.n,.slice cbz.u cbz.nu cbz.cu,.slice cbz.l cbz.nl cbz.cl]] w fun e w' => Below w.heap.size w w'∧∃ v,e=.returned v∧WV w' v (ax+bx) (ay+bz) := by
 obtain ⟨hb0,hk0,hk1,hk2,hsz⟩ := Lu w #[.bool cax.n,.slice cax.u cax.nu cax.cu,.slice cax.l cax.nl cax.cl,.bool cay.n,.slice cay.u cay.nu cay.cu,.slice cay.l cay.nl cay.cl] #[.bool cbx.n,.slice cbx.u cbx.nu cbx.cu,.slice cbx.l cbx.nl cbx.cl,.bool cbz.n,.slice cbz.u cbz.nu cbz.cu,.slice cbz.l cbz.nl cbz.cl] #[.bool false,.slice none 0 0,.slice none 0 0,.bool false,.slice none 0 0,.slice none 0 0] 61 61 61
 have HB0 := Qd hb0
 have HSZ := Qd hsz
 have HK0 := Qd hk0
 have HK1 := Qd hk1
 have HK2 := Qd hk2
 have Hax := Qd (hax.below hb0)
 have Hay := Qd (hay.below hb0)
 have Hbx := Qd (hbx.below hb0)
 have Hbz := Qd (hbz.below hb0)
 have F1 := Qd f1
 have F2 := Qd f2
 have F3 := Qd f3
 have F4 := Qd f4
 have HK := Qd hk
 clear hb0 hsz hk0 hk1 hk2 hax hay hbx hbz f1 f2 f3 f4 hk
 go_enter Tryz.func59,Tryz.ntmps59
 go_wp2_with fail
 generalize (((w.alloc (.cells #[.bool cax.n,.slice cax.u cax.nu cax.cu,.slice cax.l cax.nl cax.cl,.bool cay.n,.slice cay.u cay.nu cay.cu,.slice cay.l cay.nl cay.cl] 61)).alloc (.cells #[.bool cbx.n,.slice cbx.u cbx.nu cbx.cu,.slice cbx.l cbx.nl cbx.cl,.bool cbz.n,.slice cbz.u cbz.nu cbz.cu,.slice cbz.l cbz.nl cbz.cl] 61)).alloc (.cells #[.bool false,.slice none 0 0,.slice none 0 0,.bool false,.slice none 0 0,.slice none 0 0] 61))=W0 at *
 have HS : Hid (∀ w',Below W0.heap.size W0 w'→w'.cell? ⟨w.heap.size,0,none⟩=some (.bool cax.n)∧w'.cell? ⟨w.heap.size,1,none⟩=some (.slice cax.u cax.nu cax.cu)∧w'.cell? ⟨w.heap.size,2,none⟩=some (.slice cax.l cax.nl cax.cl)∧w'.cell? ⟨w.heap.size,3,none⟩=some (.bool cay.n)∧w'.cell? ⟨w.heap.size,4,none⟩=some (.slice cay.u cay.nu cay.cu)∧w'.cell? ⟨w.heap.size,5,none⟩=some (.slice cay.l cay.nl cay.cl)∧w'.cell? ⟨w.heap.size+1,0,none⟩=some (.bool cbx.n)∧w'.cell? ⟨w.heap.size+1,1,none⟩=some (.slice cbx.u cbx.nu cbx.cu)∧w'.cell? ⟨w.heap.size+1,2,none⟩=some (.slice cbx.l cbx.nl cbx.cl)∧w'.cell? ⟨w.heap.size+1,3,none⟩=some (.bool cbz.n)∧w'.cell? ⟨w.heap.size+1,4,none⟩=some (.slice cbz.u cbz.nu cbz.cu)∧w'.cell? ⟨w.heap.size+1,5,none⟩=some (.slice cbz.l cbz.nl cbz.cl)) := fun w' hb => ⟨(HK0.out.below hb (by rw [HSZ.out]; omega)).cell 0,(HK0.out.below hb (by rw [HSZ.out]; omega)).cell 1,(HK0.out.below hb (by rw [HSZ.out]; omega)).cell 2,(HK0.out.below hb (by rw [HSZ.out]; omega)).cell 3,(HK0.out.below hb (by rw [HSZ.out]; omega)).cell 4,(HK0.out.below hb (by rw [HSZ.out]; omega)).cell 5,(HK1.out.below hb (by rw [HSZ.out]; omega)).cell 0,(HK1.out.below hb (by rw [HSZ.out]; omega)).cell 1,(HK1.out.below hb (by rw [HSZ.out]; omega)).cell 2,(HK1.out.below hb (by rw [HSZ.out]; omega)).cell 3,(HK1.out.below hb (by rw [HSZ.out]; omega)).cell 4,(HK1.out.below hb (by rw [HSZ.out]; omega)).cell 5⟩
 have HSS : Hid (∀ w',Below W0.heap.size W0 w'→∀ x0 x1 x2 x3 x4 x5 : Value,((((((w'.setCell ⟨w.heap.size+1+1,0,none⟩ (x0)).setCell ⟨w.heap.size+1+1,1,none⟩ (x1)).setCell ⟨w.heap.size+1+1,2,none⟩ (x2)).setCell ⟨w.heap.size+1+1,3,none⟩ (x3)).setCell ⟨w.heap.size+1+1,4,none⟩ (x4)).setCell ⟨w.heap.size+1+1,5,none⟩ (x5)).cell? ⟨w.heap.size,0,none⟩=some (.bool cax.n)∧((((((w'.setCell ⟨w.heap.size+1+1,0,none⟩ (x0)).setCell ⟨w.heap.size+1+1,1,none⟩ (x1)).setCell ⟨w.heap.size+1+1,2,none⟩ (x2)).setCell ⟨w.heap.size+1+1,3,none⟩ (x3)).setCell ⟨w.heap.size+1+1,4,none⟩ (x4)).setCell ⟨w.heap.size+1+1,5,none⟩ (x5)).cell? ⟨w.heap.size,1,none⟩=some (.slice cax.u cax.nu cax.cu)∧((((((w'.setCell ⟨w.heap.size+1+1,0,none⟩ (x0)).setCell ⟨w.heap.size+1+1,1,none⟩ (x1)).setCell ⟨w.heap.size+1+1,2,none⟩ (x2)).setCell ⟨w.heap.size+1+1,3,none⟩ (x3)).setCell ⟨w.heap.size+1+1,4,none⟩ (x4)).setCell ⟨w.heap.size+1+1,5,none⟩ (x5)).cell? ⟨w.heap.size,2,none⟩=some (.slice cax.l cax.nl cax.cl)∧((((((w'.setCell ⟨w.heap.size+1+1,0,none⟩ (x0)).setCell ⟨w.heap.size+1+1,1,none⟩ (x1)).setCell ⟨w.heap.size+1+1,2,none⟩ (x2)).setCell ⟨w.heap.size+1+1,3,none⟩ (x3)).setCell ⟨w.heap.size+1+1,4,none⟩ (x4)).setCell ⟨w.heap.size+1+1,5,none⟩ (x5)).cell? ⟨w.heap.size,3,none⟩=some (.bool cay.n)∧((((((w'.setCell ⟨w.heap.size+1+1,0,none⟩ (x0)).setCell ⟨w.heap.size+1+1,1,none⟩ (x1)).setCell ⟨w.heap.size+1+1,2,none⟩ (x2)).setCell ⟨w.heap.size+1+1,3,none⟩ (x3)).setCell ⟨w.heap.size+1+1,4,none⟩ (x4)).setCell ⟨w.heap.size+1+1,5,none⟩ (x5)).cell? ⟨w.heap.size,4,none⟩=some (.slice cay.u cay.nu cay.cu)∧((((((w'.setCell ⟨w.heap.size+1+1,0,none⟩ (x0)).setCell ⟨w.heap.size+1+1,1,none⟩ (x1)).setCell ⟨w.heap.size+1+1,2,none⟩ (x2)).setCell ⟨w.heap.size+1+1,3,none⟩ (x3)).setCell ⟨w.heap.size+1+1,4,none⟩ (x4)).setCell ⟨w.heap.size+1+1,5,none⟩ (x5)).cell? ⟨w.heap.size,5,none⟩=some (.slice cay.l cay.nl cay.cl)∧((((((w'.setCell ⟨w.heap.size+1+1,0,none⟩ (x0)).setCell ⟨w.heap.size+1+1,1,none⟩ (x1)).setCell ⟨w.heap.size+1+1,2,none⟩ (x2)).setCell ⟨w.heap.size+1+1,3,none⟩ (x3)).setCell ⟨w.heap.size+1+1,4,none⟩ (x4)).setCell ⟨w.heap.size+1+1,5,none⟩ (x5)).cell? ⟨w.heap.size+1,0,none⟩=some (.bool cbx.n)∧((((((w'.setCell ⟨w.heap.size+1+1,0,none⟩ (x0)).setCell ⟨w.heap.size+1+1,1,none⟩ (x1)).setCell ⟨w.heap.size+1+1,2,none⟩ (x2)).setCell ⟨w.heap.size+1+1,3,none⟩ (x3)).setCell ⟨w.heap.size+1+1,4,none⟩ (x4)).setCell ⟨w.heap.size+1+1,5,none⟩ (x5)).cell? ⟨w.heap.size+1,1,none⟩=some (.slice cbx.u cbx.nu cbx.cu)∧((((((w'.setCell ⟨w.heap.size+1+1,0,none⟩ (x0)).setCell ⟨w.heap.size+1+1,1,none⟩ (x1)).setCell ⟨w.heap.size+1+1,2,none⟩ (x2)).setCell ⟨w.heap.size+1+1,3,none⟩ (x3)).setCell ⟨w.heap.size+1+1,4,none⟩ (x4)).setCell ⟨w.heap.size+1+1,5,none⟩ (x5)).cell? ⟨w.heap.size+1,2,none⟩=some (.slice cbx.l cbx.nl cbx.cl)∧((((((w'.setCell ⟨w.heap.size+1+1,0,none⟩ (x0)).setCell ⟨w.heap.size+1+1,1,none⟩ (x1)).setCell ⟨w.heap.size+1+1,2,none⟩ (x2)).setCell ⟨w.heap.size+1+1,3,none⟩ (x3)).setCell ⟨w.heap.size+1+1,4,none⟩ (x4)).setCell ⟨w.heap.size+1+1,5,none⟩ (x5)).cell? ⟨w.heap.size+1,3,none⟩=some (.bool cbz.n)∧((((((w'.setCell ⟨w.heap.size+1+1,0,none⟩ (x0)).setCell ⟨w.heap.size+1+1,1,none⟩ (x1)).setCell ⟨w.heap.size+1+1,2,none⟩ (x2)).setCell ⟨w.heap.size+1+1,3,none⟩ (x3)).setCell ⟨w.heap.size+1+1,4,none⟩ (x4)).setCell ⟨w.heap.size+1+1,5,none⟩ (x5)).cell? ⟨w.heap.size+1,4,none⟩=some (.slice cbz.u cbz.nu cbz.cu)∧((((((w'.setCell ⟨w.heap.size+1+1,0,none⟩ (x0)).setCell ⟨w.heap.size+1+1,1,none⟩ (x1)).setCell ⟨w.heap.size+1+1,2,none⟩ (x2)).setCell ⟨w.heap.size+1+1,3,none⟩ (x3)).setCell ⟨w.heap.size+1+1,4,none⟩ (x4)).setCell ⟨w.heap.size+1+1,5,none⟩ (x5)).cell? ⟨w.heap.size+1,5,none⟩=some (.slice cbz.l cbz.nl cbz.cl)) := fun w' hb x0 x1 x2 x3 x4 x5 => ⟨((HK0.out.below hb (by rw [HSZ.out]; omega)).off6 (g := w.heap.size+1+1) (by omega) x0 x1 x2 x3 x4 x5).cell 0,((HK0.out.below hb (by rw [HSZ.out]; omega)).off6 (g := w.heap.size+1+1) (by omega) x0 x1 x2 x3 x4 x5).cell 1,((HK0.out.below hb (by rw [HSZ.out]; omega)).off6 (g := w.heap.size+1+1) (by omega) x0 x1 x2 x3 x4 x5).cell 2,((HK0.out.below hb (by rw [HSZ.out]; omega)).off6 (g := w.heap.size+1+1) (by omega) x0 x1 x2 x3 x4 x5).cell 3,((HK0.out.below hb (by rw [HSZ.out]; omega)).off6 (g := w.heap.size+1+1) (by omega) x0 x1 x2 x3 x4 x5).cell 4,((HK0.out.below hb (by rw [HSZ.out]; omega)).off6 (g := w.heap.size+1+1) (by omega) x0 x1 x2 x3 x4 x5).cell 5,((HK1.out.below hb (by rw [HSZ.out]; omega)).off6 (g := w.heap.size+1+1) (by omega) x0 x1 x2 x3 x4 x5).cell 0,((HK1.out.below hb (by rw [HSZ.out]; omega)).off6 (g := w.heap.size+1+1) (by omega) x0 x1 x2 x3 x4 x5).cell 1,((HK1.out.below hb (by rw [HSZ.out]; omega)).off6 (g := w.heap.size+1+1) (by omega) x0 x1 x2 x3 x4 x5).cell 2,((HK1.out.below hb (by rw [HSZ.out]; omega)).off6 (g := w.heap.size+1+1) (by omega) x0 x1 x2 x3 x4 x5).cell 3,((HK1.out.below hb (by rw [HSZ.out]; omega)).off6 (g := w.heap.size+1+1) (by omega) x0 x1 x2 x3 x4 x5).cell 4,((HK1.out.below hb (by rw [HSZ.out]; omega)).off6 (g := w.heap.size+1+1) (by omega) x0 x1 x2 x3 x4 x5).cell 5⟩
 obtain ⟨z0,z1,z2,z3,z4,z5,z6,z7,z8,z9,z10,z11⟩ := HS.out W0 (Below.refl _ _)
 go_region_held3 (fun w' => w'.cell? ⟨w.heap.size,0,none⟩=some (.bool cax.n)∧w'.cell? ⟨w.heap.size,1,none⟩=some (.slice cax.u cax.nu cax.cu)∧w'.cell? ⟨w.heap.size,2,none⟩=some (.slice cax.l cax.nl cax.cl)∧w'.cell? ⟨w.heap.size,3,none⟩=some (.bool cay.n)∧w'.cell? ⟨w.heap.size,4,none⟩=some (.slice cay.u cay.nu cay.cu)∧w'.cell? ⟨w.heap.size,5,none⟩=some (.slice cay.l cay.nl cay.cl)∧w'.cell? ⟨w.heap.size+1,0,none⟩=some (.bool cbx.n)∧w'.cell? ⟨w.heap.size+1,1,none⟩=some (.slice cbx.u cbx.nu cbx.cu)∧w'.cell? ⟨w.heap.size+1,2,none⟩=some (.slice cbx.l cbx.nl cbx.cl)∧w'.cell? ⟨w.heap.size+1,3,none⟩=some (.bool cbz.n)∧w'.cell? ⟨w.heap.size+1,4,none⟩=some (.slice cbz.u cbz.nu cbz.cu)∧w'.cell? ⟨w.heap.size+1,5,none⟩=some (.slice cbz.l cbz.nl cbz.cl)) (first | go_keep | exact hs1 | exact hs2 | exact hkS)
  (first
   | (go_at_call_of 103 (Value.agg #[Value.bool cax.n,Value.slice cax.u cax.nu cax.cu,Value.slice cax.l cax.nl cax.cl]); refine (YI (w := W0.drew) (Hax.out.below (Below.drew (Below.refl _ _))) (Hbx.out.below (Below.drew (Below.refl _ _))) F1.out F3.out HK.out).mono ?_; rintro e w1 ⟨hb1,v1,rfl,hv1⟩; have hbl1 : Below W0.heap.size W0 w1 := (Below.drew (Below.refl _ W0)).trans hb1; obtain ⟨d1,rfl⟩ := JC hv1; have hs1 := HS.out w1 hbl1)
   | (go_at_call_of 103 (Value.agg #[Value.bool cay.n,Value.slice cay.u cay.nu cay.cu,Value.slice cay.l cay.nl cay.cl]); refine (YI (Hay.out.below hbl1) (Hbz.out.below hbl1) F2.out F4.out HK.out).mono ?_; rintro e w2 ⟨hb2,v2,rfl,hv2⟩; have hbl2 := hbl1.trans (hb2.mono hbl1.size); obtain ⟨d2,rfl⟩ := JC hv2; have hs2 := HS.out w2 hbl2; have hkr := HK2.out.below hbl2 (by rw [HSZ.out]; omega); obtain ⟨r0,r1,r2,r3,r4,r5,f0,f1,f2,f3,f4,f5⟩ := hkr.all6; have hkS := HSS.out w2 hbl2 (.bool d1.n) (.slice d1.u d1.nu d1.cu) (.slice d1.l d1.nl d1.cl) (.bool d2.n) (.slice d2.u d2.nu d2.cu) (.slice d2.l d2.nl d2.cl))
   )
 all_goals
  go_wp2
  obtain ⟨k0,k1,k2,k3,k4,k5,_,_,_,_,_,_⟩ := (hkr.put6 (.bool d1.n) (.slice d1.u d1.nu d1.cu) (.slice d1.l d1.nl d1.cl) (.bool d2.n) (.slice d2.u d2.nu d2.cu) (.slice d2.l d2.nl d2.cl)).all6
  refine bodyPost_ret (v := .agg #[.bool d1.n,.slice d1.u d1.nu d1.cu,.slice d1.l d1.nl d1.cl,.bool d2.n,.slice d2.u d2.nu d2.cu,.slice d2.l d2.nl d2.cl]) (by simp [results,Tryz.results59,go_sem,k0,k1,k2,k3,k4,k5]) rfl ⟨Below.put6 (HB0.out.trans (hbl2.mono HB0.out.size)) (by omega) (.bool d1.n) (.slice d1.u d1.nu d1.cu) (.slice d1.l d1.nl d1.cl) (.bool d2.n) (.slice d2.u d2.nu d2.cu) (.slice d2.l d2.nl d2.cl),_,rfl,?_⟩
  have hst := Stays.put6 hkr (by simp [Qm]) (.bool d1.n) (.slice d1.u d1.nu d1.cu) (.slice d1.l d1.nl d1.cl) (.bool d2.n) (.slice d2.u d2.nu d2.cu) (.slice d2.l d2.nl d2.cl) rfl rfl rfl rfl rfl rfl
  exact ⟨d1,d2,rfl,hst.qv (hv1.below hb2),hst.qv hv2⟩
theorem Gv {w : World} {va vb : Value} {ax ay bx bz : Rat} {k l : Nat} (ha : WV w va ax ay) (hb : WV w vb bx bz) (f1 : QS k ax) (f2 : QS k ay) (f3 : QS l bx) (f4 : QS l bz) (hk : k+l+1≤35184372088640) :
  Calls Tryz.prog 59 #[va,vb] w fun e w' => Below w.heap.size w w'∧∃ v,e=.returned v∧WV w' v (ax+bx) (ay+bz) := by
 obtain ⟨c1,c2,rfl,h1,h2⟩ := ha
 obtain ⟨c3,c4,rfl,h3,h4⟩ := hb
 exact DO h1 h2 h3 h4 f1 f2 f3 f4 hk
end Go.Proofs.YtnhplfjlhdpgoaaGreatDoor
/- ZWW -/
namespace Go.Proofs.YtnhplfjlhdpgoaaGreatDoor
open Go.RowKit Cx
def Wv (x y : Rat) : Fact := ⟨fun v w => WV w v x y,fun hg ⟨c,d,e,h1,h2⟩ => ⟨c,d,e,h1.grows hg,h2.grows hg⟩⟩
theorem Ym (x y : Rat) : Ut 6 (Wv x y) := fun v w h => by
 obtain ⟨c,d,e,_⟩ := h
 exact ⟨[.bool c.n,.slice c.u c.nu c.cu,.slice c.l c.nl c.cl,.bool d.n,.slice d.u d.nu d.cu,.slice d.l d.nl d.cl],e,rfl,by simp [Qm,Value.oneCell']⟩
theorem Ix : Tryz.prog.cellsOf 61=6 := by kernel_rfl
theorem XY {F : Fact} : Pc Tryz.prog 61 F F := fun w G ⟨cs,hk,hF,_,hln⟩ => by
 rw [Ix] at hln
 match cs,hln with
 | [x0,x1,x2,x3,x4,x5],_ =>
  refine ⟨.agg #[x0,x1,x2,x3,x4,x5],?_,hF⟩
  have k0 : w.cell? ⟨G,0,none⟩=some x0 := hk.cell 0
  have k1 : w.cell? ⟨G,1,none⟩=some x1 := hk.cell 1
  have k2 : w.cell? ⟨G,2,none⟩=some x2 := hk.cell 2
  have k3 : w.cell? ⟨G,3,none⟩=some x3 := hk.cell 3
  have k4 : w.cell? ⟨G,4,none⟩=some x4 := hk.cell 4
  have k5 : w.cell? ⟨G,5,none⟩=some x5 := hk.cell 5
  clear hk hF
  simp [go_sem,k0,k1,k2,k3,k4,k5]
theorem JR {F : Fact} (hc : Ut 6 F) : Fr Tryz.prog 61 F F := fun w G F0 v ⟨cs,hk,_,hno,hln⟩ hv => by
 obtain ⟨vs,rfl,hlv,hok⟩ := hc v w hv
 rw [Ix] at hln
 match cs,hln,vs,hlv with
 | [x0,x1,x2,x3,x4,x5],_,[y0,y1,y2,y3,y4,y5],_ =>
  have hbx : Boxed w G := ⟨_,_,hk,by decide,hno⟩
  have s0 := PB G w
  obtain ⟨w1,r0,b1,s1⟩ := Jr (P := Tryz.prog) hk s0 0 x0 y0 [y0,x1,x2,x3,x4,x5].toArray rfl (hok y0 (by simp)).2 rfl
  obtain ⟨w2,r1,b2,s2⟩ := Jr (P := Tryz.prog) b1 s1 1 x1 y1 [y0,y1,x2,x3,x4,x5].toArray rfl (hok y1 (by simp)).2 rfl
  obtain ⟨w3,r2,b3,s3⟩ := Jr (P := Tryz.prog) b2 s2 2 x2 y2 [y0,y1,y2,x3,x4,x5].toArray rfl (hok y2 (by simp)).2 rfl
  obtain ⟨w4,r3,b4,s4⟩ := Jr (P := Tryz.prog) b3 s3 3 x3 y3 [y0,y1,y2,y3,x4,x5].toArray rfl (hok y3 (by simp)).2 rfl
  obtain ⟨w5,r4,b5,s5⟩ := Jr (P := Tryz.prog) b4 s4 4 x4 y4 [y0,y1,y2,y3,y4,x5].toArray rfl (hok y4 (by simp)).2 rfl
  obtain ⟨w6,r5,b6,s6⟩ := Jr (P := Tryz.prog) b5 s5 5 x5 y5 [y0,y1,y2,y3,y4,y5].toArray rfl (hok y5 (by simp)).2 rfl
  refine ⟨w6,?_,s6,[y0,y1,y2,y3,y4,y5],b6,F.st (Grows.save s6 hbx) hv,YW hok,by rw [Ix]; rfl⟩
  clear b1 s1 b2 s2 b3 s3 b4 s4 b5 s5 b6 s6 s0 hbx hno hv hok hk
  simp [go_sem,r0,r1,r2,r3,r4,r5]
theorem Yd (w : World) : (Instr.alloc 61 true (.tuple #[])).run Tryz.prog w=.ok (.pointer (some ⟨w.heap.size,0,none⟩)) (w.alloc (.cells [.bool false,.slice none 0 0,.slice none 0 0,.bool false,.slice none 0 0,.slice none 0 0].toArray 61)) := by
 simp [go_sem]
theorem UX (w : World) : Any.on (.agg [.bool false,.slice none 0 0,.slice none 0 0,.bool false,.slice none 0 0,.slice none 0 0].toArray) w := trivial
theorem boxes_W {F : Fact} (hc : Ut 6 F) : Le 61 F := fun w v hv => by
 obtain ⟨vs,rfl,hlv,hok⟩ := hc v w hv
 match vs,hlv with
 | [y0,y1,y2,y3,y4,y5],_ =>
  refine ⟨[y0,y1,y2,y3,y4,y5],?_,rfl,YW hok,by rw [Ix]; rfl⟩
  clear hv hok
  simp [go_sem]
theorem Jk {P : Program} {f : FuncId} {fn : Func} {c : Code} {Fs : List Fact} {vs : List Value} {bx : List (Nat × TypeId × Fact)} {n : Nat} {w0 w : World} {R : Ending→World→Prop} (hf : P.funcs[f]? = some fn) (hb : fn.body=some c) (hn : fn.ntmps=n) (hle : Fs.length≤n)
  (bel : Below w0.heap.size w0 w) (hall : All2 w Fs vs) (hbx : ∀ (k G : Nat) (t : TypeId) (F : Fact),bx[k]? = some (G,t,F)→w0.heap.size≤G∧BoxIs w G t F) (hnd : (bx.map (·.1)).Nodup)
  (h : ∀ a : Act,AS w0 n (numb 0 Fs) bx a w→c.wp P (bodyPost P fn R) a w) : Calls P f vs.toArray w R := by
 refine calls_of_wp hf hb (h _ ⟨bel,?_,rfl,?_,hbx,hnd⟩)
 ·have := hall.len
  simp [hn]
  omega
 ·intro t G hm
  obtain ⟨k,e,hk⟩ := Kg hm
  rw [Nat.zero_add] at e
  subst e
  obtain ⟨v,hv,hG⟩ := hall.get hk
  have hlt : t < vs.length := (List.getElem?_eq_some_iff.1 hv).1
  have : (vs.toArray ++ Array.replicate (fn.ntmps - vs.toArray.size) undef).getD t undef=v := by
   rw [Array.getD_eq_getD_getElem?,Array.getElem?_append_left (by simpa using hlt)]
   simp [hv]
  rw [this]
  exact hG
def IG (B : Nat) (w : World) : World := { w with heap := w.heap.extract 0 B }
theorem Wy {B : Nat} {w : World} (h : B≤w.heap.size) : (IG B w).heap.size=B := by
 simp [IG]
 omega
theorem Cq {B : Nat} {w : World} (h : B≤w.heap.size) : Below (IG B w).heap.size (IG B w) w := by
 rw [Wy h]
 exact ⟨rfl,rfl,rfl,by rw [Wy h]; exact h,fun k hk => by
  simp only [IG,Array.getElem?_extract]
  rw [if_pos (by omega),Nat.zero_add]⟩
theorem EW {B : Nat} {w w' : World} (h : B≤w.heap.size) (hb : Below (IG B w).heap.size (IG B w) w') (hs : w.heap.size≤w'.heap.size) : Below B w w' := by
 rw [Wy h] at hb
 exact ⟨hb.os,hb.tape,hb.output,hs,fun k hk => by
  rw [hb.block k hk]
  simp only [IG,Array.getElem?_extract]
  rw [if_pos (by omega),Nat.zero_add]⟩
theorem Re (vs : Array Value) (w : World) : (callFunc 60 vs).run Tryz.prog w=.ok (.enter 60 vs) w := QY Tryz.func60 (by kernel_rfl) (by kernel_rfl) vs w
theorem Tg (vs : Array Value) (w : World) : (callFunc 59 vs).run Tryz.prog w=.ok (.enter 59 vs) w := QY Tryz.func59 (by kernel_rfl) (by kernel_rfl) vs w
theorem Me {x y q : Rat} {k l : Nat} (f1 : QS k x) (f2 : QS k y) (f3 : QS l q) (hk : k+l+1≤35184372088640) : Con Tryz.prog Zx 60 [Wv x y,Qv q] (Wv (x*q) (y*q)) := fun w vs _ h => by
 obtain ⟨u,v,rfl,h0,h1⟩ := Yi h
 exact (TP h0 h1 f1 f2 f3 hk).mono fun e w' ⟨hb,v,e1,h⟩ => ⟨hb,v,e1,h⟩
theorem Ex {x y u v : Rat} {k l : Nat} (f1 : QS k x) (f2 : QS k y) (f3 : QS l u) (f4 : QS l v) (hk : k+l+1≤35184372088640) : Con Tryz.prog Zx 59 [Wv x y,Wv u v] (Wv (x+u) (y+v)) := fun w vs _ h => by
 obtain ⟨p,q,rfl,h0,h1⟩ := Yi h
 exact (Gv h0 h1 f1 f2 f3 f4 hk).mono fun e w' ⟨hb,v,e1,h⟩ => ⟨hb,v,e1,h⟩
end Go.Proofs.YtnhplfjlhdpgoaaGreatDoor
/- VA -/
namespace Cx
open Go
abbrev AC := Sum Value (Nat × Nat × Nat × Nat × Nat)
abbrev A1 := Bool × List AC
abbrev AV := Bool × List A1
abbrev HB := Nat × List AC
abbrev Nd := Nat × List Nat
structure Sx where
 P : Program
 N : List Nd
 H : List (Nat × Nat × Nat × Nat)
 K : List (FuncId × List AC)
 L : List (List Nat × Nat)
 pr : List (FuncId × Nat)
 nb : List Nat
 eqT : List (TypeId × Nat)
 Z : List Nat
 C : List (List Nat × Nat)
def v1 (c : AC) : AV := (false,[(false,[c])])
def vA (cs : List AC) : AV := (false,[(true,cs)])
def kB (b : Bool) : AV := v1 (.inl (.bool b))
def kI (z : Int) : AV := v1 (.inl (.int .i64 z))
def ptr (b o : Nat) : AC := .inr (3,b,o,0,0)
def slc (b o n c : Nat) : AC := .inr (4,b,o,n,c)
def ifO {α : Type} (b : Bool) (x : Option α) : Option α := bif b then x else none
def ZX {α β : Type} (f : α→Option β) : List α→Option (List β)
 | [] => some []
 | a :: ar => (f a).bind fun b => (ZX f ar).map fun bs => b :: bs
def OZ : List Nat→List Nat→Bool
 | [],[] => true
 | a :: ar,b :: bs => Nat.beq a b && OZ ar bs
 | _,_ => false
def JU (b : Nat) : List Nat→Bool
 | [] => false
 | c :: cs => Nat.beq b c || JU b cs
def meets : List Nat→List Nat→Bool
 | [],_ => false
 | a :: ar,bs => JU a bs || meets ar bs
def asC : AV→Option AC
 | (false,[(false,[c])]) => some c
 | _ => none
def asA : AV→Option (List AC)
 | (false,[(true,cs)]) => some cs
 | _ => none
def asL : AV→Option (List AC)
 | (false,[(true,cs)]) => some cs
 | (false,[(false,[c])]) => some [c]
 | _ => none
def asT : AV→Option (List A1)
 | (true,xs) => some xs
 | _ => none
def acB : AC→Option Bool
 | .inl (.bool b) => some b
 | _ => none
def acI : AC→Option Int
 | .inl (.int .i64 z) => some z
 | _ => none
def acP : AC→Option (Nat × Nat)
 | .inr (k,b,o,_,_) => ifO (Nat.beq k 3) (some (b,o))
 | _ => none
def acS : AC→Option (Nat × Nat × Nat × Nat)
 | .inr (k,b,o,n,c) => ifO (Nat.beq k 4) (some (b,o,n,c))
 | _ => none
def acR : AC→Option (Nat × Nat × Nat)
 | .inr (k,b,o,n,_) => ifO (Nat.beq k 4 || Nat.beq k 6) (some (b,o,n))
 | _ => none
def acO : AC→Option (Nat × Nat × Nat × Nat)
 | .inr (k,b,o,n,c) => ifO (Nat.beq k 6) (some (b,o,n,c))
 | _ => none
def Vj : AC→Bool
 | .inl (.slice none 0 0) => true
 | _ => false
def acE : AC→Option Nat
 | .inr (k,f,_) => ifO (Nat.beq k 7) (some f)
 | _ => none
def acH : AC→Option (Nat × Nat × Nat)
 | .inr (k,a,o,n,_) => ifO (Nat.beq k 8) (some (a,o,n))
 | _ => none
def acHP : AC→Option (Nat × Nat)
 | .inr (k,a,o,_,_) => ifO (Nat.beq k 9) (some (a,o))
 | _ => none
def acHL : AC→Option Nat
 | .inr (k,a,_,_,_) => ifO (Nat.beq k 10) (some a)
 | _ => none
def Bf (c : AC) : Option Nat := bif Vj c then some 0 else match acE c with
 | some _ => some 0
 | none => match acH c with
  | some p => some p.2.2
  | none => (acR c).map (·.2.2)
def acF : AC→Option Nat
 | .inr (k,i,_,_,_) => ifO (Nat.beq k 5) (some i)
 | _ => none
def acX (k' : Nat) : AC→Option Nat
 | .inr (k,j,a,_,_) => ifO (Nat.beq k 0 && Nat.beq j k') (some a)
 | _ => none
def acSg : AC→Option Nat
 | .inr (k,j,a,_,_) => ifO (Nat.beq k 0 && (Nat.beq j 4 || Nat.beq j 5)) (some a)
 | _ => none
def asB (v : AV) : Option Bool := (asC v).bind acB
def asI (v : AV) : Option Int := (asC v).bind acI
def asP (v : AV) : Option (Nat × Nat) := (asC v).bind acP
def asS (v : AV) : Option (Nat × Nat × Nat × Nat) := (asC v).bind acS
def asR (v : AV) : Option (Nat × Nat × Nat) := (asC v).bind acR
def asO (v : AV) : Option (Nat × Nat × Nat × Nat) := (asC v).bind acO
def Ni (f : Nat) : AC := .inr (7,f,0,0,0)
def asN (v : AV) : Option Nat := (asI v).bind fun z => match z with
 | .ofNat n => some n
 | _ => none
def YR (b : Nat) : List HB→Option (List AC)
 | [] => none
 | (c,x) :: h => bif Nat.beq b c then some x else YR b h
def IJ (b : Nat) (cs : List AC) : List HB→List HB
 | [] => []
 | (c,x) :: h => (bif Nat.beq b c then (b,cs) else (c,x)) :: IJ b cs h
def Vw (t : Nat) : List (Nat × AV)→Option AV
 | [] => none
 | (u,v) :: tm => bif Nat.beq t u then some v else Vw t tm
def Mn (t : Nat) : List (Nat × AV)→List (Nat × AV)
 | [] => []
 | (u,v) :: tm => bif Nat.beq t u then Mn t tm else (u,v) :: Mn t tm
def Fc (op : Nat) (ar : List Nat) : Nat→List Nd→Option Nat
 | _,[] => none
 | i,(p,bs) :: ns => bif Nat.beq op p && OZ ar bs then some i else Fc op ar (i+1) ns
def Sx.nd (S : Sx) (op : Nat) (ar : List Nat) : Option Nat := Fc op ar 0 S.N
def YO (k a b : Nat) : List (Nat × Nat × Nat × Nat)→Option Nat
 | [] => none
 | (k',a',b',r) :: hs => bif Nat.beq k k' && (Nat.beq a a' && Nat.beq b b') then some r else YO k a b hs
def Sx.kn (S : Sx) (k a b : Nat) : Option Nat := YO k a b S.H
def Pg : Value→Bool
 | .int .u32 _ => false
 | _ => true
def okV (v : Value) : Bool := Pg v && v.oneCell'
def Oo (P : Program) (t : TypeId) : Option Bool := (P.underlying t).map fun d => match d with
 | .struct _ => true
 | .array _ _ => true
 | _ => false
def Zh (P : Program) (t : TypeId) : Option Nat := (P.info? t).map (·.size)
def Yp (P : Program) (t : TypeId) : Option (List AC) :=
 (P.info? t).bind fun i => i.zero.bind fun z => ifO (z.cells.toList.all okV) (some (z.cells.toList.map Sum.inl))
def Vd (P : Program) (t : TypeId) : Option (List Field) := (P.underlying t).bind fun d => match d with
 | .struct fs => some fs.toList
 | _ => none
def YL (P : Program) (t : TypeId) : Option (Nat × TypeId) := (P.underlying t).bind fun d => match d with
 | .array n e => some (n,e)
 | _ => none
def ZH (P : Program) (t : TypeId) : Option TypeId := (P.underlying t).bind fun d => match d with
 | .slice e => some e
 | _ => none
def Vc (P : Program) (t : TypeId) (cs : List AC) (o : Nat) : Option AV :=
 (Oo P t).bind fun a => (Zh P t).bind fun n =>
  bif a then ifO (Nat.ble (o+n) cs.length) (some (vA ((cs.drop o).take n))) else cs[o]?.map v1
def Tn (cs : List AC) (o : Nat) (ds : List AC) : Option (List AC) :=
 ifO (Nat.ble (o+ds.length) cs.length) (some (cs.take o ++ (ds ++ cs.drop (o+ds.length))))
def Rz (place : Nat→Option (Nat × Nat)) : List AC→List (Nat × List AC)→Option (List AC)
 | cs,[] => some cs
 | cs,(i,ds) :: ps => (place i).bind fun p => ifO (Nat.beq ds.length p.2) ((Tn cs p.1 ds).bind fun cs' => Rz place cs' ps)
structure OR where
 res : Option AV
 rd : List Nat
 wr : List Nat
 h : List HB
 nx : Nat
def QO (h : List HB) (nx : Nat) (v : AV) : OR := { res := some v,rd := [],wr := [],h := h,nx := nx }
def Gw (h : List HB) (nx : Nat) (cs : List AC) (c : AC) : OR := { res := some (v1 c),rd := [],wr := [],h := h ++ [(nx,cs)],nx := nx+1 }
def eqvB : Value→Value→Bool
 | .pointer none,.pointer none => true
 | .bool a,.bool b => a == b
 | .int .i64 x,.int .i64 y => decide (x=y)
 | .slice none 0 0,.slice none 0 0 => true
 | .string a,.string b => decide (a=b)
 | _,_ => false
def EL : List AC→List AC→Bool
 | [],[] => true
 | .inr (k,a,b,c,d) :: x,.inr (k',a',b',c',d') :: y => (Nat.beq k k' && (Nat.beq a a' && (Nat.beq b b' && (Nat.beq c c' && Nat.beq d d')))) && EL x y
 | _,_ => false
def FM : List AC→List AC→Bool
 | [],[] => true
 | .inr (k,a,b,c,d) :: x,.inr (k',a',b',c',d') :: y => (Nat.beq k k' && (Nat.beq a a' && (Nat.beq b b' && (Nat.beq c c' && Nat.beq d d')))) && FM x y
 | .inl u :: x,.inl v :: y => eqvB u v && FM x y
 | _,_ => false
def SF : List AC→Bool
 | [] => true
 | .inr (k,_) :: cs => !Nat.beq k 5 && SF cs
 | .inl _ :: cs => SF cs
def Pb (K : List (FuncId × List AC)) : List AC→Bool
 | [] => true
 | .inr (k,a,_) :: cs => (!Nat.beq k 5 || (match K[a]? with
  | some (_,ds) => SF ds
  | none => false)) && Pb K cs
 | .inl _ :: cs => Pb K cs
def WP (f : FuncId) (cs : List AC) : Nat→List (FuncId × List AC)→Option Nat
 | _,[] => none
 | i,(g,ds) :: ks => bif Nat.beq f g && EL cs ds then some i else WP f cs (i+1) ks
def Hf (S : Sx) : Nat→AC→List Nat
 | _,.inl _ => []
 | 0,.inr (k,b,_) => bif Nat.beq k 3 || (Nat.beq k 4 || Nat.beq k 6) then [b] else []
 | d+1,.inr (k,b,_) => bif Nat.beq k 3 || (Nat.beq k 4 || Nat.beq k 6) then [b] else bif Nat.beq k 5 then (match S.K[b]? with
   | some (_,cs) => cs.flatMap (Hf S d)
   | none => []) else []
def Av (S : Sx) (v : AV) : List Nat := v.2.flatMap fun x => x.2.flatMap (Hf S 2)
def Ej (S : Sx) (h : List HB) : Nat→List Nat→List Nat
 | 0,ids => ids
 | n+1,ids => match ids with
  | [] => []
  | _ => ids ++ Ej S h n (ids.flatMap fun b => match YR b h with
   | some cs => cs.flatMap (Hf S 2)
   | none => [])
def WZ (z : Int) : Bool := decide (-9223372036854775808≤z) && decide (z≤9223372036854775807)
def YF (op : BinOp) (x y : Int) : Option AV :=
 match op with
 | .add => ifO (WZ (x+y)) (some (kI (x+y)))
 | .sub => ifO (WZ (x - y)) (some (kI (x - y)))
 | .mul => ifO (WZ (x*y)) (some (kI (x*y)))
 | .eql => some (kB (x == y))
 | .neq => some (kB (x != y))
 | .lss => some (kB (decide (x < y)))
 | .leq => some (kB (decide (x≤y)))
 | .gtr => some (kB (decide (x > y)))
 | .geq => some (kB (decide (x ≥ y)))
 | .rem => ifO (!decide (y=0) && WZ (x.tmod y)) (some (kI (x.tmod y)))
 | .quo => ifO (decide (0≤x) && (decide (0 < y) && WZ (x / y))) (some (kI (x / y)))
 | _ => none
def sgnOp (S : Sx) (op : BinOp) (a : Nat) : Option Bool :=
 match op with
 | .eql => (S.kn 0 a 0).map (Nat.beq 1)
 | .neq => (S.kn 0 a 0).map (fun r => !Nat.beq 1 r)
 | .lss => (S.kn 1 a 0).map (Nat.beq 1)
 | .geq => (S.kn 1 a 0).map (fun r => !Nat.beq 1 r)
 | .gtr => (S.kn 2 a 0).map (Nat.beq 1)
 | .leq => (S.kn 2 a 0).map (fun r => !Nat.beq 1 r)
 | _ => none
def XU (bs : List Nat) : List (List Nat × Nat)→Option Nat
 | [] => none
 | (l,i) :: ls => bif OZ bs l then some i else XU bs ls
def ZV (s : ByteArray) : List Nat := s.data.toList.map UInt8.toNat
def Ih : AC→Option ByteArray
 | .inl (.string s) => some s
 | _ => none
def JB : AC→Option Nat
 | .inr (k,a,_) => ifO (Nat.beq k 1) (some a)
 | _ => none
def Ph : AC→Option Nat
 | .inr (k,a,_) => ifO (Nat.beq k 2) (some a)
 | _ => none
def zOk (S : Sx) (a : Nat) : Bool := match S.Z[a]? with
 | some z => Nat.ble z 6442450910
 | none => false
def DU (S : Sx) (c : AC) : Option Nat :=
 match JB c with
 | some a => ifO (zOk S a) (some a)
 | none => match Ph c with
  | some j => S.nd 1 [j]
  | none => (Ih c).bind fun s => XU (ZV s) S.L
def txEq (S : Sx) (c d : AC) : Option Bool :=
 match JB c with
 | some a => (match JB d with
  | some b => bif Nat.beq a b then some true else (S.kn 3 a b).map (Nat.beq 1)
  | none => (Ih d).bind fun s => (match ZV s with
   | [] => some false
   | l => (XU l S.C).bind fun b => (S.kn 4 a b).map (Nat.beq 1)))
 | none => (Ih c).bind fun s => (Ih d).map fun t => OZ (ZV s) (ZV t)
def Ep (S : Sx) : List AC→List AC→Option Bool
 | [],[] => some true
 | a :: ar,b :: bs => (txEq S a b).bind fun r => (Ep S ar bs).map fun s => r && s
 | _,_ => none
def sqF (S : Sx) : Nat→List Nat→Option Nat
 | s,[] => some s
 | s,a :: l => (S.nd 4 [a,a]).bind fun b => (S.nd 2 [s,b]).bind fun t => sqF S t l
def sqN (S : Sx) : List Nat→Option Nat
 | [] => none
 | a :: l => (S.nd 4 [a,a]).bind fun s => sqF S s l
def Ds (S : Sx) : List Nat→List Nat→Option (List Nat)
 | a :: l,b :: m => (S.nd 3 [a,b]).bind fun d => (Ds S l m).map fun r => d :: r
 | [],[] => some []
 | _,_ => none
def parEq (S : Sx) : List AC→List AC→Option Bool
 | [x,y],[u,v] => (JB x).bind fun a => (JB y).bind fun b => (Ph u).bind fun i => (Ph v).bind fun j => (S.nd 7 [a,b,i,j]).bind fun n => (S.kn 0 n 0).map (Nat.beq 1)
 | _,_ => none
def ME (S : Sx) (ar bs : List AC) : Option Bool := match Ep S ar bs with
 | some r => some r
 | none => match parEq S ar bs with
 | some r => some r
 | none => (ZX JB ar).bind fun l => (ZX JB bs).bind fun m => (Ds S l m).bind fun ds => (sqN S ds).bind fun s => (S.kn 0 s 0).map (Nat.beq 1)
def Ir (f : Nat) : List (FuncId × Nat)→Option Nat
 | [] => none
 | (g,c) :: l => bif Nat.beq f g then some c else Ir f l
def Fu (P : Program) (t : TypeId) : Bool := match P.underlying t with
 | some .bool => true
 | _ => false
def SP : List Int→List Int→Bool
 | [],[] => true
 | a :: l,b :: m => (a == b) && SP l m
 | _,_ => false
def arrZ (S : Sx) (op : BinOp) (t : TypeId) (x y : AV) : Option AV := (Ir t S.eqT).bind fun n => (asA x).bind fun ar => (asA y).bind fun bs => (ZX acI ar).bind fun l => (ZX acI bs).bind fun m => ifO (Nat.beq n (l.length+1000) && Nat.beq m.length l.length) (match op with
  | .eql => some (kB (SP l m))
  | .neq => some (kB (!SP l m))
  | _ => none)
def eqlB (S : Sx) (op : BinOp) (t : TypeId) (x y : AV) : Option AV :=
 match (asC x).bind fun a => (asC y).bind fun b => txEq S a b with
 | some r => (match op with
  | .eql => some (kB r)
  | .neq => some (kB (!r))
  | _ => none)
 | none => (Ir t S.eqT).bind fun n => (asA x).bind fun ar => (asA y).bind fun bs => ifO ((Nat.beq ar.length n && Nat.beq bs.length n) && Nat.blt n 1000) (match op with
  | .eql => (ME S ar bs).map kB
  | .neq => (ME S ar bs).map (fun r => kB (!r))
  | _ => none)
def FO (S : Sx) (a : Nat) : AV := match S.kn 5 a 0 with
 | some 0 => kI (-1)
 | some 1 => kI 0
 | some 2 => kI 1
 | _ => v1 (.inr (0,4,a,0,0))
def mulSg (S : Sx) (op : BinOp) (x y : AV) : Option AV :=
 match op with
 | .mul => ((asC x).bind (acX 4)).bind fun a => ((asC y).bind (acX 4)).bind fun b => (S.nd 4 [a,b]).map (FO S)
 | _ => none
def OI (S : Sx) : Int→Option Nat
 | .ofNat n => S.nd 0 [0,n,1]
 | .negSucc n => S.nd 0 [1,n+1,1]
def DP (S : Sx) (b : Int) (c : AC) : Option Nat := match acX 6 c with
 | some a => (OI S b).bind fun k => S.nd 3 [a,k]
 | none => (acSg c).bind fun a => ifO (decide (b=0)) (some a)
def zerOp (S : Sx) (op : BinOp) (b : Int) (a : Nat) : Option Bool := ifO (decide (b=0)) (match op with
 | .eql => (S.kn 0 a 0).map (Nat.beq 1)
 | .neq => (S.kn 0 a 0).map (fun r => !Nat.beq 1 r)
 | _ => none)
def nilS (P : Program) (op : BinOp) (t : TypeId) (x y : AV) : Option AV := (ZH P t).bind fun _ => (asC y).bind fun d => (asC x).bind fun c =>
 ifO (Vj d) ((bif Vj c then some true else (acR c).map fun _ => false).bind fun r => match op with
  | .eql => some (kB r)
  | .neq => some (kB (!r))
  | _ => none)
def Kn : AC→Bool
 | .inl (.pointer none) => true
 | _ => false
def nilP (P : Program) (op : BinOp) (t : TypeId) (x y : AV) : Option AV := (P.underlying t).bind fun u => (asC y).bind fun d => (asC x).bind fun c =>
 ifO (Kn d && (match u with
  | .pointer _ => true
  | _ => false)) ((bif Kn c then some true else (acX 0 c).map fun _ => false).bind fun r => match op with
  | .eql => some (kB r)
  | .neq => some (kB (!r))
  | _ => none)
def binB (S : Sx) (op : BinOp) (t : TypeId) (x y : AV) : Option AV :=
 match asI y with
 | some b => (match asI x with
  | some a => YF op a b
  | none => match (asC x).bind (acX 7) with
   | some a => (zerOp S op b a).map kB
   | none => ((asC x).bind (DP S b)).bind fun a => (sgnOp S op a).map kB)
 | none => match asB y with
  | some b => (asB x).bind fun a => ifO (Fu S.P t) (match op with
   | .eql => some (kB (a == b))
   | .neq => some (kB (a != b))
   | _ => none)
  | none => match mulSg S op x y with
   | some v => some v
   | none => match arrZ S op t x y with
   | some v => some v
   | none => match nilS S.P op t x y with
   | some v => some v
   | none => match nilP S.P op t x y with
   | some v => some v
   | none => eqlB S op t x y
def IE (d : Nat) : Option (Option AV)→Option Nat
 | none => some d
 | some (some x) => asN x
 | some none => none
def PZ (P : Program) (t : TypeId) (x : AV) (lo hi : Option (Option AV)) : Option AV :=
 match YL P t with
 | some (n,e) => (asP x).bind fun p => (IE n hi).bind fun h => (IE 0 lo).bind fun l => (Zh P e).bind fun z =>
   ifO (Nat.ble l h && (Nat.ble h n && Nat.blt l n)) (some (v1 (slc p.1 (p.2+l*z) (h - l) (n - l))))
 | none => (ZH P t).bind fun e => (Zh P e).bind fun z => match asS x with
  | some p => (IE p.2.2.1 hi).bind fun h => (IE 0 lo).bind fun l =>
    ifO (Nat.ble l h && Nat.ble h p.2.2.2) (some (v1 (bif Nat.blt l p.2.2.2 then slc p.1 (p.2.1+l*z) (h - l) (p.2.2.2 - l) else Ni 1)))
  | none => (asO x).bind fun p => (IE p.2.2.1 hi).bind fun h => (IE 0 lo).bind fun l =>
    ifO ((Nat.ble l h && Nat.ble h p.2.2.1) && Nat.beq z p.2.2.2) (some (v1 (bif Nat.blt l p.2.2.1 then .inr (6,p.1,p.2.1+l*z,h - l,z) else Ni 0)))
def sliceO (P : Program) (hp : List HB) (nx : Nat) (t : TypeId) (x : AV) (lo hi : Option (Option AV)) : Option OR :=
 (ZH P t).bind fun e => (Zh P e).bind fun z => (asO x).bind fun p => (IE p.2.2.1 hi).bind fun h => (IE 0 lo).bind fun l => (YR p.1 hp).bind fun cs =>
  ifO (((Nat.ble l h && Nat.ble (p.2.1+h*z) cs.length) && (Nat.blt (p.2.1+l*z) cs.length && Nat.blt 0 z)) && Nat.beq z p.2.2.2)
   (some { res := some (v1 (.inr (6,p.1,p.2.1+l*z,h - l,z))),rd := [p.1],wr := [],h := hp,nx := nx })
def CT (P : Program) (t : TypeId) (x : AV) (lo hi mx : Option (Option AV)) : Option AV :=
 (ZH P t).bind fun e => (Zh P e).bind fun z => (asO x).bind fun p => (IE p.2.2.1 mx).bind fun k => (IE p.2.2.1 hi).bind fun h => (IE 0 lo).bind fun l =>
  ifO (((Nat.ble l h && Nat.ble h k) && (Nat.ble k p.2.2.1 && Nat.blt l k)) && (hi.isSome && mx.isSome)) (some (v1 (slc p.1 (p.2.1+l*z) (h - l) (k - l))))
def Gc (a : Nat) : List AC := [.inr (0,1,a,0,0),.inr (0,2,a,0,0),.inr (0,3,a,0,0)]
def isZ3 : List AC→Bool
 | [.inl (.bool false),.inl (.slice none 0 0),.inl (.slice none 0 0)] => true
 | _ => false
def MV (S : Sx) : List AC→Option Nat
 | [x,y,z] => match acX 1 x with
  | some a => (acX 2 y).bind fun b => (acX 3 z).bind fun c => ifO (Nat.beq a b && Nat.beq a c) (some a)
  | none => ifO (isZ3 [x,y,z]) (S.nd 0 [0,0,1])
 | _ => none
def qN (S : Sx) (v : AV) : Option Nat := (asA v).bind (MV S)
def rN (v : AV) : Option Nat := (asC v).bind (acX 0)
def KX (h : List HB) (z : Nat) (v : AV) : Option (Nat × List AC) :=
 (asR v).bind fun p => (YR p.1 h).bind fun cs => ifO (Nat.ble (p.2.1+p.2.2*z) cs.length) (some (p.1,(cs.drop p.2.1).take (p.2.2*z)))
def Bb (S : Sx) : List AC→Option (List Nat)
 | [] => some []
 | a :: b :: c :: cs => (MV S [a,b,c]).bind fun i => (Bb S cs).map fun l => i :: l
 | _ => none
def Ei (S : Sx) (op : Nat) : Nat→List Nat→Option Nat
 | a,[] => some a
 | a,b :: l => (S.nd op [a,b]).bind fun c => Ei S op c l
def DQ (S : Sx) (op : Nat) : List Nat→Option Nat
 | [] => none
 | a :: l => Ei S op a l
def q1 (a : Nat) : AV := vA (Gc a)
def r1 (a : Nat) : AV := v1 (.inr (0,0,a,0,0))
def t1 (a : Nat) : AV := v1 (.inr (1,a,0,0,0))
def nzOk (S : Sx) (a : Nat) : Bool := match S.kn 0 a 0 with
 | some r => !Nat.beq 1 r
 | none => false
def Hx (S : Sx) (xs : List Nat) : Bool := xs.any fun a => xs.any fun b => match S.kn 6 a b with
 | some r => !Nat.beq 1 r
 | none => false
def isNilS (v : AV) : Bool := match asC v with
 | some (.inl (.slice none 0 0)) => true
 | _ => false
def GQ (S : Sx) (xs : List Nat) : Nat→List Nat→Bool
 | _,[] => true
 | i,a :: l => (match S.N[a]? with
  | some (op,ar) => Nat.beq op 8 && OZ ar (i :: xs)
  | none => false) && GQ S xs (i+1) l
def MM (S : Sx) (l : List Nat) : Option (List Nat) := match l with
 | a :: _ => (match S.N[a]? with
  | some (_,_ :: xs) => ifO (Nat.beq xs.length l.length && GQ S xs 0 l) (some xs)
  | _ => none)
 | [] => none
abbrev PRes := AV × List Nat × List HB × Nat
def ZU (nx : Nat) (r : Option AV) : Option PRes := r.map fun v => (v,[],[],nx)
def arg1 {α : Type} (f : AV→Option α) : List AV→Option α
 | [x] => f x
 | _ => none
def Oz {α : Type} (f : AV→AV→Option α) : List AV→Option α
 | [x,y] => f x y
 | _ => none
def arg0 {α : Type} (f : Option α) : List AV→Option α
 | [] => f
 | _ => none
def q2B (S : Sx) (op : Nat) (x y : AV) : Option AV := (qN S x).bind fun a => (qN S y).bind fun b => (S.nd op [a,b]).map q1
def r2B (S : Sx) (op : Nat) (x y : AV) : Option AV := (rN x).bind fun a => (rN y).bind fun b => (S.nd op [a,b]).map r1
def plainB (S : Sx) (h : List HB) (nx : Nat) (x y : AV) : Option PRes := (KX h 1 x).bind fun p => (ZX JB p.2).bind fun l => (MM S l).bind fun xs => ifO (isNilS y && ((xs.any (nzOk S) || Hx S xs) && (l.all (zOk S) && Nat.ble l.length 20))) (some (kB true,[p.1],[],nx))
def aheadOf (S : Sx) : List Nat→List AC→Option (List Nat)
 | [b,a],[c] => (acI c).bind fun z => ifO (decide (z=1)) (MM S [a,b])
 | _,_ => none
def plainA (S : Sx) (h : List HB) (nx : Nat) (x y : AV) : Option PRes := (KX h 1 x).bind fun p => (ZX JB p.2).bind fun l => (KX h 1 y).bind fun p' => (aheadOf S l p'.2).bind fun xs => ifO ((xs.any (nzOk S) || Hx S xs) && l.all (zOk S)) (some (kB true,[p.1,p'.1],[],nx))
def Dk (S : Sx) (a : Nat) : Option Nat := match S.N[a]? with
 | some (op,[s,n,d]) => ifO ((Nat.beq op 0 && Nat.beq s 0) && (Nat.beq d 1 && Nat.blt n 4611686018427387904)) (some n)
 | _ => none
def Dt (S : Sx) (a : Nat) : List (Nat × Nat × Nat × Nat)→Option Nat
 | [] => none
 | (k,b,c,_) :: hs => bif Nat.beq k 3 && Nat.beq a b then (match S.kn 3 a c with
  | some r => ifO (Nat.beq 1 r) (Dk S c)
  | none => none) else Dt S a hs
def Ct (S : Sx) (a : Nat) : Option Nat := match Dk S a with
 | some n => some n
 | none => Dt S a S.H
def SJ (S : Sx) (h : List HB) (nx : Nat) (code : Nat) (args : List AV) : Option PRes :=
 match code with
 | 0 => ZU nx (arg1 (fun x => (asC x).bind fun c => (DU S c).map q1) args)
 | 1 => ZU nx (arg1 (fun x => (qN S x).map t1) args)
 | 2 => ZU nx (Oz (q2B S 2) args)
 | 3 => ZU nx (Oz (q2B S 3) args)
 | 4 => ZU nx (Oz (q2B S 4) args)
 | 5 => ZU nx (Oz (q2B S 6) args)
 | 6 => ZU nx (arg1 (fun x => (qN S x).bind fun a => (S.nd 5 [a]).map q1) args)
 | 7 => ZU nx (arg1 (fun x => (qN S x).map (FO S)) args)
 | 8 => ZU nx (arg1 (fun x => (asI x).bind fun z => ifO (decide (-9223372036854775808 < z) && decide (z < 9223372036854775808)) ((OI S z).map q1)) args)
 | 9 => arg1 (fun x => (KX h 3 x).bind fun p => (Bb S p.2).bind fun l => (DQ S 2 l).bind fun a => ifO (Nat.ble l.length 20) (some (q1 a,[p.1],[],nx))) args
 | 10 => arg1 (fun x => (KX h 3 x).bind fun p => (Bb S p.2).bind fun l => (ZX (fun i => S.nd 8 (i :: l)) (List.range' 0 l.length)).bind fun ms => ifO (Nat.blt 0 l.length && Nat.ble l.length 20)
   (some (v1 (slc nx 0 l.length l.length),[p.1],[(nx,ms.flatMap Gc)],nx+1))) args
 | 11 => ZU nx (arg1 (fun x => (asA x).bind fun cs => (Bb S cs).bind fun l => match l with
   | [a,b] => (S.kn 6 a b).map fun r => kB (Nat.beq 1 r)
   | _ => none) args)
 | 12 => ZU nx (arg1 (fun x => (qN S x).bind fun a => (Ct S a).map fun (n : Nat) => (true,[(false,[.inl (.int .i64 (n : Int))]),(false,[.inl (.bool true)])])) args)
 | 13 => ZU nx (Oz (q2B S 11) args)
 | 14 => ZU nx (arg1 (fun x => (qN S x).bind fun a => (S.nd 9 [a]).bind fun b => (S.nd 10 [a]).map fun c => (true,[(true,Gc b),(true,Gc c)])) args)
 | 15 => ZU nx (Oz (fun x y => (qN S x).bind fun a => (qN S y).bind fun b => (S.nd 3 [a,b]).map (FO S)) args)
 | 20 => ZU nx (arg1 (fun x => (asC x).bind fun c => (DU S c).map r1) args)
 | 21 => ZU nx (arg1 (fun x => (rN x).map t1) args)
 | 22 => ZU nx (arg1 (fun x => (asI x).bind fun z => ifO (decide (-9223372036854775808 < z) && decide (z < 9223372036854775808)) ((OI S z).map r1)) args)
 | 23 => ZU nx (Oz (fun x y => (asN x).bind fun a => (asN y).bind fun b => ifO (Nat.blt 0 b && (Nat.blt a 9223372036854775808 && Nat.blt b 9223372036854775808)) ((S.nd 0 [0,a,b]).map r1)) args)
 | 24 => arg1 (fun x => (KX h 1 x).bind fun p => (ZX (acX 0) p.2).bind fun l => (DQ S 2 l).bind fun a => ifO (Nat.ble l.length 20) (some (r1 a,[p.1],[],nx))) args
 | 25 => arg1 (fun x => (KX h 1 x).bind fun p => (ZX (acX 0) p.2).bind fun l => (DQ S 4 l).bind fun a => ifO (Nat.ble l.length 20) (some (r1 a,[p.1],[],nx))) args
 | 26 => ZU nx (Oz (r2B S 3) args)
 | 27 => ZU nx (Oz (r2B S 6) args)
 | 28 => ZU nx (arg1 (fun x => (rN x).bind fun a => (S.nd 5 [a]).map r1) args)
 | 29 => ZU nx (Oz (fun x y => (rN x).bind fun a => (rN y).bind fun b => bif Nat.beq a b then some (kB true) else (S.kn 3 a b).map fun r => kB (Nat.beq 1 r)) args)
 | 30 => ZU nx (arg1 (fun x => (rN x).bind fun a => (S.kn 0 a 0).map fun r => kB (Nat.beq 1 r)) args)
 | 31 => ZU nx (arg1 (fun x => (rN x).map (FO S)) args)
 | 32 => arg1 (fun x => (KX h 1 x).bind fun p => (ZX JB p.2).bind fun l => ifO (l.all (zOk S) && Nat.ble l.length 20) (some (kB true,[p.1],[],nx))) args
 | 33 => Oz (fun x y => match plainB S h nx x y with
  | some r => some r
  | none => plainA S h nx x y) args
 | 34 => ZU nx (Oz (fun x y => (rN x).bind fun a => (rN y).bind fun b => (S.nd 3 [a,b]).map fun i => v1 (.inr (0,5,i,0,0))) args)
 | 35 => ZU nx (Oz (fun x y => (asA x).bind fun cs => (asA y).bind fun ds => (ZX (acX 0) cs).bind fun l => (ZX (acX 0) ds).bind fun m => match l,m with
   | [a,b],[c,d] => (S.nd 3 [a,c]).bind fun i => (S.nd 3 [b,d]).bind fun j => (S.kn 6 i j).map fun r => kB (Nat.beq 1 r)
   | _,_ => none) args)
 | 40 => ZU nx (arg0 (some (kB true)) args)
 | _ => none
def Kl (o : Oper) (j : Nat) : Bool := o.after.toList.any fun e => Nat.beq e.on j && Region.binds .any e
def inR (lo hi b : Nat) : Bool := Nat.ble lo b && Nat.blt b hi
abbrev WY := FuncId→List AV→List HB→Nat→Option (AV × List HB × Nat)
def MO (S : Sx) (h h2 : List HB) (R : List Nat) (v : AV) : List HB := match R,Av S v with
 | [],[] => h
 | _,_ => (h.filter fun b => !JU b.1 R) ++ h2
def Kq (b : Nat) (h h2 : List HB) : Bool :=
 (h.all fun x => !Nat.beq x.1 b || h2.any fun y => Nat.beq y.1 b && FM x.2 y.2) && (h2.all fun y => !Nat.beq y.1 b || h.any fun x => Nat.beq x.1 b && FM x.2 y.2)
def entB (P : Program) (f : FuncId) : Bool := match P.funcs[f]? with
 | some fn => !(fn.name == "runtime.NumGoroutine") && fn.body.isSome
 | none => false
def fnB (S : Sx) (call : WY) (f : FuncId) (args : List AV) (h : List HB) (nx : Nat) : Option OR :=
 ifO (entB S.P f) <| match Ir f S.pr with
 | some c => (SJ S h nx c args).bind fun p => ifO (Nat.ble nx p.2.2.2 && p.2.2.1.all (fun b => inR nx p.2.2.2 b.1))
   (some { res := some p.1,rd := p.2.1,wr := [],h := h ++ p.2.2.1,nx := p.2.2.2 })
 | none =>
  let h1 := h.filter fun b => JU b.1 (Ej S h 3 (args.flatMap (Av S)))
  let R := h1.map (·.1)
  (call f args h1 nx).bind fun p => ifO (Nat.ble nx p.2.2 && p.2.1.all (fun b => JU b.1 R || inR nx p.2.2 b.1))
   (some { res := some p.1,rd := R.filter (fun b => Kq b h1 p.2.1),wr := R,h := MO S h p.2.1 R p.1,nx := p.2.2 })
def DV (P : Program) (t : TypeId) : Option Nat := (P.info? t).map (·.bytes)
def Tj (c : AC) : Bool := Vj c || (match acE c with
 | some f => Nat.beq f 1
 | none => false)
def Au (S : Sx) (h : List HB) (nx : Nat) (e : TypeId) (s x : AC) : Option OR := (Zh S.P e).bind fun z => (Bf x).bind fun m =>
 bif Nat.beq m 0 then ifO (Vj s || ((acE s).isSome || ((acO s).isSome || (match acS s with
  | some p => Nat.ble p.2.2.1 p.2.2.2
  | none => false)))) (some (QO h nx (v1 s)))
 else (acR x).bind fun y => (YR y.1 h).bind fun ys => (DV S.P e).bind fun bt => (Yp S.P e).bind fun zc =>
  ifO (((Nat.blt 0 z && Nat.beq zc.length z) && (Nat.ble (y.2.1+y.2.2*z) ys.length && !JU e S.nb)) && (Nat.ble y.2.2 100000 && Nat.ble (200000*bt) 140737488355328))
   (bif Tj s then some { res := some (v1 (.inr (6,nx,0,y.2.2,z))),rd := [y.1],wr := [],h := h ++ [(nx,(ys.drop y.2.1).take (y.2.2*z))],nx := nx+1 }
   else match acS s with
    | some p => (YR p.1 h).bind fun xs => ifO ((Nat.blt p.2.2.2 (p.2.2.1+y.2.2) && Nat.ble p.2.2.1 100000) && Nat.ble (p.2.1+p.2.2.1*z) xs.length)
      (some { res := some (v1 (.inr (6,nx,0,p.2.2.1+y.2.2,z))),rd := [y.1,p.1],wr := [],h := h ++ [(nx,(xs.drop p.2.1).take (p.2.2.1*z) ++ (ys.drop y.2.1).take (y.2.2*z))],nx := nx+1 })
    | none => (acO s).bind fun p => (YR p.1 h).bind fun xs => ifO ((Nat.beq p.2.1 0 && (Nat.beq p.2.2.2 z && Nat.ble p.2.2.1 100000)) && (Nat.ble (p.2.2.1*z) xs.length && !Nat.beq y.1 p.1))
      (some { res := some (v1 (.inr (6,nx,0,p.2.2.1+y.2.2,z))),rd := [y.1],wr := [p.1],h := (h.filter fun b => !Nat.beq b.1 p.1) ++ [(nx,xs.take (p.2.2.1*z) ++ (ys.drop y.2.1).take (y.2.2*z))],nx := nx+1 }))
def AY (S : Sx) (h : List HB) (nx : Nat) (e : TypeId) (s x : AC) : Option OR := (Zh S.P e).bind fun z => (acO s).bind fun p => (acR x).bind fun y => (YR p.1 h).bind fun xs =>
 ifO (((Nat.beq p.1 y.1 && Nat.beq p.2.1 0) && (Nat.beq z p.2.2.2 && Nat.blt 0 z)) && ((Nat.ble (y.2.1+y.2.2*z) xs.length && Nat.ble ((p.2.2.1+y.2.2)*z) xs.length) && Nat.blt 0 y.2.2))
  ((Tn xs (p.2.2.1*z) ((xs.drop y.2.1).take (y.2.2*z))).map fun cs => { res := some (v1 (.inr (6,p.1,0,p.2.2.1+y.2.2,z))),rd := [],wr := [p.1],h := IJ p.1 cs h,nx := nx })
def appO (S : Sx) (h : List HB) (nx : Nat) (e : TypeId) (s x : AC) : Option OR := match AY S h nx e s x with
 | some r => some r
 | none => Au S h nx e s x
def isR : List Nat→Nat→Bool
 | u :: _,t => Nat.beq t u
 | [],_ => false
def Nb (a b : Nat) : Nat := bif Nat.ble a b then a else b
def Ho (P : Program) (h : List HB) (nx : Nat) (t : TypeId) (d s : AV) : Option OR := (ZH P t).bind fun e => (Zh P e).bind fun z => (asR d).bind fun p => (asR s).bind fun q => (YR p.1 h).bind fun ys => (YR q.1 h).bind fun xs =>
 ifO ((Nat.beq z 1 && !Nat.beq p.1 q.1) && Nat.ble (q.2.1+Nb q.2.2 p.2.2) xs.length) ((Tn ys p.2.1 ((xs.drop q.2.1).take (Nb q.2.2 p.2.2))).map fun cs => { res := some (kI (Nb q.2.2 p.2.2 : Nat)),rd := [q.1],wr := [p.1],h := IJ p.1 cs h,nx := nx })
def repL (cs : List AC) : Nat→List AC
 | 0 => []
 | n+1 => cs ++ repL cs n
def Am (P : Program) (h : List HB) (nx : Nat) (t : TypeId) (x : AV) : Option OR := (ZH P t).bind fun e => (Zh P e).bind fun z => (Yp P e).bind fun zs => (asR x).bind fun p => (YR p.1 h).bind fun ys =>
 ifO ((Nat.beq zs.length 1 && Nat.beq z 1) && Nat.blt 0 p.2.2) ((Tn ys p.2.1 (repL zs p.2.2)).map fun cs => { res := some (true,[]),rd := [],wr := [p.1],h := IJ p.1 cs h,nx := nx })
def hdB (pr : List (FuncId × Nat)) : Bool := pr.any fun x => Nat.beq x.2 99
def Eb (K : List (FuncId × List AC)) (a : Nat) : Option (List AC) := K[a]?.bind fun e => match e.2 with
 | [.inl (.slice (some _) _ _),.inl (.int .i64 (.ofNat t)),.inl (.int .i64 (.ofNat n))] => some ((List.range' t n).map fun j => .inr (2,j,0,0,0))
 | _ => none
def repB (cs : List AC) : Nat→List AC
 | 0 => []
 | n+1 => cs ++ repB cs n
def mkB (P : Program) (nb : List Nat) (h : List HB) (nx : Nat) (t : TypeId) (l c : AV) : Option OR := (asN l).bind fun n => (asN c).bind fun m => (ZH P t).bind fun e => (Zh P e).bind fun z => (DV P e).bind fun bt => (Yp P e).bind fun zc =>
 ifO ((Nat.beq n m && Nat.ble n 100000) && Nat.ble (100000*bt) 281474976710656) (bif Nat.beq n 0 then some (QO h nx (v1 (Ni 1)))
  else ifO ((Nat.beq zc.length z && Nat.blt 0 z) && !JU e nb) (some (Gw h nx (repB zc n) (slc nx 0 n n))))
def strT (P : Program) (t : TypeId) : Bool := match P.underlying t with
 | some .string => true
 | _ => false
def lenS (P : Program) (ρ : Operand→Option AV) (c : Call) : Option Nat := c.argTypes.toList.head?.bind fun t => ifO (strT P t) ((ZX ρ c.args.toList).bind fun args => arg1 (fun v => (asC v).bind fun c => (Ih c).map fun s => s.size) args)
def opB (S : Sx) (call : WY) (ρ : Operand→Option AV) (h : List HB) (nx : Nat) (op : Op) : Option OR :=
 match op with
 | .move x => (ρ x).map (QO h nx)
 | .assign x => (ρ x).map (QO h nx)
 | .pick c a b => (ρ c).bind fun v => (asB v).bind fun t => (ρ (bif t then a else b)).map (QO h nx)
 | .sliceToArrayPointer t x => (YL S.P t).bind fun n => (ρ x).bind fun v => ((asC v).bind acR).bind fun p => ifO (Nat.ble n.1 p.2.2) (some (QO h nx (v1 (ptr p.1 p.2.1))))
 | .nilCheck x => (ρ x).bind fun v => (asP v).map fun _ => QO h nx v
 | .extract x k => (ρ x).bind fun v => (asT v).bind fun vs => vs[k]?.map fun y => QO h nx (false,[y])
 | .alloc t => bif isR S.nb t then (S.nd 0 [0,0,1]).map fun i => QO h nx (r1 i) else ifO (!JU t S.nb) ((Yp S.P t).map fun cs => Gw h nx cs (ptr nx 0))
 | .box t x => ifO (!JU t S.nb) ((ρ x).bind fun v => (asL v).map fun cs => Gw h nx cs (ptr nx 0))
 | .load t x => (ρ x).bind fun v => match (asC v).bind acHP with
  | some p => ifO (hdB S.pr) ((Eb S.K p.1).bind fun cs => (Vc S.P t cs p.2).map (QO h nx))
  | none => (asP v).bind fun p => (YR p.1 h).bind fun cs => (Vc S.P t cs p.2).map fun r => { res := some r,rd := [p.1],wr := [],h := h,nx := nx }
 | .store t x y => (ρ x).bind fun v => (asP v).bind fun p => (ρ y).bind fun u => (asL u).bind fun ds => (YR p.1 h).bind fun cs => (Zh S.P t).bind fun n =>
   ifO (Nat.beq ds.length n) ((Tn cs p.2 ds).map fun cs' => { res := none,rd := [],wr := [p.1],h := IJ p.1 cs' h,nx := nx })
 | .fieldAddr t x f => (Vd S.P t).bind fun fs => (ρ x).bind fun v => (asP v).bind fun p => fs[f]?.bind fun g => (Zh S.P g.type).bind fun n =>
   ifO (Nat.blt 0 n) (some (QO h nx (v1 (ptr p.1 (p.2+g.offset)))))
 | .field t x f => (Vd S.P t).bind fun fs => (ρ x).bind fun v => (asA v).bind fun cs => fs[f]?.bind fun g => (Vc S.P g.type cs g.offset).map (QO h nx)
 | .indexAddr t x i => (ρ x).bind fun v => (ρ i).bind fun u => (asN u).bind fun k => match YL S.P t with
  | some (n,e) => (asP v).bind fun p => (Zh S.P e).bind fun z => ifO (Nat.blt k n) (some (QO h nx (v1 (ptr p.1 (p.2+k*z)))))
  | none => (ZH S.P t).bind fun e => (Zh S.P e).bind fun z => match (asC v).bind acH with
   | some p => ifO (Nat.blt k p.2.2) (some (QO h nx (v1 (.inr (9,p.1,p.2.1+k*z,0,0)))))
   | none => (asR v).bind fun p => ifO (Nat.blt k p.2.2) (some (QO h nx (v1 (ptr p.1 (p.2.1+k*z)))))
 | .index t x i => (YL S.P t).bind fun a => (ρ x).bind fun v => (asA v).bind fun cs => (ρ i).bind fun u => (asN u).bind fun k => (Zh S.P a.2).bind fun z =>
   ifO (Nat.blt k a.1) ((Vc S.P a.2 cs (k*z)).map (QO h nx))
 | .slice t x lo hi mx => bif mx.isNone then ((ρ x).bind fun v => match PZ S.P t v (lo.map ρ) (hi.map ρ) with
   | some y => some (QO h nx y)
   | none => sliceO S.P h nx t v (lo.map ρ) (hi.map ρ)) else (ρ x).bind fun v => (CT S.P t v (lo.map ρ) (hi.map ρ) (mx.map ρ)).map (QO h nx)
 | .build t parts => (Yp S.P t).bind fun z => (ZX (fun p => (ρ p.2).bind fun v => (asL v).map fun cs => (p.1,cs)) parts.toList).bind fun ps =>
   match Vd S.P t with
   | some fs => (ZX (fun g => (Zh S.P g.type).map fun n => (g.offset,n)) fs).bind fun pl => (Rz (fun i => pl[i]?) z ps).map fun cs => QO h nx (vA cs)
   | none => (YL S.P t).bind fun a => (Zh S.P a.2).bind fun n => (Rz (fun i => some (i*n,n)) z ps).map fun cs => QO h nx (vA cs)
 | .buildSlice t len parts => bif Nat.beq len 0 then (ZH S.P t).bind fun e => (Zh S.P e).bind fun _ => ifO parts.toList.isEmpty (some (QO h nx (v1 (Ni 1)))) else (ZH S.P t).bind fun e => (Zh S.P e).bind fun n => (ZX (fun p => (ρ p.2).bind asL) parts.toList).bind fun ps =>
   ifO ((!JU e S.nb && (OZ (parts.toList.map (·.1)) (List.range' 0 len) && (Yp S.P e).isSome)) && (ps.all (fun cs => Nat.beq cs.length n) && (Nat.ble (len*n) 16777216 && (Nat.blt 0 len && Nat.blt 0 n))))
    (some (Gw h nx ps.flatten (slc nx 0 len len)))
 | .makeSlice t l c => (ρ l).bind fun u => (ρ c).bind fun v => mkB S.P S.nb h nx t u v
 | .unOp .not _ x => (ρ x).bind fun v => (asB v).map fun t => QO h nx (kB (!t))
 | .unOp .neg _ x => (ρ x).bind fun v => (asI v).bind fun z => ifO (WZ (-z)) (some (QO h nx (kI (-z))))
 | .binOp op t x y _ => (ρ x).bind fun a => (ρ y).bind fun b => (binB S op t a b).map (QO h nx)
 | .makeFunc (.func f) first captured => ifO first.toList.isEmpty ((ZX (fun x => (ρ x).bind asC) captured.toList).bind fun cs =>
   ifO (Pb S.K cs) ((WP f cs 0 S.K).map fun i => QO h nx (v1 (.inr (5,i,0,0,0)))))
 | .call c => match c.callee with
  | .value (.func f) => (ZX ρ c.args.toList).bind fun args => fnB S call f args h nx
  | .value x => (ρ x).bind fun v => ((asC v).bind acF).bind fun k => (ZX ρ c.args.toList).bind fun args => S.K[k]?.bind fun p => fnB S call p.1 (args ++ p.2.map v1) h nx
  | .builtin .len => match lenS S.P ρ c with
   | some n => some (QO h nx (kI (n : Int)))
   | none => c.argTypes.toList.head?.bind fun t => (ZH S.P t).bind fun _ => (ZX ρ c.args.toList).bind fun args => arg1 (fun v => (asC v).bind fun c => match acHL c with
    | some a => some (QO h nx (v1 (.inr (0,6,a,0,0))))
    | none => (Bf c).map fun (n : Nat) => QO h nx (kI (n : Int))) args
  | .builtin .append => match c.args.toList,c.argTypes.toList with
   | [s,x],[t,t'] => ifO (Nat.beq t t') ((ZH S.P t).bind fun e => (ρ s).bind fun u => (asC u).bind fun cs => (ρ x).bind fun v => (asC v).bind fun cx => appO S h nx e cs cx)
   | _,_ => none
  | .builtin .copy => match c.args.toList,c.argTypes.toList with
   | [d,s],[t,_] => (ρ d).bind fun u => (ρ s).bind fun v => Ho S.P h nx t u v
   | _,_ => none
  | .builtin .clear => match c.args.toList,c.argTypes.toList with
   | [x],[t] => (ρ x).bind fun v => Am S.P h nx t v
   | _,_ => none
  | .builtin .max => match c.args.toList with
   | [x,y] => (ρ x).bind fun u => (asI u).bind fun a => (ρ y).bind fun v => (asI v).map fun b => QO h nx (kI (if b > a then b else a))
   | _ => none
  | .builtin .min => match c.args.toList with
   | [x,y] => (ρ x).bind fun u => (asI u).bind fun a => (ρ y).bind fun v => (asI v).map fun b => QO h nx (kI (if b < a then b else a))
   | _ => none
  | _ => none
 | _ => none
abbrev Rg := List (Option Tmp × Option AV)
def Vg (t : Tmp) : Nat→Rg→Option (Nat × Option AV)
 | _,[] => none
 | j,(d,r) :: ps => match d with
  | some u => bif Nat.beq t u then some (j,r) else Vg t (j+1) ps
  | none => Vg t (j+1) ps
def LL (t : Tmp) (i : Nat) (os : List Oper) : Bool := os.all fun o => match o.dst with
 | some u => !Nat.beq t u || Kl o i
 | none => true
def Mx (K : List (FuncId × List AC)) (tm : List (Nat × AV)) (prev : Rg) (i : Nat) (o : Oper) (later : List Oper) : Operand→Option AV
 | .const v => ifO (okV v) (some (v1 (.inl v)))
 | .tmp t => match Vg t 0 prev with
  | some (j,r) => ifO (Kl o j) r
  | none => ifO (LL t i later) (Vw t tm)
 | .func f => (WP f [] 0 K).map fun i => v1 (.inr (5,i,0,0,0))
 | _ => none
def skV : AV := (true,[])
def An : AV→Option (Option Bool)
 | (true,[]) => some none
 | (c,xs) => (asB (c,xs)).map some
def SG (prev : Rg) (o : Oper) : Option Bool :=
 match o.guard with
 | none => some true
 | some (j,b) => prev[j]?.bind fun p => p.2.bind fun v => (An v).bind fun c => ifO (Kl o j && p.1.isSome) (some (c == some b))
def Tv (S : Sx) (call : WY) (tm : List (Nat × AV)) : Nat→List Oper→Rg→List HB→Nat→Option (List OR)
 | _,[],_,_,_ => some []
 | i,o :: os,prev,h,nx => (SG prev o).bind fun wt =>
   (bif wt then opB S call (Mx S.K tm prev i o os) h nx o.op else some { res := some skV,rd := [],wr := [],h := h,nx := nx }).bind fun r =>
    ifO ((r.rd.all (Nat.blt · nx) && r.wr.all (Nat.blt · nx)) && r.wr.all (fun b => !JU b r.rd || Kq b h r.h)) ((Tv S call tm (i+1) os (prev ++ [(o.dst,r.res)]) r.h r.nx).map fun l => r :: l)
def wrs (r : OR) : List Nat := r.wr.filter fun b => !JU b r.rd
def Ku (lo : Nat) (a b : OR) : Bool := meets (wrs a) b.rd || (meets (wrs a) (wrs b) || (meets a.rd (wrs b) || (b.rd.any (inR lo a.nx) || b.wr.any (inR lo a.nx))))
def Pj (all : List Oper) : Nat→Oper→Nat→Bool
 | 0,o,i => Kl o i
 | n+1,o,i => Kl o i || o.after.toList.any fun e => Region.binds .any e && (match all[e.on]? with
  | some o' => Pj all n o' i
  | none => false)
def orderedFrom (all : List Oper) (lo : Nat) (i : Nat) (a : OR) : List Oper→List OR→Bool
 | o :: os,b :: bs => (!Ku lo a b || Pj all 3 o i) && orderedFrom all lo i a os bs
 | _,_ => true
def orderedB (all : List Oper) : Nat→Nat→List Oper→List OR→Bool
 | i,lo,_ :: os,a :: ar => orderedFrom all lo i a os ar && orderedB all (i+1) a.nx os ar
 | _,_,_,_ => true
def Em : List (Nat × AV)→List Oper→List OR→List (Nat × AV)
 | tm,o :: os,r :: rs => Em (match o.dst with
  | none => tm
  | some t => match r.res with
   | some v => (t,v) :: Mn t tm
   | none => Mn t tm) os rs
 | tm,_,_ => tm
def WU (h : List HB) : List OR→List HB
 | [] => h
 | r :: rs => WU r.h rs
def Vq (n : Nat) : List OR→Nat
 | [] => n
 | r :: rs => Vq r.nx rs
def Cd (n : Nat) : List Nat→List Oper→Bool
 | _,[] => true
 | seen,o :: os => match o.dst with
  | none => Cd n seen os
  | some t => Nat.blt t n && (!JU t seen && Cd n (t :: seen) os)
structure St where
 tm : List (Nat × AV)
 h : List HB
 nx : Nat
def Eh (f : St→Option (Nat × St)) : Nat→St→Option (Nat × St)
 | 0,_ => none
 | n+1,s => (f s).bind fun r => bif Nat.beq r.1 0 then Eh f n r.2 else some r
def Oj (S : Sx) (call : WY) (n : Nat) : Code→St→Option (Nat × St)
 | .skip,s => some (0,s)
 | .region _ os _,s => ifO (Cd n [] os.toList && topoOps 0 os.toList) ((Tv S call s.tm 0 os.toList [] s.h s.nx).bind fun rs =>
   ifO (orderedB os.toList 0 s.nx os.toList rs) (some (0,{ tm := Em s.tm os.toList rs,h := WU s.h rs,nx := Vq s.nx rs })))
 | .seq a b,s => (Oj S call n a s).bind fun r => bif Nat.beq r.1 0 then Oj S call n b r.2 else some r
 | .cond x a b,s => match x with
  | .tmp t => (Vw t s.tm).bind fun v => (asB v).bind fun c => bif c then Oj S call n a s else Oj S call n b s
  | _ => none
 | .block id c,s => (Oj S call n c s).map fun r => bif Nat.beq r.1 (id+2) then (0,r.2) else r
 | .loop c,s => Eh (Oj S call n c) 100 s
 | .exit id,s => some (id+2,s)
 | .ret,s => some (1,s)
 | _,_ => none
def one1 : AV→Option A1
 | (false,[x]) => some x
 | _ => none
def EU (P : Program) (s : St) : ResultVar→Option A1
 | .tmp t => (Vw t s.tm).bind one1
 | .cell t ty => (Vw t s.tm).bind fun v => (asP v).bind fun p => (YR p.1 s.h).bind fun cs => (Vc P ty cs p.2).bind one1
def My : Nat→List AV→List (Nat × AV)
 | _,[] => []
 | i,v :: vs => (i,v) :: My (i+1) vs
def tupB : List A1→AV
 | [x] => (false,[x])
 | xs => (true,xs)
def GR (S : Sx) : Nat→WY
 | 0,_,_,_,_ => none
 | n+1,f,args,h,nx => S.P.funcs[f]?.bind fun fn => fn.body.bind fun c => ifO (Nat.ble args.length fn.ntmps) ((Oj S (GR S n) fn.ntmps c { tm := My 0 args,h := h,nx := nx }).bind fun r =>
   ifO (Nat.ble r.1 1) ((ZX (EU S.P r.2) fn.results.toList).map fun xs => (tupB xs,r.2.h,r.2.nx)))
end Cx
/- VB -/
namespace Cx
open Go Go.RowKit
def Bk (w : World) (g : Nat) (cs : List Value) (t : TypeId) : Prop := w.heap[g]? = some (.cells cs.toArray t (0,0))
theorem Bk.lt {w : World} {g : Nat} {cs : List Value} {t : TypeId} (h : Bk w g cs t) : g < w.heap.size := by
 have := h
 unfold Bk at this
 exact (Array.getElem?_eq_some_iff.1 this).1
section
variable (nb : List Nat)
def Bxd (w : World) (k : Nat) : Prop := ∃ cs t,Bk w k cs t∧JU t nb=false∧∀ c ∈ cs,okV c=true
structure Gr (w w' : World) : Prop where
 size : w.heap.size≤w'.heap.size
 block : ∀ k,k < w.heap.size→¬ Bxd nb w k→w'.heap[k]? = w.heap[k]?
 len : ∀ k cs t,Bk w k cs t→∃ cs',Bk w' k cs' t∧cs'.length=cs.length
structure Fct where
 on : Value→World→Prop
 st : ∀ {v : Value} {w w' : World},Gr nb w w'→on v w→on v w'
 ok : ∀ {v : Value} {w : World},on v w→okV v=true
structure Ev where
 q : Nat→Rat
 σ : Nat→ByteArray
 X : Nat→Rat→Fct nb
 tell : Rat→ByteArray
end
def A2 {α : Type} (R : α→Value→Prop) : List α→List Value→Prop
 | [],[] => True
 | a :: ar,v :: vs => R a v∧A2 R ar vs
 | _,_ => False
theorem A2.mono {α : Type} {R R' : α→Value→Prop} (h : ∀ a v,R a v→R' a v) : ∀ {ar : List α} {vs : List Value},A2 R ar vs→A2 R' ar vs
 | [],[],_ => trivial
 | _ :: _,_ :: _,q => ⟨h _ _ q.1,A2.mono h q.2⟩
 | [],_ :: _,q => q.elim
 | _ :: _,[],q => q.elim
theorem A2.len {α : Type} {R : α→Value→Prop} : ∀ {ar : List α} {vs : List Value},A2 R ar vs→vs.length=ar.length
 | [],[],_ => rfl
 | _ :: _,_ :: _,q => congrArg (· + 1) (A2.len q.2)
 | [],_ :: _,q => q.elim
 | _ :: _,[],q => q.elim
theorem A2.get {α : Type} {R : α→Value→Prop} : ∀ {ar : List α} {vs : List Value} {k : Nat} {a : α},A2 R ar vs→ar[k]? = some a→∃ v,vs[k]? = some v∧R a v
 | [],_,_,_,_,h => by simp at h
 | _ :: _,[],_,_,h,_ => h.elim
 | a :: ar,v :: vs,0,a',h,e => by
  have : a=a' := by simpa using e
  subst this
  exact ⟨v,rfl,h.1⟩
 | a :: ar,v :: vs,k+1,a',h,e => by
  obtain ⟨u,hu,hF⟩ := A2.get h.2 (k := k) (a := a') (by simpa using e)
  exact ⟨u,by simpa using hu,hF⟩
theorem A2.append {α : Type} {R : α→Value→Prop} : ∀ {ar bs : List α} {vs us : List Value},A2 R ar vs→A2 R bs us→A2 R (ar ++ bs) (vs ++ us)
 | [],_,[],_,_,h => h
 | _ :: _,_,_ :: _,_,g,h => ⟨g.1,A2.append g.2 h⟩
 | [],_,_ :: _,_,g,_ => g.elim
 | _ :: _,_,[],_,g,_ => g.elim
theorem A2.take {α : Type} {R : α→Value→Prop} : ∀ {ar : List α} {vs : List Value} (n : Nat),A2 R ar vs→A2 R (ar.take n) (vs.take n)
 | [],[],n,_ => by simp [A2]
 | _ :: _,_ :: _,0,_ => trivial
 | _ :: _,_ :: _,n+1,h => ⟨h.1,A2.take n h.2⟩
 | [],_ :: _,_,h => h.elim
 | _ :: _,[],_,h => h.elim
theorem A2.drop {α : Type} {R : α→Value→Prop} : ∀ {ar : List α} {vs : List Value} (n : Nat),A2 R ar vs→A2 R (ar.drop n) (vs.drop n)
 | [],[],n,_ => by simp [A2]
 | _ :: _,_ :: _,0,h => h
 | _ :: _,_ :: _,n+1,h => A2.drop n h.2
 | [],_ :: _,_,h => h.elim
 | _ :: _,[],_,h => h.elim
theorem A2.all {α : Type} {R : α→Value→Prop} {p : Value→Prop} (hp : ∀ a v,R a v→p v) : ∀ {ar : List α} {vs : List Value},A2 R ar vs→∀ v ∈ vs,p v
 | [],[],_,v,h => by simp at h
 | _ :: _,_ :: _,g,v,h => by
  rcases List.mem_cons.1 h with rfl | h
  ·exact hp _ _ g.1
  ·exact A2.all hp g.2 v h
 | [],_ :: _,g,_,_ => g.elim
 | _ :: _,[],g,_,_ => g.elim
theorem A2.map {α β : Type} {R : α→Value→Prop} {S : β→Value→Prop} (f : α→β) (h : ∀ a v,R a v→S (f a) v) : ∀ {ar : List α} {vs : List Value},A2 R ar vs→A2 S (ar.map f) vs
 | [],[],_ => trivial
 | _ :: _,_ :: _,g => ⟨h _ _ g.1,A2.map f h g.2⟩
 | [],_ :: _,g => g.elim
 | _ :: _,[],g => g.elim
theorem ifO_some {α : Type} {b : Bool} {x : Option α} {r : α} : ifO b x=some r ↔ b=true∧x=some r := by
 cases b <;> simp [ifO]
theorem KB {b : Nat} : ∀ {l : List Nat},JU b l=true ↔ b ∈ l
 | [] => by simp [JU]
 | c :: cs => by
  unfold JU
  rw [Bool.or_eq_true,List.mem_cons,KB (l := cs),Nat.beq_eq]
theorem memN_not {b : Nat} {l : List Nat} : JU b l=false ↔ b ∉ l := by
 rw [← KB]
 cases JU b l <;> simp
theorem Rc {a b : List Nat} (h : meets a b=false) : ∀ x ∈ a,x ∉ b := by
 induction a with
 | nil => simp
 | cons c cs ih =>
  unfold meets at h
  rw [Bool.or_eq_false_iff] at h
  intro x hx
  rcases List.mem_cons.1 hx with rfl | hx
  ·exact memN_not.1 h.1
  ·exact ih h.2 x hx
theorem eqvB_eq {u v : Value} (h : eqvB u v=true) : u=v := by
 unfold eqvB at h
 split at h
 ·rfl
 ·rename_i a b
  rw [show a=b from by simpa using h]
 ·rw [of_decide_eq_true h]
 ·rfl
 ·rw [of_decide_eq_true h]
 ·cases h
theorem Ed : ∀ {a b : List AC},EL a b=true→a=b
 | [],[],_ => rfl
 | .inr (k,a,b,c,d) :: x,.inr (k',a',b',c',d') :: y,h => by
  unfold EL at h
  simp only [Bool.and_eq_true,Nat.beq_eq] at h
  obtain ⟨⟨h1,h2,h3,h4,h5⟩,h6⟩ := h
  rw [h1,h2,h3,h4,h5,Ed h6]
 | [],_ :: _,h => by cases h
 | _ :: _,[],h => by unfold EL at h; split at h <;> first | contradiction | cases h
 | .inl _ :: _,_ :: _,h => by cases h
 | .inr _ :: _,.inl _ :: _,h => by cases h
theorem Ty : ∀ {a b : List AC},FM a b=true→a=b
 | [],[],_ => rfl
 | .inr (k,a,b,c,d) :: x,.inr (k',a',b',c',d') :: y,h => by
  unfold FM at h
  simp only [Bool.and_eq_true,Nat.beq_eq] at h
  obtain ⟨⟨h1,h2,h3,h4,h5⟩,h6⟩ := h
  rw [h1,h2,h3,h4,h5,Ty h6]
 | [],_ :: _,h => by cases h
 | _ :: _,[],h => by unfold FM at h; split at h <;> first | contradiction | cases h
 | .inl u :: x,.inl v :: y,h => by
  unfold FM at h
  rw [Bool.and_eq_true] at h
  rw [eqvB_eq h.1,Ty h.2]
 | .inl _ :: _,.inr _ :: _,h => by cases h
 | .inr _ :: _,.inl _ :: _,h => by cases h
theorem Ui {f : FuncId} {cs : List AC} : ∀ {ks : List (FuncId × List AC)} {i k : Nat},WP f cs i ks=some k→i≤k∧ks[k - i]? = some (f,cs)
 | [],_,_,h => by cases h
 | (g,ds) :: ks,i,k,h => by
  unfold WP at h
  cases e : (Nat.beq f g && EL cs ds) with
  | true =>
   rw [e] at h
   cases h
   rw [Bool.and_eq_true,Nat.beq_eq] at e
   rw [e.1,Ed e.2]
   exact ⟨Nat.le_refl _,by simp⟩
  | false =>
   rw [e] at h
   obtain ⟨h1,h2⟩ := Ui (ks := ks) h
   refine ⟨by omega,?_⟩
   rw [show k - i=k - (i+1)+1 by omega]
   simpa using h2
section
variable {nb : List Nat} (E : Ev nb) (K : List (FuncId × List AC)) (γ : Nat→Option Nat) (w : World)
def QN : Nat→AC→Value→Prop
 | _,.inl u,v => v=u∧okV u=true
 | d,.inr (k,a,b,n,c),v => match k with
  | 0 => (E.X a (E.q b)).on v w
  | 1 => v=.string (E.tell (E.q a))
  | 2 => v=.string (E.σ a)
  | 3 => ∃ G,γ a=some G∧v=.pointer (some ⟨G,b,none⟩)
  | 4 => ∃ G,γ a=some G∧v=.slice (some ⟨G,b,none⟩) n c
  | 5 => match d with
   | 0 => False
   | d+1 => ∃ f cs vs,K[a]? = some (f,cs)∧v=.func (.func f) #[] vs.toArray∧A2 (QN d) cs vs
  | 6 => ∃ G m,γ a=some G∧v=.slice (some ⟨G,b,none⟩) n m∧n≤m∧∃ cs t,Bk w G cs t∧cs.length=b+m*c
  | 7 => ∃ ao m,v=.slice ao 0 m∧(a=1→m=0)
  | 8 => ∃ f ad n' m r m',K[a]? = some (f,.inl (.slice (some ad) n' m) :: r)∧v=.slice (some (ad.add b)) n m'
  | 9 => ∃ f ad n' m r,K[a]? = some (f,.inl (.slice (some ad) n' m) :: r)∧v=.pointer (some (ad.add b))
  | 10 => ∃ (ao : Option Addr) (k m : Nat),v=.slice ao k m∧∀ w',(E.X 6 (E.q a)).on (.int .i64 (k : Int)) w'
  | _ => False
abbrev cOn : AC→Value→Prop := QN E K γ w 3
end
def a1On (R : AC→Value→Prop) : A1→Value→Prop
 | (true,cs),v => ∃ vs : List Value,v=.agg vs.toArray∧A2 R cs vs
 | (false,cs),v => A2 R cs [v]
def avOn (R : AC→Value→Prop) : AV→Value→Prop
 | (true,xs),v => ∃ vs : List Value,v=.tuple vs.toArray∧A2 (a1On R) xs vs
 | (false,xs),v => A2 (a1On R) xs [v]
def leG (γ γ' : Nat→Option Nat) : Prop := ∀ b G,γ b=some G→γ' b=some G
theorem leG.refl (γ : Nat→Option Nat) : leG γ γ := fun _ _ h => h
theorem leG.trans {a b c : Nat→Option Nat} (h : leG a b) (k : leG b c) : leG a c := fun _ _ q => k _ _ (h _ _ q)
section
variable {nb : List Nat} {E : Ev nb} {K : List (FuncId × List AC)} {γ γ' : Nat→Option Nat} {w w' : World}
theorem Pv (hl : leG γ γ') (hg : Gr nb w w') : ∀ (d : Nat) (c : AC) (v : Value),QN E K γ w d c v→QN E K γ' w' d c v
 | _,.inl _,_,h => by
  unfold QN at h ⊢
  exact h
 | d,.inr (k,a,b,n,c),v,h => by
  unfold QN at h ⊢
  match k,h with
  | 0,h => exact (E.X a (E.q b)).st hg h
  | 1,h => exact h
  | 2,h => exact h
  | 3,⟨G,h1,h2⟩ => exact ⟨G,hl _ _ h1,h2⟩
  | 4,⟨G,h1,h2⟩ => exact ⟨G,hl _ _ h1,h2⟩
  | 5,h =>
   match d,h with
   | 0,h => exact h.elim
   | d+1,⟨f,cs,vs,h1,h2,h3⟩ => exact ⟨f,cs,vs,h1,h2,h3.mono (Pv hl hg d)⟩
  | 6,⟨G,m,h1,h2,h3,cs,t,h4,h5⟩ =>
   obtain ⟨cs',g1,g2⟩ := hg.len G cs t h4
   exact ⟨G,m,hl _ _ h1,h2,h3,cs',t,g1,g2.trans h5⟩
  | 7,h => exact h
  | 8,h => exact h
  | 9,h => exact h
  | 10,h => exact h
  | k+11,h => exact h.elim
theorem XM : ∀ (d : Nat) (c : AC) (v : Value),QN E K γ w d c v→okV v=true
 | _,.inl _,_,h => by
  unfold QN at h
  exact h.1 ▸ h.2
 | d,.inr (k,a,b,n,c),v,h => by
  unfold QN at h
  match k,h with
  | 0,h => exact (E.X a (E.q b)).ok h
  | 1,h => rw [h]; rfl
  | 2,h => rw [h]; rfl
  | 3,⟨G,h1,h2⟩ => rw [h2]; rfl
  | 4,⟨G,h1,h2⟩ => rw [h2]; rfl
  | 5,h =>
   match d,h with
   | 0,h => exact h.elim
   | d+1,⟨f,cs,vs,h1,h2,h3⟩ => rw [h2]; rfl
  | 6,⟨G,m,h1,h2,_⟩ => rw [h2]; rfl
  | 7,⟨ao,m,h1,_⟩ => rw [h1]; rfl
  | 8,⟨f,ad,n',m,r,m',_,h1⟩ => rw [h1]; rfl
  | 9,⟨f,ad,n',m,r,_,h1⟩ => rw [h1]; rfl
  | 10,⟨ao,k,m,h1,_⟩ => rw [h1]; rfl
  | k+11,h => exact h.elim
theorem a1On.mono {R R' : AC→Value→Prop} (h : ∀ c v,R c v→R' c v) : ∀ (x : A1) (v : Value),a1On R x v→a1On R' x v
 | (true,_),_,⟨vs,e,q⟩ => ⟨vs,e,A2.mono h q⟩
 | (false,_),_,q => A2.mono h q
theorem avOn.mono {R R' : AC→Value→Prop} (h : ∀ c v,R c v→R' c v) : ∀ (x : AV) (v : Value),avOn R x v→avOn R' x v
 | (true,_),_,⟨vs,e,q⟩ => ⟨vs,e,A2.mono (a1On.mono h) q⟩
 | (false,_),_,q => A2.mono (a1On.mono h) q
theorem Bxd.of {w w' : World} {k : Nat} (e : w'.heap[k]? = w.heap[k]?) (h : Bxd nb w' k) : Bxd nb w k := by
 obtain ⟨cs,t,h1,h2⟩ := h
 exact ⟨cs,t,e.symm.trans h1,h2⟩
theorem Gr.refl (w : World) : Gr nb w w := ⟨Nat.le_refl _,fun _ _ _ => rfl,fun _ cs _ h => ⟨cs,h,rfl⟩⟩
theorem Gr.trans {a b c : World} (h : Gr nb a b) (k : Gr nb b c) : Gr nb a c :=
 ⟨Nat.le_trans h.size k.size,fun i hi hn => by
  have e := h.block i hi hn
  exact (k.block i (Nat.lt_of_lt_of_le hi h.size) (fun q => hn (q.of e))).trans e,fun i cs t hc => by
  obtain ⟨cs1,h1,h2⟩ := h.len i cs t hc
  obtain ⟨cs2,h3,h4⟩ := k.len i cs1 t h1
  exact ⟨cs2,h3,h4.trans h2⟩⟩
theorem Gr.of (h : Below w.heap.size w w') : Gr nb w w' := ⟨h.size,fun k hk _ => h.block k hk,fun k cs _ hc => ⟨cs,(h.block k hc.lt).trans hc,rfl⟩⟩
def KU (γ : Nat→Option Nat) (b : Nat) : Prop := ∀ G c,γ b=some G→γ c=some G→c≤b
def boxOn (E : Ev nb) (K : List (FuncId × List AC)) (γ : Nat→Option Nat) (w : World) (x : HB) : Prop :=
 ∃ G vs t,γ x.1=some G∧KU γ x.1∧(∃ us,Bk w G (vs ++ us) t∧∀ u ∈ us,okV u=true)∧JU t nb=false∧A2 (cOn E K γ w) x.2 vs
theorem boxOn.bxd {x : HB} {G : Nat} (h : boxOn E K γ w x) (hG : γ x.1=some G) : Bxd nb w G := by
 obtain ⟨G',vs,t,h1,_,⟨us,h2,hu⟩,h3,h4⟩ := h
 rw [hG] at h1
 cases h1
 refine ⟨vs ++ us,t,h2,h3,fun c hc => ?_⟩
 rcases List.mem_append.1 hc with q | q
 ·exact A2.all (p := fun v => okV v=true) (fun a v q => XM _ a v q) h4 c q
 ·exact hu c q
theorem boxOn.live {x : HB} (h : boxOn E K γ w x) : KU γ x.1 := by
 obtain ⟨_,_,_,_,h,_⟩ := h
 exact h
structure WI (w0 : World) (γ : Nat→Option Nat) (w : World) : Prop where
 bel : Below w0.heap.size w0 w
 lo : ∀ b G,γ b=some G→w0.heap.size≤G∧G < w.heap.size
structure Ef (nb : List Nat) (w0 : World) (wr : List Nat) (lo hi : Nat) (γ : Nat→Option Nat) (w : World) (γ' : Nat→Option Nat) (w' : World) : Prop where
 le : leG γ γ'
 same : ∀ b,¬ (lo≤b∧b < hi)→γ' b=γ b
 fresh : ∀ b G,γ' b=some G→γ b=some G ∨ w.heap.size≤G ∨ ∃ k ∈ wr,γ k=some G
 wi : WI w0 γ' w'
 gr : Gr nb w w'
 keep : ∀ G,G < w.heap.size→(∀ b ∈ wr,γ b ≠ some G)→w'.heap[G]? = w.heap[G]?
 live : ∀ b ∈ wr,KU γ b
theorem Ef.refl {w0 : World} (h : WI w0 γ w) (wr : List Nat) (lo : Nat) (hl : ∀ b ∈ wr,KU γ b) : Ef nb w0 wr lo lo γ w γ w :=
 ⟨leG.refl _,fun _ _ => rfl,fun _ _ h => Or.inl h,h,Gr.refl _,fun _ _ _ => rfl,hl⟩
theorem Ef.pure {w0 : World} (h : WI w0 γ w) (hb : Below w.heap.size w w') (wr : List Nat) (lo hi : Nat) (hl : ∀ b ∈ wr,KU γ b) : Ef nb w0 wr lo hi γ w γ w' :=
 ⟨leG.refl _,fun _ _ => rfl,fun _ _ h => Or.inl h,⟨h.bel.trans (hb.mono h.bel.size),fun b G q => ⟨(h.lo b G q).1,Nat.lt_of_lt_of_le (h.lo b G q).2 hb.size⟩⟩,Gr.of hb,fun G hG _ => hb.block G hG,hl⟩
theorem XR {γ : Nat→Option Nat} : ∀ b ∈ ([] : List Nat),KU γ b := fun _ h => by cases h
theorem Ef.trans {w0 : World} {wr wr2 : List Nat} {lo mid hi : Nat} {γ2 : Nat→Option Nat} {w2 : World} (h : Ef nb w0 wr lo mid γ w γ' w') (k : Ef nb w0 wr2 mid hi γ' w' γ2 w2) (h1 : lo≤mid) (h2 : mid≤hi) (hf : ∀ b,lo≤b→b < hi→γ b=none)
  (hw : ∀ b ∈ wr2,b ∈ wr ∨ (lo≤b∧b < mid)) : Ef nb w0 wr lo hi γ w γ2 w2 where
 le := h.le.trans k.le
 same := fun b hb => (k.same b (by omega)).trans (h.same b (by omega))
 fresh := fun b G q => by
  rcases k.fresh b G q with q' | q' | ⟨j,hj,q'⟩
  ·exact h.fresh b G q'
  ·exact Or.inr (Or.inl (Nat.le_trans h.gr.size q'))
  ·rcases h.fresh j G q' with p | p | p
   ·rcases hw j hj with hb | ⟨l1,l2⟩
    ·exact Or.inr (Or.inr ⟨j,hb,p⟩)
    ·rw [hf j l1 (by omega)] at p
     cases p
   ·exact Or.inr (Or.inl p)
   ·exact Or.inr (Or.inr p)
 wi := k.wi
 gr := h.gr.trans k.gr
 keep := fun G hG hn => by
  have e1 := h.keep G hG hn
  refine (k.keep G (Nat.lt_of_lt_of_le hG h.gr.size) fun b hb q => ?_).trans e1
  rcases h.fresh b G q with q' | q' | ⟨j,hj,q'⟩
  ·rcases hw b hb with hb | ⟨l1,l2⟩
   ·exact hn b hb q'
   ·rw [hf b l1 (by omega)] at q'
    cases q'
  ·omega
  ·exact hn j hj q'
 live := h.live
theorem Ef.cell {w0 : World} {wr : List Nat} {lo hi d : Nat} {c : AC} {v : Value} (h : Ef nb w0 wr lo hi γ w γ' w') (hc : QN E K γ w d c v) : QN E K γ' w' d c v := Pv h.le h.gr d c v hc
theorem Ef.av {w0 : World} {wr : List Nat} {lo hi : Nat} {x : AV} {v : Value} (h : Ef nb w0 wr lo hi γ w γ' w') (hc : avOn (cOn E K γ w) x v) : avOn (cOn E K γ' w') x v := avOn.mono (fun _ _ q => h.cell q) x v hc
theorem Ef.box {w0 : World} {wr : List Nat} {lo hi : Nat} {x : HB} (h : Ef nb w0 wr lo hi γ w γ' w') (_ : WI w0 γ w) (hx : boxOn E K γ w x) (hn : x.1 ∉ wr) : boxOn E K γ' w' x := by
 obtain ⟨G,vs,t,h1,hl,⟨us,h2,hu⟩,h3,h4⟩ := hx
 have apart : ∀ b ∈ wr,γ b ≠ some G := fun b hb q => by
  have e1 := hl G b h1 q
  have e2 := h.live b hb G x.1 q h1
  have : b=x.1 := by omega
  exact hn (this ▸ hb)
 refine ⟨G,vs,t,h.le _ _ h1,fun G' c q1 q2 => ?_,⟨us,?_,hu⟩,h3,h4.mono fun _ _ q => h.cell q⟩
 ·rw [h.le _ _ h1] at q1
  cases q1
  rcases h.fresh c G q2 with q | q | ⟨k,hk,q⟩
  ·exact hl G c h1 q
  ·have := h2.lt
   omega
  ·exact absurd q (apart k hk)
 ·unfold Bk
  rw [h.keep G h2.lt apart]
  exact h2
theorem Za {v : AV} {c : AC} {R : AC→Value→Prop} {x : Value} (h : asC v=some c) (hv : avOn R v x) : R c x := by
 unfold asC at h
 split at h
 ·cases h
  exact hv.1.1
 ·cases h
theorem Oi {v : AV} {cs : List AC} {R : AC→Value→Prop} {x : Value} (h : asA v=some cs) (hv : avOn R v x) : ∃ vs : List Value,x=.agg vs.toArray∧A2 R cs vs := by
 unfold asA at h
 split at h
 ·cases h
  exact hv.1
 ·cases h
theorem PI {v : AV} {cs : List AC} {x : Value} (h : asL v=some cs) (hv : avOn (cOn E K γ w) v x) : ∃ vs : List Value,x.cells=vs.toArray∧A2 (cOn E K γ w) cs vs := by
 unfold asL at h
 split at h
 ·cases h
  obtain ⟨vs,e,q⟩ := hv.1
  exact ⟨vs,by rw [e]; rfl,q⟩
 ·cases h
  have q := hv.1.1
  refine ⟨[x],?_,q,trivial⟩
  have := XM _ _ _ q
  cases x <;> first | rfl | (simp [okV,Value.oneCell'] at this)
 ·cases h
theorem asT_on {v : AV} {xs : List A1} {R : AC→Value→Prop} {x : Value} (h : asT v=some xs) (hv : avOn R v x) : ∃ vs : List Value,x=.tuple vs.toArray∧A2 (a1On R) xs vs := by
 unfold asT at h
 split at h
 ·cases h
  exact hv
 ·cases h
theorem Zk {c : AC} {R : AC→Value→Prop} {x : Value} (h : R c x) : avOn R (v1 c) x := ⟨⟨h,trivial⟩,trivial⟩
theorem MG {cs : List AC} {R : AC→Value→Prop} {vs : List Value} (h : A2 R cs vs) : avOn R (vA cs) (.agg vs.toArray) := ⟨⟨vs,rfl,h⟩,trivial⟩
theorem OE {v : AV} {b : Bool} {x : Value} (h : asB v=some b) (hv : avOn (cOn E K γ w) v x) : x=.bool b := by
 unfold asB at h
 rw [Option.bind_eq_some_iff] at h
 obtain ⟨c,h1,h2⟩ := h
 have := Za h1 hv
 unfold acB at h2
 split at h2
 ·cases h2
  exact this.1
 ·cases h2
theorem Vk {v : AV} {z : Int} {x : Value} (h : asI v=some z) (hv : avOn (cOn E K γ w) v x) : x=.int .i64 z := by
 unfold asI at h
 rw [Option.bind_eq_some_iff] at h
 obtain ⟨c,h1,h2⟩ := h
 have := Za h1 hv
 unfold acI at h2
 split at h2
 ·cases h2
  exact this.1
 ·cases h2
theorem Uh {v : AV} {n : Nat} {x : Value} (h : asN v=some n) (hv : avOn (cOn E K γ w) v x) : x=.int .i64 n := by
 unfold asN at h
 rw [Option.bind_eq_some_iff] at h
 obtain ⟨z,h1,h2⟩ := h
 have := Vk h1 hv
 split at h2
 ·cases h2
  exact this
 ·cases h2
theorem acP_on {c : AC} {p : Nat × Nat} {x : Value} {d : Nat} (h : acP c=some p) (hc : QN E K γ w d c x) : ∃ G,γ p.1=some G∧x=.pointer (some ⟨G,p.2,none⟩) := by
 unfold acP at h
 split at h
 ·rw [ifO_some] at h
  obtain ⟨h1,h2⟩ := h
  cases h2
  rw [Nat.beq_eq] at h1
  subst h1
  unfold QN at hc
  exact hc
 ·cases h
theorem Md {c : AC} {p : Nat × Nat × Nat × Nat} {x : Value} {d : Nat} (h : acS c=some p) (hc : QN E K γ w d c x) : ∃ G,γ p.1=some G∧x=.slice (some ⟨G,p.2.1,none⟩) p.2.2.1 p.2.2.2 := by
 unfold acS at h
 split at h
 ·rw [ifO_some] at h
  obtain ⟨h1,h2⟩ := h
  cases h2
  rw [Nat.beq_eq] at h1
  subst h1
  unfold QN at hc
  exact hc
 ·cases h
theorem Rf {c : AC} {p : Nat × Nat × Nat} {x : Value} {d : Nat} (h : acR c=some p) (hc : QN E K γ w d c x) : ∃ G m,γ p.1=some G∧x=.slice (some ⟨G,p.2.1,none⟩) p.2.2 m := by
 unfold acR at h
 split at h
 ·rw [ifO_some,Bool.or_eq_true,Nat.beq_eq,Nat.beq_eq] at h
  obtain ⟨h1,h2⟩ := h
  cases h2
  rcases h1 with h1 | h1
  ·subst h1
   unfold QN at hc
   obtain ⟨G,g1,g2⟩ := hc
   exact ⟨G,_,g1,g2⟩
  ·subst h1
   unfold QN at hc
   obtain ⟨G,m,g1,g2,_⟩ := hc
   exact ⟨G,m,g1,g2⟩
 ·cases h
theorem PL {c : AC} {p : Nat × Nat × Nat × Nat} {x : Value} {d : Nat} (h : acO c=some p) (hc : QN E K γ w d c x) : ∃ G m,γ p.1=some G∧x=.slice (some ⟨G,p.2.1,none⟩) p.2.2.1 m∧p.2.2.1≤m∧∃ cs t,Bk w G cs t∧cs.length=p.2.1+m*p.2.2.2 := by
 unfold acO at h
 split at h
 ·rw [ifO_some,Nat.beq_eq] at h
  obtain ⟨h1,h2⟩ := h
  cases h2
  subst h1
  unfold QN at hc
  exact hc
 ·cases h
theorem Vp {c : AC} {x : Value} {d : Nat} (h : Vj c=true) (hc : QN E K γ w d c x) : x=.slice none 0 0 := by
 unfold Vj at h
 split at h
 ·unfold QN at hc
  exact hc.1
 ·cases h
theorem Mu {c : AC} {f : Nat} {x : Value} {d : Nat} (h : acE c=some f) (hc : QN E K γ w d c x) : ∃ ao m,x=.slice ao 0 m∧(f=1→m=0) := by
 unfold acE at h
 split at h
 ·rw [ifO_some,Nat.beq_eq] at h
  obtain ⟨h1,h2⟩ := h
  cases h2
  subst h1
  unfold QN at hc
  exact hc
 ·cases h
theorem LM {c : AC} {p : Nat × Nat × Nat} {x : Value} {d : Nat} (h : acH c=some p) (hc : QN E K γ w d c x) : ∃ f ad n m r m',K[p.1]? = some (f,.inl (.slice (some ad) n m) :: r)∧x=.slice (some (ad.add p.2.1)) p.2.2 m' := by
 unfold acH at h
 split at h
 ·rw [ifO_some] at h
  obtain ⟨h1,h2⟩ := h
  cases h2
  rw [Nat.beq_eq] at h1
  subst h1
  unfold QN at hc
  exact hc
 ·cases h
theorem acHP_on {c : AC} {p : Nat × Nat} {x : Value} {d : Nat} (h : acHP c=some p) (hc : QN E K γ w d c x) : ∃ f ad n m r,K[p.1]? = some (f,.inl (.slice (some ad) n m) :: r)∧x=.pointer (some (ad.add p.2)) := by
 unfold acHP at h
 split at h
 ·rw [ifO_some] at h
  obtain ⟨h1,h2⟩ := h
  cases h2
  rw [Nat.beq_eq] at h1
  subst h1
  unfold QN at hc
  exact hc
 ·cases h
theorem acHL_on {c : AC} {a : Nat} {x : Value} {d : Nat} (h : acHL c=some a) (hc : QN E K γ w d c x) : ∃ (ao : Option Addr) (k m : Nat),x=.slice ao k m∧∀ w',(E.X 6 (E.q a)).on (.int .i64 (k : Int)) w' := by
 unfold acHL at h
 split at h
 ·rw [ifO_some] at h
  obtain ⟨h1,h2⟩ := h
  cases h2
  rw [Nat.beq_eq] at h1
  subst h1
  unfold QN at hc
  exact hc
 ·cases h
theorem FN {c : AC} {n : Nat} {x : Value} {d : Nat} (h : Bf c=some n) (hc : QN E K γ w d c x) : ∃ ao m,x=.slice ao n m := by
 unfold Bf at h
 cases hn : Vj c with
 | true =>
  rw [hn] at h
  cases h
  exact ⟨none,0,Vp hn hc⟩
 | false =>
  rw [hn] at h
  simp only [cond_false] at h
  split at h
  ·rename_i f hf
   cases h
   obtain ⟨ao,m,e,_⟩ := Mu hf hc
   exact ⟨ao,m,e⟩
  ·split at h
   ·rename_i p hp
    cases h
    obtain ⟨_,ad,_,_,_,m',_,e⟩ := LM hp hc
    exact ⟨_,m',e⟩
   ·rw [Option.map_eq_some_iff] at h
    obtain ⟨p,h1,rfl⟩ := h
    obtain ⟨G,m,_,e⟩ := Rf h1 hc
    exact ⟨_,m,e⟩
theorem KY {v : AV} {p : Nat × Nat × Nat} {x : Value} (h : asR v=some p) (hv : avOn (cOn E K γ w) v x) : ∃ G m,γ p.1=some G∧x=.slice (some ⟨G,p.2.1,none⟩) p.2.2 m := by
 unfold asR at h
 rw [Option.bind_eq_some_iff] at h
 obtain ⟨c,h1,h2⟩ := h
 exact Rf h2 (Za h1 hv)
theorem Cw {v : AV} {p : Nat × Nat × Nat × Nat} {x : Value} (h : asO v=some p) (hv : avOn (cOn E K γ w) v x) : ∃ G m,γ p.1=some G∧x=.slice (some ⟨G,p.2.1,none⟩) p.2.2.1 m∧p.2.2.1≤m∧∃ cs t,Bk w G cs t∧cs.length=p.2.1+m*p.2.2.2 := by
 unfold asO at h
 rw [Option.bind_eq_some_iff] at h
 obtain ⟨c,h1,h2⟩ := h
 exact PL h2 (Za h1 hv)
theorem OD {v : AV} {p : Nat × Nat} {x : Value} (h : asP v=some p) (hv : avOn (cOn E K γ w) v x) : ∃ G,γ p.1=some G∧x=.pointer (some ⟨G,p.2,none⟩) := by
 unfold asP at h
 rw [Option.bind_eq_some_iff] at h
 obtain ⟨c,h1,h2⟩ := h
 exact acP_on h2 (Za h1 hv)
theorem asS_on {v : AV} {p : Nat × Nat × Nat × Nat} {x : Value} (h : asS v=some p) (hv : avOn (cOn E K γ w) v x) : ∃ G,γ p.1=some G∧x=.slice (some ⟨G,p.2.1,none⟩) p.2.2.1 p.2.2.2 := by
 unfold asS at h
 rw [Option.bind_eq_some_iff] at h
 obtain ⟨c,h1,h2⟩ := h
 exact Md h2 (Za h1 hv)
theorem UK {c : AC} {k a : Nat} {x : Value} {d : Nat} (h : acX k c=some a) (hc : QN E K γ w d c x) : (E.X k (E.q a)).on x w := by
 unfold acX at h
 split at h
 ·rw [ifO_some,Bool.and_eq_true,Nat.beq_eq,Nat.beq_eq] at h
  obtain ⟨⟨h1,h2⟩,h3⟩ := h
  cases h3
  subst h1 h2
  unfold QN at hc
  exact hc
 ·cases h
theorem acF_on {c : AC} {k : Nat} {x : Value} (h : acF c=some k) (hc : cOn E K γ w c x) : ∃ f cs vs,K[k]? = some (f,cs)∧x=.func (.func f) #[] vs.toArray∧A2 (QN E K γ w 2) cs vs := by
 unfold acF at h
 split at h
 ·rw [ifO_some,Nat.beq_eq] at h
  obtain ⟨h1,h2⟩ := h
  cases h2
  subst h1
  exact hc
 ·cases h
theorem Ps : ∀ (d : Nat) (c : AC) (v : Value),QN E K γ w d c v→QN E K γ w (d+1) c v
 | _,.inl _,_,h => by
  unfold QN at h ⊢
  exact h
 | d,.inr (k,a,b,n,c),v,h => by
  unfold QN at h ⊢
  match k,h with
  | 0,h => exact h
  | 1,h => exact h
  | 2,h => exact h
  | 3,h => exact h
  | 4,h => exact h
  | 5,h =>
   match d,h with
   | 0,h => exact h.elim
   | d+1,⟨f,cs,vs,h1,h2,h3⟩ => exact ⟨f,cs,vs,h1,h2,h3.mono (Ps d)⟩
  | 6,h => exact h
  | 7,h => exact h
  | 8,h => exact h
  | 9,h => exact h
  | 10,h => exact h
  | k+11,h => exact h.elim
theorem Zt {b : Nat} {cs : List AC} : ∀ {h : List HB},YR b h=some cs→(b,cs) ∈ h
 | [],q => by cases q
 | (c,x) :: h,q => by
  unfold YR at q
  cases e : Nat.beq b c with
  | true =>
   rw [e] at q
   cases q
   rw [Nat.beq_eq] at e
   rw [e]
   exact List.mem_cons_self
  | false =>
   rw [e] at q
   exact List.mem_cons_of_mem _ (Zt q)
theorem YM {b : Nat} {cs : List AC} {x : HB} : ∀ {h : List HB},x ∈ IJ b cs h→x=(b,cs) ∨ (x ∈ h∧x.1 ≠ b)
 | [],q => by cases q
 | (c,y) :: h,q => by
  unfold IJ at q
  rcases List.mem_cons.1 q with q | q
  ·cases e : Nat.beq b c with
   | true =>
    rw [e] at q
    exact Or.inl q
   | false =>
    rw [e] at q
    refine Or.inr ⟨by rw [q]; exact List.mem_cons_self,fun e' => ?_⟩
    rw [q] at e'
    have : Nat.beq b c=true := by rw [Nat.beq_eq]; exact e'.symm
    rw [e] at this
    cases this
  ·rcases YM q with q | ⟨q1,q2⟩
   ·exact Or.inl q
   ·exact Or.inr ⟨List.mem_cons_of_mem _ q1,q2⟩
end
end Cx
/- VC -/
namespace Cx
open Go Go.RowKit
section
variable (S : Sx) (E : Ev S.nb) (w0 : World)
structure OpOk (h : List HB) (nx : Nat) (ρ : Operand→Option AV) (o : Oper) (r : OR) : Prop where
 le : nx≤r.nx
 wh : ∀ b ∈ r.wr,∃ x ∈ h,x.1=b
 fp : ∀ x ∈ r.h,x ∈ h ∨ x.1 ∈ r.wr ∨ (nx≤x.1∧x.1 < r.nx)
 run : ∀ (γ : Nat→Option Nat) (w : World) (a : Act) (Q : Exit→Act→World→Prop),WI w0 γ w→(∀ x v,ρ x=some v→avOn (cOn E S.K γ w) v (a.eval x)) →
  (∀ x ∈ h,x.1 ∈ r.rd ∨ x.1 ∈ r.wr→boxOn E S.K γ w x)→(∀ b,nx≤b→b < r.nx→γ b=none)→(∀ x ∈ h,x.1 < nx) →
  ∀ K : Act→World→Prop,(∀ v w' γ',Ef S.nb w0 r.wr nx r.nx γ w γ' w'→(∀ y,r.res=some y→avOn (cOn E S.K γ' w') y v) →
   (∀ x ∈ r.h,x.1 ∈ r.wr ∨ (nx≤x.1∧x.1 < r.nx)→boxOn E S.K γ' w' x)→K (a.put o.dst v) w')→Oper.wp S.P o a w K Q
structure Kept (h : List HB) (r : OR) : Prop where
 up : ∀ x ∈ h,x.1 ∉ wrs r→x ∈ r.h
 dn : ∀ x ∈ r.h,x.1 ∈ r.wr→x.1 ∈ r.rd→x ∈ h
def NY (h : List HB) (nx : Nat) : OR := { res := some skV,rd := [],wr := [],h := h,nx := nx }
def Lay (tm : List (Nat × AV)) : Nat→List Oper→Rg→List HB→Nat→List OR→Prop
 | _,[],_,_,_,[] => True
 | i,o :: os,prev,h,nx,r :: rs => (∃ wt,SG prev o=some wt∧(wt=true→OpOk S E w0 h nx (Mx S.K tm prev i o os) o r)∧(wt=false→r=NY h nx)) ∧
   (∀ b ∈ r.rd,b < nx)∧(∀ b ∈ r.wr,b < nx)∧Kept h r∧Lay tm (i+1) os (prev ++ [(o.dst,r.res)]) r.h r.nx rs
 | _,_,_,_,_,_ => False
end
def YY (os : List Oper) (rs : List OR) (j : Nat) : Rg := ((os.take j).zip (rs.take j)).map fun x => (x.1.dst,x.2.res)
def hAt (h : List HB) (rs : List OR) (k : Nat) : List HB := WU h (rs.take k)
def nAt (n : Nat) (rs : List OR) (k : Nat) : Nat := Vq n (rs.take k)
theorem Wk (h : List HB) (rs : List OR) : hAt h rs 0=h := by simp [hAt,WU]
theorem Xy (n : Nat) (rs : List OR) : nAt n rs 0=n := by simp [nAt,Vq]
theorem Vv : ∀ {rs : List OR} {h : List HB} {k : Nat} {r : OR},rs[k]? = some r→hAt h rs (k+1)=r.h
 | [],_,_,_,e => by simp at e
 | s :: rs,h,0,r,e => by
  have : s=r := by simpa using e
  subst this
  simp [hAt,WU]
 | s :: rs,h,k+1,r,e => by
  have := Vv (rs := rs) (h := s.h) (k := k) (r := r) (by simpa using e)
  simpa [hAt,WU] using this
theorem YA : ∀ {rs : List OR} {n k : Nat} {r : OR},rs[k]? = some r→nAt n rs (k+1)=r.nx
 | [],_,_,_,e => by simp at e
 | s :: rs,n,0,r,e => by
  have : s=r := by simpa using e
  subst this
  simp [nAt,Vq]
 | s :: rs,n,k+1,r,e => by
  have := YA (rs := rs) (n := s.nx) (k := k) (r := r) (by simpa using e)
  simpa [nAt,Vq] using this
section
variable {S : Sx} {E : Ev S.nb} {w0 : World}
structure At (S : Sx) (E : Ev S.nb) (w0 : World) (tm : List (Nat × AV)) (os : List Oper) (rs : List OR) (h : List HB) (n : Nat) (prev : Rg) (i j : Nat) (o : Oper) (r : OR) : Prop where
 wt : ∃ wt,SG (prev ++ YY os rs j) o=some wt∧(wt=true→OpOk S E w0 (hAt h rs j) (nAt n rs j) (Mx S.K tm (prev ++ YY os rs j) (i+j) o (os.drop (j+1))) o r)∧(wt=false→r=NY (hAt h rs j) (nAt n rs j))
 rd : ∀ b ∈ r.rd,b < nAt n rs j
 wr : ∀ b ∈ r.wr,b < nAt n rs j
 kp : Kept (hAt h rs j) r
theorem Lay.get {tm : List (Nat × AV)} : ∀ {os : List Oper} {rs : List OR} {h : List HB} {n : Nat} {prev : Rg} {i j : Nat} {o : Oper},Lay S E w0 tm i os prev h n rs→os[j]? = some o→∃ r,rs[j]? = some r∧At S E w0 tm os rs h n prev i j o r
 | [],_,_,_,_,_,_,_,_,e => by simp at e
 | p :: os,[],_,_,_,_,_,_,hl,_ => hl.elim
 | p :: os,s :: rs,h,n,prev,i,0,o,hl,e => by
  have : p=o := by simpa using e
  subst this
  obtain ⟨⟨wt,h1,h2,h3⟩,h4,h5,h6,_⟩ := hl
  refine ⟨s,rfl,⟨wt,?_,?_,?_⟩,?_,?_,?_⟩
  ·simpa [YY] using h1
  ·simpa [YY,Wk,Xy] using h2
  ·simpa [Wk,Xy] using h3
  ·simpa [Xy] using h4
  ·simpa [Xy] using h5
  ·simpa [Wk] using h6
 | p :: os,s :: rs,h,n,prev,i,j+1,o,hl,e => by
  obtain ⟨_,_,_,_,hl'⟩ := hl
  obtain ⟨r,hr,⟨wt,h1,h2,h3⟩,h4,h5,h6⟩ := Lay.get hl' (j := j) (o := o) (by simpa using e)
  have e1 : prev ++ [(p.dst,s.res)] ++ YY os rs j=prev ++ YY (p :: os) (s :: rs) (j+1) := by simp [YY]
  have e2 : hAt s.h rs j=hAt h (s :: rs) (j+1) := by simp [hAt,WU]
  have e3 : nAt s.nx rs j=nAt n (s :: rs) (j+1) := by simp [nAt,Vq]
  have e4 : i+1+j=i+(j+1) := by omega
  rw [e1,e2,e3,e4] at h2
  rw [e1] at h1
  rw [e2,e3] at h3
  rw [e3] at h4 h5
  rw [e2] at h6
  exact ⟨r,by simpa using hr,⟨wt,h1,by simpa using h2,h3⟩,h4,h5,h6⟩
theorem Lay.len {tm : List (Nat × AV)} : ∀ {os : List Oper} {rs : List OR} {h : List HB} {n : Nat} {prev : Rg} {i : Nat},Lay S E w0 tm i os prev h n rs→rs.length=os.length
 | [],[],_,_,_,_,_ => rfl
 | [],_ :: _,_,_,_,_,hl => hl.elim
 | _ :: _,[],_,_,_,_,hl => hl.elim
 | _ :: _,_ :: _,_,_,_,_,hl => congrArg (· + 1) (Lay.len hl.2.2.2.2)
end
theorem RL {t : Tmp} : ∀ {ps : Rg} {i j : Nat} {r : Option AV},Vg t i ps=some (j,r)→i≤j∧ps[j - i]? = some (some t,r)
 | [],_,_,_,h => by cases h
 | (d,s) :: ps,i,j,r,h => by
  unfold Vg at h
  have tail : Vg t (i+1) ps=some (j,r)→i≤j∧((d,s) :: ps)[j - i]? = some (some t,r) := fun h => by
   obtain ⟨h1,h2⟩ := RL h
   refine ⟨by omega,?_⟩
   rw [show j - i=j - (i+1)+1 by omega]
   simpa using h2
  cases d with
  | none => exact tail h
  | some u =>
   dsimp only at h
   cases e : Nat.beq t u with
   | true =>
    rw [e] at h
    cases h
    rw [Nat.beq_eq] at e
    subst e
    exact ⟨Nat.le_refl _,by simp⟩
   | false =>
    rw [e] at h
    exact tail h
theorem RO {t : Tmp} : ∀ {ps : Rg} {i : Nat},Vg t i ps=none→∀ (k : Nat) (r : Option AV),ps[k]? ≠ some (some t,r)
 | [],_,_,k,r => by simp
 | (d,s) :: ps,i,h,k,r => by
  unfold Vg at h
  have tail : Vg t (i+1) ps=none→(d ≠ some t)→((d,s) :: ps)[k]? ≠ some (some t,r) := fun h hd => by
   cases k with
   | zero =>
    intro q
    have : d=some t := by
     have := (Option.some.inj q)
     exact congrArg Prod.fst this
    exact hd this
   | succ k => simpa using RO h k r
  cases d with
  | none => exact tail h (by simp)
  | some u =>
   dsimp only at h
   cases e : Nat.beq t u with
   | true =>
    rw [e] at h
    cases h
   | false =>
    rw [e] at h
    refine tail h fun q => ?_
    cases q
    rw [Nat.beq_refl] at e
    cases e
theorem Ua {o : Oper} {j : Nat} {d : Nat→Prop} (h : Kl o j=true) (hd : ∀ e ∈ o.after,Region.binds .any e=true→d e.on) : d j := by
 unfold Kl at h
 rw [List.any_eq_true] at h
 obtain ⟨e,he,hb⟩ := h
 rw [Bool.and_eq_true,Nat.beq_eq] at hb
 exact hb.1 ▸ hd e (by simpa using he) hb.2
theorem XN {all : List Oper} {d : Nat→Prop} (hw : ∀ i o,all[i]? = some o→d i→∀ e ∈ o.after,Region.binds .any e=true→d e.on) : ∀ {n : Nat} {o : Oper} {j : Nat},Pj all n o j=true→(∀ e ∈ o.after,Region.binds .any e=true→d e.on)→d j
 | 0,_,_,h,hd => Ua h hd
 | n+1,o,j,h,hd => by
  unfold Pj at h
  rw [Bool.or_eq_true] at h
  rcases h with h | h
  ·exact Ua h hd
  ·rw [List.any_eq_true] at h
   obtain ⟨e,he,hb⟩ := h
   rw [Bool.and_eq_true] at hb
   obtain ⟨hb,hm⟩ := hb
   have hde := hd e (by simpa using he) hb
   cases ho : all[e.on]? with
   | none => rw [ho] at hm; cases hm
   | some o' =>
    rw [ho] at hm
    exact XN hw hm (hw _ _ ho hde)
theorem orderedFrom.get {all : List Oper} {lo i : Nat} {a : OR} : ∀ {os : List Oper} {rs : List OR} {k : Nat} {o : Oper} {b : OR},orderedFrom all lo i a os rs=true→os[k]? = some o→rs[k]? = some b→Ku lo a b=true→Pj all 3 o i=true
 | [],_,_,_,_,_,e,_,_ => by simp at e
 | _ :: _,[],_,_,_,_,_,e,_ => by simp at e
 | p :: os,s :: rs,0,o,b,h,e1,e2,hc => by
  have h1 : p=o := by simpa using e1
  have h2 : s=b := by simpa using e2
  subst h1 h2
  unfold orderedFrom at h
  rw [hc] at h
  simp at h
  exact h.1
 | p :: os,s :: rs,k+1,o,b,h,e1,e2,hc => by
  unfold orderedFrom at h
  rw [Bool.and_eq_true] at h
  exact orderedFrom.get h.2 (k := k) (by simpa using e1) (by simpa using e2) hc
theorem orderedB.get {all : List Oper} : ∀ {os : List Oper} {rs : List OR} {i0 n i j : Nat} {o : Oper} {a b : OR},orderedB all i0 n os rs=true→i < j→os[j]? = some o→rs[i]? = some a→rs[j]? = some b→Ku (nAt n rs i) a b=true→Pj all 3 o (i0+i)=true
 | [],_,_,_,_,_,_,_,_,_,_,e,_,_,_ => by simp at e
 | _ :: _,[],_,_,_,_,_,_,_,_,_,_,e,_,_ => by simp at e
 | p :: os,s :: rs,i0,n,0,j+1,o,a,b,h,_,e1,e2,e3,hc => by
  have h2 : s=a := by simpa using e2
  subst h2
  unfold orderedB at h
  rw [Bool.and_eq_true] at h
  rw [Xy] at hc
  exact orderedFrom.get h.1 (k := j) (by simpa using e1) (by simpa using e3) hc
 | p :: os,s :: rs,i0,n,i+1,j+1,o,a,b,h,hlt,e1,e2,e3,hc => by
  unfold orderedB at h
  rw [Bool.and_eq_true] at h
  have := orderedB.get h.2 (i := i) (j := j) (by omega) (by simpa using e1) (by simpa using e2) (by simpa using e3) (by simpa [nAt,Vq] using hc)
  rwa [show i0+1+i=i0+(i+1) by omega] at this
 | _ :: _,_ :: _,_,_,_,0,_,_,_,_,h,_,_,_,_ => by omega
theorem mem_wrs {r : OR} {b : Nat} : b ∈ wrs r ↔ b ∈ r.wr∧b ∉ r.rd := by
 unfold wrs
 rw [List.mem_filter,Bool.not_eq_true',memN_not]
theorem Vo {lo b : Nat} {x y : OR} (h : (b ∈ wrs x∧b ∈ y.rd) ∨ (b ∈ wrs x∧b ∈ wrs y) ∨ (b ∈ x.rd∧b ∈ wrs y) ∨ ((lo≤b∧b < x.nx)∧(b ∈ y.rd ∨ b ∈ y.wr))) : Ku lo x y=true := by
 cases hc : Ku lo x y with
 | true => rfl
 | false =>
  exfalso
  unfold Ku at hc
  simp only [Bool.or_eq_false_iff] at hc
  obtain ⟨h1,h2,h3,h4,h5⟩ := hc
  have nin : ∀ l : List Nat,l.any (inR lo x.nx)=false→b ∈ l→¬ (lo≤b∧b < x.nx) := fun l hl hb ⟨q1,q2⟩ => by
   rw [List.any_eq_false] at hl
   refine hl b hb ?_
   unfold inR
   rw [Bool.and_eq_true,Nat.ble_eq]
   exact ⟨q1,by simpa [Nat.blt_eq] using q2⟩
  rcases h with ⟨q1,q2⟩ | ⟨q1,q2⟩ | ⟨q1,q2⟩ | ⟨q1,q2 | q2⟩
  ·exact Rc h1 b q1 q2
  ·exact Rc h2 b q1 q2
  ·exact Rc h3 b q1 q2
  ·exact nin _ h4 q2 q1
  ·exact nin _ h5 q2 q1
end Cx
/- VD -/
namespace Cx
open Go Go.RowKit
theorem Ef.trans2 {nb : List Nat} {w0 : World} {wr wr2 : List Nat} {lo hi lo2 hi2 : Nat} {γ γ' γ2 : Nat→Option Nat} {w w' w2 : World} (h : Ef nb w0 wr lo hi γ w γ' w') (k : Ef nb w0 wr2 lo2 hi2 γ' w' γ2 w2) (h1 : lo≤lo2) (h2 : hi2≤hi)
  (hw : ∀ b ∈ wr2,b ∈ wr ∨ γ b=none) : Ef nb w0 wr lo hi γ w γ2 w2 where
 le := h.le.trans k.le
 same := fun b hb => (k.same b (by omega)).trans (h.same b (by omega))
 fresh := fun b G q => by
  rcases k.fresh b G q with q' | q' | ⟨j,hj,q'⟩
  ·exact h.fresh b G q'
  ·exact Or.inr (Or.inl (Nat.le_trans h.gr.size q'))
  ·rcases h.fresh j G q' with p | p | p
   ·rcases hw j hj with hb | hb
    ·exact Or.inr (Or.inr ⟨j,hb,p⟩)
    ·rw [hb] at p
     cases p
   ·exact Or.inr (Or.inl p)
   ·exact Or.inr (Or.inr p)
 wi := k.wi
 gr := h.gr.trans k.gr
 keep := fun G hG hn => by
  have e1 := h.keep G hG hn
  refine (k.keep G (Nat.lt_of_lt_of_le hG h.gr.size) fun b hb q => ?_).trans e1
  rcases h.fresh b G q with q' | q' | ⟨j,hj,q'⟩
  ·rcases hw b hb with hb | hb
   ·exact hn b hb q'
   ·rw [hb] at q'
    cases q'
  ·omega
  ·exact hn j hj q'
 live := h.live
def Cons (rs : List OR) (n : Nat) (d : Nat→Prop) (b k : Nat) : Prop :=
 (∀ i r,rs[i]? = some r→b ∈ wrs r→(d i ↔ i < k))∧(∀ i r,rs[i]? = some r→nAt n rs i≤b→b < r.nx→d i∧i < k)
section
variable (S : Sx) (E : Ev S.nb) (w0 : World) (tm : List (Nat × AV)) (os : List Oper) (rs : List OR) (h : List HB) (n : Nat)
structure RS (a0 : Act) : Prop where
 lay : Lay S E w0 tm 0 os [] h n rs
 ord : orderedB os 0 n os rs=true
 nod : (os.filterMap (·.dst)).Nodup
 bnd : ∀ o ∈ os,∀ t,o.dst=some t→t < a0.tmps.size
 hlt : ∀ x ∈ h,x.1 < n
structure RI (a0 : Act) (γr : Nat→Option Nat) (wr : World) (γ : Nat→Option Nat) (d : Nat→Prop) (τ : Nat→Value) (w : World) : Prop where
 ef : Ef S.nb w0 (h.map (·.1)) n (nAt n rs rs.length) γr wr γ w
 non : ∀ j r,rs[j]? = some r→¬ d j→∀ b,nAt n rs j≤b→b < r.nx→γ b=none
 dwn : ∀ i o,os[i]? = some o→d i→∀ e ∈ o.after,Region.binds .any e=true→d e.on
 und : ∀ i o t,os[i]? = some o→o.dst=some t→¬ d i→τ i=a0.tmps.getD t undef
 res : ∀ j r y,rs[j]? = some r→d j→r.res=some y→avOn (cOn E S.K γ w) y (τ j)
 box : ∀ k x,k≤rs.length→x ∈ hAt h rs k→Cons rs n d x.1 k→boxOn E S.K γ w x
end
section
variable {S : Sx} {E : Ev S.nb} {w0 : World} {tm : List (Nat × AV)} {os : List Oper} {rs : List OR} {h : List HB} {n : Nat} {a0 : Act}
theorem RS.at (C : RS S E w0 tm os rs h n a0) {j : Nat} {o : Oper} (ho : os[j]? = some o) : ∃ r,rs[j]? = some r∧At S E w0 tm os rs h n [] 0 j o r := C.lay.get ho
theorem RS.op (C : RS S E w0 tm os rs h n a0) {j : Nat} {r : OR} (hr : rs[j]? = some r) : ∃ o,os[j]? = some o∧At S E w0 tm os rs h n [] 0 j o r := by
 have hl := C.lay.len
 have hj : j < os.length := by
  have := (List.getElem?_eq_some_iff.1 hr).1
  omega
 obtain ⟨r',hr',hA⟩ := C.lay.get (List.getElem?_eq_getElem hj)
 rw [hr] at hr'
 cases hr'
 exact ⟨_,List.getElem?_eq_getElem hj,hA⟩
theorem RS.le (C : RS S E w0 tm os rs h n a0) {j : Nat} {r : OR} (hr : rs[j]? = some r) : nAt n rs j≤r.nx := by
 obtain ⟨o,ho,⟨wt,h1,h2,h3⟩,_⟩ := C.op hr
 cases wt with
 | true => exact (h2 rfl).le
 | false => rw [h3 rfl]; exact Nat.le_refl _
theorem RS.fp (C : RS S E w0 tm os rs h n a0) {j : Nat} {r : OR} (hr : rs[j]? = some r) : ∀ x ∈ r.h,x ∈ hAt h rs j ∨ x.1 ∈ r.wr ∨ (nAt n rs j≤x.1∧x.1 < r.nx) := by
 obtain ⟨o,ho,⟨wt,h1,h2,h3⟩,_⟩ := C.op hr
 cases wt with
 | true => exact (h2 rfl).fp
 | false => rw [h3 rfl]; exact fun x hx => Or.inl hx
theorem RS.fp2 (C : RS S E w0 tm os rs h n a0) {j : Nat} {r : OR} (hr : rs[j]? = some r) : ∀ x ∈ r.h,x ∈ hAt h rs j ∨ x.1 ∈ wrs r ∨ (nAt n rs j≤x.1∧x.1 < r.nx) := fun x hx => by
 rcases C.fp hr x hx with q | q | q
 ·exact Or.inl q
 ·by_cases hrd : x.1 ∈ r.rd
  ·obtain ⟨o,ho,hA⟩ := C.op hr
   exact Or.inl (hA.kp.dn x hx q hrd)
  ·exact Or.inr (Or.inl (mem_wrs.2 ⟨q,hrd⟩))
 ·exact Or.inr (Or.inr q)
theorem RS.up (C : RS S E w0 tm os rs h n a0) {x : HB} {k : Nat} : ∀ (j : Nat),k≤j→j≤rs.length→x ∈ hAt h rs k→(∀ i r,k≤i→i < j→rs[i]? = some r→x.1 ∉ wrs r)→x ∈ hAt h rs j
 | 0,hj,_,hx,_ => by
  have : k=0 := by omega
  rw [this] at hx
  exact hx
 | j+1,hj,hk,hx,hn => by
  by_cases e : k=j+1
  ·rw [← e]
   exact hx
  ·have hr : rs[j]? = some rs[j] := List.getElem?_eq_getElem (by omega)
   rw [Vv hr]
   obtain ⟨o,ho,hA⟩ := C.op hr
   exact hA.kp.up x (C.up j (by omega) (by omega) hx fun i r h1 h2 h3 => hn i r h1 (by omega) h3) (hn j _ (by omega) (by omega) hr)
theorem RS.wh (C : RS S E w0 tm os rs h n a0) {j : Nat} {r : OR} (hr : rs[j]? = some r) : ∀ b ∈ r.wr,∃ x ∈ hAt h rs j,x.1=b := by
 obtain ⟨o,ho,⟨wt,h1,h2,h3⟩,_⟩ := C.op hr
 cases wt with
 | true => exact (h2 rfl).wh
 | false => rw [h3 rfl]; intro b hb; cases hb
theorem RS.mono (C : RS S E w0 tm os rs h n a0) : ∀ (k j : Nat),j≤k→k≤rs.length→nAt n rs j≤nAt n rs k
 | 0,j,hj,_ => by
  have : j=0 := by omega
  rw [this]
  exact Nat.le_refl _
 | k+1,j,hj,hk => by
  by_cases e : j=k+1
  ·rw [e]
   exact Nat.le_refl _
  ·have hr : rs[k]? = some rs[k] := List.getElem?_eq_getElem (by omega)
   rw [YA hr]
   exact Nat.le_trans (C.mono k j (by omega) (by omega)) (C.le hr)
theorem RS.ids (C : RS S E w0 tm os rs h n a0) : ∀ (k : Nat),k≤rs.length→∀ x ∈ hAt h rs k,x.1 ∈ h.map (·.1) ∨ (n≤x.1∧x.1 < nAt n rs k)
 | 0,_,x,hx => by
  rw [Wk] at hx
  exact Or.inl (List.mem_map_of_mem hx)
 | k+1,hk,x,hx => by
  have hr : rs[k]? = some rs[k] := List.getElem?_eq_getElem (by omega)
  rw [Vv hr] at hx
  have hn0 := C.mono k 0 (by omega) (by omega)
  rw [Xy] at hn0
  have hle := C.le hr
  rw [YA hr]
  rcases C.fp hr x hx with q | q | q
  ·rcases C.ids k (by omega) x q with q | q
   ·exact Or.inl q
   ·exact Or.inr ⟨q.1,by omega⟩
  ·obtain ⟨y,hy,e⟩ := C.wh hr x.1 q
   rcases C.ids k (by omega) y hy with q | q
   ·exact Or.inl (e ▸ q)
   ·rw [e] at q
    exact Or.inr ⟨q.1,by omega⟩
  ·exact Or.inr ⟨by omega,q.2⟩
theorem RS.idlt (C : RS S E w0 tm os rs h n a0) (k : Nat) (hk : k≤rs.length) : ∀ x ∈ hAt h rs k,x.1 < nAt n rs k := fun x hx => by
 have h0 := C.mono k 0 (by omega) hk
 rw [Xy] at h0
 rcases C.ids k hk x hx with q | q
 ·obtain ⟨y,hy,e⟩ := List.mem_map.1 q
  have := C.hlt y hy
  omega
 ·exact q.2
theorem RS.chain (C : RS S E w0 tm os rs h n a0) {x : HB} {j : Nat} : ∀ (k : Nat),j≤k→k≤rs.length→x ∈ hAt h rs k→(∀ i r,j≤i→i < k→rs[i]? = some r→x.1 ∉ wrs r∧¬ (nAt n rs i≤x.1∧x.1 < r.nx))→x ∈ hAt h rs j
 | 0,hj,_,hx,_ => by
  have : j=0 := by omega
  rw [this]
  exact hx
 | k+1,hj,hk,hx,hn => by
  by_cases e : j=k+1
  ·rw [e]
   exact hx
  ·have hr : rs[k]? = some rs[k] := List.getElem?_eq_getElem (by omega)
   rw [Vv hr] at hx
   obtain ⟨n1,n2⟩ := hn k _ (by omega) (by omega) hr
   rcases C.fp2 hr x hx with q | q | q
   ·exact C.chain k (by omega) (by omega) q fun i r h1 h2 h3 => hn i r h1 (by omega) h3
   ·exact absurd q n1
   ·exact absurd q n2
variable {γr : Nat→Option Nat} {wr : World} {γ : Nat→Option Nat} {d : Nat→Prop} {τ : Nat→Value} {w : World}
theorem RI.ahead (C : RS S E w0 tm os rs h n a0) (I : RI S E w0 os rs h n a0 γr wr γ d τ w) {j : Nat} {o : Oper} {r : OR} (ho : os[j]? = some o) (hr : rs[j]? = some r) (hA : At S E w0 tm os rs h n [] 0 j o r)
  (hd : ∀ e ∈ o.after,Region.binds .any e=true→d e.on) (hn : ¬ d j) : ∀ x ∈ hAt h rs j,x.1 ∈ r.rd ∨ x.1 ∈ r.wr→boxOn E S.K γ w x := by
 intro x hx hb
 have hjl : j < rs.length := (List.getElem?_eq_some_iff.1 hr).1
 have hlt : x.1 < nAt n rs j := hb.elim (hA.rd _) (hA.wr _)
 have hb' : x.1 ∈ r.rd ∨ x.1 ∈ wrs r := by
  by_cases q : x.1 ∈ r.rd
  ·exact Or.inl q
  ·exact Or.inr (mem_wrs.2 ⟨hb.resolve_left q,q⟩)
 refine I.box j x (by omega) hx ⟨fun i r' hr' hw => ?_,fun i r' hr' h1 h2 => ?_⟩
 ·rcases Nat.lt_trichotomy i j with hij | hij | hij
  ·refine ⟨fun _ => hij,fun _ => ?_⟩
   refine XN I.dwn (n := 3) (j := i) ?_ hd
   have := orderedB.get C.ord hij ho hr' hr (Vo (b := x.1) (hb'.elim (fun q => Or.inl ⟨hw,q⟩) (fun q => Or.inr (Or.inl ⟨hw,q⟩))))
   rwa [Nat.zero_add] at this
  ·subst hij
   exact ⟨fun q => absurd q hn,fun q => absurd q (Nat.lt_irrefl _)⟩
  ·refine ⟨fun q => ?_,fun q => by omega⟩
   obtain ⟨o',ho',_⟩ := C.op hr'
   have := orderedB.get C.ord hij ho' hr hr' (Vo (b := x.1) (hb'.elim (fun q => Or.inr (Or.inr (Or.inl ⟨q,hw⟩))) (fun q => Or.inr (Or.inl ⟨q,hw⟩))))
   rw [Nat.zero_add] at this
   exact absurd (XN I.dwn this (I.dwn i o' ho' q)) hn
 ·have hij : i < j := by
   refine Nat.lt_of_not_le fun q => ?_
   have := C.mono i j q (by have := (List.getElem?_eq_some_iff.1 hr').1; omega)
   omega
  refine ⟨XN I.dwn (n := 3) (j := i) ?_ hd,hij⟩
  have := orderedB.get C.ord hij ho hr' hr (Vo (b := x.1) (Or.inr (Or.inr (Or.inr ⟨⟨h1,h2⟩,hb⟩))))
  rwa [Nat.zero_add] at this
theorem RI.step (C : RS S E w0 tm os rs h n a0) (I : RI S E w0 os rs h n a0 γr wr γ d τ w) (hf : ∀ b,n≤b→b < nAt n rs rs.length→γr b=none) {j : Nat} {o : Oper} {r : OR} (ho : os[j]? = some o) (hr : rs[j]? = some r) (hA : At S E w0 tm os rs h n [] 0 j o r)
  (hd : ∀ e ∈ o.after,Region.binds .any e=true→d e.on) (hn : ¬ d j) {γ' : Nat→Option Nat} {w' : World} {v : Value} (he : Ef S.nb w0 r.wr (nAt n rs j) r.nx γ w γ' w') (hres : ∀ y,r.res=some y→avOn (cOn E S.K γ' w') y v)
  (hbox : ∀ x ∈ r.h,x.1 ∈ r.wr ∨ (nAt n rs j≤x.1∧x.1 < r.nx)→boxOn E S.K γ' w' x) : RI S E w0 os rs h n a0 γr wr γ' (fun i => i=j ∨ d i) (Ya τ j v) w' := by
 have hjl : j < rs.length := (List.getElem?_eq_some_iff.1 hr).1
 have hn0 := C.mono j 0 (by omega) (by omega)
 rw [Xy] at hn0
 have hnl := C.mono rs.length (j+1) (by omega) (by omega)
 rw [YA hr] at hnl
 -- ranges
 have apart : ∀ i r',rs[i]? = some r'→i ≠ j→∀ b,nAt n rs i≤b→b < r'.nx→¬ (nAt n rs j≤b∧b < r.nx) := fun i r' hr' hij b h1 h2 ⟨h3,h4⟩ => by
  have hil : i < rs.length := (List.getElem?_eq_some_iff.1 hr').1
  rcases Nat.lt_or_gt_of_ne hij with q | q
  ·have := C.mono j (i+1) (by omega) (by omega)
   rw [YA hr'] at this
   omega
  ·have := C.mono i (j+1) (by omega) (by omega)
   rw [YA hr] at this
   omega
 refine ⟨I.ef.trans2 he hn0 hnl fun b hb => ?_,fun i r' hr' hi b h1 h2 => ?_,fun i o' ho' q e hm hb => ?_,fun i o' t ho' ht q => ?_,fun i r' y hr' q hy => ?_,fun k x hk hx hc => ?_⟩
 ·obtain ⟨x,hx,e⟩ := C.wh hr b hb
  rcases C.ids j (by omega) x hx with q | q
  ·exact Or.inl (e ▸ q)
  ·rw [e] at q
   have := C.mono rs.length j (by omega) (by omega)
   exact Or.inr (hf b q.1 (by omega))
 ·have hij : i ≠ j := fun e => hi (Or.inl e)
  rw [he.same b (apart i r' hr' hij b h1 h2)]
  exact I.non i r' hr' (fun q => hi (Or.inr q)) b h1 h2
 ·rcases q with rfl | q
  ·rw [ho] at ho'
   cases ho'
   exact Or.inr (hd e hm hb)
  ·exact Or.inr (I.dwn i o' ho' q e hm hb)
 ·rw [QQ _ _ (fun e => q (Or.inl e))]
  exact I.und i o' t ho' ht (fun q' => q (Or.inr q'))
 ·by_cases e : i=j
  ·subst e
   rw [YG]
   rw [hr] at hr'
   cases hr'
   exact hres y hy
  ·rw [QQ _ _ e]
   exact he.av (I.res i r' y hr' (q.resolve_left e) hy)
 ·by_cases hw : x.1 ∈ wrs r ∨ (nAt n rs j≤x.1∧x.1 < r.nx)
  ·have hjk : j < k := by
    rcases hw with hw | hw
    ·exact (hc.1 j r hr hw).1 (Or.inl rfl)
    ·exact (hc.2 j r hr hw.1 hw.2).2
   have hx' : x ∈ hAt h rs (j+1) := C.chain k (by omega) hk hx fun i r' h1 h2 hr' => by
    have hij : i ≠ j := by omega
    obtain ⟨o',ho',hA'⟩ := C.op hr'
    constructor
    ·intro hw'
     have hdi : d i := (((hc.1 i r' hr' hw').2 h2)).resolve_left hij
     have hcf : Ku (nAt n rs j) r r'=true := Vo (b := x.1) (hw.elim (fun q => Or.inr (Or.inl ⟨q,hw'⟩)) (fun q => Or.inr (Or.inr (Or.inr ⟨q,Or.inr (mem_wrs.1 hw').1⟩))))
     have := orderedB.get C.ord (by omega : j < i) ho' hr hr' hcf
     rw [Nat.zero_add] at this
     exact hn (XN I.dwn this (I.dwn i o' ho' hdi))
    ·intro hnew
     rcases hw with hw | hw
     ·have := hA.wr _ (mem_wrs.1 hw).1
      have := C.mono i j (by omega) (by have := (List.getElem?_eq_some_iff.1 hr').1; omega)
      omega
     ·exact apart i r' hr' hij _ hnew.1 hnew.2 hw
   rw [Vv hr] at hx'
   exact hbox x hx' (hw.imp (fun q => (mem_wrs.1 q).1) id)
  ·have hw1 : x.1 ∉ wrs r := fun q => hw (Or.inl q)
   by_cases hso : x.1 ∈ r.wr
   ·have hrd : x.1 ∈ r.rd := Classical.byContradiction fun q => hw1 (mem_wrs.2 ⟨hso,q⟩)
    have hx' : x ∈ hAt h rs (j+1) := by
     by_cases hkj : j+1≤k
     ·refine C.chain k hkj hk hx fun i r' h1 h2 hr' => ⟨fun hw' => ?_,fun hnew => ?_⟩
      ·obtain ⟨o',ho',hA'⟩ := C.op hr'
       have hdi : d i := (((hc.1 i r' hr' hw').2 h2)).resolve_left (by omega)
       have := orderedB.get C.ord (by omega : j < i) ho' hr hr' (Vo (b := x.1) (Or.inr (Or.inr (Or.inl ⟨hrd,hw'⟩))))
       rw [Nat.zero_add] at this
       exact hn (XN I.dwn this (I.dwn i o' ho' hdi))
      ·have := hA.wr _ hso
       have := C.mono i j (by omega) (by have := (List.getElem?_eq_some_iff.1 hr').1; omega)
       omega
     ·refine C.up (j+1) (by omega) (by omega) hx fun i r' h1 h2 hr' hw' => ?_
      by_cases hij : i=j
      ·subst hij
       rw [hr] at hr'
       cases hr'
       exact hw1 hw'
      ·have := orderedB.get C.ord (by omega : i < j) ho hr' hr (Vo (b := x.1) (Or.inl ⟨hw',hrd⟩))
       rw [Nat.zero_add] at this
       have := (hc.1 i r' hr' hw').1 (Or.inr (XN I.dwn (n := 3) (j := i) this hd))
       omega
    rw [Vv hr] at hx'
    exact hbox x hx' (Or.inl hso)
   refine he.box I.ef.wi (I.box k x hk hx ⟨fun i r' hr' hb => ?_,fun i r' hr' h1 h2 => ?_⟩) hso
   ·have hij : i ≠ j := fun e => by
     subst e
     rw [hr] at hr'
     cases hr'
     exact hw1 hb
    rw [← hc.1 i r' hr' hb]
    exact ⟨Or.inr,fun q => q.resolve_left hij⟩
   ·have hij : i ≠ j := fun e => by
     subst e
     rw [hr] at hr'
     cases hr'
     exact hw (Or.inr ⟨h1,h2⟩)
    obtain ⟨q1,q2⟩ := hc.2 i r' hr' h1 h2
    exact ⟨q1.resolve_left hij,q2⟩
end
end Cx
/- VE -/
namespace Cx
open Go Go.RowKit
theorem Pk {os : List Oper} {rs : List OR} {j i : Nat} {d : Option Tmp} {q : Option AV} (h : (YY os rs j)[i]? = some (d,q)) : i < j∧∃ o r,os[i]? = some o∧rs[i]? = some r∧o.dst=d∧r.res=q := by
 unfold YY at h
 rw [List.getElem?_map,Option.map_eq_some_iff] at h
 obtain ⟨⟨o,r⟩,h1,h2⟩ := h
 rw [List.getElem?_zip_eq_some] at h1
 obtain ⟨h3,h4⟩ := h1
 have hij : i < j := by
  have := (List.getElem?_eq_some_iff.1 h3).1
  rw [List.length_take] at this
  omega
 rw [List.getElem?_take_of_lt hij] at h3 h4
 cases h2
 exact ⟨hij,o,r,h3,h4,rfl,rfl⟩
theorem LW {os : List Oper} {rs : List OR} {j i : Nat} {o : Oper} {r : OR} (hij : i < j) (ho : os[i]? = some o) (hr : rs[i]? = some r) : (YY os rs j)[i]? = some (o.dst,r.res) := by
 unfold YY
 rw [List.getElem?_map,Option.map_eq_some_iff]
 refine ⟨(o,r),?_,rfl⟩
 rw [List.getElem?_zip_eq_some]
 rw [List.getElem?_take_of_lt hij,List.getElem?_take_of_lt hij]
 exact ⟨ho,hr⟩
section
variable {S : Sx} {E : Ev S.nb} {w0 : World} {tm : List (Nat × AV)} {os : List Oper} {rs : List OR} {h : List HB} {n : Nat} {a0 : Act} {γr : Nat→Option Nat} {wr : World}
theorem RI.init (C : RS S E w0 tm os rs h n a0) (hi : WI w0 γr wr) (hb : ∀ x ∈ h,boxOn E S.K γr wr x) (hf : ∀ b,n≤b→b < nAt n rs rs.length→γr b=none) {w : World} (hw : Below wr.heap.size wr w) :
  RI S E w0 os rs h n a0 γr wr γr (fun _ => False) (ZJ a0 os) w where
 ef := Ef.pure hi hw _ _ _ fun b hb' => by
  obtain ⟨x,hx,rfl⟩ := List.mem_map.1 hb'
  exact (hb x hx).live
 non := fun j r hr _ b h1 h2 => by
  have hjl : j < rs.length := (List.getElem?_eq_some_iff.1 hr).1
  have q1 := C.mono j 0 (by omega) (by omega)
  have q2 := C.mono rs.length (j+1) (by omega) (by omega)
  rw [Xy] at q1
  rw [YA hr] at q2
  exact hf b (by omega) (by omega)
 dwn := fun _ _ _ q => q.elim
 und := fun i o t ho ht _ => by simp [ZJ,ho,ht]
 res := fun _ _ _ _ q => q.elim
 box := fun k x hk hx hc => by
  have hx0 := C.chain k (j := 0) (by omega) hk hx fun i r _ hik hr => ⟨fun q => (hc.1 i r hr q).2 hik,fun q => (hc.2 i r hr q.1 q.2).1⟩
  rw [Wk] at hx0
  exact (Ef.pure (nb := S.nb) hi hw [] 0 0 XR).box hi (hb x hx0) (by simp)
variable {γ : Nat→Option Nat} {d : Nat→Prop} {τ : Nat→Value} {w : World}
theorem RI.opd (C : RS S E w0 tm os rs h n a0) (I : RI S E w0 os rs h n a0 γr wr γ d τ w) (htm : ∀ t v,Vw t tm=some v→avOn (cOn E S.K γr wr) v (a0.tmps.getD t undef)) {j : Nat} {o : Oper}
  (hd : ∀ e ∈ o.after,Region.binds .any e=true→d e.on) (hn : ¬ d j) (x : Operand) (v : AV) (hx : Mx S.K tm (YY os rs j) j o (os.drop (j+1)) x=some v) : avOn (cOn E S.K γ w) v ((Qi a0 τ 0 os).eval x) := by
 have hbd : ∀ {s : Nat} {o' : Oper} {t : Tmp},os[s]? = some o'→o'.dst=some t→t < a0.tmps.size := fun hs ht => C.bnd _ (List.mem_of_getElem? hs) _ ht
 cases x with
 | const u =>
  unfold Mx at hx
  dsimp only at hx
  rw [ifO_some] at hx
  cases hx.2
  refine Zk ?_
  unfold cOn QN
  exact ⟨rfl,hx.1⟩
 | global g => cases hx
 | func f =>
  unfold Mx at hx
  dsimp only at hx
  rw [Option.map_eq_some_iff] at hx
  obtain ⟨i,h1,rfl⟩ := hx
  obtain ⟨_,hK⟩ := Ui h1
  rw [Nat.sub_zero] at hK
  exact Zk ⟨f,[],[],hK,rfl,trivial⟩
 | tmp t =>
  show avOn (cOn E S.K γ w) v ((Qi a0 τ 0 os).tmps.getD t undef)
  unfold Mx at hx
  dsimp only at hx
  cases hp : Vg t 0 (YY os rs j) with
  | some p =>
   obtain ⟨i,q⟩ := p
   rw [hp] at hx
   dsimp only at hx
   rw [ifO_some] at hx
   obtain ⟨he,rfl⟩ := hx
   obtain ⟨_,h2⟩ := RL hp
   rw [Nat.sub_zero] at h2
   obtain ⟨hij,o',r',ho',hr',h3,h4⟩ := Pk h2
   rw [Xi τ os a0 0 i C.nod (by rw [ho']; exact h3) (hbd ho' h3),Nat.zero_add]
   exact I.res i r' v hr' (Ua he hd) h4
  | none =>
   rw [hp] at hx
   dsimp only at hx
   rw [ifO_some] at hx
   obtain ⟨hl,hg⟩ := hx
   have hold := I.ef.av (htm t v hg)
   by_cases hmem : t ∈ os.filterMap (·.dst)
   ·obtain ⟨o',hm,ht⟩ := List.mem_filterMap.1 hmem
    obtain ⟨s,hs⟩ := List.getElem?_of_mem hm
    have hsn : ¬ d s := by
     rcases Nat.lt_trichotomy s j with q | q | q
     ·obtain ⟨r',hr',_⟩ := C.at hs
      have := LW q hs hr'
      rw [ht] at this
      exact absurd this (RO hp s _)
     ·rw [q]
      exact hn
     ·unfold LL at hl
      rw [List.all_eq_true] at hl
      have hin : o' ∈ os.drop (j+1) := by
       rw [List.mem_iff_getElem?]
       exact ⟨s - (j+1),by rw [List.getElem?_drop]; rw [show j+1+(s - (j+1))=s by omega]; exact hs⟩
      have := hl o' hin
      rw [ht] at this
      dsimp only at this
      rw [Nat.beq_refl] at this
      intro hds
      exact hn (Ua (by simpa using this) (I.dwn s o' hs hds))
    rw [Xi τ os a0 0 s C.nod (by rw [hs]; exact ht) (hbd hs ht),Nat.zero_add,I.und s o' t hs ht hsn]
    exact hold
   ·rw [Ul τ os a0 0 hmem]
    exact hold
theorem Ab {R : Nat→Option Nat} {v : AV} {c : Option Bool} {x : Value} (h : An v=some c) (hv : avOn (cOn E S.K R w0) v x) : (match some x with | some (Value.bool b) => some b | _ => none)=c := by
 unfold An at h
 split at h
 ·cases h
  obtain ⟨vs,rfl,_⟩ := hv
  rfl
 ·rw [Option.map_eq_some_iff] at h
  obtain ⟨b,hb,rfl⟩ := h
  rw [OE hb hv]
theorem RI.want (C : RS S E w0 tm os rs h n a0) (I : RI S E w0 os rs h n a0 γr wr γ d τ w) {j : Nat} {o : Oper} {wt : Bool} (hd : ∀ e ∈ o.after,Region.binds .any e=true→d e.on) (hw : SG (YY os rs j) o=some wt) :
  Region.wanted o (yielded os.toArray (Qi a0 τ 0 os).tmps)=wt := by
 unfold SG at hw
 unfold Region.wanted
 cases hg : o.guard with
 | none =>
  rw [hg] at hw
  cases hw
  rfl
 | some g =>
  obtain ⟨i,b⟩ := g
  rw [hg] at hw
  dsimp only at hw
  rw [Option.bind_eq_some_iff] at hw
  obtain ⟨⟨dd,q⟩,hp,hw⟩ := hw
  rw [Option.bind_eq_some_iff] at hw
  obtain ⟨v,hq,hw⟩ := hw
  rw [Option.bind_eq_some_iff] at hw
  obtain ⟨c,hc,hw⟩ := hw
  rw [ifO_some,Bool.and_eq_true] at hw
  obtain ⟨⟨he,hs⟩,hwt⟩ := hw
  cases hwt
  dsimp only at hq hs
  subst hq
  obtain ⟨hij,o',r',ho',hr',h3,h4⟩ := Pk hp
  cases dd with
  | none => cases hs
  | some t =>
   have hlt : t < a0.tmps.size := C.bnd _ (List.mem_of_getElem? ho') _ h3
   have hv := Ab hc (I.res i r' v hr' (Ua he hd) h4)
   have hat := Xi τ os a0 0 i C.nod (by rw [ho']; exact h3) hlt
   rw [Nat.zero_add] at hat
   have hlt2 : t < (Qi a0 τ 0 os).tmps.size := by rw [Yh]; exact hlt
   have YR : (Qi a0 τ 0 os).tmps[t]? = some (τ i) := by
    rw [← hat,Array.getD_eq_getD_getElem?,Array.getElem?_eq_getElem hlt2]
    rfl
   have hy : yielded os.toArray (Qi a0 τ 0 os).tmps i=c := by
    unfold yielded
    rw [List.getElem?_toArray,ho',Option.bind_some,h3,Option.bind_some,YR]
    exact hv
   show (yielded os.toArray (Qi a0 τ 0 os).tmps i == some b)=(c == some b)
   rw [hy]
theorem TT {t u : Nat} : ∀ {l : List (Nat × AV)} {v : AV},Vw t (Mn u l)=some v→t ≠ u∧Vw t l=some v
 | [],_,q => by cases q
 | (x,y) :: l,v,q => by
  unfold Mn at q
  cases e : Nat.beq u x with
  | true =>
   rw [e] at q
   obtain ⟨h1,h2⟩ := TT (l := l) q
   refine ⟨h1,?_⟩
   rw [Nat.beq_eq] at e
   unfold Vw
   have : Nat.beq t x=false := by
    cases hh : Nat.beq t x with
    | false => rfl
    | true => rw [Nat.beq_eq] at hh; omega
   rw [this]
   exact h2
  | false =>
   rw [e] at q
   unfold Vw cond at q
   unfold Vw
   cases e2 : Nat.beq t x with
   | true =>
    simp only [e2] at q
    cases q
    refine ⟨fun hh => ?_,rfl⟩
    rw [Nat.beq_eq] at e2
    rw [← e2,← hh,Nat.beq_refl] at e
    cases e
   | false =>
    simp only [e2] at q
    exact TT (l := l) q
theorem Sa {R : AC→Value→Prop} : ∀ {os : List Oper} {rs : List OR} {tm : List (Nat × AV)} {a : Act} {τ : Nat→Value} {i : Nat},os.length=rs.length→(∀ o ∈ os,∀ t,o.dst=some t→t < a.tmps.size) →
  (∀ t v,Vw t tm=some v→avOn R v (a.tmps.getD t undef))→(∀ j r y,rs[j]? = some r→r.res=some y→avOn R y (τ (i+j)))→∀ t v,Vw t (Em tm os rs)=some v→avOn R v ((Qi a τ i os).tmps.getD t undef)
 | [],[],tm,a,τ,i,_,_,htm,_,t,v,q => htm t v q
 | [],_ :: _,_,_,_,_,hl,_,_,_,_,_,_ => by simp at hl
 | _ :: _,[],_,_,_,_,hl,_,_,_,_,_,_ => by simp at hl
 | o :: os,r :: rs,tm,a,τ,i,hl,hb,htm,hr,t,v,q => by
  show avOn R v ((Qi (a.put o.dst (τ i)) τ (i+1) os).tmps.getD t undef)
  refine Sa (rs := rs) (by simpa using hl) (fun o' ho' t' ht' => ?_) (fun t' v' q' => ?_) (fun j r' y hr' hy => ?_) t v q
  ·have := hb o' (List.mem_cons_of_mem _ ho') t' ht'
   cases o.dst <;> simpa [Act.put] using this
  ·cases hd : o.dst with
   | none =>
    rw [hd] at q'
    exact htm t' v' q'
   | some u =>
    rw [hd] at q'
    have hlt := hb o List.mem_cons_self u hd
    have old : Vw t' (Mn u tm)=some v'→avOn R v' ((a.put (some u) (τ i)).tmps.getD t' undef) := fun q2 => by
     obtain ⟨h1,h2⟩ := TT q2
     rw [XV _ _ (by intro e; cases e; exact h1 rfl)]
     exact htm t' v' h2
    cases hres : r.res with
    | none =>
     rw [hres] at q'
     exact old q'
    | some y =>
     rw [hres] at q'
     dsimp only at q'
     unfold Vw at q'
     cases e : Nat.beq t' u with
     | true =>
      rw [e] at q'
      cases q'
      rw [Nat.beq_eq] at e
      subst e
      rw [UA _ _ hlt]
      exact hr 0 r _ rfl hres
     | false =>
      rw [e] at q'
      exact old q'
  ·have := hr (j+1) r' y (by simpa using hr') hy
   rwa [show i+(j+1)=i+1+j by omega] at this
theorem AP (h : List HB) (rs : List OR) : hAt h rs rs.length=WU h rs := by simp [hAt]
theorem AR (n : Nat) (rs : List OR) : nAt n rs rs.length=Vq n rs := by simp [nAt]
theorem Bc {id : Nat} {dr : Bool} {Q : Exit→Act→World→Prop} (hm : S.P.follows .mixedOrders=true) (ht : topoOps 0 os=true) (C : RS S E w0 tm os rs h n a0) (hi : WI w0 γr wr)
  (htm : ∀ t v,Vw t tm=some v→avOn (cOn E S.K γr wr) v (a0.tmps.getD t undef)) (hb : ∀ x ∈ h,boxOn E S.K γr wr x) (hf : ∀ b,n≤b→b < Vq n rs→γr b=none)
  (hQ : ∀ a w γ,Ef S.nb w0 (h.map (·.1)) n (Vq n rs) γr wr γ w→(∀ t v,Vw t (Em tm os rs)=some v→avOn (cOn E S.K γ w) v (a.tmps.getD t undef))→(∀ x ∈ WU h rs,boxOn E S.K γ w x) →
   a.tmps.size=a0.tmps.size→a.defers=a0.defers→Q .normal a w) : (Code.region id os.toArray dr).wp S.P Q a0 wr := by
 rw [← AR] at hf hQ
 have hsteps : OpSteps S.P Q os a0 (fun d τ w => ∃ γ,RI S E w0 os rs h n a0 γr wr γ d τ w) 0 os := by
  have key : ∀ (os' : List Oper) (i : Nat),(∀ k,os'[k]? = os[i+k]?)→OpSteps S.P Q os a0 (fun d τ w => ∃ γ,RI S E w0 os rs h n a0 γr wr γ d τ w) i os' := by
   intro os'
   induction os' with
   | nil => exact fun _ _ => OpSteps.nil
   | cons o os' ih =>
    intro i hk
    refine OpSteps.cons ?_ (ih (i+1) fun k => by have := hk (k+1); simp at this; rw [this]; congr 1; omega)
    have ho : os[i]? = some o := by have := hk 0; simpa using this.symm
    obtain ⟨r,hr,hA⟩ := C.at ho
    intro d τ w hd hn ⟨γ,I⟩ K hK
    obtain ⟨wt,h1,h2,h3⟩ := hA.wt
    rw [List.nil_append] at h1 h2
    rw [Nat.zero_add] at h2
    have hwant := I.want C hd h1
    have hil : i < rs.length := (List.getElem?_eq_some_iff.1 hr).1
    cases wt with
    | true =>
     rw [if_pos hwant]
     refine (h2 rfl).run γ w (Qi a0 τ 0 os) Q I.ef.wi (I.opd C htm hd hn) (I.ahead C ho hr hA hd hn) (fun b q1 q2 => I.non i r hr hn b q1 q2) (C.idlt i (by omega)) K fun v w' γ' he hres hbox => ?_
     exact hK v w' ⟨γ',I.step C hf ho hr hA hd hn he hres hbox⟩
    | false =>
     rw [if_neg (by rw [hwant]; simp)]
     have e := h3 rfl
     refine hK undef w ⟨γ,I.step C hf ho hr hA hd hn (γ' := γ) (w' := w) ?_ ?_ ?_⟩
     ·rw [e]
      exact Ef.refl I.ef.wi _ _ XR
     ·rw [e]
      intro y hy
      cases hy
      exact ⟨[],rfl,trivial⟩
     ·rw [e]
      intro x hx hw
      rcases hw with hw | hw
      ·cases hw
      ·have : (NY (hAt h rs i) (nAt n rs i)).nx=nAt n rs i := rfl
       omega
  exact key os 0 (fun k => by rw [Nat.zero_add])
 refine On (fun d τ w => ∃ γ,RI S E w0 os rs h n a0 γr wr γ d τ w) hm C.nod ht ⟨γr,RI.init C hi hb hf (Below.drew (Below.refl _ _))⟩ ⟨γr,RI.init C hi hb hf (Below.refl _ _)⟩ hsteps ?_
 rintro d τ w hall ⟨γ,I⟩
 have hlen := C.lay.len
 refine hQ _ w γ I.ef ?_ ?_ (Yh _ _ _ _) (Vl _ _ _ _)
 ·refine Sa (τ := τ) (i := 0) hlen.symm C.bnd (fun t v q => I.ef.av (htm t v q)) fun j r y hr hy => ?_
  rw [Nat.zero_add]
  exact I.res j r y hr (hall j (by have := (List.getElem?_eq_some_iff.1 hr).1; omega)) hy
 ·intro x hx
  rw [← AP] at hx
  refine I.box rs.length x (Nat.le_refl _) hx ⟨fun i r hr _ => ?_,fun i r hr _ _ => ?_⟩
  ·have := (List.getElem?_eq_some_iff.1 hr).1
   exact ⟨fun _ => this,fun _ => hall i (by omega)⟩
  ·have := (List.getElem?_eq_some_iff.1 hr).1
   exact ⟨hall i (by omega),this⟩
end
end Cx
/- VF -/
namespace Cx
open Go Go.RowKit
theorem Zs {P : Program} {X : Sem Value} {v : Value} {w w' : World} (h : X.run P w=.ok v w') : (do pure (Next.value (← X)) : Sem Next).run P w=.ok (.value v) w' := by
 rw [Sem.run_bind,h]
 rfl
theorem Sf {P : Program} {X : Sem Unit} {w w' : World} (h : X.run P w=.ok () w') : (do X; pure Next.skip : Sem Next).run P w=.ok .skip w' := by
 rw [Sem.run_bind,h]
 rfl
theorem Yl (G o i : Nat) : (⟨G,o,none⟩ : Addr).add i=⟨G,o+i,none⟩ := by
 unfold Addr.add
 split
 ·rename_i h
  subst h
  rfl
 ·rfl
theorem DW (ad : Addr) (i j : Nat) : (ad.add i).add j=ad.add (i+j) := by
 unfold Addr.add
 by_cases h1 : i=0
 ·subst h1
  simp
 ·by_cases h2 : j=0
  ·subst h2
   simp
  ·rw [if_neg h1,if_neg h2,if_neg (by omega)]
   simp [Nat.add_assoc]
theorem add_block (ad : Addr) (i : Nat) : (ad.add i).block=ad.block := by
 unfold Addr.add
 split <;> rfl
def Hs (K : List (FuncId × List AC)) (σ : Nat→ByteArray) (w0 : World) : Prop := ∀ (a : Nat) (f : FuncId) (ad : Addr) (n m t N : Nat),K[a]? = some (f,[.inl (.slice (some ad) n m),.inl (.int .i64 (.ofNat t)),.inl (.int .i64 (.ofNat N))])→ad.block < w0.heap.size∧∀ i,i < N→w0.cell? (ad.add i)=some (.string (σ (t+i)))
theorem Qr {P : Program} {t : TypeId} {d : TypeDesc} (h : P.underlying t=some d) (w : World) : (underlying t).run P w=.ok d w := by
 unfold underlying
 simp [go_sem,h]
theorem Vy {P : Program} {t : TypeId} {b : Bool} (h : Oo P t=some b) (w : World) : (isAgg t).run P w=.ok b w := by
 unfold Oo at h
 rw [Option.map_eq_some_iff] at h
 obtain ⟨d,h1,h2⟩ := h
 unfold isAgg
 rw [Sem.run_bind,Qr h1]
 cases d <;> first | (cases h2; rfl)
theorem QW {P : Program} {t : TypeId} {n : Nat} (h : Zh P t=some n) (w : World) : (Go.sizeOf t).run P w=.ok n w := by
 unfold Zh at h
 rw [Option.map_eq_some_iff] at h
 obtain ⟨i,h1,h2⟩ := h
 subst h2
 unfold Go.sizeOf typeInfo
 simp [go_sem,h1]
theorem Uk {P : Program} {t : TypeId} {fs : List Field} (h : Vd P t=some fs) : P.underlying t=some (.struct fs.toArray) := by
 unfold Vd at h
 rw [Option.bind_eq_some_iff] at h
 obtain ⟨d,h1,h2⟩ := h
 cases d <;> cases h2
 exact h1
theorem Yc {P : Program} {t : TypeId} {a : Nat × TypeId} (h : YL P t=some a) : P.underlying t=some (.array a.1 a.2) := by
 unfold YL at h
 rw [Option.bind_eq_some_iff] at h
 obtain ⟨d,h1,h2⟩ := h
 cases d <;> cases h2
 exact h1
theorem QR {P : Program} {t e : TypeId} (h : ZH P t=some e) : P.underlying t=some (.slice e) := by
 unfold ZH at h
 rw [Option.bind_eq_some_iff] at h
 obtain ⟨d,h1,h2⟩ := h
 cases d <;> cases h2
 exact h1
theorem Bk.cell {w : World} {G : Nat} {vs : List Value} {t : TypeId} (h : Bk w G vs t) (j : Nat) : w.cell? ⟨G,j,none⟩=vs[j]? := by
 unfold Bk at h
 simp [World.cell?,h]
theorem Bk.frozen {w : World} {G : Nat} {vs : List Value} {t : TypeId} (h : Bk w G vs t) (j : Nat) : w.frozen? ⟨G,j,none⟩=false := by
 unfold Bk at h
 simp [World.frozen?,h]
theorem Mz {P : Program} {w : World} {G : Nat} {vs : List Value} {t : TypeId} {j : Nat} {v : Value} (h : Bk w G vs t) (hv : vs[j]? = some v) : (load ⟨G,j,none⟩).run P w=.ok v w := by
 have := h.cell j
 rw [hv] at this
 simp [this]
theorem WQ {P : Program} {w : World} {G o : Nat} {vs : List Value} {t : TypeId} (h : Bk w G vs t) : ∀ (n i : Nat) (acc : Array Value),o+i+n≤vs.length→(loadCellsFrom ⟨G,o,none⟩ i n acc).run P w=.ok (acc ++ ((vs.drop (o+i)).take n).toArray) w
 | 0,i,acc,_ => by simp [loadCellsFrom,go_sem]
 | n+1,i,acc,hl => by
  have hlt : o+i < vs.length := by omega
  unfold loadCellsFrom
  rw [Sem.run_bind,Yl,Mz h (List.getElem?_eq_getElem hlt)]
  show (loadCellsFrom ⟨G,o,none⟩ (i+1) n (acc.push vs[o+i])).run P w=_
  rw [WQ h n (i+1) _ (by omega)]
  congr 1
  rw [List.drop_eq_getElem_cons hlt,List.take_succ_cons]
  apply Array.ext'
  simp [Nat.add_assoc]
section
variable {S : Sx} {E : Ev S.nb} {w0 : World} {γ : Nat→Option Nat} {w : World} {h : List HB} {nx : Nat} {ρ : Operand→Option AV} {o : Oper}
theorem DC {R : AC→Value→Prop} {P : Program} {t : TypeId} {cs : List AC} {off : Nat} {v : AV} {vs : List Value} (hp : Vc P t cs off=some v) (hc : A2 R cs vs) :
  ∃ b n,Oo P t=some b∧Zh P t=some n∧((b=true∧off+n≤vs.length∧avOn R v (.agg ((vs.drop off).take n).toArray)) ∨ (b=false∧∃ x,vs[off]? = some x∧avOn R v x)) := by
 unfold Vc at hp
 rw [Option.bind_eq_some_iff] at hp
 obtain ⟨b,h1,hp⟩ := hp
 rw [Option.bind_eq_some_iff] at hp
 obtain ⟨n,h2,hp⟩ := hp
 refine ⟨b,n,h1,h2,?_⟩
 cases b with
 | true =>
  left
  simp only [cond_true] at hp
  rw [ifO_some,Nat.ble_eq] at hp
  obtain ⟨h3,h4⟩ := hp
  cases h4
  exact ⟨rfl,by rw [hc.len]; exact h3,MG ((hc.drop off).take n)⟩
 | false =>
  right
  simp only [cond_false] at hp
  rw [Option.map_eq_some_iff] at hp
  obtain ⟨c,h3,h4⟩ := hp
  cases h4
  obtain ⟨x,hx,hR⟩ := hc.get h3
  exact ⟨rfl,x,hx,Zk hR⟩
theorem RM {R : AC→Value→Prop} {P : Program} {t t' : TypeId} {cs : List AC} {G off : Nat} {v : AV} {vs us : List Value} (hk : Bk w G (vs ++ us) t') (hp : Vc P t cs off=some v) (hc : A2 R cs vs) : ∃ x,(loadVar t ⟨G,off,none⟩).run P w=.ok x w∧avOn R v x := by
 obtain ⟨b,n,h1,h2,h3⟩ := DC hp hc
 unfold loadVar
 rw [Sem.run_bind,Vy h1]
 rcases h3 with ⟨rfl,h4,h5⟩ | ⟨rfl,x,h4,h5⟩
 ·refine ⟨_,?_,h5⟩
  show ((if true=true then (do let n ← Go.sizeOf t; let c ← loadCells ⟨G,off,none⟩ n; pure (Value.agg c)) else load ⟨G,off,none⟩ : Sem Value)).run P w=_
  rw [if_pos rfl,Sem.run_bind,QW h2]
  show (do let c ← loadCells ⟨G,off,none⟩ n; pure (Value.agg c) : Sem Value).run P w=_
  rw [Sem.run_bind]
  unfold loadCells
  rw [WQ hk n 0 #[] (by rw [List.length_append]; omega)]
  show Result.ok _ _=_
  have e : ((vs ++ us).drop off).take n=(vs.drop off).take n := by
   rw [List.drop_append_of_le_length (by omega),List.take_append_of_le_length (by rw [List.length_drop]; omega)]
  simp [e]
 ·exact ⟨x,Mz hk (by rw [List.getElem?_append_left (List.getElem?_eq_some_iff.1 h4).1]; exact h4),h5⟩
theorem Fa {R : AC→Value→Prop} {P : Program} {t : TypeId} {cs : List AC} {ad : Addr} {off : Nat} {v : AV} {vs : List Value} (hk : ∀ (i : Nat) u,vs[i]? = some u→w.cell? (ad.add i)=some u) (hp : Vc P t cs off=some v) (hc : A2 R cs vs) : ∃ x,(loadVar t (ad.add off)).run P w=.ok x w∧avOn R v x := by
 obtain ⟨b,n,h1,h2,h3⟩ := DC hp hc
 unfold loadVar
 rw [Sem.run_bind,Vy h1]
 rcases h3 with ⟨rfl,h4,h5⟩ | ⟨rfl,x,h4,h5⟩
 ·refine ⟨_,?_,h5⟩
  show ((if true=true then (do let n ← Go.sizeOf t; let c ← loadCells (ad.add off) n; pure (Value.agg c)) else load (ad.add off) : Sem Value)).run P w=_
  rw [if_pos rfl,Sem.run_bind,QW h2]
  show (do let c ← loadCells (ad.add off) n; pure (Value.agg c) : Sem Value).run P w=_
  rw [Sem.run_bind]
  have hl : ((vs.drop off).take n).length=n := by rw [List.length_take,List.length_drop]; omega
  have := run_loadCells_list (P := P) (w := w) (ad.add off) ((vs.drop off).take n) (fun j u hj => by
   rw [DW]
   have hj' : vs[off+j]? = some u := by
    rw [List.getElem?_take] at hj
    split at hj
    ·rw [List.getElem?_drop] at hj
     exact hj
    ·cases hj
   exact hk _ _ hj')
  rw [hl] at this
  rw [this]
  rfl
 ·refine ⟨x,?_,h5⟩
  have := hk _ _ h4
  show (load (ad.add off)).run P w=_
  simp [this]
theorem FK {R : AC→Value→Prop} {P : Program} {t : TypeId} {cs : List AC} {off : Nat} {v : AV} {vs : List Value} (hp : Vc P t cs off=some v) (hc : A2 R cs vs) : ∃ x,(part t vs.toArray off).run P w=.ok x w∧avOn R v x := by
 obtain ⟨b,n,h1,h2,h3⟩ := DC hp hc
 unfold part
 rw [Sem.run_bind,Vy h1]
 rcases h3 with ⟨rfl,h4,h5⟩ | ⟨rfl,x,h4,h5⟩
 ·refine ⟨_,?_,h5⟩
  show ((if true = true then (do let n ← Go.sizeOf t; pure (Value.agg (vs.toArray.extract off (off + n)))) else (match vs.toArray[off]? with | some v => pure v | none => stuck "part: no such cell") : Sem Value)).run P w = _
  rw [if_pos rfl,Sem.run_bind,QW h2]
  show Result.ok _ _=_
  simp [List.take_drop]
 ·refine ⟨x,?_,h5⟩
  have : vs.toArray[off]? = some x := by simpa using h4
  show (match vs.toArray[off]? with | some v => (pure v : Sem Value) | none => stuck "part: no such cell").run P w = _
  rw [this]
  rfl
theorem Bk.set {w : World} {G : Nat} {vs : List Value} {t : TypeId} (h : Bk w G vs t) (j : Nat) (v : Value) : Bk (w.setCell ⟨G,j,none⟩ v) G (vs.set j v) t := by
 unfold Bk at h ⊢
 have hlt := (Array.getElem?_eq_some_iff.1 h).1
 simp only [World.setCell,Array.getElem?_modify,if_true,h]
 simp
theorem GB {w : World} {G G' j : Nat} (v : Value) (hne : G' ≠ G) : (w.setCell ⟨G,j,none⟩ v).heap[G']? = w.heap[G']? := by
 simp [World.setCell,Array.getElem?_modify,Ne.symm hne]
theorem Dl (w : World) (a : Addr) (v : Value) : (w.setCell a v).heap.size=w.heap.size := by
 simp [World.setCell]
structure Sav (G : Nat) (w w' : World) : Prop where
 os : w'.os=w.os
 tape : w'.tape=w.tape
 output : w'.output=w.output
 size : w'.heap.size=w.heap.size
 block : ∀ k,k ≠ G→w'.heap[k]? = w.heap[k]?
theorem Sav.refl (G : Nat) (w : World) : Sav G w w := ⟨rfl,rfl,rfl,rfl,fun _ _ => rfl⟩
theorem ZN {P : Program} {G o : Nat} {t : TypeId} : ∀ (ds : List Value) (i : Nat) (w : World) (vs : List Value),Bk w G vs t→(∀ d ∈ ds,okV d=true)→o+i+ds.length≤vs.length →
  ∃ w',(storeCells ⟨G,o,none⟩ ds i).run P w=.ok () w'∧Bk w' G (vs.take (o+i) ++ (ds ++ vs.drop (o+i+ds.length))) t∧Sav G w w'
 | [],i,w,vs,hk,_,_ => ⟨w,rfl,by simpa using hk,Sav.refl _ _⟩
 | d :: ds,i,w,vs,hk,hd,hl => by
  have hlt : o+i < vs.length := by simp at hl; omega
  obtain ⟨w',h1,h2,h3⟩ := ZN (P := P) (o := o) ds (i+1) (w.setCell ⟨G,o+i,none⟩ d) (vs.set (o+i) d) (hk.set _ _) (fun x hx => hd x (List.mem_cons_of_mem _ hx)) (by rw [List.length_set]; rw [List.length_cons] at hl; omega)
  refine ⟨w',?_,?_,⟨h3.os.trans rfl,h3.tape.trans rfl,h3.output.trans rfl,h3.size.trans (Dl _ _ _),fun k hk => (h3.block k hk).trans (GB d hk)⟩⟩
  ·unfold storeCells
   have hst : (store ⟨G,o+i,none⟩ d).run P w=.ok () (w.setCell ⟨G,o+i,none⟩ d) := by
    have hone : d.oneCell'=true := by
     have := hd d List.mem_cons_self
     unfold okV at this
     exact (Bool.and_eq_true _ _ ▸ this).2
    rw [run_store P w _ d _ hone,hk.cell,List.getElem?_eq_getElem hlt]
    simp [hk.frozen]
   rw [Sem.run_bind,Yl,hst]
   exact h1
  ·have e : (vs.set (o+i) d).take (o+(i+1)) ++ (ds ++ (vs.set (o+i) d).drop (o+(i+1)+ds.length))=vs.take (o+i) ++ (d :: ds ++ vs.drop (o+i+(d :: ds).length)) := by
    rw [List.drop_set_of_lt (by omega),show o+(i+1)=o+i+1 by omega,List.take_add_one,List.take_set_of_le (by omega)]
    simp [hlt,Nat.add_assoc,Nat.add_comm 1]
   rw [← e]
   exact h2
end
end Cx
/- VG -/
namespace Cx
open Go Go.RowKit
section
variable {S : Sx} {E : Ev S.nb} {w0 : World} {h : List HB} {nx : Nat} {ρ : Operand→Option AV} {o : Oper}
theorem OpOk.pure {y : AV} (hr : ∀ (γ : Nat→Option Nat) (w : World) (a : Act),(∀ x v,ρ x=some v→avOn (cOn E S.K γ w) v (a.eval x))→∃ v,(execOp a.eval o).run S.P w=.ok (.value v) w∧avOn (cOn E S.K γ w) y v) : OpOk S E w0 h nx ρ o (QO h nx y) where
 le := Nat.le_refl _
 wh := fun b hb => by cases hb
 fp := fun x hx => Or.inl hx
 run := fun γ w a Q hi hρ _ _ _ K hK => by
  obtain ⟨v,e,hv⟩ := hr γ w a hρ
  unfold Oper.wp
  rw [e]
  refine hK v w γ (Ef.refl hi _ _ XR) (fun y' hy => ?_) fun x hx hw => ?_
  ·cases hy
   exact hv
  ·rcases hw with hw | hw
   ·cases hw
   ·have : (QO h nx y).nx=nx := rfl
    omega
theorem OpOk.calm {y : AV} (hr : ∀ (γ : Nat→Option Nat) (w : World) (a : Act),(∀ x v,ρ x=some v→avOn (cOn E S.K γ w) v (a.eval x))→∃ v w',(execOp a.eval o).run S.P w=.ok (.value v) w'∧Below w.heap.size w w'∧avOn (cOn E S.K γ w') y v) : OpOk S E w0 h nx ρ o (QO h nx y) where
 le := Nat.le_refl _
 wh := fun b hb => by cases hb
 fp := fun x hx => Or.inl hx
 run := fun γ w a Q hi hρ _ _ _ K hK => by
  obtain ⟨v,w',e,hb,hv⟩ := hr γ w a hρ
  unfold Oper.wp
  rw [e]
  refine hK v w' γ (Ef.pure hi hb _ _ _ XR) (fun y' hy => ?_) fun x hx hw => ?_
  ·cases hy
   exact hv
  ·rcases hw with hw | hw
   ·cases hw
   ·have : (QO h nx y).nx=nx := rfl
    omega
theorem MB {x : Operand} {r : OR} (hop : o.op=.move x ∨ o.op=.assign x) (hr : (ρ x).map (QO h nx)=some r) : OpOk S E w0 h nx ρ o r := by
 rw [Option.map_eq_some_iff] at hr
 obtain ⟨v,h1,rfl⟩ := hr
 refine OpOk.pure fun γ w a hρ => ⟨_,?_,hρ x v h1⟩
 unfold execOp
 rcases hop with e | e <;> rw [e] <;> rfl
theorem op_pick {c x y : Operand} {r : OR} (hop : o.op=.pick c x y) (hr : ((ρ c).bind fun v => (asB v).bind fun t => (ρ (bif t then x else y)).map (QO h nx))=some r) : OpOk S E w0 h nx ρ o r := by
 simp only [Option.bind_eq_some_iff,Option.map_eq_some_iff] at hr
 obtain ⟨v,h1,t,h2,u,h3,rfl⟩ := hr
 refine OpOk.pure fun γ w a hρ => ⟨_,?_,hρ _ u h3⟩
 have hc := OE h2 (hρ c v h1)
 unfold execOp
 rw [hop]
 simp only [hc]
 cases t <;> rfl
theorem Sn {x : Operand} {r : OR} (hop : o.op=.nilCheck x) (hr : ((ρ x).bind fun v => (asP v).map fun _ => QO h nx v)=some r) : OpOk S E w0 h nx ρ o r := by
 simp only [Option.bind_eq_some_iff,Option.map_eq_some_iff] at hr
 obtain ⟨v,h1,p,h2,rfl⟩ := hr
 refine OpOk.pure fun γ w a hρ => ⟨a.eval x,?_,hρ x v h1⟩
 obtain ⟨G,_,e⟩ := OD h2 (hρ x v h1)
 unfold execOp
 rw [hop]
 simp only [e]
 rfl
theorem CQ {t : TypeId} {x : Operand} {r : OR} (hop : o.op=.sliceToArrayPointer t x) (hr : ((YL S.P t).bind fun n => (ρ x).bind fun v => ((asC v).bind acR).bind fun p => ifO (Nat.ble n.1 p.2.2) (some (QO h nx (v1 (ptr p.1 p.2.1)))))=some r) : OpOk S E w0 h nx ρ o r := by
 simp only [Option.bind_eq_some_iff,ifO_some,Nat.ble_eq] at hr
 obtain ⟨n,h1,v,h2,p,⟨c,h3,h4⟩,h5,e⟩ := hr
 cases e
 refine OpOk.pure fun γ w a hρ => ?_
 obtain ⟨G,cap,hG,ex⟩ := Rf h4 (Za h3 (hρ x v h2))
 refine ⟨.pointer (some ⟨G,p.2.1,none⟩),?_,Zk ⟨G,hG,rfl⟩⟩
 unfold execOp
 rw [hop]
 simp only [ex]
 refine Zs ?_
 unfold Instr.arrayAt
 rw [Sem.run_bind,Qr (Yc h1)]
 simp [Nat.not_lt.2 h5]
theorem Mb {x : Operand} {k : Nat} {r : OR} (hop : o.op=.extract x k) (hr : ((ρ x).bind fun v => (asT v).bind fun vs => vs[k]?.map fun y => QO h nx (false,[y]))=some r) : OpOk S E w0 h nx ρ o r := by
 simp only [Option.bind_eq_some_iff,Option.map_eq_some_iff] at hr
 obtain ⟨v,h1,vs,h2,y,h3,rfl⟩ := hr
 refine OpOk.pure fun γ w a hρ => ?_
 obtain ⟨us,e,hA⟩ := asT_on h2 (hρ x v h1)
 obtain ⟨u,hu,hy⟩ := hA.get h3
 refine ⟨u,?_,hy,trivial⟩
 unfold execOp
 rw [hop]
 simp only [e,Instr.extract,List.getElem?_toArray,hu]
 rfl
theorem op_not {t : TypeId} {x : Operand} {r : OR} (hop : o.op=.unOp .not t x) (hr : ((ρ x).bind fun v => (asB v).map fun t => QO h nx (kB (!t)))=some r) : OpOk S E w0 h nx ρ o r := by
 simp only [Option.bind_eq_some_iff,Option.map_eq_some_iff] at hr
 obtain ⟨v,h1,b,h2,rfl⟩ := hr
 refine OpOk.pure fun γ w a hρ => ⟨.bool (!b),?_,Zk ⟨rfl,rfl⟩⟩
 have hc := OE h2 (hρ x v h1)
 unfold execOp
 rw [hop]
 simp only [hc]
 rfl
theorem wrap_i64 {z : Int} (h : WZ z=true) : IntKind.i64.wrap z=z := by
 unfold WZ at h
 simp only [Bool.and_eq_true,decide_eq_true_eq] at h
 unfold IntKind.wrap
 simp only [IntKind.bits,IntKind.signed,show (2 : Int) ^ 64=18446744073709551616 from rfl,show (2 : Int) ^ (64 - 1)=9223372036854775808 from rfl,decide_eq_true_eq,Bool.true_and,ge_iff_le]
 split <;> omega
theorem op_neg {t : TypeId} {x : Operand} {r : OR} (hop : o.op=.unOp .neg t x) (hr : ((ρ x).bind fun v => (asI v).bind fun z => ifO (WZ (-z)) (some (QO h nx (kI (-z)))))=some r) : OpOk S E w0 h nx ρ o r := by
 simp only [Option.bind_eq_some_iff,ifO_some] at hr
 obtain ⟨v,h1,z,h2,h3,e⟩ := hr
 cases e
 refine OpOk.pure fun γ w a hρ => ⟨.int .i64 (-z),?_,Zk ⟨rfl,rfl⟩⟩
 have hc := Vk h2 (hρ x v h1)
 unfold execOp
 rw [hop]
 simp only [hc]
 refine Zs ?_
 show (Op.intArith .sub .i64 0 z).run S.P w=_
 simp [go_sem,wrap_i64 h3]
theorem DG {t : TypeId} {x : Operand} {f : Nat} {r : OR} (hop : o.op=.fieldAddr t x f) (hr : ((Vd S.P t).bind fun fs => (ρ x).bind fun v => (asP v).bind fun p => fs[f]?.bind fun g => (Zh S.P g.type).bind fun n =>
   ifO (Nat.blt 0 n) (some (QO h nx (v1 (ptr p.1 (p.2+g.offset))))))=some r) : OpOk S E w0 h nx ρ o r := by
 simp only [Option.bind_eq_some_iff,ifO_some] at hr
 obtain ⟨fs,h1,v,h2,p,h3,g,h4,n,h5,h6,e⟩ := hr
 cases e
 refine OpOk.pure fun γ w a hρ => ?_
 obtain ⟨G,hG,hx⟩ := OD h3 (hρ x v h2)
 refine ⟨.pointer (some ⟨G,p.2+g.offset,none⟩),?_,Zk ⟨G,hG,rfl⟩⟩
 unfold execOp
 rw [hop]
 refine Zs ?_
 rw [hx]
 unfold Instr.fieldAt
 rw [Sem.run_bind,Qr (Uk h1)]
 have hfs : fs.toArray[f]? = some g := by simpa using h4
 have hn : ¬ n=0 := by
  intro e
  rw [e] at h6
  cases h6
 show (match fs.toArray[f]? with | some f => (do let a ← Instr.sureAddr (.pointer (some ⟨G, p.2, none⟩)); pure (Value.pointer (some (← fieldPlace a f))) : Sem Value) | x => stuck "fieldAddr: no such field").run S.P w = _
 rw [hfs]
 show (do let q ← fieldPlace ⟨G,p.2,none⟩ g; pure (Value.pointer (some q)) : Sem Value).run S.P w=_
 unfold fieldPlace
 rw [Sem.run_bind,Sem.run_bind,QW h5]
 show ((if n=0 then partAt ⟨G,p.2,none⟩ g.offset g.byteOffset else pure ((⟨G,p.2,none⟩ : Addr).add g.offset) : Sem Addr).run S.P w).andThen _=_
 rw [if_neg hn,Yl]
 rfl
theorem Aq {t : TypeId} {x : Operand} {f : Nat} {r : OR} (hop : o.op=.field t x f) (hr : ((Vd S.P t).bind fun fs => (ρ x).bind fun v => (asA v).bind fun cs => fs[f]?.bind fun g => (Vc S.P g.type cs g.offset).map (QO h nx))=some r) : OpOk S E w0 h nx ρ o r := by
 simp only [Option.bind_eq_some_iff,Option.map_eq_some_iff] at hr
 obtain ⟨fs,h1,v,h2,cs,h3,g,h4,u,h5,rfl⟩ := hr
 refine OpOk.pure fun γ w a hρ => ?_
 obtain ⟨vs,e,hA⟩ := Oi h3 (hρ x v h2)
 obtain ⟨z,hz,hu⟩ := FK (w := w) h5 hA
 refine ⟨z,?_,hu⟩
 unfold execOp
 rw [hop]
 refine Zs ?_
 rw [e]
 unfold Instr.field
 rw [Sem.run_bind,Qr (Uk h1)]
 have hfs : fs.toArray[f]? = some g := by simpa using h4
 show (match fs.toArray[f]? with | some f => (do part f.type (← asAgg (.agg vs.toArray)) f.offset : Sem Value) | none => stuck "Field: no such field").run S.P w = _
 rw [hfs]
 exact hz
theorem ofNat_lt {k n : Nat} (h : Nat.blt k n=true) : (0 : Int)≤(k : Int)∧(k : Int) < (n : Int) := by
 have : k < n := by simpa [Nat.blt_eq] using h
 omega
theorem OC {P : Program} {t : TypeId} {n : Nat} (h : Zh P t=some n) : ∃ i,P.info? t=some i∧i.size=n := by
 unfold Zh at h
 rw [Option.map_eq_some_iff] at h
 exact h
theorem Db {t : TypeId} {x i : Operand} {r : OR} (hop : o.op=.indexAddr t x i) (hr : ((ρ x).bind fun v => (ρ i).bind fun u => (asN u).bind fun k => match YL S.P t with
  | some (n,e) => (asP v).bind fun p => (Zh S.P e).bind fun z => ifO (Nat.blt k n) (some (QO h nx (v1 (ptr p.1 (p.2+k*z)))))
  | none => (ZH S.P t).bind fun e => (Zh S.P e).bind fun z => match (asC v).bind acH with
   | some p => ifO (Nat.blt k p.2.2) (some (QO h nx (v1 (.inr (9,p.1,p.2.1+k*z,0,0)))))
   | none => (asR v).bind fun p => ifO (Nat.blt k p.2.2) (some (QO h nx (v1 (ptr p.1 (p.2.1+k*z))))))=some r) : OpOk S E w0 h nx ρ o r := by
 simp only [Option.bind_eq_some_iff] at hr
 obtain ⟨v,h1,u,h2,k,h3,hr⟩ := hr
 have hexec : ∀ (a : Act) (w : World) (q : Value),(Instr.indexAt t (a.eval x) (a.eval i)).run S.P w=.ok q w→(execOp a.eval o).run S.P w=.ok (.value q) w := fun a w q hq => by
  unfold execOp
  rw [hop]
  exact Zs hq
 split at hr
 ·rename_i n e ha
  simp only [Option.bind_eq_some_iff,ifO_some] at hr
  obtain ⟨p,h4,z,h5,h6,e'⟩ := hr
  cases e'
  refine OpOk.pure fun γ w a hρ => ?_
  obtain ⟨G,hG,hx⟩ := OD h4 (hρ x v h1)
  have hi := Uh h3 (hρ i u h2)
  refine ⟨.pointer (some ⟨G,p.2+k*z,none⟩),hexec a w _ ?_,Zk ⟨G,hG,rfl⟩⟩
  rw [hx,hi]
  have hb := ofNat_lt h6
  unfold Instr.indexAt
  have hkn : k < n := by omega
  simp [go_sem,Qr (Yc ha),QW h5,hkn,Instr.sureAddr,Yl,Result.andThen]
 ·rename_i ha
  simp only [Option.bind_eq_some_iff] at hr
  obtain ⟨e,h4,z,h6,hr⟩ := hr
  split at hr
  ·rename_i p h5
   rw [ifO_some] at hr
   obtain ⟨h7,e'⟩ := hr
   cases e'
   rw [Option.bind_eq_some_iff] at h5
   obtain ⟨c,h8,h9⟩ := h5
   refine OpOk.pure fun γ w a hρ => ?_
   obtain ⟨f,ad,n',m,r,m',hK,hx⟩ := LM h9 (Za h8 (hρ x v h1))
   have hi := Uh h3 (hρ i u h2)
   refine ⟨.pointer (some (ad.add (p.2.1+k*z))),hexec a w _ ?_,Zk ⟨f,ad,n',m,r,hK,rfl⟩⟩
   rw [hx,hi]
   have hb := ofNat_lt h7
   unfold Instr.indexAt
   have hkn : k < p.2.2 := by omega
   simp [go_sem,Qr (QR h4),QW h6,hkn,DW,Result.andThen]
  ·simp only [Option.bind_eq_some_iff,ifO_some] at hr
   obtain ⟨p,h5,h7,e'⟩ := hr
   cases e'
   refine OpOk.pure fun γ w a hρ => ?_
   obtain ⟨G,cp,hG,hx⟩ := KY h5 (hρ x v h1)
   have hi := Uh h3 (hρ i u h2)
   refine ⟨.pointer (some ⟨G,p.2.1+k*z,none⟩),hexec a w _ ?_,Zk ⟨G,hG,rfl⟩⟩
   rw [hx,hi]
   have hb := ofNat_lt h7
   unfold Instr.indexAt
   have hkn : k < p.2.2 := by omega
   simp [go_sem,Qr (QR h4),QW h6,hkn,Yl,Result.andThen]
theorem LN {t : TypeId} {x i : Operand} {r : OR} (hop : o.op=.index t x i) (hr : ((YL S.P t).bind fun a => (ρ x).bind fun v => (asA v).bind fun cs => (ρ i).bind fun u => (asN u).bind fun k => (Zh S.P a.2).bind fun z =>
   ifO (Nat.blt k a.1) ((Vc S.P a.2 cs (k*z)).map (QO h nx)))=some r) : OpOk S E w0 h nx ρ o r := by
 simp only [Option.bind_eq_some_iff,Option.map_eq_some_iff,ifO_some] at hr
 obtain ⟨a',h1,v,h2,cs,h3,u,h4,k,h5,z,h6,h7,y,h8,rfl⟩ := hr
 refine OpOk.pure fun γ w a hρ => ?_
 obtain ⟨vs,e,hA⟩ := Oi h3 (hρ x v h2)
 have hi := Uh h5 (hρ i u h4)
 obtain ⟨q,hq,hu⟩ := FK (w := w) h8 hA
 refine ⟨q,?_,hu⟩
 unfold execOp
 rw [hop]
 refine Zs ?_
 rw [e,hi]
 have hb := ofNat_lt h7
 unfold Instr.index
 have e3 : (asIntOf (.int .i64 (k : Int))).run S.P w=.ok (.i64,(k : Int)) w := rfl
 rw [Sem.run_bind,e3]
 show ((underlying t) >>= _ : Sem Value).run S.P w=_
 rw [Sem.run_bind,Qr (Yc h1)]
 show (if (0 : Int)≤(k : Int)∧(k : Int) < (a'.1 : Int) then ((Go.sizeOf a'.2) >>= fun n => part a'.2 vs.toArray ((k : Int).toNat*n)) else boundsPanic .i64 k a'.1 .index : Sem Value).run S.P w=_
 rw [if_pos hb,Sem.run_bind,QW h6]
 exact hq
end
end Cx
/- VH -/
namespace Cx
open Go Go.RowKit
theorem YD (w : World) (x : Obj) : Below w.heap.size w (w.alloc x) := ⟨rfl,rfl,rfl,by show w.heap.size≤(w.heap.push x).size; simp,fun k hk => by show (w.heap.push x)[k]? = _; simp [Array.getElem?_push,Nat.ne_of_lt hk]⟩
theorem Bk.new (w : World) (vs : List Value) (t : TypeId) : Bk (w.alloc (.cells vs.toArray t)) w.heap.size vs t := by
 show (w.heap.push (.cells vs.toArray t))[w.heap.size]? = _
 simp
theorem Bk.uniq {w : World} {G : Nat} {cs ds : List Value} {t u : TypeId} (h : Bk w G cs t) (k : Bk w G ds u) : cs=ds∧t=u := by
 unfold Bk at h k
 rw [h] at k
 simp only [Option.some.injEq,Obj.cells.injEq] at k
 exact ⟨by simpa using congrArg Array.toList k.1,k.2.1⟩
def Bt (γ : Nat→Option Nat) (b G : Nat) : Nat→Option Nat := fun c => if c=b then some G else γ c
theorem JD (γ : Nat→Option Nat) (b G : Nat) : Bt γ b G b=some G := if_pos rfl
theorem XT (γ : Nat→Option Nat) {b c : Nat} (G : Nat) (h : c ≠ b) : Bt γ b G c=γ c := if_neg h
theorem Ef.new {nb : List Nat} {w0 w w' : World} {γ : Nat→Option Nat} {b G : Nat} (hi : WI w0 γ w) (hn : γ b=none) (hb : Below w.heap.size w w') (h1 : w.heap.size≤G) (h2 : G < w'.heap.size) : Ef nb w0 [] b (b+1) γ w (Bt γ b G) w' where
 le := fun c G' q => by
  have : c ≠ b := fun e => by rw [e,hn] at q; cases q
  rw [XT _ _ this]
  exact q
 same := fun c hc => XT _ _ (by omega)
 fresh := fun c G' q => by
  by_cases e : c=b
  ·rw [e,JD] at q
   cases q
   exact Or.inr (Or.inl h1)
  ·rw [XT _ _ e] at q
   exact Or.inl q
 wi := ⟨hi.bel.trans (hb.mono hi.bel.size),fun c G' q => by
   by_cases e : c=b
   ·rw [e,JD] at q
    cases q
    have := hi.bel.size
    exact ⟨by omega,h2⟩
   ·rw [XT _ _ e] at q
    have := hi.lo c G' q
    have := hb.size
    exact ⟨by omega,by omega⟩⟩
 gr := Gr.of hb
 keep := fun G' hG' _ => hb.block G' hG'
 live := XR
theorem KI {w0 w : World} {γ : Nat→Option Nat} {b G : Nat} (hi : WI w0 γ w) (h1 : w.heap.size≤G) : KU (Bt γ b G) b := fun G' c q q' => by
 rw [JD] at q
 cases q
 by_cases e : c=b
 ·omega
 ·rw [XT _ _ e] at q'
  have := hi.lo c _ q'
  omega
section
variable {S : Sx} {E : Ev S.nb} {w0 : World} {h : List HB} {nx : Nat} {ρ : Operand→Option AV} {o : Oper}
theorem OpOk.new {cs : List AC} {c : AC} (hr : ∀ (γ : Nat→Option Nat) (w : World) (a : Act),(∀ x v,ρ x=some v→avOn (cOn E S.K γ w) v (a.eval x)) →
  ∃ v vs t,(execOp a.eval o).run S.P w=.ok (.value v) (w.alloc (.cells (List.toArray vs) t))∧JU t S.nb=false∧A2 (cOn E S.K γ w) cs vs∧∀ γ' w',γ' nx=some w.heap.size→cOn E S.K γ' w' c v) : OpOk S E w0 h nx ρ o (Gw h nx cs c) where
 le := Nat.le_succ _
 wh := fun b hb => by cases hb
 fp := fun x hx => by
  rcases List.mem_append.1 hx with hx | hx
  ·exact Or.inl hx
  ·rw [List.mem_singleton] at hx
   rw [hx]
   exact Or.inr (Or.inr ⟨Nat.le_refl _,Nat.lt_succ_self _⟩)
 run := fun γ w a Q hi hρ _ hf hlt K hK => by
  obtain ⟨v,vs,t,e,ht,hA,hc⟩ := hr γ w a hρ
  unfold Oper.wp
  rw [e]
  have hef : Ef S.nb w0 [] nx (nx+1) γ w (Bt γ nx w.heap.size) (w.alloc (.cells vs.toArray t)) := Ef.new hi (hf nx (Nat.le_refl _) (Nat.lt_succ_self _)) (YD _ _) (Nat.le_refl _) (by show _ < (w.heap.push _).size; simp)
  refine hK v _ _ hef (fun y hy => ?_) fun x hx hw => ?_
  ·cases hy
   exact Zk (hc _ _ (JD _ _ _))
  ·rcases List.mem_append.1 hx with hx | hx
   ·have := hlt x hx
    rcases hw with hw | hw
    ·cases hw
    ·omega
   ·rw [List.mem_singleton] at hx
    rw [hx]
    exact ⟨_,vs,t,JD _ _ _,KI hi (Nat.le_refl _),⟨[],by rw [List.append_nil]; exact Bk.new _ _ _,by simp⟩,ht,hA.mono fun _ _ q => hef.cell q⟩
theorem Dc {γ : Nat→Option Nat} {w : World} : ∀ {vs : List Value},vs.all okV=true→A2 (cOn E S.K γ w) (vs.map Sum.inl) vs
 | [],_ => trivial
 | v :: vs,hv => by
  rw [List.all_cons,Bool.and_eq_true] at hv
  refine ⟨?_,Dc hv.2⟩
  unfold cOn QN
  exact ⟨rfl,hv.1⟩
theorem UO {P : Program} {t : TypeId} {cs : List AC} (hz : Yp P t=some cs) (w : World) : ∃ z : Value,(zeroValue t).run P w=.ok z w∧z.cells.toList.all okV=true∧cs=z.cells.toList.map Sum.inl := by
 unfold Yp at hz
 simp only [Option.bind_eq_some_iff,ifO_some] at hz
 obtain ⟨i,h1,z,h2,h3,h4⟩ := hz
 cases h4
 refine ⟨z,?_,h3,rfl⟩
 unfold zeroValue typeInfo
 simp [go_sem,h1,h2]
theorem Li {t : TypeId} {r : OR} (hop : o.op=.alloc t) (hr : ifO (!JU t S.nb) ((Yp S.P t).map fun cs => Gw h nx cs (ptr nx 0))=some r) : OpOk S E w0 h nx ρ o r := by
 simp only [ifO_some,Option.map_eq_some_iff] at hr
 obtain ⟨ht,cs,hz,rfl⟩ := hr
 refine OpOk.new fun γ w a hρ => ?_
 obtain ⟨z,h1,h2,h3⟩ := UO hz w
 refine ⟨.pointer (some ⟨w.heap.size,0,none⟩),z.cells.toList,t,?_,by simpa using ht,h3 ▸ Dc h2,fun γ' w' hγ => ⟨_,hγ,rfl⟩⟩
 unfold execOp
 rw [hop]
 refine Zs ?_
 unfold Instr.alloc
 rw [Sem.run_bind,h1]
 simp [go_sem,newVar,newRow]
theorem op_box {t : TypeId} {x : Operand} {r : OR} (hop : o.op=.box t x) (hr : ifO (!JU t S.nb) ((ρ x).bind fun v => (asL v).map fun cs => Gw h nx cs (ptr nx 0))=some r) : OpOk S E w0 h nx ρ o r := by
 simp only [ifO_some,Option.bind_eq_some_iff,Option.map_eq_some_iff] at hr
 obtain ⟨ht,v,h1,cs,h2,rfl⟩ := hr
 refine OpOk.new fun γ w a hρ => ?_
 obtain ⟨vs,e,hA⟩ := PI h2 (hρ x v h1)
 refine ⟨.pointer (some ⟨w.heap.size,0,none⟩),vs,t,?_,by simpa using ht,hA,fun γ' w' hγ => ⟨_,hγ,rfl⟩⟩
 unfold execOp
 rw [hop]
 refine Zs ?_
 unfold Instr.box newVar newRow
 rw [e]
 simp [go_sem]
theorem Lm {γ : Nat→Option Nat} {w : World} {K : List (FuncId × List AC)} (hh : Hs K E.σ w0) (hi : WI w0 γ w) {a : Nat} {cs : List AC} (hc : Eb K a=some cs) {f : FuncId} {ad : Addr} {n m : Nat} {r : List AC} (hK : K[a]? = some (f,.inl (.slice (some ad) n m) :: r)) : ∃ vs : List Value,A2 (cOn E K γ w) cs vs∧∀ (i : Nat) u,vs[i]? = some u→w.cell? (ad.add i)=some u := by
 unfold Eb at hc
 rw [hK] at hc
 simp only [Option.bind_some] at hc
 split at hc
 ·rename_i ad' n' m' t N e
  cases hc
  obtain ⟨e1,e2⟩ := List.cons.inj e
  cases e1
  subst e2
  obtain ⟨hb,ht⟩ := hh a f ad n m t N hK
  refine ⟨(List.range' t N).map fun j => .string (E.σ j),?_,fun i u hu => ?_⟩
  ·have : ∀ l : List Nat,A2 (cOn E K γ w) (l.map fun j => .inr (2,j,0,0,0)) (l.map fun j => .string (E.σ j)) := fun l => by
    induction l with
    | nil => trivial
    | cons j l ih => exact ⟨rfl,ih⟩
   exact this _
  ·rw [List.getElem?_map,Option.map_eq_some_iff] at hu
   obtain ⟨j,h1,rfl⟩ := hu
   have hiN : i < N := by
    have := (List.getElem?_eq_some_iff.1 h1).1
    simpa using this
   rw [List.getElem?_range' hiN] at h1
   cases h1
   have := ht i hiN
   unfold World.cell? at this ⊢
   rw [add_block] at this ⊢
   rw [hi.bel.block _ hb]
   simpa using this
 ·cases hc
theorem op_load {t : TypeId} {x : Operand} {r : OR} (hh : hdB S.pr=true→Hs S.K E.σ w0) (hop : o.op=.load t x) (hr : ((ρ x).bind fun v => match (asC v).bind acHP with
  | some p => ifO (hdB S.pr) ((Eb S.K p.1).bind fun cs => (Vc S.P t cs p.2).map (QO h nx))
  | none => (asP v).bind fun p => (YR p.1 h).bind fun cs => (Vc S.P t cs p.2).map fun r => ({ res := some r,rd := [p.1],wr := [],h := h,nx := nx } : OR))=some r) : OpOk S E w0 h nx ρ o r := by
 rw [Option.bind_eq_some_iff] at hr
 obtain ⟨v,h1,hr⟩ := hr
 split at hr
 ·rename_i p hp
  simp only [Option.bind_eq_some_iff,Option.map_eq_some_iff,ifO_some] at hr hp
  obtain ⟨hhd,cs,h3,y,h4,rfl⟩ := hr
  obtain ⟨c,h5,h6⟩ := hp
  refine ⟨Nat.le_refl _,(fun b hb => by cases hb),fun x hx => Or.inl hx,fun γ w a Q hi hρ hb _ _ K hK => ?_⟩
  obtain ⟨f,ad,n,m,r,g1,hx⟩ := acHP_on h6 (Za h5 (hρ x v h1))
  obtain ⟨vs,g2,g3⟩ := Lm (hh hhd) hi h3 g1
  obtain ⟨z,hz,hy⟩ := Fa (ad := ad) g3 h4 g2
  unfold Oper.wp
  have e : (execOp a.eval o).run S.P w=.ok (.value z) w := by
   unfold execOp
   rw [hop]
   refine Zs ?_
   rw [hx]
   exact hz
  rw [e]
  refine hK z w γ (Ef.refl hi _ _ XR) (fun y' hy' => ?_) fun x hx hw => ?_
  ·cases hy'
   exact hy
  ·rcases hw with hw | hw
   ·cases hw
   ·dsimp only [QO] at hw
    omega
 simp only [Option.bind_eq_some_iff,Option.map_eq_some_iff] at hr
 obtain ⟨p,h2,cs,h3,y,h4,rfl⟩ := hr
 refine ⟨Nat.le_refl _,(fun b hb => by cases hb),fun x hx => Or.inl hx,fun γ w a Q hi hρ hb _ _ K hK => ?_⟩
 obtain ⟨G,hG,hx⟩ := OD h2 (hρ x v h1)
 obtain ⟨G',vs,t',g1,_,⟨us,g2,_⟩,g3,g4⟩ := hb (p.1,cs) (Zt h3) (Or.inl List.mem_cons_self)
 rw [hG] at g1
 cases g1
 obtain ⟨z,hz,hy⟩ := RM g2 h4 g4
 unfold Oper.wp
 have e : (execOp a.eval o).run S.P w=.ok (.value z) w := by
  unfold execOp
  rw [hop]
  refine Zs ?_
  rw [hx]
  exact hz
 rw [e]
 refine hK z w γ (Ef.refl hi _ _ XR) (fun y' hy' => ?_) fun x hx hw => ?_
 ·cases hy'
  exact hy
 ·rcases hw with hw | hw
  ·cases hw
  ·dsimp only at hw
   omega
theorem Lt {t : TypeId} {x y : Operand} {r : OR} (hop : o.op=.store t x y) (hr : ((ρ x).bind fun v => (asP v).bind fun p => (ρ y).bind fun u => (asL u).bind fun ds => (YR p.1 h).bind fun cs => (Zh S.P t).bind fun n =>
   ifO (Nat.beq ds.length n) ((Tn cs p.2 ds).map fun cs' => ({ res := none,rd := [],wr := [p.1],h := IJ p.1 cs' h,nx := nx } : OR)))=some r) : OpOk S E w0 h nx ρ o r := by
 simp only [Option.bind_eq_some_iff,Option.map_eq_some_iff,ifO_some] at hr
 obtain ⟨v,h1,p,h2,u,h3,ds,h4,cs,h5,n,h6,h7,cs',h8,rfl⟩ := hr
 rw [Nat.beq_eq] at h7
 unfold Tn at h8
 rw [ifO_some,Nat.ble_eq] at h8
 obtain ⟨h9,h10⟩ := h8
 cases h10
 refine ⟨Nat.le_refl _,fun b hb => ⟨(p.1,cs),Zt h5,(List.mem_singleton.1 hb).symm⟩,fun x hx => ?_,fun γ w a Q hi hρ hb _ _ K hK => ?_⟩
 ·rcases YM hx with q | q
  ·rw [q]
   exact Or.inr (Or.inl List.mem_cons_self)
  ·exact Or.inl q.1
 ·obtain ⟨G,hG,hx⟩ := OD h2 (hρ x v h1)
  obtain ⟨us,eu,hU⟩ := PI h4 (hρ y u h3)
  have hbx := hb (p.1,cs) (Zt h5) (Or.inr List.mem_cons_self)
  have hB := hbx.bxd hG
  obtain ⟨G',vs,t',g1,glive,⟨rs,g2,grs⟩,g3,g4⟩ := hbx
  rw [hG] at g1
  cases g1
  have hvl : vs.length=cs.length := g4.len
  have hul : us.length=ds.length := hU.len
  obtain ⟨w',hs,hk,hsv⟩ := ZN (P := S.P) (o := p.2) us 0 w (vs ++ rs) g2 (A2.all (fun a v q => XM _ a v q) hU) (by rw [List.length_append]; omega)
  have e : (execOp a.eval o).run S.P w=.ok .skip w' := by
   unfold execOp
   rw [hop]
   refine Sf ?_
   rw [hx]
   show (storeVar t ⟨G,p.2,none⟩ (a.eval y)).run S.P w=_
   unfold storeVar
   rw [Sem.run_bind,QW h6]
   have hlen : (a.eval y).cells.size=n := by
    rw [eu,← h7]
    simpa using hU.len
   show (if (a.eval y).cells.size ≠ n then ((stuck "storeVar: the value has not the size of the variable" : Sem Unit) >>= fun _ => storeCells ⟨G, p.2, none⟩ (a.eval y).cells.toList) else storeCells ⟨G, p.2, none⟩ (a.eval y).cells.toList : Sem Unit).run S.P w = _
   rw [if_neg (by simpa using hlen)]
   rw [eu]
   exact hs
  unfold Oper.wp
  rw [e]
  have hgr : Gr S.nb w w' := ⟨by rw [hsv.size]; exact Nat.le_refl _,fun k _ hk => hsv.block k fun q => hk (q ▸ hB),fun k es t hd => by
   by_cases e : k=G
   ·subst e
    obtain ⟨e1,e2⟩ := Bk.uniq hd g2
    subst e1 e2
    refine ⟨_,hk,?_⟩
    simp only [List.length_append,List.length_take,List.length_drop]
    omega
   ·exact ⟨es,(hsv.block k e).trans hd,rfl⟩⟩
  have hlo := hi.lo _ _ hG
  have hef : Ef S.nb w0 [p.1] nx nx γ w γ w' := ⟨leG.refl _,fun _ _ => rfl,fun _ _ q => Or.inl q,
   ⟨hi.bel.trans ⟨hsv.os,hsv.tape,hsv.output,by rw [hsv.size]; exact Nat.le_refl _,fun k hk => hsv.block k (by omega)⟩,fun b G' q => by rw [hsv.size]; exact hi.lo b G' q⟩,hgr,
   (fun G' _ hn => hsv.block G' fun q => hn p.1 List.mem_cons_self (q ▸ hG)),fun b hb' => by rw [List.mem_singleton.1 hb']; exact glive⟩
  refine hK undef w' γ hef (fun y' hy' => by cases hy') fun x hx hw => ?_
  rcases hw with hw | hw
  ·rw [List.mem_singleton] at hw
   rcases YM hx with q | q
   ·rw [q]
    have hl := hul
    refine ⟨G,vs.take p.2 ++ (us ++ vs.drop (p.2+ds.length)),t',hG,glive,⟨rs,?_,grs⟩,g3,?_⟩
    ·rw [Nat.add_zero,hl,List.take_append_of_le_length (by omega),List.drop_append_of_le_length (by omega)] at hk
     simpa [List.append_assoc] using hk
    exact A2.append ((g4.mono fun _ _ q => hef.cell q).take _) (A2.append (hU.mono fun _ _ q => hef.cell q) ((g4.mono fun _ _ q => hef.cell q).drop _))
   ·exact absurd hw q.2
  ·dsimp only at hw
   omega
end
end Cx
/- VI -/
namespace Cx
open Go Go.RowKit
theorem Pe : ∀ (ds vs : List Value) (off j : Nat),off+j+ds.length≤vs.length→(ds.zipIdx j).foldl (fun (cs : Array Value) (p : Value × Nat) => cs.setIfInBounds (off+p.2) p.1) vs.toArray=(vs.take (off+j) ++ (ds ++ vs.drop (off+j+ds.length))).toArray
 | [],vs,off,j,_ => by simp
 | d :: ds,vs,off,j,hl => by
  rw [List.length_cons] at hl
  have hlt : off+j < vs.length := by omega
  rw [List.zipIdx_cons,List.foldl_cons]
  show List.foldl _ (vs.toArray.setIfInBounds (off+j) d) _=_
  rw [List.setIfInBounds_toArray,Pe ds (vs.set (off+j) d) off (j+1) (by rw [List.length_set]; omega)]
  rw [List.drop_set_of_lt (by omega),show off+(j+1)=off+j+1 by omega,List.take_add_one,List.take_set_of_le (by omega)]
  simp [hlt,Nat.add_assoc,Nat.add_comm 1]
theorem Sp {place : Nat→Option (Nat × Nat)} {vs ds : List Value} {i off n : Nat} {v : Value} {rest : List (Nat × Value)} (hv : v.cells=ds.toArray) (hp : place i=some (off,n)) (hn : ds.length=n) (hl : off+n≤vs.length) :
  Instr.fill place vs.toArray ((i,v) :: rest)=Instr.fill place (vs.take off ++ (ds ++ vs.drop (off+n))).toArray rest := by
 subst hn
 show (match place i with | none => none | some (off,size) => if v.cells.size ≠ size || off+v.cells.size > vs.toArray.size then none else Instr.fill place (v.cells.zipIdx.foldl (fun cs (c,j) => cs.setIfInBounds (off+j) c) vs.toArray) rest)=_
 rw [hp]
 dsimp only
 rw [hv]
 rw [if_neg (by simp; omega)]
 congr 1
 have := Pe ds vs off 0 (by omega)
 simpa using this
section
variable {R : AC→Value→Prop}
theorem MJ {place : Nat→Option (Nat × Nat)} : ∀ (ps : List (Nat × List AC)) (cs cs' : List AC) (vs : List Value) (us : List (Nat × Value)),Rz place cs ps=some cs'→A2 R cs vs →
  us.map (·.1)=ps.map (·.1)→A2 (fun p v => ∃ ds : List Value,v.cells=ds.toArray∧A2 R p.2 ds) ps (us.map (·.2))→∃ vs' : List Value,Instr.fill place vs.toArray us=some vs'.toArray∧A2 R cs' vs'
 | [],cs,cs',vs,us,h,hA,e,_ => by
  cases h
  cases us with
  | nil => exact ⟨vs,rfl,hA⟩
  | cons _ _ => simp at e
 | (i,ds) :: ps,cs,cs',vs,[],h,hA,e,_ => by simp at e
 | (i,ds) :: ps,cs,cs',vs,(i',v) :: us,h,hA,e,hU => by
  rw [List.map_cons,List.map_cons] at e
  injection e with e1 e2
  dsimp only at e1
  subst e1
  unfold Rz at h
  simp only [Option.bind_eq_some_iff,ifO_some] at h
  obtain ⟨⟨off,n⟩,h1,h2,cs1,h3,h4⟩ := h
  unfold Tn at h3
  rw [ifO_some,Nat.ble_eq] at h3
  obtain ⟨h5,h6⟩ := h3
  cases h6
  rw [Nat.beq_eq] at h2
  obtain ⟨⟨es,hv,hE⟩,hU⟩ := hU
  dsimp only at hE h2 h5 hv
  rw [Sp (n := n) hv h1 (by rw [hE.len]; exact h2) (by rw [hA.len]; omega)]
  refine MJ ps _ cs' _ us h4 ?_ e2 hU
  rw [h2]
  exact (hA.take off).append (hE.append (hA.drop _))
theorem IB {α β : Type} {P : Program} {w : World} {g : α→Option β} {f : α→Sem β} (hf : ∀ x y,g x=some y→(f x).run P w=.ok y w) : ∀ {l : List α} {l' : List β},ZX g l=some l'→(l.mapM f).run P w=.ok l' w
 | [],_,h => by
  cases h
  rfl
 | x :: l,l',h => by
  unfold ZX at h
  simp only [Option.bind_eq_some_iff,Option.map_eq_some_iff] at h
  obtain ⟨y,h1,ys,h2,rfl⟩ := h
  rw [List.mapM_cons,Sem.run_bind,hf x y h1]
  show ((l.mapM f) >>= fun ys => pure (y :: ys) : Sem (List β)).run P w=_
  rw [Sem.run_bind,IB hf h2]
  rfl
theorem Tr {α β : Type} {f : α→Option β} {T : β→Value→Prop} {ev : α→Value} : ∀ {l : List α} {l' : List β},ZX f l=some l'→(∀ x y,f x=some y→T y (ev x))→A2 T l' (l.map ev)
 | [],_,h,_ => by
  cases h
  trivial
 | a :: l,l',h,hT => by
  unfold ZX at h
  simp only [Option.bind_eq_some_iff,Option.map_eq_some_iff] at h
  obtain ⟨y,h1,ys,h2,rfl⟩ := h
  exact ⟨hT a y h1,Tr h2 hT⟩
end
theorem FG {ρ : Operand→Option AV} : ∀ {l : List (Nat × Operand)} {ps : List (Nat × List AC)},ZX (fun p => (ρ p.2).bind fun v => (asL v).map fun cs => (p.1,cs)) l=some ps→ps.map (·.1)=l.map (·.1)
 | [],_,h => by
  cases h
  rfl
 | p :: l,ps,h => by
  unfold ZX at h
  simp only [Option.bind_eq_some_iff,Option.map_eq_some_iff] at h
  obtain ⟨y,⟨v,h1,cs,h2,rfl⟩,ys,h3,rfl⟩ := h
  rw [List.map_cons,List.map_cons,FG h3]
section
variable {S : Sx} {E : Ev S.nb} {w0 : World} {h : List HB} {nx : Nat} {ρ : Operand→Option AV} {o : Oper}
theorem Ls {t : TypeId} {parts : Array (Nat × Operand)} {r : OR} (hop : o.op=.build t parts) (hr : ((Yp S.P t).bind fun z => (ZX (fun p => (ρ p.2).bind fun v => (asL v).map fun cs => (p.1,cs)) parts.toList).bind fun ps =>
   match Vd S.P t with
   | some fs => (ZX (fun g => (Zh S.P g.type).map fun n => (g.offset,n)) fs).bind fun pl => (Rz (fun i => pl[i]?) z ps).map fun cs => QO h nx (vA cs)
   | none => (YL S.P t).bind fun a => (Zh S.P a.2).bind fun n => (Rz (fun i => some (i*n,n)) z ps).map fun cs => QO h nx (vA cs))=some r) : OpOk S E w0 h nx ρ o r := by
 simp only [Option.bind_eq_some_iff] at hr
 obtain ⟨z,h1,ps,h2,hr⟩ := hr
 have key : ∀ (γ : Nat→Option Nat) (w : World) (a : Act),(∀ x v,ρ x=some v→avOn (cOn E S.K γ w) v (a.eval x))→∀ (place : Nat→Option (Nat × Nat)) (cs : List AC),Rz place z ps=some cs →
   ∃ (q : Value) (vs : List Value),(zeroValue t).run S.P w=.ok q w∧Instr.fill place q.cells (parts.map fun (i,x) => (i,a.eval x)).toList=some vs.toArray∧A2 (cOn E S.K γ w) cs vs := fun γ w a hρ place cs hf => by
  obtain ⟨q,g1,g2,g3⟩ := UO h1 w
  obtain ⟨vs,g4,g5⟩ := MJ (R := cOn E S.K γ w) (place := place) ps z cs q.cells.toList ((parts.map fun (i,x) => (i,a.eval x)).toList) hf (g3 ▸ Dc g2) (by
    rw [FG h2]
    simp) (by
    have := Tr (T := fun (p : Nat × List AC) v => ∃ ds : List Value,v.cells=ds.toArray∧A2 (cOn E S.K γ w) p.2 ds) (ev := fun p : Nat × Operand => a.eval p.2) h2 (fun x y hy => by
     simp only [Option.bind_eq_some_iff,Option.map_eq_some_iff] at hy
     obtain ⟨v,e1,cs,e2,rfl⟩ := hy
     exact PI e2 (hρ _ v e1))
    simpa [Function.comp_def] using this)
  exact ⟨q,vs,g1,by simpa using g4,g5⟩
 split at hr
 ·rename_i fs hs
  simp only [Option.bind_eq_some_iff,Option.map_eq_some_iff] at hr
  obtain ⟨pl,h3,cs,h4,rfl⟩ := hr
  refine OpOk.pure fun γ w a hρ => ?_
  obtain ⟨q,vs,g1,g2,g3⟩ := key γ w a hρ _ cs h4
  refine ⟨.agg vs.toArray,?_,MG g3⟩
  unfold execOp
  rw [hop]
  refine Zs ?_
  unfold Instr.build
  rw [Sem.run_bind,g1]
  show ((underlying t) >>= _ : Sem Value).run S.P w=_
  rw [Sem.run_bind,Qr (Uk hs)]
  show ((fs.toArray.mapM fun f => do pure (f.offset, ← Go.sizeOf f.type)) >>= fun places => match Instr.fill (places[·]?) q.cells (parts.map fun (i, x) => (i, a.eval x)).toList with | some cells => (pure (Value.agg cells) : Sem Value) | x => stuck "build: no such field, or a part of the wrong size" : Sem Value).run S.P w = _
  rw [Sem.run_bind,List.mapM_toArray,Sem.run_map,IB (g := fun g : Field => (Zh S.P g.type).map fun n => (g.offset,n)) (fun f y hy => by
   rw [Option.map_eq_some_iff] at hy
   obtain ⟨n,e1,rfl⟩ := hy
   rw [Sem.run_bind,QW e1]
   rfl) h3]
  show (match Instr.fill (fun i => pl.toArray[i]?) q.cells (parts.map fun (i, x) => (i, a.eval x)).toList with | some cells => (pure (Value.agg cells) : Sem Value) | x => stuck "build: no such field, or a part of the wrong size" : Sem Value).run S.P w = _
  have e : (fun i : Nat => pl.toArray[i]?)=(fun i : Nat => pl[i]?) := by
   funext i
   simp
  rw [e,g2]
  rfl
 ·simp only [Option.bind_eq_some_iff,Option.map_eq_some_iff] at hr
  obtain ⟨a',h3,n,h4,cs,h5,rfl⟩ := hr
  refine OpOk.pure fun γ w a hρ => ?_
  obtain ⟨q,vs,g1,g2,g3⟩ := key γ w a hρ _ cs h5
  refine ⟨.agg vs.toArray,?_,MG g3⟩
  unfold execOp
  rw [hop]
  refine Zs ?_
  unfold Instr.build
  rw [Sem.run_bind,g1]
  show ((underlying t) >>= _ : Sem Value).run S.P w=_
  rw [Sem.run_bind,Qr (Yc h3)]
  show ((Go.sizeOf a'.2) >>= fun size => match Instr.fill (fun i => some (i * size, size)) q.cells (parts.map fun (i, x) => (i, a.eval x)).toList with | some cells => (pure (Value.agg cells) : Sem Value) | x => stuck "build: a part of the wrong size" : Sem Value).run S.P w = _
  rw [Sem.run_bind,QW h4]
  show (match Instr.fill (fun i => some (i * n, n)) q.cells (parts.map fun (i, x) => (i, a.eval x)).toList with | some cells => (pure (Value.agg cells) : Sem Value) | x => stuck "build: a part of the wrong size" : Sem Value).run S.P w = _
  rw [g2]
  rfl
end
end Cx
