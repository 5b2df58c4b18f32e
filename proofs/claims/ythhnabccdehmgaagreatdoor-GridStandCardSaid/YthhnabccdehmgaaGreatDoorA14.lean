/- Part 14 of the walks and of the mathematics under them: CMQ VT ZWR VV GST VW CSL CSI. -/
import Derived.Test.YthhnabccdehmgaaGreatDoorA8
import Derived.Test.YthhnabccdehmgaaGreatDoorA13
import Derived.Test.YthhnabccdehmgaaGreatDoorA9
import Derived.ChangeKeysEq
import Derived.Test.YthhnabccdehmgaaGreatDoorRows
import Derived.ProofKit
import Derived.OpenShut
import Derived.ChangeSame
import Derived.ChangeStays
import Derived.Deep.Slices
import Derived.Below
set_option maxHeartbeats 16000000
set_option maxRecDepth 100000
/- CMQ -/
namespace Go.Proofs.YthhnabccdehmgaaGreatDoor
open Go.RowKit Cx
attribute [local go_sem ↓] Go.wp_at_zero Go.wp_at_succ
def cz (x y : Int) : Int := if x < y then -1 else if y < x then 1 else 0
theorem cq_lt (a b : Rat) : a < b ↔ a.num*b.den < b.num*a.den := Rat.lt_iff a b
theorem cq_eq (a b : Rat) : a=b ↔ a.num*b.den=b.num*a.den := by
 constructor
 ·rintro rfl; rfl
 ·intro h
  exact (Rat.eq_iff_mul_eq_mul).2 h
theorem cq_neg (a b : Rat) : a - b < 0 ↔ a < b := by constructor <;> intro h <;> grind
theorem cq_zero (a b : Rat) : a - b=0 ↔ a=b := by constructor <;> intro h <;> grind
theorem Hs (a b : Rat) : QH (a - b)=if a < b then -1 else if a=b then 0 else 1 := by
 unfold QH
 simp only [cq_neg,cq_zero]
theorem Dg (a : Rat) : a < 0 ↔ a.num < 0 := by
 rw [cq_lt]
 simp
theorem AX {a b : Rat} {c : Int} (hs : QH a=QH b) (h1 : c < 0 ↔ a.num.natAbs*b.den < b.num.natAbs*a.den) (h2 : c=0 ↔ a.num.natAbs*b.den=b.num.natAbs*a.den) : QH a*cz c 0=QH (a - b) := by
 have ha := Nat.pos_of_ne_zero a.den_nz
 have hb := Nat.pos_of_ne_zero b.den_nz
 have e1 := cq_lt a b
 have e2 := cq_eq a b
 have n1 : ((a.num.natAbs*b.den : Nat) : Int)=a.num.natAbs*b.den := by push_cast; rfl
 have n2 : ((b.num.natAbs*a.den : Nat) : Int)=b.num.natAbs*a.den := by push_cast; rfl
 rw [Hs]
 unfold QH at hs ⊢
 unfold cz
 by_cases p : a < 0
 ·have q : b < 0 := by
   by_cases q : b < 0
   ·exact q
   ·rw [if_pos p,if_neg q] at hs
    split at hs <;> omega
  have p' := (Dg a).1 p
  have q' := (Dg b).1 q
  have x1 : ((a.num.natAbs : Int))=-a.num := by omega
  have x2 : ((b.num.natAbs : Int))=-b.num := by omega
  rw [x1] at n1
  rw [x2] at n2
  rw [if_pos p]
  simp only [e1,e2]
  have y1 : -a.num*(b.den : Int)=-(a.num*b.den) := Int.neg_mul _ _
  have y2 : -b.num*(a.den : Int)=-(b.num*a.den) := Int.neg_mul _ _
  rw [y1] at n1
  rw [y2] at n2
  split <;> split <;> (try split) <;> (try split) <;> omega
 ·by_cases p0 : a=0
  ·have q : b=0 := by
    rw [if_neg p,if_pos p0] at hs
    split at hs
    ·omega
    ·split at hs
     ·assumption
     ·omega
   subst p0 q
   simp
  ·have q : ¬ b < 0∧¬ b=0 := by
    rw [if_neg p,if_neg p0] at hs
    split at hs
    ·omega
    ·split at hs
     ·omega
     ·exact ⟨by assumption,by assumption⟩
   rw [if_neg p,if_neg p0]
   simp only [e1,e2]
   have p' : ¬ a.num < 0 := fun h => p ((Dg a).2 h)
   have q' : ¬ b.num < 0 := fun h => q.1 ((Dg b).2 h)
   have x1 : ((a.num.natAbs : Int))=a.num := by omega
   have x2 : ((b.num.natAbs : Int))=b.num := by omega
   rw [x1] at n1
   rw [x2] at n2
   split <;> split <;> (try split) <;> (try split) <;> omega
theorem cq_czs {a b : Rat} (h : cz (QH a) (QH b) ≠ 0) : cz (QH a) (QH b)=QH (a - b) := by
 rw [Hs]
 unfold cz QH at *
 by_cases p : a < 0 <;> by_cases q : b < 0 <;> by_cases p0 : a=0 <;> by_cases q0 : b=0 <;> simp_all <;> grind
theorem cq_cz0 {a b : Rat} (h : cz (QH a) (QH b)=0) : QH a=QH b := by
 unfold cz at h
 split at h
 ·omega
 ·split at h <;> omega
theorem Bh (x y : Int) : cz x y=-1 ∨ cz x y=0 ∨ cz x y=1 := by
 unfold cz
 split
 ·exact Or.inl rfl
 ·split
  ·exact Or.inr (Or.inr rfl)
  ·exact Or.inr (Or.inl rfl)
theorem cq_wrap (a : Rat) (c : Int) : IntKind.i64.wrap (QH a*cz c 0)=QH a*cz c 0 := by
 have h1 : QH a=-1 ∨ QH a=0 ∨ QH a=1 := by
  unfold QH
  split
  ·exact Or.inl rfl
  ·split
   ·exact Or.inr (Or.inl rfl)
   ·exact Or.inr (Or.inr rfl)
 rcases h1 with h1 | h1 | h1 <;> rcases Bh c 0 with h2 | h2 | h2 <;> rw [h1,h2] <;> decide
theorem Re (x : Int) (w : World) : Calls Tryz.prog 185 #[.int .i64 x] w fun e w' => e=.returned (.bool false)∧w'=w := by
 go_enter Tryz.func185,Tryz.ntmps185
 go_wp2
 exact bodyPost_ret (v := .bool false) (by simp [results,Tryz.results185,go_sem]) rfl ⟨rfl,rfl⟩
theorem OV (x y : Int) (w : World) : Calls Tryz.prog 160 #[.int .i64 x,.int .i64 y] w fun e w' => e=.returned (.int .i64 (cz x y))∧w'=w := by
 go_enter Tryz.func160,Tryz.ntmps160
 go_wp2_with fail
 refine (Re x w).mono ?_
 rintro e w1 ⟨rfl,rfl⟩
 go_wp2_with fail
 refine (Re y w1).mono ?_
 rintro e w2 ⟨rfl,rfl⟩
 by_cases h1 : x < y
 ·go_wp2
  exact bodyPost_ret (v := .int .i64 (-1)) (by simp [results,Tryz.results160,go_sem]) rfl ⟨congrArg (fun z => Ending.returned (.int .i64 z)) (by unfold cz; split <;> (try split) <;> omega),rfl⟩
 ·by_cases h2 : y < x
  ·go_wp2
   exact bodyPost_ret (v := .int .i64 1) (by simp [results,Tryz.results160,go_sem]) rfl ⟨congrArg (fun z => Ending.returned (.int .i64 z)) (by unfold cz; split <;> (try split) <;> omega),rfl⟩
  ·go_wp2
   exact bodyPost_ret (v := .int .i64 0) (by simp [results,Tryz.results160,go_sem]) rfl ⟨congrArg (fun z => Ending.returned (.int .i64 z)) (by unfold cz; split <;> (try split) <;> omega),rfl⟩
theorem Bd {w : World} {v : Value} {q : Rat} (h : QV w v q) :
  Calls Tryz.prog 77 #[v] w fun e w' => Below w.heap.size w w'∧e=.returned (.int .i64 (QH q)) := by
 have := Oc h
 rw [← SI] at this
 exact this
theorem Kf (vs : Array Value) (w : World) : (callFunc 138 vs).run Tryz.prog w=.ok (.enter 138 vs) w := ZG Tryz.func138 (by kernel_rfl) (by kernel_rfl) vs w
theorem Xb (vs : Array Value) (w : World) : (callFunc 77 vs).run Tryz.prog w=.ok (.enter 77 vs) w := ZG Tryz.func77 (by kernel_rfl) (by kernel_rfl) vs w
theorem Xj (vs : Array Value) (w : World) : (callFunc 160 vs).run Tryz.prog w=.ok (.enter 160 vs) w := ZG Tryz.func160 (by kernel_rfl) (by kernel_rfl) vs w
theorem Sc (T : TypeId) (x y : Operand) (a b z : Int) (h : IntKind.i64.wrap (a*b)=z) (w : World) : (do eqGuard .mul T x y (.int .i64 a) (.int .i64 b); binOp .mul T (.int .i64 a) (.int .i64 b) : Sem Value).run Tryz.prog w=.ok (.int .i64 z) w := by
 subst h
 simp [go_sem]
theorem IZ (T : TypeId) (x y : Operand) (a b : Int) (c : Bool) (h : (a != b)=c) (w : World) : (do eqGuard .neq T x y (.int .i64 a) (.int .i64 b); binOp .neq T (.int .i64 a) (.int .i64 b) : Sem Value).run Tryz.prog w=.ok (.bool c) w := by
 subst h
 simp [go_sem]
theorem UI {q : Rat} : Con Tryz.prog ZW 77 [Qv q] (In (QH q)) := fun w vs _ h => by
 match vs,h with
 | [v],⟨h0,_⟩ => exact (Bd h0).mono fun e w' ⟨hb,e1⟩ => ⟨hb,_,e1,rfl⟩
theorem SG {x y : Int} : Con Tryz.prog ZW 160 [In x,In y] (In (cz x y)) := fun w vs _ h => by
 match vs,h with
 | [_,_],⟨h0,h1,_⟩ =>
  cases (show _=Value.int .i64 x from h0)
  cases (show _=Value.int .i64 y from h1)
  exact (OV x y w).mono fun e w' ⟨e1,e2⟩ => ⟨e2 ▸ Below.refl _ _,_,e1,rfl⟩
theorem Lr {a b : Nat} : Con Tryz.prog ZW 160 [Cm a b,In 0] (In (cz (a : Nat) (b : Nat))) := fun w vs _ h => by
 match vs,h with
 | [_,_],⟨⟨c,h0,h2,h3⟩,h1,_⟩ =>
  cases h0
  cases (show _=Value.int .i64 0 from h1)
  have e0 : cz c 0=cz (a : Nat) (b : Nat) := by
   unfold cz
   split <;> split <;> (try split) <;> (try split) <;> omega
  refine (OV c 0 w).mono ?_
  rintro e w' ⟨e1,rfl⟩
  rw [e0] at e1
  exact ⟨Below.refl _ _,_,e1,rfl⟩
theorem con_cmp {a b : Nat} (s1 : Small a) (s2 : Small b) : Con Tryz.prog ZW 138 [Nt a,Nt b] (Cm a b) := fun w vs _ h => by
 match vs,h with
 | [va,vb],⟨h0,h1,_⟩ => exact (ZK h0 h1 s1 s2).mono fun e w' ⟨hb,c,e1,h2,h3⟩ => ⟨hb,_,e1,c,rfl,h2,h3⟩
theorem Bq {a b : Rat} (hc : ¬ (cz (QH a) (QH b)=0)) :
  Con Tryz.prog ZW 123 [Qv a,Qv b] (In (cz (QH a) (QH b))) := by
 refine Vn (n := 29) Tryz.func123 rfl rfl (Nat.le_of_ble_eq_true rfl) ?_
 intro w a0 hp S0
 have HPRE : ∀ w',Below w.heap.size w w'→ZW w' := fun _ _ => trivial
 refine wp_seq ?_
 refine Qy [.alloc 63 (Qv a),.alloc 63 (Qv b),.pure (In (0))] ⟨S0,by decide +kernel⟩ (by kernel_rfl) (by kernel_rfl) rfl (by kernel_rfl) ?_ ?_
 ·intro C
  refine ASteps.cons ?_ (ASteps.cons ?_ (ASteps.cons ?_ (ASteps.nil)))
  ·exact ZR rfl rfl (Qa rfl) rfl (Zh (by kernel_rfl)) (Qh C 0 (by kernel_rfl) rfl) (JH (ZS _))
  ·exact ZR rfl rfl (Qa rfl) rfl (Zh (by kernel_rfl)) (Qh C 1 (by kernel_rfl) rfl) (JH (ZS _))
  ·exact Qn rfl rfl (Qa rfl) rfl (Qo _)
 intro γ a1 w1 S1
 replace S1 : AS w 29 [(4,In (0)),(3,Jus (.pointer (some ⟨γ 1,0,none⟩))),(2,Jus (.pointer (some ⟨γ 0,0,none⟩)))] [(γ 0,63,Qv a),(γ 1,63,Qv b)] a1 w1 := cast (by kernel_rfl) (S1.keep [2,3,4])
 generalize γ 0=G1_0 at S1
 generalize γ 1=G1_1 at S1
 clear S0
 refine Qe ?_
 refine wp_seq ?_
 refine wp_seq ?_
 refine Qy [.pure (Qv a),.pure (In (QH a)),.pure (Qv b),.pure (In (QH b)),.pure (In (cz (QH a) (QH b))),.pure (In (cz (QH a) (QH b)))] ⟨S1,by decide +kernel⟩ (by kernel_rfl) (by kernel_rfl) rfl (by kernel_rfl) ?_ ?_
 ·intro C
  refine ASteps.cons ?_ (ASteps.cons ?_ (ASteps.cons ?_ (ASteps.cons ?_ (ASteps.cons ?_ (ASteps.cons ?_ (ASteps.nil))))))
  ·exact QX (k := 0) rfl rfl rfl (Qa rfl) rfl (Qh C 2 (by kernel_rfl) rfl) (QK (by kernel_rfl)) Zm
  ·exact Qm HPRE rfl rfl (Qa rfl) rfl Xb (Opns.cons (Qc C 0 0 rfl rfl rfl rfl rfl rfl) Opns.nil) (UI)
  ·exact QX (k := 1) rfl rfl rfl (Qa rfl) rfl (Qh C 1 (by kernel_rfl) rfl) (QK (by kernel_rfl)) Zm
  ·exact Qm HPRE rfl rfl (Qa rfl) rfl Xb (Opns.cons (Qc C 2 0 rfl rfl rfl rfl rfl rfl) Opns.nil) (UI)
  ·exact Qm HPRE rfl rfl (Qa rfl) rfl Xj (Opns.cons (Qc C 1 0 rfl rfl rfl rfl rfl rfl) (Opns.cons (Qc C 3 1 rfl rfl rfl rfl rfl rfl) Opns.nil)) (SG)
  ·exact Qn rfl rfl (Qa rfl) rfl (Qc C 4 0 rfl rfl rfl rfl rfl rfl)
 intro γ a2 w2 S2
 replace S2 : AS w 29 [(5,In (cz (QH a) (QH b))),(4,In (0)),(3,Jus (.pointer (some ⟨G1_1,0,none⟩))),(2,Jus (.pointer (some ⟨G1_0,0,none⟩)))] [(G1_0,63,Qv a),(G1_1,63,Qv b)] a2 w2 := cast (by kernel_rfl) (S2.keep [2,3,4,5])
 clear S1
 refine Qe ?_
 refine wp_seq ?_
 refine Qy [.pure (In (cz (QH a) (QH b))),.pure (Bo true)] ⟨S2,by decide +kernel⟩ (by kernel_rfl) (by kernel_rfl) rfl (by kernel_rfl) ?_ ?_
 ·intro C
  refine ASteps.cons ?_ (ASteps.cons ?_ (ASteps.nil))
  ·exact Qj rfl rfl (Qa rfl) rfl (Qh C 0 (by kernel_rfl) rfl)
  ·exact Qz rfl rfl (Qa rfl) rfl (Qc C 0 0 rfl rfl rfl rfl rfl rfl) (Qo _) (IZ _ _ _ _ _ _ (by simp [hc]))
 intro γ a3 w3 S3
 replace S3 : AS w 29 [(12,Bo true),(5,In (cz (QH a) (QH b))),(4,In (0)),(3,Jus (.pointer (some ⟨G1_1,0,none⟩))),(2,Jus (.pointer (some ⟨G1_0,0,none⟩)))] [(G1_0,63,Qv a),(G1_1,63,Qv b)] a3 w3 := cast (by kernel_rfl) (S3.keep [2,3,4,5,12])
 clear S2
 refine Qe ?_
 refine wp_cond_true (S3.val 0 rfl) ?_
 refine wp_seq ?_
 refine Qy [.pure (In (cz (QH a) (QH b))),.pure (In (cz (QH a) (QH b)))] ⟨S3,by decide +kernel⟩ (by kernel_rfl) (by kernel_rfl) rfl (by kernel_rfl) ?_ ?_
 ·intro C
  refine ASteps.cons ?_ (ASteps.cons ?_ (ASteps.nil))
  ·exact Qj rfl rfl (Qa rfl) rfl (Qh C 1 (by kernel_rfl) rfl)
  ·exact Qn rfl rfl (Qa rfl) rfl (Qc C 0 0 rfl rfl rfl rfl rfl rfl)
 intro γ a4 w4 S4
 replace S4 : AS w 29 [(4,In (cz (QH a) (QH b))),(3,Jus (.pointer (some ⟨G1_1,0,none⟩))),(2,Jus (.pointer (some ⟨G1_0,0,none⟩)))] [(G1_0,63,Qv a),(G1_1,63,Qv b)] a4 w4 := cast (by kernel_rfl) (S4.keep [2,3,4])
 clear S3
 refine Qe ?_
 refine wp_ret ?_
 refine JM ?_
 exact S4.ret 0 rfl rfl fun v hv => ⟨S4.bel,v,rfl,hv⟩
theorem FY {a b : Rat} {z : Int} (hc : cz (QH a) (QH b)=0) (s1 : Small a.num.natAbs) (s2 : Small b.den) (s3 : Small b.num.natAbs) (s4 : Small a.den) (s5 : Small (a.num.natAbs*b.den)) (s6 : Small (b.num.natAbs*a.den)) (hm : IntKind.i64.wrap (QH a*cz (a.num.natAbs*b.den : Nat) (b.num.natAbs*a.den : Nat))=z) :
  Con Tryz.prog ZW 123 [Qv a,Qv b] (In (z)) := by
 refine Vn (n := 29) Tryz.func123 rfl rfl (Nat.le_of_ble_eq_true rfl) ?_
 intro w a0 hp S0
 have HPRE : ∀ w',Below w.heap.size w w'→ZW w' := fun _ _ => trivial
 refine wp_seq ?_
 refine Qy [.alloc 63 (Qv a),.alloc 63 (Qv b),.pure (In (0))] ⟨S0,by decide +kernel⟩ (by kernel_rfl) (by kernel_rfl) rfl (by kernel_rfl) ?_ ?_
 ·intro C
  refine ASteps.cons ?_ (ASteps.cons ?_ (ASteps.cons ?_ (ASteps.nil)))
  ·exact ZR rfl rfl (Qa rfl) rfl (Zh (by kernel_rfl)) (Qh C 0 (by kernel_rfl) rfl) (JH (ZS _))
  ·exact ZR rfl rfl (Qa rfl) rfl (Zh (by kernel_rfl)) (Qh C 1 (by kernel_rfl) rfl) (JH (ZS _))
  ·exact Qn rfl rfl (Qa rfl) rfl (Qo _)
 intro γ a1 w1 S1
 replace S1 : AS w 29 [(4,In (0)),(3,Jus (.pointer (some ⟨γ 1,0,none⟩))),(2,Jus (.pointer (some ⟨γ 0,0,none⟩)))] [(γ 0,63,Qv a),(γ 1,63,Qv b)] a1 w1 := cast (by kernel_rfl) (S1.keep [2,3,4])
 generalize γ 0=G1_0 at S1
 generalize γ 1=G1_1 at S1
 clear S0
 refine Qe ?_
 refine wp_seq ?_
 refine wp_seq ?_
 refine Qy [.pure (Qv a),.pure (In (QH a)),.pure (Qv b),.pure (In (QH b)),.pure (In (cz (QH a) (QH b))),.pure (In (cz (QH a) (QH b)))] ⟨S1,by decide +kernel⟩ (by kernel_rfl) (by kernel_rfl) rfl (by kernel_rfl) ?_ ?_
 ·intro C
  refine ASteps.cons ?_ (ASteps.cons ?_ (ASteps.cons ?_ (ASteps.cons ?_ (ASteps.cons ?_ (ASteps.cons ?_ (ASteps.nil))))))
  ·exact QX (k := 0) rfl rfl rfl (Qa rfl) rfl (Qh C 2 (by kernel_rfl) rfl) (QK (by kernel_rfl)) Zm
  ·exact Qm HPRE rfl rfl (Qa rfl) rfl Xb (Opns.cons (Qc C 0 0 rfl rfl rfl rfl rfl rfl) Opns.nil) (UI)
  ·exact QX (k := 1) rfl rfl rfl (Qa rfl) rfl (Qh C 1 (by kernel_rfl) rfl) (QK (by kernel_rfl)) Zm
  ·exact Qm HPRE rfl rfl (Qa rfl) rfl Xb (Opns.cons (Qc C 2 0 rfl rfl rfl rfl rfl rfl) Opns.nil) (UI)
  ·exact Qm HPRE rfl rfl (Qa rfl) rfl Xj (Opns.cons (Qc C 1 0 rfl rfl rfl rfl rfl rfl) (Opns.cons (Qc C 3 1 rfl rfl rfl rfl rfl rfl) Opns.nil)) (SG)
  ·exact Qn rfl rfl (Qa rfl) rfl (Qc C 4 0 rfl rfl rfl rfl rfl rfl)
 intro γ a2 w2 S2
 replace S2 : AS w 29 [(5,In (cz (QH a) (QH b))),(4,In (0)),(3,Jus (.pointer (some ⟨G1_1,0,none⟩))),(2,Jus (.pointer (some ⟨G1_0,0,none⟩)))] [(G1_0,63,Qv a),(G1_1,63,Qv b)] a2 w2 := cast (by kernel_rfl) (S2.keep [2,3,4,5])
 clear S1
 refine Qe ?_
 refine wp_seq ?_
 refine Qy [.pure (In (cz (QH a) (QH b))),.pure (Bo false)] ⟨S2,by decide +kernel⟩ (by kernel_rfl) (by kernel_rfl) rfl (by kernel_rfl) ?_ ?_
 ·intro C
  refine ASteps.cons ?_ (ASteps.cons ?_ (ASteps.nil))
  ·exact Qj rfl rfl (Qa rfl) rfl (Qh C 0 (by kernel_rfl) rfl)
  ·exact Qz rfl rfl (Qa rfl) rfl (Qc C 0 0 rfl rfl rfl rfl rfl rfl) (Qo _) (IZ _ _ _ _ _ _ (by simp [hc]))
 intro γ a3 w3 S3
 replace S3 : AS w 29 [(12,Bo false),(5,In (cz (QH a) (QH b))),(4,In (0)),(3,Jus (.pointer (some ⟨G1_1,0,none⟩))),(2,Jus (.pointer (some ⟨G1_0,0,none⟩)))] [(G1_0,63,Qv a),(G1_1,63,Qv b)] a3 w3 := cast (by kernel_rfl) (S3.keep [2,3,4,5,12])
 clear S2
 refine Qe ?_
 refine wp_cond_false (S3.val 0 rfl) ?_
 refine wp_skip ?_
 refine Qe ?_
 refine wp_seq ?_
 refine Qy [.pure (Qv a),.pure (In (QH a)),.pure (Jus (.pointer (some ⟨G1_0,1,none⟩))),.pure (Nt (a.num.natAbs)),.pure (Qv b),.pure (Nt (b.den)),.pure (Nt (a.num.natAbs*b.den)),.pure (Jus (.pointer (some ⟨G1_1,1,none⟩))),.pure (Nt (b.num.natAbs)),.pure (Qv a),.pure (Nt (a.den)),.pure (Nt (b.num.natAbs*a.den)),.pure (Cm (a.num.natAbs*b.den) (b.num.natAbs*a.den)),.pure (In (cz (a.num.natAbs*b.den : Nat) (b.num.natAbs*a.den : Nat))),.pure (In (z)),.pure (In (z))] ⟨S3,by decide +kernel⟩ (by kernel_rfl) (by kernel_rfl) rfl (by kernel_rfl) ?_ ?_
 ·intro C
  refine ASteps.cons ?_ (ASteps.cons ?_ (ASteps.cons ?_ (ASteps.cons ?_ (ASteps.cons ?_ (ASteps.cons ?_ (ASteps.cons ?_ (ASteps.cons ?_ (ASteps.cons ?_ (ASteps.cons ?_ (ASteps.cons ?_ (ASteps.cons ?_ (ASteps.cons ?_ (ASteps.cons ?_ (ASteps.cons ?_ (ASteps.cons ?_ (ASteps.nil))))))))))))))))
  ·exact QX (k := 0) rfl rfl rfl (Qa rfl) rfl (Qh C 4 (by kernel_rfl) rfl) (QK (by kernel_rfl)) Zm
  ·exact Qm HPRE rfl rfl (Qa rfl) rfl Xb (Opns.cons (Qc C 0 0 rfl rfl rfl rfl rfl rfl) Opns.nil) (UI)
  ·exact Qu rfl rfl (Qa rfl) rfl (Qh C 4 (by kernel_rfl) rfl) (ZP _)
  ·exact QP (k := 0) rfl rfl rfl (Qa rfl) rfl (Qc C 2 0 rfl rfl rfl rfl rfl rfl) (QK (by kernel_rfl)) JT
  ·exact QX (k := 1) rfl rfl rfl (Qa rfl) rfl (Qh C 3 (by kernel_rfl) rfl) (QK (by kernel_rfl)) Zm
  ·exact Qm HPRE rfl rfl (Qa rfl) rfl Zl (Opns.cons (Qc C 4 0 rfl rfl rfl rfl rfl rfl) Opns.nil) (JS)
  ·exact Qm HPRE rfl rfl (Qa rfl) rfl Zq (Opns.cons (Qc C 3 0 rfl rfl rfl rfl rfl rfl) (Opns.cons (Qc C 5 1 rfl rfl rfl rfl rfl rfl) Opns.nil)) ((Dx s1 s2))
  ·exact Qu rfl rfl (Qa rfl) rfl (Qh C 3 (by kernel_rfl) rfl) (ZP _)
  ·exact QP (k := 1) rfl rfl rfl (Qa rfl) rfl (Qc C 7 0 rfl rfl rfl rfl rfl rfl) (QK (by kernel_rfl)) JT
  ·exact QX (k := 0) rfl rfl rfl (Qa rfl) rfl (Qh C 4 (by kernel_rfl) rfl) (QK (by kernel_rfl)) Zm
  ·exact Qm HPRE rfl rfl (Qa rfl) rfl Zl (Opns.cons (Qc C 9 0 rfl rfl rfl rfl rfl rfl) Opns.nil) (JS)
  ·exact Qm HPRE rfl rfl (Qa rfl) rfl Zq (Opns.cons (Qc C 8 0 rfl rfl rfl rfl rfl rfl) (Opns.cons (Qc C 10 1 rfl rfl rfl rfl rfl rfl) Opns.nil)) ((Dx s3 s4))
  ·exact Qm HPRE rfl rfl (Qa rfl) rfl Kf (Opns.cons (Qc C 6 0 rfl rfl rfl rfl rfl rfl) (Opns.cons (Qc C 11 1 rfl rfl rfl rfl rfl rfl) Opns.nil)) ((con_cmp s5 s6))
  ·exact Qm HPRE rfl rfl (Qa rfl) rfl Xj (Opns.cons (Qc C 12 0 rfl rfl rfl rfl rfl rfl) (Opns.cons (Qo _) Opns.nil)) (Lr)
  ·exact Qz rfl rfl (Qa rfl) rfl (Qc C 1 0 rfl rfl rfl rfl rfl rfl) (Qc C 13 1 rfl rfl rfl rfl rfl rfl) (Sc _ _ _ _ _ _ hm)
  ·exact Qn rfl rfl (Qa rfl) rfl (Qc C 14 0 rfl rfl rfl rfl rfl rfl)
 intro γ a4 w4 S4
 replace S4 : AS w 29 [(4,In (z))] [(G1_0,63,Qv a),(G1_1,63,Qv b)] a4 w4 := cast (by kernel_rfl) (S4.keep [4])
 clear S3
 refine Qe ?_
 refine wp_ret ?_
 exact S4.ret 0 rfl rfl fun v hv => ⟨S4.bel,v,rfl,hv⟩
theorem cz_cz (x y : Int) : cz (cz x y) 0=cz x y := by
 rcases Bh x y with h | h | h <;> rw [h] <;> rfl
theorem cz_lt (x y : Int) : cz x y < 0 ↔ x < y := by
 unfold cz
 split <;> (try split) <;> omega
theorem cz_eq (x y : Int) : cz x y=0 ↔ x=y := by
 unfold cz
 split <;> (try split) <;> omega
theorem KL {w : World} {va vb : Value} {a b : Rat} {k l : Nat} (ha : QV w va a) (hb : QV w vb b) (fa : QS k a) (fb : QS l b) (hk : k+l≤35184372088640) :
  Calls Tryz.prog 123 #[va,vb] w fun e w' => Below w.heap.size w w'∧e=.returned (.int .i64 (QH (a - b))) := by
 by_cases hc : cz (QH a) (QH b)=0
 ·have hs := cq_cz0 hc
  have hz : IntKind.i64.wrap (QH a*cz (a.num.natAbs*b.den : Nat) (b.num.natAbs*a.den : Nat))=QH (a - b) := by
   rw [← cz_cz,cq_wrap]
   exact AX hs (by rw [cz_lt]; exact Int.ofNat_lt) (by rw [cz_eq]; exact Int.natCast_inj)
  refine (FY hc (Qq fa.num (by omega)) (Qq fb.den (by omega)) (Qq fb.num (by omega)) (Qq fa.den (by omega)) (UA fa.num fb.den (by omega)) (UA fb.num fa.den (by omega)) hz w [va,vb] trivial ⟨ha,hb,trivial⟩).mono ?_
  rintro e w' ⟨hb,v,rfl,e⟩
  exact ⟨hb,by rw [show v=_ from e]⟩
 ·refine (Bq hc w [va,vb] trivial ⟨ha,hb,trivial⟩).mono ?_
  rintro e w' ⟨hb,v,rfl,e⟩
  refine ⟨hb,?_⟩
  rw [show v=_ from e,cq_czs hc]
end Go.Proofs.YthhnabccdehmgaaGreatDoor
/- VT -/
namespace Go.Proofs.YthhnabccdehmgaaGreatDoor
open Go.RowKit Cx
def YP (σ : Nat→ByteArray) (q : Nat→Rat) (nd : Nd) : Rat := match nd.1,nd.2 with
 | 0,[s,n,d] => if s=0 then mkRat (n : Int) d else mkRat (-(n : Int)) d
 | 1,[j] => rd (σ j).data.toList
 | 2,[a,b] => q a+q b
 | 3,[a,b] => q a - q b
 | 4,[a,b] => q a*q b
 | 5,[a] => -q a
 | 6,[a,b] => q a / q b
 | 7,[a,b,i,j] => if Yn (q a)=σ i∧Yn (q b)=σ j then 0 else 1
 | 8,i :: xs => (xs.map q).getD i 0*fac (xs.map q)
 | 9,[a] => ((q a).num : Rat)
 | 10,[a] => (((q a).den : Int) : Rat)
 | 11,[a,b] => ((flq (q a / q b) : Int) : Rat)
 | _,_ => 0
theorem RJ {op : Nat} {ar : List Nat} : ∀ {ns : List Nd} {i k : Nat},Dv op ar i ns=some k→i≤k∧ns[k - i]? = some (op,ar)
 | [],_,_,h => by cases h
 | (p,bs) :: ns,i,k,h => by
  unfold Dv at h
  cases e : (Nat.beq op p && Is ar bs) with
  | true =>
   rw [e] at h
   cases h
   rw [Bool.and_eq_true,Nat.beq_eq] at e
   rw [e.1,Wt e.2]
   exact ⟨Nat.le_refl _,by simp⟩
  | false =>
   rw [e] at h
   obtain ⟨h1,h2⟩ := RJ (ns := ns) h
   refine ⟨by omega,?_⟩
   rw [show k - i=k - (i+1)+1 by omega]
   simpa using h2
def eqS : List (TypeId × Nat) := [(41,2),(43,3)]
abbrev sx (P : Program) (N : List Nd) (H : List (Nat × Nat × Nat × Nat)) (K : List (FuncId × List AC)) (L C : List (List Nat × Nat)) (Z : List Nat) (pr : List (FuncId × Nat)) : Sx := { P := P,N := N,H := H,K := K,L := L,pr := pr,nb := nbS,eqT := eqS,Z := Z,C := C }
def QT (w : World) : Prop := Tab w∧MaxL w
structure Hy (N : List Nd) (H : List (Nat × Nat × Nat × Nat)) (L C : List (List Nat × Nat)) (Z : List Nat) (q : Nat→Rat) (σ : Nat→ByteArray) : Prop where
 nat : ∀ a nd,N[a]? = some nd→q a=YP σ q nd
 qs : ∀ a,QS 1000000000000 (q a)
 zs : ∀ a z,Z[a]? = some z→QS z (q a)
 par : ∀ j,(σ j).size≤1048576
 lit : ∀ s b,XR (Jg s) L=some b→q b=rd s.data.toList∧s.size≤4294967280
 k0 : ∀ a r,YL 0 a 0 H=some r→(Nat.beq 1 r=true ↔ q a=0)
 k1 : ∀ a r,YL 1 a 0 H=some r→(Nat.beq 1 r=true ↔ q a < 0)
 k2 : ∀ a r,YL 2 a 0 H=some r→(Nat.beq 1 r=true ↔ 0 < q a)
 k4 : ∀ l a b r,XR l C=some b→YL 4 a b H=some r→(Nat.beq 1 r=true ↔ Jg (Yn (q a))=l)
 k3 : ∀ a b r,YL 3 a b H=some r→(Nat.beq 1 r=true ↔ q a=q b)
 k6 : ∀ a b r,YL 6 a b H=some r→(Nat.beq 1 r=true ↔ (q a=0∧q b=0))
 k5 : ∀ a r,YL 5 a 0 H=some r→(r=0→q a < 0)∧(r=1→q a=0)∧(r=2→0 < q a)
section
variable {N : List Nd} {H : List (Nat × Nat × Nat × Nat)} {K : List (FuncId × List AC)} {L C : List (List Nat × Nat)} {Z : List Nat} {pr : List (FuncId × Nat)} {q : Nat→Rat} {σ : Nat→ByteArray} {w0 : World}
theorem Hy.nd (Y : Hy N H L C Z q σ) {op : Nat} {ar : List Nat} {i : Nat} (h : (sx Tryz.prog N H K L C Z pr).nd op ar=some i) : q i=YP σ q (op,ar) := by
 obtain ⟨_,h2⟩ := RJ h
 rw [Nat.sub_zero] at h2
 exact Y.nat i _ h2
theorem Hy.zero (Y : Hy N H L C Z q σ) : ∀ i,(sx Tryz.prog N H K L C Z pr).nd 0 [0,0,1]=some i→q i=0 := fun i h => by
 rw [Y.nd h]
 show (if (0 : Nat)=0 then mkRat ((0 : Nat) : Int) 1 else mkRat (-((0 : Nat) : Int)) 1)=0
 decide +kernel
theorem cut_app {us rs : List Value} {o n : Nat} (h : o+n≤us.length) : ((us ++ rs).drop o).take n=(us.drop o).take n := by
 rw [List.drop_append_of_le_length (by omega),List.take_append_of_le_length (by rw [List.length_drop]; omega)]
def Zv (N : List Nd) (H : List (Nat × Nat × Nat × Nat)) (K : List (FuncId × List AC)) (L C : List (List Nat × Nat)) (Z : List Nat) (pr : List (FuncId × Nat)) (q : Nat→Rat) (σ : Nat→ByteArray) (w0 : World) (c : Nat) (f : FuncId) : Prop :=
 ∀ args h nx p,Fp (sx Tryz.prog N H K L C Z pr) h nx c args=some p→∀ (γ : Nat→Option Nat) (w : World) (vs : List Value),WI w0 γ w→A2 (avOn (cOn (evS q σ) K γ w)) args vs→(∀ x ∈ h,x.1 ∈ p.2.1→boxOn (evS q σ) K γ w x)→(∀ b,nx≤b→b < p.2.2.2→γ b=none) →
  Calls Tryz.prog f vs.toArray w fun e w' => ∃ r γ',e=.returned r∧Ef nbS w0 [] nx p.2.2.2 γ w γ' w'∧avOn (cOn (evS q σ) K γ' w') p.1 r∧∀ x ∈ p.2.2.1,boxOn (evS q σ) K γ' w' x
theorem QZ {c : Nat} {f : FuncId} {F : List AV→Option AV} (hF : ∀ h nx args,Fp (sx Tryz.prog N H K L C Z pr) h nx c args=Ja nx (F args))
  (hc : ∀ args v,F args=some v→∀ (γ : Nat→Option Nat) (w : World) (vs : List Value),WI w0 γ w→A2 (avOn (cOn (evS q σ) K γ w)) args vs→Calls Tryz.prog f vs.toArray w fun e w' => Below w.heap.size w w'∧∃ r,e=.returned r∧avOn (cOn (evS q σ) K γ w') v r) : Zv N H K L C Z pr q σ w0 c f := by
 intro args h nx p hp γ w vs hi hA _ _
 rw [hF] at hp
 unfold Ja at hp
 rw [Option.map_eq_some_iff] at hp
 obtain ⟨v,h1,rfl⟩ := hp
 refine (hc args v h1 γ w vs hi hA).mono ?_
 rintro _ w' ⟨hb,r,rfl,hr⟩
 exact ⟨r,γ,rfl,Ef.pure hi hb _ _ _ XQ,hr,fun x hx => by cases hx⟩
theorem KK {c : Nat} {f : FuncId} {F : Nat→List AC→Option AV} {z : Nat} (hF : ∀ h nx args p,Fp (sx Tryz.prog N H K L C Z pr) h nx c args=some p→∃ x b cs v,args=[x]∧IX h z x=some (b,cs)∧F b cs=some v∧p=(v,[b],[],nx))
  (hc : ∀ b cs v,F b cs=some v→∀ (γ : Nat→Option Nat) (w : World) (G o n cap : Nat) (vs : List Value) (t : TypeId),WI w0 γ w→Bk w G vs t→o+n*z≤vs.length→A2 (cOn (evS q σ) K γ w) cs ((vs.drop o).take (n*z))→Calls Tryz.prog f #[.slice (some ⟨G,o,none⟩) n cap] w fun e w' => Below w.heap.size w w'∧∃ r,e=.returned r∧avOn (cOn (evS q σ) K γ w') v r) : Zv N H K L C Z pr q σ w0 c f := by
 intro args h nx p hp γ w vs hi hA hb _
 obtain ⟨x,b,cs,v,rfl,h1,h2,rfl⟩ := hF h nx args p hp
 match vs,hA with
 | [u],⟨hu,_⟩ =>
  unfold IX at h1
  simp only [Option.bind_eq_some_iff,ifO_some,Nat.ble_eq] at h1
  obtain ⟨s,g1,ds,g2,g3,g4⟩ := h1
  cases g4
  obtain ⟨G,cap,hG,rfl⟩ := KF g1 hu
  obtain ⟨G',us,t,k1,_,⟨rs,k2,_⟩,k3,k4⟩ := hb (s.1,ds) (Zt g2) List.mem_cons_self
  have hul : us.length=ds.length := k4.len
  rw [hG] at k1
  cases k1
  refine (hc _ _ v h2 γ w G s.2.1 s.2.2 cap (us ++ rs) t hi k2 (by rw [List.length_append]; omega) (by rw [cut_app (by omega)]; exact (k4.drop _).take _)).mono ?_
  rintro _ w' ⟨hb,r,rfl,hr⟩
  exact ⟨r,γ,rfl,Ef.pure hi hb _ _ _ XQ,hr,fun x hx => by cases hx⟩
theorem ZN {α : Type} {f : AV→Option α} {args : List AV} {r : α} (h : arg1 f args=some r) : ∃ x,args=[x]∧f x=some r := by
 unfold arg1 at h
 split at h
 ·exact ⟨_,rfl,h⟩
 ·cases h
theorem JA {α : Type} {f : AV→AV→Option α} {args : List AV} {r : α} (h : On f args=some r) : ∃ x y,args=[x,y]∧f x y=some r := by
 unfold On at h
 split at h
 ·exact ⟨_,_,rfl,h⟩
 ·cases h
theorem WT {k u : Nat} (h : u < 2 ^ k) : Lib.nDigits u≤k / 3+1 := by
 induction u using Nat.strongRecOn generalizing k with
 | ind u ih =>
  by_cases h10 : u < 10
  ·rw [Lib.nDigits_small h10]; omega
  ·rw [Lib.nDigits_big h10]
   match k,h with
   | 0,h => simp at h; omega
   | 1,h => simp at h; omega
   | 2,h => simp at h; omega
   | k+3,h =>
    have := ih (u / 10) (by omega) (k := k) (by rw [Nat.pow_succ,Nat.pow_succ,Nat.pow_succ] at h; omega)
    omega
theorem tx_len3 {k : Nat} {q : Rat} (h : QS k q) : (tx q).length≤2*(k / 3)+4 := by
 unfold tx
 rw [List.length_append,List.length_append,Lib.decDigits_length]
 have h1 := WT h.num
 have h2 := WT h.den
 have h3 : (if q.num < 0 then ([45] : List UInt8) else []).length≤1 := by split <;> simp
 have h4 : (if q.den=1 then [] else 47 :: Lib.decDigits q.den).length≤k / 3+2 := by
  split
  ·simp
  ·rw [List.length_cons,Lib.decDigits_length]; omega
 omega
theorem tx_on (Y : Hy N H L C Z q σ) {γ : Nat→Option Nat} {w : World} {c : AC} {a : Nat} {v : Value} (h : PU (sx Tryz.prog N H K L C Z pr) c=some a) (hc : cOn (evS q σ) K γ w c v) : ∃ s : ByteArray,v=.string s∧rd s.data.toList=q a∧s.size≤4294967280 := by
 unfold PU at h
 split at h
 ·rename_i b hb
  rw [ifO_some] at h
  obtain ⟨h1,h2⟩ := h
  cases h2
  have hv : v=.string (Yn (q a)) := by
   unfold JC at hb
   split at hb
   ·rw [ifO_some,Nat.beq_eq] at hb
    obtain ⟨e1,e2⟩ := hb
    cases e2
    subst e1
    exact hc
   ·cases hb
  refine ⟨_,hv,?_,?_⟩
  ·show rd (tx (q a)).toArray.toList=_
   rw [List.toList_toArray,Mn]
  ·unfold zOk at h1
   split at h1
   ·rename_i z hz
    rw [Nat.ble_eq] at h1
    have := tx_len3 (Y.zs a z hz)
    show (tx (q a)).toArray.size≤_
    rw [List.size_toArray]
    omega
   ·cases h1
 ·split at h
  ·rename_i j hj
   have hv : v=.string (σ j) := by
    unfold Pi at hj
    split at hj
    ·rw [ifO_some,Nat.beq_eq] at hj
     obtain ⟨e1,e2⟩ := hj
     cases e2
     subst e1
     exact hc
    ·cases hj
   refine ⟨_,hv,?_,Nat.le_trans (Y.par j) (by decide)⟩
   rw [Y.nd h]
   rfl
  ·rw [Option.bind_eq_some_iff] at h
   obtain ⟨s,h1,h2⟩ := h
   have hv : v=.string s := by
    unfold OD at h1
    split at h1
    ·cases h1
     exact hc.1
    ·cases h1
   obtain ⟨e1,e2⟩ := Y.lit s a h2
   exact ⟨s,hv,e1.symm,e2⟩
theorem UH (Y : Hy N H L C Z q σ) {z : Int} {a : Nat} (h : OI (sx Tryz.prog N H K L C Z pr) z=some a) : q a=(z : Rat) := by
 cases z with
 | ofNat n =>
  rw [Y.nd (K := K) (pr := pr) h]
  show (if (0 : Nat)=0 then mkRat (n : Int) 1 else mkRat (-(n : Int)) 1)=_
  rw [if_pos rfl,Rat.mkRat_one]
  rfl
 | negSucc n =>
  rw [Y.nd (K := K) (pr := pr) h]
  show (if (1 : Nat)=0 then mkRat ((n+1 : Nat) : Int) 1 else mkRat (-((n+1 : Nat) : Int)) 1)=_
  rw [if_neg (by decide),Rat.mkRat_one]
  rfl
theorem Ws (Y : Hy N H L C Z q σ) {op : Nat} {g : Rat→Rat→Rat} (hg : ∀ a b,YP σ q (op,[a,b])=g (q a) (q b)) : ∀ {l : List Nat} {a c : Nat},Mz (sx Tryz.prog N H K L C Z pr) op a l=some c→q c=(l.map q).foldl g (q a)
 | [],a,c,h => by
  cases h
  rfl
 | b :: l,a,c,h => by
  unfold Mz at h
  rw [Option.bind_eq_some_iff] at h
  obtain ⟨d,h1,h2⟩ := h
  rw [Ws Y hg h2,Y.nd h1,hg]
  rfl
theorem ME (Y : Hy N H L C Z q σ) {γ : Nat→Option Nat} {w : World} {S : Sx} (hS : S=sx Tryz.prog N H K L C Z pr) : ∀ {cs : List AC} {l : List Nat} {vs : List Value},Sy S cs=some l→A2 (cOn (evS q σ) K γ w) cs vs→vs.length=l.length*3∧∀ (j : Nat) (hj : j < l.length),∃ c : C3,vs[j*3]? = some (.bool c.n)∧vs[j*3+1]? = some (.slice c.u c.nu c.cu)∧vs[j*3+2]? = some (.slice c.l c.nl c.cl)∧QV w (.agg #[.bool c.n,.slice c.u c.nu c.cu,.slice c.l c.nl c.cl]) (q l[j])
 | [],l,vs,h,hA => by
  cases h
  match vs,hA with
  | [],_ => exact ⟨rfl,fun j hj => absurd hj (Nat.not_lt_zero _)⟩
 | a :: b :: c :: cs,l,vs,h,hA => by
  unfold Sy at h
  simp only [Option.bind_eq_some_iff,Option.map_eq_some_iff] at h
  obtain ⟨i,h1,l',h2,rfl⟩ := h
  match vs,hA with
  | x :: y :: z :: vs,⟨g1,g2,g3,g4⟩ =>
   obtain ⟨e1,e2⟩ := ME Y hS h2 g4
   have hq := (DZ (q := q) (σ := σ) (K := K) (γ := γ) (w := w) (S := S) (cs := [a,b,c]) (vs := [x,y,z]) (by rw [hS]; exact Y.zero) h1 ⟨g1,g2,g3,trivial⟩).1
   refine ⟨by simp [e1,Nat.succ_mul],fun j hj => ?_⟩
   cases j with
   | zero =>
    obtain ⟨cc,ec⟩ := JF hq
    injection ec with ec
    have ec : [x,y,z]=[.bool cc.n,.slice cc.u cc.nu cc.cu,.slice cc.l cc.nl cc.cl] := by simpa using congrArg Array.toList ec
    injection ec with x1 ec
    injection ec with x2 ec
    injection ec with x3 ec
    subst x1 x2 x3
    exact ⟨cc,rfl,rfl,rfl,hq⟩
   | succ j =>
    obtain ⟨cc,k0,k1,k2,k3⟩ := e2 j (by simpa using hj)
    refine ⟨cc,?_,?_,?_,k3⟩
    ·rw [show (j+1)*3=j*3+3 by omega]; simpa using k0
    ·rw [show (j+1)*3+1=(j*3+1)+3 by omega]; simpa using k1
    ·rw [show (j+1)*3+2=(j*3+2)+3 by omega]; simpa using k2
 | [_],_,_,h,_ => by cases h
 | [_,_],_,_,h,_ => by cases h
theorem Ti {w : World} {G o n : Nat} {vs : List Value} {t : TypeId} {v : Value} {j : Nat} (hk : Bk w G vs t) (hv : ((vs.drop o).take n)[j]? = some v) : w.cell? ⟨G,o+j,none⟩=some v := by
 rw [hk.cell]
 rw [List.getElem?_take] at hv
 split at hv
 ·rwa [List.getElem?_drop] at hv
 ·cases hv
theorem qrow_at (Y : Hy N H L C Z q σ) {γ : Nat→Option Nat} {w : World} {cs : List AC} {l : List Nat} {vs : List Value} {G o n cap : Nat} {t : TypeId} (hl : Sy (sx Tryz.prog N H K L C Z pr) cs=some l) (hk : Bk w G vs t) (hn : o+n*3≤vs.length) (hA : A2 (cOn (evS q σ) K γ w) cs ((vs.drop o).take (n*3))) : n=l.length∧QRow w (.slice (some ⟨G,o,none⟩) (l.map q).length cap) (l.map q) := by
 obtain ⟨e1,e2⟩ := ME Y rfl hl hA
 have hnl : n=l.length := by
  rw [List.length_take,List.length_drop] at e1
  omega
 refine ⟨hnl,G,o,cap,rfl,hk.lt,fun j hj => ?_⟩
 rw [List.length_map] at hj
 obtain ⟨c,k0,k1,k2,k3⟩ := e2 j hj
 refine ⟨c,Ti hk k0,?_,?_,by rw [List.getElem_map]; exact k3⟩
 ·rw [Nat.add_assoc]; exact Ti hk k1
 ·rw [Nat.add_assoc]; exact Ti hk k2
theorem Mv {γ : Nat→Option Nat} {w : World} : ∀ {cs : List AC} {l : List Nat} {vs : List Value},ZO (acX 0) cs=some l→A2 (cOn (evS q σ) K γ w) cs vs→vs.length=l.length∧∀ (j : Nat) (hj : j < l.length),∃ p,vs[j]? = some p∧PR w p (q l[j])
 | [],l,vs,h,hA => by
  cases h
  match vs,hA with
  | [],_ => exact ⟨rfl,fun j hj => absurd hj (Nat.not_lt_zero _)⟩
 | a :: cs,l,vs,h,hA => by
  unfold ZO at h
  simp only [Option.bind_eq_some_iff,Option.map_eq_some_iff] at h
  obtain ⟨i,h1,l',h2,rfl⟩ := h
  match vs,hA with
  | x :: vs,⟨g1,g2⟩ =>
   obtain ⟨e1,e2⟩ := Mv h2 g2
   refine ⟨by simp [e1],fun j hj => ?_⟩
   cases j with
   | zero => exact ⟨x,rfl,Vk (E := evS q σ) h1 g1⟩
   | succ j => simpa using e2 j (by simpa using hj)
theorem Mp {γ : Nat→Option Nat} {w : World} {cs : List AC} {l : List Nat} {vs : List Value} {G o n cap : Nat} {t : TypeId} (hl : ZO (acX 0) cs=some l) (hk : Bk w G vs t) (hn : o+n*1≤vs.length) (hA : A2 (cOn (evS q σ) K γ w) cs ((vs.drop o).take (n*1))) : n=l.length∧Ea w (.slice (some ⟨G,o,none⟩) (l.map q).length cap) (l.map q) := by
 obtain ⟨e1,e2⟩ := Mv hl hA
 have hnl : n=l.length := by
  rw [List.length_take,List.length_drop] at e1
  omega
 refine ⟨hnl,G,o,cap,rfl,hk.lt,fun j hj => ?_⟩
 rw [List.length_map] at hj
 obtain ⟨p,k0,k1⟩ := e2 j hj
 exact ⟨p,Ti hk k0,by rw [List.getElem_map]; exact k1⟩
theorem GX (a : Rat) (l : List Rat) : rsum (a :: l)=l.foldl (fun a b => a+b) a := by
 show l.foldl _ (0+a)=_
 rw [Rat.zero_add]
theorem CZ (a : Rat) (l : List Rat) : rprod (a :: l)=l.foldl (fun a b => a*b) a := by
 show l.foldl _ (1*a)=_
 rw [Rat.one_mul]
theorem prim_0 (Y : Hy N H L C Z q σ) (hp : QT w0) : Zv N H K L C Z pr q σ w0 0 45 := by
 refine QZ (fun _ _ _ => rfl) fun args v hv γ w vs hi hA => ?_
 have hpre : QT w := ⟨hp.1.below hi.bel,hp.2.below hi.bel⟩
 obtain ⟨x,rfl,hx⟩ := ZN hv
 replace hv := hx
 clear hx
 match vs,hA with
 | [u],⟨hu,_⟩ =>
  simp only [Option.bind_eq_some_iff,Option.map_eq_some_iff] at hv
  obtain ⟨c,h1,a,h2,rfl⟩ := hv
  obtain ⟨s,rfl,e1,e2⟩ := tx_on Y h2 (Za h1 hu)
  refine (CH s w (Nat.le_trans e2 (by decide))).mono ?_
  rintro _ w' ⟨hb,v,rfl,hq⟩
  rw [e1] at hq
  exact ⟨hb,_,rfl,Gw hq⟩
theorem prim_1 (Y : Hy N H L C Z q σ) (hp : QT w0) : Zv N H K L C Z pr q σ w0 1 32 := by
 refine QZ (fun _ _ _ => rfl) fun args v hv γ w vs hi hA => ?_
 have hpre : QT w := ⟨hp.1.below hi.bel,hp.2.below hi.bel⟩
 obtain ⟨x,rfl,hx⟩ := ZN hv
 replace hv := hx
 clear hx
 match vs,hA with
 | [u],⟨hu,_⟩ =>
  rw [Option.map_eq_some_iff] at hv
  obtain ⟨a,h1,rfl⟩ := hv
  refine (KO (Yd Y.zero h1 hu) (Y.qs a) (by decide) hpre.1).mono ?_
  rintro _ w' ⟨hb,s,rfl,hs⟩
  exact ⟨hb,_,rfl,t_on hs⟩
theorem prim_2 (Y : Hy N H L C Z q σ) (hp : QT w0) : Zv N H K L C Z pr q σ w0 2 73 := by
 refine QZ (fun _ _ _ => rfl) fun args v hv γ w vs hi hA => ?_
 have hpre : QT w := ⟨hp.1.below hi.bel,hp.2.below hi.bel⟩
 obtain ⟨x,y,rfl,hx⟩ := JA hv
 replace hv := hx
 clear hx
 match vs,hA with
 | [u,t],⟨hu,ht,_⟩ =>
  unfold q2B at hv
  simp only [Option.bind_eq_some_iff,Option.map_eq_some_iff] at hv
  obtain ⟨a,h1,b,h2,i,h3,rfl⟩ := hv
  refine (Yx (Yd Y.zero h1 hu) (Yd Y.zero h2 ht) (Y.qs a) (Y.qs b) (by decide)).mono ?_
  rintro _ w' ⟨hb,v,rfl,hq⟩
  refine ⟨hb,_,rfl,Gw ?_⟩
  rw [Y.nd h3]
  exact hq
theorem prim_3 (Y : Hy N H L C Z q σ) (hp : QT w0) : Zv N H K L C Z pr q σ w0 3 124 := by
 refine QZ (fun _ _ _ => rfl) fun args v hv γ w vs hi hA => ?_
 have hpre : QT w := ⟨hp.1.below hi.bel,hp.2.below hi.bel⟩
 obtain ⟨x,y,rfl,hx⟩ := JA hv
 replace hv := hx
 clear hx
 match vs,hA with
 | [u,t],⟨hu,ht,_⟩ =>
  unfold q2B at hv
  simp only [Option.bind_eq_some_iff,Option.map_eq_some_iff] at hv
  obtain ⟨a,h1,b,h2,i,h3,rfl⟩ := hv
  refine (Rl (Yd Y.zero h1 hu) (Yd Y.zero h2 ht) (Y.qs a) (Y.qs b) (by decide)).mono ?_
  rintro _ w' ⟨hb,v,rfl,hq⟩
  refine ⟨hb,_,rfl,Gw ?_⟩
  rw [Y.nd h3]
  exact hq
theorem prim_4 (Y : Hy N H L C Z q σ) (hp : QT w0) : Zv N H K L C Z pr q σ w0 4 48 := by
 refine QZ (fun _ _ _ => rfl) fun args v hv γ w vs hi hA => ?_
 have hpre : QT w := ⟨hp.1.below hi.bel,hp.2.below hi.bel⟩
 obtain ⟨x,y,rfl,hx⟩ := JA hv
 replace hv := hx
 clear hx
 match vs,hA with
 | [u,t],⟨hu,ht,_⟩ =>
  unfold q2B at hv
  simp only [Option.bind_eq_some_iff,Option.map_eq_some_iff] at hv
  obtain ⟨a,h1,b,h2,i,h3,rfl⟩ := hv
  refine (YW (Yd Y.zero h1 hu) (Yd Y.zero h2 ht) (Y.qs a) (Y.qs b) (by decide)).mono ?_
  rintro _ w' ⟨hb,v,rfl,hq⟩
  refine ⟨hb,_,rfl,Gw ?_⟩
  rw [Y.nd h3]
  exact hq
theorem prim_5 (Y : Hy N H L C Z q σ) (hp : QT w0) : Zv N H K L C Z pr q σ w0 5 47 := by
 refine QZ (fun _ _ _ => rfl) fun args v hv γ w vs hi hA => ?_
 have hpre : QT w := ⟨hp.1.below hi.bel,hp.2.below hi.bel⟩
 obtain ⟨x,y,rfl,hx⟩ := JA hv
 replace hv := hx
 clear hx
 match vs,hA with
 | [u,t],⟨hu,ht,_⟩ =>
  unfold q2B at hv
  simp only [Option.bind_eq_some_iff,Option.map_eq_some_iff] at hv
  obtain ⟨a,h1,b,h2,i,h3,rfl⟩ := hv
  refine (Rw (Yd Y.zero h1 hu) (Yd Y.zero h2 ht) (Y.qs a) (Y.qs b) (by decide)).mono ?_
  rintro _ w' ⟨hb,v,rfl,hq⟩
  refine ⟨hb,_,rfl,Gw ?_⟩
  rw [Y.nd h3]
  exact hq
theorem prim_6 (Y : Hy N H L C Z q σ) (hp : QT w0) : Zv N H K L C Z pr q σ w0 6 161 := by
 refine QZ (fun _ _ _ => rfl) fun args v hv γ w vs hi hA => ?_
 have hpre : QT w := ⟨hp.1.below hi.bel,hp.2.below hi.bel⟩
 obtain ⟨x,rfl,hx⟩ := ZN hv
 replace hv := hx
 clear hx
 match vs,hA with
 | [u],⟨hu,_⟩ =>
  simp only [Option.bind_eq_some_iff,Option.map_eq_some_iff] at hv
  obtain ⟨a,h1,i,h3,rfl⟩ := hv
  refine (Wd (Yd Y.zero h1 hu)).mono ?_
  rintro _ w' ⟨hb,v,rfl,hq⟩
  refine ⟨hb,_,rfl,Gw ?_⟩
  rw [Y.nd h3]
  exact hq
theorem prim_7 (Y : Hy N H L C Z q σ) (hp : QT w0) : Zv N H K L C Z pr q σ w0 7 77 := by
 refine QZ (fun _ _ _ => rfl) fun args v hv γ w vs hi hA => ?_
 have hpre : QT w := ⟨hp.1.below hi.bel,hp.2.below hi.bel⟩
 obtain ⟨x,rfl,hx⟩ := ZN hv
 replace hv := hx
 clear hx
 match vs,hA with
 | [u],⟨hu,_⟩ =>
  rw [Option.map_eq_some_iff] at hv
  obtain ⟨a,h1,rfl⟩ := hv
  refine (Oc (Yd Y.zero h1 hu)).mono ?_
  rintro _ w' ⟨hb,rfl⟩
  refine ⟨hb,_,rfl,?_⟩
  rw [← SI]
  exact Hu (Y.k5 a)
theorem prim_8 (Y : Hy N H L C Z q σ) (hp : QT w0) : Zv N H K L C Z pr q σ w0 8 28 := by
 refine QZ (fun _ _ _ => rfl) fun args v hv γ w vs hi hA => ?_
 have hpre : QT w := ⟨hp.1.below hi.bel,hp.2.below hi.bel⟩
 obtain ⟨x,rfl,hx⟩ := ZN hv
 replace hv := hx
 clear hx
 match vs,hA with
 | [u],⟨hu,_⟩ =>
  simp only [Option.bind_eq_some_iff,Option.map_eq_some_iff,ifO_some,Bool.and_eq_true,decide_eq_true_eq] at hv
  obtain ⟨z,h1,h2,a,h3,rfl⟩ := hv
  obtain rfl := YO h1 hu
  refine (Ov z h2.1 h2.2 w).mono ?_
  rintro _ w' ⟨hb,v,rfl,hq⟩
  refine ⟨hb,_,rfl,Gw ?_⟩
  rw [UH Y h3]
  exact hq
theorem TR (Y : Hy N H L C Z q σ) {a n : Nat} (h : PV (sx Tryz.prog N H K L C Z pr) a=some n) : q a=(n : Rat)∧n < 4611686018427387904 := by
 unfold PV at h
 split at h
 ·rename_i op s m d hN
  simp only [ifO_some,Bool.and_eq_true,Nat.beq_eq] at h
  obtain ⟨⟨⟨h1,h2⟩,h3,h4⟩,h5⟩ := h
  cases h5
  subst h1 h2 h3
  refine ⟨?_,Nat.lt_of_lt_of_le (Nat.lt_succ_self n) (Nat.le_of_ble_eq_true h4)⟩
  rw [Y.nat a _ hN]
  show (if (0 : Nat)=0 then mkRat (n : Int) 1 else mkRat (-(n : Int)) 1)=_
  rw [if_pos rfl]
  exact Rat.mkRat_one _
 ·cases h
theorem TY (Y : Hy N H L C Z q σ) {a n : Nat} : ∀ {hs : List (Nat × Nat × Nat × Nat)},PZ (sx Tryz.prog N H K L C Z pr) a hs=some n→q a=(n : Rat)∧n < 4611686018427387904
 | [],h => by cases h
 | (k,b,c,r0) :: hs,h => by
  unfold PZ at h
  cases e : (Nat.beq k 3 && Nat.beq a b) with
  | true =>
   rw [e] at h
   dsimp only [cond] at h
   split at h
   ·rename_i r hr
    rw [ifO_some] at h
    have h1 := (Y.k3 a c r hr).1 h.1
    have h2 := TR (K := K) (pr := pr) Y h.2
    rw [h1]
    exact h2
   ·cases h
  | false =>
   rw [e] at h
   exact TY Y h
theorem Cd (Y : Hy N H L C Z q σ) {a n : Nat} (h : Cn (sx Tryz.prog N H K L C Z pr) a=some n) : q a=(n : Rat)∧n < 4611686018427387904 := by
 unfold Cn at h
 split at h
 ·rename_i m hm
  cases h
  exact TR (K := K) (pr := pr) Y hm
 ·exact TY (K := K) (pr := pr) Y h
theorem prim_12 (Y : Hy N H L C Z q σ) (hp : QT w0) : Zv N H K L C Z pr q σ w0 12 125 := by
 refine QZ (fun _ _ _ => rfl) fun args v hv γ w vs hi hA => ?_
 have hpre : QT w := ⟨hp.1.below hi.bel,hp.2.below hi.bel⟩
 obtain ⟨x,rfl,hx⟩ := ZN hv
 replace hv := hx
 clear hx
 match vs,hA with
 | [u],⟨hu,_⟩ =>
  simp only [Option.bind_eq_some_iff,Option.map_eq_some_iff] at hv
  obtain ⟨a,h1,n,h2,rfl⟩ := hv
  obtain ⟨e1,e2⟩ := Cd Y h2
  refine (MZ (by rw [← e1]; exact Yd Y.zero h1 hu) e2).mono ?_
  rintro _ w' ⟨hb,rfl⟩
  exact ⟨hb,_,rfl,⟨[.int .i64 n,.bool true],rfl,⟨⟨rfl,rfl⟩,trivial⟩,⟨⟨rfl,rfl⟩,trivial⟩,trivial⟩⟩
theorem prim_13 (Y : Hy N H L C Z q σ) (hp : QT w0) : Zv N H K L C Z pr q σ w0 13 129 := by
 refine QZ (fun _ _ _ => rfl) fun args v hv γ w vs hi hA => ?_
 have hpre : QT w := ⟨hp.1.below hi.bel,hp.2.below hi.bel⟩
 obtain ⟨x,y,rfl,hx⟩ := JA hv
 replace hv := hx
 clear hx
 match vs,hA with
 | [u,t],⟨hu,ht,_⟩ =>
  unfold q2B at hv
  simp only [Option.bind_eq_some_iff,Option.map_eq_some_iff] at hv
  obtain ⟨a,h1,b,h2,i,h3,rfl⟩ := hv
  refine (DC (Yd Y.zero h1 hu) (Yd Y.zero h2 ht) (Y.qs a) (Y.qs b) (by decide)).mono ?_
  rintro _ w' ⟨hb,v,rfl,hq⟩
  refine ⟨hb,_,rfl,Gw ?_⟩
  rw [Y.nd h3]
  exact hq
theorem DW {γ : Nat→Option Nat} {w : World} {i : Nat} {v : Value} (h : QV w v (q i)) : a1On (cOn (evS q σ) K γ w) (true,TZ i) v := (Gw (K := K) (γ := γ) h).1
theorem prim_14 (Y : Hy N H L C Z q σ) (hp : QT w0) : Zv N H K L C Z pr q σ w0 14 46 := by
 refine QZ (fun _ _ _ => rfl) fun args v hv γ w vs hi hA => ?_
 have hpre : QT w := ⟨hp.1.below hi.bel,hp.2.below hi.bel⟩
 obtain ⟨x,rfl,hx⟩ := ZN hv
 replace hv := hx
 clear hx
 match vs,hA with
 | [u],⟨hu,_⟩ =>
  simp only [Option.bind_eq_some_iff,Option.map_eq_some_iff] at hv
  obtain ⟨a,h1,b,h2,c,h3,rfl⟩ := hv
  refine (Bc (Yd Y.zero h1 hu)).mono ?_
  rintro _ w' ⟨hb,v1,v2,rfl,q1,q2⟩
  refine ⟨hb,_,rfl,[v1,v2],rfl,DW (by rw [Y.nd h2]; exact q1),DW (by rw [Y.nd h3]; exact q2),trivial⟩
theorem Aj (Y : Hy N H L C Z q σ) (hp : QT w0) : Zv N H K L C Z pr q σ w0 15 123 := by
 refine QZ (fun _ _ _ => rfl) fun args v hv γ w vs hi hA => ?_
 have hpre : QT w := ⟨hp.1.below hi.bel,hp.2.below hi.bel⟩
 obtain ⟨x,y,rfl,hx⟩ := JA hv
 replace hv := hx
 clear hx
 match vs,hA with
 | [u,t],⟨hu,ht,_⟩ =>
  simp only [Option.bind_eq_some_iff,Option.map_eq_some_iff] at hv
  obtain ⟨a,h1,b,h2,i,h3,rfl⟩ := hv
  refine (KL (Yd Y.zero h1 hu) (Yd Y.zero h2 ht) (Y.qs a) (Y.qs b) (by decide)).mono ?_
  rintro _ w' ⟨hb,rfl⟩
  refine ⟨hb,_,rfl,?_⟩
  rw [show q a - q b=q i from (Y.nd h3).symm]
  exact Hu (Y.k5 i)
theorem prim_9 (Y : Hy N H L C Z q σ) (hp : QT w0) : Zv N H K L C Z pr q σ w0 9 162 := by
 refine KK (z := 3) (F := fun _ cs => (Sy (sx Tryz.prog N H K L C Z pr) cs).bind fun l => (IJ (sx Tryz.prog N H K L C Z pr) 2 l).bind fun a => ifO (Nat.ble l.length 20) (some (q1 a))) (fun h nx args p hp => ?_) fun b cs v hv γ w G o n cap vs t hi hk hn hA => ?_
 ·have hp : arg1 (fun x => (IX h 3 x).bind fun p => _) args=some p := hp
  obtain ⟨x,rfl,hx⟩ := ZN hp
  replace hp := hx
  clear hx
  simp only [Option.bind_eq_some_iff,ifO_some] at hp
  obtain ⟨⟨b,cs⟩,h1,l,h2,a,h3,h4,h5⟩ := hp
  cases h5
  exact ⟨x,b,cs,q1 a,rfl,h1,by simp only [Option.bind_eq_some_iff,ifO_some]; exact ⟨l,h2,a,h3,h4,rfl⟩,rfl⟩
 ·have hpre : QT w := ⟨hp.1.below hi.bel,hp.2.below hi.bel⟩
  simp only [Option.bind_eq_some_iff,ifO_some,Nat.ble_eq] at hv
  obtain ⟨l,h2,a,h3,h4,h5⟩ := hv
  cases h5
  obtain ⟨rfl,hr⟩ := qrow_at Y h2 hk hn hA
  have hll : (l.map q).length=l.length := List.length_map ..
  rw [← hll]
  refine (EH hr (K := 1000000000000) (fun x hx => by obtain ⟨i,_,rfl⟩ := List.mem_map.1 hx; exact Y.qs i) (by rw [hll]; omega) (by rw [hll]; omega)).mono ?_
  rintro _ w' ⟨hb,v,rfl,hq⟩
  refine ⟨hb,_,rfl,Gw ?_⟩
  cases l with
  | nil => cases h3
  | cons i l =>
   rw [Ws (g := fun a b => a+b) Y (fun _ _ => rfl) h3]
   rw [List.map_cons,GX] at hq
   exact hq
theorem prim_24 (Y : Hy N H L C Z q σ) (hp : QT w0) : Zv N H K L C Z pr q σ w0 24 9 := by
 refine KK (z := 1) (F := fun _ cs => (ZO (acX 0) cs).bind fun l => (IJ (sx Tryz.prog N H K L C Z pr) 2 l).bind fun a => ifO (Nat.ble l.length 20) (some (r1 a))) (fun h nx args p hp => ?_) fun b cs v hv γ w G o n cap vs t hi hk hn hA => ?_
 ·have hp : arg1 (fun x => (IX h 1 x).bind fun p => _) args=some p := hp
  obtain ⟨x,rfl,hx⟩ := ZN hp
  replace hp := hx
  clear hx
  simp only [Option.bind_eq_some_iff,ifO_some] at hp
  obtain ⟨⟨b,cs⟩,h1,l,h2,a,h3,h4,h5⟩ := hp
  cases h5
  exact ⟨x,b,cs,r1 a,rfl,h1,by simp only [Option.bind_eq_some_iff,ifO_some]; exact ⟨l,h2,a,h3,h4,rfl⟩,rfl⟩
 ·have hpre : QT w := ⟨hp.1.below hi.bel,hp.2.below hi.bel⟩
  simp only [Option.bind_eq_some_iff,ifO_some,Nat.ble_eq] at hv
  obtain ⟨l,h2,a,h3,h4,h5⟩ := hv
  cases h5
  obtain ⟨rfl,hr⟩ := Mp h2 hk hn hA
  have hll : (l.map q).length=l.length := List.length_map ..
  rw [← hll]
  refine (Ie hr (K := 1000000000000) (fun x hx => by obtain ⟨i,_,rfl⟩ := List.mem_map.1 hx; exact Y.qs i) (by rw [hll]; omega) (by rw [hll]; omega)).mono ?_
  rintro _ w' ⟨hb,v,rfl,hq⟩
  refine ⟨hb,_,rfl,Na ?_⟩
  cases l with
  | nil => cases h3
  | cons i l =>
   rw [Ws (g := fun a b => a+b) Y (fun _ _ => rfl) h3]
   rw [List.map_cons,GX] at hq
   exact hq
theorem AA (Y : Hy N H L C Z q σ) (hp : QT w0) : Zv N H K L C Z pr q σ w0 25 14 := by
 refine KK (z := 1) (F := fun _ cs => (ZO (acX 0) cs).bind fun l => (IJ (sx Tryz.prog N H K L C Z pr) 4 l).bind fun a => ifO (Nat.ble l.length 20) (some (r1 a))) (fun h nx args p hp => ?_) fun b cs v hv γ w G o n cap vs t hi hk hn hA => ?_
 ·have hp : arg1 (fun x => (IX h 1 x).bind fun p => _) args=some p := hp
  obtain ⟨x,rfl,hx⟩ := ZN hp
  replace hp := hx
  clear hx
  simp only [Option.bind_eq_some_iff,ifO_some] at hp
  obtain ⟨⟨b,cs⟩,h1,l,h2,a,h3,h4,h5⟩ := hp
  cases h5
  exact ⟨x,b,cs,r1 a,rfl,h1,by simp only [Option.bind_eq_some_iff,ifO_some]; exact ⟨l,h2,a,h3,h4,rfl⟩,rfl⟩
 ·have hpre : QT w := ⟨hp.1.below hi.bel,hp.2.below hi.bel⟩
  simp only [Option.bind_eq_some_iff,ifO_some,Nat.ble_eq] at hv
  obtain ⟨l,h2,a,h3,h4,h5⟩ := hv
  cases h5
  obtain ⟨rfl,hr⟩ := Mp h2 hk hn hA
  have hll : (l.map q).length=l.length := List.length_map ..
  rw [← hll]
  refine (DI hr (K := 1000000000000) (fun x hx => by obtain ⟨i,_,rfl⟩ := List.mem_map.1 hx; exact Y.qs i) (by rw [hll]; omega) (by rw [hll]; omega)).mono ?_
  rintro _ w' ⟨hb,v,rfl,hq⟩
  refine ⟨hb,_,rfl,Na ?_⟩
  cases l with
  | nil => cases h3
  | cons i l =>
   rw [Ws (g := fun a b => a*b) Y (fun _ _ => rfl) h3]
   rw [List.map_cons,CZ] at hq
   exact hq
theorem prim_20 (Y : Hy N H L C Z q σ) (hp : QT w0) : Zv N H K L C Z pr q σ w0 20 13 := by
 refine QZ (fun _ _ _ => rfl) fun args v hv γ w vs hi hA => ?_
 have hpre : QT w := ⟨hp.1.below hi.bel,hp.2.below hi.bel⟩
 obtain ⟨x,rfl,hx⟩ := ZN hv
 replace hv := hx
 clear hx
 match vs,hA with
 | [u],⟨hu,_⟩ =>
  simp only [Option.bind_eq_some_iff,Option.map_eq_some_iff] at hv
  obtain ⟨c,h1,a,h2,rfl⟩ := hv
  obtain ⟨s,rfl,e1,e2⟩ := tx_on Y h2 (Za h1 hu)
  refine (PE s w hpre.2 e2).mono ?_
  rintro _ w' ⟨hb,v,rfl,hq⟩
  rw [e1] at hq
  exact ⟨hb,_,rfl,Na hq⟩
theorem prim_21 (Y : Hy N H L C Z q σ) (hp : QT w0) : Zv N H K L C Z pr q σ w0 21 11 := by
 refine QZ (fun _ _ _ => rfl) fun args v hv γ w vs hi hA => ?_
 have hpre : QT w := ⟨hp.1.below hi.bel,hp.2.below hi.bel⟩
 obtain ⟨x,rfl,hx⟩ := ZN hv
 replace hv := hx
 clear hx
 match vs,hA with
 | [u],⟨hu,_⟩ =>
  rw [Option.map_eq_some_iff] at hv
  obtain ⟨a,h1,rfl⟩ := hv
  obtain ⟨g,rfl,hg⟩ := It (q := q) (σ := σ) h1 hu
  refine (TU hg (Y.qs a) (by decide)).mono ?_
  rintro _ w' ⟨hb,rfl⟩
  exact ⟨hb,_,rfl,t_on (by simp)⟩
theorem Ay (Y : Hy N H L C Z q σ) (hp : QT w0) : Zv N H K L C Z pr q σ w0 22 7 := by
 refine QZ (fun _ _ _ => rfl) fun args v hv γ w vs hi hA => ?_
 have hpre : QT w := ⟨hp.1.below hi.bel,hp.2.below hi.bel⟩
 obtain ⟨x,rfl,hx⟩ := ZN hv
 replace hv := hx
 clear hx
 match vs,hA with
 | [u],⟨hu,_⟩ =>
  simp only [Option.bind_eq_some_iff,Option.map_eq_some_iff,ifO_some,Bool.and_eq_true,decide_eq_true_eq] at hv
  obtain ⟨z,h1,⟨h2,h4⟩,a,h3,rfl⟩ := hv
  obtain rfl := YO h1 hu
  refine (Bf z h2 h4 w).mono ?_
  rintro _ w' ⟨hb,g,rfl,_,hq⟩
  refine ⟨hb,_,rfl,Na ?_⟩
  rw [UH Y h3]
  exact ⟨g,rfl,hq⟩
theorem prim_26 (Y : Hy N H L C Z q σ) (hp : QT w0) : Zv N H K L C Z pr q σ w0 26 112 := by
 refine QZ (fun _ _ _ => rfl) fun args v hv γ w vs hi hA => ?_
 have hpre : QT w := ⟨hp.1.below hi.bel,hp.2.below hi.bel⟩
 obtain ⟨x,y,rfl,hx⟩ := JA hv
 replace hv := hx
 clear hx
 match vs,hA with
 | [u,t],⟨hu,ht,_⟩ =>
  unfold r2B at hv
  simp only [Option.bind_eq_some_iff,Option.map_eq_some_iff] at hv
  obtain ⟨a,h1,b,h2,i,h3,rfl⟩ := hv
  refine (DQ (It (q := q) (σ := σ) h1 hu) (It (q := q) (σ := σ) h2 ht) (Y.qs a) (Y.qs b) (by decide)).mono ?_
  rintro _ w' ⟨hb,v,rfl,hq⟩
  refine ⟨hb,_,rfl,Na ?_⟩
  rw [Y.nd h3]
  exact hq
theorem Ar (Y : Hy N H L C Z q σ) (hp : QT w0) : Zv N H K L C Z pr q σ w0 27 10 := by
 refine QZ (fun _ _ _ => rfl) fun args v hv γ w vs hi hA => ?_
 have hpre : QT w := ⟨hp.1.below hi.bel,hp.2.below hi.bel⟩
 obtain ⟨x,y,rfl,hx⟩ := JA hv
 replace hv := hx
 clear hx
 match vs,hA with
 | [u,t],⟨hu,ht,_⟩ =>
  unfold r2B at hv
  simp only [Option.bind_eq_some_iff,Option.map_eq_some_iff] at hv
  obtain ⟨a,h4,b,h1,i,h6,rfl⟩ := hv
  refine (Te (It (q := q) (σ := σ) h4 hu) (It (q := q) (σ := σ) h1 ht) (Y.qs a) (Y.qs b) (by decide)).mono ?_
  rintro _ w' ⟨hb,v,rfl,hq⟩
  refine ⟨hb,_,rfl,Na ?_⟩
  rw [Y.nd h6]
  exact hq
theorem prim_29 (Y : Hy N H L C Z q σ) (hp : QT w0) : Zv N H K L C Z pr q σ w0 29 20 := by
 refine QZ (fun _ _ _ => rfl) fun args v hv γ w vs hi hA => ?_
 have hpre : QT w := ⟨hp.1.below hi.bel,hp.2.below hi.bel⟩
 obtain ⟨x,y,rfl,hx⟩ := JA hv
 replace hv := hx
 clear hx
 match vs,hA with
 | [u,t],⟨hu,ht,_⟩ =>
  simp only [Option.bind_eq_some_iff] at hv
  obtain ⟨a,h1,b,h2,h3⟩ := hv
  refine (Fv (It (q := q) (σ := σ) h1 hu) (It (q := q) (σ := σ) h2 ht) (Y.qs a) (Y.qs b) (by decide)).mono ?_
  rintro _ w' ⟨hb,rfl⟩
  refine ⟨hb,_,rfl,?_⟩
  cases e : Nat.beq a b with
  | true =>
   rw [e] at h3
   cases h3
   rw [Nat.beq_eq] at e
   subst e
   rw [decide_eq_true rfl]
   exact Zg ⟨rfl,rfl⟩
  | false =>
   rw [e] at h3
   simp only [cond_false,Option.map_eq_some_iff] at h3
   obtain ⟨r,h4,rfl⟩ := h3
   rw [show decide (q a=q b)=Nat.beq 1 r by rw [Bool.eq_iff_iff,decide_eq_true_eq,Y.k3 a b r h4]]
   exact Zg ⟨rfl,rfl⟩
theorem prim_34 (Y : Hy N H L C Z q σ) (hp : QT w0) : Zv N H K L C Z pr q σ w0 34 25 := by
 refine QZ (fun _ _ _ => rfl) fun args v hv γ w vs hi hA => ?_
 have hpre : QT w := ⟨hp.1.below hi.bel,hp.2.below hi.bel⟩
 obtain ⟨x,y,rfl,hx⟩ := JA hv
 replace hv := hx
 clear hx
 match vs,hA with
 | [u,t],⟨hu,ht,_⟩ =>
  simp only [Option.bind_eq_some_iff,Option.map_eq_some_iff] at hv
  obtain ⟨a,h1,b,h2,i,h3,rfl⟩ := hv
  obtain ⟨gx,rfl,hx⟩ := It (q := q) (σ := σ) h1 hu
  obtain ⟨gy,rfl,hy⟩ := It (q := q) (σ := σ) h2 ht
  refine (Ib hx hy (Y.qs a) (Y.qs b) (by decide)).mono ?_
  rintro _ w' ⟨hb,c,rfl,hc1,hc2⟩
  refine ⟨hb,_,rfl,Zg ⟨c,rfl,?_,?_⟩⟩
  ·rw [hc2,show (evS q σ).q i=q i from rfl,Y.nd h3]
   show q a=q b ↔ q a - q b=0
   constructor
   ·intro e; rw [e]; grind
   ·intro e; grind
  ·rw [hc1,show (evS q σ).q i=q i from rfl,Y.nd h3]
   show _ ↔ q a - q b < 0
   rw [show (q a - q b < 0 ↔ q a < q b) by constructor <;> intro e <;> grind]
   exact (Rat.lt_iff _ _).symm
end
end Go.Proofs.YthhnabccdehmgaaGreatDoor
/- ZWR -/
namespace Go.Proofs.YthhnabccdehmgaaGreatDoor
open Go.RowKit Cx
theorem Ji {w w' : World} (h : QT w) (hb : Below w.heap.size w w') : QT w' := ⟨h.1.below hb,h.2.below hb⟩
theorem con_up {f : FuncId} {Fs : List Fact} {F : Fact} (h : Con Tryz.prog ZW f Fs F) : Con Tryz.prog QT f Fs F := fun w vs _ hall => h w vs trivial hall
def Tt (q : Rat) : Fact := ⟨fun v _ => ∃ s : ByteArray,v=.string s∧s.data.toList=tx q,fun _ h => h⟩
theorem blk_one {w : World} {g : Nat} {cs cs' : Array Value} {t t' : TypeId} (h : Blk w g cs t) (h' : Blk w g cs' t') : cs=cs'∧t=t' := by
 unfold Blk at h h'
 rw [h] at h'
 cases h'
 exact ⟨rfl,rfl⟩
theorem Blk.grows {w w' : World} {g : Nat} {cs : Array Value} {t : TypeId} (hg : Grows w w') (h : Blk w g cs t) (ht : Ac t=false) : Blk w' g cs t := by
 have hn : ¬ Boxed w g := by
  rintro ⟨cs',t',hb,hT,_⟩
  rw [(blk_one h hb).2] at ht
  rw [ht] at hT
  cases hT
 exact (hg.block g h.lt hn).trans h
theorem RV.grows {w w' : World} {g : Nat} {q : Rat} (hg : Grows w w') (h : RV w g q) : RV w' g q := by
 obtain ⟨a1,l1,c1,a2,l2,c2,h0,h1,h2⟩ := h
 refine ⟨a1,l1,c1,a2,l2,c2,h0.grows hg (by decide),h1.grows hg,?_⟩
 rcases h2 with h2 | h2
 ·exact Or.inl (h2.grows hg)
 ·exact Or.inr h2
def Rt (q : Rat) : Fact := ⟨fun v w => PR w v q,fun hg ⟨g,e,h⟩ => ⟨g,e,h.grows hg⟩⟩
theorem VY {w : World} {F : Fact} {vs : List Value} (h : All2 w [F] vs) : ∃ v,vs=[v]∧F.on v w := by
 match vs,h with
 | [v],h => exact ⟨v,rfl,h.1⟩
abbrev Tx (s : ByteArray) : Fact := Jus (.string s)
def Nn (t : TypeId) (n : Nat) (Fs : List Fact) : Soft := ⟨fun v w => ∃ (G : Nat) (cs : List Value),v=.slice (some ⟨G,0,none⟩) n n∧Blk w G cs.toArray t∧All2 w Fs cs,fun hb ⟨G,cs,e,h1,h2⟩ => ⟨G,cs,e,h1.below hb h1.lt,h2.st (Grows.of hb)⟩⟩
theorem GC {q0 q1 : Rat} (x0 x1 : Operand) (w : World) (ρ : Operand→Value) (h : All2 w [Rt q0,Rt q1] (((#[(0,x0),(1,x1)] : Array (Nat × Operand)).toList.map (·.2)).map ρ)) : ∃ v w',(Instr.buildSlice 85 2 ((#[(0,x0),(1,x1)] : Array (Nat × Operand)).map fun (i,x) => (i,ρ x))).run Tryz.prog w=.ok v w'∧Below w.heap.size w w'∧(Nn 28 2 [Rt q0,Rt q1]).on v w' := by
 have h' : All2 w [Rt q0,Rt q1] [ρ x0,ρ x1] := h
 refine ⟨.slice (some ⟨w.heap.size,0,none⟩) 2 2,w.alloc (.cells [ρ x0,ρ x1].toArray 28),?_,Qg _ _,w.heap.size,_,rfl,Blk.new _ _ _,h'.st (Grows.of (Qg _ _))⟩
 obtain ⟨g0,e0,_⟩ := h'.1
 obtain ⟨g1,e1,_⟩ := h'.2.1
 clear h h'
 simp [go_sem,e0,e1]
theorem ES (G : Nat) (w : World) : (Instr.fieldAt 68 (.pointer (some ⟨G,0,none⟩)) 0).run Tryz.prog w=.ok (.pointer (some ⟨G,0,none⟩)) w := by
 simp [go_sem]
theorem Nh (G : Nat) (w : World) : (Instr.fieldAt 68 (.pointer (some ⟨G,0,none⟩)) 1).run Tryz.prog w=.ok (.pointer (some ⟨G,3,none⟩)) w := by
 simp [go_sem]
theorem LS {x y : Rat} : Vv Tryz.prog 63 0 (Wv x y) (Qv x) := fun w G cs t hk h => by
 obtain ⟨c,d,e,h1,h2⟩ := h
 have ecs : cs.toArray=_ := Value.agg.inj e
 rw [ecs] at hk
 have k0 := hk.cell 0
 have k1 := hk.cell 1
 have k2 := hk.cell 2
 refine ⟨_,?_,h1⟩
 simp only [List.getElem?_toArray,List.getElem?_cons_zero,List.getElem?_cons_succ] at k0 k1 k2
 clear hk h1 h2
 simp [go_sem,k0,k1,k2]
theorem Hz {x y : Rat} : Vv Tryz.prog 63 3 (Wv x y) (Qv y) := fun w G cs t hk h => by
 obtain ⟨c,d,e,h1,h2⟩ := h
 have ecs : cs.toArray=_ := Value.agg.inj e
 rw [ecs] at hk
 have k0 := hk.cell 3
 have k1 := hk.cell 4
 have k2 := hk.cell 5
 refine ⟨_,?_,h2⟩
 simp only [List.getElem?_toArray,List.getElem?_cons_zero,List.getElem?_cons_succ] at k0 k1 k2
 clear hk h1 h2
 simp [go_sem,k0,k1,k2]
theorem Nq {w : World} {S : Soft} {vs : List Value} (h : AW w [S] vs) : ∃ v,vs=[v]∧S.on v w := by
 match vs,h with
 | [v],h => exact ⟨v,rfl,h.1⟩
theorem Ak {w : World} {v : Value} {qs : List Rat} (h : (Nn 28 qs.length (qs.map Rt)).on v w) : Ea w v qs := by
 obtain ⟨G,cs,rfl,hk,hall⟩ := h
 refine ⟨G,0,qs.length,rfl,hk.lt,fun j hj => ?_⟩
 obtain ⟨p,hp,hF⟩ := hall.get (k := j) (F := Rt qs[j]) (by simp [hj])
 exact ⟨p,by rw [Nat.zero_add,hk.cell j]; simpa using hp,hF⟩
theorem Uq (vs : Array Value) (w : World) : (callFunc 28 vs).run Tryz.prog w=.ok (.enter 28 vs) w := ZG Tryz.func28 (by kernel_rfl) (by kernel_rfl) vs w
theorem Gj (vs : Array Value) (w : World) : (callFunc 47 vs).run Tryz.prog w=.ok (.enter 47 vs) w := ZG Tryz.func47 (by kernel_rfl) (by kernel_rfl) vs w
theorem Gt (vs : Array Value) (w : World) : (callFunc 32 vs).run Tryz.prog w=.ok (.enter 32 vs) w := ZG Tryz.func32 (by kernel_rfl) (by kernel_rfl) vs w
theorem Yk (vs : Array Value) (w : World) : (callFunc 7 vs).run Tryz.prog w=.ok (.enter 7 vs) w := ZG Tryz.func7 (by kernel_rfl) (by kernel_rfl) vs w
theorem YX (vs : Array Value) (w : World) : (callFunc 10 vs).run Tryz.prog w=.ok (.enter 10 vs) w := ZG Tryz.func10 (by kernel_rfl) (by kernel_rfl) vs w
theorem RY (vs : Array Value) (w : World) : (callFunc 11 vs).run Tryz.prog w=.ok (.enter 11 vs) w := ZG Tryz.func11 (by kernel_rfl) (by kernel_rfl) vs w
theorem Vc (vs : Array Value) (w : World) : (callFunc 9 vs).run Tryz.prog w=.ok (.enter 9 vs) w := ZG Tryz.func9 (by kernel_rfl) (by kernel_rfl) vs w
theorem Tf {z : Int} (h1 : -9223372036854775808 < z) (h2 : z < 9223372036854775808) : Con Tryz.prog QT 28 [In z] (Qv (z : Rat)) := fun w vs _ h => by
 obtain ⟨v0,rfl,h0⟩ := VY h
 cases h0
 exact (Ov z h1 h2 w).mono fun e w' ⟨hb,v,e1,h⟩ => ⟨hb,v,e1,h⟩
theorem NL {x y : Rat} {k l : Nat} (fx : QS k x) (fy : QS l y) (hk : k+l+1≤35184372088640) : Con Tryz.prog QT 47 [Qv x,Qv y] (Qv (x / y)) := fun w vs _ h => by
 obtain ⟨p,q,rfl,h0,h1⟩ := Wb h
 exact (Rw h0 h1 fx fy hk).mono fun e w' ⟨hb,v,e1,h⟩ => ⟨hb,v,e1,h⟩
theorem Hc {x : Rat} {k : Nat} (fx : QS k x) (hk : k≤35184372088640) : Con Tryz.prog QT 32 [Qv x] (Tt x) := fun w vs hp h => by
 obtain ⟨v0,rfl,h0⟩ := VY h
 exact (KO h0 fx hk hp.1).mono fun e w' ⟨hb,s,e1,h⟩ => ⟨hb,_,e1,s,rfl,h⟩
theorem LB {x : Rat} (n : Nat) (hn : n < 9223372036854775808) (e : x=(n : Rat)) : Con Tryz.prog QT 7 [In (n : Int)] (Rt x) := fun w vs hp hall => by
 obtain ⟨v0,rfl,h1⟩ := VY hall
 cases h1
 refine (Ou n hn w).mono ?_
 rintro _ w' ⟨hb,g,rfl,_,hv⟩
 exact ⟨hb,_,rfl,g,rfl,by rw [e]; exact hv⟩
theorem Mx {x y z : Rat} {k l : Nat} (e : z=x / y) (fx : QS k x) (fy : QS l y) (h : k+l+1≤35184372088640) (hy : 0 < y) : Con Tryz.prog QT 10 [Rt x,Rt y] (Rt z) := fun w vs hp hall => by
 obtain ⟨v0,v1,rfl,h1,h2⟩ := Wb hall
 have hn : 0 < y.num := by
  have := (Rat.lt_iff 0 y).1 hy
  simpa using this
 refine (Oz h1 h2 fx fy h (n := y.num.toNat) (by omega) (by omega)).mono ?_
 rintro _ w' ⟨hb,v,rfl,hv⟩
 exact ⟨hb,v,rfl,by rw [e]; exact hv⟩
theorem con_T {x : Rat} {k : Nat} (fx : QS k x) (h : k≤35184372088640) : Con Tryz.prog QT 11 [Rt x] (Tt x) := fun w vs hp hall => by
 obtain ⟨v0,rfl,h1⟩ := VY hall
 obtain ⟨g,rfl,h1⟩ := h1
 refine (TU h1 fx h).mono ?_
 rintro _ w' ⟨hb,rfl⟩
 exact ⟨hb,_,rfl,_,rfl,by simp⟩
theorem FW {q0 q1 z : Rat} {k : Nat} (e : z=q0+q1) (fq0 : QS k q0) (fq1 : QS k q1) (hk : 2*(k+1)+1≤35184372088640) : ConS Tryz.prog QT 9 [Nn 28 2 [Rt q0,Rt q1]] (Rt z) := fun w vs hp hall => by
 obtain ⟨v0,rfl,h1⟩ := Nq hall
 refine (Ie (Ak (qs := [q0,q1]) h1) (K := k) (by simp [fq0,fq1]) (by simp) (by simpa using hk)).mono ?_
 rintro _ w' ⟨hb,v,rfl,hv⟩
 refine ⟨hb,v,rfl,?_⟩
 rw [e]
 have : rsum [q0,q1]=q0+q1 := by simp [rsum,Rat.zero_add]
 rw [← this]
 exact hv
theorem EU {x y : Rat} (x0 x1 : Operand) (w : World) (ρ : Operand→Value) (h : All2 w [Qv x,Qv y] (((#[(0,x0),(1,x1)] : Array (Nat × Operand)).toList.map (·.2)).map ρ)) : ∃ v,(Instr.build 68 ((#[(0,x0),(1,x1)] : Array (Nat × Operand)).map fun (i,x) => (i,ρ x))).run Tryz.prog w=.ok v w∧(Wv x y).on v w := by
 have h' : All2 w [Qv x,Qv y] [ρ x0,ρ x1] := h
 obtain ⟨c,e0⟩ := JF h'.1
 obtain ⟨d,e1⟩ := JF h'.2.1
 refine ⟨.agg #[.bool c.n,.slice c.u c.nu c.cu,.slice c.l c.nl c.cl,.bool d.n,.slice d.u d.nu d.cu,.slice d.l d.nl d.cl],?_,c,d,rfl,e0 ▸ h'.1,e1 ▸ h'.2.1⟩
 clear h h'
 simp [go_sem,e0,e1]
theorem AS.retTT {P : Program} {fn : Func} {R : Ending→World→Prop} {w0 : World} {n : Nat} {tm : List (Nat × Fact)} {bx : List (Nat × TypeId × Fact)} {a : Act} {w : World} (h : AS w0 n tm bx a w) (k k2 : Nat) {t t2 : Tmp} {F F2 : Fact} (hr : fn.results=#[.tmp t,.tmp t2]) (hk : tm[k]? = some (t,F)) (hk2 : tm[k2]? = some (t2,F2)) (hR : ∀ v v2,F.on v w→F2.on v2 w→R (.returned (.tuple #[v,v2])) w) : bodyPost P fn R .ret a w :=
 ⟨h.nod,.tuple #[a.tmps.getD t undef,a.tmps.getD t2 undef],by unfold results; rw [hr]; simp [go_sem],hR _ _ (h.tmp t F (List.mem_of_getElem? hk)) (h.tmp t2 F2 (List.mem_of_getElem? hk2))⟩
end Go.Proofs.YthhnabccdehmgaaGreatDoor
/- VV -/
namespace Go.Proofs.YthhnabccdehmgaaGreatDoor
open Go.RowKit Cx
def prS : List (FuncId × Nat) := [(45,0),(32,1),(73,2),(124,3),(48,4),(47,5),(161,6),(77,7),(28,8),(162,9),(125,12),(129,13),(46,14),(123,15),(13,20),(11,21),(7,22),(9,24),(14,25),(112,26),(10,27),(20,29),(25,34)]
def Closed (f : FuncId) : Prop := ∀ w,QT w→Calls Tryz.prog f #[] w fun e w' => Below w.heap.size w w'∧e=.returned (.bool true)
def prC (cl : List FuncId) : List (FuncId × Nat) := prS ++ cl.map fun f => (f,40)
theorem Wn {f c : Nat} : ∀ {l : List (FuncId × Nat)},OJ f l=some c→(f,c) ∈ l
 | [],h => by cases h
 | (g,d) :: l,h => by
  unfold OJ at h
  cases e : Nat.beq f g with
  | true =>
   rw [e] at h
   cases h
   rw [Nat.beq_eq] at e
   rw [e]
   exact List.mem_cons_self
  | false =>
   rw [e] at h
   exact List.mem_cons_of_mem _ (Wn h)
theorem PA (a b : ByteArray) : a.toList=b.toList ↔ a=b := by
 constructor
 ·intro h
  rw [Go.ByteArray.toList_eq,Go.ByteArray.toList_eq] at h
  exact ByteArray.ext (Array.ext' h)
 ·intro h
  rw [h]
section
variable {N : List Nd} {H : List (Nat × Nat × Nat × Nat)} {K : List (FuncId × List AC)} {L C : List (List Nat × Nat)} {Z : List Nat} {q : Nat→Rat} {σ : Nat→ByteArray} {w0 : World} {cl : List FuncId}
theorem prim_40 {pr : List (FuncId × Nat)} {f : FuncId} (hp : QT w0) (hf : Closed f) : Zv N H K L C Z pr q σ w0 40 f := by
 refine QZ (fun _ _ _ => rfl) fun args v hv γ w vs hi hA => ?_
 have hpre : QT w := ⟨hp.1.below hi.bel,hp.2.below hi.bel⟩
 unfold arg0 at hv
 split at hv
 ·cases hv
  match vs,hA with
  | [],_ =>
   refine (hf w hpre).mono ?_
   rintro _ w' ⟨hb,rfl⟩
   exact ⟨hb,_,rfl,Zg ⟨rfl,rfl⟩⟩
 ·cases hv
theorem primMem (Y : Hy N H L C Z q σ) (hp : QT w0) (hc : ∀ f ∈ cl,Closed f) {pr : List (FuncId × Nat)} {f c : Nat} (hm : (f,c) ∈ prC cl) : Zv N H K L C Z pr q σ w0 c f := by
 rcases List.mem_append.1 hm with hm | hm
 ·simp only [prS,List.mem_cons,List.not_mem_nil,or_false,Prod.mk.injEq] at hm
  rcases hm with ⟨rfl,rfl⟩ | ⟨rfl,rfl⟩ | ⟨rfl,rfl⟩ | ⟨rfl,rfl⟩ | ⟨rfl,rfl⟩ | ⟨rfl,rfl⟩ | ⟨rfl,rfl⟩ | ⟨rfl,rfl⟩ | ⟨rfl,rfl⟩ | ⟨rfl,rfl⟩ | ⟨rfl,rfl⟩ | ⟨rfl,rfl⟩ | ⟨rfl,rfl⟩ | ⟨rfl,rfl⟩ | ⟨rfl,rfl⟩ | ⟨rfl,rfl⟩ | ⟨rfl,rfl⟩ | ⟨rfl,rfl⟩ | ⟨rfl,rfl⟩ | ⟨rfl,rfl⟩ | ⟨rfl,rfl⟩ | ⟨rfl,rfl⟩ | ⟨rfl,rfl⟩
  ·exact prim_0 Y hp
  ·exact prim_1 Y hp
  ·exact prim_2 Y hp
  ·exact prim_3 Y hp
  ·exact prim_4 Y hp
  ·exact prim_5 Y hp
  ·exact prim_6 Y hp
  ·exact prim_7 Y hp
  ·exact prim_8 Y hp
  ·exact prim_9 Y hp
  ·exact prim_12 Y hp
  ·exact prim_13 Y hp
  ·exact prim_14 Y hp
  ·exact Aj Y hp
  ·exact prim_20 Y hp
  ·exact prim_21 Y hp
  ·exact Ay Y hp
  ·exact prim_24 Y hp
  ·exact AA Y hp
  ·exact prim_26 Y hp
  ·exact Ar Y hp
  ·exact prim_29 Y hp
  ·exact prim_34 Y hp
 ·obtain ⟨g,hg,e⟩ := List.mem_map.1 hm
  cases e
  exact prim_40 hp (hc _ hg)
theorem AQ : hdB (prC cl)=false := by
 show List.any (_ ++ _) _=false
 rw [List.any_append,List.any_map]
 have h1 : (prS.any fun x => Nat.beq x.2 99)=false := by decide
 have h2 : cl.any ((fun x : FuncId × Nat => Nat.beq x.2 99) ∘ fun f => (f,40))=false := by simp
 rw [h1,h2]
 rfl
theorem primOk (Y : Hy N H L C Z q σ) (hp : QT w0) (hc : ∀ f ∈ cl,Closed f) : Oq (sx Tryz.prog N H K L C Z (prC cl)) (evS q σ) w0 := ⟨fun h => absurd h (by rw [AQ]; decide),fun _ _ h => primMem Y hp hc (Wn h)⟩
theorem Sj (a0 a1 b0 b1 : ByteArray) (x y : Operand) (w : World) : (do eqGuard .eql 41 x y (.agg #[.string a0,.string a1]) (.agg #[.string b0,.string b1]); binOp .eql 41 (.agg #[.string a0,.string a1]) (.agg #[.string b0,.string b1]) : Sem Value).run Tryz.prog w=.ok (.bool (decide ([a0,a1]=[b0,b1]))) w := by
 simp [go_sem,PA]
 (repeat' split) <;> simp_all
theorem Ba (a0 a1 b0 b1 : ByteArray) (x y : Operand) (w : World) : (do eqGuard .neq 41 x y (.agg #[.string a0,.string a1]) (.agg #[.string b0,.string b1]); binOp .neq 41 (.agg #[.string a0,.string a1]) (.agg #[.string b0,.string b1]) : Sem Value).run Tryz.prog w=.ok (.bool ((!decide ([a0,a1]=[b0,b1])))) w := by
 simp [go_sem,PA]
 (repeat' split) <;> simp_all
theorem Bm (a0 a1 a2 b0 b1 b2 : ByteArray) (x y : Operand) (w : World) : (do eqGuard .eql 43 x y (.agg #[.string a0,.string a1,.string a2]) (.agg #[.string b0,.string b1,.string b2]); binOp .eql 43 (.agg #[.string a0,.string a1,.string a2]) (.agg #[.string b0,.string b1,.string b2]) : Sem Value).run Tryz.prog w=.ok (.bool (decide ([a0,a1,a2]=[b0,b1,b2]))) w := by
 simp [go_sem,PA]
 (repeat' split) <;> simp_all
theorem Fq (a0 a1 a2 b0 b1 b2 : ByteArray) (x y : Operand) (w : World) : (do eqGuard .neq 43 x y (.agg #[.string a0,.string a1,.string a2]) (.agg #[.string b0,.string b1,.string b2]); binOp .neq 43 (.agg #[.string a0,.string a1,.string a2]) (.agg #[.string b0,.string b1,.string b2]) : Sem Value).run Tryz.prog w=.ok (.bool ((!decide ([a0,a1,a2]=[b0,b1,b2])))) w := by
 simp [go_sem,PA]
 (repeat' split) <;> simp_all
theorem knows (Y : Hy N H L C Z q σ) {pr : List (FuncId × Nat)} : Knows (sx Tryz.prog N H K L C Z pr) (evS q σ) where
 k0 := Y.k0
 k1 := Y.k1
 k2 := Y.k2
 k3 := Y.k3
 k4 := Y.k4
 k5 := Y.k5
 k7 := fun a b c h => Y.nd h
 k8 := fun a b c h => Y.nd h
 k9 := fun a b c h => Y.nd h
 k10 := fun a b i j n h => by
  rw [show (evS q σ).q n=YP σ q (7,[a,b,i,j]) from Y.nd h]
  show (if Yn (q a)=σ i∧Yn (q b)=σ j then (0 : Rat) else 1)=0 ↔ _
  split
  ·rename_i hh
   exact iff_of_true rfl hh
  ·rename_i hh
   exact iff_of_false (by decide) hh
 z0 := fun t i ht hi => by
  have e : t=34 := Nat.eq_of_beq_eq_true ht
  subst e
  refine ⟨[.bool false,.slice none 0 0,.bool false,.slice none 0 0],by kernel_rfl,fun w => ?_⟩
  show PR _ _ (q i)
  rw [Y.zero i hi]
  exact ⟨_,rfl,RV.nought w⟩
 x4 := fun _ _ _ => Iff.rfl
 x5 := fun _ _ _ h => h
 x6 := fun _ _ _ h => h
 x7 := fun _ _ _ => Iff.rfl
 xp := fun _ _ _ ⟨_,e,_⟩ => ⟨_,e⟩
 c0 := fun _ _ h => UH Y h
 tne := NW
 tin := fun _ _ h => Pc h
 eqs := fun t n ht hn a b ha hb x y w => by
  have hm : (t,n) ∈ eqS := Wn ht
  simp only [eqS,List.mem_cons,List.not_mem_nil,or_false,Prod.mk.injEq] at hm
  rcases hm with ⟨rfl,rfl⟩ | ⟨rfl,rfl⟩
  ·match a,ha,b,hb with
   | [a0,a1],_,[b0,b1],_ => exact ⟨Sj a0 a1 b0 b1 x y w,Ba a0 a1 b0 b1 x y w⟩
  ·match a,ha,b,hb with
   | [a0,a1,a2],_,[b0,b1,b2],_ => exact ⟨Bm a0 a1 a2 b0 b1 b2 x y w,Fq a0 a1 a2 b0 b1 b2 x y w⟩
 eqz := fun t n ht l m hl hm x y w => by
  have hh : (t,n+1000) ∈ eqS := Wn ht
  simp only [eqS,List.mem_cons,List.not_mem_nil,or_false,Prod.mk.injEq] at hh
  rcases hh with ⟨et,hn⟩ | ⟨et,hn⟩
  ·omega
  ·omega
def wfN (k : Nat) (nd : Nd) : Bool := match nd.1,nd.2 with
 | 0,_ => true
 | 1,_ => true
 | 8,_ :: xs => xs.all (Nat.blt · k)
 | _,xs => xs.all (Nat.blt · k)
def wfB : Nat→List Nd→Bool
 | _,[] => true
 | k,nd :: ns => wfN k nd && wfB (k+1) ns
theorem Cc {k : Nat} {nd : Nd} {p p' : Nat→Rat} (hw : wfN k nd=true) (h : ∀ a,a < k→p a=p' a) : YP σ p nd=YP σ p' nd := by
 obtain ⟨op,xs⟩ := nd
 have key : xs.all (Nat.blt · k)=true→∀ x ∈ xs,p x=p' x := fun hx x hm => h x (by
  rw [List.all_eq_true] at hx
  simpa [Nat.blt_eq] using hx x hm)
 unfold YP
 unfold wfN at hw
 dsimp only at hw ⊢
 split
 ·rfl
 ·rfl
 ·have := key hw; rw [this _ (by simp),this _ (by simp)]
 ·have := key hw; rw [this _ (by simp),this _ (by simp)]
 ·have := key hw; rw [this _ (by simp),this _ (by simp)]
 ·have := key hw; rw [this _ (by simp)]
 ·have := key hw; rw [this _ (by simp),this _ (by simp)]
 ·have := key hw; rw [this _ (by simp),this _ (by simp)]
 ·rename_i i ys
  have hw' : ys.all (Nat.blt · k)=true := hw
  have hm : ys.map p=ys.map p' := List.map_congr_left fun x hx => h x (by
   rw [List.all_eq_true] at hw'
   simpa [Nat.blt_eq] using hw' x hx)
  rw [hm]
 ·have := key hw; rw [this _ (by simp)]
 ·have := key hw; rw [this _ (by simp)]
 ·have := key hw; rw [this _ (by simp),this _ (by simp)]
 ·rfl
theorem MN : ∀ {ns : List Nd} {k i : Nat} {nd : Nd},wfB k ns=true→ns[i]? = some nd→wfN (k+i) nd=true
 | [],_,_,_,_,h => by simp at h
 | n :: ns,k,0,nd,hw,h => by
  have : n=nd := by simpa using h
  subst this
  unfold wfB at hw
  rw [Bool.and_eq_true] at hw
  exact hw.1
 | n :: ns,k,i+1,nd,hw,h => by
  unfold wfB at hw
  rw [Bool.and_eq_true] at hw
  have := MN hw.2 (i := i) (nd := nd) (by simpa using h)
  rwa [show k+1+i=k+(i+1) by omega] at this
def Li : List Nat→Nat
 | [] => 0
 | a :: l => Nat.max a (Li l)
def MM (Z : List Nat) : List Nat→Option (List Nat)
 | [] => some []
 | a :: l => Z[a]?.bind fun z => (MM Z l).map fun zs => z :: zs
def szN (Z : List Nat) (z : Nat) (nd : Nd) : Bool := match nd.1,nd.2 with
 | 0,[_,n,d] => Nat.blt n (2 ^ z) && (Nat.blt 0 d && Nat.blt d (2 ^ z))
 | 1,[_] => Nat.ble 4194309 z
 | 2,[a,b] => (match Z[a]?,Z[b]? with | some x,some y => Nat.ble (x+y+1) z | _,_ => false)
 | 3,[a,b] => (match Z[a]?,Z[b]? with | some x,some y => Nat.ble (x+y+1) z | _,_ => false)
 | 4,[a,b] => (match Z[a]?,Z[b]? with | some x,some y => Nat.ble (x+y) z | _,_ => false)
 | 5,[a] => (match Z[a]? with | some x => Nat.ble x z | _ => false)
 | 6,[a,b] => (match Z[a]?,Z[b]? with | some x,some y => Nat.ble (x+y) z | _,_ => false)
 | 8,i :: xs => (match MM Z xs with | some zs => Nat.blt i xs.length && Nat.ble ((xs.length+1)*Li zs+1) z | none => false)
 | 9,[a] => (match Z[a]? with | some x => Nat.ble x z | _ => false)
 | 10,[a] => (match Z[a]? with | some x => Nat.ble x z | _ => false)
 | 11,[a,b] => (match Z[a]?,Z[b]? with | some x,some y => Nat.ble (x+y) z | _,_ => false)
 | _,_ => false
def szB (Z : List Nat) : List Nd→List Nat→Bool
 | [],[] => true
 | nd :: ns,z :: zs => (szN Z z nd && Nat.ble z 1000000000000) && szB Z ns zs
 | _,_ => false
theorem DP {Z : List Nat} : ∀ {ns : List Nd} {zs : List Nat} {i z : Nat},szB Z ns zs=true→zs[i]? = some z→∃ nd,ns[i]? = some nd∧szN Z z nd=true∧z≤1000000000000
 | [],[],_,_,_,h => by simp at h
 | [],_ :: _,_,_,h,_ => by cases h
 | _ :: _,[],_,_,h,_ => by cases h
 | nd :: ns,z' :: zs,0,z,h,e => by
  have : z'=z := by simpa using e
  subst this
  unfold szB at h
  simp only [Bool.and_eq_true,Nat.ble_eq] at h
  exact ⟨nd,rfl,h.1.1,h.1.2⟩
 | nd :: ns,z' :: zs,i+1,z,h,e => by
  unfold szB at h
  rw [Bool.and_eq_true] at h
  simpa using DP h.2 (i := i) (z := z) (by simpa using e)
theorem MO {Z : List Nat} : ∀ {ns : List Nd} {zs : List Nat},szB Z ns zs=true→zs.length=ns.length
 | [],[],_ => rfl
 | [],_ :: _,h => by cases h
 | _ :: _,[],h => by cases h
 | nd :: ns,z' :: zs,h => by
  unfold szB at h
  rw [Bool.and_eq_true] at h
  rw [List.length_cons,List.length_cons,MO h.2]
theorem AY {l : List Nat} : ∀ x ∈ l,x≤Li l := by
 induction l with
 | nil => simp
 | cons a l ih =>
  intro x hx
  unfold Li
  rcases List.mem_cons.1 hx with rfl | hx
  ·exact Nat.le_max_left _ _
  ·exact Nat.le_trans (ih x hx) (Nat.le_max_right _ _)
theorem GJ {Z : List Nat} : ∀ {xs zs : List Nat},MM Z xs=some zs→∀ x ∈ xs,∃ z ∈ zs,Z[x]? = some z
 | [],zs,h,x,hx => by cases hx
 | a :: l,zs,h,x,hx => by
  unfold MM at h
  simp only [Option.bind_eq_some_iff,Option.map_eq_some_iff] at h
  obtain ⟨z,h1,ys,h2,rfl⟩ := h
  rcases List.mem_cons.1 hx with rfl | hx
  ·exact ⟨z,List.mem_cons_self,h1⟩
  ·obtain ⟨z',h3,h4⟩ := GJ h2 x hx
   exact ⟨z',List.mem_cons_of_mem _ h3,h4⟩
theorem QS.facN {Kz : Nat} {qs : List Rat} {x : Rat} (f : ∀ y ∈ qs,QS Kz y) (h : x ∈ qs) : QS ((qs.length+1)*Kz+1) (x*fac qs) := by
 have hk : 0 < Kz := (f x h).pos
 have hd := AF h
 have ha := AR h
 constructor
 ·rw [ha]
  have h1 : x.num.natAbs / gN qs≤x.num.natAbs := Nat.div_le_self _ _
  have h2 : lD qs / x.den≤lD qs := Nat.div_le_self _ _
  have h3 := (f x h).num
  have h4 := lD_le f qs.length
  rw [List.take_length] at h4
  have h5 : x.num.natAbs / gN qs*(lD qs / x.den)≤x.num.natAbs*2 ^ (qs.length*Kz) := Nat.mul_le_mul h1 (Nat.le_trans h2 h4)
  have h6 : x.num.natAbs*2 ^ (qs.length*Kz) < 2 ^ Kz*2 ^ (qs.length*Kz) := Nat.mul_lt_mul_of_pos_right h3 (Nat.pow_pos (by decide))
  have h7 : 2 ^ Kz*2 ^ (qs.length*Kz)=2 ^ ((qs.length+1)*Kz) := by rw [← Nat.pow_add]; congr 1; rw [Nat.succ_mul]; omega
  have h8 : 2 ^ ((qs.length+1)*Kz)≤2 ^ ((qs.length+1)*Kz+1) := Nat.pow_le_pow_right (by decide) (Nat.le_succ _)
  omega
 ·rw [hd]
  exact Nat.one_lt_two_pow (by omega)
theorem QS.const {s n d z : Nat} (h1 : n < 2 ^ z) (h0 : 0 < d) (h2 : d < 2 ^ z) : QS z (if s=0 then mkRat (n : Int) d else mkRat (-(n : Int)) d) := by
 have key : ∀ m : Int,m.natAbs=n→QS z (mkRat m d) := fun m hm => by
  constructor
  ·rw [Rat.num_mkRat]
   refine Nat.lt_of_le_of_lt ?_ h1
   rw [← hm]
   have := Int.natAbs_ediv_le_natAbs m (d.gcd m.natAbs)
   rw [if_neg (by omega)]
   first | exact this | (rw [Nat.gcd_comm] at this; exact this)
  ·rw [Rat.den_mkRat]
   rw [if_neg (by omega)]
   exact Nat.lt_of_le_of_lt (Nat.div_le_self _ _) h2
 split
 ·exact key _ (by simp)
 ·exact key _ (by simp)
theorem QS.whole {k : Nat} {z : Int} (h0 : 0 < k) (h : z.natAbs < 2 ^ k) : QS k (z : Rat) := ⟨by rw [Rat.num_intCast]; exact h,by rw [Rat.den_intCast]; exact Nat.one_lt_two_pow (by omega)⟩
theorem QS.up {k : Nat} {x : Rat} (h : QS k x) : QS k (x.num : Rat) := QS.whole h.pos h.num
theorem QS.low {k : Nat} {x : Rat} (h : QS k x) : QS k ((x.den : Int) : Rat) := QS.whole h.pos (by rw [Int.natAbs_natCast]; exact h.den)
theorem QS.fl {k : Nat} {x : Rat} (h : QS k x) : QS k ((flq x : Int) : Rat) := QS.whole h.pos (Nat.lt_of_le_of_lt (Int.natAbs_ediv_le_natAbs _ _) h.num)
theorem Be {σ : Nat→ByteArray} (hσ : ∀ j,(σ j).size≤1048576) (hw : wfB 0 N=true) (hz : szB Z N Z=true) (hq : ∀ (a : Nat) nd,N[a]? = some nd→q a=YP σ q nd) (h0 : ∀ a,N.length≤a→q a=0) : (∀ (a : Nat) z,Z[a]? = some z→QS z (q a))∧∀ a,QS 1000000000000 (q a) := by
 have h1 : ∀ (a : Nat) z,Z[a]? = some z→QS z (q a) := by
  intro a
  induction a using Nat.strongRecOn with
  | ind a ih =>
   intro z hz'
   obtain ⟨nd,hn,hs,_⟩ := DP hz hz'
   have hwf := MN hw hn
   rw [Nat.zero_add] at hwf
   rw [hq a nd hn]
   obtain ⟨op,xs⟩ := nd
   unfold szN at hs
   unfold YP
   unfold wfN at hwf
   dsimp only at hs hwf ⊢
   split at hs
   ·simp only [Bool.and_eq_true] at hs
    exact QS.const (by simpa [Nat.blt_eq] using hs.1) (by simpa [Nat.blt_eq] using hs.2.1) (by simpa [Nat.blt_eq] using hs.2.2)
   ·rw [Nat.ble_eq] at hs
    rename_i j
    exact QS.mono (QS.rd _) (by have := hσ j; rw [AH]; omega)
   ·simp only [List.all_cons,List.all_nil,Bool.and_true,Bool.and_eq_true] at hwf
    split at hs
    ·rename_i x y hx hy
     rw [Nat.ble_eq] at hs
     exact ((ih _ (by simpa [Nat.blt_eq] using hwf.1) x hx).add (ih _ (by simpa [Nat.blt_eq] using hwf.2) y hy)).mono hs
    ·cases hs
   ·simp only [List.all_cons,List.all_nil,Bool.and_true,Bool.and_eq_true] at hwf
    split at hs
    ·rename_i x y hx hy
     rw [Nat.ble_eq] at hs
     exact ((ih _ (by simpa [Nat.blt_eq] using hwf.1) x hx).sub (ih _ (by simpa [Nat.blt_eq] using hwf.2) y hy)).mono hs
    ·cases hs
   ·simp only [List.all_cons,List.all_nil,Bool.and_true,Bool.and_eq_true] at hwf
    split at hs
    ·rename_i x y hx hy
     rw [Nat.ble_eq] at hs
     exact ((ih _ (by simpa [Nat.blt_eq] using hwf.1) x hx).mul (ih _ (by simpa [Nat.blt_eq] using hwf.2) y hy)).mono hs
    ·cases hs
   ·simp only [List.all_cons,List.all_nil,Bool.and_true] at hwf
    split at hs
    ·rename_i x hx
     rw [Nat.ble_eq] at hs
     exact ((ih _ (by simpa [Nat.blt_eq] using hwf) x hx).neg).mono hs
    ·cases hs
   ·simp only [List.all_cons,List.all_nil,Bool.and_true,Bool.and_eq_true] at hwf
    split at hs
    ·rename_i x y hx hy
     rw [Nat.ble_eq] at hs
     exact ((ih _ (by simpa [Nat.blt_eq] using hwf.1) x hx).div (ih _ (by simpa [Nat.blt_eq] using hwf.2) y hy)).mono hs
    ·cases hs
   ·rename_i i ys
    split at hs
    ·rename_i zs hzs
     simp only [Bool.and_eq_true,Nat.ble_eq] at hs
     have hi : i < ys.length := by simpa [Nat.blt_eq] using hs.1
     have hall : ∀ y ∈ ys.map q,QS (Li zs) y := fun y hy => by
      obtain ⟨b,hb,rfl⟩ := List.mem_map.1 hy
      obtain ⟨z',hm,hz2⟩ := GJ hzs b hb
      have hwf' : ys.all (Nat.blt · a)=true := hwf
      rw [List.all_eq_true] at hwf'
      exact (ih b (by simpa [Nat.blt_eq] using hwf' b hb) z' hz2).mono (AY z' hm)
     show QS z ((ys.map q).getD i 0*fac (ys.map q))
     rw [List.getD_eq_getElem?_getD,List.getElem?_map,List.getElem?_eq_getElem hi]
     have := QS.facN hall (x := q ys[i]) (List.mem_map_of_mem (List.getElem_mem hi))
     rw [List.length_map] at this
     exact this.mono hs.2
    ·cases hs
   ·simp only [List.all_cons,List.all_nil,Bool.and_true] at hwf
    split at hs
    ·rename_i x hx
     rw [Nat.ble_eq] at hs
     exact ((ih _ (by simpa [Nat.blt_eq] using hwf) x hx).up).mono hs
    ·cases hs
   ·simp only [List.all_cons,List.all_nil,Bool.and_true] at hwf
    split at hs
    ·rename_i x hx
     rw [Nat.ble_eq] at hs
     exact ((ih _ (by simpa [Nat.blt_eq] using hwf) x hx).low).mono hs
    ·cases hs
   ·simp only [List.all_cons,List.all_nil,Bool.and_true,Bool.and_eq_true] at hwf
    split at hs
    ·rename_i x y hx hy
     rw [Nat.ble_eq] at hs
     exact (((ih _ (by simpa [Nat.blt_eq] using hwf.1) x hx).div (ih _ (by simpa [Nat.blt_eq] using hwf.2) y hy)).fl).mono hs
    ·cases hs
   ·cases hs
 refine ⟨h1,fun a => ?_⟩
 have hl := MO hz
 by_cases ha : a < Z.length
 ·obtain ⟨nd,_,_,hle⟩ := DP hz (List.getElem?_eq_getElem ha)
  exact (h1 a _ (List.getElem?_eq_getElem ha)).mono hle
 ·rw [h0 a (by omega)]
  exact QS.zero.mono (by decide)
def hAt (q : Nat→Rat) : Nat × Nat × Nat × Nat→Prop
 | (k,a,b,r) => match k with
  | 0 => Nat.beq 1 r=true ↔ q a=0
  | 1 => Nat.beq 1 r=true ↔ q a < 0
  | 2 => Nat.beq 1 r=true ↔ 0 < q a
  | 3 => Nat.beq 1 r=true ↔ q a=q b
  | 4 => Nat.beq 1 r=true ↔ q a=q b
  | 6 => Nat.beq 1 r=true ↔ (q a=0∧q b=0)
  | 5 => (r=0→q a < 0)∧(r=1→q a=0)∧(r=2→0 < q a)
  | _ => False
def AU (q : Nat→Rat) : List (Nat × Nat × Nat × Nat)→Prop
 | [] => True
 | x :: l => hAt q x∧AU q l
theorem RM {k a b r : Nat} : ∀ {H : List (Nat × Nat × Nat × Nat)},AU q H→YL k a b H=some r→hAt q (k,a,b,r)
 | [],_,h => by cases h
 | (k',a',b',r') :: H,hH,h => by
  unfold YL at h
  cases e : (Nat.beq k k' && (Nat.beq a a' && Nat.beq b b')) with
  | true =>
   rw [e] at h
   cases h
   simp only [Bool.and_eq_true,Nat.beq_eq] at e
   rw [e.1,e.2.1,e.2.2]
   exact hH.1
  | false =>
   rw [e] at h
   exact RM hH.2 h
def cst (s n d : Nat) : Rat := if s=0 then mkRat (n : Int) d else mkRat (-(n : Int)) d
def litB (N : List Nd) (L : List (List Nat × Nat)) : Bool := L.all fun x => match N[x.2]? with
 | some (0,[s,n,d]) => decide (rd (x.1.map UInt8.ofNat)=cst s n d) && (Nat.ble x.1.length 4294967280 && x.1.all (Nat.blt · 256))
 | _ => false
def canB (N : List Nd) (L : List (List Nat × Nat)) : Bool := L.all fun x => match N[x.2]? with
 | some (0,[s,n,d]) => Is ((tx (cst s n d)).map UInt8.toNat) x.1
 | _ => false
theorem Wg {l : List Nat} {b : Nat} : ∀ {L : List (List Nat × Nat)},XR l L=some b→(l,b) ∈ L
 | [],h => by cases h
 | (m,i) :: L,h => by
  unfold XR at h
  cases e : Is l m with
  | true =>
   rw [e] at h
   cases h
   rw [Wt e]
   exact List.mem_cons_self
  | false =>
   rw [e] at h
   exact List.mem_cons_of_mem _ (Wg h)
theorem lit_rd (hl : litB N L=true) (hq : ∀ (a : Nat) nd,N[a]? = some nd→q a=YP σ q nd) {s : ByteArray} {b : Nat} (h : XR (Jg s) L=some b) : q b=rd s.data.toList∧s.size≤4294967280 := by
 unfold litB at hl
 rw [List.all_eq_true] at hl
 have := hl _ (Wg h)
 dsimp only at this
 split at this
 ·rename_i s' n d hn
  rw [Bool.and_eq_true,decide_eq_true_eq,Bool.and_eq_true,Nat.ble_eq] at this
  obtain ⟨h1,h2,_⟩ := this
  have e : (Jg s).map UInt8.ofNat=s.data.toList := by
   unfold Jg
   rw [List.map_map]
   conv => rhs; rw [← List.map_id s.data.toList]
   apply List.map_congr_left
   intro x _
   simp
  constructor
  ·rw [hq b _ hn,← e,h1]
   rfl
  ·have : (Jg s).length=s.size := by
    unfold Jg
    rw [List.length_map]
    simp
   omega
 ·cases this
theorem can_tx (hl : canB N C=true) (hq : ∀ (a : Nat) nd,N[a]? = some nd→q a=YP σ q nd) {l : List Nat} {b : Nat} (h : XR l C=some b) : Jg (Yn (q b))=l := by
 unfold canB at hl
 rw [List.all_eq_true] at hl
 have := hl _ (Wg h)
 dsimp only at this
 split at this
 ·rename_i s n d hn
  rw [hq b _ hn]
  have e := Wt this
  unfold Jg Yn
  rw [List.toList_toArray]
  exact e
 ·cases this
theorem hy_of {H : List (Nat × Nat × Nat × Nat)} (hσ : ∀ j,(σ j).size≤1048576) (hw : wfB 0 N=true) (hz : szB Z N Z=true) (hl : litB N L=true) (hcn : canB N C=true) (hq : ∀ (a : Nat) nd,N[a]? = some nd→q a=YP σ q nd) (h0 : ∀ a,N.length≤a→q a=0) (hH : AU q H) : Hy N H L C Z q σ where
 nat := hq
 qs := (Be hσ hw hz hq h0).2
 zs := (Be hσ hw hz hq h0).1
 par := hσ
 lit := fun s b h => lit_rd hl hq h
 k0 := fun a r h => RM hH h
 k1 := fun a r h => RM hH h
 k2 := fun a r h => RM hH h
 k3 := fun a b r h => RM hH h
 k4 := fun l a b r h1 h2 => by
  have h3 : Nat.beq 1 r=true ↔ q a=q b := RM hH h2
  rw [h3,← can_tx hcn hq h1]
  exact ⟨fun e => by rw [e],fun e => Pc (Ot e)⟩
 k6 := fun a b r h => RM hH h
 k5 := fun a r h => RM hH h
theorem Nu {f : FuncId} {args : List AV} {vs : List Value} {k : Nat} {p : List HB × Nat} {b : Bool} (Y : Hy N H L C Z q σ) (hc : ∀ f ∈ cl,Closed f) (hm : (Tryz.prog).follows .mixedOrders=true) (hr : GN (sx Tryz.prog N H K L C Z (prC cl)) k f args [] 0=some (kB b,p)) {w : World} (hp : QT w)
  (hA : A2 (avOn (cOn (evS q σ) K (fun _ => none) w)) args vs) : Calls Tryz.prog f vs.toArray w fun e w' => Below w.heap.size w w'∧e=.returned (.bool b) := by
 refine (Fb (S := sx Tryz.prog N H K L C Z (prC cl)) (E := evS q σ) (w0 := w) hm (knows Y) (primOk Y hp hc) k f args [] 0 (kB b,p) hr (fun _ => none) w vs ⟨Below.refl _ _,(fun _ _ h => by cases h)⟩ hA (fun x hx => by cases hx) (fun x hx => by cases hx) (fun _ _ _ => rfl)).mono ?_
 rintro _ w' ⟨r,γ',rfl,hef,hv,_⟩
 exact ⟨hef.wi.bel,by rw [show r=.bool b from (Za (v := kB b) (c := .inl (.bool b)) rfl hv).1]⟩
end
end Go.Proofs.YthhnabccdehmgaaGreatDoor
/- GST -/
namespace Go.Proofs.YthhnabccdehmgaaGreatDoor
open Go.RowKit Cx
theorem WO (vs : Array Value) (w : World) : (callFunc 70 vs).run Tryz.prog w=.ok (.enter 70 vs) w := ZG Tryz.func70 (by kernel_rfl) (by kernel_rfl) vs w
theorem KY (vs : Array Value) (w : World) : (callFunc 30 vs).run Tryz.prog w=.ok (.enter 30 vs) w := ZG Tryz.func30 (by kernel_rfl) (by kernel_rfl) vs w
theorem KQ (vs : Array Value) (w : World) : (callFunc 29 vs).run Tryz.prog w=.ok (.enter 29 vs) w := ZG Tryz.func29 (by kernel_rfl) (by kernel_rfl) vs w
theorem Vi (vs : Array Value) (w : World) : (callFunc 5 vs).run Tryz.prog w=.ok (.enter 5 vs) w := ZG Tryz.func5 (by kernel_rfl) (by kernel_rfl) vs w
theorem IR (vs : Array Value) (w : World) : (callFunc 71 vs).run Tryz.prog w=.ok (.enter 71 vs) w := ZG Tryz.func71 (by kernel_rfl) (by kernel_rfl) vs w
theorem Po {u l : Int} (hu1 : -9223372036854775808 < u) (hu2 : u < 9223372036854775808) (hl1 : -9223372036854775808 < l) (hl2 : l < 9223372036854775808) : Con Tryz.prog QT 70 [In u,In l] (Wv ((l : Int) : Rat) ((u : Int) : Rat)) := by
 refine Vn (n := 10) Tryz.func70 rfl rfl (Nat.le_of_ble_eq_true rfl) ?_
 intro w a0 hp S0
 have HPRE : ∀ w',Below w.heap.size w w'→QT w' := fun w' hb => Ji hp hb
 refine wp_seq ?_
 refine Qi [.alloc 68 (Any)] ⟨S0,by decide +kernel⟩ (by kernel_rfl) (by kernel_rfl) rfl (by kernel_rfl) ?_ ?_
 ·intro C
  refine ASteps.cons ?_ (ASteps.nil)
  ·exact ZQ [.bool false,.slice none 0 0,.slice none 0 0,.bool false,.slice none 0 0,.slice none 0 0] Oh rfl rfl (Qa rfl) rfl (Zh (by kernel_rfl)) YI (by simp [Qk]) (by kernel_rfl)
 intro γ a1 w1 Z1 S1
 replace S1 : AS w 10 [(4,Jus (.pointer (some ⟨γ 0,0,none⟩))),(0,In (u)),(1,In (l))] [(γ 0,68,Any)] a1 w1 := cast (by kernel_rfl) (S1.keep [0,1,4])
 generalize γ 0=G1_0 at S1
 clear S0
 refine Qe ?_
 refine wp_seq ?_
 refine Qi [.pure (In (l)),.pure (Qv (((l : Int) : Rat))),.pure (In (u)),.pure (Qv (((u : Int) : Rat))),.pure (Wv (((l : Int) : Rat)) (((u : Int) : Rat))),.over 0 (Wv (((l : Int) : Rat)) (((u : Int) : Rat)))] ⟨S1,by decide +kernel⟩ (by kernel_rfl) (by kernel_rfl) rfl (by kernel_rfl) ?_ ?_
 ·intro C
  refine ASteps.cons ?_ (ASteps.cons ?_ (ASteps.cons ?_ (ASteps.cons ?_ (ASteps.cons ?_ (ASteps.cons ?_ (ASteps.nil))))))
  ·exact Qj rfl rfl (Qa rfl) rfl (Qh C 2 (by kernel_rfl) rfl)
  ·exact Qm HPRE rfl rfl (Qa rfl) rfl Uq (Opns.cons (Qc C 0 0 rfl rfl rfl rfl rfl rfl) Opns.nil) ((Tf (by omega) (by omega)))
  ·exact Qj rfl rfl (Qa rfl) rfl (Qh C 1 (by kernel_rfl) rfl)
  ·exact Qm HPRE rfl rfl (Qa rfl) rfl Uq (Opns.cons (Qc C 2 0 rfl rfl rfl rfl rfl rfl) Opns.nil) ((Tf (by omega) (by omega)))
  ·exact TN rfl rfl (Qa rfl) rfl (Opns.cons (Qc C 1 0 rfl rfl rfl rfl rfl rfl) (Opns.cons (Qc C 3 1 rfl rfl rfl rfl rfl rfl) Opns.nil)) (EU _ _)
  ·exact ZL C (k := 0) rfl rfl rfl (Qa rfl) rfl (Qh C 0 (by kernel_rfl) rfl) (by decide) (Jc (by kernel_rfl)) (Qc C 4 0 rfl rfl rfl rfl rfl rfl) (XD (Vg _ _))
 intro γ a2 w2 Z2 S2
 replace S2 : AS w 10 [(4,Jus (.pointer (some ⟨G1_0,0,none⟩)))] [(G1_0,68,Wv (((l : Int) : Rat)) (((u : Int) : Rat)))] a2 w2 := cast (by kernel_rfl) (S2.keep [4])
 clear S1
 refine Qe ?_
 refine wp_ret ?_
 exact S2.retCell 0 0 rfl rfl rfl XU fun v hv => ⟨S2.bel,v,rfl,hv⟩
theorem Nk {x y : Rat} {k l : Nat} (fx : QS k x) (fy : QS l y) (hk : l+k+1≤35184372088640) : Con Tryz.prog QT 30 [Wv x y] (Qv (y / x)) := by
 refine Vn (n := 8) Tryz.func30 rfl rfl (Nat.le_of_ble_eq_true rfl) ?_
 intro w a0 hp S0
 have HPRE : ∀ w',Below w.heap.size w w'→QT w' := fun w' hb => Ji hp hb
 refine wp_seq ?_
 refine Qi [.alloc 68 (Wv x y),.alloc 63 (Any)] ⟨S0,by decide +kernel⟩ (by kernel_rfl) (by kernel_rfl) rfl (by kernel_rfl) ?_ ?_
 ·intro C
  refine ASteps.cons ?_ (ASteps.cons ?_ (ASteps.nil))
  ·exact ZR rfl rfl (Qa rfl) rfl (Zh (by kernel_rfl)) (Qh C 0 (by kernel_rfl) rfl) (AB (Vg _ _))
  ·exact ZQ [.bool false,.slice none 0 0,.slice none 0 0] We rfl rfl (Qa rfl) rfl (Zh (by kernel_rfl)) XZ (by simp [Qk]) (by kernel_rfl)
 intro γ a1 w1 Z1 S1
 replace S1 : AS w 8 [(2,Jus (.pointer (some ⟨γ 1,0,none⟩))),(1,Jus (.pointer (some ⟨γ 0,0,none⟩)))] [(γ 0,68,Wv x y),(γ 1,63,Any)] a1 w1 := cast (by kernel_rfl) (S1.keep [1,2])
 generalize γ 0=G1_0 at S1
 generalize γ 1=G1_1 at S1
 clear S0
 refine Qe ?_
 refine wp_seq ?_
 refine Qi [.pure (Jus (.pointer (some ⟨G1_0,3,none⟩))),.pure (Qv y),.pure (Jus (.pointer (some ⟨G1_0,0,none⟩))),.pure (Qv x),.pure (Qv ((y / x))),.over 1 (Qv ((y / x)))] ⟨S1,by decide +kernel⟩ (by kernel_rfl) (by kernel_rfl) rfl (by kernel_rfl) ?_ ?_
 ·intro C
  refine ASteps.cons ?_ (ASteps.cons ?_ (ASteps.cons ?_ (ASteps.cons ?_ (ASteps.cons ?_ (ASteps.cons ?_ (ASteps.nil))))))
  ·exact Qu rfl rfl (Qa rfl) rfl (Qh C 1 (by kernel_rfl) rfl) (Nh _)
  ·exact QP (k := 0) rfl rfl rfl (Qa rfl) rfl (Qc C 0 0 rfl rfl rfl rfl rfl rfl) (QK (by kernel_rfl)) Hz
  ·exact Qu rfl rfl (Qa rfl) rfl (Qh C 1 (by kernel_rfl) rfl) (ES _)
  ·exact QP (k := 0) rfl rfl rfl (Qa rfl) rfl (Qc C 2 0 rfl rfl rfl rfl rfl rfl) (QK (by kernel_rfl)) LS
  ·exact Qm HPRE rfl rfl (Qa rfl) rfl Gj (Opns.cons (Qc C 1 0 rfl rfl rfl rfl rfl rfl) (Opns.cons (Qc C 3 1 rfl rfl rfl rfl rfl rfl) Opns.nil)) ((NL fy fx hk))
  ·exact ZL C (k := 1) rfl rfl rfl (Qa rfl) rfl (Qh C 0 (by kernel_rfl) rfl) (by decide) (Jc (by kernel_rfl)) (Qc C 4 0 rfl rfl rfl rfl rfl rfl) (Xp (ZS _))
 intro γ a2 w2 Z2 S2
 replace S2 : AS w 8 [(2,Jus (.pointer (some ⟨G1_1,0,none⟩)))] [(G1_0,68,Wv x y),(G1_1,63,Qv ((y / x)))] a2 w2 := cast (by kernel_rfl) (S2.keep [2])
 clear S1
 refine Qe ?_
 refine wp_ret ?_
 exact S2.retCell 0 1 rfl rfl rfl Zm fun v hv => ⟨S2.bel,v,rfl,hv⟩
theorem Pr {w : World} (hp : QT w) : Calls Tryz.prog 29 #[] w fun e w' => Below w.heap.size w w'∧∃ go gb : Nat,e=.returned (.func (.func 71) #[] #[.pointer (some ⟨go,0,none⟩),.pointer (some ⟨gb,0,none⟩)])∧w.heap.size≤go∧w.heap.size≤gb∧go ≠ gb ∧
  BoxIs w' go 68 (Wv ((1 : Int) : Rat) ((0 : Int) : Rat))∧BoxIs w' gb 68 (Wv ((0 : Int) : Rat) ((1 : Int) : Rat)) := by
 refine Xk (w0 := w) (n := 6) (Fs := []) (vs := []) (bx := []) Tryz.func29 rfl rfl (Nat.le_of_ble_eq_true rfl) (Below.refl _ _) trivial (fun k G t F h => by simp at h) List.nodup_nil ?_
 intro a0 S0
 have HPRE : ∀ w',Below w.heap.size w w'→QT w' := fun w' hb => Ji hp hb
 refine wp_seq ?_
 refine Qi [.pure (Jus (.nilFunc))] ⟨S0,by decide +kernel⟩ (by kernel_rfl) (by kernel_rfl) rfl (by kernel_rfl) ?_ ?_
 ·intro C
  refine ASteps.cons ?_ (ASteps.nil)
  ·exact Qn rfl rfl (Qa rfl) rfl (Qo _)
 intro γ a1 w1 Z1 S1
 replace S1 : AS w 6 [(0,Jus (.nilFunc))] [] a1 w1 := cast (by kernel_rfl) (S1.keep [0])
 clear S0
 refine Qe ?_
 refine wp_seq ?_
 refine Qi [.pure (Wv (((0 : Int) : Rat)) (((1 : Int) : Rat))),.pure (Wv (((1 : Int) : Rat)) (((0 : Int) : Rat))),.alloc 68 (Any),.alloc 68 (Any),.fill 2 (Wv (((0 : Int) : Rat)) (((1 : Int) : Rat))),.fill 3 (Wv (((1 : Int) : Rat)) (((0 : Int) : Rat)))] ⟨S1,by decide +kernel⟩ (by kernel_rfl) (by kernel_rfl) rfl (by kernel_rfl) ?_ ?_
 ·intro C
  refine ASteps.cons ?_ (ASteps.cons ?_ (ASteps.cons ?_ (ASteps.cons ?_ (ASteps.cons ?_ (ASteps.cons ?_ (ASteps.nil))))))
  ·exact Qm HPRE rfl rfl (Qa rfl) rfl WO (Opns.cons (Qo _) (Opns.cons (Qo _) Opns.nil)) ((Po (by decide) (by decide) (by decide) (by decide)))
  ·exact Qm HPRE rfl rfl (Qa rfl) rfl WO (Opns.cons (Qo _) (Opns.cons (Qo _) Opns.nil)) ((Po (by decide) (by decide) (by decide) (by decide)))
  ·exact ZQ [.bool false,.slice none 0 0,.slice none 0 0,.bool false,.slice none 0 0,.slice none 0 0] Oh rfl rfl (Qa rfl) rfl (YD (s0 := 4) (k := 0) (by kernel_rfl) rfl rfl rfl rfl) YI (by simp [Qk]) (by kernel_rfl)
  ·exact ZQ [.bool false,.slice none 0 0,.slice none 0 0,.bool false,.slice none 0 0,.slice none 0 0] Oh rfl rfl (Qa rfl) rfl (YD (s0 := 5) (k := 0) (by kernel_rfl) rfl rfl rfl rfl) YI (by simp [Qk]) (by kernel_rfl)
  ·exact Vt C (a := 2) (k := 0) rfl rfl rfl rfl (Qa rfl) rfl rfl rfl rfl rfl (by decide) (Vy (by kernel_rfl)) (Qc C 0 1 rfl rfl rfl rfl rfl rfl) (XD (Vg _ _))
  ·exact Vt C (a := 3) (k := 0) rfl rfl rfl rfl (Qa rfl) rfl rfl rfl rfl rfl (by decide) (Vy (by kernel_rfl)) (Qc C 1 1 rfl rfl rfl rfl rfl rfl) (XD (Vg _ _))
 intro γ a2 w2 Z2 S2
 replace S2 : AS w 6 [(2,Jus (.pointer (some ⟨γ 3,0,none⟩))),(1,Jus (.pointer (some ⟨γ 2,0,none⟩))),(0,Jus (.nilFunc))] [(γ 2,68,Wv (((0 : Int) : Rat)) (((1 : Int) : Rat))),(γ 3,68,Wv (((1 : Int) : Rat)) (((0 : Int) : Rat)))] a2 w2 := cast (by kernel_rfl) (S2.keep [0,1,2])
 generalize γ 2=G2_2 at S2
 generalize γ 3=G2_3 at S2
 clear S1
 refine Qe ?_
 refine wp_seq ?_
 refine Qi [.pure (Jus (.func (.func 71) #[] #[.pointer (some ⟨G2_3,0,none⟩),.pointer (some ⟨G2_2,0,none⟩)])),.pure (Jus (.func (.func 71) #[] #[.pointer (some ⟨G2_3,0,none⟩),.pointer (some ⟨G2_2,0,none⟩)]))] ⟨S2,by decide +kernel⟩ (by kernel_rfl) (by kernel_rfl) rfl (by kernel_rfl) ?_ ?_
 ·intro C
  refine ASteps.cons ?_ (ASteps.cons ?_ (ASteps.nil))
  ·exact Ll (vs := [.pointer (some ⟨G2_3,0,none⟩),.pointer (some ⟨G2_2,0,none⟩)]) rfl rfl (Qa rfl) rfl (Opns.cons (Qh C 0 (by kernel_rfl) rfl) (Opns.cons (Qh C 1 (by kernel_rfl) rfl) Opns.nil))
  ·exact Qn rfl rfl (Qa rfl) rfl (Qc C 0 0 rfl rfl rfl rfl rfl rfl)
 intro γ a3 w3 Z3 S3
 replace S3 : AS w 6 [(0,Jus (.func (.func 71) #[] #[.pointer (some ⟨G2_3,0,none⟩),.pointer (some ⟨G2_2,0,none⟩)]))] [(G2_2,68,Wv (((0 : Int) : Rat)) (((1 : Int) : Rat))),(G2_3,68,Wv (((1 : Int) : Rat)) (((0 : Int) : Rat)))] a3 w3 := cast (by kernel_rfl) (S3.keep [0])
 clear S2
 refine Qe ?_
 refine wp_ret ?_
 exact S3.ret 0 rfl rfl fun v hv => ⟨S3.bel,G2_3,G2_2,by rw [show v=_ from hv],(S3.box 1 _ _ _ rfl).1,(S3.box 0 _ _ _ rfl).1,by have := S3.dis; simp at this; omega,(S3.box 1 _ _ _ rfl).2,(S3.box 0 _ _ _ rfl).2⟩
def stp (s : Nat × Nat × Nat × Nat) (k : Nat) : Nat × Nat × Nat × Nat := (s.2.2.1+s.1*k,s.2.2.2+s.2.1*k,s.1,s.2.1)
def SO (l : List Int) : Nat × Nat × Nat × Nat := (l.map Int.toNat).foldl stp (0,1,1,0)
def gB1 (l : List Int) (k : Nat) : Rat := (((SO (l.take k)).1 : Int) : Rat)
def gB2 (l : List Int) (k : Nat) : Rat := (((SO (l.take k)).2.1 : Int) : Rat)
def gO1 (l : List Int) (k : Nat) : Rat := (((SO (l.take k)).2.2.1 : Int) : Rat)
def gO2 (l : List Int) (k : Nat) : Rat := (((SO (l.take k)).2.2.2 : Int) : Rat)
def gA (l : List Int) (k : Nat) : Rat := (gB2 l k+gO2 l k) / (gB1 l k+gO1 l k)
theorem Ed {l : List Int} {k : Nat} {z : Int} (h : l[k]? = some z) : SO (l.take (k+1))=stp (SO (l.take k)) z.toNat := by
 unfold SO
 rw [List.take_add_one,h]
 simp
theorem g_next {l : List Int} {k : Nat} {z : Int} (h : l[k]? = some z) (h0 : 0≤z) : gO1 l k+gB1 l k*((z : Int) : Rat)=gB1 l (k+1)∧gO2 l k+gB2 l k*((z : Int) : Rat)=gB2 l (k+1)∧gB1 l k=gO1 l (k+1)∧gB2 l k=gO2 l (k+1) := by
 unfold gB1 gB2 gO1 gO2
 rw [Ed h]
 unfold stp
 have e : ((z.toNat : Nat) : Int)=z := Int.toNat_of_nonneg h0
 have key : ∀ x y : Nat,(((x : Int)) : Rat)+(((y : Int)) : Rat)*((z : Int) : Rat)=((((x+y*z.toNat : Nat)) : Int) : Rat) := fun x y => by
  have : ((x+y*z.toNat : Nat) : Int)=(x : Int)+(y : Int)*z := by
   rw [Int.natCast_add,Int.natCast_mul,e]
  rw [this,Rat.intCast_add,Rat.intCast_mul]
 exact ⟨key _ _,key _ _,rfl,rfl⟩
theorem ET {m : Nat} {s : Nat × Nat × Nat × Nat} {k : Nat} (hk : k < 2 ^ 63) (h : s.1 < 2 ^ m∧s.2.1 < 2 ^ m∧s.2.2.1 < 2 ^ m∧s.2.2.2 < 2 ^ m) : (stp s k).1 < 2 ^ (m+64)∧(stp s k).2.1 < 2 ^ (m+64)∧(stp s k).2.2.1 < 2 ^ (m+64)∧(stp s k).2.2.2 < 2 ^ (m+64) := by
 obtain ⟨h1,h2,h3,h4⟩ := h
 have up : ∀ x : Nat,x < 2 ^ m→x < 2 ^ (m+64) := fun x hx => Nat.lt_of_lt_of_le hx (Nat.pow_le_pow_right (by decide) (by omega))
 have key : ∀ x y : Nat,x < 2 ^ m→y < 2 ^ m→x+y*k < 2 ^ (m+64) := fun x y hx hy => by
  have h5 : y*k < 2 ^ m*2 ^ 63 := Nat.mul_lt_mul'' hy hk
  have h6 : 2 ^ (m+64)=2 ^ m*2 ^ 63+2 ^ m*2 ^ 63 := by
   rw [show m+64=(m+63)+1 by omega,Nat.pow_succ,Nat.pow_add]
   omega
  have h7 : 2 ^ m≤2 ^ m*2 ^ 63 := Nat.le_mul_of_pos_right _ (by decide)
  omega
 exact ⟨key _ _ h3 h1,key _ _ h4 h2,up _ h1,up _ h2⟩
theorem TI : ∀ (l : List Nat) (m : Nat) (s : Nat × Nat × Nat × Nat),(∀ k ∈ l,k < 2 ^ 63)→(s.1 < 2 ^ m∧s.2.1 < 2 ^ m∧s.2.2.1 < 2 ^ m∧s.2.2.2 < 2 ^ m)→(l.foldl stp s).1 < 2 ^ (m+64*l.length)∧(l.foldl stp s).2.1 < 2 ^ (m+64*l.length)∧(l.foldl stp s).2.2.1 < 2 ^ (m+64*l.length)∧(l.foldl stp s).2.2.2 < 2 ^ (m+64*l.length)
 | [],m,s,_,h => h
 | k :: l,m,s,hl,h => by
  have := TI l (m+64) (stp s k) (fun j hj => hl j (List.mem_cons_of_mem _ hj)) (ET (hl k List.mem_cons_self) h)
  rw [List.length_cons,show m+64*(l.length+1)=m+64+64*l.length by omega]
  exact this
theorem Me {l : List Int} (hr : ∀ z ∈ l,z < 9223372036854775808) (hn : l.length≤60) (k : Nat) : QS 3842 (gB1 l k)∧QS 3842 (gB2 l k)∧QS 3842 (gO1 l k)∧QS 3842 (gO2 l k) := by
 have h := TI ((l.take k).map Int.toNat) 2 (0,1,1,0) (fun j hj => by
  obtain ⟨z,hz,rfl⟩ := List.mem_map.1 hj
  have := hr z (List.mem_of_mem_take hz)
  omega) (by decide)
 have hlen : 2+64*((l.take k).map Int.toNat).length≤3842 := by
  rw [List.length_map,List.length_take]
  omega
 have up : ∀ K : Nat,2+64*((l.take k).map Int.toNat).length≤K→∀ x : Nat,x < 2 ^ (2+64*((l.take k).map Int.toNat).length)→QS K (((x : Int)) : Rat) := fun K hK x hx => QS.whole (by omega) (by
  rw [Int.natAbs_natCast]
  exact Nat.lt_of_lt_of_le hx (Nat.pow_le_pow_right (by decide) hK))
 exact ⟨up _ hlen _ h.1,up _ hlen _ h.2.1,up _ hlen _ h.2.2.1,up _ hlen _ h.2.2.2⟩
theorem TV (l : List Int) : gB1 l 0=((0 : Int) : Rat)∧gB2 l 0=((1 : Int) : Rat)∧gO1 l 0=((1 : Int) : Rat)∧gO2 l 0=((0 : Int) : Rat)∧gA l 0=((1 : Int) : Rat) := by
 refine ⟨rfl,rfl,rfl,rfl,?_⟩
 show (((1 : Int) : Rat)+((0 : Int) : Rat)) / (((0 : Int) : Rat)+((1 : Int) : Rat))=_
 grind
theorem Cy {z : Int} (h0 : 0≤z) (h1 : z < 9223372036854775808) : QS 64 ((z : Int) : Rat) := QS.whole (by decide) (by omega)
theorem PN {w : World} {B go gb : Nat} {vn : Value} {n ox oy bx bY zx zy ux uy : Rat} (hBw : B≤w.heap.size) (hgo : B≤go) (hgb : B≤gb) (hne : go ≠ gb) (hn : QV w vn n) (ho : BoxIs w go 68 (Wv ox oy)) (hb : BoxIs w gb 68 (Wv bx bY))
  (f1 : QS 3842 bx) (f2 : QS 3842 bY) (f3 : QS 64 n) (f4 : QS 3842 ox) (f5 : QS 3842 oy) (e : ox+bx*n=zx∧oy+bY*n=zy∧bx=ux∧bY=uy) :
  Calls Tryz.prog 71 #[vn,.pointer (some ⟨go,0,none⟩),.pointer (some ⟨gb,0,none⟩)] w fun e w' => Below B w w'∧Grows w w'∧∃ v,e=.returned v∧(Tup [Wv zx zy,Wv ux uy]).on v w'∧BoxIs w' go 68 (Wv ux uy)∧BoxIs w' gb 68 (Wv zx zy) := by
 obtain ⟨e1,e2,rfl,rfl⟩ := e
 exact KW hBw hgo hgb hne hn ho hb f1 f2 f3 f4 f5 (by decide) (by decide) e1 e2
def ER (l : List Int) (v : Value) : Prop :=
 ((∃ z ∈ l,z < 0)∧v=.tuple #[.string ⟨#[]⟩,.int .i64 4]) ∨ ((∀ z ∈ l,0≤z)∧∃ s : ByteArray,v=.tuple #[.string s,.int .i64 0]∧s.data.toList=tx (gA l l.length))
theorem Ty {w : World} {v0 : Value} {l : List Int} (hl : (Hi w l).on v0 w) (hr : ∀ z ∈ l,z < 9223372036854775808) (hn : l.length≤60) (hp : QT w) : Calls Tryz.prog 5 #[v0] w fun e w' => Below w.heap.size w w'∧∃ x,e=.returned x∧ER l x := by
 have h60 : ¬ (60 : Int) < l.length := by omega
 refine Xk (w0 := w) (n := 37) (Fs := [Hi w l]) (vs := [v0]) (bx := []) Tryz.func5 rfl rfl (Nat.le_of_ble_eq_true rfl) (Below.refl _ _) ⟨hl,trivial⟩ (fun k G t F h => by simp at h) List.nodup_nil ?_
 intro a0 S0
 have HPRE : ∀ w',Below w.heap.size w w'→QT w' := fun w' hb => Ji hp hb
 refine wp_seq ?_
 refine Qi [.pure (Tx ⟨#[]⟩),.pure (In (0))] ⟨S0,by decide +kernel⟩ (by kernel_rfl) (by kernel_rfl) rfl (by kernel_rfl) ?_ ?_
 ·intro C
  refine ASteps.cons ?_ (ASteps.cons ?_ (ASteps.nil))
  ·exact Qn rfl rfl (Qa rfl) rfl (Qo _)
  ·exact Qn rfl rfl (Qa rfl) rfl (Qo _)
 intro γ a1 w1 Z1 S1
 replace S1 : AS w 37 [(3,In (0)),(2,Tx ⟨#[]⟩),(0,Hi w l)] [] a1 w1 := cast (by kernel_rfl) (S1.keep [0,2,3])
 clear S0
 refine Qe ?_
 refine wp_seq ?_
 refine wp_seq ?_
 refine Qi [.pure (Hi w l),.pure (In (l.length)),.pure (Bo false)] ⟨S1,by decide +kernel⟩ (by kernel_rfl) (by kernel_rfl) rfl (by kernel_rfl) ?_ ?_
 ·intro C
  refine ASteps.cons ?_ (ASteps.cons ?_ (ASteps.cons ?_ (ASteps.nil)))
  ·exact Qj rfl rfl (Qa rfl) rfl (Qh C 2 (by kernel_rfl) rfl)
  ·exact Jw rfl rfl (Qa rfl) rfl (Qc C 0 0 rfl rfl rfl rfl rfl rfl) rfl
  ·exact Qz rfl rfl (Qa rfl) rfl (Qc C 1 0 rfl rfl rfl rfl rfl rfl) (Qo _) (Yg _ _ _ _ _ _ (decide_eq_false h60))
 intro γ a2 w2 Z2 S2
 replace S2 : AS w 37 [(12,Bo false),(3,In (0)),(2,Tx ⟨#[]⟩),(0,Hi w l)] [] a2 w2 := cast (by kernel_rfl) (S2.keep [0,2,3,12])
 clear S1
 refine Qe ?_
 refine wp_cond_false (S2.val 0 rfl) ?_
 refine wp_skip ?_
 refine Qe ?_
 refine wp_seq ?_
 refine Qi [.pure (Qv (((1 : Int) : Rat))),.alloc 63 (Any),.fill 1 (Qv (((1 : Int) : Rat)))] ⟨S2,by decide +kernel⟩ (by kernel_rfl) (by kernel_rfl) rfl (by kernel_rfl) ?_ ?_
 ·intro C
  refine ASteps.cons ?_ (ASteps.cons ?_ (ASteps.cons ?_ (ASteps.nil)))
  ·exact Qm HPRE rfl rfl (Qa rfl) rfl Uq (Opns.cons (Qo _) Opns.nil) ((Tf (by decide) (by decide)))
  ·exact ZQ [.bool false,.slice none 0 0,.slice none 0 0] We rfl rfl (Qa rfl) rfl (YD (s0 := 2) (k := 0) (by kernel_rfl) rfl rfl rfl rfl) XZ (by simp [Qk]) (by kernel_rfl)
  ·exact Vt C (a := 1) (k := 0) rfl rfl rfl rfl (Qa rfl) rfl rfl rfl rfl rfl (by decide) (Vy (by kernel_rfl)) (Qc C 0 1 rfl rfl rfl rfl rfl rfl) (Xp (ZS _))
 intro γ a3 w3 Z3 S3
 replace S3 : AS w 37 [(4,Jus (.pointer (some ⟨γ 1,0,none⟩))),(3,In (0)),(2,Tx ⟨#[]⟩),(0,Hi w l)] [(γ 1,63,Qv (((1 : Int) : Rat)))] a3 w3 := cast (by kernel_rfl) (S3.keep [0,2,3,4])
 generalize γ 1=G3_1 at S3
 clear S2
 refine Qe ?_
 refine wp_seq ?_
 refine wp_region_lit ?_
 refine Ij rfl rfl KQ ?_
 rw [Array.map_empty]
 refine (Pr (HPRE _ S3.bel)).mono ?_
 rintro _ wk ⟨hbk,go,gb,rfl,hgo,hgb,hne,hbo,hbb⟩
 refine ⟨_,rfl,?_⟩
 have hg0 : G3_1 < w3.heap.size := (S3.box 0 _ _ _ rfl).2.lt
 have S4 := S3.call (t := 14) (F := Jus (.func (.func 71) #[] #[.pointer (some ⟨go,0,none⟩),.pointer (some ⟨gb,0,none⟩)])) (nbx := [(go,68,Wv (((1 : Int) : Rat)) (((0 : Int) : Rat))),(gb,68,Wv (((0 : Int) : Rat)) (((1 : Int) : Rat)))]) rfl hbk rfl (fun j G t F hj => by
  match j,hj with
  | 0,hj => cases hj; exact ⟨hgo,hbo⟩
  | 1,hj => cases hj; exact ⟨hgb,hbb⟩
  | j+2,hj => simp at hj) (by simp [hne])
 obtain ⟨a4,ea4⟩ : ∃ a : Act,a=a3.put (some 14) (.func (.func 71) #[] #[.pointer (some ⟨go,0,none⟩),.pointer (some ⟨gb,0,none⟩)]) := ⟨_,rfl⟩
 rw [← ea4] at S4
 show wpList _ _ _ _ (a3.put (some 14) _) wk
 rw [← ea4]
 obtain ⟨w4,ew4⟩ : ∃ w : World,w=wk := ⟨_,rfl⟩
 subst ew4
 replace S4 : AS w 37 [(14,Jus (.func (.func 71) #[] #[.pointer (some ⟨go,0,none⟩),.pointer (some ⟨gb,0,none⟩)])),(4,Jus (.pointer (some ⟨G3_1,0,none⟩))),(3,In (0)),(2,Tx ⟨#[]⟩),(0,Hi w l)] [(G3_1,63,Qv (((1 : Int) : Rat))),(go,68,Wv (((1 : Int) : Rat)) (((0 : Int) : Rat))),(gb,68,Wv (((0 : Int) : Rat)) (((1 : Int) : Rat)))] a4 w4 := cast (by kernel_rfl) S4
 clear S3 ea4
 refine UC 1 ?_
 refine UQ [.pure (Jus (.func (.func 71) #[] #[.pointer (some ⟨go,0,none⟩),.pointer (some ⟨gb,0,none⟩)]))] ⟨S4,by decide +kernel⟩ (by kernel_rfl) (by kernel_rfl) rfl (by kernel_rfl) ?_ ?_
 ·intro C
  refine ASteps.cons ?_ (ASteps.nil)
  ·exact Qn rfl rfl (Qa rfl) rfl (Qh C 0 (by kernel_rfl) rfl)
 intro γ a5 w5 Z5 S5
 replace S5 : AS w 37 [(5,Jus (.func (.func 71) #[] #[.pointer (some ⟨go,0,none⟩),.pointer (some ⟨gb,0,none⟩)])),(4,Jus (.pointer (some ⟨G3_1,0,none⟩))),(3,In (0)),(2,Tx ⟨#[]⟩),(0,Hi w l)] [(G3_1,63,Qv (((1 : Int) : Rat))),(go,68,Wv (((1 : Int) : Rat)) (((0 : Int) : Rat))),(gb,68,Wv (((0 : Int) : Rat)) (((1 : Int) : Rat)))] a5 w5 := cast (by kernel_rfl) (S5.keep [0,2,3,4,5])
 clear S4
 refine Qe ?_
 refine wp_seq ?_
 refine wp_seq ?_
 refine Qi [.pure (Hi w l),.pure (In (l.length)),.pure (In (0))] ⟨S5,by decide +kernel⟩ (by kernel_rfl) (by kernel_rfl) rfl (by kernel_rfl) ?_ ?_
 ·intro C
  refine ASteps.cons ?_ (ASteps.cons ?_ (ASteps.cons ?_ (ASteps.nil)))
  ·exact Qj rfl rfl (Qa rfl) rfl (Qh C 4 (by kernel_rfl) rfl)
  ·exact Jw rfl rfl (Qa rfl) rfl (Qc C 0 0 rfl rfl rfl rfl rfl rfl) rfl
  ·exact Qj rfl rfl (Qa rfl) rfl (Qo _)
 intro γ a6 w6 Z6 S6
 replace S6 : AS w 37 [(17,In (0)),(16,In (l.length)),(15,Hi w l),(5,Jus (.func (.func 71) #[] #[.pointer (some ⟨go,0,none⟩),.pointer (some ⟨gb,0,none⟩)])),(4,Jus (.pointer (some ⟨G3_1,0,none⟩))),(3,In (0)),(2,Tx ⟨#[]⟩)] [(G3_1,63,Qv (((1 : Int) : Rat))),(go,68,Wv (((1 : Int) : Rat)) (((0 : Int) : Rat))),(gb,68,Wv (((0 : Int) : Rat)) (((1 : Int) : Rat)))] a6 w6 := cast (by kernel_rfl) (S6.keep [2,3,4,5,15,16,17])
 clear S5
 refine Qe ?_
 refine wp_block ?_
 refine wp_loop (fun a w' => ∃ k : Nat,(k≤l.length∧∀ (j : Nat) z,j < k→l[j]? = some z→0≤z)∧AS w 37 [(17,In (k)),(16,In (l.length)),(15,Hi w l),(5,Jus (.func (.func 71) #[] #[.pointer (some ⟨go,0,none⟩),.pointer (some ⟨gb,0,none⟩)])),(4,Jus (.pointer (some ⟨G3_1,0,none⟩)))] [(G3_1,63,Qv ((gA l k))),(go,68,Wv ((gO1 l k)) ((gO2 l k))),(gb,68,Wv ((gB1 l k)) ((gB2 l k)))] a w') (fun a _ => l.length - (intOf (a.tmps.getD 17 undef)).toNat) ⟨0,⟨Nat.zero_le _,fun j z hj => absurd hj (Nat.not_lt_zero _)⟩,AS.conv (S6.keep [17,16,15,5,4]) (by kernel_rfl) (by rw [(TV l).1,(TV l).2.1,(TV l).2.2.1,(TV l).2.2.2.1,(TV l).2.2.2.2])⟩ ?_
 clear S6
 intro a7 w7 hI7
 obtain ⟨k,⟨hk,hpos⟩,S7⟩ := hI7
 have hM : a7.tmps.getD 17 undef=.int .i64 (k : Int) := S7.val 0 rfl
 have hs := Me hr hn k
 have hs1 := Me hr hn (k+1)
 refine wp_seq ?_
 by_cases h1 : (k : Int) < l.length
 ·
  refine Qi [.pure (Bo true)] ⟨S7,by decide +kernel⟩ (by kernel_rfl) (by kernel_rfl) rfl (by kernel_rfl) ?_ ?_
  ·intro C
   refine ASteps.cons ?_ (ASteps.nil)
   ·exact Qz rfl rfl (Qa rfl) rfl (Qh C 0 (by kernel_rfl) rfl) (Qh C 1 (by kernel_rfl) rfl) (Zy _ _ _ _ _ _ (decide_eq_true h1))
  intro γ a8 w8 Z8 S8
  replace S8 : AS w 37 [(18,Bo true),(17,In (k)),(16,In (l.length)),(15,Hi w l),(5,Jus (.func (.func 71) #[] #[.pointer (some ⟨go,0,none⟩),.pointer (some ⟨gb,0,none⟩)])),(4,Jus (.pointer (some ⟨G3_1,0,none⟩)))] [(G3_1,63,Qv ((gA l k))),(go,68,Wv ((gO1 l k)) ((gO2 l k))),(gb,68,Wv ((gB1 l k)) ((gB2 l k)))] a8 w8 := cast (by kernel_rfl) (S8.keep [4,5,15,16,17,18])
  clear S7
  refine Qe ?_
  refine wp_seq ?_
  refine wp_cond_true (S8.val 0 rfl) ?_
  refine wp_skip ?_
  refine Qe ?_
  refine wp_seq ?_
  refine wp_block ?_
  refine wp_seq ?_
  have hkl : k < l.length := by omega
  obtain ⟨z,hz⟩ : ∃ z,l[k]? = some z := ⟨_,List.getElem?_eq_getElem hkl⟩
  refine Qi [.pure (Ci w z),.pure (In (z)),.pure (In (z))] ⟨S8,by decide +kernel⟩ (by kernel_rfl) (by kernel_rfl) rfl (by kernel_rfl) ?_ ?_
  ·intro C
   refine ASteps.cons ?_ (ASteps.cons ?_ (ASteps.cons ?_ (ASteps.nil)))
   ·exact Uv k hz rfl rfl (Qa rfl) rfl (Qh C 3 (by kernel_rfl) rfl) (Qh C 1 (by kernel_rfl) rfl) (fun a n c w h => Tm a n c w h)
   ·exact Va rfl rfl (Qa rfl) rfl (Qc C 0 0 rfl rfl rfl rfl rfl rfl) ON
   ·exact Qn rfl rfl (Qa rfl) rfl (Qc C 1 0 rfl rfl rfl rfl rfl rfl)
  intro γ a9 w9 Z9 S9
  replace S9 : AS w 37 [(7,In (z)),(17,In (k)),(16,In (l.length)),(15,Hi w l),(5,Jus (.func (.func 71) #[] #[.pointer (some ⟨go,0,none⟩),.pointer (some ⟨gb,0,none⟩)])),(4,Jus (.pointer (some ⟨G3_1,0,none⟩)))] [(G3_1,63,Qv ((gA l k))),(go,68,Wv ((gO1 l k)) ((gO2 l k))),(gb,68,Wv ((gB1 l k)) ((gB2 l k)))] a9 w9 := cast (by kernel_rfl) (S9.keep [4,5,7,15,16,17])
  clear S8
  refine Qe ?_
  refine wp_seq ?_
  refine wp_seq ?_
  by_cases h3 : (z : Int) < 0
  ·
   refine Qi [.pure (In (z)),.pure (Bo true)] ⟨S9,by decide +kernel⟩ (by kernel_rfl) (by kernel_rfl) rfl (by kernel_rfl) ?_ ?_
   ·intro C
    refine ASteps.cons ?_ (ASteps.cons ?_ (ASteps.nil))
    ·exact Qj rfl rfl (Qa rfl) rfl (Qh C 0 (by kernel_rfl) rfl)
    ·exact Qz rfl rfl (Qa rfl) rfl (Qc C 0 0 rfl rfl rfl rfl rfl rfl) (Qo _) (Zy _ _ _ _ _ _ (decide_eq_true h3))
   intro γ a10 w10 Z10 S10
   replace S10 : AS w 37 [(22,Bo true),(7,In (z)),(17,In (k)),(16,In (l.length)),(15,Hi w l),(5,Jus (.func (.func 71) #[] #[.pointer (some ⟨go,0,none⟩),.pointer (some ⟨gb,0,none⟩)])),(4,Jus (.pointer (some ⟨G3_1,0,none⟩)))] [(G3_1,63,Qv ((gA l k))),(go,68,Wv ((gO1 l k)) ((gO2 l k))),(gb,68,Wv ((gB1 l k)) ((gB2 l k)))] a10 w10 := cast (by kernel_rfl) (S10.keep [4,5,7,15,16,17,22])
   clear S9
   refine Qe ?_
   refine wp_cond_true (S10.val 0 rfl) ?_
   refine wp_seq ?_
   have h0n : z < 0 := h3
   refine Qi [.pure (Tx ⟨#[]⟩),.pure (In (4))] ⟨S10,by decide +kernel⟩ (by kernel_rfl) (by kernel_rfl) rfl (by kernel_rfl) ?_ ?_
   ·intro C
    refine ASteps.cons ?_ (ASteps.cons ?_ (ASteps.nil))
    ·exact Qn rfl rfl (Qa rfl) rfl (Qo _)
    ·exact Qn rfl rfl (Qa rfl) rfl (Qo _)
   intro γ a11 w11 Z11 S11
   replace S11 : AS w 37 [(3,In (4)),(2,Tx ⟨#[]⟩),(7,In (z)),(17,In (k)),(16,In (l.length)),(15,Hi w l),(5,Jus (.func (.func 71) #[] #[.pointer (some ⟨go,0,none⟩),.pointer (some ⟨gb,0,none⟩)])),(4,Jus (.pointer (some ⟨G3_1,0,none⟩)))] [(G3_1,63,Qv ((gA l k))),(go,68,Wv ((gO1 l k)) ((gO2 l k))),(gb,68,Wv ((gB1 l k)) ((gB2 l k)))] a11 w11 := cast (by kernel_rfl) (S11.keep [2,3,4,5,7,15,16,17])
   clear S10
   refine Qe ?_
   refine wp_ret ?_
   refine JM ?_
   refine YV ?_
   refine JM ?_
   refine JM ?_
   refine YV ?_
   refine JM ?_
   exact S11.retTT 1 0 rfl rfl rfl fun v v2 hv hv2 => ⟨S11.bel,_,rfl,Or.inl ⟨⟨z,List.mem_of_getElem? hz,h0n⟩,by rw [show v=_ from hv,show v2=_ from hv2]⟩⟩
  ·
   refine Qi [.pure (In (z)),.pure (Bo false)] ⟨S9,by decide +kernel⟩ (by kernel_rfl) (by kernel_rfl) rfl (by kernel_rfl) ?_ ?_
   ·intro C
    refine ASteps.cons ?_ (ASteps.cons ?_ (ASteps.nil))
    ·exact Qj rfl rfl (Qa rfl) rfl (Qh C 0 (by kernel_rfl) rfl)
    ·exact Qz rfl rfl (Qa rfl) rfl (Qc C 0 0 rfl rfl rfl rfl rfl rfl) (Qo _) (Zy _ _ _ _ _ _ (decide_eq_false h3))
   intro γ a12 w12 Z12 S12
   replace S12 : AS w 37 [(22,Bo false),(7,In (z)),(17,In (k)),(16,In (l.length)),(15,Hi w l),(5,Jus (.func (.func 71) #[] #[.pointer (some ⟨go,0,none⟩),.pointer (some ⟨gb,0,none⟩)])),(4,Jus (.pointer (some ⟨G3_1,0,none⟩)))] [(G3_1,63,Qv ((gA l k))),(go,68,Wv ((gO1 l k)) ((gO2 l k))),(gb,68,Wv ((gB1 l k)) ((gB2 l k)))] a12 w12 := cast (by kernel_rfl) (S12.keep [4,5,7,15,16,17,22])
   clear S9
   refine Qe ?_
   refine wp_cond_false (S12.val 0 rfl) ?_
   refine wp_skip ?_
   refine Qe ?_
   refine wp_seq ?_
   have h0z : 0≤z := by have := h3; omega
   refine SV 3 ?_
   refine UQ [.pure (Jus (.func (.func 71) #[] #[.pointer (some ⟨go,0,none⟩),.pointer (some ⟨gb,0,none⟩)])),.pure (In (z)),.pure (Qv (((z : Int) : Rat)))] ⟨S12,by decide +kernel⟩ (by kernel_rfl) (by kernel_rfl) rfl (by kernel_rfl) ?_ ?_
   ·intro C
    refine ASteps.cons ?_ (ASteps.cons ?_ (ASteps.cons ?_ (ASteps.nil)))
    ·exact Qj rfl rfl (Qa rfl) rfl (Qh C 5 (by kernel_rfl) rfl)
    ·exact Qj rfl rfl (Qa rfl) rfl (Qh C 1 (by kernel_rfl) rfl)
    ·exact Qm HPRE rfl rfl (Qa rfl) rfl Uq (Opns.cons (Qc C 1 0 rfl rfl rfl rfl rfl rfl) Opns.nil) ((Tf (by omega) (hr _ (List.mem_of_getElem? hz))))
   intro γ a13 w13 Z13 S13
   replace S13 : AS w 37 [(26,Qv (((z : Int) : Rat))),(24,Jus (.func (.func 71) #[] #[.pointer (some ⟨go,0,none⟩),.pointer (some ⟨gb,0,none⟩)])),(17,In (k)),(16,In (l.length)),(15,Hi w l),(5,Jus (.func (.func 71) #[] #[.pointer (some ⟨go,0,none⟩),.pointer (some ⟨gb,0,none⟩)])),(4,Jus (.pointer (some ⟨G3_1,0,none⟩)))] [(G3_1,63,Qv ((gA l k))),(go,68,Wv ((gO1 l k)) ((gO2 l k))),(gb,68,Wv ((gB1 l k)) ((gB2 l k)))] a13 w13 := cast (by kernel_rfl) (S13.keep [4,5,15,16,17,24,26])
   clear S12
   refine Qe ?_
   refine Ds rfl rfl (S13.val 1 rfl) IR ?_
   have hq : QV w13 (a13.eval (.tmp 26)) ((z : Int) : Rat) := S13.fact 0 rfl
   have b0 := S13.box 0 _ _ _ rfl
   have b1 := S13.box 1 _ _ _ rfl
   have b2 := S13.box 2 _ _ _ rfl
   rw [show (#[Operand.tmp 26] : Array Operand).map a13.eval ++ #[.pointer (some ⟨go,0,none⟩),.pointer (some ⟨gb,0,none⟩)]=#[a13.eval (.tmp 26),.pointer (some ⟨go,0,none⟩),.pointer (some ⟨gb,0,none⟩)] from by simp]
   refine (PN (B := G3_1+1) (by have := b0.2.lt; omega) (by omega) (by omega) hne hq b1.2 b2.2 hs.1 hs.2.1 (Cy h0z (hr _ (List.mem_of_getElem? hz))) hs.2.2.1 hs.2.2.2 (g_next hz h0z)).mono ?_
   rintro _ wc ⟨hbc,hgc,v,rfl,hv,c1,c2⟩
   refine ⟨v,rfl,?_⟩
   have S13k : AS w 37 [(17,In (k)),(16,In (l.length)),(15,Hi w l),(5,Jus (.func (.func 71) #[] #[.pointer (some ⟨go,0,none⟩),.pointer (some ⟨gb,0,none⟩)])),(4,Jus (.pointer (some ⟨G3_1,0,none⟩)))] [(G3_1,63,Qv ((gA l k))),(go,68,Wv ((gO1 l k)) ((gO2 l k))),(gb,68,Wv ((gB1 l k)) ((gB2 l k)))] a13 w13 := cast (by kernel_rfl) (S13.keep [17,16,15,5,4])
   have S14 : AS w 37 [(27,Tup [Wv ((gB1 l (k+1))) ((gB2 l (k+1))),Wv ((gO1 l (k+1))) ((gO2 l (k+1)))]),(17,In (k)),(16,In (l.length)),(15,Hi w l),(5,Jus (.func (.func 71) #[] #[.pointer (some ⟨go,0,none⟩),.pointer (some ⟨gb,0,none⟩)])),(4,Jus (.pointer (some ⟨G3_1,0,none⟩)))] [(G3_1,63,Qv ((gA l k))),(go,68,Wv ((gO1 l (k+1))) ((gO2 l (k+1)))),(gb,68,Wv ((gB1 l (k+1))) ((gB2 l (k+1))))] (a13.put (some 27) v) wc := S13k.put (by decide) (S13.bel.trans (hbc.mono (by have := b0.1; omega))) hv (by intro x hx e; simp only [List.mem_cons,List.not_mem_nil,or_false] at hx; rcases hx with rfl | rfl | rfl | rfl | rfl <;> simp at e) (fun u G hm => G.st hgc (S13k.tmp u G hm)) (fun j G t F hj => by
    match j,hj with
    | 0,hj => cases hj; exact ⟨b0.1,b0.2.same hgc (hbc.block _ (by omega))⟩
    | 1,hj => cases hj; exact ⟨b1.1,c1⟩
    | 2,hj => cases hj; exact ⟨b2.1,c2⟩
    | j+3,hj => simp at hj) S13.dis
   obtain ⟨a14,ea14⟩ : ∃ a : Act,a=a13.put (some 27) v := ⟨_,rfl⟩
   rw [← ea14] at S14
   show wpList _ _ _ _ (a13.put (some 27) v) wc
   rw [← ea14]
   obtain ⟨w14,ew14⟩ : ∃ w : World,w=wc := ⟨_,rfl⟩
   subst ew14
   clear S13 S13k ea14 b0 b1 b2 hq hv c1 c2
   refine UC 4 ?_
   refine UQ [.pure (Tup [Wv ((gB1 l (k+1))) ((gB2 l (k+1))),Wv ((gO1 l (k+1))) ((gO2 l (k+1)))]),.pure (Wv ((gB1 l (k+1))) ((gB2 l (k+1)))),.pure (Wv ((gO1 l (k+1))) ((gO2 l (k+1)))),.alloc 68 (Any),.alloc 68 (Any),.fill 3 (Wv ((gB1 l (k+1))) ((gB2 l (k+1)))),.fill 4 (Wv ((gO1 l (k+1))) ((gO2 l (k+1))))] ⟨S14,by decide +kernel⟩ (by kernel_rfl) (by kernel_rfl) rfl (by kernel_rfl) ?_ ?_
   ·intro C
    refine ASteps.cons ?_ (ASteps.cons ?_ (ASteps.cons ?_ (ASteps.cons ?_ (ASteps.cons ?_ (ASteps.cons ?_ (ASteps.cons ?_ (ASteps.nil)))))))
    ·exact Qj rfl rfl (Qa rfl) rfl (Qh C 0 (by kernel_rfl) rfl)
    ·exact Zb (k := 0) rfl rfl (Qa rfl) rfl (Qc C 0 0 rfl rfl rfl rfl rfl rfl) rfl
    ·exact Zb (k := 1) rfl rfl (Qa rfl) rfl (Qc C 0 0 rfl rfl rfl rfl rfl rfl) rfl
    ·exact ZQ [.bool false,.slice none 0 0,.slice none 0 0,.bool false,.slice none 0 0,.slice none 0 0] Oh rfl rfl (Qa rfl) rfl (YD (s0 := 5) (k := 0) (by kernel_rfl) rfl rfl rfl rfl) YI (by simp [Qk]) (by kernel_rfl)
    ·exact ZQ [.bool false,.slice none 0 0,.slice none 0 0,.bool false,.slice none 0 0,.slice none 0 0] Oh rfl rfl (Qa rfl) rfl (YD (s0 := 6) (k := 0) (by kernel_rfl) rfl rfl rfl rfl) YI (by simp [Qk]) (by kernel_rfl)
    ·exact Vt C (a := 3) (k := 0) rfl rfl rfl rfl (Qa rfl) rfl rfl rfl rfl rfl (by decide) (Vy (by kernel_rfl)) (Qc C 1 1 rfl rfl rfl rfl rfl rfl) (XD (Vg _ _))
    ·exact Vt C (a := 4) (k := 0) rfl rfl rfl rfl (Qa rfl) rfl rfl rfl rfl rfl (by decide) (Vy (by kernel_rfl)) (Qc C 2 1 rfl rfl rfl rfl rfl rfl) (XD (Vg _ _))
   intro γ a15 w15 Z15 S15
   replace S15 : AS w 37 [(9,Jus (.pointer (some ⟨γ 4,0,none⟩))),(8,Jus (.pointer (some ⟨γ 3,0,none⟩))),(17,In (k)),(16,In (l.length)),(15,Hi w l),(5,Jus (.func (.func 71) #[] #[.pointer (some ⟨go,0,none⟩),.pointer (some ⟨gb,0,none⟩)])),(4,Jus (.pointer (some ⟨G3_1,0,none⟩)))] [(G3_1,63,Qv ((gA l k))),(go,68,Wv ((gO1 l (k+1))) ((gO2 l (k+1)))),(gb,68,Wv ((gB1 l (k+1))) ((gB2 l (k+1)))),(γ 3,68,Wv ((gB1 l (k+1))) ((gB2 l (k+1)))),(γ 4,68,Wv ((gO1 l (k+1))) ((gO2 l (k+1))))] a15 w15 := cast (by kernel_rfl) (S15.keep [4,5,8,9,15,16,17])
   generalize γ 3=G15_3 at S15
   generalize γ 4=G15_4 at S15
   clear S14
   refine Qe ?_
   refine Qi [.pure (Wv ((gB1 l (k+1))) ((gB2 l (k+1)))),.pure (Wv ((gO1 l (k+1))) ((gO2 l (k+1)))),.pure (Wv (((gB1 l (k+1))+(gO1 l (k+1)))) (((gB2 l (k+1))+(gO2 l (k+1))))),.pure (Qv ((gA l (k+1)))),.over 0 (Qv ((gA l (k+1))))] ⟨S15,by decide +kernel⟩ (by kernel_rfl) (by kernel_rfl) rfl (by kernel_rfl) ?_ ?_
   ·intro C
    refine ASteps.cons ?_ (ASteps.cons ?_ (ASteps.cons ?_ (ASteps.cons ?_ (ASteps.cons ?_ (ASteps.nil)))))
    ·exact QX (k := 3) rfl rfl rfl (Qa rfl) rfl (Qh C 1 (by kernel_rfl) rfl) (QK (by kernel_rfl)) XU
    ·exact QX (k := 4) rfl rfl rfl (Qa rfl) rfl (Qh C 0 (by kernel_rfl) rfl) (QK (by kernel_rfl)) XU
    ·exact Qm HPRE rfl rfl (Qa rfl) rfl UG (Opns.cons (Qc C 0 0 rfl rfl rfl rfl rfl rfl) (Opns.cons (Qc C 1 1 rfl rfl rfl rfl rfl rfl) Opns.nil)) ((con_up (Ph hs1.1 hs1.2.1 hs1.2.2.1 hs1.2.2.2 (by decide))))
    ·exact Qm HPRE rfl rfl (Qa rfl) rfl KY (Opns.cons (Qc C 2 0 rfl rfl rfl rfl rfl rfl) Opns.nil) ((Nk (QS.add hs1.1 hs1.2.2.1) (QS.add hs1.2.1 hs1.2.2.2) (by decide)))
    ·exact ZL C (k := 0) rfl rfl rfl (Qa rfl) rfl (Qh C 6 (by kernel_rfl) rfl) (by decide) (Jc (by kernel_rfl)) (Qc C 3 0 rfl rfl rfl rfl rfl rfl) (Xp (ZS _))
   intro γ a16 w16 Z16 S16
   replace S16 : AS w 37 [(17,In (k)),(16,In (l.length)),(15,Hi w l),(5,Jus (.func (.func 71) #[] #[.pointer (some ⟨go,0,none⟩),.pointer (some ⟨gb,0,none⟩)])),(4,Jus (.pointer (some ⟨G3_1,0,none⟩)))] [(G3_1,63,Qv ((gA l (k+1)))),(go,68,Wv ((gO1 l (k+1))) ((gO2 l (k+1)))),(gb,68,Wv ((gB1 l (k+1))) ((gB2 l (k+1)))),(G15_3,68,Wv ((gB1 l (k+1))) ((gB2 l (k+1)))),(G15_4,68,Wv ((gO1 l (k+1))) ((gO2 l (k+1))))] a16 w16 := cast (by kernel_rfl) (S16.keep [4,5,15,16,17])
   clear S15
   refine JJ ?_
   refine Qe ?_
   refine Qi [.pure (In (k+1)),.pure (In (k+1))] ⟨S16,by decide +kernel⟩ (by kernel_rfl) (by kernel_rfl) rfl (by kernel_rfl) ?_ ?_
   ·intro C
    refine ASteps.cons ?_ (ASteps.cons ?_ (ASteps.nil))
    ·exact Qz rfl rfl (Qa rfl) rfl (YS C 1 0 0 rfl rfl rfl rfl rfl rfl rfl) (Qo _) (UX _ _ _ _ _ _ (Ug (by omega) (by omega)))
    ·exact Qj rfl rfl (Qa rfl) rfl (Qc C 0 0 rfl rfl rfl rfl rfl rfl)
   intro γ a17 w17 Z17 S17
   replace S17 : AS w 37 [(17,In (k+1)),(16,In (l.length)),(15,Hi w l),(5,Jus (.func (.func 71) #[] #[.pointer (some ⟨go,0,none⟩),.pointer (some ⟨gb,0,none⟩)])),(4,Jus (.pointer (some ⟨G3_1,0,none⟩)))] [(G3_1,63,Qv ((gA l (k+1)))),(go,68,Wv ((gO1 l (k+1))) ((gO2 l (k+1)))),(gb,68,Wv ((gB1 l (k+1))) ((gB2 l (k+1)))),(G15_3,68,Wv ((gB1 l (k+1))) ((gB2 l (k+1)))),(G15_4,68,Wv ((gO1 l (k+1))) ((gO2 l (k+1))))] a17 w17 := cast (by kernel_rfl) (S17.keep [4,5,15,16,17])
   clear S16
   refine Qe ?_
   refine ⟨⟨k+1,⟨by omega,fun j z' hj hz' => ?_⟩,cast (by kernel_rfl) ((S17.keep [17,16,15,5,4]).takeB 3)⟩,?_⟩
   ·rcases Nat.lt_succ_iff_lt_or_eq.1 hj with hj | rfl
    ·exact hpos j z' hj hz'
    ·rw [hz] at hz'; cases hz'; exact h0z
   ·show l.length - (intOf (a17.tmps.getD 17 undef)).toNat < l.length - (intOf (a7.tmps.getD 17 undef)).toNat
    rw [hM,show a17.tmps.getD 17 undef=.int .i64 ((k : Int)+1) from S17.val 0 rfl]
    simp only [intOf]
    omega
 ·
  refine Qi [.pure (Bo false)] ⟨S7,by decide +kernel⟩ (by kernel_rfl) (by kernel_rfl) rfl (by kernel_rfl) ?_ ?_
  ·intro C
   refine ASteps.cons ?_ (ASteps.nil)
   ·exact Qz rfl rfl (Qa rfl) rfl (Qh C 0 (by kernel_rfl) rfl) (Qh C 1 (by kernel_rfl) rfl) (Zy _ _ _ _ _ _ (decide_eq_false h1))
  intro γ a18 w18 Z18 S18
  replace S18 : AS w 37 [(18,Bo false),(17,In (k)),(16,In (l.length)),(15,Hi w l),(5,Jus (.func (.func 71) #[] #[.pointer (some ⟨go,0,none⟩),.pointer (some ⟨gb,0,none⟩)])),(4,Jus (.pointer (some ⟨G3_1,0,none⟩)))] [(G3_1,63,Qv ((gA l k))),(go,68,Wv ((gO1 l k)) ((gO2 l k))),(gb,68,Wv ((gB1 l k)) ((gB2 l k)))] a18 w18 := cast (by kernel_rfl) (S18.keep [4,5,15,16,17,18])
  clear S7
  refine Qe ?_
  refine wp_seq ?_
  refine wp_cond_false (S18.val 0 rfl) ?_
  refine wp_exit ?_
  refine Xn ?_
  refine Xn ?_
  refine Yp ?_
  refine Qe ?_
  refine wp_seq ?_
  have hkn : k=l.length := by omega
  have hA : QS 15370 (gA l k) := QS.mono (QS.div (QS.add hs.2.1 hs.2.2.2) (QS.add hs.1 hs.2.2.1)) (by decide)
  refine Qi [.pure (Qv ((gA l k))),.pure (Tt ((gA l k))),.pure (Tt ((gA l k))),.pure (In (0))] ⟨S18,by decide +kernel⟩ (by kernel_rfl) (by kernel_rfl) rfl (by kernel_rfl) ?_ ?_
  ·intro C
   refine ASteps.cons ?_ (ASteps.cons ?_ (ASteps.cons ?_ (ASteps.cons ?_ (ASteps.nil))))
   ·exact QX (k := 0) rfl rfl rfl (Qa rfl) rfl (Qh C 5 (by kernel_rfl) rfl) (QK (by kernel_rfl)) Zm
   ·exact Qm HPRE rfl rfl (Qa rfl) rfl Gt (Opns.cons (Qc C 0 0 rfl rfl rfl rfl rfl rfl) Opns.nil) ((Hc hA (by decide)))
   ·exact Qn rfl rfl (Qa rfl) rfl (Qc C 1 0 rfl rfl rfl rfl rfl rfl)
   ·exact Qn rfl rfl (Qa rfl) rfl (Qo _)
  intro γ a19 w19 Z19 S19
  replace S19 : AS w 37 [(3,In (0)),(2,Tt ((gA l k)))] [(G3_1,63,Qv ((gA l k))),(go,68,Wv ((gO1 l k)) ((gO2 l k))),(gb,68,Wv ((gB1 l k)) ((gB2 l k)))] a19 w19 := cast (by kernel_rfl) (S19.keep [2,3])
  clear S18
  refine Qe ?_
  refine wp_ret ?_
  refine S19.retTT 1 0 rfl rfl rfl fun v v2 hv hv2 => ⟨S19.bel,_,rfl,Or.inr ⟨fun z hz => ?_,?_⟩⟩
  ·obtain ⟨j,hj⟩ := List.getElem?_of_mem hz
   exact hpos j z (by have := (List.getElem?_eq_some_iff.1 hj).1; omega) hj
  ·obtain ⟨s,rfl,hs⟩ := hv
   exact ⟨s,by rw [show v2=_ from hv2],by rw [hs,hkn]⟩
end Go.Proofs.YthhnabccdehmgaaGreatDoor
/- VW -/
namespace Go.Proofs.YthhnabccdehmgaaGreatDoor
open Go.RowKit Cx
def evL (σ : Nat→ByteArray) : List Rat→List Nd→List Rat
 | acc,[] => acc
 | acc,nd :: ns => evL σ (acc ++ [YP σ (fun a => acc.getD a 0) nd]) ns
theorem Df {σ : Nat→ByteArray} : ∀ (ns : List Nd) (acc : List Rat),∃ r,evL σ acc ns=acc ++ r∧r.length=ns.length
 | [],acc => ⟨[],by simp [evL]⟩
 | nd :: ns,acc => by
  obtain ⟨r,h1,h2⟩ := Df (σ := σ) ns (acc ++ [YP σ (fun a => acc.getD a 0) nd])
  refine ⟨YP σ (fun a => acc.getD a 0) nd :: r,?_,by simp [h2]⟩
  unfold evL
  rw [h1,List.append_assoc]
  rfl
theorem MK {σ : Nat→ByteArray} : ∀ (ns : List Nd) (acc : List Rat) (i : Nat) (nd : Nd),wfB acc.length ns=true→ns[i]? = some nd→(evL σ acc ns).getD (acc.length+i) 0=YP σ (fun a => (evL σ acc ns).getD a 0) nd
 | [],_,_,_,_,h => by simp at h
 | n :: ns,acc,0,nd,hw,h => by
  have : n=nd := by simpa using h
  subst this
  unfold wfB at hw
  rw [Bool.and_eq_true] at hw
  obtain ⟨r,h1,_⟩ := Df (σ := σ) ns (acc ++ [YP σ (fun a => acc.getD a 0) n])
  have e : evL σ acc (n :: ns)=acc ++ YP σ (fun a => acc.getD a 0) n :: r := by
   unfold evL
   rw [h1,List.append_assoc]
   rfl
  rw [e,Nat.add_zero,List.getD_eq_getElem?_getD,List.getElem?_append_right (Nat.le_refl _),Nat.sub_self]
  show YP σ (fun a => acc.getD a 0) n=_
  refine Cc hw.1 fun a ha => ?_
  rw [List.getD_eq_getElem?_getD,List.getD_eq_getElem?_getD,List.getElem?_append_left ha]
 | n :: ns,acc,i+1,nd,hw,h => by
  unfold wfB at hw
  rw [Bool.and_eq_true] at hw
  have := MK (σ := σ) ns (acc ++ [YP σ (fun a => acc.getD a 0) n]) i nd (by rw [List.length_append]; exact hw.2) (by simpa using h)
  rw [List.length_append,show acc.length+[YP σ (fun a => acc.getD a 0) n].length+i=acc.length+(i+1) by simp; omega] at this
  exact this
def hB (q : Nat→Rat) : List (Nat × Nat × Nat × Nat)→Bool
 | [] => true
 | (k,a,b,r) :: l => (match k with
  | 0 => Nat.beq 1 r == decide (q a=0)
  | 1 => Nat.beq 1 r == decide (q a < 0)
  | 2 => Nat.beq 1 r == decide (0 < q a)
  | 3 => Nat.beq 1 r == decide (q a=q b)
  | 4 => Nat.beq 1 r == decide (q a=q b)
  | 6 => Nat.beq 1 r == decide (q a=0∧q b=0)
  | 5 => (!Nat.beq r 0 || decide (q a < 0)) && ((!Nat.beq r 1 || decide (q a=0)) && (!Nat.beq r 2 || decide (0 < q a)))
  | _ => false) && hB q l
theorem WD {x : Bool} {p : Prop} [Decidable p] (h : (x == decide p)=true) : x=true ↔ p := by
 rw [beq_iff_eq] at h
 rw [h,decide_eq_true_eq]
theorem NC {q : Nat→Rat} : ∀ {l : List (Nat × Nat × Nat × Nat)},hB q l=true→AU q l
 | [],_ => trivial
 | (k,a,b,r) :: l,h => by
  unfold hB at h
  rw [Bool.and_eq_true] at h
  refine ⟨?_,NC h.2⟩
  have h1 := h.1
  unfold hAt
  match k,h1 with
  | 0,h => exact WD h
  | 1,h => exact WD h
  | 2,h => exact WD h
  | 3,h => exact WD h
  | 4,h => exact WD h
  | 6,h => exact WD h
  | 5,h0 =>
   have h : ((!Nat.beq r 0 || decide (q a < 0)) && ((!Nat.beq r 1 || decide (q a=0)) && (!Nat.beq r 2 || decide (0 < q a))))=true := h0
   simp only [Bool.and_eq_true,Bool.or_eq_true,Bool.not_eq_true',decide_eq_true_eq] at h
   obtain ⟨h1,h2,h3⟩ := h
   refine ⟨fun e => ?_,fun e => ?_,fun e => ?_⟩
   ·subst e; rcases h1 with h1 | h1
    ·cases h1
    ·exact h1
   ·subst e; rcases h2 with h1 | h1
    ·cases h1
    ·exact h1
   ·subst e; rcases h3 with h1 | h1
    ·cases h1
    ·exact h1
theorem MS {N : List Nd} {H : List (Nat × Nat × Nat × Nat)} {K : List (FuncId × List AC)} {L C : List (List Nat × Nat)} {Z : List Nat} {q : Nat→Rat} {σ : Nat→ByteArray} {cl : List FuncId} {f : FuncId} {args : List AV} {vs : List Value} (k : Nat) (Y : Hy N H L C Z q σ) (hc : ∀ f ∈ cl,Closed f) (hm : (Tryz.prog).follows .mixedOrders=true) (hr : (GN (sx Tryz.prog N H K L C Z (prC cl)) k f args [] 0).map (·.1)=some (kB true)) {w : World} (hp : QT w)
  (hA : A2 (avOn (cOn (evS q σ) K (fun _ => none) w)) args vs) : Calls Tryz.prog f vs.toArray w fun e w' => Below w.heap.size w w'∧e=.returned (.bool true) := by
 rw [Option.map_eq_some_iff] at hr
 obtain ⟨⟨v,p⟩,h1,h2⟩ := hr
 dsimp only at h2
 subst h2
 exact Nu Y hc hm h1 hp hA
theorem Bv {N : List Nd} {H : List (Nat × Nat × Nat × Nat)} {K : List (FuncId × List AC)} {L C : List (List Nat × Nat)} {Z : List Nat} {cl : List FuncId} {f : FuncId} (k : Nat) (hc : ∀ f ∈ cl,Closed f) (hm : (Tryz.prog).follows .mixedOrders=true) (hw : wfB 0 N=true) (hz : szB Z N Z=true) (hl : litB N L=true) (hcn : canB N C=true)
  (hH : hB (fun a => (evL (fun _ => ⟨#[]⟩) [] N).getD a 0) H=true) (hr : (GN (sx Tryz.prog N H K L C Z (prC cl)) k f [] [] 0).map (·.1)=some (kB true)) : Closed f := fun w hp => by
 have hq : ∀ (a : Nat) nd,N[a]? = some nd→(fun a => (evL (fun _ => ⟨#[]⟩) [] N).getD a 0) a=YP (fun _ => ⟨#[]⟩) (fun a => (evL (fun _ => ⟨#[]⟩) [] N).getD a 0) nd := fun a nd h => by
  have := MK (σ := fun _ => ⟨#[]⟩) N [] a nd hw h
  rw [List.length_nil,Nat.zero_add] at this
  exact this
 have h0 : ∀ a,N.length≤a→(fun a => (evL (fun _ => ⟨#[]⟩) [] N).getD a 0) a=0 := fun a ha => by
  obtain ⟨r,h1,h2⟩ := Df (σ := fun _ => ⟨#[]⟩) N []
  show (evL (fun _ => ⟨#[]⟩) [] N).getD a 0=0
  rw [h1,List.nil_append,List.getD_eq_getElem?_getD,List.getElem?_eq_none (by omega)]
  rfl
 exact MS (vs := []) k (hy_of (σ := fun _ => ⟨#[]⟩) (fun _ => by decide) hw hz hl hcn hq h0 (NC hH)) hc hm hr hp trivial
end Go.Proofs.YthhnabccdehmgaaGreatDoor
/- CSL -/
namespace Go.Proofs.YthhnabccdehmgaaGreatDoor
open Go.ChangeShapes Go.WideShapes Go.ChangeAt Go.RowKit Go.Deep
section
variable {H : Type} {enc : TypeId × Value→H} {P : Program}
theorem GY (hk : Kids P (· < P.types.size)) (hz : ∀ t e,t < P.types.size→P.underlying t=some (.slice e)→0 < P.cellsOf e) {W W' : World} (hb : Below W.heap.size W W') {sp : Nat→Bool} : ∀ {ts : List TypeId} {vs : List Value} {ds : List (DataW H)} {ps : List MemPlace},(∀ t ∈ ts,t < P.types.size) →
  DataW.TrodAll enc P W 0 (fun _ => true) true ts vs ds ps→(∀ p ∈ ps,sp p.block=true)→DataW.TrodAll enc P W' 0 sp true ts vs ds ps
 | [],vs,ds,ps,_,h,_ => by
  obtain ⟨rfl,rfl,rfl⟩ := trodAll_nil h
  exact trodAll_mk0
 | t :: ts,vs,ds,ps,hts,h,hs => by
  have hlt := h.lt
  obtain ⟨v,vs',d,ds',p,q,rfl,rfl,rfl,⟨n,h1⟩,h2⟩ := trodAll_cons h
  refine trodAll_cons_mk ⟨n,?_⟩ (GY hk hz hb (fun u hu => hts u (List.mem_cons_of_mem _ hu)) h2 fun x hx => hs x (List.mem_append_right _ hx))
  exact DataW.trod_stays hk (fun {t e} a b => hz t e a b) (fun e => by cases e) (hts t List.mem_cons_self) h1 (fun x hx => hb.same (hlt x (List.mem_append_left _ hx))) fun x hx => hs x (List.mem_append_left _ hx)
theorem LW {f : Func} {s : ChangeSpec} {apart fresh handsOn again : Bool} {W W' : World} {args : Array Value} {v : Value} {ds gs : List (DataW H)} {ps : List MemPlace} (hW : DataW.Whole enc P f.params.toList s.vars apart W args.toList ds gs ps) (hb : Below W.heap.size W W')
  (hr : ∀ (b : Nat) (sp : Nat→Bool) (hd : Bool),DataW.TrodAll enc P W' b sp hd f.resultTypes.toList (v.resultList f.resultTypes.size) (s.fn H (ds ++ gs)).results [])
  (ha : ∀ sp : Nat→Bool,(∀ p ∈ ps,sp p.block=true)→DataW.TrodAll enc P W' 0 sp true f.params.toList args.toList (s.fn H (ds ++ gs)).args ps)
  (hv : ∀ sp : Nat→Bool,DataW.TrodVars enc P W' sp s.vars (s.fn H (ds ++ gs)).vars [])
  (ho : ∀ (j : Nat) (t : TypeId) (r : Value),f.resultTypes[j]? = some t→(v.resultList f.resultTypes.size)[j]? = some r→Value.okWide P W' .any 0 t r) :
  s.post enc P f apart fresh handsOn again W args v W' := by
 have hlt := hW.lt
 have old : ∀ p ∈ ps,(fun b => decide (b < W.heap.size)) p.block=true := fun p hp => decide_eq_true (hlt p hp)
 have hW' := hW
 obtain ⟨_,_,_,_,_,z,n⟩ := hW'
 have e : ([] ++ ps) ++ []=ps := by simp
 refine ⟨ds,gs,ps,[],ps,[],hW,hr _ _ _,ha _ old,hv _,World.keptBut_mono (fun p hp => ⟨hp,Or.inr (Or.inl hp)⟩) (hb.frame (· ∈ ps)),fun _ => ⟨ho,_,_,([] ++ ps) ++ [],⟨[] ++ ps,[],trodAll_append (ha _ fun _ _ => rfl) (hr _ _ _),hv _,rfl,fun b o hp => ?_,fun h => ?_⟩,fun p hp _ => ?_⟩⟩
 ·rw [e] at hp
  rw [hb.frozen (p := ⟨b,o,none⟩) (hlt _ hp)]
  exact z b o hp
 ·rw [e]
  exact n h
 ·rw [e] at hp
  simpa using hp
end
def Texts (w : World) (k B : Nat) (v : Value) (l : List ByteArray) : Prop := ((∀ s ∈ l,s.size≤B)∧l.length≤k*B) ∧
 ((v=.slice none 0 0∧l=[]) ∨ ∃ a n c,v=.slice (some a) n c∧n≤maxLen∧l.length=k*n∧(0 < n→a.block < w.heap.size)∧∀ (i : Nat) s,l[i]? = some s→w.cell? (a.add i)=some (.string s))
theorem CE {w : World} {a : Addr} {v : Value} (h : w.cell? a=some v) : a.block < w.heap.size := by
 unfold World.cell? at h
 cases e : w.heap[a.block]? with
 | none => rw [e] at h; cases h
 | some o => exact (Array.getElem?_eq_some_iff.1 e).1
end Go.Proofs.YthhnabccdehmgaaGreatDoor
/- CSI -/
namespace Go.Proofs.YthhnabccdehmgaaGreatDoor
open Go.ChangeShapes Go.WideShapes Go.ChangeAt Go.RowKit Go.Deep
theorem wf_i64 {z : Int} (h : (Lit.int .i64 z).wf=true) : z < 9223372036854775808 := by
 simp [Lit.wf] at h
 omega
theorem EN {H : Type} {enc : TypeId × Value→H} {P : Program} {w : World} {base : Nat} {t e : TypeId} {v : Value} {d : DataW H} {ps : List MemPlace} (ht : P.underlying t=some (.slice e)) (he : P.underlying e=some (.int .i64)) (hk : P.cellsOf e=1)
  (hv : Value.okWide P w .any base t v) (h : DataW.Trod enc P w 0 (fun _ => true) true t v d ps) : ∃ l : List Int,(Hi w l).on v w∧∀ z ∈ l,z < 9223372036854775808 := by
 obtain ⟨a0,len0,WH,rfl⟩ := okWide_slice ht hv
 obtain ⟨fuel,hf⟩ := h
 rcases open_slice ht hf with ⟨hc,_⟩ | ⟨a,len,cap,m,n,D,Pl,hc,_,hl,hm,hmm,hx,hD⟩
 ·have e := (List.cons.inj (show ([Value.slice a0 len0 WH] : List Value)=_ from hc)).1
  rw [e]
  exact ⟨[],⟨none,0,rfl,fun i z hz => by simp at hz⟩,fun z hz => by cases hz⟩
 ·have hv' : Value.slice a0 len0 WH=.slice (some a) len cap := (List.cons.inj (show ([Value.slice a0 len0 WH] : List Value)=_ from hc)).1
  rw [hk] at hD
  have hmc : m=cap := by simpa using hmm
  obtain ⟨f,hF⟩ := choose_lt (α := Int) (n := len) (p := fun i z => w.cell? (a.add i)=some (.int .i64 z)∧z < 9223372036854775808) fun i hi => by
   obtain ⟨cs',g1,g2⟩ := hD i (by omega)
   obtain ⟨_,g3,g4⟩ := World.cells?_some g1
   obtain ⟨z,rfl,_,hw⟩ := DataW.trod_int he g2
   refine ⟨z,?_,wf_i64 hw⟩
   have := g4 0 (by decide)
   rw [Nat.mul_one] at this
   rw [Cx.add_add,Nat.add_zero] at this
   simpa using this
  refine ⟨(List.range len).map f,⟨some a,cap,?_,fun i z hz => ?_⟩,fun z hz => ?_⟩
  ·rw [hv',List.length_map,List.length_range]
  ·have hi : i < len := by
    have := (List.getElem?_eq_some_iff.1 hz).1
    simpa using this
   have e : z=f i := by
    rw [List.getElem?_map,List.getElem?_range hi] at hz
    simpa using hz.symm
   have hc := (hF i hi).1
   have hb := CE hc
   rw [Cx.add_block] at hb
   exact ⟨a,rfl,hb,by rw [hc,e]⟩
  ·obtain ⟨i,hi,rfl⟩ := List.mem_map.1 hz
   exact (hF i (List.mem_range.1 hi)).2
end Go.Proofs.YthhnabccdehmgaaGreatDoor
