/- Part 13 of the walks and of the mathematics under them: CFcornered VY VSZ VSA MGY. -/
import Derived.Test.YtdchineebfdkcaaGreatDoorA12
set_option maxHeartbeats 16000000
set_option maxRecDepth 100000
/- CFcornered -/
namespace Go.Proofs.YtdchineebfdkcaaGreatDoor
open Go.RowKit Cx
theorem closed_cornered : Closed 8 :=
 closed_told (N := [(0,[0,0,1]),(0,[0,4,1]),(0,[0,3,1]),(3,[1,0]),(3,[0,0]),(3,[2,0]),(4,[3,5]),(4,[4,4]),(3,[6,7]),(3,[0,1]),(4,[9,9]),(4,[5,5]),(2,[10,11]),(3,[0,2]),(4,[13,13]),(2,[7,14]),(4,[3,3]),(2,[16,7]),(5,[12]),(2,[15,17]),(2,[19,18]),(4,[12,20]),(5,[15]),(2,[17,12]),(2,[23,22]),(4,[15,24]),(5,[17]),(2,[12,15]),(2,[27,26]),(4,[17,28]),(2,[21,25]),(2,[30,29]),(4,[0,21]),(2,[0,32]),(4,[1,25]),(4,[0,25]),(2,[33,34]),(2,[33,35]),(4,[0,29]),(4,[2,29]),(2,[36,38]),(2,[37,39]),(6,[40,31]),(6,[41,31]),(2,[12,17]),(2,[44,22]),(4,[28,45]),(2,[15,12]),(2,[47,26]),(4,[20,48]),(2,[17,15]),(2,[50,18]),(4,[24,51]),(2,[46,49]),(2,[53,52]),(4,[0,46]),(2,[0,55]),(4,[1,49]),(4,[0,49]),(2,[56,57]),(2,[56,58]),(4,[0,52]),(4,[2,52]),(2,[59,61]),(2,[60,62]),(6,[63,54]),(6,[64,54]),(0,[0,2,1]),(0,[0,3,2]),(0,[0,25,1]),(0,[0,9,1]),(0,[0,16,1])]) (H := [(0,8,0,0),(0,31,0,0),(0,54,0,0),(4,42,67,1),(4,43,68,1),(4,65,0,1),(4,66,0,1),(4,12,69,1),(4,15,70,1),(4,17,71,1)]) (K := [(45,[]),(154,[]),(156,[]),(117,[]),(43,[])]) (L := [([48],0),([52],1),([51],2),([50],67),([51,47,50],68),([50,53],69),([57],70),([49,54],71)]) (C := [([50],67),([51,47,50],68),([48],0),([50,53],69),([57],70),([49,54],71)]) (Z := [2,4,3,7,5,6,13,10,24,7,14,12,27,6,12,23,14,25,27,49,77,104,23,53,77,100,25,51,77,102,205,308,106,109,104,102,214,212,104,105,319,318,627,626,53,77,154,51,77,154,49,77,154,309,464,156,159,158,156,318,316,156,157,475,474,939,938,3,3,6,5,6]) (cl := []) 8 (fun _ h => by cases h) (by kernel_rfl) (by kernel_rfl) (by kernel_rfl) (by kernel_rfl) (by kernel_rfl) (by kernel_rfl) (by kernel_rfl)
end Go.Proofs.YtdchineebfdkcaaGreatDoor
/- VY -/
namespace Go.Proofs.YtdchineebfdkcaaGreatDoor
open Go.RowKit Cx
theorem den_num (t : Rat) : t*(t.den : Rat)=((t.num : Int) : Rat) := by
 conv => lhs; lhs; rw [← Rat.mkRat_self t]
 have h0 : (t.den : Rat) ≠ 0 := fun h => t.den_nz (by exact_mod_cast h)
 rw [Rat.mkRat_eq_div,Rat.div_mul_cancel h0]
theorem whole {q : Rat} (h : q.den=1) : q=((q.num : Int) : Rat) := by
 have := den_num q
 rw [h] at this
 rw [← this]
 show q=q*((1 : Nat) : Rat)
 exact (Rat.mul_one q).symm
end Go.Proofs.YtdchineebfdkcaaGreatDoor
/- VSZ -/
namespace Go.Proofs.YtdchineebfdkcaaGreatDoor
open Go.RowKit Cx
structure QW (z : Nat) (x : Rat) : Prop where
 qs : QS z x
 wh : x.den=1
theorem QW.of {z : Nat} {n : Int} (h : n.natAbs < 2 ^ z) (hz : 0 < z) : QW z ((n : Int) : Rat) :=
 ⟨⟨by simpa using h,by
  show ((n : Int) : Rat).den < 2 ^ z
  rw [Rat.den_intCast]
  exact Nat.one_lt_two_pow (by omega)⟩,Rat.den_intCast n⟩
theorem QW.mono {k l : Nat} {x : Rat} (h : QW k x) (hk : k≤l) : QW l x := ⟨h.qs.mono hk,h.wh⟩
theorem two_max {a b x y : Nat} (h1 : a < 2 ^ x) (h2 : b < 2 ^ y) : a+b < 2 ^ (Nat.max x y+1) := by
 have e1 : 2 ^ x≤2 ^ Nat.max x y := Nat.pow_le_pow_right (by decide) (Nat.le_max_left x y)
 have e2 : 2 ^ y≤2 ^ Nat.max x y := Nat.pow_le_pow_right (by decide) (Nat.le_max_right x y)
 rw [Nat.pow_succ]
 omega
theorem QW.add {x y : Nat} {a b : Rat} (h1 : QW x a) (h2 : QW y b) : QW (Nat.max x y+1) (a+b) := by
 rw [whole h1.wh,whole h2.wh,← Rat.intCast_add]
 refine QW.of ?_ (by omega)
 have := two_max h1.qs.num h2.qs.num
 omega
theorem QW.sub {x y : Nat} {a b : Rat} (h1 : QW x a) (h2 : QW y b) : QW (Nat.max x y+1) (a - b) := by
 rw [whole h1.wh,whole h2.wh,← Rat.intCast_sub]
 refine QW.of ?_ (by omega)
 have := two_max h1.qs.num h2.qs.num
 omega
theorem QW.mul {x y : Nat} {a b : Rat} (h1 : QW x a) (h2 : QW y b) : QW (x+y) (a*b) := by
 refine ⟨h1.qs.mul h2.qs,?_⟩
 rw [whole h1.wh,whole h2.wh,← Rat.intCast_mul]
 exact Rat.den_intCast _
theorem QW.neg {x : Nat} {a : Rat} (h1 : QW x a) : QW x (-a) := ⟨h1.qs.neg,h1.wh⟩
theorem ten_three : ∀ n : Nat,10 ^ n≤2 ^ ((10*n+2) / 3)
 | 0 => by decide
 | 1 => by decide
 | 2 => by decide
 | n+3 => by
  have h := ten_three n
  have e : (10*(n+3)+2) / 3=(10*n+2) / 3+10 := by omega
  rw [e,Nat.pow_add,Nat.pow_add]
  exact Nat.mul_le_mul h (by decide)
theorem QS.rd3 (l : List UInt8) : QS ((10*l.length+2) / 3+5) (Cx.rd l) := by
 have key : ∀ {m : List UInt8},digs m=true→dv m < 2 ^ ((10*m.length+2) / 3) := fun {m} h => Nat.lt_of_lt_of_le (dv_lt (digs_all h)) (ten_three _)
 unfold Cx.rd
 split
 ·rename_i h
  rw [Bool.and_eq_true] at h
  have h1 := key h.1
  have h2 := key h.2
  have h3 := up_len (tailOf l)
  have h4 := low_len (tailOf l)
  have h5 := tail_len l
  apply QS.mkr
  ·rw [sg_abs]; exact Nat.lt_of_lt_of_le h1 (Nat.pow_le_pow_right (by decide) (by omega))
  ·exact Nat.lt_of_lt_of_le h2 (Nat.pow_le_pow_right (by decide) (by omega))
 ·exact QS.zero.mono (by omega)
section
variable {N : List Nd} {Z : List Nat} {I : List Bool} {q : Nat→Rat}
end
end Go.Proofs.YtdchineebfdkcaaGreatDoor
/- VSA -/
namespace Go.Proofs.YtdchineebfdkcaaGreatDoor
open Go.RowKit Cx
def inB : Nat := 3495259
abbrev Atm := Nat × Nat
def remA (x : Atm) : List Atm→Option (List Atm)
 | [] => none
 | y :: l => bif Nat.beq x.1 y.1 && Nat.beq x.2 y.2 then some l else (remA x l).map (y :: ·)
def subA : List Atm→List Atm→Option (List Atm)
 | l,[] => some l
 | l,x :: r => (remA x l).bind fun l' => subA l' r
def leftA : List Atm→List Atm→List Atm
 | _,[] => []
 | U,x :: D => match remA x U with
  | some U' => leftA U' D
  | none => x :: leftA U D
def uniA (E : List (Nat × List Atm)) : List Nat→List Atm→List Atm
 | [],U => U
 | a :: l,U => uniA E l (match E[a]? with
  | some p => U ++ leftA U p.2
  | none => U)
def bitA (E : List (Nat × List Atm)) (x : Atm) : Nat := match x.1 with
 | 0 => inB
 | 1 => (match E[x.2]? with
  | some p => p.1
  | none => 1)
 | _ => Nat.log2 x.2+1
def bitL (E : List (Nat × List Atm)) : List Atm→Nat
 | [] => 1
 | x :: l => bitA E x+bitL E l
def noneA (l : Option (List Atm)) : Bool := match l with
 | some [] => true
 | _ => false
def saN (E : List (Nat × List Atm)) (k z : Nat) (D : List Atm) (nd : Nd) : Bool := (Nat.blt 0 z && D.all fun x => !Nat.beq x.1 1 || Nat.blt x.2 k) && match nd.1,nd.2 with
 | 0,[_,n,d] => (Nat.blt n (2 ^ z) && Nat.blt 0 d) && noneA (subA D (bif Nat.beq d 1 then [] else [(2,d)]))
 | 1,[j] => Nat.ble inB z && noneA (subA D [(0,j)])
 | 2,[a,b] => (match E[a]?,E[b]? with
  | some p,some r => (match subA D p.2,subA D r.2 with
   | some c,some e => Nat.ble (Nat.max (p.1+bitL E c) (r.1+bitL E e)+1) z
   | _,_ => false)
  | _,_ => false)
 | 3,[a,b] => (match E[a]?,E[b]? with
  | some p,some r => (match subA D p.2,subA D r.2 with
   | some c,some e => Nat.ble (Nat.max (p.1+bitL E c) (r.1+bitL E e)+1) z
   | _,_ => false)
  | _,_ => false)
 | 4,[a,b] => (match E[a]?,E[b]? with
  | some p,some r => (match subA D p.2 with
   | some c => noneA (subA c r.2) && Nat.ble (p.1+r.1) z
   | _ => false)
  | _,_ => false)
 | 5,[a] => (match E[a]? with
  | some p => noneA (subA D p.2) && Nat.ble p.1 z
  | _ => false)
 | 6,[a,b] => (match E[a]?,E[b]?,remA (1,b) D with
  | some p,some r,some D' => (match subA p.2 D' with
   | some c => (match subA r.2 c with
    | some e => Nat.ble (p.1+bitL E e) z
    | none => false)
   | none => false)
  | _,_,_ => false)
 | 7,_ => Nat.beq D.length 0
 | 8,i :: xs => Nat.beq D.length 0 && (xs.all (fun a => match E[a]? with
   | some p => (subA (uniA E xs []) p.2).isSome
   | none => false) && (match xs[i]? with
   | some a => (match E[a]? with
    | some p => (match subA (uniA E xs []) p.2 with
     | some e => Nat.ble (p.1+bitL E e) z
     | none => false)
    | none => false)
   | none => false))
 | _,_ => false
def saB (E : List (Nat × List Atm)) : Nat→List Nd→List (Nat × List Atm)→List Nat→Bool
 | _,[],[],[] => true
 | k,nd :: ns,p :: ps,z :: zs => (saN E k p.1 p.2 nd && (Nat.ble p.1 z && (Nat.ble (bitL E p.2) z && Nat.ble z 1000000000000))) && saB E (k+1) ns ps zs
 | _,_,_,_ => false
theorem saB_get {E : List (Nat × List Atm)} : ∀ {ns : List Nd} {ps : List (Nat × List Atm)} {zs : List Nat} {k i : Nat} {nd : Nd},saB E k ns ps zs=true→ns[i]? = some nd→∃ p z,ps[i]? = some p∧zs[i]? = some z∧saN E (k+i) p.1 p.2 nd=true∧p.1≤z∧bitL E p.2≤z∧z≤1000000000000
 | [],_,_,_,_,_,_,h => by simp at h
 | _ :: _,[],_,_,_,_,h,_ => by cases h
 | _ :: _,_ :: _,[],_,_,_,h,_ => by cases h
 | nd' :: ns,p :: ps,z :: zs,k,0,nd,h,e => by
  have : nd'=nd := by simpa using e
  subst this
  unfold saB at h
  simp only [Bool.and_eq_true,Nat.ble_eq] at h
  exact ⟨p,z,rfl,rfl,h.1.1,h.1.2.1,h.1.2.2.1,h.1.2.2.2⟩
 | nd' :: ns,p :: ps,z :: zs,k,i+1,nd,h,e => by
  unfold saB at h
  rw [Bool.and_eq_true] at h
  obtain ⟨p',z',g1,g2,g3,g4⟩ := saB_get (k := k+1) (i := i) h.2 (by simpa using e)
  exact ⟨p',z',by simpa using g1,by simpa using g2,by rw [show k+(i+1)=k+1+i by omega]; exact g3,g4⟩
theorem saB_len {E : List (Nat × List Atm)} : ∀ {ns : List Nd} {ps : List (Nat × List Atm)} {zs : List Nat} {k : Nat},saB E k ns ps zs=true→ns.length=ps.length∧ns.length=zs.length
 | [],[],[],_,_ => ⟨rfl,rfl⟩
 | [],[],_ :: _,_,h => by cases h
 | [],_ :: _,_,_,h => by cases h
 | _ :: _,[],_,_,h => by cases h
 | _ :: _,_ :: _,[],_,h => by cases h
 | _ :: _,_ :: _,_ :: _,k,h => by
  unfold saB at h
  rw [Bool.and_eq_true] at h
  have := saB_len h.2
  exact ⟨congrArg (· + 1) this.1,congrArg (· + 1) this.2⟩
def valA (dn : Nat→Nat) (M : Nat→Rat) (x : Atm) : Rat := match x.1 with
 | 0 => ((dn x.2 : Nat) : Rat)
 | 1 => if M x.2=0 then 1 else M x.2
 | _ => if x.2=0 then 1 else ((x.2 : Nat) : Rat)
def proA (dn : Nat→Nat) (M : Nat→Rat) : List Atm→Rat
 | [] => 1
 | x :: l => valA dn M x*proA dn M l
theorem remA_pro {dn : Nat→Nat} {M : Nat→Rat} {x : Atm} : ∀ {l c : List Atm},remA x l=some c→proA dn M l=valA dn M x*proA dn M c
 | [],_,h => by cases h
 | y :: l,c,h => by
  unfold remA at h
  cases e : (Nat.beq x.1 y.1 && Nat.beq x.2 y.2) with
  | true =>
   rw [e] at h
   cases h
   rw [Bool.and_eq_true,Nat.beq_eq,Nat.beq_eq] at e
   have : x=y := Prod.ext e.1 e.2
   rw [this]
   rfl
  | false =>
   rw [e] at h
   simp only [cond_false,Option.map_eq_some_iff] at h
   obtain ⟨c',h1,rfl⟩ := h
   show valA dn M y*proA dn M l=valA dn M x*(valA dn M y*proA dn M c')
   rw [remA_pro h1]
   grind
theorem subA_pro {dn : Nat→Nat} {M : Nat→Rat} : ∀ {r l c : List Atm},subA l r=some c→proA dn M l=proA dn M r*proA dn M c
 | [],l,c,h => by
  have : l=c := by simpa [subA] using h
  rw [this]
  exact (Rat.one_mul _).symm
 | x :: r,l,c,h => by
  unfold subA at h
  rw [Option.bind_eq_some_iff] at h
  obtain ⟨l',h1,h2⟩ := h
  rw [remA_pro h1,subA_pro h2]
  exact (Rat.mul_assoc _ _ _).symm
theorem noneA_some {l : Option (List Atm)} (h : noneA l=true) : l=some [] := by
 unfold noneA at h
 split at h
 ·rfl
 ·cases h
theorem QW.one {z : Nat} (h : 0 < z) : QW z 1 := ⟨⟨by
  show (1 : Int).natAbs < 2 ^ z
  exact Nat.one_lt_two_pow (by omega),by
  show 1 < 2 ^ z
  exact Nat.one_lt_two_pow (by omega)⟩,rfl⟩
theorem QW.zero {z : Nat} (h : 0 < z) : QW z 0 := ⟨⟨by
  show (0 : Int).natAbs < 2 ^ z
  exact Nat.two_pow_pos z,by
  show 1 < 2 ^ z
  exact Nat.one_lt_two_pow (by omega)⟩,rfl⟩
theorem QW.nat {z n : Nat} (h : n < 2 ^ z) (hz : 0 < z) : QW z ((n : Nat) : Rat) := by
 have : ((n : Nat) : Rat)=(((n : Nat) : Int) : Rat) := (Rat.intCast_natCast n).symm
 rw [this]
 exact QW.of (by simpa using h) hz
section
variable {E : List (Nat × List Atm)} {dn : Nat→Nat} {M : Nat→Rat} {k : Nat}
def BelA (E : List (Nat × List Atm)) (dn : Nat→Nat) (M : Nat→Rat) (q : Nat→Rat) (k : Nat) : Prop := ∀ a,a < k→∃ p,E[a]? = some p∧QW p.1 (M a)∧0 < p.1∧(∀ x ∈ p.2,x.1=1→x.2 < a)∧q a*proA dn M p.2=M a
theorem valA_ok {q : Nat→Rat} (hdn : ∀ j,0 < dn j∧dn j < 2 ^ inB) (hM : BelA E dn M q k) {x : Atm} (hx : x.1=1→x.2 < k) : QW (bitA E x) (valA dn M x)∧valA dn M x ≠ 0 := by
 obtain ⟨i,j⟩ := x
 match i with
 | 0 =>
  show QW inB ((dn j : Nat) : Rat)∧((dn j : Nat) : Rat) ≠ 0
  refine ⟨QW.nat (hdn j).2 (by unfold inB; omega),fun h => ?_⟩
  have := (hdn j).1
  have h2 : dn j=0 := by exact_mod_cast h
  omega
 | 1 =>
  obtain ⟨p,h1,h2,h3,_⟩ := hM j (hx rfl)
  show QW (match E[j]? with
   | some p => p.1
   | none => 1) (if M j=0 then 1 else M j)∧(if M j=0 then 1 else M j) ≠ 0
  rw [h1]
  by_cases h : M j=0
  ·rw [if_pos h]
   exact ⟨QW.one h3,by decide⟩
  ·rw [if_neg h]
   exact ⟨h2,h⟩
 | i+2 =>
  show QW (Nat.log2 j+1) (if j=0 then 1 else ((j : Nat) : Rat))∧(if j=0 then 1 else ((j : Nat) : Rat)) ≠ 0
  by_cases h : j=0
  ·rw [if_pos h]
   exact ⟨QW.one (by omega),by decide⟩
  ·rw [if_neg h]
   refine ⟨QW.nat Nat.lt_log2_self (by omega),fun h2 => h ?_⟩
   exact_mod_cast h2
theorem proA_ok {q : Nat→Rat} (hdn : ∀ j,0 < dn j∧dn j < 2 ^ inB) (hM : BelA E dn M q k) : ∀ {l : List Atm},(∀ x ∈ l,x.1=1→x.2 < k)→QW (bitL E l) (proA dn M l)∧proA dn M l ≠ 0
 | [],_ => ⟨QW.one (show 0 < 1 by decide),by show (1 : Rat) ≠ 0; decide⟩
 | x :: l,h => by
  have h1 := valA_ok hdn hM (h x List.mem_cons_self)
  have h2 := proA_ok hdn hM (l := l) fun y hy => h y (List.mem_cons_of_mem _ hy)
  exact ⟨h1.1.mul h2.1,mul_ne h1.2 h2.2⟩
theorem proA_congr {M' : Nat→Rat} : ∀ {l : List Atm},(∀ x ∈ l,x.1=1→M x.2=M' x.2)→proA dn M l=proA dn M' l
 | [],_ => rfl
 | x :: l,h => by
  show valA dn M x*proA dn M l=valA dn M' x*proA dn M' l
  rw [proA_congr (l := l) fun y hy => h y (List.mem_cons_of_mem _ hy)]
  have e : valA dn M x=valA dn M' x := by
   obtain ⟨i,j⟩ := x
   match i with
   | 0 => rfl
   | 1 =>
    have := h (1,j) List.mem_cons_self rfl
    show (if M j=0 then 1 else M j)=(if M' j=0 then 1 else M' j)
    rw [this]
   | i+2 => rfl
  rw [e]
theorem remA_mem {x y : Atm} : ∀ {l c : List Atm},remA x l=some c→y ∈ c→y ∈ l
 | [],_,h,_ => by cases h
 | z :: l,c,h,hy => by
  unfold remA at h
  cases e : (Nat.beq x.1 z.1 && Nat.beq x.2 z.2) with
  | true => rw [e] at h; cases h; exact List.mem_cons_of_mem _ hy
  | false =>
   rw [e] at h
   simp only [cond_false,Option.map_eq_some_iff] at h
   obtain ⟨c',h1,rfl⟩ := h
   rcases List.mem_cons.1 hy with rfl | hy
   ·exact List.mem_cons_self
   ·exact List.mem_cons_of_mem _ (remA_mem h1 hy)
theorem subA_mem {y : Atm} : ∀ {r l c : List Atm},subA l r=some c→y ∈ c→y ∈ l
 | [],l,c,h,hy => by
  have : l=c := by simpa [subA] using h
  rw [this]; exact hy
 | x :: r,l,c,h,hy => by
  unfold subA at h
  rw [Option.bind_eq_some_iff] at h
  obtain ⟨l',h1,h2⟩ := h
  exact remA_mem h1 (subA_mem h2 hy)
theorem nat_ne {n : Nat} (h : n ≠ 0) : ((n : Nat) : Rat) ≠ 0 := fun e => h (by exact_mod_cast e)
theorem mul_low (x : Rat) : x*((x.den : Nat) : Rat)=((x.num : Int) : Rat) := by
 have e : x=((x.num : Int) : Rat) / ((x.den : Nat) : Rat) := by
  have := Rat.mkRat_self x
  rw [Rat.mkRat_eq_div] at this
  exact this.symm
 conv => lhs; lhs; rw [e]
 exact Rat.div_mul_cancel (nat_ne x.den_nz)
theorem lD_dvd_of {qs : List Rat} {m M : Nat} (hm : m ∣ M) (h : ∀ q ∈ qs,q.den ∣ M) : qs.foldl (fun m q => m*(q.den / Nat.gcd m q.den)) m ∣ M := by
 induction qs generalizing m with
 | nil => exact hm
 | cons q qs ih =>
  rw [List.foldl_cons]
  refine ih ?_ fun p hp => h p (List.mem_cons_of_mem _ hp)
  have e : m*(q.den / Nat.gcd m q.den)=Nat.lcm m q.den := by
   unfold Nat.lcm
   exact (Nat.mul_div_assoc _ (Nat.gcd_dvd_right _ _)).symm
  rw [e]
  exact Nat.lcm_dvd hm (h q List.mem_cons_self)
theorem den_dvd {x : Rat} {m : Int} (h : (x*((m : Int) : Rat)).den=1) : x.den ∣ m.natAbs := by
 have e := whole h
 generalize (x*((m : Int) : Rat)).num=n at e
 have h1 : x*((x.den : Nat) : Rat)=((x.num : Int) : Rat) := mul_low x
 have h2 : ((x.num : Int) : Rat)*((m : Int) : Rat)=((n : Int) : Rat)*(((x.den : Nat) : Int) : Rat) := by
  rw [← h1,← e,Rat.intCast_natCast]
  grind
 have h3 : x.num*m=n*(x.den : Int) := by exact_mod_cast h2
 have h4 : (x.den : Int) ∣ x.num*m := ⟨n,by rw [h3,Int.mul_comm]⟩
 have h5 : x.den ∣ x.num.natAbs*m.natAbs := by
  have := Int.natAbs_dvd_natAbs.2 h4
  rwa [Int.natAbs_mul,Int.natAbs_natCast] at this
 exact (Nat.Coprime.symm x.reduced).dvd_of_dvd_mul_left h5
theorem fac_whole {qs : List Rat} {x : Rat} {z : Nat} {m : Int} (hx : x ∈ qs) (hm : m ≠ 0) (hall : ∀ y ∈ qs,(y*((m : Int) : Rat)).den=1) (hz : QW z (x*((m : Int) : Rat))) : QW z (x*fac qs) := by
 have hl : lD qs ∣ m.natAbs := lD_dvd_of (Nat.one_dvd _) fun y hy => den_dvd (hall y hy)
 have hd := fac_den hx
 have hpos : 0 < m.natAbs := Int.natAbs_pos.2 hm
 have hle : lD qs≤m.natAbs := Nat.le_of_dvd hpos hl
 have hn : (x*fac qs).num.natAbs≤(x*((m : Int) : Rat)).num.natAbs := by
  rw [fac_abs hx]
  have e := whole hz.wh
  generalize (x*((m : Int) : Rat)).num=n at e
  have h1 : x*((x.den : Nat) : Rat)=((x.num : Int) : Rat) := mul_low x
  have h2 : ((x.num : Int) : Rat)*((m : Int) : Rat)=((n : Int) : Rat)*(((x.den : Nat) : Int) : Rat) := by
   rw [← h1,← e,Rat.intCast_natCast]
   grind
  have h3 : x.num*m=n*(x.den : Int) := by exact_mod_cast h2
  have h4 : x.num.natAbs*m.natAbs=n.natAbs*x.den := by
   have := congrArg Int.natAbs h3
   rwa [Int.natAbs_mul,Int.natAbs_mul,Int.natAbs_natCast] at this
  obtain ⟨c,hc⟩ := den_dvd (x := x) (m := m) (hall x hx)
  have h5 : n.natAbs=x.num.natAbs*c := by
   rw [hc] at h4
   refine Nat.eq_of_mul_eq_mul_right x.den_pos ?_
   rw [← h4]
   rw [Nat.mul_assoc,Nat.mul_comm c]
  show x.num.natAbs / gN qs*(lD qs / x.den)≤n.natAbs
  rw [h5]
  refine Nat.mul_le_mul (Nat.div_le_self _ _) ?_
  have : lD qs / x.den≤m.natAbs / x.den := Nat.div_le_div_right hle
  rw [hc,Nat.mul_div_cancel_left _ x.den_pos] at this
  exact this
 refine ⟨⟨Nat.lt_of_le_of_lt hn hz.qs.num,?_⟩,hd⟩
 rw [hd]
 have := hz.qs.den
 rw [hz.wh] at this
 exact this
theorem leftA_mem {y : Atm} : ∀ {D U : List Atm},y ∈ leftA U D→y ∈ D
 | [],_,h => by cases h
 | x :: D,U,h => by
  unfold leftA at h
  split at h
  ·exact List.mem_cons_of_mem _ (leftA_mem h)
  ·rcases List.mem_cons.1 h with rfl | h
   ·exact List.mem_cons_self
   ·exact List.mem_cons_of_mem _ (leftA_mem h)
theorem uniA_low {q : Nat→Rat} (hM : BelA E dn M q k) : ∀ {l : List Nat} {U : List Atm},(∀ c ∈ l,c < k)→(∀ x ∈ U,x.1=1→x.2 < k)→∀ x ∈ uniA E l U,x.1=1→x.2 < k
 | [],_,_,hU => hU
 | a :: l,U,hl,hU => by
  unfold uniA
  refine uniA_low hM (fun c hc => hl c (List.mem_cons_of_mem _ hc)) ?_
  have ha := hl a List.mem_cons_self
  obtain ⟨p,h1,_,_,h4,_⟩ := hM a ha
  rw [h1]
  intro x hx h
  rcases List.mem_append.1 hx with hx | hx
  ·exact hU x hx h
  ·exact Nat.lt_trans (h4 x (leftA_mem hx) h) ha
theorem node_ok {q : Nat→Rat} {σ : Nat→ByteArray} (hσ : ∀ j,(σ j).size≤1048576) (hdn : ∀ j,dn j=(Cx.rd (σ j).data.toList).den) (hM : BelA E dn M q k) {z : Nat} {D : List Atm} {nd : Nd} (hwf : wfN k nd=true) (hs : saN E k z D nd=true) : QW z (valN σ q nd*proA dn M D)∧0 < z∧∀ x ∈ D,x.1=1→x.2 < k := by
 have hdn' : ∀ j,0 < dn j∧dn j < 2 ^ inB := fun j => by
  rw [hdn j]
  refine ⟨Rat.den_pos _,Nat.lt_of_lt_of_le (QS.rd3 _).den (Nat.pow_le_pow_right (by decide) ?_)⟩
  have := hσ j
  rw [str_len]
  unfold inB
  omega
 obtain ⟨op,xs⟩ := nd
 unfold saN at hs
 rw [Bool.and_eq_true,Bool.and_eq_true] at hs
 obtain ⟨⟨hz0,hD⟩,hs⟩ := hs
 have hz : 0 < z := by simpa [Nat.blt_eq] using hz0
 have hD' : ∀ x ∈ D,x.1=1→x.2 < k := fun x hx h1 => by
  rw [List.all_eq_true] at hD
  have := hD x hx
  rw [h1] at this
  simpa [Nat.blt_eq] using this
 refine ⟨?_,hz,hD'⟩
 have hlow : ∀ {a : Nat} {p : Nat × List Atm},a < k→E[a]? = some p→QW p.1 (M a)∧(∀ x ∈ p.2,x.1=1→x.2 < k)∧q a*proA dn M p.2=M a := fun {a p} ha hp => by
  obtain ⟨p',h1,h2,_,h4,h5⟩ := hM a ha
  rw [hp] at h1
  cases h1
  exact ⟨h2,fun x hx h => Nat.lt_trans (h4 x hx h) ha,h5⟩
 have hpr : ∀ {l : List Atm},(∀ x ∈ l,x.1=1→x.2 < k)→QW (bitL E l) (proA dn M l)∧proA dn M l ≠ 0 := fun h => proA_ok hdn' hM h
 unfold wfN at hwf
 unfold valN
 dsimp only at hs hwf ⊢
 split at hs
 ·rename_i s n d
  simp only [Bool.and_eq_true] at hs
  obtain ⟨⟨h1,h2⟩,h3⟩ := hs
  have h1' : n < 2 ^ z := by simpa [Nat.blt_eq] using h1
  have h2' : d ≠ 0 := by
   have : 0 < d := by simpa [Nat.blt_eq] using h2
   omega
  have hp : proA dn M D=((d : Nat) : Rat) := by
   have := subA_pro (dn := dn) (M := M) (noneA_some h3)
   rw [this]
   cases e : Nat.beq d 1 with
   | true =>
    rw [Nat.beq_eq] at e
    rw [e]
    show (1 : Rat)*1=((1 : Nat) : Rat)
    rw [Rat.mul_one]
    exact_mod_cast rfl
   | false =>
    show (if d=0 then (1 : Rat) else ((d : Nat) : Rat))*1*1=_
    rw [if_neg h2',Rat.mul_one,Rat.mul_one]
  show QW z ((if s=0 then mkRat (n : Int) d else mkRat (-(n : Int)) d)*proA dn M D)
  rw [hp]
  have key : ∀ m : Int,m.natAbs < 2 ^ z→QW z (mkRat m d*((d : Nat) : Rat)) := fun m hm => by
   rw [Rat.mkRat_eq_div,Rat.div_mul_cancel (nat_ne h2')]
   exact QW.of hm hz
  by_cases hs0 : s=0
  ·rw [if_pos hs0]
   exact key _ (by simpa using h1')
  ·rw [if_neg hs0]
   exact key _ (by simpa using h1')
 ·rename_i j
  simp only [Bool.and_eq_true,Nat.ble_eq] at hs
  have hp : proA dn M D=(((Cx.rd (σ j).data.toList).den : Nat) : Rat) := by
   rw [subA_pro (dn := dn) (M := M) (noneA_some hs.2)]
   show ((dn j : Nat) : Rat)*1*1=_
   rw [Rat.mul_one,Rat.mul_one,hdn j]
  show QW z (Cx.rd (σ j).data.toList*proA dn M D)
  rw [hp,mul_low]
  refine QW.of (Nat.lt_of_lt_of_le (QS.rd3 _).num (Nat.pow_le_pow_right (by decide) ?_)) hz
  have := hσ j
  have := hs.1
  unfold inB at this
  rw [str_len]
  omega
 ·simp only [List.all_cons,List.all_nil,Bool.and_true,Bool.and_eq_true] at hwf
  rename_i a b
  have l1 : a < k := by simpa [Nat.blt_eq] using hwf.1
  have l2 : b < k := by simpa [Nat.blt_eq] using hwf.2
  split at hs
  ·rename_i p r hp hr
   split at hs
   ·rename_i c e hc he
    rw [Nat.ble_eq] at hs
    obtain ⟨a1,a2,a3⟩ := hlow l1 hp
    obtain ⟨b1,b2,b3⟩ := hlow l2 hr
    have hc' := hpr (l := c) fun x hx => hD' x (subA_mem hc hx)
    have he' := hpr (l := e) fun x hx => hD' x (subA_mem he hx)
    have e1 : (q a+q b)*proA dn M D=M a*proA dn M c+M b*proA dn M e := by
     rw [Rat.add_mul]
     congr 1
     ·rw [subA_pro hc,← Rat.mul_assoc,a3]
     ·rw [subA_pro he,← Rat.mul_assoc,b3]
    show QW z ((q a+q b)*proA dn M D)
    rw [e1]
    exact ((a1.mul hc'.1).add (b1.mul he'.1)).mono hs
   ·cases hs
  ·cases hs
 ·simp only [List.all_cons,List.all_nil,Bool.and_true,Bool.and_eq_true] at hwf
  rename_i a b
  have l1 : a < k := by simpa [Nat.blt_eq] using hwf.1
  have l2 : b < k := by simpa [Nat.blt_eq] using hwf.2
  split at hs
  ·rename_i p r hp hr
   split at hs
   ·rename_i c e hc he
    rw [Nat.ble_eq] at hs
    obtain ⟨a1,a2,a3⟩ := hlow l1 hp
    obtain ⟨b1,b2,b3⟩ := hlow l2 hr
    have hc' := hpr (l := c) fun x hx => hD' x (subA_mem hc hx)
    have he' := hpr (l := e) fun x hx => hD' x (subA_mem he hx)
    have e1 : (q a - q b)*proA dn M D=M a*proA dn M c - M b*proA dn M e := by
     rw [show (q a - q b)*proA dn M D=q a*proA dn M D - q b*proA dn M D by grind]
     congr 1
     ·rw [subA_pro hc,← Rat.mul_assoc,a3]
     ·rw [subA_pro he,← Rat.mul_assoc,b3]
    show QW z ((q a - q b)*proA dn M D)
    rw [e1]
    exact ((a1.mul hc'.1).sub (b1.mul he'.1)).mono hs
   ·cases hs
  ·cases hs
 ·simp only [List.all_cons,List.all_nil,Bool.and_true,Bool.and_eq_true] at hwf
  rename_i a b
  have l1 : a < k := by simpa [Nat.blt_eq] using hwf.1
  have l2 : b < k := by simpa [Nat.blt_eq] using hwf.2
  split at hs
  ·rename_i p r hp hr
   split at hs
   ·rename_i c hc
    rw [Bool.and_eq_true,Nat.ble_eq] at hs
    obtain ⟨a1,a2,a3⟩ := hlow l1 hp
    obtain ⟨b1,b2,b3⟩ := hlow l2 hr
    have e1 : q a*q b*proA dn M D=M a*M b := by
     rw [subA_pro hc,subA_pro (noneA_some hs.1),← a3,← b3]
     show q a*q b*(proA dn M p.2*(proA dn M r.2*1))=_
     grind
    show QW z (q a*q b*proA dn M D)
    rw [e1]
    exact (a1.mul b1).mono hs.2
   ·cases hs
  ·cases hs
 ·simp only [List.all_cons,List.all_nil,Bool.and_true] at hwf
  rename_i a
  have l1 : a < k := by simpa [Nat.blt_eq] using hwf
  split at hs
  ·rename_i p hp
   rw [Bool.and_eq_true,Nat.ble_eq] at hs
   obtain ⟨a1,a2,a3⟩ := hlow l1 hp
   have e1 : -q a*proA dn M D=-M a := by
    rw [subA_pro (noneA_some hs.1),← a3]
    show -q a*(proA dn M p.2*1)=_
    grind
   show QW z (-q a*proA dn M D)
   rw [e1]
   exact a1.neg.mono hs.2
  ·cases hs
 ·simp only [List.all_cons,List.all_nil,Bool.and_true,Bool.and_eq_true] at hwf
  rename_i a b
  have l1 : a < k := by simpa [Nat.blt_eq] using hwf.1
  have l2 : b < k := by simpa [Nat.blt_eq] using hwf.2
  split at hs
  ·rename_i p r D' hp hr hD1
   split at hs
   ·rename_i c hc
    split at hs
    ·rename_i e he
     rw [Nat.ble_eq] at hs
     obtain ⟨a1,a2,a3⟩ := hlow l1 hp
     obtain ⟨b1,b2,b3⟩ := hlow l2 hr
     have he' := hpr (l := e) fun x hx => b2 x (subA_mem he hx)
     by_cases h0 : M b=0
     ·have hb : q b=0 := by
       rw [h0] at b3
       exact (Rat.mul_eq_zero.1 b3).resolve_right (hpr b2).2
      show QW z (q a / q b*proA dn M D)
      rw [hb,Rat.div_def,Rat.inv_zero,Rat.mul_zero,Rat.zero_mul]
      exact QW.zero hz
     ·have hb : q b ≠ 0 := fun h => h0 (by rw [← b3,h,Rat.zero_mul])
      have e1 : q a / q b*proA dn M D=M a*proA dn M e := by
       have e2 : proA dn M D=M b*proA dn M D' := by
        rw [remA_pro hD1]
        show (if M b=0 then (1 : Rat) else M b)*_=_
        rw [if_neg h0]
       have e3 : q a / q b*q b=q a := Rat.div_mul_cancel hb
       rw [e2,← a3,← b3,subA_pro hc,subA_pro he]
       generalize q a / q b=t at e3
       rw [← e3]
       grind
      show QW z (q a / q b*proA dn M D)
      rw [e1]
      exact (a1.mul he'.1).mono hs
    ·cases hs
   ·cases hs
  ·cases hs
 ·have hD0 : D=[] := by
   rw [Nat.beq_eq] at hs
   exact List.length_eq_zero_iff.1 hs
  rw [hD0]
  have hv : valN σ q (7,xs)=0 ∨ valN σ q (7,xs)=1 := by
   unfold valN
   dsimp only
   split
   all_goals first | (split; exact Or.inl rfl; exact Or.inr rfl) | exact Or.inl rfl | (rename_i h; cases h)
  show QW z (valN σ q (7,xs)*1)
  rw [Rat.mul_one]
  rcases hv with h | h
  ·rw [h]
   exact QW.zero hz
  ·rw [h]
   exact QW.one hz
 ·rename_i i ys
  rw [Bool.and_eq_true,Bool.and_eq_true,List.all_eq_true] at hs
  obtain ⟨h1,h2,h3⟩ := hs
  have hD0 : D=[] := by
   rw [Nat.beq_eq] at h1
   exact List.length_eq_zero_iff.1 h1
  have hwf' : ys.all (Nat.blt · k)=true := hwf
  rw [List.all_eq_true] at hwf'
  have hlt : ∀ c ∈ ys,c < k := fun c hc => by simpa [Nat.blt_eq] using hwf' c hc
  split at h3
  ·rename_i a ha
   split at h3
   ·rename_i p hp
    split at h3
    ·rename_i e he
     rw [Nat.ble_eq] at h3
     obtain ⟨hi,ha'⟩ := List.getElem?_eq_some_iff.1 ha
     have hmem : a ∈ ys := List.mem_of_getElem? ha
     have hg : (ys.map q).getD i 0=q a := by
      rw [List.getD_eq_getElem?_getD,List.getElem?_map,ha]
      rfl
     show QW z ((ys.map q).getD i 0*fac (ys.map q)*proA dn M D)
     rw [hg,hD0]
     show QW z (q a*fac (ys.map q)*1)
     rw [Rat.mul_one]
     -- what makes all of them whole
     have hU : ∀ x ∈ uniA E ys [],x.1=1→x.2 < k := uniA_low hM hlt (fun x hx => by cases hx)
     have hUp := hpr hU
     have hw := whole hUp.1.wh
     generalize hm : (proA dn M (uniA E ys [])).num=m at hw
     have hm0 : m ≠ 0 := fun h => hUp.2 (by rw [hw,h]; rfl)
     have hall : ∀ y ∈ ys.map q,(y*((m : Int) : Rat)).den=1 := fun y hy => by
      obtain ⟨c,hc,rfl⟩ := List.mem_map.1 hy
      have h4 := h2 c hc
      split at h4
      ·rename_i r hr
       obtain ⟨c1,c2,c3⟩ := hlow (hlt c hc) hr
       cases hs2 : subA (uniA E ys []) r.2 with
       | none => rw [hs2] at h4; cases h4
       | some f =>
        have hf := hpr (l := f) fun x hx => hU x (subA_mem hs2 hx)
        rw [← hw,subA_pro hs2,← Rat.mul_assoc,c3]
        exact (c1.mul hf.1).wh
      ·cases h4
     obtain ⟨a1,a2,a3⟩ := hlow (hlt a hmem) hp
     have he' := hpr (l := e) fun x hx => hU x (subA_mem he hx)
     refine fac_whole (List.mem_map_of_mem hmem) hm0 hall ?_
     rw [← hw,subA_pro he,← Rat.mul_assoc,a3]
     exact (a1.mul he'.1).mono h3
    ·cases h3
   ·cases h3
  ·cases h3
 ·cases hs
end
theorem QS_over {x m p : Rat} {z y K : Nat} (hm : QW z m) (hp : QW y p) (h0 : p ≠ 0) (e : x*p=m) (hz : z≤K) (hy : y≤K) : QS K x := by
 have hw := whole hp.wh
 generalize p.num=P at hw
 have hP : P ≠ 0 := fun h => h0 (by rw [hw,h]; rfl)
 have hpos : 0 < P.natAbs := Int.natAbs_pos.2 hP
 have hd : x.den ∣ P.natAbs := den_dvd (x := x) (m := P) (by rw [← hw,e]; exact hm.wh)
 have hdle : x.den≤P.natAbs := Nat.le_of_dvd hpos hd
 have hPlt : P.natAbs < 2 ^ y := by
  have := hp.qs.num
  rw [hw,Rat.num_intCast] at this
  exact this
 have hmw := whole hm.wh
 have hmlt := hm.qs.num
 generalize m.num=n at hmw hmlt
 have h1 : x*((x.den : Nat) : Rat)=((x.num : Int) : Rat) := mul_low x
 have h2 : ((x.num : Int) : Rat)*((P : Int) : Rat)=((n : Int) : Rat)*(((x.den : Nat) : Int) : Rat) := by
  rw [← h1,← hw,← hmw,← e,Rat.intCast_natCast]
  grind
 have h3 : x.num*P=n*(x.den : Int) := by exact_mod_cast h2
 have h4 : x.num.natAbs*P.natAbs=n.natAbs*x.den := by
  have := congrArg Int.natAbs h3
  rwa [Int.natAbs_mul,Int.natAbs_mul,Int.natAbs_natCast] at this
 have h5 : x.num.natAbs≤n.natAbs := by
  refine Nat.le_of_mul_le_mul_right (c := P.natAbs) ?_ hpos
  rw [h4]
  exact Nat.mul_le_mul_left _ hdle
 exact ⟨Nat.lt_of_lt_of_le (Nat.lt_of_le_of_lt h5 hmlt) (Nat.pow_le_pow_right (by decide) hz),Nat.lt_of_lt_of_le (Nat.lt_of_le_of_lt hdle hPlt) (Nat.pow_le_pow_right (by decide) hy)⟩
section
variable {N : List Nd} {Z : List Nat} {E : List (Nat × List Atm)} {q : Nat→Rat}
theorem sizes_okA {σ : Nat→ByteArray} (hσ : ∀ j,(σ j).size≤1048576) (hw : wfB 0 N=true) (hz : saB E 0 N E Z=true) (hq : ∀ (a : Nat) nd,N[a]? = some nd→q a=valN σ q nd) (h0 : ∀ a,N.length≤a→q a=0) : (∀ (a : Nat) z,Z[a]? = some z→QS z (q a))∧∀ a,QS 1000000000000 (q a) := by
 have hl := saB_len hz
 have key : ∀ k,k≤N.length→∃ M,BelA E (fun j => (Cx.rd (σ j).data.toList).den) M q k := by
  intro k
  induction k with
  | zero => exact fun _ => ⟨fun _ => 0,fun a ha => by omega⟩
  | succ k ih =>
   intro hk
   obtain ⟨M,hM⟩ := ih (by omega)
   have hn : N[k]? = some N[k] := List.getElem?_eq_getElem (by omega)
   obtain ⟨p,z,h1,_,h3,_⟩ := saB_get hz hn
   rw [Nat.zero_add] at h3
   have hwf := wfB_get hw hn
   rw [Nat.zero_add] at hwf
   obtain ⟨g1,g2,g3⟩ := node_ok hσ (fun _ => rfl) hM hwf h3
   rw [← hq k _ hn] at g1
   refine ⟨fun x => if x=k then q k*proA (fun j => (Cx.rd (σ j).data.toList).den) M p.2 else M x,fun a ha => ?_⟩
   have same : ∀ {l : List Atm},(∀ x ∈ l,x.1=1→x.2 < k)→proA (fun j => (Cx.rd (σ j).data.toList).den) (fun x => if x=k then q k*proA (fun j => (Cx.rd (σ j).data.toList).den) M p.2 else M x) l=proA (fun j => (Cx.rd (σ j).data.toList).den) M l := fun hl => (proA_congr fun x hx h => by
    have := hl x hx h
    rw [if_neg (by omega)]).symm
   by_cases e : a=k
   ·subst e
    refine ⟨p,h1,?_,g2,g3,?_⟩
    ·show QW p.1 (if a=a then _ else _)
     rw [if_pos rfl]
     exact g1
    ·rw [same g3]
     show _=(if a=a then _ else _)
     rw [if_pos rfl]
   ·obtain ⟨p',f1,f2,f3,f4,f5⟩ := hM a (by omega)
    refine ⟨p',f1,?_,f3,f4,?_⟩
    ·show QW p'.1 (if a=k then _ else M a)
     rw [if_neg e]
     exact f2
    ·rw [same fun x hx h => by have := f4 x hx h; omega]
     show _=(if a=k then _ else M a)
     rw [if_neg e]
     exact f5
 obtain ⟨M,hM⟩ := key N.length (Nat.le_refl _)
 have hdn : ∀ j,0 < (Cx.rd (σ j).data.toList).den∧(Cx.rd (σ j).data.toList).den < 2 ^ inB := fun j => by
  refine ⟨Rat.den_pos _,Nat.lt_of_lt_of_le (QS.rd3 _).den (Nat.pow_le_pow_right (by decide) ?_)⟩
  have := hσ j
  rw [str_len]
  unfold inB
  omega
 have h2 : ∀ (a : Nat) z,Z[a]? = some z→QS z (q a)∧z≤1000000000000 := by
  intro a z ha
  have hlt : a < N.length := by
   have := (List.getElem?_eq_some_iff.1 ha).1
   omega
  have hn : N[a]? = some N[a] := List.getElem?_eq_getElem hlt
  obtain ⟨p,z',h1,h2,_,h4,h5,h6⟩ := saB_get hz hn
  rw [ha] at h2
  cases h2
  obtain ⟨p',f1,f2,f3,f4,f5⟩ := hM a hlt
  rw [h1] at f1
  cases f1
  have hp := proA_ok hdn hM (l := p.2) fun x hx h => Nat.lt_trans (f4 x hx h) hlt
  exact ⟨QS_over f2 hp.1 hp.2 f5 h4 h5,h6⟩
 refine ⟨fun a z h => (h2 a z h).1,fun a => ?_⟩
 by_cases ha : a < Z.length
 ·have := h2 a _ (List.getElem?_eq_getElem ha)
  exact this.1.mono this.2
 ·rw [h0 a (by omega)]
  exact QS.zero.mono (by decide)
theorem hy_ofA {L C : List (List Nat × Nat)} {σ : Nat→ByteArray} {H : List (Nat × Nat × Nat × Nat)} (hσ : ∀ j,(σ j).size≤1048576) (hw : wfB 0 N=true) (hz : saB E 0 N E Z=true) (hl : litB N L=true) (hcn : canB N C=true) (hq : ∀ (a : Nat) nd,N[a]? = some nd→q a=valN σ q nd) (h0 : ∀ a,N.length≤a→q a=0) (hH : hAll q H) : Hy N H L C Z q σ where
 nat := hq
 qs := (sizes_okA hσ hw hz hq h0).2
 zs := (sizes_okA hσ hw hz hq h0).1
 par := hσ
 lit := fun s b h => lit_rd hl hq h
 k0 := fun a r h => kn_at hH h
 k1 := fun a r h => kn_at hH h
 k2 := fun a r h => kn_at hH h
 k3 := fun a b r h => kn_at hH h
 k4 := fun l a b r h1 h2 => by
  have h3 : Nat.beq 1 r=true ↔ q a=q b := kn_at hH h2
  rw [h3,← can_tx hcn hq h1]
  exact ⟨fun e => by rw [e],fun e => tellS_inj (bytesN_inj e)⟩
 k6 := fun a b r h => kn_at hH h
 k5 := fun a r h => kn_at hH h
end
end Go.Proofs.YtdchineebfdkcaaGreatDoor
/- MGY -/
namespace Go.Proofs.YtdchineebfdkcaaGreatDoor
open Go.RowKit Cx
def triangleTwice_N : List Nd := [(1,[0]),(1,[1]),(1,[2]),(1,[3]),(1,[4]),(1,[5]),(3,[2,0]),(3,[3,1]),(3,[4,0]),(3,[5,1]),(4,[6,9]),(4,[7,8]),(3,[10,11]),(1,[6]),(1,[7]),(3,[2,13]),(3,[3,14]),(3,[4,13]),(3,[5,14]),(4,[15,18]),(4,[16,17]),(3,[19,20]),(6,[21,12]),(3,[0,13]),(3,[1,14]),(4,[17,24]),(4,[18,23]),(3,[25,26]),(6,[27,12]),(4,[23,16]),(4,[24,15]),(3,[29,30]),(6,[31,12]),(0,[0,1,1]),(3,[4,2]),(3,[5,3]),(4,[34,34]),(4,[35,35]),(2,[36,37]),(3,[0,4]),(3,[1,5]),(4,[39,39]),(4,[40,40]),(2,[41,42]),(4,[6,6]),(4,[7,7]),(2,[44,45]),(6,[33,22]),(6,[38,22]),(6,[33,28]),(6,[43,28]),(6,[33,32]),(2,[47,49]),(2,[52,51]),(6,[46,32]),(2,[48,50]),(2,[55,54]),(4,[0,48]),(4,[1,48]),(0,[0,0,1]),(2,[59,57]),(2,[59,58]),(4,[2,50]),(4,[3,50]),(2,[60,62]),(2,[61,63]),(4,[4,54]),(4,[5,54]),(2,[64,66]),(2,[65,67]),(6,[68,56]),(6,[69,56]),(3,[2,70]),(3,[3,71]),(3,[4,70]),(3,[5,71]),(4,[72,75]),(4,[73,74]),(3,[76,77]),(6,[78,12]),(3,[0,70]),(3,[1,71]),(4,[74,81]),(4,[75,80]),(3,[82,83]),(6,[84,12]),(4,[80,73]),(4,[81,72]),(3,[86,87]),(6,[88,12]),(6,[38,79]),(6,[43,85]),(6,[46,89]),(2,[90,91]),(2,[93,92]),(4,[0,90]),(4,[1,90]),(2,[59,95]),(2,[59,96]),(4,[2,91]),(4,[3,91]),(2,[97,99]),(2,[98,100]),(4,[4,92]),(4,[5,92]),(2,[101,103]),(2,[102,104]),(6,[105,94]),(6,[106,94]),(3,[107,13]),(3,[108,14]),(5,[35]),(4,[111,2]),(4,[34,3]),(2,[112,113]),(5,[114]),(4,[111,13]),(4,[34,14]),(2,[116,117]),(2,[118,115]),(5,[119]),(4,[111,120]),(4,[34,120]),(4,[111,111]),(2,[123,36]),(6,[121,124]),(6,[122,124]),(2,[13,125]),(2,[14,126]),(5,[40]),(4,[129,4]),(4,[39,5]),(2,[130,131]),(5,[132]),(4,[129,13]),(4,[39,14]),(2,[134,135]),(2,[136,133]),(5,[137]),(4,[129,138]),(4,[39,138]),(4,[129,129]),(2,[141,41]),(6,[139,142]),(6,[140,142]),(2,[13,143]),(2,[14,144]),(5,[7]),(4,[147,0]),(4,[6,1]),(2,[148,149]),(5,[150]),(4,[147,13]),(4,[6,14]),(2,[152,153]),(2,[154,151]),(5,[155]),(4,[147,156]),(4,[6,156]),(4,[147,147]),(2,[159,44]),(6,[157,160]),(6,[158,160]),(2,[13,161]),(2,[14,162]),(4,[111,70]),(4,[34,71]),(2,[165,166]),(2,[167,115]),(5,[168]),(4,[111,169]),(4,[34,169]),(6,[170,124]),(6,[171,124]),(2,[70,172]),(2,[71,173]),(4,[129,70]),(4,[39,71]),(2,[176,177]),(2,[178,133]),(5,[179]),(4,[129,180]),(4,[39,180]),(6,[181,142]),(6,[182,142]),(2,[70,183]),(2,[71,184]),(4,[147,70]),(4,[6,71]),(2,[187,188]),(2,[189,151]),(5,[190]),(4,[147,191]),(4,[6,191]),(6,[192,160]),(6,[193,160]),(2,[70,194]),(2,[71,195]),(0,[0,1,2]),(3,[70,13]),(3,[71,14]),(4,[199,198]),(4,[200,198]),(2,[13,201]),(2,[14,202]),(3,[203,127]),(3,[204,128]),(4,[205,205]),(4,[206,206]),(2,[207,208]),(3,[203,174]),(3,[204,175]),(4,[210,210]),(4,[211,211]),(2,[212,213]),(3,[203,145]),(3,[204,146]),(4,[215,215]),(4,[216,216]),(2,[217,218]),(3,[203,185]),(3,[204,186]),(4,[220,220]),(4,[221,221]),(2,[222,223]),(3,[203,163]),(3,[204,164]),(4,[225,225]),(4,[226,226]),(2,[227,228]),(3,[203,196]),(3,[204,197]),(4,[230,230]),(4,[231,231]),(2,[232,233]),(4,[0,47]),(4,[1,47]),(2,[59,235]),(2,[59,236]),(4,[2,49]),(4,[3,49]),(2,[237,239]),(2,[238,240]),(4,[4,51]),(4,[5,51]),(2,[241,243]),(2,[242,244]),(6,[245,53]),(6,[246,53]),(3,[2,247]),(3,[3,248]),(3,[4,247]),(3,[5,248]),(4,[249,252]),(4,[250,251]),(3,[253,254]),(6,[255,12]),(3,[0,247]),(3,[1,248]),(4,[251,258]),(4,[252,257]),(3,[259,260]),(6,[261,12]),(4,[257,250]),(4,[258,249]),(3,[263,264]),(6,[265,12]),(6,[33,256]),(6,[33,262]),(6,[33,266]),(2,[267,268]),(2,[270,269]),(4,[0,267]),(4,[1,267]),(2,[59,272]),(2,[59,273]),(4,[2,268]),(4,[3,268]),(2,[274,276]),(2,[275,277]),(4,[4,269]),(4,[5,269]),(2,[278,280]),(2,[279,281]),(6,[282,271]),(6,[283,271]),(3,[284,13]),(3,[285,14])]
def triangleTwice_L : List (List Nat × Nat) := []
def triangleTwice_C : List (List Nat × Nat) := []
def triangleTwice_Z : List Nat := [3495260,3495260,3495260,3495260,3495260,3495260,6990520,6990520,6990520,6990520,13981040,13981040,20971560,3495260,3495260,6990520,6990520,6990520,6990520,13981040,13981040,20971560,27962079,6990520,6990520,13981040,13981040,20971560,27962079,13981040,13981040,20971560,27962079,1,6990520,6990520,13981040,13981040,27962078,6990520,6990520,13981040,13981040,27962078,13981040,13981040,27962078,27962080,55924157,27962080,55924157,27962080,55924161,83886242,55924157,97867274,125829355,59419416,59419416,1,59419418,59419418,59419416,59419416,97867276,97867276,59419416,59419416,125829357,125829357,125829358,125829358,129324619,129324619,129324619,129324619,258649238,258649238,265639758,272630277,129324619,129324619,258649238,258649238,265639758,272630277,258649238,258649238,265639758,272630277,300592350,300592350,300592350,587203664,859833943,304087609,304087609,304087611,304087611,304087609,304087609,587203667,587203667,304087609,304087609,859833946,859833946,859833947,859833947,863329208,863329208,6990520,10485779,10485779,13981040,13981040,10485779,10485779,20971558,20971560,20971560,27962080,27962080,13981040,27962078,34952599,34952599,34952601,34952601,6990520,10485779,10485779,13981040,13981040,10485779,10485779,20971558,20971560,20971560,27962080,27962080,13981040,27962078,34952599,34952599,34952601,34952601,6990520,10485779,10485779,13981040,13981040,10485779,10485779,20971558,20971560,20971560,27962080,27962080,13981040,27962078,34952599,34952599,34952601,34952601,132819878,132819878,139810398,139810400,139810400,146800920,146800920,153791439,153791439,153791441,153791441,132819878,132819878,139810398,139810400,139810400,146800920,146800920,153791439,153791439,153791441,153791441,132819878,132819878,139810398,139810400,139810400,146800920,146800920,153791439,153791439,153791441,153791441,3,129324619,129324619,129324620,129324620,129324622,129324622,160781961,160781961,321563922,321563922,321563924,157286704,157286704,314573408,314573408,321563928,160781961,160781961,321563922,321563922,321563924,157286704,157286704,314573408,314573408,321563928,160781961,160781961,321563922,321563922,321563924,157286704,157286704,314573408,314573408,321563928,31457339,31457339,31457341,31457341,31457339,31457339,62914681,62914681,31457339,31457339,94372021,94372021,94372022,94372022,94372024,94372024,94372024,94372024,188744048,188744048,188744050,188744051,94372024,94372024,188744048,188744048,188744050,188744051,188744048,188744048,188744050,188744051,188744052,188744052,188744052,377488103,566232154,192239311,192239311,192239313,192239313,192239311,192239311,384478625,384478625,192239311,192239311,576717937,576717937,576717938,576717938,580213199,580213199]
def triangleTwice_D0 : List Atm := [(0,1),(0,3)]
def triangleTwice_D1 : List Atm := [(0,0),(0,4)]
def triangleTwice_D2 : List Atm := [(0,1),(0,5)]
def triangleTwice_D3 : List Atm := [(0,2),(0,3),(0,4),(0,5),(0,6),(0,7)]
def triangleTwice_D4 : List Atm := [(0,6),(0,7),(1,12)]
def triangleTwice_D5 : List Atm := [(0,0),(0,1),(0,4),(0,5),(0,6),(0,7)]
def triangleTwice_D6 : List Atm := [(0,0),(0,1),(0,2),(0,3),(0,6),(0,7)]
def triangleTwice_D7 : List Atm := [(0,3),(0,5)]
def triangleTwice_D8 : List Atm := [(0,3),(0,3),(0,5),(0,5)]
def triangleTwice_D9 : List Atm := [(0,2),(0,2),(0,3),(0,3),(0,4),(0,4),(0,5),(0,5)]
def triangleTwice_D10 : List Atm := [(0,1),(0,1),(0,5),(0,5)]
def triangleTwice_D11 : List Atm := [(0,0),(0,0),(0,1),(0,1),(0,4),(0,4),(0,5),(0,5)]
def triangleTwice_D12 : List Atm := [(0,1),(0,1),(0,3),(0,3)]
def triangleTwice_D13 : List Atm := [(0,0),(0,0),(0,1),(0,1),(0,2),(0,2),(0,3),(0,3)]
def triangleTwice_D14 : List Atm := [(0,0),(0,0),(0,1),(0,1),(0,2),(0,2),(0,3),(0,3),(0,4),(0,4),(0,5),(0,5),(1,22),(1,28)]
def triangleTwice_D15 : List Atm := [(0,0),(0,0),(0,1),(0,1),(0,2),(0,2),(0,3),(0,3),(0,4),(0,4),(0,5),(0,5),(1,22),(1,28),(1,32)]
def triangleTwice_D16 : List Atm := [(0,0),(0,2),(0,2),(0,3),(0,3),(0,4),(0,4),(0,5),(0,5),(1,22)]
def triangleTwice_D17 : List Atm := [(0,1),(0,2),(0,2),(0,3),(0,3),(0,4),(0,4),(0,5),(0,5),(1,22)]
def triangleTwice_D18 : List Atm := [(1,12),(1,56),(1,56)]
def triangleTwice_D19 : List Atm := [(0,0),(0,0),(0,1),(0,1),(0,2),(0,2),(0,3),(0,3),(0,4),(0,4),(0,5),(0,5),(1,79),(1,85)]
def triangleTwice_D20 : List Atm := [(0,0),(0,0),(0,1),(0,1),(0,2),(0,2),(0,3),(0,3),(0,4),(0,4),(0,5),(0,5),(1,79),(1,85),(1,89)]
def triangleTwice_D21 : List Atm := [(0,0),(0,2),(0,2),(0,3),(0,3),(0,4),(0,4),(0,5),(0,5),(1,79)]
def triangleTwice_D22 : List Atm := [(0,1),(0,2),(0,2),(0,3),(0,3),(0,4),(0,4),(0,5),(0,5),(1,79)]
def triangleTwice_D23 : List Atm := [(0,2),(0,3),(0,4),(0,5)]
def triangleTwice_D24 : List Atm := [(0,6),(0,7),(1,124)]
def triangleTwice_D25 : List Atm := [(0,0),(0,1),(0,4),(0,5)]
def triangleTwice_D26 : List Atm := [(0,6),(0,7),(1,142)]
def triangleTwice_D27 : List Atm := [(0,0),(0,1),(0,2),(0,3)]
def triangleTwice_D28 : List Atm := [(0,6),(0,7),(1,160)]
def triangleTwice_D29 : List Atm := [(0,2),(0,3),(0,4),(0,5),(1,56)]
def triangleTwice_D30 : List Atm := [(1,56),(1,124)]
def triangleTwice_D31 : List Atm := [(0,0),(0,1),(0,4),(0,5),(1,56)]
def triangleTwice_D32 : List Atm := [(1,56),(1,142)]
def triangleTwice_D33 : List Atm := [(0,0),(0,1),(0,2),(0,3),(1,56)]
def triangleTwice_D34 : List Atm := [(1,56),(1,160)]
def triangleTwice_D35 : List Atm := [(0,6),(1,56),(2,2)]
def triangleTwice_D36 : List Atm := [(0,7),(1,56),(2,2)]
def triangleTwice_D37 : List Atm := [(0,6),(0,7),(1,56),(1,124),(2,2)]
def triangleTwice_D38 : List Atm := [(0,6),(0,6),(0,7),(0,7),(1,56),(1,56),(1,124),(1,124),(2,2),(2,2)]
def triangleTwice_D39 : List Atm := [(0,6),(0,7),(1,56),(1,142),(2,2)]
def triangleTwice_D40 : List Atm := [(0,6),(0,6),(0,7),(0,7),(1,56),(1,56),(1,142),(1,142),(2,2),(2,2)]
def triangleTwice_D41 : List Atm := [(0,6),(0,7),(1,56),(1,160),(2,2)]
def triangleTwice_D42 : List Atm := [(0,6),(0,6),(0,7),(0,7),(1,56),(1,56),(1,160),(1,160),(2,2),(2,2)]
def triangleTwice_D43 : List Atm := [(0,0),(1,22)]
def triangleTwice_D44 : List Atm := [(0,1),(1,22)]
def triangleTwice_D45 : List Atm := [(0,0),(0,2),(0,4),(1,53)]
def triangleTwice_D46 : List Atm := [(0,1),(0,3),(0,5),(1,53)]
def triangleTwice_D47 : List Atm := [(0,0),(0,1),(0,2),(0,3),(0,4),(0,5),(1,53),(1,53)]
def triangleTwice_D48 : List Atm := [(1,12),(1,53),(1,53)]
def triangleTwice_D49 : List Atm := [(0,0),(1,256)]
def triangleTwice_D50 : List Atm := [(0,1),(1,256)]
def triangleTwice_E : List (Nat × List Atm) := [(3495259,[(0,0)]),(3495259,[(0,1)]),(3495259,[(0,2)]),(3495259,[(0,3)]),(3495259,[(0,4)]),(3495259,[(0,5)]),(6990520,[(0,0),(0,2)]),(6990520,triangleTwice_D0),(6990520,triangleTwice_D1),(6990520,triangleTwice_D2),(13981040,[(0,0),(0,1),(0,2),(0,5)]),(13981040,[(0,0),(0,1),(0,3),(0,4)]),(20971560,[(0,0),(0,1),(0,2),(0,3),(0,4),(0,5)]),(3495259,[(0,6)]),(3495259,[(0,7)]),(6990520,[(0,2),(0,6)]),(6990520,[(0,3),(0,7)]),(6990520,[(0,4),(0,6)]),(6990520,[(0,5),(0,7)]),(13981040,[(0,2),(0,5),(0,6),(0,7)]),(13981040,[(0,3),(0,4),(0,6),(0,7)]),(20971560,triangleTwice_D3),(27962079,triangleTwice_D4),(6990520,[(0,0),(0,6)]),(6990520,[(0,1),(0,7)]),(13981040,[(0,1),(0,4),(0,6),(0,7)]),(13981040,[(0,0),(0,5),(0,6),(0,7)]),(20971560,triangleTwice_D5),(27962079,triangleTwice_D4),(13981040,[(0,0),(0,3),(0,6),(0,7)]),(13981040,[(0,1),(0,2),(0,6),(0,7)]),(20971560,triangleTwice_D6),(27962079,triangleTwice_D4),(1,[]),(6990520,[(0,2),(0,4)]),(6990520,triangleTwice_D7),(13981040,[(0,2),(0,2),(0,4),(0,4)]),(13981040,triangleTwice_D8),(27962078,triangleTwice_D9),(6990520,triangleTwice_D1),(6990520,triangleTwice_D2),(13981040,[(0,0),(0,0),(0,4),(0,4)]),(13981040,triangleTwice_D10),(27962078,triangleTwice_D11),(13981040,[(0,0),(0,0),(0,2),(0,2)]),(13981040,triangleTwice_D12),(27962078,triangleTwice_D13),(27962080,[(1,22)]),(55924157,[(0,2),(0,2),(0,3),(0,3),(0,4),(0,4),(0,5),(0,5),(1,22)]),(27962080,[(1,28)]),(55924157,[(0,0),(0,0),(0,1),(0,1),(0,4),(0,4),(0,5),(0,5),(1,28)]),(27962080,[(1,32)]),(55924161,[(1,22),(1,28)]),(83886242,[(1,22),(1,28),(1,32)]),(55924157,[(0,0),(0,0),(0,1),(0,1),(0,2),(0,2),(0,3),(0,3),(1,32)]),(97867274,triangleTwice_D14),(125829355,triangleTwice_D15),(59419416,triangleTwice_D16),(59419416,triangleTwice_D17),(1,[]),(59419418,triangleTwice_D16),(59419418,triangleTwice_D17),(59419416,[(0,0),(0,0),(0,1),(0,1),(0,2),(0,4),(0,4),(0,5),(0,5),(1,28)]),(59419416,[(0,0),(0,0),(0,1),(0,1),(0,3),(0,4),(0,4),(0,5),(0,5),(1,28)]),(97867276,triangleTwice_D14),(97867276,triangleTwice_D14),(59419416,[(0,0),(0,0),(0,1),(0,1),(0,2),(0,2),(0,3),(0,3),(0,4),(1,32)]),(59419416,[(0,0),(0,0),(0,1),(0,1),(0,2),(0,2),(0,3),(0,3),(0,5),(1,32)]),(125829357,triangleTwice_D15),(125829357,triangleTwice_D15),(125829358,[(1,56)]),(125829358,[(1,56)]),(129324619,[(0,2),(1,56)]),(129324619,[(0,3),(1,56)]),(129324619,[(0,4),(1,56)]),(129324619,[(0,5),(1,56)]),(258649238,[(0,2),(0,5),(1,56),(1,56)]),(258649238,[(0,3),(0,4),(1,56),(1,56)]),(265639758,[(0,2),(0,3),(0,4),(0,5),(1,56),(1,56)]),(272630277,triangleTwice_D18),(129324619,[(0,0),(1,56)]),(129324619,[(0,1),(1,56)]),(258649238,[(0,1),(0,4),(1,56),(1,56)]),(258649238,[(0,0),(0,5),(1,56),(1,56)]),(265639758,[(0,0),(0,1),(0,4),(0,5),(1,56),(1,56)]),(272630277,triangleTwice_D18),(258649238,[(0,0),(0,3),(1,56),(1,56)]),(258649238,[(0,1),(0,2),(1,56),(1,56)]),(265639758,[(0,0),(0,1),(0,2),(0,3),(1,56),(1,56)]),(272630277,triangleTwice_D18),(300592349,[(0,2),(0,2),(0,3),(0,3),(0,4),(0,4),(0,5),(0,5),(1,79)]),(300592349,[(0,0),(0,0),(0,1),(0,1),(0,4),(0,4),(0,5),(0,5),(1,85)]),(300592349,[(0,0),(0,0),(0,1),(0,1),(0,2),(0,2),(0,3),(0,3),(1,89)]),(587203664,triangleTwice_D19),(859833943,triangleTwice_D20),(304087608,triangleTwice_D21),(304087608,triangleTwice_D22),(304087611,triangleTwice_D21),(304087611,triangleTwice_D22),(304087608,[(0,0),(0,0),(0,1),(0,1),(0,2),(0,4),(0,4),(0,5),(0,5),(1,85)]),(304087608,[(0,0),(0,0),(0,1),(0,1),(0,3),(0,4),(0,4),(0,5),(0,5),(1,85)]),(587203667,triangleTwice_D19),(587203667,triangleTwice_D19),(304087608,[(0,0),(0,0),(0,1),(0,1),(0,2),(0,2),(0,3),(0,3),(0,4),(1,89)]),(304087608,[(0,0),(0,0),(0,1),(0,1),(0,2),(0,2),(0,3),(0,3),(0,5),(1,89)]),(859833946,triangleTwice_D20),(859833946,triangleTwice_D20),(859833947,[(1,94)]),(859833947,[(1,94)]),(863329208,[(0,6),(1,94)]),(863329208,[(0,7),(1,94)]),(6990520,triangleTwice_D7),(10485779,[(0,2),(0,3),(0,5)]),(10485779,[(0,2),(0,3),(0,4)]),(13981040,triangleTwice_D23),(13981040,triangleTwice_D23),(10485779,[(0,3),(0,5),(0,6)]),(10485779,[(0,2),(0,4),(0,7)]),(20971558,triangleTwice_D3),(20971560,triangleTwice_D3),(20971560,triangleTwice_D3),(27962080,[(0,2),(0,3),(0,3),(0,4),(0,5),(0,5),(0,6),(0,7)]),(27962080,[(0,2),(0,2),(0,3),(0,4),(0,4),(0,5),(0,6),(0,7)]),(13981040,triangleTwice_D8),(27962078,triangleTwice_D9),(34952599,triangleTwice_D24),(34952599,triangleTwice_D24),(34952601,triangleTwice_D24),(34952601,triangleTwice_D24),(6990520,triangleTwice_D2),(10485779,[(0,1),(0,4),(0,5)]),(10485779,[(0,0),(0,4),(0,5)]),(13981040,triangleTwice_D25),(13981040,triangleTwice_D25),(10485779,[(0,1),(0,5),(0,6)]),(10485779,[(0,0),(0,4),(0,7)]),(20971558,triangleTwice_D5),(20971560,triangleTwice_D5),(20971560,triangleTwice_D5),(27962080,[(0,0),(0,1),(0,1),(0,4),(0,5),(0,5),(0,6),(0,7)]),(27962080,[(0,0),(0,0),(0,1),(0,4),(0,4),(0,5),(0,6),(0,7)]),(13981040,triangleTwice_D10),(27962078,triangleTwice_D11),(34952599,triangleTwice_D26),(34952599,triangleTwice_D26),(34952601,triangleTwice_D26),(34952601,triangleTwice_D26),(6990520,triangleTwice_D0),(10485779,[(0,0),(0,1),(0,3)]),(10485779,[(0,0),(0,1),(0,2)]),(13981040,triangleTwice_D27),(13981040,triangleTwice_D27),(10485779,[(0,1),(0,3),(0,6)]),(10485779,[(0,0),(0,2),(0,7)]),(20971558,triangleTwice_D6),(20971560,triangleTwice_D6),(20971560,triangleTwice_D6),(27962080,[(0,0),(0,1),(0,1),(0,2),(0,3),(0,3),(0,6),(0,7)]),(27962080,[(0,0),(0,0),(0,1),(0,2),(0,2),(0,3),(0,6),(0,7)]),(13981040,triangleTwice_D12),(27962078,triangleTwice_D13),(34952599,triangleTwice_D28),(34952599,triangleTwice_D28),(34952601,triangleTwice_D28),(34952601,triangleTwice_D28),(132819878,[(0,3),(0,5),(1,56)]),(132819878,[(0,2),(0,4),(1,56)]),(139810398,triangleTwice_D29),(139810400,triangleTwice_D29),(139810400,triangleTwice_D29),(146800920,[(0,2),(0,3),(0,3),(0,4),(0,5),(0,5),(1,56)]),(146800920,[(0,2),(0,2),(0,3),(0,4),(0,4),(0,5),(1,56)]),(153791439,triangleTwice_D30),(153791439,triangleTwice_D30),(153791441,triangleTwice_D30),(153791441,triangleTwice_D30),(132819878,[(0,1),(0,5),(1,56)]),(132819878,[(0,0),(0,4),(1,56)]),(139810398,triangleTwice_D31),(139810400,triangleTwice_D31),(139810400,triangleTwice_D31),(146800920,[(0,0),(0,1),(0,1),(0,4),(0,5),(0,5),(1,56)]),(146800920,[(0,0),(0,0),(0,1),(0,4),(0,4),(0,5),(1,56)]),(153791439,triangleTwice_D32),(153791439,triangleTwice_D32),(153791441,triangleTwice_D32),(153791441,triangleTwice_D32),(132819878,[(0,1),(0,3),(1,56)]),(132819878,[(0,0),(0,2),(1,56)]),(139810398,triangleTwice_D33),(139810400,triangleTwice_D33),(139810400,triangleTwice_D33),(146800920,[(0,0),(0,1),(0,1),(0,2),(0,3),(0,3),(1,56)]),(146800920,[(0,0),(0,0),(0,1),(0,2),(0,2),(0,3),(1,56)]),(153791439,triangleTwice_D34),(153791439,triangleTwice_D34),(153791441,triangleTwice_D34),(153791441,triangleTwice_D34),(1,[(2,2)]),(129324619,[(0,6),(1,56)]),(129324619,[(0,7),(1,56)]),(129324620,triangleTwice_D35),(129324620,triangleTwice_D36),(129324622,triangleTwice_D35),(129324622,triangleTwice_D36),(160781961,triangleTwice_D37),(160781961,triangleTwice_D37),(321563922,triangleTwice_D38),(321563922,triangleTwice_D38),(321563924,triangleTwice_D38),(157286704,[(0,6),(1,56),(1,124),(2,2)]),(157286704,[(0,7),(1,56),(1,124),(2,2)]),(314573408,[(0,6),(0,6),(1,56),(1,56),(1,124),(1,124),(2,2),(2,2)]),(314573408,[(0,7),(0,7),(1,56),(1,56),(1,124),(1,124),(2,2),(2,2)]),(321563928,triangleTwice_D38),(160781961,triangleTwice_D39),(160781961,triangleTwice_D39),(321563922,triangleTwice_D40),(321563922,triangleTwice_D40),(321563924,triangleTwice_D40),(157286704,[(0,6),(1,56),(1,142),(2,2)]),(157286704,[(0,7),(1,56),(1,142),(2,2)]),(314573408,[(0,6),(0,6),(1,56),(1,56),(1,142),(1,142),(2,2),(2,2)]),(314573408,[(0,7),(0,7),(1,56),(1,56),(1,142),(1,142),(2,2),(2,2)]),(321563928,triangleTwice_D40),(160781961,triangleTwice_D41),(160781961,triangleTwice_D41),(321563922,triangleTwice_D42),(321563922,triangleTwice_D42),(321563924,triangleTwice_D42),(157286704,[(0,6),(1,56),(1,160),(2,2)]),(157286704,[(0,7),(1,56),(1,160),(2,2)]),(314573408,[(0,6),(0,6),(1,56),(1,56),(1,160),(1,160),(2,2),(2,2)]),(314573408,[(0,7),(0,7),(1,56),(1,56),(1,160),(1,160),(2,2),(2,2)]),(321563928,triangleTwice_D42),(31457339,triangleTwice_D43),(31457339,triangleTwice_D44),(31457341,triangleTwice_D43),(31457341,triangleTwice_D44),(31457339,[(0,2),(1,28)]),(31457339,[(0,3),(1,28)]),(62914681,[(0,0),(0,2),(1,22),(1,28)]),(62914681,[(0,1),(0,3),(1,22),(1,28)]),(31457339,[(0,4),(1,32)]),(31457339,[(0,5),(1,32)]),(94372021,[(0,0),(0,2),(0,4),(1,22),(1,28),(1,32)]),(94372021,[(0,1),(0,3),(0,5),(1,22),(1,28),(1,32)]),(94372022,triangleTwice_D45),(94372022,triangleTwice_D46),(94372024,triangleTwice_D45),(94372024,triangleTwice_D46),(94372024,triangleTwice_D45),(94372024,triangleTwice_D46),(188744048,triangleTwice_D47),(188744048,triangleTwice_D47),(188744050,triangleTwice_D47),(188744051,triangleTwice_D48),(94372024,triangleTwice_D45),(94372024,triangleTwice_D46),(188744048,triangleTwice_D47),(188744048,triangleTwice_D47),(188744050,triangleTwice_D47),(188744051,triangleTwice_D48),(188744048,triangleTwice_D47),(188744048,triangleTwice_D47),(188744050,triangleTwice_D47),(188744051,triangleTwice_D48),(188744046,[(1,256)]),(188744046,[(1,262)]),(188744046,[(1,266)]),(377488099,[(1,256),(1,262)]),(566232152,[(1,256),(1,262),(1,266)]),(192239305,triangleTwice_D49),(192239305,triangleTwice_D50),(192239313,triangleTwice_D49),(192239313,triangleTwice_D50),(192239305,[(0,2),(1,262)]),(192239305,[(0,3),(1,262)]),(384478625,[(0,0),(0,2),(1,256),(1,262)]),(384478625,[(0,1),(0,3),(1,256),(1,262)]),(192239305,[(0,4),(1,266)]),(192239305,[(0,5),(1,266)]),(576717937,[(0,0),(0,2),(0,4),(1,256),(1,262),(1,266)]),(576717937,[(0,1),(0,3),(0,5),(1,256),(1,262),(1,266)]),(576717938,[(0,0),(0,2),(0,4),(1,271)]),(576717938,[(0,1),(0,3),(0,5),(1,271)]),(580213199,[(0,0),(0,2),(0,4),(0,6),(1,271)]),(580213199,[(0,1),(0,3),(0,5),(0,7),(1,271)])]
abbrev triangleTwice_Q (q : Nat→Rat) (σ : Nat→ByteArray) : Prop := ∀ (a : Nat) nd,triangleTwice_N[a]? = some nd→q a=valN σ q nd
variable {q : Nat→Rat} {σ : Nat→ByteArray}
theorem triangleTwice_wf : wfB 0 triangleTwice_N=true := by kernel_rfl
theorem triangleTwice_sz : saB triangleTwice_E 0 triangleTwice_N triangleTwice_E triangleTwice_Z=true := by kernel_rfl
theorem triangleTwice_lt : litB triangleTwice_N triangleTwice_L=true := by kernel_rfl
theorem triangleTwice_cn : canB triangleTwice_N triangleTwice_C=true := by kernel_rfl
theorem triangleTwice_c33 : cst 0 1 1=(1 : Rat) := by decide +kernel
theorem triangleTwice_c59 : cst 0 0 1=(0 : Rat) := by decide +kernel
theorem triangleTwice_c198 : cst 0 1 2=((1 / 2) : Rat) := by decide +kernel
def triangleTwice_A : List AV := [(false,[(true,[.inr (2,0,0,0,0),.inr (2,1,0,0,0),.inr (2,2,0,0,0),.inr (2,3,0,0,0),.inr (2,4,0,0,0),.inr (2,5,0,0,0)])]),(false,[(true,[.inr (2,6,0,0,0),.inr (2,7,0,0,0)])])]
theorem tw_area {a1 a2 b1 b2 c1 c2 x y z X Y S D : Rat} (hS : S=x+y+z) (hX : X*S=a1*x+b1*y+c1*z) (hY : Y*S=a2*x+b2*y+c2*z) (hD : D=(b1 - a1)*(c2 - a2) - (b2 - a2)*(c1 - a1)) : ((b1 - X)*(c2 - Y) - (b2 - Y)*(c1 - X))*S=x*D∧((c1 - X)*(a2 - Y) - (c2 - Y)*(a1 - X))*S=y*D∧((a1 - X)*(b2 - Y) - (a2 - Y)*(b1 - X))*S=z*D := by
 have k1 : ((b1 - X)*(c2 - Y) - (b2 - Y)*(c1 - X))*S=(b1*c2 - b2*c1)*S - (b1*(Y*S) - b2*(X*S)) - ((X*S)*c2 - (Y*S)*c1) := by clear hS hX hY hD; grind
 have k2 : ((c1 - X)*(a2 - Y) - (c2 - Y)*(a1 - X))*S=(c1*a2 - c2*a1)*S - (c1*(Y*S) - c2*(X*S)) - ((X*S)*a2 - (Y*S)*a1) := by clear hS hX hY hD k1; grind
 have k3 : ((a1 - X)*(b2 - Y) - (a2 - Y)*(b1 - X))*S=(a1*b2 - a2*b1)*S - (a1*(Y*S) - a2*(X*S)) - ((X*S)*b2 - (Y*S)*b1) := by clear hS hX hY hD k1 k2; grind
 rw [k1,k2,k3,hX,hY,hS,hD]
 clear k1 k2 k3 hX hY hS hD
 refine ⟨?_,?_,?_⟩ <;> grind
theorem tw_q {n D S x : Rat} (hD : D ≠ 0) (hS : S ≠ 0) (h : n*S=x*D) : n / D=x / S := by
 have e1 : n / D*D=n := Rat.div_mul_cancel hD
 have e2 : x / S*S=x := Rat.div_mul_cancel hS
 have e3 : (n / D - x / S)*(D*S)=(n / D*D)*S - (x / S*S)*D := by
  generalize n / D=p
  generalize x / S=q
  clear e1 e2 h
  grind
 rw [e1,e2,h,Rat.sub_self] at e3
 have e4 := (Rat.mul_eq_zero.1 e3).resolve_right (mul_ne hD hS)
 clear e1 e2 e3 h
 grind
theorem div_ne {a b : Rat} (ha : a ≠ 0) (hb : b ≠ 0) : a / b ≠ 0 := fun h => ha (by
 have e : a / b*b=a := Rat.div_mul_cancel hb
 rw [← e,h,Rat.zero_mul])
theorem tw_r {k s S w : Rat} (hk : k ≠ 0) (hs : s ≠ 0) (hS : S ≠ 0) (hw : w=k / s / S) : w ≠ 0∧k / w=S*s := by
 have n : w ≠ 0 := by rw [hw]; exact div_ne (div_ne hk hs) hS
 refine ⟨n,?_⟩
 have e1 : k / s / S*S=k / s := Rat.div_mul_cancel hS
 have e2 : k / s*s=k := Rat.div_mul_cancel hs
 have e3 : k=S*s*w := by
  have h1 : w*S=k / s := by rw [hw]; exact e1
  rw [← h1] at e2
  rw [← e2]
  clear e1 e2 h1 hw
  grind
 have e4 : k / w*w=k := Rat.div_mul_cancel n
 have e5 : (k / w - S*s)*w=0 := by
  rw [show (k / w - S*s)*w=k / w*w - S*s*w by grind,e4,← e3,Rat.sub_self]
 have e6 := (Rat.mul_eq_zero.1 e5).resolve_right n
 clear e1 e2 e3 e4 e5 hw
 grind
theorem tw_f {p1 p2 a1 a2 n1 n2 N u v : Rat} (n0 : N ≠ 0) (hN : N=n1*n1+n2*n2) (hv : v - u=n1*(a1 - p1)+n2*(a2 - p2)) : (p1+(a1 - p1)*(1 / 2) - (p1+n1*-u / N))*(p1+(a1 - p1)*(1 / 2) - (p1+n1*-u / N))+(p2+(a2 - p2)*(1 / 2) - (p2+n2*-u / N))*(p2+(a2 - p2)*(1 / 2) - (p2+n2*-u / N))=((a1 - p1)*(a1 - p1)+(a2 - p2)*(a2 - p2))*(1 / 4)+u*v / N := by
 have e : ∀ m : Rat,m*-u / N=-(m*(u / N)) := fun m => by rw [Rat.div_def,Rat.div_def]; grind
 have e2 : u*v / N=(u / N)*v := by rw [Rat.div_def,Rat.div_def]; grind
 have e3 : u / N*N=u := Rat.div_mul_cancel n0
 rw [e,e,e2]
 generalize u / N=t at e3
 clear e e2
 have hv' : v=u+(n1*(a1 - p1)+n2*(a2 - p2)) := by rw [← hv]; clear hv hN e3; grind
 rw [hv',← e3,hN]
 clear hv hv' e3 hN n0
 grind
theorem tw_m (p a : Rat) : p+(a - p)*(1 / 2)=a+(p - a)*(1 / 2) := by grind
theorem tw_s (x y p q : Rat) : (x - p)*(x - p)+(y - q)*(y - q)=(p - x)*(p - x)+(q - y)*(q - y) := by grind
theorem tw_g {s D k S w : Rat} (hk : k ≠ 0) (hs : s ≠ 0) (hw : w=k / s / S) : s*D*(w*D) / k=D*D / S := by
 have e : s*w=k / S := by
  rw [hw,Rat.div_def,Rat.div_def,Rat.div_def]
  have h : s*s⁻¹=1 := Rat.mul_inv_cancel s hs
  rw [show s*(k*s⁻¹*S⁻¹)=k*S⁻¹*(s*s⁻¹) by grind,h,Rat.mul_one]
 rw [show s*D*(w*D)=s*w*(D*D) by grind,e,Rat.div_def,Rat.div_def,Rat.div_def]
 have h : k*k⁻¹=1 := Rat.mul_inv_cancel k hk
 rw [show k*S⁻¹*(D*D)*k⁻¹=D*D*S⁻¹*(k*k⁻¹) by grind,h,Rat.mul_one]
theorem tw_sum {a b c p D : Rat} {a2 b2 c2 p2 : Rat} (hD : D ≠ 0) (eD : D=(b - a)*(c2 - a2) - (b2 - a2)*(c - a)) {x y z : Rat} (hx : x=((b - p)*(c2 - p2) - (b2 - p2)*(c - p)) / D) (hy : y=((c - p)*(a2 - p2) - (c2 - p2)*(a - p)) / D) (hz : z=((a - p)*(b2 - p2) - (a2 - p2)*(b - p)) / D) : x+y+z=1∧a*x+b*y+c*z=p∧a2*x+b2*y+c2*z=p2 := by
 have h : D*D⁻¹=1 := Rat.mul_inv_cancel D hD
 rw [Rat.div_def] at hx hy hz
 generalize D⁻¹=i at *
 subst hx hy hz eD
 refine ⟨?_,?_,?_⟩ <;> grind
theorem tw_c {X S p a b c x y z : Rat} (hS : S ≠ 0) (h : X*S=a*(S*x)+b*(S*y)+c*(S*z)) (e : a*x+b*y+c*z=p) : X=p := by
 have k : (X - p)*S=0 := by
  rw [show (X - p)*S=X*S - p*S by grind,h,← e]
  clear h e
  grind
 have := (Rat.mul_eq_zero.1 k).resolve_right hS
 clear h e k
 grind
theorem tw_z {a b : Rat} (h : a*a+b*b=0) : a=0∧b=0 := Classical.byContradiction fun n => by
 have hp := sq_pos n
 rw [h] at hp
 exact absurd hp (by decide)
theorem tw_ne {a1 a2 b1 b2 c1 c2 D : Rat} (h0 : D ≠ 0) (hD : D=(b1 - a1)*(c2 - a2) - (b2 - a2)*(c1 - a1)) : (c1 - b1)*(c1 - b1)+(c2 - b2)*(c2 - b2) ≠ 0∧(a1 - c1)*(a1 - c1)+(a2 - c2)*(a2 - c2) ≠ 0∧(b1 - a1)*(b1 - a1)+(b2 - a2)*(b2 - a2) ≠ 0 := by
 refine ⟨fun h => h0 ?_,fun h => h0 ?_,fun h => h0 ?_⟩ <;> obtain ⟨h1,h2⟩ := tw_z h <;> rw [hD] <;> clear hD h h0 <;> grind
theorem tw_one {S x y z : Rat} (h : x+y+z=1) : S*x+S*y+S*z=S := by
 rw [← Rat.mul_add,← Rat.mul_add,h,Rat.mul_one]
theorem tw_v0 (b1 b2 c1 c2 x y : Rat) : -(c2 - b2)*x+(c1 - b1)*y+-(-(c2 - b2)*b1+(c1 - b1)*b2)=(b1 - x)*(c2 - y) - (b2 - y)*(c1 - x) := by grind
theorem tw_v1 (a1 a2 c1 c2 x y : Rat) : -(a2 - c2)*x+(a1 - c1)*y+-(-(a2 - c2)*c1+(a1 - c1)*c2)=(c1 - x)*(a2 - y) - (c2 - y)*(a1 - x) := by grind
theorem tw_v2 (a1 a2 b1 b2 x y : Rat) : -(b2 - a2)*x+(b1 - a1)*y+-(-(b2 - a2)*a1+(b1 - a1)*a2)=(a1 - x)*(b2 - y) - (a2 - y)*(b1 - x) := by grind
theorem tw_n (p q : Rat) : -q*-q+p*p=p*p+q*q := by grind
theorem tw_d (a b c d p q k : Rat) : a*c+b*d+k - (a*p+b*q+k)=a*(c - p)+b*(d - q) := by grind
theorem tw_h {v u a b c d p q : Rat} (h : v - u=a*(c - p)+b*(d - q)) : u - v=a*(p - c)+b*(q - d) := by grind
theorem triangleTwice_I {z0 z1 z2 z3 z4 z5 z6 z7 z8 z9 z10 z11 z12 z13 z14 z15 z16 z17 z18 z19 z20 z21 z22 z23 z24 z25 z26 z27 z28 z29 z30 z31 z32 z34 z35 z36 z37 z38 z39 z40 z41 z42 z43 z44 z45 z46 z48 z50 z54 z55 z56 z57 z58 z59 z60 z61 z62 z63 z64 z65 z66 z67 z68 z69 z70 z71 z72 z73 z74 z75 z76 z77 z78 z79 z80 z81 z82 z83 z84 z85 z86 z87 z88 z89 z90 z91 z92 z93 z94 z95 z96 z97 z98 z99 z100 z101 z102 z103 z104 z105 z106 z107 z108 z109 z110 z111 z112 z113 z114 z115 z116 z117 z118 z119 z120 z121 z122 z123 z124 z125 z126 z127 z128 z129 z130 z131 z132 z133 z134 z135 z136 z137 z138 z139 z140 z141 z142 z143 z144 z145 z146 z147 z148 z149 z150 z151 z152 z153 z154 z155 z156 z157 z158 z159 z160 z161 z162 z163 z164 z165 z166 z167 z168 z169 z170 z171 z172 z173 z174 z175 z176 z177 z178 z179 z180 z181 z182 z183 z184 z185 z186 z187 z188 z189 z190 z191 z192 z193 z194 z195 z196 z197 z198 z199 z200 z201 z202 z203 z204 z205 z206 z207 z208 z209 z210 z211 z212 z213 z214 z215 z216 z217 z218 z219 z220 z221 z222 z223 z224 z225 z226 z227 z228 z229 z230 z231 z232 z233 z234 : Rat} : z6=z2-z0→z7=z3-z1→z8=z4-z0→z9=z5-z1→z10=z6*z9→z11=z7*z8→z12=z10-z11→z15=z2-z13→z16=z3-z14→z17=z4-z13→z18=z5-z14→z19=z15*z18→z20=z16*z17→z21=z19-z20→z22=z21/z12→z23=z0-z13→z24=z1-z14→z25=z17*z24→z26=z18*z23→z27=z25-z26→z28=z27/z12→z29=z23*z16→z30=z24*z15→z31=z29-z30→z32=z31/z12→z34=z4-z2→z35=z5-z3→z36=z34*z34→z37=z35*z35→z38=z36+z37→z39=z0-z4→z40=z1-z5→z41=z39*z39→z42=z40*z40→z43=z41+z42→z44=z6*z6→z45=z7*z7→z46=z44+z45→z48=z38/z22→z50=z43/z28→z54=z46/z32→z55=z48+z50→z56=z55+z54→z57=z0*z48→z58=z1*z48→z59=0→z60=z59+z57→z61=z59+z58→z62=z2*z50→z63=z3*z50→z64=z60+z62→z65=z61+z63→z66=z4*z54→z67=z5*z54→z68=z64+z66→z69=z65+z67→z70=z68/z56→z71=z69/z56→z72=z2-z70→z73=z3-z71→z74=z4-z70→z75=z5-z71→z76=z72*z75→z77=z73*z74→z78=z76-z77→z79=z78/z12→z80=z0-z70→z81=z1-z71→z82=z74*z81→z83=z75*z80→z84=z82-z83→z85=z84/z12→z86=z80*z73→z87=z81*z72→z88=z86-z87→z89=z88/z12→z90=z38/z79→z91=z43/z85→z92=z46/z89→z93=z90+z91→z94=z93+z92→z95=z0*z90→z96=z1*z90→z97=z59+z95→z98=z59+z96→z99=z2*z91→z100=z3*z91→z101=z97+z99→z102=z98+z100→z103=z4*z92→z104=z5*z92→z105=z101+z103→z106=z102+z104→z107=z105/z94→z108=z106/z94→z109=z107-z13→z110=z108-z14→z111=-z35→z112=z111*z2→z113=z34*z3→z114=z112+z113→z115=-z114→z116=z111*z13→z117=z34*z14→z118=z116+z117→z119=z118+z115→z120=-z119→z121=z111*z120→z122=z34*z120→z123=z111*z111→z124=z123+z36→z125=z121/z124→z126=z122/z124→z127=z13+z125→z128=z14+z126→z129=-z40→z130=z129*z4→z131=z39*z5→z132=z130+z131→z133=-z132→z134=z129*z13→z135=z39*z14→z136=z134+z135→z137=z136+z133→z138=-z137→z139=z129*z138→z140=z39*z138→z141=z129*z129→z142=z141+z41→z143=z139/z142→z144=z140/z142→z145=z13+z143→z146=z14+z144→z147=-z7→z148=z147*z0→z149=z6*z1→z150=z148+z149→z151=-z150→z152=z147*z13→z153=z6*z14→z154=z152+z153→z155=z154+z151→z156=-z155→z157=z147*z156→z158=z6*z156→z159=z147*z147→z160=z159+z44→z161=z157/z160→z162=z158/z160→z163=z13+z161→z164=z14+z162→z165=z111*z70→z166=z34*z71→z167=z165+z166→z168=z167+z115→z169=-z168→z170=z111*z169→z171=z34*z169→z172=z170/z124→z173=z171/z124→z174=z70+z172→z175=z71+z173→z176=z129*z70→z177=z39*z71→z178=z176+z177→z179=z178+z133→z180=-z179→z181=z129*z180→z182=z39*z180→z183=z181/z142→z184=z182/z142→z185=z70+z183→z186=z71+z184→z187=z147*z70→z188=z6*z71→z189=z187+z188→z190=z189+z151→z191=-z190→z192=z147*z191→z193=z6*z191→z194=z192/z160→z195=z193/z160→z196=z70+z194→z197=z71+z195→z198=(1/2)→z199=z70-z13→z200=z71-z14→z201=z199*z198→z202=z200*z198→z203=z13+z201→z204=z14+z202→z205=z203-z127→z206=z204-z128→z207=z205*z205→z208=z206*z206→z209=z207+z208→z210=z203-z174→z211=z204-z175→z212=z210*z210→z213=z211*z211→z214=z212+z213→z215=z203-z145→z216=z204-z146→z217=z215*z215→z218=z216*z216→z219=z217+z218→z220=z203-z185→z221=z204-z186→z222=z220*z220→z223=z221*z221→z224=z222+z223→z225=z203-z163→z226=z204-z164→z227=z225*z225→z228=z226*z226→z229=z227+z228→z230=z203-z196→z231=z204-z197→z232=z230*z230→z233=z231*z231→z234=z232+z233→¬ (z12=0)→¬ (z22=0)→¬ (z28=0)→¬ (z32=0)→¬ (z56=0)→((¬ (z79=0))∧(¬ (z85=0))∧(¬ (z89=0))∧(¬ (z94=0))∧(z109=0∧z110=0)∧(z214=z209)∧(z219=z209)∧(z224=z209)∧(z229=z209)∧(z234=z209)) := by
 intro e6 e7 e8 e9 e10 e11 e12 e15 e16 e17 e18 e19 e20 e21 e22 e23 e24 e25 e26 e27 e28 e29 e30 e31 e32 e34 e35 e36 e37 e38 e39 e40 e41 e42 e43 e44 e45 e46 e48 e50 e54 e55 e56 e57 e58 e59 e60 e61 e62 e63 e64 e65 e66 e67 e68 e69 e70 e71 e72 e73 e74 e75 e76 e77 e78 e79 e80 e81 e82 e83 e84 e85 e86 e87 e88 e89 e90 e91 e92 e93 e94 e95 e96 e97 e98 e99 e100 e101 e102 e103 e104 e105 e106 e107 e108 e109 e110 e111 e112 e113 e114 e115 e116 e117 e118 e119 e120 e121 e122 e123 e124 e125 e126 e127 e128 e129 e130 e131 e132 e133 e134 e135 e136 e137 e138 e139 e140 e141 e142 e143 e144 e145 e146 e147 e148 e149 e150 e151 e152 e153 e154 e155 e156 e157 e158 e159 e160 e161 e162 e163 e164 e165 e166 e167 e168 e169 e170 e171 e172 e173 e174 e175 e176 e177 e178 e179 e180 e181 e182 e183 e184 e185 e186 e187 e188 e189 e190 e191 e192 e193 e194 e195 e196 e197 e198 e199 e200 e201 e202 e203 e204 e205 e206 e207 e208 e209 e210 e211 e212 e213 e214 e215 e216 e217 e218 e219 e220 e221 e222 e223 e224 e225 e226 e227 e228 e229 e230 e231 e232 e233 e234 u0 u1 u2 u3 u4
 have D0 : z12=(z2 - z0)*(z5 - z1) - (z3 - z1)*(z4 - z0) := by rw [e12,e11,e10,e9,e8,e7,e6]
 have ⟨s1,s2,s3⟩ := tw_sum (a := z0) (b := z2) (c := z4) (p := z13) (a2 := z1) (b2 := z3) (c2 := z5) (p2 := z14) u0 D0 (x := z22) (by rw [e22,e21,e20,e19,e18,e17,e16,e15]) (y := z28) (by rw [e28,e27,e26,e25,e24,e23,e18,e17]) (z := z32) (by rw [e32,e31,e30,e29,e24,e23,e16,e15])
 have ⟨k1,k2,k3⟩ := tw_ne u0 D0
 have ka0 : z38 ≠ 0 := by rw [e38,e37,e36,e35,e34]; exact k1
 have ka1 : z43 ≠ 0 := by rw [e43,e42,e41,e40,e39]; exact k2
 have ka2 : z46 ≠ 0 := by rw [e46,e45,e44,e7,e6]; exact k3
 have hS : z56=z48+z50+z54 := by rw [e56,e55]
 have X0 : z70*z56=z0*z48+z2*z50+z4*z54 := by
  have h : z70*z56=z68 := by rw [e70]; exact Rat.div_mul_cancel u4
  rw [h,e68,e66,e64,e62,e60,e59,e57,Rat.zero_add]
 have X1 : z71*z56=z1*z48+z3*z50+z5*z54 := by
  have h : z71*z56=z69 := by rw [e71]; exact Rat.div_mul_cancel u4
  rw [h,e69,e67,e65,e63,e61,e59,e58,Rat.zero_add]
 have ⟨r1,r2,r3⟩ := tw_area hS X0 X1 D0
 have g0 : z78*z56=z48*z12 := by
  rw [e78,e77,e76,e75,e74,e73,e72]
  exact r1
 have w0 : z79=z38 / z22 / z56 := by rw [e79,tw_q u0 u4 g0,e48]
 have ⟨n0,q0⟩ := tw_r ka0 u1 u4 w0
 have t0 : z90=z56*z22 := by rw [e90,q0]
 have g1 : z84*z56=z50*z12 := by
  rw [e84,e83,e82,e81,e80,e75,e74]
  exact r2
 have w1 : z85=z43 / z28 / z56 := by rw [e85,tw_q u0 u4 g1,e50]
 have ⟨n1,q1⟩ := tw_r ka1 u2 u4 w1
 have t1 : z91=z56*z28 := by rw [e91,q1]
 have g2 : z88*z56=z54*z12 := by
  rw [e88,e87,e86,e81,e80,e73,e72]
  exact r3
 have w2 : z89=z46 / z32 / z56 := by rw [e89,tw_q u0 u4 g2,e54]
 have ⟨n2,q2⟩ := tw_r ka2 u3 u4 w2
 have t2 : z92=z56*z32 := by rw [e92,q2]
 have hS2 : z94=z56 := by rw [e94,e93,t0,t1,t2]; exact tw_one s1
 have nS2 : z94 ≠ 0 := by rw [hS2]; exact u4
 have Y0 : z107=z13 := by
  refine tw_c u4 ?_ s2
  have h : z107*z94=z105 := by rw [e107]; exact Rat.div_mul_cancel nS2
  rw [← hS2,h,e105,e103,e101,e99,e97,e95,e59,Rat.zero_add,t0,t1,t2,hS2]
 have Y1 : z108=z14 := by
  refine tw_c u4 ?_ s3
  have h : z108*z94=z106 := by rw [e108]; exact Rat.div_mul_cancel nS2
  rw [← hS2,h,e106,e104,e102,e100,e98,e96,e59,Rat.zero_add,t0,t1,t2,hS2]
 have vp0 : z119=z22*z12 := by
  have h : z22*z12=z21 := by rw [e22]; exact Rat.div_mul_cancel u0
  rw [h,e119,e118,e117,e116,e115,e114,e113,e112,e111,e35,e34,e21,e20,e19,e18,e17,e16,e15]
  exact tw_v0 ..
 have va0 : z168=z79*z12 := by
  have h : z79*z12=z78 := by rw [e79]; exact Rat.div_mul_cancel u0
  rw [h,e168,e167,e166,e165,e115,e114,e113,e112,e111,e78,e77,e76,e75,e74,e73,e72,e35,e34]
  exact tw_v0 ..
 have hN0 : z124=z111*z111+z34*z34 := by rw [e124,e123,e36]
 have hk0 : z124=z38 := by rw [e124,e123,e111,e38,e37,e36,e35,e34]; exact tw_n ..
 have nN0 : z124 ≠ 0 := by rw [hk0]; exact ka0
 have hv0 : z168 - z119=z111*(z70 - z13)+z34*(z71 - z14) := by rw [e168,e167,e166,e165,e119,e118,e117,e116]; exact tw_d ..
 have gg0 : z119*z168 / z124=z12*z12 / z56 := by rw [hk0,vp0,va0]; exact tw_g ka0 u1 w0
 have dp0 : z209=((z70 - z13)*(z70 - z13)+(z71 - z14)*(z71 - z14))*(1 / 4)+z12*z12 / z56 := by
  rw [e209,e208,e207,e206,e205,e204,e203,e202,e201,e200,e199,e198,e128,e127,e126,e125,e122,e121,e120,tw_f nN0 hN0 hv0,gg0]
 have da0 : z214=((z70 - z13)*(z70 - z13)+(z71 - z14)*(z71 - z14))*(1 / 4)+z12*z12 / z56 := by
  rw [e214,e213,e212,e211,e210,e204,e203,e202,e201,e200,e199,e198,e175,e174,e173,e172,e171,e170,e169,tw_m z13 z70,tw_m z14 z71,tw_f (u := z168) (v := z119) nN0 hN0 (tw_h hv0),Rat.mul_comm z168 z119,gg0,tw_s z13 z14 z70 z71]
 have vp1 : z137=z28*z12 := by
  have h : z28*z12=z27 := by rw [e28]; exact Rat.div_mul_cancel u0
  rw [h,e137,e136,e135,e134,e133,e132,e131,e130,e129,e40,e39,e27,e26,e25,e24,e23,e18,e17]
  exact tw_v1 ..
 have va1 : z179=z85*z12 := by
  have h : z85*z12=z84 := by rw [e85]; exact Rat.div_mul_cancel u0
  rw [h,e179,e178,e177,e176,e133,e132,e131,e130,e129,e84,e83,e82,e81,e80,e75,e74,e40,e39]
  exact tw_v1 ..
 have hN1 : z142=z129*z129+z39*z39 := by rw [e142,e141,e41]
 have hk1 : z142=z43 := by rw [e142,e141,e129,e43,e42,e41,e40,e39]; exact tw_n ..
 have nN1 : z142 ≠ 0 := by rw [hk1]; exact ka1
 have hv1 : z179 - z137=z129*(z70 - z13)+z39*(z71 - z14) := by rw [e179,e178,e177,e176,e137,e136,e135,e134]; exact tw_d ..
 have gg1 : z137*z179 / z142=z12*z12 / z56 := by rw [hk1,vp1,va1]; exact tw_g ka1 u2 w1
 have dp1 : z219=((z70 - z13)*(z70 - z13)+(z71 - z14)*(z71 - z14))*(1 / 4)+z12*z12 / z56 := by
  rw [e219,e218,e217,e216,e215,e204,e203,e202,e201,e200,e199,e198,e146,e145,e144,e143,e140,e139,e138,tw_f nN1 hN1 hv1,gg1]
 have da1 : z224=((z70 - z13)*(z70 - z13)+(z71 - z14)*(z71 - z14))*(1 / 4)+z12*z12 / z56 := by
  rw [e224,e223,e222,e221,e220,e204,e203,e202,e201,e200,e199,e198,e186,e185,e184,e183,e182,e181,e180,tw_m z13 z70,tw_m z14 z71,tw_f (u := z179) (v := z137) nN1 hN1 (tw_h hv1),Rat.mul_comm z179 z137,gg1,tw_s z13 z14 z70 z71]
 have vp2 : z155=z32*z12 := by
  have h : z32*z12=z31 := by rw [e32]; exact Rat.div_mul_cancel u0
  rw [h,e155,e154,e153,e152,e151,e150,e149,e148,e147,e31,e30,e29,e24,e23,e16,e15,e7,e6]
  exact tw_v2 ..
 have va2 : z190=z89*z12 := by
  have h : z89*z12=z88 := by rw [e89]; exact Rat.div_mul_cancel u0
  rw [h,e190,e189,e188,e187,e151,e150,e149,e148,e147,e88,e87,e86,e81,e80,e73,e72,e7,e6]
  exact tw_v2 ..
 have hN2 : z160=z147*z147+z6*z6 := by rw [e160,e159,e44]
 have hk2 : z160=z46 := by rw [e160,e159,e147,e46,e45,e44,e7,e6]; exact tw_n ..
 have nN2 : z160 ≠ 0 := by rw [hk2]; exact ka2
 have hv2 : z190 - z155=z147*(z70 - z13)+z6*(z71 - z14) := by rw [e190,e189,e188,e187,e155,e154,e153,e152]; exact tw_d ..
 have gg2 : z155*z190 / z160=z12*z12 / z56 := by rw [hk2,vp2,va2]; exact tw_g ka2 u3 w2
 have dp2 : z229=((z70 - z13)*(z70 - z13)+(z71 - z14)*(z71 - z14))*(1 / 4)+z12*z12 / z56 := by
  rw [e229,e228,e227,e226,e225,e204,e203,e202,e201,e200,e199,e198,e164,e163,e162,e161,e158,e157,e156,tw_f nN2 hN2 hv2,gg2]
 have da2 : z234=((z70 - z13)*(z70 - z13)+(z71 - z14)*(z71 - z14))*(1 / 4)+z12*z12 / z56 := by
  rw [e234,e233,e232,e231,e230,e204,e203,e202,e201,e200,e199,e198,e197,e196,e195,e194,e193,e192,e191,tw_m z13 z70,tw_m z14 z71,tw_f (u := z190) (v := z155) nN2 hN2 (tw_h hv2),Rat.mul_comm z190 z155,gg2,tw_s z13 z14 z70 z71]
 exact ⟨n0,n1,n2,nS2,⟨by rw [e109,Y0,Rat.sub_self],by rw [e110,Y1,Rat.sub_self]⟩,(da0.trans dp0.symm),(dp1.trans dp0.symm),(da1.trans dp0.symm),(dp2.trans dp0.symm),(da2.trans dp0.symm)⟩
theorem triangleTwice_T {z0 z1 z2 z3 z4 z5 z6 z7 z8 z9 z10 z11 z12 z13 z14 z15 z16 z17 z18 z19 z20 z21 z22 z23 z24 z25 z26 z27 z28 z29 z30 z31 z32 z33 z47 z49 z51 z52 z53 z59 z235 z236 z237 z238 z239 z240 z241 z242 z243 z244 z245 z246 z247 z248 z249 z250 z251 z252 z253 z254 z255 z256 z257 z258 z259 z260 z261 z262 z263 z264 z265 z266 z267 z268 z269 z270 z271 z272 z273 z274 z275 z276 z277 z278 z279 z280 z281 z282 z283 z284 z285 z286 z287 : Rat} : z6=z2-z0→z7=z3-z1→z8=z4-z0→z9=z5-z1→z10=z6*z9→z11=z7*z8→z12=z10-z11→z15=z2-z13→z16=z3-z14→z17=z4-z13→z18=z5-z14→z19=z15*z18→z20=z16*z17→z21=z19-z20→z22=z21/z12→z23=z0-z13→z24=z1-z14→z25=z17*z24→z26=z18*z23→z27=z25-z26→z28=z27/z12→z29=z23*z16→z30=z24*z15→z31=z29-z30→z32=z31/z12→z33=1→z47=z33/z22→z49=z33/z28→z51=z33/z32→z52=z47+z49→z53=z52+z51→z59=0→z235=z0*z47→z236=z1*z47→z237=z59+z235→z238=z59+z236→z239=z2*z49→z240=z3*z49→z241=z237+z239→z242=z238+z240→z243=z4*z51→z244=z5*z51→z245=z241+z243→z246=z242+z244→z247=z245/z53→z248=z246/z53→z249=z2-z247→z250=z3-z248→z251=z4-z247→z252=z5-z248→z253=z249*z252→z254=z250*z251→z255=z253-z254→z256=z255/z12→z257=z0-z247→z258=z1-z248→z259=z251*z258→z260=z252*z257→z261=z259-z260→z262=z261/z12→z263=z257*z250→z264=z258*z249→z265=z263-z264→z266=z265/z12→z267=z33/z256→z268=z33/z262→z269=z33/z266→z270=z267+z268→z271=z270+z269→z272=z0*z267→z273=z1*z267→z274=z59+z272→z275=z59+z273→z276=z2*z268→z277=z3*z268→z278=z274+z276→z279=z275+z277→z280=z4*z269→z281=z5*z269→z282=z278+z280→z283=z279+z281→z284=z282/z271→z285=z283/z271→z286=z284-z13→z287=z285-z14→¬ (z12=0)→¬ (z22=0)→¬ (z28=0)→¬ (z32=0)→¬ (z53=0)→((¬ (z256=0))∧(¬ (z262=0))∧(¬ (z266=0))∧(¬ (z271=0))∧(z286=0∧z287=0)) := by
 intro e6 e7 e8 e9 e10 e11 e12 e15 e16 e17 e18 e19 e20 e21 e22 e23 e24 e25 e26 e27 e28 e29 e30 e31 e32 e33 e47 e49 e51 e52 e53 e59 e235 e236 e237 e238 e239 e240 e241 e242 e243 e244 e245 e246 e247 e248 e249 e250 e251 e252 e253 e254 e255 e256 e257 e258 e259 e260 e261 e262 e263 e264 e265 e266 e267 e268 e269 e270 e271 e272 e273 e274 e275 e276 e277 e278 e279 e280 e281 e282 e283 e284 e285 e286 e287 u0 u1 u2 u3 u4
 have D0 : z12=(z2 - z0)*(z5 - z1) - (z3 - z1)*(z4 - z0) := by rw [e12,e11,e10,e9,e8,e7,e6]
 have ⟨s1,s2,s3⟩ := tw_sum (a := z0) (b := z2) (c := z4) (p := z13) (a2 := z1) (b2 := z3) (c2 := z5) (p2 := z14) u0 D0 (x := z22) (by rw [e22,e21,e20,e19,e18,e17,e16,e15]) (y := z28) (by rw [e28,e27,e26,e25,e24,e23,e18,e17]) (z := z32) (by rw [e32,e31,e30,e29,e24,e23,e16,e15])
 have ka0 : z33 ≠ 0 := by rw [e33]; decide
 have hS : z53=z47+z49+z51 := by rw [e53,e52]
 have X0 : z247*z53=z0*z47+z2*z49+z4*z51 := by
  have h : z247*z53=z245 := by rw [e247]; exact Rat.div_mul_cancel u4
  rw [h,e245,e243,e241,e239,e237,e235,e59,Rat.zero_add]
 have X1 : z248*z53=z1*z47+z3*z49+z5*z51 := by
  have h : z248*z53=z246 := by rw [e248]; exact Rat.div_mul_cancel u4
  rw [h,e246,e244,e242,e240,e238,e236,e59,Rat.zero_add]
 have ⟨r1,r2,r3⟩ := tw_area hS X0 X1 D0
 have g0 : z255*z53=z47*z12 := by
  rw [e255,e254,e253,e252,e251,e250,e249]
  exact r1
 have w0 : z256=z33 / z22 / z53 := by rw [e256,tw_q u0 u4 g0,e47]
 have ⟨n0,q0⟩ := tw_r ka0 u1 u4 w0
 have t0 : z267=z53*z22 := by rw [e267,q0]
 have g1 : z261*z53=z49*z12 := by
  rw [e261,e260,e259,e258,e257,e252,e251]
  exact r2
 have w1 : z262=z33 / z28 / z53 := by rw [e262,tw_q u0 u4 g1,e49]
 have ⟨n1,q1⟩ := tw_r ka0 u2 u4 w1
 have t1 : z268=z53*z28 := by rw [e268,q1]
 have g2 : z265*z53=z51*z12 := by
  rw [e265,e264,e263,e258,e257,e250,e249]
  exact r3
 have w2 : z266=z33 / z32 / z53 := by rw [e266,tw_q u0 u4 g2,e51]
 have ⟨n2,q2⟩ := tw_r ka0 u3 u4 w2
 have t2 : z269=z53*z32 := by rw [e269,q2]
 have hS2 : z271=z53 := by rw [e271,e270,t0,t1,t2]; exact tw_one s1
 have nS2 : z271 ≠ 0 := by rw [hS2]; exact u4
 have Y0 : z284=z13 := by
  refine tw_c u4 ?_ s2
  have h : z284*z271=z282 := by rw [e284]; exact Rat.div_mul_cancel nS2
  rw [← hS2,h,e282,e280,e278,e276,e274,e272,e59,Rat.zero_add,t0,t1,t2,hS2]
 have Y1 : z285=z14 := by
  refine tw_c u4 ?_ s3
  have h : z285*z271=z283 := by rw [e285]; exact Rat.div_mul_cancel nS2
  rw [← hS2,h,e283,e281,e279,e277,e275,e273,e59,Rat.zero_add,t0,t1,t2,hS2]
 exact ⟨n0,n1,n2,nS2,⟨by rw [e286,Y0,Rat.sub_self],by rw [e287,Y1,Rat.sub_self]⟩⟩
theorem triangleTwice_r0 : (callB (sx Tryz.prog triangleTwice_N [(0,12,0,1)] [] triangleTwice_L triangleTwice_C triangleTwice_Z (prQ [8])) 5 5 triangleTwice_A [] 0).map (·.1)=some (kB true) := by kernel_rfl
theorem triangleTwice_r1 : (callB (sx Tryz.prog triangleTwice_N [(0,12,0,0),(0,22,0,1)] [(61,[]),(45,[]),(176,[.inr (3,61,0,0,0),.inr (3,78,0,0,0)]),(62,[]),(176,[.inr (3,174,0,0,0),.inr (3,191,0,0,0)]),(117,[])] triangleTwice_L triangleTwice_C triangleTwice_Z (prQ [8])) 9 5 triangleTwice_A [] 0).map (·.1)=some (kB true) := by kernel_rfl
theorem triangleTwice_r2 : (callB (sx Tryz.prog triangleTwice_N [(0,12,0,0),(0,22,0,0),(0,28,0,1)] [(61,[]),(45,[]),(176,[.inr (3,61,0,0,0),.inr (3,78,0,0,0)]),(62,[]),(176,[.inr (3,175,0,0,0),.inr (3,192,0,0,0)]),(117,[])] triangleTwice_L triangleTwice_C triangleTwice_Z (prQ [8])) 9 5 triangleTwice_A [] 0).map (·.1)=some (kB true) := by kernel_rfl
theorem triangleTwice_r3 : (callB (sx Tryz.prog triangleTwice_N [(0,12,0,0),(0,22,0,0),(0,28,0,0),(0,32,0,1)] [(61,[]),(45,[]),(176,[.inr (3,61,0,0,0),.inr (3,78,0,0,0)]),(62,[]),(176,[.inr (3,176,0,0,0),.inr (3,193,0,0,0)]),(117,[])] triangleTwice_L triangleTwice_C triangleTwice_Z (prQ [8])) 9 5 triangleTwice_A [] 0).map (·.1)=some (kB true) := by kernel_rfl
theorem triangleTwice_r4 : (callB (sx Tryz.prog triangleTwice_N [(0,12,0,0),(0,22,0,0),(0,28,0,0),(0,32,0,0),(0,53,0,1),(0,56,0,1)] [(61,[]),(45,[]),(176,[.inr (3,61,0,0,0),.inr (3,78,0,0,0)]),(62,[]),(176,[.inr (3,183,0,0,0),.inr (3,200,0,0,0)]),(117,[])] triangleTwice_L triangleTwice_C triangleTwice_Z (prQ [8])) 9 5 triangleTwice_A [] 0).map (·.1)=some (kB true) := by kernel_rfl
theorem triangleTwice_r5 : (callB (sx Tryz.prog triangleTwice_N [(0,12,0,0),(0,22,0,0),(0,28,0,0),(0,32,0,0),(0,53,0,1),(0,56,0,0),(0,79,0,0),(0,85,0,0),(0,89,0,0),(0,94,0,0),(6,109,110,1),(3,214,209,1),(3,219,209,1),(3,224,209,1),(3,229,209,1),(3,234,209,1)] [(61,[]),(45,[]),(176,[.inr (3,61,0,0,0),.inr (3,78,0,0,0)]),(62,[]),(176,[.inr (3,183,0,0,0),.inr (3,200,0,0,0)]),(117,[]),(176,[.inr (3,370,0,0,0),.inr (3,387,0,0,0)]),(47,[.inr (3,557,0,0,0)]),(40,[]),(47,[.inr (3,713,0,0,0)])] triangleTwice_L triangleTwice_C triangleTwice_Z (prQ [8])) 9 5 triangleTwice_A [] 0).map (·.1)=some (kB true) := by kernel_rfl
theorem triangleTwice_r6 : (callB (sx Tryz.prog triangleTwice_N [(0,12,0,0),(0,22,0,0),(0,28,0,0),(0,32,0,0),(0,53,0,0),(0,256,0,0),(0,262,0,0),(0,266,0,0),(0,271,0,0),(6,286,287,1),(0,56,0,1)] [(61,[]),(45,[]),(176,[.inr (3,61,0,0,0),.inr (3,78,0,0,0)]),(176,[.inr (3,210,0,0,0),.inr (3,227,0,0,0)]),(62,[]),(176,[.inr (3,363,0,0,0),.inr (3,380,0,0,0)]),(117,[])] triangleTwice_L triangleTwice_C triangleTwice_Z (prQ [8])) 9 5 triangleTwice_A [] 0).map (·.1)=some (kB true) := by kernel_rfl
theorem triangleTwice_r7 : (callB (sx Tryz.prog triangleTwice_N [(0,12,0,0),(0,22,0,0),(0,28,0,0),(0,32,0,0),(0,53,0,0),(0,256,0,0),(0,262,0,0),(0,266,0,0),(0,271,0,0),(6,286,287,1),(0,56,0,0),(0,79,0,0),(0,85,0,0),(0,89,0,0),(0,94,0,0),(6,109,110,1),(3,214,209,1),(3,219,209,1),(3,224,209,1),(3,229,209,1),(3,234,209,1)] [(61,[]),(45,[]),(176,[.inr (3,61,0,0,0),.inr (3,78,0,0,0)]),(176,[.inr (3,210,0,0,0),.inr (3,227,0,0,0)]),(62,[]),(176,[.inr (3,363,0,0,0),.inr (3,380,0,0,0)]),(117,[]),(176,[.inr (3,550,0,0,0),.inr (3,567,0,0,0)]),(47,[.inr (3,737,0,0,0)]),(40,[]),(47,[.inr (3,893,0,0,0)])] triangleTwice_L triangleTwice_C triangleTwice_Z (prQ [8])) 9 5 triangleTwice_A [] 0).map (·.1)=some (kB true) := by kernel_rfl
theorem triangleTwice_An {a b : Prop} (x : a) (y : b) : a∧b := ⟨x,y⟩
theorem triangleTwice_leaf {H : List (Nat × Nat × Nat × Nat)} {K : List (FuncId × List AC)} {k : Nat} {q : Nat→Rat} {σ : Nat→ByteArray} {args : List AV} {vs : List Value} {w : World} (hr : (callB (sx Tryz.prog triangleTwice_N H K triangleTwice_L triangleTwice_C triangleTwice_Z (prQ [8])) k 5 args [] 0).map (·.1)=some (kB true)) (hσ : ∀ j,(σ j).size≤1048576) (hq : ∀ (a : Nat) nd,triangleTwice_N[a]? = some nd→q a=valN σ q nd) (h0 : ∀ a,triangleTwice_N.length≤a→q a=0) (hH : hAll q H) (hp : PreS w) (hA : ∀ K,A2 (avOn (cOn (evS q σ) K (fun _ => none) w)) args vs) : Calls Tryz.prog 5 vs.toArray w fun e w' => Below w.heap.size w w'∧e=.returned (.bool true) :=
 run_toldQ' k (hy_ofA hσ triangleTwice_wf triangleTwice_sz triangleTwice_lt triangleTwice_cn hq h0 hH) (by simp [closed_cornered]) (by kernel_rfl) hr hp (hA K)
theorem triangleTwice_walk {w : World} {tax taz tbx tbz tcx tcz vx vz : ByteArray}  (stax : tax.size≤1048576) (staz : taz.size≤1048576) (stbx : tbx.size≤1048576) (stbz : tbz.size≤1048576) (stcx : tcx.size≤1048576) (stcz : tcz.size≤1048576) (svx : vx.size≤1048576) (svz : vz.size≤1048576) (tab : Tab w) (mx : MaxL w) :
  Calls Tryz.prog 5 #[.agg #[.string tax,.string taz,.string tbx,.string tbz,.string tcx,.string tcz],.agg #[.string vx,.string vz]] w fun e w' => Below w.heap.size w w'∧e=.returned (.bool true) := by
 have hσ : ∀ j,(sgOf [tax,taz,tbx,tbz,tcx,tcz,vx,vz] j).size≤1048576 := sgOf_size (by simp [stax,staz,stbx,stbz,stcx,stcz,svx,svz])
 obtain ⟨q,hq,h0⟩ := nodes_exist (sgOf [tax,taz,tbx,tbz,tcx,tcz,vx,vz]) triangleTwice_N triangleTwice_wf
 have hA : ∀ K,A2 (avOn (cOn (evS q (sgOf [tax,taz,tbx,tbz,tcx,tcz,vx,vz])) K (fun _ => none) w)) [(false,[(true,[.inr (2,0,0,0,0),.inr (2,1,0,0,0),.inr (2,2,0,0,0),.inr (2,3,0,0,0),.inr (2,4,0,0,0),.inr (2,5,0,0,0)])]),(false,[(true,[.inr (2,6,0,0,0),.inr (2,7,0,0,0)])])] [.agg #[.string tax,.string taz,.string tbx,.string tbz,.string tcx,.string tcz],.agg #[.string vx,.string vz]] := fun K => ⟨⟨⟨[.string tax,.string taz,.string tbx,.string tbz,.string tcx,.string tcz],rfl,rfl,rfl,rfl,rfl,rfl,rfl,trivial⟩,trivial⟩,⟨⟨[.string vx,.string vz],rfl,rfl,rfl,trivial⟩,trivial⟩,trivial⟩
 have E6 : q 6=q 2 - q 0 := hq 6 _ rfl
 have E7 : q 7=q 3 - q 1 := hq 7 _ rfl
 have E8 : q 8=q 4 - q 0 := hq 8 _ rfl
 have E9 : q 9=q 5 - q 1 := hq 9 _ rfl
 have E10 : q 10=q 6*q 9 := hq 10 _ rfl
 have E11 : q 11=q 7*q 8 := hq 11 _ rfl
 have E12 : q 12=q 10 - q 11 := hq 12 _ rfl
 have E15 : q 15=q 2 - q 13 := hq 15 _ rfl
 have E16 : q 16=q 3 - q 14 := hq 16 _ rfl
 have E17 : q 17=q 4 - q 13 := hq 17 _ rfl
 have E18 : q 18=q 5 - q 14 := hq 18 _ rfl
 have E19 : q 19=q 15*q 18 := hq 19 _ rfl
 have E20 : q 20=q 16*q 17 := hq 20 _ rfl
 have E21 : q 21=q 19 - q 20 := hq 21 _ rfl
 have E22 : q 22=q 21 / q 12 := hq 22 _ rfl
 have E23 : q 23=q 0 - q 13 := hq 23 _ rfl
 have E24 : q 24=q 1 - q 14 := hq 24 _ rfl
 have E25 : q 25=q 17*q 24 := hq 25 _ rfl
 have E26 : q 26=q 18*q 23 := hq 26 _ rfl
 have E27 : q 27=q 25 - q 26 := hq 27 _ rfl
 have E28 : q 28=q 27 / q 12 := hq 28 _ rfl
 have E29 : q 29=q 23*q 16 := hq 29 _ rfl
 have E30 : q 30=q 24*q 15 := hq 30 _ rfl
 have E31 : q 31=q 29 - q 30 := hq 31 _ rfl
 have E32 : q 32=q 31 / q 12 := hq 32 _ rfl
 have E33 : q 33=1 := (hq 33 _ rfl).trans triangleTwice_c33
 have E34 : q 34=q 4 - q 2 := hq 34 _ rfl
 have E35 : q 35=q 5 - q 3 := hq 35 _ rfl
 have E36 : q 36=q 34*q 34 := hq 36 _ rfl
 have E37 : q 37=q 35*q 35 := hq 37 _ rfl
 have E38 : q 38=q 36+q 37 := hq 38 _ rfl
 have E39 : q 39=q 0 - q 4 := hq 39 _ rfl
 have E40 : q 40=q 1 - q 5 := hq 40 _ rfl
 have E41 : q 41=q 39*q 39 := hq 41 _ rfl
 have E42 : q 42=q 40*q 40 := hq 42 _ rfl
 have E43 : q 43=q 41+q 42 := hq 43 _ rfl
 have E44 : q 44=q 6*q 6 := hq 44 _ rfl
 have E45 : q 45=q 7*q 7 := hq 45 _ rfl
 have E46 : q 46=q 44+q 45 := hq 46 _ rfl
 have E47 : q 47=q 33 / q 22 := hq 47 _ rfl
 have E48 : q 48=q 38 / q 22 := hq 48 _ rfl
 have E49 : q 49=q 33 / q 28 := hq 49 _ rfl
 have E50 : q 50=q 43 / q 28 := hq 50 _ rfl
 have E51 : q 51=q 33 / q 32 := hq 51 _ rfl
 have E52 : q 52=q 47+q 49 := hq 52 _ rfl
 have E53 : q 53=q 52+q 51 := hq 53 _ rfl
 have E54 : q 54=q 46 / q 32 := hq 54 _ rfl
 have E55 : q 55=q 48+q 50 := hq 55 _ rfl
 have E56 : q 56=q 55+q 54 := hq 56 _ rfl
 have E57 : q 57=q 0*q 48 := hq 57 _ rfl
 have E58 : q 58=q 1*q 48 := hq 58 _ rfl
 have E59 : q 59=0 := (hq 59 _ rfl).trans triangleTwice_c59
 have E60 : q 60=q 59+q 57 := hq 60 _ rfl
 have E61 : q 61=q 59+q 58 := hq 61 _ rfl
 have E62 : q 62=q 2*q 50 := hq 62 _ rfl
 have E63 : q 63=q 3*q 50 := hq 63 _ rfl
 have E64 : q 64=q 60+q 62 := hq 64 _ rfl
 have E65 : q 65=q 61+q 63 := hq 65 _ rfl
 have E66 : q 66=q 4*q 54 := hq 66 _ rfl
 have E67 : q 67=q 5*q 54 := hq 67 _ rfl
 have E68 : q 68=q 64+q 66 := hq 68 _ rfl
 have E69 : q 69=q 65+q 67 := hq 69 _ rfl
 have E70 : q 70=q 68 / q 56 := hq 70 _ rfl
 have E71 : q 71=q 69 / q 56 := hq 71 _ rfl
 have E72 : q 72=q 2 - q 70 := hq 72 _ rfl
 have E73 : q 73=q 3 - q 71 := hq 73 _ rfl
 have E74 : q 74=q 4 - q 70 := hq 74 _ rfl
 have E75 : q 75=q 5 - q 71 := hq 75 _ rfl
 have E76 : q 76=q 72*q 75 := hq 76 _ rfl
 have E77 : q 77=q 73*q 74 := hq 77 _ rfl
 have E78 : q 78=q 76 - q 77 := hq 78 _ rfl
 have E79 : q 79=q 78 / q 12 := hq 79 _ rfl
 have E80 : q 80=q 0 - q 70 := hq 80 _ rfl
 have E81 : q 81=q 1 - q 71 := hq 81 _ rfl
 have E82 : q 82=q 74*q 81 := hq 82 _ rfl
 have E83 : q 83=q 75*q 80 := hq 83 _ rfl
 have E84 : q 84=q 82 - q 83 := hq 84 _ rfl
 have E85 : q 85=q 84 / q 12 := hq 85 _ rfl
 have E86 : q 86=q 80*q 73 := hq 86 _ rfl
 have E87 : q 87=q 81*q 72 := hq 87 _ rfl
 have E88 : q 88=q 86 - q 87 := hq 88 _ rfl
 have E89 : q 89=q 88 / q 12 := hq 89 _ rfl
 have E90 : q 90=q 38 / q 79 := hq 90 _ rfl
 have E91 : q 91=q 43 / q 85 := hq 91 _ rfl
 have E92 : q 92=q 46 / q 89 := hq 92 _ rfl
 have E93 : q 93=q 90+q 91 := hq 93 _ rfl
 have E94 : q 94=q 93+q 92 := hq 94 _ rfl
 have E95 : q 95=q 0*q 90 := hq 95 _ rfl
 have E96 : q 96=q 1*q 90 := hq 96 _ rfl
 have E97 : q 97=q 59+q 95 := hq 97 _ rfl
 have E98 : q 98=q 59+q 96 := hq 98 _ rfl
 have E99 : q 99=q 2*q 91 := hq 99 _ rfl
 have E100 : q 100=q 3*q 91 := hq 100 _ rfl
 have E101 : q 101=q 97+q 99 := hq 101 _ rfl
 have E102 : q 102=q 98+q 100 := hq 102 _ rfl
 have E103 : q 103=q 4*q 92 := hq 103 _ rfl
 have E104 : q 104=q 5*q 92 := hq 104 _ rfl
 have E105 : q 105=q 101+q 103 := hq 105 _ rfl
 have E106 : q 106=q 102+q 104 := hq 106 _ rfl
 have E107 : q 107=q 105 / q 94 := hq 107 _ rfl
 have E108 : q 108=q 106 / q 94 := hq 108 _ rfl
 have E109 : q 109=q 107 - q 13 := hq 109 _ rfl
 have E110 : q 110=q 108 - q 14 := hq 110 _ rfl
 have E111 : q 111=-q 35 := hq 111 _ rfl
 have E112 : q 112=q 111*q 2 := hq 112 _ rfl
 have E113 : q 113=q 34*q 3 := hq 113 _ rfl
 have E114 : q 114=q 112+q 113 := hq 114 _ rfl
 have E115 : q 115=-q 114 := hq 115 _ rfl
 have E116 : q 116=q 111*q 13 := hq 116 _ rfl
 have E117 : q 117=q 34*q 14 := hq 117 _ rfl
 have E118 : q 118=q 116+q 117 := hq 118 _ rfl
 have E119 : q 119=q 118+q 115 := hq 119 _ rfl
 have E120 : q 120=-q 119 := hq 120 _ rfl
 have E121 : q 121=q 111*q 120 := hq 121 _ rfl
 have E122 : q 122=q 34*q 120 := hq 122 _ rfl
 have E123 : q 123=q 111*q 111 := hq 123 _ rfl
 have E124 : q 124=q 123+q 36 := hq 124 _ rfl
 have E125 : q 125=q 121 / q 124 := hq 125 _ rfl
 have E126 : q 126=q 122 / q 124 := hq 126 _ rfl
 have E127 : q 127=q 13+q 125 := hq 127 _ rfl
 have E128 : q 128=q 14+q 126 := hq 128 _ rfl
 have E129 : q 129=-q 40 := hq 129 _ rfl
 have E130 : q 130=q 129*q 4 := hq 130 _ rfl
 have E131 : q 131=q 39*q 5 := hq 131 _ rfl
 have E132 : q 132=q 130+q 131 := hq 132 _ rfl
 have E133 : q 133=-q 132 := hq 133 _ rfl
 have E134 : q 134=q 129*q 13 := hq 134 _ rfl
 have E135 : q 135=q 39*q 14 := hq 135 _ rfl
 have E136 : q 136=q 134+q 135 := hq 136 _ rfl
 have E137 : q 137=q 136+q 133 := hq 137 _ rfl
 have E138 : q 138=-q 137 := hq 138 _ rfl
 have E139 : q 139=q 129*q 138 := hq 139 _ rfl
 have E140 : q 140=q 39*q 138 := hq 140 _ rfl
 have E141 : q 141=q 129*q 129 := hq 141 _ rfl
 have E142 : q 142=q 141+q 41 := hq 142 _ rfl
 have E143 : q 143=q 139 / q 142 := hq 143 _ rfl
 have E144 : q 144=q 140 / q 142 := hq 144 _ rfl
 have E145 : q 145=q 13+q 143 := hq 145 _ rfl
 have E146 : q 146=q 14+q 144 := hq 146 _ rfl
 have E147 : q 147=-q 7 := hq 147 _ rfl
 have E148 : q 148=q 147*q 0 := hq 148 _ rfl
 have E149 : q 149=q 6*q 1 := hq 149 _ rfl
 have E150 : q 150=q 148+q 149 := hq 150 _ rfl
 have E151 : q 151=-q 150 := hq 151 _ rfl
 have E152 : q 152=q 147*q 13 := hq 152 _ rfl
 have E153 : q 153=q 6*q 14 := hq 153 _ rfl
 have E154 : q 154=q 152+q 153 := hq 154 _ rfl
 have E155 : q 155=q 154+q 151 := hq 155 _ rfl
 have E156 : q 156=-q 155 := hq 156 _ rfl
 have E157 : q 157=q 147*q 156 := hq 157 _ rfl
 have E158 : q 158=q 6*q 156 := hq 158 _ rfl
 have E159 : q 159=q 147*q 147 := hq 159 _ rfl
 have E160 : q 160=q 159+q 44 := hq 160 _ rfl
 have E161 : q 161=q 157 / q 160 := hq 161 _ rfl
 have E162 : q 162=q 158 / q 160 := hq 162 _ rfl
 have E163 : q 163=q 13+q 161 := hq 163 _ rfl
 have E164 : q 164=q 14+q 162 := hq 164 _ rfl
 have E165 : q 165=q 111*q 70 := hq 165 _ rfl
 have E166 : q 166=q 34*q 71 := hq 166 _ rfl
 have E167 : q 167=q 165+q 166 := hq 167 _ rfl
 have E168 : q 168=q 167+q 115 := hq 168 _ rfl
 have E169 : q 169=-q 168 := hq 169 _ rfl
 have E170 : q 170=q 111*q 169 := hq 170 _ rfl
 have E171 : q 171=q 34*q 169 := hq 171 _ rfl
 have E172 : q 172=q 170 / q 124 := hq 172 _ rfl
 have E173 : q 173=q 171 / q 124 := hq 173 _ rfl
 have E174 : q 174=q 70+q 172 := hq 174 _ rfl
 have E175 : q 175=q 71+q 173 := hq 175 _ rfl
 have E176 : q 176=q 129*q 70 := hq 176 _ rfl
 have E177 : q 177=q 39*q 71 := hq 177 _ rfl
 have E178 : q 178=q 176+q 177 := hq 178 _ rfl
 have E179 : q 179=q 178+q 133 := hq 179 _ rfl
 have E180 : q 180=-q 179 := hq 180 _ rfl
 have E181 : q 181=q 129*q 180 := hq 181 _ rfl
 have E182 : q 182=q 39*q 180 := hq 182 _ rfl
 have E183 : q 183=q 181 / q 142 := hq 183 _ rfl
 have E184 : q 184=q 182 / q 142 := hq 184 _ rfl
 have E185 : q 185=q 70+q 183 := hq 185 _ rfl
 have E186 : q 186=q 71+q 184 := hq 186 _ rfl
 have E187 : q 187=q 147*q 70 := hq 187 _ rfl
 have E188 : q 188=q 6*q 71 := hq 188 _ rfl
 have E189 : q 189=q 187+q 188 := hq 189 _ rfl
 have E190 : q 190=q 189+q 151 := hq 190 _ rfl
 have E191 : q 191=-q 190 := hq 191 _ rfl
 have E192 : q 192=q 147*q 191 := hq 192 _ rfl
 have E193 : q 193=q 6*q 191 := hq 193 _ rfl
 have E194 : q 194=q 192 / q 160 := hq 194 _ rfl
 have E195 : q 195=q 193 / q 160 := hq 195 _ rfl
 have E196 : q 196=q 70+q 194 := hq 196 _ rfl
 have E197 : q 197=q 71+q 195 := hq 197 _ rfl
 have E198 : q 198=(1 / 2) := (hq 198 _ rfl).trans triangleTwice_c198
 have E199 : q 199=q 70 - q 13 := hq 199 _ rfl
 have E200 : q 200=q 71 - q 14 := hq 200 _ rfl
 have E201 : q 201=q 199*q 198 := hq 201 _ rfl
 have E202 : q 202=q 200*q 198 := hq 202 _ rfl
 have E203 : q 203=q 13+q 201 := hq 203 _ rfl
 have E204 : q 204=q 14+q 202 := hq 204 _ rfl
 have E205 : q 205=q 203 - q 127 := hq 205 _ rfl
 have E206 : q 206=q 204 - q 128 := hq 206 _ rfl
 have E207 : q 207=q 205*q 205 := hq 207 _ rfl
 have E208 : q 208=q 206*q 206 := hq 208 _ rfl
 have E209 : q 209=q 207+q 208 := hq 209 _ rfl
 have E210 : q 210=q 203 - q 174 := hq 210 _ rfl
 have E211 : q 211=q 204 - q 175 := hq 211 _ rfl
 have E212 : q 212=q 210*q 210 := hq 212 _ rfl
 have E213 : q 213=q 211*q 211 := hq 213 _ rfl
 have E214 : q 214=q 212+q 213 := hq 214 _ rfl
 have E215 : q 215=q 203 - q 145 := hq 215 _ rfl
 have E216 : q 216=q 204 - q 146 := hq 216 _ rfl
 have E217 : q 217=q 215*q 215 := hq 217 _ rfl
 have E218 : q 218=q 216*q 216 := hq 218 _ rfl
 have E219 : q 219=q 217+q 218 := hq 219 _ rfl
 have E220 : q 220=q 203 - q 185 := hq 220 _ rfl
 have E221 : q 221=q 204 - q 186 := hq 221 _ rfl
 have E222 : q 222=q 220*q 220 := hq 222 _ rfl
 have E223 : q 223=q 221*q 221 := hq 223 _ rfl
 have E224 : q 224=q 222+q 223 := hq 224 _ rfl
 have E225 : q 225=q 203 - q 163 := hq 225 _ rfl
 have E226 : q 226=q 204 - q 164 := hq 226 _ rfl
 have E227 : q 227=q 225*q 225 := hq 227 _ rfl
 have E228 : q 228=q 226*q 226 := hq 228 _ rfl
 have E229 : q 229=q 227+q 228 := hq 229 _ rfl
 have E230 : q 230=q 203 - q 196 := hq 230 _ rfl
 have E231 : q 231=q 204 - q 197 := hq 231 _ rfl
 have E232 : q 232=q 230*q 230 := hq 232 _ rfl
 have E233 : q 233=q 231*q 231 := hq 233 _ rfl
 have E234 : q 234=q 232+q 233 := hq 234 _ rfl
 have E235 : q 235=q 0*q 47 := hq 235 _ rfl
 have E236 : q 236=q 1*q 47 := hq 236 _ rfl
 have E237 : q 237=q 59+q 235 := hq 237 _ rfl
 have E238 : q 238=q 59+q 236 := hq 238 _ rfl
 have E239 : q 239=q 2*q 49 := hq 239 _ rfl
 have E240 : q 240=q 3*q 49 := hq 240 _ rfl
 have E241 : q 241=q 237+q 239 := hq 241 _ rfl
 have E242 : q 242=q 238+q 240 := hq 242 _ rfl
 have E243 : q 243=q 4*q 51 := hq 243 _ rfl
 have E244 : q 244=q 5*q 51 := hq 244 _ rfl
 have E245 : q 245=q 241+q 243 := hq 245 _ rfl
 have E246 : q 246=q 242+q 244 := hq 246 _ rfl
 have E247 : q 247=q 245 / q 53 := hq 247 _ rfl
 have E248 : q 248=q 246 / q 53 := hq 248 _ rfl
 have E249 : q 249=q 2 - q 247 := hq 249 _ rfl
 have E250 : q 250=q 3 - q 248 := hq 250 _ rfl
 have E251 : q 251=q 4 - q 247 := hq 251 _ rfl
 have E252 : q 252=q 5 - q 248 := hq 252 _ rfl
 have E253 : q 253=q 249*q 252 := hq 253 _ rfl
 have E254 : q 254=q 250*q 251 := hq 254 _ rfl
 have E255 : q 255=q 253 - q 254 := hq 255 _ rfl
 have E256 : q 256=q 255 / q 12 := hq 256 _ rfl
 have E257 : q 257=q 0 - q 247 := hq 257 _ rfl
 have E258 : q 258=q 1 - q 248 := hq 258 _ rfl
 have E259 : q 259=q 251*q 258 := hq 259 _ rfl
 have E260 : q 260=q 252*q 257 := hq 260 _ rfl
 have E261 : q 261=q 259 - q 260 := hq 261 _ rfl
 have E262 : q 262=q 261 / q 12 := hq 262 _ rfl
 have E263 : q 263=q 257*q 250 := hq 263 _ rfl
 have E264 : q 264=q 258*q 249 := hq 264 _ rfl
 have E265 : q 265=q 263 - q 264 := hq 265 _ rfl
 have E266 : q 266=q 265 / q 12 := hq 266 _ rfl
 have E267 : q 267=q 33 / q 256 := hq 267 _ rfl
 have E268 : q 268=q 33 / q 262 := hq 268 _ rfl
 have E269 : q 269=q 33 / q 266 := hq 269 _ rfl
 have E270 : q 270=q 267+q 268 := hq 270 _ rfl
 have E271 : q 271=q 270+q 269 := hq 271 _ rfl
 have E272 : q 272=q 0*q 267 := hq 272 _ rfl
 have E273 : q 273=q 1*q 267 := hq 273 _ rfl
 have E274 : q 274=q 59+q 272 := hq 274 _ rfl
 have E275 : q 275=q 59+q 273 := hq 275 _ rfl
 have E276 : q 276=q 2*q 268 := hq 276 _ rfl
 have E277 : q 277=q 3*q 268 := hq 277 _ rfl
 have E278 : q 278=q 274+q 276 := hq 278 _ rfl
 have E279 : q 279=q 275+q 277 := hq 279 _ rfl
 have E280 : q 280=q 4*q 269 := hq 280 _ rfl
 have E281 : q 281=q 5*q 269 := hq 281 _ rfl
 have E282 : q 282=q 278+q 280 := hq 282 _ rfl
 have E283 : q 283=q 279+q 281 := hq 283 _ rfl
 have E284 : q 284=q 282 / q 271 := hq 284 _ rfl
 have E285 : q 285=q 283 / q 271 := hq 285 _ rfl
 have E286 : q 286=q 284 - q 13 := hq 286 _ rfl
 have E287 : q 287=q 285 - q 14 := hq 287 _ rfl
 by_cases b12 : q 12=0
 ·
  exact triangleTwice_leaf triangleTwice_r0 hσ hq h0 (triangleTwice_An (hT b12) trivial) ⟨tab,mx⟩ hA
 ·
  by_cases b22 : q 22=0
  ·
   exact triangleTwice_leaf triangleTwice_r1 hσ hq h0 (triangleTwice_An (hF b12) (triangleTwice_An (hT b22) trivial)) ⟨tab,mx⟩ hA
  ·
   by_cases b28 : q 28=0
   ·
    exact triangleTwice_leaf triangleTwice_r2 hσ hq h0 (triangleTwice_An (hF b12) (triangleTwice_An (hF b22) (triangleTwice_An (hT b28) trivial))) ⟨tab,mx⟩ hA
   ·
    by_cases b32 : q 32=0
    ·
     exact triangleTwice_leaf triangleTwice_r3 hσ hq h0 (triangleTwice_An (hF b12) (triangleTwice_An (hF b22) (triangleTwice_An (hF b28) (triangleTwice_An (hT b32) trivial)))) ⟨tab,mx⟩ hA
    ·
     by_cases b53 : q 53=0
     ·
      by_cases b56 : q 56=0
      ·
       exact triangleTwice_leaf triangleTwice_r4 hσ hq h0 (triangleTwice_An (hF b12) (triangleTwice_An (hF b22) (triangleTwice_An (hF b28) (triangleTwice_An (hF b32) (triangleTwice_An (hT b53) (triangleTwice_An (hT b56) trivial)))))) ⟨tab,mx⟩ hA
      ·
       have gI := triangleTwice_I E6 E7 E8 E9 E10 E11 E12 E15 E16 E17 E18 E19 E20 E21 E22 E23 E24 E25 E26 E27 E28 E29 E30 E31 E32 E34 E35 E36 E37 E38 E39 E40 E41 E42 E43 E44 E45 E46 E48 E50 E54 E55 E56 E57 E58 E59 E60 E61 E62 E63 E64 E65 E66 E67 E68 E69 E70 E71 E72 E73 E74 E75 E76 E77 E78 E79 E80 E81 E82 E83 E84 E85 E86 E87 E88 E89 E90 E91 E92 E93 E94 E95 E96 E97 E98 E99 E100 E101 E102 E103 E104 E105 E106 E107 E108 E109 E110 E111 E112 E113 E114 E115 E116 E117 E118 E119 E120 E121 E122 E123 E124 E125 E126 E127 E128 E129 E130 E131 E132 E133 E134 E135 E136 E137 E138 E139 E140 E141 E142 E143 E144 E145 E146 E147 E148 E149 E150 E151 E152 E153 E154 E155 E156 E157 E158 E159 E160 E161 E162 E163 E164 E165 E166 E167 E168 E169 E170 E171 E172 E173 E174 E175 E176 E177 E178 E179 E180 E181 E182 E183 E184 E185 E186 E187 E188 E189 E190 E191 E192 E193 E194 E195 E196 E197 E198 E199 E200 E201 E202 E203 E204 E205 E206 E207 E208 E209 E210 E211 E212 E213 E214 E215 E216 E217 E218 E219 E220 E221 E222 E223 E224 E225 E226 E227 E228 E229 E230 E231 E232 E233 E234 b12 b22 b28 b32 b56
       have b79 : ¬ (q 79=0) := gI.1
       have b85 : ¬ (q 85=0) := gI.2.1
       have b89 : ¬ (q 89=0) := gI.2.2.1
       have b94 : ¬ (q 94=0) := gI.2.2.2.1
       have a_6_109_110 : q 109=0∧q 110=0 := gI.2.2.2.2.1
       have a_3_214_209 : q 214=q 209 := gI.2.2.2.2.2.1
       have a_3_219_209 : q 219=q 209 := gI.2.2.2.2.2.2.1
       have a_3_224_209 : q 224=q 209 := gI.2.2.2.2.2.2.2.1
       have a_3_229_209 : q 229=q 209 := gI.2.2.2.2.2.2.2.2.1
       have a_3_234_209 : q 234=q 209 := gI.2.2.2.2.2.2.2.2.2
       exact triangleTwice_leaf triangleTwice_r5 hσ hq h0 (triangleTwice_An (hF b12) (triangleTwice_An (hF b22) (triangleTwice_An (hF b28) (triangleTwice_An (hF b32) (triangleTwice_An (hT b53) (triangleTwice_An (hF b56) (triangleTwice_An (hF b79) (triangleTwice_An (hF b85) (triangleTwice_An (hF b89) (triangleTwice_An (hF b94) (triangleTwice_An (hT a_6_109_110) (triangleTwice_An (hT a_3_214_209) (triangleTwice_An (hT a_3_219_209) (triangleTwice_An (hT a_3_224_209) (triangleTwice_An (hT a_3_229_209) (triangleTwice_An (hT a_3_234_209) trivial)))))))))))))))) ⟨tab,mx⟩ hA
     ·
      have gT := triangleTwice_T E6 E7 E8 E9 E10 E11 E12 E15 E16 E17 E18 E19 E20 E21 E22 E23 E24 E25 E26 E27 E28 E29 E30 E31 E32 E33 E47 E49 E51 E52 E53 E59 E235 E236 E237 E238 E239 E240 E241 E242 E243 E244 E245 E246 E247 E248 E249 E250 E251 E252 E253 E254 E255 E256 E257 E258 E259 E260 E261 E262 E263 E264 E265 E266 E267 E268 E269 E270 E271 E272 E273 E274 E275 E276 E277 E278 E279 E280 E281 E282 E283 E284 E285 E286 E287 b12 b22 b28 b32 b53
      have b256 : ¬ (q 256=0) := gT.1
      have b262 : ¬ (q 262=0) := gT.2.1
      have b266 : ¬ (q 266=0) := gT.2.2.1
      have b271 : ¬ (q 271=0) := gT.2.2.2.1
      have a_6_286_287 : q 286=0∧q 287=0 := gT.2.2.2.2
      by_cases b56 : q 56=0
      ·
       exact triangleTwice_leaf triangleTwice_r6 hσ hq h0 (triangleTwice_An (hF b12) (triangleTwice_An (hF b22) (triangleTwice_An (hF b28) (triangleTwice_An (hF b32) (triangleTwice_An (hF b53) (triangleTwice_An (hF b256) (triangleTwice_An (hF b262) (triangleTwice_An (hF b266) (triangleTwice_An (hF b271) (triangleTwice_An (hT a_6_286_287) (triangleTwice_An (hT b56) trivial))))))))))) ⟨tab,mx⟩ hA
      ·
       have gI := triangleTwice_I E6 E7 E8 E9 E10 E11 E12 E15 E16 E17 E18 E19 E20 E21 E22 E23 E24 E25 E26 E27 E28 E29 E30 E31 E32 E34 E35 E36 E37 E38 E39 E40 E41 E42 E43 E44 E45 E46 E48 E50 E54 E55 E56 E57 E58 E59 E60 E61 E62 E63 E64 E65 E66 E67 E68 E69 E70 E71 E72 E73 E74 E75 E76 E77 E78 E79 E80 E81 E82 E83 E84 E85 E86 E87 E88 E89 E90 E91 E92 E93 E94 E95 E96 E97 E98 E99 E100 E101 E102 E103 E104 E105 E106 E107 E108 E109 E110 E111 E112 E113 E114 E115 E116 E117 E118 E119 E120 E121 E122 E123 E124 E125 E126 E127 E128 E129 E130 E131 E132 E133 E134 E135 E136 E137 E138 E139 E140 E141 E142 E143 E144 E145 E146 E147 E148 E149 E150 E151 E152 E153 E154 E155 E156 E157 E158 E159 E160 E161 E162 E163 E164 E165 E166 E167 E168 E169 E170 E171 E172 E173 E174 E175 E176 E177 E178 E179 E180 E181 E182 E183 E184 E185 E186 E187 E188 E189 E190 E191 E192 E193 E194 E195 E196 E197 E198 E199 E200 E201 E202 E203 E204 E205 E206 E207 E208 E209 E210 E211 E212 E213 E214 E215 E216 E217 E218 E219 E220 E221 E222 E223 E224 E225 E226 E227 E228 E229 E230 E231 E232 E233 E234 b12 b22 b28 b32 b56
       have b79 : ¬ (q 79=0) := gI.1
       have b85 : ¬ (q 85=0) := gI.2.1
       have b89 : ¬ (q 89=0) := gI.2.2.1
       have b94 : ¬ (q 94=0) := gI.2.2.2.1
       have a_6_109_110 : q 109=0∧q 110=0 := gI.2.2.2.2.1
       have a_3_214_209 : q 214=q 209 := gI.2.2.2.2.2.1
       have a_3_219_209 : q 219=q 209 := gI.2.2.2.2.2.2.1
       have a_3_224_209 : q 224=q 209 := gI.2.2.2.2.2.2.2.1
       have a_3_229_209 : q 229=q 209 := gI.2.2.2.2.2.2.2.2.1
       have a_3_234_209 : q 234=q 209 := gI.2.2.2.2.2.2.2.2.2
       exact triangleTwice_leaf triangleTwice_r7 hσ hq h0 (triangleTwice_An (hF b12) (triangleTwice_An (hF b22) (triangleTwice_An (hF b28) (triangleTwice_An (hF b32) (triangleTwice_An (hF b53) (triangleTwice_An (hF b256) (triangleTwice_An (hF b262) (triangleTwice_An (hF b266) (triangleTwice_An (hF b271) (triangleTwice_An (hT a_6_286_287) (triangleTwice_An (hF b56) (triangleTwice_An (hF b79) (triangleTwice_An (hF b85) (triangleTwice_An (hF b89) (triangleTwice_An (hF b94) (triangleTwice_An (hT a_6_109_110) (triangleTwice_An (hT a_3_214_209) (triangleTwice_An (hT a_3_219_209) (triangleTwice_An (hT a_3_224_209) (triangleTwice_An (hT a_3_229_209) (triangleTwice_An (hT a_3_234_209) trivial))))))))))))))))))))) ⟨tab,mx⟩ hA
end Go.Proofs.YtdchineebfdkcaaGreatDoor
