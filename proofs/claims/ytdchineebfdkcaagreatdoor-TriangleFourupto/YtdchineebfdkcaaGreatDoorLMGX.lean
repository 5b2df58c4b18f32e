/- Part 13 of the walks and of the mathematics under them: CFcornered VY VSZ VSA MGX. -/
import Derived.Test.YtdchineebfdkcaaGreatDoorA12
set_option maxHeartbeats 16000000
set_option maxRecDepth 100000
/- CFcornered -/
namespace Go.Proofs.YtdchineebfdkcaaGreatDoor
open Go.RowKit Cx
theorem closed_cornered : Closed 8 :=
 closed_told (N := [(0,[0,0,1]),(0,[0,4,1]),(0,[0,3,1]),(3,[1,0]),(3,[0,0]),(3,[2,0]),(4,[3,5]),(4,[4,4]),(3,[6,7]),(3,[0,1]),(4,[9,9]),(4,[5,5]),(2,[10,11]),(3,[0,2]),(4,[13,13]),(2,[7,14]),(4,[3,3]),(2,[16,7]),(5,[12]),(2,[15,17]),(2,[19,18]),(4,[12,20]),(5,[15]),(2,[17,12]),(2,[23,22]),(4,[15,24]),(5,[17]),(2,[12,15]),(2,[27,26]),(4,[17,28]),(2,[21,25]),(2,[30,29]),(4,[0,21]),(2,[0,32]),(4,[1,25]),(4,[0,25]),(2,[33,34]),(2,[33,35]),(4,[0,29]),(4,[2,29]),(2,[36,38]),(2,[37,39]),(6,[40,31]),(6,[41,31]),(2,[12,17]),(2,[44,22]),(4,[28,45]),(2,[15,12]),(2,[47,26]),(4,[20,48]),(2,[17,15]),(2,[50,18]),(4,[24,51]),(2,[46,49]),(2,[53,52]),(4,[0,46]),(2,[0,55]),(4,[1,49]),(4,[0,49]),(2,[56,57]),(2,[56,58]),(4,[0,52]),(4,[2,52]),(2,[59,61]),(2,[60,62]),(6,[63,54]),(6,[64,54]),(0,[0,2,1]),(0,[0,3,2]),(0,[0,25,1]),(0,[0,9,1]),(0,[0,16,1])]) (H := [(0,8,0,0),(0,31,0,0),(0,54,0,0),(4,42,67,1),(4,43,68,1),(4,65,0,1),(4,66,0,1),(4,12,69,1),(4,15,70,1),(4,17,71,1)]) (K := [(45,[]),(154,[]),(156,[]),(117,[]),(43,[])]) (L := [([48],0),([52],1),([51],2),([50],67),([51,47,50],68),([50,53],69),([57],70),([49,54],71)]) (C := [([50],67),([51,47,50],68),([48],0),([50,53],69),([57],70),([49,54],71)]) (Z := [2,4,3,7,5,6,13,10,24,7,14,12,27,6,12,23,14,25,27,49,77,104,23,53,77,100,25,51,77,102,205,308,106,109,104,102,214,212,104,105,319,318,627,626,53,77,154,51,77,154,49,77,154,309,464,156,159,158,156,318,316,156,157,475,474,939,938,3,3,6,5,6]) (cl := []) 8 (fun _ h => by cases h) (by kernel_rfl) (by kernel_rfl) (by kernel_rfl) (by kernel_rfl) (by kernel_rfl) (by kernel_rfl) (by kernel_rfl)
end Go.Proofs.YtdchineebfdkcaaGreatDoor
/- VY -/
namespace Go.Proofs.YtdchineebfdkcaaGreatDoor
open Go.RowKit Cx
theorem den_num (t : Rat) : t*(t.den : Rat)=((t.num : Int) : Rat) := by
 conv => lhs; lhs; rw [← Rat.mkRat_self t]
 have h0 : (t.den : Rat) ≠ 0 := fun h => t.den_nz (by exact_mod_cast h)
 rw [Rat.mkRat_eq_div,Rat.div_mul_cancel h0]
theorem whole {q : Rat} (h : q.den=1) : q=((q.num : Int) : Rat) := by
 have := den_num q
 rw [h] at this
 rw [← this]
 show q=q*((1 : Nat) : Rat)
 exact (Rat.mul_one q).symm
end Go.Proofs.YtdchineebfdkcaaGreatDoor
/- VSZ -/
namespace Go.Proofs.YtdchineebfdkcaaGreatDoor
open Go.RowKit Cx
structure QW (z : Nat) (x : Rat) : Prop where
 qs : QS z x
 wh : x.den=1
theorem QW.of {z : Nat} {n : Int} (h : n.natAbs < 2 ^ z) (hz : 0 < z) : QW z ((n : Int) : Rat) :=
 ⟨⟨by simpa using h,by
  show ((n : Int) : Rat).den < 2 ^ z
  rw [Rat.den_intCast]
  exact Nat.one_lt_two_pow (by omega)⟩,Rat.den_intCast n⟩
theorem QW.mono {k l : Nat} {x : Rat} (h : QW k x) (hk : k≤l) : QW l x := ⟨h.qs.mono hk,h.wh⟩
theorem two_max {a b x y : Nat} (h1 : a < 2 ^ x) (h2 : b < 2 ^ y) : a+b < 2 ^ (Nat.max x y+1) := by
 have e1 : 2 ^ x≤2 ^ Nat.max x y := Nat.pow_le_pow_right (by decide) (Nat.le_max_left x y)
 have e2 : 2 ^ y≤2 ^ Nat.max x y := Nat.pow_le_pow_right (by decide) (Nat.le_max_right x y)
 rw [Nat.pow_succ]
 omega
theorem QW.add {x y : Nat} {a b : Rat} (h1 : QW x a) (h2 : QW y b) : QW (Nat.max x y+1) (a+b) := by
 rw [whole h1.wh,whole h2.wh,← Rat.intCast_add]
 refine QW.of ?_ (by omega)
 have := two_max h1.qs.num h2.qs.num
 omega
theorem QW.sub {x y : Nat} {a b : Rat} (h1 : QW x a) (h2 : QW y b) : QW (Nat.max x y+1) (a - b) := by
 rw [whole h1.wh,whole h2.wh,← Rat.intCast_sub]
 refine QW.of ?_ (by omega)
 have := two_max h1.qs.num h2.qs.num
 omega
theorem QW.mul {x y : Nat} {a b : Rat} (h1 : QW x a) (h2 : QW y b) : QW (x+y) (a*b) := by
 refine ⟨h1.qs.mul h2.qs,?_⟩
 rw [whole h1.wh,whole h2.wh,← Rat.intCast_mul]
 exact Rat.den_intCast _
theorem QW.neg {x : Nat} {a : Rat} (h1 : QW x a) : QW x (-a) := ⟨h1.qs.neg,h1.wh⟩
theorem ten_three : ∀ n : Nat,10 ^ n≤2 ^ ((10*n+2) / 3)
 | 0 => by decide
 | 1 => by decide
 | 2 => by decide
 | n+3 => by
  have h := ten_three n
  have e : (10*(n+3)+2) / 3=(10*n+2) / 3+10 := by omega
  rw [e,Nat.pow_add,Nat.pow_add]
  exact Nat.mul_le_mul h (by decide)
theorem QS.rd3 (l : List UInt8) : QS ((10*l.length+2) / 3+5) (Cx.rd l) := by
 have key : ∀ {m : List UInt8},digs m=true→dv m < 2 ^ ((10*m.length+2) / 3) := fun {m} h => Nat.lt_of_lt_of_le (dv_lt (digs_all h)) (ten_three _)
 unfold Cx.rd
 split
 ·rename_i h
  rw [Bool.and_eq_true] at h
  have h1 := key h.1
  have h2 := key h.2
  have h3 := up_len (tailOf l)
  have h4 := low_len (tailOf l)
  have h5 := tail_len l
  apply QS.mkr
  ·rw [sg_abs]; exact Nat.lt_of_lt_of_le h1 (Nat.pow_le_pow_right (by decide) (by omega))
  ·exact Nat.lt_of_lt_of_le h2 (Nat.pow_le_pow_right (by decide) (by omega))
 ·exact QS.zero.mono (by omega)
section
variable {N : List Nd} {Z : List Nat} {I : List Bool} {q : Nat→Rat}
end
end Go.Proofs.YtdchineebfdkcaaGreatDoor
/- VSA -/
namespace Go.Proofs.YtdchineebfdkcaaGreatDoor
open Go.RowKit Cx
def inB : Nat := 3495259
abbrev Atm := Nat × Nat
def remA (x : Atm) : List Atm→Option (List Atm)
 | [] => none
 | y :: l => bif Nat.beq x.1 y.1 && Nat.beq x.2 y.2 then some l else (remA x l).map (y :: ·)
def subA : List Atm→List Atm→Option (List Atm)
 | l,[] => some l
 | l,x :: r => (remA x l).bind fun l' => subA l' r
def leftA : List Atm→List Atm→List Atm
 | _,[] => []
 | U,x :: D => match remA x U with
  | some U' => leftA U' D
  | none => x :: leftA U D
def uniA (E : List (Nat × List Atm)) : List Nat→List Atm→List Atm
 | [],U => U
 | a :: l,U => uniA E l (match E[a]? with
  | some p => U ++ leftA U p.2
  | none => U)
def bitA (E : List (Nat × List Atm)) (x : Atm) : Nat := match x.1 with
 | 0 => inB
 | 1 => (match E[x.2]? with
  | some p => p.1
  | none => 1)
 | _ => Nat.log2 x.2+1
def bitL (E : List (Nat × List Atm)) : List Atm→Nat
 | [] => 1
 | x :: l => bitA E x+bitL E l
def noneA (l : Option (List Atm)) : Bool := match l with
 | some [] => true
 | _ => false
def saN (E : List (Nat × List Atm)) (k z : Nat) (D : List Atm) (nd : Nd) : Bool := (Nat.blt 0 z && D.all fun x => !Nat.beq x.1 1 || Nat.blt x.2 k) && match nd.1,nd.2 with
 | 0,[_,n,d] => (Nat.blt n (2 ^ z) && Nat.blt 0 d) && noneA (subA D (bif Nat.beq d 1 then [] else [(2,d)]))
 | 1,[j] => Nat.ble inB z && noneA (subA D [(0,j)])
 | 2,[a,b] => (match E[a]?,E[b]? with
  | some p,some r => (match subA D p.2,subA D r.2 with
   | some c,some e => Nat.ble (Nat.max (p.1+bitL E c) (r.1+bitL E e)+1) z
   | _,_ => false)
  | _,_ => false)
 | 3,[a,b] => (match E[a]?,E[b]? with
  | some p,some r => (match subA D p.2,subA D r.2 with
   | some c,some e => Nat.ble (Nat.max (p.1+bitL E c) (r.1+bitL E e)+1) z
   | _,_ => false)
  | _,_ => false)
 | 4,[a,b] => (match E[a]?,E[b]? with
  | some p,some r => (match subA D p.2 with
   | some c => noneA (subA c r.2) && Nat.ble (p.1+r.1) z
   | _ => false)
  | _,_ => false)
 | 5,[a] => (match E[a]? with
  | some p => noneA (subA D p.2) && Nat.ble p.1 z
  | _ => false)
 | 6,[a,b] => (match E[a]?,E[b]?,remA (1,b) D with
  | some p,some r,some D' => (match subA p.2 D' with
   | some c => (match subA r.2 c with
    | some e => Nat.ble (p.1+bitL E e) z
    | none => false)
   | none => false)
  | _,_,_ => false)
 | 7,_ => Nat.beq D.length 0
 | 8,i :: xs => Nat.beq D.length 0 && (xs.all (fun a => match E[a]? with
   | some p => (subA (uniA E xs []) p.2).isSome
   | none => false) && (match xs[i]? with
   | some a => (match E[a]? with
    | some p => (match subA (uniA E xs []) p.2 with
     | some e => Nat.ble (p.1+bitL E e) z
     | none => false)
    | none => false)
   | none => false))
 | _,_ => false
def saB (E : List (Nat × List Atm)) : Nat→List Nd→List (Nat × List Atm)→List Nat→Bool
 | _,[],[],[] => true
 | k,nd :: ns,p :: ps,z :: zs => (saN E k p.1 p.2 nd && (Nat.ble p.1 z && (Nat.ble (bitL E p.2) z && Nat.ble z 1000000000000))) && saB E (k+1) ns ps zs
 | _,_,_,_ => false
theorem saB_get {E : List (Nat × List Atm)} : ∀ {ns : List Nd} {ps : List (Nat × List Atm)} {zs : List Nat} {k i : Nat} {nd : Nd},saB E k ns ps zs=true→ns[i]? = some nd→∃ p z,ps[i]? = some p∧zs[i]? = some z∧saN E (k+i) p.1 p.2 nd=true∧p.1≤z∧bitL E p.2≤z∧z≤1000000000000
 | [],_,_,_,_,_,_,h => by simp at h
 | _ :: _,[],_,_,_,_,h,_ => by cases h
 | _ :: _,_ :: _,[],_,_,_,h,_ => by cases h
 | nd' :: ns,p :: ps,z :: zs,k,0,nd,h,e => by
  have : nd'=nd := by simpa using e
  subst this
  unfold saB at h
  simp only [Bool.and_eq_true,Nat.ble_eq] at h
  exact ⟨p,z,rfl,rfl,h.1.1,h.1.2.1,h.1.2.2.1,h.1.2.2.2⟩
 | nd' :: ns,p :: ps,z :: zs,k,i+1,nd,h,e => by
  unfold saB at h
  rw [Bool.and_eq_true] at h
  obtain ⟨p',z',g1,g2,g3,g4⟩ := saB_get (k := k+1) (i := i) h.2 (by simpa using e)
  exact ⟨p',z',by simpa using g1,by simpa using g2,by rw [show k+(i+1)=k+1+i by omega]; exact g3,g4⟩
theorem saB_len {E : List (Nat × List Atm)} : ∀ {ns : List Nd} {ps : List (Nat × List Atm)} {zs : List Nat} {k : Nat},saB E k ns ps zs=true→ns.length=ps.length∧ns.length=zs.length
 | [],[],[],_,_ => ⟨rfl,rfl⟩
 | [],[],_ :: _,_,h => by cases h
 | [],_ :: _,_,_,h => by cases h
 | _ :: _,[],_,_,h => by cases h
 | _ :: _,_ :: _,[],_,h => by cases h
 | _ :: _,_ :: _,_ :: _,k,h => by
  unfold saB at h
  rw [Bool.and_eq_true] at h
  have := saB_len h.2
  exact ⟨congrArg (· + 1) this.1,congrArg (· + 1) this.2⟩
def valA (dn : Nat→Nat) (M : Nat→Rat) (x : Atm) : Rat := match x.1 with
 | 0 => ((dn x.2 : Nat) : Rat)
 | 1 => if M x.2=0 then 1 else M x.2
 | _ => if x.2=0 then 1 else ((x.2 : Nat) : Rat)
def proA (dn : Nat→Nat) (M : Nat→Rat) : List Atm→Rat
 | [] => 1
 | x :: l => valA dn M x*proA dn M l
theorem remA_pro {dn : Nat→Nat} {M : Nat→Rat} {x : Atm} : ∀ {l c : List Atm},remA x l=some c→proA dn M l=valA dn M x*proA dn M c
 | [],_,h => by cases h
 | y :: l,c,h => by
  unfold remA at h
  cases e : (Nat.beq x.1 y.1 && Nat.beq x.2 y.2) with
  | true =>
   rw [e] at h
   cases h
   rw [Bool.and_eq_true,Nat.beq_eq,Nat.beq_eq] at e
   have : x=y := Prod.ext e.1 e.2
   rw [this]
   rfl
  | false =>
   rw [e] at h
   simp only [cond_false,Option.map_eq_some_iff] at h
   obtain ⟨c',h1,rfl⟩ := h
   show valA dn M y*proA dn M l=valA dn M x*(valA dn M y*proA dn M c')
   rw [remA_pro h1]
   grind
theorem subA_pro {dn : Nat→Nat} {M : Nat→Rat} : ∀ {r l c : List Atm},subA l r=some c→proA dn M l=proA dn M r*proA dn M c
 | [],l,c,h => by
  have : l=c := by simpa [subA] using h
  rw [this]
  exact (Rat.one_mul _).symm
 | x :: r,l,c,h => by
  unfold subA at h
  rw [Option.bind_eq_some_iff] at h
  obtain ⟨l',h1,h2⟩ := h
  rw [remA_pro h1,subA_pro h2]
  exact (Rat.mul_assoc _ _ _).symm
theorem noneA_some {l : Option (List Atm)} (h : noneA l=true) : l=some [] := by
 unfold noneA at h
 split at h
 ·rfl
 ·cases h
theorem QW.one {z : Nat} (h : 0 < z) : QW z 1 := ⟨⟨by
  show (1 : Int).natAbs < 2 ^ z
  exact Nat.one_lt_two_pow (by omega),by
  show 1 < 2 ^ z
  exact Nat.one_lt_two_pow (by omega)⟩,rfl⟩
theorem QW.zero {z : Nat} (h : 0 < z) : QW z 0 := ⟨⟨by
  show (0 : Int).natAbs < 2 ^ z
  exact Nat.two_pow_pos z,by
  show 1 < 2 ^ z
  exact Nat.one_lt_two_pow (by omega)⟩,rfl⟩
theorem QW.nat {z n : Nat} (h : n < 2 ^ z) (hz : 0 < z) : QW z ((n : Nat) : Rat) := by
 have : ((n : Nat) : Rat)=(((n : Nat) : Int) : Rat) := (Rat.intCast_natCast n).symm
 rw [this]
 exact QW.of (by simpa using h) hz
section
variable {E : List (Nat × List Atm)} {dn : Nat→Nat} {M : Nat→Rat} {k : Nat}
def BelA (E : List (Nat × List Atm)) (dn : Nat→Nat) (M : Nat→Rat) (q : Nat→Rat) (k : Nat) : Prop := ∀ a,a < k→∃ p,E[a]? = some p∧QW p.1 (M a)∧0 < p.1∧(∀ x ∈ p.2,x.1=1→x.2 < a)∧q a*proA dn M p.2=M a
theorem valA_ok {q : Nat→Rat} (hdn : ∀ j,0 < dn j∧dn j < 2 ^ inB) (hM : BelA E dn M q k) {x : Atm} (hx : x.1=1→x.2 < k) : QW (bitA E x) (valA dn M x)∧valA dn M x ≠ 0 := by
 obtain ⟨i,j⟩ := x
 match i with
 | 0 =>
  show QW inB ((dn j : Nat) : Rat)∧((dn j : Nat) : Rat) ≠ 0
  refine ⟨QW.nat (hdn j).2 (by unfold inB; omega),fun h => ?_⟩
  have := (hdn j).1
  have h2 : dn j=0 := by exact_mod_cast h
  omega
 | 1 =>
  obtain ⟨p,h1,h2,h3,_⟩ := hM j (hx rfl)
  show QW (match E[j]? with
   | some p => p.1
   | none => 1) (if M j=0 then 1 else M j)∧(if M j=0 then 1 else M j) ≠ 0
  rw [h1]
  by_cases h : M j=0
  ·rw [if_pos h]
   exact ⟨QW.one h3,by decide⟩
  ·rw [if_neg h]
   exact ⟨h2,h⟩
 | i+2 =>
  show QW (Nat.log2 j+1) (if j=0 then 1 else ((j : Nat) : Rat))∧(if j=0 then 1 else ((j : Nat) : Rat)) ≠ 0
  by_cases h : j=0
  ·rw [if_pos h]
   exact ⟨QW.one (by omega),by decide⟩
  ·rw [if_neg h]
   refine ⟨QW.nat Nat.lt_log2_self (by omega),fun h2 => h ?_⟩
   exact_mod_cast h2
theorem proA_ok {q : Nat→Rat} (hdn : ∀ j,0 < dn j∧dn j < 2 ^ inB) (hM : BelA E dn M q k) : ∀ {l : List Atm},(∀ x ∈ l,x.1=1→x.2 < k)→QW (bitL E l) (proA dn M l)∧proA dn M l ≠ 0
 | [],_ => ⟨QW.one (show 0 < 1 by decide),by show (1 : Rat) ≠ 0; decide⟩
 | x :: l,h => by
  have h1 := valA_ok hdn hM (h x List.mem_cons_self)
  have h2 := proA_ok hdn hM (l := l) fun y hy => h y (List.mem_cons_of_mem _ hy)
  exact ⟨h1.1.mul h2.1,mul_ne h1.2 h2.2⟩
theorem proA_congr {M' : Nat→Rat} : ∀ {l : List Atm},(∀ x ∈ l,x.1=1→M x.2=M' x.2)→proA dn M l=proA dn M' l
 | [],_ => rfl
 | x :: l,h => by
  show valA dn M x*proA dn M l=valA dn M' x*proA dn M' l
  rw [proA_congr (l := l) fun y hy => h y (List.mem_cons_of_mem _ hy)]
  have e : valA dn M x=valA dn M' x := by
   obtain ⟨i,j⟩ := x
   match i with
   | 0 => rfl
   | 1 =>
    have := h (1,j) List.mem_cons_self rfl
    show (if M j=0 then 1 else M j)=(if M' j=0 then 1 else M' j)
    rw [this]
   | i+2 => rfl
  rw [e]
theorem remA_mem {x y : Atm} : ∀ {l c : List Atm},remA x l=some c→y ∈ c→y ∈ l
 | [],_,h,_ => by cases h
 | z :: l,c,h,hy => by
  unfold remA at h
  cases e : (Nat.beq x.1 z.1 && Nat.beq x.2 z.2) with
  | true => rw [e] at h; cases h; exact List.mem_cons_of_mem _ hy
  | false =>
   rw [e] at h
   simp only [cond_false,Option.map_eq_some_iff] at h
   obtain ⟨c',h1,rfl⟩ := h
   rcases List.mem_cons.1 hy with rfl | hy
   ·exact List.mem_cons_self
   ·exact List.mem_cons_of_mem _ (remA_mem h1 hy)
theorem subA_mem {y : Atm} : ∀ {r l c : List Atm},subA l r=some c→y ∈ c→y ∈ l
 | [],l,c,h,hy => by
  have : l=c := by simpa [subA] using h
  rw [this]; exact hy
 | x :: r,l,c,h,hy => by
  unfold subA at h
  rw [Option.bind_eq_some_iff] at h
  obtain ⟨l',h1,h2⟩ := h
  exact remA_mem h1 (subA_mem h2 hy)
theorem nat_ne {n : Nat} (h : n ≠ 0) : ((n : Nat) : Rat) ≠ 0 := fun e => h (by exact_mod_cast e)
theorem mul_low (x : Rat) : x*((x.den : Nat) : Rat)=((x.num : Int) : Rat) := by
 have e : x=((x.num : Int) : Rat) / ((x.den : Nat) : Rat) := by
  have := Rat.mkRat_self x
  rw [Rat.mkRat_eq_div] at this
  exact this.symm
 conv => lhs; lhs; rw [e]
 exact Rat.div_mul_cancel (nat_ne x.den_nz)
theorem lD_dvd_of {qs : List Rat} {m M : Nat} (hm : m ∣ M) (h : ∀ q ∈ qs,q.den ∣ M) : qs.foldl (fun m q => m*(q.den / Nat.gcd m q.den)) m ∣ M := by
 induction qs generalizing m with
 | nil => exact hm
 | cons q qs ih =>
  rw [List.foldl_cons]
  refine ih ?_ fun p hp => h p (List.mem_cons_of_mem _ hp)
  have e : m*(q.den / Nat.gcd m q.den)=Nat.lcm m q.den := by
   unfold Nat.lcm
   exact (Nat.mul_div_assoc _ (Nat.gcd_dvd_right _ _)).symm
  rw [e]
  exact Nat.lcm_dvd hm (h q List.mem_cons_self)
theorem den_dvd {x : Rat} {m : Int} (h : (x*((m : Int) : Rat)).den=1) : x.den ∣ m.natAbs := by
 have e := whole h
 generalize (x*((m : Int) : Rat)).num=n at e
 have h1 : x*((x.den : Nat) : Rat)=((x.num : Int) : Rat) := mul_low x
 have h2 : ((x.num : Int) : Rat)*((m : Int) : Rat)=((n : Int) : Rat)*(((x.den : Nat) : Int) : Rat) := by
  rw [← h1,← e,Rat.intCast_natCast]
  grind
 have h3 : x.num*m=n*(x.den : Int) := by exact_mod_cast h2
 have h4 : (x.den : Int) ∣ x.num*m := ⟨n,by rw [h3,Int.mul_comm]⟩
 have h5 : x.den ∣ x.num.natAbs*m.natAbs := by
  have := Int.natAbs_dvd_natAbs.2 h4
  rwa [Int.natAbs_mul,Int.natAbs_natCast] at this
 exact (Nat.Coprime.symm x.reduced).dvd_of_dvd_mul_left h5
theorem fac_whole {qs : List Rat} {x : Rat} {z : Nat} {m : Int} (hx : x ∈ qs) (hm : m ≠ 0) (hall : ∀ y ∈ qs,(y*((m : Int) : Rat)).den=1) (hz : QW z (x*((m : Int) : Rat))) : QW z (x*fac qs) := by
 have hl : lD qs ∣ m.natAbs := lD_dvd_of (Nat.one_dvd _) fun y hy => den_dvd (hall y hy)
 have hd := fac_den hx
 have hpos : 0 < m.natAbs := Int.natAbs_pos.2 hm
 have hle : lD qs≤m.natAbs := Nat.le_of_dvd hpos hl
 have hn : (x*fac qs).num.natAbs≤(x*((m : Int) : Rat)).num.natAbs := by
  rw [fac_abs hx]
  have e := whole hz.wh
  generalize (x*((m : Int) : Rat)).num=n at e
  have h1 : x*((x.den : Nat) : Rat)=((x.num : Int) : Rat) := mul_low x
  have h2 : ((x.num : Int) : Rat)*((m : Int) : Rat)=((n : Int) : Rat)*(((x.den : Nat) : Int) : Rat) := by
   rw [← h1,← e,Rat.intCast_natCast]
   grind
  have h3 : x.num*m=n*(x.den : Int) := by exact_mod_cast h2
  have h4 : x.num.natAbs*m.natAbs=n.natAbs*x.den := by
   have := congrArg Int.natAbs h3
   rwa [Int.natAbs_mul,Int.natAbs_mul,Int.natAbs_natCast] at this
  obtain ⟨c,hc⟩ := den_dvd (x := x) (m := m) (hall x hx)
  have h5 : n.natAbs=x.num.natAbs*c := by
   rw [hc] at h4
   refine Nat.eq_of_mul_eq_mul_right x.den_pos ?_
   rw [← h4]
   rw [Nat.mul_assoc,Nat.mul_comm c]
  show x.num.natAbs / gN qs*(lD qs / x.den)≤n.natAbs
  rw [h5]
  refine Nat.mul_le_mul (Nat.div_le_self _ _) ?_
  have : lD qs / x.den≤m.natAbs / x.den := Nat.div_le_div_right hle
  rw [hc,Nat.mul_div_cancel_left _ x.den_pos] at this
  exact this
 refine ⟨⟨Nat.lt_of_le_of_lt hn hz.qs.num,?_⟩,hd⟩
 rw [hd]
 have := hz.qs.den
 rw [hz.wh] at this
 exact this
theorem leftA_mem {y : Atm} : ∀ {D U : List Atm},y ∈ leftA U D→y ∈ D
 | [],_,h => by cases h
 | x :: D,U,h => by
  unfold leftA at h
  split at h
  ·exact List.mem_cons_of_mem _ (leftA_mem h)
  ·rcases List.mem_cons.1 h with rfl | h
   ·exact List.mem_cons_self
   ·exact List.mem_cons_of_mem _ (leftA_mem h)
theorem uniA_low {q : Nat→Rat} (hM : BelA E dn M q k) : ∀ {l : List Nat} {U : List Atm},(∀ c ∈ l,c < k)→(∀ x ∈ U,x.1=1→x.2 < k)→∀ x ∈ uniA E l U,x.1=1→x.2 < k
 | [],_,_,hU => hU
 | a :: l,U,hl,hU => by
  unfold uniA
  refine uniA_low hM (fun c hc => hl c (List.mem_cons_of_mem _ hc)) ?_
  have ha := hl a List.mem_cons_self
  obtain ⟨p,h1,_,_,h4,_⟩ := hM a ha
  rw [h1]
  intro x hx h
  rcases List.mem_append.1 hx with hx | hx
  ·exact hU x hx h
  ·exact Nat.lt_trans (h4 x (leftA_mem hx) h) ha
theorem node_ok {q : Nat→Rat} {σ : Nat→ByteArray} (hσ : ∀ j,(σ j).size≤1048576) (hdn : ∀ j,dn j=(Cx.rd (σ j).data.toList).den) (hM : BelA E dn M q k) {z : Nat} {D : List Atm} {nd : Nd} (hwf : wfN k nd=true) (hs : saN E k z D nd=true) : QW z (valN σ q nd*proA dn M D)∧0 < z∧∀ x ∈ D,x.1=1→x.2 < k := by
 have hdn' : ∀ j,0 < dn j∧dn j < 2 ^ inB := fun j => by
  rw [hdn j]
  refine ⟨Rat.den_pos _,Nat.lt_of_lt_of_le (QS.rd3 _).den (Nat.pow_le_pow_right (by decide) ?_)⟩
  have := hσ j
  rw [str_len]
  unfold inB
  omega
 obtain ⟨op,xs⟩ := nd
 unfold saN at hs
 rw [Bool.and_eq_true,Bool.and_eq_true] at hs
 obtain ⟨⟨hz0,hD⟩,hs⟩ := hs
 have hz : 0 < z := by simpa [Nat.blt_eq] using hz0
 have hD' : ∀ x ∈ D,x.1=1→x.2 < k := fun x hx h1 => by
  rw [List.all_eq_true] at hD
  have := hD x hx
  rw [h1] at this
  simpa [Nat.blt_eq] using this
 refine ⟨?_,hz,hD'⟩
 have hlow : ∀ {a : Nat} {p : Nat × List Atm},a < k→E[a]? = some p→QW p.1 (M a)∧(∀ x ∈ p.2,x.1=1→x.2 < k)∧q a*proA dn M p.2=M a := fun {a p} ha hp => by
  obtain ⟨p',h1,h2,_,h4,h5⟩ := hM a ha
  rw [hp] at h1
  cases h1
  exact ⟨h2,fun x hx h => Nat.lt_trans (h4 x hx h) ha,h5⟩
 have hpr : ∀ {l : List Atm},(∀ x ∈ l,x.1=1→x.2 < k)→QW (bitL E l) (proA dn M l)∧proA dn M l ≠ 0 := fun h => proA_ok hdn' hM h
 unfold wfN at hwf
 unfold valN
 dsimp only at hs hwf ⊢
 split at hs
 ·rename_i s n d
  simp only [Bool.and_eq_true] at hs
  obtain ⟨⟨h1,h2⟩,h3⟩ := hs
  have h1' : n < 2 ^ z := by simpa [Nat.blt_eq] using h1
  have h2' : d ≠ 0 := by
   have : 0 < d := by simpa [Nat.blt_eq] using h2
   omega
  have hp : proA dn M D=((d : Nat) : Rat) := by
   have := subA_pro (dn := dn) (M := M) (noneA_some h3)
   rw [this]
   cases e : Nat.beq d 1 with
   | true =>
    rw [Nat.beq_eq] at e
    rw [e]
    show (1 : Rat)*1=((1 : Nat) : Rat)
    rw [Rat.mul_one]
    exact_mod_cast rfl
   | false =>
    show (if d=0 then (1 : Rat) else ((d : Nat) : Rat))*1*1=_
    rw [if_neg h2',Rat.mul_one,Rat.mul_one]
  show QW z ((if s=0 then mkRat (n : Int) d else mkRat (-(n : Int)) d)*proA dn M D)
  rw [hp]
  have key : ∀ m : Int,m.natAbs < 2 ^ z→QW z (mkRat m d*((d : Nat) : Rat)) := fun m hm => by
   rw [Rat.mkRat_eq_div,Rat.div_mul_cancel (nat_ne h2')]
   exact QW.of hm hz
  by_cases hs0 : s=0
  ·rw [if_pos hs0]
   exact key _ (by simpa using h1')
  ·rw [if_neg hs0]
   exact key _ (by simpa using h1')
 ·rename_i j
  simp only [Bool.and_eq_true,Nat.ble_eq] at hs
  have hp : proA dn M D=(((Cx.rd (σ j).data.toList).den : Nat) : Rat) := by
   rw [subA_pro (dn := dn) (M := M) (noneA_some hs.2)]
   show ((dn j : Nat) : Rat)*1*1=_
   rw [Rat.mul_one,Rat.mul_one,hdn j]
  show QW z (Cx.rd (σ j).data.toList*proA dn M D)
  rw [hp,mul_low]
  refine QW.of (Nat.lt_of_lt_of_le (QS.rd3 _).num (Nat.pow_le_pow_right (by decide) ?_)) hz
  have := hσ j
  have := hs.1
  unfold inB at this
  rw [str_len]
  omega
 ·simp only [List.all_cons,List.all_nil,Bool.and_true,Bool.and_eq_true] at hwf
  rename_i a b
  have l1 : a < k := by simpa [Nat.blt_eq] using hwf.1
  have l2 : b < k := by simpa [Nat.blt_eq] using hwf.2
  split at hs
  ·rename_i p r hp hr
   split at hs
   ·rename_i c e hc he
    rw [Nat.ble_eq] at hs
    obtain ⟨a1,a2,a3⟩ := hlow l1 hp
    obtain ⟨b1,b2,b3⟩ := hlow l2 hr
    have hc' := hpr (l := c) fun x hx => hD' x (subA_mem hc hx)
    have he' := hpr (l := e) fun x hx => hD' x (subA_mem he hx)
    have e1 : (q a+q b)*proA dn M D=M a*proA dn M c+M b*proA dn M e := by
     rw [Rat.add_mul]
     congr 1
     ·rw [subA_pro hc,← Rat.mul_assoc,a3]
     ·rw [subA_pro he,← Rat.mul_assoc,b3]
    show QW z ((q a+q b)*proA dn M D)
    rw [e1]
    exact ((a1.mul hc'.1).add (b1.mul he'.1)).mono hs
   ·cases hs
  ·cases hs
 ·simp only [List.all_cons,List.all_nil,Bool.and_true,Bool.and_eq_true] at hwf
  rename_i a b
  have l1 : a < k := by simpa [Nat.blt_eq] using hwf.1
  have l2 : b < k := by simpa [Nat.blt_eq] using hwf.2
  split at hs
  ·rename_i p r hp hr
   split at hs
   ·rename_i c e hc he
    rw [Nat.ble_eq] at hs
    obtain ⟨a1,a2,a3⟩ := hlow l1 hp
    obtain ⟨b1,b2,b3⟩ := hlow l2 hr
    have hc' := hpr (l := c) fun x hx => hD' x (subA_mem hc hx)
    have he' := hpr (l := e) fun x hx => hD' x (subA_mem he hx)
    have e1 : (q a - q b)*proA dn M D=M a*proA dn M c - M b*proA dn M e := by
     rw [show (q a - q b)*proA dn M D=q a*proA dn M D - q b*proA dn M D by grind]
     congr 1
     ·rw [subA_pro hc,← Rat.mul_assoc,a3]
     ·rw [subA_pro he,← Rat.mul_assoc,b3]
    show QW z ((q a - q b)*proA dn M D)
    rw [e1]
    exact ((a1.mul hc'.1).sub (b1.mul he'.1)).mono hs
   ·cases hs
  ·cases hs
 ·simp only [List.all_cons,List.all_nil,Bool.and_true,Bool.and_eq_true] at hwf
  rename_i a b
  have l1 : a < k := by simpa [Nat.blt_eq] using hwf.1
  have l2 : b < k := by simpa [Nat.blt_eq] using hwf.2
  split at hs
  ·rename_i p r hp hr
   split at hs
   ·rename_i c hc
    rw [Bool.and_eq_true,Nat.ble_eq] at hs
    obtain ⟨a1,a2,a3⟩ := hlow l1 hp
    obtain ⟨b1,b2,b3⟩ := hlow l2 hr
    have e1 : q a*q b*proA dn M D=M a*M b := by
     rw [subA_pro hc,subA_pro (noneA_some hs.1),← a3,← b3]
     show q a*q b*(proA dn M p.2*(proA dn M r.2*1))=_
     grind
    show QW z (q a*q b*proA dn M D)
    rw [e1]
    exact (a1.mul b1).mono hs.2
   ·cases hs
  ·cases hs
 ·simp only [List.all_cons,List.all_nil,Bool.and_true] at hwf
  rename_i a
  have l1 : a < k := by simpa [Nat.blt_eq] using hwf
  split at hs
  ·rename_i p hp
   rw [Bool.and_eq_true,Nat.ble_eq] at hs
   obtain ⟨a1,a2,a3⟩ := hlow l1 hp
   have e1 : -q a*proA dn M D=-M a := by
    rw [subA_pro (noneA_some hs.1),← a3]
    show -q a*(proA dn M p.2*1)=_
    grind
   show QW z (-q a*proA dn M D)
   rw [e1]
   exact a1.neg.mono hs.2
  ·cases hs
 ·simp only [List.all_cons,List.all_nil,Bool.and_true,Bool.and_eq_true] at hwf
  rename_i a b
  have l1 : a < k := by simpa [Nat.blt_eq] using hwf.1
  have l2 : b < k := by simpa [Nat.blt_eq] using hwf.2
  split at hs
  ·rename_i p r D' hp hr hD1
   split at hs
   ·rename_i c hc
    split at hs
    ·rename_i e he
     rw [Nat.ble_eq] at hs
     obtain ⟨a1,a2,a3⟩ := hlow l1 hp
     obtain ⟨b1,b2,b3⟩ := hlow l2 hr
     have he' := hpr (l := e) fun x hx => b2 x (subA_mem he hx)
     by_cases h0 : M b=0
     ·have hb : q b=0 := by
       rw [h0] at b3
       exact (Rat.mul_eq_zero.1 b3).resolve_right (hpr b2).2
      show QW z (q a / q b*proA dn M D)
      rw [hb,Rat.div_def,Rat.inv_zero,Rat.mul_zero,Rat.zero_mul]
      exact QW.zero hz
     ·have hb : q b ≠ 0 := fun h => h0 (by rw [← b3,h,Rat.zero_mul])
      have e1 : q a / q b*proA dn M D=M a*proA dn M e := by
       have e2 : proA dn M D=M b*proA dn M D' := by
        rw [remA_pro hD1]
        show (if M b=0 then (1 : Rat) else M b)*_=_
        rw [if_neg h0]
       have e3 : q a / q b*q b=q a := Rat.div_mul_cancel hb
       rw [e2,← a3,← b3,subA_pro hc,subA_pro he]
       generalize q a / q b=t at e3
       rw [← e3]
       grind
      show QW z (q a / q b*proA dn M D)
      rw [e1]
      exact (a1.mul he'.1).mono hs
    ·cases hs
   ·cases hs
  ·cases hs
 ·have hD0 : D=[] := by
   rw [Nat.beq_eq] at hs
   exact List.length_eq_zero_iff.1 hs
  rw [hD0]
  have hv : valN σ q (7,xs)=0 ∨ valN σ q (7,xs)=1 := by
   unfold valN
   dsimp only
   split
   all_goals first | (split; exact Or.inl rfl; exact Or.inr rfl) | exact Or.inl rfl | (rename_i h; cases h)
  show QW z (valN σ q (7,xs)*1)
  rw [Rat.mul_one]
  rcases hv with h | h
  ·rw [h]
   exact QW.zero hz
  ·rw [h]
   exact QW.one hz
 ·rename_i i ys
  rw [Bool.and_eq_true,Bool.and_eq_true,List.all_eq_true] at hs
  obtain ⟨h1,h2,h3⟩ := hs
  have hD0 : D=[] := by
   rw [Nat.beq_eq] at h1
   exact List.length_eq_zero_iff.1 h1
  have hwf' : ys.all (Nat.blt · k)=true := hwf
  rw [List.all_eq_true] at hwf'
  have hlt : ∀ c ∈ ys,c < k := fun c hc => by simpa [Nat.blt_eq] using hwf' c hc
  split at h3
  ·rename_i a ha
   split at h3
   ·rename_i p hp
    split at h3
    ·rename_i e he
     rw [Nat.ble_eq] at h3
     obtain ⟨hi,ha'⟩ := List.getElem?_eq_some_iff.1 ha
     have hmem : a ∈ ys := List.mem_of_getElem? ha
     have hg : (ys.map q).getD i 0=q a := by
      rw [List.getD_eq_getElem?_getD,List.getElem?_map,ha]
      rfl
     show QW z ((ys.map q).getD i 0*fac (ys.map q)*proA dn M D)
     rw [hg,hD0]
     show QW z (q a*fac (ys.map q)*1)
     rw [Rat.mul_one]
     -- what makes all of them whole
     have hU : ∀ x ∈ uniA E ys [],x.1=1→x.2 < k := uniA_low hM hlt (fun x hx => by cases hx)
     have hUp := hpr hU
     have hw := whole hUp.1.wh
     generalize hm : (proA dn M (uniA E ys [])).num=m at hw
     have hm0 : m ≠ 0 := fun h => hUp.2 (by rw [hw,h]; rfl)
     have hall : ∀ y ∈ ys.map q,(y*((m : Int) : Rat)).den=1 := fun y hy => by
      obtain ⟨c,hc,rfl⟩ := List.mem_map.1 hy
      have h4 := h2 c hc
      split at h4
      ·rename_i r hr
       obtain ⟨c1,c2,c3⟩ := hlow (hlt c hc) hr
       cases hs2 : subA (uniA E ys []) r.2 with
       | none => rw [hs2] at h4; cases h4
       | some f =>
        have hf := hpr (l := f) fun x hx => hU x (subA_mem hs2 hx)
        rw [← hw,subA_pro hs2,← Rat.mul_assoc,c3]
        exact (c1.mul hf.1).wh
      ·cases h4
     obtain ⟨a1,a2,a3⟩ := hlow (hlt a hmem) hp
     have he' := hpr (l := e) fun x hx => hU x (subA_mem he hx)
     refine fac_whole (List.mem_map_of_mem hmem) hm0 hall ?_
     rw [← hw,subA_pro he,← Rat.mul_assoc,a3]
     exact (a1.mul he'.1).mono h3
    ·cases h3
   ·cases h3
  ·cases h3
 ·cases hs
end
theorem QS_over {x m p : Rat} {z y K : Nat} (hm : QW z m) (hp : QW y p) (h0 : p ≠ 0) (e : x*p=m) (hz : z≤K) (hy : y≤K) : QS K x := by
 have hw := whole hp.wh
 generalize p.num=P at hw
 have hP : P ≠ 0 := fun h => h0 (by rw [hw,h]; rfl)
 have hpos : 0 < P.natAbs := Int.natAbs_pos.2 hP
 have hd : x.den ∣ P.natAbs := den_dvd (x := x) (m := P) (by rw [← hw,e]; exact hm.wh)
 have hdle : x.den≤P.natAbs := Nat.le_of_dvd hpos hd
 have hPlt : P.natAbs < 2 ^ y := by
  have := hp.qs.num
  rw [hw,Rat.num_intCast] at this
  exact this
 have hmw := whole hm.wh
 have hmlt := hm.qs.num
 generalize m.num=n at hmw hmlt
 have h1 : x*((x.den : Nat) : Rat)=((x.num : Int) : Rat) := mul_low x
 have h2 : ((x.num : Int) : Rat)*((P : Int) : Rat)=((n : Int) : Rat)*(((x.den : Nat) : Int) : Rat) := by
  rw [← h1,← hw,← hmw,← e,Rat.intCast_natCast]
  grind
 have h3 : x.num*P=n*(x.den : Int) := by exact_mod_cast h2
 have h4 : x.num.natAbs*P.natAbs=n.natAbs*x.den := by
  have := congrArg Int.natAbs h3
  rwa [Int.natAbs_mul,Int.natAbs_mul,Int.natAbs_natCast] at this
 have h5 : x.num.natAbs≤n.natAbs := by
  refine Nat.le_of_mul_le_mul_right (c := P.natAbs) ?_ hpos
  rw [h4]
  exact Nat.mul_le_mul_left _ hdle
 exact ⟨Nat.lt_of_lt_of_le (Nat.lt_of_le_of_lt h5 hmlt) (Nat.pow_le_pow_right (by decide) hz),Nat.lt_of_lt_of_le (Nat.lt_of_le_of_lt hdle hPlt) (Nat.pow_le_pow_right (by decide) hy)⟩
section
variable {N : List Nd} {Z : List Nat} {E : List (Nat × List Atm)} {q : Nat→Rat}
theorem sizes_okA {σ : Nat→ByteArray} (hσ : ∀ j,(σ j).size≤1048576) (hw : wfB 0 N=true) (hz : saB E 0 N E Z=true) (hq : ∀ (a : Nat) nd,N[a]? = some nd→q a=valN σ q nd) (h0 : ∀ a,N.length≤a→q a=0) : (∀ (a : Nat) z,Z[a]? = some z→QS z (q a))∧∀ a,QS 1000000000000 (q a) := by
 have hl := saB_len hz
 have key : ∀ k,k≤N.length→∃ M,BelA E (fun j => (Cx.rd (σ j).data.toList).den) M q k := by
  intro k
  induction k with
  | zero => exact fun _ => ⟨fun _ => 0,fun a ha => by omega⟩
  | succ k ih =>
   intro hk
   obtain ⟨M,hM⟩ := ih (by omega)
   have hn : N[k]? = some N[k] := List.getElem?_eq_getElem (by omega)
   obtain ⟨p,z,h1,_,h3,_⟩ := saB_get hz hn
   rw [Nat.zero_add] at h3
   have hwf := wfB_get hw hn
   rw [Nat.zero_add] at hwf
   obtain ⟨g1,g2,g3⟩ := node_ok hσ (fun _ => rfl) hM hwf h3
   rw [← hq k _ hn] at g1
   refine ⟨fun x => if x=k then q k*proA (fun j => (Cx.rd (σ j).data.toList).den) M p.2 else M x,fun a ha => ?_⟩
   have same : ∀ {l : List Atm},(∀ x ∈ l,x.1=1→x.2 < k)→proA (fun j => (Cx.rd (σ j).data.toList).den) (fun x => if x=k then q k*proA (fun j => (Cx.rd (σ j).data.toList).den) M p.2 else M x) l=proA (fun j => (Cx.rd (σ j).data.toList).den) M l := fun hl => (proA_congr fun x hx h => by
    have := hl x hx h
    rw [if_neg (by omega)]).symm
   by_cases e : a=k
   ·subst e
    refine ⟨p,h1,?_,g2,g3,?_⟩
    ·show QW p.1 (if a=a then _ else _)
     rw [if_pos rfl]
     exact g1
    ·rw [same g3]
     show _=(if a=a then _ else _)
     rw [if_pos rfl]
   ·obtain ⟨p',f1,f2,f3,f4,f5⟩ := hM a (by omega)
    refine ⟨p',f1,?_,f3,f4,?_⟩
    ·show QW p'.1 (if a=k then _ else M a)
     rw [if_neg e]
     exact f2
    ·rw [same fun x hx h => by have := f4 x hx h; omega]
     show _=(if a=k then _ else M a)
     rw [if_neg e]
     exact f5
 obtain ⟨M,hM⟩ := key N.length (Nat.le_refl _)
 have hdn : ∀ j,0 < (Cx.rd (σ j).data.toList).den∧(Cx.rd (σ j).data.toList).den < 2 ^ inB := fun j => by
  refine ⟨Rat.den_pos _,Nat.lt_of_lt_of_le (QS.rd3 _).den (Nat.pow_le_pow_right (by decide) ?_)⟩
  have := hσ j
  rw [str_len]
  unfold inB
  omega
 have h2 : ∀ (a : Nat) z,Z[a]? = some z→QS z (q a)∧z≤1000000000000 := by
  intro a z ha
  have hlt : a < N.length := by
   have := (List.getElem?_eq_some_iff.1 ha).1
   omega
  have hn : N[a]? = some N[a] := List.getElem?_eq_getElem hlt
  obtain ⟨p,z',h1,h2,_,h4,h5,h6⟩ := saB_get hz hn
  rw [ha] at h2
  cases h2
  obtain ⟨p',f1,f2,f3,f4,f5⟩ := hM a hlt
  rw [h1] at f1
  cases f1
  have hp := proA_ok hdn hM (l := p.2) fun x hx h => Nat.lt_trans (f4 x hx h) hlt
  exact ⟨QS_over f2 hp.1 hp.2 f5 h4 h5,h6⟩
 refine ⟨fun a z h => (h2 a z h).1,fun a => ?_⟩
 by_cases ha : a < Z.length
 ·have := h2 a _ (List.getElem?_eq_getElem ha)
  exact this.1.mono this.2
 ·rw [h0 a (by omega)]
  exact QS.zero.mono (by decide)
theorem hy_ofA {L C : List (List Nat × Nat)} {σ : Nat→ByteArray} {H : List (Nat × Nat × Nat × Nat)} (hσ : ∀ j,(σ j).size≤1048576) (hw : wfB 0 N=true) (hz : saB E 0 N E Z=true) (hl : litB N L=true) (hcn : canB N C=true) (hq : ∀ (a : Nat) nd,N[a]? = some nd→q a=valN σ q nd) (h0 : ∀ a,N.length≤a→q a=0) (hH : hAll q H) : Hy N H L C Z q σ where
 nat := hq
 qs := (sizes_okA hσ hw hz hq h0).2
 zs := (sizes_okA hσ hw hz hq h0).1
 par := hσ
 lit := fun s b h => lit_rd hl hq h
 k0 := fun a r h => kn_at hH h
 k1 := fun a r h => kn_at hH h
 k2 := fun a r h => kn_at hH h
 k3 := fun a b r h => kn_at hH h
 k4 := fun l a b r h1 h2 => by
  have h3 : Nat.beq 1 r=true ↔ q a=q b := kn_at hH h2
  rw [h3,← can_tx hcn hq h1]
  exact ⟨fun e => by rw [e],fun e => tellS_inj (bytesN_inj e)⟩
 k6 := fun a b r h => kn_at hH h
 k5 := fun a r h => kn_at hH h
end
end Go.Proofs.YtdchineebfdkcaaGreatDoor
/- MGX -/
namespace Go.Proofs.YtdchineebfdkcaaGreatDoor
open Go.RowKit Cx
def triangleFour_N : List Nd := [(1,[0]),(1,[1]),(1,[2]),(1,[3]),(1,[4]),(1,[5]),(3,[2,0]),(3,[3,1]),(3,[4,0]),(3,[5,1]),(4,[6,9]),(4,[7,8]),(3,[10,11]),(3,[4,2]),(3,[5,3]),(4,[13,13]),(4,[14,14]),(2,[15,16]),(3,[0,4]),(3,[1,5]),(4,[18,18]),(4,[19,19]),(2,[20,21]),(4,[6,6]),(4,[7,7]),(2,[23,24]),(5,[25]),(2,[17,22]),(2,[27,26]),(5,[22]),(2,[17,25]),(2,[30,29]),(4,[28,31]),(5,[17]),(2,[22,25]),(2,[34,33]),(2,[22,17]),(2,[36,26]),(4,[35,37]),(2,[25,17]),(2,[39,29]),(2,[25,22]),(2,[41,33]),(4,[40,42]),(2,[32,38]),(2,[44,43]),(4,[0,32]),(4,[1,32]),(0,[0,0,1]),(2,[48,46]),(2,[48,47]),(4,[2,38]),(4,[3,38]),(2,[49,51]),(2,[50,52]),(4,[4,43]),(4,[5,43]),(2,[53,55]),(2,[54,56]),(6,[57,45]),(6,[58,45]),(3,[2,59]),(3,[3,60]),(3,[4,59]),(3,[5,60]),(4,[61,64]),(4,[62,63]),(3,[65,66]),(3,[59,0]),(3,[60,1]),(4,[68,9]),(4,[69,8]),(3,[70,71]),(4,[6,69]),(4,[7,68]),(3,[73,74]),(3,[59,2]),(3,[60,3]),(4,[76,76]),(4,[77,77]),(2,[78,79]),(3,[0,59]),(3,[1,60]),(4,[81,81]),(4,[82,82]),(2,[83,84]),(2,[80,85]),(2,[86,26]),(5,[85]),(2,[80,25]),(2,[89,88]),(4,[87,90]),(5,[80]),(2,[85,25]),(2,[93,92]),(2,[85,80]),(2,[95,26]),(4,[94,96]),(2,[25,80]),(2,[98,88]),(2,[25,85]),(2,[100,92]),(4,[99,101]),(2,[91,97]),(2,[103,102]),(4,[0,91]),(4,[1,91]),(2,[48,105]),(2,[48,106]),(4,[2,97]),(4,[3,97]),(2,[107,109]),(2,[108,110]),(4,[59,102]),(4,[60,102]),(2,[111,113]),(2,[112,114]),(6,[115,104]),(6,[116,104]),(3,[117,4]),(3,[118,5]),(0,[0,4,1]),(0,[0,16,1]),(4,[17,35]),(2,[123,32]),(4,[22,40]),(2,[125,38]),(4,[25,28]),(2,[127,43]),(2,[124,126]),(2,[129,128]),(4,[0,124]),(4,[1,124]),(2,[48,131]),(2,[48,132]),(4,[2,126]),(4,[3,126]),(2,[133,135]),(2,[134,136]),(4,[4,128]),(4,[5,128]),(2,[137,139]),(2,[138,140]),(6,[141,130]),(6,[142,130]),(4,[17,22]),(4,[145,25]),(4,[12,12]),(6,[146,147]),(6,[148,122]),(4,[80,94]),(2,[150,91]),(4,[85,99]),(2,[152,97]),(4,[25,87]),(2,[154,102]),(2,[151,153]),(2,[156,155]),(4,[0,151]),(4,[1,151]),(2,[48,158]),(2,[48,159]),(4,[2,153]),(4,[3,153]),(2,[160,162]),(2,[161,163]),(4,[59,155]),(4,[60,155]),(2,[164,166]),(2,[165,167]),(6,[168,157]),(6,[169,157]),(4,[80,85]),(4,[172,25]),(4,[75,75]),(6,[173,174]),(6,[175,122]),(4,[63,63]),(4,[64,64]),(2,[177,178]),(4,[68,68]),(4,[69,69]),(2,[180,181]),(5,[182]),(2,[179,22]),(2,[184,183]),(2,[179,182]),(2,[186,29]),(4,[185,187]),(5,[179]),(2,[22,182]),(2,[190,189]),(2,[22,179]),(2,[192,183]),(4,[191,193]),(2,[182,179]),(2,[195,29]),(2,[182,22]),(2,[197,189]),(4,[196,198]),(2,[188,194]),(2,[200,199]),(4,[0,188]),(4,[1,188]),(2,[48,202]),(2,[48,203]),(4,[59,194]),(4,[60,194]),(2,[204,206]),(2,[205,207]),(4,[4,199]),(4,[5,199]),(2,[208,210]),(2,[209,211]),(6,[212,201]),(6,[213,201]),(3,[214,2]),(3,[215,3]),(4,[179,191]),(2,[218,188]),(4,[22,196]),(2,[220,194]),(4,[182,185]),(2,[222,199]),(2,[219,221]),(2,[224,223]),(4,[0,219]),(4,[1,219]),(2,[48,226]),(2,[48,227]),(4,[59,221]),(4,[60,221]),(2,[228,230]),(2,[229,231]),(4,[4,223]),(4,[5,223]),(2,[232,234]),(2,[233,235]),(6,[236,225]),(6,[237,225]),(4,[179,22]),(4,[240,182]),(4,[72,72]),(6,[241,242]),(6,[243,122]),(3,[59,4]),(3,[60,5]),(4,[245,245]),(4,[246,246]),(2,[247,248]),(4,[61,61]),(4,[62,62]),(2,[250,251]),(5,[252]),(2,[17,249]),(2,[254,253]),(5,[249]),(2,[17,252]),(2,[257,256]),(4,[255,258]),(2,[249,252]),(2,[260,33]),(2,[249,17]),(2,[262,253]),(4,[261,263]),(2,[252,17]),(2,[265,256]),(2,[252,249]),(2,[267,33]),(4,[266,268]),(2,[259,264]),(2,[270,269]),(4,[59,259]),(4,[60,259]),(2,[48,272]),(2,[48,273]),(4,[2,264]),(4,[3,264]),(2,[274,276]),(2,[275,277]),(4,[4,269]),(4,[5,269]),(2,[278,280]),(2,[279,281]),(6,[282,271]),(6,[283,271]),(3,[284,0]),(3,[285,1]),(4,[17,261]),(2,[288,259]),(4,[249,266]),(2,[290,264]),(4,[252,255]),(2,[292,269]),(2,[289,291]),(2,[294,293]),(4,[59,289]),(4,[60,289]),(2,[48,296]),(2,[48,297]),(4,[2,291]),(4,[3,291]),(2,[298,300]),(2,[299,301]),(4,[4,293]),(4,[5,293]),(2,[302,304]),(2,[303,305]),(6,[306,295]),(6,[307,295]),(4,[17,249]),(4,[310,252]),(4,[67,67]),(6,[311,312]),(6,[313,122])]
def triangleFour_L : List (List Nat × Nat) := []
def triangleFour_C : List (List Nat × Nat) := []
def triangleFour_Z : List Nat := [3495260,3495260,3495260,3495260,3495260,3495260,6990520,6990520,6990520,6990520,13981040,13981040,20971560,6990520,6990520,13981040,13981040,27962078,6990520,6990520,13981040,13981040,27962078,13981040,13981040,27962078,27962078,41943116,41943118,27962078,41943116,41943118,83886236,27962078,41943116,41943118,41943116,41943118,83886236,41943116,41943118,41943116,41943118,83886236,83886238,83886240,87381495,87381495,1,87381497,87381497,87381495,87381495,90876758,90876758,87381495,87381495,94372019,94372019,94372020,94372020,94372022,94372022,94372022,94372022,188744044,188744044,188744046,94372022,94372022,101362542,101362542,104857803,101362542,101362542,104857803,94372022,94372022,188744044,188744044,209715600,94372022,94372022,188744044,188744044,209715600,209715602,209715604,209715600,209715602,209715604,419431208,209715600,209715602,209715604,209715602,209715604,419431208,209715602,209715604,209715602,209715604,419431208,419431210,419431212,422926467,422926467,422926469,422926469,422926467,422926467,426421730,426421730,513803228,513803228,513803231,513803231,513803232,513803232,513803234,513803234,3,5,69905196,83886238,69905196,83886238,69905196,83886238,83886240,83886242,87381497,87381497,87381499,87381499,87381497,87381497,90876760,90876760,87381497,87381497,94372021,94372021,94372022,94372022,55924156,83886234,41943120,83886235,83886236,419431204,419431210,419431204,419431210,237677682,419431210,419431212,419431214,422926469,422926469,422926471,422926471,422926469,422926469,426421732,426421732,513803230,513803230,513803233,513803233,513803234,513803234,419431200,447393278,209715606,447393279,447393280,188744044,188744044,209715600,188744044,188744044,209715600,209715600,209715602,209715604,209715602,209715604,419431208,209715600,209715602,209715604,209715602,209715604,419431208,209715602,209715604,209715602,209715604,419431208,419431210,419431212,422926467,422926467,422926469,422926469,513803228,513803228,513803230,513803230,422926467,422926467,513803232,513803232,513803233,513803233,513803235,513803235,419431204,419431210,237677682,419431210,419431204,419431210,419431212,419431214,422926469,422926469,422926471,422926471,513803230,513803230,513803232,513803232,422926469,422926469,513803234,513803234,513803235,513803235,237677678,447393278,209715606,447393279,447393280,94372022,94372022,188744044,188744044,209715600,188744044,188744044,209715600,209715600,209715602,209715604,209715600,209715602,209715604,419431208,209715602,209715604,209715602,209715604,419431208,209715602,209715604,209715602,209715604,419431208,419431210,419431212,513803228,513803228,513803230,513803230,422926467,422926467,513803232,513803232,422926467,422926467,513803234,513803234,513803235,513803235,513803237,513803237,237677682,419431210,419431204,419431210,419431204,419431210,419431212,419431214,513803230,513803230,513803232,513803232,422926469,422926469,513803234,513803234,422926469,422926469,513803236,513803236,513803237,513803237,237677678,447393278,377488092,447393279,447393280]
def triangleFour_D0 : List Atm := [(0,0),(0,4)]
def triangleFour_D1 : List Atm := [(0,1),(0,5)]
def triangleFour_D2 : List Atm := [(0,2),(0,2),(0,3),(0,3),(0,4),(0,4),(0,5),(0,5)]
def triangleFour_D3 : List Atm := [(0,0),(0,0),(0,1),(0,1),(0,4),(0,4),(0,5),(0,5)]
def triangleFour_D4 : List Atm := [(0,0),(0,0),(0,1),(0,1),(0,2),(0,2),(0,3),(0,3)]
def triangleFour_D5 : List Atm := [(0,0),(0,0),(0,1),(0,1),(0,2),(0,2),(0,3),(0,3),(0,4),(0,4),(0,5),(0,5)]
def triangleFour_D6 : List Atm := [(0,0),(0,0),(0,0),(0,0),(0,1),(0,1),(0,1),(0,1),(0,2),(0,2),(0,2),(0,2),(0,3),(0,3),(0,3),(0,3),(0,4),(0,4),(0,4),(0,4),(0,5),(0,5),(0,5),(0,5)]
def triangleFour_D7 : List Atm := [(0,0),(0,0),(0,0),(0,0),(0,0),(0,1),(0,1),(0,1),(0,1),(0,2),(0,2),(0,2),(0,2),(0,3),(0,3),(0,3),(0,3),(0,4),(0,4),(0,4),(0,4),(0,5),(0,5),(0,5),(0,5)]
def triangleFour_D8 : List Atm := [(0,0),(0,0),(0,0),(0,0),(0,1),(0,1),(0,1),(0,1),(0,1),(0,2),(0,2),(0,2),(0,2),(0,3),(0,3),(0,3),(0,3),(0,4),(0,4),(0,4),(0,4),(0,5),(0,5),(0,5),(0,5)]
def triangleFour_D9 : List Atm := [(0,0),(0,0),(0,0),(0,0),(0,1),(0,1),(0,1),(0,1),(0,2),(0,2),(0,2),(0,2),(0,2),(0,3),(0,3),(0,3),(0,3),(0,4),(0,4),(0,4),(0,4),(0,5),(0,5),(0,5),(0,5)]
def triangleFour_D10 : List Atm := [(0,0),(0,0),(0,0),(0,0),(0,1),(0,1),(0,1),(0,1),(0,2),(0,2),(0,2),(0,2),(0,3),(0,3),(0,3),(0,3),(0,3),(0,4),(0,4),(0,4),(0,4),(0,5),(0,5),(0,5),(0,5)]
def triangleFour_D11 : List Atm := [(0,0),(0,0),(0,0),(0,0),(0,0),(0,1),(0,1),(0,1),(0,1),(0,2),(0,2),(0,2),(0,2),(0,2),(0,3),(0,3),(0,3),(0,3),(0,4),(0,4),(0,4),(0,4),(0,5),(0,5),(0,5),(0,5)]
def triangleFour_D12 : List Atm := [(0,0),(0,0),(0,0),(0,0),(0,1),(0,1),(0,1),(0,1),(0,1),(0,2),(0,2),(0,2),(0,2),(0,3),(0,3),(0,3),(0,3),(0,3),(0,4),(0,4),(0,4),(0,4),(0,5),(0,5),(0,5),(0,5)]
def triangleFour_D13 : List Atm := [(0,0),(0,0),(0,0),(0,0),(0,1),(0,1),(0,1),(0,1),(0,2),(0,2),(0,2),(0,2),(0,3),(0,3),(0,3),(0,3),(0,4),(0,4),(0,4),(0,4),(0,4),(0,5),(0,5),(0,5),(0,5)]
def triangleFour_D14 : List Atm := [(0,0),(0,0),(0,0),(0,0),(0,1),(0,1),(0,1),(0,1),(0,2),(0,2),(0,2),(0,2),(0,3),(0,3),(0,3),(0,3),(0,4),(0,4),(0,4),(0,4),(0,5),(0,5),(0,5),(0,5),(0,5)]
def triangleFour_D15 : List Atm := [(0,0),(0,0),(0,0),(0,0),(0,0),(0,1),(0,1),(0,1),(0,1),(0,2),(0,2),(0,2),(0,2),(0,2),(0,3),(0,3),(0,3),(0,3),(0,4),(0,4),(0,4),(0,4),(0,4),(0,5),(0,5),(0,5),(0,5)]
def triangleFour_D16 : List Atm := [(0,0),(0,0),(0,0),(0,0),(0,1),(0,1),(0,1),(0,1),(0,1),(0,2),(0,2),(0,2),(0,2),(0,3),(0,3),(0,3),(0,3),(0,3),(0,4),(0,4),(0,4),(0,4),(0,5),(0,5),(0,5),(0,5),(0,5)]
def triangleFour_D17 : List Atm := [(0,0),(0,2),(0,4),(1,45)]
def triangleFour_D18 : List Atm := [(0,1),(0,3),(0,5),(1,45)]
def triangleFour_D19 : List Atm := [(0,0),(0,1),(0,2),(0,3),(0,4),(0,5),(1,45),(1,45)]
def triangleFour_D20 : List Atm := [(0,0),(0,1),(0,2),(0,3),(0,4),(0,5),(1,45)]
def triangleFour_D21 : List Atm := [(0,0),(0,0),(0,2),(0,2),(0,4),(0,4),(1,45),(1,45)]
def triangleFour_D22 : List Atm := [(0,1),(0,1),(0,3),(0,3),(0,5),(0,5),(1,45),(1,45)]
def triangleFour_D23 : List Atm := [(0,0),(0,0),(0,1),(0,1),(0,2),(0,2),(0,3),(0,3),(0,4),(0,4),(0,5),(0,5),(1,45),(1,45)]
def triangleFour_D24 : List Atm := [(0,0),(0,0),(0,0),(0,0),(0,1),(0,1),(0,1),(0,1),(0,2),(0,2),(0,2),(0,2),(0,3),(0,3),(0,3),(0,3),(0,4),(0,4),(0,4),(0,4),(0,5),(0,5),(0,5),(0,5),(1,45),(1,45),(1,45),(1,45)]
def triangleFour_D25 : List Atm := [(0,0),(0,0),(0,0),(0,0),(0,0),(0,1),(0,1),(0,1),(0,1),(0,2),(0,2),(0,2),(0,2),(0,3),(0,3),(0,3),(0,3),(0,4),(0,4),(0,4),(0,4),(0,5),(0,5),(0,5),(0,5),(1,45),(1,45),(1,45),(1,45)]
def triangleFour_D26 : List Atm := [(0,0),(0,0),(0,0),(0,0),(0,1),(0,1),(0,1),(0,1),(0,1),(0,2),(0,2),(0,2),(0,2),(0,3),(0,3),(0,3),(0,3),(0,4),(0,4),(0,4),(0,4),(0,5),(0,5),(0,5),(0,5),(1,45),(1,45),(1,45),(1,45)]
def triangleFour_D27 : List Atm := [(0,0),(0,0),(0,0),(0,0),(0,1),(0,1),(0,1),(0,1),(0,2),(0,2),(0,2),(0,2),(0,2),(0,3),(0,3),(0,3),(0,3),(0,4),(0,4),(0,4),(0,4),(0,5),(0,5),(0,5),(0,5),(1,45),(1,45),(1,45),(1,45)]
def triangleFour_D28 : List Atm := [(0,0),(0,0),(0,0),(0,0),(0,1),(0,1),(0,1),(0,1),(0,2),(0,2),(0,2),(0,2),(0,3),(0,3),(0,3),(0,3),(0,3),(0,4),(0,4),(0,4),(0,4),(0,5),(0,5),(0,5),(0,5),(1,45),(1,45),(1,45),(1,45)]
def triangleFour_D29 : List Atm := [(0,0),(0,0),(0,0),(0,0),(0,0),(0,1),(0,1),(0,1),(0,1),(0,2),(0,2),(0,2),(0,2),(0,2),(0,3),(0,3),(0,3),(0,3),(0,4),(0,4),(0,4),(0,4),(0,5),(0,5),(0,5),(0,5),(1,45),(1,45),(1,45),(1,45)]
def triangleFour_D30 : List Atm := [(0,0),(0,0),(0,0),(0,0),(0,1),(0,1),(0,1),(0,1),(0,1),(0,2),(0,2),(0,2),(0,2),(0,3),(0,3),(0,3),(0,3),(0,3),(0,4),(0,4),(0,4),(0,4),(0,5),(0,5),(0,5),(0,5),(1,45),(1,45),(1,45),(1,45)]
def triangleFour_D31 : List Atm := [(0,0),(0,0),(0,0),(0,0),(0,0),(0,1),(0,1),(0,1),(0,1),(0,2),(0,2),(0,2),(0,2),(0,2),(0,3),(0,3),(0,3),(0,3),(0,4),(0,4),(0,4),(0,4),(0,4),(0,5),(0,5),(0,5),(0,5),(1,45),(1,45),(1,45),(1,45),(1,45)]
def triangleFour_D32 : List Atm := [(0,0),(0,0),(0,0),(0,0),(0,1),(0,1),(0,1),(0,1),(0,1),(0,2),(0,2),(0,2),(0,2),(0,3),(0,3),(0,3),(0,3),(0,3),(0,4),(0,4),(0,4),(0,4),(0,5),(0,5),(0,5),(0,5),(0,5),(1,45),(1,45),(1,45),(1,45),(1,45)]
def triangleFour_D33 : List Atm := [(0,0),(0,2),(0,4),(1,45),(1,104)]
def triangleFour_D34 : List Atm := [(0,1),(0,3),(0,5),(1,45),(1,104)]
def triangleFour_D35 : List Atm := [(0,0),(0,0),(0,0),(0,0),(0,1),(0,1),(0,1),(0,1),(0,2),(0,2),(0,2),(0,2),(0,3),(0,3),(0,3),(0,3),(0,4),(0,4),(0,4),(0,4),(0,4),(0,5),(0,5),(0,5),(0,5),(1,45),(1,45),(1,45),(1,45)]
def triangleFour_D36 : List Atm := [(0,0),(0,0),(0,0),(0,0),(0,1),(0,1),(0,1),(0,1),(0,2),(0,2),(0,2),(0,2),(0,3),(0,3),(0,3),(0,3),(0,4),(0,4),(0,4),(0,4),(0,5),(0,5),(0,5),(0,5),(0,5),(1,45),(1,45),(1,45),(1,45)]
def triangleFour_D37 : List Atm := [(0,0),(0,2),(0,4),(1,45),(1,201)]
def triangleFour_D38 : List Atm := [(0,1),(0,3),(0,5),(1,45),(1,201)]
def triangleFour_D39 : List Atm := [(0,0),(0,0),(0,0),(0,0),(0,1),(0,1),(0,1),(0,1),(0,2),(0,2),(0,3),(0,3),(0,4),(0,4),(0,4),(0,4),(0,5),(0,5),(0,5),(0,5),(1,45),(1,45)]
def triangleFour_D40 : List Atm := [(0,0),(0,2),(0,4),(1,45),(1,271)]
def triangleFour_D41 : List Atm := [(0,1),(0,3),(0,5),(1,45),(1,271)]
def triangleFour_D42 : List Atm := [(0,0),(0,0),(0,1),(0,1),(0,2),(0,2),(0,2),(0,2),(0,3),(0,3),(0,3),(0,3),(0,4),(0,4),(0,4),(0,4),(0,5),(0,5),(0,5),(0,5),(1,45),(1,45)]
def triangleFour_E : List (Nat × List Atm) := [(3495259,[(0,0)]),(3495259,[(0,1)]),(3495259,[(0,2)]),(3495259,[(0,3)]),(3495259,[(0,4)]),(3495259,[(0,5)]),(6990520,[(0,0),(0,2)]),(6990520,[(0,1),(0,3)]),(6990520,triangleFour_D0),(6990520,triangleFour_D1),(13981040,[(0,0),(0,1),(0,2),(0,5)]),(13981040,[(0,0),(0,1),(0,3),(0,4)]),(20971560,[(0,0),(0,1),(0,2),(0,3),(0,4),(0,5)]),(6990520,[(0,2),(0,4)]),(6990520,[(0,3),(0,5)]),(13981040,[(0,2),(0,2),(0,4),(0,4)]),(13981040,[(0,3),(0,3),(0,5),(0,5)]),(27962078,triangleFour_D2),(6990520,triangleFour_D0),(6990520,triangleFour_D1),(13981040,[(0,0),(0,0),(0,4),(0,4)]),(13981040,[(0,1),(0,1),(0,5),(0,5)]),(27962078,triangleFour_D3),(13981040,[(0,0),(0,0),(0,2),(0,2)]),(13981040,[(0,1),(0,1),(0,3),(0,3)]),(27962078,triangleFour_D4),(27962078,triangleFour_D4),(41943116,triangleFour_D5),(41943118,triangleFour_D5),(27962078,triangleFour_D3),(41943116,triangleFour_D5),(41943118,triangleFour_D5),(83886236,triangleFour_D6),(27962078,triangleFour_D2),(41943116,triangleFour_D5),(41943118,triangleFour_D5),(41943116,triangleFour_D5),(41943118,triangleFour_D5),(83886236,triangleFour_D6),(41943116,triangleFour_D5),(41943118,triangleFour_D5),(41943116,triangleFour_D5),(41943118,triangleFour_D5),(83886236,triangleFour_D6),(83886238,triangleFour_D6),(83886240,triangleFour_D6),(87381495,triangleFour_D7),(87381495,triangleFour_D8),(1,[]),(87381497,triangleFour_D7),(87381497,triangleFour_D8),(87381495,triangleFour_D9),(87381495,triangleFour_D10),(90876758,triangleFour_D11),(90876758,triangleFour_D12),(87381495,triangleFour_D13),(87381495,triangleFour_D14),(94372019,triangleFour_D15),(94372019,triangleFour_D16),(94372020,triangleFour_D17),(94372020,triangleFour_D18),(94372022,triangleFour_D17),(94372022,triangleFour_D18),(94372022,triangleFour_D17),(94372022,triangleFour_D18),(188744044,triangleFour_D19),(188744044,triangleFour_D19),(188744046,triangleFour_D19),(94372022,triangleFour_D17),(94372022,triangleFour_D18),(101362542,[(0,0),(0,1),(0,2),(0,4),(0,5),(1,45)]),(101362542,[(0,0),(0,1),(0,3),(0,4),(0,5),(1,45)]),(104857803,triangleFour_D20),(101362542,[(0,0),(0,1),(0,2),(0,3),(0,5),(1,45)]),(101362542,[(0,0),(0,1),(0,2),(0,3),(0,4),(1,45)]),(104857803,triangleFour_D20),(94372022,triangleFour_D17),(94372022,triangleFour_D18),(188744044,triangleFour_D21),(188744044,triangleFour_D22),(209715600,triangleFour_D23),(94372022,triangleFour_D17),(94372022,triangleFour_D18),(188744044,triangleFour_D21),(188744044,triangleFour_D22),(209715600,triangleFour_D23),(209715602,triangleFour_D23),(209715604,triangleFour_D23),(209715600,triangleFour_D23),(209715602,triangleFour_D23),(209715604,triangleFour_D23),(419431208,triangleFour_D24),(209715600,triangleFour_D23),(209715602,triangleFour_D23),(209715604,triangleFour_D23),(209715602,triangleFour_D23),(209715604,triangleFour_D23),(419431208,triangleFour_D24),(209715602,triangleFour_D23),(209715604,triangleFour_D23),(209715602,triangleFour_D23),(209715604,triangleFour_D23),(419431208,triangleFour_D24),(419431210,triangleFour_D24),(419431212,triangleFour_D24),(422926467,triangleFour_D25),(422926467,triangleFour_D26),(422926469,triangleFour_D25),(422926469,triangleFour_D26),(422926467,triangleFour_D27),(422926467,triangleFour_D28),(426421730,triangleFour_D29),(426421730,triangleFour_D30),(513803228,triangleFour_D31),(513803228,triangleFour_D32),(513803231,triangleFour_D31),(513803231,triangleFour_D32),(513803232,triangleFour_D33),(513803232,triangleFour_D34),(513803234,triangleFour_D33),(513803234,triangleFour_D34),(3,[]),(5,[]),(69905196,[(0,0),(0,0),(0,1),(0,1),(0,2),(0,2),(0,2),(0,2),(0,3),(0,3),(0,3),(0,3),(0,4),(0,4),(0,4),(0,4),(0,5),(0,5),(0,5),(0,5)]),(83886238,triangleFour_D6),(69905196,[(0,0),(0,0),(0,0),(0,0),(0,1),(0,1),(0,1),(0,1),(0,2),(0,2),(0,3),(0,3),(0,4),(0,4),(0,4),(0,4),(0,5),(0,5),(0,5),(0,5)]),(83886238,triangleFour_D6),(69905196,[(0,0),(0,0),(0,0),(0,0),(0,1),(0,1),(0,1),(0,1),(0,2),(0,2),(0,2),(0,2),(0,3),(0,3),(0,3),(0,3),(0,4),(0,4),(0,5),(0,5)]),(83886238,triangleFour_D6),(83886240,triangleFour_D6),(83886242,triangleFour_D6),(87381497,triangleFour_D7),(87381497,triangleFour_D8),(87381499,triangleFour_D7),(87381499,triangleFour_D8),(87381497,triangleFour_D9),(87381497,triangleFour_D10),(90876760,triangleFour_D11),(90876760,triangleFour_D12),(87381497,triangleFour_D13),(87381497,triangleFour_D14),(94372021,triangleFour_D15),(94372021,triangleFour_D16),(94372022,[(0,0),(0,2),(0,4),(1,130)]),(94372022,[(0,1),(0,3),(0,5),(1,130)]),(55924156,[(0,0),(0,0),(0,1),(0,1),(0,2),(0,2),(0,3),(0,3),(0,4),(0,4),(0,4),(0,4),(0,5),(0,5),(0,5),(0,5)]),(83886234,triangleFour_D6),(41943120,triangleFour_D5),(83886235,[(0,0),(0,0),(0,1),(0,1),(0,2),(0,2),(0,3),(0,3),(0,4),(0,4),(0,5),(0,5),(1,147)]),(83886236,[(0,0),(0,0),(0,1),(0,1),(0,2),(0,2),(0,3),(0,3),(0,4),(0,4),(0,5),(0,5),(1,122),(1,147)]),(419431204,triangleFour_D24),(419431210,triangleFour_D24),(419431204,triangleFour_D24),(419431210,triangleFour_D24),(237677682,[(0,0),(0,0),(0,0),(0,0),(0,1),(0,1),(0,1),(0,1),(0,2),(0,2),(0,2),(0,2),(0,3),(0,3),(0,3),(0,3),(0,4),(0,4),(0,5),(0,5),(1,45),(1,45)]),(419431210,triangleFour_D24),(419431212,triangleFour_D24),(419431214,triangleFour_D24),(422926469,triangleFour_D25),(422926469,triangleFour_D26),(422926471,triangleFour_D25),(422926471,triangleFour_D26),(422926469,triangleFour_D27),(422926469,triangleFour_D28),(426421732,triangleFour_D29),(426421732,triangleFour_D30),(513803230,triangleFour_D31),(513803230,triangleFour_D32),(513803233,triangleFour_D31),(513803233,triangleFour_D32),(513803234,[(0,0),(0,2),(0,4),(1,45),(1,157)]),(513803234,[(0,1),(0,3),(0,5),(1,45),(1,157)]),(419431200,triangleFour_D24),(447393278,[(0,0),(0,0),(0,0),(0,0),(0,0),(0,0),(0,1),(0,1),(0,1),(0,1),(0,1),(0,1),(0,2),(0,2),(0,2),(0,2),(0,2),(0,2),(0,3),(0,3),(0,3),(0,3),(0,3),(0,3),(0,4),(0,4),(0,4),(0,4),(0,5),(0,5),(0,5),(0,5),(1,45),(1,45),(1,45),(1,45)]),(209715606,triangleFour_D23),(447393279,[(0,0),(0,0),(0,0),(0,0),(0,1),(0,1),(0,1),(0,1),(0,2),(0,2),(0,2),(0,2),(0,3),(0,3),(0,3),(0,3),(0,4),(0,4),(0,5),(0,5),(1,45),(1,45),(1,174)]),(447393280,[(0,0),(0,0),(0,0),(0,0),(0,1),(0,1),(0,1),(0,1),(0,2),(0,2),(0,2),(0,2),(0,3),(0,3),(0,3),(0,3),(0,4),(0,4),(0,5),(0,5),(1,45),(1,45),(1,122),(1,174)]),(188744044,triangleFour_D21),(188744044,triangleFour_D22),(209715600,triangleFour_D23),(188744044,triangleFour_D21),(188744044,triangleFour_D22),(209715600,triangleFour_D23),(209715600,triangleFour_D23),(209715602,triangleFour_D23),(209715604,triangleFour_D23),(209715602,triangleFour_D23),(209715604,triangleFour_D23),(419431208,triangleFour_D24),(209715600,triangleFour_D23),(209715602,triangleFour_D23),(209715604,triangleFour_D23),(209715602,triangleFour_D23),(209715604,triangleFour_D23),(419431208,triangleFour_D24),(209715602,triangleFour_D23),(209715604,triangleFour_D23),(209715602,triangleFour_D23),(209715604,triangleFour_D23),(419431208,triangleFour_D24),(419431210,triangleFour_D24),(419431212,triangleFour_D24),(422926467,triangleFour_D25),(422926467,triangleFour_D26),(422926469,triangleFour_D25),(422926469,triangleFour_D26),(513803228,triangleFour_D31),(513803228,triangleFour_D32),(513803230,triangleFour_D31),(513803230,triangleFour_D32),(422926467,triangleFour_D35),(422926467,triangleFour_D36),(513803232,triangleFour_D31),(513803232,triangleFour_D32),(513803233,triangleFour_D37),(513803233,triangleFour_D38),(513803235,triangleFour_D37),(513803235,triangleFour_D38),(419431204,triangleFour_D24),(419431210,triangleFour_D24),(237677682,triangleFour_D39),(419431210,triangleFour_D24),(419431204,triangleFour_D24),(419431210,triangleFour_D24),(419431212,triangleFour_D24),(419431214,triangleFour_D24),(422926469,triangleFour_D25),(422926469,triangleFour_D26),(422926471,triangleFour_D25),(422926471,triangleFour_D26),(513803230,triangleFour_D31),(513803230,triangleFour_D32),(513803232,triangleFour_D31),(513803232,triangleFour_D32),(422926469,triangleFour_D35),(422926469,triangleFour_D36),(513803234,triangleFour_D31),(513803234,triangleFour_D32),(513803235,[(0,0),(0,2),(0,4),(1,45),(1,225)]),(513803235,[(0,1),(0,3),(0,5),(1,45),(1,225)]),(237677678,triangleFour_D39),(447393278,[(0,0),(0,0),(0,0),(0,0),(0,0),(0,0),(0,1),(0,1),(0,1),(0,1),(0,1),(0,1),(0,2),(0,2),(0,2),(0,2),(0,3),(0,3),(0,3),(0,3),(0,4),(0,4),(0,4),(0,4),(0,4),(0,4),(0,5),(0,5),(0,5),(0,5),(0,5),(0,5),(1,45),(1,45),(1,45),(1,45)]),(209715606,triangleFour_D23),(447393279,[(0,0),(0,0),(0,0),(0,0),(0,1),(0,1),(0,1),(0,1),(0,2),(0,2),(0,3),(0,3),(0,4),(0,4),(0,4),(0,4),(0,5),(0,5),(0,5),(0,5),(1,45),(1,45),(1,242)]),(447393280,[(0,0),(0,0),(0,0),(0,0),(0,1),(0,1),(0,1),(0,1),(0,2),(0,2),(0,3),(0,3),(0,4),(0,4),(0,4),(0,4),(0,5),(0,5),(0,5),(0,5),(1,45),(1,45),(1,122),(1,242)]),(94372022,triangleFour_D17),(94372022,triangleFour_D18),(188744044,triangleFour_D21),(188744044,triangleFour_D22),(209715600,triangleFour_D23),(188744044,triangleFour_D21),(188744044,triangleFour_D22),(209715600,triangleFour_D23),(209715600,triangleFour_D23),(209715602,triangleFour_D23),(209715604,triangleFour_D23),(209715600,triangleFour_D23),(209715602,triangleFour_D23),(209715604,triangleFour_D23),(419431208,triangleFour_D24),(209715602,triangleFour_D23),(209715604,triangleFour_D23),(209715602,triangleFour_D23),(209715604,triangleFour_D23),(419431208,triangleFour_D24),(209715602,triangleFour_D23),(209715604,triangleFour_D23),(209715602,triangleFour_D23),(209715604,triangleFour_D23),(419431208,triangleFour_D24),(419431210,triangleFour_D24),(419431212,triangleFour_D24),(513803228,triangleFour_D31),(513803228,triangleFour_D32),(513803230,triangleFour_D31),(513803230,triangleFour_D32),(422926467,triangleFour_D27),(422926467,triangleFour_D28),(513803232,triangleFour_D31),(513803232,triangleFour_D32),(422926467,triangleFour_D35),(422926467,triangleFour_D36),(513803234,triangleFour_D31),(513803234,triangleFour_D32),(513803235,triangleFour_D40),(513803235,triangleFour_D41),(513803237,triangleFour_D40),(513803237,triangleFour_D41),(237677682,triangleFour_D42),(419431210,triangleFour_D24),(419431204,triangleFour_D24),(419431210,triangleFour_D24),(419431204,triangleFour_D24),(419431210,triangleFour_D24),(419431212,triangleFour_D24),(419431214,triangleFour_D24),(513803230,triangleFour_D31),(513803230,triangleFour_D32),(513803232,triangleFour_D31),(513803232,triangleFour_D32),(422926469,triangleFour_D27),(422926469,triangleFour_D28),(513803234,triangleFour_D31),(513803234,triangleFour_D32),(422926469,triangleFour_D35),(422926469,triangleFour_D36),(513803236,triangleFour_D31),(513803236,triangleFour_D32),(513803237,[(0,0),(0,2),(0,4),(1,45),(1,295)]),(513803237,[(0,1),(0,3),(0,5),(1,45),(1,295)]),(237677678,triangleFour_D42),(447393278,[(0,0),(0,0),(0,0),(0,0),(0,1),(0,1),(0,1),(0,1),(0,2),(0,2),(0,2),(0,2),(0,2),(0,2),(0,3),(0,3),(0,3),(0,3),(0,3),(0,3),(0,4),(0,4),(0,4),(0,4),(0,4),(0,4),(0,5),(0,5),(0,5),(0,5),(0,5),(0,5),(1,45),(1,45),(1,45),(1,45)]),(377488092,[(0,0),(0,0),(0,1),(0,1),(0,2),(0,2),(0,3),(0,3),(0,4),(0,4),(0,5),(0,5),(1,45),(1,45),(1,45),(1,45)]),(447393279,[(0,0),(0,0),(0,1),(0,1),(0,2),(0,2),(0,2),(0,2),(0,3),(0,3),(0,3),(0,3),(0,4),(0,4),(0,4),(0,4),(0,5),(0,5),(0,5),(0,5),(1,312)]),(447393280,[(0,0),(0,0),(0,1),(0,1),(0,2),(0,2),(0,2),(0,2),(0,3),(0,3),(0,3),(0,3),(0,4),(0,4),(0,4),(0,4),(0,5),(0,5),(0,5),(0,5),(1,122),(1,312)])]
abbrev triangleFour_Q (q : Nat→Rat) (σ : Nat→ByteArray) : Prop := ∀ (a : Nat) nd,triangleFour_N[a]? = some nd→q a=valN σ q nd
variable {q : Nat→Rat} {σ : Nat→ByteArray}
theorem triangleFour_wf : wfB 0 triangleFour_N=true := by kernel_rfl
theorem triangleFour_sz : saB triangleFour_E 0 triangleFour_N triangleFour_E triangleFour_Z=true := by kernel_rfl
theorem triangleFour_lt : litB triangleFour_N triangleFour_L=true := by kernel_rfl
theorem triangleFour_cn : canB triangleFour_N triangleFour_C=true := by kernel_rfl
theorem triangleFour_c48 : cst 0 0 1=(0 : Rat) := by decide +kernel
theorem triangleFour_c121 : cst 0 4 1=(4 : Rat) := by decide +kernel
theorem triangleFour_c122 : cst 0 16 1=(16 : Rat) := by decide +kernel
def triangleFour_A : List AV := [(false,[(true,[.inr (2,0,0,0,0),.inr (2,1,0,0,0),.inr (2,2,0,0,0),.inr (2,3,0,0,0),.inr (2,4,0,0,0),.inr (2,5,0,0,0)])])]
theorem oc_w {p1 p2 q1 q2 r1 r2 A B C D : Rat} (hA : A=(r1 - q1)*(r1 - q1)+(r2 - q2)*(r2 - q2)) (hB : B=(p1 - r1)*(p1 - r1)+(p2 - r2)*(p2 - r2)) (hC : C=(q1 - p1)*(q1 - p1)+(q2 - p2)*(q2 - p2)) (hD : D=(q1 - p1)*(r2 - p2) - (q2 - p2)*(r1 - p1)) : 2*A*B+2*A*C+2*B*C - A*A - B*B - C*C=4*(D*D) := by
 have e : r1 - q1=(r1 - p1) - (q1 - p1)∧r2 - q2=(r2 - p2) - (q2 - p2)∧p1 - r1=-(r1 - p1)∧p2 - r2=-(r2 - p2) := by
  clear hA hB hC hD
  refine ⟨?_,?_,?_,?_⟩ <;> grind
 rw [e.1,e.2.1] at hA
 rw [e.2.2.1,e.2.2.2] at hB
 clear e
 generalize q1 - p1=u at *
 generalize q2 - p2=v at *
 generalize r1 - p1=x at *
 generalize r2 - p2=y at *
 subst hA hB hC hD
 grind
theorem oc_1 (A B C : Rat) : (A+B+-C)*(A+C+-B)+(B+C+-A)*(B+A+-C)+(C+A+-B)*(C+B+-A)=2*A*B+2*A*C+2*B*C - A*A - B*B - C*C := by grind
theorem oc_2 (A B C : Rat) : 2*(A*(B+C+-A)+(A+B+-C)*(A+C+-B))=(2*A*B+2*A*C+2*B*C - A*A - B*B - C*C)+(A+B+-C)*(A+C+-B) := by grind
theorem oc_h {p1 p2 q1 q2 r1 r2 A B C D X Y : Rat} (hA : A=(r1 - q1)*(r1 - q1)+(r2 - q2)*(r2 - q2)) (hB : B=(p1 - r1)*(p1 - r1)+(p2 - r2)*(p2 - r2)) (hC : C=(q1 - p1)*(q1 - p1)+(q2 - p2)*(q2 - p2)) (h0 : D ≠ 0) {a b c : Rat} (ha : a=(A+B+-C)*(A+C+-B)) (hb : b=(B+C+-A)*(B+A+-C)) (hc : c=(C+A+-B)*(C+B+-A)) (hW : a+b+c=4*(D*D)) (hX : X*(a+b+c)=p1*a+q1*b+r1*c) (hY : Y*(a+b+c)=p2*a+q2*b+r2*c) : (X - p1)*(r1 - q1)+(Y - p2)*(r2 - q2)=0∧(X - q1)*(p1 - r1)+(Y - q2)*(p2 - r2)=0 := by
 have n0 : a+b+c ≠ 0 := by rw [hW]; exact mul_ne (by decide) (mul_ne h0 h0)
 clear hW
 have k1 : ((X - p1)*(r1 - q1)+(Y - p2)*(r2 - q2))*(a+b+c)=((q1 - p1)*(r1 - q1)+(q2 - p2)*(r2 - q2))*b+((r1 - p1)*(r1 - q1)+(r2 - p2)*(r2 - q2))*c := by
  have : ((X - p1)*(r1 - q1)+(Y - p2)*(r2 - q2))*(a+b+c)=(X*(a+b+c))*(r1 - q1)+(Y*(a+b+c))*(r2 - q2) - (p1*(r1 - q1)+p2*(r2 - q2))*(a+b+c) := by clear hX hY hA hB hC ha hb hc; grind
  rw [this,hX,hY]; clear hX hY hA hB hC ha hb hc this; grind
 have k2 : ((X - q1)*(p1 - r1)+(Y - q2)*(p2 - r2))*(a+b+c)=((p1 - q1)*(p1 - r1)+(p2 - q2)*(p2 - r2))*a+((r1 - q1)*(p1 - r1)+(r2 - q2)*(p2 - r2))*c := by
  have : ((X - q1)*(p1 - r1)+(Y - q2)*(p2 - r2))*(a+b+c)=(X*(a+b+c))*(p1 - r1)+(Y*(a+b+c))*(p2 - r2) - (q1*(p1 - r1)+q2*(p2 - r2))*(a+b+c) := by clear hX hY hA hB hC ha hb hc k1; grind
  rw [this,hX,hY]; clear hX hY hA hB hC ha hb hc this k1; grind
 have d1 : B+C+-A=2*((q1 - p1)*(r1 - p1)+(q2 - p2)*(r2 - p2)) := by rw [hA,hB,hC]; clear hX hY hA hB hC ha hb hc k1 k2; grind
 have d2 : B+A+-C=2*((r1 - p1)*(r1 - q1)+(r2 - p2)*(r2 - q2)) := by rw [hA,hB,hC]; clear hX hY hA hB hC ha hb hc k1 k2 d1; grind
 have d3 : C+A+-B=-(2*((q1 - p1)*(r1 - q1)+(q2 - p2)*(r2 - q2))) := by rw [hA,hB,hC]; clear hX hY hA hB hC ha hb hc k1 k2 d1 d2; grind
 have d4 : A+B+-C=B+A+-C := by rw [Rat.add_comm A B]
 have d5 : A+C+-B=C+A+-B := by rw [Rat.add_comm A C]
 have d6 : C+B+-A=B+C+-A := by rw [Rat.add_comm C B]
 rw [d4,d5,d2,d3] at ha
 rw [d1,d2] at hb
 rw [d3,d6,d1] at hc
 clear d1 d2 d3 d4 d5 d6 hA hB hC hX hY
 constructor
 ·refine (Rat.mul_eq_zero.1 (k1.trans ?_)).resolve_right n0
  rw [hb,hc]; clear k1 k2 n0 ha hb hc; grind
 ·refine (Rat.mul_eq_zero.1 (k2.trans ?_)).resolve_right n0
  rw [ha,hc]; clear k1 k2 n0 ha hb hc; grind
theorem oc_u {p1 p2 q1 q2 r1 r2 D X Y S T : Rat} (hD : D=(q1 - p1)*(r2 - p2) - (q2 - p2)*(r1 - p1)) (h0 : D ≠ 0) (h1 : (X - p1)*(r1 - q1)+(Y - p2)*(r2 - q2)=0) (h2 : (X - q1)*(p1 - r1)+(Y - q2)*(p2 - r2)=0) (h3 : (S - p1)*(r1 - q1)+(T - p2)*(r2 - q2)=0) (h4 : (S - q1)*(p1 - r1)+(T - q2)*(p2 - r2)=0) : X=S∧Y=T := by
 have e1 : (X - S)*(r1 - q1)+(Y - T)*(r2 - q2)=0 := by clear hD h2 h4; grind
 have e2 : (X - S)*(p1 - r1)+(Y - T)*(p2 - r2)=0 := by clear hD h1 h3 e1; grind
 have e3 : D=(r1 - q1)*(p2 - r2) - (r2 - q2)*(p1 - r1) := by rw [hD]; clear hD h1 h2 h3 h4 e1 e2; grind
 clear h1 h2 h3 h4 hD
 have f1 : (X - S)*D=0 := by
  rw [e3]
  have : (X - S)*((r1 - q1)*(p2 - r2) - (r2 - q2)*(p1 - r1))=((X - S)*(r1 - q1)+(Y - T)*(r2 - q2))*(p2 - r2) - ((X - S)*(p1 - r1)+(Y - T)*(p2 - r2))*(r2 - q2) := by clear e1 e2 e3; grind
  rw [this,e1,e2]; clear e1 e2 e3 this; grind
 have f2 : (Y - T)*D=0 := by
  rw [e3]
  have : (Y - T)*((r1 - q1)*(p2 - r2) - (r2 - q2)*(p1 - r1))=((X - S)*(p1 - r1)+(Y - T)*(p2 - r2))*(r1 - q1) - ((X - S)*(r1 - q1)+(Y - T)*(r2 - q2))*(p1 - r1) := by clear e1 e2 e3 f1; grind
  rw [this,e1,e2]; clear e1 e2 e3 this f1; grind
 have g1 := (Rat.mul_eq_zero.1 f1).resolve_right h0
 have g2 := (Rat.mul_eq_zero.1 f2).resolve_right h0
 clear e1 e2 e3 f1 f2
 constructor <;> grind
theorem oc_n {p q r X N a b c l m n W : Rat} (h0 : W ≠ 0) (hX : X*W=p*a+q*b+r*c) (hl : 2*l=W+a) (hm : 2*m=W+b) (hn : 2*n=W+c) (hs : a+b+c=W) (hN : N*(l+m+n)=p*l+q*m+r*n) : 4*N=p+q+r+X := by
 have e1 : (4*N - (p+q+r+X))*W=0 := by
  have k1 : 2*(l+m+n)=4*W := by clear hX hN h0; grind
  have k2 : N*(2*(l+m+n))=p*(2*l)+q*(2*m)+r*(2*n) := by
   have : N*(2*(l+m+n))=2*(N*(l+m+n)) := by clear hX hN h0 k1 hl hm hn hs; grind
   rw [this,hN]; clear hX hN h0 k1 hl hm hn hs this; grind
  rw [k1,hl,hm,hn] at k2
  clear k1 hl hm hn hN hs
  grind
 have e2 := (Rat.mul_eq_zero.1 e1).resolve_right h0
 clear e1 hX hl hm hn hs hN
 grind
structure Oq (P Q R s x y z D : Rat) : Prop where
 p : x*P=-(s*(y+z))
 q : y*Q=-(s*(z+x))
 r : z*R=-(s*(x+y))
 xy : x*y=s*(s - R)
 yz : y*z=s*(s - P)
 zx : z*x=s*(s - Q)
 d : D=x+y+z
theorem oq_mk {a b c d e f s : Rat} (h1 : a*c+b*d=s) (h2 : c*e+d*f=s) (h3 : e*a+f*b=s) {P Q R x y z D : Rat} (hP : P=a*a+b*b) (hQ : Q=c*c+d*d) (hR : R=e*e+f*f) (hx : x=c*f - d*e) (hy : y=e*b - f*a) (hz : z=a*d - b*c) (hD : D=x+y+z) : Oq P Q R s x y z D := by
 refine ⟨?_,?_,?_,?_,?_,?_,hD⟩
 ·have : x*P=-((a*c+b*d)*y+(e*a+f*b)*z) := by rw [hx,hP,hy,hz]; clear h1 h2 h3 hP hQ hR hx hy hz hD; grind
  rw [this,h1,h3,Rat.mul_add]
 ·have : y*Q=-((c*e+d*f)*z+(a*c+b*d)*x) := by rw [hx,hQ,hy,hz]; clear h1 h2 h3 hP hQ hR hx hy hz hD; grind
  rw [this,h1,h2,Rat.mul_add]
 ·have : z*R=-((e*a+f*b)*x+(c*e+d*f)*y) := by rw [hx,hR,hy,hz]; clear h1 h2 h3 hP hQ hR hx hy hz hD; grind
  rw [this,h3,h2,Rat.mul_add]
 ·have : x*y=(c*e+d*f)*(e*a+f*b) - (a*c+b*d)*R := by rw [hx,hR,hy]; clear h1 h2 h3 hP hQ hR hx hy hz hD; grind
  rw [this,h1,h2,h3]; clear h1 h2 h3 hP hQ hR hx hy hz hD this; grind
 ·have : y*z=(e*a+f*b)*(a*c+b*d) - (c*e+d*f)*P := by rw [hy,hP,hz]; clear h1 h2 h3 hP hQ hR hx hy hz hD; grind
  rw [this,h1,h2,h3]; clear h1 h2 h3 hP hQ hR hx hy hz hD this; grind
 ·have : z*x=(a*c+b*d)*(c*e+d*f) - (e*a+f*b)*Q := by rw [hx,hQ,hz]; clear h1 h2 h3 hP hQ hR hx hy hz hD; grind
  rw [this,h1,h2,h3]; clear h1 h2 h3 hP hQ hR hx hy hz hD this; grind
theorem Oq.rot {P Q R s x y z D : Rat} (O : Oq P Q R s x y z D) : Oq Q R P s y z x D := ⟨O.q,O.r,O.p,O.yz,O.zx,O.xy,by rw [O.d,Rat.add_assoc,Rat.add_comm]⟩
theorem Oq.s0 {P Q R s x y z D : Rat} (O : Oq P Q R s x y z D) (hD : D ≠ 0) (hx : x=0) : s=0 := by
 have h := O.p
 rw [hx,Rat.zero_mul] at h
 have h2 : s*(y+z)=0 := by clear hD hx; grind
 rcases Rat.mul_eq_zero.1 h2 with h3 | h3
 ·exact h3
 ·exact absurd (by rw [O.d,hx]; clear h h2 hD hx; grind) hD
theorem Oq.two {P Q R s x y z D : Rat} (O : Oq P Q R s x y z D) (hD : D ≠ 0) (hx : x=0) (hy : y ≠ 0) : z=0 := by
 have h := O.yz
 rw [O.s0 hD hx,Rat.zero_mul] at h
 exact (Rat.mul_eq_zero.1 h).resolve_left hy
theorem Oq.three {P Q R s x y z D : Rat} (O : Oq P Q R s x y z D) (hD : D ≠ 0) (hy : y=0) (hx : x ≠ 0) : z=0 := by
 have h := O.zx
 rw [O.rot.s0 hD hy,Rat.zero_mul] at h
 exact (Rat.mul_eq_zero.1 h).resolve_right hx
theorem Oq.four {P Q R s x y z D : Rat} (O : Oq P Q R s x y z D) (hD : D ≠ 0) (hx : x ≠ 0) (hy : y ≠ 0) : z ≠ 0 := fun hz => by
 have h := O.xy
 rw [O.rot.rot.s0 hD hz,Rat.zero_mul] at h
 exact mul_ne hx hy h
theorem Oq.same {P Q R s x y z D : Rat} (O : Oq P Q R s x y z D) (hD : D ≠ 0) (hx : x ≠ 0) (hP : P=0→z=0∧y=0) {B C : Rat} (hB : B=P+R - 2*s) (hC : C=P+Q - 2*s) : B*C*(x*x)=Q*R*(D*D) := by
 by_cases hs : s=0
 ·have h := O.p
  rw [hs,Rat.zero_mul,show -(0 : Rat)=0 by decide +kernel] at h
  have h2 := (Rat.mul_eq_zero.1 h).resolve_left hx
  obtain ⟨hz,hy⟩ := hP h2
  rw [hB,hC,O.d,h2,hs,hz,hy]
  clear h h2 hz hy hB hC hP hs
  grind
 ·have hy : y ≠ 0 := fun h => hs (O.rot.s0 hD h)
  have hz : z ≠ 0 := fun h => hs (O.rot.rot.s0 hD h)
  have b : x*z*B=-(s*D*(x+z)) := by
   have : x*z*B=z*(x*P)+x*(z*R) - 2*s*(x*z) := by rw [hB]; clear hB hC; grind
   rw [this,O.p,O.r,O.d]; clear this hB hC hP; grind
  have c : x*y*C=-(s*D*(x+y)) := by
   have : x*y*C=y*(x*P)+x*(y*Q) - 2*s*(x*y) := by rw [hC]; clear hB hC; grind
   rw [this,O.p,O.q,O.d]; clear this hB hC hP; grind
  have e1 : (B*C*(x*x))*(y*z)=(x*z*B)*(x*y*C) := by clear b c hB hC hP; grind
  have e2 : (Q*R*(D*D))*(y*z)=(y*Q)*(z*R)*(D*D) := by clear b c hB hC hP e1; grind
  rw [b,c] at e1
  rw [O.q,O.r] at e2
  have e3 : (B*C*(x*x) - Q*R*(D*D))*(y*z)=0 := by
   rw [show (B*C*(x*x) - Q*R*(D*D))*(y*z)=(B*C*(x*x))*(y*z) - (Q*R*(D*D))*(y*z) by clear b c hB hC hP e1 e2; grind,e1,e2]
   clear b c hB hC hP e1 e2
   grind
  have e4 := (Rat.mul_eq_zero.1 e3).resolve_right (mul_ne hy hz)
  clear b c hB hC hP e1 e2 e3
  grind
theorem oq_quo {m n D x A : Rat} (hD : D ≠ 0) (hx : x ≠ 0) (h : m*(x*x)=n*(D*D)) : A*m / (D*D)=A*n / (x*x) := by
 have e1 : A*m / (D*D)*(D*D)=A*m := Rat.div_mul_cancel (mul_ne hD hD)
 have e2 : A*n / (x*x)*(x*x)=A*n := Rat.div_mul_cancel (mul_ne hx hx)
 have e3 : (A*m / (D*D) - A*n / (x*x))*((D*D)*(x*x))=(A*m / (D*D)*(D*D))*(x*x) - (A*n / (x*x)*(x*x))*(D*D) := by
  generalize A*m / (D*D)=p
  generalize A*n / (x*x)=q
  clear e1 e2 h
  grind
 rw [e1,e2] at e3
 have e4 : A*m*(x*x) - A*n*(D*D)=A*(m*(x*x) - n*(D*D)) := by clear e1 e2 e3 h; grind
 rw [e4,h,Rat.sub_self,Rat.mul_zero] at e3
 have e5 := (Rat.mul_eq_zero.1 e3).resolve_right (mul_ne (mul_ne hD hD) (mul_ne hx hx))
 clear e1 e2 e3 e4 h
 grind
theorem oc_l {A B C a b c : Rat} (ha : a=(A+B+-C)*(A+C+-B)) (hb : b=(B+C+-A)*(B+A+-C)) (hc : c=(C+A+-B)*(C+B+-A)) : 2*(A*(B+C+-A)+a)=a+b+c+a∧2*(B*(C+A+-B)+b)=a+b+c+b∧2*(C*(A+B+-C)+c)=a+b+c+c := by
 subst ha hb hc
 refine ⟨?_,?_,?_⟩ <;> grind
theorem oc_t {l m n a b c W : Rat} (hs : a+b+c=W) (hl : 2*l=W+a) (hm : 2*m=W+b) (hn : 2*n=W+c) (h0 : W ≠ 0) : l+m+n ≠ 0 := fun h => h0 (by grind)
theorem oc_g1 {x p r q y s t w : Rat} (h : (x - p)*(r - q)+(y - s)*(t - w)=0) : (p - x)*(r - q)+(s - y)*(t - w)=0 := by grind
theorem oc_g3 {x p r q y s t w : Rat} (h : (x - p)*(r - q)+(y - s)*(t - w)=0) : (q - r)*(x - p)+(w - t)*(y - s)=0 := by grind
theorem oc_g4 {x p r q y s t w : Rat} (h : (x - p)*(r - q)+(y - s)*(t - w)=0) : (r - q)*(p - x)+(t - w)*(s - y)=0 := by grind
theorem oc_o3 {x y p1 p2 q1 q2 r1 r2 : Rat} (h1 : (x - p1)*(r1 - q1)+(y - p2)*(r2 - q2)=0) (h2 : (x - q1)*(p1 - r1)+(y - q2)*(p2 - r2)=0) : (x - r1)*(q1 - p1)+(y - r2)*(q2 - p2)=0 := by grind
theorem oc_eq {N M v w : Rat} (h1 : 4*N=v) (h2 : 4*M=w) (e : v=w) : N=M := by
 rw [e,← h2] at h1
 clear h2 e
 grind
theorem oc_z {a b : Rat} (h : a*a+b*b=0) : a=0∧b=0 := Classical.byContradiction fun n => by
 have hp := sq_pos n
 rw [h] at hp
 exact absurd hp (by decide)
theorem oq_of {a b c d e f x y : Rat} (h1 : (x - a)*(e - c)+(y - b)*(f - d)=0) (h2 : (x - c)*(a - e)+(y - d)*(b - f)=0) : Oq ((a - x)*(a - x)+(b - y)*(b - y)) ((c - x)*(c - x)+(d - y)*(d - y)) ((e - x)*(e - x)+(f - y)*(f - y)) ((a - x)*(c - x)+(b - y)*(d - y)) ((c - x)*(f - y) - (d - y)*(e - x)) ((x - a)*(f - b) - (y - b)*(e - a)) ((c - a)*(y - b) - (d - b)*(x - a)) ((c - a)*(f - b) - (d - b)*(e - a)) :=
 oq_mk (a := a - x) (b := b - y) (c := c - x) (d := d - y) (e := e - x) (f := f - y) rfl (by grind) (by grind) rfl rfl rfl rfl (by clear h1 h2; grind) (by clear h1 h2; grind) (by clear h1 h2; grind)
theorem oc_e {x y : Rat} (h : x - y=0) : x=y := by grind
theorem oc_y1 (c d x y : Rat) : (c - x)*(y - y) - (d - y)*(x - x)=0 := by grind
theorem oc_y2 (e f x y : Rat) : (x - x)*(f - y) - (y - y)*(e - x)=0 := by grind
theorem oc_y4 (a b x y : Rat) : (x - a)*(y - b) - (y - b)*(x - a)=0 := by grind
theorem oc_b01 {a b c d e f x y : Rat} (h1 : (x - a)*(e - c)+(y - b)*(f - d)=0) (h2 : (x - c)*(a - e)+(y - d)*(b - f)=0) : (a - e)*(a - e)+(b - f)*(b - f)=(a - x)*(a - x)+(b - y)*(b - y)+((e - x)*(e - x)+(f - y)*(f - y)) - 2*((a - x)*(c - x)+(b - y)*(d - y)) := by
 have k1 : (a - x)*(e - x)+(b - y)*(f - y)=(a - x)*(c - x)+(b - y)*(d - y) := by clear h2; grind
 have k2 : (c - x)*(e - x)+(d - y)*(f - y)=(a - x)*(c - x)+(b - y)*(d - y) := by clear h1 k1; grind
 clear h1 h2
 grind
theorem oc_b02 {a b c d e f x y : Rat} (h1 : (x - a)*(e - c)+(y - b)*(f - d)=0) (h2 : (x - c)*(a - e)+(y - d)*(b - f)=0) : (c - a)*(c - a)+(d - b)*(d - b)=(a - x)*(a - x)+(b - y)*(b - y)+((c - x)*(c - x)+(d - y)*(d - y)) - 2*((a - x)*(c - x)+(b - y)*(d - y)) := by
 have k1 : (a - x)*(e - x)+(b - y)*(f - y)=(a - x)*(c - x)+(b - y)*(d - y) := by clear h2; grind
 have k2 : (c - x)*(e - x)+(d - y)*(f - y)=(a - x)*(c - x)+(b - y)*(d - y) := by clear h1 k1; grind
 clear h1 h2
 grind
theorem oc_b11 {a b c d e f x y : Rat} (h1 : (x - a)*(e - c)+(y - b)*(f - d)=0) (h2 : (x - c)*(a - e)+(y - d)*(b - f)=0) : (c - a)*(c - a)+(d - b)*(d - b)=(c - x)*(c - x)+(d - y)*(d - y)+((a - x)*(a - x)+(b - y)*(b - y)) - 2*((a - x)*(c - x)+(b - y)*(d - y)) := by
 have k1 : (a - x)*(e - x)+(b - y)*(f - y)=(a - x)*(c - x)+(b - y)*(d - y) := by clear h2; grind
 have k2 : (c - x)*(e - x)+(d - y)*(f - y)=(a - x)*(c - x)+(b - y)*(d - y) := by clear h1 k1; grind
 clear h1 h2
 grind
theorem oc_b12 {a b c d e f x y : Rat} (h1 : (x - a)*(e - c)+(y - b)*(f - d)=0) (h2 : (x - c)*(a - e)+(y - d)*(b - f)=0) : (e - c)*(e - c)+(f - d)*(f - d)=(c - x)*(c - x)+(d - y)*(d - y)+((e - x)*(e - x)+(f - y)*(f - y)) - 2*((a - x)*(c - x)+(b - y)*(d - y)) := by
 have k1 : (a - x)*(e - x)+(b - y)*(f - y)=(a - x)*(c - x)+(b - y)*(d - y) := by clear h2; grind
 have k2 : (c - x)*(e - x)+(d - y)*(f - y)=(a - x)*(c - x)+(b - y)*(d - y) := by clear h1 k1; grind
 clear h1 h2
 grind
theorem oc_b21 {a b c d e f x y : Rat} (h1 : (x - a)*(e - c)+(y - b)*(f - d)=0) (h2 : (x - c)*(a - e)+(y - d)*(b - f)=0) : (e - c)*(e - c)+(f - d)*(f - d)=(e - x)*(e - x)+(f - y)*(f - y)+((c - x)*(c - x)+(d - y)*(d - y)) - 2*((a - x)*(c - x)+(b - y)*(d - y)) := by
 have k1 : (a - x)*(e - x)+(b - y)*(f - y)=(a - x)*(c - x)+(b - y)*(d - y) := by clear h2; grind
 have k2 : (c - x)*(e - x)+(d - y)*(f - y)=(a - x)*(c - x)+(b - y)*(d - y) := by clear h1 k1; grind
 clear h1 h2
 grind
theorem oc_b22 {a b c d e f x y : Rat} (h1 : (x - a)*(e - c)+(y - b)*(f - d)=0) (h2 : (x - c)*(a - e)+(y - d)*(b - f)=0) : (a - e)*(a - e)+(b - f)*(b - f)=(e - x)*(e - x)+(f - y)*(f - y)+((a - x)*(a - x)+(b - y)*(b - y)) - 2*((a - x)*(c - x)+(b - y)*(d - y)) := by
 have k1 : (a - x)*(e - x)+(b - y)*(f - y)=(a - x)*(c - x)+(b - y)*(d - y) := by clear h2; grind
 have k2 : (c - x)*(e - x)+(d - y)*(f - y)=(a - x)*(c - x)+(b - y)*(d - y) := by clear h1 k1; grind
 clear h1 h2
 grind
theorem oc_a0 (A B C : Rat) : A*B*C=A*(B*C) := Rat.mul_assoc A B C
theorem oc_a1 (A B C : Rat) : A*B*C=B*(C*A) := by grind
theorem oc_a2 (A B C : Rat) : A*B*C=C*(A*B) := Rat.mul_comm _ _
theorem oc_d0 (A c d e f x y : Rat) : A*((x - e)*(x - e)+(y - f)*(y - f))*((c - x)*(c - x)+(d - y)*(d - y))=A*(((c - x)*(c - x)+(d - y)*(d - y))*((e - x)*(e - x)+(f - y)*(f - y))) := by grind
theorem oc_d1 (B a b e f x y : Rat) : ((e - x)*(e - x)+(f - y)*(f - y))*B*((x - a)*(x - a)+(y - b)*(y - b))=B*(((e - x)*(e - x)+(f - y)*(f - y))*((a - x)*(a - x)+(b - y)*(b - y))) := by grind
theorem oc_d2 (C a b c d x y : Rat) : ((x - c)*(x - c)+(y - d)*(y - d))*((a - x)*(a - x)+(b - y)*(b - y))*C=C*(((a - x)*(a - x)+(b - y)*(b - y))*((c - x)*(c - x)+(d - y)*(d - y))) := by grind
theorem oc_p0 (a b c h : Rat) : a+b+c+h=h+b+c+a := by grind
theorem oc_p1 (a b c h : Rat) : a+b+c+h=a+h+c+b := by grind
theorem oc_p2 (a b c h : Rat) : a+b+c+h=a+b+h+c := by grind
theorem triangleFour_U0 {z0 z1 z2 z3 z4 z5 z6 z7 z8 z9 z10 z11 z12 z13 z14 z15 z16 z17 z18 z19 z20 z21 z22 z23 z24 z25 z26 z27 z28 z29 z30 z31 z32 z33 z34 z35 z36 z37 z38 z39 z40 z41 z42 z43 z44 z45 z46 z47 z48 z49 z50 z51 z52 z53 z54 z55 z56 z57 z58 z59 z60 z61 z62 z63 z64 z65 z66 z67 z68 z69 z70 z71 z72 z73 z74 z75 z122 z123 z124 z125 z126 z127 z128 z129 z130 z131 z132 z133 z134 z135 z136 z137 z138 z139 z140 z141 z142 z143 z144 z145 z146 z147 z148 z149 z245 z246 z247 z248 z249 z250 z251 z252 z253 z254 z255 z256 z257 z258 z259 z260 z261 z262 z263 z264 z265 z266 z267 z268 z269 z270 z271 z272 z273 z274 z275 z276 z277 z278 z279 z280 z281 z282 z283 z284 z285 z286 z287 z288 z289 z290 z291 z292 z293 z294 z295 z296 z297 z298 z299 z300 z301 z302 z303 z304 z305 z306 z307 z308 z309 z310 z311 z312 z313 z314 : Rat} : z6=z2-z0→z7=z3-z1→z8=z4-z0→z9=z5-z1→z10=z6*z9→z11=z7*z8→z12=z10-z11→z13=z4-z2→z14=z5-z3→z15=z13*z13→z16=z14*z14→z17=z15+z16→z18=z0-z4→z19=z1-z5→z20=z18*z18→z21=z19*z19→z22=z20+z21→z23=z6*z6→z24=z7*z7→z25=z23+z24→z26=-z25→z27=z17+z22→z28=z27+z26→z29=-z22→z30=z17+z25→z31=z30+z29→z32=z28*z31→z33=-z17→z34=z22+z25→z35=z34+z33→z36=z22+z17→z37=z36+z26→z38=z35*z37→z39=z25+z17→z40=z39+z29→z41=z25+z22→z42=z41+z33→z43=z40*z42→z44=z32+z38→z45=z44+z43→z46=z0*z32→z47=z1*z32→z48=0→z49=z48+z46→z50=z48+z47→z51=z2*z38→z52=z3*z38→z53=z49+z51→z54=z50+z52→z55=z4*z43→z56=z5*z43→z57=z53+z55→z58=z54+z56→z59=z57/z45→z60=z58/z45→z61=z2-z59→z62=z3-z60→z63=z4-z59→z64=z5-z60→z65=z61*z64→z66=z62*z63→z67=z65-z66→z68=z59-z0→z69=z60-z1→z70=z68*z9→z71=z69*z8→z72=z70-z71→z73=z6*z69→z74=z7*z68→z75=z73-z74→z122=16→z123=z17*z35→z124=z123+z32→z125=z22*z40→z126=z125+z38→z127=z25*z28→z128=z127+z43→z129=z124+z126→z130=z129+z128→z131=z0*z124→z132=z1*z124→z133=z48+z131→z134=z48+z132→z135=z2*z126→z136=z3*z126→z137=z133+z135→z138=z134+z136→z139=z4*z128→z140=z5*z128→z141=z137+z139→z142=z138+z140→z143=z141/z130→z144=z142/z130→z145=z17*z22→z146=z145*z25→z147=z12*z12→z148=z146/z147→z149=z148/z122→z245=z59-z4→z246=z60-z5→z247=z245*z245→z248=z246*z246→z249=z247+z248→z250=z61*z61→z251=z62*z62→z252=z250+z251→z253=-z252→z254=z17+z249→z255=z254+z253→z256=-z249→z257=z17+z252→z258=z257+z256→z259=z255*z258→z260=z249+z252→z261=z260+z33→z262=z249+z17→z263=z262+z253→z264=z261*z263→z265=z252+z17→z266=z265+z256→z267=z252+z249→z268=z267+z33→z269=z266*z268→z270=z259+z264→z271=z270+z269→z272=z59*z259→z273=z60*z259→z274=z48+z272→z275=z48+z273→z276=z2*z264→z277=z3*z264→z278=z274+z276→z279=z275+z277→z280=z4*z269→z281=z5*z269→z282=z278+z280→z283=z279+z281→z284=z282/z271→z285=z283/z271→z286=z284-z0→z287=z285-z1→z288=z17*z261→z289=z288+z259→z290=z249*z266→z291=z290+z264→z292=z252*z255→z293=z292+z269→z294=z289+z291→z295=z294+z293→z296=z59*z289→z297=z60*z289→z298=z48+z296→z299=z48+z297→z300=z2*z291→z301=z3*z291→z302=z298+z300→z303=z299+z301→z304=z4*z293→z305=z5*z293→z306=z302+z304→z307=z303+z305→z308=z306/z295→z309=z307/z295→z310=z17*z249→z311=z310*z252→z312=z67*z67→z313=z311/z312→z314=z313/z122→¬ (z12=0)→¬ (z67=0)→((¬ (z271=0))∧(z286=0∧z287=0)∧(¬ (z130=0))∧(¬ (z295=0))∧(z143=z308)∧(z144=z309)∧(z149=z314)) := by
 intro e6 e7 e8 e9 e10 e11 e12 e13 e14 e15 e16 e17 e18 e19 e20 e21 e22 e23 e24 e25 e26 e27 e28 e29 e30 e31 e32 e33 e34 e35 e36 e37 e38 e39 e40 e41 e42 e43 e44 e45 e46 e47 e48 e49 e50 e51 e52 e53 e54 e55 e56 e57 e58 e59 e60 e61 e62 e63 e64 e65 e66 e67 e68 e69 e70 e71 e72 e73 e74 e75 e122 e123 e124 e125 e126 e127 e128 e129 e130 e131 e132 e133 e134 e135 e136 e137 e138 e139 e140 e141 e142 e143 e144 e145 e146 e147 e148 e149 e245 e246 e247 e248 e249 e250 e251 e252 e253 e254 e255 e256 e257 e258 e259 e260 e261 e262 e263 e264 e265 e266 e267 e268 e269 e270 e271 e272 e273 e274 e275 e276 e277 e278 e279 e280 e281 e282 e283 e284 e285 e286 e287 e288 e289 e290 e291 e292 e293 e294 e295 e296 e297 e298 e299 e300 e301 e302 e303 e304 e305 e306 e307 e308 e309 e310 e311 e312 e313 e314 u0 u1
 have AT : z17=(z4 - z2)*(z4 - z2)+(z5 - z3)*(z5 - z3) := by rw [e17,e16,e15,e14,e13]
 have BT : z22=(z0 - z4)*(z0 - z4)+(z1 - z5)*(z1 - z5) := by rw [e22,e21,e20,e19,e18]
 have CT : z25=(z2 - z0)*(z2 - z0)+(z3 - z1)*(z3 - z1) := by rw [e25,e24,e23,e7,e6]
 have DT : z12=(z2 - z0)*(z5 - z1) - (z3 - z1)*(z4 - z0) := by rw [e12,e11,e10,e9,e8,e7,e6]
 have aT : z32=(z17+z22+-z25)*(z17+z25+-z22) := by rw [e32,e31,e30,e29,e28,e27,e26]
 have bT : z38=(z22+z25+-z17)*(z22+z17+-z25) := by rw [e38,e37,e36,e35,e34,e33,e26]
 have cT : z43=(z25+z17+-z22)*(z25+z22+-z17) := by rw [e43,e42,e41,e40,e39,e33,e29]
 have WT : z32+z38+z43=4*(z12*z12) := by rw [aT,bT,cT,oc_1]; exact oc_w AT BT CT DT
 have nT : z32+z38+z43 ≠ 0 := by rw [WT]; exact mul_ne (by decide) (mul_ne u0 u0)
 have wT : z45=z32+z38+z43 := by rw [e45,e44]
 have X0T : z59*(z32+z38+z43)=z0*z32+z2*z38+z4*z43 := by
  have h : z59*z45=z57 := by rw [e59]; exact Rat.div_mul_cancel (by rw [wT]; exact nT)
  rw [← wT,h,e57,e55,e53,e51,e49,e48,e46,Rat.zero_add]
 have X1T : z60*(z32+z38+z43)=z1*z32+z3*z38+z5*z43 := by
  have h : z60*z45=z58 := by rw [e60]; exact Rat.div_mul_cancel (by rw [wT]; exact nT)
  rw [← wT,h,e58,e56,e54,e52,e50,e48,e47,Rat.zero_add]
 have ⟨o1,o2⟩ := oc_h AT BT CT u0 aT bT cT WT X0T X1T
 have o3 := oc_o3 o1 o2
 have AU : z17=(z4 - z2)*(z4 - z2)+(z5 - z3)*(z5 - z3) := by rw [e17,e16,e15,e14,e13]
 have BU : z249=(z59 - z4)*(z59 - z4)+(z60 - z5)*(z60 - z5) := by rw [e249,e248,e247,e246,e245]
 have CU : z252=(z2 - z59)*(z2 - z59)+(z3 - z60)*(z3 - z60) := by rw [e252,e251,e250,e62,e61]
 have DU : z67=(z2 - z59)*(z5 - z60) - (z3 - z60)*(z4 - z59) := by rw [e67,e66,e65,e64,e63,e62,e61]
 have aU : z259=(z17+z249+-z252)*(z17+z252+-z249) := by rw [e259,e258,e257,e256,e255,e254,e253]
 have bU : z264=(z249+z252+-z17)*(z249+z17+-z252) := by rw [e264,e263,e262,e261,e260,e253,e33]
 have cU : z269=(z252+z17+-z249)*(z252+z249+-z17) := by rw [e269,e268,e267,e266,e265,e256,e33]
 have WU : z259+z264+z269=4*(z67*z67) := by rw [aU,bU,cU,oc_1]; exact oc_w AU BU CU DU
 have nU : z259+z264+z269 ≠ 0 := by rw [WU]; exact mul_ne (by decide) (mul_ne u1 u1)
 have wU : z271=z259+z264+z269 := by rw [e271,e270]
 have X0U : z284*(z259+z264+z269)=z59*z259+z2*z264+z4*z269 := by
  have h : z284*z271=z282 := by rw [e284]; exact Rat.div_mul_cancel (by rw [wU]; exact nU)
  rw [← wU,h,e282,e280,e278,e276,e274,e272,e48,Rat.zero_add]
 have X1U : z285*(z259+z264+z269)=z60*z259+z3*z264+z5*z269 := by
  have h : z285*z271=z283 := by rw [e285]; exact Rat.div_mul_cancel (by rw [wU]; exact nU)
  rw [← wU,h,e283,e281,e279,e277,e275,e273,e48,Rat.zero_add]
 have ⟨v1,v2⟩ := oc_h AU BU CU u1 aU bU cU WU X0U X1U
 have ⟨x1,x2⟩ := oc_u (S := z0) (T := z1) DU u1 v1 v2 (oc_g1 o1) (oc_g3 o3)
 have ⟨l0T,m0T,r0T⟩ := oc_l aT bT cT
 have lT : 2*z124=z32+z38+z43+z32 := by
  rw [e124,e123,e35,e34,e33]
  exact l0T
 have mT : 2*z126=z32+z38+z43+z38 := by
  rw [e126,e125,e40,e39,e29]
  exact m0T
 have rT : 2*z128=z32+z38+z43+z43 := by
  rw [e128,e127,e28,e27,e26]
  exact r0T
 have tT : z130=z124+z126+z128 := by rw [e130,e129]
 have tnT : z130 ≠ 0 := by rw [tT]; exact oc_t rfl lT mT rT nT
 have N0T : 4*z143=z0+z2+z4+z59 := by
  refine oc_n nT X0T lT mT rT rfl ?_
  have h : z143*z130=z141 := by rw [e143]; exact Rat.div_mul_cancel tnT
  rw [← tT,h,e141,e139,e137,e135,e133,e131,e48,Rat.zero_add]
 have N1T : 4*z144=z1+z3+z5+z60 := by
  refine oc_n nT X1T lT mT rT rfl ?_
  have h : z144*z130=z142 := by rw [e144]; exact Rat.div_mul_cancel tnT
  rw [← tT,h,e142,e140,e138,e136,e134,e132,e48,Rat.zero_add]
 have ⟨l0U,m0U,r0U⟩ := oc_l aU bU cU
 have lU : 2*z289=z259+z264+z269+z259 := by
  rw [e289,e288,e261,e260,e33]
  exact l0U
 have mU : 2*z291=z259+z264+z269+z264 := by
  rw [e291,e290,e266,e265,e256]
  exact m0U
 have rU : 2*z293=z259+z264+z269+z269 := by
  rw [e293,e292,e255,e254,e253]
  exact r0U
 have tU : z295=z289+z291+z293 := by rw [e295,e294]
 have tnU : z295 ≠ 0 := by rw [tU]; exact oc_t rfl lU mU rU nU
 have N0U : 4*z308=z59+z2+z4+z284 := by
  refine oc_n nU X0U lU mU rU rfl ?_
  have h : z308*z295=z306 := by rw [e308]; exact Rat.div_mul_cancel tnU
  rw [← tU,h,e306,e304,e302,e300,e298,e296,e48,Rat.zero_add]
 have N1U : 4*z309=z60+z3+z5+z285 := by
  refine oc_n nU X1U lU mU rU rfl ?_
  have h : z309*z295=z307 := by rw [e309]; exact Rat.div_mul_cancel tnU
  rw [← tU,h,e307,e305,e303,e301,e299,e297,e48,Rat.zero_add]
 have O := oq_of (a := z0) (b := z1) (c := z2) (d := z3) (e := z4) (f := z5) (x := z59) (y := z60) o1 o2
 have d67 : z67=(z2 - z59)*(z5 - z60) - (z3 - z60)*(z4 - z59) := by rw [e67,e66,e65,e64,e63,e62,e61]
 have d72 : z72=(z59 - z0)*(z5 - z1) - (z60 - z1)*(z4 - z0) := by rw [e72,e71,e70,e69,e68,e9,e8]
 have d75 : z75=(z2 - z0)*(z60 - z1) - (z3 - z1)*(z59 - z0) := by rw [e75,e74,e73,e69,e68,e7,e6]
 rw [← DT] at O
 rw [← d67] at O
 have dz : (z0 - z59)*(z0 - z59)+(z1 - z60)*(z1 - z60)=0→(z2 - z0)*(z60 - z1) - (z3 - z1)*(z59 - z0)=0∧(z59 - z0)*(z5 - z1) - (z60 - z1)*(z4 - z0)=0 := fun h => by
  obtain ⟨h1,h2⟩ := oc_z h
  have g1 : z0=z59 := oc_e h1
  have g2 : z1=z60 := oc_e h2
  rw [g1,g2]
  exact ⟨oc_y1 ..,oc_y2 ..⟩
 have sB : z22=(z0 - z59)*(z0 - z59)+(z1 - z60)*(z1 - z60)+((z4 - z59)*(z4 - z59)+(z5 - z60)*(z5 - z60)) - 2*((z0 - z59)*(z2 - z59)+(z1 - z60)*(z3 - z60)) := by rw [BT]; exact oc_b01 o1 o2
 have sC : z25=(z0 - z59)*(z0 - z59)+(z1 - z60)*(z1 - z60)+((z2 - z59)*(z2 - z59)+(z3 - z60)*(z3 - z60)) - 2*((z0 - z59)*(z2 - z59)+(z1 - z60)*(z3 - z60)) := by rw [CT]; exact oc_b02 o1 o2
 have sm := O.same u0 u1 dz sB sC
 have qq := oq_quo (A := z17) u0 u1 sm
 have e1 : z146=z17*(z22*z25) := by rw [e146,e145]; exact oc_a0 ..
 have e2 : z311=z17*(((z2 - z59)*(z2 - z59)+(z3 - z60)*(z3 - z60))*((z4 - z59)*(z4 - z59)+(z5 - z60)*(z5 - z60))) := by rw [e311,e310,CU,BU]; exact oc_d0 ..
 have rr : z149=z314 := by rw [e149,e148,e147,e1,qq,e314,e313,e312,e2]
 exact ⟨(by rw [wU]; exact nU),⟨by rw [e286,x1,Rat.sub_self],by rw [e287,x2,Rat.sub_self]⟩,tnT,tnU,(oc_eq N0T N0U (by rw [x1]; exact oc_p0 ..)),(oc_eq N1T N1U (by rw [x2]; exact oc_p0 ..)),rr⟩
theorem triangleFour_U1 {z0 z1 z2 z3 z4 z5 z6 z7 z8 z9 z10 z11 z12 z13 z14 z15 z16 z17 z18 z19 z20 z21 z22 z23 z24 z25 z26 z27 z28 z29 z30 z31 z32 z33 z34 z35 z36 z37 z38 z39 z40 z41 z42 z43 z44 z45 z46 z47 z48 z49 z50 z51 z52 z53 z54 z55 z56 z57 z58 z59 z60 z61 z62 z63 z64 z65 z66 z67 z68 z69 z70 z71 z72 z73 z74 z75 z122 z123 z124 z125 z126 z127 z128 z129 z130 z131 z132 z133 z134 z135 z136 z137 z138 z139 z140 z141 z142 z143 z144 z145 z146 z147 z148 z149 z177 z178 z179 z180 z181 z182 z183 z184 z185 z186 z187 z188 z189 z190 z191 z192 z193 z194 z195 z196 z197 z198 z199 z200 z201 z202 z203 z204 z205 z206 z207 z208 z209 z210 z211 z212 z213 z214 z215 z216 z217 z218 z219 z220 z221 z222 z223 z224 z225 z226 z227 z228 z229 z230 z231 z232 z233 z234 z235 z236 z237 z238 z239 z240 z241 z242 z243 z244 : Rat} : z6=z2-z0→z7=z3-z1→z8=z4-z0→z9=z5-z1→z10=z6*z9→z11=z7*z8→z12=z10-z11→z13=z4-z2→z14=z5-z3→z15=z13*z13→z16=z14*z14→z17=z15+z16→z18=z0-z4→z19=z1-z5→z20=z18*z18→z21=z19*z19→z22=z20+z21→z23=z6*z6→z24=z7*z7→z25=z23+z24→z26=-z25→z27=z17+z22→z28=z27+z26→z29=-z22→z30=z17+z25→z31=z30+z29→z32=z28*z31→z33=-z17→z34=z22+z25→z35=z34+z33→z36=z22+z17→z37=z36+z26→z38=z35*z37→z39=z25+z17→z40=z39+z29→z41=z25+z22→z42=z41+z33→z43=z40*z42→z44=z32+z38→z45=z44+z43→z46=z0*z32→z47=z1*z32→z48=0→z49=z48+z46→z50=z48+z47→z51=z2*z38→z52=z3*z38→z53=z49+z51→z54=z50+z52→z55=z4*z43→z56=z5*z43→z57=z53+z55→z58=z54+z56→z59=z57/z45→z60=z58/z45→z61=z2-z59→z62=z3-z60→z63=z4-z59→z64=z5-z60→z65=z61*z64→z66=z62*z63→z67=z65-z66→z68=z59-z0→z69=z60-z1→z70=z68*z9→z71=z69*z8→z72=z70-z71→z73=z6*z69→z74=z7*z68→z75=z73-z74→z122=16→z123=z17*z35→z124=z123+z32→z125=z22*z40→z126=z125+z38→z127=z25*z28→z128=z127+z43→z129=z124+z126→z130=z129+z128→z131=z0*z124→z132=z1*z124→z133=z48+z131→z134=z48+z132→z135=z2*z126→z136=z3*z126→z137=z133+z135→z138=z134+z136→z139=z4*z128→z140=z5*z128→z141=z137+z139→z142=z138+z140→z143=z141/z130→z144=z142/z130→z145=z17*z22→z146=z145*z25→z147=z12*z12→z148=z146/z147→z149=z148/z122→z177=z63*z63→z178=z64*z64→z179=z177+z178→z180=z68*z68→z181=z69*z69→z182=z180+z181→z183=-z182→z184=z179+z22→z185=z184+z183→z186=z179+z182→z187=z186+z29→z188=z185*z187→z189=-z179→z190=z22+z182→z191=z190+z189→z192=z22+z179→z193=z192+z183→z194=z191*z193→z195=z182+z179→z196=z195+z29→z197=z182+z22→z198=z197+z189→z199=z196*z198→z200=z188+z194→z201=z200+z199→z202=z0*z188→z203=z1*z188→z204=z48+z202→z205=z48+z203→z206=z59*z194→z207=z60*z194→z208=z204+z206→z209=z205+z207→z210=z4*z199→z211=z5*z199→z212=z208+z210→z213=z209+z211→z214=z212/z201→z215=z213/z201→z216=z214-z2→z217=z215-z3→z218=z179*z191→z219=z218+z188→z220=z22*z196→z221=z220+z194→z222=z182*z185→z223=z222+z199→z224=z219+z221→z225=z224+z223→z226=z0*z219→z227=z1*z219→z228=z48+z226→z229=z48+z227→z230=z59*z221→z231=z60*z221→z232=z228+z230→z233=z229+z231→z234=z4*z223→z235=z5*z223→z236=z232+z234→z237=z233+z235→z238=z236/z225→z239=z237/z225→z240=z179*z22→z241=z240*z182→z242=z72*z72→z243=z241/z242→z244=z243/z122→¬ (z12=0)→¬ (z72=0)→((¬ (z201=0))∧(z216=0∧z217=0)∧(¬ (z130=0))∧(¬ (z225=0))∧(z143=z238)∧(z144=z239)∧(z149=z244)) := by
 intro e6 e7 e8 e9 e10 e11 e12 e13 e14 e15 e16 e17 e18 e19 e20 e21 e22 e23 e24 e25 e26 e27 e28 e29 e30 e31 e32 e33 e34 e35 e36 e37 e38 e39 e40 e41 e42 e43 e44 e45 e46 e47 e48 e49 e50 e51 e52 e53 e54 e55 e56 e57 e58 e59 e60 e61 e62 e63 e64 e65 e66 e67 e68 e69 e70 e71 e72 e73 e74 e75 e122 e123 e124 e125 e126 e127 e128 e129 e130 e131 e132 e133 e134 e135 e136 e137 e138 e139 e140 e141 e142 e143 e144 e145 e146 e147 e148 e149 e177 e178 e179 e180 e181 e182 e183 e184 e185 e186 e187 e188 e189 e190 e191 e192 e193 e194 e195 e196 e197 e198 e199 e200 e201 e202 e203 e204 e205 e206 e207 e208 e209 e210 e211 e212 e213 e214 e215 e216 e217 e218 e219 e220 e221 e222 e223 e224 e225 e226 e227 e228 e229 e230 e231 e232 e233 e234 e235 e236 e237 e238 e239 e240 e241 e242 e243 e244 u0 u1
 have AT : z17=(z4 - z2)*(z4 - z2)+(z5 - z3)*(z5 - z3) := by rw [e17,e16,e15,e14,e13]
 have BT : z22=(z0 - z4)*(z0 - z4)+(z1 - z5)*(z1 - z5) := by rw [e22,e21,e20,e19,e18]
 have CT : z25=(z2 - z0)*(z2 - z0)+(z3 - z1)*(z3 - z1) := by rw [e25,e24,e23,e7,e6]
 have DT : z12=(z2 - z0)*(z5 - z1) - (z3 - z1)*(z4 - z0) := by rw [e12,e11,e10,e9,e8,e7,e6]
 have aT : z32=(z17+z22+-z25)*(z17+z25+-z22) := by rw [e32,e31,e30,e29,e28,e27,e26]
 have bT : z38=(z22+z25+-z17)*(z22+z17+-z25) := by rw [e38,e37,e36,e35,e34,e33,e26]
 have cT : z43=(z25+z17+-z22)*(z25+z22+-z17) := by rw [e43,e42,e41,e40,e39,e33,e29]
 have WT : z32+z38+z43=4*(z12*z12) := by rw [aT,bT,cT,oc_1]; exact oc_w AT BT CT DT
 have nT : z32+z38+z43 ≠ 0 := by rw [WT]; exact mul_ne (by decide) (mul_ne u0 u0)
 have wT : z45=z32+z38+z43 := by rw [e45,e44]
 have X0T : z59*(z32+z38+z43)=z0*z32+z2*z38+z4*z43 := by
  have h : z59*z45=z57 := by rw [e59]; exact Rat.div_mul_cancel (by rw [wT]; exact nT)
  rw [← wT,h,e57,e55,e53,e51,e49,e48,e46,Rat.zero_add]
 have X1T : z60*(z32+z38+z43)=z1*z32+z3*z38+z5*z43 := by
  have h : z60*z45=z58 := by rw [e60]; exact Rat.div_mul_cancel (by rw [wT]; exact nT)
  rw [← wT,h,e58,e56,e54,e52,e50,e48,e47,Rat.zero_add]
 have ⟨o1,o2⟩ := oc_h AT BT CT u0 aT bT cT WT X0T X1T
 have o3 := oc_o3 o1 o2
 have AU : z179=(z4 - z59)*(z4 - z59)+(z5 - z60)*(z5 - z60) := by rw [e179,e178,e177,e64,e63]
 have BU : z22=(z0 - z4)*(z0 - z4)+(z1 - z5)*(z1 - z5) := by rw [e22,e21,e20,e19,e18]
 have CU : z182=(z59 - z0)*(z59 - z0)+(z60 - z1)*(z60 - z1) := by rw [e182,e181,e180,e69,e68]
 have DU : z72=(z59 - z0)*(z5 - z1) - (z60 - z1)*(z4 - z0) := by rw [e72,e71,e70,e69,e68,e9,e8]
 have aU : z188=(z179+z22+-z182)*(z179+z182+-z22) := by rw [e188,e187,e186,e185,e184,e183,e29]
 have bU : z194=(z22+z182+-z179)*(z22+z179+-z182) := by rw [e194,e193,e192,e191,e190,e189,e183]
 have cU : z199=(z182+z179+-z22)*(z182+z22+-z179) := by rw [e199,e198,e197,e196,e195,e189,e29]
 have WU : z188+z194+z199=4*(z72*z72) := by rw [aU,bU,cU,oc_1]; exact oc_w AU BU CU DU
 have nU : z188+z194+z199 ≠ 0 := by rw [WU]; exact mul_ne (by decide) (mul_ne u1 u1)
 have wU : z201=z188+z194+z199 := by rw [e201,e200]
 have X0U : z214*(z188+z194+z199)=z0*z188+z59*z194+z4*z199 := by
  have h : z214*z201=z212 := by rw [e214]; exact Rat.div_mul_cancel (by rw [wU]; exact nU)
  rw [← wU,h,e212,e210,e208,e206,e204,e202,e48,Rat.zero_add]
 have X1U : z215*(z188+z194+z199)=z1*z188+z60*z194+z5*z199 := by
  have h : z215*z201=z213 := by rw [e215]; exact Rat.div_mul_cancel (by rw [wU]; exact nU)
  rw [← wU,h,e213,e211,e209,e207,e205,e203,e48,Rat.zero_add]
 have ⟨v1,v2⟩ := oc_h AU BU CU u1 aU bU cU WU X0U X1U
 have ⟨x1,x2⟩ := oc_u (S := z2) (T := z3) DU u1 v1 v2 (oc_g4 o3) (oc_g1 o2)
 have ⟨l0T,m0T,r0T⟩ := oc_l aT bT cT
 have lT : 2*z124=z32+z38+z43+z32 := by
  rw [e124,e123,e35,e34,e33]
  exact l0T
 have mT : 2*z126=z32+z38+z43+z38 := by
  rw [e126,e125,e40,e39,e29]
  exact m0T
 have rT : 2*z128=z32+z38+z43+z43 := by
  rw [e128,e127,e28,e27,e26]
  exact r0T
 have tT : z130=z124+z126+z128 := by rw [e130,e129]
 have tnT : z130 ≠ 0 := by rw [tT]; exact oc_t rfl lT mT rT nT
 have N0T : 4*z143=z0+z2+z4+z59 := by
  refine oc_n nT X0T lT mT rT rfl ?_
  have h : z143*z130=z141 := by rw [e143]; exact Rat.div_mul_cancel tnT
  rw [← tT,h,e141,e139,e137,e135,e133,e131,e48,Rat.zero_add]
 have N1T : 4*z144=z1+z3+z5+z60 := by
  refine oc_n nT X1T lT mT rT rfl ?_
  have h : z144*z130=z142 := by rw [e144]; exact Rat.div_mul_cancel tnT
  rw [← tT,h,e142,e140,e138,e136,e134,e132,e48,Rat.zero_add]
 have ⟨l0U,m0U,r0U⟩ := oc_l aU bU cU
 have lU : 2*z219=z188+z194+z199+z188 := by
  rw [e219,e218,e191,e190,e189]
  exact l0U
 have mU : 2*z221=z188+z194+z199+z194 := by
  rw [e221,e220,e196,e195,e29]
  exact m0U
 have rU : 2*z223=z188+z194+z199+z199 := by
  rw [e223,e222,e185,e184,e183]
  exact r0U
 have tU : z225=z219+z221+z223 := by rw [e225,e224]
 have tnU : z225 ≠ 0 := by rw [tU]; exact oc_t rfl lU mU rU nU
 have N0U : 4*z238=z0+z59+z4+z214 := by
  refine oc_n nU X0U lU mU rU rfl ?_
  have h : z238*z225=z236 := by rw [e238]; exact Rat.div_mul_cancel tnU
  rw [← tU,h,e236,e234,e232,e230,e228,e226,e48,Rat.zero_add]
 have N1U : 4*z239=z1+z60+z5+z215 := by
  refine oc_n nU X1U lU mU rU rfl ?_
  have h : z239*z225=z237 := by rw [e239]; exact Rat.div_mul_cancel tnU
  rw [← tU,h,e237,e235,e233,e231,e229,e227,e48,Rat.zero_add]
 have O := oq_of (a := z0) (b := z1) (c := z2) (d := z3) (e := z4) (f := z5) (x := z59) (y := z60) o1 o2
 have d67 : z67=(z2 - z59)*(z5 - z60) - (z3 - z60)*(z4 - z59) := by rw [e67,e66,e65,e64,e63,e62,e61]
 have d72 : z72=(z59 - z0)*(z5 - z1) - (z60 - z1)*(z4 - z0) := by rw [e72,e71,e70,e69,e68,e9,e8]
 have d75 : z75=(z2 - z0)*(z60 - z1) - (z3 - z1)*(z59 - z0) := by rw [e75,e74,e73,e69,e68,e7,e6]
 rw [← DT] at O
 rw [← d72] at O
 have dz : (z2 - z59)*(z2 - z59)+(z3 - z60)*(z3 - z60)=0→(z2 - z59)*(z5 - z60) - (z3 - z60)*(z4 - z59)=0∧(z2 - z0)*(z60 - z1) - (z3 - z1)*(z59 - z0)=0 := fun h => by
  obtain ⟨h1,h2⟩ := oc_z h
  have g1 : z2=z59 := oc_e h1
  have g2 : z3=z60 := oc_e h2
  rw [g1,g2]
  exact ⟨oc_y2 ..,oc_y4 ..⟩
 have sB : z25=(z2 - z59)*(z2 - z59)+(z3 - z60)*(z3 - z60)+((z0 - z59)*(z0 - z59)+(z1 - z60)*(z1 - z60)) - 2*((z0 - z59)*(z2 - z59)+(z1 - z60)*(z3 - z60)) := by rw [CT]; exact oc_b11 o1 o2
 have sC : z17=(z2 - z59)*(z2 - z59)+(z3 - z60)*(z3 - z60)+((z4 - z59)*(z4 - z59)+(z5 - z60)*(z5 - z60)) - 2*((z0 - z59)*(z2 - z59)+(z1 - z60)*(z3 - z60)) := by rw [AT]; exact oc_b12 o1 o2
 have sm := O.rot.same u0 u1 dz sB sC
 have qq := oq_quo (A := z22) u0 u1 sm
 have e1 : z146=z22*(z25*z17) := by rw [e146,e145]; exact oc_a1 ..
 have e2 : z241=z22*(((z4 - z59)*(z4 - z59)+(z5 - z60)*(z5 - z60))*((z0 - z59)*(z0 - z59)+(z1 - z60)*(z1 - z60))) := by rw [e241,e240,AU,CU]; exact oc_d1 ..
 have rr : z149=z244 := by rw [e149,e148,e147,e1,qq,e244,e243,e242,e2]
 exact ⟨(by rw [wU]; exact nU),⟨by rw [e216,x1,Rat.sub_self],by rw [e217,x2,Rat.sub_self]⟩,tnT,tnU,(oc_eq N0T N0U (by rw [x1]; exact oc_p1 ..)),(oc_eq N1T N1U (by rw [x2]; exact oc_p1 ..)),rr⟩
theorem triangleFour_U2 {z0 z1 z2 z3 z4 z5 z6 z7 z8 z9 z10 z11 z12 z13 z14 z15 z16 z17 z18 z19 z20 z21 z22 z23 z24 z25 z26 z27 z28 z29 z30 z31 z32 z33 z34 z35 z36 z37 z38 z39 z40 z41 z42 z43 z44 z45 z46 z47 z48 z49 z50 z51 z52 z53 z54 z55 z56 z57 z58 z59 z60 z61 z62 z63 z64 z65 z66 z67 z68 z69 z70 z71 z72 z73 z74 z75 z76 z77 z78 z79 z80 z81 z82 z83 z84 z85 z86 z87 z88 z89 z90 z91 z92 z93 z94 z95 z96 z97 z98 z99 z100 z101 z102 z103 z104 z105 z106 z107 z108 z109 z110 z111 z112 z113 z114 z115 z116 z117 z118 z119 z120 z122 z123 z124 z125 z126 z127 z128 z129 z130 z131 z132 z133 z134 z135 z136 z137 z138 z139 z140 z141 z142 z143 z144 z145 z146 z147 z148 z149 z150 z151 z152 z153 z154 z155 z156 z157 z158 z159 z160 z161 z162 z163 z164 z165 z166 z167 z168 z169 z170 z171 z172 z173 z174 z175 z176 : Rat} : z6=z2-z0→z7=z3-z1→z8=z4-z0→z9=z5-z1→z10=z6*z9→z11=z7*z8→z12=z10-z11→z13=z4-z2→z14=z5-z3→z15=z13*z13→z16=z14*z14→z17=z15+z16→z18=z0-z4→z19=z1-z5→z20=z18*z18→z21=z19*z19→z22=z20+z21→z23=z6*z6→z24=z7*z7→z25=z23+z24→z26=-z25→z27=z17+z22→z28=z27+z26→z29=-z22→z30=z17+z25→z31=z30+z29→z32=z28*z31→z33=-z17→z34=z22+z25→z35=z34+z33→z36=z22+z17→z37=z36+z26→z38=z35*z37→z39=z25+z17→z40=z39+z29→z41=z25+z22→z42=z41+z33→z43=z40*z42→z44=z32+z38→z45=z44+z43→z46=z0*z32→z47=z1*z32→z48=0→z49=z48+z46→z50=z48+z47→z51=z2*z38→z52=z3*z38→z53=z49+z51→z54=z50+z52→z55=z4*z43→z56=z5*z43→z57=z53+z55→z58=z54+z56→z59=z57/z45→z60=z58/z45→z61=z2-z59→z62=z3-z60→z63=z4-z59→z64=z5-z60→z65=z61*z64→z66=z62*z63→z67=z65-z66→z68=z59-z0→z69=z60-z1→z70=z68*z9→z71=z69*z8→z72=z70-z71→z73=z6*z69→z74=z7*z68→z75=z73-z74→z76=z59-z2→z77=z60-z3→z78=z76*z76→z79=z77*z77→z80=z78+z79→z81=z0-z59→z82=z1-z60→z83=z81*z81→z84=z82*z82→z85=z83+z84→z86=z80+z85→z87=z86+z26→z88=-z85→z89=z80+z25→z90=z89+z88→z91=z87*z90→z92=-z80→z93=z85+z25→z94=z93+z92→z95=z85+z80→z96=z95+z26→z97=z94*z96→z98=z25+z80→z99=z98+z88→z100=z25+z85→z101=z100+z92→z102=z99*z101→z103=z91+z97→z104=z103+z102→z105=z0*z91→z106=z1*z91→z107=z48+z105→z108=z48+z106→z109=z2*z97→z110=z3*z97→z111=z107+z109→z112=z108+z110→z113=z59*z102→z114=z60*z102→z115=z111+z113→z116=z112+z114→z117=z115/z104→z118=z116/z104→z119=z117-z4→z120=z118-z5→z122=16→z123=z17*z35→z124=z123+z32→z125=z22*z40→z126=z125+z38→z127=z25*z28→z128=z127+z43→z129=z124+z126→z130=z129+z128→z131=z0*z124→z132=z1*z124→z133=z48+z131→z134=z48+z132→z135=z2*z126→z136=z3*z126→z137=z133+z135→z138=z134+z136→z139=z4*z128→z140=z5*z128→z141=z137+z139→z142=z138+z140→z143=z141/z130→z144=z142/z130→z145=z17*z22→z146=z145*z25→z147=z12*z12→z148=z146/z147→z149=z148/z122→z150=z80*z94→z151=z150+z91→z152=z85*z99→z153=z152+z97→z154=z25*z87→z155=z154+z102→z156=z151+z153→z157=z156+z155→z158=z0*z151→z159=z1*z151→z160=z48+z158→z161=z48+z159→z162=z2*z153→z163=z3*z153→z164=z160+z162→z165=z161+z163→z166=z59*z155→z167=z60*z155→z168=z164+z166→z169=z165+z167→z170=z168/z157→z171=z169/z157→z172=z80*z85→z173=z172*z25→z174=z75*z75→z175=z173/z174→z176=z175/z122→¬ (z12=0)→¬ (z75=0)→((¬ (z104=0))∧(z119=0∧z120=0)∧(¬ (z130=0))∧(¬ (z157=0))∧(z143=z170)∧(z144=z171)∧(z149=z176)) := by
 intro e6 e7 e8 e9 e10 e11 e12 e13 e14 e15 e16 e17 e18 e19 e20 e21 e22 e23 e24 e25 e26 e27 e28 e29 e30 e31 e32 e33 e34 e35 e36 e37 e38 e39 e40 e41 e42 e43 e44 e45 e46 e47 e48 e49 e50 e51 e52 e53 e54 e55 e56 e57 e58 e59 e60 e61 e62 e63 e64 e65 e66 e67 e68 e69 e70 e71 e72 e73 e74 e75 e76 e77 e78 e79 e80 e81 e82 e83 e84 e85 e86 e87 e88 e89 e90 e91 e92 e93 e94 e95 e96 e97 e98 e99 e100 e101 e102 e103 e104 e105 e106 e107 e108 e109 e110 e111 e112 e113 e114 e115 e116 e117 e118 e119 e120 e122 e123 e124 e125 e126 e127 e128 e129 e130 e131 e132 e133 e134 e135 e136 e137 e138 e139 e140 e141 e142 e143 e144 e145 e146 e147 e148 e149 e150 e151 e152 e153 e154 e155 e156 e157 e158 e159 e160 e161 e162 e163 e164 e165 e166 e167 e168 e169 e170 e171 e172 e173 e174 e175 e176 u0 u1
 have AT : z17=(z4 - z2)*(z4 - z2)+(z5 - z3)*(z5 - z3) := by rw [e17,e16,e15,e14,e13]
 have BT : z22=(z0 - z4)*(z0 - z4)+(z1 - z5)*(z1 - z5) := by rw [e22,e21,e20,e19,e18]
 have CT : z25=(z2 - z0)*(z2 - z0)+(z3 - z1)*(z3 - z1) := by rw [e25,e24,e23,e7,e6]
 have DT : z12=(z2 - z0)*(z5 - z1) - (z3 - z1)*(z4 - z0) := by rw [e12,e11,e10,e9,e8,e7,e6]
 have aT : z32=(z17+z22+-z25)*(z17+z25+-z22) := by rw [e32,e31,e30,e29,e28,e27,e26]
 have bT : z38=(z22+z25+-z17)*(z22+z17+-z25) := by rw [e38,e37,e36,e35,e34,e33,e26]
 have cT : z43=(z25+z17+-z22)*(z25+z22+-z17) := by rw [e43,e42,e41,e40,e39,e33,e29]
 have WT : z32+z38+z43=4*(z12*z12) := by rw [aT,bT,cT,oc_1]; exact oc_w AT BT CT DT
 have nT : z32+z38+z43 ≠ 0 := by rw [WT]; exact mul_ne (by decide) (mul_ne u0 u0)
 have wT : z45=z32+z38+z43 := by rw [e45,e44]
 have X0T : z59*(z32+z38+z43)=z0*z32+z2*z38+z4*z43 := by
  have h : z59*z45=z57 := by rw [e59]; exact Rat.div_mul_cancel (by rw [wT]; exact nT)
  rw [← wT,h,e57,e55,e53,e51,e49,e48,e46,Rat.zero_add]
 have X1T : z60*(z32+z38+z43)=z1*z32+z3*z38+z5*z43 := by
  have h : z60*z45=z58 := by rw [e60]; exact Rat.div_mul_cancel (by rw [wT]; exact nT)
  rw [← wT,h,e58,e56,e54,e52,e50,e48,e47,Rat.zero_add]
 have ⟨o1,o2⟩ := oc_h AT BT CT u0 aT bT cT WT X0T X1T
 have o3 := oc_o3 o1 o2
 have AU : z80=(z59 - z2)*(z59 - z2)+(z60 - z3)*(z60 - z3) := by rw [e80,e79,e78,e77,e76]
 have BU : z85=(z0 - z59)*(z0 - z59)+(z1 - z60)*(z1 - z60) := by rw [e85,e84,e83,e82,e81]
 have CU : z25=(z2 - z0)*(z2 - z0)+(z3 - z1)*(z3 - z1) := by rw [e25,e24,e23,e7,e6]
 have DU : z75=(z2 - z0)*(z60 - z1) - (z3 - z1)*(z59 - z0) := by rw [e75,e74,e73,e69,e68,e7,e6]
 have aU : z91=(z80+z85+-z25)*(z80+z25+-z85) := by rw [e91,e90,e89,e88,e87,e86,e26]
 have bU : z97=(z85+z25+-z80)*(z85+z80+-z25) := by rw [e97,e96,e95,e94,e93,e92,e26]
 have cU : z102=(z25+z80+-z85)*(z25+z85+-z80) := by rw [e102,e101,e100,e99,e98,e92,e88]
 have WU : z91+z97+z102=4*(z75*z75) := by rw [aU,bU,cU,oc_1]; exact oc_w AU BU CU DU
 have nU : z91+z97+z102 ≠ 0 := by rw [WU]; exact mul_ne (by decide) (mul_ne u1 u1)
 have wU : z104=z91+z97+z102 := by rw [e104,e103]
 have X0U : z117*(z91+z97+z102)=z0*z91+z2*z97+z59*z102 := by
  have h : z117*z104=z115 := by rw [e117]; exact Rat.div_mul_cancel (by rw [wU]; exact nU)
  rw [← wU,h,e115,e113,e111,e109,e107,e105,e48,Rat.zero_add]
 have X1U : z118*(z91+z97+z102)=z1*z91+z3*z97+z60*z102 := by
  have h : z118*z104=z116 := by rw [e118]; exact Rat.div_mul_cancel (by rw [wU]; exact nU)
  rw [← wU,h,e116,e114,e112,e110,e108,e106,e48,Rat.zero_add]
 have ⟨v1,v2⟩ := oc_h AU BU CU u1 aU bU cU WU X0U X1U
 have ⟨x1,x2⟩ := oc_u (S := z4) (T := z5) DU u1 v1 v2 (oc_g3 o2) (oc_g4 o1)
 have ⟨l0T,m0T,r0T⟩ := oc_l aT bT cT
 have lT : 2*z124=z32+z38+z43+z32 := by
  rw [e124,e123,e35,e34,e33]
  exact l0T
 have mT : 2*z126=z32+z38+z43+z38 := by
  rw [e126,e125,e40,e39,e29]
  exact m0T
 have rT : 2*z128=z32+z38+z43+z43 := by
  rw [e128,e127,e28,e27,e26]
  exact r0T
 have tT : z130=z124+z126+z128 := by rw [e130,e129]
 have tnT : z130 ≠ 0 := by rw [tT]; exact oc_t rfl lT mT rT nT
 have N0T : 4*z143=z0+z2+z4+z59 := by
  refine oc_n nT X0T lT mT rT rfl ?_
  have h : z143*z130=z141 := by rw [e143]; exact Rat.div_mul_cancel tnT
  rw [← tT,h,e141,e139,e137,e135,e133,e131,e48,Rat.zero_add]
 have N1T : 4*z144=z1+z3+z5+z60 := by
  refine oc_n nT X1T lT mT rT rfl ?_
  have h : z144*z130=z142 := by rw [e144]; exact Rat.div_mul_cancel tnT
  rw [← tT,h,e142,e140,e138,e136,e134,e132,e48,Rat.zero_add]
 have ⟨l0U,m0U,r0U⟩ := oc_l aU bU cU
 have lU : 2*z151=z91+z97+z102+z91 := by
  rw [e151,e150,e94,e93,e92]
  exact l0U
 have mU : 2*z153=z91+z97+z102+z97 := by
  rw [e153,e152,e99,e98,e88]
  exact m0U
 have rU : 2*z155=z91+z97+z102+z102 := by
  rw [e155,e154,e87,e86,e26]
  exact r0U
 have tU : z157=z151+z153+z155 := by rw [e157,e156]
 have tnU : z157 ≠ 0 := by rw [tU]; exact oc_t rfl lU mU rU nU
 have N0U : 4*z170=z0+z2+z59+z117 := by
  refine oc_n nU X0U lU mU rU rfl ?_
  have h : z170*z157=z168 := by rw [e170]; exact Rat.div_mul_cancel tnU
  rw [← tU,h,e168,e166,e164,e162,e160,e158,e48,Rat.zero_add]
 have N1U : 4*z171=z1+z3+z60+z118 := by
  refine oc_n nU X1U lU mU rU rfl ?_
  have h : z171*z157=z169 := by rw [e171]; exact Rat.div_mul_cancel tnU
  rw [← tU,h,e169,e167,e165,e163,e161,e159,e48,Rat.zero_add]
 have O := oq_of (a := z0) (b := z1) (c := z2) (d := z3) (e := z4) (f := z5) (x := z59) (y := z60) o1 o2
 have d67 : z67=(z2 - z59)*(z5 - z60) - (z3 - z60)*(z4 - z59) := by rw [e67,e66,e65,e64,e63,e62,e61]
 have d72 : z72=(z59 - z0)*(z5 - z1) - (z60 - z1)*(z4 - z0) := by rw [e72,e71,e70,e69,e68,e9,e8]
 have d75 : z75=(z2 - z0)*(z60 - z1) - (z3 - z1)*(z59 - z0) := by rw [e75,e74,e73,e69,e68,e7,e6]
 rw [← DT] at O
 rw [← d75] at O
 have dz : (z4 - z59)*(z4 - z59)+(z5 - z60)*(z5 - z60)=0→(z59 - z0)*(z5 - z1) - (z60 - z1)*(z4 - z0)=0∧(z2 - z59)*(z5 - z60) - (z3 - z60)*(z4 - z59)=0 := fun h => by
  obtain ⟨h1,h2⟩ := oc_z h
  have g1 : z4=z59 := oc_e h1
  have g2 : z5=z60 := oc_e h2
  rw [g1,g2]
  exact ⟨oc_y4 ..,oc_y1 ..⟩
 have sB : z17=(z4 - z59)*(z4 - z59)+(z5 - z60)*(z5 - z60)+((z2 - z59)*(z2 - z59)+(z3 - z60)*(z3 - z60)) - 2*((z0 - z59)*(z2 - z59)+(z1 - z60)*(z3 - z60)) := by rw [AT]; exact oc_b21 o1 o2
 have sC : z22=(z4 - z59)*(z4 - z59)+(z5 - z60)*(z5 - z60)+((z0 - z59)*(z0 - z59)+(z1 - z60)*(z1 - z60)) - 2*((z0 - z59)*(z2 - z59)+(z1 - z60)*(z3 - z60)) := by rw [BT]; exact oc_b22 o1 o2
 have sm := O.rot.rot.same u0 u1 dz sB sC
 have qq := oq_quo (A := z25) u0 u1 sm
 have e1 : z146=z25*(z17*z22) := by rw [e146,e145]; exact oc_a2 ..
 have e2 : z173=z25*(((z0 - z59)*(z0 - z59)+(z1 - z60)*(z1 - z60))*((z2 - z59)*(z2 - z59)+(z3 - z60)*(z3 - z60))) := by rw [e173,e172,BU,AU]; exact oc_d2 ..
 have rr : z149=z176 := by rw [e149,e148,e147,e1,qq,e176,e175,e174,e2]
 exact ⟨(by rw [wU]; exact nU),⟨by rw [e119,x1,Rat.sub_self],by rw [e120,x2,Rat.sub_self]⟩,tnT,tnU,(oc_eq N0T N0U (by rw [x1]; exact oc_p2 ..)),(oc_eq N1T N1U (by rw [x2]; exact oc_p2 ..)),rr⟩
theorem triangleFour_H {z0 z1 z2 z3 z4 z5 z6 z7 z8 z9 z10 z11 z12 z13 z14 z15 z16 z17 z18 z19 z20 z21 z22 z23 z24 z25 z26 z27 z28 z29 z30 z31 z32 z33 z34 z35 z36 z37 z38 z39 z40 z41 z42 z43 z44 z45 z46 z47 z48 z49 z50 z51 z52 z53 z54 z55 z56 z57 z58 z59 z60 : Rat} : z6=z2-z0→z7=z3-z1→z8=z4-z0→z9=z5-z1→z10=z6*z9→z11=z7*z8→z12=z10-z11→z13=z4-z2→z14=z5-z3→z15=z13*z13→z16=z14*z14→z17=z15+z16→z18=z0-z4→z19=z1-z5→z20=z18*z18→z21=z19*z19→z22=z20+z21→z23=z6*z6→z24=z7*z7→z25=z23+z24→z26=-z25→z27=z17+z22→z28=z27+z26→z29=-z22→z30=z17+z25→z31=z30+z29→z32=z28*z31→z33=-z17→z34=z22+z25→z35=z34+z33→z36=z22+z17→z37=z36+z26→z38=z35*z37→z39=z25+z17→z40=z39+z29→z41=z25+z22→z42=z41+z33→z43=z40*z42→z44=z32+z38→z45=z44+z43→z46=z0*z32→z47=z1*z32→z48=0→z49=z48+z46→z50=z48+z47→z51=z2*z38→z52=z3*z38→z53=z49+z51→z54=z50+z52→z55=z4*z43→z56=z5*z43→z57=z53+z55→z58=z54+z56→z59=z57/z45→z60=z58/z45→¬ (z12=0)→((z59-z0)*(z4-z2)+(z60-z1)*(z5-z3)=0∧(z59-z2)*(z0-z4)+(z60-z3)*(z1-z5)=0) := by
 intro e6 e7 e8 e9 e10 e11 e12 e13 e14 e15 e16 e17 e18 e19 e20 e21 e22 e23 e24 e25 e26 e27 e28 e29 e30 e31 e32 e33 e34 e35 e36 e37 e38 e39 e40 e41 e42 e43 e44 e45 e46 e47 e48 e49 e50 e51 e52 e53 e54 e55 e56 e57 e58 e59 e60 u0
 have AT : z17=(z4 - z2)*(z4 - z2)+(z5 - z3)*(z5 - z3) := by rw [e17,e16,e15,e14,e13]
 have BT : z22=(z0 - z4)*(z0 - z4)+(z1 - z5)*(z1 - z5) := by rw [e22,e21,e20,e19,e18]
 have CT : z25=(z2 - z0)*(z2 - z0)+(z3 - z1)*(z3 - z1) := by rw [e25,e24,e23,e7,e6]
 have DT : z12=(z2 - z0)*(z5 - z1) - (z3 - z1)*(z4 - z0) := by rw [e12,e11,e10,e9,e8,e7,e6]
 have aT : z32=(z17+z22+-z25)*(z17+z25+-z22) := by rw [e32,e31,e30,e29,e28,e27,e26]
 have bT : z38=(z22+z25+-z17)*(z22+z17+-z25) := by rw [e38,e37,e36,e35,e34,e33,e26]
 have cT : z43=(z25+z17+-z22)*(z25+z22+-z17) := by rw [e43,e42,e41,e40,e39,e33,e29]
 have WT : z32+z38+z43=4*(z12*z12) := by rw [aT,bT,cT,oc_1]; exact oc_w AT BT CT DT
 have nT : z32+z38+z43 ≠ 0 := by rw [WT]; exact mul_ne (by decide) (mul_ne u0 u0)
 have wT : z45=z32+z38+z43 := by rw [e45,e44]
 have X0T : z59*(z32+z38+z43)=z0*z32+z2*z38+z4*z43 := by
  have h : z59*z45=z57 := by rw [e59]; exact Rat.div_mul_cancel (by rw [wT]; exact nT)
  rw [← wT,h,e57,e55,e53,e51,e49,e48,e46,Rat.zero_add]
 have X1T : z60*(z32+z38+z43)=z1*z32+z3*z38+z5*z43 := by
  have h : z60*z45=z58 := by rw [e60]; exact Rat.div_mul_cancel (by rw [wT]; exact nT)
  rw [← wT,h,e58,e56,e54,e52,e50,e48,e47,Rat.zero_add]
 exact oc_h AT BT CT u0 aT bT cT WT X0T X1T
theorem triangleFour_f1 {z0 z1 z2 z3 z4 z5 z6 z7 z8 z9 z10 z11 z12 z13 z14 z15 z16 z17 z18 z19 z20 z21 z22 z23 z24 z25 z26 z27 z28 z29 z30 z31 z32 z33 z34 z35 z36 z37 z38 z39 z40 z41 z42 z43 z44 z45 : Rat} : z6=z2-z0→z7=z3-z1→z8=z4-z0→z9=z5-z1→z10=z6*z9→z11=z7*z8→z12=z10-z11→z13=z4-z2→z14=z5-z3→z15=z13*z13→z16=z14*z14→z17=z15+z16→z18=z0-z4→z19=z1-z5→z20=z18*z18→z21=z19*z19→z22=z20+z21→z23=z6*z6→z24=z7*z7→z25=z23+z24→z26=-z25→z27=z17+z22→z28=z27+z26→z29=-z22→z30=z17+z25→z31=z30+z29→z32=z28*z31→z33=-z17→z34=z22+z25→z35=z34+z33→z36=z22+z17→z37=z36+z26→z38=z35*z37→z39=z25+z17→z40=z39+z29→z41=z25+z22→z42=z41+z33→z43=z40*z42→z44=z32+z38→z45=z44+z43→(¬ (z12=0))→¬ (z45=0) := by
 intro e6 e7 e8 e9 e10 e11 e12 e13 e14 e15 e16 e17 e18 e19 e20 e21 e22 e23 e24 e25 e26 e27 e28 e29 e30 e31 e32 e33 e34 e35 e36 e37 e38 e39 e40 e41 e42 e43 e44 e45 u0
 have AT : z17=(z4 - z2)*(z4 - z2)+(z5 - z3)*(z5 - z3) := by rw [e17,e16,e15,e14,e13]
 have BT : z22=(z0 - z4)*(z0 - z4)+(z1 - z5)*(z1 - z5) := by rw [e22,e21,e20,e19,e18]
 have CT : z25=(z2 - z0)*(z2 - z0)+(z3 - z1)*(z3 - z1) := by rw [e25,e24,e23,e7,e6]
 have DT : z12=(z2 - z0)*(z5 - z1) - (z3 - z1)*(z4 - z0) := by rw [e12,e11,e10,e9,e8,e7,e6]
 have aT : z32=(z17+z22+-z25)*(z17+z25+-z22) := by rw [e32,e31,e30,e29,e28,e27,e26]
 have bT : z38=(z22+z25+-z17)*(z22+z17+-z25) := by rw [e38,e37,e36,e35,e34,e33,e26]
 have cT : z43=(z25+z17+-z22)*(z25+z22+-z17) := by rw [e43,e42,e41,e40,e39,e33,e29]
 have WT : z32+z38+z43=4*(z12*z12) := by rw [aT,bT,cT,oc_1]; exact oc_w AT BT CT DT
 have nT : z32+z38+z43 ≠ 0 := by rw [WT]; exact mul_ne (by decide) (mul_ne u0 u0)
 have wT : z45=z32+z38+z43 := by rw [e45,e44]
 rw [wT]
 exact nT
theorem triangleFour_f2 {z0 z1 z2 z3 z4 z5 z6 z7 z8 z9 z10 z11 z12 z59 z60 z61 z62 z63 z64 z65 z66 z67 z68 z69 z70 z71 z72 z73 z74 z75 : Rat} : z6=z2-z0→z7=z3-z1→z8=z4-z0→z9=z5-z1→z10=z6*z9→z11=z7*z8→z12=z10-z11→z61=z2-z59→z62=z3-z60→z63=z4-z59→z64=z5-z60→z65=z61*z64→z66=z62*z63→z67=z65-z66→z68=z59-z0→z69=z60-z1→z70=z68*z9→z71=z69*z8→z72=z70-z71→z73=z6*z69→z74=z7*z68→z75=z73-z74→(¬ (z12=0))→(z67=0)→(z72=0)→((z59-z0)*(z4-z2)+(z60-z1)*(z5-z3)=0∧(z59-z2)*(z0-z4)+(z60-z3)*(z1-z5)=0)→¬ (z75=0) := by
 intro e6 e7 e8 e9 e10 e11 e12 e61 e62 e63 e64 e65 e66 e67 e68 e69 e70 e71 e72 e73 e74 e75 u0 u1 u2 F0
 obtain ⟨o1,o2⟩ := F0
 have O := oq_of (a := z0) (b := z1) (c := z2) (d := z3) (e := z4) (f := z5) (x := z59) (y := z60) o1 o2
 have d12 : z12=(z2 - z0)*(z5 - z1) - (z3 - z1)*(z4 - z0) := by rw [e12,e11,e10,e9,e8,e7,e6]
 rw [← d12] at O
 have d67 : z67=(z2 - z59)*(z5 - z60) - (z3 - z60)*(z4 - z59) := by rw [e67,e66,e65,e64,e63,e62,e61]
 rw [← d67] at O
 have d72 : z72=(z59 - z0)*(z5 - z1) - (z60 - z1)*(z4 - z0) := by rw [e72,e71,e70,e69,e68,e9,e8]
 rw [← d72] at O
 have d75 : z75=(z2 - z0)*(z60 - z1) - (z3 - z1)*(z59 - z0) := by rw [e75,e74,e73,e69,e68,e7,e6]
 rw [← d75] at O
 exact fun h => u0 (by rw [O.d,u1,u2,h]; decide +kernel)
theorem triangleFour_f3 {z0 z1 z2 z3 z4 z5 z6 z7 z8 z9 z10 z11 z12 z59 z60 z61 z62 z63 z64 z65 z66 z67 z68 z69 z70 z71 z72 z73 z74 z75 : Rat} : z6=z2-z0→z7=z3-z1→z8=z4-z0→z9=z5-z1→z10=z6*z9→z11=z7*z8→z12=z10-z11→z61=z2-z59→z62=z3-z60→z63=z4-z59→z64=z5-z60→z65=z61*z64→z66=z62*z63→z67=z65-z66→z68=z59-z0→z69=z60-z1→z70=z68*z9→z71=z69*z8→z72=z70-z71→z73=z6*z69→z74=z7*z68→z75=z73-z74→(¬ (z12=0))→(z67=0)→(¬ (z72=0))→((z59-z0)*(z4-z2)+(z60-z1)*(z5-z3)=0∧(z59-z2)*(z0-z4)+(z60-z3)*(z1-z5)=0)→z75=0 := by
 intro e6 e7 e8 e9 e10 e11 e12 e61 e62 e63 e64 e65 e66 e67 e68 e69 e70 e71 e72 e73 e74 e75 u0 u1 u2 F0
 obtain ⟨o1,o2⟩ := F0
 have O := oq_of (a := z0) (b := z1) (c := z2) (d := z3) (e := z4) (f := z5) (x := z59) (y := z60) o1 o2
 have d12 : z12=(z2 - z0)*(z5 - z1) - (z3 - z1)*(z4 - z0) := by rw [e12,e11,e10,e9,e8,e7,e6]
 rw [← d12] at O
 have d67 : z67=(z2 - z59)*(z5 - z60) - (z3 - z60)*(z4 - z59) := by rw [e67,e66,e65,e64,e63,e62,e61]
 rw [← d67] at O
 have d72 : z72=(z59 - z0)*(z5 - z1) - (z60 - z1)*(z4 - z0) := by rw [e72,e71,e70,e69,e68,e9,e8]
 rw [← d72] at O
 have d75 : z75=(z2 - z0)*(z60 - z1) - (z3 - z1)*(z59 - z0) := by rw [e75,e74,e73,e69,e68,e7,e6]
 rw [← d75] at O
 exact O.two u0 u1 u2
theorem triangleFour_f4 {z0 z1 z2 z3 z4 z5 z6 z7 z8 z9 z10 z11 z12 z59 z60 z61 z62 z63 z64 z65 z66 z67 z68 z69 z70 z71 z72 z73 z74 z75 : Rat} : z6=z2-z0→z7=z3-z1→z8=z4-z0→z9=z5-z1→z10=z6*z9→z11=z7*z8→z12=z10-z11→z61=z2-z59→z62=z3-z60→z63=z4-z59→z64=z5-z60→z65=z61*z64→z66=z62*z63→z67=z65-z66→z68=z59-z0→z69=z60-z1→z70=z68*z9→z71=z69*z8→z72=z70-z71→z73=z6*z69→z74=z7*z68→z75=z73-z74→(¬ (z12=0))→(¬ (z67=0))→(z72=0)→((z59-z0)*(z4-z2)+(z60-z1)*(z5-z3)=0∧(z59-z2)*(z0-z4)+(z60-z3)*(z1-z5)=0)→z75=0 := by
 intro e6 e7 e8 e9 e10 e11 e12 e61 e62 e63 e64 e65 e66 e67 e68 e69 e70 e71 e72 e73 e74 e75 u0 u1 u2 F0
 obtain ⟨o1,o2⟩ := F0
 have O := oq_of (a := z0) (b := z1) (c := z2) (d := z3) (e := z4) (f := z5) (x := z59) (y := z60) o1 o2
 have d12 : z12=(z2 - z0)*(z5 - z1) - (z3 - z1)*(z4 - z0) := by rw [e12,e11,e10,e9,e8,e7,e6]
 rw [← d12] at O
 have d67 : z67=(z2 - z59)*(z5 - z60) - (z3 - z60)*(z4 - z59) := by rw [e67,e66,e65,e64,e63,e62,e61]
 rw [← d67] at O
 have d72 : z72=(z59 - z0)*(z5 - z1) - (z60 - z1)*(z4 - z0) := by rw [e72,e71,e70,e69,e68,e9,e8]
 rw [← d72] at O
 have d75 : z75=(z2 - z0)*(z60 - z1) - (z3 - z1)*(z59 - z0) := by rw [e75,e74,e73,e69,e68,e7,e6]
 rw [← d75] at O
 exact O.three u0 u2 u1
theorem triangleFour_f5 {z0 z1 z2 z3 z4 z5 z6 z7 z8 z9 z10 z11 z12 z59 z60 z61 z62 z63 z64 z65 z66 z67 z68 z69 z70 z71 z72 z73 z74 z75 : Rat} : z6=z2-z0→z7=z3-z1→z8=z4-z0→z9=z5-z1→z10=z6*z9→z11=z7*z8→z12=z10-z11→z61=z2-z59→z62=z3-z60→z63=z4-z59→z64=z5-z60→z65=z61*z64→z66=z62*z63→z67=z65-z66→z68=z59-z0→z69=z60-z1→z70=z68*z9→z71=z69*z8→z72=z70-z71→z73=z6*z69→z74=z7*z68→z75=z73-z74→(¬ (z12=0))→(¬ (z67=0))→(¬ (z72=0))→((z59-z0)*(z4-z2)+(z60-z1)*(z5-z3)=0∧(z59-z2)*(z0-z4)+(z60-z3)*(z1-z5)=0)→¬ (z75=0) := by
 intro e6 e7 e8 e9 e10 e11 e12 e61 e62 e63 e64 e65 e66 e67 e68 e69 e70 e71 e72 e73 e74 e75 u0 u1 u2 F0
 obtain ⟨o1,o2⟩ := F0
 have O := oq_of (a := z0) (b := z1) (c := z2) (d := z3) (e := z4) (f := z5) (x := z59) (y := z60) o1 o2
 have d12 : z12=(z2 - z0)*(z5 - z1) - (z3 - z1)*(z4 - z0) := by rw [e12,e11,e10,e9,e8,e7,e6]
 rw [← d12] at O
 have d67 : z67=(z2 - z59)*(z5 - z60) - (z3 - z60)*(z4 - z59) := by rw [e67,e66,e65,e64,e63,e62,e61]
 rw [← d67] at O
 have d72 : z72=(z59 - z0)*(z5 - z1) - (z60 - z1)*(z4 - z0) := by rw [e72,e71,e70,e69,e68,e9,e8]
 rw [← d72] at O
 have d75 : z75=(z2 - z0)*(z60 - z1) - (z3 - z1)*(z59 - z0) := by rw [e75,e74,e73,e69,e68,e7,e6]
 rw [← d75] at O
 exact O.four u0 u1 u2
theorem triangleFour_r0 : (callB (sx Tryz.prog triangleFour_N [(0,12,0,1)] [] triangleFour_L triangleFour_C triangleFour_Z (prQ [8])) 5 4 triangleFour_A [] 0).map (·.1)=some (kB true) := by kernel_rfl
theorem triangleFour_r1 : (callB (sx Tryz.prog triangleFour_N [(0,12,0,0),(0,45,0,0),(0,67,0,1),(0,72,0,1),(0,75,0,0),(0,104,0,0),(6,119,120,1),(0,130,0,0),(0,157,0,0),(3,143,170,1),(3,144,171,1),(3,149,176,1)] [(45,[]),(154,[]),(156,[]),(117,[]),(158,[.inr (3,399,0,0,0),.inr (3,400,0,0,0)]),(158,[.inr (3,613,0,0,0),.inr (3,614,0,0,0)])] triangleFour_L triangleFour_C triangleFour_Z (prQ [8])) 9 4 triangleFour_A [] 0).map (·.1)=some (kB true) := by kernel_rfl
theorem triangleFour_r2 : (callB (sx Tryz.prog triangleFour_N [(0,12,0,0),(0,45,0,0),(0,67,0,1),(0,72,0,0),(0,201,0,0),(6,216,217,1),(0,130,0,0),(0,225,0,0),(3,143,238,1),(3,144,239,1),(3,149,244,1),(0,75,0,1)] [(45,[]),(154,[]),(156,[]),(117,[]),(158,[.inr (3,373,0,0,0),.inr (3,374,0,0,0)]),(158,[.inr (3,587,0,0,0),.inr (3,588,0,0,0)])] triangleFour_L triangleFour_C triangleFour_Z (prQ [8])) 9 4 triangleFour_A [] 0).map (·.1)=some (kB true) := by kernel_rfl
theorem triangleFour_r3 : (callB (sx Tryz.prog triangleFour_N [(0,12,0,0),(0,45,0,0),(0,67,0,0),(0,271,0,0),(6,286,287,1),(0,130,0,0),(0,295,0,0),(3,143,308,1),(3,144,309,1),(3,149,314,1),(0,72,0,1),(0,75,0,1)] [(45,[]),(154,[]),(156,[]),(117,[]),(158,[.inr (3,347,0,0,0),.inr (3,348,0,0,0)]),(158,[.inr (3,561,0,0,0),.inr (3,562,0,0,0)])] triangleFour_L triangleFour_C triangleFour_Z (prQ [8])) 9 4 triangleFour_A [] 0).map (·.1)=some (kB true) := by kernel_rfl
theorem triangleFour_r4 : (callB (sx Tryz.prog triangleFour_N [(0,12,0,0),(0,45,0,0),(0,67,0,0),(0,271,0,0),(6,286,287,1),(0,130,0,0),(0,295,0,0),(3,143,308,1),(3,144,309,1),(3,149,314,1),(0,72,0,0),(0,201,0,0),(6,216,217,1),(0,225,0,0),(3,143,238,1),(3,144,239,1),(3,149,244,1),(0,75,0,0),(0,104,0,0),(6,119,120,1),(0,157,0,0),(3,143,170,1),(3,144,171,1),(3,149,176,1)] [(45,[]),(154,[]),(156,[]),(117,[]),(158,[.inr (3,347,0,0,0),.inr (3,348,0,0,0)]),(158,[.inr (3,561,0,0,0),.inr (3,562,0,0,0)]),(158,[.inr (3,933,0,0,0),.inr (3,934,0,0,0)]),(158,[.inr (3,1147,0,0,0),.inr (3,1148,0,0,0)]),(158,[.inr (3,1519,0,0,0),.inr (3,1520,0,0,0)]),(158,[.inr (3,1733,0,0,0),.inr (3,1734,0,0,0)])] triangleFour_L triangleFour_C triangleFour_Z (prQ [8])) 9 4 triangleFour_A [] 0).map (·.1)=some (kB true) := by kernel_rfl
theorem triangleFour_An {a b : Prop} (x : a) (y : b) : a∧b := ⟨x,y⟩
theorem triangleFour_leaf {H : List (Nat × Nat × Nat × Nat)} {K : List (FuncId × List AC)} {k : Nat} {q : Nat→Rat} {σ : Nat→ByteArray} {args : List AV} {vs : List Value} {w : World} (hr : (callB (sx Tryz.prog triangleFour_N H K triangleFour_L triangleFour_C triangleFour_Z (prQ [8])) k 4 args [] 0).map (·.1)=some (kB true)) (hσ : ∀ j,(σ j).size≤1048576) (hq : ∀ (a : Nat) nd,triangleFour_N[a]? = some nd→q a=valN σ q nd) (h0 : ∀ a,triangleFour_N.length≤a→q a=0) (hH : hAll q H) (hp : PreS w) (hA : ∀ K,A2 (avOn (cOn (evS q σ) K (fun _ => none) w)) args vs) : Calls Tryz.prog 4 vs.toArray w fun e w' => Below w.heap.size w w'∧e=.returned (.bool true) :=
 run_toldQ' k (hy_ofA hσ triangleFour_wf triangleFour_sz triangleFour_lt triangleFour_cn hq h0 hH) (by simp [closed_cornered]) (by kernel_rfl) hr hp (hA K)
theorem triangleFour_walk {w : World} {tax taz tbx tbz tcx tcz : ByteArray}  (stax : tax.size≤1048576) (staz : taz.size≤1048576) (stbx : tbx.size≤1048576) (stbz : tbz.size≤1048576) (stcx : tcx.size≤1048576) (stcz : tcz.size≤1048576) (tab : Tab w) (mx : MaxL w) :
  Calls Tryz.prog 4 #[.agg #[.string tax,.string taz,.string tbx,.string tbz,.string tcx,.string tcz]] w fun e w' => Below w.heap.size w w'∧e=.returned (.bool true) := by
 have hσ : ∀ j,(sgOf [tax,taz,tbx,tbz,tcx,tcz] j).size≤1048576 := sgOf_size (by simp [stax,staz,stbx,stbz,stcx,stcz])
 obtain ⟨q,hq,h0⟩ := nodes_exist (sgOf [tax,taz,tbx,tbz,tcx,tcz]) triangleFour_N triangleFour_wf
 have hA : ∀ K,A2 (avOn (cOn (evS q (sgOf [tax,taz,tbx,tbz,tcx,tcz])) K (fun _ => none) w)) [(false,[(true,[.inr (2,0,0,0,0),.inr (2,1,0,0,0),.inr (2,2,0,0,0),.inr (2,3,0,0,0),.inr (2,4,0,0,0),.inr (2,5,0,0,0)])])] [.agg #[.string tax,.string taz,.string tbx,.string tbz,.string tcx,.string tcz]] := fun K => ⟨⟨⟨[.string tax,.string taz,.string tbx,.string tbz,.string tcx,.string tcz],rfl,rfl,rfl,rfl,rfl,rfl,rfl,trivial⟩,trivial⟩,trivial⟩
 have E6 : q 6=q 2 - q 0 := hq 6 _ rfl
 have E7 : q 7=q 3 - q 1 := hq 7 _ rfl
 have E8 : q 8=q 4 - q 0 := hq 8 _ rfl
 have E9 : q 9=q 5 - q 1 := hq 9 _ rfl
 have E10 : q 10=q 6*q 9 := hq 10 _ rfl
 have E11 : q 11=q 7*q 8 := hq 11 _ rfl
 have E12 : q 12=q 10 - q 11 := hq 12 _ rfl
 have E13 : q 13=q 4 - q 2 := hq 13 _ rfl
 have E14 : q 14=q 5 - q 3 := hq 14 _ rfl
 have E15 : q 15=q 13*q 13 := hq 15 _ rfl
 have E16 : q 16=q 14*q 14 := hq 16 _ rfl
 have E17 : q 17=q 15+q 16 := hq 17 _ rfl
 have E18 : q 18=q 0 - q 4 := hq 18 _ rfl
 have E19 : q 19=q 1 - q 5 := hq 19 _ rfl
 have E20 : q 20=q 18*q 18 := hq 20 _ rfl
 have E21 : q 21=q 19*q 19 := hq 21 _ rfl
 have E22 : q 22=q 20+q 21 := hq 22 _ rfl
 have E23 : q 23=q 6*q 6 := hq 23 _ rfl
 have E24 : q 24=q 7*q 7 := hq 24 _ rfl
 have E25 : q 25=q 23+q 24 := hq 25 _ rfl
 have E26 : q 26=-q 25 := hq 26 _ rfl
 have E27 : q 27=q 17+q 22 := hq 27 _ rfl
 have E28 : q 28=q 27+q 26 := hq 28 _ rfl
 have E29 : q 29=-q 22 := hq 29 _ rfl
 have E30 : q 30=q 17+q 25 := hq 30 _ rfl
 have E31 : q 31=q 30+q 29 := hq 31 _ rfl
 have E32 : q 32=q 28*q 31 := hq 32 _ rfl
 have E33 : q 33=-q 17 := hq 33 _ rfl
 have E34 : q 34=q 22+q 25 := hq 34 _ rfl
 have E35 : q 35=q 34+q 33 := hq 35 _ rfl
 have E36 : q 36=q 22+q 17 := hq 36 _ rfl
 have E37 : q 37=q 36+q 26 := hq 37 _ rfl
 have E38 : q 38=q 35*q 37 := hq 38 _ rfl
 have E39 : q 39=q 25+q 17 := hq 39 _ rfl
 have E40 : q 40=q 39+q 29 := hq 40 _ rfl
 have E41 : q 41=q 25+q 22 := hq 41 _ rfl
 have E42 : q 42=q 41+q 33 := hq 42 _ rfl
 have E43 : q 43=q 40*q 42 := hq 43 _ rfl
 have E44 : q 44=q 32+q 38 := hq 44 _ rfl
 have E45 : q 45=q 44+q 43 := hq 45 _ rfl
 have E46 : q 46=q 0*q 32 := hq 46 _ rfl
 have E47 : q 47=q 1*q 32 := hq 47 _ rfl
 have E48 : q 48=0 := (hq 48 _ rfl).trans triangleFour_c48
 have E49 : q 49=q 48+q 46 := hq 49 _ rfl
 have E50 : q 50=q 48+q 47 := hq 50 _ rfl
 have E51 : q 51=q 2*q 38 := hq 51 _ rfl
 have E52 : q 52=q 3*q 38 := hq 52 _ rfl
 have E53 : q 53=q 49+q 51 := hq 53 _ rfl
 have E54 : q 54=q 50+q 52 := hq 54 _ rfl
 have E55 : q 55=q 4*q 43 := hq 55 _ rfl
 have E56 : q 56=q 5*q 43 := hq 56 _ rfl
 have E57 : q 57=q 53+q 55 := hq 57 _ rfl
 have E58 : q 58=q 54+q 56 := hq 58 _ rfl
 have E59 : q 59=q 57 / q 45 := hq 59 _ rfl
 have E60 : q 60=q 58 / q 45 := hq 60 _ rfl
 have E61 : q 61=q 2 - q 59 := hq 61 _ rfl
 have E62 : q 62=q 3 - q 60 := hq 62 _ rfl
 have E63 : q 63=q 4 - q 59 := hq 63 _ rfl
 have E64 : q 64=q 5 - q 60 := hq 64 _ rfl
 have E65 : q 65=q 61*q 64 := hq 65 _ rfl
 have E66 : q 66=q 62*q 63 := hq 66 _ rfl
 have E67 : q 67=q 65 - q 66 := hq 67 _ rfl
 have E68 : q 68=q 59 - q 0 := hq 68 _ rfl
 have E69 : q 69=q 60 - q 1 := hq 69 _ rfl
 have E70 : q 70=q 68*q 9 := hq 70 _ rfl
 have E71 : q 71=q 69*q 8 := hq 71 _ rfl
 have E72 : q 72=q 70 - q 71 := hq 72 _ rfl
 have E73 : q 73=q 6*q 69 := hq 73 _ rfl
 have E74 : q 74=q 7*q 68 := hq 74 _ rfl
 have E75 : q 75=q 73 - q 74 := hq 75 _ rfl
 have E76 : q 76=q 59 - q 2 := hq 76 _ rfl
 have E77 : q 77=q 60 - q 3 := hq 77 _ rfl
 have E78 : q 78=q 76*q 76 := hq 78 _ rfl
 have E79 : q 79=q 77*q 77 := hq 79 _ rfl
 have E80 : q 80=q 78+q 79 := hq 80 _ rfl
 have E81 : q 81=q 0 - q 59 := hq 81 _ rfl
 have E82 : q 82=q 1 - q 60 := hq 82 _ rfl
 have E83 : q 83=q 81*q 81 := hq 83 _ rfl
 have E84 : q 84=q 82*q 82 := hq 84 _ rfl
 have E85 : q 85=q 83+q 84 := hq 85 _ rfl
 have E86 : q 86=q 80+q 85 := hq 86 _ rfl
 have E87 : q 87=q 86+q 26 := hq 87 _ rfl
 have E88 : q 88=-q 85 := hq 88 _ rfl
 have E89 : q 89=q 80+q 25 := hq 89 _ rfl
 have E90 : q 90=q 89+q 88 := hq 90 _ rfl
 have E91 : q 91=q 87*q 90 := hq 91 _ rfl
 have E92 : q 92=-q 80 := hq 92 _ rfl
 have E93 : q 93=q 85+q 25 := hq 93 _ rfl
 have E94 : q 94=q 93+q 92 := hq 94 _ rfl
 have E95 : q 95=q 85+q 80 := hq 95 _ rfl
 have E96 : q 96=q 95+q 26 := hq 96 _ rfl
 have E97 : q 97=q 94*q 96 := hq 97 _ rfl
 have E98 : q 98=q 25+q 80 := hq 98 _ rfl
 have E99 : q 99=q 98+q 88 := hq 99 _ rfl
 have E100 : q 100=q 25+q 85 := hq 100 _ rfl
 have E101 : q 101=q 100+q 92 := hq 101 _ rfl
 have E102 : q 102=q 99*q 101 := hq 102 _ rfl
 have E103 : q 103=q 91+q 97 := hq 103 _ rfl
 have E104 : q 104=q 103+q 102 := hq 104 _ rfl
 have E105 : q 105=q 0*q 91 := hq 105 _ rfl
 have E106 : q 106=q 1*q 91 := hq 106 _ rfl
 have E107 : q 107=q 48+q 105 := hq 107 _ rfl
 have E108 : q 108=q 48+q 106 := hq 108 _ rfl
 have E109 : q 109=q 2*q 97 := hq 109 _ rfl
 have E110 : q 110=q 3*q 97 := hq 110 _ rfl
 have E111 : q 111=q 107+q 109 := hq 111 _ rfl
 have E112 : q 112=q 108+q 110 := hq 112 _ rfl
 have E113 : q 113=q 59*q 102 := hq 113 _ rfl
 have E114 : q 114=q 60*q 102 := hq 114 _ rfl
 have E115 : q 115=q 111+q 113 := hq 115 _ rfl
 have E116 : q 116=q 112+q 114 := hq 116 _ rfl
 have E117 : q 117=q 115 / q 104 := hq 117 _ rfl
 have E118 : q 118=q 116 / q 104 := hq 118 _ rfl
 have E119 : q 119=q 117 - q 4 := hq 119 _ rfl
 have E120 : q 120=q 118 - q 5 := hq 120 _ rfl
 have E122 : q 122=16 := (hq 122 _ rfl).trans triangleFour_c122
 have E123 : q 123=q 17*q 35 := hq 123 _ rfl
 have E124 : q 124=q 123+q 32 := hq 124 _ rfl
 have E125 : q 125=q 22*q 40 := hq 125 _ rfl
 have E126 : q 126=q 125+q 38 := hq 126 _ rfl
 have E127 : q 127=q 25*q 28 := hq 127 _ rfl
 have E128 : q 128=q 127+q 43 := hq 128 _ rfl
 have E129 : q 129=q 124+q 126 := hq 129 _ rfl
 have E130 : q 130=q 129+q 128 := hq 130 _ rfl
 have E131 : q 131=q 0*q 124 := hq 131 _ rfl
 have E132 : q 132=q 1*q 124 := hq 132 _ rfl
 have E133 : q 133=q 48+q 131 := hq 133 _ rfl
 have E134 : q 134=q 48+q 132 := hq 134 _ rfl
 have E135 : q 135=q 2*q 126 := hq 135 _ rfl
 have E136 : q 136=q 3*q 126 := hq 136 _ rfl
 have E137 : q 137=q 133+q 135 := hq 137 _ rfl
 have E138 : q 138=q 134+q 136 := hq 138 _ rfl
 have E139 : q 139=q 4*q 128 := hq 139 _ rfl
 have E140 : q 140=q 5*q 128 := hq 140 _ rfl
 have E141 : q 141=q 137+q 139 := hq 141 _ rfl
 have E142 : q 142=q 138+q 140 := hq 142 _ rfl
 have E143 : q 143=q 141 / q 130 := hq 143 _ rfl
 have E144 : q 144=q 142 / q 130 := hq 144 _ rfl
 have E145 : q 145=q 17*q 22 := hq 145 _ rfl
 have E146 : q 146=q 145*q 25 := hq 146 _ rfl
 have E147 : q 147=q 12*q 12 := hq 147 _ rfl
 have E148 : q 148=q 146 / q 147 := hq 148 _ rfl
 have E149 : q 149=q 148 / q 122 := hq 149 _ rfl
 have E150 : q 150=q 80*q 94 := hq 150 _ rfl
 have E151 : q 151=q 150+q 91 := hq 151 _ rfl
 have E152 : q 152=q 85*q 99 := hq 152 _ rfl
 have E153 : q 153=q 152+q 97 := hq 153 _ rfl
 have E154 : q 154=q 25*q 87 := hq 154 _ rfl
 have E155 : q 155=q 154+q 102 := hq 155 _ rfl
 have E156 : q 156=q 151+q 153 := hq 156 _ rfl
 have E157 : q 157=q 156+q 155 := hq 157 _ rfl
 have E158 : q 158=q 0*q 151 := hq 158 _ rfl
 have E159 : q 159=q 1*q 151 := hq 159 _ rfl
 have E160 : q 160=q 48+q 158 := hq 160 _ rfl
 have E161 : q 161=q 48+q 159 := hq 161 _ rfl
 have E162 : q 162=q 2*q 153 := hq 162 _ rfl
 have E163 : q 163=q 3*q 153 := hq 163 _ rfl
 have E164 : q 164=q 160+q 162 := hq 164 _ rfl
 have E165 : q 165=q 161+q 163 := hq 165 _ rfl
 have E166 : q 166=q 59*q 155 := hq 166 _ rfl
 have E167 : q 167=q 60*q 155 := hq 167 _ rfl
 have E168 : q 168=q 164+q 166 := hq 168 _ rfl
 have E169 : q 169=q 165+q 167 := hq 169 _ rfl
 have E170 : q 170=q 168 / q 157 := hq 170 _ rfl
 have E171 : q 171=q 169 / q 157 := hq 171 _ rfl
 have E172 : q 172=q 80*q 85 := hq 172 _ rfl
 have E173 : q 173=q 172*q 25 := hq 173 _ rfl
 have E174 : q 174=q 75*q 75 := hq 174 _ rfl
 have E175 : q 175=q 173 / q 174 := hq 175 _ rfl
 have E176 : q 176=q 175 / q 122 := hq 176 _ rfl
 have E177 : q 177=q 63*q 63 := hq 177 _ rfl
 have E178 : q 178=q 64*q 64 := hq 178 _ rfl
 have E179 : q 179=q 177+q 178 := hq 179 _ rfl
 have E180 : q 180=q 68*q 68 := hq 180 _ rfl
 have E181 : q 181=q 69*q 69 := hq 181 _ rfl
 have E182 : q 182=q 180+q 181 := hq 182 _ rfl
 have E183 : q 183=-q 182 := hq 183 _ rfl
 have E184 : q 184=q 179+q 22 := hq 184 _ rfl
 have E185 : q 185=q 184+q 183 := hq 185 _ rfl
 have E186 : q 186=q 179+q 182 := hq 186 _ rfl
 have E187 : q 187=q 186+q 29 := hq 187 _ rfl
 have E188 : q 188=q 185*q 187 := hq 188 _ rfl
 have E189 : q 189=-q 179 := hq 189 _ rfl
 have E190 : q 190=q 22+q 182 := hq 190 _ rfl
 have E191 : q 191=q 190+q 189 := hq 191 _ rfl
 have E192 : q 192=q 22+q 179 := hq 192 _ rfl
 have E193 : q 193=q 192+q 183 := hq 193 _ rfl
 have E194 : q 194=q 191*q 193 := hq 194 _ rfl
 have E195 : q 195=q 182+q 179 := hq 195 _ rfl
 have E196 : q 196=q 195+q 29 := hq 196 _ rfl
 have E197 : q 197=q 182+q 22 := hq 197 _ rfl
 have E198 : q 198=q 197+q 189 := hq 198 _ rfl
 have E199 : q 199=q 196*q 198 := hq 199 _ rfl
 have E200 : q 200=q 188+q 194 := hq 200 _ rfl
 have E201 : q 201=q 200+q 199 := hq 201 _ rfl
 have E202 : q 202=q 0*q 188 := hq 202 _ rfl
 have E203 : q 203=q 1*q 188 := hq 203 _ rfl
 have E204 : q 204=q 48+q 202 := hq 204 _ rfl
 have E205 : q 205=q 48+q 203 := hq 205 _ rfl
 have E206 : q 206=q 59*q 194 := hq 206 _ rfl
 have E207 : q 207=q 60*q 194 := hq 207 _ rfl
 have E208 : q 208=q 204+q 206 := hq 208 _ rfl
 have E209 : q 209=q 205+q 207 := hq 209 _ rfl
 have E210 : q 210=q 4*q 199 := hq 210 _ rfl
 have E211 : q 211=q 5*q 199 := hq 211 _ rfl
 have E212 : q 212=q 208+q 210 := hq 212 _ rfl
 have E213 : q 213=q 209+q 211 := hq 213 _ rfl
 have E214 : q 214=q 212 / q 201 := hq 214 _ rfl
 have E215 : q 215=q 213 / q 201 := hq 215 _ rfl
 have E216 : q 216=q 214 - q 2 := hq 216 _ rfl
 have E217 : q 217=q 215 - q 3 := hq 217 _ rfl
 have E218 : q 218=q 179*q 191 := hq 218 _ rfl
 have E219 : q 219=q 218+q 188 := hq 219 _ rfl
 have E220 : q 220=q 22*q 196 := hq 220 _ rfl
 have E221 : q 221=q 220+q 194 := hq 221 _ rfl
 have E222 : q 222=q 182*q 185 := hq 222 _ rfl
 have E223 : q 223=q 222+q 199 := hq 223 _ rfl
 have E224 : q 224=q 219+q 221 := hq 224 _ rfl
 have E225 : q 225=q 224+q 223 := hq 225 _ rfl
 have E226 : q 226=q 0*q 219 := hq 226 _ rfl
 have E227 : q 227=q 1*q 219 := hq 227 _ rfl
 have E228 : q 228=q 48+q 226 := hq 228 _ rfl
 have E229 : q 229=q 48+q 227 := hq 229 _ rfl
 have E230 : q 230=q 59*q 221 := hq 230 _ rfl
 have E231 : q 231=q 60*q 221 := hq 231 _ rfl
 have E232 : q 232=q 228+q 230 := hq 232 _ rfl
 have E233 : q 233=q 229+q 231 := hq 233 _ rfl
 have E234 : q 234=q 4*q 223 := hq 234 _ rfl
 have E235 : q 235=q 5*q 223 := hq 235 _ rfl
 have E236 : q 236=q 232+q 234 := hq 236 _ rfl
 have E237 : q 237=q 233+q 235 := hq 237 _ rfl
 have E238 : q 238=q 236 / q 225 := hq 238 _ rfl
 have E239 : q 239=q 237 / q 225 := hq 239 _ rfl
 have E240 : q 240=q 179*q 22 := hq 240 _ rfl
 have E241 : q 241=q 240*q 182 := hq 241 _ rfl
 have E242 : q 242=q 72*q 72 := hq 242 _ rfl
 have E243 : q 243=q 241 / q 242 := hq 243 _ rfl
 have E244 : q 244=q 243 / q 122 := hq 244 _ rfl
 have E245 : q 245=q 59 - q 4 := hq 245 _ rfl
 have E246 : q 246=q 60 - q 5 := hq 246 _ rfl
 have E247 : q 247=q 245*q 245 := hq 247 _ rfl
 have E248 : q 248=q 246*q 246 := hq 248 _ rfl
 have E249 : q 249=q 247+q 248 := hq 249 _ rfl
 have E250 : q 250=q 61*q 61 := hq 250 _ rfl
 have E251 : q 251=q 62*q 62 := hq 251 _ rfl
 have E252 : q 252=q 250+q 251 := hq 252 _ rfl
 have E253 : q 253=-q 252 := hq 253 _ rfl
 have E254 : q 254=q 17+q 249 := hq 254 _ rfl
 have E255 : q 255=q 254+q 253 := hq 255 _ rfl
 have E256 : q 256=-q 249 := hq 256 _ rfl
 have E257 : q 257=q 17+q 252 := hq 257 _ rfl
 have E258 : q 258=q 257+q 256 := hq 258 _ rfl
 have E259 : q 259=q 255*q 258 := hq 259 _ rfl
 have E260 : q 260=q 249+q 252 := hq 260 _ rfl
 have E261 : q 261=q 260+q 33 := hq 261 _ rfl
 have E262 : q 262=q 249+q 17 := hq 262 _ rfl
 have E263 : q 263=q 262+q 253 := hq 263 _ rfl
 have E264 : q 264=q 261*q 263 := hq 264 _ rfl
 have E265 : q 265=q 252+q 17 := hq 265 _ rfl
 have E266 : q 266=q 265+q 256 := hq 266 _ rfl
 have E267 : q 267=q 252+q 249 := hq 267 _ rfl
 have E268 : q 268=q 267+q 33 := hq 268 _ rfl
 have E269 : q 269=q 266*q 268 := hq 269 _ rfl
 have E270 : q 270=q 259+q 264 := hq 270 _ rfl
 have E271 : q 271=q 270+q 269 := hq 271 _ rfl
 have E272 : q 272=q 59*q 259 := hq 272 _ rfl
 have E273 : q 273=q 60*q 259 := hq 273 _ rfl
 have E274 : q 274=q 48+q 272 := hq 274 _ rfl
 have E275 : q 275=q 48+q 273 := hq 275 _ rfl
 have E276 : q 276=q 2*q 264 := hq 276 _ rfl
 have E277 : q 277=q 3*q 264 := hq 277 _ rfl
 have E278 : q 278=q 274+q 276 := hq 278 _ rfl
 have E279 : q 279=q 275+q 277 := hq 279 _ rfl
 have E280 : q 280=q 4*q 269 := hq 280 _ rfl
 have E281 : q 281=q 5*q 269 := hq 281 _ rfl
 have E282 : q 282=q 278+q 280 := hq 282 _ rfl
 have E283 : q 283=q 279+q 281 := hq 283 _ rfl
 have E284 : q 284=q 282 / q 271 := hq 284 _ rfl
 have E285 : q 285=q 283 / q 271 := hq 285 _ rfl
 have E286 : q 286=q 284 - q 0 := hq 286 _ rfl
 have E287 : q 287=q 285 - q 1 := hq 287 _ rfl
 have E288 : q 288=q 17*q 261 := hq 288 _ rfl
 have E289 : q 289=q 288+q 259 := hq 289 _ rfl
 have E290 : q 290=q 249*q 266 := hq 290 _ rfl
 have E291 : q 291=q 290+q 264 := hq 291 _ rfl
 have E292 : q 292=q 252*q 255 := hq 292 _ rfl
 have E293 : q 293=q 292+q 269 := hq 293 _ rfl
 have E294 : q 294=q 289+q 291 := hq 294 _ rfl
 have E295 : q 295=q 294+q 293 := hq 295 _ rfl
 have E296 : q 296=q 59*q 289 := hq 296 _ rfl
 have E297 : q 297=q 60*q 289 := hq 297 _ rfl
 have E298 : q 298=q 48+q 296 := hq 298 _ rfl
 have E299 : q 299=q 48+q 297 := hq 299 _ rfl
 have E300 : q 300=q 2*q 291 := hq 300 _ rfl
 have E301 : q 301=q 3*q 291 := hq 301 _ rfl
 have E302 : q 302=q 298+q 300 := hq 302 _ rfl
 have E303 : q 303=q 299+q 301 := hq 303 _ rfl
 have E304 : q 304=q 4*q 293 := hq 304 _ rfl
 have E305 : q 305=q 5*q 293 := hq 305 _ rfl
 have E306 : q 306=q 302+q 304 := hq 306 _ rfl
 have E307 : q 307=q 303+q 305 := hq 307 _ rfl
 have E308 : q 308=q 306 / q 295 := hq 308 _ rfl
 have E309 : q 309=q 307 / q 295 := hq 309 _ rfl
 have E310 : q 310=q 17*q 249 := hq 310 _ rfl
 have E311 : q 311=q 310*q 252 := hq 311 _ rfl
 have E312 : q 312=q 67*q 67 := hq 312 _ rfl
 have E313 : q 313=q 311 / q 312 := hq 313 _ rfl
 have E314 : q 314=q 313 / q 122 := hq 314 _ rfl
 by_cases b12 : q 12=0
 ·
  exact triangleFour_leaf triangleFour_r0 hσ hq h0 (triangleFour_An (hT b12) trivial) ⟨tab,mx⟩ hA
 ·
  have b45 : ¬ (q 45=0) := triangleFour_f1 E6 E7 E8 E9 E10 E11 E12 E13 E14 E15 E16 E17 E18 E19 E20 E21 E22 E23 E24 E25 E26 E27 E28 E29 E30 E31 E32 E33 E34 E35 E36 E37 E38 E39 E40 E41 E42 E43 E44 E45 b12
  by_cases b67 : q 67=0
  ·
   by_cases b72 : q 72=0
   ·
    have b75 : ¬ (q 75=0) := triangleFour_f2 E6 E7 E8 E9 E10 E11 E12 E61 E62 E63 E64 E65 E66 E67 E68 E69 E70 E71 E72 E73 E74 E75 b12 b67 b72 (triangleFour_H E6 E7 E8 E9 E10 E11 E12 E13 E14 E15 E16 E17 E18 E19 E20 E21 E22 E23 E24 E25 E26 E27 E28 E29 E30 E31 E32 E33 E34 E35 E36 E37 E38 E39 E40 E41 E42 E43 E44 E45 E46 E47 E48 E49 E50 E51 E52 E53 E54 E55 E56 E57 E58 E59 E60 b12)
    have gU2 := triangleFour_U2 E6 E7 E8 E9 E10 E11 E12 E13 E14 E15 E16 E17 E18 E19 E20 E21 E22 E23 E24 E25 E26 E27 E28 E29 E30 E31 E32 E33 E34 E35 E36 E37 E38 E39 E40 E41 E42 E43 E44 E45 E46 E47 E48 E49 E50 E51 E52 E53 E54 E55 E56 E57 E58 E59 E60 E61 E62 E63 E64 E65 E66 E67 E68 E69 E70 E71 E72 E73 E74 E75 E76 E77 E78 E79 E80 E81 E82 E83 E84 E85 E86 E87 E88 E89 E90 E91 E92 E93 E94 E95 E96 E97 E98 E99 E100 E101 E102 E103 E104 E105 E106 E107 E108 E109 E110 E111 E112 E113 E114 E115 E116 E117 E118 E119 E120 E122 E123 E124 E125 E126 E127 E128 E129 E130 E131 E132 E133 E134 E135 E136 E137 E138 E139 E140 E141 E142 E143 E144 E145 E146 E147 E148 E149 E150 E151 E152 E153 E154 E155 E156 E157 E158 E159 E160 E161 E162 E163 E164 E165 E166 E167 E168 E169 E170 E171 E172 E173 E174 E175 E176 b12 b75
    have b104 : ¬ (q 104=0) := gU2.1
    have a_6_119_120 : q 119=0∧q 120=0 := gU2.2.1
    have b130 : ¬ (q 130=0) := gU2.2.2.1
    have b157 : ¬ (q 157=0) := gU2.2.2.2.1
    have a_3_143_170 : q 143=q 170 := gU2.2.2.2.2.1
    have a_3_144_171 : q 144=q 171 := gU2.2.2.2.2.2.1
    have a_3_149_176 : q 149=q 176 := gU2.2.2.2.2.2.2
    exact triangleFour_leaf triangleFour_r1 hσ hq h0 (triangleFour_An (hF b12) (triangleFour_An (hF b45) (triangleFour_An (hT b67) (triangleFour_An (hT b72) (triangleFour_An (hF b75) (triangleFour_An (hF b104) (triangleFour_An (hT a_6_119_120) (triangleFour_An (hF b130) (triangleFour_An (hF b157) (triangleFour_An (hT a_3_143_170) (triangleFour_An (hT a_3_144_171) (triangleFour_An (hT a_3_149_176) trivial)))))))))))) ⟨tab,mx⟩ hA
   ·
    have gU1 := triangleFour_U1 E6 E7 E8 E9 E10 E11 E12 E13 E14 E15 E16 E17 E18 E19 E20 E21 E22 E23 E24 E25 E26 E27 E28 E29 E30 E31 E32 E33 E34 E35 E36 E37 E38 E39 E40 E41 E42 E43 E44 E45 E46 E47 E48 E49 E50 E51 E52 E53 E54 E55 E56 E57 E58 E59 E60 E61 E62 E63 E64 E65 E66 E67 E68 E69 E70 E71 E72 E73 E74 E75 E122 E123 E124 E125 E126 E127 E128 E129 E130 E131 E132 E133 E134 E135 E136 E137 E138 E139 E140 E141 E142 E143 E144 E145 E146 E147 E148 E149 E177 E178 E179 E180 E181 E182 E183 E184 E185 E186 E187 E188 E189 E190 E191 E192 E193 E194 E195 E196 E197 E198 E199 E200 E201 E202 E203 E204 E205 E206 E207 E208 E209 E210 E211 E212 E213 E214 E215 E216 E217 E218 E219 E220 E221 E222 E223 E224 E225 E226 E227 E228 E229 E230 E231 E232 E233 E234 E235 E236 E237 E238 E239 E240 E241 E242 E243 E244 b12 b72
    have b201 : ¬ (q 201=0) := gU1.1
    have a_6_216_217 : q 216=0∧q 217=0 := gU1.2.1
    have b130 : ¬ (q 130=0) := gU1.2.2.1
    have b225 : ¬ (q 225=0) := gU1.2.2.2.1
    have a_3_143_238 : q 143=q 238 := gU1.2.2.2.2.1
    have a_3_144_239 : q 144=q 239 := gU1.2.2.2.2.2.1
    have a_3_149_244 : q 149=q 244 := gU1.2.2.2.2.2.2
    have b75 : q 75=0 := triangleFour_f3 E6 E7 E8 E9 E10 E11 E12 E61 E62 E63 E64 E65 E66 E67 E68 E69 E70 E71 E72 E73 E74 E75 b12 b67 b72 (triangleFour_H E6 E7 E8 E9 E10 E11 E12 E13 E14 E15 E16 E17 E18 E19 E20 E21 E22 E23 E24 E25 E26 E27 E28 E29 E30 E31 E32 E33 E34 E35 E36 E37 E38 E39 E40 E41 E42 E43 E44 E45 E46 E47 E48 E49 E50 E51 E52 E53 E54 E55 E56 E57 E58 E59 E60 b12)
    exact triangleFour_leaf triangleFour_r2 hσ hq h0 (triangleFour_An (hF b12) (triangleFour_An (hF b45) (triangleFour_An (hT b67) (triangleFour_An (hF b72) (triangleFour_An (hF b201) (triangleFour_An (hT a_6_216_217) (triangleFour_An (hF b130) (triangleFour_An (hF b225) (triangleFour_An (hT a_3_143_238) (triangleFour_An (hT a_3_144_239) (triangleFour_An (hT a_3_149_244) (triangleFour_An (hT b75) trivial)))))))))))) ⟨tab,mx⟩ hA
  ·
   have gU0 := triangleFour_U0 E6 E7 E8 E9 E10 E11 E12 E13 E14 E15 E16 E17 E18 E19 E20 E21 E22 E23 E24 E25 E26 E27 E28 E29 E30 E31 E32 E33 E34 E35 E36 E37 E38 E39 E40 E41 E42 E43 E44 E45 E46 E47 E48 E49 E50 E51 E52 E53 E54 E55 E56 E57 E58 E59 E60 E61 E62 E63 E64 E65 E66 E67 E68 E69 E70 E71 E72 E73 E74 E75 E122 E123 E124 E125 E126 E127 E128 E129 E130 E131 E132 E133 E134 E135 E136 E137 E138 E139 E140 E141 E142 E143 E144 E145 E146 E147 E148 E149 E245 E246 E247 E248 E249 E250 E251 E252 E253 E254 E255 E256 E257 E258 E259 E260 E261 E262 E263 E264 E265 E266 E267 E268 E269 E270 E271 E272 E273 E274 E275 E276 E277 E278 E279 E280 E281 E282 E283 E284 E285 E286 E287 E288 E289 E290 E291 E292 E293 E294 E295 E296 E297 E298 E299 E300 E301 E302 E303 E304 E305 E306 E307 E308 E309 E310 E311 E312 E313 E314 b12 b67
   have b271 : ¬ (q 271=0) := gU0.1
   have a_6_286_287 : q 286=0∧q 287=0 := gU0.2.1
   have b130 : ¬ (q 130=0) := gU0.2.2.1
   have b295 : ¬ (q 295=0) := gU0.2.2.2.1
   have a_3_143_308 : q 143=q 308 := gU0.2.2.2.2.1
   have a_3_144_309 : q 144=q 309 := gU0.2.2.2.2.2.1
   have a_3_149_314 : q 149=q 314 := gU0.2.2.2.2.2.2
   by_cases b72 : q 72=0
   ·
    have b75 : q 75=0 := triangleFour_f4 E6 E7 E8 E9 E10 E11 E12 E61 E62 E63 E64 E65 E66 E67 E68 E69 E70 E71 E72 E73 E74 E75 b12 b67 b72 (triangleFour_H E6 E7 E8 E9 E10 E11 E12 E13 E14 E15 E16 E17 E18 E19 E20 E21 E22 E23 E24 E25 E26 E27 E28 E29 E30 E31 E32 E33 E34 E35 E36 E37 E38 E39 E40 E41 E42 E43 E44 E45 E46 E47 E48 E49 E50 E51 E52 E53 E54 E55 E56 E57 E58 E59 E60 b12)
    exact triangleFour_leaf triangleFour_r3 hσ hq h0 (triangleFour_An (hF b12) (triangleFour_An (hF b45) (triangleFour_An (hF b67) (triangleFour_An (hF b271) (triangleFour_An (hT a_6_286_287) (triangleFour_An (hF b130) (triangleFour_An (hF b295) (triangleFour_An (hT a_3_143_308) (triangleFour_An (hT a_3_144_309) (triangleFour_An (hT a_3_149_314) (triangleFour_An (hT b72) (triangleFour_An (hT b75) trivial)))))))))))) ⟨tab,mx⟩ hA
   ·
    have gU1 := triangleFour_U1 E6 E7 E8 E9 E10 E11 E12 E13 E14 E15 E16 E17 E18 E19 E20 E21 E22 E23 E24 E25 E26 E27 E28 E29 E30 E31 E32 E33 E34 E35 E36 E37 E38 E39 E40 E41 E42 E43 E44 E45 E46 E47 E48 E49 E50 E51 E52 E53 E54 E55 E56 E57 E58 E59 E60 E61 E62 E63 E64 E65 E66 E67 E68 E69 E70 E71 E72 E73 E74 E75 E122 E123 E124 E125 E126 E127 E128 E129 E130 E131 E132 E133 E134 E135 E136 E137 E138 E139 E140 E141 E142 E143 E144 E145 E146 E147 E148 E149 E177 E178 E179 E180 E181 E182 E183 E184 E185 E186 E187 E188 E189 E190 E191 E192 E193 E194 E195 E196 E197 E198 E199 E200 E201 E202 E203 E204 E205 E206 E207 E208 E209 E210 E211 E212 E213 E214 E215 E216 E217 E218 E219 E220 E221 E222 E223 E224 E225 E226 E227 E228 E229 E230 E231 E232 E233 E234 E235 E236 E237 E238 E239 E240 E241 E242 E243 E244 b12 b72
    have b201 : ¬ (q 201=0) := gU1.1
    have a_6_216_217 : q 216=0∧q 217=0 := gU1.2.1
    have b225 : ¬ (q 225=0) := gU1.2.2.2.1
    have a_3_143_238 : q 143=q 238 := gU1.2.2.2.2.1
    have a_3_144_239 : q 144=q 239 := gU1.2.2.2.2.2.1
    have a_3_149_244 : q 149=q 244 := gU1.2.2.2.2.2.2
    have b75 : ¬ (q 75=0) := triangleFour_f5 E6 E7 E8 E9 E10 E11 E12 E61 E62 E63 E64 E65 E66 E67 E68 E69 E70 E71 E72 E73 E74 E75 b12 b67 b72 (triangleFour_H E6 E7 E8 E9 E10 E11 E12 E13 E14 E15 E16 E17 E18 E19 E20 E21 E22 E23 E24 E25 E26 E27 E28 E29 E30 E31 E32 E33 E34 E35 E36 E37 E38 E39 E40 E41 E42 E43 E44 E45 E46 E47 E48 E49 E50 E51 E52 E53 E54 E55 E56 E57 E58 E59 E60 b12)
    have gU2 := triangleFour_U2 E6 E7 E8 E9 E10 E11 E12 E13 E14 E15 E16 E17 E18 E19 E20 E21 E22 E23 E24 E25 E26 E27 E28 E29 E30 E31 E32 E33 E34 E35 E36 E37 E38 E39 E40 E41 E42 E43 E44 E45 E46 E47 E48 E49 E50 E51 E52 E53 E54 E55 E56 E57 E58 E59 E60 E61 E62 E63 E64 E65 E66 E67 E68 E69 E70 E71 E72 E73 E74 E75 E76 E77 E78 E79 E80 E81 E82 E83 E84 E85 E86 E87 E88 E89 E90 E91 E92 E93 E94 E95 E96 E97 E98 E99 E100 E101 E102 E103 E104 E105 E106 E107 E108 E109 E110 E111 E112 E113 E114 E115 E116 E117 E118 E119 E120 E122 E123 E124 E125 E126 E127 E128 E129 E130 E131 E132 E133 E134 E135 E136 E137 E138 E139 E140 E141 E142 E143 E144 E145 E146 E147 E148 E149 E150 E151 E152 E153 E154 E155 E156 E157 E158 E159 E160 E161 E162 E163 E164 E165 E166 E167 E168 E169 E170 E171 E172 E173 E174 E175 E176 b12 b75
    have b104 : ¬ (q 104=0) := gU2.1
    have a_6_119_120 : q 119=0∧q 120=0 := gU2.2.1
    have b157 : ¬ (q 157=0) := gU2.2.2.2.1
    have a_3_143_170 : q 143=q 170 := gU2.2.2.2.2.1
    have a_3_144_171 : q 144=q 171 := gU2.2.2.2.2.2.1
    have a_3_149_176 : q 149=q 176 := gU2.2.2.2.2.2.2
    exact triangleFour_leaf triangleFour_r4 hσ hq h0 (triangleFour_An (hF b12) (triangleFour_An (hF b45) (triangleFour_An (hF b67) (triangleFour_An (hF b271) (triangleFour_An (hT a_6_286_287) (triangleFour_An (hF b130) (triangleFour_An (hF b295) (triangleFour_An (hT a_3_143_308) (triangleFour_An (hT a_3_144_309) (triangleFour_An (hT a_3_149_314) (triangleFour_An (hF b72) (triangleFour_An (hF b201) (triangleFour_An (hT a_6_216_217) (triangleFour_An (hF b225) (triangleFour_An (hT a_3_143_238) (triangleFour_An (hT a_3_144_239) (triangleFour_An (hT a_3_149_244) (triangleFour_An (hF b75) (triangleFour_An (hF b104) (triangleFour_An (hT a_6_119_120) (triangleFour_An (hF b157) (triangleFour_An (hT a_3_143_170) (triangleFour_An (hT a_3_144_171) (triangleFour_An (hT a_3_149_176) trivial)))))))))))))))))))))))) ⟨tab,mx⟩ hA
end Go.Proofs.YtdchineebfdkcaaGreatDoor
